import Derived.Test.YtjlblidnfebmiaaGreatDoorF11
import Derived.Sort.Statements
import Derived.WideShapes
import Derived.WideAt
import Derived.Shelf.SlicesG.Cmp
import Derived.Ground.SlgcProg
import Derived.Maps.OwnSet
import Derived.StringKeys
import Derived.RangeFuncNested
import Derived.RangeFuncBound
import Derived.RangeFuncCalls
import Derived.RangeFuncLeaves
import Derived.RangeFuncBox
import Derived.Shelf.Abstract
import Derived.Shelf.RegionOpen
import Derived.OwnWalkIn
import Derived.TacticsInMore
import Derived.LoopNIn
import Derived.LoopIn
import Derived.Maps.OwnIn
import Derived.Laws.EntriesVeiled
set_option maxRecDepth 100000
set_option maxHeartbeats 16000000
open Go Go.RowKit Go.Shelf
attribute [local go_sem] Oper.semAt_some
open Go.Proofs.Tryz
namespace Go.Proofs.YtjlblidnfebmiaaGreatDoor
variable{g i:Nat}{l:List aj}{most:Int}{us:List ap}
section
open Go.Sort
def cN (us:List ap) (nm:ByteArray):Int:=((us.find? λu=>decide (u.kind=nm)).map ap.many).getD 0
structure kV where
 ab:Int
 pr:Int
 nm:ByteArray
instance:Inhabited kV:=⟨⟨0,0,ByteArray.empty⟩⟩
def dR (x:Int):Int:=if 0<x then 0 else 1
def bo (a b:ByteArray):Bool:=Op.bytesLess a.toList b.toList
def bK (a b:ByteArray):Int:=if bo a b=true then -1 else if bo b a=true then 1 else 0
def dG (a b:Int):Int:=if a=0 then b else a
def rt (a b:kV):Int:=dG (Lib.compareInt (dR a.ab) (dR b.ab)) (dG (Lib.compareInt a.pr b.pr) (dG (Lib.compareInt b.ab a.ab) (bK a.nm b.nm)))
def kt (a b:kV):Bool:=decide (rt a b<0)
def fI (us:List ap) (p:aj):kV:=⟨cN us p.nm - cV p.cs p.cs.length,p.pr,p.nm⟩
theorem ue:∀a b:List UInt8,Op.bytesLess a b=bytesBefore a b
 | [],[]=>rfl
 | _ :: _,[]=>rfl
 | [],_ :: _=>rfl
 | a :: x,b :: y=>by rw[Op.bytesLess,bytesBefore,ue x y]
def dz (b:Bool):Int:=if b=true then 1 else 0
theorem iJ(b:Bool):dz b=0\/dz b=1:=by cases b <;> simp[dz]
theorem uf(a:ByteArray):dz (bo a a)=0:=by simp[dz,bo,ue,WideAt.bytes_irrefl]
theorem ru(a b c:ByteArray):dz (bo a b)=1->dz (bo b c)=1->dz (bo a c)=1:=by
 simp only[dz,bo,ue];intro d e;have Ha:bytesBefore a.toList b.toList=true:=by
  rcases Bool.eq_false_or_eq_true (bytesBefore a.toList b.toList) with h|h
  ·exact h
  ·rw[h] at d;cases d
 have Hb:bytesBefore b.toList c.toList=true:=by
  rcases Bool.eq_false_or_eq_true (bytesBefore b.toList c.toList) with h|h
  ·exact h
  ·rw[h] at e;cases e
 rw[WideShapes.bytes_trans _ _ _ Ha Hb];rfl
theorem Sb{a b:ByteArray}(h:a.toList=b.toList):a=b:=by
 rw[Qs,Qs] at h;exact ByteArray.ext (Array.toList_inj.mp h)
theorem ug(a b:ByteArray):dz (bo a b)=0->dz (bo b a)=0->a=b:=by
 simp only[dz,bo,ue];intro c d
 by_cases e:a.toList=b.toList
 ·exact Sb e
 ·rcases WideAt.bytes_total _ _ e with h|h
  ·rw[h] at c;cases c
  ·rw[h] at d;cases d
theorem xJ(a b:ByteArray):dz (bo a b)=1->dz (bo b a)=0:=by grind[iJ,bo,ru,uf]
theorem lN(a b c:ByteArray):dz (bo a b)=0->dz (bo b c)=0->dz (bo a c)=0:=by grind[iJ,bo,ug,ru]
theorem D7(a b:kV):kt a b=true↔(dR a.ab<dR b.ab\/(dR a.ab=dR b.ab/\(a.pr<b.pr\/(a.pr=b.pr/\(b.ab<a.ab\/(a.ab=b.ab/\dz (bo a.nm b.nm)=1)))))):=by
 unfold kt rt dG Lib.compareInt bK;have hs:=xJ a.nm b.nm;generalize dR a.ab=f;generalize dR b.ab=e;generalize bo a.nm b.nm=d at *;generalize bo b.nm a.nm=c at *;rw[decide_eq_true_iff];cases d <;> cases c <;> simp[dz] at*<;> (repeat' split) <;> omega
theorem xK(a b:kV):kt a b=false↔¬ (dR a.ab<dR b.ab\/(dR a.ab=dR b.ab/\(a.pr<b.pr\/(a.pr=b.pr/\(b.ab<a.ab\/(a.ab=b.ab/\dz (bo a.nm b.nm)=1)))))):=by
 rw[<- D7];simp
theorem xL:SWO kt where
 irrefl a:=by
  rw[xK]
  have:=uf a.nm
  omega
 trans a b c h1 h2:=by
  rw[D7] at *
  have:=ru a.nm b.nm c.nm
  omega
 ntrans a b c h1 h2:=by
  rw[xK] at *;have f:=lN a.nm b.nm c.nm;have e:=iJ (bo a.nm b.nm);have g:=iJ (bo b.nm c.nm);have d:=iJ (bo a.nm c.nm);omega
theorem Sc{a b:kV}(g:kt a b=false)(h:kt b a=false):a=b:=by
 rw[xK] at *;have f:=ug a.nm b.nm;have j:=iJ (bo a.nm b.nm);have i:=iJ (bo b.nm a.nm);have e:a.pr=b.pr:=by omega
 have c:a.ab=b.ab:=by omega
 have d:a.nm=b.nm:=f (by omega) (by omega);cases a;cases b
 simp at e c d
 simp[e,c,d]
def uh (l:List kV):Prop:=l.Pairwise λa b=>kt b a=false
def jf (us:List ap) (l:List aj) (i:Nat):Int:=((l.drop i).map λp=>cN us p.nm).sum
theorem Se(us:List ap)(l:List aj):jf us l l.length=0:=by simp[jf]
theorem Sf(us:List ap)(h:i<l.length):jf us l i=cN us (aO l i).nm+jf us l (i+1):=by
 unfold jf;rw[List.drop_eq_getElem_cons h,Qq,List.sum_cons,aO,List.getD_eq_getElem?_getD,Qf h];rfl
structure fJ (us:List ap) (l:List aj) (most:Int) (i g:Nat):Prop where
 lo:i<=g
 hi:g<=l.length
 no:∀j,i<=j->j<g->most<jf us l j
 yes:g<l.length->jf us l g<=most
theorem fJ.start(us:List ap)(l:List aj)(a:Int):fJ us l a l.length l.length:=⟨lR,lR,λj b c=>by omega,λh=>by omega⟩
theorem fJ.stay(h:fJ us l most (i+1) g)(a:most<jf us l i):fJ us l most i g:=
 ⟨by have:=h.lo;omega,h.hi,λj c b=>by
  by_cases e:j=i
  ·subst e;exact a
  ·exact h.no j (by omega) b,h.yes⟩
theorem fJ.here(hi:i<l.length)(a:jf us l i<=most):fJ us l most i i:=
 ⟨lR,by omega,λj b c=>by omega,λ_=>a⟩
theorem fJ.unique{a:Nat}(h:fJ us l most i g)(b:fJ us l most i a):g=a:=by
 rcases Nat.lt_trichotomy g a with e|e|e
 ·have c:=b.no g h.lo e;have d:=h.yes (by have:=b.hi;omega);omega
 ·exact e
 ·have c:=h.no a b.lo e;have d:=b.yes (by have:=h.hi;omega);omega
end
end Go.Proofs.YtjlblidnfebmiaaGreatDoor
namespace Go.Proofs
open Go.Shelf
def Tryz.cmpL2_ren:Go.Shelf.Ren:=⟨fun|5=>153|7=>187|n=>n,fun|22=>3|3=>3|4=>4|n=>n,fun|n=>n⟩
theorem Tryz.cmpL2:Go.Proofs.SlLaysC2.n5 Tryz.prog Tryz.cmpL2_ren:=by
 constructor
 case f5=>exact ⟨Tryz.f153.name,by decide,Tryz.func153.trans (congrArg some (by kernel_rfl))⟩
 case f7=>exact ⟨Tryz.f187.name,by decide,Tryz.func187.trans (congrArg some (by kernel_rfl))⟩
 all_goals intros;kernel_rfl
end Go.Proofs
namespace Go.Proofs.YtjlblidnfebmiaaGreatDoor
variable{B K b fc mc n:Nat}{W W' w w':World}{l us:List ap}{ps:List aj}{u:ap}
theorem D8(x:Int)(w:World):Calls prog 154 #[x] w λe w'=>e=.returned (dR x:Int)/\w'=w:=by
 have a:Hu (dR x=if 0<x then 0 else 1):=rfl;generalize dR x=T at *
 by_cases h:0<x
 ·have b:=qI (a.o.trans (if_pos h));clear a
  go_enter func154,ntmps154
  go_wp2
  go_ret;exact⟨by rw[b.o];rfl,rfl⟩
 ·have b:=qI (a.o.trans (if_neg h));clear a
  go_enter func154,ntmps154
  go_wp2
  go_ret;exact⟨by rw[b.o];rfl,rfl⟩
theorem rx(x y:Int)(w:World):Calls prog 153 #[x,y] w λe w'=>e=.returned (Lib.compareInt x y:Int)/\w'=w:=by
 have h:=AnyG.cmp_Compare_int Tryz.cmpL2 x y w
 change Calls prog 153 _ _ _ at h
 exact h
theorem pG(x:ByteArray)(w:World):Calls prog 128 #[x] w λe w'=>e=.returned false/\w'=w:=by
 go_enter func128,ntmps128
 go_wp2
 go_ret;exact⟨by simp,rfl⟩
theorem Sg(x y:ByteArray)(w:World):Calls prog 87 #[x,y] w λe w'=>e=.returned (bK x y:Int)/\w'=w:=by
 have d:Hu (bK x y=if bo x y=true then -1 else if bo y x=true then 1 else 0):=rfl;have Ha:=qI (ug x y);have Hc:=qI (xJ x y);generalize bK x y=T at *
 rcases two (bo x y) with a|a
 ·have c:=qI (d.o.trans (if_pos a));have He:Op.bytesLess x.toList y.toList=true:=a;clear d a Ha Hc
  go_enter func87,ntmps87
  go_wp2_with fail
  refine (pG _ _).mono ?_;rintro e f ⟨rfl,rfl⟩
  go_wp2_with fail
  refine (pG _ _).mono ?_;rintro e f ⟨rfl,rfl⟩
  go_wp2
  go_ret;exact⟨by rw[c.o];rfl,rfl⟩
 ·have Hb:=qI (d.o.trans (if_neg (by rw[a];decide)));have He:Op.bytesLess x.toList y.toList=false:=a
  rcases two (bo y x) with b|b
  ·have c:=qI (Hb.o.trans (if_pos b));have Hg:(x.toList == y.toList)=false:=by
    rw[qG];refine Q7 λe=>?_
    subst e;rw[a] at b;cases b
   clear d Hb a b Ha Hc
   go_enter func87,ntmps87
   go_wp2_with fail
   refine (pG _ _).mono ?_;rintro e f ⟨rfl,rfl⟩
   go_wp2_with fail
   refine (pG _ _).mono ?_;rintro e f ⟨rfl,rfl⟩
   go_wp2
   go_ret;exact⟨by rw[c.o];rfl,rfl⟩
  ·have c:=qI (Hb.o.trans (if_neg (by rw[b];decide)));have Hf:x=y:=Ha.o (by rw[a];rfl) (by rw[b];rfl);subst Hf;clear d Hb a b Ha Hc
   go_enter func87,ntmps87
   go_wp2_with fail
   refine (pG _ _).mono ?_;rintro e f ⟨rfl,rfl⟩
   go_wp2_with fail
   refine (pG _ _).mono ?_;rintro e f ⟨rfl,rfl⟩
   go_wp2
   go_ret;exact⟨by rw[c.o];rfl,rfl⟩
def or4 (a b c d:Int):Int:=dG a (dG b (dG c d))
theorem Sh(a b c d:Int)(g n:Nat)(w:World)(j:w.cell? g=some (.int .i64 a))(s:w.cell? ⟨g,1,none⟩=some (.int .i64 b))(p:w.cell? ⟨g,2,none⟩=some (.int .i64 c))(r:w.cell? ⟨g,3,none⟩=some (.int .i64 d)) :
  Calls prog 86 #[.slice g 4 n] w λe w'=>e=.returned (or4 a b c d:Int)/\w'=w:=by
 have u:Hu (∀k:Nat,k<4->∃v:Int,cl w g k (v:Int)/\(v=if k=0 then a else if k=1 then b else if k=2 then c else d)):=by
  intro k t
  have:k=0\/k=1\/k=2\/k=3:=by omega
  rcases this with rfl|rfl|rfl|rfl
  ·exact⟨a,j,rfl⟩
  ·exact⟨b,s,rfl⟩
  ·exact⟨c,p,rfl⟩
  ·exact⟨d,r,rfl⟩
 clear j s p r
 go_enter func86,ntmps86
 go_wp2_with fail
 go_loop [8] (λi=>∃k:Nat,k<=4/\i=.int .i64 k/\Hu ((0<k->a=0)/\(1<k->b=0)/\(2<k->c=0)/\(3<k->d=0))) (λi=>4 - (intOf i).toNat)
 case atStart=>exact⟨0,by omega,rfl,⟨λh=>by omega,λh=>by omega,λh=>by omega,λh=>by omega⟩⟩
 case round=>
  obtain⟨k,t,rfl,o⟩:=hrel
  by_cases m:k<4
  ·obtain⟨v,x,f⟩:=u.o k m;have q:=qI f;clear f
   by_cases j:v=0
   ·subst j;have Ha:Hu ((0<k+1->a=0)/\(1<k+1->b=0)/\(2<k+1->c=0)/\(3<k+1->d=0)):=by
     obtain⟨z0,z1,z2,z3⟩:=o.o;have f:=q.o
     have:k=0\/k=1\/k=2\/k=3:=by omega
     rcases this with rfl|rfl|rfl|rfl
     ·simp at f;exact⟨λ_=>f.symm,λh=>by omega,λh=>by omega,λh=>by omega⟩
     ·simp at f;exact⟨λ_=>z0 (by omega),λ_=>f.symm,λh=>by omega,λh=>by omega⟩
     ·simp at f;exact⟨λ_=>z0 (by omega),λ_=>z1 (by omega),λ_=>f.symm,λh=>by omega⟩
     ·simp at f;exact⟨λ_=>z0 (by omega),λ_=>z1 (by omega),λ_=>z2 (by omega),λ_=>f.symm⟩
    go_wp2_with fail
    go_round
    case rel=>exact⟨k+1,by omega,by go_num,Ha⟩
    case measure=>simp[intOf];omega
   ·have l:Hu (or4 a b c d=v):=by
     obtain⟨z0,z1,z2,z3⟩:=o.o;have f:=q.o
     have:k=0\/k=1\/k=2\/k=3:=by omega
     unfold Hu or4 dG
     rcases this with rfl|rfl|rfl|rfl
     ·simp at f;subst f;rw[if_neg j]
     ·simp at f;subst f;rw[if_pos (z0 (by omega)),if_neg j]
     ·simp at f;subst f;rw[if_pos (z0 (by omega)),if_pos (z1 (by omega)),if_neg j]
     ·simp at f;subst f;rw[if_pos (z0 (by omega)),if_pos (z1 (by omega)),if_pos (z2 (by omega))]
    have y:(v != 0)=true:=by simp[j]
    go_wp2
    go_ret;exact⟨by rw[l.o];rfl,rfl⟩
  ·have Hb:k=4:=by omega
   subst Hb;have l:Hu (or4 a b c d=0):=by
    obtain⟨z0,z1,z2,z3⟩:=o.o;unfold Hu or4 dG;rw[if_pos (z0 (by omega)),if_pos (z1 (by omega)),if_pos (z2 (by omega)),z3 (by omega)]
   go_wp2
   go_ret;exact⟨by rw[l.o];rfl,rfl⟩
def ui (us:List ap) (ps:List aj) (j:Nat):kV:=fI us (aO ps j)
structure WR (us:List ap) (ps:List aj) (D:Nat->Bool) (out:List Nat):Prop where
 nodup:out.Nodup
 mem:∀j,j∈out↔(j<ps.length/\D j=true)
 srt:out.Pairwise λa b=>kt (ui us ps b) (ui us ps a)=false
 ahead:∀a,a∈out->∀j,j<ps.length->D j=false->kt (ui us ps j) (ui us ps a)=false
theorem Si(a:List aj):(List.range a.length).map (λj=>aO a j)=a:=by
 apply List.ext_getElem
 ·simp
 ·intro i c b
  simp[aO,b]
def ry (ps:List aj):Prop:=(ps.map aj.nm).Nodup
theorem Sj(h:ry ps){a b:aj}(c:a∈ps)(d:b∈ps)(e:a.nm=b.nm):a=b:=by induction ps <;> grind[ry]
theorem Sk{c d:List aj}(h:ry ps)(e:c.Perm ps)(f:d.Perm ps)(i:uh (c.map (fI us)))(l:uh (d.map (fI us))):c=d:=by
 refine List.Perm.eq_of_pairwise (le:=λa b=>kt (fI us b) (fI us a)=false) ?_ (List.pairwise_map.1 i) (List.pairwise_map.1 l) (e.trans f.symm);intro a b j k g1 g;exact Sj h (e.mem_iff.1 j) (f.mem_iff.1 k) (congrArg kV.nm (Sc (a:=fI us a) (b:=fI us b) g g1))
theorem Sl(p:aj)(cv:Value)(w:World)(h:aQ w cv p.cs)(j:ib p.cs):Calls prog 41 #[cz p cv] w λe w'=>e=.returned (.agg #[(dh p.cs p.cs.length:Int),(cV p.cs p.cs.length:Int)])/\Below w w w'/\w'.drawn=w.drawn:=by
 obtain⟨l,c,rfl,u,t⟩:=h;have y:=qI t;clear t u;unfold cz;have Hk:=qI ((((Q0 w w).alloc (lR) (.cells #[p.nm,(p.pr:Int),.slice l p.cs.length c] 49)).alloc (by simp) (.cells #[(0:Int),(0:Int)] 62)).alloc (by simp;omega) (.cells #[(0:Int),(0:Int)] 62));have Hi:Hu (cr (((w.alloc (.cells #[p.nm,(p.pr:Int),.slice l p.cs.length c] 49)).alloc (.cells #[(0:Int),(0:Int)] 62)).alloc (.cells #[(0:Int),(0:Int)] 62)) (w.heap.size+1) 0 0/\cr (((w.alloc (.cells #[p.nm,(p.pr:Int),.slice l p.cs.length c] 49)).alloc (.cells #[(0:Int),(0:Int)] 62)).alloc (.cells #[(0:Int),(0:Int)] 62)) (w.heap.size+1+1) 0 0):=by
  constructor
  ·have:=(cr.made (w.alloc (.cells #[p.nm,(p.pr:Int),.slice l p.cs.length c] 49)) 62 0 0).alloc (.cells #[(0:Int),(0:Int)] 62)
   simpa using this
  ·have:=cr.made ((w.alloc (.cells #[p.nm,(p.pr:Int),.slice l p.cs.length c] 49)).alloc (.cells #[(0:Int),(0:Int)] 62)) 62 0 0
   simpa using this
 generalize p.cs=cs at *;have Hh:=qI j;have Hy:=j.1;clear j
 go_enter func41,ntmps41
 go_wp2
 go_loopw [9] (λi wr=>∃k:Nat,k<=cs.length/\i=.int .i64 k/\Below w w wr/\cr wr (w.heap.size+1) 0 0/\cr wr (w.heap.size+1+1) (dh cs k) (cV cs k)/\Hu (wr.drawn=w.drawn)) (λi _=>cs.length - (intOf i).toNat)
 case atStart=>exact⟨0,by omega,rfl,Hk.o,Hi.o.1,Hi.o.2,rfl⟩
 case round=>
  obtain⟨k,q,rfl,f,Hf,He,Hm⟩:=hrel
  by_cases g:k<cs.length
  ·obtain⟨b,o,dv,rfl,Ha⟩:=y.o (by omega);have Ha:=Ha.below f;obtain⟨c0,c1,c2,c3,C,B⟩:=Ha.at g;have Hs:∃a n e,dv k=.slice a n e:=by
    obtain⟨a,e,z,_⟩:=(Ha.2 k g).2;exact⟨a,_,e,z⟩
   have Hc:=qI (f.alloc f.size (.cells #[(ae cs k).nm,((ae cs k).am:Int),((ae cs k).ab:Int),((ae cs k).cm:Int),((ae cs k).cb:Int),dv k] 65));have Hl:=Hf.alloc (.cells #[(ae cs k).nm,((ae cs k).am:Int),((ae cs k).ab:Int),((ae cs k).cm:Int),((ae cs k).cb:Int),dv k] 65);have Hg:=He.alloc (.cells #[(ae cs k).nm,((ae cs k).am:Int),((ae cs k).ab:Int),((ae cs k).cm:Int),((ae cs k).cb:Int),dv k] 65);have Hb:=kD.made wr (ae cs k) (dv k);have Hn:Hu ((wr.alloc (.cells #[(ae cs k).nm,((ae cs k).am:Int),((ae cs k).ab:Int),((ae cs k).cm:Int),((ae cs k).cb:Int),dv k] 65)).drawn=w.drawn):=Hm.o;have Hp:Hu (dh cs (k+1)=dh cs k+(ae cs k).am):=rfl;have Hv:Hu (cV cs (k+1)=cV cs k+(ae cs k).ab):=rfl;obtain⟨m1,m2,_⟩:=Hh.o.2 k g;obtain⟨I,G⟩:=tl Hh.o q;obtain⟨J,F⟩:=qF Hh.o q;have Hr:=He.lt;clear Ha f Hk Hi;generalize dh cs k=M at *;generalize cV cs k=N at *;generalize ae cs k=x at *;generalize dv k=d at *;obtain⟨da,dn,dc,rfl⟩:=Hs;generalize hW1:wr.alloc (.cells #[x.nm,(x.am:Int),(x.ab:Int),(x.cm:Int),(x.cb:Int),.slice da dn dc] 65)=A at Hl Hg Hc Hb Hn;have D:wrap64 (M+x.am)=M+x.am:=by unfold wrap64;omega
   have E:wrap64 (N+x.ab)=N+x.ab:=by unfold wrap64;omega
   have Ho:=qI (cM A ⟨w.heap.size+1+1,0,none⟩ (M+x.am:Int));have Hw:=qI (Hl.kept Ho.o (by simp));have Hj:=qI (Hg.set0 (M+x.am));have H:=(Ho.o.cell_far ⟨wr,2,none⟩ Hb.1 (by simp;omega)).trans Hb.2.2.2.1;obtain⟨⟨f1,f2⟩,⟨f3,r⟩⟩:=Hg;obtain⟨⟨g1,s⟩,⟨g3,g4⟩⟩:=Hj.o;obtain⟨_,_,b1,_⟩:=Hb
   go_wp2_with fail
   have m:=Hc.o.size;have Hq:=mE Hc.o (w.heap.size+1+1) 0 (M+x.am:Int) (by omega) m;refine⟨⟨k+1,by omega,by go_num,mE Hq (w.heap.size+1+1) 1 (N+x.ab:Int) (by omega) (by simpa using m),Hw.o.kept (cM _ ⟨w.heap.size+1+1,1,none⟩ (N+x.ab:Int)) (by simp),?_,Hn.o⟩,by simp[intOf];omega⟩;rw[Hp.o,Hv.o];exact Hj.o.set1 _
  ·have Ht:k=cs.length:=by omega
   subst Ht;have m:=f.size;have Hz:=qI (mE (mE f (w.heap.size+1) 0 (dh cs cs.length:Int) (by omega) m) (w.heap.size+1) 1 (cV cs cs.length:Int) (by omega) (by simpa using m));have Hx:=qI ((Hf.set0 (dh cs cs.length)).set1 (cV cs cs.length));obtain⟨⟨f1,f2⟩,⟨f3,r⟩⟩:=Hf;obtain⟨⟨g1,s⟩,⟨g3,g4⟩⟩:=He;clear f
   go_wp2_with fail
   (try simp only[Exit.inBlock,Exit.then]);refine bodyPost_ret (v:=.agg #[(dh cs cs.length:Int),(cV cs cs.length:Int)]) ?_ rfl ⟨rfl,Hz.o,Hm.o⟩;obtain⟨⟨g1,s⟩,⟨g3,g4⟩⟩:=Hx.o;rw[tn rfl];clear f1 f2 f3 r;go_simp
def WS (us:List ap) (ps:List aj) (n:Nat):Int:=iX (λk=>cN us (aO ps k).nm) n
def ox (us:List ap):Prop:=∀k,k<us.length->-1125899906842624<=(aq us k).many/\(aq us k).many<=1125899906842624
theorem xM(h:ox us)(nm:ByteArray):-1125899906842624<=cN us nm/\cN us nm<=1125899906842624:=by
 unfold cN;cases e:us.find? λu=>decide (u.kind=nm) with
 | none=>simp
 | some x=>
  have b:=List.mem_of_find?_eq_some e;obtain⟨k,a,rfl⟩:=List.getElem_of_mem b
  have:=h k a
  simp[aq,a] at this
  simp
  exact this
theorem Sm{l:List Int}{B:Int}(h:∀x∈l,-B<=x/\x<=B):-(l.length*B)<=l.sum/\l.sum<=l.length*B:=by
 induction l with
 | nil=>simp
 | cons x l ih=>
  have b:=h x (by simp);have c:=ih λy a=>h y (by simp[a]);rw[List.sum_cons,Qg];have e:((l.length+1:Nat):Int)*B=l.length*B+B:=by rw[Int.natCast_add,Int.add_mul];simp
  omega
def pH (us:List ap) (qs:List aj) (most:Int) (st:Int × Nat) (x:Nat):Int × Nat:=
 (st.1+cN us (aO qs x).nm,if st.1+cN us (aO qs x).nm<=most then x else st.2)
def gO (us:List ap) (qs:List aj) (most:Int) (pre:List Nat):Int × Nat:=pre.foldl (pH us qs most) (0,qs.length)
theorem D9(us:List ap)(b:List aj)(a:Int)(pre:List Nat)(x:Nat):gO us b a (pre++[x])=pH us b a (gO us b a pre) x:=by
 unfold gO;rw[List.foldl_append];rfl
theorem Sn(us:List ap)(b:List aj)(a:Int)(pre:List Nat):(gO us b a pre).1=(pre.map λx=>cN us (aO b x).nm).sum:=by
 have fI:∀(pre:List Nat) (c:Int × Nat),(pre.foldl (pH us b a) c).1=c.1+(pre.map λx=>cN us (aO b x).nm).sum:=by
  intro pre
  induction pre with
  | nil=>intro c;simp
  | cons x l ih=>intro c;rw[List.foldl_cons,ih,Qq,List.sum_cons];unfold pH;simp only;omega
 unfold gO;rw[fI];simp
theorem So(h:ox us)(b:List aj)(a:Int){pre:List Nat}(d:pre.length<=16):-18014398509481984<=(gO us b a pre).1/\(gO us b a pre).1<=18014398509481984:=by
 rw[Sn]
 have:=Sm (l:=pre.map λx=>cN us (aO b x).nm) (B:=1125899906842624) (λx c=>by
  obtain⟨p,_,rfl⟩:=Qk.1 c;exact xM h _)
 rw[Q9] at this;omega
def iK (n k:Nat):List Nat:=(List.range k).map λj=>n - 1 - j
theorem Ea(n k:Nat):iK n (k+1)=iK n k++[n - 1 - k]:=by unfold iK;rw[List.range_succ,Qj];rfl
theorem Sp(n k:Nat):(iK n k).length=k:=by simp[iK]
theorem Eb(us:List ap)(a:List aj)(b:Int):∀k,k<=a.length->(gO us a b (iK a.length k)).1=jf us a (a.length - k)/\fJ us a b (a.length - k) (gO us a b (iK a.length k)).2
 | 0,_=>by
  show (0:Int)=_/\fJ us a b _ a.length
  rw[Nat.sub_zero,Se];exact⟨rfl,fJ.start us a b⟩
 | k+1,hk=>by
  obtain⟨h1,h2⟩:=Eb us a b k (by omega);rw[Ea,D9];have g:a.length - 1 - k=a.length - (k+1):=by omega
  have d:a.length - k=a.length - (k+1)+1:=by omega
  have Ha:a.length - (k+1)<a.length:=by omega
  have e:=Sf us (l:=a) (i:=a.length - (k+1)) Ha;rw[d] at h1 h2;rw[g];generalize a.length - (k+1)=i at *;unfold pH
  simp only
  rw[h1];have f:jf us a (i+1)+cN us (aO a i).nm=jf us a i:=by rw[e];omega
  rw[f];refine⟨rfl,?_⟩
  by_cases c:jf us a i<=b
  ·rw[if_pos c];exact fJ.here Ha c
  ·rw[if_neg c];exact h2.stay (by omega)
theorem Sq(us:List ap)(b:List aj)(a:Int):fJ us b a 0 (gO us b a (iK b.length b.length)).2:=by grind[Eb]
theorem ip.high{h l v:Int}(t:ip h l v)(d:-18014398509481984<=v)(a:v<=18014398509481984):-17179869184<=h/\h<=17179869184:=by
 obtain⟨b,c,e⟩:=t;omega
section
open RowKit Go.ChangeMaps
open Go.Maps (Keyed)
theorem kW:Keyed prog 9:=Go.Maps.string_keyed underlying9
theorem rz(w:World):(zeroValue 3).run prog w=.ok (0:Int) w:=by kernel_rfl
def ez (w:World) (B n:Nat) (us:List ap):Prop:=
 ∃D:DataW Unit,w.ownsMap prog 9 (plainElem prog 3) B n D/\∀s:ByteArray,D.atKey (.string s.data.toList) (.lit (.int .i64 0))=.lit (.int .i64 (cN us s))/\Go.Maps.has D (.string s.data.toList)=us.any λu=>decide (u.kind=s)
theorem ez.alloc(h:ez w B n us)(o:Obj):ez (w.alloc o) B n us:=by
 obtain⟨D,a,b⟩:=h;exact⟨D,a.alloc o,b⟩
theorem ez.below(h:ez w B n us)(c:Below K w w')(e:B<K):ez w' B n us:=by
 obtain⟨D,⟨f,a,d,r⟩,b⟩:=h;exact⟨D,⟨f,a,(c.block B e).trans d,r⟩,b⟩
theorem ez.lt(h:ez w B n us):B<w:=by
 obtain⟨D,a,_⟩:=h;exact a.lt
theorem ez.made(w:World):ez (w.alloc (.map #[] 0)) w 0 []:=
 ⟨.map [],World.ownsMap_made w _ _ _,λ_=>⟨rfl,rfl⟩⟩
theorem Ec{k:Nat}(h:k<us.length):us.take (k+1)=us.take k++[aq us k]:=by grind[List.take_add_one,aq]
theorem Ed(l:List ap)(u:ap)(s:ByteArray):cN (l++[u]) s=if (l.any λv=>decide (v.kind=s))=true then cN l s else if u.kind=s then u.many else 0:=by
 unfold cN;rw[List.find?_append];cases e:l.find? (λv=>decide (v.kind=s)) with
 | none=>
  have a:(l.any λv=>decide (v.kind=s))=false:=by
   rw[List.any_eq_false];intro x b;exact List.find?_eq_none.1 e x b
  rw[if_neg (by rw[a];decide)]
  by_cases h:u.kind=s
  ·simp[h]
  ·simp[h]
 | some x=>
  have a:(l.any λv=>decide (v.kind=s))=true:=by
   rw[List.any_eq_true];exact⟨x,List.mem_of_find?_eq_some e,List.find?_some (p:=λv:ap=>decide (v.kind=s)) e⟩
  rw[if_pos a];rfl
theorem xN{a b:ByteArray}(h:a.data.toList=b.data.toList):a=b:=ByteArray.ext (Array.toList_inj.mp h)
theorem Sr(h:(l.any λv=>decide (v.kind=u.kind))=true)(s:ByteArray):cN (l++[u]) s=cN l s/\((l++[u]).any λv=>decide (v.kind=s))=l.any λv=>decide (v.kind=s):=by grind[Ed,cN]
theorem ez.put{D:DataW Unit}(c:∀s:ByteArray,D.atKey (.string s.data.toList) (.lit (.int .i64 0))=.lit (.int .i64 (cN l s))/\Go.Maps.has D (.string s.data.toList)=l.any λv=>decide (v.kind=s)){i:World}{f:Nat}(a:i.ownsMap prog 9 (plainElem prog 3) B f D)
  (d:w'.ownsMap prog 9 (plainElem prog 3) B n (D.put (.string u.kind.data.toList) (.lit (.int .i64 u.many)))) (b:(l.any λv=>decide (v.kind=u.kind))=false):ez w' B n (l++[u]):=by
 refine⟨_,d,λs=>?_⟩;rw[Ed,List.any_append]
 by_cases e:u.kind=s
 ·subst e;have Ha:WideAt.IsKeyLit (Lit.string u.kind.data.toList):=trivial;rw[Go.Maps.atKey_put_same a.isMap Ha,Go.Maps.has_put_same a.isMap Ha,if_neg (by rw[b];decide),if_pos rfl]
  simp
 ·have Hb:(Lit.string s.data.toList)≠(Lit.string u.kind.data.toList):=by
   intro h;injection h with h
   exact e (xN h).symm
  rw[Go.Maps.atKey_put_other Hb,Go.Maps.has_put_other Hb,(c s).1,(c s).2]
  by_cases g:(l.any λv=>decide (v.kind=s))=true
  ·rw[if_pos g];simp[e]
  ·rw[if_neg g,if_neg e];refine⟨?_,by simp[e]⟩
   congr 2
   unfold cN;rw[List.find?_eq_none.2 (by simpa[List.any_eq_true] using g)];rfl
def oy (us:List ap):Prop:=us.length<=20/\ox us/\∀k,k<us.length->(aq us k).kind.size<=30
theorem Ss(v:Value)(us:List ap)(w:World)(h:bv w v us)(hf:oy us):Calls prog 108 #[v] w λe w'=>(∃n,e=.returned (.map w)/\ez w' w n us)/\Below w w w':=by
 obtain⟨G,c,rfl,E,z⟩:=h;have B:=qI z;clear z E;have y:=qI hf;have Hm:=hf.1;clear hf;have Hk:=qI (ez.made w);have Hj:=qI ((Q0 w w).alloc (lR) (.map #[] 0));have F:=@run_makeMap prog
 go_enter func108,ntmps108
 go_wp2
 go_loopw [11] (λi wr=>∃k n:Nat,k<=us.length/\n<=k/\i=.int .i64 k/\ez wr w n (us.take k)/\Below w w wr) (λi _=>us.length - (intOf i).toNat)
 case atStart=>exact⟨0,0,by omega,by omega,rfl,Hk.o,Hj.o⟩
 case round=>
  obtain⟨k,n,H,Hw,rfl,g,f⟩:=hrel;clear Hk Hj
  by_cases a:k<us.length
  ·obtain⟨b,o,rfl,Hl,Hh⟩:=B.o (by omega);obtain⟨q,g1⟩:=Hh k a;have c0:=(f.cell (p:=⟨b,o+k*2,none⟩) Hl).trans q;have c1:=(f.cell (p:=⟨b,o+k*2+1,none⟩) Hl).trans g1;have Hi:=qI (Ec a);have Hv:=y.o.2.2 k a;have Ht:=y.o.2.1 k a;have Hg:=qI (f.alloc f.size (.cells #[(aq us k).kind,((aq us k).many:Int)] 148));have Ho:=g.alloc (.cells #[(aq us k).kind,((aq us k).many:Int)] 148);have He:(wr.alloc (.cells #[(aq us k).kind,((aq us k).many:Int)] 148)).cell? wr.heap.size=some (.string (aq us k).kind):=by simp
   have Hc:(wr.alloc (.cells #[(aq us k).kind,((aq us k).many:Int)] 148)).cell? ⟨wr,1,none⟩=some (.int .i64 (aq us k).many):=by simp
   clear g f Hh q g1;generalize aq us k=x at *;generalize us.take k=L at *;obtain⟨D,l,m⟩:=Ho;have t:=qI m;have Hb:keyOf prog 9 x.kind=some (.string x.kind.data.toList):=Go.WideMaps.keyOf_string_mk underlying9 (by unfold maxLen;omega);have Hn:=qI (show (Lit.int .i64 x.many).wf=true from WalkArith.wf_i64 (by omega));have Ha:=(m x.kind).2
   rcases two (L.any λu=>decide (u.kind=x.kind)) with d|d
   ·rw[d] at Ha;have r:=qI (Sr d);clear m d
    go_wp2_with (at_lookup;refine wpList_lookup_own_ok_int _ rfl _ _ 205 rfl 9 3 .i64 kW underlying205 underlying3 (rz _) w n D rfl l _ _ rfl Hb ?_;intro cc _ _;rw[Ha])
    go_roundw
    case rel=>
     refine⟨k+1,n,by omega,by omega,by go_num,?_,Hg.o⟩;rw[Hi.o];exact⟨D,l,λs=>by rw[(r.o s).1,(r.o s).2];exact t.o s⟩
    case measure=>simp[intOf];omega
   ·rw[d] at Ha;have A:=qI d;clear m d
    go_wp2_with (first|(at_lookup;refine wpList_lookup_own_ok_int _ rfl _ _ 205 rfl 9 3 .i64 kW underlying205 underlying3 (rz _) w n D rfl l _ _ rfl Hb ?_;intro cc _ _;rw[Ha])|(at_mapUpdate;refine wpList_mapUpdate_own _ rfl _ _ _ 205 rfl 9 3 kW underlying205 (plainElem prog 3) w n D rfl l (by unfold maxLen;omega) _ _ _ rfl rfl Hb (.lit (.int .i64 x.many)) [] (plainElem_int underlying3 Hn.o) ?_;intro I Hr Hf))
    go_roundw
    case rel=>
     refine⟨k+1,n+1,by omega,by omega,by go_num,?_,?_⟩
     ·rw[Hi.o];exact ez.put t.o l Hr A.o
     ·exact Hg.o.grown Hf Hg.o.size (λj C=>by cases C;exact lR)
    case measure=>simp[intOf];omega
  ·have Hq:k=us.length:=by omega
   subst Hq;have Hs:=qI f;rw[Qh] at g;have Hp:=qI g;clear f g
   go_wp2
   go_ret;exact⟨⟨n,rfl,Hp.o⟩,Hs.o⟩
end
theorem Ee(h:ez w B n us)(s:ByteArray)(hs:s.size<=1000):(Instr.lookup 205 (.map B) s false).run prog w=.ok (cN us s:Int) w:=by
 obtain⟨D,a,b⟩:=h;obtain⟨c,Hb,Ha,_⟩:=a.lookup_int (t:=205) kW underlying205 underlying3 (rz w) (Go.WideMaps.keyOf_string_mk underlying9 (s:=s) (by unfold maxLen;omega));rw[(b s).1] at Ha;simp only[DataW.lit.injEq,Lit.int.injEq,true_and] at Ha;rw[Hb,Ha]
abbrev pI:=λ(x0:aj) (x1:Value)=>(.cells #[x0.nm,(x0.pr:Int),x1] 49:Obj)
theorem Ef(p:aj)(cv:Value)(mc B n:Nat)(us:List ap)(w:World)(h:aQ w cv p.cs)(hmi:ib p.cs)(hm:w.cell? mc=some (.map B))(hU:ez w B n us)(ht:ox us)(hn:p.nm.size<=1000) :
  Calls prog 150 #[cz p cv,mc] w λe w'=>e=.returned (cN us p.nm - cV p.cs p.cs.length:Int)/\Below w w w'/\w.drawn<=w'.drawn:=by
 have hs:=h.slice;unfold cz;have He:=(Q0 w w).alloc (lR) (pI p cv);have Hf:=qI (fC He);have Hh:=qI ((gB.made w p cv).below (fC (Q0 _ _)));have Hc:=Q3 w _ hm;have Hj:=qI (((fC He).cell (p:=mc) Hc).trans hm);have Hg:=qI (hU.below (fC He) hU.lt);have Hi:=qI (Sl p cv _ (h.below Hf.o) hmi);have Hs:=xM ht p.nm;have Ht:=qF hmi (lR);unfold cz at Hi;obtain⟨pa,pn,pc,rfl⟩:=hs;have Hr:=qI hU.lt;clear h He hm hU;have Hm:=qI λW (hU:ez W B n us)=>Ee hU p.nm hn;generalize dh p.cs p.cs.length=SM at *;generalize cV p.cs p.cs.length=SB at *;generalize cN us p.nm=US at *;have e1:wrap64 (US - SB)=US - SB:=by unfold wrap64;omega
 have e2:IntKind.i64.wrap (US - SB)=US - SB:=by rw[IntKind.wrap_i64];omega
 go_enter func150,ntmps150
 go_wp2_with fail
 refine wp_region_held_drew (S:=(λw'=>(cl w' w (0) p.nm/\cl w' w (1) (p.pr:Int)/\cl w' w (2) (.slice pa pn pc))/\cl w' mc (0) (.map B)/\ez w' B n us)) (by kernel_rfl) ⟨Hh.o.2,Hj.o,Hg.o⟩ λhQ=>?_;refine tk 0 ?_;refine tk 1 ?_;refine tk 2 ?_;refine tk 4 ?_
 refine wpAnyH_take (i := 3) (oi := { dst := some 7, op := Op.lookup 205 (Operand.tmp 4) (Operand.tmp 6) false, type := 3, pos := "evict.go:46", after := #[{ on := 0, ground := Ground.data }, { on := 2, ground := Ground.data }], guard := none }) (v := Value.int .i64 US) rfl (by kernel_rfl) (by kernel_rfl) (by kernel_rfl) (fun _ _ _ h => h) (Or.inl ⟨by rfl, ?h5x3⟩) (by assumption) ?r5x3
 case h5x3=>
  intro w' Ha;(try dsimp only at Ha);have Hu:=Hm.o _ Ha.2.2;go_simp
  first|done|with_reducible rfl|rfl
 (try simp only[Act.put,s1,s2,s3]);refine rd 5 λK hK=>?_;go_simp
 go_wp2_with fail
 refine Hi.o.mono ?_;rintro e w5 ⟨rfl,Hb,Hk⟩;have Hq:=qI (Hh.o.below Hb);have Ho:=qI ((Hb.cell (p:=mc) (Q1 Hc Hf.o.size)).trans Hj.o);have Hn:=qI (Hg.o.below Hb Hg.o.lt);have Hl:=qI (Hf.o.trans (Hb.mono Hf.o.size));have Hp:=qI (show w.drawn<=w5.drawn by rw[Hk];exact Nat.le_succ _);clear Hb Hk
 go_wp2_with fail
 refine hK.o _ _ ⟨Hq.o.2,Ho.o,Hn.o⟩ λhQ=>?_;clear hK K
 refine wpAnyH_take (i := 6) (oi := { dst := some 10, op := Op.field 62 (Operand.tmp 9) 1, type := 3, pos := "evict.go:46", after := #[{ on := 5, ground := Ground.data }], guard := none }) (v := Value.int .i64 SB) rfl (by kernel_rfl) (by kernel_rfl) (by kernel_rfl) (fun _ _ _ h => h) (Or.inl ⟨by rfl, ?h6x6⟩) (by assumption) ?r6x6
 case h6x6=>
  intro w' Ha;(try dsimp only at Ha);go_simp
  first|done|with_reducible rfl|rfl
 (try simp only[Act.put,s1,s2,s3])
 refine wpAnyH_take (i := 7) (oi := { dst := some 11, op := Op.binOp BinOp.sub 3 (Operand.tmp 7) (Operand.tmp 10) 3, type := 3, pos := "evict.go:46", after := #[{ on := 3, ground := Ground.data }, { on := 6, ground := Ground.data }], guard := none }) (v := Value.int .i64 (US - SB)) rfl (by kernel_rfl) (by kernel_rfl) (by kernel_rfl) (fun _ _ _ h => h) (Or.inl ⟨by rfl, ?h7x7⟩) (by assumption) ?r7x7
 case h7x7=>
  intro w' Ha;(try dsimp only at Ha);go_simp
  first|done|with_reducible rfl|rfl
 (try simp only[Act.put,s1,s2,s3]);refine tk 8 ?_;refine Qn (by kernel_rfl) ?_ _
 go_wp2
 go_ret;exact⟨rfl,Hl.o,Hp.o⟩
def KpB (b Bs:Nat) (W W':World):Prop:=W'.heap[b]?=W.heap[b]?/\W'.heap[Bs]?=W.heap[Bs]?
theorem KpB.refl(b a:Nat)(W:World):KpB b a W W:=⟨rfl,rfl⟩
theorem KpB.trans{a:Nat}{A B C:World}(h:KpB b a A B)(k:KpB b a B C):KpB b a A C:=⟨k.1.trans h.1,k.2.trans h.2⟩
theorem cell_of_block{a:Addr}(h:W'.heap[a.block]?=W.heap[a.block]?):W'.cell? a=W.cell? a:=by
 unfold World.cell?;rw[h]
def pJ (W:World) (b o:Nat) (qs:List aj) (cv:Nat->Value):Prop:=
 ∀k,k<qs.length->W.cell? ⟨b,o+k*3,none⟩=some (.string (aO qs k).nm)/\W.cell? ⟨b,o+k*3+1,none⟩=some (.int .i64 (aO qs k).pr)/\W.cell? ⟨b,o+k*3+2,none⟩=some (cv k)
theorem pJ.kept{o:Nat}{d:List aj}{cv:Nat->Value}(h:pJ W b o d cv)(c:W'.heap[b]?=W.heap[b]?):pJ W' b o d cv:=λk g=>by
 obtain⟨f,e,i⟩:=h k g;exact⟨(cell_of_block (a:=⟨b,o+k*3,none⟩) c).trans f,(cell_of_block (a:=⟨b,o+k*3+1,none⟩) c).trans e,(cell_of_block (a:=⟨b,o+k*3+2,none⟩) c).trans i⟩
theorem St{j:Nat}(h:j<n):iK n (n - j)=iK n (n - (j+1))++[j]:=by
 have e:n - j=n - (j+1)+1:=by omega
 rw[e,Ea]
 congr 2
 omega
theorem Su(F:Fence)(n:Nat)(w:F.fn 155)(q:F.round=none)(I:1<=n)(l f b o h:Nat)(d:List aj)(cv:Nat->Value)(r:d.length<=16)(g:∀k,∃a m c,cv k=.slice a m c)(J s:List Nat->World->Prop)
  (u:∀pre (x:Nat) W,J pre W->pre.length<d.length->YieldAt F (n - 1) prog l #[.int .i64 (x:Int),.agg #[(aO d x).nm,((aO d x).pr:Int),cv x]] W λe W'=>
   (e=.returned true/\J (pre++[x]) W'/\KpB b f W W')\/(e=.returned false/\s (pre++[x]) W'))
  (W:World) (p:W.cell? f=some (.slice (some ⟨b,o,none⟩) d.length h)) (y:pJ W b o d cv) (B:J [] W) :
  CallsIn F n prog 155 #[.func (.yield l) #[] #[],f] W λe W'=>(∃v,e=.returned v)/\
   ((∃t,t=iK d.length d.length/\J t W')\/(∃pre,True/\s pre W')):=by
 have Hg:wrap64 ((d.length:Int) - 1)=(d.length:Int) - 1:=by unfold wrap64;omega
 refine callsIn_of_wp func155 rfl w ?_ q;simp only[ntmps155,List.size_toArray,Qg,List.length_nil,Nat.reduceAdd,Nat.reduceSub,Array.replicate_succ,Array.replicate_zero,List.push_toArray,List.append_toArray,List.nil_append,List.cons_append]
 gi_wp2
 gi_loopw [3] (λi wr=>∃j:Nat,j<=d.length/\i=.int .i64 ((j:Int) - 1)/\J (iK d.length (d.length - j)) wr/\KpB b f W wr)
  λi _=>(intOf i+1).toNat
 case atStart=>exact⟨d.length,lR,rfl,by rw[Nat.sub_self];exact B,KpB.refl _ _ _⟩
 case round=>
  obtain⟨j,G,rfl,Ha,Hb⟩:=hrel;clear Hg;cases j with
  | zero=>
   rw[show ((0:Nat):Int) - 1=-1 from rfl];have C:=qI Ha;clear Ha
   gi_wp2
   go_end0
   exact⟨⟨_,rfl⟩,.inl ⟨_,rfl,by have:=C.o;rwa [Nat.sub_zero] at this⟩⟩
  | succ j=>
   rw[show ((j+1:Nat):Int) - 1=(j:Int) by omega];have Hf:j<d.length:=by omega
   obtain⟨c0,c1,c2⟩:=y.kept Hb.1 j Hf;have Hk:cl wr f (0) (.slice (some ⟨b,o,none⟩) d.length h):=(cell_of_block (a:=f) Hb.2).trans p;obtain⟨fn,tmps,assign,body,A,E⟩:=u _ j wr Ha (by rw[Sp];omega);have z:=qI (St Hf);have D:=qI Hb;have Hj:wrap64 ((j:Int) - 1)=(j:Int) - 1:=by unfold wrap64;omega
   obtain⟨ca,cm,cc,He⟩:=g j;rw[He] at c2 A;generalize aO d j=x at *;clear Ha Hb u g He
   gi_wp2
   refine E.mono ?_;rintro e H (⟨rfl,Hi,Hh⟩|⟨rfl,Hc⟩)
   ·gi_wp2
    go_roundw
    case rel=>exact⟨j,by omega,rfl,by rw[z.o];exact Hi,D.o.trans Hh⟩
    case measure=>simp[intOf]
   ·gi_wp2
    refine Qx (results_none rfl _ _ _) rfl ?_;exact⟨⟨_,rfl⟩,.inr ⟨_,trivial,Hc⟩⟩
structure lO (w:World) (mc fc B n:Nat) (us:List ap):Prop where
 m:w.cell? mc=some (.map B)
 f:w.cell? fc=some (.func (.func 150) #[] #[.pointer (some ⟨mc,0,none⟩)])
 u:ez w B n us
theorem lO.lts(h:lO w mc fc B n us):mc<w/\fc<w/\B<w:=⟨Q3 w _ h.m,Q3 w _ h.f,h.u.lt⟩
theorem lO.below(h:lO w mc fc B n us)(a:Below K w w')(b:mc<K/\fc<K/\B<K):lO w' mc fc B n us:=
 ⟨(a.cell (p:=mc) b.1).trans h.m,(a.cell (p:=fc) b.2.1).trans h.f,h.u.below a b.2.2⟩
abbrev uj:=λ(x0:aj) (x1:Option Addr) (x2 x3:Nat)=>(.cells #[x0.nm,(x0.pr:Int),.slice x1 x2 x3] 49:Obj)
theorem Sv(p q:aj)(cp d:Value)(f l B n:Nat)(us:List ap)(w:World)(g:aQ w cp p.cs)(s:aQ w d q.cs)(C:ib p.cs)(F:ib q.cs)(G:p.nm.size<=1000)(h:q.nm.size<=1000)(b:lO w f l B n us)(y:ox us) :
  Calls prog 152 #[cz p cp,cz q d,l] w λe w'=>e=.returned (rt (fI us p) (fI us q):Int)/\Below w w w'/\w.drawn<=w'.drawn:=by
 have I:=g.slice;have A:=s.slice;have x:Hu (rt (fI us p) (fI us q)=or4 (Lib.compareInt (dR (cN us p.nm - cV p.cs p.cs.length)) (dR (cN us q.nm - cV q.cs q.cs.length))) (Lib.compareInt p.pr q.pr) (Lib.compareInt (cN us q.nm - cV q.cs q.cs.length) (cN us p.nm - cV p.cs p.cs.length)) (bK p.nm q.nm)):=rfl;have v:=((Q0 w w).alloc (lR) (pI p cp)).alloc (by simp) (pI q d);have Hp:=fC v;have He:=qI Hp;have Hh:=qI (((gB.made w p cp).alloc (pI q d)).below (fC (Q0 _ _)));have j:=(gB.made (w.alloc (pI p cp)) q d).below (fC (Q0 _ _));rw[show (w.alloc (pI p cp)).heap.size=w.heap.size+1 by simp] at j;have Hm:=qI j;have z:=qI (b.below Hp b.lts);have Hq:=qI λW (hb:Below w w W)=>Ef p cp f B n us W (g.below hb) C (b.below hb b.lts).m (b.below hb b.lts).u y G;have Hk:=qI λW (hb:Below w w W)=>Ef q d f B n us W (s.below hb) F (b.below hb b.lts).m (b.below hb b.lts).u y h;have Ho:=qI λW (hb:Below w w W)=>b.below hb b.lts;unfold cz at Hq Hk ⊢;obtain⟨r,k,t,rfl⟩:=I;obtain⟨i,m,o,rfl⟩:=A;rw[x.o];clear x g s b v Hp j;generalize cN us p.nm - cV p.cs p.cs.length=X at *;generalize cN us q.nm - cV q.cs q.cs.length=Y at *;have Ht:Hu (w.drawn<=(((w.alloc (uj p r k t)).alloc (uj q i m o)).drew).drawn):=Nat.le_succ _
 go_enter func152,ntmps152
 go_wp2_with fail
 refine wp_region_held_drew (S:=(λw'=>(cl w' w (0) p.nm/\cl w' w (1) (p.pr:Int)/\cl w' w (2) (.slice r k t))/\(cl w' (w.heap.size+1) (0) q.nm/\cl w' (w.heap.size+1) (1) (q.pr:Int)/\cl w' (w.heap.size+1) (2) (.slice i m o))/\cl w' l (0) (.func (.func 150) #[] #[.pointer (some ⟨f,0,none⟩)]))) (by kernel_rfl) ⟨Hh.o.2,Hm.o.2,(Ho.o _ He.o).f⟩ λhHeld=>?_;refine tk 0 ?_;refine tk 1 ?_;refine tk 3 ?_;refine tk 4 ?_;refine rd 2 λK a=>?_;go_simp
 go_wp2_with fail
 refine (Hq.o _ He.o).mono ?_;rintro e J ⟨rfl,Hf,Hx⟩;have Hl:=qI (Hh.o.below Hf);have Hi:=qI (Hm.o.below Hf);have Hc:=qI (He.o.trans (Hf.mono He.o.size));have Hv:=qI (Q5 Ht.o Hx);clear Hf Hx
 go_wp2_with fail
 refine a.o _ _ ⟨Hl.o.2,Hi.o.2,(Ho.o _ Hc.o).f⟩ λhHeld=>?_;clear a K;refine rd 5 λK a=>?_;go_simp
 go_wp2_with fail
 refine (Hk.o _ Hc.o).mono ?_;rintro e D ⟨rfl,Hg,u⟩;have Hj:=qI (Hl.o.below Hg);have Hr:=qI (Hi.o.below Hg);have Hn:=qI (Hc.o.trans (Hg.mono Hc.o.size));have Hw:=qI (Q5 Hv.o u);clear Hg u
 go_wp2_with fail
 refine a.o _ _ ⟨Hj.o.2,Hr.o.2,(Ho.o _ Hn.o).f⟩ λhHeld=>?_;clear a K;refine tk 6 ?_;refine tk 7 ?_;refine Qn (by kernel_rfl) ?_ _;have Hb:=qI (Hj.o.below (fC (Q0 _ _)));have Ha:=qI (Hr.o.below (fC (Q0 _ _)));have Hs:=qI (fC Hn.o);have E:=qI (show w.drawn<=D.drew.drawn from Nat.le_succ_of_le Hw.o);clear hHeld Hl Hi Hc Hv Hh Hm He z Hq Hk Hj Hr Hn Hw Ht
 go_wp2_with fail
 refine wp_region_held_drew (S:=(λw'=>(cl w' w (0) p.nm/\cl w' w (1) (p.pr:Int)/\cl w' w (2) (.slice r k t))/\(cl w' (w.heap.size+1) (0) q.nm/\cl w' (w.heap.size+1) (1) (q.pr:Int)/\cl w' (w.heap.size+1) (2) (.slice i m o)))) (by kernel_rfl) ⟨Hb.o.2,Ha.o.2⟩ λhHeld=>?_;refine tk 0 ?_;refine tk 2 ?_;refine tk 5 ?_;refine tk 6 ?_;refine tk 7 ?_;refine tk 8 ?_;refine tk 10 ?_;refine tk 11 ?_;refine tk 13 ?_;refine tk 14 ?_;refine tk 15 ?_;refine tk 16 ?_;refine rd 1 λK a=>?_;go_simp
 go_wp2_with fail
 refine (D8 X _).mono ?_;rintro e c ⟨rfl,rfl⟩
 go_wp2_with fail
 refine a.o _ _ ⟨Hb.o.2,Ha.o.2⟩ λhHeld=>?_;clear a K;refine rd 3 λK a=>?_;go_simp
 go_wp2_with fail
 refine (D8 Y _).mono ?_;rintro e c ⟨rfl,rfl⟩
 go_wp2_with fail
 refine a.o _ _ ⟨Hb.o.2,Ha.o.2⟩ λhHeld=>?_;clear a K;refine rd 4 λK a=>?_;go_simp
 go_wp2_with fail
 refine (rx _ _ _).mono ?_;rintro e c ⟨rfl,rfl⟩
 go_wp2_with fail
 refine a.o _ _ ⟨Hb.o.2,Ha.o.2⟩ λhHeld=>?_;clear a K;refine rd 9 λK a=>?_;go_simp
 go_wp2_with fail
 refine (rx _ _ _).mono ?_;rintro e c ⟨rfl,rfl⟩
 go_wp2_with fail
 refine a.o _ _ ⟨Hb.o.2,Ha.o.2⟩ λhHeld=>?_;clear a K;refine rd 12 λK a=>?_;go_simp
 go_wp2_with fail
 refine (rx _ _ _).mono ?_;rintro e c ⟨rfl,rfl⟩
 go_wp2_with fail
 refine a.o _ _ ⟨Hb.o.2,Ha.o.2⟩ λhHeld=>?_;clear a K;refine rd 17 λK a=>?_;go_simp
 go_wp2_with fail
 refine (Sg _ _ _).mono ?_;rintro e c ⟨rfl,rfl⟩
 go_wp2_with fail
 refine a.o _ _ ⟨Hb.o.2,Ha.o.2⟩ λhHeld=>?_;clear a K;have Hz:=qI (Hb.o.alloc (.cells #[(Lib.compareInt (dR X) (dR Y):Int),(Lib.compareInt p.pr q.pr:Int),(Lib.compareInt Y X:Int),(bK p.nm q.nm:Int)] 3));have Hy:=qI (Ha.o.alloc (.cells #[(Lib.compareInt (dR X) (dR Y):Int),(Lib.compareInt p.pr q.pr:Int),(Lib.compareInt Y X:Int),(bK p.nm q.nm:Int)] 3));have H:=qI (Hs.o.alloc Hs.o.size (.cells #[(Lib.compareInt (dR X) (dR Y):Int),(Lib.compareInt p.pr q.pr:Int),(Lib.compareInt Y X:Int),(bK p.nm q.nm:Int)] 3));refine rd 18 λK a=>?_;go_simp
 go_wp2_with fail
 refine a.o _ _ ⟨Hz.o.2,Hy.o.2⟩ λhHeld=>?_;clear a K;refine rd 19 λK a=>?_;go_simp
 go_wp2_with fail
 refine (Sh (Lib.compareInt (dR X) (dR Y)) (Lib.compareInt p.pr q.pr) (Lib.compareInt Y X) (bK p.nm q.nm) _ _ _ (by simp) (by simp) (by simp) (by simp)).mono ?_;rintro e c ⟨rfl,rfl⟩
 go_wp2_with fail
 refine a.o _ _ ⟨Hz.o.2,Hy.o.2⟩ λhHeld=>?_;clear a K;refine tk 20 ?_;refine Qn (by kernel_rfl) ?_ _
 go_wp2
 go_ret;exact⟨rfl,H.o,E.o⟩
end Go.Proofs.YtjlblidnfebmiaaGreatDoor
namespace Go.Proofs
open Go.Shelf
def Tryz.clonePL_ren:Go.Shelf.Ren:=⟨fun|41=>149|n=>n,fun|22=>67|23=>49|4=>4|n=>n,fun|n=>n⟩
theorem Tryz.clonePL:Go.Proofs.SlLaysE0.n41 Tryz.prog Tryz.clonePL_ren:=by
 constructor
 case f41=>exact ⟨Tryz.f149.name,by decide,Tryz.func149.trans (congrArg some (by kernel_rfl))⟩
 all_goals intros;kernel_rfl
end Go.Proofs
namespace Go.Proofs.YtjlblidnfebmiaaGreatDoor
variable{ps:List aj}{w:World}
def iL (ps:List aj) (cv:Nat->Value):List (aj × Value):=(List.range ps.length).map λj=>(aO ps j,cv j)
theorem rA(a:List aj)(cv:Nat->Value):(iL a cv).length=a.length:=by simp[iL]
theorem Sw(a:List aj)(cv:Nat->Value)(k:Nat)(h:k<(iL a cv).length):(iL a cv)[k]=(aO a k,cv k):=by simp[iL]
theorem Sx{b o:Nat}{cv:Nat->Value}(h:nM w b o ps cv)(j:Nat)(u:Value)(a:(prV (iL ps cv))[j]?=some u):w.cell? ((⟨b,o,none⟩:Addr).add j)=some u:=by
 have Ha:j<ps.length*3:=by
  have:=(List.getElem?_eq_some_iff.1 a).1
  rw[A9,rA] at this;exact this
 obtain⟨d,c,f,_⟩:=h.at (k:=j / 3) (by omega);have g:j / 3<(iL ps cv).length:=by rw[rA];omega
 obtain⟨c0,c1,c2⟩:=Bb (iL ps cv) (j / 3) g;rw[Sw] at c0 c1 c2;rw[Addr.add_lit]
 have:j=j / 3*3\/j=j / 3*3+1\/j=j / 3*3+2:=by omega
 rcases this with e|e|e
 ·rw[<- e] at c0 d;rw[d,<- c0,a]
 ·rw[<- e] at c1;rw[Nat.add_assoc,<- e] at c;rw[c,<- c1,a]
 ·rw[<- e] at c2;rw[Nat.add_assoc,<- e] at f;rw[f,<- c2,a]
theorem Sy{cv:Nat->Value}(h:∀k,k<ps.length->∃a n c,cv k=.slice a n c):∀u∈prV (iL ps cv),u.oneCell'=true:=by
 intro u b;simp only[prV,List.mem_flatMap] at b;obtain⟨x,d,b⟩:=b;simp only[iL,Qk,List.mem_range] at d;obtain⟨k,f,rfl⟩:=d;obtain⟨a,n,c,e⟩:=h k f
 simp[e] at b
 rcases b with rfl|rfl|rfl <;> rfl
theorem Sz(a:Option Addr)(n c:Nat)(w:World):Sem.run prog (binOp BinOp.eql 67 (.slice a n c) (.slice none 0 0)) w=.ok a.isNone w:=Lib.run_eql_slice_nil w _ _ a n c 0 0 underlying67
theorem Eg(a:Addr)(c:Nat)(l:List (aj × Value))(w:World)(d:∀j u,(prV l)[j]?=some u->w.cell? (a.add j)=some u)(i:∀u∈prV l,u.oneCell'=true)(n:l.length<=16) :
  Calls prog 149 #[.slice (some a) l.length c] w λe w'=>∃v,e=.returned v/\w'.ownsRow w 49 3 v l.length (prV l)/\Below w w w':=by
 obtain⟨i0,hi,Hf,Hg,He⟩:=A7 Lv;have k:=qI ((Q0 w w).alloc (lR) (.cells #[] 49));have m:Hu (∀j u,(prV l)[j]?=some u->(w.alloc (.cells #[] 49)).cell? (a.add j)=some u):=λj u b=>Lib.cell?_alloc_some _ (d j u b)
 have Hh:=Sz (some a) l.length c w;clear d
 go_enter func149,ntmps149
 go_wp2_with (at_builtin;(refine wpList_append_own _ rfl _ _ 67 rfl w 49 i0 (.agg #[ByteArray.empty,(0:Int),.slice none 0 0]) 3 48 underlying67 hi Hf Hg He rfl (by decide) _ _ _ rfl (World.ownsRow_lit w #[] 0 (lR) (Nat.zero_le _) rfl) a l.length c (prV l) rfl (A9 l) m.o i (by unfold maxLen;omega) (by omega) (by simp) ?_);intro f h Hb Ha _)
 have Hc:=qI (k.o.grown Ha (by simp) (λj b=>by cases b;exact lR));rw[Qd] at Hb;have g:Hu (h.ownsRow w 49 3 f l.length (prV l)):=by simpa[Hu] using Hb
 clear Hb Ha
 go_wp2
 go_ret;exact⟨_,rfl,g.o,Hc.o⟩
theorem SA(v:Value)(d:List aj)(w:World)(h:eO w v d)(p:d.length<=16) :
  Calls prog 149 #[v] w λe w'=>∃f l,e=.returned f/\w'.ownsRow w 49 3 f l.length (prV l)/\l.map Prod.fst=d/\(∀x∈l,aQ w x.2 x.1.cs)/\Below w w w':=by
 obtain⟨s,c,rfl,y,t⟩:=h
 by_cases r:0<d.length
 ·obtain⟨b,o,cv,rfl,Ha⟩:=t r;have m:=Eg ⟨b,o,none⟩ c (iL d cv) w (Sx Ha) (Sy λk i=>(Ha.2 k i).2.slice) (by rw[rA];exact p);rw[rA] at m;refine m.mono λe w' ⟨f,he,ho,hb⟩=>⟨f,iL d cv,he,by rw[rA];exact ho,?_,?_,hb⟩
  ·unfold iL;rw[List.map_map];exact Si d
  ·intro x g;simp only[iL,Qk,List.mem_range] at g;obtain⟨k,i,rfl⟩:=g;exact (Ha.2 k i).2
 ·have e:d=[]:=Qe (by omega);subst e
  rcases s with _|a
  ·refine (AnyE.slices_Clone_nil Tryz.clonePL 0 c w).mono ?_;rintro e w' ⟨rfl,rfl⟩;exact⟨_,[],rfl,Qw _ _ _ _,rfl,λx g=>by simp at g,Q0 _ _⟩
  ·exact (Eg a c [] w (λj u q=>by simp[prV] at q) (λu n=>by simp[prV] at n) (by simp)).mono λe w' ⟨f,he,ho,hb⟩=>⟨f,[],he,ho,rfl,λx g=>by simp at g,hb⟩
def txV (l:List ByteArray):List Value:=l.map Value.string
def lP (base:Nat) (w:World) (v:Value) (l:List ByteArray):Prop:=w.ownsRow base 9 1 v l.length (txV l)
theorem lP.below{base:Nat}{w':World}{v:Value}{l:List ByteArray}(h:lP base w v l)(a:Below w w w'):lP base w' v l:=
 World.ownsRow.kept (row:=none) h ⟨a.os,a.tape,a.output,a.size,λj b _=>a.block j b⟩ (by cases hv:v.ownBlock <;> simp)
theorem SC:(prog.info? 9).map (λi=>(i.zero,i.size,i.bytes))=some (some (.string ByteArray.empty),1,16):=by kernel_rfl
theorem SD(w:World)(s:ByteArray)(t:TypeId):∀j u,[Value.string s][j]?=some u->(w.alloc (.cells #[s] t)).cell? ((w.heap.size:Addr).add j)=some u:=by simp_all[Addr.add_lit]
theorem SE(v:Value)(a:List aj)(w:World)(h:eO w v a)(z:a.length<=16):Calls prog 113 #[v] w λe w'=>(∃n,e=.returned n/\lP w w' n (a.map aj.nm))/\Below w w w':=by
 obtain⟨i0,hi,Hl,Hs,Hr⟩:=A7 SC;obtain⟨t,c,rfl,r,p⟩:=h;have q:=qI p;clear p r
 go_enter func113,ntmps113
 go_wp2
 go_loopw [3,8] (λg i wr=>∃k:Nat,k<=a.length/\i=.int .i64 k/\Below w w wr/\lP w wr g ((a.take k).map aj.nm)) (λ_ i _=>a.length - (intOf i).toNat)
 case atStart=>exact⟨0,by omega,rfl,Q0 _ _,Qw _ _ _ _⟩
 case round=>
  obtain⟨k,y,rfl,j,f⟩:=hrel
  by_cases l:k<a.length
  ·obtain⟨b,o,cv,rfl,He⟩:=q.o (by omega);have He:=He.below j;obtain⟨c0,c1,c2,Hh⟩:=He.at l;have Hv:=Hh.slice;have Hg:=(Q0 wr wr).alloc (lR) (.cells #[(aO a k).nm,((aO a k).pr:Int),cv k] 49);have Hi:=qI (j.trans (Hg.mono j.size));have Hq:=qI (f.below Hg);have Ho:Hu ((a.take (k+1)).map aj.nm=(a.take k).map aj.nm++[(aO a k).nm]):=by
    unfold Hu;rw[Lc l,Qj];rfl
   have Hj:=qI (World.ownsRow.lt f);have Hx:((a.take k).map aj.nm).length<=16:=by rw[Q9,Qu];omega
   clear He Hh Hg j f;generalize (a.take k).map aj.nm=L at *;generalize aO a k=x at *;generalize cv k=d at *;obtain⟨da,dn,dc,rfl⟩:=Hv;have Hf:=qI (Hi.o.alloc Hi.o.size (.cells #[x.nm] 9));have Hm:=qI (Hq.o.below ((Q0 _ _).alloc (lR) (.cells #[x.nm] 9)));have Hc:=SD (wr.alloc (uj x da dn dc)) x.nm 9;rw[show (wr.alloc (uj x da dn dc)).heap.size=wr.heap.size+1 by simp] at Hc;have Hc:=qI Hc
   go_wp2_with (at_builtin;refine wpList_append_own _ rfl _ _ 105 rfl w 9 i0 ByteArray.empty 1 16 underlying105 hi Hl Hs Hr rfl (by decide) u3 _ _ rfl Hm.o ⟨_,0,none⟩ 1 1 [.string x.nm] rfl rfl Hc.o (by intro u m;simp at m;subst m;rfl) (by unfold maxLen;omega) (by omega) Hf.o.size ?_;intro v2 s Hb Ha _)
   have Hk:=qI (Hf.o.grown Ha Hf.o.size λi hi=>(Hj.o i hi).1);have Hn:Hu (lP w s v2 (L++[x.nm])):=by
    unfold Hu lP txV;rw[Qj,Q2];exact Hb
   clear Hb Ha
   go_roundw
   case rel=>exact⟨k+1,by omega,by go_num,Hk.o,by rw[Ho.o];exact Hn.o⟩
   case measure=>simp[intOf];omega
  ·have Hw:k=a.length:=by omega
   subst Hw;have Ht:=qI j;rw[Qh] at f;have Hp:=qI f;clear j f
   go_wp2
   go_ret;exact⟨⟨_,rfl,Hp.o⟩,Ht.o⟩
end Go.Proofs.YtjlblidnfebmiaaGreatDoor
namespace Go.Proofs
open Go.Shelf
def Tryz.sortPL_ren:Go.Shelf.Ren:=⟨fun|6=>151|15=>161|14=>186|28=>202|29=>203|20=>233|21=>234|22=>235|23=>236|24=>237|25=>238|26=>239|27=>240|46=>276|47=>254|48=>255|49=>277|50=>278|57=>298|n=>n,fun|22=>67|24=>49|25=>262|3=>3|39=>219|0=>0|53=>296|55=>23|4=>4|46=>312|45=>311|50=>134|5=>5|9=>9|66=>357|70=>361|76=>389|77=>390|n=>n,fun|n=>n⟩
theorem Tryz.sortPL:Go.Proofs.SlLaysF0.n6 Tryz.prog Tryz.sortPL_ren:=by
 constructor
 case f6=>exact ⟨Tryz.f151.name,by decide,Tryz.func151.trans (congrArg some (by kernel_rfl))⟩
 case f14=>exact ⟨Tryz.f186.name,by decide,Tryz.func186.trans (congrArg some (by kernel_rfl))⟩
 case f20=>exact ⟨Tryz.f233.name,by decide,Tryz.func233.trans (congrArg some (by kernel_rfl))⟩
 case f21=>exact ⟨Tryz.f234.name,by decide,Tryz.func234.trans (congrArg some (by kernel_rfl))⟩
 case f22=>exact ⟨Tryz.f235.name,by decide,Tryz.func235.trans (congrArg some (by kernel_rfl))⟩
 case f23=>exact ⟨Tryz.f236.name,by decide,Tryz.func236.trans (congrArg some (by kernel_rfl))⟩
 case f24=>exact ⟨Tryz.f237.name,by decide,Tryz.func237.trans (congrArg some (by kernel_rfl))⟩
 case f25=>exact ⟨Tryz.f238.name,by decide,Tryz.func238.trans (congrArg some (by kernel_rfl))⟩
 case f26=>exact ⟨Tryz.f239.name,by decide,Tryz.func239.trans (congrArg some (by kernel_rfl))⟩
 case f27=>exact ⟨Tryz.f240.name,by decide,Tryz.func240.trans (congrArg some (by kernel_rfl))⟩
 case f46=>exact ⟨Tryz.f276.name,by decide,Tryz.func276.trans (congrArg some (by kernel_rfl))⟩
 case f49=>exact ⟨Tryz.f277.name,by decide,Tryz.func277.trans (congrArg some (by kernel_rfl))⟩
 case f50=>exact ⟨Tryz.f278.name,by decide,Tryz.func278.trans (congrArg some (by kernel_rfl))⟩
 case f57=>exact ⟨Tryz.f298.name,by decide,Tryz.func298.trans (congrArg some (by kernel_rfl))⟩
 all_goals intros;kernel_rfl
end Go.Proofs
namespace Go.Proofs.YtjlblidnfebmiaaGreatDoor
variable{W0 w:World}{base:Nat}{v:Value}
section
open Go.Sort (SWO PermIn SortedIn HoldsK flatK putRowK)
def OkE (W0:World) (x:aj × Value):Prop:=aQ W0 x.2 x.1.cs/\ib x.1.cs/\x.1.nm.size<=1000
abbrev PE (W0:World):={ x:aj × Value // OkE W0 x }
theorem ok0(W0:World):OkE W0 (mz,.slice none 0 0):=⟨⟨none,0,rfl,⟨by simp[mz],by decide⟩,λh=>by simp[mz] at h⟩,KT,by simp[mz]⟩
instance (W0:World):Inhabited (PE W0):=⟨⟨_,ok0 W0⟩⟩
def ik {W0:World} (x:PE W0):List Value:=[.string x.1.1.nm,.int .i64 x.1.1.pr,x.1.2]
def cfE {W0:World} (us:List ap) (x y:PE W0):Int:=rt (fI us x.1.1) (fI us y.1.1)
theorem ltE(us:List ap)(x y:PE W0):ltOf (cfE us) x y=kt (fI us x.1.1) (fI us y.1.1):=rfl
theorem SF{W0:World}(us:List ap):SWO (ltOf (cfE (W0:=W0) us)) where
 irrefl _:=xL.irrefl _
 trans _ _ _ h1 h2:=xL.trans _ _ _ h1 h2
 ntrans _ _ _ h1 h2:=xL.ntrans _ _ _ h1 h2
theorem SG{w':World}(e:Below w w w')(hd:w.drawn<=w'.drawn):∃q os,w'=Go.Sort.grow (w.drewN q) os:=by
 refine⟨w'.drawn - w.drawn,w'.heap.extract w w',?_⟩;obtain⟨b,c,a,g,f⟩:=e;have d:w'.heap=w.heap++w'.heap.extract w w':=by
  apply Array.ext_getElem?
  intro i
  by_cases hi:i<w
  ·rw[Array.getElem?_append_left hi];exact f i hi
  ·rw[Array.getElem?_append_right (by omega),Array.getElem?_extract]
   by_cases h:i<w'
   ·rw[if_pos (by omega)]
    congr 1
    omega
   ·rw[if_neg (by omega)];exact Array.getElem?_eq_none (by omega)
 unfold Go.Sort.grow World.drewN;cases w';cases w;simp only at b c a hd d;simp only[World.mk.injEq];exact⟨d,c,by omega,b,a⟩
theorem xO(w:World)(blk off m:Nat)(b:Array (PE W0))(os:Array Obj):w.grownBy (sortWorldK ik 3 w blk off m b os) (some blk):=by
 refine⟨rfl,rfl,rfl,?_,λj d a=>?_⟩
 ·simp[sortWorldK,Go.Sort.grow,putRowK,Go.Sort.putRow,Go.Sort.mapBlock,Go.Sort.ahead]
 ·have c:blk≠j:=λe=>a (by rw[e])
  simp[sortWorldK,Go.Sort.grow,putRowK,Go.Sort.putRow,Go.Sort.mapBlock,Go.Sort.ahead,Array.getElem?_append,Array.getElem_modify,d,c]
theorem Eh(x:PE W0):(ik x)[0]! = .string x.1.1.nm/\(ik x)[1]! = .int .i64 x.1.1.pr/\(ik x)[2]! = x.1.2:=⟨rfl,rfl,rfl⟩
theorem SH{g f:Nat}{l:List (aj × Value)}(h:w.ownsRow base 49 3 (.slice g l.length f) l.length (prV l))(d:Array (PE W0))(hd:d.toList.map Subtype.val=l):HoldsK ik 3 w g 0 d/\g<w.heap.size/\base<=g:=by
 rcases h.2 with⟨i,_⟩|⟨z,o,c,i,v,a,He,Hg,_,y⟩
 ·cases i
 cases i;have Hf:d.size=l.length:=by rw[<- hd];simp
 refine⟨λj n=>?_,?_,v⟩
 ·rw[Go.Sort.size_flatK] at n;rw[Go.Sort.get_flatK _ _ _ _ n];have k:j / 3<l.length:=by omega
  have e:d[j / 3]!.1=l[j / 3]:=by
   have Ha:j / 3<d.size:=by omega
   rw[getElem!_pos d (j / 3) Ha]
   have:(d.toList.map Subtype.val)[j / 3]?=l[j / 3]?:=by rw[hd]
   rw[List.getElem?_map,Qf k] at this
   simp[Ha] at this
   exact this
  obtain⟨p,m,q⟩:=Bb l (j / 3) k;have b:(prV l)[j]?=some ((ik d[j / 3]!)[j % 3]!):=by
   obtain⟨s,u,x⟩:=Eh d[j / 3]!
   have:j % 3=0\/j % 3=1\/j % 3=2:=by omega
   rcases this with r|r|r
   ·rw[r,s,e];rw[show j / 3*3=j by omega] at p;exact p
   ·rw[r,u,e];rw[show j / 3*3+1=j by omega] at m;exact m
   ·rw[r,x,e];rw[show j / 3*3+2=j by omega] at q;exact q
  rw[<- y,List.getElem?_take] at b
  split at b
  ·have t:c[j]?=some ((ik d[j / 3]!)[j % 3]!):=by simpa using b
   refine⟨?_,?_⟩
   ·unfold World.cell?;rw[a];simp[t]
   ·unfold World.frozen?;rw[a];simp
  ·cases b
 ·rcases Nat.lt_or_ge g w with Hb|Hc
  ·exact Hb
  ·rw[Array.getElem?_eq_none Hc] at a;cases a
def rB (us:List ap) (ps qs:List aj):Prop:=qs.Perm ps/\uh (qs.map (fI us))
theorem SI(us:List ap)(W0 w:World)(l:List (aj × Value))(v:Value)(K u f B n:Nat)(b:w.ownsRow K 49 3 v l.length (prV l))(s:∀x∈l,OkE W0 x)(W:l.length<=16)(z:Below W0 W0 w)(T:W0.heap.size<=K)
  (C:lO w u f B n us) (t:u<K/\B<K) (D:∀g,v.ownBlock=some g->f≠g) (M:ox us) :
  Calls prog 151 #[v,.func (.func 152) #[] #[.pointer (some ⟨f,0,none⟩)]] w λe w'=>e=.returned (.tuple #[])/\(∃H,eO w' v H/\rB us (l.map Prod.fst) H)/\Below K w w':=by
 by_cases L:0<l.length
 ·obtain⟨g,q,rfl,V,Hv,Hk,Ha,_⟩:=A8 b L
  let d:Array (PE W0):=(l.pmap (λx h=>(⟨x,h⟩:PE W0)) s).toArray
  have hd:d.toList.map Subtype.val=l:=by
   show ((l.pmap (λx h=>(⟨x,h⟩:PE W0)) s)).map Subtype.val=l
   rw[List.map_pmap]
   simp
  have Hj:d.size=l.length:=by rw[<- hd];simp
  obtain⟨I,_,_⟩:=SH b d hd;have U:∀args w,(callFunc 152 args).run prog w=.ok (.enter 152 args) w:=enters_of func152 (by kernel_rfl) rfl;have Hs:f≠g:=D g rfl;have Hh:CmpLays prog 152 #[f] (ik (W0:=W0)) 3 (cfE us) g 0 d.size w:=by
   intro m os A _ x y;have F:=xO w g 0 m A os;have Hg:Below W0 W0 (sortWorldK ik 3 w g 0 m A os):=z.trans (below_grown F (K:=W0.heap.size) (by have:=z.size;omega) (λj o=>by cases o;omega));have Hm:Below K w (sortWorldK ik 3 w g 0 m A os):=below_grown F (K:=K) (by omega) (λj o=>by cases o;exact Hk);have Hr:lO (sortWorldK ik 3 w g 0 m A os) u f B n us:=⟨(Hm.cell (p:=u) t.1).trans C.m,(F.cell_far f C.lts.2.1 (by simpa using Hs)).trans C.f,C.u.below Hm t.2⟩;refine (Sv x.1.1 y.1.1 x.1.2 y.1.2 u f B n us _ (x.2.1.below Hg) (y.2.1.below Hg) x.2.2.1 y.2.2.1 x.2.2.2 y.2.2.2 Hr M).mono λe w' ⟨he,hb,hdr⟩=>⟨he,SG hb hdr⟩
  have Q:∀x:PE W0,∀v∈ik x,v.oneCell'=true:=by
   intro x v r;obtain⟨a,n,c,e⟩:=x.2.1.slice
   simp[ik,e] at r
   rcases r with rfl|rfl|rfl <;> rfl
  have Hc:=AnyQ.slices_SortFunc Tryz.sortPL 3 isAgg49 sizeOf49 (ik (W0:=W0)) (λ_=>rfl) Q (cfE us) (SF us) 152 #[.pointer (some ⟨f,0,none⟩)] g 0 q d w U Hh I Ha (by omega)
  change Calls prog 151 _ _ _ at Hc
  rw[Hj] at Hc;refine Hc.mono λe w' ⟨he,d',m,os,hp,hs,hw'⟩=>⟨he,?_,?_⟩
  ·have He:d'.size=l.length:=by rw[hp.1,Hj]
   have Hn:=xO w g 0 m d' os;have Hg:Below W0 W0 w':=by rw[hw'];exact z.trans (below_grown Hn (K:=W0.heap.size) (by have:=z.size;omega) (λj o=>by cases o;omega))
   have Hi:HoldsK ik 3 w' g 0 d':=by
    rw[hw'];exact Go.Sort.holdsK_grow _ _ _ _ _ _ _ (by simpa[putRowK,Go.Sort.putRow,Go.Sort.mapBlock,Go.Sort.ahead] using Ha) (Go.Sort.holdsK_putRowK _ _ _ _ _ d _ (Go.Sort.holdsK_ahead _ _ _ _ _ _ _ I) (by rw[hp.1]))
   have Hb:(d'.toList.map λx=>x.1.1).length=l.length:=by simp[He]
   have Hp:∀k,k<l.length->aO (d'.toList.map λx=>x.1.1) k=d'[k]!.1.1:=by
    intro k E;have Hl:k<d'.size:=by omega
    rw[getElem!_pos d' k Hl]
    simp[aO,Hl]
   refine⟨d'.toList.map λx=>x.1.1,⟨_,q,by rw[Hb],by rw[Hb];omega,λ_=>⟨g,0,λk=>d'[k]!.1.2,rfl,?_,λk E=>?_⟩⟩,?_,?_⟩
   ·rw[hw'];exact Q1 Ha Hn.size
   ·rw[Hb] at E;rw[Hp k E];have c0:=(Hi.cell (i:=k) (c:=0) (by omega) (by omega)).1;have c1:=(Hi.cell (i:=k) (c:=1) (by omega) (by omega)).1;have c2:=(Hi.cell (i:=k) (c:=2) (by omega) (by omega)).1;obtain⟨J,R,S⟩:=Eh d'[k]!;rw[J] at c0;rw[R] at c1;rw[S] at c2;exact⟨⟨c0,c1,c2⟩,(d'[k]!).2.1.below Hg⟩
   ·have Hf:d'.toList.Perm d.toList:=by
     have:=hp.2.2
     simp only[Array.toList_extract,List.extract_eq_take_drop,List.drop_zero,Nat.sub_zero] at this;rw[List.take_of_length_le (by simp[He]),List.take_of_length_le (by simp[Hj])] at this;exact this
    have G:=Hf.map λx:PE W0=>x.1.1;have O:d.toList.map (λx:PE W0=>x.1.1)=l.map Prod.fst:=by rw[<- hd,List.map_map];rfl
    rw[O] at G;exact G
   ·unfold uh;rw[List.pairwise_map,List.pairwise_map,List.pairwise_iff_getElem];intro i j hi o Ht;have Ho:i<d'.size:=by simpa using hi
    have Hq:j<d'.size:=by simpa using o
    have:=hs i j (Nat.zero_le _) Ht (by omega)
    rw[getElem!_pos d' j Hq,getElem!_pos d' i Ho,ltE] at this
    simpa using this
  ·rw[hw'];exact below_grown (xO w g 0 m d' os) (K:=K) (by omega) (λj o=>by cases o;exact Hk)
 ·have e:l=[]:=Qe (by omega);subst e;have r:∃p c,v=.slice p 0 c:=by
   rcases b.2 with⟨r,_⟩|⟨g,q,N,r,_⟩
   ·exact⟨none,0,r⟩
   ·exact⟨_,q,r⟩
  obtain⟨p,c,rfl⟩:=r;have Hc:=AnyF.slices_SortFunc_none (P:=prog) (ρ:=Tryz.sortPL_ren) { Tryz.sortPL with } p c (.func (.func 152) #[] #[.pointer (some ⟨f,0,none⟩)]) w
  change Calls prog 151 _ _ _ at Hc
  exact Hc.mono λe w' ⟨he,hw'⟩=>⟨he,⟨[],⟨p,c,rfl,by simp,λh=>by simp at h⟩,List.Perm.refl _,List.Pairwise.nil⟩,by rw[hw'];exact Q0 _ _⟩
end
def oz (ps:List aj):Prop:=ps.length<=16/\∀x∈ps,ib x.cs/\x.nm.size<=1000
theorem oz.perm{b c:List aj}(h:oz b)(a:c.Perm b):oz c:=⟨by rw[a.length_eq];exact h.1,λx d=>h.2 x (a.mem_iff.1 d)⟩
theorem SJ{a:Addr}(h:w.cell? a=some v)(o:Obj):(w.alloc o).cell? a=some v:=
 (((Q0 w w).alloc (lR) o).cell (Q3 w _ h)).trans h
abbrev xP:=λ(x0:Nat)=>(.cells #[.func (.func 150) #[] #[.pointer (some ⟨x0,0,none⟩)]] 173:Obj)
theorem SK(v:Value)(b:List aj)(B n:Nat)(us:List ap)(w:World)(h:eO w v b)(hf:oz b)(o:ez w B n us)(F:ox us) :
  Calls prog 109 #[v,.map B] w λe w'=>(∃k f,e=.returned k/\eO w' k f/\rB us b f/\∃a m c,k=.slice a m c/\m<=c)/\Below w w w':=by
 have He:=(Q0 w w).alloc (lR) (.cells #[.map B] 205);have Hw:=qI He;have Hq:=qI (h.below He);have Hi:=qI (o.alloc (.cells #[.map B] 205));have Hr:(w.alloc (.cells #[.map B] 205)).cell? w=some (.map B):=by simp
 have Hy:(w.alloc (.cells #[.map B] 205)).heap.size=w.heap.size+1:=by simp
 have Hx:=o.lt;obtain⟨G,c,rfl,_,_⟩:=h;clear He o
 go_enter func109,ntmps109
 go_wp2_with fail
 generalize hW1:w.alloc (.cells #[.map B] 205)=i at *;clear hW1;refine (SA _ b _ Hq.o hf.1).mono ?_;rintro e q ⟨v2,l,rfl,Ha,d,s,Hb⟩;have Hz:=qI Hb;have Hf:=qI Ha;have Hg:l.length<=16:=by have:=hf.1;rw[<- d,Q9] at this;exact this
 have Ho:=qI (show ∀x∈l,OkE i x from λx t=>by
  have Hh:x.1∈b:=by rw[<- d];exact List.mem_map_of_mem t
  exact⟨s x t,(hf.2 x.1 Hh).1,(hf.2 x.1 Hh).2⟩)
 have A:=qI d;have Hp:∃a r cc,v2=.slice a r cc/\r<=cc:=by
  rcases Ha.2 with⟨j,_⟩|⟨g,E,y,j,_,_,Hm,_⟩
  ·exact⟨_,_,_,j,lR⟩
  ·exact⟨_,_,_,j,Hm⟩
 have z:=qI (show lO (q.alloc (xP w)) w q B n us from
  ⟨SJ ((Hb.cell (p:=w.heap.size) (by show w<i.heap.size;omega)).trans Hr) _,by simp,(Hi.o.below Hb Hi.o.lt).alloc _⟩)
 have Hl:=qI (Hb.alloc (by have:=Hb.size;omega) (xP w));have Hc:=qI (World.ownsRow.alloc Ha (xP w));have Hs:=qI (World.ownsRow.lt Ha);obtain⟨a2,n2,c2,rfl,Hn⟩:=Hp;clear Ha d s Hb hf Hf
 go_wp2_with fail
 refine (SI us i _ l _ i w q B n Hc.o Ho.o Hg Hl.o (lR) z.o ⟨by omega,by omega⟩ (λg D=>by have:=(Hs.o g D).2;omega) F).mono ?_;rintro e H ⟨rfl,⟨f,u,Hk⟩,Hj⟩;have C:=qI u;have Hv:=qI Hk;have Ht:=qI (Hw.o.trans ((Hl.o.trans Hj).mono (by omega)));clear u Hk Hj
 go_wp2
 go_ret;exact⟨⟨_,f,rfl,C.o,(by rw[<- A.o];exact Hv.o),_,_,_,rfl,Hn⟩,Ht.o⟩
def rC (w:World) (v:Value) (l:List ByteArray):Prop:=
 ∃ao c,v=.slice ao l.length c/\l.length<=c/\(0<l.length->∃g,ao=some ⟨g,0,none⟩/\g<w.heap.size/\∀k,k<l.length->w.cell? ⟨g,k,none⟩=some (.string (l.getD k ByteArray.empty)))
theorem lP.read{l:List ByteArray}(h:lP base w v l):rC w v l:=by
 by_cases c:0<l.length
 ·obtain⟨g,a,b,Ha,_,_,Hb,f⟩:=A8 h c;refine⟨_,a,b,Ha,λ_=>⟨g,rfl,Hb,λk d=>?_⟩⟩;refine f k _ ?_
  simp[txV,d]
 ·rcases h.2 with⟨b,i⟩|⟨g,a,e,b,_,_,Ha,_⟩
  ·exact⟨none,0,by rw[b];simp at c;simp[c],by omega,λh=>by omega⟩
  ·exact⟨_,a,b,Ha,λh=>by omega⟩
theorem Ei(h l n:Int)(w:World)(d:0<=l)(a:l<1073741824)(m:-17179869184<=h)(f:h<=17179869184)(o:-9223372036854775808<=n)(b:n<=9223372036854775807) :
  Calls prog 110 #[.agg #[h,l],n] w λe w'=>e=.returned (.agg #[(h+n / 1073741824+(l+n % 1073741824) / 1073741824:Int),((l+n) % 1073741824:Int)])/\Below w w w':=by
 have k:=yQ n;have g:=yQ (l+n % 1073741824);have i:wrap64 (l+n % 1073741824)=l+n % 1073741824:=by unfold wrap64;omega
 have c:wrap64 (h+n / 1073741824)=h+n / 1073741824:=by unfold wrap64;omega
 have j:wrap64 (h+n / 1073741824+(l+n % 1073741824) / 1073741824)=h+n / 1073741824+(l+n % 1073741824) / 1073741824:=by unfold wrap64;omega
 go_enter func110,ntmps110
 go_wp2_with fail
 (try simp only[Exit.inBlock,Exit.then]);refine bodyPost_ret (v:=.agg #[(h+n / 1073741824+(l+n % 1073741824) / 1073741824:Int),((l+n) % 1073741824:Int)]) ?_ rfl ⟨rfl,?_⟩
 ·rw[tn rfl];clear k g i c j;go_simp
 ·exact ((Q0 _ _).alloc (lR) _).alloc (by simp) _
