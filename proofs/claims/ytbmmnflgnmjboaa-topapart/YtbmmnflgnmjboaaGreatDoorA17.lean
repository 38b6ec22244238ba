import Derived.Test.YtbmmnflgnmjboaaGreatDoorA9
import Derived.Sort.Statements
import Derived.WideShapes
import Derived.WideAt
import Derived.Shelf.SlicesG.Cmp
import Derived.Ground.SlgcProg
import Derived.Maps.OwnSet
import Derived.StringKeys
import Derived.Laws.EntriesVeiled
set_option maxRecDepth 100000
set_option maxHeartbeats 16000000
namespace Go.Proofs.YtbmmnflgnmjboaaGreatDoor
section
namespace Qos
open Go.Sort
def bh (us:List Nd) (nm:ByteArray):Int:=((us.find? λu=>decide (u.kind=nm)).map Nd.many).getD 0
structure Key where
 ab:Int
 pr:Int
 nm:ByteArray
instance:Inhabited Key:=⟨⟨0,0,ByteArray.empty⟩⟩
def cz (x:Int):Int:=if 0<x then 0 else 1
def ltS (a b:ByteArray):Bool:=Op.bytesLess a.toList b.toList
def aU (a b:ByteArray):Int:=if ltS a b=true then -1 else if ltS b a=true then 1 else 0
def orI (a b:Int):Int:=if a=0 then b else a
def jG (a b:Key):Int:=orI (Lib.compareInt (cz a.ab) (cz b.ab)) (orI (Lib.compareInt a.pr b.pr) (orI (Lib.compareInt b.ab a.ab) (aU a.nm b.nm)))
def iw (a b:Key):Bool:=decide (jG a b<0)
def key (us:List Nd) (p:Pd):Key:=⟨bh us p.nm - aP p.cs p.cs.length,p.pr,p.nm⟩
theorem oT:∀ a b:List UInt8,Op.bytesLess a b=bytesBefore a b
 | [],[]=>rfl
 | _ :: _,[]=>rfl
 | [],_ :: _=>rfl
 | a :: x,b :: y=>by rw [Op.bytesLess,bytesBefore,oT x y]
def one (b:Bool):Int:=if b=true then 1 else 0
theorem fI (b:Bool):one b=0\/one b=1:=by cases b <;> simp [one]
theorem oU (a:ByteArray):one (ltS a a)=0:=by simp [one,ltS,oT,WideAt.bytes_irrefl]
theorem mL (a b c:ByteArray):one (ltS a b)=1->one (ltS b c)=1->one (ltS a c)=1:=by
 simp only [one,ltS,oT];intro h1 h2;have Hb:bytesBefore a.toList b.toList=true:=by
  rcases Bool.eq_false_or_eq_true (bytesBefore a.toList b.toList) with h|h
  ·exact h
  ·rw [h] at h1;cases h1
 have Ha:bytesBefore b.toList c.toList=true:=by
  rcases Bool.eq_false_or_eq_true (bytesBefore b.toList c.toList) with h|h
  ·exact h
  ·rw [h] at h2;cases h2
 rw [WideShapes.bytes_trans _ _ _ Hb Ha];rfl
theorem Je {a b:ByteArray} (h:a.toList=b.toList):a=b:=by
 rw [Qs,Qs] at h;exact ByteArray.ext (Array.toList_inj.mp h)
theorem rH (a b:ByteArray):one (ltS a b)=0->one (ltS b a)=0->a=b:=by
 simp only [one,ltS,oT];intro h1 h2
 by_cases e:a.toList=b.toList
 ·exact Je e
 ·rcases WideAt.bytes_total _ _ e with h|h
  ·rw [h] at h1;cases h1
  ·rw [h] at h2;cases h2
theorem mM (a b:ByteArray):one (ltS a b)=1->one (ltS b a)=0:=by
 intro h
 rcases fI (ltS b a) with g|g
 ·exact g
 ·have:=mL a b a h g
  rw [oU] at this;cases this
theorem iX (a b c:ByteArray):one (ltS a b)=0->one (ltS b c)=0->one (ltS a c)=0:=by
 intro h1 h2
 rcases fI (ltS a c) with g|g
 ·exact g
 rcases fI (ltS b a) with k|k
 ·rw [rH a b h1 k] at g;omega
 ·have:=mL b a c k g;omega
theorem xT (a b:Key):iw a b=true↔(cz a.ab<cz b.ab\/(cz a.ab=cz b.ab/\(a.pr<b.pr\/(a.pr=b.pr/\(b.ab<a.ab\/(a.ab=b.ab/\one (ltS a.nm b.nm)=1)))))):=by
 unfold iw jG orI Lib.compareInt aU;have hs:=mM a.nm b.nm;generalize cz a.ab=ta;generalize cz b.ab=tb;generalize ltS a.nm b.nm=s1 at *;generalize ltS b.nm a.nm=s2 at *;rw [decide_eq_true_iff];cases s1 <;> cases s2 <;> simp [one] at*<;> (repeat' split) <;> omega
theorem xU (a b:Key):iw a b=false↔¬ (cz a.ab<cz b.ab\/(cz a.ab=cz b.ab/\(a.pr<b.pr\/(a.pr=b.pr/\(b.ab<a.ab\/(a.ab=b.ab/\one (ltS a.nm b.nm)=1)))))):=by
 rw [<- xT];simp
theorem rI:SWO iw where
 irrefl a:=by
  rw [xU]
  have:=oU a.nm
  omega
 trans a b c h1 h2:=by
  rw [xT] at *
  have:=mL a.nm b.nm c.nm
  omega
 ntrans a b c h1 h2:=by
  rw [xU] at *;have h3:=iX a.nm b.nm c.nm;have h4:=fI (ltS a.nm b.nm);have h5:=fI (ltS b.nm c.nm);have h6:=fI (ltS a.nm c.nm);omega
def oV (l:List Key):Prop:=l.Pairwise λa b=>iw b a=false
def tail (us:List Nd) (l:List Pd) (i:Nat):Int:=((l.drop i).map λp=>bh us p.nm).sum
theorem Jf (us:List Nd) (l:List Pd):tail us l l.length=0:=by simp [tail]
theorem Jg (us:List Nd) {l:List Pd} {i:Nat} (h:i<l.length):tail us l i=bh us (pd l i).nm+tail us l (i+1):=by
 unfold tail;rw [List.drop_eq_getElem_cons h,Qq,List.sum_cons,pd,List.getD_eq_getElem?_getD,Qf h];rfl
structure eu (us:List Nd) (l:List Pd) (most:Int) (i g:Nat):Prop where
 lo:i<=g
 hi:g<=l.length
 no:∀ j,i<=j->j<g->most<tail us l j
 yes:g<l.length->tail us l g<=most
theorem eu.start (us:List Nd) (l:List Pd) (most:Int):eu us l most l.length l.length:=⟨lR,lR,λj h1 h2=>by omega,λh=>by omega⟩
theorem eu.stay {us:List Nd} {l:List Pd} {most:Int} {i g:Nat} (h:eu us l most (i+1) g) (hm:most<tail us l i):eu us l most i g:=
 ⟨by have:=h.lo;omega,h.hi,λj h1 h2=>by
  by_cases e:j=i
  ·subst e;exact hm
  ·exact h.no j (by omega) h2,h.yes⟩
theorem eu.here {us:List Nd} {l:List Pd} {most:Int} {i:Nat} (hi:i<l.length) (hm:tail us l i<=most):eu us l most i i:=
 ⟨lR,by omega,λj h1 h2=>by omega,λ_=>hm⟩
end Qos
end
end Go.Proofs.YtbmmnflgnmjboaaGreatDoor
namespace Go.Proofs
open Go.Shelf
shelf_lay_g SlLaysC2.n5 Slgc 5 at Tryz 148 as Tryz.cmpL2
end Go.Proofs
namespace Go.Proofs.YtbmmnflgnmjboaaGreatDoor
section
open RowKit
open Qos (Nd Pd cz ltS aU orI)
theorem xV (x:Int) (w:World):Calls Tryz.prog 149 #[.int .i64 x] w λe w'=>e=.returned (.int .i64 (cz x))/\w'=w:=by
 have HT:Hid (cz x=if 0<x then 0 else 1):=rfl;generalize cz x=T at *
 by_cases h:0<x
 ·have HE:=qI (HT.out.trans (if_pos h));clear HT
  go_enter Tryz.func149,Tryz.ntmps149
  go_wp2
  go_ret;exact ⟨by rw [HE.out];rfl,rfl⟩
 ·have HE:=qI (HT.out.trans (if_neg h));clear HT
  go_enter Tryz.func149,Tryz.ntmps149
  go_wp2
  go_ret;exact ⟨by rw [HE.out];rfl,rfl⟩
theorem mN (x y:Int) (w:World):Calls Tryz.prog 148 #[.int .i64 x,.int .i64 y] w λe w'=>e=.returned (.int .i64 (Lib.compareInt x y))/\w'=w:=by
 have h:=AnyG.cmp_Compare_int Tryz.cmpL2 x y w
 change Calls Tryz.prog 148 _ _ _ at h
 exact h
theorem lm (x:ByteArray) (w:World):Calls Tryz.prog 123 #[.string x] w λe w'=>e=.returned (.bool false)/\w'=w:=by
 go_enter Tryz.func123,Tryz.ntmps123
 go_wp2
 go_ret;exact ⟨by simp,rfl⟩
theorem Jh (x y:ByteArray) (w:World):Calls Tryz.prog 77 #[.string x,.string y] w λe w'=>e=.returned (.int .i64 (aU x y))/\w'=w:=by
 have HT:Hid (aU x y=if ltS x y=true then -1 else if ltS y x=true then 1 else 0):=rfl;have Ha:=qI (Qos.rH x y);have Hc:=qI (Qos.mM x y);generalize aU x y=T at *
 rcases two (ltS x y) with h1|h1
 ·have HE:=qI (HT.out.trans (if_pos h1));have Hf:Op.bytesLess x.toList y.toList=true:=h1;clear HT h1 Ha Hc
  go_enter Tryz.func77,Tryz.ntmps77
  go_wp2_with fail
  refine (lm _ _).mono ?_;rintro e w1 ⟨rfl,rfl⟩
  go_wp2_with fail
  refine (lm _ _).mono ?_;rintro e w1 ⟨rfl,rfl⟩
  go_wp2
  go_ret;exact ⟨by rw [HE.out];rfl,rfl⟩
 ·have Hb:=qI (HT.out.trans (if_neg (by rw [h1];decide)));have Hf:Op.bytesLess x.toList y.toList=false:=h1
  rcases two (ltS y x) with h2|h2
  ·have HE:=qI (Hb.out.trans (if_pos h2));have Hg:(x.toList == y.toList)=false:=by
    rw [mg];refine Q7 λe=>?_
    subst e;rw [h1] at h2;cases h2
   clear HT Hb h1 h2 Ha Hc
   go_enter Tryz.func77,Tryz.ntmps77
   go_wp2_with fail
   refine (lm _ _).mono ?_;rintro e w1 ⟨rfl,rfl⟩
   go_wp2_with fail
   refine (lm _ _).mono ?_;rintro e w1 ⟨rfl,rfl⟩
   go_wp2
   go_ret;exact ⟨by rw [HE.out];rfl,rfl⟩
  ·have HE:=qI (Hb.out.trans (if_neg (by rw [h2];decide)));have He:x=y:=Ha.out (by rw [h1];rfl) (by rw [h2];rfl);subst He;clear HT Hb h1 h2 Ha Hc
   go_enter Tryz.func77,Tryz.ntmps77
   go_wp2_with fail
   refine (lm _ _).mono ?_;rintro e w1 ⟨rfl,rfl⟩
   go_wp2_with fail
   refine (lm _ _).mono ?_;rintro e w1 ⟨rfl,rfl⟩
   go_wp2
   go_ret;exact ⟨by rw [HE.out];rfl,rfl⟩
def or4 (a b c d:Int):Int:=orI a (orI b (orI c d))
theorem Ji (a b c d:Int) (g n:Nat) (w:World) (h0:w.cell? ⟨g,0,none⟩=some (.int .i64 a)) (h1:w.cell? ⟨g,1,none⟩=some (.int .i64 b)) (h2:w.cell? ⟨g,2,none⟩=some (.int .i64 c)) (h3:w.cell? ⟨g,3,none⟩=some (.int .i64 d)) :
  Calls Tryz.prog 76 #[.slice (some ⟨g,0,none⟩) 4 n] w λe w'=>e=.returned (.int .i64 (or4 a b c d))/\w'=w:=by
 have HO:Hid (∀ k:Nat,k<4->∃ v:Int,w.cell? ⟨g,k,none⟩=some (.int .i64 v)/\(v=if k=0 then a else if k=1 then b else if k=2 then c else d)):=by
  intro k hk
  have:k=0\/k=1\/k=2\/k=3:=by omega
  rcases this with rfl|rfl|rfl|rfl
  ·exact ⟨a,h0,rfl⟩
  ·exact ⟨b,h1,rfl⟩
  ·exact ⟨c,h2,rfl⟩
  ·exact ⟨d,h3,rfl⟩
 clear h0 h1 h2 h3
 go_enter Tryz.func76,Tryz.ntmps76
 go_wp2_with fail
 go_loop [8] (λi=>∃ k:Nat,k<=4/\i=.int .i64 k/\Hid ((0<k->a=0)/\(1<k->b=0)/\(2<k->c=0)/\(3<k->d=0))) (λi=>4 - (intOf i).toNat)
 case atStart=>exact ⟨0,by omega,rfl,⟨λh=>by omega,λh=>by omega,λh=>by omega,λh=>by omega⟩⟩
 case round=>
  obtain ⟨k,hk,rfl,HZ⟩:=hrel
  by_cases hlt:k<4
  ·obtain ⟨v,hc,hv⟩:=HO.out k hlt;have HV:=qI hv;clear hv
   by_cases h0:v=0
   ·subst h0;have Ha:Hid ((0<k+1->a=0)/\(1<k+1->b=0)/\(2<k+1->c=0)/\(3<k+1->d=0)):=by
     obtain ⟨z0,z1,z2,z3⟩:=HZ.out;have hv:=HV.out
     have:k=0\/k=1\/k=2\/k=3:=by omega
     rcases this with rfl|rfl|rfl|rfl
     ·simp at hv;exact ⟨λ_=>hv.symm,λh=>by omega,λh=>by omega,λh=>by omega⟩
     ·simp at hv;exact ⟨λ_=>z0 (by omega),λ_=>hv.symm,λh=>by omega,λh=>by omega⟩
     ·simp at hv;exact ⟨λ_=>z0 (by omega),λ_=>z1 (by omega),λ_=>hv.symm,λh=>by omega⟩
     ·simp at hv;exact ⟨λ_=>z0 (by omega),λ_=>z1 (by omega),λ_=>z2 (by omega),λ_=>hv.symm⟩
    go_wp2_with fail
    go_round
    case rel=>exact ⟨k+1,by omega,by go_num,Ha⟩
    case measure=>simp [intOf];omega
   ·have HE:Hid (or4 a b c d=v):=by
     obtain ⟨z0,z1,z2,z3⟩:=HZ.out;have hv:=HV.out
     have:k=0\/k=1\/k=2\/k=3:=by omega
     unfold Hid or4 orI
     rcases this with rfl|rfl|rfl|rfl
     ·simp at hv;subst hv;rw [if_neg h0]
     ·simp at hv;subst hv;rw [if_pos (z0 (by omega)),if_neg h0]
     ·simp at hv;subst hv;rw [if_pos (z0 (by omega)),if_pos (z1 (by omega)),if_neg h0]
     ·simp at hv;subst hv;rw [if_pos (z0 (by omega)),if_pos (z1 (by omega)),if_pos (z2 (by omega))]
    have hb:(v != 0)=true:=by simp [h0]
    go_wp2
    go_ret;exact ⟨by rw [HE.out];rfl,rfl⟩
  ·have Hb:k=4:=by omega
   subst Hb;have HE:Hid (or4 a b c d=0):=by
    obtain ⟨z0,z1,z2,z3⟩:=HZ.out;unfold Hid or4 orI;rw [if_pos (z0 (by omega)),if_pos (z1 (by omega)),if_pos (z2 (by omega)),z3 (by omega)]
   go_wp2
   go_ret;exact ⟨by rw [HE.out];rfl,rfl⟩
end
section
namespace Qos
def oW (us:List Nd) (ps:List Pd) (j:Nat):Key:=key us (pd ps j)
structure Sel (us:List Nd) (ps:List Pd) (D:Nat->Bool) (out:List Nat):Prop where
 nodup:out.Nodup
 mem:∀ j,j∈out↔(j<ps.length/\D j=true)
 srt:out.Pairwise λa b=>iw (oW us ps b) (oW us ps a)=false
 ahead:∀ a,a∈out->∀ j,j<ps.length->D j=false->iw (oW us ps j) (oW us ps a)=false
theorem Jj (ps:List Pd):(List.range ps.length).map (λj=>pd ps j)=ps:=by
 apply List.ext_getElem
 ·simp
 ·intro i h1 h2
  simp [pd,h2]
end Qos
end
section
open RowKit
open Qos (Nd Ct Pd nd0 ct0 pd0 nd ct pd gL gM eh quiet sure aO aP bX)
theorem Jk (p:Pd) (cv:Value) (w:World) (h:aD w cv p.cs) (hmi:bX p.cs):Calls Tryz.prog 37 #[bV p cv] w λe w'=>e=.returned (.agg #[.int .i64 (aO p.cs p.cs.length),.int .i64 (aP p.cs p.cs.length)])/\Below w.heap.size w w'/\w'.drawn=w.drawn:=by
 obtain ⟨ao,c,rfl,hm,hr⟩:=h;have HR:=qI hr;clear hr hm;unfold bV;have Hn:=qI ((((Q0 w.heap.size w).alloc (lR) (.cells #[.string p.nm,.int .i64 p.pr,.slice ao p.cs.length c] 47)).alloc (by simp) (.cells #[.int .i64 0,.int .i64 0] 60)).alloc (by simp;omega) (.cells #[.int .i64 0,.int .i64 0] 60));have Hg:Hid (bt (((w.alloc (.cells #[.string p.nm,.int .i64 p.pr,.slice ao p.cs.length c] 47)).alloc (.cells #[.int .i64 0,.int .i64 0] 60)).alloc (.cells #[.int .i64 0,.int .i64 0] 60)) (w.heap.size+1) 0 0/\bt (((w.alloc (.cells #[.string p.nm,.int .i64 p.pr,.slice ao p.cs.length c] 47)).alloc (.cells #[.int .i64 0,.int .i64 0] 60)).alloc (.cells #[.int .i64 0,.int .i64 0] 60)) (w.heap.size+1+1) 0 0):=by
  constructor
  ·have:=(bt.made (w.alloc (.cells #[.string p.nm,.int .i64 p.pr,.slice ao p.cs.length c] 47)) 60 0 0).alloc (.cells #[.int .i64 0,.int .i64 0] 60)
   simpa using this
  ·have:=bt.made ((w.alloc (.cells #[.string p.nm,.int .i64 p.pr,.slice ao p.cs.length c] 47)).alloc (.cells #[.int .i64 0,.int .i64 0] 60)) 60 0 0
   simpa using this
 generalize p.cs=cs at *;have Hi:=qI hmi;have Ht:=hmi.1;clear hmi
 go_enter Tryz.func37,Tryz.ntmps37
 go_wp2
 go_loopw [9] (λi wr=>∃ k:Nat,k<=cs.length/\i=.int .i64 k/\Below w.heap.size w wr/\bt wr (w.heap.size+1) 0 0/\bt wr (w.heap.size+1+1) (aO cs k) (aP cs k)/\Hid (wr.drawn=w.drawn)) (λi _=>cs.length - (intOf i).toNat)
 case atStart=>exact ⟨0,by omega,rfl,Hn.out,Hg.out.1,Hg.out.2,rfl⟩
 case round=>
  obtain ⟨k,hk,rfl,hB,Hh,Hf,Hj⟩:=hrel
  by_cases hlt:k<cs.length
  ·obtain ⟨b,o,dv,rfl,Ha⟩:=HR.out (by omega);have Ha:=Ha.below hB;obtain ⟨c0,c1,c2,c3,c4,c5⟩:=Ha.at hlt;have Hr:∃ a n e,dv k=.slice a n e:=by
    obtain ⟨a,e,he,_⟩:=(Ha.2 k hlt).2;exact ⟨a,_,e,he⟩
   have Hc:=qI (hB.alloc hB.size (.cells #[.string (ct cs k).nm,.int .i64 (ct cs k).am,.int .i64 (ct cs k).ab,.int .i64 (ct cs k).cm,.int .i64 (ct cs k).cb,dv k] 63));have Ho:=Hh.alloc (.cells #[.string (ct cs k).nm,.int .i64 (ct cs k).am,.int .i64 (ct cs k).ab,.int .i64 (ct cs k).cm,.int .i64 (ct cs k).cb,dv k] 63);have He:=Hf.alloc (.cells #[.string (ct cs k).nm,.int .i64 (ct cs k).am,.int .i64 (ct cs k).ab,.int .i64 (ct cs k).cm,.int .i64 (ct cs k).cb,dv k] 63);have Hb:=ij.made wr (ct cs k) (dv k);have Hk:Hid ((wr.alloc (.cells #[.string (ct cs k).nm,.int .i64 (ct cs k).am,.int .i64 (ct cs k).ab,.int .i64 (ct cs k).cm,.int .i64 (ct cs k).cb,dv k] 63)).drawn=w.drawn):=Hj.out;have Hp:Hid (aO cs (k+1)=aO cs k+(ct cs k).am):=rfl;have Hy:Hid (aP cs (k+1)=aP cs k+(ct cs k).ab):=rfl;obtain ⟨m1,m2,_⟩:=Hi.out.2 k hlt;obtain ⟨s1,s2⟩:=Qos.kT Hi.out hk;obtain ⟨s3,s4⟩:=Qos.j8 Hi.out hk;have Hs:=Hf.lt;clear Ha hB Hn Hg;generalize aO cs k=M at *;generalize aP cs k=N at *;generalize ct cs k=x at *;generalize dv k=d at *;obtain ⟨da,dn,dc,rfl⟩:=Hr;generalize hW1:wr.alloc (.cells #[.string x.nm,.int .i64 x.am,.int .i64 x.ab,.int .i64 x.cm,.int .i64 x.cb,.slice da dn dc] 63)=W1 at Ho He Hc Hb Hk;have e1:wrap64 (M+x.am)=M+x.am:=by unfold wrap64;omega
   have e2:wrap64 (N+x.ab)=N+x.ab:=by unfold wrap64;omega
   have Hl:=qI (bN W1 ⟨w.heap.size+1+1,0,none⟩ (.int .i64 (M+x.am)));have Hx:=qI (Ho.kept Hl.out (by simp));have Hm:=qI (He.set0 (M+x.am));have d2:=(Hl.out.cell_far ⟨wr.heap.size,2,none⟩ Hb.1 (by simp;omega)).trans Hb.2.2.2.1;obtain ⟨⟨f1,f2⟩,⟨f3,f4⟩⟩:=He;obtain ⟨⟨g1,g2⟩,⟨g3,g4⟩⟩:=Hm.out;obtain ⟨_,_,b1,_⟩:=Hb
   go_wp2_with fail
   have hz:=Hc.out.size;have Hq:=fX Hc.out (w.heap.size+1+1) 0 (.int .i64 (M+x.am)) (by omega) hz;refine ⟨⟨k+1,by omega,by go_num,fX Hq (w.heap.size+1+1) 1 (.int .i64 (N+x.ab)) (by omega) (by simpa using hz),Hx.out.kept (bN _ ⟨w.heap.size+1+1,1,none⟩ (.int .i64 (N+x.ab))) (by simp),?_,Hk.out⟩,by simp [intOf];omega⟩;rw [Hp.out,Hy.out];exact Hm.out.set1 _
  ·have Hv:k=cs.length:=by omega
   subst Hv;have hz:=hB.size;have Hw:=qI (fX (fX hB (w.heap.size+1) 0 (.int .i64 (aO cs cs.length)) (by omega) hz) (w.heap.size+1) 1 (.int .i64 (aP cs cs.length)) (by omega) (by simpa using hz));have Hu:=qI ((Hh.set0 (aO cs cs.length)).set1 (aP cs cs.length));obtain ⟨⟨f1,f2⟩,⟨f3,f4⟩⟩:=Hh;obtain ⟨⟨g1,g2⟩,⟨g3,g4⟩⟩:=Hf;clear hB
   go_wp2_with fail
   (try simp only [Exit.inBlock,Exit.then]);refine bodyPost_ret (v:=.agg #[.int .i64 (aO cs cs.length),.int .i64 (aP cs cs.length)]) ?_ rfl ⟨rfl,Hw.out,Hj.out⟩;obtain ⟨⟨g1,g2⟩,⟨g3,g4⟩⟩:=Hu.out;rw [ot rfl];clear f1 f2 f3 f4;go_simp
end
section
namespace Qos
def qN (us:List Nd) (ps:List Pd) (n:Nat):Int:=sumTo (λk=>bh us (pd ps k).nm) n
def eU (us:List Nd):Prop:=∀ k,k<us.length->-1125899906842624<=(nd us k).many/\(nd us k).many<=1125899906842624
theorem rJ {us:List Nd} (h:eU us) (nm:ByteArray):-1125899906842624<=bh us nm/\bh us nm<=1125899906842624:=by
 unfold bh;cases e:us.find? λu=>decide (u.kind=nm) with
 | none=>simp
 | some x=>
  have hm:=List.mem_of_find?_eq_some e;obtain ⟨k,hk,rfl⟩:=List.getElem_of_mem hm
  have:=h k hk
  simp [nd,hk] at this
  simp
  exact this
theorem Jl {l:List Int} {B:Int} (h:∀ x∈l,-B<=x/\x<=B):-(l.length*B)<=l.sum/\l.sum<=l.length*B:=by
 induction l with
 | nil=>simp
 | cons x l ih=>
  have h1:=h x (by simp);have h2:=ih (λy hy=>h y (by simp [hy]));rw [List.sum_cons,Qg];have e:((l.length+1:Nat):Int)*B=l.length*B+B:=by rw [Int.natCast_add,Int.add_mul];simp
  omega
end Qos
end
section
namespace Qos
def km (us:List Nd) (qs:List Pd) (most:Int) (st:Int × Nat) (x:Nat):Int × Nat:=
 (st.1+bh us (pd qs x).nm,if st.1+bh us (pd qs x).nm<=most then x else st.2)
def ev (us:List Nd) (qs:List Pd) (most:Int) (pre:List Nat):Int × Nat:=pre.foldl (km us qs most) (0,qs.length)
theorem rK (us:List Nd) (qs:List Pd) (most:Int) (pre:List Nat) (x:Nat):ev us qs most (pre++[x])=km us qs most (ev us qs most pre) x:=by
 unfold ev;rw [List.foldl_append];rfl
theorem Jm (us:List Nd) (qs:List Pd) (most:Int) (pre:List Nat):(ev us qs most pre).1=(pre.map λx=>bh us (pd qs x).nm).sum:=by
 have key:∀ (pre:List Nat) (st:Int × Nat),(pre.foldl (km us qs most) st).1=st.1+(pre.map λx=>bh us (pd qs x).nm).sum:=by
  intro pre
  induction pre with
  | nil=>intro st;simp
  | cons x l ih=>intro st;rw [List.foldl_cons,ih,Qq,List.sum_cons];unfold km;simp only;omega
 unfold ev;rw [key];simp
theorem xW {us:List Nd} (h:eU us) (qs:List Pd) (most:Int) {pre:List Nat} (hl:pre.length<=16):-18014398509481984<=(ev us qs most pre).1/\(ev us qs most pre).1<=18014398509481984:=by
 rw [Jm]
 have:=Jl (l:=pre.map λx=>bh us (pd qs x).nm) (B:=1125899906842624) (λx hx=>by
  obtain ⟨p,_,rfl⟩:=Qk.1 hx;exact rJ h _)
 rw [Q9] at this;omega
def eL (n k:Nat):List Nat:=(List.range k).map λj=>n - 1 - j
theorem rL (n k:Nat):eL n (k+1)=eL n k++[n - 1 - k]:=by unfold eL;rw [List.range_succ,Qj];rfl
theorem rM (n k:Nat):(eL n k).length=k:=by simp [eL]
theorem xX (us:List Nd) (qs:List Pd) (most:Int):∀ k,k<=qs.length->(ev us qs most (eL qs.length k)).1=tail us qs (qs.length - k)/\eu us qs most (qs.length - k) (ev us qs most (eL qs.length k)).2
 | 0,_=>by
  show (0:Int)=_/\eu us qs most _ qs.length
  rw [Nat.sub_zero,Jf];exact ⟨rfl,eu.start us qs most⟩
 | k+1,hk=>by
  obtain ⟨h1,h2⟩:=xX us qs most k (by omega);rw [rL,rK];have e1:qs.length - 1 - k=qs.length - (k+1):=by omega
  have e2:qs.length - k=qs.length - (k+1)+1:=by omega
  have Ha:qs.length - (k+1)<qs.length:=by omega
  have e3:=Jg us (l:=qs) (i:=qs.length - (k+1)) Ha;rw [e2] at h1 h2;rw [e1];generalize qs.length - (k+1)=i at *;unfold km
  simp only
  rw [h1];have e4:tail us qs (i+1)+bh us (pd qs i).nm=tail us qs i:=by rw [e3];omega
  rw [e4];refine ⟨rfl,?_⟩
  by_cases hm:tail us qs i<=most
  ·rw [if_pos hm];exact eu.here Ha hm
  ·rw [if_neg hm];exact h2.stay (by omega)
theorem xY (us:List Nd) (qs:List Pd) (most:Int):eu us qs most 0 (ev us qs most (eL qs.length qs.length)).2:=by
 have:=(xX us qs most qs.length (lR)).2
 rwa [Nat.sub_self] at this
theorem Tot.high {h l v:Int} (t:Tot h l v) (hv:-18014398509481984<=v) (hv2:v<=18014398509481984):-17179869184<=h/\h<=17179869184:=by
 obtain ⟨h1,h2,h3⟩:=t;omega
end Qos
end
section
open RowKit Go.ChangeMaps
open Go.Maps (Keyed)
open Qos (Nd nd bh eU)
theorem ix:Keyed Tryz.prog 9:=Go.Maps.string_keyed Tryz.underlying9
theorem mO (w:World):(zeroValue 3).run Tryz.prog w=.ok (.int .i64 0) w:=by kernel_rfl
def cY (w:World) (B n:Nat) (us:List Nd):Prop:=
 ∃ D:DataW Unit,w.ownsMap Tryz.prog 9 (plainElem Tryz.prog 3) B n D/\∀ s:ByteArray,D.atKey (.string s.data.toList) (.lit (.int .i64 0))=.lit (.int .i64 (bh us s))/\Go.Maps.has D (.string s.data.toList)=us.any λu=>decide (u.kind=s)
theorem cY.alloc {w:World} {B n:Nat} {us:List Nd} (h:cY w B n us) (o:Obj):cY (w.alloc o) B n us:=by
 obtain ⟨D,ho,hk⟩:=h;exact ⟨D,ho.alloc o,hk⟩
theorem cY.below {w w':World} {B K n:Nat} {us:List Nd} (h:cY w B n us) (hb:Below K w w') (hK:B<K):cY w' B n us:=by
 obtain ⟨D,⟨es,clock,hh,r⟩,hk⟩:=h;exact ⟨D,⟨es,clock,(hb.block B hK).trans hh,r⟩,hk⟩
theorem cY.lt {w:World} {B n:Nat} {us:List Nd} (h:cY w B n us):B<w.heap.size:=by
 obtain ⟨D,ho,_⟩:=h;exact ho.lt
theorem cY.made (w:World):cY (w.alloc (.map #[] 0)) w.heap.size 0 []:=
 ⟨.map [],World.ownsMap_made w _ _ _,λ_=>⟨rfl,rfl⟩⟩
theorem xZ {us:List Nd} {k:Nat} (h:k<us.length):us.take (k+1)=us.take k++[nd us k]:=by
 rw [List.take_add_one,nd,List.getD_eq_getElem?_getD,Qf h];rfl
theorem yb (l:List Nd) (u:Nd) (s:ByteArray):bh (l++[u]) s=if (l.any λv=>decide (v.kind=s))=true then bh l s else if u.kind=s then u.many else 0:=by
 unfold bh;rw [List.find?_append];cases e:l.find? (λv=>decide (v.kind=s)) with
 | none=>
  have ha:(l.any λv=>decide (v.kind=s))=false:=by
   rw [List.any_eq_false];intro x hx;exact List.find?_eq_none.1 e x hx
  rw [if_neg (by rw [ha];decide)]
  by_cases h:u.kind=s
  ·simp [h]
  ·simp [h]
 | some x=>
  have ha:(l.any λv=>decide (v.kind=s))=true:=by
   rw [List.any_eq_true];exact ⟨x,List.mem_of_find?_eq_some e,List.find?_some (p:=λv:Nd=>decide (v.kind=s)) e⟩
  rw [if_pos ha];rfl
theorem rN {a b:ByteArray} (h:a.data.toList=b.data.toList):a=b:=ByteArray.ext (Array.toList_inj.mp h)
theorem Jn {l:List Nd} {u:Nd} (h:(l.any λv=>decide (v.kind=u.kind))=true) (s:ByteArray):bh (l++[u]) s=bh l s/\((l++[u]).any λv=>decide (v.kind=s))=l.any λv=>decide (v.kind=s):=by
 rw [yb,List.any_append]
 by_cases e:u.kind=s
 ·subst e;rw [if_pos h,h]
  simp
 ·by_cases g:(l.any λv=>decide (v.kind=s))=true
  ·rw [if_pos g];simp [e]
  ·rw [if_neg g,if_neg e];refine ⟨?_,by simp [e]⟩;unfold bh;rw [List.find?_eq_none.2 (by simpa [List.any_eq_true] using g)];rfl
theorem cY.put {w':World} {B n:Nat} {l:List Nd} {u:Nd} {D:DataW Unit} (hD:∀ s:ByteArray,D.atKey (.string s.data.toList) (.lit (.int .i64 0))=.lit (.int .i64 (bh l s))/\Go.Maps.has D (.string s.data.toList)=l.any λv=>decide (v.kind=s)) {w0:World} {n0:Nat} (him:w0.ownsMap Tryz.prog 9 (plainElem Tryz.prog 3) B n0 D)
  (ho:w'.ownsMap Tryz.prog 9 (plainElem Tryz.prog 3) B n (D.put (.string u.kind.data.toList) (.lit (.int .i64 u.many)))) (hno:(l.any λv=>decide (v.kind=u.kind))=false):cY w' B n (l++[u]):=by
 refine ⟨_,ho,λs=>?_⟩;rw [yb,List.any_append]
 by_cases e:u.kind=s
 ·subst e;have Hb:WideAt.IsKeyLit (Lit.string u.kind.data.toList):=trivial;rw [Go.Maps.atKey_put_same him.isMap Hb,Go.Maps.has_put_same him.isMap Hb,if_neg (by rw [hno];decide),if_pos rfl]
  simp
 ·have Ha:(Lit.string s.data.toList)≠(Lit.string u.kind.data.toList):=by
   intro h;injection h with h
   exact e (rN h).symm
  rw [Go.Maps.atKey_put_other Ha,Go.Maps.has_put_other Ha,(hD s).1,(hD s).2]
  by_cases g:(l.any λv=>decide (v.kind=s))=true
  ·rw [if_pos g];simp [e]
  ·rw [if_neg g,if_neg e];refine ⟨?_,by simp [e]⟩
   congr 2
   unfold bh;rw [List.find?_eq_none.2 (by simpa [List.any_eq_true] using g)];rfl
def ko (us:List Nd):Prop:=us.length<=20/\eU us/\∀ k,k<us.length->(nd us k).kind.size<=30
theorem Jo (v:Value) (us:List Nd) (w:World) (h:bf w v us) (hf:ko us):Calls Tryz.prog 106 #[v] w λe w'=>(∃ n,e=.returned (.map (some w.heap.size))/\cY w' w.heap.size n us)/\Below w.heap.size w w':=by
 obtain ⟨ao,c,rfl,hm,hr⟩:=h;have HR:=qI hr;clear hr hm;have HF:=qI hf;have Hq:=hf.1;clear hf;have Hh:=qI (cY.made w);have Hi:=qI ((Q0 w.heap.size w).alloc (lR) (.map #[] 0));have Ht:=@run_makeMap Tryz.prog
 go_enter Tryz.func106,Tryz.ntmps106
 go_wp2
 go_loopw [11] (λi wr=>∃ k n:Nat,k<=us.length/\n<=k/\i=.int .i64 k/\cY wr w.heap.size n (us.take k)/\Below w.heap.size w wr) (λi _=>us.length - (intOf i).toNat)
 case atStart=>exact ⟨0,0,by omega,by omega,rfl,Hh.out,Hi.out⟩
 case round=>
  obtain ⟨k,n,hk,Hv,rfl,hM,hB⟩:=hrel;clear Hh Hi
  by_cases hlt:k<us.length
  ·obtain ⟨b,o,rfl,Hl,Hj⟩:=HR.out (by omega);obtain ⟨g0,g1⟩:=Hj k hlt;have c0:=(hB.cell (p:=⟨b,o+k*2,none⟩) Hl).trans g0;have c1:=(hB.cell (p:=⟨b,o+k*2+1,none⟩) Hl).trans g1;have Hk:=qI (xZ hlt);have Hu:=HF.out.2.2 k hlt;have Hw:=HF.out.2.1 k hlt;have Hf:=qI (hB.alloc hB.size (.cells #[.string (nd us k).kind,.int .i64 (nd us k).many] 77));have Hs:=hM.alloc (.cells #[.string (nd us k).kind,.int .i64 (nd us k).many] 77);have Hc:(wr.alloc (.cells #[.string (nd us k).kind,.int .i64 (nd us k).many] 77)).cell? ⟨wr.heap.size,0,none⟩=some (.string (nd us k).kind):=by simp
   have He:(wr.alloc (.cells #[.string (nd us k).kind,.int .i64 (nd us k).many] 77)).cell? ⟨wr.heap.size,1,none⟩=some (.int .i64 (nd us k).many):=by simp
   clear hM hB Hj g0 g1;generalize nd us k=x at *;generalize us.take k=L at *;obtain ⟨D,ho,hD⟩:=Hs;have HD:=qI hD;have Hb:keyOf Tryz.prog 9 (.string x.kind)=some (.string x.kind.data.toList):=Go.WideMaps.keyOf_string_mk Tryz.underlying9 (by unfold maxLen;omega);have Hm:=qI (show (Lit.int .i64 x.many).wf=true from WalkArith.wf_i64 (by omega));have Ha:=(hD x.kind).2
   rcases two (L.any λu=>decide (u.kind=x.kind)) with ha|ha
   ·rw [ha] at Ha;have HU:=qI (Jn ha);clear hD ha
    go_wp2_with (at_lookup;refine wpList_lookup_own_ok_int _ rfl _ _ 198 rfl 9 3 .i64 ix Tryz.underlying198 Tryz.underlying3 (mO _) w.heap.size n D rfl ho _ _ rfl Hb ?_;intro cc _ _;rw [Ha])
    go_roundw
    case rel=>
     refine ⟨k+1,n,by omega,by omega,by go_num,?_,Hf.out⟩;rw [Hk.out];exact ⟨D,ho,λs=>by rw [(HU.out s).1,(HU.out s).2];exact HD.out s⟩
    case measure=>simp [intOf];omega
   ·rw [ha] at Ha;have HA:=qI ha;clear hD ha
    go_wp2_with (first|(at_lookup;refine wpList_lookup_own_ok_int _ rfl _ _ 198 rfl 9 3 .i64 ix Tryz.underlying198 Tryz.underlying3 (mO _) w.heap.size n D rfl ho _ _ rfl Hb ?_;intro cc _ _;rw [Ha])|(at_mapUpdate;refine wpList_mapUpdate_own _ rfl _ _ _ 198 rfl 9 3 ix Tryz.underlying198 (plainElem Tryz.prog 3) w.heap.size n D rfl ho (by unfold maxLen;omega) _ _ _ rfl rfl Hb (.lit (.int .i64 x.many)) [] (plainElem_int Tryz.underlying3 Hm.out) ?_;intro w5 Hn Hg))
    go_roundw
    case rel=>
     refine ⟨k+1,n+1,by omega,by omega,by go_num,?_,?_⟩
     ·rw [Hk.out];exact cY.put HD.out ho Hn HA.out
     ·exact Hf.out.grown Hg Hf.out.size (λj hj=>by cases hj;exact lR)
    case measure=>simp [intOf];omega
  ·have Ho:k=us.length:=by omega
   subst Ho;have Hp:=qI hB;rw [Qh] at hM;have Hr:=qI hM;clear hB hM
   go_wp2
   go_ret;exact ⟨⟨n,rfl,Hr.out⟩,Hp.out⟩
end
section
open RowKit
open Qos (Nd Ct Pd nd ct pd aO aP bX bh eU)
theorem ye {w:World} {B n:Nat} {us:List Nd} (h:cY w B n us) (s:ByteArray) (hs:s.size<=1000):(Instr.lookup 198 (.map (some B)) (.string s) false).run Tryz.prog w=.ok (.int .i64 (bh us s)) w:=by
 obtain ⟨D,ho,hD⟩:=h;obtain ⟨c,Ha,Hb,_⟩:=ho.lookup_int (t:=198) ix Tryz.underlying198 Tryz.underlying3 (mO w) (Go.WideMaps.keyOf_string_mk Tryz.underlying9 (s:=s) (by unfold maxLen;omega));rw [(hD s).1] at Hb;simp only [DataW.lit.injEq,Lit.int.injEq,true_and] at Hb;rw [Ha,Hb]
abbrev ln:=λ(x0:Pd) (x1:Value)=>(.cells #[.string x0.nm,.int .i64 x0.pr,x1] 47:Obj)
theorem yf (p:Pd) (cv:Value) (mc B n:Nat) (us:List Nd) (w:World) (h:aD w cv p.cs) (hmi:bX p.cs) (hm:w.cell? ⟨mc,0,none⟩=some (.map (some B))) (hU:cY w B n us) (ht:eU us) (hn:p.nm.size<=1000) :
  Calls Tryz.prog 145 #[bV p cv,.pointer (some ⟨mc,0,none⟩)] w λe w'=>e=.returned (.int .i64 (bh us p.nm - aP p.cs p.cs.length))/\Below w.heap.size w w'/\w.drawn<=w'.drawn:=by
 have hs:=h.slice;unfold bV;have He:=(Q0 w.heap.size w).alloc (lR) (ln p cv);have Hf:=qI (dP He);have Hk:=qI ((eI.made w p cv).below (dP (Q0 _ _)));have Hc:=Q3 w _ hm;have Hh:=qI (((dP He).cell (p:=⟨mc,0,none⟩) Hc).trans hm);have Hg:=qI (hU.below (dP He) hU.lt);have Hi:=qI (Jk p cv _ (h.below Hf.out) hmi);have Hr:=Qos.rJ ht p.nm;have Hs:=Qos.j8 hmi (lR);unfold bV at Hi;obtain ⟨pa,pn,pc,rfl⟩:=hs;have Hu:=qI hU.lt;clear h He hm hU;have Hm:=qI (λW (hU:cY W B n us)=>ye hU p.nm hn);generalize aO p.cs p.cs.length=SM at *;generalize aP p.cs p.cs.length=SB at *;generalize bh us p.nm=US at *;have e1:wrap64 (US - SB)=US - SB:=by unfold wrap64;omega
 have e2:IntKind.i64.wrap (US - SB)=US - SB:=by rw [IntKind.wrap_i64];omega
 go_enter Tryz.func145,Tryz.ntmps145
 go_wp2_with fail
 refine wp_region_held_drew (S:=(λw'=>(w'.cell? ⟨w.heap.size,0,none⟩=some (.string p.nm)/\w'.cell? ⟨w.heap.size,1,none⟩=some (.int .i64 p.pr)/\w'.cell? ⟨w.heap.size,2,none⟩=some (.slice pa pn pc))/\w'.cell? ⟨mc,0,none⟩=some (.map (some B))/\cY w' B n us)) (by kernel_rfl) ⟨Hk.out.2,Hh.out,Hg.out⟩ (λhQ=>?_);refine tk 0 ?_;refine tk 1 ?_;refine tk 2 ?_;refine tk 4 ?_
 refine wpAnyH_take (i := 3) (oi := { dst := some 7, op := Op.lookup 198 (Operand.tmp 4) (Operand.tmp 6) false, type := 3, pos := "evict.go:46", after := #[{ on := 0, ground := Ground.data }, { on := 2, ground := Ground.data }], guard := none }) (v := Value.int .i64 US) rfl (by kernel_rfl) (by kernel_rfl) (by kernel_rfl) (fun _ _ _ h => h) (Or.inl ⟨by rfl, ?h5x3⟩) (by assumption) ?r5x3
 case h5x3=>
  intro w' Ha;(try dsimp only at Ha);have Ht:=Hm.out _ Ha.2.2;go_simp
  first|done|with_reducible rfl|rfl
 (try simp only [Act.put,s1,s2,s3]);refine rd 5 (λK hK=>?_);go_simp
 go_wp2_with fail
 refine Hi.out.mono ?_;rintro e w5 ⟨rfl,Hb,Hj⟩;have Hp:=qI (Hk.out.below Hb);have Ho:=qI ((Hb.cell (p:=⟨mc,0,none⟩) (Q1 Hc Hf.out.size)).trans Hh.out);have Hn:=qI (Hg.out.below Hb Hg.out.lt);have Hl:=qI (Hf.out.trans (Hb.mono Hf.out.size));have Hq:=qI (show w.drawn<=w5.drawn by rw [Hj];exact Nat.le_succ _);clear Hb Hj
 go_wp2
 refine hK.out _ _ ⟨Hp.out.2,Ho.out,Hn.out⟩ (λhQ=>?_);clear hK K
 refine wpAnyH_take (i := 6) (oi := { dst := some 10, op := Op.field 60 (Operand.tmp 9) 1, type := 3, pos := "evict.go:46", after := #[{ on := 5, ground := Ground.data }], guard := none }) (v := Value.int .i64 SB) rfl (by kernel_rfl) (by kernel_rfl) (by kernel_rfl) (fun _ _ _ h => h) (Or.inl ⟨by rfl, ?h6x6⟩) (by assumption) ?r6x6
 case h6x6=>
  intro w' Ha;(try dsimp only at Ha);go_simp
  first|done|with_reducible rfl|rfl
 (try simp only [Act.put,s1,s2,s3])
 refine wpAnyH_take (i := 7) (oi := { dst := some 11, op := Op.binOp BinOp.sub 3 (Operand.tmp 7) (Operand.tmp 10) 3, type := 3, pos := "evict.go:46", after := #[{ on := 3, ground := Ground.data }, { on := 6, ground := Ground.data }], guard := none }) (v := Value.int .i64 (US - SB)) rfl (by kernel_rfl) (by kernel_rfl) (by kernel_rfl) (fun _ _ _ h => h) (Or.inl ⟨by rfl, ?h7x7⟩) (by assumption) ?r7x7
 case h7x7=>
  intro w' Ha;(try dsimp only at Ha);go_simp
  first|done|with_reducible rfl|rfl
 (try simp only [Act.put,s1,s2,s3]);refine tk 8 ?_;refine Qn (by kernel_rfl) ?_ _
 go_wp2
 go_ret;exact ⟨rfl,Hl.out,Hq.out⟩
end
section
open RowKit Shelf
open Qos (Nd Ct Pd pd0 nd ct pd eL rL rM)
attribute [local go_sem] Oper.semAt_some
def KpB (b Bs:Nat) (W W':World):Prop:=W'.heap[b]?=W.heap[b]?/\W'.heap[Bs]?=W.heap[Bs]?
theorem KpB.refl (b Bs:Nat) (W:World):KpB b Bs W W:=⟨rfl,rfl⟩
theorem KpB.trans {b Bs:Nat} {A B C:World} (h:KpB b Bs A B) (k:KpB b Bs B C):KpB b Bs A C:=⟨k.1.trans h.1,k.2.trans h.2⟩
theorem cell_of_block {W W':World} {a:Addr} (h:W'.heap[a.block]?=W.heap[a.block]?):W'.cell? a=W.cell? a:=by
 unfold World.cell?;rw [h]
def lq (W:World) (b o:Nat) (qs:List Pd) (cv:Nat->Value):Prop:=
 ∀ k,k<qs.length->W.cell? ⟨b,o+k*3,none⟩=some (.string (pd qs k).nm)/\W.cell? ⟨b,o+k*3+1,none⟩=some (.int .i64 (pd qs k).pr)/\W.cell? ⟨b,o+k*3+2,none⟩=some (cv k)
theorem lq.kept {W W':World} {b o:Nat} {qs:List Pd} {cv:Nat->Value} (h:lq W b o qs cv) (hb:W'.heap[b]?=W.heap[b]?):lq W' b o qs cv:=λk hk=>by
 obtain ⟨h0,h1,h2⟩:=h k hk;exact ⟨(cell_of_block (a:=⟨b,o+k*3,none⟩) hb).trans h0,(cell_of_block (a:=⟨b,o+k*3+1,none⟩) hb).trans h1,(cell_of_block (a:=⟨b,o+k*3+2,none⟩) hb).trans h2⟩
theorem Jp {n j:Nat} (h:j<n):eL n (n - j)=eL n (n - (j+1))++[j]:=by
 have e:n - j=n - (j+1)+1:=by omega
 rw [e,rL]
 congr 2
 omega
theorem Jq (F:Fence) (n:Nat) (h7:F.fn 150) (hro:F.round=none) (hn:1<=n) (l Bs b o cap:Nat) (qs:List Pd) (cv:Nat->Value) (hlen:qs.length<=16) (hcv:∀ k,∃ a m c,cv k=.slice a m c) (J Jx:List Nat->World->Prop)
  (hY:∀ pre (x:Nat) W,J pre W->pre.length<qs.length->YieldAt F (n - 1) Tryz.prog l #[.int .i64 (x:Int),.agg #[.string (pd qs x).nm,.int .i64 (pd qs x).pr,cv x]] W λe W'=>
   (e=.returned (.bool true)/\J (pre++[x]) W'/\KpB b Bs W W')\/(e=.returned (.bool false)/\Jx (pre++[x]) W'))
  (W:World) (hBs:W.cell? ⟨Bs,0,none⟩=some (.slice (some ⟨b,o,none⟩) qs.length cap)) (hc:lq W b o qs cv) (h0:J [] W) :
  CallsIn F n Tryz.prog 150 #[.func (.yield l) #[] #[],.pointer (some ⟨Bs,0,none⟩)] W λe W'=>(∃ v,e=.returned v)/\
   ((∃ ys,ys=eL qs.length qs.length/\J ys W')\/(∃ pre,True/\Jx pre W')):=by
 have Hg:wrap64 ((qs.length:Int) - 1)=(qs.length:Int) - 1:=by unfold wrap64;omega
 refine callsIn_of_wp Tryz.func150 rfl h7 ?_ hro;simp only [Tryz.ntmps150,List.size_toArray,Qg,List.length_nil,Nat.reduceAdd,Nat.reduceSub,Array.replicate_succ,Array.replicate_zero,List.push_toArray,List.append_toArray,List.nil_append,List.cons_append]
 gi_wp2
 gi_loopw [3] (λi wr=>∃ j:Nat,j<=qs.length/\i=.int .i64 ((j:Int) - 1)/\J (eL qs.length (qs.length - j)) wr/\KpB b Bs W wr)
  (λi _=>(intOf i+1).toNat)
 case atStart=>exact ⟨qs.length,lR,rfl,by rw [Nat.sub_self];exact h0,KpB.refl _ _ _⟩
 case round=>
  obtain ⟨j,hj,rfl,Hb,Ha⟩:=hrel;clear Hg;cases j with
  | zero=>
   rw [show ((0:Nat):Int) - 1=-1 from rfl];have HJ:=qI Hb;clear Hb
   gi_wp2
   go_end0
   exact ⟨⟨_,rfl⟩,.inl ⟨_,rfl,by have:=HJ.out;rwa [Nat.sub_zero] at this⟩⟩
  | succ j=>
   rw [show ((j+1:Nat):Int) - 1=(j:Int) by omega];have He:j<qs.length:=by omega
   obtain ⟨c0,c1,c2⟩:=hc.kept Ha.1 j He;have Hj:wr.cell? ⟨Bs,0,none⟩=some (.slice (some ⟨b,o,none⟩) qs.length cap):=(cell_of_block (a:=⟨Bs,0,none⟩) Ha.2).trans hBs;obtain ⟨fn,tmps,assign,body,hy,hR⟩:=hY _ j wr Hb (by rw [rM];omega);have HD:=qI (Jp He);have HK:=qI Ha;have Hk:wrap64 ((j:Int) - 1)=(j:Int) - 1:=by unfold wrap64;omega
   obtain ⟨ca,cm,cc,Hf⟩:=hcv j;rw [Hf] at c2 hy;generalize pd qs j=x at *;clear Hb Ha hY hcv Hf
   gi_wp2
   refine hR.mono ?_;rintro e W3 (⟨rfl,Hi,Hh⟩|⟨rfl,Hc⟩)
   ·gi_wp2
    go_roundw
    case rel=>exact ⟨j,by omega,rfl,by rw [HD.out];exact Hi,HK.out.trans Hh⟩
    case measure=>simp [intOf]
   ·gi_wp2
    refine Qx (results_none rfl _ _ _) rfl ?_;exact ⟨⟨_,rfl⟩,.inr ⟨_,trivial,Hc⟩⟩
end
section
open RowKit
open Qos (Nd Ct Pd nd ct pd aO aP bX bh eU key jG cz aU orI)
structure iY (w:World) (mc fc B n:Nat) (us:List Nd):Prop where
 m:w.cell? ⟨mc,0,none⟩=some (.map (some B))
 f:w.cell? ⟨fc,0,none⟩=some (.func (.func 145) #[] #[.pointer (some ⟨mc,0,none⟩)])
 u:cY w B n us
theorem iY.lts {w:World} {mc fc B n:Nat} {us:List Nd} (h:iY w mc fc B n us):mc<w.heap.size/\fc<w.heap.size/\B<w.heap.size:=⟨Q3 w _ h.m,Q3 w _ h.f,h.u.lt⟩
theorem iY.below {w w':World} {mc fc B n K:Nat} {us:List Nd} (h:iY w mc fc B n us) (hb:Below K w w') (hK:mc<K/\fc<K/\B<K):iY w' mc fc B n us:=
 ⟨(hb.cell (p:=⟨mc,0,none⟩) hK.1).trans h.m,(hb.cell (p:=⟨fc,0,none⟩) hK.2.1).trans h.f,h.u.below hb hK.2.2⟩
theorem Jr (p q:Pd) (cp cq:Value) (mc fc B n:Nat) (us:List Nd) (w:World) (hp:aD w cp p.cs) (hq:aD w cq q.cs) (mp:bX p.cs) (mq:bX q.cs) (np:p.nm.size<=1000) (nq':q.nm.size<=1000) (hS:iY w mc fc B n us) (ht:eU us) :
  Calls Tryz.prog 147 #[bV p cp,bV q cq,.pointer (some ⟨fc,0,none⟩)] w λe w'=>e=.returned (.int .i64 (jG (key us p) (key us q)))/\Below w.heap.size w w'/\w.drawn<=w'.drawn:=by
 have HD:=hp.slice;have HE:=hq.slice;have HK:Hid (jG (key us p) (key us q)=or4 (Lib.compareInt (cz (bh us p.nm - aP p.cs p.cs.length)) (cz (bh us q.nm - aP q.cs q.cs.length))) (Lib.compareInt p.pr q.pr) (Lib.compareInt (bh us q.nm - aP q.cs q.cs.length) (bh us p.nm - aP p.cs p.cs.length)) (aU p.nm q.nm)):=rfl;have HA:=((Q0 w.heap.size w).alloc (lR) (ln p cp)).alloc (by simp) (ln q cq);have Hq:=dP HA;have He:=qI Hq;have Hp:=qI (((eI.made w p cp).alloc (ln q cq)).below (dP (Q0 _ _)));have hQ:=(eI.made (w.alloc (ln p cp)) q cq).below (dP (Q0 _ _));rw [show (w.alloc (ln p cp)).heap.size=w.heap.size+1 by simp] at hQ;have Hi:=qI hQ;have HC:=qI (hS.below Hq hS.lts);have Hr:=qI (λW (hb:Below w.heap.size w W)=>yf p cp mc B n us W (hp.below hb) mp (hS.below hb hS.lts).m (hS.below hb hS.lts).u ht np);have Hm:=qI (λW (hb:Below w.heap.size w W)=>yf q cq mc B n us W (hq.below hb) mq (hS.below hb hS.lts).m (hS.below hb hS.lts).u ht nq');have Hn:=qI (λW (hb:Below w.heap.size w W)=>hS.below hb hS.lts);unfold bV at Hr Hm ⊢;obtain ⟨pa,pn,pc,rfl⟩:=HD;obtain ⟨qa,qn,qc,rfl⟩:=HE;rw [HK.out];clear HK hp hq hS HA Hq hQ;generalize bh us p.nm - aP p.cs p.cs.length=X at *;generalize bh us q.nm - aP q.cs q.cs.length=Y at *;have Hz:Hid (w.drawn<=(((w.alloc (.cells #[.string p.nm,.int .i64 p.pr,.slice pa pn pc] 47)).alloc (.cells #[.string q.nm,.int .i64 q.pr,.slice qa qn qc] 47)).drew).drawn):=Nat.le_succ _
 go_enter Tryz.func147,Tryz.ntmps147
 go_wp2_with fail
 refine wp_region_held_drew (S:=(λw'=>(w'.cell? ⟨w.heap.size,0,none⟩=some (.string p.nm)/\w'.cell? ⟨w.heap.size,1,none⟩=some (.int .i64 p.pr)/\w'.cell? ⟨w.heap.size,2,none⟩=some (.slice pa pn pc))/\(w'.cell? ⟨w.heap.size+1,0,none⟩=some (.string q.nm)/\w'.cell? ⟨w.heap.size+1,1,none⟩=some (.int .i64 q.pr)/\w'.cell? ⟨w.heap.size+1,2,none⟩=some (.slice qa qn qc))/\w'.cell? ⟨fc,0,none⟩=some (.func (.func 145) #[] #[.pointer (some ⟨mc,0,none⟩)]))) (by kernel_rfl) ⟨Hp.out.2,Hi.out.2,(Hn.out _ He.out).f⟩ (λhHeld=>?_);refine tk 0 ?_;refine tk 1 ?_;refine tk 3 ?_;refine tk 4 ?_;refine rd 2 (λK hK=>?_);go_simp
 go_wp2_with fail
 refine (Hr.out _ He.out).mono ?_;rintro e w5 ⟨rfl,Hf,Hx⟩;have Hj:=qI (Hp.out.below Hf);have Hh:=qI (Hi.out.below Hf);have Hc:=qI (He.out.trans (Hf.mono He.out.size));have Hy:=qI (Q5 Hz.out Hx);clear Hf Hx
 go_wp2
 refine hK.out _ _ ⟨Hj.out.2,Hh.out.2,(Hn.out _ Hc.out).f⟩ (λhHeld=>?_);clear hK K;refine rd 5 (λK hK=>?_);go_simp
 go_wp2_with fail
 refine (Hm.out _ Hc.out).mono ?_;rintro e w6 ⟨rfl,Hg,Hu⟩;have Hk:=qI (Hj.out.below Hg);have Ho:=qI (Hh.out.below Hg);have Hl:=qI (Hc.out.trans (Hg.mono Hc.out.size));have Ht:=qI (Q5 Hy.out Hu);clear Hg Hu
 go_wp2
 refine hK.out _ _ ⟨Hk.out.2,Ho.out.2,(Hn.out _ Hl.out).f⟩ (λhHeld=>?_);clear hK K;refine tk 6 ?_;refine tk 7 ?_;refine Qn (by kernel_rfl) ?_ _;have Ha:=qI (Hk.out.below (dP (Q0 _ _)));have Hb:=qI (Ho.out.below (dP (Q0 _ _)));have Hw:=qI (dP Hl.out);have HF:=qI (show w.drawn<=w6.drew.drawn from Nat.le_succ_of_le Ht.out);clear hHeld Hj Hh Hc Hy Hp Hi He HC Hr Hm Hk Ho Hl Ht Hz
 go_wp2_with fail
 refine wp_region_held_drew (S:=(λw'=>(w'.cell? ⟨w.heap.size,0,none⟩=some (.string p.nm)/\w'.cell? ⟨w.heap.size,1,none⟩=some (.int .i64 p.pr)/\w'.cell? ⟨w.heap.size,2,none⟩=some (.slice pa pn pc))/\(w'.cell? ⟨w.heap.size+1,0,none⟩=some (.string q.nm)/\w'.cell? ⟨w.heap.size+1,1,none⟩=some (.int .i64 q.pr)/\w'.cell? ⟨w.heap.size+1,2,none⟩=some (.slice qa qn qc)))) (by kernel_rfl) ⟨Ha.out.2,Hb.out.2⟩ (λhHeld=>?_);refine tk 0 ?_;refine tk 2 ?_;refine tk 5 ?_;refine tk 6 ?_;refine tk 7 ?_;refine tk 8 ?_;refine tk 10 ?_;refine tk 11 ?_;refine tk 13 ?_;refine tk 14 ?_;refine tk 15 ?_;refine tk 16 ?_;refine rd 1 (λK hK=>?_);go_simp
 go_wp2_with fail
 refine (xV X _).mono ?_;rintro e wx ⟨rfl,rfl⟩
 go_wp2
 refine hK.out _ _ ⟨Ha.out.2,Hb.out.2⟩ (λhHeld=>?_);clear hK K;refine rd 3 (λK hK=>?_);go_simp
 go_wp2_with fail
 refine (xV Y _).mono ?_;rintro e wx ⟨rfl,rfl⟩
 go_wp2
 refine hK.out _ _ ⟨Ha.out.2,Hb.out.2⟩ (λhHeld=>?_);clear hK K;refine rd 4 (λK hK=>?_);go_simp
 go_wp2_with fail
 refine (mN _ _ _).mono ?_;rintro e wx ⟨rfl,rfl⟩
 go_wp2
 refine hK.out _ _ ⟨Ha.out.2,Hb.out.2⟩ (λhHeld=>?_);clear hK K;refine rd 9 (λK hK=>?_);go_simp
 go_wp2_with fail
 refine (mN _ _ _).mono ?_;rintro e wx ⟨rfl,rfl⟩
 go_wp2
 refine hK.out _ _ ⟨Ha.out.2,Hb.out.2⟩ (λhHeld=>?_);clear hK K;refine rd 12 (λK hK=>?_);go_simp
 go_wp2_with fail
 refine (mN _ _ _).mono ?_;rintro e wx ⟨rfl,rfl⟩
 go_wp2
 refine hK.out _ _ ⟨Ha.out.2,Hb.out.2⟩ (λhHeld=>?_);clear hK K;refine rd 17 (λK hK=>?_);go_simp
 go_wp2_with fail
 refine (Jh _ _ _).mono ?_;rintro e wx ⟨rfl,rfl⟩
 go_wp2
 refine hK.out _ _ ⟨Ha.out.2,Hb.out.2⟩ (λhHeld=>?_);clear hK K;have Hs:=qI (Ha.out.alloc (.cells #[.int .i64 (Lib.compareInt (cz X) (cz Y)),.int .i64 (Lib.compareInt p.pr q.pr),.int .i64 (Lib.compareInt Y X),.int .i64 (aU p.nm q.nm)] 3));have Hv:=qI (Hb.out.alloc (.cells #[.int .i64 (Lib.compareInt (cz X) (cz Y)),.int .i64 (Lib.compareInt p.pr q.pr),.int .i64 (Lib.compareInt Y X),.int .i64 (aU p.nm q.nm)] 3));have HB:=qI (Hw.out.alloc Hw.out.size (.cells #[.int .i64 (Lib.compareInt (cz X) (cz Y)),.int .i64 (Lib.compareInt p.pr q.pr),.int .i64 (Lib.compareInt Y X),.int .i64 (aU p.nm q.nm)] 3));refine rd 18 (λK hK=>?_);go_simp
 go_wp2
 refine hK.out _ _ ⟨Hs.out.2,Hv.out.2⟩ (λhHeld=>?_);clear hK K;refine rd 19 (λK hK=>?_);go_simp
 go_wp2_with fail
 refine (Ji (Lib.compareInt (cz X) (cz Y)) (Lib.compareInt p.pr q.pr) (Lib.compareInt Y X) (aU p.nm q.nm) _ _ _ (by simp) (by simp) (by simp) (by simp)).mono ?_;rintro e wx ⟨rfl,rfl⟩
 go_wp2
 refine hK.out _ _ ⟨Hs.out.2,Hv.out.2⟩ (λhHeld=>?_);clear hK K;refine tk 20 ?_;refine Qn (by kernel_rfl) ?_ _
 go_wp2
 go_ret;exact ⟨rfl,HB.out,HF.out⟩
end
end Go.Proofs.YtbmmnflgnmjboaaGreatDoor
namespace Go.Proofs
open Go.Shelf
shelf_lay_g SlLaysE0.n41 Slgn 41 at Tryz 144 as Tryz.clonePL
end Go.Proofs
namespace Go.Proofs.YtbmmnflgnmjboaaGreatDoor
section
open RowKit
open Qos (Nd Ct Pd pd0 nd ct pd aO aP bX bh eU)
def fl (ps:List Pd) (cv:Nat->Value):List (Pd × Value):=(List.range ps.length).map λj=>(pd ps j,cv j)
theorem mP (ps:List Pd) (cv:Nat->Value):(fl ps cv).length=ps.length:=by simp [fl]
theorem Js (ps:List Pd) (cv:Nat->Value) (k:Nat) (h:k<(fl ps cv).length):(fl ps cv)[k]=(pd ps k,cv k):=by simp [fl]
theorem Jt {w:World} {b o:Nat} {ps:List Pd} {cv:Nat->Value} (h:j9 w b o ps cv) (j:Nat) (u:Value) (hj:(prV (fl ps cv))[j]?=some u):w.cell? ((⟨b,o,none⟩:Addr).add j)=some u:=by
 have Ha:j<ps.length*3:=by
  have:=(List.getElem?_eq_some_iff.1 hj).1
  rw [vx,mP] at this;exact this
 obtain ⟨h0,h1,h2,_⟩:=h.at (k:=j / 3) (by omega);have hk:j / 3<(fl ps cv).length:=by rw [mP];omega
 obtain ⟨c0,c1,c2⟩:=vy (fl ps cv) (j / 3) hk;rw [Js] at c0 c1 c2;rw [Addr.add_lit]
 have:j=j / 3*3\/j=j / 3*3+1\/j=j / 3*3+2:=by omega
 rcases this with e|e|e
 ·rw [<- e] at c0 h0;rw [h0,<- c0,hj]
 ·rw [<- e] at c1;rw [Nat.add_assoc,<- e] at h1;rw [h1,<- c1,hj]
 ·rw [<- e] at c2;rw [Nat.add_assoc,<- e] at h2;rw [h2,<- c2,hj]
theorem Ju {ps:List Pd} {cv:Nat->Value} (h:∀ k,k<ps.length->∃ a n c,cv k=.slice a n c):∀ u∈prV (fl ps cv),u.oneCell'=true:=by
 intro u hu;simp only [prV,List.mem_flatMap] at hu;obtain ⟨x,hx,hu⟩:=hu;simp only [fl,Qk,List.mem_range] at hx;obtain ⟨k,hk,rfl⟩:=hx;obtain ⟨a,n,c,e⟩:=h k hk
 simp [e] at hu
 rcases hu with rfl|rfl|rfl <;> rfl
theorem Jv (ao:Option Addr) (n c:Nat) (w:World):Sem.run Tryz.prog (binOp BinOp.eql 70 (.slice ao n c) (.slice none 0 0)) w=.ok (.bool ao.isNone) w:=Lib.run_eql_slice_nil w _ _ ao n c 0 0 Tryz.underlying70
theorem yg (a:Addr) (c:Nat) (l:List (Pd × Value)) (w:World) (hc:∀ j u,(prV l)[j]?=some u->w.cell? (a.add j)=some u) (h1:∀ u∈prV l,u.oneCell'=true) (hl:l.length<=16) :
  Calls Tryz.prog 144 #[.slice (some a) l.length c] w λe w'=>∃ v,e=.returned v/\w'.ownsRow w.heap.size 47 3 v l.length (prV l)/\Below w.heap.size w w':=by
 obtain ⟨i0,hi,Hf,Hh,He⟩:=vu EL;have HB:=qI ((Q0 w.heap.size w).alloc (lR) (.cells #[] 47));have HC:Hid (∀ j u,(prV l)[j]?=some u->(w.alloc (.cells #[] 47)).cell? (a.add j)=some u):=λj u hj=>Lib.cell?_alloc_some _ (hc j u hj)
 have Hg:=Jv (some a) l.length c w;clear hc
 go_enter Tryz.func144,Tryz.ntmps144
 go_wp2_with (at_builtin;(refine wpList_append_own _ rfl _ _ 70 rfl w.heap.size 47 i0 (.agg #[.string ByteArray.empty,.int .i64 0,.slice none 0 0]) 3 48 Tryz.underlying70 hi Hf Hh He rfl (by decide) _ _ _ rfl (World.ownsRow_lit w #[] 0 (lR) (Nat.zero_le _) rfl) a l.length c (prV l) rfl (vx l) HC.out h1 (by unfold maxLen;omega) (by omega) (by simp) ?_);intro v' w1 Ha Hb _)
 have Hc:=qI (HB.out.grown Hb (by simp) (λj hj=>by cases hj;exact lR));rw [Qd] at Ha;have hD:Hid (w1.ownsRow w.heap.size 47 3 v' l.length (prV l)):=by simpa [Hid] using Ha
 clear Ha Hb
 go_wp2
 go_ret;exact ⟨_,rfl,hD.out,Hc.out⟩
theorem Jw (v:Value) (ps:List Pd) (w:World) (h:eH w v ps) (hl:ps.length<=16) :
  Calls Tryz.prog 144 #[v] w λe w'=>∃ v' l,e=.returned v'/\w'.ownsRow w.heap.size 47 3 v' l.length (prV l)/\l.map Prod.fst=ps/\(∀ x∈l,aD w x.2 x.1.cs)/\Below w.heap.size w w':=by
 obtain ⟨ao,c,rfl,hm,hr⟩:=h
 by_cases h0:0<ps.length
 ·obtain ⟨b,o,cv,rfl,Ha⟩:=hr h0;have hc:=yg ⟨b,o,none⟩ c (fl ps cv) w (Jt Ha) (Ju λk hk=>(Ha.2 k hk).2.slice) (by rw [mP];exact hl);rw [mP] at hc;refine hc.mono λe w' ⟨v',he,ho,hb⟩=>⟨v',fl ps cv,he,by rw [mP];exact ho,?_,?_,hb⟩
  ·unfold fl;rw [List.map_map];exact Qos.Jj ps
  ·intro x hx;simp only [fl,Qk,List.mem_range] at hx;obtain ⟨k,hk,rfl⟩:=hx;exact (Ha.2 k hk).2
 ·have e:ps=[]:=Qe (by omega);subst e
  rcases ao with _|a
  ·refine (AnyE.slices_Clone_nil Tryz.clonePL 0 c w).mono ?_;rintro e w' ⟨rfl,rfl⟩;exact ⟨_,[],rfl,Qw _ _ _ _,rfl,λx hx=>by simp at hx,Q0 _ _⟩
  ·exact (yg a c [] w (λj u hj=>by simp [prV] at hj) (λu hu=>by simp [prV] at hu) (by simp)).mono λe w' ⟨v',he,ho,hb⟩=>⟨v',[],he,ho,rfl,λx hx=>by simp at hx,hb⟩
def txV (l:List ByteArray):List Value:=l.map Value.string
def iZ (base:Nat) (w:World) (v:Value) (l:List ByteArray):Prop:=w.ownsRow base 9 1 v l.length (txV l)
theorem iZ.below {base:Nat} {w w':World} {v:Value} {l:List ByteArray} (h:iZ base w v l) (hb:Below w.heap.size w w'):iZ base w' v l:=
 World.ownsRow.kept (row:=none) h ⟨hb.os,hb.tape,hb.output,hb.size,λj hj _=>hb.block j hj⟩ (by cases hv:v.ownBlock <;> simp)
theorem iJ:(Tryz.prog.info? 9).map (λi=>(i.zero,i.size,i.bytes))=some (some (.string ByteArray.empty),1,16):=by kernel_rfl
theorem Jy (w:World) (s:ByteArray) (t:TypeId):∀ j u,[Value.string s][j]?=some u->(w.alloc (.cells #[.string s] t)).cell? ((⟨w.heap.size,0,none⟩:Addr).add j)=some u:=by
 intro j u hu;rw [Addr.add_lit,Qd]
 match j,hu with
 | 0,hu=>simp at hu;subst hu;simp
 | j+1,hu=>simp at hu
theorem Jz (v:Value) (ps:List Pd) (w:World) (h:eH w v ps) (hl:ps.length<=16):Calls Tryz.prog 111 #[v] w λe w'=>(∃ v',e=.returned v'/\iZ w.heap.size w' v' (ps.map Pd.nm))/\Below w.heap.size w w':=by
 obtain ⟨i0,hi,Hs,Ht,Hm⟩:=vu iJ;obtain ⟨ao,c,rfl,hm,hr⟩:=h;have HR:=qI hr;clear hr hm
 go_enter Tryz.func111,Tryz.ntmps111
 go_wp2
 go_loopw [3,8] (λg i wr=>∃ k:Nat,k<=ps.length/\i=.int .i64 k/\Below w.heap.size w wr/\iZ w.heap.size wr g ((ps.take k).map Pd.nm)) (λ_ i _=>ps.length - (intOf i).toNat)
 case atStart=>exact ⟨0,by omega,rfl,Q0 _ _,Qw _ _ _ _⟩
 case round=>
  obtain ⟨k,hk,rfl,hB,hT⟩:=hrel
  by_cases hlt:k<ps.length
  ·obtain ⟨b,o,cv,rfl,He⟩:=HR.out (by omega);have He:=He.below hB;obtain ⟨c0,c1,c2,Hi⟩:=He.at hlt;have Hv:=Hi.slice;have Hg:=(Q0 wr.heap.size wr).alloc (lR) (.cells #[.string (pd ps k).nm,.int .i64 (pd ps k).pr,cv k] 47);have Hh:=qI (hB.trans (Hg.mono hB.size));have Hn:=qI (hT.below Hg);have Hr:Hid ((ps.take (k+1)).map Pd.nm=(ps.take k).map Pd.nm++[(pd ps k).nm]):=by
    unfold Hid;rw [Qos.Ev hlt,Qj];rfl
   have Hj:=qI (World.ownsRow.lt hT);have Hw:((ps.take k).map Pd.nm).length<=16:=by rw [Q9,Qu];omega
   clear He Hi Hg hB hT;generalize (ps.take k).map Pd.nm=L at *;generalize pd ps k=x at *;generalize cv k=d at *;obtain ⟨da,dn,dc,rfl⟩:=Hv;have Hf:=qI (Hh.out.alloc Hh.out.size (.cells #[.string x.nm] 9));have Hk:=qI (Hn.out.below ((Q0 _ _).alloc (lR) (.cells #[.string x.nm] 9)));have Hc:=Jy (wr.alloc (.cells #[.string x.nm,.int .i64 x.pr,.slice da dn dc] 47)) x.nm 9;rw [show (wr.alloc (.cells #[.string x.nm,.int .i64 x.pr,.slice da dn dc] 47)).heap.size=wr.heap.size+1 by simp] at Hc;have Hc:=qI Hc
   go_wp2_with (at_builtin;refine wpList_append_own _ rfl _ _ 78 rfl w.heap.size 9 i0 (.string ByteArray.empty) 1 16 Tryz.underlying78 hi Hs Ht Hm rfl (by decide) u3 _ _ rfl Hk.out ⟨_,0,none⟩ 1 1 [.string x.nm] rfl rfl Hc.out (by intro u hu;simp at hu;subst hu;rfl) (by unfold maxLen;omega) (by omega) Hf.out.size ?_;intro v2 w5 Hb Ha _)
   have Hl:=qI (Hf.out.grown Ha Hf.out.size (λi hi=>(Hj.out i hi).1));have Hu:Hid (iZ w.heap.size w5 v2 (L++[x.nm])):=by
    unfold Hid iZ txV;rw [Qj,Q2];exact Hb
   clear Hb Ha
   go_roundw
   case rel=>exact ⟨k+1,by omega,by go_num,Hl.out,by rw [Hr.out];exact Hu.out⟩
   case measure=>simp [intOf];omega
  ·have Hp:k=ps.length:=by omega
   subst Hp;have Hq:=qI hB;rw [Qh] at hT;have Ho:=qI hT;clear hB hT
   go_wp2
   go_ret;exact ⟨⟨_,rfl,Ho.out⟩,Hq.out⟩
end
end Go.Proofs.YtbmmnflgnmjboaaGreatDoor
namespace Go.Proofs
open Go.Shelf
shelf_lay_g SlLaysF0.n6 Slsf 6 at Tryz 146 as Tryz.sortPL
end Go.Proofs
namespace Go.Proofs.YtbmmnflgnmjboaaGreatDoor
section
open RowKit
open Go.Sort (SWO PermIn SortedIn HoldsK flatK putRowK)
open Qos (Nd Ct Pd pd0 nd ct pd aO aP bX bh eU key jG iw oV)
def OkE (W0:World) (x:Pd × Value):Prop:=aD W0 x.2 x.1.cs/\bX x.1.cs/\x.1.nm.size<=1000
abbrev PE (W0:World):={ x:Pd × Value // OkE W0 x }
theorem ok0 (W0:World):OkE W0 (pd0,.slice none 0 0):=⟨⟨none,0,rfl,⟨by simp [pd0],by decide⟩,λh=>by simp [pd0] at h⟩,Qos.Eh,by simp [pd0]⟩
instance (W0:World):Inhabited (PE W0):=⟨⟨_,ok0 W0⟩⟩
def eV {W0:World} (x:PE W0):List Value:=[.string x.1.1.nm,.int .i64 x.1.1.pr,x.1.2]
def cfE {W0:World} (us:List Nd) (x y:PE W0):Int:=jG (key us x.1.1) (key us y.1.1)
theorem ltE {W0:World} (us:List Nd) (x y:PE W0):ltOf (cfE us) x y=iw (key us x.1.1) (key us y.1.1):=rfl
theorem JA {W0:World} (us:List Nd):SWO (ltOf (cfE (W0:=W0) us)) where
 irrefl _:=Qos.rI.irrefl _
 trans _ _ _ h1 h2:=Qos.rI.trans _ _ _ h1 h2
 ntrans _ _ _ h1 h2:=Qos.rI.ntrans _ _ _ h1 h2
theorem JB {w w':World} (hb:Below w.heap.size w w') (hd:w.drawn<=w'.drawn):∃ q os,w'=Go.Sort.grow (w.drewN q) os:=by
 refine ⟨w'.drawn - w.drawn,w'.heap.extract w.heap.size w'.heap.size,?_⟩;obtain ⟨h1,h2,h3,h4,h5⟩:=hb;have hh:w'.heap=w.heap++w'.heap.extract w.heap.size w'.heap.size:=by
  apply Array.ext_getElem?
  intro i
  by_cases hi:i<w.heap.size
  ·rw [Array.getElem?_append_left hi];exact h5 i hi
  ·rw [Array.getElem?_append_right (by omega),Array.getElem?_extract]
   by_cases hj:i<w'.heap.size
   ·rw [if_pos (by omega)]
    congr 1
    omega
   ·rw [if_neg (by omega)];exact Array.getElem?_eq_none (by omega)
 unfold Go.Sort.grow World.drewN;cases w';cases w;simp only at h1 h2 h3 hd hh;simp only [World.mk.injEq];exact ⟨hh,h2,by omega,h1,h3⟩
theorem rO {W0:World} (w:World) (blk off m:Nat) (dk:Array (PE W0)) (os:Array Obj):w.grownBy (sortWorldK eV 3 w blk off m dk os) (some blk):=by
 refine ⟨rfl,rfl,rfl,?_,λj hj hne=>?_⟩
 ·simp [sortWorldK,Go.Sort.grow,putRowK,Go.Sort.putRow,Go.Sort.mapBlock,Go.Sort.ahead]
 ·have h2:blk≠j:=λe=>hne (by rw [e])
  simp [sortWorldK,Go.Sort.grow,putRowK,Go.Sort.putRow,Go.Sort.mapBlock,Go.Sort.ahead,Array.getElem?_append,Array.getElem_modify,hj,h2]
theorem yh {W0:World} (x:PE W0):(eV x)[0]! = .string x.1.1.nm/\(eV x)[1]! = .int .i64 x.1.1.pr/\(eV x)[2]! = x.1.2:=⟨rfl,rfl,rfl⟩
theorem JC {W0 w:World} {base g cap:Nat} {l:List (Pd × Value)} (h:w.ownsRow base 47 3 (.slice (some ⟨g,0,none⟩) l.length cap) l.length (prV l)) (d:Array (PE W0)) (hd:d.toList.map Subtype.val=l):HoldsK eV 3 w g 0 d/\g<w.heap.size/\base<=g:=by
 rcases h.2 with ⟨hv,_⟩|⟨g',cap',cur,hv,hb,hg,He,Hf,_,ht⟩
 ·cases hv
 cases hv;have Hg:d.size=l.length:=by rw [<- hd];simp
 refine ⟨λj hj=>?_,?_,hb⟩
 ·rw [Go.Sort.size_flatK] at hj;rw [Go.Sort.get_flatK _ _ _ _ hj];have hk:j / 3<l.length:=by omega
  have e:d[j / 3]!.1=l[j / 3]:=by
   have Ha:j / 3<d.size:=by omega
   rw [getElem!_pos d (j / 3) Ha]
   have:(d.toList.map Subtype.val)[j / 3]?=l[j / 3]?:=by rw [hd]
   rw [List.getElem?_map,Qf hk] at this
   simp [Ha] at this
   exact this
  obtain ⟨p0,p1,p2⟩:=vy l (j / 3) hk;have hx:(prV l)[j]?=some ((eV d[j / 3]!)[j % 3]!):=by
   obtain ⟨e0,e1,e2⟩:=yh d[j / 3]!
   have:j % 3=0\/j % 3=1\/j % 3=2:=by omega
   rcases this with r|r|r
   ·rw [r,e0,e];rw [show j / 3*3=j by omega] at p0;exact p0
   ·rw [r,e1,e];rw [show j / 3*3+1=j by omega] at p1;exact p1
   ·rw [r,e2,e];rw [show j / 3*3+2=j by omega] at p2;exact p2
  rw [<- ht,List.getElem?_take] at hx
  split at hx
  ·have hc:cur[j]?=some ((eV d[j / 3]!)[j % 3]!):=by simpa using hx
   refine ⟨?_,?_⟩
   ·unfold World.cell?;rw [hg];simp [hc]
   ·unfold World.frozen?;rw [hg];simp
  ·cases hx
 ·rcases Nat.lt_or_ge g w.heap.size with Hc|Hb
  ·exact Hc
  ·rw [Array.getElem?_eq_none Hb] at hg;cases hg
def oX (us:List Nd) (ps qs:List Pd):Prop:=qs.Perm ps/\oV (qs.map (key us))
theorem JD (us:List Nd) (W0 w:World) (l:List (Pd × Value)) (v:Value) (K mc fc B n:Nat) (hrow:w.ownsRow K 47 3 v l.length (prV l)) (hok:∀ x∈l,OkE W0 x) (hl:l.length<=16) (hW:Below W0.heap.size W0 w) (hK0:W0.heap.size<=K)
  (hS:iY w mc fc B n us) (hmK:mc<K/\B<K) (hfr:∀ g,v.ownBlock=some g->fc≠g) (ht:eU us) :
  Calls Tryz.prog 146 #[v,.func (.func 147) #[] #[.pointer (some ⟨fc,0,none⟩)]] w λe w'=>e=.returned (.tuple #[])/\(∃ qs,eH w' v qs/\oX us (l.map Prod.fst) qs)/\Below K w w':=by
 by_cases h0:0<l.length
 ·obtain ⟨g,cap,rfl,Hv,Hu,Hm,Hb,_⟩:=vw hrow h0
  let d:Array (PE W0):=(l.pmap (λx h=>(⟨x,h⟩:PE W0)) hok).toArray
  have hd:d.toList.map Subtype.val=l:=by
   show ((l.pmap (λx h=>(⟨x,h⟩:PE W0)) hok)).map Subtype.val=l
   rw [List.map_pmap]
   simp
  have Hi:d.size=l.length:=by rw [<- hd];simp
  obtain ⟨hH,_,_⟩:=JC hrow d hd;have eg:∀ args w,(callFunc 147 args).run Tryz.prog w=.ok (.enter 147 args) w:=enters_of Tryz.func147 (by kernel_rfl) rfl;have Hr:fc≠g:=hfr g rfl;have Hh:CmpLays Tryz.prog 147 #[.pointer (some ⟨fc,0,none⟩)] (eV (W0:=W0)) 3 (cfE us) g 0 d.size w:=by
   intro m os dk _ x y;have hg:=rO w g 0 m dk os;have Hg:Below W0.heap.size W0 (sortWorldK eV 3 w g 0 m dk os):=hW.trans (below_grown hg (K:=W0.heap.size) (by have:=hW.size;omega) (λj hj=>by cases hj;omega));have Hk:Below K w (sortWorldK eV 3 w g 0 m dk os):=below_grown hg (K:=K) (by omega) (λj hj=>by cases hj;exact Hm);have Hs:iY (sortWorldK eV 3 w g 0 m dk os) mc fc B n us:=⟨(Hk.cell (p:=⟨mc,0,none⟩) hmK.1).trans hS.m,(hg.cell_far ⟨fc,0,none⟩ hS.lts.2.1 (by simpa using Hr)).trans hS.f,hS.u.below Hk hmK.2⟩;refine (Jr x.1.1 y.1.1 x.1.2 y.1.2 mc fc B n us _ (x.2.1.below Hg) (y.2.1.below Hg) x.2.2.1 y.2.2.1 x.2.2.2 y.2.2.2 Hs ht).mono λe w' ⟨he,hb,hdr⟩=>⟨he,JB hb hdr⟩
  have h1:∀ x:PE W0,∀ v∈eV x,v.oneCell'=true:=by
   intro x v hv;obtain ⟨a,n,c,e⟩:=x.2.1.slice
   simp [eV,e] at hv
   rcases hv with rfl|rfl|rfl <;> rfl
  have Hc:=AnyQ.slices_SortFunc Tryz.sortPL 3 Tryz.isAgg47 Tryz.sizeOf47 (eV (W0:=W0)) (λ_=>rfl) h1 (cfE us) (JA us) 147 #[.pointer (some ⟨fc,0,none⟩)] g 0 cap d w eg Hh hH Hb (by omega)
  change Calls Tryz.prog 146 _ _ _ at Hc
  rw [Hi] at Hc;refine Hc.mono λe w' ⟨he,d',m,os,hp,hs,hw'⟩=>⟨he,?_,?_⟩
  ·have He:d'.size=l.length:=by rw [hp.1,Hi]
   have Hl:=rO w g 0 m d' os;have Hg:Below W0.heap.size W0 w':=by rw [hw'];exact hW.trans (below_grown Hl (K:=W0.heap.size) (by have:=hW.size;omega) (λj hj=>by cases hj;omega))
   have Hj:HoldsK eV 3 w' g 0 d':=by
    rw [hw'];exact Go.Sort.holdsK_grow _ _ _ _ _ _ _ (by simpa [putRowK,Go.Sort.putRow,Go.Sort.mapBlock,Go.Sort.ahead] using Hb) (Go.Sort.holdsK_putRowK _ _ _ _ _ d _ (Go.Sort.holdsK_ahead _ _ _ _ _ _ _ hH) (by rw [hp.1]))
   have Ha:(d'.toList.map λx=>x.1.1).length=l.length:=by simp [He]
   have Ht:∀ k,k<l.length->pd (d'.toList.map λx=>x.1.1) k=d'[k]!.1.1:=by
    intro k hk;have Hn:k<d'.size:=by omega
    rw [getElem!_pos d' k Hn]
    simp [pd,Hn]
   refine ⟨d'.toList.map λx=>x.1.1,⟨_,cap,by rw [Ha],by rw [Ha];omega,λ_=>⟨g,0,λk=>d'[k]!.1.2,rfl,?_,λk hk=>?_⟩⟩,?_,?_⟩
   ·rw [hw'];exact Q1 Hb Hl.size
   ·rw [Ha] at hk;rw [Ht k hk];have c0:=(Hj.cell (i:=k) (c:=0) (by omega) (by omega)).1;have c1:=(Hj.cell (i:=k) (c:=1) (by omega) (by omega)).1;have c2:=(Hj.cell (i:=k) (c:=2) (by omega) (by omega)).1;obtain ⟨e0,e1,e2⟩:=yh d'[k]!;rw [e0] at c0;rw [e1] at c1;rw [e2] at c2;exact ⟨⟨c0,c1,c2⟩,(d'[k]!).2.1.below Hg⟩
   ·have Hf:d'.toList.Perm d.toList:=by
     have:=hp.2.2
     simp only [Array.toList_extract,List.extract_eq_take_drop,List.drop_zero,Nat.sub_zero] at this;rw [List.take_of_length_le (by simp [He]),List.take_of_length_le (by simp [Hi])] at this;exact this
    have h2:=Hf.map (λx:PE W0=>x.1.1);have h3:d.toList.map (λx:PE W0=>x.1.1)=l.map Prod.fst:=by rw [<- hd,List.map_map];rfl
    rw [h3] at h2;exact h2
   ·unfold oV;rw [List.pairwise_map,List.pairwise_map,List.pairwise_iff_getElem];intro i j hi hj Hp;have Ho:i<d'.size:=by simpa using hi
    have Hq:j<d'.size:=by simpa using hj
    have:=hs i j (Nat.zero_le _) Hp (by omega)
    rw [getElem!_pos d' j Hq,getElem!_pos d' i Ho,ltE] at this
    simpa using this
  ·rw [hw'];exact below_grown (rO w g 0 m d' os) (K:=K) (by omega) (λj hj=>by cases hj;exact Hm)
 ·have e:l=[]:=Qe (by omega);subst e;have hv:∃ p c,v=.slice p 0 c:=by
   rcases hrow.2 with ⟨hv,_⟩|⟨g,cap,cur,hv,_⟩
   ·exact ⟨none,0,hv⟩
   ·exact ⟨_,cap,hv⟩
  obtain ⟨p,c,rfl⟩:=hv;have Hc:=AnyF.slices_SortFunc_none (P:=Tryz.prog) (ρ:=Tryz.sortPL_ren) { Tryz.sortPL with } p c (.func (.func 147) #[] #[.pointer (some ⟨fc,0,none⟩)]) w
  change Calls Tryz.prog 146 _ _ _ at Hc
  exact Hc.mono λe w' ⟨he,hw'⟩=>⟨he,⟨[],⟨p,c,rfl,by simp,λh=>by simp at h⟩,List.Perm.refl _,List.Pairwise.nil⟩,by rw [hw'];exact Q0 _ _⟩
end
section
open RowKit
open Qos (Nd Ct Pd pd0 nd ct pd aO aP bX bh eU key jG iw oV)
def kq (ps:List Pd):Prop:=ps.length<=16/\∀ x∈ps,bX x.cs/\x.nm.size<=1000
theorem kq.perm {ps qs:List Pd} (h:kq ps) (hp:qs.Perm ps):kq qs:=⟨by rw [hp.length_eq];exact h.1,λx hx=>h.2 x (hp.mem_iff.1 hx)⟩
theorem JE {w:World} {a:Addr} {v:Value} (h:w.cell? a=some v) (o:Obj):(w.alloc o).cell? a=some v:=
 (((Q0 w.heap.size w).alloc (lR) o).cell (Q3 w _ h)).trans h
abbrev rP:=λ(x0:Nat)=>(.cells #[.func (.func 145) #[] #[.pointer (some ⟨x0,0,none⟩)]] 118:Obj)
theorem JF (v:Value) (ps:List Pd) (B n:Nat) (us:List Nd) (w:World) (h:eH w v ps) (hf:kq ps) (hU:cY w B n us) (ht:eU us) :
  Calls Tryz.prog 107 #[v,.map (some B)] w λe w'=>(∃ v' qs,e=.returned v'/\eH w' v' qs/\oX us ps qs/\∃ a m c,v'=.slice a m c/\m<=c)/\Below w.heap.size w w':=by
 have Hg:=(Q0 w.heap.size w).alloc (lR) (.cells #[.map (some B)] 198);have Hs:=qI Hg;have Hv:=qI (h.below Hg);have Hl:=qI (hU.alloc (.cells #[.map (some B)] 198));have Hw:(w.alloc (.cells #[.map (some B)] 198)).cell? ⟨w.heap.size,0,none⟩=some (.map (some B)):=by simp
 have Hy:(w.alloc (.cells #[.map (some B)] 198)).heap.size=w.heap.size+1:=by simp
 have Hq:=hU.lt;obtain ⟨ao,c,rfl,_,_⟩:=h;clear Hg hU
 go_enter Tryz.func107,Tryz.ntmps107
 go_wp2_with fail
 generalize hW1:w.alloc (.cells #[.map (some B)] 198)=W1 at *;clear hW1;refine (Jw _ ps _ Hv.out hf.1).mono ?_;rintro e w2 ⟨v2,l,rfl,Ha,hl,hc,Hb⟩;have Hz:=qI Hb;have He:=qI Ha;have Hf:l.length<=16:=by have:=hf.1;rw [<- hl,Q9] at this;exact this
 have Hr:=qI (show ∀ x∈l,OkE W1 x from λx hx=>by
  have Hi:x.1∈ps:=by rw [<- hl];exact List.mem_map_of_mem hx
  exact ⟨hc x hx,(hf.2 x.1 Hi).1,(hf.2 x.1 Hi).2⟩)
 have HL:=qI hl;have Hu:∃ a nn cc,v2=.slice a nn cc/\nn<=cc:=by
  rcases Ha.2 with ⟨hv,_⟩|⟨g,cap,cur,hv,_,_,Hp,_⟩
  ·exact ⟨_,_,_,hv,lR⟩
  ·exact ⟨_,_,_,hv,Hp⟩
 have Ht:=qI (show iY (w2.alloc (rP w.heap.size)) w.heap.size w2.heap.size B n us from
  ⟨JE ((Hb.cell (p:=⟨w.heap.size,0,none⟩) (by show w.heap.size<W1.heap.size;omega)).trans Hw) _,by simp,(Hl.out.below Hb Hl.out.lt).alloc _⟩)
 have Hj:=qI (Hb.alloc (by have:=Hb.size;omega) (rP w.heap.size));have Hc:=qI (World.ownsRow.alloc Ha (rP w.heap.size));have Hn:=qI (World.ownsRow.lt Ha);obtain ⟨a2,n2,c2,rfl,Hx⟩:=Hu;clear Ha hl hc Hb hf He
 go_wp2_with fail
 refine (JD us W1 _ l _ W1.heap.size w.heap.size w2.heap.size B n Hc.out Hr.out Hf Hj.out (lR) Ht.out ⟨by omega,by omega⟩ (λg hg=>by have:=(Hn.out g hg).2;omega) ht).mono ?_;rintro e w4 ⟨rfl,⟨qs,hq,Hk⟩,Hh⟩;have HQ:=qI hq;have Ho:=qI Hk;have Hm:=qI (Hs.out.trans ((Hj.out.trans Hh).mono (by omega)));clear hq Hk Hh
 go_wp2
 go_ret;exact ⟨⟨_,qs,rfl,HQ.out,(by rw [<- HL.out];exact Ho.out),_,_,_,rfl,Hx⟩,Hm.out⟩
def mQ (w:World) (v:Value) (l:List ByteArray):Prop:=
 ∃ ao c,v=.slice ao l.length c/\l.length<=c/\(0<l.length->∃ g,ao=some ⟨g,0,none⟩/\g<w.heap.size/\∀ k,k<l.length->w.cell? ⟨g,k,none⟩=some (.string (l.getD k ByteArray.empty)))
theorem iZ.read {base:Nat} {w:World} {v:Value} {l:List ByteArray} (h:iZ base w v l):mQ w v l:=by
 by_cases h0:0<l.length
 ·obtain ⟨g,cap,hv,Ha,_,_,Hb,hc⟩:=vw h h0;refine ⟨_,cap,hv,Ha,λ_=>⟨g,rfl,Hb,λk hk=>?_⟩⟩;refine hc k _ ?_
  simp [txV,hk]
 ·rcases h.2 with ⟨hv,hn⟩|⟨g,cap,cur,hv,_,_,Ha,_⟩
  ·exact ⟨none,0,by rw [hv];simp at h0;simp [h0],by omega,λh=>by omega⟩
  ·exact ⟨_,cap,hv,Ha,λh=>by omega⟩
end
section
open RowKit
open Qos (Nd nd bh Tot)
theorem yi (h l n:Int) (w:World) (hl0:0<=l) (hl1:l<1073741824) (hh:-17179869184<=h) (hh2:h<=17179869184) (hn:-9223372036854775808<=n) (hn2:n<=9223372036854775807) :
  Calls Tryz.prog 108 #[.agg #[.int .i64 h,.int .i64 l],.int .i64 n] w λe w'=>e=.returned (.agg #[.int .i64 (h+n / 1073741824+(l+n % 1073741824) / 1073741824),.int .i64 ((l+n) % 1073741824)])/\Below w.heap.size w w':=by
 have e1:=Qos.sQ n;have e2:=Qos.sQ (l+n % 1073741824);have w1:wrap64 (l+n % 1073741824)=l+n % 1073741824:=by unfold wrap64;omega
 have w2:wrap64 (h+n / 1073741824)=h+n / 1073741824:=by unfold wrap64;omega
 have w3:wrap64 (h+n / 1073741824+(l+n % 1073741824) / 1073741824)=h+n / 1073741824+(l+n % 1073741824) / 1073741824:=by unfold wrap64;omega
 go_enter Tryz.func108,Tryz.ntmps108
 go_wp2_with fail
 (try simp only [Exit.inBlock,Exit.then]);refine bodyPost_ret (v:=.agg #[.int .i64 (h+n / 1073741824+(l+n % 1073741824) / 1073741824),.int .i64 ((l+n) % 1073741824)]) ?_ rfl ⟨rfl,?_⟩
 ·rw [ot rfl];clear e1 e2 w1 w2 w3;go_simp
 ·exact ((Q0 _ _).alloc (lR) _).alloc (by simp) _
end
