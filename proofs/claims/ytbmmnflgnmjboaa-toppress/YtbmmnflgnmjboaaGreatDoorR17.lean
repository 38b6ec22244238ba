import Derived.Test.YtbmmnflgnmjboaaGreatDoorR9
import Derived.Sort.Statements
import Derived.WideShapes
import Derived.WideAt
import Derived.Shelf.SlicesG.Cmp
import Derived.Ground.SlgcProg
import Derived.Maps.OwnSet
import Derived.StringKeys
import Derived.Laws.EntriesVeiled
set_option maxRecDepth 100000
set_option maxHeartbeats 16000000
open Go.Proofs.Tryz
namespace Go.Proofs.YtbmmnflgnmjboaaGreatDoor
section
namespace Qos
open Go.Sort
def aH (us:List Nd) (nm:ByteArray):Int:=((us.find? λu=>decide (u.kind=nm)).map Nd.many).getD 0
structure Key where
 ab:Int
 pr:Int
 nm:ByteArray
instance:Inhabited Key:=⟨⟨0,0,ByteArray.empty⟩⟩
def cr (x:Int):Int:=if 0<x then 0 else 1
def ltS (a b:ByteArray):Bool:=Op.bytesLess a.toList b.toList
def aU (a b:ByteArray):Int:=if ltS a b=true then -1 else if ltS b a=true then 1 else 0
def orI (a b:Int):Int:=if a=0 then b else a
def jD (a b:Key):Int:=orI (Lib.compareInt (cr a.ab) (cr b.ab)) (orI (Lib.compareInt a.pr b.pr) (orI (Lib.compareInt b.ab a.ab) (aU a.nm b.nm)))
def il (a b:Key):Bool:=decide (jD a b<0)
def key (us:List Nd) (p:Pd):Key:=⟨aH us p.nm - aP p.cs p.cs.length,p.pr,p.nm⟩
theorem oV:∀ a b:List UInt8,Op.bytesLess a b=bytesBefore a b
 | [],[]=>rfl
 | _ :: _,[]=>rfl
 | [],_ :: _=>rfl
 | a :: x,b :: y=>by rw [Op.bytesLess,bytesBefore,oV x y]
def one (b:Bool):Int:=if b=true then 1 else 0
theorem fH (b:Bool):one b=0\/one b=1:=by cases b <;> simp [one]
theorem oW (a:ByteArray):one (ltS a a)=0:=by simp [one,ltS,oV,WideAt.bytes_irrefl]
theorem mP (a b c:ByteArray):one (ltS a b)=1->one (ltS b c)=1->one (ltS a c)=1:=by
 simp only [one,ltS,oV];intro h1 h2;have Hb:bytesBefore a.toList b.toList=true:=by
  rcases Bool.eq_false_or_eq_true (bytesBefore a.toList b.toList) with h|h
  ·exact h
  ·rw [h] at h1;cases h1
 have Ha:bytesBefore b.toList c.toList=true:=by
  rcases Bool.eq_false_or_eq_true (bytesBefore b.toList c.toList) with h|h
  ·exact h
  ·rw [h] at h2;cases h2
 rw [WideShapes.bytes_trans _ _ _ Hb Ha];rfl
theorem Jd {a b:ByteArray} (h:a.toList=b.toList):a=b:=by
 rw [Qs,Qs] at h;exact ByteArray.ext (Array.toList_inj.mp h)
theorem rM (a b:ByteArray):one (ltS a b)=0->one (ltS b a)=0->a=b:=by
 simp only [one,ltS,oV];intro h1 h2
 by_cases e:a.toList=b.toList
 ·exact Jd e
 ·rcases WideAt.bytes_total _ _ e with h|h
  ·rw [h] at h1;cases h1
  ·rw [h] at h2;cases h2
theorem mQ (a b:ByteArray):one (ltS a b)=1->one (ltS b a)=0:=by
 intro h
 rcases fH (ltS b a) with g|g
 ·exact g
 ·have:=mP a b a h g
  rw [oW] at this;cases this
theorem iT (a b c:ByteArray):one (ltS a b)=0->one (ltS b c)=0->one (ltS a c)=0:=by
 intro h1 h2
 rcases fH (ltS a c) with g|g
 ·exact g
 rcases fH (ltS b a) with k|k
 ·rw [rM a b h1 k] at g;omega
 ·have:=mP b a c k g;omega
theorem xT (a b:Key):il a b=true↔(cr a.ab<cr b.ab\/(cr a.ab=cr b.ab/\(a.pr<b.pr\/(a.pr=b.pr/\(b.ab<a.ab\/(a.ab=b.ab/\one (ltS a.nm b.nm)=1)))))):=by
 unfold il jD orI Lib.compareInt aU;have hs:=mQ a.nm b.nm;generalize cr a.ab=ta;generalize cr b.ab=tb;generalize ltS a.nm b.nm=s1 at *;generalize ltS b.nm a.nm=s2 at *;rw [decide_eq_true_iff];cases s1 <;> cases s2 <;> simp [one] at*<;> (repeat' split) <;> omega
theorem xU (a b:Key):il a b=false↔¬ (cr a.ab<cr b.ab\/(cr a.ab=cr b.ab/\(a.pr<b.pr\/(a.pr=b.pr/\(b.ab<a.ab\/(a.ab=b.ab/\one (ltS a.nm b.nm)=1)))))):=by
 rw [<- xT];simp
theorem rN:SWO il where
 irrefl a:=by
  rw [xU]
  have:=oW a.nm
  omega
 trans a b c h1 h2:=by
  rw [xT] at *
  have:=mP a.nm b.nm c.nm
  omega
 ntrans a b c h1 h2:=by
  rw [xU] at *;have h3:=iT a.nm b.nm c.nm;have h4:=fH (ltS a.nm b.nm);have h5:=fH (ltS b.nm c.nm);have h6:=fH (ltS a.nm c.nm);omega
def oX (l:List Key):Prop:=l.Pairwise λa b=>il b a=false
def tail (us:List Nd) (l:List Pd) (i:Nat):Int:=((l.drop i).map λp=>aH us p.nm).sum
theorem Je (us:List Nd) (l:List Pd):tail us l l.length=0:=by simp [tail]
theorem Jf (us:List Nd) {l:List Pd} {i:Nat} (h:i<l.length):tail us l i=aH us (pd l i).nm+tail us l (i+1):=by
 unfold tail;rw [List.drop_eq_getElem_cons h,Qq,List.sum_cons,pd,List.getD_eq_getElem?_getD,Qf h];rfl
structure cO (us:List Nd) (l:List Pd) (most:Int) (i g:Nat):Prop where
 lo:i<=g
 hi:g<=l.length
 no:∀ j,i<=j->j<g->most<tail us l j
 yes:g<l.length->tail us l g<=most
theorem cO.start (us:List Nd) (l:List Pd) (most:Int):cO us l most l.length l.length:=⟨lR,lR,λj h1 h2=>by omega,λh=>by omega⟩
theorem cO.stay {us:List Nd} {l:List Pd} {most:Int} {i g:Nat} (h:cO us l most (i+1) g) (hm:most<tail us l i):cO us l most i g:=
 ⟨by have:=h.lo;omega,h.hi,λj h1 h2=>by
  by_cases e:j=i
  ·subst e;exact hm
  ·exact h.no j (by omega) h2,h.yes⟩
theorem cO.here {us:List Nd} {l:List Pd} {most:Int} {i:Nat} (hi:i<l.length) (hm:tail us l i<=most):cO us l most i i:=
 ⟨lR,by omega,λj h1 h2=>by omega,λ_=>hm⟩
end Qos
end
end Go.Proofs.YtbmmnflgnmjboaaGreatDoor
namespace Go.Proofs
open Go.Shelf
shelf_lay_g SlLaysC2.n5 Slgc 5 at Tryz 148 as Tryz.cmpL2
end Go.Proofs
namespace Go.Proofs.YtbmmnflgnmjboaaGreatDoor
section
open RowKit
open Qos (Nd Pd cr ltS aU orI)
theorem xV (x:Int) (w:World):Calls prog 149 #[.int .i64 x] w λe w'=>e=.returned (.int .i64 (cr x))/\w'=w:=by
 have HT:Hid (cr x=if 0<x then 0 else 1):=rfl;generalize cr x=T at *
 by_cases h:0<x
 ·have HE:=qI (HT.out.trans (if_pos h));clear HT
  go_enter func149,ntmps149
  go_wp2
  go_ret;exact ⟨by rw [HE.out];rfl,rfl⟩
 ·have HE:=qI (HT.out.trans (if_neg h));clear HT
  go_enter func149,ntmps149
  go_wp2
  go_ret;exact ⟨by rw [HE.out];rfl,rfl⟩
theorem mR (x y:Int) (w:World):Calls prog 148 #[.int .i64 x,.int .i64 y] w λe w'=>e=.returned (.int .i64 (Lib.compareInt x y))/\w'=w:=by
 have h:=AnyG.cmp_Compare_int Tryz.cmpL2 x y w
 change Calls prog 148 _ _ _ at h
 exact h
theorem ln (x:ByteArray) (w:World):Calls prog 123 #[.string x] w λe w'=>e=.returned (.bool false)/\w'=w:=by
 go_enter func123,ntmps123
 go_wp2
 go_ret;exact ⟨by simp,rfl⟩
theorem Jg (x y:ByteArray) (w:World):Calls prog 77 #[.string x,.string y] w λe w'=>e=.returned (.int .i64 (aU x y))/\w'=w:=by
 have HT:Hid (aU x y=if ltS x y=true then -1 else if ltS y x=true then 1 else 0):=rfl;have Ha:=qI (Qos.rM x y);have Hc:=qI (Qos.mQ x y);generalize aU x y=T at *
 rcases two (ltS x y) with h1|h1
 ·have HE:=qI (HT.out.trans (if_pos h1));have He:Op.bytesLess x.toList y.toList=true:=h1;clear HT h1 Ha Hc
  go_enter func77,ntmps77
  go_wp2_with fail
  refine (ln _ _).mono ?_;rintro e w1 ⟨rfl,rfl⟩
  go_wp2_with fail
  refine (ln _ _).mono ?_;rintro e w1 ⟨rfl,rfl⟩
  go_wp2
  go_ret;exact ⟨by rw [HE.out];rfl,rfl⟩
 ·have Hb:=qI (HT.out.trans (if_neg (by rw [h1];decide)));have He:Op.bytesLess x.toList y.toList=false:=h1
  rcases two (ltS y x) with h2|h2
  ·have HE:=qI (Hb.out.trans (if_pos h2));have Hg:(x.toList == y.toList)=false:=by
    rw [kW];refine Q7 λe=>?_
    subst e;rw [h1] at h2;cases h2
   clear HT Hb h1 h2 Ha Hc
   go_enter func77,ntmps77
   go_wp2_with fail
   refine (ln _ _).mono ?_;rintro e w1 ⟨rfl,rfl⟩
   go_wp2_with fail
   refine (ln _ _).mono ?_;rintro e w1 ⟨rfl,rfl⟩
   go_wp2
   go_ret;exact ⟨by rw [HE.out];rfl,rfl⟩
  ·have HE:=qI (Hb.out.trans (if_neg (by rw [h2];decide)));have Hf:x=y:=Ha.out (by rw [h1];rfl) (by rw [h2];rfl);subst Hf;clear HT Hb h1 h2 Ha Hc
   go_enter func77,ntmps77
   go_wp2_with fail
   refine (ln _ _).mono ?_;rintro e w1 ⟨rfl,rfl⟩
   go_wp2_with fail
   refine (ln _ _).mono ?_;rintro e w1 ⟨rfl,rfl⟩
   go_wp2
   go_ret;exact ⟨by rw [HE.out];rfl,rfl⟩
def or4 (a b c d:Int):Int:=orI a (orI b (orI c d))
theorem Jh (a b c d:Int) (g n:Nat) (w:World) (h0:w.cell? ⟨g,0,none⟩=some (.int .i64 a)) (h1:w.cell? ⟨g,1,none⟩=some (.int .i64 b)) (h2:w.cell? ⟨g,2,none⟩=some (.int .i64 c)) (h3:w.cell? ⟨g,3,none⟩=some (.int .i64 d)) :
  Calls prog 76 #[.slice (some ⟨g,0,none⟩) 4 n] w λe w'=>e=.returned (.int .i64 (or4 a b c d))/\w'=w:=by
 have HO:Hid (∀ k:Nat,k<4->∃ v:Int,w.cell? ⟨g,k,none⟩=some (.int .i64 v)/\(v=if k=0 then a else if k=1 then b else if k=2 then c else d)):=by
  intro k hk
  have:k=0\/k=1\/k=2\/k=3:=by omega
  rcases this with rfl|rfl|rfl|rfl
  ·exact ⟨a,h0,rfl⟩
  ·exact ⟨b,h1,rfl⟩
  ·exact ⟨c,h2,rfl⟩
  ·exact ⟨d,h3,rfl⟩
 clear h0 h1 h2 h3
 go_enter func76,ntmps76
 go_wp2_with fail
 go_loop [8] (λi=>∃ k:Nat,k<=4/\i=.int .i64 k/\Hid ((0<k->a=0)/\(1<k->b=0)/\(2<k->c=0)/\(3<k->d=0))) (λi=>4 - (intOf i).toNat)
 case atStart=>exact ⟨0,by omega,rfl,⟨λh=>by omega,λh=>by omega,λh=>by omega,λh=>by omega⟩⟩
 case round=>
  obtain ⟨k,hk,rfl,HZ⟩:=hrel
  by_cases hlt:k<4
  ·obtain ⟨v,hc,hv⟩:=HO.out k hlt;have HV:=qI hv;clear hv
   by_cases h0:v=0
   ·subst h0;have Hb:Hid ((0<k+1->a=0)/\(1<k+1->b=0)/\(2<k+1->c=0)/\(3<k+1->d=0)):=by
     obtain ⟨z0,z1,z2,z3⟩:=HZ.out;have hv:=HV.out
     have:k=0\/k=1\/k=2\/k=3:=by omega
     rcases this with rfl|rfl|rfl|rfl
     ·simp at hv;exact ⟨λ_=>hv.symm,λh=>by omega,λh=>by omega,λh=>by omega⟩
     ·simp at hv;exact ⟨λ_=>z0 (by omega),λ_=>hv.symm,λh=>by omega,λh=>by omega⟩
     ·simp at hv;exact ⟨λ_=>z0 (by omega),λ_=>z1 (by omega),λ_=>hv.symm,λh=>by omega⟩
     ·simp at hv;exact ⟨λ_=>z0 (by omega),λ_=>z1 (by omega),λ_=>z2 (by omega),λ_=>hv.symm⟩
    go_wp2_with fail
    go_round
    case rel=>exact ⟨k+1,by omega,by go_num,Hb⟩
    case measure=>simp [intOf];omega
   ·have HE:Hid (or4 a b c d=v):=by
     obtain ⟨z0,z1,z2,z3⟩:=HZ.out;have hv:=HV.out
     have:k=0\/k=1\/k=2\/k=3:=by omega
     unfold Hid or4 orI
     rcases this with rfl|rfl|rfl|rfl
     ·simp at hv;subst hv;rw [if_neg h0]
     ·simp at hv;subst hv;rw [if_pos (z0 (by omega)),if_neg h0]
     ·simp at hv;subst hv;rw [if_pos (z0 (by omega)),if_pos (z1 (by omega)),if_neg h0]
     ·simp at hv;subst hv;rw [if_pos (z0 (by omega)),if_pos (z1 (by omega)),if_pos (z2 (by omega))]
    have hb:(v != 0)=true:=by simp [h0]
    go_wp2
    go_ret;exact ⟨by rw [HE.out];rfl,rfl⟩
  ·have Ha:k=4:=by omega
   subst Ha;have HE:Hid (or4 a b c d=0):=by
    obtain ⟨z0,z1,z2,z3⟩:=HZ.out;unfold Hid or4 orI;rw [if_pos (z0 (by omega)),if_pos (z1 (by omega)),if_pos (z2 (by omega)),z3 (by omega)]
   go_wp2
   go_ret;exact ⟨by rw [HE.out];rfl,rfl⟩
end
section
namespace Qos
def oY (us:List Nd) (ps:List Pd) (j:Nat):Key:=key us (pd ps j)
structure Sel (us:List Nd) (ps:List Pd) (D:Nat->Bool) (out:List Nat):Prop where
 nodup:out.Nodup
 mem:∀ j,j∈out↔(j<ps.length/\D j=true)
 srt:out.Pairwise λa b=>il (oY us ps b) (oY us ps a)=false
 ahead:∀ a,a∈out->∀ j,j<ps.length->D j=false->il (oY us ps j) (oY us ps a)=false
theorem Ji (ps:List Pd):(List.range ps.length).map (λj=>pd ps j)=ps:=by
 apply List.ext_getElem
 ·simp
 ·intro i h1 h2
  simp [pd,h2]
end Qos
end
section
open RowKit
open Qos (Nd Ct Pd nd0 ct0 pd0 nd ct pd gG gH ef quiet sure aO aP bU)
theorem Jj (p:Pd) (cv:Value) (w:World) (h:aE w cv p.cs) (hmi:bU p.cs):Calls prog 37 #[bG p cv] w λe w'=>e=.returned (.agg #[.int .i64 (aO p.cs p.cs.length),.int .i64 (aP p.cs p.cs.length)])/\Below w.heap.size w w'/\w'.drawn=w.drawn:=by
 obtain ⟨ao,c,rfl,hm,hr⟩:=h;have HR:=qI hr;clear hr hm;unfold bG;have Hj:=qI ((((Q0 w.heap.size w).alloc (lR) (.cells #[.string p.nm,.int .i64 p.pr,.slice ao p.cs.length c] 47)).alloc (by simp) (.cells #[.int .i64 0,.int .i64 0] 60)).alloc (by simp;omega) (.cells #[.int .i64 0,.int .i64 0] 60));have Hf:Hid (bn (((w.alloc (.cells #[.string p.nm,.int .i64 p.pr,.slice ao p.cs.length c] 47)).alloc (.cells #[.int .i64 0,.int .i64 0] 60)).alloc (.cells #[.int .i64 0,.int .i64 0] 60)) (w.heap.size+1) 0 0/\bn (((w.alloc (.cells #[.string p.nm,.int .i64 p.pr,.slice ao p.cs.length c] 47)).alloc (.cells #[.int .i64 0,.int .i64 0] 60)).alloc (.cells #[.int .i64 0,.int .i64 0] 60)) (w.heap.size+1+1) 0 0):=by
  constructor
  ·have:=(bn.made (w.alloc (.cells #[.string p.nm,.int .i64 p.pr,.slice ao p.cs.length c] 47)) 60 0 0).alloc (.cells #[.int .i64 0,.int .i64 0] 60)
   simpa using this
  ·have:=bn.made ((w.alloc (.cells #[.string p.nm,.int .i64 p.pr,.slice ao p.cs.length c] 47)).alloc (.cells #[.int .i64 0,.int .i64 0] 60)) 60 0 0
   simpa using this
 generalize p.cs=cs at *;have Hg:=qI hmi;have Hv:=hmi.1;clear hmi
 go_enter func37,ntmps37
 go_wp2
 go_loopw [9] (λi wr=>∃ k:Nat,k<=cs.length/\i=.int .i64 k/\Below w.heap.size w wr/\bn wr (w.heap.size+1) 0 0/\bn wr (w.heap.size+1+1) (aO cs k) (aP cs k)/\Hid (wr.drawn=w.drawn)) (λi _=>cs.length - (intOf i).toNat)
 case atStart=>exact ⟨0,by omega,rfl,Hj.out,Hf.out.1,Hf.out.2,rfl⟩
 case round=>
  obtain ⟨k,hk,rfl,hB,He,Hh,Hm⟩:=hrel
  by_cases hlt:k<cs.length
  ·obtain ⟨b,o,dv,rfl,Ha⟩:=HR.out (by omega);have Ha:=Ha.below hB;obtain ⟨c0,c1,c2,c3,c4,c5⟩:=Ha.at hlt;have Ht:∃ a n e,dv k=.slice a n e:=by
    obtain ⟨a,e,he,_⟩:=(Ha.2 k hlt).2;exact ⟨a,_,e,he⟩
   have Hc:=qI (hB.alloc hB.size (.cells #[.string (ct cs k).nm,.int .i64 (ct cs k).am,.int .i64 (ct cs k).ab,.int .i64 (ct cs k).cm,.int .i64 (ct cs k).cb,dv k] 63));have Hk:=He.alloc (.cells #[.string (ct cs k).nm,.int .i64 (ct cs k).am,.int .i64 (ct cs k).ab,.int .i64 (ct cs k).cm,.int .i64 (ct cs k).cb,dv k] 63);have Hi:=Hh.alloc (.cells #[.string (ct cs k).nm,.int .i64 (ct cs k).am,.int .i64 (ct cs k).ab,.int .i64 (ct cs k).cm,.int .i64 (ct cs k).cb,dv k] 63);have Hb:=gY.made wr (ct cs k) (dv k);have Hl:Hid ((wr.alloc (.cells #[.string (ct cs k).nm,.int .i64 (ct cs k).am,.int .i64 (ct cs k).ab,.int .i64 (ct cs k).cm,.int .i64 (ct cs k).cb,dv k] 63)).drawn=w.drawn):=Hm.out;have Hw:Hid (aO cs (k+1)=aO cs k+(ct cs k).am):=rfl;have Hr:Hid (aP cs (k+1)=aP cs k+(ct cs k).ab):=rfl;obtain ⟨m1,m2,_⟩:=Hg.out.2 k hlt;obtain ⟨s1,s2⟩:=Qos.kV Hg.out hk;obtain ⟨s3,s4⟩:=Qos.j8 Hg.out hk;have Hu:=Hh.lt;clear Ha hB Hj Hf;generalize aO cs k=M at *;generalize aP cs k=N at *;generalize ct cs k=x at *;generalize dv k=d at *;obtain ⟨da,dn,dc,rfl⟩:=Ht;generalize hW1:wr.alloc (.cells #[.string x.nm,.int .i64 x.am,.int .i64 x.ab,.int .i64 x.cm,.int .i64 x.cb,.slice da dn dc] 63)=W1 at Hk Hi Hc Hb Hl;have e1:wrap64 (M+x.am)=M+x.am:=by unfold wrap64;omega
   have e2:wrap64 (N+x.ab)=N+x.ab:=by unfold wrap64;omega
   have Ho:=qI (bL W1 ⟨w.heap.size+1+1,0,none⟩ (.int .i64 (M+x.am)));have Hq:=qI (Hk.kept Ho.out (by simp));have Hn:=qI (Hi.set0 (M+x.am));have d2:=(Ho.out.cell_far ⟨wr.heap.size,2,none⟩ Hb.1 (by simp;omega)).trans Hb.2.2.2.1;obtain ⟨⟨f1,f2⟩,⟨f3,f4⟩⟩:=Hi;obtain ⟨⟨g1,g2⟩,⟨g3,g4⟩⟩:=Hn.out;obtain ⟨_,_,b1,_⟩:=Hb
   go_wp2_with fail
   have hz:=Hc.out.size;have Hs:=fU Hc.out (w.heap.size+1+1) 0 (.int .i64 (M+x.am)) (by omega) hz;refine ⟨⟨k+1,by omega,by go_num,fU Hs (w.heap.size+1+1) 1 (.int .i64 (N+x.ab)) (by omega) (by simpa using hz),Hq.out.kept (bL _ ⟨w.heap.size+1+1,1,none⟩ (.int .i64 (N+x.ab))) (by simp),?_,Hl.out⟩,by simp [intOf];omega⟩;rw [Hw.out,Hr.out];exact Hn.out.set1 _
  ·have Hx:k=cs.length:=by omega
   subst Hx;have hz:=hB.size;have Hp:=qI (fU (fU hB (w.heap.size+1) 0 (.int .i64 (aO cs cs.length)) (by omega) hz) (w.heap.size+1) 1 (.int .i64 (aP cs cs.length)) (by omega) (by simpa using hz));have Hy:=qI ((He.set0 (aO cs cs.length)).set1 (aP cs cs.length));obtain ⟨⟨f1,f2⟩,⟨f3,f4⟩⟩:=He;obtain ⟨⟨g1,g2⟩,⟨g3,g4⟩⟩:=Hh;clear hB
   go_wp2_with fail
   (try simp only [Exit.inBlock,Exit.then]);refine bodyPost_ret (v:=.agg #[.int .i64 (aO cs cs.length),.int .i64 (aP cs cs.length)]) ?_ rfl ⟨rfl,Hp.out,Hm.out⟩;obtain ⟨⟨g1,g2⟩,⟨g3,g4⟩⟩:=Hy.out;rw [ou rfl];clear f1 f2 f3 f4;go_simp
end
section
namespace Qos
def qR (us:List Nd) (ps:List Pd) (n:Nat):Int:=sumTo (λk=>aH us (pd ps k).nm) n
def eR (us:List Nd):Prop:=∀ k,k<us.length->-1125899906842624<=(nd us k).many/\(nd us k).many<=1125899906842624
theorem mS {us:List Nd} (h:eR us) (nm:ByteArray):-1125899906842624<=aH us nm/\aH us nm<=1125899906842624:=by
 unfold aH;cases e:us.find? λu=>decide (u.kind=nm) with
 | none=>simp
 | some x=>
  have hm:=List.mem_of_find?_eq_some e;obtain ⟨k,hk,rfl⟩:=List.getElem_of_mem hm
  have:=h k hk
  simp [nd,hk] at this
  simp
  exact this
theorem Jk {l:List Int} {B:Int} (h:∀ x∈l,-B<=x/\x<=B):-(l.length*B)<=l.sum/\l.sum<=l.length*B:=by
 induction l with
 | nil=>simp
 | cons x l ih=>
  have h1:=h x (by simp);have h2:=ih λy hy=>h y (by simp [hy]);rw [List.sum_cons,Qg];have e:((l.length+1:Nat):Int)*B=l.length*B+B:=by rw [Int.natCast_add,Int.add_mul];simp
  omega
theorem Jl {us:List Nd} {nm:ByteArray} {k:Nat} (hk:k<us.length) (hn:∀ j,j<k->(nd us j).kind≠nm) (he:(nd us k).kind=nm):aH us nm=(nd us k).many:=by
 unfold aH;have e:us.find? (λu=>decide (u.kind=nm))=some us[k]:=by
  rw [List.find?_eq_some_iff_getElem];refine ⟨?_,k,hk,rfl,λj hj=>?_⟩
  ·have:us[k].kind=nm:=by simpa [nd,hk] using he
   simp [this]
  ·have:=hn j hj
   have Ha:j<us.length:=by omega
   simp [nd,Ha] at this
   simp [this]
 rw [e]
 simp [nd,hk]
theorem Jm {us:List Nd} {nm:ByteArray} (hn:∀ j,j<us.length->(nd us j).kind≠nm):aH us nm=0:=by
 unfold aH;have e:us.find? (λu=>decide (u.kind=nm))=none:=by
  rw [List.find?_eq_none];intro x hx;obtain ⟨k,hk,rfl⟩:=List.getElem_of_mem hx
  have:=hn k hk
  simp [nd,hk] at this
  simp [this]
 rw [e];rfl
end Qos
end
section
namespace Qos
def kr (us:List Nd) (qs:List Pd) (most:Int) (st:Int × Nat) (x:Nat):Int × Nat:=
 (st.1+aH us (pd qs x).nm,if st.1+aH us (pd qs x).nm<=most then x else st.2)
def er (us:List Nd) (qs:List Pd) (most:Int) (pre:List Nat):Int × Nat:=pre.foldl (kr us qs most) (0,qs.length)
theorem rO (us:List Nd) (qs:List Pd) (most:Int) (pre:List Nat) (x:Nat):er us qs most (pre++[x])=kr us qs most (er us qs most pre) x:=by
 unfold er;rw [List.foldl_append];rfl
theorem Jn (us:List Nd) (qs:List Pd) (most:Int) (pre:List Nat):(er us qs most pre).1=(pre.map λx=>aH us (pd qs x).nm).sum:=by
 have key:∀ (pre:List Nat) (st:Int × Nat),(pre.foldl (kr us qs most) st).1=st.1+(pre.map λx=>aH us (pd qs x).nm).sum:=by
  intro pre
  induction pre with
  | nil=>intro st;simp
  | cons x l ih=>intro st;rw [List.foldl_cons,ih,Qq,List.sum_cons];unfold kr;simp only;omega
 unfold er;rw [key];simp
theorem xW {us:List Nd} (h:eR us) (qs:List Pd) (most:Int) {pre:List Nat} (hl:pre.length<=16):-18014398509481984<=(er us qs most pre).1/\(er us qs most pre).1<=18014398509481984:=by
 rw [Jn]
 have:=Jk (l:=pre.map λx=>aH us (pd qs x).nm) (B:=1125899906842624) (λx hx=>by
  obtain ⟨p,_,rfl⟩:=Qk.1 hx;exact mS h _)
 rw [Q9] at this;omega
def eF (n k:Nat):List Nat:=(List.range k).map λj=>n - 1 - j
theorem rP (n k:Nat):eF n (k+1)=eF n k++[n - 1 - k]:=by unfold eF;rw [List.range_succ,Qj];rfl
theorem rQ (n k:Nat):(eF n k).length=k:=by simp [eF]
theorem xX (us:List Nd) (qs:List Pd) (most:Int):∀ k,k<=qs.length->(er us qs most (eF qs.length k)).1=tail us qs (qs.length - k)/\cO us qs most (qs.length - k) (er us qs most (eF qs.length k)).2
 | 0,_=>by
  show (0:Int)=_/\cO us qs most _ qs.length
  rw [Nat.sub_zero,Je];exact ⟨rfl,cO.start us qs most⟩
 | k+1,hk=>by
  obtain ⟨h1,h2⟩:=xX us qs most k (by omega);rw [rP,rO];have e1:qs.length - 1 - k=qs.length - (k+1):=by omega
  have e2:qs.length - k=qs.length - (k+1)+1:=by omega
  have Ha:qs.length - (k+1)<qs.length:=by omega
  have e3:=Jf us (l:=qs) (i:=qs.length - (k+1)) Ha;rw [e2] at h1 h2;rw [e1];generalize qs.length - (k+1)=i at *;unfold kr
  simp only
  rw [h1];have e4:tail us qs (i+1)+aH us (pd qs i).nm=tail us qs i:=by rw [e3];omega
  rw [e4];refine ⟨rfl,?_⟩
  by_cases hm:tail us qs i<=most
  ·rw [if_pos hm];exact cO.here Ha hm
  ·rw [if_neg hm];exact h2.stay (by omega)
theorem xY (us:List Nd) (qs:List Pd) (most:Int):cO us qs most 0 (er us qs most (eF qs.length qs.length)).2:=by
 have:=(xX us qs most qs.length (lR)).2
 rwa [Nat.sub_self] at this
theorem Tot.high {h l v:Int} (t:Tot h l v) (hv:-18014398509481984<=v) (hv2:v<=18014398509481984):-17179869184<=h/\h<=17179869184:=by
 obtain ⟨h1,h2,h3⟩:=t;omega
end Qos
end
section
open RowKit Go.ChangeMaps
open Go.Maps (Keyed)
open Qos (Nd nd aH eR)
theorem im:Keyed prog 9:=Go.Maps.string_keyed underlying9
theorem mT (w:World):(zeroValue 3).run prog w=.ok (.int .i64 0) w:=by kernel_rfl
def cX (w:World) (B n:Nat) (us:List Nd):Prop:=
 ∃ D:DataW Unit,w.ownsMap prog 9 (plainElem prog 3) B n D/\∀ s:ByteArray,D.atKey (.string s.data.toList) (.lit (.int .i64 0))=.lit (.int .i64 (aH us s))/\Go.Maps.has D (.string s.data.toList)=us.any λu=>decide (u.kind=s)
theorem cX.alloc {w:World} {B n:Nat} {us:List Nd} (h:cX w B n us) (o:Obj):cX (w.alloc o) B n us:=by
 obtain ⟨D,ho,hk⟩:=h;exact ⟨D,ho.alloc o,hk⟩
theorem cX.below {w w':World} {B K n:Nat} {us:List Nd} (h:cX w B n us) (hb:Below K w w') (hK:B<K):cX w' B n us:=by
 obtain ⟨D,⟨es,clock,hh,r⟩,hk⟩:=h;exact ⟨D,⟨es,clock,(hb.block B hK).trans hh,r⟩,hk⟩
theorem cX.lt {w:World} {B n:Nat} {us:List Nd} (h:cX w B n us):B<w.heap.size:=by
 obtain ⟨D,ho,_⟩:=h;exact ho.lt
theorem cX.made (w:World):cX (w.alloc (.map #[] 0)) w.heap.size 0 []:=
 ⟨.map [],World.ownsMap_made w _ _ _,λ_=>⟨rfl,rfl⟩⟩
theorem xZ {us:List Nd} {k:Nat} (h:k<us.length):us.take (k+1)=us.take k++[nd us k]:=by
 rw [List.take_add_one,nd,List.getD_eq_getElem?_getD,Qf h];rfl
theorem x9 (l:List Nd) (u:Nd) (s:ByteArray):aH (l++[u]) s=if (l.any λv=>decide (v.kind=s))=true then aH l s else if u.kind=s then u.many else 0:=by
 unfold aH;rw [List.find?_append];cases e:l.find? (λv=>decide (v.kind=s)) with
 | none=>
  have ha:(l.any λv=>decide (v.kind=s))=false:=by
   rw [List.any_eq_false];intro x hx;exact List.find?_eq_none.1 e x hx
  rw [if_neg (by rw [ha];decide)]
  by_cases h:u.kind=s
  ·simp [h]
  ·simp [h]
 | some x=>
  have ha:(l.any λv=>decide (v.kind=s))=true:=by
   rw [List.any_eq_true];exact ⟨x,List.mem_of_find?_eq_some e,List.find?_some (p:=λv:Nd=>decide (v.kind=s)) e⟩
  rw [if_pos ha];rfl
theorem rR {a b:ByteArray} (h:a.data.toList=b.data.toList):a=b:=ByteArray.ext (Array.toList_inj.mp h)
theorem Jo {l:List Nd} {u:Nd} (h:(l.any λv=>decide (v.kind=u.kind))=true) (s:ByteArray):aH (l++[u]) s=aH l s/\((l++[u]).any λv=>decide (v.kind=s))=l.any λv=>decide (v.kind=s):=by
 rw [x9,List.any_append]
 by_cases e:u.kind=s
 ·subst e;rw [if_pos h,h]
  simp
 ·by_cases g:(l.any λv=>decide (v.kind=s))=true
  ·rw [if_pos g];simp [e]
  ·rw [if_neg g,if_neg e];refine ⟨?_,by simp [e]⟩;unfold aH;rw [List.find?_eq_none.2 (by simpa [List.any_eq_true] using g)];rfl
theorem cX.put {w':World} {B n:Nat} {l:List Nd} {u:Nd} {D:DataW Unit} (hD:∀ s:ByteArray,D.atKey (.string s.data.toList) (.lit (.int .i64 0))=.lit (.int .i64 (aH l s))/\Go.Maps.has D (.string s.data.toList)=l.any λv=>decide (v.kind=s)) {w0:World} {n0:Nat} (him:w0.ownsMap prog 9 (plainElem prog 3) B n0 D)
  (ho:w'.ownsMap prog 9 (plainElem prog 3) B n (D.put (.string u.kind.data.toList) (.lit (.int .i64 u.many)))) (hno:(l.any λv=>decide (v.kind=u.kind))=false):cX w' B n (l++[u]):=by
 refine ⟨_,ho,λs=>?_⟩;rw [x9,List.any_append]
 by_cases e:u.kind=s
 ·subst e;have Ha:WideAt.IsKeyLit (Lit.string u.kind.data.toList):=trivial;rw [Go.Maps.atKey_put_same him.isMap Ha,Go.Maps.has_put_same him.isMap Ha,if_neg (by rw [hno];decide),if_pos rfl]
  simp
 ·have Hb:(Lit.string s.data.toList)≠(Lit.string u.kind.data.toList):=by
   intro h;injection h with h
   exact e (rR h).symm
  rw [Go.Maps.atKey_put_other Hb,Go.Maps.has_put_other Hb,(hD s).1,(hD s).2]
  by_cases g:(l.any λv=>decide (v.kind=s))=true
  ·rw [if_pos g];simp [e]
  ·rw [if_neg g,if_neg e];refine ⟨?_,by simp [e]⟩
   congr 2
   unfold aH;rw [List.find?_eq_none.2 (by simpa [List.any_eq_true] using g)];rfl
def lq (us:List Nd):Prop:=us.length<=20/\eR us/\∀ k,k<us.length->(nd us k).kind.size<=30
theorem Jp (v:Value) (us:List Nd) (w:World) (h:be w v us) (hf:lq us):Calls prog 106 #[v] w λe w'=>(∃ n,e=.returned (.map (some w.heap.size))/\cX w' w.heap.size n us)/\Below w.heap.size w w':=by
 obtain ⟨ao,c,rfl,hm,hr⟩:=h;have HR:=qI hr;clear hr hm;have HF:=qI hf;have Hr:=hf.1;clear hf;have Hh:=qI (cX.made w);have Hj:=qI ((Q0 w.heap.size w).alloc (lR) (.map #[] 0));have Hw:=@run_makeMap prog
 go_enter func106,ntmps106
 go_wp2
 go_loopw [11] (λi wr=>∃ k n:Nat,k<=us.length/\n<=k/\i=.int .i64 k/\cX wr w.heap.size n (us.take k)/\Below w.heap.size w wr) (λi _=>us.length - (intOf i).toNat)
 case atStart=>exact ⟨0,0,by omega,by omega,rfl,Hh.out,Hj.out⟩
 case round=>
  obtain ⟨k,n,hk,Ht,rfl,hM,hB⟩:=hrel;clear Hh Hj
  by_cases hlt:k<us.length
  ·obtain ⟨b,o,rfl,Hl,Hi⟩:=HR.out (by omega);obtain ⟨g0,g1⟩:=Hi k hlt;have c0:=(hB.cell (p:=⟨b,o+k*2,none⟩) Hl).trans g0;have c1:=(hB.cell (p:=⟨b,o+k*2+1,none⟩) Hl).trans g1;have Hk:=qI (xZ hlt);have Hu:=HF.out.2.2 k hlt;have Hv:=HF.out.2.1 k hlt;have Hg:=qI (hB.alloc hB.size (.cells #[.string (nd us k).kind,.int .i64 (nd us k).many] 77));have Ho:=hM.alloc (.cells #[.string (nd us k).kind,.int .i64 (nd us k).many] 77);have Hf:(wr.alloc (.cells #[.string (nd us k).kind,.int .i64 (nd us k).many] 77)).cell? ⟨wr.heap.size,0,none⟩=some (.string (nd us k).kind):=by simp
   have He:(wr.alloc (.cells #[.string (nd us k).kind,.int .i64 (nd us k).many] 77)).cell? ⟨wr.heap.size,1,none⟩=some (.int .i64 (nd us k).many):=by simp
   clear hM hB Hi g0 g1;generalize nd us k=x at *;generalize us.take k=L at *;obtain ⟨D,ho,hD⟩:=Ho;have HD:=qI hD;have Hb:keyOf prog 9 (.string x.kind)=some (.string x.kind.data.toList):=Go.WideMaps.keyOf_string_mk underlying9 (by unfold maxLen;omega);have Hq:=qI (show (Lit.int .i64 x.many).wf=true from WalkArith.wf_i64 (by omega));have Ha:=(hD x.kind).2
   rcases two (L.any λu=>decide (u.kind=x.kind)) with ha|ha
   ·rw [ha] at Ha;have HU:=qI (Jo ha);clear hD ha
    go_wp2_with (at_lookup;refine wpList_lookup_own_ok_int _ rfl _ _ 198 rfl 9 3 .i64 im underlying198 underlying3 (mT _) w.heap.size n D rfl ho _ _ rfl Hb ?_;intro cc _ _;rw [Ha])
    go_roundw
    case rel=>
     refine ⟨k+1,n,by omega,by omega,by go_num,?_,Hg.out⟩;rw [Hk.out];exact ⟨D,ho,λs=>by rw [(HU.out s).1,(HU.out s).2];exact HD.out s⟩
    case measure=>simp [intOf];omega
   ·rw [ha] at Ha;have HA:=qI ha;clear hD ha
    go_wp2_with (first|(at_lookup;refine wpList_lookup_own_ok_int _ rfl _ _ 198 rfl 9 3 .i64 im underlying198 underlying3 (mT _) w.heap.size n D rfl ho _ _ rfl Hb ?_;intro cc _ _;rw [Ha])|(at_mapUpdate;refine wpList_mapUpdate_own _ rfl _ _ _ 198 rfl 9 3 im underlying198 (plainElem prog 3) w.heap.size n D rfl ho (by unfold maxLen;omega) _ _ _ rfl rfl Hb (.lit (.int .i64 x.many)) [] (plainElem_int underlying3 Hq.out) ?_;intro w5 Hp Hc))
    go_roundw
    case rel=>
     refine ⟨k+1,n+1,by omega,by omega,by go_num,?_,?_⟩
     ·rw [Hk.out];exact cX.put HD.out ho Hp HA.out
     ·exact Hg.out.grown Hc Hg.out.size (λj hj=>by cases hj;exact lR)
    case measure=>simp [intOf];omega
  ·have Hs:k=us.length:=by omega
   subst Hs;have Hm:=qI hB;rw [Qh] at hM;have Hn:=qI hM;clear hB hM
   go_wp2
   go_ret;exact ⟨⟨n,rfl,Hn.out⟩,Hm.out⟩
end
section
open RowKit
open Qos (Nd Ct Pd nd ct pd aO aP bU aH eR)
theorem yb {w:World} {B n:Nat} {us:List Nd} (h:cX w B n us) (s:ByteArray) (hs:s.size<=1000):(Instr.lookup 198 (.map (some B)) (.string s) false).run prog w=.ok (.int .i64 (aH us s)) w:=by
 obtain ⟨D,ho,hD⟩:=h;obtain ⟨c,Hb,Ha,_⟩:=ho.lookup_int (t:=198) im underlying198 underlying3 (mT w) (Go.WideMaps.keyOf_string_mk underlying9 (s:=s) (by unfold maxLen;omega));rw [(hD s).1] at Ha;simp only [DataW.lit.injEq,Lit.int.injEq,true_and] at Ha;rw [Hb,Ha]
abbrev lr:=λ(x0:Pd) (x1:Value)=>(.cells #[.string x0.nm,.int .i64 x0.pr,x1] 47:Obj)
theorem ye (p:Pd) (cv:Value) (mc B n:Nat) (us:List Nd) (w:World) (h:aE w cv p.cs) (hmi:bU p.cs) (hm:w.cell? ⟨mc,0,none⟩=some (.map (some B))) (hU:cX w B n us) (ht:eR us) (hn:p.nm.size<=1000) :
  Calls prog 145 #[bG p cv,.pointer (some ⟨mc,0,none⟩)] w λe w'=>e=.returned (.int .i64 (aH us p.nm - aP p.cs p.cs.length))/\Below w.heap.size w w'/\w.drawn<=w'.drawn:=by
 have hs:=h.slice;unfold bG;have Hf:=(Q0 w.heap.size w).alloc (lR) (lr p cv);have He:=qI (dP Hf);have Hk:=qI ((eC.made w p cv).below (dP (Q0 _ _)));have Hc:=Q3 w _ hm;have Hi:=qI (((dP Hf).cell (p:=⟨mc,0,none⟩) Hc).trans hm);have Hg:=qI (hU.below (dP Hf) hU.lt);have Hj:=qI (Jj p cv _ (h.below He.out) hmi);have Hs:=Qos.mS ht p.nm;have Hr:=Qos.j8 hmi (lR);unfold bG at Hj;obtain ⟨pa,pn,pc,rfl⟩:=hs;have Hu:=qI hU.lt;clear h Hf hm hU;have Hl:=qI λW (hU:cX W B n us)=>yb hU p.nm hn;generalize aO p.cs p.cs.length=SM at *;generalize aP p.cs p.cs.length=SB at *;generalize aH us p.nm=US at *;have e1:wrap64 (US - SB)=US - SB:=by unfold wrap64;omega
 have e2:IntKind.i64.wrap (US - SB)=US - SB:=by rw [IntKind.wrap_i64];omega
 go_enter func145,ntmps145
 go_wp2_with fail
 refine wp_region_held_drew (S:=(λw'=>(w'.cell? ⟨w.heap.size,0,none⟩=some (.string p.nm)/\w'.cell? ⟨w.heap.size,1,none⟩=some (.int .i64 p.pr)/\w'.cell? ⟨w.heap.size,2,none⟩=some (.slice pa pn pc))/\w'.cell? ⟨mc,0,none⟩=some (.map (some B))/\cX w' B n us)) (by kernel_rfl) ⟨Hk.out.2,Hi.out,Hg.out⟩ λhQ=>?_;refine tk 0 ?_;refine tk 1 ?_;refine tk 2 ?_;refine tk 4 ?_
 refine wpAnyH_take (i := 3) (oi := { dst := some 7, op := Op.lookup 198 (Operand.tmp 4) (Operand.tmp 6) false, type := 3, pos := "evict.go:46", after := #[{ on := 0, ground := Ground.data }, { on := 2, ground := Ground.data }], guard := none }) (v := Value.int .i64 US) rfl (by kernel_rfl) (by kernel_rfl) (by kernel_rfl) (fun _ _ _ h => h) (Or.inl ⟨by rfl, ?h5x3⟩) (by assumption) ?r5x3
 case h5x3=>
  intro w' Ha;(try dsimp only at Ha);have Ht:=Hl.out _ Ha.2.2;go_simp
  first|done|with_reducible rfl|rfl
 (try simp only [Act.put,s1,s2,s3]);refine rd 5 λK hK=>?_;go_simp
 go_wp2_with fail
 refine Hj.out.mono ?_;rintro e w5 ⟨rfl,Hb,Hh⟩;have Ho:=qI (Hk.out.below Hb);have Hp:=qI ((Hb.cell (p:=⟨mc,0,none⟩) (Q1 Hc He.out.size)).trans Hi.out);have Hn:=qI (Hg.out.below Hb Hg.out.lt);have Hm:=qI (He.out.trans (Hb.mono He.out.size));have Hq:=qI (show w.drawn<=w5.drawn by rw [Hh];exact Nat.le_succ _);clear Hb Hh
 go_wp2
 refine hK.out _ _ ⟨Ho.out.2,Hp.out,Hn.out⟩ λhQ=>?_;clear hK K
 refine wpAnyH_take (i := 6) (oi := { dst := some 10, op := Op.field 60 (Operand.tmp 9) 1, type := 3, pos := "evict.go:46", after := #[{ on := 5, ground := Ground.data }], guard := none }) (v := Value.int .i64 SB) rfl (by kernel_rfl) (by kernel_rfl) (by kernel_rfl) (fun _ _ _ h => h) (Or.inl ⟨by rfl, ?h6x6⟩) (by assumption) ?r6x6
 case h6x6=>
  intro w' Ha;(try dsimp only at Ha);go_simp
  first|done|with_reducible rfl|rfl
 (try simp only [Act.put,s1,s2,s3])
 refine wpAnyH_take (i := 7) (oi := { dst := some 11, op := Op.binOp BinOp.sub 3 (Operand.tmp 7) (Operand.tmp 10) 3, type := 3, pos := "evict.go:46", after := #[{ on := 3, ground := Ground.data }, { on := 6, ground := Ground.data }], guard := none }) (v := Value.int .i64 (US - SB)) rfl (by kernel_rfl) (by kernel_rfl) (by kernel_rfl) (fun _ _ _ h => h) (Or.inl ⟨by rfl, ?h7x7⟩) (by assumption) ?r7x7
 case h7x7=>
  intro w' Ha;(try dsimp only at Ha);go_simp
  first|done|with_reducible rfl|rfl
 (try simp only [Act.put,s1,s2,s3]);refine tk 8 ?_;refine Qn (by kernel_rfl) ?_ _
 go_wp2
 go_ret;exact ⟨rfl,Hm.out,Hq.out⟩
end
section
open RowKit Shelf
open Qos (Nd Ct Pd pd0 nd ct pd eF rP rQ)
attribute [local go_sem] Oper.semAt_some
def KpB (b Bs:Nat) (W W':World):Prop:=W'.heap[b]?=W.heap[b]?/\W'.heap[Bs]?=W.heap[Bs]?
theorem KpB.refl (b Bs:Nat) (W:World):KpB b Bs W W:=⟨rfl,rfl⟩
theorem KpB.trans {b Bs:Nat} {A B C:World} (h:KpB b Bs A B) (k:KpB b Bs B C):KpB b Bs A C:=⟨k.1.trans h.1,k.2.trans h.2⟩
theorem cell_of_block {W W':World} {a:Addr} (h:W'.heap[a.block]?=W.heap[a.block]?):W'.cell? a=W.cell? a:=by
 unfold World.cell?;rw [h]
def ls (W:World) (b o:Nat) (qs:List Pd) (cv:Nat->Value):Prop:=
 ∀ k,k<qs.length->W.cell? ⟨b,o+k*3,none⟩=some (.string (pd qs k).nm)/\W.cell? ⟨b,o+k*3+1,none⟩=some (.int .i64 (pd qs k).pr)/\W.cell? ⟨b,o+k*3+2,none⟩=some (cv k)
theorem ls.kept {W W':World} {b o:Nat} {qs:List Pd} {cv:Nat->Value} (h:ls W b o qs cv) (hb:W'.heap[b]?=W.heap[b]?):ls W' b o qs cv:=λk hk=>by
 obtain ⟨h0,h1,h2⟩:=h k hk;exact ⟨(cell_of_block (a:=⟨b,o+k*3,none⟩) hb).trans h0,(cell_of_block (a:=⟨b,o+k*3+1,none⟩) hb).trans h1,(cell_of_block (a:=⟨b,o+k*3+2,none⟩) hb).trans h2⟩
theorem Jq {n j:Nat} (h:j<n):eF n (n - j)=eF n (n - (j+1))++[j]:=by
 have e:n - j=n - (j+1)+1:=by omega
 rw [e,rP]
 congr 2
 omega
theorem Jr (F:Fence) (n:Nat) (h7:F.fn 150) (hro:F.round=none) (hn:1<=n) (l Bs b o cap:Nat) (qs:List Pd) (cv:Nat->Value) (hlen:qs.length<=16) (hcv:∀ k,∃ a m c,cv k=.slice a m c) (J Jx:List Nat->World->Prop)
  (hY:∀ pre (x:Nat) W,J pre W->pre.length<qs.length->YieldAt F (n - 1) prog l #[.int .i64 (x:Int),.agg #[.string (pd qs x).nm,.int .i64 (pd qs x).pr,cv x]] W λe W'=>
   (e=.returned (.bool true)/\J (pre++[x]) W'/\KpB b Bs W W')\/(e=.returned (.bool false)/\Jx (pre++[x]) W'))
  (W:World) (hBs:W.cell? ⟨Bs,0,none⟩=some (.slice (some ⟨b,o,none⟩) qs.length cap)) (hc:ls W b o qs cv) (h0:J [] W) :
  CallsIn F n prog 150 #[.func (.yield l) #[] #[],.pointer (some ⟨Bs,0,none⟩)] W λe W'=>(∃ v,e=.returned v)/\
   ((∃ ys,ys=eF qs.length qs.length/\J ys W')\/(∃ pre,True/\Jx pre W')):=by
 have Hh:wrap64 ((qs.length:Int) - 1)=(qs.length:Int) - 1:=by unfold wrap64;omega
 refine callsIn_of_wp func150 rfl h7 ?_ hro;simp only [ntmps150,List.size_toArray,Qg,List.length_nil,Nat.reduceAdd,Nat.reduceSub,Array.replicate_succ,Array.replicate_zero,List.push_toArray,List.append_toArray,List.nil_append,List.cons_append]
 gi_wp2
 gi_loopw [3] (λi wr=>∃ j:Nat,j<=qs.length/\i=.int .i64 ((j:Int) - 1)/\J (eF qs.length (qs.length - j)) wr/\KpB b Bs W wr)
  λi _=>(intOf i+1).toNat
 case atStart=>exact ⟨qs.length,lR,rfl,by rw [Nat.sub_self];exact h0,KpB.refl _ _ _⟩
 case round=>
  obtain ⟨j,hj,rfl,Hb,Ha⟩:=hrel;clear Hh;cases j with
  | zero=>
   rw [show ((0:Nat):Int) - 1=-1 from rfl];have HJ:=qI Hb;clear Hb
   gi_wp2
   go_end0
   exact ⟨⟨_,rfl⟩,.inl ⟨_,rfl,by have:=HJ.out;rwa [Nat.sub_zero] at this⟩⟩
  | succ j=>
   rw [show ((j+1:Nat):Int) - 1=(j:Int) by omega];have Hf:j<qs.length:=by omega
   obtain ⟨c0,c1,c2⟩:=hc.kept Ha.1 j Hf;have Hk:wr.cell? ⟨Bs,0,none⟩=some (.slice (some ⟨b,o,none⟩) qs.length cap):=(cell_of_block (a:=⟨Bs,0,none⟩) Ha.2).trans hBs;obtain ⟨fn,tmps,assign,body,hy,hR⟩:=hY _ j wr Hb (by rw [rQ];omega);have HD:=qI (Jq Hf);have HK:=qI Ha;have Hj:wrap64 ((j:Int) - 1)=(j:Int) - 1:=by unfold wrap64;omega
   obtain ⟨ca,cm,cc,He⟩:=hcv j;rw [He] at c2 hy;generalize pd qs j=x at *;clear Hb Ha hY hcv He
   gi_wp2
   refine hR.mono ?_;rintro e W3 (⟨rfl,Hg,Hi⟩|⟨rfl,Hc⟩)
   ·gi_wp2
    go_roundw
    case rel=>exact ⟨j,by omega,rfl,by rw [HD.out];exact Hg,HK.out.trans Hi⟩
    case measure=>simp [intOf]
   ·gi_wp2
    refine Qx (results_none rfl _ _ _) rfl ?_;exact ⟨⟨_,rfl⟩,.inr ⟨_,trivial,Hc⟩⟩
end
section
open RowKit
open Qos (Nd Ct Pd nd ct pd aO aP bU aH eR key jD cr aU orI)
structure iU (w:World) (mc fc B n:Nat) (us:List Nd):Prop where
 m:w.cell? ⟨mc,0,none⟩=some (.map (some B))
 f:w.cell? ⟨fc,0,none⟩=some (.func (.func 145) #[] #[.pointer (some ⟨mc,0,none⟩)])
 u:cX w B n us
theorem iU.lts {w:World} {mc fc B n:Nat} {us:List Nd} (h:iU w mc fc B n us):mc<w.heap.size/\fc<w.heap.size/\B<w.heap.size:=⟨Q3 w _ h.m,Q3 w _ h.f,h.u.lt⟩
theorem iU.below {w w':World} {mc fc B n K:Nat} {us:List Nd} (h:iU w mc fc B n us) (hb:Below K w w') (hK:mc<K/\fc<K/\B<K):iU w' mc fc B n us:=
 ⟨(hb.cell (p:=⟨mc,0,none⟩) hK.1).trans h.m,(hb.cell (p:=⟨fc,0,none⟩) hK.2.1).trans h.f,h.u.below hb hK.2.2⟩
theorem Js (p q:Pd) (cp cq:Value) (mc fc B n:Nat) (us:List Nd) (w:World) (hp:aE w cp p.cs) (hq:aE w cq q.cs) (mp:bU p.cs) (mq:bU q.cs) (np:p.nm.size<=1000) (nq':q.nm.size<=1000) (hS:iU w mc fc B n us) (ht:eR us) :
  Calls prog 147 #[bG p cp,bG q cq,.pointer (some ⟨fc,0,none⟩)] w λe w'=>e=.returned (.int .i64 (jD (key us p) (key us q)))/\Below w.heap.size w w'/\w.drawn<=w'.drawn:=by
 have HD:=hp.slice;have HC:=hq.slice;have HK:Hid (jD (key us p) (key us q)=or4 (Lib.compareInt (cr (aH us p.nm - aP p.cs p.cs.length)) (cr (aH us q.nm - aP q.cs q.cs.length))) (Lib.compareInt p.pr q.pr) (Lib.compareInt (aH us q.nm - aP q.cs q.cs.length) (aH us p.nm - aP p.cs p.cs.length)) (aU p.nm q.nm)):=rfl;have Hy:=((Q0 w.heap.size w).alloc (lR) (lr p cp)).alloc (by simp) (lr q cq);have Hn:=dP Hy;have He:=qI Hn;have Ho:=qI (((eC.made w p cp).alloc (lr q cq)).below (dP (Q0 _ _)));have hQ:=(eC.made (w.alloc (lr p cp)) q cq).below (dP (Q0 _ _));rw [show (w.alloc (lr p cp)).heap.size=w.heap.size+1 by simp] at hQ;have Hq:=qI hQ;have HE:=qI (hS.below Hn hS.lts);have Hh:=qI λW (hb:Below w.heap.size w W)=>ye p cp mc B n us W (hp.below hb) mp (hS.below hb hS.lts).m (hS.below hb hS.lts).u ht np;have Hk:=qI λW (hb:Below w.heap.size w W)=>ye q cq mc B n us W (hq.below hb) mq (hS.below hb hS.lts).m (hS.below hb hS.lts).u ht nq';have Hj:=qI λW (hb:Below w.heap.size w W)=>hS.below hb hS.lts;unfold bG at Hh Hk ⊢;obtain ⟨pa,pn,pc,rfl⟩:=HD;obtain ⟨qa,qn,qc,rfl⟩:=HC;rw [HK.out];clear HK hp hq hS Hy Hn hQ;generalize aH us p.nm - aP p.cs p.cs.length=X at *;generalize aH us q.nm - aP q.cs q.cs.length=Y at *;have Hv:Hid (w.drawn<=(((w.alloc (.cells #[.string p.nm,.int .i64 p.pr,.slice pa pn pc] 47)).alloc (.cells #[.string q.nm,.int .i64 q.pr,.slice qa qn qc] 47)).drew).drawn):=Nat.le_succ _
 go_enter func147,ntmps147
 go_wp2_with fail
 refine wp_region_held_drew (S:=(λw'=>(w'.cell? ⟨w.heap.size,0,none⟩=some (.string p.nm)/\w'.cell? ⟨w.heap.size,1,none⟩=some (.int .i64 p.pr)/\w'.cell? ⟨w.heap.size,2,none⟩=some (.slice pa pn pc))/\(w'.cell? ⟨w.heap.size+1,0,none⟩=some (.string q.nm)/\w'.cell? ⟨w.heap.size+1,1,none⟩=some (.int .i64 q.pr)/\w'.cell? ⟨w.heap.size+1,2,none⟩=some (.slice qa qn qc))/\w'.cell? ⟨fc,0,none⟩=some (.func (.func 145) #[] #[.pointer (some ⟨mc,0,none⟩)]))) (by kernel_rfl) ⟨Ho.out.2,Hq.out.2,(Hj.out _ He.out).f⟩ λhHeld=>?_;refine tk 0 ?_;refine tk 1 ?_;refine tk 3 ?_;refine tk 4 ?_;refine rd 2 λK hK=>?_;go_simp
 go_wp2_with fail
 refine (Hh.out _ He.out).mono ?_;rintro e w5 ⟨rfl,Hg,Hu⟩;have Hi:=qI (Ho.out.below Hg);have Hl:=qI (Hq.out.below Hg);have Hc:=qI (He.out.trans (Hg.mono He.out.size));have HA:=qI (Q5 Hv.out Hu);clear Hg Hu
 go_wp2
 refine hK.out _ _ ⟨Hi.out.2,Hl.out.2,(Hj.out _ Hc.out).f⟩ λhHeld=>?_;clear hK K;refine rd 5 λK hK=>?_;go_simp
 go_wp2_with fail
 refine (Hk.out _ Hc.out).mono ?_;rintro e w6 ⟨rfl,Hf,Hx⟩;have Hm:=qI (Hi.out.below Hf);have Hr:=qI (Hl.out.below Hf);have Hp:=qI (Hc.out.trans (Hf.mono Hc.out.size));have Hw:=qI (Q5 HA.out Hx);clear Hf Hx
 go_wp2
 refine hK.out _ _ ⟨Hm.out.2,Hr.out.2,(Hj.out _ Hp.out).f⟩ λhHeld=>?_;clear hK K;refine tk 6 ?_;refine tk 7 ?_;refine Qn (by kernel_rfl) ?_ _;have Ha:=qI (Hm.out.below (dP (Q0 _ _)));have Hb:=qI (Hr.out.below (dP (Q0 _ _)));have Hs:=qI (dP Hp.out);have HB:=qI (show w.drawn<=w6.drew.drawn from Nat.le_succ_of_le Hw.out);clear hHeld Hi Hl Hc HA Ho Hq He HE Hh Hk Hm Hr Hp Hw Hv
 go_wp2_with fail
 refine wp_region_held_drew (S:=(λw'=>(w'.cell? ⟨w.heap.size,0,none⟩=some (.string p.nm)/\w'.cell? ⟨w.heap.size,1,none⟩=some (.int .i64 p.pr)/\w'.cell? ⟨w.heap.size,2,none⟩=some (.slice pa pn pc))/\(w'.cell? ⟨w.heap.size+1,0,none⟩=some (.string q.nm)/\w'.cell? ⟨w.heap.size+1,1,none⟩=some (.int .i64 q.pr)/\w'.cell? ⟨w.heap.size+1,2,none⟩=some (.slice qa qn qc)))) (by kernel_rfl) ⟨Ha.out.2,Hb.out.2⟩ λhHeld=>?_;refine tk 0 ?_;refine tk 2 ?_;refine tk 5 ?_;refine tk 6 ?_;refine tk 7 ?_;refine tk 8 ?_;refine tk 10 ?_;refine tk 11 ?_;refine tk 13 ?_;refine tk 14 ?_;refine tk 15 ?_;refine tk 16 ?_;refine rd 1 λK hK=>?_;go_simp
 go_wp2_with fail
 refine (xV X _).mono ?_;rintro e wx ⟨rfl,rfl⟩
 go_wp2
 refine hK.out _ _ ⟨Ha.out.2,Hb.out.2⟩ λhHeld=>?_;clear hK K;refine rd 3 λK hK=>?_;go_simp
 go_wp2_with fail
 refine (xV Y _).mono ?_;rintro e wx ⟨rfl,rfl⟩
 go_wp2
 refine hK.out _ _ ⟨Ha.out.2,Hb.out.2⟩ λhHeld=>?_;clear hK K;refine rd 4 λK hK=>?_;go_simp
 go_wp2_with fail
 refine (mR _ _ _).mono ?_;rintro e wx ⟨rfl,rfl⟩
 go_wp2
 refine hK.out _ _ ⟨Ha.out.2,Hb.out.2⟩ λhHeld=>?_;clear hK K;refine rd 9 λK hK=>?_;go_simp
 go_wp2_with fail
 refine (mR _ _ _).mono ?_;rintro e wx ⟨rfl,rfl⟩
 go_wp2
 refine hK.out _ _ ⟨Ha.out.2,Hb.out.2⟩ λhHeld=>?_;clear hK K;refine rd 12 λK hK=>?_;go_simp
 go_wp2_with fail
 refine (mR _ _ _).mono ?_;rintro e wx ⟨rfl,rfl⟩
 go_wp2
 refine hK.out _ _ ⟨Ha.out.2,Hb.out.2⟩ λhHeld=>?_;clear hK K;refine rd 17 λK hK=>?_;go_simp
 go_wp2_with fail
 refine (Jg _ _ _).mono ?_;rintro e wx ⟨rfl,rfl⟩
 go_wp2
 refine hK.out _ _ ⟨Ha.out.2,Hb.out.2⟩ λhHeld=>?_;clear hK K;have Hz:=qI (Ha.out.alloc (.cells #[.int .i64 (Lib.compareInt (cr X) (cr Y)),.int .i64 (Lib.compareInt p.pr q.pr),.int .i64 (Lib.compareInt Y X),.int .i64 (aU p.nm q.nm)] 3));have Ht:=qI (Hb.out.alloc (.cells #[.int .i64 (Lib.compareInt (cr X) (cr Y)),.int .i64 (Lib.compareInt p.pr q.pr),.int .i64 (Lib.compareInt Y X),.int .i64 (aU p.nm q.nm)] 3));have HF:=qI (Hs.out.alloc Hs.out.size (.cells #[.int .i64 (Lib.compareInt (cr X) (cr Y)),.int .i64 (Lib.compareInt p.pr q.pr),.int .i64 (Lib.compareInt Y X),.int .i64 (aU p.nm q.nm)] 3));refine rd 18 λK hK=>?_;go_simp
 go_wp2
 refine hK.out _ _ ⟨Hz.out.2,Ht.out.2⟩ λhHeld=>?_;clear hK K;refine rd 19 λK hK=>?_;go_simp
 go_wp2_with fail
 refine (Jh (Lib.compareInt (cr X) (cr Y)) (Lib.compareInt p.pr q.pr) (Lib.compareInt Y X) (aU p.nm q.nm) _ _ _ (by simp) (by simp) (by simp) (by simp)).mono ?_;rintro e wx ⟨rfl,rfl⟩
 go_wp2
 refine hK.out _ _ ⟨Hz.out.2,Ht.out.2⟩ λhHeld=>?_;clear hK K;refine tk 20 ?_;refine Qn (by kernel_rfl) ?_ _
 go_wp2
 go_ret;exact ⟨rfl,HF.out,HB.out⟩
end
end Go.Proofs.YtbmmnflgnmjboaaGreatDoor
namespace Go.Proofs
open Go.Shelf
shelf_lay_g SlLaysE0.n41 Slgn 41 at Tryz 144 as Tryz.clonePL
end Go.Proofs
namespace Go.Proofs.YtbmmnflgnmjboaaGreatDoor
section
open RowKit
open Qos (Nd Ct Pd pd0 nd ct pd aO aP bU aH eR)
def fj (ps:List Pd) (cv:Nat->Value):List (Pd × Value):=(List.range ps.length).map λj=>(pd ps j,cv j)
theorem mU (ps:List Pd) (cv:Nat->Value):(fj ps cv).length=ps.length:=by simp [fj]
theorem Jt (ps:List Pd) (cv:Nat->Value) (k:Nat) (h:k<(fj ps cv).length):(fj ps cv)[k]=(pd ps k,cv k):=by simp [fj]
theorem Ju {w:World} {b o:Nat} {ps:List Pd} {cv:Nat->Value} (h:j9 w b o ps cv) (j:Nat) (u:Value) (hj:(prV (fj ps cv))[j]?=some u):w.cell? ((⟨b,o,none⟩:Addr).add j)=some u:=by
 have Ha:j<ps.length*3:=by
  have:=(List.getElem?_eq_some_iff.1 hj).1
  rw [vA,mU] at this;exact this
 obtain ⟨h0,h1,h2,_⟩:=h.at (k:=j / 3) (by omega);have hk:j / 3<(fj ps cv).length:=by rw [mU];omega
 obtain ⟨c0,c1,c2⟩:=vB (fj ps cv) (j / 3) hk;rw [Jt] at c0 c1 c2;rw [Addr.add_lit]
 have:j=j / 3*3\/j=j / 3*3+1\/j=j / 3*3+2:=by omega
 rcases this with e|e|e
 ·rw [<- e] at c0 h0;rw [h0,<- c0,hj]
 ·rw [<- e] at c1;rw [Nat.add_assoc,<- e] at h1;rw [h1,<- c1,hj]
 ·rw [<- e] at c2;rw [Nat.add_assoc,<- e] at h2;rw [h2,<- c2,hj]
theorem Jv {ps:List Pd} {cv:Nat->Value} (h:∀ k,k<ps.length->∃ a n c,cv k=.slice a n c):∀ u∈prV (fj ps cv),u.oneCell'=true:=by
 intro u hu;simp only [prV,List.mem_flatMap] at hu;obtain ⟨x,hx,hu⟩:=hu;simp only [fj,Qk,List.mem_range] at hx;obtain ⟨k,hk,rfl⟩:=hx;obtain ⟨a,n,c,e⟩:=h k hk
 simp [e] at hu
 rcases hu with rfl|rfl|rfl <;> rfl
theorem Jw (ao:Option Addr) (n c:Nat) (w:World):Sem.run prog (binOp BinOp.eql 70 (.slice ao n c) (.slice none 0 0)) w=.ok (.bool ao.isNone) w:=Lib.run_eql_slice_nil w _ _ ao n c 0 0 underlying70
theorem yf (a:Addr) (c:Nat) (l:List (Pd × Value)) (w:World) (hc:∀ j u,(prV l)[j]?=some u->w.cell? (a.add j)=some u) (h1:∀ u∈prV l,u.oneCell'=true) (hl:l.length<=16) :
  Calls prog 144 #[.slice (some a) l.length c] w λe w'=>∃ v,e=.returned v/\w'.ownsRow w.heap.size 47 3 v l.length (prV l)/\Below w.heap.size w w':=by
 obtain ⟨i0,hi,He,Hg,Hh⟩:=vy EK;have HB:=qI ((Q0 w.heap.size w).alloc (lR) (.cells #[] 47));have HC:Hid (∀ j u,(prV l)[j]?=some u->(w.alloc (.cells #[] 47)).cell? (a.add j)=some u):=λj u hj=>Lib.cell?_alloc_some _ (hc j u hj)
 have Hc:=Jw (some a) l.length c w;clear hc
 go_enter func144,ntmps144
 go_wp2_with (at_builtin;(refine wpList_append_own _ rfl _ _ 70 rfl w.heap.size 47 i0 (.agg #[.string ByteArray.empty,.int .i64 0,.slice none 0 0]) 3 48 underlying70 hi He Hg Hh rfl (by decide) _ _ _ rfl (World.ownsRow_lit w #[] 0 (lR) (Nat.zero_le _) rfl) a l.length c (prV l) rfl (vA l) HC.out h1 (by unfold maxLen;omega) (by omega) (by simp) ?_);intro v' w1 Hb Ha _)
 have Hf:=qI (HB.out.grown Ha (by simp) (λj hj=>by cases hj;exact lR));rw [Qd] at Hb;have hD:Hid (w1.ownsRow w.heap.size 47 3 v' l.length (prV l)):=by simpa [Hid] using Hb
 clear Hb Ha
 go_wp2
 go_ret;exact ⟨_,rfl,hD.out,Hf.out⟩
theorem Jy (v:Value) (ps:List Pd) (w:World) (h:du w v ps) (hl:ps.length<=16) :
  Calls prog 144 #[v] w λe w'=>∃ v' l,e=.returned v'/\w'.ownsRow w.heap.size 47 3 v' l.length (prV l)/\l.map Prod.fst=ps/\(∀ x∈l,aE w x.2 x.1.cs)/\Below w.heap.size w w':=by
 obtain ⟨ao,c,rfl,hm,hr⟩:=h
 by_cases h0:0<ps.length
 ·obtain ⟨b,o,cv,rfl,Ha⟩:=hr h0;have hc:=yf ⟨b,o,none⟩ c (fj ps cv) w (Ju Ha) (Jv λk hk=>(Ha.2 k hk).2.slice) (by rw [mU];exact hl);rw [mU] at hc;refine hc.mono λe w' ⟨v',he,ho,hb⟩=>⟨v',fj ps cv,he,by rw [mU];exact ho,?_,?_,hb⟩
  ·unfold fj;rw [List.map_map];exact Qos.Ji ps
  ·intro x hx;simp only [fj,Qk,List.mem_range] at hx;obtain ⟨k,hk,rfl⟩:=hx;exact (Ha.2 k hk).2
 ·have e:ps=[]:=Qe (by omega);subst e
  rcases ao with _|a
  ·refine (AnyE.slices_Clone_nil Tryz.clonePL 0 c w).mono ?_;rintro e w' ⟨rfl,rfl⟩;exact ⟨_,[],rfl,Qw _ _ _ _,rfl,λx hx=>by simp at hx,Q0 _ _⟩
  ·exact (yf a c [] w (λj u hj=>by simp [prV] at hj) (λu hu=>by simp [prV] at hu) (by simp)).mono λe w' ⟨v',he,ho,hb⟩=>⟨v',[],he,ho,rfl,λx hx=>by simp at hx,hb⟩
def txV (l:List ByteArray):List Value:=l.map Value.string
def iV (base:Nat) (w:World) (v:Value) (l:List ByteArray):Prop:=w.ownsRow base 9 1 v l.length (txV l)
theorem iV.below {base:Nat} {w w':World} {v:Value} {l:List ByteArray} (h:iV base w v l) (hb:Below w.heap.size w w'):iV base w' v l:=
 World.ownsRow.kept (row:=none) h ⟨hb.os,hb.tape,hb.output,hb.size,λj hj _=>hb.block j hj⟩ (by cases hv:v.ownBlock <;> simp)
theorem iC:(prog.info? 9).map (λi=>(i.zero,i.size,i.bytes))=some (some (.string ByteArray.empty),1,16):=by kernel_rfl
theorem Jz (w:World) (s:ByteArray) (t:TypeId):∀ j u,[Value.string s][j]?=some u->(w.alloc (.cells #[.string s] t)).cell? ((⟨w.heap.size,0,none⟩:Addr).add j)=some u:=by
 intro j u hu;rw [Addr.add_lit,Qd]
 match j,hu with
 | 0,hu=>simp at hu;subst hu;simp
 | j+1,hu=>simp at hu
theorem JA (v:Value) (ps:List Pd) (w:World) (h:du w v ps) (hl:ps.length<=16):Calls prog 111 #[v] w λe w'=>(∃ v',e=.returned v'/\iV w.heap.size w' v' (ps.map Pd.nm))/\Below w.heap.size w w':=by
 obtain ⟨i0,hi,Ht,Ho,Hp⟩:=vy iC;obtain ⟨ao,c,rfl,hm,hr⟩:=h;have HR:=qI hr;clear hr hm
 go_enter func111,ntmps111
 go_wp2
 go_loopw [3,8] (λg i wr=>∃ k:Nat,k<=ps.length/\i=.int .i64 k/\Below w.heap.size w wr/\iV w.heap.size wr g ((ps.take k).map Pd.nm)) (λ_ i _=>ps.length - (intOf i).toNat)
 case atStart=>exact ⟨0,by omega,rfl,Q0 _ _,Qw _ _ _ _⟩
 case round=>
  obtain ⟨k,hk,rfl,hB,hT⟩:=hrel
  by_cases hlt:k<ps.length
  ·obtain ⟨b,o,cv,rfl,He⟩:=HR.out (by omega);have He:=He.below hB;obtain ⟨c0,c1,c2,Hh⟩:=He.at hlt;have Hu:=Hh.slice;have Hf:=(Q0 wr.heap.size wr).alloc (lR) (.cells #[.string (pd ps k).nm,.int .i64 (pd ps k).pr,cv k] 47);have Hi:=qI (hB.trans (Hf.mono hB.size));have Hl:=qI (hT.below Hf);have Hv:Hid ((ps.take (k+1)).map Pd.nm=(ps.take k).map Pd.nm++[(pd ps k).nm]):=by
    unfold Hid;rw [Qos.Er hlt,Qj];rfl
   have Hn:=qI (World.ownsRow.lt hT);have Hw:((ps.take k).map Pd.nm).length<=16:=by rw [Q9,Qu];omega
   clear He Hh Hf hB hT;generalize (ps.take k).map Pd.nm=L at *;generalize pd ps k=x at *;generalize cv k=d at *;obtain ⟨da,dn,dc,rfl⟩:=Hu;have Hg:=qI (Hi.out.alloc Hi.out.size (.cells #[.string x.nm] 9));have Hq:=qI (Hl.out.below ((Q0 _ _).alloc (lR) (.cells #[.string x.nm] 9)));have Hc:=Jz (wr.alloc (.cells #[.string x.nm,.int .i64 x.pr,.slice da dn dc] 47)) x.nm 9;rw [show (wr.alloc (.cells #[.string x.nm,.int .i64 x.pr,.slice da dn dc] 47)).heap.size=wr.heap.size+1 by simp] at Hc;have Hc:=qI Hc
   go_wp2_with (at_builtin;refine wpList_append_own _ rfl _ _ 78 rfl w.heap.size 9 i0 (.string ByteArray.empty) 1 16 underlying78 hi Ht Ho Hp rfl (by decide) u3 _ _ rfl Hq.out ⟨_,0,none⟩ 1 1 [.string x.nm] rfl rfl Hc.out (by intro u hu;simp at hu;subst hu;rfl) (by unfold maxLen;omega) (by omega) Hg.out.size ?_;intro v2 w5 Hb Ha _)
   have Hj:=qI (Hg.out.grown Ha Hg.out.size λi hi=>(Hn.out i hi).1);have Hm:Hid (iV w.heap.size w5 v2 (L++[x.nm])):=by
    unfold Hid iV txV;rw [Qj,Q2];exact Hb
   clear Hb Ha
   go_roundw
   case rel=>exact ⟨k+1,by omega,by go_num,Hj.out,by rw [Hv.out];exact Hm.out⟩
   case measure=>simp [intOf];omega
  ·have Hr:k=ps.length:=by omega
   subst Hr;have Hk:=qI hB;rw [Qh] at hT;have Hs:=qI hT;clear hB hT
   go_wp2
   go_ret;exact ⟨⟨_,rfl,Hs.out⟩,Hk.out⟩
end
end Go.Proofs.YtbmmnflgnmjboaaGreatDoor
namespace Go.Proofs
open Go.Shelf
shelf_lay_g SlLaysF0.n6 Slsf 6 at Tryz 146 as Tryz.sortPL
end Go.Proofs
namespace Go.Proofs.YtbmmnflgnmjboaaGreatDoor
section
open RowKit
open Go.Sort (SWO PermIn SortedIn HoldsK flatK putRowK)
open Qos (Nd Ct Pd pd0 nd ct pd aO aP bU aH eR key jD il oX)
def OkE (W0:World) (x:Pd × Value):Prop:=aE W0 x.2 x.1.cs/\bU x.1.cs/\x.1.nm.size<=1000
abbrev PE (W0:World):={ x:Pd × Value // OkE W0 x }
theorem ok0 (W0:World):OkE W0 (pd0,.slice none 0 0):=⟨⟨none,0,rfl,⟨by simp [pd0],by decide⟩,λh=>by simp [pd0] at h⟩,Qos.Ed,by simp [pd0]⟩
instance (W0:World):Inhabited (PE W0):=⟨⟨_,ok0 W0⟩⟩
def eS {W0:World} (x:PE W0):List Value:=[.string x.1.1.nm,.int .i64 x.1.1.pr,x.1.2]
def cfE {W0:World} (us:List Nd) (x y:PE W0):Int:=jD (key us x.1.1) (key us y.1.1)
theorem ltE {W0:World} (us:List Nd) (x y:PE W0):ltOf (cfE us) x y=il (key us x.1.1) (key us y.1.1):=rfl
theorem JB {W0:World} (us:List Nd):SWO (ltOf (cfE (W0:=W0) us)) where
 irrefl _:=Qos.rN.irrefl _
 trans _ _ _ h1 h2:=Qos.rN.trans _ _ _ h1 h2
 ntrans _ _ _ h1 h2:=Qos.rN.ntrans _ _ _ h1 h2
theorem JC {w w':World} (hb:Below w.heap.size w w') (hd:w.drawn<=w'.drawn):∃ q os,w'=Go.Sort.grow (w.drewN q) os:=by
 refine ⟨w'.drawn - w.drawn,w'.heap.extract w.heap.size w'.heap.size,?_⟩;obtain ⟨h1,h2,h3,h4,h5⟩:=hb;have hh:w'.heap=w.heap++w'.heap.extract w.heap.size w'.heap.size:=by
  apply Array.ext_getElem?
  intro i
  by_cases hi:i<w.heap.size
  ·rw [Array.getElem?_append_left hi];exact h5 i hi
  ·rw [Array.getElem?_append_right (by omega),Array.getElem?_extract]
   by_cases hj:i<w'.heap.size
   ·rw [if_pos (by omega)]
    congr 1
    omega
   ·rw [if_neg (by omega)];exact Array.getElem?_eq_none (by omega)
 unfold Go.Sort.grow World.drewN;cases w';cases w;simp only at h1 h2 h3 hd hh;simp only [World.mk.injEq];exact ⟨hh,h2,by omega,h1,h3⟩
theorem rS {W0:World} (w:World) (blk off m:Nat) (dk:Array (PE W0)) (os:Array Obj):w.grownBy (sortWorldK eS 3 w blk off m dk os) (some blk):=by
 refine ⟨rfl,rfl,rfl,?_,λj hj hne=>?_⟩
 ·simp [sortWorldK,Go.Sort.grow,putRowK,Go.Sort.putRow,Go.Sort.mapBlock,Go.Sort.ahead]
 ·have h2:blk≠j:=λe=>hne (by rw [e])
  simp [sortWorldK,Go.Sort.grow,putRowK,Go.Sort.putRow,Go.Sort.mapBlock,Go.Sort.ahead,Array.getElem?_append,Array.getElem_modify,hj,h2]
theorem yh {W0:World} (x:PE W0):(eS x)[0]! = .string x.1.1.nm/\(eS x)[1]! = .int .i64 x.1.1.pr/\(eS x)[2]! = x.1.2:=⟨rfl,rfl,rfl⟩
theorem JD {W0 w:World} {base g cap:Nat} {l:List (Pd × Value)} (h:w.ownsRow base 47 3 (.slice (some ⟨g,0,none⟩) l.length cap) l.length (prV l)) (d:Array (PE W0)) (hd:d.toList.map Subtype.val=l):HoldsK eS 3 w g 0 d/\g<w.heap.size/\base<=g:=by
 rcases h.2 with ⟨hv,_⟩|⟨g',cap',cur,hv,hb,hg,He,Hg,_,ht⟩
 ·cases hv
 cases hv;have Hf:d.size=l.length:=by rw [<- hd];simp
 refine ⟨λj hj=>?_,?_,hb⟩
 ·rw [Go.Sort.size_flatK] at hj;rw [Go.Sort.get_flatK _ _ _ _ hj];have hk:j / 3<l.length:=by omega
  have e:d[j / 3]!.1=l[j / 3]:=by
   have Ha:j / 3<d.size:=by omega
   rw [getElem!_pos d (j / 3) Ha]
   have:(d.toList.map Subtype.val)[j / 3]?=l[j / 3]?:=by rw [hd]
   rw [List.getElem?_map,Qf hk] at this
   simp [Ha] at this
   exact this
  obtain ⟨p0,p1,p2⟩:=vB l (j / 3) hk;have hx:(prV l)[j]?=some ((eS d[j / 3]!)[j % 3]!):=by
   obtain ⟨e0,e1,e2⟩:=yh d[j / 3]!
   have:j % 3=0\/j % 3=1\/j % 3=2:=by omega
   rcases this with r|r|r
   ·rw [r,e0,e];rw [show j / 3*3=j by omega] at p0;exact p0
   ·rw [r,e1,e];rw [show j / 3*3+1=j by omega] at p1;exact p1
   ·rw [r,e2,e];rw [show j / 3*3+2=j by omega] at p2;exact p2
  rw [<- ht,List.getElem?_take] at hx
  split at hx
  ·have hc:cur[j]?=some ((eS d[j / 3]!)[j % 3]!):=by simpa using hx
   refine ⟨?_,?_⟩
   ·unfold World.cell?;rw [hg];simp [hc]
   ·unfold World.frozen?;rw [hg];simp
  ·cases hx
 ·rcases Nat.lt_or_ge g w.heap.size with Hb|Hc
  ·exact Hb
  ·rw [Array.getElem?_eq_none Hc] at hg;cases hg
def oZ (us:List Nd) (ps qs:List Pd):Prop:=qs.Perm ps/\oX (qs.map (key us))
theorem JE (us:List Nd) (W0 w:World) (l:List (Pd × Value)) (v:Value) (K mc fc B n:Nat) (hrow:w.ownsRow K 47 3 v l.length (prV l)) (hok:∀ x∈l,OkE W0 x) (hl:l.length<=16) (hW:Below W0.heap.size W0 w) (hK0:W0.heap.size<=K)
  (hS:iU w mc fc B n us) (hmK:mc<K/\B<K) (hfr:∀ g,v.ownBlock=some g->fc≠g) (ht:eR us) :
  Calls prog 146 #[v,.func (.func 147) #[] #[.pointer (some ⟨fc,0,none⟩)]] w λe w'=>e=.returned (.tuple #[])/\(∃ qs,du w' v qs/\oZ us (l.map Prod.fst) qs)/\Below K w w':=by
 by_cases h0:0<l.length
 ·obtain ⟨g,cap,rfl,Hv,Hu,Hk,Hb,_⟩:=vz hrow h0
  let d:Array (PE W0):=(l.pmap (λx h=>(⟨x,h⟩:PE W0)) hok).toArray
  have hd:d.toList.map Subtype.val=l:=by
   show ((l.pmap (λx h=>(⟨x,h⟩:PE W0)) hok)).map Subtype.val=l
   rw [List.map_pmap]
   simp
  have Hj:d.size=l.length:=by rw [<- hd];simp
  obtain ⟨hH,_,_⟩:=JD hrow d hd;have eg:∀ args w,(callFunc 147 args).run prog w=.ok (.enter 147 args) w:=enters_of func147 (by kernel_rfl) rfl;have Hp:fc≠g:=hfr g rfl;have Hi:CmpLays prog 147 #[.pointer (some ⟨fc,0,none⟩)] (eS (W0:=W0)) 3 (cfE us) g 0 d.size w:=by
   intro m os dk _ x y;have hg:=rS w g 0 m dk os;have Hg:Below W0.heap.size W0 (sortWorldK eS 3 w g 0 m dk os):=hW.trans (below_grown hg (K:=W0.heap.size) (by have:=hW.size;omega) (λj hj=>by cases hj;omega));have Hn:Below K w (sortWorldK eS 3 w g 0 m dk os):=below_grown hg (K:=K) (by omega) (λj hj=>by cases hj;exact Hk);have Ho:iU (sortWorldK eS 3 w g 0 m dk os) mc fc B n us:=⟨(Hn.cell (p:=⟨mc,0,none⟩) hmK.1).trans hS.m,(hg.cell_far ⟨fc,0,none⟩ hS.lts.2.1 (by simpa using Hp)).trans hS.f,hS.u.below Hn hmK.2⟩;refine (Js x.1.1 y.1.1 x.1.2 y.1.2 mc fc B n us _ (x.2.1.below Hg) (y.2.1.below Hg) x.2.2.1 y.2.2.1 x.2.2.2 y.2.2.2 Ho ht).mono λe w' ⟨he,hb,hdr⟩=>⟨he,JC hb hdr⟩
  have h1:∀ x:PE W0,∀ v∈eS x,v.oneCell'=true:=by
   intro x v hv;obtain ⟨a,n,c,e⟩:=x.2.1.slice
   simp [eS,e] at hv
   rcases hv with rfl|rfl|rfl <;> rfl
  have Hc:=AnyQ.slices_SortFunc Tryz.sortPL 3 isAgg47 sizeOf47 (eS (W0:=W0)) (λ_=>rfl) h1 (cfE us) (JB us) 147 #[.pointer (some ⟨fc,0,none⟩)] g 0 cap d w eg Hi hH Hb (by omega)
  change Calls prog 146 _ _ _ at Hc
  rw [Hj] at Hc;refine Hc.mono λe w' ⟨he,d',m,os,hp,hs,hw'⟩=>⟨he,?_,?_⟩
  ·have Hf:d'.size=l.length:=by rw [hp.1,Hj]
   have Hl:=rS w g 0 m d' os;have Hg:Below W0.heap.size W0 w':=by rw [hw'];exact hW.trans (below_grown Hl (K:=W0.heap.size) (by have:=hW.size;omega) (λj hj=>by cases hj;omega))
   have Hh:HoldsK eS 3 w' g 0 d':=by
    rw [hw'];exact Go.Sort.holdsK_grow _ _ _ _ _ _ _ (by simpa [putRowK,Go.Sort.putRow,Go.Sort.mapBlock,Go.Sort.ahead] using Hb) (Go.Sort.holdsK_putRowK _ _ _ _ _ d _ (Go.Sort.holdsK_ahead _ _ _ _ _ _ _ hH) (by rw [hp.1]))
   have Ha:(d'.toList.map λx=>x.1.1).length=l.length:=by simp [Hf]
   have Hs:∀ k,k<l.length->pd (d'.toList.map λx=>x.1.1) k=d'[k]!.1.1:=by
    intro k hk;have Hm:k<d'.size:=by omega
    rw [getElem!_pos d' k Hm]
    simp [pd,Hm]
   refine ⟨d'.toList.map λx=>x.1.1,⟨_,cap,by rw [Ha],by rw [Ha];omega,λ_=>⟨g,0,λk=>d'[k]!.1.2,rfl,?_,λk hk=>?_⟩⟩,?_,?_⟩
   ·rw [hw'];exact Q1 Hb Hl.size
   ·rw [Ha] at hk;rw [Hs k hk];have c0:=(Hh.cell (i:=k) (c:=0) (by omega) (by omega)).1;have c1:=(Hh.cell (i:=k) (c:=1) (by omega) (by omega)).1;have c2:=(Hh.cell (i:=k) (c:=2) (by omega) (by omega)).1;obtain ⟨e0,e1,e2⟩:=yh d'[k]!;rw [e0] at c0;rw [e1] at c1;rw [e2] at c2;exact ⟨⟨c0,c1,c2⟩,(d'[k]!).2.1.below Hg⟩
   ·have He:d'.toList.Perm d.toList:=by
     have:=hp.2.2
     simp only [Array.toList_extract,List.extract_eq_take_drop,List.drop_zero,Nat.sub_zero] at this;rw [List.take_of_length_le (by simp [Hf]),List.take_of_length_le (by simp [Hj])] at this;exact this
    have h2:=He.map λx:PE W0=>x.1.1;have h3:d.toList.map (λx:PE W0=>x.1.1)=l.map Prod.fst:=by rw [<- hd,List.map_map];rfl
    rw [h3] at h2;exact h2
   ·unfold oX;rw [List.pairwise_map,List.pairwise_map,List.pairwise_iff_getElem];intro i j hi hj Hq;have Hr:i<d'.size:=by simpa using hi
    have Ht:j<d'.size:=by simpa using hj
    have:=hs i j (Nat.zero_le _) Hq (by omega)
    rw [getElem!_pos d' j Ht,getElem!_pos d' i Hr,ltE] at this
    simpa using this
  ·rw [hw'];exact below_grown (rS w g 0 m d' os) (K:=K) (by omega) (λj hj=>by cases hj;exact Hk)
 ·have e:l=[]:=Qe (by omega);subst e;have hv:∃ p c,v=.slice p 0 c:=by
   rcases hrow.2 with ⟨hv,_⟩|⟨g,cap,cur,hv,_⟩
   ·exact ⟨none,0,hv⟩
   ·exact ⟨_,cap,hv⟩
  obtain ⟨p,c,rfl⟩:=hv;have Hc:=AnyF.slices_SortFunc_none (P:=prog) (ρ:=Tryz.sortPL_ren) { Tryz.sortPL with } p c (.func (.func 147) #[] #[.pointer (some ⟨fc,0,none⟩)]) w
  change Calls prog 146 _ _ _ at Hc
  exact Hc.mono λe w' ⟨he,hw'⟩=>⟨he,⟨[],⟨p,c,rfl,by simp,λh=>by simp at h⟩,List.Perm.refl _,List.Pairwise.nil⟩,by rw [hw'];exact Q0 _ _⟩
end
section
open RowKit
open Qos (Nd Ct Pd pd0 nd ct pd aO aP bU aH eR key jD il oX)
def ks (ps:List Pd):Prop:=ps.length<=16/\∀ x∈ps,bU x.cs/\x.nm.size<=1000
theorem ks.perm {ps qs:List Pd} (h:ks ps) (hp:qs.Perm ps):ks qs:=⟨by rw [hp.length_eq];exact h.1,λx hx=>h.2 x (hp.mem_iff.1 hx)⟩
theorem JF {w:World} {a:Addr} {v:Value} (h:w.cell? a=some v) (o:Obj):(w.alloc o).cell? a=some v:=
 (((Q0 w.heap.size w).alloc (lR) o).cell (Q3 w _ h)).trans h
abbrev rT:=λ(x0:Nat)=>(.cells #[.func (.func 145) #[] #[.pointer (some ⟨x0,0,none⟩)]] 118:Obj)
theorem JG (v:Value) (ps:List Pd) (B n:Nat) (us:List Nd) (w:World) (h:du w v ps) (hf:ks ps) (hU:cX w B n us) (ht:eR us) :
  Calls prog 107 #[v,.map (some B)] w λe w'=>(∃ v' qs,e=.returned v'/\du w' v' qs/\oZ us ps qs/\∃ a m c,v'=.slice a m c/\m<=c)/\Below w.heap.size w w':=by
 have Hg:=(Q0 w.heap.size w).alloc (lR) (.cells #[.map (some B)] 198);have Hm:=qI Hg;have Ht:=qI (h.below Hg);have Hl:=qI (hU.alloc (.cells #[.map (some B)] 198));have Hr:(w.alloc (.cells #[.map (some B)] 198)).cell? ⟨w.heap.size,0,none⟩=some (.map (some B)):=by simp
 have Hz:(w.alloc (.cells #[.map (some B)] 198)).heap.size=w.heap.size+1:=by simp
 have Hw:=hU.lt;obtain ⟨ao,c,rfl,_,_⟩:=h;clear Hg hU
 go_enter func107,ntmps107
 go_wp2_with fail
 generalize hW1:w.alloc (.cells #[.map (some B)] 198)=W1 at *;clear hW1;refine (Jy _ ps _ Ht.out hf.1).mono ?_;rintro e w2 ⟨v2,l,rfl,Ha,hl,hc,Hb⟩;have Hy:=qI Hb;have He:=qI Ha;have Hf:l.length<=16:=by have:=hf.1;rw [<- hl,Q9] at this;exact this
 have Hn:=qI (show ∀ x∈l,OkE W1 x from λx hx=>by
  have Hi:x.1∈ps:=by rw [<- hl];exact List.mem_map_of_mem hx
  exact ⟨hc x hx,(hf.2 x.1 Hi).1,(hf.2 x.1 Hi).2⟩)
 have HL:=qI hl;have Hq:∃ a nn cc,v2=.slice a nn cc/\nn<=cc:=by
  rcases Ha.2 with ⟨hv,_⟩|⟨g,cap,cur,hv,_,_,Hv,_⟩
  ·exact ⟨_,_,_,hv,lR⟩
  ·exact ⟨_,_,_,hv,Hv⟩
 have Ho:=qI (show iU (w2.alloc (rT w.heap.size)) w.heap.size w2.heap.size B n us from
  ⟨JF ((Hb.cell (p:=⟨w.heap.size,0,none⟩) (by show w.heap.size<W1.heap.size;omega)).trans Hr) _,by simp,(Hl.out.below Hb Hl.out.lt).alloc _⟩)
 have Hk:=qI (Hb.alloc (by have:=Hb.size;omega) (rT w.heap.size));have Hc:=qI (World.ownsRow.alloc Ha (rT w.heap.size));have Hu:=qI (World.ownsRow.lt Ha);obtain ⟨a2,n2,c2,rfl,Hp⟩:=Hq;clear Ha hl hc Hb hf He
 go_wp2_with fail
 refine (JE us W1 _ l _ W1.heap.size w.heap.size w2.heap.size B n Hc.out Hn.out Hf Hk.out (lR) Ho.out ⟨by omega,by omega⟩ (λg hg=>by have:=(Hu.out g hg).2;omega) ht).mono ?_;rintro e w4 ⟨rfl,⟨qs,hq,Hj⟩,Hh⟩;have HQ:=qI hq;have Hs:=qI Hj;have Hx:=qI (Hm.out.trans ((Hk.out.trans Hh).mono (by omega)));clear hq Hj Hh
 go_wp2
 go_ret;exact ⟨⟨_,qs,rfl,HQ.out,(by rw [<- HL.out];exact Hs.out),_,_,_,rfl,Hp⟩,Hx.out⟩
def mW (w:World) (v:Value) (l:List ByteArray):Prop:=
 ∃ ao c,v=.slice ao l.length c/\l.length<=c/\(0<l.length->∃ g,ao=some ⟨g,0,none⟩/\g<w.heap.size/\∀ k,k<l.length->w.cell? ⟨g,k,none⟩=some (.string (l.getD k ByteArray.empty)))
theorem iV.read {base:Nat} {w:World} {v:Value} {l:List ByteArray} (h:iV base w v l):mW w v l:=by
 by_cases h0:0<l.length
 ·obtain ⟨g,cap,hv,Ha,_,_,Hb,hc⟩:=vz h h0;refine ⟨_,cap,hv,Ha,λ_=>⟨g,rfl,Hb,λk hk=>?_⟩⟩;refine hc k _ ?_
  simp [txV,hk]
 ·rcases h.2 with ⟨hv,hn⟩|⟨g,cap,cur,hv,_,_,Ha,_⟩
  ·exact ⟨none,0,by rw [hv];simp at h0;simp [h0],by omega,λh=>by omega⟩
  ·exact ⟨_,cap,hv,Ha,λh=>by omega⟩
end
