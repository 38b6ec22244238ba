import Derived.Test.YtbmmnflgnmjboaaGreatDoorK14
import Derived.Test.YtbmmnflgnmjboaaGreatDoorK15
set_option maxRecDepth 100000
set_option maxHeartbeats 16000000
namespace Go.Proofs.YtbmmnflgnmjboaaGreatDoor
section
open RowKit
open Qos (aQ ltS orI)
theorem bf {B:Nat} {a w:World} (h:Below B a w):Below B a w.drew:=⟨h.os,h.tape,h.output,h.size,h.block⟩
theorem GO (a b:ByteArray):(a.toList == b.toList)=decide (a=b):=by
 rw [Bool.eq_iff_iff,beq_iff_eq,decide_eq_true_iff,Qs,Qs];exact ⟨λh=>ByteArray.ext (Array.toList_inj.mp h),λh=>by rw [h]⟩
theorem kc (x:ByteArray) (w:World):Calls Tryz.prog 123 #[.string x] w λe w'=>e=.returned (.bool false)/\w'=w:=by
 go_enter Tryz.func123,Tryz.ntmps123
 go_wp2
 go_ret;exact ⟨by simp,rfl⟩
theorem pO (x y:ByteArray) (w:World):Calls Tryz.prog 77 #[.string x,.string y] w λe w'=>e=.returned (.int .i64 (aQ x y))/\w'=w:=by
 have HT:Hid (aQ x y=if ltS x y=true then -1 else if ltS y x=true then 1 else 0):=rfl;have HTOT:=qI (Qos.pG x y);have HAS:=qI (Qos.lq x y);generalize aQ x y=T at *
 rcases two (ltS x y) with h1|h1
 ·have HE:=qI (HT.out.trans (if_pos h1));have h1':Op.bytesLess x.toList y.toList=true:=h1;clear HT h1 HTOT HAS
  go_enter Tryz.func77,Tryz.ntmps77
  go_wp2_with fail
  refine (kc _ _).mono ?_;rintro e w1 ⟨rfl,rfl⟩
  go_wp2_with fail
  refine (kc _ _).mono ?_;rintro e w1 ⟨rfl,rfl⟩
  go_wp2
  go_ret;exact ⟨by rw [HE.out];rfl,rfl⟩
 ·have HT1:=qI (HT.out.trans (if_neg (by rw [h1];decide)));have h1':Op.bytesLess x.toList y.toList=false:=h1
  rcases two (ltS y x) with h2|h2
  ·have HE:=qI (HT1.out.trans (if_pos h2));have hne:(x.toList == y.toList)=false:=by
    rw [GO];refine Q7 λe=>?_
    subst e;rw [h1] at h2;cases h2
   clear HT HT1 h1 h2 HTOT HAS
   go_enter Tryz.func77,Tryz.ntmps77
   go_wp2_with fail
   refine (kc _ _).mono ?_;rintro e w1 ⟨rfl,rfl⟩
   go_wp2_with fail
   refine (kc _ _).mono ?_;rintro e w1 ⟨rfl,rfl⟩
   go_wp2
   go_ret;exact ⟨by rw [HE.out];rfl,rfl⟩
  ·have HE:=qI (HT1.out.trans (if_neg (by rw [h2];decide)));have hxy:x=y:=HTOT.out (by rw [h1];rfl) (by rw [h2];rfl);subst hxy;clear HT HT1 h1 h2 HTOT HAS
   go_enter Tryz.func77,Tryz.ntmps77
   go_wp2_with fail
   refine (kc _ _).mono ?_;rintro e w1 ⟨rfl,rfl⟩
   go_wp2_with fail
   refine (kc _ _).mono ?_;rintro e w1 ⟨rfl,rfl⟩
   go_wp2
   go_ret;exact ⟨by rw [HE.out];rfl,rfl⟩
theorem GP (a b:Int) (g n:Nat) (w:World) (h0:w.cell? ⟨g,0,none⟩=some (.int .i64 a)) (h1:w.cell? ⟨g,1,none⟩=some (.int .i64 b)) :
  Calls Tryz.prog 76 #[.slice (some ⟨g,0,none⟩) 2 n] w λe w'=>e=.returned (.int .i64 (orI a b))/\w'=w:=by
 have HO:Hid (∀ k:Nat,k<2->∃ v:Int,w.cell? ⟨g,k,none⟩=some (.int .i64 v)/\(v=if k=0 then a else b)):=by
  intro k hk
  have:k=0\/k=1:=by omega
  rcases this with rfl|rfl
  ·exact ⟨a,h0,rfl⟩
  ·exact ⟨b,h1,rfl⟩
 clear h0 h1
 go_enter Tryz.func76,Tryz.ntmps76
 go_wp2_with fail
 go_loop [8] (λi=>∃ k:Nat,k<=2/\i=.int .i64 k/\Hid ((0<k->a=0)/\(1<k->b=0))) (λi=>2 - (intOf i).toNat)
 case atStart=>exact ⟨0,by omega,rfl,⟨λh=>by omega,λh=>by omega⟩⟩
 case round=>
  obtain ⟨k,hk,rfl,HZ⟩:=hrel
  by_cases hlt:k<2
  ·obtain ⟨v,hc,hv⟩:=HO.out k hlt;have HV:=qI hv;clear hv
   by_cases h0:v=0
   ·subst h0;have HZ2:Hid ((0<k+1->a=0)/\(1<k+1->b=0)):=by
     obtain ⟨z0,z1⟩:=HZ.out;have hv:=HV.out
     have:k=0\/k=1:=by omega
     rcases this with rfl|rfl
     ·simp at hv;exact ⟨λ_=>hv.symm,λh=>by omega⟩
     ·simp at hv;exact ⟨λ_=>z0 (by omega),λ_=>hv.symm⟩
    go_wp2_with fail
    go_round
    case rel=>exact ⟨k+1,by omega,by go_num,HZ2⟩
    case measure=>simp [intOf];omega
   ·have HE:Hid (orI a b=v):=by
     obtain ⟨z0,z1⟩:=HZ.out;have hv:=HV.out
     have:k=0\/k=1:=by omega
     unfold Hid orI
     rcases this with rfl|rfl
     ·simp at hv;subst hv;rw [if_neg h0]
     ·simp at hv;subst hv;rw [if_pos (z0 (by omega))]
    have hb:(v != 0)=true:=by simp [h0]
    go_wp2
    go_ret;exact ⟨by rw [HE.out];rfl,rfl⟩
  ·have hke:k=2:=by omega
   subst hke;have HE:Hid (orI a b=0):=by
    obtain ⟨z0,z1⟩:=HZ.out;unfold Hid orI;rw [if_pos (z0 (by omega)),z1 (by omega)]
   go_wp2
   go_ret;exact ⟨by rw [HE.out];rfl,rfl⟩
def bm (W:World) (B:Nat) (x:RV):Prop:=W.heap[B]?=some (.cells #[.string x.pod,.string x.cont,.int .u64 x.cpus,.slice x.da x.dn x.dc] 111 (0,0))
theorem bm.lt {W:World} {B:Nat} {x:RV} (h:bm W B x):B<W.heap.size:=(gS h).1
theorem bm.cells {W:World} {B:Nat} {x:RV} (h:bm W B x):W.cell? ⟨B,0,none⟩=some (.string x.pod)/\W.cell? ⟨B,1,none⟩=some (.string x.cont)/\W.cell? ⟨B,2,none⟩=some (.int .u64 x.cpus)/\W.cell? ⟨B,3,none⟩=some (.slice x.da x.dn x.dc):=by
 refine ⟨?_,?_,?_,?_⟩ <;> simp [World.cell?,show W.heap[B]?=_ from h]
theorem bm.made (w:World) (x:RV):bm (w.alloc (.cells #[.string x.pod,.string x.cont,.int .u64 x.cpus,.slice x.da x.dn x.dc] 111)) w.heap.size x:=World.alloc_heap_new w _
theorem bm.below {W W':World} {B:Nat} {x:RV} (h:bm W B x) (hb:Below W.heap.size W W'):bm W' B x:=(hb.block B h.lt).trans h
theorem bm.alloc {W:World} {B:Nat} {x:RV} (h:bm W B x) (o:Obj):bm (W.alloc o) B x:=h.below ((Q0 _ W).alloc (lR) o)
theorem GQ (w:World) (t:TypeId) (a b:Int):(w.alloc (.cells #[.int .i64 a,.int .i64 b] t)).cell? ⟨w.heap.size,0,none⟩=some (.int .i64 a)/\(w.alloc (.cells #[.int .i64 a,.int .i64 b] t)).cell? ⟨w.heap.size,1,none⟩=some (.int .i64 b):=⟨by simp,by simp⟩
theorem GR (x y:RV) (w:World):Calls Tryz.prog 75 #[.agg #[.string x.pod,.string x.cont,.int .u64 x.cpus,.slice x.da x.dn x.dc],.agg #[.string y.pod,.string y.cont,.int .u64 y.cpus,.slice y.da y.dn y.dc]] w λe w'=>e=.returned (.int .i64 (orI (aQ x.pod y.pod) (aQ x.cont y.cont)))/\Below w.heap.size w w'/\w.drawn<=w'.drawn:=by
 have hb0:=((Q0 w.heap.size w).alloc (lR) (.cells #[.string x.pod,.string x.cont,.int .u64 x.cpus,.slice x.da x.dn x.dc] 111)).alloc (by simp) (.cells #[.string y.pod,.string y.cont,.int .u64 y.cpus,.slice y.da y.dn y.dc] 111);have HBd:=qI (bf hb0);have HA:=qI (((bm.made w x).alloc (.cells #[.string y.pod,.string y.cont,.int .u64 y.cpus,.slice y.da y.dn y.dc] 111)).below (bf (Q0 _ _)));have hC:=(bm.made (w.alloc (.cells #[.string x.pod,.string x.cont,.int .u64 x.cpus,.slice x.da x.dn x.dc] 111)) y).below (bf (Q0 _ _));rw [show (w.alloc (.cells #[.string x.pod,.string x.cont,.int .u64 x.cpus,.slice x.da x.dn x.dc] 111)).heap.size=w.heap.size+1 by simp] at hC;have HC:=qI hC;clear hb0 hC
 go_enter Tryz.func75,Tryz.ntmps75
 go_wp2_with fail
 refine wp_region_held_drew (S:=(λw'=>(w'.cell? ⟨w.heap.size,0,none⟩=some (.string x.pod)/\w'.cell? ⟨w.heap.size,1,none⟩=some (.string x.cont))/\w'.cell? ⟨w.heap.size+1,0,none⟩=some (.string y.pod)/\w'.cell? ⟨w.heap.size+1,1,none⟩=some (.string y.cont))) (by kernel_rfl) ⟨⟨HA.out.cells.1,HA.out.cells.2.1⟩,HC.out.cells.1,HC.out.cells.2.1⟩ (λhHeld=>?_);refine tk 0 ?_;refine tk 1 ?_;refine tk 2 ?_;refine tk 3 ?_;refine tk 5 ?_;refine tk 6 ?_;refine tk 7 ?_;refine tk 8 ?_;refine rd 4 (λK hK=>?_);go_simp
 go_wp2_with fail
 refine (pO _ _ _).mono ?_;rintro e wx ⟨rfl,rfl⟩
 go_wp2
 refine hK.out _ _ ⟨⟨HA.out.cells.1,HA.out.cells.2.1⟩,HC.out.cells.1,HC.out.cells.2.1⟩ (λhHeld=>?_);clear hK K;refine rd 9 (λK hK=>?_);go_simp
 go_wp2_with fail
 refine (pO _ _ _).mono ?_;rintro e wx ⟨rfl,rfl⟩
 go_wp2
 refine hK.out _ _ ⟨⟨HA.out.cells.1,HA.out.cells.2.1⟩,HC.out.cells.1,HC.out.cells.2.1⟩ (λhHeld=>?_);clear hK K;have HA8:=qI (HA.out.alloc (.cells #[.int .i64 (aQ x.pod y.pod),.int .i64 (aQ x.cont y.cont)] 3));have HC8:=qI (HC.out.alloc (.cells #[.int .i64 (aQ x.pod y.pod),.int .i64 (aQ x.cont y.cont)] 3));have HB8:=qI (HBd.out.alloc HBd.out.size (.cells #[.int .i64 (aQ x.pod y.pod),.int .i64 (aQ x.cont y.cont)] 3));have hD8:=GQ (((w.alloc (.cells #[.string x.pod,.string x.cont,.int .u64 x.cpus,.slice x.da x.dn x.dc] 111)).alloc (.cells #[.string y.pod,.string y.cont,.int .u64 y.cpus,.slice y.da y.dn y.dc] 111)).drew) 3 (aQ x.pod y.pod) (aQ x.cont y.cont);rw [show (((w.alloc (.cells #[.string x.pod,.string x.cont,.int .u64 x.cpus,.slice x.da x.dn x.dc] 111)).alloc (.cells #[.string y.pod,.string y.cont,.int .u64 y.cpus,.slice y.da y.dn y.dc] 111)).drew).heap.size=w.heap.size+1+1 by simp [World.drew]] at hD8;have HD8:=qI hD8;clear hD8;refine rd 10 (λK hK=>?_);go_simp
 go_wp2
 refine hK.out _ _ ⟨⟨HA8.out.cells.1,HA8.out.cells.2.1⟩,HC8.out.cells.1,HC8.out.cells.2.1⟩ (λhHeld=>?_);clear hK K;refine rd 11 (λK hK=>?_);go_simp
 go_wp2_with fail
 refine (GP (aQ x.pod y.pod) (aQ x.cont y.cont) _ _ _ HD8.out.1 HD8.out.2).mono ?_;rintro e wx ⟨rfl,rfl⟩
 go_wp2
 refine hK.out _ _ ⟨⟨HA8.out.cells.1,HA8.out.cells.2.1⟩,HC8.out.cells.1,HC8.out.cells.2.1⟩ (λhHeld=>?_);clear hK K;refine tk 12 ?_;refine Qn (by kernel_rfl) ?_ _
 go_wp2
 go_ret;exact ⟨rfl,HB8.out,Nat.le_succ _⟩
end
end Go.Proofs.YtbmmnflgnmjboaaGreatDoor
namespace Go.Proofs
open Go.Shelf
shelf_lay_g SlLaysF0.n6 Slsf 6 at Tryz 121 as Tryz.sortRL
end Go.Proofs
namespace Go.Proofs.YtbmmnflgnmjboaaGreatDoor
section
open RowKit
open Go.Sort (SWO PermIn SortedIn HoldsK flatK putRowK)
open Qos (aQ ltS orI)
instance:Inhabited RV:=⟨⟨ByteArray.empty,ByteArray.empty,0,none,0,0⟩⟩
def cfR (x y:RV):Int:=orI (aQ x.pod y.pod) (aQ x.cont y.cont)
theorem pP (x y:RV):cfR x y<0↔(Qos.one (ltS x.pod y.pod)=1\/(Qos.one (ltS x.pod y.pod)=0/\Qos.one (ltS y.pod x.pod)=0/\Qos.one (ltS x.cont y.cont)=1)):=by
 unfold cfR orI aQ Qos.one;have h1:=Qos.lq x.pod y.pod;have h2:=Qos.lq x.cont y.cont;unfold Qos.one at h1 h2;generalize ltS x.pod y.pod=a at *;generalize ltS y.pod x.pod=b at *;generalize ltS x.cont y.cont=c at *;generalize ltS y.cont x.cont=d at *;cases a <;> cases b <;> cases c <;> cases d <;> simp at *
theorem GS:SWO (ltOf cfR) where
 irrefl a:=by
  refine Q7 ?_;rw [pP]
  have:=Qos.mP a.pod
  have:=Qos.mP a.cont
  omega
 trans a b c h1 h2:=by
  have h1:=of_decide_eq_true h1;have h2:=of_decide_eq_true h2;refine Qc ?_;rw [pP] at *;have o1:=Qos.fu (ltS a.pod c.pod)
  rcases h1 with h1|⟨h1,h1',h1c⟩
  ·rcases h2 with h2|⟨h2,h2',h2c⟩
   ·exact .inl (Qos.ln _ _ _ h1 h2)
   ·rcases o1 with o1|o1
    ·have:=Qos.iu a.pod c.pod b.pod o1 h2'
     omega
    ·exact .inl o1
  ·rcases h2 with h2|⟨h2,h2',h2c⟩
   ·rcases o1 with o1|o1
    ·have:=Qos.iu b.pod a.pod c.pod h1' o1
     omega
    ·exact .inl o1
   ·exact .inr ⟨Qos.iu _ _ _ h1 h2,Qos.iu _ _ _ h2' h1',Qos.ln _ _ _ h1c h2c⟩
 ntrans a b c h1 h2:=by
  have h1:=of_decide_eq_false h1;have h2:=of_decide_eq_false h2;refine Q7 ?_;rw [pP] at *;have o1:=Qos.fu (ltS a.pod b.pod);have o2:=Qos.fu (ltS b.pod c.pod);have o3:=Qos.fu (ltS b.pod a.pod);have o4:=Qos.fu (ltS c.pod b.pod);have p1:=Qos.fu (ltS a.cont b.cont);have p2:=Qos.fu (ltS b.cont c.cont);have e1:Qos.one (ltS a.pod b.pod)=0:=by omega
  have e2:Qos.one (ltS b.pod c.pod)=0:=by omega
  rintro (h3|⟨h3,h3',h3c⟩)
  ·have:=Qos.iu a.pod b.pod c.pod e1 e2
   omega
  ·have e3:Qos.one (ltS b.pod a.pod)=0:=Qos.iu b.pod c.pod a.pod e2 h3';have e4:Qos.one (ltS c.pod b.pod)=0:=Qos.iu c.pod a.pod b.pod h3' e1
   have:=Qos.iu a.cont b.cont c.cont (by omega) (by omega)
   omega
theorem GT {w w':World} (hb:Below w.heap.size w w') (hd:w.drawn<=w'.drawn):∃ q os,w'=Go.Sort.grow (w.drewN q) os:=by
 refine ⟨w'.drawn - w.drawn,w'.heap.extract w.heap.size w'.heap.size,?_⟩;obtain ⟨h1,h2,h3,h4,h5⟩:=hb;have hh:w'.heap=w.heap++w'.heap.extract w.heap.size w'.heap.size:=by
  apply Array.ext_getElem?
  intro i
  by_cases hi:i<w.heap.size
  ·rw [Array.getElem?_append_left hi];exact h5 i hi
  ·rw [Array.getElem?_append_right (by omega),Array.getElem?_extract]
   by_cases hj:i<w'.heap.size
   ·rw [if_pos (by omega)]
    congr 1
    omega
   ·rw [if_neg (by omega)];exact Array.getElem?_eq_none (by omega)
 unfold Go.Sort.grow World.drewN;cases w';cases w;simp only at h1 h2 h3 hd hh;simp only [World.mk.injEq];exact ⟨hh,h2,by omega,h1,h3⟩
theorem vm (w:World) (blk off m:Nat) (dk:Array RV) (os:Array Obj):w.grownBy (sortWorldK RV.cells 4 w blk off m dk os) (some blk):=by
 refine ⟨rfl,rfl,rfl,?_,λj hj hne=>?_⟩
 ·simp [sortWorldK,Go.Sort.grow,putRowK,Go.Sort.putRow,Go.Sort.mapBlock,Go.Sort.ahead]
 ·have h2:blk≠j:=λe=>hne (by rw [e])
  simp [sortWorldK,Go.Sort.grow,putRowK,Go.Sort.putRow,Go.Sort.mapBlock,Go.Sort.ahead,Array.getElem?_append,Array.getElem_modify,hj,h2]
def fL (w:World) (g k:Nat) (x:RV):Prop:=
 (w.cell? ⟨g,k*4,none⟩=some (.string x.pod)/\w.cell? ⟨g,k*4+1,none⟩=some (.string x.cont)/\w.cell? ⟨g,k*4+2,none⟩=some (.int .u64 x.cpus)/\w.cell? ⟨g,k*4+3,none⟩=some (.slice x.da x.dn x.dc))/\
 (w.frozen? ⟨g,k*4,none⟩=false/\w.frozen? ⟨g,k*4+1,none⟩=false/\w.frozen? ⟨g,k*4+2,none⟩=false/\w.frozen? ⟨g,k*4+3,none⟩=false)
def rv (ys:List RV) (k:Nat):RV:=ys.getD k default
def iY (base:Nat) (w:World) (v:Value) (ys:List RV):Prop:=
 ∃ a c,v=.slice a ys.length c/\ys.length<=c/\(0<ys.length->∃ g,a=some ⟨g,0,none⟩/\base<=g/\g<w.heap.size/\∀ k,k<ys.length->fL w g k (rv ys k))
theorem vo (ys:List RV) (k:Nat) (hk:k<ys.length) (c:Nat) (hc:c<4):(ys.flatMap RV.cells)[k*4+c]?=(RV.cells (rv ys k))[c]?:=by
 induction ys generalizing k with
 | nil=>simp at hk
 | cons y l ih=>
  rw [List.flatMap_cons];cases k with
  | zero=>
   rw [List.getElem?_append_left (by simp [RV.cells];omega)]
   simp [rv]
  | succ k=>
   rw [List.getElem?_append_right (by simp [RV.cells];omega)];rw [show (k+1)*4+c - (RV.cells y).length=k*4+c by simp [RV.cells];omega];rw [ih k (by simpa using hk)]
   simp [rv]
theorem GU {w:World} {g k:Nat} {x:RV} (h:∀ c,c<4->∀ u,(RV.cells x)[c]?=some u->w.cell? ⟨g,k*4+c,none⟩=some u/\w.frozen? ⟨g,k*4+c,none⟩=false):fL w g k x:=by
 obtain ⟨a0,b0⟩:=h 0 (by omega) _ rfl;obtain ⟨a1,b1⟩:=h 1 (by omega) _ rfl;obtain ⟨a2,b2⟩:=h 2 (by omega) _ rfl;obtain ⟨a3,b3⟩:=h 3 (by omega) _ rfl;exact ⟨⟨a0,a1,a2,a3⟩,b0,b1,b2,b3⟩
theorem GV {base:Nat} {w:World} {v:Value} {ys:List RV} (h:dY base w v ys) (h0:0<ys.length):∃ g cap,v=.slice (some ⟨g,0,none⟩) ys.length cap/\ys.length<=cap/\base<=g/\g<w.heap.size/\HoldsK RV.cells 4 w g 0 ys.toArray:=by
 rcases h.2 with ⟨_,hn⟩|⟨g,cap,cur,hv,hb,hg,hc1,hc2,_,ht⟩
 ·omega
 ·refine ⟨g,cap,hv,hc1,hb,(gS hg).1,λj hj=>?_⟩;rw [Go.Sort.size_flatK] at hj;rw [Go.Sort.get_flatK _ _ _ _ hj];have hk:j / 4<ys.length:=by simp at hj;omega
  have hx:=vo ys (j / 4) hk (j % 4) (by omega);rw [show j / 4*4+j % 4=j by omega,<- ht,List.getElem?_take] at hx;have e:ys.toArray[j / 4]! = rv ys (j / 4):=by simp [rv,hk]
  have hl:j % 4<(RV.cells (rv ys (j / 4))).length:=by simp [RV.cells];omega
  rw [Qf hl] at hx
  split at hx
  ·have hc:cur[j]?=some ((RV.cells (rv ys (j / 4)))[j % 4]):=by simpa using hx
   rw [e,List.getElem!_eq_getElem?_getD,Qf hl];refine ⟨?_,?_⟩
   ·unfold World.cell?;rw [hg];simp [hc]
   ·unfold World.frozen?;rw [hg];simp
  ·cases hx
def jD (ys:List RV):Prop:=ys.Pairwise λx y=>¬ cfR y x<0
theorem GX (ys:List RV) (w:World) (v:Value) (K:Nat) (hrow:dY K w v ys) (hl:ys.length<=1000) :
  Calls Tryz.prog 121 #[v,.func (.func 75) #[] #[]] w λe w'=>e=.returned (.tuple #[])/\(∃ qs,iY K w' v qs/\qs.Perm ys/\jD qs)/\Below K w w':=by
 by_cases h0:0<ys.length
 ·obtain ⟨g,cap,rfl,hc1,hgb,hglt,hH⟩:=GV hrow h0;have hsz:ys.toArray.size=ys.length:=by simp
  have eg:∀ args w,(callFunc 75 args).run Tryz.prog w=.ok (.enter 75 args) w:=enters_of Tryz.func75 (by kernel_rfl) rfl;have hcmp:CmpLays Tryz.prog 75 #[] RV.cells 4 cfR g 0 ys.toArray.size w:=by
   intro m os dk _ x y;exact (GR x y _).mono λe w' ⟨he,hb,hdr⟩=>⟨he,GT hb hdr⟩
  have h1:∀ x:RV,∀ v∈RV.cells x,v.oneCell'=true:=by
   intro x v hv
   simp [RV.cells] at hv
   rcases hv with rfl|rfl|rfl|rfl <;> rfl
  have hSo:=AnyQ.slices_SortFunc Tryz.sortRL 4 Tryz.isAgg111 Tryz.sizeOf111 RV.cells (λ_=>rfl) h1 cfR GS 75 #[] g 0 cap ys.toArray w eg hcmp hH hglt (by simp;omega)
  change Calls Tryz.prog 121 _ _ _ at hSo
  rw [hsz] at hSo;refine hSo.mono λe w' ⟨he,d',m,os,hp,hs,hw'⟩=>⟨he,?_,?_⟩
  ·have hsz':d'.size=ys.length:=by rw [hp.1,hsz]
   have hgr:=vm w g 0 m d' os;have hH':HoldsK RV.cells 4 w' g 0 d':=by
    rw [hw'];exact Go.Sort.holdsK_grow _ _ _ _ _ _ _ (by simpa [putRowK,Go.Sort.putRow,Go.Sort.mapBlock,Go.Sort.ahead] using hglt) (Go.Sort.holdsK_putRowK _ _ _ _ _ ys.toArray _ (Go.Sort.holdsK_ahead _ _ _ _ _ _ _ hH) (by rw [hp.1]))
   refine ⟨d'.toList,⟨_,cap,by simp [hsz'],by simp [hsz'];exact hc1,λ_=>⟨g,rfl,hgb,?_,λk hk=>?_⟩⟩,?_,?_⟩
   ·rw [hw'];exact Q1 hglt hgr.size
   ·have hk2:k<d'.size:=by simpa using hk
    have e:d'[k]! = rv d'.toList k:=by rw [getElem!_pos d' k hk2];simp [rv,hk2]
    rw [<- e];refine GU λc hc u hu=>?_
    have h2:=hH'.cell (i:=k) (c:=c) (by omega) hc;rw [Qd] at h2;have e2:(RV.cells d'[k]!)[c]! = u:=by rw [List.getElem!_eq_getElem?_getD,hu];rfl
    rw [e2] at h2;exact h2
   ·have:=hp.2.2
    simp only [Array.toList_extract,List.extract_eq_take_drop,List.drop_zero,Nat.sub_zero] at this;rw [List.take_of_length_le (by simp [hsz']),List.take_of_length_le (by simp)] at this
    simpa using this
   ·unfold jD;rw [List.pairwise_iff_getElem];intro i j hi hj hij;have hi2:i<d'.size:=by simpa using hi
    have hj2:j<d'.size:=by simpa using hj
    have:=hs i j (Nat.zero_le _) hij (by omega)
    rw [getElem!_pos d' j hj2,getElem!_pos d' i hi2] at this;have h3:=of_decide_eq_false this
    simpa using h3
  ·rw [hw'];have hgr:=vm w g 0 m d' os;exact ⟨hgr.os,hgr.tape,hgr.output,hgr.size,λk hk=>hgr.block k (by omega) (λe=>by cases e;omega)⟩
 ·have e:ys=[]:=Qe (by omega);subst e;have hv:∃ p c,v=.slice p 0 c:=by
   rcases hrow.2 with ⟨hv,_⟩|⟨g,cap,cur,hv,_⟩
   ·exact ⟨none,0,hv⟩
   ·exact ⟨_,cap,hv⟩
  obtain ⟨p,c,rfl⟩:=hv;have hSo:=AnyF.slices_SortFunc_none (P:=Tryz.prog) (ρ:=Tryz.sortRL_ren) { Tryz.sortRL with } p c (.func (.func 75) #[] #[]) w
  change Calls Tryz.prog 121 _ _ _ at hSo
  exact hSo.mono λe w' ⟨he,hw'⟩=>⟨he,⟨[],⟨p,c,rfl,by simp,λh=>by simp at h⟩,List.Perm.refl _,List.Pairwise.nil⟩,by rw [hw'];exact Q0 _ _⟩
end
section
open RowKit
open Qos (aQ ltS orI)
theorem GY (Bm b nn:Nat) (xs:List RV) (w:World) (hm:w.cell? ⟨Bm,0,none⟩=some (.map (some b))) (hown:aW w b nn xs) (hl:xs.length<=1000) :
  Calls Tryz.prog 73 #[.func (.func 122) #[] #[.pointer (some ⟨Bm,0,none⟩)],.func (.func 75) #[] #[]] w λe w'=>(∃ v qs,e=.returned v/\iY w.heap.size w' v qs/\qs.Perm xs/\jD qs)/\Below w.heap.size w w':=by
 have HC:=qI (Gi Bm b nn xs w hm hown hl);clear hm hown
 go_enter Tryz.func73,Tryz.ntmps73
 go_wp2_with fail
 refine HC.out.mono ?_;rintro e w1 ⟨⟨v,ys,rfl,hp,hr⟩,hb⟩;have HS:=qI (GX ys w1 v w.heap.size hr (by rw [hp.length_eq];exact hl));have HP:=qI hp;have HB:=qI hb;obtain ⟨a,c,rfl,_⟩:=hr.slice;clear hr hp hb HC
 go_wp2_with fail
 refine HS.out.mono ?_;rintro e w2 ⟨rfl,⟨qs,hq,hqp,hqo⟩,hb2⟩;have HQ:=qI hq;have HQP:=qI (hqp.trans HP.out);have HQO:=qI hqo;have HB2:=qI (HB.out.trans hb2);clear hq hqp hqo hb2 HS
 go_wp2
 go_ret;exact ⟨⟨_,qs,rfl,HQ.out,HQP.out,HQO.out⟩,HB2.out⟩
def iy (w:World) (x:RV) (k:Nat):Int:=match x.da with
 | some a=>match w.cell? (a.add k) with
  | some (.int _ n)=>n
  | _=>0
 | none=>0
def aK (w:World) (x:RV):List Int:=(List.range x.dn).map (iy w x)
def bn (w:World) (x:RV):Prop:=0<x.dn->∃ g o,x.da=some ⟨g,o,none⟩/\g<w.heap.size/\∀ k,k<x.dn->w.cell? ⟨g,o+k,none⟩=some (.int .i64 (iy w x k))
theorem lx {w w':World} {x:RV} (h:bn w x) (hk:∀ g o,x.da=some ⟨g,o,none⟩->g<w.heap.size->w'.heap[g]?=w.heap[g]?) (hs:w.heap.size<=w'.heap.size):bn w' x/\aK w' x=aK w x:=by
 by_cases h0:0<x.dn
 ·obtain ⟨g,o,ha,hg,hc⟩:=h h0;have hh:=hk g o ha hg;have hd:∀ k,iy w' x k=iy w x k:=λk=>by
   unfold iy;rw [ha]
   simp only
   rw [World.cell?_of_block (w:=w) (w':=w') (a:=(⟨g,o,none⟩:Addr).add k) (by rw [Addr.add_lit];exact hh)]
  refine ⟨λ_=>⟨g,o,ha,Q1 hg hs,λk hk'=>?_⟩,?_⟩
  ·rw [hd,<- hc k hk'];exact World.cell?_of_block (a:=⟨g,o+k,none⟩) hh
  ·unfold aK;refine List.map_congr_left λk _=>hd k
 ·refine ⟨λh1=>absurd h1 h0,?_⟩
  have:x.dn=0:=by omega
  simp [aK,this]
theorem bn.below {w w':World} {x:RV} (h:bn w x) {K:Nat} (hb:Below K w w') (hK:∀ g o,x.da=some ⟨g,o,none⟩->g<w.heap.size->g<K):bn w' x/\aK w' x=aK w x:=
 lx h (λg o e hg=>hb.block g (hK g o e hg)) hb.size
structure Rn where
 pod:ByteArray
 cont:ByteArray
 cpus:Int
 devs:List Int
def aC (w:World) (x:RV):Rn:=⟨x.pod,x.cont,x.cpus,aK w x⟩
def ee (w:World) (x:RV):Prop:=bn w x/\(0<x.dn->∃ g arr z,x.da=some ⟨g,0,none⟩/\w.heap[g]?=some (.cells arr 3 z))
def cB (w w':World):Prop:=w.heap.size<=w'.heap.size/\∀ (k:Nat) (arr:Array Value) (z:Nat × Nat),w.heap[k]?=some (Obj.cells arr 3 z)->w'.heap[k]?=w.heap[k]?
theorem cB.trans {a b c:World} (h:cB a b) (k:cB b c):cB a c:=⟨Q5 h.1 k.1,λi arr z hi=>by
 have h1:=h.2 i arr z hi;rw [hi] at h1;exact (k.2 i arr z h1).trans (h1.trans hi.symm)⟩
theorem cB.below {w w':World} (h:Below w.heap.size w w'):cB w w':=⟨h.size,λk _ _ hk=>h.block k (gS hk).1⟩
theorem cB.grown {w w':World} {b:Nat} (h:w.grownBy w' (some b)) (hb:∀ (arr:Array Value) (z:Nat × Nat),w.heap[b]?≠some (Obj.cells arr 3 z)):cB w w':=
 ⟨h.size,λk arr z hk=>h.block k (gS hk).1 (λe=>by cases e;exact hb arr z hk)⟩
theorem ee.kept {w w':World} {x:RV} (h:ee w x) (hk:cB w w'):ee w' x/\aK w' x=aK w x:=by
 by_cases h0:0<x.dn
 ·obtain ⟨g,arr,z,ha,hg⟩:=h.2 h0;have hh:=hk.2 g arr z hg;obtain ⟨h1,h2⟩:=lx (w':=w') h.1 (λg' o' e _=>by rw [ha] at e;cases e;exact hh) hk.1;exact ⟨⟨h1,λ_=>⟨g,arr,z,ha,hh.trans hg⟩⟩,h2⟩
 ·obtain ⟨h1,h2⟩:bn w' x/\aK w' x=aK w x:=⟨λh1=>absurd h1 h0,by (have e0:x.dn=0:=(by omega));simp [aK,e0]⟩;exact ⟨⟨h1,λh1=>absurd h1 h0⟩,h2⟩
def eW (l:List Int):List Value:=l.map (Value.int .i64)
theorem GZ:(Tryz.prog.info? 3).map (λi=>(i.zero,i.size,i.bytes))=some (some (.int .i64 0),1,8):=by kernel_rfl
theorem vp (ao:Option Addr) (n c:Nat) (w:World):Sem.run Tryz.prog (binOp BinOp.eql 44 (.slice ao n c) (.slice none 0 0)) w=.ok (.bool ao.isNone) w:=Lib.run_eql_slice_nil w _ _ ao n c 0 0 Tryz.underlying44
theorem G0 (w:World) (x:RV):(aK w x).length=x.dn:=by simp [aK]
def gW (K:Nat) (x:RV):Prop:=0<x.dn->∃ g,x.da=some ⟨g,0,none⟩/\K<=g
theorem G1 {w:World} {base:Nat} {v:Value} {x:RV} {l:List Int} (hl:l.length=x.dn) (h:w.ownsRow base 3 1 v l.length (eW l)):∃ a c,v=.slice a x.dn c/\ee w { x with da:=a,dc:=c }/\aK w { x with da:=a,dc:=c }=l/\gW base { x with da:=a,dc:=c }:=by
 rcases h.2 with ⟨hv,hn⟩|⟨g,cap,cur,hv,hb,hg,hc1,hc2,_,ht⟩
 ·have h0:x.dn=0:=by omega
  refine ⟨none,0,by rw [hv,h0],⟨λh1=>?_,λh1=>?_⟩,?_,λh1=>?_⟩
  ·simp only at h1;omega
  ·simp only at h1;omega
  ·have:l=[]:=Qe (by omega)
   subst this
   simp [aK,h0]
  ·simp only at h1;omega
 ·have hglt:g<w.heap.size:=(gS hg).1;have hc:∀ k,k<x.dn->w.cell? ⟨g,k,none⟩=some (.int .i64 (l.getD k 0)):=λk hk=>by
   have hx:(eW l)[k]?=some (.int .i64 (l.getD k 0)):=by
    have:k<l.length:=by omega
    simp [eW,this]
   rw [<- ht,List.getElem?_take] at hx
   split at hx
   ·have hcu:cur[k]?=some (.int .i64 (l.getD k 0)):=by simpa using hx
    unfold World.cell?
    rw [hg]
    simp only
    exact hcu
   ·cases hx
  have hd:∀ k,k<x.dn->iy w { x with da:=some ⟨g,0,none⟩,dc:=cap } k=l.getD k 0:=λk hk=>by
   unfold iy
   simp only
   rw [Addr.add_lit,Qd,hc k hk]
  refine ⟨some ⟨g,0,none⟩,cap,by rw [hv,hl],⟨λ_=>⟨g,0,rfl,hglt,λk hk=>?_⟩,λ_=>⟨g,cur,_,rfl,hg⟩⟩,?_,λ_=>⟨g,rfl,hb⟩⟩
  ·rw [Qd,hc k hk,hd k hk]
  ·unfold aK;apply List.ext_getElem
   ·simp [hl]
   ·intro i h1 h2;have hi:i<x.dn:=by simpa using h1
    simp only [List.getElem_map,List.getElem_range];rw [hd i hi]
    simp [h2]
theorem G2 (a:Addr) (c:Nat) (l:List Int) (w:World) (hc:∀ j u,(eW l)[j]?=some u->w.cell? (a.add j)=some u) (hl:l.length<=1000) :
  Calls Tryz.prog 82 #[.slice (some a) l.length c] w λe w'=>∃ v,e=.returned v/\w'.ownsRow w.heap.size 3 1 v l.length (eW l)/\Below w.heap.size w w':=by
 obtain ⟨i0,hi,hz0,hz1,hz2⟩:=info_parts GZ;have h1:∀ u∈eW l,u.oneCell'=true:=by
  intro u hu
  simp [eW] at hu
  obtain ⟨n,_,rfl⟩:=hu;rfl
 have HB:=qI ((Q0 w.heap.size w).alloc (lR) (.cells #[] 3));have HC:Hid (∀ j u,(eW l)[j]?=some u->(w.alloc (.cells #[] 3)).cell? (a.add j)=some u):=λj u hj=>Lib.cell?_alloc_some _ (hc j u hj)
 have hnil:=vp (some a) l.length c w;have hlen:(eW l).length=l.length:=by simp [eW]
 clear hc
 go_enter Tryz.func82,Tryz.ntmps82
 go_wp2_with (at_builtin;(refine wpList_append_own _ rfl _ _ 44 rfl w.heap.size 3 i0 (.int .i64 0) 1 8 Tryz.underlying44 hi hz0 hz1 hz2 rfl (by decide) _ _ _ rfl (World.ownsRow_lit w #[] 0 (lR) (Nat.zero_le _) rfl) a l.length c (eW l) rfl (by rw [hlen,Nat.mul_one]) HC.out h1 (by unfold maxLen;omega) (by omega) (by simp) ?_);intro v' w1 hown' hgrow' _)
 have hB1:=qI (HB.out.grown hgrow' (by simp) (λj hj=>by cases hj;exact lR));rw [Qd] at hown';have hD:Hid (w1.ownsRow w.heap.size 3 1 v' l.length (eW l)):=by simpa [Hid] using hown'
 clear hown' hgrow'
 go_wp2
 go_ret;exact ⟨_,rfl,hD.out,hB1.out⟩
theorem G3 (x:RV) (w:World) (h:bn w x) (hn:x.dn<=1000) :
  Calls Tryz.prog 82 #[.slice x.da x.dn x.dc] w λe w'=>∃ a c,e=.returned (.slice a x.dn c)/\ee w' { x with da:=a,dc:=c }/\aK w' { x with da:=a,dc:=c }=aK w x/\gW w.heap.size { x with da:=a,dc:=c }/\Below w.heap.size w w':=by
 have hdl:=G0 w x
 rcases hda:x.da with _|a
 ·have h0:x.dn=0:=by
   rcases Nat.eq_zero_or_pos x.dn with e|e
   ·exact e
   ·obtain ⟨g,o,ha,_⟩:=h e;rw [hda] at ha;cases ha
  have hnil:=vp none 0 x.dc w;rw [h0]
  go_enter Tryz.func82,Tryz.ntmps82
  go_wp2
  go_ret;exact ⟨none,0,rfl,⟨λh1=>by simp only at h1;omega,λh1=>by simp only at h1;omega⟩,by simp [aK,h0],λh1=>by simp only at h1;omega,Q0 _ _⟩
 ·have hc:=G2 a x.dc (aK w x) w (λj u hj=>by
   have hj':j<x.dn:=by
    have:=(List.getElem?_eq_some_iff.1 hj).1
    simp [eW,hdl] at this
    exact this
   obtain ⟨g,o,ha,_,hcs⟩:=h (by omega);rw [hda] at ha;cases ha;rw [Addr.add_lit,hcs j hj',<- hj]
   simp [eW,aK,hj']) (by omega)
  rw [hdl] at hc;refine hc.mono λe w' ⟨v,he,ho,hb⟩=>?_
  obtain ⟨a',c',rfl,h1,h2,h3⟩:=G1 (x:=x) hdl (by rw [hdl];exact ho);exact ⟨a',c',he,h1,h2,h3,hb⟩
end
section
open RowKit
theorem ly (W:World) (b j:Nat) (v:Value):W.grownBy (W.setCell ⟨b,j,none⟩ v) (some b):=
 ⟨rfl,rfl,rfl,by simp,λk _ hk=>Below.heap_setCell _ _ _ k (λe=>hk (by rw [e]))⟩
theorem bm.set0 {W:World} {B:Nat} {x:RV} (h:bm W B x) (s:ByteArray):bm (W.setCell ⟨B,0,none⟩ (.string s)) B { x with pod:=s }:=by
 obtain ⟨hlt,hk⟩:=gS h
 show (W.heap.modify B _)[B]?=_
 rw [Array.getElem?_eq_getElem (by rw [Array.size_modify];exact hlt),Array.getElem_modify_self,hk];rfl
theorem bm.set1 {W:World} {B:Nat} {x:RV} (h:bm W B x) (s:ByteArray):bm (W.setCell ⟨B,1,none⟩ (.string s)) B { x with cont:=s }:=by
 obtain ⟨hlt,hk⟩:=gS h
 show (W.heap.modify B _)[B]?=_
 rw [Array.getElem?_eq_getElem (by rw [Array.size_modify];exact hlt),Array.getElem_modify_self,hk];rfl
theorem bm.set2 {W:World} {B:Nat} {x:RV} (h:bm W B x) (n:Int):bm (W.setCell ⟨B,2,none⟩ (.int .u64 n)) B { x with cpus:=n }:=by
 obtain ⟨hlt,hk⟩:=gS h
 show (W.heap.modify B _)[B]?=_
 rw [Array.getElem?_eq_getElem (by rw [Array.size_modify];exact hlt),Array.getElem_modify_self,hk];rfl
theorem bm.set3 {W:World} {B:Nat} {x:RV} (h:bm W B x) (a:Option Addr) (n c:Nat):bm (W.setCell ⟨B,3,none⟩ (.slice a n c)) B { x with da:=a,dn:=n,dc:=c }:=by
 obtain ⟨hlt,hk⟩:=gS h
 show (W.heap.modify B _)[B]?=_
 rw [Array.getElem?_eq_getElem (by rw [Array.size_modify];exact hlt),Array.getElem_modify_self,hk];rfl
theorem bm.frozen {W:World} {B:Nat} {x:RV} (h:bm W B x) (j:Nat):W.frozen? ⟨B,j,none⟩=false:=by simp [World.frozen?,show W.heap[B]?=_ from h]
theorem bm.far {W:World} {B:Nat} {x:RV} (h:bm W B x) (g j:Nat) (v:Value) (hne:B≠g):bm (W.setCell ⟨g,j,none⟩ v) B x:=(Below.heap_setCell W ⟨g,j,none⟩ v B hne).trans h
theorem bm.notInt {W:World} {B:Nat} {x:RV} (h:bm W B x):∀ (arr:Array Value) (z:Nat × Nat),W.heap[B]?≠some (Obj.cells arr 3 z):=λarr z e=>by
 have:=(show W.heap[B]?=_ from h).symm.trans e
 simp at this
theorem G4 {fn:Func} {p:Tmp} {ty:TypeId} (h:fn.results=#[.cell p ty]) (tmps:Array Value) (P:Program) (w:World) :
  (results fn tmps).run P w=((asAddr (tmps.getD p undef)).run P w).andThen λa w₁=>(loadVar ty a).run P w₁:=by
 simp only [results,h]
 simp [Sem.run_bind,Result.andThen]
def fill (W:World) (B:Nat) (x:RV):World:=(((W.setCell ⟨B,0,none⟩ (.string x.pod)).setCell ⟨B,1,none⟩ (.string x.cont)).setCell ⟨B,2,none⟩ (.int .u64 x.cpus)).setCell ⟨B,3,none⟩ (.slice x.da x.dn x.dc)
theorem bm.fill {W:World} {B:Nat} {z:RV} (h:bm W B z) (x:RV):bm (fill W B x) B x:=(((h.set0 x.pod).set1 x.cont).set2 x.cpus).set3 x.da x.dn x.dc
theorem cB.fill {W:World} {B:Nat} {z:RV} (h:bm W B z) (x:RV):cB W (fill W B x):=by
 have h0:=h.set0 x.pod;have h1:=h0.set1 x.cont;have h2:=h1.set2 x.cpus;exact (((cB.grown (ly W B 0 _) h.notInt).trans (cB.grown (ly _ B 1 _) h0.notInt)).trans (cB.grown (ly _ B 2 _) h1.notInt)).trans (cB.grown (ly _ B 3 _) h2.notInt)
theorem G5 {w W:World} {K B:Nat} (h:Below K w W) (hK:K<=B) (x:RV):Below K w (fill W B x):=
 (((h.setCell (p:=⟨B,0,none⟩) hK _).setCell (p:=⟨B,1,none⟩) hK _).setCell (p:=⟨B,2,none⟩) hK _).setCell (p:=⟨B,3,none⟩) hK _
theorem pQ (x:RV) (w:World) (h:bn w x) (hn:x.dn<=1000) :
  Calls Tryz.prog 78 #[.agg #[.string x.pod,.string x.cont,.int .u64 x.cpus,.slice x.da x.dn x.dc]] w λe w'=>∃ a c,e=.returned (.agg #[.string x.pod,.string x.cont,.int .u64 x.cpus,.slice a x.dn c])/\ee w' { x with da:=a,dc:=c }/\aK w' { x with da:=a,dc:=c }=aK w x/\gW w.heap.size { x with da:=a,dc:=c }/\Below w.heap.size w w':=by
 have hb1:=(Q0 w.heap.size w).alloc (lR) (.cells #[.string x.pod,.string x.cont,.int .u64 x.cpus,.slice x.da x.dn x.dc] 111);have hb2:=hb1.alloc hb1.size (.cells #[.string ⟨#[]⟩,.string ⟨#[]⟩,.int .u64 0,.slice none 0 0] 111);have HB2:=qI hb2;have HX:=qI ((bm.made w x).alloc (.cells #[.string ⟨#[]⟩,.string ⟨#[]⟩,.int .u64 0,.slice none 0 0] 111));have hZ:=bm.made (w.alloc (.cells #[.string x.pod,.string x.cont,.int .u64 x.cpus,.slice x.da x.dn x.dc] 111)) ⟨⟨#[]⟩,⟨#[]⟩,0,none,0,0⟩;rw [World.size_alloc] at hZ;have HZ:=qI hZ;obtain ⟨hd1,hd2⟩:=h.below hb2 (λ_ _ _ hg=>hg);have HCL:=qI (G3 x _ hd1 hn);have HD2:=qI hd2;clear hb1 hb2 hZ hd1 hd2
 go_enter Tryz.func78,Tryz.ntmps78
 go_wp2_with fail
 generalize (w.alloc (.cells #[.string x.pod,.string x.cont,.int .u64 x.cpus,.slice x.da x.dn x.dc] 111)).alloc (.cells #[.string ⟨#[]⟩,.string ⟨#[]⟩,.int .u64 0,.slice none 0 0] 111)=W2 at *;refine HCL.out.mono ?_;rintro e w3 ⟨a,c,rfl,ho,hdv,hdf,hb3⟩;have HDF:=qI (show gW w.heap.size { x with da:=a,dc:=c } from λh0=>by
  obtain ⟨g,hg1,hg2⟩:=hdf h0;exact ⟨g,hg1,Q5 HB2.out.size hg2⟩)
 have hx3:=HX.out.below hb3;have hz3:=HZ.out.below hb3;have HB3:=qI (HB2.out.trans (hb3.mono HB2.out.size));have HO3:=qI ho;have HDV:=qI (hdv.trans HD2.out);have hc3:=hx3.cells;obtain ⟨c0,c1,c2,c3⟩:=hc3;have f3:=hx3.frozen 3;have hx4:=hx3.set3 a x.dn c;have hz4:=hz3.far w.heap.size 3 (.slice a x.dn c) (by omega);have HK4:=qI (cB.grown (ly w3 w.heap.size 3 (.slice a x.dn c)) hx3.notInt);have HB4:=qI (HB3.out.setCell (p:=⟨w.heap.size,3,none⟩) (lR) (.slice a x.dn c));clear hdv ho hb3 hdf HX HZ HCL HD2 hx3 hz3;obtain ⟨d0,d1,d2,d3⟩:=hx4.cells;obtain ⟨z0,z1,z2,z3⟩:=hz4.cells;have g0:=hz4.frozen 0;have g1:=hz4.frozen 1;have g2:=hz4.frozen 2;have g3:=hz4.frozen 3;have HX4:=qI hx4;have HZ4:=qI hz4;clear hx4 hz4
 go_wp2_with fail
 clear c0 c1 c2 c3 d0 d1 d2 d3 z0 z1 z2 z3 g0 g1 g2 g3 f3;have hF:=HZ4.out.fill { x with da:=a,dc:=c };have HK5:=qI (cB.fill HZ4.out { x with da:=a,dc:=c });have HB5:=qI (G5 HB4.out (B:=w.heap.size+1) (by omega) { x with da:=a,dc:=c });obtain ⟨e0,e1,e2,e3⟩:=hF.cells;have HF:Hid (fill (w3.setCell ⟨w.heap.size,3,none⟩ (.slice a x.dn c)) (w.heap.size+1) { x with da:=a,dc:=c }=((((w3.setCell ⟨w.heap.size,3,none⟩ (.slice a x.dn c)).setCell ⟨w.heap.size+1,0,none⟩ (.string x.pod)).setCell ⟨w.heap.size+1,1,none⟩ (.string x.cont)).setCell ⟨w.heap.size+1,2,none⟩ (.int .u64 x.cpus)).setCell ⟨w.heap.size+1,3,none⟩ (.slice a x.dn c)):=rfl;rw [<- HF.out];clear hF;generalize fill (w3.setCell ⟨w.heap.size,3,none⟩ (.slice a x.dn c)) (w.heap.size+1) { x with da:=a,dc:=c }=W5 at *;obtain ⟨ho5,hd5⟩:=HO3.out.kept (HK4.out.trans HK5.out);refine bodyPost_ret (v:=.agg #[.string x.pod,.string x.cont,.int .u64 x.cpus,.slice a x.dn c]) ?_ rfl ⟨a,c,rfl,ho5,hd5.trans HDV.out,HDF.out,HB5.out⟩;rw [G4 rfl];clear ho5 hd5 HO3 HDF HDV HB5 HK5 HK4 HF HZ4 HX4 HB4 HB3 HB2;go_simp
def ef (w:World) (Be Bd Bm:Nat):Prop:=w.heap[Be]?=some (.cells #[.pointer (some ⟨Bd,0,none⟩),.map (some Bm)] 149 (0,0))
theorem ef.lt {w:World} {Be Bd Bm:Nat} (h:ef w Be Bd Bm):Be<w.heap.size:=(gS h).1
theorem ef.cells {w:World} {Be Bd Bm:Nat} (h:ef w Be Bd Bm):w.cell? ⟨Be,0,none⟩=some (.pointer (some ⟨Bd,0,none⟩))/\w.cell? ⟨Be,1,none⟩=some (.map (some Bm)):=by
 refine ⟨?_,?_⟩ <;> simp [World.cell?,show w.heap[Be]?=_ from h]
theorem ef.block {w w':World} {Be Bd Bm:Nat} (h:ef w Be Bd Bm) (hb:w'.heap[Be]?=w.heap[Be]?):ef w' Be Bd Bm:=hb.trans h
def dA (W:World) (g o:Nat) (x:RV):World:=(((W.setCell ⟨g,o,none⟩ (.string x.pod)).setCell ⟨g,o+1,none⟩ (.string x.cont)).setCell ⟨g,o+2,none⟩ (.int .u64 x.cpus)).setCell ⟨g,o+3,none⟩ (.slice x.da x.dn x.dc)
theorem mT (W:World) (g o:Nat) (x:RV) (b p:Nat) (h:b≠g\/p<o\/o+3<p):(dA W g o x).cell? ⟨b,p,none⟩=W.cell? ⟨b,p,none⟩:=by
 unfold dA;rw [Qb _ _ _ _ (by simp;omega),Qb _ _ _ _ (by simp;omega),Qb _ _ _ _ (by simp;omega),Qb _ _ _ _ (by simp;omega)]
theorem iZ (W:World) (g o:Nat) (x:RV) (a:Addr):(dA W g o x).frozen? a=W.frozen? a:=by
 unfold dA;simp only [World.frozen?_setCell]
def i6 (w:World) (g:Nat) (ys:List RV):Prop:=∀ k,k<ys.length->fL w g k (rv ys k)
theorem G6 {W:World} {g k:Nat} {z:RV} (h:fL W g k z) (x:RV):fL (dA W g (k*4) x) g k x:=by
 obtain ⟨⟨c0,c1,c2,c3⟩,f0,f1,f2,f3⟩:=h;refine ⟨⟨?_,?_,?_,?_⟩,by rw [iZ];exact f0,by rw [iZ];exact f1,by rw [iZ];exact f2,by rw [iZ];exact f3⟩
 ·unfold dA;rw [Qb _ _ _ _ (by simp),Qb _ _ _ _ (by simp),Qb _ _ _ _ (by simp),World.cell?_setCell_same' _ _ _ (by rw [c0];rfl)]
 ·unfold dA;rw [Qb _ _ _ _ (by simp),Qb _ _ _ _ (by simp),World.cell?_setCell_same' _ _ _ (by rw [Qb _ _ _ _ (by simp),c1];rfl)]
 ·unfold dA;rw [Qb _ _ _ _ (by simp),World.cell?_setCell_same' _ _ _ (by rw [Qb _ _ _ _ (by simp),Qb _ _ _ _ (by simp),c2];rfl)]
 ·unfold dA;rw [World.cell?_setCell_same' _ _ _ (by rw [Qb _ _ _ _ (by simp),Qb _ _ _ _ (by simp),Qb _ _ _ _ (by simp),c3];rfl)]
theorem pR (ys:List RV) (k j:Nat) (x:RV) (hk:k<ys.length):rv (ys.set k x) j=if j=k then x else rv ys j:=by
 unfold rv
 by_cases e:j=k
 ·subst e;simp [hk]
 ·rw [if_neg e];simp [Ne.symm e]
theorem i6.set {W:World} {g k:Nat} {ys:List RV} (h:i6 W g ys) (hk:k<ys.length) (x:RV):i6 (dA W g (k*4) x) g (ys.set k x):=λj hj=>by
 rw [pR ys k j x hk]
 by_cases e:j=k
 ·subst e;rw [if_pos rfl];exact G6 (h j hk) x
 ·rw [if_neg e];obtain ⟨⟨c0,c1,c2,c3⟩,f0,f1,f2,f3⟩:=h j (by simpa using hj);exact ⟨⟨(mT _ _ _ _ _ _ (by omega)).trans c0,(mT _ _ _ _ _ _ (by omega)).trans c1,(mT _ _ _ _ _ _ (by omega)).trans c2,(mT _ _ _ _ _ _ (by omega)).trans c3⟩,by rw [iZ];exact f0,by rw [iZ];exact f1,by rw [iZ];exact f2,by rw [iZ];exact f3⟩
theorem i6.block {W W':World} {g:Nat} {ys:List RV} (h:i6 W g ys) (hb:W'.heap[g]?=W.heap[g]?):i6 W' g ys:=λk hk=>by
 obtain ⟨⟨c0,c1,c2,c3⟩,f0,f1,f2,f3⟩:=h k hk;exact ⟨⟨(World.cell?_of_block (a:=⟨g,k*4,none⟩) hb).trans c0,(World.cell?_of_block (a:=⟨g,k*4+1,none⟩) hb).trans c1,(World.cell?_of_block (a:=⟨g,k*4+2,none⟩) hb).trans c2,(World.cell?_of_block (a:=⟨g,k*4+3,none⟩) hb).trans c3⟩,(World.frozen?_of_block (a:=⟨g,k*4,none⟩) hb).trans f0,(World.frozen?_of_block (a:=⟨g,k*4+1,none⟩) hb).trans f1,(World.frozen?_of_block (a:=⟨g,k*4+2,none⟩) hb).trans f2,(World.frozen?_of_block (a:=⟨g,k*4+3,none⟩) hb).trans f3⟩
theorem G7 {w W:World} {K g:Nat} (h:Below K w W) (hK:K<=g) (o:Nat) (x:RV):Below K w (dA W g o x):=
 (((h.setCell (p:=⟨g,o,none⟩) hK _).setCell (p:=⟨g,o+1,none⟩) hK _).setCell (p:=⟨g,o+2,none⟩) hK _).setCell (p:=⟨g,o+3,none⟩) hK _
theorem G8 (W:World) (g o:Nat) (x:RV) (b:Nat) (h:b≠g):(dA W g o x).heap[b]?=W.heap[b]?:=by
 unfold dA;rw [Below.heap_setCell _ _ _ b h,Below.heap_setCell _ _ _ b h,Below.heap_setCell _ _ _ b h,Below.heap_setCell _ _ _ b h]
def jE (g:Nat) (y:RV):Prop:=0<y.dn->∀ g' o',y.da=some ⟨g',o',none⟩->g'≠g
theorem pS {ys:List RV} {k:Nat} (h:k<ys.length):rv ys k∈ys:=by simp [rv,h]
theorem G9 {ys qs:List RV} (hl:ys.length=qs.length) (h:∀ j,j<qs.length->(rv ys j).pod=(rv qs j).pod/\(rv ys j).cont=(rv qs j).cont) (ho:jD qs):jD ys:=by
 unfold jD at *;rw [List.pairwise_iff_getElem] at *;intro i j hi hj hij;have h1:=ho i j (by omega) (by omega) hij;have e1:=h i (by omega);have e2:=h j (by omega);have hi':i<qs.length:=by omega
 have hj':j<qs.length:=by omega
 simp [rv,hi,hj,hi',hj'] at e1 e2
 unfold cfR at *;rw [e1.1,e1.2,e2.1,e2.2];exact h1
theorem pT {w w':World} {y:RV} {g:Nat} (h:bn w y) (ha:jE g y) (hk:∀ b,b≠g->b<w.heap.size->w'.heap[b]?=w.heap[b]?) (hs:w.heap.size<=w'.heap.size):bn w' y/\aK w' y=aK w y:=by
 by_cases h0:0<y.dn
 ·exact lx h (λg' o' e hg=>hk g' (ha h0 g' o' e) hg) hs
 ·have e0:y.dn=0:=by omega
  exact ⟨λh1=>absurd h1 h0,by simp [aK,e0]⟩
theorem Ha {w w':World} {ys qs:List RV} (hl:ys.length=qs.length) (h:∀ j,j<qs.length->aC w' (rv ys j)=aC w (rv qs j)):ys.map (aC w')=qs.map (aC w):=by
 apply List.ext_getElem
 ·simp [hl]
 ·intro i h1 h2;have hi:i<ys.length:=by simpa using h1
  have hi2:i<qs.length:=by omega
  have:=h i hi2
  simp [rv,hi,hi2] at this
  simpa using this
def Hb (w:World) (B:Nat) (l:Int) (d:Bool):Prop:=w.heap[B]?=some (.cells #[.bool false,.string ⟨#[]⟩,.bool false,.string ⟨#[]⟩,.bool false,.string ⟨#[]⟩,.bool false,.string ⟨#[]⟩,.slice none 0 0,.int .i64 l,.bool d] 146 (0,0))
def LF (B:Nat) (w w':World):Prop:=w.grownBy w' (some B)/\w'.heap.size=w.heap.size
def Hc (l:Int) (d:Bool):Int:=if d=true\/l=0 then l else if 0<l then l - 1 else l
def He (l:Int) (d:Bool):Bool:=decide (d=true\/l=0)
end
section
open RowKit Go.Maps
theorem aW.look2 {w:World} {B n:Nat} {xs:List RV} (h:aW w B n xs) (a b:ByteArray) (ha:a.size<=7000) (hb:b.size<=7000) :
  ∃ y:RV,∀ W:World,W.heap[B]?=w.heap[B]?->(Instr.lookup 147 (.map (some B)) (fK a b) true).run Tryz.prog W=.ok (.tuple #[y.val,.bool (xs.any λx=>decide (x.pod=a/\x.cont=b))]) W:=by
 obtain ⟨es,ho,he⟩:=h.2;have key:∀ W:World,W.heap[B]?=w.heap[B]?->∃ y:RV,(Instr.lookup 147 (.map (some B)) (fK a b) true).run Tryz.prog W=.ok (.tuple #[y.val,.bool (xs.any λx=>decide (x.pod=a/\x.cont=b))]) W/\(DataW.map es).atKey (dX a b) (.held (RV.val ⟨ByteArray.empty,ByteArray.empty,0,none,0,0⟩))=.held y.val:=by
  intro W hW;have ho2:W.ownsMap Tryz.prog 166 jy B n (.map es):=by
   obtain ⟨ms,clock,hh,r⟩:=ho;exact ⟨ms,clock,hW.trans hh,r⟩
  obtain ⟨v,ps,hrun,hv⟩:=ho2.look_ok jz Tryz.underlying147 (Gd W) (pF _) (lm a b (gT ha) (gT hb));obtain ⟨y,rfl,hy⟩:=uP hv;refine ⟨y,by rw [<- h.has he ha hb];exact hrun,?_⟩;exact congrArg Prod.fst hy
 obtain ⟨y,_,hy⟩:=key w rfl;refine ⟨y,λW hW=>?_⟩;obtain ⟨y2,hr2,hy2⟩:=key W hW;rw [hy2] at hy
 have:y2=y:=RV.val_inj (by simpa using hy)
 rw [this] at hr2;exact hr2
theorem Hf (Bd:Nat) (w:World):Calls Tryz.prog 31 #[.pointer (some ⟨Bd,0,none⟩)] w λe w'=>e=.returned (.pointer (some ⟨w.heap.size+1,0,none⟩))/\ef w' (w.heap.size+1) Bd w.heap.size/\aW w' w.heap.size 0 []/\Below w.heap.size w w'/\w'.heap.size=w.heap.size+2:=by
 have hmm:=@run_makeMap Tryz.prog;have HM:=qI ((aW.made w).block (w':=(w.alloc (.map #[] 0)).alloc (.cells #[.pointer (some ⟨Bd,0,none⟩),.map (some w.heap.size)] 149)) (Below.heap_alloc _ _ _ (by simp)));have hE:=World.alloc_heap_new (w.alloc (.map #[] 0)) (.cells #[.pointer (some ⟨Bd,0,none⟩),.map (some w.heap.size)] 149);rw [World.size_alloc] at hE;have HE:=qI hE;clear hE
 go_enter Tryz.func31,Tryz.ntmps31
 go_wp2
 go_ret;exact ⟨by simp,HE.out,HM.out,((Q0 _ _).alloc (lR) _).alloc (by simp) _,by simp⟩
structure ba (B1 B2:Nat) (w w':World):Prop where
 os:w'.os=w.os
 tape:w'.tape=w.tape
 output:w'.output=w.output
 size:w.heap.size<=w'.heap.size
 block:∀ k,k<w.heap.size->k≠B1->k≠B2->w'.heap[k]?=w.heap[k]?
theorem ba.refl (B1 B2:Nat) (w:World):ba B1 B2 w w:=⟨rfl,rfl,rfl,lR,λ_ _ _ _=>rfl⟩
theorem ba.trans {B1 B2:Nat} {a b c:World} (h:ba B1 B2 a b) (k:ba B1 B2 b c):ba B1 B2 a c:=
 ⟨k.os.trans h.os,k.tape.trans h.tape,k.output.trans h.output,Q5 h.size k.size,λi hi h1 h2=>(k.block i (Q1 hi h.size) h1 h2).trans (h.block i hi h1 h2)⟩
theorem ba.of_below {B1 B2:Nat} {w w':World} (h:Below w.heap.size w w'):ba B1 B2 w w':=⟨h.os,h.tape,h.output,h.size,λk hk _ _=>h.block k hk⟩
theorem ba.of_grown {B1 B2 b:Nat} {w w':World} (h:w.grownBy w' (some b)) (hb:b=B1\/b=B2):ba B1 B2 w w':=⟨h.os,h.tape,h.output,h.size,λk hk h1 h2=>h.block k hk (λe=>by cases e;rcases hb with rfl|rfl <;> contradiction)⟩
theorem ba.kint {B1 B2:Nat} {w w':World} (h:ba B1 B2 w w') (h1:∀ (arr:Array Value) (z:Nat × Nat),w.heap[B1]?≠some (Obj.cells arr 3 z)) (h2:∀ (arr:Array Value) (z:Nat × Nat),w.heap[B2]?≠some (Obj.cells arr 3 z)):cB w w':=
 ⟨h.size,λk arr z hk=>h.block k (gS hk).1 (λe=>by subst e;exact h1 arr z hk) (λe=>by subst e;exact h2 arr z hk)⟩
theorem aW.isMap {w:World} {B n:Nat} {xs:List RV} (h:aW w B n xs):∃ es clock,w.heap[B]?=some (.map es clock):=by
 obtain ⟨_,es,⟨ms,clock,hh,_⟩,_⟩:=h;exact ⟨ms,clock,hh⟩
theorem aW.notInt {w:World} {B n:Nat} {xs:List RV} (h:aW w B n xs):∀ (arr:Array Value) (z:Nat × Nat),w.heap[B]?≠some (Obj.cells arr 3 z):=λarr z e=>by
 obtain ⟨ms,clock,hh⟩:=h.isMap;rw [hh] at e;cases e
structure Started (w w':World) (Bd Bm n:Nat) (xs:List RV) (x:RV) (l:Int) (d:Bool) (f:Nat):Prop where
 disk:Hb w' Bd (Hc l d) (He l d)
 out:ba Bd Bm w w'
 no:f≠0->aW w' Bm n xs
 yes:f=0->∃ a c,aW w' Bm (n+1) ({ x with da:=a,dc:=c } :: xs)/\ee w' { x with da:=a,dc:=c }/\aK w' { x with da:=a,dc:=c }=aK w x
theorem eX {w w':World} {row:Option Nat} (hg:w.grownBy w' row) (a:Addr) (h:a.block<w.heap.size) (hne:some a.block≠row):w'.cell? a=w.cell? a:=Q6 (hg.block _ h hne)
theorem vq {o:Oper} {a:Act} {N:Act->World->Prop} {Q:Exit->Act->World->Prop} (w:World) (m x v:Operand) (hop:o.op=Op.mapUpdate 147 m x v)
  (B n:Nat) (xs:List RV) (y:RV) (hm:a.eval m=.map (some B)) (hx:a.eval x=.agg #[.string y.pod,.string y.cont]) (hv:a.eval v=.agg #[.string y.pod,.string y.cont,.int .u64 y.cpus,.slice y.da y.dn y.dc]) (hM:aW w B n xs) (hy:y.Short) (hn:n<1000) (hno:(xs.any λz=>decide (z.pod=y.pod/\z.cont=y.cont))=false)
  (hK:∀ w',aW w' B (n+1) (y :: xs)->w.grownBy w' (some B)->w'.heap.size=w.heap.size->N (a.put o.dst undef) w') :
  o.wp Tryz.prog a w N Q:=by
 obtain ⟨w',hrun,r1,r2,r3⟩:=hM.put y hy hn hno;unfold fK RV.val at hrun;unfold Oper.wp
 simp [execOp,hop,hm,hx,hv,hrun,Result.andThen]
 exact hK w' r1 r2 r3
end
section
open RowKit
end
