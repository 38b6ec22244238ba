import Derived.Test.YtbmmnflgnmjboaaGreatDoorR16
import Derived.Test.YtbmmnflgnmjboaaGreatDoorR17
set_option maxRecDepth 100000
set_option maxHeartbeats 16000000
open Go.Proofs.Tryz
namespace Go.Proofs.YtbmmnflgnmjboaaGreatDoor
section
open RowKit
open Qos (aU ltS orI)
theorem a6 {B:Nat} {a w:World} (h:Below B a w):Below B a w.drew:=⟨h.os,h.tape,h.output,h.size,h.block⟩
theorem JH (a b:ByteArray):(a.toList == b.toList)=decide (a=b):=by
 rw [Bool.eq_iff_iff,beq_iff_eq,decide_eq_true_iff,Qs,Qs];exact ⟨λh=>ByteArray.ext (Array.toList_inj.mp h),λh=>by rw [h]⟩
theorem lu (x:ByteArray) (w:World):Calls prog 123 #[.string x] w λe w'=>e=.returned (.bool false)/\w'=w:=by
 go_enter func123,ntmps123
 go_wp2
 go_ret;exact ⟨by simp,rfl⟩
theorem rU (x y:ByteArray) (w:World):Calls prog 77 #[.string x,.string y] w λe w'=>e=.returned (.int .i64 (aU x y))/\w'=w:=by
 have HT:Hid (aU x y=if ltS x y=true then -1 else if ltS y x=true then 1 else 0):=rfl;have Ha:=qI (Qos.rM x y);have Hc:=qI (Qos.mQ x y);generalize aU x y=T at *
 rcases two (ltS x y) with h1|h1
 ·have HE:=qI (HT.out.trans (if_pos h1));have He:Op.bytesLess x.toList y.toList=true:=h1;clear HT h1 Ha Hc
  go_enter func77,ntmps77
  go_wp2_with fail
  refine (lu _ _).mono ?_;rintro e w1 ⟨rfl,rfl⟩
  go_wp2_with fail
  refine (lu _ _).mono ?_;rintro e w1 ⟨rfl,rfl⟩
  go_wp2
  go_ret;exact ⟨by rw [HE.out];rfl,rfl⟩
 ·have Hb:=qI (HT.out.trans (if_neg (by rw [h1];decide)));have He:Op.bytesLess x.toList y.toList=false:=h1
  rcases two (ltS y x) with h2|h2
  ·have HE:=qI (Hb.out.trans (if_pos h2));have Hg:(x.toList == y.toList)=false:=by
    rw [JH];refine Q7 λe=>?_
    subst e;rw [h1] at h2;cases h2
   clear HT Hb h1 h2 Ha Hc
   go_enter func77,ntmps77
   go_wp2_with fail
   refine (lu _ _).mono ?_;rintro e w1 ⟨rfl,rfl⟩
   go_wp2_with fail
   refine (lu _ _).mono ?_;rintro e w1 ⟨rfl,rfl⟩
   go_wp2
   go_ret;exact ⟨by rw [HE.out];rfl,rfl⟩
  ·have HE:=qI (Hb.out.trans (if_neg (by rw [h2];decide)));have Hf:x=y:=Ha.out (by rw [h1];rfl) (by rw [h2];rfl);subst Hf;clear HT Hb h1 h2 Ha Hc
   go_enter func77,ntmps77
   go_wp2_with fail
   refine (lu _ _).mono ?_;rintro e w1 ⟨rfl,rfl⟩
   go_wp2_with fail
   refine (lu _ _).mono ?_;rintro e w1 ⟨rfl,rfl⟩
   go_wp2
   go_ret;exact ⟨by rw [HE.out];rfl,rfl⟩
theorem JI (a b:Int) (g n:Nat) (w:World) (h0:w.cell? ⟨g,0,none⟩=some (.int .i64 a)) (h1:w.cell? ⟨g,1,none⟩=some (.int .i64 b)) :
  Calls prog 76 #[.slice (some ⟨g,0,none⟩) 2 n] w λe w'=>e=.returned (.int .i64 (orI a b))/\w'=w:=by
 have HO:Hid (∀ k:Nat,k<2->∃ v:Int,w.cell? ⟨g,k,none⟩=some (.int .i64 v)/\(v=if k=0 then a else b)):=by
  intro k hk
  have:k=0\/k=1:=by omega
  rcases this with rfl|rfl
  ·exact ⟨a,h0,rfl⟩
  ·exact ⟨b,h1,rfl⟩
 clear h0 h1
 go_enter func76,ntmps76
 go_wp2_with fail
 go_loop [8] (λi=>∃ k:Nat,k<=2/\i=.int .i64 k/\Hid ((0<k->a=0)/\(1<k->b=0))) (λi=>2 - (intOf i).toNat)
 case atStart=>exact ⟨0,by omega,rfl,⟨λh=>by omega,λh=>by omega⟩⟩
 case round=>
  obtain ⟨k,hk,rfl,HZ⟩:=hrel
  by_cases hlt:k<2
  ·obtain ⟨v,hc,hv⟩:=HO.out k hlt;have HV:=qI hv;clear hv
   by_cases h0:v=0
   ·subst h0;have Hb:Hid ((0<k+1->a=0)/\(1<k+1->b=0)):=by
     obtain ⟨z0,z1⟩:=HZ.out;have hv:=HV.out
     have:k=0\/k=1:=by omega
     rcases this with rfl|rfl
     ·simp at hv;exact ⟨λ_=>hv.symm,λh=>by omega⟩
     ·simp at hv;exact ⟨λ_=>z0 (by omega),λ_=>hv.symm⟩
    go_wp2_with fail
    go_round
    case rel=>exact ⟨k+1,by omega,by go_num,Hb⟩
    case measure=>simp [intOf];omega
   ·have HE:Hid (orI a b=v):=by
     obtain ⟨z0,z1⟩:=HZ.out;have hv:=HV.out
     have:k=0\/k=1:=by omega
     unfold Hid orI
     rcases this with rfl|rfl
     ·simp at hv;subst hv;rw [if_neg h0]
     ·simp at hv;subst hv;rw [if_pos (z0 (by omega))]
    have hb:(v != 0)=true:=by simp [h0]
    go_wp2
    go_ret;exact ⟨by rw [HE.out];rfl,rfl⟩
  ·have Ha:k=2:=by omega
   subst Ha;have HE:Hid (orI a b=0):=by
    obtain ⟨z0,z1⟩:=HZ.out;unfold Hid orI;rw [if_pos (z0 (by omega)),z1 (by omega)]
   go_wp2
   go_ret;exact ⟨by rw [HE.out];rfl,rfl⟩
def bl (W:World) (B:Nat) (x:RV):Prop:=W.heap[B]?=some (.cells #[.string x.pod,.string x.cont,.int .u64 x.cpus,.slice x.da x.dn x.dc] 111 (0,0))
theorem bl.lt {W:World} {B:Nat} {x:RV} (h:bl W B x):B<W.heap.size:=(gS h).1
theorem bl.cells {W:World} {B:Nat} {x:RV} (h:bl W B x):W.cell? ⟨B,0,none⟩=some (.string x.pod)/\W.cell? ⟨B,1,none⟩=some (.string x.cont)/\W.cell? ⟨B,2,none⟩=some (.int .u64 x.cpus)/\W.cell? ⟨B,3,none⟩=some (.slice x.da x.dn x.dc):=by
 refine ⟨?_,?_,?_,?_⟩ <;> simp [World.cell?,show W.heap[B]?=_ from h]
abbrev fI:=λ(x0:RV)=>(.cells #[.string x0.pod,.string x0.cont,.int .u64 x0.cpus,.slice x0.da x0.dn x0.dc] 111:Obj)
theorem bl.made (w:World) (x:RV):bl (w.alloc (fI x)) w.heap.size x:=World.alloc_heap_new w _
theorem bl.below {W W':World} {B:Nat} {x:RV} (h:bl W B x) (hb:Below W.heap.size W W'):bl W' B x:=(hb.block B h.lt).trans h
theorem bl.alloc {W:World} {B:Nat} {x:RV} (h:bl W B x) (o:Obj):bl (W.alloc o) B x:=h.below ((Q0 _ W).alloc (lR) o)
theorem JJ (w:World) (t:TypeId) (a b:Int):(w.alloc (.cells #[.int .i64 a,.int .i64 b] t)).cell? ⟨w.heap.size,0,none⟩=some (.int .i64 a)/\(w.alloc (.cells #[.int .i64 a,.int .i64 b] t)).cell? ⟨w.heap.size,1,none⟩=some (.int .i64 b):=⟨by simp,by simp⟩
theorem JK (x y:RV) (w:World):Calls prog 75 #[.agg #[.string x.pod,.string x.cont,.int .u64 x.cpus,.slice x.da x.dn x.dc],.agg #[.string y.pod,.string y.cont,.int .u64 y.cpus,.slice y.da y.dn y.dc]] w λe w'=>e=.returned (.int .i64 (orI (aU x.pod y.pod) (aU x.cont y.cont)))/\Below w.heap.size w w'/\w.drawn<=w'.drawn:=by
 have Hg:=((Q0 w.heap.size w).alloc (lR) (fI x)).alloc (by simp) (fI y);have Hf:=qI (a6 Hg);have HA:=qI (((bl.made w x).alloc (fI y)).below (a6 (Q0 _ _)));have hC:=(bl.made (w.alloc (fI x)) y).below (a6 (Q0 _ _));rw [show (w.alloc (fI x)).heap.size=w.heap.size+1 by simp] at hC;have HC:=qI hC;clear Hg hC
 go_enter func75,ntmps75
 go_wp2_with fail
 refine wp_region_held_drew (S:=(λw'=>(w'.cell? ⟨w.heap.size,0,none⟩=some (.string x.pod)/\w'.cell? ⟨w.heap.size,1,none⟩=some (.string x.cont))/\w'.cell? ⟨w.heap.size+1,0,none⟩=some (.string y.pod)/\w'.cell? ⟨w.heap.size+1,1,none⟩=some (.string y.cont))) (by kernel_rfl) ⟨⟨HA.out.cells.1,HA.out.cells.2.1⟩,HC.out.cells.1,HC.out.cells.2.1⟩ λhQ=>?_;refine tk 0 ?_;refine tk 1 ?_;refine tk 2 ?_;refine tk 3 ?_;refine tk 5 ?_;refine tk 6 ?_;refine tk 7 ?_;refine tk 8 ?_;refine rd 4 λK hK=>?_;go_simp
 go_wp2_with fail
 refine (rU _ _ _).mono ?_;rintro e wx ⟨rfl,rfl⟩
 go_wp2
 refine hK.out _ _ ⟨⟨HA.out.cells.1,HA.out.cells.2.1⟩,HC.out.cells.1,HC.out.cells.2.1⟩ λhQ=>?_;clear hK K;refine rd 9 λK hK=>?_;go_simp
 go_wp2_with fail
 refine (rU _ _ _).mono ?_;rintro e wx ⟨rfl,rfl⟩
 go_wp2
 refine hK.out _ _ ⟨⟨HA.out.cells.1,HA.out.cells.2.1⟩,HC.out.cells.1,HC.out.cells.2.1⟩ λhQ=>?_;clear hK K;have Ha:=qI (HA.out.alloc (.cells #[.int .i64 (aU x.pod y.pod),.int .i64 (aU x.cont y.cont)] 3));have Hb:=qI (HC.out.alloc (.cells #[.int .i64 (aU x.pod y.pod),.int .i64 (aU x.cont y.cont)] 3));have Hh:=qI (Hf.out.alloc Hf.out.size (.cells #[.int .i64 (aU x.pod y.pod),.int .i64 (aU x.cont y.cont)] 3));have Hc:=JJ (((w.alloc (fI x)).alloc (fI y)).drew) 3 (aU x.pod y.pod) (aU x.cont y.cont);rw [show (((w.alloc (fI x)).alloc (fI y)).drew).heap.size=w.heap.size+1+1 by simp [World.drew]] at Hc;have He:=qI Hc;clear Hc;refine rd 10 λK hK=>?_;go_simp
 go_wp2
 refine hK.out _ _ ⟨⟨Ha.out.cells.1,Ha.out.cells.2.1⟩,Hb.out.cells.1,Hb.out.cells.2.1⟩ λhQ=>?_;clear hK K;refine rd 11 λK hK=>?_;go_simp
 go_wp2_with fail
 refine (JI (aU x.pod y.pod) (aU x.cont y.cont) _ _ _ He.out.1 He.out.2).mono ?_;rintro e wx ⟨rfl,rfl⟩
 go_wp2
 refine hK.out _ _ ⟨⟨Ha.out.cells.1,Ha.out.cells.2.1⟩,Hb.out.cells.1,Hb.out.cells.2.1⟩ λhQ=>?_;clear hK K;refine tk 12 ?_;refine Qn (by kernel_rfl) ?_ _
 go_wp2
 go_ret;exact ⟨rfl,Hh.out,Nat.le_succ _⟩
end
end Go.Proofs.YtbmmnflgnmjboaaGreatDoor
namespace Go.Proofs
open Go.Shelf
shelf_lay_g SlLaysF0.n6 Slsf 6 at Tryz 121 as Tryz.sortRL
end Go.Proofs
namespace Go.Proofs.YtbmmnflgnmjboaaGreatDoor
section
open RowKit
open Go.Sort (SWO PermIn SortedIn HoldsK flatK putRowK)
open Qos (aU ltS orI)
instance:Inhabited RV:=⟨⟨ByteArray.empty,ByteArray.empty,0,none,0,0⟩⟩
def cfR (x y:RV):Int:=orI (aU x.pod y.pod) (aU x.cont y.cont)
theorem rV (x y:RV):cfR x y<0↔(Qos.one (ltS x.pod y.pod)=1\/(Qos.one (ltS x.pod y.pod)=0/\Qos.one (ltS y.pod x.pod)=0/\Qos.one (ltS x.cont y.cont)=1)):=by
 unfold cfR orI aU Qos.one;have h1:=Qos.mQ x.pod y.pod;have h2:=Qos.mQ x.cont y.cont;unfold Qos.one at h1 h2;generalize ltS x.pod y.pod=a at *;generalize ltS y.pod x.pod=b at *;generalize ltS x.cont y.cont=c at *;generalize ltS y.cont x.cont=d at *;cases a <;> cases b <;> cases c <;> cases d <;> simp at *
theorem JL:SWO (ltOf cfR) where
 irrefl a:=by
  refine Q7 ?_;rw [rV]
  have:=Qos.oW a.pod
  have:=Qos.oW a.cont
  omega
 trans a b c h1 h2:=by
  have h1:=of_decide_eq_true h1;have h2:=of_decide_eq_true h2;refine Qc ?_;rw [rV] at *;have o1:=Qos.fH (ltS a.pod c.pod)
  rcases h1 with h1|⟨h1,Hc,Hf⟩
  ·rcases h2 with h2|⟨h2,Ha,He⟩
   ·exact .inl (Qos.mP _ _ _ h1 h2)
   ·rcases o1 with o1|o1
    ·have:=Qos.iT a.pod c.pod b.pod o1 Ha
     omega
    ·exact .inl o1
  ·rcases h2 with h2|⟨h2,Ha,He⟩
   ·rcases o1 with o1|o1
    ·have:=Qos.iT b.pod a.pod c.pod Hc o1
     omega
    ·exact .inl o1
   ·exact .inr ⟨Qos.iT _ _ _ h1 h2,Qos.iT _ _ _ Ha Hc,Qos.mP _ _ _ Hf He⟩
 ntrans a b c h1 h2:=by
  have h1:=of_decide_eq_false h1;have h2:=of_decide_eq_false h2;refine Q7 ?_;rw [rV] at *;have o1:=Qos.fH (ltS a.pod b.pod);have o2:=Qos.fH (ltS b.pod c.pod);have o3:=Qos.fH (ltS b.pod a.pod);have o4:=Qos.fH (ltS c.pod b.pod);have p1:=Qos.fH (ltS a.cont b.cont);have p2:=Qos.fH (ltS b.cont c.cont);have e1:Qos.one (ltS a.pod b.pod)=0:=by omega
  have e2:Qos.one (ltS b.pod c.pod)=0:=by omega
  rintro (h3|⟨h3,Hb,Hg⟩)
  ·have:=Qos.iT a.pod b.pod c.pod e1 e2
   omega
  ·have e3:Qos.one (ltS b.pod a.pod)=0:=Qos.iT b.pod c.pod a.pod e2 Hb;have e4:Qos.one (ltS c.pod b.pod)=0:=Qos.iT c.pod a.pod b.pod Hb e1
   have:=Qos.iT a.cont b.cont c.cont (by omega) (by omega)
   omega
theorem JM {w w':World} (hb:Below w.heap.size w w') (hd:w.drawn<=w'.drawn):∃ q os,w'=Go.Sort.grow (w.drewN q) os:=by
 refine ⟨w'.drawn - w.drawn,w'.heap.extract w.heap.size w'.heap.size,?_⟩;obtain ⟨h1,h2,h3,h4,h5⟩:=hb;have hh:w'.heap=w.heap++w'.heap.extract w.heap.size w'.heap.size:=by
  apply Array.ext_getElem?
  intro i
  by_cases hi:i<w.heap.size
  ·rw [Array.getElem?_append_left hi];exact h5 i hi
  ·rw [Array.getElem?_append_right (by omega),Array.getElem?_extract]
   by_cases hj:i<w'.heap.size
   ·rw [if_pos (by omega)]
    congr 1
    omega
   ·rw [if_neg (by omega)];exact Array.getElem?_eq_none (by omega)
 unfold Go.Sort.grow World.drewN;cases w';cases w;simp only at h1 h2 h3 hd hh;simp only [World.mk.injEq];exact ⟨hh,h2,by omega,h1,h3⟩
theorem yi (w:World) (blk off m:Nat) (dk:Array RV) (os:Array Obj):w.grownBy (sortWorldK RV.cells 4 w blk off m dk os) (some blk):=by
 refine ⟨rfl,rfl,rfl,?_,λj hj hne=>?_⟩
 ·simp [sortWorldK,Go.Sort.grow,putRowK,Go.Sort.putRow,Go.Sort.mapBlock,Go.Sort.ahead]
 ·have h2:blk≠j:=λe=>hne (by rw [e])
  simp [sortWorldK,Go.Sort.grow,putRowK,Go.Sort.putRow,Go.Sort.mapBlock,Go.Sort.ahead,Array.getElem?_append,Array.getElem_modify,hj,h2]
def gh (w:World) (g k:Nat) (x:RV):Prop:=
 (w.cell? ⟨g,k*4,none⟩=some (.string x.pod)/\w.cell? ⟨g,k*4+1,none⟩=some (.string x.cont)/\w.cell? ⟨g,k*4+2,none⟩=some (.int .u64 x.cpus)/\w.cell? ⟨g,k*4+3,none⟩=some (.slice x.da x.dn x.dc))/\
 (w.frozen? ⟨g,k*4,none⟩=false/\w.frozen? ⟨g,k*4+1,none⟩=false/\w.frozen? ⟨g,k*4+2,none⟩=false/\w.frozen? ⟨g,k*4+3,none⟩=false)
def rv (ys:List RV) (k:Nat):RV:=ys.getD k default
def iW (base:Nat) (w:World) (v:Value) (ys:List RV):Prop:=
 ∃ a c,v=.slice a ys.length c/\ys.length<=c/\(0<ys.length->∃ g,a=some ⟨g,0,none⟩/\base<=g/\g<w.heap.size/\∀ k,k<ys.length->gh w g k (rv ys k))
theorem yj (ys:List RV) (k:Nat) (hk:k<ys.length) (c:Nat) (hc:c<4):(ys.flatMap RV.cells)[k*4+c]?=(RV.cells (rv ys k))[c]?:=by
 induction ys generalizing k with
 | nil=>simp at hk
 | cons y l ih=>
  rw [List.flatMap_cons];cases k with
  | zero=>
   rw [List.getElem?_append_left (by simp [RV.cells];omega)]
   simp [rv]
  | succ k=>
   rw [List.getElem?_append_right (by simp [RV.cells];omega)];rw [show (k+1)*4+c - (RV.cells y).length=k*4+c by simp [RV.cells];omega];rw [ih k (by simpa using hk)]
   simp [rv]
theorem JN {w:World} {g k:Nat} {x:RV} (h:∀ c,c<4->∀ u,(RV.cells x)[c]?=some u->w.cell? ⟨g,k*4+c,none⟩=some u/\w.frozen? ⟨g,k*4+c,none⟩=false):gh w g k x:=by
 obtain ⟨a0,b0⟩:=h 0 (by omega) _ rfl;obtain ⟨a1,b1⟩:=h 1 (by omega) _ rfl;obtain ⟨a2,b2⟩:=h 2 (by omega) _ rfl;obtain ⟨a3,b3⟩:=h 3 (by omega) _ rfl;exact ⟨⟨a0,a1,a2,a3⟩,b0,b1,b2,b3⟩
theorem JO {base:Nat} {w:World} {v:Value} {ys:List RV} (h:bP base w v ys) (h0:0<ys.length):∃ g cap,v=.slice (some ⟨g,0,none⟩) ys.length cap/\ys.length<=cap/\base<=g/\g<w.heap.size/\HoldsK RV.cells 4 w g 0 ys.toArray:=by
 rcases h.2 with ⟨_,hn⟩|⟨g,cap,cur,hv,hb,hg,Ha,Hb,_,ht⟩
 ·omega
 ·refine ⟨g,cap,hv,Ha,hb,(gS hg).1,λj hj=>?_⟩;rw [Go.Sort.size_flatK] at hj;rw [Go.Sort.get_flatK _ _ _ _ hj];have hk:j / 4<ys.length:=by simp at hj;omega
  have hx:=yj ys (j / 4) hk (j % 4) (by omega);rw [show j / 4*4+j % 4=j by omega,<- ht,List.getElem?_take] at hx;have e:ys.toArray[j / 4]! = rv ys (j / 4):=by simp [rv,hk]
  have hl:j % 4<(RV.cells (rv ys (j / 4))).length:=by simp [RV.cells];omega
  rw [Qf hl] at hx
  split at hx
  ·have hc:cur[j]?=some ((RV.cells (rv ys (j / 4)))[j % 4]):=by simpa using hx
   rw [e,List.getElem!_eq_getElem?_getD,Qf hl];refine ⟨?_,?_⟩
   ·unfold World.cell?;rw [hg];simp [hc]
   ·unfold World.frozen?;rw [hg];simp
  ·cases hx
def kt (ys:List RV):Prop:=ys.Pairwise λx y=>¬ cfR y x<0
theorem JP (ys:List RV) (w:World) (v:Value) (K:Nat) (hrow:bP K w v ys) (hl:ys.length<=1000) :
  Calls prog 121 #[v,.func (.func 75) #[] #[]] w λe w'=>e=.returned (.tuple #[])/\(∃ qs,iW K w' v qs/\qs.Perm ys/\kt qs)/\Below K w w':=by
 by_cases h0:0<ys.length
 ·obtain ⟨g,cap,rfl,Hm,Hj,Hb,hH⟩:=JO hrow h0;have Hh:ys.toArray.size=ys.length:=by simp
  have eg:∀ args w,(callFunc 75 args).run prog w=.ok (.enter 75 args) w:=enters_of func75 (by kernel_rfl) rfl;have Hf:CmpLays prog 75 #[] RV.cells 4 cfR g 0 ys.toArray.size w:=by
   intro m os dk _ x y;exact (JK x y _).mono λe w' ⟨he,hb,hdr⟩=>⟨he,JM hb hdr⟩
  have h1:∀ x:RV,∀ v∈RV.cells x,v.oneCell'=true:=by
   intro x v hv
   simp [RV.cells] at hv
   rcases hv with rfl|rfl|rfl|rfl <;> rfl
  have He:=AnyQ.slices_SortFunc Tryz.sortRL 4 isAgg111 sizeOf111 RV.cells (λ_=>rfl) h1 cfR JL 75 #[] g 0 cap ys.toArray w eg Hf hH Hb (by simp;omega)
  change Calls prog 121 _ _ _ at He
  rw [Hh] at He;refine He.mono λe w' ⟨he,d',m,os,hp,hs,hw'⟩=>⟨he,?_,?_⟩
  ·have Hc:d'.size=ys.length:=by rw [hp.1,Hh]
   have Ha:=yi w g 0 m d' os;have Hi:HoldsK RV.cells 4 w' g 0 d':=by
    rw [hw'];exact Go.Sort.holdsK_grow _ _ _ _ _ _ _ (by simpa [putRowK,Go.Sort.putRow,Go.Sort.mapBlock,Go.Sort.ahead] using Hb) (Go.Sort.holdsK_putRowK _ _ _ _ _ ys.toArray _ (Go.Sort.holdsK_ahead _ _ _ _ _ _ _ hH) (by rw [hp.1]))
   refine ⟨d'.toList,⟨_,cap,by simp [Hc],by simp [Hc];exact Hm,λ_=>⟨g,rfl,Hj,?_,λk hk=>?_⟩⟩,?_,?_⟩
   ·rw [hw'];exact Q1 Hb Ha.size
   ·have Hg:k<d'.size:=by simpa using hk
    have e:d'[k]! = rv d'.toList k:=by rw [getElem!_pos d' k Hg];simp [rv,Hg]
    rw [<- e];refine JN λc hc u hu=>?_
    have h2:=Hi.cell (i:=k) (c:=c) (by omega) hc;rw [Qd] at h2;have e2:(RV.cells d'[k]!)[c]! = u:=by rw [List.getElem!_eq_getElem?_getD,hu];rfl
    rw [e2] at h2;exact h2
   ·have:=hp.2.2
    simp only [Array.toList_extract,List.extract_eq_take_drop,List.drop_zero,Nat.sub_zero] at this;rw [List.take_of_length_le (by simp [Hc]),List.take_of_length_le (by simp)] at this
    simpa using this
   ·unfold kt;rw [List.pairwise_iff_getElem];intro i j hi hj Hk;have Hn:i<d'.size:=by simpa using hi
    have Hl:j<d'.size:=by simpa using hj
    have:=hs i j (Nat.zero_le _) Hk (by omega)
    rw [getElem!_pos d' j Hl,getElem!_pos d' i Hn] at this;have h3:=of_decide_eq_false this
    simpa using h3
  ·rw [hw'];have Ha:=yi w g 0 m d' os;exact ⟨Ha.os,Ha.tape,Ha.output,Ha.size,λk hk=>Ha.block k (by omega) (λe=>by cases e;omega)⟩
 ·have e:ys=[]:=Qe (by omega);subst e;have hv:∃ p c,v=.slice p 0 c:=by
   rcases hrow.2 with ⟨hv,_⟩|⟨g,cap,cur,hv,_⟩
   ·exact ⟨none,0,hv⟩
   ·exact ⟨_,cap,hv⟩
  obtain ⟨p,c,rfl⟩:=hv;have He:=AnyF.slices_SortFunc_none (P:=prog) (ρ:=Tryz.sortRL_ren) { Tryz.sortRL with } p c (.func (.func 75) #[] #[]) w
  change Calls prog 121 _ _ _ at He
  exact He.mono λe w' ⟨he,hw'⟩=>⟨he,⟨[],⟨p,c,rfl,by simp,λh=>by simp at h⟩,List.Perm.refl _,List.Pairwise.nil⟩,by rw [hw'];exact Q0 _ _⟩
end
section
open RowKit
open Qos (aU ltS orI)
theorem JQ (Bm b nn:Nat) (xs:List RV) (w:World) (hm:w.cell? ⟨Bm,0,none⟩=some (.map (some b))) (hown:aZ w b nn xs) (hl:xs.length<=1000) :
  Calls prog 73 #[.func (.func 122) #[] #[.pointer (some ⟨Bm,0,none⟩)],.func (.func 75) #[] #[]] w λe w'=>(∃ v qs,e=.returned v/\iW w.heap.size w' v qs/\qs.Perm xs/\kt qs)/\Below w.heap.size w w':=by
 have HC:=qI (Jc Bm b nn xs w hm hown hl);clear hm hown
 go_enter func73,ntmps73
 go_wp2_with fail
 refine HC.out.mono ?_;rintro e w1 ⟨⟨v,ys,rfl,hp,hr⟩,hb⟩;have HS:=qI (JP ys w1 v w.heap.size hr (by rw [hp.length_eq];exact hl));have HP:=qI hp;have HB:=qI hb;obtain ⟨a,c,rfl,_⟩:=hr.slice;clear hr hp hb HC
 go_wp2_with fail
 refine HS.out.mono ?_;rintro e w2 ⟨rfl,⟨qs,hq,Hc,Ha⟩,Hb⟩;have HQ:=qI hq;have He:=qI (Hc.trans HP.out);have Hg:=qI Ha;have Hf:=qI (HB.out.trans Hb);clear hq Hc Ha Hb HS
 go_wp2
 go_ret;exact ⟨⟨_,qs,rfl,HQ.out,He.out,Hg.out⟩,Hf.out⟩
def iX (w:World) (x:RV) (k:Nat):Int:=match x.da with
 | some a=>match w.cell? (a.add k) with
  | some (.int _ n)=>n
  | _=>0
 | none=>0
def aG (w:World) (x:RV):List Int:=(List.range x.dn).map (iX w x)
def aS (w:World) (x:RV):Prop:=0<x.dn->∃ g o,x.da=some ⟨g,o,none⟩/\g<w.heap.size/\∀ k,k<x.dn->w.cell? ⟨g,o+k,none⟩=some (.int .i64 (iX w x k))
theorem o5 {w w':World} {x:RV} (h:aS w x) (hk:∀ g o,x.da=some ⟨g,o,none⟩->g<w.heap.size->w'.heap[g]?=w.heap[g]?) (hs:w.heap.size<=w'.heap.size):aS w' x/\aG w' x=aG w x:=by
 by_cases h0:0<x.dn
 ·obtain ⟨g,o,ha,hg,hc⟩:=h h0;have hh:=hk g o ha hg;have hd:∀ k,iX w' x k=iX w x k:=λk=>by
   unfold iX;rw [ha]
   simp only
   rw [World.cell?_of_block (w:=w) (w':=w') (a:=(⟨g,o,none⟩:Addr).add k) (by rw [Addr.add_lit];exact hh)]
  refine ⟨λ_=>⟨g,o,ha,Q1 hg hs,λk hk'=>?_⟩,?_⟩
  ·rw [hd,<- hc k hk'];exact World.cell?_of_block (a:=⟨g,o+k,none⟩) hh
  ·unfold aG;refine List.map_congr_left λk _=>hd k
 ·refine ⟨λh1=>absurd h1 h0,?_⟩
  have:x.dn=0:=by omega
  simp [aG,this]
theorem aS.below {w w':World} {x:RV} (h:aS w x) {K:Nat} (hb:Below K w w') (hK:∀ g o,x.da=some ⟨g,o,none⟩->g<w.heap.size->g<K):aS w' x/\aG w' x=aG w x:=
 o5 h (λg o e hg=>hb.block g (hK g o e hg)) hb.size
structure Rn where
 pod:ByteArray
 cont:ByteArray
 cpus:Int
 devs:List Int
def aj (w:World) (x:RV):Rn:=⟨x.pod,x.cont,x.cpus,aG w x⟩
def fk (w:World) (x:RV):Prop:=aS w x/\(0<x.dn->∃ g arr z,x.da=some ⟨g,0,none⟩/\w.heap[g]?=some (.cells arr 3 z))
def cE (w w':World):Prop:=w.heap.size<=w'.heap.size/\∀ (k:Nat) (arr:Array Value) (z:Nat × Nat),w.heap[k]?=some (Obj.cells arr 3 z)->w'.heap[k]?=w.heap[k]?
theorem cE.trans {a b c:World} (h:cE a b) (k:cE b c):cE a c:=⟨Q5 h.1 k.1,λi arr z hi=>by
 have h1:=h.2 i arr z hi;rw [hi] at h1;exact (k.2 i arr z h1).trans (h1.trans hi.symm)⟩
theorem cE.below {w w':World} (h:Below w.heap.size w w'):cE w w':=⟨h.size,λk _ _ hk=>h.block k (gS hk).1⟩
theorem cE.grown {w w':World} {b:Nat} (h:w.grownBy w' (some b)) (hb:∀ (arr:Array Value) (z:Nat × Nat),w.heap[b]?≠some (Obj.cells arr 3 z)):cE w w':=
 ⟨h.size,λk arr z hk=>h.block k (gS hk).1 (λe=>by cases e;exact hb arr z hk)⟩
theorem fk.kept {w w':World} {x:RV} (h:fk w x) (hk:cE w w'):fk w' x/\aG w' x=aG w x:=by
 by_cases h0:0<x.dn
 ·obtain ⟨g,arr,z,ha,hg⟩:=h.2 h0;have hh:=hk.2 g arr z hg;obtain ⟨h1,h2⟩:=o5 (w':=w') h.1 (λg' o' e _=>by rw [ha] at e;cases e;exact hh) hk.1;exact ⟨⟨h1,λ_=>⟨g,arr,z,ha,hh.trans hg⟩⟩,h2⟩
 ·obtain ⟨h1,h2⟩:aS w' x/\aG w' x=aG w x:=⟨λh1=>absurd h1 h0,by (have e0:x.dn=0:=(by omega));simp [aG,e0]⟩;exact ⟨⟨h1,λh1=>absurd h1 h0⟩,h2⟩
def fl (l:List Int):List Value:=l.map (Value.int .i64)
theorem JR:(prog.info? 3).map (λi=>(i.zero,i.size,i.bytes))=some (some (.int .i64 0),1,8):=by kernel_rfl
theorem yl (ao:Option Addr) (n c:Nat) (w:World):Sem.run prog (binOp BinOp.eql 44 (.slice ao n c) (.slice none 0 0)) w=.ok (.bool ao.isNone) w:=Lib.run_eql_slice_nil w _ _ ao n c 0 0 underlying44
theorem JS (w:World) (x:RV):(aG w x).length=x.dn:=by simp [aG]
def ip (K:Nat) (x:RV):Prop:=0<x.dn->∃ g,x.da=some ⟨g,0,none⟩/\K<=g
theorem JT {w:World} {base:Nat} {v:Value} {x:RV} {l:List Int} (hl:l.length=x.dn) (h:w.ownsRow base 3 1 v l.length (fl l)):∃ a c,v=.slice a x.dn c/\fk w { x with da:=a,dc:=c }/\aG w { x with da:=a,dc:=c }=l/\ip base { x with da:=a,dc:=c }:=by
 rcases h.2 with ⟨hv,hn⟩|⟨g,cap,cur,hv,hb,hg,Hc,He,_,ht⟩
 ·have h0:x.dn=0:=by omega
  refine ⟨none,0,by rw [hv,h0],⟨λh1=>?_,λh1=>?_⟩,?_,λh1=>?_⟩
  ·simp only at h1;omega
  ·simp only at h1;omega
  ·have:l=[]:=Qe (by omega)
   subst this
   simp [aG,h0]
  ·simp only at h1;omega
 ·have Ha:g<w.heap.size:=(gS hg).1;have hc:∀ k,k<x.dn->w.cell? ⟨g,k,none⟩=some (.int .i64 (l.getD k 0)):=λk hk=>by
   have hx:(fl l)[k]?=some (.int .i64 (l.getD k 0)):=by
    have:k<l.length:=by omega
    simp [fl,this]
   rw [<- ht,List.getElem?_take] at hx
   split at hx
   ·have Hb:cur[k]?=some (.int .i64 (l.getD k 0)):=by simpa using hx
    unfold World.cell?
    rw [hg]
    simp only
    exact Hb
   ·cases hx
  have hd:∀ k,k<x.dn->iX w { x with da:=some ⟨g,0,none⟩,dc:=cap } k=l.getD k 0:=λk hk=>by
   unfold iX
   simp only
   rw [Addr.add_lit,Qd,hc k hk]
  refine ⟨some ⟨g,0,none⟩,cap,by rw [hv,hl],⟨λ_=>⟨g,0,rfl,Ha,λk hk=>?_⟩,λ_=>⟨g,cur,_,rfl,hg⟩⟩,?_,λ_=>⟨g,rfl,hb⟩⟩
  ·rw [Qd,hc k hk,hd k hk]
  ·unfold aG;apply List.ext_getElem
   ·simp [hl]
   ·intro i h1 h2;have hi:i<x.dn:=by simpa using h1
    simp only [List.getElem_map,List.getElem_range];rw [hd i hi]
    simp [h2]
theorem JU (a:Addr) (c:Nat) (l:List Int) (w:World) (hc:∀ j u,(fl l)[j]?=some u->w.cell? (a.add j)=some u) (hl:l.length<=1000) :
  Calls prog 82 #[.slice (some a) l.length c] w λe w'=>∃ v,e=.returned v/\w'.ownsRow w.heap.size 3 1 v l.length (fl l)/\Below w.heap.size w w':=by
 obtain ⟨i0,hi,Hf,Hh,Hi⟩:=info_parts JR;have h1:∀ u∈fl l,u.oneCell'=true:=by
  intro u hu
  simp [fl] at hu
  obtain ⟨n,_,rfl⟩:=hu;rfl
 have HB:=qI ((Q0 w.heap.size w).alloc (lR) (.cells #[] 3));have HC:Hid (∀ j u,(fl l)[j]?=some u->(w.alloc (.cells #[] 3)).cell? (a.add j)=some u):=λj u hj=>Lib.cell?_alloc_some _ (hc j u hj)
 have He:=yl (some a) l.length c w;have Hc:(fl l).length=l.length:=by simp [fl]
 clear hc
 go_enter func82,ntmps82
 go_wp2_with (at_builtin;(refine wpList_append_own _ rfl _ _ 44 rfl w.heap.size 3 i0 (.int .i64 0) 1 8 underlying44 hi Hf Hh Hi rfl (by decide) _ _ _ rfl (World.ownsRow_lit w #[] 0 (lR) (Nat.zero_le _) rfl) a l.length c (fl l) rfl (by rw [Hc,Nat.mul_one]) HC.out h1 (by unfold maxLen;omega) (by omega) (by simp) ?_);intro v' w1 Hb Ha _)
 have Hg:=qI (HB.out.grown Ha (by simp) (λj hj=>by cases hj;exact lR));rw [Qd] at Hb;have hD:Hid (w1.ownsRow w.heap.size 3 1 v' l.length (fl l)):=by simpa [Hid] using Hb
 clear Hb Ha
 go_wp2
 go_ret;exact ⟨_,rfl,hD.out,Hg.out⟩
theorem JV (x:RV) (w:World) (h:aS w x) (hn:x.dn<=1000) :
  Calls prog 82 #[.slice x.da x.dn x.dc] w λe w'=>∃ a c,e=.returned (.slice a x.dn c)/\fk w' { x with da:=a,dc:=c }/\aG w' { x with da:=a,dc:=c }=aG w x/\ip w.heap.size { x with da:=a,dc:=c }/\Below w.heap.size w w':=by
 have Ha:=JS w x
 rcases hda:x.da with _|a
 ·have h0:x.dn=0:=by
   rcases Nat.eq_zero_or_pos x.dn with e|e
   ·exact e
   ·obtain ⟨g,o,ha,_⟩:=h e;rw [hda] at ha;cases ha
  have He:=yl none 0 x.dc w;rw [h0]
  go_enter func82,ntmps82
  go_wp2
  go_ret;exact ⟨none,0,rfl,⟨λh1=>by simp only at h1;omega,λh1=>by simp only at h1;omega⟩,by simp [aG,h0],λh1=>by simp only at h1;omega,Q0 _ _⟩
 ·have hc:=JU a x.dc (aG w x) w (λj u hj=>by
   have Hb:j<x.dn:=by
    have:=(List.getElem?_eq_some_iff.1 hj).1
    simp [fl,Ha] at this
    exact this
   obtain ⟨g,o,ha,_,Hc⟩:=h (by omega);rw [hda] at ha;cases ha;rw [Addr.add_lit,Hc j Hb,<- hj]
   simp [fl,aG,Hb]) (by omega)
  rw [Ha] at hc;refine hc.mono λe w' ⟨v,he,ho,hb⟩=>?_
  obtain ⟨a',c',rfl,h1,h2,h3⟩:=JT (x:=x) Ha (by rw [Ha];exact ho);exact ⟨a',c',he,h1,h2,h3,hb⟩
end
section
open RowKit
theorem mX (W:World) (b j:Nat) (v:Value):W.grownBy (W.setCell ⟨b,j,none⟩ v) (some b):=
 ⟨rfl,rfl,rfl,by simp,λk _ hk=>Below.heap_setCell _ _ _ k λe=>hk (by rw [e])⟩
theorem bl.set0 {W:World} {B:Nat} {x:RV} (h:bl W B x) (s:ByteArray):bl (W.setCell ⟨B,0,none⟩ (.string s)) B { x with pod:=s }:=by
 obtain ⟨hlt,hk⟩:=gS h
 show (W.heap.modify B _)[B]?=_
 rw [Array.getElem?_eq_getElem (by rw [Array.size_modify];exact hlt),Array.getElem_modify_self,hk];rfl
theorem bl.set1 {W:World} {B:Nat} {x:RV} (h:bl W B x) (s:ByteArray):bl (W.setCell ⟨B,1,none⟩ (.string s)) B { x with cont:=s }:=by
 obtain ⟨hlt,hk⟩:=gS h
 show (W.heap.modify B _)[B]?=_
 rw [Array.getElem?_eq_getElem (by rw [Array.size_modify];exact hlt),Array.getElem_modify_self,hk];rfl
theorem bl.set2 {W:World} {B:Nat} {x:RV} (h:bl W B x) (n:Int):bl (W.setCell ⟨B,2,none⟩ (.int .u64 n)) B { x with cpus:=n }:=by
 obtain ⟨hlt,hk⟩:=gS h
 show (W.heap.modify B _)[B]?=_
 rw [Array.getElem?_eq_getElem (by rw [Array.size_modify];exact hlt),Array.getElem_modify_self,hk];rfl
theorem bl.set3 {W:World} {B:Nat} {x:RV} (h:bl W B x) (a:Option Addr) (n c:Nat):bl (W.setCell ⟨B,3,none⟩ (.slice a n c)) B { x with da:=a,dn:=n,dc:=c }:=by
 obtain ⟨Ha,hk⟩:=gS h
 show (W.heap.modify B _)[B]?=_
 rw [Array.getElem?_eq_getElem (by rw [Array.size_modify];exact Ha),Array.getElem_modify_self,hk];rfl
theorem bl.frozen {W:World} {B:Nat} {x:RV} (h:bl W B x) (j:Nat):W.frozen? ⟨B,j,none⟩=false:=by simp [World.frozen?,show W.heap[B]?=_ from h]
theorem bl.far {W:World} {B:Nat} {x:RV} (h:bl W B x) (g j:Nat) (v:Value) (hne:B≠g):bl (W.setCell ⟨g,j,none⟩ v) B x:=(Below.heap_setCell W ⟨g,j,none⟩ v B hne).trans h
theorem bl.notInt {W:World} {B:Nat} {x:RV} (h:bl W B x):∀ (arr:Array Value) (z:Nat × Nat),W.heap[B]?≠some (Obj.cells arr 3 z):=λarr z e=>by
 have:=(show W.heap[B]?=_ from h).symm.trans e
 simp at this
theorem JW {fn:Func} {p:Tmp} {ty:TypeId} (h:fn.results=#[.cell p ty]) (tmps:Array Value) (P:Program) (w:World) :
  (results fn tmps).run P w=((asAddr (tmps.getD p undef)).run P w).andThen λa w₁=>(loadVar ty a).run P w₁:=by
 simp only [results,h]
 simp [Sem.run_bind,Result.andThen]
def fill (W:World) (B:Nat) (x:RV):World:=(((W.setCell ⟨B,0,none⟩ (.string x.pod)).setCell ⟨B,1,none⟩ (.string x.cont)).setCell ⟨B,2,none⟩ (.int .u64 x.cpus)).setCell ⟨B,3,none⟩ (.slice x.da x.dn x.dc)
theorem bl.fill {W:World} {B:Nat} {z:RV} (h:bl W B z) (x:RV):bl (fill W B x) B x:=(((h.set0 x.pod).set1 x.cont).set2 x.cpus).set3 x.da x.dn x.dc
theorem cE.fill {W:World} {B:Nat} {z:RV} (h:bl W B z) (x:RV):cE W (fill W B x):=by
 have h0:=h.set0 x.pod;have h1:=h0.set1 x.cont;have h2:=h1.set2 x.cpus;exact (((cE.grown (mX W B 0 _) h.notInt).trans (cE.grown (mX _ B 1 _) h0.notInt)).trans (cE.grown (mX _ B 2 _) h1.notInt)).trans (cE.grown (mX _ B 3 _) h2.notInt)
theorem JX {w W:World} {K B:Nat} (h:Below K w W) (hK:K<=B) (x:RV):Below K w (fill W B x):=
 (((h.setCell (p:=⟨B,0,none⟩) hK _).setCell (p:=⟨B,1,none⟩) hK _).setCell (p:=⟨B,2,none⟩) hK _).setCell (p:=⟨B,3,none⟩) hK _
abbrev rW:=(.cells #[.string ⟨#[]⟩,.string ⟨#[]⟩,.int .u64 0,.slice none 0 0] 111:Obj)
theorem rX (x:RV) (w:World) (h:aS w x) (hn:x.dn<=1000) :
  Calls prog 78 #[.agg #[.string x.pod,.string x.cont,.int .u64 x.cpus,.slice x.da x.dn x.dc]] w λe w'=>∃ a c,e=.returned (.agg #[.string x.pod,.string x.cont,.int .u64 x.cpus,.slice a x.dn c])/\fk w' { x with da:=a,dc:=c }/\aG w' { x with da:=a,dc:=c }=aG w x/\ip w.heap.size { x with da:=a,dc:=c }/\Below w.heap.size w w':=by
 have Hh:=(Q0 w.heap.size w).alloc (lR) (fI x);have Hi:=Hh.alloc Hh.size (rW);have Hc:=qI Hi;have HX:=qI ((bl.made w x).alloc (rW));have hZ:=bl.made (w.alloc (fI x)) ⟨⟨#[]⟩,⟨#[]⟩,0,none,0,0⟩;rw [World.size_alloc] at hZ;have HZ:=qI hZ;obtain ⟨Hu,Hx⟩:=h.below Hi λ_ _ _ hg=>hg;have Ho:=qI (JV x _ Hu hn);have Hk:=qI Hx;clear Hh Hi hZ Hu Hx
 go_enter func78,ntmps78
 go_wp2_with fail
 generalize (w.alloc (fI x)).alloc (rW)=W2 at *;refine Ho.out.mono ?_;rintro e w3 ⟨a,c,rfl,ho,Hr,Hy,He⟩;have Hq:=qI (show ip w.heap.size { x with da:=a,dc:=c } from λh0=>by
  obtain ⟨g,HC,HB⟩:=Hy h0;exact ⟨g,HC,Q5 Hc.out.size HB⟩)
 have Hb:=HX.out.below He;have Hl:=HZ.out.below He;have Hw:=qI (Hc.out.trans (He.mono Hc.out.size));have Ht:=qI ho;have Hm:=qI (Hr.trans Hk.out);have HA:=Hb.cells;obtain ⟨c0,c1,c2,c3⟩:=HA;have f3:=Hb.frozen 3;have Hg:=Hb.set3 a x.dn c;have Ha:=Hl.far w.heap.size 3 (.slice a x.dn c) (by omega);have Hp:=qI (cE.grown (mX w3 w.heap.size 3 (.slice a x.dn c)) Hb.notInt);have Hv:=qI (Hw.out.setCell (p:=⟨w.heap.size,3,none⟩) (lR) (.slice a x.dn c));clear Hr ho He Hy HX HZ Ho Hk Hb Hl;obtain ⟨d0,d1,d2,d3⟩:=Hg.cells;obtain ⟨z0,z1,z2,z3⟩:=Ha.cells;have g0:=Ha.frozen 0;have g1:=Ha.frozen 1;have g2:=Ha.frozen 2;have g3:=Ha.frozen 3;have HD:=qI Hg;have Hf:=qI Ha;clear Hg Ha
 go_wp2_with fail
 clear c0 c1 c2 c3 d0 d1 d2 d3 z0 z1 z2 z3 g0 g1 g2 g3 f3;have hF:=Hf.out.fill { x with da:=a,dc:=c };have Hs:=qI (cE.fill Hf.out { x with da:=a,dc:=c });have Hj:=qI (JX Hv.out (B:=w.heap.size+1) (by omega) { x with da:=a,dc:=c });obtain ⟨e0,e1,e2,e3⟩:=hF.cells;have HF:Hid (fill (w3.setCell ⟨w.heap.size,3,none⟩ (.slice a x.dn c)) (w.heap.size+1) { x with da:=a,dc:=c }=((((w3.setCell ⟨w.heap.size,3,none⟩ (.slice a x.dn c)).setCell ⟨w.heap.size+1,0,none⟩ (.string x.pod)).setCell ⟨w.heap.size+1,1,none⟩ (.string x.cont)).setCell ⟨w.heap.size+1,2,none⟩ (.int .u64 x.cpus)).setCell ⟨w.heap.size+1,3,none⟩ (.slice a x.dn c)):=rfl;rw [<- HF.out];clear hF;generalize fill (w3.setCell ⟨w.heap.size,3,none⟩ (.slice a x.dn c)) (w.heap.size+1) { x with da:=a,dc:=c }=W5 at *;obtain ⟨Hn,Hz⟩:=Ht.out.kept (Hp.out.trans Hs.out);refine bodyPost_ret (v:=.agg #[.string x.pod,.string x.cont,.int .u64 x.cpus,.slice a x.dn c]) ?_ rfl ⟨a,c,rfl,Hn,Hz.trans Hm.out,Hq.out,Hj.out⟩;rw [JW rfl];clear Hn Hz Ht Hq Hm Hj Hs Hp HF Hf HD Hv Hw Hc;go_simp
def et (w:World) (Be Bd Bm:Nat):Prop:=w.heap[Be]?=some (.cells #[.pointer (some ⟨Bd,0,none⟩),.map (some Bm)] 149 (0,0))
theorem et.lt {w:World} {Be Bd Bm:Nat} (h:et w Be Bd Bm):Be<w.heap.size:=(gS h).1
theorem et.cells {w:World} {Be Bd Bm:Nat} (h:et w Be Bd Bm):w.cell? ⟨Be,0,none⟩=some (.pointer (some ⟨Bd,0,none⟩))/\w.cell? ⟨Be,1,none⟩=some (.map (some Bm)):=by
 refine ⟨?_,?_⟩ <;> simp [World.cell?,show w.heap[Be]?=_ from h]
theorem et.block {w w':World} {Be Bd Bm:Nat} (h:et w Be Bd Bm) (hb:w'.heap[Be]?=w.heap[Be]?):et w' Be Bd Bm:=hb.trans h
def dJ (W:World) (g o:Nat) (x:RV):World:=(((W.setCell ⟨g,o,none⟩ (.string x.pod)).setCell ⟨g,o+1,none⟩ (.string x.cont)).setCell ⟨g,o+2,none⟩ (.int .u64 x.cpus)).setCell ⟨g,o+3,none⟩ (.slice x.da x.dn x.dc)
theorem o6 (W:World) (g o:Nat) (x:RV) (b p:Nat) (h:b≠g\/p<o\/o+3<p):(dJ W g o x).cell? ⟨b,p,none⟩=W.cell? ⟨b,p,none⟩:=by
 unfold dJ;rw [Qb _ _ _ _ (by simp;omega),Qb _ _ _ _ (by simp;omega),Qb _ _ _ _ (by simp;omega),Qb _ _ _ _ (by simp;omega)]
theorem jE (W:World) (g o:Nat) (x:RV) (a:Addr):(dJ W g o x).frozen? a=W.frozen? a:=by
 unfold dJ;simp only [World.frozen?_setCell]
def gi (w:World) (g:Nat) (ys:List RV):Prop:=∀ k,k<ys.length->gh w g k (rv ys k)
theorem JY {W:World} {g k:Nat} {z:RV} (h:gh W g k z) (x:RV):gh (dJ W g (k*4) x) g k x:=by
 obtain ⟨⟨c0,c1,c2,c3⟩,f0,f1,f2,f3⟩:=h;refine ⟨⟨?_,?_,?_,?_⟩,by rw [jE];exact f0,by rw [jE];exact f1,by rw [jE];exact f2,by rw [jE];exact f3⟩
 ·unfold dJ;rw [Qb _ _ _ _ (by simp),Qb _ _ _ _ (by simp),Qb _ _ _ _ (by simp),World.cell?_setCell_same' _ _ _ (by rw [c0];rfl)]
 ·unfold dJ;rw [Qb _ _ _ _ (by simp),Qb _ _ _ _ (by simp),World.cell?_setCell_same' _ _ _ (by rw [Qb _ _ _ _ (by simp),c1];rfl)]
 ·unfold dJ;rw [Qb _ _ _ _ (by simp),World.cell?_setCell_same' _ _ _ (by rw [Qb _ _ _ _ (by simp),Qb _ _ _ _ (by simp),c2];rfl)]
 ·unfold dJ;rw [World.cell?_setCell_same' _ _ _ (by rw [Qb _ _ _ _ (by simp),Qb _ _ _ _ (by simp),Qb _ _ _ _ (by simp),c3];rfl)]
theorem rY (ys:List RV) (k j:Nat) (x:RV) (hk:k<ys.length):rv (ys.set k x) j=if j=k then x else rv ys j:=by
 unfold rv
 by_cases e:j=k
 ·subst e;simp [hk]
 ·rw [if_neg e];simp [Ne.symm e]
theorem gi.set {W:World} {g k:Nat} {ys:List RV} (h:gi W g ys) (hk:k<ys.length) (x:RV):gi (dJ W g (k*4) x) g (ys.set k x):=λj hj=>by
 rw [rY ys k j x hk]
 by_cases e:j=k
 ·subst e;rw [if_pos rfl];exact JY (h j hk) x
 ·rw [if_neg e];obtain ⟨⟨c0,c1,c2,c3⟩,f0,f1,f2,f3⟩:=h j (by simpa using hj);exact ⟨⟨(o6 _ _ _ _ _ _ (by omega)).trans c0,(o6 _ _ _ _ _ _ (by omega)).trans c1,(o6 _ _ _ _ _ _ (by omega)).trans c2,(o6 _ _ _ _ _ _ (by omega)).trans c3⟩,by rw [jE];exact f0,by rw [jE];exact f1,by rw [jE];exact f2,by rw [jE];exact f3⟩
theorem gi.block {W W':World} {g:Nat} {ys:List RV} (h:gi W g ys) (hb:W'.heap[g]?=W.heap[g]?):gi W' g ys:=λk hk=>by
 obtain ⟨⟨c0,c1,c2,c3⟩,f0,f1,f2,f3⟩:=h k hk;exact ⟨⟨(World.cell?_of_block (a:=⟨g,k*4,none⟩) hb).trans c0,(World.cell?_of_block (a:=⟨g,k*4+1,none⟩) hb).trans c1,(World.cell?_of_block (a:=⟨g,k*4+2,none⟩) hb).trans c2,(World.cell?_of_block (a:=⟨g,k*4+3,none⟩) hb).trans c3⟩,(World.frozen?_of_block (a:=⟨g,k*4,none⟩) hb).trans f0,(World.frozen?_of_block (a:=⟨g,k*4+1,none⟩) hb).trans f1,(World.frozen?_of_block (a:=⟨g,k*4+2,none⟩) hb).trans f2,(World.frozen?_of_block (a:=⟨g,k*4+3,none⟩) hb).trans f3⟩
theorem JZ {w W:World} {K g:Nat} (h:Below K w W) (hK:K<=g) (o:Nat) (x:RV):Below K w (dJ W g o x):=
 (((h.setCell (p:=⟨g,o,none⟩) hK _).setCell (p:=⟨g,o+1,none⟩) hK _).setCell (p:=⟨g,o+2,none⟩) hK _).setCell (p:=⟨g,o+3,none⟩) hK _
theorem J0 (W:World) (g o:Nat) (x:RV) (b:Nat) (h:b≠g):(dJ W g o x).heap[b]?=W.heap[b]?:=by
 unfold dJ;rw [Below.heap_setCell _ _ _ b h,Below.heap_setCell _ _ _ b h,Below.heap_setCell _ _ _ b h,Below.heap_setCell _ _ _ b h]
def ku (g:Nat) (y:RV):Prop:=0<y.dn->∀ g' o',y.da=some ⟨g',o',none⟩->g'≠g
theorem kw {ys:List RV} {k:Nat} (h:k<ys.length):rv ys k∈ys:=by simp [rv,h]
theorem J1 {ys qs:List RV} (hl:ys.length=qs.length) (h:∀ j,j<qs.length->(rv ys j).pod=(rv qs j).pod/\(rv ys j).cont=(rv qs j).cont) (ho:kt qs):kt ys:=by
 unfold kt at *;rw [List.pairwise_iff_getElem] at *;intro i j hi hj Ha;have h1:=ho i j (by omega) (by omega) Ha;have e1:=h i (by omega);have e2:=h j (by omega);have Hb:i<qs.length:=by omega
 have Hc:j<qs.length:=by omega
 simp [rv,hi,hj,Hb,Hc] at e1 e2
 unfold cfR at *;rw [e1.1,e1.2,e2.1,e2.2];exact h1
theorem rZ {w w':World} {y:RV} {g:Nat} (h:aS w y) (ha:ku g y) (hk:∀ b,b≠g->b<w.heap.size->w'.heap[b]?=w.heap[b]?) (hs:w.heap.size<=w'.heap.size):aS w' y/\aG w' y=aG w y:=by
 by_cases h0:0<y.dn
 ·exact o5 h (λg' o' e hg=>hk g' (ha h0 g' o' e) hg) hs
 ·have e0:y.dn=0:=by omega
  exact ⟨λh1=>absurd h1 h0,by simp [aG,e0]⟩
theorem J2 {w w':World} {ys qs:List RV} (hl:ys.length=qs.length) (h:∀ j,j<qs.length->aj w' (rv ys j)=aj w (rv qs j)):ys.map (aj w')=qs.map (aj w):=by
 apply List.ext_getElem
 ·simp [hl]
 ·intro i h1 h2;have hi:i<ys.length:=by simpa using h1
  have Ha:i<qs.length:=by omega
  have:=h i Ha
  simp [rv,hi,Ha] at this
  simpa using this
def J3 (w:World) (B:Nat) (l:Int) (d:Bool):Prop:=w.heap[B]?=some (.cells #[.bool false,.string ⟨#[]⟩,.bool false,.string ⟨#[]⟩,.bool false,.string ⟨#[]⟩,.bool false,.string ⟨#[]⟩,.slice none 0 0,.int .i64 l,.bool d] 146 (0,0))
def NO (B:Nat) (w w':World):Prop:=w.grownBy w' (some B)/\w'.heap.size=w.heap.size
def J4 (l:Int) (d:Bool):Int:=if d=true\/l=0 then l else if 0<l then l - 1 else l
def J5 (l:Int) (d:Bool):Bool:=decide (d=true\/l=0)
end
section
open RowKit Go.Maps
theorem aZ.look2 {w:World} {B n:Nat} {xs:List RV} (h:aZ w B n xs) (a b:ByteArray) (ha:a.size<=7000) (hb:b.size<=7000) :
  ∃ y:RV,∀ W:World,W.heap[B]?=w.heap[B]?->(Instr.lookup 147 (.map (some B)) (fZ a b) true).run prog W=.ok (.tuple #[y.val,.bool (xs.any λx=>decide (x.pod=a/\x.cont=b))]) W:=by
 obtain ⟨es,ho,he⟩:=h.2;have key:∀ W:World,W.heap[B]?=w.heap[B]?->∃ y:RV,(Instr.lookup 147 (.map (some B)) (fZ a b) true).run prog W=.ok (.tuple #[y.val,.bool (xs.any λx=>decide (x.pod=a/\x.cont=b))]) W/\(DataW.map es).atKey (ep a b) (.held (RV.val ⟨ByteArray.empty,ByteArray.empty,0,none,0,0⟩))=.held y.val:=by
  intro W hW;have He:W.ownsMap prog 166 ko B n (.map es):=by
   obtain ⟨ms,clock,hh,r⟩:=ho;exact ⟨ms,clock,hW.trans hh,r⟩
  obtain ⟨v,ps,Ha,hv⟩:=He.look_ok kq underlying147 (I7 W) (rJ _) (mO a b (ik ha) (ik hb));obtain ⟨y,rfl,hy⟩:=xQ hv;refine ⟨y,by rw [<- h.has he ha hb];exact Ha,?_⟩;exact congrArg Prod.fst hy
 obtain ⟨y,_,hy⟩:=key w rfl;refine ⟨y,λW hW=>?_⟩;obtain ⟨y2,Hb,Hc⟩:=key W hW;rw [Hc] at hy
 have:y2=y:=RV.val_inj (by simpa using hy)
 rw [this] at Hb;exact Hb
theorem J6 (Bd:Nat) (w:World):Calls prog 31 #[.pointer (some ⟨Bd,0,none⟩)] w λe w'=>e=.returned (.pointer (some ⟨w.heap.size+1,0,none⟩))/\et w' (w.heap.size+1) Bd w.heap.size/\aZ w' w.heap.size 0 []/\Below w.heap.size w w'/\w'.heap.size=w.heap.size+2:=by
 have Ha:=@run_makeMap prog;have HM:=qI ((aZ.made w).block (w':=(w.alloc (.map #[] 0)).alloc (.cells #[.pointer (some ⟨Bd,0,none⟩),.map (some w.heap.size)] 149)) (Below.heap_alloc _ _ _ (by simp)));have hE:=World.alloc_heap_new (w.alloc (.map #[] 0)) (.cells #[.pointer (some ⟨Bd,0,none⟩),.map (some w.heap.size)] 149);rw [World.size_alloc] at hE;have HE:=qI hE;clear hE
 go_enter func31,ntmps31
 go_wp2
 go_ret;exact ⟨by simp,HE.out,HM.out,((Q0 _ _).alloc (lR) _).alloc (by simp) _,by simp⟩
structure bd (B1 B2:Nat) (w w':World):Prop where
 os:w'.os=w.os
 tape:w'.tape=w.tape
 output:w'.output=w.output
 size:w.heap.size<=w'.heap.size
 block:∀ k,k<w.heap.size->k≠B1->k≠B2->w'.heap[k]?=w.heap[k]?
theorem bd.refl (B1 B2:Nat) (w:World):bd B1 B2 w w:=⟨rfl,rfl,rfl,lR,λ_ _ _ _=>rfl⟩
theorem bd.trans {B1 B2:Nat} {a b c:World} (h:bd B1 B2 a b) (k:bd B1 B2 b c):bd B1 B2 a c:=
 ⟨k.os.trans h.os,k.tape.trans h.tape,k.output.trans h.output,Q5 h.size k.size,λi hi h1 h2=>(k.block i (Q1 hi h.size) h1 h2).trans (h.block i hi h1 h2)⟩
theorem bd.of_below {B1 B2:Nat} {w w':World} (h:Below w.heap.size w w'):bd B1 B2 w w':=⟨h.os,h.tape,h.output,h.size,λk hk _ _=>h.block k hk⟩
theorem bd.of_grown {B1 B2 b:Nat} {w w':World} (h:w.grownBy w' (some b)) (hb:b=B1\/b=B2):bd B1 B2 w w':=⟨h.os,h.tape,h.output,h.size,λk hk h1 h2=>h.block k hk (λe=>by cases e;rcases hb with rfl|rfl <;> contradiction)⟩
theorem bd.kint {B1 B2:Nat} {w w':World} (h:bd B1 B2 w w') (h1:∀ (arr:Array Value) (z:Nat × Nat),w.heap[B1]?≠some (Obj.cells arr 3 z)) (h2:∀ (arr:Array Value) (z:Nat × Nat),w.heap[B2]?≠some (Obj.cells arr 3 z)):cE w w':=
 ⟨h.size,λk arr z hk=>h.block k (gS hk).1 (λe=>by subst e;exact h1 arr z hk) (λe=>by subst e;exact h2 arr z hk)⟩
theorem aZ.isMap {w:World} {B n:Nat} {xs:List RV} (h:aZ w B n xs):∃ es clock,w.heap[B]?=some (.map es clock):=by
 obtain ⟨_,es,⟨ms,clock,hh,_⟩,_⟩:=h;exact ⟨ms,clock,hh⟩
theorem aZ.notInt {w:World} {B n:Nat} {xs:List RV} (h:aZ w B n xs):∀ (arr:Array Value) (z:Nat × Nat),w.heap[B]?≠some (Obj.cells arr 3 z):=λarr z e=>by
 obtain ⟨ms,clock,hh⟩:=h.isMap;rw [hh] at e;cases e
structure Started (w w':World) (Bd Bm n:Nat) (xs:List RV) (x:RV) (l:Int) (d:Bool) (f:Nat):Prop where
 disk:J3 w' Bd (J4 l d) (J5 l d)
 out:bd Bd Bm w w'
 no:f≠0->aZ w' Bm n xs
 yes:f=0->∃ a c,aZ w' Bm (n+1) ({ x with da:=a,dc:=c } :: xs)/\fk w' { x with da:=a,dc:=c }/\aG w' { x with da:=a,dc:=c }=aG w x
theorem fm {w w':World} {row:Option Nat} (hg:w.grownBy w' row) (a:Addr) (h:a.block<w.heap.size) (hne:some a.block≠row):w'.cell? a=w.cell? a:=Q6 (hg.block _ h hne)
theorem ym {o:Oper} {a:Act} {N:Act->World->Prop} {Q:Exit->Act->World->Prop} (w:World) (m x v:Operand) (hop:o.op=Op.mapUpdate 147 m x v)
  (B n:Nat) (xs:List RV) (y:RV) (hm:a.eval m=.map (some B)) (hx:a.eval x=.agg #[.string y.pod,.string y.cont]) (hv:a.eval v=.agg #[.string y.pod,.string y.cont,.int .u64 y.cpus,.slice y.da y.dn y.dc]) (hM:aZ w B n xs) (hy:y.Short) (hn:n<1000) (hno:(xs.any λz=>decide (z.pod=y.pod/\z.cont=y.cont))=false)
  (hK:∀ w',aZ w' B (n+1) (y :: xs)->w.grownBy w' (some B)->w'.heap.size=w.heap.size->N (a.put o.dst undef) w') :
  o.wp prog a w N Q:=by
 obtain ⟨w',Ha,r1,r2,r3⟩:=hM.put y hy hn hno;unfold fZ RV.val at Ha;unfold Oper.wp
 simp [execOp,hop,hm,hx,hv,Ha,Result.andThen]
 exact hK w' r1 r2 r3
end
section
open RowKit
end
