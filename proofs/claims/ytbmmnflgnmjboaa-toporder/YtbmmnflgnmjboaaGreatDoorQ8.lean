/- PMath, PBase, PMap, PW1, PSort, PCmp, PSort2, PSing, PW2 -/
import Derived.Test.YtbmmnflgnmjboaaGreatDoorQ4
import Derived.Laws.BitsAllLaws
import Derived.Shelf.SlicesG.Cmp
import Derived.Shelf.Lay
import Derived.Ground.SlgcProg
import Derived.Deep.RegionHeld3
import Derived.Laws.EntriesVeiled
set_option maxRecDepth 100000
set_option maxHeartbeats 16000000
namespace Go.Proofs.YtbmmnflgnmjboaaGreatDoor
section
namespace Ost
def cnt (A:Nat):Nat:=(listTo A 64).length
def dif (A B:Nat):Nat:=A ^^^ (A &&& B)
theorem dif_bit (A B i:Nat):(dif A B).testBit i=(A.testBit i && !B.testBit i):=by
 rw [dif,Nat.testBit_xor,Nat.testBit_and];cases A.testBit i <;> cases B.testBit i <;> rfl
theorem sub_iff (A B:Nat):A &&& B=A↔∀ i,A.testBit i=true→B.testBit i=true:=by
 constructor
 ·intro h i hi;have e:(A &&& B).testBit i=A.testBit i:=by rw [h]
  rw [Nat.testBit_and,hi] at e
  simpa using e
 ·intro h;apply Nat.eq_of_testBit_eq;intro i;rw [Nat.testBit_and];cases hA:A.testBit i with
  | false=>rfl
  | true=>rw [h i hA];rfl
theorem apart_iff (A B:Nat):A &&& B=0↔∀ i,A.testBit i=true→B.testBit i=false:=by
 constructor
 ·intro h i hi;have e:(A &&& B).testBit i=false:=by rw [h,Nat.zero_testBit]
  rw [Nat.testBit_and,hi] at e
  simpa using e
 ·intro h;apply Nat.eq_of_testBit_eq;intro i;rw [Nat.testBit_and,Nat.zero_testBit];cases hA:A.testBit i with
  | false=>rfl
  | true=>rw [h i hA];rfl
theorem cntTo_or {A B:Nat} (h:A &&& B=0) (k:Nat):(listTo (A ||| B) k).length=(listTo A k).length+(listTo B k).length:=by
 induction k with
 | zero=>rfl
 | succ k ih=>
  rw [listTo_succ,listTo_succ A,listTo_succ B,Nat.testBit_or];have hx:=(apart_iff A B).1 h k;cases hA:A.testBit k with
  | true=>rw [hx hA];simp [ih];omega
  | false=>cases hB:B.testBit k <;> simp [ih];omega
theorem cnt_or {A B:Nat} (h:A &&& B=0):cnt (A ||| B)=cnt A+cnt B:=cntTo_or h 64
theorem cnt_0:cnt 0=0:=by decide +kernel
theorem lt64_bit {A:Nat} (h:A<18446744073709551616) {i:Nat} (hi:A.testBit i=true):i<64:=by
 apply Classical.byContradiction;intro hn
 have:A.testBit i=false:=Nat.testBit_lt_two_pow (Nat.lt_of_lt_of_le (show A<2 ^ 64 from h) (Nat.pow_le_pow_right (n:=2) (by omega) (by omega)))
 rw [this] at hi;cases hi
theorem cnt_zero {A:Nat} (h:A<18446744073709551616) (hc:cnt A=0):A=0:=by
 apply Nat.eq_of_testBit_eq;intro i;rw [Nat.zero_testBit];cases hb:A.testBit i with
 | false=>rfl
 | true=>
  have:i∈listTo A 64:=by unfold listTo;simp [hb,lt64_bit h hb]
  have:=List.length_pos_of_mem this
  unfold cnt at hc;omega
theorem dif_lt {A:Nat} (B:Nat) (h:A<18446744073709551616):dif A B<18446744073709551616:=by
 apply Nat.lt_pow_two_of_testBit (n:=64);intro i hi;rw [dif_bit];cases hA:A.testBit i with
 | false=>rfl
 | true=>have:=lt64_bit h hA;omega
theorem dif_or {A B:Nat} (h:B &&& A=B):dif A B ||| B=A:=by
 apply Nat.eq_of_testBit_eq;intro i;rw [Nat.testBit_or,dif_bit]
 have:=(sub_iff B A).1 h i
 cases hB:B.testBit i with
 | true=>rw [this hB];rfl
 | false=>simp
theorem dif_apart (A B:Nat):dif A B &&& B=0:=by
 rw [apart_iff];intro i hi;rw [dif_bit] at hi;cases hB:B.testBit i with
 | true=>rw [hB] at hi;simp at hi
 | false=>rfl
theorem cnt_dif {A B:Nat} (h:B &&& A=B):cnt (dif A B)+cnt B=cnt A:=by
 rw [← cnt_or (dif_apart A B),dif_or h]
theorem dif_sub (A B:Nat):dif A B &&& A=dif A B:=by
 rw [sub_iff];intro i hi;rw [dif_bit] at hi;revert hi;cases A.testBit i <;> simp
theorem sub_lt {A B:Nat} (hB:B<18446744073709551616) (h:A &&& B=A):A<18446744073709551616:=by
 rw [← h];exact Nat.lt_of_le_of_lt Nat.and_le_right hB
theorem sub_trans {A B C:Nat} (h1:A &&& B=A) (h2:B &&& C=B):A &&& C=A:=by
 rw [sub_iff] at *;intro i hi;exact h2 i (h1 i hi)
theorem or_sub {A B C:Nat} (h1:A &&& C=A) (h2:B &&& C=B):(A ||| B) &&& C=A ||| B:=by
 rw [sub_iff] at *;intro i hi;rw [Nat.testBit_or,Bool.or_eq_true] at hi
 rcases hi with hi|hi
 ·exact h1 i hi
 ·exact h2 i hi
theorem and_comm0 {A B:Nat} (h:A &&& B=0):B &&& A=0:=by rw [Nat.and_comm];exact h
def wholesTo (f:Nat→Nat) (free:Nat) (many:Int):Nat→Nat
 | 0=>0
 | k+1=>if f k &&& free=f k∧(cnt (f k):Int)≤many - cnt (wholesTo f free many k) then wholesTo f free many k ||| f k else wholesTo f free many k
def wholes (f:Nat→Nat) (free:Nat) (many:Int):Nat:=wholesTo f free many 64
theorem wholesTo_yes {f:Nat→Nat} {free:Nat} {many:Int} {k:Nat} (h1:f k &&& free=f k) (h2:(cnt (f k):Int)≤many - cnt (wholesTo f free many k)):wholesTo f free many (k+1)=wholesTo f free many k ||| f k:=by rw [wholesTo,if_pos ⟨h1,h2⟩]
theorem wholesTo_no1 {f:Nat→Nat} {free:Nat} {many:Int} {k:Nat} (h1:¬ f k &&& free=f k):wholesTo f free many (k+1)=wholesTo f free many k:=by rw [wholesTo,if_neg (fun h=>h1 h.1)]
theorem wholesTo_no2 {f:Nat→Nat} {free:Nat} {many:Int} {k:Nat} (h2:¬ (cnt (f k):Int)≤many - cnt (wholesTo f free many k)):wholesTo f free many (k+1)=wholesTo f free many k:=by rw [wholesTo,if_neg (fun h=>h2 h.2)]
theorem wholesTo_sub (f:Nat→Nat) (free:Nat) (many:Int) (k:Nat):wholesTo f free many k &&& free=wholesTo f free many k:=by
 induction k with
 | zero=>simp [wholesTo]
 | succ k ih=>
  rw [wholesTo]
  split
  ·rename_i h;exact or_sub ih h.1
  ·exact ih
theorem wholesTo_in (f:Nat→Nat) (free:Nat) (many:Int) (k i:Nat) (h:(wholesTo f free many k).testBit i=true):∃ n,n<k∧(f n).testBit i=true∧f n &&& wholesTo f free many k=f n:=by
 induction k with
 | zero=>simp [wholesTo] at h
 | succ k ih=>
  rw [wholesTo] at h ⊢
  split at h
  ·rename_i hc
   rw [if_pos hc];rw [Nat.testBit_or,Bool.or_eq_true] at h
   rcases h with h|h
   ·obtain ⟨n,hn,hb,hs⟩:=ih h;refine ⟨n,by omega,hb,?_⟩;rw [sub_iff] at hs ⊢;intro j hj;rw [Nat.testBit_or,hs j hj];rfl
   ·refine ⟨k,by omega,h,?_⟩;rw [sub_iff];intro j hj;rw [Nat.testBit_or,hj];simp
  ·rename_i hc
   rw [if_neg hc];obtain ⟨n,hn,hb,hs⟩:=ih h;exact ⟨n,by omega,hb,hs⟩
def Parts (f:Nat→Nat):Prop:=∀ a b,a≠b→f a &&& f b=0
theorem wholesTo_apart {f:Nat→Nat} (hp:Parts f) (free:Nat) (many:Int) (k n:Nat) (hn:k≤n):wholesTo f free many k &&& f n=0:=by
 rw [apart_iff];intro i hi;obtain ⟨j,hj,hb,_⟩:=wholesTo_in f free many k i hi;exact (apart_iff _ _).1 (hp j n (by omega)) i hb
theorem wholesTo_cnt {f:Nat→Nat} (hp:Parts f) (free:Nat) (many:Int) (h0:0≤many) (k:Nat):(cnt (wholesTo f free many k):Int)≤many:=by
 induction k with
 | zero=>simp only [wholesTo,cnt_0];omega
 | succ k ih=>
  rw [wholesTo]
  split
  ·rename_i h;rw [cnt_or (wholesTo_apart hp free many k k (Nat.le_refl _))];omega
  ·exact ih
theorem wholesTo_lt (f:Nat→Nat) (free:Nat) (many:Int) (k:Nat) (h:free<18446744073709551616):wholesTo f free many k<18446744073709551616:=sub_lt h (wholesTo_sub f free many k)
theorem wholes_none {f:Nat→Nat} (hl:∀ n,f n<18446744073709551616) (F k:Nat):wholesTo f F 0 k=0:=by
 induction k with
 | zero=>rfl
 | succ k ih=>
  rw [wholesTo,ih]
  split
  ·rename_i h
   have:cnt (f k)=0:=by have:=h.2;rw [cnt_0] at this;omega
   rw [cnt_zero (hl k) this];rfl
  ·rfl
def less (c:Nat→Nat) (x y:Nat):Bool:=decide (c x<c y∨(c x=c y∧x<y))
def order (c:Nat→Nat) (A:Nat):List Nat:=(listTo A 64).mergeSort (fun x y=>!less c y x)
def orB (l:List Nat):Nat:=l.foldl (fun s n=>s ||| 2 ^ n) 0
theorem orB_snoc (l:List Nat) (n:Nat):orB (l++[n])=orB l ||| 2 ^ n:=by simp [orB]
theorem orB_bit (l:List Nat) (i:Nat):(orB l).testBit i=decide (i∈l):=by
 have key:∀ r:List Nat,(orB r.reverse).testBit i=decide (i∈r.reverse):=by
  intro r
  induction r with
  | nil=>simp [orB]
  | cons n r ih=>
   rw [List.reverse_cons,orB_snoc,Nat.testBit_or,ih,Nat.testBit_two_pow,Bool.eq_iff_iff];simp only [Bool.or_eq_true,decide_eq_true_eq,List.mem_append,List.mem_singleton];constructor
   ·rintro (h|h)
    ·exact .inl h
    ·exact .inr h.symm
   ·rintro (h|h)
    ·exact .inl h
    ·exact .inr h.symm
 have:=key l.reverse
 rwa [List.reverse_reverse] at this
theorem order_perm (c:Nat→Nat) (A:Nat):(order c A).Perm (listTo A 64):=List.mergeSort_perm _ _
theorem order_length (c:Nat→Nat) (A:Nat):(order c A).length=cnt A:=(order_perm c A).length_eq
theorem listTo_mem (A i:Nat):i∈listTo A 64↔i<64∧A.testBit i=true:=by unfold listTo;simp
theorem order_mem {c:Nat→Nat} {A i:Nat}:i∈order c A↔i<64∧A.testBit i=true:=by rw [(order_perm c A).mem_iff,listTo_mem]
theorem order_nodup (c:Nat→Nat) (A:Nat):(order c A).Nodup:=by
 rw [(order_perm c A).nodup_iff];unfold listTo;exact List.Pairwise.filter _ List.nodup_range
theorem less_total {c:Nat→Nat} {x y:Nat} (h1:less c x y=false) (h2:less c y x=false):x=y:=by simp [less] at *;omega
def rest (c:Nat→Nat) (A j:Nat):Nat:=dif A (orB ((order c A).take j))
theorem cnt_pow {n:Nat} (h:n<64):cnt (2 ^ n)=1:=by
 have:∀ i:Fin 64,cnt (2 ^ i.val)=1:=by decide +kernel
 exact this ⟨n,h⟩
theorem cnt_orB {l:List Nat} (hn:l.Nodup) (h64:∀ i∈l,i<64):cnt (orB l)=l.length:=by
 have key:∀ r:List Nat,r.reverse.Nodup→(∀ i∈r.reverse,i<64)→cnt (orB r.reverse)=r.reverse.length:=by
  intro r
  induction r with
  | nil=>intro _ _;simp [orB,cnt_0]
  | cons n r ih=>
   intro hn h64;rw [List.reverse_cons] at hn h64 ⊢;rw [List.nodup_append] at hn;rw [orB_snoc,cnt_or,ih hn.1 (fun i hi=>h64 i (List.mem_append_left _ hi)),cnt_pow (h64 n (by simp))]
   ·simp
   ·rw [apart_iff];intro i hi;rw [orB_bit,decide_eq_true_eq] at hi;rw [Nat.testBit_two_pow];exact decide_eq_false (fun e=>hn.2.2 i hi n (by simp) e.symm)
 have:=key l.reverse
 rw [List.reverse_reverse] at this;exact this hn h64
def singles (c:Nat→Nat) (A:Nat) (many:Nat):Nat:=orB ((order c A).take many)
theorem singles_sub (c:Nat→Nat) (A many:Nat):singles c A many &&& A=singles c A many:=by
 rw [sub_iff];intro i hi;rw [singles,orB_bit,decide_eq_true_eq] at hi;exact (order_mem.1 (List.mem_of_mem_take hi)).2
theorem singles_cnt (c:Nat→Nat) (A many:Nat):cnt (singles c A many)=min many (cnt A):=by
 rw [singles,cnt_orB,List.length_take,order_length]
 ·exact (order_nodup c A).sublist (List.take_sublist _ _)
 ·intro i hi;exact (order_mem.1 (List.mem_of_mem_take hi)).1
def sockAt (l:List Cpu) (n:Nat):Nat:=at' (·.sock) l n
def coreAt (l:List Cpu) (n:Nat):Nat:=at' (·.core) l n
theorem at_parts (f:Cpu→Int) (l:List Cpu):Parts (at' f l):=by
 intro a b hab;rw [apart_iff];intro i hi;rw [at',chosen_bit,Bool.and_eq_true,beq_iff_eq] at hi;rw [at',chosen_bit,hi.2]
 have:(((a:Nat):Int) == (b:Int))=false:=by rw [beq_eq_false_iff_ne];omega
 rw [this];simp
theorem at_lt (f:Cpu→Int) {l:List Cpu} (h:l.length≤64) (n:Nat):at' f l n<18446744073709551616:=chosenTo_lt _ l _ h
def leftOf (l:List Cpu) (now n:Nat):Nat:=cnt (chosen (fun x=>x.core == (l.getD n cpu0).core) l &&& now)
def some1 (l:List Cpu) (F:Nat) (L:Int):Nat:=wholes (sockAt l) F L
def some2 (l:List Cpu) (F:Nat) (L:Int):Nat:=some1 l F L ||| wholes (coreAt l) (dif F (some1 l F L)) (L - cnt (some1 l F L))
def someOf (l:List Cpu) (F:Nat) (L:Int):Nat:=some2 l F L ||| singles (leftOf l (dif F (some2 l F L))) (dif F (some2 l F L)) (L - cnt (some2 l F L)).toNat
theorem some1_sub (l:List Cpu) (F:Nat) (L:Int):some1 l F L &&& F=some1 l F L:=wholesTo_sub _ _ _ _
theorem some1_cnt (l:List Cpu) (F:Nat) (L:Int) (h:0≤L):(cnt (some1 l F L):Int)≤L:=wholesTo_cnt (at_parts _ l) F L h 64
theorem some2_sub (l:List Cpu) (F:Nat) (L:Int):some2 l F L &&& F=some2 l F L:=
 or_sub (some1_sub l F L) (sub_trans (wholesTo_sub _ _ _ _) (dif_sub F _))
theorem apart_dif {A B C:Nat} (h:B &&& dif C A=B):A &&& B=0:=by
 apply and_comm0;rw [sub_iff] at h;rw [apart_iff];intro i hi
 have:=h i hi
 rw [dif_bit,Bool.and_eq_true] at this
 simpa using this.2
theorem some2_cnt (l:List Cpu) (F:Nat) (L:Int) (h:0≤L):(cnt (some2 l F L):Int)≤L:=by
 have h1:=some1_cnt l F L h;unfold some2 wholes;rw [cnt_or (apart_dif (wholesTo_sub (coreAt l) (dif F (some1 l F L)) (L - cnt (some1 l F L)) 64))];have h2:=wholesTo_cnt (at_parts (·.core) l) (dif F (some1 l F L)) (L - cnt (some1 l F L)) (by omega) 64;have e:coreAt l=at' (·.core) l:=rfl;rw [e];omega
theorem someOf_sub (l:List Cpu) (F:Nat) (L:Int):someOf l F L &&& F=someOf l F L:=
 or_sub (some2_sub l F L) (sub_trans (singles_sub _ _ _) (dif_sub F _))
theorem someOf_cnt (l:List Cpu) (F:Nat) (L:Int) (h:0≤L):(cnt (someOf l F L):Int)=min L (cnt F):=by
 have h1:=some2_cnt l F L h;have h2:=cnt_dif (some2_sub l F L);rw [someOf,cnt_or (apart_dif (singles_sub _ _ _)),singles_cnt];omega
theorem some2_none {l:List Cpu} (hl:l.length≤64) (F:Nat):some2 l F 0=0:=by
 have e1:some1 l F 0=0:=wholes_none (f:=sockAt l) (at_lt _ hl) F 64;rw [some2,e1,cnt_0,show ((0:Int) - (0:Nat))=0 from rfl]
 have:wholes (coreAt l) (dif F 0) 0=0:=wholes_none (f:=coreAt l) (at_lt _ hl) _ 64
 rw [this];rfl
theorem someOf_none {l:List Cpu} (hl:l.length≤64) (F:Nat):someOf l F 0=0:=by
 rw [someOf,some2_none hl,cnt_0]
 simp [singles,orB]
def takeOut (l:List Cpu) (F:Nat) (L:Int) (on:Nat):Nat × Int:=
 if L<0∨64<L∨¬ F &&& chosen (fun _=>true) l=F then (0,1) else
 if (cnt F:Int)<L then (0,8) else
 (someOf l (F &&& on) L ||| someOf l (dif F (F &&& on)) (L - cnt (someOf l (F &&& on) L)),0)
theorem and_sub (A B:Nat):A &&& B &&& A=A &&& B:=by
 apply Nat.eq_of_testBit_eq;intro i;simp only [Nat.testBit_and];cases A.testBit i <;> cases B.testBit i <;> rfl
theorem take_good {l:List Cpu} {F:Nat} {L:Int} (on:Nat) (h0:0≤L) (h64:L≤64) (hin:F &&& chosen (fun _=>true) l=F) (hc:L≤cnt F) :
  takeOut l F L on=(someOf l (F &&& on) L ||| someOf l (dif F (F &&& on)) (L - cnt (someOf l (F &&& on) L)),0):=by
 rw [takeOut,if_neg (fun h=>by rcases h with h|h|h;omega;omega;exact h hin),if_neg (by omega)]
theorem take_facts {l:List Cpu} {F:Nat} {L:Int} (on:Nat) (h0:0≤L) (hc:L≤cnt F) (s:Nat) (hs:s=someOf l (F &&& on) L ||| someOf l (dif F (F &&& on)) (L - cnt (someOf l (F &&& on) L))) :
  (cnt s:Int)=L∧s &&& F=s∧(cnt (s &&& on):Int)=min L (cnt (F &&& on)):=by
 have ha:=someOf_cnt l (F &&& on) L h0;have has:=someOf_sub l (F &&& on) L;have hbs:=someOf_sub l (dif F (F &&& on)) (L - cnt (someOf l (F &&& on) L));have hb:=someOf_cnt l (dif F (F &&& on)) (L - cnt (someOf l (F &&& on) L)) (by omega);have hd:=cnt_dif (and_sub F on);generalize someOf l (dif F (F &&& on)) (L - cnt (someOf l (F &&& on) L))=b at *;generalize someOf l (F &&& on) L=a at *;have hab:a &&& b=0:=by
  rw [sub_iff] at has hbs;rw [apart_iff];intro i hi;cases hbi:b.testBit i with
  | false=>rfl
  | true=>
   have h1:=has i hi;have h2:=hbs i hbi;rw [dif_bit,h1] at h2
   simp at h2
 have hson:s &&& on=a:=by
  rw [hs];rw [sub_iff] at has hbs;apply Nat.eq_of_testBit_eq;intro i;rw [Nat.testBit_and,Nat.testBit_or];cases hai:a.testBit i with
  | true=>
   have h1:=has i hai;rw [Nat.testBit_and,Bool.and_eq_true] at h1;rw [h1.2];rfl
  | false=>
   cases hbi:b.testBit i with
   | false=>rfl
   | true=>
    have h2:=hbs i hbi;rw [dif_bit,Nat.testBit_and] at h2
    revert h2
    cases F.testBit i <;> cases on.testBit i <;> simp
 refine ⟨?_,?_,?_⟩
 ·rw [hs,cnt_or hab];omega
 ·rw [hs];exact or_sub (sub_trans has (and_sub F on)) (sub_trans hbs (dif_sub F _))
 ·rw [hson];exact ha
end Ost
end
section
open Go.RowKit
open Ost (cnt dif)
theorem andNot64 (A B:Nat) (hA:A<18446744073709551616) (hB:B<18446744073709551616):bits BinOp.andNot IntKind.u64 (A:Int) (B:Int)=((dif A B:Nat):Int):=by
 rw [u64_andNot_nat A B hA hB];have key:A &&& (18446744073709551615 - B)=dif A B:=by
  apply Nat.eq_of_testBit_eq;intro i;rw [Nat.testBit_and,Ost.dif_bit]
  by_cases hi:i<64
  ·have e:(18446744073709551615 - B).testBit i=!B.testBit i:=by
    have:=Nat.testBit_two_pow_sub_succ (n:=64) hB i
    rw [show 2 ^ 64 - (B+1)=18446744073709551615 - B by omega] at this;rw [this,decide_eq_true hi];simp
   rw [e]
  ·have:A.testBit i=false:=Nat.testBit_lt_two_pow (Nat.lt_of_lt_of_le hA (Nat.pow_le_pow_right (n:=2) (by omega) (show 64≤i by omega)))
   rw [this];simp
 rw [key]
theorem dif_zero_iff (A B:Nat):dif A B=0↔A &&& B=A:=by
 rw [Ost.sub_iff];constructor
 ·intro h i hi;have e:(dif A B).testBit i=false:=by rw [h,Nat.zero_testBit]
  rw [Ost.dif_bit,hi] at e
  simpa using e
 ·intro h;apply Nat.eq_of_testBit_eq;intro i;rw [Ost.dif_bit,Nat.zero_testBit];cases hA:A.testBit i with
  | false=>rfl
  | true=>rw [h i hA];rfl
theorem andNot_zero (A B:Nat) (hA:A<18446744073709551616) (hB:B<18446744073709551616):(bits BinOp.andNot IntKind.u64 (A:Int) (B:Int) == 0)=decide (A &&& B=A):=by
 rw [andNot64 A B hA hB,Bool.eq_iff_iff,beq_iff_eq,decide_eq_true_eq,← dif_zero_iff];omega
theorem inside_any (A B:Nat) (w:World) (hA:A<18446744073709551616) (hB:B<18446744073709551616) :
  Calls Tryz.prog 38 #[.int .u64 A,.int .u64 B] w fun e w'=>e=.returned (.bool (decide (A &&& B=A)))∧w'=w:=by
 have H:=qI (andNot_zero A B hA hB)
 go_enter Tryz.func38,Tryz.ntmps38
 go_wp2_with fail
 go_ret;exact ⟨congrArg (fun b=>Ending.returned (.bool b)) H.out,rfl⟩
theorem infoInt:(Tryz.prog.info? 3).map (fun i=>(i.zero,i.size,i.bytes))=some (some (.int .i64 0),1,8):=by kernel_rfl
def nums (l:List Nat):List Value:=l.map fun (n:Nat)=>Value.int .i64 (n:Int)
theorem nums_snoc (l:List Nat) (n:Nat):nums (l++[n])=nums l++[.int .i64 n]:=by simp [nums]
theorem listTo_le (A k:Nat):(Ost.listTo A k).length≤k:=by
 unfold Ost.listTo;exact Nat.le_trans (List.length_filter_le _ _) (by simp)
theorem list_any (A:Nat) (w:World) (hA:A<18446744073709551616) :
  Calls Tryz.prog 251 #[.int .u64 A] w fun e w'=>∃ v,e=.returned v∧w'.ownsRow w.heap.size 3 1 v (Ost.listTo A 64).length (nums (Ost.listTo A 64))∧Below w.heap.size w w':=by
 obtain ⟨i0,hi,hz0,hz1,hz2⟩:=info_parts infoInt
 go_enter Tryz.func251,Tryz.ntmps251
 go_wp2_with fail
 go_loopw [3,5] (fun v i wr=>∃ k:Nat,k≤64∧i=.int .i64 k∧wr.ownsRow w.heap.size 3 1 v (Ost.listTo A k).length (nums (Ost.listTo A k))∧Below w.heap.size w wr) (fun _ i _=>64 - (intOf i).toNat)
 case atStart=>exact ⟨0,by omega,rfl,World.ownsRow_nil _ _ _ _,Below.refl _ _⟩
 case round=>
  obtain ⟨k,hk,rfl,hrow,hnx⟩:=hrel
  by_cases hlt:k<64
  ·have hle:=listTo_le A k;have hsz:=hnx.size
   by_cases hb:A.testBit k=true
   ·have HS:Hid (Ost.listTo A (k+1)=Ost.listTo A k++[k]):=by unfold Hid;rw [Ost.listTo_succ,if_pos hb]
    have HI:=has_in A k wr hA hlt;rw [hb] at HI;have HI2:Hid (Calls Tryz.prog 154 #[.int .u64 A,.int .i64 k] wr fun e w'=>e=.returned (.bool true)∧w'=wr):=HI;clear HI hb
    go_wp2_with (first
     | (go_at_call 154;refine HI2.out.mono ?_;rintro e w' ⟨rfl,rfl⟩)
     | (at_builtin;refine wpList_append_own _ rfl _ _ 44 rfl w.heap.size 3 i0 (.int .i64 0) 1 8 Tryz.underlying44 hi hz0 hz1 hz2 rfl (by decide) _ _ _ rfl (hrow.alloc _) ⟨_,0,none⟩ 1 1 [.int .i64 k] rfl rfl (cell_one_new _ _ _) (ints_oneCell .i64 [(k:Int)]) (by unfold maxLen;omega) (by omega) (by simp;omega) ?_;intro v' w1 hown' hgrow' _))
    go_roundw
    case rel=>
     refine ⟨k+1,by omega,by go_num,?_,?_⟩
     ·rw [HS.out,nums_snoc,List.length_append];exact hown'
     ·exact (hnx.alloc hsz _).grown hgrow' (by simp;omega) (fun j hj=>(hrow.lt j hj).1)
    case measure=>simp [intOf];omega
   ·have hb':A.testBit k=false:=by simpa using hb
    have HS:Hid (Ost.listTo A (k+1)=Ost.listTo A k):=by unfold Hid;rw [Ost.listTo_succ,if_neg hb]
    have HI:=has_in A k wr hA hlt;rw [hb'] at HI;have HI2:Hid (Calls Tryz.prog 154 #[.int .u64 A,.int .i64 k] wr fun e w'=>e=.returned (.bool false)∧w'=wr):=HI;clear HI hb hb'
    go_wp2_with (go_at_call 154;refine HI2.out.mono ?_;rintro e w' ⟨rfl,rfl⟩)
    go_roundw
    case rel=>
     refine ⟨k+1,by omega,by go_num,?_,hnx⟩;rw [HS.out];exact hrow
    case measure=>simp [intOf];omega
  ·have hk64:k=64:=by omega
   subst hk64;clear hk hlt
   go_wp2_with fail
   go_ret;exact ⟨_,rfl,hrow,hnx⟩
end
section
open Go.RowKit Go.ChangeMaps
open Go.Maps (Keyed int_keyed keyOf_int_mk)
def LeftIs (w:World) (B n:Nat) (f:Int→Int):Prop:=
 ∃ D:DataW Unit,w.ownsMap Tryz.prog 3 (plainElem Tryz.prog 3) B n D∧∀ k:Int,0≤k→k<64→D.atKey (.int .i64 k) (.lit (.int .i64 0))=.lit (.int .i64 (f k))
theorem LeftIs.alloc {w:World} {B n:Nat} {f:Int→Int} (h:LeftIs w B n f) (o:Obj):LeftIs (w.alloc o) B n f:=by
 obtain ⟨D,ho,hk⟩:=h;exact ⟨D,ho.alloc o,hk⟩
theorem LeftIs.below {w w':World} {B K n:Nat} {f:Int→Int} (h:LeftIs w B n f) (hb:Below K w w') (hK:B<K):LeftIs w' B n f:=by
 obtain ⟨D,⟨es,clock,hh,r⟩,hk⟩:=h;exact ⟨D,⟨es,clock,(hb.block B hK).trans hh,r⟩,hk⟩
theorem LeftIs.lt {w:World} {B n:Nat} {f:Int→Int} (h:LeftIs w B n f):B<w.heap.size:=by
 obtain ⟨D,ho,_⟩:=h;exact ho.lt
theorem LeftIs.made (w:World):LeftIs (w.alloc (.map #[] 0)) w.heap.size 0 (fun _=>0):=
 ⟨.map [],World.ownsMap_made w _ _ _,fun _ _ _=>rfl⟩
theorem zeroInt (w:World):(zeroValue 3).run Tryz.prog w=.ok (.int .i64 0) w:=by kernel_rfl
theorem wpList_lookLeft {ops:Array Oper} {rest:List Oper} {o:Oper} {a:Act} {Q:Exit→Act→World→Prop} (w:World) (hg:o.guard=none) (m x:Operand) (hop:o.op=Op.lookup 349 m x false)
  (B n:Nat) (f:Int→Int) (k:Int) (h0:0≤k) (h64:k<64) (hm:a.eval m=.map (some B)) (hx:a.eval x=.int .i64 k) (hM:LeftIs w B n f)
  (hK:wpList Tryz.prog ops Q rest (a.put o.dst (.int .i64 (f k))) w) :
  wpList Tryz.prog ops Q (o :: rest) a w:=by
 obtain ⟨D,ho,hk⟩:=hM;refine wpList_lookup_own_int w hg m x 349 hop 3 3 .i64 keyLaw Tryz.underlying349 Tryz.underlying3 (zeroInt w) B n D hm ho _ (.int .i64 k) hx (keyOf_int_mk Tryz.underlying3 (wf64 h0 h64)) ?_;intro c hc _;rw [hk k h0 h64] at hc;simp only [DataW.lit.injEq,Lit.int.injEq,true_and] at hc;rw [← hc];exact hK
end
section
open Go.RowKit
open Ost (Cpu cpu0 chosen cnt dif wholesTo wholes sockAt coreAt)
theorem wholesSock (tb b o c F:Nat) (L:Int) (l:List Cpu) (w:World) (ht:TopoAt w tb b o c l) (hF:F<18446744073709551616) (h0:0≤L) (hL:L≤64) :
  Calls Tryz.prog 204 #[.func (.func 205) #[.pointer (some ⟨tb,0,none⟩)] #[],.int .u64 F,.int .i64 L] w fun e w'=>e=.returned (.int .u64 (wholes (sockAt l) F L:Nat))∧Below w.heap.size w w':=by
 have HT:=qI ht;have h64:=ht.len;clear ht
 go_enter Tryz.func204,Tryz.ntmps204
 go_wp2_with fail
 go_loopw [7,10] (fun t i wr=>∃ k:Nat,k≤64∧i=.int .i64 k∧t=.int .u64 (wholesTo (sockAt l) F L k:Nat)∧Hid (TopoAt wr tb b o c l)∧Below w.heap.size w wr) (fun _ i _=>64 - (intOf i).toNat)
 case atStart=>exact ⟨0,by omega,rfl,rfl,HT,Below.refl _ _⟩
 case round=>
  obtain ⟨k,hk,rfl,rfl,HTr,hB⟩:=hrel
  by_cases hlt:k<64
  ·have HS:Hid (Calls Tryz.prog 205 #[.pointer (some ⟨tb,0,none⟩),.int .i64 k] wr fun e w'=>e=.returned (.int .u64 (sockAt l k:Nat))∧Below wr.heap.size wr w'):=sock_any tb b o c l k wr HTr.out;have hs:=Ost.at_lt (·.sock) h64 k
   change sockAt l k<_ at hs
   have ht:=Ost.wholesTo_lt (sockAt l) F L k hF;have HC1:=qI (fun W=>bitsCount_any (sockAt l k) W hs);have HC2:=qI (fun W=>bitsCount_any (wholesTo (sockAt l) F L k) W ht);have hc2:=Ost.wholesTo_cnt (Ost.at_parts (·.sock) l) F L h0 k
   change (cnt (wholesTo (sockAt l) F L k):Int)≤L at hc2
   have HI:=qI (fun W=>inside_any (sockAt l k) F W hs hF);have HY:=qI (fun h1 h2=>Ost.wholesTo_yes (f:=sockAt l) (free:=F) (many:=L) (k:=k) h1 h2);have HN1:=qI (fun h1=>Ost.wholesTo_no1 (f:=sockAt l) (free:=F) (many:=L) (k:=k) h1);have HN2:=qI (fun h1=>Ost.wholesTo_no2 (f:=sockAt l) (free:=F) (many:=L) (k:=k) h1);have HO:=qI (bits_or_u64_nat (wholesTo (sockAt l) F L k) (sockAt l k) ht hs)
   change Hid (∀ W,Calls _ _ _ W fun e w'=>e=.returned (.int .i64 (cnt (sockAt l k):Nat))∧w'=W) at HC1
   change Hid (∀ W,Calls _ _ _ W fun e w'=>e=.returned (.int .i64 (cnt (wholesTo (sockAt l) F L k):Nat))∧w'=W) at HC2
   generalize sockAt l k=s at *
   go_wp2_with (go_at_call 205;refine HS.out.mono ?_;rintro e w1 ⟨rfl,hb⟩)
   have hB1:=hB.trans (hb.mono hB.size);have HT1:=qI (HTr.out.below hb);clear HTr hb hB HS
   by_cases h1:s &&& F=s
   ·have e1:decide (s &&& F=s)=true:=decide_eq_true h1
    by_cases h2:(cnt s:Int)≤L - cnt (wholesTo (sockAt l) F L k)
    ·have HE:Hid (wholesTo (sockAt l) F L (k+1)=wholesTo (sockAt l) F L k ||| s):=HY.out h1 h2;rw [e1] at HI;clear h1 e1;refine (HI.out w1).mono ?_;rintro e w2 ⟨rfl,rfl⟩
     go_wp2_with fail
     refine (HC1.out _).mono ?_;rintro e w2 ⟨rfl,rfl⟩
     go_wp2_with fail
     refine (HC2.out _).mono ?_;rintro e w2 ⟨rfl,rfl⟩
     go_wp2_with fail
     go_roundw
     case rel=>exact ⟨k+1,by omega,by go_num,by rw [HE.out,← HO.out],HT1,hB1⟩
     case measure=>simp [intOf];omega
    ·have HE:Hid (wholesTo (sockAt l) F L (k+1)=wholesTo (sockAt l) F L k):=HN2.out (by omega);have h3:L - cnt (wholesTo (sockAt l) F L k)<(cnt s:Int):=by omega
     rw [e1] at HI;clear h1 e1 h2;refine (HI.out w1).mono ?_;rintro e w2 ⟨rfl,rfl⟩
     go_wp2_with fail
     refine (HC1.out _).mono ?_;rintro e w2 ⟨rfl,rfl⟩
     go_wp2_with fail
     refine (HC2.out _).mono ?_;rintro e w2 ⟨rfl,rfl⟩
     go_wp2_with fail
     go_roundw
     case rel=>exact ⟨k+1,by omega,by go_num,by rw [HE.out],HT1,hB1⟩
     case measure=>simp [intOf];omega
   ·have e1:decide (s &&& F=s)=false:=decide_eq_false h1;have HE:Hid (wholesTo (sockAt l) F L (k+1)=wholesTo (sockAt l) F L k):=HN1.out h1;rw [e1] at HI;clear h1 e1;refine (HI.out w1).mono ?_;rintro e w2 ⟨rfl,rfl⟩
    go_wp2_with fail
    go_roundw
    case rel=>exact ⟨k+1,by omega,by go_num,by rw [HE.out],HT1,hB1⟩
    case measure=>simp [intOf];omega
  ·have hk64:k=64:=by omega
   subst hk64;clear hk hlt
   go_wp2_with fail
   go_ret;exact ⟨rfl,hB⟩
theorem wholesCore (tb b o c F:Nat) (L:Int) (l:List Cpu) (w:World) (ht:TopoAt w tb b o c l) (hF:F<18446744073709551616) (h0:0≤L) (hL:L≤64) :
  Calls Tryz.prog 204 #[.func (.func 206) #[.pointer (some ⟨tb,0,none⟩)] #[],.int .u64 F,.int .i64 L] w fun e w'=>e=.returned (.int .u64 (wholes (coreAt l) F L:Nat))∧Below w.heap.size w w':=by
 have HT:=qI ht;have h64:=ht.len;clear ht
 go_enter Tryz.func204,Tryz.ntmps204
 go_wp2_with fail
 go_loopw [7,10] (fun t i wr=>∃ k:Nat,k≤64∧i=.int .i64 k∧t=.int .u64 (wholesTo (coreAt l) F L k:Nat)∧Hid (TopoAt wr tb b o c l)∧Below w.heap.size w wr) (fun _ i _=>64 - (intOf i).toNat)
 case atStart=>exact ⟨0,by omega,rfl,rfl,HT,Below.refl _ _⟩
 case round=>
  obtain ⟨k,hk,rfl,rfl,HTr,hB⟩:=hrel
  by_cases hlt:k<64
  ·have HS:Hid (Calls Tryz.prog 206 #[.pointer (some ⟨tb,0,none⟩),.int .i64 k] wr fun e w'=>e=.returned (.int .u64 (coreAt l k:Nat))∧Below wr.heap.size wr w'):=core_any tb b o c l k wr HTr.out;have hs:=Ost.at_lt (·.core) h64 k
   change coreAt l k<_ at hs
   have ht:=Ost.wholesTo_lt (coreAt l) F L k hF;have HC1:=qI (fun W=>bitsCount_any (coreAt l k) W hs);have HC2:=qI (fun W=>bitsCount_any (wholesTo (coreAt l) F L k) W ht);have hc2:=Ost.wholesTo_cnt (Ost.at_parts (·.core) l) F L h0 k
   change (cnt (wholesTo (coreAt l) F L k):Int)≤L at hc2
   have HI:=qI (fun W=>inside_any (coreAt l k) F W hs hF);have HY:=qI (fun h1 h2=>Ost.wholesTo_yes (f:=coreAt l) (free:=F) (many:=L) (k:=k) h1 h2);have HN1:=qI (fun h1=>Ost.wholesTo_no1 (f:=coreAt l) (free:=F) (many:=L) (k:=k) h1);have HN2:=qI (fun h1=>Ost.wholesTo_no2 (f:=coreAt l) (free:=F) (many:=L) (k:=k) h1);have HO:=qI (bits_or_u64_nat (wholesTo (coreAt l) F L k) (coreAt l k) ht hs)
   change Hid (∀ W,Calls _ _ _ W fun e w'=>e=.returned (.int .i64 (cnt (coreAt l k):Nat))∧w'=W) at HC1
   change Hid (∀ W,Calls _ _ _ W fun e w'=>e=.returned (.int .i64 (cnt (wholesTo (coreAt l) F L k):Nat))∧w'=W) at HC2
   generalize coreAt l k=s at *
   go_wp2_with (go_at_call 206;refine HS.out.mono ?_;rintro e w1 ⟨rfl,hb⟩)
   have hB1:=hB.trans (hb.mono hB.size);have HT1:=qI (HTr.out.below hb);clear HTr hb hB HS
   by_cases h1:s &&& F=s
   ·have e1:decide (s &&& F=s)=true:=decide_eq_true h1
    by_cases h2:(cnt s:Int)≤L - cnt (wholesTo (coreAt l) F L k)
    ·have HE:Hid (wholesTo (coreAt l) F L (k+1)=wholesTo (coreAt l) F L k ||| s):=HY.out h1 h2;rw [e1] at HI;clear h1 e1;refine (HI.out w1).mono ?_;rintro e w2 ⟨rfl,rfl⟩
     go_wp2_with fail
     refine (HC1.out _).mono ?_;rintro e w2 ⟨rfl,rfl⟩
     go_wp2_with fail
     refine (HC2.out _).mono ?_;rintro e w2 ⟨rfl,rfl⟩
     go_wp2_with fail
     go_roundw
     case rel=>exact ⟨k+1,by omega,by go_num,by rw [HE.out,← HO.out],HT1,hB1⟩
     case measure=>simp [intOf];omega
    ·have HE:Hid (wholesTo (coreAt l) F L (k+1)=wholesTo (coreAt l) F L k):=HN2.out (by omega);have h3:L - cnt (wholesTo (coreAt l) F L k)<(cnt s:Int):=by omega
     rw [e1] at HI;clear h1 e1 h2;refine (HI.out w1).mono ?_;rintro e w2 ⟨rfl,rfl⟩
     go_wp2_with fail
     refine (HC1.out _).mono ?_;rintro e w2 ⟨rfl,rfl⟩
     go_wp2_with fail
     refine (HC2.out _).mono ?_;rintro e w2 ⟨rfl,rfl⟩
     go_wp2_with fail
     go_roundw
     case rel=>exact ⟨k+1,by omega,by go_num,by rw [HE.out],HT1,hB1⟩
     case measure=>simp [intOf];omega
   ·have e1:decide (s &&& F=s)=false:=decide_eq_false h1;have HE:Hid (wholesTo (coreAt l) F L (k+1)=wholesTo (coreAt l) F L k):=HN1.out h1;rw [e1] at HI;clear h1 e1;refine (HI.out w1).mono ?_;rintro e w2 ⟨rfl,rfl⟩
    go_wp2_with fail
    go_roundw
    case rel=>exact ⟨k+1,by omega,by go_num,by rw [HE.out],HT1,hB1⟩
    case measure=>simp [intOf];omega
  ·have hk64:k=64:=by omega
   subst hk64;clear hk hlt
   go_wp2_with fail
   go_ret;exact ⟨rfl,hB⟩
end
end Go.Proofs.YtbmmnflgnmjboaaGreatDoor
namespace Go.Proofs
open Go.Shelf
shelf_lay_g SlLaysF.n6 Slsf 6 at Tryz 252 as Tryz.sortL
shelf_lay_g SlLaysC2.n5 Slgc 5 at Tryz 148 as Tryz.cmpL
end Go.Proofs
namespace Go.Proofs.YtbmmnflgnmjboaaGreatDoor
section
open Go.RowKit
open Ost (Cpu cpu0 chosen cnt dif less order)
open Go.Sort
def Grows (w w':World):Prop:=∃ q os,w'=grow (w.drewN q) os
theorem Grows.refl (w:World):Grows w w:=⟨0,#[],by rw [grow_empty];rfl⟩
theorem Grows.alloc {w w':World} (h:Grows w w') (o:Obj):Grows w (w'.alloc o):=by
 obtain ⟨q,os,rfl⟩:=h;exact ⟨q,os++#[o],by rw [alloc_eq_grow,grow_grow]⟩
theorem Grows.drewN {w w':World} (h:Grows w w') (n:Nat):Grows w (w'.drewN n):=by
 obtain ⟨q,os,rfl⟩:=h;exact ⟨q+n,os,by simp only [World.drewN,grow,Nat.add_assoc]⟩
theorem Grows.trans {a b c:World} (h:Grows a b) (k:Grows b c):Grows a c:=by
 obtain ⟨q,os,rfl⟩:=h;obtain ⟨q',os',rfl⟩:=k;exact ⟨q+q',os++os',by simp only [World.drewN,grow,Nat.add_assoc,Array.append_assoc]⟩
theorem Grows.below {w w':World} (h:Grows w w'):Below w.heap.size w w':=by
 obtain ⟨q,os,rfl⟩:=h;exact ⟨rfl,rfl,rfl,by simp [World.drewN],fun k hk=>by simp [grow,World.drewN,Array.getElem?_append,hk]⟩
theorem below_sort (w:World) (K blk off m:Nat) (dk:Array Nat) (os:Array Obj) (hK:K≤blk) (hw:K≤w.heap.size):Below K w (sortWorld (fun n:Nat=>Value.int .i64 (n:Int)) w blk off m dk os):=by
 refine ⟨rfl,rfl,rfl,?_,fun k hk=>?_⟩
 ·simp [sortWorld,grow,Sort.putRow,Sort.mapBlock,Sort.ahead]
 ·have h1:k<w.heap.size:=by omega
  have h2:blk≠k:=by omega
  simp [sortWorld,grow,Sort.putRow,Sort.mapBlock,Sort.ahead,Array.getElem?_append,Array.getElem_modify,h1,h2]
theorem of_here (n:Nat) (tb b o c:Nat) (l:List Cpu) (w:World) (ht:TopoAt w tb b o c l) :
  Calls Tryz.prog 250 #[.pointer (some ⟨tb,0,none⟩),.int .i64 n] w fun e w'=>(∃ err,e=.returned (.tuple #[.agg #[.int .i64 (l.getD n cpu0).core,.int .i64 (l.getD n cpu0).sock,.int .i64 (l.getD n cpu0).node],err]))∧Grows w w':=by
 have hB0:=((Below.refl w.heap.size w).alloc (Nat.le_refl _) (.cells #[.int .i64 0,.int .i64 0,.int .i64 0] 84));have hT:=(ht.below hB0).cell;have hl:=ht.len
 by_cases hn:n<l.length
 ·obtain ⟨hcell0,hcell1,hcell2⟩:=(ht.below hB0).cells n hn;clear ht hB0;generalize l.getD n cpu0=x at *
  go_enter Tryz.func250,Tryz.ntmps250
  go_wp2_with fail
  (try simp only [Exit.inBlock,Exit.then]);refine bodyPost_ret (v:=.tuple #[.agg #[.int .i64 x.core,.int .i64 x.sock,.int .i64 x.node],.nilIface]) ?_ rfl ⟨⟨_,rfl⟩,?_⟩
  ·rw [results_cell_tmp rfl];go_simp
  ·exact (Grows.refl w).alloc _
 ·have hx:l.getD n cpu0=cpu0:=by simp [show l.length≤n by omega]
  rw [hx];clear ht hB0 hx;have h2:(l.length:Int)≤n:=by omega
  clear hn
  go_enter Tryz.func250,Tryz.ntmps250
  go_wp2_with fail
  (try simp only [Exit.inBlock,Exit.then]);refine bodyPost_ret (v:=.tuple #[.agg #[.int .i64 0,.int .i64 0,.int .i64 0],.iface 121 (.int .i64 1)]) ?_ rfl ⟨⟨_,rfl⟩,?_⟩
  ·rw [results_cell_tmp rfl];go_simp
  ·exact (Grows.refl w).alloc _
structure Stand (w:World) (tc lc fc tb b o c mb n:Nat) (l:List Cpu) (f:Int→Int):Prop where
 t:w.cell? ⟨tc,0,none⟩=some (.pointer (some ⟨tb,0,none⟩))
 m:w.cell? ⟨lc,0,none⟩=some (.map (some mb))
 fn:w.cell? ⟨fc,0,none⟩=some (.func (.func 249) #[] #[.pointer (some ⟨tc,0,none⟩),.pointer (some ⟨lc,0,none⟩)])
 topo:TopoAt w tb b o c l
 left:LeftIs w mb n f
theorem Stand.below {w w':World} {tc lc fc tb b o c mb n K:Nat} {l:List Cpu} {f:Int→Int} (h:Stand w tc lc fc tb b o c mb n l f) (hb:Below K w w') (hK:tc<K∧lc<K∧fc<K∧tb<K∧b<K∧mb<K):Stand w' tc lc fc tb b o c mb n l f:=by
 obtain ⟨h1,h2,h3,h4,h5,h6⟩:=hK;exact ⟨(hb.cell (p:=⟨tc,0,none⟩) h1).trans h.t,(hb.cell (p:=⟨lc,0,none⟩) h2).trans h.m,(hb.cell (p:=⟨fc,0,none⟩) h3).trans h.fn,
  ⟨(hb.cell (p:=⟨tb,0,none⟩) h4).trans h.topo.cell,fun k hk=>by
   obtain ⟨a1,a2,a3⟩:=h.topo.cells k hk;exact ⟨(hb.cell (p:=⟨b,o+k*3,none⟩) h5).trans a1,(hb.cell (p:=⟨b,o+k*3+1,none⟩) h5).trans a2,(hb.cell (p:=⟨b,o+k*3+2,none⟩) h5).trans a3⟩,Nat.lt_of_lt_of_le h.topo.lt hb.size,h.topo.len⟩,
  h.left.below hb h6⟩
theorem Stand.lts {w:World} {tc lc fc tb b o c mb n:Nat} {l:List Cpu} {f:Int→Int} (h:Stand w tc lc fc tb b o c mb n l f):tc<w.heap.size∧lc<w.heap.size∧fc<w.heap.size∧tb<w.heap.size∧b<w.heap.size∧mb<w.heap.size:=
 ⟨World.block_lt_of_cell? w _ h.t,World.block_lt_of_cell? w _ h.m,World.block_lt_of_cell? w _ h.fn,h.topo.tlt,h.topo.lt,h.left.lt⟩
theorem core_in {l:List Cpu} (hg:Good l) (n:Nat):0≤(l.getD n cpu0).core∧(l.getD n cpu0).core<64:=by
 by_cases hn:n<l.length
 ·have:=hg (l.getD n cpu0) (by simp [hn])
  omega
 ·have hx:l.getD n cpu0=cpu0:=by simp [show l.length≤n by omega]
  rw [hx];decide
theorem beside_any (k:Nat) (tc lc fc tb b o c mb n:Nat) (l:List Cpu) (f:Int→Int) (w:World) (h:Stand w tc lc fc tb b o c mb n l f) (hg:Good l) :
  Calls Tryz.prog 249 #[.int .i64 k,.pointer (some ⟨tc,0,none⟩),.pointer (some ⟨lc,0,none⟩)] w fun e w'=>e=.returned (.int .i64 (f (l.getD k cpu0).core))∧Grows w w':=by
 have HO:=qI (of_here k tb b o c l w h.topo);have HS:=qI h;have HL:=qI h.lts;have ht:=h.t;obtain ⟨h0,h64⟩:=core_in hg k;clear h hg;generalize l.getD k cpu0=x at *
 go_enter Tryz.func249,Tryz.ntmps249
 go_wp2_with fail
 refine HO.out.mono ?_;rintro e w1 ⟨⟨err,rfl⟩,hgr⟩;have HS1:=qI (HS.out.below hgr.below HL.out);have hm:=cell_alloc HS1.out.m (.cells #[.int .i64 x.core,.int .i64 x.sock,.int .i64 x.node] 84);have hM:=HS1.out.left.alloc (.cells #[.int .i64 x.core,.int .i64 x.sock,.int .i64 x.node] 84);clear HO ht
 go_wp2_with (at_lookup;refine wpList_lookLeft _ rfl _ _ rfl mb n f x.core h0 h64 rfl rfl hM ?_)
 go_ret;exact ⟨rfl,hgr.alloc _⟩
end
section
open Go.RowKit
open Ost (Cpu cpu0 less)
theorem cmpOr_any (g c:Nat) (x y:Int) (w:World) (h0:w.cell? ⟨g,0,none⟩=some (.int .i64 x)) (h1:w.cell? ⟨g,1,none⟩=some (.int .i64 y)) :
  Calls Tryz.prog 76 #[.slice (some ⟨g,0,none⟩) 2 c] w fun e w'=>e=.returned (.int .i64 (if x=0 then y else x))∧w'=w:=by
 by_cases hx:x=0
 ·rw [if_pos hx];subst hx
  by_cases hy:y=0
  ·subst hy
   go_enter Tryz.func76,Tryz.ntmps76
   go_wp2_with fail
   refine wp_loop_rounds 3 ?_;rw [rounds_succ]
   go_wp2_with fail
   rw [rounds_succ]
   go_wp2_with fail
   rw [rounds_succ]
   go_wp2_with fail
   go_ret;exact ⟨rfl,rfl⟩
  ·have q:(y != 0)=true:=by rw [bne_iff_ne];exact hy
   clear hy
   go_enter Tryz.func76,Tryz.ntmps76
   go_wp2_with fail
   refine wp_loop_rounds 2 ?_;rw [rounds_succ]
   go_wp2_with fail
   rw [rounds_succ]
   go_wp2_with fail
   go_ret;exact ⟨rfl,rfl⟩
 ·rw [if_neg hx];have q:(x != 0)=true:=by rw [bne_iff_ne];exact hx
  clear hx
  go_enter Tryz.func76,Tryz.ntmps76
  go_wp2_with fail
  refine wp_loop_rounds 1 ?_;rw [rounds_succ]
  go_wp2_with fail
  go_ret;exact ⟨rfl,rfl⟩
def cfOf (cl:Nat→Nat) (x y:Nat):Int:=if Lib.compareInt (cl x) (cl y)=0 then Lib.compareInt x y else Lib.compareInt (cl x) (cl y)
theorem cmpInt_any (x y:Int) (w:World):Calls Tryz.prog 148 #[.int .i64 x,.int .i64 y] w fun e w'=>e=.returned (.int .i64 (Lib.compareInt x y))∧w'=w:=AnyG.cmp_Compare_int Tryz.cmpL x y w
theorem cmp_any (x y:Nat) (tc lc fc tb b o c mb n:Nat) (l:List Cpu) (f:Int→Int) (cl:Nat→Nat) (w:World) (h:Stand w tc lc fc tb b o c mb n l f) (hg:Good l) (hf:∀ k,f (l.getD k cpu0).core=(cl k:Nat)) :
  Calls Tryz.prog 253 #[.int .i64 x,.int .i64 y,.pointer (some ⟨fc,0,none⟩)] w fun e w'=>e=.returned (.int .i64 (cfOf cl x y))∧Grows w w':=by
 have HS:=qI h;have HL:=qI h.lts;have hg0:Grows w w.drew:=(Grows.refl w).drewN 1;have HB1:Hid (∀ W,Stand W tc lc fc tb b o c mb n l f→Calls Tryz.prog 249 #[.int .i64 x,.pointer (some ⟨tc,0,none⟩),.pointer (some ⟨lc,0,none⟩)] W fun e w'=>e=.returned (.int .i64 (cl x:Nat))∧Grows W w'):=fun W hW=>by
  rw [← hf x];exact beside_any x tc lc fc tb b o c mb n l f W hW hg
 have HB2:Hid (∀ W,Stand W tc lc fc tb b o c mb n l f→Calls Tryz.prog 249 #[.int .i64 y,.pointer (some ⟨tc,0,none⟩),.pointer (some ⟨lc,0,none⟩)] W fun e w'=>e=.returned (.int .i64 (cl y:Nat))∧Grows W w'):=fun W hW=>by
  rw [← hf y];exact beside_any y tc lc fc tb b o c mb n l f W hW hg
 have HE:Hid (cfOf cl x y=if Lib.compareInt (cl x) (cl y)=0 then Lib.compareInt x y else Lib.compareInt (cl x) (cl y)):=rfl;have HC1:=qI (fun W=>cmpInt_any (cl x) (cl y) W);have HC2:=qI (fun W=>cmpInt_any x y W);have HOr:=qI (fun g c W h0 h1=>cmpOr_any g c (Lib.compareInt (cl x) (cl y)) (Lib.compareInt x y) W h0 h1);rw [← HE.out] at HOr;generalize cfOf cl x y=r at *;generalize cl x=cx at *;generalize cl y=cy at *;generalize Lib.compareInt (cx:Int) (cy:Int)=d1 at *;generalize Lib.compareInt (x:Int) (y:Int)=d2 at *;clear HE h hf
 go_enter Tryz.func253,Tryz.ntmps253
 go_wp2_with fail
 refine wp_region_held_drew (S:=(fun w'=>w'.cell? ⟨fc,0,none⟩=some (.func (.func 249) #[] #[.pointer (some ⟨tc,0,none⟩),.pointer (some ⟨lc,0,none⟩)])∧Hid (Stand w' tc lc fc tb b o c mb n l f))) (by kernel_rfl) ⟨(HS.out.below hg0.below HL.out).fn,HS.out.below hg0.below HL.out⟩ (fun hHeld=>?_);refine tk 0 ?_;refine tk 1 ?_;refine tk 3 ?_;refine tk 4 ?_;refine tk 7 ?_;refine tk 8 ?_;refine rd 2 (fun K hK=>?_);go_simp
 go_wp2_with fail
 refine (HB1.out _ hHeld.2.out).mono ?_;rintro e w1 ⟨rfl,hg⟩;have hg1:=hg0.trans hg;clear hg
 go_wp2_with fail
 refine hK.out _ _ ⟨(HS.out.below hg1.below HL.out).fn,HS.out.below hg1.below HL.out⟩ (fun hHeld=>?_);clear hK K;refine rd 5 (fun K hK=>?_);go_simp
 go_wp2_with fail
 refine (HB2.out _ hHeld.2.out).mono ?_;rintro e w2 ⟨rfl,hg⟩;have hg2:=hg1.trans hg;clear hg
 go_wp2_with fail
 refine hK.out _ _ ⟨(HS.out.below hg2.below HL.out).fn,HS.out.below hg2.below HL.out⟩ (fun hHeld=>?_);clear hK K;refine rd 6 (fun K hK=>?_);go_simp
 go_wp2_with fail
 refine (HC1.out _).mono ?_;rintro e w3 ⟨rfl,rfl⟩
 go_wp2_with fail
 refine hK.out _ _ hHeld (fun hHeld=>?_);clear hK K;refine rd 9 (fun K hK=>?_);go_simp
 go_wp2_with fail
 refine (HC2.out _).mono ?_;rintro e w4 ⟨rfl,rfl⟩
 go_wp2_with fail
 refine hK.out _ _ hHeld (fun hHeld=>?_);clear hK K;refine rd 10 (fun K hK=>?_);go_simp;have hg4:=hg2.alloc (.cells #[.int .i64 d1,.int .i64 d2] 3);have c0:(w4.alloc (.cells #[.int .i64 d1,.int .i64 d2] 3)).cell? ⟨w4.heap.size,0,none⟩=some (.int .i64 d1):=by simp
 have c1:(w4.alloc (.cells #[.int .i64 d1,.int .i64 d2] 3)).cell? ⟨w4.heap.size,1,none⟩=some (.int .i64 d2):=by simp
 refine hK.out _ _ ⟨(HS.out.below hg4.below HL.out).fn,HS.out.below hg4.below HL.out⟩ (fun hHeld=>?_);clear hK K;refine rd 11 (fun K hK=>?_);go_simp
 go_wp2_with fail
 refine (HOr.out _ _ _ c0 c1).mono ?_;rintro e w5 ⟨rfl,rfl⟩
 go_wp2_with fail
 refine hK.out _ _ hHeld (fun hHeld=>?_);clear hK K;refine tk 12 ?_;refine wpAnyH_done (by kernel_rfl) ?_ _
 go_wp2_with fail
 go_ret;exact ⟨rfl,hg4⟩
end
section
open Go.RowKit
open Go.Sort
open Ost (Cpu cpu0 less order)
theorem cf_lt (cl:Nat→Nat) (x y:Nat):ltOf (cfOf cl) x y=less cl x y:=by
 unfold ltOf cfOf Lib.compareInt less;rw [Bool.eq_iff_iff]
 by_cases h1:(cl x:Int)<cl y
 ·have h3:cl x<cl y:=by omega
  simp [h3]
 ·by_cases h2:(cl y:Int)<cl x
  ·have h3:¬ cl x<cl y:=by omega
   have h4:¬ cl x=cl y:=by omega
   have h5:cl y<cl x:=by omega
   simp [h3,h4,h5]
  ·have h3:cl x=cl y:=by omega
   by_cases h4:x<y
   ·simp [h3,h4]
   ·by_cases h5:y<x
    ·simp [h3,h4,h5]
    ·simp [h3,h4,h5]
theorem swoCf (cl:Nat→Nat):SWO (ltOf (cfOf cl)) where
 irrefl x:=by rw [cf_lt];simp [less]
 trans x y z h1 h2:=by rw [cf_lt] at *;simp [less] at *;omega
 ntrans x y z h1 h2:=by rw [cf_lt] at *;simp [less] at *;omega
theorem totCf (cl:Nat→Nat) (x y:Nat) (h1:ltOf (cfOf cl) x y=false) (h2:ltOf (cfOf cl) y x=false):x=y:=by
 rw [cf_lt] at h1 h2;exact Ost.less_total h1 h2
def RowIs (w:World) (v:Value) (L:List Nat):Prop:=
 (L=[]∧v=.slice none 0 0)∨∃ g c,v=.slice (some ⟨g,0,none⟩) L.length c∧L.length≤c∧∀ k,k<L.length→w.cell? ⟨g,k,none⟩=some (.int .i64 ((L.getD k 0:Nat):Int))
def encN (n:Nat):Value:=Value.int .i64 (n:Int)
theorem below_sortN (w:World) (K blk off m:Nat) (dk:Array Nat) (os:Array Obj) (hK:K≤blk) (hw:K≤w.heap.size):Below K w (sortWorld encN w blk off m dk os):=below_sort w K blk off m dk os hK hw
theorem holds_row {w:World} {g:Nat} {cur:Array Value} {e:TypeId} {L:List Nat} (hg:w.heap[g]?=some (.cells cur e (0,0))) (ht:cur.toList.take (L.length*1)=nums L):Holds encN w g 0 L.toArray:=by
 intro j hj;have hj2:j<L.length:=by simpa using hj
 have hc:cur[j]?=some (.int .i64 ((L.getD j 0:Nat):Int)):=by
  have h1:(cur.toList.take (L.length*1))[j]?=some (.int .i64 ((L.getD j 0:Nat):Int)):=by
   rw [ht];simp [nums,hj2]
  rw [List.getElem?_take] at h1;rw [if_pos (by omega)] at h1
  simpa using h1
 have hd:L.toArray[j]! = L.getD j 0:=by simp [hj2]
 refine ⟨?_,?_⟩
 ·rw [hd];unfold World.cell?;rw [hg];simp [hc,encN]
 ·unfold World.frozen?;rw [hg];simp
theorem sort_any (v:Value) (A K:Nat) (tc lc fc tb b o c mb n:Nat) (l:List Cpu) (f:Int→Int) (cl:Nat→Nat) (w:World) (hrow:w.ownsRow K 3 1 v (Ost.listTo A 64).length (nums (Ost.listTo A 64))) (hw:K≤w.heap.size)
  (h:Stand w tc lc fc tb b o c mb n l f) (hK:tc<K∧lc<K∧fc<K∧tb<K∧b<K∧mb<K) (hg:Good l) (hf:∀ k,f (l.getD k cpu0).core=(cl k:Nat)) :
  Calls Tryz.prog 252 #[v,.func (.func 253) #[] #[.pointer (some ⟨fc,0,none⟩)]] w fun e w'=>e=.returned (.tuple #[])∧RowIs w' v (order cl A)∧Below K w w':=by
 rcases hrow.2 with ⟨rfl,hn0⟩|⟨g,cap,cur,rfl,hbg,hgg,hcap,_,_,htk⟩
 ·have hL:order cl A=[]:=by
   have:=Ost.order_length cl A
   unfold Ost.cnt at this;exact List.length_eq_zero_iff.1 (by omega)
  have hS:=AnyF.slices_SortFunc_none (P:=Tryz.prog) (ρ:=Tryz.sortL_ren) { Tryz.sortL with } none 0 (.func (.func 253) #[] #[.pointer (some ⟨fc,0,none⟩)]) w
  change Calls Tryz.prog 252 _ _ _ at hS
  exact hS.mono fun e w' ⟨he,hw'⟩=>⟨he,.inl ⟨hL,rfl⟩,by rw [hw'];exact Below.refl _ _⟩
 ·have hH:Holds encN w g 0 (Ost.listTo A 64).toArray:=holds_row hgg htk;have hblk:g<w.heap.size:=by
   rcases Nat.lt_or_ge g w.heap.size with hlt|hge
   ·exact hlt
   ·rw [Array.getElem?_eq_none hge] at hgg;cases hgg
  have eg:∀ args w,(callFunc 253 args).run Tryz.prog w=.ok (.enter 253 args) w:=enters_of Tryz.func253 (by kernel_rfl) rfl;have hcmp:CmpLays1 Tryz.prog 253 #[.pointer (some ⟨fc,0,none⟩)] encN (cfOf cl) g 0 (Ost.listTo A 64).toArray.size w:=fun m os dk _ x y=>
   cmp_any x y tc lc fc tb b o c mb n l f cl _ (h.below (below_sortN w K g 0 m dk os hbg hw) hK) hg hf
  have h64:=listTo_le A 64;have hS:=Any.slices_SortFunc_total Tryz.sortL encN (fun _=>rfl) (cfOf cl) (swoCf cl) 253 #[.pointer (some ⟨fc,0,none⟩)] g 0 cap (Ost.listTo A 64).toArray w eg hcmp hH hblk (by simp;omega) (totCf cl)
  change Calls Tryz.prog 252 _ _ _ at hS
  have hord:(fun x y:Nat=>!ltOf (cfOf cl) y x)=fun x y=>!less cl y x:=by funext x y;rw [cf_lt]
  rw [hord] at hS;have hz:(Ost.listTo A 64).toArray.size=(Ost.listTo A 64).length:=by simp
  rw [hz] at hS;refine hS.mono fun e w' ⟨he,q,os,hw'⟩=>⟨he,?_,?_⟩
  ·have hlen:(order cl A).length=(Ost.listTo A 64).length:=Ost.order_length cl A;have hh:=holds_sortWorld encN w g 0 q (Ost.listTo A 64).toArray (order cl A).toArray os hblk hH (by simp [hlen]);have e2:((Ost.listTo A 64).toArray.toList.mergeSort fun x y=>!less cl y x).toArray=(order cl A).toArray:=rfl;rw [e2] at hw';refine .inr ⟨g,cap,by rw [hlen],by omega,fun k hk=>?_⟩
   have:=(hh k (by simpa using hk)).1
   rw [hw',← Nat.zero_add k,this]
   simp [encN,hk]
  ·rw [hw'];exact below_sortN w K g 0 q _ os hbg hw
end
section
open Go.RowKit Go.ChangeMaps
open Go.Maps (Keyed int_keyed keyOf_int_mk)
open Ost (Cpu cpu0 chosen cnt dif singles coreAt order)
def leftTo (l:List Cpu) (F k:Nat) (j:Int):Int:=if 0≤j∧j<k then (cnt (coreAt l j.toNat &&& F):Nat) else 0
theorem leftTo_zero (l:List Cpu) (F:Nat):leftTo l F 0=fun _=>0:=by
 funext j;unfold leftTo;rw [if_neg (by omega)]
theorem leftTo_step (l:List Cpu) (F k:Nat):(fun j=>if (k:Int)=j then ((cnt (coreAt l k &&& F):Nat):Int) else leftTo l F k j)=leftTo l F (k+1):=by
 funext j
 unfold leftTo
 by_cases h:(k:Int)=j
 ·rw [if_pos h,if_pos (by omega),← h];simp
 ·rw [if_neg h]
  by_cases h2:0≤j∧j<k
  ·rw [if_pos h2,if_pos (by omega)]
  ·rw [if_neg h2,if_neg (by omega)]
theorem leftTo_at {l:List Cpu} (hg:Good l) (F n:Nat):leftTo l F 64 (l.getD n cpu0).core=(Ost.leftOf l F n:Nat):=by
 obtain ⟨h0,h64⟩:=core_in hg n;unfold leftTo;rw [if_pos ⟨h0,by omega⟩]
 have:coreAt l (l.getD n cpu0).core.toNat=chosen (fun x=>x.core == (l.getD n cpu0).core) l:=by
  unfold coreAt Ost.at';rw [Int.toNat_of_nonneg h0]
 rw [this];rfl
theorem wp_putLeft {o:Oper} {a:Act} {N:Act→World→Prop} {Q:Exit→Act→World→Prop} (w:World) (m x v:Operand) (hop:o.op=Op.mapUpdate 349 m x v)
  (B n:Nat) (f:Int→Int) (k:Int) (h0:0≤k) (h64:k<64) (y:Nat) (hy:y≤64) (hm:a.eval m=.map (some B)) (hx:a.eval x=.int .i64 k) (hv:a.eval v=.int .i64 y) (hM:LeftIs w B n f) (hn:n<maxLen)
  (hK:∀ w',LeftIs w' B (n+1) (fun j=>if k=j then y else f j)→w.grownBy w' (some B)→N (a.put o.dst undef) w') :
  o.wp Tryz.prog a w N Q:=by
 obtain ⟨D,ho,hk⟩:=hM;obtain ⟨w',hrun,r1,r2⟩:=ho.update (e:=3) keyLaw Tryz.underlying349 hn (keyOf_int_mk Tryz.underlying3 (wf64 h0 h64)) (plainElem_int Tryz.underlying3 (WalkArith.wf_i64 (n:=(y:Int)) (by omega)));unfold Oper.wp
 simp [execOp,hop,hm,hx,hv,hrun,Result.andThen]
 refine hK w' ⟨_,r1,fun j j0 j64=>?_⟩ r2
 by_cases e:k=j
 ·subst e;have hkl:WideAt.IsKeyLit (Lit.int .i64 k):=trivial;rw [Maps.atKey_put_same ho.isMap hkl]
  simp
 ·have hne:(Lit.int .i64 j)≠(Lit.int .i64 k):=by simp;omega
  rw [Maps.atKey_put_other hne];simp only [if_neg e];exact hk j j0 j64
structure Fill (wr w:World) (tb b o c:Nat) (l:List Cpu) (F k:Nat):Prop where
 t:wr.cell? ⟨w.heap.size,0,none⟩=some (.pointer (some ⟨tb,0,none⟩))
 m:wr.cell? ⟨w.heap.size+1+1,0,none⟩=some (.map (some (w.heap.size+1)))
 topo0:TopoAt w tb b o c l
 left:LeftIs wr (w.heap.size+1) k (leftTo l F k)
 bel:Below w.heap.size w wr
theorem Fill.below {wr wr' w:World} {tb b o c:Nat} {l:List Cpu} {F k:Nat} (h:Fill wr w tb b o c l F k) (hb:Below wr.heap.size wr wr'):Fill wr' w tb b o c l F k:=
 ⟨(hb.cell (p:=⟨w.heap.size,0,none⟩) (World.block_lt_of_cell? wr _ h.t)).trans h.t,(hb.cell (p:=⟨w.heap.size+1+1,0,none⟩) (World.block_lt_of_cell? wr _ h.m)).trans h.m,h.topo0,h.left.below hb h.left.lt,h.bel.trans (hb.mono h.bel.size)⟩
theorem Fill.topo {wr w:World} {tb b o c:Nat} {l:List Cpu} {F k:Nat} (h:Fill wr w tb b o c l F k):TopoAt wr tb b o c l:=h.topo0.below h.bel
theorem Fill.put {wr wr' w:World} {tb b o c:Nat} {l:List Cpu} {F k:Nat} (h:Fill wr w tb b o c l F k) (hm:LeftIs wr' (w.heap.size+1) (k+1) (leftTo l F (k+1))) (hgr:wr.grownBy wr' (some (w.heap.size+1))):Fill wr' w tb b o c l F (k+1):=
 ⟨hgr.cell h.t (by simp),hgr.cell h.m (by simp),h.topo0,hm,h.bel.grown hgr h.bel.size (fun j hj=>by cases hj;omega)⟩
theorem Fill.drew {wr w:World} {tb b o c:Nat} {l:List Cpu} {F k:Nat} (h:Fill wr w tb b o c l F k):Fill wr.drew w tb b o c l F k:=h.below (below_drewN (Below.refl _ _) 1)
theorem Fill.stand {wr w:World} {tb b o c:Nat} {l:List Cpu} {F:Nat} (h:Fill wr w tb b o c l F 64):Stand (wr.alloc (.cells #[.func (.func 249) #[] #[.pointer (some ⟨w.heap.size,0,none⟩),.pointer (some ⟨w.heap.size+1+1,0,none⟩)]] 253)) w.heap.size (w.heap.size+1+1) wr.heap.size tb b o c (w.heap.size+1) 64 l (leftTo l F 64):=
 ⟨cell_alloc h.t _,cell_alloc h.m _,by simp,h.topo.below ((Below.refl _ _).alloc (Nat.le_refl _) _),h.left.alloc _⟩
theorem fill_start {w:World} {tb b o c:Nat} {l:List Cpu} (ht:TopoAt w tb b o c l) (F:Nat):Fill (((w.alloc (.cells #[.pointer (some ⟨tb,0,none⟩)] 93)).alloc (.map #[] 0)).alloc (.cells #[.map (some (w.heap.size+1))] 349)) w tb b o c l F 0:=by
 have hB:=(((Below.refl w.heap.size w).alloc (Nat.le_refl _) (.cells #[.pointer (some ⟨tb,0,none⟩)] 93)).alloc (by simp) (.map #[] 0)).alloc (by simp;omega) (.cells #[.map (some (w.heap.size+1))] 349);have hM:=(LeftIs.made (w.alloc (.cells #[.pointer (some ⟨tb,0,none⟩)] 93))).alloc (.cells #[.map (some (w.heap.size+1))] 349);have e:(w.alloc (.cells #[.pointer (some ⟨tb,0,none⟩)] 93)).heap.size=w.heap.size+1:=by simp
 rw [e,← leftTo_zero l F] at hM;exact ⟨by go_simp,by go_simp,ht,hM,hB⟩
theorem singles_any (tb b o c F:Nat) (L:Int) (l:List Cpu) (w:World) (ht:TopoAt w tb b o c l) (hg:Good l) (hF:F<18446744073709551616) (h0:0≤L) (hL:L≤64) :
  Calls Tryz.prog 207 #[.pointer (some ⟨tb,0,none⟩),.int .u64 F,.int .i64 L] w fun e w'=>e=.returned (.int .u64 (singles (Ost.leftOf l F) F L.toNat:Nat))∧Below w.heap.size w w':=by
 have hmm:=@run_makeMap Tryz.prog;have h64:=ht.len;have HG:=qI hg;have HF0:=qI (fill_start ht F);clear ht hg
 go_enter Tryz.func207,Tryz.ntmps207
 go_wp2_with fail
 go_loopw [15] (fun i wr=>∃ k:Nat,k≤64∧i=.int .i64 k∧Hid (Fill wr w tb b o c l F k)) (fun i _=>64 - (intOf i).toNat)
 case atStart=>exact ⟨0,by omega,rfl,HF0.out⟩
 case round=>
  clear HF0;obtain ⟨k,hk,hi,HFl⟩:=hrel
  by_cases hlt:k<64
  ·subst hi;have HCo:Hid (∀ W,TopoAt W tb b o c l→Calls Tryz.prog 206 #[.pointer (some ⟨tb,0,none⟩),.int .i64 k] W fun e w'=>e=.returned (.int .u64 (coreAt l k:Nat))∧Below W.heap.size W w'):=fun W hW=>core_any tb b o c l k W hW
   have hck:=Ost.at_lt (·.core) h64 k
   change coreAt l k<_ at hck
   have HCn:Hid (∀ W,Calls Tryz.prog 17 #[.int .u64 (bits BinOp.and IntKind.u64 (coreAt l k:Nat) (F:Nat))] W fun e w'=>e=.returned (.int .i64 (cnt (coreAt l k &&& F):Nat))∧w'=W):=fun W=>by
    rw [bits_and_u64_nat _ _ hck hF];exact bitsCount_any _ W (Ost.sub_lt hck (Ost.and_sub _ F))
   have hcs:cnt (coreAt l k &&& F)≤64:=listTo_le _ 64;have HSt:=qI (leftTo_step l F k);generalize hcc:cnt (coreAt l k &&& F)=cc at *;clear hcc;generalize coreAt l k=ck at *;have hF0:=HFl.out.drew
   go_wp2_with fail
   refine wp_region_held_drew (S:=(fun w'=>w'.cell? ⟨w.heap.size+1+1,0,none⟩=some (.map (some (w.heap.size+1)))∧w'.cell? ⟨w.heap.size,0,none⟩=some (.pointer (some ⟨tb,0,none⟩)))) (by kernel_rfl) ⟨hF0.m,hF0.t⟩ (fun hHeld=>?_);refine tk 0 ?_;refine tk 1 ?_;refine tk 2 ?_;refine tk 3 ?_;refine tk 5 ?_;refine rd 4 (fun K hK=>?_);go_simp
   go_wp2_with fail
   refine (HCo.out _ hF0.topo).mono ?_;rintro e w1 ⟨rfl,hb⟩;have hF1:=hF0.below hb;clear hb
   go_wp2_with fail
   refine hK.out _ _ ⟨hF1.m,hF1.t⟩ (fun hHeld=>?_);clear hK K;refine tk 6 ?_;refine rd 7 (fun K hK=>?_);go_simp
   go_wp2_with fail
   refine (HCn.out _).mono ?_;rintro e w2 ⟨rfl,rfl⟩
   go_wp2_with fail
   refine hK.out _ _ hHeld (fun hHeld=>?_);clear hK K;refine rd 8 (fun K hK=>?_);rw [if_pos (by rfl)];refine wp_putLeft _ _ _ _ rfl (w.heap.size+1) k (leftTo l F k) k (by omega) (by omega) cc hcs rfl rfl rfl hF1.left (by unfold maxLen;omega) ?_;intro w3 hM3 hgr3;rw [HSt.out] at hM3;have hF3:=qI (hF1.put hM3 hgr3);clear hM3 hgr3;refine hK.out _ _ ⟨hF3.out.m,hF3.out.t⟩ (fun hHeld=>?_);clear hK K;refine wpAnyH_done (by kernel_rfl) ?_ _
   go_wp2_with fail
   go_roundw
   case rel=>exact ⟨k+1,by omega,by go_num,hF3⟩
   case measure=>simp [intOf];omega
  ·have hk64:k=64:=by omega
   subst hk64;have hi2:_=Value.int .i64 64:=hi;clear hk hlt hi;subst hi2;have HS:=qI HFl.out.stand;have hBl:=HFl.out.bel.alloc HFl.out.bel.size (.cells #[.func (.func 249) #[] #[.pointer (some ⟨w.heap.size,0,none⟩),.pointer (some ⟨w.heap.size+1+1,0,none⟩)]] 253);have HB4:=qI hBl;clear hBl
   go_wp2_with fail
   generalize wr.alloc (.cells #[.func (.func 249) #[] #[.pointer (some ⟨w.heap.size,0,none⟩),.pointer (some ⟨w.heap.size+1+1,0,none⟩)]] 253)=W4 at *;refine (list_any F W4 hF).mono ?_;rintro e w5 ⟨v,rfl,hrow,hb5⟩;have HSort:=qI (sort_any v F W4.heap.size w.heap.size (w.heap.size+1+1) wr.heap.size tb b o c (w.heap.size+1) 64 l (leftTo l F 64) (Ost.leftOf l F) w5 hrow hb5.size (HS.out.below hb5 HS.out.lts) HS.out.lts HG.out (leftTo_at HG.out F));have hB5:=qI (HB4.out.trans (hb5.mono HB4.out.size));clear hrow hb5 HS
   go_wp2_with fail
   refine HSort.out.mono ?_;rintro e w6 ⟨rfl,hrow6,hb6⟩;have hB6:=qI (hB5.out.trans (hb6.mono HB4.out.size));clear hb6 HSort hB5 HB4 HFl;have hlen:(order (Ost.leftOf l F) F).length≤64:=by rw [Ost.order_length];exact listTo_le F 64
   have HSg:Hid (singles (Ost.leftOf l F) F L.toNat=Ost.orB ((order (Ost.leftOf l F) F).take L.toNat)):=rfl;have H64:Hid (∀ n∈order (Ost.leftOf l F) F,n<64):=fun n hn=>(Ost.order_mem.1 hn).1
   generalize order (Ost.leftOf l F) F=R at *
   rcases hrow6 with ⟨rfl,rfl⟩|⟨g,cp,rfl,hcp,hcell⟩
   ·have hmin:min L 0=0:=by omega
    have HR:Hid (singles (Ost.leftOf l F) F L.toNat=0):=by unfold Hid;rw [HSg.out];simp [Ost.orB]
    go_wp2_with fail
    refine wp_loop_rounds 1 ?_;rw [rounds_succ]
    go_wp2_with fail
    go_ret;exact ⟨by rw [HR.out];rfl,hB6.out⟩
   ·have HCl:=qI hcell;clear hcell;obtain ⟨M,hM,hmin⟩:∃ M:Nat,M=min L.toNat R.length∧min L (R.length:Int)=(M:Int):=⟨min L.toNat R.length,rfl,by omega⟩;have HR:Hid (singles (Ost.leftOf l F) F L.toNat=Ost.orB (R.take M)):=by
     unfold Hid;rw [HSg.out]
     congr 1
     rw [List.take_eq_take_iff];omega
    have hMR:M≤R.length:=by omega
    clear hM HSg
    go_wp2_with fail
    go_loop [11,40] (fun t i=>∃ k:Nat,k≤M∧i=.int .i64 k∧t=.int .u64 (Ost.orB (R.take k):Nat)) (fun _ i=>M - (intOf i).toNat)
    case atStart=>exact ⟨0,by omega,rfl,rfl⟩
    case round=>
     obtain ⟨k,hk,rfl,rfl⟩:=hrel
     by_cases hlt:k<M
     ·have hkR:k<R.length:=by omega
      have hcell:=HCl.out k hkR;have hz:=H64.out (R.getD k 0) (by simp [hkR]);have hts:R.take (k+1)=R.take k++[R.getD k 0]:=by
       rw [List.take_succ_eq_append_getElem hkR];simp [hkR]
      have hol:Ost.orB (R.take k)<18446744073709551616:=by
       apply Nat.lt_pow_two_of_testBit (n:=64);intro i hi;rw [Ost.orB_bit];exact decide_eq_false (fun hm=>by have:=H64.out i (List.mem_of_mem_take hm);omega)
      have HO:=qI (or_step (Ost.orB (R.take k)) (R.getD k 0) hol hz);have HT:Hid (Ost.orB (R.take k) ||| 2 ^ (R.getD k 0)=Ost.orB (R.take (k+1))):=by unfold Hid;rw [hts,Ost.orB_snoc]
      rw [HT.out] at HO;clear hts HT;generalize R.getD k 0=z at *
      go_wp2_with fail
      go_round
      case rel=>exact ⟨k+1,by omega,by go_num,by rw [← HO.out]⟩
      case measure=>simp [intOf];omega
     ·have hkM:k=M:=by omega
      have HE:Hid (Ost.orB (R.take k)=singles (Ost.leftOf l F) F L.toNat):=by unfold Hid;rw [HR.out,hkM]
      rw [HE.out];clear hkM HE
      go_wp2_with fail
      go_ret;exact ⟨rfl,hB6.out⟩
end
section
open Go.RowKit
open Ost (Cpu cpu0 chosen cnt dif wholesTo wholes sockAt coreAt some1 some2 someOf singles takeOut)
theorem or64' (a b:Nat) (ha:a<18446744073709551616) (hb:b<18446744073709551616):bits BinOp.or IntKind.u64 (a:Int) (b:Int)=((a ||| b:Nat):Int):=bits_or_u64_nat a b ha hb
theorem some_any (tb b o c F:Nat) (L:Int) (l:List Cpu) (w:World) (ht:TopoAt w tb b o c l) (hg:Good l) (hF:F<18446744073709551616) (h0:0≤L) (hL:L≤64) :
  Calls Tryz.prog 165 #[.pointer (some ⟨tb,0,none⟩),.int .u64 F,.int .i64 L] w fun e w'=>e=.returned (.int .u64 (someOf l F L:Nat))∧Below w.heap.size w w':=by
 have HT:=qI ht;have h64:=ht.len;have HG:=qI hg;clear ht hg;have hmf:∀ (fn:Fn) (first cap:Array Value) (w:World),(Instr.makeFunc fn first cap).run Tryz.prog w=.ok (.func fn first cap) w:=fun _ _ _ _=>rfl
 have k1:=Ost.some1_cnt l F L h0;have s1:=Ost.sub_lt hF (Ost.some1_sub l F L);have HW1:Hid (Calls Tryz.prog 204 #[.func (.func 205) #[.pointer (some ⟨tb,0,none⟩)] #[],.int .u64 F,.int .i64 L] w fun e w'=>e=.returned (.int .u64 (some1 l F L:Nat))∧Below w.heap.size w w'):=wholesSock tb b o c F L l w HT.out hF h0 hL;have HE1:Hid (some2 l F L=some1 l F L ||| wholes (coreAt l) (dif F (some1 l F L)) (L - cnt (some1 l F L))):=rfl;have HE2:Hid (someOf l F L=some2 l F L ||| singles (Ost.leftOf l (dif F (some2 l F L))) (dif F (some2 l F L)) (L - cnt (some2 l F L)).toNat):=rfl;have k2:=Ost.some2_cnt l F L h0;have s2:=Ost.sub_lt hF (Ost.some2_sub l F L);generalize someOf l F L=s3 at *;generalize some2 l F L=sb at *;generalize some1 l F L=sa at *;have HN1:=qI (andNot64 F sa hF s1);have d1:=Ost.dif_lt (A:=F) sa hF;have HC1:Hid (∀ W,Calls Tryz.prog 17 #[.int .u64 sa] W fun e w'=>e=.returned (.int .i64 (cnt sa:Nat))∧w'=W):=fun W=>bitsCount_any sa W s1
 have HN2:=qI (andNot64 F sb hF s2);have d2:=Ost.dif_lt (A:=F) sb hF;have HC2:Hid (∀ W,Calls Tryz.prog 17 #[.int .u64 sb] W fun e w'=>e=.returned (.int .i64 (cnt sb:Nat))∧w'=W):=fun W=>bitsCount_any sb W s2
 have hw2:wholes (coreAt l) (dif F sa) (L - cnt sa)<18446744073709551616:=Ost.wholesTo_lt _ _ _ _ d1;have HO1:=qI (or64' sa (wholes (coreAt l) (dif F sa) (L - cnt sa)) s1 hw2);have hw3:singles (Ost.leftOf l (dif F sb)) (dif F sb) (L - cnt sb).toNat<18446744073709551616:=Ost.sub_lt d2 (Ost.singles_sub _ _ _);have HO2:=qI (or64' sb (singles (Ost.leftOf l (dif F sb)) (dif F sb) (L - cnt sb).toNat) s2 hw3);rw [← HE1.out] at HO1;rw [← HE2.out] at HO2;clear HE1 HE2;generalize cnt sa=ca at *;generalize cnt sb=cb at *;have HK1:Hid (∀ W,TopoAt W tb b o c l→Calls Tryz.prog 204 #[.func (.func 206) #[.pointer (some ⟨tb,0,none⟩)] #[],.int .u64 (dif F sa:Nat),.int .i64 (L - ca)] W fun e w'=>e=.returned (.int .u64 (wholes (coreAt l) (dif F sa) (L - ca):Nat))∧Below W.heap.size W w'):=fun W hW=>wholesCore tb b o c (dif F sa) (L - ca) l W hW d1 (by omega) (by omega)
 have HK2:Hid (∀ W,TopoAt W tb b o c l→Calls Tryz.prog 207 #[.pointer (some ⟨tb,0,none⟩),.int .u64 (dif F sb:Nat),.int .i64 (L - cb)] W fun e w'=>e=.returned (.int .u64 (singles (Ost.leftOf l (dif F sb)) (dif F sb) (L - cb).toNat:Nat))∧Below W.heap.size W w'):=fun W hW=>singles_any tb b o c (dif F sb) (L - cb) l W hW HG.out d2 (by omega) (by omega)
 generalize wholes (coreAt l) (dif F sa) (L - ca)=ws at *;generalize singles (Ost.leftOf l (dif F sb)) (dif F sb) (L - cb).toNat=ss at *
 go_enter Tryz.func165,Tryz.ntmps165
 go_wp2_with fail
 refine HW1.out.mono ?_;rintro e w1 ⟨rfl,hb⟩;have HT1:=qI (HT.out.below hb);have hB1:=qI hb;clear HT hb HW1;have n1:=HN1.out
 go_wp2_with fail
 refine (HC1.out _).mono ?_;rintro e w2 ⟨rfl,rfl⟩
 go_wp2_with fail
 refine (HK1.out _ HT1.out).mono ?_;rintro e w3 ⟨rfl,hb⟩;have HT2:=qI (HT1.out.below hb);have hB2:=qI (hB1.out.trans (hb.mono hB1.out.size));clear HT1 hB1 hb n1 HN1;have n2:=HN2.out;have o1:=HO1.out
 go_wp2_with fail
 refine (HC2.out _).mono ?_;rintro e w2 ⟨rfl,rfl⟩
 go_wp2_with fail
 refine (HK2.out _ HT2.out).mono ?_;rintro e w4 ⟨rfl,hb⟩;have hB3:=qI (hB2.out.trans (hb.mono hB2.out.size));clear HT2 hB2 hb n2 HN2;have o2:=HO2.out
 go_wp2_with fail
 go_ret;exact ⟨rfl,hB3.out⟩
def tookV (r:Nat × Int):Value:=.tuple #[.int .u64 (r.1:Nat),errV r.2]
theorem tookV_0 (s:Nat):tookV (s,0)=.tuple #[.int .u64 s,.nilIface]:=rfl
theorem tookV_1:tookV (0,1)=.tuple #[.int .u64 0,.iface 121 (.int .i64 1)]:=rfl
theorem tookV_8:tookV (0,8)=.tuple #[.int .u64 0,.iface 121 (.int .i64 8)]:=rfl
theorem take_out (tb F on:Nat) (L:Int) (l:List Cpu) (w:World) (h:L<0∨64<L) :
  Calls Tryz.prog 128 #[.pointer (some ⟨tb,0,none⟩),.int .u64 F,.int .i64 L,.int .u8 on] w fun e w'=>e=.returned (tookV (takeOut l F L (chosen (onMask on) l)))∧Below w.heap.size w w':=by
 have HE:Hid (takeOut l F L (chosen (onMask on) l)=(0,1)):=by unfold Hid takeOut;rw [if_pos (by omega)]
 rw [HE.out,tookV_1];have key:L<0∨(0≤L∧64<L):=by omega
 clear h HE
 rcases key with h|⟨h,h2⟩
 all_goals
  go_enter Tryz.func128,Tryz.ntmps128
  go_wp2_with fail
  go_ret2;exact ⟨rfl,Below.refl _ _⟩
theorem take_strange (tb b o c F on:Nat) (L:Int) (l:List Cpu) (w:World) (ht:TopoAt w tb b o c l) (hF:F<18446744073709551616) (h0:0≤L) (hL:L≤64) (h:¬ F &&& chosen anyCpu l=F) :
  Calls Tryz.prog 128 #[.pointer (some ⟨tb,0,none⟩),.int .u64 F,.int .i64 L,.int .u8 on] w fun e w'=>e=.returned (tookV (takeOut l F L (chosen (onMask on) l)))∧Below w.heap.size w w':=by
 have HE:Hid (takeOut l F L (chosen (onMask on) l)=(0,1)):=by unfold Hid takeOut;rw [if_pos (.inr (.inr h))]
 rw [HE.out,tookV_1];have HA:=qI (all_any tb b o c l w ht);have hA:chosen anyCpu l<18446744073709551616:=Ost.chosenTo_lt anyCpu l _ ht.len;have HI:=qI (fun W=>inside_any F (chosen anyCpu l) W hF hA);rw [decide_eq_false h] at HI;clear h HE ht
 go_enter Tryz.func128,Tryz.ntmps128
 go_wp2_with fail
 refine HA.out.mono ?_;rintro e w1 ⟨rfl,hb⟩
 go_wp2_with fail
 refine (HI.out _).mono ?_;rintro e w2 ⟨rfl,rfl⟩
 go_wp2_with fail
 go_ret2;exact ⟨rfl,hb⟩
theorem take_few (tb b o c F on:Nat) (L:Int) (l:List Cpu) (w:World) (ht:TopoAt w tb b o c l) (hF:F<18446744073709551616) (h0:0≤L) (hL:L≤64) (h:F &&& chosen anyCpu l=F) (hc:(cnt F:Int)<L) :
  Calls Tryz.prog 128 #[.pointer (some ⟨tb,0,none⟩),.int .u64 F,.int .i64 L,.int .u8 on] w fun e w'=>e=.returned (tookV (takeOut l F L (chosen (onMask on) l)))∧Below w.heap.size w w':=by
 have HE:Hid (takeOut l F L (chosen (onMask on) l)=(0,8)):=by
  unfold Hid takeOut;rw [if_neg (fun hh=>by rcases hh with hh|hh|hh;omega;omega;exact hh h),if_pos hc]
 rw [HE.out,tookV_8];have HA:=qI (all_any tb b o c l w ht);have hA:chosen anyCpu l<18446744073709551616:=Ost.chosenTo_lt anyCpu l _ ht.len;have HI:=qI (fun W=>inside_any F (chosen anyCpu l) W hF hA);rw [decide_eq_true h] at HI;have HC:Hid (∀ W,Calls Tryz.prog 17 #[.int .u64 F] W fun e w'=>e=.returned (.int .i64 (cnt F:Nat))∧w'=W):=fun W=>bitsCount_any F W hF
 generalize cnt F=cF at *;clear h HE ht
 go_enter Tryz.func128,Tryz.ntmps128
 go_wp2_with fail
 refine HA.out.mono ?_;rintro e w1 ⟨rfl,hb⟩
 go_wp2_with fail
 refine (HI.out _).mono ?_;rintro e w2 ⟨rfl,rfl⟩
 go_wp2_with fail
 refine (HC.out _).mono ?_;rintro e w2 ⟨rfl,rfl⟩
 go_wp2_with fail
 go_ret2;exact ⟨rfl,hb⟩
theorem take_some (tb b o c F on:Nat) (L:Int) (l:List Cpu) (w:World) (ht:TopoAt w tb b o c l) (hg:Good l) (hF:F<18446744073709551616) (hon:on<256) (h0:0≤L) (hL:L≤64) (h:F &&& chosen anyCpu l=F) (hc:L≤(cnt F:Int)) :
  Calls Tryz.prog 128 #[.pointer (some ⟨tb,0,none⟩),.int .u64 F,.int .i64 L,.int .u8 on] w fun e w'=>e=.returned (tookV (takeOut l F L (chosen (onMask on) l)))∧Below w.heap.size w w':=by
 have HE:=qI (Ost.take_good (l:=l) (F:=F) (L:=L) (chosen (onMask on) l) h0 hL h hc);rw [HE.out,tookV_0];have HA:=qI (all_any tb b o c l w ht);have hA:chosen anyCpu l<18446744073709551616:=Ost.chosenTo_lt anyCpu l _ ht.len;have hM:chosen (onMask on) l<18446744073709551616:=Ost.chosenTo_lt _ l _ ht.len;have HI:=qI (fun W=>inside_any F (chosen anyCpu l) W hF hA);rw [decide_eq_true h] at HI;have HC:Hid (∀ W,Calls Tryz.prog 17 #[.int .u64 F] W fun e w'=>e=.returned (.int .i64 (cnt F:Nat))∧w'=W):=fun W=>bitsCount_any F W hF
 generalize cnt F=cF at *;have HOn:Hid (∀ W,TopoAt W tb b o c l→Calls Tryz.prog 164 #[.pointer (some ⟨tb,0,none⟩),.int .u8 on] W fun e w'=>e=.returned (.int .u64 (chosen (onMask on) l:Nat))∧Below W.heap.size W w'):=fun W hW=>on_any tb b o c l on W hW hg hon
 have hN:F &&& chosen (onMask on) l<18446744073709551616:=Ost.sub_lt hF (Ost.and_sub F _);have HN:=qI (bits_and_u64_nat F (chosen (onMask on) l) hF hM);have HS1:=qI (fun W hW=>some_any tb b o c (F &&& chosen (onMask on) l) L l W hW hg hN h0 hL);have HAN:=qI (andNot64 F (F &&& chosen (onMask on) l) hF hN);have ha:=Ost.someOf_cnt l (F &&& chosen (onMask on) l) L h0;have hal:=Ost.sub_lt hN (Ost.someOf_sub l (F &&& chosen (onMask on) l) L);have HC2:Hid (∀ W,Calls Tryz.prog 17 #[.int .u64 (someOf l (F &&& chosen (onMask on) l) L:Nat)] W fun e w'=>e=.returned (.int .i64 (cnt (someOf l (F &&& chosen (onMask on) l) L):Nat))∧w'=W):=fun W=>bitsCount_any _ W hal
 have hd:=Ost.dif_lt (A:=F) (F &&& chosen (onMask on) l) hF;have HS2:=qI (fun W hW=>some_any tb b o c (dif F (F &&& chosen (onMask on) l)) (L - cnt (someOf l (F &&& chosen (onMask on) l) L)) l W hW hg hd (by omega) (by omega));have hbl:=Ost.sub_lt hd (Ost.someOf_sub l (dif F (F &&& chosen (onMask on) l)) (L - cnt (someOf l (F &&& chosen (onMask on) l) L)));have HO:=qI (or64' _ _ hal hbl);have hcl:(cnt (someOf l (F &&& chosen (onMask on) l) L):Int)≤L:=by omega
 have HT:=qI ht;generalize someOf l (dif F (F &&& chosen (onMask on) l)) (L - cnt (someOf l (F &&& chosen (onMask on) l) L))=s2 at *;generalize dif F (F &&& chosen (onMask on) l)=fr at *;generalize cnt (someOf l (F &&& chosen (onMask on) l) L)=c1 at *;generalize someOf l (F &&& chosen (onMask on) l) L=s1 at *;generalize F &&& chosen (onMask on) l=near at *;generalize chosen (onMask on) l=mm at *;clear h HE ht hg ha
 go_enter Tryz.func128,Tryz.ntmps128
 go_wp2_with fail
 refine HA.out.mono ?_;rintro e w1 ⟨rfl,hb⟩;have HT1:=qI (HT.out.below hb);have hB1:=qI hb;clear HT hb HA
 go_wp2_with fail
 refine (HI.out _).mono ?_;rintro e w2 ⟨rfl,rfl⟩
 go_wp2_with fail
 refine (HC.out _).mono ?_;rintro e w2 ⟨rfl,rfl⟩
 go_wp2_with fail
 refine (HOn.out _ HT1.out).mono ?_;rintro e w2 ⟨rfl,hb⟩;have HT2:=qI (HT1.out.below hb);have hB2:=qI (hB1.out.trans (hb.mono hB1.out.size));clear HT1 hb hB1;have n1:=HN.out
 go_wp2_with fail
 refine (HS1.out _ HT2.out).mono ?_;rintro e w3 ⟨rfl,hb⟩;have HT3:=qI (HT2.out.below hb);have hB3:=qI (hB2.out.trans (hb.mono hB2.out.size));clear HT2 hb hB2 n1;have n2:=HAN.out
 go_wp2_with fail
 refine (HC2.out _).mono ?_;rintro e w4 ⟨rfl,rfl⟩
 go_wp2_with fail
 refine (HS2.out _ HT3.out).mono ?_;rintro e w5 ⟨rfl,hb⟩;have hB4:=qI (hB3.out.trans (hb.mono hB3.out.size));clear HT3 hb hB3 n2;have n3:=HO.out
 go_wp2_with fail
 go_ret2;exact ⟨rfl,hB4.out⟩
theorem take_any (tb b o c F on:Nat) (L:Int) (l:List Cpu) (w:World) (ht:TopoAt w tb b o c l) (hg:Good l) (hF:F<18446744073709551616) (hon:on<256) :
  Calls Tryz.prog 128 #[.pointer (some ⟨tb,0,none⟩),.int .u64 F,.int .i64 L,.int .u8 on] w fun e w'=>e=.returned (tookV (takeOut l F L (chosen (onMask on) l)))∧Below w.heap.size w w':=by
 by_cases h1:L<0∨64<L
 ·exact take_out tb F on L l w h1
 ·by_cases h2:F &&& chosen anyCpu l=F
  ·by_cases h3:(cnt F:Int)<L
   ·exact take_few tb b o c F on L l w ht hF (by omega) (by omega) h2 h3
   ·exact take_some tb b o c F on L l w ht hg hF hon (by omega) (by omega) h2 (by omega)
  ·exact take_strange tb b o c F on L l w ht hF (by omega) (by omega) h2
end
end Go.Proofs.YtbmmnflgnmjboaaGreatDoor
