import Derived.Test.YtbmmnflgnmjboaaGreatDoorL4
import Derived.Laws.BitsAllLaws
import Derived.Shelf.SlicesG.Cmp
import Derived.Shelf.Lay
import Derived.Ground.SlgcProg
import Derived.Deep.RegionHeld3
import Derived.Laws.EntriesVeiled
set_option maxRecDepth 100000
set_option maxHeartbeats 16000000
namespace Go.Proofs.YtbmmnflgnmjboaaGreatDoor
section
namespace Ost
def cnt (A:Nat):Nat:=(aI A 64).length
def dif (A B:Nat):Nat:=A ^^^ (A &&& B)
theorem eP (A B i:Nat):(dif A B).testBit i=(A.testBit i && !B.testBit i):=by
 rw [dif,Nat.testBit_xor,Nat.testBit_and];cases A.testBit i <;> cases B.testBit i <;> rfl
theorem fU (A B:Nat):A &&& B=A↔∀ i,A.testBit i=true->B.testBit i=true:=by
 constructor
 ·intro h i hi;have e:(A &&& B).testBit i=A.testBit i:=by rw [h]
  rw [Nat.testBit_and,hi] at e
  simpa using e
 ·intro h;apply Nat.eq_of_testBit_eq;intro i;rw [Nat.testBit_and];cases hA:A.testBit i with
  | false=>rfl
  | true=>rw [h i hA];rfl
theorem iH (A B:Nat):A &&& B=0↔∀ i,A.testBit i=true->B.testBit i=false:=by
 constructor
 ·intro h i hi;have e:(A &&& B).testBit i=false:=by rw [h,Nat.zero_testBit]
  rw [Nat.testBit_and,hi] at e
  simpa using e
 ·intro h;apply Nat.eq_of_testBit_eq;intro i;rw [Nat.testBit_and,Nat.zero_testBit];cases hA:A.testBit i with
  | false=>rfl
  | true=>rw [h i hA];rfl
theorem AA {A B:Nat} (h:A &&& B=0) (k:Nat):(aI (A ||| B) k).length=(aI A k).length+(aI B k).length:=by
 induction k with
 | zero=>rfl
 | succ k ih=>
  rw [iV,iV A,iV B,Nat.testBit_or];have hx:=(iH A B).1 h k;cases hA:A.testBit k with
  | true=>rw [hx hA];simp [ih];omega
  | false=>cases hB:B.testBit k <;> simp [ih];omega
theorem jL {A B:Nat} (h:A &&& B=0):cnt (A ||| B)=cnt A+cnt B:=AA h 64
theorem rM:cnt 0=0:=by decide +kernel
theorem AC {A:Nat} (h:A<18446744073709551616) {i:Nat} (hi:A.testBit i=true):i<64:=by
 apply Classical.byContradiction;intro hn
 have:A.testBit i=false:=Nat.testBit_lt_two_pow (Nat.lt_of_lt_of_le (show A<2 ^ 64 from h) (Nat.pow_le_pow_right (n:=2) (by omega) (by omega)))
 rw [this] at hi;cases hi
theorem iI {A:Nat} (B:Nat) (h:A<18446744073709551616):dif A B<18446744073709551616:=by
 apply Nat.lt_pow_two_of_testBit (n:=64);intro i hi;rw [eP];cases hA:A.testBit i with
 | false=>rfl
 | true=>have:=AC h hA;omega
theorem AD {A B:Nat} (h:B &&& A=B):dif A B ||| B=A:=by
 apply Nat.eq_of_testBit_eq;intro i;rw [Nat.testBit_or,eP]
 have:=(fU B A).1 h i
 cases hB:B.testBit i with
 | true=>rw [this hB];rfl
 | false=>simp
theorem AE (A B:Nat):dif A B &&& B=0:=by
 rw [iH];intro i hi;rw [eP] at hi;cases hB:B.testBit i with
 | true=>rw [hB] at hi;simp at hi
 | false=>rfl
theorem nZ {A B:Nat} (h:B &&& A=B):cnt (dif A B)+cnt B=cnt A:=by
 rw [<- jL (AE A B),AD h]
theorem n7 (A B:Nat):dif A B &&& A=dif A B:=by
 rw [fU];intro i hi;rw [eP] at hi;revert hi;cases A.testBit i <;> simp
theorem sub_lt {A B:Nat} (hB:B<18446744073709551616) (h:A &&& B=A):A<18446744073709551616:=by
 rw [<- h];exact Nat.lt_of_le_of_lt Nat.and_le_right hB
theorem lU {A B C:Nat} (h1:A &&& B=A) (h2:B &&& C=B):A &&& C=A:=by
 rw [fU] at *;intro i hi;exact h2 i (h1 i hi)
theorem lV {A B C:Nat} (h1:A &&& C=A) (h2:B &&& C=B):(A ||| B) &&& C=A ||| B:=by
 rw [fU] at *;intro i hi;rw [Nat.testBit_or,Bool.or_eq_true] at hi
 rcases hi with hi|hi
 ·exact h1 i hi
 ·exact h2 i hi
theorem AF {A B:Nat} (h:A &&& B=0):B &&& A=0:=by rw [Nat.and_comm];exact h
def aL (f:Nat->Nat) (free:Nat) (many:Int):Nat->Nat
 | 0=>0
 | k+1=>if f k &&& free=f k/\(cnt (f k):Int)<=many - cnt (aL f free many k) then aL f free many k ||| f k else aL f free many k
def fD (f:Nat->Nat) (free:Nat) (many:Int):Nat:=aL f free many 64
theorem rN {f:Nat->Nat} {free:Nat} {many:Int} {k:Nat} (h1:f k &&& free=f k) (h2:(cnt (f k):Int)<=many - cnt (aL f free many k)):aL f free many (k+1)=aL f free many k ||| f k:=by rw [aL,if_pos ⟨h1,h2⟩]
theorem rO {f:Nat->Nat} {free:Nat} {many:Int} {k:Nat} (h1:¬ f k &&& free=f k):aL f free many (k+1)=aL f free many k:=by rw [aL,if_neg (λh=>h1 h.1)]
theorem rP {f:Nat->Nat} {free:Nat} {many:Int} {k:Nat} (h2:¬ (cnt (f k):Int)<=many - cnt (aL f free many k)):aL f free many (k+1)=aL f free many k:=by rw [aL,if_neg (λh=>h2 h.2)]
theorem lW (f:Nat->Nat) (free:Nat) (many:Int) (k:Nat):aL f free many k &&& free=aL f free many k:=by
 induction k with
 | zero=>simp [aL]
 | succ k ih=>
  rw [aL]
  split
  ·rename_i h;exact lV ih h.1
  ·exact ih
theorem AG (f:Nat->Nat) (free:Nat) (many:Int) (k i:Nat) (h:(aL f free many k).testBit i=true):∃ n,n<k/\(f n).testBit i=true/\f n &&& aL f free many k=f n:=by
 induction k with
 | zero=>simp [aL] at h
 | succ k ih=>
  rw [aL] at h ⊢
  split at h
  ·rename_i hc
   rw [if_pos hc];rw [Nat.testBit_or,Bool.or_eq_true] at h
   rcases h with h|h
   ·obtain ⟨n,hn,hb,hs⟩:=ih h;refine ⟨n,by omega,hb,?_⟩;rw [fU] at hs ⊢;intro j hj;rw [Nat.testBit_or,hs j hj];rfl
   ·refine ⟨k,by omega,h,?_⟩;rw [fU];intro j hj;rw [Nat.testBit_or,hj];simp
  ·rename_i hc
   rw [if_neg hc];obtain ⟨n,hn,hb,hs⟩:=ih h;exact ⟨n,by omega,hb,hs⟩
def n9 (f:Nat->Nat):Prop:=∀ a b,a≠b->f a &&& f b=0
theorem AH {f:Nat->Nat} (hp:n9 f) (free:Nat) (many:Int) (k n:Nat) (hn:k<=n):aL f free many k &&& f n=0:=by
 rw [iH];intro i hi;obtain ⟨j,hj,hb,_⟩:=AG f free many k i hi;exact (iH _ _).1 (hp j n (by omega)) i hb
theorem lX {f:Nat->Nat} (hp:n9 f) (free:Nat) (many:Int) (h0:0<=many) (k:Nat):(cnt (aL f free many k):Int)<=many:=by
 induction k with
 | zero=>simp only [aL,rM];omega
 | succ k ih=>
  rw [aL]
  split
  ·rename_i h;rw [jL (AH hp free many k k (lR))];omega
  ·exact ih
theorem od (f:Nat->Nat) (free:Nat) (many:Int) (k:Nat) (h:free<18446744073709551616):aL f free many k<18446744073709551616:=sub_lt h (lW f free many k)
def less (c:Nat->Nat) (x y:Nat):Bool:=decide (c x<c y\/(c x=c y/\x<y))
def order (c:Nat->Nat) (A:Nat):List Nat:=(aI A 64).mergeSort (λx y=>!less c y x)
def orB (l:List Nat):Nat:=l.foldl (λs n=>s ||| 2 ^ n) 0
theorem oe (l:List Nat) (n:Nat):orB (l++[n])=orB l ||| 2 ^ n:=by simp [orB]
theorem oj (l:List Nat) (i:Nat):(orB l).testBit i=decide (i∈l):=by
 have key:∀ r:List Nat,(orB r.reverse).testBit i=decide (i∈r.reverse):=by
  intro r
  induction r with
  | nil=>simp [orB]
  | cons n r ih=>
   rw [List.reverse_cons,oe,Nat.testBit_or,ih,Nat.testBit_two_pow,Bool.eq_iff_iff];simp only [Bool.or_eq_true,decide_eq_true_eq,List.mem_append,List.mem_singleton];constructor
   ·rintro (h|h)
    ·exact .inl h
    ·exact .inr h.symm
   ·rintro (h|h)
    ·exact .inl h
    ·exact .inr h.symm
 have:=key l.reverse
 rwa [List.reverse_reverse] at this
theorem ol (c:Nat->Nat) (A:Nat):(order c A).Perm (aI A 64):=List.mergeSort_perm _ _
theorem lY (c:Nat->Nat) (A:Nat):(order c A).length=cnt A:=(ol c A).length_eq
theorem AI (A i:Nat):i∈aI A 64↔i<64/\A.testBit i=true:=by unfold aI;simp
theorem om {c:Nat->Nat} {A i:Nat}:i∈order c A↔i<64/\A.testBit i=true:=by rw [(ol c A).mem_iff,AI]
theorem AJ (c:Nat->Nat) (A:Nat):(order c A).Nodup:=by
 rw [(ol c A).nodup_iff];unfold aI;exact List.Pairwise.filter _ List.nodup_range
theorem AK {c:Nat->Nat} {x y:Nat} (h1:less c x y=false) (h2:less c y x=false):x=y:=by simp [less] at *;omega
def rest (c:Nat->Nat) (A j:Nat):Nat:=dif A (orB ((order c A).take j))
theorem AL {n:Nat} (h:n<64):cnt (2 ^ n)=1:=by
 have:∀ i:Fin 64,cnt (2 ^ i.val)=1:=by decide +kernel
 exact this ⟨n,h⟩
theorem AM {l:List Nat} (hn:l.Nodup) (h64:∀ i∈l,i<64):cnt (orB l)=l.length:=by
 have key:∀ r:List Nat,r.reverse.Nodup->(∀ i∈r.reverse,i<64)->cnt (orB r.reverse)=r.reverse.length:=by
  intro r
  induction r with
  | nil=>intro _ _;simp [orB,rM]
  | cons n r ih=>
   intro hn h64;rw [List.reverse_cons] at hn h64 ⊢;rw [List.nodup_append] at hn;rw [oe,jL,ih hn.1 (λi hi=>h64 i (List.mem_append_left _ hi)),AL (h64 n (by simp))]
   ·simp
   ·rw [iH];intro i hi;rw [oj,decide_eq_true_eq] at hi;rw [Nat.testBit_two_pow];exact decide_eq_false (λe=>hn.2.2 i hi n (by simp) e.symm)
 have:=key l.reverse
 rw [List.reverse_reverse] at this;exact this hn h64
def dE (c:Nat->Nat) (A:Nat) (many:Nat):Nat:=orB ((order c A).take many)
theorem oq (c:Nat->Nat) (A many:Nat):dE c A many &&& A=dE c A many:=by
 rw [fU];intro i hi;rw [dE,oj,decide_eq_true_eq] at hi;exact (om.1 (List.mem_of_mem_take hi)).2
theorem AN (c:Nat->Nat) (A many:Nat):cnt (dE c A many)=min many (cnt A):=by
 rw [dE,AM,List.length_take,lY]
 ·exact (AJ c A).sublist (List.take_sublist _ _)
 ·intro i hi;exact (om.1 (List.mem_of_mem_take hi)).1
def sockAt (l:List Cpu) (n:Nat):Nat:=at' (·.sock) l n
def aX (l:List Cpu) (n:Nat):Nat:=at' (·.core) l n
theorem lZ (f:Cpu->Int) (l:List Cpu):n9 (at' f l):=by
 intro a b hab;rw [iH];intro i hi;rw [at',m5,Bool.and_eq_true,beq_iff_eq] at hi;rw [at',m5,hi.2]
 have:(((a:Nat):Int) == (b:Int))=false:=by rw [beq_eq_false_iff_ne];omega
 rw [this];simp
theorem ot (f:Cpu->Int) {l:List Cpu} (h:l.length<=64) (n:Nat):at' f l n<18446744073709551616:=eZ _ l _ h
def leftOf (l:List Cpu) (now n:Nat):Nat:=cnt (af (λx=>x.core == (l.getD n ae).core) l &&& now)
def er (l:List Cpu) (F:Nat) (L:Int):Nat:=fD (sockAt l) F L
def eF (l:List Cpu) (F:Nat) (L:Int):Nat:=er l F L ||| fD (aX l) (dif F (er l F L)) (L - cnt (er l F L))
def bO (l:List Cpu) (F:Nat) (L:Int):Nat:=eF l F L ||| dE (leftOf l (dif F (eF l F L))) (dif F (eF l F L)) (L - cnt (eF l F L)).toNat
theorem rQ (l:List Cpu) (F:Nat) (L:Int):er l F L &&& F=er l F L:=lW _ _ _ _
theorem rR (l:List Cpu) (F:Nat) (L:Int) (h:0<=L):(cnt (er l F L):Int)<=L:=lX (lZ _ l) F L h 64
theorem ou (l:List Cpu) (F:Nat) (L:Int):eF l F L &&& F=eF l F L:=
 lV (rQ l F L) (lU (lW _ _ _ _) (n7 F _))
theorem rS {A B C:Nat} (h:B &&& dif C A=B):A &&& B=0:=by
 apply AF;rw [fU] at h;rw [iH];intro i hi
 have:=h i hi
 rw [eP,Bool.and_eq_true] at this
 simpa using this.2
theorem rT (l:List Cpu) (F:Nat) (L:Int) (h:0<=L):(cnt (eF l F L):Int)<=L:=by
 have h1:=rR l F L h;unfold eF fD;rw [jL (rS (lW (aX l) (dif F (er l F L)) (L - cnt (er l F L)) 64))];have h2:=lX (lZ (·.core) l) (dif F (er l F L)) (L - cnt (er l F L)) (by omega) 64;have e:aX l=at' (·.core) l:=rfl;rw [e];omega
theorem l6 (l:List Cpu) (F:Nat) (L:Int):bO l F L &&& F=bO l F L:=
 lV (ou l F L) (lU (oq _ _ _) (n7 F _))
theorem ov (l:List Cpu) (F:Nat) (L:Int) (h:0<=L):(cnt (bO l F L):Int)=min L (cnt F):=by
 have h1:=rT l F L h;have h2:=nZ (ou l F L);rw [bO,jL (rS (oq _ _ _)),AN];omega
def aM (l:List Cpu) (F:Nat) (L:Int) (on:Nat):Nat × Int:=
 if L<0\/64<L\/¬ F &&& af (λ_=>true) l=F then (0,1) else
 if (cnt F:Int)<L then (0,8) else
 (bO l (F &&& on) L ||| bO l (dif F (F &&& on)) (L - cnt (bO l (F &&& on) L)),0)
theorem l7 (A B:Nat):A &&& B &&& A=A &&& B:=by
 apply Nat.eq_of_testBit_eq;intro i;simp only [Nat.testBit_and];cases A.testBit i <;> cases B.testBit i <;> rfl
theorem rU {l:List Cpu} {F:Nat} {L:Int} (on:Nat) (h0:0<=L) (h64:L<=64) (hin:F &&& af (λ_=>true) l=F) (hc:L<=cnt F) :
  aM l F L on=(bO l (F &&& on) L ||| bO l (dif F (F &&& on)) (L - cnt (bO l (F &&& on) L)),0):=by
 rw [aM,if_neg (λh=>by rcases h with h|h|h;omega;omega;exact h hin),if_neg (by omega)]
theorem AO {l:List Cpu} {F:Nat} {L:Int} (on:Nat) (h0:0<=L) (hc:L<=cnt F) (s:Nat) (hs:s=bO l (F &&& on) L ||| bO l (dif F (F &&& on)) (L - cnt (bO l (F &&& on) L))) :
  (cnt s:Int)=L/\s &&& F=s/\(cnt (s &&& on):Int)=min L (cnt (F &&& on)):=by
 have ha:=ov l (F &&& on) L h0;have has:=l6 l (F &&& on) L;have hbs:=l6 l (dif F (F &&& on)) (L - cnt (bO l (F &&& on) L));have hb:=ov l (dif F (F &&& on)) (L - cnt (bO l (F &&& on) L)) (by omega);have hd:=nZ (l7 F on);generalize bO l (dif F (F &&& on)) (L - cnt (bO l (F &&& on) L))=b at *;generalize bO l (F &&& on) L=a at *;have hab:a &&& b=0:=by
  rw [fU] at has hbs;rw [iH];intro i hi;cases hbi:b.testBit i with
  | false=>rfl
  | true=>
   have h1:=has i hi;have h2:=hbs i hbi;rw [eP,h1] at h2
   simp at h2
 have hson:s &&& on=a:=by
  rw [hs];rw [fU] at has hbs;apply Nat.eq_of_testBit_eq;intro i;rw [Nat.testBit_and,Nat.testBit_or];cases hai:a.testBit i with
  | true=>
   have h1:=has i hai;rw [Nat.testBit_and,Bool.and_eq_true] at h1;rw [h1.2];rfl
  | false=>
   cases hbi:b.testBit i with
   | false=>rfl
   | true=>
    have h2:=hbs i hbi;rw [eP,Nat.testBit_and] at h2
    revert h2
    cases F.testBit i <;> cases on.testBit i <;> simp
 refine ⟨?_,?_,?_⟩
 ·rw [hs,jL hab];omega
 ·rw [hs];exact lV (lU has (l7 F on)) (lU hbs (n7 F _))
 ·rw [hson];exact ha
end Ost
end
section
open Go.RowKit
open Ost (cnt dif)
theorem jf (A B:Nat) (hA:A<18446744073709551616) (hB:B<18446744073709551616):bits BinOp.andNot IntKind.u64 (A:Int) (B:Int)=((dif A B:Nat):Int):=by
 rw [u64_andNot_nat A B hA hB];have key:A &&& (18446744073709551615 - B)=dif A B:=by
  apply Nat.eq_of_testBit_eq;intro i;rw [Nat.testBit_and,Ost.eP]
  by_cases hi:i<64
  ·have e:(18446744073709551615 - B).testBit i=!B.testBit i:=by
    have:=Nat.testBit_two_pow_sub_succ (n:=64) hB i
    rw [show 2 ^ 64 - (B+1)=18446744073709551615 - B by omega] at this;rw [this,decide_eq_true hi];simp
   rw [e]
  ·have:A.testBit i=false:=Nat.testBit_lt_two_pow (Nat.lt_of_lt_of_le hA (Nat.pow_le_pow_right (n:=2) (by omega) (show 64<=i by omega)))
   rw [this];simp
 rw [key]
theorem AP (A B:Nat):dif A B=0↔A &&& B=A:=by
 rw [Ost.fU];constructor
 ·intro h i hi;have e:(dif A B).testBit i=false:=by rw [h,Nat.zero_testBit]
  rw [Ost.eP,hi] at e
  simpa using e
 ·intro h;apply Nat.eq_of_testBit_eq;intro i;rw [Ost.eP,Nat.zero_testBit];cases hA:A.testBit i with
  | false=>rfl
  | true=>rw [h i hA];rfl
theorem AQ (A B:Nat) (hA:A<18446744073709551616) (hB:B<18446744073709551616):(bits BinOp.andNot IntKind.u64 (A:Int) (B:Int) == 0)=decide (A &&& B=A):=by
 rw [jf A B hA hB,Bool.eq_iff_iff,beq_iff_eq,decide_eq_true_eq,<- AP];omega
theorem jg (A B:Nat) (w:World) (hA:A<18446744073709551616) (hB:B<18446744073709551616) :
  Calls Tryz.prog 38 #[.int .u64 A,.int .u64 B] w λe w'=>e=.returned (.bool (decide (A &&& B=A)))/\w'=w:=by
 have H:=qI (AQ A B hA hB)
 go_enter Tryz.func38,Tryz.ntmps38
 go_wp2_with fail
 go_ret;exact ⟨congrArg (λb=>Ending.returned (.bool b)) H.out,rfl⟩
theorem AR:(Tryz.prog.info? 3).map (λi=>(i.zero,i.size,i.bytes))=some (some (.int .i64 0),1,8):=by kernel_rfl
def nums (l:List Nat):List Value:=l.map λ(n:Nat)=>Value.int .i64 (n:Int)
theorem AS (l:List Nat) (n:Nat):nums (l++[n])=nums l++[.int .i64 n]:=by simp [nums]
theorem jB (A k:Nat):(Ost.aI A k).length<=k:=by
 unfold Ost.aI;exact Nat.le_trans (List.length_filter_le _ _) (by simp)
theorem AT (A:Nat) (w:World) (hA:A<18446744073709551616) :
  Calls Tryz.prog 251 #[.int .u64 A] w λe w'=>∃ v,e=.returned v/\w'.ownsRow w.heap.size 3 1 v (Ost.aI A 64).length (nums (Ost.aI A 64))/\Below w.heap.size w w':=by
 obtain ⟨i0,hi,hz0,hz1,hz2⟩:=info_parts AR
 go_enter Tryz.func251,Tryz.ntmps251
 go_wp2_with fail
 go_loopw [3,5] (λv i wr=>∃ k:Nat,k<=64/\i=.int .i64 k/\wr.ownsRow w.heap.size 3 1 v (Ost.aI A k).length (nums (Ost.aI A k))/\Below w.heap.size w wr) (λ_ i _=>64 - (intOf i).toNat)
 case atStart=>exact ⟨0,by omega,rfl,World.ownsRow_nil _ _ _ _,Below.refl _ _⟩
 case round=>
  obtain ⟨k,hk,rfl,hrow,hnx⟩:=hrel
  by_cases hlt:k<64
  ·have hle:=jB A k;have hsz:=hnx.size
   by_cases hb:A.testBit k=true
   ·have HS:Hid (Ost.aI A (k+1)=Ost.aI A k++[k]):=by unfold Hid;rw [Ost.iV,if_pos hb]
    have HI:=ke A k wr hA hlt;rw [hb] at HI;have HI2:Hid (Calls Tryz.prog 154 #[.int .u64 A,.int .i64 k] wr λe w'=>e=.returned (.bool true)/\w'=wr):=HI;clear HI hb
    go_wp2_with (first
     | (go_at_call 154;refine HI2.out.mono ?_;rintro e w' ⟨rfl,rfl⟩)
     | (at_builtin;refine wpList_append_own _ rfl _ _ 44 rfl w.heap.size 3 i0 (.int .i64 0) 1 8 Tryz.underlying44 hi hz0 hz1 hz2 rfl (by decide) _ _ _ rfl (hrow.alloc _) ⟨_,0,none⟩ 1 1 [.int .i64 k] rfl rfl (cell_one_new _ _ _) (ints_oneCell .i64 [(k:Int)]) (by unfold maxLen;omega) (by omega) (by simp;omega) ?_;intro v' w1 hown' hgrow' _))
    go_roundw
    case rel=>
     refine ⟨k+1,by omega,by go_num,?_,?_⟩
     ·rw [HS.out,AS,List.length_append];exact hown'
     ·exact (hnx.alloc hsz _).grown hgrow' (by simp;omega) (λj hj=>(hrow.lt j hj).1)
    case measure=>simp [intOf];omega
   ·have hb':A.testBit k=false:=by simpa using hb
    have HS:Hid (Ost.aI A (k+1)=Ost.aI A k):=by unfold Hid;rw [Ost.iV,if_neg hb]
    have HI:=ke A k wr hA hlt;rw [hb'] at HI;have HI2:Hid (Calls Tryz.prog 154 #[.int .u64 A,.int .i64 k] wr λe w'=>e=.returned (.bool false)/\w'=wr):=HI;clear HI hb hb'
    go_wp2_with (go_at_call 154;refine HI2.out.mono ?_;rintro e w' ⟨rfl,rfl⟩)
    go_roundw
    case rel=>
     refine ⟨k+1,by omega,by go_num,?_,hnx⟩;rw [HS.out];exact hrow
    case measure=>simp [intOf];omega
  ·have hk64:k=64:=by omega
   subst hk64;clear hk hlt
   go_wp2_with fail
   go_ret;exact ⟨_,rfl,hrow,hnx⟩
end
section
open Go.RowKit Go.ChangeMaps
open Go.Maps (Keyed int_keyed keyOf_int_mk)
def dO (w:World) (B n:Nat) (f:Int->Int):Prop:=
 ∃ D:DataW Unit,w.ownsMap Tryz.prog 3 (plainElem Tryz.prog 3) B n D/\∀ k:Int,0<=k->k<64->D.atKey (.int .i64 k) (.lit (.int .i64 0))=.lit (.int .i64 (f k))
theorem dO.alloc {w:World} {B n:Nat} {f:Int->Int} (h:dO w B n f) (o:Obj):dO (w.alloc o) B n f:=by
 obtain ⟨D,ho,hk⟩:=h;exact ⟨D,ho.alloc o,hk⟩
theorem dO.below {w w':World} {B K n:Nat} {f:Int->Int} (h:dO w B n f) (hb:Below K w w') (hK:B<K):dO w' B n f:=by
 obtain ⟨D,⟨es,clock,hh,r⟩,hk⟩:=h;exact ⟨D,⟨es,clock,(hb.block B hK).trans hh,r⟩,hk⟩
theorem dO.lt {w:World} {B n:Nat} {f:Int->Int} (h:dO w B n f):B<w.heap.size:=by
 obtain ⟨D,ho,_⟩:=h;exact ho.lt
theorem dO.made (w:World):dO (w.alloc (.map #[] 0)) w.heap.size 0 (λ_=>0):=
 ⟨.map [],World.ownsMap_made w _ _ _,λ_ _ _=>rfl⟩
theorem AU (w:World):(zeroValue 3).run Tryz.prog w=.ok (.int .i64 0) w:=by kernel_rfl
theorem AV {ops:Array Oper} {rest:List Oper} {o:Oper} {a:Act} {Q:Exit->Act->World->Prop} (w:World) (hg:o.guard=none) (m x:Operand) (hop:o.op=Op.lookup 349 m x false)
  (B n:Nat) (f:Int->Int) (k:Int) (h0:0<=k) (h64:k<64) (hm:a.eval m=.map (some B)) (hx:a.eval x=.int .i64 k) (hM:dO w B n f)
  (hK:wpList Tryz.prog ops Q rest (a.put o.dst (.int .i64 (f k))) w) :
  wpList Tryz.prog ops Q (o :: rest) a w:=by
 obtain ⟨D,ho,hk⟩:=hM;refine wpList_lookup_own_int w hg m x 349 hop 3 3 .i64 lG Tryz.underlying349 Tryz.underlying3 (AU w) B n D hm ho _ (.int .i64 k) hx (keyOf_int_mk Tryz.underlying3 (lH h0 h64)) ?_;intro c hc _;rw [hk k h0 h64] at hc;simp only [DataW.lit.injEq,Lit.int.injEq,true_and] at hc;rw [<- hc];exact hK
end
section
open Go.RowKit
open Ost (Cpu ae af cnt dif aL fD sockAt aX)
theorem AW (tb b o c F:Nat) (L:Int) (l:List Cpu) (w:World) (ht:aY w tb b o c l) (hF:F<18446744073709551616) (h0:0<=L) (hL:L<=64) :
  Calls Tryz.prog 204 #[.func (.func 205) #[.pointer (some ⟨tb,0,none⟩)] #[],.int .u64 F,.int .i64 L] w λe w'=>e=.returned (.int .u64 (fD (sockAt l) F L:Nat))/\Below w.heap.size w w':=by
 have HT:=qI ht;have h64:=ht.len;clear ht
 go_enter Tryz.func204,Tryz.ntmps204
 go_wp2_with fail
 go_loopw [7,10] (λt i wr=>∃ k:Nat,k<=64/\i=.int .i64 k/\t=.int .u64 (aL (sockAt l) F L k:Nat)/\Hid (aY wr tb b o c l)/\Below w.heap.size w wr) (λ_ i _=>64 - (intOf i).toNat)
 case atStart=>exact ⟨0,by omega,rfl,rfl,HT,Below.refl _ _⟩
 case round=>
  obtain ⟨k,hk,rfl,rfl,HTr,hB⟩:=hrel
  by_cases hlt:k<64
  ·have HS:Hid (Calls Tryz.prog 205 #[.pointer (some ⟨tb,0,none⟩),.int .i64 k] wr λe w'=>e=.returned (.int .u64 (sockAt l k:Nat))/\Below wr.heap.size wr w'):=yk tb b o c l k wr HTr.out;have hs:=Ost.ot (·.sock) h64 k
   change sockAt l k<_ at hs
   have ht:=Ost.od (sockAt l) F L k hF;have HC1:=qI (λW=>fO (sockAt l k) W hs);have HC2:=qI (λW=>fO (aL (sockAt l) F L k) W ht);have hc2:=Ost.lX (Ost.lZ (·.sock) l) F L h0 k
   change (cnt (aL (sockAt l) F L k):Int)<=L at hc2
   have HI:=qI (λW=>jg (sockAt l k) F W hs hF);have HY:=qI (λh1 h2=>Ost.rN (f:=sockAt l) (free:=F) (many:=L) (k:=k) h1 h2);have HN1:=qI (λh1=>Ost.rO (f:=sockAt l) (free:=F) (many:=L) (k:=k) h1);have HN2:=qI (λh1=>Ost.rP (f:=sockAt l) (free:=F) (many:=L) (k:=k) h1);have HO:=qI (bits_or_u64_nat (aL (sockAt l) F L k) (sockAt l k) ht hs)
   change Hid (∀ W,Calls _ _ _ W λe w'=>e=.returned (.int .i64 (cnt (sockAt l k):Nat))/\w'=W) at HC1
   change Hid (∀ W,Calls _ _ _ W λe w'=>e=.returned (.int .i64 (cnt (aL (sockAt l) F L k):Nat))/\w'=W) at HC2
   generalize sockAt l k=s at *
   go_wp2_with (go_at_call 205;refine HS.out.mono ?_;rintro e w1 ⟨rfl,hb⟩)
   have hB1:=hB.trans (hb.mono hB.size);have HT1:=qI (HTr.out.below hb);clear HTr hb hB HS
   by_cases h1:s &&& F=s
   ·have e1:decide (s &&& F=s)=true:=decide_eq_true h1
    by_cases h2:(cnt s:Int)<=L - cnt (aL (sockAt l) F L k)
    ·have HE:Hid (aL (sockAt l) F L (k+1)=aL (sockAt l) F L k ||| s):=HY.out h1 h2;rw [e1] at HI;clear h1 e1;refine (HI.out w1).mono ?_;rintro e w2 ⟨rfl,rfl⟩
     go_wp2_with fail
     refine (HC1.out _).mono ?_;rintro e w2 ⟨rfl,rfl⟩
     go_wp2_with fail
     refine (HC2.out _).mono ?_;rintro e w2 ⟨rfl,rfl⟩
     go_wp2_with fail
     go_roundw
     case rel=>exact ⟨k+1,by omega,by go_num,by rw [HE.out,<- HO.out],HT1,hB1⟩
     case measure=>simp [intOf];omega
    ·have HE:Hid (aL (sockAt l) F L (k+1)=aL (sockAt l) F L k):=HN2.out (by omega);have h3:L - cnt (aL (sockAt l) F L k)<(cnt s:Int):=by omega
     rw [e1] at HI;clear h1 e1 h2;refine (HI.out w1).mono ?_;rintro e w2 ⟨rfl,rfl⟩
     go_wp2_with fail
     refine (HC1.out _).mono ?_;rintro e w2 ⟨rfl,rfl⟩
     go_wp2_with fail
     refine (HC2.out _).mono ?_;rintro e w2 ⟨rfl,rfl⟩
     go_wp2_with fail
     go_roundw
     case rel=>exact ⟨k+1,by omega,by go_num,by rw [HE.out],HT1,hB1⟩
     case measure=>simp [intOf];omega
   ·have e1:decide (s &&& F=s)=false:=decide_eq_false h1;have HE:Hid (aL (sockAt l) F L (k+1)=aL (sockAt l) F L k):=HN1.out h1;rw [e1] at HI;clear h1 e1;refine (HI.out w1).mono ?_;rintro e w2 ⟨rfl,rfl⟩
    go_wp2_with fail
    go_roundw
    case rel=>exact ⟨k+1,by omega,by go_num,by rw [HE.out],HT1,hB1⟩
    case measure=>simp [intOf];omega
  ·have hk64:k=64:=by omega
   subst hk64;clear hk hlt
   go_wp2_with fail
   go_ret;exact ⟨rfl,hB⟩
theorem AX (tb b o c F:Nat) (L:Int) (l:List Cpu) (w:World) (ht:aY w tb b o c l) (hF:F<18446744073709551616) (h0:0<=L) (hL:L<=64) :
  Calls Tryz.prog 204 #[.func (.func 206) #[.pointer (some ⟨tb,0,none⟩)] #[],.int .u64 F,.int .i64 L] w λe w'=>e=.returned (.int .u64 (fD (aX l) F L:Nat))/\Below w.heap.size w w':=by
 have HT:=qI ht;have h64:=ht.len;clear ht
 go_enter Tryz.func204,Tryz.ntmps204
 go_wp2_with fail
 go_loopw [7,10] (λt i wr=>∃ k:Nat,k<=64/\i=.int .i64 k/\t=.int .u64 (aL (aX l) F L k:Nat)/\Hid (aY wr tb b o c l)/\Below w.heap.size w wr) (λ_ i _=>64 - (intOf i).toNat)
 case atStart=>exact ⟨0,by omega,rfl,rfl,HT,Below.refl _ _⟩
 case round=>
  obtain ⟨k,hk,rfl,rfl,HTr,hB⟩:=hrel
  by_cases hlt:k<64
  ·have HS:Hid (Calls Tryz.prog 206 #[.pointer (some ⟨tb,0,none⟩),.int .i64 k] wr λe w'=>e=.returned (.int .u64 (aX l k:Nat))/\Below wr.heap.size wr w'):=qF tb b o c l k wr HTr.out;have hs:=Ost.ot (·.core) h64 k
   change aX l k<_ at hs
   have ht:=Ost.od (aX l) F L k hF;have HC1:=qI (λW=>fO (aX l k) W hs);have HC2:=qI (λW=>fO (aL (aX l) F L k) W ht);have hc2:=Ost.lX (Ost.lZ (·.core) l) F L h0 k
   change (cnt (aL (aX l) F L k):Int)<=L at hc2
   have HI:=qI (λW=>jg (aX l k) F W hs hF);have HY:=qI (λh1 h2=>Ost.rN (f:=aX l) (free:=F) (many:=L) (k:=k) h1 h2);have HN1:=qI (λh1=>Ost.rO (f:=aX l) (free:=F) (many:=L) (k:=k) h1);have HN2:=qI (λh1=>Ost.rP (f:=aX l) (free:=F) (many:=L) (k:=k) h1);have HO:=qI (bits_or_u64_nat (aL (aX l) F L k) (aX l k) ht hs)
   change Hid (∀ W,Calls _ _ _ W λe w'=>e=.returned (.int .i64 (cnt (aX l k):Nat))/\w'=W) at HC1
   change Hid (∀ W,Calls _ _ _ W λe w'=>e=.returned (.int .i64 (cnt (aL (aX l) F L k):Nat))/\w'=W) at HC2
   generalize aX l k=s at *
   go_wp2_with (go_at_call 206;refine HS.out.mono ?_;rintro e w1 ⟨rfl,hb⟩)
   have hB1:=hB.trans (hb.mono hB.size);have HT1:=qI (HTr.out.below hb);clear HTr hb hB HS
   by_cases h1:s &&& F=s
   ·have e1:decide (s &&& F=s)=true:=decide_eq_true h1
    by_cases h2:(cnt s:Int)<=L - cnt (aL (aX l) F L k)
    ·have HE:Hid (aL (aX l) F L (k+1)=aL (aX l) F L k ||| s):=HY.out h1 h2;rw [e1] at HI;clear h1 e1;refine (HI.out w1).mono ?_;rintro e w2 ⟨rfl,rfl⟩
     go_wp2_with fail
     refine (HC1.out _).mono ?_;rintro e w2 ⟨rfl,rfl⟩
     go_wp2_with fail
     refine (HC2.out _).mono ?_;rintro e w2 ⟨rfl,rfl⟩
     go_wp2_with fail
     go_roundw
     case rel=>exact ⟨k+1,by omega,by go_num,by rw [HE.out,<- HO.out],HT1,hB1⟩
     case measure=>simp [intOf];omega
    ·have HE:Hid (aL (aX l) F L (k+1)=aL (aX l) F L k):=HN2.out (by omega);have h3:L - cnt (aL (aX l) F L k)<(cnt s:Int):=by omega
     rw [e1] at HI;clear h1 e1 h2;refine (HI.out w1).mono ?_;rintro e w2 ⟨rfl,rfl⟩
     go_wp2_with fail
     refine (HC1.out _).mono ?_;rintro e w2 ⟨rfl,rfl⟩
     go_wp2_with fail
     refine (HC2.out _).mono ?_;rintro e w2 ⟨rfl,rfl⟩
     go_wp2_with fail
     go_roundw
     case rel=>exact ⟨k+1,by omega,by go_num,by rw [HE.out],HT1,hB1⟩
     case measure=>simp [intOf];omega
   ·have e1:decide (s &&& F=s)=false:=decide_eq_false h1;have HE:Hid (aL (aX l) F L (k+1)=aL (aX l) F L k):=HN1.out h1;rw [e1] at HI;clear h1 e1;refine (HI.out w1).mono ?_;rintro e w2 ⟨rfl,rfl⟩
    go_wp2_with fail
    go_roundw
    case rel=>exact ⟨k+1,by omega,by go_num,by rw [HE.out],HT1,hB1⟩
    case measure=>simp [intOf];omega
  ·have hk64:k=64:=by omega
   subst hk64;clear hk hlt
   go_wp2_with fail
   go_ret;exact ⟨rfl,hB⟩
end
end Go.Proofs.YtbmmnflgnmjboaaGreatDoor
namespace Go.Proofs
open Go.Shelf
shelf_lay_g SlLaysF.n6 Slsf 6 at Tryz 252 as Tryz.sortL
shelf_lay_g SlLaysC2.n5 Slgc 5 at Tryz 148 as Tryz.cmpL
end Go.Proofs
namespace Go.Proofs.YtbmmnflgnmjboaaGreatDoor
section
open Go.RowKit
open Ost (Cpu ae af cnt dif less order)
open Go.Sort
def cI (w w':World):Prop:=∃ q os,w'=grow (w.drewN q) os
theorem cI.refl (w:World):cI w w:=⟨0,#[],by rw [grow_empty];rfl⟩
theorem cI.alloc {w w':World} (h:cI w w') (o:Obj):cI w (w'.alloc o):=by
 obtain ⟨q,os,rfl⟩:=h;exact ⟨q,os++#[o],by rw [alloc_eq_grow,grow_grow]⟩
theorem cI.drewN {w w':World} (h:cI w w') (n:Nat):cI w (w'.drewN n):=by
 obtain ⟨q,os,rfl⟩:=h;exact ⟨q+n,os,by simp only [World.drewN,grow,Nat.add_assoc]⟩
theorem cI.trans {a b c:World} (h:cI a b) (k:cI b c):cI a c:=by
 obtain ⟨q,os,rfl⟩:=h;obtain ⟨q',os',rfl⟩:=k;exact ⟨q+q',os++os',by simp only [World.drewN,grow,Nat.add_assoc,Array.append_assoc]⟩
theorem cI.below {w w':World} (h:cI w w'):Below w.heap.size w w':=by
 obtain ⟨q,os,rfl⟩:=h;exact ⟨rfl,rfl,rfl,by simp [World.drewN],λk hk=>by simp [grow,World.drewN,Array.getElem?_append,hk]⟩
theorem AY (w:World) (K blk off m:Nat) (dk:Array Nat) (os:Array Obj) (hK:K<=blk) (hw:K<=w.heap.size):Below K w (sortWorld (λn:Nat=>Value.int .i64 (n:Int)) w blk off m dk os):=by
 refine ⟨rfl,rfl,rfl,?_,λk hk=>?_⟩
 ·simp [sortWorld,grow,Sort.putRow,Sort.mapBlock,Sort.ahead]
 ·have h1:k<w.heap.size:=by omega
  have h2:blk≠k:=by omega
  simp [sortWorld,grow,Sort.putRow,Sort.mapBlock,Sort.ahead,Array.getElem?_append,Array.getElem_modify,h1,h2]
theorem AZ (n:Nat) (tb b o c:Nat) (l:List Cpu) (w:World) (ht:aY w tb b o c l) :
  Calls Tryz.prog 250 #[.pointer (some ⟨tb,0,none⟩),.int .i64 n] w λe w'=>(∃ err,e=.returned (.tuple #[.agg #[.int .i64 (l.getD n ae).core,.int .i64 (l.getD n ae).sock,.int .i64 (l.getD n ae).node],err]))/\cI w w':=by
 have hB0:=((Below.refl w.heap.size w).alloc (lR) (.cells #[.int .i64 0,.int .i64 0,.int .i64 0] 84));have hT:=(ht.below hB0).cell;have hl:=ht.len
 by_cases hn:n<l.length
 ·obtain ⟨hcell0,hcell1,hcell2⟩:=(ht.below hB0).cells n hn;clear ht hB0;generalize l.getD n ae=x at *
  go_enter Tryz.func250,Tryz.ntmps250
  go_wp2_with fail
  (try simp only [Exit.inBlock,Exit.then]);refine bodyPost_ret (v:=.tuple #[.agg #[.int .i64 x.core,.int .i64 x.sock,.int .i64 x.node],.nilIface]) ?_ rfl ⟨⟨_,rfl⟩,?_⟩
  ·rw [results_cell_tmp rfl];go_simp
  ·exact (cI.refl w).alloc _
 ·have hx:l.getD n ae=ae:=by simp [show l.length<=n by omega]
  rw [hx];clear ht hB0 hx;have h2:(l.length:Int)<=n:=by omega
  clear hn
  go_enter Tryz.func250,Tryz.ntmps250
  go_wp2_with fail
  (try simp only [Exit.inBlock,Exit.then]);refine bodyPost_ret (v:=.tuple #[.agg #[.int .i64 0,.int .i64 0,.int .i64 0],.iface 121 (.int .i64 1)]) ?_ rfl ⟨⟨_,rfl⟩,?_⟩
  ·rw [results_cell_tmp rfl];go_simp
  ·exact (cI.refl w).alloc _
structure fE (w:World) (tc lc fc tb b o c mb n:Nat) (l:List Cpu) (f:Int->Int):Prop where
 t:w.cell? ⟨tc,0,none⟩=some (.pointer (some ⟨tb,0,none⟩))
 m:w.cell? ⟨lc,0,none⟩=some (.map (some mb))
 fn:w.cell? ⟨fc,0,none⟩=some (.func (.func 249) #[] #[.pointer (some ⟨tc,0,none⟩),.pointer (some ⟨lc,0,none⟩)])
 topo:aY w tb b o c l
 left:dO w mb n f
theorem fE.below {w w':World} {tc lc fc tb b o c mb n K:Nat} {l:List Cpu} {f:Int->Int} (h:fE w tc lc fc tb b o c mb n l f) (hb:Below K w w') (hK:tc<K/\lc<K/\fc<K/\tb<K/\b<K/\mb<K):fE w' tc lc fc tb b o c mb n l f:=by
 obtain ⟨h1,h2,h3,h4,h5,h6⟩:=hK;exact ⟨(hb.cell (p:=⟨tc,0,none⟩) h1).trans h.t,(hb.cell (p:=⟨lc,0,none⟩) h2).trans h.m,(hb.cell (p:=⟨fc,0,none⟩) h3).trans h.fn,
  ⟨(hb.cell (p:=⟨tb,0,none⟩) h4).trans h.topo.cell,λk hk=>by
   obtain ⟨a1,a2,a3⟩:=h.topo.cells k hk;exact ⟨(hb.cell (p:=⟨b,o+k*3,none⟩) h5).trans a1,(hb.cell (p:=⟨b,o+k*3+1,none⟩) h5).trans a2,(hb.cell (p:=⟨b,o+k*3+2,none⟩) h5).trans a3⟩,Nat.lt_of_lt_of_le h.topo.lt hb.size,h.topo.len⟩,
  h.left.below hb h6⟩
theorem fE.lts {w:World} {tc lc fc tb b o c mb n:Nat} {l:List Cpu} {f:Int->Int} (h:fE w tc lc fc tb b o c mb n l f):tc<w.heap.size/\lc<w.heap.size/\fc<w.heap.size/\tb<w.heap.size/\b<w.heap.size/\mb<w.heap.size:=
 ⟨World.block_lt_of_cell? w _ h.t,World.block_lt_of_cell? w _ h.m,World.block_lt_of_cell? w _ h.fn,h.topo.tlt,h.topo.lt,h.left.lt⟩
theorem rV {l:List Cpu} (hg:Good l) (n:Nat):0<=(l.getD n ae).core/\(l.getD n ae).core<64:=by
 by_cases hn:n<l.length
 ·have:=hg (l.getD n ae) (by simp [hn])
  omega
 ·have hx:l.getD n ae=ae:=by simp [show l.length<=n by omega]
  rw [hx];decide
theorem rW (k:Nat) (tc lc fc tb b o c mb n:Nat) (l:List Cpu) (f:Int->Int) (w:World) (h:fE w tc lc fc tb b o c mb n l f) (hg:Good l) :
  Calls Tryz.prog 249 #[.int .i64 k,.pointer (some ⟨tc,0,none⟩),.pointer (some ⟨lc,0,none⟩)] w λe w'=>e=.returned (.int .i64 (f (l.getD k ae).core))/\cI w w':=by
 have HO:=qI (AZ k tb b o c l w h.topo);have HS:=qI h;have HL:=qI h.lts;have ht:=h.t;obtain ⟨h0,h64⟩:=rV hg k;clear h hg;generalize l.getD k ae=x at *
 go_enter Tryz.func249,Tryz.ntmps249
 go_wp2_with fail
 refine HO.out.mono ?_;rintro e w1 ⟨⟨err,rfl⟩,hgr⟩;have HS1:=qI (HS.out.below hgr.below HL.out);have hm:=eC HS1.out.m (.cells #[.int .i64 x.core,.int .i64 x.sock,.int .i64 x.node] 84);have hM:=HS1.out.left.alloc (.cells #[.int .i64 x.core,.int .i64 x.sock,.int .i64 x.node] 84);clear HO ht
 go_wp2_with (at_lookup;refine AV _ rfl _ _ rfl mb n f x.core h0 h64 rfl rfl hM ?_)
 go_ret;exact ⟨rfl,hgr.alloc _⟩
end
section
open Go.RowKit
open Ost (Cpu ae less)
theorem A0 (g c:Nat) (x y:Int) (w:World) (h0:w.cell? ⟨g,0,none⟩=some (.int .i64 x)) (h1:w.cell? ⟨g,1,none⟩=some (.int .i64 y)) :
  Calls Tryz.prog 76 #[.slice (some ⟨g,0,none⟩) 2 c] w λe w'=>e=.returned (.int .i64 (if x=0 then y else x))/\w'=w:=by
 by_cases hx:x=0
 ·rw [if_pos hx];subst hx
  by_cases hy:y=0
  ·subst hy
   go_enter Tryz.func76,Tryz.ntmps76
   go_wp2_with fail
   refine wp_loop_rounds 3 ?_;rw [rounds_succ]
   go_wp2_with fail
   rw [rounds_succ]
   go_wp2_with fail
   rw [rounds_succ]
   go_wp2_with fail
   go_ret;exact ⟨rfl,rfl⟩
  ·have q:(y != 0)=true:=by rw [bne_iff_ne];exact hy
   clear hy
   go_enter Tryz.func76,Tryz.ntmps76
   go_wp2_with fail
   refine wp_loop_rounds 2 ?_;rw [rounds_succ]
   go_wp2_with fail
   rw [rounds_succ]
   go_wp2_with fail
   go_ret;exact ⟨rfl,rfl⟩
 ·rw [if_neg hx];have q:(x != 0)=true:=by rw [bne_iff_ne];exact hx
  clear hx
  go_enter Tryz.func76,Tryz.ntmps76
  go_wp2_with fail
  refine wp_loop_rounds 1 ?_;rw [rounds_succ]
  go_wp2_with fail
  go_ret;exact ⟨rfl,rfl⟩
def fV (cl:Nat->Nat) (x y:Nat):Int:=if Lib.compareInt (cl x) (cl y)=0 then Lib.compareInt x y else Lib.compareInt (cl x) (cl y)
theorem rX (x y:Int) (w:World):Calls Tryz.prog 148 #[.int .i64 x,.int .i64 y] w λe w'=>e=.returned (.int .i64 (Lib.compareInt x y))/\w'=w:=AnyG.cmp_Compare_int Tryz.cmpL x y w
theorem A1 (x y:Nat) (tc lc fc tb b o c mb n:Nat) (l:List Cpu) (f:Int->Int) (cl:Nat->Nat) (w:World) (h:fE w tc lc fc tb b o c mb n l f) (hg:Good l) (hf:∀ k,f (l.getD k ae).core=(cl k:Nat)) :
  Calls Tryz.prog 253 #[.int .i64 x,.int .i64 y,.pointer (some ⟨fc,0,none⟩)] w λe w'=>e=.returned (.int .i64 (fV cl x y))/\cI w w':=by
 have HS:=qI h;have HL:=qI h.lts;have hg0:cI w w.drew:=(cI.refl w).drewN 1;have HB1:Hid (∀ W,fE W tc lc fc tb b o c mb n l f->Calls Tryz.prog 249 #[.int .i64 x,.pointer (some ⟨tc,0,none⟩),.pointer (some ⟨lc,0,none⟩)] W λe w'=>e=.returned (.int .i64 (cl x:Nat))/\cI W w'):=λW hW=>by
  rw [<- hf x];exact rW x tc lc fc tb b o c mb n l f W hW hg
 have HB2:Hid (∀ W,fE W tc lc fc tb b o c mb n l f->Calls Tryz.prog 249 #[.int .i64 y,.pointer (some ⟨tc,0,none⟩),.pointer (some ⟨lc,0,none⟩)] W λe w'=>e=.returned (.int .i64 (cl y:Nat))/\cI W w'):=λW hW=>by
  rw [<- hf y];exact rW y tc lc fc tb b o c mb n l f W hW hg
 have HE:Hid (fV cl x y=if Lib.compareInt (cl x) (cl y)=0 then Lib.compareInt x y else Lib.compareInt (cl x) (cl y)):=rfl;have HC1:=qI (λW=>rX (cl x) (cl y) W);have HC2:=qI (λW=>rX x y W);have HOr:=qI (λg c W h0 h1=>A0 g c (Lib.compareInt (cl x) (cl y)) (Lib.compareInt x y) W h0 h1);rw [<- HE.out] at HOr;generalize fV cl x y=r at *;generalize cl x=cx at *;generalize cl y=cy at *;generalize Lib.compareInt (cx:Int) (cy:Int)=d1 at *;generalize Lib.compareInt (x:Int) (y:Int)=d2 at *;clear HE h hf
 go_enter Tryz.func253,Tryz.ntmps253
 go_wp2_with fail
 refine wp_region_held_drew (S:=(λw'=>w'.cell? ⟨fc,0,none⟩=some (.func (.func 249) #[] #[.pointer (some ⟨tc,0,none⟩),.pointer (some ⟨lc,0,none⟩)])/\Hid (fE w' tc lc fc tb b o c mb n l f))) (by kernel_rfl) ⟨(HS.out.below hg0.below HL.out).fn,HS.out.below hg0.below HL.out⟩ (λhHeld=>?_);refine tk 0 ?_;refine tk 1 ?_;refine tk 3 ?_;refine tk 4 ?_;refine tk 7 ?_;refine tk 8 ?_;refine rd 2 (λK hK=>?_);go_simp
 go_wp2_with fail
 refine (HB1.out _ hHeld.2.out).mono ?_;rintro e w1 ⟨rfl,hg⟩;have hg1:=hg0.trans hg;clear hg
 go_wp2_with fail
 refine hK.out _ _ ⟨(HS.out.below hg1.below HL.out).fn,HS.out.below hg1.below HL.out⟩ (λhHeld=>?_);clear hK K;refine rd 5 (λK hK=>?_);go_simp
 go_wp2_with fail
 refine (HB2.out _ hHeld.2.out).mono ?_;rintro e w2 ⟨rfl,hg⟩;have hg2:=hg1.trans hg;clear hg
 go_wp2_with fail
 refine hK.out _ _ ⟨(HS.out.below hg2.below HL.out).fn,HS.out.below hg2.below HL.out⟩ (λhHeld=>?_);clear hK K;refine rd 6 (λK hK=>?_);go_simp
 go_wp2_with fail
 refine (HC1.out _).mono ?_;rintro e w3 ⟨rfl,rfl⟩
 go_wp2_with fail
 refine hK.out _ _ hHeld (λhHeld=>?_);clear hK K;refine rd 9 (λK hK=>?_);go_simp
 go_wp2_with fail
 refine (HC2.out _).mono ?_;rintro e w4 ⟨rfl,rfl⟩
 go_wp2_with fail
 refine hK.out _ _ hHeld (λhHeld=>?_);clear hK K;refine rd 10 (λK hK=>?_);go_simp;have hg4:=hg2.alloc (.cells #[.int .i64 d1,.int .i64 d2] 3);have c0:(w4.alloc (.cells #[.int .i64 d1,.int .i64 d2] 3)).cell? ⟨w4.heap.size,0,none⟩=some (.int .i64 d1):=by simp
 have c1:(w4.alloc (.cells #[.int .i64 d1,.int .i64 d2] 3)).cell? ⟨w4.heap.size,1,none⟩=some (.int .i64 d2):=by simp
 refine hK.out _ _ ⟨(HS.out.below hg4.below HL.out).fn,HS.out.below hg4.below HL.out⟩ (λhHeld=>?_);clear hK K;refine rd 11 (λK hK=>?_);go_simp
 go_wp2_with fail
 refine (HOr.out _ _ _ c0 c1).mono ?_;rintro e w5 ⟨rfl,rfl⟩
 go_wp2_with fail
 refine hK.out _ _ hHeld (λhHeld=>?_);clear hK K;refine tk 12 ?_;refine wpAnyH_done (by kernel_rfl) ?_ _
 go_wp2_with fail
 go_ret;exact ⟨rfl,hg4⟩
end
section
open Go.RowKit
open Go.Sort
open Ost (Cpu ae less order)
theorem kv (cl:Nat->Nat) (x y:Nat):ltOf (fV cl) x y=less cl x y:=by
 unfold ltOf fV Lib.compareInt less;rw [Bool.eq_iff_iff]
 by_cases h1:(cl x:Int)<cl y
 ·have h3:cl x<cl y:=by omega
  simp [h3]
 ·by_cases h2:(cl y:Int)<cl x
  ·have h3:¬ cl x<cl y:=by omega
   have h4:¬ cl x=cl y:=by omega
   have h5:cl y<cl x:=by omega
   simp [h3,h4,h5]
  ·have h3:cl x=cl y:=by omega
   by_cases h4:x<y
   ·simp [h3,h4]
   ·by_cases h5:y<x
    ·simp [h3,h4,h5]
    ·simp [h3,h4,h5]
theorem A2 (cl:Nat->Nat):SWO (ltOf (fV cl)) where
 irrefl x:=by rw [kv];simp [less]
 trans x y z h1 h2:=by rw [kv] at *;simp [less] at *;omega
 ntrans x y z h1 h2:=by rw [kv] at *;simp [less] at *;omega
theorem A3 (cl:Nat->Nat) (x y:Nat) (h1:ltOf (fV cl) x y=false) (h2:ltOf (fV cl) y x=false):x=y:=by
 rw [kv] at h1 h2;exact Ost.AK h1 h2
def A4 (w:World) (v:Value) (L:List Nat):Prop:=
 (L=[]/\v=.slice none 0 0)\/∃ g c,v=.slice (some ⟨g,0,none⟩) L.length c/\L.length<=c/\∀ k,k<L.length->w.cell? ⟨g,k,none⟩=some (.int .i64 ((L.getD k 0:Nat):Int))
def iJ (n:Nat):Value:=Value.int .i64 (n:Int)
theorem rY (w:World) (K blk off m:Nat) (dk:Array Nat) (os:Array Obj) (hK:K<=blk) (hw:K<=w.heap.size):Below K w (sortWorld iJ w blk off m dk os):=AY w K blk off m dk os hK hw
theorem A5 {w:World} {g:Nat} {cur:Array Value} {e:TypeId} {L:List Nat} (hg:w.heap[g]?=some (.cells cur e (0,0))) (ht:cur.toList.take (L.length*1)=nums L):Holds iJ w g 0 L.toArray:=by
 intro j hj;have hj2:j<L.length:=by simpa using hj
 have hc:cur[j]?=some (.int .i64 ((L.getD j 0:Nat):Int)):=by
  have h1:(cur.toList.take (L.length*1))[j]?=some (.int .i64 ((L.getD j 0:Nat):Int)):=by
   rw [ht];simp [nums,hj2]
  rw [List.getElem?_take] at h1;rw [if_pos (by omega)] at h1
  simpa using h1
 have hd:L.toArray[j]! = L.getD j 0:=by simp [hj2]
 refine ⟨?_,?_⟩
 ·rw [hd];unfold World.cell?;rw [hg];simp [hc,iJ]
 ·unfold World.frozen?;rw [hg];simp
theorem A6 (v:Value) (A K:Nat) (tc lc fc tb b o c mb n:Nat) (l:List Cpu) (f:Int->Int) (cl:Nat->Nat) (w:World) (hrow:w.ownsRow K 3 1 v (Ost.aI A 64).length (nums (Ost.aI A 64))) (hw:K<=w.heap.size)
  (h:fE w tc lc fc tb b o c mb n l f) (hK:tc<K/\lc<K/\fc<K/\tb<K/\b<K/\mb<K) (hg:Good l) (hf:∀ k,f (l.getD k ae).core=(cl k:Nat)) :
  Calls Tryz.prog 252 #[v,.func (.func 253) #[] #[.pointer (some ⟨fc,0,none⟩)]] w λe w'=>e=.returned (.tuple #[])/\A4 w' v (order cl A)/\Below K w w':=by
 rcases hrow.2 with ⟨rfl,hn0⟩|⟨g,cap,cur,rfl,hbg,hgg,hcap,_,_,htk⟩
 ·have hL:order cl A=[]:=by
   have:=Ost.lY cl A
   unfold Ost.cnt at this;exact List.length_eq_zero_iff.1 (by omega)
  have hS:=AnyF.slices_SortFunc_none (P:=Tryz.prog) (ρ:=Tryz.sortL_ren) { Tryz.sortL with } none 0 (.func (.func 253) #[] #[.pointer (some ⟨fc,0,none⟩)]) w
  change Calls Tryz.prog 252 _ _ _ at hS
  exact hS.mono λe w' ⟨he,hw'⟩=>⟨he,.inl ⟨hL,rfl⟩,by rw [hw'];exact Below.refl _ _⟩
 ·have hH:Holds iJ w g 0 (Ost.aI A 64).toArray:=A5 hgg htk;have hblk:g<w.heap.size:=by
   rcases Nat.lt_or_ge g w.heap.size with hlt|hge
   ·exact hlt
   ·rw [Array.getElem?_eq_none hge] at hgg;cases hgg
  have eg:∀ args w,(callFunc 253 args).run Tryz.prog w=.ok (.enter 253 args) w:=enters_of Tryz.func253 (by kernel_rfl) rfl;have hcmp:CmpLays1 Tryz.prog 253 #[.pointer (some ⟨fc,0,none⟩)] iJ (fV cl) g 0 (Ost.aI A 64).toArray.size w:=λm os dk _ x y=>
   A1 x y tc lc fc tb b o c mb n l f cl _ (h.below (rY w K g 0 m dk os hbg hw) hK) hg hf
  have h64:=jB A 64;have hS:=Any.slices_SortFunc_total Tryz.sortL iJ (λ_=>rfl) (fV cl) (A2 cl) 253 #[.pointer (some ⟨fc,0,none⟩)] g 0 cap (Ost.aI A 64).toArray w eg hcmp hH hblk (by simp;omega) (A3 cl)
  change Calls Tryz.prog 252 _ _ _ at hS
  have hord:(λx y:Nat=>!ltOf (fV cl) y x)=λx y=>!less cl y x:=by funext x y;rw [kv]
  rw [hord] at hS;have hz:(Ost.aI A 64).toArray.size=(Ost.aI A 64).length:=by simp
  rw [hz] at hS;refine hS.mono λe w' ⟨he,q,os,hw'⟩=>⟨he,?_,?_⟩
  ·have hlen:(order cl A).length=(Ost.aI A 64).length:=Ost.lY cl A;have hh:=holds_sortWorld iJ w g 0 q (Ost.aI A 64).toArray (order cl A).toArray os hblk hH (by simp [hlen]);have e2:((Ost.aI A 64).toArray.toList.mergeSort λx y=>!less cl y x).toArray=(order cl A).toArray:=rfl;rw [e2] at hw';refine .inr ⟨g,cap,by rw [hlen],by omega,λk hk=>?_⟩
   have:=(hh k (by simpa using hk)).1
   rw [hw',<- Nat.zero_add k,this]
   simp [iJ,hk]
  ·rw [hw'];exact rY w K g 0 q _ os hbg hw
end
section
open Go.RowKit Go.ChangeMaps
open Go.Maps (Keyed int_keyed keyOf_int_mk)
open Ost (Cpu ae af cnt dif dE aX order)
def cC (l:List Cpu) (F k:Nat) (j:Int):Int:=if 0<=j/\j<k then (cnt (aX l j.toNat &&& F):Nat) else 0
theorem A7 (l:List Cpu) (F:Nat):cC l F 0=λ_=>0:=by
 funext j;unfold cC;rw [if_neg (by omega)]
theorem A8 (l:List Cpu) (F k:Nat):(λj=>if (k:Int)=j then ((cnt (aX l k &&& F):Nat):Int) else cC l F k j)=cC l F (k+1):=by
 funext j
 unfold cC
 by_cases h:(k:Int)=j
 ·rw [if_pos h,if_pos (by omega),<- h];simp
 ·rw [if_neg h]
  by_cases h2:0<=j/\j<k
  ·rw [if_pos h2,if_pos (by omega)]
  ·rw [if_neg h2,if_neg (by omega)]
theorem A9 {l:List Cpu} (hg:Good l) (F n:Nat):cC l F 64 (l.getD n ae).core=(Ost.leftOf l F n:Nat):=by
 obtain ⟨h0,h64⟩:=rV hg n;unfold cC;rw [if_pos ⟨h0,by omega⟩]
 have:aX l (l.getD n ae).core.toNat=af (λx=>x.core == (l.getD n ae).core) l:=by
  unfold aX Ost.at';rw [Int.toNat_of_nonneg h0]
 rw [this];rfl
theorem Bb {o:Oper} {a:Act} {N:Act->World->Prop} {Q:Exit->Act->World->Prop} (w:World) (m x v:Operand) (hop:o.op=Op.mapUpdate 349 m x v)
  (B n:Nat) (f:Int->Int) (k:Int) (h0:0<=k) (h64:k<64) (y:Nat) (hy:y<=64) (hm:a.eval m=.map (some B)) (hx:a.eval x=.int .i64 k) (hv:a.eval v=.int .i64 y) (hM:dO w B n f) (hn:n<maxLen)
  (hK:∀ w',dO w' B (n+1) (λj=>if k=j then y else f j)->w.grownBy w' (some B)->N (a.put o.dst undef) w') :
  o.wp Tryz.prog a w N Q:=by
 obtain ⟨D,ho,hk⟩:=hM;obtain ⟨w',hrun,r1,r2⟩:=ho.update (e:=3) lG Tryz.underlying349 hn (keyOf_int_mk Tryz.underlying3 (lH h0 h64)) (plainElem_int Tryz.underlying3 (WalkArith.wf_i64 (n:=(y:Int)) (by omega)));unfold Oper.wp
 simp [execOp,hop,hm,hx,hv,hrun,Result.andThen]
 refine hK w' ⟨_,r1,λj j0 j64=>?_⟩ r2
 by_cases e:k=j
 ·subst e;have hkl:WideAt.IsKeyLit (Lit.int .i64 k):=trivial;rw [Maps.atKey_put_same ho.isMap hkl]
  simp
 ·have hne:(Lit.int .i64 j)≠(Lit.int .i64 k):=by simp;omega
  rw [Maps.atKey_put_other hne];simp only [if_neg e];exact hk j j0 j64
structure eG (wr w:World) (tb b o c:Nat) (l:List Cpu) (F k:Nat):Prop where
 t:wr.cell? ⟨w.heap.size,0,none⟩=some (.pointer (some ⟨tb,0,none⟩))
 m:wr.cell? ⟨w.heap.size+1+1,0,none⟩=some (.map (some (w.heap.size+1)))
 topo0:aY w tb b o c l
 left:dO wr (w.heap.size+1) k (cC l F k)
 bel:Below w.heap.size w wr
theorem eG.below {wr wr' w:World} {tb b o c:Nat} {l:List Cpu} {F k:Nat} (h:eG wr w tb b o c l F k) (hb:Below wr.heap.size wr wr'):eG wr' w tb b o c l F k:=
 ⟨(hb.cell (p:=⟨w.heap.size,0,none⟩) (World.block_lt_of_cell? wr _ h.t)).trans h.t,(hb.cell (p:=⟨w.heap.size+1+1,0,none⟩) (World.block_lt_of_cell? wr _ h.m)).trans h.m,h.topo0,h.left.below hb h.left.lt,h.bel.trans (hb.mono h.bel.size)⟩
theorem eG.topo {wr w:World} {tb b o c:Nat} {l:List Cpu} {F k:Nat} (h:eG wr w tb b o c l F k):aY wr tb b o c l:=h.topo0.below h.bel
theorem eG.put {wr wr' w:World} {tb b o c:Nat} {l:List Cpu} {F k:Nat} (h:eG wr w tb b o c l F k) (hm:dO wr' (w.heap.size+1) (k+1) (cC l F (k+1))) (hgr:wr.grownBy wr' (some (w.heap.size+1))):eG wr' w tb b o c l F (k+1):=
 ⟨hgr.cell h.t (by simp),hgr.cell h.m (by simp),h.topo0,hm,h.bel.grown hgr h.bel.size (λj hj=>by cases hj;omega)⟩
theorem eG.drew {wr w:World} {tb b o c:Nat} {l:List Cpu} {F k:Nat} (h:eG wr w tb b o c l F k):eG wr.drew w tb b o c l F k:=h.below (below_drewN (Below.refl _ _) 1)
theorem eG.stand {wr w:World} {tb b o c:Nat} {l:List Cpu} {F:Nat} (h:eG wr w tb b o c l F 64):fE (wr.alloc (.cells #[.func (.func 249) #[] #[.pointer (some ⟨w.heap.size,0,none⟩),.pointer (some ⟨w.heap.size+1+1,0,none⟩)]] 253)) w.heap.size (w.heap.size+1+1) wr.heap.size tb b o c (w.heap.size+1) 64 l (cC l F 64):=
 ⟨eC h.t _,eC h.m _,by simp,h.topo.below ((Below.refl _ _).alloc (lR) _),h.left.alloc _⟩
theorem Bf {w:World} {tb b o c:Nat} {l:List Cpu} (ht:aY w tb b o c l) (F:Nat):eG (((w.alloc (.cells #[.pointer (some ⟨tb,0,none⟩)] 93)).alloc (.map #[] 0)).alloc (.cells #[.map (some (w.heap.size+1))] 349)) w tb b o c l F 0:=by
 have hB:=(((Below.refl w.heap.size w).alloc (lR) (.cells #[.pointer (some ⟨tb,0,none⟩)] 93)).alloc (by simp) (.map #[] 0)).alloc (by simp;omega) (.cells #[.map (some (w.heap.size+1))] 349);have hM:=(dO.made (w.alloc (.cells #[.pointer (some ⟨tb,0,none⟩)] 93))).alloc (.cells #[.map (some (w.heap.size+1))] 349);have e:(w.alloc (.cells #[.pointer (some ⟨tb,0,none⟩)] 93)).heap.size=w.heap.size+1:=by simp
 rw [e,<- A7 l F] at hM;exact ⟨by go_simp,by go_simp,ht,hM,hB⟩
theorem Bi (tb b o c F:Nat) (L:Int) (l:List Cpu) (w:World) (ht:aY w tb b o c l) (hg:Good l) (hF:F<18446744073709551616) (h0:0<=L) (hL:L<=64) :
  Calls Tryz.prog 207 #[.pointer (some ⟨tb,0,none⟩),.int .u64 F,.int .i64 L] w λe w'=>e=.returned (.int .u64 (dE (Ost.leftOf l F) F L.toNat:Nat))/\Below w.heap.size w w':=by
 have hmm:=@run_makeMap Tryz.prog;have h64:=ht.len;have HG:=qI hg;have HF0:=qI (Bf ht F);clear ht hg
 go_enter Tryz.func207,Tryz.ntmps207
 go_wp2_with fail
 go_loopw [15] (λi wr=>∃ k:Nat,k<=64/\i=.int .i64 k/\Hid (eG wr w tb b o c l F k)) (λi _=>64 - (intOf i).toNat)
 case atStart=>exact ⟨0,by omega,rfl,HF0.out⟩
 case round=>
  clear HF0;obtain ⟨k,hk,hi,HFl⟩:=hrel
  by_cases hlt:k<64
  ·subst hi;have HCo:Hid (∀ W,aY W tb b o c l->Calls Tryz.prog 206 #[.pointer (some ⟨tb,0,none⟩),.int .i64 k] W λe w'=>e=.returned (.int .u64 (aX l k:Nat))/\Below W.heap.size W w'):=λW hW=>qF tb b o c l k W hW
   have hck:=Ost.ot (·.core) h64 k
   change aX l k<_ at hck
   have HCn:Hid (∀ W,Calls Tryz.prog 17 #[.int .u64 (bits BinOp.and IntKind.u64 (aX l k:Nat) (F:Nat))] W λe w'=>e=.returned (.int .i64 (cnt (aX l k &&& F):Nat))/\w'=W):=λW=>by
    rw [bits_and_u64_nat _ _ hck hF];exact fO _ W (Ost.sub_lt hck (Ost.l7 _ F))
   have hcs:cnt (aX l k &&& F)<=64:=jB _ 64;have HSt:=qI (A8 l F k);generalize hcc:cnt (aX l k &&& F)=cc at *;clear hcc;generalize aX l k=ck at *;have hF0:=HFl.out.drew
   go_wp2_with fail
   refine wp_region_held_drew (S:=(λw'=>w'.cell? ⟨w.heap.size+1+1,0,none⟩=some (.map (some (w.heap.size+1)))/\w'.cell? ⟨w.heap.size,0,none⟩=some (.pointer (some ⟨tb,0,none⟩)))) (by kernel_rfl) ⟨hF0.m,hF0.t⟩ (λhHeld=>?_);refine tk 0 ?_;refine tk 1 ?_;refine tk 2 ?_;refine tk 3 ?_;refine tk 5 ?_;refine rd 4 (λK hK=>?_);go_simp
   go_wp2_with fail
   refine (HCo.out _ hF0.topo).mono ?_;rintro e w1 ⟨rfl,hb⟩;have hF1:=hF0.below hb;clear hb
   go_wp2_with fail
   refine hK.out _ _ ⟨hF1.m,hF1.t⟩ (λhHeld=>?_);clear hK K;refine tk 6 ?_;refine rd 7 (λK hK=>?_);go_simp
   go_wp2_with fail
   refine (HCn.out _).mono ?_;rintro e w2 ⟨rfl,rfl⟩
   go_wp2_with fail
   refine hK.out _ _ hHeld (λhHeld=>?_);clear hK K;refine rd 8 (λK hK=>?_);rw [if_pos (by rfl)];refine Bb _ _ _ _ rfl (w.heap.size+1) k (cC l F k) k (by omega) (by omega) cc hcs rfl rfl rfl hF1.left (by unfold maxLen;omega) ?_;intro w3 hM3 hgr3;rw [HSt.out] at hM3;have hF3:=qI (hF1.put hM3 hgr3);clear hM3 hgr3;refine hK.out _ _ ⟨hF3.out.m,hF3.out.t⟩ (λhHeld=>?_);clear hK K;refine wpAnyH_done (by kernel_rfl) ?_ _
   go_wp2_with fail
   go_roundw
   case rel=>exact ⟨k+1,by omega,by go_num,hF3⟩
   case measure=>simp [intOf];omega
  ·have hk64:k=64:=by omega
   subst hk64;have hi2:_=Value.int .i64 64:=hi;clear hk hlt hi;subst hi2;have HS:=qI HFl.out.stand;have hBl:=HFl.out.bel.alloc HFl.out.bel.size (.cells #[.func (.func 249) #[] #[.pointer (some ⟨w.heap.size,0,none⟩),.pointer (some ⟨w.heap.size+1+1,0,none⟩)]] 253);have HB4:=qI hBl;clear hBl
   go_wp2_with fail
   generalize wr.alloc (.cells #[.func (.func 249) #[] #[.pointer (some ⟨w.heap.size,0,none⟩),.pointer (some ⟨w.heap.size+1+1,0,none⟩)]] 253)=W4 at *;refine (AT F W4 hF).mono ?_;rintro e w5 ⟨v,rfl,hrow,hb5⟩;have HSort:=qI (A6 v F W4.heap.size w.heap.size (w.heap.size+1+1) wr.heap.size tb b o c (w.heap.size+1) 64 l (cC l F 64) (Ost.leftOf l F) w5 hrow hb5.size (HS.out.below hb5 HS.out.lts) HS.out.lts HG.out (A9 HG.out F));have hB5:=qI (HB4.out.trans (hb5.mono HB4.out.size));clear hrow hb5 HS
   go_wp2_with fail
   refine HSort.out.mono ?_;rintro e w6 ⟨rfl,hrow6,hb6⟩;have hB6:=qI (hB5.out.trans (hb6.mono HB4.out.size));clear hb6 HSort hB5 HB4 HFl;have hlen:(order (Ost.leftOf l F) F).length<=64:=by rw [Ost.lY];exact jB F 64
   have HSg:Hid (dE (Ost.leftOf l F) F L.toNat=Ost.orB ((order (Ost.leftOf l F) F).take L.toNat)):=rfl;have H64:Hid (∀ n∈order (Ost.leftOf l F) F,n<64):=λn hn=>(Ost.om.1 hn).1
   generalize order (Ost.leftOf l F) F=R at *
   rcases hrow6 with ⟨rfl,rfl⟩|⟨g,cp,rfl,hcp,hcell⟩
   ·have hmin:min L 0=0:=by omega
    have HR:Hid (dE (Ost.leftOf l F) F L.toNat=0):=by unfold Hid;rw [HSg.out];simp [Ost.orB]
    go_wp2_with fail
    refine wp_loop_rounds 1 ?_;rw [rounds_succ]
    go_wp2_with fail
    go_ret;exact ⟨by rw [HR.out];rfl,hB6.out⟩
   ·have HCl:=qI hcell;clear hcell;obtain ⟨M,hM,hmin⟩:∃ M:Nat,M=min L.toNat R.length/\min L (R.length:Int)=(M:Int):=⟨min L.toNat R.length,rfl,by omega⟩;have HR:Hid (dE (Ost.leftOf l F) F L.toNat=Ost.orB (R.take M)):=by
     unfold Hid;rw [HSg.out]
     congr 1
     rw [List.take_eq_take_iff];omega
    have hMR:M<=R.length:=by omega
    clear hM HSg
    go_wp2_with fail
    go_loop [11,40] (λt i=>∃ k:Nat,k<=M/\i=.int .i64 k/\t=.int .u64 (Ost.orB (R.take k):Nat)) (λ_ i=>M - (intOf i).toNat)
    case atStart=>exact ⟨0,by omega,rfl,rfl⟩
    case round=>
     obtain ⟨k,hk,rfl,rfl⟩:=hrel
     by_cases hlt:k<M
     ·have hkR:k<R.length:=by omega
      have hcell:=HCl.out k hkR;have hz:=H64.out (R.getD k 0) (by simp [hkR]);have hts:R.take (k+1)=R.take k++[R.getD k 0]:=by
       rw [List.take_succ_eq_append_getElem hkR];simp [hkR]
      have hol:Ost.orB (R.take k)<18446744073709551616:=by
       apply Nat.lt_pow_two_of_testBit (n:=64);intro i hi;rw [Ost.oj];exact decide_eq_false (λhm=>by have:=H64.out i (List.mem_of_mem_take hm);omega)
      have HO:=qI (kg (Ost.orB (R.take k)) (R.getD k 0) hol hz);have HT:Hid (Ost.orB (R.take k) ||| 2 ^ (R.getD k 0)=Ost.orB (R.take (k+1))):=by unfold Hid;rw [hts,Ost.oe]
      rw [HT.out] at HO;clear hts HT;generalize R.getD k 0=z at *
      go_wp2_with fail
      go_round
      case rel=>exact ⟨k+1,by omega,by go_num,by rw [<- HO.out]⟩
      case measure=>simp [intOf];omega
     ·have hkM:k=M:=by omega
      have HE:Hid (Ost.orB (R.take k)=dE (Ost.leftOf l F) F L.toNat):=by unfold Hid;rw [HR.out,hkM]
      rw [HE.out];clear hkM HE
      go_wp2_with fail
      go_ret;exact ⟨rfl,hB6.out⟩
end
section
open Go.RowKit
open Ost (Cpu ae af cnt dif aL fD sockAt aX er eF bO dE aM)
theorem ox (a b:Nat) (ha:a<18446744073709551616) (hb:b<18446744073709551616):bits BinOp.or IntKind.u64 (a:Int) (b:Int)=((a ||| b:Nat):Int):=bits_or_u64_nat a b ha hb
theorem rZ (tb b o c F:Nat) (L:Int) (l:List Cpu) (w:World) (ht:aY w tb b o c l) (hg:Good l) (hF:F<18446744073709551616) (h0:0<=L) (hL:L<=64) :
  Calls Tryz.prog 165 #[.pointer (some ⟨tb,0,none⟩),.int .u64 F,.int .i64 L] w λe w'=>e=.returned (.int .u64 (bO l F L:Nat))/\Below w.heap.size w w':=by
 have HT:=qI ht;have h64:=ht.len;have HG:=qI hg;clear ht hg;have hmf:∀ (fn:Fn) (first cap:Array Value) (w:World),(Instr.makeFunc fn first cap).run Tryz.prog w=.ok (.func fn first cap) w:=λ_ _ _ _=>rfl
 have k1:=Ost.rR l F L h0;have s1:=Ost.sub_lt hF (Ost.rQ l F L);have HW1:Hid (Calls Tryz.prog 204 #[.func (.func 205) #[.pointer (some ⟨tb,0,none⟩)] #[],.int .u64 F,.int .i64 L] w λe w'=>e=.returned (.int .u64 (er l F L:Nat))/\Below w.heap.size w w'):=AW tb b o c F L l w HT.out hF h0 hL;have HE1:Hid (eF l F L=er l F L ||| fD (aX l) (dif F (er l F L)) (L - cnt (er l F L))):=rfl;have HE2:Hid (bO l F L=eF l F L ||| dE (Ost.leftOf l (dif F (eF l F L))) (dif F (eF l F L)) (L - cnt (eF l F L)).toNat):=rfl;have k2:=Ost.rT l F L h0;have s2:=Ost.sub_lt hF (Ost.ou l F L);generalize bO l F L=s3 at *;generalize eF l F L=sb at *;generalize er l F L=sa at *;have HN1:=qI (jf F sa hF s1);have d1:=Ost.iI (A:=F) sa hF;have HC1:Hid (∀ W,Calls Tryz.prog 17 #[.int .u64 sa] W λe w'=>e=.returned (.int .i64 (cnt sa:Nat))/\w'=W):=λW=>fO sa W s1
 have HN2:=qI (jf F sb hF s2);have d2:=Ost.iI (A:=F) sb hF;have HC2:Hid (∀ W,Calls Tryz.prog 17 #[.int .u64 sb] W λe w'=>e=.returned (.int .i64 (cnt sb:Nat))/\w'=W):=λW=>fO sb W s2
 have hw2:fD (aX l) (dif F sa) (L - cnt sa)<18446744073709551616:=Ost.od _ _ _ _ d1;have HO1:=qI (ox sa (fD (aX l) (dif F sa) (L - cnt sa)) s1 hw2);have hw3:dE (Ost.leftOf l (dif F sb)) (dif F sb) (L - cnt sb).toNat<18446744073709551616:=Ost.sub_lt d2 (Ost.oq _ _ _);have HO2:=qI (ox sb (dE (Ost.leftOf l (dif F sb)) (dif F sb) (L - cnt sb).toNat) s2 hw3);rw [<- HE1.out] at HO1;rw [<- HE2.out] at HO2;clear HE1 HE2;generalize cnt sa=ca at *;generalize cnt sb=cb at *;have HK1:Hid (∀ W,aY W tb b o c l->Calls Tryz.prog 204 #[.func (.func 206) #[.pointer (some ⟨tb,0,none⟩)] #[],.int .u64 (dif F sa:Nat),.int .i64 (L - ca)] W λe w'=>e=.returned (.int .u64 (fD (aX l) (dif F sa) (L - ca):Nat))/\Below W.heap.size W w'):=λW hW=>AX tb b o c (dif F sa) (L - ca) l W hW d1 (by omega) (by omega)
 have HK2:Hid (∀ W,aY W tb b o c l->Calls Tryz.prog 207 #[.pointer (some ⟨tb,0,none⟩),.int .u64 (dif F sb:Nat),.int .i64 (L - cb)] W λe w'=>e=.returned (.int .u64 (dE (Ost.leftOf l (dif F sb)) (dif F sb) (L - cb).toNat:Nat))/\Below W.heap.size W w'):=λW hW=>Bi tb b o c (dif F sb) (L - cb) l W hW HG.out d2 (by omega) (by omega)
 generalize fD (aX l) (dif F sa) (L - ca)=ws at *;generalize dE (Ost.leftOf l (dif F sb)) (dif F sb) (L - cb).toNat=ss at *
 go_enter Tryz.func165,Tryz.ntmps165
 go_wp2_with fail
 refine HW1.out.mono ?_;rintro e w1 ⟨rfl,hb⟩;have HT1:=qI (HT.out.below hb);have hB1:=qI hb;clear HT hb HW1;have n1:=HN1.out
 go_wp2_with fail
 refine (HC1.out _).mono ?_;rintro e w2 ⟨rfl,rfl⟩
 go_wp2_with fail
 refine (HK1.out _ HT1.out).mono ?_;rintro e w3 ⟨rfl,hb⟩;have HT2:=qI (HT1.out.below hb);have hB2:=qI (hB1.out.trans (hb.mono hB1.out.size));clear HT1 hB1 hb n1 HN1;have n2:=HN2.out;have o1:=HO1.out
 go_wp2_with fail
 refine (HC2.out _).mono ?_;rintro e w2 ⟨rfl,rfl⟩
 go_wp2_with fail
 refine (HK2.out _ HT2.out).mono ?_;rintro e w4 ⟨rfl,hb⟩;have hB3:=qI (hB2.out.trans (hb.mono hB2.out.size));clear HT2 hB2 hb n2 HN2;have o2:=HO2.out
 go_wp2_with fail
 go_ret;exact ⟨rfl,hB3.out⟩
def ib (r:Nat × Int):Value:=.tuple #[.int .u64 (r.1:Nat),aq r.2]
theorem Bj (s:Nat):ib (s,0)=.tuple #[.int .u64 s,.nilIface]:=rfl
theorem r9:ib (0,1)=.tuple #[.int .u64 0,.iface 121 (.int .i64 1)]:=rfl
theorem Bl:ib (0,8)=.tuple #[.int .u64 0,.iface 121 (.int .i64 8)]:=rfl
theorem Bo (tb F on:Nat) (L:Int) (l:List Cpu) (w:World) (h:L<0\/64<L) :
  Calls Tryz.prog 128 #[.pointer (some ⟨tb,0,none⟩),.int .u64 F,.int .i64 L,.int .u8 on] w λe w'=>e=.returned (ib (aM l F L (af (aQ on) l)))/\Below w.heap.size w w':=by
 have HE:Hid (aM l F L (af (aQ on) l)=(0,1)):=by unfold Hid aM;rw [if_pos (by omega)]
 rw [HE.out,r9];have key:L<0\/(0<=L/\64<L):=by omega
 clear h HE
 rcases key with h|⟨h,h2⟩
 all_goals
  go_enter Tryz.func128,Tryz.ntmps128
  go_wp2_with fail
  go_ret2;exact ⟨rfl,Below.refl _ _⟩
theorem Br (tb b o c F on:Nat) (L:Int) (l:List Cpu) (w:World) (ht:aY w tb b o c l) (hF:F<18446744073709551616) (h0:0<=L) (hL:L<=64) (h:¬ F &&& af aC l=F) :
  Calls Tryz.prog 128 #[.pointer (some ⟨tb,0,none⟩),.int .u64 F,.int .i64 L,.int .u8 on] w λe w'=>e=.returned (ib (aM l F L (af (aQ on) l)))/\Below w.heap.size w w':=by
 have HE:Hid (aM l F L (af (aQ on) l)=(0,1)):=by unfold Hid aM;rw [if_pos (.inr (.inr h))]
 rw [HE.out,r9];have HA:=qI (gA tb b o c l w ht);have hA:af aC l<18446744073709551616:=Ost.eZ aC l _ ht.len;have HI:=qI (λW=>jg F (af aC l) W hF hA);rw [decide_eq_false h] at HI;clear h HE ht
 go_enter Tryz.func128,Tryz.ntmps128
 go_wp2_with fail
 refine HA.out.mono ?_;rintro e w1 ⟨rfl,hb⟩
 go_wp2_with fail
 refine (HI.out _).mono ?_;rintro e w2 ⟨rfl,rfl⟩
 go_wp2_with fail
 go_ret2;exact ⟨rfl,hb⟩
theorem Bt (tb b o c F on:Nat) (L:Int) (l:List Cpu) (w:World) (ht:aY w tb b o c l) (hF:F<18446744073709551616) (h0:0<=L) (hL:L<=64) (h:F &&& af aC l=F) (hc:(cnt F:Int)<L) :
  Calls Tryz.prog 128 #[.pointer (some ⟨tb,0,none⟩),.int .u64 F,.int .i64 L,.int .u8 on] w λe w'=>e=.returned (ib (aM l F L (af (aQ on) l)))/\Below w.heap.size w w':=by
 have HE:Hid (aM l F L (af (aQ on) l)=(0,8)):=by
  unfold Hid aM;rw [if_neg (λhh=>by rcases hh with hh|hh|hh;omega;omega;exact hh h),if_pos hc]
 rw [HE.out,Bl];have HA:=qI (gA tb b o c l w ht);have hA:af aC l<18446744073709551616:=Ost.eZ aC l _ ht.len;have HI:=qI (λW=>jg F (af aC l) W hF hA);rw [decide_eq_true h] at HI;have HC:Hid (∀ W,Calls Tryz.prog 17 #[.int .u64 F] W λe w'=>e=.returned (.int .i64 (cnt F:Nat))/\w'=W):=λW=>fO F W hF
 generalize cnt F=cF at *;clear h HE ht
 go_enter Tryz.func128,Tryz.ntmps128
 go_wp2_with fail
 refine HA.out.mono ?_;rintro e w1 ⟨rfl,hb⟩
 go_wp2_with fail
 refine (HI.out _).mono ?_;rintro e w2 ⟨rfl,rfl⟩
 go_wp2_with fail
 refine (HC.out _).mono ?_;rintro e w2 ⟨rfl,rfl⟩
 go_wp2_with fail
 go_ret2;exact ⟨rfl,hb⟩
theorem Bu (tb b o c F on:Nat) (L:Int) (l:List Cpu) (w:World) (ht:aY w tb b o c l) (hg:Good l) (hF:F<18446744073709551616) (hon:on<256) (h0:0<=L) (hL:L<=64) (h:F &&& af aC l=F) (hc:L<=(cnt F:Int)) :
  Calls Tryz.prog 128 #[.pointer (some ⟨tb,0,none⟩),.int .u64 F,.int .i64 L,.int .u8 on] w λe w'=>e=.returned (ib (aM l F L (af (aQ on) l)))/\Below w.heap.size w w':=by
 have HE:=qI (Ost.rU (l:=l) (F:=F) (L:=L) (af (aQ on) l) h0 hL h hc);rw [HE.out,Bj];have HA:=qI (gA tb b o c l w ht);have hA:af aC l<18446744073709551616:=Ost.eZ aC l _ ht.len;have hM:af (aQ on) l<18446744073709551616:=Ost.eZ _ l _ ht.len;have HI:=qI (λW=>jg F (af aC l) W hF hA);rw [decide_eq_true h] at HI;have HC:Hid (∀ W,Calls Tryz.prog 17 #[.int .u64 F] W λe w'=>e=.returned (.int .i64 (cnt F:Nat))/\w'=W):=λW=>fO F W hF
 generalize cnt F=cF at *;have HOn:Hid (∀ W,aY W tb b o c l->Calls Tryz.prog 164 #[.pointer (some ⟨tb,0,none⟩),.int .u8 on] W λe w'=>e=.returned (.int .u64 (af (aQ on) l:Nat))/\Below W.heap.size W w'):=λW hW=>yn tb b o c l on W hW hg hon
 have hN:F &&& af (aQ on) l<18446744073709551616:=Ost.sub_lt hF (Ost.l7 F _);have HN:=qI (bits_and_u64_nat F (af (aQ on) l) hF hM);have HS1:=qI (λW hW=>rZ tb b o c (F &&& af (aQ on) l) L l W hW hg hN h0 hL);have HAN:=qI (jf F (F &&& af (aQ on) l) hF hN);have ha:=Ost.ov l (F &&& af (aQ on) l) L h0;have hal:=Ost.sub_lt hN (Ost.l6 l (F &&& af (aQ on) l) L);have HC2:Hid (∀ W,Calls Tryz.prog 17 #[.int .u64 (bO l (F &&& af (aQ on) l) L:Nat)] W λe w'=>e=.returned (.int .i64 (cnt (bO l (F &&& af (aQ on) l) L):Nat))/\w'=W):=λW=>fO _ W hal
 have hd:=Ost.iI (A:=F) (F &&& af (aQ on) l) hF;have HS2:=qI (λW hW=>rZ tb b o c (dif F (F &&& af (aQ on) l)) (L - cnt (bO l (F &&& af (aQ on) l) L)) l W hW hg hd (by omega) (by omega));have hbl:=Ost.sub_lt hd (Ost.l6 l (dif F (F &&& af (aQ on) l)) (L - cnt (bO l (F &&& af (aQ on) l) L)));have HO:=qI (ox _ _ hal hbl);have hcl:(cnt (bO l (F &&& af (aQ on) l) L):Int)<=L:=by omega
 have HT:=qI ht;generalize bO l (dif F (F &&& af (aQ on) l)) (L - cnt (bO l (F &&& af (aQ on) l) L))=s2 at *;generalize dif F (F &&& af (aQ on) l)=fr at *;generalize cnt (bO l (F &&& af (aQ on) l) L)=c1 at *;generalize bO l (F &&& af (aQ on) l) L=s1 at *;generalize F &&& af (aQ on) l=fh at *;generalize af (aQ on) l=mm at *;clear h HE ht hg ha
 go_enter Tryz.func128,Tryz.ntmps128
 go_wp2_with fail
 refine HA.out.mono ?_;rintro e w1 ⟨rfl,hb⟩;have HT1:=qI (HT.out.below hb);have hB1:=qI hb;clear HT hb HA
 go_wp2_with fail
 refine (HI.out _).mono ?_;rintro e w2 ⟨rfl,rfl⟩
 go_wp2_with fail
 refine (HC.out _).mono ?_;rintro e w2 ⟨rfl,rfl⟩
 go_wp2_with fail
 refine (HOn.out _ HT1.out).mono ?_;rintro e w2 ⟨rfl,hb⟩;have HT2:=qI (HT1.out.below hb);have hB2:=qI (hB1.out.trans (hb.mono hB1.out.size));clear HT1 hb hB1;have n1:=HN.out
 go_wp2_with fail
 refine (HS1.out _ HT2.out).mono ?_;rintro e w3 ⟨rfl,hb⟩;have HT3:=qI (HT2.out.below hb);have hB3:=qI (hB2.out.trans (hb.mono hB2.out.size));clear HT2 hb hB2 n1;have n2:=HAN.out
 go_wp2_with fail
 refine (HC2.out _).mono ?_;rintro e w4 ⟨rfl,rfl⟩
 go_wp2_with fail
 refine (HS2.out _ HT3.out).mono ?_;rintro e w5 ⟨rfl,hb⟩;have hB4:=qI (hB3.out.trans (hb.mono hB3.out.size));clear HT3 hb hB3 n2;have n3:=HO.out
 go_wp2_with fail
 go_ret2;exact ⟨rfl,hB4.out⟩
theorem Bv (tb b o c F on:Nat) (L:Int) (l:List Cpu) (w:World) (ht:aY w tb b o c l) (hg:Good l) (hF:F<18446744073709551616) (hon:on<256) :
  Calls Tryz.prog 128 #[.pointer (some ⟨tb,0,none⟩),.int .u64 F,.int .i64 L,.int .u8 on] w λe w'=>e=.returned (ib (aM l F L (af (aQ on) l)))/\Below w.heap.size w w':=by
 by_cases h1:L<0\/64<L
 ·exact Bo tb F on L l w h1
 ·by_cases h2:F &&& af aC l=F
  ·by_cases h3:(cnt F:Int)<L
   ·exact Bt tb b o c F on L l w ht hF (by omega) (by omega) h2 h3
   ·exact Bu tb b o c F on L l w ht hg hF hon (by omega) (by omega) h2 (by omega)
  ·exact Br tb b o c F on L l w ht hF (by omega) (by omega) h2
end
end Go.Proofs.YtbmmnflgnmjboaaGreatDoor
