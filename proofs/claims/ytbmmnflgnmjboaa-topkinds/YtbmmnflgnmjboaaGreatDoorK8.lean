import Derived.Test.YtbmmnflgnmjboaaGreatDoorK4
import Derived.Laws.BitsAllLaws
import Derived.Shelf.SlicesG.Cmp
import Derived.Shelf.Lay
import Derived.Ground.SlgcProg
import Derived.Deep.RegionHeld3
import Derived.Laws.EntriesVeiled
set_option maxRecDepth 100000
set_option maxHeartbeats 16000000
namespace Go.Proofs.YtbmmnflgnmjboaaGreatDoor
section
namespace Ost
def cnt (A:Nat):Nat:=(aI A 64).length
def dif (A B:Nat):Nat:=A ^^^ (A &&& B)
theorem eQ (A B i:Nat):(dif A B).testBit i=(A.testBit i && !B.testBit i):=by
 rw [dif,Nat.testBit_xor,Nat.testBit_and];cases A.testBit i <;> cases B.testBit i <;> rfl
theorem fY (A B:Nat):A &&& B=A↔∀ i,A.testBit i=true->B.testBit i=true:=by
 constructor
 ·intro h i hi;have e:(A &&& B).testBit i=A.testBit i:=by rw [h]
  rw [Nat.testBit_and,hi] at e
  simpa using e
 ·intro h;apply Nat.eq_of_testBit_eq;intro i;rw [Nat.testBit_and];cases hA:A.testBit i with
  | false=>rfl
  | true=>rw [h i hA];rfl
theorem iO (A B:Nat):A &&& B=0↔∀ i,A.testBit i=true->B.testBit i=false:=by
 constructor
 ·intro h i hi;have e:(A &&& B).testBit i=false:=by rw [h,Nat.zero_testBit]
  rw [Nat.testBit_and,hi] at e
  simpa using e
 ·intro h;apply Nat.eq_of_testBit_eq;intro i;rw [Nat.testBit_and,Nat.zero_testBit];cases hA:A.testBit i with
  | false=>rfl
  | true=>rw [h i hA];rfl
theorem Bb {A B:Nat} (h:A &&& B=0) (k:Nat):(aI (A ||| B) k).length=(aI A k).length+(aI B k).length:=by
 induction k with
 | zero=>rfl
 | succ k ih=>
  rw [jd,jd A,jd B,Nat.testBit_or];have hx:=(iO A B).1 h k;cases hA:A.testBit k with
  | true=>rw [hx hA];simp [ih];omega
  | false=>cases hB:B.testBit k <;> simp [ih];omega
theorem jT {A B:Nat} (h:A &&& B=0):cnt (A ||| B)=cnt A+cnt B:=Bb h 64
theorem si:cnt 0=0:=by decide +kernel
theorem Bf {A:Nat} (h:A<18446744073709551616) {i:Nat} (hi:A.testBit i=true):i<64:=by
 apply Qt;intro hn
 have:A.testBit i=false:=Nat.testBit_lt_two_pow (Q1 (show A<2 ^ 64 from h) (Nat.pow_le_pow_right (n:=2) (by omega) (by omega)))
 rw [this] at hi;cases hi
theorem iP {A:Nat} (B:Nat) (h:A<18446744073709551616):dif A B<18446744073709551616:=by
 apply Nat.lt_pow_two_of_testBit (n:=64);intro i hi;rw [eQ];cases hA:A.testBit i with
 | false=>rfl
 | true=>have:=Bf h hA;omega
theorem Bi {A B:Nat} (h:B &&& A=B):dif A B ||| B=A:=by
 apply Nat.eq_of_testBit_eq;intro i;rw [Nat.testBit_or,eQ]
 have:=(fY B A).1 h i
 cases hB:B.testBit i with
 | true=>rw [this hB];rfl
 | false=>simp
theorem Bj (A B:Nat):dif A B &&& B=0:=by
 rw [iO];intro i hi;rw [eQ] at hi;cases hB:B.testBit i with
 | true=>rw [hB] at hi;simp at hi
 | false=>rfl
theorem oB {A B:Nat} (h:B &&& A=B):cnt (dif A B)+cnt B=cnt A:=by
 rw [<- jT (Bj A B),Bi h]
theorem oC (A B:Nat):dif A B &&& A=dif A B:=by
 rw [fY];intro i hi;rw [eQ] at hi;revert hi;cases A.testBit i <;> simp
theorem sub_lt {A B:Nat} (hB:B<18446744073709551616) (h:A &&& B=A):A<18446744073709551616:=by
 rw [<- h];exact Nat.lt_of_le_of_lt Nat.and_le_right hB
theorem mh {A B C:Nat} (h1:A &&& B=A) (h2:B &&& C=B):A &&& C=A:=by
 rw [fY] at *;intro i hi;exact h2 i (h1 i hi)
theorem mi {A B C:Nat} (h1:A &&& C=A) (h2:B &&& C=B):(A ||| B) &&& C=A ||| B:=by
 rw [fY] at *;intro i hi;rw [Nat.testBit_or,Bool.or_eq_true] at hi
 rcases hi with hi|hi
 ·exact h1 i hi
 ·exact h2 i hi
theorem Bl {A B:Nat} (h:A &&& B=0):B &&& A=0:=by rw [Nat.and_comm];exact h
def aL (f:Nat->Nat) (free:Nat) (many:Int):Nat->Nat
 | 0=>0
 | k+1=>if f k &&& free=f k/\(cnt (f k):Int)<=many - cnt (aL f free many k) then aL f free many k ||| f k else aL f free many k
def fE (f:Nat->Nat) (free:Nat) (many:Int):Nat:=aL f free many 64
theorem sj {f:Nat->Nat} {free:Nat} {many:Int} {k:Nat} (h1:f k &&& free=f k) (h2:(cnt (f k):Int)<=many - cnt (aL f free many k)):aL f free many (k+1)=aL f free many k ||| f k:=by rw [aL,if_pos ⟨h1,h2⟩]
theorem so {f:Nat->Nat} {free:Nat} {many:Int} {k:Nat} (h1:¬ f k &&& free=f k):aL f free many (k+1)=aL f free many k:=by rw [aL,if_neg (λh=>h1 h.1)]
theorem sr {f:Nat->Nat} {free:Nat} {many:Int} {k:Nat} (h2:¬ (cnt (f k):Int)<=many - cnt (aL f free many k)):aL f free many (k+1)=aL f free many k:=by rw [aL,if_neg (λh=>h2 h.2)]
theorem mj (f:Nat->Nat) (free:Nat) (many:Int) (k:Nat):aL f free many k &&& free=aL f free many k:=by
 induction k with
 | zero=>simp [aL]
 | succ k ih=>
  rw [aL]
  split
  ·rename_i h;exact mi ih h.1
  ·exact ih
theorem Bo (f:Nat->Nat) (free:Nat) (many:Int) (k i:Nat) (h:(aL f free many k).testBit i=true):∃ n,n<k/\(f n).testBit i=true/\f n &&& aL f free many k=f n:=by
 induction k with
 | zero=>simp [aL] at h
 | succ k ih=>
  rw [aL] at h ⊢
  split at h
  ·rename_i hc
   rw [if_pos hc];rw [Nat.testBit_or,Bool.or_eq_true] at h
   rcases h with h|h
   ·obtain ⟨n,hn,hb,hs⟩:=ih h;refine ⟨n,by omega,hb,?_⟩;rw [fY] at hs ⊢;intro j hj;rw [Nat.testBit_or,hs j hj];rfl
   ·refine ⟨k,by omega,h,?_⟩;rw [fY];intro j hj;rw [Nat.testBit_or,hj];simp
  ·rename_i hc
   rw [if_neg hc];obtain ⟨n,hn,hb,hs⟩:=ih h;exact ⟨n,by omega,hb,hs⟩
def oD (f:Nat->Nat):Prop:=∀ a b,a≠b->f a &&& f b=0
theorem Br {f:Nat->Nat} (hp:oD f) (free:Nat) (many:Int) (k n:Nat) (hn:k<=n):aL f free many k &&& f n=0:=by
 rw [iO];intro i hi;obtain ⟨j,hj,hb,_⟩:=Bo f free many k i hi;exact (iO _ _).1 (hp j n (by omega)) i hb
theorem ml {f:Nat->Nat} (hp:oD f) (free:Nat) (many:Int) (h0:0<=many) (k:Nat):(cnt (aL f free many k):Int)<=many:=by
 induction k with
 | zero=>simp only [aL,si];omega
 | succ k ih=>
  rw [aL]
  split
  ·rename_i h;rw [jT (Br hp free many k k (lR))];omega
  ·exact ih
theorem oE (f:Nat->Nat) (free:Nat) (many:Int) (k:Nat) (h:free<18446744073709551616):aL f free many k<18446744073709551616:=sub_lt h (mj f free many k)
def less (c:Nat->Nat) (x y:Nat):Bool:=decide (c x<c y\/(c x=c y/\x<y))
def order (c:Nat->Nat) (A:Nat):List Nat:=(aI A 64).mergeSort (λx y=>!less c y x)
def orB (l:List Nat):Nat:=l.foldl (λs n=>s ||| 2 ^ n) 0
theorem oF (l:List Nat) (n:Nat):orB (l++[n])=orB l ||| 2 ^ n:=by simp [orB]
theorem oG (l:List Nat) (i:Nat):(orB l).testBit i=decide (i∈l):=by
 have key:∀ r:List Nat,(orB r.reverse).testBit i=decide (i∈r.reverse):=by
  intro r
  induction r with
  | nil=>simp [orB]
  | cons n r ih=>
   rw [List.reverse_cons,oF,Nat.testBit_or,ih,Nat.testBit_two_pow,Bool.eq_iff_iff];simp only [Bool.or_eq_true,Qp,Qi,Qm];constructor
   ·rintro (h|h)
    ·exact .inl h
    ·exact .inr h.symm
   ·rintro (h|h)
    ·exact .inl h
    ·exact .inr h.symm
 have:=key l.reverse
 rwa [List.reverse_reverse] at this
theorem oH (c:Nat->Nat) (A:Nat):(order c A).Perm (aI A 64):=List.mergeSort_perm _ _
theorem mn (c:Nat->Nat) (A:Nat):(order c A).length=cnt A:=(oH c A).length_eq
theorem Bt (A i:Nat):i∈aI A 64↔i<64/\A.testBit i=true:=by unfold aI;simp
theorem oI {c:Nat->Nat} {A i:Nat}:i∈order c A↔i<64/\A.testBit i=true:=by rw [(oH c A).mem_iff,Bt]
theorem Bu (c:Nat->Nat) (A:Nat):(order c A).Nodup:=by
 rw [(oH c A).nodup_iff];unfold aI;exact List.Pairwise.filter _ List.nodup_range
theorem Bv {c:Nat->Nat} {x y:Nat} (h1:less c x y=false) (h2:less c y x=false):x=y:=by simp [less] at *;omega
def rest (c:Nat->Nat) (A j:Nat):Nat:=dif A (orB ((order c A).take j))
theorem By {n:Nat} (h:n<64):cnt (2 ^ n)=1:=by
 have:∀ i:Fin 64,cnt (2 ^ i.val)=1:=by decide +kernel
 exact this ⟨n,h⟩
theorem Bz {l:List Nat} (hn:l.Nodup) (h64:∀ i∈l,i<64):cnt (orB l)=l.length:=by
 have key:∀ r:List Nat,r.reverse.Nodup->(∀ i∈r.reverse,i<64)->cnt (orB r.reverse)=r.reverse.length:=by
  intro r
  induction r with
  | nil=>intro _ _;simp [orB,si]
  | cons n r ih=>
   intro hn h64;rw [List.reverse_cons] at hn h64 ⊢;rw [List.nodup_append] at hn;rw [oF,jT,ih hn.1 (λi hi=>h64 i (List.mem_append_left _ hi)),By (h64 n (by simp))]
   ·simp
   ·rw [iO];intro i hi;rw [oG,Qp] at hi;rw [Nat.testBit_two_pow];exact Q7 (λe=>hn.2.2 i hi n (by simp) e.symm)
 have:=key l.reverse
 rw [List.reverse_reverse] at this;exact this hn h64
def dG (c:Nat->Nat) (A:Nat) (many:Nat):Nat:=orB ((order c A).take many)
theorem oJ (c:Nat->Nat) (A many:Nat):dG c A many &&& A=dG c A many:=by
 rw [fY];intro i hi;rw [dG,oG,Qp] at hi;exact (oI.1 (List.mem_of_mem_take hi)).2
theorem BA (c:Nat->Nat) (A many:Nat):cnt (dG c A many)=min many (cnt A):=by
 rw [dG,Bz,Qu,mn]
 ·exact (Bu c A).sublist (List.take_sublist _ _)
 ·intro i hi;exact (oI.1 (List.mem_of_mem_take hi)).1
def sockAt (l:List Cpu) (n:Nat):Nat:=at' (·.sock) l n
def aX (l:List Cpu) (n:Nat):Nat:=at' (·.core) l n
theorem mo (f:Cpu->Int) (l:List Cpu):oD (at' f l):=by
 intro a b hab;rw [iO];intro i hi;rw [at',nC,Bool.and_eq_true,beq_iff_eq] at hi;rw [at',nC,hi.2]
 have:(((a:Nat):Int) == (b:Int))=false:=by rw [Qr];omega
 rw [this];simp
theorem oK (f:Cpu->Int) {l:List Cpu} (h:l.length<=64) (n:Nat):at' f l n<18446744073709551616:=e5 _ l _ h
def leftOf (l:List Cpu) (now n:Nat):Nat:=cnt (af (λx=>x.core == (l.getD n ae).core) l &&& now)
def et (l:List Cpu) (F:Nat) (L:Int):Nat:=fE (sockAt l) F L
def eH (l:List Cpu) (F:Nat) (L:Int):Nat:=et l F L ||| fE (aX l) (dif F (et l F L)) (L - cnt (et l F L))
def bO (l:List Cpu) (F:Nat) (L:Int):Nat:=eH l F L ||| dG (leftOf l (dif F (eH l F L))) (dif F (eH l F L)) (L - cnt (eH l F L)).toNat
theorem su (l:List Cpu) (F:Nat) (L:Int):et l F L &&& F=et l F L:=mj _ _ _ _
theorem sw (l:List Cpu) (F:Nat) (L:Int) (h:0<=L):(cnt (et l F L):Int)<=L:=ml (mo _ l) F L h 64
theorem oL (l:List Cpu) (F:Nat) (L:Int):eH l F L &&& F=eH l F L:=
 mi (su l F L) (mh (mj _ _ _ _) (oC F _))
theorem sx {A B C:Nat} (h:B &&& dif C A=B):A &&& B=0:=by
 apply Bl;rw [fY] at h;rw [iO];intro i hi
 have:=h i hi
 rw [eQ,Bool.and_eq_true] at this
 simpa using this.2
theorem sy (l:List Cpu) (F:Nat) (L:Int) (h:0<=L):(cnt (eH l F L):Int)<=L:=by
 have h1:=sw l F L h;unfold eH fE;rw [jT (sx (mj (aX l) (dif F (et l F L)) (L - cnt (et l F L)) 64))];have h2:=ml (mo (·.core) l) (dif F (et l F L)) (L - cnt (et l F L)) (by omega) 64;have e:aX l=at' (·.core) l:=rfl;rw [e];omega
theorem mr (l:List Cpu) (F:Nat) (L:Int):bO l F L &&& F=bO l F L:=
 mi (oL l F L) (mh (oJ _ _ _) (oC F _))
theorem oM (l:List Cpu) (F:Nat) (L:Int) (h:0<=L):(cnt (bO l F L):Int)=min L (cnt F):=by
 have h1:=sy l F L h;have h2:=oB (oL l F L);rw [bO,jT (sx (oJ _ _ _)),BA];omega
def aN (l:List Cpu) (F:Nat) (L:Int) (on:Nat):Nat × Int:=
 if L<0\/64<L\/¬ F &&& af (λ_=>true) l=F then (0,1) else
 if (cnt F:Int)<L then (0,8) else
 (bO l (F &&& on) L ||| bO l (dif F (F &&& on)) (L - cnt (bO l (F &&& on) L)),0)
theorem mu (A B:Nat):A &&& B &&& A=A &&& B:=by
 apply Nat.eq_of_testBit_eq;intro i;simp only [Nat.testBit_and];cases A.testBit i <;> cases B.testBit i <;> rfl
theorem sA {l:List Cpu} {F:Nat} {L:Int} (on:Nat) (h0:0<=L) (h64:L<=64) (hin:F &&& af (λ_=>true) l=F) (hc:L<=cnt F) :
  aN l F L on=(bO l (F &&& on) L ||| bO l (dif F (F &&& on)) (L - cnt (bO l (F &&& on) L)),0):=by
 rw [aN,if_neg (λh=>by rcases h with h|h|h;omega;omega;exact h hin),if_neg (by omega)]
theorem BB {l:List Cpu} {F:Nat} {L:Int} (on:Nat) (h0:0<=L) (hc:L<=cnt F) (s:Nat) (hs:s=bO l (F &&& on) L ||| bO l (dif F (F &&& on)) (L - cnt (bO l (F &&& on) L))) :
  (cnt s:Int)=L/\s &&& F=s/\(cnt (s &&& on):Int)=min L (cnt (F &&& on)):=by
 have ha:=oM l (F &&& on) L h0;have has:=mr l (F &&& on) L;have hbs:=mr l (dif F (F &&& on)) (L - cnt (bO l (F &&& on) L));have hb:=oM l (dif F (F &&& on)) (L - cnt (bO l (F &&& on) L)) (by omega);have hd:=oB (mu F on);generalize bO l (dif F (F &&& on)) (L - cnt (bO l (F &&& on) L))=b at *;generalize bO l (F &&& on) L=a at *;have hab:a &&& b=0:=by
  rw [fY] at has hbs;rw [iO];intro i hi;cases hbi:b.testBit i with
  | false=>rfl
  | true=>
   have h1:=has i hi;have h2:=hbs i hbi;rw [eQ,h1] at h2
   simp at h2
 have hson:s &&& on=a:=by
  rw [hs];rw [fY] at has hbs;apply Nat.eq_of_testBit_eq;intro i;rw [Nat.testBit_and,Nat.testBit_or];cases hai:a.testBit i with
  | true=>
   have h1:=has i hai;rw [Nat.testBit_and,Bool.and_eq_true] at h1;rw [h1.2];rfl
  | false=>
   cases hbi:b.testBit i with
   | false=>rfl
   | true=>
    have h2:=hbs i hbi;rw [eQ,Nat.testBit_and] at h2
    revert h2
    cases F.testBit i <;> cases on.testBit i <;> simp
 refine ⟨?_,?_,?_⟩
 ·rw [hs,jT hab];omega
 ·rw [hs];exact mi (mh has (mu F on)) (mh hbs (oC F _))
 ·rw [hson];exact ha
end Ost
end
section
open RowKit
open Ost (cnt dif)
theorem jp (A B:Nat) (hA:A<18446744073709551616) (hB:B<18446744073709551616):bits BinOp.andNot IntKind.u64 (A:Int) (B:Int)=((dif A B:Nat):Int):=by
 rw [u64_andNot_nat A B hA hB];have key:A &&& (18446744073709551615 - B)=dif A B:=by
  apply Nat.eq_of_testBit_eq;intro i;rw [Nat.testBit_and,Ost.eQ]
  by_cases hi:i<64
  ·have e:(18446744073709551615 - B).testBit i=!B.testBit i:=by
    have:=Nat.testBit_two_pow_sub_succ (n:=64) hB i
    rw [show 2 ^ 64 - (B+1)=18446744073709551615 - B by omega] at this;rw [this,Qc hi];simp
   rw [e]
  ·have:A.testBit i=false:=Nat.testBit_lt_two_pow (Q1 hA (Nat.pow_le_pow_right (n:=2) (by omega) (show 64<=i by omega)))
   rw [this];simp
 rw [key]
theorem BC (A B:Nat):dif A B=0↔A &&& B=A:=by
 rw [Ost.fY];constructor
 ·intro h i hi;have e:(dif A B).testBit i=false:=by rw [h,Nat.zero_testBit]
  rw [Ost.eQ,hi] at e
  simpa using e
 ·intro h;apply Nat.eq_of_testBit_eq;intro i;rw [Ost.eQ,Nat.zero_testBit];cases hA:A.testBit i with
  | false=>rfl
  | true=>rw [h i hA];rfl
theorem BE (A B:Nat) (hA:A<18446744073709551616) (hB:B<18446744073709551616):(bits BinOp.andNot IntKind.u64 (A:Int) (B:Int) == 0)=decide (A &&& B=A):=by
 rw [jp A B hA hB,Bool.eq_iff_iff,beq_iff_eq,Qp,<- BC];omega
theorem jq (A B:Nat) (w:World) (hA:A<18446744073709551616) (hB:B<18446744073709551616) :
  Calls Tryz.prog 38 #[.int .u64 A,.int .u64 B] w λe w'=>e=.returned (.bool (decide (A &&& B=A)))/\w'=w:=by
 have H:=qI (BE A B hA hB)
 go_enter Tryz.func38,Tryz.ntmps38
 go_wp2
 go_ret;exact ⟨congrArg (λb=>Ending.returned (.bool b)) H.out,rfl⟩
theorem BF:(Tryz.prog.info? 3).map (λi=>(i.zero,i.size,i.bytes))=some (some (.int .i64 0),1,8):=by kernel_rfl
def nums (l:List Nat):List Value:=l.map λ(n:Nat)=>Value.int .i64 (n:Int)
theorem BG (l:List Nat) (n:Nat):nums (l++[n])=nums l++[.int .i64 n]:=by simp [nums]
theorem jJ (A k:Nat):(Ost.aI A k).length<=k:=by
 unfold Ost.aI;exact Q5 (List.length_filter_le _ _) (by simp)
theorem BH (A:Nat) (w:World) (hA:A<18446744073709551616) :
  Calls Tryz.prog 251 #[.int .u64 A] w λe w'=>∃ v,e=.returned v/\w'.ownsRow w.heap.size 3 1 v (Ost.aI A 64).length (nums (Ost.aI A 64))/\Below w.heap.size w w':=by
 obtain ⟨i0,hi,hz0,hz1,hz2⟩:=info_parts BF
 go_enter Tryz.func251,Tryz.ntmps251
 go_wp2
 go_loopw [3,5] (λv i wr=>∃ k:Nat,k<=64/\i=.int .i64 k/\wr.ownsRow w.heap.size 3 1 v (Ost.aI A k).length (nums (Ost.aI A k))/\Below w.heap.size w wr) (λ_ i _=>64 - (intOf i).toNat)
 case atStart=>exact ⟨0,by omega,rfl,Qw _ _ _ _,Q0 _ _⟩
 case round=>
  obtain ⟨k,hk,rfl,hrow,hnx⟩:=hrel
  by_cases hlt:k<64
  ·have hle:=jJ A k;have hsz:=hnx.size
   by_cases hb:A.testBit k=true
   ·have HS:Hid (Ost.aI A (k+1)=Ost.aI A k++[k]):=by unfold Hid;rw [Ost.jd,if_pos hb]
    have HI:=ks A k wr hA hlt;rw [hb] at HI;have HI2:Hid (Calls Tryz.prog 154 #[.int .u64 A,.int .i64 k] wr λe w'=>e=.returned (.bool true)/\w'=wr):=HI;clear HI hb
    go_wp2_with (first
     | (go_at_call 154;refine HI2.out.mono ?_;rintro e w' ⟨rfl,rfl⟩)
     | (at_builtin;refine wpList_append_own _ rfl _ _ 44 rfl w.heap.size 3 i0 (.int .i64 0) 1 8 Tryz.underlying44 hi hz0 hz1 hz2 rfl (by decide) _ _ _ rfl (hrow.alloc _) ⟨_,0,none⟩ 1 1 [.int .i64 k] rfl rfl (cell_one_new _ _ _) (ints_oneCell .i64 [(k:Int)]) (by unfold maxLen;omega) (by omega) (by simp;omega) ?_;intro v' w1 hown' hgrow' _))
    go_roundw
    case rel=>
     refine ⟨k+1,by omega,by go_num,?_,?_⟩
     ·rw [HS.out,BG,Q2];exact hown'
     ·exact (hnx.alloc hsz _).grown hgrow' (by simp;omega) (λj hj=>(hrow.lt j hj).1)
    case measure=>simp [intOf];omega
   ·have hb':A.testBit k=false:=by simpa using hb
    have HS:Hid (Ost.aI A (k+1)=Ost.aI A k):=by unfold Hid;rw [Ost.jd,if_neg hb]
    have HI:=ks A k wr hA hlt;rw [hb'] at HI;have HI2:Hid (Calls Tryz.prog 154 #[.int .u64 A,.int .i64 k] wr λe w'=>e=.returned (.bool false)/\w'=wr):=HI;clear HI hb hb'
    go_wp2_with (go_at_call 154;refine HI2.out.mono ?_;rintro e w' ⟨rfl,rfl⟩)
    go_roundw
    case rel=>
     refine ⟨k+1,by omega,by go_num,?_,hnx⟩;rw [HS.out];exact hrow
    case measure=>simp [intOf];omega
  ·have hk64:k=64:=by omega
   subst hk64;clear hk hlt
   go_wp2
   go_ret;exact ⟨_,rfl,hrow,hnx⟩
end
section
open RowKit Go.ChangeMaps
open Go.Maps (Keyed int_keyed keyOf_int_mk)
def dR (w:World) (B n:Nat) (f:Int->Int):Prop:=
 ∃ D:DataW Unit,w.ownsMap Tryz.prog 3 (plainElem Tryz.prog 3) B n D/\∀ k:Int,0<=k->k<64->D.atKey (.int .i64 k) (.lit (.int .i64 0))=.lit (.int .i64 (f k))
theorem dR.alloc {w:World} {B n:Nat} {f:Int->Int} (h:dR w B n f) (o:Obj):dR (w.alloc o) B n f:=by
 obtain ⟨D,ho,hk⟩:=h;exact ⟨D,ho.alloc o,hk⟩
theorem dR.below {w w':World} {B K n:Nat} {f:Int->Int} (h:dR w B n f) (hb:Below K w w') (hK:B<K):dR w' B n f:=by
 obtain ⟨D,⟨es,clock,hh,r⟩,hk⟩:=h;exact ⟨D,⟨es,clock,(hb.block B hK).trans hh,r⟩,hk⟩
theorem dR.lt {w:World} {B n:Nat} {f:Int->Int} (h:dR w B n f):B<w.heap.size:=by
 obtain ⟨D,ho,_⟩:=h;exact ho.lt
theorem dR.made (w:World):dR (w.alloc (.map #[] 0)) w.heap.size 0 (λ_=>0):=
 ⟨.map [],World.ownsMap_made w _ _ _,λ_ _ _=>rfl⟩
theorem BI (w:World):(zeroValue 3).run Tryz.prog w=.ok (.int .i64 0) w:=by kernel_rfl
theorem BJ {ops:Array Oper} {rest:List Oper} {o:Oper} {a:Act} {Q:Exit->Act->World->Prop} (w:World) (hg:o.guard=none) (m x:Operand) (hop:o.op=Op.lookup 349 m x false)
  (B n:Nat) (f:Int->Int) (k:Int) (h0:0<=k) (h64:k<64) (hm:a.eval m=.map (some B)) (hx:a.eval x=.int .i64 k) (hM:dR w B n f)
  (hK:wpList Tryz.prog ops Q rest (a.put o.dst (.int .i64 (f k))) w) :
  wpList Tryz.prog ops Q (o :: rest) a w:=by
 obtain ⟨D,ho,hk⟩:=hM;refine wpList_lookup_own_int w hg m x 349 hop 3 3 .i64 lV Tryz.underlying349 Tryz.underlying3 (BI w) B n D hm ho _ (.int .i64 k) hx (keyOf_int_mk Tryz.underlying3 (lW h0 h64)) ?_;intro c hc _;rw [hk k h0 h64] at hc;simp only [DataW.lit.injEq,Lit.int.injEq,true_and] at hc;rw [<- hc];exact hK
end
section
open RowKit
open Ost (Cpu ae af cnt dif aL fE sockAt aX)
theorem BK (tb b o c F:Nat) (L:Int) (l:List Cpu) (w:World) (ht:aZ w tb b o c l) (hF:F<18446744073709551616) (h0:0<=L) (hL:L<=64) :
  Calls Tryz.prog 204 #[.func (.func 205) #[.pointer (some ⟨tb,0,none⟩)] #[],.int .u64 F,.int .i64 L] w λe w'=>e=.returned (.int .u64 (fE (sockAt l) F L:Nat))/\Below w.heap.size w w':=by
 have HT:=qI ht;have h64:=ht.len;clear ht
 go_enter Tryz.func204,Tryz.ntmps204
 go_wp2
 go_loopw [7,10] (λt i wr=>∃ k:Nat,k<=64/\i=.int .i64 k/\t=.int .u64 (aL (sockAt l) F L k:Nat)/\Hid (aZ wr tb b o c l)/\Below w.heap.size w wr) (λ_ i _=>64 - (intOf i).toNat)
 case atStart=>exact ⟨0,by omega,rfl,rfl,HT,Q0 _ _⟩
 case round=>
  obtain ⟨k,hk,rfl,rfl,HTr,hB⟩:=hrel
  by_cases hlt:k<64
  ·have HS:Hid (Calls Tryz.prog 205 #[.pointer (some ⟨tb,0,none⟩),.int .i64 k] wr λe w'=>e=.returned (.int .u64 (sockAt l k:Nat))/\Below wr.heap.size wr w'):=yT tb b o c l k wr HTr.out;have hs:=Ost.oK (·.sock) h64 k
   change sockAt l k<_ at hs
   have ht:=Ost.oE (sockAt l) F L k hF;have HC1:=qI (λW=>gD (sockAt l k) W hs);have HC2:=qI (λW=>gD (aL (sockAt l) F L k) W ht);have hc2:=Ost.ml (Ost.mo (·.sock) l) F L h0 k
   change (cnt (aL (sockAt l) F L k):Int)<=L at hc2
   have HI:=qI (λW=>jq (sockAt l k) F W hs hF);have HY:=qI (λh1 h2=>Ost.sj (f:=sockAt l) (free:=F) (many:=L) (k:=k) h1 h2);have HN1:=qI (λh1=>Ost.so (f:=sockAt l) (free:=F) (many:=L) (k:=k) h1);have HN2:=qI (λh1=>Ost.sr (f:=sockAt l) (free:=F) (many:=L) (k:=k) h1);have HO:=qI (bits_or_u64_nat (aL (sockAt l) F L k) (sockAt l k) ht hs)
   change Hid (∀ W,Calls _ _ _ W λe w'=>e=.returned (.int .i64 (cnt (sockAt l k):Nat))/\w'=W) at HC1
   change Hid (∀ W,Calls _ _ _ W λe w'=>e=.returned (.int .i64 (cnt (aL (sockAt l) F L k):Nat))/\w'=W) at HC2
   generalize sockAt l k=s at *
   go_wp2_with (go_at_call 205;refine HS.out.mono ?_;rintro e w1 ⟨rfl,hb⟩)
   have hB1:=hB.trans (hb.mono hB.size);have HT1:=qI (HTr.out.below hb);clear HTr hb hB HS
   by_cases h1:s &&& F=s
   ·have e1:decide (s &&& F=s)=true:=Qc h1
    by_cases h2:(cnt s:Int)<=L - cnt (aL (sockAt l) F L k)
    ·have HE:Hid (aL (sockAt l) F L (k+1)=aL (sockAt l) F L k ||| s):=HY.out h1 h2;rw [e1] at HI;clear h1 e1;refine (HI.out w1).mono ?_;rintro e w2 ⟨rfl,rfl⟩
     go_wp2_with fail
     refine (HC1.out _).mono ?_;rintro e w2 ⟨rfl,rfl⟩
     go_wp2_with fail
     refine (HC2.out _).mono ?_;rintro e w2 ⟨rfl,rfl⟩
     go_wp2
     go_roundw
     case rel=>exact ⟨k+1,by omega,by go_num,by rw [HE.out,<- HO.out],HT1,hB1⟩
     case measure=>simp [intOf];omega
    ·have HE:Hid (aL (sockAt l) F L (k+1)=aL (sockAt l) F L k):=HN2.out (by omega);have h3:L - cnt (aL (sockAt l) F L k)<(cnt s:Int):=by omega
     rw [e1] at HI;clear h1 e1 h2;refine (HI.out w1).mono ?_;rintro e w2 ⟨rfl,rfl⟩
     go_wp2_with fail
     refine (HC1.out _).mono ?_;rintro e w2 ⟨rfl,rfl⟩
     go_wp2_with fail
     refine (HC2.out _).mono ?_;rintro e w2 ⟨rfl,rfl⟩
     go_wp2
     go_roundw
     case rel=>exact ⟨k+1,by omega,by go_num,by rw [HE.out],HT1,hB1⟩
     case measure=>simp [intOf];omega
   ·have e1:decide (s &&& F=s)=false:=Q7 h1;have HE:Hid (aL (sockAt l) F L (k+1)=aL (sockAt l) F L k):=HN1.out h1;rw [e1] at HI;clear h1 e1;refine (HI.out w1).mono ?_;rintro e w2 ⟨rfl,rfl⟩
    go_wp2
    go_roundw
    case rel=>exact ⟨k+1,by omega,by go_num,by rw [HE.out],HT1,hB1⟩
    case measure=>simp [intOf];omega
  ·have hk64:k=64:=by omega
   subst hk64;clear hk hlt
   go_wp2
   go_ret;exact ⟨rfl,hB⟩
theorem BL (tb b o c F:Nat) (L:Int) (l:List Cpu) (w:World) (ht:aZ w tb b o c l) (hF:F<18446744073709551616) (h0:0<=L) (hL:L<=64) :
  Calls Tryz.prog 204 #[.func (.func 206) #[.pointer (some ⟨tb,0,none⟩)] #[],.int .u64 F,.int .i64 L] w λe w'=>e=.returned (.int .u64 (fE (aX l) F L:Nat))/\Below w.heap.size w w':=by
 have HT:=qI ht;have h64:=ht.len;clear ht
 go_enter Tryz.func204,Tryz.ntmps204
 go_wp2
 go_loopw [7,10] (λt i wr=>∃ k:Nat,k<=64/\i=.int .i64 k/\t=.int .u64 (aL (aX l) F L k:Nat)/\Hid (aZ wr tb b o c l)/\Below w.heap.size w wr) (λ_ i _=>64 - (intOf i).toNat)
 case atStart=>exact ⟨0,by omega,rfl,rfl,HT,Q0 _ _⟩
 case round=>
  obtain ⟨k,hk,rfl,rfl,HTr,hB⟩:=hrel
  by_cases hlt:k<64
  ·have HS:Hid (Calls Tryz.prog 206 #[.pointer (some ⟨tb,0,none⟩),.int .i64 k] wr λe w'=>e=.returned (.int .u64 (aX l k:Nat))/\Below wr.heap.size wr w'):=qY tb b o c l k wr HTr.out;have hs:=Ost.oK (·.core) h64 k
   change aX l k<_ at hs
   have ht:=Ost.oE (aX l) F L k hF;have HC1:=qI (λW=>gD (aX l k) W hs);have HC2:=qI (λW=>gD (aL (aX l) F L k) W ht);have hc2:=Ost.ml (Ost.mo (·.core) l) F L h0 k
   change (cnt (aL (aX l) F L k):Int)<=L at hc2
   have HI:=qI (λW=>jq (aX l k) F W hs hF);have HY:=qI (λh1 h2=>Ost.sj (f:=aX l) (free:=F) (many:=L) (k:=k) h1 h2);have HN1:=qI (λh1=>Ost.so (f:=aX l) (free:=F) (many:=L) (k:=k) h1);have HN2:=qI (λh1=>Ost.sr (f:=aX l) (free:=F) (many:=L) (k:=k) h1);have HO:=qI (bits_or_u64_nat (aL (aX l) F L k) (aX l k) ht hs)
   change Hid (∀ W,Calls _ _ _ W λe w'=>e=.returned (.int .i64 (cnt (aX l k):Nat))/\w'=W) at HC1
   change Hid (∀ W,Calls _ _ _ W λe w'=>e=.returned (.int .i64 (cnt (aL (aX l) F L k):Nat))/\w'=W) at HC2
   generalize aX l k=s at *
   go_wp2_with (go_at_call 206;refine HS.out.mono ?_;rintro e w1 ⟨rfl,hb⟩)
   have hB1:=hB.trans (hb.mono hB.size);have HT1:=qI (HTr.out.below hb);clear HTr hb hB HS
   by_cases h1:s &&& F=s
   ·have e1:decide (s &&& F=s)=true:=Qc h1
    by_cases h2:(cnt s:Int)<=L - cnt (aL (aX l) F L k)
    ·have HE:Hid (aL (aX l) F L (k+1)=aL (aX l) F L k ||| s):=HY.out h1 h2;rw [e1] at HI;clear h1 e1;refine (HI.out w1).mono ?_;rintro e w2 ⟨rfl,rfl⟩
     go_wp2_with fail
     refine (HC1.out _).mono ?_;rintro e w2 ⟨rfl,rfl⟩
     go_wp2_with fail
     refine (HC2.out _).mono ?_;rintro e w2 ⟨rfl,rfl⟩
     go_wp2
     go_roundw
     case rel=>exact ⟨k+1,by omega,by go_num,by rw [HE.out,<- HO.out],HT1,hB1⟩
     case measure=>simp [intOf];omega
    ·have HE:Hid (aL (aX l) F L (k+1)=aL (aX l) F L k):=HN2.out (by omega);have h3:L - cnt (aL (aX l) F L k)<(cnt s:Int):=by omega
     rw [e1] at HI;clear h1 e1 h2;refine (HI.out w1).mono ?_;rintro e w2 ⟨rfl,rfl⟩
     go_wp2_with fail
     refine (HC1.out _).mono ?_;rintro e w2 ⟨rfl,rfl⟩
     go_wp2_with fail
     refine (HC2.out _).mono ?_;rintro e w2 ⟨rfl,rfl⟩
     go_wp2
     go_roundw
     case rel=>exact ⟨k+1,by omega,by go_num,by rw [HE.out],HT1,hB1⟩
     case measure=>simp [intOf];omega
   ·have e1:decide (s &&& F=s)=false:=Q7 h1;have HE:Hid (aL (aX l) F L (k+1)=aL (aX l) F L k):=HN1.out h1;rw [e1] at HI;clear h1 e1;refine (HI.out w1).mono ?_;rintro e w2 ⟨rfl,rfl⟩
    go_wp2
    go_roundw
    case rel=>exact ⟨k+1,by omega,by go_num,by rw [HE.out],HT1,hB1⟩
    case measure=>simp [intOf];omega
  ·have hk64:k=64:=by omega
   subst hk64;clear hk hlt
   go_wp2
   go_ret;exact ⟨rfl,hB⟩
end
end Go.Proofs.YtbmmnflgnmjboaaGreatDoor
namespace Go.Proofs
open Go.Shelf
shelf_lay_g SlLaysF.n6 Slsf 6 at Tryz 252 as Tryz.sortL
shelf_lay_g SlLaysC2.n5 Slgc 5 at Tryz 148 as Tryz.cmpL
end Go.Proofs
namespace Go.Proofs.YtbmmnflgnmjboaaGreatDoor
section
open RowKit
open Ost (Cpu ae af cnt dif less order)
open Go.Sort
def cK (w w':World):Prop:=∃ q os,w'=grow (w.drewN q) os
theorem cK.refl (w:World):cK w w:=⟨0,#[],by rw [grow_empty];rfl⟩
theorem cK.alloc {w w':World} (h:cK w w') (o:Obj):cK w (w'.alloc o):=by
 obtain ⟨q,os,rfl⟩:=h;exact ⟨q,os++#[o],by rw [alloc_eq_grow,grow_grow]⟩
theorem cK.drewN {w w':World} (h:cK w w') (n:Nat):cK w (w'.drewN n):=by
 obtain ⟨q,os,rfl⟩:=h;exact ⟨q+n,os,by simp only [World.drewN,grow,Nat.add_assoc]⟩
theorem cK.trans {a b c:World} (h:cK a b) (k:cK b c):cK a c:=by
 obtain ⟨q,os,rfl⟩:=h;obtain ⟨q',os',rfl⟩:=k;exact ⟨q+q',os++os',by simp only [World.drewN,grow,Nat.add_assoc,Array.append_assoc]⟩
theorem cK.below {w w':World} (h:cK w w'):Below w.heap.size w w':=by
 obtain ⟨q,os,rfl⟩:=h;exact ⟨rfl,rfl,rfl,by simp [World.drewN],λk hk=>by simp [grow,World.drewN,Array.getElem?_append,hk]⟩
theorem BM (w:World) (K blk off m:Nat) (dk:Array Nat) (os:Array Obj) (hK:K<=blk) (hw:K<=w.heap.size):Below K w (sortWorld (λn:Nat=>Value.int .i64 (n:Int)) w blk off m dk os):=by
 refine ⟨rfl,rfl,rfl,?_,λk hk=>?_⟩
 ·simp [sortWorld,grow,Sort.putRow,Sort.mapBlock,Sort.ahead]
 ·have h1:k<w.heap.size:=by omega
  have h2:blk≠k:=by omega
  simp [sortWorld,grow,Sort.putRow,Sort.mapBlock,Sort.ahead,Array.getElem?_append,Array.getElem_modify,h1,h2]
theorem BN (n:Nat) (tb b o c:Nat) (l:List Cpu) (w:World) (ht:aZ w tb b o c l) :
  Calls Tryz.prog 250 #[.pointer (some ⟨tb,0,none⟩),.int .i64 n] w λe w'=>(∃ err,e=.returned (.tuple #[.agg #[.int .i64 (l.getD n ae).core,.int .i64 (l.getD n ae).sock,.int .i64 (l.getD n ae).node],err]))/\cK w w':=by
 have hB0:=((Q0 w.heap.size w).alloc (lR) (.cells #[.int .i64 0,.int .i64 0,.int .i64 0] 84));have hT:=(ht.below hB0).cell;have hl:=ht.len
 by_cases hn:n<l.length
 ·obtain ⟨hcell0,hcell1,hcell2⟩:=(ht.below hB0).cells n hn;clear ht hB0;generalize l.getD n ae=x at *
  go_enter Tryz.func250,Tryz.ntmps250
  go_wp2_with fail
  (try simp only [Exit.inBlock,Exit.then]);refine bodyPost_ret (v:=.tuple #[.agg #[.int .i64 x.core,.int .i64 x.sock,.int .i64 x.node],.nilIface]) ?_ rfl ⟨⟨_,rfl⟩,?_⟩
  ·rw [results_cell_tmp rfl];go_simp
  ·exact (cK.refl w).alloc _
 ·have hx:l.getD n ae=ae:=by simp [show l.length<=n by omega]
  rw [hx];clear ht hB0 hx;have h2:(l.length:Int)<=n:=by omega
  clear hn
  go_enter Tryz.func250,Tryz.ntmps250
  go_wp2_with fail
  (try simp only [Exit.inBlock,Exit.then]);refine bodyPost_ret (v:=.tuple #[.agg #[.int .i64 0,.int .i64 0,.int .i64 0],.iface 121 (.int .i64 1)]) ?_ rfl ⟨⟨_,rfl⟩,?_⟩
  ·rw [results_cell_tmp rfl];go_simp
  ·exact (cK.refl w).alloc _
structure fF (w:World) (tc lc fc tb b o c mb n:Nat) (l:List Cpu) (f:Int->Int):Prop where
 t:w.cell? ⟨tc,0,none⟩=some (.pointer (some ⟨tb,0,none⟩))
 m:w.cell? ⟨lc,0,none⟩=some (.map (some mb))
 fn:w.cell? ⟨fc,0,none⟩=some (.func (.func 249) #[] #[.pointer (some ⟨tc,0,none⟩),.pointer (some ⟨lc,0,none⟩)])
 topo:aZ w tb b o c l
 left:dR w mb n f
theorem fF.below {w w':World} {tc lc fc tb b o c mb n K:Nat} {l:List Cpu} {f:Int->Int} (h:fF w tc lc fc tb b o c mb n l f) (hb:Below K w w') (hK:tc<K/\lc<K/\fc<K/\tb<K/\b<K/\mb<K):fF w' tc lc fc tb b o c mb n l f:=by
 obtain ⟨h1,h2,h3,h4,h5,h6⟩:=hK;exact ⟨(hb.cell (p:=⟨tc,0,none⟩) h1).trans h.t,(hb.cell (p:=⟨lc,0,none⟩) h2).trans h.m,(hb.cell (p:=⟨fc,0,none⟩) h3).trans h.fn,
  ⟨(hb.cell (p:=⟨tb,0,none⟩) h4).trans h.topo.cell,λk hk=>by
   obtain ⟨a1,a2,a3⟩:=h.topo.cells k hk;exact ⟨(hb.cell (p:=⟨b,o+k*3,none⟩) h5).trans a1,(hb.cell (p:=⟨b,o+k*3+1,none⟩) h5).trans a2,(hb.cell (p:=⟨b,o+k*3+2,none⟩) h5).trans a3⟩,Q1 h.topo.lt hb.size,h.topo.len⟩,
  h.left.below hb h6⟩
theorem fF.lts {w:World} {tc lc fc tb b o c mb n:Nat} {l:List Cpu} {f:Int->Int} (h:fF w tc lc fc tb b o c mb n l f):tc<w.heap.size/\lc<w.heap.size/\fc<w.heap.size/\tb<w.heap.size/\b<w.heap.size/\mb<w.heap.size:=
 ⟨Q3 w _ h.t,Q3 w _ h.m,Q3 w _ h.fn,h.topo.tlt,h.topo.lt,h.left.lt⟩
theorem sB {l:List Cpu} (hg:Good l) (n:Nat):0<=(l.getD n ae).core/\(l.getD n ae).core<64:=by
 by_cases hn:n<l.length
 ·have:=hg (l.getD n ae) (by simp [hn])
  omega
 ·have hx:l.getD n ae=ae:=by simp [show l.length<=n by omega]
  rw [hx];decide
theorem sC (k:Nat) (tc lc fc tb b o c mb n:Nat) (l:List Cpu) (f:Int->Int) (w:World) (h:fF w tc lc fc tb b o c mb n l f) (hg:Good l) :
  Calls Tryz.prog 249 #[.int .i64 k,.pointer (some ⟨tc,0,none⟩),.pointer (some ⟨lc,0,none⟩)] w λe w'=>e=.returned (.int .i64 (f (l.getD k ae).core))/\cK w w':=by
 have HO:=qI (BN k tb b o c l w h.topo);have HS:=qI h;have HL:=qI h.lts;have ht:=h.t;obtain ⟨h0,h64⟩:=sB hg k;clear h hg;generalize l.getD k ae=x at *
 go_enter Tryz.func249,Tryz.ntmps249
 go_wp2_with fail
 refine HO.out.mono ?_;rintro e w1 ⟨⟨err,rfl⟩,hgr⟩;have HS1:=qI (HS.out.below hgr.below HL.out);have hm:=eE HS1.out.m (.cells #[.int .i64 x.core,.int .i64 x.sock,.int .i64 x.node] 84);have hM:=HS1.out.left.alloc (.cells #[.int .i64 x.core,.int .i64 x.sock,.int .i64 x.node] 84);clear HO ht
 go_wp2_with (at_lookup;refine BJ _ rfl _ _ rfl mb n f x.core h0 h64 rfl rfl hM ?_)
 go_ret;exact ⟨rfl,hgr.alloc _⟩
end
section
open RowKit
open Ost (Cpu ae less)
theorem BO (g c:Nat) (x y:Int) (w:World) (h0:w.cell? ⟨g,0,none⟩=some (.int .i64 x)) (h1:w.cell? ⟨g,1,none⟩=some (.int .i64 y)) :
  Calls Tryz.prog 76 #[.slice (some ⟨g,0,none⟩) 2 c] w λe w'=>e=.returned (.int .i64 (if x=0 then y else x))/\w'=w:=by
 by_cases hx:x=0
 ·rw [if_pos hx];subst hx
  by_cases hy:y=0
  ·subst hy
   go_enter Tryz.func76,Tryz.ntmps76
   go_wp2_with fail
   refine wp_loop_rounds 3 ?_;rw [rounds_succ]
   go_wp2_with fail
   rw [rounds_succ]
   go_wp2_with fail
   rw [rounds_succ]
   go_wp2
   go_ret;exact ⟨rfl,rfl⟩
  ·have q:(y != 0)=true:=by rw [bne_iff_ne];exact hy
   clear hy
   go_enter Tryz.func76,Tryz.ntmps76
   go_wp2_with fail
   refine wp_loop_rounds 2 ?_;rw [rounds_succ]
   go_wp2_with fail
   rw [rounds_succ]
   go_wp2
   go_ret;exact ⟨rfl,rfl⟩
 ·rw [if_neg hx];have q:(x != 0)=true:=by rw [bne_iff_ne];exact hx
  clear hx
  go_enter Tryz.func76,Tryz.ntmps76
  go_wp2_with fail
  refine wp_loop_rounds 1 ?_;rw [rounds_succ]
  go_wp2
  go_ret;exact ⟨rfl,rfl⟩
def fZ (cl:Nat->Nat) (x y:Nat):Int:=if Lib.compareInt (cl x) (cl y)=0 then Lib.compareInt x y else Lib.compareInt (cl x) (cl y)
theorem sD (x y:Int) (w:World):Calls Tryz.prog 148 #[.int .i64 x,.int .i64 y] w λe w'=>e=.returned (.int .i64 (Lib.compareInt x y))/\w'=w:=AnyG.cmp_Compare_int Tryz.cmpL x y w
theorem BP (x y:Nat) (tc lc fc tb b o c mb n:Nat) (l:List Cpu) (f:Int->Int) (cl:Nat->Nat) (w:World) (h:fF w tc lc fc tb b o c mb n l f) (hg:Good l) (hf:∀ k,f (l.getD k ae).core=(cl k:Nat)) :
  Calls Tryz.prog 253 #[.int .i64 x,.int .i64 y,.pointer (some ⟨fc,0,none⟩)] w λe w'=>e=.returned (.int .i64 (fZ cl x y))/\cK w w':=by
 have HS:=qI h;have HL:=qI h.lts;have hg0:cK w w.drew:=(cK.refl w).drewN 1;have HB1:Hid (∀ W,fF W tc lc fc tb b o c mb n l f->Calls Tryz.prog 249 #[.int .i64 x,.pointer (some ⟨tc,0,none⟩),.pointer (some ⟨lc,0,none⟩)] W λe w'=>e=.returned (.int .i64 (cl x:Nat))/\cK W w'):=λW hW=>by
  rw [<- hf x];exact sC x tc lc fc tb b o c mb n l f W hW hg
 have HB2:Hid (∀ W,fF W tc lc fc tb b o c mb n l f->Calls Tryz.prog 249 #[.int .i64 y,.pointer (some ⟨tc,0,none⟩),.pointer (some ⟨lc,0,none⟩)] W λe w'=>e=.returned (.int .i64 (cl y:Nat))/\cK W w'):=λW hW=>by
  rw [<- hf y];exact sC y tc lc fc tb b o c mb n l f W hW hg
 have HE:Hid (fZ cl x y=if Lib.compareInt (cl x) (cl y)=0 then Lib.compareInt x y else Lib.compareInt (cl x) (cl y)):=rfl;have HC1:=qI (λW=>sD (cl x) (cl y) W);have HC2:=qI (λW=>sD x y W);have HOr:=qI (λg c W h0 h1=>BO g c (Lib.compareInt (cl x) (cl y)) (Lib.compareInt x y) W h0 h1);rw [<- HE.out] at HOr;generalize fZ cl x y=r at *;generalize cl x=cx at *;generalize cl y=cy at *;generalize Lib.compareInt (cx:Int) (cy:Int)=d1 at *;generalize Lib.compareInt (x:Int) (y:Int)=d2 at *;clear HE h hf
 go_enter Tryz.func253,Tryz.ntmps253
 go_wp2_with fail
 refine wp_region_held_drew (S:=(λw'=>w'.cell? ⟨fc,0,none⟩=some (.func (.func 249) #[] #[.pointer (some ⟨tc,0,none⟩),.pointer (some ⟨lc,0,none⟩)])/\Hid (fF w' tc lc fc tb b o c mb n l f))) (by kernel_rfl) ⟨(HS.out.below hg0.below HL.out).fn,HS.out.below hg0.below HL.out⟩ (λhHeld=>?_);refine tk 0 ?_;refine tk 1 ?_;refine tk 3 ?_;refine tk 4 ?_;refine tk 7 ?_;refine tk 8 ?_;refine rd 2 (λK hK=>?_);go_simp
 go_wp2_with fail
 refine (HB1.out _ hHeld.2.out).mono ?_;rintro e w1 ⟨rfl,hg⟩;have hg1:=hg0.trans hg;clear hg
 go_wp2
 refine hK.out _ _ ⟨(HS.out.below hg1.below HL.out).fn,HS.out.below hg1.below HL.out⟩ (λhHeld=>?_);clear hK K;refine rd 5 (λK hK=>?_);go_simp
 go_wp2_with fail
 refine (HB2.out _ hHeld.2.out).mono ?_;rintro e w2 ⟨rfl,hg⟩;have hg2:=hg1.trans hg;clear hg
 go_wp2
 refine hK.out _ _ ⟨(HS.out.below hg2.below HL.out).fn,HS.out.below hg2.below HL.out⟩ (λhHeld=>?_);clear hK K;refine rd 6 (λK hK=>?_);go_simp
 go_wp2_with fail
 refine (HC1.out _).mono ?_;rintro e w3 ⟨rfl,rfl⟩
 go_wp2
 refine hK.out _ _ hHeld (λhHeld=>?_);clear hK K;refine rd 9 (λK hK=>?_);go_simp
 go_wp2_with fail
 refine (HC2.out _).mono ?_;rintro e w4 ⟨rfl,rfl⟩
 go_wp2
 refine hK.out _ _ hHeld (λhHeld=>?_);clear hK K;refine rd 10 (λK hK=>?_);go_simp;have hg4:=hg2.alloc (.cells #[.int .i64 d1,.int .i64 d2] 3);have c0:(w4.alloc (.cells #[.int .i64 d1,.int .i64 d2] 3)).cell? ⟨w4.heap.size,0,none⟩=some (.int .i64 d1):=by simp
 have c1:(w4.alloc (.cells #[.int .i64 d1,.int .i64 d2] 3)).cell? ⟨w4.heap.size,1,none⟩=some (.int .i64 d2):=by simp
 refine hK.out _ _ ⟨(HS.out.below hg4.below HL.out).fn,HS.out.below hg4.below HL.out⟩ (λhHeld=>?_);clear hK K;refine rd 11 (λK hK=>?_);go_simp
 go_wp2_with fail
 refine (HOr.out _ _ _ c0 c1).mono ?_;rintro e w5 ⟨rfl,rfl⟩
 go_wp2
 refine hK.out _ _ hHeld (λhHeld=>?_);clear hK K;refine tk 12 ?_;refine Qn (by kernel_rfl) ?_ _
 go_wp2
 go_ret;exact ⟨rfl,hg4⟩
end
section
open RowKit
open Go.Sort
open Ost (Cpu ae less order)
theorem kJ (cl:Nat->Nat) (x y:Nat):ltOf (fZ cl) x y=less cl x y:=by
 unfold ltOf fZ Lib.compareInt less;rw [Bool.eq_iff_iff]
 by_cases h1:(cl x:Int)<cl y
 ·have h3:cl x<cl y:=by omega
  simp [h3]
 ·by_cases h2:(cl y:Int)<cl x
  ·have h3:¬ cl x<cl y:=by omega
   have h4:¬ cl x=cl y:=by omega
   have h5:cl y<cl x:=by omega
   simp [h3,h4,h5]
  ·have h3:cl x=cl y:=by omega
   by_cases h4:x<y
   ·simp [h3,h4]
   ·by_cases h5:y<x
    ·simp [h3,h4,h5]
    ·simp [h3,h4,h5]
theorem BQ (cl:Nat->Nat):SWO (ltOf (fZ cl)) where
 irrefl x:=by rw [kJ];simp [less]
 trans x y z h1 h2:=by rw [kJ] at *;simp [less] at *;omega
 ntrans x y z h1 h2:=by rw [kJ] at *;simp [less] at *;omega
theorem BR (cl:Nat->Nat) (x y:Nat) (h1:ltOf (fZ cl) x y=false) (h2:ltOf (fZ cl) y x=false):x=y:=by
 rw [kJ] at h1 h2;exact Ost.Bv h1 h2
def BS (w:World) (v:Value) (L:List Nat):Prop:=
 (L=[]/\v=.slice none 0 0)\/∃ g c,v=.slice (some ⟨g,0,none⟩) L.length c/\L.length<=c/\∀ k,k<L.length->w.cell? ⟨g,k,none⟩=some (.int .i64 ((L.getD k 0:Nat):Int))
def iQ (n:Nat):Value:=Value.int .i64 (n:Int)
theorem sE (w:World) (K blk off m:Nat) (dk:Array Nat) (os:Array Obj) (hK:K<=blk) (hw:K<=w.heap.size):Below K w (sortWorld iQ w blk off m dk os):=BM w K blk off m dk os hK hw
theorem BU {w:World} {g:Nat} {cur:Array Value} {e:TypeId} {L:List Nat} (hg:w.heap[g]?=some (.cells cur e (0,0))) (ht:cur.toList.take (L.length*1)=nums L):Holds iQ w g 0 L.toArray:=by
 intro j hj;have hj2:j<L.length:=by simpa using hj
 have hc:cur[j]?=some (.int .i64 ((L.getD j 0:Nat):Int)):=by
  have h1:(cur.toList.take (L.length*1))[j]?=some (.int .i64 ((L.getD j 0:Nat):Int)):=by
   rw [ht];simp [nums,hj2]
  rw [List.getElem?_take] at h1;rw [if_pos (by omega)] at h1
  simpa using h1
 have hd:L.toArray[j]! = L.getD j 0:=by simp [hj2]
 refine ⟨?_,?_⟩
 ·rw [hd];unfold World.cell?;rw [hg];simp [hc,iQ]
 ·unfold World.frozen?;rw [hg];simp
theorem BV (v:Value) (A K:Nat) (tc lc fc tb b o c mb n:Nat) (l:List Cpu) (f:Int->Int) (cl:Nat->Nat) (w:World) (hrow:w.ownsRow K 3 1 v (Ost.aI A 64).length (nums (Ost.aI A 64))) (hw:K<=w.heap.size)
  (h:fF w tc lc fc tb b o c mb n l f) (hK:tc<K/\lc<K/\fc<K/\tb<K/\b<K/\mb<K) (hg:Good l) (hf:∀ k,f (l.getD k ae).core=(cl k:Nat)) :
  Calls Tryz.prog 252 #[v,.func (.func 253) #[] #[.pointer (some ⟨fc,0,none⟩)]] w λe w'=>e=.returned (.tuple #[])/\BS w' v (order cl A)/\Below K w w':=by
 rcases hrow.2 with ⟨rfl,hn0⟩|⟨g,cap,cur,rfl,hbg,hgg,hcap,_,_,htk⟩
 ·have hL:order cl A=[]:=by
   have:=Ost.mn cl A
   unfold Ost.cnt at this;exact List.length_eq_zero_iff.1 (by omega)
  have hS:=AnyF.slices_SortFunc_none (P:=Tryz.prog) (ρ:=Tryz.sortL_ren) { Tryz.sortL with } none 0 (.func (.func 253) #[] #[.pointer (some ⟨fc,0,none⟩)]) w
  change Calls Tryz.prog 252 _ _ _ at hS
  exact hS.mono λe w' ⟨he,hw'⟩=>⟨he,.inl ⟨hL,rfl⟩,by rw [hw'];exact Q0 _ _⟩
 ·have hH:Holds iQ w g 0 (Ost.aI A 64).toArray:=BU hgg htk;have hblk:g<w.heap.size:=by
   rcases Nat.lt_or_ge g w.heap.size with hlt|hge
   ·exact hlt
   ·rw [Array.getElem?_eq_none hge] at hgg;cases hgg
  have eg:∀ args w,(callFunc 253 args).run Tryz.prog w=.ok (.enter 253 args) w:=enters_of Tryz.func253 (by kernel_rfl) rfl;have hcmp:CmpLays1 Tryz.prog 253 #[.pointer (some ⟨fc,0,none⟩)] iQ (fZ cl) g 0 (Ost.aI A 64).toArray.size w:=λm os dk _ x y=>
   BP x y tc lc fc tb b o c mb n l f cl _ (h.below (sE w K g 0 m dk os hbg hw) hK) hg hf
  have h64:=jJ A 64;have hS:=Any.slices_SortFunc_total Tryz.sortL iQ (λ_=>rfl) (fZ cl) (BQ cl) 253 #[.pointer (some ⟨fc,0,none⟩)] g 0 cap (Ost.aI A 64).toArray w eg hcmp hH hblk (by simp;omega) (BR cl)
  change Calls Tryz.prog 252 _ _ _ at hS
  have hord:(λx y:Nat=>!ltOf (fZ cl) y x)=λx y=>!less cl y x:=by funext x y;rw [kJ]
  rw [hord] at hS;have hz:(Ost.aI A 64).toArray.size=(Ost.aI A 64).length:=by simp
  rw [hz] at hS;refine hS.mono λe w' ⟨he,q,os,hw'⟩=>⟨he,?_,?_⟩
  ·have hlen:(order cl A).length=(Ost.aI A 64).length:=Ost.mn cl A;have hh:=holds_sortWorld iQ w g 0 q (Ost.aI A 64).toArray (order cl A).toArray os hblk hH (by simp [hlen]);have e2:((Ost.aI A 64).toArray.toList.mergeSort λx y=>!less cl y x).toArray=(order cl A).toArray:=rfl;rw [e2] at hw';refine .inr ⟨g,cap,by rw [hlen],by omega,λk hk=>?_⟩
   have:=(hh k (by simpa using hk)).1
   rw [hw',<- Qd k,this]
   simp [iQ,hk]
  ·rw [hw'];exact sE w K g 0 q _ os hbg hw
end
section
open RowKit Go.ChangeMaps
open Go.Maps (Keyed int_keyed keyOf_int_mk)
open Ost (Cpu ae af cnt dif dG aX order)
def cE (l:List Cpu) (F k:Nat) (j:Int):Int:=if 0<=j/\j<k then (cnt (aX l j.toNat &&& F):Nat) else 0
theorem BW (l:List Cpu) (F:Nat):cE l F 0=λ_=>0:=by
 funext j;unfold cE;rw [if_neg (by omega)]
theorem BX (l:List Cpu) (F k:Nat):(λj=>if (k:Int)=j then ((cnt (aX l k &&& F):Nat):Int) else cE l F k j)=cE l F (k+1):=by
 funext j
 unfold cE
 by_cases h:(k:Int)=j
 ·rw [if_pos h,if_pos (by omega),<- h];simp
 ·rw [if_neg h]
  by_cases h2:0<=j/\j<k
  ·rw [if_pos h2,if_pos (by omega)]
  ·rw [if_neg h2,if_neg (by omega)]
theorem BY {l:List Cpu} (hg:Good l) (F n:Nat):cE l F 64 (l.getD n ae).core=(Ost.leftOf l F n:Nat):=by
 obtain ⟨h0,h64⟩:=sB hg n;unfold cE;rw [if_pos ⟨h0,by omega⟩]
 have:aX l (l.getD n ae).core.toNat=af (λx=>x.core == (l.getD n ae).core) l:=by
  unfold aX Ost.at';rw [Int.toNat_of_nonneg h0]
 rw [this];rfl
theorem BZ {o:Oper} {a:Act} {N:Act->World->Prop} {Q:Exit->Act->World->Prop} (w:World) (m x v:Operand) (hop:o.op=Op.mapUpdate 349 m x v)
  (B n:Nat) (f:Int->Int) (k:Int) (h0:0<=k) (h64:k<64) (y:Nat) (hy:y<=64) (hm:a.eval m=.map (some B)) (hx:a.eval x=.int .i64 k) (hv:a.eval v=.int .i64 y) (hM:dR w B n f) (hn:n<maxLen)
  (hK:∀ w',dR w' B (n+1) (λj=>if k=j then y else f j)->w.grownBy w' (some B)->N (a.put o.dst undef) w') :
  o.wp Tryz.prog a w N Q:=by
 obtain ⟨D,ho,hk⟩:=hM;obtain ⟨w',hrun,r1,r2⟩:=ho.update (e:=3) lV Tryz.underlying349 hn (keyOf_int_mk Tryz.underlying3 (lW h0 h64)) (plainElem_int Tryz.underlying3 (WalkArith.wf_i64 (n:=(y:Int)) (by omega)));unfold Oper.wp
 simp [execOp,hop,hm,hx,hv,hrun,Result.andThen]
 refine hK w' ⟨_,r1,λj j0 j64=>?_⟩ r2
 by_cases e:k=j
 ·subst e;have hkl:WideAt.IsKeyLit (Lit.int .i64 k):=trivial;rw [Maps.atKey_put_same ho.isMap hkl]
  simp
 ·have hne:(Lit.int .i64 j)≠(Lit.int .i64 k):=by simp;omega
  rw [Maps.atKey_put_other hne];simp only [if_neg e];exact hk j j0 j64
structure eI (wr w:World) (tb b o c:Nat) (l:List Cpu) (F k:Nat):Prop where
 t:wr.cell? ⟨w.heap.size,0,none⟩=some (.pointer (some ⟨tb,0,none⟩))
 m:wr.cell? ⟨w.heap.size+1+1,0,none⟩=some (.map (some (w.heap.size+1)))
 topo0:aZ w tb b o c l
 left:dR wr (w.heap.size+1) k (cE l F k)
 bel:Below w.heap.size w wr
theorem eI.below {wr wr' w:World} {tb b o c:Nat} {l:List Cpu} {F k:Nat} (h:eI wr w tb b o c l F k) (hb:Below wr.heap.size wr wr'):eI wr' w tb b o c l F k:=
 ⟨(hb.cell (p:=⟨w.heap.size,0,none⟩) (Q3 wr _ h.t)).trans h.t,(hb.cell (p:=⟨w.heap.size+1+1,0,none⟩) (Q3 wr _ h.m)).trans h.m,h.topo0,h.left.below hb h.left.lt,h.bel.trans (hb.mono h.bel.size)⟩
theorem eI.topo {wr w:World} {tb b o c:Nat} {l:List Cpu} {F k:Nat} (h:eI wr w tb b o c l F k):aZ wr tb b o c l:=h.topo0.below h.bel
theorem eI.put {wr wr' w:World} {tb b o c:Nat} {l:List Cpu} {F k:Nat} (h:eI wr w tb b o c l F k) (hm:dR wr' (w.heap.size+1) (k+1) (cE l F (k+1))) (hgr:wr.grownBy wr' (some (w.heap.size+1))):eI wr' w tb b o c l F (k+1):=
 ⟨hgr.cell h.t (by simp),hgr.cell h.m (by simp),h.topo0,hm,h.bel.grown hgr h.bel.size (λj hj=>by cases hj;omega)⟩
theorem eI.drew {wr w:World} {tb b o c:Nat} {l:List Cpu} {F k:Nat} (h:eI wr w tb b o c l F k):eI wr.drew w tb b o c l F k:=h.below (below_drewN (Q0 _ _) 1)
theorem eI.stand {wr w:World} {tb b o c:Nat} {l:List Cpu} {F:Nat} (h:eI wr w tb b o c l F 64):fF (wr.alloc (.cells #[.func (.func 249) #[] #[.pointer (some ⟨w.heap.size,0,none⟩),.pointer (some ⟨w.heap.size+1+1,0,none⟩)]] 253)) w.heap.size (w.heap.size+1+1) wr.heap.size tb b o c (w.heap.size+1) 64 l (cE l F 64):=
 ⟨eE h.t _,eE h.m _,by simp,h.topo.below ((Q0 _ _).alloc (lR) _),h.left.alloc _⟩
theorem B0 {w:World} {tb b o c:Nat} {l:List Cpu} (ht:aZ w tb b o c l) (F:Nat):eI (((w.alloc (.cells #[.pointer (some ⟨tb,0,none⟩)] 93)).alloc (.map #[] 0)).alloc (.cells #[.map (some (w.heap.size+1))] 349)) w tb b o c l F 0:=by
 have hB:=(((Q0 w.heap.size w).alloc (lR) (.cells #[.pointer (some ⟨tb,0,none⟩)] 93)).alloc (by simp) (.map #[] 0)).alloc (by simp;omega) (.cells #[.map (some (w.heap.size+1))] 349);have hM:=(dR.made (w.alloc (.cells #[.pointer (some ⟨tb,0,none⟩)] 93))).alloc (.cells #[.map (some (w.heap.size+1))] 349);have e:(w.alloc (.cells #[.pointer (some ⟨tb,0,none⟩)] 93)).heap.size=w.heap.size+1:=by simp
 rw [e,<- BW l F] at hM;exact ⟨by go_simp,by go_simp,ht,hM,hB⟩
theorem B4 (tb b o c F:Nat) (L:Int) (l:List Cpu) (w:World) (ht:aZ w tb b o c l) (hg:Good l) (hF:F<18446744073709551616) (h0:0<=L) (hL:L<=64) :
  Calls Tryz.prog 207 #[.pointer (some ⟨tb,0,none⟩),.int .u64 F,.int .i64 L] w λe w'=>e=.returned (.int .u64 (dG (Ost.leftOf l F) F L.toNat:Nat))/\Below w.heap.size w w':=by
 have hmm:=@run_makeMap Tryz.prog;have h64:=ht.len;have HG:=qI hg;have HF0:=qI (B0 ht F);clear ht hg
 go_enter Tryz.func207,Tryz.ntmps207
 go_wp2
 go_loopw [15] (λi wr=>∃ k:Nat,k<=64/\i=.int .i64 k/\Hid (eI wr w tb b o c l F k)) (λi _=>64 - (intOf i).toNat)
 case atStart=>exact ⟨0,by omega,rfl,HF0.out⟩
 case round=>
  clear HF0;obtain ⟨k,hk,hi,HFl⟩:=hrel
  by_cases hlt:k<64
  ·subst hi;have HCo:Hid (∀ W,aZ W tb b o c l->Calls Tryz.prog 206 #[.pointer (some ⟨tb,0,none⟩),.int .i64 k] W λe w'=>e=.returned (.int .u64 (aX l k:Nat))/\Below W.heap.size W w'):=λW hW=>qY tb b o c l k W hW
   have hck:=Ost.oK (·.core) h64 k
   change aX l k<_ at hck
   have HCn:Hid (∀ W,Calls Tryz.prog 17 #[.int .u64 (bits BinOp.and IntKind.u64 (aX l k:Nat) (F:Nat))] W λe w'=>e=.returned (.int .i64 (cnt (aX l k &&& F):Nat))/\w'=W):=λW=>by
    rw [bits_and_u64_nat _ _ hck hF];exact gD _ W (Ost.sub_lt hck (Ost.mu _ F))
   have hcs:cnt (aX l k &&& F)<=64:=jJ _ 64;have HSt:=qI (BX l F k);generalize hcc:cnt (aX l k &&& F)=cc at *;clear hcc;generalize aX l k=ck at *;have hF0:=HFl.out.drew
   go_wp2_with fail
   refine wp_region_held_drew (S:=(λw'=>w'.cell? ⟨w.heap.size+1+1,0,none⟩=some (.map (some (w.heap.size+1)))/\w'.cell? ⟨w.heap.size,0,none⟩=some (.pointer (some ⟨tb,0,none⟩)))) (by kernel_rfl) ⟨hF0.m,hF0.t⟩ (λhHeld=>?_);refine tk 0 ?_;refine tk 1 ?_;refine tk 2 ?_;refine tk 3 ?_;refine tk 5 ?_;refine rd 4 (λK hK=>?_);go_simp
   go_wp2_with fail
   refine (HCo.out _ hF0.topo).mono ?_;rintro e w1 ⟨rfl,hb⟩;have hF1:=hF0.below hb;clear hb
   go_wp2
   refine hK.out _ _ ⟨hF1.m,hF1.t⟩ (λhHeld=>?_);clear hK K;refine tk 6 ?_;refine rd 7 (λK hK=>?_);go_simp
   go_wp2_with fail
   refine (HCn.out _).mono ?_;rintro e w2 ⟨rfl,rfl⟩
   go_wp2
   refine hK.out _ _ hHeld (λhHeld=>?_);clear hK K;refine rd 8 (λK hK=>?_);rw [if_pos (by rfl)];refine BZ _ _ _ _ rfl (w.heap.size+1) k (cE l F k) k (by omega) (by omega) cc hcs rfl rfl rfl hF1.left (by unfold maxLen;omega) ?_;intro w3 hM3 hgr3;rw [HSt.out] at hM3;have hF3:=qI (hF1.put hM3 hgr3);clear hM3 hgr3;refine hK.out _ _ ⟨hF3.out.m,hF3.out.t⟩ (λhHeld=>?_);clear hK K;refine Qn (by kernel_rfl) ?_ _
   go_wp2
   go_roundw
   case rel=>exact ⟨k+1,by omega,by go_num,hF3⟩
   case measure=>simp [intOf];omega
  ·have hk64:k=64:=by omega
   subst hk64;have hi2:_=Value.int .i64 64:=hi;clear hk hlt hi;subst hi2;have HS:=qI HFl.out.stand;have hBl:=HFl.out.bel.alloc HFl.out.bel.size (.cells #[.func (.func 249) #[] #[.pointer (some ⟨w.heap.size,0,none⟩),.pointer (some ⟨w.heap.size+1+1,0,none⟩)]] 253);have HB4:=qI hBl;clear hBl
   go_wp2_with fail
   generalize wr.alloc (.cells #[.func (.func 249) #[] #[.pointer (some ⟨w.heap.size,0,none⟩),.pointer (some ⟨w.heap.size+1+1,0,none⟩)]] 253)=W4 at *;refine (BH F W4 hF).mono ?_;rintro e w5 ⟨v,rfl,hrow,hb5⟩;have HSort:=qI (BV v F W4.heap.size w.heap.size (w.heap.size+1+1) wr.heap.size tb b o c (w.heap.size+1) 64 l (cE l F 64) (Ost.leftOf l F) w5 hrow hb5.size (HS.out.below hb5 HS.out.lts) HS.out.lts HG.out (BY HG.out F));have hB5:=qI (HB4.out.trans (hb5.mono HB4.out.size));clear hrow hb5 HS
   go_wp2_with fail
   refine HSort.out.mono ?_;rintro e w6 ⟨rfl,hrow6,hb6⟩;have hB6:=qI (hB5.out.trans (hb6.mono HB4.out.size));clear hb6 HSort hB5 HB4 HFl;have hlen:(order (Ost.leftOf l F) F).length<=64:=by rw [Ost.mn];exact jJ F 64
   have HSg:Hid (dG (Ost.leftOf l F) F L.toNat=Ost.orB ((order (Ost.leftOf l F) F).take L.toNat)):=rfl;have H64:Hid (∀ n∈order (Ost.leftOf l F) F,n<64):=λn hn=>(Ost.oI.1 hn).1
   generalize order (Ost.leftOf l F) F=R at *
   rcases hrow6 with ⟨rfl,rfl⟩|⟨g,cp,rfl,hcp,hcell⟩
   ·have hmin:min L 0=0:=by omega
    have HR:Hid (dG (Ost.leftOf l F) F L.toNat=0):=by unfold Hid;rw [HSg.out];simp [Ost.orB]
    go_wp2_with fail
    refine wp_loop_rounds 1 ?_;rw [rounds_succ]
    go_wp2
    go_ret;exact ⟨by rw [HR.out];rfl,hB6.out⟩
   ·have HCl:=qI hcell;clear hcell;obtain ⟨M,hM,hmin⟩:∃ M:Nat,M=min L.toNat R.length/\min L (R.length:Int)=(M:Int):=⟨min L.toNat R.length,rfl,by omega⟩;have HR:Hid (dG (Ost.leftOf l F) F L.toNat=Ost.orB (R.take M)):=by
     unfold Hid;rw [HSg.out]
     congr 1
     rw [List.take_eq_take_iff];omega
    have hMR:M<=R.length:=by omega
    clear hM HSg
    go_wp2_with fail
    go_loop [11,40] (λt i=>∃ k:Nat,k<=M/\i=.int .i64 k/\t=.int .u64 (Ost.orB (R.take k):Nat)) (λ_ i=>M - (intOf i).toNat)
    case atStart=>exact ⟨0,by omega,rfl,rfl⟩
    case round=>
     obtain ⟨k,hk,rfl,rfl⟩:=hrel
     by_cases hlt:k<M
     ·have hkR:k<R.length:=by omega
      have hcell:=HCl.out k hkR;have hz:=H64.out (R.getD k 0) (by simp [hkR]);have hts:R.take (k+1)=R.take k++[R.getD k 0]:=by
       rw [Qa hkR];simp [hkR]
      have hol:Ost.orB (R.take k)<18446744073709551616:=by
       apply Nat.lt_pow_two_of_testBit (n:=64);intro i hi;rw [Ost.oG];exact Q7 (λhm=>by have:=H64.out i (List.mem_of_mem_take hm);omega)
      have HO:=qI (ku (Ost.orB (R.take k)) (R.getD k 0) hol hz);have HT:Hid (Ost.orB (R.take k) ||| 2 ^ (R.getD k 0)=Ost.orB (R.take (k+1))):=by unfold Hid;rw [hts,Ost.oF]
      rw [HT.out] at HO;clear hts HT;generalize R.getD k 0=z at *
      go_wp2_with fail
      go_round
      case rel=>exact ⟨k+1,by omega,by go_num,by rw [<- HO.out]⟩
      case measure=>simp [intOf];omega
     ·have hkM:k=M:=by omega
      have HE:Hid (Ost.orB (R.take k)=dG (Ost.leftOf l F) F L.toNat):=by unfold Hid;rw [HR.out,hkM]
      rw [HE.out];clear hkM HE
      go_wp2
      go_ret;exact ⟨rfl,hB6.out⟩
end
section
open RowKit
open Ost (Cpu ae af cnt dif aL fE sockAt aX et eH bO dG aN)
theorem oN (a b:Nat) (ha:a<18446744073709551616) (hb:b<18446744073709551616):bits BinOp.or IntKind.u64 (a:Int) (b:Int)=((a ||| b:Nat):Int):=bits_or_u64_nat a b ha hb
theorem sF (tb b o c F:Nat) (L:Int) (l:List Cpu) (w:World) (ht:aZ w tb b o c l) (hg:Good l) (hF:F<18446744073709551616) (h0:0<=L) (hL:L<=64) :
  Calls Tryz.prog 165 #[.pointer (some ⟨tb,0,none⟩),.int .u64 F,.int .i64 L] w λe w'=>e=.returned (.int .u64 (bO l F L:Nat))/\Below w.heap.size w w':=by
 have HT:=qI ht;have h64:=ht.len;have HG:=qI hg;clear ht hg;have hmf:∀ (fn:Fn) (first cap:Array Value) (w:World),(Instr.makeFunc fn first cap).run Tryz.prog w=.ok (.func fn first cap) w:=λ_ _ _ _=>rfl
 have k1:=Ost.sw l F L h0;have s1:=Ost.sub_lt hF (Ost.su l F L);have HW1:Hid (Calls Tryz.prog 204 #[.func (.func 205) #[.pointer (some ⟨tb,0,none⟩)] #[],.int .u64 F,.int .i64 L] w λe w'=>e=.returned (.int .u64 (et l F L:Nat))/\Below w.heap.size w w'):=BK tb b o c F L l w HT.out hF h0 hL;have HE1:Hid (eH l F L=et l F L ||| fE (aX l) (dif F (et l F L)) (L - cnt (et l F L))):=rfl;have HE2:Hid (bO l F L=eH l F L ||| dG (Ost.leftOf l (dif F (eH l F L))) (dif F (eH l F L)) (L - cnt (eH l F L)).toNat):=rfl;have k2:=Ost.sy l F L h0;have s2:=Ost.sub_lt hF (Ost.oL l F L);generalize bO l F L=s3 at *;generalize eH l F L=sb at *;generalize et l F L=sa at *;have HN1:=qI (jp F sa hF s1);have d1:=Ost.iP (A:=F) sa hF;have HC1:Hid (∀ W,Calls Tryz.prog 17 #[.int .u64 sa] W λe w'=>e=.returned (.int .i64 (cnt sa:Nat))/\w'=W):=λW=>gD sa W s1
 have HN2:=qI (jp F sb hF s2);have d2:=Ost.iP (A:=F) sb hF;have HC2:Hid (∀ W,Calls Tryz.prog 17 #[.int .u64 sb] W λe w'=>e=.returned (.int .i64 (cnt sb:Nat))/\w'=W):=λW=>gD sb W s2
 have hw2:fE (aX l) (dif F sa) (L - cnt sa)<18446744073709551616:=Ost.oE _ _ _ _ d1;have HO1:=qI (oN sa (fE (aX l) (dif F sa) (L - cnt sa)) s1 hw2);have hw3:dG (Ost.leftOf l (dif F sb)) (dif F sb) (L - cnt sb).toNat<18446744073709551616:=Ost.sub_lt d2 (Ost.oJ _ _ _);have HO2:=qI (oN sb (dG (Ost.leftOf l (dif F sb)) (dif F sb) (L - cnt sb).toNat) s2 hw3);rw [<- HE1.out] at HO1;rw [<- HE2.out] at HO2;clear HE1 HE2;generalize cnt sa=ca at *;generalize cnt sb=cb at *;have HK1:Hid (∀ W,aZ W tb b o c l->Calls Tryz.prog 204 #[.func (.func 206) #[.pointer (some ⟨tb,0,none⟩)] #[],.int .u64 (dif F sa:Nat),.int .i64 (L - ca)] W λe w'=>e=.returned (.int .u64 (fE (aX l) (dif F sa) (L - ca):Nat))/\Below W.heap.size W w'):=λW hW=>BL tb b o c (dif F sa) (L - ca) l W hW d1 (by omega) (by omega)
 have HK2:Hid (∀ W,aZ W tb b o c l->Calls Tryz.prog 207 #[.pointer (some ⟨tb,0,none⟩),.int .u64 (dif F sb:Nat),.int .i64 (L - cb)] W λe w'=>e=.returned (.int .u64 (dG (Ost.leftOf l (dif F sb)) (dif F sb) (L - cb).toNat:Nat))/\Below W.heap.size W w'):=λW hW=>B4 tb b o c (dif F sb) (L - cb) l W hW HG.out d2 (by omega) (by omega)
 generalize fE (aX l) (dif F sa) (L - ca)=ws at *;generalize dG (Ost.leftOf l (dif F sb)) (dif F sb) (L - cb).toNat=ss at *
 go_enter Tryz.func165,Tryz.ntmps165
 go_wp2_with fail
 refine HW1.out.mono ?_;rintro e w1 ⟨rfl,hb⟩;have HT1:=qI (HT.out.below hb);have hB1:=qI hb;clear HT hb HW1;have n1:=HN1.out
 go_wp2_with fail
 refine (HC1.out _).mono ?_;rintro e w2 ⟨rfl,rfl⟩
 go_wp2_with fail
 refine (HK1.out _ HT1.out).mono ?_;rintro e w3 ⟨rfl,hb⟩;have HT2:=qI (HT1.out.below hb);have hB2:=qI (hB1.out.trans (hb.mono hB1.out.size));clear HT1 hB1 hb n1 HN1;have n2:=HN2.out;have o1:=HO1.out
 go_wp2_with fail
 refine (HC2.out _).mono ?_;rintro e w2 ⟨rfl,rfl⟩
 go_wp2_with fail
 refine (HK2.out _ HT2.out).mono ?_;rintro e w4 ⟨rfl,hb⟩;have hB3:=qI (hB2.out.trans (hb.mono hB2.out.size));clear HT2 hB2 hb n2 HN2;have o2:=HO2.out
 go_wp2
 go_ret;exact ⟨rfl,hB3.out⟩
def il (r:Nat × Int):Value:=.tuple #[.int .u64 (r.1:Nat),ak r.2]
theorem B5 (s:Nat):il (s,0)=.tuple #[.int .u64 s,.nilIface]:=rfl
theorem sG:il (0,1)=.tuple #[.int .u64 0,.iface 121 (.int .i64 1)]:=rfl
theorem B6:il (0,8)=.tuple #[.int .u64 0,.iface 121 (.int .i64 8)]:=rfl
theorem B7 (tb F on:Nat) (L:Int) (l:List Cpu) (w:World) (h:L<0\/64<L) :
  Calls Tryz.prog 128 #[.pointer (some ⟨tb,0,none⟩),.int .u64 F,.int .i64 L,.int .u8 on] w λe w'=>e=.returned (il (aN l F L (af (aP on) l)))/\Below w.heap.size w w':=by
 have HE:Hid (aN l F L (af (aP on) l)=(0,1)):=by unfold Hid aN;rw [if_pos (by omega)]
 rw [HE.out,sG];have key:L<0\/(0<=L/\64<L):=by omega
 clear h HE
 rcases key with h|⟨h,h2⟩
 all_goals
  go_enter Tryz.func128,Tryz.ntmps128
  go_wp2
  go_ret2;exact ⟨rfl,Q0 _ _⟩
theorem B8 (tb b o c F on:Nat) (L:Int) (l:List Cpu) (w:World) (ht:aZ w tb b o c l) (hF:F<18446744073709551616) (h0:0<=L) (hL:L<=64) (h:¬ F &&& af aD l=F) :
  Calls Tryz.prog 128 #[.pointer (some ⟨tb,0,none⟩),.int .u64 F,.int .i64 L,.int .u8 on] w λe w'=>e=.returned (il (aN l F L (af (aP on) l)))/\Below w.heap.size w w':=by
 have HE:Hid (aN l F L (af (aP on) l)=(0,1)):=by unfold Hid aN;rw [if_pos (.inr (.inr h))]
 rw [HE.out,sG];have HA:=qI (gE tb b o c l w ht);have hA:af aD l<18446744073709551616:=Ost.e5 aD l _ ht.len;have HI:=qI (λW=>jq F (af aD l) W hF hA);rw [Q7 h] at HI;clear h HE ht
 go_enter Tryz.func128,Tryz.ntmps128
 go_wp2_with fail
 refine HA.out.mono ?_;rintro e w1 ⟨rfl,hb⟩
 go_wp2_with fail
 refine (HI.out _).mono ?_;rintro e w2 ⟨rfl,rfl⟩
 go_wp2
 go_ret2;exact ⟨rfl,hb⟩
theorem B9 (tb b o c F on:Nat) (L:Int) (l:List Cpu) (w:World) (ht:aZ w tb b o c l) (hF:F<18446744073709551616) (h0:0<=L) (hL:L<=64) (h:F &&& af aD l=F) (hc:(cnt F:Int)<L) :
  Calls Tryz.prog 128 #[.pointer (some ⟨tb,0,none⟩),.int .u64 F,.int .i64 L,.int .u8 on] w λe w'=>e=.returned (il (aN l F L (af (aP on) l)))/\Below w.heap.size w w':=by
 have HE:Hid (aN l F L (af (aP on) l)=(0,8)):=by
  unfold Hid aN;rw [if_neg (λhh=>by rcases hh with hh|hh|hh;omega;omega;exact hh h),if_pos hc]
 rw [HE.out,B6];have HA:=qI (gE tb b o c l w ht);have hA:af aD l<18446744073709551616:=Ost.e5 aD l _ ht.len;have HI:=qI (λW=>jq F (af aD l) W hF hA);rw [Qc h] at HI;have HC:Hid (∀ W,Calls Tryz.prog 17 #[.int .u64 F] W λe w'=>e=.returned (.int .i64 (cnt F:Nat))/\w'=W):=λW=>gD F W hF
 generalize cnt F=cF at *;clear h HE ht
 go_enter Tryz.func128,Tryz.ntmps128
 go_wp2_with fail
 refine HA.out.mono ?_;rintro e w1 ⟨rfl,hb⟩
 go_wp2_with fail
 refine (HI.out _).mono ?_;rintro e w2 ⟨rfl,rfl⟩
 go_wp2_with fail
 refine (HC.out _).mono ?_;rintro e w2 ⟨rfl,rfl⟩
 go_wp2
 go_ret2;exact ⟨rfl,hb⟩
theorem Ca (tb b o c F on:Nat) (L:Int) (l:List Cpu) (w:World) (ht:aZ w tb b o c l) (hg:Good l) (hF:F<18446744073709551616) (hon:on<256) (h0:0<=L) (hL:L<=64) (h:F &&& af aD l=F) (hc:L<=(cnt F:Int)) :
  Calls Tryz.prog 128 #[.pointer (some ⟨tb,0,none⟩),.int .u64 F,.int .i64 L,.int .u8 on] w λe w'=>e=.returned (il (aN l F L (af (aP on) l)))/\Below w.heap.size w w':=by
 have HE:=qI (Ost.sA (l:=l) (F:=F) (L:=L) (af (aP on) l) h0 hL h hc);rw [HE.out,B5];have HA:=qI (gE tb b o c l w ht);have hA:af aD l<18446744073709551616:=Ost.e5 aD l _ ht.len;have hM:af (aP on) l<18446744073709551616:=Ost.e5 _ l _ ht.len;have HI:=qI (λW=>jq F (af aD l) W hF hA);rw [Qc h] at HI;have HC:Hid (∀ W,Calls Tryz.prog 17 #[.int .u64 F] W λe w'=>e=.returned (.int .i64 (cnt F:Nat))/\w'=W):=λW=>gD F W hF
 generalize cnt F=cF at *;have HOn:Hid (∀ W,aZ W tb b o c l->Calls Tryz.prog 164 #[.pointer (some ⟨tb,0,none⟩),.int .u8 on] W λe w'=>e=.returned (.int .u64 (af (aP on) l:Nat))/\Below W.heap.size W w'):=λW hW=>yW tb b o c l on W hW hg hon
 have hN:F &&& af (aP on) l<18446744073709551616:=Ost.sub_lt hF (Ost.mu F _);have HN:=qI (bits_and_u64_nat F (af (aP on) l) hF hM);have HS1:=qI (λW hW=>sF tb b o c (F &&& af (aP on) l) L l W hW hg hN h0 hL);have HAN:=qI (jp F (F &&& af (aP on) l) hF hN);have ha:=Ost.oM l (F &&& af (aP on) l) L h0;have hal:=Ost.sub_lt hN (Ost.mr l (F &&& af (aP on) l) L);have HC2:Hid (∀ W,Calls Tryz.prog 17 #[.int .u64 (bO l (F &&& af (aP on) l) L:Nat)] W λe w'=>e=.returned (.int .i64 (cnt (bO l (F &&& af (aP on) l) L):Nat))/\w'=W):=λW=>gD _ W hal
 have hd:=Ost.iP (A:=F) (F &&& af (aP on) l) hF;have HS2:=qI (λW hW=>sF tb b o c (dif F (F &&& af (aP on) l)) (L - cnt (bO l (F &&& af (aP on) l) L)) l W hW hg hd (by omega) (by omega));have hbl:=Ost.sub_lt hd (Ost.mr l (dif F (F &&& af (aP on) l)) (L - cnt (bO l (F &&& af (aP on) l) L)));have HO:=qI (oN _ _ hal hbl);have hcl:(cnt (bO l (F &&& af (aP on) l) L):Int)<=L:=by omega
 have HT:=qI ht;generalize bO l (dif F (F &&& af (aP on) l)) (L - cnt (bO l (F &&& af (aP on) l) L))=s2 at *;generalize dif F (F &&& af (aP on) l)=fr at *;generalize cnt (bO l (F &&& af (aP on) l) L)=c1 at *;generalize bO l (F &&& af (aP on) l) L=s1 at *;generalize F &&& af (aP on) l=fi at *;generalize af (aP on) l=mm at *;clear h HE ht hg ha
 go_enter Tryz.func128,Tryz.ntmps128
 go_wp2_with fail
 refine HA.out.mono ?_;rintro e w1 ⟨rfl,hb⟩;have HT1:=qI (HT.out.below hb);have hB1:=qI hb;clear HT hb HA
 go_wp2_with fail
 refine (HI.out _).mono ?_;rintro e w2 ⟨rfl,rfl⟩
 go_wp2_with fail
 refine (HC.out _).mono ?_;rintro e w2 ⟨rfl,rfl⟩
 go_wp2_with fail
 refine (HOn.out _ HT1.out).mono ?_;rintro e w2 ⟨rfl,hb⟩;have HT2:=qI (HT1.out.below hb);have hB2:=qI (hB1.out.trans (hb.mono hB1.out.size));clear HT1 hb hB1;have n1:=HN.out
 go_wp2_with fail
 refine (HS1.out _ HT2.out).mono ?_;rintro e w3 ⟨rfl,hb⟩;have HT3:=qI (HT2.out.below hb);have hB3:=qI (hB2.out.trans (hb.mono hB2.out.size));clear HT2 hb hB2 n1;have n2:=HAN.out
 go_wp2_with fail
 refine (HC2.out _).mono ?_;rintro e w4 ⟨rfl,rfl⟩
 go_wp2_with fail
 refine (HS2.out _ HT3.out).mono ?_;rintro e w5 ⟨rfl,hb⟩;have hB4:=qI (hB3.out.trans (hb.mono hB3.out.size));clear HT3 hb hB3 n2;have n3:=HO.out
 go_wp2
 go_ret2;exact ⟨rfl,hB4.out⟩
theorem Cb (tb b o c F on:Nat) (L:Int) (l:List Cpu) (w:World) (ht:aZ w tb b o c l) (hg:Good l) (hF:F<18446744073709551616) (hon:on<256) :
  Calls Tryz.prog 128 #[.pointer (some ⟨tb,0,none⟩),.int .u64 F,.int .i64 L,.int .u8 on] w λe w'=>e=.returned (il (aN l F L (af (aP on) l)))/\Below w.heap.size w w':=by
 by_cases h1:L<0\/64<L
 ·exact B7 tb F on L l w h1
 ·by_cases h2:F &&& af aD l=F
  ·by_cases h3:(cnt F:Int)<L
   ·exact B9 tb b o c F on L l w ht hF (by omega) (by omega) h2 h3
   ·exact Ca tb b o c F on L l w ht hg hF hon (by omega) (by omega) h2 (by omega)
  ·exact B8 tb b o c F on L l w ht hF (by omega) (by omega) h2
end
