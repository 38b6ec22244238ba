import Derived.Test.YtbmmnflgnmjboaaGreatDoorR4
import Derived.Laws.BitsAllLaws
import Derived.Shelf.SlicesG.Cmp
import Derived.Shelf.Lay
import Derived.Ground.SlgcProg
import Derived.Deep.RegionHeld3
import Derived.Laws.EntriesVeiled
set_option maxRecDepth 100000
set_option maxHeartbeats 16000000
open Go.Proofs.Tryz
namespace Go.Proofs.YtbmmnflgnmjboaaGreatDoor
section
namespace Ost
def cnt (A:Nat):Nat:=(aI A 64).length
def dif (A B:Nat):Nat:=A ^^^ (A &&& B)
theorem e7 (A B i:Nat):(dif A B).testBit i=(A.testBit i && !B.testBit i):=by
 rw [dif,Nat.testBit_xor,Nat.testBit_and];cases A.testBit i <;> cases B.testBit i <;> rfl
theorem gD (A B:Nat):A &&& B=A↔∀ i,A.testBit i=true->B.testBit i=true:=by
 constructor
 ·intro h i hi;have e:(A &&& B).testBit i=A.testBit i:=by rw [h]
  rw [Nat.testBit_and,hi] at e
  simpa using e
 ·intro h;apply Nat.eq_of_testBit_eq;intro i;rw [Nat.testBit_and];cases hA:A.testBit i with
  | false=>rfl
  | true=>rw [h i hA];rfl
theorem jr (A B:Nat):A &&& B=0↔∀ i,A.testBit i=true->B.testBit i=false:=by
 constructor
 ·intro h i hi;have e:(A &&& B).testBit i=false:=by rw [h,Nat.zero_testBit]
  rw [Nat.testBit_and,hi] at e
  simpa using e
 ·intro h;apply Nat.eq_of_testBit_eq;intro i;rw [Nat.testBit_and,Nat.zero_testBit];cases hA:A.testBit i with
  | false=>rfl
  | true=>rw [h i hA];rfl
theorem Dt {A B:Nat} (h:A &&& B=0) (k:Nat):(aI (A ||| B) k).length=(aI A k).length+(aI B k).length:=by
 induction k with
 | zero=>rfl
 | succ k ih=>
  rw [jS,jS A,jS B,Nat.testBit_or];have hx:=(jr A B).1 h k;cases hA:A.testBit k with
  | true=>rw [hx hA];simp [ih];omega
  | false=>cases hB:B.testBit k <;> simp [ih];omega
theorem kU {A B:Nat} (h:A &&& B=0):cnt (A ||| B)=cnt A+cnt B:=Dt h 64
theorem uO:cnt 0=0:=by decide +kernel
theorem Du {A:Nat} (h:A<18446744073709551616) {i:Nat} (hi:A.testBit i=true):i<64:=by
 apply Qt;intro hn
 have:A.testBit i=false:=Nat.testBit_lt_two_pow (Q1 (show A<2 ^ 64 from h) (Nat.pow_le_pow_right (n:=2) (by omega) (by omega)))
 rw [this] at hi;cases hi
theorem gX {A:Nat} (B:Nat) (h:A<18446744073709551616):dif A B<18446744073709551616:=by
 apply Nat.lt_pow_two_of_testBit (n:=64);intro i hi;rw [e7];cases hA:A.testBit i with
 | false=>rfl
 | true=>have:=Du h hA;omega
theorem Dw {A B:Nat} (h:B &&& A=B):dif A B ||| B=A:=by
 apply Nat.eq_of_testBit_eq;intro i;rw [Nat.testBit_or,e7]
 have:=(gD B A).1 h i
 cases hB:B.testBit i with
 | true=>rw [this hB];rfl
 | false=>simp
theorem Dx (A B:Nat):dif A B &&& B=0:=by
 rw [jr];intro i hi;rw [e7] at hi;cases hB:B.testBit i with
 | true=>rw [hB] at hi;simp at hi
 | false=>rfl
theorem qo {A B:Nat} (h:B &&& A=B):cnt (dif A B)+cnt B=cnt A:=by
 rw [<- kU (Dx A B),Dw h]
theorem qq (A B:Nat):dif A B &&& A=dif A B:=by
 rw [gD];intro i hi;rw [e7] at hi;revert hi;cases A.testBit i <;> simp
theorem sub_lt {A B:Nat} (hB:B<18446744073709551616) (h:A &&& B=A):A<18446744073709551616:=by
 rw [<- h];exact Nat.lt_of_le_of_lt Nat.and_le_right hB
theorem nY {A B C:Nat} (h1:A &&& B=A) (h2:B &&& C=B):A &&& C=A:=by
 rw [gD] at *;intro i hi;exact h2 i (h1 i hi)
theorem nZ {A B C:Nat} (h1:A &&& C=A) (h2:B &&& C=B):(A ||| B) &&& C=A ||| B:=by
 rw [gD] at *;intro i hi;rw [Nat.testBit_or,Bool.or_eq_true] at hi
 rcases hi with hi|hi
 ·exact h1 i hi
 ·exact h2 i hi
theorem Dy {A B:Nat} (h:A &&& B=0):B &&& A=0:=by rw [Nat.and_comm];exact h
def aM (f:Nat->Nat) (free:Nat) (many:Int):Nat->Nat
 | 0=>0
 | k+1=>if f k &&& free=f k/\(cnt (f k):Int)<=many - cnt (aM f free many k) then aM f free many k ||| f k else aM f free many k
def fS (f:Nat->Nat) (free:Nat) (many:Int):Nat:=aM f free many 64
theorem uP {f:Nat->Nat} {free:Nat} {many:Int} {k:Nat} (h1:f k &&& free=f k) (h2:(cnt (f k):Int)<=many - cnt (aM f free many k)):aM f free many (k+1)=aM f free many k ||| f k:=by rw [aM,if_pos ⟨h1,h2⟩]
theorem uQ {f:Nat->Nat} {free:Nat} {many:Int} {k:Nat} (h1:¬ f k &&& free=f k):aM f free many (k+1)=aM f free many k:=by rw [aM,if_neg (λh=>h1 h.1)]
theorem uR {f:Nat->Nat} {free:Nat} {many:Int} {k:Nat} (h2:¬ (cnt (f k):Int)<=many - cnt (aM f free many k)):aM f free many (k+1)=aM f free many k:=by rw [aM,if_neg (λh=>h2 h.2)]
theorem n9 (f:Nat->Nat) (free:Nat) (many:Int) (k:Nat):aM f free many k &&& free=aM f free many k:=by
 induction k with
 | zero=>simp [aM]
 | succ k ih=>
  rw [aM]
  split
  ·rename_i h;exact nZ ih h.1
  ·exact ih
theorem Dz (f:Nat->Nat) (free:Nat) (many:Int) (k i:Nat) (h:(aM f free many k).testBit i=true):∃ n,n<k/\(f n).testBit i=true/\f n &&& aM f free many k=f n:=by
 induction k with
 | zero=>simp [aM] at h
 | succ k ih=>
  rw [aM] at h ⊢
  split at h
  ·rename_i hc
   rw [if_pos hc];rw [Nat.testBit_or,Bool.or_eq_true] at h
   rcases h with h|h
   ·obtain ⟨n,hn,hb,hs⟩:=ih h;refine ⟨n,by omega,hb,?_⟩;rw [gD] at hs ⊢;intro j hj;rw [Nat.testBit_or,hs j hj];rfl
   ·refine ⟨k,by omega,h,?_⟩;rw [gD];intro j hj;rw [Nat.testBit_or,hj];simp
  ·rename_i hc
   rw [if_neg hc];obtain ⟨n,hn,hb,hs⟩:=ih h;exact ⟨n,by omega,hb,hs⟩
def qr (f:Nat->Nat):Prop:=∀ a b,a≠b->f a &&& f b=0
theorem DA {f:Nat->Nat} (hp:qr f) (free:Nat) (many:Int) (k n:Nat) (hn:k<=n):aM f free many k &&& f n=0:=by
 rw [jr];intro i hi;obtain ⟨j,hj,hb,_⟩:=Dz f free many k i hi;exact (jr _ _).1 (hp j n (by omega)) i hb
theorem od {f:Nat->Nat} (hp:qr f) (free:Nat) (many:Int) (h0:0<=many) (k:Nat):(cnt (aM f free many k):Int)<=many:=by
 induction k with
 | zero=>simp only [aM,uO];omega
 | succ k ih=>
  rw [aM]
  split
  ·rename_i h;rw [kU (DA hp free many k k (lR))];omega
  ·exact ih
theorem qt (f:Nat->Nat) (free:Nat) (many:Int) (k:Nat) (h:free<18446744073709551616):aM f free many k<18446744073709551616:=sub_lt h (n9 f free many k)
def less (c:Nat->Nat) (x y:Nat):Bool:=decide (c x<c y\/(c x=c y/\x<y))
def order (c:Nat->Nat) (A:Nat):List Nat:=(aI A 64).mergeSort (λx y=>!less c y x)
def orB (l:List Nat):Nat:=l.foldl (λs n=>s ||| 2 ^ n) 0
theorem qv (l:List Nat) (n:Nat):orB (l++[n])=orB l ||| 2 ^ n:=by simp [orB]
theorem qw (l:List Nat) (i:Nat):(orB l).testBit i=decide (i∈l):=by
 have key:∀ r:List Nat,(orB r.reverse).testBit i=decide (i∈r.reverse):=by
  intro r
  induction r with
  | nil=>simp [orB]
  | cons n r ih=>
   rw [List.reverse_cons,qv,Nat.testBit_or,ih,Nat.testBit_two_pow,Bool.eq_iff_iff];simp only [Bool.or_eq_true,Qp,Qi,Qm];constructor
   ·rintro (h|h)
    ·exact .inl h
    ·exact .inr h.symm
   ·rintro (h|h)
    ·exact .inl h
    ·exact .inr h.symm
 have:=key l.reverse
 rwa [List.reverse_reverse] at this
theorem qx (c:Nat->Nat) (A:Nat):(order c A).Perm (aI A 64):=List.mergeSort_perm _ _
theorem oe (c:Nat->Nat) (A:Nat):(order c A).length=cnt A:=(qx c A).length_eq
theorem DB (A i:Nat):i∈aI A 64↔i<64/\A.testBit i=true:=by unfold aI;simp
theorem qy {c:Nat->Nat} {A i:Nat}:i∈order c A↔i<64/\A.testBit i=true:=by rw [(qx c A).mem_iff,DB]
theorem DC (c:Nat->Nat) (A:Nat):(order c A).Nodup:=by
 rw [(qx c A).nodup_iff];unfold aI;exact List.Pairwise.filter _ List.nodup_range
theorem DD {c:Nat->Nat} {x y:Nat} (h1:less c x y=false) (h2:less c y x=false):x=y:=by simp [less] at *;omega
def rest (c:Nat->Nat) (A j:Nat):Nat:=dif A (orB ((order c A).take j))
theorem DE {n:Nat} (h:n<64):cnt (2 ^ n)=1:=by
 have:∀ i:Fin 64,cnt (2 ^ i.val)=1:=by decide +kernel
 exact this ⟨n,h⟩
theorem DF {l:List Nat} (hn:l.Nodup) (h64:∀ i∈l,i<64):cnt (orB l)=l.length:=by
 have key:∀ r:List Nat,r.reverse.Nodup->(∀ i∈r.reverse,i<64)->cnt (orB r.reverse)=r.reverse.length:=by
  intro r
  induction r with
  | nil=>intro _ _;simp [orB,uO]
  | cons n r ih=>
   intro hn h64;rw [List.reverse_cons] at hn h64 ⊢;rw [List.nodup_append] at hn;rw [qv,kU,ih hn.1 λi hi=>h64 i (List.mem_append_left _ hi),DE (h64 n (by simp))]
   ·simp
   ·rw [jr];intro i hi;rw [qw,Qp] at hi;rw [Nat.testBit_two_pow];exact Q7 λe=>hn.2.2 i hi n (by simp) e.symm
 have:=key l.reverse
 rw [List.reverse_reverse] at this;exact this hn h64
def dN (c:Nat->Nat) (A:Nat) (many:Nat):Nat:=orB ((order c A).take many)
theorem qz (c:Nat->Nat) (A many:Nat):dN c A many &&& A=dN c A many:=by
 rw [gD];intro i hi;rw [dN,qw,Qp] at hi;exact (qy.1 (List.mem_of_mem_take hi)).2
theorem DG (c:Nat->Nat) (A many:Nat):cnt (dN c A many)=min many (cnt A):=by
 rw [dN,DF,Qu,oe]
 ·exact (DC c A).sublist (List.take_sublist _ _)
 ·intro i hi;exact (qy.1 (List.mem_of_mem_take hi)).1
def sockAt (l:List Cpu) (n:Nat):Nat:=at' (·.sock) l n
def a8 (l:List Cpu) (n:Nat):Nat:=at' (·.core) l n
theorem oj (f:Cpu->Int) (l:List Cpu):qr (at' f l):=by
 intro a b hab;rw [jr];intro i hi;rw [at',pB,Bool.and_eq_true,beq_iff_eq] at hi;rw [at',pB,hi.2]
 have:(((a:Nat):Int) == (b:Int))=false:=by rw [Qr];omega
 rw [this];simp
theorem qA (f:Cpu->Int) {l:List Cpu} (h:l.length<=64) (n:Nat):at' f l n<18446744073709551616:=eW _ l _ h
def leftOf (l:List Cpu) (now n:Nat):Nat:=cnt (ae (λx=>x.core == (l.getD n ad).core) l &&& now)
def eB (l:List Cpu) (F:Nat) (L:Int):Nat:=fS (sockAt l) F L
def eN (l:List Cpu) (F:Nat) (L:Int):Nat:=eB l F L ||| fS (a8 l) (dif F (eB l F L)) (L - cnt (eB l F L))
def bN (l:List Cpu) (F:Nat) (L:Int):Nat:=eN l F L ||| dN (leftOf l (dif F (eN l F L))) (dif F (eN l F L)) (L - cnt (eN l F L)).toNat
theorem uS (l:List Cpu) (F:Nat) (L:Int):eB l F L &&& F=eB l F L:=n9 _ _ _ _
theorem uT (l:List Cpu) (F:Nat) (L:Int) (h:0<=L):(cnt (eB l F L):Int)<=L:=od (oj _ l) F L h 64
theorem qB (l:List Cpu) (F:Nat) (L:Int):eN l F L &&& F=eN l F L:=
 nZ (uS l F L) (nY (n9 _ _ _ _) (qq F _))
theorem uU {A B C:Nat} (h:B &&& dif C A=B):A &&& B=0:=by
 apply Dy;rw [gD] at h;rw [jr];intro i hi
 have:=h i hi
 rw [e7,Bool.and_eq_true] at this
 simpa using this.2
theorem uV (l:List Cpu) (F:Nat) (L:Int) (h:0<=L):(cnt (eN l F L):Int)<=L:=by
 have h1:=uT l F L h;unfold eN fS;rw [kU (uU (n9 (a8 l) (dif F (eB l F L)) (L - cnt (eB l F L)) 64))];have h2:=od (oj (·.core) l) (dif F (eB l F L)) (L - cnt (eB l F L)) (by omega) 64;have e:a8 l=at' (·.core) l:=rfl;rw [e];omega
theorem ol (l:List Cpu) (F:Nat) (L:Int):bN l F L &&& F=bN l F L:=
 nZ (qB l F L) (nY (qz _ _ _) (qq F _))
theorem qC (l:List Cpu) (F:Nat) (L:Int) (h:0<=L):(cnt (bN l F L):Int)=min L (cnt F):=by
 have h1:=uV l F L h;have h2:=qo (qB l F L);rw [bN,kU (uU (qz _ _ _)),DG];omega
def aN (l:List Cpu) (F:Nat) (L:Int) (on:Nat):Nat × Int:=
 if L<0\/64<L\/¬ F &&& ae (λ_=>true) l=F then (0,1) else
 if (cnt F:Int)<L then (0,8) else
 (bN l (F &&& on) L ||| bN l (dif F (F &&& on)) (L - cnt (bN l (F &&& on) L)),0)
theorem om (A B:Nat):A &&& B &&& A=A &&& B:=by
 apply Nat.eq_of_testBit_eq;intro i;simp only [Nat.testBit_and];cases A.testBit i <;> cases B.testBit i <;> rfl
theorem uW {l:List Cpu} {F:Nat} {L:Int} (on:Nat) (h0:0<=L) (h64:L<=64) (hin:F &&& ae (λ_=>true) l=F) (hc:L<=cnt F) :
  aN l F L on=(bN l (F &&& on) L ||| bN l (dif F (F &&& on)) (L - cnt (bN l (F &&& on) L)),0):=by
 rw [aN,if_neg (λh=>by rcases h with h|h|h;omega;omega;exact h hin),if_neg (by omega)]
theorem DH {l:List Cpu} {F:Nat} {L:Int} (on:Nat) (h0:0<=L) (hc:L<=cnt F) (s:Nat) (hs:s=bN l (F &&& on) L ||| bN l (dif F (F &&& on)) (L - cnt (bN l (F &&& on) L))) :
  (cnt s:Int)=L/\s &&& F=s/\(cnt (s &&& on):Int)=min L (cnt (F &&& on)):=by
 have ha:=qC l (F &&& on) L h0;have has:=ol l (F &&& on) L;have Ha:=ol l (dif F (F &&& on)) (L - cnt (bN l (F &&& on) L));have hb:=qC l (dif F (F &&& on)) (L - cnt (bN l (F &&& on) L)) (by omega);have hd:=qo (om F on);generalize bN l (dif F (F &&& on)) (L - cnt (bN l (F &&& on) L))=b at *;generalize bN l (F &&& on) L=a at *;have Hc:a &&& b=0:=by
  rw [gD] at has Ha;rw [jr];intro i hi;cases hbi:b.testBit i with
  | false=>rfl
  | true=>
   have h1:=has i hi;have h2:=Ha i hbi;rw [e7,h1] at h2
   simp at h2
 have Hb:s &&& on=a:=by
  rw [hs];rw [gD] at has Ha;apply Nat.eq_of_testBit_eq;intro i;rw [Nat.testBit_and,Nat.testBit_or];cases hai:a.testBit i with
  | true=>
   have h1:=has i hai;rw [Nat.testBit_and,Bool.and_eq_true] at h1;rw [h1.2];rfl
  | false=>
   cases hbi:b.testBit i with
   | false=>rfl
   | true=>
    have h2:=Ha i hbi;rw [e7,Nat.testBit_and] at h2
    revert h2
    cases F.testBit i <;> cases on.testBit i <;> simp
 refine ⟨?_,?_,?_⟩
 ·rw [hs,kU Hc];omega
 ·rw [hs];exact nZ (nY has (om F on)) (nY Ha (qq F _))
 ·rw [Hb];exact ha
end Ost
end
section
open RowKit
open Ost (cnt dif)
theorem iI (A B:Nat) (hA:A<18446744073709551616) (hB:B<18446744073709551616):bits BinOp.andNot IntKind.u64 (A:Int) (B:Int)=((dif A B:Nat):Int):=by
 rw [u64_andNot_nat A B hA hB];have key:A &&& (18446744073709551615 - B)=dif A B:=by
  apply Nat.eq_of_testBit_eq;intro i;rw [Nat.testBit_and,Ost.e7]
  by_cases hi:i<64
  ·have e:(18446744073709551615 - B).testBit i=!B.testBit i:=by
    have:=Nat.testBit_two_pow_sub_succ (n:=64) hB i
    rw [show 2 ^ 64 - (B+1)=18446744073709551615 - B by omega] at this;rw [this,Qc hi];simp
   rw [e]
  ·have:A.testBit i=false:=Nat.testBit_lt_two_pow (Q1 hA (Nat.pow_le_pow_right (n:=2) (by omega) (show 64<=i by omega)))
   rw [this];simp
 rw [key]
theorem DI (A B:Nat):dif A B=0↔A &&& B=A:=by
 rw [Ost.gD];constructor
 ·intro h i hi;have e:(dif A B).testBit i=false:=by rw [h,Nat.zero_testBit]
  rw [Ost.e7,hi] at e
  simpa using e
 ·intro h;apply Nat.eq_of_testBit_eq;intro i;rw [Ost.e7,Nat.zero_testBit];cases hA:A.testBit i with
  | false=>rfl
  | true=>rw [h i hA];rfl
theorem DJ (A B:Nat) (hA:A<18446744073709551616) (hB:B<18446744073709551616):(bits BinOp.andNot IntKind.u64 (A:Int) (B:Int) == 0)=decide (A &&& B=A):=by
 rw [iI A B hA hB,Bool.eq_iff_iff,beq_iff_eq,Qp,<- DI];omega
theorem js (A B:Nat) (w:World) (hA:A<18446744073709551616) (hB:B<18446744073709551616) :
  Calls prog 38 #[.int .u64 A,.int .u64 B] w λe w'=>e=.returned (.bool (decide (A &&& B=A)))/\w'=w:=by
 have H:=qI (DJ A B hA hB)
 go_enter func38,ntmps38
 go_wp2
 go_ret;exact ⟨congrArg (λb=>Ending.returned (.bool b)) H.out,rfl⟩
theorem DK:(prog.info? 3).map (λi=>(i.zero,i.size,i.bytes))=some (some (.int .i64 0),1,8):=by kernel_rfl
def nums (l:List Nat):List Value:=l.map λ(n:Nat)=>Value.int .i64 (n:Int)
theorem DL (l:List Nat) (n:Nat):nums (l++[n])=nums l++[.int .i64 n]:=by simp [nums]
theorem kJ (A k:Nat):(Ost.aI A k).length<=k:=by
 unfold Ost.aI;exact Q5 (List.length_filter_le _ _) (by simp)
theorem DM (A:Nat) (w:World) (hA:A<18446744073709551616) :
  Calls prog 251 #[.int .u64 A] w λe w'=>∃ v,e=.returned v/\w'.ownsRow w.heap.size 3 1 v (Ost.aI A 64).length (nums (Ost.aI A 64))/\Below w.heap.size w w':=by
 obtain ⟨i0,hi,Hi,Hj,Hl⟩:=info_parts DK
 go_enter func251,ntmps251
 go_wp2
 go_loopw [3,5] (λv i wr=>∃ k:Nat,k<=64/\i=.int .i64 k/\wr.ownsRow w.heap.size 3 1 v (Ost.aI A k).length (nums (Ost.aI A k))/\Below w.heap.size w wr) (λ_ i _=>64 - (intOf i).toNat)
 case atStart=>exact ⟨0,by omega,rfl,Qw _ _ _ _,Q0 _ _⟩
 case round=>
  obtain ⟨k,hk,rfl,Ha,He⟩:=hrel
  by_cases hlt:k<64
  ·have hle:=kJ A k;have Hk:=He.size
   by_cases hb:A.testBit k=true
   ·have HS:Hid (Ost.aI A (k+1)=Ost.aI A k++[k]):=by unfold Hid;rw [Ost.jS,if_pos hb]
    have HI:=lP A k wr hA hlt;rw [hb] at HI;have Hg:Hid (Calls prog 154 #[.int .u64 A,.int .i64 k] wr λe w'=>e=.returned (.bool true)/\w'=wr):=HI;clear HI hb
    go_wp2_with (first
     | (go_at_call 154;refine Hg.out.mono ?_;rintro e w' ⟨rfl,rfl⟩)
     | (at_builtin;refine wpList_append_own _ rfl _ _ 44 rfl w.heap.size 3 i0 (.int .i64 0) 1 8 underlying44 hi Hi Hj Hl rfl (by decide) _ _ _ rfl (Ha.alloc _) ⟨_,0,none⟩ 1 1 [.int .i64 k] rfl rfl (cell_one_new _ _ _) (ints_oneCell .i64 [(k:Int)]) (by unfold maxLen;omega) (by omega) (by simp;omega) ?_;intro v' w1 Hc Hb _))
    go_roundw
    case rel=>
     refine ⟨k+1,by omega,by go_num,?_,?_⟩
     ·rw [HS.out,DL,Q2];exact Hc
     ·exact (He.alloc Hk _).grown Hb (by simp;omega) λj hj=>(Ha.lt j hj).1
    case measure=>simp [intOf];omega
   ·have Hh:A.testBit k=false:=by simpa using hb
    have HS:Hid (Ost.aI A (k+1)=Ost.aI A k):=by unfold Hid;rw [Ost.jS,if_neg hb]
    have HI:=lP A k wr hA hlt;rw [Hh] at HI;have Hg:Hid (Calls prog 154 #[.int .u64 A,.int .i64 k] wr λe w'=>e=.returned (.bool false)/\w'=wr):=HI;clear HI hb Hh
    go_wp2_with (go_at_call 154;refine Hg.out.mono ?_;rintro e w' ⟨rfl,rfl⟩)
    go_roundw
    case rel=>
     refine ⟨k+1,by omega,by go_num,?_,He⟩;rw [HS.out];exact Ha
    case measure=>simp [intOf];omega
  ·have Hf:k=64:=by omega
   subst Hf;clear hk hlt
   go_wp2
   go_ret;exact ⟨_,rfl,Ha,He⟩
end
section
open RowKit Go.ChangeMaps
open Go.Maps (Keyed int_keyed keyOf_int_mk)
def ed (w:World) (B n:Nat) (f:Int->Int):Prop:=
 ∃ D:DataW Unit,w.ownsMap prog 3 (plainElem prog 3) B n D/\∀ k:Int,0<=k->k<64->D.atKey (.int .i64 k) (.lit (.int .i64 0))=.lit (.int .i64 (f k))
theorem ed.alloc {w:World} {B n:Nat} {f:Int->Int} (h:ed w B n f) (o:Obj):ed (w.alloc o) B n f:=by
 obtain ⟨D,ho,hk⟩:=h;exact ⟨D,ho.alloc o,hk⟩
theorem ed.below {w w':World} {B K n:Nat} {f:Int->Int} (h:ed w B n f) (hb:Below K w w') (hK:B<K):ed w' B n f:=by
 obtain ⟨D,⟨es,clock,hh,r⟩,hk⟩:=h;exact ⟨D,⟨es,clock,(hb.block B hK).trans hh,r⟩,hk⟩
theorem ed.lt {w:World} {B n:Nat} {f:Int->Int} (h:ed w B n f):B<w.heap.size:=by
 obtain ⟨D,ho,_⟩:=h;exact ho.lt
theorem ed.made (w:World):ed (w.alloc (.map #[] 0)) w.heap.size 0 (λ_=>0):=
 ⟨.map [],World.ownsMap_made w _ _ _,λ_ _ _=>rfl⟩
theorem DN (w:World):(zeroValue 3).run prog w=.ok (.int .i64 0) w:=by kernel_rfl
theorem DO {ops:Array Oper} {rest:List Oper} {o:Oper} {a:Act} {Q:Exit->Act->World->Prop} (w:World) (hg:o.guard=none) (m x:Operand) (hop:o.op=Op.lookup 349 m x false)
  (B n:Nat) (f:Int->Int) (k:Int) (h0:0<=k) (h64:k<64) (hm:a.eval m=.map (some B)) (hx:a.eval x=.int .i64 k) (hM:ed w B n f)
  (hK:wpList prog ops Q rest (a.put o.dst (.int .i64 (f k))) w) :
  wpList prog ops Q (o :: rest) a w:=by
 obtain ⟨D,ho,hk⟩:=hM;refine wpList_lookup_own_int w hg m x 349 hop 3 3 .i64 nL underlying349 underlying3 (DN w) B n D hm ho _ (.int .i64 k) hx (keyOf_int_mk underlying3 (nM h0 h64)) ?_;intro c hc _;rw [hk k h0 h64] at hc;simp only [DataW.lit.injEq,Lit.int.injEq,true_and] at hc;rw [<- hc];exact hK
end
section
open RowKit
open Ost (Cpu ad ae cnt dif aM fS sockAt a8)
theorem DP (tb b o c F:Nat) (L:Int) (l:List Cpu) (w:World) (ht:ba w tb b o c l) (hF:F<18446744073709551616) (h0:0<=L) (hL:L<=64) :
  Calls prog 204 #[.func (.func 205) #[.pointer (some ⟨tb,0,none⟩)] #[],.int .u64 F,.int .i64 L] w λe w'=>e=.returned (.int .u64 (fS (sockAt l) F L:Nat))/\Below w.heap.size w w':=by
 have HT:=qI ht;have Hi:=ht.len;clear ht
 go_enter func204,ntmps204
 go_wp2
 go_loopw [7,10] (λt i wr=>∃ k:Nat,k<=64/\i=.int .i64 k/\t=.int .u64 (aM (sockAt l) F L k:Nat)/\Hid (ba wr tb b o c l)/\Below w.heap.size w wr) (λ_ i _=>64 - (intOf i).toNat)
 case atStart=>exact ⟨0,by omega,rfl,rfl,HT,Q0 _ _⟩
 case round=>
  obtain ⟨k,hk,rfl,rfl,Hg,hB⟩:=hrel
  by_cases hlt:k<64
  ·have HS:Hid (Calls prog 205 #[.pointer (some ⟨tb,0,none⟩),.int .i64 k] wr λe w'=>e=.returned (.int .u64 (sockAt l k:Nat))/\Below wr.heap.size wr w'):=Bl tb b o c l k wr Hg.out;have hs:=Ost.qA (·.sock) Hi k
   change sockAt l k<_ at hs
   have ht:=Ost.qt (sockAt l) F L k hF;have Hc:=qI λW=>fO (sockAt l k) W hs;have He:=qI λW=>fO (aM (sockAt l) F L k) W ht;have Hj:=Ost.od (Ost.oj (·.sock) l) F L h0 k
   change (cnt (aM (sockAt l) F L k):Int)<=L at Hj
   have HI:=qI λW=>js (sockAt l k) F W hs hF;have HY:=qI λh1 h2=>Ost.uP (f:=sockAt l) (free:=F) (many:=L) (k:=k) h1 h2;have Hk:=qI λh1=>Ost.uQ (f:=sockAt l) (free:=F) (many:=L) (k:=k) h1;have Hh:=qI λh1=>Ost.uR (f:=sockAt l) (free:=F) (many:=L) (k:=k) h1;have HO:=qI (bits_or_u64_nat (aM (sockAt l) F L k) (sockAt l k) ht hs)
   change Hid (∀ W,Calls _ _ _ W λe w'=>e=.returned (.int .i64 (cnt (sockAt l k):Nat))/\w'=W) at Hc
   change Hid (∀ W,Calls _ _ _ W λe w'=>e=.returned (.int .i64 (cnt (aM (sockAt l) F L k):Nat))/\w'=W) at He
   generalize sockAt l k=s at *
   go_wp2_with (go_at_call 205;refine HS.out.mono ?_;rintro e w1 ⟨rfl,hb⟩)
   have Ha:=hB.trans (hb.mono hB.size);have Hf:=qI (Hg.out.below hb);clear Hg hb hB HS
   by_cases h1:s &&& F=s
   ·have e1:decide (s &&& F=s)=true:=Qc h1
    by_cases h2:(cnt s:Int)<=L - cnt (aM (sockAt l) F L k)
    ·have HE:Hid (aM (sockAt l) F L (k+1)=aM (sockAt l) F L k ||| s):=HY.out h1 h2;rw [e1] at HI;clear h1 e1;refine (HI.out w1).mono ?_;rintro e w2 ⟨rfl,rfl⟩
     go_wp2_with fail
     refine (Hc.out _).mono ?_;rintro e w2 ⟨rfl,rfl⟩
     go_wp2_with fail
     refine (He.out _).mono ?_;rintro e w2 ⟨rfl,rfl⟩
     go_wp2
     go_roundw
     case rel=>exact ⟨k+1,by omega,by go_num,by rw [HE.out,<- HO.out],Hf,Ha⟩
     case measure=>simp [intOf];omega
    ·have HE:Hid (aM (sockAt l) F L (k+1)=aM (sockAt l) F L k):=Hh.out (by omega);have h3:L - cnt (aM (sockAt l) F L k)<(cnt s:Int):=by omega
     rw [e1] at HI;clear h1 e1 h2;refine (HI.out w1).mono ?_;rintro e w2 ⟨rfl,rfl⟩
     go_wp2_with fail
     refine (Hc.out _).mono ?_;rintro e w2 ⟨rfl,rfl⟩
     go_wp2_with fail
     refine (He.out _).mono ?_;rintro e w2 ⟨rfl,rfl⟩
     go_wp2
     go_roundw
     case rel=>exact ⟨k+1,by omega,by go_num,by rw [HE.out],Hf,Ha⟩
     case measure=>simp [intOf];omega
   ·have e1:decide (s &&& F=s)=false:=Q7 h1;have HE:Hid (aM (sockAt l) F L (k+1)=aM (sockAt l) F L k):=Hk.out h1;rw [e1] at HI;clear h1 e1;refine (HI.out w1).mono ?_;rintro e w2 ⟨rfl,rfl⟩
    go_wp2
    go_roundw
    case rel=>exact ⟨k+1,by omega,by go_num,by rw [HE.out],Hf,Ha⟩
    case measure=>simp [intOf];omega
  ·have Hb:k=64:=by omega
   subst Hb;clear hk hlt
   go_wp2
   go_ret;exact ⟨rfl,hB⟩
theorem DQ (tb b o c F:Nat) (L:Int) (l:List Cpu) (w:World) (ht:ba w tb b o c l) (hF:F<18446744073709551616) (h0:0<=L) (hL:L<=64) :
  Calls prog 204 #[.func (.func 206) #[.pointer (some ⟨tb,0,none⟩)] #[],.int .u64 F,.int .i64 L] w λe w'=>e=.returned (.int .u64 (fS (a8 l) F L:Nat))/\Below w.heap.size w w':=by
 have HT:=qI ht;have Hi:=ht.len;clear ht
 go_enter func204,ntmps204
 go_wp2
 go_loopw [7,10] (λt i wr=>∃ k:Nat,k<=64/\i=.int .i64 k/\t=.int .u64 (aM (a8 l) F L k:Nat)/\Hid (ba wr tb b o c l)/\Below w.heap.size w wr) (λ_ i _=>64 - (intOf i).toNat)
 case atStart=>exact ⟨0,by omega,rfl,rfl,HT,Q0 _ _⟩
 case round=>
  obtain ⟨k,hk,rfl,rfl,Hg,hB⟩:=hrel
  by_cases hlt:k<64
  ·have HS:Hid (Calls prog 206 #[.pointer (some ⟨tb,0,none⟩),.int .i64 k] wr λe w'=>e=.returned (.int .u64 (a8 l k:Nat))/\Below wr.heap.size wr w'):=tH tb b o c l k wr Hg.out;have hs:=Ost.qA (·.core) Hi k
   change a8 l k<_ at hs
   have ht:=Ost.qt (a8 l) F L k hF;have Hc:=qI λW=>fO (a8 l k) W hs;have He:=qI λW=>fO (aM (a8 l) F L k) W ht;have Hj:=Ost.od (Ost.oj (·.core) l) F L h0 k
   change (cnt (aM (a8 l) F L k):Int)<=L at Hj
   have HI:=qI λW=>js (a8 l k) F W hs hF;have HY:=qI λh1 h2=>Ost.uP (f:=a8 l) (free:=F) (many:=L) (k:=k) h1 h2;have Hk:=qI λh1=>Ost.uQ (f:=a8 l) (free:=F) (many:=L) (k:=k) h1;have Hh:=qI λh1=>Ost.uR (f:=a8 l) (free:=F) (many:=L) (k:=k) h1;have HO:=qI (bits_or_u64_nat (aM (a8 l) F L k) (a8 l k) ht hs)
   change Hid (∀ W,Calls _ _ _ W λe w'=>e=.returned (.int .i64 (cnt (a8 l k):Nat))/\w'=W) at Hc
   change Hid (∀ W,Calls _ _ _ W λe w'=>e=.returned (.int .i64 (cnt (aM (a8 l) F L k):Nat))/\w'=W) at He
   generalize a8 l k=s at *
   go_wp2_with (go_at_call 206;refine HS.out.mono ?_;rintro e w1 ⟨rfl,hb⟩)
   have Ha:=hB.trans (hb.mono hB.size);have Hf:=qI (Hg.out.below hb);clear Hg hb hB HS
   by_cases h1:s &&& F=s
   ·have e1:decide (s &&& F=s)=true:=Qc h1
    by_cases h2:(cnt s:Int)<=L - cnt (aM (a8 l) F L k)
    ·have HE:Hid (aM (a8 l) F L (k+1)=aM (a8 l) F L k ||| s):=HY.out h1 h2;rw [e1] at HI;clear h1 e1;refine (HI.out w1).mono ?_;rintro e w2 ⟨rfl,rfl⟩
     go_wp2_with fail
     refine (Hc.out _).mono ?_;rintro e w2 ⟨rfl,rfl⟩
     go_wp2_with fail
     refine (He.out _).mono ?_;rintro e w2 ⟨rfl,rfl⟩
     go_wp2
     go_roundw
     case rel=>exact ⟨k+1,by omega,by go_num,by rw [HE.out,<- HO.out],Hf,Ha⟩
     case measure=>simp [intOf];omega
    ·have HE:Hid (aM (a8 l) F L (k+1)=aM (a8 l) F L k):=Hh.out (by omega);have h3:L - cnt (aM (a8 l) F L k)<(cnt s:Int):=by omega
     rw [e1] at HI;clear h1 e1 h2;refine (HI.out w1).mono ?_;rintro e w2 ⟨rfl,rfl⟩
     go_wp2_with fail
     refine (Hc.out _).mono ?_;rintro e w2 ⟨rfl,rfl⟩
     go_wp2_with fail
     refine (He.out _).mono ?_;rintro e w2 ⟨rfl,rfl⟩
     go_wp2
     go_roundw
     case rel=>exact ⟨k+1,by omega,by go_num,by rw [HE.out],Hf,Ha⟩
     case measure=>simp [intOf];omega
   ·have e1:decide (s &&& F=s)=false:=Q7 h1;have HE:Hid (aM (a8 l) F L (k+1)=aM (a8 l) F L k):=Hk.out h1;rw [e1] at HI;clear h1 e1;refine (HI.out w1).mono ?_;rintro e w2 ⟨rfl,rfl⟩
    go_wp2
    go_roundw
    case rel=>exact ⟨k+1,by omega,by go_num,by rw [HE.out],Hf,Ha⟩
    case measure=>simp [intOf];omega
  ·have Hb:k=64:=by omega
   subst Hb;clear hk hlt
   go_wp2
   go_ret;exact ⟨rfl,hB⟩
end
end Go.Proofs.YtbmmnflgnmjboaaGreatDoor
namespace Go.Proofs
open Go.Shelf
shelf_lay_g SlLaysF.n6 Slsf 6 at Tryz 252 as Tryz.sortL
shelf_lay_g SlLaysC2.n5 Slgc 5 at Tryz 148 as Tryz.cmpL
end Go.Proofs
namespace Go.Proofs.YtbmmnflgnmjboaaGreatDoor
section
open RowKit
open Ost (Cpu ad ae cnt dif less order)
open Go.Sort
def cM (w w':World):Prop:=∃ q os,w'=grow (w.drewN q) os
theorem cM.refl (w:World):cM w w:=⟨0,#[],by rw [grow_empty];rfl⟩
theorem cM.alloc {w w':World} (h:cM w w') (o:Obj):cM w (w'.alloc o):=by
 obtain ⟨q,os,rfl⟩:=h;exact ⟨q,os++#[o],by rw [alloc_eq_grow,grow_grow]⟩
theorem cM.drewN {w w':World} (h:cM w w') (n:Nat):cM w (w'.drewN n):=by
 obtain ⟨q,os,rfl⟩:=h;exact ⟨q+n,os,by simp only [World.drewN,grow,Nat.add_assoc]⟩
theorem cM.trans {a b c:World} (h:cM a b) (k:cM b c):cM a c:=by
 obtain ⟨q,os,rfl⟩:=h;obtain ⟨q',os',rfl⟩:=k;exact ⟨q+q',os++os',by simp only [World.drewN,grow,Nat.add_assoc,Array.append_assoc]⟩
theorem cM.below {w w':World} (h:cM w w'):Below w.heap.size w w':=by
 obtain ⟨q,os,rfl⟩:=h;exact ⟨rfl,rfl,rfl,by simp [World.drewN],λk hk=>by simp [grow,World.drewN,Array.getElem?_append,hk]⟩
theorem DR (w:World) (K blk off m:Nat) (dk:Array Nat) (os:Array Obj) (hK:K<=blk) (hw:K<=w.heap.size):Below K w (sortWorld (λn:Nat=>Value.int .i64 (n:Int)) w blk off m dk os):=by
 refine ⟨rfl,rfl,rfl,?_,λk hk=>?_⟩
 ·simp [sortWorld,grow,Sort.putRow,Sort.mapBlock,Sort.ahead]
 ·have h1:k<w.heap.size:=by omega
  have h2:blk≠k:=by omega
  simp [sortWorld,grow,Sort.putRow,Sort.mapBlock,Sort.ahead,Array.getElem?_append,Array.getElem_modify,h1,h2]
theorem DS (n:Nat) (tb b o c:Nat) (l:List Cpu) (w:World) (ht:ba w tb b o c l) :
  Calls prog 250 #[.pointer (some ⟨tb,0,none⟩),.int .i64 n] w λe w'=>(∃ err,e=.returned (.tuple #[.agg #[.int .i64 (l.getD n ad).core,.int .i64 (l.getD n ad).sock,.int .i64 (l.getD n ad).node],err]))/\cM w w':=by
 have Ha:=((Q0 w.heap.size w).alloc (lR) (.cells #[.int .i64 0,.int .i64 0,.int .i64 0] 84));have hT:=(ht.below Ha).cell;have hl:=ht.len
 by_cases hn:n<l.length
 ·obtain ⟨Hb,He,Hc⟩:=(ht.below Ha).cells n hn;clear ht Ha;generalize l.getD n ad=x at *
  go_enter func250,ntmps250
  go_wp2_with fail
  (try simp only [Exit.inBlock,Exit.then]);refine bodyPost_ret (v:=.tuple #[.agg #[.int .i64 x.core,.int .i64 x.sock,.int .i64 x.node],.nilIface]) ?_ rfl ⟨⟨_,rfl⟩,?_⟩
  ·rw [results_cell_tmp rfl];go_simp
  ·exact (cM.refl w).alloc _
 ·have hx:l.getD n ad=ad:=by simp [show l.length<=n by omega]
  rw [hx];clear ht Ha hx;have h2:(l.length:Int)<=n:=by omega
  clear hn
  go_enter func250,ntmps250
  go_wp2_with fail
  (try simp only [Exit.inBlock,Exit.then]);refine bodyPost_ret (v:=.tuple #[.agg #[.int .i64 0,.int .i64 0,.int .i64 0],.iface 121 (.int .i64 1)]) ?_ rfl ⟨⟨_,rfl⟩,?_⟩
  ·rw [results_cell_tmp rfl];go_simp
  ·exact (cM.refl w).alloc _
structure fT (w:World) (tc lc fc tb b o c mb n:Nat) (l:List Cpu) (f:Int->Int):Prop where
 t:w.cell? ⟨tc,0,none⟩=some (.pointer (some ⟨tb,0,none⟩))
 m:w.cell? ⟨lc,0,none⟩=some (.map (some mb))
 fn:w.cell? ⟨fc,0,none⟩=some (.func (.func 249) #[] #[.pointer (some ⟨tc,0,none⟩),.pointer (some ⟨lc,0,none⟩)])
 topo:ba w tb b o c l
 left:ed w mb n f
theorem fT.below {w w':World} {tc lc fc tb b o c mb n K:Nat} {l:List Cpu} {f:Int->Int} (h:fT w tc lc fc tb b o c mb n l f) (hb:Below K w w') (hK:tc<K/\lc<K/\fc<K/\tb<K/\b<K/\mb<K):fT w' tc lc fc tb b o c mb n l f:=by
 obtain ⟨h1,h2,h3,h4,h5,h6⟩:=hK;exact ⟨(hb.cell (p:=⟨tc,0,none⟩) h1).trans h.t,(hb.cell (p:=⟨lc,0,none⟩) h2).trans h.m,(hb.cell (p:=⟨fc,0,none⟩) h3).trans h.fn,
  ⟨(hb.cell (p:=⟨tb,0,none⟩) h4).trans h.topo.cell,λk hk=>by
   obtain ⟨a1,a2,a3⟩:=h.topo.cells k hk;exact ⟨(hb.cell (p:=⟨b,o+k*3,none⟩) h5).trans a1,(hb.cell (p:=⟨b,o+k*3+1,none⟩) h5).trans a2,(hb.cell (p:=⟨b,o+k*3+2,none⟩) h5).trans a3⟩,Q1 h.topo.lt hb.size,h.topo.len⟩,
  h.left.below hb h6⟩
theorem fT.lts {w:World} {tc lc fc tb b o c mb n:Nat} {l:List Cpu} {f:Int->Int} (h:fT w tc lc fc tb b o c mb n l f):tc<w.heap.size/\lc<w.heap.size/\fc<w.heap.size/\tb<w.heap.size/\b<w.heap.size/\mb<w.heap.size:=
 ⟨Q3 w _ h.t,Q3 w _ h.m,Q3 w _ h.fn,h.topo.tlt,h.topo.lt,h.left.lt⟩
theorem uX {l:List Cpu} (hg:Good l) (n:Nat):0<=(l.getD n ad).core/\(l.getD n ad).core<64:=by
 by_cases hn:n<l.length
 ·have:=hg (l.getD n ad) (by simp [hn])
  omega
 ·have hx:l.getD n ad=ad:=by simp [show l.length<=n by omega]
  rw [hx];decide
theorem uY (k:Nat) (tc lc fc tb b o c mb n:Nat) (l:List Cpu) (f:Int->Int) (w:World) (h:fT w tc lc fc tb b o c mb n l f) (hg:Good l) :
  Calls prog 249 #[.int .i64 k,.pointer (some ⟨tc,0,none⟩),.pointer (some ⟨lc,0,none⟩)] w λe w'=>e=.returned (.int .i64 (f (l.getD k ad).core))/\cM w w':=by
 have HO:=qI (DS k tb b o c l w h.topo);have HS:=qI h;have HL:=qI h.lts;have ht:=h.t;obtain ⟨h0,Hc⟩:=uX hg k;clear h hg;generalize l.getD k ad=x at *
 go_enter func249,ntmps249
 go_wp2_with fail
 refine HO.out.mono ?_;rintro e w1 ⟨⟨err,rfl⟩,Ha⟩;have Hb:=qI (HS.out.below Ha.below HL.out);have hm:=eK Hb.out.m (.cells #[.int .i64 x.core,.int .i64 x.sock,.int .i64 x.node] 84);have hM:=Hb.out.left.alloc (.cells #[.int .i64 x.core,.int .i64 x.sock,.int .i64 x.node] 84);clear HO ht
 go_wp2_with (at_lookup;refine DO _ rfl _ _ rfl mb n f x.core h0 Hc rfl rfl hM ?_)
 go_ret;exact ⟨rfl,Ha.alloc _⟩
end
section
open RowKit
open Ost (Cpu ad less)
theorem DT (g c:Nat) (x y:Int) (w:World) (h0:w.cell? ⟨g,0,none⟩=some (.int .i64 x)) (h1:w.cell? ⟨g,1,none⟩=some (.int .i64 y)) :
  Calls prog 76 #[.slice (some ⟨g,0,none⟩) 2 c] w λe w'=>e=.returned (.int .i64 (if x=0 then y else x))/\w'=w:=by
 by_cases hx:x=0
 ·rw [if_pos hx];subst hx
  by_cases hy:y=0
  ·subst hy
   go_enter func76,ntmps76
   go_wp2_with fail
   refine wp_loop_rounds 3 ?_;rw [rounds_succ]
   go_wp2_with fail
   rw [rounds_succ]
   go_wp2_with fail
   rw [rounds_succ]
   go_wp2
   go_ret;exact ⟨rfl,rfl⟩
  ·have q:(y != 0)=true:=by rw [bne_iff_ne];exact hy
   clear hy
   go_enter func76,ntmps76
   go_wp2_with fail
   refine wp_loop_rounds 2 ?_;rw [rounds_succ]
   go_wp2_with fail
   rw [rounds_succ]
   go_wp2
   go_ret;exact ⟨rfl,rfl⟩
 ·rw [if_neg hx];have q:(x != 0)=true:=by rw [bne_iff_ne];exact hx
  clear hx
  go_enter func76,ntmps76
  go_wp2_with fail
  refine wp_loop_rounds 1 ?_;rw [rounds_succ]
  go_wp2
  go_ret;exact ⟨rfl,rfl⟩
def gE (cl:Nat->Nat) (x y:Nat):Int:=if Lib.compareInt (cl x) (cl y)=0 then Lib.compareInt x y else Lib.compareInt (cl x) (cl y)
theorem uZ (x y:Int) (w:World):Calls prog 148 #[.int .i64 x,.int .i64 y] w λe w'=>e=.returned (.int .i64 (Lib.compareInt x y))/\w'=w:=AnyG.cmp_Compare_int Tryz.cmpL x y w
theorem DU (x y:Nat) (tc lc fc tb b o c mb n:Nat) (l:List Cpu) (f:Int->Int) (cl:Nat->Nat) (w:World) (h:fT w tc lc fc tb b o c mb n l f) (hg:Good l) (hf:∀ k,f (l.getD k ad).core=(cl k:Nat)) :
  Calls prog 253 #[.int .i64 x,.int .i64 y,.pointer (some ⟨fc,0,none⟩)] w λe w'=>e=.returned (.int .i64 (gE cl x y))/\cM w w':=by
 have HS:=qI h;have HL:=qI h.lts;have Ha:cM w w.drew:=(cM.refl w).drewN 1;have Hg:Hid (∀ W,fT W tc lc fc tb b o c mb n l f->Calls prog 249 #[.int .i64 x,.pointer (some ⟨tc,0,none⟩),.pointer (some ⟨lc,0,none⟩)] W λe w'=>e=.returned (.int .i64 (cl x:Nat))/\cM W w'):=λW hW=>by
  rw [<- hf x];exact uY x tc lc fc tb b o c mb n l f W hW hg
 have Hh:Hid (∀ W,fT W tc lc fc tb b o c mb n l f->Calls prog 249 #[.int .i64 y,.pointer (some ⟨tc,0,none⟩),.pointer (some ⟨lc,0,none⟩)] W λe w'=>e=.returned (.int .i64 (cl y:Nat))/\cM W w'):=λW hW=>by
  rw [<- hf y];exact uY y tc lc fc tb b o c mb n l f W hW hg
 have HE:Hid (gE cl x y=if Lib.compareInt (cl x) (cl y)=0 then Lib.compareInt x y else Lib.compareInt (cl x) (cl y)):=rfl;have Hi:=qI λW=>uZ (cl x) (cl y) W;have Hj:=qI λW=>uZ x y W;have Hf:=qI λg c W h0 h1=>DT g c (Lib.compareInt (cl x) (cl y)) (Lib.compareInt x y) W h0 h1;rw [<- HE.out] at Hf;generalize gE cl x y=r at *;generalize cl x=cx at *;generalize cl y=cy at *;generalize Lib.compareInt (cx:Int) (cy:Int)=d1 at *;generalize Lib.compareInt (x:Int) (y:Int)=d2 at *;clear HE h hf
 go_enter func253,ntmps253
 go_wp2_with fail
 refine wp_region_held_drew (S:=(λw'=>w'.cell? ⟨fc,0,none⟩=some (.func (.func 249) #[] #[.pointer (some ⟨tc,0,none⟩),.pointer (some ⟨lc,0,none⟩)])/\Hid (fT w' tc lc fc tb b o c mb n l f))) (by kernel_rfl) ⟨(HS.out.below Ha.below HL.out).fn,HS.out.below Ha.below HL.out⟩ λhQ=>?_;refine tk 0 ?_;refine tk 1 ?_;refine tk 3 ?_;refine tk 4 ?_;refine tk 7 ?_;refine tk 8 ?_;refine rd 2 λK hK=>?_;go_simp
 go_wp2_with fail
 refine (Hg.out _ hQ.2.out).mono ?_;rintro e w1 ⟨rfl,hg⟩;have He:=Ha.trans hg;clear hg
 go_wp2
 refine hK.out _ _ ⟨(HS.out.below He.below HL.out).fn,HS.out.below He.below HL.out⟩ λhQ=>?_;clear hK K;refine rd 5 λK hK=>?_;go_simp
 go_wp2_with fail
 refine (Hh.out _ hQ.2.out).mono ?_;rintro e w2 ⟨rfl,hg⟩;have Hc:=He.trans hg;clear hg
 go_wp2
 refine hK.out _ _ ⟨(HS.out.below Hc.below HL.out).fn,HS.out.below Hc.below HL.out⟩ λhQ=>?_;clear hK K;refine rd 6 λK hK=>?_;go_simp
 go_wp2_with fail
 refine (Hi.out _).mono ?_;rintro e w3 ⟨rfl,rfl⟩
 go_wp2
 refine hK.out _ _ hQ λhQ=>?_;clear hK K;refine rd 9 λK hK=>?_;go_simp
 go_wp2_with fail
 refine (Hj.out _).mono ?_;rintro e w4 ⟨rfl,rfl⟩
 go_wp2
 refine hK.out _ _ hQ λhQ=>?_;clear hK K;refine rd 10 λK hK=>?_;go_simp;have Hb:=Hc.alloc (.cells #[.int .i64 d1,.int .i64 d2] 3);have c0:(w4.alloc (.cells #[.int .i64 d1,.int .i64 d2] 3)).cell? ⟨w4.heap.size,0,none⟩=some (.int .i64 d1):=by simp
 have c1:(w4.alloc (.cells #[.int .i64 d1,.int .i64 d2] 3)).cell? ⟨w4.heap.size,1,none⟩=some (.int .i64 d2):=by simp
 refine hK.out _ _ ⟨(HS.out.below Hb.below HL.out).fn,HS.out.below Hb.below HL.out⟩ λhQ=>?_;clear hK K;refine rd 11 λK hK=>?_;go_simp
 go_wp2_with fail
 refine (Hf.out _ _ _ c0 c1).mono ?_;rintro e w5 ⟨rfl,rfl⟩
 go_wp2
 refine hK.out _ _ hQ λhQ=>?_;clear hK K;refine tk 12 ?_;refine Qn (by kernel_rfl) ?_ _
 go_wp2
 go_ret;exact ⟨rfl,Hb⟩
end
section
open RowKit
open Go.Sort
open Ost (Cpu ad less order)
theorem mg (cl:Nat->Nat) (x y:Nat):ltOf (gE cl) x y=less cl x y:=by
 unfold ltOf gE Lib.compareInt less;rw [Bool.eq_iff_iff]
 by_cases h1:(cl x:Int)<cl y
 ·have h3:cl x<cl y:=by omega
  simp [h3]
 ·by_cases h2:(cl y:Int)<cl x
  ·have h3:¬ cl x<cl y:=by omega
   have h4:¬ cl x=cl y:=by omega
   have h5:cl y<cl x:=by omega
   simp [h3,h4,h5]
  ·have h3:cl x=cl y:=by omega
   by_cases h4:x<y
   ·simp [h3,h4]
   ·by_cases h5:y<x
    ·simp [h3,h4,h5]
    ·simp [h3,h4,h5]
theorem DV (cl:Nat->Nat):SWO (ltOf (gE cl)) where
 irrefl x:=by rw [mg];simp [less]
 trans x y z h1 h2:=by rw [mg] at *;simp [less] at *;omega
 ntrans x y z h1 h2:=by rw [mg] at *;simp [less] at *;omega
theorem DW (cl:Nat->Nat) (x y:Nat) (h1:ltOf (gE cl) x y=false) (h2:ltOf (gE cl) y x=false):x=y:=by
 rw [mg] at h1 h2;exact Ost.DD h1 h2
def DX (w:World) (v:Value) (L:List Nat):Prop:=
 (L=[]/\v=.slice none 0 0)\/∃ g c,v=.slice (some ⟨g,0,none⟩) L.length c/\L.length<=c/\∀ k,k<L.length->w.cell? ⟨g,k,none⟩=some (.int .i64 ((L.getD k 0:Nat):Int))
def jt (n:Nat):Value:=Value.int .i64 (n:Int)
theorem vd (w:World) (K blk off m:Nat) (dk:Array Nat) (os:Array Obj) (hK:K<=blk) (hw:K<=w.heap.size):Below K w (sortWorld jt w blk off m dk os):=DR w K blk off m dk os hK hw
theorem DY {w:World} {g:Nat} {cur:Array Value} {e:TypeId} {L:List Nat} (hg:w.heap[g]?=some (.cells cur e (0,0))) (ht:cur.toList.take (L.length*1)=nums L):Holds jt w g 0 L.toArray:=by
 intro j hj;have Ha:j<L.length:=by simpa using hj
 have hc:cur[j]?=some (.int .i64 ((L.getD j 0:Nat):Int)):=by
  have h1:(cur.toList.take (L.length*1))[j]?=some (.int .i64 ((L.getD j 0:Nat):Int)):=by
   rw [ht];simp [nums,Ha]
  rw [List.getElem?_take] at h1;rw [if_pos (by omega)] at h1
  simpa using h1
 have hd:L.toArray[j]! = L.getD j 0:=by simp [Ha]
 refine ⟨?_,?_⟩
 ·rw [hd];unfold World.cell?;rw [hg];simp [hc,jt]
 ·unfold World.frozen?;rw [hg];simp
theorem DZ (v:Value) (A K:Nat) (tc lc fc tb b o c mb n:Nat) (l:List Cpu) (f:Int->Int) (cl:Nat->Nat) (w:World) (hrow:w.ownsRow K 3 1 v (Ost.aI A 64).length (nums (Ost.aI A 64))) (hw:K<=w.heap.size)
  (h:fT w tc lc fc tb b o c mb n l f) (hK:tc<K/\lc<K/\fc<K/\tb<K/\b<K/\mb<K) (hg:Good l) (hf:∀ k,f (l.getD k ad).core=(cl k:Nat)) :
  Calls prog 252 #[v,.func (.func 253) #[] #[.pointer (some ⟨fc,0,none⟩)]] w λe w'=>e=.returned (.tuple #[])/\DX w' v (order cl A)/\Below K w w':=by
 rcases hrow.2 with ⟨rfl,Hl⟩|⟨g,cap,cur,rfl,Hg,Hf,Hi,_,_,Hj⟩
 ·have hL:order cl A=[]:=by
   have:=Ost.oe cl A
   unfold Ost.cnt at this;exact List.length_eq_zero_iff.1 (by omega)
  have hS:=AnyF.slices_SortFunc_none (P:=prog) (ρ:=Tryz.sortL_ren) { Tryz.sortL with } none 0 (.func (.func 253) #[] #[.pointer (some ⟨fc,0,none⟩)]) w
  change Calls prog 252 _ _ _ at hS
  exact hS.mono λe w' ⟨he,hw'⟩=>⟨he,.inl ⟨hL,rfl⟩,by rw [hw'];exact Q0 _ _⟩
 ·have hH:Holds jt w g 0 (Ost.aI A 64).toArray:=DY Hf Hj;have Ha:g<w.heap.size:=by
   rcases Nat.lt_or_ge g w.heap.size with Hh|Hk
   ·exact Hh
   ·rw [Array.getElem?_eq_none Hk] at Hf;cases Hf
  have eg:∀ args w,(callFunc 253 args).run prog w=.ok (.enter 253 args) w:=enters_of func253 (by kernel_rfl) rfl;have Hc:CmpLays1 prog 253 #[.pointer (some ⟨fc,0,none⟩)] jt (gE cl) g 0 (Ost.aI A 64).toArray.size w:=λm os dk _ x y=>
   DU x y tc lc fc tb b o c mb n l f cl _ (h.below (vd w K g 0 m dk os Hg hw) hK) hg hf
  have Hm:=kJ A 64;have hS:=Any.slices_SortFunc_total Tryz.sortL jt (λ_=>rfl) (gE cl) (DV cl) 253 #[.pointer (some ⟨fc,0,none⟩)] g 0 cap (Ost.aI A 64).toArray w eg Hc hH Ha (by simp;omega) (DW cl)
  change Calls prog 252 _ _ _ at hS
  have He:(λx y:Nat=>!ltOf (gE cl) y x)=λx y=>!less cl y x:=by funext x y;rw [mg]
  rw [He] at hS;have hz:(Ost.aI A 64).toArray.size=(Ost.aI A 64).length:=by simp
  rw [hz] at hS;refine hS.mono λe w' ⟨he,q,os,hw'⟩=>⟨he,?_,?_⟩
  ·have Hb:(order cl A).length=(Ost.aI A 64).length:=Ost.oe cl A;have hh:=holds_sortWorld jt w g 0 q (Ost.aI A 64).toArray (order cl A).toArray os Ha hH (by simp [Hb]);have e2:((Ost.aI A 64).toArray.toList.mergeSort λx y=>!less cl y x).toArray=(order cl A).toArray:=rfl;rw [e2] at hw';refine .inr ⟨g,cap,by rw [Hb],by omega,λk hk=>?_⟩
   have:=(hh k (by simpa using hk)).1
   rw [hw',<- Qd k,this]
   simp [jt,hk]
  ·rw [hw'];exact vd w K g 0 q _ os Hg hw
end
section
open RowKit Go.ChangeMaps
open Go.Maps (Keyed int_keyed keyOf_int_mk)
open Ost (Cpu ad ae cnt dif dN a8 order)
def bM (l:List Cpu) (F k:Nat) (j:Int):Int:=if 0<=j/\j<k then (cnt (a8 l j.toNat &&& F):Nat) else 0
theorem D0 (l:List Cpu) (F:Nat):bM l F 0=λ_=>0:=by
 funext j;unfold bM;rw [if_neg (by omega)]
theorem D1 (l:List Cpu) (F k:Nat):(λj=>if (k:Int)=j then ((cnt (a8 l k &&& F):Nat):Int) else bM l F k j)=bM l F (k+1):=by
 funext j
 unfold bM
 by_cases h:(k:Int)=j
 ·rw [if_pos h,if_pos (by omega),<- h];simp
 ·rw [if_neg h]
  by_cases h2:0<=j/\j<k
  ·rw [if_pos h2,if_pos (by omega)]
  ·rw [if_neg h2,if_neg (by omega)]
theorem D2 {l:List Cpu} (hg:Good l) (F n:Nat):bM l F 64 (l.getD n ad).core=(Ost.leftOf l F n:Nat):=by
 obtain ⟨h0,Ha⟩:=uX hg n;unfold bM;rw [if_pos ⟨h0,by omega⟩]
 have:a8 l (l.getD n ad).core.toNat=ae (λx=>x.core == (l.getD n ad).core) l:=by
  unfold a8 Ost.at';rw [Int.toNat_of_nonneg h0]
 rw [this];rfl
theorem D3 {o:Oper} {a:Act} {N:Act->World->Prop} {Q:Exit->Act->World->Prop} (w:World) (m x v:Operand) (hop:o.op=Op.mapUpdate 349 m x v)
  (B n:Nat) (f:Int->Int) (k:Int) (h0:0<=k) (h64:k<64) (y:Nat) (hy:y<=64) (hm:a.eval m=.map (some B)) (hx:a.eval x=.int .i64 k) (hv:a.eval v=.int .i64 y) (hM:ed w B n f) (hn:n<maxLen)
  (hK:∀ w',ed w' B (n+1) (λj=>if k=j then y else f j)->w.grownBy w' (some B)->N (a.put o.dst undef) w') :
  o.wp prog a w N Q:=by
 obtain ⟨D,ho,hk⟩:=hM;obtain ⟨w',Ha,r1,r2⟩:=ho.update (e:=3) nL underlying349 hn (keyOf_int_mk underlying3 (nM h0 h64)) (plainElem_int underlying3 (WalkArith.wf_i64 (n:=(y:Int)) (by omega)));unfold Oper.wp
 simp [execOp,hop,hm,hx,hv,Ha,Result.andThen]
 refine hK w' ⟨_,r1,λj j0 j64=>?_⟩ r2
 by_cases e:k=j
 ·subst e;have Hb:WideAt.IsKeyLit (Lit.int .i64 k):=trivial;rw [Maps.atKey_put_same ho.isMap Hb]
  simp
 ·have Hc:(Lit.int .i64 j)≠(Lit.int .i64 k):=by simp;omega
  rw [Maps.atKey_put_other Hc];simp only [if_neg e];exact hk j j0 j64
structure eO (wr w:World) (tb b o c:Nat) (l:List Cpu) (F k:Nat):Prop where
 t:wr.cell? ⟨w.heap.size,0,none⟩=some (.pointer (some ⟨tb,0,none⟩))
 m:wr.cell? ⟨w.heap.size+1+1,0,none⟩=some (.map (some (w.heap.size+1)))
 topo0:ba w tb b o c l
 left:ed wr (w.heap.size+1) k (bM l F k)
 bel:Below w.heap.size w wr
theorem eO.below {wr wr' w:World} {tb b o c:Nat} {l:List Cpu} {F k:Nat} (h:eO wr w tb b o c l F k) (hb:Below wr.heap.size wr wr'):eO wr' w tb b o c l F k:=
 ⟨(hb.cell (p:=⟨w.heap.size,0,none⟩) (Q3 wr _ h.t)).trans h.t,(hb.cell (p:=⟨w.heap.size+1+1,0,none⟩) (Q3 wr _ h.m)).trans h.m,h.topo0,h.left.below hb h.left.lt,h.bel.trans (hb.mono h.bel.size)⟩
theorem eO.topo {wr w:World} {tb b o c:Nat} {l:List Cpu} {F k:Nat} (h:eO wr w tb b o c l F k):ba wr tb b o c l:=h.topo0.below h.bel
theorem eO.put {wr wr' w:World} {tb b o c:Nat} {l:List Cpu} {F k:Nat} (h:eO wr w tb b o c l F k) (hm:ed wr' (w.heap.size+1) (k+1) (bM l F (k+1))) (hgr:wr.grownBy wr' (some (w.heap.size+1))):eO wr' w tb b o c l F (k+1):=
 ⟨hgr.cell h.t (by simp),hgr.cell h.m (by simp),h.topo0,hm,h.bel.grown hgr h.bel.size (λj hj=>by cases hj;omega)⟩
theorem eO.drew {wr w:World} {tb b o c:Nat} {l:List Cpu} {F k:Nat} (h:eO wr w tb b o c l F k):eO wr.drew w tb b o c l F k:=h.below (below_drewN (Q0 _ _) 1)
abbrev qD:=λ(x0:World)=>(.cells #[.func (.func 249) #[] #[.pointer (some ⟨x0.heap.size,0,none⟩),.pointer (some ⟨x0.heap.size+1+1,0,none⟩)]] 253:Obj)
theorem eO.stand {wr w:World} {tb b o c:Nat} {l:List Cpu} {F:Nat} (h:eO wr w tb b o c l F 64):fT (wr.alloc (qD w)) w.heap.size (w.heap.size+1+1) wr.heap.size tb b o c (w.heap.size+1) 64 l (bM l F 64):=
 ⟨eK h.t _,eK h.m _,by simp,h.topo.below ((Q0 _ _).alloc (lR) _),h.left.alloc _⟩
theorem D4 {w:World} {tb b o c:Nat} {l:List Cpu} (ht:ba w tb b o c l) (F:Nat):eO (((w.alloc (.cells #[.pointer (some ⟨tb,0,none⟩)] 93)).alloc (.map #[] 0)).alloc (.cells #[.map (some (w.heap.size+1))] 349)) w tb b o c l F 0:=by
 have hB:=(((Q0 w.heap.size w).alloc (lR) (.cells #[.pointer (some ⟨tb,0,none⟩)] 93)).alloc (by simp) (.map #[] 0)).alloc (by simp;omega) (.cells #[.map (some (w.heap.size+1))] 349);have hM:=(ed.made (w.alloc (.cells #[.pointer (some ⟨tb,0,none⟩)] 93))).alloc (.cells #[.map (some (w.heap.size+1))] 349);have e:(w.alloc (.cells #[.pointer (some ⟨tb,0,none⟩)] 93)).heap.size=w.heap.size+1:=by simp
 rw [e,<- D0 l F] at hM;exact ⟨by go_simp,by go_simp,ht,hM,hB⟩
theorem D5 (tb b o c F:Nat) (L:Int) (l:List Cpu) (w:World) (ht:ba w tb b o c l) (hg:Good l) (hF:F<18446744073709551616) (h0:0<=L) (hL:L<=64) :
  Calls prog 207 #[.pointer (some ⟨tb,0,none⟩),.int .u64 F,.int .i64 L] w λe w'=>e=.returned (.int .u64 (dN (Ost.leftOf l F) F L.toNat:Nat))/\Below w.heap.size w w':=by
 have HN:=@run_makeMap prog;have HB:=ht.len;have HG:=qI hg;have Ht:=qI (D4 ht F);clear ht hg
 go_enter func207,ntmps207
 go_wp2
 go_loopw [15] (λi wr=>∃ k:Nat,k<=64/\i=.int .i64 k/\Hid (eO wr w tb b o c l F k)) (λi _=>64 - (intOf i).toNat)
 case atStart=>exact ⟨0,by omega,rfl,Ht.out⟩
 case round=>
  clear Ht;obtain ⟨k,hk,hi,Hg⟩:=hrel
  by_cases hlt:k<64
  ·subst hi;have HJ:Hid (∀ W,ba W tb b o c l->Calls prog 206 #[.pointer (some ⟨tb,0,none⟩),.int .i64 k] W λe w'=>e=.returned (.int .u64 (a8 l k:Nat))/\Below W.heap.size W w'):=λW hW=>tH tb b o c l k W hW
   have Hm:=Ost.qA (·.core) HB k
   change a8 l k<_ at Hm
   have HD:Hid (∀ W,Calls prog 17 #[.int .u64 (bits BinOp.and IntKind.u64 (a8 l k:Nat) (F:Nat))] W λe w'=>e=.returned (.int .i64 (cnt (a8 l k &&& F):Nat))/\w'=W):=λW=>by
    rw [bits_and_u64_nat _ _ Hm hF];exact fO _ W (Ost.sub_lt Hm (Ost.om _ F))
   have HC:cnt (a8 l k &&& F)<=64:=kJ _ 64;have HA:=qI (D1 l F k);generalize hcc:cnt (a8 l k &&& F)=cc at *;clear hcc;generalize a8 l k=ck at *;have Hi:=Hg.out.drew
   go_wp2_with fail
   refine wp_region_held_drew (S:=(λw'=>w'.cell? ⟨w.heap.size+1+1,0,none⟩=some (.map (some (w.heap.size+1)))/\w'.cell? ⟨w.heap.size,0,none⟩=some (.pointer (some ⟨tb,0,none⟩)))) (by kernel_rfl) ⟨Hi.m,Hi.t⟩ λhQ=>?_;refine tk 0 ?_;refine tk 1 ?_;refine tk 2 ?_;refine tk 3 ?_;refine tk 5 ?_;refine rd 4 λK hK=>?_;go_simp
   go_wp2_with fail
   refine (HJ.out _ Hi.topo).mono ?_;rintro e w1 ⟨rfl,hb⟩;have Hk:=Hi.below hb;clear hb
   go_wp2
   refine hK.out _ _ ⟨Hk.m,Hk.t⟩ λhQ=>?_;clear hK K;refine tk 6 ?_;refine rd 7 λK hK=>?_;go_simp
   go_wp2_with fail
   refine (HD.out _).mono ?_;rintro e w2 ⟨rfl,rfl⟩
   go_wp2
   refine hK.out _ _ hQ λhQ=>?_;clear hK K;refine rd 8 λK hK=>?_;rw [if_pos (by rfl)];refine D3 _ _ _ _ rfl (w.heap.size+1) k (bM l F k) k (by omega) (by omega) cc HC rfl rfl rfl Hk.left (by unfold maxLen;omega) ?_;intro w3 Hn He;rw [HA.out] at Hn;have Hr:=qI (Hk.put Hn He);clear Hn He;refine hK.out _ _ ⟨Hr.out.m,Hr.out.t⟩ λhQ=>?_;clear hK K;refine Qn (by kernel_rfl) ?_ _
   go_wp2
   go_roundw
   case rel=>exact ⟨k+1,by omega,by go_num,Hr⟩
   case measure=>simp [intOf];omega
  ·have Ho:k=64:=by omega
   subst Ho;have HH:_=Value.int .i64 64:=hi;clear hk hlt hi;subst HH;have HS:=qI Hg.out.stand;have Hw:=Hg.out.bel.alloc Hg.out.bel.size (qD w);have Hl:=qI Hw;clear Hw
   go_wp2_with fail
   generalize wr.alloc (qD w)=W4 at *;refine (DM F W4 hF).mono ?_;rintro e w5 ⟨v,rfl,Hc,Hj⟩;have Hb:=qI (DZ v F W4.heap.size w.heap.size (w.heap.size+1+1) wr.heap.size tb b o c (w.heap.size+1) 64 l (bM l F 64) (Ost.leftOf l F) w5 Hc Hj.size (HS.out.below Hj HS.out.lts) HS.out.lts HG.out (D2 HG.out F));have Hu:=qI (Hl.out.trans (Hj.mono Hl.out.size));clear Hc Hj HS
   go_wp2_with fail
   refine Hb.out.mono ?_;rintro e w6 ⟨rfl,Hf,Hv⟩;have Hs:=qI (Hu.out.trans (Hv.mono Hl.out.size));clear Hv Hb Hu Hl Hg;have HF:(order (Ost.leftOf l F) F).length<=64:=by rw [Ost.oe];exact kJ F 64
   have Hp:Hid (dN (Ost.leftOf l F) F L.toNat=Ost.orB ((order (Ost.leftOf l F) F).take L.toNat)):=rfl;have Hz:Hid (∀ n∈order (Ost.leftOf l F) F,n<64):=λn hn=>(Ost.qy.1 hn).1
   generalize order (Ost.leftOf l F) F=R at *
   rcases Hf with ⟨rfl,rfl⟩|⟨g,cp,rfl,HL,Ha⟩
   ·have Hq:min L 0=0:=by omega
    have HR:Hid (dN (Ost.leftOf l F) F L.toNat=0):=by unfold Hid;rw [Hp.out];simp [Ost.orB]
    go_wp2_with fail
    refine wp_loop_rounds 1 ?_;rw [rounds_succ]
    go_wp2
    go_ret;exact ⟨by rw [HR.out];rfl,Hs.out⟩
   ·have HI:=qI Ha;clear Ha;obtain ⟨M,hM,Hq⟩:∃ M:Nat,M=min L.toNat R.length/\min L (R.length:Int)=(M:Int):=⟨min L.toNat R.length,rfl,by omega⟩;have HR:Hid (dN (Ost.leftOf l F) F L.toNat=Ost.orB (R.take M)):=by
     unfold Hid;rw [Hp.out]
     congr 1
     rw [List.take_eq_take_iff];omega
    have HM:M<=R.length:=by omega
    clear hM Hp
    go_wp2_with fail
    go_loop [11,40] (λt i=>∃ k:Nat,k<=M/\i=.int .i64 k/\t=.int .u64 (Ost.orB (R.take k):Nat)) (λ_ i=>M - (intOf i).toNat)
    case atStart=>exact ⟨0,by omega,rfl,rfl⟩
    case round=>
     obtain ⟨k,hk,rfl,rfl⟩:=hrel
     by_cases hlt:k<M
     ·have Hh:k<R.length:=by omega
      have Ha:=HI.out k Hh;have hz:=Hz.out (R.getD k 0) (by simp [Hh]);have Hx:R.take (k+1)=R.take k++[R.getD k 0]:=by
       rw [Qa Hh];simp [Hh]
      have HK:Ost.orB (R.take k)<18446744073709551616:=by
       apply Nat.lt_pow_two_of_testBit (n:=64);intro i hi;rw [Ost.qw];exact Q7 (λhm=>by have:=Hz.out i (List.mem_of_mem_take hm);omega)
      have HO:=qI (lS (Ost.orB (R.take k)) (R.getD k 0) HK hz);have HT:Hid (Ost.orB (R.take k) ||| 2 ^ (R.getD k 0)=Ost.orB (R.take (k+1))):=by unfold Hid;rw [Hx,Ost.qv]
      rw [HT.out] at HO;clear Hx HT;generalize R.getD k 0=z at *
      go_wp2_with fail
      go_round
      case rel=>exact ⟨k+1,by omega,by go_num,by rw [<- HO.out]⟩
      case measure=>simp [intOf];omega
     ·have Hy:k=M:=by omega
      have HE:Hid (Ost.orB (R.take k)=dN (Ost.leftOf l F) F L.toNat):=by unfold Hid;rw [HR.out,Hy]
      rw [HE.out];clear Hy HE
      go_wp2
      go_ret;exact ⟨rfl,Hs.out⟩
end
section
open RowKit
open Ost (Cpu ad ae cnt dif aM fS sockAt a8 eB eN bN dN aN)
theorem qE (a b:Nat) (ha:a<18446744073709551616) (hb:b<18446744073709551616):bits BinOp.or IntKind.u64 (a:Int) (b:Int)=((a ||| b:Nat):Int):=bits_or_u64_nat a b ha hb
theorem ve (tb b o c F:Nat) (L:Int) (l:List Cpu) (w:World) (ht:ba w tb b o c l) (hg:Good l) (hF:F<18446744073709551616) (h0:0<=L) (hL:L<=64) :
  Calls prog 165 #[.pointer (some ⟨tb,0,none⟩),.int .u64 F,.int .i64 L] w λe w'=>e=.returned (.int .u64 (bN l F L:Nat))/\Below w.heap.size w w':=by
 have HT:=qI ht;have Ht:=ht.len;have HG:=qI hg;clear ht hg;have Hu:∀ (fn:Fn) (first cap:Array Value) (w:World),(Instr.makeFunc fn first cap).run prog w=.ok (.func fn first cap) w:=λ_ _ _ _=>rfl
 have k1:=Ost.uT l F L h0;have s1:=Ost.sub_lt hF (Ost.uS l F L);have Hl:Hid (Calls prog 204 #[.func (.func 205) #[.pointer (some ⟨tb,0,none⟩)] #[],.int .u64 F,.int .i64 L] w λe w'=>e=.returned (.int .u64 (eB l F L:Nat))/\Below w.heap.size w w'):=DP tb b o c F L l w HT.out hF h0 hL;have He:Hid (eN l F L=eB l F L ||| fS (a8 l) (dif F (eB l F L)) (L - cnt (eB l F L))):=rfl;have Hh:Hid (bN l F L=eN l F L ||| dN (Ost.leftOf l (dif F (eN l F L))) (dif F (eN l F L)) (L - cnt (eN l F L)).toNat):=rfl;have k2:=Ost.uV l F L h0;have s2:=Ost.sub_lt hF (Ost.qB l F L);generalize bN l F L=s3 at *;generalize eN l F L=sb at *;generalize eB l F L=sa at *;have Hj:=qI (iI F sa hF s1);have d1:=Ost.gX (A:=F) sa hF;have Hn:Hid (∀ W,Calls prog 17 #[.int .u64 sa] W λe w'=>e=.returned (.int .i64 (cnt sa:Nat))/\w'=W):=λW=>fO sa W s1
 have Hi:=qI (iI F sb hF s2);have d2:=Ost.gX (A:=F) sb hF;have Ho:Hid (∀ W,Calls prog 17 #[.int .u64 sb] W λe w'=>e=.returned (.int .i64 (cnt sb:Nat))/\w'=W):=λW=>fO sb W s2
 have Hq:fS (a8 l) (dif F sa) (L - cnt sa)<18446744073709551616:=Ost.qt _ _ _ _ d1;have Hg:=qI (qE sa (fS (a8 l) (dif F sa) (L - cnt sa)) s1 Hq);have Hs:dN (Ost.leftOf l (dif F sb)) (dif F sb) (L - cnt sb).toNat<18446744073709551616:=Ost.sub_lt d2 (Ost.qz _ _ _);have Hf:=qI (qE sb (dN (Ost.leftOf l (dif F sb)) (dif F sb) (L - cnt sb).toNat) s2 Hs);rw [<- He.out] at Hg;rw [<- Hh.out] at Hf;clear He Hh;generalize cnt sa=ca at *;generalize cnt sb=cb at *;have Hr:Hid (∀ W,ba W tb b o c l->Calls prog 204 #[.func (.func 206) #[.pointer (some ⟨tb,0,none⟩)] #[],.int .u64 (dif F sa:Nat),.int .i64 (L - ca)] W λe w'=>e=.returned (.int .u64 (fS (a8 l) (dif F sa) (L - ca):Nat))/\Below W.heap.size W w'):=λW hW=>DQ tb b o c (dif F sa) (L - ca) l W hW d1 (by omega) (by omega)
 have Hm:Hid (∀ W,ba W tb b o c l->Calls prog 207 #[.pointer (some ⟨tb,0,none⟩),.int .u64 (dif F sb:Nat),.int .i64 (L - cb)] W λe w'=>e=.returned (.int .u64 (dN (Ost.leftOf l (dif F sb)) (dif F sb) (L - cb).toNat:Nat))/\Below W.heap.size W w'):=λW hW=>D5 tb b o c (dif F sb) (L - cb) l W hW HG.out d2 (by omega) (by omega)
 generalize fS (a8 l) (dif F sa) (L - ca)=ws at *;generalize dN (Ost.leftOf l (dif F sb)) (dif F sb) (L - cb).toNat=ss at *
 go_enter func165,ntmps165
 go_wp2_with fail
 refine Hl.out.mono ?_;rintro e w1 ⟨rfl,hb⟩;have Hc:=qI (HT.out.below hb);have Ha:=qI hb;clear HT hb Hl;have n1:=Hj.out
 go_wp2_with fail
 refine (Hn.out _).mono ?_;rintro e w2 ⟨rfl,rfl⟩
 go_wp2_with fail
 refine (Hr.out _ Hc.out).mono ?_;rintro e w3 ⟨rfl,hb⟩;have Hk:=qI (Hc.out.below hb);have Hb:=qI (Ha.out.trans (hb.mono Ha.out.size));clear Hc Ha hb n1 Hj;have n2:=Hi.out;have o1:=Hg.out
 go_wp2_with fail
 refine (Ho.out _).mono ?_;rintro e w2 ⟨rfl,rfl⟩
 go_wp2_with fail
 refine (Hm.out _ Hk.out).mono ?_;rintro e w4 ⟨rfl,hb⟩;have Hp:=qI (Hb.out.trans (hb.mono Hb.out.size));clear Hk Hb hb n2 Hi;have o2:=Hf.out
 go_wp2
 go_ret;exact ⟨rfl,Hp.out⟩
def iJ (r:Nat × Int):Value:=.tuple #[.int .u64 (r.1:Nat),au r.2]
theorem D6 (s:Nat):iJ (s,0)=.tuple #[.int .u64 s,.nilIface]:=rfl
theorem vi:iJ (0,1)=.tuple #[.int .u64 0,.iface 121 (.int .i64 1)]:=rfl
theorem D7:iJ (0,8)=.tuple #[.int .u64 0,.iface 121 (.int .i64 8)]:=rfl
theorem D8 (tb F on:Nat) (L:Int) (l:List Cpu) (w:World) (h:L<0\/64<L) :
  Calls prog 128 #[.pointer (some ⟨tb,0,none⟩),.int .u64 F,.int .i64 L,.int .u8 on] w λe w'=>e=.returned (iJ (aN l F L (ae (aT on) l)))/\Below w.heap.size w w':=by
 have HE:Hid (aN l F L (ae (aT on) l)=(0,1)):=by unfold Hid aN;rw [if_pos (by omega)]
 rw [HE.out,vi];have key:L<0\/(0<=L/\64<L):=by omega
 clear h HE
 rcases key with h|⟨h,h2⟩
 all_goals
  go_enter func128,ntmps128
  go_wp2
  go_ret2;exact ⟨rfl,Q0 _ _⟩
theorem D9 (tb b o c F on:Nat) (L:Int) (l:List Cpu) (w:World) (ht:ba w tb b o c l) (hF:F<18446744073709551616) (h0:0<=L) (hL:L<=64) (h:¬ F &&& ae az l=F) :
  Calls prog 128 #[.pointer (some ⟨tb,0,none⟩),.int .u64 F,.int .i64 L,.int .u8 on] w λe w'=>e=.returned (iJ (aN l F L (ae (aT on) l)))/\Below w.heap.size w w':=by
 have HE:Hid (aN l F L (ae (aT on) l)=(0,1)):=by unfold Hid aN;rw [if_pos (.inr (.inr h))]
 rw [HE.out,vi];have HA:=qI (gu tb b o c l w ht);have hA:ae az l<18446744073709551616:=Ost.eW az l _ ht.len;have HI:=qI λW=>js F (ae az l) W hF hA;rw [Q7 h] at HI;clear h HE ht
 go_enter func128,ntmps128
 go_wp2_with fail
 refine HA.out.mono ?_;rintro e w1 ⟨rfl,hb⟩
 go_wp2_with fail
 refine (HI.out _).mono ?_;rintro e w2 ⟨rfl,rfl⟩
 go_wp2
 go_ret2;exact ⟨rfl,hb⟩
theorem Ea (tb b o c F on:Nat) (L:Int) (l:List Cpu) (w:World) (ht:ba w tb b o c l) (hF:F<18446744073709551616) (h0:0<=L) (hL:L<=64) (h:F &&& ae az l=F) (hc:(cnt F:Int)<L) :
  Calls prog 128 #[.pointer (some ⟨tb,0,none⟩),.int .u64 F,.int .i64 L,.int .u8 on] w λe w'=>e=.returned (iJ (aN l F L (ae (aT on) l)))/\Below w.heap.size w w':=by
 have HE:Hid (aN l F L (ae (aT on) l)=(0,8)):=by
  unfold Hid aN;rw [if_neg (λhh=>by rcases hh with hh|hh|hh;omega;omega;exact hh h),if_pos hc]
 rw [HE.out,D7];have HA:=qI (gu tb b o c l w ht);have hA:ae az l<18446744073709551616:=Ost.eW az l _ ht.len;have HI:=qI λW=>js F (ae az l) W hF hA;rw [Qc h] at HI;have HC:Hid (∀ W,Calls prog 17 #[.int .u64 F] W λe w'=>e=.returned (.int .i64 (cnt F:Nat))/\w'=W):=λW=>fO F W hF
 generalize cnt F=cF at *;clear h HE ht
 go_enter func128,ntmps128
 go_wp2_with fail
 refine HA.out.mono ?_;rintro e w1 ⟨rfl,hb⟩
 go_wp2_with fail
 refine (HI.out _).mono ?_;rintro e w2 ⟨rfl,rfl⟩
 go_wp2_with fail
 refine (HC.out _).mono ?_;rintro e w2 ⟨rfl,rfl⟩
 go_wp2
 go_ret2;exact ⟨rfl,hb⟩
theorem Eb (tb b o c F on:Nat) (L:Int) (l:List Cpu) (w:World) (ht:ba w tb b o c l) (hg:Good l) (hF:F<18446744073709551616) (hon:on<256) (h0:0<=L) (hL:L<=64) (h:F &&& ae az l=F) (hc:L<=(cnt F:Int)) :
  Calls prog 128 #[.pointer (some ⟨tb,0,none⟩),.int .u64 F,.int .i64 L,.int .u8 on] w λe w'=>e=.returned (iJ (aN l F L (ae (aT on) l)))/\Below w.heap.size w w':=by
 have HE:=qI (Ost.uW (l:=l) (F:=F) (L:=L) (ae (aT on) l) h0 hL h hc);rw [HE.out,D6];have HA:=qI (gu tb b o c l w ht);have hA:ae az l<18446744073709551616:=Ost.eW az l _ ht.len;have hM:ae (aT on) l<18446744073709551616:=Ost.eW _ l _ ht.len;have HI:=qI λW=>js F (ae az l) W hF hA;rw [Qc h] at HI;have HC:Hid (∀ W,Calls prog 17 #[.int .u64 F] W λe w'=>e=.returned (.int .i64 (cnt F:Nat))/\w'=W):=λW=>fO F W hF
 generalize cnt F=cF at *;have Hk:Hid (∀ W,ba W tb b o c l->Calls prog 164 #[.pointer (some ⟨tb,0,none⟩),.int .u8 on] W λe w'=>e=.returned (.int .u64 (ae (aT on) l:Nat))/\Below W.heap.size W w'):=λW hW=>Bu tb b o c l on W hW hg hon
 have hN:F &&& ae (aT on) l<18446744073709551616:=Ost.sub_lt hF (Ost.om F _);have HN:=qI (bits_and_u64_nat F (ae (aT on) l) hF hM);have Hn:=qI λW hW=>ve tb b o c (F &&& ae (aT on) l) L l W hW hg hN h0 hL;have Ho:=qI (iI F (F &&& ae (aT on) l) hF hN);have ha:=Ost.qC l (F &&& ae (aT on) l) L h0;have Hg:=Ost.sub_lt hN (Ost.ol l (F &&& ae (aT on) l) L);have Hi:Hid (∀ W,Calls prog 17 #[.int .u64 (bN l (F &&& ae (aT on) l) L:Nat)] W λe w'=>e=.returned (.int .i64 (cnt (bN l (F &&& ae (aT on) l) L):Nat))/\w'=W):=λW=>fO _ W Hg
 have hd:=Ost.gX (A:=F) (F &&& ae (aT on) l) hF;have Hj:=qI λW hW=>ve tb b o c (dif F (F &&& ae (aT on) l)) (L - cnt (bN l (F &&& ae (aT on) l) L)) l W hW hg hd (by omega) (by omega);have Hl:=Ost.sub_lt hd (Ost.ol l (dif F (F &&& ae (aT on) l)) (L - cnt (bN l (F &&& ae (aT on) l) L)));have HO:=qI (qE _ _ Hg Hl);have Hp:(cnt (bN l (F &&& ae (aT on) l) L):Int)<=L:=by omega
 have HT:=qI ht;generalize bN l (dif F (F &&& ae (aT on) l)) (L - cnt (bN l (F &&& ae (aT on) l) L))=s2 at *;generalize dif F (F &&& ae (aT on) l)=fr at *;generalize cnt (bN l (F &&& ae (aT on) l) L)=c1 at *;generalize bN l (F &&& ae (aT on) l) L=s1 at *;generalize F &&& ae (aT on) l=fy at *;generalize ae (aT on) l=mm at *;clear h HE ht hg ha
 go_enter func128,ntmps128
 go_wp2_with fail
 refine HA.out.mono ?_;rintro e w1 ⟨rfl,hb⟩;have Hc:=qI (HT.out.below hb);have Ha:=qI hb;clear HT hb HA
 go_wp2_with fail
 refine (HI.out _).mono ?_;rintro e w2 ⟨rfl,rfl⟩
 go_wp2_with fail
 refine (HC.out _).mono ?_;rintro e w2 ⟨rfl,rfl⟩
 go_wp2_with fail
 refine (Hk.out _ Hc.out).mono ?_;rintro e w2 ⟨rfl,hb⟩;have Hf:=qI (Hc.out.below hb);have Hb:=qI (Ha.out.trans (hb.mono Ha.out.size));clear Hc hb Ha;have n1:=HN.out
 go_wp2_with fail
 refine (Hn.out _ Hf.out).mono ?_;rintro e w3 ⟨rfl,hb⟩;have Hh:=qI (Hf.out.below hb);have He:=qI (Hb.out.trans (hb.mono Hb.out.size));clear Hf hb Hb n1;have n2:=Ho.out
 go_wp2_with fail
 refine (Hi.out _).mono ?_;rintro e w4 ⟨rfl,rfl⟩
 go_wp2_with fail
 refine (Hj.out _ Hh.out).mono ?_;rintro e w5 ⟨rfl,hb⟩;have Hm:=qI (He.out.trans (hb.mono He.out.size));clear Hh hb He n2;have n3:=HO.out
 go_wp2
 go_ret2;exact ⟨rfl,Hm.out⟩
theorem Ec (tb b o c F on:Nat) (L:Int) (l:List Cpu) (w:World) (ht:ba w tb b o c l) (hg:Good l) (hF:F<18446744073709551616) (hon:on<256) :
  Calls prog 128 #[.pointer (some ⟨tb,0,none⟩),.int .u64 F,.int .i64 L,.int .u8 on] w λe w'=>e=.returned (iJ (aN l F L (ae (aT on) l)))/\Below w.heap.size w w':=by
 by_cases h1:L<0\/64<L
 ·exact D8 tb F on L l w h1
 ·by_cases h2:F &&& ae az l=F
  ·by_cases h3:(cnt F:Int)<L
   ·exact Ea tb b o c F on L l w ht hF (by omega) (by omega) h2 h3
   ·exact Eb tb b o c F on L l w ht hg hF hon (by omega) (by omega) h2 (by omega)
  ·exact D9 tb b o c F on L l w ht hF (by omega) (by omega) h2
end
