import Derived.Test.YtjlblidnfebmiaaGreatDoorE4
import Derived.Laws.BitsAllLaws
import Derived.Shelf.SlicesG.Cmp
import Derived.Shelf.Lay
import Derived.Ground.SlgcProg
import Derived.Deep.RegionHeld3
import Derived.Laws.EntriesVeiled
set_option maxRecDepth 100000
set_option maxHeartbeats 16000000
open Go Go.RowKit Go.Shelf
open Go.Proofs.Tryz
namespace Go.Proofs.YtjlblidnfebmiaaGreatDoor
variable {A B C F free i k n:Nat} {L many:Int} {c f:Nat->Nat} {l:List ag} {w:World}
def ap (A:Nat):Nat:=(ba A 64).length
def aD (A B:Nat):Nat:=A ^^^ (A &&& B)
theorem ig (A B i:Nat):(aD A B).testBit i=(A.testBit i && !B.testBit i):=by grind [aD]
theorem kX (A B:Nat):A &&& B=A↔∀ i,A.testBit i=true->B.testBit i=true:=by
 constructor
 ·intro h i hi;have e:(A &&& B).testBit i=A.testBit i:=by rw [h]
  rw [Nat.testBit_and,hi] at e
  simpa using e
 ·intro h;apply Nat.eq_of_testBit_eq;intro i;rw [Nat.testBit_and];cases hA:A.testBit i with
  | false=>rfl
  | true=>rw [h i hA];rfl
theorem l9 (A B:Nat):A &&& B=0↔∀ i,A.testBit i=true->B.testBit i=false:=by
 constructor
 ·intro h i hi;have e:(A &&& B).testBit i=false:=by rw [h,Nat.zero_testBit]
  rw [Nat.testBit_and,hi] at e
  simpa using e
 ·intro h;apply Nat.eq_of_testBit_eq;intro i;rw [Nat.testBit_and,Nat.zero_testBit];cases hA:A.testBit i with
  | false=>rfl
  | true=>rw [h i hA];rfl
theorem Jv (h:A &&& B=0) (k:Nat):(ba (A ||| B) k).length=(ba A k).length+(ba B k).length:=by
 induction k with
 | zero=>rfl
 | succ k ih=>
  rw [m6,m6 A,m6 B,Nat.testBit_or];have a:=(l9 A B).1 h k;cases hA:A.testBit k with
  | true=>rw [a hA];simp [ih];omega
  | false=>cases hB:B.testBit k <;> simp [ih];omega
theorem oL (h:A &&& B=0):ap (A ||| B)=ap A+ap B:=Jv h 64
theorem Aa:ap 0=0:=by decide +kernel
theorem Jw (h:A<18446744073709551616) (hi:A.testBit i=true):i<64:=by
 apply Qt;intro a
 have:A.testBit i=false:=Nat.testBit_lt_two_pow (Q1 (show A<2 ^ 64 from h) (Nat.pow_le_pow_right (n:=2) (by omega) (by omega)))
 rw [this] at hi;cases hi
theorem kh (B:Nat) (h:A<18446744073709551616):aD A B<18446744073709551616:=by
 apply Nat.lt_pow_two_of_testBit (n:=64);intro i hi;rw [ig];cases hA:A.testBit i with
 | false=>rfl
 | true=>have:=Jw h hA;omega
theorem Jy (h:B &&& A=B):aD A B ||| B=A:=by
 apply Nat.eq_of_testBit_eq;intro i;rw [Nat.testBit_or,ig]
 have:=(kX B A).1 h i
 cases hB:B.testBit i with
 | true=>rw [this hB];rfl
 | false=>simp
theorem Jz (A B:Nat):aD A B &&& B=0:=by grind [l9,ig]
theorem vm (h:B &&& A=B):ap (aD A B)+ap B=ap A:=by
 rw [<- oL (Jz A B),Jy h]
theorem vo (A B:Nat):aD A B &&& A=aD A B:=by grind [kX,ig]
theorem md (a:B<18446744073709551616) (h:A &&& B=A):A<18446744073709551616:=by
 rw [<- h];exact Nat.lt_of_le_of_lt Nat.and_le_right a
theorem sr (b:A &&& B=A) (a:B &&& C=B):A &&& C=A:=by
 rw [kX] at *;intro i hi;exact a i (b i hi)
theorem su (b:A &&& C=A) (a:B &&& C=B):(A ||| B) &&& C=A ||| B:=by grind
theorem JA (h:A &&& B=0):B &&& A=0:=by rw [Nat.and_comm];exact h
def bo (f:Nat->Nat) (free:Nat) (many:Int):Nat->Nat
 | 0=>0
 | k+1=>if f k &&& free=f k/\(ap (f k):Int)<=many - ap (bo f free many k) then bo f free many k ||| f k else bo f free many k
def kk (f:Nat->Nat) (free:Nat) (many:Int):Nat:=bo f free many 64
theorem Ab (b:f k &&& free=f k) (a:(ap (f k):Int)<=many - ap (bo f free many k)):bo f free many (k+1)=bo f free many k ||| f k:=by rw [bo,if_pos ⟨b,a⟩]
theorem Ad (a:¬ f k &&& free=f k):bo f free many (k+1)=bo f free many k:=by rw [bo,if_neg (λh=>a h.1)]
theorem Ae (a:¬ (ap (f k):Int)<=many - ap (bo f free many k)):bo f free many (k+1)=bo f free many k:=by rw [bo,if_neg (λh=>a h.2)]
theorem sw (f:Nat->Nat) (free:Nat) (many:Int) (k:Nat):bo f free many k &&& free=bo f free many k:=by induction k <;> grind [bo,su]
theorem JB (f:Nat->Nat) (free:Nat) (many:Int) (k i:Nat) (h:(bo f free many k).testBit i=true):∃ n,n<k/\(f n).testBit i=true/\f n &&& bo f free many k=f n:=by induction k <;> grind [bo,kX]
def vp (f:Nat->Nat):Prop:=∀ a b,a≠b->f a &&& f b=0
theorem JC (b:vp f) (free:Nat) (many:Int) (k n:Nat) (c:k<=n):bo f free many k &&& f n=0:=by
 rw [l9];intro i hi;obtain ⟨j,d,a,_⟩:=JB f free many k i hi;exact (l9 _ _).1 (b j n (by omega)) i a
theorem sx (a:vp f) (free:Nat) (many:Int) (b:0<=many) (k:Nat):(ap (bo f free many k):Int)<=many:=by
 induction k with
 | zero=>simp only [bo,Aa];omega
 | succ k ih=>
  rw [bo]
  split
  ·rename_i h;rw [oL (JC a free many k k (lR))];omega
  ·exact ih
theorem vq (f:Nat->Nat) (free:Nat) (many:Int) (k:Nat) (h:free<18446744073709551616):bo f free many k<18446744073709551616:=md h (sw f free many k)
def jH (c:Nat->Nat) (x y:Nat):Bool:=decide (c x<c y\/(c x=c y/\x<y))
def gK (c:Nat->Nat) (A:Nat):List Nat:=(ba A 64).mergeSort (λx y=>!jH c y x)
def eF (l:List Nat):Nat:=l.foldl (λs n=>s ||| 2 ^ n) 0
theorem vr (l:List Nat) (n:Nat):eF (l++[n])=eF l ||| 2 ^ n:=by simp [eF]
theorem vt (l:List Nat) (i:Nat):(eF l).testBit i=decide (i∈l):=by
 have key_Ost:∀ r:List Nat,(eF r.reverse).testBit i=decide (i∈r.reverse):=by
  intro r
  induction r with
  | nil=>simp [eF]
  | cons n r ih=>
   rw [List.reverse_cons,vr,Nat.testBit_or,ih,Nat.testBit_two_pow,Bool.eq_iff_iff];simp only [Bool.or_eq_true,Qp,Qi,Qm];constructor
   ·rintro (h|h)
    ·exact .inl h
    ·exact .inr h.symm
   ·rintro (h|h)
    ·exact .inl h
    ·exact .inr h.symm
 have:=key_Ost l.reverse
 rwa [List.reverse_reverse] at this
theorem vu (c:Nat->Nat) (A:Nat):(gK c A).Perm (ba A 64):=List.mergeSort_perm _ _
theorem sy (c:Nat->Nat) (A:Nat):(gK c A).length=ap A:=(vu c A).length_eq
theorem JD (A i:Nat):i∈ba A 64↔i<64/\A.testBit i=true:=by unfold ba;simp
theorem vw:i∈gK c A↔i<64/\A.testBit i=true:=by rw [(vu c A).mem_iff,JD]
theorem JE (c:Nat->Nat) (A:Nat):(gK c A).Nodup:=by grind [vu,ba,List.nodup_range]
theorem JF {x y:Nat} (b:jH c x y=false) (a:jH c y x=false):x=y:=by simp [jH] at *;omega
def Vu (c:Nat->Nat) (A j:Nat):Nat:=aD A (eF ((gK c A).take j))
theorem JG (h:n<64):ap (2 ^ n)=1:=by
 have:∀ i:Fin 64,ap (2 ^ i.val)=1:=by decide +kernel
 exact this ⟨n,h⟩
theorem JH {l:List Nat} (b:l.Nodup) (a:∀ i∈l,i<64):ap (eF l)=l.length:=by
 have key_Ost:∀ r:List Nat,r.reverse.Nodup->(∀ i∈r.reverse,i<64)->ap (eF r.reverse)=r.reverse.length:=by
  intro r
  induction r with
  | nil=>intro _ _;simp [eF,Aa]
  | cons n r ih=>
   intro b a;rw [List.reverse_cons] at b a ⊢;rw [List.nodup_append] at b;rw [vr,oL,ih b.1 λi hi=>a i (List.mem_append_left _ hi),JG (a n (by simp))]
   ·simp
   ·rw [l9];intro i hi;rw [vt,Qp] at hi;rw [Nat.testBit_two_pow];exact Q7 λe=>b.2.2 i hi n (by simp) e.symm
 have:=key_Ost l.reverse
 rw [List.reverse_reverse] at this;exact this b a
def gj (c:Nat->Nat) (A:Nat) (many:Nat):Nat:=eF ((gK c A).take many)
theorem vx (c:Nat->Nat) (A many:Nat):gj c A many &&& A=gj c A many:=by grind [kX,gj,vt,vw]
theorem JI (c:Nat->Nat) (A many:Nat):ap (gj c A many)=min many (ap A):=by grind [gj,JH,sy,JE,vw]
def dD (l:List ag) (n:Nat):Nat:=lX (·.sock) l n
def bK (l:List ag) (n:Nat):Nat:=lX (·.core) l n
theorem sA (f:ag->Int) (l:List ag):vp (lX f l):=by
 intro a b c;rw [l9];intro i hi;rw [lX,ux,Bool.and_eq_true,beq_iff_eq] at hi;rw [lX,ux,hi.2]
 have:(((a:Nat):Int) == (b:Int))=false:=by rw [Qr];omega
 rw [this];simp
theorem vy (f:ag->Int) (h:l.length<=64) (n:Nat):lX f l n<18446744073709551616:=i8 _ l _ h
def fI (l:List ag) (now n:Nat):Nat:=ap (au (λx=>x.core == (l.getD n ar).core) l &&& now)
def gL (l:List ag) (F:Nat) (L:Int):Nat:=kk (dD l) F L
def ii (l:List ag) (F:Nat) (L:Int):Nat:=gL l F L ||| kk (bK l) (aD F (gL l F L)) (L - ap (gL l F L))
def cW (l:List ag) (F:Nat) (L:Int):Nat:=ii l F L ||| gj (fI l (aD F (ii l F L))) (aD F (ii l F L)) (L - ap (ii l F L)).toNat
theorem Af (l:List ag) (F:Nat) (L:Int):gL l F L &&& F=gL l F L:=sw _ _ _ _
theorem Ag (l:List ag) (F:Nat) (L:Int) (h:0<=L):(ap (gL l F L):Int)<=L:=sx (sA _ l) F L h 64
theorem vz (l:List ag) (F:Nat) (L:Int):ii l F L &&& F=ii l F L:=
 su (Af l F L) (sr (sw _ _ _ _) (vo F _))
theorem Ah (h:B &&& aD C A=B):A &&& B=0:=by grind [JA,kX,l9,ig]
theorem Ai (l:List ag) (F:Nat) (L:Int) (h:0<=L):(ap (ii l F L):Int)<=L:=by
 have b:=Ag l F L h;unfold ii kk;rw [oL (Ah (sw (bK l) (aD F (gL l F L)) (L - ap (gL l F L)) 64))];have a:=sx (sA (·.core) l) (aD F (gL l F L)) (L - ap (gL l F L)) (by omega) 64;have e:bK l=lX (·.core) l:=rfl;rw [e];omega
theorem sB (l:List ag) (F:Nat) (L:Int):cW l F L &&& F=cW l F L:=
 su (vz l F L) (sr (vx _ _ _) (vo F _))
theorem vA (l:List ag) (F:Nat) (L:Int) (h:0<=L):(ap (cW l F L):Int)=min L (ap F):=by
 have b:=Ai l F L h;have a:=vm (vz l F L);rw [cW,oL (Ah (vx _ _ _)),JI];omega
def bH (l:List ag) (F:Nat) (L:Int) (on:Nat):Nat × Int:=
 if L<0\/64<L\/¬ F &&& au (λ_=>true) l=F then (0,1) else
 if (ap F:Int)<L then (0,8) else
 (cW l (F &&& on) L ||| cW l (aD F (F &&& on)) (L - ap (cW l (F &&& on) L)),0)
theorem sC (A B:Nat):A &&& B &&& A=A &&& B:=by grind
theorem Aj (on:Nat) (d:0<=L) (b:L<=64) (a:F &&& au (λ_=>true) l=F) (c:L<=ap F) :
  bH l F L on=(cW l (F &&& on) L ||| cW l (aD F (F &&& on)) (L - ap (cW l (F &&& on) L)),0):=by grind [bH]
theorem JJ (on:Nat) (e:0<=L) (h:L<=ap F) (s:Nat) (hs:s=cW l (F &&& on) L ||| cW l (aD F (F &&& on)) (L - ap (cW l (F &&& on) L))) :
  (ap s:Int)=L/\s &&& F=s/\(ap (s &&& on):Int)=min L (ap (F &&& on)):=by
 have f:=vA l (F &&& on) L e;have has:=sB l (F &&& on) L;have Ha:=sB l (aD F (F &&& on)) (L - ap (cW l (F &&& on) L));have g:=vA l (aD F (F &&& on)) (L - ap (cW l (F &&& on) L)) (by omega);have hd:=vm (sC F on);generalize cW l (aD F (F &&& on)) (L - ap (cW l (F &&& on) L))=b at *;generalize cW l (F &&& on) L=a at *;have Hc:a &&& b=0:=by
  rw [kX] at has Ha;rw [l9];intro i hi;cases hbi:b.testBit i with
  | false=>rfl
  | true=>
   have d:=has i hi;have c:=Ha i hbi;rw [ig,d] at c
   simp at c
 have Hb:s &&& on=a:=by
  rw [hs];rw [kX] at has Ha;apply Nat.eq_of_testBit_eq;intro i;rw [Nat.testBit_and,Nat.testBit_or];cases hai:a.testBit i with
  | true=>
   have d:=has i hai;rw [Nat.testBit_and,Bool.and_eq_true] at d;rw [d.2];rfl
  | false=>
   cases hbi:b.testBit i with
   | false=>rfl
   | true=>
    have c:=Ha i hbi;rw [ig,Nat.testBit_and] at c
    revert c
    cases F.testBit i <;> cases on.testBit i <;> simp
 refine ⟨?_,?_,?_⟩
 ·rw [hs,oL Hc];omega
 ·rw [hs];exact su (sr has (sC F on)) (sr Ha (vo F _))
 ·rw [Hb];exact f
theorem kY (A B:Nat) (b:A<18446744073709551616) (a:B<18446744073709551616):bits BinOp.andNot IntKind.u64 (A:Int) (B:Int)=((aD A B:Nat):Int):=by
 rw [u64_andNot_nat A B b a];have key:A &&& (18446744073709551615 - B)=aD A B:=by
  apply Nat.eq_of_testBit_eq;intro i;rw [Nat.testBit_and,ig]
  by_cases hi:i<64
  ·have e:(18446744073709551615 - B).testBit i=!B.testBit i:=by
    have:=Nat.testBit_two_pow_sub_succ (n:=64) a i
    rw [show 2 ^ 64 - (B+1)=18446744073709551615 - B by omega] at this;rw [this,Qc hi];simp
   rw [e]
  ·have:A.testBit i=false:=Nat.testBit_lt_two_pow (Q1 b (Nat.pow_le_pow_right (n:=2) (by omega) (show 64<=i by omega)))
   rw [this];simp
 rw [key]
theorem JK (A B:Nat):aD A B=0↔A &&& B=A:=by
 rw [kX];constructor
 ·intro h i hi;have e:(aD A B).testBit i=false:=by rw [h,Nat.zero_testBit]
  rw [ig,hi] at e
  simpa using e
 ·intro h;apply Nat.eq_of_testBit_eq;intro i;rw [ig,Nat.zero_testBit];cases hA:A.testBit i with
  | false=>rfl
  | true=>rw [h i hA];rfl
theorem JL (A B:Nat) (b:A<18446744073709551616) (a:B<18446744073709551616):(bits BinOp.andNot IntKind.u64 (A:Int) (B:Int) == 0)=decide (A &&& B=A):=by grind [kY,JK]
theorem me (A B:Nat) (w:World) (c:A<18446744073709551616) (a:B<18446744073709551616) :
  Calls prog 43 #[.int .u64 A,.int .u64 B] w λe w'=>e=.returned (.bool (decide (A &&& B=A)))/\w'=w:=by
 have H:=qI (JL A B c a)
 go_enter func43,ntmps43
 go_wp2
 go_ret;exact ⟨congrArg (λb=>Ending.returned (.bool b)) H.o,rfl⟩
theorem JM:(prog.info? 3).map (λi=>(i.zero,i.size,i.bytes))=some (some (.int .i64 0),1,8):=by kernel_rfl
def nums (l:List Nat):List Value:=l.map λ(n:Nat)=>Value.int .i64 (n:Int)
theorem JN (l:List Nat) (n:Nat):nums (l++[n])=nums l++[.int .i64 n]:=by simp [nums]
theorem sD (A k:Nat):(ba A k).length<=k:=by
 unfold ba;exact Q5 (List.length_filter_le _ _) (by simp)
theorem JO (A:Nat) (w:World) (d:A<18446744073709551616) :
  Calls prog 264 #[.int .u64 A] w λe w'=>∃ v,e=.returned v/\w'.ownsRow w 3 1 v (ba A 64).length (nums (ba A 64))/\Below w w w':=by
 obtain ⟨i0,hi,Hj,Hk,Hl⟩:=info_parts JM
 go_enter func264,ntmps264
 go_wp2
 go_loopw [3,5] (λv i wr=>∃ k:Nat,k<=64/\i=.int .i64 k/\wr.ownsRow w 3 1 v (ba A k).length (nums (ba A k))/\Below w w wr) (λ_ i _=>64 - (intOf i).toNat)
 case atStart=>exact ⟨0,by omega,rfl,Qw _ _ _ _,Q0 _ _⟩
 case round=>
  obtain ⟨k,g,rfl,Ha,He⟩:=hrel
  by_cases a:k<64
  ·have hle:=sD A k;have Hi:=He.size
   by_cases c:A.testBit k=true
   ·have HS:Hu (ba A (k+1)=ba A k++[k]):=by unfold Hu;rw [m6,if_pos c]
    have b:=uF A k wr d a;rw [c] at b;have Hf:Hu (Calls prog 148 #[.int .u64 A,(k:Int)] wr λe w'=>e=.returned true/\w'=wr):=b;clear b c
    go_wp2_with (first
     | (go_at_call 148;refine Hf.o.mono ?_;rintro e w' ⟨rfl,rfl⟩)
     | (at_builtin;refine wpList_append_own _ rfl _ _ 46 rfl w.heap.size 3 i0 (.int .i64 0) 1 8 underlying46 hi Hj Hk Hl rfl (by decide) _ _ _ rfl (Ha.alloc _) ⟨_,0,none⟩ 1 1 [.int .i64 k] rfl rfl (cell_one_new _ _ _) (ints_oneCell .i64 [(k:Int)]) (by unfold maxLen;omega) (by omega) (by simp;omega) ?_;intro l h Hc Hb _))
    go_roundw
    case rel=>
     refine ⟨k+1,by omega,by go_num,?_,?_⟩
     ·rw [HS.o,JN,Q2];exact Hc
     ·exact (He.alloc Hi _).grown Hb (by simp;omega) λj f=>(Ha.lt j f).1
    case measure=>simp [intOf];omega
   ·have Hh:A.testBit k=false:=by simpa using c
    have HS:Hu (ba A (k+1)=ba A k):=by unfold Hu;rw [m6,if_neg c]
    have b:=uF A k wr d a;rw [Hh] at b;have Hf:Hu (Calls prog 148 #[.int .u64 A,(k:Int)] wr λe w'=>e=.returned false/\w'=wr):=b;clear b c Hh
    go_wp2_with (go_at_call 148;refine Hf.o.mono ?_;rintro e w' ⟨rfl,rfl⟩)
    go_roundw
    case rel=>
     refine ⟨k+1,by omega,by go_num,?_,He⟩;rw [HS.o];exact Ha
    case measure=>simp [intOf];omega
  ·have Hg:k=64:=by omega
   subst Hg;clear g a
   go_wp2
   go_ret;exact ⟨_,rfl,Ha,He⟩
section
open RowKit Go.ChangeMaps
open Go.Maps (Keyed int_keyed keyOf_int_mk)
def fJ (w:World) (B n:Nat) (f:Int->Int):Prop:=
 ∃ D:DataW Unit,w.ownsMap prog 3 (plainElem prog 3) B n D/\∀ k:Int,0<=k->k<64->D.atKey (.int .i64 k) (.lit (.int .i64 0))=.lit (.int .i64 (f k))
theorem fJ.alloc {f:Int->Int} (h:fJ w B n f) (o:Obj):fJ (w.alloc o) B n f:=by
 obtain ⟨D,a,b⟩:=h;exact ⟨D,a.alloc o,b⟩
theorem fJ.below {w':World} {K:Nat} {f:Int->Int} (h:fJ w B n f) (b:Below K w w') (e:B<K):fJ w' B n f:=by
 obtain ⟨D,⟨d,a,g,r⟩,c⟩:=h;exact ⟨D,⟨d,a,(b.block B e).trans g,r⟩,c⟩
theorem fJ.lt {f:Int->Int} (h:fJ w B n f):B<w.heap.size:=by
 obtain ⟨D,a,_⟩:=h;exact a.lt
theorem fJ.made (w:World):fJ (w.alloc (.map #[] 0)) w.heap.size 0 (λ_=>0):=
 ⟨.map [],World.ownsMap_made w _ _ _,λ_ _ _=>rfl⟩
theorem JP (w:World):(zeroValue 3).run prog w=.ok (0:Int) w:=by kernel_rfl
theorem JQ {d:Array Oper} {rest:List Oper} {o:Oper} {a:Act} {Q:Exit->Act->World->Prop} (w:World) (i:o.guard=none) (m x:Operand) (e:o.op=Op.lookup 365 m x false)
  (B n:Nat) (f:Int->Int) (k:Int) (h:0<=k) (b:k<64) (q:a.eval m=.map (some B)) (p:a.eval x=.int .i64 k) (j:fJ w B n f)
  (s:wpList prog d Q rest (a.put o.dst (.int .i64 (f k))) w) :
  wpList prog d Q (o :: rest) a w:=by
 obtain ⟨D,r,l⟩:=j;refine wpList_lookup_own_int w i m x 365 e 3 3 .i64 rP underlying365 underlying3 (JP w) B n D q r _ (.int .i64 k) p (keyOf_int_mk underlying3 (rQ h b)) ?_;intro c g _;rw [l k h b] at g;simp only [DataW.lit.injEq,Lit.int.injEq,true_and] at g;rw [<- g];exact s
end
theorem JR (n b o c F:Nat) (L:Int) (l:List ag) (w:World) (g:bD w n b o c l) (x:F<18446744073709551616) (y:0<=L) (E:L<=64) :
  Calls prog 211 #[.func (.func 212) #[.pointer (some ⟨n,0,none⟩)] #[],.int .u64 F,L] w λe w'=>e=.returned (.int .u64 (kk (dD l) F L:Nat))/\Below w w w':=by
 have A:=qI g;have Hh:=g.len;clear g
 go_enter func211,ntmps211
 go_wp2
 go_loopw [7,10] (λt i wr=>∃ k:Nat,k<=64/\i=.int .i64 k/\t=.int .u64 (bo (dD l) F L k:Nat)/\Hu (bD wr n b o c l)/\Below w w wr) (λ_ i _=>64 - (intOf i).toNat)
 case atStart=>exact ⟨0,by omega,rfl,rfl,A,Q0 _ _⟩
 case round=>
  obtain ⟨k,C,rfl,rfl,Hb,p⟩:=hrel
  by_cases r:k<64
  ·have HS:Hu (Calls prog 212 #[n,(k:Int)] wr λe w'=>e=.returned (.int .u64 (dD l k:Nat))/\Below wr wr w'):=GT n b o c l k wr Hb.o;have hs:=vy (·.sock) Hh k
   change dD l k<_ at hs
   have g:=vq (dD l) F L k x;have Hc:=qI λW=>jc (dD l k) W hs;have Ha:=qI λW=>jc (bo (dD l) F L k) W g;have Hk:=sx (sA (·.sock) l) F L y k
   change (ap (bo (dD l) F L k):Int)<=L at Hk
   have j:=qI λW=>me (dD l k) F W hs x;have z:=qI λa q=>Ab (f:=dD l) (free:=F) (many:=L) (k:=k) a q;have Hj:=qI λa=>Ad (f:=dD l) (free:=F) (many:=L) (k:=k) a;have Hi:=qI λa=>Ae (f:=dD l) (free:=F) (many:=L) (k:=k) a;have B:=qI (bits_or_u64_nat (bo (dD l) F L k) (dD l k) g hs)
   change Hu (∀ W,Calls _ _ _ W λe w'=>e=.returned (.int .i64 (ap (dD l k):Nat))/\w'=W) at Hc
   change Hu (∀ W,Calls _ _ _ W λe w'=>e=.returned (.int .i64 (ap (bo (dD l) F L k):Nat))/\w'=W) at Ha
   generalize dD l k=s at *
   go_wp2_with (go_at_call 212;refine HS.o.mono ?_;rintro e v ⟨rfl,u⟩)
   have Hg:=p.trans (u.mono p.size);have Hf:=qI (Hb.o.below u);clear Hb u p HS
   by_cases a:s &&& F=s
   ·have d:decide (s &&& F=s)=true:=Qc a
    by_cases q:(ap s:Int)<=L - ap (bo (dD l) F L k)
    ·have m:Hu (bo (dD l) F L (k+1)=bo (dD l) F L k ||| s):=z.o a q;rw [d] at j;clear a d;refine (j.o v).mono ?_;rintro e h ⟨rfl,rfl⟩
     go_wp2_with fail
     refine (Hc.o _).mono ?_;rintro e h ⟨rfl,rfl⟩
     go_wp2_with fail
     refine (Ha.o _).mono ?_;rintro e h ⟨rfl,rfl⟩
     go_wp2
     go_roundw
     case rel=>exact ⟨k+1,by omega,by go_num,by rw [m.o,<- B.o],Hf,Hg⟩
     case measure=>simp [intOf];omega
    ·have m:Hu (bo (dD l) F L (k+1)=bo (dD l) F L k):=Hi.o (by omega);have D:L - ap (bo (dD l) F L k)<(ap s:Int):=by omega
     rw [d] at j;clear a d q;refine (j.o v).mono ?_;rintro e h ⟨rfl,rfl⟩
     go_wp2_with fail
     refine (Hc.o _).mono ?_;rintro e h ⟨rfl,rfl⟩
     go_wp2_with fail
     refine (Ha.o _).mono ?_;rintro e h ⟨rfl,rfl⟩
     go_wp2
     go_roundw
     case rel=>exact ⟨k+1,by omega,by go_num,by rw [m.o],Hf,Hg⟩
     case measure=>simp [intOf];omega
   ·have d:decide (s &&& F=s)=false:=Q7 a;have m:Hu (bo (dD l) F L (k+1)=bo (dD l) F L k):=Hj.o a;rw [d] at j;clear a d;refine (j.o v).mono ?_;rintro e h ⟨rfl,rfl⟩
    go_wp2
    go_roundw
    case rel=>exact ⟨k+1,by omega,by go_num,by rw [m.o],Hf,Hg⟩
    case measure=>simp [intOf];omega
  ·have He:k=64:=by omega
   subst He;clear C r
   go_wp2
   go_ret;exact ⟨rfl,p⟩
theorem JS (n b o c F:Nat) (L:Int) (l:List ag) (w:World) (g:bD w n b o c l) (x:F<18446744073709551616) (y:0<=L) (E:L<=64) :
  Calls prog 211 #[.func (.func 213) #[.pointer (some ⟨n,0,none⟩)] #[],.int .u64 F,L] w λe w'=>e=.returned (.int .u64 (kk (bK l) F L:Nat))/\Below w w w':=by
 have A:=qI g;have Hh:=g.len;clear g
 go_enter func211,ntmps211
 go_wp2
 go_loopw [7,10] (λt i wr=>∃ k:Nat,k<=64/\i=.int .i64 k/\t=.int .u64 (bo (bK l) F L k:Nat)/\Hu (bD wr n b o c l)/\Below w w wr) (λ_ i _=>64 - (intOf i).toNat)
 case atStart=>exact ⟨0,by omega,rfl,rfl,A,Q0 _ _⟩
 case round=>
  obtain ⟨k,C,rfl,rfl,Hb,p⟩:=hrel
  by_cases r:k<64
  ·have HS:Hu (Calls prog 213 #[n,(k:Int)] wr λe w'=>e=.returned (.int .u64 (bK l k:Nat))/\Below wr wr w'):=yR n b o c l k wr Hb.o;have hs:=vy (·.core) Hh k
   change bK l k<_ at hs
   have g:=vq (bK l) F L k x;have Hc:=qI λW=>jc (bK l k) W hs;have Ha:=qI λW=>jc (bo (bK l) F L k) W g;have Hk:=sx (sA (·.core) l) F L y k
   change (ap (bo (bK l) F L k):Int)<=L at Hk
   have j:=qI λW=>me (bK l k) F W hs x;have z:=qI λa q=>Ab (f:=bK l) (free:=F) (many:=L) (k:=k) a q;have Hj:=qI λa=>Ad (f:=bK l) (free:=F) (many:=L) (k:=k) a;have Hi:=qI λa=>Ae (f:=bK l) (free:=F) (many:=L) (k:=k) a;have B:=qI (bits_or_u64_nat (bo (bK l) F L k) (bK l k) g hs)
   change Hu (∀ W,Calls _ _ _ W λe w'=>e=.returned (.int .i64 (ap (bK l k):Nat))/\w'=W) at Hc
   change Hu (∀ W,Calls _ _ _ W λe w'=>e=.returned (.int .i64 (ap (bo (bK l) F L k):Nat))/\w'=W) at Ha
   generalize bK l k=s at *
   go_wp2_with (go_at_call 213;refine HS.o.mono ?_;rintro e v ⟨rfl,u⟩)
   have Hg:=p.trans (u.mono p.size);have Hf:=qI (Hb.o.below u);clear Hb u p HS
   by_cases a:s &&& F=s
   ·have d:decide (s &&& F=s)=true:=Qc a
    by_cases q:(ap s:Int)<=L - ap (bo (bK l) F L k)
    ·have m:Hu (bo (bK l) F L (k+1)=bo (bK l) F L k ||| s):=z.o a q;rw [d] at j;clear a d;refine (j.o v).mono ?_;rintro e h ⟨rfl,rfl⟩
     go_wp2_with fail
     refine (Hc.o _).mono ?_;rintro e h ⟨rfl,rfl⟩
     go_wp2_with fail
     refine (Ha.o _).mono ?_;rintro e h ⟨rfl,rfl⟩
     go_wp2
     go_roundw
     case rel=>exact ⟨k+1,by omega,by go_num,by rw [m.o,<- B.o],Hf,Hg⟩
     case measure=>simp [intOf];omega
    ·have m:Hu (bo (bK l) F L (k+1)=bo (bK l) F L k):=Hi.o (by omega);have D:L - ap (bo (bK l) F L k)<(ap s:Int):=by omega
     rw [d] at j;clear a d q;refine (j.o v).mono ?_;rintro e h ⟨rfl,rfl⟩
     go_wp2_with fail
     refine (Hc.o _).mono ?_;rintro e h ⟨rfl,rfl⟩
     go_wp2_with fail
     refine (Ha.o _).mono ?_;rintro e h ⟨rfl,rfl⟩
     go_wp2
     go_roundw
     case rel=>exact ⟨k+1,by omega,by go_num,by rw [m.o],Hf,Hg⟩
     case measure=>simp [intOf];omega
   ·have d:decide (s &&& F=s)=false:=Q7 a;have m:Hu (bo (bK l) F L (k+1)=bo (bK l) F L k):=Hj.o a;rw [d] at j;clear a d;refine (j.o v).mono ?_;rintro e h ⟨rfl,rfl⟩
    go_wp2
    go_roundw
    case rel=>exact ⟨k+1,by omega,by go_num,by rw [m.o],Hf,Hg⟩
    case measure=>simp [intOf];omega
  ·have He:k=64:=by omega
   subst He;clear C r
   go_wp2
   go_ret;exact ⟨rfl,p⟩
end Go.Proofs.YtjlblidnfebmiaaGreatDoor
namespace Go.Proofs
open Go.Shelf
def Tryz.sortL_ren:Go.Shelf.Ren:=⟨fun|6=>265|15=>161|14=>291|28=>202|29=>203|20=>307|21=>308|22=>309|23=>310|24=>311|25=>312|26=>313|27=>314|46=>323|47=>254|48=>255|49=>324|50=>325|57=>327|n=>n,fun|22=>46|24=>3|25=>260|3=>3|39=>219|0=>0|53=>296|55=>23|4=>4|46=>312|45=>311|50=>134|5=>5|9=>9|66=>357|70=>361|76=>389|77=>390|n=>n,fun|n=>n⟩
theorem Tryz.sortL:Go.Proofs.SlLaysF.n6 Tryz.prog Tryz.sortL_ren:=by
 constructor
 case f6=>exact ⟨Tryz.f265.name,by decide,Tryz.func265.trans (congrArg some (by kernel_rfl))⟩
 case f14=>exact ⟨Tryz.f291.name,by decide,Tryz.func291.trans (congrArg some (by kernel_rfl))⟩
 case f20=>exact ⟨Tryz.f307.name,by decide,Tryz.func307.trans (congrArg some (by kernel_rfl))⟩
 case f21=>exact ⟨Tryz.f308.name,by decide,Tryz.func308.trans (congrArg some (by kernel_rfl))⟩
 case f22=>exact ⟨Tryz.f309.name,by decide,Tryz.func309.trans (congrArg some (by kernel_rfl))⟩
 case f23=>exact ⟨Tryz.f310.name,by decide,Tryz.func310.trans (congrArg some (by kernel_rfl))⟩
 case f24=>exact ⟨Tryz.f311.name,by decide,Tryz.func311.trans (congrArg some (by kernel_rfl))⟩
 case f25=>exact ⟨Tryz.f312.name,by decide,Tryz.func312.trans (congrArg some (by kernel_rfl))⟩
 case f26=>exact ⟨Tryz.f313.name,by decide,Tryz.func313.trans (congrArg some (by kernel_rfl))⟩
 case f27=>exact ⟨Tryz.f314.name,by decide,Tryz.func314.trans (congrArg some (by kernel_rfl))⟩
 case f46=>exact ⟨Tryz.f323.name,by decide,Tryz.func323.trans (congrArg some (by kernel_rfl))⟩
 case f49=>exact ⟨Tryz.f324.name,by decide,Tryz.func324.trans (congrArg some (by kernel_rfl))⟩
 case f50=>exact ⟨Tryz.f325.name,by decide,Tryz.func325.trans (congrArg some (by kernel_rfl))⟩
 case f57=>exact ⟨Tryz.f327.name,by decide,Tryz.func327.trans (congrArg some (by kernel_rfl))⟩
 all_goals intros;kernel_rfl
def Tryz.cmpL_ren:Go.Shelf.Ren:=⟨fun|5=>153|7=>187|n=>n,fun|22=>3|3=>3|4=>4|n=>n,fun|n=>n⟩
theorem Tryz.cmpL:Go.Proofs.SlLaysC2.n5 Tryz.prog Tryz.cmpL_ren:=by
 constructor
 case f5=>exact ⟨Tryz.f153.name,by decide,Tryz.func153.trans (congrArg some (by kernel_rfl))⟩
 case f7=>exact ⟨Tryz.f187.name,by decide,Tryz.func187.trans (congrArg some (by kernel_rfl))⟩
 all_goals intros;kernel_rfl
end Go.Proofs
namespace Go.Proofs.YtjlblidnfebmiaaGreatDoor
variable {F b c fc k lc mb n o tb tc:Nat} {f:Int->Int} {l:List ag} {w w' wr wr':World}
section
open Go.Sort
def dX (w w':World):Prop:=∃ q os,w'=grow (w.drewN q) os
theorem dX.refl (w:World):dX w w:=⟨0,#[],by rw [grow_empty];rfl⟩
theorem dX.alloc (h:dX w w') (o:Obj):dX w (w'.alloc o):=by
 obtain ⟨q,os,rfl⟩:=h;exact ⟨q,os++#[o],by rw [alloc_eq_grow,grow_grow]⟩
theorem dX.drewN (h:dX w w') (n:Nat):dX w (w'.drewN n):=by
 obtain ⟨q,os,rfl⟩:=h;exact ⟨q+n,os,by simp only [World.drewN,grow,Nat.add_assoc]⟩
theorem dX.trans {a b c:World} (h:dX a b) (k:dX b c):dX a c:=by
 obtain ⟨q,os,rfl⟩:=h;obtain ⟨e,d,rfl⟩:=k;exact ⟨q+e,os++d,by simp only [World.drewN,grow,Nat.add_assoc,Array.append_assoc]⟩
theorem dX.below (h:dX w w'):Below w w w':=by
 obtain ⟨q,os,rfl⟩:=h;exact ⟨rfl,rfl,rfl,by simp [World.drewN],λk a=>by simp [grow,World.drewN,Array.getElem?_append,a]⟩
theorem JT (w:World) (K a off m:Nat) (d:Array Nat) (os:Array Obj) (g:K<=a) (e:K<=w):Below K w (sortWorld (λn:Nat=>Value.int .i64 (n:Int)) w a off m d os):=by
 refine ⟨rfl,rfl,rfl,?_,λk f=>?_⟩
 ·simp [sortWorld,grow,Sort.putRow,Sort.mapBlock,Sort.ahead]
 ·have c:k<w.heap.size:=by omega
  have b:a≠k:=by omega
  simp [sortWorld,grow,Sort.putRow,Sort.mapBlock,Sort.ahead,Array.getElem?_append,Array.getElem_modify,c,b]
theorem JU (n:Nat) (d b o c:Nat) (l:List ag) (w:World) (a:bD w d b o c l) :
  Calls prog 263 #[d,(n:Int)] w λe w'=>(∃ err,e=.returned (.tuple #[.agg #[((l.getD n ar).core:Int),((l.getD n ar).sock:Int),((l.getD n ar).node:Int)],err]))/\dX w w':=by
 have Ha:=((Q0 w w).alloc (lR) (.cells #[(0:Int),(0:Int),(0:Int)] 74));have j:=(a.below Ha).cell;have i:=a.len
 by_cases f:n<l.length
 ·obtain ⟨He,Hb,Hc⟩:=(a.below Ha).cells n f;clear a Ha;generalize l.getD n ar=x at *
  go_enter func263,ntmps263
  go_wp2_with fail
  (try simp only [Exit.inBlock,Exit.then]);refine bodyPost_ret (v:=.tuple #[.agg #[(x.core:Int),(x.sock:Int),(x.node:Int)],.nilIface]) ?_ rfl ⟨⟨_,rfl⟩,?_⟩
  ·rw [results_cell_tmp rfl];go_simp
  ·exact (dX.refl w).alloc _
 ·have g:l.getD n ar=ar:=by simp [show l.length<=n by omega]
  rw [g];clear a Ha g;have h:(l.length:Int)<=n:=by omega
  clear f
  go_enter func263,ntmps263
  go_wp2_with fail
  (try simp only [Exit.inBlock,Exit.then]);refine bodyPost_ret (v:=.tuple #[.agg #[(0:Int),(0:Int),(0:Int)],.iface 108 (1:Int)]) ?_ rfl ⟨⟨_,rfl⟩,?_⟩
  ·rw [results_cell_tmp rfl];go_simp
  ·exact (dX.refl w).alloc _
structure ji (w:World) (tc lc fc tb b o c mb n:Nat) (l:List ag) (f:Int->Int):Prop where
 t:w.cell? tc=some (.pointer (some ⟨tb,0,none⟩))
 m:w.cell? lc=some (.map mb)
 fn:w.cell? fc=some (.func (.func 262) #[] #[.pointer (some ⟨tc,0,none⟩),.pointer (some ⟨lc,0,none⟩)])
 topo:bD w tb b o c l
 left:fJ w mb n f
theorem ji.below {K:Nat} (h:ji w tc lc fc tb b o c mb n l f) (a:Below K w w') (s:tc<K/\lc<K/\fc<K/\tb<K/\b<K/\mb<K):ji w' tc lc fc tb b o c mb n l f:=by
 obtain ⟨q,j,i,e,d,r⟩:=s;exact ⟨(a.cell (p:=tc) q).trans h.t,(a.cell (p:=lc) j).trans h.m,(a.cell (p:=fc) i).trans h.fn,
  ⟨(a.cell (p:=tb) e).trans h.topo.cell,λk m=>by
   obtain ⟨g,a2,a3⟩:=h.topo.cells k m;exact ⟨(a.cell (p:=⟨b,o+k*3,none⟩) d).trans g,(a.cell (p:=⟨b,o+k*3+1,none⟩) d).trans a2,(a.cell (p:=⟨b,o+k*3+2,none⟩) d).trans a3⟩,Q1 h.topo.lt a.size,h.topo.len⟩,
  h.left.below a r⟩
theorem ji.lts (h:ji w tc lc fc tb b o c mb n l f):tc<w/\lc<w/\fc<w/\tb<w/\b<w/\mb<w:=
 ⟨Q3 w _ h.t,Q3 w _ h.m,Q3 w _ h.fn,h.topo.tlt,h.topo.lt,h.left.lt⟩
theorem Ak (b:Good l) (n:Nat):0<=(l.getD n ar).core/\(l.getD n ar).core<64:=by
 by_cases a:n<l.length
 ·have:=b (l.getD n ar) (by simp [a])
  omega
 ·have c:l.getD n ar=ar:=by simp [show l.length<=n by omega]
  rw [c];decide
theorem Al (k:Nat) (g i r d b o c j n:Nat) (l:List ag) (f:Int->Int) (w:World) (h:ji w g i r d b o c j n l f) (a:Good l) :
  Calls prog 262 #[(k:Int),g,i] w λe w'=>e=.returned (f (l.getD k ar).core:Int)/\dX w w':=by
 have m:=qI (JU k d b o c l w h.topo);have HS:=qI h;have t:=qI h.lts;have p:=h.t;obtain ⟨q,Hc⟩:=Ak a k;clear h a;generalize l.getD k ar=x at *
 go_enter func262,ntmps262
 go_wp2_with fail
 refine m.o.mono ?_;rintro e v ⟨⟨err,rfl⟩,Hb⟩;have Ha:=qI (HS.o.below Hb.below t.o);have u:=gH Ha.o.m (.cells #[(x.core:Int),(x.sock:Int),(x.node:Int)] 74);have s:=Ha.o.left.alloc (.cells #[(x.core:Int),(x.sock:Int),(x.node:Int)] 74);clear m p
 go_wp2_with (at_lookup;refine JQ _ rfl _ _ rfl j n f x.core q Hc rfl rfl s ?_)
 go_ret;exact ⟨rfl,Hb.alloc _⟩
end
theorem JV (g c:Nat) (x y:Int) (w:World) (d:w.cell? g=some (.int .i64 x)) (f:w.cell? ⟨g,1,none⟩=some (.int .i64 y)) :
  Calls prog 86 #[.slice g 2 c] w λe w'=>e=.returned (if x=0 then y else x:Int)/\w'=w:=by
 by_cases a:x=0
 ·rw [if_pos a];subst a
  by_cases b:y=0
  ·subst b
   go_enter func86,ntmps86
   go_wp2_with fail
   refine wp_loop_rounds 3 ?_;rw [rounds_succ]
   go_wp2_with fail
   rw [rounds_succ]
   go_wp2_with fail
   rw [rounds_succ]
   go_wp2
   go_ret;exact ⟨rfl,rfl⟩
  ·have q:(y != 0)=true:=by rw [bne_iff_ne];exact b
   clear b
   go_enter func86,ntmps86
   go_wp2_with fail
   refine wp_loop_rounds 2 ?_;rw [rounds_succ]
   go_wp2_with fail
   rw [rounds_succ]
   go_wp2
   go_ret;exact ⟨rfl,rfl⟩
 ·rw [if_neg a];have q:(x != 0)=true:=by rw [bne_iff_ne];exact a
  clear a
  go_enter func86,ntmps86
  go_wp2_with fail
  refine wp_loop_rounds 1 ?_;rw [rounds_succ]
  go_wp2
  go_ret;exact ⟨rfl,rfl⟩
def jI (cl:Nat->Nat) (x y:Nat):Int:=if Lib.compareInt (cl x) (cl y)=0 then Lib.compareInt x y else Lib.compareInt (cl x) (cl y)
theorem Am (x y:Int) (w:World):Calls prog 153 #[x,y] w λe w'=>e=.returned (Lib.compareInt x y:Int)/\w'=w:=AnyG.cmp_Compare_int Tryz.cmpL x y w
theorem JW (x y:Nat) (i j p t b o c s n:Nat) (l:List ag) (f:Int->Int) (cl:Nat->Nat) (w:World) (h:ji w i j p t b o c s n l f) (m:Good l) (hf:∀ k,f (l.getD k ar).core=(cl k:Nat)) :
  Calls prog 266 #[(x:Int),(y:Int),p] w λe w'=>e=.returned (jI cl x y:Int)/\dX w w':=by
 have HS:=qI h;have q:=qI h.lts;have Hb:dX w w.drew:=(dX.refl w).drewN 1;have Hg:Hu (∀ W,ji W i j p t b o c s n l f->Calls prog 262 #[(x:Int),i,j] W λe w'=>e=.returned (.int .i64 (cl x:Nat))/\dX W w'):=λW A=>by
  rw [<- hf x];exact Al x i j p t b o c s n l f W A m
 have Hj:Hu (∀ W,ji W i j p t b o c s n l f->Calls prog 262 #[(y:Int),i,j] W λe w'=>e=.returned (.int .i64 (cl y:Nat))/\dX W w'):=λW A=>by
  rw [<- hf y];exact Al y i j p t b o c s n l f W A m
 have B:Hu (jI cl x y=if Lib.compareInt (cl x) (cl y)=0 then Lib.compareInt x y else Lib.compareInt (cl x) (cl y)):=rfl;have Hi:=qI λW=>Am (cl x) (cl y) W;have Hh:=qI λW=>Am x y W;have Hf:=qI λg c W C F=>JV g c (Lib.compareInt (cl x) (cl y)) (Lib.compareInt x y) W C F;rw [<- B.o] at Hf;generalize jI cl x y=r at *;generalize cl x=E at *;generalize cl y=D at *;generalize Lib.compareInt (E:Int) (D:Int)=z at *;generalize Lib.compareInt (x:Int) (y:Int)=u at *;clear B h hf
 go_enter func266,ntmps266
 go_wp2_with fail
 refine wp_region_held_drew (S:=(λw'=>w'.cell? p=some (.func (.func 262) #[] #[.pointer (some ⟨i,0,none⟩),.pointer (some ⟨j,0,none⟩)])/\Hu (ji w' i j p t b o c s n l f))) (by kernel_rfl) ⟨(HS.o.below Hb.below q.o).fn,HS.o.below Hb.below q.o⟩ λd=>?_;refine tk 0 ?_;refine tk 1 ?_;refine tk 3 ?_;refine tk 4 ?_;refine tk 7 ?_;refine tk 8 ?_;refine rd 2 λK a=>?_;go_simp
 go_wp2_with fail
 refine (Hg.o _ d.2.o).mono ?_;rintro e H ⟨rfl,m⟩;have Ha:=Hb.trans m;clear m
 go_wp2_with fail
 refine a.o _ _ ⟨(HS.o.below Ha.below q.o).fn,HS.o.below Ha.below q.o⟩ λd=>?_;clear a K;refine rd 5 λK a=>?_;go_simp
 go_wp2_with fail
 refine (Hj.o _ d.2.o).mono ?_;rintro e I ⟨rfl,m⟩;have He:=Ha.trans m;clear m
 go_wp2_with fail
 refine a.o _ _ ⟨(HS.o.below He.below q.o).fn,HS.o.below He.below q.o⟩ λd=>?_;clear a K;refine rd 6 λK a=>?_;go_simp
 go_wp2_with fail
 refine (Hi.o _).mono ?_;rintro e G ⟨rfl,rfl⟩
 go_wp2_with fail
 refine a.o _ _ d λd=>?_;clear a K;refine rd 9 λK a=>?_;go_simp
 go_wp2_with fail
 refine (Hh.o _).mono ?_;rintro e v ⟨rfl,rfl⟩
 go_wp2_with fail
 refine a.o _ _ d λd=>?_;clear a K;refine rd 10 λK a=>?_;go_simp;have Hc:=He.alloc (.cells #[(z:Int),(u:Int)] 3);have c0:(v.alloc (.cells #[(z:Int),(u:Int)] 3)).cell? v=some (.int .i64 z):=by simp
 have c1:(v.alloc (.cells #[(z:Int),(u:Int)] 3)).cell? ⟨v,1,none⟩=some (.int .i64 u):=by simp
 refine a.o _ _ ⟨(HS.o.below Hc.below q.o).fn,HS.o.below Hc.below q.o⟩ λd=>?_;clear a K;refine rd 11 λK a=>?_;go_simp
 go_wp2_with fail
 refine (Hf.o _ _ _ c0 c1).mono ?_;rintro e J ⟨rfl,rfl⟩
 go_wp2_with fail
 refine a.o _ _ d λd=>?_;clear a K;refine tk 12 ?_;refine Qn (by kernel_rfl) ?_ _
 go_wp2
 go_ret;exact ⟨rfl,Hc⟩
section
open Go.Sort
theorem qe (cl:Nat->Nat) (x y:Nat):ltOf (jI cl) x y=jH cl x y:=by grind [ltOf,jI,Lib.compareInt,jH]
theorem JX (cl:Nat->Nat):SWO (ltOf (jI cl)) where
 irrefl x:=by rw [qe];simp [jH]
 trans x y z h1 h2:=by rw [qe] at *;simp [jH] at *;omega
 ntrans x y z h1 h2:=by rw [qe] at *;simp [jH] at *;omega
theorem JY (cl:Nat->Nat) (x y:Nat) (b:ltOf (jI cl) x y=false) (a:ltOf (jI cl) y x=false):x=y:=by
 rw [qe] at b a;exact JF b a
def JZ (w:World) (v:Value) (L:List Nat):Prop:=
 (L=[]/\v=.slice none 0 0)\/∃ g c,v=.slice (some ⟨g,0,none⟩) L.length c/\L.length<=c/\∀ k,k<L.length->w.cell? ⟨g,k,none⟩=some (.int .i64 ((L.getD k 0:Nat):Int))
def mf (n:Nat):Value:=Value.int .i64 (n:Int)
theorem An (w:World) (K a off m:Nat) (b:Array Nat) (os:Array Obj) (d:K<=a) (c:K<=w):Below K w (sortWorld mf w a off m b os):=JT w K a off m b os d c
theorem J0 {g:Nat} {a:Array Value} {e:TypeId} {L:List Nat} (c:w.heap[g]?=some (.cells a e (0,0))) (d:a.toList.take (L.length*1)=nums L):Holds mf w g 0 L.toArray:=by
 intro j h;have Ha:j<L.length:=by simpa using h
 have f:a[j]?=some (.int .i64 ((L.getD j 0:Nat):Int)):=by
  have b:(a.toList.take (L.length*1))[j]?=some (.int .i64 ((L.getD j 0:Nat):Int)):=by
   rw [d];simp [nums,Ha]
  rw [List.getElem?_take] at b;rw [if_pos (by omega)] at b
  simpa using b
 have hd:L.toArray[j]! = L.getD j 0:=by simp [Ha]
 refine ⟨?_,?_⟩
 ·rw [hd];unfold World.cell?;rw [c];simp [f,mf]
 ·unfold World.frozen?;rw [c];simp
theorem J1 (v:Value) (A K:Nat) (p t d s b o c r n:Nat) (l:List ag) (f:Int->Int) (cl:Nat->Nat) (w:World) (j:w.ownsRow K 3 1 v (ba A 64).length (nums (ba A 64))) (z:K<=w)
  (h:ji w p t d s b o c r n l f) (E:p<K/\t<K/\d<K/\s<K/\b<K/\r<K) (C:Good l) (hf:∀ k,f (l.getD k ar).core=(cl k:Nat)) :
  Calls prog 265 #[v,.func (.func 266) #[] #[.pointer (some ⟨d,0,none⟩)]] w λe w'=>e=.returned (.tuple #[])/\JZ w' v (gK cl A)/\Below K w w':=by
 rcases j.2 with ⟨rfl,Hm⟩|⟨g,i,J,rfl,Hg,Hf,Hh,_,_,Hj⟩
 ·have F:gK cl A=[]:=by
   have:=sy cl A
   unfold ap at this;exact List.length_eq_zero_iff.1 (by omega)
  have a:=AnyF.slices_SortFunc_none (P:=prog) (ρ:=Tryz.sortL_ren) { Tryz.sortL with } none 0 (.func (.func 266) #[] #[.pointer (some ⟨d,0,none⟩)]) w
  change Calls prog 265 _ _ _ at a
  exact a.mono λe w' ⟨he,hw'⟩=>⟨he,.inl ⟨F,rfl⟩,by rw [hw'];exact Q0 _ _⟩
 ·have u:Holds mf w g 0 (ba A 64).toArray:=J0 Hf Hj;have Hb:g<w:=by
   rcases Nat.lt_or_ge g w.heap.size with Hk|Hi
   ·exact Hk
   ·rw [Array.getElem?_eq_none Hi] at Hf;cases Hf
  have H:∀ args w,(callFunc 266 args).run prog w=.ok (.enter 266 args) w:=enters_of func266 (by kernel_rfl) rfl;have He:CmpLays1 prog 266 #[d] mf (jI cl) g 0 (ba A 64).toArray.size w:=λm os L _ x y=>
   JW x y p t d s b o c r n l f cl _ (h.below (An w K g 0 m L os Hg z) E) C hf
  have Hl:=sD A 64;have a:=Any.slices_SortFunc_total Tryz.sortL mf (λ_=>rfl) (jI cl) (JX cl) 266 #[.pointer (some ⟨d,0,none⟩)] g 0 i (ba A 64).toArray w H He u Hb (by simp;omega) (JY cl)
  change Calls prog 265 _ _ _ at a
  have Hc:(λx y:Nat=>!ltOf (jI cl) y x)=λx y=>!jH cl y x:=by funext x y;rw [qe]
  rw [Hc] at a;have D:(ba A 64).toArray.size=(ba A 64).length:=by simp
  rw [D] at a;refine a.mono λe w' ⟨he,q,os,hw'⟩=>⟨he,?_,?_⟩
  ·have Ha:(gK cl A).length=(ba A 64).length:=sy cl A;have G:=holds_sortWorld mf w g 0 q (ba A 64).toArray (gK cl A).toArray os Hb u (by simp [Ha]);have I:((ba A 64).toArray.toList.mergeSort λx y=>!jH cl y x).toArray=(gK cl A).toArray:=rfl;rw [I] at hw';refine .inr ⟨g,i,by rw [Ha],by omega,λk B=>?_⟩
   have:=(G k (by simpa using B)).1
   rw [hw',<- Qd k,this]
   simp [mf,B]
  ·rw [hw'];exact An w K g 0 q _ os Hg z
end
section
open RowKit Go.ChangeMaps
open Go.Maps (Keyed int_keyed keyOf_int_mk)
def jj (l:List ag) (F k:Nat) (j:Int):Int:=if 0<=j/\j<k then (ap (bK l j.toNat &&& F):Nat) else 0
theorem J2 (l:List ag) (F:Nat):jj l F 0=λ_=>0:=by
 funext j;unfold jj;rw [if_neg (by omega)]
theorem J3 (l:List ag) (F k:Nat):(λj=>if (k:Int)=j then ((ap (bK l k &&& F):Nat):Int) else jj l F k j)=jj l F (k+1):=by grind [jj]
theorem J4 {l:List ag} (b:Good l) (F n:Nat):jj l F 64 (l.getD n ar).core=(fI l F n:Nat):=by
 obtain ⟨a,c⟩:=Ak b n;unfold jj;rw [if_pos ⟨a,by omega⟩]
 have:bK l (l.getD n ar).core.toNat=au (λx=>x.core == (l.getD n ar).core) l:=by
  unfold bK lX;rw [Int.toNat_of_nonneg a]
 rw [this];rfl
theorem J5 {o:Oper} {a:Act} {N:Act->World->Prop} {Q:Exit->Act->World->Prop} (w:World) (m x v:Operand) (b:o.op=Op.mapUpdate 365 m x v)
  (B n:Nat) (f:Int->Int) (k:Int) (h:0<=k) (c:k<64) (y:Nat) (A:y<=64) (u:a.eval m=.map (some B)) (t:a.eval x=.int .i64 k) (r:a.eval v=.int .i64 y) (i:fJ w B n f) (p:n<maxLen)
  (z:∀ w',fJ w' B (n+1) (λj=>if k=j then y else f j)->w.grownBy w' (some B)->N (a.put o.dst undef) w') :
  o.wp prog a w N Q:=by
 obtain ⟨D,g,q⟩:=i;obtain ⟨w',Ha,r1,l⟩:=g.update (e:=3) rP underlying365 p (keyOf_int_mk underlying3 (rQ h c)) (plainElem_int underlying3 (WalkArith.wf_i64 (n:=(y:Int)) (by omega)));unfold Oper.wp
 simp [execOp,b,u,t,r,Ha,Result.andThen]
 refine z w' ⟨_,r1,λj s d=>?_⟩ l
 by_cases e:k=j
 ·subst e;have Hb:WideAt.IsKeyLit (Lit.int .i64 k):=trivial;rw [Maps.atKey_put_same g.isMap Hb]
  simp
 ·have Hc:(Lit.int .i64 j)≠(Lit.int .i64 k):=by simp;omega
  rw [Maps.atKey_put_other Hc];simp only [if_neg e];exact q j s d
structure gM (wr w:World) (tb b o c:Nat) (l:List ag) (F k:Nat):Prop where
 t:wr.cell? w=some (.pointer (some ⟨tb,0,none⟩))
 m:wr.cell? ⟨w.heap.size+1+1,0,none⟩=some (.map (some (w.heap.size+1)))
 topo0:bD w tb b o c l
 left:fJ wr (w.heap.size+1) k (jj l F k)
 bel:Below w w wr
theorem gM.below (h:gM wr w tb b o c l F k) (a:Below wr wr wr'):gM wr' w tb b o c l F k:=
 ⟨(a.cell (p:=w.heap.size) (Q3 wr _ h.t)).trans h.t,(a.cell (p:=⟨w.heap.size+1+1,0,none⟩) (Q3 wr _ h.m)).trans h.m,h.topo0,h.left.below a h.left.lt,h.bel.trans (a.mono h.bel.size)⟩
theorem gM.topo (h:gM wr w tb b o c l F k):bD wr tb b o c l:=h.topo0.below h.bel
theorem gM.put (h:gM wr w tb b o c l F k) (e:fJ wr' (w.heap.size+1) (k+1) (jj l F (k+1))) (a:wr.grownBy wr' (some (w.heap.size+1))):gM wr' w tb b o c l F (k+1):=
 ⟨a.cell h.t (by simp),a.cell h.m (by simp),h.topo0,e,h.bel.grown a h.bel.size (λj d=>by cases d;omega)⟩
theorem gM.drew (h:gM wr w tb b o c l F k):gM wr.drew w tb b o c l F k:=h.below (below_drewN (Q0 _ _) 1)
abbrev vB:=λ(x0:World)=>(.cells #[.func (.func 262) #[] #[.pointer (some ⟨x0,0,none⟩),.pointer (some ⟨x0.heap.size+1+1,0,none⟩)]] 261:Obj)
theorem gM.stand (h:gM wr w tb b o c l F 64):ji (wr.alloc (vB w)) w (w.heap.size+1+1) wr tb b o c (w.heap.size+1) 64 l (jj l F 64):=
 ⟨gH h.t _,gH h.m _,by simp,h.topo.below ((Q0 _ _).alloc (lR) _),h.left.alloc _⟩
theorem J6 (d:bD w tb b o c l) (F:Nat):gM (((w.alloc (.cells #[tb] 82)).alloc (.map #[] 0)).alloc (.cells #[.map (some (w.heap.size+1))] 365)) w tb b o c l F 0:=by
 have f:=(((Q0 w w).alloc (lR) (.cells #[tb] 82)).alloc (by simp) (.map #[] 0)).alloc (by simp;omega) (.cells #[.map (some (w.heap.size+1))] 365);have a:=(fJ.made (w.alloc (.cells #[tb] 82))).alloc (.cells #[.map (some (w.heap.size+1))] 365);have e:(w.alloc (.cells #[tb] 82)).heap.size=w.heap.size+1:=by simp
 rw [e,<- J2 l F] at a;exact ⟨by go_simp,by go_simp,d,a,f⟩
theorem J7 (d b o c F:Nat) (L:Int) (l:List ag) (w:World) (m:bD w d b o c l) (s:Good l) (A:F<18446744073709551616) (h0:0<=L) (hL:L<=64) :
  Calls prog 214 #[d,.int .u64 F,L] w λe w'=>e=.returned (.int .u64 (gj (fI l F) F L.toNat:Nat))/\Below w w w':=by
 have HP:=@run_makeMap prog;have D:=m.len;have u:=qI s;have Hz:=qI (J6 m F);clear m s
 go_enter func214,ntmps214
 go_wp2
 go_loopw [15] (λi wr=>∃ k:Nat,k<=64/\i=.int .i64 k/\Hu (gM wr w d b o c l F k)) (λi _=>64 - (intOf i).toNat)
 case atStart=>exact ⟨0,by omega,rfl,Hz.o⟩
 case round=>
  clear Hz;obtain ⟨k,B,hi,Hf⟩:=hrel
  by_cases f:k<64
  ·subst hi;have N:Hu (∀ W,bD W d b o c l->Calls prog 213 #[d,(k:Int)] W λe w'=>e=.returned (.int .u64 (bK l k:Nat))/\Below W.heap.size W w'):=λW U=>yR d b o c l k W U
   have Hp:=vy (·.core) D k
   change bK l k<_ at Hp
   have O:Hu (∀ W,Calls prog 39 #[.int .u64 (bits BinOp.and IntKind.u64 (bK l k:Nat) (F:Nat))] W λe w'=>e=.returned (.int .i64 (ap (bK l k &&& F):Nat))/\w'=W):=λW=>by
    rw [bits_and_u64_nat _ _ Hp A];exact jc _ W (md Hp (sC _ F))
   have J:ap (bK l k &&& F)<=64:=sD _ 64;have V:=qI (J3 l F k);generalize hcc:ap (bK l k &&& F)=cc at *;clear hcc;generalize bK l k=Z at *;have Hj:=Hf.o.drew
   go_wp2_with fail
   refine wp_region_held_drew (S:=(λw'=>cl w' (w.heap.size+1+1) (0) (.map (some (w.heap.size+1)))/\cl w' w (0) d)) (by kernel_rfl) ⟨Hj.m,Hj.t⟩ λh=>?_;refine tk 0 ?_;refine tk 1 ?_;refine tk 2 ?_;refine tk 3 ?_;refine tk 5 ?_;refine rd 4 λK a=>?_;go_simp
   go_wp2_with fail
   refine (N.o _ Hj.topo).mono ?_;rintro e w1 ⟨rfl,q⟩;have Hk:=Hj.below q;clear q
   go_wp2_with fail
   refine a.o _ _ ⟨Hk.m,Hk.t⟩ λh=>?_;clear a K;refine tk 6 ?_;refine rd 7 λK a=>?_;go_simp
   go_wp2_with fail
   refine (O.o _).mono ?_;rintro e w2 ⟨rfl,rfl⟩
   go_wp2_with fail
   refine a.o _ _ h λh=>?_;clear a K;refine rd 8 λK a=>?_;rw [if_pos (by rfl)];refine J5 _ _ _ _ rfl (w.heap.size+1) k (jj l F k) k (by omega) (by omega) cc J rfl rfl rfl Hk.left (by unfold maxLen;omega) ?_;intro Y Hn Hg;rw [V.o] at Hn;have Hr:=qI (Hk.put Hn Hg);clear Hn Hg;refine a.o _ _ ⟨Hr.o.m,Hr.o.t⟩ λh=>?_;clear a K;refine Qn (by kernel_rfl) ?_ _
   go_wp2
   go_roundw
   case rel=>exact ⟨k+1,by omega,by go_num,Hr⟩
   case measure=>simp [intOf];omega
  ·have Ho:k=64:=by omega
   subst Ho;have H:_=Value.int .i64 64:=hi;clear B f hi;subst H;have HS:=qI Hf.o.stand;have Hx:=Hf.o.bel.alloc Hf.o.bel.size (vB w);have Hi:=qI Hx;clear Hx
   go_wp2_with fail
   generalize wr.alloc (vB w)=C at *;refine (JO F C A).mono ?_;rintro e X ⟨v,rfl,Hc,Hh⟩;have Hb:=qI (J1 v F C w (w.heap.size+1+1) wr d b o c (w.heap.size+1) 64 l (jj l F 64) (fI l F) X Hc Hh.size (HS.o.below Hh HS.o.lts) HS.o.lts u.o (J4 u.o F));have Hv:=qI (Hi.o.trans (Hh.mono Hi.o.size));clear Hc Hh HS
   go_wp2_with fail
   refine Hb.o.mono ?_;rintro e w6 ⟨rfl,He,x⟩;have Hs:=qI (Hv.o.trans (x.mono Hi.o.size));clear x Hb Hv Hi Hf;have HD:(gK (fI l F) F).length<=64:=by rw [sy];exact sD F 64
   have Hm:Hu (gj (fI l F) F L.toNat=eF ((gK (fI l F) F).take L.toNat)):=rfl;have Hw:Hu (∀ n∈gK (fI l F) F,n<64):=λn T=>(vw.1 T).1
   generalize gK (fI l F) F=R at *
   rcases He with ⟨rfl,rfl⟩|⟨g,cp,rfl,HM,Ha⟩
   ·have Hq:min L 0=0:=by omega
    have j:Hu (gj (fI l F) F L.toNat=0):=by unfold Hu;rw [Hm.o];simp [eF]
    go_wp2_with fail
    refine wp_loop_rounds 1 ?_;rw [rounds_succ]
    go_wp2
    go_ret;exact ⟨by rw [j.o];rfl,Hs.o⟩
   ·have I:=qI Ha;clear Ha;obtain ⟨M,E,Hq⟩:∃ M:Nat,M=min L.toNat R.length/\min L (R.length:Int)=(M:Int):=⟨min L.toNat R.length,rfl,by omega⟩;have j:Hu (gj (fI l F) F L.toNat=eF (R.take M)):=by
     unfold Hu;rw [Hm.o]
     congr 1
     rw [List.take_eq_take_iff];omega
    have HN:M<=R.length:=by omega
    clear E Hm
    go_wp2_with fail
    go_loop [11,40] (λt i=>∃ k:Nat,k<=M/\i=.int .i64 k/\t=.int .u64 (eF (R.take k):Nat)) (λ_ i=>M - (intOf i).toNat)
    case atStart=>exact ⟨0,by omega,rfl,rfl⟩
    case round=>
     obtain ⟨k,B,rfl,rfl⟩:=hrel
     by_cases f:k<M
     ·have Hl:k<R.length:=by omega
      have Ha:=I.o k Hl;have Q:=Hw.o (R.getD k 0) (by simp [Hl]);have Hy:R.take (k+1)=R.take k++[R.getD k 0]:=by
       rw [Qa Hl];simp [Hl]
      have P:eF (R.take k)<18446744073709551616:=by
       apply Nat.lt_pow_two_of_testBit (n:=64);intro i hi;rw [vt];exact Q7 (λG=>by have:=Hw.o i (List.mem_of_mem_take G);omega)
      have r:=qI (pU (eF (R.take k)) (R.getD k 0) P Q);have y:Hu (eF (R.take k) ||| 2 ^ (R.getD k 0)=eF (R.take (k+1))):=by unfold Hu;rw [Hy,vr]
      rw [y.o] at r;clear Hy y;generalize R.getD k 0=z at *
      go_wp2_with fail
      go_round
      case rel=>exact ⟨k+1,by omega,by go_num,by rw [<- r.o]⟩
      case measure=>simp [intOf];omega
     ·have Ht:k=M:=by omega
      have p:Hu (eF (R.take k)=gj (fI l F) F L.toNat):=by unfold Hu;rw [j.o,Ht]
      rw [p.o];clear Ht p
      go_wp2
      go_ret;exact ⟨rfl,Hs.o⟩
end
theorem vD (a b:Nat) (c:a<18446744073709551616) (d:b<18446744073709551616):bits BinOp.or IntKind.u64 (a:Int) (b:Int)=((a ||| b:Nat):Int):=bits_or_u64_nat a b c d
theorem Ao (g b o c F:Nat) (L:Int) (l:List ag) (w:World) (i:bD w g b o c l) (q:Good l) (h:F<18446744073709551616) (j:0<=L) (v:L<=64) :
  Calls prog 169 #[g,.int .u64 F,(L:Int)] w λe w'=>e=.returned (.int .u64 (cW l F L:Nat))/\Below w w w':=by
 have n:=qI i;have Ht:=i.len;have t:=qI q;clear i q;have Hv:∀ (fn:Fn) (first cap:Array Value) (w:World),(Instr.makeFunc fn first cap).run prog w=.ok (.func fn first cap) w:=λ_ _ _ _=>rfl
 have E:=Ag l F L j;have p:=md h (Af l F L);have He:Hu (Calls prog 211 #[.func (.func 212) #[.pointer (some ⟨g,0,none⟩)] #[],.int .u64 F,(L:Int)] w λe w'=>e=.returned (.int .u64 (gL l F L:Nat))/\Below w w w'):=JR g b o c F L l w n.o h j v;have Hl:Hu (ii l F L=gL l F L ||| kk (bK l) (aD F (gL l F L)) (L - ap (gL l F L))):=rfl;have Hg:Hu (cW l F L=ii l F L ||| gj (fI l (aD F (ii l F L))) (aD F (ii l F L)) (L - ap (ii l F L)).toNat):=rfl;have y:=Ai l F L j;have m:=md h (vz l F L);generalize cW l F L=G at *;generalize ii l F L=a at *;generalize gL l F L=d at *;have Hf:=qI (kY F d h p);have s:=kh (A:=F) d h;have Hr:Hu (∀ W,Calls prog 39 #[.int .u64 d] W λe w'=>e=.returned (.int .i64 (ap d:Nat))/\w'=W):=λW=>jc d W p
 have Hi:=qI (kY F a h m);have r:=kh (A:=F) a h;have Hq:Hu (∀ W,Calls prog 39 #[.int .u64 a] W λe w'=>e=.returned (.int .i64 (ap a:Nat))/\w'=W):=λW=>jc a W m
 have Hs:kk (bK l) (aD F d) (L - ap d)<18446744073709551616:=vq _ _ _ _ s;have Hk:=qI (vD d (kk (bK l) (aD F d) (L - ap d)) p Hs);have Hp:gj (fI l (aD F a)) (aD F a) (L - ap a).toNat<18446744073709551616:=md r (vx _ _ _);have Hh:=qI (vD a (gj (fI l (aD F a)) (aD F a) (L - ap a).toNat) m Hp);rw [<- Hl.o] at Hk;rw [<- Hg.o] at Hh;clear Hl Hg;generalize ap d=ca at *;generalize ap a=cb at *;have Hm:Hu (∀ W,bD W g b o c l->Calls prog 211 #[.func (.func 213) #[.pointer (some ⟨g,0,none⟩)] #[],.int .u64 (aD F d:Nat),(L - ca:Int)] W λe w'=>e=.returned (.int .u64 (kk (bK l) (aD F d) (L - ca):Nat))/\Below W.heap.size W w'):=λW k=>JS g b o c (aD F d) (L - ca) l W k s (by omega) (by omega)
 have Hn:Hu (∀ W,bD W g b o c l->Calls prog 214 #[g,.int .u64 (aD F a:Nat),(L - cb:Int)] W λe w'=>e=.returned (.int .u64 (gj (fI l (aD F a)) (aD F a) (L - cb).toNat:Nat))/\Below W.heap.size W w'):=λW k=>J7 g b o c (aD F a) (L - cb) l W k t.o r (by omega) (by omega)
 generalize kk (bK l) (aD F d) (L - ca)=ws at *;generalize gj (fI l (aD F a)) (aD F a) (L - cb).toNat=ss at *
 go_enter func169,ntmps169
 go_wp2_with fail
 refine He.o.mono ?_;rintro e H ⟨rfl,f⟩;have Hc:=qI (n.o.below f);have Hb:=qI f;clear n f He;have u:=Hf.o
 go_wp2_with fail
 refine (Hr.o _).mono ?_;rintro e x ⟨rfl,rfl⟩
 go_wp2_with fail
 refine (Hm.o _ Hc.o).mono ?_;rintro e B ⟨rfl,f⟩;have Hj:=qI (Hc.o.below f);have Ha:=qI (Hb.o.trans (f.mono Hb.o.size));clear Hc Hb f u Hf;have n2:=Hi.o;have C:=Hk.o
 go_wp2_with fail
 refine (Hq.o _).mono ?_;rintro e x ⟨rfl,rfl⟩
 go_wp2_with fail
 refine (Hn.o _ Hj.o).mono ?_;rintro e D ⟨rfl,f⟩;have Ho:=qI (Ha.o.trans (f.mono Ha.o.size));clear Hj Ha f n2 Hi;have z:=Hh.o
 go_wp2
 go_ret;exact ⟨rfl,Ho.o⟩
def kZ (r:Nat × Int):Value:=.tuple #[.int .u64 (r.1:Nat),aL r.2]
theorem J8 (s:Nat):kZ (s,0)=.tuple #[.int .u64 s,.nilIface]:=rfl
theorem Ap:kZ (0,1)=.tuple #[.int .u64 0,.iface 108 (1:Int)]:=rfl
theorem J9:kZ (0,8)=.tuple #[.int .u64 0,.iface 108 (8:Int)]:=rfl
theorem Ka (b F on:Nat) (L:Int) (l:List ag) (w:World) (h:L<0\/64<L) :
  Calls prog 132 #[b,.int .u64 F,L,.int .u8 on] w λe w'=>e=.returned (kZ (bH l F L (au (bn on) l)))/\Below w w w':=by
 have a:Hu (bH l F L (au (bn on) l)=(0,1)):=by unfold Hu bH;rw [if_pos (by omega)]
 rw [a.o,Ap];have key:L<0\/(0<=L/\64<L):=by omega
 clear h a
 rcases key with h|⟨h,c⟩
 all_goals
  go_enter func132,ntmps132
  go_wp2
  go_ret2;exact ⟨rfl,Q0 _ _⟩
theorem Kb (d b o c F on:Nat) (L:Int) (l:List ag) (w:World) (a:bD w d b o c l) (k:F<18446744073709551616) (n:0<=L) (r:L<=64) (h:¬ F &&& au aT l=F) :
  Calls prog 132 #[d,.int .u64 F,L,.int .u8 on] w λe w'=>e=.returned (kZ (bH l F L (au (bn on) l)))/\Below w w w':=by
 have f:Hu (bH l F L (au (bn on) l)=(0,1)):=by unfold Hu bH;rw [if_pos (.inr (.inr h))]
 rw [f.o,Ap];have j:=qI (lW d b o c l w a);have m:au aT l<18446744073709551616:=i8 aT l _ a.len;have g:=qI λW=>me F (au aT l) W k m;rw [Q7 h] at g;clear h f a
 go_enter func132,ntmps132
 go_wp2_with fail
 refine j.o.mono ?_;rintro e q ⟨rfl,i⟩
 go_wp2_with fail
 refine (g.o _).mono ?_;rintro e p ⟨rfl,rfl⟩
 go_wp2
 go_ret2;exact ⟨rfl,i⟩
theorem Kc (f b o c F on:Nat) (L:Int) (l:List ag) (w:World) (d:bD w f b o c l) (i:F<18446744073709551616) (s:0<=L) (v:L<=64) (h:F &&& au aT l=F) (n:(ap F:Int)<L) :
  Calls prog 132 #[f,.int .u64 F,L,.int .u8 on] w λe w'=>e=.returned (kZ (bH l F L (au (bn on) l)))/\Below w w w':=by
 have g:Hu (bH l F L (au (bn on) l)=(0,8)):=by
  unfold Hu bH;rw [if_neg (λa=>by rcases a with a|a|a;omega;omega;exact a h),if_pos n]
 rw [g.o,J9];have m:=qI (lW f b o c l w d);have q:au aT l<18446744073709551616:=i8 aT l _ d.len;have j:=qI λW=>me F (au aT l) W i q;rw [Qc h] at j;have p:Hu (∀ W,Calls prog 39 #[.int .u64 F] W λe w'=>e=.returned (.int .i64 (ap F:Nat))/\w'=W):=λW=>jc F W i
 generalize ap F=t at *;clear h g d
 go_enter func132,ntmps132
 go_wp2_with fail
 refine m.o.mono ?_;rintro e u ⟨rfl,k⟩
 go_wp2_with fail
 refine (j.o _).mono ?_;rintro e r ⟨rfl,rfl⟩
 go_wp2_with fail
 refine (p.o _).mono ?_;rintro e r ⟨rfl,rfl⟩
 go_wp2
 go_ret2;exact ⟨rfl,k⟩
theorem Kd (d b o c F on:Nat) (L:Int) (l:List ag) (w:World) (g:bD w d b o c l) (j:Good l) (f:F<18446744073709551616) (m:on<256) (k:0<=L) (r:L<=64) (h:F &&& au aT l=F) (C:L<=(ap F:Int)) :
  Calls prog 132 #[d,.int .u64 F,(L:Int),.int .u8 on] w λe w'=>e=.returned (kZ (bH l F L (au (bn on) l)))/\Below w w w':=by
 have p:=qI (Aj (l:=l) (F:=F) (L:=L) (au (bn on) l) k r h C);rw [p.o,J8];have q:=qI (lW d b o c l w g);have E:au aT l<18446744073709551616:=i8 aT l _ g.len;have D:au (bn on) l<18446744073709551616:=i8 _ l _ g.len;have v:=qI λW=>me F (au aT l) W f E;rw [Qc h] at v;have y:Hu (∀ W,Calls prog 39 #[.int .u64 F] W λe w'=>e=.returned (.int .i64 (ap F:Nat))/\w'=W):=λW=>jc F W f
 generalize ap F=I at *;have Hn:Hu (∀ W,bD W d b o c l->Calls prog 168 #[d,.int .u8 on] W λe w'=>e=.returned (.int .u64 (au (bn on) l:Nat))/\Below W.heap.size W w'):=λW i=>GX d b o c l on W i j m
 have n:F &&& au (bn on) l<18446744073709551616:=md f (sC F _);have z:=qI (bits_and_u64_nat F (au (bn on) l) f D);have Hk:=qI λW i=>Ao d b o c (F &&& au (bn on) l) L l W i j n k r;have Hj:=qI (kY F (F &&& au (bn on) l) f n);have x:=vA l (F &&& au (bn on) l) L k;have Hh:=md n (sB l (F &&& au (bn on) l) L);have Hl:Hu (∀ W,Calls prog 39 #[.int .u64 (cW l (F &&& au (bn on) l) L:Nat)] W λe w'=>e=.returned (.int .i64 (ap (cW l (F &&& au (bn on) l) L):Nat))/\w'=W):=λW=>jc _ W Hh
 have hd:=kh (A:=F) (F &&& au (bn on) l) f;have Ho:=qI λW i=>Ao d b o c (aD F (F &&& au (bn on) l)) (L - ap (cW l (F &&& au (bn on) l) L)) l W i j hd (by omega) (by omega);have Hm:=md hd (sB l (aD F (F &&& au (bn on) l)) (L - ap (cW l (F &&& au (bn on) l) L)));have G:=qI (vD _ _ Hh Hm);have Hp:(ap (cW l (F &&& au (bn on) l) L):Int)<=L:=by omega
 have u:=qI g;generalize cW l (aD F (F &&& au (bn on) l)) (L - ap (cW l (F &&& au (bn on) l) L))=N at *;generalize aD F (F &&& au (bn on) l)=K at *;generalize ap (cW l (F &&& au (bn on) l) L)=c1 at *;generalize cW l (F &&& au (bn on) l) L=P at *;generalize F &&& au (bn on) l=s at *;generalize au (bn on) l=M at *;clear h p g j x
 go_enter func132,ntmps132
 go_wp2_with fail
 refine q.o.mono ?_;rintro e R ⟨rfl,a⟩;have He:=qI (u.o.below a);have Hc:=qI a;clear u a q
 go_wp2_with fail
 refine (v.o _).mono ?_;rintro e t ⟨rfl,rfl⟩
 go_wp2_with fail
 refine (y.o _).mono ?_;rintro e t ⟨rfl,rfl⟩
 go_wp2_with fail
 refine (Hn.o _ He.o).mono ?_;rintro e t ⟨rfl,a⟩;have Hf:=qI (He.o.below a);have Ha:=qI (Hc.o.trans (a.mono Hc.o.size));clear He a Hc;have B:=z.o
 go_wp2_with fail
 refine (Hk.o _ Hf.o).mono ?_;rintro e H ⟨rfl,a⟩;have Hg:=qI (Hf.o.below a);have Hb:=qI (Ha.o.trans (a.mono Ha.o.size));clear Hf a Ha B;have n2:=Hj.o
 go_wp2_with fail
 refine (Hl.o _).mono ?_;rintro e J ⟨rfl,rfl⟩
 go_wp2_with fail
 refine (Ho.o _ Hg.o).mono ?_;rintro e Q ⟨rfl,a⟩;have Hi:=qI (Hb.o.trans (a.mono Hb.o.size));clear Hg a Hb n2;have O:=G.o
 go_wp2
 go_ret2;exact ⟨rfl,Hi.o⟩
theorem Ke (a b o c F on:Nat) (L:Int) (l:List ag) (w:World) (f:bD w a b o c l) (i:Good l) (h:F<18446744073709551616) (d:on<256) :
  Calls prog 132 #[a,.int .u64 F,L,.int .u8 on] w λe w'=>e=.returned (kZ (bH l F L (au (bn on) l)))/\Below w w w':=by
 by_cases k:L<0\/64<L
 ·exact Ka a F on L l w k
 ·by_cases g:F &&& au aT l=F
  ·by_cases j:(ap F:Int)<L
   ·exact Kc a b o c F on L l w f h (by omega) (by omega) g j
   ·exact Kd a b o c F on L l w f i h d (by omega) (by omega) g (by omega)
  ·exact Kb a b o c F on L l w f h (by omega) (by omega) g
