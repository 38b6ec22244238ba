import Derived.Test.YtjlblidnfebmiaaGreatDoorF4
import Derived.Laws.BitsAllLaws
import Derived.Shelf.SlicesG.Cmp
import Derived.Shelf.Lay
import Derived.Ground.SlgcProg
import Derived.Deep.RegionHeld3
import Derived.Laws.EntriesVeiled
set_option maxRecDepth 100000
set_option maxHeartbeats 16000000
open Go Go.RowKit Go.Shelf
open Go.Proofs.Tryz
namespace Go.Proofs.YtjlblidnfebmiaaGreatDoor
variable{A B C F free i k n:Nat}{L many:Int}{c f:Nat->Nat}{l:List ah}{w:World}
def aA (A:Nat):Nat:=(bf A 64).length
def aG (A B:Nat):Nat:=A ^^^ (A &&& B)
theorem iz(A B i:Nat):(aG A B).testBit i=(A.testBit i && !B.testBit i):=by grind[aG]
theorem lu(A B:Nat):A &&& B=A↔∀i,A.testBit i=true->B.testBit i=true:=by
 constructor
 ·intro h i hi;have e:(A &&& B).testBit i=A.testBit i:=by rw[h]
  rw[Nat.testBit_and,hi] at e
  simpa using e
 ·intro h;apply Nat.eq_of_testBit_eq;intro i;rw[Nat.testBit_and];cases hA:A.testBit i with
  | false=>rfl
  | true=>rw[h i hA];rfl
theorem mv(A B:Nat):A &&& B=0↔∀i,A.testBit i=true->B.testBit i=false:=by
 constructor
 ·intro h i hi;have e:(A &&& B).testBit i=false:=by rw[h,Nat.zero_testBit]
  rw[Nat.testBit_and,hi] at e
  simpa using e
 ·intro h;apply Nat.eq_of_testBit_eq;intro i;rw[Nat.testBit_and,Nat.zero_testBit];cases hA:A.testBit i with
  | false=>rfl
  | true=>rw[h i hA];rfl
theorem J8(h:A &&& B=0)(k:Nat):(bf (A ||| B) k).length=(bf A k).length+(bf B k).length:=by
 induction k with
 | zero=>rfl
 | succ k ih=>
  rw[nu,nu A,nu B,Nat.testBit_or];have a:=(mv A B).1 h k;cases hA:A.testBit k with
  | true=>rw[a hA];simp[ih];omega
  | false=>cases hB:B.testBit k <;> simp[ih];omega
theorem o5(h:A &&& B=0):aA (A ||| B)=aA A+aA B:=J8 h 64
theorem Ax:aA 0=0:=by decide +kernel
theorem J9(h:A<18446744073709551616)(hi:A.testBit i=true):i<64:=by
 apply Qt;intro a
 have:A.testBit i=false:=Nat.testBit_lt_two_pow (Q1 (show A<2 ^ 64 from h) (Nat.pow_le_pow_right (n:=2) (by omega) (by omega)))
 rw[this] at hi;cases hi
theorem mw(B:Nat)(h:A<18446744073709551616):aG A B<18446744073709551616:=by
 apply Nat.lt_pow_two_of_testBit (n:=64);intro i hi;rw[iz];cases hA:A.testBit i with
 | false=>rfl
 | true=>have:=J9 h hA;omega
theorem Ka(h:B &&& A=B):aG A B ||| B=A:=by
 apply Nat.eq_of_testBit_eq;intro i;rw[Nat.testBit_or,iz]
 have:=(lu B A).1 h i
 cases hB:B.testBit i with
 | true=>rw[this hB];rfl
 | false=>simp
theorem Kb(A B:Nat):aG A B &&& B=0:=by grind[mv,iz]
theorem vR(h:B &&& A=B):aA (aG A B)+aA B=aA A:=by
 rw[<- o5 (Kb A B),Ka h]
theorem vS(A B:Nat):aG A B &&& A=aG A B:=by grind[lu,iz]
theorem mx(a:B<18446744073709551616)(h:A &&& B=A):A<18446744073709551616:=by
 rw[<- h];exact Nat.lt_of_le_of_lt Nat.and_le_right a
theorem sS(b:A &&& B=A)(a:B &&& C=B):A &&& C=A:=by
 rw[lu] at *;intro i hi;exact a i (b i hi)
theorem sT(b:A &&& C=A)(a:B &&& C=B):(A ||| B) &&& C=A ||| B:=by grind
theorem Kc(h:A &&& B=0):B &&& A=0:=by rw[Nat.and_comm];exact h
def bt (f:Nat->Nat) (free:Nat) (many:Int):Nat->Nat
 | 0=>0
 | k+1=>if f k &&& free=f k/\(aA (f k):Int)<=many - aA (bt f free many k) then bt f free many k ||| f k else bt f free many k
def kC (f:Nat->Nat) (free:Nat) (many:Int):Nat:=bt f free many 64
theorem Ay(b:f k &&& free=f k)(a:(aA (f k):Int)<=many - aA (bt f free many k)):bt f free many (k+1)=bt f free many k ||| f k:=by rw[bt,if_pos ⟨b,a⟩]
theorem Az(a:¬ f k &&& free=f k):bt f free many (k+1)=bt f free many k:=by rw[bt,if_neg (λh=>a h.1)]
theorem AA(a:¬ (aA (f k):Int)<=many - aA (bt f free many k)):bt f free many (k+1)=bt f free many k:=by rw[bt,if_neg (λh=>a h.2)]
theorem sU(f:Nat->Nat)(free:Nat)(many:Int)(k:Nat):bt f free many k &&& free=bt f free many k:=by induction k <;> grind[bt,sT]
theorem Kd(f:Nat->Nat)(free:Nat)(many:Int)(k i:Nat)(h:(bt f free many k).testBit i=true):∃n,n<k/\(f n).testBit i=true/\f n &&& bt f free many k=f n:=by induction k <;> grind[bt,lu]
def vT (f:Nat->Nat):Prop:=∀a b,a≠b->f a &&& f b=0
theorem Ke(a:vT f)(free:Nat)(many:Int)(k n:Nat)(c:k<=n):bt f free many k &&& f n=0:=by
 rw[mv];intro i hi;obtain⟨j,d,b,_⟩:=Kd f free many k i hi;exact (mv _ _).1 (a j n (by omega)) i b
theorem sW(a:vT f)(free:Nat)(many:Int)(b:0<=many)(k:Nat):(aA (bt f free many k):Int)<=many:=by
 induction k with
 | zero=>simp only[bt,Ax];omega
 | succ k ih=>
  rw[bt]
  split
  ·rename_i h;rw[o5 (Ke a free many k k (lR))];omega
  ·exact ih
theorem vU(f:Nat->Nat)(free:Nat)(many:Int)(k:Nat)(h:free<18446744073709551616):bt f free many k<18446744073709551616:=mx h (sU f free many k)
def jW (c:Nat->Nat) (x y:Nat):Bool:=decide (c x<c y\/(c x=c y/\x<y))
def gY (c:Nat->Nat) (A:Nat):List Nat:=(bf A 64).mergeSort (λx y=>!jW c y x)
def eN (l:List Nat):Nat:=l.foldl (λs n=>s ||| 2 ^ n) 0
theorem vV(l:List Nat)(n:Nat):eN (l++[n])=eN l ||| 2 ^ n:=by simp[eN]
theorem vX(l:List Nat)(i:Nat):(eN l).testBit i=decide (i∈l):=by
 have key_Ost:∀r:List Nat,(eN r.reverse).testBit i=decide (i∈r.reverse):=by
  intro r
  induction r with
  | nil=>simp[eN]
  | cons n r ih=>
   rw[List.reverse_cons,vV,Nat.testBit_or,ih,Nat.testBit_two_pow,Bool.eq_iff_iff];simp only[Bool.or_eq_true,Qp,Qi,Qm];constructor
   ·rintro (h|h)
    ·exact .inl h
    ·exact .inr h.symm
   ·rintro (h|h)
    ·exact .inl h
    ·exact .inr h.symm
 have:=key_Ost l.reverse
 rwa [List.reverse_reverse] at this
theorem vY(c:Nat->Nat)(A:Nat):(gY c A).Perm (bf A 64):=List.mergeSort_perm _ _
theorem sX(c:Nat->Nat)(A:Nat):(gY c A).length=aA A:=(vY c A).length_eq
theorem Kf(A i:Nat):i∈bf A 64↔i<64/\A.testBit i=true:=by unfold bf;simp
theorem vZ:i∈gY c A↔i<64/\A.testBit i=true:=by rw[(vY c A).mem_iff,Kf]
theorem Kg(c:Nat->Nat)(A:Nat):(gY c A).Nodup:=by grind[vY,bf,List.nodup_range]
theorem Kh{x y:Nat}(b:jW c x y=false)(a:jW c y x=false):x=y:=by simp[jW] at *;omega
def WI (c:Nat->Nat) (A j:Nat):Nat:=aG A (eN ((gY c A).take j))
theorem Ki(h:n<64):aA (2 ^ n)=1:=by
 have:∀i:Fin 64,aA (2 ^ i.val)=1:=by decide +kernel
 exact this ⟨n,h⟩
theorem Kj{l:List Nat}(b:l.Nodup)(a:∀i∈l,i<64):aA (eN l)=l.length:=by
 have key_Ost:∀r:List Nat,r.reverse.Nodup->(∀i∈r.reverse,i<64)->aA (eN r.reverse)=r.reverse.length:=by
  intro r
  induction r with
  | nil=>intro _ _;simp[eN,Ax]
  | cons n r ih=>
   intro b a;rw[List.reverse_cons] at b a ⊢;rw[List.nodup_append] at b;rw[vV,o5,ih b.1 λi hi=>a i (List.mem_append_left _ hi),Ki (a n (by simp))]
   ·simp
   ·rw[mv];intro i hi;rw[vX,Qp] at hi;rw[Nat.testBit_two_pow];exact Q7 λe=>b.2.2 i hi n (by simp) e.symm
 have:=key_Ost l.reverse
 rw[List.reverse_reverse] at this;exact this b a
def gz (c:Nat->Nat) (A:Nat) (many:Nat):Nat:=eN ((gY c A).take many)
theorem v6(c:Nat->Nat)(A many:Nat):gz c A many &&& A=gz c A many:=by grind[lu,gz,vX,vZ]
theorem Kk(c:Nat->Nat)(A many:Nat):aA (gz c A many)=min many (aA A):=by grind[gz,Kj,sX,Kg,vZ]
def dN (l:List ah) (n:Nat):Nat:=md (·.sock) l n
def bP (l:List ah) (n:Nat):Nat:=md (·.core) l n
theorem sY(f:ah->Int)(l:List ah):vT (md f l):=by
 intro a b c;rw[mv];intro i hi;rw[md,uS,Bool.and_eq_true,beq_iff_eq] at hi;rw[md,uS,hi.2]
 have:(((a:Nat):Int) == (b:Int))=false:=by rw[Qr];omega
 rw[this];simp
theorem v7(f:ah->Int)(h:l.length<=64)(n:Nat):md f l n<18446744073709551616:=jN _ l _ h
def fS (l:List ah) (now n:Nat):Nat:=aA (az (λx=>x.core == (l.getD n av).core) l &&& now)
def gZ (l:List ah) (F:Nat) (L:Int):Nat:=kC (dN l) F L
def iA (l:List ah) (F:Nat) (L:Int):Nat:=gZ l F L ||| kC (bP l) (aG F (gZ l F L)) (L - aA (gZ l F L))
def df (l:List ah) (F:Nat) (L:Int):Nat:=iA l F L ||| gz (fS l (aG F (iA l F L))) (aG F (iA l F L)) (L - aA (iA l F L)).toNat
theorem AC(l:List ah)(F:Nat)(L:Int):gZ l F L &&& F=gZ l F L:=sU _ _ _ _
theorem AD(l:List ah)(F:Nat)(L:Int)(h:0<=L):(aA (gZ l F L):Int)<=L:=sW (sY _ l) F L h 64
theorem wa(l:List ah)(F:Nat)(L:Int):iA l F L &&& F=iA l F L:=
 sT (AC l F L) (sS (sU _ _ _ _) (vS F _))
theorem AE(h:B &&& aG C A=B):A &&& B=0:=by grind[Kc,lu,mv,iz]
theorem AF(l:List ah)(F:Nat)(L:Int)(h:0<=L):(aA (iA l F L):Int)<=L:=by
 have a:=AD l F L h;unfold iA kC;rw[o5 (AE (sU (bP l) (aG F (gZ l F L)) (L - aA (gZ l F L)) 64))];have b:=sW (sY (·.core) l) (aG F (gZ l F L)) (L - aA (gZ l F L)) (by omega) 64;have e:bP l=md (·.core) l:=rfl;rw[e];omega
theorem sZ(l:List ah)(F:Nat)(L:Int):df l F L &&& F=df l F L:=
 sT (wa l F L) (sS (v6 _ _ _) (vS F _))
theorem wb(l:List ah)(F:Nat)(L:Int)(h:0<=L):(aA (df l F L):Int)=min L (aA F):=by
 have a:=AF l F L h;have b:=vR (wa l F L);rw[df,o5 (AE (v6 _ _ _)),Kk];omega
def bN (l:List ah) (F:Nat) (L:Int) (on:Nat):Nat × Int:=
 if L<0\/64<L\/¬ F &&& az (λ_=>true) l=F then (0,1) else
 if (aA F:Int)<L then (0,8) else
 (df l (F &&& on) L ||| df l (aG F (F &&& on)) (L - aA (df l (F &&& on) L)),0)
theorem th(A B:Nat):A &&& B &&& A=A &&& B:=by grind
theorem AG(on:Nat)(d:0<=L)(a:L<=64)(b:F &&& az (λ_=>true) l=F)(c:L<=aA F) :
  bN l F L on=(df l (F &&& on) L ||| df l (aG F (F &&& on)) (L - aA (df l (F &&& on) L)),0):=by grind[bN]
theorem Kl(on:Nat)(e:0<=L)(g:L<=aA F)(s:Nat)(hs:s=df l (F &&& on) L ||| df l (aG F (F &&& on)) (L - aA (df l (F &&& on) L))) :
  (aA s:Int)=L/\s &&& F=s/\(aA (s &&& on):Int)=min L (aA (F &&& on)):=by
 have f:=wb l (F &&& on) L e;have has:=sZ l (F &&& on) L;have Ha:=sZ l (aG F (F &&& on)) (L - aA (df l (F &&& on) L));have h:=wb l (aG F (F &&& on)) (L - aA (df l (F &&& on) L)) (by omega);have hd:=vR (th F on);generalize df l (aG F (F &&& on)) (L - aA (df l (F &&& on) L))=b at *;generalize df l (F &&& on) L=a at *;have Hc:a &&& b=0:=by
  rw[lu] at has Ha;rw[mv];intro i hi;cases hbi:b.testBit i with
  | false=>rfl
  | true=>
   have d:=has i hi;have c:=Ha i hbi;rw[iz,d] at c
   simp at c
 have Hb:s &&& on=a:=by
  rw[hs];rw[lu] at has Ha;apply Nat.eq_of_testBit_eq;intro i;rw[Nat.testBit_and,Nat.testBit_or];cases hai:a.testBit i with
  | true=>
   have d:=has i hai;rw[Nat.testBit_and,Bool.and_eq_true] at d;rw[d.2];rfl
  | false=>
   cases hbi:b.testBit i with
   | false=>rfl
   | true=>
    have c:=Ha i hbi;rw[iz,Nat.testBit_and] at c
    revert c
    cases F.testBit i <;> cases on.testBit i <;> simp
 refine⟨?_,?_,?_⟩
 ·rw[hs,o5 Hc];omega
 ·rw[hs];exact sT (sS has (th F on)) (sS Ha (vS F _))
 ·rw[Hb];exact f
theorem nI(A B:Nat)(a:A<18446744073709551616)(b:B<18446744073709551616):bits BinOp.andNot IntKind.u64 (A:Int) (B:Int)=((aG A B:Nat):Int):=by
 rw[u64_andNot_nat A B a b];have key:A &&& (18446744073709551615 - B)=aG A B:=by
  apply Nat.eq_of_testBit_eq;intro i;rw[Nat.testBit_and,iz]
  by_cases hi:i<64
  ·have e:(18446744073709551615 - B).testBit i=!B.testBit i:=by
    have:=Nat.testBit_two_pow_sub_succ (n:=64) b i
    rw[show 2 ^ 64 - (B+1)=18446744073709551615 - B by omega] at this;rw[this,Qc hi];simp
   rw[e]
  ·have:A.testBit i=false:=Nat.testBit_lt_two_pow (Q1 a (Nat.pow_le_pow_right (n:=2) (by omega) (show 64<=i by omega)))
   rw[this];simp
 rw[key]
theorem Km(A B:Nat):aG A B=0↔A &&& B=A:=by
 rw[lu];constructor
 ·intro h i hi;have e:(aG A B).testBit i=false:=by rw[h,Nat.zero_testBit]
  rw[iz,hi] at e
  simpa using e
 ·intro h;apply Nat.eq_of_testBit_eq;intro i;rw[iz,Nat.zero_testBit];cases hA:A.testBit i with
  | false=>rfl
  | true=>rw[h i hA];rfl
theorem Kn(A B:Nat)(a:A<18446744073709551616)(b:B<18446744073709551616):(bits BinOp.andNot IntKind.u64 (A:Int) (B:Int) == 0)=decide (A &&& B=A):=by grind[nI,Km]
theorem nJ(A B:Nat)(w:World)(a:A<18446744073709551616)(c:B<18446744073709551616) :
  Calls prog 43 #[.int .u64 A,.int .u64 B] w λe w'=>e=.returned (.bool (decide (A &&& B=A)))/\w'=w:=by
 have H:=qI (Kn A B a c)
 go_enter func43,ntmps43
 go_wp2
 go_ret;exact⟨congrArg (λb=>Ending.returned (.bool b)) H.o,rfl⟩
theorem Ko:(prog.info? 3).map (λi=>(i.zero,i.size,i.bytes))=some (some (.int .i64 0),1,8):=by kernel_rfl
def nums (l:List Nat):List Value:=l.map λ(n:Nat)=>Value.int .i64 (n:Int)
theorem Kp(l:List Nat)(n:Nat):nums (l++[n])=nums l++[.int .i64 n]:=by simp[nums]
theorem ti(A k:Nat):(bf A k).length<=k:=by
 unfold bf;exact Q5 (List.length_filter_le _ _) (by simp)
theorem Kq(A:Nat)(w:World)(d:A<18446744073709551616) :
  Calls prog 264 #[.int .u64 A] w λe w'=>∃v,e=.returned v/\w'.ownsRow w 3 1 v (bf A 64).length (nums (bf A 64))/\Below w w w':=by
 obtain⟨i0,hi,Hj,Hk,Hi⟩:=info_parts Ko
 go_enter func264,ntmps264
 go_wp2
 go_loopw [3,5] (λv i wr=>∃k:Nat,k<=64/\i=.int .i64 k/\wr.ownsRow w 3 1 v (bf A k).length (nums (bf A k))/\Below w w wr) (λ_ i _=>64 - (intOf i).toNat)
 case atStart=>exact⟨0,by omega,rfl,Qw _ _ _ _,Q0 _ _⟩
 case round=>
  obtain⟨k,f,rfl,Ha,He⟩:=hrel
  by_cases a:k<64
  ·have hle:=ti A k;have Hl:=He.size
   by_cases c:A.testBit k=true
   ·have HS:Hu (bf A (k+1)=bf A k++[k]):=by unfold Hu;rw[nu,if_pos c]
    have b:=vd A k wr d a;rw[c] at b;have Hg:Hu (Calls prog 148 #[.int .u64 A,(k:Int)] wr λe w'=>e=.returned true/\w'=wr):=b;clear b c
    go_wp2_with (first
     | (go_at_call 148;refine Hg.o.mono ?_;rintro e w' ⟨rfl,rfl⟩)
     | (at_builtin;refine wpList_append_own _ rfl _ _ 46 rfl w.heap.size 3 i0 (.int .i64 0) 1 8 underlying46 hi Hj Hk Hi rfl (by decide) _ _ _ rfl (Ha.alloc _) ⟨_,0,none⟩ 1 1 [.int .i64 k] rfl rfl (cell_one_new _ _ _) (ints_oneCell .i64 [(k:Int)]) (by unfold maxLen;omega) (by omega) (by simp;omega) ?_;intro h l Hc Hb _))
    go_roundw
    case rel=>
     refine⟨k+1,by omega,by go_num,?_,?_⟩
     ·rw[HS.o,Kp,Q2];exact Hc
     ·exact (He.alloc Hl _).grown Hb (by simp;omega) λj g=>(Ha.lt j g).1
    case measure=>simp[intOf];omega
   ·have Hh:A.testBit k=false:=by simpa using c
    have HS:Hu (bf A (k+1)=bf A k):=by unfold Hu;rw[nu,if_neg c]
    have b:=vd A k wr d a;rw[Hh] at b;have Hg:Hu (Calls prog 148 #[.int .u64 A,(k:Int)] wr λe w'=>e=.returned false/\w'=wr):=b;clear b c Hh
    go_wp2_with (go_at_call 148;refine Hg.o.mono ?_;rintro e w' ⟨rfl,rfl⟩)
    go_roundw
    case rel=>
     refine⟨k+1,by omega,by go_num,?_,He⟩;rw[HS.o];exact Ha
    case measure=>simp[intOf];omega
  ·have Hf:k=64:=by omega
   subst Hf;clear f a
   go_wp2
   go_ret;exact⟨_,rfl,Ha,He⟩
section
open RowKit Go.ChangeMaps
open Go.Maps (Keyed int_keyed keyOf_int_mk)
def fT (w:World) (B n:Nat) (f:Int->Int):Prop:=
 ∃D:DataW Unit,w.ownsMap prog 3 (plainElem prog 3) B n D/\∀k:Int,0<=k->k<64->D.atKey (.int .i64 k) (.lit (.int .i64 0))=.lit (.int .i64 (f k))
theorem fT.alloc{f:Int->Int}(h:fT w B n f)(o:Obj):fT (w.alloc o) B n f:=by
 obtain⟨D,a,b⟩:=h;exact⟨D,a.alloc o,b⟩
theorem fT.below{w':World}{K:Nat}{f:Int->Int}(h:fT w B n f)(c:Below K w w')(e:B<K):fT w' B n f:=by
 obtain⟨D,⟨g,a,d,r⟩,b⟩:=h;exact⟨D,⟨g,a,(c.block B e).trans d,r⟩,b⟩
theorem fT.lt{f:Int->Int}(h:fT w B n f):B<w.heap.size:=by
 obtain⟨D,a,_⟩:=h;exact a.lt
theorem fT.made(w:World):fT (w.alloc (.map #[] 0)) w.heap.size 0 (λ_=>0):=
 ⟨.map [],World.ownsMap_made w _ _ _,λ_ _ _=>rfl⟩
theorem Kr(w:World):(zeroValue 3).run prog w=.ok (0:Int) w:=by kernel_rfl
theorem Ks{d:Array Oper}{rest:List Oper}{o:Oper}{a:Act}{Q:Exit->Act->World->Prop}(w:World)(l:o.guard=none)(m x:Operand)(g:o.op=Op.lookup 365 m x false)
  (B n:Nat) (f:Int->Int) (k:Int) (h:0<=k) (b:k<64) (r:a.eval m=.map (some B)) (p:a.eval x=.int .i64 k) (s:fT w B n f)
  (j:wpList prog d Q rest (a.put o.dst (.int .i64 (f k))) w) :
  wpList prog d Q (o :: rest) a w:=by
 obtain⟨D,q,i⟩:=s;refine wpList_lookup_own_int w l m x 365 g 3 3 .i64 sC underlying365 underlying3 (Kr w) B n D r q _ (.int .i64 k) p (keyOf_int_mk underlying3 (sD h b)) ?_;intro c e _;rw[i k h b] at e;simp only[DataW.lit.injEq,Lit.int.injEq,true_and] at e;rw[<- e];exact j
end
theorem Kt(m b o c F:Nat)(L:Int)(l:List ah)(w:World)(j:bG w m b o c l)(x:F<18446744073709551616)(A:0<=L)(E:L<=64) :
  Calls prog 211 #[.func (.func 212) #[.pointer (some ⟨m,0,none⟩)] #[],.int .u64 F,L] w λe w'=>e=.returned (.int .u64 (kC (dN l) F L:Nat))/\Below w w w':=by
 have y:=qI j;have Hk:=j.len;clear j
 go_enter func211,ntmps211
 go_wp2
 go_loopw [7,10] (λt i wr=>∃k:Nat,k<=64/\i=.int .i64 k/\t=.int .u64 (bt (dN l) F L k:Nat)/\Hu (bG wr m b o c l)/\Below w w wr) (λ_ i _=>64 - (intOf i).toNat)
 case atStart=>exact⟨0,by omega,rfl,rfl,y,Q0 _ _⟩
 case round=>
  obtain⟨k,B,rfl,rfl,Hc,p⟩:=hrel
  by_cases r:k<64
  ·have HS:Hu (Calls prog 212 #[m,(k:Int)] wr λe w'=>e=.returned (.int .u64 (dN l k:Nat))/\Below wr wr w'):=Hq m b o c l k wr Hc.o;have hs:=v7 (·.sock) Hk k
   change dN l k<_ at hs
   have j:=vU (dN l) F L k x;have Hg:=qI λW=>ky (dN l k) W hs;have Hb:=qI λW=>ky (bt (dN l) F L k) W j;have Hi:=sW (sY (·.sock) l) F L A k
   change (aA (bt (dN l) F L k):Int)<=L at Hi
   have g:=qI λW=>nJ (dN l k) F W hs x;have C:=qI λa q=>Ay (f:=dN l) (free:=F) (many:=L) (k:=k) a q;have Hh:=qI λa=>Az (f:=dN l) (free:=F) (many:=L) (k:=k) a;have Hj:=qI λa=>AA (f:=dN l) (free:=F) (many:=L) (k:=k) a;have z:=qI (bits_or_u64_nat (bt (dN l) F L k) (dN l k) j hs)
   change Hu (∀W,Calls _ _ _ W λe w'=>e=.returned (.int .i64 (aA (dN l k):Nat))/\w'=W) at Hg
   change Hu (∀W,Calls _ _ _ W λe w'=>e=.returned (.int .i64 (aA (bt (dN l) F L k):Nat))/\w'=W) at Hb
   generalize dN l k=s at *
   go_wp2_with (go_at_call 212;refine HS.o.mono ?_;rintro e u ⟨rfl,v⟩)
   have Ha:=p.trans (v.mono p.size);have He:=qI (Hc.o.below v);clear Hc v p HS
   by_cases a:s &&& F=s
   ·have d:decide (s &&& F=s)=true:=Qc a
    by_cases q:(aA s:Int)<=L - aA (bt (dN l) F L k)
    ·have n:Hu (bt (dN l) F L (k+1)=bt (dN l) F L k ||| s):=C.o a q;rw[d] at g;clear a d;refine (g.o u).mono ?_;rintro e h ⟨rfl,rfl⟩
     go_wp2_with fail
     refine (Hg.o _).mono ?_;rintro e h ⟨rfl,rfl⟩
     go_wp2_with fail
     refine (Hb.o _).mono ?_;rintro e h ⟨rfl,rfl⟩
     go_wp2
     go_roundw
     case rel=>exact⟨k+1,by omega,by go_num,by rw[n.o,<- z.o],He,Ha⟩
     case measure=>simp[intOf];omega
    ·have n:Hu (bt (dN l) F L (k+1)=bt (dN l) F L k):=Hj.o (by omega);have D:L - aA (bt (dN l) F L k)<(aA s:Int):=by omega
     rw[d] at g;clear a d q;refine (g.o u).mono ?_;rintro e h ⟨rfl,rfl⟩
     go_wp2_with fail
     refine (Hg.o _).mono ?_;rintro e h ⟨rfl,rfl⟩
     go_wp2_with fail
     refine (Hb.o _).mono ?_;rintro e h ⟨rfl,rfl⟩
     go_wp2
     go_roundw
     case rel=>exact⟨k+1,by omega,by go_num,by rw[n.o],He,Ha⟩
     case measure=>simp[intOf];omega
   ·have d:decide (s &&& F=s)=false:=Q7 a;have n:Hu (bt (dN l) F L (k+1)=bt (dN l) F L k):=Hh.o a;rw[d] at g;clear a d;refine (g.o u).mono ?_;rintro e h ⟨rfl,rfl⟩
    go_wp2
    go_roundw
    case rel=>exact⟨k+1,by omega,by go_num,by rw[n.o],He,Ha⟩
    case measure=>simp[intOf];omega
  ·have Hf:k=64:=by omega
   subst Hf;clear B r
   go_wp2
   go_ret;exact⟨rfl,p⟩
theorem Ku(m b o c F:Nat)(L:Int)(l:List ah)(w:World)(j:bG w m b o c l)(x:F<18446744073709551616)(A:0<=L)(E:L<=64) :
  Calls prog 211 #[.func (.func 213) #[.pointer (some ⟨m,0,none⟩)] #[],.int .u64 F,L] w λe w'=>e=.returned (.int .u64 (kC (bP l) F L:Nat))/\Below w w w':=by
 have y:=qI j;have Hk:=j.len;clear j
 go_enter func211,ntmps211
 go_wp2
 go_loopw [7,10] (λt i wr=>∃k:Nat,k<=64/\i=.int .i64 k/\t=.int .u64 (bt (bP l) F L k:Nat)/\Hu (bG wr m b o c l)/\Below w w wr) (λ_ i _=>64 - (intOf i).toNat)
 case atStart=>exact⟨0,by omega,rfl,rfl,y,Q0 _ _⟩
 case round=>
  obtain⟨k,B,rfl,rfl,Hc,p⟩:=hrel
  by_cases r:k<64
  ·have HS:Hu (Calls prog 213 #[m,(k:Int)] wr λe w'=>e=.returned (.int .u64 (bP l k:Nat))/\Below wr wr w'):=zm m b o c l k wr Hc.o;have hs:=v7 (·.core) Hk k
   change bP l k<_ at hs
   have j:=vU (bP l) F L k x;have Hg:=qI λW=>ky (bP l k) W hs;have Hb:=qI λW=>ky (bt (bP l) F L k) W j;have Hi:=sW (sY (·.core) l) F L A k
   change (aA (bt (bP l) F L k):Int)<=L at Hi
   have g:=qI λW=>nJ (bP l k) F W hs x;have C:=qI λa q=>Ay (f:=bP l) (free:=F) (many:=L) (k:=k) a q;have Hh:=qI λa=>Az (f:=bP l) (free:=F) (many:=L) (k:=k) a;have Hj:=qI λa=>AA (f:=bP l) (free:=F) (many:=L) (k:=k) a;have z:=qI (bits_or_u64_nat (bt (bP l) F L k) (bP l k) j hs)
   change Hu (∀W,Calls _ _ _ W λe w'=>e=.returned (.int .i64 (aA (bP l k):Nat))/\w'=W) at Hg
   change Hu (∀W,Calls _ _ _ W λe w'=>e=.returned (.int .i64 (aA (bt (bP l) F L k):Nat))/\w'=W) at Hb
   generalize bP l k=s at *
   go_wp2_with (go_at_call 213;refine HS.o.mono ?_;rintro e u ⟨rfl,v⟩)
   have Ha:=p.trans (v.mono p.size);have He:=qI (Hc.o.below v);clear Hc v p HS
   by_cases a:s &&& F=s
   ·have d:decide (s &&& F=s)=true:=Qc a
    by_cases q:(aA s:Int)<=L - aA (bt (bP l) F L k)
    ·have n:Hu (bt (bP l) F L (k+1)=bt (bP l) F L k ||| s):=C.o a q;rw[d] at g;clear a d;refine (g.o u).mono ?_;rintro e h ⟨rfl,rfl⟩
     go_wp2_with fail
     refine (Hg.o _).mono ?_;rintro e h ⟨rfl,rfl⟩
     go_wp2_with fail
     refine (Hb.o _).mono ?_;rintro e h ⟨rfl,rfl⟩
     go_wp2
     go_roundw
     case rel=>exact⟨k+1,by omega,by go_num,by rw[n.o,<- z.o],He,Ha⟩
     case measure=>simp[intOf];omega
    ·have n:Hu (bt (bP l) F L (k+1)=bt (bP l) F L k):=Hj.o (by omega);have D:L - aA (bt (bP l) F L k)<(aA s:Int):=by omega
     rw[d] at g;clear a d q;refine (g.o u).mono ?_;rintro e h ⟨rfl,rfl⟩
     go_wp2_with fail
     refine (Hg.o _).mono ?_;rintro e h ⟨rfl,rfl⟩
     go_wp2_with fail
     refine (Hb.o _).mono ?_;rintro e h ⟨rfl,rfl⟩
     go_wp2
     go_roundw
     case rel=>exact⟨k+1,by omega,by go_num,by rw[n.o],He,Ha⟩
     case measure=>simp[intOf];omega
   ·have d:decide (s &&& F=s)=false:=Q7 a;have n:Hu (bt (bP l) F L (k+1)=bt (bP l) F L k):=Hh.o a;rw[d] at g;clear a d;refine (g.o u).mono ?_;rintro e h ⟨rfl,rfl⟩
    go_wp2
    go_roundw
    case rel=>exact⟨k+1,by omega,by go_num,by rw[n.o],He,Ha⟩
    case measure=>simp[intOf];omega
  ·have Hf:k=64:=by omega
   subst Hf;clear B r
   go_wp2
   go_ret;exact⟨rfl,p⟩
end Go.Proofs.YtjlblidnfebmiaaGreatDoor
namespace Go.Proofs
open Go.Shelf
def Tryz.sortL_ren:Go.Shelf.Ren:=⟨fun|6=>265|15=>161|14=>291|28=>202|29=>203|20=>307|21=>308|22=>309|23=>310|24=>311|25=>312|26=>313|27=>314|46=>323|47=>254|48=>255|49=>324|50=>325|57=>327|n=>n,fun|22=>46|24=>3|25=>260|3=>3|39=>219|0=>0|53=>296|55=>23|4=>4|46=>312|45=>311|50=>134|5=>5|9=>9|66=>357|70=>361|76=>389|77=>390|n=>n,fun|n=>n⟩
theorem Tryz.sortL:Go.Proofs.SlLaysF.n6 Tryz.prog Tryz.sortL_ren:=by
 constructor
 case f6=>exact ⟨Tryz.f265.name,by decide,Tryz.func265.trans (congrArg some (by kernel_rfl))⟩
 case f14=>exact ⟨Tryz.f291.name,by decide,Tryz.func291.trans (congrArg some (by kernel_rfl))⟩
 case f20=>exact ⟨Tryz.f307.name,by decide,Tryz.func307.trans (congrArg some (by kernel_rfl))⟩
 case f21=>exact ⟨Tryz.f308.name,by decide,Tryz.func308.trans (congrArg some (by kernel_rfl))⟩
 case f22=>exact ⟨Tryz.f309.name,by decide,Tryz.func309.trans (congrArg some (by kernel_rfl))⟩
 case f23=>exact ⟨Tryz.f310.name,by decide,Tryz.func310.trans (congrArg some (by kernel_rfl))⟩
 case f24=>exact ⟨Tryz.f311.name,by decide,Tryz.func311.trans (congrArg some (by kernel_rfl))⟩
 case f25=>exact ⟨Tryz.f312.name,by decide,Tryz.func312.trans (congrArg some (by kernel_rfl))⟩
 case f26=>exact ⟨Tryz.f313.name,by decide,Tryz.func313.trans (congrArg some (by kernel_rfl))⟩
 case f27=>exact ⟨Tryz.f314.name,by decide,Tryz.func314.trans (congrArg some (by kernel_rfl))⟩
 case f46=>exact ⟨Tryz.f323.name,by decide,Tryz.func323.trans (congrArg some (by kernel_rfl))⟩
 case f49=>exact ⟨Tryz.f324.name,by decide,Tryz.func324.trans (congrArg some (by kernel_rfl))⟩
 case f50=>exact ⟨Tryz.f325.name,by decide,Tryz.func325.trans (congrArg some (by kernel_rfl))⟩
 case f57=>exact ⟨Tryz.f327.name,by decide,Tryz.func327.trans (congrArg some (by kernel_rfl))⟩
 all_goals intros;kernel_rfl
def Tryz.cmpL_ren:Go.Shelf.Ren:=⟨fun|5=>153|7=>187|n=>n,fun|22=>3|3=>3|4=>4|n=>n,fun|n=>n⟩
theorem Tryz.cmpL:Go.Proofs.SlLaysC2.n5 Tryz.prog Tryz.cmpL_ren:=by
 constructor
 case f5=>exact ⟨Tryz.f153.name,by decide,Tryz.func153.trans (congrArg some (by kernel_rfl))⟩
 case f7=>exact ⟨Tryz.f187.name,by decide,Tryz.func187.trans (congrArg some (by kernel_rfl))⟩
 all_goals intros;kernel_rfl
end Go.Proofs
namespace Go.Proofs.YtjlblidnfebmiaaGreatDoor
variable{F b c fc k lc mb n o tb tc:Nat}{f:Int->Int}{l:List ah}{w w' wr wr':World}
section
open Go.Sort
def ee (w w':World):Prop:=∃q os,w'=grow (w.drewN q) os
theorem ee.refl(w:World):ee w w:=⟨0,#[],by rw[grow_empty];rfl⟩
theorem ee.alloc(h:ee w w')(o:Obj):ee w (w'.alloc o):=by
 obtain⟨q,os,rfl⟩:=h;exact⟨q,os++#[o],by rw[alloc_eq_grow,grow_grow]⟩
theorem ee.drewN(h:ee w w')(n:Nat):ee w (w'.drewN n):=by
 obtain⟨q,os,rfl⟩:=h;exact⟨q+n,os,by simp only[World.drewN,grow,Nat.add_assoc]⟩
theorem ee.trans{a b c:World}(h:ee a b)(k:ee b c):ee a c:=by
 obtain⟨q,os,rfl⟩:=h;obtain⟨e,d,rfl⟩:=k;exact⟨q+e,os++d,by simp only[World.drewN,grow,Nat.add_assoc,Array.append_assoc]⟩
theorem ee.below(h:ee w w'):Below w w w':=by
 obtain⟨q,os,rfl⟩:=h;exact⟨rfl,rfl,rfl,by simp[World.drewN],λk a=>by simp[grow,World.drewN,Array.getElem?_append,a]⟩
theorem Kv(w:World)(K blk off m:Nat)(a:Array Nat)(os:Array Obj)(f:K<=blk)(d:K<=w):Below K w (sortWorld (λn:Nat=>Value.int .i64 (n:Int)) w blk off m a os):=by
 refine⟨rfl,rfl,rfl,?_,λk e=>?_⟩
 ·simp[sortWorld,grow,Sort.putRow,Sort.mapBlock,Sort.ahead]
 ·have b:k<w.heap.size:=by omega
  have c:blk≠k:=by omega
  simp[sortWorld,grow,Sort.putRow,Sort.mapBlock,Sort.ahead,Array.getElem?_append,Array.getElem_modify,b,c]
theorem Kw(n:Nat)(f b o c:Nat)(l:List ah)(w:World)(a:bG w f b o c l) :
  Calls prog 263 #[f,(n:Int)] w λe w'=>(∃err,e=.returned (.tuple #[.agg #[((l.getD n av).core:Int),((l.getD n av).sock:Int),((l.getD n av).node:Int)],err]))/\ee w w':=by
 have Ha:=((Q0 w w).alloc (lR) (.cells #[(0:Int),(0:Int),(0:Int)] 74));have j:=(a.below Ha).cell;have i:=a.len
 by_cases g:n<l.length
 ·obtain⟨Hc,Hb,He⟩:=(a.below Ha).cells n g;clear a Ha;generalize l.getD n av=x at *
  go_enter func263,ntmps263
  go_wp2_with fail
  (try simp only[Exit.inBlock,Exit.then]);refine bodyPost_ret (v:=.tuple #[.agg #[(x.core:Int),(x.sock:Int),(x.node:Int)],.nilIface]) ?_ rfl ⟨⟨_,rfl⟩,?_⟩
  ·rw[results_cell_tmp rfl];go_simp
  ·exact (ee.refl w).alloc _
 ·have d:l.getD n av=av:=by simp[show l.length<=n by omega]
  rw[d];clear a Ha d;have h:(l.length:Int)<=n:=by omega
  clear g
  go_enter func263,ntmps263
  go_wp2_with fail
  (try simp only[Exit.inBlock,Exit.then]);refine bodyPost_ret (v:=.tuple #[.agg #[(0:Int),(0:Int),(0:Int)],.iface 108 (1:Int)]) ?_ rfl ⟨⟨_,rfl⟩,?_⟩
  ·rw[results_cell_tmp rfl];go_simp
  ·exact (ee.refl w).alloc _
structure jt (w:World) (tc lc fc tb b o c mb n:Nat) (l:List ah) (f:Int->Int):Prop where
 t:w.cell? tc=some (.pointer (some ⟨tb,0,none⟩))
 m:w.cell? lc=some (.map mb)
 fn:w.cell? fc=some (.func (.func 262) #[] #[.pointer (some ⟨tc,0,none⟩),.pointer (some ⟨lc,0,none⟩)])
 topo:bG w tb b o c l
 left:fT w mb n f
theorem jt.below{K:Nat}(h:jt w tc lc fc tb b o c mb n l f)(a:Below K w w')(q:tc<K/\lc<K/\fc<K/\tb<K/\b<K/\mb<K):jt w' tc lc fc tb b o c mb n l f:=by
 obtain⟨e,i,s,m,d,r⟩:=q;exact⟨(a.cell (p:=tc) e).trans h.t,(a.cell (p:=lc) i).trans h.m,(a.cell (p:=fc) s).trans h.fn,
  ⟨(a.cell (p:=tb) m).trans h.topo.cell,λk j=>by
   obtain⟨g,a2,a3⟩:=h.topo.cells k j;exact⟨(a.cell (p:=⟨b,o+k*3,none⟩) d).trans g,(a.cell (p:=⟨b,o+k*3+1,none⟩) d).trans a2,(a.cell (p:=⟨b,o+k*3+2,none⟩) d).trans a3⟩,Q1 h.topo.lt a.size,h.topo.len⟩,
  h.left.below a r⟩
theorem jt.lts(h:jt w tc lc fc tb b o c mb n l f):tc<w/\lc<w/\fc<w/\tb<w/\b<w/\mb<w:=
 ⟨Q3 w _ h.t,Q3 w _ h.m,Q3 w _ h.fn,h.topo.tlt,h.topo.lt,h.left.lt⟩
theorem AH(a:Good l)(n:Nat):0<=(l.getD n av).core/\(l.getD n av).core<64:=by
 by_cases b:n<l.length
 ·have:=a (l.getD n av) (by simp[b])
  omega
 ·have c:l.getD n av=av:=by simp[show l.length<=n by omega]
  rw[c];decide
theorem AI(k:Nat)(a d s j b o c m n:Nat)(l:List ah)(f:Int->Int)(w:World)(h:jt w a d s j b o c m n l f)(i:Good l) :
  Calls prog 262 #[(k:Int),a,d] w λe w'=>e=.returned (f (l.getD k av).core:Int)/\ee w w':=by
 have g:=qI (Kw k j b o c l w h.topo);have HS:=qI h;have t:=qI h.lts;have q:=h.t;obtain⟨p,Hc⟩:=AH i k;clear h i;generalize l.getD k av=x at *
 go_enter func262,ntmps262
 go_wp2_with fail
 refine g.o.mono ?_;rintro e u ⟨⟨err,rfl⟩,Hb⟩;have Ha:=qI (HS.o.below Hb.below t.o);have v:=gW Ha.o.m (.cells #[(x.core:Int),(x.sock:Int),(x.node:Int)] 74);have r:=Ha.o.left.alloc (.cells #[(x.core:Int),(x.sock:Int),(x.node:Int)] 74);clear g q
 go_wp2_with (at_lookup;refine Ks _ rfl _ _ rfl m n f x.core p Hc rfl rfl r ?_)
 go_ret;exact⟨rfl,Hb.alloc _⟩
end
theorem Kx(g c:Nat)(x y:Int)(w:World)(f:w.cell? g=some (.int .i64 x))(d:w.cell? ⟨g,1,none⟩=some (.int .i64 y)) :
  Calls prog 86 #[.slice g 2 c] w λe w'=>e=.returned (if x=0 then y else x:Int)/\w'=w:=by
 by_cases a:x=0
 ·rw[if_pos a];subst a
  by_cases b:y=0
  ·subst b
   go_enter func86,ntmps86
   go_wp2_with fail
   refine wp_loop_rounds 3 ?_;rw[rounds_succ]
   go_wp2_with fail
   rw[rounds_succ]
   go_wp2_with fail
   rw[rounds_succ]
   go_wp2
   go_ret;exact⟨rfl,rfl⟩
  ·have q:(y != 0)=true:=by rw[bne_iff_ne];exact b
   clear b
   go_enter func86,ntmps86
   go_wp2_with fail
   refine wp_loop_rounds 2 ?_;rw[rounds_succ]
   go_wp2_with fail
   rw[rounds_succ]
   go_wp2
   go_ret;exact⟨rfl,rfl⟩
 ·rw[if_neg a];have q:(x != 0)=true:=by rw[bne_iff_ne];exact a
  clear a
  go_enter func86,ntmps86
  go_wp2_with fail
  refine wp_loop_rounds 1 ?_;rw[rounds_succ]
  go_wp2
  go_ret;exact⟨rfl,rfl⟩
def jX (cl:Nat->Nat) (x y:Nat):Int:=if Lib.compareInt (cl x) (cl y)=0 then Lib.compareInt x y else Lib.compareInt (cl x) (cl y)
theorem AJ(x y:Int)(w:World):Calls prog 153 #[x,y] w λe w'=>e=.returned (Lib.compareInt x y:Int)/\w'=w:=AnyG.cmp_Compare_int Tryz.cmpL x y w
theorem Ky(x y:Nat)(i j m s b o c t n:Nat)(l:List ah)(f:Int->Int)(cl:Nat->Nat)(w:World)(h:jt w i j m s b o c t n l f)(q:Good l)(hf:∀k,f (l.getD k av).core=(cl k:Nat)) :
  Calls prog 266 #[(x:Int),(y:Int),m] w λe w'=>e=.returned (jX cl x y:Int)/\ee w w':=by
 have HS:=qI h;have p:=qI h.lts;have He:ee w w.drew:=(ee.refl w).drewN 1;have Hj:Hu (∀W,jt W i j m s b o c t n l f->Calls prog 262 #[(x:Int),i,j] W λe w'=>e=.returned (.int .i64 (cl x:Nat))/\ee W w'):=λW A=>by
  rw[<- hf x];exact AI x i j m s b o c t n l f W A q
 have Hi:Hu (∀W,jt W i j m s b o c t n l f->Calls prog 262 #[(y:Int),i,j] W λe w'=>e=.returned (.int .i64 (cl y:Nat))/\ee W w'):=λW A=>by
  rw[<- hf y];exact AI y i j m s b o c t n l f W A q
 have B:Hu (jX cl x y=if Lib.compareInt (cl x) (cl y)=0 then Lib.compareInt x y else Lib.compareInt (cl x) (cl y)):=rfl;have Hg:=qI λW=>AJ (cl x) (cl y) W;have Hh:=qI λW=>AJ x y W;have Hf:=qI λg c W C E=>Kx g c (Lib.compareInt (cl x) (cl y)) (Lib.compareInt x y) W C E;rw[<- B.o] at Hf;generalize jX cl x y=r at *;generalize cl x=F at *;generalize cl y=D at *;generalize Lib.compareInt (F:Int) (D:Int)=u at *;generalize Lib.compareInt (x:Int) (y:Int)=v at *;clear B h hf
 go_enter func266,ntmps266
 go_wp2_with fail
 refine wp_region_held_drew (S:=(λw'=>w'.cell? m=some (.func (.func 262) #[] #[.pointer (some ⟨i,0,none⟩),.pointer (some ⟨j,0,none⟩)])/\Hu (jt w' i j m s b o c t n l f))) (by kernel_rfl) ⟨(HS.o.below He.below p.o).fn,HS.o.below He.below p.o⟩ λd=>?_;refine tk 0 ?_;refine tk 1 ?_;refine tk 3 ?_;refine tk 4 ?_;refine tk 7 ?_;refine tk 8 ?_;refine rd 2 λK a=>?_;go_simp
 go_wp2_with fail
 refine (Hj.o _ d.2.o).mono ?_;rintro e G ⟨rfl,q⟩;have Hc:=He.trans q;clear q
 go_wp2_with fail
 refine a.o _ _ ⟨(HS.o.below Hc.below p.o).fn,HS.o.below Hc.below p.o⟩ λd=>?_;clear a K;refine rd 5 λK a=>?_;go_simp
 go_wp2_with fail
 refine (Hi.o _ d.2.o).mono ?_;rintro e J ⟨rfl,q⟩;have Ha:=Hc.trans q;clear q
 go_wp2_with fail
 refine a.o _ _ ⟨(HS.o.below Ha.below p.o).fn,HS.o.below Ha.below p.o⟩ λd=>?_;clear a K;refine rd 6 λK a=>?_;go_simp
 go_wp2_with fail
 refine (Hg.o _).mono ?_;rintro e I ⟨rfl,rfl⟩
 go_wp2_with fail
 refine a.o _ _ d λd=>?_;clear a K;refine rd 9 λK a=>?_;go_simp
 go_wp2_with fail
 refine (Hh.o _).mono ?_;rintro e z ⟨rfl,rfl⟩
 go_wp2_with fail
 refine a.o _ _ d λd=>?_;clear a K;refine rd 10 λK a=>?_;go_simp;have Hb:=Ha.alloc (.cells #[(u:Int),(v:Int)] 3);have c0:(z.alloc (.cells #[(u:Int),(v:Int)] 3)).cell? z=some (.int .i64 u):=by simp
 have c1:(z.alloc (.cells #[(u:Int),(v:Int)] 3)).cell? ⟨z,1,none⟩=some (.int .i64 v):=by simp
 refine a.o _ _ ⟨(HS.o.below Hb.below p.o).fn,HS.o.below Hb.below p.o⟩ λd=>?_;clear a K;refine rd 11 λK a=>?_;go_simp
 go_wp2_with fail
 refine (Hf.o _ _ _ c0 c1).mono ?_;rintro e H ⟨rfl,rfl⟩
 go_wp2_with fail
 refine a.o _ _ d λd=>?_;clear a K;refine tk 12 ?_;refine Qn (by kernel_rfl) ?_ _
 go_wp2
 go_ret;exact⟨rfl,Hb⟩
section
open Go.Sort
theorem qA(cl:Nat->Nat)(x y:Nat):ltOf (jX cl) x y=jW cl x y:=by grind[ltOf,jX,Lib.compareInt,jW]
theorem Kz(cl:Nat->Nat):SWO (ltOf (jX cl)) where
 irrefl x:=by rw[qA];simp[jW]
 trans x y z h1 h2:=by rw[qA] at *;simp[jW] at *;omega
 ntrans x y z h1 h2:=by rw[qA] at *;simp[jW] at *;omega
theorem KA(cl:Nat->Nat)(x y:Nat)(a:ltOf (jX cl) x y=false)(b:ltOf (jX cl) y x=false):x=y:=by
 rw[qA] at a b;exact Kh a b
def KB (w:World) (v:Value) (L:List Nat):Prop:=
 (L=[]/\v=.slice none 0 0)\/∃g c,v=.slice (some ⟨g,0,none⟩) L.length c/\L.length<=c/\∀k,k<L.length->w.cell? ⟨g,k,none⟩=some (.int .i64 ((L.getD k 0:Nat):Int))
def my (n:Nat):Value:=Value.int .i64 (n:Int)
theorem AK(w:World)(K blk off m:Nat)(a:Array Nat)(os:Array Obj)(c:K<=blk)(b:K<=w):Below K w (sortWorld my w blk off m a os):=Kv w K blk off m a os c b
theorem KC{g:Nat}{a:Array Value}{e:TypeId}{L:List Nat}(c:w.heap[g]?=some (.cells a e (0,0)))(f:a.toList.take (L.length*1)=nums L):Holds my w g 0 L.toArray:=by
 intro j d;have Ha:j<L.length:=by simpa using d
 have h:a[j]?=some (.int .i64 ((L.getD j 0:Nat):Int)):=by
  have b:(a.toList.take (L.length*1))[j]?=some (.int .i64 ((L.getD j 0:Nat):Int)):=by
   rw[f];simp[nums,Ha]
  rw[List.getElem?_take] at b;rw[if_pos (by omega)] at b
  simpa using b
 have hd:L.toArray[j]! = L.getD j 0:=by simp[Ha]
 refine⟨?_,?_⟩
 ·rw[hd];unfold World.cell?;rw[c];simp[h,my]
 ·unfold World.frozen?;rw[c];simp
theorem KD(v:Value)(A K:Nat)(s t d p b o c r n:Nat)(l:List ah)(f:Int->Int)(cl:Nat->Nat)(w:World)(i:w.ownsRow K 3 1 v (bf A 64).length (nums (bf A 64)))(u:K<=w)
  (h:jt w s t d p b o c r n l f) (F:s<K/\t<K/\d<K/\p<K/\b<K/\r<K) (G:Good l) (hf:∀k,f (l.getD k av).core=(cl k:Nat)) :
  Calls prog 265 #[v,.func (.func 266) #[] #[.pointer (some ⟨d,0,none⟩)]] w λe w'=>e=.returned (.tuple #[])/\KB w' v (gY cl A)/\Below K w w':=by
 rcases i.2 with⟨rfl,Hm⟩|⟨g,j,C,rfl,Hg,Hf,Hk,_,_,Hj⟩
 ·have H:gY cl A=[]:=by
   have:=sX cl A
   unfold aA at this;exact List.length_eq_zero_iff.1 (by omega)
  have a:=AnyF.slices_SortFunc_none (P:=prog) (ρ:=Tryz.sortL_ren) { Tryz.sortL with } none 0 (.func (.func 266) #[] #[.pointer (some ⟨d,0,none⟩)]) w
  change Calls prog 265 _ _ _ at a
  exact a.mono λe w' ⟨he,hw'⟩=>⟨he,.inl ⟨H,rfl⟩,by rw[hw'];exact Q0 _ _⟩
 ·have B:Holds my w g 0 (bf A 64).toArray:=KC Hf Hj;have Ha:g<w:=by
   rcases Nat.lt_or_ge g w.heap.size with Hh|Hi
   ·exact Hh
   ·rw[Array.getElem?_eq_none Hi] at Hf;cases Hf
  have L:∀args w,(callFunc 266 args).run prog w=.ok (.enter 266 args) w:=enters_of func266 (by kernel_rfl) rfl;have He:CmpLays1 prog 266 #[d] my (jX cl) g 0 (bf A 64).toArray.size w:=λm os D _ x y=>
   Ky x y s t d p b o c r n l f cl _ (h.below (AK w K g 0 m D os Hg u) F) G hf
  have Hl:=ti A 64;have a:=Any.slices_SortFunc_total Tryz.sortL my (λ_=>rfl) (jX cl) (Kz cl) 266 #[.pointer (some ⟨d,0,none⟩)] g 0 j (bf A 64).toArray w L He B Ha (by simp;omega) (KA cl)
  change Calls prog 265 _ _ _ at a
  have Hc:(λx y:Nat=>!ltOf (jX cl) y x)=λx y=>!jW cl y x:=by funext x y;rw[qA]
  rw[Hc] at a;have E:(bf A 64).toArray.size=(bf A 64).length:=by simp
  rw[E] at a;refine a.mono λe w' ⟨he,q,os,hw'⟩=>⟨he,?_,?_⟩
  ·have Hb:(gY cl A).length=(bf A 64).length:=sX cl A;have J:=holds_sortWorld my w g 0 q (bf A 64).toArray (gY cl A).toArray os Ha B (by simp[Hb]);have I:((bf A 64).toArray.toList.mergeSort λx y=>!jW cl y x).toArray=(gY cl A).toArray:=rfl;rw[I] at hw';refine .inr ⟨g,j,by rw[Hb],by omega,λk z=>?_⟩
   have:=(J k (by simpa using z)).1
   rw[hw',<- Qd k,this]
   simp[my,z]
  ·rw[hw'];exact AK w K g 0 q _ os Hg u
end
section
open RowKit Go.ChangeMaps
open Go.Maps (Keyed int_keyed keyOf_int_mk)
def ju (l:List ah) (F k:Nat) (j:Int):Int:=if 0<=j/\j<k then (aA (bP l j.toNat &&& F):Nat) else 0
theorem KE(l:List ah)(F:Nat):ju l F 0=λ_=>0:=by
 funext j;unfold ju;rw[if_neg (by omega)]
theorem KF(l:List ah)(F k:Nat):(λj=>if (k:Int)=j then ((aA (bP l k &&& F):Nat):Int) else ju l F k j)=ju l F (k+1):=by grind[ju]
theorem KH{l:List ah}(b:Good l)(F n:Nat):ju l F 64 (l.getD n av).core=(fS l F n:Nat):=by
 obtain⟨a,c⟩:=AH b n;unfold ju;rw[if_pos ⟨a,by omega⟩]
 have:bP l (l.getD n av).core.toNat=az (λx=>x.core == (l.getD n av).core) l:=by
  unfold bP md;rw[Int.toNat_of_nonneg a]
 rw[this];rfl
theorem KI{o:Oper}{a:Act}{N:Act->World->Prop}{Q:Exit->Act->World->Prop}(w:World)(m x v:Operand)(c:o.op=Op.mapUpdate 365 m x v)
  (B n:Nat) (f:Int->Int) (k:Int) (r:0<=k) (b:k<64) (y:Nat) (A:y<=64) (t:a.eval m=.map (some B)) (p:a.eval x=.int .i64 k) (u:a.eval v=.int .i64 y) (z:fT w B n f) (s:n<maxLen)
  (l:∀w',fT w' B (n+1) (λj=>if k=j then y else f j)->w.grownBy w' (some B)->N (a.put o.dst undef) w') :
  o.wp prog a w N Q:=by
 obtain⟨D,g,i⟩:=z;obtain⟨w',Ha,r1,h⟩:=g.update (e:=3) sC underlying365 s (keyOf_int_mk underlying3 (sD r b)) (plainElem_int underlying3 (WalkArith.wf_i64 (n:=(y:Int)) (by omega)));unfold Oper.wp
 simp[execOp,c,t,p,u,Ha,Result.andThen]
 refine l w' ⟨_,r1,λj q d=>?_⟩ h
 by_cases e:k=j
 ·subst e;have Hb:WideAt.IsKeyLit (Lit.int .i64 k):=trivial;rw[Maps.atKey_put_same g.isMap Hb]
  simp
 ·have Hc:(Lit.int .i64 j)≠(Lit.int .i64 k):=by simp;omega
  rw[Maps.atKey_put_other Hc];simp only[if_neg e];exact i j q d
structure g9 (wr w:World) (tb b o c:Nat) (l:List ah) (F k:Nat):Prop where
 t:wr.cell? w=some (.pointer (some ⟨tb,0,none⟩))
 m:wr.cell? ⟨w.heap.size+1+1,0,none⟩=some (.map (some (w.heap.size+1)))
 topo0:bG w tb b o c l
 left:fT wr (w.heap.size+1) k (ju l F k)
 bel:Below w w wr
theorem g9.below(h:g9 wr w tb b o c l F k)(a:Below wr wr wr'):g9 wr' w tb b o c l F k:=
 ⟨(a.cell (p:=w.heap.size) (Q3 wr _ h.t)).trans h.t,(a.cell (p:=⟨w.heap.size+1+1,0,none⟩) (Q3 wr _ h.m)).trans h.m,h.topo0,h.left.below a h.left.lt,h.bel.trans (a.mono h.bel.size)⟩
theorem g9.topo(h:g9 wr w tb b o c l F k):bG wr tb b o c l:=h.topo0.below h.bel
theorem g9.put(h:g9 wr w tb b o c l F k)(e:fT wr' (w.heap.size+1) (k+1) (ju l F (k+1)))(a:wr.grownBy wr' (some (w.heap.size+1))):g9 wr' w tb b o c l F (k+1):=
 ⟨a.cell h.t (by simp),a.cell h.m (by simp),h.topo0,e,h.bel.grown a h.bel.size (λj d=>by cases d;omega)⟩
theorem g9.drew(h:g9 wr w tb b o c l F k):g9 wr.drew w tb b o c l F k:=h.below (below_drewN (Q0 _ _) 1)
abbrev we:=λ(x0:World)=>(.cells #[.func (.func 262) #[] #[.pointer (some ⟨x0,0,none⟩),.pointer (some ⟨x0.heap.size+1+1,0,none⟩)]] 261:Obj)
theorem g9.stand(h:g9 wr w tb b o c l F 64):jt (wr.alloc (we w)) w (w.heap.size+1+1) wr tb b o c (w.heap.size+1) 64 l (ju l F 64):=
 ⟨gW h.t _,gW h.m _,by simp,h.topo.below ((Q0 _ _).alloc (lR) _),h.left.alloc _⟩
theorem KJ(d:bG w tb b o c l)(F:Nat):g9 (((w.alloc (.cells #[tb] 82)).alloc (.map #[] 0)).alloc (.cells #[.map (some (w.heap.size+1))] 365)) w tb b o c l F 0:=by
 have f:=(((Q0 w w).alloc (lR) (.cells #[tb] 82)).alloc (by simp) (.map #[] 0)).alloc (by simp;omega) (.cells #[.map (some (w.heap.size+1))] 365);have a:=(fT.made (w.alloc (.cells #[tb] 82))).alloc (.cells #[.map (some (w.heap.size+1))] 365);have e:(w.alloc (.cells #[tb] 82)).heap.size=w.heap.size+1:=by simp
 rw[e,<- KE l F] at a;exact⟨by go_simp,by go_simp,d,a,f⟩
theorem KK(d b o c F:Nat)(L:Int)(l:List ah)(w:World)(j:bG w d b o c l)(C:Good l)(r:F<18446744073709551616)(h0:0<=L)(hL:L<=64) :
  Calls prog 214 #[d,.int .u64 F,L] w λe w'=>e=.returned (.int .u64 (gz (fS l F) F L.toNat:Nat))/\Below w w w':=by
 have Z:=@run_makeMap prog;have G:=j.len;have q:=qI C;have Hx:=qI (KJ j F);clear j C
 go_enter func214,ntmps214
 go_wp2
 go_loopw [15] (λi wr=>∃k:Nat,k<=64/\i=.int .i64 k/\Hu (g9 wr w d b o c l F k)) (λi _=>64 - (intOf i).toNat)
 case atStart=>exact⟨0,by omega,rfl,Hx.o⟩
 case round=>
  clear Hx;obtain⟨k,s,hi,Hg⟩:=hrel
  by_cases f:k<64
  ·subst hi;have P:Hu (∀W,bG W d b o c l->Calls prog 213 #[d,(k:Int)] W λe w'=>e=.returned (.int .u64 (bP l k:Nat))/\Below W.heap.size W w'):=λW Q=>zm d b o c l k W Q
   have Hm:=v7 (·.core) G k
   change bP l k<_ at Hm
   have U:Hu (∀W,Calls prog 39 #[.int .u64 (bits BinOp.and IntKind.u64 (bP l k:Nat) (F:Nat))] W λe w'=>e=.returned (.int .i64 (aA (bP l k &&& F):Nat))/\w'=W):=λW=>by
    rw[bits_and_u64_nat _ _ Hm r];exact ky _ W (mx Hm (th _ F))
   have J:aA (bP l k &&& F)<=64:=ti _ 64;have E:=qI (KF l F k);generalize hcc:aA (bP l k &&& F)=cc at *;clear hcc;generalize bP l k=ck at *;have Hj:=Hg.o.drew
   go_wp2_with fail
   refine wp_region_held_drew (S:=(λw'=>cl w' (w.heap.size+1+1) (0) (.map (some (w.heap.size+1)))/\cl w' w (0) d)) (by kernel_rfl) ⟨Hj.m,Hj.t⟩ λh=>?_;refine tk 0 ?_;refine tk 1 ?_;refine tk 2 ?_;refine tk 3 ?_;refine tk 5 ?_;refine rd 4 λK a=>?_;go_simp
   go_wp2_with fail
   refine (P.o _ Hj.topo).mono ?_;rintro e w1 ⟨rfl,A⟩;have Hk:=Hj.below A;clear A
   go_wp2_with fail
   refine a.o _ _ ⟨Hk.m,Hk.t⟩ λh=>?_;clear a K;refine tk 6 ?_;refine rd 7 λK a=>?_;go_simp
   go_wp2_with fail
   refine (U.o _).mono ?_;rintro e w2 ⟨rfl,rfl⟩
   go_wp2_with fail
   refine a.o _ _ h λh=>?_;clear a K;refine rd 8 λK a=>?_;rw[if_pos (by rfl)];refine KI _ _ _ _ rfl (w.heap.size+1) k (ju l F k) k (by omega) (by omega) cc J rfl rfl rfl Hk.left (by unfold maxLen;omega) ?_;intro w3 Hr Hf;rw[E.o] at Hr;have Hq:=qI (Hk.put Hr Hf);clear Hr Hf;refine a.o _ _ ⟨Hq.o.m,Hq.o.t⟩ λh=>?_;clear a K;refine Qn (by kernel_rfl) ?_ _
   go_wp2
   go_roundw
   case rel=>exact⟨k+1,by omega,by go_num,Hq⟩
   case measure=>simp[intOf];omega
  ·have Hp:k=64:=by omega
   subst Hp;have D:_=Value.int .i64 64:=hi;clear s f hi;subst D;have HS:=qI Hg.o.stand;have Ht:=Hg.o.bel.alloc Hg.o.bel.size (we w);have Hl:=qI Ht;clear Ht
   go_wp2_with fail
   generalize wr.alloc (we w)=u at *;refine (Kq F u r).mono ?_;rintro e T ⟨v,rfl,Hc,Hi⟩;have Hb:=qI (KD v F u w (w.heap.size+1+1) wr d b o c (w.heap.size+1) 64 l (ju l F 64) (fS l F) T Hc Hi.size (HS.o.below Hi HS.o.lts) HS.o.lts q.o (KH q.o F));have y:=qI (Hl.o.trans (Hi.mono Hl.o.size));clear Hc Hi HS
   go_wp2_with fail
   refine Hb.o.mono ?_;rintro e w6 ⟨rfl,He,Hy⟩;have Hz:=qI (y.o.trans (Hy.mono Hl.o.size));clear Hy Hb y Hl Hg;have HL:(gY (fS l F) F).length<=64:=by rw[sX];exact ti F 64
   have Hn:Hu (gz (fS l F) F L.toNat=eN ((gY (fS l F) F).take L.toNat)):=rfl;have Hs:Hu (∀n∈gY (fS l F) F,n<64):=λn I=>(vZ.1 I).1
   generalize gY (fS l F) F=R at *
   rcases He with⟨rfl,rfl⟩|⟨g,cp,rfl,HM,Ha⟩
   ·have Ho:min L 0=0:=by omega
    have m:Hu (gz (fS l F) F L.toNat=0):=by unfold Hu;rw[Hn.o];simp[eN]
    go_wp2_with fail
    refine wp_loop_rounds 1 ?_;rw[rounds_succ]
    go_wp2
    go_ret;exact⟨by rw[m.o];rfl,Hz.o⟩
   ·have H:=qI Ha;clear Ha;obtain⟨M,N,Ho⟩:∃M:Nat,M=min L.toNat R.length/\min L (R.length:Int)=(M:Int):=⟨min L.toNat R.length,rfl,by omega⟩;have m:Hu (gz (fS l F) F L.toNat=eN (R.take M)):=by
     unfold Hu;rw[Hn.o]
     congr 1
     rw[List.take_eq_take_iff];omega
    have Y:M<=R.length:=by omega
    clear N Hn
    go_wp2_with fail
    go_loop [11,40] (λt i=>∃k:Nat,k<=M/\i=.int .i64 k/\t=.int .u64 (eN (R.take k):Nat)) (λ_ i=>M - (intOf i).toNat)
    case atStart=>exact⟨0,by omega,rfl,rfl⟩
    case round=>
     obtain⟨k,s,rfl,rfl⟩:=hrel
     by_cases f:k<M
     ·have Hh:k<R.length:=by omega
      have Ha:=H.o k Hh;have V:=Hs.o (R.getD k 0) (by simp[Hh]);have Hw:R.take (k+1)=R.take k++[R.getD k 0]:=by
       rw[Qa Hh];simp[Hh]
      have X:eN (R.take k)<18446744073709551616:=by
       apply Nat.lt_pow_two_of_testBit (n:=64);intro i hi;rw[vX];exact Q7 (λO=>by have:=Hs.o i (List.mem_of_mem_take O);omega)
      have p:=qI (qk (eN (R.take k)) (R.getD k 0) X V);have B:Hu (eN (R.take k) ||| 2 ^ (R.getD k 0)=eN (R.take (k+1))):=by unfold Hu;rw[Hw,vV]
      rw[B.o] at p;clear Hw B;generalize R.getD k 0=z at *
      go_wp2_with fail
      go_round
      case rel=>exact⟨k+1,by omega,by go_num,by rw[<- p.o]⟩
      case measure=>simp[intOf];omega
     ·have Hv:k=M:=by omega
      have x:Hu (eN (R.take k)=gz (fS l F) F L.toNat):=by unfold Hu;rw[m.o,Hv]
      rw[x.o];clear Hv x
      go_wp2
      go_ret;exact⟨rfl,Hz.o⟩
end
theorem wg(a b:Nat)(c:a<18446744073709551616)(d:b<18446744073709551616):bits BinOp.or IntKind.u64 (a:Int) (b:Int)=((a ||| b:Nat):Int):=bits_or_u64_nat a b c d
theorem AL(f b o c F:Nat)(L:Int)(l:List ah)(w:World)(n:bG w f b o c l)(r:Good l)(h:F<18446744073709551616)(j:0<=L)(v:L<=64) :
  Calls prog 169 #[f,.int .u64 F,(L:Int)] w λe w'=>e=.returned (.int .u64 (df l F L:Nat))/\Below w w w':=by
 have i:=qI n;have Hv:=n.len;have t:=qI r;clear n r;have Ht:∀(fn:Fn) (first cap:Array Value) (w:World),(Instr.makeFunc fn first cap).run prog w=.ok (.func fn first cap) w:=λ_ _ _ _=>rfl
 have B:=AD l F L j;have p:=mx h (AC l F L);have Hj:Hu (Calls prog 211 #[.func (.func 212) #[.pointer (some ⟨f,0,none⟩)] #[],.int .u64 F,(L:Int)] w λe w'=>e=.returned (.int .u64 (gZ l F L:Nat))/\Below w w w'):=Kt f b o c F L l w i.o h j v;have Hf:Hu (iA l F L=gZ l F L ||| kC (bP l) (aG F (gZ l F L)) (L - aA (gZ l F L))):=rfl;have Hh:Hu (df l F L=iA l F L ||| gz (fS l (aG F (iA l F L))) (aG F (iA l F L)) (L - aA (iA l F L)).toNat):=rfl;have G:=AF l F L j;have m:=mx h (wa l F L);generalize df l F L=D at *;generalize iA l F L=a at *;generalize gZ l F L=d at *;have He:=qI (nI F d h p);have q:=mw (A:=F) d h;have Hn:Hu (∀W,Calls prog 39 #[.int .u64 d] W λe w'=>e=.returned (.int .i64 (aA d:Nat))/\w'=W):=λW=>ky d W p
 have Hg:=qI (nI F a h m);have s:=mw (A:=F) a h;have Hp:Hu (∀W,Calls prog 39 #[.int .u64 a] W λe w'=>e=.returned (.int .i64 (aA a:Nat))/\w'=W):=λW=>ky a W m
 have Hq:kC (bP l) (aG F d) (L - aA d)<18446744073709551616:=vU _ _ _ _ q;have Hi:=qI (wg d (kC (bP l) (aG F d) (L - aA d)) p Hq);have Hs:gz (fS l (aG F a)) (aG F a) (L - aA a).toNat<18446744073709551616:=mx s (v6 _ _ _);have Hl:=qI (wg a (gz (fS l (aG F a)) (aG F a) (L - aA a).toNat) m Hs);rw[<- Hf.o] at Hi;rw[<- Hh.o] at Hl;clear Hf Hh;generalize aA d=ca at *;generalize aA a=cb at *;have Hr:Hu (∀W,bG W f b o c l->Calls prog 211 #[.func (.func 213) #[.pointer (some ⟨f,0,none⟩)] #[],.int .u64 (aG F d:Nat),(L - ca:Int)] W λe w'=>e=.returned (.int .u64 (kC (bP l) (aG F d) (L - ca):Nat))/\Below W.heap.size W w'):=λW k=>Ku f b o c (aG F d) (L - ca) l W k q (by omega) (by omega)
 have Hm:Hu (∀W,bG W f b o c l->Calls prog 214 #[f,.int .u64 (aG F a:Nat),(L - cb:Int)] W λe w'=>e=.returned (.int .u64 (gz (fS l (aG F a)) (aG F a) (L - cb).toNat:Nat))/\Below W.heap.size W w'):=λW k=>KK f b o c (aG F a) (L - cb) l W k t.o s (by omega) (by omega)
 generalize kC (bP l) (aG F d) (L - ca)=ws at *;generalize gz (fS l (aG F a)) (aG F a) (L - cb).toNat=ss at *
 go_enter func169,ntmps169
 go_wp2_with fail
 refine Hj.o.mono ?_;rintro e z ⟨rfl,g⟩;have Hc:=qI (i.o.below g);have Ha:=qI g;clear i g Hj;have x:=He.o
 go_wp2_with fail
 refine (Hn.o _).mono ?_;rintro e u ⟨rfl,rfl⟩
 go_wp2_with fail
 refine (Hr.o _ Hc.o).mono ?_;rintro e E ⟨rfl,g⟩;have Hk:=qI (Hc.o.below g);have Hb:=qI (Ha.o.trans (g.mono Ha.o.size));clear Hc Ha g x He;have n2:=Hg.o;have H:=Hi.o
 go_wp2_with fail
 refine (Hp.o _).mono ?_;rintro e u ⟨rfl,rfl⟩
 go_wp2_with fail
 refine (Hm.o _ Hk.o).mono ?_;rintro e C ⟨rfl,g⟩;have Ho:=qI (Hb.o.trans (g.mono Hb.o.size));clear Hk Hb g n2 Hg;have y:=Hl.o
 go_wp2
 go_ret;exact⟨rfl,Ho.o⟩
def lw (r:Nat × Int):Value:=.tuple #[.int .u64 (r.1:Nat),aJ r.2]
theorem KL(s:Nat):lw (s,0)=.tuple #[.int .u64 s,.nilIface]:=rfl
theorem AM:lw (0,1)=.tuple #[.int .u64 0,.iface 108 (1:Int)]:=rfl
theorem KM:lw (0,8)=.tuple #[.int .u64 0,.iface 108 (8:Int)]:=rfl
theorem KN(b F on:Nat)(L:Int)(l:List ah)(w:World)(h:L<0\/64<L) :
  Calls prog 132 #[b,.int .u64 F,L,.int .u8 on] w λe w'=>e=.returned (lw (bN l F L (az (br on) l)))/\Below w w w':=by
 have a:Hu (bN l F L (az (br on) l)=(0,1)):=by unfold Hu bN;rw[if_pos (by omega)]
 rw[a.o,AM];have key:L<0\/(0<=L/\64<L):=by omega
 clear h a
 rcases key with h|⟨h,c⟩
 all_goals
  go_enter func132,ntmps132
  go_wp2
  go_ret2;exact⟨rfl,Q0 _ _⟩
theorem KO(a b o c F on:Nat)(L:Int)(l:List ah)(w:World)(d:bG w a b o c l)(m:F<18446744073709551616)(r:0<=L)(q:L<=64)(h:¬ F &&& az ba l=F) :
  Calls prog 132 #[a,.int .u64 F,L,.int .u8 on] w λe w'=>e=.returned (lw (bN l F L (az (br on) l)))/\Below w w w':=by
 have f:Hu (bN l F L (az (br on) l)=(0,1)):=by unfold Hu bN;rw[if_pos (.inr (.inr h))]
 rw[f.o,AM];have j:=qI (nB a b o c l w d);have i:az ba l<18446744073709551616:=jN ba l _ d.len;have g:=qI λW=>nJ F (az ba l) W m i;rw[Q7 h] at g;clear h f d
 go_enter func132,ntmps132
 go_wp2_with fail
 refine j.o.mono ?_;rintro e p ⟨rfl,k⟩
 go_wp2_with fail
 refine (g.o _).mono ?_;rintro e n ⟨rfl,rfl⟩
 go_wp2
 go_ret2;exact⟨rfl,k⟩
theorem KQ(d b o c F on:Nat)(L:Int)(l:List ah)(w:World)(f:bG w d b o c l)(j:F<18446744073709551616)(u:0<=L)(t:L<=64)(h:F &&& az ba l=F)(n:(aA F:Int)<L) :
  Calls prog 132 #[d,.int .u64 F,L,.int .u8 on] w λe w'=>e=.returned (lw (bN l F L (az (br on) l)))/\Below w w w':=by
 have g:Hu (bN l F L (az (br on) l)=(0,8)):=by
  unfold Hu bN;rw[if_neg (λa=>by rcases a with a|a|a;omega;omega;exact a h),if_pos n]
 rw[g.o,KM];have p:=qI (nB d b o c l w f);have k:az ba l<18446744073709551616:=jN ba l _ f.len;have i:=qI λW=>nJ F (az ba l) W j k;rw[Qc h] at i;have r:Hu (∀W,Calls prog 39 #[.int .u64 F] W λe w'=>e=.returned (.int .i64 (aA F:Nat))/\w'=W):=λW=>ky F W j
 generalize aA F=v at *;clear h g f
 go_enter func132,ntmps132
 go_wp2_with fail
 refine p.o.mono ?_;rintro e s ⟨rfl,q⟩
 go_wp2_with fail
 refine (i.o _).mono ?_;rintro e m ⟨rfl,rfl⟩
 go_wp2_with fail
 refine (r.o _).mono ?_;rintro e m ⟨rfl,rfl⟩
 go_wp2
 go_ret2;exact⟨rfl,q⟩
theorem KR(d b o c F on:Nat)(L:Int)(l:List ah)(w:World)(i:bG w d b o c l)(j:Good l)(f:F<18446744073709551616)(k:on<256)(n:0<=L)(v:L<=64)(h:F &&& az ba l=F)(B:L<=(aA F:Int)) :
  Calls prog 132 #[d,.int .u64 F,(L:Int),.int .u8 on] w λe w'=>e=.returned (lw (bN l F L (az (br on) l)))/\Below w w w':=by
 have s:=qI (AG (l:=l) (F:=F) (L:=L) (az (br on) l) n v h B);rw[s.o,KL];have q:=qI (nB d b o c l w i);have x:az ba l<18446744073709551616:=jN ba l _ i.len;have D:az (br on) l<18446744073709551616:=jN _ l _ i.len;have r:=qI λW=>nJ F (az ba l) W f x;rw[Qc h] at r;have E:Hu (∀W,Calls prog 39 #[.int .u64 F] W λe w'=>e=.returned (.int .i64 (aA F:Nat))/\w'=W):=λW=>ky F W f
 generalize aA F=N at *;have Hi:Hu (∀W,bG W d b o c l->Calls prog 168 #[d,.int .u8 on] W λe w'=>e=.returned (.int .u64 (az (br on) l:Nat))/\Below W.heap.size W w'):=λW g=>Ht d b o c l on W g j k
 have m:F &&& az (br on) l<18446744073709551616:=mx f (th F _);have y:=qI (bits_and_u64_nat F (az (br on) l) f D);have Hj:=qI λW g=>AL d b o c (F &&& az (br on) l) L l W g j m n v;have Hk:=qI (nI F (F &&& az (br on) l) f m);have C:=wb l (F &&& az (br on) l) L n;have Hg:=mx m (sZ l (F &&& az (br on) l) L);have Hm:Hu (∀W,Calls prog 39 #[.int .u64 (df l (F &&& az (br on) l) L:Nat)] W λe w'=>e=.returned (.int .i64 (aA (df l (F &&& az (br on) l) L):Nat))/\w'=W):=λW=>ky _ W Hg
 have hd:=mw (A:=F) (F &&& az (br on) l) f;have Hl:=qI λW g=>AL d b o c (aG F (F &&& az (br on) l)) (L - aA (df l (F &&& az (br on) l) L)) l W g j hd (by omega) (by omega);have Hn:=mx hd (sZ l (aG F (F &&& az (br on) l)) (L - aA (df l (F &&& az (br on) l) L)));have z:=qI (wg _ _ Hg Hn);have Hp:(aA (df l (F &&& az (br on) l) L):Int)<=L:=by omega
 have p:=qI i;generalize df l (aG F (F &&& az (br on) l)) (L - aA (df l (F &&& az (br on) l) L))=O at *;generalize aG F (F &&& az (br on) l)=M at *;generalize aA (df l (F &&& az (br on) l) L)=c1 at *;generalize df l (F &&& az (br on) l) L=R at *;generalize F &&& az (br on) l=u at *;generalize az (br on) l=K at *;clear h s i j C
 go_enter func132,ntmps132
 go_wp2_with fail
 refine q.o.mono ?_;rintro e H ⟨rfl,a⟩;have Hf:=qI (p.o.below a);have Ha:=qI a;clear p a q
 go_wp2_with fail
 refine (r.o _).mono ?_;rintro e t ⟨rfl,rfl⟩
 go_wp2_with fail
 refine (E.o _).mono ?_;rintro e t ⟨rfl,rfl⟩
 go_wp2_with fail
 refine (Hi.o _ Hf.o).mono ?_;rintro e t ⟨rfl,a⟩;have He:=qI (Hf.o.below a);have Hb:=qI (Ha.o.trans (a.mono Ha.o.size));clear Hf a Ha;have G:=y.o
 go_wp2_with fail
 refine (Hj.o _ He.o).mono ?_;rintro e J ⟨rfl,a⟩;have Hh:=qI (He.o.below a);have Hc:=qI (Hb.o.trans (a.mono Hb.o.size));clear He a Hb G;have n2:=Hk.o
 go_wp2_with fail
 refine (Hm.o _).mono ?_;rintro e P ⟨rfl,rfl⟩
 go_wp2_with fail
 refine (Hl.o _ Hh.o).mono ?_;rintro e Q ⟨rfl,a⟩;have Ho:=qI (Hc.o.trans (a.mono Hc.o.size));clear Hh a Hc n2;have I:=z.o
 go_wp2
 go_ret2;exact⟨rfl,Ho.o⟩
theorem KS(a b o c F on:Nat)(L:Int)(l:List ah)(w:World)(h:bG w a b o c l)(i:Good l)(g:F<18446744073709551616)(d:on<256) :
  Calls prog 132 #[a,.int .u64 F,L,.int .u8 on] w λe w'=>e=.returned (lw (bN l F L (az (br on) l)))/\Below w w w':=by
 by_cases j:L<0\/64<L
 ·exact KN a F on L l w j
 ·by_cases f:F &&& az ba l=F
  ·by_cases k:(aA F:Int)<L
   ·exact KQ a b o c F on L l w h g (by omega) (by omega) f k
   ·exact KR a b o c F on L l w h i g d (by omega) (by omega) f (by omega)
  ·exact KO a b o c F on L l w h g (by omega) (by omega) f
