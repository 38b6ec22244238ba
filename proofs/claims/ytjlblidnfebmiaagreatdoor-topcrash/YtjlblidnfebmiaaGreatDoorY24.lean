import Derived.Test.YtjlblidnfebmiaaGreatDoorY23
import Derived.Laws.BitsAllLaws
import Derived.Shelf.SlicesG.Cmp
import Derived.Shelf.Lay
import Derived.Ground.SlgcProg
import Derived.Deep.RegionHeld3
import Derived.Laws.EntriesVeiled
set_option maxRecDepth 100000
set_option maxHeartbeats 16000000
open Go Go.RowKit Go.Shelf
open Go.Proofs.Tryz
namespace Go.Proofs.YtjlblidnfebmiaaGreatDoor
variable{A B C F free i k n:Nat}{L many:Int}{c f:Nat->Nat}{l:List ap}{w:World}
def az (A:Nat):Nat:=(bm A 64).length
def aI (A B:Nat):Nat:=A ^^^ (A &&& B)
theorem iJ(A B i:Nat):(aI A B).testBit i=(A.testBit i && !B.testBit i):=by
 grind[aI]
theorem nX(A B:Nat):A &&& B=A↔∀i,A.testBit i=true->B.testBit i=true:=by
 constructor
 ·grind
 ·intro h;apply Nat.eq_of_testBit_eq;intro i;rw[Nat.testBit_and];cases hA:A.testBit i with
  | false=>rfl
  | true=>rw[h i hA];rfl
theorem nY(A B:Nat):A &&& B=0↔∀i,A.testBit i=true->B.testBit i=false:=by
 constructor
 ·intro h i hi;have e:(A &&& B).testBit i=false:=by grind
  rw[Nat.testBit_and,hi] at e
  simpa using e
 ·intro h;apply Nat.eq_of_testBit_eq;intro i;rw[Nat.testBit_and,Nat.zero_testBit];cases hA:A.testBit i with
  | false=>rfl
  | true=>rw[h i hA];rfl
theorem Sj(h:A &&& B=0)(k:Nat):(bm (A ||| B) k).length=(bm A k).length+(bm B k).length:=by
 induction k with
 | zero=>rfl
 | succ k ih=>
  rw[oO,oO A,oO B,Nat.testBit_or];have a:=(nY A B).1 h k;cases hA:A.testBit k with
  | true=>rw[a hA];simp[ih];omega
  | false=>cases hB:B.testBit k <;> simp[ih];omega
theorem qY(h:A &&& B=0):az (A ||| B)=az A+az B:=Sj h 64
theorem vr:az 0=0:=by decide +kernel
theorem ED(h:A<18446744073709551616)(hi:A.testBit i=true):i<64:=by
 apply Qt;intro a
 have:A.testBit i=false:=Nat.testBit_lt_two_pow (Q1 (show A<2 ^ 64 from h) (Nat.pow_le_pow_right (n:=2) (by omega) (by omega)))
 rw[this] at hi;cases hi
theorem Sk(h:A<18446744073709551616)(a:az A=0):A=0:=by
 apply Nat.eq_of_testBit_eq;intro i;rw[Nat.zero_testBit];cases hb:A.testBit i with
 | false=>rfl
 | true=>
  have:i∈bm A 64:=by unfold bm;simp[hb,ED h hb]
  have:=List.length_pos_of_mem this
  unfold az at a;omega
theorem lK(B:Nat)(h:A<18446744073709551616):aI A B<18446744073709551616:=by
 apply Nat.lt_pow_two_of_testBit (n:=64);intro i hi;rw[iJ];cases hA:A.testBit i with
 | false=>rfl
 | true=>have:=ED h hA;omega
theorem Sl(h:B &&& A=B):aI A B ||| B=A:=by
 apply Nat.eq_of_testBit_eq;intro i;rw[Nat.testBit_or,iJ]
 have:=(nX B A).1 h i
 cases hB:B.testBit i with
 | true=>rw[this hB];rfl
 | false=>simp
theorem Sm(A B:Nat):aI A B &&& B=0:=by
 simp[nY,iJ]
theorem yG(h:B &&& A=B):az (aI A B)+az B=az A:=by
 grind[qY,Sm,Sl]
theorem vt(A B:Nat):aI A B &&& A=aI A B:=by
 grind[nX,iJ]
theorem nZ(a:B<18446744073709551616)(h:A &&& B=A):A<18446744073709551616:=by
 grind[Nat.and_le_right]
theorem EE(a:A &&& B=A)(b:B &&& C=B):A &&& C=A:=by
 grind
theorem yH(a:A &&& C=A)(b:B &&& C=B):(A ||| B) &&& C=A ||| B:=by
 grind
theorem Sn(h:A &&& B=0):B &&& A=0:=by grind
def bG (f:Nat->Nat) (free:Nat) (many:Int):Nat->Nat
 | 0=>0
 | k+1=>if f k &&& free=f k/\(az (f k):Int)<=many - az (bG f free many k) then bG f free many k ||| f k else bG f free many k
def kT (f:Nat->Nat) (free:Nat) (many:Int):Nat:=bG f free many 64
theorem EF(a:f k &&& free=f k)(b:(az (f k):Int)<=many - az (bG f free many k)):bG f free many (k+1)=bG f free many k ||| f k:=by grind[bG]
theorem EG(a:¬ f k &&& free=f k):bG f free many (k+1)=bG f free many k:=by grind[bG]
theorem EH(a:¬ (az (f k):Int)<=many - az (bG f free many k)):bG f free many (k+1)=bG f free many k:=by grind[bG]
theorem vu(f:Nat->Nat)(free:Nat)(many:Int)(k:Nat):bG f free many k &&& free=bG f free many k:=by induction k <;> grind[bG,yH]
theorem So{f:Nat->Nat}{free:Nat}{many:Int}{k i:Nat}(h:(bG f free many k).testBit i=true):∃n,n<k/\(f n).testBit i=true/\f n &&& bG f free many k=f n:=by induction k <;> grind[bG,nX]
def yI (f:Nat->Nat):Prop:=∀a b,a≠b->f a &&& f b=0
theorem Sq(b:yI f)(free:Nat)(many:Int)(k n:Nat)(c:k<=n):bG f free many k &&& f n=0:=by
 rw[nY];intro i hi;obtain⟨j,d,a,_⟩:=So hi;exact (nY _ _).1 (b j n (by omega)) i a
theorem vw(a:yI f)(free:Nat)(many:Int)(b:0<=many)(k:Nat):(az (bG f free many k):Int)<=many:=by
 induction k with
 | zero=>simp only[bG,vr];omega
 | succ k ih=>
  rw[bG]
  split
  ·rename_i h;rw[qY (Sq a free many k k (lR))];omega
  ·exact ih
theorem yJ(f:Nat->Nat)(free:Nat)(many:Int)(k:Nat)(h:free<18446744073709551616):bG f free many k<18446744073709551616:=nZ h (vu f free many k)
theorem EI(a:∀n,f n<18446744073709551616)(F k:Nat):bG f F 0 k=0:=by
 induction k with
 | zero=>rfl
 | succ k ih=>
  rw[bG,ih]
  split
  ·grind[Sk]
  ·rfl
def kU (c:Nat->Nat) (x y:Nat):Bool:=decide (c x<c y\/(c x=c y/\x<y))
def iK (c:Nat->Nat) (A:Nat):List Nat:=(bm A 64).mergeSort (λx y=>!kU c y x)
def eY (l:List Nat):Nat:=l.foldl (λs n=>s ||| 2 ^ n) 0
theorem yK(l:List Nat)(n:Nat):eY (l++[n])=eY l ||| 2 ^ n:=by simp[eY]
theorem yL(l:List Nat)(i:Nat):(eY l).testBit i=decide (i∈l):=by
 have key_Ost:∀r:List Nat,(eY r.reverse).testBit i=decide (i∈r.reverse):=by
  intro r
  induction r with
  | nil=>simp[eY]
  | cons n r ih=>
   rw[List.reverse_cons,yK,Nat.testBit_or,ih,Nat.testBit_two_pow,Bool.eq_iff_iff];simp only[Bool.or_eq_true,Qp,Qi,Qm];constructor
   ·grind
   ·grind
 have:=key_Ost l.reverse
 rwa [List.reverse_reverse] at this
theorem yM(c:Nat->Nat)(A:Nat):(iK c A).Perm (bm A 64):=List.mergeSort_perm _ _
theorem vx(c:Nat->Nat)(A:Nat):(iK c A).length=az A:=(yM c A).length_eq
theorem Sr(A i:Nat):i∈bm A 64↔i<64/\A.testBit i=true:=by unfold bm;simp
theorem yN:i∈iK c A↔i<64/\A.testBit i=true:=by grind[yM,Sr]
theorem Ss(c:Nat->Nat)(A:Nat):(iK c A).Nodup:=by
 grind[yM,bm,List.nodup_range]
theorem St{x y:Nat}(a:kU c x y=false)(b:kU c y x=false):x=y:=by simp[kU] at *;omega
theorem Su(h:n<64):az (2 ^ n)=1:=by
 have:∀i:Fin 64,az (2 ^ i.val)=1:=by decide +kernel
 exact this ⟨n,h⟩
theorem Sv{l:List Nat}(b:l.Nodup)(a:∀i∈l,i<64):az (eY l)=l.length:=by
 have key_Ost:∀r:List Nat,r.reverse.Nodup->(∀i∈r.reverse,i<64)->az (eY r.reverse)=r.reverse.length:=by
  intro r
  induction r with
  | nil=>intro _ _;simp[eY,vr]
  | cons n r ih=>
   intro b a;rw[List.reverse_cons] at b a ⊢;rw[List.nodup_append] at b;rw[yK,qY,ih b.1 λi hi=>a i (List.mem_append_left _ hi),Su (a n (by simp))]
   ·simp
   ·rw[nY];intro i hi;rw[yL,Qp] at hi;rw[Nat.testBit_two_pow];exact Q7 λe=>b.2.2 i hi n (by simp) e.symm
 have:=key_Ost l.reverse
 rw[List.reverse_reverse] at this;exact this b a
def gF (c:Nat->Nat) (A:Nat) (many:Nat):Nat:=eY ((iK c A).take many)
theorem yO{c:Nat->Nat}{A many:Nat}:gF c A many &&& A=gF c A many:=by grind[nX,gF,yL,yN]
theorem Sw(c:Nat->Nat)(A many:Nat):az (gF c A many)=min many (az A):=by
 grind[gF,Sv,vx,Ss,yN]
def em (l:List ap) (n:Nat):Nat:=nV (·.sock) l n
def bW (l:List ap) (n:Nat):Nat:=nV (·.core) l n
theorem vy(f:ap->Int)(l:List ap):yI (nV f l):=by
 intro a b c;rw[nY];intro i hi;rw[nV,wG,Bool.and_eq_true,beq_iff_eq] at hi;rw[nV,wG,hi.2]
 have:(((a:Nat):Int) == (b:Int))=false:=by rw[Qr];omega
 rw[this];simp
theorem sX(f:ap->Int)(h:l.length<=64)(n:Nat):nV f l n<18446744073709551616:=jJ _ l _ h
def gG (l:List ap) (now n:Nat):Nat:=az (aB (λx=>x.core == (l.getD n aA).core) l &&& now)
def ij (l:List ap) (F:Nat) (L:Int):Nat:=kT (em l) F L
def ik (l:List ap) (F:Nat) (L:Int):Nat:=ij l F L ||| kT (bW l) (aI F (ij l F L)) (L - az (ij l F L))
def du (l:List ap) (F:Nat) (L:Int):Nat:=ik l F L ||| gF (gG l (aI F (ik l F L))) (aI F (ik l F L)) (L - az (ik l F L)).toNat
theorem EK(l:List ap)(F:Nat)(L:Int):ij l F L &&& F=ij l F L:=vu _ _ _ _
theorem EL(l:List ap)(F:Nat)(L:Int)(h:0<=L):(az (ij l F L):Int)<=L:=vw (vy _ l) F L h 64
theorem yP(l:List ap)(F:Nat)(L:Int):ik l F L &&& F=ik l F L:=
 yH (EK l F L) (EE (vu _ _ _ _) (vt F _))
theorem EM(h:B &&& aI C A=B):A &&& B=0:=by
 simp_all[Sn,nX,nY,iJ]
theorem EN(l:List ap)(F:Nat)(L:Int)(h:0<=L):(az (ik l F L):Int)<=L:=by
 have a:=EL l F L h;unfold ik kT;rw[qY (EM (vu (bW l) (aI F (ij l F L)) (L - az (ij l F L)) 64))];have b:=vw (vy (·.core) l) (aI F (ij l F L)) (L - az (ij l F L)) (by omega) 64;have e:bW l=nV (·.core) l:=rfl;rw[e];omega
theorem vz(l:List ap)(F:Nat)(L:Int):du l F L &&& F=du l F L:=
 yH (yP l F L) (EE (yO) (vt F _))
theorem yQ(l:List ap)(F:Nat)(L:Int)(h:0<=L):(az (du l F L):Int)=min L (az F):=by
 have a:=EN l F L h;have b:=yG (yP l F L);rw[du,qY (EM (yO)),Sw];omega
theorem Sx(a:l.length<=64)(F:Nat):ik l F 0=0:=by
 have b:ij l F 0=0:=EI (f:=em l) (sX _ a) F 64;rw[ik,b,vr,show ((0:Int) - (0:Nat))=0 from rfl]
 have:kT (bW l) (aI F 0) 0=0:=EI (f:=bW l) (sX _ a) _ 64
 rw[this];rfl
theorem Sy(a:l.length<=64)(F:Nat):du l F 0=0:=by
 simp_all[du,Sx,gF,eY]
def bT (l:List ap) (F:Nat) (L:Int) (on:Nat):Nat × Int:=
 if L<0\/64<L\/¬ F &&& aB (λ_=>true) l=F then (0,1) else
 if (az F:Int)<L then (0,8) else
 (du l (F &&& on) L ||| du l (aI F (F &&& on)) (L - az (du l (F &&& on) L)),0)
theorem yR(A B:Nat):A &&& B &&& A=A &&& B:=by
 grind
theorem yS(on:Nat)(d:0<=L)(b:L<=64)(a:F &&& aB (λ_=>true) l=F)(c:L<=az F) :
  bT l F L on=(du l (F &&& on) L ||| du l (aI F (F &&& on)) (L - az (du l (F &&& on) L)),0):=by
 grind[bT]
theorem Sz(on:Nat)(e:0<=L)(g:L<=az F){s:Nat}(hs:s=du l (F &&& on) L ||| du l (aI F (F &&& on)) (L - az (du l (F &&& on) L))) :
  (az s:Int)=L/\s &&& F=s/\(az (s &&& on):Int)=min L (az (F &&& on)):=by
 have f:=yQ l (F &&& on) L e;have has:=vz l (F &&& on) L;have Ha:=vz l (aI F (F &&& on)) (L - az (du l (F &&& on) L));have h:=yQ l (aI F (F &&& on)) (L - az (du l (F &&& on) L)) (by omega);have hd:=yG (yR F on);generalize du l (aI F (F &&& on)) (L - az (du l (F &&& on) L))=b at *;generalize du l (F &&& on) L=a at *;have Hc:a &&& b=0:=by
  rw[nX] at has Ha;rw[nY];intro i hi;cases hbi:b.testBit i with
  | false=>rfl
  | true=>
   have d:=has i hi;have c:=Ha i hbi;rw[iJ,d] at c
   simp at c
 have Hb:s &&& on=a:=by
  rw[hs];rw[nX] at has Ha;apply Nat.eq_of_testBit_eq;intro i;rw[Nat.testBit_and,Nat.testBit_or];cases hai:a.testBit i with
  | true=>
   have d:=has i hai;rw[Nat.testBit_and,Bool.and_eq_true] at d;rw[d.2];rfl
  | false=>
   cases hbi:b.testBit i with
   | false=>rfl
   | true=>
    have c:=Ha i hbi;rw[iJ,Nat.testBit_and] at c
    revert c
    cases F.testBit i <;> cases on.testBit i <;> simp
 refine⟨?_,?_,?_⟩
 ·grind[qY]
 ·grind[vt]
 ·rw[Hb];exact f
theorem mJ(A B:Nat)(b:A<18446744073709551616)(a:B<18446744073709551616):bits BinOp.andNot IntKind.u64 (A:Int) (B:Int)=((aI A B:Nat):Int):=by
 rw[u64_andNot_nat A B b a];have key:A &&& (18446744073709551615 - B)=aI A B:=by
  apply Nat.eq_of_testBit_eq;intro i;rw[Nat.testBit_and,iJ]
  by_cases hi:i<64
  ·have e:(18446744073709551615 - B).testBit i=!B.testBit i:=by
    have:=Nat.testBit_two_pow_sub_succ (n:=64) a i
    rw[show 2 ^ 64 - (B+1)=18446744073709551615 - B by omega] at this;rw[this,Qc hi];simp
   rw[e]
  ·have:A.testBit i=false:=Nat.testBit_lt_two_pow (Q1 b (Nat.pow_le_pow_right (n:=2) (by omega) (show 64<=i by omega)))
   rw[this];simp
 rw[key]
theorem SA(A B:Nat):aI A B=0↔A &&& B=A:=by
 rw[nX];constructor
 ·intro h i hi;have e:(aI A B).testBit i=false:=by grind
  rw[iJ,hi] at e
  simpa using e
 ·intro h;apply Nat.eq_of_testBit_eq;intro i;rw[iJ,Nat.zero_testBit];cases hA:A.testBit i with
  | false=>rfl
  | true=>rw[h i hA];rfl
theorem SC(A B:Nat)(b:A<18446744073709551616)(a:B<18446744073709551616):(bits BinOp.andNot IntKind.u64 (A:Int) (B:Int) == 0)=decide (A &&& B=A):=by grind[mJ,SA]
theorem od(A B:Nat)(w:World)(c:A<18446744073709551616)(a:B<18446744073709551616) :
  CE 43 #[.int .u64 A,.int .u64 B] w (.bool (decide (A &&& B=A))):=by
 have H:=qI (SC A B c a)
 go_enter func43,ntmps43
 go_wp2
 go_ret;exact⟨congrArg (λb=>Ending.returned (.bool b)) H,rfl⟩
theorem SD:(prog.info? 3).map (λi=>(i.zero,i.size,i.bytes))=some (some (.int .i64 0),1,8):=by kernel_rfl
def nums (l:List Nat):List Value:=l.map λ(n:Nat)=>Value.int .i64 (n:Int)
theorem SE(l:List Nat)(n:Nat):nums (l++[n])=nums l++[.int .i64 n]:=by simp[nums]
theorem vA(A k:Nat):(bm A k).length<=k:=by
 grind[bm]
theorem SF(A:Nat)(w:World)(d:A<18446744073709551616) :
  Calls pg 264 #[.int .u64 A] w λe w'=>∃v,e=.returned v/\w'.ownsRow w 3 1 v (bm A 64).length (nums (bm A 64))/\Bw w w':=by
 obtain⟨i0,hi,Hj,Hk,Hl⟩:=info_parts SD
 go_enter func264,ntmps264
 go_wp2
 go_loopw [3,5] (λv i wr=>∃k:Nat,k<=64/\i=.int .i64 k/\wr.ownsRow w 3 1 v (bm A k).length (nums (bm A k))/\Bw w wr) (λ_ i _=>64 - (intOf i).toNat)
 exact⟨0,by omega,rfl,Qw _ _ _ _,Q0 _ _⟩
 ·obtain⟨k,f,rfl,Ha,He⟩:=hrel
  by_cases a:k<64
  ·have hle:=vA A k;have Hi:=He.size
   by_cases c:A.testBit k=true
   ·have HS:Hu (bm A (k+1)=bm A k++[k]):=by grind[Hu,oO]
    have b:=yB A k wr d a;rw[c] at b;have Hg:=qI (b);clear b c
    go_wp2_with (first
     | (go_at_call 148;refine Hg.o.mono ?_;rintro e w' ⟨rfl,rfl⟩)
     | (at_builtin;refine wpList_append_own _ rfl _ _ 46 rfl w.heap.size 3 i0 (.int .i64 0) 1 8 underlying46 hi Hj Hk Hl rfl (by decide) _ _ _ rfl (Ha.alloc _) ⟨_,0,none⟩ 1 1 [.int .i64 k] rfl rfl (cell_one_new _ _ _) (ints_oneCell .i64 [(k:Int)]) (by unfold maxLen;omega) (by omega) (by simp;omega) ?_;intro l h Hc Hb _))
    go_roundw
    case rel=>
     refine⟨k+1,by omega,by go_num,?_,?_⟩
     ·rw[HS.o,SE,Q2];exact Hc
     ·exact (He.alloc Hi _).grown Hb (by simp;omega) λj g=>(Ha.lt j g).1
    case measure=>simp[intOf];omega
   ·have Hh:A.testBit k=false:=by simpa using c
    have HS:Hu (bm A (k+1)=bm A k):=by grind[Hu,oO]
    have b:=yB A k wr d a;rw[Hh] at b;have Hg:=qI (b);clear b c Hh
    go_wp2_with (go_at_call 148;refine Hg.o.mono ?_;rintro e w' ⟨rfl,rfl⟩)
    go_roundw
    case rel=>
     refine⟨k+1,by omega,by go_num,?_,He⟩;rw[HS.o];exact Ha
    case measure=>simp[intOf];omega
  ·have Hf:k=64:=by omega
   subst Hf;clear f a
   go_wp2
   go_ret;exact⟨_,rfl,Ha,He⟩
section
open RowKit Go.ChangeMaps
open Go.Maps (Keyed int_keyed keyOf_int_mk)
def gH (w:World) (B n:Nat) (f:Int->Int):Prop:=
 ∃D:DataW Unit,w.ownsMap prog 3 (plainElem prog 3) B n D/\∀k:Int,0<=k->k<64->D.atKey (.int .i64 k) (.lit (.int .i64 0))=.lit (.int .i64 (f k))
theorem gH.alloc{f:Int->Int}(h:gH w B n f)(o:Obj):gH (w.alloc o) B n f:=by
 obtain⟨D,a,b⟩:=h;exact⟨D,a.alloc o,b⟩
theorem gH.below{w':World}{K:Nat}{f:Int->Int}(h:gH w B n f)(c:Below K w w')(b:B<K):gH w' B n f:=by
 obtain⟨D,⟨d,a,g,r⟩,e⟩:=h;exact⟨D,⟨d,a,(c.block B b).trans g,r⟩,e⟩
theorem gH.lt{f:Int->Int}(h:gH w B n f):B<w.heap.size:=by
 obtain⟨D,a,_⟩:=h;exact a.lt
theorem gH.made(w:World):gH (w.alloc (.map #[] 0)) w.heap.size 0 (λ_=>0):=
 ⟨.map [],World.ownsMap_made w _ _ _,λ_ _ _=>rfl⟩
theorem SG(w:World):(zeroValue 3).run prog w=.ok (0:Int) w:=by kernel_rfl
theorem SH{d:Array Oper}{rest:List Oper}{o:Oper}{a:Act}{Q:Exit->Act->World->Prop}{w:World}(s:o.guard=none){m x:Operand}(g:o.op=Op.lookup 365 m x false)
  {B n:Nat} {f:Int->Int} {k:Int} (h:0<=k) (b:k<64) (q:a.eval m=.map (some B)) (i:a.eval x=.int .i64 k) (l:gH w B n f)
  (p:wpList prog d Q rest (a.put o.dst (.int .i64 (f k))) w) :
  wpList prog d Q (o :: rest) a w:=by
 obtain⟨D,j,r⟩:=l;refine wpList_lookup_own_int w s m x 365 g 3 3 .i64 vo underlying365 underlying3 (SG w) B n D q j _ (.int .i64 k) i (keyOf_int_mk underlying3 (vp h b)) ?_;intro c e _;rw[r k h b] at e;simp only[DataW.lit.injEq,Lit.int.injEq,true_and] at e;rw[<- e];exact p
end
theorem SI{n b o c:Nat}(F:Nat)(L:Int){l:List ap}{w:World}(j:bP w n b o c l)(x:F<18446744073709551616)(A:0<=L)(E:L<=64) :
  CB 211 #[.func (.func 212) #[.pointer (some ⟨n,0,none⟩)] #[],.int .u64 F,L] w (.int .u64 (kT (em l) F L:Nat)):=by
 have B:=qI j;have Hh:=j.len;clear j
 go_enter func211,ntmps211
 go_wp2
 go_loopw [7,10] (λt i wr=>∃k:Nat,k<=64/\i=.int .i64 k/\t=.int .u64 (bG (em l) F L k:Nat)/\Hu (bP wr n b o c l)/\Bw w wr) (λ_ i _=>64 - (intOf i).toNat)
 exact⟨0,by omega,rfl,rfl,B,Q0 _ _⟩
 ·obtain⟨k,z,rfl,rfl,Ha,p⟩:=hrel
  by_cases u:k<64
  ·have HS:Hu (CB 212 #[n,(k:Int)] wr (.int .u64 (em l k:Nat))):=RP k Ha;have hs:=sX (·.sock) Hh k
   change em l k<_ at hs
   have j:=yJ (em l) F L k x;have Hf:=qI λW=>j7 (em l k) W hs;have He:=qI λW=>j7 (bG (em l) F L k) W j;have Hk:=vw (vy (·.sock) l) F L A k
   change (az (bG (em l) F L k):Int)<=L at Hk
   have h:=qI λW=>od (em l k) F W hs x;have y:=qI λa q=>EF (f:=em l) (free:=F) (many:=L) (k:=k) a q;have Hi:=qI λa=>EG (f:=em l) (free:=F) (many:=L) (k:=k) a;have Hj:=qI λa=>EH (f:=em l) (free:=F) (many:=L) (k:=k) a;have C:=qI (bits_or_u64_nat (bG (em l) F L k) (em l k) j hs)
   change Hu (∀W,Calls _ _ _ W λe w'=>e=.returned (.int .i64 (az (em l k):Nat))/\w'=W) at Hf
   change Hu (∀W,Calls _ _ _ W λe w'=>e=.returned (.int .i64 (az (bG (em l) F L k):Nat))/\w'=W) at He
   generalize em l k=s at *
   go_wp2_with (go_at_call 212;refine HS.o.mono ?_;rintro e v ⟨rfl,r⟩)
   have Hb:=p.trans (r.mono p.size);have Hc:=qI (Ha.o.below r);clear Ha r p HS
   by_cases a:s &&& F=s
   ·have d:decide (s &&& F=s)=true:=Qc a
    by_cases q:(az s:Int)<=L - az (bG (em l) F L k)
    ·have m:Hu (bG (em l) F L (k+1)=bG (em l) F L k ||| s):=y.o a q;rw[d] at h;clear a d;refine (h.o v).e ?_
     go_wp2
     refine (Hf.o _).e ?_
     go_wp2
     refine (He.o _).e ?_
     go_wp2
     go_roundw
     exact⟨k+1,by omega,by go_num,by rw[m.o,<- C.o],Hc,Hb⟩
     simp[intOf];omega
    ·have m:Hu (bG (em l) F L (k+1)=bG (em l) F L k):=Hj.o (by omega);have D:L - az (bG (em l) F L k)<(az s:Int):=by omega
     rw[d] at h;clear a d q;refine (h.o v).e ?_
     go_wp2
     refine (Hf.o _).e ?_
     go_wp2
     refine (He.o _).e ?_
     go_wp2
     go_roundw
     exact⟨k+1,by omega,by go_num,by rw[m.o],Hc,Hb⟩
     simp[intOf];omega
   ·have d:decide (s &&& F=s)=false:=Q7 a;have m:=qI (Hi.o a);rw[d] at h;clear a d;refine (h.o v).e ?_
    go_wp2
    go_roundw
    exact⟨k+1,by omega,by go_num,by rw[m.o],Hc,Hb⟩
    simp[intOf];omega
  ·have Hg:k=64:=by omega
   subst Hg;clear z u
   go_wp2
   go_ret;exact⟨rfl,p⟩
theorem SJ{n b o c:Nat}(F:Nat)(L:Int){l:List ap}{w:World}(j:bP w n b o c l)(x:F<18446744073709551616)(A:0<=L)(E:L<=64) :
  CB 211 #[.func (.func 213) #[.pointer (some ⟨n,0,none⟩)] #[],.int .u64 F,L] w (.int .u64 (kT (bW l) F L:Nat)):=by
 have B:=qI j;have Hh:=j.len;clear j
 go_enter func211,ntmps211
 go_wp2
 go_loopw [7,10] (λt i wr=>∃k:Nat,k<=64/\i=.int .i64 k/\t=.int .u64 (bG (bW l) F L k:Nat)/\Hu (bP wr n b o c l)/\Bw w wr) (λ_ i _=>64 - (intOf i).toNat)
 exact⟨0,by omega,rfl,rfl,B,Q0 _ _⟩
 ·obtain⟨k,z,rfl,rfl,Ha,p⟩:=hrel
  by_cases u:k<64
  ·have HS:Hu (CB 213 #[n,(k:Int)] wr (.int .u64 (bW l k:Nat))):=Ew k Ha;have hs:=sX (·.core) Hh k
   change bW l k<_ at hs
   have j:=yJ (bW l) F L k x;have Hf:=qI λW=>j7 (bW l k) W hs;have He:=qI λW=>j7 (bG (bW l) F L k) W j;have Hk:=vw (vy (·.core) l) F L A k
   change (az (bG (bW l) F L k):Int)<=L at Hk
   have h:=qI λW=>od (bW l k) F W hs x;have y:=qI λa q=>EF (f:=bW l) (free:=F) (many:=L) (k:=k) a q;have Hi:=qI λa=>EG (f:=bW l) (free:=F) (many:=L) (k:=k) a;have Hj:=qI λa=>EH (f:=bW l) (free:=F) (many:=L) (k:=k) a;have C:=qI (bits_or_u64_nat (bG (bW l) F L k) (bW l k) j hs)
   change Hu (∀W,Calls _ _ _ W λe w'=>e=.returned (.int .i64 (az (bW l k):Nat))/\w'=W) at Hf
   change Hu (∀W,Calls _ _ _ W λe w'=>e=.returned (.int .i64 (az (bG (bW l) F L k):Nat))/\w'=W) at He
   generalize bW l k=s at *
   go_wp2_with (go_at_call 213;refine HS.o.mono ?_;rintro e v ⟨rfl,r⟩)
   have Hb:=p.trans (r.mono p.size);have Hc:=qI (Ha.o.below r);clear Ha r p HS
   by_cases a:s &&& F=s
   ·have d:decide (s &&& F=s)=true:=Qc a
    by_cases q:(az s:Int)<=L - az (bG (bW l) F L k)
    ·have m:Hu (bG (bW l) F L (k+1)=bG (bW l) F L k ||| s):=y.o a q;rw[d] at h;clear a d;refine (h.o v).e ?_
     go_wp2
     refine (Hf.o _).e ?_
     go_wp2
     refine (He.o _).e ?_
     go_wp2
     go_roundw
     exact⟨k+1,by omega,by go_num,by rw[m.o,<- C.o],Hc,Hb⟩
     simp[intOf];omega
    ·have m:Hu (bG (bW l) F L (k+1)=bG (bW l) F L k):=Hj.o (by omega);have D:L - az (bG (bW l) F L k)<(az s:Int):=by omega
     rw[d] at h;clear a d q;refine (h.o v).e ?_
     go_wp2
     refine (Hf.o _).e ?_
     go_wp2
     refine (He.o _).e ?_
     go_wp2
     go_roundw
     exact⟨k+1,by omega,by go_num,by rw[m.o],Hc,Hb⟩
     simp[intOf];omega
   ·have d:decide (s &&& F=s)=false:=Q7 a;have m:=qI (Hi.o a);rw[d] at h;clear a d;refine (h.o v).e ?_
    go_wp2
    go_roundw
    exact⟨k+1,by omega,by go_num,by rw[m.o],Hc,Hb⟩
    simp[intOf];omega
  ·have Hg:k=64:=by omega
   subst Hg;clear z u
   go_wp2
   go_ret;exact⟨rfl,p⟩
end Go.Proofs.YtjlblidnfebmiaaGreatDoor
namespace Go.Proofs
open Go.Shelf
def Tryz.sortL_ren:Go.Shelf.Ren:=⟨fun|6=>265|15=>161|14=>291|28=>202|29=>203|20=>307|21=>308|22=>309|23=>310|24=>311|25=>312|26=>313|27=>314|46=>323|47=>254|48=>255|49=>324|50=>325|57=>327|n=>n,fun|22=>46|24=>3|25=>260|3=>3|39=>219|0=>0|53=>296|55=>23|4=>4|46=>312|45=>311|50=>134|5=>5|9=>9|66=>357|70=>361|76=>389|77=>390|n=>n,fun|n=>n⟩
theorem Tryz.sortL:Go.Proofs.SlLaysF.n6 Tryz.prog Tryz.sortL_ren:=by
 constructor
 case f6=>exact⟨Tryz.f265.name,by decide,Tryz.func265.trans (congrArg some (by kernel_rfl))⟩
 case f14=>exact⟨Tryz.f291.name,by decide,Tryz.func291.trans (congrArg some (by kernel_rfl))⟩
 case f20=>exact⟨Tryz.f307.name,by decide,Tryz.func307.trans (congrArg some (by kernel_rfl))⟩
 case f21=>exact⟨Tryz.f308.name,by decide,Tryz.func308.trans (congrArg some (by kernel_rfl))⟩
 case f22=>exact⟨Tryz.f309.name,by decide,Tryz.func309.trans (congrArg some (by kernel_rfl))⟩
 case f23=>exact⟨Tryz.f310.name,by decide,Tryz.func310.trans (congrArg some (by kernel_rfl))⟩
 case f24=>exact⟨Tryz.f311.name,by decide,Tryz.func311.trans (congrArg some (by kernel_rfl))⟩
 case f25=>exact⟨Tryz.f312.name,by decide,Tryz.func312.trans (congrArg some (by kernel_rfl))⟩
 case f26=>exact⟨Tryz.f313.name,by decide,Tryz.func313.trans (congrArg some (by kernel_rfl))⟩
 case f27=>exact⟨Tryz.f314.name,by decide,Tryz.func314.trans (congrArg some (by kernel_rfl))⟩
 case f46=>exact⟨Tryz.f323.name,by decide,Tryz.func323.trans (congrArg some (by kernel_rfl))⟩
 case f49=>exact⟨Tryz.f324.name,by decide,Tryz.func324.trans (congrArg some (by kernel_rfl))⟩
 case f50=>exact⟨Tryz.f325.name,by decide,Tryz.func325.trans (congrArg some (by kernel_rfl))⟩
 case f57=>exact⟨Tryz.f327.name,by decide,Tryz.func327.trans (congrArg some (by kernel_rfl))⟩
 all_goals intros;kernel_rfl
def Tryz.cmpL_ren:Go.Shelf.Ren:=⟨fun|5=>153|7=>187|n=>n,fun|22=>3|3=>3|4=>4|n=>n,fun|n=>n⟩
theorem Tryz.cmpL:Go.Proofs.SlLaysC2.n5 Tryz.prog Tryz.cmpL_ren:=by
 constructor
 case f5=>exact⟨Tryz.f153.name,by decide,Tryz.func153.trans (congrArg some (by kernel_rfl))⟩
 case f7=>exact⟨Tryz.f187.name,by decide,Tryz.func187.trans (congrArg some (by kernel_rfl))⟩
 all_goals intros;kernel_rfl
end Go.Proofs
namespace Go.Proofs.YtjlblidnfebmiaaGreatDoor
variable{F b c fc k lc mb n o tb tc:Nat}{f:Int->Int}{l:List ap}{w w' wr wr':World}
section
open Go.Sort
def eD (w w':World):Prop:=∃q os,w'=grow (w.drewN q) os
theorem eD.refl(w:World):eD w w:=⟨0,#[],by rw[grow_empty];rfl⟩
theorem eD.alloc(h:eD w w')(o:Obj):eD w (w'.alloc o):=by
 obtain⟨q,os,rfl⟩:=h;exact⟨q,os++#[o],by rw[alloc_eq_grow,grow_grow]⟩
theorem eD.drewN(h:eD w w')(n:Nat):eD w (w'.drewN n):=by
 obtain⟨q,os,rfl⟩:=h;exact⟨q+n,os,by grind[World.drewN,grow]⟩
theorem eD.trans{a b c:World}(h:eD a b)(k:eD b c):eD a c:=by
 obtain⟨q,os,rfl⟩:=h;obtain⟨e,d,rfl⟩:=k;exact⟨q+e,os++d,by grind[World.drewN,grow]⟩
theorem eD.below(h:eD w w'):Bw w w':=by
 obtain⟨q,os,rfl⟩:=h;exact⟨rfl,rfl,rfl,by simp[World.drewN],λk a=>by grind[grow,World.drewN]⟩
theorem SK(w:World)(K blk off m:Nat)(a:Array Nat)(os:Array Obj)(b:K<=blk)(c:K<=w):Below K w (sortWorld (λn:Nat=>Value.int .i64 (n:Int)) w blk off m a os):=by
 refine⟨rfl,rfl,rfl,?_,λk d=>?_⟩
 ·simp[sortWorld]
 ·grind[sortWorld,grow,Sort.putRow,Sort.mapBlock,Sort.ahead]
theorem SL(n:Nat){d b o c:Nat}{l:List ap}{w:World}(a:bP w d b o c l) :
  Calls pg 263 #[.pointer (some ⟨d,0,none⟩),.int .i64 n] w λe w'=>(∃err,e=.returned (.tuple #[.agg #[((l.getD n aA).core:Int),((l.getD n aA).sock:Int),((l.getD n aA).node:Int)],err]))/\eD w w':=by
 have Ha:=((Q0 w w).alloc (lR) (.cells #[(0:Int),(0:Int),(0:Int)] 74));have i:=(a.below Ha).cell;have h:=a.len
 by_cases g:n<l.length
 ·obtain⟨Hb,He,Hc⟩:=(a.below Ha).cells n g;clear a Ha;generalize l.getD n aA=x at *
  go_enter func263,ntmps263
  go_wp2
  (try simp only[Exit.inBlock,Exit.then]);refine bodyPost_ret (v:=.tuple #[.agg #[(x.core:Int),(x.sock:Int),(x.node:Int)],.nilIface]) ?_ rfl ⟨⟨_,rfl⟩,?_⟩
  ·rw[results_cell_tmp rfl];go_simp
  ·exact (eD.refl w).alloc _
 ·have f:l.getD n aA=aA:=by grind
  rw[f];clear a Ha f;have j:(l.length:Int)<=n:=by omega
  clear g
  go_enter func263,ntmps263
  go_wp2
  (try simp only[Exit.inBlock,Exit.then]);refine bodyPost_ret (v:=.tuple #[.agg #[(0:Int),(0:Int),(0:Int)],.iface 108 (1:Int)]) ?_ rfl ⟨⟨_,rfl⟩,?_⟩
  ·rw[results_cell_tmp rfl];go_simp
  ·exact (eD.refl w).alloc _
structure j9 (w:World) (tc lc fc tb b o c mb n:Nat) (l:List ap) (f:Int->Int):Prop where
 t:w.cell? tc=some (.pointer (some ⟨tb,0,none⟩))
 m:w.cell? lc=some (.map mb)
 fn:w.cell? fc=some (.func (.func 262) #[] #[.pointer (some ⟨tc,0,none⟩),.pointer (some ⟨lc,0,none⟩)])
 topo:bP w tb b o c l
 left:gH w mb n f
theorem j9.below{K:Nat}(h:j9 w tc lc fc tb b o c mb n l f)(a:Below K w w')(e:tc<K/\lc<K/\fc<K/\tb<K/\b<K/\mb<K):j9 w' tc lc fc tb b o c mb n l f:=by
 obtain⟨j,r,i,m,d,s⟩:=e;exact⟨(a.cell (p:=tc) j).trans h.t,(a.cell (p:=lc) r).trans h.m,(a.cell (p:=fc) i).trans h.fn,
  ⟨(a.cell (p:=tb) m).trans h.topo.cell,λk q=>by
   obtain⟨g,a2,a3⟩:=h.topo.cells k q;exact⟨(a.cell (p:=⟨b,o+k*3,none⟩) d).trans g,(a.cell (p:=⟨b,o+k*3+1,none⟩) d).trans a2,(a.cell (p:=⟨b,o+k*3+2,none⟩) d).trans a3⟩,Q1 h.topo.lt a.size,h.topo.len⟩,
  h.left.below a s⟩
theorem j9.lts(h:j9 w tc lc fc tb b o c mb n l f):tc<w/\lc<w/\fc<w/\tb<w/\b<w/\mb<w:=
 ⟨Q3 w _ h.t,Q3 w _ h.m,Q3 w _ h.fn,h.topo.tlt,h.topo.lt,h.left.lt⟩
theorem EO(b:Good l)(n:Nat):0<=(l.getD n aA).core/\(l.getD n aA).core<64:=by
 by_cases a:n<l.length
 ·have:=b (l.getD n aA) (by simp[a])
  omega
 ·grind[aA]
theorem EP(k:Nat)(i d r g b o c j n:Nat)(l:List ap)(f:Int->Int)(w:World)(h:j9 w i d r g b o c j n l f)(a:Good l) :
  Calls pg 262 #[.int .i64 k,.pointer (some ⟨i,0,none⟩),.pointer (some ⟨d,0,none⟩)] w λe w'=>e=.returned (f (l.getD k aA).core:Int)/\eD w w':=by
 have m:=qI (SL k h.topo);have HS:=qI h;have s:=qI h.lts;have t:=h.t;obtain⟨p,Hc⟩:=EO a k;clear h a;generalize l.getD k aA=x at *
 go_enter func262,ntmps262
 go_wp2
 refine m.o.mono ?_;rintro e u ⟨⟨err,rfl⟩,Hb⟩;have Ha:=qI (HS.o.below Hb.below s);have v:=iI Ha.o.m (.cells #[(x.core:Int),(x.sock:Int),(x.node:Int)] 74);have q:=Ha.o.left.alloc (.cells #[(x.core:Int),(x.sock:Int),(x.node:Int)] 74);clear m t
 go_wp2_with (at_lookup;refine SH rfl rfl p Hc rfl rfl q ?_)
 go_ret;exact⟨rfl,Hb.alloc _⟩
end
theorem SN{g:Nat}(c:Nat){x y:Int}(w:World)(d:w.cell? g=some (.int .i64 x))(f:w.cell? ⟨g,1,none⟩=some (.int .i64 y)) :
  CE 86 #[.slice g 2 c] w (if x=0 then y else x:Int):=by
 by_cases a:x=0
 ·rw[if_pos a];subst a
  by_cases b:y=0
  ·subst b
   go_enter func86,ntmps86
   go_wp2
   refine wp_loop_rounds 3 ?_;rw[rounds_succ]
   go_wp2
   rw[rounds_succ]
   go_wp2
   rw[rounds_succ]
   go_wp2
   go_ret;exact⟨rfl,rfl⟩
  ·have q:(y != 0)=true:=by grind
   clear b
   go_enter func86,ntmps86
   go_wp2
   refine wp_loop_rounds 2 ?_;rw[rounds_succ]
   go_wp2
   rw[rounds_succ]
   go_wp2
   go_ret;exact⟨rfl,rfl⟩
 ·rw[if_neg a];have q:(x != 0)=true:=by grind
  clear a
  go_enter func86,ntmps86
  go_wp2
  refine wp_loop_rounds 1 ?_;rw[rounds_succ]
  go_wp2
  go_ret;exact⟨rfl,rfl⟩
def kV (cl:Nat->Nat) (x y:Nat):Int:=if Lib.compareInt (cl x) (cl y)=0 then Lib.compareInt x y else Lib.compareInt (cl x) (cl y)
theorem EQ(x y:Int)(w:World):CE 153 #[x,y] w (Lib.compareInt x y:Int):=AnyG.cmp_Compare_int Tryz.cmpL x y w
theorem SO(x y:Nat){j m q z b o c s n:Nat}{l:List ap}{f:Int->Int}(cl:Nat->Nat){w:World}(h:j9 w j m q z b o c s n l f)(p:Good l)(hf:∀k,f (l.getD k aA).core=(cl k:Nat)) :
  Calls pg 266 #[.int .i64 x,.int .i64 y,.pointer (some ⟨q,0,none⟩)] w λe w'=>e=.returned (kV cl x y:Int)/\eD w w':=by
 have HS:=qI h;have i:=qI h.lts;have Hb:eD w w.drew:=(eD.refl w).drewN 1;have Hg:Hu (∀W,j9 W j m q z b o c s n l f->Calls pg 262 #[.int .i64 x,.pointer (some ⟨j,0,none⟩),.pointer (some ⟨m,0,none⟩)] W λe w'=>e=.returned (.int .i64 (cl x:Nat))/\eD W w'):=λW B=>by
  grind[EP]
 have Hh:Hu (∀W,j9 W j m q z b o c s n l f->Calls pg 262 #[.int .i64 y,.pointer (some ⟨j,0,none⟩),.pointer (some ⟨m,0,none⟩)] W λe w'=>e=.returned (.int .i64 (cl y:Nat))/\eD W w'):=λW B=>by
  grind[EP]
 have A:Hu (kV cl x y=if Lib.compareInt (cl x) (cl y)=0 then Lib.compareInt x y else Lib.compareInt (cl x) (cl y)):=rfl;have Hj:=qI λW=>EQ (cl x) (cl y) W;have Hi:=qI λW=>EQ x y W;have Hf:=qI λg c W D E=>SN (g:=g) c (x:=Lib.compareInt (cl x) (cl y)) (y:=Lib.compareInt x y) W D E;rw[<- A.o] at Hf;generalize kV cl x y=r at *;generalize cl x=C at *;generalize cl y=F at *;generalize Lib.compareInt (C:Int) (F:Int)=u at *;generalize Lib.compareInt (x:Int) (y:Int)=v at *;clear A h hf
 go_enter func266,ntmps266
 go_wp2
 refine wp_region_held_drew (S:=(λw'=>w'.cell? q=some (.func (.func 262) #[] #[.pointer (some ⟨j,0,none⟩),.pointer (some ⟨m,0,none⟩)])/\Hu (j9 w' j m q z b o c s n l f))) (by kernel_rfl) ⟨(HS.o.below Hb.below i).fn,HS.o.below Hb.below i⟩ λd=>?_;refine tk 0 ?_;refine tk 1 ?_;refine tk 3 ?_;refine tk 4 ?_;refine tk 7 ?_;refine tk 8 ?_;refine rd 2 λK a=>?_;go_simp
 go_wp2
 refine (Hg.o _ d.2.o).mono ?_;rintro e H ⟨rfl,p⟩;have Hc:=Hb.trans p;clear p
 go_wp2
 refine a.o _ _ ⟨(HS.o.below Hc.below i).fn,HS.o.below Hc.below i⟩ λd=>?_;clear a K;refine rd 5 λK a=>?_;go_simp
 go_wp2
 refine (Hh.o _ d.2.o).mono ?_;rintro e J ⟨rfl,p⟩;have Ha:=Hc.trans p;clear p
 go_wp2
 refine a.o _ _ ⟨(HS.o.below Ha.below i).fn,HS.o.below Ha.below i⟩ λd=>?_;clear a K;refine rd 6 λK a=>?_;go_simp
 go_wp2
 refine (Hj.o _).mono ?_;rintro e I ⟨rfl,rfl⟩
 go_wp2
 refine a.k d λd=>?_;refine rd 9 λK a=>?_;go_simp
 go_wp2
 refine (Hi.o _).mono ?_;rintro e t ⟨rfl,rfl⟩
 go_wp2
 refine a.k d λd=>?_;refine rd 10 λK a=>?_;go_simp;have He:=Ha.alloc (.cells #[(u:Int),(v:Int)] 3);have c0:(t.alloc (.cells #[(u:Int),(v:Int)] 3)).cell? t=some (.int .i64 u):=by simp
 have c1:(t.alloc (.cells #[(u:Int),(v:Int)] 3)).cell? ⟨t,1,none⟩=some (.int .i64 v):=by simp
 refine a.o _ _ ⟨(HS.o.below He.below i).fn,HS.o.below He.below i⟩ λd=>?_;clear a K;refine rd 11 λK a=>?_;go_simp
 go_wp2
 refine (Hf.o _ _ _ c0 c1).mono ?_;rintro e G ⟨rfl,rfl⟩
 go_wp2
 refine a.k d λd=>?_;refine tk 12 ?_;refine Qn (by kernel_rfl) ?_ _
 go_wp2
 go_ret;exact⟨rfl,He⟩
section
open Go.Sort
theorem sY(cl:Nat->Nat)(x y:Nat):ltOf (kV cl) x y=kU cl x y:=by grind[ltOf,kV,Lib.compareInt,kU]
theorem SP(cl:Nat->Nat):SWO (ltOf (kV cl)) where
 irrefl x:=by rw[sY];simp[kU]
 trans x y z h1 h2:=by grind[sY,kU]
 ntrans x y z h1 h2:=by grind[sY,kU]
theorem SQ{cl:Nat->Nat}(x y:Nat)(a:ltOf (kV cl) x y=false)(b:ltOf (kV cl) y x=false):x=y:=by
 grind[sY,St]
def SR (w:World) (v:Value) (L:List Nat):Prop:=
 (L=[]/\v=.slice none 0 0)\/∃g c,v=.slice (some ⟨g,0,none⟩) L.length c/\L.length<=c/\∀k,k<L.length->w.cell? ⟨g,k,none⟩=some (.int .i64 ((L.getD k 0:Nat):Int))
def oe (n:Nat):Value:=Value.int .i64 (n:Int)
theorem ER(w:World)(K blk off m:Nat)(a:Array Nat)(os:Array Obj)(b:K<=blk)(c:K<=w):Below K w (sortWorld oe w blk off m a os):=SK w K blk off m a os b c
theorem SS{g:Nat}{a:Array Value}{e:TypeId}{L:List Nat}(h:w.heap[g]?=some (.cells a e (0,0)))(f:a.toList.take (L.length*1)=nums L):Holds oe w g 0 L.toArray:=by
 intro j c;have Ha:j<L.length:=by simpa using c
 have d:a[j]?=some (.int .i64 ((L.getD j 0:Nat):Int)):=by
  have b:(a.toList.take (L.length*1))[j]?=some (.int .i64 ((L.getD j 0:Nat):Int)):=by
   grind[nums]
  rw[List.getElem?_take] at b;rw[if_pos (by omega)] at b
  simpa using b
 have hd:L.toArray[j]! = L.getD j 0:=by simp[Ha]
 refine⟨?_,?_⟩
 ·grind[World.cell?,oe]
 ·grind[World.frozen?]
theorem SU{v:Value}{A K:Nat}{t p a s b o c r n:Nat}{l:List ap}{f:Int->Int}(cl:Nat->Nat){w:World}(j:w.ownsRow K 3 1 v (bm A 64).length (nums (bm A 64)))(D:K<=w)
  (h:j9 w t p a s b o c r n l f) (C:t<K/\p<K/\a<K/\s<K/\b<K/\r<K) (E:Good l) (hf:∀k,f (l.getD k aA).core=(cl k:Nat)) :
  Calls pg 265 #[v,.func (.func 266) #[] #[.pointer (some ⟨a,0,none⟩)]] w λe w'=>e=.returned (.tuple #[])/\SR w' v (iK cl A)/\Below K w w':=by
 rcases j.2 with⟨rfl,Hk⟩|⟨g,i,I,rfl,Hf,Hg,Hi,_,_,Hh⟩
 ·have B:iK cl A=[]:=by
   grind[vx,az]
  have d:=AnyF.slices_SortFunc_none (P:=prog) (ρ:=Tryz.sortL_ren) { Tryz.sortL with } none 0 (.func (.func 266) #[] #[.pointer (some ⟨a,0,none⟩)]) w
  change Calls pg 265 _ _ _ at d
  exact d.mono λe w' ⟨he,hw'⟩=>⟨he,.inl ⟨B,rfl⟩,by grind[Q0]⟩
 ·have z:Holds oe w g 0 (bm A 64).toArray:=SS Hg Hh;have Ha:g<w:=by
   grind
  have F:∀args w,(callFunc 266 args).run prog w=.ok (.enter 266 args) w:=enters_of func266 (by kernel_rfl) rfl;have Hc:CmpLays1 prog 266 #[a] oe (kV cl) g 0 (bm A 64).toArray.size w:=λm os J _ x y=>
   SO x y cl (h.below (ER w K g 0 m J os Hf D) C) E hf
  have Hj:=vA A 64;have d:=Any.slices_SortFunc_total Tryz.sortL oe (λ_=>rfl) (kV cl) (SP cl) 266 #[.pointer (some ⟨a,0,none⟩)] g 0 i (bm A 64).toArray w F Hc z Ha (by simp;omega) (SQ)
  change Calls pg 265 _ _ _ at d
  have He:(λx y:Nat=>!ltOf (kV cl) y x)=λx y=>!kU cl y x:=by funext x y;rw[sY]
  rw[He] at d;have L:(bm A 64).toArray.size=(bm A 64).length:=by simp
  rw[L] at d;refine d.mono λe w' ⟨he,q,os,hw'⟩=>⟨he,?_,?_⟩
  ·have Hb:(iK cl A).length=(bm A 64).length:=vx cl A;have H:=holds_sortWorld oe w g 0 q (bm A 64).toArray (iK cl A).toArray os Ha z (by simp[Hb]);have G:((bm A 64).toArray.toList.mergeSort λx y=>!kU cl y x).toArray=(iK cl A).toArray:=rfl;rw[G] at hw';refine .inr ⟨g,i,by rw[Hb],by omega,λk u=>?_⟩
   have:=(H k (by simpa using u)).1
   rw[hw',<- Qd k,this]
   simp[oe,u]
  ·grind[ER]
end
section
open RowKit Go.ChangeMaps
open Go.Maps (Keyed int_keyed keyOf_int_mk)
def ka (l:List ap) (F k:Nat) (j:Int):Int:=if 0<=j/\j<k then (az (bW l j.toNat &&& F):Nat) else 0
theorem SV(l:List ap)(F:Nat):ka l F 0=λ_=>0:=by
 grind[ka]
theorem SW(l:List ap)(F k:Nat):(λj=>if (k:Int)=j then ((az (bW l k &&& F):Nat):Int) else ka l F k j)=ka l F (k+1):=by
 grind[ka]
theorem SX{l:List ap}(c:Good l)(F n:Nat):ka l F 64 (l.getD n aA).core=(gG l F n:Nat):=by
 obtain⟨a,b⟩:=EO c n;unfold ka;rw[if_pos ⟨a,by omega⟩]
 have:bW l (l.getD n aA).core.toNat=aB (λx=>x.core == (l.getD n aA).core) l:=by
  unfold bW nV;rw[Int.toNat_of_nonneg a]
 rw[this];rfl
theorem SY{o:Oper}{a:Act}{N:Act->World->Prop}{Q:Exit->Act->World->Prop}{w:World}{m x v:Operand}(c:o.op=Op.mapUpdate 365 m x v)
  {B n:Nat} {f:Int->Int} {k:Int} (i:0<=k) (d:k<64) {y:Nat} (A:y<=64) (t:a.eval m=.map (some B)) (u:a.eval x=.int .i64 k) (r:a.eval v=.int .i64 y) (l:gH w B n f) (q:n<maxLen)
  (s:∀w',gH w' B (n+1) (λj=>if k=j then y else f j)->w.grownBy w' (some B)->N (a.put o.dst undef) w') :
  o.wp prog a w N Q:=by
 obtain⟨D,g,h⟩:=l;obtain⟨w',Ha,r1,p⟩:=g.update (e:=3) vo underlying365 q (keyOf_int_mk underlying3 (vp i d)) (plainElem_int underlying3 (WalkArith.wf_i64 (n:=(y:Int)) (by omega)));unfold Oper.wp
 simp[execOp,c,t,u,r,Ha,Result.andThen]
 refine s w' ⟨_,r1,λj z b=>?_⟩ p
 by_cases e:k=j
 ·subst e;have Hb:WideAt.IsKeyLit (Lit.int .i64 k):=trivial;rw[Maps.atKey_put_same g.isMap Hb]
  simp
 ·have Hc:(Lit.int .i64 j)≠(Lit.int .i64 k):=by simp;omega
  rw[Maps.atKey_put_other Hc];simp only[if_neg e];exact h j z b
structure iL (wr w:World) (tb b o c:Nat) (l:List ap) (F k:Nat):Prop where
 t:wr.cell? w=some (.pointer (some ⟨tb,0,none⟩))
 m:wr.cell? ⟨w.heap.size+1+1,0,none⟩=some (.map (some (w.heap.size+1)))
 topo0:bP w tb b o c l
 left:gH wr (w.heap.size+1) k (ka l F k)
 bel:Below w w wr
theorem iL.below(h:iL wr w tb b o c l F k)(a:Bw wr wr'):iL wr' w tb b o c l F k:=
 ⟨(a.cell (p:=w.heap.size) (Q3 wr _ h.t)).trans h.t,(a.cell (p:=⟨w.heap.size+1+1,0,none⟩) (Q3 wr _ h.m)).trans h.m,h.topo0,h.left.below a h.left.lt,h.bel.trans (a.mono h.bel.size)⟩
theorem iL.topo(h:iL wr w tb b o c l F k):bP wr tb b o c l:=h.topo0.below h.bel
theorem iL.put(h:iL wr w tb b o c l F k)(d:gH wr' (w.heap.size+1) (k+1) (ka l F (k+1)))(a:wr.grownBy wr' (some (w.heap.size+1))):iL wr' w tb b o c l F (k+1):=
 ⟨a.cell h.t (by simp),a.cell h.m (by simp),h.topo0,d,h.bel.grown a h.bel.size (λj e=>by cases e;omega)⟩
theorem iL.drew(h:iL wr w tb b o c l F k):iL wr.drew w tb b o c l F k:=h.below (below_drewN (Q0 _ _) 1)
abbrev yT:=λ(x0:World)=>(.cells #[.func (.func 262) #[] #[.pointer (some ⟨x0,0,none⟩),.pointer (some ⟨x0.heap.size+1+1,0,none⟩)]] 261:Obj)
theorem iL.stand(h:iL wr w tb b o c l F 64):j9 (wr.alloc (yT w)) w (w.heap.size+1+1) wr tb b o c (w.heap.size+1) 64 l (ka l F 64):=
 ⟨iI h.t _,iI h.m _,by simp,h.topo.below ((Q0 _ _).alloc (lR) _),h.left.alloc _⟩
theorem SZ(f:bP w tb b o c l)(F:Nat):iL (((w.alloc (.cells #[tb] 82)).alloc (.map #[] 0)).alloc (.cells #[.map (some (w.heap.size+1))] 365)) w tb b o c l F 0:=by
 have d:=(((Q0 w w).alloc (lR) (.cells #[tb] 82)).alloc (by simp) (.map #[] 0)).alloc (by simp;omega) (.cells #[.map (some (w.heap.size+1))] 365);have a:=(gH.made (w.alloc (.cells #[tb] 82))).alloc (.cells #[.map (some (w.heap.size+1))] 365);have e:(w.alloc (.cells #[tb] 82)).heap.size=w.heap.size+1:=by simp
 rw[e,<- SV l F] at a;exact⟨by go_simp,by go_simp,f,a,d⟩
theorem S0{a b o c:Nat}(F:Nat)(L:Int){l:List ap}{w:World}(j:bP w a b o c l)(u:Good l)(B:F<18446744073709551616)(h0:0<=L)(Y:L<=64) :
  CB 214 #[a,.int .u64 F,L] w (.int .u64 (gF (gG l F) F L.toNat:Nat)):=by
 have HM:=@run_makeMap prog;have H:=j.len;have y:=qI u;have Hw:=qI (SZ j F);clear j u
 go_enter func214,ntmps214
 go_wp2
 go_loopw [15] (λi wr=>∃k:Nat,k<=64/\i=.int .i64 k/\Hu (iL wr w a b o c l F k)) (λi _=>64 - (intOf i).toNat)
 exact⟨0,by omega,rfl,Hw⟩
 ·clear Hw;obtain⟨k,s,hi,Hf⟩:=hrel
  by_cases f:k<64
  ·subst hi;have Hy:Hu (∀W,bP W a b o c l->CB 213 #[a,(k:Int)] W (.int .u64 (bW l k:Nat))):=λW D=>Ew k D
   have Hn:=sX (·.core) H k
   change bW l k<_ at Hn
   have C:Hu (∀W,CE 39 #[.int .u64 (bits BinOp.and IntKind.u64 (bW l k:Nat) (F:Nat))] W (.int .i64 (az (bW l k &&& F):Nat))):=λW=>by
    rw[bits_and_u64_nat _ _ Hn B];exact j7 _ W (nZ Hn (yR _ F))
   have J:az (bW l k &&& F)<=64:=vA _ 64;have N:=qI (SW l F k);generalize hcc:az (bW l k &&& F)=cc at *;clear hcc;generalize bW l k=ck at *;have Hh:=Hf.o.drew
   go_wp2
   refine wp_region_held_drew (S:=(λw'=>cl w' (w.heap.size+1+1) (0) (.map (some (w.heap.size+1)))/\cl w' w (0) a)) (by kernel_rfl) ⟨Hh.m,Hh.t⟩ λh=>?_;refine tk 0 ?_;refine tk 1 ?_;refine tk 2 ?_;refine tk 3 ?_;refine tk 5 ?_;refine rd 4 λK d=>?_;go_simp
   go_wp2
   refine (Hy.o _ Hh.topo).m λw1 r=>?_;have Hj:=Hh.below r;clear r
   go_wp2
   refine d.o _ _ ⟨Hj.m,Hj.t⟩ λh=>?_;clear d K;refine tk 6 ?_;refine rd 7 λK d=>?_;go_simp
   go_wp2
   refine (C.o _).e ?_
   go_wp2
   refine d.k h λh=>?_;refine rd 8 λK d=>?_;rw[if_pos (by rfl)];refine SY rfl (by omega) (by omega) J rfl rfl rfl Hj.left (by unfold maxLen;omega) ?_;intro Z Hp Hc;rw[N.o] at Hp;have Hm:=qI (Hj.put Hp Hc);clear Hp Hc;refine d.o _ _ ⟨Hm.o.m,Hm.o.t⟩ λh=>?_;clear d K;refine Qn (by kernel_rfl) ?_ _
   go_wp2
   go_roundw
   exact⟨k+1,by omega,by go_num,Hm⟩
   simp[intOf];omega
  ·have Ho:k=64:=by omega
   subst Ho;have E:_=Value.int .i64 64:=hi;clear s f hi;subst E;have HS:=qI Hf.o.stand;have Hv:=Hf.o.bel.alloc Hf.o.bel.size (yT w);have Hk:=qI Hv;clear Hv
   go_wp2
   generalize wr.alloc (yT w)=x at *;refine (SF F x B).mono ?_;rintro e T ⟨v,rfl,He,Hi⟩;have Hb:=qI (SU (gG l F) He Hi.size (HS.o.below Hi HS.o.lts) HS.o.lts y (SX y F));have Hx:=Hk.t Hi;clear He Hi HS
   go_wp2
   refine Hb.o.m λw6 ⟨Hg,Hq⟩=>?_;have Hs:=qI (Hx.o.trans (Hq.mono Hk.o.size));clear Hq Hb Hx Hk Hf;have HL:(iK (gG l F) F).length<=64:=by rw[vx];exact vA F 64
   have Q:Hu (gF (gG l F) F L.toNat=eY ((iK (gG l F) F).take L.toNat)):=rfl;have Ht:Hu (∀n∈iK (gG l F) F,n<64):=λn O=>(yN.1 O).1
   generalize iK (gG l F) F=R at *
   rcases Hg with⟨rfl,rfl⟩|⟨g,cp,rfl,HN,Ha⟩
   ·have Hl:min L 0=0:=by omega
    have p:Hu (gF (gG l F) F L.toNat=0):=by grind[eY]
    go_wp2
    refine wp_loop_rounds 1 ?_;rw[rounds_succ]
    go_wp2
    go_ret;exact⟨by rw[p.o];rfl,Hs⟩
   ·have P:=qI Ha;clear Ha;obtain⟨M,I,Hl⟩:∃M:Nat,M=min L.toNat R.length/\min L (R.length:Int)=(M:Int):=⟨min L.toNat R.length,rfl,by omega⟩;have p:Hu (gF (gG l F) F L.toNat=eY (R.take M)):=by
     grind
    have HP:M<=R.length:=by omega
    clear I Q
    go_wp2
    go_loop [11,40] (λt i=>∃k:Nat,k<=M/\i=.int .i64 k/\t=.int .u64 (eY (R.take k):Nat)) (λ_ i=>M - (intOf i).toNat)
    exact⟨0,by omega,rfl,rfl⟩
    ·obtain⟨k,s,rfl,rfl⟩:=hrel
     by_cases f:k<M
     ·have Hr:k<R.length:=by omega
      have Ha:=P.o k Hr;have X:=Ht.o (R.getD k 0) (by simp[Hr]);have G:R.take (k+1)=R.take k++[R.getD k 0]:=by
       simp_all
      have Hz:eY (R.take k)<18446744073709551616:=by
       apply Nat.lt_pow_two_of_testBit (n:=64);intro i hi;rw[yL];exact Q7 (λV=>by have:=Ht.o i (List.mem_of_mem_take V);omega)
      have m:=qI (rP (eY (R.take k)) (R.getD k 0) Hz X);have A:Hu (eY (R.take k) ||| 2 ^ (R.getD k 0)=eY (R.take (k+1))):=by grind[Hu,yK]
      rw[A.o] at m;clear G A;generalize R.getD k 0=z at *
      go_wp2
      go_round
      exact⟨k+1,by omega,by go_num,by rw[<- m.o]⟩
      simp[intOf];omega
     ·have U:k=M:=by omega
      have q:Hu (eY (R.take k)=gF (gG l F) F L.toNat):=by grind
      rw[q.o];clear U q
      go_wp2
      go_ret;exact⟨rfl,Hs⟩
end
theorem yU(a b:Nat)(d:a<18446744073709551616)(c:b<18446744073709551616):bits BinOp.or IntKind.u64 (a:Int) (b:Int)=((a ||| b:Nat):Int):=bits_or_u64_nat a b d c
theorem ES{g b o c:Nat}(F:Nat)(L:Int){l:List ap}{w:World}(i:bP w g b o c l)(q:Good l)(h:F<18446744073709551616)(k:0<=L)(s:L<=64) :
  CB 169 #[g,.int .u64 F,(L:Int)] w (.int .u64 (du l F L:Nat)):=by
 have m:=qI i;have Hv:=i.len;have r:=qI q;clear i q;have Ht:∀(fn:Fn) (first cap:Array Value) (w:World),(Instr.makeFunc fn first cap).run prog w=.ok (.func fn first cap) w:=λ_ _ _ _=>rfl
 have v:=EL l F L k;have s1:=nZ h (EK l F L);have Hh:Hu (CB 211 #[.func (.func 212) #[.pointer (some ⟨g,0,none⟩)] #[],.int .u64 F,(L:Int)] w (.int .u64 (ij l F L:Nat))):=SI F L m h k s;have Hl:Hu (ik l F L=ij l F L ||| kT (bW l) (aI F (ij l F L)) (L - az (ij l F L))):=rfl;have Hj:Hu (du l F L=ik l F L ||| gF (gG l (aI F (ik l F L))) (aI F (ik l F L)) (L - az (ik l F L)).toNat):=rfl;have y:=EN l F L k;have s2:=nZ h (yP l F L);generalize du l F L=s3 at *;generalize ik l F L=a at *;generalize ij l F L=d at *;have He:=qI (mJ F d h s1);have n:=lK (A:=F) d h;have Hp:Hu (∀W,CE 39 #[.int .u64 d] W (.int .i64 (az d:Nat))):=λW=>j7 d W s1
 have Hk:=qI (mJ F a h s2);have p:=lK (A:=F) a h;have Ho:Hu (∀W,CE 39 #[.int .u64 a] W (.int .i64 (az a:Nat))):=λW=>j7 a W s2
 have Hm:kT (bW l) (aI F d) (L - az d)<18446744073709551616:=yJ _ _ _ _ n;have Hf:=qI (yU d (kT (bW l) (aI F d) (L - az d)) s1 Hm);have Hq:gF (gG l (aI F a)) (aI F a) (L - az a).toNat<18446744073709551616:=nZ p (yO);have Hi:=qI (yU a (gF (gG l (aI F a)) (aI F a) (L - az a).toNat) s2 Hq);rw[<- Hl.o] at Hf;rw[<- Hj.o] at Hi;clear Hl Hj;generalize az d=ca at *;generalize az a=cb at *;have Hs:Hu (∀W,bP W g b o c l->CB 211 #[.func (.func 213) #[.pointer (some ⟨g,0,none⟩)] #[],.int .u64 (aI F d:Nat),(L - ca:Int)] W (.int .u64 (kT (bW l) (aI F d) (L - ca):Nat))):=λW j=>SJ (aI F d) (L - ca) j n (by omega) (by omega)
 have Hn:Hu (∀W,bP W g b o c l->CB 214 #[g,.int .u64 (aI F a:Nat),(L - cb:Int)] W (.int .u64 (gF (gG l (aI F a)) (aI F a) (L - cb).toNat:Nat))):=λW j=>S0 (aI F a) (L - cb) j r p (by omega) (by omega)
 generalize kT (bW l) (aI F d) (L - ca)=ws at *;generalize gF (gG l (aI F a)) (aI F a) (L - cb).toNat=ss at *
 go_enter func169,ntmps169
 go_wp2
 refine Hh.o.m λD f=>?_;have Ha:=qI (m.o.below f);have Hb:=qI f;clear m f Hh;have t:=He.o
 go_wp2
 refine (Hp.o _).e ?_
 go_wp2
 refine (Hs.o _ Ha).m λB f=>?_;have Hg:=qI (Ha.o.below f);have Hc:=Hb.t f;clear Ha Hb f t He;have n2:=Hk.o;have x:=Hf.o
 go_wp2
 refine (Ho.o _).e ?_
 go_wp2
 refine (Hn.o _ Hg).m λC f=>?_;have Hr:=Hc.t f;clear Hg Hc f n2 Hk;have z:=Hi.o
 go_wp2
 go_ret;exact⟨rfl,Hr⟩
def mK (r:Nat × Int):Value:=.tuple #[.int .u64 (r.1:Nat),aD r.2]
theorem S1(s:Nat):mK (s,0)=.tuple #[.int .u64 s,.nilIface]:=rfl
theorem ET:mK (0,1)=.tuple #[.int .u64 0,.iface 108 (1:Int)]:=rfl
theorem S2:mK (0,8)=.tuple #[.int .u64 0,.iface 108 (8:Int)]:=rfl
theorem S4(b F on:Nat)(L:Int)(l:List ap)(w:World)(h:L<0\/64<L) :
  CB 132 #[b,.int .u64 F,L,.int .u8 on] w (mK (bT l F L (aB (bD on) l))):=by
 have a:Hu (bT l F L (aB (bD on) l)=(0,1)):=by grind[Hu,bT]
 rw[a.o,ET];have key:L<0\/(0<=L/\64<L):=by omega
 clear h a
 rcases key with h|⟨h,c⟩
 all_goals
  go_enter func132,ntmps132
  go_wp2
  go_ret2;exact⟨rfl,Q0 _ _⟩
theorem S5(a b o c F on:Nat)(L:Int)(l:List ap)(w:World)(d:bP w a b o c l)(j:F<18446744073709551616)(n:0<=L)(p:L<=64)(h:¬ F &&& aB bh l=F) :
  CB 132 #[a,.int .u64 F,L,.int .u8 on] w (mK (bT l F L (aB (bD on) l))):=by
 have f:Hu (bT l F L (aB (bD on) l)=(0,1)):=by unfold Hu bT;rw[if_pos (.inr (.inr h))]
 rw[f.o,ET];have k:=qI (nW d);have i:aB bh l<18446744073709551616:=jJ bh l _ d.len;have g:=qI λW=>od F (aB bh l) W j i;rw[Q7 h] at g;clear h f d
 go_enter func132,ntmps132
 go_wp2
 refine k.o.m λr m=>?_
 go_wp2
 refine (g.o _).e ?_
 go_wp2
 go_ret2;exact⟨rfl,m⟩
theorem S6(d b o c F on:Nat)(L:Int)(l:List ap)(w:World)(f:bP w d b o c l)(g:F<18446744073709551616)(s:0<=L)(t:L<=64)(h:F &&& aB bh l=F)(k:(az F:Int)<L) :
  CB 132 #[d,.int .u64 F,L,.int .u8 on] w (mK (bT l F L (aB (bD on) l))):=by
 have i:Hu (bT l F L (aB (bD on) l)=(0,8)):=by
  unfold Hu bT;rw[if_neg (λa=>by rcases a with a|a|a;omega;omega;exact a h),if_pos k]
 rw[i.o,S2];have n:=qI (nW f);have m:aB bh l<18446744073709551616:=jJ bh l _ f.len;have j:=qI λW=>od F (aB bh l) W g m;rw[Qc h] at j;have r:Hu (∀W,CE 39 #[.int .u64 F] W (.int .i64 (az F:Nat))):=λW=>j7 F W g
 generalize az F=v at *;clear h i f
 go_enter func132,ntmps132
 go_wp2
 refine n.o.m λu q=>?_
 go_wp2
 refine (j.o _).e ?_
 go_wp2
 refine (r.o _).e ?_
 go_wp2
 go_ret2;exact⟨rfl,q⟩
theorem S7(d b o c F on:Nat)(L:Int)(l:List ap)(w:World)(i:bP w d b o c l)(j:Good l)(f:F<18446744073709551616)(n:on<256)(k:0<=L)(p:L<=64)(h:F &&& aB bh l=F)(v:L<=(az F:Int)) :
  CB 132 #[d,.int .u64 F,(L:Int),.int .u8 on] w (mK (bT l F L (aB (bD on) l))):=by
 have q:=qI (yS (l:=l) (F:=F) (L:=L) (aB (bD on) l) k p h v);rw[q.o,S1];have t:=qI (nW (a:=d) (b:=b) (o:=o) (c:=c) (l:=l) (w:=w) i);have x:aB bh l<18446744073709551616:=jJ bh l _ i.len;have y:aB (bD on) l<18446744073709551616:=jJ _ l _ i.len;have u:=qI λW=>od F (aB bh l) W f x;rw[Qc h] at u;have z:Hu (∀W,CE 39 #[.int .u64 F] W (.int .i64 (az F:Nat))):=λW=>j7 F W f
 generalize az F=O at *;have Hi:Hu (∀W,bP W d b o c l->CB 168 #[d,.int .u8 on] W (.int .u64 (aB (bD on) l:Nat))):=λW g=>RS (a:=d) (b:=b) (o:=o) (c:=c) (l:=l) on (w:=W) g j n
 have m:F &&& aB (bD on) l<18446744073709551616:=nZ f (yR F _);have D:=qI (bits_and_u64_nat F (aB (bD on) l) f y);have Hm:=qI λW g=>ES (g:=d) (b:=b) (o:=o) (c:=c) (F &&& aB (bD on) l) L (l:=l) (w:=W) g j m k p;have Hl:=qI (mJ F (F &&& aB (bD on) l) f m);have B:=yQ l (F &&& aB (bD on) l) L k;have Hh:=nZ m (vz l (F &&& aB (bD on) l) L);have Ho:Hu (∀W,CE 39 #[.int .u64 (du l (F &&& aB (bD on) l) L:Nat)] W (.int .i64 (az (du l (F &&& aB (bD on) l) L):Nat))):=λW=>j7 _ W Hh
 have hd:=lK (A:=F) (F &&& aB (bD on) l) f;have Hj:=qI λW g=>ES (g:=d) (b:=b) (o:=o) (c:=c) (aI F (F &&& aB (bD on) l)) (L - az (du l (F &&& aB (bD on) l) L)) (l:=l) (w:=W) g j hd (by omega) (by omega);have Hk:=nZ hd (vz l (aI F (F &&& aB (bD on) l)) (L - az (du l (F &&& aB (bD on) l) L)));have E:=qI (yU _ _ Hh Hk);have Hp:(az (du l (F &&& aB (bD on) l) L):Int)<=L:=by omega
 have r:=qI i;generalize du l (aI F (F &&& aB (bD on) l)) (L - az (du l (F &&& aB (bD on) l) L))=s2 at *;generalize aI F (F &&& aB (bD on) l)=K at *;generalize az (du l (F &&& aB (bD on) l) L)=c1 at *;generalize du l (F &&& aB (bD on) l) L=s1 at *;generalize F &&& aB (bD on) l=near at *;generalize aB (bD on) l=G at *;clear h q i j B
 go_enter func132,ntmps132
 go_wp2
 refine t.o.m λN a=>?_;have Ha:=qI (r.o.below a);have Hc:=qI a;clear r a t
 go_wp2
 refine (u.o _).e ?_
 go_wp2
 refine (z.o _).e ?_
 go_wp2
 refine (Hi.o _ Ha).m λs a=>?_;have Hb:=qI (Ha.o.below a);have Hf:=Hc.t a;clear Ha a Hc;have C:=D.o
 go_wp2
 refine (Hm.o _ Hb).m λH a=>?_;have Hg:=qI (Hb.o.below a);have He:=Hf.t a;clear Hb a Hf C;have n2:=Hl.o
 go_wp2
 refine (Ho.o _).e ?_
 go_wp2
 refine (Hj.o _ Hg).m λM a=>?_;have Hn:=He.t a;clear Hg a He n2;have I:=E.o
 go_wp2
 go_ret2;exact⟨rfl,Hn⟩
theorem S8{a b o c:Nat}(F on:Nat)(L:Int){l:List ap}{w:World}(h:bP w a b o c l)(i:Good l)(g:F<18446744073709551616)(d:on<256) :
  CB 132 #[a,.int .u64 F,L,.int .u8 on] w (mK (bT l F L (aB (bD on) l))):=by
 by_cases f:L<0\/64<L
 ·simp_all[S4]
 ·grind[S6,S7,S5]
