import Derived.Test.YtjlblidnfebmiaaGreatDoorE14
import Derived.Lib.CountLaws
import Derived.Lib.Split
import Derived.Laws.Bits128
set_option maxRecDepth 100000
set_option maxHeartbeats 16000000
open Go Go.RowKit
open Go.Proofs.Tryz
namespace Go.Proofs.YtjlblidnfebmiaaGreatDoor
variable {k:Nat} {l:List UInt8}
theorem B7 (a b:List UInt8):(ByteArray.mk a.toArray)++(ByteArray.mk b.toArray)=ByteArray.mk (a++b).toArray:=by
 apply ByteArray.ext;simp
theorem B8 (n:Nat) (h:n<100):(Lib.decDigits n).length<=2:=by
 by_cases a:n<10
 ·rw [Lib.decDigits_one a];simp
 ·rw [Lib.decDigits_two a h];simp
theorem B9 (f l:Nat) (w:World) (hf:f<64) (b:l<64) :
  Calls prog 231 #[(f:Int),(l:Int)] w λe w'=>e=.returned (.string ⟨(cU (f,l)).toArray⟩)/\w'=w:=by
 have c:=B8 f (by omega);have a:=B8 l (by omega)
 by_cases h:f=l
 ·subst h;have H:Hu (cU (f,f)=Lib.decDigits f):=by simp [Hu,cU]
  go_enter func231,ntmps231
  go_wp2_with fail
  refine (Tryz.strconv_Itoa_small f (by omega) _).mono ?_;rintro e w' ⟨rfl,rfl⟩
  go_wp2
  go_ret;exact ⟨by rw [H.o];rfl,rfl⟩
 ·have H:Hu (cU (f,l)=Lib.decDigits f++[45]++Lib.decDigits l):=by simp [Hu,cU,h]
  have d:((f:Int) == (l:Int))=false:=by simp;omega
  clear h
  go_enter func231,ntmps231
  go_wp2_with fail
  refine (Tryz.strconv_Itoa_small f (by omega) _).mono ?_;rintro e w' ⟨rfl,rfl⟩
  go_wp2_with fail
  refine (Tryz.strconv_Itoa_small l (by omega) _).mono ?_;rintro e w' ⟨rfl,rfl⟩
  go_wp2
  go_ret;refine ⟨?_,rfl⟩;rw [H.o]
  show Ending.returned ((ByteArray.mk (Lib.decDigits f).toArray++ByteArray.mk [45].toArray)++ByteArray.mk (Lib.decDigits l).toArray)=_
  rw [B7,B7]
def gr (A:Nat) (z:Int):Bool:=decide (0<=z/\z<64) && A.testBit z.toNat
theorem wF (A k:Nat) (a:A<18446744073709551616):gr A (k:Int)=A.testBit k:=by
 unfold gr
 by_cases h:k<64
 ·rw [Qc (by omega),Int.toNat_natCast];rfl
 ·rw [Q7 (by omega)]
  have:A.testBit k=false:=Nat.testBit_lt_two_pow (Q1 a (Nat.pow_le_pow_right (n:=2) (by omega) (show 64<=k by omega)))
  rw [this];rfl
theorem Cc (A:Nat) (z:Int) (w:World) (a:A<18446744073709551616) :
  Calls prog 148 #[.int .u64 A,z] w λe w'=>e=.returned (.bool (gr A z))/\w'=w:=by
 unfold gr
 by_cases h:0<=z/\z<64
 ·obtain ⟨n,rfl⟩:=Int.eq_ofNat_of_zero_le h.1;rw [Qc h,Int.toNat_natCast];exact FW A n w a (by omega)
 ·rw [Q7 h];exact FX A z w (by omega)
theorem mB (A:Nat) (z:Int) (w:World) (a:A<18446744073709551616) (h:gr A z=true) :
  Calls prog 148 #[.int .u64 A,z] w λe w'=>e=.returned true/\w'=w:=by
 have:=Cc A z w a
 rw [h] at this;exact this
theorem qD (A:Nat) (z:Int) (w:World) (a:A<18446744073709551616) (h:gr A z=false) :
  Calls prog 148 #[.int .u64 A,z] w λe w'=>e=.returned false/\w'=w:=by
 have:=Cc A z w a
 rw [h] at this;exact this
theorem ta:(prog.info? 9).map (λi=>(i.zero,i.size,i.bytes))=some (some (.string ⟨#[]⟩),1,16):=by kernel_rfl
def dq (l:List (List UInt8)):List Value:=l.map λ(b:List UInt8)=>Value.string ⟨b.toArray⟩
theorem td (l:List (List UInt8)) (b:List UInt8):dq (l++[b])=dq l++[.string ⟨b.toArray⟩]:=by simp [dq]
theorem qE (l:List (List UInt8)):∀ u∈dq l,u.oneCell'=true:=by
 intro u a;obtain ⟨_,_,rfl⟩:=Qk.1 a;rfl
theorem Nj (A k:Nat):(eM A k).length<=k:=by induction k <;> grind [eM]
theorem Nk (A k:Nat):fV A k<=k:=by induction k <;> grind [fV]
def fh (A k:Nat):List (List UInt8):=(eM A k).map cU
theorem Cd (A k:Nat):(fh A k).length<=k:=by unfold fh;rw [Q9];exact Nj A k
theorem Ce (A k:Nat) (a:A.testBit k=true) (b:A.testBit (k+1)=false):fh A (k+1)=fh A k++[cU (fV A k,k)]:=by
 simp [fh,eM,a,b]
theorem wG (A k:Nat) (h:A.testBit k=false\/A.testBit (k+1)=true):fh A (k+1)=fh A k:=by
 unfold fh;rw [eM]
 rcases h with h|h <;> simp [h]
theorem Nl (A:Nat) (w:World) (a:A<18446744073709551616)
  (x:Hu (∀ (v:Value) (r:World),r.ownsRow w 9 1 v (fh A 64).length (dq (fh A 64))->Below w w r->
   Calls prog 227 #[v,.string ⟨#[44]⟩] r λe w'=>e=.returned (.string ⟨(Lib.join (fh A 64) [44]).toArray⟩)/\Below r r w')) :
  Calls prog 180 #[.int .u64 A] w λe w'=>e=.returned (.string ⟨(Lib.join (fh A 64) [44]).toArray⟩)/\Below w w w':=by
 obtain ⟨i0,hi,Hi,Hj,Hl⟩:=info_parts ta
 go_enter func180,ntmps180
 go_wp2
 go_loopw [3,4,6] (λv f i wr=>∃ k c:Nat,k<=64/\c<=64/\i=.int .i64 k/\f=.int .i64 c/\Hu (∀ j,k=j+1->A.testBit j=true->c=fV A j)/\wr.ownsRow w 9 1 v (fh A k).length (dq (fh A k))/\Below w w wr) (λ_ _ i _=>64 - (intOf i).toNat)
 case atStart=>exact ⟨0,0,by omega,by omega,rfl,rfl,by intro j l;omega,Qw _ _ _ _,Q0 _ _⟩
 case round=>
  obtain ⟨k,c,z,Hn,rfl,rfl,y,Ha,Hf⟩:=hrel
  by_cases n:k<64
  ·have hle:=Cd A k;have Hk:=Hf.size;have q:=wF A k a
   rcases mz (A.testBit k) with b|b
   ·have s:Hu (gr A (k:Int)=true):=by unfold Hu;rw [q,b]
    -- where the run begins
    have t:Hu ((gr A ((k:Int) - 1)=true->c=fV A k)/\(gr A ((k:Int) - 1)=false->k=fV A k)):=by
     unfold Hu;cases k with
     | zero=>exact ⟨λh=>by simp [gr] at h,λ_=>rfl⟩
     | succ j=>
      rw [show ((j+1:Nat):Int) - 1=(j:Int) by omega,wF A j a];refine ⟨λh=>?_,λh=>?_⟩
      ·rw [fV,if_pos h];exact y.o j rfl h
      ·rw [fV,if_neg (by rw [h];simp)]
    have m:=wF A (k+1) a;rw [show ((k+1:Nat):Int)=(k:Int)+1 by omega] at m;have Ho:=Nk A k
    rcases mz (gr A ((k:Int) - 1)) with d|d <;> rcases mz (A.testBit (k+1)) with g|g
    ·have o:=dS d;have p:Hu (gr A ((k:Int)+1)=true):=by unfold Hu;rw [m,g]
     have He:=dS (t.o.1 d);have HS:=dS (wG A k (.inr g));clear d g b q m
     go_wp2_with fail
     refine (mB A _ _ a s.o).mono ?_;rintro e w' ⟨rfl,rfl⟩
     go_wp2_with fail
     refine (mB A _ _ a o.o).mono ?_;rintro e w' ⟨rfl,rfl⟩
     go_wp2_with fail
     refine (mB A _ _ a p.o).mono ?_;rintro e w' ⟨rfl,rfl⟩
     go_wp2
     go_roundw
     case rel=>exact ⟨k+1,c,by omega,by omega,by go_num,rfl,λj l _=>(show k=j by omega) ▸ He.o,by rw [HS.o];exact Ha,Hf⟩
     case measure=>simp [intOf];omega
    ·have o:=dS d;have p:Hu (gr A ((k:Int)+1)=false):=by unfold Hu;rw [m,g]
     have He:=dS (t.o.1 d);have HS:Hu (fh A (k+1)=fh A k++[cU (c,k)]):=by
      unfold Hu;rw [Ce A k b g,<- He.o]
     have Hg:c<64:=by have:=He.o;omega
     clear d g b q m
     go_wp2_with fail
     refine (mB A _ _ a s.o).mono ?_;rintro e w' ⟨rfl,rfl⟩
     go_wp2_with fail
     refine (mB A _ _ a o.o).mono ?_;rintro e w' ⟨rfl,rfl⟩
     go_wp2_with fail
     refine (qD A _ _ a p.o).mono ?_;rintro e w' ⟨rfl,rfl⟩
     go_wp2_with fail
     refine (B9 c k _ Hg n).mono ?_;rintro e w' ⟨rfl,rfl⟩
     go_wp2_with (at_builtin;refine wpList_append_own _ rfl _ _ 105 rfl w 9 i0 (.string ⟨#[]⟩) 1 16 underlying105 hi Hi Hj Hl rfl (by decide) _ _ _ rfl (Ha.alloc _) ⟨_,0,none⟩ 1 1 [.string ⟨(cU (c,k)).toArray⟩] rfl rfl (cell_one_new _ _ _) (qE [cU (c,k)]) (by unfold maxLen;omega) (by omega) (by simp;omega) ?_;intro u r Hc Hb _)
     go_roundw
     case rel=>
      refine ⟨k+1,c,by omega,by omega,by go_num,rfl,?_,?_,?_⟩
      ·intro j l _;obtain rfl:k=j:=by omega
       exact He.o
      ·rw [HS.o,td,Q2];exact Hc
      ·exact (Hf.alloc Hk _).grown Hb (by simp;omega) λj l=>(Ha.lt j l).1
     case measure=>simp [intOf];omega
    ·have o:=dS d;have p:Hu (gr A ((k:Int)+1)=true):=by unfold Hu;rw [m,g]
     have He:=dS (t.o.2 d);have HS:=dS (wG A k (.inr g));clear d g b q m
     go_wp2_with fail
     refine (mB A _ _ a s.o).mono ?_;rintro e w' ⟨rfl,rfl⟩
     go_wp2_with fail
     refine (qD A _ _ a o.o).mono ?_;rintro e w' ⟨rfl,rfl⟩
     go_wp2_with fail
     refine (mB A _ _ a p.o).mono ?_;rintro e w' ⟨rfl,rfl⟩
     go_wp2
     go_roundw
     case rel=>exact ⟨k+1,k,by omega,by omega,by go_num,rfl,λj l _=>(show k=j by omega) ▸ He.o,by rw [HS.o];exact Ha,Hf⟩
     case measure=>simp [intOf];omega
    ·have o:=dS d;have p:Hu (gr A ((k:Int)+1)=false):=by unfold Hu;rw [m,g]
     have He:=dS (t.o.2 d);have HS:Hu (fh A (k+1)=fh A k++[cU (k,k)]):=by
      unfold Hu;rw [Ce A k b g,<- He.o]
     have Hg:k<64:=by have:=He.o;omega
     clear d g b q m
     go_wp2_with fail
     refine (mB A _ _ a s.o).mono ?_;rintro e w' ⟨rfl,rfl⟩
     go_wp2_with fail
     refine (qD A _ _ a o.o).mono ?_;rintro e w' ⟨rfl,rfl⟩
     go_wp2_with fail
     refine (qD A _ _ a p.o).mono ?_;rintro e w' ⟨rfl,rfl⟩
     go_wp2_with fail
     refine (B9 k k _ Hg n).mono ?_;rintro e w' ⟨rfl,rfl⟩
     go_wp2_with (at_builtin;refine wpList_append_own _ rfl _ _ 105 rfl w 9 i0 (.string ⟨#[]⟩) 1 16 underlying105 hi Hi Hj Hl rfl (by decide) _ _ _ rfl (Ha.alloc _) ⟨_,0,none⟩ 1 1 [.string ⟨(cU (k,k)).toArray⟩] rfl rfl (cell_one_new _ _ _) (qE [cU (k,k)]) (by unfold maxLen;omega) (by omega) (by simp;omega) ?_;intro u r Hc Hb _)
     go_roundw
     case rel=>
      refine ⟨k+1,k,by omega,by omega,by go_num,rfl,?_,?_,?_⟩
      ·intro j l _;obtain rfl:k=j:=by omega
       exact He.o
      ·rw [HS.o,td,Q2];exact Hc
      ·exact (Hf.alloc Hk _).grown Hb (by simp;omega) λj l=>(Ha.lt j l).1
     case measure=>simp [intOf];omega
   ·have s:Hu (gr A (k:Int)=false):=by unfold Hu;rw [q,b]
    have HS:=dS (wG A k (.inl b));have B:=dS b;clear b q
    go_wp2_with fail
    refine (qD A _ _ a s.o).mono ?_;rintro e w' ⟨rfl,rfl⟩
    go_wp2
    go_roundw
    case rel=>
     refine ⟨k+1,c,by omega,Hn,by go_num,rfl,?_,by rw [HS.o];exact Ha,Hf⟩;intro j l b;obtain rfl:k=j:=by omega
     rw [B.o] at b;cases b
    case measure=>simp [intOf];omega
  ·have Hh:k=64:=by omega
   subst Hh;clear z n
   go_wp2_with fail
   refine (x.o _ _ Ha Hf).mono ?_;rintro e C ⟨rfl,Hm⟩
   go_wp2
   go_ret;exact ⟨rfl,Hf.trans (Hm.mono Hf.size)⟩
theorem wH {w:World} {base:Nat} {e:TypeId} {v:Value} {n:Nat} {d:List Value} (h:w.ownsRow base e 1 v n d) :
  (v=.slice none 0 0/\n=0)\/∃ g a,v=.slice (some ⟨g,0,none⟩) n a/\n<=a/\g<w.heap.size/\∀ j x,d[j]?=some x->w.cell? ⟨g,j,none⟩=some x:=by
 obtain ⟨l,h⟩:=h
 rcases h with ⟨rfl,rfl⟩|⟨g,a,m,rfl,o,c,k,p,hs,f⟩
 ·exact .inl ⟨rfl,rfl⟩
 ·refine .inr ⟨g,a,rfl,k,(gS c).1,λj x b=>?_⟩;have i:j<n*1:=by rw [<- l];exact (List.getElem?_eq_some_iff.1 b).1
  rw [<- f,List.getElem?_take,if_pos i] at b;simp only [World.cell?,c]
  simpa using b
theorem Nn (v:Value) (c:List (List UInt8)) (w:World) (base:Nat) (h:w.ownsRow base 9 1 v c.length (dq c)) (o:c.length<=100) (p:(Lib.join c [44]).length<=100000) :
  Calls prog 227 #[v,.string ⟨#[44]⟩] w λe w'=>e=.returned (.string ⟨(Lib.join c [44]).toArray⟩)/\Below w w w':=by
 rcases wH h with ⟨rfl,l⟩|⟨g,d,rfl,m,k,Ha⟩
 ·have:c=[]:=Qe l
  subst this;refine (Tryz.strings_Join_none none 0 ⟨#[44]⟩ w).mono ?_;rintro e w' ⟨rfl,rfl⟩;exact ⟨rfl,Q0 _ _⟩
 ·have i:(c.map λ(b:List UInt8)=>ByteArray.mk b.toArray).map (·.data.toList)=c:=by
   rw [List.map_map];exact List.map_id'' (λ_=>rfl) c
  have:=Tryz.strings_Join g 0 d (c.map λ(b:List UInt8)=>ByteArray.mk b.toArray) ⟨#[44]⟩ w (λj x f=>by
   rw [Qd];apply Ha;unfold dq;rw [List.getElem?_map] at f ⊢;obtain ⟨a,n,rfl⟩:=Option.map_eq_some_iff.1 f;rw [n];rfl) k (by simp;omega) (by simpa using m) (by rw [i];show (Lib.join c [44]).length<=_;omega)
  rw [i] at this
  simpa using this
theorem No (c:UInt8) (l:List UInt8) (h:(aS c l).2.2=true):l=(aS c l).1++c :: (aS c l).2.1/\c ∉ (aS c l).1:=by induction l <;> grind [aS]
theorem Np (c:UInt8) (l:List UInt8) (h:(aS c l).2.2=false):c ∉ l:=by induction l <;> grind [aS]
theorem Nq (c:UInt8):∀ (n:Nat) (l:List UInt8),l.length<=n->Lib.splitK [c] 0 (Lib.count l [c]) l=aG c l:=by
 intro n
 induction n with
 | zero=>
  intro l e
  have:l=[]:=Qe (by omega)
  subst this;rfl
 | succ n ih=>
  intro l e
  rcases ur c l with ⟨b,d⟩|⟨i,b,d⟩
  ·rw [Lib.count_miss b,rG c l (Np c l (by rw [d]))];rfl
  ·have a:=No c l (by rw [d]);rw [d] at a;simp only at a;have Ha:=congrArg List.length a.1
   simp at Ha
   rw [Lib.count_hit (by simp) b,Nat.add_comm,Lib.splitK,if_neg (by rw [b];simp),b];simp only [Int.toNat_natCast,Qg,List.length_nil,Qd,Nat.add_zero];rw [ih _ (by rw [List.length_drop];omega)]
   conv=>rhs;rw [a.1]
   rw [pR c _ _ a.2]
theorem Cf (s:ByteArray):(Lib.splitB ⟨#[44]⟩ 0 (Lib.countB s ⟨#[44]⟩) s).map (·.data.toList)=aG 44 s.data.toList:=by
 rw [Lib.splitB_data];exact Nq 44 _ _ (lR)
theorem Nr (s:ByteArray):ByteArray.mk s.data.toList.toArray=s:=by cases s;rfl
theorem Ns (s:ByteArray):(Lib.splitB ⟨#[44]⟩ 0 (Lib.countB s ⟨#[44]⟩) s).map Value.string=(aG 44 s.data.toList).map λ(b:List UInt8)=>Value.string ⟨b.toArray⟩:=by grind [Cf,Nr,List.map_map,List.map_congr_left]
theorem Nt (s:ByteArray):∀ n,s.size<=n->(Lib.splitB ⟨#[44]⟩ 0 (Lib.countB s ⟨#[44]⟩) s).length=Lib.countB s ⟨#[44]⟩+1:=by
 intro n
 induction n generalizing s with
 | zero=>
  intro h
  rcases Lib.indexB_cases s ⟨#[44]⟩ with a|⟨i,a,b⟩
  ·rw [Lib.countB_miss s _ a];rfl
  ·exfalso;have:(ByteArray.mk #[44]).size=1:=rfl;omega
 | succ n ih=>
  intro h
  rcases Lib.indexB_cases s ⟨#[44]⟩ with a|⟨i,a,b⟩
  ·rw [Lib.countB_miss s _ a];rfl
  ·have c:(ByteArray.mk #[44]).size=1:=rfl;rw [Lib.countB_hit s _ i (by omega) a,Nat.add_comm 1,Lib.splitB_hit _ 0 _ s i a,Qg,ih _ (by rw [ByteArray.size_extract];omega)]
theorem Nu (s:ByteArray) (w:World) (hs:s.size<4294967281) (a:cO w) :
  Calls prog 190 #[s,.string ⟨#[44]⟩] w λe w'=>
   e=.returned (.slice w (aG 44 s.data.toList).length (aG 44 s.data.toList).length)/\w'=w.alloc (.cells ((aG 44 s.data.toList).map λ(b:List UInt8)=>Value.string ⟨b.toArray⟩).toArray 9):=by
 obtain ⟨m,a⟩:=a
 have:=Tryz.strings_Split s ⟨#[44]⟩ m w hs a (by decide)
 have c:Lib.countB s ⟨#[44]⟩+1=(aG 44 s.data.toList).length:=by
  rw [<- Cf,Q9,Nt s _ (lR)]
 rw [Ns,c] at this;exact this
theorem Cg (s:ByteArray) (f l:Int) (w:World) (hs:s.size<4294967281) (c:cO w) (h:gW s.data.toList=some (f,l)) :
  Calls prog 306 #[s] w λe w'=>e=.returned (.tuple #[f,l,true])/\∃ n,w'=w.drewN n:=by
 have b:Hu (s.data.toList.length=s.size):=by unfold Hu;simp
 have hle:=wB 45 s.data.toList;have Ha:(ByteArray.mk (aS 45 s.data.toList).1.toArray).size<=maxLen:=by
  have:=hle.1;rw [b.o] at this;show (aS 45 s.data.toList).1.toArray.size<=_;unfold maxLen;simp;omega
 have Hb:(ByteArray.mk (aS 45 s.data.toList).2.1.toArray).size<=maxLen:=by
  have:=hle.2;rw [b.o] at this;show (aS 45 s.data.toList).2.1.toArray.size<=_;unfold maxLen;simp;omega
 clear hle;unfold gW at h
 rcases mz (aS 45 s.data.toList).2.2 with hf|hf
 ·rw [if_pos hf] at h
  split at h
  ·rename_i a
   rw [Bool.and_eq_true,Bool.and_eq_true,Qp] at a;obtain ⟨⟨g1,d⟩,g⟩:=a;simp only [Option.some.injEq,Prod.mk.injEq] at h;obtain ⟨rfl,rfl⟩:=h
   go_enter func306,ntmps306
   go_wp2_with fail
   refine (qC s 45 _ hs c hf).mono ?_;rintro e w' ⟨rfl,n,rfl⟩
   go_wp2_with fail
   refine (nL _ 19 _ Ha g1).mono ?_;rintro e w' ⟨rfl,rfl⟩
   go_wp2_with fail
   refine (nL _ 19 _ Hb d).mono ?_;rintro e w' ⟨rfl,rfl⟩
   go_wp2
   go_ret3;exact ⟨rfl,n,rfl⟩
  ·cases h
 ·rw [if_neg (by rw [hf];simp)] at h
  split at h
  ·rename_i g1
   simp only [Option.some.injEq,Prod.mk.injEq] at h;obtain ⟨rfl,rfl⟩:=h
   go_enter func306,ntmps306
   go_wp2_with fail
   refine (BV s 45 _ hs c hf).mono ?_;rintro e w' ⟨rfl,n,rfl⟩
   go_wp2_with fail
   refine (nL _ 19 _ Ha g1).mono ?_;rintro e w' ⟨rfl,rfl⟩
   go_wp2
   go_ret3;exact ⟨rfl,n,rfl⟩
  ·cases h
theorem Nv (s:ByteArray) (w:World) (hs:s.size<4294967281) (f:cO w) (h:gW s.data.toList=none) :
  Calls prog 306 #[s] w λe w'=>(∃ a b,e=.returned (.tuple #[(a:Int),(b:Int),false]))/\∃ n,w'=w.drewN n:=by
 have j:Hu (s.data.toList.length=s.size):=by unfold Hu;simp
 have hle:=wB 45 s.data.toList;have Ha:(ByteArray.mk (aS 45 s.data.toList).1.toArray).size<=maxLen:=by
  have:=hle.1;rw [j.o] at this;show (aS 45 s.data.toList).1.toArray.size<=_;unfold maxLen;simp;omega
 have Hb:(ByteArray.mk (aS 45 s.data.toList).2.1.toArray).size<=maxLen:=by
  have:=hle.2;rw [j.o] at this;show (aS 45 s.data.toList).2.1.toArray.size<=_;unfold maxLen;simp;omega
 clear hle;unfold gW at h
 rcases mz (aS 45 s.data.toList).2.2 with hf|hf
 ·rw [if_pos hf] at h
  split at h
  ·cases h
  ·rename_i d
   clear h
   rcases mz (cQ 19 (aS 45 s.data.toList).1) with g1|g1
   ·rcases mz (cQ 19 (aS 45 s.data.toList).2.1) with c|c
    ·have g:¬ bG (aS 45 s.data.toList).1<=bG (aS 45 s.data.toList).2.1:=by
      intro g;rw [g1,c,Qc g] at d;exact d rfl
     have Hc:decide (bG (aS 45 s.data.toList).1<=bG (aS 45 s.data.toList).2.1)=false:=Q7 g;clear d g
     go_enter func306,ntmps306
     go_wp2_with fail
     refine (qC s 45 _ hs f hf).mono ?_;rintro e w' ⟨rfl,n,rfl⟩
     go_wp2_with fail
     refine (nL _ 19 _ Ha g1).mono ?_;rintro e w' ⟨rfl,rfl⟩
     go_wp2_with fail
     refine (nL _ 19 _ Hb c).mono ?_;rintro e w' ⟨rfl,rfl⟩
     go_wp2
     go_ret3;exact ⟨⟨_,_,rfl⟩,n,rfl⟩
    ·clear d
     go_enter func306,ntmps306
     go_wp2_with fail
     refine (qC s 45 _ hs f hf).mono ?_;rintro e w' ⟨rfl,n,rfl⟩
     go_wp2_with fail
     refine (nL _ 19 _ Ha g1).mono ?_;rintro e w' ⟨rfl,rfl⟩
     go_wp2_with fail
     refine (qB _ 19 _ Hb c).mono ?_;rintro e w' ⟨rfl,rfl⟩
     go_wp2
     go_ret3;exact ⟨⟨_,_,rfl⟩,n,rfl⟩
   ·clear d
    rcases mz (cQ 19 (aS 45 s.data.toList).2.1) with c|c
    ·skip
     go_enter func306,ntmps306
     go_wp2_with fail
     refine (qC s 45 _ hs f hf).mono ?_;rintro e w' ⟨rfl,n,rfl⟩
     go_wp2_with fail
     refine (qB _ 19 _ Ha g1).mono ?_;rintro e w' ⟨rfl,rfl⟩
     go_wp2_with fail
     refine (nL _ 19 _ Hb c).mono ?_;rintro e w' ⟨rfl,rfl⟩
     go_wp2
     go_ret3;exact ⟨⟨_,_,rfl⟩,n,rfl⟩
    ·skip
     go_enter func306,ntmps306
     go_wp2_with fail
     refine (qC s 45 _ hs f hf).mono ?_;rintro e w' ⟨rfl,n,rfl⟩
     go_wp2_with fail
     refine (qB _ 19 _ Ha g1).mono ?_;rintro e w' ⟨rfl,rfl⟩
     go_wp2_with fail
     refine (qB _ 19 _ Hb c).mono ?_;rintro e w' ⟨rfl,rfl⟩
     go_wp2
     go_ret3;exact ⟨⟨_,_,rfl⟩,n,rfl⟩
 ·rw [if_neg (by rw [hf];simp)] at h
  split at h
  ·cases h
  ·rename_i i
   clear h;have g1:cQ 19 (aS 45 s.data.toList).1=false:=by simpa using i
   clear i
   go_enter func306,ntmps306
   go_wp2_with fail
   refine (BV s 45 _ hs f hf).mono ?_;rintro e w' ⟨rfl,n,rfl⟩
   go_wp2_with fail
   refine (qB _ 19 _ Ha g1).mono ?_;rintro e w' ⟨rfl,rfl⟩
   go_wp2
   go_ret3;exact ⟨⟨_,_,rfl⟩,n,rfl⟩
theorem Nw:lQ 8=6148914691236517205:=by decide +kernel
theorem Nx:kO 8=3689348814741910323:=by decide +kernel
theorem Ny:oA 8=1085102592571150095:=by decide +kernel
theorem wI (a:Nat) (m:Nat) (c:a<18446744073709551616) (d:m<18446744073709551616) (z:Int) (b:z=(a:Int)):bits BinOp.and IntKind.u64 z (m:Int)=((a &&& m:Nat):Int):=by
 rw [b];exact bits_and_u64_nat a m c d
theorem oY (n:Nat) (z:Int) (a:z=(n:Int)) (h:n<18446744073709551616):IntKind.u64.wrap z=(n:Int):=by
 rw [IntKind.wrap_u64,a];omega
theorem Nz (A:Nat) (a:A<18446744073709551616):IntKind.u64.wrap (bits BinOp.and IntKind.u64 ((A:Int) / 2) 6148914691236517205+bits BinOp.and IntKind.u64 (A:Int) 6148914691236517205)=((eA 8 A:Nat):Int)/\eA 8 A<18446744073709551616:=by grind [wI,eA,Nw,oY,Nat.and_le_right]
theorem NA (x:Nat) (a:x<18446744073709551616):IntKind.u64.wrap (bits BinOp.and IntKind.u64 ((x:Int) / 4) 3689348814741910323+bits BinOp.and IntKind.u64 (x:Int) 3689348814741910323)=((eN 8 x:Nat):Int)/\eN 8 x<=7378697629483820646:=by grind [wI,eN,Nx,oY,Nat.and_le_right]
theorem NB (x:Nat) (a:x<=7378697629483820646):bits BinOp.and IntKind.u64 (IntKind.u64.wrap ((x:Int) / 16+(x:Int))) 1085102592571150095=((kP 8 x:Nat):Int):=by grind [oY,kP,Ny,wI]
def fi (a b c d e f g h:Nat):Nat:=a+256*(b+256*(c+256*(d+256*(e+256*(f+256*(g+256*h))))))
theorem th (a b c d e f g h:Nat) (_ha:a<=64) (_hb:b<=64) (_hc:c<=64) (_hd:d<=64) (_he:e<=64) (_hf:f<=64) (_hg:g<=64) (_hh:h<=64):fi a b c d e f g h<4700000000000000000:=by unfold fi;omega
theorem NC (a b c d e f g h:Nat) (_ha:a<=8) (_hb:b<=8) (_hc:c<=8) (_hd:d<=8) (_he:e<=8) (_hf:f<=8) (_hg:g<=8) (_hh:h<=8) :
  fi a b c d e f g h+fi a b c d e f g h / 256=fi (a+b) (b+c) (c+d) (d+e) (e+f) (f+g) (g+h) h:=by grind [fi]
theorem ND (a b c d e f g h:Nat) (_ha:a<=16) (_hb:b<=16) (_hc:c<=16) (_hd:d<=16) (_he:e<=16) (_hf:f<=16) (_hg:g<=16) (_hh:h<=16) :
  fi a b c d e f g h+fi a b c d e f g h / 65536=fi (a+c) (b+d) (c+e) (d+f) (e+g) (f+h) g h:=by grind [fi]
theorem NE (a b c d e f g h:Nat) (_ha:a<=32) (_hb:b<=32) (_hc:c<=32) (_hd:d<=32) (_he:e<=32) (_hf:f<=32) (_hg:g<=32) (_hh:h<=32) :
  fi a b c d e f g h+fi a b c d e f g h / 4294967296=fi (a+e) (b+f) (c+g) (d+h) e f g h:=by grind [fi]
theorem NF (a b c d e f g h:Nat) (_ha:a<=64):fi a b c d e f g h % 128=a:=by unfold fi;omega
theorem NG (A:Nat) (v:A<18446744073709551616):∃ j i X Y Z V:Nat,
  IntKind.u64.wrap (bits BinOp.and IntKind.u64 ((A:Int) / 2) 6148914691236517205+bits BinOp.and IntKind.u64 (A:Int) 6148914691236517205)=(j:Int)/\
  IntKind.u64.wrap (bits BinOp.and IntKind.u64 ((j:Int) / 4) 3689348814741910323+bits BinOp.and IntKind.u64 (j:Int) 3689348814741910323)=(i:Int)/\
  bits BinOp.and IntKind.u64 (IntKind.u64.wrap ((i:Int) / 16+(i:Int))) 1085102592571150095=(X:Int)/\
  IntKind.u64.wrap ((X:Int)+(X:Int) / 256)=(Y:Int)/\IntKind.u64.wrap ((Y:Int)+(Y:Int) / 65536)=(Z:Int)/\IntKind.u64.wrap ((Z:Int)+(Z:Int) / 4294967296)=(V:Int)/\
  V % 128=(ba A 64).length/\V<4700000000000000000:=by
 obtain ⟨a,b,c,d,e,f,g,h,p,q,r,hd,z,hf,n,t,w,o⟩:=yG A;have l:=Nz A v;have k:=NA (eA 8 A) l.2;have m:=NB (eN 8 (eA 8 A)) k.2;have Ha:kP 8 (eN 8 (eA 8 A))=fi a b c d e f g h:=w;rw [Ha] at m;have B:=th a b c d e f g h (by omega) (by omega) (by omega) (by omega) (by omega) (by omega) (by omega) (by omega);have x:=NC a b c d e f g h p q r hd z hf n t;have C:=th (a+b) (b+c) (c+d) (d+e) (e+f) (f+g) (g+h) h (by omega) (by omega) (by omega) (by omega) (by omega) (by omega) (by omega) (by omega);have s:=ND (a+b) (b+c) (c+d) (d+e) (e+f) (f+g) (g+h) h (by omega) (by omega) (by omega) (by omega) (by omega) (by omega) (by omega) (by omega);have D:=th (a+b+(c+d)) (b+c+(d+e)) (c+d+(e+f)) (d+e+(f+g)) (e+f+(g+h)) (f+g+h) (g+h) h (by omega) (by omega) (by omega) (by omega) (by omega) (by omega) (by omega) (by omega);have u:=NE (a+b+(c+d)) (b+c+(d+e)) (c+d+(e+f)) (d+e+(f+g)) (e+f+(g+h)) (f+g+h) (g+h) h (by omega) (by omega) (by omega) (by omega) (by omega) (by omega) (by omega) (by omega);have y:=th (a+b+(c+d)+(e+f+(g+h))) (b+c+(d+e)+(f+g+h)) (c+d+(e+f)+(g+h)) (d+e+(f+g)+h) (e+f+(g+h)) (f+g+h) (g+h) h (by omega) (by omega) (by omega) (by omega) (by omega) (by omega) (by omega) (by omega);refine ⟨_,_,_,fi (a+b) (b+c) (c+d) (d+e) (e+f) (f+g) (g+h) h,fi (a+b+(c+d)) (b+c+(d+e)) (c+d+(e+f)) (d+e+(f+g)) (e+f+(g+h)) (f+g+h) (g+h) h,_,l.1,k.1,m,?_,?_,?_,NF (a+b+(c+d)+(e+f+(g+h))) (b+c+(d+e)+(f+g+h)) (c+d+(e+f)+(g+h)) (d+e+(f+g)+h) (e+f+(g+h)) (f+g+h) (g+h) h (by omega) |>.trans (by rw [o];omega),y⟩
 ·exact oY _ _ (by rw [<- x];simp) (by omega)
 ·exact oY _ _ (by rw [<- s];simp) (by omega)
 ·exact oY _ _ (by rw [<- u];simp) (by omega)
theorem NH (A:Nat) (w:World) (b:A<18446744073709551616) :
  Calls prog 77 #[.int .u64 A] w λe w'=>e=.returned (.int .i64 ((ba A 64).length:Nat))/\w'=w:=by
 obtain ⟨k,d,X,Y,Z,V,r1,f,c,g,j,h,e,i⟩:=NG A b;have a:=dS e;clear e
 go_enter func77,ntmps77
 go_wp2
 go_ret;refine ⟨?_,rfl⟩;have e:bits BinOp.and IntKind.i64 (V:Int) 127=((ba A 64).length:Nat):=by
  rw [i64_and127];have:=a.o;omega
 exact congrArg (λz=>Ending.returned (z:Int)) e
theorem Ch (A:Nat) (w:World) (a:A<18446744073709551616) :
  Calls prog 39 #[.int .u64 A] w λe w'=>e=.returned (.int .i64 ((ba A 64).length:Nat))/\w'=w:=by
 go_enter func39,ntmps39
 go_wp2_with fail
 refine (NH A _ a).mono ?_;rintro e w' ⟨rfl,rfl⟩
 go_wp2
 go_ret;exact ⟨rfl,rfl⟩
def jo (l:List UInt8) (k acc:Nat):Prop:=dC l=lP acc ((aG 44 l).drop k)
theorem jo.next {a:Nat} (h:jo l k a) (b:k<(aG 44 l).length) :
  (gW ((aG 44 l).getD k [])=none->dC l=(0,4))/\
  (∀ f t,gW ((aG 44 l).getD k [])=some (f,t)->(63<t->dC l=(0,1))/\(¬ 63<t->jo l (k+1) (a ||| fW f.toNat (t - f+1).toNat))):=by grind [aG,jo,lP,List.drop_eq_getElem_cons]
theorem jo.done {a:Nat} (h:jo l k a) (b:(aG 44 l).length<=k):dC l=(a,0):=by
 unfold jo at h;rw [List.drop_eq_nil_of_le b] at h;exact h
theorem Ci (t:List UInt8) (f l:Int) (h:gW t=some (f,l)):0<=f/\f<=l/\l<=9223372036854775807:=by
 unfold gW at h
 split at h
 ·split at h
  ·rename_i a
   rw [Bool.and_eq_true,Bool.and_eq_true,Qp] at a;obtain ⟨⟨⟨_,_,b⟩,_⟩,⟨_,_,c⟩⟩:_/\_:=⟨(m5 _ _).1 a.1.1,(m5 _ _).1 a.1.2⟩;simp only [Option.some.injEq,Prod.mk.injEq] at h;obtain ⟨rfl,rfl⟩:=h;exact ⟨rE _ b,a.2,c⟩
  ·cases h
 ·split at h
  ·rename_i a
   obtain ⟨⟨_,_,b⟩,_,c⟩:=(m5 _ _).1 a;simp only [Option.some.injEq,Prod.mk.injEq] at h;obtain ⟨rfl,rfl⟩:=h;exact ⟨rE _ b,Int.le_refl _,c⟩
  ·cases h
theorem Cj (f m:Nat) (h:f+m<=64):fW f m<18446744073709551616:=by induction m <;> grind [fW,BW,MY]
theorem ti (c:UInt8) (l:List UInt8):(aG c l).length<=l.length+1:=by induction l <;> grind [aG]
theorem oZ (c:UInt8) (l:List UInt8):∀ x∈aG c l,x.length<=l.length:=by induction l <;> grind [aG]
theorem NI (z:Int) (w:World) (a:0<=z) (b:z<64):Calls prog 185 #[z] w λe w'=>e=.returned true/\w'=w:=by
 go_enter func185,ntmps185
 go_wp2
 go_ret;exact ⟨rfl,rfl⟩
theorem NJ (z:Int) (w:World) (a:0<=z) (b:64<=z):Calls prog 185 #[z] w λe w'=>e=.returned false/\w'=w:=by
 have hd:decide (z<64)=false:=Q7 (by omega)
 go_enter func185,ntmps185
 go_wp2
 go_ret;exact ⟨rfl,rfl⟩
theorem NK (s:ByteArray) (w:World) (hs:s.size<=300) (G:0<s.size) (r:cO w) :
  Calls prog 288 #[s] w λe w'=>e=.returned (mA (dC s.data.toList))/\Below w w w':=by
 have Hs:s.toList.isEmpty=false:=by rw [pM,Q7 (by omega)]
 have Hn:decide (300<(s.size:Int))=false:=Q7 (by omega);have h:Hu (s.data.toList.length=s.size):=by unfold Hu;simp
 have u:=dS r;clear r;have y:jo s.data.toList 0 0:=by
  unfold jo dC;rw [if_neg (by rw [h.o];omega),if_neg (λe=>by have:=h.o;rw [e] at this;simp at this;omega)];rfl
 have Hr:=ti 44 s.data.toList;rw [h.o] at Hr;have D:=dS (oZ 44 s.data.toList);have Hw:0<(aG 44 s.data.toList).length:=List.length_pos_iff.2 (m7 _ _)
 go_enter func288,ntmps288
 go_wp2_with fail
 refine (Nu s _ (by omega) u.o).mono ?_;rintro e o ⟨rfl,Hg⟩;have Hc:Below w w o:=by rw [Hg];exact (Q0 _ _).alloc (lR) _
 have Ho:=dS (u.o.below Hc);have C:Hu (∀ k,k<(aG 44 s.data.toList).length->o.cell? ⟨w,k,none⟩=some (.string ⟨((aG 44 s.data.toList).getD k []).toArray⟩)):=by
  intro k z;rw [Hg]
  simp [go_sem,z]
 have Hl:Hu (jo s.data.toList 0 0):=y;clear Hg y
 go_wp2
 go_loopw [4,20] (λt i wr=>∃ k c m:Nat,k<=(aG 44 s.data.toList).length/\c<18446744073709551616/\i=.int .i64 k/\t=.int .u64 c/\Hu (jo s.data.toList k c)/\wr=o.drewN m) (λ_ i _=>(aG 44 s.data.toList).length - (intOf i).toNat)
 case atStart=>exact ⟨0,0,0,by omega,by omega,rfl,rfl,Hl,rfl⟩
 case round=>
  obtain ⟨k,c,m,z,Hh,rfl,rfl,Hk,rfl⟩:=hrel;clear Hl
  by_cases d:k<(aG 44 s.data.toList).length
  ·have Hb:=C.o k d;have g:=dS (Hk.o.next d);have Hp:((aG 44 s.data.toList).getD k []).length<=300:=by
    have He:(aG 44 s.data.toList).getD k []∈aG 44 s.data.toList:=by simp [d]
    have:=D.o _ He
    rw [h.o] at this;omega
   generalize (aG 44 s.data.toList).getD k []=t at Hb g Hp;have Hi:(ByteArray.mk t.toArray).size<4294967281:=by show t.toArray.size<_;simp;omega
   have Hf:Hu (cO (o.drewN m)):=Ho
   rcases ho:gW t with _|⟨f,l⟩
   ·have H:=dS (g.o.1 ho);have j:=dS ho;clear ho
    go_wp2_with fail
    refine (Nv ⟨t.toArray⟩ _ Hi Hf.o j.o).mono ?_;rintro e x ⟨⟨a,b,rfl⟩,n,rfl⟩
    go_wp2
    go_ret2;exact ⟨congrArg Ending.returned (congrArg mA H.o).symm,below_drewN Hc _⟩
   ·have Hj:=Ci t f l ho;obtain ⟨F,rfl⟩:=Int.eq_ofNat_of_zero_le Hj.1;obtain ⟨T,rfl⟩:=Int.eq_ofNat_of_zero_le (show 0<=l by omega);have j:=dS ho;have Hv:F<=T:=by omega
    have Ht:(T:Int)<=9223372036854775807:=Hj.2.2;have Hm:=dS (g.o.2 _ _ ho);clear ho Hj g
    by_cases E:63<T
    ·have H:=dS (Hm.o.1 (by omega))
     go_wp2_with fail
     refine (Cg ⟨t.toArray⟩ _ _ _ Hi Hf.o j.o).mono ?_;rintro e x ⟨rfl,n,rfl⟩
     go_wp2_with fail
     refine (NJ _ _ (by omega) (by omega)).mono ?_;rintro e B ⟨rfl,rfl⟩
     go_wp2
     go_ret2;exact ⟨congrArg Ending.returned (congrArg mA H.o).symm,below_drewN Hc _⟩
    ·have H:=dS (Hm.o.2 (by omega))
     go_wp2_with fail
     refine (Cg ⟨t.toArray⟩ _ _ _ Hi Hf.o j.o).mono ?_;rintro e x ⟨rfl,n,rfl⟩
     go_wp2_with fail
     refine (NI _ _ (by omega) (by omega)).mono ?_;rintro e B ⟨rfl,rfl⟩
     go_wp2_with fail
     go_loop [4,10] (λt i=>∃ q:Nat,q<=T - F+1/\i=.int .i64 (F+q:Nat)/\t=.int .u64 (c ||| fW F q:Nat)) (λ_ i=>65 - (intOf i).toNat)
     case atStart=>exact ⟨0,by omega,rfl,by simp [fW]⟩
     case round=>
      obtain ⟨q,I,rfl,rfl⟩:=hrel;have Ha:c ||| fW F q<18446744073709551616:=BW _ _ Hh (Cj F q (by omega))
      by_cases v:F+q<=T
      ·have Hq:Hu (bits BinOp.or IntKind.u64 (c ||| fW F q:Nat) (IntKind.u64.wrap (2 ^ (F+q)))=((c ||| fW F (q+1):Nat):Int)):=by
        unfold Hu;rw [MX _ _ Ha (by omega),fW,Nat.or_assoc]
       go_wp2_with fail
       go_round
       case rel=>exact ⟨q+1,by omega,by go_num,by rw [<- Hq.o]⟩
       case measure=>simp [intOf];omega
      ·have A:Hu (jo s.data.toList (k+1) (c ||| fW F q)):=by
        have p:=H.o;rw [show ((F:Nat):Int).toNat=F by omega,show (((T:Nat):Int) - (F:Nat)+1).toNat=q by omega] at p;exact p
       go_wp2
       go_roundw
       case rel=>exact ⟨k+1,_,_,by omega,Ha,by go_num,rfl,A,rfl⟩
       case measure=>simp [intOf];omega
  ·have H:=dS (Hk.o.done (by omega))
   go_wp2
   go_ret2;exact ⟨congrArg Ending.returned (congrArg mA H.o).symm,below_drewN Hc m⟩
theorem NL (s:ByteArray) (w:World) (hs:300<s.size) (a:s.size<=maxLen) :
  Calls prog 288 #[s] w λe w'=>e=.returned (mA (0,2))/\Below w w w':=by
 unfold maxLen at a
 go_enter func288,ntmps288
 go_wp2
 go_ret2;exact ⟨rfl,Q0 _ _⟩
theorem NM (w:World) :
  Calls prog 288 #[.string ⟨#[]⟩] w λe w'=>e=.returned (mA (0,0))/\Below w w w':=by
 go_enter func288,ntmps288
 go_wp2
 go_ret2;exact ⟨rfl,Q0 _ _⟩
theorem NN (s:ByteArray) (h:s.size=0):s=⟨#[]⟩:=by cases s <;> grind [ByteArray.size]
theorem NO (s:ByteArray) (w:World) (a:s.size<=maxLen) (f:cO w) :
  Calls prog 288 #[s] w λe w'=>e=.returned (mA (dC s.data.toList))/\Below w w w':=by
 by_cases b:300<s.size
 ·have:=NL s w b a
  rw [show ((0,2):Nat × Int)=dC s.data.toList by unfold dC;rw [if_pos (by simpa using b)]] at this;exact this
 ·by_cases c:s.size=0
  ·have d:=NN s c;subst d;exact NM w
  ·exact NK s w (by omega) (by omega) f
theorem NP (A:Nat) (w:World) (b:A<18446744073709551616) :
  Calls prog 180 #[.int .u64 A] w λe w'=>e=.returned (.string ⟨(iz A).toArray⟩)/\Below w w w':=
 Nl A w b (λv a h _=>Nn v (fh A 64) a w h (Q5 (Cd A 64) (by omega)) (Q5 (uy A) (by omega)))
