import Derived.Test.YtjlblidnfebmiaaGreatDoorF14
import Derived.Lib.CountLaws
import Derived.Lib.Split
import Derived.Laws.Bits128
set_option maxRecDepth 100000
set_option maxHeartbeats 16000000
open Go Go.RowKit
open Go.Proofs.Tryz
namespace Go.Proofs.YtjlblidnfebmiaaGreatDoor
variable{k:Nat}{l:List UInt8}
theorem CA(a b:List UInt8):(ByteArray.mk a.toArray)++(ByteArray.mk b.toArray)=ByteArray.mk (a++b).toArray:=by
 apply ByteArray.ext;simp
theorem CB(n:Nat)(h:n<100):(Lib.decDigits n).length<=2:=by
 by_cases a:n<10
 ·rw[Lib.decDigits_one a];simp
 ·rw[Lib.decDigits_two a h];simp
theorem CC(f l:Nat)(w:World)(hf:f<64)(c:l<64) :
  Calls prog 231 #[(f:Int),(l:Int)] w λe w'=>e=.returned (.string ⟨(cY (f,l)).toArray⟩)/\w'=w:=by
 have b:=CB f (by omega);have d:=CB l (by omega)
 by_cases h:f=l
 ·subst h;have H:Hu (cY (f,f)=Lib.decDigits f):=by simp[Hu,cY]
  go_enter func231,ntmps231
  go_wp2_with fail
  refine (Tryz.strconv_Itoa_small f (by omega) _).mono ?_;rintro e w' ⟨rfl,rfl⟩
  go_wp2
  go_ret;exact⟨by rw[H.o];rfl,rfl⟩
 ·have H:Hu (cY (f,l)=Lib.decDigits f++[45]++Lib.decDigits l):=by simp[Hu,cY,h]
  have a:((f:Int) == (l:Int))=false:=by simp;omega
  clear h
  go_enter func231,ntmps231
  go_wp2_with fail
  refine (Tryz.strconv_Itoa_small f (by omega) _).mono ?_;rintro e w' ⟨rfl,rfl⟩
  go_wp2_with fail
  refine (Tryz.strconv_Itoa_small l (by omega) _).mono ?_;rintro e w' ⟨rfl,rfl⟩
  go_wp2
  go_ret;refine⟨?_,rfl⟩;rw[H.o]
  show Ending.returned ((ByteArray.mk (Lib.decDigits f).toArray++ByteArray.mk [45].toArray)++ByteArray.mk (Lib.decDigits l).toArray)=_
  rw[CA,CA]
def gG (A:Nat) (z:Int):Bool:=decide (0<=z/\z<64) && A.testBit z.toNat
theorem wZ(A k:Nat)(a:A<18446744073709551616):gG A (k:Int)=A.testBit k:=by
 unfold gG
 by_cases h:k<64
 ·rw[Qc (by omega),Int.toNat_natCast];rfl
 ·rw[Q7 (by omega)]
  have:A.testBit k=false:=Nat.testBit_lt_two_pow (Q1 a (Nat.pow_le_pow_right (n:=2) (by omega) (show 64<=k by omega)))
  rw[this];rfl
theorem CD(A:Nat)(z:Int)(w:World)(a:A<18446744073709551616) :
  Calls prog 148 #[.int .u64 A,z] w λe w'=>e=.returned (.bool (gG A z))/\w'=w:=by
 unfold gG
 by_cases h:0<=z/\z<64
 ·obtain⟨n,rfl⟩:=Int.eq_ofNat_of_zero_le h.1;rw[Qc h,Int.toNat_natCast];exact Gy A n w a (by omega)
 ·rw[Q7 h];exact Gz A z w (by omega)
theorem mN(A:Nat)(z:Int)(w:World)(a:A<18446744073709551616)(h:gG A z=true) :
  Calls prog 148 #[.int .u64 A,z] w λe w'=>e=.returned true/\w'=w:=by
 have:=CD A z w a
 rw[h] at this;exact this
theorem qY(A:Nat)(z:Int)(w:World)(a:A<18446744073709551616)(h:gG A z=false) :
  Calls prog 148 #[.int .u64 A,z] w λe w'=>e=.returned false/\w'=w:=by
 have:=CD A z w a
 rw[h] at this;exact this
theorem tM:(prog.info? 9).map (λi=>(i.zero,i.size,i.bytes))=some (some (.string ⟨#[]⟩),1,16):=by kernel_rfl
def dF (l:List (List UInt8)):List Value:=l.map λ(b:List UInt8)=>Value.string ⟨b.toArray⟩
theorem tN(l:List (List UInt8))(b:List UInt8):dF (l++[b])=dF l++[.string ⟨b.toArray⟩]:=by simp[dF]
theorem qZ(l:List (List UInt8)):∀u∈dF l,u.oneCell'=true:=by
 intro u a;obtain⟨_,_,rfl⟩:=Qk.1 a;rfl
theorem Ob(A k:Nat):(eV A k).length<=k:=by induction k <;> grind[eV]
theorem Oc(A k:Nat):gq A k<=k:=by induction k <;> grind[gq]
def fp (A k:Nat):List (List UInt8):=(eV A k).map cY
theorem CE(A k:Nat):(fp A k).length<=k:=by unfold fp;rw[Q9];exact Ob A k
theorem CF(A k:Nat)(a:A.testBit k=true)(b:A.testBit (k+1)=false):fp A (k+1)=fp A k++[cY (gq A k,k)]:=by
 simp[fp,eV,a,b]
theorem xa(A k:Nat)(h:A.testBit k=false\/A.testBit (k+1)=true):fp A (k+1)=fp A k:=by
 unfold fp;rw[eV]
 rcases h with h|h <;> simp[h]
theorem Of(A:Nat)(w:World)(a:A<18446744073709551616)
  (u:Hu (∀(v:Value) (p:World),p.ownsRow w 9 1 v (fp A 64).length (dF (fp A 64))->Below w w p->
   Calls prog 227 #[v,.string ⟨#[44]⟩] p λe w'=>e=.returned (.string ⟨(Lib.join (fp A 64) [44]).toArray⟩)/\Below p p w')) :
  Calls prog 180 #[.int .u64 A] w λe w'=>e=.returned (.string ⟨(Lib.join (fp A 64) [44]).toArray⟩)/\Below w w w':=by
 obtain⟨i0,hi,Hi,Hk,Hj⟩:=info_parts tM
 go_enter func180,ntmps180
 go_wp2
 go_loopw [3,4,6] (λv f i wr=>∃k d:Nat,k<=64/\d<=64/\i=.int .i64 k/\f=.int .i64 d/\Hu (∀j,k=j+1->A.testBit j=true->d=gq A j)/\wr.ownsRow w 9 1 v (fp A k).length (dF (fp A k))/\Below w w wr) (λ_ _ i _=>64 - (intOf i).toNat)
 case atStart=>exact⟨0,0,by omega,by omega,rfl,rfl,by intro j l;omega,Qw _ _ _ _,Q0 _ _⟩
 case round=>
  obtain⟨k,d,z,Hm,rfl,rfl,B,Ha,Hf⟩:=hrel
  by_cases o:k<64
  ·have hle:=CE A k;have Hl:=Hf.size;have n:=wZ A k a
   rcases mL (A.testBit k) with b|b
   ·have s:Hu (gG A (k:Int)=true):=by unfold Hu;rw[n,b]
    -- where the run begins
    have t:Hu ((gG A ((k:Int) - 1)=true->d=gq A k)/\(gG A ((k:Int) - 1)=false->k=gq A k)):=by
     unfold Hu;cases k with
     | zero=>exact⟨λh=>by simp[gG] at h,λ_=>rfl⟩
     | succ j=>
      rw[show ((j+1:Nat):Int) - 1=(j:Int) by omega,wZ A j a];refine⟨λh=>?_,λh=>?_⟩
      ·rw[gq,if_pos h];exact B.o j rfl h
      ·rw[gq,if_neg (by rw[h];simp)]
    have m:=wZ A (k+1) a;rw[show ((k+1:Nat):Int)=(k:Int)+1 by omega] at m;have Ho:=Oc A k
    rcases mL (gG A ((k:Int) - 1)) with c|c <;> rcases mL (A.testBit (k+1)) with g|g
    ·have r:=dX c;have q:Hu (gG A ((k:Int)+1)=true):=by unfold Hu;rw[m,g]
     have Hc:=dX (t.o.1 c);have HS:=dX (xa A k (.inr g));clear c g b n m
     go_wp2_with fail
     refine (mN A _ _ a s.o).mono ?_;rintro e w' ⟨rfl,rfl⟩
     go_wp2_with fail
     refine (mN A _ _ a r.o).mono ?_;rintro e w' ⟨rfl,rfl⟩
     go_wp2_with fail
     refine (mN A _ _ a q.o).mono ?_;rintro e w' ⟨rfl,rfl⟩
     go_wp2
     go_roundw
     case rel=>exact⟨k+1,d,by omega,by omega,by go_num,rfl,λj l _=>(show k=j by omega) ▸ Hc.o,by rw[HS.o];exact Ha,Hf⟩
     case measure=>simp[intOf];omega
    ·have r:=dX c;have q:Hu (gG A ((k:Int)+1)=false):=by unfold Hu;rw[m,g]
     have Hc:=dX (t.o.1 c);have HS:Hu (fp A (k+1)=fp A k++[cY (d,k)]):=by
      unfold Hu;rw[CF A k b g,<- Hc.o]
     have Hg:d<64:=by have:=Hc.o;omega
     clear c g b n m
     go_wp2_with fail
     refine (mN A _ _ a s.o).mono ?_;rintro e w' ⟨rfl,rfl⟩
     go_wp2_with fail
     refine (mN A _ _ a r.o).mono ?_;rintro e w' ⟨rfl,rfl⟩
     go_wp2_with fail
     refine (qY A _ _ a q.o).mono ?_;rintro e w' ⟨rfl,rfl⟩
     go_wp2_with fail
     refine (CC d k _ Hg o).mono ?_;rintro e w' ⟨rfl,rfl⟩
     go_wp2_with (at_builtin;refine wpList_append_own _ rfl _ _ 105 rfl w 9 i0 (.string ⟨#[]⟩) 1 16 underlying105 hi Hi Hk Hj rfl (by decide) _ _ _ rfl (Ha.alloc _) ⟨_,0,none⟩ 1 1 [.string ⟨(cY (d,k)).toArray⟩] rfl rfl (cell_one_new _ _ _) (qZ [cY (d,k)]) (by unfold maxLen;omega) (by omega) (by simp;omega) ?_;intro y p He Hb _)
     go_roundw
     case rel=>
      refine⟨k+1,d,by omega,by omega,by go_num,rfl,?_,?_,?_⟩
      ·intro j l _;obtain rfl:k=j:=by omega
       exact Hc.o
      ·rw[HS.o,tN,Q2];exact He
      ·exact (Hf.alloc Hl _).grown Hb (by simp;omega) λj l=>(Ha.lt j l).1
     case measure=>simp[intOf];omega
    ·have r:=dX c;have q:Hu (gG A ((k:Int)+1)=true):=by unfold Hu;rw[m,g]
     have Hc:=dX (t.o.2 c);have HS:=dX (xa A k (.inr g));clear c g b n m
     go_wp2_with fail
     refine (mN A _ _ a s.o).mono ?_;rintro e w' ⟨rfl,rfl⟩
     go_wp2_with fail
     refine (qY A _ _ a r.o).mono ?_;rintro e w' ⟨rfl,rfl⟩
     go_wp2_with fail
     refine (mN A _ _ a q.o).mono ?_;rintro e w' ⟨rfl,rfl⟩
     go_wp2
     go_roundw
     case rel=>exact⟨k+1,k,by omega,by omega,by go_num,rfl,λj l _=>(show k=j by omega) ▸ Hc.o,by rw[HS.o];exact Ha,Hf⟩
     case measure=>simp[intOf];omega
    ·have r:=dX c;have q:Hu (gG A ((k:Int)+1)=false):=by unfold Hu;rw[m,g]
     have Hc:=dX (t.o.2 c);have HS:Hu (fp A (k+1)=fp A k++[cY (k,k)]):=by
      unfold Hu;rw[CF A k b g,<- Hc.o]
     have Hg:k<64:=by have:=Hc.o;omega
     clear c g b n m
     go_wp2_with fail
     refine (mN A _ _ a s.o).mono ?_;rintro e w' ⟨rfl,rfl⟩
     go_wp2_with fail
     refine (qY A _ _ a r.o).mono ?_;rintro e w' ⟨rfl,rfl⟩
     go_wp2_with fail
     refine (qY A _ _ a q.o).mono ?_;rintro e w' ⟨rfl,rfl⟩
     go_wp2_with fail
     refine (CC k k _ Hg o).mono ?_;rintro e w' ⟨rfl,rfl⟩
     go_wp2_with (at_builtin;refine wpList_append_own _ rfl _ _ 105 rfl w 9 i0 (.string ⟨#[]⟩) 1 16 underlying105 hi Hi Hk Hj rfl (by decide) _ _ _ rfl (Ha.alloc _) ⟨_,0,none⟩ 1 1 [.string ⟨(cY (k,k)).toArray⟩] rfl rfl (cell_one_new _ _ _) (qZ [cY (k,k)]) (by unfold maxLen;omega) (by omega) (by simp;omega) ?_;intro y p He Hb _)
     go_roundw
     case rel=>
      refine⟨k+1,k,by omega,by omega,by go_num,rfl,?_,?_,?_⟩
      ·intro j l _;obtain rfl:k=j:=by omega
       exact Hc.o
      ·rw[HS.o,tN,Q2];exact He
      ·exact (Hf.alloc Hl _).grown Hb (by simp;omega) λj l=>(Ha.lt j l).1
     case measure=>simp[intOf];omega
   ·have s:Hu (gG A (k:Int)=false):=by unfold Hu;rw[n,b]
    have HS:=dX (xa A k (.inl b));have x:=dX b;clear b n
    go_wp2_with fail
    refine (qY A _ _ a s.o).mono ?_;rintro e w' ⟨rfl,rfl⟩
    go_wp2
    go_roundw
    case rel=>
     refine⟨k+1,d,by omega,Hm,by go_num,rfl,?_,by rw[HS.o];exact Ha,Hf⟩;intro j l b;obtain rfl:k=j:=by omega
     rw[x.o] at b;cases b
    case measure=>simp[intOf];omega
  ·have Hh:k=64:=by omega
   subst Hh;clear z o
   go_wp2_with fail
   refine (u.o _ _ Ha Hf).mono ?_;rintro e C ⟨rfl,Hn⟩
   go_wp2
   go_ret;exact⟨rfl,Hf.trans (Hn.mono Hf.size)⟩
theorem xd{w:World}{base:Nat}{e:TypeId}{v:Value}{n:Nat}{c:List Value}(h:w.ownsRow base e 1 v n c) :
  (v=.slice none 0 0/\n=0)\/∃g a,v=.slice (some ⟨g,0,none⟩) n a/\n<=a/\g<w.heap.size/\∀j x,c[j]?=some x->w.cell? ⟨g,j,none⟩=some x:=by
 obtain⟨f,h⟩:=h
 rcases h with⟨rfl,rfl⟩|⟨g,a,i,rfl,p,d,l,o,hs,m⟩
 ·exact .inl ⟨rfl,rfl⟩
 ·refine .inr ⟨g,a,rfl,l,(gS d).1,λj x b=>?_⟩;have k:j<n*1:=by rw[<- f];exact (List.getElem?_eq_some_iff.1 b).1
  rw[<- m,List.getElem?_take,if_pos k] at b;simp only[World.cell?,d]
  simpa using b
theorem Og(v:Value)(c:List (List UInt8))(w:World)(base:Nat)(h:w.ownsRow base 9 1 v c.length (dF c))(p:c.length<=100)(o:(Lib.join c [44]).length<=100000) :
  Calls prog 227 #[v,.string ⟨#[44]⟩] w λe w'=>e=.returned (.string ⟨(Lib.join c [44]).toArray⟩)/\Below w w w':=by
 rcases xd h with⟨rfl,m⟩|⟨g,d,rfl,k,l,Ha⟩
 ·have:c=[]:=Qe m
  subst this;refine (Tryz.strings_Join_none none 0 ⟨#[44]⟩ w).mono ?_;rintro e w' ⟨rfl,rfl⟩;exact⟨rfl,Q0 _ _⟩
 ·have i:(c.map λ(b:List UInt8)=>ByteArray.mk b.toArray).map (·.data.toList)=c:=by
   rw[List.map_map];exact List.map_id'' (λ_=>rfl) c
  have:=Tryz.strings_Join g 0 d (c.map λ(b:List UInt8)=>ByteArray.mk b.toArray) ⟨#[44]⟩ w (λj x f=>by
   rw[Qd];apply Ha;unfold dF;rw[List.getElem?_map] at f ⊢;obtain⟨a,n,rfl⟩:=Option.map_eq_some_iff.1 f;rw[n];rfl) l (by simp;omega) (by simpa using k) (by rw[i];show (Lib.join c [44]).length<=_;omega)
  rw[i] at this
  simpa using this
theorem Oh(c:UInt8)(l:List UInt8)(h:(aT c l).2.2=true):l=(aT c l).1++c :: (aT c l).2.1/\c ∉ (aT c l).1:=by induction l <;> grind[aT]
theorem Oi(c:UInt8)(l:List UInt8)(h:(aT c l).2.2=false):c ∉ l:=by induction l <;> grind[aT]
theorem Oj(c:UInt8):∀(n:Nat) (l:List UInt8),l.length<=n->Lib.splitK [c] 0 (Lib.count l [c]) l=aH c l:=by
 intro n
 induction n with
 | zero=>
  intro l e
  have:l=[]:=Qe (by omega)
  subst this;rfl
 | succ n ih=>
  intro l e
  rcases uO c l with⟨a,d⟩|⟨i,a,d⟩
  ·rw[Lib.count_miss a,sj c l (Oi c l (by rw[d]))];rfl
  ·have b:=Oh c l (by rw[d]);rw[d] at b;simp only at b;have Ha:=congrArg List.length b.1
   simp at Ha
   rw[Lib.count_hit (by simp) a,Nat.add_comm,Lib.splitK,if_neg (by rw[a];simp),a];simp only[Int.toNat_natCast,Qg,List.length_nil,Qd,Nat.add_zero];rw[ih _ (by rw[List.length_drop];omega)]
   conv=>rhs;rw[b.1]
   rw[qh c _ _ b.2]
theorem CG(s:ByteArray):(Lib.splitB ⟨#[44]⟩ 0 (Lib.countB s ⟨#[44]⟩) s).map (·.data.toList)=aH 44 s.data.toList:=by
 rw[Lib.splitB_data];exact Oj 44 _ _ (lR)
theorem Ok(s:ByteArray):ByteArray.mk s.data.toList.toArray=s:=by cases s;rfl
theorem Ol(s:ByteArray):(Lib.splitB ⟨#[44]⟩ 0 (Lib.countB s ⟨#[44]⟩) s).map Value.string=(aH 44 s.data.toList).map λ(b:List UInt8)=>Value.string ⟨b.toArray⟩:=by grind[CG,Ok,List.map_map,List.map_congr_left]
theorem On(s:ByteArray):∀n,s.size<=n->(Lib.splitB ⟨#[44]⟩ 0 (Lib.countB s ⟨#[44]⟩) s).length=Lib.countB s ⟨#[44]⟩+1:=by
 intro n
 induction n generalizing s with
 | zero=>
  intro h
  rcases Lib.indexB_cases s ⟨#[44]⟩ with a|⟨i,a,b⟩
  ·rw[Lib.countB_miss s _ a];rfl
  ·exfalso;have:(ByteArray.mk #[44]).size=1:=rfl;omega
 | succ n ih=>
  intro h
  rcases Lib.indexB_cases s ⟨#[44]⟩ with a|⟨i,a,b⟩
  ·rw[Lib.countB_miss s _ a];rfl
  ·have c:(ByteArray.mk #[44]).size=1:=rfl;rw[Lib.countB_hit s _ i (by omega) a,Nat.add_comm 1,Lib.splitB_hit _ 0 _ s i a,Qg,ih _ (by rw[ByteArray.size_extract];omega)]
theorem Oo(s:ByteArray)(w:World)(hs:s.size<4294967281)(a:cS w) :
  Calls prog 190 #[s,.string ⟨#[44]⟩] w λe w'=>
   e=.returned (.slice w (aH 44 s.data.toList).length (aH 44 s.data.toList).length)/\w'=w.alloc (.cells ((aH 44 s.data.toList).map λ(b:List UInt8)=>Value.string ⟨b.toArray⟩).toArray 9):=by
 obtain⟨m,a⟩:=a
 have:=Tryz.strings_Split s ⟨#[44]⟩ m w hs a (by decide)
 have c:Lib.countB s ⟨#[44]⟩+1=(aH 44 s.data.toList).length:=by
  rw[<- CG,Q9,On s _ (lR)]
 rw[Ol,c] at this;exact this
theorem CH(s:ByteArray)(f l:Int)(w:World)(hs:s.size<4294967281)(b:cS w)(h:iq s.data.toList=some (f,l)) :
  Calls prog 306 #[s] w λe w'=>e=.returned (.tuple #[f,l,true])/\∃n,w'=w.drewN n:=by
 have c:Hu (s.data.toList.length=s.size):=by unfold Hu;simp
 have hle:=wW 45 s.data.toList;have Ha:(ByteArray.mk (aT 45 s.data.toList).1.toArray).size<=maxLen:=by
  have:=hle.1;rw[c.o] at this;show (aT 45 s.data.toList).1.toArray.size<=_;unfold maxLen;simp;omega
 have Hb:(ByteArray.mk (aT 45 s.data.toList).2.1.toArray).size<=maxLen:=by
  have:=hle.2;rw[c.o] at this;show (aT 45 s.data.toList).2.1.toArray.size<=_;unfold maxLen;simp;omega
 clear hle;unfold iq at h
 rcases mL (aT 45 s.data.toList).2.2 with hf|hf
 ·rw[if_pos hf] at h
  split at h
  ·rename_i a
   rw[Bool.and_eq_true,Bool.and_eq_true,Qp] at a;obtain⟨⟨g1,d⟩,g⟩:=a;simp only[Option.some.injEq,Prod.mk.injEq] at h;obtain⟨rfl,rfl⟩:=h
   go_enter func306,ntmps306
   go_wp2_with fail
   refine (qX s 45 _ hs b hf).mono ?_;rintro e w' ⟨rfl,n,rfl⟩
   go_wp2_with fail
   refine (nY _ 19 _ Ha g1).mono ?_;rintro e w' ⟨rfl,rfl⟩
   go_wp2_with fail
   refine (nY _ 19 _ Hb d).mono ?_;rintro e w' ⟨rfl,rfl⟩
   go_wp2
   go_ret3;exact⟨rfl,n,rfl⟩
  ·cases h
 ·rw[if_neg (by rw[hf];simp)] at h
  split at h
  ·rename_i g1
   simp only[Option.some.injEq,Prod.mk.injEq] at h;obtain⟨rfl,rfl⟩:=h
   go_enter func306,ntmps306
   go_wp2_with fail
   refine (Cp s 45 _ hs b hf).mono ?_;rintro e w' ⟨rfl,n,rfl⟩
   go_wp2_with fail
   refine (nY _ 19 _ Ha g1).mono ?_;rintro e w' ⟨rfl,rfl⟩
   go_wp2
   go_ret3;exact⟨rfl,n,rfl⟩
  ·cases h
theorem Oq(s:ByteArray)(w:World)(hs:s.size<4294967281)(f:cS w)(h:iq s.data.toList=none) :
  Calls prog 306 #[s] w λe w'=>(∃a b,e=.returned (.tuple #[(a:Int),(b:Int),false]))/\∃n,w'=w.drewN n:=by
 have j:Hu (s.data.toList.length=s.size):=by unfold Hu;simp
 have hle:=wW 45 s.data.toList;have Ha:(ByteArray.mk (aT 45 s.data.toList).1.toArray).size<=maxLen:=by
  have:=hle.1;rw[j.o] at this;show (aT 45 s.data.toList).1.toArray.size<=_;unfold maxLen;simp;omega
 have Hb:(ByteArray.mk (aT 45 s.data.toList).2.1.toArray).size<=maxLen:=by
  have:=hle.2;rw[j.o] at this;show (aT 45 s.data.toList).2.1.toArray.size<=_;unfold maxLen;simp;omega
 clear hle;unfold iq at h
 rcases mL (aT 45 s.data.toList).2.2 with hf|hf
 ·rw[if_pos hf] at h
  split at h
  ·cases h
  ·rename_i d
   clear h
   rcases mL (cT 19 (aT 45 s.data.toList).1) with g1|g1
   ·rcases mL (cT 19 (aT 45 s.data.toList).2.1) with c|c
    ·have g:¬ bM (aT 45 s.data.toList).1<=bM (aT 45 s.data.toList).2.1:=by
      intro g;rw[g1,c,Qc g] at d;exact d rfl
     have Hc:decide (bM (aT 45 s.data.toList).1<=bM (aT 45 s.data.toList).2.1)=false:=Q7 g;clear d g
     go_enter func306,ntmps306
     go_wp2_with fail
     refine (qX s 45 _ hs f hf).mono ?_;rintro e w' ⟨rfl,n,rfl⟩
     go_wp2_with fail
     refine (nY _ 19 _ Ha g1).mono ?_;rintro e w' ⟨rfl,rfl⟩
     go_wp2_with fail
     refine (nY _ 19 _ Hb c).mono ?_;rintro e w' ⟨rfl,rfl⟩
     go_wp2
     go_ret3;exact⟨⟨_,_,rfl⟩,n,rfl⟩
    ·clear d
     go_enter func306,ntmps306
     go_wp2_with fail
     refine (qX s 45 _ hs f hf).mono ?_;rintro e w' ⟨rfl,n,rfl⟩
     go_wp2_with fail
     refine (nY _ 19 _ Ha g1).mono ?_;rintro e w' ⟨rfl,rfl⟩
     go_wp2_with fail
     refine (qW _ 19 _ Hb c).mono ?_;rintro e w' ⟨rfl,rfl⟩
     go_wp2
     go_ret3;exact⟨⟨_,_,rfl⟩,n,rfl⟩
   ·clear d
    rcases mL (cT 19 (aT 45 s.data.toList).2.1) with c|c
    ·skip
     go_enter func306,ntmps306
     go_wp2_with fail
     refine (qX s 45 _ hs f hf).mono ?_;rintro e w' ⟨rfl,n,rfl⟩
     go_wp2_with fail
     refine (qW _ 19 _ Ha g1).mono ?_;rintro e w' ⟨rfl,rfl⟩
     go_wp2_with fail
     refine (nY _ 19 _ Hb c).mono ?_;rintro e w' ⟨rfl,rfl⟩
     go_wp2
     go_ret3;exact⟨⟨_,_,rfl⟩,n,rfl⟩
    ·skip
     go_enter func306,ntmps306
     go_wp2_with fail
     refine (qX s 45 _ hs f hf).mono ?_;rintro e w' ⟨rfl,n,rfl⟩
     go_wp2_with fail
     refine (qW _ 19 _ Ha g1).mono ?_;rintro e w' ⟨rfl,rfl⟩
     go_wp2_with fail
     refine (qW _ 19 _ Hb c).mono ?_;rintro e w' ⟨rfl,rfl⟩
     go_wp2
     go_ret3;exact⟨⟨_,_,rfl⟩,n,rfl⟩
 ·rw[if_neg (by rw[hf];simp)] at h
  split at h
  ·cases h
  ·rename_i i
   clear h;have g1:cT 19 (aT 45 s.data.toList).1=false:=by simpa using i
   clear i
   go_enter func306,ntmps306
   go_wp2_with fail
   refine (Cp s 45 _ hs f hf).mono ?_;rintro e w' ⟨rfl,n,rfl⟩
   go_wp2_with fail
   refine (qW _ 19 _ Ha g1).mono ?_;rintro e w' ⟨rfl,rfl⟩
   go_wp2
   go_ret3;exact⟨⟨_,_,rfl⟩,n,rfl⟩
theorem Ot:lZ 8=6148914691236517205:=by decide +kernel
theorem Ou:li 8=3689348814741910323:=by decide +kernel
theorem Ov:oP 8=1085102592571150095:=by decide +kernel
theorem xe(a:Nat)(m:Nat)(d:a<18446744073709551616)(c:m<18446744073709551616)(z:Int)(b:z=(a:Int)):bits BinOp.and IntKind.u64 z (m:Int)=((a &&& m:Nat):Int):=by
 rw[b];exact bits_and_u64_nat a m d c
theorem pt(n:Nat)(z:Int)(a:z=(n:Int))(h:n<18446744073709551616):IntKind.u64.wrap z=(n:Int):=by
 rw[IntKind.wrap_u64,a];omega
theorem Ow(A:Nat)(a:A<18446744073709551616):IntKind.u64.wrap (bits BinOp.and IntKind.u64 ((A:Int) / 2) 6148914691236517205+bits BinOp.and IntKind.u64 (A:Int) 6148914691236517205)=((eJ 8 A:Nat):Int)/\eJ 8 A<18446744073709551616:=by grind[xe,eJ,Ot,pt,Nat.and_le_right]
theorem Ox(x:Nat)(a:x<18446744073709551616):IntKind.u64.wrap (bits BinOp.and IntKind.u64 ((x:Int) / 4) 3689348814741910323+bits BinOp.and IntKind.u64 (x:Int) 3689348814741910323)=((eW 8 x:Nat):Int)/\eW 8 x<=7378697629483820646:=by grind[xe,eW,Ou,pt,Nat.and_le_right]
theorem Oy(x:Nat)(a:x<=7378697629483820646):bits BinOp.and IntKind.u64 (IntKind.u64.wrap ((x:Int) / 16+(x:Int))) 1085102592571150095=((lj 8 x:Nat):Int):=by grind[pt,lj,Ov,xe]
def fq (a b c d e f g h:Nat):Nat:=a+256*(b+256*(c+256*(d+256*(e+256*(f+256*(g+256*h))))))
theorem tO(a b c d e f g h:Nat)(_ha:a<=64)(_hb:b<=64)(_hc:c<=64)(_hd:d<=64)(_he:e<=64)(_hf:f<=64)(_hg:g<=64)(_hh:h<=64):fq a b c d e f g h<4700000000000000000:=by unfold fq;omega
theorem Oz(a b c d e f g h:Nat)(_ha:a<=8)(_hb:b<=8)(_hc:c<=8)(_hd:d<=8)(_he:e<=8)(_hf:f<=8)(_hg:g<=8)(_hh:h<=8) :
  fq a b c d e f g h+fq a b c d e f g h / 256=fq (a+b) (b+c) (c+d) (d+e) (e+f) (f+g) (g+h) h:=by grind[fq]
theorem OA(a b c d e f g h:Nat)(_ha:a<=16)(_hb:b<=16)(_hc:c<=16)(_hd:d<=16)(_he:e<=16)(_hf:f<=16)(_hg:g<=16)(_hh:h<=16) :
  fq a b c d e f g h+fq a b c d e f g h / 65536=fq (a+c) (b+d) (c+e) (d+f) (e+g) (f+h) g h:=by grind[fq]
theorem OB(a b c d e f g h:Nat)(_ha:a<=32)(_hb:b<=32)(_hc:c<=32)(_hd:d<=32)(_he:e<=32)(_hf:f<=32)(_hg:g<=32)(_hh:h<=32) :
  fq a b c d e f g h+fq a b c d e f g h / 4294967296=fq (a+e) (b+f) (c+g) (d+h) e f g h:=by grind[fq]
theorem OC(a b c d e f g h:Nat)(_ha:a<=64):fq a b c d e f g h % 128=a:=by unfold fq;omega
theorem OD(A:Nat)(n:A<18446744073709551616):∃i j X Y Z V:Nat,
  IntKind.u64.wrap (bits BinOp.and IntKind.u64 ((A:Int) / 2) 6148914691236517205+bits BinOp.and IntKind.u64 (A:Int) 6148914691236517205)=(i:Int)/\
  IntKind.u64.wrap (bits BinOp.and IntKind.u64 ((i:Int) / 4) 3689348814741910323+bits BinOp.and IntKind.u64 (i:Int) 3689348814741910323)=(j:Int)/\
  bits BinOp.and IntKind.u64 (IntKind.u64.wrap ((j:Int) / 16+(j:Int))) 1085102592571150095=(X:Int)/\
  IntKind.u64.wrap ((X:Int)+(X:Int) / 256)=(Y:Int)/\IntKind.u64.wrap ((Y:Int)+(Y:Int) / 65536)=(Z:Int)/\IntKind.u64.wrap ((Z:Int)+(Z:Int) / 4294967296)=(V:Int)/\
  V % 128=(bf A 64).length/\V<4700000000000000000:=by
 obtain⟨a,b,c,d,e,f,g,h,q,r,o,hd,u,hf,v,y,s,t⟩:=za A;have l:=Ow A n;have m:=Ox (eJ 8 A) l.2;have k:=Oy (eW 8 (eJ 8 A)) m.2;have Ha:lj 8 (eW 8 (eJ 8 A))=fq a b c d e f g h:=s;rw[Ha] at k;have D:=tO a b c d e f g h (by omega) (by omega) (by omega) (by omega) (by omega) (by omega) (by omega) (by omega);have z:=Oz a b c d e f g h q r o hd u hf v y;have B:=tO (a+b) (b+c) (c+d) (d+e) (e+f) (f+g) (g+h) h (by omega) (by omega) (by omega) (by omega) (by omega) (by omega) (by omega) (by omega);have x:=OA (a+b) (b+c) (c+d) (d+e) (e+f) (f+g) (g+h) h (by omega) (by omega) (by omega) (by omega) (by omega) (by omega) (by omega) (by omega);have C:=tO (a+b+(c+d)) (b+c+(d+e)) (c+d+(e+f)) (d+e+(f+g)) (e+f+(g+h)) (f+g+h) (g+h) h (by omega) (by omega) (by omega) (by omega) (by omega) (by omega) (by omega) (by omega);have p:=OB (a+b+(c+d)) (b+c+(d+e)) (c+d+(e+f)) (d+e+(f+g)) (e+f+(g+h)) (f+g+h) (g+h) h (by omega) (by omega) (by omega) (by omega) (by omega) (by omega) (by omega) (by omega);have w:=tO (a+b+(c+d)+(e+f+(g+h))) (b+c+(d+e)+(f+g+h)) (c+d+(e+f)+(g+h)) (d+e+(f+g)+h) (e+f+(g+h)) (f+g+h) (g+h) h (by omega) (by omega) (by omega) (by omega) (by omega) (by omega) (by omega) (by omega);refine⟨_,_,_,fq (a+b) (b+c) (c+d) (d+e) (e+f) (f+g) (g+h) h,fq (a+b+(c+d)) (b+c+(d+e)) (c+d+(e+f)) (d+e+(f+g)) (e+f+(g+h)) (f+g+h) (g+h) h,_,l.1,m.1,k,?_,?_,?_,OC (a+b+(c+d)+(e+f+(g+h))) (b+c+(d+e)+(f+g+h)) (c+d+(e+f)+(g+h)) (d+e+(f+g)+h) (e+f+(g+h)) (f+g+h) (g+h) h (by omega) |>.trans (by rw[t];omega),w⟩
 ·exact pt _ _ (by rw[<- z];simp) (by omega)
 ·exact pt _ _ (by rw[<- x];simp) (by omega)
 ·exact pt _ _ (by rw[<- p];simp) (by omega)
theorem OE(A:Nat)(w:World)(b:A<18446744073709551616) :
  Calls prog 77 #[.int .u64 A] w λe w'=>e=.returned (.int .i64 ((bf A 64).length:Nat))/\w'=w:=by
 obtain⟨j,g,X,Y,Z,V,r1,c,d,h,i,k,e,f⟩:=OD A b;have a:=dX e;clear e
 go_enter func77,ntmps77
 go_wp2
 go_ret;refine⟨?_,rfl⟩;have e:bits BinOp.and IntKind.i64 (V:Int) 127=((bf A 64).length:Nat):=by
  rw[i64_and127];have:=a.o;omega
 exact congrArg (λz=>Ending.returned (z:Int)) e
theorem CI(A:Nat)(w:World)(a:A<18446744073709551616) :
  Calls prog 39 #[.int .u64 A] w λe w'=>e=.returned (.int .i64 ((bf A 64).length:Nat))/\w'=w:=by
 go_enter func39,ntmps39
 go_wp2_with fail
 refine (OE A _ a).mono ?_;rintro e w' ⟨rfl,rfl⟩
 go_wp2
 go_ret;exact⟨rfl,rfl⟩
def jz (l:List UInt8) (k acc:Nat):Prop:=dM l=lY acc ((aH 44 l).drop k)
theorem jz.next{a:Nat}(h:jz l k a)(b:k<(aH 44 l).length) :
  (iq ((aH 44 l).getD k [])=none->dM l=(0,4))/\
  (∀f t,iq ((aH 44 l).getD k [])=some (f,t)->(63<t->dM l=(0,1))/\(¬ 63<t->jz l (k+1) (a ||| gr f.toNat (t - f+1).toNat))):=by grind[aH,jz,lY,List.drop_eq_getElem_cons]
theorem jz.done{a:Nat}(h:jz l k a)(b:(aH 44 l).length<=k):dM l=(a,0):=by
 unfold jz at h;rw[List.drop_eq_nil_of_le b] at h;exact h
theorem CJ(t:List UInt8)(f l:Int)(h:iq t=some (f,l)):0<=f/\f<=l/\l<=9223372036854775807:=by
 unfold iq at h
 split at h
 ·split at h
  ·rename_i a
   rw[Bool.and_eq_true,Bool.and_eq_true,Qp] at a;obtain⟨⟨⟨_,_,c⟩,_⟩,⟨_,_,b⟩⟩:_/\_:=⟨(nr _ _).1 a.1.1,(nr _ _).1 a.1.2⟩;simp only[Option.some.injEq,Prod.mk.injEq] at h;obtain⟨rfl,rfl⟩:=h;exact⟨sg _ c,a.2,b⟩
  ·cases h
 ·split at h
  ·rename_i a
   obtain⟨⟨_,_,c⟩,_,b⟩:=(nr _ _).1 a;simp only[Option.some.injEq,Prod.mk.injEq] at h;obtain⟨rfl,rfl⟩:=h;exact⟨sg _ c,Int.le_refl _,b⟩
  ·cases h
theorem CK(f m:Nat)(h:f+m<=64):gr f m<18446744073709551616:=by induction m <;> grind[gr,Cq,NN]
theorem tP(c:UInt8)(l:List UInt8):(aH c l).length<=l.length+1:=by induction l <;> grind[aH]
theorem pu(c:UInt8)(l:List UInt8):∀x∈aH c l,x.length<=l.length:=by induction l <;> grind[aH]
theorem OF(z:Int)(w:World)(b:0<=z)(a:z<64):Calls prog 185 #[z] w λe w'=>e=.returned true/\w'=w:=by
 go_enter func185,ntmps185
 go_wp2
 go_ret;exact⟨rfl,rfl⟩
theorem OG(z:Int)(w:World)(b:0<=z)(a:64<=z):Calls prog 185 #[z] w λe w'=>e=.returned false/\w'=w:=by
 have hd:decide (z<64)=false:=Q7 (by omega)
 go_enter func185,ntmps185
 go_wp2
 go_ret;exact⟨rfl,rfl⟩
theorem OH(s:ByteArray)(w:World)(hs:s.size<=300)(G:0<s.size)(z:cS w) :
  Calls prog 288 #[s] w λe w'=>e=.returned (mM (dM s.data.toList))/\Below w w w':=by
 have Hs:s.toList.isEmpty=false:=by rw[p9,Q7 (by omega)]
 have Ho:decide (300<(s.size:Int))=false:=Q7 (by omega);have o:Hu (s.data.toList.length=s.size):=by unfold Hu;simp
 have r:=dX z;clear z;have y:jz s.data.toList 0 0:=by
  unfold jz dM;rw[if_neg (by rw[o.o];omega),if_neg (λe=>by have:=o.o;rw[e] at this;simp at this;omega)];rfl
 have Hp:=tP 44 s.data.toList;rw[o.o] at Hp;have D:=dX (pu 44 s.data.toList);have Hw:0<(aH 44 s.data.toList).length:=List.length_pos_iff.2 (nw _ _)
 go_enter func288,ntmps288
 go_wp2_with fail
 refine (Oo s _ (by omega) r.o).mono ?_;rintro e h ⟨rfl,Hg⟩;have Hc:Below w w h:=by rw[Hg];exact (Q0 _ _).alloc (lR) _
 have Hr:=dX (r.o.below Hc);have E:Hu (∀k,k<(aH 44 s.data.toList).length->h.cell? ⟨w,k,none⟩=some (.string ⟨((aH 44 s.data.toList).getD k []).toArray⟩)):=by
  intro k v;rw[Hg]
  simp[go_sem,v]
 have Hm:Hu (jz s.data.toList 0 0):=y;clear Hg y
 go_wp2
 go_loopw [4,20] (λt i wr=>∃k c m:Nat,k<=(aH 44 s.data.toList).length/\c<18446744073709551616/\i=.int .i64 k/\t=.int .u64 c/\Hu (jz s.data.toList k c)/\wr=h.drewN m) (λ_ i _=>(aH 44 s.data.toList).length - (intOf i).toNat)
 case atStart=>exact⟨0,0,0,by omega,by omega,rfl,rfl,Hm,rfl⟩
 case round=>
  obtain⟨k,c,m,v,He,rfl,rfl,Hk,rfl⟩:=hrel;clear Hm
  by_cases d:k<(aH 44 s.data.toList).length
  ·have Hb:=E.o k d;have g:=dX (Hk.o.next d);have Hq:((aH 44 s.data.toList).getD k []).length<=300:=by
    have Hi:(aH 44 s.data.toList).getD k []∈aH 44 s.data.toList:=by simp[d]
    have:=D.o _ Hi
    rw[o.o] at this;omega
   generalize (aH 44 s.data.toList).getD k []=t at Hb g Hq;have Hh:(ByteArray.mk t.toArray).size<4294967281:=by show t.toArray.size<_;simp;omega
   have Hf:Hu (cS (h.drewN m)):=Hr
   rcases ho:iq t with _|⟨f,l⟩
   ·have H:=dX (g.o.1 ho);have j:=dX ho;clear ho
    go_wp2_with fail
    refine (Oq ⟨t.toArray⟩ _ Hh Hf.o j.o).mono ?_;rintro e u ⟨⟨a,b,rfl⟩,n,rfl⟩
    go_wp2
    go_ret2;exact⟨congrArg Ending.returned (congrArg mM H.o).symm,below_drewN Hc _⟩
   ·have Hj:=CJ t f l ho;obtain⟨F,rfl⟩:=Int.eq_ofNat_of_zero_le Hj.1;obtain⟨T,rfl⟩:=Int.eq_ofNat_of_zero_le (show 0<=l by omega);have j:=dX ho;have Hv:F<=T:=by omega
    have Ht:(T:Int)<=9223372036854775807:=Hj.2.2;have Hl:=dX (g.o.2 _ _ ho);clear ho Hj g
    by_cases A:63<T
    ·have H:=dX (Hl.o.1 (by omega))
     go_wp2_with fail
     refine (CH ⟨t.toArray⟩ _ _ _ Hh Hf.o j.o).mono ?_;rintro e u ⟨rfl,n,rfl⟩
     go_wp2_with fail
     refine (OG _ _ (by omega) (by omega)).mono ?_;rintro e C ⟨rfl,rfl⟩
     go_wp2
     go_ret2;exact⟨congrArg Ending.returned (congrArg mM H.o).symm,below_drewN Hc _⟩
    ·have H:=dX (Hl.o.2 (by omega))
     go_wp2_with fail
     refine (CH ⟨t.toArray⟩ _ _ _ Hh Hf.o j.o).mono ?_;rintro e u ⟨rfl,n,rfl⟩
     go_wp2_with fail
     refine (OF _ _ (by omega) (by omega)).mono ?_;rintro e C ⟨rfl,rfl⟩
     go_wp2_with fail
     go_loop [4,10] (λt i=>∃q:Nat,q<=T - F+1/\i=.int .i64 (F+q:Nat)/\t=.int .u64 (c ||| gr F q:Nat)) (λ_ i=>65 - (intOf i).toNat)
     case atStart=>exact⟨0,by omega,rfl,by simp[gr]⟩
     case round=>
      obtain⟨q,I,rfl,rfl⟩:=hrel;have Ha:c ||| gr F q<18446744073709551616:=Cq _ _ He (CK F q (by omega))
      by_cases x:F+q<=T
      ·have Hn:Hu (bits BinOp.or IntKind.u64 (c ||| gr F q:Nat) (IntKind.u64.wrap (2 ^ (F+q)))=((c ||| gr F (q+1):Nat):Int)):=by
        unfold Hu;rw[NM _ _ Ha (by omega),gr,Nat.or_assoc]
       go_wp2_with fail
       go_round
       case rel=>exact⟨q+1,by omega,by go_num,by rw[<- Hn.o]⟩
       case measure=>simp[intOf];omega
      ·have B:Hu (jz s.data.toList (k+1) (c ||| gr F q)):=by
        have p:=H.o;rw[show ((F:Nat):Int).toNat=F by omega,show (((T:Nat):Int) - (F:Nat)+1).toNat=q by omega] at p;exact p
       go_wp2
       go_roundw
       case rel=>exact⟨k+1,_,_,by omega,Ha,by go_num,rfl,B,rfl⟩
       case measure=>simp[intOf];omega
  ·have H:=dX (Hk.o.done (by omega))
   go_wp2
   go_ret2;exact⟨congrArg Ending.returned (congrArg mM H.o).symm,below_drewN Hc m⟩
theorem OI(s:ByteArray)(w:World)(hs:300<s.size)(a:s.size<=maxLen) :
  Calls prog 288 #[s] w λe w'=>e=.returned (mM (0,2))/\Below w w w':=by
 unfold maxLen at a
 go_enter func288,ntmps288
 go_wp2
 go_ret2;exact⟨rfl,Q0 _ _⟩
theorem OJ(w:World) :
  Calls prog 288 #[.string ⟨#[]⟩] w λe w'=>e=.returned (mM (0,0))/\Below w w w':=by
 go_enter func288,ntmps288
 go_wp2
 go_ret2;exact⟨rfl,Q0 _ _⟩
theorem OK(s:ByteArray)(h:s.size=0):s=⟨#[]⟩:=by cases s <;> grind[ByteArray.size]
theorem OL(s:ByteArray)(w:World)(a:s.size<=maxLen)(f:cS w) :
  Calls prog 288 #[s] w λe w'=>e=.returned (mM (dM s.data.toList))/\Below w w w':=by
 by_cases b:300<s.size
 ·have:=OI s w b a
  rw[show ((0,2):Nat × Int)=dM s.data.toList by unfold dM;rw[if_pos (by simpa using b)]] at this;exact this
 ·by_cases c:s.size=0
  ·have d:=OK s c;subst d;exact OJ w
  ·exact OH s w (by omega) (by omega) f
theorem OM(A:Nat)(w:World)(a:A<18446744073709551616) :
  Calls prog 180 #[.int .u64 A] w λe w'=>e=.returned (.string ⟨(iO A).toArray⟩)/\Below w w w':=
 Of A w a (λv b h _=>Og v (fp A 64) b w h (Q5 (CE A 64) (by omega)) (Q5 (uT A) (by omega)))
