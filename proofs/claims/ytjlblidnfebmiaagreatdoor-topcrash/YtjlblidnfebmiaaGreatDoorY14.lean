import Derived.Test.YtjlblidnfebmiaaGreatDoorY13
import Derived.Lib.CountLaws
import Derived.Lib.Split
import Derived.Laws.Bits128
set_option maxRecDepth 100000
set_option maxHeartbeats 16000000
open Go Go.RowKit Go.Shelf
open Go.Proofs.Tryz
namespace Go.Proofs.YtjlblidnfebmiaaGreatDoor
variable{k:Nat}{l:List UInt8}{v:Value}{w:World}
theorem CF(a b:List UInt8):(ByteArray.mk a.toArray)++(ByteArray.mk b.toArray)=ByteArray.mk (a++b).toArray:=by
 apply ByteArray.ext;simp
theorem CG(n:Nat)(h:n<100):(Lib.decDigits n).length<=2:=by
 grind[Lib.decDigits_one,Lib.decDigits_two]
theorem CH(f l:Nat){w:World}(hf:f<64)(d:l<64) :
  CE 231 #[(f:Int),(l:Int)] w (.string ⟨(dG (f,l)).toArray⟩):=by
 have b:=CG f (by omega);have a:=CG l (by omega)
 by_cases h:f=l
 ·subst h;have H:Hu (dG (f,f)=Lib.decDigits f):=by simp[Hu,dG]
  go_enter func231,ntmps231
  go_wp2
  refine (Tryz.strconv_Itoa_small f (by omega) _).e ?_
  go_wp2
  go_ret;exact⟨by rw[H.o];rfl,rfl⟩
 ·have H:Hu (dG (f,l)=Lib.decDigits f++[45]++Lib.decDigits l):=by simp[Hu,dG,h]
  have c:((f:Int) == (l:Int))=false:=by simp;omega
  clear h
  go_enter func231,ntmps231
  go_wp2
  refine (Tryz.strconv_Itoa_small f (by omega) _).e ?_
  go_wp2
  refine (Tryz.strconv_Itoa_small l (by omega) _).e ?_
  go_wp2
  go_ret;refine⟨?_,rfl⟩;rw[H.o]
  show Ending.returned ((ByteArray.mk (Lib.decDigits f).toArray++ByteArray.mk [45].toArray)++ByteArray.mk (Lib.decDigits l).toArray)=_
  rw[CF,CF]
def gY (A:Nat) (z:Int):Bool:=decide (0<=z/\z<64) && A.testBit z.toNat
theorem CI(A k:Nat)(a:A<18446744073709551616):gY A (k:Int)=A.testBit k:=by
 unfold gY
 by_cases h:k<64
 ·grind
 ·rw[Q7 (by omega)]
  have:A.testBit k=false:=Nat.testBit_lt_two_pow (Q1 a (Nat.pow_le_pow_right (n:=2) (by omega) (show 64<=k by omega)))
  rw[this];rfl
theorem CJ(A:Nat)(z:Int)(w:World)(a:A<18446744073709551616) :
  CE 148 #[.int .u64 A,z] w (.bool (gY A z)):=by
 unfold gY
 by_cases h:0<=z/\z<64
 ·obtain⟨n,rfl⟩:=Int.eq_ofNat_of_zero_le h.1;rw[Qc h,Int.toNat_natCast];exact Jq A n w a (by omega)
 ·grind[Jr]
theorem nN{A:Nat}{z:Int}{w:World}(a:A<18446744073709551616)(h:gY A z=true) :
  CE 148 #[.int .u64 A,z] w true:=by
 grind[CJ]
theorem sA{A:Nat}{z:Int}{w:World}(a:A<18446744073709551616)(h:gY A z=false) :
  CE 148 #[.int .u64 A,z] w false:=by
 grind[CJ]
theorem uJ:(prog.info? 9).map (λi=>(i.zero,i.size,i.bytes))=some (some (.string ⟨#[]⟩),1,16):=by kernel_rfl
def dP (l:List (List UInt8)):List Value:=l.map λ(b:List UInt8)=>Value.string ⟨b.toArray⟩
theorem uK(l:List (List UInt8))(b:List UInt8):dP (l++[b])=dP l++[.string ⟨b.toArray⟩]:=by simp[dP]
theorem sB(l:List (List UInt8)):∀u∈dP l,u.oneCell'=true:=by
 intro u a;obtain⟨_,_,rfl⟩:=Qk.1 a;rfl
theorem My(A k:Nat):(fw A k).length<=k:=by induction k <;> grind[fw]
theorem Mz(A k:Nat):iw A k<=k:=by induction k <;> grind[iw]
def fG (A k:Nat):List (List UInt8):=(fw A k).map dG
theorem CK(A k:Nat):(fG A k).length<=k:=by grind[fG,My]
theorem CM(A k:Nat)(a:A.testBit k=true)(b:A.testBit (k+1)=false):fG A (k+1)=fG A k++[dG (iw A k,k)]:=by
 grind[fG,fw]
theorem xF(A:Nat){k:Nat}(h:A.testBit k=false\/A.testBit (k+1)=true):fG A (k+1)=fG A k:=by
 grind[fG,fw]
theorem MA{A:Nat}{w:World}(a:A<18446744073709551616)
  (t:Hu (∀(v:Value) (q:World),q.ownsRow w 9 1 v (fG A 64).length (dP (fG A 64))->Bw w q->
   CB 227 #[v,.string ⟨#[44]⟩] q (.string ⟨(Lib.join (fG A 64) [44]).toArray⟩))) :
  CB 180 #[.int .u64 A] w (.string ⟨(Lib.join (fG A 64) [44]).toArray⟩):=by
 obtain⟨i0,hi,Hk,Hi,Hl⟩:=info_parts uJ
 go_enter func180,ntmps180
 go_wp2
 go_loopw [3,4,6] (λv f i wr=>∃k c:Nat,k<=64/\c<=64/\i=.int .i64 k/\f=.int .i64 c/\Hu (∀j,k=j+1->A.testBit j=true->c=iw A j)/\wr.ownsRow w 9 1 v (fG A k).length (dP (fG A k))/\Bw w wr) (λ_ _ i _=>64 - (intOf i).toNat)
 exact⟨0,0,by omega,by omega,rfl,rfl,by intro j l;omega,Qw _ _ _ _,Q0 _ _⟩
 ·obtain⟨k,c,x,Hm,rfl,rfl,B,Ha,He⟩:=hrel
  by_cases p:k<64
  ·have hle:=CK A k;have Hj:=He.size;have m:=CI A k a
   rcases nL (A.testBit k) with b|b
   ·have r:Hu (gY A (k:Int)=true):=by unfold Hu;rw[m,b]
    -- where the run begins
    have s:Hu ((gY A ((k:Int) - 1)=true->c=iw A k)/\(gY A ((k:Int) - 1)=false->k=iw A k)):=by
     grind[Hu,gY,iw]
    have h:=CI A (k+1) a;rw[show ((k+1:Nat):Int)=(k:Int)+1 by omega] at h;have Ho:=Mz A k
    rcases nL (gY A ((k:Int) - 1)) with d|d <;> rcases nL (A.testBit (k+1)) with g|g
    ·have o:=ev d;have n:Hu (gY A ((k:Int)+1)=true):=by unfold Hu;rw[h,g]
     have Hf:=ev (s.o.1 d);have HS:=ev (xF A (.inr g));clear d g b m h
     go_wp2
     refine (nN a r).e ?_
     go_wp2
     refine (nN a o).e ?_
     go_wp2
     refine (nN a n).e ?_
     go_wp2
     go_roundw
     exact⟨k+1,c,by omega,by omega,by go_num,rfl,λj l _=>(show k=j by omega) ▸ Hf.o,by rw[HS.o];exact Ha,He⟩
     simp[intOf];omega
    ·have o:=ev d;have n:Hu (gY A ((k:Int)+1)=false):=by unfold Hu;rw[h,g]
     have Hf:=ev (s.o.1 d);have HS:Hu (fG A (k+1)=fG A k++[dG (c,k)]):=by
      grind[Hu,CM]
     have Hg:c<64:=by have:=Hf.o;omega
     clear d g b m h
     go_wp2
     refine (nN a r).e ?_
     go_wp2
     refine (nN a o).e ?_
     go_wp2
     refine (sA a n).e ?_
     go_wp2
     refine (CH c k Hg p).e ?_
     go_wp2_with (at_builtin;refine wpList_append_own _ rfl _ _ 105 rfl w 9 i0 (.string ⟨#[]⟩) 1 16 underlying105 hi Hk Hi Hl rfl (by decide) _ _ _ rfl (Ha.alloc _) ⟨_,0,none⟩ 1 1 [.string ⟨(dG (c,k)).toArray⟩] rfl rfl (cell_one_new _ _ _) (sB [dG (c,k)]) (by unfold maxLen;omega) (by omega) (by simp;omega) ?_;intro u q Hc Hb _)
     go_roundw
     case rel=>
      refine⟨k+1,c,by omega,by omega,by go_num,rfl,?_,?_,?_⟩
      ·intro j l _;obtain rfl:k=j:=by omega
       exact Hf.o
      ·rw[HS.o,uK,Q2];exact Hc
      ·exact (He.alloc Hj _).grown Hb (by simp;omega) λj l=>(Ha.lt j l).1
     case measure=>simp[intOf];omega
    ·have o:=ev d;have n:Hu (gY A ((k:Int)+1)=true):=by unfold Hu;rw[h,g]
     have Hf:=ev (s.o.2 d);have HS:=ev (xF A (.inr g));clear d g b m h
     go_wp2
     refine (nN a r).e ?_
     go_wp2
     refine (sA a o).e ?_
     go_wp2
     refine (nN a n).e ?_
     go_wp2
     go_roundw
     exact⟨k+1,k,by omega,by omega,by go_num,rfl,λj l _=>(show k=j by omega) ▸ Hf.o,by rw[HS.o];exact Ha,He⟩
     simp[intOf];omega
    ·have o:=ev d;have n:Hu (gY A ((k:Int)+1)=false):=by unfold Hu;rw[h,g]
     have Hf:=ev (s.o.2 d);have HS:Hu (fG A (k+1)=fG A k++[dG (k,k)]):=by
      grind[Hu,CM]
     have Hg:k<64:=by have:=Hf.o;omega
     clear d g b m h
     go_wp2
     refine (nN a r).e ?_
     go_wp2
     refine (sA a o).e ?_
     go_wp2
     refine (sA a n).e ?_
     go_wp2
     refine (CH k k Hg p).e ?_
     go_wp2_with (at_builtin;refine wpList_append_own _ rfl _ _ 105 rfl w 9 i0 (.string ⟨#[]⟩) 1 16 underlying105 hi Hk Hi Hl rfl (by decide) _ _ _ rfl (Ha.alloc _) ⟨_,0,none⟩ 1 1 [.string ⟨(dG (k,k)).toArray⟩] rfl rfl (cell_one_new _ _ _) (sB [dG (k,k)]) (by unfold maxLen;omega) (by omega) (by simp;omega) ?_;intro u q Hc Hb _)
     go_roundw
     case rel=>
      refine⟨k+1,k,by omega,by omega,by go_num,rfl,?_,?_,?_⟩
      ·intro j l _;obtain rfl:k=j:=by omega
       exact Hf.o
      ·rw[HS.o,uK,Q2];exact Hc
      ·exact (He.alloc Hj _).grown Hb (by simp;omega) λj l=>(Ha.lt j l).1
     case measure=>simp[intOf];omega
   ·have r:Hu (gY A (k:Int)=false):=by unfold Hu;rw[m,b]
    have HS:=ev (xF A (.inl b));have y:=ev b;clear b m
    go_wp2
    refine (sA a r).e ?_
    go_wp2
    go_roundw
    case rel=>
     refine⟨k+1,c,by omega,Hm,by go_num,rfl,?_,by rw[HS.o];exact Ha,He⟩;intro j l b;obtain rfl:k=j:=by omega
     rw[y.o] at b;cases b
    case measure=>simp[intOf];omega
  ·have Hh:k=64:=by omega
   subst Hh;clear x p
   go_wp2
   refine (t.o _ _ Ha He).m λz Hn=>?_
   go_wp2
   go_ret;exact⟨rfl,He.trans (Hn.mono He.size)⟩
theorem xG{base:Nat}{e:TypeId}{v:Value}{n:Nat}{b:List Value}(h:w.ownsRow base e 1 v n b) :
  (v=.slice none 0 0/\n=0)\/∃g a,v=.slice (some ⟨g,0,none⟩) n a/\n<=a/\g<w.heap.size/\∀j x,b[j]?=some x->w.cell? ⟨g,j,none⟩=some x:=by
 obtain⟨f,h⟩:=h
 rcases h with⟨rfl,rfl⟩|⟨g,a,c,rfl,k,i,l,d,hs,m⟩
 ·simp
 ·grind[World.cell?]
theorem MC{v:Value}{c:List (List UInt8)}(w:World){base:Nat}(h:w.ownsRow base 9 1 v c.length (dP c))(p:c.length<=100)(o:(Lib.join c [44]).length<=100000) :
  CB 227 #[v,.string ⟨#[44]⟩] w (.string ⟨(Lib.join c [44]).toArray⟩):=by
 rcases xG h with⟨rfl,k⟩|⟨g,d,rfl,i,n,Ha⟩
 ·have:c=[]:=Qe k
  subst this;refine (Tryz.strings_Join_none none 0 ⟨#[44]⟩ w).e ?_;exact⟨rfl,Q0 _ _⟩
 ·have m:(c.map λ(b:List UInt8)=>ByteArray.mk b.toArray).map (·.data.toList)=c:=by
   grind[List.map_id'']
  have:=Tryz.strings_Join g 0 d (c.map λ(b:List UInt8)=>ByteArray.mk b.toArray) ⟨#[44]⟩ w (λj x f=>by
   rw[Qd];apply Ha;unfold dP;rw[List.getElem?_map] at f ⊢;obtain⟨a,l,rfl⟩:=Option.map_eq_some_iff.1 f;rw[l];rfl) n (by simp;omega) (by simpa using i) (by grind)
  rw[m] at this
  simpa using this
theorem MD{c:UInt8}{l:List UInt8}(h:(be c l).2.2=true):l=(be c l).1++c :: (be c l).2.1/\c ∉ (be c l).1:=by induction l <;> grind[be]
theorem ME{c:UInt8}{l:List UInt8}(h:(be c l).2.2=false):c ∉ l:=by induction l <;> grind[be]
theorem CN(c:UInt8):∀(n:Nat) (l:List UInt8),l.length<=n->Lib.splitK [c] 0 (Lib.count l [c]) l=aP c l:=by
 intro n
 induction n with
 | zero=>
  intro l e
  have:l=[]:=Qe (by omega)
  subst this;rfl
 | succ n ih=>
  intro l e
  rcases ww c l with⟨a,d⟩|⟨i,a,d⟩
  ·rw[Lib.count_miss a,ue c l (ME (by rw[d]))];rfl
  ·have b:=MD (by rw[d]);rw[d] at b;simp only at b;have Ha:=congrArg List.length b.1
   simp at Ha
   rw[Lib.count_hit (by simp) a,Nat.add_comm,Lib.splitK,if_neg (by rw[a];simp),a];simp only[Int.toNat_natCast,Qg,List.length_nil,Qd,Nat.add_zero];rw[ih _ (by grind)]
   conv=>rhs;rw[b.1]
   rw[rK c _ _ b.2]
theorem CO(s:ByteArray):(Lib.splitB ⟨#[44]⟩ 0 (Lib.countB s ⟨#[44]⟩) s).map (·.data.toList)=aP 44 s.data.toList:=by
 rw[Lib.splitB_data];exact CN 44 _ _ (lR)
theorem MF(s:ByteArray):ByteArray.mk s.data.toList.toArray=s:=by cases s;rfl
theorem MG(s:ByteArray):(Lib.splitB ⟨#[44]⟩ 0 (Lib.countB s ⟨#[44]⟩) s).map Value.string=(aP 44 s.data.toList).map λ(b:List UInt8)=>Value.string ⟨b.toArray⟩:=by grind[CO,MF,List.map_map,List.map_congr_left]
theorem MH(s:ByteArray):∀n,s.size<=n->(Lib.splitB ⟨#[44]⟩ 0 (Lib.countB s ⟨#[44]⟩) s).length=Lib.countB s ⟨#[44]⟩+1:=by
 intro n
 induction n generalizing s with
 | zero=>
  intro h
  rcases Lib.indexB_cases s ⟨#[44]⟩ with a|⟨i,a,b⟩
  ·rw[Lib.countB_miss s _ a];rfl
  ·exfalso;have:(ByteArray.mk #[44]).size=1:=rfl;omega
 | succ n ih=>
  intro h
  rcases Lib.indexB_cases s ⟨#[44]⟩ with a|⟨i,a,b⟩
  ·rw[Lib.countB_miss s _ a];rfl
  ·have c:(ByteArray.mk #[44]).size=1:=rfl;rw[Lib.countB_hit s _ i (by omega) a,Nat.add_comm 1,Lib.splitB_hit _ 0 _ s i a,Qg,ih _ (by rw[ByteArray.size_extract];omega)]
theorem MI(s:ByteArray){w:World}(hs:s.size<4294967281)(a:dH w) :
  Calls pg 190 #[.string s,.string ⟨#[44]⟩] w λe w'=>
   e=.returned (.slice w (aP 44 s.data.toList).length (aP 44 s.data.toList).length)/\w'=w.alloc (.cells ((aP 44 s.data.toList).map λ(b:List UInt8)=>Value.string ⟨b.toArray⟩).toArray 9):=by
 obtain⟨m,a⟩:=a
 have:=Tryz.strings_Split s ⟨#[44]⟩ m w hs a (by decide)
 have c:Lib.countB s ⟨#[44]⟩+1=(aP 44 s.data.toList).length:=by
  rw[<- CO,Q9,MH s _ (lR)]
 rw[MG,c] at this;exact this
theorem CP(s:ByteArray){f l:Int}{w:World}(hs:s.size<4294967281)(a:dH w)(h:iR s.data.toList=some (f,l)) :
  Calls pg 306 #[.string s] w λe w'=>e=.returned (.tuple #[f,l,true])/\∃n,w'=w.drewN n:=by
 have b:Hu (s.data.toList.length=s.size):=by unfold Hu;simp
 have hle:=xC 45 s.data.toList;have Ha:(ByteArray.mk (be 45 s.data.toList).1.toArray).size<=maxLen:=by
  have:=hle.1;rw[b.o] at this;show (be 45 s.data.toList).1.toArray.size<=_;unfold maxLen;simp;omega
 have Hb:(ByteArray.mk (be 45 s.data.toList).2.1.toArray).size<=maxLen:=by
  have:=hle.2;rw[b.o] at this;show (be 45 s.data.toList).2.1.toArray.size<=_;unfold maxLen;simp;omega
 clear hle;unfold iR at h
 rcases nL (be 45 s.data.toList).2.2 with hf|hf
 ·rw[if_pos hf] at h
  split at h
  ·rename_i c
   rw[Bool.and_eq_true,Bool.and_eq_true,Qp] at c;obtain⟨⟨g1,d⟩,g⟩:=c;simp only[Option.some.injEq,Prod.mk.injEq] at h;obtain⟨rfl,rfl⟩:=h
   go_enter func306,ntmps306
   go_wp2
   refine (sy s hs a hf).mono ?_;rintro e w' ⟨rfl,n,rfl⟩
   go_wp2
   refine (pq Ha g1).e ?_
   go_wp2
   refine (pq Hb d).e ?_
   go_wp2
   go_ret3;exact⟨rfl,n,rfl⟩
  ·cases h
 ·rw[if_neg (by rw[hf];simp)] at h
  split at h
  ·rename_i g1
   simp only[Option.some.injEq,Prod.mk.injEq] at h;obtain⟨rfl,rfl⟩:=h
   go_enter func306,ntmps306
   go_wp2
   refine (Cw s hs a hf).mono ?_;rintro e w' ⟨rfl,n,rfl⟩
   go_wp2
   refine (pq Ha g1).e ?_
   go_wp2
   go_ret3;exact⟨rfl,n,rfl⟩
  ·cases h
theorem MJ(s:ByteArray){w:World}(hs:s.size<4294967281)(d:dH w)(h:iR s.data.toList=none) :
  Calls pg 306 #[.string s] w λe w'=>(∃a b,e=.returned (.tuple #[(a:Int),(b:Int),false]))/\∃n,w'=w.drewN n:=by
 have j:Hu (s.data.toList.length=s.size):=by unfold Hu;simp
 have hle:=xC 45 s.data.toList;have Ha:(ByteArray.mk (be 45 s.data.toList).1.toArray).size<=maxLen:=by
  have:=hle.1;rw[j.o] at this;show (be 45 s.data.toList).1.toArray.size<=_;unfold maxLen;simp;omega
 have Hb:(ByteArray.mk (be 45 s.data.toList).2.1.toArray).size<=maxLen:=by
  have:=hle.2;rw[j.o] at this;show (be 45 s.data.toList).2.1.toArray.size<=_;unfold maxLen;simp;omega
 clear hle;unfold iR at h
 rcases nL (be 45 s.data.toList).2.2 with hf|hf
 ·rw[if_pos hf] at h
  split at h
  ·cases h
  ·rename_i f
   clear h
   rcases nL (dA 19 (be 45 s.data.toList).1) with g1|g1
   ·rcases nL (dA 19 (be 45 s.data.toList).2.1) with c|c
    ·have g:¬ bX (be 45 s.data.toList).1<=bX (be 45 s.data.toList).2.1:=by
      grind
     have Hc:=Q7 g;clear f g
     go_enter func306,ntmps306
     go_wp2
     refine (sy s hs d hf).mono ?_;rintro e w' ⟨rfl,n,rfl⟩
     go_wp2
     refine (pq Ha g1).e ?_
     go_wp2
     refine (pq Hb c).e ?_
     go_wp2
     go_ret3;exact⟨⟨_,_,rfl⟩,n,rfl⟩
    ·clear f
     go_enter func306,ntmps306
     go_wp2
     refine (sy s hs d hf).mono ?_;rintro e w' ⟨rfl,n,rfl⟩
     go_wp2
     refine (pq Ha g1).e ?_
     go_wp2
     refine (sx Hb c).e ?_
     go_wp2
     go_ret3;exact⟨⟨_,_,rfl⟩,n,rfl⟩
   ·clear f
    rcases nL (dA 19 (be 45 s.data.toList).2.1) with c|c
    ·skip
     go_enter func306,ntmps306
     go_wp2
     refine (sy s hs d hf).mono ?_;rintro e w' ⟨rfl,n,rfl⟩
     go_wp2
     refine (sx Ha g1).e ?_
     go_wp2
     refine (pq Hb c).e ?_
     go_wp2
     go_ret3;exact⟨⟨_,_,rfl⟩,n,rfl⟩
    ·skip
     go_enter func306,ntmps306
     go_wp2
     refine (sy s hs d hf).mono ?_;rintro e w' ⟨rfl,n,rfl⟩
     go_wp2
     refine (sx Ha g1).e ?_
     go_wp2
     refine (sx Hb c).e ?_
     go_wp2
     go_ret3;exact⟨⟨_,_,rfl⟩,n,rfl⟩
 ·rw[if_neg (by rw[hf];simp)] at h
  split at h
  ·cases h
  ·rename_i i
   clear h;have g1:dA 19 (be 45 s.data.toList).1=false:=by simpa using i
   clear i
   go_enter func306,ntmps306
   go_wp2
   refine (Cw s hs d hf).mono ?_;rintro e w' ⟨rfl,n,rfl⟩
   go_wp2
   refine (sx Ha g1).e ?_
   go_wp2
   go_ret3;exact⟨⟨_,_,rfl⟩,n,rfl⟩
theorem MK:m9 8=6148914691236517205:=by decide +kernel
theorem ML:me 8=3689348814741910323:=by decide +kernel
theorem MM:qj 8=1085102592571150095:=by decide +kernel
theorem xH(a:Nat)(m:Nat)(d:a<18446744073709551616)(b:m<18446744073709551616)(z:Int)(c:z=(a:Int)):bits BinOp.and IntKind.u64 z (m:Int)=((a &&& m:Nat):Int):=by
 grind[bits_and_u64_nat]
theorem qG(n:Nat)(z:Int)(a:z=(n:Int))(h:n<18446744073709551616):IntKind.u64.wrap z=(n:Int):=by
 grind[IntKind.wrap_u64]
theorem MN(A:Nat)(a:A<18446744073709551616):IntKind.u64.wrap (bits BinOp.and IntKind.u64 ((A:Int) / 2) 6148914691236517205+bits BinOp.and IntKind.u64 (A:Int) 6148914691236517205)=((fj 8 A:Nat):Int)/\fj 8 A<18446744073709551616:=by grind[xH,fj,MK,qG,Nat.and_le_right]
theorem MO(x:Nat)(a:x<18446744073709551616):IntKind.u64.wrap (bits BinOp.and IntKind.u64 ((x:Int) / 4) 3689348814741910323+bits BinOp.and IntKind.u64 (x:Int) 3689348814741910323)=((fx 8 x:Nat):Int)/\fx 8 x<=7378697629483820646:=by grind[xH,fx,ML,qG,Nat.and_le_right]
theorem MP(x:Nat)(a:x<=7378697629483820646):bits BinOp.and IntKind.u64 (IntKind.u64.wrap ((x:Int) / 16+(x:Int))) 1085102592571150095=((mf 8 x:Nat):Int):=by
 grind[qG,mf,MM,xH]
def fH (a b c d e f g h:Nat):Nat:=a+256*(b+256*(c+256*(d+256*(e+256*(f+256*(g+256*h))))))
theorem uL(a b c d e f g h:Nat)(_ha:a<=64)(_hb:b<=64)(_hc:c<=64)(_hd:d<=64)(_he:e<=64)(_hf:f<=64)(_hg:g<=64)(_hh:h<=64):fH a b c d e f g h<4700000000000000000:=by unfold fH;omega
theorem MQ(a b c d e f g h:Nat)(_ha:a<=8)(_hb:b<=8)(_hc:c<=8)(_hd:d<=8)(_he:e<=8)(_hf:f<=8)(_hg:g<=8)(_hh:h<=8) :
  fH a b c d e f g h+fH a b c d e f g h / 256=fH (a+b) (b+c) (c+d) (d+e) (e+f) (f+g) (g+h) h:=by
 grind[fH]
theorem MR(a b c d e f g h:Nat)(_ha:a<=16)(_hb:b<=16)(_hc:c<=16)(_hd:d<=16)(_he:e<=16)(_hf:f<=16)(_hg:g<=16)(_hh:h<=16) :
  fH a b c d e f g h+fH a b c d e f g h / 65536=fH (a+c) (b+d) (c+e) (d+f) (e+g) (f+h) g h:=by
 grind[fH]
theorem MS(a b c d e f g h:Nat)(_ha:a<=32)(_hb:b<=32)(_hc:c<=32)(_hd:d<=32)(_he:e<=32)(_hf:f<=32)(_hg:g<=32)(_hh:h<=32) :
  fH a b c d e f g h+fH a b c d e f g h / 4294967296=fH (a+e) (b+f) (c+g) (d+h) e f g h:=by
 grind[fH]
theorem MT(a b c d e f g h:Nat)(_ha:a<=64):fH a b c d e f g h % 128=a:=by unfold fH;omega
theorem MU(A:Nat)(o:A<18446744073709551616):∃i j X Y Z V:Nat,
  IntKind.u64.wrap (bits BinOp.and IntKind.u64 ((A:Int) / 2) 6148914691236517205+bits BinOp.and IntKind.u64 (A:Int) 6148914691236517205)=(i:Int)/\
  IntKind.u64.wrap (bits BinOp.and IntKind.u64 ((i:Int) / 4) 3689348814741910323+bits BinOp.and IntKind.u64 (i:Int) 3689348814741910323)=(j:Int)/\
  bits BinOp.and IntKind.u64 (IntKind.u64.wrap ((j:Int) / 16+(j:Int))) 1085102592571150095=(X:Int)/\
  IntKind.u64.wrap ((X:Int)+(X:Int) / 256)=(Y:Int)/\IntKind.u64.wrap ((Y:Int)+(Y:Int) / 65536)=(Z:Int)/\IntKind.u64.wrap ((Z:Int)+(Z:Int) / 4294967296)=(V:Int)/\
  V % 128=(bm A 64).length/\V<4700000000000000000:=by
 obtain⟨a,b,c,d,e,f,g,h,q,p,n,hd,u,hf,r,t,w,v⟩:=AO A;have l:=MN A o;have m:=MO (fj 8 A) l.2;have k:=MP (fx 8 (fj 8 A)) m.2;have Ha:mf 8 (fx 8 (fj 8 A))=fH a b c d e f g h:=w;rw[Ha] at k;have x:=uL a b c d e f g h (by omega) (by omega) (by omega) (by omega) (by omega) (by omega) (by omega) (by omega);have s1:=MQ a b c d e f g h q p n hd u hf r t;have y:=uL (a+b) (b+c) (c+d) (d+e) (e+f) (f+g) (g+h) h (by omega) (by omega) (by omega) (by omega) (by omega) (by omega) (by omega) (by omega);have s2:=MR (a+b) (b+c) (c+d) (d+e) (e+f) (f+g) (g+h) h (by omega) (by omega) (by omega) (by omega) (by omega) (by omega) (by omega) (by omega);have z:=uL (a+b+(c+d)) (b+c+(d+e)) (c+d+(e+f)) (d+e+(f+g)) (e+f+(g+h)) (f+g+h) (g+h) h (by omega) (by omega) (by omega) (by omega) (by omega) (by omega) (by omega) (by omega);have s3:=MS (a+b+(c+d)) (b+c+(d+e)) (c+d+(e+f)) (d+e+(f+g)) (e+f+(g+h)) (f+g+h) (g+h) h (by omega) (by omega) (by omega) (by omega) (by omega) (by omega) (by omega) (by omega);have s:=uL (a+b+(c+d)+(e+f+(g+h))) (b+c+(d+e)+(f+g+h)) (c+d+(e+f)+(g+h)) (d+e+(f+g)+h) (e+f+(g+h)) (f+g+h) (g+h) h (by omega) (by omega) (by omega) (by omega) (by omega) (by omega) (by omega) (by omega);refine⟨_,_,_,fH (a+b) (b+c) (c+d) (d+e) (e+f) (f+g) (g+h) h,fH (a+b+(c+d)) (b+c+(d+e)) (c+d+(e+f)) (d+e+(f+g)) (e+f+(g+h)) (f+g+h) (g+h) h,_,l.1,m.1,k,?_,?_,?_,MT (a+b+(c+d)+(e+f+(g+h))) (b+c+(d+e)+(f+g+h)) (c+d+(e+f)+(g+h)) (d+e+(f+g)+h) (e+f+(g+h)) (f+g+h) (g+h) h (by omega) |>.trans (by rw[v];omega),s⟩
 ·grind[qG]
 ·grind[qG]
 ·grind[qG]
theorem MV(A:Nat){w:World}(a:A<18446744073709551616) :
  CE 77 #[.int .u64 A] w (.int .i64 ((bm A 64).length:Nat)):=by
 obtain⟨j,f,X,Y,Z,V,r1,c,i,k,d,h,e,g⟩:=MU A a;have b:=ev e;clear e
 go_enter func77,ntmps77
 go_wp2
 go_ret;refine⟨?_,rfl⟩;have e:bits BinOp.and IntKind.i64 (V:Int) 127=((bm A 64).length:Nat):=by
  rw[i64_and127];have:=b.o;omega
 exact congrArg (λz=>Ending.returned (z:Int)) e
theorem CQ(A:Nat)(w:World)(a:A<18446744073709551616) :
  CE 39 #[.int .u64 A] w (.int .i64 ((bm A 64).length:Nat)):=by
 go_enter func39,ntmps39
 go_wp2
 refine (MV A a).e ?_
 go_wp2
 go_ret;exact⟨rfl,rfl⟩
theorem bC.rowsL{ds:List ak}(h:bC w v ds):fB w v 2 oU:=by
 obtain⟨f,c,e,m,l⟩:=h;refine⟨f,_,c,e,m,λg=>?_⟩;obtain⟨b,o,i,Ha,a⟩:=l g;refine⟨b,o,i,Ha,λk d=>⟨[.string (ar ds k).kind,.int .i64 (ar ds k).many],rfl,λj n=>?_,⟨_,_,rfl⟩⟩⟩
 match j,n with
 | 0,_=>exact (a k d).1
 | 1,_=>exact (a k d).2
theorem ba.rowsL{cs:List aF}(h:ba w v cs):fB w v 6 (lu w):=by
 obtain⟨g,c,f,d,l⟩:=h;refine⟨g,_,c,f,Q5 d.1 d.2,λi=>?_⟩;obtain⟨b,o,dv,j,a⟩:=l i;exact⟨b,o,j,a.1,λk e=>⟨eu (af cs k) (dv k),rfl,(a.2 k e).1,⟨_,_,_,_,_,_,rfl,(a.2 k e).2.rowsL⟩⟩⟩
theorem MW{p:aj}{cv:Value}(h:ba w cv p.cs):Calls pg 24 #[cQ p cv] w λe w'=>Ans e/\Bw w w':=Kd p.nm p.pr h.rowsL
theorem MX(f:Int)(w:World):(Instr.typeAssert (.iface 108 f) 40 108 true).run prog w=.ok (.tuple #[f,true]) w:=by kernel_rfl
theorem uM(k:Int)(w:World):CE 14 #[.iface 108 k] w k:=by
 have a:=MX k
 go_enter func14,ntmps14
 go_wp2
 go_ret;exact⟨rfl,rfl⟩
def kH (l:List UInt8) (k acc:Nat):Prop:=ef l=m8 acc ((aP 44 l).drop k)
theorem kH.next{a:Nat}(h:kH l k a)(b:k<(aP 44 l).length) :
  (iR ((aP 44 l).getD k [])=none->ef l=(0,4))/\
  (∀f t,iR ((aP 44 l).getD k [])=some (f,t)->(63<t->ef l=(0,1))/\(¬ 63<t->kH l (k+1) (a ||| ix f.toNat (t - f+1).toNat))):=by
 grind[List.drop_eq_getElem_cons,kH,m8]
theorem kH.done{a:Nat}(h:kH l k a)(b:(aP 44 l).length<=k):ef l=(a,0):=by
 unfold kH at h;rw[List.drop_eq_nil_of_le b] at h;exact h
theorem CR{t:List UInt8}(f l:Int)(h:iR t=some (f,l)):0<=f/\f<=l/\l<=9223372036854775807:=by
 unfold iR at h
 split at h
 ·split at h
  ·rename_i a
   rw[Bool.and_eq_true,Bool.and_eq_true,Qp] at a;obtain⟨⟨⟨_,_,c⟩,_⟩,⟨_,_,b⟩⟩:_/\_:=⟨(oN).1 a.1.1,(oN).1 a.1.2⟩;simp only[Option.some.injEq,Prod.mk.injEq] at h;obtain⟨rfl,rfl⟩:=h;exact⟨ub c,a.2,b⟩
  ·cases h
 ·split at h
  ·rename_i a
   obtain⟨⟨_,_,c⟩,_,b⟩:=(oN).1 a;simp only[Option.some.injEq,Prod.mk.injEq] at h;obtain⟨rfl,rfl⟩:=h;exact⟨ub c,Int.le_refl _,b⟩
  ·cases h
theorem CS(f m:Nat)(h:f+m<=64):ix f m<18446744073709551616:=by induction m <;> grind[ix,Cx,Mp]
theorem uN(c:UInt8)(l:List UInt8):(aP c l).length<=l.length+1:=by induction l <;> grind[aP]
theorem qH(c:UInt8)(l:List UInt8):∀x∈aP c l,x.length<=l.length:=by induction l <;> grind[aP]
theorem MY{z:Int}{w:World}(a:0<=z)(b:z<64):CE 185 #[z] w true:=by
 go_enter func185,ntmps185
 go_wp2
 go_ret;exact⟨rfl,rfl⟩
theorem MZ{z:Int}{w:World}(a:0<=z)(b:64<=z):CE 185 #[z] w false:=by
 have hd:decide (z<64)=false:=Q7 (by omega)
 go_enter func185,ntmps185
 go_wp2
 go_ret;exact⟨rfl,rfl⟩
theorem M0(s:ByteArray)(w:World)(hs:s.size<=300)(G:0<s.size)(x:dH w) :
  CB 288 #[s] w (nM (ef s.data.toList)):=by
 have Hs:s.toList.isEmpty=false:=by grind[wv]
 have Hn:decide (300<(s.size:Int))=false:=Q7 (by omega);have o:Hu (s.data.toList.length=s.size):=by unfold Hu;simp
 have r:=ev x;clear x;have v:kH s.data.toList 0 0:=by
  unfold kH ef;rw[if_neg (by rw[o.o];omega),if_neg (λe=>by have:=o.o;rw[e] at this;simp at this;omega)];rfl
 have Hq:=uN 44 s.data.toList;rw[o.o] at Hq;have y:=ev (qH 44 s.data.toList);have Ht:0<(aP 44 s.data.toList).length:=List.length_pos_iff.2 (qh _ _)
 go_enter func288,ntmps288
 go_wp2
 refine (MI s (by omega) r).m λh Hl=>?_;have Hb:Bw w h:=by rw[Hl];exact (Q0 _ _).alloc (lR) _
 have Hp:=ev (r.o.below Hb);have A:Hu (∀k,k<(aP 44 s.data.toList).length->h.cell? ⟨w,k,none⟩=some (.string ⟨((aP 44 s.data.toList).getD k []).toArray⟩)):=by
  simp_all
 have Hk:=qI (v);clear Hl v
 go_wp2
 go_loopw [4,20] (λt i wr=>∃k c m:Nat,k<=(aP 44 s.data.toList).length/\c<18446744073709551616/\i=.int .i64 k/\t=.int .u64 c/\Hu (kH s.data.toList k c)/\wr=h.drewN m) (λ_ i _=>(aP 44 s.data.toList).length - (intOf i).toNat)
 exact⟨0,0,0,by omega,by omega,rfl,rfl,Hk,rfl⟩
 ·obtain⟨k,c,m,E,Hh,rfl,rfl,Hj,rfl⟩:=hrel;clear Hk
  by_cases d:k<(aP 44 s.data.toList).length
  ·have Ha:=A.o k d;have g:=ev (Hj.o.next d);have Ho:((aP 44 s.data.toList).getD k []).length<=300:=by
    have Hf:(aP 44 s.data.toList).getD k []∈aP 44 s.data.toList:=by simp[d]
    have:=y.o _ Hf
    rw[o.o] at this;omega
   generalize (aP 44 s.data.toList).getD k []=t at Ha g Ho;have He:(ByteArray.mk t.toArray).size<4294967281:=by show t.toArray.size<_;simp;omega
   have Hg:Hu (dH (h.drewN m)):=Hp
   rcases ho:iR t with _|⟨f,l⟩
   ·have H:=ev (g.o.1 ho);have j:=ev ho;clear ho
    go_wp2
    refine (MJ ⟨t.toArray⟩ He Hg j).mono ?_;rintro e u ⟨⟨a,b,rfl⟩,n,rfl⟩
    go_wp2
    go_ret2;exact⟨congrArg Ending.returned (congrArg nM H).symm,below_drewN Hb _⟩
   ·have Hc:=CR f l ho;obtain⟨F,rfl⟩:=Int.eq_ofNat_of_zero_le Hc.1;obtain⟨T,rfl⟩:=Int.eq_ofNat_of_zero_le (show 0<=l by omega);have j:=ev ho;have Hv:F<=T:=by omega
    have Hw:=Hc.2.2;have Hm:=ev (g.o.2 _ _ ho);clear ho Hc g
    by_cases z:63<T
    ·have H:=ev (Hm.o.1 (by omega))
     go_wp2
     refine (CP ⟨t.toArray⟩ He Hg j).mono ?_;rintro e u ⟨rfl,n,rfl⟩
     go_wp2
     refine (MZ (by omega) (by omega)).e ?_
     go_wp2
     go_ret2;exact⟨congrArg Ending.returned (congrArg nM H).symm,below_drewN Hb _⟩
    ·have H:=ev (Hm.o.2 (by omega))
     go_wp2
     refine (CP ⟨t.toArray⟩ He Hg j).mono ?_;rintro e u ⟨rfl,n,rfl⟩
     go_wp2
     refine (MY (by omega) (by omega)).e ?_
     go_wp2
     go_loop [4,10] (λt i=>∃q:Nat,q<=T - F+1/\i=.int .i64 (F+q:Nat)/\t=.int .u64 (c ||| ix F q:Nat)) (λ_ i=>65 - (intOf i).toNat)
     exact⟨0,by omega,rfl,by simp[ix]⟩
     ·obtain⟨q,D,rfl,rfl⟩:=hrel;have Hi:=Cx _ _ Hh (CS F q (by omega))
      by_cases p:F+q<=T
      ·have Hr:Hu (bits BinOp.or IntKind.u64 (c ||| ix F q:Nat) (IntKind.u64.wrap (2 ^ (F+q)))=((c ||| ix F (q+1):Nat):Int)):=by
        grind[Hu,Mo,ix]
       go_wp2
       go_round
       exact⟨q+1,by omega,by go_num,by rw[<- Hr.o]⟩
       simp[intOf];omega
      ·have C:Hu (kH s.data.toList (k+1) (c ||| ix F q)):=by
        grind
       go_wp2
       go_roundw
       exact⟨k+1,_,_,by omega,Hi,by go_num,rfl,C,rfl⟩
       simp[intOf];omega
  ·have H:=ev (Hj.o.done (by omega))
   go_wp2
   go_ret2;exact⟨congrArg Ending.returned (congrArg nM H).symm,below_drewN Hb m⟩
theorem M1(s:ByteArray)(w:World)(hs:300<s.size)(a:s.size<=maxLen) :
  CB 288 #[s] w (nM (0,2)):=by
 unfold maxLen at a
 go_enter func288,ntmps288
 go_wp2
 go_ret2;exact⟨rfl,Q0 _ _⟩
theorem M2(w:World) :
  CB 288 #[.string ⟨#[]⟩] w (nM (0,0)):=by
 go_enter func288,ntmps288
 go_wp2
 go_ret2;exact⟨rfl,Q0 _ _⟩
theorem M3(s:ByteArray)(h:s.size=0):s=⟨#[]⟩:=by cases s <;> grind[ByteArray.size]
theorem M4(s:ByteArray){w:World}(a:s.size<=maxLen)(f:dH w) :
  CB 288 #[s] w (nM (ef s.data.toList)):=by
 by_cases d:300<s.size
 ·simp_all[M1,ef]
 ·by_cases c:s.size=0
  ·have b:=M3 s c;subst b;exact M2 w
  ·grind[M0]
theorem M5(A:Nat)(w:World)(b:A<18446744073709551616) :
  CB 180 #[.int .u64 A] w (.string ⟨(ji A).toArray⟩):=
 MA b (λv a h _=>MC a h (Q5 (CK A 64) (by omega)) (Q5 (wC A) (by omega)))
