/- OF3, VP1, OG1, VP2, OG2, OW2, OG3 -/
import Derived.Test.YtbfdcmodflnkfaaGreatDoorU19
import Derived.Test.YtbfdcmodflnkfaaGreatDoorU16
set_option maxRecDepth 100000
set_option maxHeartbeats 16000000
namespace Go.Proofs.YtbfdcmodflnkfaaGreatDoor
section
open Go.RowKit Go.Shelf
attribute [local go_sem] Oper.semAt_some
theorem eqNilNeedO (a:Option Addr) (n c:Nat) (w:World):Sem.run Tryz.prog (binOp .eql 62 (.slice a n c) (.slice none 0 0)) w=.ok (.bool a.isNone) w:=Lib.run_eql_slice_nil w _ _ a n c 0 0 Tryz.underlying62
theorem cloneNeed_at (a:Addr) (n c:Nat) (cs:List Value) (w:World) (hlen:cs.length=n*2) (hc:∀ j u,cs[j]?=some u→w.cell? (a.add j)=some u) (h1:∀ u∈cs,u.oneCell'=true) (hl:n≤1000) :
  Calls Tryz.prog 67 #[.slice (some a) n c] w fun e w'=>∃ v,e=.returned v∧w'.ownsRow w.heap.size 80 2 v n cs∧Below w.heap.size w w':=by
 obtain ⟨i0,hi,hz0,hz1,hz2⟩:=info_parts infoNeedV
 have HB:=hZz ((Below.refl w.heap.size w).alloc (Nat.le_refl _) (.cells #[] 80))
 have HC:Hid (∀ j u,cs[j]?=some u→(w.alloc (.cells #[] 80)).cell? (a.add j)=some u):=fun j u hj=>Lib.cell?_alloc_some _ (hc j u hj)
 have H1:=hZz h1
 have HLEN:=hZz hlen
 have hnil:=eqNilNeedO (some a) n c w
 clear hc h1 hlen
 go_enter Tryz.func67,Tryz.ntmps67
 go_wp2_with (at_builtin;(refine wpList_append_own _ rfl _ _ 62 rfl w.heap.size 80 i0 (.agg #[.string ByteArray.empty,.int .i64 0]) 2 24 Tryz.underlying62 hi hz0 hz1 hz2 rfl (by decide) _ _ _ rfl (World.ownsRow_lit w #[] 0 (Nat.le_refl _) (Nat.zero_le _) rfl) a n c cs rfl HLEN.out HC.out H1.out (by unfold maxLen;omega) (by omega) (by simp) ?_;intro v' w1 hown' hgrow' _))
 have hB1:=hZz (HB.out.grown hgrow' (by simp) (fun j hj=>by cases hj;exact Nat.le_refl _))
 rw [Nat.zero_add] at hown'
 have HO:=hZz (show w1.ownsRow w.heap.size 80 2 v' n cs by simpa using hown')
 clear hown' hgrow'
 go_wp2_with fail
 go_ret
 exact ⟨_,rfl,HO.out,hB1.out⟩
theorem cloneNeed_nil (n c:Nat) (w:World):Calls Tryz.prog 67 #[.slice none n c] w fun e w'=>e=.returned (.slice none 0 0)∧w'=w:=by
 have hnil:=eqNilNeedO none n c w
 go_enter Tryz.func67,Tryz.ntmps67
 go_wp2_with fail
 go_ret
 exact ⟨rfl,rfl⟩
theorem eqNilContO (a:Option Addr) (n c:Nat) (w:World):Sem.run Tryz.prog (binOp .eql 29 (.slice a n c) (.slice none 0 0)) w=.ok (.bool a.isNone) w:=Lib.run_eql_slice_nil w _ _ a n c 0 0 Tryz.underlying29
theorem cloneCont_at (a:Addr) (n c:Nat) (cs:List Value) (w:World) (hlen:cs.length=n*6) (hc:∀ j u,cs[j]?=some u→w.cell? (a.add j)=some u) (h1:∀ u∈cs,u.oneCell'=true) (hl:n≤1000) :
  Calls Tryz.prog 66 #[.slice (some a) n c] w fun e w'=>∃ v,e=.returned v∧w'.ownsRow w.heap.size 64 6 v n cs∧Below w.heap.size w w':=by
 obtain ⟨i0,hi,hz0,hz1,hz2⟩:=info_parts infoContV
 have HB:=hZz ((Below.refl w.heap.size w).alloc (Nat.le_refl _) (.cells #[] 64))
 have HC:Hid (∀ j u,cs[j]?=some u→(w.alloc (.cells #[] 64)).cell? (a.add j)=some u):=fun j u hj=>Lib.cell?_alloc_some _ (hc j u hj)
 have H1:=hZz h1
 have HLEN:=hZz hlen
 have hnil:=eqNilContO (some a) n c w
 clear hc h1 hlen
 go_enter Tryz.func66,Tryz.ntmps66
 go_wp2_with (at_builtin;(refine wpList_append_own _ rfl _ _ 29 rfl w.heap.size 64 i0 (.agg #[.string ByteArray.empty,.int .i64 0,.int .i64 0,.int .i64 0,.int .i64 0,.slice none 0 0]) 6 72 Tryz.underlying29 hi hz0 hz1 hz2 rfl (by decide) _ _ _ rfl (World.ownsRow_lit w #[] 0 (Nat.le_refl _) (Nat.zero_le _) rfl) a n c cs rfl HLEN.out HC.out H1.out (by unfold maxLen;omega) (by omega) (by simp) ?_;intro v' w1 hown' hgrow' _))
 have hB1:=hZz (HB.out.grown hgrow' (by simp) (fun j hj=>by cases hj;exact Nat.le_refl _))
 rw [Nat.zero_add] at hown'
 have HO:=hZz (show w1.ownsRow w.heap.size 64 6 v' n cs by simpa using hown')
 clear hown' hgrow'
 go_wp2_with fail
 go_ret
 exact ⟨_,rfl,HO.out,hB1.out⟩
theorem cloneCont_nil (n c:Nat) (w:World):Calls Tryz.prog 66 #[.slice none n c] w fun e w'=>e=.returned (.slice none 0 0)∧w'=w:=by
 have hnil:=eqNilContO none n c w
 go_enter Tryz.func66,Tryz.ntmps66
 go_wp2_with fail
 go_ret
 exact ⟨rfl,rfl⟩
theorem eqNilGivenO (a:Option Addr) (n c:Nat) (w:World):Sem.run Tryz.prog (binOp .eql 58 (.slice a n c) (.slice none 0 0)) w=.ok (.bool a.isNone) w:=Lib.run_eql_slice_nil w _ _ a n c 0 0 Tryz.underlying58
theorem cloneGiven_at (a:Addr) (n c:Nat) (cs:List Value) (w:World) (hlen:cs.length=n*2) (hc:∀ j u,cs[j]?=some u→w.cell? (a.add j)=some u) (h1:∀ u∈cs,u.oneCell'=true) (hl:n≤1000) :
  Calls Tryz.prog 78 #[.slice (some a) n c] w fun e w'=>∃ v,e=.returned v∧w'.ownsRow w.heap.size 69 2 v n cs∧Below w.heap.size w w':=by
 obtain ⟨i0,hi,hz0,hz1,hz2⟩:=info_parts infoGivenV
 have HB:=hZz ((Below.refl w.heap.size w).alloc (Nat.le_refl _) (.cells #[] 69))
 have HC:Hid (∀ j u,cs[j]?=some u→(w.alloc (.cells #[] 69)).cell? (a.add j)=some u):=fun j u hj=>Lib.cell?_alloc_some _ (hc j u hj)
 have H1:=hZz h1
 have HLEN:=hZz hlen
 have hnil:=eqNilGivenO (some a) n c w
 clear hc h1 hlen
 go_enter Tryz.func78,Tryz.ntmps78
 go_wp2_with (at_builtin;(refine wpList_append_own _ rfl _ _ 58 rfl w.heap.size 69 i0 (.agg #[.int .u64 0,.slice none 0 0]) 2 32 Tryz.underlying58 hi hz0 hz1 hz2 rfl (by decide) _ _ _ rfl (World.ownsRow_lit w #[] 0 (Nat.le_refl _) (Nat.zero_le _) rfl) a n c cs rfl HLEN.out HC.out H1.out (by unfold maxLen;omega) (by omega) (by simp) ?_;intro v' w1 hown' hgrow' _))
 have hB1:=hZz (HB.out.grown hgrow' (by simp) (fun j hj=>by cases hj;exact Nat.le_refl _))
 rw [Nat.zero_add] at hown'
 have HO:=hZz (show w1.ownsRow w.heap.size 69 2 v' n cs by simpa using hown')
 clear hown' hgrow'
 go_wp2_with fail
 go_ret
 exact ⟨_,rfl,HO.out,hB1.out⟩
theorem cloneGiven_nil (n c:Nat) (w:World):Calls Tryz.prog 78 #[.slice none n c] w fun e w'=>e=.returned (.slice none 0 0)∧w'=w:=by
 have hnil:=eqNilGivenO none n c w
 go_enter Tryz.func78,Tryz.ntmps78
 go_wp2_with fail
 go_ret
 exact ⟨rfl,rfl⟩
theorem eqNilHeldO (a:Option Addr) (n c:Nat) (w:World):Sem.run Tryz.prog (binOp .eql 46 (.slice a n c) (.slice none 0 0)) w=.ok (.bool a.isNone) w:=Lib.run_eql_slice_nil w _ _ a n c 0 0 Tryz.underlying46
theorem cloneHeld_at (a:Addr) (n c:Nat) (cs:List Value) (w:World) (hlen:cs.length=n*4) (hc:∀ j u,cs[j]?=some u→w.cell? (a.add j)=some u) (h1:∀ u∈cs,u.oneCell'=true) (hl:n≤1000) :
  Calls Tryz.prog 35 #[.slice (some a) n c] w fun e w'=>∃ v,e=.returned v∧w'.ownsRow w.heap.size 60 4 v n cs∧Below w.heap.size w w':=by
 obtain ⟨i0,hi,hz0,hz1,hz2⟩:=info_parts infoHeldV
 have HB:=hZz ((Below.refl w.heap.size w).alloc (Nat.le_refl _) (.cells #[] 60))
 have HC:Hid (∀ j u,cs[j]?=some u→(w.alloc (.cells #[] 60)).cell? (a.add j)=some u):=fun j u hj=>Lib.cell?_alloc_some _ (hc j u hj)
 have H1:=hZz h1
 have HLEN:=hZz hlen
 have hnil:=eqNilHeldO (some a) n c w
 clear hc h1 hlen
 go_enter Tryz.func35,Tryz.ntmps35
 go_wp2_with (at_builtin;(refine wpList_append_own _ rfl _ _ 46 rfl w.heap.size 60 i0 (.agg #[.string ByteArray.empty,.int .i64 0,.slice none 0 0,.slice none 0 0]) 4 72 Tryz.underlying46 hi hz0 hz1 hz2 rfl (by decide) _ _ _ rfl (World.ownsRow_lit w #[] 0 (Nat.le_refl _) (Nat.zero_le _) rfl) a n c cs rfl HLEN.out HC.out H1.out (by unfold maxLen;omega) (by omega) (by simp) ?_;intro v' w1 hown' hgrow' _))
 have hB1:=hZz (HB.out.grown hgrow' (by simp) (fun j hj=>by cases hj;exact Nat.le_refl _))
 rw [Nat.zero_add] at hown'
 have HO:=hZz (show w1.ownsRow w.heap.size 60 4 v' n cs by simpa using hown')
 clear hown' hgrow'
 go_wp2_with fail
 go_ret
 exact ⟨_,rfl,HO.out,hB1.out⟩
theorem cloneHeld_nil (n c:Nat) (w:World):Calls Tryz.prog 35 #[.slice none n c] w fun e w'=>e=.returned (.slice none 0 0)∧w'=w:=by
 have hnil:=eqNilHeldO none n c w
 go_enter Tryz.func35,Tryz.ntmps35
 go_wp2_with fail
 go_ret
 exact ⟨rfl,rfl⟩
theorem eqNilIntO (a:Option Addr) (n c:Nat) (w:World):Sem.run Tryz.prog (binOp .eql 67 (.slice a n c) (.slice none 0 0)) w=.ok (.bool a.isNone) w:=Lib.run_eql_slice_nil w _ _ a n c 0 0 Tryz.underlying67
theorem cloneInt_at (a:Addr) (n c:Nat) (cs:List Value) (w:World) (hlen:cs.length=n*1) (hc:∀ j u,cs[j]?=some u→w.cell? (a.add j)=some u) (h1:∀ u∈cs,u.oneCell'=true) (hl:n≤1000) :
  Calls Tryz.prog 79 #[.slice (some a) n c] w fun e w'=>∃ v,e=.returned v∧w'.ownsRow w.heap.size 3 1 v n cs∧Below w.heap.size w w':=by
 obtain ⟨i0,hi,hz0,hz1,hz2⟩:=info_parts infoIntV
 have HB:=hZz ((Below.refl w.heap.size w).alloc (Nat.le_refl _) (.cells #[] 3))
 have HC:Hid (∀ j u,cs[j]?=some u→(w.alloc (.cells #[] 3)).cell? (a.add j)=some u):=fun j u hj=>Lib.cell?_alloc_some _ (hc j u hj)
 have H1:=hZz h1
 have HLEN:=hZz hlen
 have hnil:=eqNilIntO (some a) n c w
 clear hc h1 hlen
 go_enter Tryz.func79,Tryz.ntmps79
 go_wp2_with (at_builtin;(refine wpList_append_own _ rfl _ _ 67 rfl w.heap.size 3 i0 (.int .i64 0) 1 8 Tryz.underlying67 hi hz0 hz1 hz2 rfl (by decide) _ _ _ rfl (World.ownsRow_lit w #[] 0 (Nat.le_refl _) (Nat.zero_le _) rfl) a n c cs rfl HLEN.out HC.out H1.out (by unfold maxLen;omega) (by omega) (by simp) ?_;intro v' w1 hown' hgrow' _))
 have hB1:=hZz (HB.out.grown hgrow' (by simp) (fun j hj=>by cases hj;exact Nat.le_refl _))
 rw [Nat.zero_add] at hown'
 have HO:=hZz (show w1.ownsRow w.heap.size 3 1 v' n cs by simpa using hown')
 clear hown' hgrow'
 go_wp2_with fail
 go_ret
 exact ⟨_,rfl,HO.out,hB1.out⟩
theorem cloneInt_nil (n c:Nat) (w:World):Calls Tryz.prog 79 #[.slice none n c] w fun e w'=>e=.returned (.slice none 0 0)∧w'=w:=by
 have hnil:=eqNilIntO none n c w
 go_enter Tryz.func79,Tryz.ntmps79
 go_wp2_with fail
 go_ret
 exact ⟨rfl,rfl⟩
end
section
open Go.RowKit Go.Shelf
open Qos (Nd Ct Pd nd ct pd)
open Sv (Gv Hd gv hd wd Tx sumTxt heldTxt heldF body readS)
open S1 (Mx)
namespace Sv
def sumW:Tx:=[115,117,109,32]
def sumAt (t:Tx):Int:=Lib.lastIndex t sumW
def cutS (t:Tx):Option Tx:=if 0≤sumAt t then if t.drop (sumAt t).toNat=sumTxt (t.take (sumAt t).toNat) then some (t.take (sumAt t).toNat) else none else none
end Sv
end
section
open Go.RowKit Go.Shelf
open Qos (Nd Ct Pd nd ct pd)
open Sv (Gv Hd gv hd)
structure RowG (W:World) (N g sz n:Nat) (f:Nat→List Value):Prop where
 base:N≤g
 lt:g<W.heap.size
 cell:∀ k,k<n→∀ j,j<sz→W.cell? ⟨g,k*sz+j,none⟩=(f k)[j]?
 free:∀ j,W.frozen? ⟨g,j,none⟩=false
theorem flatG_len {f:Nat→List Value} {sz:Nat} (hf:∀ k,(f k).length=sz) (n:Nat):((List.range n).flatMap f).length=n*sz:=by
 induction n with
 | zero=>simp
 | succ n ih=>rw [List.range_succ,List.flatMap_append,List.length_append,ih];simp [hf,Nat.succ_mul]
theorem flatG_at {f:Nat→List Value} {sz:Nat} (hf:∀ k,(f k).length=sz) (n k j:Nat) (hk:k<n) (hj:j<sz):((List.range n).flatMap f)[k*sz+j]?=(f k)[j]?:=by
 induction n with
 | zero=>omega
 | succ n ih=>
  rw [List.range_succ,List.flatMap_append]
  by_cases h:k<n
  ·rw [List.getElem?_append_left]
   ·exact ih h
   ·rw [flatG_len hf]
    have:(k+1)*sz≤n*sz:=Nat.mul_le_mul_right _ h
    rw [Nat.succ_mul] at this;omega
  ·have:k=n:=by omega
   subst this
   rw [List.getElem?_append_right (by rw [flatG_len hf];omega),flatG_len hf]
   simp
theorem flatG_cells {f:Nat→List Value} {sz:Nat} (h0:0<sz) (hf:∀ k,(f k).length=sz) {w:World} {b o n:Nat} (h:∀ k,k<n→∀ j,j<sz→w.cell? ⟨b,o+k*sz+j,none⟩=(f k)[j]?):∀ j u,((List.range n).flatMap f)[j]?=some u→w.cell? ((⟨b,o,none⟩:Addr).add j)=some u:=by
 intro j u hu
 have hl:j<n*sz:=by
  have:=(List.getElem?_eq_some_iff.1 hu).1
  rw [flatG_len hf] at this;exact this
 have hk:j / sz<n:=Nat.div_lt_of_lt_mul (by rw [Nat.mul_comm];exact hl)
 have hj:j % sz<sz:=Nat.mod_lt _ h0
 have e:j / sz*sz+j % sz=j:=by rw [Nat.mul_comm];exact Nat.div_add_mod j sz
 rw [← e,flatG_at hf n _ _ hk hj] at hu
 rw [Addr.add_lit,← e,← Nat.add_assoc,h _ hk _ hj]
 exact hu
theorem flatG_one {f:Nat→List Value} {n:Nat} (h:∀ k,k<n→∀ u∈f k,u.oneCell'=true):∀ u∈(List.range n).flatMap f,u.oneCell'=true:=by
 intro u hu
 obtain ⟨k,hk,hu⟩:=List.mem_flatMap.1 hu
 exact h k (List.mem_range.1 hk) u hu
theorem rowG_of {W:World} {base:Nat} {e:TypeId} {sz:Nat} {v:Value} {n:Nat} {xs:List Value} {f:Nat→List Value} (h:W.ownsRow base e sz v n xs) (hf:∀ k,k<n→∀ j,j<sz→xs[k*sz+j]?=(f k)[j]?) :
  ∃ ao cap,v=.slice ao n cap∧(n≤cap∧cap≤maxLen)∧(0<n→∃ g,ao=some ⟨g,0,none⟩∧RowG W base g sz n f):=by
 rcases h.2 with ⟨rfl,rfl⟩|⟨g,cap,cur,rfl,hb,hg,hc1,hc2,hcs,ht⟩
 ·exact ⟨none,0,rfl,⟨Nat.le_refl _,Nat.zero_le _⟩,fun h=>by omega⟩
 ·refine ⟨_,cap,rfl,⟨hc1,hc2⟩,fun _=>⟨g,rfl,hb,(Array.getElem?_eq_some_iff.1 hg).1,fun k hk j hj=>?_,fun j=>by simp [World.frozen?,hg]⟩⟩
  rw [← hf k hk j hj,← ht,List.getElem?_take]
  have hl:k*sz+j<n*sz:=by
   have:(k+1)*sz≤n*sz:=Nat.mul_le_mul_right _ hk
   rw [Nat.succ_mul] at this;omega
  rw [if_pos hl]
  simp [World.cell?,hg]
theorem RowG.keep {W W':World} {N g sz n:Nat} {f:Nat→List Value} (h:RowG W N g sz n f) (hb:W'.heap[g]?=W.heap[g]?) (hs:W.heap.size≤W'.heap.size):RowG W' N g sz n f:=
 ⟨h.base,Nat.lt_of_lt_of_le h.lt hs,fun k hk j hj=>(World.cell?_of_block (a:=⟨g,k*sz+j,none⟩) hb).trans (h.cell k hk j hj),fun j=>by
  have:=h.free j
  simp only [World.frozen?] at this ⊢
  rw [hb];exact this⟩
theorem RowG.below {W W':World} {N g sz n:Nat} {f:Nat→List Value} (h:RowG W N g sz n f) (hb:Below W.heap.size W W'):RowG W' N g sz n f:=h.keep (hb.block g h.lt) hb.size
theorem RowG.set {W:World} {N g sz n:Nat} {f:Nat→List Value} (h:RowG W N g sz n f) (k j:Nat) (hk:k<n) (hj:j<sz) (v:Value) (f':Nat→List Value) (h1:∀ i,i<n→i≠k→f' i=f i) (h2:∀ i,i<sz→(f' k)[i]?=if i=j then some v else (f k)[i]?) (hfk:(f k).length=sz):RowG (W.setCell ⟨g,k*sz+j,none⟩ v) N g sz n f':=by
 have hin:W.cell? ⟨g,k*sz+j,none⟩≠none:=by
  rw [h.cell k hk j hj,List.getElem?_eq_getElem (by omega)];simp
 have hsz:(W.setCell ⟨g,k*sz+j,none⟩ v).heap.size=W.heap.size:=by simp
 refine ⟨h.base,by rw [hsz];exact h.lt,fun i hi q hq=>?_,fun q=>by rw [World.frozen?_setCell];exact h.free q⟩
 by_cases hik:i=k
 ·subst hik
  rw [h2 q hq]
  by_cases hqj:q=j
  ·subst hqj
   rw [if_pos rfl]
   obtain ⟨u,hu⟩:∃ u,W.cell? ⟨g,i*sz+q,none⟩=some u:=Option.ne_none_iff_exists'.1 hin
   exact World.cell?_setCell_same _ _ _ hu
  ·rw [if_neg hqj,← h.cell i hi q hq]
   exact World.cell?_setCell_other _ _ _ _ (by simp only [ne_eq,Addr.mk.injEq,true_and,and_true];omega)
 ·rw [h1 i hi hik,← h.cell i hi q hq]
  refine World.cell?_setCell_other _ _ _ _ ?_
  simp only [ne_eq,Addr.mk.injEq,true_and,and_true]
  have a1:i<k∨k<i:=by omega
  rcases a1 with a1|a1
  ·have:(i+1)*sz≤k*sz:=Nat.mul_le_mul_right _ a1
   rw [Nat.succ_mul] at this;omega
  ·have:(k+1)*sz≤i*sz:=Nat.mul_le_mul_right _ a1
   rw [Nat.succ_mul] at this;omega
noncomputable abbrev fresh (N:Nat) (W:World):World:=mask (fun j=>j<N) W
theorem fresh_cell {N:Nat} {W:World} {b o:Nat} (h:N≤b):(fresh N W).cell? ⟨b,o,none⟩=W.cell? ⟨b,o,none⟩:=World.cell?_of_block (a:=⟨b,o,none⟩) (mask_out (fun k=>by have k:b<N:=k;omega))
theorem fresh_le {N N':Nat} {W W':World} (h:∀ j,N≤j→j<W.heap.size→W'.heap[j]?=W.heap[j]?) (hs:W.heap.size≤W'.heap.size) (hN:N'≤N):CellLe (fresh N W) (fresh N' W'):=by
 refine ⟨by rw [mask_size,mask_size];exact hs,fun b o v e=>?_⟩
 have hb:=mask_free e
 have hl:b<W.heap.size:=by have:=World.block_lt_of_cell? _ ⟨b,o,none⟩ e;rw [mask_size] at this;exact this
 have hb':N≤b:=by simpa using hb
 rw [fresh_cell hb'] at e
 rw [fresh_cell (by omega)]
 exact (World.cell?_of_block (a:=⟨b,o,none⟩) (h b hb' hl)).trans e
theorem mask_to {M M':Nat→Prop} {W W':World} (h:∀ j,j<W.heap.size→¬ M j→¬ M' j∧W'.heap[j]?=W.heap[j]?) (hs:W.heap.size≤W'.heap.size):CellLe (mask M W) (mask M' W'):=by
 refine ⟨by rw [mask_size,mask_size];exact hs,fun b o v e=>?_⟩
 have hb:=mask_free e
 have hl:b<W.heap.size:=by have:=World.block_lt_of_cell? _ ⟨b,o,none⟩ e;rw [mask_size] at this;exact this
 obtain ⟨h1,h2⟩:=h b hl hb
 have e1:(mask M' W').heap[b]?=(mask M W).heap[b]?:=by rw [mask_out h1,mask_out hb];exact h2
 exact (World.cell?_of_block (a:=⟨b,o,none⟩) e1).trans e
theorem fresh_below {N N':Nat} {W W':World} (h:Below W.heap.size W W') (hN:N'≤N):CellLe (fresh N W) (fresh N' W'):=fresh_le (fun j _ hj=>h.block j hj) h.size hN
theorem needs_row {W:World} {N g n cap:Nat} {ds:List Nd} (h:RowG W N g 2 n (fun k=>[.string (nd ds k).kind,.int .i64 (nd ds k).many])) (hn:n=ds.length) (hm:ds.length≤maxLen):NeedsAt (fresh N W) (.slice (some ⟨g,0,none⟩) n cap) ds:=by
 subst hn
 refine ⟨_,_,rfl,hm,fun _=>⟨g,0,rfl,by rw [mask_size];exact h.lt,fun k hk=>?_⟩⟩
 rw [fresh_cell h.base,fresh_cell h.base,Nat.zero_add]
 exact ⟨h.cell k hk 0 (by decide),h.cell k hk 1 (by decide)⟩
theorem needs_nilO (W:World) (ao:Option Addr) (c:Nat):NeedsAt W (.slice ao 0 c) []:=⟨ao,c,rfl,Nat.zero_le _,fun h=>absurd h (Nat.lt_irrefl 0)⟩
theorem cons_row {W:World} {N g n cap:Nat} {cs:List Ct} {dv:Nat→Value} (h:RowG W N g 6 n (fun k=>contCells (ct cs k) (dv k))) (hn:n=cs.length) (hm:n≤cap∧cap≤maxLen) (hd:∀ k,k<n→NeedsAt (fresh N W) (dv k) (ct cs k).ds):ConsAt (fresh N W) (.slice (some ⟨g,0,none⟩) n cap) cs:=by
 subst hn
 refine ⟨_,_,rfl,hm,fun _=>⟨g,0,dv,rfl,by rw [mask_size];exact h.lt,fun k hk=>⟨fun j hj=>?_,hd k hk⟩⟩⟩
 rw [fresh_cell h.base,Nat.zero_add]
 exact h.cell k hk j hj
theorem ints_row {W:World} {N g n cap:Nat} {xs:List Int} (h:RowG W N g 1 n (fun k=>[.int .i64 (xs.getD k 0)])) (hn:n=xs.length) (hm:n≤cap∧cap≤maxLen):IntsOf (fresh N W) (.slice (some ⟨g,0,none⟩) n cap) xs:=by
 subst hn
 refine ⟨_,_,rfl,hm,fun _=>⟨g,0,rfl,by rw [mask_size];exact h.lt,fun k hk=>?_⟩⟩
 rw [fresh_cell h.base,Nat.zero_add]
 simpa using h.cell k hk 0 (by decide)
theorem givs_row {W:World} {N g n cap:Nat} {gs:List Gv} {dv:Nat→Value} (h:RowG W N g 2 n (fun k=>[.int .u64 (gv gs k).cp,dv k])) (hn:n=gs.length) (hm:n≤cap∧cap≤maxLen) (hd:∀ k,k<n→(gv gs k).cp<18446744073709551616∧IntsOf (fresh N W) (dv k) (gv gs k).dv):GivsAt (fresh N W) (.slice (some ⟨g,0,none⟩) n cap) gs:=by
 subst hn
 refine ⟨_,_,rfl,hm,fun _=>⟨g,0,dv,rfl,by rw [mask_size];exact h.lt,fun k hk=>⟨⟨?_,?_,(hd k hk).1⟩,(hd k hk).2⟩⟩⟩
 ·rw [fresh_cell h.base,Nat.zero_add];exact h.cell k hk 0 (by decide)
 ·rw [fresh_cell h.base,Nat.zero_add];exact h.cell k hk 1 (by decide)
end
section
open Go.RowKit Go.Shelf
open Sv (Tx sumTxt)
open S1 (Mx Tab)
attribute [local go_sem] Oper.semAt_some
end
section
open Go.RowKit Go.Shelf
open Qos (Nd Ct Pd nd ct pd)
open Sv (Gv Hd gv hd)
theorem cloneNeed_any (v:Value) (ds:List Nd) (w:World) (h:NeedsAt w v ds) (hl:ds.length≤1000):Calls Tryz.prog 67 #[v] w fun e w'=>∃ ao c,e=.returned (.slice ao ds.length c)∧NeedsAt (fresh w.heap.size w') (.slice ao ds.length c) ds∧Below w.heap.size w w':=by
 obtain ⟨ao,c,rfl,hm,hr⟩:=h
 cases ao with
 | none=>
  refine (cloneNeed_nil _ _ _).mono ?_
  rintro e w' ⟨rfl,rfl⟩
  have h0:ds.length=0:=by
   apply Classical.byContradiction;intro h0
   obtain ⟨b,o,hb,_⟩:=hr (by omega)
   cases hb
  have:ds=[]:=List.length_eq_zero_iff.1 h0
  subst this
  exact ⟨none,0,rfl,needs_nilO _ _ _,Below.refl _ _⟩
 | some a=>
  refine (cloneNeed_at a ds.length c ((List.range ds.length).flatMap fun k=>[.string (nd ds k).kind,.int .i64 (nd ds k).many]) w (flatG_len (by intro _;rfl) _) ?_ (flatG_one fun k _ u hu=>?_) hl).mono ?_
  ·intro j u hu
   by_cases h0:0<ds.length
   ·obtain ⟨b,o,hb,_,hc⟩:=hr h0
    cases hb
    exact flatG_cells (sz:=2) (by decide) (by intro _;rfl) (fun k hk i hi=>by
     match i,hi with
     | 0,_=>exact (hc k hk).1
     | 1,_=>exact (hc k hk).2) j u hu
   ·rw [show ds.length=0 by omega] at hu;simp at hu
  ·simp at hu
   rcases hu with rfl|rfl <;> rfl
  ·rintro e w' ⟨u,rfl,hrow,hb⟩
   obtain ⟨ao,cap,rfl,hcap,hg⟩:=rowG_of (f:=fun k=>[.string (nd ds k).kind,.int .i64 (nd ds k).many]) hrow (fun k hk j hj=>flatG_at (by intro _;rfl) _ _ _ hk hj)
   refine ⟨ao,cap,rfl,?_,hb⟩
   by_cases h0:0<ds.length
   ·obtain ⟨g,rfl,hG⟩:=hg h0
    exact needs_row hG rfl hm
   ·have:ds=[]:=List.length_eq_zero_iff.1 (by omega)
    subst this
    exact needs_nilO _ _ _
theorem cloneInt_any (v:Value) (xs:List Int) (w:World) (h:IntsOf w v xs) (hl:xs.length≤1000):Calls Tryz.prog 79 #[v] w fun e w'=>∃ ao c,e=.returned (.slice ao xs.length c)∧IntsOf (fresh w.heap.size w') (.slice ao xs.length c) xs∧Below w.heap.size w w':=by
 obtain ⟨ao,c,rfl,hm,hr⟩:=h
 cases ao with
 | none=>
  refine (cloneInt_nil _ _ _).mono ?_
  rintro e w' ⟨rfl,rfl⟩
  have h0:xs.length=0:=by
   apply Classical.byContradiction;intro h0
   obtain ⟨b,o,hb,_⟩:=hr (by omega)
   cases hb
  have:xs=[]:=List.length_eq_zero_iff.1 h0
  subst this
  exact ⟨none,0,rfl,⟨none,0,rfl,⟨Nat.le_refl _,Nat.zero_le _⟩,fun h=>absurd h (Nat.lt_irrefl 0)⟩,Below.refl _ _⟩
 | some a=>
  refine (cloneInt_at a xs.length c ((List.range xs.length).flatMap fun k=>[.int .i64 (xs.getD k 0)]) w (flatG_len (by intro _;rfl) _) ?_ (flatG_one fun k _ u hu=>?_) hl).mono ?_
  ·intro j u hu
   by_cases h0:0<xs.length
   ·obtain ⟨b,o,hb,_,hc⟩:=hr h0
    cases hb
    exact flatG_cells (sz:=1) (by decide) (by intro _;rfl) (fun k hk i hi=>by
     match i,hi with
     | 0,_=>rw [Nat.mul_one];exact hc k hk) j u hu
   ·rw [show xs.length=0 by omega] at hu;simp at hu
  ·simp at hu
   rcases hu with rfl;rfl
  ·rintro e w' ⟨u,rfl,hrow,hb⟩
   obtain ⟨ao,cap,rfl,hcap,hg⟩:=rowG_of (f:=fun k=>[.int .i64 (xs.getD k 0)]) hrow (fun k hk j hj=>flatG_at (by intro _;rfl) _ _ _ hk hj)
   refine ⟨ao,cap,rfl,?_,hb⟩
   by_cases h0:0<xs.length
   ·obtain ⟨g,rfl,hG⟩:=hg h0
    exact ints_row hG rfl hcap
   ·have:xs=[]:=List.length_eq_zero_iff.1 (by omega)
    subst this
    exact ⟨_,_,rfl,hcap,fun h=>absurd h (Nat.lt_irrefl 0)⟩
theorem cloneCont_any (v:Value) (cs:List Ct) (w W0:World) (h:ConsAt W0 v cs) (l:CellLe W0 w) (hl:cs.length≤1000):Calls Tryz.prog 66 #[v] w fun e w'=>∃ ao c,e=.returned (.slice ao cs.length c)∧(cs.length≤c∧c≤maxLen)∧(0<cs.length→∃ (g:Nat) (dv:Nat→Value),ao=some ⟨g,0,none⟩∧RowG w' w.heap.size g 6 cs.length (fun k=>contCells (ct cs k) (dv k))∧∀ k,k<cs.length→NeedsAt W0 (dv k) (ct cs k).ds)∧Below w.heap.size w w':=by
 obtain ⟨ao,c,rfl,hm,hr⟩:=h
 cases ao with
 | none=>
  refine (cloneCont_nil _ _ _).mono ?_
  rintro e w' ⟨rfl,rfl⟩
  have h0:cs.length=0:=by
   apply Classical.byContradiction;intro h0
   obtain ⟨b,o,dv,hb,_⟩:=hr (by omega)
   cases hb
  rw [h0]
  exact ⟨none,0,rfl,⟨Nat.le_refl _,Nat.zero_le _⟩,fun h=>by omega,Below.refl _ _⟩
 | some a=>
  by_cases h0:0<cs.length
  ·obtain ⟨b,o,dv,hb,hc⟩:=hr h0
   cases hb
   refine (cloneCont_at ⟨b,o,none⟩ cs.length c ((List.range cs.length).flatMap fun k=>contCells (ct cs k) (dv k)) w (flatG_len (by intro _;rfl) _) (flatG_cells (sz:=6) (by decide) (by intro _;rfl) (fun k hk i hi=>by
     have h6:i<(contCells (ct cs k) (dv k)).length:=hi
     rw [List.getElem?_eq_getElem h6]
     exact l.cell _ _ _ (((hc.2 k hk).1 i hi).trans (List.getElem?_eq_getElem h6)))) (flatG_one fun k hk u hu=>?_) hl).mono ?_
   ·obtain ⟨na,nc,hv,_⟩:=(hc.2 k hk).2
    rw [hv] at hu
    simp [contCells] at hu
    rcases hu with rfl|rfl|rfl|rfl|rfl|rfl <;> rfl
   ·rintro e w' ⟨u,rfl,hrow,hb⟩
    obtain ⟨ao,cap,rfl,hcap,hg⟩:=rowG_of (f:=fun k=>contCells (ct cs k) (dv k)) hrow (fun k hk j hj=>flatG_at (by intro _;rfl) _ _ _ hk hj)
    refine ⟨ao,cap,rfl,hcap,fun _=>?_,hb⟩
    obtain ⟨g,rfl,hG⟩:=hg h0
    exact ⟨g,dv,rfl,hG,fun k hk=>(hc.2 k hk).2⟩
  ·refine (cloneCont_at a cs.length c [] w (by rw [show cs.length=0 by omega];rfl) (fun j u hu=>by simp at hu) (fun u hu=>(List.not_mem_nil hu).elim) hl).mono ?_
   rintro e w' ⟨u,rfl,hrow,hb⟩
   obtain ⟨ao,cap,rfl,hcap,hg⟩:=rowG_of (f:=fun _=>[]) hrow (fun k hk j hj=>by omega)
   exact ⟨ao,cap,rfl,hcap,fun h=>absurd h h0,hb⟩
theorem cloneGiven_any (v:Value) (gs:List Gv) (w W0:World) (h:GivsAt W0 v gs) (l:CellLe W0 w) (hl:gs.length≤1000):Calls Tryz.prog 78 #[v] w fun e w'=>∃ ao c,e=.returned (.slice ao gs.length c)∧(gs.length≤c∧c≤maxLen)∧(0<gs.length→∃ (g:Nat) (dv:Nat→Value),ao=some ⟨g,0,none⟩∧RowG w' w.heap.size g 2 gs.length (fun k=>[.int .u64 (gv gs k).cp,dv k])∧∀ k,k<gs.length→(gv gs k).cp<18446744073709551616∧IntsOf W0 (dv k) (gv gs k).dv)∧Below w.heap.size w w':=by
 obtain ⟨ao,c,rfl,hm,hr⟩:=h
 cases ao with
 | none=>
  refine (cloneGiven_nil _ _ _).mono ?_
  rintro e w' ⟨rfl,rfl⟩
  have h0:gs.length=0:=by
   apply Classical.byContradiction;intro h0
   obtain ⟨b,o,dv,hb,_⟩:=hr (by omega)
   cases hb
  rw [h0]
  exact ⟨none,0,rfl,⟨Nat.le_refl _,Nat.zero_le _⟩,fun h=>by omega,Below.refl _ _⟩
 | some a=>
  by_cases h0:0<gs.length
  ·obtain ⟨b,o,dv,hb,hc⟩:=hr h0
   cases hb
   refine (cloneGiven_at ⟨b,o,none⟩ gs.length c ((List.range gs.length).flatMap fun k=>[.int .u64 (gv gs k).cp,dv k]) w (flatG_len (by intro _;rfl) _) (flatG_cells (sz:=2) (by decide) (by intro _;rfl) (fun k hk i hi=>by
     match i,hi with
     | 0,_=>exact l.cell _ _ _ (hc.2 k hk).1.1
     | 1,_=>exact l.cell _ _ _ (hc.2 k hk).1.2.1)) (flatG_one fun k hk u hu=>?_) hl).mono ?_
   ·obtain ⟨na,nc,hv,_⟩:=(hc.2 k hk).2
    rw [hv] at hu
    simp at hu
    rcases hu with rfl|rfl <;> rfl
   ·rintro e w' ⟨u,rfl,hrow,hb⟩
    obtain ⟨ao,cap,rfl,hcap,hg⟩:=rowG_of (f:=fun k=>[.int .u64 (gv gs k).cp,dv k]) hrow (fun k hk j hj=>flatG_at (by intro _;rfl) _ _ _ hk hj)
    refine ⟨ao,cap,rfl,hcap,fun _=>?_,hb⟩
    obtain ⟨g,rfl,hG⟩:=hg h0
    exact ⟨g,dv,rfl,hG,fun k hk=>⟨(hc.2 k hk).1.2.2,(hc.2 k hk).2⟩⟩
  ·refine (cloneGiven_at a gs.length c [] w (by rw [show gs.length=0 by omega];rfl) (fun j u hu=>by simp at hu) (fun u hu=>(List.not_mem_nil hu).elim) hl).mono ?_
   rintro e w' ⟨u,rfl,hrow,hb⟩
   obtain ⟨ao,cap,rfl,hcap,hg⟩:=rowG_of (f:=fun _=>[]) hrow (fun k hk j hj=>by omega)
   exact ⟨ao,cap,rfl,hcap,fun h=>absurd h h0,hb⟩
def heCells (h:Hd) (cv gvv:Value):List Value:=[.string h.pod.nm,.int .i64 h.pod.pr,cv,gvv]
theorem cloneHeld_any (v:Value) (hs:List Hd) (w W0:World) (h:HldsAt W0 v hs) (l:CellLe W0 w) (hl:hs.length≤1000):Calls Tryz.prog 35 #[v] w fun e w'=>∃ (u:Value) (cv gvv:Nat→Value),e=.returned u∧w'.ownsRow w.heap.size 60 4 u hs.length ((List.range hs.length).flatMap fun k=>heCells (hd hs k) (cv k) (gvv k))∧(∀ k,k<hs.length→ConsAt W0 (cv k) (hd hs k).pod.cs∧GivsAt W0 (gvv k) (hd hs k).gs)∧Below w.heap.size w w':=by
 obtain ⟨ao,c,rfl,hm,hr⟩:=h
 cases ao with
 | none=>
  refine (cloneHeld_nil _ _ _).mono ?_
  rintro e w' ⟨rfl,rfl⟩
  have h0:hs.length=0:=by
   apply Classical.byContradiction;intro h0
   obtain ⟨b,o,cv,gvv,hb,_⟩:=hr (by omega)
   cases hb
  rw [h0]
  exact ⟨_,fun _=>.nilIface,fun _=>.nilIface,rfl,⟨rfl,.inl ⟨rfl,rfl⟩⟩,fun k hk=>by omega,Below.refl _ _⟩
 | some a=>
  by_cases h0:0<hs.length
  ·obtain ⟨b,o,cv,gvv,hb,hc⟩:=hr h0
   cases hb
   refine (cloneHeld_at ⟨b,o,none⟩ hs.length c ((List.range hs.length).flatMap fun k=>heCells (hd hs k) (cv k) (gvv k)) w (flatG_len (by intro _;rfl) _) (flatG_cells (sz:=4) (by decide) (by intro _;rfl) (fun k hk i hi=>by
     match i,hi with
     | 0,_=>exact l.cell _ _ _ (hc.2 k hk).1.1
     | 1,_=>exact l.cell _ _ _ (hc.2 k hk).1.2.1
     | 2,_=>exact l.cell _ _ _ (hc.2 k hk).1.2.2.1
     | 3,_=>exact l.cell _ _ _ (hc.2 k hk).1.2.2.2)) (flatG_one fun k hk u hu=>?_) hl).mono ?_
   ·obtain ⟨na,nc,hv,_⟩:=(hc.2 k hk).2.1
    obtain ⟨ma,mc,hv2,_⟩:=(hc.2 k hk).2.2
    rw [hv,hv2] at hu
    simp [heCells] at hu
    rcases hu with rfl|rfl|rfl|rfl <;> rfl
   ·rintro e w' ⟨u,rfl,hrow,hb⟩
    exact ⟨u,cv,gvv,rfl,hrow,fun k hk=>(hc.2 k hk).2,hb⟩
  ·have e0:hs.length=0:=by omega
   refine (cloneHeld_at a hs.length c [] w (by rw [e0];rfl) (fun j u hu=>by simp at hu) (fun u hu=>(List.not_mem_nil hu).elim) hl).mono ?_
   rintro e w' ⟨u,rfl,hrow,hb⟩
   refine ⟨u,fun _=>.nilIface,fun _=>.nilIface,rfl,?_,fun k hk=>absurd hk (by omega),hb⟩
   rw [e0] at hrow ⊢
   exact hrow
end
section
open Go.RowKit Go.Shelf
open Ost (Cpu N4 Wi Hi wi0 told Sm Low cpu0)
open Qos (Nd nd)
open Dvs (Dv dv fits kindP cn Nodes)
attribute [local go_sem] Oper.semAt_some
theorem HintsAt.le {W W':World} {v:Value} {l:List Hi} (h:HintsAt W v l) (k:CellLe W W'):HintsAt W' v l:=by
 rcases h with h|⟨b,o,c,hv,hlt,hc⟩
 ·exact .inl h
 ·exact .inr ⟨b,o,c,hv,Nat.lt_of_lt_of_le hlt k.size,fun j hj=>⟨k.cell _ _ _ (hc j hj).1,k.cell _ _ _ (hc j hj).2⟩⟩
theorem hints_off {W:World} {ao:Option Addr} {n c g:Nat} {l:List Hi} (h:HintsAt W (.slice ao n c) l) (hg:∀ b o,ao=some ⟨b,o,none⟩→b≠g):HintsAt (mask (fun b=>b=g) W) (.slice ao n c) l:=by
 rcases h with h|⟨b,o,c',hv,hlt,hc⟩
 ·exact .inl h
 ·refine .inr ⟨b,o,c',hv,by rw [mask_size];exact hlt,fun j hj=>?_⟩
  injection hv with hv
  have hb:=hg b o hv
  have e:∀ k,(mask (fun b=>b=g) W).cell? ⟨b,k,none⟩=W.cell? ⟨b,k,none⟩:=fun k=>World.cell?_of_block (a:=⟨b,k,none⟩) (mask_out hb)
  rw [e,e]
  exact hc j hj
def wCells (x:Wi × Value):List Value:=[.bool x.1.any,x.2]
def wl (m:Ol.Mc) (s:Ol.Sk) (own:Int) (ns:List Nd) (k:Nat):List Wi:=Ol.wishes m s own (ns.take k)
theorem wl_next (m:Ol.Mc) (s:Ol.Sk) (own:Int) {ns:List Nd} {k:Nat} (h:k<ns.length):wl m s own ns (k+1)=wl m s own ns k++[Ol.wish (Ol.dev4 (fits s.ds s.us (nd ns k).kind) s.ds) (Ol.dev4 (kindP s.ds (nd ns k).kind) s.ds) m.nd (nd ns k).many]:=by
 unfold wl Ol.wishes
 rw [List.take_succ_eq_append_getElem h,List.map_append,List.cons_append]
 simp [nd,h]
theorem infoWish:(Tryz.prog.info? 232).map (fun i=>(i.zero,i.size,i.bytes))=some (some (.agg #[.bool false,.slice none 0 0]),2,32):=by kernel_rfl
theorem new_wish (w:World) (x:Wi × Value) (t:TypeId):∀ j u,(wCells x)[j]?=some u→(w.alloc (.cells #[.bool x.1.any,x.2] t)).cell? ((⟨w.heap.size,0,none⟩:Addr).add j)=some u:=by
 intro j u hu
 rw [Addr.add_lit,Nat.zero_add]
 match j,hu with
 | 0,hu=>simp [wCells] at hu;subst hu;simp
 | 1,hu=>simp [wCells] at hu;subst hu;simp
 | n+2,hu=>simp [wCells] at hu
theorem wCells_one (y:Wi) (a:Option Addr) (n c:Nat):∀ u∈wCells (y,.slice a n c),u.oneCell'=true:=by
 intro u hu
 simp [wCells] at hu
 rcases hu with rfl|rfl <;> rfl
theorem own_keep {W W':World} {base:Nat} {e:TypeId} {sz g n cap:Nat} {xs:List Value} (h:W.ownsRow base e sz (.slice (some ⟨g,0,none⟩) n cap) n xs) (hb:W'.heap[g]?=W.heap[g]?):W'.ownsRow base e sz (.slice (some ⟨g,0,none⟩) n cap) n xs:=by
 obtain ⟨h1,h2|⟨g2,c2,cur,hv,r1,r2,r3⟩⟩:=h
 ·exact ⟨h1,.inl h2⟩
 ·injection hv with e1 e2 e3
  injection e1 with e1
  injection e1 with e1
  subst e1
  exact ⟨h1,.inr ⟨g,c2,cur,by rw [e3],r1,hb.trans r2,r3⟩⟩
theorem wishes_row {W:World} {base g cap:Nat} {l:List (Wi × Value)} (h:W.ownsRow base 232 2 (.slice (some ⟨g,0,none⟩) l.length cap) l.length (l.flatMap wCells)) (hh:∀ x∈l,HintsAt W x.2 x.1.hs):WishesAt W (.slice (some ⟨g,0,none⟩) l.length cap) (l.map Prod.fst):=by
 refine .inr ⟨g,0,cap,by rw [List.length_map],(h.lt g rfl).2,fun k hk=>?_⟩
 rw [List.length_map] at hk
 have e:(l.map Prod.fst).getD k wi0=l[k].1:=by simp [hk]
 have key:∀ (l:List (Wi × Value)) (k:Nat) (hk:k<l.length) (j:Nat),j<2→(l.flatMap wCells)[k*2+j]?=(wCells l[k])[j]?:=by
  intro l
  induction l with
  | nil=>intro k hk;simp at hk
  | cons a l ih=>
   intro k hk j hj
   rw [List.flatMap_cons]
   cases k with
   | zero=>rw [List.getElem?_append_left (by simp [wCells];omega)];simp
   | succ k=>
    rw [List.getElem?_append_right (by simp [wCells];omega)]
    have:=ih k (by simpa using hk) j hj
    simp only [List.getElem_cons_succ]
    rw [← this]
    congr 1
    simp [wCells]
    omega
 have k0:=key l k hk 0 (by decide)
 have k1:=key l k hk 1 (by decide)
 rw [e,Nat.zero_add]
 refine ⟨?_,l[k].2,?_,hh _ (List.getElem_mem hk)⟩
 ·rw [h.cellAt (k*2) (by omega)];exact k0
 ·rw [h.cellAt (k*2+1) (by omega)];exact k1
structure MTop (w:World) (tb b o c:Nat) (m:Ol.Mc):Prop where
 topo:TopoAt w tb b o c m.l
 good:Good m.l
 op:m.op<18446744073709551616
 nd:1≤m.nd∧m.nd≤15
 pol:0≤m.pol∧m.pol≤3
theorem MTop.below {w w':World} {tb b o c:Nat} {m:Ol.Mc} (h:MTop w tb b o c m) (hb:Below w.heap.size w w'):MTop w' tb b o c m:=⟨h.topo.below hb,h.good,h.op,h.nd,h.pol⟩
structure SkAt (w:World) (pb db:Nat) (ao:Option Addr) (c:Nat) (s:Ol.Sk):Prop where
 pool:PoolAt w pb db ao c s.ds s.us
 nodes:Nodes s.ds
 cp:s.cp<18446744073709551616
theorem SkAt.below {w w':World} {pb db:Nat} {ao:Option Addr} {c:Nat} {s:Ol.Sk} (h:SkAt w pb db ao c s) (hb:Below w.heap.size w w'):SkAt w' pb db ao c s:=⟨h.pool.below hb,h.nodes,h.cp⟩
def mV (m:Ol.Mc) (tb:Nat):Value:=.agg #[.pointer (some ⟨tb,0,none⟩),.int .u64 m.op,.int .u8 m.nd,.int .i64 m.nb,.int .i64 m.pol]
def sV (s:Ol.Sk) (pb:Nat):Value:=.agg #[.int .u64 s.cp,.pointer (some ⟨pb,0,none⟩)]
theorem wishes_any (m:Ol.Mc) (s:Ol.Sk) (tb b o c pb db:Nat) (ao:Option Addr) (pc:Nat) (own:Int) (v:Value) (ns:List Nd) (w:World) (hm:MTop w tb b o c m) (hs:SkAt w pb db ao pc s) (hv:NeedsAt w v ns) (hl:ns.length≤100) :
  Calls Tryz.prog 101 #[mV m tb,sV s pb,.int .i64 own,v] w fun e w'=>∃ v',e=.returned v'∧WishesAt w' v' (Ol.wishes m s own ns)∧Below w.heap.size w w':=by
 obtain ⟨i0,hi,hz0,hz1,hz2⟩:=info_parts infoWish
 unfold mV sV
 have HM:=hZz hm
 have HSK:=hZz hs
 obtain ⟨na,nc,rfl,hnm,hnr⟩:=hv
 unfold maxLen at hnm
 have HNR:=hZz hnr
 have hnd:=hm.nd
 have sz:((w.alloc (.cells #[.pointer (some ⟨tb,0,none⟩),.int .u64 m.op,.int .u8 m.nd,.int .i64 m.nb,.int .i64 m.pol] 88)).alloc (.cells #[.int .u64 s.cp,.pointer (some ⟨pb,0,none⟩)] 91)).heap.size=w.heap.size+2:=by simp
 have HU1:=hZz (heap_madeO (w.alloc (.cells #[.pointer (some ⟨tb,0,none⟩),.int .u64 m.op,.int .u8 m.nd,.int .i64 m.nb,.int .i64 m.pol] 88)) (.cells #[.int .u64 s.cp,.pointer (some ⟨pb,0,none⟩)] 91) (n:=w.heap.size+1) (by simp))
 have HU0:=hZz (heap_oldO (heap_madeO w (.cells #[.pointer (some ⟨tb,0,none⟩),.int .u64 m.op,.int .u8 m.nd,.int .i64 m.nb,.int .i64 m.pol] 88) rfl) (.cells #[.int .u64 s.cp,.pointer (some ⟨pb,0,none⟩)] 91))
 have HBU:=hZz (((Below.refl w.heap.size w).alloc (Nat.le_refl _) (.cells #[.pointer (some ⟨tb,0,none⟩),.int .u64 m.op,.int .u8 m.nd,.int .i64 m.nb,.int .i64 m.pol] 88)).alloc (by simp) (.cells #[.int .u64 s.cp,.pointer (some ⟨pb,0,none⟩)] 91))
 have q0:((w.alloc (.cells #[.pointer (some ⟨tb,0,none⟩),.int .u64 m.op,.int .u8 m.nd,.int .i64 m.nb,.int .i64 m.pol] 88)).alloc (.cells #[.int .u64 s.cp,.pointer (some ⟨pb,0,none⟩)] 91)).cell? ⟨w.heap.size,0,none⟩=some (.pointer (some ⟨tb,0,none⟩)):=cell_of_heapV HU0.out 0
 have q1:((w.alloc (.cells #[.pointer (some ⟨tb,0,none⟩),.int .u64 m.op,.int .u8 m.nd,.int .i64 m.nb,.int .i64 m.pol] 88)).alloc (.cells #[.int .u64 s.cp,.pointer (some ⟨pb,0,none⟩)] 91)).cell? ⟨w.heap.size,1,none⟩=some (.int .u64 m.op):=cell_of_heapV HU0.out 1
 have q2:((w.alloc (.cells #[.pointer (some ⟨tb,0,none⟩),.int .u64 m.op,.int .u8 m.nd,.int .i64 m.nb,.int .i64 m.pol] 88)).alloc (.cells #[.int .u64 s.cp,.pointer (some ⟨pb,0,none⟩)] 91)).cell? ⟨w.heap.size,2,none⟩=some (.int .u8 m.nd):=cell_of_heapV HU0.out 2
 have q3:((w.alloc (.cells #[.pointer (some ⟨tb,0,none⟩),.int .u64 m.op,.int .u8 m.nd,.int .i64 m.nb,.int .i64 m.pol] 88)).alloc (.cells #[.int .u64 s.cp,.pointer (some ⟨pb,0,none⟩)] 91)).cell? ⟨w.heap.size+1,0,none⟩=some (.int .u64 s.cp):=cell_of_heapV HU1.out 0
 clear hm hs hnr
 go_enter Tryz.func101,Tryz.ntmps101
 go_wp2_with fail
 generalize ((w.alloc (.cells #[.pointer (some ⟨tb,0,none⟩),.int .u64 m.op,.int .u8 m.nd,.int .i64 m.nb,.int .i64 m.pol] 88)).alloc (.cells #[.int .u64 s.cp,.pointer (some ⟨pb,0,none⟩)] 91))=U at *
 generalize hB:w.heap.size=B at *
 have HQ:=hZz (And.intro q0 (And.intro q1 (And.intro q2 q3)))
 have HBd:Hid (Below U.heap.size U U.drew):=below_drewR (Below.refl _ _)
 clear q0 q1 q2 q3
 have HSB:Hid (∀ W,Below U.heap.size U W→(fun w'=>w'.cell? ⟨B,0,none⟩=some (.pointer (some ⟨tb,0,none⟩))∧w'.cell? ⟨B,1,none⟩=some (.int .u64 m.op)∧w'.cell? ⟨B,2,none⟩=some (.int .u8 m.nd)∧w'.cell? ⟨B+1,0,none⟩=some (.int .u64 s.cp)) W):=fun W hb=>⟨(hb.cell (p:=⟨B,0,none⟩) (by show B<_;omega)).trans HQ.out.1,(hb.cell (p:=⟨B,1,none⟩) (by show B<_;omega)).trans HQ.out.2.1,(hb.cell (p:=⟨B,2,none⟩) (by show B<_;omega)).trans HQ.out.2.2.1,(hb.cell (p:=⟨B+1,0,none⟩) (by show B+1<_;omega)).trans HQ.out.2.2.2⟩
 have HBW:Hid (∀ W,Below U.heap.size U W→Below w.heap.size w W):=fun W hb=>(show Below w.heap.size w U from hB ▸ HBU.out).trans (hb.mono (by omega))
 refine wp_region_held_drew (S:=(fun w'=>w'.cell? ⟨B,0,none⟩=some (.pointer (some ⟨tb,0,none⟩))∧w'.cell? ⟨B,1,none⟩=some (.int .u64 m.op)∧w'.cell? ⟨B,2,none⟩=some (.int .u8 m.nd)∧w'.cell? ⟨B+1,0,none⟩=some (.int .u64 s.cp))) (by kernel_rfl) (HSB.out _ HBd.out) (fun hHeld=>?_)
 refine tk 0 (v:=?a1) (fun w' h=>?b1) ?_
 case b1=>(try dsimp only at h);go_simp;first|done|rfl|(rw [if_neg (by omega)])
 (try simp only [Act.put,s1,s2,s3])
 refine tk 1 (v:=?a2) (fun w' h=>?b2) ?_
 case b2=>(try dsimp only at h);go_simp;first|done|rfl|(rw [if_neg (by omega)])
 (try simp only [Act.put,s1,s2,s3])
 refine tk 2 (v:=?a3) (fun w' h=>?b3) ?_
 case b3=>(try dsimp only at h);go_simp;first|done|rfl|(rw [if_neg (by omega)])
 (try simp only [Act.put,s1,s2,s3])
 refine tk 3 (v:=?a4) (fun w' h=>?b4) ?_
 case b4=>(try dsimp only at h);go_simp;first|done|rfl|(rw [if_neg (by omega)])
 (try simp only [Act.put,s1,s2,s3])
 refine tk 5 (v:=?a5) (fun w' h=>?b5) ?_
 case b5=>(try dsimp only at h);go_simp;first|done|rfl|(rw [if_neg (by omega)])
 (try simp only [Act.put,s1,s2,s3])
 refine tk 6 (v:=?a6) (fun w' h=>?b6) ?_
 case b6=>(try dsimp only at h);go_simp;first|done|rfl|(rw [if_neg (by omega)])
 (try simp only [Act.put,s1,s2,s3])
 refine tk 7 (v:=?a7) (fun w' h=>?b7) ?_
 case b7=>(try dsimp only at h);go_simp;first|done|rfl|(rw [if_neg (by omega)])
 (try simp only [Act.put,s1,s2,s3])
 refine tk 8 (v:=?a8) (fun w' h=>?b8) ?_
 case b8=>(try dsimp only at h);go_simp;first|done|rfl|(rw [if_neg (by omega)])
 (try simp only [Act.put,s1,s2,s3])
 refine tk 10 (v:=?a9) (fun w' h=>?b9) ?_
 case b9=>(try dsimp only at h);go_simp;first|done|rfl|(rw [if_neg (by omega)])
 (try simp only [Act.put,s1,s2,s3])
 refine tk 11 (v:=?a10) (fun w' h=>?b10) ?_
 case b10=>(try dsimp only at h);go_simp;first|done|rfl|(rw [if_neg (by omega)])
 (try simp only [Act.put,s1,s2,s3])
 refine tk 12 (v:=?a11) (fun w' h=>?b11) ?_
 case b11=>(try dsimp only at h);go_simp;first|done|rfl|(rw [if_neg (by omega)])
 (try simp only [Act.put,s1,s2,s3])
 refine wpAnyH_ready (rs:=[4]) (by kernel_rfl) (by simp) (AllReadyH.cons rfl (fun K hK=>?_) AllReadyH.nil)
 go_simp
 go_wp2_with fail
 have hc1:=count_any s.cp tb b o c m.l _ (HM.out.below (HBW.out _ HBd.out)).topo HSK.out.cp HM.out.good
 rw [cntV_eq] at hc1
 refine hc1.mono ?_
 rintro e W1 ⟨rfl,hb1⟩
 have HB1:=hZz (HBd.out.trans (hb1.mono (Nat.le_refl _)))
 clear hc1 hb1
 go_wp2_with fail
 refine hK.out _ _ (HSB.out _ HB1.out) (fun hHeld=>?_)
 clear hK K
 refine wpAnyH_ready (rs:=[9]) (by kernel_rfl) (by simp) (AllReadyH.cons rfl (fun K hK=>?_) AllReadyH.nil)
 go_simp
 go_wp2_with fail
 have hc2:=count_any m.op tb b o c m.l _ (HM.out.below (HBW.out _ HB1.out)).topo HM.out.op HM.out.good
 rw [cntV_eq] at hc2
 refine hc2.mono ?_
 rintro e W2 ⟨rfl,hb2⟩
 have HB2:=hZz (HB1.out.trans (hb2.mono HB1.out.size))
 clear hc2 hb2
 go_wp2_with fail
 refine hK.out _ _ (HSB.out _ HB2.out) (fun hHeld=>?_)
 clear hK K
 refine wpAnyH_ready (rs:=[13]) (by kernel_rfl) (by simp) (AllReadyH.cons rfl (fun K hK=>?_) AllReadyH.nil)
 go_simp
 go_wp2_with fail
 refine (for_any (Ol.cpu4 s.cp m.l) (Ol.cpu4 m.op m.l) m.nd own _ (by omega) (sm_cpu _ HM.out.topo.len) (sm_cpu _ HM.out.topo.len)).mono ?_
 rintro e W3 ⟨ha,hc,rfl,hh3,hf3,hb3⟩
 have HB3:=hZz (HB2.out.trans (hb3.mono HB2.out.size))
 have HH3:=hZz hh3
 clear hb3 hh3 hf3
 go_wp2_with fail
 refine hK.out _ _ (HSB.out _ HB3.out) (fun hHeld=>?_)
 clear hK K
 have HB4:=hZz (HB3.out.alloc HB3.out.size (.cells #[.bool (Ol.wish (Ol.cpu4 s.cp m.l) (Ol.cpu4 m.op m.l) m.nd own).any,.slice ha (Ol.wish (Ol.cpu4 s.cp m.l) (Ol.cpu4 m.op m.l) m.nd own).hs.length hc] 232))
 refine wpAnyH_ready (rs:=[14]) (by kernel_rfl) (by simp) (AllReadyH.cons rfl (fun K hK=>?_) AllReadyH.nil)
 go_simp
 go_wp2_with fail
 refine hK.out _ _ (HSB.out _ HB4.out) (fun hHeld=>?_)
 clear hK K
 refine tk 15 (v:=?a12) (fun w' h=>?b12) ?_
 case b12=>(try dsimp only at h);go_simp;first|done|rfl|(rw [if_neg (by omega)])
 (try simp only [Act.put,s1,s2,s3])
 refine wpAnyH_done (by kernel_rfl) ?_ _
 clear hHeld
 have hlt3:=HB3.out.size
 have HROW0:=hZz (show (W3.alloc (.cells #[.bool (Ol.wish (Ol.cpu4 s.cp m.l) (Ol.cpu4 m.op m.l) m.nd own).any,.slice ha (Ol.wish (Ol.cpu4 s.cp m.l) (Ol.cpu4 m.op m.l) m.nd own).hs.length hc] 232)).ownsRow U.heap.size 232 2 (.slice (some ⟨W3.heap.size,0,none⟩) 1 1) 1 (wCells ((Ol.wish (Ol.cpu4 s.cp m.l) (Ol.cpu4 m.op m.l) m.nd own),.slice ha (Ol.wish (Ol.cpu4 s.cp m.l) (Ol.cpu4 m.op m.l) m.nd own).hs.length hc)) from World.ownsRow_lit W3 #[.bool (Ol.wish (Ol.cpu4 s.cp m.l) (Ol.cpu4 m.op m.l) m.nd own).any,.slice ha (Ol.wish (Ol.cpu4 s.cp m.l) (Ol.cpu4 m.op m.l) m.nd own).hs.length hc] 1 HB3.out.size (by unfold maxLen;omega) rfl)
 have HH4:Hid (HintsAt (mask (fun b=>b=W3.heap.size) (W3.alloc (.cells #[.bool (Ol.wish (Ol.cpu4 s.cp m.l) (Ol.cpu4 m.op m.l) m.nd own).any,.slice ha (Ol.wish (Ol.cpu4 s.cp m.l) (Ol.cpu4 m.op m.l) m.nd own).hs.length hc] 232))) (.slice ha (Ol.wish (Ol.cpu4 s.cp m.l) (Ol.cpu4 m.op m.l) m.nd own).hs.length hc) (Ol.wish (Ol.cpu4 s.cp m.l) (Ol.cpu4 m.op m.l) m.nd own).hs):=HH3.out.le (mask_below (N:=W3.heap.size) ((Below.refl _ _).alloc (Nat.le_refl _) _) rfl (fun j hj=>by omega))
 have HW0:Hid (wl m s own ns 0=[(Ol.wish (Ol.cpu4 s.cp m.l) (Ol.cpu4 m.op m.l) m.nd own)]):=by unfold Hid wl Ol.wishes;simp
 generalize hWA:W3.alloc (.cells #[.bool (Ol.wish (Ol.cpu4 s.cp m.l) (Ol.cpu4 m.op m.l) m.nd own).any,.slice ha (Ol.wish (Ol.cpu4 s.cp m.l) (Ol.cpu4 m.op m.l) m.nd own).hs.length hc] 232)=WA at *
 generalize hx0:(Ol.wish (Ol.cpu4 s.cp m.l) (Ol.cpu4 m.op m.l) m.nd own)=x0 at *
 generalize hg0:W3.heap.size=g0 at *
 clear hWA hx0
 go_wp2_with fail
 go_loopw [9,31] (fun pv i wr=>∃ (k g cap:Nat) (l:List (Wi × Value)),k≤ns.length∧i=.int .i64 k∧pv=.slice (some ⟨g,0,none⟩) l.length cap∧l.length=k+1∧l.map Prod.fst=wl m s own ns k∧wr.ownsRow U.heap.size 232 2 (.slice (some ⟨g,0,none⟩) l.length cap) l.length (l.flatMap wCells)∧(∀ x∈l,HintsAt (mask (fun b=>b=g) wr) x.2 x.1.hs)∧Below U.heap.size U wr) (fun _ i _=>ns.length - (intOf i).toNat)
 case atStart=>exact ⟨0,g0,1,[(x0,.slice ha x0.hs.length hc)],by omega,rfl,rfl,rfl,by rw [HW0.out];rfl,HROW0.out,fun x hx=>by rw [List.mem_singleton.1 hx];exact HH4.out,HB4.out⟩
 case round=>
  obtain ⟨k,g,cap,l,hk,rfl,rfl,hlk,hlm,hrow,hhs,hb⟩:=hrel
  clear HB1 HB2 HB3 HB4 HROW0 HH4 HH3 HBd
  have HLK:=hZz hlk
  have HLM:=hZz hlm
  have HROW:=hZz hrow
  have HHS:=hZz hhs
  have HB:=hZz hb
  have hln:l.length≤101:=by omega
  have hgl:=(hrow.lt g rfl)
  clear hlk hlm hrow hhs
  by_cases hlt:k<ns.length
  ·obtain ⟨nb,no,rfl,hnlt,hnc⟩:=HNR.out (by omega)
   have hbw:=HBW.out _ hb
   have c0:=(hbw.cell (p:=⟨nb,no+k*2,none⟩) (by rw [hB];exact hnlt)).trans (hnc k hlt).1
   have c1:=(hbw.cell (p:=⟨nb,no+k*2+1,none⟩) (by rw [hB];exact hnlt)).trans (hnc k hlt).2
   have HNX:=hZz (wl_next m s own hlt)
   have hk1:(k:Int)<(ns.length:Int):=by omega
   clear hnc hbw
   generalize nd ns k=x at *
   have hszr:=hb.size
   have HBa:=hZz (hb.alloc hb.size (.cells #[.string x.kind,.int .i64 x.many] 80))
   have hsa:(wr.alloc (.cells #[.string x.kind,.int .i64 x.many] 80)).heap.size=wr.heap.size+1:=by simp
   have HXA:=hZz (heap_madeO wr (.cells #[.string x.kind,.int .i64 x.many] 80) rfl)
   have HPA:=hZz ((Below.refl wr.heap.size wr).alloc (Nat.le_refl _) (.cells #[.string x.kind,.int .i64 x.many] 80))
   have a0:(wr.alloc (.cells #[.string x.kind,.int .i64 x.many] 80)).cell? ⟨wr.heap.size,0,none⟩=some (.string x.kind):=cell_of_heapV HXA.out 0
   have s1:(wr.alloc (.cells #[.string x.kind,.int .i64 x.many] 80)).cell? ⟨B+1,1,none⟩=some (.pointer (some ⟨pb,0,none⟩)):=cell_of_heapV ((HBa.out.block (B+1) (by omega)).trans HU1.out) 1
   have HCT:=hZz (count_anyD x.kind (wr.alloc (.cells #[.string x.kind,.int .i64 x.many] 80)) pb db ao pc s.ds s.us (HSK.out.below (HBW.out _ HBa.out)).pool HSK.out.nodes)
   have HFOR:=hZz (fun (W:World)=>for_any (Ol.dev4 (fits s.ds s.us x.kind) s.ds) (Ol.dev4 (kindP s.ds x.kind) s.ds) m.nd x.many W (by omega) (sm_dev _ HSK.out.nodes.1) (sm_dev _ HSK.out.nodes.1))
   unfold v4 Ol.dev4 at HFOR
   dsimp only at HFOR
   unfold Ol.dev4 at HNX
   unfold fourV at HCT
   dsimp only at HCT
   generalize cn (fits s.ds s.us x.kind) s.ds 0 s.ds.length=f0 at *
   generalize cn (fits s.ds s.us x.kind) s.ds 1 s.ds.length=f1 at *
   generalize cn (fits s.ds s.us x.kind) s.ds 2 s.ds.length=f2 at *
   generalize cn (fits s.ds s.us x.kind) s.ds 3 s.ds.length=f3 at *
   generalize cn (kindP s.ds x.kind) s.ds 0 s.ds.length=e0 at *
   generalize cn (kindP s.ds x.kind) s.ds 1 s.ds.length=e1 at *
   generalize cn (kindP s.ds x.kind) s.ds 2 s.ds.length=e2 at *
   generalize cn (kindP s.ds x.kind) s.ds 3 s.ds.length=e3 at *
   generalize hy:Ol.wish ⟨f0,f1,f2,f3⟩ ⟨e0,e1,e2,e3⟩ m.nd x.many=y at *
   clear hb
   go_wp2_with fail
   generalize wr.alloc (.cells #[.string x.kind,.int .i64 x.many] 80)=WB at *
   refine HCT.out.mono ?_
   rintro e W2 ⟨rfl,hb2⟩
   have HB2:=hZz (HBa.out.trans (hb2.mono (by omega)))
   have HX2:=hZz ((hb2.block wr.heap.size (by omega)).trans HXA.out)
   have HP2:=hZz (HPA.out.trans (hb2.mono (by omega)))
   have hs2:=hb2.size
   clear HCT a0 s1 c0 c1 hb2 HBa HXA HPA
   have hA3:=((Below.refl W2.heap.size W2).alloc (Nat.le_refl _) (.cells #[.int .i64 f0,.int .i64 f1,.int .i64 f2,.int .i64 f3] 221)).alloc (by simp) (.cells #[.int .i64 e0,.int .i64 e1,.int .i64 e2,.int .i64 e3] 221)
   have hs3:((W2.alloc (.cells #[.int .i64 f0,.int .i64 f1,.int .i64 f2,.int .i64 f3] 221)).alloc (.cells #[.int .i64 e0,.int .i64 e1,.int .i64 e2,.int .i64 e3] 221)).heap.size=W2.heap.size+2:=by simp
   have HB3:=hZz (HB2.out.trans (hA3.mono HB2.out.size))
   have HP3:=hZz (HP2.out.trans (hA3.mono HP2.out.size))
   have b1:W2.cell? ⟨wr.heap.size,1,none⟩=some (.int .i64 x.many):=cell_of_heapV HX2.out 1
   have b2:W2.cell? ⟨B,2,none⟩=some (.int .u8 m.nd):=(HSB.out _ HB2.out).2.2.1
   have b3:((W2.alloc (.cells #[.int .i64 f0,.int .i64 f1,.int .i64 f2,.int .i64 f3] 221)).alloc (.cells #[.int .i64 e0,.int .i64 e1,.int .i64 e2,.int .i64 e3] 221)).cell? ⟨wr.heap.size,1,none⟩=some (.int .i64 x.many):=cell_of_heapV ((hA3.block wr.heap.size (by omega)).trans HX2.out) 1
   have b4:((W2.alloc (.cells #[.int .i64 f0,.int .i64 f1,.int .i64 f2,.int .i64 f3] 221)).alloc (.cells #[.int .i64 e0,.int .i64 e1,.int .i64 e2,.int .i64 e3] 221)).cell? ⟨B,2,none⟩=some (.int .u8 m.nd):=(HSB.out _ HB3.out).2.2.1
   clear hA3 HX2 HB2 HP2
   go_wp2_with fail
   generalize ((W2.alloc (.cells #[.int .i64 f0,.int .i64 f1,.int .i64 f2,.int .i64 f3] 221)).alloc (.cells #[.int .i64 e0,.int .i64 e1,.int .i64 e2,.int .i64 e3] 221))=W3 at *
   refine (HFOR.out W3).mono ?_
   rintro e W4 ⟨ha4,hc4,rfl,hh4,hf4,hb4⟩
   have HB4:=hZz (HB3.out.trans (hb4.mono HB3.out.size))
   have HP4:=hZz (HP3.out.trans (hb4.mono HP3.out.size))
   have HH4:Hid (HintsAt (mask (fun b=>b=g) W4) (.slice ha4 y.hs.length hc4) y.hs):=hints_off hh4 (fun b o hbo=>by have:=hf4 b o hbo;omega)
   have HROW4:=hZz (show W4.ownsRow U.heap.size 232 2 (.slice (some ⟨g,0,none⟩) l.length cap) l.length (l.flatMap wCells) from own_keep HROW.out (HP4.out.block g hgl.2))
   have hs4:=hb4.size
   have HN4:=hZz (new_wish W4 (y,.slice ha4 y.hs.length hc4) 232)
   dsimp only at HN4
   have hbu:U.heap.size≤(W4.alloc (.cells #[.bool y.any,.slice ha4 y.hs.length hc4] 232)).heap.size:=by simp;omega
   clear b1 b2 b3 b4 hh4 hb4 hf4 HFOR
   go_wp2_with (at_builtin;refine wpList_append_lies _ rfl _ _ 184 rfl U.heap.size 232 i0 (.agg #[.bool false,.slice none 0 0]) 2 32 Tryz.underlying184 hi hz0 hz1 hz2 rfl (by decide) _ _ _ rfl (HROW4.out.alloc _) ⟨_,0,none⟩ 1 1 (wCells (y,.slice ha4 y.hs.length hc4)) rfl rfl HN4.out (wCells_one _ _ _ _) (by decide) (by unfold maxLen;omega) (by omega) hbu (W4.heap.size+1) (by simp) ?_;intro g' cap' W6 hown' hgrow' hgg hglt)
   have hsz5:(W4.alloc (.cells #[.bool y.any,.slice ha4 y.hs.length hc4] 232)).heap.size=W4.heap.size+1:=by simp
   have HMK:Hid (∀ j,j<W4.heap.size→j≠g→W6.heap[j]?=W4.heap[j]?):=fun j hj hne=>(hgrow'.block j (by omega) (fun e=>hne (by injection e))).trans (Below.heap_alloc _ _ _ hj)
   have hg':g'=g∨g'=W4.heap.size+1:=by rcases hgg with h|h;exact .inl (by injection h with h;exact h.symm);exact .inr h
   have hs6:=hgrow'.size
   have HROW6:Hid (W6.ownsRow U.heap.size 232 2 (.slice (some ⟨g',0,none⟩) (l++[(y,Value.slice ha4 y.hs.length hc4)]).length cap') (l++[(y,Value.slice ha4 y.hs.length hc4)]).length ((l++[(y,Value.slice ha4 y.hs.length hc4)]).flatMap wCells)):=by
    unfold Hid
    rw [List.length_append,List.flatMap_append]
    simpa using hown'
   have HB6:=hZz ((HB4.out.alloc HB4.out.size _).grown hgrow' (by omega) (fun j hj=>by cases hj;exact hgl.1))
   clear hown' hgrow' hgg
   go_roundw
   case rel=>
    refine ⟨k+1,g',cap',l++[(y,Value.slice ha4 y.hs.length hc4)],by omega,by go_num,by rw [List.length_append];rfl,by rw [List.length_append,HLK.out];rfl,by rw [List.map_append,HLM.out,HNX.out];rfl,HROW6.out,fun z hz=>?_,HB6.out⟩
    rcases List.mem_append.1 hz with hz|hz
    ·refine (HHS.out z hz).le (mask_to (fun j hj hne=>⟨by have:=HP4.out.size;omega,?_⟩) (by have:=HP4.out.size;omega))
     rw [HMK.out j (by have:=HP4.out.size;omega) hne]
     exact HP4.out.block j hj
    ·rw [List.mem_singleton.1 hz]
     exact HH4.out.le (mask_to (fun j hj hne=>⟨by omega,HMK.out j hj hne⟩) (by omega))
   case measure=>simp [intOf];omega
  ·have hke:k=ns.length:=by omega
   have HE:Hid (WishesAt wr (.slice (some ⟨g,0,none⟩) l.length cap) (Ol.wishes m s own ns)):=by
    unfold Hid
    have e:Ol.wishes m s own ns=l.map Prod.fst:=by rw [HLM.out,hke,wl,List.take_length]
    rw [e]
    exact wishes_row HROW.out (fun x hx=>(HHS.out x hx).le (mask_off _ _))
   clear hke
   go_wp2_with fail
   go_ret
   exact ⟨_,rfl,HE.out,HBW.out _ HB.out⟩
end
section
open Go.RowKit Go.Shelf
open Qos (Nd Ct Pd nd ct pd)
open Sv (Gv Hd gv hd)
attribute [local go_sem] Oper.semAt_some
theorem givenApart_any (v:Value) (gs:List Gv) (w:World) (h:GivsAt w v gs) (hl:gs.length≤1000) (hdl:∀ k,k<gs.length→(gv gs k).dv.length≤1000):Calls Tryz.prog 40 #[v] w fun e w'=>∃ ao c,e=.returned (.slice ao gs.length c)∧GivsAt (fresh w.heap.size w') (.slice ao gs.length c) gs∧Below w.heap.size w w':=by
 have HCL:=hZz (cloneGiven_any v gs w w h (CellLe.refl _) hl)
 have HDL:=hZz hdl
 obtain ⟨ao0,c0,rfl,hm0,_⟩:=h
 clear hm0 hdl
 go_enter Tryz.func40,Tryz.ntmps40
 go_wp2_with fail
 refine HCL.out.mono ?_
 rintro e W1 ⟨ao,c,rfl,hcap,hg,hb1⟩
 have HCAP:=hZz hcap
 obtain ⟨g,dv,hg2⟩:∃ (g:Nat) (dv:Nat→Value),0<gs.length→ao=some ⟨g,0,none⟩∧RowG W1 w.heap.size g 2 gs.length (fun k=>[.int .u64 (gv gs k).cp,dv k])∧∀ k,k<gs.length→(gv gs k).cp<18446744073709551616∧IntsOf w (dv k) (gv gs k).dv:=by
  by_cases h0:0<gs.length
  ·obtain ⟨g,dv,hh⟩:=hg h0;exact ⟨g,dv,fun _=>hh⟩
  ·exact ⟨0,fun _=>.nilIface,fun h=>absurd h h0⟩
 have HG:=hZz hg2
 have HB1:=hZz hb1
 clear hcap hg hg2 hb1 HCL
 go_wp2_with fail
 go_loopw [9] (fun i wr=>∃ (k:Nat) (dw:Nat→Value),k≤gs.length∧i=.int .i64 k∧Below w.heap.size w wr∧Hid (0<gs.length→RowG wr w.heap.size g 2 gs.length (fun j=>[.int .u64 (gv gs j).cp,dw j]))∧Hid (∀ j,j<k→IntsOf (mask (fun b=>b<w.heap.size∨b=g) wr) (dw j) (gv gs j).dv)∧Hid (∀ j,k≤j→dw j=dv j)) (fun i _=>gs.length - (intOf i).toNat)
 case atStart=>exact ⟨0,dv,by omega,rfl,HB1.out,fun h=>(HG.out h).2.1,fun j hj=>by omega,fun j _=>rfl⟩
 case round=>
  obtain ⟨k,dw,hk,rfl,hb,HROW,HDONE,HREST⟩:=hrel
  have HB:=hZz hb
  by_cases hlt:k<gs.length
  ·obtain ⟨rfl,_,hin⟩:=HG.out (by omega)
   have hrow:=HROW.out (by omega)
   have x0:wr.cell? ⟨g,k*2,none⟩=some (.int .u64 (gv gs k).cp):=hrow.cell k hlt 0 (by decide)
   have x1:wr.cell? ⟨g,k*2+1,none⟩=some (dv k):=by rw [← HREST.out k (Nat.le_refl _)];exact hrow.cell k hlt 1 (by decide)
   have hint:=(hin k hlt).2
   obtain ⟨ia,ic,hdv,_⟩:=id hint
   rw [hdv] at x1 hint
   have hA:=hb.alloc hb.size (.cells #[.int .u64 (gv gs k).cp,.slice ia (gv gs k).dv.length ic] 69)
   have hsA:(wr.alloc (.cells #[.int .u64 (gv gs k).cp,.slice ia (gv gs k).dv.length ic] 69)).heap.size=wr.heap.size+1:=by simp
   have HCI:=hZz (cloneInt_any (.slice ia (gv gs k).dv.length ic) (gv gs k).dv (wr.alloc (.cells #[.int .u64 (gv gs k).cp,.slice ia (gv gs k).dv.length ic] 69)) (hint.below hA) (HDL.out k hlt))
   have HA:=hZz hA
   have hgl:=hrow.lt
   have hgN:=hrow.base
   have hsz:=hb.size
   have hk100:(k:Int)<(gs.length:Int):=by omega
   clear hrow hin hint hb hdv hA
   generalize hcp:(gv gs k).cp=cp at *
   have HCP:=hZz hcp
   have HDVL:Hid ((gv gs k).dv=(gv gs k).dv):=rfl
   clear hcp
   generalize hxs:(gv gs k).dv=xs at *
   have HXS:=hZz hxs
   clear hxs
   go_wp2_with fail
   refine HCI.out.mono ?_
   rintro e W2 ⟨na,nc,rfl,hni,hb2⟩
   have hW2:Below wr.heap.size wr W2:=((Below.refl wr.heap.size wr).alloc (Nat.le_refl _) _).trans (hb2.mono (by simp))
   have hrow2:=(HROW.out (by omega)).below hW2
   have y1:W2.cell? ⟨g,k*2+1,none⟩=some (dw k):=hrow2.cell k hlt 1 (by decide)
   have f1:=hrow2.free (k*2+1)
   have HW2:=hZz hW2
   have HNI:=hZz hni
   have HR2:=hZz hrow2
   have hs2:wr.heap.size+1≤W2.heap.size:=by have:=hb2.size;simp at this;omega
   clear hni hb2 hW2 hrow2 HCI
   go_wp2_with fail
   have HSB:Hid (∀ b,b≠g→(W2.setCell ⟨g,k*2+1,none⟩ (.slice na xs.length nc)).heap[b]?=W2.heap[b]?):=fun b hb=>set_other hb
   have hszS:(W2.setCell ⟨g,k*2+1,none⟩ (.slice na xs.length nc)).heap.size=W2.heap.size:=by simp
   have HNR:=hZz (HR2.out.set k 1 hlt (by decide) (.slice na xs.length nc) (fun j=>[.int .u64 (gv gs j).cp,if j=k then .slice na xs.length nc else dw j]) (fun i _ hi=>by simp [hi]) (fun i hi=>by
    match i,hi with
    | 0,_=>simp
    | 1,_=>simp) rfl)
   have HBN:=hZz ((HB.out.trans (HW2.out.mono hsz)).setCell (p:=⟨g,k*2+1,none⟩) hgN (.slice na xs.length nc))
   generalize W2.setCell ⟨g,k*2+1,none⟩ (.slice na xs.length nc)=W3 at *
   go_roundw
   case rel=>
    refine ⟨k+1,fun j=>if j=k then .slice na xs.length nc else dw j,by omega,by go_num,HBN.out,fun _=>HNR.out,fun j hj=>?_,fun j hj=>?_⟩
    ·by_cases hjk:j=k
     ·subst hjk
      dsimp only
      rw [if_pos rfl,HXS.out]
      refine HNI.out.le (mask_to (fun b hb1 hb2=>?_) (by rw [hszS];exact Nat.le_refl _))
      rw [hsA] at hb2
      exact ⟨by omega,HSB.out b (by omega)⟩
     ·dsimp only
      rw [if_neg hjk]
      refine (HDONE.out j (by omega)).le (mask_to (fun b hb1 hb2=>⟨hb2,?_⟩) (by rw [hszS];omega))
      rw [HSB.out b (by omega)]
      exact HW2.out.block b hb1
    ·dsimp only
     rw [if_neg (by omega)]
     exact HREST.out j (by omega)
   case measure=>simp [intOf];omega
  ·have hke:k=gs.length:=by omega
   subst hke
   have HFIN:Hid (GivsAt (fresh w.heap.size wr) (.slice ao gs.length c) gs):=by
    unfold Hid
    by_cases h0:0<gs.length
    ·obtain ⟨ha,_,hin⟩:=HG.out h0
     rw [ha]
     exact givs_row (HROW.out h0) rfl HCAP.out (fun j hj=>⟨(hin j hj).1,(HDONE.out j hj).le (mask_to (fun b _ hb2=>⟨by omega,rfl⟩) (Nat.le_refl _))⟩)
    ·exact ⟨ao,c,rfl,HCAP.out,fun h=>absurd h h0⟩
   go_wp2_with fail
   go_ret
   exact ⟨ao,c,rfl,HFIN.out,HB.out⟩
end
end Go.Proofs.YtbfdcmodflnkfaaGreatDoor
