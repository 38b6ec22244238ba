/- What the document's Claim answers: contracts. -/
import Derived.Test.YthekalhceamcoaaDBits
import Derived.Deep.QuietTactic
import Derived.BigQuiet
namespace Go.Proofs.Ythekalhceamcoaa
open Go.RowKit
open Dvs (Dv dv0 dv nth first clF gvF claimed given Nodes)
theorem clF_in {n : Nat} {us : Nat → Bool} {l : List Int} {k : Nat} (h : clF n us l k = 0) : inBd (nth l k) n = true := by
  cases e : inBd (nth l k) n
  · rw [clF_bound e] at h; cases h
  · rfl
theorem gvF_in {n : Nat} {us : Nat → Bool} {l : List Int} {k : Nat} (h : gvF n us l k = 0) : inBd (nth l k) n = true := by
  cases e : inBd (nth l k) n
  · rw [gvF_bound e] at h; cases h
  · rfl
theorem twice_step {l : List Int} {q : Nat} (hq : q < l.length) (x : Int) : decide (x ∈ l.take (q + 1)) = (decide (x ∈ l.take q) || (nth l q == x)) := by
  rw [Dvs.take_nth hq]
  by_cases h1 : x ∈ l.take q
  · simp [h1]
  · by_cases h2 : nth l q = x
    · simp [h2]
    · have : ¬ x = nth l q := fun e => h2 e.symm
      simp [h1, h2, this]
theorem PoolAt.drew {w : World} {pb db : Nat} {ao : Option Addr} {c : Nat} {ds : List Dv} {us : Nat → Bool} (h : PoolAt w pb db ao c ds us) : PoolAt w.drew pb db ao c ds us := h.below (below_drew (Below.refl _ w))
theorem NumsAt.drew {w : World} {v : Value} {g o : Nat} {l : List Int} (h : NumsAt w v g o l) : NumsAt w.drew v g o l := h.below (below_drew (Below.refl _ w))
theorem grown_drew {w w' : World} {g : Option Nat} (h : w.grownBy w' g) : w.grownBy w'.drew g := ⟨h.os, h.tape, h.output, h.size, h.block⟩
theorem drewN_add (w : World) (m n : Nat) : (w.drewN m).drewN n = w.drewN (m + n) := World.drewN_drewN _ _ _
set_option maxRecDepth 100000 in
set_option maxHeartbeats 4000000 in
theorem refClaim_any (v : Value) (g o : Nat) (l : List Int) (w : World) (pb db : Nat) (ao : Option Addr) (c : Nat) (ds : List Dv) (us : Nat → Bool) (h : PoolAt w pb db ao c ds us) (hN : Nodes ds) (hl : NumsAt w v g o l) (hl2 : l.length ≤ 9223372036854775807) (hgp : 0 < l.length → g ≠ pb) :
    Calls Try.prog 33 #[.pointer (some ⟨pb, 0, none⟩), v, .bool false] w fun e w' => e = .returned (.int .i64 (first (clF ds.length us l) l.length : Nat)) ∧ w.grownBy w' (some pb) ∧ PoolAt w' pb db ao c ds (claimOut ds.length us l) := by
  have HL := hideIt hl
  obtain ⟨al, cl, rfl, _⟩ := hl
  have HN := hideIt hN
  have HP := hideIt h
  have HGP := hideIt hgp
  clear h hN hgp
  go_enter Try.func33, Try.ntmps33
  go_wp2_with fail
  go_loopw [7] (fun i wr => ∃ k n : Nat, k ≤ l.length ∧ i = .int .i64 k ∧ Hid (first (clF ds.length us l) k = 0) ∧ wr = w.drewN n) (fun i _ => l.length - (intOf i).toNat)
  case atStart => exact ⟨0, 0, by omega, rfl, rfl, rfl⟩
  case round =>
    obtain ⟨k, n, hk, rfl, HK, rfl⟩ := hrel
    by_cases hlt : k < l.length
    · have HPn := hideIt (HP.out.drewN n)
      have HH := hideIt (is_any (nth l k) (w.drewN n) pb db ao c ds us HPn.out)
      obtain ⟨al', cl', hv, hcs⟩ := HL.out.below (below_drewN (Below.refl _ w) n)
      obtain ⟨rfl, hlg, hcs⟩ := hcs (by omega)
      cases hv
      have hx := hcs k hlt
      have HW := hideIt (fun n hn => (Dvs.first_hit (f := clF ds.length us l) (n := l.length) HK.out (by rw [hn]; simp) hlt).trans (hn : clF ds.length us l k = n + 1))
      have hB1 := hideIt (HL.out)
      rcases two (inBd (nth l k) ds.length) with hb | hb
      · rw [if_pos hb] at HH
        obtain ⟨m, hm, hmn⟩ := inB_iff hb
        have hm16 : m < 16 := by have := HN.out.1; omega
        clear hcs hb
        rw [hm] at hx HH
        go_wp2_with fail
        refine HH.out.mono ?_
        rintro e w1 ⟨rfl, rfl⟩
        go_wp2_with fail
        go_loopw [9, 10] (fun t j wr => ∃ q n : Nat, q ≤ k ∧ j = .int .i64 q ∧ t = .bool (decide ((m : Int) ∈ l.take q)) ∧ wr = w.drewN n) (fun _ j _ => k - (intOf j).toNat)
        case atStart => exact ⟨0, n, by omega, rfl, rfl, rfl⟩
        case round =>
          obtain ⟨q, n2, hq, rfl, rfl, rfl⟩ := hrel
          have HPn := hideIt (HP.out.drewN n2)
          obtain ⟨al', cl', hv, hcs⟩ := HL.out
          obtain ⟨rfl, hlg, hcs2⟩ := hcs (by omega)
          cases hv
          have hx2 := hcs2 k hlt
          rw [hm] at hx2
          by_cases hqk : q < k
          · have hql : q < l.length := by omega
            have hy := hcs2 q hql
            have HS := hideIt (twice_step (l := l) (q := q) (by omega) (m : Int))
            clear hcs hcs2 hx
            generalize nth l q = y at *
            rcases two (decide ((m : Int) ∈ l.take q)) with hd | hd
            · rw [hd] at HS ⊢
              go_wp2_with fail
              go_quiet (fail)
              go_wp2_with fail
              go_roundw
              case rel => exact ⟨q + 1, _, by omega, by go_num, by rw [HS.out]; rfl, rfl⟩
              case measure => simp [intOf]; omega
            · rw [hd] at HS ⊢
              go_wp2_with fail
              go_quiet (fail)
              go_wp2_with fail
              go_roundw
              case rel => exact ⟨q + 1, _, by omega, by go_num, by rw [HS.out]; rfl, rfl⟩
              case measure => simp [intOf]; omega
          · have hqe : q = k := by omega
            subst hqe
            clear hcs hcs2 hx
            have hu := (HP.out.used m hm16).1
            have HC : Hid (claimed us (l.take q) m = (us m || decide ((m : Int) ∈ l.take q))) := rfl
            rcases two (us m) with hus | hus
            · have HE := hideIt (HW.out 4 (clF_exist hm hmn (by rw [HC.out, hus]; rfl)))
              have HO : Hid (claimOut ds.length us l = us) := by unfold Hid claimOut; rw [HE.out, if_neg (by decide)]
              rw [hus] at hu
              clear HW HC
              go_wp2_with fail
              go_quiet (fail)
              go_wp2_with fail
              go_ret
              exact ⟨by rw [HE.out]; rfl, by first | exact grown_drewN (grown_drewN (grown_refl w _) _) _ | exact grown_drewN (grown_drewN (grown_drewN (grown_refl w _) _) _) _, by rw [HO.out]; first | exact (HP.out.drewN _).drewN _ | exact ((HP.out.drewN _).drewN _).drewN _⟩
            · rw [hus] at hu
              rcases two (decide ((m : Int) ∈ l.take q)) with ht | ht
              · have HE := hideIt (HW.out 4 (clF_exist hm hmn (by rw [HC.out, ht, Bool.or_true])))
                have HO : Hid (claimOut ds.length us l = us) := by unfold Hid claimOut; rw [HE.out, if_neg (by decide)]
                rw [ht]
                clear HW HC
                go_wp2_with fail
                go_quiet (fail)
                go_wp2_with fail
                go_ret
                exact ⟨by rw [HE.out]; rfl, by first | exact grown_drewN (grown_drewN (grown_refl w _) _) _ | exact grown_drewN (grown_drewN (grown_drewN (grown_refl w _) _) _) _, by rw [HO.out]; first | exact (HP.out.drewN _).drewN _ | exact ((HP.out.drewN _).drewN _).drewN _⟩
              · have HK1 : Hid (first (clF ds.length us l) (q + 1) = 0) := Dvs.first_zero HK.out (clF_good hm hmn (by rw [HC.out, hus, ht]; rfl))
                rw [ht]
                clear HW HC
                go_wp2_with fail
                go_quiet (fail)
                go_wp2_with fail
                go_quiet (fail)
                go_wp2_with fail
                go_roundw
                case rel => exact ⟨q + 1, _, by omega, by go_num, HK1, rfl⟩
                case measure => simp [intOf]; omega
      · rw [if_neg (by rw [hb]; simp)] at HH
        have HE := hideIt (HW.out 0 (clF_bound hb))
        have HO : Hid (claimOut ds.length us l = us) := by unfold Hid claimOut; rw [HE.out, if_neg (by decide)]
        clear hb HW hcs
        go_wp2_with fail
        refine HH.out.mono ?_
        rintro e w1 ⟨rfl, rfl⟩
        go_wp2_with fail
        go_ret
        exact ⟨by rw [HE.out]; rfl, grown_drewN (grown_refl w _) n, by rw [HO.out]; exact HPn.out⟩
    · have hke : k = l.length := by omega
      subst hke
      have HPn := hideIt (HP.out.drewN n)
      have HLn := hideIt (HL.out.below (below_drewN (Below.refl _ w) n))
      go_wp2_with fail
      go_loopw [11] (fun i wr => ∃ k : Nat, k ≤ l.length ∧ i = .int .i64 k ∧ PoolAt wr pb db ao c ds (claimed us (l.take k)) ∧ NumsAt wr (.slice al l.length cl) g o l ∧ w.grownBy wr (some pb)) (fun i _ => l.length - (intOf i).toNat)
      case atStart => exact ⟨0, by omega, rfl, by rw [List.take_zero, Dvs.claimed_nil]; exact HPn.out, HLn.out, grown_drewN (grown_refl w _) n⟩
      case round =>
        obtain ⟨k, hk2, rfl, hP, hLk, hG⟩ := hrel
        by_cases hlt2 : k < l.length
        · obtain ⟨m, hm, hmn⟩ := inB_iff (clF_in (Dvs.first_all HK.out k hlt2))
          have hm16 : m < 16 := by have := HN.out.1; omega
          have HL2 := hideIt hLk
          obtain ⟨al', cl', hv, hcs⟩ := hLk
          obtain ⟨rfl, hlg, hcs2⟩ := hcs (by omega)
          cases hv
          have hx := hcs2 k hlt2
          rw [hm] at hx
          obtain ⟨hu, hz⟩ := hP.used m hm16
          have HP' := hideIt (hP.set (vs := claimed us (l.take (k + 1))) hm16 true (fun j _ => claimed_step hlt2 hm j))
          have HG' := hideIt (hG.trans (grown_setCell wr ⟨pb, 1 + m, none⟩ (.bool true)))
          have HL' := hideIt (HL2.out.kept (grown_setCell wr ⟨pb, 1 + m, none⟩ (.bool true)) (fun h0 => by have := HGP.out h0; simp; omega))
          clear hcs hcs2 hP hG HL2
          go_wp2_with fail
          go_region
          go_wp2_with fail
          go_roundw
          case rel => exact ⟨k + 1, by omega, by go_num, HP'.out.drew, HL'.out.drew, grown_drew HG'.out⟩
          case measure => simp [intOf]; omega
        · have hke : k = l.length := by omega
          subst hke
          have HO : Hid (claimOut ds.length us l = claimed us l) := by unfold Hid claimOut; rw [HK.out, if_pos rfl]
          rw [List.take_length] at hP
          have HP' := hideIt hP
          have HG' := hideIt hG
          clear hP hG hLk
          go_wp2_with fail
          go_ret
          exact ⟨by rw [HK.out]; rfl, HG'.out, by rw [HO.out]; exact HP'.out⟩
set_option maxRecDepth 100000 in
set_option maxHeartbeats 4000000 in
theorem refGive_any (v : Value) (g o : Nat) (l : List Int) (w : World) (pb db : Nat) (ao : Option Addr) (c : Nat) (ds : List Dv) (us : Nat → Bool) (h : PoolAt w pb db ao c ds us) (hN : Nodes ds) (hl : NumsAt w v g o l) (hl2 : l.length ≤ 9223372036854775807) (hgp : 0 < l.length → g ≠ pb) :
    Calls Try.prog 33 #[.pointer (some ⟨pb, 0, none⟩), v, .bool true] w fun e w' => e = .returned (.int .i64 (first (gvF ds.length us l) l.length : Nat)) ∧ w.grownBy w' (some pb) ∧ PoolAt w' pb db ao c ds (giveOut ds.length us l) := by
  have HL := hideIt hl
  obtain ⟨al, cl, rfl, _⟩ := hl
  have HN := hideIt hN
  have HP := hideIt h
  have HGP := hideIt hgp
  clear h hN hgp
  go_enter Try.func33, Try.ntmps33
  go_wp2_with fail
  go_loopw [7] (fun i wr => ∃ k n : Nat, k ≤ l.length ∧ i = .int .i64 k ∧ Hid (first (gvF ds.length us l) k = 0) ∧ wr = w.drewN n) (fun i _ => l.length - (intOf i).toNat)
  case atStart => exact ⟨0, 0, by omega, rfl, rfl, rfl⟩
  case round =>
    obtain ⟨k, n, hk, rfl, HK, rfl⟩ := hrel
    by_cases hlt : k < l.length
    · have HPn := hideIt (HP.out.drewN n)
      have HH := hideIt (is_any (nth l k) (w.drewN n) pb db ao c ds us HPn.out)
      obtain ⟨al', cl', hv, hcs⟩ := HL.out.below (below_drewN (Below.refl _ w) n)
      obtain ⟨rfl, hlg, hcs⟩ := hcs (by omega)
      cases hv
      have hx := hcs k hlt
      have HW := hideIt (fun n hn => (Dvs.first_hit (f := gvF ds.length us l) (n := l.length) HK.out (by rw [hn]; simp) hlt).trans (hn : gvF ds.length us l k = n + 1))
      have hB1 := hideIt (HL.out)
      rcases two (inBd (nth l k) ds.length) with hb | hb
      · rw [if_pos hb] at HH
        obtain ⟨m, hm, hmn⟩ := inB_iff hb
        have hm16 : m < 16 := by have := HN.out.1; omega
        clear hcs hb
        rw [hm] at hx HH
        go_wp2_with fail
        refine HH.out.mono ?_
        rintro e w1 ⟨rfl, rfl⟩
        go_wp2_with fail
        go_loopw [9, 10] (fun t j wr => ∃ q n : Nat, q ≤ k ∧ j = .int .i64 q ∧ t = .bool (decide ((m : Int) ∈ l.take q)) ∧ wr = w.drewN n) (fun _ j _ => k - (intOf j).toNat)
        case atStart => exact ⟨0, n, by omega, rfl, rfl, rfl⟩
        case round =>
          obtain ⟨q, n2, hq, rfl, rfl, rfl⟩ := hrel
          have HPn := hideIt (HP.out.drewN n2)
          obtain ⟨al', cl', hv, hcs⟩ := HL.out
          obtain ⟨rfl, hlg, hcs2⟩ := hcs (by omega)
          cases hv
          have hx2 := hcs2 k hlt
          rw [hm] at hx2
          by_cases hqk : q < k
          · have hql : q < l.length := by omega
            have hy := hcs2 q hql
            have HS := hideIt (twice_step (l := l) (q := q) (by omega) (m : Int))
            clear hcs hcs2 hx
            generalize nth l q = y at *
            rcases two (decide ((m : Int) ∈ l.take q)) with hd | hd
            · rw [hd] at HS ⊢
              go_wp2_with fail
              go_quiet (fail)
              go_wp2_with fail
              go_roundw
              case rel => exact ⟨q + 1, _, by omega, by go_num, by rw [HS.out]; rfl, rfl⟩
              case measure => simp [intOf]; omega
            · rw [hd] at HS ⊢
              go_wp2_with fail
              go_quiet (fail)
              go_wp2_with fail
              go_roundw
              case rel => exact ⟨q + 1, _, by omega, by go_num, by rw [HS.out]; rfl, rfl⟩
              case measure => simp [intOf]; omega
          · have hqe : q = k := by omega
            subst hqe
            clear hcs hcs2 hx
            have hu := (HP.out.used m hm16).1
            rcases two (us m) with hus | hus
            · have HK1 : Hid (first (gvF ds.length us l) (q + 1) = 0) := Dvs.first_zero HK.out (gvF_good hm hmn hus)
              rw [hus] at hu
              clear HW
              generalize decide ((m : Int) ∈ l.take q) = tw
              go_wp2_with fail
              go_quiet (fail)
              go_wp2_with fail
              go_quiet (fail)
              go_wp2_with fail
              go_roundw
              case rel => exact ⟨q + 1, _, by omega, by go_num, HK1, rfl⟩
              case measure => simp [intOf]; omega
            · have HE := hideIt (HW.out 5 (gvF_none hm hmn hus))
              have HO : Hid (giveOut ds.length us l = us) := by unfold Hid giveOut; rw [HE.out, if_neg (by decide)]
              rw [hus] at hu
              clear HW
              generalize decide ((m : Int) ∈ l.take q) = tw
              go_wp2_with fail
              go_quiet (fail)
              go_wp2_with fail
              go_quiet (fail)
              go_wp2_with fail
              go_ret
              exact ⟨by rw [HE.out]; rfl, by first | exact grown_drewN (grown_drewN (grown_refl w _) _) _ | exact grown_drewN (grown_drewN (grown_drewN (grown_refl w _) _) _) _, by rw [HO.out]; first | exact (HP.out.drewN _).drewN _ | exact ((HP.out.drewN _).drewN _).drewN _⟩
      · rw [if_neg (by rw [hb]; simp)] at HH
        have HE := hideIt (HW.out 0 (gvF_bound hb))
        have HO : Hid (giveOut ds.length us l = us) := by unfold Hid giveOut; rw [HE.out, if_neg (by decide)]
        clear hb HW hcs
        go_wp2_with fail
        refine HH.out.mono ?_
        rintro e w1 ⟨rfl, rfl⟩
        go_wp2_with fail
        go_ret
        exact ⟨by rw [HE.out]; rfl, grown_drewN (grown_refl w _) n, by rw [HO.out]; exact HPn.out⟩
    · have hke : k = l.length := by omega
      subst hke
      have HPn := hideIt (HP.out.drewN n)
      have HLn := hideIt (HL.out.below (below_drewN (Below.refl _ w) n))
      go_wp2_with fail
      go_loopw [11] (fun i wr => ∃ k : Nat, k ≤ l.length ∧ i = .int .i64 k ∧ PoolAt wr pb db ao c ds (given us (l.take k)) ∧ NumsAt wr (.slice al l.length cl) g o l ∧ w.grownBy wr (some pb)) (fun i _ => l.length - (intOf i).toNat)
      case atStart => exact ⟨0, by omega, rfl, by rw [List.take_zero, Dvs.given_nil]; exact HPn.out, HLn.out, grown_drewN (grown_refl w _) n⟩
      case round =>
        obtain ⟨k, hk2, rfl, hP, hLk, hG⟩ := hrel
        by_cases hlt2 : k < l.length
        · obtain ⟨m, hm, hmn⟩ := inB_iff (gvF_in (Dvs.first_all HK.out k hlt2))
          have hm16 : m < 16 := by have := HN.out.1; omega
          have HL2 := hideIt hLk
          obtain ⟨al', cl', hv, hcs⟩ := hLk
          obtain ⟨rfl, hlg, hcs2⟩ := hcs (by omega)
          cases hv
          have hx := hcs2 k hlt2
          rw [hm] at hx
          obtain ⟨hu, hz⟩ := hP.used m hm16
          have HP' := hideIt (hP.set (vs := given us (l.take (k + 1))) hm16 false (fun j _ => given_step hlt2 hm j))
          have HG' := hideIt (hG.trans (grown_setCell wr ⟨pb, 1 + m, none⟩ (.bool false)))
          have HL' := hideIt (HL2.out.kept (grown_setCell wr ⟨pb, 1 + m, none⟩ (.bool false)) (fun h0 => by have := HGP.out h0; simp; omega))
          clear hcs hcs2 hP hG HL2
          go_wp2_with fail
          go_region
          go_wp2_with fail
          go_roundw
          case rel => exact ⟨k + 1, by omega, by go_num, HP'.out.drew, HL'.out.drew, grown_drew HG'.out⟩
          case measure => simp [intOf]; omega
        · have hke : k = l.length := by omega
          subst hke
          have HO : Hid (giveOut ds.length us l = given us l) := by unfold Hid giveOut; rw [HK.out, if_pos rfl]
          rw [List.take_length] at hP
          have HP' := hideIt hP
          have HG' := hideIt hG
          clear hP hG hLk
          go_wp2_with fail
          go_ret
          exact ⟨by rw [HK.out]; rfl, HG'.out, by rw [HO.out]; exact HP'.out⟩
end Go.Proofs.Ythekalhceamcoaa
