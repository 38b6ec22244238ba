/- Acts that are few and short: what LightActs says of them. -/
import Derived.Test.YthekalhceamcoaaDLight
namespace Go.Proofs.Ythekalhceamcoaa
open Go.RowKit
/-- An act that is short. -/
def actQ (W : World) (cs : List Value) : Prop := ∃ (kind s : ByteArray) (a b : Int) (m : Nat) (la : Option Addr) (ll lc : Nat) (nm : ByteArray) (pr : Int) (cv uv : Value),
  cs = [.string kind, .string s, .int .i64 a, .int .i64 b, .int .u8 m, .slice la ll lc, .string nm, .int .i64 pr, cv, uv] ∧ s.size ≤ 7000 ∧ ll ≤ 30 ∧ RowsOf W (.slice la ll lc) 1 intP ∧ RowsOf W cv 6 (contP W) ∧ RowsOf W uv 2 pairP
def OneAct (w : World) (b o k : Nat) : Prop := ∃ cs : List Value, cs.length = 10 ∧ (∀ j, j < 10 → w.cell? ⟨b, o + k * 10 + j, none⟩ = cs[j]?) ∧ actQ w cs
/-- It answers yes or no; yes, if they are few and short. -/
def AnsActs (w : World) (v : Value) (most : Int) (e : Ending) : Prop := ∃ b, e = .returned (.bool b) ∧ (b = true → RowsOf w v 10 (actQ w) ∧ ∀ a n c, v = .slice a n c → (n : Int) ≤ most)
set_option maxRecDepth 100000 in
set_option maxHeartbeats 2000000 in
theorem lightE_any (v : Value) (most : Int) (w : World) (h : RowsOf w v 10 (actP w)) : Calls Try.prog 26 #[v, .int .i64 most] w fun e w' => AnsActs w v most e ∧ Below w.heap.size w w' := by
  obtain ⟨ao, len, c, rfl, hm, hr⟩ := h
  have HR := hideIt hr
  have HM := hideIt hm
  unfold maxLen at hm
  clear hr
  by_cases hmo : most < len
  · go_enter Try.func26, Try.ntmps26
    go_wp2_with fail
    go_ret
    exact ⟨⟨_, rfl, fun h => by cases h⟩, Below.refl _ _⟩
  have hd : decide (most < (len : Int)) = false := decide_eq_false hmo
  have HMO := hideIt (show (len : Int) ≤ most by omega)
  clear hmo
  go_enter Try.func26, Try.ntmps26
  go_wp2_with fail
  go_loopw [5] (fun i wr => ∃ k : Nat, k ≤ len ∧ i = .int .i64 k ∧ Below w.heap.size w wr ∧ Hid (∀ b o, ao = some ⟨b, o, none⟩ → ∀ j, j < k → OneAct w b o j)) (fun i _ => len - (intOf i).toNat)
  case atStart => exact ⟨0, by omega, rfl, Below.refl _ _, fun _ _ _ j hj => by omega⟩
  case round =>
    obtain ⟨k, hk, rfl, hB, HACT⟩ := hrel
    by_cases hlt : k < len
    · obtain ⟨b, o, rfl, hlb, hcs⟩ := HR.out (by omega)
      obtain ⟨cs, hcl, hc, kd, s, xa, xb, m, lv, nm, pr, cv, uv, rfl, hm8, hlv, hcv, huv⟩ := hcs k hlt
      have hcw : ∀ j, j < 10 → wr.cell? ⟨b, o + k * 10 + j, none⟩ = ([.string kd, .string s, .int .i64 xa, .int .i64 xb, .int .u8 m, lv, .string nm, .int .i64 pr, cv, uv] : List Value)[j]? := fun j hj => (hB.cell (p := ⟨b, o + k * 10 + j, none⟩) hlb).trans (hc j hj)
      have c1 : wr.cell? ⟨b, o + k * 10 + 1, none⟩ = some (.string s) := hcw 1 (by decide)
      have c5 : wr.cell? ⟨b, o + k * 10 + 5, none⟩ = some lv := hcw 5 (by decide)
      have c6 : wr.cell? ⟨b, o + k * 10 + 6, none⟩ = some (.string nm) := hcw 6 (by decide)
      have c7 : wr.cell? ⟨b, o + k * 10 + 6 + 1, none⟩ = some (.int .i64 pr) := hcw 7 (by decide)
      have c8 : wr.cell? ⟨b, o + k * 10 + 6 + 2, none⟩ = some cv := hcw 8 (by decide)
      have c9 : wr.cell? ⟨b, o + k * 10 + 9, none⟩ = some uv := hcw 9 (by decide)
      have hcvw := hcv.below hB fun _ h => contP.below h hB
      have huvw := huv.below hB (q := pairP) fun _ h => h
      have hlbw : b < wr.heap.size := Nat.lt_of_lt_of_le hlb hB.size
      have HU := hideIt huvw
      have HPd := hideIt (lightPod_any nm pr cv wr hcvw)
      have HBk := hideIt hB
      have HLV := hideIt hlv
      have HCV := hideIt hcv
      have HUV := hideIt huv
      have HC := hideIt hc
      obtain ⟨la, ll, lc, rfl, _, _⟩ := hlv
      obtain ⟨ca, cl, cc, rfl, _, _⟩ := hcv
      have HNX := hideIt (fun (h7 : s.size ≤ 7000) (h30 : ll ≤ 30) => (show ∀ b' o', some (⟨b, o, none⟩ : Addr) = some ⟨b', o', none⟩ → ∀ j, j < k + 1 → OneAct w b' o' j from fun b' o' e j hj => by
        cases e
        by_cases ek : j = k
        · subst ek
          exact ⟨_, hcl, HC.out, kd, s, xa, xb, m, la, ll, lc, nm, pr, _, uv, rfl, h7, h30, HLV.out, HCV.out, HUV.out⟩
        · exact HACT.out b o rfl j (by omega)))
      clear hc hcs hcw hB hcl hcvw huvw HACT HLV HCV HUV HC
      by_cases h7 : 7000 < s.size
      · go_wp2_with fail
        go_ret
        exact ⟨⟨_, rfl, fun h => by cases h⟩, HBk.out⟩
      have h7' : s.size ≤ 7000 := by omega
      clear h7
      by_cases h30 : 30 < ll
      · go_wp2_with fail
        go_ret
        exact ⟨⟨_, rfl, fun h => by cases h⟩, HBk.out⟩
      have h30' : ll ≤ 30 := by omega
      have HNX' := hideIt (HNX.out h7' h30')
      clear h30 HNX
      go_wp2_with fail
      refine HPd.out.mono ?_
      rintro e w1 ⟨⟨b1, rfl⟩, hb1⟩
      have HB1 := hideIt (HBk.out.trans (hb1.mono HBk.out.size))
      have HU1 := hideIt (HU.out.below hb1 (q := pairP) fun _ h => h)
      have c9' := (hb1.cell (p := ⟨b, o + k * 10 + 9, none⟩) hlbw).trans c9
      obtain ⟨ua, ul, uc, rfl, _, _⟩ := huv
      clear hb1 HU HPd HBk c1 c5 c6 c7 c8 c9
      rcases two b1 with e1 | e1
      · subst e1
        go_wp2_with fail
        refine (lightUses_any _ _ HU1.out).mono ?_
        rintro e w2 ⟨⟨b2, rfl⟩, rfl⟩
        rcases two b2 with e2 | e2
        · subst e2
          go_wp2_with fail
          go_roundw
          case rel => exact ⟨k + 1, by omega, by go_num, HB1.out, HNX'⟩
          case measure => simp [intOf]; omega
        · subst e2
          go_wp2_with fail
          go_ret
          exact ⟨⟨_, rfl, fun h => by cases h⟩, HB1.out⟩
      · subst e1
        go_wp2_with fail
        go_ret
        exact ⟨⟨_, rfl, fun h => by cases h⟩, HB1.out⟩
    · have hke : k = len := by omega
      subst hke
      have HB1 := hideIt hB
      have HYES := hideIt (show RowsOf w (.slice ao k c) 10 (actQ w) ∧ ∀ a n c', Value.slice ao k c = .slice a n c' → (n : Int) ≤ most from ⟨⟨ao, k, c, rfl, HM.out, fun h0 => by
        obtain ⟨b, o, ha, hlb, _⟩ := HR.out h0
        exact ⟨b, o, ha, hlb, fun j hj => HACT.out b o ha j hj⟩⟩, fun a n c' e => by cases e; exact HMO.out⟩)
      clear hB HACT
      go_wp2_with fail
      go_ret
      exact ⟨⟨_, rfl, fun _ => HYES.out⟩, HB1.out⟩
end Go.Proofs.Ythekalhceamcoaa
