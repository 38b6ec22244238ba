/- VD4 -/
import Derived.Test.YtlljniaobbbjgaaGreatDoorU4
import Derived.Deep.RegionHeld3
namespace Go.Proofs.YtlljniaobbbjgaaGreatDoor
open Go.RowKit
/-- A change in memory. -/
def ChgAt (w : World) (g : Nat) (wr : Bool) (bs : ByteArray) : Prop := g < w.heap.size ∧ w.cell? ⟨g, 0, none⟩ = some (.bool wr) ∧ w.cell? ⟨g, 1, none⟩ = some (.string bs)
theorem ChgAt.block {w w' : World} {g : Nat} {wr : Bool} {bs : ByteArray} (h : ChgAt w g wr bs) (he : w'.heap[g]? = w.heap[g]?) : ChgAt w' g wr bs := by
  obtain ⟨h0, h1, h2⟩ := h
  have hlt : g < w'.heap.size := by
    obtain ⟨hg, _⟩ := Array.getElem?_eq_some_iff.1 (he.trans (Array.getElem?_eq_getElem h0))
    exact hg
  exact ⟨hlt, (World.cell?_of_block (a := ⟨g, 0, none⟩) he).trans h1, (World.cell?_of_block (a := ⟨g, 1, none⟩) he).trans h2⟩
theorem grown_trans {a b c : World} {B : Nat} (p : a.grownBy b (some B)) (q : b.grownBy c (some B)) : a.grownBy c (some B) :=
  ⟨q.os.trans p.os, q.tape.trans p.tape, q.output.trans p.output, Nat.le_trans p.size q.size, fun j hj hne => (q.block j (Nat.lt_of_lt_of_le hj p.size) hne).trans (p.block j hj hne)⟩
theorem grown_belowV {a b c : World} {B : Nat} (p : a.grownBy b (some B)) (q : Below b.heap.size b c) : a.grownBy c (some B) :=
  ⟨q.os.trans p.os, q.tape.trans p.tape, q.output.trans p.output, Nat.le_trans p.size q.size, fun j hj hne => (q.block j (Nat.lt_of_lt_of_le hj p.size)).trans (p.block j hj hne)⟩
theorem infoChg : (Tryz.prog.info? 111).map (fun i => (i.zero, i.size, i.bytes)) = some (some (.agg #[.bool false, .string ByteArray.empty]), 2, 24) := by kernel_rfl
theorem info_partsV {o : Option TypeInfo} {z : Option Value} {s b : Nat} (h : o.map (fun i => (i.zero, i.size, i.bytes)) = some (z, s, b)) : ∃ i, o = some i ∧ i.zero = z ∧ i.size = s ∧ i.bytes = b := by
  cases o with
  | none => cases h
  | some i => simp at h; exact ⟨i, rfl, h.1, h.2.1, h.2.2⟩
theorem new_chg (w : World) (wr : Bool) (bs : ByteArray) (t : TypeId) : ∀ j u, [Value.bool wr, Value.string bs][j]? = some u → (w.alloc (.cells #[.bool wr, .string bs] t)).drew.cell? ((⟨w.heap.size, 0, none⟩ : Addr).add j) = some u := by
  intro j u hu
  rw [Addr.add_lit, Nat.zero_add]
  match j, hu with
  | 0, hu => simp at hu; subst hu; simp
  | 1, hu => simp at hu; subst hu; simp
theorem chg_own {w : World} {base : Nat} {v : Value} {wr : Bool} {bs : ByteArray} (h : w.ownsRow base 111 2 v (0 + 1) ([] ++ [.bool wr, .string bs])) : ∃ g cap, v = .slice (some ⟨g, 0, none⟩) 1 cap ∧ (base ≤ g ∧ 1 ≤ cap) ∧ ChgAt w g wr bs := by
  rcases h.2 with ⟨_, h0⟩ | ⟨g, cap, cur, hv, hb, hg, hcp, hcp2, hcp3, ht⟩
  · cases h0
  · have c0 : cur[0]? = some (.bool wr) := by
      have := congrArg (fun l => l[0]?) ht
      simpa using this
    have c1 : cur[1]? = some (.string bs) := by
      have := congrArg (fun l => l[1]?) ht
      simpa using this
    exact ⟨g, cap, hv, ⟨hb, by omega⟩, (Array.getElem?_eq_some_iff.1 hg).1, by simp [World.cell?, hg, c0], by simp [World.cell?, hg, c1]⟩
theorem below_of_drewD {w w' : World} (h : Below w.drew.heap.size w.drew w') : Below w.heap.size w w' := ⟨h.os, h.tape, h.output, h.size, h.block⟩
theorem wp_storeS {W : World} {B p q : Nat} {s : Sd} {z0 z1 z2 z3 : Value} {a : Act} {ty : TypeId} {pos : String} {after : Array Edge} {guard : Option (Nat × Bool)} {K : Act → World → Prop} {Q : Exit → Act → World → Prop}
    (c0 : W.cell? ⟨B, 0, none⟩ = some z0) (c1 : W.cell? ⟨B, 1, none⟩ = some z1) (c2 : W.cell? ⟨B, 2, none⟩ = some z2) (c3 : W.cell? ⟨B, 3, none⟩ = some z3) (f0 : W.frozen? ⟨B, 0, none⟩ = false) (f1 : W.frozen? ⟨B, 1, none⟩ = false) (f2 : W.frozen? ⟨B, 2, none⟩ = false) (f3 : W.frozen? ⟨B, 3, none⟩ = false)
    (hp : a.tmps[p]?.getD undef = .pointer (some ⟨B, 0, none⟩)) (hq : a.tmps[q]?.getD undef = s.agg) (hk : K a (putS W B 0 s)) :
    Oper.wp Tryz.prog { dst := none, op := Op.store 90 (Operand.tmp p) (Operand.tmp q), type := ty, pos := pos, after := after, guard := guard } a W K Q := by
  unfold putS at hk
  unfold Sd.agg at hq
  have HK := hideIt hk
  clear hk
  go_simp
  exact HK.out
/-- Behind a change that waits. -/
def Waits (w w' : World) (B : Nat) (n k : Sd) (l : Int) (wr : Bool) (bs : ByteArray) : Prop := ∃ g cap, DiskW w' B n k (.slice (some ⟨g, 0, none⟩) 1 cap) l false ∧ (w.heap.size ≤ g ∧ 1 ≤ cap) ∧ ChgAt w' g wr bs
set_option maxRecDepth 100000 in
set_option maxHeartbeats 2000000 in
theorem apply_yes (B : Nat) (n k : Sd) (l : Int) (d : Bool) (wr : Bool) (bs : ByteArray) (w : World) (h : DiskW w B n k (.slice none 0 0) l d) (hl : -9223372036854775808 ≤ l ∧ l ≤ 9223372036854775807) (h0 : stepE l d = 0) :
    Calls Tryz.prog 65 #[.pointer (some ⟨B, 0, none⟩), .agg #[.bool wr, .string bs]] w fun e w' => e = .returned .nilIface ∧ Waits w w' B (Chg.on ⟨wr, bs⟩ n) k (stepN l d) wr bs ∧ w.grownBy w' (some B) := by
  have hlt := h.lt
  have hba := (Below.refl w.heap.size w).alloc (Nat.le_refl _) (.cells #[.bool wr, .string bs] 111)
  have hX0 : ChgAt (w.alloc (.cells #[.bool wr, .string bs] 111)) w.heap.size wr bs := ⟨by simp, by simp, by simp⟩
  have hD0 := h.block (w' := w.alloc (.cells #[.bool wr, .string bs] 111)) (hba.block B hlt)
  have HST := hideIt (stepW_any B n k _ l d _ hD0 hl)
  have hF : stepF l d = false := by
    rcases step_two l d with ⟨e1, _⟩ | ⟨_, e2⟩
    · rw [h0] at e1; cases e1
    · exact e2
  rw [h0, hF, errV_0] at HST
  have HON := hideIt (on_any ⟨wr, bs⟩ n)
  obtain ⟨n', hn'⟩ : ∃ n', n' = Chg.on ⟨wr, bs⟩ n := ⟨_, rfl⟩
  rw [← hn'] at HON ⊢
  unfold Chg.agg at HON
  rw [show n.agg = .agg #[.bool n.ft, .string n.fb, .bool n.dt, .string n.db] from rfl] at HON
  dsimp only at HON
  have hXB : w.heap.size ≠ B := by omega
  have HBA := hideIt hba
  have HX0 := hideIt hX0
  clear h hD0 hn' hF h0 hba hX0
  go_enter Tryz.func65, Tryz.ntmps65
  go_wp2_with fail
  refine HST.out.mono ?_
  rintro e w1 ⟨rfl, h1, ho1⟩
  have hX1' : ChgAt w1 w.heap.size wr bs := HX0.out.block (ho1.1.block w.heap.size (by simp) (fun e => hXB (Option.some.inj e)))
  have HX1 := hideIt hX1'
  have hX1 := hX1'.1
  have hB1 := h1.lt
  have HG1 := hideIt (grown_trans ⟨HBA.out.os, HBA.out.tape, HBA.out.output, HBA.out.size, fun j hj _ => HBA.out.block j hj⟩ ho1.1)
  obtain ⟨a0, a1, a2, a3⟩ := h1.now
  obtain ⟨_, x0, x1⟩ := hX1'
  have H1 := hideIt h1
  clear h1 ho1 HST HBA HX0
  as_aux_lemma =>
  go_wp2_with fail
  refine wp_region_held_drew (S := fun _ => True) (by kernel_rfl) trivial (fun hHeld => ?_)
  refine wpAnyH_take (i := 0) (oi := { dst := some 11, op := Op.move (Operand.tmp 0), type := 33, pos := "disk.go:121", after := #[], guard := none }) (v := ?v1x0) rfl (by kernel_rfl) (by kernel_rfl) (by kernel_rfl) (fun _ _ _ h => h) (Or.inl ⟨by rfl, ?h1x0⟩) (by assumption) ?r1x0
  case h1x0 =>
    intro w' hSw
    (try dsimp only at hSw)
    go_simp
    first | done | with_reducible rfl | rfl
  (try simp only [Act.put, List.setIfInBounds_toArray, List.set_cons_zero, List.set_cons_succ])
  refine wpAnyH_take (i := 2) (oi := { dst := some 13, op := Op.move (Operand.tmp 0), type := 33, pos := "disk.go:121", after := #[], guard := none }) (v := ?v2x2) rfl (by kernel_rfl) (by kernel_rfl) (by kernel_rfl) (fun _ _ _ h => h) (Or.inl ⟨by rfl, ?h2x2⟩) (by assumption) ?r2x2
  case h2x2 =>
    intro w' hSw
    (try dsimp only at hSw)
    go_simp
    first | done | with_reducible rfl | rfl
  (try simp only [Act.put, List.setIfInBounds_toArray, List.set_cons_zero, List.set_cons_succ])
  refine wpAnyH_take (i := 3) (oi := { dst := some 14, op := Op.nilCheck (Operand.tmp 13), type := 0, pos := "disk.go:121", after := #[{ on := 2, ground := Ground.data }], guard := none }) (v := ?v3x3) rfl (by kernel_rfl) (by kernel_rfl) (by kernel_rfl) (fun _ _ _ h => h) (Or.inl ⟨by rfl, ?h3x3⟩) (by assumption) ?r3x3
  case h3x3 =>
    intro w' hSw
    (try dsimp only at hSw)
    go_simp
    first | done | with_reducible rfl | rfl
  (try simp only [Act.put, List.setIfInBounds_toArray, List.set_cons_zero, List.set_cons_succ])
  refine wpAnyH_take (i := 4) (oi := { dst := some 15, op := Op.fieldAddr 93 (Operand.tmp 14) 0, type := 0, pos := "disk.go:121", after := #[{ on := 3, ground := Ground.data }], guard := none }) (v := ?v4x4) rfl (by kernel_rfl) (by kernel_rfl) (by kernel_rfl) (fun _ _ _ h => h) (Or.inl ⟨by rfl, ?h4x4⟩) (by assumption) ?r4x4
  case h4x4 =>
    intro w' hSw
    (try dsimp only at hSw)
    go_simp
    first | done | with_reducible rfl | rfl
  (try simp only [Act.put, List.setIfInBounds_toArray, List.set_cons_zero, List.set_cons_succ])
  refine wpAnyH_ready (rs := [1, 5]) (by kernel_rfl) (by simp) (AllReadyH.cons rfl (fun K hK => ?_) (AllReadyH.cons rfl (fun K hK => ?_) AllReadyH.nil))
  · go_simp
    refine hK.out _ _ trivial (fun hHeld => ?_)
    clear hK K
    (try simp only [Act.put, List.setIfInBounds_toArray, List.set_cons_zero, List.set_cons_succ])
    refine wpAnyH_ready (rs := [5]) (by kernel_rfl) (by simp) (AllReadyH.cons rfl (fun K hK => ?_) AllReadyH.nil)
    go_simp
    refine hK.out _ _ trivial (fun hHeld => ?_)
    clear hK K
    (try simp only [Act.put, List.setIfInBounds_toArray, List.set_cons_zero, List.set_cons_succ])
    refine wpAnyH_ready (rs := [6]) (by kernel_rfl) (by simp) (AllReadyH.cons rfl (fun K hK => ?_) AllReadyH.nil)
    go_simp
    go_wp2_with fail
    refine (HON.out _).mono ?_
    rintro e w5 ⟨rfl, hb5⟩
    have hD5 := H1.out.block (w' := w5) (hb5.block B hB1)
    have HX5 := hideIt (show ChgAt w5 w.heap.size wr bs from HX1.out.block (hb5.block w.heap.size hX1))
    have HS5 := hideIt hb5.size
    have HG5 := hideIt (grown_belowV HG1.out (below_of_drewD hb5))
    go_wp2_with fail
    refine hK.out _ _ trivial (fun hHeld => ?_)
    clear hK K
    refine wpAnyH_take (i := 7) (oi := { dst := some 18, op := Op.nilCheck (Operand.tmp 11), type := 0, pos := "disk.go:121", after := #[{ on := 0, ground := Ground.data }, { on := 0, ground := Ground.phase }, { on := 1, ground := Ground.phase }, { on := 2, ground := Ground.phase }, { on := 3, ground := Ground.phase }, { on := 4, ground := Ground.phase }, { on := 5, ground := Ground.phase }, { on := 6, ground := Ground.phase }], guard := none }) (v := ?v5x7) rfl (by kernel_rfl) (by kernel_rfl) (by kernel_rfl) (fun _ _ _ h => h) (Or.inl ⟨by rfl, ?h5x7⟩) (by assumption) ?r5x7
    case h5x7 =>
      intro w' hSw
      (try dsimp only at hSw)
      go_simp
      first | done | with_reducible rfl | rfl
    (try simp only [Act.put, List.setIfInBounds_toArray, List.set_cons_zero, List.set_cons_succ])
    refine wpAnyH_take (i := 8) (oi := { dst := some 19, op := Op.fieldAddr 93 (Operand.tmp 18) 0, type := 0, pos := "disk.go:121", after := #[{ on := 7, ground := Ground.data }, { on := 0, ground := Ground.phase }, { on := 1, ground := Ground.phase }, { on := 2, ground := Ground.phase }, { on := 3, ground := Ground.phase }, { on := 4, ground := Ground.phase }, { on := 5, ground := Ground.phase }, { on := 6, ground := Ground.phase }], guard := none }) (v := ?v6x8) rfl (by kernel_rfl) (by kernel_rfl) (by kernel_rfl) (fun _ _ _ h => h) (Or.inl ⟨by rfl, ?h6x8⟩) (by assumption) ?r6x8
    case h6x8 =>
      intro w' hSw
      (try dsimp only at hSw)
      go_simp
      first | done | with_reducible rfl | rfl
    (try simp only [Act.put, List.setIfInBounds_toArray, List.set_cons_zero, List.set_cons_succ])
    obtain ⟨s0, s1, s2, s3⟩ := hD5.now
    have HD6 := hideIt (hD5.setNow n')
    have HX6 := hideIt (show ChgAt (putS w5 B 0 n') w.heap.size wr bs from HX5.out.block ((OnlyB.refl B w5).putS 0 n' |>.1.block w.heap.size (by have := HS5.out; have := hX1; simp at *; omega) (fun e => hXB (Option.some.inj e))))
    have HG6 := hideIt (show w.grownBy (putS w5 B 0 n') (some B) from grown_trans HG5.out ((OnlyB.refl B w5).putS 0 n').1)
    have HS6 := hideIt (show w.heap.size + 1 ≤ (putS w5 B 0 n').heap.size from by rw [((OnlyB.refl B w5).putS 0 n').2]; have := HS5.out; have := hX1; simp at *; omega)
    refine wpAnyH_ready (rs := [9]) (by kernel_rfl) (by simp) (AllReadyH.cons rfl (fun K hK => ?_) AllReadyH.nil)
    rw [if_pos (by rfl)]
    refine wp_storeS s0 s1 s2 s3 (hD5.frozen 0) (hD5.frozen 1) (hD5.frozen 2) (hD5.frozen 3) rfl rfl ?_
    refine hK.out _ _ trivial (fun hHeld => ?_)
    clear hK K hD5 HX5 HG5 s0 s1 s2 s3 H1 HX1 HG1 hb5 HS5 HON
    generalize putS w5 B 0 n' = w6 at *
    refine wpAnyH_done (by kernel_rfl) ?_ _
    as_aux_lemma =>
    obtain ⟨i0, hi, hz0, hz1, hz2⟩ := info_partsV infoChg
    obtain ⟨x8, _, _⟩ := HD6.out.rest
    have HB6 := hideIt HD6.out.lt
    have hb7 := (Below.refl w6.heap.size w6).alloc (Nat.le_refl _) (.cells #[.bool wr, .string bs] 111)
    have x8' := (hb7.cell (p := ⟨B, 8, none⟩) HB6.out).trans x8
    have HXa := hideIt (HX6.out.block (hb7.block w.heap.size HX6.out.1))
    have HA7 := hideIt (show ∀ j, j < w6.heap.size → (w6.alloc (.cells #[.bool wr, .string bs] 111)).drew.heap[j]? = w6.heap[j]? from fun j hj => hb7.block j hj)
    have HN7 := hideIt (show ∀ j u, [Value.bool wr, Value.string bs][j]? = some u → (w6.alloc (.cells #[.bool wr, .string bs] 111)).drew.cell? ((⟨w6.heap.size, 0, none⟩ : Addr).add j) = some u from new_chg w6 wr bs _)
    have HS7 := hideIt (show w.heap.size ≤ (w6.alloc (.cells #[.bool wr, .string bs] 111)).drew.heap.size from by have := HS6.out; simp [World.drew]; omega)
    clear hb7 a0 a1 a2 a3 x0 x1
    go_wp2_with fail
    refine wp_region_held_drew (S := fun w' => w'.cell? ⟨w.heap.size, 0, none⟩ = some (.bool wr) ∧ w'.cell? ⟨w.heap.size, 1, none⟩ = some (.string bs)) (by kernel_rfl) HX6.out.2 (fun hHeld => ?_)
    refine wpAnyH_take (i := 0) (oi := { dst := some 20, op := Op.move (Operand.tmp 0), type := 33, pos := "disk.go:122", after := #[], guard := none }) (v := ?v7x0) rfl (by kernel_rfl) (by kernel_rfl) (by kernel_rfl) (fun _ _ _ h => h) (Or.inl ⟨by rfl, ?h7x0⟩) (by assumption) ?r7x0
    case h7x0 =>
      intro w' hSw
      (try dsimp only at hSw)
      go_simp
      first | done | with_reducible rfl | rfl
    (try simp only [Act.put, List.setIfInBounds_toArray, List.set_cons_zero, List.set_cons_succ])
    refine wpAnyH_take (i := 1) (oi := { dst := some 21, op := Op.move (Operand.tmp 0), type := 33, pos := "disk.go:122", after := #[], guard := none }) (v := ?v8x1) rfl (by kernel_rfl) (by kernel_rfl) (by kernel_rfl) (fun _ _ _ h => h) (Or.inl ⟨by rfl, ?h8x1⟩) (by assumption) ?r8x1
    case h8x1 =>
      intro w' hSw
      (try dsimp only at hSw)
      go_simp
      first | done | with_reducible rfl | rfl
    (try simp only [Act.put, List.setIfInBounds_toArray, List.set_cons_zero, List.set_cons_succ])
    refine wpAnyH_take (i := 2) (oi := { dst := some 22, op := Op.nilCheck (Operand.tmp 21), type := 0, pos := "disk.go:122", after := #[{ on := 1, ground := Ground.data }], guard := none }) (v := ?v9x2) rfl (by kernel_rfl) (by kernel_rfl) (by kernel_rfl) (fun _ _ _ h => h) (Or.inl ⟨by rfl, ?h9x2⟩) (by assumption) ?r9x2
    case h9x2 =>
      intro w' hSw
      (try dsimp only at hSw)
      go_simp
      first | done | with_reducible rfl | rfl
    (try simp only [Act.put, List.setIfInBounds_toArray, List.set_cons_zero, List.set_cons_succ])
    refine wpAnyH_take (i := 3) (oi := { dst := some 23, op := Op.fieldAddr 93 (Operand.tmp 22) 2, type := 0, pos := "disk.go:122", after := #[{ on := 2, ground := Ground.data }], guard := none }) (v := ?v10x3) rfl (by kernel_rfl) (by kernel_rfl) (by kernel_rfl) (fun _ _ _ h => h) (Or.inl ⟨by rfl, ?h10x3⟩) (by assumption) ?r10x3
    case h10x3 =>
      intro w' hSw
      (try dsimp only at hSw)
      go_simp
      first | done | with_reducible rfl | rfl
    (try simp only [Act.put, List.setIfInBounds_toArray, List.set_cons_zero, List.set_cons_succ])
    refine wpAnyH_take (i := 5) (oi := { dst := some 25, op := Op.load 111 (Operand.tmp 3), type := 111, pos := "disk.go:122", after := #[], guard := none }) (v := ?v11x5) rfl (by kernel_rfl) (by kernel_rfl) (by kernel_rfl) (fun _ _ _ h => h) (Or.inl ⟨by rfl, ?h11x5⟩) (by assumption) ?r11x5
    case h11x5 =>
      intro w' hSw
      (try dsimp only at hSw)
      go_simp
      first | done | with_reducible rfl | rfl
    (try simp only [Act.put, List.setIfInBounds_toArray, List.set_cons_zero, List.set_cons_succ])
    refine wpAnyH_ready (rs := [4, 6]) (by kernel_rfl) (by simp) (AllReadyH.cons rfl (fun K hK => ?_) (AllReadyH.cons rfl (fun K hK => ?_) AllReadyH.nil))
    · go_simp
      refine hK.out _ _ HX6.out.2 (fun hHeld => ?_)
      clear hK K
      (try simp only [Act.put, List.setIfInBounds_toArray, List.set_cons_zero, List.set_cons_succ])
      refine wpAnyH_ready (rs := [6]) (by kernel_rfl) (by simp) (AllReadyH.cons rfl (fun K hK => ?_) AllReadyH.nil)
      go_simp
      refine hK.out _ _ HXa.out.2 (fun hHeld => ?_)
      clear hK K
      (try simp only [Act.put, List.setIfInBounds_toArray, List.set_cons_zero, List.set_cons_succ])
      refine wpAnyH_ready (rs := [7]) (by kernel_rfl) (by simp) (AllReadyH.cons rfl (fun K hK => ?_) AllReadyH.nil)
      rw [if_pos (by rfl)]
      refine wp_append_own (o := { dst := some 27, op := Op.call { callee := Callee.builtin Builtin.append, args := #[Operand.tmp 24, Operand.tmp 26], argTypes := #[91, 91] }, type := 91, pos := "disk.go:122", after := #[{ on := 4, ground := Ground.data }, { on := 6, ground := Ground.data }], guard := none }) _ _ _ 91 rfl w.heap.size 111 i0 (.agg #[.bool false, .string ByteArray.empty]) 2 24 Tryz.underlying91 hi hz0 hz1 hz2 rfl (by decide) (.slice none 0 0) 0 [] rfl (World.ownsRow_nil _ _ _ _) ⟨w6.heap.size, 0, none⟩ 1 1 [.bool wr, .string bs] rfl rfl HN7.out (by intro u hu; simp at hu; rcases hu with rfl | rfl <;> rfl) (by unfold maxLen; omega) (by omega) HS7.out ?_
      intro v8 w8 hown8 hgr8 _
      obtain ⟨g8, cap8, rfl, hg8, hc8⟩ := chg_own hown8
      have hbk : ∀ j, j < w6.heap.size → w8.heap[j]? = w6.heap[j]? := fun j hj => (hgr8.block j (by simp [World.drew]; omega) (by simp [Value.ownBlock])).trans (HA7.out j hj)
      have hD8 := HD6.out.block (w' := w8) (hbk B HB6.out)
      have hX8 := HX6.out.block (w' := w8) (hbk w.heap.size HX6.out.1)
      have HG8 := hideIt (show w.grownBy w8 (some B) from grown_trans HG6.out ⟨hgr8.os, hgr8.tape, hgr8.output, Nat.le_trans (by simp [World.drew]) hgr8.size, fun j hj _ => hbk j hj⟩)
      clear hbk hown8 hgr8 HN7 HS7 HA7
      refine hK.out _ _ hX8.2 (fun hHeld => ?_)
      clear hK K
      refine wpAnyH_take (i := 8) (oi := { dst := some 28, op := Op.nilCheck (Operand.tmp 20), type := 0, pos := "disk.go:122", after := #[{ on := 0, ground := Ground.data }, { on := 0, ground := Ground.phase }, { on := 1, ground := Ground.phase }, { on := 2, ground := Ground.phase }, { on := 3, ground := Ground.phase }, { on := 4, ground := Ground.phase }, { on := 5, ground := Ground.phase }, { on := 6, ground := Ground.phase }, { on := 7, ground := Ground.phase }], guard := none }) (v := ?v12x8) rfl (by kernel_rfl) (by kernel_rfl) (by kernel_rfl) (fun _ _ _ h => h) (Or.inl ⟨by rfl, ?h12x8⟩) (by assumption) ?r12x8
      case h12x8 =>
        intro w' hSw
        (try dsimp only at hSw)
        go_simp
        first | done | with_reducible rfl | rfl
      (try simp only [Act.put, List.setIfInBounds_toArray, List.set_cons_zero, List.set_cons_succ])
      refine wpAnyH_take (i := 9) (oi := { dst := some 29, op := Op.fieldAddr 93 (Operand.tmp 28) 2, type := 0, pos := "disk.go:122", after := #[{ on := 8, ground := Ground.data }, { on := 0, ground := Ground.phase }, { on := 1, ground := Ground.phase }, { on := 2, ground := Ground.phase }, { on := 3, ground := Ground.phase }, { on := 4, ground := Ground.phase }, { on := 5, ground := Ground.phase }, { on := 6, ground := Ground.phase }, { on := 7, ground := Ground.phase }], guard := none }) (v := ?v13x9) rfl (by kernel_rfl) (by kernel_rfl) (by kernel_rfl) (fun _ _ _ h => h) (Or.inl ⟨by rfl, ?h13x9⟩) (by assumption) ?r13x9
      case h13x9 =>
        intro w' hSw
        (try dsimp only at hSw)
        go_simp
        first | done | with_reducible rfl | rfl
      (try simp only [Act.put, List.setIfInBounds_toArray, List.set_cons_zero, List.set_cons_succ])
      obtain ⟨q8, _, _⟩ := hD8.rest
      have r8 := hD8.frozen 8
      have HD9 := hideIt (hD8.set8 (.slice (some ⟨g8, 0, none⟩) 1 cap8))
      have HO9 := hideIt ((OnlyB.refl B w8).set 8 (.slice (some ⟨g8, 0, none⟩) 1 cap8))
      have HC9 := hideIt (hc8.block (HO9.out.1.block g8 hc8.1 (fun e => by have := Option.some.inj e; omega)))
      have HX9 := hideIt (hX8.block (HO9.out.1.block w.heap.size hX8.1 (fun e => hXB (Option.some.inj e))))
      have HG9 := hideIt (grown_trans HG8.out HO9.out.1)
      clear hD8 hX8 hc8 HG8 HO9
      refine wpAnyH_ready (rs := [10]) (by kernel_rfl) (by simp) (AllReadyH.cons rfl (fun K hK => ?_) AllReadyH.nil)
      go_simp
      refine hK.out _ _ HX9.out.2 (fun hHeld => ?_)
      clear hK K
      (try simp only [Act.put, List.setIfInBounds_toArray, List.set_cons_zero, List.set_cons_succ])
      refine wpAnyH_done (by kernel_rfl) ?_ _
      go_wp2_with fail
      go_ret
      exact ⟨rfl, ⟨g8, cap8, HD9.out, hg8, HC9.out⟩, HG9.out⟩
    · go_simp
      refine hK.out _ _ HXa.out.2 (fun hHeld => ?_)
      clear hK K
      (try simp only [Act.put, List.setIfInBounds_toArray, List.set_cons_zero, List.set_cons_succ])
      refine wpAnyH_ready (rs := [4]) (by kernel_rfl) (by simp) (AllReadyH.cons rfl (fun K hK => ?_) AllReadyH.nil)
      go_simp
      refine hK.out _ _ HXa.out.2 (fun hHeld => ?_)
      clear hK K
      (try simp only [Act.put, List.setIfInBounds_toArray, List.set_cons_zero, List.set_cons_succ])
      refine wpAnyH_ready (rs := [7]) (by kernel_rfl) (by simp) (AllReadyH.cons rfl (fun K hK => ?_) AllReadyH.nil)
      rw [if_pos (by rfl)]
      refine wp_append_own (o := { dst := some 27, op := Op.call { callee := Callee.builtin Builtin.append, args := #[Operand.tmp 24, Operand.tmp 26], argTypes := #[91, 91] }, type := 91, pos := "disk.go:122", after := #[{ on := 4, ground := Ground.data }, { on := 6, ground := Ground.data }], guard := none }) _ _ _ 91 rfl w.heap.size 111 i0 (.agg #[.bool false, .string ByteArray.empty]) 2 24 Tryz.underlying91 hi hz0 hz1 hz2 rfl (by decide) (.slice none 0 0) 0 [] rfl (World.ownsRow_nil _ _ _ _) ⟨w6.heap.size, 0, none⟩ 1 1 [.bool wr, .string bs] rfl rfl HN7.out (by intro u hu; simp at hu; rcases hu with rfl | rfl <;> rfl) (by unfold maxLen; omega) (by omega) HS7.out ?_
      intro v8 w8 hown8 hgr8 _
      obtain ⟨g8, cap8, rfl, hg8, hc8⟩ := chg_own hown8
      have hbk : ∀ j, j < w6.heap.size → w8.heap[j]? = w6.heap[j]? := fun j hj => (hgr8.block j (by simp [World.drew]; omega) (by simp [Value.ownBlock])).trans (HA7.out j hj)
      have hD8 := HD6.out.block (w' := w8) (hbk B HB6.out)
      have hX8 := HX6.out.block (w' := w8) (hbk w.heap.size HX6.out.1)
      have HG8 := hideIt (show w.grownBy w8 (some B) from grown_trans HG6.out ⟨hgr8.os, hgr8.tape, hgr8.output, Nat.le_trans (by simp [World.drew]) hgr8.size, fun j hj _ => hbk j hj⟩)
      clear hbk hown8 hgr8 HN7 HS7 HA7
      refine hK.out _ _ hX8.2 (fun hHeld => ?_)
      clear hK K
      refine wpAnyH_take (i := 8) (oi := { dst := some 28, op := Op.nilCheck (Operand.tmp 20), type := 0, pos := "disk.go:122", after := #[{ on := 0, ground := Ground.data }, { on := 0, ground := Ground.phase }, { on := 1, ground := Ground.phase }, { on := 2, ground := Ground.phase }, { on := 3, ground := Ground.phase }, { on := 4, ground := Ground.phase }, { on := 5, ground := Ground.phase }, { on := 6, ground := Ground.phase }, { on := 7, ground := Ground.phase }], guard := none }) (v := ?v14x8) rfl (by kernel_rfl) (by kernel_rfl) (by kernel_rfl) (fun _ _ _ h => h) (Or.inl ⟨by rfl, ?h14x8⟩) (by assumption) ?r14x8
      case h14x8 =>
        intro w' hSw
        (try dsimp only at hSw)
        go_simp
        first | done | with_reducible rfl | rfl
      (try simp only [Act.put, List.setIfInBounds_toArray, List.set_cons_zero, List.set_cons_succ])
      refine wpAnyH_take (i := 9) (oi := { dst := some 29, op := Op.fieldAddr 93 (Operand.tmp 28) 2, type := 0, pos := "disk.go:122", after := #[{ on := 8, ground := Ground.data }, { on := 0, ground := Ground.phase }, { on := 1, ground := Ground.phase }, { on := 2, ground := Ground.phase }, { on := 3, ground := Ground.phase }, { on := 4, ground := Ground.phase }, { on := 5, ground := Ground.phase }, { on := 6, ground := Ground.phase }, { on := 7, ground := Ground.phase }], guard := none }) (v := ?v15x9) rfl (by kernel_rfl) (by kernel_rfl) (by kernel_rfl) (fun _ _ _ h => h) (Or.inl ⟨by rfl, ?h15x9⟩) (by assumption) ?r15x9
      case h15x9 =>
        intro w' hSw
        (try dsimp only at hSw)
        go_simp
        first | done | with_reducible rfl | rfl
      (try simp only [Act.put, List.setIfInBounds_toArray, List.set_cons_zero, List.set_cons_succ])
      obtain ⟨q8, _, _⟩ := hD8.rest
      have r8 := hD8.frozen 8
      have HD9 := hideIt (hD8.set8 (.slice (some ⟨g8, 0, none⟩) 1 cap8))
      have HO9 := hideIt ((OnlyB.refl B w8).set 8 (.slice (some ⟨g8, 0, none⟩) 1 cap8))
      have HC9 := hideIt (hc8.block (HO9.out.1.block g8 hc8.1 (fun e => by have := Option.some.inj e; omega)))
      have HX9 := hideIt (hX8.block (HO9.out.1.block w.heap.size hX8.1 (fun e => hXB (Option.some.inj e))))
      have HG9 := hideIt (grown_trans HG8.out HO9.out.1)
      clear hD8 hX8 hc8 HG8 HO9
      refine wpAnyH_ready (rs := [10]) (by kernel_rfl) (by simp) (AllReadyH.cons rfl (fun K hK => ?_) AllReadyH.nil)
      go_simp
      refine hK.out _ _ HX9.out.2 (fun hHeld => ?_)
      clear hK K
      (try simp only [Act.put, List.setIfInBounds_toArray, List.set_cons_zero, List.set_cons_succ])
      refine wpAnyH_done (by kernel_rfl) ?_ _
      go_wp2_with fail
      go_ret
      exact ⟨rfl, ⟨g8, cap8, HD9.out, hg8, HC9.out⟩, HG9.out⟩
  · go_simp
    refine hK.out _ _ trivial (fun hHeld => ?_)
    clear hK K
    (try simp only [Act.put, List.setIfInBounds_toArray, List.set_cons_zero, List.set_cons_succ])
    refine wpAnyH_ready (rs := [1]) (by kernel_rfl) (by simp) (AllReadyH.cons rfl (fun K hK => ?_) AllReadyH.nil)
    go_simp
    refine hK.out _ _ trivial (fun hHeld => ?_)
    clear hK K
    (try simp only [Act.put, List.setIfInBounds_toArray, List.set_cons_zero, List.set_cons_succ])
    refine wpAnyH_ready (rs := [6]) (by kernel_rfl) (by simp) (AllReadyH.cons rfl (fun K hK => ?_) AllReadyH.nil)
    go_simp
    go_wp2_with fail
    refine (HON.out _).mono ?_
    rintro e w5 ⟨rfl, hb5⟩
    have hD5 := H1.out.block (w' := w5) (hb5.block B hB1)
    have HX5 := hideIt (show ChgAt w5 w.heap.size wr bs from HX1.out.block (hb5.block w.heap.size hX1))
    have HS5 := hideIt hb5.size
    have HG5 := hideIt (grown_belowV HG1.out (below_of_drewD hb5))
    go_wp2_with fail
    refine hK.out _ _ trivial (fun hHeld => ?_)
    clear hK K
    refine wpAnyH_take (i := 7) (oi := { dst := some 18, op := Op.nilCheck (Operand.tmp 11), type := 0, pos := "disk.go:121", after := #[{ on := 0, ground := Ground.data }, { on := 0, ground := Ground.phase }, { on := 1, ground := Ground.phase }, { on := 2, ground := Ground.phase }, { on := 3, ground := Ground.phase }, { on := 4, ground := Ground.phase }, { on := 5, ground := Ground.phase }, { on := 6, ground := Ground.phase }], guard := none }) (v := ?v16x7) rfl (by kernel_rfl) (by kernel_rfl) (by kernel_rfl) (fun _ _ _ h => h) (Or.inl ⟨by rfl, ?h16x7⟩) (by assumption) ?r16x7
    case h16x7 =>
      intro w' hSw
      (try dsimp only at hSw)
      go_simp
      first | done | with_reducible rfl | rfl
    (try simp only [Act.put, List.setIfInBounds_toArray, List.set_cons_zero, List.set_cons_succ])
    refine wpAnyH_take (i := 8) (oi := { dst := some 19, op := Op.fieldAddr 93 (Operand.tmp 18) 0, type := 0, pos := "disk.go:121", after := #[{ on := 7, ground := Ground.data }, { on := 0, ground := Ground.phase }, { on := 1, ground := Ground.phase }, { on := 2, ground := Ground.phase }, { on := 3, ground := Ground.phase }, { on := 4, ground := Ground.phase }, { on := 5, ground := Ground.phase }, { on := 6, ground := Ground.phase }], guard := none }) (v := ?v17x8) rfl (by kernel_rfl) (by kernel_rfl) (by kernel_rfl) (fun _ _ _ h => h) (Or.inl ⟨by rfl, ?h17x8⟩) (by assumption) ?r17x8
    case h17x8 =>
      intro w' hSw
      (try dsimp only at hSw)
      go_simp
      first | done | with_reducible rfl | rfl
    (try simp only [Act.put, List.setIfInBounds_toArray, List.set_cons_zero, List.set_cons_succ])
    obtain ⟨s0, s1, s2, s3⟩ := hD5.now
    have HD6 := hideIt (hD5.setNow n')
    have HX6 := hideIt (show ChgAt (putS w5 B 0 n') w.heap.size wr bs from HX5.out.block ((OnlyB.refl B w5).putS 0 n' |>.1.block w.heap.size (by have := HS5.out; have := hX1; simp at *; omega) (fun e => hXB (Option.some.inj e))))
    have HG6 := hideIt (show w.grownBy (putS w5 B 0 n') (some B) from grown_trans HG5.out ((OnlyB.refl B w5).putS 0 n').1)
    have HS6 := hideIt (show w.heap.size + 1 ≤ (putS w5 B 0 n').heap.size from by rw [((OnlyB.refl B w5).putS 0 n').2]; have := HS5.out; have := hX1; simp at *; omega)
    refine wpAnyH_ready (rs := [9]) (by kernel_rfl) (by simp) (AllReadyH.cons rfl (fun K hK => ?_) AllReadyH.nil)
    rw [if_pos (by rfl)]
    refine wp_storeS s0 s1 s2 s3 (hD5.frozen 0) (hD5.frozen 1) (hD5.frozen 2) (hD5.frozen 3) rfl rfl ?_
    refine hK.out _ _ trivial (fun hHeld => ?_)
    clear hK K hD5 HX5 HG5 s0 s1 s2 s3 H1 HX1 HG1 hb5 HS5 HON
    generalize putS w5 B 0 n' = w6 at *
    refine wpAnyH_done (by kernel_rfl) ?_ _
    as_aux_lemma =>
    obtain ⟨i0, hi, hz0, hz1, hz2⟩ := info_partsV infoChg
    obtain ⟨x8, _, _⟩ := HD6.out.rest
    have HB6 := hideIt HD6.out.lt
    have hb7 := (Below.refl w6.heap.size w6).alloc (Nat.le_refl _) (.cells #[.bool wr, .string bs] 111)
    have x8' := (hb7.cell (p := ⟨B, 8, none⟩) HB6.out).trans x8
    have HXa := hideIt (HX6.out.block (hb7.block w.heap.size HX6.out.1))
    have HA7 := hideIt (show ∀ j, j < w6.heap.size → (w6.alloc (.cells #[.bool wr, .string bs] 111)).drew.heap[j]? = w6.heap[j]? from fun j hj => hb7.block j hj)
    have HN7 := hideIt (show ∀ j u, [Value.bool wr, Value.string bs][j]? = some u → (w6.alloc (.cells #[.bool wr, .string bs] 111)).drew.cell? ((⟨w6.heap.size, 0, none⟩ : Addr).add j) = some u from new_chg w6 wr bs _)
    have HS7 := hideIt (show w.heap.size ≤ (w6.alloc (.cells #[.bool wr, .string bs] 111)).drew.heap.size from by have := HS6.out; simp [World.drew]; omega)
    clear hb7 a0 a1 a2 a3 x0 x1
    go_wp2_with fail
    refine wp_region_held_drew (S := fun w' => w'.cell? ⟨w.heap.size, 0, none⟩ = some (.bool wr) ∧ w'.cell? ⟨w.heap.size, 1, none⟩ = some (.string bs)) (by kernel_rfl) HX6.out.2 (fun hHeld => ?_)
    refine wpAnyH_take (i := 0) (oi := { dst := some 20, op := Op.move (Operand.tmp 0), type := 33, pos := "disk.go:122", after := #[], guard := none }) (v := ?v18x0) rfl (by kernel_rfl) (by kernel_rfl) (by kernel_rfl) (fun _ _ _ h => h) (Or.inl ⟨by rfl, ?h18x0⟩) (by assumption) ?r18x0
    case h18x0 =>
      intro w' hSw
      (try dsimp only at hSw)
      go_simp
      first | done | with_reducible rfl | rfl
    (try simp only [Act.put, List.setIfInBounds_toArray, List.set_cons_zero, List.set_cons_succ])
    refine wpAnyH_take (i := 1) (oi := { dst := some 21, op := Op.move (Operand.tmp 0), type := 33, pos := "disk.go:122", after := #[], guard := none }) (v := ?v19x1) rfl (by kernel_rfl) (by kernel_rfl) (by kernel_rfl) (fun _ _ _ h => h) (Or.inl ⟨by rfl, ?h19x1⟩) (by assumption) ?r19x1
    case h19x1 =>
      intro w' hSw
      (try dsimp only at hSw)
      go_simp
      first | done | with_reducible rfl | rfl
    (try simp only [Act.put, List.setIfInBounds_toArray, List.set_cons_zero, List.set_cons_succ])
    refine wpAnyH_take (i := 2) (oi := { dst := some 22, op := Op.nilCheck (Operand.tmp 21), type := 0, pos := "disk.go:122", after := #[{ on := 1, ground := Ground.data }], guard := none }) (v := ?v20x2) rfl (by kernel_rfl) (by kernel_rfl) (by kernel_rfl) (fun _ _ _ h => h) (Or.inl ⟨by rfl, ?h20x2⟩) (by assumption) ?r20x2
    case h20x2 =>
      intro w' hSw
      (try dsimp only at hSw)
      go_simp
      first | done | with_reducible rfl | rfl
    (try simp only [Act.put, List.setIfInBounds_toArray, List.set_cons_zero, List.set_cons_succ])
    refine wpAnyH_take (i := 3) (oi := { dst := some 23, op := Op.fieldAddr 93 (Operand.tmp 22) 2, type := 0, pos := "disk.go:122", after := #[{ on := 2, ground := Ground.data }], guard := none }) (v := ?v21x3) rfl (by kernel_rfl) (by kernel_rfl) (by kernel_rfl) (fun _ _ _ h => h) (Or.inl ⟨by rfl, ?h21x3⟩) (by assumption) ?r21x3
    case h21x3 =>
      intro w' hSw
      (try dsimp only at hSw)
      go_simp
      first | done | with_reducible rfl | rfl
    (try simp only [Act.put, List.setIfInBounds_toArray, List.set_cons_zero, List.set_cons_succ])
    refine wpAnyH_take (i := 5) (oi := { dst := some 25, op := Op.load 111 (Operand.tmp 3), type := 111, pos := "disk.go:122", after := #[], guard := none }) (v := ?v22x5) rfl (by kernel_rfl) (by kernel_rfl) (by kernel_rfl) (fun _ _ _ h => h) (Or.inl ⟨by rfl, ?h22x5⟩) (by assumption) ?r22x5
    case h22x5 =>
      intro w' hSw
      (try dsimp only at hSw)
      go_simp
      first | done | with_reducible rfl | rfl
    (try simp only [Act.put, List.setIfInBounds_toArray, List.set_cons_zero, List.set_cons_succ])
    refine wpAnyH_ready (rs := [4, 6]) (by kernel_rfl) (by simp) (AllReadyH.cons rfl (fun K hK => ?_) (AllReadyH.cons rfl (fun K hK => ?_) AllReadyH.nil))
    · go_simp
      refine hK.out _ _ HX6.out.2 (fun hHeld => ?_)
      clear hK K
      (try simp only [Act.put, List.setIfInBounds_toArray, List.set_cons_zero, List.set_cons_succ])
      refine wpAnyH_ready (rs := [6]) (by kernel_rfl) (by simp) (AllReadyH.cons rfl (fun K hK => ?_) AllReadyH.nil)
      go_simp
      refine hK.out _ _ HXa.out.2 (fun hHeld => ?_)
      clear hK K
      (try simp only [Act.put, List.setIfInBounds_toArray, List.set_cons_zero, List.set_cons_succ])
      refine wpAnyH_ready (rs := [7]) (by kernel_rfl) (by simp) (AllReadyH.cons rfl (fun K hK => ?_) AllReadyH.nil)
      rw [if_pos (by rfl)]
      refine wp_append_own (o := { dst := some 27, op := Op.call { callee := Callee.builtin Builtin.append, args := #[Operand.tmp 24, Operand.tmp 26], argTypes := #[91, 91] }, type := 91, pos := "disk.go:122", after := #[{ on := 4, ground := Ground.data }, { on := 6, ground := Ground.data }], guard := none }) _ _ _ 91 rfl w.heap.size 111 i0 (.agg #[.bool false, .string ByteArray.empty]) 2 24 Tryz.underlying91 hi hz0 hz1 hz2 rfl (by decide) (.slice none 0 0) 0 [] rfl (World.ownsRow_nil _ _ _ _) ⟨w6.heap.size, 0, none⟩ 1 1 [.bool wr, .string bs] rfl rfl HN7.out (by intro u hu; simp at hu; rcases hu with rfl | rfl <;> rfl) (by unfold maxLen; omega) (by omega) HS7.out ?_
      intro v8 w8 hown8 hgr8 _
      obtain ⟨g8, cap8, rfl, hg8, hc8⟩ := chg_own hown8
      have hbk : ∀ j, j < w6.heap.size → w8.heap[j]? = w6.heap[j]? := fun j hj => (hgr8.block j (by simp [World.drew]; omega) (by simp [Value.ownBlock])).trans (HA7.out j hj)
      have hD8 := HD6.out.block (w' := w8) (hbk B HB6.out)
      have hX8 := HX6.out.block (w' := w8) (hbk w.heap.size HX6.out.1)
      have HG8 := hideIt (show w.grownBy w8 (some B) from grown_trans HG6.out ⟨hgr8.os, hgr8.tape, hgr8.output, Nat.le_trans (by simp [World.drew]) hgr8.size, fun j hj _ => hbk j hj⟩)
      clear hbk hown8 hgr8 HN7 HS7 HA7
      refine hK.out _ _ hX8.2 (fun hHeld => ?_)
      clear hK K
      refine wpAnyH_take (i := 8) (oi := { dst := some 28, op := Op.nilCheck (Operand.tmp 20), type := 0, pos := "disk.go:122", after := #[{ on := 0, ground := Ground.data }, { on := 0, ground := Ground.phase }, { on := 1, ground := Ground.phase }, { on := 2, ground := Ground.phase }, { on := 3, ground := Ground.phase }, { on := 4, ground := Ground.phase }, { on := 5, ground := Ground.phase }, { on := 6, ground := Ground.phase }, { on := 7, ground := Ground.phase }], guard := none }) (v := ?v23x8) rfl (by kernel_rfl) (by kernel_rfl) (by kernel_rfl) (fun _ _ _ h => h) (Or.inl ⟨by rfl, ?h23x8⟩) (by assumption) ?r23x8
      case h23x8 =>
        intro w' hSw
        (try dsimp only at hSw)
        go_simp
        first | done | with_reducible rfl | rfl
      (try simp only [Act.put, List.setIfInBounds_toArray, List.set_cons_zero, List.set_cons_succ])
      refine wpAnyH_take (i := 9) (oi := { dst := some 29, op := Op.fieldAddr 93 (Operand.tmp 28) 2, type := 0, pos := "disk.go:122", after := #[{ on := 8, ground := Ground.data }, { on := 0, ground := Ground.phase }, { on := 1, ground := Ground.phase }, { on := 2, ground := Ground.phase }, { on := 3, ground := Ground.phase }, { on := 4, ground := Ground.phase }, { on := 5, ground := Ground.phase }, { on := 6, ground := Ground.phase }, { on := 7, ground := Ground.phase }], guard := none }) (v := ?v24x9) rfl (by kernel_rfl) (by kernel_rfl) (by kernel_rfl) (fun _ _ _ h => h) (Or.inl ⟨by rfl, ?h24x9⟩) (by assumption) ?r24x9
      case h24x9 =>
        intro w' hSw
        (try dsimp only at hSw)
        go_simp
        first | done | with_reducible rfl | rfl
      (try simp only [Act.put, List.setIfInBounds_toArray, List.set_cons_zero, List.set_cons_succ])
      obtain ⟨q8, _, _⟩ := hD8.rest
      have r8 := hD8.frozen 8
      have HD9 := hideIt (hD8.set8 (.slice (some ⟨g8, 0, none⟩) 1 cap8))
      have HO9 := hideIt ((OnlyB.refl B w8).set 8 (.slice (some ⟨g8, 0, none⟩) 1 cap8))
      have HC9 := hideIt (hc8.block (HO9.out.1.block g8 hc8.1 (fun e => by have := Option.some.inj e; omega)))
      have HX9 := hideIt (hX8.block (HO9.out.1.block w.heap.size hX8.1 (fun e => hXB (Option.some.inj e))))
      have HG9 := hideIt (grown_trans HG8.out HO9.out.1)
      clear hD8 hX8 hc8 HG8 HO9
      refine wpAnyH_ready (rs := [10]) (by kernel_rfl) (by simp) (AllReadyH.cons rfl (fun K hK => ?_) AllReadyH.nil)
      go_simp
      refine hK.out _ _ HX9.out.2 (fun hHeld => ?_)
      clear hK K
      (try simp only [Act.put, List.setIfInBounds_toArray, List.set_cons_zero, List.set_cons_succ])
      refine wpAnyH_done (by kernel_rfl) ?_ _
      go_wp2_with fail
      go_ret
      exact ⟨rfl, ⟨g8, cap8, HD9.out, hg8, HC9.out⟩, HG9.out⟩
    · go_simp
      refine hK.out _ _ HXa.out.2 (fun hHeld => ?_)
      clear hK K
      (try simp only [Act.put, List.setIfInBounds_toArray, List.set_cons_zero, List.set_cons_succ])
      refine wpAnyH_ready (rs := [4]) (by kernel_rfl) (by simp) (AllReadyH.cons rfl (fun K hK => ?_) AllReadyH.nil)
      go_simp
      refine hK.out _ _ HXa.out.2 (fun hHeld => ?_)
      clear hK K
      (try simp only [Act.put, List.setIfInBounds_toArray, List.set_cons_zero, List.set_cons_succ])
      refine wpAnyH_ready (rs := [7]) (by kernel_rfl) (by simp) (AllReadyH.cons rfl (fun K hK => ?_) AllReadyH.nil)
      rw [if_pos (by rfl)]
      refine wp_append_own (o := { dst := some 27, op := Op.call { callee := Callee.builtin Builtin.append, args := #[Operand.tmp 24, Operand.tmp 26], argTypes := #[91, 91] }, type := 91, pos := "disk.go:122", after := #[{ on := 4, ground := Ground.data }, { on := 6, ground := Ground.data }], guard := none }) _ _ _ 91 rfl w.heap.size 111 i0 (.agg #[.bool false, .string ByteArray.empty]) 2 24 Tryz.underlying91 hi hz0 hz1 hz2 rfl (by decide) (.slice none 0 0) 0 [] rfl (World.ownsRow_nil _ _ _ _) ⟨w6.heap.size, 0, none⟩ 1 1 [.bool wr, .string bs] rfl rfl HN7.out (by intro u hu; simp at hu; rcases hu with rfl | rfl <;> rfl) (by unfold maxLen; omega) (by omega) HS7.out ?_
      intro v8 w8 hown8 hgr8 _
      obtain ⟨g8, cap8, rfl, hg8, hc8⟩ := chg_own hown8
      have hbk : ∀ j, j < w6.heap.size → w8.heap[j]? = w6.heap[j]? := fun j hj => (hgr8.block j (by simp [World.drew]; omega) (by simp [Value.ownBlock])).trans (HA7.out j hj)
      have hD8 := HD6.out.block (w' := w8) (hbk B HB6.out)
      have hX8 := HX6.out.block (w' := w8) (hbk w.heap.size HX6.out.1)
      have HG8 := hideIt (show w.grownBy w8 (some B) from grown_trans HG6.out ⟨hgr8.os, hgr8.tape, hgr8.output, Nat.le_trans (by simp [World.drew]) hgr8.size, fun j hj _ => hbk j hj⟩)
      clear hbk hown8 hgr8 HN7 HS7 HA7
      refine hK.out _ _ hX8.2 (fun hHeld => ?_)
      clear hK K
      refine wpAnyH_take (i := 8) (oi := { dst := some 28, op := Op.nilCheck (Operand.tmp 20), type := 0, pos := "disk.go:122", after := #[{ on := 0, ground := Ground.data }, { on := 0, ground := Ground.phase }, { on := 1, ground := Ground.phase }, { on := 2, ground := Ground.phase }, { on := 3, ground := Ground.phase }, { on := 4, ground := Ground.phase }, { on := 5, ground := Ground.phase }, { on := 6, ground := Ground.phase }, { on := 7, ground := Ground.phase }], guard := none }) (v := ?v25x8) rfl (by kernel_rfl) (by kernel_rfl) (by kernel_rfl) (fun _ _ _ h => h) (Or.inl ⟨by rfl, ?h25x8⟩) (by assumption) ?r25x8
      case h25x8 =>
        intro w' hSw
        (try dsimp only at hSw)
        go_simp
        first | done | with_reducible rfl | rfl
      (try simp only [Act.put, List.setIfInBounds_toArray, List.set_cons_zero, List.set_cons_succ])
      refine wpAnyH_take (i := 9) (oi := { dst := some 29, op := Op.fieldAddr 93 (Operand.tmp 28) 2, type := 0, pos := "disk.go:122", after := #[{ on := 8, ground := Ground.data }, { on := 0, ground := Ground.phase }, { on := 1, ground := Ground.phase }, { on := 2, ground := Ground.phase }, { on := 3, ground := Ground.phase }, { on := 4, ground := Ground.phase }, { on := 5, ground := Ground.phase }, { on := 6, ground := Ground.phase }, { on := 7, ground := Ground.phase }], guard := none }) (v := ?v26x9) rfl (by kernel_rfl) (by kernel_rfl) (by kernel_rfl) (fun _ _ _ h => h) (Or.inl ⟨by rfl, ?h26x9⟩) (by assumption) ?r26x9
      case h26x9 =>
        intro w' hSw
        (try dsimp only at hSw)
        go_simp
        first | done | with_reducible rfl | rfl
      (try simp only [Act.put, List.setIfInBounds_toArray, List.set_cons_zero, List.set_cons_succ])
      obtain ⟨q8, _, _⟩ := hD8.rest
      have r8 := hD8.frozen 8
      have HD9 := hideIt (hD8.set8 (.slice (some ⟨g8, 0, none⟩) 1 cap8))
      have HO9 := hideIt ((OnlyB.refl B w8).set 8 (.slice (some ⟨g8, 0, none⟩) 1 cap8))
      have HC9 := hideIt (hc8.block (HO9.out.1.block g8 hc8.1 (fun e => by have := Option.some.inj e; omega)))
      have HX9 := hideIt (hX8.block (HO9.out.1.block w.heap.size hX8.1 (fun e => hXB (Option.some.inj e))))
      have HG9 := hideIt (grown_trans HG8.out HO9.out.1)
      clear hD8 hX8 hc8 HG8 HO9
      refine wpAnyH_ready (rs := [10]) (by kernel_rfl) (by simp) (AllReadyH.cons rfl (fun K hK => ?_) AllReadyH.nil)
      go_simp
      refine hK.out _ _ HX9.out.2 (fun hHeld => ?_)
      clear hK K
      (try simp only [Act.put, List.setIfInBounds_toArray, List.set_cons_zero, List.set_cons_succ])
      refine wpAnyH_done (by kernel_rfl) ?_ _
      go_wp2_with fail
      go_ret
      exact ⟨rfl, ⟨g8, cap8, HD9.out, hg8, HC9.out⟩, HG9.out⟩
end Go.Proofs.YtlljniaobbbjgaaGreatDoor

