/- 'EngineSays': the loop that puts what was started in its place. -/
import Derived.Test.YthekalhceamcoaaRN5
namespace Go.Proofs.Ythekalhceamcoaa
open Go.RowKit
/-- The bodies of all loops, the outer ones first. -/
def loopsOf : Code → List Code
  | .loop c => c :: loopsOf c
  | .seq a b => loopsOf a ++ loopsOf b
  | .cond _ a b => loopsOf a ++ loopsOf b
  | .block _ c => loopsOf c
  | .scope c => loopsOf c
  | _ => []
/-- A frame of which some slots hold whatever they hold. -/
def Fr (G : (Nat → Value) → Act) (P : (Nat → Value) → World → Prop) (a : Act) (w : World) : Prop := ∃ F, a = G F ∧ P F w
theorem Fr.mk {G : (Nat → Value) → Act} {P : (Nat → Value) → World → Prop} {a : Act} {w : World} (h : a = G (fun n => a.tmps.getD n undef)) (hP : P (fun n => a.tmps.getD n undef) w) : Fr G P a w := ⟨_, h, hP⟩
theorem row_drew {base : Nat} {W : World} {v : Value} {ys : List RV} (h : RRow base W v ys) : RRow base W.drew v ys := h
theorem kint_drew {w W : World} (h : KInt w W) : KInt w W.drew := h
/-- A piece of code that is left by one exit alone. -/
def ExitAt (n : Nat) (R : Act → World → Prop) : Exit → Act → World → Prop
  | .exit m, a, w => m = n ∧ R a w
  | _, _, _ => False
def NormalAt (R : Act → World → Prop) : Exit → Act → World → Prop
  | .normal, a, w => R a w
  | _, _, _ => False
theorem wp_exitAt {P : Program} {c : Code} {n : Nat} {R : Act → World → Prop} {Q : Exit → Act → World → Prop} {a : Act} {w : World} (h : Code.wp P c (ExitAt n R) a w) (hq : ∀ a w, R a w → Q (.exit n) a w) : Code.wp P c Q a w :=
  wp_mono h fun e a w h2 => by
    cases e with
    | exit m => exact h2.1 ▸ hq _ _ h2.2
    | _ => exact h2.elim
theorem wp_normalAt {P : Program} {c : Code} {R : Act → World → Prop} {Q : Exit → Act → World → Prop} {a : Act} {w : World} (h : Code.wp P c (NormalAt R) a w) (hq : ∀ a w, R a w → Q .normal a w) : Code.wp P c Q a w :=
  wp_mono h fun e a w h => by
    cases e with
    | normal => exact hq _ _ h
    | _ => exact h.elim
/-- Four cells that are written one behind the other: what lies at the next one. -/
theorem four_mid {W : World} {g i : Nat} {x1 x2 x3 : Value} (h1 : W.cell? ⟨g, i + 1, none⟩ = some x1) (h2 : W.cell? ⟨g, i + 2, none⟩ = some x2) (h3 : W.cell? ⟨g, i + 3, none⟩ = some x3) (f1 : W.frozen? ⟨g, i + 1, none⟩ = false) (f2 : W.frozen? ⟨g, i + 2, none⟩ = false) (f3 : W.frozen? ⟨g, i + 3, none⟩ = false) (v0 v1 v2 : Value) :
    ((W.setCell ⟨g, i, none⟩ v0).cell? ⟨g, i + 1, none⟩ = some x1 ∧ (W.setCell ⟨g, i, none⟩ v0).frozen? ⟨g, i + 1, none⟩ = false) ∧
    (((W.setCell ⟨g, i, none⟩ v0).setCell ⟨g, i + 1, none⟩ v1).cell? ⟨g, i + 2, none⟩ = some x2 ∧ ((W.setCell ⟨g, i, none⟩ v0).setCell ⟨g, i + 1, none⟩ v1).frozen? ⟨g, i + 2, none⟩ = false) ∧
    ((((W.setCell ⟨g, i, none⟩ v0).setCell ⟨g, i + 1, none⟩ v1).setCell ⟨g, i + 2, none⟩ v2).cell? ⟨g, i + 3, none⟩ = some x3 ∧ (((W.setCell ⟨g, i, none⟩ v0).setCell ⟨g, i + 1, none⟩ v1).setCell ⟨g, i + 2, none⟩ v2).frozen? ⟨g, i + 3, none⟩ = false) := by
  have hne : ∀ a b : Nat, a ≠ b → (⟨g, a, none⟩ : Addr) ≠ ⟨g, b, none⟩ := fun a b h e => h (by cases e; rfl)
  refine ⟨⟨?_, ?_⟩, ⟨?_, ?_⟩, ?_, ?_⟩
  · rw [World.cell?_setCell_other (h := hne _ _ (by omega))]; exact h1
  · rw [World.frozen?_setCell]; exact f1
  · rw [World.cell?_setCell_other (h := hne _ _ (by omega)), World.cell?_setCell_other (h := hne _ _ (by omega))]; exact h2
  · rw [World.frozen?_setCell, World.frozen?_setCell]; exact f2
  · rw [World.cell?_setCell_other (h := hne _ _ (by omega)), World.cell?_setCell_other (h := hne _ _ (by omega)), World.cell?_setCell_other (h := hne _ _ (by omega))]; exact h3
  · rw [World.frozen?_setCell, World.frozen?_setCell, World.frozen?_setCell]; exact f3
theorem wp_store4 {W : World} {g i p q : Nat} {x : RV} {z0 z1 z2 z3 : Value} {a : Act} {ty : TypeId} {pos : String} {after : Array Edge} {guard : Option (Nat × Bool)} {K : Act → World → Prop} {Q : Exit → Act → World → Prop}
    (c0 : W.cell? ⟨g, i, none⟩ = some z0) (c1 : W.cell? ⟨g, i + 1, none⟩ = some z1) (c2 : W.cell? ⟨g, i + 2, none⟩ = some z2) (c3 : W.cell? ⟨g, i + 3, none⟩ = some z3) (f0 : W.frozen? ⟨g, i, none⟩ = false) (f1 : W.frozen? ⟨g, i + 1, none⟩ = false) (f2 : W.frozen? ⟨g, i + 2, none⟩ = false) (f3 : W.frozen? ⟨g, i + 3, none⟩ = false)
    (hp : a.tmps[p]?.getD undef = .pointer (some ⟨g, i, none⟩)) (hq : a.tmps[q]?.getD undef = .agg #[.string x.pod, .string x.cont, .int .u64 x.cpus, .slice x.da x.dn x.dc]) (hk : K a (put4 W g i x).drew) :
    Oper.wp Try.prog { dst := none, op := Op.store 119 (Operand.tmp p) (Operand.tmp q), type := ty, pos := pos, after := after, guard := guard } a W.drew K Q := by
  unfold put4 at hk
  obtain ⟨⟨m0, m1⟩, ⟨m2, m3⟩, m4, m5⟩ := four_mid (i := i) c1 c2 c3 f1 f2 f3 (.string x.pod) (.string x.cont) (.int .u64 x.cpus)
  have HK := hideIt hk
  clear hk
  go_simp
  exact HK.out
noncomputable def insBody : Code := ((Try.f13.body.map loopsOf).getD []).getD 2 .skip
set_option maxRecDepth 100000 in
set_option maxHeartbeats 8000000 in
theorem insLoop {c0 c1 c2 c3 c4 c5 c6 c8 c9 c10 c11 c12 c13 c14 c15 c16 c17 c18 c19 c20 c21 c22 c23 c24 c25 c26 c27 c28 c29 c30 c31 c32 c33 c34 c35 c36 c37 c38 c39 c40 c41 c42 c43 c44 c45 c46 c47 c48 c49 c50 c51 c52 c53 c54 c55 c56 c57 c58 c59 c60 c61 c62 c63 c64 c65 c66 c67 c68 c69 c70 c71 c72 c73 c74 c75 c76 c77 c78 c79 c80 c81 c82 c83 c84 c85 c86 c87 c88 c89 c90 c91 c92 c93 c94 c95 c96 c97 c98 c99 c100 c101 c102 c103 c104 c105 c106 c107 c108 c109 c110 c111 c112 c113 c114 c115 c116 c117 c118 c119 c120 c121 c122 c123 c124 c125 c126 c127 c128 c129 c130 c131 c132 c133 c134 c135 c136 c137 c138 c139 c140 c141 c142 c143 c144 c145 c146 c147 c148 c149 c150 c151 c152 c153 c154 c155 c156 c157 c158 c159 c160 c161 c162 c163 c164 c165 c166 c167 c168 c169 c170 c171 c172 c173 c174 c175 c176 c177 c178 c179 c180 c181 c182 c183 c184 c185 c186 c187 c188 c189 c190 c191 c192 c193 c194 c195 c196 c197 c198 c199 c200 c201 c202 c203 c204 c205 c206 c207 c208 c209 c210 c211 c212 c213 c214 c215 c216 c217 c218 c219 c220 c221 c222 c223 c224 c225 c226 : Value} {g9 cap9 base : Nat} {rs : List RV} {X : RV} {w8 w9 : World} (h60 : rs.length ≤ 60) (h16 : c16 = .int .i64 rs.length)
    (hW0 : RRow base w9 (.slice (some ⟨g9, 0, none⟩) (rs.length + 1) cap9) (insAt rs rs.length X)) (hB0 : Below base w8 w9) (hK0 : KInt w8 w9) (hbase : base ≤ w8.heap.size)
    (hall : ∀ j, j < rs.length → ¬ ((rv rs j).pod = X.pod ∧ (rv rs j).cont = X.cont)) :
    Code.wp Try.prog (Code.loop insBody) (ExitAt 5 (Fr (fun F => ⟨List.toArray (c0 :: c1 :: c2 :: c3 :: c4 :: c5 :: c6 :: .slice (some ⟨g9, 0, none⟩) (rs.length + 1) cap9 :: c8 :: c9 :: c10 :: c11 :: c12 :: c13 :: c14 :: c15 :: F 16 :: c17 :: c18 :: c19 :: c20 :: c21 :: c22 :: c23 :: c24 :: c25 :: c26 :: c27 :: c28 :: c29 :: c30 :: c31 :: c32 :: c33 :: c34 :: c35 :: c36 :: c37 :: c38 :: c39 :: c40 :: c41 :: c42 :: c43 :: c44 :: c45 :: c46 :: c47 :: c48 :: c49 :: c50 :: c51 :: c52 :: c53 :: c54 :: c55 :: c56 :: c57 :: c58 :: c59 :: c60 :: c61 :: c62 :: c63 :: c64 :: c65 :: c66 :: c67 :: c68 :: c69 :: c70 :: c71 :: c72 :: c73 :: c74 :: c75 :: c76 :: c77 :: c78 :: c79 :: c80 :: c81 :: c82 :: c83 :: c84 :: c85 :: c86 :: c87 :: c88 :: c89 :: c90 :: c91 :: c92 :: c93 :: c94 :: c95 :: c96 :: c97 :: c98 :: c99 :: c100 :: c101 :: c102 :: c103 :: c104 :: c105 :: c106 :: c107 :: c108 :: c109 :: c110 :: c111 :: c112 :: F 113 :: F 114 :: F 115 :: F 116 :: F 117 :: F 118 :: F 119 :: F 120 :: F 121 :: F 122 :: F 123 :: F 124 :: F 125 :: F 126 :: F 127 :: F 128 :: F 129 :: F 130 :: F 131 :: F 132 :: F 133 :: F 134 :: F 135 :: F 136 :: F 137 :: F 138 :: F 139 :: F 140 :: F 141 :: F 142 :: F 143 :: F 144 :: F 145 :: F 146 :: F 147 :: F 148 :: F 149 :: F 150 :: F 151 :: F 152 :: F 153 :: F 154 :: F 155 :: F 156 :: F 157 :: F 158 :: F 159 :: F 160 :: F 161 :: F 162 :: F 163 :: F 164 :: F 165 :: F 166 :: F 167 :: F 168 :: F 169 :: F 170 :: F 171 :: F 172 :: F 173 :: F 174 :: c175 :: c176 :: c177 :: c178 :: c179 :: c180 :: c181 :: c182 :: c183 :: c184 :: c185 :: c186 :: c187 :: c188 :: c189 :: c190 :: c191 :: c192 :: c193 :: c194 :: c195 :: c196 :: c197 :: c198 :: c199 :: c200 :: c201 :: c202 :: c203 :: c204 :: c205 :: c206 :: c207 :: c208 :: c209 :: c210 :: c211 :: c212 :: c213 :: c214 :: c215 :: c216 :: c217 :: c218 :: c219 :: c220 :: c221 :: c222 :: c223 :: c224 :: c225 :: c226 :: []), []⟩) (fun _ w' => ∃ K, K ≤ rs.length ∧ RRow base w' (.slice (some ⟨g9, 0, none⟩) (rs.length + 1) cap9) (insAt rs K X) ∧ Below base w8 w' ∧ KInt w8 w' ∧ (∀ j, K ≤ j → j < rs.length → cfR X (rv rs j) < 0) ∧ (K = 0 ∨ cfR (rv rs (K - 1)) X < 0)))) ⟨List.toArray (c0 :: c1 :: c2 :: c3 :: c4 :: c5 :: c6 :: .slice (some ⟨g9, 0, none⟩) (rs.length + 1) cap9 :: c8 :: c9 :: c10 :: c11 :: c12 :: c13 :: c14 :: c15 :: c16 :: c17 :: c18 :: c19 :: c20 :: c21 :: c22 :: c23 :: c24 :: c25 :: c26 :: c27 :: c28 :: c29 :: c30 :: c31 :: c32 :: c33 :: c34 :: c35 :: c36 :: c37 :: c38 :: c39 :: c40 :: c41 :: c42 :: c43 :: c44 :: c45 :: c46 :: c47 :: c48 :: c49 :: c50 :: c51 :: c52 :: c53 :: c54 :: c55 :: c56 :: c57 :: c58 :: c59 :: c60 :: c61 :: c62 :: c63 :: c64 :: c65 :: c66 :: c67 :: c68 :: c69 :: c70 :: c71 :: c72 :: c73 :: c74 :: c75 :: c76 :: c77 :: c78 :: c79 :: c80 :: c81 :: c82 :: c83 :: c84 :: c85 :: c86 :: c87 :: c88 :: c89 :: c90 :: c91 :: c92 :: c93 :: c94 :: c95 :: c96 :: c97 :: c98 :: c99 :: c100 :: c101 :: c102 :: c103 :: c104 :: c105 :: c106 :: c107 :: c108 :: c109 :: c110 :: c111 :: c112 :: c113 :: c114 :: c115 :: c116 :: c117 :: c118 :: c119 :: c120 :: c121 :: c122 :: c123 :: c124 :: c125 :: c126 :: c127 :: c128 :: c129 :: c130 :: c131 :: c132 :: c133 :: c134 :: c135 :: c136 :: c137 :: c138 :: c139 :: c140 :: c141 :: c142 :: c143 :: c144 :: c145 :: c146 :: c147 :: c148 :: c149 :: c150 :: c151 :: c152 :: c153 :: c154 :: c155 :: c156 :: c157 :: c158 :: c159 :: c160 :: c161 :: c162 :: c163 :: c164 :: c165 :: c166 :: c167 :: c168 :: c169 :: c170 :: c171 :: c172 :: c173 :: c174 :: c175 :: c176 :: c177 :: c178 :: c179 :: c180 :: c181 :: c182 :: c183 :: c184 :: c185 :: c186 :: c187 :: c188 :: c189 :: c190 :: c191 :: c192 :: c193 :: c194 :: c195 :: c196 :: c197 :: c198 :: c199 :: c200 :: c201 :: c202 :: c203 :: c204 :: c205 :: c206 :: c207 :: c208 :: c209 :: c210 :: c211 :: c212 :: c213 :: c214 :: c215 :: c216 :: c217 :: c218 :: c219 :: c220 :: c221 :: c222 :: c223 :: c224 :: c225 :: c226 :: []), []⟩ w9 := by
  subst h16
  have HALL := hideIt hall
  have HW0 := hideIt hW0
  have HB0 := hideIt hB0
  have HK0 := hideIt hK0
  clear hall hW0 hB0 hK0
  conv => enter [2, 1]; unfold insBody; whnf
  go_loopw [16] (fun i wq => ∃ kk : Nat, kk ≤ rs.length ∧ i = .int .i64 kk ∧ RRow base wq (.slice (some ⟨g9, 0, none⟩) (rs.length + 1) cap9) (insAt rs kk X) ∧ Below base w8 wq ∧ KInt w8 wq ∧ (∀ j, kk ≤ j → j < rs.length → cfR X (rv rs j) < 0)) (fun i _ => (intOf i).toNat)
  case atStart => exact ⟨rs.length, by omega, rfl, HW0.out, HB0.out, HK0.out, fun j h1 h2 => by omega⟩
  case round =>
    clear HW0 HB0 HK0
    obtain ⟨kk, hkk, rfl, hW, hB, hK, hC⟩ := hrel
    cases kk with
    | zero =>
      rw [show ((0 : Nat) : Int) = 0 from rfl]
      have HW := hideIt hW
      have HB := hideIt hB
      have HK := hideIt hK
      have HC := hideIt hC
      clear hW hB hK hC
      as_aux_lemma =>
      go_wp2_with fail
      go_quiet (fail)
      go_wp2_with fail
      refine ⟨rfl, Fr.mk (by kernel_rfl) ?_⟩
      exact ⟨0, by omega, HW.out, below_drewN HB.out nq, HK.out, HC.out, .inl rfl⟩
    | succ kk =>
      obtain ⟨⟨⟨x0, x1, _, _⟩, _⟩, ⟨⟨y0, y1, _, _⟩, _⟩, _⟩ := row_half hW hkk
      have hne : ¬ ((rv rs kk).pod = X.pod ∧ (rv rs kk).cont = X.cont) := HALL.out kk (by omega)
      have HLT := hideIt (cfR_iff X (rv rs kk))
      have HNOT := hideIt (show ¬ cfR X (rv rs kk) < 0 → cfR (rv rs kk) X < 0 from cfR_no hne)
      have HSW := hideIt (fun W (h : RRow base W (.slice (some ⟨g9, 0, none⟩) (rs.length + 1) cap9) (insAt rs (kk + 1) X)) => row_swap h hkk)
      have HHF := hideIt (fun W (h : RRow base W (.slice (some ⟨g9, 0, none⟩) (rs.length + 1) cap9) (insAt rs (kk + 1) X)) => row_half h hkk)
      have HCN := hideIt (show cfR X (rv rs kk) < 0 → ∀ j, kk ≤ j → j < rs.length → cfR X (rv rs j) < 0 from fun h0 j h1 h2 => by
        by_cases e : j = kk
        · rw [e]; exact h0
        · exact hC j (by omega) h2)
      have HC0 := hideIt hC
      have HW := hideIt hW
      have HB := hideIt hB
      have HK := hideIt hK
      have hbs : base ≤ wr.heap.size := Nat.le_trans hbase hB.size
      clear hW hB hK hC hne HALL
      obtain ⟨K, hKe⟩ : ∃ K, K = kk + 1 := ⟨_, rfl⟩
      have hgt : decide ((0 : Int) < (K : Int)) = true := decide_eq_true (by omega)
      have hgp : (0 : Int) < (K : Int) := by omega
      have hgn : ¬ (K = 0) := by omega
      have hgq : 0 < K := by omega
      have hgd : decide (0 < K) = true := decide_eq_true hgq
      have hw4 : wrap64 ((K : Int) - 1) = (kk : Int) := by unfold wrap64; omega
      have hw5 : IntKind.i64.wrap ((K : Int) - 1) = (kk : Int) := by rw [IntKind.wrap_i64]; omega
      have hto : ((K : Int) - 1).toNat = kk := by omega
      have hKl : K < rs.length + 1 := by omega
      have hkl : kk < rs.length + 1 := by omega
      have hki : (kk : Int) < (rs.length : Int) + 1 := by omega
      have hKi : (K : Int) < (rs.length : Int) + 1 := by omega
      have hK1 : K - 1 = kk := by omega
      rw [← hKe] at x0 x1 HW HSW HHF HC0 ⊢
      have HKE := hideIt hKe
      have HEND0 := hideIt (show cfR (rv rs kk) X < 0 → cfR (rv rs (K - 1)) X < 0 from fun h => by rw [hK1]; exact h)
      clear hKe hK1
      obtain ⟨y, hy⟩ : ∃ y, y = rv rs kk := ⟨_, rfl⟩
      rw [← hy] at y0 y1 HLT HNOT HSW HHF HCN HEND0
      clear hy
      rcases two (Op.bytesLess X.pod.toList y.pod.toList) with p1 | p1
      · have HC1 := hideIt (HCN.out (HLT.out.2 (.inl p1)))
        clear HCN HEND0 HLT HNOT HC0
        as_aux_lemma =>
        go_wp2_with fail
        go_quiet (fail)
        have HBd := hideIt (below_drewN HB.out nq)
        have HKd : Hid (KInt w8 (wr.drewN nq)) := HK.out
        have hbsd : base ≤ (wr.drewN nq).heap.size := hbs
        have hWn : RRow base (wr.drewN nq) (.slice (some ⟨g9, 0, none⟩) (rs.length + 1) cap9) (insAt rs K X) := HW.out
        obtain ⟨⟨⟨a0, a1, a2, a3⟩, ⟨f0, f1, f2, f3⟩⟩, ⟨⟨b0, b1, b2, b3⟩, ⟨_, _, _, _⟩⟩, ⟨⟨d0, d1, d2, d3⟩, ⟨e0, e1, e2, e3⟩⟩⟩ := HHF.out _ hWn
        obtain ⟨hS1, hS2⟩ := HSW.out _ hWn
        obtain ⟨hS3, hS4⟩ := swap_below' hWn hS2 HBd.out HKd.out hbsd
        have HS1 := hideIt (row_drew hS1)
        have HS3 := hideIt (below_drewR hS3)
        have HS4 := hideIt (kint_drew hS4)
        unfold put4 at d0 d1 d2 d3 e0 e1 e2 e3
        unfold put4 at HS1 HS3 HS4
        clear hWn hS1 hS2 hS3 hS4 HBd HKd x0 x1 y0 y1 HHF HSW
        generalize (wr.drewN nq) = Wq at *
        go_wp2_with fail
        refine wp_region_held_drew (S := fun _ => True) (by kernel_rfl) trivial (fun hHeld => ?_)
        refine wpAnyH_take (i := 0) (oi := { dst := some 159, op := Op.move (Operand.tmp 7), type := 117, pos := "whole.go:185", after := #[], guard := none }) (v := ?v1x0) rfl (by kernel_rfl) (by kernel_rfl) (by kernel_rfl) (fun _ _ _ h => h) (Or.inl ⟨by rfl, ?h1x0⟩) (by assumption) ?r1x0
        case h1x0 =>
          intro w' hSw
          (try dsimp only at hSw)
          go_simp
          first | done | with_reducible rfl | rfl
        (try simp only [Act.put, List.setIfInBounds_toArray, List.set_cons_zero, List.set_cons_succ])
        refine wpAnyH_take (i := 1) (oi := { dst := some 160, op := Op.move (Operand.tmp 16), type := 3, pos := "whole.go:185", after := #[], guard := none }) (v := ?v2x1) rfl (by kernel_rfl) (by kernel_rfl) (by kernel_rfl) (fun _ _ _ h => h) (Or.inl ⟨by rfl, ?h2x1⟩) (by assumption) ?r2x1
        case h2x1 =>
          intro w' hSw
          (try dsimp only at hSw)
          go_simp
          first | done | with_reducible rfl | rfl
        (try simp only [Act.put, List.setIfInBounds_toArray, List.set_cons_zero, List.set_cons_succ])
        refine wpAnyH_take (i := 2) (oi := { dst := some 161, op := Op.move (Operand.tmp 7), type := 117, pos := "whole.go:185", after := #[{ on := 15, ground := Ground.gcOnly Departure.lateStores }], guard := none }) (v := ?v3x2) rfl (by kernel_rfl) (by kernel_rfl) (by kernel_rfl) (fun _ _ _ h => h) (Or.inl ⟨by rfl, ?h3x2⟩) (by assumption) ?r3x2
        case h3x2 =>
          intro w' hSw
          (try dsimp only at hSw)
          go_simp
          first | done | with_reducible rfl | rfl
        (try simp only [Act.put, List.setIfInBounds_toArray, List.set_cons_zero, List.set_cons_succ])
        refine wpAnyH_take (i := 3) (oi := { dst := some 162, op := Op.move (Operand.tmp 16), type := 3, pos := "whole.go:185", after := #[{ on := 15, ground := Ground.gcOnly Departure.lateStores }], guard := none }) (v := ?v4x3) rfl (by kernel_rfl) (by kernel_rfl) (by kernel_rfl) (fun _ _ _ h => h) (Or.inl ⟨by rfl, ?h4x3⟩) (by assumption) ?r4x3
        case h4x3 =>
          intro w' hSw
          (try dsimp only at hSw)
          go_simp
          first | done | with_reducible rfl | rfl
        (try simp only [Act.put, List.setIfInBounds_toArray, List.set_cons_zero, List.set_cons_succ])
        refine wpAnyH_take (i := 4) (oi := { dst := some 163, op := Op.binOp BinOp.sub 3 (Operand.tmp 162) (Operand.const (Value.int IntKind.i64 1)) 3, type := 3, pos := "whole.go:185", after := #[{ on := 3, ground := Ground.data }, { on := 15, ground := Ground.gcOnly Departure.lateStores }], guard := none }) (v := ?v5x4) rfl (by kernel_rfl) (by kernel_rfl) (by kernel_rfl) (fun _ _ _ h => h) (Or.inl ⟨by rfl, ?h5x4⟩) (by assumption) ?r5x4
        case h5x4 =>
          intro w' hSw
          (try dsimp only at hSw)
          go_simp
          first | done | with_reducible rfl | rfl
        (try simp only [Act.put, List.setIfInBounds_toArray, List.set_cons_zero, List.set_cons_succ])
        refine wpAnyH_take (i := 5) (oi := { dst := some 164, op := Op.move (Operand.tmp 7), type := 117, pos := "whole.go:185", after := #[], guard := none }) (v := ?v6x5) rfl (by kernel_rfl) (by kernel_rfl) (by kernel_rfl) (fun _ _ _ h => h) (Or.inl ⟨by rfl, ?h6x5⟩) (by assumption) ?r6x5
        case h6x5 =>
          intro w' hSw
          (try dsimp only at hSw)
          go_simp
          first | done | with_reducible rfl | rfl
        (try simp only [Act.put, List.setIfInBounds_toArray, List.set_cons_zero, List.set_cons_succ])
        refine wpAnyH_take (i := 6) (oi := { dst := some 165, op := Op.move (Operand.tmp 16), type := 3, pos := "whole.go:185", after := #[], guard := none }) (v := ?v7x6) rfl (by kernel_rfl) (by kernel_rfl) (by kernel_rfl) (fun _ _ _ h => h) (Or.inl ⟨by rfl, ?h7x6⟩) (by assumption) ?r7x6
        case h7x6 =>
          intro w' hSw
          (try dsimp only at hSw)
          go_simp
          first | done | with_reducible rfl | rfl
        (try simp only [Act.put, List.setIfInBounds_toArray, List.set_cons_zero, List.set_cons_succ])
        refine wpAnyH_take (i := 7) (oi := { dst := some 166, op := Op.binOp BinOp.sub 3 (Operand.tmp 165) (Operand.const (Value.int IntKind.i64 1)) 3, type := 3, pos := "whole.go:185", after := #[{ on := 6, ground := Ground.data }], guard := none }) (v := ?v8x7) rfl (by kernel_rfl) (by kernel_rfl) (by kernel_rfl) (fun _ _ _ h => h) (Or.inl ⟨by rfl, ?h8x7⟩) (by assumption) ?r8x7
        case h8x7 =>
          intro w' hSw
          (try dsimp only at hSw)
          go_simp
          first | done | with_reducible rfl | rfl
        (try simp only [Act.put, List.setIfInBounds_toArray, List.set_cons_zero, List.set_cons_succ])
        refine wpAnyH_take (i := 8) (oi := { dst := some 167, op := Op.indexAddr 117 (Operand.tmp 164) (Operand.tmp 166), type := 0, pos := "whole.go:185", after := #[{ on := 5, ground := Ground.data }, { on := 7, ground := Ground.data }], guard := none }) (v := ?v9x8) rfl (by kernel_rfl) (by kernel_rfl) (by kernel_rfl) (fun _ _ _ h => h) (Or.inl ⟨by rfl, ?h9x8⟩) (by assumption) ?r9x8
        case h9x8 =>
          intro w' hSw
          (try dsimp only at hSw)
          go_simp
          first | done | with_reducible rfl | rfl
        (try simp only [Act.put, List.setIfInBounds_toArray, List.set_cons_zero, List.set_cons_succ])
        refine wpAnyH_take (i := 10) (oi := { dst := some 169, op := Op.move (Operand.tmp 7), type := 117, pos := "whole.go:185", after := #[], guard := none }) (v := ?v10x10) rfl (by kernel_rfl) (by kernel_rfl) (by kernel_rfl) (fun _ _ _ h => h) (Or.inl ⟨by rfl, ?h10x10⟩) (by assumption) ?r10x10
        case h10x10 =>
          intro w' hSw
          (try dsimp only at hSw)
          go_simp
          first | done | with_reducible rfl | rfl
        (try simp only [Act.put, List.setIfInBounds_toArray, List.set_cons_zero, List.set_cons_succ])
        refine wpAnyH_take (i := 11) (oi := { dst := some 170, op := Op.move (Operand.tmp 16), type := 3, pos := "whole.go:185", after := #[], guard := none }) (v := ?v11x11) rfl (by kernel_rfl) (by kernel_rfl) (by kernel_rfl) (fun _ _ _ h => h) (Or.inl ⟨by rfl, ?h11x11⟩) (by assumption) ?r11x11
        case h11x11 =>
          intro w' hSw
          (try dsimp only at hSw)
          go_simp
          first | done | with_reducible rfl | rfl
        (try simp only [Act.put, List.setIfInBounds_toArray, List.set_cons_zero, List.set_cons_succ])
        refine wpAnyH_take (i := 12) (oi := { dst := some 171, op := Op.indexAddr 117 (Operand.tmp 169) (Operand.tmp 170), type := 0, pos := "whole.go:185", after := #[{ on := 10, ground := Ground.data }, { on := 11, ground := Ground.data }], guard := none }) (v := ?v12x12) rfl (by kernel_rfl) (by kernel_rfl) (by kernel_rfl) (fun _ _ _ h => h) (Or.inl ⟨by rfl, ?h12x12⟩) (by assumption) ?r12x12
        case h12x12 =>
          intro w' hSw
          (try dsimp only at hSw)
          go_simp
          first | done | with_reducible rfl | rfl
        (try simp only [Act.put, List.setIfInBounds_toArray, List.set_cons_zero, List.set_cons_succ])
        refine wpAnyH_ready (rs := [9, 13]) (by kernel_rfl) (by simp) (AllReadyH.cons rfl (fun K hK => ?_) (AllReadyH.cons rfl (fun K hK => ?_) AllReadyH.nil))
        · go_simp
          refine hK.out _ _ trivial (fun hHeld => ?_)
          clear hK K
          (try simp only [Act.put, List.setIfInBounds_toArray, List.set_cons_zero, List.set_cons_succ])
          refine wpAnyH_ready (rs := [13]) (by kernel_rfl) (by simp) (AllReadyH.cons rfl (fun K hK => ?_) AllReadyH.nil)
          go_simp
          refine hK.out _ _ trivial (fun hHeld => ?_)
          clear hK K
          (try simp only [Act.put, List.setIfInBounds_toArray, List.set_cons_zero, List.set_cons_succ])
          refine wpAnyH_take (i := 14) (oi := { dst := some 173, op := Op.indexAddr 117 (Operand.tmp 159) (Operand.tmp 160), type := 0, pos := "whole.go:185", after := #[{ on := 0, ground := Ground.data }, { on := 1, ground := Ground.data }, { on := 0, ground := Ground.phase }, { on := 1, ground := Ground.phase }, { on := 2, ground := Ground.textOnly Departure.lateStores }, { on := 3, ground := Ground.textOnly Departure.lateStores }, { on := 4, ground := Ground.textOnly Departure.lateStores }, { on := 5, ground := Ground.phase }, { on := 6, ground := Ground.phase }, { on := 7, ground := Ground.phase }, { on := 8, ground := Ground.phase }, { on := 9, ground := Ground.phase }, { on := 10, ground := Ground.textOnly Departure.lateStores }, { on := 11, ground := Ground.textOnly Departure.lateStores }, { on := 12, ground := Ground.textOnly Departure.lateStoresUnsure }, { on := 13, ground := Ground.phase }], guard := none }) (v := ?v13x14) rfl (by kernel_rfl) (by kernel_rfl) (by kernel_rfl) (fun _ _ _ h => h) (Or.inl ⟨by rfl, ?h13x14⟩) (by assumption) ?r13x14
          case h13x14 =>
            intro w' hSw
            (try dsimp only at hSw)
            go_simp
            first | done | with_reducible rfl | rfl
          (try simp only [Act.put, List.setIfInBounds_toArray, List.set_cons_zero, List.set_cons_succ])
          refine wpAnyH_ready (rs := [15]) (by kernel_rfl) (by simp) (AllReadyH.cons rfl (fun K hK => ?_) AllReadyH.nil)
          rw [if_pos (by rfl)]
          refine wp_store4 a0 a1 a2 a3 f0 f1 f2 f3 rfl rfl ?_
          unfold put4
          refine hK.out _ _ trivial (fun hHeld => ?_)
          clear hK K
          generalize ((((Wq.setCell ⟨g9, K * 4, none⟩ (.string y.pod)).setCell ⟨g9, K * 4 + 1, none⟩ (.string y.cont)).setCell ⟨g9, K * 4 + 2, none⟩ (.int .u64 y.cpus)).setCell ⟨g9, K * 4 + 3, none⟩ (.slice y.da y.dn y.dc)) = W2 at *
          refine wpAnyH_take (i := 16) (oi := { dst := some 174, op := Op.indexAddr 117 (Operand.tmp 161) (Operand.tmp 163), type := 0, pos := "whole.go:185", after := #[{ on := 2, ground := Ground.data }, { on := 4, ground := Ground.data }, { on := 0, ground := Ground.phase }, { on := 1, ground := Ground.phase }, { on := 2, ground := Ground.phase }, { on := 3, ground := Ground.phase }, { on := 4, ground := Ground.phase }, { on := 5, ground := Ground.phase }, { on := 6, ground := Ground.phase }, { on := 7, ground := Ground.phase }, { on := 8, ground := Ground.phase }, { on := 9, ground := Ground.phase }, { on := 10, ground := Ground.phase }, { on := 11, ground := Ground.phase }, { on := 12, ground := Ground.phase }, { on := 13, ground := Ground.phase }, { on := 14, ground := Ground.phase }, { on := 15, ground := Ground.phase }], guard := none }) (v := ?v14x16) rfl (by kernel_rfl) (by kernel_rfl) (by kernel_rfl) (fun _ _ _ h => h) (Or.inl ⟨by rfl, ?h14x16⟩) (by assumption) ?r14x16
          case h14x16 =>
            intro w' hSw
            (try dsimp only at hSw)
            go_simp
            first | done | with_reducible rfl | rfl
          (try simp only [Act.put, List.setIfInBounds_toArray, List.set_cons_zero, List.set_cons_succ])
          refine wpAnyH_ready (rs := [17]) (by kernel_rfl) (by simp) (AllReadyH.cons rfl (fun K hK => ?_) AllReadyH.nil)
          rw [if_pos (by rfl)]
          refine wp_store4 d0 d1 d2 d3 e0 e1 e2 e3 rfl rfl ?_
          unfold put4
          refine hK.out _ _ trivial (fun hHeld => ?_)
          clear hK K
          refine wpAnyH_done (by kernel_rfl) ?_ _
          go_wp2_with fail
          go_roundw
          case rel => exact ⟨kk, by omega, by go_num, HS1.out, HS3.out, HS4.out, HC1.out⟩
          case measure => simp [intOf]; omega
        · go_simp
          refine hK.out _ _ trivial (fun hHeld => ?_)
          clear hK K
          (try simp only [Act.put, List.setIfInBounds_toArray, List.set_cons_zero, List.set_cons_succ])
          refine wpAnyH_ready (rs := [9]) (by kernel_rfl) (by simp) (AllReadyH.cons rfl (fun K hK => ?_) AllReadyH.nil)
          go_simp
          refine hK.out _ _ trivial (fun hHeld => ?_)
          clear hK K
          (try simp only [Act.put, List.setIfInBounds_toArray, List.set_cons_zero, List.set_cons_succ])
          refine wpAnyH_take (i := 14) (oi := { dst := some 173, op := Op.indexAddr 117 (Operand.tmp 159) (Operand.tmp 160), type := 0, pos := "whole.go:185", after := #[{ on := 0, ground := Ground.data }, { on := 1, ground := Ground.data }, { on := 0, ground := Ground.phase }, { on := 1, ground := Ground.phase }, { on := 2, ground := Ground.textOnly Departure.lateStores }, { on := 3, ground := Ground.textOnly Departure.lateStores }, { on := 4, ground := Ground.textOnly Departure.lateStores }, { on := 5, ground := Ground.phase }, { on := 6, ground := Ground.phase }, { on := 7, ground := Ground.phase }, { on := 8, ground := Ground.phase }, { on := 9, ground := Ground.phase }, { on := 10, ground := Ground.textOnly Departure.lateStores }, { on := 11, ground := Ground.textOnly Departure.lateStores }, { on := 12, ground := Ground.textOnly Departure.lateStoresUnsure }, { on := 13, ground := Ground.phase }], guard := none }) (v := ?v15x14) rfl (by kernel_rfl) (by kernel_rfl) (by kernel_rfl) (fun _ _ _ h => h) (Or.inl ⟨by rfl, ?h15x14⟩) (by assumption) ?r15x14
          case h15x14 =>
            intro w' hSw
            (try dsimp only at hSw)
            go_simp
            first | done | with_reducible rfl | rfl
          (try simp only [Act.put, List.setIfInBounds_toArray, List.set_cons_zero, List.set_cons_succ])
          refine wpAnyH_ready (rs := [15]) (by kernel_rfl) (by simp) (AllReadyH.cons rfl (fun K hK => ?_) AllReadyH.nil)
          rw [if_pos (by rfl)]
          refine wp_store4 a0 a1 a2 a3 f0 f1 f2 f3 rfl rfl ?_
          unfold put4
          refine hK.out _ _ trivial (fun hHeld => ?_)
          clear hK K
          generalize ((((Wq.setCell ⟨g9, K * 4, none⟩ (.string y.pod)).setCell ⟨g9, K * 4 + 1, none⟩ (.string y.cont)).setCell ⟨g9, K * 4 + 2, none⟩ (.int .u64 y.cpus)).setCell ⟨g9, K * 4 + 3, none⟩ (.slice y.da y.dn y.dc)) = W2 at *
          refine wpAnyH_take (i := 16) (oi := { dst := some 174, op := Op.indexAddr 117 (Operand.tmp 161) (Operand.tmp 163), type := 0, pos := "whole.go:185", after := #[{ on := 2, ground := Ground.data }, { on := 4, ground := Ground.data }, { on := 0, ground := Ground.phase }, { on := 1, ground := Ground.phase }, { on := 2, ground := Ground.phase }, { on := 3, ground := Ground.phase }, { on := 4, ground := Ground.phase }, { on := 5, ground := Ground.phase }, { on := 6, ground := Ground.phase }, { on := 7, ground := Ground.phase }, { on := 8, ground := Ground.phase }, { on := 9, ground := Ground.phase }, { on := 10, ground := Ground.phase }, { on := 11, ground := Ground.phase }, { on := 12, ground := Ground.phase }, { on := 13, ground := Ground.phase }, { on := 14, ground := Ground.phase }, { on := 15, ground := Ground.phase }], guard := none }) (v := ?v16x16) rfl (by kernel_rfl) (by kernel_rfl) (by kernel_rfl) (fun _ _ _ h => h) (Or.inl ⟨by rfl, ?h16x16⟩) (by assumption) ?r16x16
          case h16x16 =>
            intro w' hSw
            (try dsimp only at hSw)
            go_simp
            first | done | with_reducible rfl | rfl
          (try simp only [Act.put, List.setIfInBounds_toArray, List.set_cons_zero, List.set_cons_succ])
          refine wpAnyH_ready (rs := [17]) (by kernel_rfl) (by simp) (AllReadyH.cons rfl (fun K hK => ?_) AllReadyH.nil)
          rw [if_pos (by rfl)]
          refine wp_store4 d0 d1 d2 d3 e0 e1 e2 e3 rfl rfl ?_
          unfold put4
          refine hK.out _ _ trivial (fun hHeld => ?_)
          clear hK K
          refine wpAnyH_done (by kernel_rfl) ?_ _
          go_wp2_with fail
          go_roundw
          case rel => exact ⟨kk, by omega, by go_num, HS1.out, HS3.out, HS4.out, HC1.out⟩
          case measure => simp [intOf]; omega
      · rcases two (X.pod.toList == y.pod.toList) with p2 | p2
        · have hpe : X.pod = y.pod := of_decide_eq_true ((eq_strR _ _).symm.trans p2)
          rcases two (Op.bytesLess X.cont.toList y.cont.toList) with p3 | p3
          · have HC1 := hideIt (HCN.out (HLT.out.2 (.inr ⟨hpe, p3⟩)))
            clear HCN HEND0 HLT HNOT hpe HC0
            as_aux_lemma =>
            go_wp2_with fail
            go_quiet (fail)
            have HBd := hideIt (below_drewN HB.out nq)
            have HKd : Hid (KInt w8 (wr.drewN nq)) := HK.out
            have hbsd : base ≤ (wr.drewN nq).heap.size := hbs
            have hWn : RRow base (wr.drewN nq) (.slice (some ⟨g9, 0, none⟩) (rs.length + 1) cap9) (insAt rs K X) := HW.out
            obtain ⟨⟨⟨a0, a1, a2, a3⟩, ⟨f0, f1, f2, f3⟩⟩, ⟨⟨b0, b1, b2, b3⟩, ⟨_, _, _, _⟩⟩, ⟨⟨d0, d1, d2, d3⟩, ⟨e0, e1, e2, e3⟩⟩⟩ := HHF.out _ hWn
            obtain ⟨hS1, hS2⟩ := HSW.out _ hWn
            obtain ⟨hS3, hS4⟩ := swap_below' hWn hS2 HBd.out HKd.out hbsd
            have HS1 := hideIt (row_drew hS1)
            have HS3 := hideIt (below_drewR hS3)
            have HS4 := hideIt (kint_drew hS4)
            unfold put4 at d0 d1 d2 d3 e0 e1 e2 e3
            unfold put4 at HS1 HS3 HS4
            clear hWn hS1 hS2 hS3 hS4 HBd HKd x0 x1 y0 y1 HHF HSW
            generalize (wr.drewN nq) = Wq at *
            go_wp2_with fail
            refine wp_region_held_drew (S := fun _ => True) (by kernel_rfl) trivial (fun hHeld => ?_)
            refine wpAnyH_take (i := 0) (oi := { dst := some 159, op := Op.move (Operand.tmp 7), type := 117, pos := "whole.go:185", after := #[], guard := none }) (v := ?v17x0) rfl (by kernel_rfl) (by kernel_rfl) (by kernel_rfl) (fun _ _ _ h => h) (Or.inl ⟨by rfl, ?h17x0⟩) (by assumption) ?r17x0
            case h17x0 =>
              intro w' hSw
              (try dsimp only at hSw)
              go_simp
              first | done | with_reducible rfl | rfl
            (try simp only [Act.put, List.setIfInBounds_toArray, List.set_cons_zero, List.set_cons_succ])
            refine wpAnyH_take (i := 1) (oi := { dst := some 160, op := Op.move (Operand.tmp 16), type := 3, pos := "whole.go:185", after := #[], guard := none }) (v := ?v18x1) rfl (by kernel_rfl) (by kernel_rfl) (by kernel_rfl) (fun _ _ _ h => h) (Or.inl ⟨by rfl, ?h18x1⟩) (by assumption) ?r18x1
            case h18x1 =>
              intro w' hSw
              (try dsimp only at hSw)
              go_simp
              first | done | with_reducible rfl | rfl
            (try simp only [Act.put, List.setIfInBounds_toArray, List.set_cons_zero, List.set_cons_succ])
            refine wpAnyH_take (i := 2) (oi := { dst := some 161, op := Op.move (Operand.tmp 7), type := 117, pos := "whole.go:185", after := #[{ on := 15, ground := Ground.gcOnly Departure.lateStores }], guard := none }) (v := ?v19x2) rfl (by kernel_rfl) (by kernel_rfl) (by kernel_rfl) (fun _ _ _ h => h) (Or.inl ⟨by rfl, ?h19x2⟩) (by assumption) ?r19x2
            case h19x2 =>
              intro w' hSw
              (try dsimp only at hSw)
              go_simp
              first | done | with_reducible rfl | rfl
            (try simp only [Act.put, List.setIfInBounds_toArray, List.set_cons_zero, List.set_cons_succ])
            refine wpAnyH_take (i := 3) (oi := { dst := some 162, op := Op.move (Operand.tmp 16), type := 3, pos := "whole.go:185", after := #[{ on := 15, ground := Ground.gcOnly Departure.lateStores }], guard := none }) (v := ?v20x3) rfl (by kernel_rfl) (by kernel_rfl) (by kernel_rfl) (fun _ _ _ h => h) (Or.inl ⟨by rfl, ?h20x3⟩) (by assumption) ?r20x3
            case h20x3 =>
              intro w' hSw
              (try dsimp only at hSw)
              go_simp
              first | done | with_reducible rfl | rfl
            (try simp only [Act.put, List.setIfInBounds_toArray, List.set_cons_zero, List.set_cons_succ])
            refine wpAnyH_take (i := 4) (oi := { dst := some 163, op := Op.binOp BinOp.sub 3 (Operand.tmp 162) (Operand.const (Value.int IntKind.i64 1)) 3, type := 3, pos := "whole.go:185", after := #[{ on := 3, ground := Ground.data }, { on := 15, ground := Ground.gcOnly Departure.lateStores }], guard := none }) (v := ?v21x4) rfl (by kernel_rfl) (by kernel_rfl) (by kernel_rfl) (fun _ _ _ h => h) (Or.inl ⟨by rfl, ?h21x4⟩) (by assumption) ?r21x4
            case h21x4 =>
              intro w' hSw
              (try dsimp only at hSw)
              go_simp
              first | done | with_reducible rfl | rfl
            (try simp only [Act.put, List.setIfInBounds_toArray, List.set_cons_zero, List.set_cons_succ])
            refine wpAnyH_take (i := 5) (oi := { dst := some 164, op := Op.move (Operand.tmp 7), type := 117, pos := "whole.go:185", after := #[], guard := none }) (v := ?v22x5) rfl (by kernel_rfl) (by kernel_rfl) (by kernel_rfl) (fun _ _ _ h => h) (Or.inl ⟨by rfl, ?h22x5⟩) (by assumption) ?r22x5
            case h22x5 =>
              intro w' hSw
              (try dsimp only at hSw)
              go_simp
              first | done | with_reducible rfl | rfl
            (try simp only [Act.put, List.setIfInBounds_toArray, List.set_cons_zero, List.set_cons_succ])
            refine wpAnyH_take (i := 6) (oi := { dst := some 165, op := Op.move (Operand.tmp 16), type := 3, pos := "whole.go:185", after := #[], guard := none }) (v := ?v23x6) rfl (by kernel_rfl) (by kernel_rfl) (by kernel_rfl) (fun _ _ _ h => h) (Or.inl ⟨by rfl, ?h23x6⟩) (by assumption) ?r23x6
            case h23x6 =>
              intro w' hSw
              (try dsimp only at hSw)
              go_simp
              first | done | with_reducible rfl | rfl
            (try simp only [Act.put, List.setIfInBounds_toArray, List.set_cons_zero, List.set_cons_succ])
            refine wpAnyH_take (i := 7) (oi := { dst := some 166, op := Op.binOp BinOp.sub 3 (Operand.tmp 165) (Operand.const (Value.int IntKind.i64 1)) 3, type := 3, pos := "whole.go:185", after := #[{ on := 6, ground := Ground.data }], guard := none }) (v := ?v24x7) rfl (by kernel_rfl) (by kernel_rfl) (by kernel_rfl) (fun _ _ _ h => h) (Or.inl ⟨by rfl, ?h24x7⟩) (by assumption) ?r24x7
            case h24x7 =>
              intro w' hSw
              (try dsimp only at hSw)
              go_simp
              first | done | with_reducible rfl | rfl
            (try simp only [Act.put, List.setIfInBounds_toArray, List.set_cons_zero, List.set_cons_succ])
            refine wpAnyH_take (i := 8) (oi := { dst := some 167, op := Op.indexAddr 117 (Operand.tmp 164) (Operand.tmp 166), type := 0, pos := "whole.go:185", after := #[{ on := 5, ground := Ground.data }, { on := 7, ground := Ground.data }], guard := none }) (v := ?v25x8) rfl (by kernel_rfl) (by kernel_rfl) (by kernel_rfl) (fun _ _ _ h => h) (Or.inl ⟨by rfl, ?h25x8⟩) (by assumption) ?r25x8
            case h25x8 =>
              intro w' hSw
              (try dsimp only at hSw)
              go_simp
              first | done | with_reducible rfl | rfl
            (try simp only [Act.put, List.setIfInBounds_toArray, List.set_cons_zero, List.set_cons_succ])
            refine wpAnyH_take (i := 10) (oi := { dst := some 169, op := Op.move (Operand.tmp 7), type := 117, pos := "whole.go:185", after := #[], guard := none }) (v := ?v26x10) rfl (by kernel_rfl) (by kernel_rfl) (by kernel_rfl) (fun _ _ _ h => h) (Or.inl ⟨by rfl, ?h26x10⟩) (by assumption) ?r26x10
            case h26x10 =>
              intro w' hSw
              (try dsimp only at hSw)
              go_simp
              first | done | with_reducible rfl | rfl
            (try simp only [Act.put, List.setIfInBounds_toArray, List.set_cons_zero, List.set_cons_succ])
            refine wpAnyH_take (i := 11) (oi := { dst := some 170, op := Op.move (Operand.tmp 16), type := 3, pos := "whole.go:185", after := #[], guard := none }) (v := ?v27x11) rfl (by kernel_rfl) (by kernel_rfl) (by kernel_rfl) (fun _ _ _ h => h) (Or.inl ⟨by rfl, ?h27x11⟩) (by assumption) ?r27x11
            case h27x11 =>
              intro w' hSw
              (try dsimp only at hSw)
              go_simp
              first | done | with_reducible rfl | rfl
            (try simp only [Act.put, List.setIfInBounds_toArray, List.set_cons_zero, List.set_cons_succ])
            refine wpAnyH_take (i := 12) (oi := { dst := some 171, op := Op.indexAddr 117 (Operand.tmp 169) (Operand.tmp 170), type := 0, pos := "whole.go:185", after := #[{ on := 10, ground := Ground.data }, { on := 11, ground := Ground.data }], guard := none }) (v := ?v28x12) rfl (by kernel_rfl) (by kernel_rfl) (by kernel_rfl) (fun _ _ _ h => h) (Or.inl ⟨by rfl, ?h28x12⟩) (by assumption) ?r28x12
            case h28x12 =>
              intro w' hSw
              (try dsimp only at hSw)
              go_simp
              first | done | with_reducible rfl | rfl
            (try simp only [Act.put, List.setIfInBounds_toArray, List.set_cons_zero, List.set_cons_succ])
            refine wpAnyH_ready (rs := [9, 13]) (by kernel_rfl) (by simp) (AllReadyH.cons rfl (fun K hK => ?_) (AllReadyH.cons rfl (fun K hK => ?_) AllReadyH.nil))
            · go_simp
              refine hK.out _ _ trivial (fun hHeld => ?_)
              clear hK K
              (try simp only [Act.put, List.setIfInBounds_toArray, List.set_cons_zero, List.set_cons_succ])
              refine wpAnyH_ready (rs := [13]) (by kernel_rfl) (by simp) (AllReadyH.cons rfl (fun K hK => ?_) AllReadyH.nil)
              go_simp
              refine hK.out _ _ trivial (fun hHeld => ?_)
              clear hK K
              (try simp only [Act.put, List.setIfInBounds_toArray, List.set_cons_zero, List.set_cons_succ])
              refine wpAnyH_take (i := 14) (oi := { dst := some 173, op := Op.indexAddr 117 (Operand.tmp 159) (Operand.tmp 160), type := 0, pos := "whole.go:185", after := #[{ on := 0, ground := Ground.data }, { on := 1, ground := Ground.data }, { on := 0, ground := Ground.phase }, { on := 1, ground := Ground.phase }, { on := 2, ground := Ground.textOnly Departure.lateStores }, { on := 3, ground := Ground.textOnly Departure.lateStores }, { on := 4, ground := Ground.textOnly Departure.lateStores }, { on := 5, ground := Ground.phase }, { on := 6, ground := Ground.phase }, { on := 7, ground := Ground.phase }, { on := 8, ground := Ground.phase }, { on := 9, ground := Ground.phase }, { on := 10, ground := Ground.textOnly Departure.lateStores }, { on := 11, ground := Ground.textOnly Departure.lateStores }, { on := 12, ground := Ground.textOnly Departure.lateStoresUnsure }, { on := 13, ground := Ground.phase }], guard := none }) (v := ?v29x14) rfl (by kernel_rfl) (by kernel_rfl) (by kernel_rfl) (fun _ _ _ h => h) (Or.inl ⟨by rfl, ?h29x14⟩) (by assumption) ?r29x14
              case h29x14 =>
                intro w' hSw
                (try dsimp only at hSw)
                go_simp
                first | done | with_reducible rfl | rfl
              (try simp only [Act.put, List.setIfInBounds_toArray, List.set_cons_zero, List.set_cons_succ])
              refine wpAnyH_ready (rs := [15]) (by kernel_rfl) (by simp) (AllReadyH.cons rfl (fun K hK => ?_) AllReadyH.nil)
              rw [if_pos (by rfl)]
              refine wp_store4 a0 a1 a2 a3 f0 f1 f2 f3 rfl rfl ?_
              unfold put4
              refine hK.out _ _ trivial (fun hHeld => ?_)
              clear hK K
              generalize ((((Wq.setCell ⟨g9, K * 4, none⟩ (.string y.pod)).setCell ⟨g9, K * 4 + 1, none⟩ (.string y.cont)).setCell ⟨g9, K * 4 + 2, none⟩ (.int .u64 y.cpus)).setCell ⟨g9, K * 4 + 3, none⟩ (.slice y.da y.dn y.dc)) = W2 at *
              refine wpAnyH_take (i := 16) (oi := { dst := some 174, op := Op.indexAddr 117 (Operand.tmp 161) (Operand.tmp 163), type := 0, pos := "whole.go:185", after := #[{ on := 2, ground := Ground.data }, { on := 4, ground := Ground.data }, { on := 0, ground := Ground.phase }, { on := 1, ground := Ground.phase }, { on := 2, ground := Ground.phase }, { on := 3, ground := Ground.phase }, { on := 4, ground := Ground.phase }, { on := 5, ground := Ground.phase }, { on := 6, ground := Ground.phase }, { on := 7, ground := Ground.phase }, { on := 8, ground := Ground.phase }, { on := 9, ground := Ground.phase }, { on := 10, ground := Ground.phase }, { on := 11, ground := Ground.phase }, { on := 12, ground := Ground.phase }, { on := 13, ground := Ground.phase }, { on := 14, ground := Ground.phase }, { on := 15, ground := Ground.phase }], guard := none }) (v := ?v30x16) rfl (by kernel_rfl) (by kernel_rfl) (by kernel_rfl) (fun _ _ _ h => h) (Or.inl ⟨by rfl, ?h30x16⟩) (by assumption) ?r30x16
              case h30x16 =>
                intro w' hSw
                (try dsimp only at hSw)
                go_simp
                first | done | with_reducible rfl | rfl
              (try simp only [Act.put, List.setIfInBounds_toArray, List.set_cons_zero, List.set_cons_succ])
              refine wpAnyH_ready (rs := [17]) (by kernel_rfl) (by simp) (AllReadyH.cons rfl (fun K hK => ?_) AllReadyH.nil)
              rw [if_pos (by rfl)]
              refine wp_store4 d0 d1 d2 d3 e0 e1 e2 e3 rfl rfl ?_
              unfold put4
              refine hK.out _ _ trivial (fun hHeld => ?_)
              clear hK K
              refine wpAnyH_done (by kernel_rfl) ?_ _
              go_wp2_with fail
              go_roundw
              case rel => exact ⟨kk, by omega, by go_num, HS1.out, HS3.out, HS4.out, HC1.out⟩
              case measure => simp [intOf]; omega
            · go_simp
              refine hK.out _ _ trivial (fun hHeld => ?_)
              clear hK K
              (try simp only [Act.put, List.setIfInBounds_toArray, List.set_cons_zero, List.set_cons_succ])
              refine wpAnyH_ready (rs := [9]) (by kernel_rfl) (by simp) (AllReadyH.cons rfl (fun K hK => ?_) AllReadyH.nil)
              go_simp
              refine hK.out _ _ trivial (fun hHeld => ?_)
              clear hK K
              (try simp only [Act.put, List.setIfInBounds_toArray, List.set_cons_zero, List.set_cons_succ])
              refine wpAnyH_take (i := 14) (oi := { dst := some 173, op := Op.indexAddr 117 (Operand.tmp 159) (Operand.tmp 160), type := 0, pos := "whole.go:185", after := #[{ on := 0, ground := Ground.data }, { on := 1, ground := Ground.data }, { on := 0, ground := Ground.phase }, { on := 1, ground := Ground.phase }, { on := 2, ground := Ground.textOnly Departure.lateStores }, { on := 3, ground := Ground.textOnly Departure.lateStores }, { on := 4, ground := Ground.textOnly Departure.lateStores }, { on := 5, ground := Ground.phase }, { on := 6, ground := Ground.phase }, { on := 7, ground := Ground.phase }, { on := 8, ground := Ground.phase }, { on := 9, ground := Ground.phase }, { on := 10, ground := Ground.textOnly Departure.lateStores }, { on := 11, ground := Ground.textOnly Departure.lateStores }, { on := 12, ground := Ground.textOnly Departure.lateStoresUnsure }, { on := 13, ground := Ground.phase }], guard := none }) (v := ?v31x14) rfl (by kernel_rfl) (by kernel_rfl) (by kernel_rfl) (fun _ _ _ h => h) (Or.inl ⟨by rfl, ?h31x14⟩) (by assumption) ?r31x14
              case h31x14 =>
                intro w' hSw
                (try dsimp only at hSw)
                go_simp
                first | done | with_reducible rfl | rfl
              (try simp only [Act.put, List.setIfInBounds_toArray, List.set_cons_zero, List.set_cons_succ])
              refine wpAnyH_ready (rs := [15]) (by kernel_rfl) (by simp) (AllReadyH.cons rfl (fun K hK => ?_) AllReadyH.nil)
              rw [if_pos (by rfl)]
              refine wp_store4 a0 a1 a2 a3 f0 f1 f2 f3 rfl rfl ?_
              unfold put4
              refine hK.out _ _ trivial (fun hHeld => ?_)
              clear hK K
              generalize ((((Wq.setCell ⟨g9, K * 4, none⟩ (.string y.pod)).setCell ⟨g9, K * 4 + 1, none⟩ (.string y.cont)).setCell ⟨g9, K * 4 + 2, none⟩ (.int .u64 y.cpus)).setCell ⟨g9, K * 4 + 3, none⟩ (.slice y.da y.dn y.dc)) = W2 at *
              refine wpAnyH_take (i := 16) (oi := { dst := some 174, op := Op.indexAddr 117 (Operand.tmp 161) (Operand.tmp 163), type := 0, pos := "whole.go:185", after := #[{ on := 2, ground := Ground.data }, { on := 4, ground := Ground.data }, { on := 0, ground := Ground.phase }, { on := 1, ground := Ground.phase }, { on := 2, ground := Ground.phase }, { on := 3, ground := Ground.phase }, { on := 4, ground := Ground.phase }, { on := 5, ground := Ground.phase }, { on := 6, ground := Ground.phase }, { on := 7, ground := Ground.phase }, { on := 8, ground := Ground.phase }, { on := 9, ground := Ground.phase }, { on := 10, ground := Ground.phase }, { on := 11, ground := Ground.phase }, { on := 12, ground := Ground.phase }, { on := 13, ground := Ground.phase }, { on := 14, ground := Ground.phase }, { on := 15, ground := Ground.phase }], guard := none }) (v := ?v32x16) rfl (by kernel_rfl) (by kernel_rfl) (by kernel_rfl) (fun _ _ _ h => h) (Or.inl ⟨by rfl, ?h32x16⟩) (by assumption) ?r32x16
              case h32x16 =>
                intro w' hSw
                (try dsimp only at hSw)
                go_simp
                first | done | with_reducible rfl | rfl
              (try simp only [Act.put, List.setIfInBounds_toArray, List.set_cons_zero, List.set_cons_succ])
              refine wpAnyH_ready (rs := [17]) (by kernel_rfl) (by simp) (AllReadyH.cons rfl (fun K hK => ?_) AllReadyH.nil)
              rw [if_pos (by rfl)]
              refine wp_store4 d0 d1 d2 d3 e0 e1 e2 e3 rfl rfl ?_
              unfold put4
              refine hK.out _ _ trivial (fun hHeld => ?_)
              clear hK K
              refine wpAnyH_done (by kernel_rfl) ?_ _
              go_wp2_with fail
              go_roundw
              case rel => exact ⟨kk, by omega, by go_num, HS1.out, HS3.out, HS4.out, HC1.out⟩
              case measure => simp [intOf]; omega
          · have HEND := hideIt (HEND0.out (HNOT.out (fun h => by
              rcases HLT.out.1 h with h1 | ⟨_, h1⟩
              · exact absurd (p1.symm.trans h1) (by decide)
              · exact absurd (p3.symm.trans h1) (by decide))))
            clear HCN HEND0 HLT HNOT hpe HSW HHF
            as_aux_lemma =>
            go_wp2_with fail
            go_quiet (fail)
            go_wp2_with fail
            refine ⟨rfl, Fr.mk (by kernel_rfl) ?_⟩
            exact ⟨K, by omega, HW.out, below_drewN HB.out nq, HK.out, HC0.out, .inr HEND.out⟩
        · have HEND := hideIt (HEND0.out (HNOT.out (fun h => by
            rcases HLT.out.1 h with h1 | ⟨h1, _⟩
            · exact absurd (p1.symm.trans h1) (by decide)
            · exact absurd h1 (of_decide_eq_false ((eq_strR _ _).symm.trans p2)))))
          clear HCN HEND0 HLT HNOT HSW HHF
          as_aux_lemma =>
          go_wp2_with fail
          go_quiet (fail)
          go_wp2_with fail
          refine ⟨rfl, Fr.mk (by kernel_rfl) ?_⟩
          exact ⟨K, by omega, HW.out, below_drewN HB.out nq, HK.out, HC0.out, .inr HEND.out⟩
end Go.Proofs.Ythekalhceamcoaa
