/- 'EngineSays': the loop that looks a name up. -/
import Derived.Test.YthekalhceamcoaaRN6
namespace Go.Proofs.Ythekalhceamcoaa
open Go.RowKit
theorem NormalAt.mk {R : Act → World → Prop} {a : Act} {w : World} (h : R a w) : NormalAt R .normal a w := h
noncomputable def findBody : Code := ((Try.f13.body.map loopsOf).getD []).getD 1 .skip
set_option maxRecDepth 100000 in
set_option maxHeartbeats 8000000 in
theorem findLoop {c0 c1 c2 c3 c4 c5 c6 c8 c9 c10 c14 c15 c16 c17 c18 c19 c20 c21 c22 c23 c24 c25 c26 c27 c28 c29 c30 c31 c32 c33 c34 c35 c36 c37 c38 c39 c40 c41 c42 c43 c44 c45 c46 c47 c48 c49 c50 c51 c52 c53 c54 c55 c56 c57 c58 c59 c60 c61 c62 c63 c64 c65 c66 c67 c68 c69 c70 c71 c72 c73 c74 c75 c76 c77 c78 c79 c80 c81 c82 c83 c84 c85 c86 c87 c88 c89 c90 c91 c92 c93 c94 c95 c96 c97 c98 c99 c100 c101 c102 c103 c104 c105 c106 c107 c108 c109 c110 c111 c112 c113 c114 c115 c116 c117 c118 c119 c120 c121 c122 c123 c124 c125 c126 c127 c128 c129 c130 c131 c132 c133 c134 c135 c136 c137 c138 c139 c140 c141 c142 c143 c144 c145 c146 c147 c148 c149 c150 c151 c152 c153 c154 c155 c156 c157 c158 c159 c160 c161 c162 c163 c164 c165 c166 c167 c168 c169 c170 c171 c172 c173 c174 c175 c176 c177 c178 c179 c180 c181 c182 c183 c184 c185 c186 c187 c188 c189 c190 c191 c192 c193 c194 c195 c196 c197 c198 c199 c200 c201 c202 c203 c204 c205 c206 c207 c208 c209 c210 c211 c212 c213 c214 c215 c216 c217 c218 c219 c220 c221 c222 c223 c224 c225 c226 : Value} {D S : Nat} {ra : Option Addr} {rc : Nat} {rs : List RV} {s cn : ByteArray} {cp : Int} {lva : Option Addr} {lvl lvc : Nat} {W : World} (h60 : rs.length ≤ 60) (hDW : D + 1 < W.heap.size)
    (HROW : Hid (RRow S W (.slice ra rs.length rc) rs)) (HR3 : Hid (RBox W (D + 1) ⟨s, cn, cp, lva, lvl, lvc⟩))
    : Code.wp Try.prog (Code.loop findBody) (ExitAt 2 (Fr (fun F => ⟨List.toArray (c0 :: c1 :: c2 :: c3 :: c4 :: c5 :: c6 :: .slice ra rs.length rc :: c8 :: c9 :: c10 :: .pointer (some ⟨D + 1, 0, none⟩) :: F 12 :: F 13 :: c14 :: c15 :: c16 :: c17 :: c18 :: c19 :: c20 :: c21 :: c22 :: c23 :: c24 :: c25 :: c26 :: c27 :: c28 :: c29 :: c30 :: c31 :: c32 :: c33 :: c34 :: c35 :: c36 :: c37 :: c38 :: c39 :: c40 :: c41 :: c42 :: c43 :: c44 :: c45 :: c46 :: c47 :: c48 :: c49 :: c50 :: c51 :: c52 :: c53 :: c54 :: c55 :: c56 :: c57 :: F 58 :: F 59 :: F 60 :: F 61 :: F 62 :: F 63 :: F 64 :: F 65 :: F 66 :: F 67 :: F 68 :: F 69 :: F 70 :: F 71 :: F 72 :: F 73 :: F 74 :: F 75 :: F 76 :: F 77 :: F 78 :: F 79 :: F 80 :: F 81 :: F 82 :: c83 :: c84 :: c85 :: c86 :: c87 :: c88 :: c89 :: c90 :: c91 :: c92 :: c93 :: c94 :: c95 :: c96 :: c97 :: c98 :: c99 :: c100 :: c101 :: c102 :: c103 :: c104 :: c105 :: c106 :: c107 :: c108 :: c109 :: c110 :: c111 :: c112 :: c113 :: c114 :: c115 :: c116 :: c117 :: c118 :: c119 :: c120 :: c121 :: c122 :: c123 :: c124 :: c125 :: c126 :: c127 :: c128 :: c129 :: c130 :: c131 :: c132 :: c133 :: c134 :: c135 :: c136 :: c137 :: c138 :: c139 :: c140 :: c141 :: c142 :: c143 :: c144 :: c145 :: c146 :: c147 :: c148 :: c149 :: c150 :: c151 :: c152 :: c153 :: c154 :: c155 :: c156 :: c157 :: c158 :: c159 :: c160 :: c161 :: c162 :: c163 :: c164 :: c165 :: c166 :: c167 :: c168 :: c169 :: c170 :: c171 :: c172 :: c173 :: c174 :: c175 :: c176 :: c177 :: c178 :: c179 :: c180 :: c181 :: c182 :: c183 :: c184 :: c185 :: c186 :: c187 :: c188 :: c189 :: c190 :: c191 :: c192 :: c193 :: c194 :: c195 :: c196 :: c197 :: c198 :: c199 :: c200 :: c201 :: c202 :: c203 :: c204 :: c205 :: c206 :: c207 :: c208 :: c209 :: c210 :: c211 :: c212 :: c213 :: c214 :: c215 :: c216 :: c217 :: c218 :: c219 :: c220 :: c221 :: c222 :: c223 :: c224 :: c225 :: c226 :: []), []⟩) (fun F w' => AtV rs s cn rs.length (F 12) ∧ Below W.heap.size W w'))) ⟨List.toArray (c0 :: c1 :: c2 :: c3 :: c4 :: c5 :: c6 :: .slice ra rs.length rc :: c8 :: c9 :: c10 :: .pointer (some ⟨D + 1, 0, none⟩) :: .int .i64 (-1) :: .int .i64 0 :: c14 :: c15 :: c16 :: c17 :: c18 :: c19 :: c20 :: c21 :: c22 :: c23 :: c24 :: c25 :: c26 :: c27 :: c28 :: c29 :: c30 :: c31 :: c32 :: c33 :: c34 :: c35 :: c36 :: c37 :: c38 :: c39 :: c40 :: c41 :: c42 :: c43 :: c44 :: c45 :: c46 :: c47 :: c48 :: c49 :: c50 :: c51 :: c52 :: c53 :: c54 :: c55 :: c56 :: c57 :: c58 :: c59 :: c60 :: c61 :: c62 :: c63 :: c64 :: c65 :: c66 :: c67 :: c68 :: c69 :: c70 :: c71 :: c72 :: c73 :: c74 :: c75 :: c76 :: c77 :: c78 :: c79 :: c80 :: c81 :: c82 :: c83 :: c84 :: c85 :: c86 :: c87 :: c88 :: c89 :: c90 :: c91 :: c92 :: c93 :: c94 :: c95 :: c96 :: c97 :: c98 :: c99 :: c100 :: c101 :: c102 :: c103 :: c104 :: c105 :: c106 :: c107 :: c108 :: c109 :: c110 :: c111 :: c112 :: c113 :: c114 :: c115 :: c116 :: c117 :: c118 :: c119 :: c120 :: c121 :: c122 :: c123 :: c124 :: c125 :: c126 :: c127 :: c128 :: c129 :: c130 :: c131 :: c132 :: c133 :: c134 :: c135 :: c136 :: c137 :: c138 :: c139 :: c140 :: c141 :: c142 :: c143 :: c144 :: c145 :: c146 :: c147 :: c148 :: c149 :: c150 :: c151 :: c152 :: c153 :: c154 :: c155 :: c156 :: c157 :: c158 :: c159 :: c160 :: c161 :: c162 :: c163 :: c164 :: c165 :: c166 :: c167 :: c168 :: c169 :: c170 :: c171 :: c172 :: c173 :: c174 :: c175 :: c176 :: c177 :: c178 :: c179 :: c180 :: c181 :: c182 :: c183 :: c184 :: c185 :: c186 :: c187 :: c188 :: c189 :: c190 :: c191 :: c192 :: c193 :: c194 :: c195 :: c196 :: c197 :: c198 :: c199 :: c200 :: c201 :: c202 :: c203 :: c204 :: c205 :: c206 :: c207 :: c208 :: c209 :: c210 :: c211 :: c212 :: c213 :: c214 :: c215 :: c216 :: c217 :: c218 :: c219 :: c220 :: c221 :: c222 :: c223 :: c224 :: c225 :: c226 :: []), []⟩ W := by
  conv => enter [2, 1]; unfold findBody; whnf
  go_loopw [12, 13] (fun v i wq => ∃ q : Nat, q ≤ rs.length ∧ i = .int .i64 q ∧ AtV rs s cn q v ∧ Below W.heap.size W wq) (fun _ i _ => rs.length - (intOf i).toNat)
  case atStart => exact ⟨0, by omega, rfl, .inl ⟨rfl, fun j hj => by omega⟩, Below.refl _ _⟩
  case round =>
    obtain ⟨q, hq, rfl, hat, hB⟩ := hrel
    by_cases hql : q < rs.length
    · obtain ⟨_, _, hv, _, hrr⟩ := HROW.out.read
      cases hv
      obtain ⟨g, rfl, hgb, hgl, hcs2⟩ := hrr (by omega)
      obtain ⟨⟨z0, z1, _, _⟩, _⟩ := RowsR.block (W' := wr) hcs2 (hB.block g hgl) q hql
      obtain ⟨r0, r1, _, _⟩ := RBox.cells (show RBox wr (D + 1) ⟨s, cn, cp, lva, lvl, lvc⟩ from (hB.block (D + 1) (by omega)).trans HR3.out)
      dsimp only at r0 r1
      have HB := hideIt hB
      have HYES := hideIt (AtV.turn (rs := rs) (p := s) (c := cn) (q := q))
      have HNO := hideIt (hat.stay)
      clear hat hB hrr hcs2
      generalize rv rs q = y at *
      rcases two (y.pod.toList == s.toList) with e1 | e1
      · rcases two (y.cont.toList == cn.toList) with e2 | e2
        · have HNX := hideIt (HYES.out ⟨of_decide_eq_true ((eq_strR _ _).symm.trans e1), of_decide_eq_true ((eq_strR _ _).symm.trans e2)⟩)
          clear HYES HNO
          as_aux_lemma =>
          go_wp2_with fail
          go_quiet (fail)
          have HBe := hideIt (below_drewN HB.out nq)
          go_wp2_with fail
          go_roundw
          case rel => exact ⟨q + 1, by omega, by go_num, HNX.out, HBe.out⟩
          case measure => simp [intOf]; omega
        · have HNX := hideIt (HNO.out (fun h => absurd h.2 (of_decide_eq_false ((eq_strR _ _).symm.trans e2))))
          clear HYES HNO
          as_aux_lemma =>
          go_wp2_with fail
          go_quiet (fail)
          have HBe := hideIt (below_drewN HB.out nq)
          go_wp2_with fail
          go_roundw
          case rel => exact ⟨q + 1, by omega, by go_num, HNX.out, HBe.out⟩
          case measure => simp [intOf]; omega
      · have HNX := hideIt (HNO.out (fun h => absurd h.1 (of_decide_eq_false ((eq_strR _ _).symm.trans e1))))
        clear HYES HNO
        as_aux_lemma =>
        go_wp2_with fail
        go_quiet (fail)
        have HBe := hideIt (below_drewN HB.out nq)
        go_wp2_with fail
        go_roundw
        case rel => exact ⟨q + 1, by omega, by go_num, HNX.out, HBe.out⟩
        case measure => simp [intOf]; omega
    · have hqe : q = rs.length := by omega
      subst hqe
      have HB := hideIt hB
      have HAT := hideIt hat
      clear hat hB HROW HR3
      go_wp2_with fail
      refine ⟨rfl, Fr.mk (by kernel_rfl) ?_⟩
      exact ⟨HAT.out, HB.out⟩
/-- What stands behind the loop that looks a name up. -/
def behind2 : Code → Option Code
  | .seq a b => match hasLoop2 a with
    | true => some b
    | false => behind2 b
  | .block _ c => behind2 c
  | _ => none
where hasLoop2 : Code → Bool
  | .seq _ b => match b with
    | .block 2 _ => true
    | _ => false
  | _ => false
noncomputable def restCode : Code := (((Try.f13.body.map loopsOf).getD []).getD 0 .skip |> fun c => match c with | .seq _ (.seq c _) => (behind2 c).getD .skip | _ => .skip)
end Go.Proofs.Ythekalhceamcoaa
