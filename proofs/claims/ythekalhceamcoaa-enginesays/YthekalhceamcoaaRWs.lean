/- 'EngineSays': one way of a round, behind the loop that looks a name up: start. -/
import Derived.Test.YthekalhceamcoaaRN7
namespace Go.Proofs.Ythekalhceamcoaa
open Go.RowKit

set_option maxRecDepth 100000 in
set_option maxHeartbeats 8000000 in
theorem way_start {c0 c1 c2 c3 c8 c9 c12 c13 c14 c15 c16 c17 c18 c19 c20 c21 c22 c23 c24 c25 c26 c27 c28 c29 c30 c31 c32 c33 c34 c35 c36 c37 c38 c39 c40 c41 c42 c43 c44 c45 c46 c47 c48 c49 c50 c51 c52 c53 c54 c55 c56 c57 c58 c59 c60 c61 c62 c63 c64 c65 c66 c67 c68 c69 c70 c71 c72 c73 c74 c75 c76 c77 c78 c79 c80 c81 c82 c83 c84 c85 c86 c87 c88 c89 c90 c91 c92 c93 c94 c95 c96 c97 c98 c99 c100 c101 c102 c103 c104 c105 c106 c107 c108 c109 c110 c111 c112 c113 c114 c115 c116 c117 c118 c119 c120 c121 c122 c123 c124 c125 c126 c127 c128 c129 c130 c131 c132 c133 c134 c135 c136 c137 c138 c139 c140 c141 c142 c143 c144 c145 c146 c147 c148 c149 c150 c151 c152 c153 c154 c155 c156 c157 c158 c159 c160 c161 c162 c163 c164 c165 c166 c167 c168 c169 c170 c171 c172 c173 c174 c175 c176 c177 c178 c179 c180 c181 c182 c183 c184 c185 c186 c187 c188 c189 c190 c191 c192 c193 c194 c195 c196 c197 c198 c199 c200 c201 c202 c203 c204 c205 c206 c207 c208 c209 c210 c211 c212 c213 c214 c215 c216 c217 c218 c219 c220 c221 c222 c223 c224 c225 c226 : Value} {D S k an : Nat} {ra : Option Addr} {rc n : Nat} {rs xs : List RV} {kd s cn : ByteArray} {xa xb : Int} {m : Nat} {cp : Int} {lva : Option Addr} {lvl lvc : Nat} {nm : ByteArray} {pr : Int} {cva : Option Addr} {cvl cvc : Nat} {uva : Option Addr} {uvl uvc : Nat} {l : Int} {d : Bool} {fu : Int} {rd : Bool} {w1 wr : World}
    (h60 : an ≤ 60) (hlt : k < an) (hrl : rs.length ≤ k) (hnk : n ≤ k) (_hrc : rs.length ≤ rc) (hszr : S + 5 ≤ D) (hDW : D + 1 < wr.heap.size) (_hxa : -9223372036854775808 ≤ xa ∧ xa ≤ 9223372036854775807)
    (HI4 : Hid (EInv w1 S wr (.slice ra rs.length rc) k l d fu rd n xs rs)) (HP4 : Hid ((xs.map (absR wr)).Perm (rs.map (absR wr)))) (HA4 : Hid (ActE wr D kd s xa xb m lva lvl lvc nm pr (.slice cva cvl cvc) (.slice uva uvl uvc)))
    (HR4 : Hid (RBox wr (D + 1) ⟨s, cn, cp, lva, lvl, lvc⟩)) (HX4 : Hid (ArgRun w1 wr ⟨s, cn, cp, lva, lvl, lvc⟩)) (HSY : Hid (Syn l d fu rd)) (HAT : Hid (AtV rs s cn rs.length c12))
    (hk1 : (kd.toList == [115, 116, 97, 114, 116]) = true)
    : Code.wp Try.prog restCode (NormalAt (Fr (fun F => ⟨List.toArray (c0 :: c1 :: c2 :: c3 :: .pointer (some ⟨S, 0, none⟩) :: .pointer (some ⟨S + 2, 0, none⟩) :: .pointer (some ⟨S + 3, 0, none⟩) :: F 7 :: c8 :: c9 :: .pointer (some ⟨D, 0, none⟩) :: .pointer (some ⟨D + 1, 0, none⟩) :: c12 :: c13 :: F 14 :: F 15 :: F 16 :: F 17 :: F 18 :: c19 :: c20 :: c21 :: c22 :: c23 :: c24 :: c25 :: c26 :: c27 :: c28 :: c29 :: c30 :: c31 :: c32 :: c33 :: c34 :: c35 :: c36 :: c37 :: c38 :: c39 :: c40 :: c41 :: c42 :: c43 :: c44 :: c45 :: c46 :: c47 :: c48 :: c49 :: c50 :: c51 :: c52 :: c53 :: c54 :: c55 :: c56 :: c57 :: c58 :: c59 :: c60 :: c61 :: c62 :: c63 :: c64 :: c65 :: c66 :: c67 :: c68 :: c69 :: c70 :: c71 :: c72 :: c73 :: c74 :: c75 :: c76 :: c77 :: c78 :: c79 :: c80 :: c81 :: c82 :: F 83 :: F 84 :: F 85 :: F 86 :: F 87 :: F 88 :: F 89 :: F 90 :: F 91 :: F 92 :: F 93 :: F 94 :: F 95 :: F 96 :: F 97 :: F 98 :: F 99 :: F 100 :: F 101 :: F 102 :: F 103 :: F 104 :: F 105 :: F 106 :: F 107 :: F 108 :: F 109 :: F 110 :: F 111 :: F 112 :: F 113 :: F 114 :: F 115 :: F 116 :: F 117 :: F 118 :: F 119 :: F 120 :: F 121 :: F 122 :: F 123 :: F 124 :: F 125 :: F 126 :: F 127 :: F 128 :: F 129 :: F 130 :: F 131 :: F 132 :: F 133 :: F 134 :: F 135 :: F 136 :: F 137 :: F 138 :: F 139 :: F 140 :: F 141 :: F 142 :: F 143 :: F 144 :: F 145 :: F 146 :: F 147 :: F 148 :: F 149 :: F 150 :: F 151 :: F 152 :: F 153 :: F 154 :: F 155 :: F 156 :: F 157 :: F 158 :: F 159 :: F 160 :: F 161 :: F 162 :: F 163 :: F 164 :: F 165 :: F 166 :: F 167 :: F 168 :: F 169 :: F 170 :: F 171 :: F 172 :: F 173 :: F 174 :: F 175 :: F 176 :: F 177 :: F 178 :: F 179 :: F 180 :: F 181 :: F 182 :: F 183 :: F 184 :: F 185 :: F 186 :: F 187 :: F 188 :: F 189 :: F 190 :: F 191 :: F 192 :: F 193 :: F 194 :: F 195 :: F 196 :: F 197 :: F 198 :: F 199 :: F 200 :: F 201 :: F 202 :: F 203 :: F 204 :: F 205 :: F 206 :: F 207 :: F 208 :: F 209 :: F 210 :: F 211 :: F 212 :: F 213 :: F 214 :: F 215 :: F 216 :: F 217 :: F 218 :: F 219 :: F 220 :: F 221 :: F 222 :: F 223 :: F 224 :: F 225 :: F 226 :: []), []⟩) (fun F w' => Rnd w1 S w' (F 7) (k + 1)))) ⟨List.toArray (c0 :: c1 :: c2 :: c3 :: .pointer (some ⟨S, 0, none⟩) :: .pointer (some ⟨S + 2, 0, none⟩) :: .pointer (some ⟨S + 3, 0, none⟩) :: .slice ra rs.length rc :: c8 :: c9 :: .pointer (some ⟨D, 0, none⟩) :: .pointer (some ⟨D + 1, 0, none⟩) :: c12 :: c13 :: c14 :: c15 :: c16 :: c17 :: c18 :: c19 :: c20 :: c21 :: c22 :: c23 :: c24 :: c25 :: c26 :: c27 :: c28 :: c29 :: c30 :: c31 :: c32 :: c33 :: c34 :: c35 :: c36 :: c37 :: c38 :: c39 :: c40 :: c41 :: c42 :: c43 :: c44 :: c45 :: c46 :: c47 :: c48 :: c49 :: c50 :: c51 :: c52 :: c53 :: c54 :: c55 :: c56 :: c57 :: c58 :: c59 :: c60 :: c61 :: c62 :: c63 :: c64 :: c65 :: c66 :: c67 :: c68 :: c69 :: c70 :: c71 :: c72 :: c73 :: c74 :: c75 :: c76 :: c77 :: c78 :: c79 :: c80 :: c81 :: c82 :: c83 :: c84 :: c85 :: c86 :: c87 :: c88 :: c89 :: c90 :: c91 :: c92 :: c93 :: c94 :: c95 :: c96 :: c97 :: c98 :: c99 :: c100 :: c101 :: c102 :: c103 :: c104 :: c105 :: c106 :: c107 :: c108 :: c109 :: c110 :: c111 :: c112 :: c113 :: c114 :: c115 :: c116 :: c117 :: c118 :: c119 :: c120 :: c121 :: c122 :: c123 :: c124 :: c125 :: c126 :: c127 :: c128 :: c129 :: c130 :: c131 :: c132 :: c133 :: c134 :: c135 :: c136 :: c137 :: c138 :: c139 :: c140 :: c141 :: c142 :: c143 :: c144 :: c145 :: c146 :: c147 :: c148 :: c149 :: c150 :: c151 :: c152 :: c153 :: c154 :: c155 :: c156 :: c157 :: c158 :: c159 :: c160 :: c161 :: c162 :: c163 :: c164 :: c165 :: c166 :: c167 :: c168 :: c169 :: c170 :: c171 :: c172 :: c173 :: c174 :: c175 :: c176 :: c177 :: c178 :: c179 :: c180 :: c181 :: c182 :: c183 :: c184 :: c185 :: c186 :: c187 :: c188 :: c189 :: c190 :: c191 :: c192 :: c193 :: c194 :: c195 :: c196 :: c197 :: c198 :: c199 :: c200 :: c201 :: c202 :: c203 :: c204 :: c205 :: c206 :: c207 :: c208 :: c209 :: c210 :: c211 :: c212 :: c213 :: c214 :: c215 :: c216 :: c217 :: c218 :: c219 :: c220 :: c221 :: c222 :: c223 :: c224 :: c225 :: c226 :: []), []⟩ wr := by
  obtain ⟨j0, hj0, hy0, hy1, hy2⟩ := info_parts infoRun
  obtain ⟨t0, _, t2, _, _⟩ := HA4.out.cells
  conv => enter [2]; unfold restCode; whnf
  have HST := hideIt (refStep_any (S + 3) fu rd wr HI4.out.ref HI4.out.fb)
  go_wp2_with fail
  refine HST.out.mono ?_
  rintro e w6 ⟨rfl, hz6, ho6⟩
  obtain ⟨hse, hsy6⟩ := HSY.out.step
  rw [hse]
  obtain ⟨hI6, hp6⟩ := HI4.out.stepped HP4.out ho6 hz6 (refL_in HI4.out.fb)
  have hR6 : RBox w6 (D + 1) ⟨s, cn, cp, lva, lvl, lvc⟩ := (ho6.1.block (D + 1) (by omega) (fun e => by have := Option.some.inj e; omega)).trans HR4.out
  have hx6 := (argRun_keep HX4.out HI4.out.bel hI6.bel (Nat.le_of_eq ho6.2.symm)).1
  have hany := has_same hp6 s cn
  have hDW6 : D + 1 < w6.heap.size := by rw [ho6.2]; exact hDW
  have HSTA := hideIt (start_any (S + 2) S (S + 1) n xs ⟨s, cn, cp, lva, lvl, lvc⟩ l d w6 hI6.eng hI6.map hI6.disk hI6.lb hx6.1 hx6.2.1 (fun h0 g' o' e => by have := hx6.2.2.2 h0 g' o' e; have := hI6.ws; omega) (by have := hx6.2.2.1; omega) (by omega))
  dsimp only at HSTA
  rw [hany] at HSTA
  obtain ⟨r0, r1, r2, r3⟩ := hR6.cells
  dsimp only at r0 r1 r2 r3
  have HI6 := hideIt hI6
  have HP6 := hideIt hp6
  have HR6 := hideIt hR6
  have HX6 := hideIt hx6
  have HSY6 := hideIt hsy6
  clear hI6 hp6 hR6 hx6 hsy6 hz6 ho6 HI4 HP4 HR4 HX4 HA4 HST hse hany t0 t2 HSY
  as_aux_lemma =>
  have hse11 : stepErr l d = 0 ∨ stepErr l d = 11 := by unfold stepErr; split <;> simp
  rcases hse11 with hse0 | hse0
  · rw [hse0]
    rcases HAT.out with ⟨hv, hall⟩ | ⟨j, hj, hv, hjk⟩
    · subst hv
      have hhas := AtV.none hall
      rw [hhas] at HSTA
      have HALL := hideIt hall
      clear hhas hall HAT
      as_aux_lemma =>
      have hf : startErr l d false = 0 := by unfold startErr; simp [hse0]
      rw [hf] at HSTA
      clear hf
      go_wp2_with fail
      refine HSTA.out.mono ?_
      rintro e w7 ⟨rfl, hst⟩
      obtain ⟨a', c', hm7, ho7, hd7⟩ := hst.yes rfl
      obtain ⟨hI7, hx7, hp7⟩ := HI6.out.started HP6.out HX6.out hst.out hst.disk (stepL_in HI6.out.lb) hm7 ho7 hd7
      have hR7 : RBox w7 (D + 1) ⟨s, cn, cp, lva, lvl, lvc⟩ := (hst.out.block (D + 1) (by omega) (by omega) (by omega)).trans HR6.out
      have hsz7 : S + 5 ≤ w7.heap.size := hI7.sz
      rw [show errV ((0 : Nat) : Int) = .nilIface from rfl]
      have HI7 := hideIt hI7
      have HX7 := hideIt hx7
      have HP7 := hideIt hp7
      obtain ⟨q0, q1, q2, q3⟩ := hR7.cells
      dsimp only at q0 q1 q2 q3
      clear hst hm7 ho7 hd7 hI7 hx7 hp7 hR7 HSTA HI6 HP6 HR6 HX6 r0 r1 r2 r3
      as_aux_lemma =>
      go_wp2_with fail
      refine (same_zeroE _).mono ?_
      rintro e w8 ⟨rfl, rfl⟩
      have hbA := (Below.refl w8.heap.size w8).alloc (Nat.le_refl _) (.cells #[.string s, .string cn, .int .u64 cp, .slice lva lvl lvc] 119)
      have HROW := hideIt (HI7.out.below hbA).row
      have HBA := hideIt hbA
      have HNR := hideIt (new_run w8 ⟨s, cn, cp, lva, lvl, lvc⟩ 119)
      dsimp only at HNR
      clear hbA
      as_aux_lemma =>
      go_wp2_with (at_builtin; refine wpList_append_own _ rfl _ _ 117 rfl (S + 5) 119 j0 (.agg #[.string ByteArray.empty, .string ByteArray.empty, .int .u64 0, .slice none 0 0]) 4 64 Try.underlying117 hj0 hy0 hy1 hy2 rfl (by decide) (.slice ra rs.length rc) _ _ rfl HROW.out ⟨_, 0, none⟩ 1 1 (RV.cells ⟨s, cn, cp, lva, lvl, lvc⟩) rfl rfl HNR.out (by intro u hu; simp [RV.cells] at hu; rcases hu with rfl | rfl | rfl | rfl <;> rfl) (by unfold maxLen; omega) (by omega) (by simp; omega) ?_; intro v9 w9 hown' hgrow' _; obtain ⟨g9, cap9, rfl⟩ := ownsRow_succ hown'; have HO9 := hideIt hown'; have HG9 := hideIt hgrow'; clear hown' hgrow')
      obtain ⟨hki9, hbl9⟩ := grow_row HROW.out HG9.out (by simp; omega)
      have HK9 := hideIt ((KInt.below HBA.out).trans hki9)
      have HB9 := hideIt ((HBA.out.mono hsz7).trans hbl9)
      have HW9 : Hid (RRow (S + 5) w9 (.slice (some ⟨g9, 0, none⟩) (rs.length + 1) cap9) (insAt rs rs.length ⟨s, cn, cp, lva, lvl, lvc⟩)) := by
        unfold Hid
        rw [ins_end]
        exact RRow.push HO9.out
      clear hki9 hbl9 HO9 HG9 HROW HBA HNR q0 q1 q2 q3
      as_aux_lemma =>
      refine wp_exitAt (insLoop (by omega) (by go_num) HW9.out HB9.out HK9.out hsz7 HALL.out) (fun a w' hfr => ?_)
      obtain ⟨F, rfl, K, hKl, hWK, hBK, hKK, hCK, hEK⟩ := hfr
      have HRN := hideIt (HI7.out.listed HX7.out HP7.out hrl hBK hKK hWK (asc_ins HI7.out.asc hKl hCK hEK) (ins_perm _ _ _) HSY6.out)
      clear hWK hBK hKK hCK hEK HW9 HB9 HK9 HI7 HX7 HP7
      as_aux_lemma =>
      go_wp2_with fail
      refine (Rnd.list HRN.out (by omega)).mono ?_
      rintro e w8 ⟨⟨v8, rfl, hsr⟩, hb8⟩
      have HSR := hideIt hsr
      have HR8 := hideIt (HRN.out.below hb8)
      clear hsr hb8 HRN
      as_aux_lemma =>
      go_wp2_with fail
      refine HSR.out.mono ?_
      rintro e w9 ⟨rfl, hb9⟩
      have HR9 := hideIt (HR8.out.below hb9)
      clear hb9 HR8 HSR
      as_aux_lemma =>
      go_wp2_with fail
      refine NormalAt.mk (Fr.mk (by kernel_rfl) ?_)
      exact HR9.out
    · subst hv
      have hhas := AtV.some hj hjk
      rw [hhas] at HSTA
      have HJK := hideIt hjk
      clear hhas hjk HAT
      as_aux_lemma =>
      have hf : startErr l d true = 5 := by unfold startErr; simp [hse0]
      rw [hf] at HSTA
      clear hf
      go_wp2_with fail
      refine HSTA.out.mono ?_
      rintro e w7 ⟨rfl, hst⟩
      have HRN := hideIt (HI6.out.quiet HP6.out hst.out hst.disk (stepL_in HI6.out.lb) (hst.no (by decide)) HSY6.out)
      rw [show errV ((5 : Nat) : Int) = .iface 133 (.int .i64 5) from rfl]
      clear hst HSTA HI6 HP6 HR6 HX6 HSY6 r0 r1 r2 r3
      as_aux_lemma =>
      go_wp2_with fail
      refine (same_posE 5 _ (by decide)).mono ?_
      rintro e w7' ⟨rfl, rfl⟩
      go_wp2_with fail
      refine (Rnd.list HRN.out (by omega)).mono ?_
      rintro e w8 ⟨⟨v8, rfl, hsr⟩, hb8⟩
      have HSR := hideIt hsr
      have HR8 := hideIt (HRN.out.below hb8)
      clear hsr hb8 HRN
      as_aux_lemma =>
      go_wp2_with fail
      refine HSR.out.mono ?_
      rintro e w9 ⟨rfl, hb9⟩
      have HR9 := hideIt (HR8.out.below hb9)
      clear hb9 HR8 HSR
      as_aux_lemma =>
      go_wp2_with fail
      refine NormalAt.mk (Fr.mk (by kernel_rfl) ?_)
      exact HR9.out
  · rw [hse0]
    generalize (rs.any fun y => decide (y.pod = s ∧ y.cont = cn)) = hs at *
    clear HAT
    as_aux_lemma =>
    have hf : startErr l d hs = 11 := by unfold startErr; simp [hse0]
    rw [hf] at HSTA
    clear hf
    go_wp2_with fail
    refine HSTA.out.mono ?_
    rintro e w7 ⟨rfl, hst⟩
    have HRN := hideIt (HI6.out.quiet HP6.out hst.out hst.disk (stepL_in HI6.out.lb) (hst.no (by decide)) HSY6.out)
    rw [show errV ((11 : Nat) : Int) = .iface 133 (.int .i64 11) from rfl]
    clear hst HSTA HI6 HP6 HR6 HX6 HSY6 r0 r1 r2 r3
    as_aux_lemma =>
    go_wp2_with fail
    refine (same_posE 11 _ (by decide)).mono ?_
    rintro e w7' ⟨rfl, rfl⟩
    go_wp2_with fail
    refine (Rnd.list HRN.out (by omega)).mono ?_
    rintro e w8 ⟨⟨v8, rfl, hsr⟩, hb8⟩
    have HSR := hideIt hsr
    have HR8 := hideIt (HRN.out.below hb8)
    clear hsr hb8 HRN
    as_aux_lemma =>
    go_wp2_with fail
    refine HSR.out.mono ?_
    rintro e w9 ⟨rfl, hb9⟩
    have HR9 := hideIt (HR8.out.below hb9)
    clear hb9 HR8 HSR
    as_aux_lemma =>
    go_wp2_with fail
    refine NormalAt.mk (Fr.mk (by kernel_rfl) ?_)
    exact HR9.out
end Go.Proofs.Ythekalhceamcoaa
