/- 'EngineSays': one way of a round, behind the loop that looks a name up: arm. -/
import Derived.Test.YthekalhceamcoaaRN7
namespace Go.Proofs.Ythekalhceamcoaa
open Go.RowKit

set_option maxRecDepth 100000 in
set_option maxHeartbeats 8000000 in
theorem way_arm {c0 c1 c2 c3 c8 c9 c12 c13 c14 c15 c16 c17 c18 c19 c20 c21 c22 c23 c24 c25 c26 c27 c28 c29 c30 c31 c32 c33 c34 c35 c36 c37 c38 c39 c40 c41 c42 c43 c44 c45 c46 c47 c48 c49 c50 c51 c52 c53 c54 c55 c56 c57 c58 c59 c60 c61 c62 c63 c64 c65 c66 c67 c68 c69 c70 c71 c72 c73 c74 c75 c76 c77 c78 c79 c80 c81 c82 c83 c84 c85 c86 c87 c88 c89 c90 c91 c92 c93 c94 c95 c96 c97 c98 c99 c100 c101 c102 c103 c104 c105 c106 c107 c108 c109 c110 c111 c112 c113 c114 c115 c116 c117 c118 c119 c120 c121 c122 c123 c124 c125 c126 c127 c128 c129 c130 c131 c132 c133 c134 c135 c136 c137 c138 c139 c140 c141 c142 c143 c144 c145 c146 c147 c148 c149 c150 c151 c152 c153 c154 c155 c156 c157 c158 c159 c160 c161 c162 c163 c164 c165 c166 c167 c168 c169 c170 c171 c172 c173 c174 c175 c176 c177 c178 c179 c180 c181 c182 c183 c184 c185 c186 c187 c188 c189 c190 c191 c192 c193 c194 c195 c196 c197 c198 c199 c200 c201 c202 c203 c204 c205 c206 c207 c208 c209 c210 c211 c212 c213 c214 c215 c216 c217 c218 c219 c220 c221 c222 c223 c224 c225 c226 : Value} {D S k an : Nat} {ra : Option Addr} {rc n : Nat} {rs xs : List RV} {kd s cn : ByteArray} {xa xb : Int} {m : Nat} {cp : Int} {lva : Option Addr} {lvl lvc : Nat} {nm : ByteArray} {pr : Int} {cva : Option Addr} {cvl cvc : Nat} {uva : Option Addr} {uvl uvc : Nat} {l : Int} {d : Bool} {fu : Int} {rd : Bool} {w1 wr : World}
    (h60 : an ≤ 60) (hlt : k < an) (_hrl : rs.length ≤ k) (_hnk : n ≤ k) (_hrc : rs.length ≤ rc) (hszr : S + 5 ≤ D) (hDW : D + 1 < wr.heap.size) (hxa : -9223372036854775808 ≤ xa ∧ xa ≤ 9223372036854775807)
    (HI4 : Hid (EInv w1 S wr (.slice ra rs.length rc) k l d fu rd n xs rs)) (HP4 : Hid ((xs.map (absR wr)).Perm (rs.map (absR wr)))) (HA4 : Hid (ActE wr D kd s xa xb m lva lvl lvc nm pr (.slice cva cvl cvc) (.slice uva uvl uvc)))
    (_HR4 : Hid (RBox wr (D + 1) ⟨s, cn, cp, lva, lvl, lvc⟩)) (_HX4 : Hid (ArgRun w1 wr ⟨s, cn, cp, lva, lvl, lvc⟩)) (HSY : Hid (Syn l d fu rd)) (_HAT : Hid (AtV rs s cn rs.length c12))
    (hk1 : (kd.toList == [115, 116, 97, 114, 116]) = false) (hk2 : (kd.toList == [115, 116, 111, 112]) = false) (hk3 : (kd.toList == [97, 114, 109]) = true)
    : Code.wp Try.prog restCode (NormalAt (Fr (fun F => ⟨List.toArray (c0 :: c1 :: c2 :: c3 :: .pointer (some ⟨S, 0, none⟩) :: .pointer (some ⟨S + 2, 0, none⟩) :: .pointer (some ⟨S + 3, 0, none⟩) :: F 7 :: c8 :: c9 :: .pointer (some ⟨D, 0, none⟩) :: .pointer (some ⟨D + 1, 0, none⟩) :: c12 :: c13 :: F 14 :: F 15 :: F 16 :: F 17 :: F 18 :: c19 :: c20 :: c21 :: c22 :: c23 :: c24 :: c25 :: c26 :: c27 :: c28 :: c29 :: c30 :: c31 :: c32 :: c33 :: c34 :: c35 :: c36 :: c37 :: c38 :: c39 :: c40 :: c41 :: c42 :: c43 :: c44 :: c45 :: c46 :: c47 :: c48 :: c49 :: c50 :: c51 :: c52 :: c53 :: c54 :: c55 :: c56 :: c57 :: c58 :: c59 :: c60 :: c61 :: c62 :: c63 :: c64 :: c65 :: c66 :: c67 :: c68 :: c69 :: c70 :: c71 :: c72 :: c73 :: c74 :: c75 :: c76 :: c77 :: c78 :: c79 :: c80 :: c81 :: c82 :: F 83 :: F 84 :: F 85 :: F 86 :: F 87 :: F 88 :: F 89 :: F 90 :: F 91 :: F 92 :: F 93 :: F 94 :: F 95 :: F 96 :: F 97 :: F 98 :: F 99 :: F 100 :: F 101 :: F 102 :: F 103 :: F 104 :: F 105 :: F 106 :: F 107 :: F 108 :: F 109 :: F 110 :: F 111 :: F 112 :: F 113 :: F 114 :: F 115 :: F 116 :: F 117 :: F 118 :: F 119 :: F 120 :: F 121 :: F 122 :: F 123 :: F 124 :: F 125 :: F 126 :: F 127 :: F 128 :: F 129 :: F 130 :: F 131 :: F 132 :: F 133 :: F 134 :: F 135 :: F 136 :: F 137 :: F 138 :: F 139 :: F 140 :: F 141 :: F 142 :: F 143 :: F 144 :: F 145 :: F 146 :: F 147 :: F 148 :: F 149 :: F 150 :: F 151 :: F 152 :: F 153 :: F 154 :: F 155 :: F 156 :: F 157 :: F 158 :: F 159 :: F 160 :: F 161 :: F 162 :: F 163 :: F 164 :: F 165 :: F 166 :: F 167 :: F 168 :: F 169 :: F 170 :: F 171 :: F 172 :: F 173 :: F 174 :: F 175 :: F 176 :: F 177 :: F 178 :: F 179 :: F 180 :: F 181 :: F 182 :: F 183 :: F 184 :: F 185 :: F 186 :: F 187 :: F 188 :: F 189 :: F 190 :: F 191 :: F 192 :: F 193 :: F 194 :: F 195 :: F 196 :: F 197 :: F 198 :: F 199 :: F 200 :: F 201 :: F 202 :: F 203 :: F 204 :: F 205 :: F 206 :: F 207 :: F 208 :: F 209 :: F 210 :: F 211 :: F 212 :: F 213 :: F 214 :: F 215 :: F 216 :: F 217 :: F 218 :: F 219 :: F 220 :: F 221 :: F 222 :: F 223 :: F 224 :: F 225 :: F 226 :: []), []⟩) (fun F w' => Rnd w1 S w' (F 7) (k + 1)))) ⟨List.toArray (c0 :: c1 :: c2 :: c3 :: .pointer (some ⟨S, 0, none⟩) :: .pointer (some ⟨S + 2, 0, none⟩) :: .pointer (some ⟨S + 3, 0, none⟩) :: .slice ra rs.length rc :: c8 :: c9 :: .pointer (some ⟨D, 0, none⟩) :: .pointer (some ⟨D + 1, 0, none⟩) :: c12 :: c13 :: c14 :: c15 :: c16 :: c17 :: c18 :: c19 :: c20 :: c21 :: c22 :: c23 :: c24 :: c25 :: c26 :: c27 :: c28 :: c29 :: c30 :: c31 :: c32 :: c33 :: c34 :: c35 :: c36 :: c37 :: c38 :: c39 :: c40 :: c41 :: c42 :: c43 :: c44 :: c45 :: c46 :: c47 :: c48 :: c49 :: c50 :: c51 :: c52 :: c53 :: c54 :: c55 :: c56 :: c57 :: c58 :: c59 :: c60 :: c61 :: c62 :: c63 :: c64 :: c65 :: c66 :: c67 :: c68 :: c69 :: c70 :: c71 :: c72 :: c73 :: c74 :: c75 :: c76 :: c77 :: c78 :: c79 :: c80 :: c81 :: c82 :: c83 :: c84 :: c85 :: c86 :: c87 :: c88 :: c89 :: c90 :: c91 :: c92 :: c93 :: c94 :: c95 :: c96 :: c97 :: c98 :: c99 :: c100 :: c101 :: c102 :: c103 :: c104 :: c105 :: c106 :: c107 :: c108 :: c109 :: c110 :: c111 :: c112 :: c113 :: c114 :: c115 :: c116 :: c117 :: c118 :: c119 :: c120 :: c121 :: c122 :: c123 :: c124 :: c125 :: c126 :: c127 :: c128 :: c129 :: c130 :: c131 :: c132 :: c133 :: c134 :: c135 :: c136 :: c137 :: c138 :: c139 :: c140 :: c141 :: c142 :: c143 :: c144 :: c145 :: c146 :: c147 :: c148 :: c149 :: c150 :: c151 :: c152 :: c153 :: c154 :: c155 :: c156 :: c157 :: c158 :: c159 :: c160 :: c161 :: c162 :: c163 :: c164 :: c165 :: c166 :: c167 :: c168 :: c169 :: c170 :: c171 :: c172 :: c173 :: c174 :: c175 :: c176 :: c177 :: c178 :: c179 :: c180 :: c181 :: c182 :: c183 :: c184 :: c185 :: c186 :: c187 :: c188 :: c189 :: c190 :: c191 :: c192 :: c193 :: c194 :: c195 :: c196 :: c197 :: c198 :: c199 :: c200 :: c201 :: c202 :: c203 :: c204 :: c205 :: c206 :: c207 :: c208 :: c209 :: c210 :: c211 :: c212 :: c213 :: c214 :: c215 :: c216 :: c217 :: c218 :: c219 :: c220 :: c221 :: c222 :: c223 :: c224 :: c225 :: c226 :: []), []⟩ wr := by
  obtain ⟨j0, hj0, hy0, hy1, hy2⟩ := info_parts infoRun
  obtain ⟨t0, _, t2, _, _⟩ := HA4.out.cells
  conv => enter [2]; unfold restCode; whnf
  have HARM := hideIt (arm_anyR S l xa d wr HI4.out.disk)
  go_wp2_with fail
  refine HARM.out.mono ?_
  rintro e w6 ⟨rfl, hz6, ho6⟩
  obtain ⟨hI6, hp6⟩ := HI4.out.restart HP4.out ho6 hz6 hxa
  obtain ⟨_, _, t2', _, _⟩ := ActE.cells (show ActE w6 D kd s xa xb m lva lvl lvc nm pr (.slice cva cvl cvc) (.slice uva uvl uvc) from (ho6.1.block D (by omega) (fun e => by have := Option.some.inj e; omega)).trans HA4.out)
  have f9 := (hI6.ref.cells).1
  have ff := hI6.ref.frozen 9
  by_cases hmx : xa < -1
  · have hm1 : max xa (-1) = -1 := by omega
    have hm2 : decide (xa < -1) = true := decide_eq_true hmx
    have HRN := hideIt (show Rnd w1 S (w6.setCell ⟨S + 3, 9, none⟩ (.int .i64 (-1))) (.slice ra rs.length rc) (k + 1) from by
      obtain ⟨p1, p2⟩ := hI6.stepped hp6 ((Only.refl _ _).set 9 _) (hI6.ref.set9 (-1)) (by omega)
      exact ⟨_, _, _, _, _, _, _, p1, ⟨HSY.out.1, fun _ => .inl ⟨by omega, by omega⟩⟩, p2⟩)
    clear hz6 ho6 hI6 hp6 HARM HI4 HP4 HA4 HSY
    as_aux_lemma =>
    go_wp2_with fail
    refine (Rnd.list HRN.out (by omega)).mono ?_
    rintro e w8 ⟨⟨v8, rfl, hsr⟩, hb8⟩
    have HSR := hideIt hsr
    have HR8 := hideIt (HRN.out.below hb8)
    clear hsr hb8 HRN
    as_aux_lemma =>
    go_wp2_with fail
    refine HSR.out.mono ?_
    rintro e w9 ⟨rfl, hb9⟩
    have HR9 := hideIt (HR8.out.below hb9)
    clear hb9 HR8 HSR
    as_aux_lemma =>
    go_wp2_with fail
    refine NormalAt.mk (Fr.mk (by kernel_rfl) ?_)
    exact HR9.out
  · have hm1 : max xa (-1) = xa := by omega
    have hm2 : decide (xa < -1) = false := decide_eq_false hmx
    have HRN := hideIt (show Rnd w1 S (w6.setCell ⟨S + 3, 9, none⟩ (.int .i64 xa)) (.slice ra rs.length rc) (k + 1) from by
      obtain ⟨p1, p2⟩ := hI6.stepped hp6 ((Only.refl _ _).set 9 _) (hI6.ref.set9 xa) hxa
      exact ⟨_, _, _, _, _, _, _, p1, ⟨HSY.out.1, fun _ => .inr rfl⟩, p2⟩)
    clear hz6 ho6 hI6 hp6 HARM HI4 HP4 HA4 HSY
    as_aux_lemma =>
    go_wp2_with fail
    refine (Rnd.list HRN.out (by omega)).mono ?_
    rintro e w8 ⟨⟨v8, rfl, hsr⟩, hb8⟩
    have HSR := hideIt hsr
    have HR8 := hideIt (HRN.out.below hb8)
    clear hsr hb8 HRN
    as_aux_lemma =>
    go_wp2_with fail
    refine HSR.out.mono ?_
    rintro e w9 ⟨rfl, hb9⟩
    have HR9 := hideIt (HR8.out.below hb9)
    clear hb9 HR8 HSR
    as_aux_lemma =>
    go_wp2_with fail
    refine NormalAt.mk (Fr.mk (by kernel_rfl) ?_)
    exact HR9.out
end Go.Proofs.Ythekalhceamcoaa
