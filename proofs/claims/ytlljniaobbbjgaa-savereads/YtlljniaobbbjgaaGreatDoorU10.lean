/- VR8 -/
import Derived.Test.YtlljniaobbbjgaaGreatDoorU9
namespace Go.Proofs.YtlljniaobbbjgaaGreatDoor
open Go.RowKit Go.Shelf
open Ost (splitC)
open Qos (Nd Ct Pd nd ct pd)
open Sv (Gv Hd gv hd wd)
open S1 (Mx)
attribute [local go_sem] Oper.semAt_some
theorem heldQ_apart {K : Nat → Prop} {W W' : World} {base : Nat} {v : Value} {el : List Hp} {la : Hp} (h : HeldQ W base v el la) (hab : Apart K W W') (hK : ∀ j, K j → j < base) : HeldQ W' base v el la := by
  have hn : ∀ j, base ≤ j → ¬ K j := fun j hj hk => by have := hK j hk; omega
  have hone : ∀ p, OneQ W base (Free base v la) p → OneQ W' base (Free base v la) p := fun p hp =>
    hp.apart hab (fun j hj => hn j hj.1) (fun j _ hj => hj) (fun j hj => hn j (hp.rc.lt j hj).1) (fun j hj => hn j (hp.rg.lt j hj).1)
  exact ⟨row_kept h.row hab (fun j hj => hn j (h.row.lt j hj).1), fun p hp => ⟨hone p (h.hel p hp).1, (h.hel p hp).2⟩, hone _ h.hla, h.vc, h.vg, h.cg⟩
/-- What is held so far, none or some. -/
def SomeQ (W : World) (base : Nat) (v : Value) (hs : List Hd) : Prop := (hs = [] ∧ v = .slice none 0 0) ∨ ∃ el la, HeldQ W base v el la ∧ hs = (el ++ [la]).map Hp.hd
theorem SomeQ.apart {K : Nat → Prop} {W W' : World} {base : Nat} {v : Value} {hs : List Hd} (h : SomeQ W base v hs) (hab : Apart K W W') (hK : ∀ j, K j → j < base) : SomeQ W' base v hs := by
  rcases h with h | ⟨el, la, h, e⟩
  · exact .inl h
  · exact .inr ⟨el, la, heldQ_apart h hab hK, e⟩
theorem SomeQ.plain {W : World} {base : Nat} {v : Value} {hs : List Hd} (h : SomeQ W base v hs) : HldsAt W v hs := by
  rcases h with ⟨rfl, rfl⟩ | ⟨el, la, h, rfl⟩
  · exact ⟨none, 0, rfl, ⟨Nat.le_refl _, by unfold maxLen; omega⟩, fun h => by simp at h⟩
  · exact h.plain
theorem SomeQ.slice {W : World} {base : Nat} {v : Value} {hs : List Hd} (h : SomeQ W base v hs) : ∃ a c, v = .slice a hs.length c := by
  rcases h with ⟨rfl, rfl⟩ | ⟨el, la, h, rfl⟩
  · exact ⟨none, 0, rfl⟩
  · obtain ⟨a, c, hv, _⟩ := row_cap h.row
    exact ⟨a, c, by rw [hv]; simp⟩
theorem new_held (w : World) (nm : ByteArray) (pr : Int) (t : TypeId) : ∀ j u, (hCells ⟨nm, pr, [], [], .slice none 0 0, .slice none 0 0⟩)[j]? = some u → (w.alloc (.cells #[.string nm, .int .i64 pr, .slice none 0 0, .slice none 0 0] t)).cell? ((⟨w.heap.size, 0, none⟩ : Addr).add j) = some u := by
  intro j u hu
  rw [Addr.add_lit, Nat.zero_add]
  match j, hu with
  | 0, hu => simp [hCells] at hu; subst hu; simp
  | 1, hu => simp [hCells] at hu; subst hu; simp
  | 2, hu => simp [hCells] at hu; subst hu; simp
  | 3, hu => simp [hCells] at hu; subst hu; simp
  | j + 4, hu => simp [hCells] at hu
theorem hCells_one (nm : ByteArray) (pr : Int) : ∀ u ∈ hCells ⟨nm, pr, [], [], .slice none 0 0, .slice none 0 0⟩, u.oneCell' = true := by
  intro u hu
  simp [hCells] at hu
  rcases hu with rfl | rfl | rfl <;> rfl
theorem infoHeldV : (Tryz.prog.info? 67).map (fun i => (i.zero, i.size, i.bytes)) = some (some (.agg #[.string ByteArray.empty, .int .i64 0, .slice none 0 0, .slice none 0 0]), 4, 72) := by kernel_rfl
/-- One more. -/
theorem SomeQ.push {W : World} {base : Nat} {v : Value} {hs : List Hd} (h : SomeQ W base v hs) : ∃ ys, W.ownsRow base 67 4 v hs.length ys ∧ ∀ (o : Obj) (W2 : World) (v' : Value) (nm : ByteArray) (pr : Int), (W.alloc o).grownBy W2 v.ownBlock → W2.ownsRow base 67 4 v' (hs.length + 1) (ys ++ hCells ⟨nm, pr, [], [], .slice none 0 0, .slice none 0 0⟩) → (v'.ownBlock = v.ownBlock ∨ v'.ownBlock = some (W.alloc o).heap.size) → SomeQ W2 base v' (hs ++ [⟨⟨nm, pr, []⟩, []⟩]) := by
  rcases h with ⟨rfl, rfl⟩ | ⟨el, la, h, rfl⟩
  · exact ⟨[], World.ownsRow_nil _ _ _ _, fun o W2 v' nm pr _ hr _ => .inr ⟨[], _, heldQ_first (by simpa using hr), rfl⟩⟩
  · refine ⟨rowH (el ++ [la]), by simpa using h.row, fun o W2 v' nm pr hg hr hat => .inr ⟨el ++ [la], _, heldQ_pod h hg (by simpa using hr) hat, ?_⟩⟩
    rw [List.map_append (l₁ := el ++ [la])]; rfl
/-- Where the reading stands. -/
structure RInvH (w A : World) (wl : List (List (List UInt8))) (k : Nat) (W : World) : Prop where
  le : k ≤ wl.length
  b0 : Boxed W w.heap.size 22 (.slice none 0 0)
  b1 : Boxed W (w.heap.size + 1) 4 (.bool false)
  held : ∃ v hs, Boxed W (w.heap.size + 1 + 1) 22 v ∧ SomeQ W (A.heap.size + 2) v hs ∧ Sv.steps Sv.numS Sv.needS [] (wl.take k) = some hs ∧ hs.length ≤ k ∧ ∀ h ∈ hs, h.pod.cs.length ≤ k ∧ h.gs.length ≤ k
  below : Below w.heap.size w W
theorem RInvH.apart {w A : World} {wl : List (List (List UInt8))} {k : Nat} {B C : World} (h : RInvH w A wl k B) (hA : A.heap.size = w.heap.size + 1 + 1 + 1 + 1) (hab : Apart (fun j => j = w.heap.size + 1 + 1 + 1 ∨ j = A.heap.size + 1) B C) : RInvH w A wl k C := by
  obtain ⟨h1, h2, h3, ⟨v, hs, h5, h6, h7⟩, h8⟩ := h
  exact ⟨h1, hab.boxed h2 (by omega), hab.boxed h3 (by omega), ⟨v, hs, hab.boxed h5 (by omega), h6.apart hab (fun j hj => by omega), h7⟩, hab.below h8 (Nat.le_refl _) (fun j hj => by omega)⟩
theorem steps_more {wl : List (List (List UInt8))} {k : Nat} {hs : List Hd} (hk : k < wl.length) (h : Sv.steps Sv.numS Sv.needS [] (wl.take k) = some hs) : Sv.steps Sv.numS Sv.needS [] (wl.take (k + 1)) = Sv.step Sv.numS Sv.needS hs (wl.getD k []) := by
  rw [List.take_succ_eq_append_getElem hk, Sv.steps_app, h, Option.bind_some, show wl.getD k [] = wl[k] by simp [hk]]
  unfold Sv.steps
  cases Sv.step Sv.numS Sv.needS hs wl[k] <;> rfl
theorem steps_stop {wl : List (List (List UInt8))} {k : Nat} {hs : List Hd} (hk : k < wl.length) (h : Sv.steps Sv.numS Sv.needS [] (wl.take k) = some hs) (hn : Sv.step Sv.numS Sv.needS hs (wl.getD k []) = none) : Sv.steps Sv.numS Sv.needS [] wl = none := by
  rw [← List.take_append_drop k wl, Sv.steps_app, h, Option.bind_some, List.drop_eq_getElem_cons hk, Sv.steps, ← show wl.getD k [] = wl[k] by simp [hk], hn]
theorem bd_pod {hs : List Hd} {k : Nat} {nm : ByteArray} {pr : Int} (h : ∀ h ∈ hs, h.pod.cs.length ≤ k ∧ h.gs.length ≤ k) : ∀ h ∈ hs ++ [⟨⟨nm, pr, []⟩, []⟩], h.pod.cs.length ≤ k + 1 ∧ h.gs.length ≤ k + 1 := by
  intro x hx
  rcases List.mem_append.1 hx with hx | hx
  · have := h x hx; omega
  · rw [List.mem_singleton.1 hx]; simp
theorem held_cell {W : World} {base m n cap : Nat} {el : List Hp} {la : Hp} (h : HeldQ W base (.slice (some ⟨m, 0, none⟩) n cap) el la) {j : Nat} (hj : j < 4) : W.cell? ⟨m, el.length * 4 + j, none⟩ = (hCells la)[j]? := by
  obtain ⟨g, c, hv, _, _, _, _, hcell⟩ := row_form h.row (by omega)
  cases hv
  rw [hcell _ (by omega)]
  have := flat_at hCells 4 (fun x => rfl) (el ++ [la]) el.length j (by simp) hj
  rw [show rowH (el ++ [la]) = (el ++ [la]).flatMap hCells from rfl, this]
  simp
theorem add_map {el : List Hp} {la la' : Hp} {c : Ct} {g : Gv} (h : la'.hd = Sv.plusC la.hd c g) : Sv.addCont ((el ++ [la]).map Hp.hd) c g = (el ++ [la']).map Hp.hd := by
  rw [List.map_append, List.map_append, List.map_singleton, List.map_singleton, Sv.addCont_last, h]
theorem bd_cont {el : List Hp} {la la' : Hp} {k : Nat} (hc : la'.cl.length = la.cl.length + 1) (hg : la'.gl.length = la.gl.length + 1) (h : ∀ h ∈ (el ++ [la]).map Hp.hd, h.pod.cs.length ≤ k ∧ h.gs.length ≤ k) : ∀ h ∈ (el ++ [la']).map Hp.hd, h.pod.cs.length ≤ k + 1 ∧ h.gs.length ≤ k + 1 := by
  intro x hx
  rw [List.map_append, List.map_singleton] at hx h
  rcases List.mem_append.1 hx with hx | hx
  · have := h x (List.mem_append_left _ hx); omega
  · rw [List.mem_singleton.1 hx]
    have h2 := h la.hd (by simp)
    simp only [Hp.hd, List.length_map] at h2 ⊢
    omega
theorem cont_mid {W W6 : World} {base m cap g gcap bg : Nat} {el : List Hp} {la : Hp} {c : Ct} {nv dv cv : Value} {dvs : List Int} {o : Obj} (h : HeldQ W base (.slice (some ⟨m, 0, none⟩) (el.length + 1) cap) el la) (hn : NeedsQ W (Free base (.slice (some ⟨m, 0, none⟩) (el.length + 1) cap) la) nv c.ds)
    (hd : IntsQ W (Free base (.slice (some ⟨m, 0, none⟩) (el.length + 1) cap) la) dv dvs) (hcv : la.cv = cv) (hg : (W.alloc o).grownBy W6 cv.ownBlock) (hr : W6.ownsRow base 56 6 (.slice (some ⟨g, 0, none⟩) (la.cl.length + 1) gcap) (la.cl.length + 1) (rowC la.cl ++ cCells (c, nv)))
    (hat : cv.ownBlock = some g ∨ g = (W.alloc o).heap.size) (hbg : Free base (.slice (some ⟨m, 0, none⟩) (el.length + 1) cap) la bg) (hbl : bg < W.heap.size) :
    ∃ la2 : Hp, la2 = { la with cl := la.cl ++ [(c, nv)], cv := .slice (some ⟨g, 0, none⟩) (la.cl.length + 1) gcap } ∧ HeldQ (W6.setCell ⟨m, el.length * 4 + 2, none⟩ (.slice (some ⟨g, 0, none⟩) (la.cl.length + 1) gcap)) base (.slice (some ⟨m, 0, none⟩) (el.length + 1) cap) el la2 ∧
      IntsQ (W6.setCell ⟨m, el.length * 4 + 2, none⟩ (.slice (some ⟨g, 0, none⟩) (la.cl.length + 1) gcap)) (Free base (.slice (some ⟨m, 0, none⟩) (el.length + 1) cap) la2) dv dvs ∧
      Apart (fun j => base ≤ j) W (W6.setCell ⟨m, el.length * 4 + 2, none⟩ (.slice (some ⟨g, 0, none⟩) (la.cl.length + 1) gcap)) ∧ (W6.setCell ⟨m, el.length * 4 + 2, none⟩ (.slice (some ⟨g, 0, none⟩) (la.cl.length + 1) gcap)).heap[bg]? = W.heap[bg]? := by
  subst hcv
  have hat' : (Value.slice (some ⟨g, 0, none⟩) (la.cl.length + 1) gcap).ownBlock = la.cv.ownBlock ∨ (Value.slice (some ⟨g, 0, none⟩) (la.cl.length + 1) gcap).ownBlock = some (W.alloc o).heap.size := by
    rcases hat with e | e
    · exact .inl e.symm
    · exact .inr (by rw [← e]; rfl)
  have hsz : (W.alloc o).heap.size = W.heap.size + 1 := by simp
  have hm := h.row.lt m rfl
  have hap : Apart (fun j => la.cv.ownBlock = some j ∨ j = m) W (W6.setCell ⟨m, el.length * 4 + 2, none⟩ (.slice (some ⟨g, 0, none⟩) (la.cl.length + 1) gcap)) := ((grown_apart hg).wide fun _ => .inl).trans (Apart.setCell (.inr rfl) _ _ _)
  have hKf : ∀ j, Free base (.slice (some ⟨m, 0, none⟩) (el.length + 1) cap) la j → ¬ (la.cv.ownBlock = some j ∨ j = m) := fun j hf hk => by
    rcases hk with hk | rfl
    · exact hf.2.2.1 hk
    · exact hf.2.1 rfl
  refine ⟨_, rfl, heldQ_cont rfl h hn hg hr hat', hd.apart hap hKf fun j hj hf => ⟨hf.1, hf.2.1, fun e => ?_, hf.2.2.2⟩, hap.wide fun j hk => ?_, hap.block bg hbl (hKf bg hbg)⟩
  · rcases hat' with e2 | e2
    · exact hf.2.2.1 (by rw [← e2]; exact e)
    · have e3 : some (W.alloc o).heap.size = some j := e2.symm.trans e
      injection e3 with e3; omega
  · rcases hk with hk | rfl
    · exact (h.hla.rc.lt j hk).1
    · exact hm.1
theorem cont_end {W W6 : World} {base m cap g gcap cp k : Nat} {el : List Hp} {la la2 : Hp} {c : Ct} {nv u dv cv : Value} {dvs : List Int} {o : Obj} {hs : List Hd} (hla : la2 = { la with cl := la.cl ++ [(c, nv)], cv := u }) (h : HeldQ W base (.slice (some ⟨m, 0, none⟩) (el.length + 1) cap) el la2)
    (hd : IntsQ W (Free base (.slice (some ⟨m, 0, none⟩) (el.length + 1) cap) la2) dv dvs) (hcp : cp < 18446744073709551616) (hcv : la2.gv = cv) (hg : (W.alloc o).grownBy W6 cv.ownBlock) (hr : W6.ownsRow base 64 2 (.slice (some ⟨g, 0, none⟩) (la.gl.length + 1) gcap) (la.gl.length + 1) (rowG la.gl ++ gCells (⟨cp, dvs⟩, dv)))
    (hat : cv.ownBlock = some g ∨ g = (W.alloc o).heap.size) (hhs : hs = (el ++ [la]).map Hp.hd) (hbd : ∀ h ∈ hs, h.pod.cs.length ≤ k ∧ h.gs.length ≤ k) :
    SomeQ (W6.setCell ⟨m, el.length * 4 + 3, none⟩ (.slice (some ⟨g, 0, none⟩) (la.gl.length + 1) gcap)) base (.slice (some ⟨m, 0, none⟩) (el.length + 1) cap) (Sv.addCont hs c ⟨cp, dvs⟩) ∧ (Sv.addCont hs c ⟨cp, dvs⟩).length = el.length + 1 ∧ (∀ h ∈ Sv.addCont hs c ⟨cp, dvs⟩, h.pod.cs.length ≤ k + 1 ∧ h.gs.length ≤ k + 1) ∧
      Apart (fun j => base ≤ j) W (W6.setCell ⟨m, el.length * 4 + 3, none⟩ (.slice (some ⟨g, 0, none⟩) (la.gl.length + 1) gcap)) := by
  subst hcv
  subst hla
  subst hhs
  have hat' : (Value.slice (some ⟨g, 0, none⟩) (la.gl.length + 1) gcap).ownBlock = la.gv.ownBlock ∨ (Value.slice (some ⟨g, 0, none⟩) (la.gl.length + 1) gcap).ownBlock = some (W.alloc o).heap.size := by
    rcases hat with e | e
    · exact .inl e.symm
    · exact .inr (by rw [← e]; rfl)
  have hm := h.row.lt m rfl
  have hap : Apart (fun j => la.gv.ownBlock = some j ∨ j = m) W (W6.setCell ⟨m, el.length * 4 + 3, none⟩ (.slice (some ⟨g, 0, none⟩) (la.gl.length + 1) gcap)) := ((grown_apart hg).wide fun _ => .inl).trans (Apart.setCell (.inr rfl) _ _ _)
  have ha := heldQ_given (c := ⟨cp, dvs⟩) rfl h hd hcp hg hr hat'
  have hadd : Sv.addCont ((el ++ [la]).map Hp.hd) c ⟨cp, dvs⟩ = (el ++ [({ la with cl := la.cl ++ [(c, nv)], cv := u, gl := la.gl ++ [(⟨cp, dvs⟩, dv)], gv := .slice (some ⟨g, 0, none⟩) (la.gl.length + 1) gcap } : Hp)]).map Hp.hd := add_map (by simp [Hp.hd, Sv.plusC])
  refine ⟨.inr ⟨el, _, ha, hadd⟩, by rw [hadd]; simp, by rw [hadd]; exact bd_cont (by simp) (by simp) hbd, hap.wide fun j hk => ?_⟩
  rcases hk with hk | rfl
  · exact (h.hla.rg.lt j hk).1
  · exact hm.1
/-- What the reading leaves. -/
def ReadsHeld (w : World) (t : List UInt8) (e : Ending) (w' : World) : Prop :=
  ∃ v, e = .returned (.tuple #[v, .bool (Sv.readS t).isSome]) ∧ (∀ hs, Sv.readS t = some hs → HldsAt w' v hs) ∧ (∃ a n c, v = .slice a n c) ∧ Below w.heap.size w w'
theorem lnTs_at {t : List UInt8} {k : Nat} (hk : k < (linesN t).length) : ∃ hk' : k < (lnTs t).length, (lnTs t)[k] = #[Value.string ⟨((linesN t).getD k []).toArray⟩] := ⟨by rw [ln_len]; exact hk, by simp [lnTs, hk]⟩
theorem linesN_mem (t : List UInt8) : ∀ x ∈ linesN t, x.length ≤ t.length + 1 := by
  intro x hx
  unfold linesN at hx
  rcases List.mem_append.1 hx with hx | hx
  · obtain ⟨y, hy, rfl⟩ := List.mem_map.1 hx
    have := S1.splitC_mem 10 t y ((List.dropLast_sublist _).subset hy)
    simp; omega
  · split at hx
    · simp at hx
    · have hne := Ost.splitC_ne 10 t
      simp only [List.mem_singleton] at hx
      rw [hx, List.getLastD_eq_getLast?, List.getLast?_eq_some_getLast hne, Option.getD_some]
      have := S1.splitC_mem 10 t _ (List.getLast_mem hne)
      omega
theorem linesN_len (t : List UInt8) : (linesN t).length ≤ t.length + 1 := by
  unfold linesN
  have := S1.splitC_len 10 t
  rw [List.length_append, List.length_map, List.length_dropLast]
  have : 0 < (splitC 10 t).length := List.length_pos_iff.2 (Ost.splitC_ne 10 t)
  split <;> simp <;> omega
theorem trim_len (x : List UInt8) : (Lib.trimSuffix x [10]).length ≤ x.length := S1.trim_le x [10]
theorem pod_eq (x : List UInt8) : ((ByteArray.mk x.toArray).toList == [112, 111, 100]) = decide (x = [112, 111, 100]) := by
  rw [ByteArray.toList_eq]
  by_cases h : x = [112, 111, 100] <;> simp [h]
theorem cont_eq (x : List UInt8) : ((ByteArray.mk x.toArray).toList == [99, 111, 110, 116]) = decide (x = [99, 111, 110, 116]) := by
  rw [ByteArray.toList_eq]
  by_cases h : x = [99, 111, 110, 116] <;> simp [h]
theorem step_no {hs : List Hd} {ws : List (List UInt8)} (h1 : ¬ Sv.isPod ws = true) (h2 : Sv.isCont ws = true → ¬ 0 < hs.length) : Sv.step Sv.numS Sv.needS hs ws = none := by
  unfold Sv.step
  rw [if_neg h1, if_neg (fun h => h2 h.1 h.2)]
theorem isPod_yes {ws : List (List UInt8)} (hp : wd ws 0 = [112, 111, 100]) (hl : ws.length = 3) : Sv.isPod ws = true := by simp [Sv.isPod, hp, hl]
theorem step_pod_no {hs : List Hd} {ws : List (List UInt8)} (hp : wd ws 0 = [112, 111, 100]) (hl : ws.length = 3) (hg : gOf (wd ws 2) = false) : Sv.step Sv.numS Sv.needS hs ws = none := by
  unfold Sv.step
  rw [if_pos (isPod_yes hp hl), numS_n, hg]; rfl
theorem step_pod_yes {hs : List Hd} {ws : List (List UInt8)} (hp : wd ws 0 = [112, 111, 100]) (hl : ws.length = 3) (hg : gOf (wd ws 2) = true) : Sv.step Sv.numS Sv.needS hs ws = some (hs ++ [⟨⟨⟨(wd ws 1).toArray⟩, nOf (wd ws 2), []⟩, []⟩]) := by
  unfold Sv.step
  rw [if_pos (isPod_yes hp hl), numS_n, hg]; rfl
theorem pieces_lt (l : List (List UInt8)) : ∀ acc : Nat, acc < 18446744073709551616 → (Ost.pieces acc l).1 < 18446744073709551616 := by
  induction l with
  | nil => intro acc h; exact h
  | cons x r ih =>
    intro acc h
    unfold Ost.pieces
    cases hs : Ost.spanOf x with
    | none => show (0 : Nat) < _; omega
    | some p =>
      obtain ⟨f, u⟩ := p
      have hle := S1.spanOf_le x f u hs
      dsimp only
      split
      · show (0 : Nat) < _; omega
      · exact ih _ (Nat.or_lt_two_pow (n := 64) h (S1.rb_lt _ _ (by omega)))
theorem cpOf_lt (l : List UInt8) : cpOf l < 18446744073709551616 := by
  unfold cpOf Ost.parseOut
  split
  · omega
  · split
    · show (0 : Nat) < _; omega
    · split
      · show (0 : Nat) < _; omega
      · exact pieces_lt _ 0 (by omega)
theorem okC_parts {ws : List (List UInt8)} (h : okC ws = true) : (gOf (wd ws 2) = true ∧ gOf (wd ws 3) = true) ∧ (gOf (wd ws 4) = true ∧ gOf (wd ws 5) = true) ∧ (∃ ds, Sv.listOf Sv.needS (wd ws 6) = some ds) ∧ cgOf (wd ws 7) = true ∧ ∃ xs, Sv.listOf Sv.numS (wd ws 8) = some xs := by
  simp only [okC, Bool.and_eq_true] at h
  obtain ⟨⟨⟨⟨h1, h2⟩, h3⟩, h4⟩, h5⟩ := h
  exact ⟨h1, h2, Option.isSome_iff_exists.1 h3, h4, Option.isSome_iff_exists.1 h5⟩
theorem contOf_yes {ws : List (List UInt8)} {ds : List Nd} {xs : List Int} (h : okC ws = true) (h1 : Sv.listOf Sv.needS (wd ws 6) = some ds) (h2 : Sv.listOf Sv.numS (wd ws 8) = some xs) :
    Sv.contOf Sv.numS Sv.needS ws = some (⟨⟨(wd ws 1).toArray⟩, nOf (wd ws 2), nOf (wd ws 3), nOf (wd ws 4), nOf (wd ws 5), ds⟩, ⟨cpOf (wd ws 7), xs⟩) := by
  obtain ⟨⟨a1, a2⟩, ⟨a3, a4⟩, _, a5, _⟩ := okC_parts h
  unfold Sv.contOf
  rw [numS_n, numS_n, numS_n, numS_n, a1, a2, a3, a4, h1, h2, cpusOf_n, a5]
  rfl
theorem contOf_no {ws : List (List UInt8)} (h : okC ws = false) : Sv.contOf Sv.numS Sv.needS ws = none := by
  unfold Sv.contOf
  unfold okC at h
  rw [numS_n, numS_n, numS_n, numS_n, cpusOf_n]
  cases g2 : gOf (wd ws 2) <;> cases g3 : gOf (wd ws 3) <;> cases g4 : gOf (wd ws 4) <;> cases g5 : gOf (wd ws 5) <;> cases g7 : cgOf (wd ws 7) <;> cases g6 : Sv.listOf Sv.needS (wd ws 6) <;> cases g8 : Sv.listOf Sv.numS (wd ws 8) <;> first | rfl | (simp [g2, g3, g4, g5, g6, g7, g8] at h)
theorem isCont_yes {ws : List (List UInt8)} (hp : wd ws 0 = [99, 111, 110, 116]) (hl : ws.length = 9) : Sv.isCont ws = true ∧ Sv.isPod ws = false := by simp [Sv.isCont, Sv.isPod, hp, hl]
theorem step_cont_no {hs : List Hd} {ws : List (List UInt8)} (hp : wd ws 0 = [99, 111, 110, 116]) (hl : ws.length = 9) (ho : okC ws = false) : Sv.step Sv.numS Sv.needS hs ws = none := by
  obtain ⟨h1, h2⟩ := isCont_yes hp hl
  unfold Sv.step
  rw [if_neg (by rw [h2]; simp), contOf_no ho]
  split <;> rfl
theorem step_cont_yes {hs : List Hd} {ws : List (List UInt8)} (hp : wd ws 0 = [99, 111, 110, 116]) (hl : ws.length = 9) (ho : okC ws = true) (h0 : 0 < hs.length) : ∃ ds xs, Sv.listOf Sv.needS (wd ws 6) = some ds ∧ Sv.listOf Sv.numS (wd ws 8) = some xs ∧ cpOf (wd ws 7) < 18446744073709551616 ∧
    Sv.step Sv.numS Sv.needS hs ws = some (Sv.addCont hs ⟨⟨(wd ws 1).toArray⟩, nOf (wd ws 2), nOf (wd ws 3), nOf (wd ws 4), nOf (wd ws 5), ds⟩ ⟨cpOf (wd ws 7), xs⟩) := by
  obtain ⟨h1, h2⟩ := isCont_yes hp hl
  obtain ⟨_, _, ⟨ds, hd⟩, _, ⟨xs, hx⟩⟩ := okC_parts ho
  refine ⟨ds, xs, hd, hx, cpOf_lt _, ?_⟩
  unfold Sv.step
  rw [if_neg (by rw [h2]; simp), if_pos ⟨h1, h0⟩, contOf_yes ho hd hx]
  rfl
set_option maxRecDepth 100000 in
set_option maxHeartbeats 4000000 in
theorem readHeld_any (t : List UInt8) (w : World) (ht : t.length ≤ 7000) (hm : Mx w) :
    Calls Tryz.prog 44 #[.string ⟨t.toArray⟩] w (ReadsHeld w t) := by
  obtain ⟨i0, hi, hz0, hz1, hz2⟩ := info_parts infoHeldV
  have x0 := ((Boxed.new w 22 (.slice none 0 0)).alloc (.cells #[.bool false] 4)).alloc (.cells #[.slice none 0 0] 22)
  have x1 := (Boxed.new (w.alloc (.cells #[.slice none 0 0] 22)) 4 (.bool false)).alloc (.cells #[.slice none 0 0] 22)
  have x2 := Boxed.new ((w.alloc (.cells #[.slice none 0 0] 22)).alloc (.cells #[.bool false] 4)) 22 (.slice none 0 0)
  simp only [World.size_alloc] at x1 x2
  have HB3 := hideIt ((((Below.refl w.heap.size w).alloc (Nat.le_refl _) (.cells #[.slice none 0 0] 22)).alloc (by simp) (.cells #[.bool false] 4)).alloc (by simp; omega) (.cells #[.slice none 0 0] 22))
  have hsz : (((w.alloc (.cells #[.slice none 0 0] 22)).alloc (.cells #[.bool false] 4)).alloc (.cells #[.slice none 0 0] 22)).heap.size = w.heap.size + 1 + 1 + 1 := by simp
  have X0 := hideIt x0
  have X1 := hideIt x1
  have X2 := hideIt x2
  have HM := hideIt hm
  clear x0 x1 x2 hm
  refine (callsIn_wide (n := 3)).1 ?_
  refine callsIn_of_wp_marks Tryz.func44 rfl trivial ?_ rfl
  simp only [Tryz.ntmps44, List.size_toArray, List.length_cons, List.length_nil, Nat.reduceAdd, Nat.reduceSub, Array.replicate_succ, Array.replicate_zero, List.push_toArray, List.append_toArray, List.nil_append, List.cons_append]
  gi_wp2_with fail
  generalize (((w.alloc (.cells #[.slice none 0 0] 22)).alloc (.cells #[.bool false] 4)).alloc (.cells #[.slice none 0 0] 22)) = V at *
  refine ⟨trivial, (callsIn_wide.2 (lines_new _ V)).mono ?_⟩
  rintro e A0 ⟨rfl, rfl⟩
  have hbx := Boxed.new V 9 (.string ⟨t.toArray⟩)
  have hbA := (Below.refl V.heap.size V).alloc (Nat.le_refl _) (.cells #[.string ⟨t.toArray⟩] 9)
  have hszA : (V.alloc (.cells #[.string ⟨t.toArray⟩] 9)).heap.size = V.heap.size + 1 := by simp
  generalize V.alloc (.cells #[.string ⟨t.toArray⟩] 9) = A at *
  have HBA := hideIt (HB3.out.trans (hbA.mono HB3.out.size))
  have XA0 := hideIt (show Boxed A _ _ _ from (hbA.block _ X0.out.lt).trans X0.out)
  have XA1 := hideIt (show Boxed A _ _ _ from (hbA.block _ X1.out.lt).trans X1.out)
  have XA2 := hideIt (show Boxed A _ _ _ from (hbA.block _ X2.out.lt).trans X2.out)
  have hseq := lines_iter 2 (by omega) V.heap.size t A hbx (by omega)
  rw [hsz] at hszA hseq ⊢
  clear hbA X0 X1 X2 HB3 hbx hsz
  have HRD := hideIt (readS_words t)
  have HXM := hideIt (linesN_mem t)
  have HXL := hideIt (linesN_len t)
  have HTS : Hid (∀ k, (hk : k < (linesN t).length) → ∃ hk' : k < (lnTs t).length, (lnTs t)[k] = #[Value.string ⟨((linesN t).getD k []).toArray⟩]) := fun k hk => lnTs_at hk
  have HTL : Hid ((lnTs t).length = (linesN t).length) := ln_len t
  have HTZ : Hid (∀ x ∈ lnTs t, x.size = 1) := by
    intro x hx
    obtain ⟨y, _, rfl⟩ := List.mem_map.1 hx
    rfl
  have HWD : Hid (∀ k, k < (linesN t).length → (wordsL t).getD k [] = splitC 32 (Lib.trimSuffix ((linesN t).getD k []) [10])) := fun k hk => by simp [wordsL, hk]
  have HWL : Hid ((wordsL t).length = (linesN t).length) := by unfold Hid wordsL; simp
  generalize wordsL t = wl at *
  generalize hxs : linesN t = xs at *
  clear hxs
  gi_wp2_with fail
  refine wpIn_rangeW rfl (by omega) (gf := 88) rfl trivial (enters_of Tryz.func88 (by kernel_rfl) rfl) (K := fun j => j = w.heap.size + 1 + 1 + 1) (ts := lnTs t) (fun j hj => by omega) hseq HTZ.out
    (fun k W => RInvH w A wl k W) (fun c W => c = .ret ∧ Boxed W w.heap.size 22 (.slice none 0 0) ∧ Boxed W (w.heap.size + 1) 4 (.bool false) ∧ Below w.heap.size w W ∧ Sv.readS t = none)
    (fun k B C hi hab => hi.apart hszA hab) (fun c B C hx hab => ⟨hx.1, hab.boxed hx.2.1 (by omega), hab.boxed hx.2.2.1 (by omega), hab.below hx.2.2.2.1 (Nat.le_refl _) (fun j hj => by omega), hx.2.2.2.2⟩)
    ⟨Nat.zero_le _, XA0.out, XA1.out, ⟨_, [], XA2.out, .inl ⟨rfl, rfl⟩, rfl, Nat.le_refl _, by simp⟩, HBA.out⟩
    (fun k => { tmps := List.toArray (Value.string ⟨t.toArray⟩ :: undef :: Value.pointer (some ⟨w.heap.size, 0, none⟩) :: Value.pointer (some ⟨w.heap.size + 1, 0, none⟩) :: Value.pointer (some ⟨w.heap.size + 1 + 1, 0, none⟩) :: Value.string ⟨(xs.getD k []).toArray⟩ :: undef :: undef :: undef :: undef :: undef :: undef :: undef :: Value.string ⟨t.toArray⟩ :: Value.func (Fn.func 88) #[] #[Value.pointer (some ⟨w.heap.size + 1 + 1 + 1, 0, none⟩)] :: Value.string ⟨(xs.getD k []).toArray⟩ :: undef :: undef :: undef :: undef :: undef :: undef :: undef :: undef :: undef :: undef :: undef :: undef :: undef :: undef :: undef :: undef :: undef :: undef :: undef :: undef :: undef :: undef :: undef :: undef :: undef :: undef :: undef :: undef :: undef :: undef :: undef :: undef :: undef :: undef :: undef :: undef :: undef :: undef :: undef :: undef :: undef :: undef :: undef :: undef :: undef :: undef :: undef :: undef :: undef :: undef :: undef :: undef :: undef :: undef :: undef :: undef :: undef :: undef :: undef :: undef :: undef :: undef :: undef :: undef :: undef :: undef :: undef :: undef :: undef :: undef :: undef :: undef :: undef :: undef :: undef :: undef :: []), defers := [] }) ?assign ?body ?done ?stop
  case assign =>
    intro l k hk W R hR
    rw [HTL.out] at hk
    obtain ⟨hk', e⟩ := HTS.out k hk
    rw [e]
    clear e
    generalize xs.getD k [] = x at *
    gi_wp2_with fail
    exact hR
  case body =>
    intro l k W hk hWs hI
    rw [HTL.out] at hk
    obtain ⟨hle, hb0, hb1, ⟨v, hs, hb2, hsq, hst, hlen, hbd⟩, hbel⟩ := hI
    have HBD := hideIt hbd
    clear hbd
    have hxm : xs.getD k [] ∈ xs := by simp [hk]
    have hxl := HXM.out _ hxm
    have hxL := HXL.out
    have htl := trim_len (xs.getD k [])
    have HSM := hideIt (steps_more (by rw [HWL.out]; exact hk) hst)
    have HSN : Hid (Sv.step Sv.numS Sv.needS hs (wl.getD k []) = none → Sv.readS t = none) := fun hn => by rw [HRD.out]; exact steps_stop (by rw [HWL.out]; exact hk) hst hn
    rw [HWD.out k hk] at HSM HSN
    generalize xs.getD k [] = x at *
    have HTR := hideIt (Tryz.strings_TrimSuffix ⟨x.toArray⟩ ⟨#[10]⟩ W (by show x.length ≤ _; omega))
    rw [show (ByteArray.mk x.toArray).data.toList = x by simp, show (ByteArray.mk #[10]).data.toList = [10] from rfl] at HTR
    generalize Lib.trimSuffix x [10] = tr at *
    have HSP := hideIt (splitW_any tr W (by omega) (HM.out.below hbel))
    have hwne : 0 < (splitC 32 tr).length := List.length_pos_iff.2 (Ost.splitC_ne 32 tr)
    have HWM : Hid (∀ y ∈ splitC 32 tr, y.length ≤ 10000) := fun y hy => by have := S1.splitC_mem 32 tr y hy; omega
    generalize splitC 32 tr = ws at *
    have HB0 := hideIt hb0
    have HB1 := hideIt hb1
    have HB2 := hideIt hb2
    have HSQ := hideIt hsq
    have HBEL := hideIt hbel
    have HWS := hideIt hWs
    clear hst hseq HTS HTZ HXM HXL HWD HRD hxm hxl htl
    obtain ⟨va, vc, hv⟩ := hsq.slice
    subst hv
    clear hb0 hb1 hb2 hsq hbel hle
    have q0 := pod_eq (wd ws 0)
    have q1 := cont_eq (wd ws 0)
    by_cases hp : wd ws 0 = [112, 111, 100]
    · rw [decide_eq_true hp] at q0
      have q1' : decide (wd ws 0 = [99, 111, 110, 116]) = false := decide_eq_false (by rw [hp]; decide)
      rw [q1'] at q1
      by_cases hl3 : ws.length = 3
      · rcases two (gOf (wd ws 2)) with hg | hg
        · skip
          gi_wp2_with fail
          refine ⟨trivial, (CallsIn.inRound l (callsIn_wide.2 HTR.out)).mono ?_⟩
          rintro e w1 ⟨rfl, hw1⟩
          subst hw1
          gi_wp2_with fail
          refine ⟨trivial, (CallsIn.inRound l (callsIn_wide.2 HSP.out)).mono ?_⟩
          rintro e W1 ⟨rfl, hsi, hbw⟩
          have hap1 : Apart (fun _ => False) w1 W1 := Apart.of_below hbw
          have s0 := hsi.2 0 hwne
          have HSI := hideIt hsi
          have HBW := hideIt hbw
          clear hsi hbw HSP HTR
          have HYS := hideIt (HSM.out.trans (step_pod_yes hp hl3 hg))
          have HRP := hideIt (readPod_any w1.heap.size ws.length ws W1 HSI.out hl3 HWM.out)
          rw [hg] at HRP
          rw [hl3] at HRP
          generalize hnm : ByteArray.mk (wd ws 1).toArray = nm at *
          generalize nOf (wd ws 2) = pr at *
          gi_wp2_with fail
          refine ⟨trivial, (CallsIn.inRound l (callsIn_wide.2 HRP.out)).mono ?_⟩
          rintro e W2 ⟨rfl, hb2⟩
          have hap3 : Apart (fun _ => False) w1 (W2.alloc (.cells #[.string nm, .int .i64 pr, .slice none 0 0] 59)) := (hap1.trans (Apart.of_below hb2)).trans (Apart.alloc _ _ _)
          have p0 : (W2.alloc (.cells #[.string nm, .int .i64 pr, .slice none 0 0] 59)).cell? ⟨W2.heap.size, 0, none⟩ = some (.string nm) := by simp
          have p1 : (W2.alloc (.cells #[.string nm, .int .i64 pr, .slice none 0 0] 59)).cell? ⟨W2.heap.size, 1, none⟩ = some (.int .i64 pr) := by simp
          have p2 : (W2.alloc (.cells #[.string nm, .int .i64 pr, .slice none 0 0] 59)).cell? ⟨W2.heap.size, 2, none⟩ = some (.slice none 0 0) := by simp
          have hs3 : A.heap.size + 2 ≤ (W2.alloc (.cells #[.string nm, .int .i64 pr, .slice none 0 0] 59)).heap.size := Nat.le_trans hWs hap3.size
          clear hb2 s0 q0 q1
          have g2 := hap3.boxed HB2.out id
          have c2 := g2.cell
          have hsq3 := HSQ.out.apart hap3 (fun j hj => hj.elim)
          obtain ⟨ys, hrow, hpush⟩ := hsq3.push
          have HPU := hideIt hpush
          have hhl : hs.length + 1 ≤ 10000 := by omega
          have hnew := new_held (W2.alloc (.cells #[.string nm, .int .i64 pr, .slice none 0 0] 59)) nm pr 67
          rw [show (W2.alloc (.cells #[.string nm, .int .i64 pr, .slice none 0 0] 59)).heap.size = W2.heap.size + 1 by simp] at hnew
          have HNW := hideIt hnew
          clear hnew
          have hbs : A.heap.size + 2 ≤ ((W2.alloc (.cells #[.string nm, .int .i64 pr, .slice none 0 0] 59)).alloc (.cells #[.string nm, .int .i64 pr, .slice none 0 0, .slice none 0 0] 67)).heap.size := Nat.le_trans hs3 (((Below.refl _ (W2.alloc (.cells #[.string nm, .int .i64 pr, .slice none 0 0] 59))).alloc (Nat.le_refl _) _).size)
          clear hpush hsq3
          generalize hhn : hs.length = hn at *
          gi_wp2_with (gi_at_builtin; refine wpListIn_append_own_at _ rfl _ _ 22 rfl (A.heap.size + 2) 67 i0 _ 4 72 Tryz.underlying22 hi hz0 hz1 hz2 rfl (by decide) _ _ _ rfl (hrow.alloc _) ⟨_, 0, none⟩ 1 1 (hCells ⟨nm, pr, [], [], .slice none 0 0, .slice none 0 0⟩) rfl rfl HNW.out (hCells_one nm pr) (by unfold maxLen; omega) (by omega) hbs ?_; intro v' W4 hown' hgrow' _ hat'; obtain ⟨na, nc, rfl⟩ := own_slice hown'; have hg2 : ((W2.alloc (.cells #[.string nm, .int .i64 pr, .slice none 0 0] 59)).alloc (.cells #[.string nm, .int .i64 pr, .slice none 0 0, .slice none 0 0] 67)).grownBy W4 (Value.slice va hn vc).ownBlock := hgrow'; have hat2 : (Value.slice na (hn + 1) nc).ownBlock = (Value.slice va hn vc).ownBlock ∨ (Value.slice na (hn + 1) nc).ownBlock = some ((W2.alloc (.cells #[.string nm, .int .i64 pr, .slice none 0 0] 59)).alloc (.cells #[.string nm, .int .i64 pr, .slice none 0 0, .slice none 0 0] 67)).heap.size := hat'; clear hgrow' hat'; have hapr := row_apart hrow hg2; have g4 := hapr.boxed g2 (by omega); have c4 := g4.cell; have f4 := g4.frozen)
          have hab : Apart (fun j => A.heap.size + 2 ≤ j ∨ j = w.heap.size + 1 + 1) w1 (W4.setCell ⟨w.heap.size + 1 + 1, 0, none⟩ (.slice na (hn + 1) nc)) := (((hap3.wide fun _ h => h.elim).trans (hapr.wide fun _ => .inl))).trans (Apart.setCell (.inr rfl) _ _ _)
          have hws := HWS.out
          refine ⟨fun j hj => hab.block j (by omega) (by omega), by rw [HWL.out]; omega, hab.boxed HB0.out (by omega), hab.boxed HB1.out (by omega), ⟨_, _, g4.set _, (HPU.out _ _ _ nm pr hg2 hown' hat2).apart (Apart.setCell (K := fun j => j = w.heap.size + 1 + 1) rfl W4 0 _) (fun j hj => by omega), HYS.out, by rw [List.length_append, hhn]; simp; omega, bd_pod HBD.out⟩, hab.below HBEL.out (Nat.le_refl _) (fun j hj => by omega)⟩
        · skip
          gi_wp2_with fail
          refine ⟨trivial, (CallsIn.inRound l (callsIn_wide.2 HTR.out)).mono ?_⟩
          rintro e w1 ⟨rfl, hw1⟩
          subst hw1
          gi_wp2_with fail
          refine ⟨trivial, (CallsIn.inRound l (callsIn_wide.2 HSP.out)).mono ?_⟩
          rintro e W1 ⟨rfl, hsi, hbw⟩
          have hap1 : Apart (fun _ => False) w1 W1 := Apart.of_below hbw
          have s0 := hsi.2 0 hwne
          have HSI := hideIt hsi
          have HBW := hideIt hbw
          clear hsi hbw HSP HTR
          have HNO := hideIt (HSN.out (step_pod_no hp hl3 hg))
          have HRP := hideIt (readPod_any w1.heap.size ws.length ws W1 HSI.out hl3 HWM.out)
          rw [hg] at HRP
          rw [hl3] at HRP
          generalize hnm : ByteArray.mk (wd ws 1).toArray = nm at *
          generalize nOf (wd ws 2) = pr at *
          gi_wp2_with fail
          refine ⟨trivial, (CallsIn.inRound l (callsIn_wide.2 HRP.out)).mono ?_⟩
          rintro e W2 ⟨rfl, hb2⟩
          have hap3 : Apart (fun _ => False) w1 (W2.alloc (.cells #[.string nm, .int .i64 pr, .slice none 0 0] 59)) := (hap1.trans (Apart.of_below hb2)).trans (Apart.alloc _ _ _)
          have p0 : (W2.alloc (.cells #[.string nm, .int .i64 pr, .slice none 0 0] 59)).cell? ⟨W2.heap.size, 0, none⟩ = some (.string nm) := by simp
          have p1 : (W2.alloc (.cells #[.string nm, .int .i64 pr, .slice none 0 0] 59)).cell? ⟨W2.heap.size, 1, none⟩ = some (.int .i64 pr) := by simp
          have p2 : (W2.alloc (.cells #[.string nm, .int .i64 pr, .slice none 0 0] 59)).cell? ⟨W2.heap.size, 2, none⟩ = some (.slice none 0 0) := by simp
          have hs3 : A.heap.size + 2 ≤ (W2.alloc (.cells #[.string nm, .int .i64 pr, .slice none 0 0] 59)).heap.size := Nat.le_trans hWs hap3.size
          clear hb2 s0 q0 q1
          have g0 := hap3.boxed HB0.out id
          have g1 := hap3.boxed HB1.out id
          have c0 := g0.cell
          have f0 := g0.frozen
          have c1 := g1.cell
          have f1 := g1.frozen
          gi_wp2_with fail
          have hab : Apart (fun j => j = w.heap.size ∨ j = w.heap.size + 1) w1 (((W2.alloc (.cells #[.string nm, .int .i64 pr, .slice none 0 0] 59)).setCell ⟨w.heap.size, 0, none⟩ (.slice none 0 0)).setCell ⟨w.heap.size + 1, 0, none⟩ (.bool false)) := ((hap3.wide fun _ h => h.elim).trans (Apart.setCell (.inl rfl) _ _ _)).trans (Apart.setCell (.inr rfl) _ _ _)
          have hws := HWS.out
          exact ⟨fun j hj => hab.block j (by omega) (by omega), rfl, (Apart.setCell (K := fun j => j = w.heap.size + 1) rfl _ 0 _).boxed (g0.set _) (by omega), ((Apart.setCell (K := fun j => j = w.heap.size) rfl _ 0 _).boxed g1 (by omega)).set _, hab.below HBEL.out (Nat.le_refl _) (fun j hj => by omega), HNO.out⟩
      · have hl3' : ((ws.length : Int) == 3) = false := by simp; omega
        gi_wp2_with fail
        refine ⟨trivial, (CallsIn.inRound l (callsIn_wide.2 HTR.out)).mono ?_⟩
        rintro e w1 ⟨rfl, hw1⟩
        subst hw1
        gi_wp2_with fail
        refine ⟨trivial, (CallsIn.inRound l (callsIn_wide.2 HSP.out)).mono ?_⟩
        rintro e W1 ⟨rfl, hsi, hbw⟩
        have hap1 : Apart (fun _ => False) w1 W1 := Apart.of_below hbw
        have s0 := hsi.2 0 hwne
        have HSI := hideIt hsi
        have HBW := hideIt hbw
        clear hsi hbw HSP HTR
        have HNO := hideIt (HSN.out (step_no (by simp [Sv.isPod, hl3]) (fun h => by simp [Sv.isCont, hp] at h)))
        have g0 := hap1.boxed HB0.out id
        have g1 := hap1.boxed HB1.out id
        have c0 := g0.cell
        have f0 := g0.frozen
        have c1 := g1.cell
        have f1 := g1.frozen
        gi_wp2_with fail
        have hab : Apart (fun j => j = w.heap.size ∨ j = w.heap.size + 1) w1 ((W1.setCell ⟨w.heap.size, 0, none⟩ (.slice none 0 0)).setCell ⟨w.heap.size + 1, 0, none⟩ (.bool false)) := ((hap1.wide fun _ h => h.elim).trans (Apart.setCell (.inl rfl) _ _ _)).trans (Apart.setCell (.inr rfl) _ _ _)
        have hws := HWS.out
        exact ⟨fun j hj => hab.block j (by omega) (by omega), rfl, (Apart.setCell (K := fun j => j = w.heap.size + 1) rfl _ 0 _).boxed (g0.set _) (by omega), ((Apart.setCell (K := fun j => j = w.heap.size) rfl _ 0 _).boxed g1 (by omega)).set _, hab.below HBEL.out (Nat.le_refl _) (fun j hj => by omega), HNO.out⟩
    · rw [decide_eq_false hp] at q0
      by_cases hc : wd ws 0 = [99, 111, 110, 116]
      · rw [decide_eq_true hc] at q1
        by_cases hl9 : ws.length = 9
        · by_cases h0 : 0 < hs.length
          · rcases two (okC ws) with hok | hok
            · skip
              gi_wp2_with fail
              refine ⟨trivial, (CallsIn.inRound l (callsIn_wide.2 HTR.out)).mono ?_⟩
              rintro e w1 ⟨rfl, hw1⟩
              subst hw1
              gi_wp2_with fail
              refine ⟨trivial, (CallsIn.inRound l (callsIn_wide.2 HSP.out)).mono ?_⟩
              rintro e W1 ⟨rfl, hsi, hbw⟩
              have hap1 : Apart (fun _ => False) w1 W1 := Apart.of_below hbw
              have s0 := hsi.2 0 hwne
              have HSI := hideIt hsi
              have HBW := hideIt hbw
              clear hsi hbw HSP HTR
              obtain ⟨ds, dvs, hds, hdvs, hcp, hstep⟩ := step_cont_yes hc hl9 hok h0
              have HYS := hideIt (HSM.out.trans hstep)
              clear hstep
              have HRC := hideIt (readCont_any w1.heap.size ws.length ws W1 HSI.out hl9 HWM.out (HM.out.below (HBEL.out.trans (HBW.out.mono HBEL.out.size))))
              unfold ReadsCont at HRC
              rw [hok] at HRC
              rw [hl9] at HRC
              have g2 := hap1.boxed HB2.out id
              have c2 := g2.cell
              rw [hds] at HRC
              rw [hdvs] at HRC
              generalize ByteArray.mk (wd ws 1).toArray = nm at *
              generalize nOf (wd ws 2) = n2 at *
              generalize nOf (wd ws 3) = n3 at *
              generalize nOf (wd ws 4) = n4 at *
              generalize nOf (wd ws 5) = n5 at *
              generalize cpOf (wd ws 7) = cp at *
              gi_wp2_with fail
              refine ⟨trivial, (CallsIn.inRound l (callsIn_wide.2 HRC.out)).mono ?_⟩
              rintro e W2 ⟨nv, dv, rfl, hnd, hdd, ⟨na, nn, nc, rfl, hna⟩, ⟨ea, en, ec, rfl, hea⟩, hb2⟩
              have hap4 : Apart (fun _ => False) w1 ((W2.alloc (.cells #[.string nm, .int .i64 n2, .int .i64 n3, .int .i64 n4, .int .i64 n5, .slice na nn nc] 56)).alloc (.cells #[.int .u64 cp, .slice ea en ec] 64)) := ((hap1.trans (Apart.of_below hb2)).trans (Apart.alloc _ _ _)).trans (Apart.alloc _ _ _)
              clear s0 q0 q1 g2 c2
              have HND := hideIt (hnd ds rfl)
              have HDD := hideIt (hdd dvs rfl)
              have HNA := hideIt hna
              have HEA := hideIt hea
              have HB2w := hideIt hb2
              clear hnd hdd hna hea hb2
              have g4 := hap4.boxed HB2.out id
              rcases HSQ.out with ⟨h1, _⟩ | ⟨el, la, hq1, hseq⟩
              · rw [h1] at h0; simp at h0
              have hlen2 : hs.length = el.length + 1 := by rw [hseq]; simp
              have HSE := hideIt hseq
              clear hseq
              have HCB : Hid (la.cl.length ≤ 100000 ∧ la.gl.length ≤ 100000) := by
                have hb := HBD.out la.hd (by rw [HSE.out]; simp)
                simp only [Hp.hd, List.length_map] at hb
                exact ⟨by omega, by omega⟩
              have HLN := hideIt hlen
              clear hlen HSM HSN HRC h0 hds hdvs
              generalize hs.length = hn at *
              subst hlen2
              obtain ⟨m, mcap, hv, hmc, hmx, hmlt, hmb, _⟩ := row_form hq1.row (by omega)
              cases hv
              have hq := heldQ_apart hq1 hap4 (fun j hj => hj.elim)
              have HQ := hideIt hq
              obtain ⟨ca, cc, hcv, _, _⟩ := row_cap hq1.hla.rc
              obtain ⟨ga, gc, hgv, _, _⟩ := row_cap hq1.hla.rg
              have hsz4 := Nat.lt_of_lt_of_le hmlt hap4.size
              have hw12 : w1.heap.size ≤ W1.heap.size := hap1.size
              have hw2 : W1.heap.size ≤ W2.heap.size := HB2w.out.size
              have HFR : Hid (∀ b, W1.heap.size ≤ b → Free (A.heap.size + 2) (.slice (some ⟨m, 0, none⟩) (el.length + 1) vc) la b) := fun b hb => ⟨by omega, fun e => by have e2 : some m = some b := e; injection e2 with e2; omega, fun e => by have := (hq1.hla.rc.lt b e).2; omega, fun e => by have := (hq1.hla.rg.lt b e).2; omega⟩
              have hb24 : Below W2.heap.size W2 ((W2.alloc (.cells #[.string nm, .int .i64 n2, .int .i64 n3, .int .i64 n4, .int .i64 n5, .slice na nn nc] 56)).alloc (.cells #[.int .u64 cp, .slice ea en ec] 64)) := ((Below.refl _ _).alloc (Nat.le_refl _) _).alloc (by simp) _
              have HNQ := hideIt (NeedsQ.of (Q := Free (A.heap.size + 2) (.slice (some ⟨m, 0, none⟩) (el.length + 1) vc) la) (HND.out.below hb24) ⟨_, _, _, rfl, HNA.out⟩ (fun b hb _ => HFR.out b hb))
              have HDQ := hideIt (IntsQ.of (Q := Free (A.heap.size + 2) (.slice (some ⟨m, 0, none⟩) (el.length + 1) vc) la) (HDD.out.below hb24) ⟨_, _, _, rfl, HEA.out⟩ (fun b hb _ => HFR.out b hb))
              have r2 : ((W2.alloc (.cells #[.string nm, .int .i64 n2, .int .i64 n3, .int .i64 n4, .int .i64 n5, .slice na nn nc] 56)).alloc (.cells #[.int .u64 cp, .slice ea en ec] 64)).cell? ⟨m, el.length * 4 + 2, none⟩ = some la.cv := held_cell hq (j := 2) (by omega)
              have fz2 := hq.row.frozenAt (el.length * 4 + 2)
              rw [hcv] at r2
              have c4 := g4.cell
              have e0 : ((W2.alloc (.cells #[.string nm, .int .i64 n2, .int .i64 n3, .int .i64 n4, .int .i64 n5, .slice na nn nc] 56)).alloc (.cells #[.int .u64 cp, .slice ea en ec] 64)).cell? ⟨W2.heap.size, 0, none⟩ = some (.string nm) := by simp
              have e1 : ((W2.alloc (.cells #[.string nm, .int .i64 n2, .int .i64 n3, .int .i64 n4, .int .i64 n5, .slice na nn nc] 56)).alloc (.cells #[.int .u64 cp, .slice ea en ec] 64)).cell? ⟨W2.heap.size, 1, none⟩ = some (.int .i64 n2) := by simp
              have e2 : ((W2.alloc (.cells #[.string nm, .int .i64 n2, .int .i64 n3, .int .i64 n4, .int .i64 n5, .slice na nn nc] 56)).alloc (.cells #[.int .u64 cp, .slice ea en ec] 64)).cell? ⟨W2.heap.size, 2, none⟩ = some (.int .i64 n3) := by simp
              have e3 : ((W2.alloc (.cells #[.string nm, .int .i64 n2, .int .i64 n3, .int .i64 n4, .int .i64 n5, .slice na nn nc] 56)).alloc (.cells #[.int .u64 cp, .slice ea en ec] 64)).cell? ⟨W2.heap.size, 3, none⟩ = some (.int .i64 n4) := by simp
              have e4 : ((W2.alloc (.cells #[.string nm, .int .i64 n2, .int .i64 n3, .int .i64 n4, .int .i64 n5, .slice na nn nc] 56)).alloc (.cells #[.int .u64 cp, .slice ea en ec] 64)).cell? ⟨W2.heap.size, 4, none⟩ = some (.int .i64 n5) := by simp
              have e5 : ((W2.alloc (.cells #[.string nm, .int .i64 n2, .int .i64 n3, .int .i64 n4, .int .i64 n5, .slice na nn nc] 56)).alloc (.cells #[.int .u64 cp, .slice ea en ec] 64)).cell? ⟨W2.heap.size, 5, none⟩ = some (.slice na nn nc) := by simp
              have hrc := hq.hla.rc
              rw [hcv] at hrc
              have HRCW := hideIt hrc
              have hne2 : (Value.slice ca la.cl.length cc).ownBlock ≠ some m := fun e => hq1.vc m (by rw [hcv]; exact e) rfl
              have hcln : la.cl.length ≤ 100000 := HCB.out.1
              have HBS : Hid (A.heap.size + 2 ≤ ((W2.alloc (.cells #[.string nm, .int .i64 n2, .int .i64 n3, .int .i64 n4, .int .i64 n5, .slice na nn nc] 56)).alloc (.cells #[.int .u64 cp, .slice ea en ec] 64)).heap.size) := Nat.le_trans hmb (Nat.le_of_lt hsz4)
              have hwr : wrap64 ((el.length : Nat) : Int) = el.length := by have := HLN.out; unfold wrap64; omega
              clear hrc hb24 hq
              gi_wp2_with fail
              refine wpIn_normalAtV (heldR16_in (c := ⟨nm, n2, n3, n4, n5, ds⟩) (base := A.heap.size + 2) ((W2.alloc (.cells #[.string nm, .int .i64 n2, .int .i64 n3, .int .i64 n4, .int .i64 n5, .slice na nn nc] 56)).alloc (.cells #[.int .u64 cp, .slice ea en ec] 64)) r2 fz2 e0 e1 e2 e3 e4 e5 HRCW.out HBS.out hcln hsz4 hne2) ?_
              rintro _ W5 ⟨F, rfl, g, cap, W6, rfl, hr6, hg6, hat6⟩
              dsimp only
              have hfree : Free (A.heap.size + 2) (.slice (some ⟨m, 0, none⟩) (el.length + 1) vc) la (W2.heap.size + 1) := HFR.out _ (by omega)
              obtain ⟨la2, hla2, hq5, hd5, hap5, hbl5⟩ := cont_mid HQ.out HNQ.out HDQ.out hcv hg6 hr6 hat6 hfree (by simp)
              have e6 : ((W2.alloc (.cells #[.string nm, .int .i64 n2, .int .i64 n3, .int .i64 n4, .int .i64 n5, .slice na nn nc] 56)).alloc (.cells #[.int .u64 cp, .slice ea en ec] 64)).cell? ⟨W2.heap.size + 1, 0, none⟩ = some (.int .u64 cp) := by simp
              have e7 : ((W2.alloc (.cells #[.string nm, .int .i64 n2, .int .i64 n3, .int .i64 n4, .int .i64 n5, .slice na nn nc] 56)).alloc (.cells #[.int .u64 cp, .slice ea en ec] 64)).cell? ⟨W2.heap.size + 1, 1, none⟩ = some (.slice ea en ec) := by simp
              replace e6 := (World.cell?_of_block (a := ⟨W2.heap.size + 1, 0, none⟩) hbl5).trans e6
              replace e7 := (World.cell?_of_block (a := ⟨W2.heap.size + 1, 1, none⟩) hbl5).trans e7
              have hgv2 : la2.gv = .slice ga la.gl.length gc := by rw [hla2]; exact hgv
              have hgl2 : la2.gl = la.gl := by rw [hla2]
              have HQ5 := hideIt hq5
              have HD5 := hideIt hd5
              have HAP5 := hideIt (hap4.wide (K' := fun j => A.heap.size + 2 ≤ j) (fun _ h => h.elim) |>.trans hap5)
              have hsz5 := Nat.lt_of_lt_of_le hsz4 hap5.size
              have r3 := held_cell hq5 (j := 3) (by omega)
              have r3' : (hCells la2)[3]? = some la2.gv := rfl
              rw [r3', hgv2] at r3
              have fz3 := hq5.row.frozenAt (el.length * 4 + 3)
              have hrg := hq5.hla.rg
              rw [hgl2, hgv2] at hrg
              have HRG := hideIt hrg
              have hne3 : (Value.slice ga la.gl.length gc).ownBlock ≠ some m := fun e => hq5.vg m (by rw [hgv2]; exact e) rfl
              have hgln : la.gl.length ≤ 100000 := HCB.out.2
              have HBS5 := hideIt (Nat.le_trans HBS.out hap5.size)
              clear hq5 hd5 hap5 hbl5 hrg hr6 hg6 hat6 r2 fz2 e0 e1 e2 e3 e4 e5 r3' hne2 hcln hfree
              generalize World.setCell W6 ⟨m, el.length * 4 + 2, none⟩ (.slice (some ⟨g, 0, none⟩) (la.cl.length + 1) cap) = W5 at *
              gi_wp2_with fail
              refine wpIn_normalAtV (heldR17_in (c := ⟨cp, dvs⟩) (base := A.heap.size + 2) W5 r3 fz3 e6 e7 HRG.out HBS5.out hgln hsz5 hne3) ?_
              rintro _ W7 ⟨F2, rfl, g2, cap2, W8, rfl, hr8, hg8, hat8⟩
              dsimp only
              obtain ⟨hsq8, hlen8, hbd8, hap8⟩ := cont_end hla2 HQ5.out HD5.out hcp hgv2 hg8 hr8 hat8 HSE.out HBD.out
              have HSQ8 := hideIt hsq8
              have HBD8 := hideIt hbd8
              have hab : Apart (fun j => A.heap.size + 2 ≤ j) w1 _ := HAP5.out.trans hap8
              clear hsq8 hbd8 hr8 hg8 hat8 r3 fz3 e6 e7 hap8
              generalize World.setCell W8 ⟨m, el.length * 4 + 3, none⟩ (.slice (some ⟨g2, 0, none⟩) (la.gl.length + 1) cap2) = W9 at *
              gi_wp2_with fail
              have hws := HWS.out
              refine ⟨fun j hj => hab.block j (by omega) (by omega), by rw [HWL.out]; omega, hab.boxed HB0.out (by omega), hab.boxed HB1.out (by omega), ⟨_, _, hab.boxed HB2.out (by omega), HSQ8.out, HYS.out, by rw [hlen8]; exact Nat.le_succ_of_le HLN.out, HBD8.out⟩, hab.below HBEL.out (Nat.le_refl _) (fun j hj => by omega)⟩
            · skip
              gi_wp2_with fail
              refine ⟨trivial, (CallsIn.inRound l (callsIn_wide.2 HTR.out)).mono ?_⟩
              rintro e w1 ⟨rfl, hw1⟩
              subst hw1
              gi_wp2_with fail
              refine ⟨trivial, (CallsIn.inRound l (callsIn_wide.2 HSP.out)).mono ?_⟩
              rintro e W1 ⟨rfl, hsi, hbw⟩
              have hap1 : Apart (fun _ => False) w1 W1 := Apart.of_below hbw
              have s0 := hsi.2 0 hwne
              have HSI := hideIt hsi
              have HBW := hideIt hbw
              clear hsi hbw HSP HTR
              have HNO := hideIt (HSN.out (step_cont_no hc hl9 hok))
              have HRC := hideIt (readCont_any w1.heap.size ws.length ws W1 HSI.out hl9 HWM.out (HM.out.below (HBEL.out.trans (HBW.out.mono HBEL.out.size))))
              unfold ReadsCont at HRC
              rw [hok] at HRC
              rw [hl9] at HRC
              have g2 := hap1.boxed HB2.out id
              have c2 := g2.cell
              generalize ByteArray.mk (wd ws 1).toArray = nm at *
              generalize nOf (wd ws 2) = n2 at *
              generalize nOf (wd ws 3) = n3 at *
              generalize nOf (wd ws 4) = n4 at *
              generalize nOf (wd ws 5) = n5 at *
              generalize cpOf (wd ws 7) = cp at *
              gi_wp2_with fail
              refine ⟨trivial, (CallsIn.inRound l (callsIn_wide.2 HRC.out)).mono ?_⟩
              rintro e W2 ⟨nv, dv, rfl, hnd, hdd, ⟨na, nn, nc, rfl, hna⟩, ⟨ea, en, ec, rfl, hea⟩, hb2⟩
              have hap4 : Apart (fun _ => False) w1 ((W2.alloc (.cells #[.string nm, .int .i64 n2, .int .i64 n3, .int .i64 n4, .int .i64 n5, .slice na nn nc] 56)).alloc (.cells #[.int .u64 cp, .slice ea en ec] 64)) := ((hap1.trans (Apart.of_below hb2)).trans (Apart.alloc _ _ _)).trans (Apart.alloc _ _ _)
              clear s0 q0 q1 g2 c2
              have g0 := hap4.boxed HB0.out id
              have g1 := hap4.boxed HB1.out id
              have c0 := g0.cell
              have f0 := g0.frozen
              have c1 := g1.cell
              have f1 := g1.frozen
              clear hnd hdd hna hea hb2
              gi_wp2_with fail
              have hab : Apart (fun j => j = w.heap.size ∨ j = w.heap.size + 1) w1 ((((W2.alloc (.cells #[.string nm, .int .i64 n2, .int .i64 n3, .int .i64 n4, .int .i64 n5, .slice na nn nc] 56)).alloc (.cells #[.int .u64 cp, .slice ea en ec] 64)).setCell ⟨w.heap.size, 0, none⟩ (.slice none 0 0)).setCell ⟨w.heap.size + 1, 0, none⟩ (.bool false)) := ((hap4.wide fun _ h => h.elim).trans (Apart.setCell (.inl rfl) _ _ _)).trans (Apart.setCell (.inr rfl) _ _ _)
              have hws := HWS.out
              exact ⟨fun j hj => hab.block j (by omega) (by omega), rfl, (Apart.setCell (K := fun j => j = w.heap.size + 1) rfl _ 0 _).boxed (g0.set _) (by omega), ((Apart.setCell (K := fun j => j = w.heap.size) rfl _ 0 _).boxed g1 (by omega)).set _, hab.below HBEL.out (Nat.le_refl _) (fun j hj => by omega), HNO.out⟩
          · have h0' : hs.length = 0 := by omega
            gi_wp2_with fail
            refine ⟨trivial, (CallsIn.inRound l (callsIn_wide.2 HTR.out)).mono ?_⟩
            rintro e w1 ⟨rfl, hw1⟩
            subst hw1
            gi_wp2_with fail
            refine ⟨trivial, (CallsIn.inRound l (callsIn_wide.2 HSP.out)).mono ?_⟩
            rintro e W1 ⟨rfl, hsi, hbw⟩
            have hap1 : Apart (fun _ => False) w1 W1 := Apart.of_below hbw
            have s0 := hsi.2 0 hwne
            have HSI := hideIt hsi
            have HBW := hideIt hbw
            clear hsi hbw HSP HTR
            have HNO := hideIt (HSN.out (step_no (by simp [Sv.isPod, hp]) (fun _ => h0)))
            have g2 := hap1.boxed HB2.out id
            have c2 := g2.cell
            rw [h0'] at c2 g2
            have g0 := hap1.boxed HB0.out id
            have g1 := hap1.boxed HB1.out id
            have c0 := g0.cell
            have f0 := g0.frozen
            have c1 := g1.cell
            have f1 := g1.frozen
            gi_wp2_with fail
            have hab : Apart (fun j => j = w.heap.size ∨ j = w.heap.size + 1) w1 ((W1.setCell ⟨w.heap.size, 0, none⟩ (.slice none 0 0)).setCell ⟨w.heap.size + 1, 0, none⟩ (.bool false)) := ((hap1.wide fun _ h => h.elim).trans (Apart.setCell (.inl rfl) _ _ _)).trans (Apart.setCell (.inr rfl) _ _ _)
            have hws := HWS.out
            exact ⟨fun j hj => hab.block j (by omega) (by omega), rfl, (Apart.setCell (K := fun j => j = w.heap.size + 1) rfl _ 0 _).boxed (g0.set _) (by omega), ((Apart.setCell (K := fun j => j = w.heap.size) rfl _ 0 _).boxed g1 (by omega)).set _, hab.below HBEL.out (Nat.le_refl _) (fun j hj => by omega), HNO.out⟩
        · have hl9' : ((ws.length : Int) == 9) = false := by simp; omega
          gi_wp2_with fail
          refine ⟨trivial, (CallsIn.inRound l (callsIn_wide.2 HTR.out)).mono ?_⟩
          rintro e w1 ⟨rfl, hw1⟩
          subst hw1
          gi_wp2_with fail
          refine ⟨trivial, (CallsIn.inRound l (callsIn_wide.2 HSP.out)).mono ?_⟩
          rintro e W1 ⟨rfl, hsi, hbw⟩
          have hap1 : Apart (fun _ => False) w1 W1 := Apart.of_below hbw
          have s0 := hsi.2 0 hwne
          have HSI := hideIt hsi
          have HBW := hideIt hbw
          clear hsi hbw HSP HTR
          have HNO := hideIt (HSN.out (step_no (by simp [Sv.isPod, hp]) (fun h => by simp [Sv.isCont, hl9] at h)))
          have g0 := hap1.boxed HB0.out id
          have g1 := hap1.boxed HB1.out id
          have c0 := g0.cell
          have f0 := g0.frozen
          have c1 := g1.cell
          have f1 := g1.frozen
          gi_wp2_with fail
          have hab : Apart (fun j => j = w.heap.size ∨ j = w.heap.size + 1) w1 ((W1.setCell ⟨w.heap.size, 0, none⟩ (.slice none 0 0)).setCell ⟨w.heap.size + 1, 0, none⟩ (.bool false)) := ((hap1.wide fun _ h => h.elim).trans (Apart.setCell (.inl rfl) _ _ _)).trans (Apart.setCell (.inr rfl) _ _ _)
          have hws := HWS.out
          exact ⟨fun j hj => hab.block j (by omega) (by omega), rfl, (Apart.setCell (K := fun j => j = w.heap.size + 1) rfl _ 0 _).boxed (g0.set _) (by omega), ((Apart.setCell (K := fun j => j = w.heap.size) rfl _ 0 _).boxed g1 (by omega)).set _, hab.below HBEL.out (Nat.le_refl _) (fun j hj => by omega), HNO.out⟩
      · rw [decide_eq_false hc] at q1
        gi_wp2_with fail
        refine ⟨trivial, (CallsIn.inRound l (callsIn_wide.2 HTR.out)).mono ?_⟩
        rintro e w1 ⟨rfl, hw1⟩
        subst hw1
        gi_wp2_with fail
        refine ⟨trivial, (CallsIn.inRound l (callsIn_wide.2 HSP.out)).mono ?_⟩
        rintro e W1 ⟨rfl, hsi, hbw⟩
        have hap1 : Apart (fun _ => False) w1 W1 := Apart.of_below hbw
        have s0 := hsi.2 0 hwne
        have HSI := hideIt hsi
        have HBW := hideIt hbw
        clear hsi hbw HSP HTR
        have HNO := hideIt (HSN.out (step_no (by simp [Sv.isPod, hp]) (fun h => by simp [Sv.isCont, hc] at h)))
        have g0 := hap1.boxed HB0.out id
        have g1 := hap1.boxed HB1.out id
        have c0 := g0.cell
        have f0 := g0.frozen
        have c1 := g1.cell
        have f1 := g1.frozen
        gi_wp2_with fail
        have hab : Apart (fun j => j = w.heap.size ∨ j = w.heap.size + 1) w1 ((W1.setCell ⟨w.heap.size, 0, none⟩ (.slice none 0 0)).setCell ⟨w.heap.size + 1, 0, none⟩ (.bool false)) := ((hap1.wide fun _ h => h.elim).trans (Apart.setCell (.inl rfl) _ _ _)).trans (Apart.setCell (.inr rfl) _ _ _)
        have hws := HWS.out
        exact ⟨fun j hj => hab.block j (by omega) (by omega), rfl, (Apart.setCell (K := fun j => j = w.heap.size + 1) rfl _ 0 _).boxed (g0.set _) (by omega), ((Apart.setCell (K := fun j => j = w.heap.size) rfl _ 0 _).boxed g1 (by omega)).set _, hab.below HBEL.out (Nat.le_refl _) (fun j hj => by omega), HNO.out⟩
  case done =>
    intro W hI hD
    rw [HTL.out, ← HWL.out] at hI
    obtain ⟨_, hb0, hb1, ⟨v, hs, hb2, hsq, hst, _⟩, hbel⟩ := hI
    rw [List.take_length] at hst
    have HS := hideIt (HRD.out.trans hst)
    have HSQ := hideIt hsq
    have c2 := hb2.cell
    have c1 := hb1.cell
    have c0 := hb0.cell
    have f1 := hb1.frozen
    have f0 := hb0.frozen
    have HBEL := hideIt hbel
    have HB0 := hideIt hb0
    have HB1 := hideIt hb1
    obtain ⟨va, vc, rfl⟩ := hsq.slice
    clear hbel hsq hseq HTS HTZ hst HXM HWD
    generalize hs.length = hl at *
    gi_wp2_with fail
    have hab : Apart (fun j => j = w.heap.size ∨ j = w.heap.size + 1) W ((W.setCell ⟨w.heap.size, 0, none⟩ (.slice va hl vc)).setCell ⟨w.heap.size + 1, 0, none⟩ (.bool true)) := (Apart.setCell (.inl rfl) _ _ _).trans (Apart.setCell (.inr rfl) _ _ _)
    have d0 := (Apart.setCell (K := fun j => j = w.heap.size + 1) rfl _ 0 (.bool true)).boxed (HB0.out.set (.slice va hl vc)) (by omega)
    have d1 := ((Apart.setCell (K := fun j => j = w.heap.size) rfl W 0 (.slice va hl vc)).boxed HB1.out (by omega)).set (.bool true)
    have hD5 := (hab.block A.heap.size (Array.getElem?_eq_some_iff.1 hD).1 (by omega)).trans hD
    generalize (W.setCell ⟨w.heap.size, 0, none⟩ (.slice va hl vc)).setCell ⟨w.heap.size + 1, 0, none⟩ (.bool true) = W5 at *
    have hput : Apart (fun j => j = A.heap.size) W5 (W5.putObj A.heap.size (.deferred none)) := Apart.putObj (K := fun j => j = A.heap.size) rfl _ _
    have e1 := (hput.boxed d0 (by omega)).cell
    have e2 := (hput.boxed d1 (by omega)).cell
    have HR5 := hideIt ((HSQ.out.apart hab (fun j hj => by omega)).apart hput (fun j hj => by omega)).plain
    have HB5 := hideIt (hput.below (hab.below HBEL.out (Nat.le_refl _) (fun j hj => by omega)) (Nat.le_refl _) (fun j hj => by omega))
    refine ⟨by simp, .inl ⟨_, _, rfl, run_takeDeferred hD5, ?_⟩⟩
    refine ⟨.tuple #[.slice va hl vc, .bool true], ?_, .slice va hl vc, by rw [HS.out]; rfl, fun xs hx => ?_, ⟨_, _, _, rfl⟩, HB5.out⟩
    · generalize W5.putObj A.heap.size (Obj.deferred none) = W6 at *
      rw [results_cc rfl]
      go_simp
    · rw [HS.out] at hx
      cases hx
      exact HR5.out
  case stop =>
    rintro c W ⟨rfl, h4, h5, hb, hn⟩ hD
    have c1 := h4.cell
    have c2 := h5.cell
    have HN := hideIt hn
    have HB := hideIt hb
    clear hn hb hseq HTS HTZ HXM HWD
    gi_wp2_with fail
    have hput : Apart (fun j => j = A.heap.size) W (W.putObj A.heap.size (.deferred none)) := Apart.putObj (K := fun j => j = A.heap.size) rfl _ _
    have e1 := (hput.boxed h4 (by omega)).cell
    have e2 := (hput.boxed h5 (by omega)).cell
    have HB5 := hideIt (hput.below HB.out (Nat.le_refl _) (fun j hj => by omega))
    refine ⟨by simp, .inl ⟨_, _, rfl, run_takeDeferred hD, ?_⟩⟩
    refine ⟨.tuple #[.slice none 0 0, .bool false], ?_, .slice none 0 0, by rw [HN.out]; rfl, fun xs hx => ?_, ⟨_, _, _, rfl⟩, HB5.out⟩
    · generalize W.putObj A.heap.size (Obj.deferred none) = W6 at *
      rw [results_cc rfl]
      go_simp
    · rw [HN.out] at hx; cases hx
end Go.Proofs.YtlljniaobbbjgaaGreatDoor

