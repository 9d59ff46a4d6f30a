/-
  The reader with its bytes told, and a drawn Big as a function of them.
-/
import Derived.Test.YtfcnokagfibgcahGreatDraw2
namespace Go.Proofs.YtfcnokagfibgcahGreat
open Go.RowKit

/-- The reader in block P; rs are the bytes that are left. -/
structure Rs (P : Nat) (rs : List Int) (W : World) : Prop where
  ex : ∃ (a : Option Addr) (c : Nat) (bs : List Int) (i : Nat), W.cell? ⟨P, 0, none⟩ = some (.slice a bs.length c) ∧ W.cell? ⟨P, 1, none⟩ = some (.int .i64 i) ∧ i ≤ bs.length ∧ bs.length ≤ 500 ∧ RowAt .u8 W a bs ∧ (∀ b off, a = some ⟨b, off, none⟩ → bs ≠ [] → b < P) ∧ Dig 256 bs ∧ rs = bs.drop i
  free : ∀ j, W.frozen? ⟨P, j, none⟩ = false
  lt : P < W.heap.size

theorem Rs.rd {P : Nat} {rs : List Int} {W : World} (h : Rs P rs W) : Rd P W := by
  obtain ⟨⟨a, c, bs, i, h1, h2, h3, h4, h5, h6, h7, _⟩, hf, hl⟩ := h
  exact ⟨⟨a, c, bs, i, h1, h2, h3, h4, h5, h6, h7⟩, hf, hl⟩

theorem Rs.above {P B : Nat} {rs : List Int} {W W' : World} (h : Rs P rs W) (hb : Below B W W') (hB : P < B) : Rs P rs W' := by
  obtain ⟨⟨a, c, bs, i, h1, h2, h3, h4, h5, h6, h7, h8⟩, hf, hl⟩ := h
  refine ⟨⟨a, c, bs, i, (hb.cell (p := ⟨P, 0, none⟩) hB).trans h1, (hb.cell (p := ⟨P, 1, none⟩) hB).trans h2, h3, h4, ?_, h6, h7, h8⟩, fun j => (hb.frozen (p := ⟨P, j, none⟩) hB).trans (hf j), Nat.lt_of_lt_of_le hl hb.size⟩
  by_cases e : bs = []
  · exact .inl e
  · rcases h5 with h5 | ⟨b, off, g1, g2, g3⟩
    · exact .inl h5
    · have := h6 b off g1 e
      exact .inr ⟨b, off, g1, Nat.lt_of_lt_of_le g2 hb.size, fun j hj => (hb.cell (p := ⟨b, off + j, none⟩) (by simp; omega)).trans (g3 j hj)⟩

theorem Rs.later {P : Nat} {rs : List Int} {W W' : World} (h : Rs P rs W) (hb : Below W.heap.size W W') : Rs P rs W' := h.above hb h.lt

/-- What next hands back. -/
def NextF (P : Nat) (rs : List Int) (w : World) (e : Ending) (w' : World) : Prop := e = .returned (.int .i64 (rs.headD 0)) ∧ 0 ≤ rs.headD 0 ∧ rs.headD 0 ≤ 255 ∧ Rs P rs.tail w' ∧ Aside P w w'

set_option maxHeartbeats 1000000 in
theorem nextF_any (P : Nat) (rs : List Int) (w : World) (h : Rs P rs w) :
    Calls Tryz.prog 50 #[.pointer (some ⟨P, 0, none⟩)] w fun e w' => NextF P rs w e w' := by
  have HH : Hid (Rs P rs w) := h
  obtain ⟨⟨a, c, bs, i, h1, h2, h3, h4, h5, h6, h7, h8⟩, hf, hl⟩ := h
  by_cases hi : i < bs.length
  · obtain ⟨b, off, rfl, g1⟩ := row_cell h5 (Below.refl _ _) hi
    have hb := h7.at (by decide) i
    have hrs : rs = bs.getD i 0 :: bs.drop (i + 1) := by
      rw [h8, List.drop_eq_getElem_cons hi, List.getD_eq_getElem?_getD, List.getElem?_eq_getElem hi]
      rfl
    obtain ⟨y, hy⟩ : ∃ y, y = bs.getD i 0 := ⟨_, rfl⟩
    rw [← hy] at hb g1 hrs
    obtain ⟨hb0, hb1⟩ := hb
    have hge : ¬ ((i : Int) ≥ bs.length) := by omega
    have hlt : (i : Int) < bs.length := by omega
    have HO : Hid (∀ W, Below w.heap.size w W → NextF P rs w (.returned (.int .i64 y)) (W.setCell ⟨P, 1, none⟩ (.int .i64 ((i : Int) + 1)))) := by
      intro W hW
      have c1 : W.cell? ⟨P, 0, none⟩ = some (.slice (some ⟨b, off, none⟩) bs.length c) := (hW.cell (p := ⟨P, 0, none⟩) hl).trans h1
      have c2 : W.cell? ⟨P, 1, none⟩ = some (.int .i64 i) := (hW.cell (p := ⟨P, 1, none⟩) hl).trans h2
      rw [hrs]
      refine ⟨rfl, hb0, Int.le_of_lt_add_one hb1, ⟨⟨some ⟨b, off, none⟩, c, bs, i + 1, ?_, ?_, by omega, h4, ?_, h6, h7, rfl⟩, fun j => by rw [World.frozen?_setCell]; exact (hW.frozen (p := ⟨P, j, none⟩) hl).trans (hf j), by have := hW.size; simp; omega⟩, (Aside.of hW).set 1 _⟩
      · rw [World.cell?_setCell_other _ _ _ _ (by simp)]; exact c1
      · rw [World.cell?_setCell_same _ _ _ c2]; simp
      · have hbP := h6 b off rfl (by intro e; rw [e] at hi; simp at hi)
        exact ((Aside.of (P := P) hW).set 1 _).row h5 (fun b' off' e _ => by have := congrArg Addr.block (Option.some.inj e); simp at this; omega)
    clear h5 h6 h7 hy HH hrs h8
    go_enter Tryz.func50, Tryz.ntmps50
    go_wp2
    go_quiet (fail)
    go_wp2
    go_quiet (fail)
    go_wp2
    go_ret
    exact HO.out _ (by first | exact below_drewN (below_drewN (Below.refl _ _) _) _ | exact below_drewN (Below.refl _ _) _)
  · have hge : (bs.length : Int) ≤ i := by omega
    have hrs : rs = [] := by rw [h8]; exact List.drop_eq_nil_of_le (by omega)
    have HO : Hid (∀ W, Below w.heap.size w W → NextF P rs w (.returned (.int .i64 0)) W) := fun W hW => by
      have h2 := HH.out.later hW
      rw [hrs] at h2 ⊢
      exact ⟨rfl, by decide, by decide, h2, Aside.of hW⟩
    clear h5 h6 h7 HH hrs h8
    go_enter Tryz.func50, Tryz.ntmps50
    go_wp2
    go_quiet (fail)
    go_wp2
    go_ret
    exact HO.out _ (below_drewN (Below.refl _ _) _)

/-- What l1open hands back. -/
def OpenF (w : World) (bs : List Int) (e : Ending) (w' : World) : Prop := e = .returned (.pointer (some ⟨w.heap.size, 0, none⟩)) ∧ Rs w.heap.size (bs.take 500) w' ∧ Below w.heap.size w w' ∧ w'.heap.size = w.heap.size + 1

theorem openF_rd (w : World) (a : Option Addr) (n c : Nat) (bs us : List Int) (t : TypeId) (hn : n = bs.length) (h5 : bs.length ≤ 500) (hb : Dig 256 bs) (hr : RowAt .u8 w a bs) (hu : us.take 500 = bs) : OpenF w us (.returned (.pointer (some ⟨w.heap.size, 0, none⟩))) (w.alloc (.cells #[.slice a n c, .int .i64 0] t)) := by
  subst hn
  refine ⟨rfl, ⟨⟨a, c, bs, 0, by simp [go_sem], by simp [go_sem], by omega, h5, hr.later (bel0 _ _), ?_, hb, hu⟩, fun j => by simp [go_sem], by simp⟩, bel0 _ _, by simp⟩
  intro b off e hne
  rcases hr with hr | ⟨b', off', g1, g2, _⟩
  · exact absurd hr hne
  · rw [e] at g1
    have := congrArg Addr.block (Option.some.inj g1)
    simp at this
    omega

set_option maxHeartbeats 1000000 in
theorem openF_any (a : Option Addr) (c : Nat) (bs : List Int) (w : World) (hn : bs.length ≤ 1048576) (hc : bs.length ≤ c) (hcm : c ≤ maxLen) (hnil : a = none → c = 0) (hr : RowAt .u8 w a bs) (hb : Dig 256 bs) :
    Calls Tryz.prog 48 #[.slice a bs.length c] w fun e w' => OpenF w bs e w' := by
  unfold maxLen at hcm
  by_cases h5 : 500 < bs.length
  · have HO : Hid (∀ t, OpenF w bs (.returned (.pointer (some ⟨w.heap.size, 0, none⟩))) (w.alloc (.cells #[.slice a 500 c, .int .i64 0] t))) := fun t =>
      openF_rd w a 500 c (bs.take 500) bs t (by rw [List.length_take]; omega) (by rw [List.length_take]; omega) (hb.take 500) (hr.take 500) rfl
    cases a with
    | none => have := hnil rfl; omega
    | some x =>
      clear hr hb
      go_enter Tryz.func48, Tryz.ntmps48
      go_wp2
      go_ret
      exact HO.out _
  · have HO : Hid (∀ t, OpenF w bs (.returned (.pointer (some ⟨w.heap.size, 0, none⟩))) (w.alloc (.cells #[.slice a bs.length c, .int .i64 0] t))) := fun t =>
      openF_rd w a bs.length c bs bs t rfl (by omega) hb hr (List.take_of_length_le (by omega))
    cases a with
    | none =>
      have h0 := hnil rfl
      subst h0
      have hl : bs.length = 0 := by omega
      rw [hl] at HO ⊢
      clear hr hb
      go_enter Tryz.func48, Tryz.ntmps48
      go_wp2
      go_ret
      exact HO.out _
    | some x =>
      clear hr hb
      go_enter Tryz.func48, Tryz.ntmps48
      go_wp2
      go_ret
      exact HO.out _


/-- One limb, and what is left of the bytes. -/
def limbF (rs : List Int) : Int × List Int := if rs.headD 0 < 160 then (oddT.getD (rs.headD 0 % 8).toNat 0, rs.tail) else (bits .xor .u32 (rs.headD 0 * 16843009) (rs.tail.headD 0 * 66309), rs.tail.tail)
def limbsF : Nat → List Int → List Int × List Int
  | 0, rs => ([], rs)
  | n + 1, rs => ((limbsF n rs).1 ++ [(limbF (limbsF n rs).2).1], (limbF (limbsF n rs).2).2)
/-- The limbs of a drawn Big, zeros on top and all, and what is left of the bytes; its magnitude; its sign. -/
def drawL (rs : List Int) : List Int × List Int := if rs.headD 0 = 7 then (List.replicate (511 + rs.tail.headD 0 % 2).toNat 4294967295, rs.tail.tail) else limbsF (rs.headD 0 % 6).toNat rs.tail
def drawZ (rs : List Int) : List Int := trimL (drawL rs).1
def drawG (rs : List Int) : Bool := decide (drawZ rs ≠ []) && (rs.headD 0 / 6 % 2 == 1)

/-- A drawn Big: what is handed back. -/
def DrawF (P : Nat) (rs : List Int) (w : World) (e : Ending) (w' : World) : Prop :=
  ∃ (a : Option Addr) (c : Nat), e = .returned (.agg #[.bool (drawG rs), .slice a (drawZ rs).length c]) ∧ (drawZ rs).length ≤ 512 ∧ U32 (drawZ rs) ∧ w'.ownsRow w.heap.size 24 1 (.slice a (drawZ rs).length c) (drawZ rs).length (vals .u32 (drawZ rs)) ∧ Rs P (drawL rs).2 w' ∧ Aside P w w'

theorem DS.outF {w : World} {P R O B : Nat} {G : Bool} {ys rs : List Int} {a : Option Addr} {c : Nat} {W : World} (h : DS w P R O B 24 G (.slice a ys.length c) ys W) (hn : ys.length ≤ 512) (hs : Rs P (drawL rs).2 W) (hz : ys = drawZ rs) (hG : G = drawG rs) :
    DrawF P rs w (.returned (.agg #[.bool G, .slice a ys.length c])) ((W.setCell ⟨R, 0, none⟩ (.bool G)).setCell ⟨R, 1, none⟩ (.slice a ys.length c)) := by
  have o1 := h.ordR; have o2 := h.ordP; have o3 := h.ordO; have o4 := h.ordB; have o5 := h.ordW
  subst hz hG
  refine ⟨a, c, rfl, hn, h.u, own_mono (own_set (own_set h.own (by simp; omega) _) (by simp; omega) _) (by omega), ?_, (h.asd.setHigh (by simp; omega) _).setHigh (by simp; omega) _⟩
  have hw : Below (P + 1) W ((W.setCell ⟨R, 0, none⟩ (.bool (drawG rs))).setCell ⟨R, 1, none⟩ (.slice a (drawZ rs).length c)) := ((Below.refl _ _).setCell (by simp; omega) _).setCell (by simp; omega) _
  exact hs.above hw (by omega)

theorem trim_zero {ys : List Int} {m : Nat} (hm : ys.length = m + 1) (h : ys.getD m 0 = 0) : trimL ys = trimL (ys.take m) := by
  have := trim_take_step (zs := ys) (m := m) (by omega) h
  rw [← hm, List.take_length] at this
  exact this

theorem trim_stop {ys : List Int} {m : Nat} (hm : ys.length = m + 1) (h : ys.getD m 0 ≠ 0) : trimL ys = ys := by
  have := trim_take_stop (zs := ys) (m := m) (by omega) h
  rw [← hm, List.take_length] at this
  exact this

theorem oddT_cellF {W : World} {T j : Nat} (h : RowAt .u32 W (some ⟨T, 0, none⟩) oddT) (hj : j < 8) : ∃ y, W.cell? ⟨T, j, none⟩ = some (.int .u32 y) ∧ 0 ≤ y ∧ y < 4294967296 ∧ y = oddT.getD j 0 := by
  obtain ⟨y, h1, h2, h3⟩ := oddT_cell h hj
  refine ⟨y, h1, h2, h3, ?_⟩
  rcases h with h | ⟨b, off, e, _, hc⟩
  · cases h
  · injection e with e
    injection e with e1 e2
    subst e1 e2
    have := hc j (by simpa [oddT] using hj)
    rw [Nat.zero_add, h1] at this
    simpa using this

end Go.Proofs.YtfcnokagfibgcahGreat
