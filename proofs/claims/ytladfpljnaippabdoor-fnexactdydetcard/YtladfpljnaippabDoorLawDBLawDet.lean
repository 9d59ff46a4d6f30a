/-
  What holds of memory while a law over a function of two Dyadics runs.
-/
import Derived.Test.YtladfpljnaippabDoorRes
import Derived.Test.YtladfpljnaippabDoorDyI3WithinMarksDyMkListD
import Derived.Test.YtladfpljnaippabDoorBigs
import Derived.Test.YtladfpljnaippabDoorOpenLTzOpenTDy6DyI0
import Derived.Test.YtladfpljnaippabDoorListE
import Derived.Test.YtladfpljnaippabDoorDetQDy3hDetR
import Derived.Test.YtladfpljnaippabDoorImplOneDyI4DyI8pDetK
namespace Go.Proofs.YtladfpljnaippabDoor
open Go.RowKit

/-- The boxes of the law's arguments (behind w), of the model's answer (T1), of the two copies (T2, T3), of the program's answer (T4); where each row lies. -/
structure LBD (w : World) (g g' : Bool) (a a' : Option Addr) (c c' : Nat) (zs ys : List Int) (E E' : Int) (G : Bool) (Z : List Int) (EZ : Int) (aw : Option Addr) (cw : Nat) (x0 x1 ag : Option Addr) (cg T1 TE T2 T3 T4 : Nat) (Wsp : World) (X0 X1 ZG : List Int) (W : World) : Prop where
  bx : Bx6 w (.bool g) (.slice a zs.length c) (.int .i64 E) (.bool g') (.slice a' ys.length c') (.int .i64 E') W
  w0 : W.cell? ⟨T1, 0, none⟩ = some (.bool G)
  w1 : W.cell? ⟨T1, 1, none⟩ = some (.slice aw Z.length cw)
  we : W.cell? ⟨T1, 2, none⟩ = some (.int .i64 EZ)
  p0 : W.cell? ⟨T2, 0, none⟩ = some (.bool g)
  p1 : W.cell? ⟨T2, 1, none⟩ = some (.slice x0 zs.length zs.length)
  pe : W.cell? ⟨T2, 2, none⟩ = some (.int .i64 E)
  p2 : W.cell? ⟨T3, 0, none⟩ = some (.bool g')
  p3 : W.cell? ⟨T3, 1, none⟩ = some (.slice x1 ys.length ys.length)
  pf : W.cell? ⟨T3, 2, none⟩ = some (.int .i64 E')
  g0 : W.cell? ⟨T4, 0, none⟩ = some (.bool G)
  g1 : W.cell? ⟨T4, 1, none⟩ = some (.slice ag Z.length cg)
  ge : W.cell? ⟨T4, 2, none⟩ = some (.int .i64 EZ)
  o0 : w.heap.size + 1 < T1
  o1 : T1 < TE
  oE : TE ≤ T2
  o2 : T2 < T3
  o3 : T3 < T4
  o4 : T4 < W.heap.size
  rw : RowAt .u32 Wsp aw Z
  rwT : Wsp.heap.size = TE
  rwB : Below TE Wsp W
  r0 : RowIn .u32 W TE T2 x0 X0
  r1 : RowIn .u32 W (T2 + 1) T3 x1 X1
  rg : RowIn .u32 W (T3 + 1) T4 ag ZG

section
variable {w : World} {g g' : Bool} {a a' : Option Addr} {c c' : Nat} {zs ys : List Int} {E E' : Int} {G : Bool} {Z : List Int} {EZ : Int} {aw : Option Addr} {cw : Nat} {x0 x1 ag : Option Addr} {cg T1 TE T2 T3 T4 : Nat} {Wsp : World} {X0 X1 ZG : List Int} {W W' W1 : World}

theorem LBD.wrow (h : LBD w g g' a a' c c' zs ys E E' G Z EZ aw cw x0 x1 ag cg T1 TE T2 T3 T4 Wsp X0 X1 ZG W) : RowAt .u32 W aw Z := h.rw.later (by rw [h.rwT]; exact h.rwB)

theorem LBD.later (h : LBD w g g' a a' c c' zs ys E E' G Z EZ aw cw x0 x1 ag cg T1 TE T2 T3 T4 Wsp X0 X1 ZG W) (hb : Below W.heap.size W W') : LBD w g g' a a' c c' zs ys E E' G Z EZ aw cw x0 x1 ag cg T1 TE T2 T3 T4 Wsp X0 X1 ZG W' := by
  have h1 := h.o1; have hE := h.oE; have h2 := h.o2; have h3 := h.o3; have h4 := h.o4
  exact ⟨h.bx.later hb, (hb.cell (by simp; omega)).trans h.w0, (hb.cell (by simp; omega)).trans h.w1, (hb.cell (by simp; omega)).trans h.we, (hb.cell (by simp; omega)).trans h.p0, (hb.cell (by simp; omega)).trans h.p1, (hb.cell (by simp; omega)).trans h.pe, (hb.cell (by simp; omega)).trans h.p2, (hb.cell (by simp; omega)).trans h.p3, (hb.cell (by simp; omega)).trans h.pf,
    (hb.cell (by simp; omega)).trans h.g0, (hb.cell (by simp; omega)).trans h.g1, (hb.cell (by simp; omega)).trans h.ge, h.o0, h1, hE, h2, h3, Nat.lt_of_lt_of_le h4 hb.size, h.rw, h.rwT, h.rwB.trans (hb.mono (by omega)), h.r0.later hb, h.r1.later hb, h.rg.later hb⟩

/-- A write within blocks that hold none of the boxes. -/
theorem LBD.turn {lo hi : Nat} (h : LBD w g g' a a' c c' zs ys E E' G Z EZ aw cw x0 x1 ag cg T1 TE T2 T3 T4 Wsp X0 X1 ZG W) (hw : Within lo hi W W') (hT : (lo = TE ∧ hi = T2) ∨ (lo = T2 + 1 ∧ hi = T3) ∨ (lo = T3 + 1 ∧ hi = T4))
    {X0' X1' ZG' : List Int} (h0 : RowIn .u32 W' TE T2 x0 X0') (h1' : RowIn .u32 W' (T2 + 1) T3 x1 X1') (hg' : RowIn .u32 W' (T3 + 1) T4 ag ZG') : LBD w g g' a a' c c' zs ys E E' G Z EZ aw cw x0 x1 ag cg T1 TE T2 T3 T4 Wsp X0' X1' ZG' W' := by
  have h1 := h.o1; have hE := h.oE; have h2 := h.o2; have h3 := h.o3; have h4 := h.o4; have h00 := h.o0
  have hlo : TE ≤ lo := by omega
  have hB := hw.below
  refine ⟨?_, (hw.cell (by simp; omega)).trans h.w0, (hw.cell (by simp; omega)).trans h.w1, (hw.cell (by simp; omega)).trans h.we, (hw.cell (by simp; omega)).trans h.p0, (hw.cell (by simp; omega)).trans h.p1, (hw.cell (by simp; omega)).trans h.pe, (hw.cell (by simp; omega)).trans h.p2, (hw.cell (by simp; omega)).trans h.p3, (hw.cell (by simp; omega)).trans h.pf,
    (hw.cell (by simp; omega)).trans h.g0, (hw.cell (by simp; omega)).trans h.g1, (hw.cell (by simp; omega)).trans h.ge, h.o0, h1, hE, h2, h3, by rw [hw.size]; exact h4, h.rw, h.rwT, h.rwB.trans (hB.mono (by omega)), h0, h1', hg'⟩
  exact ⟨(hw.cell (by simp; omega)).trans h.bx.q0, (hw.cell (by simp; omega)).trans h.bx.q1, (hw.cell (by simp; omega)).trans h.bx.q2, (hw.cell (by simp; omega)).trans h.bx.p0, (hw.cell (by simp; omega)).trans h.bx.p1, (hw.cell (by simp; omega)).trans h.bx.p2, by rw [hw.size]; exact h.bx.le, h.bx.bel.trans (hB.mono (by omega))⟩

theorem LBD.mark0 (h : LBD w g g' a a' c c' zs ys E E' G Z EZ aw cw x0 x1 ag cg T1 TE T2 T3 T4 Wsp X0 X1 ZG W) {X0' : List Int} (hr : RowIn .u32 W' TE T2 x0 X0') (hw : ∃ W1, Below W.heap.size W W1 ∧ Within TE T2 W1 W') : LBD w g g' a a' c c' zs ys E E' G Z EZ aw cw x0 x1 ag cg T1 TE T2 T3 T4 Wsp X0' X1 ZG W' := by
  obtain ⟨W1, hb, hwi⟩ := hw
  have h2 := h.later hb
  have o1 := h.o1; have oE := h.oE; have o2 := h.o2; have o3 := h.o3
  exact h2.turn hwi (.inl ⟨rfl, rfl⟩) hr (h2.r1.apart hwi (by omega)) (h2.rg.apart hwi (by omega))

theorem LBD.mark1 (h : LBD w g g' a a' c c' zs ys E E' G Z EZ aw cw x0 x1 ag cg T1 TE T2 T3 T4 Wsp X0 X1 ZG W) {X1' : List Int} (hr : RowIn .u32 W' (T2 + 1) T3 x1 X1') (hw : ∃ W1, Below W.heap.size W W1 ∧ Within (T2 + 1) T3 W1 W') : LBD w g g' a a' c c' zs ys E E' G Z EZ aw cw x0 x1 ag cg T1 TE T2 T3 T4 Wsp X0 X1' ZG W' := by
  obtain ⟨W1, hb, hwi⟩ := hw
  have h2 := h.later hb
  have o1 := h.o1; have oE := h.oE; have o2 := h.o2; have o3 := h.o3
  exact h2.turn hwi (.inr (.inl ⟨rfl, rfl⟩)) (h2.r0.apart hwi (by omega)) hr (h2.rg.apart hwi (by omega))

theorem LBD.markg (h : LBD w g g' a a' c c' zs ys E E' G Z EZ aw cw x0 x1 ag cg T1 TE T2 T3 T4 Wsp X0 X1 ZG W) {ZG' : List Int} (hr : RowIn .u32 W' (T3 + 1) T4 ag ZG') (hw : ∃ W1, Below W.heap.size W W1 ∧ Within (T3 + 1) T4 W1 W') : LBD w g g' a a' c c' zs ys E E' G Z EZ aw cw x0 x1 ag cg T1 TE T2 T3 T4 Wsp X0 X1 ZG' W' := by
  obtain ⟨W1, hb, hwi⟩ := hw
  have h2 := h.later hb
  have o1 := h.o1; have oE := h.oE; have o2 := h.o2; have o3 := h.o3
  exact h2.turn hwi (.inr (.inr ⟨rfl, rfl⟩)) (h2.r0.apart hwi (by omega)) (h2.r1.apart hwi (by omega)) hr

/-- What the regions of the law need. -/
theorem LBD.held (h : LBD w g g' a a' c c' zs ys E E' G Z EZ aw cw x0 x1 ag cg T1 TE T2 T3 T4 Wsp X0 X1 ZG W) (hb : Below W.heap.size W W') :
    W'.cell? ⟨w.heap.size, 0, none⟩ = some (.bool g) ∧ W'.cell? ⟨w.heap.size, 1, none⟩ = some (.slice a zs.length c) ∧ W'.cell? ⟨w.heap.size, 2, none⟩ = some (.int .i64 E) ∧ W'.cell? ⟨w.heap.size + 1, 0, none⟩ = some (.bool g') ∧ W'.cell? ⟨w.heap.size + 1, 1, none⟩ = some (.slice a' ys.length c') ∧ W'.cell? ⟨w.heap.size + 1, 2, none⟩ = some (.int .i64 E') ∧
    W'.cell? ⟨T2, 0, none⟩ = some (.bool g) ∧ W'.cell? ⟨T2, 1, none⟩ = some (.slice x0 zs.length zs.length) ∧ W'.cell? ⟨T2, 2, none⟩ = some (.int .i64 E) ∧ W'.cell? ⟨T3, 0, none⟩ = some (.bool g') ∧ W'.cell? ⟨T3, 1, none⟩ = some (.slice x1 ys.length ys.length) ∧ W'.cell? ⟨T3, 2, none⟩ = some (.int .i64 E') ∧ Below W.heap.size W W' :=
  ⟨(h.later hb).bx.q0, (h.later hb).bx.q1, (h.later hb).bx.q2, (h.later hb).bx.p0, (h.later hb).bx.p1, (h.later hb).bx.p2, (h.later hb).p0, (h.later hb).p1, (h.later hb).pe, (h.later hb).p2, (h.later hb).p3, (h.later hb).pf, hb⟩

end

/-- The arguments' boxes and the model's answer's box. -/
structure LAD (w : World) (g g' : Bool) (a a' : Option Addr) (c c' : Nat) (zs ys : List Int) (E E' : Int) (G : Bool) (Z : List Int) (EZ : Int) (aw : Option Addr) (cw T1 : Nat) (W : World) : Prop where
  bx : Bx6 w (.bool g) (.slice a zs.length c) (.int .i64 E) (.bool g') (.slice a' ys.length c') (.int .i64 E') W
  w0 : W.cell? ⟨T1, 0, none⟩ = some (.bool G)
  w1 : W.cell? ⟨T1, 1, none⟩ = some (.slice aw Z.length cw)
  we : W.cell? ⟨T1, 2, none⟩ = some (.int .i64 EZ)
  o0 : w.heap.size + 1 < T1
  o1 : T1 < W.heap.size
  rw : RowAt .u32 W aw Z

theorem LAD.later {w : World} {g g' : Bool} {a a' : Option Addr} {c c' : Nat} {zs ys : List Int} {E E' : Int} {G : Bool} {Z : List Int} {EZ : Int} {aw : Option Addr} {cw T1 : Nat} {W W' : World} (h : LAD w g g' a a' c c' zs ys E E' G Z EZ aw cw T1 W) (hb : Below W.heap.size W W') : LAD w g g' a a' c c' zs ys E E' G Z EZ aw cw T1 W' := by
  have h1 := h.o1
  exact ⟨h.bx.later hb, (hb.cell (by simp; omega)).trans h.w0, (hb.cell (by simp; omega)).trans h.w1, (hb.cell (by simp; omega)).trans h.we, h.o0, Nat.lt_of_lt_of_le h1 hb.size, h.rw.later hb⟩

/-- The answer's box is laid behind the call. -/
theorem LAD.start {w : World} {g g' : Bool} {a a' : Option Addr} {c c' : Nat} {zs ys : List Int} {E E' : Int} {G : Bool} {Z : List Int} {EZ : Int} {aw : Option Addr} {cw : Nat} {W : World} {t : TypeId} (h : Bx6 w (.bool g) (.slice a zs.length c) (.int .i64 E) (.bool g') (.slice a' ys.length c') (.int .i64 E') W) (hr : RowAt .u32 W aw Z) :
    LAD w g g' a a' c c' zs ys E E' G Z EZ aw cw W.heap.size (W.alloc (.cells #[.bool G, .slice aw Z.length cw, .int .i64 EZ] t)) :=
  ⟨h.later (bel0 _ _), by simp [go_sem], by simp [go_sem], by simp [go_sem], h.le, by simp, hr.later (bel0 _ _)⟩

/-- The answer's box was laid ahead of the call. -/
theorem LAD.set {w : World} {g g' : Bool} {a a' : Option Addr} {c c' : Nat} {zs ys : List Int} {E E' : Int} {G : Bool} {Z : List Int} {EZ : Int} {aw : Option Addr} {cw b B : Nat} {W0 W : World} (h : Bx6 w (.bool g) (.slice a zs.length c) (.int .i64 E) (.bool g') (.slice a' ys.length c') (.int .i64 E') W) (hr : RowAt .u32 W aw Z) (hf : Far B aw Z) (hb : b < B) (hh : Has3 b W)
    (hlo : W0.heap.size ≤ b) (h0 : w.heap.size + 1 + 1 ≤ W0.heap.size) : LAD w g g' a a' c c' zs ys E E' G Z EZ aw cw b (((W.setCell ⟨b, 0, none⟩ (.bool G)).setCell ⟨b, 1, none⟩ (.slice aw Z.length cw)).setCell ⟨b, 2, none⟩ (.int .i64 EZ)) := by
  have hbel : Below (w.heap.size + 1 + 1) W (((W.setCell ⟨b, 0, none⟩ (.bool G)).setCell ⟨b, 1, none⟩ (.slice aw Z.length cw)).setCell ⟨b, 2, none⟩ (.int .i64 EZ)) := (((Below.refl _ _).setCell (by simp; omega) _).setCell (by simp; omega) _).setCell (by simp; omega) _
  refine ⟨⟨(hbel.cell (by simp; omega)).trans h.q0, (hbel.cell (by simp; omega)).trans h.q1, (hbel.cell (by simp; omega)).trans h.q2, (hbel.cell (by simp)).trans h.p0, (hbel.cell (by simp)).trans h.p1, (hbel.cell (by simp)).trans h.p2, by simpa using h.le, h.bel.trans (hbel.mono (by omega))⟩, ?_, ?_, ?_, by omega, by simpa using hh.lt, ?_⟩
  · rw [World.cell?_setCell_other _ _ _ _ (by simp), World.cell?_setCell_other _ _ _ _ (by simp)]
    exact World.cell?_setCell_same _ _ _ hh.r1
  · rw [World.cell?_setCell_other _ _ _ _ (by simp)]
    refine World.cell?_setCell_same _ _ _ (u := .slice none 0 0) ?_
    rw [World.cell?_setCell_other _ _ _ _ (by simp)]
    exact hh.r2
  · refine World.cell?_setCell_same _ _ _ (u := .int .i64 0) ?_
    rw [World.cell?_setCell_other _ _ _ _ (by simp), World.cell?_setCell_other _ _ _ _ (by simp)]
    exact hh.r3
  · exact ((hr.setAway (hf.away hb) _).setAway (hf.away hb) _).setAway (hf.away hb) _

/-- From the four boxes laid one behind the other. -/
theorem LBD.start {w : World} {g g' : Bool} {a a' : Option Addr} {c c' : Nat} {zs ys : List Int} {E E' : Int} {G : Bool} {Z : List Int} {EZ : Int} {aw : Option Addr} {cw : Nat} {x0 x1 ag : Option Addr} {cg T1 : Nat} {W4 W5 W6 W7 W8 : World} {t t' t2 : TypeId} (h4 : LAD w g g' a a' c c' zs ys E E' G Z EZ aw cw T1 W4) (hb5 : Below W4.heap.size W4 W5)
    (hr0 : RowNew .u32 W5 W4.heap.size x0 zs) (hb6 : Below (W5.alloc (.cells #[.bool g, .slice x0 zs.length zs.length, .int .i64 E] t)).heap.size (W5.alloc (.cells #[.bool g, .slice x0 zs.length zs.length, .int .i64 E] t)) W6) (hr1 : RowNew .u32 W6 (W5.heap.size + 1) x1 ys)
    (hb7 : Below (W6.alloc (.cells #[.bool g', .slice x1 ys.length ys.length, .int .i64 E'] t')).heap.size (W6.alloc (.cells #[.bool g', .slice x1 ys.length ys.length, .int .i64 E'] t')) W7) (hrg : RowNew .u32 W7 (W6.heap.size + 1) ag Z)
    (h8 : W8 = W7.alloc (.cells #[.bool G, .slice ag Z.length cg, .int .i64 EZ] t2)) :
    LBD w g g' a a' c c' zs ys E E' G Z EZ aw cw x0 x1 ag cg T1 W4.heap.size W5.heap.size W6.heap.size W7.heap.size W4 zs ys Z W8 := by
  subst h8
  have z5 := hb5.size
  have z6 := hb6.size
  have z7 := hb7.size
  simp at z6 z7
  have hle := h4.bx.le
  have o1 := h4.o1
  have b67 : Below W6.heap.size W6 (W7.alloc (.cells #[.bool G, .slice ag Z.length cg, .int .i64 EZ] t2)) := ((bel0 _ _).trans (hb7.mono (by simp))).alloc (by omega) _
  have b56 : Below W5.heap.size W5 W6 := (bel0 _ _).trans (hb6.mono (by simp))
  have b57 : Below W5.heap.size W5 (W7.alloc (.cells #[.bool G, .slice ag Z.length cg, .int .i64 EZ] t2)) := b56.trans (b67.mono (by omega))
  have b47 : Below W4.heap.size W4 (W7.alloc (.cells #[.bool G, .slice ag Z.length cg, .int .i64 EZ] t2)) := hb5.trans (b57.mono (by omega))
  have h := h4.later b47
  have e0 : ∀ j, (W7.alloc (.cells #[.bool G, .slice ag Z.length cg, .int .i64 EZ] t2)).cell? ⟨W5.heap.size, j, none⟩ = #[Value.bool g, .slice x0 zs.length zs.length, .int .i64 E][j]? := by
    intro j
    rw [b67.cell (by simp; omega), hb6.cell (by simp), World.cell?_alloc_at _ _ _ _ rfl]
  have e1 : ∀ j, (W7.alloc (.cells #[.bool G, .slice ag Z.length cg, .int .i64 EZ] t2)).cell? ⟨W6.heap.size, j, none⟩ = #[Value.bool g', .slice x1 ys.length ys.length, .int .i64 E'][j]? := by
    intro j
    rw [World.cell?_alloc_past _ _ _ (by omega), hb7.cell (by simp), World.cell?_alloc_at _ _ _ _ rfl]
  exact ⟨h.bx, h.w0, h.w1, h.we, by rw [e0]; rfl, by rw [e0]; rfl, by rw [e0]; rfl, by rw [e1]; rfl, by rw [e1]; rfl, by rw [e1]; rfl, by simp [go_sem], by simp [go_sem], by simp [go_sem], h.o0, o1, z5, by omega, by omega, by simp, h4.rw, rfl, b47,
    hr0.rowIn.later b57, hr1.rowIn.later b67, hrg.rowIn.later (bel0 _ _)⟩

end Go.Proofs.YtladfpljnaippabDoor

/-
  The law of DyDet, walked.
-/
namespace Go.Proofs.YtladfpljnaippabDoor
open Go.RowKit

theorem SameD.det {ds ds' : List DV} (h : SameD ds ds') (K : Int) : detK K ds' = detK K ds := by
  have tp : ∀ k0 k1 k2, prodM (tri ds' false k0 k1 k2) = prodM (tri ds false k0 k1 k2) ∧ sumE (tri ds' false k0 k1 k2) = sumE (tri ds false k0 k1 k2) := by
    intro k0 k1 k2
    rw [tri_pos.1, tri_pos.2, tri_pos.1, tri_pos.2, (h.at k0).1, (h.at k0).2.1, (h.at k0).2.2, (h.at k1).1, (h.at k1).2.1, (h.at k1).2.2, (h.at k2).1, (h.at k2).2.1, (h.at k2).2.2]
    exact ⟨rfl, rfl⟩
  have tn : ∀ k0 k1 k2, prodM (tri ds' true k0 k1 k2) = prodM (tri ds true k0 k1 k2) ∧ sumE (tri ds' true k0 k1 k2) = sumE (tri ds true k0 k1 k2) := by
    intro k0 k1 k2
    rw [tri_neg.1, tri_neg.2, tri_neg.1, tri_neg.2, (h.at k0).1, (h.at k0).2.1, (h.at k0).2.2, (h.at k1).1, (h.at k1).2.1, (h.at k1).2.2, (h.at k2).1, (h.at k2).2.1, (h.at k2).2.2]
    exact ⟨rfl, rfl⟩
  unfold detK sumK sixT
  simp only [List.map_cons, List.map_nil, (tp 0 4 8).1, (tp 0 4 8).2, (tp 1 5 6).1, (tp 1 5 6).2, (tp 2 3 7).1, (tp 2 3 7).2, (tn 2 4 6).1, (tn 2 4 6).2, (tn 0 5 7).1, (tn 0 5 7).2, (tn 1 3 8).1, (tn 1 3 8).2]

/-- Is the list one that DyDet takes? -/
def okL (ds : List DV) : Bool := decide (ds.length = 9) && ds.all DV.ok

section
variable {W : World} {X lo hi c : Nat} {ds ds' : List DV}

theorem detS_copy (hs : SameD ds ds') (hU : ∀ d, d ∈ ds → U32 d.zs) (hn : ds.length + tot ds ≤ 1048576) (hd : ListN W lo hi X ds') :
    Calls Tryd.prog 7 #[.slice (some ⟨X, 0, none⟩) ds.length c] W fun e w' => OutDS W (okL ds) (detK 100000 ds) e w' := by
  unfold okL
  by_cases h9 : ds.length = 9
  · have hu : ∀ d, d ∈ ds' → U32 d.zs := by
      intro d hm
      obtain ⟨d0, h1, h2⟩ := hs.mem hm
      have h3 : d0.zs = d.zs := congrArg (fun p => p.2.1) h2
      rw [← h3]; exact hU d0 h1
    have hu2 : ∀ d, d ∈ ds' → d.zs.length ≤ 1048576 := by
      intro d hm
      have h1 := tot_mem hm
      rw [hs.tot] at h1
      omega
    have h := detDS_any X 0 c ds' W (by rw [hs.length]; exact h9) hu hu2 hd.rowD
    rw [hs.ok, hs.det] at h
    rw [h9, show (decide (9 = 9) && ds.all DV.ok) = ds.all DV.ok by simp]
    exact h
  · rw [show (decide (ds.length = 9) && ds.all DV.ok) = false by simp [h9]]
    exact detDS_bad9 _ _ _ _ _ h9

theorem detI_copy (hs : SameD ds ds') (hU : ∀ d, d ∈ ds → U32 d.zs) (hn : ds.length + tot ds ≤ 1048576) (hd : ListN W lo hi X ds') (hT : Tab W) :
    Calls Tryd.prog 10 #[.slice (some ⟨X, 0, none⟩) ds.length c] W fun e w' => OutDI W (okL ds) (detK 100000 ds) e w' := by
  unfold okL
  by_cases h9 : ds.length = 9
  · have hu : ∀ d, d ∈ ds' → U32 d.zs := by
      intro d hm
      obtain ⟨d0, h1, h2⟩ := hs.mem hm
      have h3 : d0.zs = d.zs := congrArg (fun p => p.2.1) h2
      rw [← h3]; exact hU d0 h1
    have hu2 : ∀ d, d ∈ ds' → d.zs.length ≤ 1048576 := by
      intro d hm
      have h1 := tot_mem hm
      rw [hs.tot] at h1
      omega
    have h := detDI_any X 0 c ds' W (by rw [hs.length]; exact h9) hu hu2 hd.rowD hT
    rw [hs.ok, hs.det] at h
    rw [h9, show (decide (9 = 9) && ds.all DV.ok) = ds.all DV.ok by simp]
    exact h
  · rw [show (decide (ds.length = 9) && ds.all DV.ok) = false by simp [h9]]
    exact detDI_bad9 _ _ _ _ _ h9

end

/-- The boxes of the model's answer (T1) and of the program's (T4); the copy lies between TE and T2, the program's answer between T2 and T4. -/
structure LDS (w : World) (G : Bool) (Z : List Int) (EZ : Int) (aw : Option Addr) (cw : Nat) (ag : Option Addr) (cg T1 TE T2 T4 : Nat) (Wsp : World) (ZG : List Int) (W : World) : Prop where
  w0 : W.cell? ⟨T1, 0, none⟩ = some (.bool G)
  w1 : W.cell? ⟨T1, 1, none⟩ = some (.slice aw Z.length cw)
  we : W.cell? ⟨T1, 2, none⟩ = some (.int .i64 EZ)
  g0 : W.cell? ⟨T4, 0, none⟩ = some (.bool G)
  g1 : W.cell? ⟨T4, 1, none⟩ = some (.slice ag Z.length cg)
  ge : W.cell? ⟨T4, 2, none⟩ = some (.int .i64 EZ)
  o0 : w.heap.size ≤ T1
  o1 : T1 < TE
  o2 : TE ≤ T2
  o3 : T2 ≤ T4
  o4 : T4 < W.heap.size
  rw : RowAt .u32 Wsp aw Z
  rwT : Wsp.heap.size = TE
  rwB : Below TE Wsp W
  rg : RowIn .u32 W T2 T4 ag ZG
  bel : Below w.heap.size w W

section
variable {w : World} {G : Bool} {Z : List Int} {EZ : Int} {aw : Option Addr} {cw : Nat} {ag : Option Addr} {cg T1 TE T2 T4 : Nat} {Wsp : World} {ZG : List Int} {W W' : World}

theorem LDS.wrow (h : LDS w G Z EZ aw cw ag cg T1 TE T2 T4 Wsp ZG W) : RowAt .u32 W aw Z := h.rw.later (by rw [h.rwT]; exact h.rwB)

theorem LDS.later (h : LDS w G Z EZ aw cw ag cg T1 TE T2 T4 Wsp ZG W) (hb : Below W.heap.size W W') : LDS w G Z EZ aw cw ag cg T1 TE T2 T4 Wsp ZG W' := by
  have h0 := h.o0; have h1 := h.o1; have h2 := h.o2; have h3 := h.o3; have h4 := h.o4
  exact ⟨(hb.cell (by simp; omega)).trans h.w0, (hb.cell (by simp; omega)).trans h.w1, (hb.cell (by simp; omega)).trans h.we, (hb.cell (by simp; omega)).trans h.g0, (hb.cell (by simp; omega)).trans h.g1, (hb.cell (by simp; omega)).trans h.ge, h0, h1, h2, h3, Nat.lt_of_lt_of_le h4 hb.size, h.rw, h.rwT, h.rwB.trans (hb.mono (by omega)), h.rg.later hb, h.bel.trans (hb.mono (by omega))⟩

/-- The copy is marked. -/
theorem LDS.markx (h : LDS w G Z EZ aw cw ag cg T1 TE T2 T4 Wsp ZG W) (hw : Within TE T2 W W') : LDS w G Z EZ aw cw ag cg T1 TE T2 T4 Wsp ZG W' := by
  have h0 := h.o0; have h1 := h.o1; have h2 := h.o2; have h3 := h.o3; have h4 := h.o4
  exact ⟨(hw.cell (by simp; omega)).trans h.w0, (hw.cell (by simp; omega)).trans h.w1, (hw.cell (by simp; omega)).trans h.we, (hw.cell (by simp; omega)).trans h.g0, (hw.cell (by simp; omega)).trans h.g1, (hw.cell (by simp; omega)).trans h.ge, h0, h1, h2, h3, by rw [hw.size]; exact h4, h.rw, h.rwT, h.rwB.trans hw.below, h.rg.apart hw (.inr (Nat.le_refl _)), h.bel.trans (hw.below.mono (by omega))⟩

/-- The program's answer is marked. -/
theorem LDS.markg (h : LDS w G Z EZ aw cw ag cg T1 TE T2 T4 Wsp ZG W) {ZG' : List Int} (hr : RowIn .u32 W' T2 T4 ag ZG') (hx : ∃ W1, Below W.heap.size W W1 ∧ Within T2 T4 W1 W') : LDS w G Z EZ aw cw ag cg T1 TE T2 T4 Wsp ZG' W' := by
  obtain ⟨W1, hb, hw⟩ := hx
  have k := h.later hb
  have h0 := k.o0; have h1 := k.o1; have h2 := k.o2; have h3 := k.o3; have h4 := k.o4
  exact ⟨(hw.cell (by simp; omega)).trans k.w0, (hw.cell (by simp; omega)).trans k.w1, (hw.cell (by simp; omega)).trans k.we, (hw.cell (by simp)).trans k.g0, (hw.cell (by simp)).trans k.g1, (hw.cell (by simp)).trans k.ge, h0, h1, h2, h3, by rw [hw.size]; exact h4, k.rw, k.rwT, k.rwB.trans (hw.below.mono (by omega)), hr, k.bel.trans (hw.below.mono (by omega))⟩

end

set_option maxRecDepth 100000 in
set_option maxHeartbeats 16000000 in
theorem lawDet_any (a : Option Addr) (c : Nat) (ds : List DV) (w : World) (hn : ds.length ≤ maxLen) (hm : ∀ d, d ∈ ds → d.zs.length ≤ maxLen) (hU : ∀ d, d ∈ ds → U32 d.zs) (hd : ListD w a ds) (hT : Tab w) :
    Calls Tryd.prog 5 #[.slice a ds.length c] w fun e w' => e = .returned (.bool true) ∧ Below w.heap.size w w' := by
  have HT : Hid (Tab w) := hT
  have HD : Hid (ListD w a ds) := hd
  have HU : Hid (∀ d, d ∈ ds → U32 d.zs) := hU
  have HSZ : Hid (Calls Tryd.prog 21 #[.slice a ds.length c, .int .i64 1048576] w fun e w' => SzOut w ds e w') := szL_any a c ds w hn hm hd
  clear hT hd hU hm hn
  go_enter Tryd.func5, Tryd.ntmps5
  go_wp2_with fail
  refine HSZ.out.mono ?_
  rintro e W0 ⟨r, rfl, hr, hb0⟩
  have HB0 : Hid (Below w.heap.size w W0) := hb0
  clear hb0 HSZ
  rcases hr with hr | ⟨hr, htot⟩
  · go_wp2
    go_ret
    exact ⟨rfl, HB0.out⟩
  · have HN : Hid (ds.length + tot ds ≤ 1048576) := htot
    have hrn : ¬ r < 0 := by omega
    clear htot
    go_wp2_with fail
    refine (toL_any a c ds _ HN.out (HD.out.later HB0.out)).mono ?_
    rintro e W1 ⟨X1, ds1, rfl, hs1, hl1, hb1⟩
    have HB1 : Hid (Below w.heap.size w W1) := HB0.out.trans (hb1.mono HB0.out.size)
    have HC1 : Hid (SameD ds ds1 ∧ ListN W1 W0.heap.size W1.heap.size X1 ds1) := ⟨hs1, hl1⟩
    clear hb1 hs1 hl1
    go_wp2_with fail
    refine (detS_copy HC1.out.1 HU.out HN.out HC1.out.2).mono ?_
    rintro e W2 ⟨G, Z, EZ, K, aw, cw, rfl, hres, hrw, hfar, hb2⟩
    have HRes : Hid (ResD (okL ds) (detK 100000 ds) G Z EZ K) := hres
    have hZl : Z.length ≤ 512 := hres.len.1
    have HB2 : Hid (Below w.heap.size w W2) := HB1.out.trans (hb2.mono HB1.out.size)
    have HRW : Hid (RowAt .u32 W2 aw Z) := hrw
    clear hres hrw hfar hb2 HC1 HB1
    go_wp2_with fail
    obtain ⟨W3, hW3⟩ : ∃ W3, W3 = W2.alloc (.cells #[.bool G, .slice aw Z.length cw, .int .i64 EZ] 29) := ⟨_, rfl⟩
    rw [← hW3]
    have hs3 : W3.heap.size = W2.heap.size + 1 := by rw [hW3]; simp
    have hb3 : Below W2.heap.size W2 W3 := by rw [hW3]; exact bel0 _ _
    have HB3 : Hid (Below w.heap.size w W3) := HB2.out.trans (hb3.mono HB2.out.size)
    have s0 : W3.cell? ⟨W2.heap.size, 0, none⟩ = some (.bool G) := by rw [hW3]; simp [go_sem]
    have s1 : W3.cell? ⟨W2.heap.size, 1, none⟩ = some (.slice aw Z.length cw) := by rw [hW3]; simp [go_sem]
    have se : W3.cell? ⟨W2.heap.size, 2, none⟩ = some (.int .i64 EZ) := by rw [hW3]; simp [go_sem]
    have HRW3 : Hid (RowAt .u32 W3 aw Z) := HRW.out.later hb3
    clear hW3 hb3 HRW
    refine (toL_any a c ds _ HN.out (HD.out.later HB3.out)).mono ?_
    rintro e W4 ⟨X4, ds4, rfl, hs4, hl4, hb4⟩
    have HB4 : Hid (Below W3.heap.size W3 W4) := hb4
    have HC4 : Hid (SameD ds ds4 ∧ ListN W4 W3.heap.size W4.heap.size X4 ds4) := ⟨hs4, hl4⟩
    have HT4 : Hid (Tab W4) := (HT.out.later HB3.out).later hb4
    clear hb4 hs4 hl4
    go_wp2_with fail
    refine (detI_copy HC4.out.1 HU.out HN.out HC4.out.2 HT4.out).mono ?_
    rintro e W5 ⟨G5, Z5, E5, K5, ag, cg, rfl, hres5, hrg, hb5⟩
    obtain ⟨eG, eZ, eE, eK⟩ := hres5.inj HRes.out
    subst eG eZ eE eK
    have F5 : Hid (∀ t, LDS w G5 Z5 E5 aw cw ag cg W2.heap.size W3.heap.size W4.heap.size W5.heap.size W3 Z5 (W5.alloc (.cells #[.bool G5, .slice ag Z5.length cg, .int .i64 E5] t))) := by
      intro t
      have h34 := HB4.out.size
      have h45 := hb5.size
      have b5 : Below W3.heap.size W3 W5 := HB4.out.trans (hb5.mono h34)
      have b6 : Below W3.heap.size W3 (W5.alloc (.cells #[.bool G5, .slice ag Z5.length cg, .int .i64 E5] t)) := b5.alloc b5.size _
      refine ⟨(b6.cell (by simp; omega)).trans s0, (b6.cell (by simp; omega)).trans s1, (b6.cell (by simp; omega)).trans se, by simp [go_sem], by simp [go_sem], by simp [go_sem], HB2.out.size, by omega, h34, h45, by simp, HRW3.out, rfl, b6, ?_, HB3.out.trans (b6.mono HB3.out.size)⟩
      exact (hrg.rowIn).later (bel0 _ _)
    have HC5 : Hid (SameD ds ds4 ∧ ListN W5 W3.heap.size W4.heap.size X4 ds4) := ⟨HC4.out.1, HC4.out.2.later hb5⟩
    have y0 : W5.cell? ⟨W2.heap.size, 0, none⟩ = some (.bool G5) := by have := (F5.out 29).w0; rw [World.cell?_alloc_past _ _ _ (by have := HB4.out.size; have := hb5.size; simp; omega)] at this; exact this
    have y1 : W5.cell? ⟨W2.heap.size, 1, none⟩ = some (.slice aw Z5.length cw) := by have := (F5.out 29).w1; rw [World.cell?_alloc_past _ _ _ (by have := HB4.out.size; have := hb5.size; simp; omega)] at this; exact this
    have ye : W5.cell? ⟨W2.heap.size, 2, none⟩ = some (.int .i64 E5) := by have := (F5.out 29).we; rw [World.cell?_alloc_past _ _ _ (by have := HB4.out.size; have := hb5.size; simp; omega)] at this; exact this
    have hlt5 : W2.heap.size < W5.heap.size := by have := HB4.out.size; have := hb5.size; omega
    clear hres5 hrg hb5 s0 s1 se HC4 HT4 HRW3
    go_wp2_with fail
    refine (eq2_any _ _ _ _ _ Z5 _ _ (by unfold maxLen; omega) (F5.out _).rg.row (F5.out _).wrow).mono ?_
    rintro e W7 ⟨rfl, hb7⟩
    have F7 : Hid (LDS w G5 Z5 E5 aw cw ag cg W2.heap.size W3.heap.size W4.heap.size W5.heap.size W3 Z5 W7) := (F5.out _).later hb7
    have HC7 : Hid (SameD ds ds4 ∧ ListN W7 W3.heap.size W4.heap.size X4 ds4) := ⟨HC5.out.1, (HC5.out.2.later (bel0 _ _)).later hb7⟩
    have hKK : (K5 != K5) = false := by simp
    clear hb7 F5 HC5 y0 y1 ye
    go_wp2_with fail
    refine (toL_any a c ds _ HN.out (HD.out.later F7.out.bel)).mono ?_
    rintro e W8 ⟨X8, ds8, rfl, hs8, hl8, hb8⟩
    have F8 : Hid (LDS w G5 Z5 E5 aw cw ag cg W2.heap.size W3.heap.size W4.heap.size W5.heap.size W3 Z5 W8) := F7.out.later hb8
    have HC8 : Hid (SameD ds ds4 ∧ ListN W8 W3.heap.size W4.heap.size X4 ds4) := ⟨HC7.out.1, HC7.out.2.later hb8⟩
    have HX8 : Hid (SameD ds ds8 ∧ ListN W8 W7.heap.size W8.heap.size X8 ds8) := ⟨hs8, hl8⟩
    clear hs8 hl8 hb8 F7 HC7
    go_wp2_with fail
    have hEq := eqL_any (some ⟨X4, 0, none⟩) (some ⟨X8, 0, none⟩) ds.length ds.length ds4 ds8 W8 (HC8.out.1.symm.trans HX8.out.1) (by rw [HC8.out.1.length, HC8.out.1.tot]; exact HN.out) (.inr ⟨_, _, rfl, HC8.out.2.rowD⟩) (.inr ⟨_, _, rfl, HX8.out.2.rowD⟩)
    rw [HC8.out.1.length] at hEq
    refine hEq.mono ?_
    rintro e W9 ⟨rfl, hb9⟩
    have F9 : Hid (LDS w G5 Z5 E5 aw cw ag cg W2.heap.size W3.heap.size W4.heap.size W5.heap.size W3 Z5 W9) := F8.out.later hb9
    have HC9 : Hid (SameD ds ds4 ∧ ListN W9 W3.heap.size W4.heap.size X4 ds4) := ⟨HC8.out.1, HC8.out.2.later hb9⟩
    clear hEq hb9 F8 HC8 HX8
    go_wp2_with fail
    have hMk := markL_any X4 W3.heap.size W4.heap.size ds.length ds4 W9 (by rw [HC9.out.1.length, HC9.out.1.tot]; exact HN.out) HC9.out.2
    rw [HC9.out.1.length] at hMk
    refine hMk.mono ?_
    rintro e WA ⟨rk, rfl, hrk, hwA⟩
    have FA : Hid (LDS w G5 Z5 E5 aw cw ag cg W2.heap.size W3.heap.size W4.heap.size W5.heap.size W3 Z5 WA) := F9.out.markx hwA
    have hrk' : ¬ rk < 0 := by omega
    have s0 := FA.out.w0
    have s1 := FA.out.w1
    have se := FA.out.we
    have s2 := FA.out.g0
    have s3 := FA.out.g1
    have sf := FA.out.ge
    clear hMk hwA F9 HC9
    go_wp2_with fail
    refine (eq2_any _ _ _ _ _ Z5 _ _ (by unfold maxLen; omega) FA.out.rg.row FA.out.wrow).mono ?_
    rintro e WB ⟨rfl, hbB⟩
    have FB : Hid (LDS w G5 Z5 E5 aw cw ag cg W2.heap.size W3.heap.size W4.heap.size W5.heap.size W3 Z5 WB) := FA.out.later hbB
    clear hbB s0 s1 se s2 s3 sf FA
    have s2 := FB.out.g0
    have s3 := FB.out.g1
    have sf := FB.out.ge
    go_wp2_with fail
    refine (mark2_any G5 ag _ Z5 E5 1 _ _ _ (by omega) (by decide) (by decide) FB.out.rg).mono ?_
    rintro e WC ⟨rfl, hrC, hwC⟩
    have FC : Hid (LDS w G5 Z5 E5 aw cw ag cg W2.heap.size W3.heap.size W4.heap.size W5.heap.size W3 (marksL 1 Z5.length) WC) := FB.out.markg hrC hwC
    clear hrC hwC s2 s3 sf FB
    have s2 := FC.out.g0
    have s3 := FC.out.g1
    have sf := FC.out.ge
    go_wp2_with fail
    refine (held2_any G5 ag _ Z5.length E5 1 _ (by omega) (by decide) (by decide) FC.out.rg.row).mono ?_
    rintro e WD ⟨rfl, hbD⟩
    have FD : Hid (LDS w G5 Z5 E5 aw cw ag cg W2.heap.size W3.heap.size W4.heap.size W5.heap.size W3 (marksL 1 Z5.length) WD) := FC.out.later hbD
    clear hbD s2 s3 sf FC
    have hq0 : ¬ (1 : Int) + Z5.length < 0 := by omega
    have hqq : ((1 : Int) + Z5.length != 1 + Z5.length) = false := by simp
    go_wp2_with fail
    refine (toL_any a c ds _ HN.out (HD.out.later FD.out.bel)).mono ?_
    rintro e WE ⟨XE, dsE, rfl, hsE, hlE, hbE⟩
    have FE : Hid (LDS w G5 Z5 E5 aw cw ag cg W2.heap.size W3.heap.size W4.heap.size W5.heap.size W3 (marksL 1 Z5.length) WE) := FD.out.later hbE
    have HCE : Hid (SameD ds dsE ∧ ListN WE WD.heap.size WE.heap.size XE dsE) := ⟨hsE, hlE⟩
    clear hsE hlE hbE FD
    go_wp2_with fail
    refine (detI_copy HCE.out.1 HU.out HN.out HCE.out.2 (HT.out.later FE.out.bel)).mono ?_
    rintro e WF ⟨GF, ZF, EF, KF, af, cf, rfl, hresF, hrF, hbF⟩
    obtain ⟨eG, eZ, eE, eK⟩ := hresF.inj HRes.out
    subst eG eZ eE eK
    have FF : Hid (LDS w GF ZF EF aw cw ag cg W2.heap.size W3.heap.size W4.heap.size W5.heap.size W3 (marksL 1 ZF.length) WF) := FE.out.later hbF
    have HRF : Hid (RowAt .u32 WF af ZF) := hrF.row
    have s0 := FF.out.w0
    have s1 := FF.out.w1
    have se := FF.out.we
    have hltF : W2.heap.size < WF.heap.size := by have := FF.out.o1; have := FF.out.o2; have := FF.out.o3; have := FF.out.o4; omega
    clear hresF hrF hbF HCE FE
    go_wp2_with fail
    refine (eq2_any _ _ _ _ _ ZF _ _ (by unfold maxLen; omega) (HRF.out.later (bel0 _ _)) (FF.out.wrow.later (bel0 _ _))).mono ?_
    rintro e WG ⟨rfl, hbG⟩
    have HB : Hid (Below w.heap.size w WG) := ((FF.out.later (bel0 _ _)).later hbG).bel
    clear hbG s0 s1 se
    go_wp2
    go_ret
    exact ⟨rfl, HB.out⟩

end Go.Proofs.YtladfpljnaippabDoor
