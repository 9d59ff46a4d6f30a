/-
  What holds of memory while a law over a function of two Dyadics runs.
-/
import Derived.Test.YtladfpljnaippaaDoorRes
import Derived.Test.YtladfpljnaippaaDoorMarks
import Derived.Test.YtladfpljnaippaaDoorBigs
import Derived.Test.YtladfpljnaippaaDoorDy6
namespace Go.Proofs.YtladfpljnaippaaDoor
open Go.RowKit

/-- The boxes of the law's arguments (behind w), of the model's answer (T1), of the two copies (T2, T3), of the program's answer (T4); where each row lies. -/
structure LBD (w : World) (g g' : Bool) (a a' : Option Addr) (c c' : Nat) (zs ys : List Int) (E E' : Int) (G : Bool) (Z : List Int) (EZ : Int) (aw : Option Addr) (cw : Nat) (x0 x1 ag : Option Addr) (cg T1 TE T2 T3 T4 : Nat) (Wsp : World) (X0 X1 ZG : List Int) (W : World) : Prop where
  bx : Bx6 w (.bool g) (.slice a zs.length c) (.int .i64 E) (.bool g') (.slice a' ys.length c') (.int .i64 E') W
  w0 : W.cell? ⟨T1, 0, none⟩ = some (.bool G)
  w1 : W.cell? ⟨T1, 1, none⟩ = some (.slice aw Z.length cw)
  we : W.cell? ⟨T1, 2, none⟩ = some (.int .i64 EZ)
  p0 : W.cell? ⟨T2, 0, none⟩ = some (.bool g)
  p1 : W.cell? ⟨T2, 1, none⟩ = some (.slice x0 zs.length zs.length)
  pe : W.cell? ⟨T2, 2, none⟩ = some (.int .i64 E)
  p2 : W.cell? ⟨T3, 0, none⟩ = some (.bool g')
  p3 : W.cell? ⟨T3, 1, none⟩ = some (.slice x1 ys.length ys.length)
  pf : W.cell? ⟨T3, 2, none⟩ = some (.int .i64 E')
  g0 : W.cell? ⟨T4, 0, none⟩ = some (.bool G)
  g1 : W.cell? ⟨T4, 1, none⟩ = some (.slice ag Z.length cg)
  ge : W.cell? ⟨T4, 2, none⟩ = some (.int .i64 EZ)
  o0 : w.heap.size + 1 < T1
  o1 : T1 < TE
  oE : TE ≤ T2
  o2 : T2 < T3
  o3 : T3 < T4
  o4 : T4 < W.heap.size
  rw : RowAt .u32 Wsp aw Z
  rwT : Wsp.heap.size = TE
  rwB : Below TE Wsp W
  r0 : RowIn .u32 W TE T2 x0 X0
  r1 : RowIn .u32 W (T2 + 1) T3 x1 X1
  rg : RowIn .u32 W (T3 + 1) T4 ag ZG

section
variable {w : World} {g g' : Bool} {a a' : Option Addr} {c c' : Nat} {zs ys : List Int} {E E' : Int} {G : Bool} {Z : List Int} {EZ : Int} {aw : Option Addr} {cw : Nat} {x0 x1 ag : Option Addr} {cg T1 TE T2 T3 T4 : Nat} {Wsp : World} {X0 X1 ZG : List Int} {W W' W1 : World}

theorem LBD.wrow (h : LBD w g g' a a' c c' zs ys E E' G Z EZ aw cw x0 x1 ag cg T1 TE T2 T3 T4 Wsp X0 X1 ZG W) : RowAt .u32 W aw Z := h.rw.later (by rw [h.rwT]; exact h.rwB)

theorem LBD.later (h : LBD w g g' a a' c c' zs ys E E' G Z EZ aw cw x0 x1 ag cg T1 TE T2 T3 T4 Wsp X0 X1 ZG W) (hb : Below W.heap.size W W') : LBD w g g' a a' c c' zs ys E E' G Z EZ aw cw x0 x1 ag cg T1 TE T2 T3 T4 Wsp X0 X1 ZG W' := by
  have h1 := h.o1; have hE := h.oE; have h2 := h.o2; have h3 := h.o3; have h4 := h.o4
  exact ⟨h.bx.later hb, (hb.cell (by simp; omega)).trans h.w0, (hb.cell (by simp; omega)).trans h.w1, (hb.cell (by simp; omega)).trans h.we, (hb.cell (by simp; omega)).trans h.p0, (hb.cell (by simp; omega)).trans h.p1, (hb.cell (by simp; omega)).trans h.pe, (hb.cell (by simp; omega)).trans h.p2, (hb.cell (by simp; omega)).trans h.p3, (hb.cell (by simp; omega)).trans h.pf,
    (hb.cell (by simp; omega)).trans h.g0, (hb.cell (by simp; omega)).trans h.g1, (hb.cell (by simp; omega)).trans h.ge, h.o0, h1, hE, h2, h3, Nat.lt_of_lt_of_le h4 hb.size, h.rw, h.rwT, h.rwB.trans (hb.mono (by omega)), h.r0.later hb, h.r1.later hb, h.rg.later hb⟩

/-- A write within blocks that hold none of the boxes. -/
theorem LBD.turn {lo hi : Nat} (h : LBD w g g' a a' c c' zs ys E E' G Z EZ aw cw x0 x1 ag cg T1 TE T2 T3 T4 Wsp X0 X1 ZG W) (hw : Within lo hi W W') (hT : (lo = TE ∧ hi = T2) ∨ (lo = T2 + 1 ∧ hi = T3) ∨ (lo = T3 + 1 ∧ hi = T4))
    {X0' X1' ZG' : List Int} (h0 : RowIn .u32 W' TE T2 x0 X0') (h1' : RowIn .u32 W' (T2 + 1) T3 x1 X1') (hg' : RowIn .u32 W' (T3 + 1) T4 ag ZG') : LBD w g g' a a' c c' zs ys E E' G Z EZ aw cw x0 x1 ag cg T1 TE T2 T3 T4 Wsp X0' X1' ZG' W' := by
  have h1 := h.o1; have hE := h.oE; have h2 := h.o2; have h3 := h.o3; have h4 := h.o4; have h00 := h.o0
  have hlo : TE ≤ lo := by omega
  have hB := hw.below
  refine ⟨?_, (hw.cell (by simp; omega)).trans h.w0, (hw.cell (by simp; omega)).trans h.w1, (hw.cell (by simp; omega)).trans h.we, (hw.cell (by simp; omega)).trans h.p0, (hw.cell (by simp; omega)).trans h.p1, (hw.cell (by simp; omega)).trans h.pe, (hw.cell (by simp; omega)).trans h.p2, (hw.cell (by simp; omega)).trans h.p3, (hw.cell (by simp; omega)).trans h.pf,
    (hw.cell (by simp; omega)).trans h.g0, (hw.cell (by simp; omega)).trans h.g1, (hw.cell (by simp; omega)).trans h.ge, h.o0, h1, hE, h2, h3, by rw [hw.size]; exact h4, h.rw, h.rwT, h.rwB.trans (hB.mono (by omega)), h0, h1', hg'⟩
  exact ⟨(hw.cell (by simp; omega)).trans h.bx.q0, (hw.cell (by simp; omega)).trans h.bx.q1, (hw.cell (by simp; omega)).trans h.bx.q2, (hw.cell (by simp; omega)).trans h.bx.p0, (hw.cell (by simp; omega)).trans h.bx.p1, (hw.cell (by simp; omega)).trans h.bx.p2, by rw [hw.size]; exact h.bx.le, h.bx.bel.trans (hB.mono (by omega))⟩

theorem LBD.mark0 (h : LBD w g g' a a' c c' zs ys E E' G Z EZ aw cw x0 x1 ag cg T1 TE T2 T3 T4 Wsp X0 X1 ZG W) {X0' : List Int} (hr : RowIn .u32 W' TE T2 x0 X0') (hw : ∃ W1, Below W.heap.size W W1 ∧ Within TE T2 W1 W') : LBD w g g' a a' c c' zs ys E E' G Z EZ aw cw x0 x1 ag cg T1 TE T2 T3 T4 Wsp X0' X1 ZG W' := by
  obtain ⟨W1, hb, hwi⟩ := hw
  have h2 := h.later hb
  have o1 := h.o1; have oE := h.oE; have o2 := h.o2; have o3 := h.o3
  exact h2.turn hwi (.inl ⟨rfl, rfl⟩) hr (h2.r1.apart hwi (by omega)) (h2.rg.apart hwi (by omega))

theorem LBD.mark1 (h : LBD w g g' a a' c c' zs ys E E' G Z EZ aw cw x0 x1 ag cg T1 TE T2 T3 T4 Wsp X0 X1 ZG W) {X1' : List Int} (hr : RowIn .u32 W' (T2 + 1) T3 x1 X1') (hw : ∃ W1, Below W.heap.size W W1 ∧ Within (T2 + 1) T3 W1 W') : LBD w g g' a a' c c' zs ys E E' G Z EZ aw cw x0 x1 ag cg T1 TE T2 T3 T4 Wsp X0 X1' ZG W' := by
  obtain ⟨W1, hb, hwi⟩ := hw
  have h2 := h.later hb
  have o1 := h.o1; have oE := h.oE; have o2 := h.o2; have o3 := h.o3
  exact h2.turn hwi (.inr (.inl ⟨rfl, rfl⟩)) (h2.r0.apart hwi (by omega)) hr (h2.rg.apart hwi (by omega))

theorem LBD.markg (h : LBD w g g' a a' c c' zs ys E E' G Z EZ aw cw x0 x1 ag cg T1 TE T2 T3 T4 Wsp X0 X1 ZG W) {ZG' : List Int} (hr : RowIn .u32 W' (T3 + 1) T4 ag ZG') (hw : ∃ W1, Below W.heap.size W W1 ∧ Within (T3 + 1) T4 W1 W') : LBD w g g' a a' c c' zs ys E E' G Z EZ aw cw x0 x1 ag cg T1 TE T2 T3 T4 Wsp X0 X1 ZG' W' := by
  obtain ⟨W1, hb, hwi⟩ := hw
  have h2 := h.later hb
  have o1 := h.o1; have oE := h.oE; have o2 := h.o2; have o3 := h.o3
  exact h2.turn hwi (.inr (.inr ⟨rfl, rfl⟩)) (h2.r0.apart hwi (by omega)) (h2.r1.apart hwi (by omega)) hr

/-- What the regions of the law need. -/
theorem LBD.held (h : LBD w g g' a a' c c' zs ys E E' G Z EZ aw cw x0 x1 ag cg T1 TE T2 T3 T4 Wsp X0 X1 ZG W) (hb : Below W.heap.size W W') :
    W'.cell? ⟨w.heap.size, 0, none⟩ = some (.bool g) ∧ W'.cell? ⟨w.heap.size, 1, none⟩ = some (.slice a zs.length c) ∧ W'.cell? ⟨w.heap.size, 2, none⟩ = some (.int .i64 E) ∧ W'.cell? ⟨w.heap.size + 1, 0, none⟩ = some (.bool g') ∧ W'.cell? ⟨w.heap.size + 1, 1, none⟩ = some (.slice a' ys.length c') ∧ W'.cell? ⟨w.heap.size + 1, 2, none⟩ = some (.int .i64 E') ∧
    W'.cell? ⟨T2, 0, none⟩ = some (.bool g) ∧ W'.cell? ⟨T2, 1, none⟩ = some (.slice x0 zs.length zs.length) ∧ W'.cell? ⟨T2, 2, none⟩ = some (.int .i64 E) ∧ W'.cell? ⟨T3, 0, none⟩ = some (.bool g') ∧ W'.cell? ⟨T3, 1, none⟩ = some (.slice x1 ys.length ys.length) ∧ W'.cell? ⟨T3, 2, none⟩ = some (.int .i64 E') ∧ Below W.heap.size W W' :=
  ⟨(h.later hb).bx.q0, (h.later hb).bx.q1, (h.later hb).bx.q2, (h.later hb).bx.p0, (h.later hb).bx.p1, (h.later hb).bx.p2, (h.later hb).p0, (h.later hb).p1, (h.later hb).pe, (h.later hb).p2, (h.later hb).p3, (h.later hb).pf, hb⟩

end

/-- The arguments' boxes and the model's answer's box. -/
structure LAD (w : World) (g g' : Bool) (a a' : Option Addr) (c c' : Nat) (zs ys : List Int) (E E' : Int) (G : Bool) (Z : List Int) (EZ : Int) (aw : Option Addr) (cw T1 : Nat) (W : World) : Prop where
  bx : Bx6 w (.bool g) (.slice a zs.length c) (.int .i64 E) (.bool g') (.slice a' ys.length c') (.int .i64 E') W
  w0 : W.cell? ⟨T1, 0, none⟩ = some (.bool G)
  w1 : W.cell? ⟨T1, 1, none⟩ = some (.slice aw Z.length cw)
  we : W.cell? ⟨T1, 2, none⟩ = some (.int .i64 EZ)
  o0 : w.heap.size + 1 < T1
  o1 : T1 < W.heap.size
  rw : RowAt .u32 W aw Z

theorem LAD.later {w : World} {g g' : Bool} {a a' : Option Addr} {c c' : Nat} {zs ys : List Int} {E E' : Int} {G : Bool} {Z : List Int} {EZ : Int} {aw : Option Addr} {cw T1 : Nat} {W W' : World} (h : LAD w g g' a a' c c' zs ys E E' G Z EZ aw cw T1 W) (hb : Below W.heap.size W W') : LAD w g g' a a' c c' zs ys E E' G Z EZ aw cw T1 W' := by
  have h1 := h.o1
  exact ⟨h.bx.later hb, (hb.cell (by simp; omega)).trans h.w0, (hb.cell (by simp; omega)).trans h.w1, (hb.cell (by simp; omega)).trans h.we, h.o0, Nat.lt_of_lt_of_le h1 hb.size, h.rw.later hb⟩

/-- The answer's box is laid behind the call. -/
theorem LAD.start {w : World} {g g' : Bool} {a a' : Option Addr} {c c' : Nat} {zs ys : List Int} {E E' : Int} {G : Bool} {Z : List Int} {EZ : Int} {aw : Option Addr} {cw : Nat} {W : World} {t : TypeId} (h : Bx6 w (.bool g) (.slice a zs.length c) (.int .i64 E) (.bool g') (.slice a' ys.length c') (.int .i64 E') W) (hr : RowAt .u32 W aw Z) :
    LAD w g g' a a' c c' zs ys E E' G Z EZ aw cw W.heap.size (W.alloc (.cells #[.bool G, .slice aw Z.length cw, .int .i64 EZ] t)) :=
  ⟨h.later (bel0 _ _), by simp [go_sem], by simp [go_sem], by simp [go_sem], h.le, by simp, hr.later (bel0 _ _)⟩

/-- The answer's box was laid ahead of the call. -/
theorem LAD.set {w : World} {g g' : Bool} {a a' : Option Addr} {c c' : Nat} {zs ys : List Int} {E E' : Int} {G : Bool} {Z : List Int} {EZ : Int} {aw : Option Addr} {cw b B : Nat} {W0 W : World} (h : Bx6 w (.bool g) (.slice a zs.length c) (.int .i64 E) (.bool g') (.slice a' ys.length c') (.int .i64 E') W) (hr : RowAt .u32 W aw Z) (hf : Far B aw Z) (hb : b < B) (hh : Has3 b W)
    (hlo : W0.heap.size ≤ b) (h0 : w.heap.size + 1 + 1 ≤ W0.heap.size) : LAD w g g' a a' c c' zs ys E E' G Z EZ aw cw b (((W.setCell ⟨b, 0, none⟩ (.bool G)).setCell ⟨b, 1, none⟩ (.slice aw Z.length cw)).setCell ⟨b, 2, none⟩ (.int .i64 EZ)) := by
  have hbel : Below (w.heap.size + 1 + 1) W (((W.setCell ⟨b, 0, none⟩ (.bool G)).setCell ⟨b, 1, none⟩ (.slice aw Z.length cw)).setCell ⟨b, 2, none⟩ (.int .i64 EZ)) := (((Below.refl _ _).setCell (by simp; omega) _).setCell (by simp; omega) _).setCell (by simp; omega) _
  refine ⟨⟨(hbel.cell (by simp; omega)).trans h.q0, (hbel.cell (by simp; omega)).trans h.q1, (hbel.cell (by simp; omega)).trans h.q2, (hbel.cell (by simp)).trans h.p0, (hbel.cell (by simp)).trans h.p1, (hbel.cell (by simp)).trans h.p2, by simpa using h.le, h.bel.trans (hbel.mono (by omega))⟩, ?_, ?_, ?_, by omega, by simpa using hh.lt, ?_⟩
  · rw [World.cell?_setCell_other _ _ _ _ (by simp), World.cell?_setCell_other _ _ _ _ (by simp)]
    exact World.cell?_setCell_same _ _ _ hh.r1
  · rw [World.cell?_setCell_other _ _ _ _ (by simp)]
    refine World.cell?_setCell_same _ _ _ (u := .slice none 0 0) ?_
    rw [World.cell?_setCell_other _ _ _ _ (by simp)]
    exact hh.r2
  · refine World.cell?_setCell_same _ _ _ (u := .int .i64 0) ?_
    rw [World.cell?_setCell_other _ _ _ _ (by simp), World.cell?_setCell_other _ _ _ _ (by simp)]
    exact hh.r3
  · exact ((hr.setAway (hf.away hb) _).setAway (hf.away hb) _).setAway (hf.away hb) _

/-- From the four boxes laid one behind the other. -/
theorem LBD.start {w : World} {g g' : Bool} {a a' : Option Addr} {c c' : Nat} {zs ys : List Int} {E E' : Int} {G : Bool} {Z : List Int} {EZ : Int} {aw : Option Addr} {cw : Nat} {x0 x1 ag : Option Addr} {cg T1 : Nat} {W4 W5 W6 W7 W8 : World} {t t' t2 : TypeId} (h4 : LAD w g g' a a' c c' zs ys E E' G Z EZ aw cw T1 W4) (hb5 : Below W4.heap.size W4 W5)
    (hr0 : RowNew .u32 W5 W4.heap.size x0 zs) (hb6 : Below (W5.alloc (.cells #[.bool g, .slice x0 zs.length zs.length, .int .i64 E] t)).heap.size (W5.alloc (.cells #[.bool g, .slice x0 zs.length zs.length, .int .i64 E] t)) W6) (hr1 : RowNew .u32 W6 (W5.heap.size + 1) x1 ys)
    (hb7 : Below (W6.alloc (.cells #[.bool g', .slice x1 ys.length ys.length, .int .i64 E'] t')).heap.size (W6.alloc (.cells #[.bool g', .slice x1 ys.length ys.length, .int .i64 E'] t')) W7) (hrg : RowNew .u32 W7 (W6.heap.size + 1) ag Z)
    (h8 : W8 = W7.alloc (.cells #[.bool G, .slice ag Z.length cg, .int .i64 EZ] t2)) :
    LBD w g g' a a' c c' zs ys E E' G Z EZ aw cw x0 x1 ag cg T1 W4.heap.size W5.heap.size W6.heap.size W7.heap.size W4 zs ys Z W8 := by
  subst h8
  have z5 := hb5.size
  have z6 := hb6.size
  have z7 := hb7.size
  simp at z6 z7
  have hle := h4.bx.le
  have o1 := h4.o1
  have b67 : Below W6.heap.size W6 (W7.alloc (.cells #[.bool G, .slice ag Z.length cg, .int .i64 EZ] t2)) := ((bel0 _ _).trans (hb7.mono (by simp))).alloc (by omega) _
  have b56 : Below W5.heap.size W5 W6 := (bel0 _ _).trans (hb6.mono (by simp))
  have b57 : Below W5.heap.size W5 (W7.alloc (.cells #[.bool G, .slice ag Z.length cg, .int .i64 EZ] t2)) := b56.trans (b67.mono (by omega))
  have b47 : Below W4.heap.size W4 (W7.alloc (.cells #[.bool G, .slice ag Z.length cg, .int .i64 EZ] t2)) := hb5.trans (b57.mono (by omega))
  have h := h4.later b47
  have e0 : ∀ j, (W7.alloc (.cells #[.bool G, .slice ag Z.length cg, .int .i64 EZ] t2)).cell? ⟨W5.heap.size, j, none⟩ = #[Value.bool g, .slice x0 zs.length zs.length, .int .i64 E][j]? := by
    intro j
    rw [b67.cell (by simp; omega), hb6.cell (by simp), World.cell?_alloc_at _ _ _ _ rfl]
  have e1 : ∀ j, (W7.alloc (.cells #[.bool G, .slice ag Z.length cg, .int .i64 EZ] t2)).cell? ⟨W6.heap.size, j, none⟩ = #[Value.bool g', .slice x1 ys.length ys.length, .int .i64 E'][j]? := by
    intro j
    rw [World.cell?_alloc_past _ _ _ (by omega), hb7.cell (by simp), World.cell?_alloc_at _ _ _ _ rfl]
  exact ⟨h.bx, h.w0, h.w1, h.we, by rw [e0]; rfl, by rw [e0]; rfl, by rw [e0]; rfl, by rw [e1]; rfl, by rw [e1]; rfl, by rw [e1]; rfl, by simp [go_sem], by simp [go_sem], by simp [go_sem], h.o0, o1, z5, by omega, by omega, by simp, h4.rw, rfl, b47,
    hr0.rowIn.later b57, hr1.rowIn.later b67, hrg.rowIn.later (bel0 _ _)⟩

end Go.Proofs.YtladfpljnaippaaDoor
