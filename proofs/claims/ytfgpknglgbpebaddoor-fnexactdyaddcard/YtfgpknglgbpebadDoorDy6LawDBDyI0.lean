/-
  The boxes of two Dyadics; an l2dy in a box.
-/
import Derived.Test.YtfgpknglgbpebadDoorNumD
import Derived.Test.YtfgpknglgbpebadDoorRes
import Derived.Test.YtfgpknglgbpebadDoorWithinMarksDyMk
import Derived.Test.YtfgpknglgbpebadDoorBigs
import Derived.Test.YtfgpknglgbpebadDoorUtil
import Derived.Deep.RegionHeld3
namespace Go.Proofs.YtfgpknglgbpebadDoor
open Go.RowKit

/-- The boxes of two Dyadics behind w. -/
structure Bx6 (w : World) (u v e u' v' e' : Value) (W : World) : Prop where
  q0 : W.cell? ⟨w.heap.size, 0, none⟩ = some u
  q1 : W.cell? ⟨w.heap.size, 1, none⟩ = some v
  q2 : W.cell? ⟨w.heap.size, 2, none⟩ = some e
  p0 : W.cell? ⟨w.heap.size + 1, 0, none⟩ = some u'
  p1 : W.cell? ⟨w.heap.size + 1, 1, none⟩ = some v'
  p2 : W.cell? ⟨w.heap.size + 1, 2, none⟩ = some e'
  le : w.heap.size + 1 + 1 ≤ W.heap.size
  bel : Below w.heap.size w W

theorem Bx6.start (w : World) (u v e u' v' e' : Value) (t t' : TypeId) : Bx6 w u v e u' v' e' ((w.alloc (.cells #[u, v, e] t)).alloc (.cells #[u', v', e'] t')) := by
  refine ⟨?_, ?_, ?_, ?_, ?_, ?_, ?_, bel2 _ _ _⟩
  all_goals simp [go_sem]

theorem Bx6.later {w : World} {u v e u' v' e' : Value} {W W' : World} (h : Bx6 w u v e u' v' e' W) (hb : Below W.heap.size W W') : Bx6 w u v e u' v' e' W' := by
  have hl := h.le
  exact ⟨(hb.cell (by simp; omega)).trans h.q0, (hb.cell (by simp; omega)).trans h.q1, (hb.cell (by simp; omega)).trans h.q2, (hb.cell (by simp; omega)).trans h.p0, (hb.cell (by simp; omega)).trans h.p1, (hb.cell (by simp; omega)).trans h.p2, Nat.le_trans h.le hb.size, h.bel.trans (hb.mono (by omega))⟩

theorem Bx6.held {w : World} {u v e u' v' e' : Value} {W W' : World} (h : Bx6 w u v e u' v' e' W) (hb : Below W.heap.size W W') : W'.cell? ⟨w.heap.size, 0, none⟩ = some u ∧ W'.cell? ⟨w.heap.size, 1, none⟩ = some v ∧ W'.cell? ⟨w.heap.size, 2, none⟩ = some e ∧ W'.cell? ⟨w.heap.size + 1, 0, none⟩ = some u' ∧ W'.cell? ⟨w.heap.size + 1, 1, none⟩ = some v' ∧ W'.cell? ⟨w.heap.size + 1, 2, none⟩ = some e' ∧ Below W.heap.size W W' :=
  ⟨(h.later hb).q0, (h.later hb).q1, (h.later hb).q2, (h.later hb).p0, (h.later hb).p1, (h.later hb).p2, hb⟩

theorem held7 {p q r s t u v : Prop} (h : p ∧ q ∧ r ∧ s ∧ t ∧ u ∧ v) : v := h.2.2.2.2.2.2

/-- An l2dy in a box. -/
structure L2In (T : Nat) (g : Bool) (a : Option Addr) (c : Nat) (ds : List Int) (m e : Int) (W : World) : Prop where
  q0 : W.cell? ⟨T, 0, none⟩ = some (.bool g)
  q1 : W.cell? ⟨T, 1, none⟩ = some (.slice a ds.length c)
  l1 : L1 W g a c ds m

/-- A box of a struct of three that is still zero. -/
structure Has3 (b : Nat) (W : World) : Prop where
  r1 : W.cell? ⟨b, 0, none⟩ = some (.bool false)
  r2 : W.cell? ⟨b, 1, none⟩ = some (.slice none 0 0)
  r3 : W.cell? ⟨b, 2, none⟩ = some (.int .i64 0)
  r4 : ∀ j, W.frozen? ⟨b, j, none⟩ = false
  lt : b < W.heap.size

theorem Has3.new (W : World) (t : TypeId) : Has3 W.heap.size (W.alloc (.cells #[.bool false, .slice none 0 0, .int .i64 0] t)) := ⟨by simp [go_sem], by simp [go_sem], by simp [go_sem], by intro j; simp [go_sem], by simp⟩

theorem Has3.later {b : Nat} {W W' : World} (h : Has3 b W) (hb : Below W.heap.size W W') : Has3 b W' :=
  ⟨(hb.cell (p := ⟨b, 0, none⟩) h.lt).trans h.r1, (hb.cell (p := ⟨b, 1, none⟩) h.lt).trans h.r2, (hb.cell (p := ⟨b, 2, none⟩) h.lt).trans h.r3, fun j => (hb.frozen (p := ⟨b, j, none⟩) h.lt).trans (h.r4 j), Nat.lt_of_lt_of_le h.lt hb.size⟩

theorem L2In.start {g : Bool} {a : Option Addr} {c : Nat} {ds : List Int} {m e : Int} {W : World} (t : TypeId) (h : L1 W g a c ds m) : L2In W.heap.size g a c ds m e (W.alloc (.cells #[.bool g, .slice a ds.length c, .int .i64 e] t)) :=
  ⟨by simp [go_sem], by simp [go_sem], h.later (bel0 _ _)⟩

theorem L2In.set {b B : Nat} {g : Bool} {a : Option Addr} {c : Nat} {ds : List Int} {m e : Int} {W : World} (h : L1 W g a c ds m) (hf : Far B a ds) (hb : b < B) (hh : Has3 b W) : L2In b g a c ds m e (((W.setCell ⟨b, 0, none⟩ (.bool g)).setCell ⟨b, 1, none⟩ (.slice a ds.length c)).setCell ⟨b, 2, none⟩ (.int .i64 e)) := by
  refine ⟨?_, ?_, ((h.setFar hf (by simpa using hb) _).setFar hf (by simpa using hb) _).setFar hf (by simpa using hb) _⟩
  · rw [World.cell?_setCell_other _ _ _ _ (by simp), World.cell?_setCell_other _ _ _ _ (by simp)]
    exact World.cell?_setCell_same _ _ _ hh.r1
  · rw [World.cell?_setCell_other _ _ _ _ (by simp)]
    refine World.cell?_setCell_same _ _ _ (u := .slice none 0 0) ?_
    rw [World.cell?_setCell_other _ _ _ _ (by simp)]
    exact hh.r2

end Go.Proofs.YtfgpknglgbpebadDoor

/-
  What holds of memory while a law over a function of two Dyadics runs.
-/
namespace Go.Proofs.YtfgpknglgbpebadDoor
open Go.RowKit

/-- The boxes of the law's arguments (behind w), of the model's answer (T1), of the two copies (T2, T3), of the program's answer (T4); where each row lies. -/
structure LBD (w : World) (g g' : Bool) (a a' : Option Addr) (c c' : Nat) (zs ys : List Int) (E E' : Int) (G : Bool) (Z : List Int) (EZ : Int) (aw : Option Addr) (cw : Nat) (x0 x1 ag : Option Addr) (cg T1 TE T2 T3 T4 : Nat) (Wsp : World) (X0 X1 ZG : List Int) (W : World) : Prop where
  bx : Bx6 w (.bool g) (.slice a zs.length c) (.int .i64 E) (.bool g') (.slice a' ys.length c') (.int .i64 E') W
  w0 : W.cell? ⟨T1, 0, none⟩ = some (.bool G)
  w1 : W.cell? ⟨T1, 1, none⟩ = some (.slice aw Z.length cw)
  we : W.cell? ⟨T1, 2, none⟩ = some (.int .i64 EZ)
  p0 : W.cell? ⟨T2, 0, none⟩ = some (.bool g)
  p1 : W.cell? ⟨T2, 1, none⟩ = some (.slice x0 zs.length zs.length)
  pe : W.cell? ⟨T2, 2, none⟩ = some (.int .i64 E)
  p2 : W.cell? ⟨T3, 0, none⟩ = some (.bool g')
  p3 : W.cell? ⟨T3, 1, none⟩ = some (.slice x1 ys.length ys.length)
  pf : W.cell? ⟨T3, 2, none⟩ = some (.int .i64 E')
  g0 : W.cell? ⟨T4, 0, none⟩ = some (.bool G)
  g1 : W.cell? ⟨T4, 1, none⟩ = some (.slice ag Z.length cg)
  ge : W.cell? ⟨T4, 2, none⟩ = some (.int .i64 EZ)
  o0 : w.heap.size + 1 < T1
  o1 : T1 < TE
  oE : TE ≤ T2
  o2 : T2 < T3
  o3 : T3 < T4
  o4 : T4 < W.heap.size
  rw : RowAt .u32 Wsp aw Z
  rwT : Wsp.heap.size = TE
  rwB : Below TE Wsp W
  r0 : RowIn .u32 W TE T2 x0 X0
  r1 : RowIn .u32 W (T2 + 1) T3 x1 X1
  rg : RowIn .u32 W (T3 + 1) T4 ag ZG

section
variable {w : World} {g g' : Bool} {a a' : Option Addr} {c c' : Nat} {zs ys : List Int} {E E' : Int} {G : Bool} {Z : List Int} {EZ : Int} {aw : Option Addr} {cw : Nat} {x0 x1 ag : Option Addr} {cg T1 TE T2 T3 T4 : Nat} {Wsp : World} {X0 X1 ZG : List Int} {W W' W1 : World}

theorem LBD.wrow (h : LBD w g g' a a' c c' zs ys E E' G Z EZ aw cw x0 x1 ag cg T1 TE T2 T3 T4 Wsp X0 X1 ZG W) : RowAt .u32 W aw Z := h.rw.later (by rw [h.rwT]; exact h.rwB)

theorem LBD.later (h : LBD w g g' a a' c c' zs ys E E' G Z EZ aw cw x0 x1 ag cg T1 TE T2 T3 T4 Wsp X0 X1 ZG W) (hb : Below W.heap.size W W') : LBD w g g' a a' c c' zs ys E E' G Z EZ aw cw x0 x1 ag cg T1 TE T2 T3 T4 Wsp X0 X1 ZG W' := by
  have h1 := h.o1; have hE := h.oE; have h2 := h.o2; have h3 := h.o3; have h4 := h.o4
  exact ⟨h.bx.later hb, (hb.cell (by simp; omega)).trans h.w0, (hb.cell (by simp; omega)).trans h.w1, (hb.cell (by simp; omega)).trans h.we, (hb.cell (by simp; omega)).trans h.p0, (hb.cell (by simp; omega)).trans h.p1, (hb.cell (by simp; omega)).trans h.pe, (hb.cell (by simp; omega)).trans h.p2, (hb.cell (by simp; omega)).trans h.p3, (hb.cell (by simp; omega)).trans h.pf,
    (hb.cell (by simp; omega)).trans h.g0, (hb.cell (by simp; omega)).trans h.g1, (hb.cell (by simp; omega)).trans h.ge, h.o0, h1, hE, h2, h3, Nat.lt_of_lt_of_le h4 hb.size, h.rw, h.rwT, h.rwB.trans (hb.mono (by omega)), h.r0.later hb, h.r1.later hb, h.rg.later hb⟩

/-- A write within blocks that hold none of the boxes. -/
theorem LBD.turn {lo hi : Nat} (h : LBD w g g' a a' c c' zs ys E E' G Z EZ aw cw x0 x1 ag cg T1 TE T2 T3 T4 Wsp X0 X1 ZG W) (hw : Within lo hi W W') (hT : (lo = TE ∧ hi = T2) ∨ (lo = T2 + 1 ∧ hi = T3) ∨ (lo = T3 + 1 ∧ hi = T4))
    {X0' X1' ZG' : List Int} (h0 : RowIn .u32 W' TE T2 x0 X0') (h1' : RowIn .u32 W' (T2 + 1) T3 x1 X1') (hg' : RowIn .u32 W' (T3 + 1) T4 ag ZG') : LBD w g g' a a' c c' zs ys E E' G Z EZ aw cw x0 x1 ag cg T1 TE T2 T3 T4 Wsp X0' X1' ZG' W' := by
  have h1 := h.o1; have hE := h.oE; have h2 := h.o2; have h3 := h.o3; have h4 := h.o4; have h00 := h.o0
  have hlo : TE ≤ lo := by omega
  have hB := hw.below
  refine ⟨?_, (hw.cell (by simp; omega)).trans h.w0, (hw.cell (by simp; omega)).trans h.w1, (hw.cell (by simp; omega)).trans h.we, (hw.cell (by simp; omega)).trans h.p0, (hw.cell (by simp; omega)).trans h.p1, (hw.cell (by simp; omega)).trans h.pe, (hw.cell (by simp; omega)).trans h.p2, (hw.cell (by simp; omega)).trans h.p3, (hw.cell (by simp; omega)).trans h.pf,
    (hw.cell (by simp; omega)).trans h.g0, (hw.cell (by simp; omega)).trans h.g1, (hw.cell (by simp; omega)).trans h.ge, h.o0, h1, hE, h2, h3, by rw [hw.size]; exact h4, h.rw, h.rwT, h.rwB.trans (hB.mono (by omega)), h0, h1', hg'⟩
  exact ⟨(hw.cell (by simp; omega)).trans h.bx.q0, (hw.cell (by simp; omega)).trans h.bx.q1, (hw.cell (by simp; omega)).trans h.bx.q2, (hw.cell (by simp; omega)).trans h.bx.p0, (hw.cell (by simp; omega)).trans h.bx.p1, (hw.cell (by simp; omega)).trans h.bx.p2, by rw [hw.size]; exact h.bx.le, h.bx.bel.trans (hB.mono (by omega))⟩

theorem LBD.mark0 (h : LBD w g g' a a' c c' zs ys E E' G Z EZ aw cw x0 x1 ag cg T1 TE T2 T3 T4 Wsp X0 X1 ZG W) {X0' : List Int} (hr : RowIn .u32 W' TE T2 x0 X0') (hw : ∃ W1, Below W.heap.size W W1 ∧ Within TE T2 W1 W') : LBD w g g' a a' c c' zs ys E E' G Z EZ aw cw x0 x1 ag cg T1 TE T2 T3 T4 Wsp X0' X1 ZG W' := by
  obtain ⟨W1, hb, hwi⟩ := hw
  have h2 := h.later hb
  have o1 := h.o1; have oE := h.oE; have o2 := h.o2; have o3 := h.o3
  exact h2.turn hwi (.inl ⟨rfl, rfl⟩) hr (h2.r1.apart hwi (by omega)) (h2.rg.apart hwi (by omega))

theorem LBD.mark1 (h : LBD w g g' a a' c c' zs ys E E' G Z EZ aw cw x0 x1 ag cg T1 TE T2 T3 T4 Wsp X0 X1 ZG W) {X1' : List Int} (hr : RowIn .u32 W' (T2 + 1) T3 x1 X1') (hw : ∃ W1, Below W.heap.size W W1 ∧ Within (T2 + 1) T3 W1 W') : LBD w g g' a a' c c' zs ys E E' G Z EZ aw cw x0 x1 ag cg T1 TE T2 T3 T4 Wsp X0 X1' ZG W' := by
  obtain ⟨W1, hb, hwi⟩ := hw
  have h2 := h.later hb
  have o1 := h.o1; have oE := h.oE; have o2 := h.o2; have o3 := h.o3
  exact h2.turn hwi (.inr (.inl ⟨rfl, rfl⟩)) (h2.r0.apart hwi (by omega)) hr (h2.rg.apart hwi (by omega))

theorem LBD.markg (h : LBD w g g' a a' c c' zs ys E E' G Z EZ aw cw x0 x1 ag cg T1 TE T2 T3 T4 Wsp X0 X1 ZG W) {ZG' : List Int} (hr : RowIn .u32 W' (T3 + 1) T4 ag ZG') (hw : ∃ W1, Below W.heap.size W W1 ∧ Within (T3 + 1) T4 W1 W') : LBD w g g' a a' c c' zs ys E E' G Z EZ aw cw x0 x1 ag cg T1 TE T2 T3 T4 Wsp X0 X1 ZG' W' := by
  obtain ⟨W1, hb, hwi⟩ := hw
  have h2 := h.later hb
  have o1 := h.o1; have oE := h.oE; have o2 := h.o2; have o3 := h.o3
  exact h2.turn hwi (.inr (.inr ⟨rfl, rfl⟩)) (h2.r0.apart hwi (by omega)) (h2.r1.apart hwi (by omega)) hr

/-- What the regions of the law need. -/
theorem LBD.held (h : LBD w g g' a a' c c' zs ys E E' G Z EZ aw cw x0 x1 ag cg T1 TE T2 T3 T4 Wsp X0 X1 ZG W) (hb : Below W.heap.size W W') :
    W'.cell? ⟨w.heap.size, 0, none⟩ = some (.bool g) ∧ W'.cell? ⟨w.heap.size, 1, none⟩ = some (.slice a zs.length c) ∧ W'.cell? ⟨w.heap.size, 2, none⟩ = some (.int .i64 E) ∧ W'.cell? ⟨w.heap.size + 1, 0, none⟩ = some (.bool g') ∧ W'.cell? ⟨w.heap.size + 1, 1, none⟩ = some (.slice a' ys.length c') ∧ W'.cell? ⟨w.heap.size + 1, 2, none⟩ = some (.int .i64 E') ∧
    W'.cell? ⟨T2, 0, none⟩ = some (.bool g) ∧ W'.cell? ⟨T2, 1, none⟩ = some (.slice x0 zs.length zs.length) ∧ W'.cell? ⟨T2, 2, none⟩ = some (.int .i64 E) ∧ W'.cell? ⟨T3, 0, none⟩ = some (.bool g') ∧ W'.cell? ⟨T3, 1, none⟩ = some (.slice x1 ys.length ys.length) ∧ W'.cell? ⟨T3, 2, none⟩ = some (.int .i64 E') ∧ Below W.heap.size W W' :=
  ⟨(h.later hb).bx.q0, (h.later hb).bx.q1, (h.later hb).bx.q2, (h.later hb).bx.p0, (h.later hb).bx.p1, (h.later hb).bx.p2, (h.later hb).p0, (h.later hb).p1, (h.later hb).pe, (h.later hb).p2, (h.later hb).p3, (h.later hb).pf, hb⟩

end

/-- The arguments' boxes and the model's answer's box. -/
structure LAD (w : World) (g g' : Bool) (a a' : Option Addr) (c c' : Nat) (zs ys : List Int) (E E' : Int) (G : Bool) (Z : List Int) (EZ : Int) (aw : Option Addr) (cw T1 : Nat) (W : World) : Prop where
  bx : Bx6 w (.bool g) (.slice a zs.length c) (.int .i64 E) (.bool g') (.slice a' ys.length c') (.int .i64 E') W
  w0 : W.cell? ⟨T1, 0, none⟩ = some (.bool G)
  w1 : W.cell? ⟨T1, 1, none⟩ = some (.slice aw Z.length cw)
  we : W.cell? ⟨T1, 2, none⟩ = some (.int .i64 EZ)
  o0 : w.heap.size + 1 < T1
  o1 : T1 < W.heap.size
  rw : RowAt .u32 W aw Z

theorem LAD.later {w : World} {g g' : Bool} {a a' : Option Addr} {c c' : Nat} {zs ys : List Int} {E E' : Int} {G : Bool} {Z : List Int} {EZ : Int} {aw : Option Addr} {cw T1 : Nat} {W W' : World} (h : LAD w g g' a a' c c' zs ys E E' G Z EZ aw cw T1 W) (hb : Below W.heap.size W W') : LAD w g g' a a' c c' zs ys E E' G Z EZ aw cw T1 W' := by
  have h1 := h.o1
  exact ⟨h.bx.later hb, (hb.cell (by simp; omega)).trans h.w0, (hb.cell (by simp; omega)).trans h.w1, (hb.cell (by simp; omega)).trans h.we, h.o0, Nat.lt_of_lt_of_le h1 hb.size, h.rw.later hb⟩

/-- The answer's box is laid behind the call. -/
theorem LAD.start {w : World} {g g' : Bool} {a a' : Option Addr} {c c' : Nat} {zs ys : List Int} {E E' : Int} {G : Bool} {Z : List Int} {EZ : Int} {aw : Option Addr} {cw : Nat} {W : World} {t : TypeId} (h : Bx6 w (.bool g) (.slice a zs.length c) (.int .i64 E) (.bool g') (.slice a' ys.length c') (.int .i64 E') W) (hr : RowAt .u32 W aw Z) :
    LAD w g g' a a' c c' zs ys E E' G Z EZ aw cw W.heap.size (W.alloc (.cells #[.bool G, .slice aw Z.length cw, .int .i64 EZ] t)) :=
  ⟨h.later (bel0 _ _), by simp [go_sem], by simp [go_sem], by simp [go_sem], h.le, by simp, hr.later (bel0 _ _)⟩

/-- The answer's box was laid ahead of the call. -/
theorem LAD.set {w : World} {g g' : Bool} {a a' : Option Addr} {c c' : Nat} {zs ys : List Int} {E E' : Int} {G : Bool} {Z : List Int} {EZ : Int} {aw : Option Addr} {cw b B : Nat} {W0 W : World} (h : Bx6 w (.bool g) (.slice a zs.length c) (.int .i64 E) (.bool g') (.slice a' ys.length c') (.int .i64 E') W) (hr : RowAt .u32 W aw Z) (hf : Far B aw Z) (hb : b < B) (hh : Has3 b W)
    (hlo : W0.heap.size ≤ b) (h0 : w.heap.size + 1 + 1 ≤ W0.heap.size) : LAD w g g' a a' c c' zs ys E E' G Z EZ aw cw b (((W.setCell ⟨b, 0, none⟩ (.bool G)).setCell ⟨b, 1, none⟩ (.slice aw Z.length cw)).setCell ⟨b, 2, none⟩ (.int .i64 EZ)) := by
  have hbel : Below (w.heap.size + 1 + 1) W (((W.setCell ⟨b, 0, none⟩ (.bool G)).setCell ⟨b, 1, none⟩ (.slice aw Z.length cw)).setCell ⟨b, 2, none⟩ (.int .i64 EZ)) := (((Below.refl _ _).setCell (by simp; omega) _).setCell (by simp; omega) _).setCell (by simp; omega) _
  refine ⟨⟨(hbel.cell (by simp; omega)).trans h.q0, (hbel.cell (by simp; omega)).trans h.q1, (hbel.cell (by simp; omega)).trans h.q2, (hbel.cell (by simp)).trans h.p0, (hbel.cell (by simp)).trans h.p1, (hbel.cell (by simp)).trans h.p2, by simpa using h.le, h.bel.trans (hbel.mono (by omega))⟩, ?_, ?_, ?_, by omega, by simpa using hh.lt, ?_⟩
  · rw [World.cell?_setCell_other _ _ _ _ (by simp), World.cell?_setCell_other _ _ _ _ (by simp)]
    exact World.cell?_setCell_same _ _ _ hh.r1
  · rw [World.cell?_setCell_other _ _ _ _ (by simp)]
    refine World.cell?_setCell_same _ _ _ (u := .slice none 0 0) ?_
    rw [World.cell?_setCell_other _ _ _ _ (by simp)]
    exact hh.r2
  · refine World.cell?_setCell_same _ _ _ (u := .int .i64 0) ?_
    rw [World.cell?_setCell_other _ _ _ _ (by simp), World.cell?_setCell_other _ _ _ _ (by simp)]
    exact hh.r3
  · exact ((hr.setAway (hf.away hb) _).setAway (hf.away hb) _).setAway (hf.away hb) _

/-- From the four boxes laid one behind the other. -/
theorem LBD.start {w : World} {g g' : Bool} {a a' : Option Addr} {c c' : Nat} {zs ys : List Int} {E E' : Int} {G : Bool} {Z : List Int} {EZ : Int} {aw : Option Addr} {cw : Nat} {x0 x1 ag : Option Addr} {cg T1 : Nat} {W4 W5 W6 W7 W8 : World} {t t' t2 : TypeId} (h4 : LAD w g g' a a' c c' zs ys E E' G Z EZ aw cw T1 W4) (hb5 : Below W4.heap.size W4 W5)
    (hr0 : RowNew .u32 W5 W4.heap.size x0 zs) (hb6 : Below (W5.alloc (.cells #[.bool g, .slice x0 zs.length zs.length, .int .i64 E] t)).heap.size (W5.alloc (.cells #[.bool g, .slice x0 zs.length zs.length, .int .i64 E] t)) W6) (hr1 : RowNew .u32 W6 (W5.heap.size + 1) x1 ys)
    (hb7 : Below (W6.alloc (.cells #[.bool g', .slice x1 ys.length ys.length, .int .i64 E'] t')).heap.size (W6.alloc (.cells #[.bool g', .slice x1 ys.length ys.length, .int .i64 E'] t')) W7) (hrg : RowNew .u32 W7 (W6.heap.size + 1) ag Z)
    (h8 : W8 = W7.alloc (.cells #[.bool G, .slice ag Z.length cg, .int .i64 EZ] t2)) :
    LBD w g g' a a' c c' zs ys E E' G Z EZ aw cw x0 x1 ag cg T1 W4.heap.size W5.heap.size W6.heap.size W7.heap.size W4 zs ys Z W8 := by
  subst h8
  have z5 := hb5.size
  have z6 := hb6.size
  have z7 := hb7.size
  simp at z6 z7
  have hle := h4.bx.le
  have o1 := h4.o1
  have b67 : Below W6.heap.size W6 (W7.alloc (.cells #[.bool G, .slice ag Z.length cg, .int .i64 EZ] t2)) := ((bel0 _ _).trans (hb7.mono (by simp))).alloc (by omega) _
  have b56 : Below W5.heap.size W5 W6 := (bel0 _ _).trans (hb6.mono (by simp))
  have b57 : Below W5.heap.size W5 (W7.alloc (.cells #[.bool G, .slice ag Z.length cg, .int .i64 EZ] t2)) := b56.trans (b67.mono (by omega))
  have b47 : Below W4.heap.size W4 (W7.alloc (.cells #[.bool G, .slice ag Z.length cg, .int .i64 EZ] t2)) := hb5.trans (b57.mono (by omega))
  have h := h4.later b47
  have e0 : ∀ j, (W7.alloc (.cells #[.bool G, .slice ag Z.length cg, .int .i64 EZ] t2)).cell? ⟨W5.heap.size, j, none⟩ = #[Value.bool g, .slice x0 zs.length zs.length, .int .i64 E][j]? := by
    intro j
    rw [b67.cell (by simp; omega), hb6.cell (by simp), World.cell?_alloc_at _ _ _ _ rfl]
  have e1 : ∀ j, (W7.alloc (.cells #[.bool G, .slice ag Z.length cg, .int .i64 EZ] t2)).cell? ⟨W6.heap.size, j, none⟩ = #[Value.bool g', .slice x1 ys.length ys.length, .int .i64 E'][j]? := by
    intro j
    rw [World.cell?_alloc_past _ _ _ (by omega), hb7.cell (by simp), World.cell?_alloc_at _ _ _ _ rfl]
  exact ⟨h.bx, h.w0, h.w1, h.we, by rw [e0]; rfl, by rw [e0]; rfl, by rw [e0]; rfl, by rw [e1]; rfl, by rw [e1]; rfl, by rw [e1]; rfl, by simp [go_sem], by simp [go_sem], by simp [go_sem], h.o0, o1, z5, by omega, by omega, by simp, h4.rw, rfl, b47,
    hr0.rowIn.later b57, hr1.rowIn.later b67, hrg.rowIn.later (bel0 _ _)⟩

end Go.Proofs.YtfgpknglgbpebadDoor

/-
  The laws' helpers for Dyadics: sizes, copies, whether two are the same.
-/
namespace Go.Proofs.YtfgpknglgbpebadDoor
open Go.RowKit

set_option maxHeartbeats 1000000 in
theorem sz2_any (g : Bool) (a : Option Addr) (n c : Nat) (E l : Int) (w : World) (hn : n ≤ maxLen) (h0 : 0 ≤ l) (h1 : l ≤ 1048576) :
    Calls Tryd.prog 5 #[.agg #[.bool g, .slice a n c, .int .i64 E], .int .i64 l] w fun e w' => e = .returned (.int .i64 (if l < n then -1 else l - n)) ∧ Below w.heap.size w w' := by
  by_cases h : l < n
  · rw [if_pos h]
    go_enter Tryd.func5, Tryd.ntmps5
    go_wp2_with fail
    refine (szB_any g a n c l _ hn h0 h1).mono ?_
    rintro e w1 ⟨rfl, hb1⟩
    rw [if_pos h]
    have HB : Hid (Below w.heap.size w w1) := (bel0 _ _).trans (hb1.mono (by simp))
    clear hb1
    go_wp2
    go_ret
    exact ⟨rfl, HB.out⟩
  · rw [if_neg h]
    have hln : ¬ l - n < 0 := by omega
    go_enter Tryd.func5, Tryd.ntmps5
    go_wp2_with fail
    refine (szB_any g a n c l _ hn h0 h1).mono ?_
    rintro e w1 ⟨rfl, hb1⟩
    rw [if_neg (by omega)]
    have HB : Hid (Below w.heap.size w w1) := (bel0 _ _).trans (hb1.mono (by simp))
    clear hb1
    go_wp2
    go_ret
    exact ⟨rfl, HB.out⟩

set_option maxHeartbeats 2000000 in
theorem to2_any (g : Bool) (a : Option Addr) (c : Nat) (zs : List Int) (E : Int) (w : World) (hn : zs.length ≤ 1048576) (hz : RowAt .u32 w a zs) :
    Calls Tryd.prog 7 #[.agg #[.bool g, .slice a zs.length c, .int .i64 E]] w fun e w' => ∃ a', e = .returned (.agg #[.bool g, .slice a' zs.length zs.length, .int .i64 E]) ∧ RowNew .u32 w' w.heap.size a' zs ∧ Below w.heap.size w w' := by
  go_enter Tryd.func7, Tryd.ntmps7
  go_wp2_with fail
  refine (toB_any g a c zs _ hn (hz.later (bel3 _ _ _ _))).mono ?_
  rintro e w1 ⟨a1, rfl, hr1, hb1⟩
  have q2 : w1.cell? ⟨w.heap.size, 2, none⟩ = some (.int .i64 E) := by rw [(bcell hb1).1 _ _ (by simp; omega)]; simp [go_sem]
  have r1 : w1.cell? ⟨w.heap.size + 1, 0, none⟩ = some (.bool false) := by rw [(bcell hb1).1 _ _ (by simp)]; simp [go_sem]
  have r2 : w1.cell? ⟨w.heap.size + 1, 1, none⟩ = some (.slice none 0 0) := by rw [(bcell hb1).1 _ _ (by simp)]; simp [go_sem]
  have r3 : w1.cell? ⟨w.heap.size + 1, 2, none⟩ = some (.int .i64 0) := by rw [(bcell hb1).1 _ _ (by simp)]; simp [go_sem]
  have r4 : ∀ j, w1.frozen? ⟨w.heap.size + 1, j, none⟩ = false := by intro j; rw [(bcell hb1).2 _ _ (by simp)]; simp [go_sem]
  have p1 : w1.cell? ⟨w.heap.size + 1 + 1, 0, none⟩ = some (.bool false) := by rw [(bcell hb1).1 _ _ (by simp)]; simp [go_sem]
  have p2 : w1.cell? ⟨w.heap.size + 1 + 1, 1, none⟩ = some (.slice none 0 0) := by rw [(bcell hb1).1 _ _ (by simp)]; simp [go_sem]
  have p3 : w1.cell? ⟨w.heap.size + 1 + 1, 2, none⟩ = some (.int .i64 0) := by rw [(bcell hb1).1 _ _ (by simp)]; simp [go_sem]
  have p4 : ∀ j, w1.frozen? ⟨w.heap.size + 1 + 1, j, none⟩ = false := by intro j; rw [(bcell hb1).2 _ _ (by simp)]; simp [go_sem]
  have HR : Hid (RowNew .u32 w1 (w.heap.size + 1 + 1 + 1) a1 zs) := by unfold Hid; simpa using hr1
  have HB : Hid (Below w.heap.size w w1) := (bel3 _ _ _ _).trans (hb1.mono (by simp; omega))
  clear hb1 hr1
  go_wp2
  refine bodyPost_ret (v := .agg #[.bool g, .slice a1 zs.length zs.length, .int .i64 E]) (by simp [results, Tryd.results7, go_sem, r1, r2, r3]) rfl ?_
  refine ⟨a1, rfl, ?_, ?_⟩
  · refine RowNew.down (B := w.heap.size + 1 + 1 + 1) ?_ (by omega)
    repeat' (refine RowNew.setLow ?_ (by simp) _)
    exact HR.out
  · repeat' (refine Below.setCell ?_ (by first | (simp; done) | (simp; omega)) _)
    exact HB.out

set_option maxHeartbeats 2000000 in
theorem eq2_any (g : Bool) (a a' : Option Addr) (c c' : Nat) (zs : List Int) (E : Int) (w : World) (hn : zs.length ≤ maxLen) (hz : RowAt .u32 w a zs) (hy : RowAt .u32 w a' zs) :
    Calls Tryd.prog 9 #[.agg #[.bool g, .slice a zs.length c, .int .i64 E], .agg #[.bool g, .slice a' zs.length c', .int .i64 E]] w fun e w' => e = .returned (.bool true) ∧ Below w.heap.size w w' := by
  have B0 : Hid (∀ t t', Bx6 w (.bool g) (.slice a zs.length c) (.int .i64 E) (.bool g) (.slice a' zs.length c') (.int .i64 E) ((w.alloc (.cells #[.bool g, .slice a zs.length c, .int .i64 E] t)).alloc (.cells #[.bool g, .slice a' zs.length c', .int .i64 E] t'))) := fun t t' => Bx6.start w _ _ _ _ _ _ _ _
  have hEE : (E != E) = false := by simp
  go_enter Tryd.func9, Tryd.ntmps9
  go_wp2_with fail
  refine (eqB_any _ _ _ _ _ _ zs zs _ hn hn (hz.later (B0.out _ _).bel) (hy.later (B0.out _ _).bel)).mono ?_
  rintro e w1 ⟨rfl, hb1⟩
  rw [show decide (g = g ∧ zs = zs) = true from by simp]
  have F1 := (B0.out _ _).later hb1
  have q2 := F1.q2
  have p2 := F1.p2
  have HB : Hid (Below w.heap.size w w1) := F1.bel
  clear hb1 F1 B0
  go_wp2
  go_ret
  exact ⟨rfl, HB.out⟩

end Go.Proofs.YtfgpknglgbpebadDoor
