/-
  What holds of memory while a law over a function of one Big runs.
-/
import Derived.Test.YtlbegmepmeimkabRes
import Derived.Test.YtlbegmepmeimkabMarks
import Derived.Test.YtlbegmepmeimkabBigs
namespace Go.Proofs.Ytlbegmepmeimkab
open Go.RowKit

/-- The box of the law's argument lies behind w; nothing of w has turned. -/
structure Ax (w : World) (u v : Value) (W : World) : Prop where
  q0 : W.cell? ⟨w.heap.size, 0, none⟩ = some u
  q1 : W.cell? ⟨w.heap.size, 1, none⟩ = some v
  le : w.heap.size < W.heap.size
  bel : Below w.heap.size w W

theorem Ax.start (w : World) (u v : Value) (t : TypeId) : Ax w u v (w.alloc (.cells #[u, v] t)) := ⟨by simp [go_sem], by simp [go_sem], by simp, bel0 _ _⟩

theorem Ax.later {w : World} {u v : Value} {W W' : World} (h : Ax w u v W) (hb : Below W.heap.size W W') : Ax w u v W' :=
  ⟨(hb.cell (p := ⟨w.heap.size, 0, none⟩) h.le).trans h.q0, (hb.cell (p := ⟨w.heap.size, 1, none⟩) h.le).trans h.q1, Nat.lt_of_lt_of_le h.le hb.size, h.bel.trans (hb.mono (Nat.le_of_lt h.le))⟩

/-- A box of a Big. -/
structure Bb (T : Nat) (u v : Value) (W : World) : Prop where
  q0 : W.cell? ⟨T, 0, none⟩ = some u
  q1 : W.cell? ⟨T, 1, none⟩ = some v
  lt : T < W.heap.size

theorem Bb.start (W : World) (u v : Value) (t : TypeId) : Bb W.heap.size u v (W.alloc (.cells #[u, v] t)) := ⟨by simp [go_sem], by simp [go_sem], by simp⟩

theorem Bb.later {T : Nat} {u v : Value} {W W' : World} (h : Bb T u v W) (hb : Below W.heap.size W W') : Bb T u v W' :=
  ⟨(hb.cell (p := ⟨T, 0, none⟩) h.lt).trans h.q0, (hb.cell (p := ⟨T, 1, none⟩) h.lt).trans h.q1, Nat.lt_of_lt_of_le h.lt hb.size⟩

theorem Bb.within {T lo hi : Nat} {u v : Value} {W W' : World} (h : Bb T u v W) (hw : Within lo hi W W') (hT : T < lo ∨ hi ≤ T) : Bb T u v W' :=
  ⟨(hw.cell (p := ⟨T, 0, none⟩) (by simp; omega)).trans h.q0, (hw.cell (p := ⟨T, 1, none⟩) (by simp; omega)).trans h.q1, by rw [hw.size]; exact h.lt⟩

/-- The boxes of the law's argument (behind w), of the model's answer (T1), of the copy (T2), of the program's answer (T4); where each row lies. -/
structure LC (w : World) (g : Bool) (a : Option Addr) (c : Nat) (zs : List Int) (G : Bool) (Z : List Int) (aw : Option Addr) (cw : Nat) (x0 ag : Option Addr) (cg T1 TE T2 T4 : Nat) (Wsp : World) (X0 ZG : List Int) (W : World) : Prop where
  bx : Ax w (.bool g) (.slice a zs.length c) W
  bw : Bb T1 (.bool G) (.slice aw Z.length cw) W
  bp : Bb T2 (.bool g) (.slice x0 zs.length zs.length) W
  bg : Bb T4 (.bool G) (.slice ag Z.length cg) W
  o0 : w.heap.size < T1
  o1 : T1 < TE
  oE : TE ≤ T2
  o3 : T2 < T4
  rw : RowAt .u32 Wsp aw Z
  rwT : Wsp.heap.size = TE
  rwB : Below TE Wsp W
  r0 : RowIn .u32 W TE T2 x0 X0
  rg : RowIn .u32 W (T2 + 1) T4 ag ZG

section
variable {w : World} {g : Bool} {a : Option Addr} {c : Nat} {zs : List Int} {G : Bool} {Z : List Int} {aw : Option Addr} {cw : Nat} {x0 ag : Option Addr} {cg T1 TE T2 T4 : Nat} {Wsp : World} {X0 ZG : List Int} {W W' W1 : World}

theorem LC.wrow (h : LC w g a c zs G Z aw cw x0 ag cg T1 TE T2 T4 Wsp X0 ZG W) : RowAt .u32 W aw Z := h.rw.later (by rw [h.rwT]; exact h.rwB)

theorem LC.later (h : LC w g a c zs G Z aw cw x0 ag cg T1 TE T2 T4 Wsp X0 ZG W) (hb : Below W.heap.size W W') : LC w g a c zs G Z aw cw x0 ag cg T1 TE T2 T4 Wsp X0 ZG W' := by
  have h1 := h.o1; have hE := h.oE; have h3 := h.o3; have h4 := h.bg.lt
  exact ⟨h.bx.later hb, h.bw.later hb, h.bp.later hb, h.bg.later hb, h.o0, h1, hE, h3, h.rw, h.rwT, h.rwB.trans (hb.mono (by omega)), h.r0.later hb, h.rg.later hb⟩

/-- A write within blocks that hold none of the boxes. -/
theorem LC.turn {lo hi : Nat} (h : LC w g a c zs G Z aw cw x0 ag cg T1 TE T2 T4 Wsp X0 ZG W) (hw : Within lo hi W W') (hT : (lo = TE ∧ hi = T2) ∨ (lo = T2 + 1 ∧ hi = T4))
    {X0' ZG' : List Int} (h0 : RowIn .u32 W' TE T2 x0 X0') (hg' : RowIn .u32 W' (T2 + 1) T4 ag ZG') : LC w g a c zs G Z aw cw x0 ag cg T1 TE T2 T4 Wsp X0' ZG' W' := by
  have h1 := h.o1; have hE := h.oE; have h3 := h.o3; have h00 := h.o0
  have hB := hw.below
  have hx := h.bx.le
  refine ⟨⟨(hw.cell (by simp; omega)).trans h.bx.q0, (hw.cell (by simp; omega)).trans h.bx.q1, by rw [hw.size]; exact hx, h.bx.bel.trans (hB.mono (by omega))⟩, h.bw.within hw (by omega), h.bp.within hw (by omega), h.bg.within hw (by omega), h.o0, h1, hE, h3, h.rw, h.rwT, h.rwB.trans (hB.mono (by omega)), h0, hg'⟩

theorem LC.mark0 (h : LC w g a c zs G Z aw cw x0 ag cg T1 TE T2 T4 Wsp X0 ZG W) {X0' : List Int} (hr : RowIn .u32 W' TE T2 x0 X0') (hw : ∃ W1, Below W.heap.size W W1 ∧ Within TE T2 W1 W') : LC w g a c zs G Z aw cw x0 ag cg T1 TE T2 T4 Wsp X0' ZG W' := by
  obtain ⟨W1, hb, hwi⟩ := hw
  have h2 := h.later hb
  have o1 := h.o1; have oE := h.oE; have o3 := h.o3
  exact h2.turn hwi (.inl ⟨rfl, rfl⟩) hr (h2.rg.apart hwi (by omega))

theorem LC.markg (h : LC w g a c zs G Z aw cw x0 ag cg T1 TE T2 T4 Wsp X0 ZG W) {ZG' : List Int} (hr : RowIn .u32 W' (T2 + 1) T4 ag ZG') (hw : ∃ W1, Below W.heap.size W W1 ∧ Within (T2 + 1) T4 W1 W') : LC w g a c zs G Z aw cw x0 ag cg T1 TE T2 T4 Wsp X0 ZG' W' := by
  obtain ⟨W1, hb, hwi⟩ := hw
  have h2 := h.later hb
  have o1 := h.o1; have oE := h.oE; have o3 := h.o3
  exact h2.turn hwi (.inr ⟨rfl, rfl⟩) (h2.r0.apart hwi (by omega)) hr

theorem LC.held (h : LC w g a c zs G Z aw cw x0 ag cg T1 TE T2 T4 Wsp X0 ZG W) (hb : Below W.heap.size W W') :
    W'.cell? ⟨w.heap.size, 0, none⟩ = some (.bool g) ∧ W'.cell? ⟨w.heap.size, 1, none⟩ = some (.slice a zs.length c) ∧ W'.cell? ⟨T2, 0, none⟩ = some (.bool g) ∧ W'.cell? ⟨T2, 1, none⟩ = some (.slice x0 zs.length zs.length) ∧ Below W.heap.size W W' :=
  ⟨(h.later hb).bx.q0, (h.later hb).bx.q1, (h.later hb).bp.q0, (h.later hb).bp.q1, hb⟩

/-- From the boxes laid one behind the other: the model's answer (in W4), the copy (behind W5), the program's answer (behind W7). -/
theorem LC.start {W4 W5 W7 : World} {t t2 : TypeId} (hx : Ax w (.bool g) (.slice a zs.length c) W4) (hw : Bb T1 (.bool G) (.slice aw Z.length cw) W4) (o0 : w.heap.size < T1) (hr : RowAt .u32 W4 aw Z) (hb5 : Below W4.heap.size W4 W5)
    (hr0 : RowNew .u32 W5 W4.heap.size x0 zs) (hb7 : Below (W5.alloc (.cells #[.bool g, .slice x0 zs.length zs.length] t)).heap.size (W5.alloc (.cells #[.bool g, .slice x0 zs.length zs.length] t)) W7) (hrg : RowNew .u32 W7 (W5.heap.size + 1) ag Z) :
    LC w g a c zs G Z aw cw x0 ag cg T1 W4.heap.size W5.heap.size W7.heap.size W4 zs Z (W7.alloc (.cells #[.bool G, .slice ag Z.length cg] t2)) := by
  have z5 := hb5.size
  have z7 := hb7.size
  simp at z7
  have b57 : Below W5.heap.size W5 (W7.alloc (.cells #[.bool G, .slice ag Z.length cg] t2)) := ((bel0 _ _).trans (hb7.mono (by simp))).alloc (by omega) _
  have b47 : Below W4.heap.size W4 (W7.alloc (.cells #[.bool G, .slice ag Z.length cg] t2)) := hb5.trans (b57.mono (by omega))
  exact ⟨hx.later b47, hw.later b47, ((Bb.start W5 _ _ t).later hb7).later (bel0 _ _), Bb.start W7 _ _ t2, o0, hw.lt, z5, by omega, hr, rfl, b47, hr0.rowIn.later b57, hrg.rowIn.later (bel0 _ _)⟩

end

end Go.Proofs.Ytlbegmepmeimkab
