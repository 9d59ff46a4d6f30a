/-
  What holds of memory while the law of BigParse runs.
-/
import Derived.Test.YtlbegmepmeimkaaResP
import Derived.Test.YtlbegmepmeimkaaBytes
namespace Go.Proofs.Ytlbegmepmeimkaa
open Go.RowKit

/-- The boxes of the model's answer (T1) and of the program's (T2); the copy of the text lies from T1 + 1 to below H2, the program's answer from H2 to below T2. -/
structure LP (w : World) (G : Bool) (Z : List Int) (aw : Option Addr) (cw T1 H2 T2 : Nat) (ag : Option Addr) (cg : Nat) (Wsp : World) (ZG : List Int) (W : World) : Prop where
  bel : Below w.heap.size w W
  w0 : W.cell? ⟨T1, 0, none⟩ = some (.bool G)
  w1 : W.cell? ⟨T1, 1, none⟩ = some (.slice aw Z.length cw)
  g0 : W.cell? ⟨T2, 0, none⟩ = some (.bool G)
  g1 : W.cell? ⟨T2, 1, none⟩ = some (.slice ag Z.length cg)
  o0 : w.heap.size ≤ T1
  o1 : T1 + 1 ≤ H2
  o2 : H2 ≤ T2
  o3 : T2 < W.heap.size
  rw : RowAt .u32 Wsp aw Z
  rwT : Wsp.heap.size = T1
  rwB : Below T1 Wsp W
  rg : RowIn .u32 W H2 T2 ag ZG

section
variable {w : World} {G : Bool} {Z : List Int} {aw : Option Addr} {cw T1 H2 T2 : Nat} {ag : Option Addr} {cg : Nat} {Wsp : World} {ZG ZG' : List Int} {W W' : World}

theorem LP.wrow (h : LP w G Z aw cw T1 H2 T2 ag cg Wsp ZG W) : RowAt .u32 W aw Z := h.rw.later (by rw [h.rwT]; exact h.rwB)

theorem LP.later (h : LP w G Z aw cw T1 H2 T2 ag cg Wsp ZG W) (hb : Below W.heap.size W W') : LP w G Z aw cw T1 H2 T2 ag cg Wsp ZG W' := by
  have o0 := h.o0; have o1 := h.o1; have o2 := h.o2; have o3 := h.o3
  exact ⟨h.bel.trans (hb.mono (by omega)), (hb.cell (by simp; omega)).trans h.w0, (hb.cell (by simp; omega)).trans h.w1, (hb.cell (by simpa using o3)).trans h.g0, (hb.cell (by simpa using o3)).trans h.g1, o0, o1, o2, Nat.lt_of_lt_of_le o3 hb.size, h.rw, h.rwT, h.rwB.trans (hb.mono (by omega)), h.rg.later hb⟩

theorem LP.markx (h : LP w G Z aw cw T1 H2 T2 ag cg Wsp ZG W) (hw : Within (T1 + 1) H2 W W') : LP w G Z aw cw T1 H2 T2 ag cg Wsp ZG W' := by
  have o0 := h.o0; have o1 := h.o1; have o2 := h.o2; have o3 := h.o3
  have hB := hw.below
  exact ⟨h.bel.trans (hB.mono (by omega)), (hw.cell (by simp)).trans h.w0, (hw.cell (by simp)).trans h.w1, (hw.cell (by simp; omega)).trans h.g0, (hw.cell (by simp; omega)).trans h.g1, o0, o1, o2, by rw [hw.size]; exact o3, h.rw, h.rwT, h.rwB.trans (hB.mono (by omega)), h.rg.apart hw (by omega)⟩

theorem LP.markg (h : LP w G Z aw cw T1 H2 T2 ag cg Wsp ZG W) (hr : RowIn .u32 W' H2 T2 ag ZG') (hw : ∃ W1, Below W.heap.size W W1 ∧ Within H2 T2 W1 W') : LP w G Z aw cw T1 H2 T2 ag cg Wsp ZG' W' := by
  obtain ⟨W1, hb, hwi⟩ := hw
  have h := h.later hb
  have o0 := h.o0; have o1 := h.o1; have o2 := h.o2; have o3 := h.o3
  have hB := hwi.below
  exact ⟨h.bel.trans (hB.mono (by omega)), (hwi.cell (by simp; omega)).trans h.w0, (hwi.cell (by simp; omega)).trans h.w1, (hwi.cell (by simp)).trans h.g0, (hwi.cell (by simp)).trans h.g1, o0, o1, o2, by rw [hwi.size]; exact o3, h.rw, h.rwT, h.rwB.trans (hB.mono (by omega)), hr⟩

theorem LP.start {V2 V3 V4 : World} {t t' : TypeId} (hsp : Below w.heap.size w Wsp) (hr : RowAt .u32 Wsp aw Z)
    (hb2 : Below (Wsp.alloc (.cells #[.bool G, .slice aw Z.length cw] t)).heap.size (Wsp.alloc (.cells #[.bool G, .slice aw Z.length cw] t)) V2) (hb3 : Below V2.heap.size V2 V3) (hrg : RowNew .u32 V3 V2.heap.size ag Z)
    (h4 : V4 = V3.alloc (.cells #[.bool G, .slice ag Z.length cg] t')) : LP w G Z aw cw Wsp.heap.size V2.heap.size V3.heap.size ag cg Wsp Z V4 := by
  subst h4
  have z2 := hb2.size
  have z3 := hb3.size
  have z0 := hsp.size
  simp at z2
  have b24 : Below V2.heap.size V2 (V3.alloc (.cells #[.bool G, .slice ag Z.length cg] t')) := hb3.alloc z3 _
  have bs4 : Below Wsp.heap.size Wsp (V3.alloc (.cells #[.bool G, .slice ag Z.length cg] t')) := ((bel0 _ _).trans (hb2.mono (by simp))).trans (b24.mono (by omega))
  have e0 : ∀ j, (V3.alloc (.cells #[.bool G, .slice ag Z.length cg] t')).cell? ⟨Wsp.heap.size, j, none⟩ = #[Value.bool G, .slice aw Z.length cw][j]? := by
    intro j
    rw [b24.cell (by simp; omega), hb2.cell (by simp), World.cell?_alloc_at _ _ _ _ rfl]
  exact ⟨hsp.trans (bs4.mono (by omega)), by rw [e0]; rfl, by rw [e0]; rfl, by simp [go_sem], by simp [go_sem], z0, by omega, z3, by simp, hr, rfl, bs4, hrg.rowIn.later (bel0 _ _)⟩

end

end Go.Proofs.Ytlbegmepmeimkaa
