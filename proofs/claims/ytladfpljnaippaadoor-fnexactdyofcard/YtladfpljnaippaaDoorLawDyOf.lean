/-
  The law of DyOf, walked.
-/
import Derived.Test.YtladfpljnaippaaDoorDyOS
import Derived.Test.YtladfpljnaippaaDoorDyOB
import Derived.Test.YtladfpljnaippaaDoorDyI0Within
import Derived.Test.YtladfpljnaippaaDoorDyMk
namespace Go.Proofs.YtladfpljnaippaaDoor
open Go.RowKit

/-- The model's answer in its box (T1), the program's in its own (T2); where their rows lie. -/
structure LO (w : World) (G : Bool) (Z : List Int) (E : Int) (aw : Option Addr) (cw T1 : Nat) (ag : Option Addr) (cg T2 : Nat) (Wsp : World) (ZG : List Int) (W : World) : Prop where
  w0 : W.cell? ⟨T1, 0, none⟩ = some (.bool G)
  w1 : W.cell? ⟨T1, 1, none⟩ = some (.slice aw Z.length cw)
  we : W.cell? ⟨T1, 2, none⟩ = some (.int .i64 E)
  g0 : W.cell? ⟨T2, 0, none⟩ = some (.bool G)
  g1 : W.cell? ⟨T2, 1, none⟩ = some (.slice ag Z.length cg)
  ge : W.cell? ⟨T2, 2, none⟩ = some (.int .i64 E)
  o1 : w.heap.size ≤ T1
  o2 : T1 + 1 ≤ T2
  o3 : T2 < W.heap.size
  rw : RowAt .u32 Wsp aw Z
  rwT : Wsp.heap.size = T1 + 1
  rwB : Below (T1 + 1) Wsp W
  rg : RowIn .u32 W (T1 + 1) T2 ag ZG
  bel : Below w.heap.size w W

section
variable {w : World} {G : Bool} {Z : List Int} {E : Int} {aw : Option Addr} {cw T1 : Nat} {ag : Option Addr} {cg T2 : Nat} {Wsp : World} {ZG : List Int} {W W' : World}

theorem LO.wrow (h : LO w G Z E aw cw T1 ag cg T2 Wsp ZG W) : RowAt .u32 W aw Z := h.rw.later (by rw [h.rwT]; exact h.rwB)

theorem LO.later (h : LO w G Z E aw cw T1 ag cg T2 Wsp ZG W) (hb : Below W.heap.size W W') : LO w G Z E aw cw T1 ag cg T2 Wsp ZG W' := by
  have o1 := h.o1; have o2 := h.o2; have o3 := h.o3
  exact ⟨(hb.cell (by simp; omega)).trans h.w0, (hb.cell (by simp; omega)).trans h.w1, (hb.cell (by simp; omega)).trans h.we, (hb.cell (by simpa using o3)).trans h.g0, (hb.cell (by simpa using o3)).trans h.g1, (hb.cell (by simpa using o3)).trans h.ge, o1, o2, Nat.lt_of_lt_of_le o3 hb.size, h.rw, h.rwT, h.rwB.trans (hb.mono (by omega)), h.rg.later hb, h.bel.trans (hb.mono (by omega))⟩

theorem LO.mark (h : LO w G Z E aw cw T1 ag cg T2 Wsp ZG W) {ZG' : List Int} (hr : RowIn .u32 W' (T1 + 1) T2 ag ZG') (hw : ∃ W1, Below W.heap.size W W1 ∧ Within (T1 + 1) T2 W1 W') : LO w G Z E aw cw T1 ag cg T2 Wsp ZG' W' := by
  obtain ⟨W1, hb, hwi⟩ := hw
  have h2 := h.later hb
  have o1 := h.o1; have o2 := h.o2; have o3 := h2.o3
  have hB := hwi.below
  exact ⟨(hwi.cell (.inl (by simp))).trans h2.w0, (hwi.cell (.inl (by simp))).trans h2.w1, (hwi.cell (.inl (by simp))).trans h2.we, (hwi.cell (.inr (by simp))).trans h2.g0, (hwi.cell (.inr (by simp))).trans h2.g1, (hwi.cell (.inr (by simp))).trans h2.ge, o1, o2, by rw [hwi.size]; exact o3, h.rw, h.rwT, h2.rwB.trans hB, hr, h2.bel.trans (hB.mono (by omega))⟩

end

theorem LO.start {w W1 W2 : World} {G : Bool} {Z : List Int} {E : Int} {aw ag : Option Addr} {cw cg : Nat} {t t' : TypeId} (hb1 : Below w.heap.size w W1) (hrw : RowAt .u32 W1 aw Z)
    (hb2 : Below (W1.alloc (.cells #[.bool G, .slice aw Z.length cw, .int .i64 E] t)).heap.size (W1.alloc (.cells #[.bool G, .slice aw Z.length cw, .int .i64 E] t)) W2)
    (hrg : RowNew .u32 W2 (W1.alloc (.cells #[.bool G, .slice aw Z.length cw, .int .i64 E] t)).heap.size ag Z) :
    LO w G Z E aw cw W1.heap.size ag cg W2.heap.size (W1.alloc (.cells #[.bool G, .slice aw Z.length cw, .int .i64 E] t)) Z (W2.alloc (.cells #[.bool G, .slice ag Z.length cg, .int .i64 E] t')) := by
  have z1 := hb1.size
  have z2 := hb2.size
  simp at z2
  have e0 : ∀ j, (W2.alloc (.cells #[.bool G, .slice ag Z.length cg, .int .i64 E] t')).cell? ⟨W1.heap.size, j, none⟩ = #[Value.bool G, .slice aw Z.length cw, .int .i64 E][j]? := by
    intro j
    rw [World.cell?_alloc_past _ _ _ (by omega), hb2.cell (by simp), World.cell?_alloc_at _ _ _ _ rfl]
  have hrg' : RowNew .u32 W2 (W1.heap.size + 1) ag Z := by simpa using hrg
  have hb2' : Below (W1.heap.size + 1) (W1.alloc (.cells #[.bool G, .slice aw Z.length cw, .int .i64 E] t)) (W2.alloc (.cells #[.bool G, .slice ag Z.length cg, .int .i64 E] t')) := (hb2.mono (by simp)).alloc (by omega) _
  refine ⟨by rw [e0]; rfl, by rw [e0]; rfl, by rw [e0]; rfl, by simp [go_sem], by simp [go_sem], by simp [go_sem], z1, by omega, by simp, hrw.later (bel0 _ _), by simp, hb2', hrg'.rowIn.later (bel0 _ _), ?_⟩
  exact (hb1.alloc (by omega) _).trans (hb2'.mono (by omega))

set_option maxRecDepth 100000 in
set_option maxHeartbeats 8000000 in
theorem lawDyOf_any (b : Int) (w : World) (h0 : 0 ≤ b) (h1 : b < 4294967296) (hT : Tab w) :
    Calls Tryd.prog 3 #[.int .u32 b] w fun e w' => e = .returned (.bool true) ∧ Below w.heap.size w w' := by
  have HT : Hid (Tab w) := hT
  clear hT
  go_enter Tryd.func3, Tryd.ntmps3
  go_wp2_with fail
  refine (dyOfS_any b _ h0 h1).mono ?_
  rintro e W1 ⟨G, Z, E, K, aw, cw, rfl, hres, hrw, _, hb1⟩
  have HRes : Hid (ResD (fFin b) (atK 100000 (fNum b) (fExp b - 150)) G Z E K) := hres
  have hZl : Z.length ≤ 512 := hres.len.1
  have HB1 : Hid (Below w.heap.size w W1) := hb1
  have HRw : Hid (RowAt .u32 W1 aw Z) := hrw
  clear hres hrw hb1
  go_wp2_with fail
  refine (dyOfI_any b _ h0 h1 ((HT.out.later HB1.out).later (bel0 _ _))).mono ?_
  rintro e W2 ⟨G2, Z2, E2, K2, ag, cg, rfl, hres2, hrg, hb2⟩
  obtain ⟨eG, eZ, eE, eK⟩ := hres2.inj HRes.out
  subst eG eZ eE eK
  have F3 : Hid (∀ t', LO w G2 Z2 E2 aw cw W1.heap.size ag cg W2.heap.size (W1.alloc (.cells #[.bool G2, .slice aw Z2.length cw, .int .i64 E2] 27)) Z2 (W2.alloc (.cells #[.bool G2, .slice ag Z2.length cg, .int .i64 E2] t'))) := fun t' => LO.start HB1.out HRw.out hb2 hrg
  have s0 := (F3.out 27).w0
  have s1 := (F3.out 27).w1
  have se := (F3.out 27).we
  have zT : W1.heap.size < W2.heap.size := by have := (F3.out 27).o2; omega
  rw [World.cell?_alloc_past _ _ _ zT] at s0 s1 se
  have hKK : (K2 != K2) = false := by simp
  clear hb2 hrg hres2
  go_wp2_with fail
  refine (eq2_any _ _ _ _ _ Z2 _ _ (by unfold maxLen; omega) (F3.out _).rg.row (F3.out _).wrow).mono ?_
  rintro e W3 ⟨rfl, hb3⟩
  have F4 : Hid (LO w G2 Z2 E2 aw cw W1.heap.size ag cg W2.heap.size (W1.alloc (.cells #[.bool G2, .slice aw Z2.length cw, .int .i64 E2] 27)) Z2 W3) := (F3.out _).later hb3
  clear hb3 s0 s1 se F3
  have s2 := F4.out.g0
  have s3 := F4.out.g1
  have sf := F4.out.ge
  go_wp2_with fail
  refine (mark2_any G2 ag _ Z2 E2 1 _ _ _ (by omega) (by decide) (by decide) F4.out.rg).mono ?_
  rintro e W5 ⟨rfl, hr5, hw5⟩
  have F5 : Hid (LO w G2 Z2 E2 aw cw W1.heap.size ag cg W2.heap.size (W1.alloc (.cells #[.bool G2, .slice aw Z2.length cw, .int .i64 E2] 27)) (marksL 1 Z2.length) W5) := F4.out.mark hr5 hw5
  clear hr5 hw5 s2 s3 sf F4
  have s2 := F5.out.g0
  have s3 := F5.out.g1
  have sf := F5.out.ge
  go_wp2_with fail
  refine (held2_any G2 ag _ Z2.length E2 1 _ (by omega) (by decide) (by decide) F5.out.rg.row).mono ?_
  rintro e W6 ⟨rfl, hb6⟩
  have F6 : Hid (LO w G2 Z2 E2 aw cw W1.heap.size ag cg W2.heap.size (W1.alloc (.cells #[.bool G2, .slice aw Z2.length cw, .int .i64 E2] 27)) (marksL 1 Z2.length) W6) := F5.out.later hb6
  have hq0 : ¬ (1 : Int) + Z2.length < 0 := by omega
  have hqq : ((1 : Int) + Z2.length != 1 + Z2.length) = false := by simp
  clear hb6 s2 s3 sf F5
  go_wp2_with fail
  refine (dyOfI_any b _ h0 h1 (HT.out.later F6.out.bel)).mono ?_
  rintro e W7 ⟨G7, Z7, E7, K7, a7, c7, rfl, hres7, hr7, hb7⟩
  obtain ⟨eG, eZ, eE, eK⟩ := hres7.inj HRes.out
  subst eG eZ eE eK
  have F7 : Hid (LO w G7 Z7 E7 aw cw W1.heap.size ag cg W2.heap.size (W1.alloc (.cells #[.bool G7, .slice aw Z7.length cw, .int .i64 E7] 27)) (marksL 1 Z7.length) W7) := F6.out.later hb7
  have R7 : Hid (RowAt .u32 W7 a7 Z7) := hr7.row
  have s0 := F7.out.w0
  have s1 := F7.out.w1
  have se := F7.out.we
  have zz : W1.heap.size < W7.heap.size := by have := F7.out.o2; have := F7.out.o3; omega
  clear hb7 hr7 hres7 F6
  go_wp2_with fail
  refine (eq2_any _ _ _ _ _ Z7 _ _ (by unfold maxLen; omega) (R7.out.later (bel0 _ _)) (F7.out.wrow.later (bel0 _ _))).mono ?_
  rintro e W8 ⟨rfl, hb8⟩
  have HB : Hid (Below w.heap.size w W8) := (F7.out.bel.alloc F7.out.bel.size _).trans (hb8.mono (by have := F7.out.bel.size; simp; omega))
  clear hb8 s0 s1 se
  go_wp2
  go_ret
  exact ⟨rfl, HB.out⟩

end Go.Proofs.YtladfpljnaippaaDoor
