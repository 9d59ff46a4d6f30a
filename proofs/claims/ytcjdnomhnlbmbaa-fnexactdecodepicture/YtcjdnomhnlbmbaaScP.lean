/-
  Lists of Points as the laws copy, compare and mark them: a list is the row of its numbers, 3 for each.
-/
import Derived.Test.YtcjdnomhnlbmbaaScA
import Derived.Deep.RegionHeld3
import Derived.Laws.MakeOwn
namespace Go.Proofs.Ytcjdnomhnlbmbaa
open Go.RowKit

set_option maxRecDepth 100000 in
set_option maxHeartbeats 2000000 in
theorem eqPoint_same (x0 x1 x2 : Int) (w : World) :
    Calls Try.prog 96 #[.agg #[.int .u32 x0, .int .u32 x1, .int .u32 x2], .agg #[.int .u32 x0, .int .u32 x1, .int .u32 x2]] w fun e w' => e = .returned (.bool true) ∧ Below w.heap.size w w' := by
  go_enter Try.func96, Try.ntmps96
  go_wp2
  go_ret
  exact ⟨rfl, by repeat first | exact Below.refl _ _ | refine Below.setCell ?_ (by simp <;> omega) _ | refine Below.alloc ?_ (by simp <;> omega) _ | refine Below.drew ?_⟩

theorem info_Point : (Try.prog.info? 84).map (fun i => (i.zero, i.size, i.bytes)) = some (some (.agg #[.int .u32 0, .int .u32 0, .int .u32 0]), 3, 12) := by kernel_rfl

theorem make_Point (n : Nat) (hn : n ≤ 1048576) (w : World) : (Instr.makeSlice 49 (.int .i64 (n : Int)) (.int .i64 (n : Int))).run Try.prog w = .ok (.slice (some ⟨w.heap.size, 0, none⟩) n n) (w.alloc (.cells (madeCells #[.int .u32 0, .int .u32 0, .int .u32 0] (n * 3)) 84)) := by
  obtain ⟨i0, hi, hz0, hz1, hz2⟩ := info_parts info_Point
  have h := run_make (P := Try.prog) w 49 84 i0 _ Try.underlying49 hi hz0 .i64 .i64 (n : Int) (n : Int) (by omega) (Int.le_refl _) (by rw [hz2]; omega) (by omega)
  rw [hz1, Int.toNat_natCast] at h
  exact h

theorem rep_Point : (Array.replicate 3 (Value.int .u32 0)) = #[.int .u32 0, .int .u32 0, .int .u32 0] := rfl

set_option maxRecDepth 100000 in
set_option maxHeartbeats 2000000 in
theorem toPointS_any (a : Option Addr) (n c : Nat) (zs : List Int) (w : World) (hn : n ≤ 1048576) (hl : zs.length = n * 3) (hz : RowAt .u32 w a zs) :
    Calls Try.prog 59 #[.slice a n c] w fun e w' => ∃ a', e = .returned (.slice a' n n) ∧ RowNew .u32 w' w.heap.size a' zs ∧ Below w.heap.size w w' := by
  have hmk := make_Point n hn
  have HS : Hid (OwnF (w.alloc (.cells (madeCells #[.int .u32 0, .int .u32 0, .int .u32 0] (n * 3)) 84)) w.heap.size zs 0) := by
    have := OwnF.start w zs 3 84 (by decide)
    rw [hl, rep_Point] at this
    exact this
  have HL : Hid (zs.length = n * 3) := hl
  have HZ : Hid (RowAt .u32 w a zs) := hz
  clear hl hz
  go_enter Try.func59, Try.ntmps59
  go_wp2
  go_loopw [4] (fun si wr => ∃ (i : Nat), i ≤ n ∧ si = .int .i64 i ∧ Hid (OwnF wr w.heap.size zs (i * 3)) ∧ Hid (Below w.heap.size w wr)) (fun si _ => n - (intOf si).toNat)
  case atStart => exact ⟨0, Nat.zero_le _, rfl, by rw [Nat.zero_mul]; exact HS, bel0 _ _⟩
  case round =>
    obtain ⟨i, hi, rfl, hO, hb⟩ := hrel
    clear hmk HS
    by_cases hlt : i < n
    · have hle : ∀ j, j < 3 → i * 3 + j < zs.length := by intro j hj; rw [HL.out]; omega
      obtain ⟨b, off, rfl, hbl, hc⟩ := HZ.out.resolve_left (by intro h; have := hle 0 (by omega); rw [h] at this; simp at this)
      have q0 : wr.cell? ⟨b, off + i * 3, none⟩ = some (.int .u32 (zs.getD (i * 3) 0)) := by
        have := (hb.out.cell (p := ⟨b, off + (i * 3 + 0), none⟩) hbl).trans (hc (i * 3 + 0) (hle 0 (by omega)))
        simpa [Nat.add_assoc] using this
      have q1 : wr.cell? ⟨b, off + i * 3 + 1, none⟩ = some (.int .u32 (zs.getD (i * 3 + 1) 0)) := by
        have := (hb.out.cell (p := ⟨b, off + (i * 3 + 1), none⟩) hbl).trans (hc (i * 3 + 1) (hle 1 (by omega)))
        simpa [Nat.add_assoc] using this
      have q2 : wr.cell? ⟨b, off + i * 3 + 2, none⟩ = some (.int .u32 (zs.getD (i * 3 + 2) 0)) := by
        have := (hb.out.cell (p := ⟨b, off + (i * 3 + 2), none⟩) hbl).trans (hc (i * 3 + 2) (hle 2 (by omega)))
        simpa [Nat.add_assoc] using this
      obtain ⟨y0, e0⟩ := hO.out.cell (by have := hle 0 (by omega); omega) (i * 3) (by have := hle 0 (by omega); omega)
      have f0 := hO.out.free (by have := hle 0 (by omega); omega) (i * 3) (by have := hle 0 (by omega); omega)
      obtain ⟨y1, e1⟩ := hO.out.cell (by have := hle 0 (by omega); omega) (i * 3 + 1) (by have := hle 1 (by omega); omega)
      have f1 := hO.out.free (by have := hle 0 (by omega); omega) (i * 3 + 1) (by have := hle 1 (by omega); omega)
      obtain ⟨y2, e2⟩ := hO.out.cell (by have := hle 0 (by omega); omega) (i * 3 + 2) (by have := hle 2 (by omega); omega)
      have f2 := hO.out.free (by have := hle 0 (by omega); omega) (i * 3 + 2) (by have := hle 2 (by omega); omega)
      have HLE : Hid (∀ j, j < 3 → i * 3 + j < zs.length) := hle
      have hib : (i : Int) < n := by omega
      clear hc hle
      obtain ⟨x0, hx0⟩ : ∃ x, x = zs.getD (i * 3) 0 := ⟨_, rfl⟩
      rw [← hx0] at q0
      obtain ⟨x1, hx1⟩ : ∃ x, x = zs.getD (i * 3 + 1) 0 := ⟨_, rfl⟩
      rw [← hx1] at q1
      obtain ⟨x2, hx2⟩ : ∃ x, x = zs.getD (i * 3 + 2) 0 := ⟨_, rfl⟩
      rw [← hx2] at q2
      have HX : Hid (x0 = zs.getD (i * 3) 0 ∧ x1 = zs.getD (i * 3 + 1) 0 ∧ x2 = zs.getD (i * 3 + 2) 0) := ⟨hx0, hx1, hx2⟩
      clear hx0 hx1 hx2
      go_wp2_with fail
      refine (toPoint_any x0 x1 x2 _).mono ?_
      rintro e w1 ⟨rfl, hb1⟩
      have HB1 : Hid (Below w.heap.size w w1) := hb.out.trans (hb1.mono hb.out.size)
      have hXl : w.heap.size < wr.heap.size := Own.lt hO.out
      have HO1 : Hid (OwnF w1 w.heap.size zs (i * 3)) := hO.out.later hb1
      replace e0 := ((bcell hb1).1 _ _ hXl).trans e0
      replace f0 := ((bcell hb1).2 _ _ hXl).trans f0
      replace e1 := ((bcell hb1).1 _ _ hXl).trans e1
      replace f1 := ((bcell hb1).2 _ _ hXl).trans f1
      replace e2 := ((bcell hb1).1 _ _ hXl).trans e2
      replace f2 := ((bcell hb1).2 _ _ hXl).trans f2
      have HO2 : Hid (OwnF (((w1.setCell ⟨w.heap.size, i * 3, none⟩ (.int .u32 x0)).setCell ⟨w.heap.size, i * 3 + 1, none⟩ (.int .u32 x1)).setCell ⟨w.heap.size, i * 3 + 2, none⟩ (.int .u32 x2)) w.heap.size zs ((i + 1) * 3)) := by
        obtain ⟨hx0, hx1, hx2⟩ := HX.out
        exact ((((HO1.out.stepo (HLE.out 0 (by omega)) (o := i * 3) (by omega) (v := x0) hx0).stepo (HLE.out 1 (by omega)) (o := i * 3 + 1) (by omega) (v := x1) hx1).stepo (HLE.out 2 (by omega)) (o := i * 3 + 2) (by omega) (v := x2) hx2)).cast (by omega)
      have HB2 : Hid (Below w.heap.size w (((w1.setCell ⟨w.heap.size, i * 3, none⟩ (.int .u32 x0)).setCell ⟨w.heap.size, i * 3 + 1, none⟩ (.int .u32 x1)).setCell ⟨w.heap.size, i * 3 + 2, none⟩ (.int .u32 x2))) := (((HB1.out.setCell (p := ⟨w.heap.size, i * 3, none⟩) (Nat.le_refl _) (.int .u32 x0)).setCell (p := ⟨w.heap.size, i * 3 + 1, none⟩) (Nat.le_refl _) (.int .u32 x1)).setCell (p := ⟨w.heap.size, i * 3 + 2, none⟩) (Nat.le_refl _) (.int .u32 x2))
      clear hb1 hb hO HO1 HX HB1 q0 q1 q2
      go_wp2
      go_roundw
      case rel => exact ⟨i + 1, by omega, by go_num, HO2, HB2⟩
      case measure => simp [intOf]; omega
    · have hie : i = n := by omega
      subst hie
      have hw := hO.out
      rw [← HL.out] at hw
      go_wp2
      go_ret
      exact ⟨_, rfl, hw.whole (Nat.le_refl _), hb.out⟩

end Go.Proofs.Ytcjdnomhnlbmbaa
