/-
  Lists of Tris as the laws copy, compare and mark them: a list is the row of its numbers, 9 for each.
-/
import Derived.Test.YtcjdnomhnlbmbaaScA
import Derived.Deep.RegionHeld3
import Derived.Laws.MakeOwn
namespace Go.Proofs.Ytcjdnomhnlbmbaa
open Go.RowKit

set_option maxRecDepth 100000 in
set_option maxHeartbeats 2000000 in
theorem eqTri_same (x0 x1 x2 x3 x4 x5 x6 x7 x8 : Int) (w : World) :
    Calls Try.prog 94 #[.agg #[.int .u32 x0, .int .u32 x1, .int .u32 x2, .int .u32 x3, .int .u32 x4, .int .u32 x5, .int .u32 x6, .int .u32 x7, .int .u32 x8], .agg #[.int .u32 x0, .int .u32 x1, .int .u32 x2, .int .u32 x3, .int .u32 x4, .int .u32 x5, .int .u32 x6, .int .u32 x7, .int .u32 x8]] w fun e w' => e = .returned (.bool true) ∧ Below w.heap.size w w' := by
  go_enter Try.func94, Try.ntmps94
  go_wp2
  go_ret
  exact ⟨rfl, by repeat first | exact Below.refl _ _ | refine Below.setCell ?_ (by simp <;> omega) _ | refine Below.alloc ?_ (by simp <;> omega) _ | refine Below.drew ?_⟩

theorem info_Tri : (Try.prog.info? 99).map (fun i => (i.zero, i.size, i.bytes)) = some (some (.agg #[.int .u32 0, .int .u32 0, .int .u32 0, .int .u32 0, .int .u32 0, .int .u32 0, .int .u32 0, .int .u32 0, .int .u32 0]), 9, 36) := by kernel_rfl

theorem make_Tri (n : Nat) (hn : n ≤ 1048576) (w : World) : (Instr.makeSlice 47 (.int .i64 (n : Int)) (.int .i64 (n : Int))).run Try.prog w = .ok (.slice (some ⟨w.heap.size, 0, none⟩) n n) (w.alloc (.cells (madeCells #[.int .u32 0, .int .u32 0, .int .u32 0, .int .u32 0, .int .u32 0, .int .u32 0, .int .u32 0, .int .u32 0, .int .u32 0] (n * 9)) 99)) := by
  obtain ⟨i0, hi, hz0, hz1, hz2⟩ := info_parts info_Tri
  have h := run_make (P := Try.prog) w 47 99 i0 _ Try.underlying47 hi hz0 .i64 .i64 (n : Int) (n : Int) (by omega) (Int.le_refl _) (by rw [hz2]; omega) (by omega)
  rw [hz1, Int.toNat_natCast] at h
  exact h

theorem rep_Tri : (Array.replicate 9 (Value.int .u32 0)) = #[.int .u32 0, .int .u32 0, .int .u32 0, .int .u32 0, .int .u32 0, .int .u32 0, .int .u32 0, .int .u32 0, .int .u32 0] := rfl

set_option maxRecDepth 100000 in
set_option maxHeartbeats 2000000 in
theorem toTriS_any (a : Option Addr) (n c : Nat) (zs : List Int) (w : World) (hn : n ≤ 1048576) (hl : zs.length = n * 9) (hz : RowAt .u32 w a zs) :
    Calls Try.prog 57 #[.slice a n c] w fun e w' => ∃ a', e = .returned (.slice a' n n) ∧ RowNew .u32 w' w.heap.size a' zs ∧ Below w.heap.size w w' := by
  have hmk := make_Tri n hn
  have HS : Hid (OwnF (w.alloc (.cells (madeCells #[.int .u32 0, .int .u32 0, .int .u32 0, .int .u32 0, .int .u32 0, .int .u32 0, .int .u32 0, .int .u32 0, .int .u32 0] (n * 9)) 99)) w.heap.size zs 0) := by
    have := OwnF.start w zs 9 99 (by decide)
    rw [hl, rep_Tri] at this
    exact this
  have HL : Hid (zs.length = n * 9) := hl
  have HZ : Hid (RowAt .u32 w a zs) := hz
  clear hl hz
  go_enter Try.func57, Try.ntmps57
  go_wp2
  go_loopw [4] (fun si wr => ∃ (i : Nat), i ≤ n ∧ si = .int .i64 i ∧ Hid (OwnF wr w.heap.size zs (i * 9)) ∧ Hid (Below w.heap.size w wr)) (fun si _ => n - (intOf si).toNat)
  case atStart => exact ⟨0, Nat.zero_le _, rfl, by rw [Nat.zero_mul]; exact HS, bel0 _ _⟩
  case round =>
    obtain ⟨i, hi, rfl, hO, hb⟩ := hrel
    clear hmk HS
    by_cases hlt : i < n
    · have hle : ∀ j, j < 9 → i * 9 + j < zs.length := by intro j hj; rw [HL.out]; omega
      obtain ⟨b, off, rfl, hbl, hc⟩ := HZ.out.resolve_left (by intro h; have := hle 0 (by omega); rw [h] at this; simp at this)
      have q0 : wr.cell? ⟨b, off + i * 9, none⟩ = some (.int .u32 (zs.getD (i * 9) 0)) := by
        have := (hb.out.cell (p := ⟨b, off + (i * 9 + 0), none⟩) hbl).trans (hc (i * 9 + 0) (hle 0 (by omega)))
        simpa [Nat.add_assoc] using this
      have q1 : wr.cell? ⟨b, off + i * 9 + 1, none⟩ = some (.int .u32 (zs.getD (i * 9 + 1) 0)) := by
        have := (hb.out.cell (p := ⟨b, off + (i * 9 + 1), none⟩) hbl).trans (hc (i * 9 + 1) (hle 1 (by omega)))
        simpa [Nat.add_assoc] using this
      have q2 : wr.cell? ⟨b, off + i * 9 + 2, none⟩ = some (.int .u32 (zs.getD (i * 9 + 2) 0)) := by
        have := (hb.out.cell (p := ⟨b, off + (i * 9 + 2), none⟩) hbl).trans (hc (i * 9 + 2) (hle 2 (by omega)))
        simpa [Nat.add_assoc] using this
      have q3 : wr.cell? ⟨b, off + i * 9 + 3, none⟩ = some (.int .u32 (zs.getD (i * 9 + 3) 0)) := by
        have := (hb.out.cell (p := ⟨b, off + (i * 9 + 3), none⟩) hbl).trans (hc (i * 9 + 3) (hle 3 (by omega)))
        simpa [Nat.add_assoc] using this
      have q4 : wr.cell? ⟨b, off + i * 9 + 4, none⟩ = some (.int .u32 (zs.getD (i * 9 + 4) 0)) := by
        have := (hb.out.cell (p := ⟨b, off + (i * 9 + 4), none⟩) hbl).trans (hc (i * 9 + 4) (hle 4 (by omega)))
        simpa [Nat.add_assoc] using this
      have q5 : wr.cell? ⟨b, off + i * 9 + 5, none⟩ = some (.int .u32 (zs.getD (i * 9 + 5) 0)) := by
        have := (hb.out.cell (p := ⟨b, off + (i * 9 + 5), none⟩) hbl).trans (hc (i * 9 + 5) (hle 5 (by omega)))
        simpa [Nat.add_assoc] using this
      have q6 : wr.cell? ⟨b, off + i * 9 + 6, none⟩ = some (.int .u32 (zs.getD (i * 9 + 6) 0)) := by
        have := (hb.out.cell (p := ⟨b, off + (i * 9 + 6), none⟩) hbl).trans (hc (i * 9 + 6) (hle 6 (by omega)))
        simpa [Nat.add_assoc] using this
      have q7 : wr.cell? ⟨b, off + i * 9 + 7, none⟩ = some (.int .u32 (zs.getD (i * 9 + 7) 0)) := by
        have := (hb.out.cell (p := ⟨b, off + (i * 9 + 7), none⟩) hbl).trans (hc (i * 9 + 7) (hle 7 (by omega)))
        simpa [Nat.add_assoc] using this
      have q8 : wr.cell? ⟨b, off + i * 9 + 8, none⟩ = some (.int .u32 (zs.getD (i * 9 + 8) 0)) := by
        have := (hb.out.cell (p := ⟨b, off + (i * 9 + 8), none⟩) hbl).trans (hc (i * 9 + 8) (hle 8 (by omega)))
        simpa [Nat.add_assoc] using this
      obtain ⟨y0, e0⟩ := hO.out.cell (by have := hle 0 (by omega); omega) (i * 9) (by have := hle 0 (by omega); omega)
      have f0 := hO.out.free (by have := hle 0 (by omega); omega) (i * 9) (by have := hle 0 (by omega); omega)
      obtain ⟨y1, e1⟩ := hO.out.cell (by have := hle 0 (by omega); omega) (i * 9 + 1) (by have := hle 1 (by omega); omega)
      have f1 := hO.out.free (by have := hle 0 (by omega); omega) (i * 9 + 1) (by have := hle 1 (by omega); omega)
      obtain ⟨y2, e2⟩ := hO.out.cell (by have := hle 0 (by omega); omega) (i * 9 + 2) (by have := hle 2 (by omega); omega)
      have f2 := hO.out.free (by have := hle 0 (by omega); omega) (i * 9 + 2) (by have := hle 2 (by omega); omega)
      obtain ⟨y3, e3⟩ := hO.out.cell (by have := hle 0 (by omega); omega) (i * 9 + 3) (by have := hle 3 (by omega); omega)
      have f3 := hO.out.free (by have := hle 0 (by omega); omega) (i * 9 + 3) (by have := hle 3 (by omega); omega)
      obtain ⟨y4, e4⟩ := hO.out.cell (by have := hle 0 (by omega); omega) (i * 9 + 4) (by have := hle 4 (by omega); omega)
      have f4 := hO.out.free (by have := hle 0 (by omega); omega) (i * 9 + 4) (by have := hle 4 (by omega); omega)
      obtain ⟨y5, e5⟩ := hO.out.cell (by have := hle 0 (by omega); omega) (i * 9 + 5) (by have := hle 5 (by omega); omega)
      have f5 := hO.out.free (by have := hle 0 (by omega); omega) (i * 9 + 5) (by have := hle 5 (by omega); omega)
      obtain ⟨y6, e6⟩ := hO.out.cell (by have := hle 0 (by omega); omega) (i * 9 + 6) (by have := hle 6 (by omega); omega)
      have f6 := hO.out.free (by have := hle 0 (by omega); omega) (i * 9 + 6) (by have := hle 6 (by omega); omega)
      obtain ⟨y7, e7⟩ := hO.out.cell (by have := hle 0 (by omega); omega) (i * 9 + 7) (by have := hle 7 (by omega); omega)
      have f7 := hO.out.free (by have := hle 0 (by omega); omega) (i * 9 + 7) (by have := hle 7 (by omega); omega)
      obtain ⟨y8, e8⟩ := hO.out.cell (by have := hle 0 (by omega); omega) (i * 9 + 8) (by have := hle 8 (by omega); omega)
      have f8 := hO.out.free (by have := hle 0 (by omega); omega) (i * 9 + 8) (by have := hle 8 (by omega); omega)
      have HLE : Hid (∀ j, j < 9 → i * 9 + j < zs.length) := hle
      have hib : (i : Int) < n := by omega
      clear hc hle
      obtain ⟨x0, hx0⟩ : ∃ x, x = zs.getD (i * 9) 0 := ⟨_, rfl⟩
      rw [← hx0] at q0
      obtain ⟨x1, hx1⟩ : ∃ x, x = zs.getD (i * 9 + 1) 0 := ⟨_, rfl⟩
      rw [← hx1] at q1
      obtain ⟨x2, hx2⟩ : ∃ x, x = zs.getD (i * 9 + 2) 0 := ⟨_, rfl⟩
      rw [← hx2] at q2
      obtain ⟨x3, hx3⟩ : ∃ x, x = zs.getD (i * 9 + 3) 0 := ⟨_, rfl⟩
      rw [← hx3] at q3
      obtain ⟨x4, hx4⟩ : ∃ x, x = zs.getD (i * 9 + 4) 0 := ⟨_, rfl⟩
      rw [← hx4] at q4
      obtain ⟨x5, hx5⟩ : ∃ x, x = zs.getD (i * 9 + 5) 0 := ⟨_, rfl⟩
      rw [← hx5] at q5
      obtain ⟨x6, hx6⟩ : ∃ x, x = zs.getD (i * 9 + 6) 0 := ⟨_, rfl⟩
      rw [← hx6] at q6
      obtain ⟨x7, hx7⟩ : ∃ x, x = zs.getD (i * 9 + 7) 0 := ⟨_, rfl⟩
      rw [← hx7] at q7
      obtain ⟨x8, hx8⟩ : ∃ x, x = zs.getD (i * 9 + 8) 0 := ⟨_, rfl⟩
      rw [← hx8] at q8
      have HX : Hid (x0 = zs.getD (i * 9) 0 ∧ x1 = zs.getD (i * 9 + 1) 0 ∧ x2 = zs.getD (i * 9 + 2) 0 ∧ x3 = zs.getD (i * 9 + 3) 0 ∧ x4 = zs.getD (i * 9 + 4) 0 ∧ x5 = zs.getD (i * 9 + 5) 0 ∧ x6 = zs.getD (i * 9 + 6) 0 ∧ x7 = zs.getD (i * 9 + 7) 0 ∧ x8 = zs.getD (i * 9 + 8) 0) := ⟨hx0, hx1, hx2, hx3, hx4, hx5, hx6, hx7, hx8⟩
      clear hx0 hx1 hx2 hx3 hx4 hx5 hx6 hx7 hx8
      go_wp2_with fail
      refine (toTri_any x0 x1 x2 x3 x4 x5 x6 x7 x8 _).mono ?_
      rintro e w1 ⟨rfl, hb1⟩
      have HB1 : Hid (Below w.heap.size w w1) := hb.out.trans (hb1.mono hb.out.size)
      have hXl : w.heap.size < wr.heap.size := Own.lt hO.out
      have HO1 : Hid (OwnF w1 w.heap.size zs (i * 9)) := hO.out.later hb1
      replace e0 := ((bcell hb1).1 _ _ hXl).trans e0
      replace f0 := ((bcell hb1).2 _ _ hXl).trans f0
      replace e1 := ((bcell hb1).1 _ _ hXl).trans e1
      replace f1 := ((bcell hb1).2 _ _ hXl).trans f1
      replace e2 := ((bcell hb1).1 _ _ hXl).trans e2
      replace f2 := ((bcell hb1).2 _ _ hXl).trans f2
      replace e3 := ((bcell hb1).1 _ _ hXl).trans e3
      replace f3 := ((bcell hb1).2 _ _ hXl).trans f3
      replace e4 := ((bcell hb1).1 _ _ hXl).trans e4
      replace f4 := ((bcell hb1).2 _ _ hXl).trans f4
      replace e5 := ((bcell hb1).1 _ _ hXl).trans e5
      replace f5 := ((bcell hb1).2 _ _ hXl).trans f5
      replace e6 := ((bcell hb1).1 _ _ hXl).trans e6
      replace f6 := ((bcell hb1).2 _ _ hXl).trans f6
      replace e7 := ((bcell hb1).1 _ _ hXl).trans e7
      replace f7 := ((bcell hb1).2 _ _ hXl).trans f7
      replace e8 := ((bcell hb1).1 _ _ hXl).trans e8
      replace f8 := ((bcell hb1).2 _ _ hXl).trans f8
      have HO2 : Hid (OwnF (((((((((w1.setCell ⟨w.heap.size, i * 9, none⟩ (.int .u32 x0)).setCell ⟨w.heap.size, i * 9 + 1, none⟩ (.int .u32 x1)).setCell ⟨w.heap.size, i * 9 + 2, none⟩ (.int .u32 x2)).setCell ⟨w.heap.size, i * 9 + 3, none⟩ (.int .u32 x3)).setCell ⟨w.heap.size, i * 9 + 4, none⟩ (.int .u32 x4)).setCell ⟨w.heap.size, i * 9 + 5, none⟩ (.int .u32 x5)).setCell ⟨w.heap.size, i * 9 + 6, none⟩ (.int .u32 x6)).setCell ⟨w.heap.size, i * 9 + 7, none⟩ (.int .u32 x7)).setCell ⟨w.heap.size, i * 9 + 8, none⟩ (.int .u32 x8)) w.heap.size zs ((i + 1) * 9)) := by
        obtain ⟨hx0, hx1, hx2, hx3, hx4, hx5, hx6, hx7, hx8⟩ := HX.out
        exact ((((((((((HO1.out.stepo (HLE.out 0 (by omega)) (o := i * 9) (by omega) (v := x0) hx0).stepo (HLE.out 1 (by omega)) (o := i * 9 + 1) (by omega) (v := x1) hx1).stepo (HLE.out 2 (by omega)) (o := i * 9 + 2) (by omega) (v := x2) hx2).stepo (HLE.out 3 (by omega)) (o := i * 9 + 3) (by omega) (v := x3) hx3).stepo (HLE.out 4 (by omega)) (o := i * 9 + 4) (by omega) (v := x4) hx4).stepo (HLE.out 5 (by omega)) (o := i * 9 + 5) (by omega) (v := x5) hx5).stepo (HLE.out 6 (by omega)) (o := i * 9 + 6) (by omega) (v := x6) hx6).stepo (HLE.out 7 (by omega)) (o := i * 9 + 7) (by omega) (v := x7) hx7).stepo (HLE.out 8 (by omega)) (o := i * 9 + 8) (by omega) (v := x8) hx8)).cast (by omega)
      have HB2 : Hid (Below w.heap.size w (((((((((w1.setCell ⟨w.heap.size, i * 9, none⟩ (.int .u32 x0)).setCell ⟨w.heap.size, i * 9 + 1, none⟩ (.int .u32 x1)).setCell ⟨w.heap.size, i * 9 + 2, none⟩ (.int .u32 x2)).setCell ⟨w.heap.size, i * 9 + 3, none⟩ (.int .u32 x3)).setCell ⟨w.heap.size, i * 9 + 4, none⟩ (.int .u32 x4)).setCell ⟨w.heap.size, i * 9 + 5, none⟩ (.int .u32 x5)).setCell ⟨w.heap.size, i * 9 + 6, none⟩ (.int .u32 x6)).setCell ⟨w.heap.size, i * 9 + 7, none⟩ (.int .u32 x7)).setCell ⟨w.heap.size, i * 9 + 8, none⟩ (.int .u32 x8))) := (((((((((HB1.out.setCell (p := ⟨w.heap.size, i * 9, none⟩) (Nat.le_refl _) (.int .u32 x0)).setCell (p := ⟨w.heap.size, i * 9 + 1, none⟩) (Nat.le_refl _) (.int .u32 x1)).setCell (p := ⟨w.heap.size, i * 9 + 2, none⟩) (Nat.le_refl _) (.int .u32 x2)).setCell (p := ⟨w.heap.size, i * 9 + 3, none⟩) (Nat.le_refl _) (.int .u32 x3)).setCell (p := ⟨w.heap.size, i * 9 + 4, none⟩) (Nat.le_refl _) (.int .u32 x4)).setCell (p := ⟨w.heap.size, i * 9 + 5, none⟩) (Nat.le_refl _) (.int .u32 x5)).setCell (p := ⟨w.heap.size, i * 9 + 6, none⟩) (Nat.le_refl _) (.int .u32 x6)).setCell (p := ⟨w.heap.size, i * 9 + 7, none⟩) (Nat.le_refl _) (.int .u32 x7)).setCell (p := ⟨w.heap.size, i * 9 + 8, none⟩) (Nat.le_refl _) (.int .u32 x8))
      clear hb1 hb hO HO1 HX HB1 q0 q1 q2 q3 q4 q5 q6 q7 q8
      go_wp2
      go_roundw
      case rel => exact ⟨i + 1, by omega, by go_num, HO2, HB2⟩
      case measure => simp [intOf]; omega
    · have hie : i = n := by omega
      subst hie
      have hw := hO.out
      rw [← HL.out] at hw
      go_wp2
      go_ret
      exact ⟨_, rfl, hw.whole (Nat.le_refl _), hb.out⟩

end Go.Proofs.Ytcjdnomhnlbmbaa
