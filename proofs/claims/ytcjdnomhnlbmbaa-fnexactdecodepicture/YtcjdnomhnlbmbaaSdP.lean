/-
  Lists of Points: equality, marks.
-/
import Derived.Test.YtcjdnomhnlbmbaaScP
namespace Go.Proofs.Ytcjdnomhnlbmbaa
open Go.RowKit

theorem lastPoint {p0 p1 p2 p3 p4 p5 q : Prop} (h : p0 ∧ p1 ∧ p2 ∧ p3 ∧ p4 ∧ p5 ∧ q) : q := by
  obtain ⟨_, _, _, _, _, _, h⟩ := h
  exact h

set_option maxRecDepth 100000 in
set_option maxHeartbeats 4000000 in
theorem eqPointS_same (a a1 : Option Addr) (n c c1 : Nat) (zs : List Int) (w : World) (hn : n ≤ 1048576) (hl : zs.length = n * 3) (hz : RowAt .u32 w a zs) (hz1 : RowAt .u32 w a1 zs) :
    Calls Try.prog 65 #[.slice a n c, .slice a1 n c1] w fun e w' => e = .returned (.bool true) ∧ Below w.heap.size w w' := by
  have HL : Hid (zs.length = n * 3) := hl
  have HZ : Hid (RowAt .u32 w a zs) := hz
  have HZ1 : Hid (RowAt .u32 w a1 zs) := hz1
  clear hl hz hz1
  go_enter Try.func65, Try.ntmps65
  go_wp2
  go_loopw [5] (fun si wr => ∃ (i : Nat), i ≤ n ∧ si = .int .i64 i ∧ Hid (Below w.heap.size w wr)) (fun si _ => n - (intOf si).toNat)
  case atStart => exact ⟨0, Nat.zero_le _, rfl, Below.refl _ _⟩
  case round =>
    obtain ⟨i, hi, rfl, hb⟩ := hrel
    by_cases hlt : i < n
    · have hle : ∀ j, j < 3 → i * 3 + j < zs.length := by intro j hj; rw [HL.out]; omega
      obtain ⟨b, off, rfl, hbl, hc⟩ := HZ.out.resolve_left (by intro h; have := hle 0 (by omega); rw [h] at this; simp at this)
      obtain ⟨b1, off1, rfl, hbl1, hc1⟩ := HZ1.out.resolve_left (by intro h; have := hle 0 (by omega); rw [h] at this; simp at this)
      obtain ⟨x0, hx0⟩ : ∃ x, x = zs.getD (i * 3) 0 := ⟨_, rfl⟩
      have q0 : wr.cell? ⟨b, off + i * 3, none⟩ = some (.int .u32 x0) := by
        have := (hb.out.cell (p := ⟨b, off + (i * 3 + 0), none⟩) hbl).trans (hc (i * 3 + 0) (hle 0 (by omega)))
        rw [hx0]
        simpa [Nat.add_assoc] using this
      have p0 : wr.cell? ⟨b1, off1 + i * 3, none⟩ = some (.int .u32 x0) := by
        have := (hb.out.cell (p := ⟨b1, off1 + (i * 3 + 0), none⟩) hbl1).trans (hc1 (i * 3 + 0) (hle 0 (by omega)))
        rw [hx0]
        simpa [Nat.add_assoc] using this
      obtain ⟨x1, hx1⟩ : ∃ x, x = zs.getD (i * 3 + 1) 0 := ⟨_, rfl⟩
      have q1 : wr.cell? ⟨b, off + i * 3 + 1, none⟩ = some (.int .u32 x1) := by
        have := (hb.out.cell (p := ⟨b, off + (i * 3 + 1), none⟩) hbl).trans (hc (i * 3 + 1) (hle 1 (by omega)))
        rw [hx1]
        simpa [Nat.add_assoc] using this
      have p1 : wr.cell? ⟨b1, off1 + i * 3 + 1, none⟩ = some (.int .u32 x1) := by
        have := (hb.out.cell (p := ⟨b1, off1 + (i * 3 + 1), none⟩) hbl1).trans (hc1 (i * 3 + 1) (hle 1 (by omega)))
        rw [hx1]
        simpa [Nat.add_assoc] using this
      obtain ⟨x2, hx2⟩ : ∃ x, x = zs.getD (i * 3 + 2) 0 := ⟨_, rfl⟩
      have q2 : wr.cell? ⟨b, off + i * 3 + 2, none⟩ = some (.int .u32 x2) := by
        have := (hb.out.cell (p := ⟨b, off + (i * 3 + 2), none⟩) hbl).trans (hc (i * 3 + 2) (hle 2 (by omega)))
        rw [hx2]
        simpa [Nat.add_assoc] using this
      have p2 : wr.cell? ⟨b1, off1 + i * 3 + 2, none⟩ = some (.int .u32 x2) := by
        have := (hb.out.cell (p := ⟨b1, off1 + (i * 3 + 2), none⟩) hbl1).trans (hc1 (i * 3 + 2) (hle 2 (by omega)))
        rw [hx2]
        simpa [Nat.add_assoc] using this
      have hbl2 : b < wr.heap.size := Nat.lt_of_lt_of_le hbl hb.out.size
      have hbl3 : b1 < wr.heap.size := Nat.lt_of_lt_of_le hbl1 hb.out.size
      have HH : Hid (∀ w', Below wr.heap.size wr w' → w'.cell? ⟨b, off + i * 3, none⟩ = some (.int .u32 x0) ∧ w'.cell? ⟨b, off + i * 3 + 1, none⟩ = some (.int .u32 x1) ∧ w'.cell? ⟨b, off + i * 3 + 2, none⟩ = some (.int .u32 x2) ∧ w'.cell? ⟨b1, off1 + i * 3, none⟩ = some (.int .u32 x0) ∧ w'.cell? ⟨b1, off1 + i * 3 + 1, none⟩ = some (.int .u32 x1) ∧ w'.cell? ⟨b1, off1 + i * 3 + 2, none⟩ = some (.int .u32 x2) ∧ Below wr.heap.size wr w') := by
        intro w' hw
        exact ⟨((bcell hw).1 _ _ hbl2).trans q0, ((bcell hw).1 _ _ hbl2).trans q1, ((bcell hw).1 _ _ hbl2).trans q2, ((bcell hw).1 _ _ hbl3).trans p0, ((bcell hw).1 _ _ hbl3).trans p1, ((bcell hw).1 _ _ hbl3).trans p2, hw⟩
      have hib : (i : Int) < n := by omega
      clear hc hc1 hle hbl hbl1 hbl2 hbl3 hx0 q0 p0 hx1 q1 p1 hx2 q2 p2
      go_wp2
      go_region_held3 (fun w' => w'.cell? ⟨b, off + i * 3, none⟩ = some (.int .u32 x0) ∧ w'.cell? ⟨b, off + i * 3 + 1, none⟩ = some (.int .u32 x1) ∧ w'.cell? ⟨b, off + i * 3 + 2, none⟩ = some (.int .u32 x2) ∧ w'.cell? ⟨b1, off1 + i * 3, none⟩ = some (.int .u32 x0) ∧ w'.cell? ⟨b1, off1 + i * 3 + 1, none⟩ = some (.int .u32 x1) ∧ w'.cell? ⟨b1, off1 + i * 3 + 2, none⟩ = some (.int .u32 x2) ∧ Below wr.heap.size wr w')
        (first | exact HH.out _ (Below.refl _ _).drew | exact HH.out _ (by assumption))
        (first | (go_at_call 96; refine (eqPoint_same x0 x1 x2 _).mono ?_; rintro e w1 ⟨rfl, hb1⟩; have hB1 : Below wr.heap.size wr w1 := Below.trans (lastPoint (by assumption)) (Below.mono hb1 (Below.size (lastPoint (by assumption))))))
      have HB1 : Hid (Below w.heap.size w w1) := hb.out.trans (hB1.mono hb.out.size)
      clear hb1 hB1 hb HH
      go_wp2
      go_roundw
      case rel => exact ⟨i + 1, by omega, by go_num, HB1⟩
      case measure => simp [intOf]; omega
    · go_wp2
      go_ret
      exact ⟨rfl, hb.out⟩

set_option maxRecDepth 100000 in
set_option maxHeartbeats 4000000 in
theorem markPointS_any (a : Option Addr) (n c : Nat) (zs : List Int) (k0 : Int) (w : World) (lo hi : Nat) (hn : n ≤ 1048576) (h0 : 1 ≤ k0) (h1 : k0 ≤ 33554432) (hl : zs.length = n * 3) (hz : RowIn .u32 w lo hi a zs) :
    Calls Try.prog 72 #[.slice a n c, .int .i64 k0] w fun e w' => e = .returned (.int .i64 (k0 + zs.length)) ∧ RowIn .u32 w' lo hi a (marksL k0 zs.length) ∧ Within lo hi w w' := by
  by_cases hn0 : n = 0
  · subst hn0
    have : zs = [] := List.length_eq_zero_iff.1 (by omega)
    subst this
    go_enter Try.func72, Try.ntmps72
    go_wp2
    go_loop [1, 5] (fun k i => k = .int .i64 k0 ∧ i = .int .i64 0) (fun _ _ => 0)
    case atStart => exact ⟨rfl, rfl⟩
    case round =>
      obtain ⟨rfl, rfl⟩ := hrel
      go_wp2
      go_ret
      exact ⟨ret_intM (by simp), .inl rfl, Within.refl _ _ _⟩
  · obtain ⟨b, off, rfl, hlo, hhi, hb, hc, hf⟩ := hz.resolve_left (by intro h; rw [h] at hl; simp at hl; omega)
    have HL : Hid (zs.length = n * 3) := hl
    have HS : Hid (MarkF w b off zs.length k0 0) := ⟨hb, fun j hj => absurd hj (by omega), fun j hj => ⟨_, hc j hj⟩, hf⟩
    clear hc hf hl hz
    go_enter Try.func72, Try.ntmps72
    go_wp2
    go_loopw [1, 5] (fun k si wr => ∃ i : Nat, i ≤ n ∧ si = .int .i64 i ∧ k = .int .i64 (k0 + i * 3) ∧ Hid (MarkF wr b off zs.length k0 (i * 3)) ∧ Hid (Within lo hi w wr)) (fun _ si _ => n - (intOf si).toNat)
    case atStart => exact ⟨0, Nat.zero_le _, rfl, by simp, by rw [Nat.zero_mul]; exact HS, Within.refl _ _ _⟩
    case round =>
      obtain ⟨i, hi', rfl, rfl, hM, hW⟩ := hrel
      clear HS
      by_cases hlt : i < n
      · have hle : ∀ j, j < 3 → i * 3 + j < zs.length := by intro j hj; rw [HL.out]; omega
        obtain ⟨v0, q0⟩ := hM.out.all (i * 3 + 0) (hle 0 (by omega))
        have f0 := hM.out.free (i * 3 + 0) (hle 0 (by omega))
        obtain ⟨v1, q1⟩ := hM.out.all (i * 3 + 1) (hle 1 (by omega))
        have f1 := hM.out.free (i * 3 + 1) (hle 1 (by omega))
        obtain ⟨v2, q2⟩ := hM.out.all (i * 3 + 2) (hle 2 (by omega))
        have f2 := hM.out.free (i * 3 + 2) (hle 2 (by omega))
        simp only [← Nat.add_assoc, Nat.add_zero] at q0 f0 q1 f1 q2 f2
        have HM2 : Hid (MarkF (((wr.setCell ⟨b, off + i * 3, none⟩ (.int .u32 (k0 + i * 3))).setCell ⟨b, off + i * 3 + 1, none⟩ (.int .u32 (k0 + i * 3 + 1))).setCell ⟨b, off + i * 3 + 2, none⟩ (.int .u32 (k0 + i * 3 + 1 + 1))) b off zs.length k0 ((i + 1) * 3)) := by
          exact ((((hM.out.step (hle 0 (by omega)) (o := off + i * 3) (by omega) (v := k0 + i * 3) (by omega)).step (hle 1 (by omega)) (o := off + i * 3 + 1) (by omega) (v := k0 + i * 3 + 1) (by omega)).step (hle 2 (by omega)) (o := off + i * 3 + 2) (by omega) (v := k0 + i * 3 + 1 + 1) (by omega))).cast (by omega)
        have HW2 : Hid (Within lo hi w (((wr.setCell ⟨b, off + i * 3, none⟩ (.int .u32 (k0 + i * 3))).setCell ⟨b, off + i * 3 + 1, none⟩ (.int .u32 (k0 + i * 3 + 1))).setCell ⟨b, off + i * 3 + 2, none⟩ (.int .u32 (k0 + i * 3 + 1 + 1)))) := (((hW.out.setCell (p := ⟨b, off + i * 3, none⟩) hlo hhi (.int .u32 (k0 + i * 3))).setCell (p := ⟨b, off + i * 3 + 1, none⟩) hlo hhi (.int .u32 (k0 + i * 3 + 1))).setCell (p := ⟨b, off + i * 3 + 2, none⟩) hlo hhi (.int .u32 (k0 + i * 3 + 1 + 1)))
        have hb1 : k0 + (i : Int) * 3 ≤ 2000000000 := by omega
        clear hle hM hW
        go_wp2
        go_roundw
        case rel => exact ⟨i + 1, by omega, by go_num, by go_num, HM2, HW2⟩
        case measure => simp [intOf]; omega
      · have hin : i = n := by omega
        subst hin
        have hR := hM.out
        rw [← HL.out] at hR
        have HR : Hid (RowIn .u32 wr lo hi (some ⟨b, off, none⟩) (marksL k0 zs.length)) := hR.row hlo hhi
        clear hM hR
        go_wp2
        go_ret
        exact ⟨ret_intM (by have := HL.out; omega), HR.out, hW.out⟩

set_option maxRecDepth 100000 in
set_option maxHeartbeats 4000000 in
theorem heldPointS_any (a : Option Addr) (n c : Nat) (k0 : Int) (w : World) (hn : n ≤ 1048576) (h0 : 1 ≤ k0) (h1 : k0 ≤ 33554432) (hz : RowAt .u32 w a (marksL k0 (n * 3))) :
    Calls Try.prog 75 #[.slice a n c, .int .i64 k0] w fun e w' => e = .returned (.int .i64 (k0 + ((n * 3 : Nat) : Int))) ∧ Below w.heap.size w w' := by
  by_cases hn0 : n = 0
  · subst hn0
    go_enter Try.func75, Try.ntmps75
    go_wp2
    go_loop [1, 5] (fun k i => k = .int .i64 k0 ∧ i = .int .i64 0) (fun _ _ => 0)
    case atStart => exact ⟨rfl, rfl⟩
    case round =>
      obtain ⟨rfl, rfl⟩ := hrel
      go_wp2
      go_ret
      exact ⟨ret_intM (by simp), Below.refl _ _⟩
  · obtain ⟨b, off, rfl, hb, hc⟩ := hz.resolve_left (by intro h; have := marks_length (n * 3) k0; rw [h] at this; simp at this; omega)
    rw [marks_length] at hc
    go_enter Try.func75, Try.ntmps75
    go_wp2
    go_loop [1, 5] (fun k si => ∃ i : Nat, i ≤ n ∧ si = .int .i64 i ∧ k = .int .i64 (k0 + i * 3)) (fun _ si => n - (intOf si).toNat)
    case atStart => exact ⟨0, Nat.zero_le _, rfl, by simp⟩
    case round =>
      obtain ⟨i, hi', rfl, rfl⟩ := hrel
      by_cases hlt : i < n
      · have hle : ∀ j, j < 3 → i * 3 + j < n * 3 := by intro j hj; omega
        have q0 : w.cell? ⟨b, off + i * 3, none⟩ = some (.int .u32 (k0 + i * 3)) := by
          have := hc (i * 3 + 0) (hle 0 (by omega))
          rw [marks_get _ _ _ (hle 0 (by omega))] at this
          simpa [Nat.add_assoc, Int.add_assoc] using this
        have q1 : w.cell? ⟨b, off + i * 3 + 1, none⟩ = some (.int .u32 (k0 + i * 3 + 1)) := by
          have := hc (i * 3 + 1) (hle 1 (by omega))
          rw [marks_get _ _ _ (hle 1 (by omega))] at this
          simpa [Nat.add_assoc, Int.add_assoc] using this
        have q2 : w.cell? ⟨b, off + i * 3 + 2, none⟩ = some (.int .u32 (k0 + i * 3 + 1 + 1)) := by
          have := hc (i * 3 + 2) (hle 2 (by omega))
          rw [marks_get _ _ _ (hle 2 (by omega))] at this
          simpa [Nat.add_assoc, Int.add_assoc] using this
        have hb1 : k0 + (i : Int) * 3 ≤ 2000000000 := by omega
        clear hc hle
        go_wp2
        go_round
        case rel => exact ⟨i + 1, by omega, by go_num, by go_num⟩
        case measure => simp [intOf]; omega
      · have hin : i = n := by omega
        subst hin
        go_wp2
        go_ret
        exact ⟨ret_intM (by omega), Below.refl _ _⟩

end Go.Proofs.Ytcjdnomhnlbmbaa
