/-
  Rows of values of one cell each, told by a function of the place.
-/
import Derived.Test.YtcjdnomhnlbmbaaScM
import Derived.BigQuiet
namespace Go.Proofs.Ytcjdnomhnlbmbaa
open Go.RowKit

/-- The slice of n values that begins at a reads as f 0, f 1, .. -/
def RowF (w : World) (a : Option Addr) (n : Nat) (f : Nat → Value) : Prop :=
  n = 0 ∨ ∃ b off, a = some ⟨b, off, none⟩ ∧ b < w.heap.size ∧ ∀ j, j < n → w.cell? ⟨b, off + j, none⟩ = some (f j)
/-- .. and lies in blocks from lo to below hi, and may be written. -/
def RowFIn (w : World) (lo hi : Nat) (a : Option Addr) (n : Nat) (f : Nat → Value) : Prop :=
  n = 0 ∨ ∃ b off, a = some ⟨b, off, none⟩ ∧ lo ≤ b ∧ b < hi ∧ b < w.heap.size ∧ (∀ j, j < n → w.cell? ⟨b, off + j, none⟩ = some (f j)) ∧ ∀ j, j < n → w.frozen? ⟨b, off + j, none⟩ = false

theorem RowFIn.row {w : World} {lo hi : Nat} {a : Option Addr} {n : Nat} {f : Nat → Value} (h : RowFIn w lo hi a n f) : RowF w a n f := by
  rcases h with h | ⟨b, off, h1, _, _, h2, h3, _⟩
  · exact .inl h
  · exact .inr ⟨b, off, h1, h2, h3⟩
theorem RowF.later {w w' : World} {a : Option Addr} {n : Nat} {f : Nat → Value} (h : RowF w a n f) (hb : Below w.heap.size w w') : RowF w' a n f := by
  rcases h with h | ⟨b, off, h1, h2, h3⟩
  · exact .inl h
  · exact .inr ⟨b, off, h1, Nat.lt_of_lt_of_le h2 hb.size, fun j hj => ((bcell hb).1 _ _ h2).trans (h3 j hj)⟩
theorem RowFIn.later {w w' : World} {lo hi : Nat} {a : Option Addr} {n : Nat} {f : Nat → Value} (h : RowFIn w lo hi a n f) (hb : Below w.heap.size w w') : RowFIn w' lo hi a n f := by
  rcases h with h | ⟨b, off, h1, h0, h00, h2, h3, h4⟩
  · exact .inl h
  · exact .inr ⟨b, off, h1, h0, h00, Nat.lt_of_lt_of_le h2 hb.size, fun j hj => ((bcell hb).1 _ _ h2).trans (h3 j hj), fun j hj => ((bcell hb).2 _ _ h2).trans (h4 j hj)⟩
theorem RowFIn.apart {w w' : World} {lo hi lo' hi' : Nat} {a : Option Addr} {n : Nat} {f : Nat → Value} (h : RowFIn w lo hi a n f) (hb : Within lo' hi' w w') (hd : hi ≤ lo' ∨ hi' ≤ lo) : RowFIn w' lo hi a n f := by
  rcases h with h | ⟨b, off, h1, h0, h00, h2, h3, h4⟩
  · exact .inl h
  · exact .inr ⟨b, off, h1, h0, h00, by rw [hb.size]; exact h2, fun j hj => (hb.cell (p := ⟨b, off + j, none⟩) (by simp; omega)).trans (h3 j hj), fun j hj => (hb.frozen (p := ⟨b, off + j, none⟩) (by simp; omega)).trans (h4 j hj)⟩

/-- A row of n places that is being filled: the first m hold f 0, f 1, .. -/
structure FillF (w : World) (b off n : Nat) (f : Nat → Value) (m : Nat) : Prop where
  lt : b < w.heap.size
  done : ∀ j, j < m → w.cell? ⟨b, off + j, none⟩ = some (f j)
  all : ∀ j, j < n → ∃ v, w.cell? ⟨b, off + j, none⟩ = some v
  free : ∀ j, j < n → w.frozen? ⟨b, off + j, none⟩ = false
theorem FillF.step {w : World} {b off n : Nat} {f : Nat → Value} {m : Nat} (h : FillF w b off n f m) (hm : m < n) : FillF (w.setCell ⟨b, off + m, none⟩ (f m)) b off n f (m + 1) := by
  obtain ⟨u, hu⟩ := h.all m hm
  refine ⟨by simpa using h.lt, fun j hj => ?_, fun j hj => ?_, fun j hj => ?_⟩
  · by_cases e : j = m
    · subst e; exact World.cell?_setCell_same _ _ _ hu
    · rw [World.cell?_setCell_other _ _ _ _ (by intro hh; apply e; have := congrArg Addr.off hh; simp at this; omega)]; exact h.done j (by omega)
  · by_cases e : j = m
    · subst e; exact ⟨_, World.cell?_setCell_same _ _ _ hu⟩
    · rw [World.cell?_setCell_other _ _ _ _ (by intro hh; apply e; have := congrArg Addr.off hh; simp at this; omega)]; exact h.all j hj
  · rw [World.frozen?_setCell]; exact h.free j hj
theorem FillF.later {w w' : World} {b off n : Nat} {f : Nat → Value} {m : Nat} (h : FillF w b off n f m) (hb : Below w.heap.size w w') : FillF w' b off n f m :=
  ⟨Nat.lt_of_lt_of_le h.lt hb.size, fun j hj => ((bcell hb).1 _ _ h.lt).trans (h.done j hj), fun j hj => by obtain ⟨v, hv⟩ := h.all j hj; exact ⟨v, ((bcell hb).1 _ _ h.lt).trans hv⟩, fun j hj => ((bcell hb).2 _ _ h.lt).trans (h.free j hj)⟩
theorem FillF.row {w : World} {b off n lo hi : Nat} {f : Nat → Value} (h : FillF w b off n f n) (h1 : lo ≤ b) (h2 : b < hi) : RowFIn w lo hi (some ⟨b, off, none⟩) n f := .inr ⟨b, off, rfl, h1, h2, h.lt, h.done, h.free⟩
theorem FillF.start (w : World) (z : Value) (n : Nat) (t : TypeId) (f : Nat → Value) : FillF (w.alloc (.cells (madeCells #[z] n) t)) w.heap.size 0 n f 0 := by
  refine ⟨by simp, fun j hj => absurd hj (by omega), fun j hj => ⟨z, ?_⟩, fun j hj => by simp⟩
  simp [hj, madeCells, Nat.mod_one]

end Go.Proofs.Ytcjdnomhnlbmbaa

/-
  Lists of ints as the laws copy, compare and mark them.
-/
namespace Go.Proofs.Ytcjdnomhnlbmbaa
open Go.RowKit

theorem info_Int : (Try.prog.info? 3).map (fun i => (i.zero, i.size, i.bytes)) = some (some (.int .i64 0), 1, 8) := by kernel_rfl

set_option maxHeartbeats 1000000 in
theorem toIntS_any (a : Option Addr) (n c : Nat) (g : Nat → Int) (w : World) (hn : n ≤ 1048576) (hz : RowF w a n (fun j => .int .i64 (g j))) :
    Calls Try.prog 46 #[.slice a n c] w fun e w' => ∃ a', e = .returned (.slice a' n n) ∧ RowFIn w' w.heap.size w'.heap.size a' n (fun j => .int .i64 (g j)) ∧ Below w.heap.size w w' := by
  have hmk := run_make_row' (P := Try.prog) 23 3 (.int .i64 0) 8 Try.underlying23 info_Int rfl .i64 .i64 n (by omega) (by omega)
  have HS : Hid (FillF (w.alloc (.cells (madeCells #[.int .i64 0] n) 3)) w.heap.size 0 n (fun j => .int .i64 (g j)) 0) := FillF.start _ _ _ _ _
  have HZ : Hid (RowF w a n (fun j => .int .i64 (g j))) := hz
  clear hz
  go_enter Try.func46, Try.ntmps46
  go_wp2
  go_loopw [4] (fun si wr => ∃ i : Nat, i ≤ n ∧ si = .int .i64 i ∧ Hid (FillF wr w.heap.size 0 n (fun j => .int .i64 (g j)) i) ∧ Hid (Below w.heap.size w wr)) (fun si _ => n - (intOf si).toNat)
  case atStart => exact ⟨0, Nat.zero_le _, rfl, HS, bel0 _ _⟩
  case round =>
    obtain ⟨i, hi, rfl, hF, hb⟩ := hrel
    clear hmk HS
    by_cases hlt : i < n
    · obtain ⟨b, off, rfl, hbl, hc⟩ := HZ.out.resolve_left (by omega)
      have g1 : wr.cell? ⟨b, off + i, none⟩ = some (.int .i64 (g i)) := ((bcell hb.out).1 _ _ hbl).trans (hc i hlt)
      obtain ⟨u, g2⟩ := hF.out.all i hlt
      have g3 := hF.out.free i hlt
      have hs := hF.out.step hlt
      have hbe := hb.out.setCell (p := ⟨w.heap.size, 0 + i, none⟩) (Nat.le_refl _) (.int .i64 (g i))
      rw [Nat.zero_add] at g2 g3 hs hbe
      have HS : Hid (FillF (wr.setCell ⟨w.heap.size, i, none⟩ (.int .i64 (g i))) w.heap.size 0 n (fun j => .int .i64 (g j)) (i + 1)) := hs
      have HB : Hid (Below w.heap.size w (wr.setCell ⟨w.heap.size, i, none⟩ (.int .i64 (g i)))) := hbe
      have hib : (i : Int) < n := by omega
      clear hs hbe hc hF hb
      go_wp2
      go_roundw
      case rel => exact ⟨i + 1, by omega, by go_num, HS, HB⟩
      case measure => simp [intOf]; omega
    · have e : i = n := by omega
      subst e
      go_wp2
      go_ret
      exact ⟨_, rfl, hF.out.row (Nat.le_refl _) hF.out.lt, hb.out⟩

set_option maxHeartbeats 1000000 in
theorem eqIntS_same (a a1 : Option Addr) (n c c1 : Nat) (g : Nat → Int) (w : World) (hn : n ≤ 1048576) (hz : RowF w a n (fun j => .int .i64 (g j))) (hy : RowF w a1 n (fun j => .int .i64 (g j))) :
    Calls Try.prog 38 #[.slice a n c, .slice a1 n c1] w fun e w' => e = .returned (.bool true) ∧ Below w.heap.size w w' := by
  have HZ : Hid (RowF w a n (fun j => .int .i64 (g j))) := hz
  have HY : Hid (RowF w a1 n (fun j => .int .i64 (g j))) := hy
  clear hz hy
  go_enter Try.func38, Try.ntmps38
  go_wp2
  go_loopw [5] (fun si wr => ∃ i : Nat, i ≤ n ∧ si = .int .i64 i ∧ Hid (Below w.heap.size w wr)) (fun si _ => n - (intOf si).toNat)
  case atStart => exact ⟨0, Nat.zero_le _, rfl, Below.refl _ _⟩
  case round =>
    obtain ⟨i, hi, rfl, hb⟩ := hrel
    by_cases hlt : i < n
    · obtain ⟨b, off, rfl, hbl, hc⟩ := HZ.out.resolve_left (by omega)
      obtain ⟨b1, off1, rfl, hbl1, hc1⟩ := HY.out.resolve_left (by omega)
      have g1 : wr.cell? ⟨b, off + i, none⟩ = some (.int .i64 (g i)) := ((bcell hb.out).1 _ _ hbl).trans (hc i hlt)
      have g2 : wr.cell? ⟨b1, off1 + i, none⟩ = some (.int .i64 (g i)) := ((bcell hb.out).1 _ _ hbl1).trans (hc1 i hlt)
      obtain ⟨x, hx⟩ : ∃ x, x = g i := ⟨_, rfl⟩
      rw [← hx] at g1 g2
      have hne : (x != x) = false := by simp
      have hib : (i : Int) < n := by omega
      clear hc hc1 hx
      go_wp2
      go_quiet (fail)
      go_wp2
      go_roundw
      case rel => exact ⟨i + 1, by omega, by go_num, by first | exact hb | exact below_drewN hb.out _⟩
      case measure => simp [intOf]; omega
    · go_wp2
      go_ret
      exact ⟨rfl, hb.out⟩

set_option maxHeartbeats 1000000 in
theorem markIntS_any (a : Option Addr) (n c : Nat) (g : Nat → Int) (k0 : Int) (w : World) (lo hi : Nat) (hn : n ≤ 1048576) (h0 : 1 ≤ k0) (h1 : k0 ≤ 33554432) (hz : RowFIn w lo hi a n (fun j => .int .i64 (g j))) :
    Calls Try.prog 40 #[.slice a n c, .int .i64 k0] w fun e w' => e = .returned (.int .i64 (k0 + n)) ∧ RowFIn w' lo hi a n (fun j : Nat => .int .i64 (k0 + j)) ∧ Within lo hi w w' := by
  by_cases hn0 : n = 0
  · subst hn0
    go_enter Try.func40, Try.ntmps40
    go_wp2
    go_loop [1, 5] (fun k i => k = .int .i64 k0 ∧ i = .int .i64 0) (fun _ _ => 0)
    case atStart => exact ⟨rfl, rfl⟩
    case round =>
      obtain ⟨rfl, rfl⟩ := hrel
      go_wp2
      go_ret
      exact ⟨ret_intM (by simp), .inl rfl, Within.refl _ _ _⟩
  · obtain ⟨b, off, rfl, hlo, hhi, hb, hc, hf⟩ := hz.resolve_left hn0
    have HS : Hid (FillF w b off n (fun j : Nat => .int .i64 (k0 + j)) 0) := ⟨hb, fun j hj => absurd hj (by omega), fun j hj => ⟨_, hc j hj⟩, hf⟩
    clear hc hf hz
    go_enter Try.func40, Try.ntmps40
    go_wp2
    go_loopw [1, 5] (fun k si wr => ∃ i : Nat, i ≤ n ∧ si = .int .i64 i ∧ k = .int .i64 (k0 + i) ∧ Hid (FillF wr b off n (fun j : Nat => .int .i64 (k0 + j)) i) ∧ Hid (Within lo hi w wr)) (fun _ si _ => n - (intOf si).toNat)
    case atStart => exact ⟨0, Nat.zero_le _, rfl, by simp, HS, Within.refl _ _ _⟩
    case round =>
      obtain ⟨i, hi', rfl, rfl, hM, hW⟩ := hrel
      clear HS
      by_cases hlt : i < n
      · obtain ⟨v, q⟩ := hM.out.all i hlt
        have f := hM.out.free i hlt
        have HM2 : Hid (FillF (wr.setCell ⟨b, off + i, none⟩ (.int .i64 (k0 + i))) b off n (fun j : Nat => .int .i64 (k0 + j)) (i + 1)) := hM.out.step hlt
        have HW2 : Hid (Within lo hi w (wr.setCell ⟨b, off + i, none⟩ (.int .i64 (k0 + i)))) := hW.out.setCell (p := ⟨b, off + i, none⟩) hlo hhi _
        have hb1 : k0 + (i : Int) ≤ 2000000000 := by omega
        have ht3 : (k0 + (i : Int)).tmod 3 = (k0 + (i : Int)) % 3 := Int.tmod_eq_emod_of_nonneg (by omega)
        have hib : (i : Int) < n := by omega
        clear hM hW
        go_wp2
        go_roundw
        case rel => exact ⟨i + 1, by omega, by go_num, by go_num, HM2, HW2⟩
        case measure => simp [intOf]; omega
      · have hin : i = n := by omega
        subst hin
        have HR : Hid (RowFIn wr lo hi (some ⟨b, off, none⟩) i (fun j : Nat => .int .i64 (k0 + j))) := hM.out.row hlo hhi
        clear hM
        go_wp2
        go_ret
        exact ⟨rfl, HR.out, hW.out⟩

set_option maxHeartbeats 1000000 in
theorem heldIntS_any (a : Option Addr) (n c : Nat) (k0 : Int) (w : World) (hn : n ≤ 1048576) (h0 : 1 ≤ k0) (h1 : k0 ≤ 33554432) (hz : RowF w a n (fun j : Nat => .int .i64 (k0 + j))) :
    Calls Try.prog 42 #[.slice a n c, .int .i64 k0] w fun e w' => e = .returned (.int .i64 (k0 + n)) ∧ Below w.heap.size w w' := by
  by_cases hn0 : n = 0
  · subst hn0
    go_enter Try.func42, Try.ntmps42
    go_wp2
    go_loop [1, 5] (fun k i => k = .int .i64 k0 ∧ i = .int .i64 0) (fun _ _ => 0)
    case atStart => exact ⟨rfl, rfl⟩
    case round =>
      obtain ⟨rfl, rfl⟩ := hrel
      go_wp2
      go_ret
      exact ⟨ret_intM (by simp), Below.refl _ _⟩
  · obtain ⟨b, off, rfl, hb, hc⟩ := hz.resolve_left hn0
    go_enter Try.func42, Try.ntmps42
    go_wp2
    go_loop [1, 5] (fun k si => ∃ i : Nat, i ≤ n ∧ si = .int .i64 i ∧ k = .int .i64 (k0 + i)) (fun _ si => n - (intOf si).toNat)
    case atStart => exact ⟨0, Nat.zero_le _, rfl, by simp⟩
    case round =>
      obtain ⟨i, hi', rfl, rfl⟩ := hrel
      by_cases hlt : i < n
      · have q : w.cell? ⟨b, off + i, none⟩ = some (.int .i64 (k0 + i)) := hc i hlt
        have hb1 : k0 + (i : Int) ≤ 2000000000 := by omega
        have ht3 : (k0 + (i : Int)).tmod 3 = (k0 + (i : Int)) % 3 := Int.tmod_eq_emod_of_nonneg (by omega)
        have hib : (i : Int) < n := by omega
        clear hc
        go_wp2
        go_round
        case rel => exact ⟨i + 1, by omega, by go_num, by go_num⟩
        case measure => simp [intOf]; omega
      · have hin : i = n := by omega
        subst hin
        go_wp2
        go_ret
        exact ⟨rfl, Below.refl _ _⟩

end Go.Proofs.Ytcjdnomhnlbmbaa
