/-
  Lists of ints as the laws copy, compare and mark them.
-/
import Derived.Test.YtfhfepphccaadaaSpVSpWLawVsScMPcA
import Derived.BigQuiet
namespace Go.Proofs.Ytfhfepphccaadaa
open Go.RowKit

theorem info_Int : (Try.prog.info? 3).map (fun i => (i.zero, i.size, i.bytes)) = some (some (.int .i64 0), 1, 8) := by kernel_rfl

set_option maxHeartbeats 1000000 in
theorem eqIntS_same (a a1 : Option Addr) (n c c1 : Nat) (g : Nat → Int) (w : World) (hn : n ≤ 1048576) (hz : RowF w a n (fun j => .int .i64 (g j))) (hy : RowF w a1 n (fun j => .int .i64 (g j))) :
    Calls Try.prog 53 #[.slice a n c, .slice a1 n c1] w fun e w' => e = .returned (.bool true) ∧ Below w.heap.size w w' := by
  have HZ : Hid (RowF w a n (fun j => .int .i64 (g j))) := hz
  have HY : Hid (RowF w a1 n (fun j => .int .i64 (g j))) := hy
  clear hz hy
  go_enter Try.func53, Try.ntmps53
  go_wp2
  go_loopw [5] (fun si wr => ∃ i : Nat, i ≤ n ∧ si = .int .i64 i ∧ Hid (Below w.heap.size w wr)) (fun si _ => n - (intOf si).toNat)
  case atStart => exact ⟨0, Nat.zero_le _, rfl, Below.refl _ _⟩
  case round =>
    obtain ⟨i, hi, rfl, hb⟩ := hrel
    by_cases hlt : i < n
    · obtain ⟨b, off, rfl, hbl, hc⟩ := HZ.out.resolve_left (by omega)
      obtain ⟨b1, off1, rfl, hbl1, hc1⟩ := HY.out.resolve_left (by omega)
      have g1 : wr.cell? ⟨b, off + i, none⟩ = some (.int .i64 (g i)) := ((bcell hb.out).1 _ _ hbl).trans (hc i hlt)
      have g2 : wr.cell? ⟨b1, off1 + i, none⟩ = some (.int .i64 (g i)) := ((bcell hb.out).1 _ _ hbl1).trans (hc1 i hlt)
      obtain ⟨x, hx⟩ : ∃ x, x = g i := ⟨_, rfl⟩
      rw [← hx] at g1 g2
      have hne : (x != x) = false := by simp
      have hib : (i : Int) < n := by omega
      clear hc hc1 hx
      go_wp2
      go_quiet (fail)
      go_wp2
      go_roundw
      case rel => exact ⟨i + 1, by omega, by go_num, by first | exact hb | exact below_drewN hb.out _⟩
      case measure => simp [intOf]; omega
    · go_wp2
      go_ret
      exact ⟨rfl, hb.out⟩

set_option maxHeartbeats 1000000 in
theorem markIntS_any (a : Option Addr) (n c : Nat) (g : Nat → Int) (k0 : Int) (w : World) (lo hi : Nat) (hn : n ≤ 1048576) (h0 : 1 ≤ k0) (h1 : k0 ≤ 33554432) (hz : RowFIn w lo hi a n (fun j => .int .i64 (g j))) :
    Calls Try.prog 55 #[.slice a n c, .int .i64 k0] w fun e w' => e = .returned (.int .i64 (k0 + n)) ∧ RowFIn w' lo hi a n (fun j : Nat => .int .i64 (k0 + j)) ∧ Within lo hi w w' := by
  by_cases hn0 : n = 0
  · subst hn0
    go_enter Try.func55, Try.ntmps55
    go_wp2
    go_loop [1, 5] (fun k i => k = .int .i64 k0 ∧ i = .int .i64 0) (fun _ _ => 0)
    case atStart => exact ⟨rfl, rfl⟩
    case round =>
      obtain ⟨rfl, rfl⟩ := hrel
      go_wp2
      go_ret
      exact ⟨ret_intM (by simp), .inl rfl, Within.refl _ _ _⟩
  · obtain ⟨b, off, rfl, hlo, hhi, hb, hc, hf⟩ := hz.resolve_left hn0
    have HS : Hid (FillF w b off n (fun j : Nat => .int .i64 (k0 + j)) 0) := ⟨hb, fun j hj => absurd hj (by omega), fun j hj => ⟨_, hc j hj⟩, hf⟩
    clear hc hf hz
    go_enter Try.func55, Try.ntmps55
    go_wp2
    go_loopw [1, 5] (fun k si wr => ∃ i : Nat, i ≤ n ∧ si = .int .i64 i ∧ k = .int .i64 (k0 + i) ∧ Hid (FillF wr b off n (fun j : Nat => .int .i64 (k0 + j)) i) ∧ Hid (Within lo hi w wr)) (fun _ si _ => n - (intOf si).toNat)
    case atStart => exact ⟨0, Nat.zero_le _, rfl, by simp, HS, Within.refl _ _ _⟩
    case round =>
      obtain ⟨i, hi', rfl, rfl, hM, hW⟩ := hrel
      clear HS
      by_cases hlt : i < n
      · obtain ⟨v, q⟩ := hM.out.all i hlt
        have f := hM.out.free i hlt
        have HM2 : Hid (FillF (wr.setCell ⟨b, off + i, none⟩ (.int .i64 (k0 + i))) b off n (fun j : Nat => .int .i64 (k0 + j)) (i + 1)) := hM.out.step hlt
        have HW2 : Hid (Within lo hi w (wr.setCell ⟨b, off + i, none⟩ (.int .i64 (k0 + i)))) := hW.out.setCell (p := ⟨b, off + i, none⟩) hlo hhi _
        have hb1 : k0 + (i : Int) ≤ 2000000000 := by omega
        have ht3 : (k0 + (i : Int)).tmod 3 = (k0 + (i : Int)) % 3 := Int.tmod_eq_emod_of_nonneg (by omega)
        have hib : (i : Int) < n := by omega
        clear hM hW
        go_wp2
        go_roundw
        case rel => exact ⟨i + 1, by omega, by go_num, by go_num, HM2, HW2⟩
        case measure => simp [intOf]; omega
      · have hin : i = n := by omega
        subst hin
        have HR : Hid (RowFIn wr lo hi (some ⟨b, off, none⟩) i (fun j : Nat => .int .i64 (k0 + j))) := hM.out.row hlo hhi
        clear hM
        go_wp2
        go_ret
        exact ⟨rfl, HR.out, hW.out⟩

set_option maxHeartbeats 1000000 in
theorem heldIntS_any (a : Option Addr) (n c : Nat) (k0 : Int) (w : World) (hn : n ≤ 1048576) (h0 : 1 ≤ k0) (h1 : k0 ≤ 33554432) (hz : RowF w a n (fun j : Nat => .int .i64 (k0 + j))) :
    Calls Try.prog 57 #[.slice a n c, .int .i64 k0] w fun e w' => e = .returned (.int .i64 (k0 + n)) ∧ Below w.heap.size w w' := by
  by_cases hn0 : n = 0
  · subst hn0
    go_enter Try.func57, Try.ntmps57
    go_wp2
    go_loop [1, 5] (fun k i => k = .int .i64 k0 ∧ i = .int .i64 0) (fun _ _ => 0)
    case atStart => exact ⟨rfl, rfl⟩
    case round =>
      obtain ⟨rfl, rfl⟩ := hrel
      go_wp2
      go_ret
      exact ⟨ret_intM (by simp), Below.refl _ _⟩
  · obtain ⟨b, off, rfl, hb, hc⟩ := hz.resolve_left hn0
    go_enter Try.func57, Try.ntmps57
    go_wp2
    go_loop [1, 5] (fun k si => ∃ i : Nat, i ≤ n ∧ si = .int .i64 i ∧ k = .int .i64 (k0 + i)) (fun _ si => n - (intOf si).toNat)
    case atStart => exact ⟨0, Nat.zero_le _, rfl, by simp⟩
    case round =>
      obtain ⟨i, hi', rfl, rfl⟩ := hrel
      by_cases hlt : i < n
      · have q : w.cell? ⟨b, off + i, none⟩ = some (.int .i64 (k0 + i)) := hc i hlt
        have hb1 : k0 + (i : Int) ≤ 2000000000 := by omega
        have ht3 : (k0 + (i : Int)).tmod 3 = (k0 + (i : Int)) % 3 := Int.tmod_eq_emod_of_nonneg (by omega)
        have hib : (i : Int) < n := by omega
        clear hc
        go_wp2
        go_round
        case rel => exact ⟨i + 1, by omega, by go_num, by go_num⟩
        case measure => simp [intOf]; omega
      · have hin : i = n := by omega
        subst hin
        go_wp2
        go_ret
        exact ⟨rfl, Below.refl _ _⟩

end Go.Proofs.Ytfhfepphccaadaa

/-
  Lists of bools as the laws copy, compare and mark them.
-/
namespace Go.Proofs.Ytfhfepphccaadaa
open Go.RowKit

theorem info_Bool : (Try.prog.info? 4).map (fun i => (i.zero, i.size, i.bytes)) = some (some (.bool false), 1, 1) := by kernel_rfl

set_option maxHeartbeats 1000000 in
theorem eqBoolS_same (a a1 : Option Addr) (n c c1 : Nat) (g : Nat → Bool) (w : World) (hn : n ≤ 1048576) (hz : RowF w a n (fun j => .bool (g j))) (hy : RowF w a1 n (fun j => .bool (g j))) :
    Calls Try.prog 54 #[.slice a n c, .slice a1 n c1] w fun e w' => e = .returned (.bool true) ∧ Below w.heap.size w w' := by
  have HZ : Hid (RowF w a n (fun j => .bool (g j))) := hz
  have HY : Hid (RowF w a1 n (fun j => .bool (g j))) := hy
  clear hz hy
  go_enter Try.func54, Try.ntmps54
  go_wp2
  go_loopw [5] (fun si wr => ∃ i : Nat, i ≤ n ∧ si = .int .i64 i ∧ Hid (Below w.heap.size w wr)) (fun si _ => n - (intOf si).toNat)
  case atStart => exact ⟨0, Nat.zero_le _, rfl, Below.refl _ _⟩
  case round =>
    obtain ⟨i, hi, rfl, hb⟩ := hrel
    by_cases hlt : i < n
    · obtain ⟨b, off, rfl, hbl, hc⟩ := HZ.out.resolve_left (by omega)
      obtain ⟨b1, off1, rfl, hbl1, hc1⟩ := HY.out.resolve_left (by omega)
      have g1 : wr.cell? ⟨b, off + i, none⟩ = some (.bool (g i)) := ((bcell hb.out).1 _ _ hbl).trans (hc i hlt)
      have g2 : wr.cell? ⟨b1, off1 + i, none⟩ = some (.bool (g i)) := ((bcell hb.out).1 _ _ hbl1).trans (hc1 i hlt)
      obtain ⟨x, hx⟩ : ∃ x, x = g i := ⟨_, rfl⟩
      rw [← hx] at g1 g2
      have hne : (x != x) = false := by simp
      have hib : (i : Int) < n := by omega
      clear hc hc1 hx
      go_wp2
      go_quiet (fail)
      go_wp2
      go_roundw
      case rel => exact ⟨i + 1, by omega, by go_num, by first | exact hb | exact below_drewN hb.out _⟩
      case measure => simp [intOf]; omega
    · go_wp2
      go_ret
      exact ⟨rfl, hb.out⟩

set_option maxHeartbeats 1000000 in
theorem markBoolS_any (a : Option Addr) (n c : Nat) (g : Nat → Bool) (k0 : Int) (w : World) (lo hi : Nat) (hn : n ≤ 1048576) (h0 : 1 ≤ k0) (h1 : k0 ≤ 33554432) (hz : RowFIn w lo hi a n (fun j => .bool (g j))) :
    Calls Try.prog 56 #[.slice a n c, .int .i64 k0] w fun e w' => e = .returned (.int .i64 (k0 + n)) ∧ RowFIn w' lo hi a n (fun j : Nat => .bool ((k0 + j) % 3 == 0)) ∧ Within lo hi w w' := by
  by_cases hn0 : n = 0
  · subst hn0
    go_enter Try.func56, Try.ntmps56
    go_wp2
    go_loop [1, 5] (fun k i => k = .int .i64 k0 ∧ i = .int .i64 0) (fun _ _ => 0)
    case atStart => exact ⟨rfl, rfl⟩
    case round =>
      obtain ⟨rfl, rfl⟩ := hrel
      go_wp2
      go_ret
      exact ⟨ret_intM (by simp), .inl rfl, Within.refl _ _ _⟩
  · obtain ⟨b, off, rfl, hlo, hhi, hb, hc, hf⟩ := hz.resolve_left hn0
    have HS : Hid (FillF w b off n (fun j : Nat => .bool ((k0 + j) % 3 == 0)) 0) := ⟨hb, fun j hj => absurd hj (by omega), fun j hj => ⟨_, hc j hj⟩, hf⟩
    clear hc hf hz
    go_enter Try.func56, Try.ntmps56
    go_wp2
    go_loopw [1, 5] (fun k si wr => ∃ i : Nat, i ≤ n ∧ si = .int .i64 i ∧ k = .int .i64 (k0 + i) ∧ Hid (FillF wr b off n (fun j : Nat => .bool ((k0 + j) % 3 == 0)) i) ∧ Hid (Within lo hi w wr)) (fun _ si _ => n - (intOf si).toNat)
    case atStart => exact ⟨0, Nat.zero_le _, rfl, by simp, HS, Within.refl _ _ _⟩
    case round =>
      obtain ⟨i, hi', rfl, rfl, hM, hW⟩ := hrel
      clear HS
      by_cases hlt : i < n
      · obtain ⟨v, q⟩ := hM.out.all i hlt
        have f := hM.out.free i hlt
        have HM2 : Hid (FillF (wr.setCell ⟨b, off + i, none⟩ (.bool ((k0 + i) % 3 == 0))) b off n (fun j : Nat => .bool ((k0 + j) % 3 == 0)) (i + 1)) := hM.out.step hlt
        have HW2 : Hid (Within lo hi w (wr.setCell ⟨b, off + i, none⟩ (.bool ((k0 + i) % 3 == 0)))) := hW.out.setCell (p := ⟨b, off + i, none⟩) hlo hhi _
        have hb1 : k0 + (i : Int) ≤ 2000000000 := by omega
        have ht3 : (k0 + (i : Int)).tmod 3 = (k0 + (i : Int)) % 3 := Int.tmod_eq_emod_of_nonneg (by omega)
        have hib : (i : Int) < n := by omega
        clear hM hW
        go_wp2
        go_roundw
        case rel => exact ⟨i + 1, by omega, by go_num, by go_num, HM2, HW2⟩
        case measure => simp [intOf]; omega
      · have hin : i = n := by omega
        subst hin
        have HR : Hid (RowFIn wr lo hi (some ⟨b, off, none⟩) i (fun j : Nat => .bool ((k0 + j) % 3 == 0))) := hM.out.row hlo hhi
        clear hM
        go_wp2
        go_ret
        exact ⟨rfl, HR.out, hW.out⟩

set_option maxHeartbeats 1000000 in
theorem heldBoolS_any (a : Option Addr) (n c : Nat) (k0 : Int) (w : World) (hn : n ≤ 1048576) (h0 : 1 ≤ k0) (h1 : k0 ≤ 33554432) (hz : RowF w a n (fun j : Nat => .bool ((k0 + j) % 3 == 0))) :
    Calls Try.prog 58 #[.slice a n c, .int .i64 k0] w fun e w' => e = .returned (.int .i64 (k0 + n)) ∧ Below w.heap.size w w' := by
  by_cases hn0 : n = 0
  · subst hn0
    go_enter Try.func58, Try.ntmps58
    go_wp2
    go_loop [1, 5] (fun k i => k = .int .i64 k0 ∧ i = .int .i64 0) (fun _ _ => 0)
    case atStart => exact ⟨rfl, rfl⟩
    case round =>
      obtain ⟨rfl, rfl⟩ := hrel
      go_wp2
      go_ret
      exact ⟨ret_intM (by simp), Below.refl _ _⟩
  · obtain ⟨b, off, rfl, hb, hc⟩ := hz.resolve_left hn0
    go_enter Try.func58, Try.ntmps58
    go_wp2
    go_loop [1, 5] (fun k si => ∃ i : Nat, i ≤ n ∧ si = .int .i64 i ∧ k = .int .i64 (k0 + i)) (fun _ si => n - (intOf si).toNat)
    case atStart => exact ⟨0, Nat.zero_le _, rfl, by simp⟩
    case round =>
      obtain ⟨i, hi', rfl, rfl⟩ := hrel
      by_cases hlt : i < n
      · have q : w.cell? ⟨b, off + i, none⟩ = some (.bool ((k0 + i) % 3 == 0)) := hc i hlt
        have hb1 : k0 + (i : Int) ≤ 2000000000 := by omega
        have ht3 : (k0 + (i : Int)).tmod 3 = (k0 + (i : Int)) % 3 := Int.tmod_eq_emod_of_nonneg (by omega)
        have hib : (i : Int) < n := by omega
        clear hc
        go_wp2
        go_round
        case rel => exact ⟨i + 1, by omega, by go_num, by go_num⟩
        case measure => simp [intOf]; omega
      · have hin : i = n := by omega
        subst hin
        go_wp2
        go_ret
        exact ⟨rfl, Below.refl _ _⟩

end Go.Proofs.Ytfhfepphccaadaa

/-
  Pictures as the laws measure, copy, compare and mark them.
-/
namespace Go.Proofs.Ytfhfepphccaadaa
open Go.RowKit

def intF (g : Nat → Int) : Nat → Value := fun j => .int .i64 (g j)
def boolF (h : Nat → Bool) : Nat → Value := fun j => .bool (h j)

/-- The two lists of a picture. -/
structure PcAt (w : World) (a1 a3 : Option Addr) (n1 n3 : Nat) (g : Nat → Int) (h : Nat → Bool) : Prop where
  r1 : RowF w a1 n1 (intF g)
  r3 : RowF w a3 n3 (boolF h)
theorem PcAt.later {w w' : World} {a1 a3 : Option Addr} {n1 n3 : Nat} {g : Nat → Int} {h : Nat → Bool} (p : PcAt w a1 a3 n1 n3 g h) (hb : Below w.heap.size w w') : PcAt w' a1 a3 n1 n3 g h := ⟨p.r1.later hb, p.r3.later hb⟩

structure PcIn (w : World) (lo hi : Nat) (a1 a3 : Option Addr) (n1 n3 : Nat) (g : Nat → Int) (h : Nat → Bool) (m1 : Nat) : Prop where
  lo1 : lo ≤ m1
  hi1 : m1 ≤ hi
  top : hi ≤ w.heap.size
  r1 : RowFIn w lo m1 a1 n1 (intF g)
  r3 : RowFIn w m1 hi a3 n3 (boolF h)
theorem PcIn.at {w : World} {lo hi : Nat} {a1 a3 : Option Addr} {n1 n3 : Nat} {g : Nat → Int} {h : Nat → Bool} {m1 : Nat} (p : PcIn w lo hi a1 a3 n1 n3 g h m1) : PcAt w a1 a3 n1 n3 g h := ⟨p.r1.row, p.r3.row⟩
theorem PcIn.later {w w' : World} {lo hi : Nat} {a1 a3 : Option Addr} {n1 n3 : Nat} {g : Nat → Int} {h : Nat → Bool} {m1 : Nat} (p : PcIn w lo hi a1 a3 n1 n3 g h m1) (hb : Below w.heap.size w w') : PcIn w' lo hi a1 a3 n1 n3 g h m1 :=
  ⟨p.lo1, p.hi1, Nat.le_trans p.top hb.size, p.r1.later hb, p.r3.later hb⟩
theorem PcIn.apart {w w' : World} {lo hi lo' hi' : Nat} {a1 a3 : Option Addr} {n1 n3 : Nat} {g : Nat → Int} {h : Nat → Bool} {m1 : Nat} (p : PcIn w lo hi a1 a3 n1 n3 g h m1) (hw : Within lo' hi' w w') (hd : hi ≤ lo' ∨ hi' ≤ lo) : PcIn w' lo hi a1 a3 n1 n3 g h m1 :=
  have h1 := p.lo1
  have h2 := p.hi1
  ⟨h1, h2, by rw [hw.size]; exact p.top, p.r1.apart hw (by omega), p.r3.apart hw (by omega)⟩

/-- What szPicture answers. -/
def SzPc (w : World) (n1 n3 : Nat) (e : Ending) (w' : World) : Prop := ∃ r : Int, e = .returned (.int .i64 r) ∧ (r < 0 ∨ (0 ≤ r ∧ n1 + n3 ≤ 1048576)) ∧ Below w.heap.size w w'

/-- What toPicture answers: the same picture in new memory. -/
def ToPc (w : World) (n1 n3 : Nat) (g : Nat → Int) (L : Int) (h : Nat → Bool) (e : Ending) (w' : World) : Prop :=
  ∃ b1 b3 m1, e = .returned (.agg #[.slice b1 n1 n1, .int .i64 L, .slice b3 n3 n3]) ∧ PcIn w' w.heap.size w'.heap.size b1 b3 n1 n3 g h m1 ∧ Below w.heap.size w w'

set_option maxRecDepth 100000 in
set_option maxHeartbeats 4000000 in
theorem eqPicture_same (a1 a3 b1 b3 : Option Addr) (n1 n3 c1 c3 d1 d3 : Nat) (L : Int) (g : Nat → Int) (h : Nat → Bool) (w : World) (hn : n1 + n3 ≤ 1048576) (hs : PcAt w a1 a3 n1 n3 g h) (hs1 : PcAt w b1 b3 n1 n3 g h) :
    Calls Try.prog 26 #[.agg #[.slice a1 n1 c1, .int .i64 L, .slice a3 n3 c3], .agg #[.slice b1 n1 d1, .int .i64 L, .slice b3 n3 d3]] w fun e w' => e = .returned (.bool true) ∧ Below w.heap.size w w' := by
  have HSC : Hid (PcAt w a1 a3 n1 n3 g h) := hs
  have HSD : Hid (PcAt w b1 b3 n1 n3 g h) := hs1
  have HN : Hid (n1 + n3 ≤ 1048576) := hn
  have hne : (L != L) = false := by simp
  clear hs hs1 hn
  go_enter Try.func26, Try.ntmps26
  go_wp2_with fail
  refine (eqIntS_same a1 b1 n1 c1 d1 g _ (by have := HN.out; omega) (HSC.out.r1.later (bel2 _ _ _)) (HSD.out.r1.later (bel2 _ _ _))).mono ?_
  rintro e w1 ⟨rfl, hb1⟩
  have p1 : w1.cell? ⟨w.heap.size, 1, none⟩ = some (.int .i64 L) := by rw [(bcell hb1).1 _ _ (by simp <;> omega)]; simp [go_sem]
  have p2 : w1.cell? ⟨w.heap.size, 2, none⟩ = some (.slice a3 n3 c3) := by rw [(bcell hb1).1 _ _ (by simp <;> omega)]; simp [go_sem]
  have q1 : w1.cell? ⟨w.heap.size + 1, 1, none⟩ = some (.int .i64 L) := by rw [(bcell hb1).1 _ _ (by simp)]; simp [go_sem]
  have q2 : w1.cell? ⟨w.heap.size + 1, 2, none⟩ = some (.slice b3 n3 d3) := by rw [(bcell hb1).1 _ _ (by simp)]; simp [go_sem]
  have HB1 : Hid (Below w.heap.size w w1) := (bel2 _ _ _).trans (hb1.mono (by simp <;> omega))
  clear hb1
  go_wp2_with fail
  refine (eqBoolS_same a3 b3 n3 c3 d3 h _ (by have := HN.out; omega) (HSC.out.r3.later HB1.out) (HSD.out.r3.later HB1.out)).mono ?_
  rintro e w3 ⟨rfl, hb3⟩
  have HB3 : Hid (Below w.heap.size w w3) := HB1.out.trans (hb3.mono HB1.out.size)
  clear hb3 HB1
  go_wp2
  go_ret
  exact ⟨rfl, HB3.out⟩

/-- What markPicture answers. -/
def MkPc (w : World) (lo hi : Nat) (a1 a3 : Option Addr) (n1 n3 m1 : Nat) (k0 : Int) (e : Ending) (w' : World) : Prop :=
  e = .returned (.int .i64 (k0 + n1 + n3)) ∧ PcIn w' lo hi a1 a3 n1 n3 (fun j => k0 + j) (fun j => (k0 + n1 + j) % 3 == 0) m1 ∧ ∃ u, Below w.heap.size w u ∧ Within lo hi u w'

set_option maxRecDepth 100000 in
set_option maxHeartbeats 4000000 in
theorem markPicture_any (a1 a3 : Option Addr) (n1 n3 c1 c3 m1 lo hi : Nat) (L : Int) (g : Nat → Int) (h : Nat → Bool) (k0 : Int) (w : World) (hn : n1 + n3 ≤ 1048576) (h0 : 1 ≤ k0) (h1 : k0 ≤ 1048576) (hs : PcIn w lo hi a1 a3 n1 n3 g h m1) :
    Calls Try.prog 27 #[.agg #[.slice a1 n1 c1, .int .i64 L, .slice a3 n3 c3], .int .i64 k0] w fun e w' => MkPc w lo hi a1 a3 n1 n3 m1 k0 e w' := by
  have HSC : Hid (PcIn w lo hi a1 a3 n1 n3 g h m1) := hs
  have HT : Hid (hi ≤ w.heap.size) := hs.top
  clear hs
  go_enter Try.func27, Try.ntmps27
  go_wp2_with fail
  have I0 : Hid (PcIn (w.alloc (.cells #[.slice a1 n1 c1, .int .i64 L, .slice a3 n3 c3] 43)) lo hi a1 a3 n1 n3 g h m1) := HSC.out.later (bel0 _ _)
  refine (markIntS_any a1 n1 c1 g k0 _ lo m1 (by omega) h0 (by omega) I0.out.r1).mono ?_
  rintro e w1 ⟨rfl, hr1, hw1⟩
  have p2 : w1.cell? ⟨w.heap.size, 2, none⟩ = some (.slice a3 n3 c3) := by rw [hw1.cell (p := ⟨w.heap.size, 2, none⟩) (.inr (by have := I0.out.hi1; have := HT.out; show m1 ≤ w.heap.size; omega))]; simp [go_sem]
  have HR1 : Hid (RowFIn w1 lo m1 a1 n1 (intF (fun j => k0 + j))) := hr1
  have HR3 : Hid (RowFIn w1 m1 hi a3 n3 (boolF h)) := I0.out.r3.apart hw1 (.inr (Nat.le_refl _))
  have HW1 : Hid (Within lo hi (w.alloc (.cells #[.slice a1 n1 c1, .int .i64 L, .slice a3 n3 c3] 43)) w1) := hw1.wide (Nat.le_refl _) I0.out.hi1
  clear hr1 hw1
  go_wp2_with fail
  refine (markBoolS_any a3 n3 c3 h (k0 + n1) _ m1 hi (by omega) (by omega) (by omega) HR3.out).mono ?_
  rintro e w3 ⟨rfl, hr3, hw3⟩
  have HW3 : Hid (Within lo hi (w.alloc (.cells #[.slice a1 n1 c1, .int .i64 L, .slice a3 n3 c3] 43)) w3) := HW1.out.tr (hw3.wide I0.out.lo1 (Nat.le_refl _))
  have HI : Hid (PcIn w3 lo hi a1 a3 n1 n3 (fun j => k0 + j) (fun j => (k0 + n1 + j) % 3 == 0) m1) := by
    refine ⟨I0.out.lo1, I0.out.hi1, ?_, HR1.out.apart hw3 (.inl (Nat.le_refl _)), hr3⟩
    rw [HW3.out.size]
    exact I0.out.top
  clear hr3 hw3 HR1 HR3 HW1 p2 I0
  go_wp2
  go_ret
  exact ⟨ret_intM rfl, HI.out, _, bel0 _ _, HW3.out⟩

set_option maxRecDepth 100000 in
set_option maxHeartbeats 4000000 in
theorem heldPicture_any (a1 a3 : Option Addr) (n1 n3 c1 c3 : Nat) (L k0 : Int) (w : World) (hn : n1 + n3 ≤ 1048576) (h0 : 1 ≤ k0) (h1 : k0 ≤ 1048576) (hs : PcAt w a1 a3 n1 n3 (fun j => k0 + j) (fun j => (k0 + n1 + j) % 3 == 0)) :
    Calls Try.prog 28 #[.agg #[.slice a1 n1 c1, .int .i64 L, .slice a3 n3 c3], .int .i64 k0] w fun e w' => e = .returned (.int .i64 (k0 + n1 + n3)) ∧ Below w.heap.size w w' := by
  have HSC : Hid (PcAt w a1 a3 n1 n3 (fun j => k0 + j) (fun j => (k0 + n1 + j) % 3 == 0)) := hs
  have hneg1 : ¬ k0 + (n1 : Int) < 0 := by omega
  have hneg2 : ¬ k0 + (n1 : Int) + n3 < 0 := by omega
  clear hs
  go_enter Try.func28, Try.ntmps28
  go_wp2_with fail
  refine (heldIntS_any a1 n1 c1 k0 _ (by omega) h0 (by omega) (HSC.out.r1.later (bel0 _ _))).mono ?_
  rintro e w1 ⟨rfl, hb1⟩
  have p2 : w1.cell? ⟨w.heap.size, 2, none⟩ = some (.slice a3 n3 c3) := by rw [(bcell hb1).1 _ _ (by simp)]; simp [go_sem]
  have HB1 : Hid (Below w.heap.size w w1) := (bel0 _ _).trans (hb1.mono (by simp))
  clear hb1
  go_wp2_with fail
  refine (heldBoolS_any a3 n3 c3 (k0 + n1) _ (by omega) (by omega) (by omega) (HSC.out.r3.later HB1.out)).mono ?_
  rintro e w3 ⟨rfl, hb3⟩
  have HB3 : Hid (Below w.heap.size w w3) := HB1.out.trans (hb3.mono HB1.out.size)
  clear hb3 HB1 p2
  go_wp2
  go_ret
  exact ⟨ret_intM rfl, HB3.out⟩

end Go.Proofs.Ytfhfepphccaadaa
