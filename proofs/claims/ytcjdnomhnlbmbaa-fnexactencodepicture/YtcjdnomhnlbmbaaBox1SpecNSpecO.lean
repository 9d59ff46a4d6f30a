/-
  The box of one argument and the answer's box, in whatever later world; rows that are made and then grow.
-/
import Derived.Test.YtcjdnomhnlbmbaaSpecD
import Derived.Test.YtcjdnomhnlbmbaaNumS
namespace Go.Proofs.Ytcjdnomhnlbmbaa
open Go.RowKit

/-- A struct of two cells lies behind w, and the answer's, still zero, behind that; nothing of w has turned. -/
structure Bx1 (w : World) (u v : Value) (W : World) : Prop where
  q0 : W.cell? ⟨w.heap.size, 0, none⟩ = some u
  q1 : W.cell? ⟨w.heap.size, 1, none⟩ = some v
  r1 : W.cell? ⟨w.heap.size + 1, 0, none⟩ = some (.bool false)
  r2 : W.cell? ⟨w.heap.size + 1, 1, none⟩ = some (.slice none 0 0)
  r3 : ∀ j, W.frozen? ⟨w.heap.size + 1, j, none⟩ = false
  le : w.heap.size + 1 + 1 ≤ W.heap.size
  bel : Below w.heap.size w W

theorem Bx1.start (w : World) (u v : Value) (t t' : TypeId) : Bx1 w u v ((w.alloc (.cells #[u, v] t)).alloc (.cells #[.bool false, .slice none 0 0] t')) := by
  refine ⟨?_, ?_, ?_, ?_, ?_, ?_, bel2 _ _ _⟩
  all_goals simp [go_sem]

theorem Bx1.on {w : World} {u v : Value} {W W' : World} (h : Bx1 w u v W) (hb : Below (w.heap.size + 1 + 1) W W') : Bx1 w u v W' :=
  ⟨(hb.cell (by simp; omega)).trans h.q0, (hb.cell (by simp; omega)).trans h.q1, (hb.cell (by simp)).trans h.r1, (hb.cell (by simp)).trans h.r2, fun j => (hb.frozen (by simp)).trans (h.r3 j), Nat.le_trans h.le hb.size, h.bel.trans (hb.mono (by omega))⟩

theorem Bx1.later {w : World} {u v : Value} {W W' : World} (h : Bx1 w u v W) (hb : Below W.heap.size W W') : Bx1 w u v W' := h.on (hb.mono h.le)

theorem Bx1.held {w : World} {u v : Value} {W W' : World} (h : Bx1 w u v W) (hb : Below (w.heap.size + 1) W W') : W'.cell? ⟨w.heap.size, 0, none⟩ = some u ∧ W'.cell? ⟨w.heap.size, 1, none⟩ = some v ∧ Below (w.heap.size + 1) W W' :=
  ⟨(hb.cell (by simp)).trans h.q0, (hb.cell (by simp)).trans h.q1, hb⟩

/-- A made row is the call's own. -/
theorem own_made (w : World) (n : Nat) (e : TypeId) (k : IntKind) (base : Nat) (hb : base ≤ w.heap.size) (hn : n ≤ maxLen) : (w.alloc (.cells (madeCells #[.int k 0] n) e)).ownsRow base e 1 (.slice (some ⟨w.heap.size, 0, none⟩) n n) (List.replicate n (0 : Int)).length (vals k (List.replicate n 0)) := by
  refine ⟨by simp [vals], .inr ⟨w.heap.size, n, madeCells #[.int k 0] n, by simp, hb, by (first | exact heap_alloc_new _ _ | exact Go.RowKit.heap_alloc_new _ _ | exact Go.heap_alloc_new _ _), by simp, hn, by simp [size_madeCells], ?_⟩⟩
  apply List.ext_getElem?
  intro j
  rw [List.getElem?_take]
  by_cases hj : j < n
  · simp [hj, vals, madeCells, Nat.mod_one]
  · simp [hj, vals]

end Go.Proofs.Ytcjdnomhnlbmbaa

/-
  The model's shifts up.
-/
namespace Go.Proofs.Ytcjdnomhnlbmbaa
open Go.RowKit

theorem pow16 (n : Int) (h : 0 ≤ n) : (65536 : Int) ^ (n / 16).toNat * 2 ^ (n % 16).toNat = 2 ^ n.toNat := by
  rw [show (65536 : Int) = 2 ^ 16 from rfl, ← Int.pow_mul, ← Int.pow_add]
  congr 1
  omega

/-- 2 to a count below 16. -/
theorem two16 (n : Int) : 0 < (2 : Int) ^ (n % 16).toNat ∧ (2 : Int) ^ (n % 16).toNat ≤ 32768 := by
  refine ⟨Int.pow_pos (by decide), ?_⟩
  have h : ∀ k, k < 16 → (2 : Int) ^ k ≤ 32768 := by decide
  exact h _ (by omega)

/-- What l1up hands back. -/
def UpOut (w : World) (n : Nat) (x : Int) (e : Ending) (w' : World) : Prop :=
  ∃ (g : Bool) (a : Option Addr) (c : Nat) (fs : List Int), e = .returned (.agg #[.bool g, .slice a fs.length c]) ∧ fs.length ≤ n ∧ L1 w' g a c fs x ∧ Far w.heap.size a fs ∧ Below w.heap.size w w'

end Go.Proofs.Ytcjdnomhnlbmbaa

/-
  The model's shifts down.
-/
namespace Go.Proofs.Ytcjdnomhnlbmbaa
open Go.RowKit

/-- What l1down hands back. -/
def DownOut (w : World) (n : Nat) (x : Int) (lost : Bool) (e : Ending) (w' : World) : Prop :=
  ∃ (g : Bool) (a : Option Addr) (c : Nat) (fs : List Int), e = .returned (.tuple #[.agg #[.bool g, .slice a fs.length c], .bool lost]) ∧ fs.length ≤ n ∧ L1 w' g a c fs x ∧ Far w.heap.size a fs ∧ Below w.heap.size w w'

/-- The two counts of a shift by n. -/
theorem two16r (n : Int) : (65536 : Int) = 2 ^ (n % 16).toNat * 2 ^ (16 - n % 16).toNat ∧ 0 < (2 : Int) ^ (16 - n % 16).toNat ∧ (2 : Int) ^ (16 - n % 16).toNat ≤ 65536 := by
  refine ⟨?_, Int.pow_pos (by decide), ?_⟩
  · rw [← Int.pow_add, show (n % 16).toNat + (16 - n % 16).toNat = 16 by omega]; rfl
  · have h : ∀ k, k < 17 → (2 : Int) ^ k ≤ 65536 := by decide
    exact h _ (by omega)

/-- A digit of the model's shift down. -/
theorem down_digit2 {q r y y' : Int} (hqr : 65536 = q * r) (hq : 0 < q) (hr : 0 < r) (h0 : 0 ≤ y) (h1 : y < 65536) : (y / q + y' * r % 65536) % 65536 = (y + 65536 * y') / q % 65536 := by
  rw [down_digit hqr hq hr h0 h1]
  have e : y' * r % 65536 = r * (y' % q) := by
    rw [hqr, Int.mul_comm q r, Int.mul_comm y' r, Int.mul_emod_mul_of_pos _ _ hr]
  rw [e]
  have hd0 : 0 ≤ y / q := Int.ediv_nonneg h0 (by omega)
  have hd1 : y / q < r := Int.ediv_lt_of_lt_mul hq (by rw [Int.mul_comm r q, ← hqr]; exact h1)
  have hm0 := Int.emod_nonneg y' (show q ≠ 0 by omega)
  have hm1 := Int.emod_lt_of_pos y' hq
  have h3 : r * (y' % q) ≤ r * (q - 1) := Int.mul_le_mul_of_nonneg_left (by omega) (by omega)
  have h4 : 0 ≤ r * (y' % q) := Int.mul_nonneg (by omega) hm0
  rw [Int.mul_sub, Int.mul_one, Int.mul_comm r q, ← hqr] at h3
  exact Int.emod_eq_of_lt (by omega) (by omega)

/-- A shift down by more than all digits. -/
theorem cut_all {ds : List Int} {n : Int} (hd : Dig 65536 ds) (n0 : 0 ≤ n) (h : (ds.length : Int) ≤ n / 16) : val 65536 ds / 2 ^ n.toNat = 0 ∧ (val 65536 ds % 2 ^ n.toNat ≠ 0 ↔ anyN ds = true) := by
  have h0 := val_nonneg (B := 65536) (by decide) hd
  have h1 := val_lt_pow (B := 65536) (by decide) hd
  have h2 : (65536 : Int) ^ ds.length ≤ 2 ^ n.toNat := by
    rw [show (65536 : Int) = 2 ^ 16 from rfl, ← Int.pow_mul]
    exact two_pow_le (by omega)
  refine ⟨Int.ediv_eq_zero_of_lt h0 (by omega), ?_⟩
  rw [Int.emod_eq_of_lt h0 (by omega), anyN_val (by decide) hd]

theorem cut_some {ds : List Int} {n : Int} (hd : Dig 65536 ds) (n0 : 0 ≤ n) (h : n / 16 < (ds.length : Int)) : val 65536 (downL 65536 (2 ^ (n % 16).toNat) (ds.drop (n / 16).toNat)) = val 65536 ds / 2 ^ n.toNat ∧ (val 65536 ds % 2 ^ n.toNat ≠ 0 ↔ (anyN (ds.take (n / 16).toNat) || (ds.getD (n / 16).toNat 0 % 2 ^ (n % 16).toNat != 0)) = true) := by
  obtain ⟨e1, e2, e3⟩ := two16r n
  obtain ⟨e4, _⟩ := two16 n
  have hs : (n / 16).toNat ≤ ds.length := by omega
  rw [← pow16 n n0]
  refine ⟨val_cut e1 e4 e2 (by decide) hd hs, ?_⟩
  rw [ne_eq, cut_exact e4 ⟨_, e1⟩ (by decide) hd hs]
  have h2 := anyN_val (B := 65536) (by decide) (hd.take (n / 16).toNat)
  rw [Bool.or_eq_true, h2, bne_iff_ne]
  by_cases h3 : val 65536 (ds.take (n / 16).toNat) = 0
  · simp [h3]
  · simp [h3]

end Go.Proofs.Ytcjdnomhnlbmbaa
