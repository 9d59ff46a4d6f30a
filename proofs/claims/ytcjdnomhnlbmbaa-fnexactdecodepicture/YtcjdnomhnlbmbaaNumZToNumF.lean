/-
  Plain mathematics: how often 2 divides a number that is written in digits.
-/
import Derived.Test.YtcjdnomhnlbmbaaScSNumS
import Derived.Test.YtcjdnomhnlbmbaaSpecD
import Derived.Test.YtcjdnomhnlbmbaaBox1
import Derived.Deep.RegionHeld3
import Ieee.Arith
namespace Go.Proofs.Ytcjdnomhnlbmbaa

/-- The number is 2^t times an odd one. -/
def Twos (m : Int) (t : Nat) : Prop := ∃ q : Int, m = 2 ^ t * q ∧ q % 2 = 1

/-- The first digit that is not 0 decides. -/
theorem twos_of {b : Nat} {ds : List Int} {j k : Nat} {o : Int} (hj : j < ds.length) (h0 : val (2 ^ b) (ds.take j) = 0) (hd : ds.getD j 0 = 2 ^ k * o) (ho : o % 2 = 1) (hk : k < b) : Twos (val (2 ^ b) ds) (b * j + k) := by
  have hs := val_parts (2 ^ b) ds j (by omega)
  rw [h0, Int.zero_add] at hs
  have hh : val (2 ^ b) (ds.drop j) = ds.getD j 0 + 2 ^ b * val (2 ^ b) (ds.drop (j + 1)) := by
    rw [List.drop_eq_getElem_cons hj]
    simp [val, List.getD_eq_getElem?_getD, hj]
  refine ⟨o + 2 ^ (b - k) * val (2 ^ b) (ds.drop (j + 1)), ?_, ?_⟩
  · have e : (2 : Int) ^ b * val (2 ^ b) (ds.drop (j + 1)) = 2 ^ k * (2 ^ (b - k) * val (2 ^ b) (ds.drop (j + 1))) := by
      rw [← Int.mul_assoc, ← Int.pow_add, show k + (b - k) = b by omega]
    rw [hs, hh, hd, Int.pow_add, Int.pow_mul, Int.mul_assoc, Int.mul_add (2 ^ k) o, ← e]
  · obtain ⟨c, hc⟩ : ∃ c, b - k = c + 1 := ⟨b - k - 1, by omega⟩
    rw [hc, Int.pow_succ, Int.mul_comm (2 ^ c) 2, Int.mul_assoc, Int.add_mul_emod_self_left]
    exact ho

theorem Twos.emod {m : Int} {t : Nat} (h : Twos m t) : m % 2 ^ t = 0 := by
  obtain ⟨q, hq, _⟩ := h
  rw [hq]
  exact Int.mul_emod_right _ _

theorem Twos.ediv {m : Int} {t : Nat} (h : Twos m t) : m = m / 2 ^ t * 2 ^ t ∧ (m / 2 ^ t) % 2 = 1 := by
  obtain ⟨q, hq, h1⟩ := h
  have hp : (0 : Int) < 2 ^ t := Int.pow_pos (by decide)
  have e : m / 2 ^ t = q := by rw [hq]; exact Int.mul_ediv_cancel_left _ (by omega)
  rw [e]
  exact ⟨by rw [hq]; exact Int.mul_comm _ _, h1⟩

/-- A power of two that is at most a digit. -/
theorem pow_lt_of {k b : Nat} {v d : Int} (hd : d = 2 ^ k * v) (hv : 0 < v) (hlt : d < 2 ^ b) : k < b := by
  by_cases h : k < b
  · exact h
  · have h1 : (2 : Int) ^ b ≤ 2 ^ k := two_pow_le (by omega)
    have h2 : (2 : Int) ^ k * 1 ≤ 2 ^ k * v := Int.mul_le_mul_of_nonneg_left (by omega) (Int.le_of_lt (Int.pow_pos (by decide)))
    omega

theorem anyN_false {B : Int} (hB : 0 < B) {zs : List Int} (h : Dig B zs) : anyN zs = false ↔ val B zs = 0 := by
  have := anyN_val hB h
  cases hz : anyN zs
  · rw [hz] at this
    simp at this
    simp [this]
  · rw [hz] at this
    simp at this
    simp [this]

end Go.Proofs.Ytcjdnomhnlbmbaa

/-
  The model: how often 2 divides a number.
-/
namespace Go.Proofs.Ytcjdnomhnlbmbaa
open Go.RowKit

end Go.Proofs.Ytcjdnomhnlbmbaa

/-
  The model's shifts up.
-/
namespace Go.Proofs.Ytcjdnomhnlbmbaa
open Go.RowKit

theorem pow16 (n : Int) (h : 0 ≤ n) : (65536 : Int) ^ (n / 16).toNat * 2 ^ (n % 16).toNat = 2 ^ n.toNat := by
  rw [show (65536 : Int) = 2 ^ 16 from rfl, ← Int.pow_mul, ← Int.pow_add]
  congr 1
  omega

/-- 2 to a count below 16. -/
theorem two16 (n : Int) : 0 < (2 : Int) ^ (n % 16).toNat ∧ (2 : Int) ^ (n % 16).toNat ≤ 32768 := by
  refine ⟨Int.pow_pos (by decide), ?_⟩
  have h : ∀ k, k < 16 → (2 : Int) ^ k ≤ 32768 := by decide
  exact h _ (by omega)

/-- What l1up hands back. -/
def UpOut (w : World) (n : Nat) (x : Int) (e : Ending) (w' : World) : Prop :=
  ∃ (g : Bool) (a : Option Addr) (c : Nat) (fs : List Int), e = .returned (.agg #[.bool g, .slice a fs.length c]) ∧ fs.length ≤ n ∧ L1 w' g a c fs x ∧ Far w.heap.size a fs ∧ Below w.heap.size w w'

end Go.Proofs.Ytcjdnomhnlbmbaa

/-
  The model's shifts down.
-/
namespace Go.Proofs.Ytcjdnomhnlbmbaa
open Go.RowKit

/-- What l1down hands back. -/
def DownOut (w : World) (n : Nat) (x : Int) (lost : Bool) (e : Ending) (w' : World) : Prop :=
  ∃ (g : Bool) (a : Option Addr) (c : Nat) (fs : List Int), e = .returned (.tuple #[.agg #[.bool g, .slice a fs.length c], .bool lost]) ∧ fs.length ≤ n ∧ L1 w' g a c fs x ∧ Far w.heap.size a fs ∧ Below w.heap.size w w'

/-- The two counts of a shift by n. -/
theorem two16r (n : Int) : (65536 : Int) = 2 ^ (n % 16).toNat * 2 ^ (16 - n % 16).toNat ∧ 0 < (2 : Int) ^ (16 - n % 16).toNat ∧ (2 : Int) ^ (16 - n % 16).toNat ≤ 65536 := by
  refine ⟨?_, Int.pow_pos (by decide), ?_⟩
  · rw [← Int.pow_add, show (n % 16).toNat + (16 - n % 16).toNat = 16 by omega]; rfl
  · have h : ∀ k, k < 17 → (2 : Int) ^ k ≤ 65536 := by decide
    exact h _ (by omega)

/-- A digit of the model's shift down. -/
theorem down_digit2 {q r y y' : Int} (hqr : 65536 = q * r) (hq : 0 < q) (hr : 0 < r) (h0 : 0 ≤ y) (h1 : y < 65536) : (y / q + y' * r % 65536) % 65536 = (y + 65536 * y') / q % 65536 := by
  rw [down_digit hqr hq hr h0 h1]
  have e : y' * r % 65536 = r * (y' % q) := by
    rw [hqr, Int.mul_comm q r, Int.mul_comm y' r, Int.mul_emod_mul_of_pos _ _ hr]
  rw [e]
  have hd0 : 0 ≤ y / q := Int.ediv_nonneg h0 (by omega)
  have hd1 : y / q < r := Int.ediv_lt_of_lt_mul hq (by rw [Int.mul_comm r q, ← hqr]; exact h1)
  have hm0 := Int.emod_nonneg y' (show q ≠ 0 by omega)
  have hm1 := Int.emod_lt_of_pos y' hq
  have h3 : r * (y' % q) ≤ r * (q - 1) := Int.mul_le_mul_of_nonneg_left (by omega) (by omega)
  have h4 : 0 ≤ r * (y' % q) := Int.mul_nonneg (by omega) hm0
  rw [Int.mul_sub, Int.mul_one, Int.mul_comm r q, ← hqr] at h3
  exact Int.emod_eq_of_lt (by omega) (by omega)

/-- A shift down by more than all digits. -/
theorem cut_all {ds : List Int} {n : Int} (hd : Dig 65536 ds) (n0 : 0 ≤ n) (h : (ds.length : Int) ≤ n / 16) : val 65536 ds / 2 ^ n.toNat = 0 ∧ (val 65536 ds % 2 ^ n.toNat ≠ 0 ↔ anyN ds = true) := by
  have h0 := val_nonneg (B := 65536) (by decide) hd
  have h1 := val_lt_pow (B := 65536) (by decide) hd
  have h2 : (65536 : Int) ^ ds.length ≤ 2 ^ n.toNat := by
    rw [show (65536 : Int) = 2 ^ 16 from rfl, ← Int.pow_mul]
    exact two_pow_le (by omega)
  refine ⟨Int.ediv_eq_zero_of_lt h0 (by omega), ?_⟩
  rw [Int.emod_eq_of_lt h0 (by omega), anyN_val (by decide) hd]

theorem cut_some {ds : List Int} {n : Int} (hd : Dig 65536 ds) (n0 : 0 ≤ n) (h : n / 16 < (ds.length : Int)) : val 65536 (downL 65536 (2 ^ (n % 16).toNat) (ds.drop (n / 16).toNat)) = val 65536 ds / 2 ^ n.toNat ∧ (val 65536 ds % 2 ^ n.toNat ≠ 0 ↔ (anyN (ds.take (n / 16).toNat) || (ds.getD (n / 16).toNat 0 % 2 ^ (n % 16).toNat != 0)) = true) := by
  obtain ⟨e1, e2, e3⟩ := two16r n
  obtain ⟨e4, _⟩ := two16 n
  have hs : (n / 16).toNat ≤ ds.length := by omega
  rw [← pow16 n n0]
  refine ⟨val_cut e1 e4 e2 (by decide) hd hs, ?_⟩
  rw [ne_eq, cut_exact e4 ⟨_, e1⟩ (by decide) hd hs]
  have h2 := anyN_val (B := 65536) (by decide) (hd.take (n / 16).toNat)
  rw [Bool.or_eq_true, h2, bne_iff_ne]
  by_cases h3 : val 65536 (ds.take (n / 16).toNat) = 0
  · simp [h3]
  · simp [h3]

end Go.Proofs.Ytcjdnomhnlbmbaa

/-
  The model's differences of magnitudes.
-/
namespace Go.Proofs.Ytcjdnomhnlbmbaa
open Go.RowKit

end Go.Proofs.Ytcjdnomhnlbmbaa

/-
  Signs turned.
-/
namespace Go.Proofs.Ytcjdnomhnlbmbaa
open Go.RowKit

theorem sg_not (g : Bool) (n : Int) : sg (!g) n = - sg g n := by cases g <;> simp [sg]

end Go.Proofs.Ytcjdnomhnlbmbaa

/-
  The model's sums.
-/
namespace Go.Proofs.Ytcjdnomhnlbmbaa
open Go.RowKit

/-- What a region of l1add holds of memory: both boxes, and that nothing below the answer's own box has turned. -/
def AddS (w : World) (g g' : Bool) (v v' : Value) (w0 w1 : World) : Prop :=
  w1.cell? ⟨w.heap.size, 0, none⟩ = some (.bool g) ∧ w1.cell? ⟨w.heap.size, 1, none⟩ = some v ∧ w1.cell? ⟨w.heap.size + 1, 0, none⟩ = some (.bool g') ∧ w1.cell? ⟨w.heap.size + 1, 1, none⟩ = some v' ∧ Below (w.heap.size + 1 + 1) w0 w1

theorem addS_of {w w0 w1 : World} {g g' : Bool} {v v' : Value} (h : AddS w g g' v v' w0 w0) (hb : Below (w.heap.size + 1 + 1) w0 w1) : w1.cell? ⟨w.heap.size, 0, none⟩ = some (.bool g) ∧ w1.cell? ⟨w.heap.size, 1, none⟩ = some v ∧ w1.cell? ⟨w.heap.size + 1, 0, none⟩ = some (.bool g') ∧ w1.cell? ⟨w.heap.size + 1, 1, none⟩ = some v' ∧ Below (w.heap.size + 1 + 1) w0 w1 :=
  ⟨(hb.cell (by simp; omega)).trans h.1, (hb.cell (by simp; omega)).trans h.2.1, (hb.cell (by simp)).trans h.2.2.1, (hb.cell (by simp)).trans h.2.2.2.1, hb⟩

/-- The world behind the boxes of two arguments and of the answer. -/
theorem addF (w : World) (g g' : Bool) (v v' z : Value) (t t' t2 : TypeId) (W0 : World) (hW : W0 = ((w.alloc (.cells #[.bool g, v] t)).alloc (.cells #[.bool g', v'] t')).alloc (.cells #[.bool false, z] t2)) :
    AddS w g g' v v' W0 W0 ∧ W0.cell? ⟨w.heap.size + 1 + 1, 0, none⟩ = some (.bool false) ∧ W0.cell? ⟨w.heap.size + 1 + 1, 1, none⟩ = some z ∧ (∀ j, W0.frozen? ⟨w.heap.size + 1 + 1, j, none⟩ = false) ∧ W0.heap.size = w.heap.size + 1 + 1 + 1 ∧ Below w.heap.size w W0 := by
  subst hW
  refine ⟨⟨?_, ?_, ?_, ?_, Below.refl _ _⟩, ?_, ?_, ?_, ?_, bel3 _ _ _ _⟩
  all_goals simp [go_sem]

end Go.Proofs.Ytcjdnomhnlbmbaa

/-
  The model's sums of numbers of two signs; differences, signs, order.
-/
namespace Go.Proofs.Ytcjdnomhnlbmbaa
open Go.RowKit

/-- The boxes of two arguments and of the answer, in whatever later world. -/
structure AddF (w : World) (g g' : Bool) (v v' z : Value) (W : World) : Prop where
  s : AddS w g g' v v' W W
  r1 : W.cell? ⟨w.heap.size + 1 + 1, 0, none⟩ = some (.bool false)
  r2 : W.cell? ⟨w.heap.size + 1 + 1, 1, none⟩ = some z
  r3 : ∀ j, W.frozen? ⟨w.heap.size + 1 + 1, j, none⟩ = false
  le : w.heap.size + 1 + 1 + 1 ≤ W.heap.size
  bel : Below w.heap.size w W

theorem AddF.start (w : World) (g g' : Bool) (v v' z : Value) (t t' t2 : TypeId) : AddF w g g' v v' z (((w.alloc (.cells #[.bool g, v] t)).alloc (.cells #[.bool g', v'] t')).alloc (.cells #[.bool false, z] t2)) := by
  obtain ⟨h1, h2, h3, h4, h5, h6⟩ := addF w g g' v v' z t t' t2 _ rfl
  exact ⟨h1, h2, h3, h4, by omega, h6⟩

theorem AddF.later {w : World} {g g' : Bool} {v v' z : Value} {W W' : World} (h : AddF w g g' v v' z W) (hb : Below W.heap.size W W') : AddF w g g' v v' z W' := by
  have hle := h.le
  obtain ⟨a1, a2, a3, a4, _⟩ := addS_of h.s (hb.mono (by omega))
  exact ⟨⟨a1, a2, a3, a4, Below.refl _ _⟩, (hb.cell (by simp; omega)).trans h.r1, (hb.cell (by simp; omega)).trans h.r2, fun j => (hb.frozen (by simp; omega)).trans (h.r3 j), Nat.le_trans h.le hb.size, h.bel.trans (hb.mono (by omega))⟩

theorem cmpL_ge {B : Int} (hB : 0 < B) {xs ys : List Int} (hx : Canon B xs) (hy : Canon B ys) (h : 0 ≤ cmpL xs ys) : ys.length ≤ xs.length ∧ val B ys ≤ val B xs := by
  have hc := cmpL_val hB hx hy
  constructor
  · by_cases hl : xs.length < ys.length
    · unfold cmpL at h
      rw [if_neg (by omega), if_pos hl] at h
      omega
    · omega
  · rcases sgn_cases (val B xs - val B ys) with ⟨h1, h2⟩ | ⟨h1, h2⟩ | ⟨h1, h2⟩
    · omega
    · omega
    · omega

theorem cmpL_lt {B : Int} (hB : 0 < B) {xs ys : List Int} (hx : Canon B xs) (hy : Canon B ys) (h : cmpL xs ys < 0) : xs.length ≤ ys.length ∧ val B xs ≤ val B ys := by
  have hc := cmpL_val hB hx hy
  constructor
  · by_cases hl : ys.length < xs.length
    · unfold cmpL at h
      rw [if_neg (by omega), if_neg (by omega)] at h
      omega
    · omega
  · rcases sgn_cases (val B xs - val B ys) with ⟨h1, h2⟩ | ⟨h1, h2⟩ | ⟨h1, h2⟩
    · omega
    · omega
    · omega

end Go.Proofs.Ytcjdnomhnlbmbaa

/-
  Dyadic numbers: boxes of three cells; the model's normal forms.
-/
namespace Go.Proofs.Ytcjdnomhnlbmbaa
open Go.RowKit

/-- A struct of three cells lies behind w, and the answer's, still zero, behind that; nothing of w has turned. -/
structure Bx3 (w : World) (u v e : Value) (W : World) : Prop where
  q0 : W.cell? ⟨w.heap.size, 0, none⟩ = some u
  q1 : W.cell? ⟨w.heap.size, 1, none⟩ = some v
  q2 : W.cell? ⟨w.heap.size, 2, none⟩ = some e
  r1 : W.cell? ⟨w.heap.size + 1, 0, none⟩ = some (.bool false)
  r2 : W.cell? ⟨w.heap.size + 1, 1, none⟩ = some (.slice none 0 0)
  r3 : W.cell? ⟨w.heap.size + 1, 2, none⟩ = some (.int .i64 0)
  r4 : ∀ j, W.frozen? ⟨w.heap.size + 1, j, none⟩ = false
  le : w.heap.size + 1 + 1 ≤ W.heap.size
  bel : Below w.heap.size w W

theorem Bx3.start (w : World) (u v e : Value) (t t' : TypeId) : Bx3 w u v e ((w.alloc (.cells #[u, v, e] t)).alloc (.cells #[.bool false, .slice none 0 0, .int .i64 0] t')) := by
  refine ⟨?_, ?_, ?_, ?_, ?_, ?_, ?_, ?_, bel2 _ _ _⟩
  all_goals simp [go_sem]

theorem Bx3.later {w : World} {u v e : Value} {W W' : World} (h : Bx3 w u v e W) (hb : Below W.heap.size W W') : Bx3 w u v e W' := by
  have hl := h.le
  exact ⟨(hb.cell (by simp; omega)).trans h.q0, (hb.cell (by simp; omega)).trans h.q1, (hb.cell (by simp; omega)).trans h.q2, (hb.cell (by simp; omega)).trans h.r1, (hb.cell (by simp; omega)).trans h.r2, (hb.cell (by simp; omega)).trans h.r3, fun j => (hb.frozen (by simp; omega)).trans (h.r4 j), Nat.le_trans h.le hb.size, h.bel.trans (hb.mono (by omega))⟩

/-- What a function of the model hands back that answers an l2dy: m * 2^e. -/
def L2Out (w : World) (n : Nat) (m e' : Int) (e : Ending) (w' : World) : Prop :=
  ∃ (g : Bool) (a : Option Addr) (c : Nat) (fs : List Int), e = .returned (.agg #[.bool g, .slice a fs.length c, .int .i64 e']) ∧ fs.length ≤ n ∧ L1 w' g a c fs m ∧ Far w.heap.size a fs ∧ Below w.heap.size w w'

/-- m * 2^e' is x * 2^e0 in its normal form. -/
def NormOf (x e0 m e' : Int) (T : Nat) : Prop := (x = 0 ∧ m = 0 ∧ e' = 0) ∨ (x ≠ 0 ∧ ∃ t : Nat, x = m * 2 ^ t ∧ e' = e0 + t ∧ m % 2 = 1 ∧ t ≤ T)

/-- What l2norm hands back. -/
def NormOut (w : World) (n : Nat) (x e0 : Int) (T : Nat) (e : Ending) (w' : World) : Prop := ∃ m e', NormOf x e0 m e' T ∧ L2Out w n m e' e w'

theorem L1.nil (w : World) : L1 w false none 0 [] 0 := ⟨⟨by simp, fun _ => rfl, .inl rfl⟩, ⟨Dig.nil _, rfl⟩, by simp [sg, val], (fun h => by cases h), by unfold maxLen; omega⟩

theorem norm_of {g : Bool} {v x : Int} {t : Nat} (hx : x = sg g v) (ht : Twos v t) : x = sg g (v / 2 ^ t) * 2 ^ t ∧ sg g (v / 2 ^ t) % 2 = 1 := by
  obtain ⟨h1, h2⟩ := ht.ediv
  cases g
  · have hx : x = v := hx
    refine ⟨?_, h2⟩
    rw [hx]
    exact h1
  · simp only [sg, if_true] at hx ⊢
    refine ⟨?_, by omega⟩
    rw [hx, Int.neg_mul, ← h1]

end Go.Proofs.Ytcjdnomhnlbmbaa

/-
  Boxes of three cells, held over a region.
-/
namespace Go.Proofs.Ytcjdnomhnlbmbaa
open Go.RowKit

theorem Bx3.held {w : World} {u v e : Value} {W W' : World} (h : Bx3 w u v e W) (hb : Below (w.heap.size + 1) W W') : W'.cell? ⟨w.heap.size, 0, none⟩ = some u ∧ W'.cell? ⟨w.heap.size, 1, none⟩ = some v ∧ W'.cell? ⟨w.heap.size, 2, none⟩ = some e ∧ Below (w.heap.size + 1) W W' :=
  ⟨(hb.cell (by simp)).trans h.q0, (hb.cell (by simp)).trans h.q1, (hb.cell (by simp)).trans h.q2, hb⟩

end Go.Proofs.Ytcjdnomhnlbmbaa

/-
  The model's sums of dyadic numbers.
-/
namespace Go.Proofs.Ytcjdnomhnlbmbaa
open Go.RowKit

/-- The boxes of two l2dy and of the answer, in whatever later world. -/
structure Bx7 (w : World) (u v e u' v' e' : Value) (W : World) : Prop where
  q0 : W.cell? ⟨w.heap.size, 0, none⟩ = some u
  q1 : W.cell? ⟨w.heap.size, 1, none⟩ = some v
  q2 : W.cell? ⟨w.heap.size, 2, none⟩ = some e
  p0 : W.cell? ⟨w.heap.size + 1, 0, none⟩ = some u'
  p1 : W.cell? ⟨w.heap.size + 1, 1, none⟩ = some v'
  p2 : W.cell? ⟨w.heap.size + 1, 2, none⟩ = some e'
  r1 : W.cell? ⟨w.heap.size + 1 + 1, 0, none⟩ = some (.bool false)
  r2 : W.cell? ⟨w.heap.size + 1 + 1, 1, none⟩ = some (.slice none 0 0)
  r3 : W.cell? ⟨w.heap.size + 1 + 1, 2, none⟩ = some (.int .i64 0)
  r4 : ∀ j, W.frozen? ⟨w.heap.size + 1 + 1, j, none⟩ = false
  le : w.heap.size + 1 + 1 + 1 ≤ W.heap.size
  bel : Below w.heap.size w W

theorem Bx7.start (w : World) (u v e u' v' e' : Value) (t t' t2 : TypeId) : Bx7 w u v e u' v' e' (((w.alloc (.cells #[u, v, e] t)).alloc (.cells #[u', v', e'] t')).alloc (.cells #[.bool false, .slice none 0 0, .int .i64 0] t2)) := by
  refine ⟨?_, ?_, ?_, ?_, ?_, ?_, ?_, ?_, ?_, ?_, ?_, bel3 _ _ _ _⟩
  all_goals simp [go_sem]

theorem Bx7.later {w : World} {u v e u' v' e' : Value} {W W' : World} (h : Bx7 w u v e u' v' e' W) (hb : Below W.heap.size W W') : Bx7 w u v e u' v' e' W' := by
  have hl := h.le
  exact ⟨(hb.cell (by simp; omega)).trans h.q0, (hb.cell (by simp; omega)).trans h.q1, (hb.cell (by simp; omega)).trans h.q2, (hb.cell (by simp; omega)).trans h.p0, (hb.cell (by simp; omega)).trans h.p1, (hb.cell (by simp; omega)).trans h.p2,
    (hb.cell (by simp; omega)).trans h.r1, (hb.cell (by simp; omega)).trans h.r2, (hb.cell (by simp; omega)).trans h.r3, fun j => (hb.frozen (by simp; omega)).trans (h.r4 j), Nat.le_trans h.le hb.size, h.bel.trans (hb.mono (by omega))⟩

theorem Bx7.held {w : World} {u v e u' v' e' : Value} {W W' : World} (h : Bx7 w u v e u' v' e' W) (hb : Below (w.heap.size + 1 + 1) W W') : W'.cell? ⟨w.heap.size, 0, none⟩ = some u ∧ W'.cell? ⟨w.heap.size, 1, none⟩ = some v ∧ W'.cell? ⟨w.heap.size, 2, none⟩ = some e ∧ W'.cell? ⟨w.heap.size + 1, 0, none⟩ = some u' ∧ W'.cell? ⟨w.heap.size + 1, 1, none⟩ = some v' ∧ W'.cell? ⟨w.heap.size + 1, 2, none⟩ = some e' ∧ Below (w.heap.size + 1 + 1) W W' :=
  ⟨(hb.cell (by simp; omega)).trans h.q0, (hb.cell (by simp; omega)).trans h.q1, (hb.cell (by simp; omega)).trans h.q2, (hb.cell (by simp)).trans h.p0, (hb.cell (by simp)).trans h.p1, (hb.cell (by simp)).trans h.p2, hb⟩

theorem wrap64_id {n : Int} (h0 : -9223372036854775808 ≤ n) (h1 : n ≤ 9223372036854775807) : IntKind.i64.wrap n = n := by
  simp [IntKind.wrap, IntKind.bits, IntKind.signed]
  omega

/-- m1 * 2^e1 + m2 * 2^e2 at the lower of the two exponents. -/
def sumAt (m1 e1 m2 e2 : Int) : Int := m1 * 2 ^ (e1 - min e1 e2).toNat + m2 * 2 ^ (e2 - min e1 e2).toNat

end Go.Proofs.Ytcjdnomhnlbmbaa

/-
  Plain mathematics: dyadic numbers held at one low exponent.
-/
namespace Go.Proofs.Ytcjdnomhnlbmbaa

/-- m * 2^e in units of 2^(-K). -/
def atK (K m e : Int) : Int := m * 2 ^ (e + K).toNat

theorem sumAt_at {K m e m' e' : Int} (h : 0 ≤ e + K) (h' : 0 ≤ e' + K) : sumAt m e m' e' * 2 ^ (min e e' + K).toNat = atK K m e + atK K m' e' := by
  unfold sumAt atK
  rw [Int.add_mul, Int.mul_assoc, Int.mul_assoc, ← Int.pow_add, ← Int.pow_add]
  rw [show (e - min e e').toNat + (min e e' + K).toNat = (e + K).toNat by omega, show (e' - min e e').toNat + (min e e' + K).toNat = (e' + K).toNat by omega]

theorem NormOf.at {K x e0 m e' : Int} {T : Nat} (h : NormOf x e0 m e' T) (hK : 0 ≤ e0 + K) : atK K m e' = atK K x e0 := by
  unfold atK
  rcases h with ⟨h1, h2, _⟩ | ⟨_, t, h2, h3, _⟩
  · rw [h1, h2]; simp
  · rw [h2, h3, Int.mul_assoc, ← Int.pow_add]
    congr 2
    omega

theorem sgn_pos_mul {x p : Int} (hp : 0 < p) : sgn (x * p) = sgn x := by
  rcases sgn_cases x with ⟨h1, h2⟩ | ⟨h1, h2⟩ | ⟨h1, h2⟩
  · rw [h2]
    have : x * p < 0 := Int.mul_neg_of_neg_of_pos h1 hp
    unfold sgn
    rw [if_pos this]
  · rw [h2, h1]
    simp [sgn]
  · rw [h2]
    have : 0 < x * p := Int.mul_pos h1 hp
    unfold sgn
    rw [if_neg (by omega), if_neg (by omega)]

/-- The sign of a sum, at whatever exponent. -/
theorem sgn_sumAt {K m e m' e' : Int} (h : 0 ≤ e + K) (h' : 0 ≤ e' + K) : sgn (sumAt m e m' e') = sgn (atK K m e + atK K m' e') := by
  rw [← sumAt_at h h', sgn_pos_mul (Int.pow_pos (by decide))]

theorem atK_neg (K m e : Int) : atK K (-m) e = - atK K m e := by unfold atK; rw [Int.neg_mul]

theorem NormOf.bound {x e0 m e' : Int} {T : Nat} (h : NormOf x e0 m e' T) : (e' = 0 ∧ m = 0) ∨ (e0 ≤ e' ∧ e' ≤ e0 + T) := by
  rcases h with ⟨_, h2, h3⟩ | ⟨_, t, _, h3, _, h5⟩
  · exact .inl ⟨h3, h2⟩
  · exact .inr ⟨by omega, by omega⟩

end Go.Proofs.Ytcjdnomhnlbmbaa

/-
  Plain mathematics: the bits of a float of 32 bits, and the order of two floats.
-/
namespace Go.Proofs.Ytcjdnomhnlbmbaa

/-- The value of the bits of a float, as a whole number of the last place of its own. -/
def fMag (b : Int) : Int := if b / 8388608 % 256 = 0 then b % 8388608 else b % 8388608 + 8388608
def fExp (b : Int) : Int := if b / 8388608 % 256 = 0 then 1 else b / 8388608 % 256
def fNum (b : Int) : Int := if 2147483648 ≤ b then -(fMag b) else fMag b
def fFin (b : Int) : Bool := b / 8388608 % 256 != 255
/-- The value in units of 2^-149. -/
def fVal (b : Int) : Int := atK 150 (fNum b) (fExp b - 150)

theorem single_read {b : Int} (h0 : 0 ≤ b) (h1 : b < 4294967296) (hf : fFin b = true) : Ieee.single.read b.toNat = .number (decide (2147483648 ≤ b)) (fMag b).toNat (fExp b - 150) := by
  have hf' : b / 8388608 % 256 ≠ 255 := by simpa [fFin] using hf
  obtain ⟨n, rfl⟩ := Int.eq_ofNat_of_zero_le h0
  have e1 : Ieee.single.signWeight = 2147483648 := by decide
  have e2 : Ieee.single.binade = 8388608 := by decide
  have e3 : Ieee.single.infRung = 2139095040 := by decide
  have e4 : Ieee.single.leastPlace = -149 := by decide
  unfold Ieee.Format.read
  simp only [e1, e2, e3, e4, Int.toNat_natCast]
  have hs : (n / 2147483648 % 2 == 1) = decide ((2147483648 : Int) ≤ (n : Int)) := by
    by_cases h : 2147483648 ≤ n
    · have : n / 2147483648 % 2 = 1 := by omega
      rw [this]
      symm
      simp
      omega
    · have : n / 2147483648 % 2 = 0 := by omega
      rw [this]
      symm
      simp
      omega
  rw [hs]
  by_cases hr : n % 2147483648 < 8388608
  · have hz : (n : Int) / 8388608 % 256 = 0 := by omega
    rw [if_pos hr]
    simp only [fMag, fExp, hz, if_true]
    congr 1
    omega
  · have hz : ¬ ((n : Int) / 8388608 % 256 = 0) := by omega
    rw [if_neg hr, if_pos (by omega)]
    simp only [fMag, fExp, hz, if_false]
    congr 1 <;> omega

theorem fMag_nn {b : Int} (_h0 : 0 ≤ b) : 0 ≤ fMag b := by
  unfold fMag
  split <;> omega

theorem fExp_pos {b : Int} (_h0 : 0 ≤ b) : 1 ≤ fExp b ∧ fExp b ≤ 255 := by
  unfold fExp
  split <;> omega

theorem signed_eq {b : Int} (h0 : 0 ≤ b) (k : Nat) : Ieee.signed (decide (2147483648 ≤ b)) (fMag b).toNat k = fNum b * 2 ^ k := by
  have hm := fMag_nn h0
  have e : (((fMag b).toNat <<< k : Nat) : Int) = fMag b * 2 ^ k := by
    rw [Nat.shiftLeft_eq]
    push_cast
    rw [Int.toNat_of_nonneg hm]
  unfold Ieee.signed fNum
  by_cases h : 2147483648 ≤ b
  · rw [if_pos (by simpa using h), if_pos h, e, Int.neg_mul]
  · rw [if_neg (by simpa using h), if_neg h, e]

theorem single_order {a b : Int} (a0 : 0 ≤ a) (a1 : a < 4294967296) (b0 : 0 ≤ b) (b1 : b < 4294967296) (fa : fFin a = true) (fb : fFin b = true) : Ieee.single.order a.toNat b.toNat = some (compare (fVal a) (fVal b)) := by
  unfold Ieee.Format.order
  rw [single_read a0 a1 fa, single_read b0 b1 fb]
  have ea := fExp_pos a0
  have eb := fExp_pos b0
  simp only [Ieee.Datum.order]
  rw [signed_eq a0, signed_eq b0]
  obtain ⟨m, hm⟩ : ∃ m, m = min (fExp a - 150) (fExp b - 150) := ⟨_, rfl⟩
  rw [← hm]
  have hp : (0 : Int) < 2 ^ (m + 150).toNat := Int.pow_pos (by decide)
  have va : fVal a = fNum a * 2 ^ (fExp a - 150 - m).toNat * 2 ^ (m + 150).toNat := by
    unfold fVal atK
    rw [Int.mul_assoc, ← Int.pow_add, show (fExp a - 150 - m).toNat + (m + 150).toNat = (fExp a - 150 + 150).toNat by omega]
  have vb : fVal b = fNum b * 2 ^ (fExp b - 150 - m).toNat * 2 ^ (m + 150).toNat := by
    unfold fVal atK
    rw [Int.mul_assoc, ← Int.pow_add, show (fExp b - 150 - m).toNat + (m + 150).toNat = (fExp b - 150 + 150).toNat by omega]
  rw [va, vb]
  generalize fNum a * 2 ^ (fExp a - 150 - m).toNat = x
  generalize fNum b * 2 ^ (fExp b - 150 - m).toNat = y
  generalize (2 : Int) ^ (m + 150).toNat = p at hp
  congr 1
  rcases Int.lt_trichotomy x y with h | h | h
  · rw [Int.compare_eq_lt.2 h, Int.compare_eq_lt.2 (Int.mul_lt_mul_of_pos_right h hp)]
  · rw [h, Int.compare_eq_eq.2 rfl, Int.compare_eq_eq.2 rfl]
  · rw [Int.compare_eq_gt.2 h, Int.compare_eq_gt.2 (Int.mul_lt_mul_of_pos_right h hp)]

theorem order_lt {a b : Int} : ((some (compare a b) : Option Ordering) == some .lt) = decide (a < b) := by
  rcases Int.lt_trichotomy a b with h | h | h
  · rw [Int.compare_eq_lt.2 h]; simp [h]
  · subst h; rw [Int.compare_eq_eq.2 rfl]; simp
  · rw [Int.compare_eq_gt.2 h]; simp; omega

theorem order_gt {a b : Int} : ((some (compare a b) : Option Ordering) == some .gt) = decide (b < a) := by
  rcases Int.lt_trichotomy a b with h | h | h
  · rw [Int.compare_eq_lt.2 h]; simp; omega
  · subst h; rw [Int.compare_eq_eq.2 rfl]; simp
  · rw [Int.compare_eq_gt.2 h]; simp [h]

theorem order_self {a : Int} : ((some (compare a a) : Option Ordering) != some .eq) = false := by
  rw [Int.compare_eq_eq.2 rfl]; rfl

end Go.Proofs.Ytcjdnomhnlbmbaa
