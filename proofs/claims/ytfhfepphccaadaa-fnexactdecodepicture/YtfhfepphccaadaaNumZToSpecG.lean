/-
  Plain mathematics: how often 2 divides a number that is written in digits.
-/
import Derived.Test.YtfhfepphccaadaaScSNumS
import Derived.Test.YtfhfepphccaadaaSpecD
import Derived.Test.YtfhfepphccaadaaBox1
import Derived.Deep.RegionHeld3
namespace Go.Proofs.Ytfhfepphccaadaa

/-- The number is 2^t times an odd one. -/
def Twos (m : Int) (t : Nat) : Prop := ∃ q : Int, m = 2 ^ t * q ∧ q % 2 = 1

/-- The first digit that is not 0 decides. -/
theorem twos_of {b : Nat} {ds : List Int} {j k : Nat} {o : Int} (hj : j < ds.length) (h0 : val (2 ^ b) (ds.take j) = 0) (hd : ds.getD j 0 = 2 ^ k * o) (ho : o % 2 = 1) (hk : k < b) : Twos (val (2 ^ b) ds) (b * j + k) := by
  have hs := val_parts (2 ^ b) ds j (by omega)
  rw [h0, Int.zero_add] at hs
  have hh : val (2 ^ b) (ds.drop j) = ds.getD j 0 + 2 ^ b * val (2 ^ b) (ds.drop (j + 1)) := by
    rw [List.drop_eq_getElem_cons hj]
    simp [val, List.getD_eq_getElem?_getD, hj]
  refine ⟨o + 2 ^ (b - k) * val (2 ^ b) (ds.drop (j + 1)), ?_, ?_⟩
  · have e : (2 : Int) ^ b * val (2 ^ b) (ds.drop (j + 1)) = 2 ^ k * (2 ^ (b - k) * val (2 ^ b) (ds.drop (j + 1))) := by
      rw [← Int.mul_assoc, ← Int.pow_add, show k + (b - k) = b by omega]
    rw [hs, hh, hd, Int.pow_add, Int.pow_mul, Int.mul_assoc, Int.mul_add (2 ^ k) o, ← e]
  · obtain ⟨c, hc⟩ : ∃ c, b - k = c + 1 := ⟨b - k - 1, by omega⟩
    rw [hc, Int.pow_succ, Int.mul_comm (2 ^ c) 2, Int.mul_assoc, Int.add_mul_emod_self_left]
    exact ho

theorem Twos.emod {m : Int} {t : Nat} (h : Twos m t) : m % 2 ^ t = 0 := by
  obtain ⟨q, hq, _⟩ := h
  rw [hq]
  exact Int.mul_emod_right _ _

theorem Twos.ediv {m : Int} {t : Nat} (h : Twos m t) : m = m / 2 ^ t * 2 ^ t ∧ (m / 2 ^ t) % 2 = 1 := by
  obtain ⟨q, hq, h1⟩ := h
  have hp : (0 : Int) < 2 ^ t := Int.pow_pos (by decide)
  have e : m / 2 ^ t = q := by rw [hq]; exact Int.mul_ediv_cancel_left _ (by omega)
  rw [e]
  exact ⟨by rw [hq]; exact Int.mul_comm _ _, h1⟩

/-- A power of two that is at most a digit. -/
theorem pow_lt_of {k b : Nat} {v d : Int} (hd : d = 2 ^ k * v) (hv : 0 < v) (hlt : d < 2 ^ b) : k < b := by
  by_cases h : k < b
  · exact h
  · have h1 : (2 : Int) ^ b ≤ 2 ^ k := two_pow_le (by omega)
    have h2 : (2 : Int) ^ k * 1 ≤ 2 ^ k * v := Int.mul_le_mul_of_nonneg_left (by omega) (Int.le_of_lt (Int.pow_pos (by decide)))
    omega

theorem anyN_false {B : Int} (hB : 0 < B) {zs : List Int} (h : Dig B zs) : anyN zs = false ↔ val B zs = 0 := by
  have := anyN_val hB h
  cases hz : anyN zs
  · rw [hz] at this
    simp at this
    simp [this]
  · rw [hz] at this
    simp at this
    simp [this]

end Go.Proofs.Ytfhfepphccaadaa

/-
  The model: how often 2 divides a number.
-/
namespace Go.Proofs.Ytfhfepphccaadaa
open Go.RowKit

end Go.Proofs.Ytfhfepphccaadaa

/-
  The model's shifts up.
-/
namespace Go.Proofs.Ytfhfepphccaadaa
open Go.RowKit

theorem pow16 (n : Int) (h : 0 ≤ n) : (65536 : Int) ^ (n / 16).toNat * 2 ^ (n % 16).toNat = 2 ^ n.toNat := by
  rw [show (65536 : Int) = 2 ^ 16 from rfl, ← Int.pow_mul, ← Int.pow_add]
  congr 1
  omega

/-- 2 to a count below 16. -/
theorem two16 (n : Int) : 0 < (2 : Int) ^ (n % 16).toNat ∧ (2 : Int) ^ (n % 16).toNat ≤ 32768 := by
  refine ⟨Int.pow_pos (by decide), ?_⟩
  have h : ∀ k, k < 16 → (2 : Int) ^ k ≤ 32768 := by decide
  exact h _ (by omega)

/-- What l1up hands back. -/
def UpOut (w : World) (n : Nat) (x : Int) (e : Ending) (w' : World) : Prop :=
  ∃ (g : Bool) (a : Option Addr) (c : Nat) (fs : List Int), e = .returned (.agg #[.bool g, .slice a fs.length c]) ∧ fs.length ≤ n ∧ L1 w' g a c fs x ∧ Far w.heap.size a fs ∧ Below w.heap.size w w'

end Go.Proofs.Ytfhfepphccaadaa

/-
  The model's shifts down.
-/
namespace Go.Proofs.Ytfhfepphccaadaa
open Go.RowKit

/-- What l1down hands back. -/
def DownOut (w : World) (n : Nat) (x : Int) (lost : Bool) (e : Ending) (w' : World) : Prop :=
  ∃ (g : Bool) (a : Option Addr) (c : Nat) (fs : List Int), e = .returned (.tuple #[.agg #[.bool g, .slice a fs.length c], .bool lost]) ∧ fs.length ≤ n ∧ L1 w' g a c fs x ∧ Far w.heap.size a fs ∧ Below w.heap.size w w'

/-- The two counts of a shift by n. -/
theorem two16r (n : Int) : (65536 : Int) = 2 ^ (n % 16).toNat * 2 ^ (16 - n % 16).toNat ∧ 0 < (2 : Int) ^ (16 - n % 16).toNat ∧ (2 : Int) ^ (16 - n % 16).toNat ≤ 65536 := by
  refine ⟨?_, Int.pow_pos (by decide), ?_⟩
  · rw [← Int.pow_add, show (n % 16).toNat + (16 - n % 16).toNat = 16 by omega]; rfl
  · have h : ∀ k, k < 17 → (2 : Int) ^ k ≤ 65536 := by decide
    exact h _ (by omega)

/-- A digit of the model's shift down. -/
theorem down_digit2 {q r y y' : Int} (hqr : 65536 = q * r) (hq : 0 < q) (hr : 0 < r) (h0 : 0 ≤ y) (h1 : y < 65536) : (y / q + y' * r % 65536) % 65536 = (y + 65536 * y') / q % 65536 := by
  rw [down_digit hqr hq hr h0 h1]
  have e : y' * r % 65536 = r * (y' % q) := by
    rw [hqr, Int.mul_comm q r, Int.mul_comm y' r, Int.mul_emod_mul_of_pos _ _ hr]
  rw [e]
  have hd0 : 0 ≤ y / q := Int.ediv_nonneg h0 (by omega)
  have hd1 : y / q < r := Int.ediv_lt_of_lt_mul hq (by rw [Int.mul_comm r q, ← hqr]; exact h1)
  have hm0 := Int.emod_nonneg y' (show q ≠ 0 by omega)
  have hm1 := Int.emod_lt_of_pos y' hq
  have h3 : r * (y' % q) ≤ r * (q - 1) := Int.mul_le_mul_of_nonneg_left (by omega) (by omega)
  have h4 : 0 ≤ r * (y' % q) := Int.mul_nonneg (by omega) hm0
  rw [Int.mul_sub, Int.mul_one, Int.mul_comm r q, ← hqr] at h3
  exact Int.emod_eq_of_lt (by omega) (by omega)

/-- A shift down by more than all digits. -/
theorem cut_all {ds : List Int} {n : Int} (hd : Dig 65536 ds) (n0 : 0 ≤ n) (h : (ds.length : Int) ≤ n / 16) : val 65536 ds / 2 ^ n.toNat = 0 ∧ (val 65536 ds % 2 ^ n.toNat ≠ 0 ↔ anyN ds = true) := by
  have h0 := val_nonneg (B := 65536) (by decide) hd
  have h1 := val_lt_pow (B := 65536) (by decide) hd
  have h2 : (65536 : Int) ^ ds.length ≤ 2 ^ n.toNat := by
    rw [show (65536 : Int) = 2 ^ 16 from rfl, ← Int.pow_mul]
    exact two_pow_le (by omega)
  refine ⟨Int.ediv_eq_zero_of_lt h0 (by omega), ?_⟩
  rw [Int.emod_eq_of_lt h0 (by omega), anyN_val (by decide) hd]

theorem cut_some {ds : List Int} {n : Int} (hd : Dig 65536 ds) (n0 : 0 ≤ n) (h : n / 16 < (ds.length : Int)) : val 65536 (downL 65536 (2 ^ (n % 16).toNat) (ds.drop (n / 16).toNat)) = val 65536 ds / 2 ^ n.toNat ∧ (val 65536 ds % 2 ^ n.toNat ≠ 0 ↔ (anyN (ds.take (n / 16).toNat) || (ds.getD (n / 16).toNat 0 % 2 ^ (n % 16).toNat != 0)) = true) := by
  obtain ⟨e1, e2, e3⟩ := two16r n
  obtain ⟨e4, _⟩ := two16 n
  have hs : (n / 16).toNat ≤ ds.length := by omega
  rw [← pow16 n n0]
  refine ⟨val_cut e1 e4 e2 (by decide) hd hs, ?_⟩
  rw [ne_eq, cut_exact e4 ⟨_, e1⟩ (by decide) hd hs]
  have h2 := anyN_val (B := 65536) (by decide) (hd.take (n / 16).toNat)
  rw [Bool.or_eq_true, h2, bne_iff_ne]
  by_cases h3 : val 65536 (ds.take (n / 16).toNat) = 0
  · simp [h3]
  · simp [h3]

end Go.Proofs.Ytfhfepphccaadaa

/-
  The model's differences of magnitudes.
-/
namespace Go.Proofs.Ytfhfepphccaadaa
open Go.RowKit

set_option maxHeartbeats 4000000 in
theorem subMag_any (a a' : Option Addr) (p p' : Nat) (zs ys : List Int) (w : World) (hn : zs.length ≤ 200000) (_hn' : ys.length ≤ 200000) (hz : RowAt .i64 w a zs) (hy : RowAt .i64 w a' ys) (hdz : Dig 65536 zs) (hdy : Dig 65536 ys) :
    Calls Try.prog 85 #[.slice a zs.length p, .slice a' ys.length p'] w fun e w' => ∃ a2 c2, e = .returned (.slice a2 (carryD 65536 (diffsL zs ys) 0).length c2) ∧ c2 ≤ maxLen ∧ Sl .i64 w' a2 c2 (carryD 65536 (diffsL zs ys) 0) ∧ RowNew .i64 w' w.heap.size a2 (carryD 65536 (diffsL zs ys) 0) ∧ Below w.heap.size w w' := by
  go_enter Try.func85, Try.ntmps85
  go_wp2
  go_loopw [5, 6, 7, 8] (fun v cc i _ wr => ∃ (k : Nat) (c : Int) (out : List Int), cc = .int .i64 c ∧ i = .int .i64 k ∧ 0 ≤ c ∧ c ≤ 1 ∧ k ≤ zs.length ∧ out.length = k ∧ Hid (carryD 65536 (diffsL zs ys) 0 = out ++ carryD 65536 (diffsL (zs.drop k) (ys.drop k)) (-c)) ∧
      wr.ownsRow w.heap.size 3 1 v out.length (vals .i64 out) ∧ Below w.heap.size w wr) (fun _ _ i _ _ => zs.length - (intOf i).toNat)
  case atStart => exact ⟨0, 0, [], rfl, rfl, by decide, by decide, Nat.zero_le _, rfl, rfl, own_nil _ _ _ _, Below.refl _ _⟩
  case round =>
    obtain ⟨k, c, out, rfl, rfl, hc0, hc1, hk, hol, hrest, hown, hnx⟩ := hrel
    have hsz := hnx.size
    have hb1 := hdz.at (by decide) k
    have hb2 := hdy.at (by decide) k
    have hlo : out.length ≤ 400001 := by omega
    by_cases h1 : k < zs.length
    · obtain ⟨b, off, rfl, g1⟩ := row_cell hz hnx h1
      obtain ⟨x, hx⟩ : ∃ x, x = zs.getD k 0 := ⟨_, rfl⟩
      obtain ⟨y, hyy⟩ : ∃ y, y = ys.getD k 0 := ⟨_, rfl⟩
      rw [← hx] at hb1 g1
      rw [← hyy] at hb2
      obtain ⟨hb10, hb11⟩ := hb1
      obtain ⟨hb20, hb21⟩ := hb2
      by_cases h2 : k < ys.length
      · obtain ⟨b', off', rfl, g2⟩ := row_cell hy hnx h2
        rw [← hyy] at g2
        by_cases hv : x - c - y < 0
        · have hst := sub_step (B := 65536) (xs := zs) (ys := ys) (s := x - c - y) (c := -c) h1 (by rw [← hx, ← hyy]; omega)
          rw [show (x - c - y) % 65536 = x - c - y + 65536 by omega, show (x - c - y) / 65536 = -1 by omega] at hst
          have HS : Hid (carryD 65536 (diffsL zs ys) 0 = (out ++ [x - c - y + 65536]) ++ carryD 65536 (diffsL (zs.drop (k + 1)) (ys.drop (k + 1))) (-1)) := by unfold Hid; rw [hrest.out, hst]; simp
          clear hst hx hyy hrest hz hy hdz hdy
          go_wp2_with (at_builtin; refine app1 rfl (.tmp 35) (.tmp 37) 40 rfl w.heap.size 3 Try.underlying40 Try.info3 (by decide) _ _ rfl rfl hown (by omega) hsz ?_; intro a1 n1 c1 w1 hown1 hb1 hs1)
          have hnx2 := hnx.trans hb1
          go_roundw
          case rel => exact ⟨k + 1, 1, out ++ [x - c - y + 65536], rfl, by go_num, by decide, by decide, by omega, by simp; omega, HS, hown1, hnx2⟩
          case measure => simp [intOf]; omega
        · have hst := sub_step (B := 65536) (xs := zs) (ys := ys) (s := x - c - y) (c := -c) h1 (by rw [← hx, ← hyy]; omega)
          rw [show (x - c - y) % 65536 = x - c - y by omega, show (x - c - y) / 65536 = -0 by omega] at hst
          have HS : Hid (carryD 65536 (diffsL zs ys) 0 = (out ++ [x - c - y]) ++ carryD 65536 (diffsL (zs.drop (k + 1)) (ys.drop (k + 1))) (-0)) := by unfold Hid; rw [hrest.out, hst]; simp
          clear hst hx hyy hrest hz hy hdz hdy
          go_wp2_with (at_builtin; refine app1 rfl (.tmp 35) (.tmp 37) 40 rfl w.heap.size 3 Try.underlying40 Try.info3 (by decide) _ _ rfl rfl hown (by omega) hsz ?_; intro a1 n1 c1 w1 hown1 hb1 hs1)
          have hnx2 := hnx.trans hb1
          go_roundw
          case rel => exact ⟨k + 1, 0, out ++ [x - c - y], rfl, by go_num, by decide, by decide, by omega, by simp; omega, HS, hown1, hnx2⟩
          case measure => simp [intOf]; omega
      · have hy0 : y = 0 := by rw [hyy]; exact getD_out h2
        by_cases hv : x - c < 0
        · have hst := sub_step (B := 65536) (xs := zs) (ys := ys) (s := x - c) (c := -c) h1 (by rw [← hx, ← hyy]; omega)
          rw [show (x - c) % 65536 = x - c + 65536 by omega, show (x - c) / 65536 = -1 by omega] at hst
          have HS : Hid (carryD 65536 (diffsL zs ys) 0 = (out ++ [x - c + 65536]) ++ carryD 65536 (diffsL (zs.drop (k + 1)) (ys.drop (k + 1))) (-1)) := by unfold Hid; rw [hrest.out, hst]; simp
          clear hst hx hyy hrest hz hy hdz hdy hy0
          go_wp2_with (at_builtin; refine app1 rfl (.tmp 35) (.tmp 37) 40 rfl w.heap.size 3 Try.underlying40 Try.info3 (by decide) _ _ rfl rfl hown (by omega) hsz ?_; intro a1 n1 c1 w1 hown1 hb1 hs1)
          have hnx2 := hnx.trans hb1
          go_roundw
          case rel => exact ⟨k + 1, 1, out ++ [x - c + 65536], rfl, by go_num, by decide, by decide, by omega, by simp; omega, HS, hown1, hnx2⟩
          case measure => simp [intOf]; omega
        · have hst := sub_step (B := 65536) (xs := zs) (ys := ys) (s := x - c) (c := -c) h1 (by rw [← hx, ← hyy]; omega)
          rw [show (x - c) % 65536 = x - c by omega, show (x - c) / 65536 = -0 by omega] at hst
          have HS : Hid (carryD 65536 (diffsL zs ys) 0 = (out ++ [x - c]) ++ carryD 65536 (diffsL (zs.drop (k + 1)) (ys.drop (k + 1))) (-0)) := by unfold Hid; rw [hrest.out, hst]; simp
          clear hst hx hyy hrest hz hy hdz hdy hy0
          go_wp2_with (at_builtin; refine app1 rfl (.tmp 35) (.tmp 37) 40 rfl w.heap.size 3 Try.underlying40 Try.info3 (by decide) _ _ rfl rfl hown (by omega) hsz ?_; intro a1 n1 c1 w1 hown1 hb1 hs1)
          have hnx2 := hnx.trans hb1
          go_roundw
          case rel => exact ⟨k + 1, 0, out ++ [x - c], rfl, by go_num, by decide, by decide, by omega, by simp; omega, HS, hown1, hnx2⟩
          case measure => simp [intOf]; omega
    · have hkn : k = zs.length := by omega
      subst hkn
      have hfin : carryD 65536 (diffsL zs ys) 0 = out := by
        rw [hrest.out, List.drop_eq_nil_of_le (Nat.le_refl _)]; simp [diffsL, carryD]
      have HF : Hid (carryD 65536 (diffsL zs ys) 0 = out) := hfin
      obtain ⟨a2, c2, rfl, hcm, hsl, hrn⟩ := own_row hown
      clear hfin hown hrest hb1 hb2 hdz hdy hz hy hol
      go_wp2
      go_ret
      rw [HF.out]
      exact ⟨a2, c2, rfl, hcm, hsl, hrn, hnx⟩

end Go.Proofs.Ytfhfepphccaadaa

/-
  Signs turned.
-/
namespace Go.Proofs.Ytfhfepphccaadaa
open Go.RowKit

theorem sg_not (g : Bool) (n : Int) : sg (!g) n = - sg g n := by cases g <;> simp [sg]

end Go.Proofs.Ytfhfepphccaadaa

/-
  The model's sums.
-/
namespace Go.Proofs.Ytfhfepphccaadaa
open Go.RowKit

/-- What a region of l1add holds of memory: both boxes, and that nothing below the answer's own box has turned. -/
def AddS (w : World) (g g' : Bool) (v v' : Value) (w0 w1 : World) : Prop :=
  w1.cell? ⟨w.heap.size, 0, none⟩ = some (.bool g) ∧ w1.cell? ⟨w.heap.size, 1, none⟩ = some v ∧ w1.cell? ⟨w.heap.size + 1, 0, none⟩ = some (.bool g') ∧ w1.cell? ⟨w.heap.size + 1, 1, none⟩ = some v' ∧ Below (w.heap.size + 1 + 1) w0 w1

theorem addS_of {w w0 w1 : World} {g g' : Bool} {v v' : Value} (h : AddS w g g' v v' w0 w0) (hb : Below (w.heap.size + 1 + 1) w0 w1) : w1.cell? ⟨w.heap.size, 0, none⟩ = some (.bool g) ∧ w1.cell? ⟨w.heap.size, 1, none⟩ = some v ∧ w1.cell? ⟨w.heap.size + 1, 0, none⟩ = some (.bool g') ∧ w1.cell? ⟨w.heap.size + 1, 1, none⟩ = some v' ∧ Below (w.heap.size + 1 + 1) w0 w1 :=
  ⟨(hb.cell (by simp; omega)).trans h.1, (hb.cell (by simp; omega)).trans h.2.1, (hb.cell (by simp)).trans h.2.2.1, (hb.cell (by simp)).trans h.2.2.2.1, hb⟩

/-- The world behind the boxes of two arguments and of the answer. -/
theorem addF (w : World) (g g' : Bool) (v v' z : Value) (t t' t2 : TypeId) (W0 : World) (hW : W0 = ((w.alloc (.cells #[.bool g, v] t)).alloc (.cells #[.bool g', v'] t')).alloc (.cells #[.bool false, z] t2)) :
    AddS w g g' v v' W0 W0 ∧ W0.cell? ⟨w.heap.size + 1 + 1, 0, none⟩ = some (.bool false) ∧ W0.cell? ⟨w.heap.size + 1 + 1, 1, none⟩ = some z ∧ (∀ j, W0.frozen? ⟨w.heap.size + 1 + 1, j, none⟩ = false) ∧ W0.heap.size = w.heap.size + 1 + 1 + 1 ∧ Below w.heap.size w W0 := by
  subst hW
  refine ⟨⟨?_, ?_, ?_, ?_, Below.refl _ _⟩, ?_, ?_, ?_, ?_, bel3 _ _ _ _⟩
  all_goals simp [go_sem]

set_option maxHeartbeats 2000000 in
theorem add_same (g : Bool) (a a' : Option Addr) (c c' : Nat) (ds es : List Int) (x y : Int) (w : World) (hn : ds.length ≤ 100000) (hn' : es.length ≤ 100000) (h : L1 w g a c ds x) (h' : L1 w g a' c' es y) :
    Calls Try.prog 62 #[.agg #[.bool g, .slice a ds.length c], .agg #[.bool g, .slice a' es.length c']] w fun e w' => ∃ g2 a2 c2 fs, e = .returned (.agg #[.bool g2, .slice a2 fs.length c2]) ∧ fs.length ≤ ds.length + es.length + 1 ∧ L1 w' g2 a2 c2 fs (x + y) ∧ Far w.heap.size a2 fs ∧ Below w.heap.size w w' := by
  have HX : Hid (sg g (val 65536 (carryL 65536 (sumsL ds es) 0)) = x + y) := by
    unfold Hid
    rw [val_carry, val_sums, h.num, h'.num]
    cases g <;> simp [sg]
    omega
  have hlen : (carryL 65536 (sumsL ds es) 0).length ≤ ds.length + es.length + 1 := by
    have h1 := carry_length (B := 65536) (sumsL ds es) 0
    have h2 := sums_length ds es
    omega
  have hgg : (g == g) = true := by simp
  go_enter Try.func62, Try.ntmps62
  go_wp2
  obtain ⟨W0, hW0⟩ : ∃ W0, W0 = (((w.alloc (.cells #[.bool g, .slice a ds.length c] 59)).alloc (.cells #[.bool g, .slice a' es.length c'] 59)).alloc (.cells #[.bool false, .slice none 0 0] 59)) := ⟨_, rfl⟩
  rw [← hW0]
  have F : Hid (AddS w g g (.slice a ds.length c) (.slice a' es.length c') W0 W0 ∧ W0.cell? ⟨w.heap.size + 1 + 1, 0, none⟩ = some (.bool false) ∧ W0.cell? ⟨w.heap.size + 1 + 1, 1, none⟩ = some (.slice none 0 0) ∧ (∀ j, W0.frozen? ⟨w.heap.size + 1 + 1, j, none⟩ = false) ∧ W0.heap.size = w.heap.size + 1 + 1 + 1 ∧ Below w.heap.size w W0) := addF w g g _ _ _ _ _ _ W0 hW0
  clear hW0
  have KB : Hid (Below w.heap.size w W0) := F.out.2.2.2.2.2
  have KS : Hid (W0.heap.size = w.heap.size + 1 + 1 + 1) := F.out.2.2.2.2.1
  go_region_held3 (fun w' => w'.cell? ⟨w.heap.size, 0, none⟩ = some (.bool g) ∧ w'.cell? ⟨w.heap.size, 1, none⟩ = some (.slice a ds.length c) ∧ w'.cell? ⟨w.heap.size + 1, 0, none⟩ = some (.bool g) ∧ w'.cell? ⟨w.heap.size + 1, 1, none⟩ = some (.slice a' es.length c') ∧ Below (w.heap.size + 1 + 1) W0 w')
    (first | exact addS_of F.out.1 (Below.refl _ _).drew | exact addS_of F.out.1 (by assumption) | exact addS_of F.out.1 (Below.setCell (Below.setCell (by assumption) (by simp) _) (by simp) _))
    (first
      | (go_at_call 83; refine (addMag_any a a' c c' ds es _ (by omega) (by omega) (h.sl.row.later KB.out.drew) (h'.sl.row.later KB.out.drew) h.can.1 h'.can.1).mono ?_; rintro e w1 ⟨a2, c2, rfl, hcm, hsl1, hrn1, hb1⟩; have hB1 : Below W0.heap.size W0 w1 := (Below.refl _ _).drew.trans hb1; have hB1' : Below (w.heap.size + 1 + 1) W0 w1 := hB1.mono (by rw [KS.out]; omega))
      | (go_at_call 63; refine (make_any g a2 c2 _ _ (by omega) hcm hsl1 (dig_add (by decide) h.can.1 h'.can.1)).mono ?_; rintro e w2 ⟨g2, fs, rfl, hfl, hL2, hb2⟩; have hB2 : Below W0.heap.size W0 w2 := hB1.trans (hb2.mono hB1.size); have hB2' : Below (w.heap.size + 1 + 1) W0 w2 := hB2.mono (by rw [KS.out]; omega); have r1 : w2.cell? ⟨w.heap.size + 1 + 1, 0, none⟩ = some (.bool false) := (hB2.cell (by simp [KS.out])).trans F.out.2.1; have r2 : w2.cell? ⟨w.heap.size + 1 + 1, 1, none⟩ = some (.slice none 0 0) := (hB2.cell (by simp [KS.out])).trans F.out.2.2.1; have r3 : ∀ j, w2.frozen? ⟨w.heap.size + 1 + 1, j, none⟩ = false := fun j => (hB2.frozen (by simp [KS.out])).trans (F.out.2.2.2.1 j)))
  have HR : Hid (RowNew .i64 w1 W0.heap.size a2 (carryL 65536 (sumsL ds es) 0)) := hrn1
  have HL : Hid (L1 w2 g2 a2 c2 fs (sg g (val 65536 (carryL 65536 (sumsL ds es) 0)))) := hL2
  have HB : Hid (Below w.heap.size w w2) := KB.out.trans (hB2.mono (by rw [KS.out]; omega))
  clear hrn1 hL2 hB1 hB1' hB2 hB2' hb1 hb2 hsl1
  go_wp2
  refine bodyPost_ret (v := .agg #[.bool g2, .slice a2 fs.length c2]) (by simp [results, Try.results62, go_sem, r1, r2]) rfl ⟨g2, a2, c2, fs, rfl, by omega, ?_, HR.out.far hfl (by rw [KS.out]; omega), ?_⟩
  · rw [← HX.out]
    exact (HL.out.setLow HR.out hfl (by simp [KS.out]) _).setLow HR.out hfl (by simp [KS.out]) _
  · exact (HB.out.setCell (by simp; omega) _).setCell (by simp; omega) _

end Go.Proofs.Ytfhfepphccaadaa
