/-
  The program's reader: number.
-/
import Derived.Test.YtfhfepphccaadaaFromDpDraw0SpD1IdA
import Derived.Test.YtfhfepphccaadaaUtil
import Derived.Test.YtfhfepphccaadaaNum
import Derived.Test.YtfhfepphccaadaaDy0Dy1hDy2NumDNumF
import Derived.Laws.Entries
import Derived.Test.YtfhfepphccaadaaSpVSpWLawVsScMPcA
namespace Go.Proofs.Ytfhfepphccaadaa
open Go.RowKit

theorem leV_snoc : ∀ (l : List Int) (x : Int), leV (l ++ [x]) = leV l + 256 ^ l.length * x
  | [], x => by simp [leV]
  | b :: r, x => by
    rw [List.cons_append, leV, leV, leV_snoc r x, List.length_cons, Int.pow_succ, Int.mul_add, Int.add_assoc, ← Int.mul_assoc, Int.mul_comm (256 ^ r.length) 256]

/-- The number of the first k bytes of a part. -/
def numK (bs : List Int) (i size k : Nat) : Int := leV ((partB bs i size).take k)
theorem numK_succ {bs : List Int} {i size k : Nat} (hs : i + size ≤ bs.length) (hk : k < size) : numK bs i size (k + 1) = numK bs i size k + 256 ^ k * bs.getD (i + k) 0 := by
  unfold numK
  have hl : k < (partB bs i size).length := by rw [partB_length hs]; exact hk
  rw [List.take_succ_eq_append_getElem hl, leV_snoc, List.length_take, Nat.min_eq_left (Nat.le_of_lt hl), ← partB_get (size := size) hk, List.getD_eq_getElem?_getD, List.getElem?_eq_getElem hl]
  rfl
theorem numK_bounds {bs : List Int} (hu : U8 bs) {i size k : Nat} (hs : i + size ≤ bs.length) (hk : k ≤ size) : 0 ≤ numK bs i size k ∧ numK bs i size k < 256 ^ k := by
  have h1 : U8 ((partB bs i size).take k) := fun z hz => hu.part i size z (List.mem_of_mem_take hz)
  have h2 := leV_bounds _ h1
  rw [List.length_take, partB_length hs, Nat.min_eq_left hk] at h2
  exact h2
theorem numK_all {bs : List Int} {i size : Nat} (hs : i + size ≤ bs.length) : numK bs i size size = numB bs i size := by
  unfold numK numB
  rw [if_neg (by omega), List.take_of_length_le (by rw [partB_length hs]; omega)]
  rfl

theorem or_byte {n y p : Int} (k : Nat) (hp : p = 2 ^ (8 * k)) (h0 : 0 ≤ n) (h1 : n < p) (y0 : 0 ≤ y) (y1 : y < 256) (hk : k < 4) : bits .or .u32 n (y * p) = n + p * y := by
  subst hp
  obtain ⟨m, rfl⟩ := Int.eq_ofNat_of_zero_le h0
  obtain ⟨z, rfl⟩ := Int.eq_ofNat_of_zero_le y0
  have hm : m < 2 ^ (8 * k) := by exact_mod_cast h1
  have hz : z < 256 := by omega
  have hb : z * 2 ^ (8 * k) + m < 4294967296 := by
    have hk4 : k = 0 ∨ k = 1 ∨ k = 2 ∨ k = 3 := by omega
    rcases hk4 with rfl | rfl | rfl | rfl <;> simp at hm ⊢ <;> omega
  have e1 : m ||| z * 2 ^ (8 * k) = z * 2 ^ (8 * k) + m := by
    have := Nat.two_pow_add_eq_or_of_lt hm z
    rw [Nat.or_comm, Nat.mul_comm z, this]
  have e2 : (BitVec.ofInt 32 (m : Int) ||| BitVec.ofInt 32 ((z * 2 ^ (8 * k) : Nat) : Int)).toNat = m ||| z * 2 ^ (8 * k) := by
    rw [BitVec.toNat_or, BitVec.ofInt_natCast, BitVec.toNat_ofNat, BitVec.ofInt_natCast, BitVec.toNat_ofNat, Nat.mod_eq_of_lt (by omega), Nat.mod_eq_of_lt (by omega)]
  have e3 : ((z : Int) * (2 : Int) ^ (8 * k)) = ((z * 2 ^ (8 * k) : Nat) : Int) := by push_cast; rfl
  rw [e3]
  show IntKind.u32.wrap ((BitVec.ofInt 32 (m : Int) ||| BitVec.ofInt 32 ((z * 2 ^ (8 * k) : Nat) : Int)).toNat : Int) = _
  rw [e2, e1]
  simp only [IntKind.wrap, IntKind.bits, IntKind.signed]
  rw [Int.mul_comm, e3]
  obtain ⟨t, ht⟩ : ∃ t, t = z * 2 ^ (8 * k) := ⟨_, rfl⟩
  rw [← ht] at hb ⊢
  simp
  omega

def NumOut (w : World) (R b off c : Nat) (bs : List Int) (i size : Nat) (e : Ending) (w' : World) : Prop :=
  e = .returned (.int .u32 (numB bs i size)) ∧ RdB w' R b off c bs (i + size) ∧ Aside R w w'

set_option maxRecDepth 100000 in
set_option maxHeartbeats 1000000 in
theorem number_ok (R b off c : Nat) (bs : List Int) (i size : Nat) (w : World) (hu : U8 bs) (hs4 : size ≤ 4) (hs : i + size ≤ bs.length) (h : RdB w R b off c bs i) :
    Calls Try.prog 91 #[.pointer (some ⟨R, 0, none⟩), .int .i64 size] w fun e w' => NumOut w R b off c bs i size e w' := by
  have HU : Hid (U8 bs) := hu
  have HH : Hid (RdB w R b off c bs i) := h
  clear h hu
  go_enter Try.func91, Try.ntmps91
  go_wp2_with fail
  refine (take_ok R b off c bs i size _ hs HH.out).mono ?_
  rintro e V ⟨p, k, rfl, hrow, hpb, hrd, has⟩
  have HR : Hid (RowAt .u8 V p (partB bs i size)) := hrow
  have HD : Hid (RdB V R b off c bs (i + size)) := hrd
  have HA : Hid (Aside R w V) := has
  clear hrow hrd has hpb
  go_wp2
  go_loopw [5, 6, 7, 12] (fun sn _ _ si wr => ∃ (j : Nat), j ≤ size ∧ si = .int .i64 j ∧ sn = .int .u32 (numK bs i size j) ∧ wr = V) (fun _ _ _ si _ => size - (intOf si).toNat)
  case atStart => exact ⟨0, Nat.zero_le _, rfl, rfl, rfl⟩
  case round =>
    obtain ⟨j, hj, rfl, rfl, rfl⟩ := hrel
    by_cases hlt : j < size
    · obtain ⟨b1, o1, rfl, hbl, hc⟩ := HR.out.resolve_left (by intro e; have := congrArg List.length e; rw [partB_length hs] at this; simp at this; omega)
      have q : wr.cell? ⟨b1, o1 + j, none⟩ = some (.int .u8 (bs.getD (i + j) 0)) := by
        have := hc j (by rw [partB_length hs]; exact hlt)
        rw [partB_get hlt] at this
        exact this
      have y0 := (HU.out.at (i + j)).1
      have y1 := (HU.out.at (i + j)).2
      have n0 := (numK_bounds HU.out hs (Nat.le_of_lt hlt)).1
      have n1 := (numK_bounds HU.out hs (Nat.le_of_lt hlt)).2
      have HE : Hid (numK bs i size (j + 1) = numK bs i size j + 256 ^ j * bs.getD (i + j) 0) := numK_succ hs hlt
      obtain ⟨y, hy⟩ : ∃ y, y = bs.getD (i + j) 0 := ⟨_, rfl⟩
      rw [← hy] at q y0 y1 HE
      obtain ⟨N, hN⟩ : ∃ N, N = numK bs i size j := ⟨_, rfl⟩
      rw [← hN] at n0 n1 HE ⊢
      have hib : (j : Int) < size := by omega
      clear hc hy hN hbl
      have hj4 : j = 0 ∨ j = 1 ∨ j = 2 ∨ j = 3 := by omega
      rcases hj4 with rfl | rfl | rfl | rfl
      · have HO : Hid (bits .or .u32 N y = numK bs i size (0 + 1)) := by
          have h1 := or_byte 0 (p := 1) (by decide) n0 (Int.lt_of_lt_of_le n1 (by decide)) y0 y1 (by decide)
          rw [Int.mul_one] at h1
          unfold Hid
          rw [h1, HE.out, show ((256 : Int) ^ 0) = 1 from by decide]
        clear n1 HE
        rw [Nat.add_zero] at q
        go_wp2
        go_roundw
        case rel => exact ⟨0 + 1, by omega, by go_num, by rw [HO.out], trivial⟩
        case measure => simp [intOf]; omega
      · have HO : Hid (bits .or .u32 N (y * 256) = numK bs i size (1 + 1)) := by
          have h1 := or_byte 1 (p := 256) (by decide) n0 (Int.lt_of_lt_of_le n1 (by decide)) y0 y1 (by decide)
          unfold Hid
          rw [h1, HE.out, show ((256 : Int) ^ 1) = 256 from by decide]
        clear n1 HE
        go_wp2
        go_roundw
        case rel => exact ⟨1 + 1, by omega, by go_num, by rw [HO.out], trivial⟩
        case measure => simp [intOf]; omega
      · have HO : Hid (bits .or .u32 N (y * 65536) = numK bs i size (2 + 1)) := by
          have h1 := or_byte 2 (p := 65536) (by decide) n0 (Int.lt_of_lt_of_le n1 (by decide)) y0 y1 (by decide)
          unfold Hid
          rw [h1, HE.out, show ((256 : Int) ^ 2) = 65536 from by decide]
        clear n1 HE
        go_wp2
        go_roundw
        case rel => exact ⟨2 + 1, by omega, by go_num, by rw [HO.out], trivial⟩
        case measure => simp [intOf]; omega
      · have HO : Hid (bits .or .u32 N (y * 16777216) = numK bs i size (3 + 1)) := by
          have h1 := or_byte 3 (p := 16777216) (by decide) n0 (Int.lt_of_lt_of_le n1 (by decide)) y0 y1 (by decide)
          unfold Hid
          rw [h1, HE.out, show ((256 : Int) ^ 3) = 16777216 from by decide]
        clear n1 HE
        go_wp2
        go_roundw
        case rel => exact ⟨3 + 1, by omega, by go_num, by rw [HO.out], trivial⟩
        case measure => simp [intOf]; omega
    · have hje : size = j := by omega
      subst hje
      have HN : Hid (numK bs i size size = numB bs i size) := numK_all hs
      go_wp2
      go_ret
      exact ⟨by rw [← HN.out]; rfl, HD.out, HA.out⟩

theorem number_short (R b off c : Nat) (bs : List Int) (i size : Nat) (w : World) (hs : bs.length < i + size) (h : RdB w R b off c bs i) :
    Calls Try.prog 91 #[.pointer (some ⟨R, 0, none⟩), .int .i64 size] w fun e w' => e = thrown (5, bs.length) ∧ Aside R w w' := by
  have HH : Hid (RdB w R b off c bs i) := h
  clear h
  go_enter Try.func91, Try.ntmps91
  go_wp2_with fail
  refine (take_short R b off c bs i size _ hs HH.out).mono ?_
  rintro e V ⟨rfl, has⟩
  exact ⟨rfl, rfl, has⟩

end Go.Proofs.Ytfhfepphccaadaa

/-
  The program's test whether floats are finite.
-/
namespace Go.Proofs.Ytfhfepphccaadaa
open Go.RowKit

theorem mask_nat (n : Nat) : n &&& 2139095040 = n / 8388608 % 256 * 8388608 := by
  apply Nat.eq_of_testBit_eq
  intro i
  rw [show (2139095040 : Nat) = (2 ^ 8 - 1) <<< 23 by decide, show n / 8388608 % 256 * 8388608 = ((n >>> 23) % 2 ^ 8) <<< 23 by rw [Nat.shiftLeft_eq, Nat.shiftRight_eq_div_pow]]
  simp only [Nat.testBit_and, Nat.testBit_shiftLeft, Nat.testBit_mod_two_pow, Nat.testBit_two_pow_sub_one, Nat.testBit_shiftRight]
  by_cases h : 23 ≤ i
  · rw [show 23 + (i - 23) = i by omega]
    simp [h, Bool.and_comm]
  · simp [h]
theorem mask_bits {x : Int} (h0 : 0 ≤ x) (h1 : x < 4294967296) : (bits .and .u32 x 2139095040 == 2139095040) = !(fFin x) := by
  obtain ⟨n, rfl⟩ := Int.eq_ofNat_of_zero_le h0
  have e : bits .and .u32 (n : Int) 2139095040 = ((n &&& 2139095040 : Nat) : Int) := by
    have hl : n &&& 2139095040 < 4294967296 := Nat.lt_of_le_of_lt Nat.and_le_right (by decide)
    have e2 : (BitVec.ofInt 32 (n : Int) &&& BitVec.ofInt 32 2139095040).toNat = n &&& 2139095040 := by
      rw [BitVec.toNat_and, BitVec.ofInt_natCast, BitVec.toNat_ofNat, Nat.mod_eq_of_lt (by omega)]
      rfl
    show IntKind.u32.wrap ((BitVec.ofInt 32 (n : Int) &&& BitVec.ofInt 32 2139095040).toNat : Int) = _
    rw [e2]
    simp only [IntKind.wrap, IntKind.bits, IntKind.signed]
    simp
    omega
  rw [e, mask_nat]
  unfold fFin
  by_cases h : (n : Int) / 8388608 % 256 = 255
  · have h2 : n / 8388608 % 256 = 255 := by omega
    rw [h2, h]
    decide
  · have h2 : n / 8388608 % 256 ≠ 255 := by omega
    have h3 : (((n / 8388608 % 256 * 8388608 : Nat) : Int) == 2139095040) = false := by
      rw [beq_eq_false_iff_ne]
      omega
    have h4 : ((n : Int) / 8388608 % 256 != 255) = true := by rw [bne_iff_ne]; exact h
    rw [h3, h4]
    rfl

end Go.Proofs.Ytfhfepphccaadaa

/-
  The program's tests of points, triangles and rays.
-/
namespace Go.Proofs.Ytfhfepphccaadaa
open Go.RowKit

theorem row_lit (w : World) (xs : List Int) (t : TypeId) : RowAt .u32 (w.alloc (.cells (xs.map (Value.int .u32 ·)).toArray t)) (some ⟨w.heap.size, 0, none⟩) xs := by
  refine .inr ⟨w.heap.size, 0, rfl, by simp, fun j hj => ?_⟩
  simp [List.getD_eq_getElem?_getD, hj]

theorem row_at (w : World) (xs : List Int) (t : TypeId) {X : Nat} (hX : X = w.heap.size) : RowAt .u32 (w.alloc (.cells (xs.map (Value.int .u32 ·)).toArray t)) (some ⟨X, 0, none⟩) xs := by
  subst hX
  exact row_lit w xs t

theorem u32_lit {xs : List Int} (h : ∀ x, x ∈ xs → 0 ≤ x ∧ x < 4294967296) : U32 xs := h

theorem bits_or_u {a b : Int} (a0 : 0 ≤ a) (a1 : a < 4294967296) (b0 : 0 ≤ b) (b1 : b < 4294967296) : ∃ n m : Nat, a = n ∧ b = m ∧ bits .or .u32 a b = ((n ||| m : Nat) : Int) ∧ n ||| m < 4294967296 := by
  obtain ⟨n, rfl⟩ := Int.eq_ofNat_of_zero_le a0
  obtain ⟨m, rfl⟩ := Int.eq_ofNat_of_zero_le b0
  have hl : n ||| m < 4294967296 := Nat.or_lt_two_pow (n := 32) (by omega) (by omega)
  refine ⟨n, m, rfl, rfl, ?_, hl⟩
  have e2 : (BitVec.ofInt 32 (n : Int) ||| BitVec.ofInt 32 (m : Int)).toNat = n ||| m := by
    rw [BitVec.toNat_or, BitVec.ofInt_natCast, BitVec.toNat_ofNat, BitVec.ofInt_natCast, BitVec.toNat_ofNat, Nat.mod_eq_of_lt (by omega), Nat.mod_eq_of_lt (by omega)]
  show IntKind.u32.wrap ((BitVec.ofInt 32 (n : Int) ||| BitVec.ofInt 32 (m : Int)).toNat : Int) = _
  rw [e2]
  simp only [IntKind.wrap, IntKind.bits, IntKind.signed]
  simp
  omega

theorem zero_mod (n : Nat) : zeroB (n : Int) = decide (n % 2147483648 = 0) := by
  unfold zeroB
  by_cases h : n % 2147483648 = 0
  · simp [h]; omega
  · simp [h]; omega

theorem or_low (n m : Nat) : (n ||| m) % 2147483648 = (n % 2147483648) ||| (m % 2147483648) := by
  rw [show (2147483648 : Nat) = 2 ^ 31 by decide, Nat.or_mod_two_pow]

theorem or_zero (n m : Nat) : (n ||| m = 0) ↔ n = 0 ∧ m = 0 := by
  constructor
  · intro h
    have h1 : n ≤ n ||| m := Nat.left_le_or
    have h2 : m ≤ n ||| m := Nat.right_le_or
    omega
  · rintro ⟨rfl, rfl⟩
    rfl

theorem andNot_u {n : Nat} (h : n < 4294967296) : bits .andNot .u32 (n : Int) 2147483648 = ((n % 2147483648 : Nat) : Int) := by
  have e2 : (BitVec.ofInt 32 (n : Int) &&& ~~~ BitVec.ofInt 32 2147483648).toNat = n % 2147483648 := by
    rw [BitVec.toNat_and, BitVec.ofInt_natCast, BitVec.toNat_ofNat, Nat.mod_eq_of_lt (by omega)]
    have : (~~~ BitVec.ofInt 32 2147483648).toNat = 2 ^ 31 - 1 := by decide
    rw [this, Nat.and_two_pow_sub_one_eq_mod]
  show IntKind.u32.wrap ((BitVec.ofInt 32 (n : Int) &&& ~~~ BitVec.ofInt 32 2147483648).toNat : Int) = _
  rw [e2]
  simp only [IntKind.wrap, IntKind.bits, IntKind.signed]
  simp
  omega

theorem way_bits {x y z : Int} (xa : 0 ≤ x) (xb : x < 4294967296) (ya : 0 ≤ y) (yb : y < 4294967296) (za : 0 ≤ z) (zb : z < 4294967296) : (bits .andNot .u32 (bits .or .u32 (bits .or .u32 x y) z) 2147483648 != 0) = !(noWayB x y z) := by
  obtain ⟨n, m, rfl, rfl, e1, l1⟩ := bits_or_u xa xb ya yb
  rw [e1]
  obtain ⟨p, q, e3, rfl, e2, l2⟩ := bits_or_u (a := ((n ||| m : Nat) : Int)) (by omega) (by omega) za zb
  have e4 : p = n ||| m := by omega
  subst e4
  rw [e2, andNot_u l2, or_low, or_low]
  unfold noWayB
  rw [zero_mod, zero_mod, zero_mod]
  by_cases h : (n % 2147483648 ||| m % 2147483648) ||| q % 2147483648 = 0
  · obtain ⟨h1, h2⟩ := (or_zero _ _).1 h
    obtain ⟨h3, h4⟩ := (or_zero _ _).1 h1
    rw [h, h3, h4, h2]
    decide
  · have h5 : ¬ (n % 2147483648 = 0 ∧ m % 2147483648 = 0 ∧ q % 2147483648 = 0) := by
      rintro ⟨q1, q2, q3⟩
      rw [q1, q2, q3] at h
      exact h (by decide)
    have h6 : (((((n % 2147483648 ||| m % 2147483648) ||| q % 2147483648 : Nat) : Int)) != 0) = true := by
      rw [bne_iff_ne]
      omega
    rw [h6]
    symm
    rw [Bool.not_eq_true', Bool.and_eq_false_iff, Bool.and_eq_false_iff]
    simp only [decide_eq_false_iff_not]
    omega

end Go.Proofs.Ytfhfepphccaadaa
