/-
  The program's reader: number.
-/
import Derived.Test.YtcjdnomhnlbmbaaFromDsDraw0IdA
import Derived.Test.YtcjdnomhnlbmbaaUtil
import Derived.Test.YtcjdnomhnlbmbaaNum
import Derived.Test.YtcjdnomhnlbmbaaDy1hDy2NumDNumF
import Derived.Laws.Entries
namespace Go.Proofs.Ytcjdnomhnlbmbaa
open Go.RowKit

theorem leV_snoc : ∀ (l : List Int) (x : Int), leV (l ++ [x]) = leV l + 256 ^ l.length * x
  | [], x => by simp [leV]
  | b :: r, x => by
    rw [List.cons_append, leV, leV, leV_snoc r x, List.length_cons, Int.pow_succ, Int.mul_add, Int.add_assoc, ← Int.mul_assoc, Int.mul_comm (256 ^ r.length) 256]

/-- The number of the first k bytes of a part. -/
def numK (bs : List Int) (i size k : Nat) : Int := leV ((partB bs i size).take k)
theorem numK_succ {bs : List Int} {i size k : Nat} (hs : i + size ≤ bs.length) (hk : k < size) : numK bs i size (k + 1) = numK bs i size k + 256 ^ k * bs.getD (i + k) 0 := by
  unfold numK
  have hl : k < (partB bs i size).length := by rw [partB_length hs]; exact hk
  rw [List.take_succ_eq_append_getElem hl, leV_snoc, List.length_take, Nat.min_eq_left (Nat.le_of_lt hl), ← partB_get (size := size) hk, List.getD_eq_getElem?_getD, List.getElem?_eq_getElem hl]
  rfl
theorem numK_bounds {bs : List Int} (hu : U8 bs) {i size k : Nat} (hs : i + size ≤ bs.length) (hk : k ≤ size) : 0 ≤ numK bs i size k ∧ numK bs i size k < 256 ^ k := by
  have h1 : U8 ((partB bs i size).take k) := fun z hz => hu.part i size z (List.mem_of_mem_take hz)
  have h2 := leV_bounds _ h1
  rw [List.length_take, partB_length hs, Nat.min_eq_left hk] at h2
  exact h2
theorem numK_all {bs : List Int} {i size : Nat} (hs : i + size ≤ bs.length) : numK bs i size size = numB bs i size := by
  unfold numK numB
  rw [if_neg (by omega), List.take_of_length_le (by rw [partB_length hs]; omega)]
  rfl

theorem or_byte {n y p : Int} (k : Nat) (hp : p = 2 ^ (8 * k)) (h0 : 0 ≤ n) (h1 : n < p) (y0 : 0 ≤ y) (y1 : y < 256) (hk : k < 4) : bits .or .u32 n (y * p) = n + p * y := by
  subst hp
  obtain ⟨m, rfl⟩ := Int.eq_ofNat_of_zero_le h0
  obtain ⟨z, rfl⟩ := Int.eq_ofNat_of_zero_le y0
  have hm : m < 2 ^ (8 * k) := by exact_mod_cast h1
  have hz : z < 256 := by omega
  have hb : z * 2 ^ (8 * k) + m < 4294967296 := by
    have hk4 : k = 0 ∨ k = 1 ∨ k = 2 ∨ k = 3 := by omega
    rcases hk4 with rfl | rfl | rfl | rfl <;> simp at hm ⊢ <;> omega
  have e1 : m ||| z * 2 ^ (8 * k) = z * 2 ^ (8 * k) + m := by
    have := Nat.two_pow_add_eq_or_of_lt hm z
    rw [Nat.or_comm, Nat.mul_comm z, this]
  have e2 : (BitVec.ofInt 32 (m : Int) ||| BitVec.ofInt 32 ((z * 2 ^ (8 * k) : Nat) : Int)).toNat = m ||| z * 2 ^ (8 * k) := by
    rw [BitVec.toNat_or, BitVec.ofInt_natCast, BitVec.toNat_ofNat, BitVec.ofInt_natCast, BitVec.toNat_ofNat, Nat.mod_eq_of_lt (by omega), Nat.mod_eq_of_lt (by omega)]
  have e3 : ((z : Int) * (2 : Int) ^ (8 * k)) = ((z * 2 ^ (8 * k) : Nat) : Int) := by push_cast; rfl
  rw [e3]
  show IntKind.u32.wrap ((BitVec.ofInt 32 (m : Int) ||| BitVec.ofInt 32 ((z * 2 ^ (8 * k) : Nat) : Int)).toNat : Int) = _
  rw [e2, e1]
  simp only [IntKind.wrap, IntKind.bits, IntKind.signed]
  rw [Int.mul_comm, e3]
  obtain ⟨t, ht⟩ : ∃ t, t = z * 2 ^ (8 * k) := ⟨_, rfl⟩
  rw [← ht] at hb ⊢
  simp
  omega

def NumOut (w : World) (R b off c : Nat) (bs : List Int) (i size : Nat) (e : Ending) (w' : World) : Prop :=
  e = .returned (.int .u32 (numB bs i size)) ∧ RdB w' R b off c bs (i + size) ∧ Aside R w w'

set_option maxRecDepth 100000 in
set_option maxHeartbeats 1000000 in
theorem number_ok (R b off c : Nat) (bs : List Int) (i size : Nat) (w : World) (hu : U8 bs) (hs4 : size ≤ 4) (hs : i + size ≤ bs.length) (h : RdB w R b off c bs i) :
    Calls Try.prog 107 #[.pointer (some ⟨R, 0, none⟩), .int .i64 size] w fun e w' => NumOut w R b off c bs i size e w' := by
  have HU : Hid (U8 bs) := hu
  have HH : Hid (RdB w R b off c bs i) := h
  clear h hu
  go_enter Try.func107, Try.ntmps107
  go_wp2_with fail
  refine (take_ok R b off c bs i size _ hs HH.out).mono ?_
  rintro e V ⟨p, k, rfl, hrow, hpb, hrd, has⟩
  have HR : Hid (RowAt .u8 V p (partB bs i size)) := hrow
  have HD : Hid (RdB V R b off c bs (i + size)) := hrd
  have HA : Hid (Aside R w V) := has
  clear hrow hrd has hpb
  go_wp2
  go_loopw [5, 6, 7, 12] (fun sn _ _ si wr => ∃ (j : Nat), j ≤ size ∧ si = .int .i64 j ∧ sn = .int .u32 (numK bs i size j) ∧ wr = V) (fun _ _ _ si _ => size - (intOf si).toNat)
  case atStart => exact ⟨0, Nat.zero_le _, rfl, rfl, rfl⟩
  case round =>
    obtain ⟨j, hj, rfl, rfl, rfl⟩ := hrel
    by_cases hlt : j < size
    · obtain ⟨b1, o1, rfl, hbl, hc⟩ := HR.out.resolve_left (by intro e; have := congrArg List.length e; rw [partB_length hs] at this; simp at this; omega)
      have q : wr.cell? ⟨b1, o1 + j, none⟩ = some (.int .u8 (bs.getD (i + j) 0)) := by
        have := hc j (by rw [partB_length hs]; exact hlt)
        rw [partB_get hlt] at this
        exact this
      have y0 := (HU.out.at (i + j)).1
      have y1 := (HU.out.at (i + j)).2
      have n0 := (numK_bounds HU.out hs (Nat.le_of_lt hlt)).1
      have n1 := (numK_bounds HU.out hs (Nat.le_of_lt hlt)).2
      have HE : Hid (numK bs i size (j + 1) = numK bs i size j + 256 ^ j * bs.getD (i + j) 0) := numK_succ hs hlt
      obtain ⟨y, hy⟩ : ∃ y, y = bs.getD (i + j) 0 := ⟨_, rfl⟩
      rw [← hy] at q y0 y1 HE
      obtain ⟨N, hN⟩ : ∃ N, N = numK bs i size j := ⟨_, rfl⟩
      rw [← hN] at n0 n1 HE ⊢
      have hib : (j : Int) < size := by omega
      clear hc hy hN hbl
      have hj4 : j = 0 ∨ j = 1 ∨ j = 2 ∨ j = 3 := by omega
      rcases hj4 with rfl | rfl | rfl | rfl
      · have HO : Hid (bits .or .u32 N y = numK bs i size (0 + 1)) := by
          have h1 := or_byte 0 (p := 1) (by decide) n0 (Int.lt_of_lt_of_le n1 (by decide)) y0 y1 (by decide)
          rw [Int.mul_one] at h1
          unfold Hid
          rw [h1, HE.out, show ((256 : Int) ^ 0) = 1 from by decide]
        clear n1 HE
        rw [Nat.add_zero] at q
        go_wp2
        go_roundw
        case rel => exact ⟨0 + 1, by omega, by go_num, by rw [HO.out], trivial⟩
        case measure => simp [intOf]; omega
      · have HO : Hid (bits .or .u32 N (y * 256) = numK bs i size (1 + 1)) := by
          have h1 := or_byte 1 (p := 256) (by decide) n0 (Int.lt_of_lt_of_le n1 (by decide)) y0 y1 (by decide)
          unfold Hid
          rw [h1, HE.out, show ((256 : Int) ^ 1) = 256 from by decide]
        clear n1 HE
        go_wp2
        go_roundw
        case rel => exact ⟨1 + 1, by omega, by go_num, by rw [HO.out], trivial⟩
        case measure => simp [intOf]; omega
      · have HO : Hid (bits .or .u32 N (y * 65536) = numK bs i size (2 + 1)) := by
          have h1 := or_byte 2 (p := 65536) (by decide) n0 (Int.lt_of_lt_of_le n1 (by decide)) y0 y1 (by decide)
          unfold Hid
          rw [h1, HE.out, show ((256 : Int) ^ 2) = 65536 from by decide]
        clear n1 HE
        go_wp2
        go_roundw
        case rel => exact ⟨2 + 1, by omega, by go_num, by rw [HO.out], trivial⟩
        case measure => simp [intOf]; omega
      · have HO : Hid (bits .or .u32 N (y * 16777216) = numK bs i size (3 + 1)) := by
          have h1 := or_byte 3 (p := 16777216) (by decide) n0 (Int.lt_of_lt_of_le n1 (by decide)) y0 y1 (by decide)
          unfold Hid
          rw [h1, HE.out, show ((256 : Int) ^ 3) = 16777216 from by decide]
        clear n1 HE
        go_wp2
        go_roundw
        case rel => exact ⟨3 + 1, by omega, by go_num, by rw [HO.out], trivial⟩
        case measure => simp [intOf]; omega
    · have hje : size = j := by omega
      subst hje
      have HN : Hid (numK bs i size size = numB bs i size) := numK_all hs
      go_wp2
      go_ret
      exact ⟨by rw [← HN.out]; rfl, HD.out, HA.out⟩

theorem number_short (R b off c : Nat) (bs : List Int) (i size : Nat) (w : World) (hs : bs.length < i + size) (h : RdB w R b off c bs i) :
    Calls Try.prog 107 #[.pointer (some ⟨R, 0, none⟩), .int .i64 size] w fun e w' => e = thrown (5, bs.length) ∧ Aside R w w' := by
  have HH : Hid (RdB w R b off c bs i) := h
  clear h
  go_enter Try.func107, Try.ntmps107
  go_wp2_with fail
  refine (take_short R b off c bs i size _ hs HH.out).mono ?_
  rintro e V ⟨rfl, has⟩
  exact ⟨rfl, rfl, has⟩

end Go.Proofs.Ytcjdnomhnlbmbaa

/-
  The program's test whether floats are finite.
-/
namespace Go.Proofs.Ytcjdnomhnlbmbaa
open Go.RowKit

theorem mask_nat (n : Nat) : n &&& 2139095040 = n / 8388608 % 256 * 8388608 := by
  apply Nat.eq_of_testBit_eq
  intro i
  rw [show (2139095040 : Nat) = (2 ^ 8 - 1) <<< 23 by decide, show n / 8388608 % 256 * 8388608 = ((n >>> 23) % 2 ^ 8) <<< 23 by rw [Nat.shiftLeft_eq, Nat.shiftRight_eq_div_pow]]
  simp only [Nat.testBit_and, Nat.testBit_shiftLeft, Nat.testBit_mod_two_pow, Nat.testBit_two_pow_sub_one, Nat.testBit_shiftRight]
  by_cases h : 23 ≤ i
  · rw [show 23 + (i - 23) = i by omega]
    simp [h, Bool.and_comm]
  · simp [h]
theorem mask_bits {x : Int} (h0 : 0 ≤ x) (h1 : x < 4294967296) : (bits .and .u32 x 2139095040 == 2139095040) = !(fFin x) := by
  obtain ⟨n, rfl⟩ := Int.eq_ofNat_of_zero_le h0
  have e : bits .and .u32 (n : Int) 2139095040 = ((n &&& 2139095040 : Nat) : Int) := by
    have hl : n &&& 2139095040 < 4294967296 := Nat.lt_of_le_of_lt Nat.and_le_right (by decide)
    have e2 : (BitVec.ofInt 32 (n : Int) &&& BitVec.ofInt 32 2139095040).toNat = n &&& 2139095040 := by
      rw [BitVec.toNat_and, BitVec.ofInt_natCast, BitVec.toNat_ofNat, Nat.mod_eq_of_lt (by omega)]
      rfl
    show IntKind.u32.wrap ((BitVec.ofInt 32 (n : Int) &&& BitVec.ofInt 32 2139095040).toNat : Int) = _
    rw [e2]
    simp only [IntKind.wrap, IntKind.bits, IntKind.signed]
    simp
    omega
  rw [e, mask_nat]
  unfold fFin
  by_cases h : (n : Int) / 8388608 % 256 = 255
  · have h2 : n / 8388608 % 256 = 255 := by omega
    rw [h2, h]
    decide
  · have h2 : n / 8388608 % 256 ≠ 255 := by omega
    have h3 : (((n / 8388608 % 256 * 8388608 : Nat) : Int) == 2139095040) = false := by
      rw [beq_eq_false_iff_ne]
      omega
    have h4 : ((n : Int) / 8388608 % 256 != 255) = true := by rw [bne_iff_ne]; exact h
    rw [h3, h4]
    rfl

set_option maxHeartbeats 1000000 in
theorem floatsFin_any (a : Option Addr) (c : Nat) (zs : List Int) (w : World) (hn : zs.length ≤ 1000) (hz : RowAt .u32 w a zs) (hu : U32 zs) :
    Calls Try.prog 93 #[.slice a zs.length c] w fun e w' => e = .returned (.bool (zs.all fFin)) ∧ Below w.heap.size w w' := by
  go_enter Try.func93, Try.ntmps93
  go_wp2
  go_loopw [4, 7] (fun _ si wr => ∃ i : Nat, i ≤ zs.length ∧ si = .int .i64 i ∧ Hid ((zs.take i).all fFin = true) ∧ Below w.heap.size w wr) (fun _ si _ => zs.length - (intOf si).toNat)
  case atStart => exact ⟨0, Nat.zero_le _, rfl, rfl, Below.refl _ _⟩
  case round =>
    obtain ⟨i, hi, rfl, hall, hnx⟩ := hrel
    have hz2 := hz.later hnx
    by_cases hlt : i < zs.length
    · have hib : (i : Int) < zs.length := by omega
      rcases hz2 with h | ⟨b, off, h1, h2, h3⟩
      · subst h; simp at hlt
      subst h1
      have g0 := h3 i hlt
      obtain ⟨x, hx⟩ : ∃ x, x = zs.getD i 0 := ⟨_, rfl⟩
      rw [← hx] at g0
      have hmem : x ∈ zs := by rw [hx, List.getD_eq_getElem?_getD, List.getElem?_eq_getElem hlt]; exact List.getElem_mem hlt
      have hx0 := hu x hmem
      have HTK : Hid ((zs.take (i + 1)).all fFin = fFin x) := by
        unfold Hid
        rw [List.take_succ_eq_append_getElem hlt, List.all_append, hall.out, hx]
        simp [List.getD_eq_getElem?_getD, hlt]
      have HBAD : Hid (fFin x = false → zs.all fFin = false) := by
        intro hf
        cases hall2 : zs.all fFin
        · rfl
        · have := List.all_eq_true.1 hall2 x hmem
          rw [hf] at this
          cases this
      have hm := mask_bits hx0.1 hx0.2
      have HN : Hid (Below w.heap.size w wr) := hnx
      clear hx hmem h3 hall hnx
      cases hf : fFin x
      · rw [hf] at hm
        have hbad := HBAD.out hf
        have HF : Hid (zs.all fFin = false) := hbad
        clear hbad
        go_wp2
        go_ret
        exact ⟨by rw [HF.out]; rfl, HN.out⟩
      · rw [hf] at hm
        go_wp2
        go_roundw
        case rel => exact ⟨i + 1, by omega, by simp, by unfold Hid; rw [HTK.out, hf], HN.out⟩
        case measure => simp [intOf]; omega
    · have hie : i = zs.length := by omega
      subst hie
      have HF : Hid (zs.all fFin = true) := by
        have := hall.out
        rwa [List.take_length] at this
      have HN : Hid (Below w.heap.size w wr) := hnx
      clear hall hnx hz2
      go_wp2
      go_ret
      exact ⟨by rw [HF.out]; rfl, HN.out⟩

end Go.Proofs.Ytcjdnomhnlbmbaa
