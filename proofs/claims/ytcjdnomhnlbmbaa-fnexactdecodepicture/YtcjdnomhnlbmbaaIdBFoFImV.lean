/-
  The program's reader: number.
-/
import Derived.Test.YtcjdnomhnlbmbaaFromDpDraw0SpD1IdA
import Derived.Test.YtcjdnomhnlbmbaaUtil
import Derived.Test.YtcjdnomhnlbmbaaNum
import Derived.Test.YtcjdnomhnlbmbaaNumZToNumF
import Derived.Laws.Entries
import Derived.Test.YtcjdnomhnlbmbaaSpVSpW
namespace Go.Proofs.Ytcjdnomhnlbmbaa
open Go.RowKit

theorem leV_snoc : ∀ (l : List Int) (x : Int), leV (l ++ [x]) = leV l + 256 ^ l.length * x
  | [], x => by simp [leV]
  | b :: r, x => by
    rw [List.cons_append, leV, leV, leV_snoc r x, List.length_cons, Int.pow_succ, Int.mul_add, Int.add_assoc, ← Int.mul_assoc, Int.mul_comm (256 ^ r.length) 256]

/-- The number of the first k bytes of a part. -/
def numK (bs : List Int) (i size k : Nat) : Int := leV ((partB bs i size).take k)
theorem numK_succ {bs : List Int} {i size k : Nat} (hs : i + size ≤ bs.length) (hk : k < size) : numK bs i size (k + 1) = numK bs i size k + 256 ^ k * bs.getD (i + k) 0 := by
  unfold numK
  have hl : k < (partB bs i size).length := by rw [partB_length hs]; exact hk
  rw [List.take_succ_eq_append_getElem hl, leV_snoc, List.length_take, Nat.min_eq_left (Nat.le_of_lt hl), ← partB_get (size := size) hk, List.getD_eq_getElem?_getD, List.getElem?_eq_getElem hl]
  rfl
theorem numK_bounds {bs : List Int} (hu : U8 bs) {i size k : Nat} (hs : i + size ≤ bs.length) (hk : k ≤ size) : 0 ≤ numK bs i size k ∧ numK bs i size k < 256 ^ k := by
  have h1 : U8 ((partB bs i size).take k) := fun z hz => hu.part i size z (List.mem_of_mem_take hz)
  have h2 := leV_bounds _ h1
  rw [List.length_take, partB_length hs, Nat.min_eq_left hk] at h2
  exact h2
theorem numK_all {bs : List Int} {i size : Nat} (hs : i + size ≤ bs.length) : numK bs i size size = numB bs i size := by
  unfold numK numB
  rw [if_neg (by omega), List.take_of_length_le (by rw [partB_length hs]; omega)]
  rfl

theorem or_byte {n y p : Int} (k : Nat) (hp : p = 2 ^ (8 * k)) (h0 : 0 ≤ n) (h1 : n < p) (y0 : 0 ≤ y) (y1 : y < 256) (hk : k < 4) : bits .or .u32 n (y * p) = n + p * y := by
  subst hp
  obtain ⟨m, rfl⟩ := Int.eq_ofNat_of_zero_le h0
  obtain ⟨z, rfl⟩ := Int.eq_ofNat_of_zero_le y0
  have hm : m < 2 ^ (8 * k) := by exact_mod_cast h1
  have hz : z < 256 := by omega
  have hb : z * 2 ^ (8 * k) + m < 4294967296 := by
    have hk4 : k = 0 ∨ k = 1 ∨ k = 2 ∨ k = 3 := by omega
    rcases hk4 with rfl | rfl | rfl | rfl <;> simp at hm ⊢ <;> omega
  have e1 : m ||| z * 2 ^ (8 * k) = z * 2 ^ (8 * k) + m := by
    have := Nat.two_pow_add_eq_or_of_lt hm z
    rw [Nat.or_comm, Nat.mul_comm z, this]
  have e2 : (BitVec.ofInt 32 (m : Int) ||| BitVec.ofInt 32 ((z * 2 ^ (8 * k) : Nat) : Int)).toNat = m ||| z * 2 ^ (8 * k) := by
    rw [BitVec.toNat_or, BitVec.ofInt_natCast, BitVec.toNat_ofNat, BitVec.ofInt_natCast, BitVec.toNat_ofNat, Nat.mod_eq_of_lt (by omega), Nat.mod_eq_of_lt (by omega)]
  have e3 : ((z : Int) * (2 : Int) ^ (8 * k)) = ((z * 2 ^ (8 * k) : Nat) : Int) := by push_cast; rfl
  rw [e3]
  show IntKind.u32.wrap ((BitVec.ofInt 32 (m : Int) ||| BitVec.ofInt 32 ((z * 2 ^ (8 * k) : Nat) : Int)).toNat : Int) = _
  rw [e2, e1]
  simp only [IntKind.wrap, IntKind.bits, IntKind.signed]
  rw [Int.mul_comm, e3]
  obtain ⟨t, ht⟩ : ∃ t, t = z * 2 ^ (8 * k) := ⟨_, rfl⟩
  rw [← ht] at hb ⊢
  simp
  omega

def NumOut (w : World) (R b off c : Nat) (bs : List Int) (i size : Nat) (e : Ending) (w' : World) : Prop :=
  e = .returned (.int .u32 (numB bs i size)) ∧ RdB w' R b off c bs (i + size) ∧ Aside R w w'

set_option maxRecDepth 100000 in
set_option maxHeartbeats 1000000 in
theorem number_ok (R b off c : Nat) (bs : List Int) (i size : Nat) (w : World) (hu : U8 bs) (hs4 : size ≤ 4) (hs : i + size ≤ bs.length) (h : RdB w R b off c bs i) :
    Calls Try.prog 107 #[.pointer (some ⟨R, 0, none⟩), .int .i64 size] w fun e w' => NumOut w R b off c bs i size e w' := by
  have HU : Hid (U8 bs) := hu
  have HH : Hid (RdB w R b off c bs i) := h
  clear h hu
  go_enter Try.func107, Try.ntmps107
  go_wp2_with fail
  refine (take_ok R b off c bs i size _ hs HH.out).mono ?_
  rintro e V ⟨p, k, rfl, hrow, hpb, hrd, has⟩
  have HR : Hid (RowAt .u8 V p (partB bs i size)) := hrow
  have HD : Hid (RdB V R b off c bs (i + size)) := hrd
  have HA : Hid (Aside R w V) := has
  clear hrow hrd has hpb
  go_wp2
  go_loopw [5, 6, 7, 12] (fun sn _ _ si wr => ∃ (j : Nat), j ≤ size ∧ si = .int .i64 j ∧ sn = .int .u32 (numK bs i size j) ∧ wr = V) (fun _ _ _ si _ => size - (intOf si).toNat)
  case atStart => exact ⟨0, Nat.zero_le _, rfl, rfl, rfl⟩
  case round =>
    obtain ⟨j, hj, rfl, rfl, rfl⟩ := hrel
    by_cases hlt : j < size
    · obtain ⟨b1, o1, rfl, hbl, hc⟩ := HR.out.resolve_left (by intro e; have := congrArg List.length e; rw [partB_length hs] at this; simp at this; omega)
      have q : wr.cell? ⟨b1, o1 + j, none⟩ = some (.int .u8 (bs.getD (i + j) 0)) := by
        have := hc j (by rw [partB_length hs]; exact hlt)
        rw [partB_get hlt] at this
        exact this
      have y0 := (HU.out.at (i + j)).1
      have y1 := (HU.out.at (i + j)).2
      have n0 := (numK_bounds HU.out hs (Nat.le_of_lt hlt)).1
      have n1 := (numK_bounds HU.out hs (Nat.le_of_lt hlt)).2
      have HE : Hid (numK bs i size (j + 1) = numK bs i size j + 256 ^ j * bs.getD (i + j) 0) := numK_succ hs hlt
      obtain ⟨y, hy⟩ : ∃ y, y = bs.getD (i + j) 0 := ⟨_, rfl⟩
      rw [← hy] at q y0 y1 HE
      obtain ⟨N, hN⟩ : ∃ N, N = numK bs i size j := ⟨_, rfl⟩
      rw [← hN] at n0 n1 HE ⊢
      have hib : (j : Int) < size := by omega
      clear hc hy hN hbl
      have hj4 : j = 0 ∨ j = 1 ∨ j = 2 ∨ j = 3 := by omega
      rcases hj4 with rfl | rfl | rfl | rfl
      · have HO : Hid (bits .or .u32 N y = numK bs i size (0 + 1)) := by
          have h1 := or_byte 0 (p := 1) (by decide) n0 (Int.lt_of_lt_of_le n1 (by decide)) y0 y1 (by decide)
          rw [Int.mul_one] at h1
          unfold Hid
          rw [h1, HE.out, show ((256 : Int) ^ 0) = 1 from by decide]
        clear n1 HE
        rw [Nat.add_zero] at q
        go_wp2
        go_roundw
        case rel => exact ⟨0 + 1, by omega, by go_num, by rw [HO.out], trivial⟩
        case measure => simp [intOf]; omega
      · have HO : Hid (bits .or .u32 N (y * 256) = numK bs i size (1 + 1)) := by
          have h1 := or_byte 1 (p := 256) (by decide) n0 (Int.lt_of_lt_of_le n1 (by decide)) y0 y1 (by decide)
          unfold Hid
          rw [h1, HE.out, show ((256 : Int) ^ 1) = 256 from by decide]
        clear n1 HE
        go_wp2
        go_roundw
        case rel => exact ⟨1 + 1, by omega, by go_num, by rw [HO.out], trivial⟩
        case measure => simp [intOf]; omega
      · have HO : Hid (bits .or .u32 N (y * 65536) = numK bs i size (2 + 1)) := by
          have h1 := or_byte 2 (p := 65536) (by decide) n0 (Int.lt_of_lt_of_le n1 (by decide)) y0 y1 (by decide)
          unfold Hid
          rw [h1, HE.out, show ((256 : Int) ^ 2) = 65536 from by decide]
        clear n1 HE
        go_wp2
        go_roundw
        case rel => exact ⟨2 + 1, by omega, by go_num, by rw [HO.out], trivial⟩
        case measure => simp [intOf]; omega
      · have HO : Hid (bits .or .u32 N (y * 16777216) = numK bs i size (3 + 1)) := by
          have h1 := or_byte 3 (p := 16777216) (by decide) n0 (Int.lt_of_lt_of_le n1 (by decide)) y0 y1 (by decide)
          unfold Hid
          rw [h1, HE.out, show ((256 : Int) ^ 3) = 16777216 from by decide]
        clear n1 HE
        go_wp2
        go_roundw
        case rel => exact ⟨3 + 1, by omega, by go_num, by rw [HO.out], trivial⟩
        case measure => simp [intOf]; omega
    · have hje : size = j := by omega
      subst hje
      have HN : Hid (numK bs i size size = numB bs i size) := numK_all hs
      go_wp2
      go_ret
      exact ⟨by rw [← HN.out]; rfl, HD.out, HA.out⟩

theorem number_short (R b off c : Nat) (bs : List Int) (i size : Nat) (w : World) (hs : bs.length < i + size) (h : RdB w R b off c bs i) :
    Calls Try.prog 107 #[.pointer (some ⟨R, 0, none⟩), .int .i64 size] w fun e w' => e = thrown (5, bs.length) ∧ Aside R w w' := by
  have HH : Hid (RdB w R b off c bs i) := h
  clear h
  go_enter Try.func107, Try.ntmps107
  go_wp2_with fail
  refine (take_short R b off c bs i size _ hs HH.out).mono ?_
  rintro e V ⟨rfl, has⟩
  exact ⟨rfl, rfl, has⟩

end Go.Proofs.Ytcjdnomhnlbmbaa

/-
  The program's test whether floats are finite.
-/
namespace Go.Proofs.Ytcjdnomhnlbmbaa
open Go.RowKit

theorem mask_nat (n : Nat) : n &&& 2139095040 = n / 8388608 % 256 * 8388608 := by
  apply Nat.eq_of_testBit_eq
  intro i
  rw [show (2139095040 : Nat) = (2 ^ 8 - 1) <<< 23 by decide, show n / 8388608 % 256 * 8388608 = ((n >>> 23) % 2 ^ 8) <<< 23 by rw [Nat.shiftLeft_eq, Nat.shiftRight_eq_div_pow]]
  simp only [Nat.testBit_and, Nat.testBit_shiftLeft, Nat.testBit_mod_two_pow, Nat.testBit_two_pow_sub_one, Nat.testBit_shiftRight]
  by_cases h : 23 ≤ i
  · rw [show 23 + (i - 23) = i by omega]
    simp [h, Bool.and_comm]
  · simp [h]
theorem mask_bits {x : Int} (h0 : 0 ≤ x) (h1 : x < 4294967296) : (bits .and .u32 x 2139095040 == 2139095040) = !(fFin x) := by
  obtain ⟨n, rfl⟩ := Int.eq_ofNat_of_zero_le h0
  have e : bits .and .u32 (n : Int) 2139095040 = ((n &&& 2139095040 : Nat) : Int) := by
    have hl : n &&& 2139095040 < 4294967296 := Nat.lt_of_le_of_lt Nat.and_le_right (by decide)
    have e2 : (BitVec.ofInt 32 (n : Int) &&& BitVec.ofInt 32 2139095040).toNat = n &&& 2139095040 := by
      rw [BitVec.toNat_and, BitVec.ofInt_natCast, BitVec.toNat_ofNat, Nat.mod_eq_of_lt (by omega)]
      rfl
    show IntKind.u32.wrap ((BitVec.ofInt 32 (n : Int) &&& BitVec.ofInt 32 2139095040).toNat : Int) = _
    rw [e2]
    simp only [IntKind.wrap, IntKind.bits, IntKind.signed]
    simp
    omega
  rw [e, mask_nat]
  unfold fFin
  by_cases h : (n : Int) / 8388608 % 256 = 255
  · have h2 : n / 8388608 % 256 = 255 := by omega
    rw [h2, h]
    decide
  · have h2 : n / 8388608 % 256 ≠ 255 := by omega
    have h3 : (((n / 8388608 % 256 * 8388608 : Nat) : Int) == 2139095040) = false := by
      rw [beq_eq_false_iff_ne]
      omega
    have h4 : ((n : Int) / 8388608 % 256 != 255) = true := by rw [bne_iff_ne]; exact h
    rw [h3, h4]
    rfl

set_option maxHeartbeats 1000000 in
theorem floatsFin_any (a : Option Addr) (c : Nat) (zs : List Int) (w : World) (hn : zs.length ≤ 1000) (hz : RowAt .u32 w a zs) (hu : U32 zs) :
    Calls Try.prog 93 #[.slice a zs.length c] w fun e w' => e = .returned (.bool (zs.all fFin)) ∧ Below w.heap.size w w' := by
  go_enter Try.func93, Try.ntmps93
  go_wp2
  go_loopw [4, 7] (fun _ si wr => ∃ i : Nat, i ≤ zs.length ∧ si = .int .i64 i ∧ Hid ((zs.take i).all fFin = true) ∧ Below w.heap.size w wr) (fun _ si _ => zs.length - (intOf si).toNat)
  case atStart => exact ⟨0, Nat.zero_le _, rfl, rfl, Below.refl _ _⟩
  case round =>
    obtain ⟨i, hi, rfl, hall, hnx⟩ := hrel
    have hz2 := hz.later hnx
    by_cases hlt : i < zs.length
    · have hib : (i : Int) < zs.length := by omega
      rcases hz2 with h | ⟨b, off, h1, h2, h3⟩
      · subst h; simp at hlt
      subst h1
      have g0 := h3 i hlt
      obtain ⟨x, hx⟩ : ∃ x, x = zs.getD i 0 := ⟨_, rfl⟩
      rw [← hx] at g0
      have hmem : x ∈ zs := by rw [hx, List.getD_eq_getElem?_getD, List.getElem?_eq_getElem hlt]; exact List.getElem_mem hlt
      have hx0 := hu x hmem
      have HTK : Hid ((zs.take (i + 1)).all fFin = fFin x) := by
        unfold Hid
        rw [List.take_succ_eq_append_getElem hlt, List.all_append, hall.out, hx]
        simp [List.getD_eq_getElem?_getD, hlt]
      have HBAD : Hid (fFin x = false → zs.all fFin = false) := by
        intro hf
        cases hall2 : zs.all fFin
        · rfl
        · have := List.all_eq_true.1 hall2 x hmem
          rw [hf] at this
          cases this
      have hm := mask_bits hx0.1 hx0.2
      have HN : Hid (Below w.heap.size w wr) := hnx
      clear hx hmem h3 hall hnx
      cases hf : fFin x
      · rw [hf] at hm
        have hbad := HBAD.out hf
        have HF : Hid (zs.all fFin = false) := hbad
        clear hbad
        go_wp2
        go_ret
        exact ⟨by rw [HF.out]; rfl, HN.out⟩
      · rw [hf] at hm
        go_wp2
        go_roundw
        case rel => exact ⟨i + 1, by omega, by simp, by unfold Hid; rw [HTK.out, hf], HN.out⟩
        case measure => simp [intOf]; omega
    · have hie : i = zs.length := by omega
      subst hie
      have HF : Hid (zs.all fFin = true) := by
        have := hall.out
        rwa [List.take_length] at this
      have HN : Hid (Below w.heap.size w wr) := hnx
      clear hall hnx hz2
      go_wp2
      go_ret
      exact ⟨by rw [HF.out]; rfl, HN.out⟩

end Go.Proofs.Ytcjdnomhnlbmbaa

/-
  The program's tests of points, triangles and rays.
-/
namespace Go.Proofs.Ytcjdnomhnlbmbaa
open Go.RowKit

theorem row_lit (w : World) (xs : List Int) (t : TypeId) : RowAt .u32 (w.alloc (.cells (xs.map (Value.int .u32 ·)).toArray t)) (some ⟨w.heap.size, 0, none⟩) xs := by
  refine .inr ⟨w.heap.size, 0, rfl, by simp, fun j hj => ?_⟩
  simp [List.getD_eq_getElem?_getD, hj]

theorem row_at (w : World) (xs : List Int) (t : TypeId) {X : Nat} (hX : X = w.heap.size) : RowAt .u32 (w.alloc (.cells (xs.map (Value.int .u32 ·)).toArray t)) (some ⟨X, 0, none⟩) xs := by
  subst hX
  exact row_lit w xs t

theorem u32_lit {xs : List Int} (h : ∀ x, x ∈ xs → 0 ≤ x ∧ x < 4294967296) : U32 xs := h

set_option maxRecDepth 100000 in
set_option maxHeartbeats 4000000 in
theorem pointsFinite_any (a : Option Addr) (n c : Nat) (zs : List Int) (w : World) (hn : n ≤ 1048576) (hl : zs.length = n * 3) (hu : U32 zs) (hz : RowAt .u32 w a zs) :
    Calls Try.prog 62 #[.slice a n c] w fun e w' => e = .returned (.bool ((List.range n).all (ptAt zs))) ∧ Below w.heap.size w w' := by
  have HL : Hid (zs.length = n * 3) := hl
  have HZ : Hid (RowAt .u32 w a zs) := hz
  have HU : Hid (U32 zs) := hu
  clear hl hz hu
  go_enter Try.func62, Try.ntmps62
  go_wp2
  go_loopw [4, 7] (fun _ si wr => ∃ (i : Nat), i ≤ n ∧ si = .int .i64 i ∧ Hid ((List.range i).all (ptAt zs) = true) ∧ Hid (Below w.heap.size w wr)) (fun _ si _ => n - (intOf si).toNat)
  case atStart => exact ⟨0, Nat.zero_le _, rfl, rfl, Below.refl _ _⟩
  case round =>
    obtain ⟨i, hi, rfl, hA, hb⟩ := hrel
    by_cases hlt : i < n
    · have hle : ∀ j, j < 3 → i * 3 + j < zs.length := by intro j hj; rw [HL.out]; omega
      obtain ⟨b, off, rfl, hbl, hc⟩ := HZ.out.resolve_left (by intro h; have := hle 0 (by omega); rw [h] at this; simp at this)
      obtain ⟨x0, hx0⟩ : ∃ x, x = zs.getD (i * 3) 0 := ⟨_, rfl⟩
      have q0 : wr.cell? ⟨b, off + i * 3, none⟩ = some (.int .u32 x0) := by
        have := (hb.out.cell (p := ⟨b, off + (i * 3 + 0), none⟩) hbl).trans (hc (i * 3 + 0) (hle 0 (by omega)))
        rw [hx0]
        simpa [Nat.add_assoc] using this
      have x0a : 0 ≤ x0 := by rw [hx0]; exact (HU.out.at _).1
      have x0b : x0 < 4294967296 := by rw [hx0]; exact (HU.out.at _).2
      obtain ⟨x1, hx1⟩ : ∃ x, x = zs.getD (i * 3 + 1) 0 := ⟨_, rfl⟩
      have q1 : wr.cell? ⟨b, off + i * 3 + 1, none⟩ = some (.int .u32 x1) := by
        have := (hb.out.cell (p := ⟨b, off + (i * 3 + 1), none⟩) hbl).trans (hc (i * 3 + 1) (hle 1 (by omega)))
        rw [hx1]
        simpa [Nat.add_assoc] using this
      have x1a : 0 ≤ x1 := by rw [hx1]; exact (HU.out.at _).1
      have x1b : x1 < 4294967296 := by rw [hx1]; exact (HU.out.at _).2
      obtain ⟨x2, hx2⟩ : ∃ x, x = zs.getD (i * 3 + 2) 0 := ⟨_, rfl⟩
      have q2 : wr.cell? ⟨b, off + i * 3 + 2, none⟩ = some (.int .u32 x2) := by
        have := (hb.out.cell (p := ⟨b, off + (i * 3 + 2), none⟩) hbl).trans (hc (i * 3 + 2) (hle 2 (by omega)))
        rw [hx2]
        simpa [Nat.add_assoc] using this
      have x2a : 0 ≤ x2 := by rw [hx2]; exact (HU.out.at _).1
      have x2b : x2 < 4294967296 := by rw [hx2]; exact (HU.out.at _).2
      have HX : Hid (ptAt zs i = ([x0, x1, x2].all fFin)) := by unfold Hid; rw [hx0, hx1, hx2]; simp [ptAt, pointB, Bool.and_assoc]
      have hib : (i : Int) < n := by omega
      clear hc hle hx0 hx1 hx2
      go_wp2_with fail
      refine (floatsFin_any (some ⟨wr.heap.size + 1, 0, none⟩) 3 [x0, x1, x2] _ (by simp) (row_at _ [x0, x1, x2] _ (by simp)) (by intro x hx; simp at hx; rcases hx with rfl | rfl | rfl <;> (constructor <;> assumption))).mono ?_
      rintro e w1 ⟨rfl, hb1⟩
      have HB1 : Hid (Below w.heap.size w w1) := hb.out.trans ((bel2 _ _ _).trans (hb1.mono (by simp <;> omega)) |>.mono hb.out.size)
      clear hb1 hb q0 x0a x0b q1 x1a x1b q2 x2a x2b
      rw [← HX.out]
      cases hT : ptAt zs i
      · go_wp2
        go_ret
        exact ⟨ret_bool (by rw [all_range_false hlt hT]), HB1.out⟩
      · go_wp2
        go_roundw
        case rel => exact ⟨i + 1, by omega, by go_num, by unfold Hid; rw [all_range_succ, hA.out, hT]; rfl, HB1⟩
        case measure => simp [intOf]; omega
    · have hie : i = n := by omega
      subst hie
      have HA := hA.out
      go_wp2
      go_ret
      exact ⟨ret_bool HA.symm, hb.out⟩

set_option maxRecDepth 100000 in
set_option maxHeartbeats 4000000 in
theorem trisFinite_any (a : Option Addr) (n c : Nat) (zs : List Int) (w : World) (hn : n ≤ 1048576) (hl : zs.length = n * 9) (hu : U32 zs) (hz : RowAt .u32 w a zs) :
    Calls Try.prog 92 #[.slice a n c] w fun e w' => e = .returned (.bool ((List.range n).all (triAt zs))) ∧ Below w.heap.size w w' := by
  have HL : Hid (zs.length = n * 9) := hl
  have HZ : Hid (RowAt .u32 w a zs) := hz
  have HU : Hid (U32 zs) := hu
  clear hl hz hu
  go_enter Try.func92, Try.ntmps92
  go_wp2
  go_loopw [4, 7] (fun _ si wr => ∃ (i : Nat), i ≤ n ∧ si = .int .i64 i ∧ Hid ((List.range i).all (triAt zs) = true) ∧ Hid (Below w.heap.size w wr)) (fun _ si _ => n - (intOf si).toNat)
  case atStart => exact ⟨0, Nat.zero_le _, rfl, rfl, Below.refl _ _⟩
  case round =>
    obtain ⟨i, hi, rfl, hA, hb⟩ := hrel
    by_cases hlt : i < n
    · have hle : ∀ j, j < 9 → i * 9 + j < zs.length := by intro j hj; rw [HL.out]; omega
      obtain ⟨b, off, rfl, hbl, hc⟩ := HZ.out.resolve_left (by intro h; have := hle 0 (by omega); rw [h] at this; simp at this)
      obtain ⟨x0, hx0⟩ : ∃ x, x = zs.getD (i * 9) 0 := ⟨_, rfl⟩
      have q0 : wr.cell? ⟨b, off + i * 9, none⟩ = some (.int .u32 x0) := by
        have := (hb.out.cell (p := ⟨b, off + (i * 9 + 0), none⟩) hbl).trans (hc (i * 9 + 0) (hle 0 (by omega)))
        rw [hx0]
        simpa [Nat.add_assoc] using this
      have x0a : 0 ≤ x0 := by rw [hx0]; exact (HU.out.at _).1
      have x0b : x0 < 4294967296 := by rw [hx0]; exact (HU.out.at _).2
      obtain ⟨x1, hx1⟩ : ∃ x, x = zs.getD (i * 9 + 1) 0 := ⟨_, rfl⟩
      have q1 : wr.cell? ⟨b, off + i * 9 + 1, none⟩ = some (.int .u32 x1) := by
        have := (hb.out.cell (p := ⟨b, off + (i * 9 + 1), none⟩) hbl).trans (hc (i * 9 + 1) (hle 1 (by omega)))
        rw [hx1]
        simpa [Nat.add_assoc] using this
      have x1a : 0 ≤ x1 := by rw [hx1]; exact (HU.out.at _).1
      have x1b : x1 < 4294967296 := by rw [hx1]; exact (HU.out.at _).2
      obtain ⟨x2, hx2⟩ : ∃ x, x = zs.getD (i * 9 + 2) 0 := ⟨_, rfl⟩
      have q2 : wr.cell? ⟨b, off + i * 9 + 2, none⟩ = some (.int .u32 x2) := by
        have := (hb.out.cell (p := ⟨b, off + (i * 9 + 2), none⟩) hbl).trans (hc (i * 9 + 2) (hle 2 (by omega)))
        rw [hx2]
        simpa [Nat.add_assoc] using this
      have x2a : 0 ≤ x2 := by rw [hx2]; exact (HU.out.at _).1
      have x2b : x2 < 4294967296 := by rw [hx2]; exact (HU.out.at _).2
      obtain ⟨x3, hx3⟩ : ∃ x, x = zs.getD (i * 9 + 3) 0 := ⟨_, rfl⟩
      have q3 : wr.cell? ⟨b, off + i * 9 + 3, none⟩ = some (.int .u32 x3) := by
        have := (hb.out.cell (p := ⟨b, off + (i * 9 + 3), none⟩) hbl).trans (hc (i * 9 + 3) (hle 3 (by omega)))
        rw [hx3]
        simpa [Nat.add_assoc] using this
      have x3a : 0 ≤ x3 := by rw [hx3]; exact (HU.out.at _).1
      have x3b : x3 < 4294967296 := by rw [hx3]; exact (HU.out.at _).2
      obtain ⟨x4, hx4⟩ : ∃ x, x = zs.getD (i * 9 + 4) 0 := ⟨_, rfl⟩
      have q4 : wr.cell? ⟨b, off + i * 9 + 4, none⟩ = some (.int .u32 x4) := by
        have := (hb.out.cell (p := ⟨b, off + (i * 9 + 4), none⟩) hbl).trans (hc (i * 9 + 4) (hle 4 (by omega)))
        rw [hx4]
        simpa [Nat.add_assoc] using this
      have x4a : 0 ≤ x4 := by rw [hx4]; exact (HU.out.at _).1
      have x4b : x4 < 4294967296 := by rw [hx4]; exact (HU.out.at _).2
      obtain ⟨x5, hx5⟩ : ∃ x, x = zs.getD (i * 9 + 5) 0 := ⟨_, rfl⟩
      have q5 : wr.cell? ⟨b, off + i * 9 + 5, none⟩ = some (.int .u32 x5) := by
        have := (hb.out.cell (p := ⟨b, off + (i * 9 + 5), none⟩) hbl).trans (hc (i * 9 + 5) (hle 5 (by omega)))
        rw [hx5]
        simpa [Nat.add_assoc] using this
      have x5a : 0 ≤ x5 := by rw [hx5]; exact (HU.out.at _).1
      have x5b : x5 < 4294967296 := by rw [hx5]; exact (HU.out.at _).2
      obtain ⟨x6, hx6⟩ : ∃ x, x = zs.getD (i * 9 + 6) 0 := ⟨_, rfl⟩
      have q6 : wr.cell? ⟨b, off + i * 9 + 6, none⟩ = some (.int .u32 x6) := by
        have := (hb.out.cell (p := ⟨b, off + (i * 9 + 6), none⟩) hbl).trans (hc (i * 9 + 6) (hle 6 (by omega)))
        rw [hx6]
        simpa [Nat.add_assoc] using this
      have x6a : 0 ≤ x6 := by rw [hx6]; exact (HU.out.at _).1
      have x6b : x6 < 4294967296 := by rw [hx6]; exact (HU.out.at _).2
      obtain ⟨x7, hx7⟩ : ∃ x, x = zs.getD (i * 9 + 7) 0 := ⟨_, rfl⟩
      have q7 : wr.cell? ⟨b, off + i * 9 + 7, none⟩ = some (.int .u32 x7) := by
        have := (hb.out.cell (p := ⟨b, off + (i * 9 + 7), none⟩) hbl).trans (hc (i * 9 + 7) (hle 7 (by omega)))
        rw [hx7]
        simpa [Nat.add_assoc] using this
      have x7a : 0 ≤ x7 := by rw [hx7]; exact (HU.out.at _).1
      have x7b : x7 < 4294967296 := by rw [hx7]; exact (HU.out.at _).2
      obtain ⟨x8, hx8⟩ : ∃ x, x = zs.getD (i * 9 + 8) 0 := ⟨_, rfl⟩
      have q8 : wr.cell? ⟨b, off + i * 9 + 8, none⟩ = some (.int .u32 x8) := by
        have := (hb.out.cell (p := ⟨b, off + (i * 9 + 8), none⟩) hbl).trans (hc (i * 9 + 8) (hle 8 (by omega)))
        rw [hx8]
        simpa [Nat.add_assoc] using this
      have x8a : 0 ≤ x8 := by rw [hx8]; exact (HU.out.at _).1
      have x8b : x8 < 4294967296 := by rw [hx8]; exact (HU.out.at _).2
      have HX : Hid (triAt zs i = ((List.range 3).all (ptAt [x0, x1, x2, x3, x4, x5, x6, x7, x8]))) := by unfold Hid; rw [hx0, hx1, hx2, hx3, hx4, hx5, hx6, hx7, hx8]; simp [List.range, List.range.loop, triAt, ptAt, Bool.and_assoc]
      have hib : (i : Int) < n := by omega
      clear hc hle hx0 hx1 hx2 hx3 hx4 hx5 hx6 hx7 hx8
      go_wp2_with fail
      refine (pointsFinite_any (some ⟨wr.heap.size + 1, 0, none⟩) 3 3 [x0, x1, x2, x3, x4, x5, x6, x7, x8] _ (by decide) rfl (by intro x hx; simp at hx; rcases hx with rfl | rfl | rfl | rfl | rfl | rfl | rfl | rfl | rfl <;> (constructor <;> assumption)) (row_at _ [x0, x1, x2, x3, x4, x5, x6, x7, x8] _ (by simp))).mono ?_
      rintro e w1 ⟨rfl, hb1⟩
      have HB1 : Hid (Below w.heap.size w w1) := hb.out.trans ((bel2 _ _ _).trans (hb1.mono (by simp <;> omega)) |>.mono hb.out.size)
      clear hb1 hb q0 x0a x0b q1 x1a x1b q2 x2a x2b q3 x3a x3b q4 x4a x4b q5 x5a x5b q6 x6a x6b q7 x7a x7b q8 x8a x8b
      rw [← HX.out]
      cases hT : triAt zs i
      · go_wp2
        go_ret
        exact ⟨ret_bool (by rw [all_range_false hlt hT]), HB1.out⟩
      · go_wp2
        go_roundw
        case rel => exact ⟨i + 1, by omega, by go_num, by unfold Hid; rw [all_range_succ, hA.out, hT]; rfl, HB1⟩
        case measure => simp [intOf]; omega
    · have hie : i = n := by omega
      subst hie
      have HA := hA.out
      go_wp2
      go_ret
      exact ⟨ret_bool HA.symm, hb.out⟩

theorem fewAndFinite_any (a : Option Addr) (n c : Nat) (zs : List Int) (w : World) (hn : n ≤ 1048576) (hl : zs.length = n * 9) (hu : U32 zs) (hz : RowAt .u32 w a zs) :
    Calls Try.prog 60 #[.slice a n c] w fun e w' => e = .returned (.bool (decide (n ≤ 40) && (List.range n).all (triAt zs))) ∧ Below w.heap.size w w' := by
  by_cases h4 : n ≤ 40
  · have h4' : (n : Int) ≤ 40 := by omega
    go_enter Try.func60, Try.ntmps60
    go_wp2_with fail
    refine (trisFinite_any a n c zs _ hn hl hu hz).mono ?_
    rintro e w1 ⟨rfl, hb1⟩
    go_wp2
    go_ret
    exact ⟨ret_bool (by simp [h4]), hb1⟩
  · have h4' : ¬ (n : Int) ≤ 40 := by omega
    go_enter Try.func60, Try.ntmps60
    go_wp2
    go_ret
    exact ⟨ret_bool (by first | rfl | (rw [decide_eq_false h4]; rfl)), Below.refl _ _⟩

theorem bits_or_u {a b : Int} (a0 : 0 ≤ a) (a1 : a < 4294967296) (b0 : 0 ≤ b) (b1 : b < 4294967296) : ∃ n m : Nat, a = n ∧ b = m ∧ bits .or .u32 a b = ((n ||| m : Nat) : Int) ∧ n ||| m < 4294967296 := by
  obtain ⟨n, rfl⟩ := Int.eq_ofNat_of_zero_le a0
  obtain ⟨m, rfl⟩ := Int.eq_ofNat_of_zero_le b0
  have hl : n ||| m < 4294967296 := Nat.or_lt_two_pow (n := 32) (by omega) (by omega)
  refine ⟨n, m, rfl, rfl, ?_, hl⟩
  have e2 : (BitVec.ofInt 32 (n : Int) ||| BitVec.ofInt 32 (m : Int)).toNat = n ||| m := by
    rw [BitVec.toNat_or, BitVec.ofInt_natCast, BitVec.toNat_ofNat, BitVec.ofInt_natCast, BitVec.toNat_ofNat, Nat.mod_eq_of_lt (by omega), Nat.mod_eq_of_lt (by omega)]
  show IntKind.u32.wrap ((BitVec.ofInt 32 (n : Int) ||| BitVec.ofInt 32 (m : Int)).toNat : Int) = _
  rw [e2]
  simp only [IntKind.wrap, IntKind.bits, IntKind.signed]
  simp
  omega

theorem zero_mod (n : Nat) : zeroB (n : Int) = decide (n % 2147483648 = 0) := by
  unfold zeroB
  by_cases h : n % 2147483648 = 0
  · simp [h]; omega
  · simp [h]; omega

theorem or_low (n m : Nat) : (n ||| m) % 2147483648 = (n % 2147483648) ||| (m % 2147483648) := by
  rw [show (2147483648 : Nat) = 2 ^ 31 by decide, Nat.or_mod_two_pow]

theorem or_zero (n m : Nat) : (n ||| m = 0) ↔ n = 0 ∧ m = 0 := by
  constructor
  · intro h
    have h1 : n ≤ n ||| m := Nat.left_le_or
    have h2 : m ≤ n ||| m := Nat.right_le_or
    omega
  · rintro ⟨rfl, rfl⟩
    rfl

theorem andNot_u {n : Nat} (h : n < 4294967296) : bits .andNot .u32 (n : Int) 2147483648 = ((n % 2147483648 : Nat) : Int) := by
  have e2 : (BitVec.ofInt 32 (n : Int) &&& ~~~ BitVec.ofInt 32 2147483648).toNat = n % 2147483648 := by
    rw [BitVec.toNat_and, BitVec.ofInt_natCast, BitVec.toNat_ofNat, Nat.mod_eq_of_lt (by omega)]
    have : (~~~ BitVec.ofInt 32 2147483648).toNat = 2 ^ 31 - 1 := by decide
    rw [this, Nat.and_two_pow_sub_one_eq_mod]
  show IntKind.u32.wrap ((BitVec.ofInt 32 (n : Int) &&& ~~~ BitVec.ofInt 32 2147483648).toNat : Int) = _
  rw [e2]
  simp only [IntKind.wrap, IntKind.bits, IntKind.signed]
  simp
  omega

theorem way_bits {x y z : Int} (xa : 0 ≤ x) (xb : x < 4294967296) (ya : 0 ≤ y) (yb : y < 4294967296) (za : 0 ≤ z) (zb : z < 4294967296) : (bits .andNot .u32 (bits .or .u32 (bits .or .u32 x y) z) 2147483648 != 0) = !(noWayB x y z) := by
  obtain ⟨n, m, rfl, rfl, e1, l1⟩ := bits_or_u xa xb ya yb
  rw [e1]
  obtain ⟨p, q, e3, rfl, e2, l2⟩ := bits_or_u (a := ((n ||| m : Nat) : Int)) (by omega) (by omega) za zb
  have e4 : p = n ||| m := by omega
  subst e4
  rw [e2, andNot_u l2, or_low, or_low]
  unfold noWayB
  rw [zero_mod, zero_mod, zero_mod]
  by_cases h : (n % 2147483648 ||| m % 2147483648) ||| q % 2147483648 = 0
  · obtain ⟨h1, h2⟩ := (or_zero _ _).1 h
    obtain ⟨h3, h4⟩ := (or_zero _ _).1 h1
    rw [h, h3, h4, h2]
    decide
  · have h5 : ¬ (n % 2147483648 = 0 ∧ m % 2147483648 = 0 ∧ q % 2147483648 = 0) := by
      rintro ⟨q1, q2, q3⟩
      rw [q1, q2, q3] at h
      exact h (by decide)
    have h6 : (((((n % 2147483648 ||| m % 2147483648) ||| q % 2147483648 : Nat) : Int)) != 0) = true := by
      rw [bne_iff_ne]
      omega
    rw [h6]
    symm
    rw [Bool.not_eq_true', Bool.and_eq_false_iff, Bool.and_eq_false_iff]
    simp only [decide_eq_false_iff_not]
    omega

set_option maxRecDepth 100000 in
set_option maxHeartbeats 4000000 in
theorem proper_any (x0 x1 x2 x3 x4 x5 : Int) (w : World) (x0a : 0 ≤ x0) (x0b : x0 < 4294967296) (x1a : 0 ≤ x1) (x1b : x1 < 4294967296) (x2a : 0 ≤ x2) (x2b : x2 < 4294967296) (x3a : 0 ≤ x3) (x3b : x3 < 4294967296) (x4a : 0 ≤ x4) (x4b : x4 < 4294967296) (x5a : 0 ≤ x5) (x5b : x5 < 4294967296) :
    Calls Try.prog 61 #[.agg #[.int .u32 x0, .int .u32 x1, .int .u32 x2, .int .u32 x3, .int .u32 x4, .int .u32 x5]] w fun e w' => e = .returned (.bool (pointB x0 x1 x2 && pointB x3 x4 x5 && !(noWayB x3 x4 x5))) ∧ Below w.heap.size w w' := by
  have HW : Hid ((bits .andNot .u32 (bits .or .u32 (bits .or .u32 x3 x4) x5) 2147483648 != 0) = !(noWayB x3 x4 x5)) := way_bits x3a x3b x4a x4b x5a x5b
  go_enter Try.func61, Try.ntmps61
  go_wp2_with fail
  refine (pointsFinite_any (some ⟨w.heap.size + 1, 0, none⟩) 2 2 [x0, x1, x2, x3, x4, x5] _ (by decide) rfl (by intro x hx; simp at hx; rcases hx with rfl | rfl | rfl | rfl | rfl | rfl <;> (constructor <;> assumption)) (row_at _ [x0, x1, x2, x3, x4, x5] _ (by simp))).mono ?_
  rintro e w1 ⟨rfl, hb1⟩
  have c3 : w1.cell? ⟨w.heap.size, 3, none⟩ = some (.int .u32 x3) := by rw [(bcell hb1).1 _ _ (by simp <;> omega)]; simp [go_sem]
  have c4 : w1.cell? ⟨w.heap.size, 4, none⟩ = some (.int .u32 x4) := by rw [(bcell hb1).1 _ _ (by simp <;> omega)]; simp [go_sem]
  have c5 : w1.cell? ⟨w.heap.size, 5, none⟩ = some (.int .u32 x5) := by rw [(bcell hb1).1 _ _ (by simp <;> omega)]; simp [go_sem]
  have HB1 : Hid (Below w.heap.size w w1) := (bel2 _ _ _).trans (hb1.mono (by simp <;> omega))
  have HX : Hid ((List.range 2).all (ptAt [x0, x1, x2, x3, x4, x5]) = (pointB x0 x1 x2 && pointB x3 x4 x5)) := by unfold Hid; simp [List.range, List.range.loop, ptAt]
  rw [HX.out]
  clear hb1
  cases hp : (pointB x0 x1 x2 && pointB x3 x4 x5)
  · go_wp2
    go_ret
    exact ⟨ret_bool (by first | rfl | (rw [hp]; rfl)), HB1.out⟩
  · have hw := HW.out
    go_wp2
    go_ret
    exact ⟨ret_bool (by first | rfl | (rw [hp, Bool.true_and]) | (rw [hp, Bool.true_and]; exact hw)), HB1.out⟩

end Go.Proofs.Ytcjdnomhnlbmbaa
