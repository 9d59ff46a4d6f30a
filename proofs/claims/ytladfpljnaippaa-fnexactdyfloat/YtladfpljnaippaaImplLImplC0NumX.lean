/-
  The program: how many bits a number has.
-/
import Derived.Test.YtladfpljnaippaaSpecD
import Derived.Test.YtladfpljnaippaaNumZ
import Derived.Test.YtladfpljnaippaaNumM
import Derived.Test.YtladfpljnaippaaImplB
import Derived.Test.YtladfpljnaippaaNumS
import Derived.Laws.Bits64b
namespace Go.Proofs.Ytladfpljnaippaa
open Go.RowKit

/-- How many bits a number below 256 has, as Go's table lays it. -/
def bl (k : Nat) : Nat := if k = 0 then 0 else k.log2 + 1

def isTab (S : ByteArray) : Prop := S.data.toList.map UInt8.toNat = (List.range 256).map bl

theorem tab_at {S : ByteArray} (hS : isTab S) {k : Nat} (h : k < S.size) (h0 : 0 < k) (h1 : k < 256) : ∃ m : Nat, (S[k]).toNat = m + 1 ∧ m < 8 ∧ 2 ^ m ≤ k ∧ k < 2 ^ (m + 1) := by
  have hk : S.data.toList[k]? = some S[k] := by
    rw [Array.getElem?_toList]
    exact Array.getElem?_eq_getElem h
  have h2 := congrArg (fun l => l[k]?) hS
  simp only [List.getElem?_map, hk, List.getElem?_range h1, Option.map_some, Option.some.injEq] at h2
  refine ⟨k.log2, ?_, ?_, Nat.log2_self_le (by omega), Nat.lt_log2_self⟩
  · rw [h2, bl, if_neg (by omega)]
  · exact (Nat.log2_lt (by omega)).2 (by omega)

theorem w64_id {n : Int} (h0 : -9223372036854775808 ≤ n) (h1 : n ≤ 9223372036854775807) : wrap64 n = n := by
  unfold wrap64
  omega

theorem len_fin0 {S : ByteArray} {k : Nat} {h : k < S.size} {y : Int} {v : Value} {w : World} (hv : v = .int .i64 (wrap64 (wrap64 (S[k]).toNat))) (hS : isTab S) (hk : (k : Int) = y) (h0 : 0 < y) (h1 : y < 256) :
    ∃ n : Nat, Ending.returned v = .returned (.int .i64 ((n : Int) + 1)) ∧ n < 32 ∧ 2 ^ n ≤ y ∧ y < 2 ^ (n + 1) ∧ w = w := by
  obtain ⟨m, e, hm, a, b⟩ := tab_at hS h (by omega) (by omega)
  refine ⟨m, ?_, by omega, ?_, ?_, rfl⟩
  · rw [hv, e, w64_id (n := ((m + 1 : Nat) : Int)) (by omega) (by omega), w64_id (by omega) (by omega)]
    rfl
  · rw [← hk]; exact_mod_cast a
  · rw [← hk]; exact_mod_cast b

theorem len_fin {S : ByteArray} {k : Nat} {h : k < S.size} {y q : Int} {s : Nat} {v : Value} {w : World} (hv : v = .int .i64 (wrap64 (q + wrap64 (S[k]).toNat))) (hS : isTab S) (hq : q = s) (hk : (k : Int) = y / 2 ^ s) (h0 : 0 < y / 2 ^ s) (h1 : y / 2 ^ s < 256) (hs : s ≤ 24) :
    ∃ n : Nat, Ending.returned v = .returned (.int .i64 ((n : Int) + 1)) ∧ n < 32 ∧ 2 ^ n ≤ y ∧ y < 2 ^ (n + 1) ∧ w = w := by
  obtain ⟨m, e, hm, a, b⟩ := tab_at hS h (by omega) (by omega)
  have hp : (0 : Int) < 2 ^ s := Int.pow_pos (by decide)
  have a' : (2 : Int) ^ m ≤ y / 2 ^ s := by rw [← hk]; exact_mod_cast a
  have b' : y / 2 ^ s < (2 : Int) ^ (m + 1) := by rw [← hk]; exact_mod_cast b
  have a2 := (Int.le_ediv_iff_mul_le hp).1 a'
  have b2 := (Int.ediv_lt_iff_lt_mul hp).1 b'
  rw [← Int.pow_add] at a2 b2
  refine ⟨m + s, ?_, by omega, a2, by rw [show m + s + 1 = m + 1 + s by omega]; exact b2, rfl⟩
  rw [hv, e, w64_id (n := ((m + 1 : Nat) : Int)) (by omega) (by omega), w64_id (by omega) (by omega), hq]
  congr 2
  push_cast
  omega

set_option maxHeartbeats 20000000 in
set_option maxRecDepth 100000 in
theorem len32_any (y : Int) (w : World) (h0 : 0 < y) (h1 : y < 4294967296) :
    Calls Try.prog 56 #[.int .u32 y] w fun e w' => ∃ n : Nat, e = .returned (.int .i64 ((n : Int) + 1)) ∧ n < 32 ∧ 2 ^ n ≤ y ∧ y < 2 ^ (n + 1) ∧ w' = w := by
  by_cases ha : y < 65536
  · by_cases hb : y < 256
    · have ha' : ¬ 65536 ≤ y := by omega
      have hb' : ¬ 256 ≤ y := by omega
      go_enter Try.func56, Try.ntmps56
      go_wp2
      go_ret
      exact len_fin0 rfl (by unfold isTab; decide) (by omega) h0 hb
    · have ha' : ¬ 65536 ≤ y := by omega
      have hb' : 256 ≤ y := by omega
      go_enter Try.func56, Try.ntmps56
      go_wp2
      go_ret
      refine len_fin (s := 8) rfl (by unfold isTab; decide) rfl ?_ (by omega) (by omega) (by omega)
      omega
  · by_cases hb : y < 65536 * 256
    · have ha' : 65536 ≤ y := by omega
      have hb' : ¬ 256 ≤ y / 65536 := by omega
      go_enter Try.func56, Try.ntmps56
      go_wp2
      go_ret
      refine len_fin (s := 16) rfl (by unfold isTab; decide) rfl ?_ (by omega) (by omega) (by omega)
      omega
    · have ha' : 65536 ≤ y := by omega
      have hb' : 256 ≤ y / 65536 := by omega
      go_enter Try.func56, Try.ntmps56
      go_wp2
      go_ret
      refine len_fin (s := 24) rfl (by unfold isTab; decide) rfl ?_ (by omega) (by omega) (by omega)
      omega

theorem top_bits32 {ds : List Int} {k m : Nat} {y : Int} (hd : Dig 4294967296 ds) (hk : ds.length = k + 1) (hy : y = ds.getD k 0) (h1 : 2 ^ m ≤ y) (h2 : y < 2 ^ (m + 1)) :
    2 ^ (32 * k + m) ≤ val 4294967296 ds ∧ val 4294967296 ds < 2 ^ (32 * k + m + 1) := by
  have hs := val_take_succ (B := 4294967296) (zs := ds) (i := k) (by omega)
  have ht : ds.take (k + 1) = ds := List.take_of_length_le (by omega)
  rw [ht, ← hy] at hs
  have hb := val_lt_pow (B := 4294967296) (by decide) (hd.take k)
  have hb0 := val_nonneg (B := 4294967296) (by decide) (hd.take k)
  have hl : (ds.take k).length = k := by rw [List.length_take]; omega
  rw [hl] at hb
  have hP : (4294967296 : Int) ^ k = 2 ^ (32 * k) := by
    rw [Int.pow_mul]
    rfl
  have hp : (0 : Int) < 2 ^ (32 * k) := Int.pow_pos (by decide)
  rw [hP] at hs hb
  have e1 : (2 : Int) ^ (32 * k + m) = 2 ^ (32 * k) * 2 ^ m := Int.pow_add ..
  have e2 : (2 : Int) ^ (32 * k + m + 1) = 2 ^ (32 * k) * 2 ^ (m + 1) := by rw [Nat.add_assoc]; exact Int.pow_add ..
  have m1 := Int.mul_le_mul_of_nonneg_left h1 (Int.le_of_lt hp)
  have m2 : (2 : Int) ^ (32 * k) * (y + 1) ≤ 2 ^ (32 * k) * 2 ^ (m + 1) := Int.mul_le_mul_of_nonneg_left (by omega) (Int.le_of_lt hp)
  rw [Int.mul_add, Int.mul_one] at m2
  rw [e1, e2]
  omega

set_option maxHeartbeats 2000000 in
theorem bitLen_any (a : Option Addr) (c : Nat) (zs : List Int) (w : World) (hn : zs.length ≤ 100000) (hz : RowAt .u32 w a zs) (hcz : Canon 4294967296 zs) (hne : zs ≠ []) :
    Calls Try.prog 32 #[.slice a zs.length c] w fun e w' => ∃ n : Nat, e = .returned (.int .i64 ((n : Int) + 1)) ∧ n + 1 ≤ 32 * zs.length ∧ 2 ^ n ≤ val 4294967296 zs ∧ val 4294967296 zs < 2 ^ (n + 1) ∧ w' = w := by
  have hpos := List.length_pos_iff.2 hne
  obtain ⟨k, hk⟩ : ∃ k, zs.length = k + 1 := ⟨zs.length - 1, by omega⟩
  obtain ⟨b, off, rfl, hb, hc⟩ := hz.resolve_left hne
  have gk := hc k (by omega)
  have hdk := hcz.1.at (by decide) k
  have hlast : zs.getD k 0 ≠ 0 := by
    have := last_of_canon hcz.2 (by omega)
    rw [hk, Nat.add_sub_cancel] at this
    exact this
  have HD : Hid (Dig 4294967296 zs) := hcz.1
  obtain ⟨y, hy⟩ : ∃ y, y = zs.getD k 0 := ⟨_, rfl⟩
  rw [← hy] at gk hdk hlast
  have HY : Hid (y = zs.getD k 0) := hy
  have hl0 : ((k : Int) + 1 == 0) = false := by rw [beq_eq_false_iff_ne]; omega
  have hki : (k : Int) + 1 - 1 = k := by omega
  have HK : Hid (zs.length = k + 1) := hk
  have hk2 : k < 100000 := by omega
  obtain ⟨hd1, hd2⟩ := hdk
  rw [hk]
  clear hz hcz hc hne hy hpos hn hk
  go_enter Try.func32, Try.ntmps32
  go_wp2_with fail
  refine (len32_any y _ (by omega) hd2).mono ?_
  rintro e _ ⟨n, rfl, hn, h1, h2, rfl⟩
  have HT : Hid (2 ^ (32 * k + n) ≤ val 4294967296 zs ∧ val 4294967296 zs < 2 ^ (32 * k + n + 1)) := top_bits32 HD.out HK.out HY.out h1 h2
  clear h1 h2
  go_wp2
  go_ret
  exact ⟨32 * k + n, ret_int (by omega), by omega, HT.out.1, HT.out.2, rfl⟩

set_option maxHeartbeats 1000000 in
theorem bitLen_nil (a : Option Addr) (c : Nat) (w : World) :
    Calls Try.prog 32 #[.slice a ([] : List Int).length c] w fun e w' => e = .returned (.int .i64 0) ∧ w' = w := by
  go_enter Try.func32, Try.ntmps32
  go_wp2
  go_ret
  exact ⟨rfl, rfl⟩

end Go.Proofs.Ytladfpljnaippaa

/-
  Magnitudes that the program hands back.
-/
namespace Go.Proofs.Ytladfpljnaippaa
open Go.RowKit

/-- A magnitude in new memory: no zero at its upper end, of the value v, of at most n limbs. -/
def MagOut (w : World) (v : Int) (n : Nat) (e : Ending) (w' : World) : Prop :=
  ∃ (a : Option Addr) (c : Nat) (fs : List Int), e = .returned (.slice a fs.length c) ∧ fs.length ≤ c ∧ c ≤ maxLen ∧ Canon 4294967296 fs ∧ val 4294967296 fs = v ∧ fs.length ≤ n ∧ RowNew .u32 w' w.heap.size a fs ∧ Below w.heap.size w w'

theorem set_mid {l1 l2 : List Int} {z d : Int} {k : Nat} (h : l1.length = k) : (l1 ++ z :: l2).set k d = l1 ++ d :: l2 := by
  subst h
  simp

theorem own_step {out : List Int} {n k : Nat} {d : Int} (h : out.length = k) (hk : k < n) : (out ++ List.replicate (n + 1 - k) 0).set k d = (out ++ [d]) ++ List.replicate (n + 1 - (k + 1)) 0 := by
  rw [show n + 1 - k = (n + 1 - (k + 1)) + 1 by omega, List.replicate_succ, set_mid h]
  simp

theorem own_last {out : List Int} {n : Nat} {d : Int} (h : out.length = n) : (out ++ List.replicate (n + 1 - n) 0).set n d = out ++ [d] := by
  rw [show n + 1 - n = 0 + 1 by omega, List.replicate_succ, set_mid h]
  simp

end Go.Proofs.Ytladfpljnaippaa

/-
  Plain mathematics and bits: a limb shifted up within the next one.
-/
namespace Go.Proofs.Ytladfpljnaippaa

theorem pow32 (n : Int) (h : 0 ≤ n) : (4294967296 : Int) ^ (n / 32).toNat * 2 ^ (n % 32).toNat = 2 ^ n.toNat := by
  rw [show (4294967296 : Int) = 2 ^ 32 from rfl, ← Int.pow_mul, ← Int.pow_add]
  congr 1
  omega

/-- 2 to a count below 32. -/
theorem two32 (n : Int) : 0 < (2 : Int) ^ (n % 32).toNat ∧ (2 : Int) ^ (n % 32).toNat ≤ 2147483648 := by
  refine ⟨Int.pow_pos (by decide), ?_⟩
  have h : ∀ k, k < 32 → (2 : Int) ^ k ≤ 2147483648 := by decide
  exact h _ (by omega)

theorem two32r (n : Int) : (4294967296 : Int) = 2 ^ (n % 32).toNat * 2 ^ (32 - n % 32).toNat ∧ 0 < (2 : Int) ^ (32 - n % 32).toNat := by
  refine ⟨?_, Int.pow_pos (by decide)⟩
  rw [← Int.pow_add, show (n % 32).toNat + (32 - n % 32).toNat = 32 by omega]; rfl

/-- What is handed on from limb to limb. -/
theorem up_digit {B q r x c : Int} (hB : B = q * r) (hq : 0 < q) (hr : 0 < r) (hc0 : 0 ≤ c) (hc1 : c < q) : c + x * q % B = (x * q + c) % B ∧ x * q / B = (x * q + c) / B := by
  have hBp : 0 < B := by rw [hB]; exact Int.mul_pos hq hr
  have e1 : x * q % B = q * (x % r) := by rw [hB, Int.mul_comm x q, Int.mul_emod_mul_of_pos _ _ hq]
  have hm0 := Int.emod_nonneg x (show r ≠ 0 by omega)
  have hm1 := Int.emod_lt_of_pos x hr
  have h3 : q * (x % r) ≤ q * (r - 1) := Int.mul_le_mul_of_nonneg_left (by omega) (by omega)
  have h4 : 0 ≤ q * (x % r) := Int.mul_nonneg (by omega) hm0
  rw [Int.mul_sub, Int.mul_one, ← hB] at h3
  have h5 := Int.mul_ediv_add_emod (x * q) B
  rw [e1] at h5
  have e2 : x * q + c = (q * (x % r) + c) + B * (x * q / B) := by omega
  constructor
  · have e4 : (q * (x % r) + c) % B = q * (x % r) + c := Int.emod_eq_of_lt (by omega) (by omega)
    rw [e1, e2, Int.add_mul_emod_self_left, e4]
    omega
  · have e3 : (x * q + c) / B = (q * (x % r) + c + B * (x * q / B)) / B := by rw [← e2]
    have e4 : (q * (x % r) + c) / B = 0 := Int.ediv_eq_zero_of_lt (by omega) (by omega)
    rw [e3, Int.add_mul_ediv_left _ _ (by omega), e4]
    omega

theorem or32_nat (a b : Nat) (ha : a < 4294967296) (hb : b < 4294967296) : bits .or .u32 (a : Int) (b : Int) = ((a ||| b : Nat) : Int) := by
  have hx : a ||| b < 2 ^ 32 := Nat.or_lt_two_pow (by omega) (by omega)
  have h1 : (BitVec.ofInt 32 (a : Int)).toNat = a := by
    rw [BitVec.ofInt_natCast, BitVec.toNat_ofNat]; exact Nat.mod_eq_of_lt (by omega)
  have h2 : (BitVec.ofInt 32 (b : Int)).toNat = b := by
    rw [BitVec.ofInt_natCast, BitVec.toNat_ofNat]; exact Nat.mod_eq_of_lt (by omega)
  show IntKind.u32.wrap ((BitVec.ofInt 32 (a : Int) ||| BitVec.ofInt 32 (b : Int)).toNat : Int) = _
  rw [BitVec.toNat_or, h1, h2]
  simp only [IntKind.wrap, IntKind.bits, IntKind.signed]
  have h3 : (2 : Int) ^ 32 = 4294967296 := by decide
  have h4 : (2 : Nat) ^ 32 = 4294967296 := by decide
  simp
  omega

/-- The carry laid into the low bits of what was shifted up. -/
theorem or_up {x c : Int} (n : Int) (hc0 : 0 ≤ c) (hc1 : c < 2 ^ (n % 32).toNat) : bits .or .u32 c (x * 2 ^ (n % 32).toNat % 4294967296) = c + x * 2 ^ (n % 32).toNat % 4294967296 := by
  obtain ⟨e1, hr⟩ := two32r n
  obtain ⟨hq, hq1⟩ := two32 n
  obtain ⟨i, hi⟩ : ∃ i, i = (n % 32).toNat := ⟨_, rfl⟩
  have e2 : x * 2 ^ (n % 32).toNat % 4294967296 = 2 ^ (n % 32).toNat * (x % 2 ^ (32 - n % 32).toNat) := by
    rw [e1, Int.mul_comm x, Int.mul_emod_mul_of_pos _ _ hq]
  have hm0 := Int.emod_nonneg x (show (2 : Int) ^ (32 - n % 32).toNat ≠ 0 by omega)
  have hlt := Int.emod_lt_of_pos (x * 2 ^ (n % 32).toNat) (show (0 : Int) < 4294967296 by decide)
  rw [e2] at hlt ⊢
  rw [← hi] at hlt hc1 ⊢
  obtain ⟨y, hy⟩ := Int.eq_ofNat_of_zero_le hm0
  obtain ⟨b, rfl⟩ := Int.eq_ofNat_of_zero_le hc0
  rw [hy] at hlt ⊢
  have e3 : (2 : Int) ^ i * (y : Int) = ((2 ^ i * y : Nat) : Int) := by simp
  rw [e3] at hlt ⊢
  have hb : b < 2 ^ i := by
    have h : (b : Int) < ((2 ^ i : Nat) : Int) := by simpa using hc1
    omega
  have hbb : b < 4294967296 := by
    have h : (2 : Nat) ^ i ≤ 2 ^ 31 := Nat.pow_le_pow_right (by decide) (by omega)
    have h2 : (2 : Nat) ^ 31 = 2147483648 := by decide
    omega
  rw [or32_nat b (2 ^ i * y) hbb (by omega), Nat.or_comm, ← Nat.two_pow_add_eq_or_of_lt hb]
  omega

end Go.Proofs.Ytladfpljnaippaa
