/-
  The program: how many bits a number has.
-/
import Derived.Test.YtfgpknglgbpebadSpecD
import Derived.Test.YtfgpknglgbpebadNumZ
import Derived.Test.YtfgpknglgbpebadNumM
namespace Go.Proofs.Ytfgpknglgbpebad
open Go.RowKit

/-- How many bits a number below 256 has, as Go's table lays it. -/
def bl (k : Nat) : Nat := if k = 0 then 0 else k.log2 + 1

def isTab (S : ByteArray) : Prop := S.data.toList.map UInt8.toNat = (List.range 256).map bl

theorem tab_at {S : ByteArray} (hS : isTab S) {k : Nat} (h : k < S.size) (h0 : 0 < k) (h1 : k < 256) : ∃ m : Nat, (S[k]).toNat = m + 1 ∧ m < 8 ∧ 2 ^ m ≤ k ∧ k < 2 ^ (m + 1) := by
  have hk : S.data.toList[k]? = some S[k] := by
    rw [Array.getElem?_toList]
    exact Array.getElem?_eq_getElem h
  have h2 := congrArg (fun l => l[k]?) hS
  simp only [List.getElem?_map, hk, List.getElem?_range h1, Option.map_some, Option.some.injEq] at h2
  refine ⟨k.log2, ?_, ?_, Nat.log2_self_le (by omega), Nat.lt_log2_self⟩
  · rw [h2, bl, if_neg (by omega)]
  · exact (Nat.log2_lt (by omega)).2 (by omega)

theorem w64_id {n : Int} (h0 : -9223372036854775808 ≤ n) (h1 : n ≤ 9223372036854775807) : wrap64 n = n := by
  unfold wrap64
  omega

theorem len_fin0 {S : ByteArray} {k : Nat} {h : k < S.size} {y : Int} {v : Value} {w : World} (hv : v = .int .i64 (wrap64 (wrap64 (S[k]).toNat))) (hS : isTab S) (hk : (k : Int) = y) (h0 : 0 < y) (h1 : y < 256) :
    ∃ n : Nat, Ending.returned v = .returned (.int .i64 ((n : Int) + 1)) ∧ n < 32 ∧ 2 ^ n ≤ y ∧ y < 2 ^ (n + 1) ∧ w = w := by
  obtain ⟨m, e, hm, a, b⟩ := tab_at hS h (by omega) (by omega)
  refine ⟨m, ?_, by omega, ?_, ?_, rfl⟩
  · rw [hv, e, w64_id (n := ((m + 1 : Nat) : Int)) (by omega) (by omega), w64_id (by omega) (by omega)]
    rfl
  · rw [← hk]; exact_mod_cast a
  · rw [← hk]; exact_mod_cast b

theorem len_fin {S : ByteArray} {k : Nat} {h : k < S.size} {y q : Int} {s : Nat} {v : Value} {w : World} (hv : v = .int .i64 (wrap64 (q + wrap64 (S[k]).toNat))) (hS : isTab S) (hq : q = s) (hk : (k : Int) = y / 2 ^ s) (h0 : 0 < y / 2 ^ s) (h1 : y / 2 ^ s < 256) (hs : s ≤ 24) :
    ∃ n : Nat, Ending.returned v = .returned (.int .i64 ((n : Int) + 1)) ∧ n < 32 ∧ 2 ^ n ≤ y ∧ y < 2 ^ (n + 1) ∧ w = w := by
  obtain ⟨m, e, hm, a, b⟩ := tab_at hS h (by omega) (by omega)
  have hp : (0 : Int) < 2 ^ s := Int.pow_pos (by decide)
  have a' : (2 : Int) ^ m ≤ y / 2 ^ s := by rw [← hk]; exact_mod_cast a
  have b' : y / 2 ^ s < (2 : Int) ^ (m + 1) := by rw [← hk]; exact_mod_cast b
  have a2 := (Int.le_ediv_iff_mul_le hp).1 a'
  have b2 := (Int.ediv_lt_iff_lt_mul hp).1 b'
  rw [← Int.pow_add] at a2 b2
  refine ⟨m + s, ?_, by omega, a2, by rw [show m + s + 1 = m + 1 + s by omega]; exact b2, rfl⟩
  rw [hv, e, w64_id (n := ((m + 1 : Nat) : Int)) (by omega) (by omega), w64_id (by omega) (by omega), hq]
  congr 2
  push_cast
  omega

set_option maxHeartbeats 20000000 in
set_option maxRecDepth 100000 in
theorem len32_any (y : Int) (w : World) (h0 : 0 < y) (h1 : y < 4294967296) :
    Calls Try.prog 69 #[.int .u32 y] w fun e w' => ∃ n : Nat, e = .returned (.int .i64 ((n : Int) + 1)) ∧ n < 32 ∧ 2 ^ n ≤ y ∧ y < 2 ^ (n + 1) ∧ w' = w := by
  by_cases ha : y < 65536
  · by_cases hb : y < 256
    · have ha' : ¬ 65536 ≤ y := by omega
      have hb' : ¬ 256 ≤ y := by omega
      go_enter Try.func69, Try.ntmps69
      go_wp2
      go_ret
      exact len_fin0 rfl (by unfold isTab; decide) (by omega) h0 hb
    · have ha' : ¬ 65536 ≤ y := by omega
      have hb' : 256 ≤ y := by omega
      go_enter Try.func69, Try.ntmps69
      go_wp2
      go_ret
      refine len_fin (s := 8) rfl (by unfold isTab; decide) rfl ?_ (by omega) (by omega) (by omega)
      omega
  · by_cases hb : y < 65536 * 256
    · have ha' : 65536 ≤ y := by omega
      have hb' : ¬ 256 ≤ y / 65536 := by omega
      go_enter Try.func69, Try.ntmps69
      go_wp2
      go_ret
      refine len_fin (s := 16) rfl (by unfold isTab; decide) rfl ?_ (by omega) (by omega) (by omega)
      omega
    · have ha' : 65536 ≤ y := by omega
      have hb' : 256 ≤ y / 65536 := by omega
      go_enter Try.func69, Try.ntmps69
      go_wp2
      go_ret
      refine len_fin (s := 24) rfl (by unfold isTab; decide) rfl ?_ (by omega) (by omega) (by omega)
      omega

theorem top_bits32 {ds : List Int} {k m : Nat} {y : Int} (hd : Dig 4294967296 ds) (hk : ds.length = k + 1) (hy : y = ds.getD k 0) (h1 : 2 ^ m ≤ y) (h2 : y < 2 ^ (m + 1)) :
    2 ^ (32 * k + m) ≤ val 4294967296 ds ∧ val 4294967296 ds < 2 ^ (32 * k + m + 1) := by
  have hs := val_take_succ (B := 4294967296) (zs := ds) (i := k) (by omega)
  have ht : ds.take (k + 1) = ds := List.take_of_length_le (by omega)
  rw [ht, ← hy] at hs
  have hb := val_lt_pow (B := 4294967296) (by decide) (hd.take k)
  have hb0 := val_nonneg (B := 4294967296) (by decide) (hd.take k)
  have hl : (ds.take k).length = k := by rw [List.length_take]; omega
  rw [hl] at hb
  have hP : (4294967296 : Int) ^ k = 2 ^ (32 * k) := by
    rw [Int.pow_mul]
    rfl
  have hp : (0 : Int) < 2 ^ (32 * k) := Int.pow_pos (by decide)
  rw [hP] at hs hb
  have e1 : (2 : Int) ^ (32 * k + m) = 2 ^ (32 * k) * 2 ^ m := Int.pow_add ..
  have e2 : (2 : Int) ^ (32 * k + m + 1) = 2 ^ (32 * k) * 2 ^ (m + 1) := by rw [Nat.add_assoc]; exact Int.pow_add ..
  have m1 := Int.mul_le_mul_of_nonneg_left h1 (Int.le_of_lt hp)
  have m2 : (2 : Int) ^ (32 * k) * (y + 1) ≤ 2 ^ (32 * k) * 2 ^ (m + 1) := Int.mul_le_mul_of_nonneg_left (by omega) (Int.le_of_lt hp)
  rw [Int.mul_add, Int.mul_one] at m2
  rw [e1, e2]
  omega

set_option maxHeartbeats 2000000 in
theorem bitLen_any (a : Option Addr) (c : Nat) (zs : List Int) (w : World) (hn : zs.length ≤ 100000) (hz : RowAt .u32 w a zs) (hcz : Canon 4294967296 zs) (hne : zs ≠ []) :
    Calls Try.prog 38 #[.slice a zs.length c] w fun e w' => ∃ n : Nat, e = .returned (.int .i64 ((n : Int) + 1)) ∧ n + 1 ≤ 32 * zs.length ∧ 2 ^ n ≤ val 4294967296 zs ∧ val 4294967296 zs < 2 ^ (n + 1) ∧ w' = w := by
  have hpos := List.length_pos_iff.2 hne
  obtain ⟨k, hk⟩ : ∃ k, zs.length = k + 1 := ⟨zs.length - 1, by omega⟩
  obtain ⟨b, off, rfl, hb, hc⟩ := hz.resolve_left hne
  have gk := hc k (by omega)
  have hdk := hcz.1.at (by decide) k
  have hlast : zs.getD k 0 ≠ 0 := by
    have := last_of_canon hcz.2 (by omega)
    rw [hk, Nat.add_sub_cancel] at this
    exact this
  have HD : Hid (Dig 4294967296 zs) := hcz.1
  obtain ⟨y, hy⟩ : ∃ y, y = zs.getD k 0 := ⟨_, rfl⟩
  rw [← hy] at gk hdk hlast
  have HY : Hid (y = zs.getD k 0) := hy
  have hl0 : ((k : Int) + 1 == 0) = false := by rw [beq_eq_false_iff_ne]; omega
  have hki : (k : Int) + 1 - 1 = k := by omega
  have HK : Hid (zs.length = k + 1) := hk
  have hk2 : k < 100000 := by omega
  obtain ⟨hd1, hd2⟩ := hdk
  rw [hk]
  clear hz hcz hc hne hy hpos hn hk
  go_enter Try.func38, Try.ntmps38
  go_wp2_with fail
  refine (len32_any y _ (by omega) hd2).mono ?_
  rintro e _ ⟨n, rfl, hn, h1, h2, rfl⟩
  have HT : Hid (2 ^ (32 * k + n) ≤ val 4294967296 zs ∧ val 4294967296 zs < 2 ^ (32 * k + n + 1)) := top_bits32 HD.out HK.out HY.out h1 h2
  clear h1 h2
  go_wp2
  go_ret
  exact ⟨32 * k + n, ret_int (by omega), by omega, HT.out.1, HT.out.2, rfl⟩

set_option maxHeartbeats 1000000 in
theorem bitLen_nil (a : Option Addr) (c : Nat) (w : World) :
    Calls Try.prog 38 #[.slice a ([] : List Int).length c] w fun e w' => e = .returned (.int .i64 0) ∧ w' = w := by
  go_enter Try.func38, Try.ntmps38
  go_wp2
  go_ret
  exact ⟨rfl, rfl⟩

end Go.Proofs.Ytfgpknglgbpebad
