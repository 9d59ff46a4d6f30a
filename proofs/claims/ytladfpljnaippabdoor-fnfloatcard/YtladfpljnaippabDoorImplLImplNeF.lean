/-
  The program: how many bits a number has.
-/
import Derived.Test.YtladfpljnaippabDoorSpecDQF
import Derived.Test.YtladfpljnaippabDoorNumZQF
import Derived.Test.YtladfpljnaippabDoorDyI5ToDyJMulF
import Derived.Test.YtladfpljnaippabDoorImplUDyN2DyOIDyOBF
import Derived.Test.YtladfpljnaippabDoorNumRQF
namespace Go.Proofs.YtladfpljnaippabDoor
open Go.RowKit

/-- How many bits a number below 256 has, as Go's table lays it. -/
def bl (k : Nat) : Nat := if k = 0 then 0 else k.log2 + 1

def isTab (S : ByteArray) : Prop := S.data.toList.map UInt8.toNat = (List.range 256).map bl

theorem tab_at {S : ByteArray} (hS : isTab S) {k : Nat} (h : k < S.size) (h0 : 0 < k) (h1 : k < 256) : ∃ m : Nat, (S[k]).toNat = m + 1 ∧ m < 8 ∧ 2 ^ m ≤ k ∧ k < 2 ^ (m + 1) := by
  have hk : S.data.toList[k]? = some S[k] := by
    rw [Array.getElem?_toList]
    exact Array.getElem?_eq_getElem h
  have h2 := congrArg (fun l => l[k]?) hS
  simp only [List.getElem?_map, hk, List.getElem?_range h1, Option.map_some, Option.some.injEq] at h2
  refine ⟨k.log2, ?_, ?_, Nat.log2_self_le (by omega), Nat.lt_log2_self⟩
  · rw [h2, bl, if_neg (by omega)]
  · exact (Nat.log2_lt (by omega)).2 (by omega)

theorem w64_id {n : Int} (h0 : -9223372036854775808 ≤ n) (h1 : n ≤ 9223372036854775807) : wrap64 n = n := by
  unfold wrap64
  omega

theorem len_fin0 {S : ByteArray} {k : Nat} {h : k < S.size} {y : Int} {v : Value} {w : World} (hv : v = .int .i64 (wrap64 (wrap64 (S[k]).toNat))) (hS : isTab S) (hk : (k : Int) = y) (h0 : 0 < y) (h1 : y < 256) :
    ∃ n : Nat, Ending.returned v = .returned (.int .i64 ((n : Int) + 1)) ∧ n < 32 ∧ 2 ^ n ≤ y ∧ y < 2 ^ (n + 1) ∧ w = w := by
  obtain ⟨m, e, hm, a, b⟩ := tab_at hS h (by omega) (by omega)
  refine ⟨m, ?_, by omega, ?_, ?_, rfl⟩
  · rw [hv, e, w64_id (n := ((m + 1 : Nat) : Int)) (by omega) (by omega), w64_id (by omega) (by omega)]
    rfl
  · rw [← hk]; exact_mod_cast a
  · rw [← hk]; exact_mod_cast b

theorem len_fin {S : ByteArray} {k : Nat} {h : k < S.size} {y q : Int} {s : Nat} {v : Value} {w : World} (hv : v = .int .i64 (wrap64 (q + wrap64 (S[k]).toNat))) (hS : isTab S) (hq : q = s) (hk : (k : Int) = y / 2 ^ s) (h0 : 0 < y / 2 ^ s) (h1 : y / 2 ^ s < 256) (hs : s ≤ 24) :
    ∃ n : Nat, Ending.returned v = .returned (.int .i64 ((n : Int) + 1)) ∧ n < 32 ∧ 2 ^ n ≤ y ∧ y < 2 ^ (n + 1) ∧ w = w := by
  obtain ⟨m, e, hm, a, b⟩ := tab_at hS h (by omega) (by omega)
  have hp : (0 : Int) < 2 ^ s := Int.pow_pos (by decide)
  have a' : (2 : Int) ^ m ≤ y / 2 ^ s := by rw [← hk]; exact_mod_cast a
  have b' : y / 2 ^ s < (2 : Int) ^ (m + 1) := by rw [← hk]; exact_mod_cast b
  have a2 := (Int.le_ediv_iff_mul_le hp).1 a'
  have b2 := (Int.ediv_lt_iff_lt_mul hp).1 b'
  rw [← Int.pow_add] at a2 b2
  refine ⟨m + s, ?_, by omega, a2, by rw [show m + s + 1 = m + 1 + s by omega]; exact b2, rfl⟩
  rw [hv, e, w64_id (n := ((m + 1 : Nat) : Int)) (by omega) (by omega), w64_id (by omega) (by omega), hq]
  congr 2
  push_cast
  omega

set_option maxHeartbeats 20000000 in
set_option maxRecDepth 100000 in
theorem len32_any (y : Int) (w : World) (h0 : 0 < y) (h1 : y < 4294967296) :
    Calls Tryd.prog 92 #[.int .u32 y] w fun e w' => ∃ n : Nat, e = .returned (.int .i64 ((n : Int) + 1)) ∧ n < 32 ∧ 2 ^ n ≤ y ∧ y < 2 ^ (n + 1) ∧ w' = w := by
  by_cases ha : y < 65536
  · by_cases hb : y < 256
    · have ha' : ¬ 65536 ≤ y := by omega
      have hb' : ¬ 256 ≤ y := by omega
      go_enter Tryd.func92, Tryd.ntmps92
      go_wp2
      go_ret
      exact len_fin0 rfl (by unfold isTab; decide) (by omega) h0 hb
    · have ha' : ¬ 65536 ≤ y := by omega
      have hb' : 256 ≤ y := by omega
      go_enter Tryd.func92, Tryd.ntmps92
      go_wp2
      go_ret
      refine len_fin (s := 8) rfl (by unfold isTab; decide) rfl ?_ (by omega) (by omega) (by omega)
      omega
  · by_cases hb : y < 65536 * 256
    · have ha' : 65536 ≤ y := by omega
      have hb' : ¬ 256 ≤ y / 65536 := by omega
      go_enter Tryd.func92, Tryd.ntmps92
      go_wp2
      go_ret
      refine len_fin (s := 16) rfl (by unfold isTab; decide) rfl ?_ (by omega) (by omega) (by omega)
      omega
    · have ha' : 65536 ≤ y := by omega
      have hb' : 256 ≤ y / 65536 := by omega
      go_enter Tryd.func92, Tryd.ntmps92
      go_wp2
      go_ret
      refine len_fin (s := 24) rfl (by unfold isTab; decide) rfl ?_ (by omega) (by omega) (by omega)
      omega

theorem top_bits32 {ds : List Int} {k m : Nat} {y : Int} (hd : Dig 4294967296 ds) (hk : ds.length = k + 1) (hy : y = ds.getD k 0) (h1 : 2 ^ m ≤ y) (h2 : y < 2 ^ (m + 1)) :
    2 ^ (32 * k + m) ≤ val 4294967296 ds ∧ val 4294967296 ds < 2 ^ (32 * k + m + 1) := by
  have hs := val_take_succ (B := 4294967296) (zs := ds) (i := k) (by omega)
  have ht : ds.take (k + 1) = ds := List.take_of_length_le (by omega)
  rw [ht, ← hy] at hs
  have hb := val_lt_pow (B := 4294967296) (by decide) (hd.take k)
  have hb0 := val_nonneg (B := 4294967296) (by decide) (hd.take k)
  have hl : (ds.take k).length = k := by rw [List.length_take]; omega
  rw [hl] at hb
  have hP : (4294967296 : Int) ^ k = 2 ^ (32 * k) := by
    rw [Int.pow_mul]
    rfl
  have hp : (0 : Int) < 2 ^ (32 * k) := Int.pow_pos (by decide)
  rw [hP] at hs hb
  have e1 : (2 : Int) ^ (32 * k + m) = 2 ^ (32 * k) * 2 ^ m := Int.pow_add ..
  have e2 : (2 : Int) ^ (32 * k + m + 1) = 2 ^ (32 * k) * 2 ^ (m + 1) := by rw [Nat.add_assoc]; exact Int.pow_add ..
  have m1 := Int.mul_le_mul_of_nonneg_left h1 (Int.le_of_lt hp)
  have m2 : (2 : Int) ^ (32 * k) * (y + 1) ≤ 2 ^ (32 * k) * 2 ^ (m + 1) := Int.mul_le_mul_of_nonneg_left (by omega) (Int.le_of_lt hp)
  rw [Int.mul_add, Int.mul_one] at m2
  rw [e1, e2]
  omega

set_option maxHeartbeats 2000000 in
theorem bitLen_any (a : Option Addr) (c : Nat) (zs : List Int) (w : World) (hn : zs.length ≤ 100000) (hz : RowAt .u32 w a zs) (hcz : Canon 4294967296 zs) (hne : zs ≠ []) :
    Calls Tryd.prog 52 #[.slice a zs.length c] w fun e w' => ∃ n : Nat, e = .returned (.int .i64 ((n : Int) + 1)) ∧ n + 1 ≤ 32 * zs.length ∧ 2 ^ n ≤ val 4294967296 zs ∧ val 4294967296 zs < 2 ^ (n + 1) ∧ w' = w := by
  have hpos := List.length_pos_iff.2 hne
  obtain ⟨k, hk⟩ : ∃ k, zs.length = k + 1 := ⟨zs.length - 1, by omega⟩
  obtain ⟨b, off, rfl, hb, hc⟩ := hz.resolve_left hne
  have gk := hc k (by omega)
  have hdk := hcz.1.at (by decide) k
  have hlast : zs.getD k 0 ≠ 0 := by
    have := last_of_canon hcz.2 (by omega)
    rw [hk, Nat.add_sub_cancel] at this
    exact this
  have HD : Hid (Dig 4294967296 zs) := hcz.1
  obtain ⟨y, hy⟩ : ∃ y, y = zs.getD k 0 := ⟨_, rfl⟩
  rw [← hy] at gk hdk hlast
  have HY : Hid (y = zs.getD k 0) := hy
  have hl0 : ((k : Int) + 1 == 0) = false := by rw [beq_eq_false_iff_ne]; omega
  have hki : (k : Int) + 1 - 1 = k := by omega
  have HK : Hid (zs.length = k + 1) := hk
  have hk2 : k < 100000 := by omega
  obtain ⟨hd1, hd2⟩ := hdk
  rw [hk]
  clear hz hcz hc hne hy hpos hn hk
  go_enter Tryd.func52, Tryd.ntmps52
  go_wp2_with fail
  refine (len32_any y _ (by omega) hd2).mono ?_
  rintro e _ ⟨n, rfl, hn, h1, h2, rfl⟩
  have HT : Hid (2 ^ (32 * k + n) ≤ val 4294967296 zs ∧ val 4294967296 zs < 2 ^ (32 * k + n + 1)) := top_bits32 HD.out HK.out HY.out h1 h2
  clear h1 h2
  go_wp2
  go_ret
  exact ⟨32 * k + n, ret_int (by omega), by omega, HT.out.1, HT.out.2, rfl⟩

set_option maxHeartbeats 1000000 in
theorem bitLen_nil (a : Option Addr) (c : Nat) (w : World) :
    Calls Tryd.prog 52 #[.slice a ([] : List Int).length c] w fun e w' => e = .returned (.int .i64 0) ∧ w' = w := by
  go_enter Tryd.func52, Tryd.ntmps52
  go_wp2
  go_ret
  exact ⟨rfl, rfl⟩

end Go.Proofs.YtladfpljnaippabDoor

/-
  The program: m / 2^n, rounded to a whole number.
-/
namespace Go.Proofs.YtladfpljnaippabDoor
open Go.RowKit

theorem and_one {x : Int} (h0 : 0 ≤ x) (h1 : x < 4294967296) : bits .and .u32 x 1 = x % 2 := by
  obtain ⟨n, rfl⟩ := Int.eq_ofNat_of_zero_le h0
  have e2 : (BitVec.ofInt 32 (n : Int) &&& BitVec.ofInt 32 1).toNat = n % 2 := by
    rw [show (1 : Int) = ((1 : Nat) : Int) by rfl, BitVec.toNat_and, BitVec.ofInt_natCast, BitVec.ofInt_natCast, BitVec.toNat_ofNat, BitVec.toNat_ofNat, Nat.mod_eq_of_lt (by omega), Nat.mod_eq_of_lt (by decide)]
    exact Nat.and_two_pow_sub_one_eq_mod n 1
  show IntKind.u32.wrap ((BitVec.ofInt 32 (n : Int) &&& BitVec.ofInt 32 1).toNat : Int) = _
  rw [e2]
  simp only [IntKind.wrap, IntKind.bits, IntKind.signed]
  simp
  omega

theorem head_of {fs : List Int} {D : Int} (hd : Dig 4294967296 fs) (hv : val 4294967296 fs = D) (h : D < 4294967296) : fs.getD 0 0 = D := by
  cases fs with
  | nil => simpa [val] using hv
  | cons z zs =>
    have h1 := val_nonneg (B := 4294967296) (by decide) (hd.drop 1)
    have h2 := hd.at (by decide) 0
    simp only [val, List.drop_one, List.tail_cons, List.getD_cons_zero] at *
    omega

set_option maxHeartbeats 8000000 in
theorem near_up (a : Option Addr) (p : Nat) (zs : List Int) (n : Int) (w : World) (hn : zs.length ≤ 10000) (n0 : -10000 ≤ n) (hz : RowAt .u32 w a zs) (hcz : Canon 4294967296 zs)
    (hD : val 4294967296 zs * 2 ^ (1 - n).toNat / 2 ^ (n - 1).toNat < 4294967296) (hc : n ≤ 0) :
    Calls Tryd.prog 53 #[.slice a zs.length p, .int .i64 n] w fun e w' => e = .returned (.int .u32 (rnd (val 4294967296 zs) n)) ∧ Below w.heap.size w w' := by
  have hN := val_nonneg (B := 4294967296) (by decide) hcz.1
  have HHU : Hid (Calls Tryd.prog 93 #[.slice a zs.length p, .int .i64 (1 - n)] w fun e w' => MagOut w (val 4294967296 zs * 2 ^ (1 - n).toNat) (zs.length + (((1 - n) : Int) / 32).toNat + 1) e w') := by
    have HU := upI_any a p zs (1 - n) w (by omega) (by omega) (by omega) hz hcz.1
    have e : ((1 - n) : Int).toNat = (1 - n).toNat := by omega
    unfold Hid
    rw [e] at HU
    exact HU
  have hs1 : (((1 - n) : Int) / 32).toNat ≤ 400 := by omega
  obtain ⟨M, hM⟩ : ∃ M, M = val 4294967296 zs * 2 ^ (1 - n).toNat := ⟨_, rfl⟩
  obtain ⟨D, hDD⟩ : ∃ D, D = M / 2 ^ (n - 1).toNat := ⟨_, rfl⟩
  have hM0 : 0 ≤ M := by rw [hM]; exact Int.mul_nonneg hN (Int.le_of_lt (Int.pow_pos (by decide)))
  have hD0 : 0 ≤ D := by rw [hDD]; exact Int.ediv_nonneg hM0 (Int.le_of_lt (Int.pow_pos (by decide)))
  have HR : Hid (rnd (val 4294967296 zs) n = D / 2 + if D % 2 = 1 ∧ (M % 2 ^ (n - 1).toNat ≠ 0 ∨ D / 2 % 2 = 1) then 1 else 0) := by
    unfold Hid rnd
    rw [← hM, ← hDD]
  rw [← hM, ← hDD] at hD
  rw [← hM] at HHU
  have HDD : Hid (D = M / 2 ^ (n - 1).toNat) := hDD
  clear hN hz hcz hM hDD hM0
  go_enter Tryd.func53, Tryd.ntmps53
  go_wp2_with fail
  refine HHU.out.mono ?_
  rintro e w1 ⟨a1, c1, fs, rfl, f1, f2, hcf, hvf, hlf, hrf, hb1⟩
  have HV1 : Hid (val 4294967296 fs = M) := hvf
  have HD1 : Hid (Calls Tryd.prog 80 #[.slice a1 fs.length c1, .int .i64 (0)] w1 fun e w' => DownI w1 D fs.length (!lostB M (2 ^ (n - 1).toNat)) e w') := by
    have H := downI_any a1 c1 fs (0) w1 (by omega) f1 f2 (by omega) (by omega) hrf.row hcf
    have HX2 : ((0) : Int).toNat = (n - 1).toNat := by omega
    unfold Hid
    rw [HX2, hvf, ← HDD.out] at H
    exact H
  have HB1 : Hid (Below w.heap.size w w1) := hb1
  clear HHU hcf hvf hrf hb1 f2
  go_wp2_with fail
  refine HD1.out.mono ?_
  rintro e w2 ⟨a2, c2, gs, rfl, k1, k2, hcg, hvg, hlg, hrg, hb2⟩
  have HB2 : Hid (Below w.heap.size w w2) := HB1.out.trans (hb2.mono HB1.out.size)
  have hhead := head_of hcg.1 hvg hD
  clear HD1 HB1 hb2 k2 HV1
  by_cases hgs : gs = []
  · subst hgs
    have hz0 : D = 0 := by rw [← hvg]; rfl
    have HR0 : Hid (rnd (val 4294967296 zs) n = 0) := by
      unfold Hid
      rw [HR.out, hz0, if_neg (by omega)]
      rfl
    clear hcg hvg hrg hhead HR hlg k1
    go_wp2
    refine bodyPost_ret (v := .int .u32 0) (by simp [results, Tryd.results53, go_sem]) rfl ?_
    exact ⟨by rw [HR0.out], HB2.out⟩
  · obtain ⟨b, off, rfl, hb, hc⟩ := hrg.row.resolve_left hgs
    have hpos := List.length_pos_iff.2 hgs
    have g0 := hc 0 hpos
    rw [hhead, Nat.add_zero] at g0
    have hl0 : ((gs.length : Int) == 0) = false := by rw [beq_eq_false_iff_ne]; omega
    have hl1 : (0 : Int) < (gs.length : Int) := by omega
    have hand := and_one hD0 hD
    have hand2 := and_one (x := D / 2) (by omega) (by omega)
    have HL : Hid (lostB M (2 ^ (n - 1).toNat) = decide (M % 2 ^ (n - 1).toNat ≠ 0)) := rfl
    generalize hlo : lostB M (2 ^ (n - 1).toNat) = lo
    rw [hlo] at HL
    have hwrap : D / 2 + 1 < 4294967296 := by omega
    clear hcg hvg hrg hhead hgs hc hpos hlo
    by_cases hh : D % 2 = 1
    · have hh1 : (D % 2 == 1) = true := by rw [hh]; rfl
      cases lo
      · have hex : ¬ M % 2 ^ (n - 1).toNat ≠ 0 := of_decide_eq_false HL.out.symm
        have HR1 : Hid (rnd (val 4294967296 zs) n = D / 2 + D / 2 % 2) := by
          unfold Hid
          rw [HR.out]
          by_cases hk : D / 2 % 2 = 1
          · rw [if_pos ⟨hh, .inr hk⟩, hk]
          · rw [if_neg (by rintro ⟨_, h | h⟩; exact hex h; exact hk h)]
            omega
        clear hex HL HR
        go_wp2
        go_quiet (fail)
        go_wp2
        go_ret
        exact ⟨by rw [HR1.out]; rfl, below_drewN HB2.out _⟩
      · have hex : M % 2 ^ (n - 1).toNat ≠ 0 := of_decide_eq_true HL.out.symm
        have HR1 : Hid (rnd (val 4294967296 zs) n = D / 2 + 1) := by
          unfold Hid
          rw [HR.out, if_pos ⟨hh, .inl hex⟩]
        clear hex HL HR
        go_wp2
        go_quiet (fail)
        go_wp2
        go_ret
        exact ⟨by rw [HR1.out]; rfl, below_drewN HB2.out _⟩
    · have hh1 : (D % 2 == 1) = false := by rw [beq_eq_false_iff_ne]; exact hh
      have HR1 : Hid (rnd (val 4294967296 zs) n = D / 2) := by
        unfold Hid
        rw [HR.out, if_neg (fun h => hh h.1)]
        omega
      clear HL HR
      go_wp2
      go_quiet (fail)
      go_wp2
      go_ret
      exact ⟨by rw [HR1.out]; rfl, below_drewN HB2.out _⟩

set_option maxHeartbeats 8000000 in
theorem near_down (a : Option Addr) (p : Nat) (zs : List Int) (n : Int) (w : World) (hn : zs.length ≤ 10000) (n1 : n ≤ 900000) (hz : RowAt .u32 w a zs) (hcz : Canon 4294967296 zs)
    (hD : val 4294967296 zs * 2 ^ (1 - n).toNat / 2 ^ (n - 1).toNat < 4294967296) (hc : 1 < n) :
    Calls Tryd.prog 53 #[.slice a zs.length p, .int .i64 n] w fun e w' => e = .returned (.int .u32 (rnd (val 4294967296 zs) n)) ∧ Below w.heap.size w w' := by
  have hN := val_nonneg (B := 4294967296) (by decide) hcz.1
  have HHU : Hid (Calls Tryd.prog 93 #[.slice a zs.length p, .int .i64 (0)] w fun e w' => MagOut w (val 4294967296 zs * 2 ^ (1 - n).toNat) (zs.length + (((0) : Int) / 32).toNat + 1) e w') := by
    have HU := upI_any a p zs (0) w (by omega) (by omega) (by omega) hz hcz.1
    have e : ((0) : Int).toNat = (1 - n).toNat := by omega
    unfold Hid
    rw [e] at HU
    exact HU
  have hs1 : (((0) : Int) / 32).toNat ≤ 400 := by omega
  obtain ⟨M, hM⟩ : ∃ M, M = val 4294967296 zs * 2 ^ (1 - n).toNat := ⟨_, rfl⟩
  obtain ⟨D, hDD⟩ : ∃ D, D = M / 2 ^ (n - 1).toNat := ⟨_, rfl⟩
  have hM0 : 0 ≤ M := by rw [hM]; exact Int.mul_nonneg hN (Int.le_of_lt (Int.pow_pos (by decide)))
  have hD0 : 0 ≤ D := by rw [hDD]; exact Int.ediv_nonneg hM0 (Int.le_of_lt (Int.pow_pos (by decide)))
  have HR : Hid (rnd (val 4294967296 zs) n = D / 2 + if D % 2 = 1 ∧ (M % 2 ^ (n - 1).toNat ≠ 0 ∨ D / 2 % 2 = 1) then 1 else 0) := by
    unfold Hid rnd
    rw [← hM, ← hDD]
  rw [← hM, ← hDD] at hD
  rw [← hM] at HHU
  have HDD : Hid (D = M / 2 ^ (n - 1).toNat) := hDD
  clear hN hz hcz hM hDD hM0
  go_enter Tryd.func53, Tryd.ntmps53
  go_wp2_with fail
  refine HHU.out.mono ?_
  rintro e w1 ⟨a1, c1, fs, rfl, f1, f2, hcf, hvf, hlf, hrf, hb1⟩
  have HV1 : Hid (val 4294967296 fs = M) := hvf
  have HD1 : Hid (Calls Tryd.prog 80 #[.slice a1 fs.length c1, .int .i64 (n - 1)] w1 fun e w' => DownI w1 D fs.length (!lostB M (2 ^ (n - 1).toNat)) e w') := by
    have H := downI_any a1 c1 fs (n - 1) w1 (by omega) f1 f2 (by omega) (by omega) hrf.row hcf
    have HX2 : ((n - 1) : Int).toNat = (n - 1).toNat := by omega
    unfold Hid
    rw [HX2, hvf, ← HDD.out] at H
    exact H
  have HB1 : Hid (Below w.heap.size w w1) := hb1
  clear HHU hcf hvf hrf hb1 f2
  go_wp2_with fail
  refine HD1.out.mono ?_
  rintro e w2 ⟨a2, c2, gs, rfl, k1, k2, hcg, hvg, hlg, hrg, hb2⟩
  have HB2 : Hid (Below w.heap.size w w2) := HB1.out.trans (hb2.mono HB1.out.size)
  have hhead := head_of hcg.1 hvg hD
  clear HD1 HB1 hb2 k2 HV1
  by_cases hgs : gs = []
  · subst hgs
    have hz0 : D = 0 := by rw [← hvg]; rfl
    have HR0 : Hid (rnd (val 4294967296 zs) n = 0) := by
      unfold Hid
      rw [HR.out, hz0, if_neg (by omega)]
      rfl
    clear hcg hvg hrg hhead HR hlg k1
    go_wp2
    refine bodyPost_ret (v := .int .u32 0) (by simp [results, Tryd.results53, go_sem]) rfl ?_
    exact ⟨by rw [HR0.out], HB2.out⟩
  · obtain ⟨b, off, rfl, hb, hc⟩ := hrg.row.resolve_left hgs
    have hpos := List.length_pos_iff.2 hgs
    have g0 := hc 0 hpos
    rw [hhead, Nat.add_zero] at g0
    have hl0 : ((gs.length : Int) == 0) = false := by rw [beq_eq_false_iff_ne]; omega
    have hl1 : (0 : Int) < (gs.length : Int) := by omega
    have hand := and_one hD0 hD
    have hand2 := and_one (x := D / 2) (by omega) (by omega)
    have HL : Hid (lostB M (2 ^ (n - 1).toNat) = decide (M % 2 ^ (n - 1).toNat ≠ 0)) := rfl
    generalize hlo : lostB M (2 ^ (n - 1).toNat) = lo
    rw [hlo] at HL
    have hwrap : D / 2 + 1 < 4294967296 := by omega
    clear hcg hvg hrg hhead hgs hc hpos hlo
    by_cases hh : D % 2 = 1
    · have hh1 : (D % 2 == 1) = true := by rw [hh]; rfl
      cases lo
      · have hex : ¬ M % 2 ^ (n - 1).toNat ≠ 0 := of_decide_eq_false HL.out.symm
        have HR1 : Hid (rnd (val 4294967296 zs) n = D / 2 + D / 2 % 2) := by
          unfold Hid
          rw [HR.out]
          by_cases hk : D / 2 % 2 = 1
          · rw [if_pos ⟨hh, .inr hk⟩, hk]
          · rw [if_neg (by rintro ⟨_, h | h⟩; exact hex h; exact hk h)]
            omega
        clear hex HL HR
        go_wp2
        go_quiet (fail)
        go_wp2
        go_ret
        exact ⟨by rw [HR1.out]; rfl, below_drewN HB2.out _⟩
      · have hex : M % 2 ^ (n - 1).toNat ≠ 0 := of_decide_eq_true HL.out.symm
        have HR1 : Hid (rnd (val 4294967296 zs) n = D / 2 + 1) := by
          unfold Hid
          rw [HR.out, if_pos ⟨hh, .inl hex⟩]
        clear hex HL HR
        go_wp2
        go_quiet (fail)
        go_wp2
        go_ret
        exact ⟨by rw [HR1.out]; rfl, below_drewN HB2.out _⟩
    · have hh1 : (D % 2 == 1) = false := by rw [beq_eq_false_iff_ne]; exact hh
      have HR1 : Hid (rnd (val 4294967296 zs) n = D / 2) := by
        unfold Hid
        rw [HR.out, if_neg (fun h => hh h.1)]
        omega
      clear HL HR
      go_wp2
      go_quiet (fail)
      go_wp2
      go_ret
      exact ⟨by rw [HR1.out]; rfl, below_drewN HB2.out _⟩

set_option maxHeartbeats 8000000 in
theorem near_one (a : Option Addr) (p : Nat) (zs : List Int) (n : Int) (w : World) (hn : zs.length ≤ 10000) (hz : RowAt .u32 w a zs) (hcz : Canon 4294967296 zs)
    (hD : val 4294967296 zs * 2 ^ (1 - n).toNat / 2 ^ (n - 1).toNat < 4294967296) (hc : n = 1) :
    Calls Tryd.prog 53 #[.slice a zs.length p, .int .i64 n] w fun e w' => e = .returned (.int .u32 (rnd (val 4294967296 zs) n)) ∧ Below w.heap.size w w' := by
  have hN := val_nonneg (B := 4294967296) (by decide) hcz.1
  have HHU : Hid (Calls Tryd.prog 93 #[.slice a zs.length p, .int .i64 (0)] w fun e w' => MagOut w (val 4294967296 zs * 2 ^ (1 - n).toNat) (zs.length + (((0) : Int) / 32).toNat + 1) e w') := by
    have HU := upI_any a p zs (0) w (by omega) (by omega) (by omega) hz hcz.1
    have e : ((0) : Int).toNat = (1 - n).toNat := by omega
    unfold Hid
    rw [e] at HU
    exact HU
  have hs1 : (((0) : Int) / 32).toNat ≤ 400 := by omega
  obtain ⟨M, hM⟩ : ∃ M, M = val 4294967296 zs * 2 ^ (1 - n).toNat := ⟨_, rfl⟩
  obtain ⟨D, hDD⟩ : ∃ D, D = M / 2 ^ (n - 1).toNat := ⟨_, rfl⟩
  have hM0 : 0 ≤ M := by rw [hM]; exact Int.mul_nonneg hN (Int.le_of_lt (Int.pow_pos (by decide)))
  have hD0 : 0 ≤ D := by rw [hDD]; exact Int.ediv_nonneg hM0 (Int.le_of_lt (Int.pow_pos (by decide)))
  have HR : Hid (rnd (val 4294967296 zs) n = D / 2 + if D % 2 = 1 ∧ (M % 2 ^ (n - 1).toNat ≠ 0 ∨ D / 2 % 2 = 1) then 1 else 0) := by
    unfold Hid rnd
    rw [← hM, ← hDD]
  rw [← hM, ← hDD] at hD
  rw [← hM] at HHU
  have HDD : Hid (D = M / 2 ^ (n - 1).toNat) := hDD
  clear hN hz hcz hM hDD hM0
  go_enter Tryd.func53, Tryd.ntmps53
  go_wp2_with fail
  refine HHU.out.mono ?_
  rintro e w1 ⟨a1, c1, fs, rfl, f1, f2, hcf, hvf, hlf, hrf, hb1⟩
  have HV1 : Hid (val 4294967296 fs = M) := hvf
  have HD1 : Hid (Calls Tryd.prog 80 #[.slice a1 fs.length c1, .int .i64 (0)] w1 fun e w' => DownI w1 D fs.length (!lostB M (2 ^ (n - 1).toNat)) e w') := by
    have H := downI_any a1 c1 fs (0) w1 (by omega) f1 f2 (by omega) (by omega) hrf.row hcf
    have HX2 : ((0) : Int).toNat = (n - 1).toNat := by omega
    unfold Hid
    rw [HX2, hvf, ← HDD.out] at H
    exact H
  have HB1 : Hid (Below w.heap.size w w1) := hb1
  clear HHU hcf hvf hrf hb1 f2
  go_wp2_with fail
  refine HD1.out.mono ?_
  rintro e w2 ⟨a2, c2, gs, rfl, k1, k2, hcg, hvg, hlg, hrg, hb2⟩
  have HB2 : Hid (Below w.heap.size w w2) := HB1.out.trans (hb2.mono HB1.out.size)
  have hhead := head_of hcg.1 hvg hD
  clear HD1 HB1 hb2 k2 HV1
  by_cases hgs : gs = []
  · subst hgs
    have hz0 : D = 0 := by rw [← hvg]; rfl
    have HR0 : Hid (rnd (val 4294967296 zs) n = 0) := by
      unfold Hid
      rw [HR.out, hz0, if_neg (by omega)]
      rfl
    clear hcg hvg hrg hhead HR hlg k1
    go_wp2
    refine bodyPost_ret (v := .int .u32 0) (by simp [results, Tryd.results53, go_sem]) rfl ?_
    exact ⟨by rw [HR0.out], HB2.out⟩
  · obtain ⟨b, off, rfl, hb, hc⟩ := hrg.row.resolve_left hgs
    have hpos := List.length_pos_iff.2 hgs
    have g0 := hc 0 hpos
    rw [hhead, Nat.add_zero] at g0
    have hl0 : ((gs.length : Int) == 0) = false := by rw [beq_eq_false_iff_ne]; omega
    have hl1 : (0 : Int) < (gs.length : Int) := by omega
    have hand := and_one hD0 hD
    have hand2 := and_one (x := D / 2) (by omega) (by omega)
    have HL : Hid (lostB M (2 ^ (n - 1).toNat) = decide (M % 2 ^ (n - 1).toNat ≠ 0)) := rfl
    generalize hlo : lostB M (2 ^ (n - 1).toNat) = lo
    rw [hlo] at HL
    have hwrap : D / 2 + 1 < 4294967296 := by omega
    clear hcg hvg hrg hhead hgs hc hpos hlo
    by_cases hh : D % 2 = 1
    · have hh1 : (D % 2 == 1) = true := by rw [hh]; rfl
      cases lo
      · have hex : ¬ M % 2 ^ (n - 1).toNat ≠ 0 := of_decide_eq_false HL.out.symm
        have HR1 : Hid (rnd (val 4294967296 zs) n = D / 2 + D / 2 % 2) := by
          unfold Hid
          rw [HR.out]
          by_cases hk : D / 2 % 2 = 1
          · rw [if_pos ⟨hh, .inr hk⟩, hk]
          · rw [if_neg (by rintro ⟨_, h | h⟩; exact hex h; exact hk h)]
            omega
        clear hex HL HR
        go_wp2
        go_quiet (fail)
        go_wp2
        go_ret
        exact ⟨by rw [HR1.out]; rfl, below_drewN HB2.out _⟩
      · have hex : M % 2 ^ (n - 1).toNat ≠ 0 := of_decide_eq_true HL.out.symm
        have HR1 : Hid (rnd (val 4294967296 zs) n = D / 2 + 1) := by
          unfold Hid
          rw [HR.out, if_pos ⟨hh, .inl hex⟩]
        clear hex HL HR
        go_wp2
        go_quiet (fail)
        go_wp2
        go_ret
        exact ⟨by rw [HR1.out]; rfl, below_drewN HB2.out _⟩
    · have hh1 : (D % 2 == 1) = false := by rw [beq_eq_false_iff_ne]; exact hh
      have HR1 : Hid (rnd (val 4294967296 zs) n = D / 2) := by
        unfold Hid
        rw [HR.out, if_neg (fun h => hh h.1)]
        omega
      clear HL HR
      go_wp2
      go_quiet (fail)
      go_wp2
      go_ret
      exact ⟨by rw [HR1.out]; rfl, below_drewN HB2.out _⟩

theorem near_any (a : Option Addr) (p : Nat) (zs : List Int) (n : Int) (w : World) (hn : zs.length ≤ 10000) (n0 : -10000 ≤ n) (n1 : n ≤ 900000) (hz : RowAt .u32 w a zs) (hcz : Canon 4294967296 zs)
    (hD : val 4294967296 zs * 2 ^ (1 - n).toNat / 2 ^ (n - 1).toNat < 4294967296) :
    Calls Tryd.prog 53 #[.slice a zs.length p, .int .i64 n] w fun e w' => e = .returned (.int .u32 (rnd (val 4294967296 zs) n)) ∧ Below w.heap.size w w' := by
  rcases Int.lt_trichotomy n 1 with h | h | h
  · exact near_up a p zs n w hn n0 hz hcz hD (by omega)
  · exact near_one a p zs n w hn hz hcz hD h
  · exact near_down a p zs n w hn n1 hz hcz hD h

end Go.Proofs.YtladfpljnaippabDoor
