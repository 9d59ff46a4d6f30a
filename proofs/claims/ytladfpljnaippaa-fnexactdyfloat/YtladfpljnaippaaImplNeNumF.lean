/-
  The program: m / 2^n, rounded to a whole number.
-/
import Derived.Test.YtladfpljnaippaaImplU
import Derived.Test.YtladfpljnaippaaNumR
import Derived.Test.YtladfpljnaippaaNumD
import Ieee.Arith
namespace Go.Proofs.Ytladfpljnaippaa
open Go.RowKit

theorem and_one {x : Int} (h0 : 0 ≤ x) (h1 : x < 4294967296) : bits .and .u32 x 1 = x % 2 := by
  obtain ⟨n, rfl⟩ := Int.eq_ofNat_of_zero_le h0
  have e2 : (BitVec.ofInt 32 (n : Int) &&& BitVec.ofInt 32 1).toNat = n % 2 := by
    rw [show (1 : Int) = ((1 : Nat) : Int) by rfl, BitVec.toNat_and, BitVec.ofInt_natCast, BitVec.ofInt_natCast, BitVec.toNat_ofNat, BitVec.toNat_ofNat, Nat.mod_eq_of_lt (by omega), Nat.mod_eq_of_lt (by decide)]
    exact Nat.and_two_pow_sub_one_eq_mod n 1
  show IntKind.u32.wrap ((BitVec.ofInt 32 (n : Int) &&& BitVec.ofInt 32 1).toNat : Int) = _
  rw [e2]
  simp only [IntKind.wrap, IntKind.bits, IntKind.signed]
  simp
  omega

theorem head_of {fs : List Int} {D : Int} (hd : Dig 4294967296 fs) (hv : val 4294967296 fs = D) (h : D < 4294967296) : fs.getD 0 0 = D := by
  cases fs with
  | nil => simpa [val] using hv
  | cons z zs =>
    have h1 := val_nonneg (B := 4294967296) (by decide) (hd.drop 1)
    have h2 := hd.at (by decide) 0
    simp only [val, List.drop_one, List.tail_cons, List.getD_cons_zero] at *
    omega

set_option maxHeartbeats 8000000 in
theorem near_up (a : Option Addr) (p : Nat) (zs : List Int) (n : Int) (w : World) (hn : zs.length ≤ 10000) (n0 : -10000 ≤ n) (hz : RowAt .u32 w a zs) (hcz : Canon 4294967296 zs)
    (hD : val 4294967296 zs * 2 ^ (1 - n).toNat / 2 ^ (n - 1).toNat < 4294967296) (hc : n ≤ 0) :
    Calls Try.prog 34 #[.slice a zs.length p, .int .i64 n] w fun e w' => e = .returned (.int .u32 (rnd (val 4294967296 zs) n)) ∧ Below w.heap.size w w' := by
  have hN := val_nonneg (B := 4294967296) (by decide) hcz.1
  have HHU : Hid (Calls Try.prog 59 #[.slice a zs.length p, .int .i64 (1 - n)] w fun e w' => MagOut w (val 4294967296 zs * 2 ^ (1 - n).toNat) (zs.length + (((1 - n) : Int) / 32).toNat + 1) e w') := by
    have HU := upI_any a p zs (1 - n) w (by omega) (by omega) (by omega) hz hcz.1
    have e : ((1 - n) : Int).toNat = (1 - n).toNat := by omega
    unfold Hid
    rw [e] at HU
    exact HU
  have hs1 : (((1 - n) : Int) / 32).toNat ≤ 400 := by omega
  obtain ⟨M, hM⟩ : ∃ M, M = val 4294967296 zs * 2 ^ (1 - n).toNat := ⟨_, rfl⟩
  obtain ⟨D, hDD⟩ : ∃ D, D = M / 2 ^ (n - 1).toNat := ⟨_, rfl⟩
  have hM0 : 0 ≤ M := by rw [hM]; exact Int.mul_nonneg hN (Int.le_of_lt (Int.pow_pos (by decide)))
  have hD0 : 0 ≤ D := by rw [hDD]; exact Int.ediv_nonneg hM0 (Int.le_of_lt (Int.pow_pos (by decide)))
  have HR : Hid (rnd (val 4294967296 zs) n = D / 2 + if D % 2 = 1 ∧ (M % 2 ^ (n - 1).toNat ≠ 0 ∨ D / 2 % 2 = 1) then 1 else 0) := by
    unfold Hid rnd
    rw [← hM, ← hDD]
  rw [← hM, ← hDD] at hD
  rw [← hM] at HHU
  have HDD : Hid (D = M / 2 ^ (n - 1).toNat) := hDD
  clear hN hz hcz hM hDD hM0
  go_enter Try.func34, Try.ntmps34
  go_wp2_with fail
  refine HHU.out.mono ?_
  rintro e w1 ⟨a1, c1, fs, rfl, f1, f2, hcf, hvf, hlf, hrf, hb1⟩
  have HV1 : Hid (val 4294967296 fs = M) := hvf
  have HD1 : Hid (Calls Try.prog 60 #[.slice a1 fs.length c1, .int .i64 (0)] w1 fun e w' => DownI w1 D fs.length (!lostB M (2 ^ (n - 1).toNat)) e w') := by
    have H := downI_any a1 c1 fs (0) w1 (by omega) f1 f2 (by omega) (by omega) hrf.row hcf
    have HX2 : ((0) : Int).toNat = (n - 1).toNat := by omega
    unfold Hid
    rw [HX2, hvf, ← HDD.out] at H
    exact H
  have HB1 : Hid (Below w.heap.size w w1) := hb1
  clear HHU hcf hvf hrf hb1 f2
  go_wp2_with fail
  refine HD1.out.mono ?_
  rintro e w2 ⟨a2, c2, gs, rfl, k1, k2, hcg, hvg, hlg, hrg, hb2⟩
  have HB2 : Hid (Below w.heap.size w w2) := HB1.out.trans (hb2.mono HB1.out.size)
  have hhead := head_of hcg.1 hvg hD
  clear HD1 HB1 hb2 k2 HV1
  by_cases hgs : gs = []
  · subst hgs
    have hz0 : D = 0 := by rw [← hvg]; rfl
    have HR0 : Hid (rnd (val 4294967296 zs) n = 0) := by
      unfold Hid
      rw [HR.out, hz0, if_neg (by omega)]
      rfl
    clear hcg hvg hrg hhead HR hlg k1
    go_wp2
    refine bodyPost_ret (v := .int .u32 0) (by simp [results, Try.results34, go_sem]) rfl ?_
    exact ⟨by rw [HR0.out], HB2.out⟩
  · obtain ⟨b, off, rfl, hb, hc⟩ := hrg.row.resolve_left hgs
    have hpos := List.length_pos_iff.2 hgs
    have g0 := hc 0 hpos
    rw [hhead, Nat.add_zero] at g0
    have hl0 : ((gs.length : Int) == 0) = false := by rw [beq_eq_false_iff_ne]; omega
    have hl1 : (0 : Int) < (gs.length : Int) := by omega
    have hand := and_one hD0 hD
    have hand2 := and_one (x := D / 2) (by omega) (by omega)
    have HL : Hid (lostB M (2 ^ (n - 1).toNat) = decide (M % 2 ^ (n - 1).toNat ≠ 0)) := rfl
    generalize hlo : lostB M (2 ^ (n - 1).toNat) = lo
    rw [hlo] at HL
    have hwrap : D / 2 + 1 < 4294967296 := by omega
    clear hcg hvg hrg hhead hgs hc hpos hlo
    by_cases hh : D % 2 = 1
    · have hh1 : (D % 2 == 1) = true := by rw [hh]; rfl
      cases lo
      · have hex : ¬ M % 2 ^ (n - 1).toNat ≠ 0 := of_decide_eq_false HL.out.symm
        have HR1 : Hid (rnd (val 4294967296 zs) n = D / 2 + D / 2 % 2) := by
          unfold Hid
          rw [HR.out]
          by_cases hk : D / 2 % 2 = 1
          · rw [if_pos ⟨hh, .inr hk⟩, hk]
          · rw [if_neg (by rintro ⟨_, h | h⟩; exact hex h; exact hk h)]
            omega
        clear hex HL HR
        go_wp2
        go_quiet (fail)
        go_wp2
        go_ret
        exact ⟨by rw [HR1.out]; rfl, below_drewN HB2.out _⟩
      · have hex : M % 2 ^ (n - 1).toNat ≠ 0 := of_decide_eq_true HL.out.symm
        have HR1 : Hid (rnd (val 4294967296 zs) n = D / 2 + 1) := by
          unfold Hid
          rw [HR.out, if_pos ⟨hh, .inl hex⟩]
        clear hex HL HR
        go_wp2
        go_quiet (fail)
        go_wp2
        go_ret
        exact ⟨by rw [HR1.out]; rfl, below_drewN HB2.out _⟩
    · have hh1 : (D % 2 == 1) = false := by rw [beq_eq_false_iff_ne]; exact hh
      have HR1 : Hid (rnd (val 4294967296 zs) n = D / 2) := by
        unfold Hid
        rw [HR.out, if_neg (fun h => hh h.1)]
        omega
      clear HL HR
      go_wp2
      go_quiet (fail)
      go_wp2
      go_ret
      exact ⟨by rw [HR1.out]; rfl, below_drewN HB2.out _⟩

set_option maxHeartbeats 8000000 in
theorem near_down (a : Option Addr) (p : Nat) (zs : List Int) (n : Int) (w : World) (hn : zs.length ≤ 10000) (n1 : n ≤ 900000) (hz : RowAt .u32 w a zs) (hcz : Canon 4294967296 zs)
    (hD : val 4294967296 zs * 2 ^ (1 - n).toNat / 2 ^ (n - 1).toNat < 4294967296) (hc : 1 < n) :
    Calls Try.prog 34 #[.slice a zs.length p, .int .i64 n] w fun e w' => e = .returned (.int .u32 (rnd (val 4294967296 zs) n)) ∧ Below w.heap.size w w' := by
  have hN := val_nonneg (B := 4294967296) (by decide) hcz.1
  have HHU : Hid (Calls Try.prog 59 #[.slice a zs.length p, .int .i64 (0)] w fun e w' => MagOut w (val 4294967296 zs * 2 ^ (1 - n).toNat) (zs.length + (((0) : Int) / 32).toNat + 1) e w') := by
    have HU := upI_any a p zs (0) w (by omega) (by omega) (by omega) hz hcz.1
    have e : ((0) : Int).toNat = (1 - n).toNat := by omega
    unfold Hid
    rw [e] at HU
    exact HU
  have hs1 : (((0) : Int) / 32).toNat ≤ 400 := by omega
  obtain ⟨M, hM⟩ : ∃ M, M = val 4294967296 zs * 2 ^ (1 - n).toNat := ⟨_, rfl⟩
  obtain ⟨D, hDD⟩ : ∃ D, D = M / 2 ^ (n - 1).toNat := ⟨_, rfl⟩
  have hM0 : 0 ≤ M := by rw [hM]; exact Int.mul_nonneg hN (Int.le_of_lt (Int.pow_pos (by decide)))
  have hD0 : 0 ≤ D := by rw [hDD]; exact Int.ediv_nonneg hM0 (Int.le_of_lt (Int.pow_pos (by decide)))
  have HR : Hid (rnd (val 4294967296 zs) n = D / 2 + if D % 2 = 1 ∧ (M % 2 ^ (n - 1).toNat ≠ 0 ∨ D / 2 % 2 = 1) then 1 else 0) := by
    unfold Hid rnd
    rw [← hM, ← hDD]
  rw [← hM, ← hDD] at hD
  rw [← hM] at HHU
  have HDD : Hid (D = M / 2 ^ (n - 1).toNat) := hDD
  clear hN hz hcz hM hDD hM0
  go_enter Try.func34, Try.ntmps34
  go_wp2_with fail
  refine HHU.out.mono ?_
  rintro e w1 ⟨a1, c1, fs, rfl, f1, f2, hcf, hvf, hlf, hrf, hb1⟩
  have HV1 : Hid (val 4294967296 fs = M) := hvf
  have HD1 : Hid (Calls Try.prog 60 #[.slice a1 fs.length c1, .int .i64 (n - 1)] w1 fun e w' => DownI w1 D fs.length (!lostB M (2 ^ (n - 1).toNat)) e w') := by
    have H := downI_any a1 c1 fs (n - 1) w1 (by omega) f1 f2 (by omega) (by omega) hrf.row hcf
    have HX2 : ((n - 1) : Int).toNat = (n - 1).toNat := by omega
    unfold Hid
    rw [HX2, hvf, ← HDD.out] at H
    exact H
  have HB1 : Hid (Below w.heap.size w w1) := hb1
  clear HHU hcf hvf hrf hb1 f2
  go_wp2_with fail
  refine HD1.out.mono ?_
  rintro e w2 ⟨a2, c2, gs, rfl, k1, k2, hcg, hvg, hlg, hrg, hb2⟩
  have HB2 : Hid (Below w.heap.size w w2) := HB1.out.trans (hb2.mono HB1.out.size)
  have hhead := head_of hcg.1 hvg hD
  clear HD1 HB1 hb2 k2 HV1
  by_cases hgs : gs = []
  · subst hgs
    have hz0 : D = 0 := by rw [← hvg]; rfl
    have HR0 : Hid (rnd (val 4294967296 zs) n = 0) := by
      unfold Hid
      rw [HR.out, hz0, if_neg (by omega)]
      rfl
    clear hcg hvg hrg hhead HR hlg k1
    go_wp2
    refine bodyPost_ret (v := .int .u32 0) (by simp [results, Try.results34, go_sem]) rfl ?_
    exact ⟨by rw [HR0.out], HB2.out⟩
  · obtain ⟨b, off, rfl, hb, hc⟩ := hrg.row.resolve_left hgs
    have hpos := List.length_pos_iff.2 hgs
    have g0 := hc 0 hpos
    rw [hhead, Nat.add_zero] at g0
    have hl0 : ((gs.length : Int) == 0) = false := by rw [beq_eq_false_iff_ne]; omega
    have hl1 : (0 : Int) < (gs.length : Int) := by omega
    have hand := and_one hD0 hD
    have hand2 := and_one (x := D / 2) (by omega) (by omega)
    have HL : Hid (lostB M (2 ^ (n - 1).toNat) = decide (M % 2 ^ (n - 1).toNat ≠ 0)) := rfl
    generalize hlo : lostB M (2 ^ (n - 1).toNat) = lo
    rw [hlo] at HL
    have hwrap : D / 2 + 1 < 4294967296 := by omega
    clear hcg hvg hrg hhead hgs hc hpos hlo
    by_cases hh : D % 2 = 1
    · have hh1 : (D % 2 == 1) = true := by rw [hh]; rfl
      cases lo
      · have hex : ¬ M % 2 ^ (n - 1).toNat ≠ 0 := of_decide_eq_false HL.out.symm
        have HR1 : Hid (rnd (val 4294967296 zs) n = D / 2 + D / 2 % 2) := by
          unfold Hid
          rw [HR.out]
          by_cases hk : D / 2 % 2 = 1
          · rw [if_pos ⟨hh, .inr hk⟩, hk]
          · rw [if_neg (by rintro ⟨_, h | h⟩; exact hex h; exact hk h)]
            omega
        clear hex HL HR
        go_wp2
        go_quiet (fail)
        go_wp2
        go_ret
        exact ⟨by rw [HR1.out]; rfl, below_drewN HB2.out _⟩
      · have hex : M % 2 ^ (n - 1).toNat ≠ 0 := of_decide_eq_true HL.out.symm
        have HR1 : Hid (rnd (val 4294967296 zs) n = D / 2 + 1) := by
          unfold Hid
          rw [HR.out, if_pos ⟨hh, .inl hex⟩]
        clear hex HL HR
        go_wp2
        go_quiet (fail)
        go_wp2
        go_ret
        exact ⟨by rw [HR1.out]; rfl, below_drewN HB2.out _⟩
    · have hh1 : (D % 2 == 1) = false := by rw [beq_eq_false_iff_ne]; exact hh
      have HR1 : Hid (rnd (val 4294967296 zs) n = D / 2) := by
        unfold Hid
        rw [HR.out, if_neg (fun h => hh h.1)]
        omega
      clear HL HR
      go_wp2
      go_quiet (fail)
      go_wp2
      go_ret
      exact ⟨by rw [HR1.out]; rfl, below_drewN HB2.out _⟩

set_option maxHeartbeats 8000000 in
theorem near_one (a : Option Addr) (p : Nat) (zs : List Int) (n : Int) (w : World) (hn : zs.length ≤ 10000) (hz : RowAt .u32 w a zs) (hcz : Canon 4294967296 zs)
    (hD : val 4294967296 zs * 2 ^ (1 - n).toNat / 2 ^ (n - 1).toNat < 4294967296) (hc : n = 1) :
    Calls Try.prog 34 #[.slice a zs.length p, .int .i64 n] w fun e w' => e = .returned (.int .u32 (rnd (val 4294967296 zs) n)) ∧ Below w.heap.size w w' := by
  have hN := val_nonneg (B := 4294967296) (by decide) hcz.1
  have HHU : Hid (Calls Try.prog 59 #[.slice a zs.length p, .int .i64 (0)] w fun e w' => MagOut w (val 4294967296 zs * 2 ^ (1 - n).toNat) (zs.length + (((0) : Int) / 32).toNat + 1) e w') := by
    have HU := upI_any a p zs (0) w (by omega) (by omega) (by omega) hz hcz.1
    have e : ((0) : Int).toNat = (1 - n).toNat := by omega
    unfold Hid
    rw [e] at HU
    exact HU
  have hs1 : (((0) : Int) / 32).toNat ≤ 400 := by omega
  obtain ⟨M, hM⟩ : ∃ M, M = val 4294967296 zs * 2 ^ (1 - n).toNat := ⟨_, rfl⟩
  obtain ⟨D, hDD⟩ : ∃ D, D = M / 2 ^ (n - 1).toNat := ⟨_, rfl⟩
  have hM0 : 0 ≤ M := by rw [hM]; exact Int.mul_nonneg hN (Int.le_of_lt (Int.pow_pos (by decide)))
  have hD0 : 0 ≤ D := by rw [hDD]; exact Int.ediv_nonneg hM0 (Int.le_of_lt (Int.pow_pos (by decide)))
  have HR : Hid (rnd (val 4294967296 zs) n = D / 2 + if D % 2 = 1 ∧ (M % 2 ^ (n - 1).toNat ≠ 0 ∨ D / 2 % 2 = 1) then 1 else 0) := by
    unfold Hid rnd
    rw [← hM, ← hDD]
  rw [← hM, ← hDD] at hD
  rw [← hM] at HHU
  have HDD : Hid (D = M / 2 ^ (n - 1).toNat) := hDD
  clear hN hz hcz hM hDD hM0
  go_enter Try.func34, Try.ntmps34
  go_wp2_with fail
  refine HHU.out.mono ?_
  rintro e w1 ⟨a1, c1, fs, rfl, f1, f2, hcf, hvf, hlf, hrf, hb1⟩
  have HV1 : Hid (val 4294967296 fs = M) := hvf
  have HD1 : Hid (Calls Try.prog 60 #[.slice a1 fs.length c1, .int .i64 (0)] w1 fun e w' => DownI w1 D fs.length (!lostB M (2 ^ (n - 1).toNat)) e w') := by
    have H := downI_any a1 c1 fs (0) w1 (by omega) f1 f2 (by omega) (by omega) hrf.row hcf
    have HX2 : ((0) : Int).toNat = (n - 1).toNat := by omega
    unfold Hid
    rw [HX2, hvf, ← HDD.out] at H
    exact H
  have HB1 : Hid (Below w.heap.size w w1) := hb1
  clear HHU hcf hvf hrf hb1 f2
  go_wp2_with fail
  refine HD1.out.mono ?_
  rintro e w2 ⟨a2, c2, gs, rfl, k1, k2, hcg, hvg, hlg, hrg, hb2⟩
  have HB2 : Hid (Below w.heap.size w w2) := HB1.out.trans (hb2.mono HB1.out.size)
  have hhead := head_of hcg.1 hvg hD
  clear HD1 HB1 hb2 k2 HV1
  by_cases hgs : gs = []
  · subst hgs
    have hz0 : D = 0 := by rw [← hvg]; rfl
    have HR0 : Hid (rnd (val 4294967296 zs) n = 0) := by
      unfold Hid
      rw [HR.out, hz0, if_neg (by omega)]
      rfl
    clear hcg hvg hrg hhead HR hlg k1
    go_wp2
    refine bodyPost_ret (v := .int .u32 0) (by simp [results, Try.results34, go_sem]) rfl ?_
    exact ⟨by rw [HR0.out], HB2.out⟩
  · obtain ⟨b, off, rfl, hb, hc⟩ := hrg.row.resolve_left hgs
    have hpos := List.length_pos_iff.2 hgs
    have g0 := hc 0 hpos
    rw [hhead, Nat.add_zero] at g0
    have hl0 : ((gs.length : Int) == 0) = false := by rw [beq_eq_false_iff_ne]; omega
    have hl1 : (0 : Int) < (gs.length : Int) := by omega
    have hand := and_one hD0 hD
    have hand2 := and_one (x := D / 2) (by omega) (by omega)
    have HL : Hid (lostB M (2 ^ (n - 1).toNat) = decide (M % 2 ^ (n - 1).toNat ≠ 0)) := rfl
    generalize hlo : lostB M (2 ^ (n - 1).toNat) = lo
    rw [hlo] at HL
    have hwrap : D / 2 + 1 < 4294967296 := by omega
    clear hcg hvg hrg hhead hgs hc hpos hlo
    by_cases hh : D % 2 = 1
    · have hh1 : (D % 2 == 1) = true := by rw [hh]; rfl
      cases lo
      · have hex : ¬ M % 2 ^ (n - 1).toNat ≠ 0 := of_decide_eq_false HL.out.symm
        have HR1 : Hid (rnd (val 4294967296 zs) n = D / 2 + D / 2 % 2) := by
          unfold Hid
          rw [HR.out]
          by_cases hk : D / 2 % 2 = 1
          · rw [if_pos ⟨hh, .inr hk⟩, hk]
          · rw [if_neg (by rintro ⟨_, h | h⟩; exact hex h; exact hk h)]
            omega
        clear hex HL HR
        go_wp2
        go_quiet (fail)
        go_wp2
        go_ret
        exact ⟨by rw [HR1.out]; rfl, below_drewN HB2.out _⟩
      · have hex : M % 2 ^ (n - 1).toNat ≠ 0 := of_decide_eq_true HL.out.symm
        have HR1 : Hid (rnd (val 4294967296 zs) n = D / 2 + 1) := by
          unfold Hid
          rw [HR.out, if_pos ⟨hh, .inl hex⟩]
        clear hex HL HR
        go_wp2
        go_quiet (fail)
        go_wp2
        go_ret
        exact ⟨by rw [HR1.out]; rfl, below_drewN HB2.out _⟩
    · have hh1 : (D % 2 == 1) = false := by rw [beq_eq_false_iff_ne]; exact hh
      have HR1 : Hid (rnd (val 4294967296 zs) n = D / 2) := by
        unfold Hid
        rw [HR.out, if_neg (fun h => hh h.1)]
        omega
      clear HL HR
      go_wp2
      go_quiet (fail)
      go_wp2
      go_ret
      exact ⟨by rw [HR1.out]; rfl, below_drewN HB2.out _⟩

theorem near_any (a : Option Addr) (p : Nat) (zs : List Int) (n : Int) (w : World) (hn : zs.length ≤ 10000) (n0 : -10000 ≤ n) (n1 : n ≤ 900000) (hz : RowAt .u32 w a zs) (hcz : Canon 4294967296 zs)
    (hD : val 4294967296 zs * 2 ^ (1 - n).toNat / 2 ^ (n - 1).toNat < 4294967296) :
    Calls Try.prog 34 #[.slice a zs.length p, .int .i64 n] w fun e w' => e = .returned (.int .u32 (rnd (val 4294967296 zs) n)) ∧ Below w.heap.size w w' := by
  rcases Int.lt_trichotomy n 1 with h | h | h
  · exact near_up a p zs n w hn n0 hz hcz hD (by omega)
  · exact near_one a p zs n w hn hz hcz hD h
  · exact near_down a p zs n w hn n1 hz hcz hD h

end Go.Proofs.Ytladfpljnaippaa

/-
  Plain mathematics: the bits of a float of 32 bits, and the order of two floats.
-/
namespace Go.Proofs.Ytladfpljnaippaa

/-- The value of the bits of a float, as a whole number of the last place of its own. -/
def fMag (b : Int) : Int := if b / 8388608 % 256 = 0 then b % 8388608 else b % 8388608 + 8388608
def fExp (b : Int) : Int := if b / 8388608 % 256 = 0 then 1 else b / 8388608 % 256
def fNum (b : Int) : Int := if 2147483648 ≤ b then -(fMag b) else fMag b
def fFin (b : Int) : Bool := b / 8388608 % 256 != 255
/-- The value in units of 2^-149. -/
def fVal (b : Int) : Int := atK 150 (fNum b) (fExp b - 150)

theorem single_read {b : Int} (h0 : 0 ≤ b) (h1 : b < 4294967296) (hf : fFin b = true) : Ieee.single.read b.toNat = .number (decide (2147483648 ≤ b)) (fMag b).toNat (fExp b - 150) := by
  have hf' : b / 8388608 % 256 ≠ 255 := by simpa [fFin] using hf
  obtain ⟨n, rfl⟩ := Int.eq_ofNat_of_zero_le h0
  have e1 : Ieee.single.signWeight = 2147483648 := by decide
  have e2 : Ieee.single.binade = 8388608 := by decide
  have e3 : Ieee.single.infRung = 2139095040 := by decide
  have e4 : Ieee.single.leastPlace = -149 := by decide
  unfold Ieee.Format.read
  simp only [e1, e2, e3, e4, Int.toNat_natCast]
  have hs : (n / 2147483648 % 2 == 1) = decide ((2147483648 : Int) ≤ (n : Int)) := by
    by_cases h : 2147483648 ≤ n
    · have : n / 2147483648 % 2 = 1 := by omega
      rw [this]
      symm
      simp
      omega
    · have : n / 2147483648 % 2 = 0 := by omega
      rw [this]
      symm
      simp
      omega
  rw [hs]
  by_cases hr : n % 2147483648 < 8388608
  · have hz : (n : Int) / 8388608 % 256 = 0 := by omega
    rw [if_pos hr]
    simp only [fMag, fExp, hz, if_true]
    congr 1
    omega
  · have hz : ¬ ((n : Int) / 8388608 % 256 = 0) := by omega
    rw [if_neg hr, if_pos (by omega)]
    simp only [fMag, fExp, hz, if_false]
    congr 1 <;> omega

theorem fMag_nn {b : Int} (_h0 : 0 ≤ b) : 0 ≤ fMag b := by
  unfold fMag
  split <;> omega

theorem fExp_pos {b : Int} (_h0 : 0 ≤ b) : 1 ≤ fExp b ∧ fExp b ≤ 255 := by
  unfold fExp
  split <;> omega

theorem signed_eq {b : Int} (h0 : 0 ≤ b) (k : Nat) : Ieee.signed (decide (2147483648 ≤ b)) (fMag b).toNat k = fNum b * 2 ^ k := by
  have hm := fMag_nn h0
  have e : (((fMag b).toNat <<< k : Nat) : Int) = fMag b * 2 ^ k := by
    rw [Nat.shiftLeft_eq]
    push_cast
    rw [Int.toNat_of_nonneg hm]
  unfold Ieee.signed fNum
  by_cases h : 2147483648 ≤ b
  · rw [if_pos (by simpa using h), if_pos h, e, Int.neg_mul]
  · rw [if_neg (by simpa using h), if_neg h, e]

theorem single_order {a b : Int} (a0 : 0 ≤ a) (a1 : a < 4294967296) (b0 : 0 ≤ b) (b1 : b < 4294967296) (fa : fFin a = true) (fb : fFin b = true) : Ieee.single.order a.toNat b.toNat = some (compare (fVal a) (fVal b)) := by
  unfold Ieee.Format.order
  rw [single_read a0 a1 fa, single_read b0 b1 fb]
  have ea := fExp_pos a0
  have eb := fExp_pos b0
  simp only [Ieee.Datum.order]
  rw [signed_eq a0, signed_eq b0]
  obtain ⟨m, hm⟩ : ∃ m, m = min (fExp a - 150) (fExp b - 150) := ⟨_, rfl⟩
  rw [← hm]
  have hp : (0 : Int) < 2 ^ (m + 150).toNat := Int.pow_pos (by decide)
  have va : fVal a = fNum a * 2 ^ (fExp a - 150 - m).toNat * 2 ^ (m + 150).toNat := by
    unfold fVal atK
    rw [Int.mul_assoc, ← Int.pow_add, show (fExp a - 150 - m).toNat + (m + 150).toNat = (fExp a - 150 + 150).toNat by omega]
  have vb : fVal b = fNum b * 2 ^ (fExp b - 150 - m).toNat * 2 ^ (m + 150).toNat := by
    unfold fVal atK
    rw [Int.mul_assoc, ← Int.pow_add, show (fExp b - 150 - m).toNat + (m + 150).toNat = (fExp b - 150 + 150).toNat by omega]
  rw [va, vb]
  generalize fNum a * 2 ^ (fExp a - 150 - m).toNat = x
  generalize fNum b * 2 ^ (fExp b - 150 - m).toNat = y
  generalize (2 : Int) ^ (m + 150).toNat = p at hp
  congr 1
  rcases Int.lt_trichotomy x y with h | h | h
  · rw [Int.compare_eq_lt.2 h, Int.compare_eq_lt.2 (Int.mul_lt_mul_of_pos_right h hp)]
  · rw [h, Int.compare_eq_eq.2 rfl, Int.compare_eq_eq.2 rfl]
  · rw [Int.compare_eq_gt.2 h, Int.compare_eq_gt.2 (Int.mul_lt_mul_of_pos_right h hp)]

theorem order_lt {a b : Int} : ((some (compare a b) : Option Ordering) == some .lt) = decide (a < b) := by
  rcases Int.lt_trichotomy a b with h | h | h
  · rw [Int.compare_eq_lt.2 h]; simp [h]
  · subst h; rw [Int.compare_eq_eq.2 rfl]; simp
  · rw [Int.compare_eq_gt.2 h]; simp; omega

theorem order_gt {a b : Int} : ((some (compare a b) : Option Ordering) == some .gt) = decide (b < a) := by
  rcases Int.lt_trichotomy a b with h | h | h
  · rw [Int.compare_eq_lt.2 h]; simp; omega
  · subst h; rw [Int.compare_eq_eq.2 rfl]; simp
  · rw [Int.compare_eq_gt.2 h]; simp [h]

theorem order_self {a : Int} : ((some (compare a a) : Option Ordering) != some .eq) = false := by
  rw [Int.compare_eq_eq.2 rfl]; rfl

end Go.Proofs.Ytladfpljnaippaa
