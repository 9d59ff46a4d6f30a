/-
  The program: m / 2^n, rounded to a whole number.
-/
import Derived.Test.YtfgpknglgbpebadImplU
import Derived.Test.YtfgpknglgbpebadNumR
namespace Go.Proofs.Ytfgpknglgbpebad
open Go.RowKit

theorem and_one {x : Int} (h0 : 0 ≤ x) (h1 : x < 4294967296) : bits .and .u32 x 1 = x % 2 := by
  obtain ⟨n, rfl⟩ := Int.eq_ofNat_of_zero_le h0
  have e2 : (BitVec.ofInt 32 (n : Int) &&& BitVec.ofInt 32 1).toNat = n % 2 := by
    rw [show (1 : Int) = ((1 : Nat) : Int) by rfl, BitVec.toNat_and, BitVec.ofInt_natCast, BitVec.ofInt_natCast, BitVec.toNat_ofNat, BitVec.toNat_ofNat, Nat.mod_eq_of_lt (by omega), Nat.mod_eq_of_lt (by decide)]
    exact Nat.and_two_pow_sub_one_eq_mod n 1
  show IntKind.u32.wrap ((BitVec.ofInt 32 (n : Int) &&& BitVec.ofInt 32 1).toNat : Int) = _
  rw [e2]
  simp only [IntKind.wrap, IntKind.bits, IntKind.signed]
  simp
  omega

theorem head_of {fs : List Int} {D : Int} (hd : Dig 4294967296 fs) (hv : val 4294967296 fs = D) (h : D < 4294967296) : fs.getD 0 0 = D := by
  cases fs with
  | nil => simpa [val] using hv
  | cons z zs =>
    have h1 := val_nonneg (B := 4294967296) (by decide) (hd.drop 1)
    have h2 := hd.at (by decide) 0
    simp only [val, List.drop_one, List.tail_cons, List.getD_cons_zero] at *
    omega

set_option maxHeartbeats 8000000 in
theorem near_up (a : Option Addr) (p : Nat) (zs : List Int) (n : Int) (w : World) (hn : zs.length ≤ 10000) (n0 : -10000 ≤ n) (hz : RowAt .u32 w a zs) (hcz : Canon 4294967296 zs)
    (hD : val 4294967296 zs * 2 ^ (1 - n).toNat / 2 ^ (n - 1).toNat < 4294967296) (hc : n ≤ 0) :
    Calls Try.prog 40 #[.slice a zs.length p, .int .i64 n] w fun e w' => e = .returned (.int .u32 (rnd (val 4294967296 zs) n)) ∧ Below w.heap.size w w' := by
  have hN := val_nonneg (B := 4294967296) (by decide) hcz.1
  have HHU : Hid (Calls Try.prog 72 #[.slice a zs.length p, .int .i64 (1 - n)] w fun e w' => MagOut w (val 4294967296 zs * 2 ^ (1 - n).toNat) (zs.length + (((1 - n) : Int) / 32).toNat + 1) e w') := by
    have HU := upI_any a p zs (1 - n) w (by omega) (by omega) (by omega) hz hcz.1
    have e : ((1 - n) : Int).toNat = (1 - n).toNat := by omega
    unfold Hid
    rw [e] at HU
    exact HU
  have hs1 : (((1 - n) : Int) / 32).toNat ≤ 400 := by omega
  obtain ⟨M, hM⟩ : ∃ M, M = val 4294967296 zs * 2 ^ (1 - n).toNat := ⟨_, rfl⟩
  obtain ⟨D, hDD⟩ : ∃ D, D = M / 2 ^ (n - 1).toNat := ⟨_, rfl⟩
  have hM0 : 0 ≤ M := by rw [hM]; exact Int.mul_nonneg hN (Int.le_of_lt (Int.pow_pos (by decide)))
  have hD0 : 0 ≤ D := by rw [hDD]; exact Int.ediv_nonneg hM0 (Int.le_of_lt (Int.pow_pos (by decide)))
  have HR : Hid (rnd (val 4294967296 zs) n = D / 2 + if D % 2 = 1 ∧ (M % 2 ^ (n - 1).toNat ≠ 0 ∨ D / 2 % 2 = 1) then 1 else 0) := by
    unfold Hid rnd
    rw [← hM, ← hDD]
  rw [← hM, ← hDD] at hD
  rw [← hM] at HHU
  have HDD : Hid (D = M / 2 ^ (n - 1).toNat) := hDD
  clear hN hz hcz hM hDD hM0
  go_enter Try.func40, Try.ntmps40
  go_wp2_with fail
  refine HHU.out.mono ?_
  rintro e w1 ⟨a1, c1, fs, rfl, f1, f2, hcf, hvf, hlf, hrf, hb1⟩
  have HV1 : Hid (val 4294967296 fs = M) := hvf
  have HD1 : Hid (Calls Try.prog 73 #[.slice a1 fs.length c1, .int .i64 (0)] w1 fun e w' => DownI w1 D fs.length (!lostB M (2 ^ (n - 1).toNat)) e w') := by
    have H := downI_any a1 c1 fs (0) w1 (by omega) f1 f2 (by omega) (by omega) hrf.row hcf
    have HX2 : ((0) : Int).toNat = (n - 1).toNat := by omega
    unfold Hid
    rw [HX2, hvf, ← HDD.out] at H
    exact H
  have HB1 : Hid (Below w.heap.size w w1) := hb1
  clear HHU hcf hvf hrf hb1 f2
  go_wp2_with fail
  refine HD1.out.mono ?_
  rintro e w2 ⟨a2, c2, gs, rfl, k1, k2, hcg, hvg, hlg, hrg, hb2⟩
  have HB2 : Hid (Below w.heap.size w w2) := HB1.out.trans (hb2.mono HB1.out.size)
  have hhead := head_of hcg.1 hvg hD
  clear HD1 HB1 hb2 k2 HV1
  by_cases hgs : gs = []
  · subst hgs
    have hz0 : D = 0 := by rw [← hvg]; rfl
    have HR0 : Hid (rnd (val 4294967296 zs) n = 0) := by
      unfold Hid
      rw [HR.out, hz0, if_neg (by omega)]
      rfl
    clear hcg hvg hrg hhead HR hlg k1
    go_wp2
    refine bodyPost_ret (v := .int .u32 0) (by simp [results, Try.results40, go_sem]) rfl ?_
    exact ⟨by rw [HR0.out], HB2.out⟩
  · obtain ⟨b, off, rfl, hb, hc⟩ := hrg.row.resolve_left hgs
    have hpos := List.length_pos_iff.2 hgs
    have g0 := hc 0 hpos
    rw [hhead, Nat.add_zero] at g0
    have hl0 : ((gs.length : Int) == 0) = false := by rw [beq_eq_false_iff_ne]; omega
    have hl1 : (0 : Int) < (gs.length : Int) := by omega
    have hand := and_one hD0 hD
    have hand2 := and_one (x := D / 2) (by omega) (by omega)
    have HL : Hid (lostB M (2 ^ (n - 1).toNat) = decide (M % 2 ^ (n - 1).toNat ≠ 0)) := rfl
    generalize hlo : lostB M (2 ^ (n - 1).toNat) = lo
    rw [hlo] at HL
    have hwrap : D / 2 + 1 < 4294967296 := by omega
    clear hcg hvg hrg hhead hgs hc hpos hlo
    by_cases hh : D % 2 = 1
    · have hh1 : (D % 2 == 1) = true := by rw [hh]; rfl
      cases lo
      · have hex : ¬ M % 2 ^ (n - 1).toNat ≠ 0 := of_decide_eq_false HL.out.symm
        have HR1 : Hid (rnd (val 4294967296 zs) n = D / 2 + D / 2 % 2) := by
          unfold Hid
          rw [HR.out]
          by_cases hk : D / 2 % 2 = 1
          · rw [if_pos ⟨hh, .inr hk⟩, hk]
          · rw [if_neg (by rintro ⟨_, h | h⟩; exact hex h; exact hk h)]
            omega
        clear hex HL HR
        go_wp2
        go_quiet (fail)
        go_wp2
        go_ret
        exact ⟨by rw [HR1.out]; rfl, below_drewN HB2.out _⟩
      · have hex : M % 2 ^ (n - 1).toNat ≠ 0 := of_decide_eq_true HL.out.symm
        have HR1 : Hid (rnd (val 4294967296 zs) n = D / 2 + 1) := by
          unfold Hid
          rw [HR.out, if_pos ⟨hh, .inl hex⟩]
        clear hex HL HR
        go_wp2
        go_quiet (fail)
        go_wp2
        go_ret
        exact ⟨by rw [HR1.out]; rfl, below_drewN HB2.out _⟩
    · have hh1 : (D % 2 == 1) = false := by rw [beq_eq_false_iff_ne]; exact hh
      have HR1 : Hid (rnd (val 4294967296 zs) n = D / 2) := by
        unfold Hid
        rw [HR.out, if_neg (fun h => hh h.1)]
        omega
      clear HL HR
      go_wp2
      go_quiet (fail)
      go_wp2
      go_ret
      exact ⟨by rw [HR1.out]; rfl, below_drewN HB2.out _⟩

set_option maxHeartbeats 8000000 in
theorem near_down (a : Option Addr) (p : Nat) (zs : List Int) (n : Int) (w : World) (hn : zs.length ≤ 10000) (n1 : n ≤ 900000) (hz : RowAt .u32 w a zs) (hcz : Canon 4294967296 zs)
    (hD : val 4294967296 zs * 2 ^ (1 - n).toNat / 2 ^ (n - 1).toNat < 4294967296) (hc : 1 < n) :
    Calls Try.prog 40 #[.slice a zs.length p, .int .i64 n] w fun e w' => e = .returned (.int .u32 (rnd (val 4294967296 zs) n)) ∧ Below w.heap.size w w' := by
  have hN := val_nonneg (B := 4294967296) (by decide) hcz.1
  have HHU : Hid (Calls Try.prog 72 #[.slice a zs.length p, .int .i64 (0)] w fun e w' => MagOut w (val 4294967296 zs * 2 ^ (1 - n).toNat) (zs.length + (((0) : Int) / 32).toNat + 1) e w') := by
    have HU := upI_any a p zs (0) w (by omega) (by omega) (by omega) hz hcz.1
    have e : ((0) : Int).toNat = (1 - n).toNat := by omega
    unfold Hid
    rw [e] at HU
    exact HU
  have hs1 : (((0) : Int) / 32).toNat ≤ 400 := by omega
  obtain ⟨M, hM⟩ : ∃ M, M = val 4294967296 zs * 2 ^ (1 - n).toNat := ⟨_, rfl⟩
  obtain ⟨D, hDD⟩ : ∃ D, D = M / 2 ^ (n - 1).toNat := ⟨_, rfl⟩
  have hM0 : 0 ≤ M := by rw [hM]; exact Int.mul_nonneg hN (Int.le_of_lt (Int.pow_pos (by decide)))
  have hD0 : 0 ≤ D := by rw [hDD]; exact Int.ediv_nonneg hM0 (Int.le_of_lt (Int.pow_pos (by decide)))
  have HR : Hid (rnd (val 4294967296 zs) n = D / 2 + if D % 2 = 1 ∧ (M % 2 ^ (n - 1).toNat ≠ 0 ∨ D / 2 % 2 = 1) then 1 else 0) := by
    unfold Hid rnd
    rw [← hM, ← hDD]
  rw [← hM, ← hDD] at hD
  rw [← hM] at HHU
  have HDD : Hid (D = M / 2 ^ (n - 1).toNat) := hDD
  clear hN hz hcz hM hDD hM0
  go_enter Try.func40, Try.ntmps40
  go_wp2_with fail
  refine HHU.out.mono ?_
  rintro e w1 ⟨a1, c1, fs, rfl, f1, f2, hcf, hvf, hlf, hrf, hb1⟩
  have HV1 : Hid (val 4294967296 fs = M) := hvf
  have HD1 : Hid (Calls Try.prog 73 #[.slice a1 fs.length c1, .int .i64 (n - 1)] w1 fun e w' => DownI w1 D fs.length (!lostB M (2 ^ (n - 1).toNat)) e w') := by
    have H := downI_any a1 c1 fs (n - 1) w1 (by omega) f1 f2 (by omega) (by omega) hrf.row hcf
    have HX2 : ((n - 1) : Int).toNat = (n - 1).toNat := by omega
    unfold Hid
    rw [HX2, hvf, ← HDD.out] at H
    exact H
  have HB1 : Hid (Below w.heap.size w w1) := hb1
  clear HHU hcf hvf hrf hb1 f2
  go_wp2_with fail
  refine HD1.out.mono ?_
  rintro e w2 ⟨a2, c2, gs, rfl, k1, k2, hcg, hvg, hlg, hrg, hb2⟩
  have HB2 : Hid (Below w.heap.size w w2) := HB1.out.trans (hb2.mono HB1.out.size)
  have hhead := head_of hcg.1 hvg hD
  clear HD1 HB1 hb2 k2 HV1
  by_cases hgs : gs = []
  · subst hgs
    have hz0 : D = 0 := by rw [← hvg]; rfl
    have HR0 : Hid (rnd (val 4294967296 zs) n = 0) := by
      unfold Hid
      rw [HR.out, hz0, if_neg (by omega)]
      rfl
    clear hcg hvg hrg hhead HR hlg k1
    go_wp2
    refine bodyPost_ret (v := .int .u32 0) (by simp [results, Try.results40, go_sem]) rfl ?_
    exact ⟨by rw [HR0.out], HB2.out⟩
  · obtain ⟨b, off, rfl, hb, hc⟩ := hrg.row.resolve_left hgs
    have hpos := List.length_pos_iff.2 hgs
    have g0 := hc 0 hpos
    rw [hhead, Nat.add_zero] at g0
    have hl0 : ((gs.length : Int) == 0) = false := by rw [beq_eq_false_iff_ne]; omega
    have hl1 : (0 : Int) < (gs.length : Int) := by omega
    have hand := and_one hD0 hD
    have hand2 := and_one (x := D / 2) (by omega) (by omega)
    have HL : Hid (lostB M (2 ^ (n - 1).toNat) = decide (M % 2 ^ (n - 1).toNat ≠ 0)) := rfl
    generalize hlo : lostB M (2 ^ (n - 1).toNat) = lo
    rw [hlo] at HL
    have hwrap : D / 2 + 1 < 4294967296 := by omega
    clear hcg hvg hrg hhead hgs hc hpos hlo
    by_cases hh : D % 2 = 1
    · have hh1 : (D % 2 == 1) = true := by rw [hh]; rfl
      cases lo
      · have hex : ¬ M % 2 ^ (n - 1).toNat ≠ 0 := of_decide_eq_false HL.out.symm
        have HR1 : Hid (rnd (val 4294967296 zs) n = D / 2 + D / 2 % 2) := by
          unfold Hid
          rw [HR.out]
          by_cases hk : D / 2 % 2 = 1
          · rw [if_pos ⟨hh, .inr hk⟩, hk]
          · rw [if_neg (by rintro ⟨_, h | h⟩; exact hex h; exact hk h)]
            omega
        clear hex HL HR
        go_wp2
        go_quiet (fail)
        go_wp2
        go_ret
        exact ⟨by rw [HR1.out]; rfl, below_drewN HB2.out _⟩
      · have hex : M % 2 ^ (n - 1).toNat ≠ 0 := of_decide_eq_true HL.out.symm
        have HR1 : Hid (rnd (val 4294967296 zs) n = D / 2 + 1) := by
          unfold Hid
          rw [HR.out, if_pos ⟨hh, .inl hex⟩]
        clear hex HL HR
        go_wp2
        go_quiet (fail)
        go_wp2
        go_ret
        exact ⟨by rw [HR1.out]; rfl, below_drewN HB2.out _⟩
    · have hh1 : (D % 2 == 1) = false := by rw [beq_eq_false_iff_ne]; exact hh
      have HR1 : Hid (rnd (val 4294967296 zs) n = D / 2) := by
        unfold Hid
        rw [HR.out, if_neg (fun h => hh h.1)]
        omega
      clear HL HR
      go_wp2
      go_quiet (fail)
      go_wp2
      go_ret
      exact ⟨by rw [HR1.out]; rfl, below_drewN HB2.out _⟩

set_option maxHeartbeats 8000000 in
theorem near_one (a : Option Addr) (p : Nat) (zs : List Int) (n : Int) (w : World) (hn : zs.length ≤ 10000) (hz : RowAt .u32 w a zs) (hcz : Canon 4294967296 zs)
    (hD : val 4294967296 zs * 2 ^ (1 - n).toNat / 2 ^ (n - 1).toNat < 4294967296) (hc : n = 1) :
    Calls Try.prog 40 #[.slice a zs.length p, .int .i64 n] w fun e w' => e = .returned (.int .u32 (rnd (val 4294967296 zs) n)) ∧ Below w.heap.size w w' := by
  have hN := val_nonneg (B := 4294967296) (by decide) hcz.1
  have HHU : Hid (Calls Try.prog 72 #[.slice a zs.length p, .int .i64 (0)] w fun e w' => MagOut w (val 4294967296 zs * 2 ^ (1 - n).toNat) (zs.length + (((0) : Int) / 32).toNat + 1) e w') := by
    have HU := upI_any a p zs (0) w (by omega) (by omega) (by omega) hz hcz.1
    have e : ((0) : Int).toNat = (1 - n).toNat := by omega
    unfold Hid
    rw [e] at HU
    exact HU
  have hs1 : (((0) : Int) / 32).toNat ≤ 400 := by omega
  obtain ⟨M, hM⟩ : ∃ M, M = val 4294967296 zs * 2 ^ (1 - n).toNat := ⟨_, rfl⟩
  obtain ⟨D, hDD⟩ : ∃ D, D = M / 2 ^ (n - 1).toNat := ⟨_, rfl⟩
  have hM0 : 0 ≤ M := by rw [hM]; exact Int.mul_nonneg hN (Int.le_of_lt (Int.pow_pos (by decide)))
  have hD0 : 0 ≤ D := by rw [hDD]; exact Int.ediv_nonneg hM0 (Int.le_of_lt (Int.pow_pos (by decide)))
  have HR : Hid (rnd (val 4294967296 zs) n = D / 2 + if D % 2 = 1 ∧ (M % 2 ^ (n - 1).toNat ≠ 0 ∨ D / 2 % 2 = 1) then 1 else 0) := by
    unfold Hid rnd
    rw [← hM, ← hDD]
  rw [← hM, ← hDD] at hD
  rw [← hM] at HHU
  have HDD : Hid (D = M / 2 ^ (n - 1).toNat) := hDD
  clear hN hz hcz hM hDD hM0
  go_enter Try.func40, Try.ntmps40
  go_wp2_with fail
  refine HHU.out.mono ?_
  rintro e w1 ⟨a1, c1, fs, rfl, f1, f2, hcf, hvf, hlf, hrf, hb1⟩
  have HV1 : Hid (val 4294967296 fs = M) := hvf
  have HD1 : Hid (Calls Try.prog 73 #[.slice a1 fs.length c1, .int .i64 (0)] w1 fun e w' => DownI w1 D fs.length (!lostB M (2 ^ (n - 1).toNat)) e w') := by
    have H := downI_any a1 c1 fs (0) w1 (by omega) f1 f2 (by omega) (by omega) hrf.row hcf
    have HX2 : ((0) : Int).toNat = (n - 1).toNat := by omega
    unfold Hid
    rw [HX2, hvf, ← HDD.out] at H
    exact H
  have HB1 : Hid (Below w.heap.size w w1) := hb1
  clear HHU hcf hvf hrf hb1 f2
  go_wp2_with fail
  refine HD1.out.mono ?_
  rintro e w2 ⟨a2, c2, gs, rfl, k1, k2, hcg, hvg, hlg, hrg, hb2⟩
  have HB2 : Hid (Below w.heap.size w w2) := HB1.out.trans (hb2.mono HB1.out.size)
  have hhead := head_of hcg.1 hvg hD
  clear HD1 HB1 hb2 k2 HV1
  by_cases hgs : gs = []
  · subst hgs
    have hz0 : D = 0 := by rw [← hvg]; rfl
    have HR0 : Hid (rnd (val 4294967296 zs) n = 0) := by
      unfold Hid
      rw [HR.out, hz0, if_neg (by omega)]
      rfl
    clear hcg hvg hrg hhead HR hlg k1
    go_wp2
    refine bodyPost_ret (v := .int .u32 0) (by simp [results, Try.results40, go_sem]) rfl ?_
    exact ⟨by rw [HR0.out], HB2.out⟩
  · obtain ⟨b, off, rfl, hb, hc⟩ := hrg.row.resolve_left hgs
    have hpos := List.length_pos_iff.2 hgs
    have g0 := hc 0 hpos
    rw [hhead, Nat.add_zero] at g0
    have hl0 : ((gs.length : Int) == 0) = false := by rw [beq_eq_false_iff_ne]; omega
    have hl1 : (0 : Int) < (gs.length : Int) := by omega
    have hand := and_one hD0 hD
    have hand2 := and_one (x := D / 2) (by omega) (by omega)
    have HL : Hid (lostB M (2 ^ (n - 1).toNat) = decide (M % 2 ^ (n - 1).toNat ≠ 0)) := rfl
    generalize hlo : lostB M (2 ^ (n - 1).toNat) = lo
    rw [hlo] at HL
    have hwrap : D / 2 + 1 < 4294967296 := by omega
    clear hcg hvg hrg hhead hgs hc hpos hlo
    by_cases hh : D % 2 = 1
    · have hh1 : (D % 2 == 1) = true := by rw [hh]; rfl
      cases lo
      · have hex : ¬ M % 2 ^ (n - 1).toNat ≠ 0 := of_decide_eq_false HL.out.symm
        have HR1 : Hid (rnd (val 4294967296 zs) n = D / 2 + D / 2 % 2) := by
          unfold Hid
          rw [HR.out]
          by_cases hk : D / 2 % 2 = 1
          · rw [if_pos ⟨hh, .inr hk⟩, hk]
          · rw [if_neg (by rintro ⟨_, h | h⟩; exact hex h; exact hk h)]
            omega
        clear hex HL HR
        go_wp2
        go_quiet (fail)
        go_wp2
        go_ret
        exact ⟨by rw [HR1.out]; rfl, below_drewN HB2.out _⟩
      · have hex : M % 2 ^ (n - 1).toNat ≠ 0 := of_decide_eq_true HL.out.symm
        have HR1 : Hid (rnd (val 4294967296 zs) n = D / 2 + 1) := by
          unfold Hid
          rw [HR.out, if_pos ⟨hh, .inl hex⟩]
        clear hex HL HR
        go_wp2
        go_quiet (fail)
        go_wp2
        go_ret
        exact ⟨by rw [HR1.out]; rfl, below_drewN HB2.out _⟩
    · have hh1 : (D % 2 == 1) = false := by rw [beq_eq_false_iff_ne]; exact hh
      have HR1 : Hid (rnd (val 4294967296 zs) n = D / 2) := by
        unfold Hid
        rw [HR.out, if_neg (fun h => hh h.1)]
        omega
      clear HL HR
      go_wp2
      go_quiet (fail)
      go_wp2
      go_ret
      exact ⟨by rw [HR1.out]; rfl, below_drewN HB2.out _⟩

theorem near_any (a : Option Addr) (p : Nat) (zs : List Int) (n : Int) (w : World) (hn : zs.length ≤ 10000) (n0 : -10000 ≤ n) (n1 : n ≤ 900000) (hz : RowAt .u32 w a zs) (hcz : Canon 4294967296 zs)
    (hD : val 4294967296 zs * 2 ^ (1 - n).toNat / 2 ^ (n - 1).toNat < 4294967296) :
    Calls Try.prog 40 #[.slice a zs.length p, .int .i64 n] w fun e w' => e = .returned (.int .u32 (rnd (val 4294967296 zs) n)) ∧ Below w.heap.size w w' := by
  rcases Int.lt_trichotomy n 1 with h | h | h
  · exact near_up a p zs n w hn n0 hz hcz hD (by omega)
  · exact near_one a p zs n w hn hz hcz hD h
  · exact near_down a p zs n w hn n1 hz hcz hD h

end Go.Proofs.Ytfgpknglgbpebad
