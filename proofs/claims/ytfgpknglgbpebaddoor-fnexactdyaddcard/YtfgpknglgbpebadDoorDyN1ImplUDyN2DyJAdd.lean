/-
  The program: the zeros below the lowest bit that is set.
-/
import Derived.Test.YtfgpknglgbpebadDoorTz
import Derived.Test.YtfgpknglgbpebadDoorNum
import Derived.Test.YtfgpknglgbpebadDoorSpecD
import Derived.Test.YtfgpknglgbpebadDoorImplS
import Derived.Test.YtfgpknglgbpebadDoorNumWNumYNumNDyO
import Derived.Test.YtfgpknglgbpebadDoorDyI5DyI6aDyI8p
import Derived.Test.YtfgpknglgbpebadDoorDy3hDySAdd
namespace Go.Proofs.YtfgpknglgbpebadDoor
open Go.RowKit

set_option maxHeartbeats 2000000 in
theorem lowZ_any (a : Option Addr) (c : Nat) (zs : List Int) (w : World) (hn : zs.length ≤ 100000) (hz : RowAt .u32 w a zs) (hcz : Canon 4294967296 zs) (hne : zs ≠ []) (hT : Tab w) :
    Calls Tryd.prog 35 #[.slice a zs.length c] w fun e w' => ∃ t : Nat, e = .returned (.int .i64 t) ∧ t ≤ 32 * zs.length ∧ Twos (val 4294967296 zs) t ∧ Below w.heap.size w w' := by
  have HP : Hid (0 < val 4294967296 zs) := val_pos (B := 4294967296) (by decide) hcz hne
  have HD : Hid (Dig 4294967296 zs) := hcz.1
  obtain ⟨b, off, rfl, hb, hc⟩ := hz.resolve_left hne
  have HC : Hid (∀ j, j < zs.length → w.cell? ⟨b, off + j, none⟩ = some (.int .u32 (zs.getD j 0))) := hc
  have HT : Hid (Tab w) := hT
  have hlen : zs.length ≠ 0 := fun e => hne (List.length_eq_zero_iff.1 e)
  clear hz hcz hne hc hT hb
  go_enter Tryd.func35, Tryd.ntmps35
  go_wp2
  go_loop [3, 4, 7] (fun _ _ i => ∃ j : Nat, j < zs.length ∧ i = .int .i64 j ∧ Hid (anyN (zs.take j) = false)) (fun _ _ i => zs.length - (intOf i).toNat)
  case atStart => exact ⟨0, by omega, rfl, rfl⟩
  case round =>
    obtain ⟨j, hj, rfl, hany⟩ := hrel
    have g1 := HC.out j hj
    have hst := anyN_take hj
    obtain ⟨y, hy⟩ : ∃ y, y = zs.getD j 0 := ⟨_, rfl⟩
    have hyb := HD.out.at (by decide) j
    rw [← hy] at g1 hst hyb
    have hji : (j : Int) < zs.length := by omega
    by_cases hy0 : y = 0
    · have hany2 : anyN (zs.take (j + 1)) = false := by rw [hst, hany.out, hy0]; rfl
      have hj2 : j + 1 < zs.length := by
        by_cases hp : j + 1 < zs.length
        · exact hp
        · have : zs.take (j + 1) = zs := List.take_of_length_le (by omega)
          rw [this, anyN_false (B := 4294967296) (by decide) HD.out] at hany2
          have := HP.out
          omega
      have HA : Hid (anyN (zs.take (j + 1)) = false) := hany2
      subst hy0
      clear hst hany hany2 hy
      go_wp2
      go_round
      case rel => exact ⟨j + 1, hj2, by go_num, HA⟩
      case measure => simp [intOf]; omega
    · have hy1 : (y != 0) = true := by rw [bne_iff_ne]; exact hy0
      have HV0 : Hid (val 4294967296 (zs.take j) = 0) := (anyN_false (B := 4294967296) (by decide) (HD.out.take j)).1 hany.out
      have HY : Hid (y = zs.getD j 0) := hy
      obtain ⟨hyb0, hyb1⟩ := hyb
      clear hst hany hy
      go_wp2_with fail
      refine (tz_any y _ (by omega) hyb1 HT.out).mono ?_
      rintro e w1 ⟨t, rfl, ht, ⟨q, hq, ho⟩, hb1⟩
      have HT2 : Hid (Twos (val 4294967296 zs) (32 * j + t)) := twos_of (b := 32) hj HV0.out (by rw [← HY.out]; exact hq) ho ht
      have HB : Hid (Below w.heap.size w w1) := hb1
      have ht' : (t : Int) < 32 := by omega
      clear hb1 hq ho
      go_wp2
      refine bodyPost_ret (v := .int .i64 (32 * (j : Int) + t)) (by simp [results, Tryd.results35, go_sem]) rfl ?_
      exact ⟨32 * j + t, by simp, by omega, HT2.out, HB.out⟩

end Go.Proofs.YtfgpknglgbpebadDoor

/-
  The program's shifts down.
-/
namespace Go.Proofs.YtfgpknglgbpebadDoor
open Go.RowKit

/-- A magnitude in new memory, and whether nothing was cut off. -/
def DownI (w : World) (v : Int) (n : Nat) (ex : Bool) (e : Ending) (w' : World) : Prop :=
  ∃ (a : Option Addr) (c : Nat) (fs : List Int), e = .returned (.tuple #[.slice a fs.length c, .bool ex]) ∧ fs.length ≤ c ∧ c ≤ maxLen ∧ Canon 4294967296 fs ∧ val 4294967296 fs = v ∧ fs.length ≤ n ∧ RowNew .u32 w' w.heap.size a fs ∧ Below w.heap.size w w'

theorem cut_all32 {ds : List Int} {n : Int} (hd : Canon 4294967296 ds) (n0 : 0 ≤ n) (h : (ds.length : Int) ≤ n / 32) : val 4294967296 ds / 2 ^ n.toNat = 0 ∧ lostB (val 4294967296 ds) (2 ^ n.toNat) = !decide (ds.length = 0) := by
  have h0 := val_nonneg (B := 4294967296) (by decide) hd.1
  have h1 := val_lt_pow (B := 4294967296) (by decide) hd.1
  have h2 : (4294967296 : Int) ^ ds.length ≤ 2 ^ n.toNat := by
    rw [show (4294967296 : Int) = 2 ^ 32 from rfl, ← Int.pow_mul]
    exact two_pow_le (by omega)
  refine ⟨Int.ediv_eq_zero_of_lt h0 (by omega), ?_⟩
  unfold lostB
  rw [Int.emod_eq_of_lt h0 (by omega)]
  by_cases e : ds.length = 0
  · have : ds = [] := List.length_eq_zero_iff.1 e
    subst this
    simp [val]
  · have := val_pos (B := 4294967296) (by decide) hd (fun h => e (by rw [h]; rfl))
    simp [e]
    omega

theorem cut_some32 {ds : List Int} {n : Int} (hd : Dig 4294967296 ds) (n0 : 0 ≤ n) (h : n / 32 < (ds.length : Int)) : val 4294967296 (downL 4294967296 (2 ^ (n % 32).toNat) (ds.drop (n / 32).toNat)) = val 4294967296 ds / 2 ^ n.toNat ∧ (lostB (val 4294967296 ds) (2 ^ n.toNat) = false ↔ (trimL (ds.take (n / 32).toNat) = [] ∧ ds.getD (n / 32).toNat 0 % 2 ^ (n % 32).toNat = 0)) := by
  obtain ⟨e1, e2⟩ := two32r n
  obtain ⟨e4, _⟩ := two32 n
  have hs : (n / 32).toNat ≤ ds.length := by omega
  rw [← pow32 n n0]
  refine ⟨val_cut e1 e4 e2 (by decide) hd hs, ?_⟩
  unfold lostB
  rw [decide_eq_false_iff_not, Decidable.not_not, cut_exact e4 ⟨_, e1⟩ (by decide) hd hs, trim_anyN]
  have h2 := anyN_val (B := 4294967296) (by decide) (hd.take (n / 32).toNat)
  by_cases h3 : val 4294967296 (ds.take (n / 32).toNat) = 0
  · have : anyN (ds.take (n / 32).toNat) = false := by
      cases h4 : anyN (ds.take (n / 32).toNat)
      · rfl
      · exact absurd h3 (h2.1 h4)
    simp [h3, this]
  · have : anyN (ds.take (n / 32).toNat) = true := h2.2 h3
    simp [h3, this]

/-- Shifted down and up again: nothing was lost, or it is less. -/
theorem back_eq {y q : Int} (_hq : 0 < q) : (y / q * q == y) = decide (y % q = 0) := by
  have h := Int.mul_ediv_add_emod y q
  rw [Int.mul_comm q] at h
  by_cases h0 : y % q = 0
  · rw [decide_eq_true h0, beq_iff_eq]; omega
  · rw [decide_eq_false h0, beq_eq_false_iff_ne]; omega

theorem or_high {y x : Int} (hy0 : 0 ≤ y) (hy1 : y < 4294967296) (hx0 : 0 ≤ x) (hx1 : x < 4294967296) : bits .or .u64 x (y * 4294967296) = x + 4294967296 * y := by
  obtain ⟨a, rfl⟩ := Int.eq_ofNat_of_zero_le hy0
  obtain ⟨b, rfl⟩ := Int.eq_ofNat_of_zero_le hx0
  have h := bits_or_u64_nat b (4294967296 * a) (by omega) (by omega)
  have h2 := Nat.two_pow_add_eq_or_of_lt (i := 32) (b := b) (by omega) a
  rw [show (a : Int) * 4294967296 = ((4294967296 * a : Nat) : Int) by omega, h, Nat.or_comm]
  have h3 : (4294967296 * a ||| b : Nat) = 4294967296 * a + b := h2.symm
  rw [h3]
  omega

set_option maxHeartbeats 400000 in
/-- trimmed, of a row that is read alone: where all is zero. -/
theorem trimR_nil (a : Option Addr) (c : Nat) (ds : List Int) (w : World) (hn : ds.length ≤ 1048576) (hz : RowAt .u32 w a ds) (ht0 : trimL ds = []) :
    Calls Tryd.prog 50 #[.slice a ds.length c] w fun e w' => e = .returned (.slice none 0 0) ∧ w' = w := by
  go_enter Tryd.func50, Tryd.ntmps50
  go_wp2
  go_loop [3] (fun i => ∃ m : Nat, m ≤ ds.length ∧ i = .int .i64 m ∧ Hid (trimL (ds.take m) = [])) (fun i => (intOf i).toNat)
  case atStart => exact ⟨ds.length, by omega, rfl, by unfold Hid; rw [List.take_length]; exact ht0⟩
  case round =>
    obtain ⟨m, hk, rfl, ht⟩ := hrel
    by_cases h0 : m = 0
    · subst h0
      go_wp2
      go_ret
      exact ⟨rfl, rfl⟩
    · obtain ⟨m, rfl⟩ : ∃ m', m = m' + 1 := ⟨m - 1, by omega⟩
      obtain ⟨b, off, rfl, g⟩ := row_cell hz (Below.refl _ _) (show m < ds.length by omega)
      have hz0 : ds.getD m 0 = 0 := by
        by_cases h : ds.getD m 0 = 0
        · exact h
        · have := trim_take_stop hk h
          rw [ht.out] at this
          have h2 := congrArg List.length this
          simp at h2
          omega
      rw [hz0] at g
      have HT : Hid (trimL (ds.take m) = []) := by unfold Hid; rw [← trim_take_step hk hz0]; exact ht.out
      clear ht hz0 ht0
      go_wp2
      go_round
      case rel => exact ⟨m, by omega, by go_num, HT⟩
      case measure => simp [intOf]

set_option maxHeartbeats 400000 in
/-- .. where not all is zero. -/
theorem trimR_cons (a : Option Addr) (c : Nat) (ds : List Int) (w : World) (_hn : ds.length ≤ 1048576) (hm : c ≤ maxLen) (hf : ds.length ≤ c) (hz : RowAt .u32 w a ds) (ht0 : trimL ds ≠ []) :
    Calls Tryd.prog 50 #[.slice a ds.length c] w fun e w' => e = .returned (.slice a (trimL ds).length c) ∧ w' = w := by
  unfold maxLen at hm
  have hne : ds ≠ [] := fun e => ht0 (by rw [e]; rfl)
  obtain ⟨b, off, rfl, hb, hc⟩ := hz.resolve_left hne
  go_enter Tryd.func50, Tryd.ntmps50
  go_wp2
  go_loop [3] (fun i => ∃ m : Nat, m ≤ ds.length ∧ i = .int .i64 m ∧ Hid (trimL (ds.take m) = trimL ds)) (fun i => (intOf i).toNat)
  case atStart => exact ⟨ds.length, by omega, rfl, by unfold Hid; rw [List.take_length]⟩
  case round =>
    obtain ⟨m, hk, rfl, ht⟩ := hrel
    by_cases h0 : m = 0
    · subst h0
      exact absurd (by rw [← ht.out]; simp [trimL]) ht0
    · obtain ⟨m, rfl⟩ : ∃ m', m = m' + 1 := ⟨m - 1, by omega⟩
      have g := hc m (by omega)
      have hm0 : ((m : Int) + 1 == 0) = false := by rw [beq_eq_false_iff_ne]; omega
      obtain ⟨y, hy⟩ : ∃ y, y = ds.getD m 0 := ⟨_, rfl⟩
      rw [← hy] at g
      by_cases hz0 : y = 0
      · have HT : Hid (trimL (ds.take m) = trimL ds) := by unfold Hid; rw [← trim_take_step hk (by rw [← hy]; exact hz0)]; exact ht.out
        subst hz0
        clear ht ht0 hc hy hne
        go_wp2
        go_round
        case rel => exact ⟨m, by omega, by go_num, HT⟩
        case measure => simp [intOf]
      · have hst := trim_take_stop hk (by rw [← hy]; exact hz0)
        rw [ht.out] at hst
        have HL : Hid ((trimL ds).length = m + 1) := by unfold Hid; rw [hst, List.length_take]; omega
        have hz1 : (y == 0) = false := by rw [beq_eq_false_iff_ne]; exact hz0
        clear ht ht0 hc hy hne hst
        go_wp2
        go_ret
        rw [HL.out]
        exact ⟨rfl, rfl⟩

theorem trimR_nil' (a : Option Addr) (c : Nat) (ds : List Int) (m : Nat) (w : World) (hm : ds.length = m) (hn : m ≤ 1048576) (hz : RowAt .u32 w a ds) (ht0 : trimL ds = []) :
    Calls Tryd.prog 50 #[.slice a m c] w fun e w' => e = .returned (.slice none 0 0) ∧ w' = w := by
  subst hm
  exact trimR_nil a c ds w hn hz ht0

theorem trimR_cons' (a : Option Addr) (c : Nat) (ds : List Int) (m : Nat) (w : World) (hl : ds.length = m) (hn : m ≤ 1048576) (hm : c ≤ maxLen) (hf : m ≤ c) (hz : RowAt .u32 w a ds) (ht0 : trimL ds ≠ []) :
    Calls Tryd.prog 50 #[.slice a m c] w fun e w' => e = .returned (.slice a (trimL ds).length c) ∧ w' = w := by
  subst hl
  exact trimR_cons a c ds w hn hm hf hz ht0

theorem drewN_below (w : World) (n : Nat) : Below w.heap.size w (w.drewN n) := below_drewN (Below.refl _ _) _

set_option maxHeartbeats 4000000 in
theorem downI_any (a : Option Addr) (p : Nat) (zs : List Int) (n : Int) (w : World) (hn : zs.length ≤ 100000) (hp : zs.length ≤ p) (hpm : p ≤ maxLen) (n0 : 0 ≤ n) (n1 : n ≤ 1000000) (hz : RowAt .u32 w a zs) (hcz : Canon 4294967296 zs) :
    Calls Tryd.prog 36 #[.slice a zs.length p, .int .i64 n] w fun e w' => DownI w (val 4294967296 zs / 2 ^ n.toNat) zs.length (!lostB (val 4294967296 zs) (2 ^ n.toNat)) e w' := by
  obtain ⟨q0, q1⟩ := two32 n
  obtain ⟨s, hs⟩ : ∃ s : Nat, n / 32 = (s : Int) := ⟨(n / 32).toNat, by omega⟩
  have hss : (n / 32).toNat = s := by omega
  have hdz := hcz.1
  unfold maxLen at hpm
  by_cases hA : (zs.length : Int) ≤ n / 32
  · obtain ⟨c1, c2⟩ := cut_all32 hcz n0 hA
    have HM : Hid (DownI w (val 4294967296 zs / 2 ^ n.toNat) zs.length (!lostB (val 4294967296 zs) (2 ^ n.toNat)) (.returned (.tuple #[.slice none 0 0, .bool ((zs.length : Int) == 0)])) w) := by
      unfold Hid
      rw [c1, c2]
      refine ⟨none, 0, [], ?_, by simp, by unfold maxLen; omega, ⟨Dig.nil _, rfl⟩, rfl, by simp, .inl rfl, Below.refl _ _⟩
      by_cases h : zs.length = 0
      · simp [h]
      · simp [h]
    rw [hs] at hA
    clear c1 c2 hdz hcz hz hss
    go_enter Tryd.func36, Tryd.ntmps36
    go_wp2
    refine bodyPost_ret (v := .tuple #[.slice none 0 0, .bool ((zs.length : Int) == 0)]) (by simp [results, Tryd.results36, go_sem]) rfl ?_
    exact HM.out
  · have hlt : s < zs.length := by omega
    obtain ⟨c1, c2⟩ := cut_some32 hdz n0 (by omega)
    rw [hss] at c1 c2
    obtain ⟨b, off, rfl, hb, hc⟩ := hz.resolve_left (by intro e; rw [e] at hlt; simp at hlt)
    have hmk := run_make_row' (P := Tryd.prog) 63 74 (.int .u32 0) 4 Tryd.underlying63 Tryd.info74 rfl .i64 .i64 (zs.length - s) (by omega) (by omega)
    have hy := hdz.at (by decide) s
    obtain ⟨y, hyy⟩ : ∃ y, y = zs.getD s 0 := ⟨_, rfl⟩
    rw [← hyy] at hy c2
    have g0 := hc s hlt
    rw [← hyy] at g0
    obtain ⟨hy0, hy1⟩ := hy
    have hd0 : 0 ≤ y / 2 ^ (n % 32).toNat := Int.ediv_nonneg hy0 (by omega)
    have hd1 : y / 2 ^ (n % 32).toNat * 2 ^ (n % 32).toNat ≤ y := Int.ediv_mul_le _ (by omega)
    have hd2 : 0 ≤ y / 2 ^ (n % 32).toNat * 2 ^ (n % 32).toNat := Int.mul_nonneg hd0 (by omega)
    have HC1 : Hid (val 4294967296 (downL 4294967296 (2 ^ (n % 32).toNat) (zs.drop s)) = val 4294967296 zs / 2 ^ n.toNat) := c1
    have HC2 : Hid (lostB (val 4294967296 zs) (2 ^ n.toNat) = false ↔ (trimL (zs.take s) = [] ∧ y % 2 ^ (n % 32).toNat = 0)) := c2
    have HDZ : Hid (Dig 4294967296 zs) := hdz
    have HZ : Hid (RowAt .u32 w (some ⟨b, off, none⟩) zs) := hz
    have HZ2 : Hid (RowAt .u32 w (some ⟨b, off, none⟩) (zs.take s)) := hz.take s
    have hts : (zs.take s).length = s := by rw [List.length_take]; omega
    have HTS : Hid ((zs.take s).length = s) := hts
    have hsl : (s : Int) < zs.length := by omega
    have hsp : (s : Int) ≤ p := by omega
    clear c1 c2 hdz hcz hz hss hA hyy hts hc
    by_cases ht : trimL (zs.take s) = []
    · have HT : Hid (trimL (zs.take s) = []) := ht
      have HEX : Hid ((y / 2 ^ (n % 32).toNat * 2 ^ (n % 32).toNat == y) = !lostB (val 4294967296 zs) (2 ^ n.toNat)) := by
        unfold Hid
        rw [back_eq q0]
        have h := HC2.out
        cases hl : lostB (val 4294967296 zs) (2 ^ n.toNat)
        · rw [decide_eq_true (h.1 hl).2]; rfl
        · rw [hl] at h
          rw [decide_eq_false (fun e => by have := h.2 ⟨ht, e⟩; cases this)]
          rfl
      clear ht
      go_enter Tryd.func36, Tryd.ntmps36
      go_wp2
      rw [hs]
      go_quiet (first | (go_at_call 50; refine Calls.quiet_of_same (trimR_nil' (some ⟨b, off, none⟩) p (zs.take s) s _ HTS.out (by omega) (HZ2.out.later (drewN_below _ _)) HT.out)))
      go_wp2
      go_loopw [52] (fun t wr => ∃ (k : Nat) (D : List Int), k ≤ zs.length - s ∧ D.length = k ∧ t = .int .i64 k ∧ Hid (downL 4294967296 (2 ^ (n % 32).toNat) (zs.drop s) = D ++ downL 4294967296 (2 ^ (n % 32).toNat) (zs.drop (s + k))) ∧
          Own .u32 wr w.heap.size 0 (D ++ List.replicate (zs.length - s - k) 0) ∧ Below w.heap.size w wr) (fun t _ => zs.length - s - (intOf t).toNat)
      case atStart =>
        refine ⟨0, [], Nat.zero_le _, rfl, rfl, rfl, ?_, ?_⟩
        · have := Own.made (k := .u32) (w.drewN nq) (zs.length - s) 74
          simpa using this
        · exact (drewN_below _ _).trans (by simpa using bel0 (w.drewN nq) _)
      case round =>
        obtain ⟨k, D, hk, hDl, rfl, hD, hown, hnx⟩ := hrel
        by_cases hlt2 : k < zs.length - s
        · have hk1 : s + k < zs.length := by omega
          have hb1 := HDZ.out.at (by decide) (s + k)
          have hb2 := HDZ.out.at (by decide) (s + k + 1)
          obtain ⟨b1, off1, hbb, g1⟩ := row_cell HZ.out hnx hk1
          have hbe : b1 = b ∧ off1 = off := by
            have h3 := Option.some.inj hbb
            exact ⟨(congrArg Addr.block h3).symm, (congrArg Addr.off h3).symm⟩
          obtain ⟨rfl, rfl⟩ := hbe
          have hst := down_drop (B := 4294967296) (q := 2 ^ (n % 32).toNat) hk1
          obtain ⟨x, hx⟩ : ∃ x, x = zs.getD (s + k) 0 := ⟨_, rfl⟩
          obtain ⟨x', hx'⟩ : ∃ x', x' = zs.getD (s + k + 1) 0 := ⟨_, rfl⟩
          rw [← hx] at hb1 g1 hst
          rw [← hx'] at hb2 hst
          rw [← Nat.add_assoc] at g1
          obtain ⟨hb10, hb11⟩ := hb1
          obtain ⟨hb20, hb21⟩ := hb2
          have g3 := hown.cell k (by simp; omega)
          have g4 := hown.free k (by simp; omega)
          rw [Nat.zero_add] at g3 g4
          by_cases h2 : k + 1 < zs.length - s
          · obtain ⟨b2, off2, hbb2, g2⟩ := row_cell HZ.out hnx (show s + k + 1 < zs.length by omega)
            have hbe2 : b2 = b1 ∧ off2 = off1 := by
              have h3 := Option.some.inj hbb2
              exact ⟨(congrArg Addr.block h3).symm, (congrArg Addr.off h3).symm⟩
            obtain ⟨rfl, rfl⟩ := hbe2
            rw [← hx', show off2 + (s + k + 1) = off2 + s + (k + 1) by omega] at g2
            have hor := or_high hb20 hb21 hb10 hb11
            have hw0 : 0 ≤ x + 4294967296 * x' := by omega
            have hw1 : x + 4294967296 * x' ≤ 18446744073709551615 := by omega
            have hw2 : 0 ≤ (x + 4294967296 * x') / 2 ^ (n % 32).toNat := Int.ediv_nonneg hw0 (by omega)
            have hs1 := hown.set k ((x + 4294967296 * x') / 2 ^ (n % 32).toNat % 4294967296) (by simp; omega)
            rw [Nat.zero_add, show zs.length - s - k = (zs.length - s - (k + 1)) + 1 by omega, List.replicate_succ, set_mid hDl] at hs1
            have HS : Hid (Own .u32 (wr.setCell ⟨w.heap.size, k, none⟩ (.int .u32 ((x + 4294967296 * x') / 2 ^ (n % 32).toNat % 4294967296))) w.heap.size 0 ((D ++ [(x + 4294967296 * x') / 2 ^ (n % 32).toNat % 4294967296]) ++ List.replicate (zs.length - s - (k + 1)) 0)) := by unfold Hid; simpa using hs1
            have HB : Hid (Below w.heap.size w (wr.setCell ⟨w.heap.size, k, none⟩ (.int .u32 ((x + 4294967296 * x') / 2 ^ (n % 32).toNat % 4294967296)))) := hnx.setCell (Nat.le_refl _) _
            have HD : Hid (downL 4294967296 (2 ^ (n % 32).toNat) (zs.drop s) = (D ++ [(x + 4294967296 * x') / 2 ^ (n % 32).toNat % 4294967296]) ++ downL 4294967296 (2 ^ (n % 32).toNat) (zs.drop (s + (k + 1)))) := by unfold Hid; rw [hD.out, hst]; simp [Nat.add_assoc]
            have HL : Hid (D.length = k) := hDl
            clear hst hx hx' hD hown hnx hs1 hbb hbb2 hDl hd0 hd1 hd2 g0
            go_wp2
            go_roundw
            case rel => exact ⟨k + 1, D ++ [(x + 4294967296 * x') / 2 ^ (n % 32).toNat % 4294967296], by omega, by rw [List.length_append, HL.out]; rfl, by go_num, HD, HS.out, HB.out⟩
            case measure => simp [intOf]; omega
          · have hx0 : x' = 0 := by rw [hx']; exact getD_out (by omega)
            have hq1 : 0 ≤ x / 2 ^ (n % 32).toNat := Int.ediv_nonneg hb10 (by omega)
            have hq2 : x / 2 ^ (n % 32).toNat ≤ x := Int.ediv_le_self _ hb10
            have hq3 : x / 2 ^ (n % 32).toNat ≤ 4294967295 := by omega
            rw [hx0, Int.mul_zero, Int.add_zero, Int.emod_eq_of_lt hq1 (by omega)] at hst
            have hs1 := hown.set k (x / 2 ^ (n % 32).toNat) (by simp; omega)
            rw [Nat.zero_add, show zs.length - s - k = (zs.length - s - (k + 1)) + 1 by omega, List.replicate_succ, set_mid hDl] at hs1
            have HS : Hid (Own .u32 (wr.setCell ⟨w.heap.size, k, none⟩ (.int .u32 (x / 2 ^ (n % 32).toNat))) w.heap.size 0 ((D ++ [x / 2 ^ (n % 32).toNat]) ++ List.replicate (zs.length - s - (k + 1)) 0)) := by unfold Hid; simpa using hs1
            have HB : Hid (Below w.heap.size w (wr.setCell ⟨w.heap.size, k, none⟩ (.int .u32 (x / 2 ^ (n % 32).toNat)))) := hnx.setCell (Nat.le_refl _) _
            have HD : Hid (downL 4294967296 (2 ^ (n % 32).toNat) (zs.drop s) = (D ++ [x / 2 ^ (n % 32).toNat]) ++ downL 4294967296 (2 ^ (n % 32).toNat) (zs.drop (s + (k + 1)))) := by unfold Hid; rw [hD.out, hst]; simp [Nat.add_assoc]
            have HL : Hid (D.length = k) := hDl
            clear hst hx hx' hx0 hb20 hb21 hD hown hnx hs1 hbb hDl hd0 hd1 hd2 g0
            go_wp2
            go_roundw
            case rel => exact ⟨k + 1, D ++ [x / 2 ^ (n % 32).toNat], by omega, by rw [List.length_append, HL.out]; rfl, by go_num, HD, HS.out, HB.out⟩
            case measure => simp [intOf]; omega
        · have hkn : k = zs.length - s := by omega
          subst hkn
          have hDD : downL 4294967296 (2 ^ (n % 32).toNat) (zs.drop s) = D := by
            rw [hD.out, List.drop_eq_nil_of_le (by omega)]; simp [downL]
          have hown' : Own .u32 wr w.heap.size 0 D := by simpa using hown
          have HVV : Hid (val 4294967296 D = val 4294967296 zs / 2 ^ n.toNat) := by unfold Hid; rw [← hDD]; exact HC1.out
          have HG : Hid (Dig 4294967296 D) := by unfold Hid; rw [← hDD]; exact dig_down (by decide) _ _
          have HS : Hid (Own .u32 wr w.heap.size 0 D) := hown'
          have HB : Hid (Below w.heap.size w wr) := hnx
          have HLR : Hid (zs.length - s = D.length) := hDl.symm
          clear hown' hDD hD hown hnx hDl g0 hd0 hd1 hd2
          go_wp2_with fail
          rw [HLR.out]
          have e1 := HLR.out
          refine (trimmed_any _ _ D _ w.heap.size (by rw [← e1]; omega) (by rw [← e1]; unfold maxLen; omega) (Nat.le_refl _) (fun h => by cases h) (HS.out.new (Nat.le_refl _))).mono ?_
          rintro e w1 ⟨a2, c2, rfl, hf2, hm2, hr2, hw⟩
          subst hw
          have HM : Hid (DownI w (val 4294967296 zs / 2 ^ n.toNat) zs.length (!lostB (val 4294967296 zs) (2 ^ n.toNat)) (.returned (.tuple #[.slice a2 (trimL D).length c2, .bool (y / 2 ^ (n % 32).toNat * 2 ^ (n % 32).toNat == y)])) w1) := by
            refine ⟨a2, c2, trimL D, by rw [HEX.out], hf2, hm2, canon_trim HG.out, by rw [val_trim, HVV.out], ?_, hr2, HB.out⟩
            have := trim_le D
            omega
          clear hf2 hm2 hr2 HG HVV HB HS e1 HEX
          go_wp2
          refine bodyPost_ret (v := .tuple #[.slice a2 (trimL D).length c2, .bool (y / 2 ^ (n % 32).toNat * 2 ^ (n % 32).toNat == y)]) (by simp [results, Tryd.results36, go_sem]) rfl ?_
          exact HM.out
    · have HT : Hid (trimL (zs.take s) ≠ []) := ht
      have hl0 : ((trimL (zs.take s)).length : Int) ≠ 0 := by
        intro e
        exact ht (List.length_eq_zero_iff.1 (by omega))
      have hl1 : (((trimL (zs.take s)).length : Int) == 0) = false := by rw [beq_eq_false_iff_ne]; exact hl0
      have HEX : Hid (false = !lostB (val 4294967296 zs) (2 ^ n.toNat)) := by
        unfold Hid
        have h := HC2.out
        cases hl : lostB (val 4294967296 zs) (2 ^ n.toNat)
        · exact absurd (h.1 hl).1 ht
        · rfl
      clear ht hl0
      go_enter Tryd.func36, Tryd.ntmps36
      go_wp2
      rw [hs]
      go_quiet (first | (go_at_call 50; refine Calls.quiet_of_same (trimR_cons' (some ⟨b, off, none⟩) p (zs.take s) s _ HTS.out (by omega) (by unfold maxLen; omega) (by omega) (HZ2.out.later (drewN_below _ _)) HT.out)))
      go_wp2
      go_loopw [52] (fun t wr => ∃ (k : Nat) (D : List Int), k ≤ zs.length - s ∧ D.length = k ∧ t = .int .i64 k ∧ Hid (downL 4294967296 (2 ^ (n % 32).toNat) (zs.drop s) = D ++ downL 4294967296 (2 ^ (n % 32).toNat) (zs.drop (s + k))) ∧
          Own .u32 wr w.heap.size 0 (D ++ List.replicate (zs.length - s - k) 0) ∧ Below w.heap.size w wr) (fun t _ => zs.length - s - (intOf t).toNat)
      case atStart =>
        refine ⟨0, [], Nat.zero_le _, rfl, rfl, rfl, ?_, ?_⟩
        · have := Own.made (k := .u32) (w.drewN nq) (zs.length - s) 74
          simpa using this
        · exact (drewN_below _ _).trans (by simpa using bel0 (w.drewN nq) _)
      case round =>
        obtain ⟨k, D, hk, hDl, rfl, hD, hown, hnx⟩ := hrel
        by_cases hlt2 : k < zs.length - s
        · have hk1 : s + k < zs.length := by omega
          have hb1 := HDZ.out.at (by decide) (s + k)
          have hb2 := HDZ.out.at (by decide) (s + k + 1)
          obtain ⟨b1, off1, hbb, g1⟩ := row_cell HZ.out hnx hk1
          have hbe : b1 = b ∧ off1 = off := by
            have h3 := Option.some.inj hbb
            exact ⟨(congrArg Addr.block h3).symm, (congrArg Addr.off h3).symm⟩
          obtain ⟨rfl, rfl⟩ := hbe
          have hst := down_drop (B := 4294967296) (q := 2 ^ (n % 32).toNat) hk1
          obtain ⟨x, hx⟩ : ∃ x, x = zs.getD (s + k) 0 := ⟨_, rfl⟩
          obtain ⟨x', hx'⟩ : ∃ x', x' = zs.getD (s + k + 1) 0 := ⟨_, rfl⟩
          rw [← hx] at hb1 g1 hst
          rw [← hx'] at hb2 hst
          rw [← Nat.add_assoc] at g1
          obtain ⟨hb10, hb11⟩ := hb1
          obtain ⟨hb20, hb21⟩ := hb2
          have g3 := hown.cell k (by simp; omega)
          have g4 := hown.free k (by simp; omega)
          rw [Nat.zero_add] at g3 g4
          by_cases h2 : k + 1 < zs.length - s
          · obtain ⟨b2, off2, hbb2, g2⟩ := row_cell HZ.out hnx (show s + k + 1 < zs.length by omega)
            have hbe2 : b2 = b1 ∧ off2 = off1 := by
              have h3 := Option.some.inj hbb2
              exact ⟨(congrArg Addr.block h3).symm, (congrArg Addr.off h3).symm⟩
            obtain ⟨rfl, rfl⟩ := hbe2
            rw [← hx', show off2 + (s + k + 1) = off2 + s + (k + 1) by omega] at g2
            have hor := or_high hb20 hb21 hb10 hb11
            have hw0 : 0 ≤ x + 4294967296 * x' := by omega
            have hw1 : x + 4294967296 * x' ≤ 18446744073709551615 := by omega
            have hw2 : 0 ≤ (x + 4294967296 * x') / 2 ^ (n % 32).toNat := Int.ediv_nonneg hw0 (by omega)
            have hs1 := hown.set k ((x + 4294967296 * x') / 2 ^ (n % 32).toNat % 4294967296) (by simp; omega)
            rw [Nat.zero_add, show zs.length - s - k = (zs.length - s - (k + 1)) + 1 by omega, List.replicate_succ, set_mid hDl] at hs1
            have HS : Hid (Own .u32 (wr.setCell ⟨w.heap.size, k, none⟩ (.int .u32 ((x + 4294967296 * x') / 2 ^ (n % 32).toNat % 4294967296))) w.heap.size 0 ((D ++ [(x + 4294967296 * x') / 2 ^ (n % 32).toNat % 4294967296]) ++ List.replicate (zs.length - s - (k + 1)) 0)) := by unfold Hid; simpa using hs1
            have HB : Hid (Below w.heap.size w (wr.setCell ⟨w.heap.size, k, none⟩ (.int .u32 ((x + 4294967296 * x') / 2 ^ (n % 32).toNat % 4294967296)))) := hnx.setCell (Nat.le_refl _) _
            have HD : Hid (downL 4294967296 (2 ^ (n % 32).toNat) (zs.drop s) = (D ++ [(x + 4294967296 * x') / 2 ^ (n % 32).toNat % 4294967296]) ++ downL 4294967296 (2 ^ (n % 32).toNat) (zs.drop (s + (k + 1)))) := by unfold Hid; rw [hD.out, hst]; simp [Nat.add_assoc]
            have HL : Hid (D.length = k) := hDl
            clear hst hx hx' hD hown hnx hs1 hbb hbb2 hDl hd0 hd1 hd2 g0
            go_wp2
            go_roundw
            case rel => exact ⟨k + 1, D ++ [(x + 4294967296 * x') / 2 ^ (n % 32).toNat % 4294967296], by omega, by rw [List.length_append, HL.out]; rfl, by go_num, HD, HS.out, HB.out⟩
            case measure => simp [intOf]; omega
          · have hx0 : x' = 0 := by rw [hx']; exact getD_out (by omega)
            have hq1 : 0 ≤ x / 2 ^ (n % 32).toNat := Int.ediv_nonneg hb10 (by omega)
            have hq2 : x / 2 ^ (n % 32).toNat ≤ x := Int.ediv_le_self _ hb10
            have hq3 : x / 2 ^ (n % 32).toNat ≤ 4294967295 := by omega
            rw [hx0, Int.mul_zero, Int.add_zero, Int.emod_eq_of_lt hq1 (by omega)] at hst
            have hs1 := hown.set k (x / 2 ^ (n % 32).toNat) (by simp; omega)
            rw [Nat.zero_add, show zs.length - s - k = (zs.length - s - (k + 1)) + 1 by omega, List.replicate_succ, set_mid hDl] at hs1
            have HS : Hid (Own .u32 (wr.setCell ⟨w.heap.size, k, none⟩ (.int .u32 (x / 2 ^ (n % 32).toNat))) w.heap.size 0 ((D ++ [x / 2 ^ (n % 32).toNat]) ++ List.replicate (zs.length - s - (k + 1)) 0)) := by unfold Hid; simpa using hs1
            have HB : Hid (Below w.heap.size w (wr.setCell ⟨w.heap.size, k, none⟩ (.int .u32 (x / 2 ^ (n % 32).toNat)))) := hnx.setCell (Nat.le_refl _) _
            have HD : Hid (downL 4294967296 (2 ^ (n % 32).toNat) (zs.drop s) = (D ++ [x / 2 ^ (n % 32).toNat]) ++ downL 4294967296 (2 ^ (n % 32).toNat) (zs.drop (s + (k + 1)))) := by unfold Hid; rw [hD.out, hst]; simp [Nat.add_assoc]
            have HL : Hid (D.length = k) := hDl
            clear hst hx hx' hx0 hb20 hb21 hD hown hnx hs1 hbb hDl hd0 hd1 hd2 g0
            go_wp2
            go_roundw
            case rel => exact ⟨k + 1, D ++ [x / 2 ^ (n % 32).toNat], by omega, by rw [List.length_append, HL.out]; rfl, by go_num, HD, HS.out, HB.out⟩
            case measure => simp [intOf]; omega
        · have hkn : k = zs.length - s := by omega
          subst hkn
          have hDD : downL 4294967296 (2 ^ (n % 32).toNat) (zs.drop s) = D := by
            rw [hD.out, List.drop_eq_nil_of_le (by omega)]; simp [downL]
          have hown' : Own .u32 wr w.heap.size 0 D := by simpa using hown
          have HVV : Hid (val 4294967296 D = val 4294967296 zs / 2 ^ n.toNat) := by unfold Hid; rw [← hDD]; exact HC1.out
          have HG : Hid (Dig 4294967296 D) := by unfold Hid; rw [← hDD]; exact dig_down (by decide) _ _
          have HS : Hid (Own .u32 wr w.heap.size 0 D) := hown'
          have HB : Hid (Below w.heap.size w wr) := hnx
          have HLR : Hid (zs.length - s = D.length) := hDl.symm
          clear hown' hDD hD hown hnx hDl g0 hd0 hd1 hd2
          go_wp2_with fail
          rw [HLR.out]
          have e1 := HLR.out
          refine (trimmed_any _ _ D _ w.heap.size (by rw [← e1]; omega) (by rw [← e1]; unfold maxLen; omega) (Nat.le_refl _) (fun h => by cases h) (HS.out.new (Nat.le_refl _))).mono ?_
          rintro e w1 ⟨a2, c2, rfl, hf2, hm2, hr2, hw⟩
          subst hw
          have HM : Hid (DownI w (val 4294967296 zs / 2 ^ n.toNat) zs.length (!lostB (val 4294967296 zs) (2 ^ n.toNat)) (.returned (.tuple #[.slice a2 (trimL D).length c2, .bool (false)])) w1) := by
            refine ⟨a2, c2, trimL D, by rw [HEX.out], hf2, hm2, canon_trim HG.out, by rw [val_trim, HVV.out], ?_, hr2, HB.out⟩
            have := trim_le D
            omega
          clear hf2 hm2 hr2 HG HVV HB HS e1 HEX
          go_wp2
          refine bodyPost_ret (v := .tuple #[.slice a2 (trimL D).length c2, .bool (false)]) (by simp [results, Tryd.results36, go_sem]) rfl ?_
          exact HM.out

end Go.Proofs.YtfgpknglgbpebadDoor

/-
  The program's normal forms.
-/
namespace Go.Proofs.YtfgpknglgbpebadDoor
open Go.RowKit

/-- What a function of the program answers that gives a Dyadic and a code: in new memory. -/
def OutDI (w : World) (ok : Bool) (v : Int) (e : Ending) (w' : World) : Prop :=
  ∃ (G : Bool) (Z : List Int) (E K : Int) (a : Option Addr) (c : Nat), e = .returned (.tuple #[.agg #[.bool G, .slice a Z.length c, .int .i64 E], .int .i64 K]) ∧ ResD ok v G Z E K ∧ RowNew .u32 w' w.heap.size a Z ∧ Below w.heap.size w w'

theorem nil_b1 : B1 false [] 0 := ⟨⟨Dig.nil _, rfl⟩, by simp [sg, val], fun h => by cases h⟩

set_option maxRecDepth 100000 in
set_option maxHeartbeats 4000000 in
theorem normalI_any (g : Bool) (a : Option Addr) (c : Nat) (zs : List Int) (x E : Int) (w : World) (hn : zs.length ≤ 60000) (he0 : -60000 ≤ E) (he1 : E ≤ 60000) (hz : RowAt .u32 w a zs) (h : B1 g zs x) (hcap : zs.length ≤ c ∧ c ≤ maxLen) (hT : Tab w) :
    Calls Tryd.prog 21 #[.agg #[.bool g, .slice a zs.length c, .int .i64 E]] w fun e w' => OutDI w true (atK 100000 x E) e w' := by
  have B0 : Hid (∀ t t', Bx3 w (.bool g) (.slice a zs.length c) (.int .i64 E) ((w.alloc (.cells #[.bool g, .slice a zs.length c, .int .i64 E] t)).alloc (.cells #[.bool false, .slice none 0 0, .int .i64 0] t'))) := fun t t' => Bx3.start w _ _ _ _ _
  obtain ⟨v, hv⟩ : ∃ v, v = atK 100000 x E := ⟨_, rfl⟩
  have HV : Hid (v = atK 100000 x E) := hv
  rw [← hv]
  clear hv
  by_cases hne : zs = []
  · subst hne
    have hx : x = 0 := by rw [h.num]; cases g <;> simp [sg, val]
    have HO : Hid (ResD true v false [] 0 0) := .inr ⟨rfl, 0, 0, .inl ⟨by rw [HV.out, hx]; simp [atK], rfl, rfl⟩, .inl ⟨⟨nil_b1.fits (by simp), by decide, by decide⟩, nil_b1, rfl, rfl⟩⟩
    clear h hx hz hcap hT
    go_enter Tryd.func21, Tryd.ntmps21
    go_wp2
    refine bodyPost_ret (v := .tuple #[.agg #[.bool false, .slice none 0 0, .int .i64 0], .int .i64 0]) (by simp [results, Tryd.results21, go_sem]) rfl ?_
    refine ⟨false, [], 0, 0, none, 0, rfl, HO.out, .inl rfl, ?_⟩
    exact (B0.out _ _).bel
  · have hlen : ((zs.length : Int) == 0) = false := by
      rw [beq_eq_false_iff_ne]
      have := List.length_pos_iff.2 hne
      omega
    have HB1 : Hid (B1 g zs x) := h
    have HNE : Hid (zs ≠ []) := hne
    have HT : Hid (Tab w) := hT
    clear h hne hT
    go_enter Tryd.func21, Tryd.ntmps21
    go_wp2_with fail
    refine (lowZ_any a c zs _ (by omega) (hz.later (B0.out _ _).bel) HB1.out.can HNE.out (HT.out.later (B0.out _ _).bel)).mono ?_
    rintro e W1 ⟨t, rfl, ht, htw, hb1⟩
    have F1 : Hid (Bx3 w (.bool g) (.slice a zs.length c) (.int .i64 E) W1) := (B0.out _ _).later hb1
    have HN : Hid (Norm (atK 100000 x E) (sg g (val 4294967296 zs / 2 ^ t)) (E + t)) := norm_twos HB1.out HNE.out (by omega) htw
    rw [← HV.out] at HN
    obtain ⟨e', he'⟩ : ∃ e', e' = E + t := ⟨_, rfl⟩
    have hsum : E + (t : Int) = e' := he'.symm
    rw [hsum] at HN
    clear he'
    have q2 := F1.out.q2
    have ht' : (t : Int) ≤ 1920000 := by omega
    clear hb1 htw B0
    by_cases hr : e' < -20000 ∨ 20000 < e'
    · have HO : Hid (ResD true v false [] 0 2) := .inr ⟨rfl, _, _, HN.out, .inr ⟨by omega, rfl, rfl, rfl, rfl⟩⟩
      have r1 := F1.out.r1
      have r2 := F1.out.r2
      have r3 := F1.out.r3
      have r4 := F1.out.r4
      have fin : Hid (∀ W, Below w.heap.size w W → OutDI w true v (.returned (.tuple #[.agg #[.bool false, .slice none 0 0, .int .i64 0], .int .i64 2])) W) := fun W hW => ⟨false, [], 0, 2, none, 0, rfl, HO.out, .inl rfl, hW⟩
      by_cases hr1 : e' < -20000
      · go_wp2
        refine bodyPost_ret (v := .tuple #[.agg #[.bool false, .slice none 0 0, .int .i64 0], .int .i64 2]) (by simp [results, Tryd.results21, go_sem, r1, r2, r3]) rfl ?_
        exact fin.out _ (((F1.out.bel.setCell (by simp) _).setCell (by simp) _).setCell (by simp) _)
      · have hr2 : 20000 < e' := by omega
        go_wp2
        refine bodyPost_ret (v := .tuple #[.agg #[.bool false, .slice none 0 0, .int .i64 0], .int .i64 2]) (by simp [results, Tryd.results21, go_sem, r1, r2, r3]) rfl ?_
        exact fin.out _ (((F1.out.bel.setCell (by simp) _).setCell (by simp) _).setCell (by simp) _)
    · have hr1 : ¬ e' < -20000 := by omega
      have hr2 : ¬ 20000 < e' := by omega
      have htb : (t : Int) ≤ 80000 := by omega
      clear hr
      go_wp2_with fail
      refine (downI_any a c zs (t : Int) _ (by omega) hcap.1 hcap.2 (by omega) (by omega) (hz.later F1.out.bel) HB1.out.can).mono ?_
      rintro e W2 ⟨a2, c2, fs, rfl, hf2, hm2, hcan2, hv2, hl2, hr2', hb2⟩
      have F2 : Hid (Bx3 w (.bool g) (.slice a zs.length c) (.int .i64 E) W2) := F1.out.later hb2
      have HB2 : Hid (B1 (g && decide (0 < fs.length)) fs (sg g (val 4294967296 zs / 2 ^ t))) := B1.of_signed hcan2 (by rw [hv2]; rfl)
      have HR2 : Hid (RowNew .u32 W2 W1.heap.size a2 fs) := hr2'
      have hs1 : w.heap.size + 1 + 1 ≤ W1.heap.size := F1.out.le
      have q0 := F2.out.q0
      clear hb2 hcan2 hv2 hr2' q2
      go_wp2_with fail
      refine (signed_any g a2 fs.length c2 _).mono ?_
      rintro e W3 ⟨rfl, hb3⟩
      have F3 : Hid (Bx3 w (.bool g) (.slice a zs.length c) (.int .i64 E) W3) := F2.out.later hb3
      have HR3 : Hid (RowNew .u32 W3 W1.heap.size a2 fs) := HR2.out.later hb3
      clear hb3 q0
      generalize (g && decide (0 < fs.length)) = G at *
      go_wp2_with fail
      refine (within_any G a2 c2 fs _ W1.heap.size (by omega) HR3.out).mono ?_
      rintro e W4 ⟨a4, c4, rfl, hr4, hb4⟩
      have F4 : Hid (Bx3 w (.bool g) (.slice a zs.length c) (.int .i64 E) W4) := F3.out.later hb4
      have r1 := F4.out.r1
      have r2 := F4.out.r2
      have r3 := F4.out.r3
      have r4 := F4.out.r4
      have hs4 : w.heap.size + 1 < W4.heap.size := F4.out.le
      by_cases h5 : fs.length ≤ 512
      · have HO : Hid (ResD true v G fs e' 0) := .inr ⟨rfl, _, _, HN.out, .inl ⟨⟨HB2.out.fits h5, by omega, by omega⟩, HB2.out, rfl, rfl⟩⟩
        have hlo : limOut G fs = (G, fs, 0) := by unfold limOut; rw [if_pos h5]
        rw [hlo] at hr4 ⊢
        have HR4 : Hid (RowNew .u32 W4 (w.heap.size + 1 + 1) a4 fs) := hr4.down hs1
        clear hlo hr4 hb4
        go_wp2
        refine bodyPost_ret (v := .tuple #[.agg #[.bool G, .slice a4 fs.length c4, .int .i64 e'], .int .i64 0]) (by simp [results, Tryd.results21, go_sem, r1, r2, r3, hs4]) rfl ?_
        have hbl := ((F4.out.bel.setCell (p := ⟨w.heap.size + 1, 0, none⟩) (by simp) (.bool G)).setCell (p := ⟨w.heap.size + 1, 1, none⟩) (by simp) (.slice a4 fs.length c4)).setCell (p := ⟨w.heap.size + 1, 2, none⟩) (by simp) (.int .i64 e')
        refine ⟨G, fs, e', 0, a4, c4, rfl, HO.out, ?_, hbl.alloc hbl.size _⟩
        exact ((((HR4.out.setLow (by simp) _).setLow (by simp) _).setLow (by simp) _).later (bel0 _ _)).down (by omega)
      · have HO : Hid (ResD true v false [] 0 2) := .inr ⟨rfl, _, _, HN.out, .inr ⟨fun h => h5 (HB2.out.len h.1), rfl, rfl, rfl, rfl⟩⟩
        have hlo : limOut G fs = (false, [], 2) := by unfold limOut; rw [if_neg h5]
        rw [hlo] at hr4 ⊢
        clear hlo hr4 hb4
        go_wp2
        refine bodyPost_ret (v := .tuple #[.agg #[.bool false, .slice none 0 0, .int .i64 0], .int .i64 2]) (by simp [results, Tryd.results21, go_sem, r1, r2, r3, hs4]) rfl ?_
        refine ⟨false, [], 0, 2, none, 0, rfl, HO.out, .inl rfl, ?_⟩
        have hb0 := F4.out.bel
        have hbl := ((F4.out.bel.setCell (p := ⟨w.heap.size + 1, 0, none⟩) (by simp) (.bool false)).setCell (p := ⟨w.heap.size + 1, 1, none⟩) (by simp) (.slice none 0 0)).setCell (p := ⟨w.heap.size + 1, 2, none⟩) (by simp) (.int .i64 0)
        first
          | exact hbl.alloc hbl.size _
          | exact hb0.alloc hb0.size _
          | exact hbl
          | exact hb0

end Go.Proofs.YtfgpknglgbpebadDoor

/-
  The program's DyAdd.
-/
namespace Go.Proofs.YtfgpknglgbpebadDoor
open Go.RowKit

set_option maxRecDepth 100000 in
set_option maxHeartbeats 8000000 in
theorem addDI_bad (g g' : Bool) (a a' : Option Addr) (c c' : Nat) (zs ys : List Int) (E E' v : Int) (w : World) (hn : zs.length ≤ 1048576) (hn' : ys.length ≤ 1048576) (hz : RowAt .u32 w a zs) (hy : RowAt .u32 w a' ys) (hv : (validD g zs E && validD g' ys E') = false) :
    Calls Tryd.prog 13 #[.agg #[.bool g, .slice a zs.length c, .int .i64 E], .agg #[.bool g', .slice a' ys.length c', .int .i64 E']] w fun e w' => OutDI w false v e w' := by
  have B0 : Hid (∀ t t' t2, Bx7 w (.bool g) (.slice a zs.length c) (.int .i64 E) (.bool g') (.slice a' ys.length c') (.int .i64 E') (((w.alloc (.cells #[.bool g, .slice a zs.length c, .int .i64 E] t)).alloc (.cells #[.bool g', .slice a' ys.length c', .int .i64 E'] t')).alloc (.cells #[.bool false, .slice none 0 0, .int .i64 0] t2))) := fun t t' t2 => Bx7.start w _ _ _ _ _ _ _ _ _
  go_enter Tryd.func13, Tryd.ntmps13
  go_wp2_with fail
  refine (validsI_any _ 0 _ [⟨g, a, c, zs, E⟩, ⟨g', a', c', ys, E'⟩] _ (by simp) ?_ (two_rowD ?_ ?_ ?_ ?_ ?_ ?_ ?_ (hz.later ((B0.out _ _ _).bel.trans ((bel0 _ _).mono (B0.out _ _ _).bel.size))) (hy.later ((B0.out _ _ _).bel.trans ((bel0 _ _).mono (B0.out _ _ _).bel.size))))).mono ?_
  · intro d hd
    simp at hd
    rcases hd with rfl | rfl
    · exact hn
    · exact hn'
  · simp
  · simp [go_sem]
  · simp [go_sem]
  · simp [go_sem]
  · simp [go_sem]
  · simp [go_sem]
  · simp [go_sem]
  · rintro e w1 ⟨rfl, hb1⟩
    have HV : Hid ([(⟨g, a, c, zs, E⟩ : DV), ⟨g', a', c', ys, E'⟩].all DV.ok = false) := by unfold Hid; simpa [DV.ok] using hv
    rw [HV.out]
    have F1 : Hid (Bx7 w (.bool g) (.slice a zs.length c) (.int .i64 E) (.bool g') (.slice a' ys.length c') (.int .i64 E') w1) := ((B0.out _ _ _).later (bel0 _ _)).later hb1
    have r1 := F1.out.r1
    have r2 := F1.out.r2
    have r3 := F1.out.r3
    have r4 := F1.out.r4
    clear hb1 B0
    go_wp2
    refine bodyPost_ret (v := .tuple #[.agg #[.bool false, .slice none 0 0, .int .i64 0], .int .i64 1]) (by simp [results, Tryd.results13, go_sem, r1, r2, r3]) rfl ?_
    refine ⟨false, [], 0, 1, none, 0, rfl, .inl ⟨rfl, rfl, rfl, rfl, rfl⟩, .inl rfl, ?_⟩
    exact ((F1.out.bel.setCell (by simp; omega) _).setCell (by simp; omega) _).setCell (by simp; omega) _

set_option maxRecDepth 100000 in
set_option maxHeartbeats 8000000 in
theorem addDI_ok (g g' : Bool) (a a' : Option Addr) (c c' : Nat) (zs ys : List Int) (E E' : Int) (w : World) (hz : RowAt .u32 w a zs) (hy : RowAt .u32 w a' ys) (hu : U32 zs) (hu' : U32 ys) (v1 : validD g zs E = true) (v2 : validD g' ys E' = true) (hT : Tab w) :
    Calls Tryd.prog 13 #[.agg #[.bool g, .slice a zs.length c, .int .i64 E], .agg #[.bool g', .slice a' ys.length c', .int .i64 E']] w fun e w' => OutDI w true (atK 100000 (sg g (val 4294967296 zs)) E + atK 100000 (sg g' (val 4294967296 ys)) E') e w' := by
  obtain ⟨vb1, hE0, hE1⟩ := validD_parts v1
  obtain ⟨vb2, hE2, hE3⟩ := validD_parts v2
  have hn5 := (valid_canon hu vb1).2.1
  have hn5' := (valid_canon hu' vb2).2.1
  have hn : zs.length ≤ 1048576 := Nat.le_trans hn5 (by decide)
  have hn' : ys.length ≤ 1048576 := Nat.le_trans hn5' (by decide)
  have HBz : Hid (B1 g zs (sg g (val 4294967296 zs))) := B1.of_valid hu vb1
  have HBy : Hid (B1 g' ys (sg g' (val 4294967296 ys))) := B1.of_valid hu' vb2
  obtain ⟨v, hv⟩ : ∃ v, v = atK 100000 (sg g (val 4294967296 zs)) E + atK 100000 (sg g' (val 4294967296 ys)) E' := ⟨_, rfl⟩
  have HV : Hid (v = atK 100000 (sg g (val 4294967296 zs)) E + atK 100000 (sg g' (val 4294967296 ys)) E') := hv
  rw [← hv]
  clear hv
  have B0 : Hid (∀ t t' t2, Bx7 w (.bool g) (.slice a zs.length c) (.int .i64 E) (.bool g') (.slice a' ys.length c') (.int .i64 E') (((w.alloc (.cells #[.bool g, .slice a zs.length c, .int .i64 E] t)).alloc (.cells #[.bool g', .slice a' ys.length c', .int .i64 E'] t')).alloc (.cells #[.bool false, .slice none 0 0, .int .i64 0] t2))) := fun t t' t2 => Bx7.start w _ _ _ _ _ _ _ _ _
  go_enter Tryd.func13, Tryd.ntmps13
  go_wp2_with fail
  refine (validsI_any _ 0 _ [⟨g, a, c, zs, E⟩, ⟨g', a', c', ys, E'⟩] _ (by simp) ?_ (two_rowD ?_ ?_ ?_ ?_ ?_ ?_ ?_ (hz.later ((B0.out _ _ _).bel.trans ((bel0 _ _).mono (B0.out _ _ _).bel.size))) (hy.later ((B0.out _ _ _).bel.trans ((bel0 _ _).mono (B0.out _ _ _).bel.size))))).mono ?_
  · intro d hd
    simp at hd
    rcases hd with rfl | rfl
    · exact hn
    · exact hn'
  · simp
  · simp [go_sem]
  · simp [go_sem]
  · simp [go_sem]
  · simp [go_sem]
  · simp [go_sem]
  · simp [go_sem]
  · rintro e W1 ⟨rfl, hb1⟩
    have HVV : Hid ([(⟨g, a, c, zs, E⟩ : DV), ⟨g', a', c', ys, E'⟩].all DV.ok = true) := by unfold Hid; simp [DV.ok, v1, v2]
    rw [HVV.out]
    have F1 : Hid (Bx7 w (.bool g) (.slice a zs.length c) (.int .i64 E) (.bool g') (.slice a' ys.length c') (.int .i64 E') W1) := ((B0.out _ _ _).later (bel0 _ _)).later hb1
    have s0 := F1.out.q0
    have s1 := F1.out.q1
    have s2 := F1.out.q2
    have s3 := F1.out.p0
    have s4 := F1.out.p1
    have s5 := F1.out.p2
    have hl1 := F1.out.le
    have za : w.heap.size < W1.heap.size := by omega
    have zb : w.heap.size + 1 < W1.heap.size := by omega
    clear hb1 B0
    have hz1 := hz.later F1.out.bel
    have hy1 := hy.later F1.out.bel
    have HRT : Hid (RowT (((W1.alloc (.cells #[.bool g, .slice a zs.length c, .int .i64 E] 30)).alloc (.cells #[.bool g', .slice a' ys.length c', .int .i64 E'] 30)).alloc (.cells #[.slice (some ⟨W1.heap.size, 0, none⟩) 1 1, .slice (some ⟨W1.heap.size + 1, 0, none⟩) 1 1] 52)) (W1.heap.size + 1 + 1) 0 [⟨W1.heap.size, 0, 1, [⟨g, a, c, zs, E⟩]⟩, ⟨W1.heap.size + 1, 0, 1, [⟨g', a', c', ys, E'⟩]⟩]) := by
      unfold Hid
      exact two_rowT (by simp) (by simp [go_sem]) (by simp [go_sem]) (RowD.later (RowD.later (one_rowD (by simp) (by simp [go_sem]) (by simp [go_sem]) (by simp [go_sem]) (hz1.later (bel0 _ _))) (bel0 _ _)) (bel0 _ _)) (RowD.later (one_rowD (by simp) (by simp [go_sem]) (by simp [go_sem]) (by simp [go_sem]) (hy1.later (bel2 _ _ _))) (bel0 _ _))
    clear hz1 hy1
    go_wp2_with fail
    refine (sumP_any prodSaysJ _ 0 _ [⟨W1.heap.size, 0, 1, [⟨g, a, c, zs, E⟩]⟩, ⟨W1.heap.size + 1, 0, 1, [⟨g', a', c', ys, E'⟩]⟩] _ (by simp) ?_ HRT.out).mono ?_
    · intro t ht
      simp at ht
      rcases ht with rfl | rfl
      · refine ⟨by simp, fun d hd => ?_⟩
        simp at hd
        subst hd
        exact ⟨hn5, hE0, hE1, HBz.out⟩
      · refine ⟨by simp, fun d hd => ?_⟩
        simp at hd
        subst hd
        exact ⟨hn5', hE2, hE3, HBy.out⟩
    · rintro e W2 ⟨G, a4, c4, f4, m, e4, rfl, hB4, hl4, hK4, he0, he1, hr4, hF4, hb4⟩
      have hVK : atK 100000 m e4 = v := by rw [hK4 100000 (by decide), HV.out]; simp [sumK, prodM, sumE]
      have hl5 : f4.length ≤ 60000 ∧ f4.length ≤ c4 ∧ c4 ≤ maxLen := by simp at hl4; omega
      have hb12 : Below W1.heap.size W1 W2 := (bel3 _ _ _ _).trans (hb4.mono (by simp; omega))
      have F2 : Hid (Bx7 w (.bool g) (.slice a zs.length c) (.int .i64 E) (.bool g') (.slice a' ys.length c') (.int .i64 E') W2) := F1.out.later hb12
      have HB4 : Hid (B1 G f4 m) := hB4
      have HR4 : Hid (RowAt .u32 W2 a4 f4) := hr4
      have hVK' : Hid (atK 100000 m e4 = v) := hVK
      have HT2 : Hid (Tab W2) := (hT.later F1.out.bel).later hb12
      clear hB4 hK4 hr4 hF4 hb4 hVK HRT s0 s1 s2 s3 s4 s5 hb12 hl4
      go_wp2_with fail
      refine (normalI_any G a4 c4 f4 m e4 _ hl5.1 he0 he1 HR4.out HB4.out hl5.2 HT2.out).mono ?_
      rintro e W3 ⟨G5, Z, E5, K, a5, c5, rfl, hres, hr5, hb5⟩
      rw [hVK'.out] at hres
      have F3 : Hid (Bx7 w (.bool g) (.slice a zs.length c) (.int .i64 E) (.bool g') (.slice a' ys.length c') (.int .i64 E') W3) := F2.out.later hb5
      have HR : Hid (ResD true v G5 Z E5 K) := hres
      have HA : Hid (RowNew .u32 W3 (w.heap.size + 1 + 1 + 1) a5 Z) := hr5.down F2.out.le
      have r1 := F3.out.r1
      have r2 := F3.out.r2
      have r3 := F3.out.r3
      have r4 := F3.out.r4
      clear hres hr5 hb5
      go_wp2
      refine bodyPost_ret (v := .tuple #[.agg #[.bool G5, .slice a5 Z.length c5, .int .i64 E5], .int .i64 K]) (by simp [results, Tryd.results13, go_sem, r1, r2, r3]) rfl ?_
      refine ⟨G5, Z, E5, K, a5, c5, rfl, HR.out, ?_, ?_⟩
      · exact (((HA.out.setLow (by simp) _).setLow (by simp) _).setLow (by simp) _).down (by omega)
      · exact ((F3.out.bel.setCell (by simp; omega) _).setCell (by simp; omega) _).setCell (by simp; omega) _

theorem addDI_any (g g' : Bool) (a a' : Option Addr) (c c' : Nat) (zs ys : List Int) (E E' : Int) (w : World) (hn : zs.length ≤ 1048576) (hn' : ys.length ≤ 1048576) (hz : RowAt .u32 w a zs) (hy : RowAt .u32 w a' ys) (hu : U32 zs) (hu' : U32 ys) (hT : Tab w) :
    Calls Tryd.prog 13 #[.agg #[.bool g, .slice a zs.length c, .int .i64 E], .agg #[.bool g', .slice a' ys.length c', .int .i64 E']] w fun e w' => OutDI w (validD g zs E && validD g' ys E') (atK 100000 (sg g (val 4294967296 zs)) E + atK 100000 (sg g' (val 4294967296 ys)) E') e w' := by
  cases hv : validD g zs E && validD g' ys E'
  · exact addDI_bad g g' a a' c c' zs ys E E' _ w hn hn' hz hy hv
  · obtain ⟨v1, v2⟩ := Bool.and_eq_true_iff.1 hv
    exact addDI_ok g g' a a' c c' zs ys E E' w hz hy hu hu' v1 v2 hT

end Go.Proofs.YtfgpknglgbpebadDoor
