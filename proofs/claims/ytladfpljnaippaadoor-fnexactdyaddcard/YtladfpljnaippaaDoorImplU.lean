/-
  The program's shifts down.
-/
import Derived.Test.YtladfpljnaippaaDoorImplC0NumXImplS
namespace Go.Proofs.YtladfpljnaippaaDoor
open Go.RowKit

/-- A magnitude in new memory, and whether nothing was cut off. -/
def DownI (w : World) (v : Int) (n : Nat) (ex : Bool) (e : Ending) (w' : World) : Prop :=
  ∃ (a : Option Addr) (c : Nat) (fs : List Int), e = .returned (.tuple #[.slice a fs.length c, .bool ex]) ∧ fs.length ≤ c ∧ c ≤ maxLen ∧ Canon 4294967296 fs ∧ val 4294967296 fs = v ∧ fs.length ≤ n ∧ RowNew .u32 w' w.heap.size a fs ∧ Below w.heap.size w w'

theorem cut_all32 {ds : List Int} {n : Int} (hd : Canon 4294967296 ds) (n0 : 0 ≤ n) (h : (ds.length : Int) ≤ n / 32) : val 4294967296 ds / 2 ^ n.toNat = 0 ∧ lostB (val 4294967296 ds) (2 ^ n.toNat) = !decide (ds.length = 0) := by
  have h0 := val_nonneg (B := 4294967296) (by decide) hd.1
  have h1 := val_lt_pow (B := 4294967296) (by decide) hd.1
  have h2 : (4294967296 : Int) ^ ds.length ≤ 2 ^ n.toNat := by
    rw [show (4294967296 : Int) = 2 ^ 32 from rfl, ← Int.pow_mul]
    exact two_pow_le (by omega)
  refine ⟨Int.ediv_eq_zero_of_lt h0 (by omega), ?_⟩
  unfold lostB
  rw [Int.emod_eq_of_lt h0 (by omega)]
  by_cases e : ds.length = 0
  · have : ds = [] := List.length_eq_zero_iff.1 e
    subst this
    simp [val]
  · have := val_pos (B := 4294967296) (by decide) hd (fun h => e (by rw [h]; rfl))
    simp [e]
    omega

theorem cut_some32 {ds : List Int} {n : Int} (hd : Dig 4294967296 ds) (n0 : 0 ≤ n) (h : n / 32 < (ds.length : Int)) : val 4294967296 (downL 4294967296 (2 ^ (n % 32).toNat) (ds.drop (n / 32).toNat)) = val 4294967296 ds / 2 ^ n.toNat ∧ (lostB (val 4294967296 ds) (2 ^ n.toNat) = false ↔ (trimL (ds.take (n / 32).toNat) = [] ∧ ds.getD (n / 32).toNat 0 % 2 ^ (n % 32).toNat = 0)) := by
  obtain ⟨e1, e2⟩ := two32r n
  obtain ⟨e4, _⟩ := two32 n
  have hs : (n / 32).toNat ≤ ds.length := by omega
  rw [← pow32 n n0]
  refine ⟨val_cut e1 e4 e2 (by decide) hd hs, ?_⟩
  unfold lostB
  rw [decide_eq_false_iff_not, Decidable.not_not, cut_exact e4 ⟨_, e1⟩ (by decide) hd hs, trim_anyN]
  have h2 := anyN_val (B := 4294967296) (by decide) (hd.take (n / 32).toNat)
  by_cases h3 : val 4294967296 (ds.take (n / 32).toNat) = 0
  · have : anyN (ds.take (n / 32).toNat) = false := by
      cases h4 : anyN (ds.take (n / 32).toNat)
      · rfl
      · exact absurd h3 (h2.1 h4)
    simp [h3, this]
  · have : anyN (ds.take (n / 32).toNat) = true := h2.2 h3
    simp [h3, this]

/-- Shifted down and up again: nothing was lost, or it is less. -/
theorem back_eq {y q : Int} (_hq : 0 < q) : (y / q * q == y) = decide (y % q = 0) := by
  have h := Int.mul_ediv_add_emod y q
  rw [Int.mul_comm q] at h
  by_cases h0 : y % q = 0
  · rw [decide_eq_true h0, beq_iff_eq]; omega
  · rw [decide_eq_false h0, beq_eq_false_iff_ne]; omega

theorem or_high {y x : Int} (hy0 : 0 ≤ y) (hy1 : y < 4294967296) (hx0 : 0 ≤ x) (hx1 : x < 4294967296) : bits .or .u64 x (y * 4294967296) = x + 4294967296 * y := by
  obtain ⟨a, rfl⟩ := Int.eq_ofNat_of_zero_le hy0
  obtain ⟨b, rfl⟩ := Int.eq_ofNat_of_zero_le hx0
  have h := bits_or_u64_nat b (4294967296 * a) (by omega) (by omega)
  have h2 := Nat.two_pow_add_eq_or_of_lt (i := 32) (b := b) (by omega) a
  rw [show (a : Int) * 4294967296 = ((4294967296 * a : Nat) : Int) by omega, h, Nat.or_comm]
  have h3 : (4294967296 * a ||| b : Nat) = 4294967296 * a + b := h2.symm
  rw [h3]
  omega

set_option maxHeartbeats 400000 in
/-- trimmed, of a row that is read alone: where all is zero. -/
theorem trimR_nil (a : Option Addr) (c : Nat) (ds : List Int) (w : World) (hn : ds.length ≤ 1048576) (hz : RowAt .u32 w a ds) (ht0 : trimL ds = []) :
    Calls Tryd.prog 26 #[.slice a ds.length c] w fun e w' => e = .returned (.slice none 0 0) ∧ w' = w := by
  go_enter Tryd.func26, Tryd.ntmps26
  go_wp2
  go_loop [3] (fun i => ∃ m : Nat, m ≤ ds.length ∧ i = .int .i64 m ∧ Hid (trimL (ds.take m) = [])) (fun i => (intOf i).toNat)
  case atStart => exact ⟨ds.length, by omega, rfl, by unfold Hid; rw [List.take_length]; exact ht0⟩
  case round =>
    obtain ⟨m, hk, rfl, ht⟩ := hrel
    by_cases h0 : m = 0
    · subst h0
      go_wp2
      go_ret
      exact ⟨rfl, rfl⟩
    · obtain ⟨m, rfl⟩ : ∃ m', m = m' + 1 := ⟨m - 1, by omega⟩
      obtain ⟨b, off, rfl, g⟩ := row_cell hz (Below.refl _ _) (show m < ds.length by omega)
      have hz0 : ds.getD m 0 = 0 := by
        by_cases h : ds.getD m 0 = 0
        · exact h
        · have := trim_take_stop hk h
          rw [ht.out] at this
          have h2 := congrArg List.length this
          simp at h2
          omega
      rw [hz0] at g
      have HT : Hid (trimL (ds.take m) = []) := by unfold Hid; rw [← trim_take_step hk hz0]; exact ht.out
      clear ht hz0 ht0
      go_wp2
      go_round
      case rel => exact ⟨m, by omega, by go_num, HT⟩
      case measure => simp [intOf]

set_option maxHeartbeats 400000 in
/-- .. where not all is zero. -/
theorem trimR_cons (a : Option Addr) (c : Nat) (ds : List Int) (w : World) (_hn : ds.length ≤ 1048576) (hm : c ≤ maxLen) (hf : ds.length ≤ c) (hz : RowAt .u32 w a ds) (ht0 : trimL ds ≠ []) :
    Calls Tryd.prog 26 #[.slice a ds.length c] w fun e w' => e = .returned (.slice a (trimL ds).length c) ∧ w' = w := by
  unfold maxLen at hm
  have hne : ds ≠ [] := fun e => ht0 (by rw [e]; rfl)
  obtain ⟨b, off, rfl, hb, hc⟩ := hz.resolve_left hne
  go_enter Tryd.func26, Tryd.ntmps26
  go_wp2
  go_loop [3] (fun i => ∃ m : Nat, m ≤ ds.length ∧ i = .int .i64 m ∧ Hid (trimL (ds.take m) = trimL ds)) (fun i => (intOf i).toNat)
  case atStart => exact ⟨ds.length, by omega, rfl, by unfold Hid; rw [List.take_length]⟩
  case round =>
    obtain ⟨m, hk, rfl, ht⟩ := hrel
    by_cases h0 : m = 0
    · subst h0
      exact absurd (by rw [← ht.out]; simp [trimL]) ht0
    · obtain ⟨m, rfl⟩ : ∃ m', m = m' + 1 := ⟨m - 1, by omega⟩
      have g := hc m (by omega)
      have hm0 : ((m : Int) + 1 == 0) = false := by rw [beq_eq_false_iff_ne]; omega
      obtain ⟨y, hy⟩ : ∃ y, y = ds.getD m 0 := ⟨_, rfl⟩
      rw [← hy] at g
      by_cases hz0 : y = 0
      · have HT : Hid (trimL (ds.take m) = trimL ds) := by unfold Hid; rw [← trim_take_step hk (by rw [← hy]; exact hz0)]; exact ht.out
        subst hz0
        clear ht ht0 hc hy hne
        go_wp2
        go_round
        case rel => exact ⟨m, by omega, by go_num, HT⟩
        case measure => simp [intOf]
      · have hst := trim_take_stop hk (by rw [← hy]; exact hz0)
        rw [ht.out] at hst
        have HL : Hid ((trimL ds).length = m + 1) := by unfold Hid; rw [hst, List.length_take]; omega
        have hz1 : (y == 0) = false := by rw [beq_eq_false_iff_ne]; exact hz0
        clear ht ht0 hc hy hne hst
        go_wp2
        go_ret
        rw [HL.out]
        exact ⟨rfl, rfl⟩

theorem trimR_nil' (a : Option Addr) (c : Nat) (ds : List Int) (m : Nat) (w : World) (hm : ds.length = m) (hn : m ≤ 1048576) (hz : RowAt .u32 w a ds) (ht0 : trimL ds = []) :
    Calls Tryd.prog 26 #[.slice a m c] w fun e w' => e = .returned (.slice none 0 0) ∧ w' = w := by
  subst hm
  exact trimR_nil a c ds w hn hz ht0

theorem trimR_cons' (a : Option Addr) (c : Nat) (ds : List Int) (m : Nat) (w : World) (hl : ds.length = m) (hn : m ≤ 1048576) (hm : c ≤ maxLen) (hf : m ≤ c) (hz : RowAt .u32 w a ds) (ht0 : trimL ds ≠ []) :
    Calls Tryd.prog 26 #[.slice a m c] w fun e w' => e = .returned (.slice a (trimL ds).length c) ∧ w' = w := by
  subst hl
  exact trimR_cons a c ds w hn hm hf hz ht0

theorem drewN_below (w : World) (n : Nat) : Below w.heap.size w (w.drewN n) := below_drewN (Below.refl _ _) _

set_option maxHeartbeats 4000000 in
theorem downI_any (a : Option Addr) (p : Nat) (zs : List Int) (n : Int) (w : World) (hn : zs.length ≤ 100000) (hp : zs.length ≤ p) (hpm : p ≤ maxLen) (n0 : 0 ≤ n) (n1 : n ≤ 1000000) (hz : RowAt .u32 w a zs) (hcz : Canon 4294967296 zs) :
    Calls Tryd.prog 51 #[.slice a zs.length p, .int .i64 n] w fun e w' => DownI w (val 4294967296 zs / 2 ^ n.toNat) zs.length (!lostB (val 4294967296 zs) (2 ^ n.toNat)) e w' := by
  obtain ⟨q0, q1⟩ := two32 n
  obtain ⟨s, hs⟩ : ∃ s : Nat, n / 32 = (s : Int) := ⟨(n / 32).toNat, by omega⟩
  have hss : (n / 32).toNat = s := by omega
  have hdz := hcz.1
  unfold maxLen at hpm
  by_cases hA : (zs.length : Int) ≤ n / 32
  · obtain ⟨c1, c2⟩ := cut_all32 hcz n0 hA
    have HM : Hid (DownI w (val 4294967296 zs / 2 ^ n.toNat) zs.length (!lostB (val 4294967296 zs) (2 ^ n.toNat)) (.returned (.tuple #[.slice none 0 0, .bool ((zs.length : Int) == 0)])) w) := by
      unfold Hid
      rw [c1, c2]
      refine ⟨none, 0, [], ?_, by simp, by unfold maxLen; omega, ⟨Dig.nil _, rfl⟩, rfl, by simp, .inl rfl, Below.refl _ _⟩
      by_cases h : zs.length = 0
      · simp [h]
      · simp [h]
    rw [hs] at hA
    clear c1 c2 hdz hcz hz hss
    go_enter Tryd.func51, Tryd.ntmps51
    go_wp2
    refine bodyPost_ret (v := .tuple #[.slice none 0 0, .bool ((zs.length : Int) == 0)]) (by simp [results, Tryd.results51, go_sem]) rfl ?_
    exact HM.out
  · have hlt : s < zs.length := by omega
    obtain ⟨c1, c2⟩ := cut_some32 hdz n0 (by omega)
    rw [hss] at c1 c2
    obtain ⟨b, off, rfl, hb, hc⟩ := hz.resolve_left (by intro e; rw [e] at hlt; simp at hlt)
    have hmk := run_make_row' (P := Tryd.prog) 55 22 (.int .u32 0) 4 Tryd.underlying55 Tryd.info22 rfl .i64 .i64 (zs.length - s) (by omega) (by omega)
    have hy := hdz.at (by decide) s
    obtain ⟨y, hyy⟩ : ∃ y, y = zs.getD s 0 := ⟨_, rfl⟩
    rw [← hyy] at hy c2
    have g0 := hc s hlt
    rw [← hyy] at g0
    obtain ⟨hy0, hy1⟩ := hy
    have hd0 : 0 ≤ y / 2 ^ (n % 32).toNat := Int.ediv_nonneg hy0 (by omega)
    have hd1 : y / 2 ^ (n % 32).toNat * 2 ^ (n % 32).toNat ≤ y := Int.ediv_mul_le _ (by omega)
    have hd2 : 0 ≤ y / 2 ^ (n % 32).toNat * 2 ^ (n % 32).toNat := Int.mul_nonneg hd0 (by omega)
    have HC1 : Hid (val 4294967296 (downL 4294967296 (2 ^ (n % 32).toNat) (zs.drop s)) = val 4294967296 zs / 2 ^ n.toNat) := c1
    have HC2 : Hid (lostB (val 4294967296 zs) (2 ^ n.toNat) = false ↔ (trimL (zs.take s) = [] ∧ y % 2 ^ (n % 32).toNat = 0)) := c2
    have HDZ : Hid (Dig 4294967296 zs) := hdz
    have HZ : Hid (RowAt .u32 w (some ⟨b, off, none⟩) zs) := hz
    have HZ2 : Hid (RowAt .u32 w (some ⟨b, off, none⟩) (zs.take s)) := hz.take s
    have hts : (zs.take s).length = s := by rw [List.length_take]; omega
    have HTS : Hid ((zs.take s).length = s) := hts
    have hsl : (s : Int) < zs.length := by omega
    have hsp : (s : Int) ≤ p := by omega
    clear c1 c2 hdz hcz hz hss hA hyy hts hc
    by_cases ht : trimL (zs.take s) = []
    · have HT : Hid (trimL (zs.take s) = []) := ht
      have HEX : Hid ((y / 2 ^ (n % 32).toNat * 2 ^ (n % 32).toNat == y) = !lostB (val 4294967296 zs) (2 ^ n.toNat)) := by
        unfold Hid
        rw [back_eq q0]
        have h := HC2.out
        cases hl : lostB (val 4294967296 zs) (2 ^ n.toNat)
        · rw [decide_eq_true (h.1 hl).2]; rfl
        · rw [hl] at h
          rw [decide_eq_false (fun e => by have := h.2 ⟨ht, e⟩; cases this)]
          rfl
      clear ht
      go_enter Tryd.func51, Tryd.ntmps51
      go_wp2
      rw [hs]
      go_quiet (first | (go_at_call 26; refine Calls.quiet_of_same (trimR_nil' (some ⟨b, off, none⟩) p (zs.take s) s _ HTS.out (by omega) (HZ2.out.later (drewN_below _ _)) HT.out)))
      go_wp2
      go_loopw [52] (fun t wr => ∃ (k : Nat) (D : List Int), k ≤ zs.length - s ∧ D.length = k ∧ t = .int .i64 k ∧ Hid (downL 4294967296 (2 ^ (n % 32).toNat) (zs.drop s) = D ++ downL 4294967296 (2 ^ (n % 32).toNat) (zs.drop (s + k))) ∧
          Own .u32 wr w.heap.size 0 (D ++ List.replicate (zs.length - s - k) 0) ∧ Below w.heap.size w wr) (fun t _ => zs.length - s - (intOf t).toNat)
      case atStart =>
        refine ⟨0, [], Nat.zero_le _, rfl, rfl, rfl, ?_, ?_⟩
        · have := Own.made (k := .u32) (w.drewN nq) (zs.length - s) 22
          simpa using this
        · exact (drewN_below _ _).trans (by simpa using bel0 (w.drewN nq) _)
      case round =>
        obtain ⟨k, D, hk, hDl, rfl, hD, hown, hnx⟩ := hrel
        by_cases hlt2 : k < zs.length - s
        · have hk1 : s + k < zs.length := by omega
          have hb1 := HDZ.out.at (by decide) (s + k)
          have hb2 := HDZ.out.at (by decide) (s + k + 1)
          obtain ⟨b1, off1, hbb, g1⟩ := row_cell HZ.out hnx hk1
          have hbe : b1 = b ∧ off1 = off := by
            have h3 := Option.some.inj hbb
            exact ⟨(congrArg Addr.block h3).symm, (congrArg Addr.off h3).symm⟩
          obtain ⟨rfl, rfl⟩ := hbe
          have hst := down_drop (B := 4294967296) (q := 2 ^ (n % 32).toNat) hk1
          obtain ⟨x, hx⟩ : ∃ x, x = zs.getD (s + k) 0 := ⟨_, rfl⟩
          obtain ⟨x', hx'⟩ : ∃ x', x' = zs.getD (s + k + 1) 0 := ⟨_, rfl⟩
          rw [← hx] at hb1 g1 hst
          rw [← hx'] at hb2 hst
          rw [← Nat.add_assoc] at g1
          obtain ⟨hb10, hb11⟩ := hb1
          obtain ⟨hb20, hb21⟩ := hb2
          have g3 := hown.cell k (by simp; omega)
          have g4 := hown.free k (by simp; omega)
          rw [Nat.zero_add] at g3 g4
          by_cases h2 : k + 1 < zs.length - s
          · obtain ⟨b2, off2, hbb2, g2⟩ := row_cell HZ.out hnx (show s + k + 1 < zs.length by omega)
            have hbe2 : b2 = b1 ∧ off2 = off1 := by
              have h3 := Option.some.inj hbb2
              exact ⟨(congrArg Addr.block h3).symm, (congrArg Addr.off h3).symm⟩
            obtain ⟨rfl, rfl⟩ := hbe2
            rw [← hx', show off2 + (s + k + 1) = off2 + s + (k + 1) by omega] at g2
            have hor := or_high hb20 hb21 hb10 hb11
            have hw0 : 0 ≤ x + 4294967296 * x' := by omega
            have hw1 : x + 4294967296 * x' ≤ 18446744073709551615 := by omega
            have hw2 : 0 ≤ (x + 4294967296 * x') / 2 ^ (n % 32).toNat := Int.ediv_nonneg hw0 (by omega)
            have hs1 := hown.set k ((x + 4294967296 * x') / 2 ^ (n % 32).toNat % 4294967296) (by simp; omega)
            rw [Nat.zero_add, show zs.length - s - k = (zs.length - s - (k + 1)) + 1 by omega, List.replicate_succ, set_mid hDl] at hs1
            have HS : Hid (Own .u32 (wr.setCell ⟨w.heap.size, k, none⟩ (.int .u32 ((x + 4294967296 * x') / 2 ^ (n % 32).toNat % 4294967296))) w.heap.size 0 ((D ++ [(x + 4294967296 * x') / 2 ^ (n % 32).toNat % 4294967296]) ++ List.replicate (zs.length - s - (k + 1)) 0)) := by unfold Hid; simpa using hs1
            have HB : Hid (Below w.heap.size w (wr.setCell ⟨w.heap.size, k, none⟩ (.int .u32 ((x + 4294967296 * x') / 2 ^ (n % 32).toNat % 4294967296)))) := hnx.setCell (Nat.le_refl _) _
            have HD : Hid (downL 4294967296 (2 ^ (n % 32).toNat) (zs.drop s) = (D ++ [(x + 4294967296 * x') / 2 ^ (n % 32).toNat % 4294967296]) ++ downL 4294967296 (2 ^ (n % 32).toNat) (zs.drop (s + (k + 1)))) := by unfold Hid; rw [hD.out, hst]; simp [Nat.add_assoc]
            have HL : Hid (D.length = k) := hDl
            clear hst hx hx' hD hown hnx hs1 hbb hbb2 hDl hd0 hd1 hd2 g0
            go_wp2
            go_roundw
            case rel => exact ⟨k + 1, D ++ [(x + 4294967296 * x') / 2 ^ (n % 32).toNat % 4294967296], by omega, by rw [List.length_append, HL.out]; rfl, by go_num, HD, HS.out, HB.out⟩
            case measure => simp [intOf]; omega
          · have hx0 : x' = 0 := by rw [hx']; exact getD_out (by omega)
            have hq1 : 0 ≤ x / 2 ^ (n % 32).toNat := Int.ediv_nonneg hb10 (by omega)
            have hq2 : x / 2 ^ (n % 32).toNat ≤ x := Int.ediv_le_self _ hb10
            have hq3 : x / 2 ^ (n % 32).toNat ≤ 4294967295 := by omega
            rw [hx0, Int.mul_zero, Int.add_zero, Int.emod_eq_of_lt hq1 (by omega)] at hst
            have hs1 := hown.set k (x / 2 ^ (n % 32).toNat) (by simp; omega)
            rw [Nat.zero_add, show zs.length - s - k = (zs.length - s - (k + 1)) + 1 by omega, List.replicate_succ, set_mid hDl] at hs1
            have HS : Hid (Own .u32 (wr.setCell ⟨w.heap.size, k, none⟩ (.int .u32 (x / 2 ^ (n % 32).toNat))) w.heap.size 0 ((D ++ [x / 2 ^ (n % 32).toNat]) ++ List.replicate (zs.length - s - (k + 1)) 0)) := by unfold Hid; simpa using hs1
            have HB : Hid (Below w.heap.size w (wr.setCell ⟨w.heap.size, k, none⟩ (.int .u32 (x / 2 ^ (n % 32).toNat)))) := hnx.setCell (Nat.le_refl _) _
            have HD : Hid (downL 4294967296 (2 ^ (n % 32).toNat) (zs.drop s) = (D ++ [x / 2 ^ (n % 32).toNat]) ++ downL 4294967296 (2 ^ (n % 32).toNat) (zs.drop (s + (k + 1)))) := by unfold Hid; rw [hD.out, hst]; simp [Nat.add_assoc]
            have HL : Hid (D.length = k) := hDl
            clear hst hx hx' hx0 hb20 hb21 hD hown hnx hs1 hbb hDl hd0 hd1 hd2 g0
            go_wp2
            go_roundw
            case rel => exact ⟨k + 1, D ++ [x / 2 ^ (n % 32).toNat], by omega, by rw [List.length_append, HL.out]; rfl, by go_num, HD, HS.out, HB.out⟩
            case measure => simp [intOf]; omega
        · have hkn : k = zs.length - s := by omega
          subst hkn
          have hDD : downL 4294967296 (2 ^ (n % 32).toNat) (zs.drop s) = D := by
            rw [hD.out, List.drop_eq_nil_of_le (by omega)]; simp [downL]
          have hown' : Own .u32 wr w.heap.size 0 D := by simpa using hown
          have HVV : Hid (val 4294967296 D = val 4294967296 zs / 2 ^ n.toNat) := by unfold Hid; rw [← hDD]; exact HC1.out
          have HG : Hid (Dig 4294967296 D) := by unfold Hid; rw [← hDD]; exact dig_down (by decide) _ _
          have HS : Hid (Own .u32 wr w.heap.size 0 D) := hown'
          have HB : Hid (Below w.heap.size w wr) := hnx
          have HLR : Hid (zs.length - s = D.length) := hDl.symm
          clear hown' hDD hD hown hnx hDl g0 hd0 hd1 hd2
          go_wp2_with fail
          rw [HLR.out]
          have e1 := HLR.out
          refine (trimmed_any _ _ D _ w.heap.size (by rw [← e1]; omega) (by rw [← e1]; unfold maxLen; omega) (Nat.le_refl _) (fun h => by cases h) (HS.out.new (Nat.le_refl _))).mono ?_
          rintro e w1 ⟨a2, c2, rfl, hf2, hm2, hr2, hw⟩
          subst hw
          have HM : Hid (DownI w (val 4294967296 zs / 2 ^ n.toNat) zs.length (!lostB (val 4294967296 zs) (2 ^ n.toNat)) (.returned (.tuple #[.slice a2 (trimL D).length c2, .bool (y / 2 ^ (n % 32).toNat * 2 ^ (n % 32).toNat == y)])) w1) := by
            refine ⟨a2, c2, trimL D, by rw [HEX.out], hf2, hm2, canon_trim HG.out, by rw [val_trim, HVV.out], ?_, hr2, HB.out⟩
            have := trim_le D
            omega
          clear hf2 hm2 hr2 HG HVV HB HS e1 HEX
          go_wp2
          refine bodyPost_ret (v := .tuple #[.slice a2 (trimL D).length c2, .bool (y / 2 ^ (n % 32).toNat * 2 ^ (n % 32).toNat == y)]) (by simp [results, Tryd.results51, go_sem]) rfl ?_
          exact HM.out
    · have HT : Hid (trimL (zs.take s) ≠ []) := ht
      have hl0 : ((trimL (zs.take s)).length : Int) ≠ 0 := by
        intro e
        exact ht (List.length_eq_zero_iff.1 (by omega))
      have hl1 : (((trimL (zs.take s)).length : Int) == 0) = false := by rw [beq_eq_false_iff_ne]; exact hl0
      have HEX : Hid (false = !lostB (val 4294967296 zs) (2 ^ n.toNat)) := by
        unfold Hid
        have h := HC2.out
        cases hl : lostB (val 4294967296 zs) (2 ^ n.toNat)
        · exact absurd (h.1 hl).1 ht
        · rfl
      clear ht hl0
      go_enter Tryd.func51, Tryd.ntmps51
      go_wp2
      rw [hs]
      go_quiet (first | (go_at_call 26; refine Calls.quiet_of_same (trimR_cons' (some ⟨b, off, none⟩) p (zs.take s) s _ HTS.out (by omega) (by unfold maxLen; omega) (by omega) (HZ2.out.later (drewN_below _ _)) HT.out)))
      go_wp2
      go_loopw [52] (fun t wr => ∃ (k : Nat) (D : List Int), k ≤ zs.length - s ∧ D.length = k ∧ t = .int .i64 k ∧ Hid (downL 4294967296 (2 ^ (n % 32).toNat) (zs.drop s) = D ++ downL 4294967296 (2 ^ (n % 32).toNat) (zs.drop (s + k))) ∧
          Own .u32 wr w.heap.size 0 (D ++ List.replicate (zs.length - s - k) 0) ∧ Below w.heap.size w wr) (fun t _ => zs.length - s - (intOf t).toNat)
      case atStart =>
        refine ⟨0, [], Nat.zero_le _, rfl, rfl, rfl, ?_, ?_⟩
        · have := Own.made (k := .u32) (w.drewN nq) (zs.length - s) 22
          simpa using this
        · exact (drewN_below _ _).trans (by simpa using bel0 (w.drewN nq) _)
      case round =>
        obtain ⟨k, D, hk, hDl, rfl, hD, hown, hnx⟩ := hrel
        by_cases hlt2 : k < zs.length - s
        · have hk1 : s + k < zs.length := by omega
          have hb1 := HDZ.out.at (by decide) (s + k)
          have hb2 := HDZ.out.at (by decide) (s + k + 1)
          obtain ⟨b1, off1, hbb, g1⟩ := row_cell HZ.out hnx hk1
          have hbe : b1 = b ∧ off1 = off := by
            have h3 := Option.some.inj hbb
            exact ⟨(congrArg Addr.block h3).symm, (congrArg Addr.off h3).symm⟩
          obtain ⟨rfl, rfl⟩ := hbe
          have hst := down_drop (B := 4294967296) (q := 2 ^ (n % 32).toNat) hk1
          obtain ⟨x, hx⟩ : ∃ x, x = zs.getD (s + k) 0 := ⟨_, rfl⟩
          obtain ⟨x', hx'⟩ : ∃ x', x' = zs.getD (s + k + 1) 0 := ⟨_, rfl⟩
          rw [← hx] at hb1 g1 hst
          rw [← hx'] at hb2 hst
          rw [← Nat.add_assoc] at g1
          obtain ⟨hb10, hb11⟩ := hb1
          obtain ⟨hb20, hb21⟩ := hb2
          have g3 := hown.cell k (by simp; omega)
          have g4 := hown.free k (by simp; omega)
          rw [Nat.zero_add] at g3 g4
          by_cases h2 : k + 1 < zs.length - s
          · obtain ⟨b2, off2, hbb2, g2⟩ := row_cell HZ.out hnx (show s + k + 1 < zs.length by omega)
            have hbe2 : b2 = b1 ∧ off2 = off1 := by
              have h3 := Option.some.inj hbb2
              exact ⟨(congrArg Addr.block h3).symm, (congrArg Addr.off h3).symm⟩
            obtain ⟨rfl, rfl⟩ := hbe2
            rw [← hx', show off2 + (s + k + 1) = off2 + s + (k + 1) by omega] at g2
            have hor := or_high hb20 hb21 hb10 hb11
            have hw0 : 0 ≤ x + 4294967296 * x' := by omega
            have hw1 : x + 4294967296 * x' ≤ 18446744073709551615 := by omega
            have hw2 : 0 ≤ (x + 4294967296 * x') / 2 ^ (n % 32).toNat := Int.ediv_nonneg hw0 (by omega)
            have hs1 := hown.set k ((x + 4294967296 * x') / 2 ^ (n % 32).toNat % 4294967296) (by simp; omega)
            rw [Nat.zero_add, show zs.length - s - k = (zs.length - s - (k + 1)) + 1 by omega, List.replicate_succ, set_mid hDl] at hs1
            have HS : Hid (Own .u32 (wr.setCell ⟨w.heap.size, k, none⟩ (.int .u32 ((x + 4294967296 * x') / 2 ^ (n % 32).toNat % 4294967296))) w.heap.size 0 ((D ++ [(x + 4294967296 * x') / 2 ^ (n % 32).toNat % 4294967296]) ++ List.replicate (zs.length - s - (k + 1)) 0)) := by unfold Hid; simpa using hs1
            have HB : Hid (Below w.heap.size w (wr.setCell ⟨w.heap.size, k, none⟩ (.int .u32 ((x + 4294967296 * x') / 2 ^ (n % 32).toNat % 4294967296)))) := hnx.setCell (Nat.le_refl _) _
            have HD : Hid (downL 4294967296 (2 ^ (n % 32).toNat) (zs.drop s) = (D ++ [(x + 4294967296 * x') / 2 ^ (n % 32).toNat % 4294967296]) ++ downL 4294967296 (2 ^ (n % 32).toNat) (zs.drop (s + (k + 1)))) := by unfold Hid; rw [hD.out, hst]; simp [Nat.add_assoc]
            have HL : Hid (D.length = k) := hDl
            clear hst hx hx' hD hown hnx hs1 hbb hbb2 hDl hd0 hd1 hd2 g0
            go_wp2
            go_roundw
            case rel => exact ⟨k + 1, D ++ [(x + 4294967296 * x') / 2 ^ (n % 32).toNat % 4294967296], by omega, by rw [List.length_append, HL.out]; rfl, by go_num, HD, HS.out, HB.out⟩
            case measure => simp [intOf]; omega
          · have hx0 : x' = 0 := by rw [hx']; exact getD_out (by omega)
            have hq1 : 0 ≤ x / 2 ^ (n % 32).toNat := Int.ediv_nonneg hb10 (by omega)
            have hq2 : x / 2 ^ (n % 32).toNat ≤ x := Int.ediv_le_self _ hb10
            have hq3 : x / 2 ^ (n % 32).toNat ≤ 4294967295 := by omega
            rw [hx0, Int.mul_zero, Int.add_zero, Int.emod_eq_of_lt hq1 (by omega)] at hst
            have hs1 := hown.set k (x / 2 ^ (n % 32).toNat) (by simp; omega)
            rw [Nat.zero_add, show zs.length - s - k = (zs.length - s - (k + 1)) + 1 by omega, List.replicate_succ, set_mid hDl] at hs1
            have HS : Hid (Own .u32 (wr.setCell ⟨w.heap.size, k, none⟩ (.int .u32 (x / 2 ^ (n % 32).toNat))) w.heap.size 0 ((D ++ [x / 2 ^ (n % 32).toNat]) ++ List.replicate (zs.length - s - (k + 1)) 0)) := by unfold Hid; simpa using hs1
            have HB : Hid (Below w.heap.size w (wr.setCell ⟨w.heap.size, k, none⟩ (.int .u32 (x / 2 ^ (n % 32).toNat)))) := hnx.setCell (Nat.le_refl _) _
            have HD : Hid (downL 4294967296 (2 ^ (n % 32).toNat) (zs.drop s) = (D ++ [x / 2 ^ (n % 32).toNat]) ++ downL 4294967296 (2 ^ (n % 32).toNat) (zs.drop (s + (k + 1)))) := by unfold Hid; rw [hD.out, hst]; simp [Nat.add_assoc]
            have HL : Hid (D.length = k) := hDl
            clear hst hx hx' hx0 hb20 hb21 hD hown hnx hs1 hbb hDl hd0 hd1 hd2 g0
            go_wp2
            go_roundw
            case rel => exact ⟨k + 1, D ++ [x / 2 ^ (n % 32).toNat], by omega, by rw [List.length_append, HL.out]; rfl, by go_num, HD, HS.out, HB.out⟩
            case measure => simp [intOf]; omega
        · have hkn : k = zs.length - s := by omega
          subst hkn
          have hDD : downL 4294967296 (2 ^ (n % 32).toNat) (zs.drop s) = D := by
            rw [hD.out, List.drop_eq_nil_of_le (by omega)]; simp [downL]
          have hown' : Own .u32 wr w.heap.size 0 D := by simpa using hown
          have HVV : Hid (val 4294967296 D = val 4294967296 zs / 2 ^ n.toNat) := by unfold Hid; rw [← hDD]; exact HC1.out
          have HG : Hid (Dig 4294967296 D) := by unfold Hid; rw [← hDD]; exact dig_down (by decide) _ _
          have HS : Hid (Own .u32 wr w.heap.size 0 D) := hown'
          have HB : Hid (Below w.heap.size w wr) := hnx
          have HLR : Hid (zs.length - s = D.length) := hDl.symm
          clear hown' hDD hD hown hnx hDl g0 hd0 hd1 hd2
          go_wp2_with fail
          rw [HLR.out]
          have e1 := HLR.out
          refine (trimmed_any _ _ D _ w.heap.size (by rw [← e1]; omega) (by rw [← e1]; unfold maxLen; omega) (Nat.le_refl _) (fun h => by cases h) (HS.out.new (Nat.le_refl _))).mono ?_
          rintro e w1 ⟨a2, c2, rfl, hf2, hm2, hr2, hw⟩
          subst hw
          have HM : Hid (DownI w (val 4294967296 zs / 2 ^ n.toNat) zs.length (!lostB (val 4294967296 zs) (2 ^ n.toNat)) (.returned (.tuple #[.slice a2 (trimL D).length c2, .bool (false)])) w1) := by
            refine ⟨a2, c2, trimL D, by rw [HEX.out], hf2, hm2, canon_trim HG.out, by rw [val_trim, HVV.out], ?_, hr2, HB.out⟩
            have := trim_le D
            omega
          clear hf2 hm2 hr2 HG HVV HB HS e1 HEX
          go_wp2
          refine bodyPost_ret (v := .tuple #[.slice a2 (trimL D).length c2, .bool (false)]) (by simp [results, Tryd.results51, go_sem]) rfl ?_
          exact HM.out

end Go.Proofs.YtladfpljnaippaaDoor
