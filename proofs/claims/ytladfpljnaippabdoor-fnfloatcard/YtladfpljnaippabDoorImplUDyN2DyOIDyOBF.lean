/-
  The program's shifts down.
-/
import Derived.Test.YtladfpljnaippabDoorNumGToImplSF
import Derived.Test.YtladfpljnaippabDoorNumWToNumFlF
namespace Go.Proofs.YtladfpljnaippabDoor
open Go.RowKit

/-- A magnitude in new memory, and whether nothing was cut off. -/
def DownI (w : World) (v : Int) (n : Nat) (ex : Bool) (e : Ending) (w' : World) : Prop :=
  ∃ (a : Option Addr) (c : Nat) (fs : List Int), e = .returned (.tuple #[.slice a fs.length c, .bool ex]) ∧ fs.length ≤ c ∧ c ≤ maxLen ∧ Canon 4294967296 fs ∧ val 4294967296 fs = v ∧ fs.length ≤ n ∧ RowNew .u32 w' w.heap.size a fs ∧ Below w.heap.size w w'

theorem cut_all32 {ds : List Int} {n : Int} (hd : Canon 4294967296 ds) (n0 : 0 ≤ n) (h : (ds.length : Int) ≤ n / 32) : val 4294967296 ds / 2 ^ n.toNat = 0 ∧ lostB (val 4294967296 ds) (2 ^ n.toNat) = !decide (ds.length = 0) := by
  have h0 := val_nonneg (B := 4294967296) (by decide) hd.1
  have h1 := val_lt_pow (B := 4294967296) (by decide) hd.1
  have h2 : (4294967296 : Int) ^ ds.length ≤ 2 ^ n.toNat := by
    rw [show (4294967296 : Int) = 2 ^ 32 from rfl, ← Int.pow_mul]
    exact two_pow_le (by omega)
  refine ⟨Int.ediv_eq_zero_of_lt h0 (by omega), ?_⟩
  unfold lostB
  rw [Int.emod_eq_of_lt h0 (by omega)]
  by_cases e : ds.length = 0
  · have : ds = [] := List.length_eq_zero_iff.1 e
    subst this
    simp [val]
  · have := val_pos (B := 4294967296) (by decide) hd (fun h => e (by rw [h]; rfl))
    simp [e]
    omega

theorem cut_some32 {ds : List Int} {n : Int} (hd : Dig 4294967296 ds) (n0 : 0 ≤ n) (h : n / 32 < (ds.length : Int)) : val 4294967296 (downL 4294967296 (2 ^ (n % 32).toNat) (ds.drop (n / 32).toNat)) = val 4294967296 ds / 2 ^ n.toNat ∧ (lostB (val 4294967296 ds) (2 ^ n.toNat) = false ↔ (trimL (ds.take (n / 32).toNat) = [] ∧ ds.getD (n / 32).toNat 0 % 2 ^ (n % 32).toNat = 0)) := by
  obtain ⟨e1, e2⟩ := two32r n
  obtain ⟨e4, _⟩ := two32 n
  have hs : (n / 32).toNat ≤ ds.length := by omega
  rw [← pow32 n n0]
  refine ⟨val_cut e1 e4 e2 (by decide) hd hs, ?_⟩
  unfold lostB
  rw [decide_eq_false_iff_not, Decidable.not_not, cut_exact e4 ⟨_, e1⟩ (by decide) hd hs, trim_anyN]
  have h2 := anyN_val (B := 4294967296) (by decide) (hd.take (n / 32).toNat)
  by_cases h3 : val 4294967296 (ds.take (n / 32).toNat) = 0
  · have : anyN (ds.take (n / 32).toNat) = false := by
      cases h4 : anyN (ds.take (n / 32).toNat)
      · rfl
      · exact absurd h3 (h2.1 h4)
    simp [h3, this]
  · have : anyN (ds.take (n / 32).toNat) = true := h2.2 h3
    simp [h3, this]

/-- Shifted down and up again: nothing was lost, or it is less. -/
theorem back_eq {y q : Int} (_hq : 0 < q) : (y / q * q == y) = decide (y % q = 0) := by
  have h := Int.mul_ediv_add_emod y q
  rw [Int.mul_comm q] at h
  by_cases h0 : y % q = 0
  · rw [decide_eq_true h0, beq_iff_eq]; omega
  · rw [decide_eq_false h0, beq_eq_false_iff_ne]; omega

theorem or_high {y x : Int} (hy0 : 0 ≤ y) (hy1 : y < 4294967296) (hx0 : 0 ≤ x) (hx1 : x < 4294967296) : bits .or .u64 x (y * 4294967296) = x + 4294967296 * y := by
  obtain ⟨a, rfl⟩ := Int.eq_ofNat_of_zero_le hy0
  obtain ⟨b, rfl⟩ := Int.eq_ofNat_of_zero_le hx0
  have h := bits_or_u64_nat b (4294967296 * a) (by omega) (by omega)
  have h2 := Nat.two_pow_add_eq_or_of_lt (i := 32) (b := b) (by omega) a
  rw [show (a : Int) * 4294967296 = ((4294967296 * a : Nat) : Int) by omega, h, Nat.or_comm]
  have h3 : (4294967296 * a ||| b : Nat) = 4294967296 * a + b := h2.symm
  rw [h3]
  omega

set_option maxHeartbeats 400000 in
/-- trimmed, of a row that is read alone: where all is zero. -/
theorem trimR_nil (a : Option Addr) (c : Nat) (ds : List Int) (w : World) (hn : ds.length ≤ 1048576) (hz : RowAt .u32 w a ds) (ht0 : trimL ds = []) :
    Calls Tryd.prog 49 #[.slice a ds.length c] w fun e w' => e = .returned (.slice none 0 0) ∧ w' = w := by
  go_enter Tryd.func49, Tryd.ntmps49
  go_wp2
  go_loop [3] (fun i => ∃ m : Nat, m ≤ ds.length ∧ i = .int .i64 m ∧ Hid (trimL (ds.take m) = [])) (fun i => (intOf i).toNat)
  case atStart => exact ⟨ds.length, by omega, rfl, by unfold Hid; rw [List.take_length]; exact ht0⟩
  case round =>
    obtain ⟨m, hk, rfl, ht⟩ := hrel
    by_cases h0 : m = 0
    · subst h0
      go_wp2
      go_ret
      exact ⟨rfl, rfl⟩
    · obtain ⟨m, rfl⟩ : ∃ m', m = m' + 1 := ⟨m - 1, by omega⟩
      obtain ⟨b, off, rfl, g⟩ := row_cell hz (Below.refl _ _) (show m < ds.length by omega)
      have hz0 : ds.getD m 0 = 0 := by
        by_cases h : ds.getD m 0 = 0
        · exact h
        · have := trim_take_stop hk h
          rw [ht.out] at this
          have h2 := congrArg List.length this
          simp at h2
          omega
      rw [hz0] at g
      have HT : Hid (trimL (ds.take m) = []) := by unfold Hid; rw [← trim_take_step hk hz0]; exact ht.out
      clear ht hz0 ht0
      go_wp2
      go_round
      case rel => exact ⟨m, by omega, by go_num, HT⟩
      case measure => simp [intOf]

set_option maxHeartbeats 400000 in
/-- .. where not all is zero. -/
theorem trimR_cons (a : Option Addr) (c : Nat) (ds : List Int) (w : World) (_hn : ds.length ≤ 1048576) (hm : c ≤ maxLen) (hf : ds.length ≤ c) (hz : RowAt .u32 w a ds) (ht0 : trimL ds ≠ []) :
    Calls Tryd.prog 49 #[.slice a ds.length c] w fun e w' => e = .returned (.slice a (trimL ds).length c) ∧ w' = w := by
  unfold maxLen at hm
  have hne : ds ≠ [] := fun e => ht0 (by rw [e]; rfl)
  obtain ⟨b, off, rfl, hb, hc⟩ := hz.resolve_left hne
  go_enter Tryd.func49, Tryd.ntmps49
  go_wp2
  go_loop [3] (fun i => ∃ m : Nat, m ≤ ds.length ∧ i = .int .i64 m ∧ Hid (trimL (ds.take m) = trimL ds)) (fun i => (intOf i).toNat)
  case atStart => exact ⟨ds.length, by omega, rfl, by unfold Hid; rw [List.take_length]⟩
  case round =>
    obtain ⟨m, hk, rfl, ht⟩ := hrel
    by_cases h0 : m = 0
    · subst h0
      exact absurd (by rw [← ht.out]; simp [trimL]) ht0
    · obtain ⟨m, rfl⟩ : ∃ m', m = m' + 1 := ⟨m - 1, by omega⟩
      have g := hc m (by omega)
      have hm0 : ((m : Int) + 1 == 0) = false := by rw [beq_eq_false_iff_ne]; omega
      obtain ⟨y, hy⟩ : ∃ y, y = ds.getD m 0 := ⟨_, rfl⟩
      rw [← hy] at g
      by_cases hz0 : y = 0
      · have HT : Hid (trimL (ds.take m) = trimL ds) := by unfold Hid; rw [← trim_take_step hk (by rw [← hy]; exact hz0)]; exact ht.out
        subst hz0
        clear ht ht0 hc hy hne
        go_wp2
        go_round
        case rel => exact ⟨m, by omega, by go_num, HT⟩
        case measure => simp [intOf]
      · have hst := trim_take_stop hk (by rw [← hy]; exact hz0)
        rw [ht.out] at hst
        have HL : Hid ((trimL ds).length = m + 1) := by unfold Hid; rw [hst, List.length_take]; omega
        have hz1 : (y == 0) = false := by rw [beq_eq_false_iff_ne]; exact hz0
        clear ht ht0 hc hy hne hst
        go_wp2
        go_ret
        rw [HL.out]
        exact ⟨rfl, rfl⟩

theorem trimR_nil' (a : Option Addr) (c : Nat) (ds : List Int) (m : Nat) (w : World) (hm : ds.length = m) (hn : m ≤ 1048576) (hz : RowAt .u32 w a ds) (ht0 : trimL ds = []) :
    Calls Tryd.prog 49 #[.slice a m c] w fun e w' => e = .returned (.slice none 0 0) ∧ w' = w := by
  subst hm
  exact trimR_nil a c ds w hn hz ht0

theorem trimR_cons' (a : Option Addr) (c : Nat) (ds : List Int) (m : Nat) (w : World) (hl : ds.length = m) (hn : m ≤ 1048576) (hm : c ≤ maxLen) (hf : m ≤ c) (hz : RowAt .u32 w a ds) (ht0 : trimL ds ≠ []) :
    Calls Tryd.prog 49 #[.slice a m c] w fun e w' => e = .returned (.slice a (trimL ds).length c) ∧ w' = w := by
  subst hl
  exact trimR_cons a c ds w hn hm hf hz ht0

theorem drewN_below (w : World) (n : Nat) : Below w.heap.size w (w.drewN n) := below_drewN (Below.refl _ _) _

set_option maxHeartbeats 4000000 in
theorem downI_any (a : Option Addr) (p : Nat) (zs : List Int) (n : Int) (w : World) (hn : zs.length ≤ 100000) (hp : zs.length ≤ p) (hpm : p ≤ maxLen) (n0 : 0 ≤ n) (n1 : n ≤ 1000000) (hz : RowAt .u32 w a zs) (hcz : Canon 4294967296 zs) :
    Calls Tryd.prog 80 #[.slice a zs.length p, .int .i64 n] w fun e w' => DownI w (val 4294967296 zs / 2 ^ n.toNat) zs.length (!lostB (val 4294967296 zs) (2 ^ n.toNat)) e w' := by
  obtain ⟨q0, q1⟩ := two32 n
  obtain ⟨s, hs⟩ : ∃ s : Nat, n / 32 = (s : Int) := ⟨(n / 32).toNat, by omega⟩
  have hss : (n / 32).toNat = s := by omega
  have hdz := hcz.1
  unfold maxLen at hpm
  by_cases hA : (zs.length : Int) ≤ n / 32
  · obtain ⟨c1, c2⟩ := cut_all32 hcz n0 hA
    have HM : Hid (DownI w (val 4294967296 zs / 2 ^ n.toNat) zs.length (!lostB (val 4294967296 zs) (2 ^ n.toNat)) (.returned (.tuple #[.slice none 0 0, .bool ((zs.length : Int) == 0)])) w) := by
      unfold Hid
      rw [c1, c2]
      refine ⟨none, 0, [], ?_, by simp, by unfold maxLen; omega, ⟨Dig.nil _, rfl⟩, rfl, by simp, .inl rfl, Below.refl _ _⟩
      by_cases h : zs.length = 0
      · simp [h]
      · simp [h]
    rw [hs] at hA
    clear c1 c2 hdz hcz hz hss
    go_enter Tryd.func80, Tryd.ntmps80
    go_wp2
    refine bodyPost_ret (v := .tuple #[.slice none 0 0, .bool ((zs.length : Int) == 0)]) (by simp [results, Tryd.results80, go_sem]) rfl ?_
    exact HM.out
  · have hlt : s < zs.length := by omega
    obtain ⟨c1, c2⟩ := cut_some32 hdz n0 (by omega)
    rw [hss] at c1 c2
    obtain ⟨b, off, rfl, hb, hc⟩ := hz.resolve_left (by intro e; rw [e] at hlt; simp at hlt)
    have hmk := run_make_row' (P := Tryd.prog) 86 33 (.int .u32 0) 4 Tryd.underlying86 Tryd.info33 rfl .i64 .i64 (zs.length - s) (by omega) (by omega)
    have hy := hdz.at (by decide) s
    obtain ⟨y, hyy⟩ : ∃ y, y = zs.getD s 0 := ⟨_, rfl⟩
    rw [← hyy] at hy c2
    have g0 := hc s hlt
    rw [← hyy] at g0
    obtain ⟨hy0, hy1⟩ := hy
    have hd0 : 0 ≤ y / 2 ^ (n % 32).toNat := Int.ediv_nonneg hy0 (by omega)
    have hd1 : y / 2 ^ (n % 32).toNat * 2 ^ (n % 32).toNat ≤ y := Int.ediv_mul_le _ (by omega)
    have hd2 : 0 ≤ y / 2 ^ (n % 32).toNat * 2 ^ (n % 32).toNat := Int.mul_nonneg hd0 (by omega)
    have HC1 : Hid (val 4294967296 (downL 4294967296 (2 ^ (n % 32).toNat) (zs.drop s)) = val 4294967296 zs / 2 ^ n.toNat) := c1
    have HC2 : Hid (lostB (val 4294967296 zs) (2 ^ n.toNat) = false ↔ (trimL (zs.take s) = [] ∧ y % 2 ^ (n % 32).toNat = 0)) := c2
    have HDZ : Hid (Dig 4294967296 zs) := hdz
    have HZ : Hid (RowAt .u32 w (some ⟨b, off, none⟩) zs) := hz
    have HZ2 : Hid (RowAt .u32 w (some ⟨b, off, none⟩) (zs.take s)) := hz.take s
    have hts : (zs.take s).length = s := by rw [List.length_take]; omega
    have HTS : Hid ((zs.take s).length = s) := hts
    have hsl : (s : Int) < zs.length := by omega
    have hsp : (s : Int) ≤ p := by omega
    clear c1 c2 hdz hcz hz hss hA hyy hts hc
    by_cases ht : trimL (zs.take s) = []
    · have HT : Hid (trimL (zs.take s) = []) := ht
      have HEX : Hid ((y / 2 ^ (n % 32).toNat * 2 ^ (n % 32).toNat == y) = !lostB (val 4294967296 zs) (2 ^ n.toNat)) := by
        unfold Hid
        rw [back_eq q0]
        have h := HC2.out
        cases hl : lostB (val 4294967296 zs) (2 ^ n.toNat)
        · rw [decide_eq_true (h.1 hl).2]; rfl
        · rw [hl] at h
          rw [decide_eq_false (fun e => by have := h.2 ⟨ht, e⟩; cases this)]
          rfl
      clear ht
      go_enter Tryd.func80, Tryd.ntmps80
      go_wp2
      rw [hs]
      go_quiet (first | (go_at_call 49; refine Calls.quiet_of_same (trimR_nil' (some ⟨b, off, none⟩) p (zs.take s) s _ HTS.out (by omega) (HZ2.out.later (drewN_below _ _)) HT.out)))
      go_wp2
      go_loopw [52] (fun t wr => ∃ (k : Nat) (D : List Int), k ≤ zs.length - s ∧ D.length = k ∧ t = .int .i64 k ∧ Hid (downL 4294967296 (2 ^ (n % 32).toNat) (zs.drop s) = D ++ downL 4294967296 (2 ^ (n % 32).toNat) (zs.drop (s + k))) ∧
          Own .u32 wr w.heap.size 0 (D ++ List.replicate (zs.length - s - k) 0) ∧ Below w.heap.size w wr) (fun t _ => zs.length - s - (intOf t).toNat)
      case atStart =>
        refine ⟨0, [], Nat.zero_le _, rfl, rfl, rfl, ?_, ?_⟩
        · have := Own.made (k := .u32) (w.drewN nq) (zs.length - s) 33
          simpa using this
        · exact (drewN_below _ _).trans (by simpa using bel0 (w.drewN nq) _)
      case round =>
        obtain ⟨k, D, hk, hDl, rfl, hD, hown, hnx⟩ := hrel
        by_cases hlt2 : k < zs.length - s
        · have hk1 : s + k < zs.length := by omega
          have hb1 := HDZ.out.at (by decide) (s + k)
          have hb2 := HDZ.out.at (by decide) (s + k + 1)
          obtain ⟨b1, off1, hbb, g1⟩ := row_cell HZ.out hnx hk1
          have hbe : b1 = b ∧ off1 = off := by
            have h3 := Option.some.inj hbb
            exact ⟨(congrArg Addr.block h3).symm, (congrArg Addr.off h3).symm⟩
          obtain ⟨rfl, rfl⟩ := hbe
          have hst := down_drop (B := 4294967296) (q := 2 ^ (n % 32).toNat) hk1
          obtain ⟨x, hx⟩ : ∃ x, x = zs.getD (s + k) 0 := ⟨_, rfl⟩
          obtain ⟨x', hx'⟩ : ∃ x', x' = zs.getD (s + k + 1) 0 := ⟨_, rfl⟩
          rw [← hx] at hb1 g1 hst
          rw [← hx'] at hb2 hst
          rw [← Nat.add_assoc] at g1
          obtain ⟨hb10, hb11⟩ := hb1
          obtain ⟨hb20, hb21⟩ := hb2
          have g3 := hown.cell k (by simp; omega)
          have g4 := hown.free k (by simp; omega)
          rw [Nat.zero_add] at g3 g4
          by_cases h2 : k + 1 < zs.length - s
          · obtain ⟨b2, off2, hbb2, g2⟩ := row_cell HZ.out hnx (show s + k + 1 < zs.length by omega)
            have hbe2 : b2 = b1 ∧ off2 = off1 := by
              have h3 := Option.some.inj hbb2
              exact ⟨(congrArg Addr.block h3).symm, (congrArg Addr.off h3).symm⟩
            obtain ⟨rfl, rfl⟩ := hbe2
            rw [← hx', show off2 + (s + k + 1) = off2 + s + (k + 1) by omega] at g2
            have hor := or_high hb20 hb21 hb10 hb11
            have hw0 : 0 ≤ x + 4294967296 * x' := by omega
            have hw1 : x + 4294967296 * x' ≤ 18446744073709551615 := by omega
            have hw2 : 0 ≤ (x + 4294967296 * x') / 2 ^ (n % 32).toNat := Int.ediv_nonneg hw0 (by omega)
            have hs1 := hown.set k ((x + 4294967296 * x') / 2 ^ (n % 32).toNat % 4294967296) (by simp; omega)
            rw [Nat.zero_add, show zs.length - s - k = (zs.length - s - (k + 1)) + 1 by omega, List.replicate_succ, set_mid hDl] at hs1
            have HS : Hid (Own .u32 (wr.setCell ⟨w.heap.size, k, none⟩ (.int .u32 ((x + 4294967296 * x') / 2 ^ (n % 32).toNat % 4294967296))) w.heap.size 0 ((D ++ [(x + 4294967296 * x') / 2 ^ (n % 32).toNat % 4294967296]) ++ List.replicate (zs.length - s - (k + 1)) 0)) := by unfold Hid; simpa using hs1
            have HB : Hid (Below w.heap.size w (wr.setCell ⟨w.heap.size, k, none⟩ (.int .u32 ((x + 4294967296 * x') / 2 ^ (n % 32).toNat % 4294967296)))) := hnx.setCell (Nat.le_refl _) _
            have HD : Hid (downL 4294967296 (2 ^ (n % 32).toNat) (zs.drop s) = (D ++ [(x + 4294967296 * x') / 2 ^ (n % 32).toNat % 4294967296]) ++ downL 4294967296 (2 ^ (n % 32).toNat) (zs.drop (s + (k + 1)))) := by unfold Hid; rw [hD.out, hst]; simp [Nat.add_assoc]
            have HL : Hid (D.length = k) := hDl
            clear hst hx hx' hD hown hnx hs1 hbb hbb2 hDl hd0 hd1 hd2 g0
            go_wp2
            go_roundw
            case rel => exact ⟨k + 1, D ++ [(x + 4294967296 * x') / 2 ^ (n % 32).toNat % 4294967296], by omega, by rw [List.length_append, HL.out]; rfl, by go_num, HD, HS.out, HB.out⟩
            case measure => simp [intOf]; omega
          · have hx0 : x' = 0 := by rw [hx']; exact getD_out (by omega)
            have hq1 : 0 ≤ x / 2 ^ (n % 32).toNat := Int.ediv_nonneg hb10 (by omega)
            have hq2 : x / 2 ^ (n % 32).toNat ≤ x := Int.ediv_le_self _ hb10
            have hq3 : x / 2 ^ (n % 32).toNat ≤ 4294967295 := by omega
            rw [hx0, Int.mul_zero, Int.add_zero, Int.emod_eq_of_lt hq1 (by omega)] at hst
            have hs1 := hown.set k (x / 2 ^ (n % 32).toNat) (by simp; omega)
            rw [Nat.zero_add, show zs.length - s - k = (zs.length - s - (k + 1)) + 1 by omega, List.replicate_succ, set_mid hDl] at hs1
            have HS : Hid (Own .u32 (wr.setCell ⟨w.heap.size, k, none⟩ (.int .u32 (x / 2 ^ (n % 32).toNat))) w.heap.size 0 ((D ++ [x / 2 ^ (n % 32).toNat]) ++ List.replicate (zs.length - s - (k + 1)) 0)) := by unfold Hid; simpa using hs1
            have HB : Hid (Below w.heap.size w (wr.setCell ⟨w.heap.size, k, none⟩ (.int .u32 (x / 2 ^ (n % 32).toNat)))) := hnx.setCell (Nat.le_refl _) _
            have HD : Hid (downL 4294967296 (2 ^ (n % 32).toNat) (zs.drop s) = (D ++ [x / 2 ^ (n % 32).toNat]) ++ downL 4294967296 (2 ^ (n % 32).toNat) (zs.drop (s + (k + 1)))) := by unfold Hid; rw [hD.out, hst]; simp [Nat.add_assoc]
            have HL : Hid (D.length = k) := hDl
            clear hst hx hx' hx0 hb20 hb21 hD hown hnx hs1 hbb hDl hd0 hd1 hd2 g0
            go_wp2
            go_roundw
            case rel => exact ⟨k + 1, D ++ [x / 2 ^ (n % 32).toNat], by omega, by rw [List.length_append, HL.out]; rfl, by go_num, HD, HS.out, HB.out⟩
            case measure => simp [intOf]; omega
        · have hkn : k = zs.length - s := by omega
          subst hkn
          have hDD : downL 4294967296 (2 ^ (n % 32).toNat) (zs.drop s) = D := by
            rw [hD.out, List.drop_eq_nil_of_le (by omega)]; simp [downL]
          have hown' : Own .u32 wr w.heap.size 0 D := by simpa using hown
          have HVV : Hid (val 4294967296 D = val 4294967296 zs / 2 ^ n.toNat) := by unfold Hid; rw [← hDD]; exact HC1.out
          have HG : Hid (Dig 4294967296 D) := by unfold Hid; rw [← hDD]; exact dig_down (by decide) _ _
          have HS : Hid (Own .u32 wr w.heap.size 0 D) := hown'
          have HB : Hid (Below w.heap.size w wr) := hnx
          have HLR : Hid (zs.length - s = D.length) := hDl.symm
          clear hown' hDD hD hown hnx hDl g0 hd0 hd1 hd2
          go_wp2_with fail
          rw [HLR.out]
          have e1 := HLR.out
          refine (trimmed_any _ _ D _ w.heap.size (by rw [← e1]; omega) (by rw [← e1]; unfold maxLen; omega) (Nat.le_refl _) (fun h => by cases h) (HS.out.new (Nat.le_refl _))).mono ?_
          rintro e w1 ⟨a2, c2, rfl, hf2, hm2, hr2, hw⟩
          subst hw
          have HM : Hid (DownI w (val 4294967296 zs / 2 ^ n.toNat) zs.length (!lostB (val 4294967296 zs) (2 ^ n.toNat)) (.returned (.tuple #[.slice a2 (trimL D).length c2, .bool (y / 2 ^ (n % 32).toNat * 2 ^ (n % 32).toNat == y)])) w1) := by
            refine ⟨a2, c2, trimL D, by rw [HEX.out], hf2, hm2, canon_trim HG.out, by rw [val_trim, HVV.out], ?_, hr2, HB.out⟩
            have := trim_le D
            omega
          clear hf2 hm2 hr2 HG HVV HB HS e1 HEX
          go_wp2
          refine bodyPost_ret (v := .tuple #[.slice a2 (trimL D).length c2, .bool (y / 2 ^ (n % 32).toNat * 2 ^ (n % 32).toNat == y)]) (by simp [results, Tryd.results80, go_sem]) rfl ?_
          exact HM.out
    · have HT : Hid (trimL (zs.take s) ≠ []) := ht
      have hl0 : ((trimL (zs.take s)).length : Int) ≠ 0 := by
        intro e
        exact ht (List.length_eq_zero_iff.1 (by omega))
      have hl1 : (((trimL (zs.take s)).length : Int) == 0) = false := by rw [beq_eq_false_iff_ne]; exact hl0
      have HEX : Hid (false = !lostB (val 4294967296 zs) (2 ^ n.toNat)) := by
        unfold Hid
        have h := HC2.out
        cases hl : lostB (val 4294967296 zs) (2 ^ n.toNat)
        · exact absurd (h.1 hl).1 ht
        · rfl
      clear ht hl0
      go_enter Tryd.func80, Tryd.ntmps80
      go_wp2
      rw [hs]
      go_quiet (first | (go_at_call 49; refine Calls.quiet_of_same (trimR_cons' (some ⟨b, off, none⟩) p (zs.take s) s _ HTS.out (by omega) (by unfold maxLen; omega) (by omega) (HZ2.out.later (drewN_below _ _)) HT.out)))
      go_wp2
      go_loopw [52] (fun t wr => ∃ (k : Nat) (D : List Int), k ≤ zs.length - s ∧ D.length = k ∧ t = .int .i64 k ∧ Hid (downL 4294967296 (2 ^ (n % 32).toNat) (zs.drop s) = D ++ downL 4294967296 (2 ^ (n % 32).toNat) (zs.drop (s + k))) ∧
          Own .u32 wr w.heap.size 0 (D ++ List.replicate (zs.length - s - k) 0) ∧ Below w.heap.size w wr) (fun t _ => zs.length - s - (intOf t).toNat)
      case atStart =>
        refine ⟨0, [], Nat.zero_le _, rfl, rfl, rfl, ?_, ?_⟩
        · have := Own.made (k := .u32) (w.drewN nq) (zs.length - s) 33
          simpa using this
        · exact (drewN_below _ _).trans (by simpa using bel0 (w.drewN nq) _)
      case round =>
        obtain ⟨k, D, hk, hDl, rfl, hD, hown, hnx⟩ := hrel
        by_cases hlt2 : k < zs.length - s
        · have hk1 : s + k < zs.length := by omega
          have hb1 := HDZ.out.at (by decide) (s + k)
          have hb2 := HDZ.out.at (by decide) (s + k + 1)
          obtain ⟨b1, off1, hbb, g1⟩ := row_cell HZ.out hnx hk1
          have hbe : b1 = b ∧ off1 = off := by
            have h3 := Option.some.inj hbb
            exact ⟨(congrArg Addr.block h3).symm, (congrArg Addr.off h3).symm⟩
          obtain ⟨rfl, rfl⟩ := hbe
          have hst := down_drop (B := 4294967296) (q := 2 ^ (n % 32).toNat) hk1
          obtain ⟨x, hx⟩ : ∃ x, x = zs.getD (s + k) 0 := ⟨_, rfl⟩
          obtain ⟨x', hx'⟩ : ∃ x', x' = zs.getD (s + k + 1) 0 := ⟨_, rfl⟩
          rw [← hx] at hb1 g1 hst
          rw [← hx'] at hb2 hst
          rw [← Nat.add_assoc] at g1
          obtain ⟨hb10, hb11⟩ := hb1
          obtain ⟨hb20, hb21⟩ := hb2
          have g3 := hown.cell k (by simp; omega)
          have g4 := hown.free k (by simp; omega)
          rw [Nat.zero_add] at g3 g4
          by_cases h2 : k + 1 < zs.length - s
          · obtain ⟨b2, off2, hbb2, g2⟩ := row_cell HZ.out hnx (show s + k + 1 < zs.length by omega)
            have hbe2 : b2 = b1 ∧ off2 = off1 := by
              have h3 := Option.some.inj hbb2
              exact ⟨(congrArg Addr.block h3).symm, (congrArg Addr.off h3).symm⟩
            obtain ⟨rfl, rfl⟩ := hbe2
            rw [← hx', show off2 + (s + k + 1) = off2 + s + (k + 1) by omega] at g2
            have hor := or_high hb20 hb21 hb10 hb11
            have hw0 : 0 ≤ x + 4294967296 * x' := by omega
            have hw1 : x + 4294967296 * x' ≤ 18446744073709551615 := by omega
            have hw2 : 0 ≤ (x + 4294967296 * x') / 2 ^ (n % 32).toNat := Int.ediv_nonneg hw0 (by omega)
            have hs1 := hown.set k ((x + 4294967296 * x') / 2 ^ (n % 32).toNat % 4294967296) (by simp; omega)
            rw [Nat.zero_add, show zs.length - s - k = (zs.length - s - (k + 1)) + 1 by omega, List.replicate_succ, set_mid hDl] at hs1
            have HS : Hid (Own .u32 (wr.setCell ⟨w.heap.size, k, none⟩ (.int .u32 ((x + 4294967296 * x') / 2 ^ (n % 32).toNat % 4294967296))) w.heap.size 0 ((D ++ [(x + 4294967296 * x') / 2 ^ (n % 32).toNat % 4294967296]) ++ List.replicate (zs.length - s - (k + 1)) 0)) := by unfold Hid; simpa using hs1
            have HB : Hid (Below w.heap.size w (wr.setCell ⟨w.heap.size, k, none⟩ (.int .u32 ((x + 4294967296 * x') / 2 ^ (n % 32).toNat % 4294967296)))) := hnx.setCell (Nat.le_refl _) _
            have HD : Hid (downL 4294967296 (2 ^ (n % 32).toNat) (zs.drop s) = (D ++ [(x + 4294967296 * x') / 2 ^ (n % 32).toNat % 4294967296]) ++ downL 4294967296 (2 ^ (n % 32).toNat) (zs.drop (s + (k + 1)))) := by unfold Hid; rw [hD.out, hst]; simp [Nat.add_assoc]
            have HL : Hid (D.length = k) := hDl
            clear hst hx hx' hD hown hnx hs1 hbb hbb2 hDl hd0 hd1 hd2 g0
            go_wp2
            go_roundw
            case rel => exact ⟨k + 1, D ++ [(x + 4294967296 * x') / 2 ^ (n % 32).toNat % 4294967296], by omega, by rw [List.length_append, HL.out]; rfl, by go_num, HD, HS.out, HB.out⟩
            case measure => simp [intOf]; omega
          · have hx0 : x' = 0 := by rw [hx']; exact getD_out (by omega)
            have hq1 : 0 ≤ x / 2 ^ (n % 32).toNat := Int.ediv_nonneg hb10 (by omega)
            have hq2 : x / 2 ^ (n % 32).toNat ≤ x := Int.ediv_le_self _ hb10
            have hq3 : x / 2 ^ (n % 32).toNat ≤ 4294967295 := by omega
            rw [hx0, Int.mul_zero, Int.add_zero, Int.emod_eq_of_lt hq1 (by omega)] at hst
            have hs1 := hown.set k (x / 2 ^ (n % 32).toNat) (by simp; omega)
            rw [Nat.zero_add, show zs.length - s - k = (zs.length - s - (k + 1)) + 1 by omega, List.replicate_succ, set_mid hDl] at hs1
            have HS : Hid (Own .u32 (wr.setCell ⟨w.heap.size, k, none⟩ (.int .u32 (x / 2 ^ (n % 32).toNat))) w.heap.size 0 ((D ++ [x / 2 ^ (n % 32).toNat]) ++ List.replicate (zs.length - s - (k + 1)) 0)) := by unfold Hid; simpa using hs1
            have HB : Hid (Below w.heap.size w (wr.setCell ⟨w.heap.size, k, none⟩ (.int .u32 (x / 2 ^ (n % 32).toNat)))) := hnx.setCell (Nat.le_refl _) _
            have HD : Hid (downL 4294967296 (2 ^ (n % 32).toNat) (zs.drop s) = (D ++ [x / 2 ^ (n % 32).toNat]) ++ downL 4294967296 (2 ^ (n % 32).toNat) (zs.drop (s + (k + 1)))) := by unfold Hid; rw [hD.out, hst]; simp [Nat.add_assoc]
            have HL : Hid (D.length = k) := hDl
            clear hst hx hx' hx0 hb20 hb21 hD hown hnx hs1 hbb hDl hd0 hd1 hd2 g0
            go_wp2
            go_roundw
            case rel => exact ⟨k + 1, D ++ [x / 2 ^ (n % 32).toNat], by omega, by rw [List.length_append, HL.out]; rfl, by go_num, HD, HS.out, HB.out⟩
            case measure => simp [intOf]; omega
        · have hkn : k = zs.length - s := by omega
          subst hkn
          have hDD : downL 4294967296 (2 ^ (n % 32).toNat) (zs.drop s) = D := by
            rw [hD.out, List.drop_eq_nil_of_le (by omega)]; simp [downL]
          have hown' : Own .u32 wr w.heap.size 0 D := by simpa using hown
          have HVV : Hid (val 4294967296 D = val 4294967296 zs / 2 ^ n.toNat) := by unfold Hid; rw [← hDD]; exact HC1.out
          have HG : Hid (Dig 4294967296 D) := by unfold Hid; rw [← hDD]; exact dig_down (by decide) _ _
          have HS : Hid (Own .u32 wr w.heap.size 0 D) := hown'
          have HB : Hid (Below w.heap.size w wr) := hnx
          have HLR : Hid (zs.length - s = D.length) := hDl.symm
          clear hown' hDD hD hown hnx hDl g0 hd0 hd1 hd2
          go_wp2_with fail
          rw [HLR.out]
          have e1 := HLR.out
          refine (trimmed_any _ _ D _ w.heap.size (by rw [← e1]; omega) (by rw [← e1]; unfold maxLen; omega) (Nat.le_refl _) (fun h => by cases h) (HS.out.new (Nat.le_refl _))).mono ?_
          rintro e w1 ⟨a2, c2, rfl, hf2, hm2, hr2, hw⟩
          subst hw
          have HM : Hid (DownI w (val 4294967296 zs / 2 ^ n.toNat) zs.length (!lostB (val 4294967296 zs) (2 ^ n.toNat)) (.returned (.tuple #[.slice a2 (trimL D).length c2, .bool (false)])) w1) := by
            refine ⟨a2, c2, trimL D, by rw [HEX.out], hf2, hm2, canon_trim HG.out, by rw [val_trim, HVV.out], ?_, hr2, HB.out⟩
            have := trim_le D
            omega
          clear hf2 hm2 hr2 HG HVV HB HS e1 HEX
          go_wp2
          refine bodyPost_ret (v := .tuple #[.slice a2 (trimL D).length c2, .bool (false)]) (by simp [results, Tryd.results80, go_sem]) rfl ?_
          exact HM.out

end Go.Proofs.YtladfpljnaippabDoor

/-
  The program's normal forms.
-/
namespace Go.Proofs.YtladfpljnaippabDoor
open Go.RowKit

/-- What a function of the program answers that gives a Dyadic and a code: in new memory. -/
def OutDI (w : World) (ok : Bool) (v : Int) (e : Ending) (w' : World) : Prop :=
  ∃ (G : Bool) (Z : List Int) (E K : Int) (a : Option Addr) (c : Nat), e = .returned (.tuple #[.agg #[.bool G, .slice a Z.length c, .int .i64 E], .int .i64 K]) ∧ ResD ok v G Z E K ∧ RowNew .u32 w' w.heap.size a Z ∧ Below w.heap.size w w'

theorem nil_b1 : B1 false [] 0 := ⟨⟨Dig.nil _, rfl⟩, by simp [sg, val], fun h => by cases h⟩

set_option maxRecDepth 100000 in
set_option maxHeartbeats 4000000 in
theorem normalI_any (g : Bool) (a : Option Addr) (c : Nat) (zs : List Int) (x E : Int) (w : World) (hn : zs.length ≤ 60000) (he0 : -60000 ≤ E) (he1 : E ≤ 60000) (hz : RowAt .u32 w a zs) (h : B1 g zs x) (hcap : zs.length ≤ c ∧ c ≤ maxLen) (hT : Tab w) :
    Calls Tryd.prog 39 #[.agg #[.bool g, .slice a zs.length c, .int .i64 E]] w fun e w' => OutDI w true (atK 100000 x E) e w' := by
  have B0 : Hid (∀ t t', Bx3 w (.bool g) (.slice a zs.length c) (.int .i64 E) ((w.alloc (.cells #[.bool g, .slice a zs.length c, .int .i64 E] t)).alloc (.cells #[.bool false, .slice none 0 0, .int .i64 0] t'))) := fun t t' => Bx3.start w _ _ _ _ _
  obtain ⟨v, hv⟩ : ∃ v, v = atK 100000 x E := ⟨_, rfl⟩
  have HV : Hid (v = atK 100000 x E) := hv
  rw [← hv]
  clear hv
  by_cases hne : zs = []
  · subst hne
    have hx : x = 0 := by rw [h.num]; cases g <;> simp [sg, val]
    have HO : Hid (ResD true v false [] 0 0) := .inr ⟨rfl, 0, 0, .inl ⟨by rw [HV.out, hx]; simp [atK], rfl, rfl⟩, .inl ⟨⟨nil_b1.fits (by simp), by decide, by decide⟩, nil_b1, rfl, rfl⟩⟩
    clear h hx hz hcap hT
    go_enter Tryd.func39, Tryd.ntmps39
    go_wp2
    refine bodyPost_ret (v := .tuple #[.agg #[.bool false, .slice none 0 0, .int .i64 0], .int .i64 0]) (by simp [results, Tryd.results39, go_sem]) rfl ?_
    refine ⟨false, [], 0, 0, none, 0, rfl, HO.out, .inl rfl, ?_⟩
    exact (B0.out _ _).bel
  · have hlen : ((zs.length : Int) == 0) = false := by
      rw [beq_eq_false_iff_ne]
      have := List.length_pos_iff.2 hne
      omega
    have HB1 : Hid (B1 g zs x) := h
    have HNE : Hid (zs ≠ []) := hne
    have HT : Hid (Tab w) := hT
    clear h hne hT
    go_enter Tryd.func39, Tryd.ntmps39
    go_wp2_with fail
    refine (lowZ_any a c zs _ (by omega) (hz.later (B0.out _ _).bel) HB1.out.can HNE.out (HT.out.later (B0.out _ _).bel)).mono ?_
    rintro e W1 ⟨t, rfl, ht, htw, hb1⟩
    have F1 : Hid (Bx3 w (.bool g) (.slice a zs.length c) (.int .i64 E) W1) := (B0.out _ _).later hb1
    have HN : Hid (Norm (atK 100000 x E) (sg g (val 4294967296 zs / 2 ^ t)) (E + t)) := norm_twos HB1.out HNE.out (by omega) htw
    rw [← HV.out] at HN
    obtain ⟨e', he'⟩ : ∃ e', e' = E + t := ⟨_, rfl⟩
    have hsum : E + (t : Int) = e' := he'.symm
    rw [hsum] at HN
    clear he'
    have q2 := F1.out.q2
    have ht' : (t : Int) ≤ 1920000 := by omega
    clear hb1 htw B0
    by_cases hr : e' < -20000 ∨ 20000 < e'
    · have HO : Hid (ResD true v false [] 0 2) := .inr ⟨rfl, _, _, HN.out, .inr ⟨by omega, rfl, rfl, rfl, rfl⟩⟩
      have r1 := F1.out.r1
      have r2 := F1.out.r2
      have r3 := F1.out.r3
      have r4 := F1.out.r4
      have fin : Hid (∀ W, Below w.heap.size w W → OutDI w true v (.returned (.tuple #[.agg #[.bool false, .slice none 0 0, .int .i64 0], .int .i64 2])) W) := fun W hW => ⟨false, [], 0, 2, none, 0, rfl, HO.out, .inl rfl, hW⟩
      by_cases hr1 : e' < -20000
      · go_wp2
        refine bodyPost_ret (v := .tuple #[.agg #[.bool false, .slice none 0 0, .int .i64 0], .int .i64 2]) (by simp [results, Tryd.results39, go_sem, r1, r2, r3]) rfl ?_
        exact fin.out _ (((F1.out.bel.setCell (by simp) _).setCell (by simp) _).setCell (by simp) _)
      · have hr2 : 20000 < e' := by omega
        go_wp2
        refine bodyPost_ret (v := .tuple #[.agg #[.bool false, .slice none 0 0, .int .i64 0], .int .i64 2]) (by simp [results, Tryd.results39, go_sem, r1, r2, r3]) rfl ?_
        exact fin.out _ (((F1.out.bel.setCell (by simp) _).setCell (by simp) _).setCell (by simp) _)
    · have hr1 : ¬ e' < -20000 := by omega
      have hr2 : ¬ 20000 < e' := by omega
      have htb : (t : Int) ≤ 80000 := by omega
      clear hr
      go_wp2_with fail
      refine (downI_any a c zs (t : Int) _ (by omega) hcap.1 hcap.2 (by omega) (by omega) (hz.later F1.out.bel) HB1.out.can).mono ?_
      rintro e W2 ⟨a2, c2, fs, rfl, hf2, hm2, hcan2, hv2, hl2, hr2', hb2⟩
      have F2 : Hid (Bx3 w (.bool g) (.slice a zs.length c) (.int .i64 E) W2) := F1.out.later hb2
      have HB2 : Hid (B1 (g && decide (0 < fs.length)) fs (sg g (val 4294967296 zs / 2 ^ t))) := B1.of_signed hcan2 (by rw [hv2]; rfl)
      have HR2 : Hid (RowNew .u32 W2 W1.heap.size a2 fs) := hr2'
      have hs1 : w.heap.size + 1 + 1 ≤ W1.heap.size := F1.out.le
      have q0 := F2.out.q0
      clear hb2 hcan2 hv2 hr2' q2
      go_wp2_with fail
      refine (signed_any g a2 fs.length c2 _).mono ?_
      rintro e W3 ⟨rfl, hb3⟩
      have F3 : Hid (Bx3 w (.bool g) (.slice a zs.length c) (.int .i64 E) W3) := F2.out.later hb3
      have HR3 : Hid (RowNew .u32 W3 W1.heap.size a2 fs) := HR2.out.later hb3
      clear hb3 q0
      generalize (g && decide (0 < fs.length)) = G at *
      go_wp2_with fail
      refine (within_any G a2 c2 fs _ W1.heap.size (by omega) HR3.out).mono ?_
      rintro e W4 ⟨a4, c4, rfl, hr4, hb4⟩
      have F4 : Hid (Bx3 w (.bool g) (.slice a zs.length c) (.int .i64 E) W4) := F3.out.later hb4
      have r1 := F4.out.r1
      have r2 := F4.out.r2
      have r3 := F4.out.r3
      have r4 := F4.out.r4
      have hs4 : w.heap.size + 1 < W4.heap.size := F4.out.le
      by_cases h5 : fs.length ≤ 512
      · have HO : Hid (ResD true v G fs e' 0) := .inr ⟨rfl, _, _, HN.out, .inl ⟨⟨HB2.out.fits h5, by omega, by omega⟩, HB2.out, rfl, rfl⟩⟩
        have hlo : limOut G fs = (G, fs, 0) := by unfold limOut; rw [if_pos h5]
        rw [hlo] at hr4 ⊢
        have HR4 : Hid (RowNew .u32 W4 (w.heap.size + 1 + 1) a4 fs) := hr4.down hs1
        clear hlo hr4 hb4
        go_wp2
        refine bodyPost_ret (v := .tuple #[.agg #[.bool G, .slice a4 fs.length c4, .int .i64 e'], .int .i64 0]) (by simp [results, Tryd.results39, go_sem, r1, r2, r3, hs4]) rfl ?_
        have hbl := ((F4.out.bel.setCell (p := ⟨w.heap.size + 1, 0, none⟩) (by simp) (.bool G)).setCell (p := ⟨w.heap.size + 1, 1, none⟩) (by simp) (.slice a4 fs.length c4)).setCell (p := ⟨w.heap.size + 1, 2, none⟩) (by simp) (.int .i64 e')
        refine ⟨G, fs, e', 0, a4, c4, rfl, HO.out, ?_, hbl.alloc hbl.size _⟩
        exact ((((HR4.out.setLow (by simp) _).setLow (by simp) _).setLow (by simp) _).later (bel0 _ _)).down (by omega)
      · have HO : Hid (ResD true v false [] 0 2) := .inr ⟨rfl, _, _, HN.out, .inr ⟨fun h => h5 (HB2.out.len h.1), rfl, rfl, rfl, rfl⟩⟩
        have hlo : limOut G fs = (false, [], 2) := by unfold limOut; rw [if_neg h5]
        rw [hlo] at hr4 ⊢
        clear hlo hr4 hb4
        go_wp2
        refine bodyPost_ret (v := .tuple #[.agg #[.bool false, .slice none 0 0, .int .i64 0], .int .i64 2]) (by simp [results, Tryd.results39, go_sem, r1, r2, r3, hs4]) rfl ?_
        refine ⟨false, [], 0, 2, none, 0, rfl, HO.out, .inl rfl, ?_⟩
        have hb0 := F4.out.bel
        have hbl := ((F4.out.bel.setCell (p := ⟨w.heap.size + 1, 0, none⟩) (by simp) (.bool false)).setCell (p := ⟨w.heap.size + 1, 1, none⟩) (by simp) (.slice none 0 0)).setCell (p := ⟨w.heap.size + 1, 2, none⟩) (by simp) (.int .i64 0)
        first
          | exact hbl.alloc hbl.size _
          | exact hb0.alloc hb0.size _
          | exact hbl
          | exact hb0

end Go.Proofs.YtladfpljnaippabDoor

/-
  The program's DyOf.
-/
namespace Go.Proofs.YtladfpljnaippabDoor
open Go.RowKit

theorem word_mod {neg : Bool} {X : Nat} (h : X < 9223372036854775808) : Ieee.double.word neg X < 18446744073709551616 ∧ Ieee.double.word neg X % 9223372036854775808 = X := by
  have e1 := d_consts.1
  unfold Ieee.Format.word
  rw [e1]
  cases neg
  · exact ⟨by simp; omega, by simp; omega⟩
  · exact ⟨by simp; omega, by simp; omega⟩

theorem order_refl {d : Ieee.Datum} (h : d.isNaN = false) : d.order d = some .eq := by
  cases d with
  | number s m i => simp [Ieee.Datum.order]
  | infinity s => simp [Ieee.Datum.order]
  | nan s t => cases h

theorem read_nn {neg : Bool} {X : Nat} (h : X ≤ 9218868437227405312) : (Ieee.double.read (Ieee.double.word neg X)).isNaN = false := by
  obtain ⟨e1, e2, e3, e4⟩ := d_consts
  have hm := (word_mod (neg := neg) (X := X) (by omega)).2
  unfold Ieee.Format.read
  simp only [e1, e2, e3, e4, hm]
  by_cases h1 : X < 4503599627370496
  · rw [if_pos h1]; rfl
  · rw [if_neg h1]
    by_cases h2 : X < 9218868437227405312
    · rw [if_pos h2]; rfl
    · rw [if_neg h2, if_pos (by omega)]; rfl

theorem nan_not {neg : Bool} {X : Nat} (h : X ≤ 9218868437227405312) : (FloatKind.f64.format.order (Ieee.double.word neg X) (Ieee.double.word neg X) != some .eq) = false := by
  show ((Ieee.double.read _).order (Ieee.double.read _) != some .eq) = false
  rw [order_refl (read_nn h)]
  rfl

theorem one_new (w : World) (n : Nat) (t : TypeId) : RowNew .u32 (w.alloc (.cells #[.int .u32 n] t)) w.heap.size (some ⟨w.heap.size, 0, none⟩) [(n : Int)] := by
  refine .inr ⟨w.heap.size, 0, rfl, Nat.le_refl _, by simp, fun j hj => ?_, fun j hj => ?_⟩
  · have : j = 0 := by simp at hj; omega
    subst this
    simp [go_sem]
  · have : j = 0 := by simp at hj; omega
    subst this
    simp [go_sem]

theorem trim_one_len (z : Int) : (trimL [z]).length ≤ 1 := by
  unfold trimL
  split <;> simp [trimL]

theorem trim_one {n : Nat} (h : n < 4294967296) : Canon 4294967296 (trimL [(n : Int)]) ∧ val 4294967296 (trimL [(n : Int)]) = n := by
  by_cases hz : n = 0
  · subst hz
    exact ⟨⟨Dig.nil _, rfl⟩, rfl⟩
  · have e : trimL [(n : Int)] = [(n : Int)] := by simp [trimL]; omega
    rw [e]
    exact ⟨⟨Dig.cons (by omega) (by omega) (Dig.nil _), e⟩, by simp [val]⟩

set_option maxRecDepth 100000 in
set_option maxHeartbeats 4000000 in
theorem dyOfI_fin (b : Int) (neg : Bool) (X Y Z n : Nat) (k v : Int) (w : World) (hX : X < 9218868437227405312) (hcv : floatToFloatBits .f32 b.toNat .f64 = some (Ieee.double.word neg X))
    (HFx : ∀ w, Calls Tryd.prog 46 #[.float .f64 X] w fun e w' => e = .returned (.tuple #[.float .f64 Y, .int .i64 k]) ∧ Below w.heap.size w w')
    (HLd : ∀ w, Calls Tryd.prog 48 #[.float .f64 Y, .int .i64 24] w fun e w' => e = .returned (.float .f64 Z) ∧ Below w.heap.size w w')
    (hcn : floatToIntVal .f64 Z .u32 = some (n : Int)) (hn : n < 4294967296) (hk0 : -2000 ≤ k) (hk1 : k ≤ 2000) (hv : atK 100000 (sg neg n) (k - 24) = v) (hT : Tab w) :
    Calls Tryd.prog 15 #[.int .u32 b] w fun e w' => OutDI w true v e w' := by
  obtain ⟨hm1, hm2⟩ := word_mod (neg := neg) (X := X) (by omega)
  have ho := nan_not (neg := neg) (X := X) (by omega)
  obtain ⟨_, ho2⟩ := fin64 hX
  have HSg : Hid (∀ w, Calls Tryd.prog 51 #[.float .f64 (Ieee.double.word neg X)] w fun e w' => e = .returned (.bool neg) ∧ Below w.heap.size w w') := fun w => signbit_any neg X w (by omega)
  obtain ⟨W, hW⟩ : ∃ W, W = Ieee.double.word neg X := ⟨_, rfl⟩
  rw [← hW] at hm1 hm2 ho hcv HSg
  clear hW
  have hc1 : ∀ w, (convert 79 78 (.float .f32 b.toNat)).run Tryd.prog w = .ok (.float .f64 W) w := fun w => run_convert_float_float w _ _ .f32 .f64 b.toNat W (by rw [Tryd.underlying79]; rfl) Tryd.underlying78 hcv
  have hc2 : ∀ w, (convert 78 33 (.float .f64 Z)).run Tryd.prog w = .ok (.int .u32 n) w := fun w => run_convert_float_int w _ _ .f64 .u32 Z n (by rw [Tryd.underlying78]; rfl) Tryd.underlying33 hcn
  have K0 : Hid (∀ t, Has3 w.heap.size (w.alloc (.cells #[.bool false, .slice none 0 0, .int .i64 0] t))) := fun t => Has3.new w t
  have HTb : Hid (Tab w) := hT
  have HV : Hid (atK 100000 (sg neg n) (k - 24) = v) := hv
  have hd := run_frombits32
  clear hcv hcn hT hv
  go_enter Tryd.func15, Tryd.ntmps15
  go_wp2_with (simp only [hc1])
  refine (isNaN64_any W false _ ho).mono ?_
  rintro e w1 ⟨rfl, hb1⟩
  have K1 : Hid (Has3 w.heap.size w1) := (K0.out _).later hb1
  have HB1 : Hid (Below w.heap.size w w1) := (bel0 _ _).trans (hb1.mono (by simp))
  clear hb1 K0
  go_wp2_with fail
  refine (isInf64_any W X false _ hm1 hm2 ho2).mono ?_
  rintro e w2 ⟨rfl, hb2⟩
  have K2 : Hid (Has3 w.heap.size w2) := K1.out.later hb2
  have HB2 : Hid (Below w.heap.size w w2) := HB1.out.trans (hb2.mono HB1.out.size)
  clear hb2
  go_wp2_with fail
  refine (absF_any W X _ hm1 hm2).mono ?_
  rintro e w3 ⟨rfl, hb3⟩
  have K3 : Hid (Has3 w.heap.size w3) := K2.out.later hb3
  have HB3 : Hid (Below w.heap.size w w3) := HB2.out.trans (hb3.mono HB2.out.size)
  clear hb3
  go_wp2_with fail
  refine (HFx _).mono ?_
  rintro e w4 ⟨rfl, hb4⟩
  have K4 : Hid (Has3 w.heap.size w4) := K3.out.later hb4
  have HB4 : Hid (Below w.heap.size w w4) := HB3.out.trans (hb4.mono HB3.out.size)
  clear hb4
  go_wp2_with fail
  refine (HLd _).mono ?_
  rintro e w5 ⟨rfl, hb5⟩
  have K5 : Hid (Has3 w.heap.size w5) := K4.out.later hb5
  have HB5 : Hid (Below w.heap.size w w5) := HB4.out.trans (hb5.mono HB4.out.size)
  clear hb5
  go_wp2_with fail
  have hrow : RowNew .u32 (w5.alloc (.cells #[.int .u32 n] 33)) w5.heap.size (some ⟨w5.heap.size, 0, none⟩) [(n : Int)] := one_new w5 n _
  refine (trimmed_any (some ⟨w5.heap.size, 0, none⟩) 1 [(n : Int)] _ w5.heap.size (by simp) (by unfold maxLen; omega) (by simp) (by simp) hrow).mono ?_
  rintro e w6 ⟨a6, c6, rfl, hl6, hm6, hr6, rfl⟩
  have hb6 : Below w5.heap.size w5 (w5.alloc (.cells #[.int .u32 n] 33)) := bel0 _ _
  have K6 : Hid (Has3 w.heap.size (w5.alloc (.cells #[.int .u32 n] 33))) := K5.out.later hb6
  have HB6 : Hid (Below w.heap.size w (w5.alloc (.cells #[.int .u32 n] 33))) := HB5.out.trans (hb6.mono HB5.out.size)
  have HR6 : Hid (RowNew .u32 (w5.alloc (.cells #[.int .u32 n] 33)) w5.heap.size a6 (trimL [(n : Int)])) := hr6
  obtain ⟨hcan, hval⟩ := trim_one hn
  have hlen : (trimL [(n : Int)]).length ≤ 1 := trim_one_len _
  have HBB : Hid (B1 (neg && decide (0 < (trimL [(n : Int)]).length)) (trimL [(n : Int)]) (sg neg n)) := B1.of_signed hcan hval
  generalize trimL [(n : Int)] = Zs at *
  obtain ⟨V6, hV6⟩ : ∃ V, V = w5.alloc (.cells #[.int .u32 n] 33) := ⟨_, rfl⟩
  rw [← hV6] at K6 HB6 HR6 ⊢
  clear hr6 hb6 hrow hV6 hcan hval
  go_wp2_with fail
  refine (HSg.out _).mono ?_
  rintro e w7 ⟨rfl, hb7⟩
  have K7 : Hid (Has3 w.heap.size w7) := K6.out.later hb7
  have HB7 : Hid (Below w.heap.size w w7) := HB6.out.trans (hb7.mono HB6.out.size)
  have HR7 : Hid (RowNew .u32 w7 w5.heap.size a6 Zs) := HR6.out.later hb7
  clear hb7
  go_wp2_with fail
  refine (signed_any neg a6 Zs.length c6 _).mono ?_
  rintro e w8 ⟨rfl, hb8⟩
  have K8 : Hid (Has3 w.heap.size w8) := K7.out.later hb8
  have HB8 : Hid (Below w.heap.size w w8) := HB7.out.trans (hb8.mono HB7.out.size)
  have HR8 : Hid (RowNew .u32 w8 w5.heap.size a6 Zs) := HR7.out.later hb8
  have HT8 : Hid (Tab w8) := HTb.out.later HB8.out
  clear hb8
  generalize (neg && decide (0 < Zs.length)) = G at *
  go_wp2_with fail
  refine (normalI_any G a6 c6 Zs (sg neg n) (k - 24) _ (by omega) (by omega) (by omega) HR8.out.row HBB.out ⟨hl6, hm6⟩ HT8.out).mono ?_
  rintro e w9 ⟨G9, Z9, E9, K9, a9, c9, rfl, hres, hr9, hb9⟩
  rw [HV.out] at hres
  have KK : Hid (Has3 w.heap.size w9) := K8.out.later hb9
  have HB9 : Hid (Below w.heap.size w w9) := HB8.out.trans (hb9.mono HB8.out.size)
  have HR : Hid (ResD true v G9 Z9 E9 K9) := hres
  have HA : Hid (RowNew .u32 w9 (w.heap.size + 1) a9 Z9) := hr9.down K8.out.lt
  have r1 := KK.out.r1
  have r2 := KK.out.r2
  have r3 := KK.out.r3
  have r4 := KK.out.r4
  clear hres hr9 hb9
  go_wp2
  refine bodyPost_ret (v := .tuple #[.agg #[.bool G9, .slice a9 Z9.length c9, .int .i64 E9], .int .i64 K9]) (by simp [results, Tryd.results15, go_sem, r1, r2, r3]) rfl ?_
  refine ⟨G9, Z9, E9, K9, a9, c9, rfl, HR.out, ?_, ?_⟩
  · exact (((HA.out.setLow (by simp) _).setLow (by simp) _).setLow (by simp) _).down (by omega)
  · exact ((HB9.out.setCell (by simp) _).setCell (by simp) _).setCell (by simp) _

theorem dyOfI_ok (b : Int) (w : World) (h0 : 0 ≤ b) (h1 : b < 4294967296) (hf : fFin b = true) (hT : Tab w) :
    Calls Tryd.prog 15 #[.int .u32 b] w fun e w' => OutDI w true (atK 100000 (fNum b) (fExp b - 150)) e w' := by
  have hcv := conv_fin h0 h1 hf
  have hex := fExp_pos h0
  have hmm := fMag_lt h0
  by_cases hM : (fMag b).toNat = 0
  · have hX : dOf b = 0 := by unfold dOf; rw [if_pos hM]
    rw [hX] at hcv
    refine dyOfI_fin b _ 0 0 0 0 0 _ w (by decide) hcv frexp_zero ldexp_zero toInt_zero (by decide) (by decide) (by decide) ?_ hT
    have hz : fNum b = 0 := by unfold fNum; split <;> omega
    have hs : ∀ g : Bool, sg g ((0 : Nat) : Int) = 0 := by intro g; cases g <;> rfl
    rw [hz, hs]
    unfold atK
    rw [Int.zero_mul, Int.zero_mul]
  · obtain ⟨L, F, f, hL, hl1, hl2, hF, hF1, hF2, hf1, hf2, hd, hLL⟩ := dOf_parts h0 hf hM
    have e52 : (2 : Nat) ^ (52 - L) = 2 ^ (23 - L) * 536870912 := by
      rw [show 52 - L = (23 - L) + 29 by omega, Nat.pow_add]
    have hn : 4503599627370496 + f = ((fMag b).toNat * 2 ^ (23 - L)) * 536870912 := by rw [hf2, e52, Nat.mul_assoc]
    have hnlt : (fMag b).toNat * 2 ^ (23 - L) < 4294967296 := by omega
    refine dyOfI_fin b _ (dOf b) (1022 * 4503599627370496 + f) (1046 * 4503599627370496 + f) ((fMag b).toNat * 2 ^ (23 - L)) ((F : Int) - 1022) _ w (by rw [hd]; omega) hcv (fun w => frexp_any _ F f w hd hF1 (by omega) hf1) (fun w => ldexp_any f w hf1) (toInt_word hf1 hn) hnlt (by omega) (by omega) ?_ hT
    have hnum : fNum b = sg (decide (2147483648 ≤ b)) ((fMag b).toNat : Int) := by
      unfold fNum sg
      by_cases hs : 2147483648 ≤ b
      · rw [if_pos hs, if_pos (by simpa using hs)]; omega
      · rw [if_neg hs, if_neg (by simpa using hs)]; omega
    rw [hnum]
    have hsg : ∀ (g : Bool) (x y : Int), sg g (x * y) = sg g x * y := by intro g x y; cases g <;> simp [sg, Int.neg_mul]
    unfold atK
    rw [show (((fMag b).toNat * 2 ^ (23 - L) : Nat) : Int) = ((fMag b).toNat : Int) * 2 ^ (23 - L) by push_cast; rfl, hsg, Int.mul_assoc, ← Int.pow_add]
    congr 2
    omega

end Go.Proofs.YtladfpljnaippabDoor

/-
  The program's DyOf of what is not finite.
-/
namespace Go.Proofs.YtladfpljnaippabDoor
open Go.RowKit

theorem single_read_bad {b : Int} (h0 : 0 ≤ b) (h1 : b < 4294967296) (hf : fFin b = false) : (∃ s, Ieee.single.read b.toNat = .infinity s) ∨ (∃ s t, Ieee.single.read b.toNat = .nan s t) := by
  have hf' : b / 8388608 % 256 = 255 := by simpa [fFin] using hf
  obtain ⟨n, rfl⟩ := Int.eq_ofNat_of_zero_le h0
  have e1 : Ieee.single.signWeight = 2147483648 := by decide
  have e2 : Ieee.single.binade = 8388608 := by decide
  have e3 : Ieee.single.infRung = 2139095040 := by decide
  unfold Ieee.Format.read
  simp only [e1, e2, e3, Int.toNat_natCast]
  rw [if_neg (by omega), if_neg (by omega)]
  by_cases h : n % 2147483648 = 2139095040
  · rw [if_pos h]
    exact .inl ⟨_, rfl⟩
  · rw [if_neg h]
    exact .inr ⟨_, _, rfl⟩

theorem inf_word {b : Int} {s : Bool} (h : Ieee.single.read b.toNat = .infinity s) : floatToFloatBits .f32 b.toNat .f64 = some (Ieee.double.word s 9218868437227405312) := by
  have hr : FloatKind.f32.decode b.toNat = .infinity s := h
  unfold floatToFloatBits
  rw [if_neg (by decide), hr]
  simp only
  show some (Ieee.double.word s Ieee.double.infRung) = _
  rw [d_consts.2.2.1]

def nanW (t : Nat) : Nat := (t % 2) * 2 ^ 63 + 0x7ff0000000000000 + 1 + (t / 2) % (2 ^ 52 - 1)

theorem nan_is (t : Nat) : (FloatKind.f64.format.order (nanW t) (nanW t) != some .eq) = true := by
  obtain ⟨e1, e2, e3, e4⟩ := d_consts
  have hr : ∃ s q, Ieee.double.read (nanW t) = .nan s q := by
    unfold Ieee.Format.read
    simp only [e1, e2, e3, e4]
    have hm : nanW t % 9223372036854775808 = 9218868437227405312 + 1 + (t / 2) % (2 ^ 52 - 1) := by
      unfold nanW
      have := Nat.mod_lt (t / 2) (show 0 < 2 ^ 52 - 1 by decide)
      omega
    rw [hm, if_neg (by omega), if_neg (by omega), if_neg (by omega)]
    exact ⟨_, _, rfl⟩
  obtain ⟨s, q, hr⟩ := hr
  show ((Ieee.double.read (nanW t)).order (Ieee.double.read (nanW t)) != some .eq) = true
  rw [hr]
  rfl

theorem run_nan {b : Int} {s : Bool} {t : Nat} (h : Ieee.single.read b.toNat = .nan s t) (w : World) : ∃ k, (convert 79 78 (.float .f32 b.toNat)).run Tryd.prog w = .ok (.float .f64 (nanW k)) w.drew := by
  have hr : FloatKind.f32.decode b.toNat = .nan s t := h
  refine ⟨w.tape w.drawn (.nanConv .f64 b.toNat), ?_⟩
  simp [convert, run_underlying Tryd.underlying79, run_underlying Tryd.underlying78, Conv.floatToFloat, hr]
  rfl

set_option maxHeartbeats 2000000 in
theorem dyOfI_bad (b v : Int) (w : World) (h0 : 0 ≤ b) (h1 : b < 4294967296) (hf : fFin b = false) :
    Calls Tryd.prog 15 #[.int .u32 b] w fun e w' => OutDI w false v e w' := by
  have K0 : Hid (∀ t, Has3 w.heap.size (w.alloc (.cells #[.bool false, .slice none 0 0, .int .i64 0] t))) := fun t => Has3.new w t
  have fin : Hid (∀ W, Below w.heap.size w W → OutDI w false v (.returned (.tuple #[.agg #[.bool false, .slice none 0 0, .int .i64 0], .int .i64 1])) W) := fun W hW => ⟨false, [], 0, 1, none, 0, rfl, .inl ⟨rfl, rfl, rfl, rfl, rfl⟩, .inl rfl, hW⟩
  have hd := run_frombits32
  rcases single_read_bad h0 h1 hf with ⟨s, hr⟩ | ⟨s, t, hr⟩
  · have hcv := inf_word hr
    obtain ⟨hm1, hm2⟩ := word_mod (neg := s) (X := 9218868437227405312) (by decide)
    have ho := nan_not (neg := s) (X := 9218868437227405312) (by decide)
    have ho2 : (FloatKind.f64.format.order 9218868437227405312 9218868437227405311 == some .gt) = true := by decide
    obtain ⟨W, hW⟩ : ∃ W, W = Ieee.double.word s 9218868437227405312 := ⟨_, rfl⟩
    rw [← hW] at hm1 hm2 ho hcv
    clear hW
    have hc1 : ∀ w, (convert 79 78 (.float .f32 b.toNat)).run Tryd.prog w = .ok (.float .f64 W) w := fun w => run_convert_float_float w _ _ .f32 .f64 b.toNat W (by rw [Tryd.underlying79]; rfl) Tryd.underlying78 hcv
    clear hcv hr
    go_enter Tryd.func15, Tryd.ntmps15
    go_wp2_with (simp only [hc1])
    refine (isNaN64_any W false _ ho).mono ?_
    rintro e w1 ⟨rfl, hb1⟩
    have K1 : Hid (Has3 w.heap.size w1) := (K0.out _).later hb1
    have HB1 : Hid (Below w.heap.size w w1) := (bel0 _ _).trans (hb1.mono (by simp))
    clear hb1 K0
    go_wp2_with fail
    refine (isInf64_any W 9218868437227405312 true _ hm1 hm2 ho2).mono ?_
    rintro e w2 ⟨rfl, hb2⟩
    have K2 : Hid (Has3 w.heap.size w2) := K1.out.later hb2
    have HB2 : Hid (Below w.heap.size w w2) := HB1.out.trans (hb2.mono HB1.out.size)
    have r1 := K2.out.r1
    have r2 := K2.out.r2
    have r3 := K2.out.r3
    have r4 := K2.out.r4
    clear hb2
    go_wp2
    refine bodyPost_ret (v := .tuple #[.agg #[.bool false, .slice none 0 0, .int .i64 0], .int .i64 1]) (by simp [results, Tryd.results15, go_sem, r1, r2, r3]) rfl ?_
    exact fin.out _ (((HB2.out.setCell (by simp) _).setCell (by simp) _).setCell (by simp) _)
  · obtain ⟨k, hk⟩ := run_nan hr (w.alloc (.cells #[.bool false, .slice none 0 0, .int .i64 0] 29))
    have hn := nan_is k
    obtain ⟨W, hW⟩ : ∃ W, W = nanW k := ⟨_, rfl⟩
    rw [← hW] at hk hn
    clear hW hr
    have B0 : Hid (Below w.heap.size w (w.alloc (.cells #[.bool false, .slice none 0 0, .int .i64 0] 29)).drew) := (bel0 _ _).drew
    have KD : Hid (Has3 w.heap.size (w.alloc (.cells #[.bool false, .slice none 0 0, .int .i64 0] 29)).drew) := (K0.out _).later (Below.refl _ _).drew
    go_enter Tryd.func15, Tryd.ntmps15
    go_wp2_with (simp only [hk])
    refine (isNaN64_any W true _ hn).mono ?_
    rintro e w1 ⟨rfl, hb1⟩
    have K1 : Hid (Has3 w.heap.size w1) := KD.out.later hb1
    have HB1 : Hid (Below w.heap.size w w1) := B0.out.trans (hb1.mono B0.out.size)
    have r1 := K1.out.r1
    have r2 := K1.out.r2
    have r3 := K1.out.r3
    have r4 := K1.out.r4
    clear hb1 K0 KD B0
    go_wp2
    refine bodyPost_ret (v := .tuple #[.agg #[.bool false, .slice none 0 0, .int .i64 0], .int .i64 1]) (by simp [results, Tryd.results15, go_sem, r1, r2, r3]) rfl ?_
    exact fin.out _ (((HB1.out.setCell (by simp) _).setCell (by simp) _).setCell (by simp) _)

theorem dyOfI_any (b : Int) (w : World) (h0 : 0 ≤ b) (h1 : b < 4294967296) (hT : Tab w) :
    Calls Tryd.prog 15 #[.int .u32 b] w fun e w' => OutDI w (fFin b) (atK 100000 (fNum b) (fExp b - 150)) e w' := by
  cases hf : fFin b
  · exact dyOfI_bad b _ w h0 h1 hf
  · exact dyOfI_ok b w h0 h1 hf hT

end Go.Proofs.YtladfpljnaippabDoor
