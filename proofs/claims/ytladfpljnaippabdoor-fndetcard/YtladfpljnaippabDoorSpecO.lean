/-
  The model's shifts down.
-/
import Derived.Test.YtladfpljnaippabDoorSpecN
namespace Go.Proofs.YtladfpljnaippabDoor
open Go.RowKit

/-- What l1down hands back. -/
def DownOut (w : World) (n : Nat) (x : Int) (lost : Bool) (e : Ending) (w' : World) : Prop :=
  ∃ (g : Bool) (a : Option Addr) (c : Nat) (fs : List Int), e = .returned (.tuple #[.agg #[.bool g, .slice a fs.length c], .bool lost]) ∧ fs.length ≤ n ∧ L1 w' g a c fs x ∧ Far w.heap.size a fs ∧ Below w.heap.size w w'

/-- The two counts of a shift by n. -/
theorem two16r (n : Int) : (65536 : Int) = 2 ^ (n % 16).toNat * 2 ^ (16 - n % 16).toNat ∧ 0 < (2 : Int) ^ (16 - n % 16).toNat ∧ (2 : Int) ^ (16 - n % 16).toNat ≤ 65536 := by
  refine ⟨?_, Int.pow_pos (by decide), ?_⟩
  · rw [← Int.pow_add, show (n % 16).toNat + (16 - n % 16).toNat = 16 by omega]; rfl
  · have h : ∀ k, k < 17 → (2 : Int) ^ k ≤ 65536 := by decide
    exact h _ (by omega)

/-- A digit of the model's shift down. -/
theorem down_digit2 {q r y y' : Int} (hqr : 65536 = q * r) (hq : 0 < q) (hr : 0 < r) (h0 : 0 ≤ y) (h1 : y < 65536) : (y / q + y' * r % 65536) % 65536 = (y + 65536 * y') / q % 65536 := by
  rw [down_digit hqr hq hr h0 h1]
  have e : y' * r % 65536 = r * (y' % q) := by
    rw [hqr, Int.mul_comm q r, Int.mul_comm y' r, Int.mul_emod_mul_of_pos _ _ hr]
  rw [e]
  have hd0 : 0 ≤ y / q := Int.ediv_nonneg h0 (by omega)
  have hd1 : y / q < r := Int.ediv_lt_of_lt_mul hq (by rw [Int.mul_comm r q, ← hqr]; exact h1)
  have hm0 := Int.emod_nonneg y' (show q ≠ 0 by omega)
  have hm1 := Int.emod_lt_of_pos y' hq
  have h3 : r * (y' % q) ≤ r * (q - 1) := Int.mul_le_mul_of_nonneg_left (by omega) (by omega)
  have h4 : 0 ≤ r * (y' % q) := Int.mul_nonneg (by omega) hm0
  rw [Int.mul_sub, Int.mul_one, Int.mul_comm r q, ← hqr] at h3
  exact Int.emod_eq_of_lt (by omega) (by omega)

/-- A shift down by more than all digits. -/
theorem cut_all {ds : List Int} {n : Int} (hd : Dig 65536 ds) (n0 : 0 ≤ n) (h : (ds.length : Int) ≤ n / 16) : val 65536 ds / 2 ^ n.toNat = 0 ∧ (val 65536 ds % 2 ^ n.toNat ≠ 0 ↔ anyN ds = true) := by
  have h0 := val_nonneg (B := 65536) (by decide) hd
  have h1 := val_lt_pow (B := 65536) (by decide) hd
  have h2 : (65536 : Int) ^ ds.length ≤ 2 ^ n.toNat := by
    rw [show (65536 : Int) = 2 ^ 16 from rfl, ← Int.pow_mul]
    exact two_pow_le (by omega)
  refine ⟨Int.ediv_eq_zero_of_lt h0 (by omega), ?_⟩
  rw [Int.emod_eq_of_lt h0 (by omega), anyN_val (by decide) hd]

theorem cut_some {ds : List Int} {n : Int} (hd : Dig 65536 ds) (n0 : 0 ≤ n) (h : n / 16 < (ds.length : Int)) : val 65536 (downL 65536 (2 ^ (n % 16).toNat) (ds.drop (n / 16).toNat)) = val 65536 ds / 2 ^ n.toNat ∧ (val 65536 ds % 2 ^ n.toNat ≠ 0 ↔ (anyN (ds.take (n / 16).toNat) || (ds.getD (n / 16).toNat 0 % 2 ^ (n % 16).toNat != 0)) = true) := by
  obtain ⟨e1, e2, e3⟩ := two16r n
  obtain ⟨e4, _⟩ := two16 n
  have hs : (n / 16).toNat ≤ ds.length := by omega
  rw [← pow16 n n0]
  refine ⟨val_cut e1 e4 e2 (by decide) hd hs, ?_⟩
  rw [ne_eq, cut_exact e4 ⟨_, e1⟩ (by decide) hd hs]
  have h2 := anyN_val (B := 65536) (by decide) (hd.take (n / 16).toNat)
  rw [Bool.or_eq_true, h2, bne_iff_ne]
  by_cases h3 : val 65536 (ds.take (n / 16).toNat) = 0
  · simp [h3]
  · simp [h3]

set_option maxHeartbeats 4000000 in
theorem down_any (g : Bool) (a : Option Addr) (c : Nat) (ds : List Int) (x n : Int) (w : World) (hn : ds.length ≤ 100000) (n0 : 0 ≤ n) (n1 : n ≤ 1000000) (h : L1 w g a c ds x) :
    Calls Tryd.prog 62 #[.agg #[.bool g, .slice a ds.length c], .int .i64 n] w fun e w' => DownOut w ds.length (sg g (val 65536 ds / 2 ^ n.toNat)) (lostB (val 65536 ds) (2 ^ n.toNat)) e w' := by
  obtain ⟨e1, r0, r1⟩ := two16r n
  obtain ⟨q0, q1⟩ := two16 n
  have hdz := h.can.1
  have hz := h.sl.row
  have HE1 : Hid ((65536 : Int) = 2 ^ (n % 16).toNat * 2 ^ (16 - n % 16).toNat) := e1
  clear h e1
  go_enter Tryd.func62, Tryd.ntmps62
  go_wp2
  obtain ⟨W0, hW0⟩ : ∃ W0, W0 = ((w.alloc (.cells #[.bool g, .slice a ds.length c] 64)).alloc (.cells #[.bool false, .slice none 0 0] 64)) := ⟨_, rfl⟩
  have F : Hid (Bx1 w (.bool g) (.slice a ds.length c) W0) := by rw [hW0]; exact Bx1.start w _ _ _ _
  rw [← hW0]
  clear hW0
  go_loopw [6, 7] (fun lo i wr => ∃ k : Nat, (k : Int) ≤ n / 16 ∧ k ≤ ds.length ∧ i = .int .i64 k ∧ lo = .bool (anyN (ds.take k)) ∧ Below (w.heap.size + 1 + 1) W0 wr) (fun _ i _ => ds.length - (intOf i).toNat)
  case atStart => exact ⟨0, by omega, Nat.zero_le _, rfl, rfl, Below.refl _ _⟩
  case round =>
    obtain ⟨k, hkn, hk, rfl, rfl, hnx⟩ := hrel
    have F1 : Hid (Bx1 w (.bool g) (.slice a ds.length c) wr) := F.out.on hnx
    have s1 := F1.out.q1
    by_cases hc : (k : Int) < n / 16 ∧ k < ds.length
    · obtain ⟨hc1, hc2⟩ := hc
      have hst := anyN_take hc2
      obtain ⟨b, off, rfl, g1⟩ := row_cell hz F1.out.bel hc2
      obtain ⟨y, hyy⟩ : ∃ y, y = ds.getD k 0 := ⟨_, rfl⟩
      rw [← hyy] at g1 hst
      have HN : Hid (Below (w.heap.size + 1 + 1) W0 wr) := hnx
      obtain ⟨t, ht⟩ : ∃ t, t = anyN (ds.take k) := ⟨_, rfl⟩
      rw [← ht] at hst ⊢
      have HST : Hid (anyN (ds.take (k + 1)) = (t || (y != 0))) := hst
      clear hst ht hnx hyy hdz hz F F1
      cases t with
      | true =>
        go_wp2
        go_roundw
        case rel => exact ⟨k + 1, by omega, by omega, by go_num, by rw [HST.out]; rfl, HN.out⟩
        case measure => simp [intOf]; omega
      | false =>
        go_wp2
        go_roundw
        case rel => exact ⟨k + 1, by omega, by omega, by go_num, by rw [HST.out]; rfl, HN.out⟩
        case measure => simp [intOf]; omega
    · by_cases hA : (ds.length : Int) ≤ n / 16
      · have hkl : k = ds.length := by omega
        subst hkl
        obtain ⟨ca, cb⟩ := cut_all hdz n0 hA
        have r1 := F1.out.r1
        have r2 := F1.out.r2
        have r3 := F1.out.r3
        have HR : Hid (anyN ds = lostB (val 65536 ds) (2 ^ n.toNat)) := by unfold Hid lostB; rw [Bool.eq_iff_iff, ← cb, decide_eq_true_eq]
        have HC : Hid (val 65536 ds / 2 ^ n.toNat = 0) := ca
        have HB : Hid (Below w.heap.size w wr) := F1.out.bel
        rw [List.take_length, HR.out]
        obtain ⟨L, hL⟩ : ∃ L, L = lostB (val 65536 ds) (2 ^ n.toNat) := ⟨_, rfl⟩
        rw [← hL]
        have HLL : Hid (L = lostB (val 65536 ds) (2 ^ n.toNat)) := hL
        clear hL ca cb hdz hz F F1 hnx HR q0 q1
        go_wp2
        all_goals
          refine bodyPost_ret (v := .tuple #[.agg #[.bool false, .slice none 0 0], .bool L]) (by simp [results, Tryd.results62, go_sem, r1, r2]) rfl ⟨false, none, 0, [], by rw [← HLL.out]; rfl, by simp, ?_, .inl rfl, ?_⟩
          · rw [HC.out]
            refine ⟨⟨by simp, fun _ => rfl, .inl rfl⟩, ⟨Dig.nil _, rfl⟩, by cases g <;> simp [sg, val], (fun h => by cases h), by unfold maxLen; omega⟩
          · exact (HB.out.setCell (by simp) _).setCell (by simp) _
      · have hkl : (k : Int) = n / 16 := by omega
        have hks : k = (n / 16).toNat := by omega
        obtain ⟨ca, cb⟩ := cut_some hdz n0 (by omega)
        rw [← hks] at ca cb
        have HC : Hid (val 65536 (downL 65536 (2 ^ (n % 16).toNat) (ds.drop k)) = val 65536 ds / 2 ^ n.toNat) := ca
        have HR : Hid (lostB (val 65536 ds) (2 ^ n.toNat) = (anyN (ds.take k) || (ds.getD k 0 % 2 ^ (n % 16).toNat != 0))) := by unfold Hid lostB; rw [Bool.eq_iff_iff, ← cb, decide_eq_true_eq]
        have HB : Hid (Below (w.heap.size + 1 + 1) W0 wr) := hnx
        have hkd : k < ds.length := by omega
        have hnk : n / 16 = (k : Int) := hkl.symm
        obtain ⟨t, ht⟩ : ∃ t, t = anyN (ds.take k) := ⟨_, rfl⟩
        rw [← ht] at HR ⊢
        have hA' : ¬ ((k : Int) ≥ ds.length) := by omega
        clear ca cb hks hkl ht F1 hnx hc
        go_wp2
        go_loopw [8, 9, 10] (fun v i _ wr => ∃ (j : Nat) (out : List Int), k ≤ j ∧ j ≤ ds.length ∧ out.length + k = j ∧ i = .int .i64 j ∧ Hid (downL 65536 (2 ^ (n % 16).toNat) (ds.drop k) = out ++ downL 65536 (2 ^ (n % 16).toNat) (ds.drop j)) ∧
            wr.ownsRow (w.heap.size + 1 + 1) 3 1 v out.length (vals .i64 out) ∧ Below (w.heap.size + 1 + 1) W0 wr) (fun _ i _ _ => ds.length - (intOf i).toNat)
        case atStart => exact ⟨k, [], Nat.le_refl _, by omega, by simp, rfl, rfl, own_nil _ _ _ _, HB.out⟩
        case round =>
          obtain ⟨j, out, hj0, hj1, hol, rfl, hrest, hown, hnx⟩ := hrel
          clear HB s1
          have F1 : Hid (Bx1 w (.bool g) (.slice a ds.length c) wr) := F.out.on hnx
          have s1 := F1.out.q1
          have hle := F1.out.le
          by_cases hlt : j < ds.length
          · have hb1 := hdz.at (by decide) j
            have hb2 := hdz.at (by decide) (j + 1)
            obtain ⟨b, off, rfl, g1⟩ := row_cell hz F1.out.bel hlt
            have hst := down_drop (B := 65536) (q := 2 ^ (n % 16).toNat) hlt
            obtain ⟨y, hyy⟩ : ∃ y, y = ds.getD j 0 := ⟨_, rfl⟩
            obtain ⟨y', hyy'⟩ : ∃ y', y' = ds.getD (j + 1) 0 := ⟨_, rfl⟩
            rw [← hyy] at hb1 g1 hst
            rw [← hyy'] at hb2 hst
            obtain ⟨hb10, hb11⟩ := hb1
            obtain ⟨hb20, hb21⟩ := hb2
            rw [← down_digit2 HE1.out q0 r0 hb10 hb11] at hst
            have hy0 : 0 ≤ y / 2 ^ (n % 16).toNat := Int.ediv_nonneg hb10 (by omega)
            have hy1 : y / 2 ^ (n % 16).toNat ≤ y := Int.ediv_le_self _ hb10
            have hp0 := Int.mul_nonneg hb20 (Int.le_of_lt r0)
            have hp1 : y' * 2 ^ (16 - n % 16).toNat ≤ 65535 * 65536 := Int.mul_le_mul (by omega) r1 (by omega) (by decide)
            simp only [Int.reduceMul] at hp1
            have HN : Hid (Below (w.heap.size + 1 + 1) W0 wr) := hnx
            have hlo : out.length ≤ 100000 := by omega
            by_cases h2 : j + 1 < ds.length
            · obtain ⟨b', off', hbb, g2⟩ := row_cell hz F1.out.bel h2
              have hbe : b' = b ∧ off' = off := by
                have h3 := Option.some.inj hbb
                exact ⟨(congrArg Addr.block h3).symm, (congrArg Addr.off h3).symm⟩
              obtain ⟨rfl, rfl⟩ := hbe
              rw [← hyy'] at g2
              have HS : Hid (downL 65536 (2 ^ (n % 16).toNat) (ds.drop k) = (out ++ [(y / 2 ^ (n % 16).toNat + y' * 2 ^ (16 - n % 16).toNat) % 65536]) ++ downL 65536 (2 ^ (n % 16).toNat) (ds.drop (j + 1))) := by unfold Hid; rw [hrest.out, hst]; simp
              have hv0 : 0 ≤ y / 2 ^ (n % 16).toNat + y' * 2 ^ (16 - n % 16).toNat % 65536 := by omega
              clear hst hrest hyy hyy' hnx hdz hz F F1 hbb
              go_wp2_with (at_builtin; refine app1 rfl (.tmp 79) (.tmp 82) 62 rfl (w.heap.size + 1 + 1) 3 Tryd.underlying62 Tryd.info3 (by decide) _ _ rfl rfl hown (by omega) hle ?_; intro a1 n1 c1 w1 hown1 hb1 hs1)
              go_roundw
              case rel => exact ⟨j + 1, _, by omega, by omega, by simp; omega, by go_num, HS, hown1, HN.out.trans hb1⟩
              case measure => simp [intOf]; omega
            · have hy0' : y' = 0 := by rw [hyy']; exact getD_out h2
              have HS : Hid (downL 65536 (2 ^ (n % 16).toNat) (ds.drop k) = (out ++ [y / 2 ^ (n % 16).toNat % 65536]) ++ downL 65536 (2 ^ (n % 16).toNat) (ds.drop (j + 1))) := by unfold Hid; rw [hrest.out, hst, hy0']; simp
              clear hst hrest hyy hyy' hnx hdz hz F F1 hp0 hp1 hb20 hb21 hy0'
              go_wp2_with (at_builtin; refine app1 rfl (.tmp 79) (.tmp 82) 62 rfl (w.heap.size + 1 + 1) 3 Tryd.underlying62 Tryd.info3 (by decide) _ _ rfl rfl hown (by omega) hle ?_; intro a1 n1 c1 w1 hown1 hb1 hs1)
              go_roundw
              case rel => exact ⟨j + 1, _, by omega, by omega, by simp; omega, by go_num, HS, hown1, HN.out.trans hb1⟩
              case measure => simp [intOf]; omega
          · have hjn : j = ds.length := by omega
            subst hjn
            have hfin : downL 65536 (2 ^ (n % 16).toNat) (ds.drop k) = out := by
              rw [hrest.out, List.drop_eq_nil_of_le (Nat.le_refl _)]; simp [downL]
            have HV : Hid (val 65536 out = val 65536 ds / 2 ^ n.toNat) := by unfold Hid; rw [← hfin]; exact HC.out
            have HG : Hid (Dig 65536 out) := by unfold Hid; rw [← hfin]; exact dig_down (by decide) _ _
            have hb1 := hdz.at (by decide) k
            obtain ⟨b, off, rfl, g1⟩ := row_cell hz F1.out.bel hkd
            obtain ⟨y, hyy⟩ : ∃ y, y = ds.getD k 0 := ⟨_, rfl⟩
            rw [← hyy] at hb1 g1 HR
            obtain ⟨hb10, hb11⟩ := hb1
            obtain ⟨a2, c2, rfl, hcm, hsl, hrn⟩ := own_row hown
            have s0 := F1.out.q0
            have HSl : Hid (Sl .i64 wr a2 c2 out) := hsl
            have HF : Hid (Far (w.heap.size + 1 + 1) a2 out) := hrn.far (Nat.le_refl _) (Nat.le_refl _)
            have hol' : out.length ≤ ds.length := by omega
            have hq3 : ¬ (2 : Int) ^ (n % 16).toNat = 0 := by omega
            have hrr0 := Int.emod_nonneg y hq3
            clear hyy hfin hown hrest hdz hz hol hsl hrn hnx HC
            obtain ⟨L, hL⟩ : ∃ L, L = lostB (val 65536 ds) (2 ^ n.toNat) := ⟨_, rfl⟩
            rw [← hL] at HR
            have HLL : Hid (L = lostB (val 65536 ds) (2 ^ n.toNat)) := hL
            clear hL
            cases t with
            | true =>
              go_wp2_with fail
              refine (make_any g a2 c2 out _ (by omega) hcm HSl.out HG.out).mono ?_
              rintro e w2 ⟨g2, fs, rfl, hfl, hL2, hb2⟩
              rw [HV.out] at hL2
              have F2 : Hid (Bx1 w (.bool g) (.slice (some ⟨b, off, none⟩) ds.length c) w2) := F1.out.later hb2
              have p1 := F2.out.r1
              have p2 := F2.out.r2
              have p3 := F2.out.r3
              have HL2 : Hid (L1 w2 g2 a2 c2 fs (sg g (val 65536 ds / 2 ^ n.toNat))) := hL2
              have HF2 : Hid (Far (w.heap.size + 1 + 1) a2 fs) := by
                rcases HF.out with h | h
                · subst h; exact .inl (List.length_eq_zero_iff.1 (by simpa using hfl))
                · exact .inr h
              clear hL2 hb2 s0 s1 F1
              go_wp2
              refine bodyPost_ret (v := .tuple #[.agg #[.bool g2, .slice a2 fs.length c2], .bool true]) (by simp [results, Tryd.results62, go_sem, p1, p2]) rfl ⟨g2, a2, c2, fs, by rw [← HLL.out, HR.out]; rfl, by omega, ?_, HF2.out.down (by omega), ?_⟩
              · exact (HL2.out.setFar HF2.out (by simp) _).setFar HF2.out (by simp) _
              · exact (F2.out.bel.setCell (by simp) _).setCell (by simp) _
            | false =>
              go_wp2_with fail
              refine (make_any g a2 c2 out _ (by omega) hcm HSl.out HG.out).mono ?_
              rintro e w2 ⟨g2, fs, rfl, hfl, hL2, hb2⟩
              rw [HV.out] at hL2
              have F2 : Hid (Bx1 w (.bool g) (.slice (some ⟨b, off, none⟩) ds.length c) w2) := F1.out.later hb2
              have p1 := F2.out.r1
              have p2 := F2.out.r2
              have p3 := F2.out.r3
              have HL2 : Hid (L1 w2 g2 a2 c2 fs (sg g (val 65536 ds / 2 ^ n.toNat))) := hL2
              have HF2 : Hid (Far (w.heap.size + 1 + 1) a2 fs) := by
                rcases HF.out with h | h
                · subst h; exact .inl (List.length_eq_zero_iff.1 (by simpa using hfl))
                · exact .inr h
              clear hL2 hb2 s0 s1 F1
              go_wp2
              refine bodyPost_ret (v := .tuple #[.agg #[.bool g2, .slice a2 fs.length c2], .bool (y % 2 ^ (n % 16).toNat != 0)]) (by simp [results, Tryd.results62, go_sem, p1, p2]) rfl ⟨g2, a2, c2, fs, by rw [← HLL.out, HR.out]; rfl, by omega, ?_, HF2.out.down (by omega), ?_⟩
              · exact (HL2.out.setFar HF2.out (by simp) _).setFar HF2.out (by simp) _
              · exact (F2.out.bel.setCell (by simp) _).setCell (by simp) _

end Go.Proofs.YtladfpljnaippabDoor
