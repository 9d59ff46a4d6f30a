/-
  The model's shifts up.
-/
import Derived.Test.YtladfpljnaippabDoorBox1
import Derived.Test.YtladfpljnaippabDoorNumS
namespace Go.Proofs.YtladfpljnaippabDoor
open Go.RowKit

theorem pow16 (n : Int) (h : 0 ≤ n) : (65536 : Int) ^ (n / 16).toNat * 2 ^ (n % 16).toNat = 2 ^ n.toNat := by
  rw [show (65536 : Int) = 2 ^ 16 from rfl, ← Int.pow_mul, ← Int.pow_add]
  congr 1
  omega

/-- 2 to a count below 16. -/
theorem two16 (n : Int) : 0 < (2 : Int) ^ (n % 16).toNat ∧ (2 : Int) ^ (n % 16).toNat ≤ 32768 := by
  refine ⟨Int.pow_pos (by decide), ?_⟩
  have h : ∀ k, k < 16 → (2 : Int) ^ k ≤ 32768 := by decide
  exact h _ (by omega)

/-- What l1up hands back. -/
def UpOut (w : World) (n : Nat) (x : Int) (e : Ending) (w' : World) : Prop :=
  ∃ (g : Bool) (a : Option Addr) (c : Nat) (fs : List Int), e = .returned (.agg #[.bool g, .slice a fs.length c]) ∧ fs.length ≤ n ∧ L1 w' g a c fs x ∧ Far w.heap.size a fs ∧ Below w.heap.size w w'

set_option maxHeartbeats 4000000 in
theorem up_any (g : Bool) (a : Option Addr) (c : Nat) (ds : List Int) (x n : Int) (w : World) (hn : ds.length ≤ 100000) (n0 : 0 ≤ n) (n1 : n ≤ 1000000) (h : L1 w g a c ds x) :
    Calls Tryd.prog 61 #[.agg #[.bool g, .slice a ds.length c], .int .i64 n] w fun e w' => UpOut w (ds.length + (n / 16).toNat + 1) (x * 2 ^ n.toNat) e w' := by
  by_cases hd0 : ds.length = 0
  · have hde : ds = [] := List.length_eq_zero_iff.1 hd0
    subst hde
    have hx : x = 0 := by rw [h.num]; simp [val, sg]
    have hg : g = false := by cases g; rfl; exact absurd rfl (h.zero rfl)
    subst hx hg
    go_enter Tryd.func61, Tryd.ntmps61
    go_wp2
    refine bodyPost_ret (v := .agg #[.bool false, .slice a 0 c]) (by simp [results, Tryd.results61, go_sem]) rfl ⟨false, a, c, [], rfl, by simp, ?_, .inl rfl, ?_⟩
    · refine ⟨⟨by simp, h.sl.nil, .inl rfl⟩, h.can, by simp [val, sg], h.zero, h.cap⟩
    · exact bel2 _ _ _
  · have hmk := run_make_row' (P := Tryd.prog) 62 3 (.int .i64 0) 8 Tryd.underlying62 Tryd.info3 rfl .i64 .i64 (n / 16).toNat (by omega) (by omega)
    rw [show (((n / 16).toNat : Nat) : Int) = n / 16 by omega] at hmk
    obtain ⟨q0, q1⟩ := two16 n
    obtain ⟨q, hq⟩ : ∃ q, q = (2 : Int) ^ (n % 16).toNat := ⟨_, rfl⟩
    have HQ : Hid (q = (2 : Int) ^ (n % 16).toNat) := hq
    rw [← hq] at q0 q1
    obtain ⟨s, hs⟩ : ∃ s, s = (n / 16).toNat := ⟨_, rfl⟩
    have HX : Hid (sg g (65536 ^ s * (val 65536 ds * q)) = x * 2 ^ n.toNat) := by
      unfold Hid
      rw [h.num, hq, hs, Int.mul_comm (val 65536 ds), ← Int.mul_assoc, pow16 n n0]
      cases g
      · simp only [sg]; exact Int.mul_comm _ _
      · simp only [sg, if_true]; rw [Int.neg_mul, Int.mul_comm]
    have hdz := h.can.1
    have hz := h.sl.row
    have hsb : s ≤ 62500 := by omega
    have hd1 : ((ds.length : Int) == 0) = false := by rw [beq_eq_false_iff_ne]; omega
    clear h hq
    go_enter Tryd.func61, Tryd.ntmps61
    go_wp2
    obtain ⟨W0, hW0⟩ : ∃ W0, W0 = ((w.alloc (.cells #[.bool g, .slice a ds.length c] 64)).alloc (.cells #[.bool false, .slice none 0 0] 64)) := ⟨_, rfl⟩
    have F : Hid (Bx1 w (.bool g) (.slice a ds.length c) W0) := by rw [hW0]; exact Bx1.start w _ _ _ _
    have hS : w.heap.size + 1 + 1 = W0.heap.size := by rw [hW0]; simp
    rw [← hW0]
    have HS0 : Hid ((W0.alloc (.cells (madeCells #[.int .i64 0] (n / 16).toNat) 3)).ownsRow (w.heap.size + 1 + 1) 3 1 (.slice (some ⟨w.heap.size + 1 + 1, 0, none⟩) (n / 16).toNat (n / 16).toNat) (List.replicate s (0 : Int)).length (vals .i64 (List.replicate s 0))) := by unfold Hid; rw [hs, hS]; exact own_made W0 _ _ _ _ (Nat.le_refl _) (by unfold maxLen; omega)
    have HB0 : Hid (Below (w.heap.size + 1 + 1) W0 (W0.alloc (.cells (madeCells #[.int .i64 0] (n / 16).toNat) 3))) := by unfold Hid; rw [hS]; exact bel0 _ _
    have HSn : Hid (s = (n / 16).toNat) := hs
    clear hW0 hS hs
    go_loopw [5, 6, 7] (fun v cc i wr => ∃ (k : Nat) (cr : Int) (out : List Int), cc = .int .i64 cr ∧ i = .int .i64 k ∧ 0 ≤ cr ∧ cr < q ∧ (k ≤ ds.length ∨ cr = 0) ∧ k ≤ ds.length + 1 ∧ out.length = s + k ∧ Hid (List.replicate s 0 ++ carryL 65536 (timesL q ds) 0 = out ++ carryL 65536 (timesL q (ds.drop k)) cr) ∧
        wr.ownsRow (w.heap.size + 1 + 1) 3 1 v out.length (vals .i64 out) ∧ Below (w.heap.size + 1 + 1) W0 wr) (fun _ _ i _ => ds.length + 1 - (intOf i).toNat)
    case atStart => exact ⟨0, 0, List.replicate s 0, rfl, rfl, by decide, q0, .inl (Nat.zero_le _), Nat.zero_le _, by simp, rfl, HS0.out, HB0.out⟩
    case round =>
      obtain ⟨k, cr, out, rfl, rfl, hc0, hc1, hkk, hkb, hol, hrest, hown, hnx⟩ := hrel
      clear HS0 HB0
      have F1 : Hid (Bx1 w (.bool g) (.slice a ds.length c) wr) := F.out.on hnx
      have s1 := F1.out.q1
      have hle := F1.out.le
      have hlo : out.length ≤ 200000 := by omega
      by_cases h1 : k < ds.length
      · have hb1 := hdz.at (by decide) k
        obtain ⟨b, off, rfl, g1⟩ := row_cell hz F1.out.bel h1
        obtain ⟨y, hyy⟩ : ∃ y, y = ds.getD k 0 := ⟨_, rfl⟩
        rw [← hyy] at hb1 g1
        obtain ⟨hb10, hb11⟩ := hb1
        have hp0 := Int.mul_nonneg hb10 (Int.le_of_lt q0)
        have hp1 : y * q ≤ 65535 * 32768 := Int.mul_le_mul (by omega) q1 (by omega) (by decide)
        simp only [Int.reduceMul] at hp1
        have htc := times_carry (B := 65536) (by decide) q0 hb10 hb11 hc0 hc1
        rw [show y * q + cr = cr + y * q by omega] at htc
        have HS : Hid (List.replicate s 0 ++ carryL 65536 (timesL q ds) 0 = (out ++ [(cr + y * q) % 65536]) ++ carryL 65536 (timesL q (ds.drop (k + 1))) ((cr + y * q) / 65536)) := by
          unfold Hid
          rw [hrest.out, timesL_drop h1, ← hyy, carryL, show y * q + cr = cr + y * q by omega]
          simp
        have HTC : Hid (0 ≤ (cr + y * q) / 65536 ∧ (cr + y * q) / 65536 < q) := htc
        rw [HQ.out] at hp0 hp1
        have HN : Hid (Below (w.heap.size + 1 + 1) W0 wr) := hnx
        clear hrest hyy hnx htc hdz hz F F1
        go_wp2_with (at_builtin; refine app1 rfl (.tmp 43) (.tmp 46) 62 rfl (w.heap.size + 1 + 1) 3 Tryd.underlying62 Tryd.info3 (by decide) _ _ rfl rfl hown (by omega) hle ?_; intro a1 n1 c1 w1 hown1 hb1 hs1)
        rw [← HQ.out] at hown1
        go_roundw
        case rel => exact ⟨k + 1, (cr + y * q) / 65536, out ++ [(cr + y * q) % 65536], by rw [HQ.out], by go_num, HTC.out.1, HTC.out.2, .inl (by omega), by omega, by simp; omega, HS, hown1, HN.out.trans hb1⟩
        case measure => simp [intOf]; omega
      · by_cases hcp : 0 < cr
        · have hkn : k = ds.length := by omega
          subst hkn
          have E1 : Hid (cr % 65536 = cr) := by unfold Hid; omega
          have E2 : Hid (cr / 65536 = 0) := by unfold Hid; omega
          have HS : Hid (List.replicate s 0 ++ carryL 65536 (timesL q ds) 0 = (out ++ [cr]) ++ carryL 65536 (timesL q (ds.drop (ds.length + 1))) 0) := by
            unfold Hid
            rw [hrest.out, List.drop_eq_nil_of_le (Nat.le_refl _), List.drop_eq_nil_of_le (by omega)]
            simp [timesL, carryL, show cr ≠ 0 by omega]
          have HN : Hid (Below (w.heap.size + 1 + 1) W0 wr) := hnx
          clear hrest hnx hdz hz F F1
          go_wp2_with (at_builtin; refine app1 rfl (.tmp 43) (.tmp 46) 62 rfl (w.heap.size + 1 + 1) 3 Tryd.underlying62 Tryd.info3 (by decide) _ _ rfl rfl hown (by omega) hle ?_; intro a1 n1 c1 w1 hown1 hb1 hs1)
          rw [E1.out] at hown1
          go_roundw
          case rel => exact ⟨ds.length + 1, 0, out ++ [cr], by rw [E2.out], by go_num, by decide, q0, .inr rfl, by omega, by simp; omega, HS, hown1, HN.out.trans hb1⟩
          case measure => simp [intOf]
        · have hcz : cr = 0 := by omega
          subst hcz
          have hfin : List.replicate s 0 ++ carryL 65536 (timesL q ds) 0 = out := by
            rw [hrest.out, List.drop_eq_nil_of_le (by omega)]; simp [timesL, carryL]
          have hV : val 65536 out = 65536 ^ s * (val 65536 ds * q) := by rw [← hfin, val_up, val_carry, val_timesL]; simp
          have hG : Dig 65536 out := by rw [← hfin]; exact Dig.append (Dig.zeros (by decide) _) (dig_times (by decide) q0 (by omega) _ _ hdz (by decide) q0)
          have hL : out.length ≤ ds.length + (n / 16).toNat + 1 := by rw [← HSn.out]; omega
          have HV : Hid (val 65536 out = 65536 ^ s * (val 65536 ds * q)) := hV
          have HG : Hid (Dig 65536 out) := hG
          have HL : Hid (out.length ≤ ds.length + (n / 16).toNat + 1) := hL
          obtain ⟨a2, c2, rfl, hcm, hsl, hrn⟩ := own_row hown
          have s0 := F1.out.q0
          have HSl : Hid (Sl .i64 wr a2 c2 out) := hsl
          have HF : Hid (Far (w.heap.size + 1 + 1) a2 out) := hrn.far (Nat.le_refl _) (Nat.le_refl _)
          clear hfin hV hG hL hown hrest hdz hz hol hsl hrn hnx
          go_wp2_with fail
          refine (make_any g a2 c2 out _ (by omega) hcm HSl.out HG.out).mono ?_
          rintro e w2 ⟨g2, fs, rfl, hfl, hL2, hb2⟩
          rw [HV.out, HX.out] at hL2
          have F2 : Hid (Bx1 w (.bool g) (.slice a ds.length c) w2) := F1.out.later hb2
          have r1 := F2.out.r1
          have r2 := F2.out.r2
          have r3 := F2.out.r3
          have HL2 : Hid (L1 w2 g2 a2 c2 fs (x * 2 ^ n.toNat)) := hL2
          have HF2 : Hid (Far (w.heap.size + 1 + 1) a2 fs) := by
            rcases HF.out with h | h
            · subst h; exact .inl (List.length_eq_zero_iff.1 (by simpa using hfl))
            · exact .inr h
          clear hL2 hb2 s0 s1 F1
          go_wp2
          refine bodyPost_ret (v := .agg #[.bool g2, .slice a2 fs.length c2]) (by simp [results, Tryd.results61, go_sem, r1, r2]) rfl ⟨g2, a2, c2, fs, rfl, by have := HL.out; omega, ?_, HF2.out.down (by omega), ?_⟩
          · exact (HL2.out.setFar HF2.out (by simp) _).setFar HF2.out (by simp) _
          · exact (F2.out.bel.setCell (by simp) _).setCell (by simp) _

end Go.Proofs.YtladfpljnaippabDoor
