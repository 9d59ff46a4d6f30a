/-
  The model's DyFloat, walked.
-/
import Derived.Test.YtladfpljnaippaaSpecBtSpecSSpecDf
import Derived.Test.YtladfpljnaippaaDyI5DyI6aDy3h
import Derived.Deep.CutRange
namespace Go.Proofs.Ytladfpljnaippaa
open Go.RowKit

theorem fl_fin {N E R : Int} (g : Bool) (hN : 0 < N) (hF : flR N E = R) (h : R < 2139095040) : flB true g N E = R + (if g = true then 2147483648 else 0) ∧ flC true N E = 0 := by
  constructor
  · unfold flB
    rw [hF, if_pos ⟨rfl, by omega, h⟩]
  · unfold flC
    rw [hF, if_pos rfl, if_neg (by omega)]

theorem fl_big {N E R : Int} (g : Bool) (hN : 0 < N) (hF : flR N E = R) (h : 2139095040 ≤ R) : flB true g N E = 0 ∧ flC true N E = 2 := by
  constructor
  · unfold flB
    rw [hF, if_neg (by omega)]
  · unfold flC
    rw [hF, if_pos rfl, if_pos ⟨by omega, h⟩]

/-- A number that is not negative is its digits. -/
theorem L1.pos {w : World} {g : Bool} {a : Option Addr} {c : Nat} {ds : List Int} {x : Int} (h : L1 w g a c ds x) (hx : 0 ≤ x) : g = false ∧ val 65536 ds = x := by
  cases g
  · exact ⟨rfl, h.num.symm⟩
  · exfalso
    have h1 := val_pos (B := 65536) (by decide) h.can (h.zero rfl)
    have h2 : x = -val 65536 ds := h.num
    omega

theorem wrapS {n : Int} (h0 : -9223372036854775808 ≤ n) (h1 : n ≤ 9223372036854775807) : IntKind.i64.wrap n = n := by
  simp [IntKind.wrap, IntKind.bits, IntKind.signed]
  omega

/-- The normal form's size and sign. -/
theorem norm_parts {g g2 : Bool} {N K m E e' : Int} {T : Nat} (hN : 0 < N) (hK : 0 ≤ K) (hm : m = sg g2 K) (h : NormOf (sg g N) E m e' T) : ∃ t : Nat, t ≤ T ∧ e' = E + t ∧ N = K * 2 ^ t ∧ g2 = g ∧ 0 < K := by
  rcases h with ⟨h0, _⟩ | ⟨_, t, h1, h2, _, h4⟩
  · exfalso
    cases g <;> simp [sg] at h0 <;> omega
  · have hp : (0 : Int) < 2 ^ t := Int.pow_pos (by decide)
    have hK2 : 0 ≤ K * 2 ^ t := Int.mul_nonneg hK (Int.le_of_lt hp)
    have hK0 : N = K * 2 ^ t → 0 < K := by
      intro e
      rcases Int.lt_or_eq_of_le hK with h | h
      · exact h
      · rw [← h] at e
        simp at e
        omega
    rw [hm] at h1
    refine ⟨t, h4, h2, ?_⟩
    cases g <;> cases g2
    · have h1 : N = K * 2 ^ t := h1
      exact ⟨h1, rfl, hK0 h1⟩
    · have h1 : N = -K * 2 ^ t := h1
      rw [Int.neg_mul] at h1
      omega
    · have h1 : -N = K * 2 ^ t := h1
      omega
    · have h1 : -N = -K * 2 ^ t := h1
      rw [Int.neg_mul] at h1
      have h1 : N = K * 2 ^ t := by omega
      exact ⟨h1, rfl, hK0 h1⟩

set_option maxHeartbeats 4000000 in
theorem flS_bad (g : Bool) (a : Option Addr) (c : Nat) (zs : List Int) (E : Int) (w : World) (hn : zs.length ≤ 1048576) (hz : RowAt .u32 w a zs) (hv : validD g zs E = false) :
    Calls Try.prog 9 #[.agg #[.bool g, .slice a zs.length c, .int .i64 E]] w fun e w' => e = .returned (.tuple #[.int .u32 0, .int .i64 1]) ∧ Below w.heap.size w w' := by
  go_enter Try.func9, Try.ntmps9
  go_wp2_with fail
  refine (valid2S_any g a c zs E _ hn (hz.later (bel0 _ _))).mono ?_
  rintro e w1 ⟨rfl, hb1⟩
  rw [hv]
  have HB : Hid (Below w.heap.size w w1) := (bel0 _ _).trans (hb1.mono (by simp))
  clear hb1
  go_wp2
  refine bodyPost_ret (v := .tuple #[.int .u32 0, .int .i64 1]) (by simp [results, Try.results9, go_sem]) rfl ?_
  exact ⟨rfl, HB.out⟩

set_option maxRecDepth 100000 in
set_option maxHeartbeats 4000000 in
theorem flS_pos (g : Bool) (a : Option Addr) (c : Nat) (zs : List Int) (E : Int) (w : World) (hz : RowAt .u32 w a zs) (hu : U32 zs) (hv : validD g zs E = true) (hne : zs ≠ []) :
    Calls Try.prog 9 #[.agg #[.bool g, .slice a zs.length c, .int .i64 E]] w fun e w' => e = .returned (.tuple #[.int .u32 (flB true g (val 4294967296 zs) E), .int .i64 (flC true (val 4294967296 zs) E)]) ∧ Below w.heap.size w w' := by
  obtain ⟨vb1, hE0, hE1⟩ := validD_parts hv
  obtain ⟨hcan, hn, -⟩ := valid_canon hu vb1
  have hNp : Hid (0 < val 4294967296 zs) := val_pos (by decide) hcan hne
  have B0 : Hid (∀ t, BxD w (.bool g) (.slice a zs.length c) (.int .i64 E) (w.alloc (.cells #[.bool g, .slice a zs.length c, .int .i64 E] t))) := fun t => BxD.start w _ _ _ _
  go_enter Try.func9, Try.ntmps9
  go_wp2_with fail
  refine (valid2S_any g a c zs E _ (by omega) (hz.later (bel0 _ _))).mono ?_
  rintro e w1 ⟨rfl, hb1⟩
  rw [hv]
  have F1 : Hid (BxD w (.bool g) (.slice a zs.length c) (.int .i64 E) w1) := (B0.out _).later hb1
  have s0 := F1.out.q0
  have s1 := F1.out.q1
  have s2 := F1.out.q2
  clear hb1 B0 hv vb1
  go_wp2_with fail
  refine (of2_any g a c zs E _ (by omega) (by omega) (by omega) (hz.later F1.out.bel) hu).mono ?_
  rintro e w2 ⟨m, e', hno, g2, a2, c2, ds, rfl, hl2, hL2, hF2, hb2⟩
  obtain ⟨t, ht, rfl, hNK, rfl, hKp⟩ := norm_parts hNp.out (val_nonneg (by decide) hL2.can.1) hL2.num hno
  have FX : Hid (∀ t', DX w w2.heap.size g2 a2 c2 ds m (E + t) (w2.alloc (.cells #[.bool g2, .slice a2 ds.length c2, .int .i64 (E + t)] t'))) := fun t' => DX.start (F1.out.bel.trans (hb2.mono F1.out.bel.size)) hL2 t'
  have hNe : ds ≠ [] := by
    intro e
    rw [e] at hKp
    simp [val] at hKp
  have hl0 : ((ds.length : Int) == 0) = false := by rw [beq_eq_false_iff_ne]; have : ds.length ≠ 0 := fun e => hNe (List.length_eq_zero_iff.1 e); omega
  have HNK : Hid (val 4294967296 zs = val 65536 ds * 2 ^ t) := hNK
  have HKP : Hid (0 < val 65536 ds) := hKp
  clear hNK hKp hL2 hF2 hb2 hno s0 s1 s2 F1 hz hu hcan hne
  go_wp2
  obtain ⟨W0, hW0⟩ : ∃ W0, W0 = w2.alloc (.cells #[.bool g2, .slice a2 ds.length c2, .int .i64 (E + t)] 54) := ⟨_, rfl⟩
  have F : Hid (DX w w2.heap.size g2 a2 c2 ds m (E + t) W0) := by unfold Hid; rw [hW0]; exact FX.out _
  rw [← hW0]
  clear hW0 FX
  go_region_held3 (fun w' => w'.cell? ⟨w2.heap.size, 0, none⟩ = some (.bool g2) ∧ w'.cell? ⟨w2.heap.size, 1, none⟩ = some (.slice a2 ds.length c2) ∧ w'.cell? ⟨w2.heap.size, 2, none⟩ = some (.int .i64 (E + t)) ∧ Below W0.heap.size W0 w')
    (first | exact F.out.held (Below.refl _ _).drew | exact F.out.held (by assumption))
    (first
      | (go_at_call 23; refine (bits_any g2 a2 c2 ds m _ (by omega) (F.out.l1.later (Below.refl _ _).drew) hNe).mono ?_; rintro e w3 ⟨n, rfl, hn16, hn1, hn2, hb3⟩; have hB3 : Below W0.heap.size W0 w3 := (Below.refl _ _).drew.trans hb3))
  have F3 : Hid (DX w w2.heap.size g2 a2 c2 ds m (E + t) w3) := F.out.later hB3
  have HPN : Hid (2 ^ n ≤ val 65536 ds ∧ val 65536 ds < 2 ^ (n + 1)) := ⟨hn1, hn2⟩
  have hP := plc_of (E := E + t) hn1 hn2
  obtain ⟨P, hPP⟩ : ∃ P, P = plc (val 65536 ds) (E + t) := ⟨_, rfl⟩
  rw [← hPP] at hP
  have HP : Hid (P = plc (val 65536 ds) (E + t)) := hPP
  have hP1 : P = E + t + (n + 1) - 24 ∧ -149 ≤ P ∨ P = -149 ∧ E + t + (n + 1) - 24 < -149 := by omega
  have hP0 : -149 ≤ P ∧ P ≤ 60000 := by omega
  have HQ : Hid (P = E + t + (n + 1) - 24 ∧ -149 ≤ P ∨ P = -149 ∧ E + t + (n + 1) - 24 < -149) := hP1
  clear hn1 hn2 hb3 hB3 hP hPP hP1
  go_upto_if 33 with fail
  go_cut [5] from 34 (fun s5 wx => s5 = .int .i64 P ∧ wx = w3)
  case first =>
    by_cases hlt : E + t + (n + 1) - 24 < -149
    · go_wp2
      go_meet
      case rel => exact ⟨by have := HQ.out; rw [show P = -149 by omega], rfl⟩
    · go_wp2
      go_meet
      case rel => exact ⟨by have := HQ.out; rw [wrapS (n := E + t + (n + 1)) (by omega) (by omega), wrapS (by omega) (by omega), show P = E + t + (n + 1) - 24 by omega], rfl⟩
  case rest =>
    obtain ⟨rfl, rfl⟩ := hcut
    have s0 := F3.out.x0
    have s1 := F3.out.x1
    have s2 := F3.out.x2
    clear F HQ
    go_wp2_with fail
    refine (make_any false a2 c2 ds _ (by omega) F3.out.l1.cap F3.out.l1.sl F3.out.l1.can.1).mono ?_
    rintro e w4 ⟨g4, ms, rfl, hl4, hL4, hb4⟩
    have FM : Hid (∀ t', DM w w2.heap.size w4.heap.size g2 (E + t) g4 a2 c2 ms (val 65536 ds) (w4.alloc (.cells #[.bool g4, .slice a2 ms.length c2] t'))) := fun t' => DM.start F3.out hb4 hL4 t'
    have oM : w2.heap.size < w4.heap.size := (FM.out 0).xm
    have FX := F3.out.later hb4
    have s2 := FX.x2
    have s0 := FX.x0
    clear hL4 hb4 s1 F3 FX
    go_upto_if 41 with fail
    obtain ⟨W5, hW5⟩ : ∃ W5, W5 = w4.alloc (.cells #[.bool g4, .slice a2 ms.length c2] 52) := ⟨_, rfl⟩
    have F5 : Hid (DM w w2.heap.size w4.heap.size g2 (E + t) g4 a2 c2 ms (val 65536 ds) W5) := by unfold Hid; rw [hW5]; exact FM.out _
    rw [← hW5]
    clear hW5 FM s0 s2
    obtain ⟨hg4, hvm⟩ := F5.out.l1.pos (Int.le_of_lt HKP.out)
    subst hg4
    have HVM : Hid (val 65536 ms = val 65536 ds) := hvm
    clear hvm
    have hml : ms.length ≤ 1024 := by omega
    go_cut [7, 8, 9, 10] from 41 (fun _ _ _ _ wx => ∃ (Gm : Bool) (am : Option Addr) (cm : Nat) (ys : List Int), ys.length ≤ 100000 ∧ Hid (DM w w2.heap.size w4.heap.size g2 (E + t) Gm am cm ys (rnd (val 65536 ds) (P - (E + t))) wx))
    case first =>
      have s2 := F5.out.x2
      have m0 := F5.out.m0
      have m1 := F5.out.m1
      have fr := F5.out.fr
      have zz : w4.heap.size < W5.heap.size := F5.out.lt
      by_cases hge : P ≤ E + t
      · go_wp2_with fail
        refine (up_any false a2 c2 ms (val 65536 ds) (E + t - P) _ (by omega) (by omega) (by omega) F5.out.l1).mono ?_
        rintro e w6 ⟨g6, a6, c6, fs, rfl, hl6, hL6, hF6, hb6⟩
        have HN : Hid (DM w w2.heap.size w4.heap.size g2 (E + t) g6 a6 c6 fs (rnd (val 65536 ds) (P - (E + t))) ((w6.setCell ⟨w4.heap.size, 0, none⟩ (.bool g6)).setCell ⟨w4.heap.size, 1, none⟩ (.slice a6 fs.length c6))) := by
          unfold Hid
          rw [rnd_up (by omega), show (-(P - (E + t))).toNat = (E + t - P).toNat by congr 1; omega]
          exact F5.out.put hb6 hL6 hF6
        have F6 : Hid (DM w w2.heap.size w4.heap.size g2 (E + t) false a2 c2 ms (val 65536 ds) w6) := F5.out.later hb6
        have hl7 : fs.length ≤ 100000 := by omega
        clear hL6 hF6 hb6 s2 m0 m1 fr zz
        have s2 := F6.out.x2
        have m0 := F6.out.m0
        have m1 := F6.out.m1
        have fr := F6.out.fr
        have zz : w4.heap.size < w6.heap.size := F6.out.lt
        go_wp2
        go_meet
        case rel => exact ⟨g6, a6, c6, fs, hl7, HN⟩
      · obtain ⟨c0, hc0⟩ : ∃ c0 : Nat, P - (E + t) = (c0 : Int) + 1 := ⟨(P - (E + t) - 1).toNat, by omega⟩
        have HC0 : Hid (P - (E + t) = (c0 : Int) + 1) := hc0
        clear hc0
        go_wp2_with fail
        refine (down_any false a2 c2 ms (val 65536 ds) (P - (E + t) - 1) _ (by omega) (by omega) (by omega) F5.out.l1).mono ?_
        rintro e w6 ⟨g6, a6, c6, f6, rfl, hl6, hL6, hF6, hb6⟩
        rw [HVM.out, show (P - (E + t) - 1).toNat = c0 by have := HC0.out; omega] at hL6 ⊢
        have F6 : Hid (DM w w2.heap.size w4.heap.size g2 (E + t) false a2 c2 ms (val 65536 ds) w6) := F5.out.later hb6
        have HL6 : Hid (∀ o, L1 (w6.alloc o) g6 a6 c6 f6 (val 65536 ds / 2 ^ c0)) := fun o => hL6.later (bel0 _ _)
        obtain ⟨lo, hlo⟩ : ∃ lo, lo = lostB (val 65536 ds) (2 ^ c0) := ⟨_, rfl⟩
        rw [← hlo]
        have HLO : Hid (lo = lostB (val 65536 ds) (2 ^ c0)) := hlo
        clear hlo hL6 hF6 hb6 s2 m0 m1 fr zz
        go_wp2_with fail
        refine (odd_any g6 a6 c6 f6 _ _ (by omega) (HL6.out _)).mono ?_
        rintro e w7 ⟨rfl, hb7⟩
        have F7 : Hid (DM w w2.heap.size w4.heap.size g2 (E + t) false a2 c2 ms (val 65536 ds) w7) := (F6.out.later (bel0 _ _)).later hb7
        have hv6 := ((HL6.out (.cells #[] 0)).pos (Int.ediv_nonneg (Int.le_of_lt HKP.out) (Int.le_of_lt (Int.pow_pos (by decide))))).2
        rw [hv6]
        obtain ⟨up, hup⟩ : ∃ up, up = decide (val 65536 ds / 2 ^ c0 % 2 = 1) := ⟨_, rfl⟩
        rw [← hup]
        have HUP : Hid (up = decide (val 65536 ds / 2 ^ c0 % 2 = 1)) := hup
        clear hup hb7 F6 hv6 HL6
        have s2 := F7.out.x2
        have m0 := F7.out.m0
        have m1 := F7.out.m1
        have fr := F7.out.fr
        have zz : w4.heap.size < w7.heap.size := F7.out.lt
        go_wp2_with fail
        refine (down_any false a2 c2 ms (val 65536 ds) (P - (E + t)) _ (by omega) (by omega) (by omega) F7.out.l1).mono ?_
        rintro e w8 ⟨g8, a8, c8, f8, rfl, hl8, hL8, hF8, hb8⟩
        rw [HVM.out, show (P - (E + t)).toNat = c0 + 1 by have := HC0.out; omega] at hL8 ⊢
        have HN : Hid (DM w w2.heap.size w4.heap.size g2 (E + t) g8 a8 c8 f8 (val 65536 ds / 2 ^ (c0 + 1)) ((w8.setCell ⟨w4.heap.size, 0, none⟩ (.bool g8)).setCell ⟨w4.heap.size, 1, none⟩ (.slice a8 f8.length c8))) := F7.out.put hb8 hL8 hF8
        have F8 : Hid (DM w w2.heap.size w4.heap.size g2 (E + t) false a2 c2 ms (val 65536 ds) w8) := F7.out.later hb8
        obtain ⟨lo2, hlo2⟩ : ∃ lo2, lo2 = lostB (val 65536 ds) (2 ^ (c0 + 1)) := ⟨_, rfl⟩
        rw [← hlo2]
        clear hL8 hF8 hb8 s2 m0 m1 fr zz hlo2 F7
        have m0 := F8.out.m0
        have m1 := F8.out.m1
        have fr := F8.out.fr
        have zz : w4.heap.size < w8.heap.size := F8.out.lt
        have hf8 : f8.length ≤ 1024 := by omega
        clear hl8
        cases up
        · have HN0 : Hid (DM w w2.heap.size w4.heap.size g2 (E + t) g8 a8 c8 f8 (rnd (val 65536 ds) (P - (E + t))) ((w8.setCell ⟨w4.heap.size, 0, none⟩ (.bool g8)).setCell ⟨w4.heap.size, 1, none⟩ (.slice a8 f8.length c8))) := by
            unfold Hid
            rw [rnd_down HC0.out, if_neg (fun h => (of_decide_eq_false HUP.out.symm) h.1), Int.add_zero]
            exact HN.out
          go_wp2
          go_meet
          case rel => exact ⟨g8, a8, c8, f8, by omega, HN0⟩
        · cases lo
          · go_upto_region 16 with fail
            obtain ⟨W9, hW9⟩ : ∃ W9, W9 = ((w8.setCell ⟨w4.heap.size, 0, none⟩ (.bool g8)).setCell ⟨w4.heap.size, 1, none⟩ (.slice a8 f8.length c8)) := ⟨_, rfl⟩
            rw [← hW9] at HN ⊢
            clear hW9 m0 m1 fr zz F8
            have m0 := HN.out.m0
            have m1 := HN.out.m1
            go_wp2_with fail
            refine (odd_any g8 a8 c8 f8 _ _ (by omega) HN.out.l1).mono ?_
            rintro e wO ⟨rfl, hbO⟩
            have F9 : Hid (DM w w2.heap.size w4.heap.size g2 (E + t) g8 a8 c8 f8 (val 65536 ds / 2 ^ (c0 + 1)) wO) := HN.out.later hbO
            have hv8 := (F9.out.l1.pos (Int.ediv_nonneg (Int.le_of_lt HKP.out) (Int.le_of_lt (Int.pow_pos (by decide))))).2
            rw [hv8]
            clear hv8 hbO m0 m1 HN W9
            revert F9
            generalize wO = W9
            intro F9
            have m0 := F9.out.m0
            have m1 := F9.out.m1
            have fr := F9.out.fr
            have zz : w4.heap.size < W9.heap.size := F9.out.lt
            by_cases hod : val 65536 ds / 2 ^ (c0 + 1) % 2 = 1
            · have HIN : Hid (val 65536 ds / 2 ^ c0 % 2 = 1 ∧ (val 65536 ds % 2 ^ c0 ≠ 0 ∨ val 65536 ds / 2 ^ (c0 + 1) % 2 = 1)) := ⟨of_decide_eq_true HUP.out.symm, .inr hod⟩
              rw [decide_eq_true hod]
              clear hod
              go_wp2
              go_region_with
                (first
                  | (go_at_call 29; refine (small_any 1 _ (by decide) (by decide)).mono ?_; rintro e wA ⟨aA, cA, fA, rfl, hlA, hLA, hFA, hbA⟩; have hBA : Below W9.heap.size W9 wA := (Below.refl _ _).drew.trans hbA; have F10 : Hid (DM w w2.heap.size w4.heap.size g2 (E + t) g8 a8 c8 f8 (val 65536 ds / 2 ^ (c0 + 1)) wA) := F9.out.later hBA; have n0 := F10.out.m0; have n1 := F10.out.m1)
                  | (go_at_call 28; refine (add_any g8 false a8 aA c8 cA f8 fA (val 65536 ds / 2 ^ (c0 + 1)) 1 _ (by omega) (by omega) F10.out.l1 hLA).mono ?_; rintro e wB ⟨gB, aB, cB, fB, rfl, hlB, hLB, hFB, hbB⟩; have hBB : Below W9.heap.size W9 wB := hBA.trans (hbB.mono hBA.size); have F11 : Hid (DM w w2.heap.size w4.heap.size g2 (E + t) g8 a8 c8 f8 (val 65536 ds / 2 ^ (c0 + 1)) wB) := F9.out.later hBB; have p0 := F11.out.m0; have p1 := F11.out.m1; have p2 := F11.out.fr; have p3 : w4.heap.size < wB.heap.size := F11.out.lt))
              all_goals
                have HN2 : Hid (DM w w2.heap.size w4.heap.size g2 (E + t) gB aB cB fB (rnd (val 65536 ds) (P - (E + t))) ((wB.setCell ⟨w4.heap.size, 0, none⟩ (.bool gB)).setCell ⟨w4.heap.size, 1, none⟩ (.slice aB fB.length cB))) := by
                  unfold Hid
                  rw [rnd_down HC0.out, if_pos HIN.out]
                  exact F9.out.put hBB hLB (hFB.down hBA.size)
                have hlC : fB.length ≤ 100000 := by omega
                clear m0 m1 fr zz n0 n1 hLA hFA hbA hBA F10 hLB hFB hbB hBB F11 F9
                go_wp2
                go_meet
                case rel => exact ⟨gB, aB, cB, fB, hlC, HN2⟩
            · have HN0 : Hid (DM w w2.heap.size w4.heap.size g2 (E + t) g8 a8 c8 f8 (rnd (val 65536 ds) (P - (E + t))) W9) := by
                unfold Hid
                have hl0 : ¬ (val 65536 ds % 2 ^ c0 ≠ 0) := of_decide_eq_false HLO.out.symm
                rw [rnd_down HC0.out, if_neg (fun h => h.2.elim hl0 hod), Int.add_zero]
                exact F9.out
              rw [decide_eq_false hod]
              clear hod
              go_wp2
              go_meet
              case rel => exact ⟨g8, a8, c8, f8, by omega, HN0⟩
          · have HIN : Hid (val 65536 ds / 2 ^ c0 % 2 = 1 ∧ (val 65536 ds % 2 ^ c0 ≠ 0 ∨ val 65536 ds / 2 ^ (c0 + 1) % 2 = 1)) := ⟨of_decide_eq_true HUP.out.symm, .inl (of_decide_eq_true HLO.out.symm)⟩
            go_wp2
            obtain ⟨W9, hW9⟩ : ∃ W9, W9 = ((w8.setCell ⟨w4.heap.size, 0, none⟩ (.bool g8)).setCell ⟨w4.heap.size, 1, none⟩ (.slice a8 f8.length c8)) := ⟨_, rfl⟩
            rw [← hW9] at HN ⊢
            clear hW9 m0 m1 fr zz F8
            have F9 := HN
            clear HN
            have m0 := F9.out.m0
            have m1 := F9.out.m1
            have fr := F9.out.fr
            have zz : w4.heap.size < W9.heap.size := F9.out.lt
            go_region_with
              (first
                | (go_at_call 29; refine (small_any 1 _ (by decide) (by decide)).mono ?_; rintro e wA ⟨aA, cA, fA, rfl, hlA, hLA, hFA, hbA⟩; have hBA : Below W9.heap.size W9 wA := (Below.refl _ _).drew.trans hbA; have F10 : Hid (DM w w2.heap.size w4.heap.size g2 (E + t) g8 a8 c8 f8 (val 65536 ds / 2 ^ (c0 + 1)) wA) := F9.out.later hBA; have n0 := F10.out.m0; have n1 := F10.out.m1)
                | (go_at_call 28; refine (add_any g8 false a8 aA c8 cA f8 fA (val 65536 ds / 2 ^ (c0 + 1)) 1 _ (by omega) (by omega) F10.out.l1 hLA).mono ?_; rintro e wB ⟨gB, aB, cB, fB, rfl, hlB, hLB, hFB, hbB⟩; have hBB : Below W9.heap.size W9 wB := hBA.trans (hbB.mono hBA.size); have F11 : Hid (DM w w2.heap.size w4.heap.size g2 (E + t) g8 a8 c8 f8 (val 65536 ds / 2 ^ (c0 + 1)) wB) := F9.out.later hBB; have p0 := F11.out.m0; have p1 := F11.out.m1; have p2 := F11.out.fr; have p3 : w4.heap.size < wB.heap.size := F11.out.lt))
            all_goals
              have HN2 : Hid (DM w w2.heap.size w4.heap.size g2 (E + t) gB aB cB fB (rnd (val 65536 ds) (P - (E + t))) ((wB.setCell ⟨w4.heap.size, 0, none⟩ (.bool gB)).setCell ⟨w4.heap.size, 1, none⟩ (.slice aB fB.length cB))) := by
                unfold Hid
                rw [rnd_down HC0.out, if_pos HIN.out]
                exact F9.out.put hBB hLB (hFB.down hBA.size)
              have hlC : fB.length ≤ 100000 := by omega
              clear m0 m1 fr zz n0 n1 hLA hFA hbA hBA F10 hLB hFB hbB hBB F11 F9
              go_wp2
              go_meet
              case rel => exact ⟨gB, aB, cB, fB, hlC, HN2⟩
    case rest =>
      obtain ⟨Gm, am, cm, ys, hyl, FM⟩ := hcut
      have hr := rnd_plc (E := E + t) HPN.out.1 HPN.out.2
      rw [← HP.out] at hr
      obtain ⟨V, hV⟩ : ∃ V, V = rnd (val 65536 ds) (P - (E + t)) := ⟨_, rfl⟩
      rw [← hV] at hr FM
      obtain ⟨hgm, hvm⟩ := FM.out.l1.pos hr.1
      subst hgm
      have HF : Hid (flR (val 4294967296 zs) E = V + (P + 149) * 8388608) := by
        unfold Hid
        rw [HNK.out, flR_pow HKP.out t E]
        unfold flR
        rw [← HP.out, ← hV]
      have HVV : Hid (val 65536 ys = V) := hvm
      obtain ⟨hr0, hr1, hr2⟩ := hr
      have HR2 : Hid (P ≠ -149 → 8388608 ≤ V) := hr2
      have x0 := FM.out.x0
      have m1 := FM.out.m1
      have HB : Hid (Below w.heap.size w wc) := FM.out.bel
      have HL : Hid (L1 wc false am cm ys V) := FM.out.l1
      clear hvm hV hr2 FM F5 HPN HP HNK HKP HVM
      go_wp2
      go_loop [11, 12] (fun sv si => ∃ i : Nat, i ≤ ys.length ∧ si = .int .i64 ((i : Int) - 1) ∧ ∃ q, sv = .int .i64 q ∧ 0 ≤ q ∧ q ≤ V ∧ Hid (q = val 65536 (ys.drop i))) (fun _ si => (intOf si + 1).toNat)
      case atStart => exact ⟨ys.length, Nat.le_refl _, rfl, 0, rfl, by omega, hr0, by unfold Hid; simp [val]⟩
      case round =>
        obtain ⟨i, hi, rfl, q, rfl, hq0, hq1, hq⟩ := hrel
        by_cases hi0 : i = 0
        · subst hi0
          have hqV : q = V := by rw [hq.out, List.drop_zero]; exact HVV.out
          subst hqV
          clear hq
          cases g2
          · by_cases h24 : q = 16777216
            · subst h24
              by_cases h254 : 254 < P + 1 + 150
              · go_wp2
                refine bodyPost_ret (v := .tuple #[.int .u32 0, .int .i64 2]) (by simp [results, Try.results9, go_sem]) rfl ?_
                have hk := fl_big false hNp.out HF.out (by omega)
                rw [hk.1, hk.2]
                exact ⟨rfl, HB.out⟩
              · go_wp2
                refine bodyPost_ret (v := .tuple #[.int .u32 ((P + 1 + 150) * 8388608), .int .i64 0]) (by simp [results, Try.results9, go_sem]) rfl ?_
                have hk := fl_fin false hNp.out HF.out (by omega)
                rw [hk.1, hk.2]
                exact ⟨by simp; omega, HB.out⟩
            · by_cases h23 : 8388608 ≤ q
              · by_cases h254 : 254 < P + 150
                · go_wp2
                  refine bodyPost_ret (v := .tuple #[.int .u32 0, .int .i64 2]) (by simp [results, Try.results9, go_sem]) rfl ?_
                  have hk := fl_big false hNp.out HF.out (by omega)
                  rw [hk.1, hk.2]
                  exact ⟨rfl, HB.out⟩
                · go_wp2
                  refine bodyPost_ret (v := .tuple #[.int .u32 (q - 8388608 + (P + 150) * 8388608), .int .i64 0]) (by simp [results, Try.results9, go_sem]) rfl ?_
                  have hk := fl_fin false hNp.out HF.out (by omega)
                  rw [hk.1, hk.2]
                  exact ⟨by simp; omega, HB.out⟩
              · have hp149 : P = -149 := by
                  by_cases hp : P = -149
                  · exact hp
                  · exact absurd (HR2.out hp) h23
                go_wp2
                refine bodyPost_ret (v := .tuple #[.int .u32 (q), .int .i64 0]) (by simp [results, Try.results9, go_sem]) rfl ?_
                have hk := fl_fin false hNp.out HF.out (by omega)
                rw [hk.1, hk.2]
                exact ⟨by simp; omega, HB.out⟩
          · by_cases h24 : q = 16777216
            · subst h24
              by_cases h254 : 254 < P + 1 + 150
              · go_wp2
                refine bodyPost_ret (v := .tuple #[.int .u32 0, .int .i64 2]) (by simp [results, Try.results9, go_sem]) rfl ?_
                have hk := fl_big true hNp.out HF.out (by omega)
                rw [hk.1, hk.2]
                exact ⟨rfl, HB.out⟩
              · go_wp2
                refine bodyPost_ret (v := .tuple #[.int .u32 ((P + 1 + 150) * 8388608 + 2147483648), .int .i64 0]) (by simp [results, Try.results9, go_sem]) rfl ?_
                have hk := fl_fin true hNp.out HF.out (by omega)
                rw [hk.1, hk.2]
                exact ⟨by simp; omega, HB.out⟩
            · by_cases h23 : 8388608 ≤ q
              · by_cases h254 : 254 < P + 150
                · go_wp2
                  refine bodyPost_ret (v := .tuple #[.int .u32 0, .int .i64 2]) (by simp [results, Try.results9, go_sem]) rfl ?_
                  have hk := fl_big true hNp.out HF.out (by omega)
                  rw [hk.1, hk.2]
                  exact ⟨rfl, HB.out⟩
                · go_wp2
                  refine bodyPost_ret (v := .tuple #[.int .u32 (q - 8388608 + (P + 150) * 8388608 + 2147483648), .int .i64 0]) (by simp [results, Try.results9, go_sem]) rfl ?_
                  have hk := fl_fin true hNp.out HF.out (by omega)
                  rw [hk.1, hk.2]
                  exact ⟨by simp; omega, HB.out⟩
              · have hp149 : P = -149 := by
                  by_cases hp : P = -149
                  · exact hp
                  · exact absurd (HR2.out hp) h23
                go_wp2
                refine bodyPost_ret (v := .tuple #[.int .u32 (q + 2147483648), .int .i64 0]) (by simp [results, Try.results9, go_sem]) rfl ?_
                have hk := fl_fin true hNp.out HF.out (by omega)
                rw [hk.1, hk.2]
                exact ⟨by simp; omega, HB.out⟩
        · obtain ⟨k, rfl⟩ : ∃ k, i = k + 1 := ⟨i - 1, by omega⟩
          obtain ⟨b, off, rfl, hb, hc⟩ := HL.out.sl.row.resolve_left (fun e => by rw [e] at hi; simp at hi)
          have gk := hc k (by omega)
          obtain ⟨y, hy⟩ : ∃ y, y = ys.getD k 0 := ⟨_, rfl⟩
          rw [← hy] at gk
          have hyd := HL.out.can.1.at (by decide) k
          rw [← hy] at hyd
          have hst := val_drop_step (ds := ys) (i := k) (by omega)
          rw [← hy, ← hq.out] at hst
          have hle := (val_drop_le HL.out.can.1 k (by omega)).2
          rw [HVV.out] at hle
          have HST : Hid (q * 65536 + y = val 65536 (ys.drop k)) := by unfold Hid; omega
          have hq2 : q * 65536 + y ≤ V := by omega
          have hki : (k : Int) < ys.length := by omega
          clear hc hst hle hy hq
          go_wp2
          go_round
          case rel => exact ⟨k, by omega, by go_num, q * 65536 + y, by go_num, by omega, hq2, HST⟩
          case measure => simp [intOf]
set_option maxHeartbeats 4000000 in
theorem flS_nil (a : Option Addr) (c : Nat) (E : Int) (w : World) (hv : validD false [] E = true) :
    Calls Try.prog 9 #[.agg #[.bool false, .slice a ([] : List Int).length c, .int .i64 E]] w fun e w' => e = .returned (.tuple #[.int .u32 0, .int .i64 0]) ∧ Below w.heap.size w w' := by
  obtain ⟨-, hE0, hE1⟩ := validD_parts hv
  have B0 : Hid (∀ t, BxD w (.bool false) (.slice a ([] : List Int).length c) (.int .i64 E) (w.alloc (.cells #[.bool false, .slice a ([] : List Int).length c, .int .i64 E] t))) := fun t => BxD.start w _ _ _ _
  go_enter Try.func9, Try.ntmps9
  go_wp2_with fail
  refine (valid2S_any false a c [] E _ (by simp) (.inl rfl)).mono ?_
  rintro e w1 ⟨rfl, hb1⟩
  rw [hv]
  have F1 : Hid (BxD w (.bool false) (.slice a ([] : List Int).length c) (.int .i64 E) w1) := (B0.out _).later hb1
  have s0 := F1.out.q0
  have s1 := F1.out.q1
  have s2 := F1.out.q2
  clear hb1 B0 hv
  go_wp2_with fail
  refine (of2_any false a c [] E _ (by simp) (by omega) (by omega) (.inl rfl) (fun z hz => by cases hz)).mono ?_
  rintro e w2 ⟨m, e', hno, g2, a2, c2, ds, rfl, hl2, hL2, hF2, hb2⟩
  have hds : ds.length = 0 := by simpa using hl2
  have hl0 : ((ds.length : Int) == 0) = true := by rw [beq_iff_eq]; omega
  have HB : Hid (∀ o, Below w.heap.size w (w2.alloc o)) := fun o => (F1.out.bel.trans (hb2.mono F1.out.bel.size)).alloc (by have := F1.out.bel.size; have := hb2.size; omega) o
  clear hb2 hno hl2 hL2 hF2 s0 s1 s2 F1 hds
  go_wp2
  refine bodyPost_ret (v := .tuple #[.int .u32 0, .int .i64 0]) (by simp [results, Try.results9, go_sem]) rfl ?_
  exact ⟨rfl, HB.out _⟩

/-- The model's DyFloat. -/
theorem flS_any (g : Bool) (a : Option Addr) (c : Nat) (zs : List Int) (E : Int) (w : World) (hn : zs.length ≤ 1048576) (hz : RowAt .u32 w a zs) (hu : U32 zs) :
    Calls Try.prog 9 #[.agg #[.bool g, .slice a zs.length c, .int .i64 E]] w fun e w' => e = .returned (.tuple #[.int .u32 (flB (validD g zs E) g (val 4294967296 zs) E), .int .i64 (flC (validD g zs E) (val 4294967296 zs) E)]) ∧ Below w.heap.size w w' := by
  cases hv : validD g zs E
  · refine (flS_bad g a c zs E w hn hz hv).mono ?_
    rintro e w1 ⟨rfl, hb⟩
    exact ⟨by unfold flB flC; simp, hb⟩
  · by_cases hne : zs = []
    · subst hne
      have hg : g = false := by
        cases g
        · rfl
        · exact absurd rfl ((valid_canon hu (validD_parts hv).1).2.2 rfl)
      subst hg
      refine (flS_nil a c E w hv).mono ?_
      rintro e w1 ⟨rfl, hb⟩
      exact ⟨by unfold flB flC; simp [val], hb⟩
    · exact flS_pos g a c zs E w hz hu hv hne

end Go.Proofs.Ytladfpljnaippaa
