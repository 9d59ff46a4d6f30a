/-
  The law of shifts, walked.
-/
import Derived.Test.YtlbegmepmeimkabLawS0
import Derived.Test.YtlbegmepmeimkabTake
import Derived.Test.YtlbegmepmeimkabDraw5
import Derived.Test.YtlbegmepmeimkabSpecR
import Derived.Test.YtlbegmepmeimkabImplW
import Derived.Test.YtlbegmepmeimkabImplMul
import Derived.Test.YtlbegmepmeimkabImplNgImplNImplSubImplO
import Derived.Test.YtlbegmepmeimkabCmpI
import Derived.Deep.CutRange
import Derived.Deep.Light
namespace Go.Proofs.Ytlbegmepmeimkab
open Go.RowKit

set_option maxHeartbeats 1000000 in
theorem lawFS_far (a a' : Option Addr) (c c' : Nat) (bs cs : List Int) (w : World) (hn : bs.length ≤ maxLen) (hn' : cs.length ≤ maxLen) (hl : (1048576 : Int) < bs.length ∨ (1048576 : Int) < cs.length) :
    Calls Try.prog 6 #[.slice a bs.length c, .slice a' cs.length c'] w fun e w' => e = .returned (.bool true) ∧ Below w.heap.size w w' := by
  unfold maxLen at hn hn'
  by_cases h1 : (1048576 : Int) < bs.length
  · go_enter Try.func6, Try.ntmps6
    go_wp2
    go_ret
    exact ⟨rfl, Below.refl _ _⟩
  · have h2 : (1048576 : Int) < cs.length := by omega
    go_enter Try.func6, Try.ntmps6
    go_wp2
    go_ret
    exact ⟨rfl, Below.refl _ _⟩

theorem one_u32 : U32 [1] := by
  intro z hz
  have : z = 1 := by simpa using hz
  subst this
  decide
theorem one_valid : validB false [1] = true := by decide
theorem one_val : sg false (val 4294967296 [1]) = 1 := by decide

set_option maxRecDepth 100000 in
set_option maxHeartbeats 16000000 in
theorem lawFS_near (a a' : Option Addr) (c c' : Nat) (bs cs : List Int) (w : World) (hcb : bs.length ≤ c) (hcm : c ≤ maxLen) (hnil : Nil0 a c) (hr : RowAt .u8 w a bs) (hb : Dig 256 bs) (hr' : RowAt .u8 w a' cs) (hb' : Dig 256 cs)
    (hl : ¬ (1048576 : Int) < bs.length) (hl' : ¬ (1048576 : Int) < cs.length) :
    Calls Try.prog 6 #[.slice a bs.length c, .slice a' cs.length c'] w fun e w' => e = .returned (.bool true) ∧ Below w.heap.size w w' := by
  go_enter Try.func6, Try.ntmps6
  go_wp2_with fail
  refine (drawShift_any a c bs w (by omega) hcb hcm hnil hr hb).mono ?_
  rintro e W1 ⟨G, aa, ca, zs, m, rfl, hzl, hu, hown, hb1, _⟩
  obtain ⟨a2, c2, e2, hcm2, hsl, hrn⟩ := own_row hown
  injection e2 with e3 e4 e5
  subst e3 e5
  have hzc : zs.length ≤ ca := hsl.fits
  have hnila : Nil0 aa ca := hsl.nil
  have XA : Hid (BigIn W1.heap.size G aa ca zs (W1.alloc (.cells #[.bool G, .slice aa zs.length ca] 26))) := BigIn.start _ hrn.row
  have HB1 : Hid (Below w.heap.size w (W1.alloc (.cells #[.bool G, .slice aa zs.length ca] 26))) := hb1.alloc hb1.size _
  clear hown hb1 hsl hrn
  go_wp2_with fail
  refine (take_any a' c' cs _ (by omega) (hr'.later HB1.out) hb').mono ?_
  rintro e W2 ⟨v, rfl, hv0, hv1, hb2⟩
  obtain ⟨n, hnn⟩ : ∃ n, n = v % 201 := ⟨_, rfl⟩
  have hn0 : 0 ≤ n := by omega
  have hn1 : n ≤ 200 := by omega
  have hvn : v % 201 = n := hnn.symm
  have XA2 : Hid (BigIn W1.heap.size G aa ca zs W2) := XA.out.later hb2
  have HB2 : Hid (Below w.heap.size w W2) := HB1.out.trans (hb2.mono HB1.out.size)
  clear hb2 XA HB1 hnn
  have s0 := XA2.out.q0
  have s1 := XA2.out.q1
  go_wp2_with fail
  refine (validS_any G aa ca zs _ (by unfold maxLen; omega) XA2.out.row).mono ?_
  rintro e W3 ⟨rfl, hb3⟩
  have XA3 : Hid (BigIn W1.heap.size G aa ca zs W3) := XA2.out.later hb3
  have HB3 : Hid (Below w.heap.size w W3) := HB2.out.trans (hb3.mono HB2.out.size)
  clear hb3 XA2 HB2 s0 s1
  cases hval : validB G zs
  · go_wp2
    go_ret
    exact ⟨rfl, HB3.out⟩
  · have s0 := XA3.out.q0
    have s1 := XA3.out.q1
    obtain ⟨x, hx⟩ : ∃ x, x = sg G (val 4294967296 zs) := ⟨_, rfl⟩
    have BX : Hid (B1 G zs x) := by unfold Hid; rw [hx]; exact B1.of_valid hu hval
    have hz5 : zs.length ≤ 512 := (valid_canon hu hval).2.1
    go_wp2_with fail
    refine (spShift_any G aa ca zs n _ (by omega) XA3.out.row hu).mono ?_
    rintro e W4 ⟨G4, Z4, K4, a4, c4, rfl, hres4, hr4, hf4, hb4⟩
    rw [hval, ← hx] at hres4
    have HR4 : Hid (Res true (shN x n) G4 Z4 K4) := hres4
    have XA4 : Hid (BigIn W1.heap.size G aa ca zs W4) := XA3.out.later hb4
    have HB4 : Hid (Below w.heap.size w W4) := HB3.out.trans (hb4.mono HB3.out.size)
    clear hb4 XA3 HB3 s0 s1 hres4 hr4 hf4
    by_cases hK : K4 = 0
    · obtain ⟨_, _, hfit⟩ := HR4.out.of_ok hK
      rw [shN_up hn0 (by omega)] at hfit
      obtain ⟨hp0, hp1⟩ := two_fits hn1
      have HFX : Hid (Fits (x * 2 ^ n.toNat)) := hfit
      have HF2 : Hid (Fits (2 ^ n.toNat)) := hp1
      subst hK
      clear hfit hp1
      have s0 := XA4.out.q0
      have s1 := XA4.out.q1
      have z4 : W1.heap.size < W4.heap.size := XA4.out.lt
      go_wp2_with fail
      refine (copy_any G aa ca zs _ (by omega) hnila hzc (XA4.out.row.later (bel0 _ _))).mono ?_
      rintro e W5 ⟨a5, c5, rfl, hc5, hm5, hn5, hr5, hb5⟩
      have XA5 : Hid (BigIn W1.heap.size G aa ca zs W5) := (XA4.out.later (bel0 _ _)).later hb5
      have HB5 : Hid (Below w.heap.size w W5) := (HB4.out.alloc HB4.out.size _).trans (hb5.mono (by have := HB4.out.size; simp; omega))
      clear hb5 XA4 s0 s1 z4
      go_wp2_with fail
      refine (imShiftJ_any G a5 c5 zs n _ (by omega) hc5 hm5 hr5.row hu).mono ?_
      rintro e W6 ⟨G6, Z6, K6, a6, c6, rfl, hres6, hc6, hm6, hr6, hb6⟩
      rw [hval, ← hx, shN_up hn0 (by omega)] at hres6
      obtain ⟨hK6, hB6, hl6⟩ := hres6.ok HFX.out
      subst hK6
      have XA6 : Hid (BigIn W1.heap.size G aa ca zs W6) := XA5.out.later hb6
      have HB6 : Hid (Below w.heap.size w W6) := HB5.out.trans (hb6.mono HB5.out.size)
      have BU : Hid (B1 G6 Z6 (x * 2 ^ n.toNat)) := hB6
      have RU : Hid (RowAt .u32 W6 a6 Z6) := hr6.row
      clear hb6 XA5 HB5 hres6 hB6 hr6 hr5
      go_wp2_with fail
      have O1 : RowAt .u32 ((W6.alloc (.cells #[.bool G6, .slice a6 Z6.length c6] 26)).alloc (.cells #[.int .u32 1] 46)) (some ⟨W6.heap.size + 1, 0, none⟩) [1] := by simpa using one_row (W6.alloc (.cells #[.bool G6, .slice a6 Z6.length c6] 26)) 46
      refine (imShiftJ_any false (some ⟨W6.heap.size + 1, 0, none⟩) 1 [1] n _ (by decide) (by decide) (by unfold maxLen; omega) O1 one_u32).mono ?_
      rintro e W7 ⟨G7, Z7, K7, a7, c7, rfl, hres7, hc7, hm7, hr7, hb7⟩
      rw [one_valid, one_val, shN_up hn0 (by omega), Int.one_mul] at hres7
      obtain ⟨hK7, hB7, hl7⟩ := hres7.ok HF2.out
      subst hK7
      have b67 : Below W6.heap.size W6 W7 := (bel2 _ _ _).trans (hb7.mono (by simp; omega))
      have HB7 : Hid (Below w.heap.size w W7) := HB6.out.trans (b67.mono HB6.out.size)
      have XA7 : Hid (BigIn W1.heap.size G aa ca zs W7) := XA6.out.later b67
      have XU7 : Hid (BigIn W6.heap.size G6 a6 c6 Z6 W7) := ((BigIn.start _ RU.out).later (bel0 _ _)).later hb7
      have BO : Hid (B1 G7 Z7 (2 ^ n.toNat)) := hB7
      have XO8 : Hid (BigIn W7.heap.size G7 a7 c7 Z7 (W7.alloc (.cells #[.bool G7, .slice a7 Z7.length c7] 26))) := BigIn.start _ hr7.row
      have XA8 : Hid (BigIn W1.heap.size G aa ca zs (W7.alloc (.cells #[.bool G7, .slice a7 Z7.length c7] 26))) := XA7.out.later (bel0 _ _)
      have XU8 : Hid (BigIn W6.heap.size G6 a6 c6 Z6 (W7.alloc (.cells #[.bool G7, .slice a7 Z7.length c7] 26))) := XU7.out.later (bel0 _ _)
      have HB8 : Hid (Below w.heap.size w (W7.alloc (.cells #[.bool G7, .slice a7 Z7.length c7] 26))) := HB7.out.alloc HB7.out.size _
      have hu7 : U32 Z7 := hB7.u32
      have hval7 : validB G7 Z7 = true := hB7.valid hl7
      clear O1 hb7 b67 hres7 hB7 hr7 XA6 XA7 XU7 HB6 HB7 RU
      go_wp2
      obtain ⟨X, hX⟩ : ∃ X, X = W7.alloc (.cells #[.bool G7, .slice a7 Z7.length c7] 26) := ⟨_, rfl⟩
      rw [← hX] at XO8 XA8 XU8 HB8 ⊢
      clear hX
      have KS : Hid (∀ w', Below X.heap.size X w' → w'.cell? ⟨W1.heap.size, 0, none⟩ = some (.bool G) ∧ w'.cell? ⟨W1.heap.size, 1, none⟩ = some (.slice aa zs.length ca) ∧ w'.cell? ⟨W7.heap.size, 0, none⟩ = some (.bool G7) ∧ w'.cell? ⟨W7.heap.size, 1, none⟩ = some (.slice a7 Z7.length c7) ∧ Below X.heap.size X w') := by
        intro w' hw
        exact ⟨(XA8.out.later hw).q0, (XA8.out.later hw).q1, (XO8.out.later hw).q0, (XO8.out.later hw).q1, hw⟩
      go_cut [14, 15] from 16 to 156 (fun s14 s15 wx => ∃ (T8 : Nat) (a8 : Option Addr) (c8 : Nat), s14 = .pointer (some ⟨T8, 0, none⟩) ∧ s15 = .int .i64 0 ∧ Hid (BigIn T8 G6 a8 c8 Z6 wx) ∧ Hid (Below X.heap.size X wx))
      case first =>
        go_region_held3 (fun w' => w'.cell? ⟨W1.heap.size, 0, none⟩ = some (.bool G) ∧ w'.cell? ⟨W1.heap.size, 1, none⟩ = some (.slice aa zs.length ca) ∧ w'.cell? ⟨W7.heap.size, 0, none⟩ = some (.bool G7) ∧ w'.cell? ⟨W7.heap.size, 1, none⟩ = some (.slice a7 Z7.length c7) ∧ Below X.heap.size X w')
          (first | exact KS.out _ (Below.refl _ _).drew | exact KS.out _ (by assumption) | exact KS.out _ (Below.alloc (by assumption) (Below.size (by assumption)) _) | exact KS.out _ (Below.alloc (held_last (by assumption)) (Below.size (held_last (by assumption))) _) | exact KS.out _ (Below.setCell (Below.setCell (by assumption) (by first | (simp; done) | (simp; omega)) _) (by first | (simp; done) | (simp; omega)) _))
          (first
            | (go_at_call 18; refine (copy_any G aa ca zs _ (by omega) hnila hzc (XA8.out.later (held_last (by assumption))).row).mono ?_; rintro e w2 ⟨a9, c9, rfl, hc9, hm9, hn9, hr9, hb9⟩; have hB : Below X.heap.size X w2 := Below.trans (held_last (by assumption)) (Below.mono hb9 (Below.size (held_last (by assumption)))); have hs1 := hB.size)
            | (go_at_call 28; refine (imMul_any G G7 a9 a7 c9 c7 zs Z7 _ (by omega) (by omega) ?_ (XO8.out.later (held_last (by assumption))).row hu hu7).mono ?_; (first | exact hr9.row | exact hr9.row.later (bel0 _ _)); rintro e W8 ⟨G8, Z8, K8, a8, c8, rfl, hres8, hr8, hb8⟩; have hB4 : Below X.heap.size X W8 := Below.trans (held_last (by assumption)) (Below.mono hb8 (Below.size (held_last (by assumption)))); (rw [hval, hval7, ← hx, BO.out.sg] at hres8); obtain ⟨hK8, hB8, hl8⟩ := hres8.ok HFX.out; obtain ⟨eG, eZ⟩ := hB8.inj BU.out; subst eG eZ hK8; (first | (have hhc := ((Has.new X 26).later (Below.refl _ _).drew).later hb9; have hh := hhc.later hb8) | (have hhc := Has.new w2 26; have hh := hhc.later hb8) | have hh : True := trivial); (try have r1 := hh.r1); (try have r2 := hh.r2); (try have r3 := hh.r3)))
        all_goals
          go_wp2_with fail
          go_meet
          case rel =>
            refine ⟨_, a8, c8, rfl, rfl, ?_, ?_⟩
            · first
                | exact BigIn.start _ hr8.row
                | exact BigIn.set hr8 hhc.lt hh
            · first
                | exact hB4.alloc hB4.size _
                | exact (hB4.setCell (by first | exact Nat.le_refl _ | exact hs1) _).setCell (by first | exact Nat.le_refl _ | exact hs1) _
      case rest =>
        obtain ⟨T8, a8, c8, rfl, rfl, XP, HBX⟩ := hcut
        have XA9 : Hid (BigIn W1.heap.size G aa ca zs wc) := XA8.out.later HBX.out
        have XU9 : Hid (BigIn W6.heap.size G6 a6 c6 Z6 wc) := XU8.out.later HBX.out
        have XO9 : Hid (BigIn W7.heap.size G7 a7 c7 Z7 wc) := XO8.out.later HBX.out
        have HB9 : Hid (Below w.heap.size w wc) := HB8.out.trans (HBX.out.mono HB8.out.size)
        have hu6 : U32 Z6 := BU.out.u32
        have hval6 : validB G6 Z6 = true := BU.out.valid hl6
        clear KS XA8 XU8 XO8 HB8 HBX
        have s0 := XU9.out.q0
        have s1 := XU9.out.q1
        go_wp2_with fail
        refine (imShiftJ_any G6 a6 c6 Z6 (-n) _ (by omega) hc6 hm6 XU9.out.row hu6).mono ?_
        rintro e WA ⟨GA, ZA, KA, aA, cA, rfl, hresA, hcA, hmA, hrA, hbA⟩
        rw [hval6, BU.out.sg, shN_back hn0 (by omega), Int.mul_ediv_cancel _ (by omega)] at hresA
        obtain ⟨hKA, hBA, hlA⟩ := hresA.ok (BX.out.fits hz5)
        obtain ⟨eG, eZ⟩ := hBA.inj BX.out
        subst eG eZ hKA
        have XAA : Hid (BigIn W1.heap.size GA aa ca ZA WA) := XA9.out.later hbA
        have XUA : Hid (BigIn W6.heap.size G6 a6 c6 Z6 WA) := XU9.out.later hbA
        have XOA : Hid (BigIn W7.heap.size G7 a7 c7 Z7 WA) := XO9.out.later hbA
        have XPA : Hid (BigIn T8 G6 a8 c8 Z6 WA) := XP.out.later hbA
        have HBA : Hid (Below w.heap.size w WA) := HB9.out.trans (hbA.mono HB9.out.size)
        have RA : Hid (RowAt .u32 WA aA ZA) := hrA.row
        clear s0 s1 XA9 XU9 XO9 XP HB9 hresA hbA hrA hBA
        have s0 := XUA.out.q0
        have s1 := XUA.out.q1
        have s2 := XPA.out.q0
        have s3 := XPA.out.q1
        have z1 : W6.heap.size < WA.heap.size := XUA.out.lt
        have z2 : T8 < WA.heap.size := XPA.out.lt
        go_wp2_with fail
        refine (same_any G6 a6 a8 c6 c8 Z6 _ (by unfold maxLen; omega) (XUA.out.row.later (bel0 _ _)) (XPA.out.row.later (bel0 _ _))).mono ?_
        rintro e WB ⟨rfl, hbB⟩
        have XAB : Hid (BigIn W1.heap.size GA aa ca ZA WB) := (XAA.out.later (bel0 _ _)).later hbB
        have XOB : Hid (BigIn W7.heap.size G7 a7 c7 Z7 WB) := (XOA.out.later (bel0 _ _)).later hbB
        have XKB : Hid (BigIn WA.heap.size GA aA cA ZA WB) := (BigIn.start _ RA.out).later hbB
        have HBB : Hid (Below w.heap.size w WB) := (HBA.out.alloc HBA.out.size _).trans (hbB.mono (by have := HBA.out.size; simp; omega))
        clear s0 s1 s2 s3 z1 z2 hbB XAA XUA XOA XPA HBA RA
        have s0 := XKB.out.q0
        have s1 := XKB.out.q1
        have s2 := XAB.out.q0
        have s3 := XAB.out.q1
        go_wp2_with fail
        refine (same_any GA aA aa cA ca ZA _ (by unfold maxLen; omega) XKB.out.row XAB.out.row).mono ?_
        rintro e WC ⟨rfl, hbC⟩
        have XAC : Hid (BigIn W1.heap.size GA aa ca ZA WC) := XAB.out.later hbC
        have XOC : Hid (BigIn W7.heap.size G7 a7 c7 Z7 WC) := XOB.out.later hbC
        have HBC : Hid (Below w.heap.size w WC) := HBB.out.trans (hbC.mono HBB.out.size)
        clear s0 s1 s2 s3 hbC XAB XOB XKB HBB
        have s2 := XAC.out.q0
        have s3 := XAC.out.q1
        go_wp2_with fail
        refine (copy_any GA aa ca ZA _ (by omega) hnila hzc XAC.out.row).mono ?_
        rintro e WD ⟨aD, cD, rfl, hcD, hmD, _, hrD, hbD⟩
        have XAD : Hid (BigIn W1.heap.size GA aa ca ZA WD) := XAC.out.later hbD
        have XOD : Hid (BigIn W7.heap.size G7 a7 c7 Z7 WD) := XOC.out.later hbD
        have HBD : Hid (Below w.heap.size w WD) := HBC.out.trans (hbD.mono HBC.out.size)
        clear s2 s3 hbD XAC XOC HBC
        go_wp2_with fail
        refine (imShiftJ_any GA aD cD ZA (-n) _ (by omega) hcD hmD hrD.row hu).mono ?_
        rintro e WE ⟨GE, ZE, KE, aE, cE, rfl, hresE, hcE, hmE, hrE, hbE⟩
        rw [hval, ← hx, shN_back hn0 (by omega)] at hresE
        obtain ⟨hKE, hBE, hlE⟩ := hresE.ok (div_fits hp0 (BX.out.fits hz5))
        subst hKE
        have huE : U32 ZE := hBE.u32
        have hvalE : validB GE ZE = true := hBE.valid hlE
        have BE : Hid (B1 GE ZE (x / 2 ^ n.toNat)) := hBE
        have XAE : Hid (BigIn W1.heap.size GA aa ca ZA WE) := XAD.out.later hbE
        have XOE : Hid (BigIn W7.heap.size G7 a7 c7 Z7 WE) := XOD.out.later hbE
        have HBE : Hid (Below w.heap.size w WE) := HBD.out.trans (hbE.mono HBD.out.size)
        have RE : Hid (RowAt .u32 WE aE ZE) := hrE.row
        clear hrD hresE hBE hrE hbE XAD XOD HBD
        go_wp2_with fail
        refine (imShiftJ_any GE aE cE ZE n _ (by omega) hcE hmE (RE.out.later (bel0 _ _)) huE).mono ?_
        rintro e WF ⟨GF, ZF, KF, aF, cF, rfl, hresF, hcF, hmF, hrF, hbF⟩
        rw [hvalE, BE.out.sg, shN_up hn0 (by omega)] at hresF
        obtain ⟨hKF, hBF, hlF⟩ := hresF.ok (low_fits hp0 (BX.out.fits hz5) HFX.out)
        subst hKF
        have huF : U32 ZF := hBF.u32
        have hvalF : validB GF ZF = true := hBF.valid hlF
        have BF : Hid (B1 GF ZF (x / 2 ^ n.toNat * 2 ^ n.toNat)) := hBF
        have bEF : Below WE.heap.size WE WF := (bel0 _ _).trans (hbF.mono (by simp))
        have XAF : Hid (BigIn W1.heap.size GA aa ca ZA (WF.alloc (.cells #[.bool GF, .slice aF ZF.length cF] 26))) := (XAE.out.later bEF).later (bel0 _ _)
        have XOF : Hid (BigIn W7.heap.size G7 a7 c7 Z7 (WF.alloc (.cells #[.bool GF, .slice aF ZF.length cF] 26))) := (XOE.out.later bEF).later (bel0 _ _)
        have XLF : Hid (BigIn WF.heap.size GF aF cF ZF (WF.alloc (.cells #[.bool GF, .slice aF ZF.length cF] 26))) := BigIn.start _ hrF.row
        have HBF0 : Hid (Below w.heap.size w WF) := HBE.out.trans (bEF.mono HBE.out.size)
        have HBF : Hid (Below w.heap.size w (WF.alloc (.cells #[.bool GF, .slice aF ZF.length cF] 26))) := HBF0.out.alloc HBF0.out.size _
        clear hresF hBF hrF hbF bEF XAE XOE HBE HBF0 RE BE
        go_wp2
        obtain ⟨Y, hY⟩ : ∃ Y, Y = WF.alloc (.cells #[.bool GF, .slice aF ZF.length cF] 26) := ⟨_, rfl⟩
        rw [← hY] at XAF XOF XLF HBF ⊢
        clear hY
        obtain ⟨rq1, rq2, rq3⟩ := rest_of (x := x) hp0
        have HRQ : Hid (x - x / 2 ^ n.toNat * 2 ^ n.toNat = x % 2 ^ n.toNat) := rq1
        have HFR : Hid (Fits (x % 2 ^ n.toNat)) := by
          have h2 := HF2.out
          unfold Hid
          unfold Fits at h2 ⊢
          omega
        have KS : Hid (∀ w', Below Y.heap.size Y w' → w'.cell? ⟨W1.heap.size, 0, none⟩ = some (.bool GA) ∧ w'.cell? ⟨W1.heap.size, 1, none⟩ = some (.slice aa ZA.length ca) ∧ w'.cell? ⟨WF.heap.size, 0, none⟩ = some (.bool GF) ∧ w'.cell? ⟨WF.heap.size, 1, none⟩ = some (.slice aF ZF.length cF) ∧ Below Y.heap.size Y w') := by
          intro w' hw
          exact ⟨(XAF.out.later hw).q0, (XAF.out.later hw).q1, (XLF.out.later hw).q0, (XLF.out.later hw).q1, hw⟩
        go_cut [22, 23] from 24 to 156 (fun s22 s23 wx => ∃ (TR : Nat) (GR : Bool) (ZR : List Int) (aR : Option Addr) (cR : Nat), s22 = .pointer (some ⟨TR, 0, none⟩) ∧ s23 = .int .i64 0 ∧ Hid (BigIn TR GR aR cR ZR wx) ∧ Hid (B1 GR ZR (x % 2 ^ n.toNat)) ∧ ZR.length ≤ 512 ∧ Hid (Below Y.heap.size Y wx))
        case first =>
          go_region_held3 (fun w' => w'.cell? ⟨W1.heap.size, 0, none⟩ = some (.bool GA) ∧ w'.cell? ⟨W1.heap.size, 1, none⟩ = some (.slice aa ZA.length ca) ∧ w'.cell? ⟨WF.heap.size, 0, none⟩ = some (.bool GF) ∧ w'.cell? ⟨WF.heap.size, 1, none⟩ = some (.slice aF ZF.length cF) ∧ Below Y.heap.size Y w')
            (first | exact KS.out _ (Below.refl _ _).drew | exact KS.out _ (by assumption) | exact KS.out _ (Below.alloc (by assumption) (Below.size (by assumption)) _) | exact KS.out _ (Below.alloc (held_last (by assumption)) (Below.size (held_last (by assumption))) _) | exact KS.out _ (Below.setCell (Below.setCell (by assumption) (by first | (simp; done) | (simp; omega)) _) (by first | (simp; done) | (simp; omega)) _))
            (first
              | (go_at_call 18; refine (copy_any GA aa ca ZA _ (by omega) hnila hzc (XAF.out.later (held_last (by assumption))).row).mono ?_; rintro e w2 ⟨a9, c9, rfl, hc9, hm9, hn9, hr9, hb9⟩; have hB : Below Y.heap.size Y w2 := Below.trans (held_last (by assumption)) (Below.mono hb9 (Below.size (held_last (by assumption)))); have hs1 := hB.size)
              | (go_at_call 11; refine (imSub_any GA GF a9 aF c9 cF ZA ZF _ (by omega) (by omega) ?_ (XLF.out.later (held_last (by assumption))).row hu huF).mono ?_; (first | exact hr9.row | exact hr9.row.later (bel0 _ _)); rintro e WG ⟨GR, ZR, KR, aR, cR, rfl, hresR, hrR, hbR⟩; have hB4 : Below Y.heap.size Y WG := Below.trans (held_last (by assumption)) (Below.mono hbR (Below.size (held_last (by assumption)))); (rw [hval, hvalF, ← hx, BF.out.sg, HRQ.out] at hresR); obtain ⟨hKR, hBR, hlR⟩ := hresR.ok HFR.out; subst hKR; (first | (have hhc := ((Has.new Y 26).later (Below.refl _ _).drew).later hb9; have hh := hhc.later hbR) | (have hhc := Has.new w2 26; have hh := hhc.later hbR) | have hh : True := trivial); (try have r1 := hh.r1); (try have r2 := hh.r2); (try have r3 := hh.r3)))
          all_goals
            go_wp2_with fail
            go_meet
            case rel =>
              refine ⟨_, GR, ZR, aR, cR, rfl, rfl, ?_, hBR, hlR, ?_⟩
              · first
                  | exact BigIn.start _ hrR.row
                  | exact BigIn.set hrR hhc.lt hh
              · first
                  | exact hB4.alloc hB4.size _
                  | exact (hB4.setCell (by first | exact Nat.le_refl _ | exact hs1) _).setCell (by first | exact Nat.le_refl _ | exact hs1) _
        case rest =>
          obtain ⟨TR, GR, ZR, aR, cR, rfl, rfl, XR, BR, hlR, HBX⟩ := hcut
          have XO2 : Hid (BigIn W7.heap.size G7 a7 c7 Z7 wc) := XOF.out.later HBX.out
          have HB2 : Hid (Below w.heap.size w wc) := HBF.out.trans (HBX.out.mono HBF.out.size)
          have hgR : GR = false := BR.out.pos rq2
          subst hgR
          have huR : U32 ZR := BR.out.u32
          have hvalR : validB false ZR = true := BR.out.valid hlR
          have HCR : Hid (cmpR false G7 ZR Z7 = -1) := by
            unfold Hid cmpR
            rw [if_pos ⟨hvalR, hval7⟩, BR.out.sg, BO.out.sg, sgn_of_neg (by omega)]
          have HCK : Hid (cmpK false G7 ZR Z7 = 0) := by
            unfold Hid cmpK
            rw [if_pos ⟨hvalR, hval7⟩]
          clear KS XAF XOF XLF HBF HBX
          have s0 := XR.out.q0
          have s1 := XR.out.q1
          have s2 := XO2.out.q0
          have s3 := XO2.out.q1
          go_wp2_with fail
          refine (cmpBI_any false G7 aR a7 cR c7 ZR Z7 _ (by omega) (by omega) XR.out.row XO2.out.row huR hu7).mono ?_
          rintro e WH ⟨rfl, hbH⟩
          rw [HCR.out, HCK.out]
          have XR2 : Hid (BigIn TR false aR cR ZR WH) := XR.out.later hbH
          have HB3 : Hid (Below w.heap.size w WH) := HB2.out.trans (hbH.mono HB2.out.size)
          clear s0 s1 s2 s3 hbH XR XO2 HB2
          have s0 := XR2.out.q0
          go_wp2
          go_ret
          exact ⟨rfl, HB3.out⟩
    · have hK' : (K4 != 0) = true := by rw [bne_iff_ne]; exact hK
      go_wp2
      go_ret
      exact ⟨rfl, HB4.out.alloc HB4.out.size _⟩

theorem lawFS_any (a a' : Option Addr) (c c' : Nat) (bs cs : List Int) (w : World) (hcb : bs.length ≤ c) (hcm : c ≤ maxLen) (hnil : Nil0 a c) (hr : RowAt .u8 w a bs) (hb : Dig 256 bs) (hcb' : cs.length ≤ c') (hcm' : c' ≤ maxLen) (hr' : RowAt .u8 w a' cs) (hb' : Dig 256 cs) :
    Calls Try.prog 6 #[.slice a bs.length c, .slice a' cs.length c'] w fun e w' => e = .returned (.bool true) ∧ Below w.heap.size w w' := by
  by_cases h : (1048576 : Int) < bs.length ∨ (1048576 : Int) < cs.length
  · exact lawFS_far a a' c c' bs cs w (by omega) (by omega) h
  · exact lawFS_near a a' c c' bs cs w hcb hcm hnil hr hb hr' hb' (by omega) (by omega)

end Go.Proofs.Ytlbegmepmeimkab
