/-
  The law of texts, walked.
-/
import Derived.Test.YtlbegmepmeimkabTextL
import Derived.Test.YtlbegmepmeimkabDrawPcNumS
import Derived.Test.YtlbegmepmeimkabNumWNumYLawS0
import Derived.Test.YtlbegmepmeimkabNumTxImplXImplC0
import Derived.Test.YtlbegmepmeimkabNumTxImplXImplC0
import Derived.Test.YtlbegmepmeimkabImplRSpecS
import Derived.Test.YtlbegmepmeimkabSpecPbSpecPc
import Derived.Deep.CutRange
namespace Go.Proofs.Ytlbegmepmeimkab
open Go.RowKit

theorem text_neg {n : Int} (h : n ≠ 0) : textL true n = [45] ++ textL false n := by
  unfold textL
  rw [if_neg h, if_neg h]
  simp

theorem text_ne (g : Bool) {n : Int} (h : 0 ≤ n) : textL g n ≠ [] := by
  unfold textL
  split
  · simp
  · rename_i h0
    rw [decs_step (by omega)]
    simp

theorem valid_not {g : Bool} {zs : List Int} (h : validB g zs = true) (hne : zs ≠ []) : validB (!g) zs = true := by
  have h0 : ¬ zs.length = 0 := fun e => hne (List.length_eq_zero_iff.1 e)
  unfold validB at h ⊢
  rw [if_neg h0] at h ⊢
  exact h

theorem own_minus (W : World) : (W.alloc (.cells #[.int .u8 45] 5)).ownsRow W.heap.size 5 1 (.slice (some ⟨W.heap.size, 0, none⟩) 1 1) ([45] : List Int).length (vals .u8 [45]) :=
  ⟨by simp [vals], .inr ⟨W.heap.size, 1, #[.int .u8 45], rfl, Nat.le_refl _, by (first | exact heap_alloc_new _ _ | exact Go.heap_alloc_new _ _), by simp, by unfold maxLen; omega, by simp, by simp [vals]⟩⟩

theorem ResP.bad {ts : List Int} {G : Bool} {Z : List Int} {K : Int} (h : ResP ts G Z K) (hK : K ≠ 0) : Z = [] := by
  rcases h with ⟨_, _, h2, _⟩ | ⟨_, _, _, h2, _⟩ | ⟨_, _, hr⟩
  · exact h2
  · exact h2
  · rcases hr with ⟨h0, _⟩ | ⟨_, g, Z0, _, ⟨_, _, _, h4⟩ | ⟨_, _, h3, _⟩⟩
    · cases h0
    · exact absurd h4 hK
    · exact h3

set_option maxHeartbeats 1000000 in
theorem lawTx_far (a : Option Addr) (c : Nat) (bs : List Int) (w : World) (hl : (1048576 : Int) < bs.length) :
    Calls Try.prog 4 #[.slice a bs.length c] w fun e w' => e = .returned (.bool true) ∧ Below w.heap.size w w' := by
  go_enter Try.func4, Try.ntmps4
  go_wp2
  go_ret
  exact ⟨rfl, Below.refl _ _⟩

set_option maxRecDepth 100000 in
set_option maxHeartbeats 16000000 in
theorem lawTx_near (a : Option Addr) (c : Nat) (bs : List Int) (w : World) (hcb : bs.length ≤ c) (hcm : c ≤ maxLen) (hnil : Nil0 a c) (hr : RowAt .u8 w a bs) (hb : Dig 256 bs) (hl : ¬ (1048576 : Int) < bs.length) :
    Calls Try.prog 4 #[.slice a bs.length c] w fun e w' => e = .returned (.bool true) ∧ Below w.heap.size w w' := by
  have hbn : bs.length ≤ 1048576 := by omega
  go_enter Try.func4, Try.ntmps4
  go_wp2_with fail
  refine (drawT_any a c bs w hbn hcb hcm hnil hr hb).mono ?_
  rintro e W1 ⟨G, aa, ca, zs, rfl, hzl, hu, hown, hb1, _⟩
  obtain ⟨a2, c2, e2, hcm2, hsl, hrn⟩ := own_row hown
  injection e2 with e3 e4 e5
  subst e3 e5
  have hzc : zs.length ≤ ca := hsl.fits
  have hnila : Nil0 aa ca := hsl.nil
  have XA : Hid (BigIn W1.heap.size G aa ca zs (W1.alloc (.cells #[.bool G, .slice aa zs.length ca] 26))) := BigIn.start _ hrn.row
  have HB1 : Hid (Below w.heap.size w (W1.alloc (.cells #[.bool G, .slice aa zs.length ca] 26))) := hb1.alloc hb1.size _
  clear hown hb1 hsl hrn
  go_wp2_with fail
  refine (validS_any G aa ca zs _ (by unfold maxLen; omega) XA.out.row).mono ?_
  rintro e W3 ⟨rfl, hb3⟩
  have XA3 : Hid (BigIn W1.heap.size G aa ca zs W3) := XA.out.later hb3
  have HB3 : Hid (Below w.heap.size w W3) := HB1.out.trans (hb3.mono HB1.out.size)
  clear hb3 XA HB1
  go_upto_if 25 with fail
  go_cut [4, 5, 6, 7, 8, 9, 10, 11] from 25 (fun _ _ _ _ _ _ _ _ wx => Hid (Below w.heap.size w wx))
  case first =>
    cases hval : validB G zs
    · go_wp2
      go_meet
      case rel => exact HB3
    · obtain ⟨hcan, hz5, hzn⟩ := valid_canon hu hval
      have s0 := XA3.out.q0
      have s1 := XA3.out.q1
      obtain ⟨T, hT⟩ : ∃ T, T = textL G (val 4294967296 zs) := ⟨_, rfl⟩
      have HT : Hid (T = textL G (val 4294967296 zs)) := hT
      have HV : Hid (validB G zs = true) := hval
      have hud : Dig 4294967296 zs := fun z hz => hu z hz
      have hTl : T.length ≤ 5001 := by
        have := txtF_len (g := G) hu
        unfold txtF at this
        rw [if_pos hval, ← hT] at this
        exact this
      have hTn : T ≠ [] := by
        rw [hT]
        unfold textL
        split
        · simp
        · rename_i h0
          have hp : 0 < val 4294967296 zs := by have := val_nonneg (B := 4294967296) (by decide) hcan.1; omega
          rw [decs_step hp]
          simp
      clear hT
      go_wp2_with fail
      refine (copy_any G aa ca zs _ (by omega) hnila hzc XA3.out.row).mono ?_
      rintro e W4 ⟨a4, c4, rfl, hc4, hm4, hn4, hr4, hb4⟩
      have XA4 : Hid (BigIn W1.heap.size G aa ca zs W4) := XA3.out.later hb4
      have HB4 : Hid (Below w.heap.size w W4) := HB3.out.trans (hb4.mono HB3.out.size)
      have HR4 : Hid (RowAt .u32 W4 a4 zs) := hr4.row
      clear hb4 hr4 XA3 HB3 s0 s1
      go_wp2_with fail
      refine (textI_any G a4 c4 zs _ (by unfold maxLen; omega) HR4.out hud).mono ?_
      rintro e W5 ⟨T5, K5, aT, cT, rfl, hres5, hr5, hb5⟩
      have hres5' := hres5
      rcases hres5 with ⟨hx, _, _⟩ | ⟨_, hT5, hK5⟩
      · rw [hval] at hx; cases hx
      rw [← HT.out] at hT5
      subst hT5 hK5
      have XA5 : Hid (BigIn W1.heap.size G aa ca zs W5) := XA4.out.later hb5
      have HB5 : Hid (Below w.heap.size w W5) := HB4.out.trans (hb5.mono HB4.out.size)
      obtain ⟨bT, oT, rfl, hbT⟩ : ∃ bT oT, aT = some ⟨bT, oT, none⟩ ∧ bT < W5.heap.size := by
        obtain ⟨b, o, h1, _, h2, _⟩ := hr5.resolve_left hTn
        exact ⟨b, o, h1, h2⟩
      have HR5 : Hid (RowAt .u8 W5 (some ⟨bT, oT, none⟩) T5) := hr5.row
      clear hb5 hr5 XA4 HB4 HR4 hres5'
      go_wp2_with (at_builtin; refine appRow rfl (.tmp 33) (.tmp 34) 33 rfl 5 Try.underlying33 infoY W5.heap.size (.slice (some ⟨W5.heap.size, 0, none⟩) 0 0) [] ⟨bT, oT, none⟩ T5.length cT T5 rfl (World.ownsRow_made W5 #[] 0 (Nat.le_refl _) (Nat.zero_le _) (by simp)) rfl rfl (by omega) (by simp) hTn (HR5.out.later (bel0 _ _)) (by simp) ?_; intro a6 c6 W6 hown6 hb6)
      rw [List.nil_append] at hown6
      obtain ⟨a6', c6', he6, hcm6, hsl6, hr6⟩ := own_row hown6
      injection he6 with he61 _ he63
      subst he61 he63
      have hcf6 : T5.length ≤ c6 := hsl6.fits
      have b56 : Below W5.heap.size W5 W6 := (bel0 _ _).trans hb6
      have XA6 : Hid (BigIn W1.heap.size G aa ca zs W6) := XA5.out.later b56
      have HB6 : Hid (Below w.heap.size w W6) := HB5.out.trans (b56.mono HB5.out.size)
      have HR6 : Hid (RowAt .u8 W6 (some ⟨bT, oT, none⟩) T5) := HR5.out.later b56
      have HS6 : Hid (RowAt .u8 W6 a6 T5) := hr6.row
      clear hown6 hb6 hsl6 hr6 b56 XA5 HB5 HR5
      refine (parseI_any a6 c6 T5 _ (by omega) hcm6 hcf6 HS6.out).mono ?_
      rintro e W7 ⟨G7, Z7, K7, a7, c7, rfl, hres7, hr7, hb7⟩
      rw [HT.out] at hres7
      obtain ⟨e7a, e7b, e7c⟩ := parse_text hu hval hres7
      subst e7a e7b e7c
      have XA7 : Hid (BigIn W1.heap.size G7 aa ca Z7 W7) := XA6.out.later hb7
      have HB7 : Hid (Below w.heap.size w W7) := HB6.out.trans (hb7.mono HB6.out.size)
      have HR7 : Hid (RowAt .u8 W7 (some ⟨bT, oT, none⟩) T5) := HR6.out.later hb7
      have HS7 : Hid (RowAt .u32 W7 a7 Z7) := hr7.row
      have X7 : Hid (BigIn W7.heap.size G7 a7 c7 Z7 (W7.alloc (.cells #[.bool G7, .slice a7 Z7.length c7] 26))) := BigIn.start _ HS7.out
      have XA8 : Hid (BigIn W1.heap.size G7 aa ca Z7 (W7.alloc (.cells #[.bool G7, .slice a7 Z7.length c7] 26))) := XA7.out.later (bel0 _ _)
      have HB8 : Hid (Below w.heap.size w (W7.alloc (.cells #[.bool G7, .slice a7 Z7.length c7] 26))) := HB7.out.alloc HB7.out.size _
      have HR8 : Hid (RowAt .u8 (W7.alloc (.cells #[.bool G7, .slice a7 Z7.length c7] 26)) (some ⟨bT, oT, none⟩) T5) := HR7.out.later (bel0 _ _)
      have z7 : W1.heap.size < W7.heap.size := XA7.out.lt
      have s0 := XA7.out.q0
      have s1 := XA7.out.q1
      clear hres7 hr7 hb7 XA6 HB6 HR6 HS6 XA7 HB7 HR7 HS7
      go_wp2_with fail
      refine (same_any G7 a7 aa c7 ca Z7 _ (by unfold maxLen; omega) X7.out.row XA8.out.row).mono ?_
      rintro e W9 ⟨rfl, hb9⟩
      have XA9 : Hid (BigIn W1.heap.size G7 aa ca Z7 W9) := XA8.out.later hb9
      have HB9 : Hid (Below w.heap.size w W9) := HB8.out.trans (hb9.mono HB8.out.size)
      have HR9 : Hid (RowAt .u8 W9 (some ⟨bT, oT, none⟩) T5) := HR8.out.later hb9
      clear hb9 s0 s1 z7 X7 XA8 HB8 HR8
      have s0 := XA9.out.q0
      have s1 := XA9.out.q1
      by_cases hz0 : Z7 = []
      · subst hz0
        go_wp2
        go_meet
        case rel => exact HB9
      · have hzl0 : (0 : Int) < (Z7.length : Int) := by have := List.length_pos_iff.2 hz0; omega
        have hpos := val_pos (B := 4294967296) (by decide) hcan hz0
        have HVN : Hid (validB (!G7) Z7 = true) := valid_not HV.out hz0
        go_wp2_with fail
        refine (copy_any G7 aa ca Z7 _ (by omega) hnila hzc XA9.out.row).mono ?_
        rintro e WA ⟨aA, cA, rfl, hcA, hmA, hnA, hrA, hbA⟩
        have XAA : Hid (BigIn W1.heap.size G7 aa ca Z7 WA) := XA9.out.later hbA
        have HBA : Hid (Below w.heap.size w WA) := HB9.out.trans (hbA.mono HB9.out.size)
        have HRA : Hid (RowAt .u8 WA (some ⟨bT, oT, none⟩) T5) := HR9.out.later hbA
        have HSA : Hid (RowAt .u32 WA aA Z7) := hrA.row
        have zA : W1.heap.size < WA.heap.size := XAA.out.lt
        clear hbA hrA s0 s1 XA9 HB9 HR9
        go_wp2_with fail
        refine (textI_any (!G7) aA cA Z7 _ (by unfold maxLen; omega) (HSA.out.later (bel0 _ _)) hud).mono ?_
        rintro e WC ⟨TC, KC, aC, cC, rfl, hresC, hrC, hbC⟩
        rcases hresC with ⟨hx, _, _⟩ | ⟨_, hTC, hKC⟩
        · rw [HVN.out] at hx; cases hx
        subst hKC
        have bAC : Below WA.heap.size WA WC := (bel0 _ _).trans (hbC.mono (by simp))
        have XAC : Hid (BigIn W1.heap.size G7 aa ca Z7 WC) := XAA.out.later bAC
        have HBC : Hid (Below w.heap.size w WC) := HBA.out.trans (bAC.mono HBA.out.size)
        have HRC : Hid (RowAt .u8 WC (some ⟨bT, oT, none⟩) T5) := HRA.out.later bAC
        have HOC : Hid (RowAt .u8 WC aC TC) := hrC.row
        have hTCl : TC.length ≤ 5001 := by
          have := txtF_len (g := !G7) hu
          unfold txtF at this
          rw [if_pos HVN.out, ← hTC] at this
          exact this
        have HTC : Hid (TC = textL (!G7) (val 4294967296 Z7)) := hTC
        clear hrC hbC bAC hTC XAA HBA HRA HSA zA
        have s0 := XAC.out.q0
        have s1 := XAC.out.q1
        have zC : W1.heap.size < WC.heap.size := XAC.out.lt
        have hTCn : TC ≠ [] := by rw [HTC.out]; exact text_ne _ (Int.le_of_lt hpos)
        obtain ⟨bC, oC, rfl⟩ : ∃ bC oC, aC = some ⟨bC, oC, none⟩ := by
          obtain ⟨b, o, h1, _⟩ := HOC.out.resolve_left hTCn
          exact ⟨b, o, h1⟩
        have hn0 : val 4294967296 Z7 ≠ 0 := by omega
        cases G7
        · have HEQ : Hid (TC = [45] ++ T5) := by unfold Hid; rw [HTC.out, HT.out]; exact text_neg hn0
          clear hn0
          go_wp2_with (at_builtin; refine appRow rfl (.tmp 66) (.tmp 67) 33 rfl 5 Try.underlying33 infoY WC.heap.size (.slice (some ⟨WC.heap.size, 0, none⟩) 1 1) [45] ⟨bT, oT, none⟩ T5.length cT T5 rfl (own_minus WC) rfl rfl (by omega) (by simp) hTn (HRC.out.later (bel0 _ _)) (by simp) ?_; intro aW cW WD hownW hbW; have bCD : Below WC.heap.size WC WD := (bel0 _ _).trans hbW; have t0 := (bCD.cell (p := ⟨W1.heap.size, 0, none⟩) zC).trans s0)
          obtain ⟨aW', cW', heW, -, -, hrW⟩ := own_row hownW
          injection heW with heW1 _ heW3
          subst heW1 heW3
          have HBD : Hid (Below w.heap.size w WD) := HBC.out.trans (bCD.mono HBC.out.size)
          refine (sameY_any _ _ _ _ TC ([45] ++ T5) _ (by unfold maxLen; omega) (by unfold maxLen; simp; omega) (HOC.out.later bCD) hrW.row).mono ?_
          rintro e WF ⟨rfl, hbF⟩
          rw [decide_eq_true HEQ.out]
          have HBF : Hid (Below w.heap.size w WF) := HBD.out.trans (hbF.mono HBD.out.size)
          clear hbF hownW hrW bCD hbW
          go_wp2
          go_meet
          case rel => exact HBF
        · have HEQ : Hid (T5 = [45] ++ TC) := by unfold Hid; rw [HTC.out, HT.out]; exact text_neg hn0
          clear hn0
          go_wp2_with (first | (at_builtin; refine appRow rfl (.tmp 66) (.tmp 67) 33 rfl 5 Try.underlying33 infoY WC.heap.size (.slice (some ⟨WC.heap.size, 0, none⟩) 1 1) [45] ⟨bT, oT, none⟩ T5.length cT T5 rfl (own_minus WC) rfl rfl (by omega) (by simp) hTn (HRC.out.later (bel0 _ _)) (by simp) ?_; intro aW cW WD hownW hbW; have bCD : Below WC.heap.size WC WD := (bel0 _ _).trans hbW; have t0 := (bCD.cell (p := ⟨W1.heap.size, 0, none⟩) zC).trans s0) | (at_builtin; refine appRow rfl (.tmp 71) (.tmp 72) 33 rfl 5 Try.underlying33 infoY WD.heap.size (.slice (some ⟨WD.heap.size, 0, none⟩) 1 1) [45] ⟨bC, oC, none⟩ TC.length cC TC rfl (own_minus WD) rfl rfl (by omega) (by simp) hTCn ((HOC.out.later bCD).later (bel0 _ _)) (by simp) ?_; intro aV cV WE hownV hbV; have bDE : Below WD.heap.size WD WE := (bel0 _ _).trans hbV))
          obtain ⟨aV', cV', heV, -, -, hrV⟩ := own_row hownV
          injection heV with heV1 _ heV3
          subst heV1 heV3
          have b1 : Below WC.heap.size WC WE := bCD.trans (bDE.mono bCD.size)
          have HBE : Hid (Below w.heap.size w WE) := HBC.out.trans (b1.mono HBC.out.size)
          refine (sameY_any _ _ _ _ T5 ([45] ++ TC) _ (by unfold maxLen; omega) (by unfold maxLen; simp; omega) (HRC.out.later b1) hrV.row).mono ?_
          rintro e WF ⟨rfl, hbF⟩
          rw [decide_eq_true HEQ.out]
          have HBF : Hid (Below w.heap.size w WF) := HBE.out.trans (hbF.mono HBE.out.size)
          clear hbF hownW hrV bCD hbW hownV hbV bDE b1
          go_wp2
          go_meet
          case rel => exact HBF
  case rest =>
    have HW : Hid (Below w.heap.size w wc) := hcut
    clear hcut XA3 HB3
    obtain ⟨ts, hts⟩ : ∃ ts, ts = drawPF (bs.take 500) := ⟨_, rfl⟩
    go_wp2_with fail
    refine (drawP_any a c bs wc hbn hcb hcm hnil (hr.later HW.out) hb).mono ?_
    rintro e W2 ⟨a2, c2, rfl, ⟨hl2, hf2, hm2⟩, hr2, hb2⟩
    rw [← hts] at hl2 hf2 hr2 ⊢
    have HTS : Hid (ts = drawPF (bs.take 500)) := hts
    clear hts
    have HB2 : Hid (Below w.heap.size w W2) := HW.out.trans (hb2.mono HW.out.size)
    have HR2 : Hid (RowAt .u8 W2 a2 ts) := hr2
    clear hb2 hr2
    go_wp2_with fail
    refine (parseS_any a2 c2 ts _ (by omega) hm2 hf2 HR2.out).mono ?_
    rintro e V3 ⟨G3, Z3, K3, a3, c3, rfl, hres3, -, -, hb3⟩
    have HRes : Hid (ResP ts G3 Z3 K3) := hres3
    have HB3' : Hid (Below w.heap.size w (V3.alloc (.cells #[.bool G3, .slice a3 Z3.length c3] 26))) := (HB2.out.trans (hb3.mono HB2.out.size)).alloc (by have := HB2.out.size; have := hb3.size; omega) _
    have HR3 : Hid (RowAt .u8 (V3.alloc (.cells #[.bool G3, .slice a3 Z3.length c3] 26)) a2 ts) := (HR2.out.later hb3).later (bel0 _ _)
    clear hb3 hres3 HB2 HR2
    go_wp2_with fail
    refine (drawP_any a c bs _ hbn hcb hcm hnil (hr.later HB3'.out) hb).mono ?_
    rintro e V4 ⟨a4, c4, rfl, ⟨hl4, hf4, hm4⟩, hr4, hb4⟩
    rw [← HTS.out] at hl4 hf4 hr4 ⊢
    have HB4 : Hid (Below w.heap.size w V4) := HB3'.out.trans (hb4.mono HB3'.out.size)
    have HR4 : Hid (RowAt .u8 V4 a2 ts) := HR3.out.later hb4
    have HS4 : Hid (RowAt .u8 V4 a4 ts) := hr4
    clear hb4 hr4 HB3' HR3
    go_wp2_with fail
    refine (parseI_any a4 c4 ts _ (by omega) hm4 hf4 HS4.out).mono ?_
    rintro e V5 ⟨G5, Z5, K5, a5, c5, rfl, hres5, hr5, hb5⟩
    obtain ⟨e5a, e5b, e5c⟩ := hres5.inj HRes.out
    subst e5a e5b e5c
    have HB5 : Hid (Below w.heap.size w (V5.alloc (.cells #[.bool G5, .slice a5 Z5.length c5] 26))) := (HB4.out.trans (hb5.mono HB4.out.size)).alloc (by have := HB4.out.size; have := hb5.size; omega) _
    have HR5 : Hid (RowAt .u8 (V5.alloc (.cells #[.bool G5, .slice a5 Z5.length c5] 26)) a2 ts) := (HR4.out.later hb5).later (bel0 _ _)
    have HS5 : Hid (RowAt .u32 (V5.alloc (.cells #[.bool G5, .slice a5 Z5.length c5] 26)) a5 Z5) := hr5.row.later (bel0 _ _)
    have hKK : (K5 != K5) = false := by simp
    have hZ5 : Z5.length ≤ 512 := hres5.len
    clear hb5 hr5 HB4 HR4 HS4 hres5
    by_cases hK : K5 = 0
    · subst hK
      obtain ⟨hv, huz, htx⟩ := text_parse HRes.out
      have HV : Hid (validB G5 Z5 = true) := hv
      have HTX : Hid (textL G5 (val 4294967296 Z5) = ts) := htx
      clear hv htx
      go_wp2_with fail
      refine (textI_any G5 a5 c5 Z5 _ (by unfold maxLen; omega) HS5.out (fun z hz => huz z hz)).mono ?_
      rintro e V6 ⟨T6, K6, a6, c6, rfl, hres6, hr6, hb6⟩
      rcases hres6 with ⟨hx, _, _⟩ | ⟨_, hT6, hK6⟩
      · rw [HV.out] at hx; cases hx
      rw [HTX.out] at hT6
      subst hT6 hK6
      have HB6 : Hid (Below w.heap.size w V6) := HB5.out.trans (hb6.mono HB5.out.size)
      have HR6 : Hid (RowAt .u8 V6 a2 T6) := HR5.out.later hb6
      have HS6 : Hid (RowAt .u8 V6 a6 T6) := hr6.row
      clear hb6 hr6 HB5 HR5 HS5
      go_wp2_with fail
      refine (sameY_any a6 a2 c6 c2 T6 T6 _ (by unfold maxLen; omega) (by unfold maxLen; omega) HS6.out HR6.out).mono ?_
      rintro e V7 ⟨rfl, hb7⟩
      rw [show decide (T6 = T6) = true from by simp]
      have HB7 : Hid (Below w.heap.size w V7) := HB6.out.trans (hb7.mono HB6.out.size)
      clear hb7 HB6 HR6 HS6
      go_wp2
      go_ret
      exact ⟨rfl, HB7.out⟩
    · have hZn := HRes.out.bad hK
      subst hZn
      have hK0 : (K5 != 0) = true := by rw [bne_iff_ne]; exact hK
      go_wp2
      go_ret
      exact ⟨rfl, HB5.out⟩

theorem lawTx_any (a : Option Addr) (c : Nat) (bs : List Int) (w : World) (hcb : bs.length ≤ c) (hcm : c ≤ maxLen) (hnil : Nil0 a c) (hr : RowAt .u8 w a bs) (hb : Dig 256 bs) :
    Calls Try.prog 4 #[.slice a bs.length c] w fun e w' => e = .returned (.bool true) ∧ Below w.heap.size w w' := by
  by_cases hl : (1048576 : Int) < bs.length
  · exact lawTx_far a c bs w hl
  · exact lawTx_near a c bs w hcb hcm hnil hr hb hl

end Go.Proofs.Ytlbegmepmeimkab
