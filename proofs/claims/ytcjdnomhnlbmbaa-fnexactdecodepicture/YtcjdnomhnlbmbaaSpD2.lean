/-
  The model's l6fault.
-/
import Derived.Test.YtcjdnomhnlbmbaaFromDpDraw0SpD1IdA
namespace Go.Proofs.Ytcjdnomhnlbmbaa
open Go.RowKit

theorem FaultOut.of {w w' : World} {x : Int × Int} {e : Ending} {p q : Int} (h : x = (p, q)) (he : e = .returned (.tuple #[.int .i64 p, .int .i64 q])) (hb : Below w.heap.size w w') : FaultOut w x e w' := by
  subst h
  exact ⟨he, hb⟩

theorem cnt_bad {bs : List Int} {k : Nat} (h : firstF (cntAt bs) k = none) (hk : k < 3) (hv : cntB bs k < 0) : firstF (cntAt bs) 3 = some (5, (bs.length : Int)) := firstF_hit hk h (by unfold cntAt; rw [if_pos hv])
theorem cnt_much {bs : List Int} {k : Nat} (h : firstF (cntAt bs) k = none) (hk : k < 3) (hv : ¬ cntB bs k < 0) (hm : cntMo k < cntB bs k) : firstF (cntAt bs) 3 = some (2, (cntPl k : Int)) := firstF_hit hk h (by unfold cntAt; rw [if_neg hv, if_pos hm])
theorem cnt_fine {bs : List Int} {k : Nat} (h : firstF (cntAt bs) k = none) (hv : ¬ cntB bs k < 0) (hm : ¬ cntMo k < cntB bs k) : firstF (cntAt bs) (k + 1) = none := firstF_succ h (by unfold cntAt; rw [if_neg hv, if_neg hm])
theorem magic_short {bs : List Int} {i : Nat} (h : firstF (magicAt bs) i = none) (hi : i < 4) (hl : bs.length ≤ i) : faultF bs = (5, (bs.length : Int)) := faultF_magic (firstF_hit hi h (by unfold magicAt; rw [if_pos hl]))
theorem magic_wrong {bs : List Int} {i : Nat} (h : firstF (magicAt bs) i = none) (hi : i < 4) (hl : ¬ bs.length ≤ i) (hx : bs.getD i 0 ≠ ([83, 67, 69, 78] : List Int).getD i 0) : faultF bs = (4, (i : Int)) := faultF_magic (firstF_hit hi h (by unfold magicAt; rw [if_neg hl, if_neg hx]))
theorem magic_right {bs : List Int} {i : Nat} (h : firstF (magicAt bs) i = none) (hl : ¬ bs.length ≤ i) (hx : bs.getD i 0 = ([83, 67, 69, 78] : List Int).getD i 0) : firstF (magicAt bs) (i + 1) = none := firstF_succ h (by unfold magicAt; rw [if_neg hl, if_pos hx])

/-- Where the k-th count stands. -/
def atK3 : Nat → Int
  | 0 => 4
  | 1 => 6
  | 2 => 8
  | _ => 9

/-- The list of counts that the model makes, and its two tables. -/
structure CntS (V : World) (X : Nat) (so : Value) (cs : List Int) (wr : World) : Prop where
  own : wr.ownsRow V.heap.size 3 1 so cs.length (vals .i64 cs)
  bel : Below V.heap.size V wr

theorem flt_short {bs : List Int} {c0 c1 i : Nat} {v : Int} (hv : v = numB bs (9 + 4 * i) 4) (h1 : v < 0) : fltAt bs c0 c1 i = some (5, (bs.length : Int)) := by
  subst hv
  unfold fltAt
  rw [if_pos h1]
theorem flt_odd {bs : List Int} {c0 c1 i : Nat} {v : Int} (hv : v = numB bs (9 + 4 * i) 4) (h1 : ¬ v < 0) (hf : fFin v = false) : fltAt bs c0 c1 i = some (6, ((9 + 4 * i : Nat) : Int)) := by
  subst hv
  unfold fltAt
  rw [if_neg h1, if_pos hf]
theorem flt_zero {bs : List Int} {c0 c1 i : Nat} {v : Int} (hv : v = numB bs (9 + 4 * i) 4) (h1 : ¬ v < 0) (hf : fFin v = true) (hd : dirAt bs c0 c1 i = true) : fltAt bs c0 c1 i = some (7, ((1 + 4 * i : Nat) : Int)) := by
  subst hv
  unfold fltAt
  rw [if_neg h1, if_neg (by rw [hf]; decide), if_pos hd]
theorem flt_none {bs : List Int} {c0 c1 i : Nat} {v : Int} (hv : v = numB bs (9 + 4 * i) 4) (h1 : ¬ v < 0) (hf : fFin v = true) (hd : dirAt bs c0 c1 i = false) : fltAt bs c0 c1 i = none := by
  subst hv
  unfold fltAt
  rw [if_neg h1, if_neg (by rw [hf]; decide), if_neg (by rw [hd]; decide)]

set_option maxRecDepth 100000 in
set_option maxHeartbeats 16000000 in
theorem fault6_any (a : Option Addr) (c : Nat) (bs : List Int) (w : World) (hl : bs.length ≤ 1048576) (hu : U8 bs) (hz : RowAt .u8 w a bs) :
    Calls Try.prog 66 #[.slice a bs.length c] w fun e w' => FaultOut w (faultF bs) e w' := by
  have HZ : Hid (RowAt .u8 w a bs) := hz
  have HU : Hid (U8 bs) := hu
  clear hz hu
  go_enter Try.func66, Try.ntmps66
  go_wp2
  go_loopw [5] (fun si wr => ∃ (i : Nat), i ≤ 4 ∧ si = .int .i64 i ∧ Hid (firstF (magicAt bs) i = none) ∧ Hid (Below w.heap.size w wr)) (fun si _ => 4 - (intOf si).toNat)
  case atStart => exact ⟨0, Nat.zero_le _, rfl, rfl, Below.refl _ _⟩
  case round =>
    obtain ⟨i, hi, rfl, hA, hb⟩ := hrel
    by_cases hlt : i < 4
    · by_cases hln : bs.length ≤ i
      · have hln' : (bs.length : Int) ≤ i := by omega
        have HF : Hid (faultF bs = (5, (bs.length : Int))) := magic_short hA.out hlt hln
        have hib : (i : Int) < 4 := by omega
        go_wp2
        refine bodyPost_ret (v := .tuple #[.int .i64 5, .int .i64 (bs.length : Int)]) (by simp [results, Try.results66, go_sem]) rfl ?_
        exact FaultOut.of HF.out rfl hb.out
      · have hln' : ¬ (bs.length : Int) ≤ i := by omega
        obtain ⟨b, off, rfl, hbl, hc⟩ := HZ.out.resolve_left (by intro h; rw [h] at hln; simp at hln)
        have g1 := (hb.out.cell (p := ⟨b, off + i, none⟩) hbl).trans (hc i (by omega))
        have HL : Hid (¬ bs.length ≤ i) := hln
        have hlc : (i : Int) < bs.length := by omega
        have hbn : ¬ bs = [] := by intro h; rw [h] at hln; simp at hln
        have hbn0 : 0 < bs.length := by omega
        clear hc hln
        have hcase : i = 0 ∨ i = 1 ∨ i = 2 ∨ i = 3 := by omega
        rcases hcase with rfl | rfl | rfl | rfl
        · by_cases hx : bs.getD 0 0 = 83
          · have HN : Hid (firstF (magicAt bs) 1 = none) := magic_right hA.out HL.out hx
            rw [hx] at g1
            have g2 : wr.cell? ⟨b, off, none⟩ = some (.int .u8 83) := g1
            clear g1 hx
            go_wp2
            go_quiet (fail)
            go_wp2
            go_roundw
            case rel => exact ⟨1, by omega, by go_num, HN, by first | exact hb | exact below_drewN hb.out _⟩
            case measure => simp [intOf]
          · have HF : Hid (faultF bs = (4, ((0 : Nat) : Int))) := magic_wrong hA.out (by omega) HL.out hx
            obtain ⟨x, hxx⟩ : ∃ x, x = bs.getD 0 0 := ⟨_, rfl⟩
            rw [← hxx] at g1 hx
            have g2 : wr.cell? ⟨b, off, none⟩ = some (.int .u8 x) := g1
            have HX : Hid (¬ x = 83) := hx
            clear g1 hx hxx
            go_wp2
            go_quiet (fail)
            go_wp2
            · refine bodyPost_ret (v := .tuple #[.int .i64 4, .int .i64 0]) (by simp [results, Try.results66, go_sem]) rfl ?_
              exact FaultOut.of HF.out rfl (by first | exact hb.out | exact below_drewN hb.out _)
            · exfalso
              rename_i hh
              exact HX.out ((bne_eq_false_iff_eq.1 hh).trans rfl)
        · by_cases hx : bs.getD 1 0 = 67
          · have HN : Hid (firstF (magicAt bs) 2 = none) := magic_right hA.out HL.out hx
            rw [hx] at g1
            have g2 : wr.cell? ⟨b, off + 1, none⟩ = some (.int .u8 67) := g1
            clear g1 hx
            go_wp2
            go_quiet (fail)
            go_wp2
            go_roundw
            case rel => exact ⟨2, by omega, by go_num, HN, by first | exact hb | exact below_drewN hb.out _⟩
            case measure => simp [intOf]
          · have HF : Hid (faultF bs = (4, ((1 : Nat) : Int))) := magic_wrong hA.out (by omega) HL.out hx
            obtain ⟨x, hxx⟩ : ∃ x, x = bs.getD 1 0 := ⟨_, rfl⟩
            rw [← hxx] at g1 hx
            have g2 : wr.cell? ⟨b, off + 1, none⟩ = some (.int .u8 x) := g1
            have HX : Hid (¬ x = 67) := hx
            clear g1 hx hxx
            go_wp2
            go_quiet (fail)
            go_wp2
            · refine bodyPost_ret (v := .tuple #[.int .i64 4, .int .i64 1]) (by simp [results, Try.results66, go_sem]) rfl ?_
              exact FaultOut.of HF.out rfl (by first | exact hb.out | exact below_drewN hb.out _)
            · exfalso
              rename_i hh
              exact HX.out ((bne_eq_false_iff_eq.1 hh).trans rfl)
        · by_cases hx : bs.getD 2 0 = 69
          · have HN : Hid (firstF (magicAt bs) 3 = none) := magic_right hA.out HL.out hx
            rw [hx] at g1
            have g2 : wr.cell? ⟨b, off + 2, none⟩ = some (.int .u8 69) := g1
            clear g1 hx
            go_wp2
            go_quiet (fail)
            go_wp2
            go_roundw
            case rel => exact ⟨3, by omega, by go_num, HN, by first | exact hb | exact below_drewN hb.out _⟩
            case measure => simp [intOf]
          · have HF : Hid (faultF bs = (4, ((2 : Nat) : Int))) := magic_wrong hA.out (by omega) HL.out hx
            obtain ⟨x, hxx⟩ : ∃ x, x = bs.getD 2 0 := ⟨_, rfl⟩
            rw [← hxx] at g1 hx
            have g2 : wr.cell? ⟨b, off + 2, none⟩ = some (.int .u8 x) := g1
            have HX : Hid (¬ x = 69) := hx
            clear g1 hx hxx
            go_wp2
            go_quiet (fail)
            go_wp2
            · refine bodyPost_ret (v := .tuple #[.int .i64 4, .int .i64 2]) (by simp [results, Try.results66, go_sem]) rfl ?_
              exact FaultOut.of HF.out rfl (by first | exact hb.out | exact below_drewN hb.out _)
            · exfalso
              rename_i hh
              exact HX.out ((bne_eq_false_iff_eq.1 hh).trans rfl)
        · by_cases hx : bs.getD 3 0 = 78
          · have HN : Hid (firstF (magicAt bs) 4 = none) := magic_right hA.out HL.out hx
            rw [hx] at g1
            have g2 : wr.cell? ⟨b, off + 3, none⟩ = some (.int .u8 78) := g1
            clear g1 hx
            go_wp2
            go_quiet (fail)
            go_wp2
            go_roundw
            case rel => exact ⟨4, by omega, by go_num, HN, by first | exact hb | exact below_drewN hb.out _⟩
            case measure => simp [intOf]
          · have HF : Hid (faultF bs = (4, ((3 : Nat) : Int))) := magic_wrong hA.out (by omega) HL.out hx
            obtain ⟨x, hxx⟩ : ∃ x, x = bs.getD 3 0 := ⟨_, rfl⟩
            rw [← hxx] at g1 hx
            have g2 : wr.cell? ⟨b, off + 3, none⟩ = some (.int .u8 x) := g1
            have HX : Hid (¬ x = 78) := hx
            clear g1 hx hxx
            go_wp2
            go_quiet (fail)
            go_wp2
            · refine bodyPost_ret (v := .tuple #[.int .i64 4, .int .i64 3]) (by simp [results, Try.results66, go_sem]) rfl ?_
              exact FaultOut.of HF.out rfl (by first | exact hb.out | exact below_drewN hb.out _)
            · exfalso
              rename_i hh
              exact HX.out ((bne_eq_false_iff_eq.1 hh).trans rfl)
    · have hi4 : i = 4 := by omega
      have HM : Hid (firstF (magicAt bs) 4 = none) := by unfold Hid; rw [← hi4]; exact hA.out
      rw [show (i : Int) = 4 by omega]
      have hbs := hb.out.size
      obtain ⟨V, hV⟩ : ∃ V, V = (wr.alloc (.cells #[.int .i64 2, .int .i64 2, .int .i64 1] 3)).alloc (.cells #[.int .i64 40, .int .i64 40, .int .i64 4] 3) := ⟨_, rfl⟩
      obtain ⟨X, hX⟩ : ∃ X, X = wr.heap.size := ⟨_, rfl⟩
      have VS : V.heap.size = X + 2 := by rw [hV, hX]; simp
      have VB : Hid (Below w.heap.size w V) := by unfold Hid; rw [hV]; exact hb.out.trans ((bel2 _ _ _).mono hbs)
      have HT : Hid (∀ w', Below V.heap.size V w' → w'.cell? ⟨X, 0, none⟩ = some (.int .i64 2) ∧ w'.cell? ⟨X, 1, none⟩ = some (.int .i64 2) ∧ w'.cell? ⟨X, 2, none⟩ = some (.int .i64 1) ∧ w'.cell? ⟨X + 1, 0, none⟩ = some (.int .i64 40) ∧ w'.cell? ⟨X + 1, 1, none⟩ = some (.int .i64 40) ∧ w'.cell? ⟨X + 1, 2, none⟩ = some (.int .i64 4)) := by
        intro w' hw
        have e1 : ∀ bb oo, bb < V.heap.size → w'.cell? ⟨bb, oo, none⟩ = V.cell? ⟨bb, oo, none⟩ := (bcell hw).1
        refine ⟨?_, ?_, ?_, ?_, ?_, ?_⟩ <;> (rw [e1 _ _ (by omega), hV, hX]; simp [go_sem])
      clear hA hb hi hlt hi4
      go_wp2
      rw [← hV, ← hX]
      clear hV hX hbs
      go_loopw [8, 9, 10] (fun so sa sk wr => ∃ (k : Nat) (cs : List Int), k ≤ 3 ∧ sk = .int .i64 k ∧ sa = .int .i64 (atK3 k) ∧ cs = (List.range k).map (cntB bs) ∧ Hid (firstF (cntAt bs) k = none) ∧ Hid (CntS V X so cs wr)) (fun _ _ sk _ => 3 - (intOf sk).toNat)
      case atStart => exact ⟨0, [], Nat.zero_le _, rfl, rfl, rfl, rfl, ⟨own_nil _ _ _ _, Below.refl _ _⟩⟩
      case round =>
        obtain ⟨k, cs, hk, rfl, rfl, hcs, hN, hC⟩ := hrel
        obtain ⟨t0, t1, t2, u0, u1, u2⟩ := HT.out wr hC.out.bel
        have hown := hC.out.own
        have hsz := hC.out.bel.size
        by_cases hk3 : k < 3
        · have hcase : k = 0 ∨ k = 1 ∨ k = 2 := by omega
          rcases hcase with rfl | rfl | rfl
          · rw [show atK3 0 = (4 : Int) from rfl]
            have HC : Hid (cntB bs 0 = numB bs 4 2) := rfl
            have HLC : Hid (cs.length = 0) := by unfold Hid; rw [hcs]; simp
            have HR := numB_range HU.out 4 2 (by decide)
            go_wp2_with fail
            refine (num6_any a c bs 4 2 _ hl (by decide) (by decide) HU.out ((HZ.out.later VB.out).later hC.out.bel)).mono ?_
            rintro e w1 ⟨rfl, rfl⟩
            rw [← HC.out] at HR ⊢
            obtain ⟨v, hv⟩ : ∃ v, v = cntB bs 0 := ⟨_, rfl⟩
            by_cases h1 : v < 0
            · have HF : Hid (faultF bs = (5, (bs.length : Int))) := faultF_counts HM.out (cnt_bad hN.out (by decide) (hv ▸ h1))
              have HB : Hid (Below w.heap.size w w1) := VB.out.trans (hC.out.bel.mono VB.out.size)
              rw [← hv]
              clear hv HC HR
              go_wp2
              refine bodyPost_ret (v := .tuple #[.int .i64 5, .int .i64 (bs.length : Int)]) (by simp [results, Try.results66, go_sem]) rfl ?_
              exact FaultOut.of HF.out rfl HB.out
            · by_cases h2 : 40 < v
              · have HF : Hid (faultF bs = (2, ((4 : Nat) : Int))) := faultF_counts HM.out (cnt_much hN.out (by decide) (hv ▸ h1) (hv ▸ h2))
                have HB : Hid (Below w.heap.size w w1) := VB.out.trans (hC.out.bel.mono VB.out.size)
                rw [← hv]
                clear hv HC HR
                go_wp2
                refine bodyPost_ret (v := .tuple #[.int .i64 2, .int .i64 4]) (by simp [results, Try.results66, go_sem]) rfl ?_
                exact FaultOut.of HF.out rfl HB.out
              · have HN2 : Hid (firstF (cntAt bs) 1 = none) := cnt_fine hN.out (hv ▸ h1) (hv ▸ h2)
                have HCS : Hid (cs ++ [v] = (List.range 1).map (cntB bs)) := by unfold Hid; rw [hcs, hv, List.range_succ, List.map_append]; rfl
                have hlo : cs.length ≤ 8388608 := by rw [HLC.out]; omega
                rw [← hv]
                rw [← hv] at HR
                clear hv HC
                go_wp2_with (at_builtin; refine app1 rfl (.tmp 59) (.tmp 61) 23 rfl V.heap.size 3 Try.underlying23 Try.info3 (by decide) _ _ rfl rfl hown hlo hsz ?_; intro a1 n1 c1 w2 hown1 hb1 hs1; obtain ⟨t0, t1, t2, u0, u1, u2⟩ := HT.out w2 (hC.out.bel.trans hb1))
                have HC2 : Hid (CntS V X (.slice a1 n1 c1) (cs ++ [v]) w2) := ⟨hown1, hC.out.bel.trans hb1⟩
                go_roundw
                case rel => exact ⟨1, cs ++ [v], by decide, by go_num, rfl, HCS.out, HN2, HC2⟩
                case measure => simp [intOf]
          · rw [show atK3 1 = (6 : Int) from rfl]
            have HC : Hid (cntB bs 1 = numB bs 6 2) := rfl
            have HLC : Hid (cs.length = 1) := by unfold Hid; rw [hcs]; simp
            have HR := numB_range HU.out 6 2 (by decide)
            go_wp2_with fail
            refine (num6_any a c bs 6 2 _ hl (by decide) (by decide) HU.out ((HZ.out.later VB.out).later hC.out.bel)).mono ?_
            rintro e w1 ⟨rfl, rfl⟩
            rw [← HC.out] at HR ⊢
            obtain ⟨v, hv⟩ : ∃ v, v = cntB bs 1 := ⟨_, rfl⟩
            by_cases h1 : v < 0
            · have HF : Hid (faultF bs = (5, (bs.length : Int))) := faultF_counts HM.out (cnt_bad hN.out (by decide) (hv ▸ h1))
              have HB : Hid (Below w.heap.size w w1) := VB.out.trans (hC.out.bel.mono VB.out.size)
              rw [← hv]
              clear hv HC HR
              go_wp2
              refine bodyPost_ret (v := .tuple #[.int .i64 5, .int .i64 (bs.length : Int)]) (by simp [results, Try.results66, go_sem]) rfl ?_
              exact FaultOut.of HF.out rfl HB.out
            · by_cases h2 : 40 < v
              · have HF : Hid (faultF bs = (2, ((6 : Nat) : Int))) := faultF_counts HM.out (cnt_much hN.out (by decide) (hv ▸ h1) (hv ▸ h2))
                have HB : Hid (Below w.heap.size w w1) := VB.out.trans (hC.out.bel.mono VB.out.size)
                rw [← hv]
                clear hv HC HR
                go_wp2
                refine bodyPost_ret (v := .tuple #[.int .i64 2, .int .i64 6]) (by simp [results, Try.results66, go_sem]) rfl ?_
                exact FaultOut.of HF.out rfl HB.out
              · have HN2 : Hid (firstF (cntAt bs) 2 = none) := cnt_fine hN.out (hv ▸ h1) (hv ▸ h2)
                have HCS : Hid (cs ++ [v] = (List.range 2).map (cntB bs)) := by unfold Hid; rw [hcs, hv, List.range_succ, List.map_append]; rfl
                have hlo : cs.length ≤ 8388608 := by rw [HLC.out]; omega
                rw [← hv]
                rw [← hv] at HR
                clear hv HC
                go_wp2_with (at_builtin; refine app1 rfl (.tmp 59) (.tmp 61) 23 rfl V.heap.size 3 Try.underlying23 Try.info3 (by decide) _ _ rfl rfl hown hlo hsz ?_; intro a1 n1 c1 w2 hown1 hb1 hs1; obtain ⟨t0, t1, t2, u0, u1, u2⟩ := HT.out w2 (hC.out.bel.trans hb1))
                have HC2 : Hid (CntS V X (.slice a1 n1 c1) (cs ++ [v]) w2) := ⟨hown1, hC.out.bel.trans hb1⟩
                go_roundw
                case rel => exact ⟨2, cs ++ [v], by decide, by go_num, rfl, HCS.out, HN2, HC2⟩
                case measure => simp [intOf]
          · rw [show atK3 2 = (8 : Int) from rfl]
            have HC : Hid (cntB bs 2 = numB bs 8 1) := rfl
            have HLC : Hid (cs.length = 2) := by unfold Hid; rw [hcs]; simp
            have HR := numB_range HU.out 8 1 (by decide)
            go_wp2_with fail
            refine (num6_any a c bs 8 1 _ hl (by decide) (by decide) HU.out ((HZ.out.later VB.out).later hC.out.bel)).mono ?_
            rintro e w1 ⟨rfl, rfl⟩
            rw [← HC.out] at HR ⊢
            obtain ⟨v, hv⟩ : ∃ v, v = cntB bs 2 := ⟨_, rfl⟩
            by_cases h1 : v < 0
            · have HF : Hid (faultF bs = (5, (bs.length : Int))) := faultF_counts HM.out (cnt_bad hN.out (by decide) (hv ▸ h1))
              have HB : Hid (Below w.heap.size w w1) := VB.out.trans (hC.out.bel.mono VB.out.size)
              rw [← hv]
              clear hv HC HR
              go_wp2
              refine bodyPost_ret (v := .tuple #[.int .i64 5, .int .i64 (bs.length : Int)]) (by simp [results, Try.results66, go_sem]) rfl ?_
              exact FaultOut.of HF.out rfl HB.out
            · by_cases h2 : 4 < v
              · have HF : Hid (faultF bs = (2, ((8 : Nat) : Int))) := faultF_counts HM.out (cnt_much hN.out (by decide) (hv ▸ h1) (hv ▸ h2))
                have HB : Hid (Below w.heap.size w w1) := VB.out.trans (hC.out.bel.mono VB.out.size)
                rw [← hv]
                clear hv HC HR
                go_wp2
                refine bodyPost_ret (v := .tuple #[.int .i64 2, .int .i64 8]) (by simp [results, Try.results66, go_sem]) rfl ?_
                exact FaultOut.of HF.out rfl HB.out
              · have HN2 : Hid (firstF (cntAt bs) 3 = none) := cnt_fine hN.out (hv ▸ h1) (hv ▸ h2)
                have HCS : Hid (cs ++ [v] = (List.range 3).map (cntB bs)) := by unfold Hid; rw [hcs, hv, List.range_succ, List.map_append]; rfl
                have hlo : cs.length ≤ 8388608 := by rw [HLC.out]; omega
                rw [← hv]
                rw [← hv] at HR
                clear hv HC
                go_wp2_with (at_builtin; refine app1 rfl (.tmp 59) (.tmp 61) 23 rfl V.heap.size 3 Try.underlying23 Try.info3 (by decide) _ _ rfl rfl hown hlo hsz ?_; intro a1 n1 c1 w2 hown1 hb1 hs1; obtain ⟨t0, t1, t2, u0, u1, u2⟩ := HT.out w2 (hC.out.bel.trans hb1))
                have HC2 : Hid (CntS V X (.slice a1 n1 c1) (cs ++ [v]) w2) := ⟨hown1, hC.out.bel.trans hb1⟩
                go_roundw
                case rel => exact ⟨3, cs ++ [v], by decide, by go_num, rfl, HCS.out, HN2, HC2⟩
                case measure => simp [intOf]
        · have hk33 : k = 3 := by omega
          have HN3 : Hid (firstF (cntAt bs) 3 = none) := by unfold Hid; rw [← hk33]; exact hN.out
          obtain ⟨C0, e0⟩ : ∃ C0 : Nat, cntB bs 0 = C0 := ⟨(cntB bs 0).toNat, by have := (cnt_ok HN3.out 0 (by decide)).1; omega⟩
          obtain ⟨C1, e1⟩ : ∃ C1 : Nat, cntB bs 1 = C1 := ⟨(cntB bs 1).toNat, by have := (cnt_ok HN3.out 1 (by decide)).1; omega⟩
          obtain ⟨C2, e2⟩ : ∃ C2 : Nat, cntB bs 2 = C2 := ⟨(cntB bs 2).toNat, by have := (cnt_ok HN3.out 2 (by decide)).1; omega⟩
          have b0 : C0 ≤ 40 := by have := (cnt_ok HN3.out 0 (by decide)).2; rw [show cntMo 0 = 40 from rfl] at this; omega
          have b1 : C1 ≤ 40 := by have := (cnt_ok HN3.out 1 (by decide)).2; rw [show cntMo 1 = 40 from rfl] at this; omega
          have b2 : C2 ≤ 4 := by have := (cnt_ok HN3.out 2 (by decide)).2; rw [show cntMo 2 = 4 from rfl] at this; omega
          have hcs3 : cs = [(C0 : Int), C1, C2] := by rw [hcs, hk33]; simp [List.range, List.range.loop, e0, e1, e2]
          have HFT : Hid (faultF bs = tailF bs C0 C1 C2) := by unfold Hid; rw [faultF_tail HM.out HN3.out, e0, e1, e2]; rfl
          obtain ⟨ac, cc, rfl, -, -, hrc⟩ := own_row hown
          obtain ⟨bC, oC, rfl, _, hbC, hcC, _⟩ := hrc.resolve_left (by rw [hcs3]; simp)
          obtain ⟨W3, hW3⟩ : ∃ W3, W3 = wr := ⟨_, rfl⟩
          subst hW3
          have HC3 : Hid (∀ w', Below W3.heap.size W3 w' → w'.cell? ⟨bC, oC, none⟩ = some (.int .i64 C0) ∧ w'.cell? ⟨bC, oC + 1, none⟩ = some (.int .i64 C1) ∧ w'.cell? ⟨bC, oC + 2, none⟩ = some (.int .i64 C2)) := by
            intro w' hw
            have r0 := hcC 0 (by rw [hcs3]; simp)
            have r1 := hcC 1 (by rw [hcs3]; simp)
            have r2 := hcC 2 (by rw [hcs3]; simp)
            rw [hcs3] at r0 r1 r2
            exact ⟨((bcell hw).1 _ _ hbC).trans r0, ((bcell hw).1 _ _ hbC).trans r1, ((bcell hw).1 _ _ hbC).trans r2⟩
          have B3 : Hid (Below w.heap.size w W3) := VB.out.trans (hC.out.bel.mono VB.out.size)
          obtain ⟨N, hNd⟩ : ∃ N, N = fltN C0 C1 C2 := ⟨_, rfl⟩
          have hNi : 9 * (C0 : Int) + 6 * (C1 : Int) + 3 * (C2 : Int) = N := by rw [hNd]; unfold fltN; omega
          have hN4 : N ≤ 612 := by rw [hNd]; unfold fltN; omega
          have HND : Hid (N = fltN C0 C1 C2) := hNd
          rw [show (k : Int) = 3 by omega, show atK3 k = 9 by rw [hk33]; rfl, show cs.length = 3 by rw [hcs3]; rfl]
          obtain ⟨k0, k1, k2⟩ := HC3.out W3 (Below.refl _ _)
          clear t0 t1 t2 u0 u1 u2 hown hsz hcs hN hC hk hk3 hk33 hcs3 hrc hcC hNd HN3 e0 e1 e2 HT VB VS
          go_wp2
          go_quiet (fail)
          go_wp2
          clear k0 k1 k2
          go_loopw [13] (fun si wr => ∃ (i : Nat), i ≤ N ∧ si = .int .i64 i ∧ Hid (firstF (fltAt bs C0 C1) i = none) ∧ Hid (Below W3.heap.size W3 wr)) (fun si _ => N - (intOf si).toNat)
          case atStart => exact ⟨0, Nat.zero_le _, rfl, rfl, by first | exact Below.refl _ _ | exact below_drewN (Below.refl _ _) _⟩
          case round =>
            obtain ⟨i, hi, rfl, hA, hb⟩ := hrel
            obtain ⟨k0, k1, k2⟩ := HC3.out wr hb.out
            have HZ3 : Hid (RowAt .u8 wr a bs) := (HZ.out.later B3.out).later hb.out
            have HBW : Hid (Below w.heap.size w wr) := B3.out.trans (hb.out.mono B3.out.size)
            by_cases hlt : i < N
            · have HLT : Hid (i < fltN C0 C1 C2) := by unfold Hid; rw [← HND.out]; exact hlt
              obtain ⟨t, ht⟩ : ∃ t, t = 9 + 4 * i := ⟨_, rfl⟩
              have ht1 : (9 : Int) + 4 * (i : Int) = t := by omega
              have ht2 : t ≤ 10000 := by omega
              have ht3 : 9 ≤ t := by omega
              have HTT : Hid (t = 9 + 4 * i) := ht
              clear ht
              have HR := numB_range HU.out t 4 (by decide)
              have hib : (i : Int) < N := by omega
              go_wp2_with fail
              refine (num6_any a c bs t 4 _ hl (by omega) (by decide) HU.out HZ3.out).mono ?_
              rintro e w1 ⟨rfl, rfl⟩
              obtain ⟨v, hv⟩ : ∃ v, v = numB bs t 4 := ⟨_, rfl⟩
              rw [← hv] at HR ⊢
              have HV : Hid (v = numB bs (9 + 4 * i) 4) := by unfold Hid; rw [hv, HTT.out]
              obtain ⟨v0, v1⟩ := HR
              clear hv
              by_cases h1 : v < 0
              · have HF : Hid (faultF bs = (5, (bs.length : Int))) := HFT.out.trans (tailF_hit (firstF_hit HLT.out hA.out (flt_short HV.out h1)))
                go_wp2
                refine bodyPost_ret (v := .tuple #[.int .i64 5, .int .i64 (bs.length : Int)]) (by simp [results, Try.results66, go_sem]) rfl ?_
                exact FaultOut.of HF.out rfl HBW.out
              · have hv0 : 0 ≤ v := by omega
                go_wp2_with fail
                refine (finV_any v _ hv0 v1).mono ?_
                rintro e w2 ⟨rfl, rfl⟩
                cases hf : fFin v
                · have HF : Hid (faultF bs = (6, (t : Int))) := by unfold Hid; rw [HFT.out, tailF_hit (firstF_hit HLT.out hA.out (flt_odd HV.out (Int.not_lt.2 hv0) hf)), HTT.out]
                  go_wp2
                  refine bodyPost_ret (v := .tuple #[.int .i64 6, .int .i64 (t : Int)]) (by simp [results, Try.results66, go_sem]) rfl ?_
                  exact FaultOut.of HF.out rfl HBW.out
                · by_cases g0 : 9 * C0 ≤ i
                  · obtain ⟨q, hq⟩ : ∃ q, q = i - 9 * C0 := ⟨_, rfl⟩
                    have hq1 : (i : Int) - 9 * (C0 : Int) = q := by omega
                    have hq0 : ¬ (q : Int) < 0 := by omega
                    have HQQ : Hid (q = i - 9 * C0) := hq
                    clear hq
                    by_cases g1 : q < 6 * C1
                    · have g1' : (q : Int) < 6 * (C1 : Int) := by omega
                      by_cases g2 : q % 6 = 5
                      · have hqt : (q : Int).tmod 6 = 5 := by rw [Int.tmod_eq_emod_of_nonneg (by omega)]; omega
                        obtain ⟨s, hs⟩ : ∃ s, s = 1 + 4 * i := ⟨_, rfl⟩
                        have hs1 : (t : Int) - 8 = s := by have := HTT.out; omega
                        have hs2 : s ≤ 10000 := by have := HTT.out; omega
                        have s0 := fltB_range HU.out s
                        have s4 := fltB_range HU.out (s + 4)
                        have s8 := fltB_range HU.out (s + 8)
                        have HD : Hid (dirAt bs C0 C1 i = noWayB (fltB bs s) (fltB bs (s + 4)) (fltB bs (s + 8))) := by unfold Hid dirAt; rw [hs]; rw [decide_eq_true g0, decide_eq_true (show i < 9 * C0 + 6 * C1 by have := HQQ.out; omega), decide_eq_true (show (i - 9 * C0) % 6 = 5 by rw [← HQQ.out]; exact g2)]; rfl
                        have HSS : Hid (s = 1 + 4 * i) := hs
                        clear hs
                        go_wp2_with fail
                        refine (pointAt6_any a c bs s _ hl (by omega) HU.out HZ3.out).mono ?_
                        rintro e w3 ⟨rfl, hb3⟩
                        obtain ⟨x0, hx0⟩ : ∃ x, x = fltB bs s := ⟨_, rfl⟩
                        obtain ⟨x4, hx4⟩ : ∃ x, x = fltB bs (s + 4) := ⟨_, rfl⟩
                        obtain ⟨x8, hx8⟩ : ∃ x, x = fltB bs (s + 8) := ⟨_, rfl⟩
                        rw [← hx0] at s0 HD ⊢
                        rw [← hx4] at s4 HD ⊢
                        rw [← hx8] at s8 HD ⊢
                        have HB3 : Hid (Below W3.heap.size W3 w3) := hb.out.trans (hb3.mono hb.out.size)
                        have HBW3 : Hid (Below w.heap.size w w3) := HBW.out.trans (hb3.mono HBW.out.size)
                        clear hb3 hx0 hx4 hx8 hb k0 k1 k2
                        go_wp2_with fail
                        refine (noWayV_any x0 x4 x8 _ s0.1 s0.2 s4.1 s4.2 s8.1 s8.2).mono ?_
                        rintro e w4 ⟨rfl, hb4⟩
                        have HB4 : Hid (Below W3.heap.size W3 w4) := HB3.out.trans (hb4.mono HB3.out.size)
                        have HBW4 : Hid (Below w.heap.size w w4) := HBW3.out.trans (hb4.mono HBW3.out.size)
                        rw [← HD.out]
                        clear hb4 s0 s4 s8
                        cases hd : dirAt bs C0 C1 i
                        · go_wp2
                          go_roundw
                          case rel => exact ⟨i + 1, by omega, by go_num, firstF_succ hA.out (flt_none HV.out (Int.not_lt.2 hv0) hf hd), HB4⟩
                          case measure => simp [intOf]; omega
                        · have HF : Hid (faultF bs = (7, (s : Int))) := by unfold Hid; rw [HFT.out, tailF_hit (firstF_hit HLT.out hA.out (flt_zero HV.out (Int.not_lt.2 hv0) hf hd)), HSS.out]
                          go_wp2
                          refine bodyPost_ret (v := .tuple #[.int .i64 7, .int .i64 (s : Int)]) (by simp [results, Try.results66, go_sem]) rfl ?_
                          exact FaultOut.of HF.out rfl HBW4.out
                      · have hdd : dirAt bs C0 C1 i = false := by unfold dirAt; rw [decide_eq_false (show ¬ (i - 9 * C0) % 6 = 5 by rw [← HQQ.out]; exact g2)]; simp
                        obtain ⟨m, hm⟩ : ∃ m, m = (q : Int).tmod 6 := ⟨_, rfl⟩
                        have hm5 : ¬ m = 5 := by rw [hm, Int.tmod_eq_emod_of_nonneg (by omega)]; omega
                        have hm6 : (m == 5) = false := by simp [hm5]
                        have hm7 := hm.symm
                        clear hm
                        go_wp2
                        go_roundw
                        case rel => exact ⟨i + 1, by omega, by go_num, firstF_succ hA.out (flt_none HV.out (Int.not_lt.2 hv0) hf hdd), hb⟩
                        case measure => simp [intOf]; omega
                    · have hdd : dirAt bs C0 C1 i = false := by unfold dirAt; rw [decide_eq_false (show ¬ i < 9 * C0 + 6 * C1 by have := HQQ.out; omega)]; simp
                      have g1' : ¬ (q : Int) < 6 * (C1 : Int) := by omega
                      go_wp2
                      go_roundw
                      case rel => exact ⟨i + 1, by omega, by go_num, firstF_succ hA.out (flt_none HV.out (Int.not_lt.2 hv0) hf hdd), hb⟩
                      case measure => simp [intOf]; omega
                  · have hdd : dirAt bs C0 C1 i = false := by unfold dirAt; rw [decide_eq_false g0]; simp
                    have g0' : (i : Int) - 9 * (C0 : Int) < 0 := by omega
                    obtain ⟨q, hq⟩ : ∃ q, q = (i : Int) - 9 * (C0 : Int) := ⟨_, rfl⟩
                    have hq1 := hq.symm
                    have hq0 : q < 0 := by omega
                    clear hq g0'
                    go_wp2
                    go_roundw
                    case rel => exact ⟨i + 1, by omega, by go_num, firstF_succ hA.out (flt_none HV.out (Int.not_lt.2 hv0) hf hdd), hb⟩
                    case measure => simp [intOf]; omega
            · have hie : i = N := by omega
              have HNO : Hid (firstF (fltAt bs C0 C1) (fltN C0 C1 C2) = none) := by unfold Hid; rw [← HND.out, ← hie]; exact hA.out
              by_cases hlen : 9 + 4 * N < bs.length
              · have HF : Hid (faultF bs = (8, 9 + 4 * (N : Int))) := by unfold Hid; rw [HFT.out, tailF_none HNO.out, ← HND.out, if_pos hlen]; congr 1
                have hlen' : 9 + 4 * (N : Int) < bs.length := by omega
                rw [show (i : Int) = N by omega]
                clear hie hlt hA
                go_wp2
                refine bodyPost_ret (v := .tuple #[.int .i64 8, .int .i64 (9 + 4 * (N : Int))]) (by simp [results, Try.results66, go_sem]) rfl ?_
                exact FaultOut.of HF.out rfl HBW.out
              · have HF : Hid (faultF bs = (0, 0)) := by unfold Hid; rw [HFT.out, tailF_none HNO.out, ← HND.out, if_neg hlen]
                have hlen' : ¬ 9 + 4 * (N : Int) < bs.length := by omega
                rw [show (i : Int) = N by omega]
                clear hie hlt hA
                go_wp2
                refine bodyPost_ret (v := .tuple #[.int .i64 0, .int .i64 0]) (by simp [results, Try.results66, go_sem]) rfl ?_
                exact FaultOut.of HF.out rfl HBW.out

end Go.Proofs.Ytcjdnomhnlbmbaa
