/-
  The model's products.
-/
import Derived.Test.YtlbegmepmeimkabSpecH
import Derived.Test.YtlbegmepmeimkabNumM
namespace Go.Proofs.Ytlbegmepmeimkab
open Go.RowKit

theorem sg_mulS (g g' : Bool) (u v : Int) : sg (!(g == g')) (u * v) = sg g u * sg g' v := by
  cases g <;> cases g' <;> simp [sg, Int.neg_mul, Int.mul_neg]

/-- Where the inner loop of l1mul stands: j digits done; or all, and the last carry written behind them. -/
def MulAt (x : Int) (es Pi D : List Int) (j : Nat) (c : Int) : Prop :=
  (j ≤ es.length ∧ carryD 65536 (mulsL x es Pi) 0 = D ++ carryD 65536 (mulsL x (es.drop j) (Pi.drop j)) c ∧ carryO 65536 (mulsL x es Pi) 0 = carryO 65536 (mulsL x (es.drop j) (Pi.drop j)) c) ∨
  (j = es.length + 1 ∧ c = 0 ∧ D = carryD 65536 (mulsL x es Pi) 0 ++ [carryO 65536 (mulsL x es Pi) 0])

/-- The row is done. -/
theorem MulAt.fin {x c : Int} {ds es P D : List Int} {i j L : Nat} (h : MulAt x es (P.drop i) D j c) (hj : ¬ j < es.length) (hc : c = 0) (hDl : D.length = j) (hP : Prod 65536 ds es L i P) (hi : i < ds.length) (hL : i + es.length < L) (hx : x = ds.getD i 0)
    (hcb : 0 ≤ carryO 65536 (mulsL x es (P.drop i)) 0 ∧ carryO 65536 (mulsL x es (P.drop i)) 0 < 65536) : Prod 65536 ds es L (i + 1) (P.take i ++ (D ++ P.drop (i + j))) := by
  have hl : i + es.length < P.length := by rw [hP.len]; exact hL
  rcases h with ⟨h1, h2, h3⟩ | ⟨h1, _, h3⟩
  · have hjn : j = es.length := by omega
    subst hjn hc
    have hD : D = carryD 65536 (mulsL x es (P.drop i)) 0 := by rw [h2, List.drop_eq_nil_of_le (Nat.le_refl _)]; simp [mulsL, carryD]
    have hO : carryO 65536 (mulsL x es (P.drop i)) 0 = 0 := by rw [h3, List.drop_eq_nil_of_le (Nat.le_refl _)]; simp [mulsL, carryO]
    have h := prod_step (by decide) hP hi hL hx hD rfl hcb.1 hcb.2
    rw [hO] at h
    have e : D ++ P.drop (i + es.length) = (D ++ [0]) ++ P.drop (i + es.length + 1) := by
      rw [List.drop_eq_getElem_cons hl]
      have : P[i + es.length] = 0 := by simpa [List.getD_eq_getElem?_getD, hl] using hP.up (i + es.length) (Nat.le_refl _)
      rw [this, List.append_assoc]
      rfl
    rw [e]
    exact h
  · subst h1 h3
    have h := prod_step (by decide) hP hi hL hx rfl rfl hcb.1 hcb.2
    exact h

theorem carryO_muls {B x : Int} (hB : 1 < B) (h0 : 0 ≤ x) (h1 : x < B) {ys ms : List Int} (hy : Dig B ys) (hm : Dig B ms) : 0 ≤ carryO B (mulsL x ys ms) 0 ∧ carryO B (mulsL x ys ms) 0 < B := by
  have hmem : ∀ (ys ms : List Int), Dig B ys → Dig B ms → ∀ s, s ∈ mulsL x ys ms → 0 ≤ s ∧ s ≤ (B - 1) * (B - 1) + (B - 1) := by
    intro ys
    induction ys with
    | nil => intro ms _ _ s hs; simp [mulsL] at hs
    | cons y ys ih =>
      intro ms hy hm s hs
      have hb := mul_bound h0 h1 hy.head.1 hy.head.2
      cases ms with
      | nil =>
        rcases List.mem_cons.1 hs with rfl | hs
        · omega
        · exact ih [] hy.tail hm s hs
      | cons m ms =>
        have := hm.head
        rcases List.mem_cons.1 hs with rfl | hs
        · omega
        · exact ih ms hy.tail hm.tail s hs
  have h := carryO_mem (B := B) (lo := 0) (hi := B - 1) (mulsL x ys ms) 0 (Int.le_refl 0) (by omega) (by
    intro s hs c hc0 hc1
    have hb := hmem ys ms hy hm s hs
    exact carry_bound (by omega) (by omega) (by omega))
  omega

theorem AddF.mid {w : World} {g g' : Bool} {v v' z : Value} {W W' : World} (h : AddF w g g' v v' z W) (hb : Below (w.heap.size + 1 + 1 + 1) W W') : AddF w g g' v v' z W' := by
  obtain ⟨a1, a2, a3, a4, _⟩ := addS_of h.s (hb.mono (by omega))
  exact ⟨⟨a1, a2, a3, a4, Below.refl _ _⟩, (hb.cell (by simp)).trans h.r1, (hb.cell (by simp)).trans h.r2, fun j => (hb.frozen (by simp)).trans (h.r3 j), Nat.le_trans h.le hb.size, h.bel.trans (hb.mono (by omega))⟩

set_option maxHeartbeats 8000000 in
theorem mul_any (g g' : Bool) (a a' : Option Addr) (c c' : Nat) (ds es : List Int) (x y : Int) (w : World) (hn : ds.length ≤ 100000) (hn' : es.length ≤ 100000) (h : L1 w g a c ds x) (h' : L1 w g' a' c' es y) :
    Calls Try.prog 57 #[.agg #[.bool g, .slice a ds.length c], .agg #[.bool g', .slice a' es.length c']] w fun e w' => ∃ g2 a2 c2 fs, e = .returned (.agg #[.bool g2, .slice a2 fs.length c2]) ∧ fs.length ≤ ds.length + es.length + 1 ∧ L1 w' g2 a2 c2 fs (x * y) ∧ Far w.heap.size a2 fs ∧ Below w.heap.size w w' := by
  have hmk := run_make_row' (P := Try.prog) 53 3 (.int .i64 0) 8 Try.underlying53 Try.info3 rfl .i64 .i64 (ds.length + es.length + 1) (by omega) (by omega)
  rw [show ((ds.length + es.length + 1 : Nat) : Int) = (ds.length : Int) + (es.length : Int) + 1 by omega] at hmk
  have HX : Hid (sg (!(g == g')) (val 65536 ds * val 65536 es) = x * y) := by unfold Hid; rw [sg_mulS, h.num, h'.num]
  have hdz := h.can.1
  have hdy := h'.can.1
  have hz := h.sl.row
  have hy := h'.sl.row
  clear h h'
  go_enter Try.func57, Try.ntmps57
  go_wp2
  obtain ⟨W0, hW0⟩ : ∃ W0, W0 = (((w.alloc (.cells #[.bool g, .slice a ds.length c] 55)).alloc (.cells #[.bool g', .slice a' es.length c'] 55)).alloc (.cells #[.bool false, .slice none 0 0] 55)) := ⟨_, rfl⟩
  have F : Hid (AddF w g g' (.slice a ds.length c) (.slice a' es.length c') (.slice none 0 0) W0) := by rw [hW0]; exact AddF.start w g g' _ _ _ _ _ _
  have hS : w.heap.size + 1 + 1 + 1 = W0.heap.size := by rw [hW0]; simp
  rw [← hW0]
  have HS0 : Hid (Own .i64 (W0.alloc (.cells (madeCells #[.int .i64 0] (ds.length + es.length + 1)) 3)) (w.heap.size + 1 + 1 + 1) 0 (List.replicate (ds.length + es.length + 1) 0)) := by unfold Hid; rw [hS]; exact Own.made W0 _ _
  have HB0 : Hid (Below (w.heap.size + 1 + 1 + 1) W0 (W0.alloc (.cells (madeCells #[.int .i64 0] (ds.length + es.length + 1)) 3))) := by unfold Hid; rw [hS]; exact bel0 _ _
  clear hW0 hS
  go_loopw [6] (fun t wr => ∃ (i : Nat) (P : List Int), i ≤ ds.length ∧ t = .int .i64 i ∧ Hid (Prod 65536 ds es (ds.length + es.length + 1) i P) ∧ Own .i64 wr (w.heap.size + 1 + 1 + 1) 0 P ∧ Below (w.heap.size + 1 + 1 + 1) W0 wr) (fun t _ => ds.length - (intOf t).toNat)
  case atStart => exact ⟨0, _, Nat.zero_le _, rfl, prod_start _ (by decide) _ _ _, HS0.out, HB0.out⟩
  case round =>
    obtain ⟨i, P, hi, rfl, hP, hown, hnx⟩ := hrel
    clear HS0 HB0
    by_cases hlt : i < ds.length
    · have hb1 := hdz.at (by decide) i
      have F1 : Hid (AddF w g g' (.slice a ds.length c) (.slice a' es.length c') (.slice none 0 0) wr) := F.out.mid hnx
      obtain ⟨x1, hx⟩ : ∃ x1, x1 = ds.getD i 0 := ⟨_, rfl⟩
      rw [← hx] at hb1
      obtain ⟨hb10, hb11⟩ := hb1
      have HX1 : Hid (x1 = ds.getD i 0) := hx
      have hPl : P.length = ds.length + es.length + 1 := hP.out.len
      have HPl : Hid (P.length = ds.length + es.length + 1) := hPl
      have HO : Hid (Own .i64 wr (w.heap.size + 1 + 1 + 1) 0 P) := hown
      have HN : Hid (Below (w.heap.size + 1 + 1 + 1) W0 wr) := hnx
      have s1 := F1.out.s.2.1
      have HOB := carryO_muls (B := 65536) (by decide) hb10 hb11 hdy (hP.out.dig.drop i)
      have HOB : Hid (0 ≤ carryO 65536 (mulsL x1 es (P.drop i)) 0 ∧ carryO 65536 (mulsL x1 es (P.drop i)) 0 < 65536) := HOB
      clear hx hPl hown hnx
      go_wp2
      clear s1 F1
      go_loopw [7, 8] (fun cc t wq => ∃ (j : Nat) (cv : Int) (D : List Int), j ≤ es.length + 1 ∧ D.length = j ∧ t = .int .i64 j ∧ cc = .int .i64 cv ∧ 0 ≤ cv ∧ cv ≤ 65535 ∧ Hid (MulAt x1 es (P.drop i) D j cv) ∧
          Own .i64 wq (w.heap.size + 1 + 1 + 1) 0 (P.take i ++ (D ++ P.drop (i + j))) ∧ Below (w.heap.size + 1 + 1 + 1) W0 wq) (fun _ t _ => es.length + 1 - (intOf t).toNat)
      case atStart => exact ⟨0, 0, [], Nat.zero_le _, rfl, rfl, rfl, by decide, by decide, .inl ⟨Nat.zero_le _, rfl, rfl⟩, by simpa using HO.out, HN.out⟩
      case round =>
        obtain ⟨j, cv, D, hj, hDl, rfl, rfl, hc0, hc1, hM, hown, hnx⟩ := hrel
        have F1 : Hid (AddF w g g' (.slice a ds.length c) (.slice a' es.length c') (.slice none 0 0) wr) := F.out.mid hnx
        have s1 := F1.out.s.2.1
        have s3 := F1.out.s.2.2.2.1
        have hbw : Below w.heap.size w wr := F1.out.bel
        by_cases hlt2 : j < es.length
        · have hb2 := hdy.at (by decide) j
          obtain ⟨b, off, rfl, g1⟩ := row_cell hz hbw hlt
          obtain ⟨b', off', rfl, g2⟩ := row_cell hy hbw hlt2
          rw [← HX1.out] at g1
          obtain ⟨y1, hyy⟩ : ∃ y1, y1 = es.getD j 0 := ⟨_, rfl⟩
          rw [← hyy] at hb2 g2
          obtain ⟨hb20, hb21⟩ := hb2
          have hij : i + j < P.length := by rw [HPl.out]; omega
          have hbm := hP.out.dig.at (by decide) (i + j)
          have g3 := hown.cell (i + j) (by rw [mid_length hDl (by omega)]; exact hij)
          have g4 := hown.free (i + j) (by rw [mid_length hDl (by omega)]; exact hij)
          rw [Nat.zero_add] at g3 g4
          rw [mid_get (Nat.le_refl _) hDl (by omega)] at g3
          obtain ⟨m, hm⟩ : ∃ m, m = P.getD (i + j) 0 := ⟨_, rfl⟩
          rw [← hm] at hbm g3
          obtain ⟨hbm0, hbm1⟩ := hbm
          obtain ⟨hxy0, hxy1⟩ := mul_bound hb10 hb11 hb20 hb21
          simp only [Int.reduceSub, Int.reduceMul] at hxy1
          have hcb := carry_bound (B := 65536) (s := m + cv + x1 * y1) (by decide) (by omega) (by simp only [Int.reduceSub, Int.reduceMul]; omega)
          have hst := mul_step (B := 65536) (x := x1) (c := cv) (s := m + cv + x1 * y1) (ms := P.drop i) hlt2 (by rw [← hyy, List.getD_eq_getElem?_getD, List.getElem?_drop, ← List.getD_eq_getElem?_getD, ← hm]; omega)
          have HM : Hid (MulAt x1 es (P.drop i) (D ++ [(m + cv + x1 * y1) % 65536]) (j + 1) ((m + cv + x1 * y1) / 65536)) := by
            rcases hM.out with ⟨h1, h2, h3⟩ | ⟨h1, _, _⟩
            · refine .inl ⟨by omega, ?_, ?_⟩
              · rw [h2, hst.1]; simp
              · rw [h3, hst.2]
            · omega
          have hs := hown.set (i + j) ((m + cv + x1 * y1) % 65536) (by rw [mid_length hDl (by omega)]; exact hij)
          rw [Nat.zero_add, mid_set hDl hij] at hs
          have HS : Hid (Own .i64 (wr.setCell ⟨w.heap.size + 1 + 1 + 1, i + j, none⟩ (.int .i64 ((m + cv + x1 * y1) % 65536))) (w.heap.size + 1 + 1 + 1) 0 (P.take i ++ ((D ++ [(m + cv + x1 * y1) % 65536]) ++ P.drop (i + j + 1)))) := hs
          have HB : Hid (Below (w.heap.size + 1 + 1 + 1) W0 (wr.setCell ⟨w.heap.size + 1 + 1 + 1, i + j, none⟩ (.int .i64 ((m + cv + x1 * y1) % 65536)))) := hnx.setCell (Nat.le_refl _) _
          obtain ⟨hcb0, hcb1⟩ := hcb
          have HCB : Hid (0 ≤ (m + cv + x1 * y1) / 65536 ∧ (m + cv + x1 * y1) / 65536 ≤ 65535) := ⟨hcb0, by omega⟩
          have hji : (i : Int) + (j : Int) < (ds.length : Int) + (es.length : Int) + 1 := by omega
          clear hcb0 hcb1 hst hs hyy hm hM hown hnx hij HN HO hbw F1
          go_wp2
          go_quiet (fail)
          go_wp2
          go_roundw
          case rel => exact ⟨j + 1, (m + cv + x1 * y1) / 65536, D ++ [(m + cv + x1 * y1) % 65536], by omega, by simp; omega, by go_num, rfl, HCB.out.1, HCB.out.2, HM, HS.out.later (below_drewN (Below.refl _ _) _), below_drewN HB.out _⟩
          case measure => simp [intOf]; omega
        · by_cases hcp : 0 < cv
          · have hjn : j = es.length := by
              rcases hM.out with ⟨h1, _⟩ | ⟨_, h2, _⟩
              · omega
              · omega
            subst hjn
            have hij : i + es.length < P.length := by rw [HPl.out]; omega
            have hm0 : P.getD (i + es.length) 0 = 0 := hP.out.up _ (Nat.le_refl _)
            have g3 := hown.cell (i + es.length) (by rw [mid_length hDl (by omega)]; exact hij)
            have g4 := hown.free (i + es.length) (by rw [mid_length hDl (by omega)]; exact hij)
            rw [Nat.zero_add] at g3 g4
            rw [mid_get (Nat.le_refl _) hDl (by omega), hm0] at g3
            have HM : Hid (MulAt x1 es (P.drop i) (D ++ [cv]) (es.length + 1) 0) := by
              rcases hM.out with ⟨h1, h2, h3⟩ | ⟨h1, _, _⟩
              · refine .inr ⟨rfl, rfl, ?_⟩
                have hD : carryD 65536 (mulsL x1 es (P.drop i)) 0 = D := by rw [h2, List.drop_eq_nil_of_le (Nat.le_refl _)]; simp [mulsL, carryD]
                have hO : carryO 65536 (mulsL x1 es (P.drop i)) 0 = cv := by rw [h3, List.drop_eq_nil_of_le (Nat.le_refl _)]; simp [mulsL, carryO]
                rw [hD, hO]
              · omega
            have hs := hown.set (i + es.length) cv (by rw [mid_length hDl (by omega)]; exact hij)
            rw [Nat.zero_add, mid_set hDl hij] at hs
            have HS : Hid (Own .i64 (wr.setCell ⟨w.heap.size + 1 + 1 + 1, i + es.length, none⟩ (.int .i64 cv)) (w.heap.size + 1 + 1 + 1) 0 (P.take i ++ ((D ++ [cv]) ++ P.drop (i + es.length + 1)))) := hs
            have HB : Hid (Below (w.heap.size + 1 + 1 + 1) W0 (wr.setCell ⟨w.heap.size + 1 + 1 + 1, i + es.length, none⟩ (.int .i64 cv))) := hnx.setCell (Nat.le_refl _) _
            have hji : (i : Int) + (es.length : Int) < (ds.length : Int) + (es.length : Int) + 1 := by omega
            have E1 : Hid (cv % 65536 = cv) := by unfold Hid; omega
            have E2 : Hid (cv / 65536 = 0) := by unfold Hid; omega
            clear hs hm0 hM hown hnx hij HN HO hbw F1
            go_wp2
            go_roundw
            case rel => exact ⟨es.length + 1, 0, D ++ [cv], by omega, by simp; omega, by go_num, by rw [E2.out], by decide, by decide, HM, by rw [E1.out]; exact HS.out, by rw [E1.out]; exact HB.out⟩
            case measure => simp [intOf]
          · have hcz : cv = 0 := by omega
            have HP2 : Hid (Prod 65536 ds es (ds.length + es.length + 1) (i + 1) (P.take i ++ (D ++ P.drop (i + j)))) := hM.out.fin hlt2 hcz hDl hP.out hlt (by omega) HX1.out HOB.out
            subst hcz
            have HS : Hid (Own .i64 wr (w.heap.size + 1 + 1 + 1) 0 (P.take i ++ (D ++ P.drop (i + j)))) := hown
            have HB : Hid (Below (w.heap.size + 1 + 1 + 1) W0 wr) := hnx
            clear hM hown hnx HN HO hbw F1 hP HOB
            go_wp2
            go_roundw
            case rel => exact ⟨i + 1, P.take i ++ (D ++ P.drop (i + j)), by omega, by go_num, HP2, HS.out, HB.out⟩
            case measure => simp [intOf]; omega
    · have hin : i = ds.length := by omega
      subst hin
      have hPl : P.length = ds.length + es.length + 1 := hP.out.len
      have hV : val 65536 P = val 65536 ds * val 65536 es := by rw [hP.out.eq, List.take_length]
      have HV : Hid (val 65536 P = val 65536 ds * val 65536 es) := hV
      have HG : Hid (Dig 65536 P) := hP.out.dig
      have HL : Hid (P.length = ds.length + es.length + 1) := hPl
      have HS : Hid (Own .i64 wr (w.heap.size + 1 + 1 + 1) 0 P) := hown
      have F1 : Hid (AddF w g g' (.slice a ds.length c) (.slice a' es.length c') (.slice none 0 0) wr) := F.out.mid hnx
      have s0 := F1.out.s.1
      have s1 := F1.out.s.2.1
      have s2 := F1.out.s.2.2.1
      clear hV hPl hP hown hnx hz hy hdz hdy F
      go_wp2_with fail
      have e1 : ds.length + es.length + 1 = P.length := HL.out.symm
      rw [e1]
      refine (make_any (!(g == g')) _ _ P _ (by omega) (by unfold maxLen; omega) ⟨Nat.le_refl _, (fun h => by cases h), .inr ⟨_, _, rfl, HS.out.lt, HS.out.cell⟩⟩ HG.out).mono ?_
      rintro e w2 ⟨g2, fs, rfl, hfl, hL2, hb2⟩
      rw [HV.out, HX.out] at hL2
      have F2 : Hid (AddF w g g' (.slice a ds.length c) (.slice a' es.length c') (.slice none 0 0) w2) := F1.out.later hb2
      have r1 := F2.out.r1
      have r2 := F2.out.r2
      have r3 := F2.out.r3
      have HL2 : Hid (L1 w2 g2 (some ⟨w.heap.size + 1 + 1 + 1, 0, none⟩) P.length fs (x * y)) := hL2
      have HF : Hid (Far (w.heap.size + 1 + 1 + 1) (some ⟨w.heap.size + 1 + 1 + 1, 0, none⟩) fs) := .inr ⟨_, _, rfl, Nat.le_refl _⟩
      clear hL2 hb2 s0 s1 s2 F1 HS
      go_wp2
      refine bodyPost_ret (v := .agg #[.bool g2, .slice (some ⟨w.heap.size + 1 + 1 + 1, 0, none⟩) fs.length P.length]) (by simp [results, Try.results57, go_sem, r1, r2]) rfl ⟨g2, _, _, fs, rfl, by omega, ?_, HF.out.down (by omega), ?_⟩
      · exact (HL2.out.setFar HF.out (by simp) _).setFar HF.out (by simp) _
      · exact (F2.out.bel.setCell (by simp; omega) _).setCell (by simp; omega) _

end Go.Proofs.Ytlbegmepmeimkab
