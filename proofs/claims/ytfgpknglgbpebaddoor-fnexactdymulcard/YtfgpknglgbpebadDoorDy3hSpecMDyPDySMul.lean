/-
  The parts of a valid Dyadic.
-/
import Derived.Test.YtfgpknglgbpebadDoorDy1
import Derived.Test.YtfgpknglgbpebadDoorSpecH
import Derived.Test.YtfgpknglgbpebadDoorNumM
import Derived.Test.YtfgpknglgbpebadDoorDy2
import Derived.Test.YtfgpknglgbpebadDoorNumWNumYNumNDyO
namespace Go.Proofs.YtfgpknglgbpebadDoor
open Go.RowKit

theorem validD_parts {g : Bool} {zs : List Int} {E : Int} (h : validD g zs E = true) : validB g zs = true ∧ -20000 ≤ E ∧ E ≤ 20000 := by
  unfold validD at h
  simp only [Bool.and_eq_true, decide_eq_true_eq] at h
  exact ⟨h.1, h.2.1, h.2.2⟩

end Go.Proofs.YtfgpknglgbpebadDoor

/-
  The model's products.
-/
namespace Go.Proofs.YtfgpknglgbpebadDoor
open Go.RowKit

theorem sg_mulS (g g' : Bool) (u v : Int) : sg (!(g == g')) (u * v) = sg g u * sg g' v := by
  cases g <;> cases g' <;> simp [sg, Int.neg_mul, Int.mul_neg]

/-- Where the inner loop of l1mul stands: j digits done; or all, and the last carry written behind them. -/
def MulAt (x : Int) (es Pi D : List Int) (j : Nat) (c : Int) : Prop :=
  (j ≤ es.length ∧ carryD 65536 (mulsL x es Pi) 0 = D ++ carryD 65536 (mulsL x (es.drop j) (Pi.drop j)) c ∧ carryO 65536 (mulsL x es Pi) 0 = carryO 65536 (mulsL x (es.drop j) (Pi.drop j)) c) ∨
  (j = es.length + 1 ∧ c = 0 ∧ D = carryD 65536 (mulsL x es Pi) 0 ++ [carryO 65536 (mulsL x es Pi) 0])

/-- The row is done. -/
theorem MulAt.fin {x c : Int} {ds es P D : List Int} {i j L : Nat} (h : MulAt x es (P.drop i) D j c) (hj : ¬ j < es.length) (hc : c = 0) (hDl : D.length = j) (hP : Prod 65536 ds es L i P) (hi : i < ds.length) (hL : i + es.length < L) (hx : x = ds.getD i 0)
    (hcb : 0 ≤ carryO 65536 (mulsL x es (P.drop i)) 0 ∧ carryO 65536 (mulsL x es (P.drop i)) 0 < 65536) : Prod 65536 ds es L (i + 1) (P.take i ++ (D ++ P.drop (i + j))) := by
  have hl : i + es.length < P.length := by rw [hP.len]; exact hL
  rcases h with ⟨h1, h2, h3⟩ | ⟨h1, _, h3⟩
  · have hjn : j = es.length := by omega
    subst hjn hc
    have hD : D = carryD 65536 (mulsL x es (P.drop i)) 0 := by rw [h2, List.drop_eq_nil_of_le (Nat.le_refl _)]; simp [mulsL, carryD]
    have hO : carryO 65536 (mulsL x es (P.drop i)) 0 = 0 := by rw [h3, List.drop_eq_nil_of_le (Nat.le_refl _)]; simp [mulsL, carryO]
    have h := prod_step (by decide) hP hi hL hx hD rfl hcb.1 hcb.2
    rw [hO] at h
    have e : D ++ P.drop (i + es.length) = (D ++ [0]) ++ P.drop (i + es.length + 1) := by
      rw [List.drop_eq_getElem_cons hl]
      have : P[i + es.length] = 0 := by simpa [List.getD_eq_getElem?_getD, hl] using hP.up (i + es.length) (Nat.le_refl _)
      rw [this, List.append_assoc]
      rfl
    rw [e]
    exact h
  · subst h1 h3
    have h := prod_step (by decide) hP hi hL hx rfl rfl hcb.1 hcb.2
    exact h

theorem carryO_muls {B x : Int} (hB : 1 < B) (h0 : 0 ≤ x) (h1 : x < B) {ys ms : List Int} (hy : Dig B ys) (hm : Dig B ms) : 0 ≤ carryO B (mulsL x ys ms) 0 ∧ carryO B (mulsL x ys ms) 0 < B := by
  have hmem : ∀ (ys ms : List Int), Dig B ys → Dig B ms → ∀ s, s ∈ mulsL x ys ms → 0 ≤ s ∧ s ≤ (B - 1) * (B - 1) + (B - 1) := by
    intro ys
    induction ys with
    | nil => intro ms _ _ s hs; simp [mulsL] at hs
    | cons y ys ih =>
      intro ms hy hm s hs
      have hb := mul_bound h0 h1 hy.head.1 hy.head.2
      cases ms with
      | nil =>
        rcases List.mem_cons.1 hs with rfl | hs
        · omega
        · exact ih [] hy.tail hm s hs
      | cons m ms =>
        have := hm.head
        rcases List.mem_cons.1 hs with rfl | hs
        · omega
        · exact ih ms hy.tail hm.tail s hs
  have h := carryO_mem (B := B) (lo := 0) (hi := B - 1) (mulsL x ys ms) 0 (Int.le_refl 0) (by omega) (by
    intro s hs c hc0 hc1
    have hb := hmem ys ms hy hm s hs
    exact carry_bound (by omega) (by omega) (by omega))
  omega

theorem AddF.mid {w : World} {g g' : Bool} {v v' z : Value} {W W' : World} (h : AddF w g g' v v' z W) (hb : Below (w.heap.size + 1 + 1 + 1) W W') : AddF w g g' v v' z W' := by
  obtain ⟨a1, a2, a3, a4, _⟩ := addS_of h.s (hb.mono (by omega))
  exact ⟨⟨a1, a2, a3, a4, Below.refl _ _⟩, (hb.cell (by simp)).trans h.r1, (hb.cell (by simp)).trans h.r2, fun j => (hb.frozen (by simp)).trans (h.r3 j), Nat.le_trans h.le hb.size, h.bel.trans (hb.mono (by omega))⟩

set_option maxHeartbeats 8000000 in
theorem mul_any (g g' : Bool) (a a' : Option Addr) (c c' : Nat) (ds es : List Int) (x y : Int) (w : World) (hn : ds.length ≤ 100000) (hn' : es.length ≤ 100000) (h : L1 w g a c ds x) (h' : L1 w g' a' c' es y) :
    Calls Tryd.prog 31 #[.agg #[.bool g, .slice a ds.length c], .agg #[.bool g', .slice a' es.length c']] w fun e w' => ∃ g2 a2 c2 fs, e = .returned (.agg #[.bool g2, .slice a2 fs.length c2]) ∧ fs.length ≤ ds.length + es.length + 1 ∧ L1 w' g2 a2 c2 fs (x * y) ∧ Far w.heap.size a2 fs ∧ Below w.heap.size w w' := by
  have hmk := run_make_row' (P := Tryd.prog) 40 3 (.int .i64 0) 8 Tryd.underlying40 Tryd.info3 rfl .i64 .i64 (ds.length + es.length + 1) (by omega) (by omega)
  rw [show ((ds.length + es.length + 1 : Nat) : Int) = (ds.length : Int) + (es.length : Int) + 1 by omega] at hmk
  have HX : Hid (sg (!(g == g')) (val 65536 ds * val 65536 es) = x * y) := by unfold Hid; rw [sg_mulS, h.num, h'.num]
  have hdz := h.can.1
  have hdy := h'.can.1
  have hz := h.sl.row
  have hy := h'.sl.row
  clear h h'
  go_enter Tryd.func31, Tryd.ntmps31
  go_wp2
  obtain ⟨W0, hW0⟩ : ∃ W0, W0 = (((w.alloc (.cells #[.bool g, .slice a ds.length c] 42)).alloc (.cells #[.bool g', .slice a' es.length c'] 42)).alloc (.cells #[.bool false, .slice none 0 0] 42)) := ⟨_, rfl⟩
  have F : Hid (AddF w g g' (.slice a ds.length c) (.slice a' es.length c') (.slice none 0 0) W0) := by rw [hW0]; exact AddF.start w g g' _ _ _ _ _ _
  have hS : w.heap.size + 1 + 1 + 1 = W0.heap.size := by rw [hW0]; simp
  rw [← hW0]
  have HS0 : Hid (Own .i64 (W0.alloc (.cells (madeCells #[.int .i64 0] (ds.length + es.length + 1)) 3)) (w.heap.size + 1 + 1 + 1) 0 (List.replicate (ds.length + es.length + 1) 0)) := by unfold Hid; rw [hS]; exact Own.made W0 _ _
  have HB0 : Hid (Below (w.heap.size + 1 + 1 + 1) W0 (W0.alloc (.cells (madeCells #[.int .i64 0] (ds.length + es.length + 1)) 3))) := by unfold Hid; rw [hS]; exact bel0 _ _
  clear hW0 hS
  go_loopw [6] (fun t wr => ∃ (i : Nat) (P : List Int), i ≤ ds.length ∧ t = .int .i64 i ∧ Hid (Prod 65536 ds es (ds.length + es.length + 1) i P) ∧ Own .i64 wr (w.heap.size + 1 + 1 + 1) 0 P ∧ Below (w.heap.size + 1 + 1 + 1) W0 wr) (fun t _ => ds.length - (intOf t).toNat)
  case atStart => exact ⟨0, _, Nat.zero_le _, rfl, prod_start _ (by decide) _ _ _, HS0.out, HB0.out⟩
  case round =>
    obtain ⟨i, P, hi, rfl, hP, hown, hnx⟩ := hrel
    clear HS0 HB0
    by_cases hlt : i < ds.length
    · have hb1 := hdz.at (by decide) i
      have F1 : Hid (AddF w g g' (.slice a ds.length c) (.slice a' es.length c') (.slice none 0 0) wr) := F.out.mid hnx
      obtain ⟨x1, hx⟩ : ∃ x1, x1 = ds.getD i 0 := ⟨_, rfl⟩
      rw [← hx] at hb1
      obtain ⟨hb10, hb11⟩ := hb1
      have HX1 : Hid (x1 = ds.getD i 0) := hx
      have hPl : P.length = ds.length + es.length + 1 := hP.out.len
      have HPl : Hid (P.length = ds.length + es.length + 1) := hPl
      have HO : Hid (Own .i64 wr (w.heap.size + 1 + 1 + 1) 0 P) := hown
      have HN : Hid (Below (w.heap.size + 1 + 1 + 1) W0 wr) := hnx
      have s1 := F1.out.s.2.1
      have HOB := carryO_muls (B := 65536) (by decide) hb10 hb11 hdy (hP.out.dig.drop i)
      have HOB : Hid (0 ≤ carryO 65536 (mulsL x1 es (P.drop i)) 0 ∧ carryO 65536 (mulsL x1 es (P.drop i)) 0 < 65536) := HOB
      clear hx hPl hown hnx
      go_wp2
      clear s1 F1
      go_loopw [7, 8] (fun cc t wq => ∃ (j : Nat) (cv : Int) (D : List Int), j ≤ es.length + 1 ∧ D.length = j ∧ t = .int .i64 j ∧ cc = .int .i64 cv ∧ 0 ≤ cv ∧ cv ≤ 65535 ∧ Hid (MulAt x1 es (P.drop i) D j cv) ∧
          Own .i64 wq (w.heap.size + 1 + 1 + 1) 0 (P.take i ++ (D ++ P.drop (i + j))) ∧ Below (w.heap.size + 1 + 1 + 1) W0 wq) (fun _ t _ => es.length + 1 - (intOf t).toNat)
      case atStart => exact ⟨0, 0, [], Nat.zero_le _, rfl, rfl, rfl, by decide, by decide, .inl ⟨Nat.zero_le _, rfl, rfl⟩, by simpa using HO.out, HN.out⟩
      case round =>
        obtain ⟨j, cv, D, hj, hDl, rfl, rfl, hc0, hc1, hM, hown, hnx⟩ := hrel
        have F1 : Hid (AddF w g g' (.slice a ds.length c) (.slice a' es.length c') (.slice none 0 0) wr) := F.out.mid hnx
        have s1 := F1.out.s.2.1
        have s3 := F1.out.s.2.2.2.1
        have hbw : Below w.heap.size w wr := F1.out.bel
        by_cases hlt2 : j < es.length
        · have hb2 := hdy.at (by decide) j
          obtain ⟨b, off, rfl, g1⟩ := row_cell hz hbw hlt
          obtain ⟨b', off', rfl, g2⟩ := row_cell hy hbw hlt2
          rw [← HX1.out] at g1
          obtain ⟨y1, hyy⟩ : ∃ y1, y1 = es.getD j 0 := ⟨_, rfl⟩
          rw [← hyy] at hb2 g2
          obtain ⟨hb20, hb21⟩ := hb2
          have hij : i + j < P.length := by rw [HPl.out]; omega
          have hbm := hP.out.dig.at (by decide) (i + j)
          have g3 := hown.cell (i + j) (by rw [mid_length hDl (by omega)]; exact hij)
          have g4 := hown.free (i + j) (by rw [mid_length hDl (by omega)]; exact hij)
          rw [Nat.zero_add] at g3 g4
          rw [mid_get (Nat.le_refl _) hDl (by omega)] at g3
          obtain ⟨m, hm⟩ : ∃ m, m = P.getD (i + j) 0 := ⟨_, rfl⟩
          rw [← hm] at hbm g3
          obtain ⟨hbm0, hbm1⟩ := hbm
          obtain ⟨hxy0, hxy1⟩ := mul_bound hb10 hb11 hb20 hb21
          simp only [Int.reduceSub, Int.reduceMul] at hxy1
          have hcb := carry_bound (B := 65536) (s := m + cv + x1 * y1) (by decide) (by omega) (by simp only [Int.reduceSub, Int.reduceMul]; omega)
          have hst := mul_step (B := 65536) (x := x1) (c := cv) (s := m + cv + x1 * y1) (ms := P.drop i) hlt2 (by rw [← hyy, List.getD_eq_getElem?_getD, List.getElem?_drop, ← List.getD_eq_getElem?_getD, ← hm]; omega)
          have HM : Hid (MulAt x1 es (P.drop i) (D ++ [(m + cv + x1 * y1) % 65536]) (j + 1) ((m + cv + x1 * y1) / 65536)) := by
            rcases hM.out with ⟨h1, h2, h3⟩ | ⟨h1, _, _⟩
            · refine .inl ⟨by omega, ?_, ?_⟩
              · rw [h2, hst.1]; simp
              · rw [h3, hst.2]
            · omega
          have hs := hown.set (i + j) ((m + cv + x1 * y1) % 65536) (by rw [mid_length hDl (by omega)]; exact hij)
          rw [Nat.zero_add, mid_set hDl hij] at hs
          have HS : Hid (Own .i64 (wr.setCell ⟨w.heap.size + 1 + 1 + 1, i + j, none⟩ (.int .i64 ((m + cv + x1 * y1) % 65536))) (w.heap.size + 1 + 1 + 1) 0 (P.take i ++ ((D ++ [(m + cv + x1 * y1) % 65536]) ++ P.drop (i + j + 1)))) := hs
          have HB : Hid (Below (w.heap.size + 1 + 1 + 1) W0 (wr.setCell ⟨w.heap.size + 1 + 1 + 1, i + j, none⟩ (.int .i64 ((m + cv + x1 * y1) % 65536)))) := hnx.setCell (Nat.le_refl _) _
          obtain ⟨hcb0, hcb1⟩ := hcb
          have HCB : Hid (0 ≤ (m + cv + x1 * y1) / 65536 ∧ (m + cv + x1 * y1) / 65536 ≤ 65535) := ⟨hcb0, by omega⟩
          have hji : (i : Int) + (j : Int) < (ds.length : Int) + (es.length : Int) + 1 := by omega
          clear hcb0 hcb1 hst hs hyy hm hM hown hnx hij HN HO hbw F1
          go_wp2
          go_quiet (fail)
          go_wp2
          go_roundw
          case rel => exact ⟨j + 1, (m + cv + x1 * y1) / 65536, D ++ [(m + cv + x1 * y1) % 65536], by omega, by simp; omega, by go_num, rfl, HCB.out.1, HCB.out.2, HM, HS.out.later (below_drewN (Below.refl _ _) _), below_drewN HB.out _⟩
          case measure => simp [intOf]; omega
        · by_cases hcp : 0 < cv
          · have hjn : j = es.length := by
              rcases hM.out with ⟨h1, _⟩ | ⟨_, h2, _⟩
              · omega
              · omega
            subst hjn
            have hij : i + es.length < P.length := by rw [HPl.out]; omega
            have hm0 : P.getD (i + es.length) 0 = 0 := hP.out.up _ (Nat.le_refl _)
            have g3 := hown.cell (i + es.length) (by rw [mid_length hDl (by omega)]; exact hij)
            have g4 := hown.free (i + es.length) (by rw [mid_length hDl (by omega)]; exact hij)
            rw [Nat.zero_add] at g3 g4
            rw [mid_get (Nat.le_refl _) hDl (by omega), hm0] at g3
            have HM : Hid (MulAt x1 es (P.drop i) (D ++ [cv]) (es.length + 1) 0) := by
              rcases hM.out with ⟨h1, h2, h3⟩ | ⟨h1, _, _⟩
              · refine .inr ⟨rfl, rfl, ?_⟩
                have hD : carryD 65536 (mulsL x1 es (P.drop i)) 0 = D := by rw [h2, List.drop_eq_nil_of_le (Nat.le_refl _)]; simp [mulsL, carryD]
                have hO : carryO 65536 (mulsL x1 es (P.drop i)) 0 = cv := by rw [h3, List.drop_eq_nil_of_le (Nat.le_refl _)]; simp [mulsL, carryO]
                rw [hD, hO]
              · omega
            have hs := hown.set (i + es.length) cv (by rw [mid_length hDl (by omega)]; exact hij)
            rw [Nat.zero_add, mid_set hDl hij] at hs
            have HS : Hid (Own .i64 (wr.setCell ⟨w.heap.size + 1 + 1 + 1, i + es.length, none⟩ (.int .i64 cv)) (w.heap.size + 1 + 1 + 1) 0 (P.take i ++ ((D ++ [cv]) ++ P.drop (i + es.length + 1)))) := hs
            have HB : Hid (Below (w.heap.size + 1 + 1 + 1) W0 (wr.setCell ⟨w.heap.size + 1 + 1 + 1, i + es.length, none⟩ (.int .i64 cv))) := hnx.setCell (Nat.le_refl _) _
            have hji : (i : Int) + (es.length : Int) < (ds.length : Int) + (es.length : Int) + 1 := by omega
            have E1 : Hid (cv % 65536 = cv) := by unfold Hid; omega
            have E2 : Hid (cv / 65536 = 0) := by unfold Hid; omega
            clear hs hm0 hM hown hnx hij HN HO hbw F1
            go_wp2
            go_roundw
            case rel => exact ⟨es.length + 1, 0, D ++ [cv], by omega, by simp; omega, by go_num, by rw [E2.out], by decide, by decide, HM, by rw [E1.out]; exact HS.out, by rw [E1.out]; exact HB.out⟩
            case measure => simp [intOf]
          · have hcz : cv = 0 := by omega
            have HP2 : Hid (Prod 65536 ds es (ds.length + es.length + 1) (i + 1) (P.take i ++ (D ++ P.drop (i + j)))) := hM.out.fin hlt2 hcz hDl hP.out hlt (by omega) HX1.out HOB.out
            subst hcz
            have HS : Hid (Own .i64 wr (w.heap.size + 1 + 1 + 1) 0 (P.take i ++ (D ++ P.drop (i + j)))) := hown
            have HB : Hid (Below (w.heap.size + 1 + 1 + 1) W0 wr) := hnx
            clear hM hown hnx HN HO hbw F1 hP HOB
            go_wp2
            go_roundw
            case rel => exact ⟨i + 1, P.take i ++ (D ++ P.drop (i + j)), by omega, by go_num, HP2, HS.out, HB.out⟩
            case measure => simp [intOf]; omega
    · have hin : i = ds.length := by omega
      subst hin
      have hPl : P.length = ds.length + es.length + 1 := hP.out.len
      have hV : val 65536 P = val 65536 ds * val 65536 es := by rw [hP.out.eq, List.take_length]
      have HV : Hid (val 65536 P = val 65536 ds * val 65536 es) := hV
      have HG : Hid (Dig 65536 P) := hP.out.dig
      have HL : Hid (P.length = ds.length + es.length + 1) := hPl
      have HS : Hid (Own .i64 wr (w.heap.size + 1 + 1 + 1) 0 P) := hown
      have F1 : Hid (AddF w g g' (.slice a ds.length c) (.slice a' es.length c') (.slice none 0 0) wr) := F.out.mid hnx
      have s0 := F1.out.s.1
      have s1 := F1.out.s.2.1
      have s2 := F1.out.s.2.2.1
      clear hV hPl hP hown hnx hz hy hdz hdy F
      go_wp2_with fail
      have e1 : ds.length + es.length + 1 = P.length := HL.out.symm
      rw [e1]
      refine (make_any (!(g == g')) _ _ P _ (by omega) (by unfold maxLen; omega) ⟨Nat.le_refl _, (fun h => by cases h), .inr ⟨_, _, rfl, HS.out.lt, HS.out.cell⟩⟩ HG.out).mono ?_
      rintro e w2 ⟨g2, fs, rfl, hfl, hL2, hb2⟩
      rw [HV.out, HX.out] at hL2
      have F2 : Hid (AddF w g g' (.slice a ds.length c) (.slice a' es.length c') (.slice none 0 0) w2) := F1.out.later hb2
      have r1 := F2.out.r1
      have r2 := F2.out.r2
      have r3 := F2.out.r3
      have HL2 : Hid (L1 w2 g2 (some ⟨w.heap.size + 1 + 1 + 1, 0, none⟩) P.length fs (x * y)) := hL2
      have HF : Hid (Far (w.heap.size + 1 + 1 + 1) (some ⟨w.heap.size + 1 + 1 + 1, 0, none⟩) fs) := .inr ⟨_, _, rfl, Nat.le_refl _⟩
      clear hL2 hb2 s0 s1 s2 F1 HS
      go_wp2
      refine bodyPost_ret (v := .agg #[.bool g2, .slice (some ⟨w.heap.size + 1 + 1 + 1, 0, none⟩) fs.length P.length]) (by simp [results, Tryd.results31, go_sem, r1, r2]) rfl ⟨g2, _, _, fs, rfl, by omega, ?_, HF.out.down (by omega), ?_⟩
      · exact (HL2.out.setFar HF.out (by simp) _).setFar HF.out (by simp) _
      · exact (F2.out.bel.setCell (by simp; omega) _).setCell (by simp; omega) _

end Go.Proofs.YtfgpknglgbpebadDoor

/-
  The model's products of dyadic numbers.
-/
namespace Go.Proofs.YtfgpknglgbpebadDoor
open Go.RowKit

set_option maxRecDepth 100000 in
set_option maxHeartbeats 4000000 in
theorem mul2_any (g g' : Bool) (a a' : Option Addr) (c c' : Nat) (ds es : List Int) (m m' E E' : Int) (w : World) (hn : ds.length ≤ 20000) (hn' : es.length ≤ 20000) (he : -500000 ≤ E + E') (he' : E + E' ≤ 500000) (h : L1 w g a c ds m) (h' : L1 w g' a' c' es m') :
    Calls Tryd.prog 17 #[.agg #[.bool g, .slice a ds.length c, .int .i64 E], .agg #[.bool g', .slice a' es.length c', .int .i64 E']] w fun e w' => NormOut w (ds.length + es.length + 1) (m * m') (E + E') (16 * (ds.length + es.length + 1)) e w' := by
  have B0 : Hid (∀ t t' t2, Bx7 w (.bool g) (.slice a ds.length c) (.int .i64 E) (.bool g') (.slice a' es.length c') (.int .i64 E') (((w.alloc (.cells #[.bool g, .slice a ds.length c, .int .i64 E] t)).alloc (.cells #[.bool g', .slice a' es.length c', .int .i64 E'] t')).alloc (.cells #[.bool false, .slice none 0 0, .int .i64 0] t2))) := fun t t' t2 => Bx7.start w _ _ _ _ _ _ _ _ _
  obtain ⟨S, hS⟩ : ∃ S, S = E + E' := ⟨_, rfl⟩
  have HS : Hid (S = E + E') := hS
  have HW : Hid (IntKind.i64.wrap (E + E') = E + E') := wrap64_id (by omega) (by omega)
  go_enter Tryd.func17, Tryd.ntmps17
  go_wp2
  obtain ⟨W0, hW0⟩ : ∃ W0, W0 = (((w.alloc (.cells #[.bool g, .slice a ds.length c, .int .i64 E] 44)).alloc (.cells #[.bool g', .slice a' es.length c', .int .i64 E'] 44)).alloc (.cells #[.bool false, .slice none 0 0, .int .i64 0] 44)) := ⟨_, rfl⟩
  have F : Hid (Bx7 w (.bool g) (.slice a ds.length c) (.int .i64 E) (.bool g') (.slice a' es.length c') (.int .i64 E') W0) := by unfold Hid; rw [hW0]; exact B0.out _ _ _
  rw [← hW0]
  clear hW0 B0 hS
  have zz : w.heap.size + 1 + 1 < W0.heap.size := F.out.le
  go_region_held3 (fun w' => w'.cell? ⟨w.heap.size, 0, none⟩ = some (.bool g) ∧ w'.cell? ⟨w.heap.size, 1, none⟩ = some (.slice a ds.length c) ∧ w'.cell? ⟨w.heap.size, 2, none⟩ = some (.int .i64 E) ∧ w'.cell? ⟨w.heap.size + 1, 0, none⟩ = some (.bool g') ∧ w'.cell? ⟨w.heap.size + 1, 1, none⟩ = some (.slice a' es.length c') ∧ w'.cell? ⟨w.heap.size + 1, 2, none⟩ = some (.int .i64 E') ∧ Below (w.heap.size + 1 + 1) W0 w')
    (first | exact F.out.held (Below.refl _ _).drew | exact F.out.held (by assumption) | exact F.out.held (Below.setCell (Below.setCell (Below.setCell (by assumption) (by simp) _) (by simp) _) (by simp) _))
    (first
      | (go_at_call 31; refine (mul_any g g' a a' c c' ds es m m' _ (by omega) (by omega) (h.later F.out.bel.drew) (h'.later F.out.bel.drew)).mono ?_; rintro e w1 ⟨g1, a1, c1, fs, rfl, hl1, hL1, hF1, hb1⟩; have hB1 : Below W0.heap.size W0 w1 := (Below.refl _ _).drew.trans hb1; have hB1' : Below (w.heap.size + 1 + 1) W0 w1 := hB1.mono (by omega))
      | (go_at_call 29; (try rw [HW.out]); refine (norm_any g1 a1 c1 fs _ (E + E') _ (by omega) (by omega) (by omega) hL1).mono ?_; rintro e w2 ⟨m2, e2, hnf, g2, a2, c2, f2, rfl, hl2, hL2, hF2, hb2⟩; have hB2 : Below W0.heap.size W0 w2 := hB1.trans (hb2.mono hB1.size); have hB2' : Below (w.heap.size + 1 + 1) W0 w2 := hB2.mono (by omega); have F2 : Hid (Bx7 w (.bool g) (.slice a ds.length c) (.int .i64 E) (.bool g') (.slice a' es.length c') (.int .i64 E') w2) := F.out.later hB2; have r1 := F2.out.r1; have r2 := F2.out.r2; have r3 := F2.out.r3; have r4 := F2.out.r4))
  have HL2 : Hid (L1 w2 g2 a2 c2 f2 m2) := hL2
  have HF2 : Hid (Far (w.heap.size + 1 + 1 + 1) a2 f2) := hF2.down (by have := hB1.size; have := F.out.le; omega)
  have HN : Hid (NormOf (m * m') (E + E') m2 e2 (16 * (ds.length + es.length + 1))) := by
    rcases hnf with h | ⟨h1, t, h2, h3, h4, h5⟩
    · exact .inl h
    · exact .inr ⟨h1, t, h2, h3, h4, by omega⟩
  clear hL2 hF2 hB1 hB1' hB2 hB2' hb1 hb2 hL1 hF1 hnf
  go_wp2
  refine bodyPost_ret (v := .agg #[.bool g2, .slice a2 f2.length c2, .int .i64 e2]) (by simp [results, Tryd.results17, go_sem, r1, r2, r3]) rfl ?_
  refine ⟨m2, e2, HN.out, g2, a2, c2, f2, rfl, by omega, ?_, HF2.out.down (by omega), ?_⟩
  · exact ((HL2.out.setFar HF2.out (by simp) _).setFar HF2.out (by simp) _).setFar HF2.out (by simp) _
  · exact ((F2.out.bel.setCell (by simp; omega) _).setCell (by simp; omega) _).setCell (by simp; omega) _

end Go.Proofs.YtfgpknglgbpebadDoor

/-
  The model's DyMul.
-/
namespace Go.Proofs.YtfgpknglgbpebadDoor
open Go.RowKit

theorem atK_prod {K x y E E' m1 e1 m2 e2 : Int} {T T' : Nat} (h1 : NormOf x E m1 e1 T) (h2 : NormOf y E' m2 e2 T') (hK : 0 ≤ E + E' + K) : atK K (m1 * m2) (e1 + e2) = atK K (x * y) (E + E') := by
  unfold atK
  rcases h1 with ⟨a1, a2, _⟩ | ⟨_, t, a2, a3, _⟩
  · rw [a1, a2]; simp
  · rcases h2 with ⟨b1, b2, _⟩ | ⟨_, s, b2, b3, _⟩
    · rw [b1, b2]; simp
    · rw [a2, b2, a3, b3, show (E + ↑t + (E' + ↑s) + K).toNat = t + (s + (E + E' + K).toNat) by omega, Int.pow_add, Int.pow_add]
      simp only [Int.mul_assoc, Int.mul_left_comm]

theorem badMul_fin {w : World} {v : Int} : ∀ W, Below w.heap.size w W → OutDS w false v (.returned (.tuple #[.agg #[.bool false, .slice none 0 0, .int .i64 0], .int .i64 1])) W :=
  fun _ hW => ⟨false, [], 0, 1, none, 0, rfl, .inl ⟨rfl, rfl, rfl, rfl, rfl⟩, .inl rfl, .inl rfl, hW⟩

set_option maxHeartbeats 1000000 in
theorem mulDS_bad1 (g g' : Bool) (a a' : Option Addr) (c c' : Nat) (zs ys : List Int) (E E' v : Int) (w : World) (hn : zs.length ≤ 1048576) (hz : RowAt .u32 w a zs) (v1 : validD g zs E = false) :
    Calls Tryd.prog 6 #[.agg #[.bool g, .slice a zs.length c, .int .i64 E], .agg #[.bool g', .slice a' ys.length c', .int .i64 E']] w fun e w' => OutDS w false v e w' := by
  have B0 : Hid (∀ t t' t2, Bx7 w (.bool g) (.slice a zs.length c) (.int .i64 E) (.bool g') (.slice a' ys.length c') (.int .i64 E') (((w.alloc (.cells #[.bool g, .slice a zs.length c, .int .i64 E] t)).alloc (.cells #[.bool g', .slice a' ys.length c', .int .i64 E'] t')).alloc (.cells #[.bool false, .slice none 0 0, .int .i64 0] t2))) := fun t t' t2 => Bx7.start w _ _ _ _ _ _ _ _ _
  go_enter Tryd.func6, Tryd.ntmps6
  go_wp2_with fail
  refine (valid2S_any g a c zs E _ (by omega) (hz.later (B0.out _ _ _).bel)).mono ?_
  rintro e w1 ⟨rfl, hb1⟩
  rw [v1]
  have F1 : Hid (Bx7 w (.bool g) (.slice a zs.length c) (.int .i64 E) (.bool g') (.slice a' ys.length c') (.int .i64 E') w1) := (B0.out _ _ _).later hb1
  have r1 := F1.out.r1
  have r2 := F1.out.r2
  have r3 := F1.out.r3
  have r4 := F1.out.r4
  clear hb1 B0
  go_wp2
  refine bodyPost_ret (v := .tuple #[.agg #[.bool false, .slice none 0 0, .int .i64 0], .int .i64 1]) (by simp [results, Tryd.results6, go_sem, r1, r2, r3]) rfl ?_
  exact badMul_fin _ (((F1.out.bel.setCell (by simp; omega) _).setCell (by simp; omega) _).setCell (by simp; omega) _)

set_option maxHeartbeats 1000000 in
theorem mulDS_bad2 (g g' : Bool) (a a' : Option Addr) (c c' : Nat) (zs ys : List Int) (E E' v : Int) (w : World) (hn : zs.length ≤ 1048576) (hn' : ys.length ≤ 1048576) (hz : RowAt .u32 w a zs) (hy : RowAt .u32 w a' ys) (v1 : validD g zs E = true) (v2 : validD g' ys E' = false) :
    Calls Tryd.prog 6 #[.agg #[.bool g, .slice a zs.length c, .int .i64 E], .agg #[.bool g', .slice a' ys.length c', .int .i64 E']] w fun e w' => OutDS w false v e w' := by
  have B0 : Hid (∀ t t' t2, Bx7 w (.bool g) (.slice a zs.length c) (.int .i64 E) (.bool g') (.slice a' ys.length c') (.int .i64 E') (((w.alloc (.cells #[.bool g, .slice a zs.length c, .int .i64 E] t)).alloc (.cells #[.bool g', .slice a' ys.length c', .int .i64 E'] t')).alloc (.cells #[.bool false, .slice none 0 0, .int .i64 0] t2))) := fun t t' t2 => Bx7.start w _ _ _ _ _ _ _ _ _
  go_enter Tryd.func6, Tryd.ntmps6
  go_wp2_with fail
  refine (valid2S_any g a c zs E _ (by omega) (hz.later (B0.out _ _ _).bel)).mono ?_
  rintro e w1 ⟨rfl, hb1⟩
  rw [v1]
  have F1 : Hid (Bx7 w (.bool g) (.slice a zs.length c) (.int .i64 E) (.bool g') (.slice a' ys.length c') (.int .i64 E') w1) := (B0.out _ _ _).later hb1
  have s0 := F1.out.p0
  have s1 := F1.out.p1
  have s2 := F1.out.p2
  clear hb1 B0
  go_wp2_with fail
  refine (valid2S_any g' a' c' ys E' _ (by omega) (hy.later F1.out.bel)).mono ?_
  rintro e w2 ⟨rfl, hb2⟩
  rw [v2]
  have F2 : Hid (Bx7 w (.bool g) (.slice a zs.length c) (.int .i64 E) (.bool g') (.slice a' ys.length c') (.int .i64 E') w2) := F1.out.later hb2
  have r1 := F2.out.r1
  have r2 := F2.out.r2
  have r3 := F2.out.r3
  have r4 := F2.out.r4
  clear hb2 F1 s0 s1 s2
  go_wp2
  refine bodyPost_ret (v := .tuple #[.agg #[.bool false, .slice none 0 0, .int .i64 0], .int .i64 1]) (by simp [results, Tryd.results6, go_sem, r1, r2, r3]) rfl ?_
  exact badMul_fin _ (((F2.out.bel.setCell (by simp; omega) _).setCell (by simp; omega) _).setCell (by simp; omega) _)

set_option maxRecDepth 100000 in
set_option maxHeartbeats 8000000 in
theorem mulDS_ok (g g' : Bool) (a a' : Option Addr) (c c' : Nat) (zs ys : List Int) (E E' v : Int) (w : World) (hz : RowAt .u32 w a zs) (hy : RowAt .u32 w a' ys) (hu : U32 zs) (hu' : U32 ys) (v1 : validD g zs E = true) (v2 : validD g' ys E' = true) (hv : v = atK 100000 ((sg g (val 4294967296 zs)) * (sg g' (val 4294967296 ys))) (E + E')) :
    Calls Tryd.prog 6 #[.agg #[.bool g, .slice a zs.length c, .int .i64 E], .agg #[.bool g', .slice a' ys.length c', .int .i64 E']] w fun e w' => OutDS w true v e w' := by
  obtain ⟨vb1, hE0, hE1⟩ := validD_parts v1
  obtain ⟨vb2, hE2, hE3⟩ := validD_parts v2
  have hn := (valid_canon hu vb1).2.1
  have hn' := (valid_canon hu' vb2).2.1
  have HV : Hid (v = atK 100000 ((sg g (val 4294967296 zs)) * (sg g' (val 4294967296 ys))) (E + E')) := hv
  clear hv
  have B0 : Hid (∀ t t' t2, Bx7 w (.bool g) (.slice a zs.length c) (.int .i64 E) (.bool g') (.slice a' ys.length c') (.int .i64 E') (((w.alloc (.cells #[.bool g, .slice a zs.length c, .int .i64 E] t)).alloc (.cells #[.bool g', .slice a' ys.length c', .int .i64 E'] t')).alloc (.cells #[.bool false, .slice none 0 0, .int .i64 0] t2))) := fun t t' t2 => Bx7.start w _ _ _ _ _ _ _ _ _
  go_enter Tryd.func6, Tryd.ntmps6
  go_wp2_with fail
  refine (valid2S_any g a c zs E _ (by omega) (hz.later (B0.out _ _ _).bel)).mono ?_
  rintro e w1 ⟨rfl, hb1⟩
  rw [v1]
  have F1 : Hid (Bx7 w (.bool g) (.slice a zs.length c) (.int .i64 E) (.bool g') (.slice a' ys.length c') (.int .i64 E') w1) := (B0.out _ _ _).later hb1
  have s0 := F1.out.p0
  have s1 := F1.out.p1
  have s2 := F1.out.p2
  clear hb1 B0
  go_wp2_with fail
  refine (valid2S_any g' a' c' ys E' _ (by omega) (hy.later F1.out.bel)).mono ?_
  rintro e W0 ⟨rfl, hb2⟩
  rw [v2]
  have F : Hid (Bx7 w (.bool g) (.slice a zs.length c) (.int .i64 E) (.bool g') (.slice a' ys.length c') (.int .i64 E') W0) := F1.out.later hb2
  clear hb2 F1 s0 s1 s2
  have zz : w.heap.size + 1 + 1 < W0.heap.size := F.out.le
  go_wp2
  go_region_held3 (fun w' => w'.cell? ⟨w.heap.size, 0, none⟩ = some (.bool g) ∧ w'.cell? ⟨w.heap.size, 1, none⟩ = some (.slice a zs.length c) ∧ w'.cell? ⟨w.heap.size, 2, none⟩ = some (.int .i64 E) ∧ w'.cell? ⟨w.heap.size + 1, 0, none⟩ = some (.bool g') ∧ w'.cell? ⟨w.heap.size + 1, 1, none⟩ = some (.slice a' ys.length c') ∧ w'.cell? ⟨w.heap.size + 1, 2, none⟩ = some (.int .i64 E') ∧ Below (w.heap.size + 1 + 1) W0 w')
    (first | exact F.out.held (Below.refl _ _).drew | exact F.out.held (by assumption) | exact F.out.held (Below.setCell (Below.setCell (Below.setCell (by assumption) (by simp) _) (by simp) _) (by simp) _))
      (first
        | (go_at_call_of 18 a; refine (of2_any g a c zs E _ (by omega) (by omega) (by omega) (hz.later F.out.bel.drew) hu).mono ?_; rintro e w2 ⟨m1, e1, hn1, g1, a1, c1, f1, rfl, hl1, hL1, hF1, hb1⟩; have hB1 : Below W0.heap.size W0 w2 := (Below.refl _ _).drew.trans hb1; have hB1' : Below (w.heap.size + 1 + 1) W0 w2 := hB1.mono (by omega))
        | (go_at_call_of 18 a'; refine (of2_any g' a' c' ys E' _ (by omega) (by omega) (by omega) (hy.later (F.out.bel.trans (hB1.mono (by omega)))) hu').mono ?_; rintro e w3 ⟨m2, e2, hn2, g2, a2, c2, f2, rfl, hl2, hL2, hF2, hb2⟩; have hB2 : Below W0.heap.size W0 w3 := hB1.trans (hb2.mono hB1.size); have hB2' : Below (w.heap.size + 1 + 1) W0 w3 := hB2.mono (by omega); have hL1b : L1 w3 g1 a1 c1 f1 m1 := hL1.later hb2)
        | (go_at_call 17; refine (mul2_any g1 g2 a1 a2 c1 c2 f1 f2 m1 m2 e1 e2 _ (by omega) (by omega) (by have := hn1.bound; have := hn2.bound; omega) (by have := hn1.bound; have := hn2.bound; omega) (by first | exact hL1b | exact hL1b.later (bel0 _ _)) (by first | exact hL2 | exact hL2.later (bel0 _ _))).mono ?_; rintro e w4 ⟨m3, e3, hn3, g3, a3, c3, f3, rfl, hl3, hL3, hF3, hb3⟩; have hB3 : Below W0.heap.size W0 w4 := hB2.trans (hb3.mono hB2.size); have hB3' : Below (w.heap.size + 1 + 1) W0 w4 := hB3.mono (by omega); have hbd3 : -100000 ≤ e3 ∧ e3 ≤ 1000000 := (by have := hn1.bound; have := hn2.bound; have := hn3.bound; omega); have HVV : atK 100000 m3 e3 = v := (by rw [HV.out, ← atK_prod hn1 hn2 (by omega)]; exact hn3.at (by have := hn1.bound; have := hn2.bound; omega)))
        | (go_at_call 16; refine (out2_any g3 a3 c3 f3 m3 e3 _ (by omega) hbd3.1 hbd3.2 hL3).mono ?_; rintro e w5 ⟨G, Z, E5, K, a5, c5, rfl, hres, hr5, hf5, hb5⟩; rw [HVV] at hres; have hB5 : Below W0.heap.size W0 w5 := hB3.trans (hb5.mono hB3.size); have hB5' : Below (w.heap.size + 1 + 1) W0 w5 := hB5.mono (by omega); have F5 : Hid (Bx7 w (.bool g) (.slice a zs.length c) (.int .i64 E) (.bool g') (.slice a' ys.length c') (.int .i64 E') w5) := F.out.later hB5; have r1 := F5.out.r1; have r2 := F5.out.r2; have r3 := F5.out.r3; have r4 := F5.out.r4; have HF5 : Far W0.heap.size a5 Z := Far.down hf5 hB3.size))
  all_goals
    have HR : Hid (ResD true v G Z E5 K) := hres
    have HA : Hid (RowAt .u32 w5 a5 Z) := hr5
    have HF : Hid (Far (w.heap.size + 1 + 1 + 1) a5 Z) := HF5.down zz
    clear hres hr5 hf5 HF5 hB1 hB1' hB2 hB2' hB3 hB3' hB5 hB5' hb1 hb2 hb3 hb5 hL1 hL1b hL2 hL3 hF1 hF2 hF3
    go_wp2
    refine bodyPost_ret (v := .tuple #[.agg #[.bool G, .slice a5 Z.length c5, .int .i64 E5], .int .i64 K]) (by simp [results, Tryd.results6, go_sem, r1, r2, r3]) rfl ?_
    refine ⟨G, Z, E5, K, a5, c5, rfl, HR.out, ?_, HF.out.down (by omega), ?_⟩
    · exact ((HA.out.setAway (HF.out.away (by simp)) _).setAway (HF.out.away (by simp)) _).setAway (HF.out.away (by simp)) _
    · exact ((F5.out.bel.setCell (by simp; omega) _).setCell (by simp; omega) _).setCell (by simp; omega) _

theorem mulDS_any (g g' : Bool) (a a' : Option Addr) (c c' : Nat) (zs ys : List Int) (E E' : Int) (w : World) (hn : zs.length ≤ 1048576) (hn' : ys.length ≤ 1048576) (hz : RowAt .u32 w a zs) (hy : RowAt .u32 w a' ys) (hu : U32 zs) (hu' : U32 ys) :
    Calls Tryd.prog 6 #[.agg #[.bool g, .slice a zs.length c, .int .i64 E], .agg #[.bool g', .slice a' ys.length c', .int .i64 E']] w fun e w' => OutDS w (validD g zs E && validD g' ys E') (atK 100000 ((sg g (val 4294967296 zs)) * (sg g' (val 4294967296 ys))) (E + E')) e w' := by
  cases v1 : validD g zs E
  · exact mulDS_bad1 g g' a a' c c' zs ys E E' _ w hn hz v1
  · cases v2 : validD g' ys E'
    · exact mulDS_bad2 g g' a a' c c' zs ys E E' _ w hn hn' hz hy v1 v2
    · exact mulDS_ok g g' a a' c c' zs ys E E' _ w hz hy hu hu' v1 v2 rfl

end Go.Proofs.YtfgpknglgbpebadDoor
