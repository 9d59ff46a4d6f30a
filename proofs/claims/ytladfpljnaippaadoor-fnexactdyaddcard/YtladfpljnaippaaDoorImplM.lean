/-
  The program's products.
-/
import Derived.Test.YtladfpljnaippaaDoorImplC0NumXImplS
import Derived.Test.YtladfpljnaippaaDoorDyI5DyI6aNumM
import Derived.Test.YtladfpljnaippaaDoorRes
namespace Go.Proofs.YtladfpljnaippaaDoor
open Go.RowKit

set_option maxHeartbeats 4000000 in
theorem times_any (a a' : Option Addr) (p p' : Nat) (zs ys : List Int) (w : World) (hn : zs.length ≤ 100000) (hn' : ys.length ≤ 100000) (hz : RowAt .u32 w a zs) (hy : RowAt .u32 w a' ys) (hdz : Dig 4294967296 zs) (hdy : Dig 4294967296 ys) :
    Calls Tryd.prog 85 #[.slice a zs.length p, .slice a' ys.length p'] w fun e w' => MagOut w (val 4294967296 zs * val 4294967296 ys) (zs.length + ys.length) e w' := by
  have hmk := run_make_row' (P := Tryd.prog) 55 22 (.int .u32 0) 4 Tryd.underlying55 Tryd.info22 rfl .i64 .i64 (zs.length + ys.length) (by omega) (by omega)
  rw [show ((zs.length + ys.length : Nat) : Int) = (zs.length : Int) + (ys.length : Int) by omega] at hmk
  go_enter Tryd.func85, Tryd.ntmps85
  go_wp2
  go_loopw [19] (fun t wr => ∃ (i : Nat) (P : List Int), i ≤ zs.length ∧ t = .int .i64 i ∧ Hid (Prod 4294967296 zs ys (zs.length + ys.length) i P) ∧ Own .u32 wr w.heap.size 0 P ∧ Below w.heap.size w wr) (fun t _ => zs.length - (intOf t).toNat)
  case atStart => exact ⟨0, List.replicate (zs.length + ys.length) 0, Nat.zero_le _, rfl, prod_start _ (by decide) _ _ _, Own.made w (zs.length + ys.length) _, bel0 _ _⟩
  case round =>
    obtain ⟨i, P, hi, rfl, hP, hown, hnx⟩ := hrel
    by_cases hlt : i < zs.length
    · have hb1 := hdz.at (by decide) i
      obtain ⟨b, off, rfl, g1⟩ := row_cell hz hnx hlt
      obtain ⟨x, hx⟩ : ∃ x, x = zs.getD i 0 := ⟨_, rfl⟩
      rw [← hx] at hb1 g1
      obtain ⟨hb10, hb11⟩ := hb1
      have HX : Hid (x = zs.getD i 0) := hx
      have hPl : P.length = zs.length + ys.length := hP.out.len
      have HPl : Hid (P.length = zs.length + ys.length) := hPl
      have HO : Hid (Own .u32 wr w.heap.size 0 P) := hown
      have HN : Hid (Below w.heap.size w wr) := hnx
      clear hx hPl hown hnx
      go_wp2
      go_loopw [8, 26] (fun cc t wq => ∃ (j : Nat) (c : Int) (D : List Int), j ≤ ys.length ∧ D.length = j ∧ t = .int .i64 j ∧ cc = .int .u64 c ∧ 0 ≤ c ∧ c ≤ 4294967295 ∧ Hid (carryD 4294967296 (mulsL x ys (P.drop i)) 0 = D ++ carryD 4294967296 (mulsL x (ys.drop j) ((P.drop i).drop j)) c) ∧ Hid (carryO 4294967296 (mulsL x ys (P.drop i)) 0 = carryO 4294967296 (mulsL x (ys.drop j) ((P.drop i).drop j)) c) ∧
          Own .u32 wq w.heap.size 0 (P.take i ++ (D ++ P.drop (i + j))) ∧ Below w.heap.size w wq) (fun _ t _ => ys.length - (intOf t).toNat)
      case atStart => exact ⟨0, 0, [], Nat.zero_le _, rfl, rfl, rfl, by decide, by decide, rfl, rfl, by simpa using HO.out, HN.out⟩
      case round =>
        obtain ⟨j, c, D, hj, hDl, rfl, rfl, hc0, hc1, hD, hO, hown, hnx⟩ := hrel
        by_cases hlt2 : j < ys.length
        · have hb2 := hdy.at (by decide) j
          obtain ⟨b', off', rfl, g2⟩ := row_cell hy hnx hlt2
          obtain ⟨y, hyy⟩ : ∃ y, y = ys.getD j 0 := ⟨_, rfl⟩
          rw [← hyy] at hb2 g2
          obtain ⟨hb20, hb21⟩ := hb2
          have hij : i + j < P.length := by rw [HPl.out]; omega
          have hbm := hP.out.dig.at (by decide) (i + j)
          have g3 := hown.cell (i + j) (by rw [mid_length hDl (by omega)]; exact hij)
          have g4 := hown.free (i + j) (by rw [mid_length hDl (by omega)]; exact hij)
          rw [Nat.zero_add] at g3 g4
          rw [mid_get (Nat.le_refl _) hDl (by omega)] at g3
          obtain ⟨m, hm⟩ : ∃ m, m = P.getD (i + j) 0 := ⟨_, rfl⟩
          rw [← hm] at hbm g3
          obtain ⟨hbm0, hbm1⟩ := hbm
          obtain ⟨hxy0, hxy1⟩ := mul_bound hb10 hb11 hb20 hb21
          simp only [Int.reduceSub, Int.reduceMul] at hxy1
          have hcb := carry_bound (B := 4294967296) (s := c + (x * y + m)) (by decide) (by omega) (by simp only [Int.reduceSub, Int.reduceMul]; omega)
          have hst := mul_step (B := 4294967296) (x := x) (c := c) (s := c + (x * y + m)) (ms := P.drop i) hlt2 (by rw [← hyy, List.getD_eq_getElem?_getD, List.getElem?_drop, ← List.getD_eq_getElem?_getD, ← hm]; omega)
          have HD : Hid (carryD 4294967296 (mulsL x ys (P.drop i)) 0 = (D ++ [(c + (x * y + m)) % 4294967296]) ++ carryD 4294967296 (mulsL x (ys.drop (j + 1)) ((P.drop i).drop (j + 1))) ((c + (x * y + m)) / 4294967296)) := by unfold Hid; rw [hD.out, hst.1]; simp
          have HQ : Hid (carryO 4294967296 (mulsL x ys (P.drop i)) 0 = carryO 4294967296 (mulsL x (ys.drop (j + 1)) ((P.drop i).drop (j + 1))) ((c + (x * y + m)) / 4294967296)) := by unfold Hid; rw [hO.out, hst.2]
          have hs := hown.set (i + j) ((c + (x * y + m)) % 4294967296) (by rw [mid_length hDl (by omega)]; exact hij)
          rw [Nat.zero_add, mid_set hDl hij] at hs
          have HS : Hid (Own .u32 (wr.setCell ⟨w.heap.size, i + j, none⟩ (.int .u32 ((c + (x * y + m)) % 4294967296))) w.heap.size 0 (P.take i ++ ((D ++ [(c + (x * y + m)) % 4294967296]) ++ P.drop (i + j + 1)))) := hs
          have HB : Hid (Below w.heap.size w (wr.setCell ⟨w.heap.size, i + j, none⟩ (.int .u32 ((c + (x * y + m)) % 4294967296)))) := hnx.setCell (Nat.le_refl _) _
          obtain ⟨hcb0, hcb1⟩ := hcb
          have HCB : Hid (0 ≤ (c + (x * y + m)) / 4294967296 ∧ (c + (x * y + m)) / 4294967296 ≤ 4294967295) := ⟨hcb0, by omega⟩
          have HJ : Hid (i + j < zs.length + ys.length) := by unfold Hid; omega
          have hji : (i : Int) + (j : Int) < (zs.length : Int) + (ys.length : Int) := by omega
          clear hcb0 hcb1 hst hs hyy hm hD hO hown hnx hij HN HO
          go_wp2
          go_roundw
          case rel => exact ⟨j + 1, (c + (x * y + m)) / 4294967296, D ++ [(c + (x * y + m)) % 4294967296], by omega, by simp; omega, by go_num, rfl, HCB.out.1, HCB.out.2, HD, HQ, HS.out, HB.out⟩
          case measure => simp [intOf]; omega
        · have hjn : j = ys.length := by omega
          subst hjn
          have hin : i + ys.length < P.length := by rw [HPl.out]; omega
          have hDD : D = carryD 4294967296 (mulsL x ys (P.drop i)) 0 := by
            rw [hD.out, List.drop_eq_nil_of_le (Nat.le_refl _)]; simp [mulsL, carryD]
          have hCC : c = carryO 4294967296 (mulsL x ys (P.drop i)) 0 := by
            rw [hO.out, List.drop_eq_nil_of_le (Nat.le_refl _)]; simp [mulsL, carryO]
          have HP2 : Hid (Prod 4294967296 zs ys (zs.length + ys.length) (i + 1) (P.take i ++ ((D ++ [c]) ++ P.drop (i + ys.length + 1)))) := prod_step (by decide) hP.out hlt (by omega) HX.out hDD hCC hc0 (by omega)
          have g3 := hown.cell (i + ys.length) (by rw [mid_length hDl (by omega)]; exact hin)
          have g4 := hown.free (i + ys.length) (by rw [mid_length hDl (by omega)]; exact hin)
          rw [Nat.zero_add] at g3 g4
          have hs := hown.set (i + ys.length) c (by rw [mid_length hDl (by omega)]; exact hin)
          rw [Nat.zero_add, mid_set hDl hin] at hs
          have HS : Hid (Own .u32 (wr.setCell ⟨w.heap.size, i + ys.length, none⟩ (.int .u32 c)) w.heap.size 0 (P.take i ++ ((D ++ [c]) ++ P.drop (i + ys.length + 1)))) := hs
          have HB : Hid (Below w.heap.size w (wr.setCell ⟨w.heap.size, i + ys.length, none⟩ (.int .u32 c))) := hnx.setCell (Nat.le_refl _) _
          have hji : (i : Int) + (ys.length : Int) < (zs.length : Int) + (ys.length : Int) := by omega
          clear hs hDD hCC hD hO hown hnx hin HN HO hP
          go_wp2
          go_roundw
          case rel => exact ⟨i + 1, P.take i ++ ((D ++ [c]) ++ P.drop (i + ys.length + 1)), by omega, by go_num, HP2, HS.out, HB.out⟩
          case measure => simp [intOf]; omega
    · have hin : i = zs.length := by omega
      subst hin
      have hPl : P.length = zs.length + ys.length := hP.out.len
      have hV : val 4294967296 P = val 4294967296 zs * val 4294967296 ys := by rw [hP.out.eq, List.take_length]
      have HV : Hid (val 4294967296 P = val 4294967296 zs * val 4294967296 ys) := hV
      have HG : Hid (Dig 4294967296 P) := hP.out.dig
      have HL : Hid (P.length = zs.length + ys.length) := hPl
      have HS : Hid (Own .u32 wr w.heap.size 0 P) := hown
      have HB : Hid (Below w.heap.size w wr) := hnx
      clear hV hPl hP hown hnx hz hy hdz hdy
      go_wp2_with fail
      have e1 : zs.length + ys.length = P.length := HL.out.symm
      rw [e1]
      refine (trimmed_any _ _ P _ w.heap.size (by omega) (by unfold maxLen; omega) (Nat.le_refl _) (fun h => by cases h) (HS.out.new (Nat.le_refl _))).mono ?_
      rintro e w1 ⟨a2, c2, rfl, hf2, hm2, hr2, hw⟩
      subst hw
      have HM : Hid (MagOut w (val 4294967296 zs * val 4294967296 ys) (zs.length + ys.length) (.returned (.slice a2 (trimL P).length c2)) w1) := by
        refine ⟨a2, c2, trimL P, rfl, hf2, hm2, canon_trim HG.out, by rw [val_trim, HV.out], ?_, hr2, HB.out⟩
        have := trim_le P
        omega
      clear hf2 hm2 hr2 HG HV HB HS e1
      go_wp2
      go_ret
      exact HM.out

theorem sg_mul (g g' : Bool) (u v : Int) : sg (g != g') (u * v) = sg g u * sg g' v := by
  cases g <;> cases g' <;> simp [sg, Int.neg_mul, Int.mul_neg]

set_option maxHeartbeats 4000000 in
theorem productOf_any (g g' : Bool) (a a' : Option Addr) (c c' : Nat) (zs ys : List Int) (x y : Int) (w : World) (hn : zs.length ≤ 100000) (hn' : ys.length ≤ 100000) (hz : RowAt .u32 w a zs) (hy : RowAt .u32 w a' ys) (h : B1 g zs x) (h' : B1 g' ys y) :
    Calls Tryd.prog 76 #[.agg #[.bool g, .slice a zs.length c], .agg #[.bool g', .slice a' ys.length c']] w fun e w' => BigOut w (x * y) (zs.length + ys.length + 1) e w' := by
  have HX : Hid (sg (g != g') (val 4294967296 zs * val 4294967296 ys) = x * y) := by
    unfold Hid
    rw [sg_mul, h.num, h'.num]
  have hdz := h.can.1
  have hdy := h'.can.1
  clear h h'
  go_enter Tryd.func76, Tryd.ntmps76
  go_wp2
  obtain ⟨W0, hW0⟩ : ∃ W0, W0 = (((w.alloc (.cells #[.bool g, .slice a zs.length c] 25)).alloc (.cells #[.bool g', .slice a' ys.length c'] 25)).alloc (.cells #[.bool false, .slice none 0 0] 25)) := ⟨_, rfl⟩
  rw [← hW0]
  have F : Hid (AddF w g g' (.slice a zs.length c) (.slice a' ys.length c') (.slice none 0 0) W0) := by rw [hW0]; exact AddF.start w g g' _ _ _ _ _ _
  clear hW0
  go_region_held3 (fun w' => w'.cell? ⟨w.heap.size, 0, none⟩ = some (.bool g) ∧ w'.cell? ⟨w.heap.size, 1, none⟩ = some (.slice a zs.length c) ∧ w'.cell? ⟨w.heap.size + 1, 0, none⟩ = some (.bool g') ∧ w'.cell? ⟨w.heap.size + 1, 1, none⟩ = some (.slice a' ys.length c') ∧ Below (w.heap.size + 1 + 1) W0 w')
    (first | exact addS_of F.out.s (Below.refl _ _).drew | exact addS_of F.out.s (by assumption) | exact addS_of F.out.s (Below.setCell (Below.setCell (by assumption) (by simp) _) (by simp) _))
    (first
      | (go_at_call 85; refine (times_any a a' c c' zs ys _ hn hn' (hz.later F.out.bel.drew) (hy.later F.out.bel.drew) hdz hdy).mono ?_; rintro e w1 ⟨a2, c2, fs, rfl, hf2, hm2, hcan, hval, hlen, hrn1, hb1⟩; have hB1 : Below W0.heap.size W0 w1 := (Below.refl _ _).drew.trans hb1; have hB1' : Below (w.heap.size + 1 + 1) W0 w1 := hB1.mono (by have := F.out.le; omega))
      | (go_at_call 28; refine (signed_any _ a2 fs.length c2 _).mono ?_; rintro e w2 ⟨rfl, hb2⟩; have hB2 : Below W0.heap.size W0 w2 := hB1.trans (hb2.mono hB1.size); have hB2' : Below (w.heap.size + 1 + 1) W0 w2 := hB2.mono (by have := F.out.le; omega); have hrn2 : RowNew .u32 w2 W0.heap.size a2 fs := RowNew.later hrn1 hb2; have F2 : Hid (AddF w g g' (.slice a zs.length c) (.slice a' ys.length c') (.slice none 0 0) w2) := F.out.later hB2; have r1 := F2.out.r1; have r2 := F2.out.r2; have r3 := F2.out.r3))
  have HR : Hid (RowNew .u32 w2 W0.heap.size a2 fs) := hrn2
  have HB : Hid (B1 (!(g == g') && decide (0 < fs.length)) fs (x * y)) := by unfold Hid; rw [← HX.out]; exact B1.of_signed (g := (g != g')) hcan hval
  clear hrn1 hrn2 hB1 hB1' hB2 hB2' hb1 hb2 hcan hval
  generalize (!(g == g') && decide (0 < fs.length)) = g2 at *
  go_wp2
  refine bodyPost_ret (v := .agg #[.bool g2, .slice a2 fs.length c2]) (by simp [results, Tryd.results76, go_sem, r1, r2]) rfl ?_
  have hle := F.out.le
  refine ⟨g2, a2, c2, fs, rfl, HB.out, by omega, ?_, ?_⟩
  · exact ((HR.out.setLow (by simp; omega) _).setLow (by simp; omega) _).down (by omega)
  · exact (F2.out.bel.setCell (by simp; omega) _).setCell (by simp; omega) _

end Go.Proofs.YtladfpljnaippaaDoor
