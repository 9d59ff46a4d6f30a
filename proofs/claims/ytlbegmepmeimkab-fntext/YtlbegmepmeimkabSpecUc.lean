/-
  The model's BigText, with what its answer's slice can hold.
-/
import Derived.Test.YtlbegmepmeimkabSpecU
namespace Go.Proofs.Ytlbegmepmeimkab
open Go.RowKit

def OutTc (w : World) (g : Bool) (zs : List Int) (e : Ending) (w' : World) : Prop :=
  ∃ (ts : List Int) (K : Int) (a : Option Addr) (c : Nat), e = .returned (.tuple #[.slice a ts.length c, .int .i64 K]) ∧ ResT g zs ts K ∧ (ts.length ≤ c ∧ c ≤ maxLen) ∧ RowNew .u8 w' w.heap.size a ts ∧ Below w.heap.size w w'

set_option maxHeartbeats 2000000 in
theorem textSc_bad (g : Bool) (a : Option Addr) (c : Nat) (zs : List Int) (w : World) (hn : zs.length ≤ maxLen) (hz : RowAt .u32 w a zs) (hv : validB g zs = false) :
    Calls Try.prog 53 #[.agg #[.bool g, .slice a zs.length c]] w fun e w' => OutTc w g zs e w' := by
  go_enter Try.func53, Try.ntmps53
  go_wp2_with fail
  refine (validS_any _ _ _ _ _ hn (hz.later (bel0 _ _))).mono ?_
  rintro e w1 ⟨rfl, hb⟩
  have HB : Hid (Below w.heap.size w w1) := (bel0 _ _).trans (hb.mono (by simp))
  have HV : Hid (validB g zs = false) := hv
  rw [hv]
  clear hb hv
  go_wp2
  refine bodyPost_ret (v := .tuple #[.slice none 0 0, .int .i64 1]) (by simp [results, Try.results53, go_sem]) rfl ?_
  exact ⟨[], 1, none, 0, rfl, .inl ⟨HV.out, rfl, rfl⟩, ⟨Nat.le_refl _, by unfold maxLen; omega⟩, .inl rfl, HB.out⟩

set_option maxHeartbeats 4000000 in
theorem textSc_good (g : Bool) (a : Option Addr) (c : Nat) (zs : List Int) (w : World) (hn : zs.length ≤ 512) (hz : RowAt .u32 w a zs) (hu : Dig 4294967296 zs) (hv : validB g zs = true) :
    Calls Try.prog 53 #[.agg #[.bool g, .slice a zs.length c]] w fun e w' => OutTc w g zs e w' := by
  go_enter Try.func53, Try.ntmps53
  go_wp2_with fail
  refine (validS_any _ _ _ _ _ (by unfold maxLen; omega) (hz.later (bel0 _ _))).mono ?_
  rintro e w1 ⟨rfl, hb⟩
  have HB : Hid (Below w.heap.size w w1) := (bel0 _ _).trans (hb.mono (by simp))
  have q0 : w1.cell? ⟨w.heap.size, 0, none⟩ = some (.bool g) := by rw [(bcell hb).1 _ _ (by simp)]; simp [go_sem]
  have q1 : w1.cell? ⟨w.heap.size, 1, none⟩ = some (.slice a zs.length c) := by rw [(bcell hb).1 _ _ (by simp)]; simp [go_sem]
  have z1 : w.heap.size < w1.heap.size := by have := hb.size; simp at this; omega
  have HV : Hid (validB g zs = true) := hv
  rw [hv]
  clear hb hv
  go_wp2_with fail
  refine (of_any g a c zs _ (by omega) (hz.later HB.out) hu).mono ?_
  rintro e W2 ⟨g2, a2, c2, ds, rfl, hdl, hl1, hb2⟩
  have hX : val 4294967296 zs = val 65536 ds := sg_inj (g := g) (g' := g2) (by have := hl1.num; unfold sg at this; exact this) (val_nonneg (by decide) hu) (val_nonneg (by decide) hl1.can.1)
  have HX : Hid (val 4294967296 zs = val 65536 ds) := hX
  have HF : Hid (val 65536 ds < (10 ^ 5000 : Nat)) := by
    unfold Hid
    rw [← hX]
    exact val_fits hu hn
  have q2 : W2.cell? ⟨w.heap.size, 0, none⟩ = some (.bool g) := by rw [(bcell hb2).1 _ _ z1]; exact q0
  have z2 : w.heap.size < W2.heap.size := by have := hb2.size; omega
  have HB2 : Hid (Below w.heap.size w (W2.alloc (.cells #[.bool g2, .slice a2 ds.length c2] 55))) := (HB.out.trans (hb2.mono (by omega))).trans ((bel0 _ _).mono (by omega))
  have HR : Hid (RowAt .i64 (W2.alloc (.cells #[.bool g2, .slice a2 ds.length c2] 55)) a2 ds) := hl1.sl.row.later (bel0 _ _)
  have HC : Hid (Canon 65536 ds) := hl1.can
  clear hX hb2 hl1 q0 q1 HB hz hu
  by_cases h0 : ds.length = 0
  · have e0 : ((ds.length : Int) == 0) = true := by rw [beq_iff_eq]; omega
    have hds : ds = [] := List.length_eq_zero_iff.1 h0
    have HT : Hid (textL g (val 4294967296 zs) = [48]) := by unfold Hid; rw [HX.out, hds]; rfl
    subst hds
    clear h0
    go_wp2
    refine bodyPost_ret (v := .tuple #[.slice (some ⟨W2.heap.size + 1, 0, none⟩) 1 1, .int .i64 0]) (by simp [results, Try.results53, go_sem]) rfl ?_
    refine ⟨[48], 0, some ⟨W2.heap.size + 1, 0, none⟩, 1, rfl, .inr ⟨HV.out, HT.out.symm, rfl⟩, ⟨Nat.le_refl _, by unfold maxLen; omega⟩, ?_, HB2.out.trans ((bel0 _ _).mono (by simp; omega))⟩
    have := one_new (k := .u8) (W2.alloc (.cells #[.bool g2, .slice a2 0 c2] 55)) 48 5 (B := w.heap.size) (by simp; omega)
    simpa using this
  · have e0 : ((ds.length : Int) == 0) = false := by rw [beq_eq_false_iff_ne]; omega
    have hne : 0 < ds.length := by omega
    clear h0
    have hdl2 : ds.length ≤ 1024 := by omega
    have HN : Hid ((decs (val 65536 ds)).length ≤ 5000) := decs_length HF.out
    go_wp2
    go_loopw [5, 6, 7, 8] (fun b d _ _ wr => ∃ (out : List Int) (ab : Option Addr) (cb : Nat) (es : List Int) (ad : Option Addr) (cd : Nat), b = .slice ab out.length cb ∧ d = .slice ad es.length cd ∧ es.length ≤ 1024 ∧ out.length ≤ 5000 ∧ Hid (Canon 65536 es ∧ decs (val 65536 ds) = out ++ decs (val 65536 es)) ∧ Hid (wr.ownsRow (W2.heap.size + 1) 5 1 (.slice ab out.length cb) out.length (vals .u8 out)) ∧ Hid (RowAt .i64 wr ad es ∧ Off (.slice ab out.length cb) ad es) ∧ Hid (Below (W2.heap.size + 1) (W2.alloc (.cells #[.bool g2, .slice a2 ds.length c2] 55)) wr)) (fun b _ _ _ _ => (decs (val 65536 ds)).length - lenV b)
    case atStart => exact ⟨[], none, 0, ds, a2, c2, rfl, rfl, hdl2, by simp, ⟨HC.out, by simp⟩, own_nil _ _ _ _, ⟨HR.out, Off.none _ _ _ _⟩, Below.refl _ _⟩
    case round =>
      obtain ⟨out, ab, cb, es, ad, cd, rfl, rfl, hel, hol, hes, hown, hrow, hbel⟩ := hrel
      by_cases hlt : 0 < es.length
      · have hp := val_pos (by decide) hes.out.1 (by intro h; subst h; simp at hlt)
        have HST := decs_step hp
        have HST2 : Hid (decs (val 65536 ds) = (out ++ [48 + val 65536 es % 10]) ++ decs (val 65536 es / 10)) := by unfold Hid; rw [hes.out.2, HST]; simp
        have hol2 : out.length + 1 ≤ (decs (val 65536 ds)).length := by rw [HST2.out]; simp
        have hol3 : out.length + 1 ≤ 5000 := Nat.le_trans hol2 HN.out
        have HOL : Hid (out.length + 1 ≤ (decs (val 65536 ds)).length) := hol2
        clear HST hol2
        go_wp2_with fail
        refine (tenth_any ad cd es wr (by omega) hrow.out.1 hes.out.1.1).mono ?_
        rintro e w4 ⟨a4, c4, qs, hqs, rfl, hrn, hb4⟩
        have HQ : Hid (Canon 65536 qs ∧ val 65536 qs = val 65536 es / 10 ∧ qs.length ≤ es.length) := tenth_val hes.out.1 hqs
        have hql : qs.length ≤ 1024 := Nat.le_trans HQ.out.2.2 hel
        have hown4 := own_later hown.out hb4
        have HOFF : Hid (Off (.slice ab out.length cb) a4 qs) := Off.new hown.out hrn
        have HRQ : Hid (RowAt .i64 w4 a4 qs) := hrn.row
        have HB4 : Hid (Below (W2.heap.size + 1) (W2.alloc (.cells #[.bool g2, .slice a2 ds.length c2] 55)) w4) := hbel.out.trans (hb4.mono (by have := hbel.out.size; simp at this; omega))
        have hsz : W2.heap.size + 1 ≤ w4.heap.size := by have := HB4.out.size; simp at this; omega
        obtain ⟨r, hr⟩ : ∃ r, r = val 65536 es % 10 := ⟨_, rfl⟩
        have hr0 : 0 ≤ r := by omega
        have hr1 : r < 10 := by omega
        have HST3 : Hid (decs (val 65536 ds) = (out ++ [48 + r]) ++ decs (val 65536 qs)) := by unfold Hid; rw [HST2.out, hr, HQ.out.2.1]
        rw [← hr]
        clear hr hp hqs hrn hb4 HST2
        go_wp2_with (at_builtin; refine app2 rfl (.tmp 31) (.tmp 35) 33 rfl (W2.heap.size + 1) 5 Try.underlying33 Try.info5 (by decide) _ out rfl rfl hown4 (by omega) hsz ?_; intro a1 n1 c1 w5 hown1 hb5 hs5 hk5 hv5)
        obtain ⟨a6, c6, he6, _, _, _⟩ := own_row hown1
        injection he6 with e1 e2 e3
        subst e1 e2 e3
        have hst := HOFF.out.stay HRQ.out (Nat.le_of_lt hs5) hk5 hv5
        go_roundw
        case rel => exact ⟨out ++ [48 + r], a1, c1, qs, a4, c4, rfl, rfl, hql, by simp; omega, ⟨HQ.out.1, HST3.out⟩, hown1, hst, HB4.out.trans hb5⟩
        case measure => have := HOL.out; simp [lenV]; omega
      · have hnil : es = [] := List.length_eq_zero_iff.1 (by omega)
        cases g with
        | true =>
          have HX0 : Hid (val 65536 ds ≠ 0) := by unfold Hid; have := val_pos (by decide) HC.out (by intro h; subst h; simp at hne); omega
          have HOUT : Hid (out = decs (val 65536 ds)) := by unfold Hid; rw [hes.out.2]; simp [hnil, val, decs_none]
          have HW : Hid (Below w.heap.size w wr) := HB2.out.trans (hbel.out.mono (by omega))
          have q5 : wr.cell? ⟨w.heap.size, 0, none⟩ = some (.bool true) := by rw [hbel.out.cell (by simp; omega), World.cell?_alloc_past _ _ _ z2]; exact q2
          have hsz : W2.heap.size + 1 ≤ wr.heap.size := by have := hbel.out.size; simp at this; omega
          have hown4 := hown.out
          go_wp2_with (at_builtin; refine app2 rfl (.tmp 40) (.tmp 41) 33 rfl (W2.heap.size + 1) 5 Try.underlying33 Try.info5 (by decide) _ out rfl rfl hown4 (by omega) hsz ?_; intro abk n1 cbk WB hown1 hb5 hs5 _ _)
          obtain ⟨a6, c6, he6, _, _, hrn6⟩ := own_row hown1
          injection he6 with e1 e2 e3
          subst e1 e2 e3
          obtain ⟨bk, hbk⟩ : ∃ bk, bk = out ++ [45] := ⟨_, rfl⟩
          rw [← hbk] at hrn6 ⊢
          have HBK : Hid (RowAt .u8 WB abk bk) := hrn6.row
          have HBL : Hid (bk.length ≤ 5001) := by unfold Hid; rw [hbk]; simp; omega
          have HTX : Hid (textL true (val 4294967296 zs) = bk.reverse) := by unfold Hid textL; rw [HX.out, if_neg HX0.out, hbk, HOUT.out]; rfl
          have HWB : Hid (Below w.heap.size w WB) := HW.out.trans (hb5.mono (by omega))
          have HZB : Hid (w.heap.size ≤ WB.heap.size) := HWB.out.size
          clear hrn6 hown1 hb5 hs5 hbk q5
          have hbl : bk.length ≤ 5001 := HBL.out
          go_loopw [9, 10] (fun o i wr => ∃ (k : Nat) (ou : List Int) (ao : Option Addr) (co : Nat), k ≤ bk.length ∧ i = .int .i64 ((k : Int) - 1) ∧ o = .slice ao ou.length co ∧ ou.length ≤ 5001 ∧ Hid (ou = (bk.drop k).reverse) ∧ Hid (wr.ownsRow WB.heap.size 5 1 (.slice ao ou.length co) ou.length (vals .u8 ou)) ∧ Hid (RowAt .u8 wr abk bk ∧ Off (.slice ao ou.length co) abk bk) ∧ Hid (Below WB.heap.size WB wr)) (fun _ i _ => (intOf i + 1).toNat)
          case atStart => exact ⟨bk.length, [], none, 0, Nat.le_refl _, by first | rfl | (simp only [wrap64]; congr 1; omega), rfl, by simp, by unfold Hid; simp, own_nil _ _ _ _, ⟨HBK.out, Off.none _ _ _ _⟩, Below.refl _ _⟩
          case round =>
            obtain ⟨k, ou, ao, co, hk, rfl, rfl, hoL, hou, howo, hro, hbo⟩ := hrel
            by_cases hk0 : 0 < k
            · obtain ⟨j, rfl⟩ : ∃ j, k = j + 1 := ⟨k - 1, by omega⟩
              obtain ⟨bb, offb, rfl, gq⟩ := row_cell hro.out.1 (Below.refl _ _) (show j < bk.length by omega)
              obtain ⟨x, hx⟩ : ∃ x, x = bk.getD j 0 := ⟨_, rfl⟩
              rw [← hx] at gq
              have HO2 : Hid (ou ++ [x] = (bk.drop j).reverse) := by unfold Hid; rw [drop_pred (show j < bk.length by omega), ← hx, hou.out]; simp
              have hoL2 : ou.length + 1 ≤ 5001 := by have := congrArg List.length HO2.out; simp at this; omega
              have ej : ((j + 1 : Nat) : Int) - 1 = j := by omega
              rw [ej]
              have hsq : WB.heap.size ≤ wr.heap.size := hbo.out.size
              have howo2 := howo.out
              clear hx
              go_wp2_with (at_builtin; refine app2 rfl (.tmp 50) (.tmp 55) 33 rfl WB.heap.size 5 Try.underlying33 Try.info5 (by decide) _ ou rfl rfl howo2 (by omega) hsq ?_; intro a8 n8 c8 w8 hown8 hb8 hs8 hk8 hv8)
              obtain ⟨a9, c9, he9, _, _, _⟩ := own_row hown8
              injection he9 with e1 e2 e3
              subst e1 e2 e3
              have hst8 := hro.out.2.stay hro.out.1 (Nat.le_of_lt hs8) hk8 hv8
              go_roundw
              case rel => exact ⟨j, ou ++ [x], a8, c8, by omega, by go_num, rfl, by simpa using hoL2, HO2.out, hown8, hst8, hbo.out.trans hb8⟩
              case measure => simp [intOf]
            · have e : k = 0 := by omega
              subst e
              obtain ⟨a9, c9, he9, hcm9, hsl9, hrn9⟩ := own_row howo.out
              injection he9 with e1 e2 e3
              subst e1 e3
              have HCP : Hid (ou.length ≤ co ∧ co ≤ maxLen) := ⟨hsl9.fits, hcm9⟩
              clear hcm9 hsl9
              have HRN : Hid (RowNew .u8 wr WB.heap.size ao ou) := hrn9
              have HOU : Hid (ou = textL true (val 4294967296 zs)) := by unfold Hid; rw [HTX.out, hou.out]; rfl
              clear hrn9
              go_wp2
              refine bodyPost_ret (v := .tuple #[.slice ao ou.length co, .int .i64 0]) (by simp [results, Try.results53, go_sem]) rfl ?_
              exact ⟨ou, 0, ao, co, rfl, .inr ⟨HV.out, HOU.out, rfl⟩, HCP.out, HRN.out.down HZB.out, HWB.out.trans (hbo.out.mono HZB.out)⟩
        | false =>
          have HX0 : Hid (val 65536 ds ≠ 0) := by unfold Hid; have := val_pos (by decide) HC.out (by intro h; subst h; simp at hne); omega
          have HOUT : Hid (out = decs (val 65536 ds)) := by unfold Hid; rw [hes.out.2]; simp [hnil, val, decs_none]
          have HW : Hid (Below w.heap.size w wr) := HB2.out.trans (hbel.out.mono (by omega))
          have q5 : wr.cell? ⟨w.heap.size, 0, none⟩ = some (.bool false) := by rw [hbel.out.cell (by simp; omega), World.cell?_alloc_past _ _ _ z2]; exact q2
          have hsz : W2.heap.size + 1 ≤ wr.heap.size := by have := hbel.out.size; simp at this; omega
          obtain ⟨a6, c6, he6, _, _, hrn6⟩ := own_row hown.out
          injection he6 with e1 e2 e3
          subst e1 e3
          obtain ⟨bk, hbk⟩ : ∃ bk, bk = out := ⟨_, rfl⟩
          obtain ⟨abk, habk⟩ : ∃ abk, abk = ab := ⟨_, rfl⟩
          obtain ⟨WB, hWB⟩ : ∃ WB, WB = wr := ⟨_, rfl⟩
          have HBK : Hid (RowAt .u8 WB abk bk) := by unfold Hid; rw [hbk, habk, hWB]; exact hrn6.row
          have HBL : Hid (bk.length ≤ 5001) := by unfold Hid; rw [hbk]; omega
          have HTX : Hid (textL false (val 4294967296 zs) = bk.reverse) := by unfold Hid textL; rw [HX.out, if_neg HX0.out, hbk, HOUT.out]; simp
          have HWB : Hid (Below w.heap.size w WB) := by unfold Hid; rw [hWB]; exact HW.out
          have HZB : Hid (w.heap.size ≤ WB.heap.size) := HWB.out.size
          subst hbk habk hWB
          clear hrn6
          go_wp2
          have hbl : bk.length ≤ 5001 := HBL.out
          go_loopw [9, 10] (fun o i wr => ∃ (k : Nat) (ou : List Int) (ao : Option Addr) (co : Nat), k ≤ bk.length ∧ i = .int .i64 ((k : Int) - 1) ∧ o = .slice ao ou.length co ∧ ou.length ≤ 5001 ∧ Hid (ou = (bk.drop k).reverse) ∧ Hid (wr.ownsRow WB.heap.size 5 1 (.slice ao ou.length co) ou.length (vals .u8 ou)) ∧ Hid (RowAt .u8 wr abk bk ∧ Off (.slice ao ou.length co) abk bk) ∧ Hid (Below WB.heap.size WB wr)) (fun _ i _ => (intOf i + 1).toNat)
          case atStart => exact ⟨bk.length, [], none, 0, Nat.le_refl _, by first | rfl | (simp only [wrap64]; congr 1; omega), rfl, by simp, by unfold Hid; simp, own_nil _ _ _ _, ⟨HBK.out, Off.none _ _ _ _⟩, Below.refl _ _⟩
          case round =>
            obtain ⟨k, ou, ao, co, hk, rfl, rfl, hoL, hou, howo, hro, hbo⟩ := hrel
            by_cases hk0 : 0 < k
            · obtain ⟨j, rfl⟩ : ∃ j, k = j + 1 := ⟨k - 1, by omega⟩
              obtain ⟨bb, offb, rfl, gq⟩ := row_cell hro.out.1 (Below.refl _ _) (show j < bk.length by omega)
              obtain ⟨x, hx⟩ : ∃ x, x = bk.getD j 0 := ⟨_, rfl⟩
              rw [← hx] at gq
              have HO2 : Hid (ou ++ [x] = (bk.drop j).reverse) := by unfold Hid; rw [drop_pred (show j < bk.length by omega), ← hx, hou.out]; simp
              have hoL2 : ou.length + 1 ≤ 5001 := by have := congrArg List.length HO2.out; simp at this; omega
              have ej : ((j + 1 : Nat) : Int) - 1 = j := by omega
              rw [ej]
              have hsq : WB.heap.size ≤ wr.heap.size := hbo.out.size
              have howo2 := howo.out
              clear hx
              go_wp2_with (at_builtin; refine app2 rfl (.tmp 50) (.tmp 55) 33 rfl WB.heap.size 5 Try.underlying33 Try.info5 (by decide) _ ou rfl rfl howo2 (by omega) hsq ?_; intro a8 n8 c8 w8 hown8 hb8 hs8 hk8 hv8)
              obtain ⟨a9, c9, he9, _, _, _⟩ := own_row hown8
              injection he9 with e1 e2 e3
              subst e1 e2 e3
              have hst8 := hro.out.2.stay hro.out.1 (Nat.le_of_lt hs8) hk8 hv8
              go_roundw
              case rel => exact ⟨j, ou ++ [x], a8, c8, by omega, by go_num, rfl, by simpa using hoL2, HO2.out, hown8, hst8, hbo.out.trans hb8⟩
              case measure => simp [intOf]
            · have e : k = 0 := by omega
              subst e
              obtain ⟨a9, c9, he9, hcm9, hsl9, hrn9⟩ := own_row howo.out
              injection he9 with e1 e2 e3
              subst e1 e3
              have HCP : Hid (ou.length ≤ co ∧ co ≤ maxLen) := ⟨hsl9.fits, hcm9⟩
              clear hcm9 hsl9
              have HRN : Hid (RowNew .u8 wr WB.heap.size ao ou) := hrn9
              have HOU : Hid (ou = textL false (val 4294967296 zs)) := by unfold Hid; rw [HTX.out, hou.out]; rfl
              clear hrn9
              go_wp2
              refine bodyPost_ret (v := .tuple #[.slice ao ou.length co, .int .i64 0]) (by simp [results, Try.results53, go_sem]) rfl ?_
              exact ⟨ou, 0, ao, co, rfl, .inr ⟨HV.out, HOU.out, rfl⟩, HCP.out, HRN.out.down HZB.out, HWB.out.trans (hbo.out.mono HZB.out)⟩

theorem textSc_any (g : Bool) (a : Option Addr) (c : Nat) (zs : List Int) (w : World) (hn : zs.length ≤ maxLen) (hz : RowAt .u32 w a zs) (hu : Dig 4294967296 zs) :
    Calls Try.prog 53 #[.agg #[.bool g, .slice a zs.length c]] w fun e w' => OutTc w g zs e w' := by
  cases hv : validB g zs with
  | false => exact textSc_bad g a c zs w hn hz hv
  | true =>
    refine textSc_good g a c zs w ?_ hz hu hv
    unfold validB at hv
    by_cases h0 : zs.length = 0
    · omega
    · simp [h0] at hv
      omega

end Go.Proofs.Ytlbegmepmeimkab
