/-
  The model's BigText, with what its answer's slice can hold.
-/
import Derived.Test.YtfgpknglgbpebacSpecU
import Derived.Test.YtfgpknglgbpebacTextLDrawFb
import Derived.Lib.ConvBytes
import Derived.Maps.AppendAt
import Derived.Test.YtfgpknglgbpebacNumG9ImplGImplH
import Derived.Test.YtfgpknglgbpebacWithin
namespace Go.Proofs.Ytfgpknglgbpebac
open Go.RowKit

def OutTc (w : World) (g : Bool) (zs : List Int) (e : Ending) (w' : World) : Prop :=
  ∃ (ts : List Int) (K : Int) (a : Option Addr) (c : Nat), e = .returned (.tuple #[.slice a ts.length c, .int .i64 K]) ∧ ResT g zs ts K ∧ (ts.length ≤ c ∧ c ≤ maxLen) ∧ RowNew .u8 w' w.heap.size a ts ∧ Below w.heap.size w w'

set_option maxHeartbeats 2000000 in
theorem textSc_bad (g : Bool) (a : Option Addr) (c : Nat) (zs : List Int) (w : World) (hn : zs.length ≤ maxLen) (hz : RowAt .u32 w a zs) (hv : validB g zs = false) :
    Calls Try.prog 41 #[.agg #[.bool g, .slice a zs.length c]] w fun e w' => OutTc w g zs e w' := by
  go_enter Try.func41, Try.ntmps41
  go_wp2_with fail
  refine (validS_any _ _ _ _ _ hn (hz.later (bel0 _ _))).mono ?_
  rintro e w1 ⟨rfl, hb⟩
  have HB : Hid (Below w.heap.size w w1) := (bel0 _ _).trans (hb.mono (by simp))
  have HV : Hid (validB g zs = false) := hv
  rw [hv]
  clear hb hv
  go_wp2
  refine bodyPost_ret (v := .tuple #[.slice none 0 0, .int .i64 1]) (by simp [results, Try.results41, go_sem]) rfl ?_
  exact ⟨[], 1, none, 0, rfl, .inl ⟨HV.out, rfl, rfl⟩, ⟨Nat.le_refl _, by unfold maxLen; omega⟩, .inl rfl, HB.out⟩

set_option maxHeartbeats 4000000 in
theorem textSc_good (g : Bool) (a : Option Addr) (c : Nat) (zs : List Int) (w : World) (hn : zs.length ≤ 512) (hz : RowAt .u32 w a zs) (hu : Dig 4294967296 zs) (hv : validB g zs = true) :
    Calls Try.prog 41 #[.agg #[.bool g, .slice a zs.length c]] w fun e w' => OutTc w g zs e w' := by
  go_enter Try.func41, Try.ntmps41
  go_wp2_with fail
  refine (validS_any _ _ _ _ _ (by unfold maxLen; omega) (hz.later (bel0 _ _))).mono ?_
  rintro e w1 ⟨rfl, hb⟩
  have HB : Hid (Below w.heap.size w w1) := (bel0 _ _).trans (hb.mono (by simp))
  have q0 : w1.cell? ⟨w.heap.size, 0, none⟩ = some (.bool g) := by rw [(bcell hb).1 _ _ (by simp)]; simp [go_sem]
  have q1 : w1.cell? ⟨w.heap.size, 1, none⟩ = some (.slice a zs.length c) := by rw [(bcell hb).1 _ _ (by simp)]; simp [go_sem]
  have z1 : w.heap.size < w1.heap.size := by have := hb.size; simp at this; omega
  have HV : Hid (validB g zs = true) := hv
  rw [hv]
  clear hb hv
  go_wp2_with fail
  refine (of_any g a c zs _ (by omega) (hz.later HB.out) hu).mono ?_
  rintro e W2 ⟨g2, a2, c2, ds, rfl, hdl, hl1, hb2⟩
  have hX : val 4294967296 zs = val 65536 ds := sg_inj (g := g) (g' := g2) (by have := hl1.num; unfold sg at this; exact this) (val_nonneg (by decide) hu) (val_nonneg (by decide) hl1.can.1)
  have HX : Hid (val 4294967296 zs = val 65536 ds) := hX
  have HF : Hid (val 65536 ds < (10 ^ 5000 : Nat)) := by
    unfold Hid
    rw [← hX]
    exact val_fits hu hn
  have q2 : W2.cell? ⟨w.heap.size, 0, none⟩ = some (.bool g) := by rw [(bcell hb2).1 _ _ z1]; exact q0
  have z2 : w.heap.size < W2.heap.size := by have := hb2.size; omega
  have HB2 : Hid (Below w.heap.size w (W2.alloc (.cells #[.bool g2, .slice a2 ds.length c2] 72))) := (HB.out.trans (hb2.mono (by omega))).trans ((bel0 _ _).mono (by omega))
  have HR : Hid (RowAt .i64 (W2.alloc (.cells #[.bool g2, .slice a2 ds.length c2] 72)) a2 ds) := hl1.sl.row.later (bel0 _ _)
  have HC : Hid (Canon 65536 ds) := hl1.can
  clear hX hb2 hl1 q0 q1 HB hz hu
  by_cases h0 : ds.length = 0
  · have e0 : ((ds.length : Int) == 0) = true := by rw [beq_iff_eq]; omega
    have hds : ds = [] := List.length_eq_zero_iff.1 h0
    have HT : Hid (textL g (val 4294967296 zs) = [48]) := by unfold Hid; rw [HX.out, hds]; rfl
    subst hds
    clear h0
    go_wp2
    refine bodyPost_ret (v := .tuple #[.slice (some ⟨W2.heap.size + 1, 0, none⟩) 1 1, .int .i64 0]) (by simp [results, Try.results41, go_sem]) rfl ?_
    refine ⟨[48], 0, some ⟨W2.heap.size + 1, 0, none⟩, 1, rfl, .inr ⟨HV.out, HT.out.symm, rfl⟩, ⟨Nat.le_refl _, by unfold maxLen; omega⟩, ?_, HB2.out.trans ((bel0 _ _).mono (by simp; omega))⟩
    have := one_new (k := .u8) (W2.alloc (.cells #[.bool g2, .slice a2 0 c2] 72)) 48 5 (B := w.heap.size) (by simp; omega)
    simpa using this
  · have e0 : ((ds.length : Int) == 0) = false := by rw [beq_eq_false_iff_ne]; omega
    have hne : 0 < ds.length := by omega
    clear h0
    have hdl2 : ds.length ≤ 1024 := by omega
    have HN : Hid ((decs (val 65536 ds)).length ≤ 5000) := decs_length HF.out
    go_wp2
    go_loopw [5, 6, 7, 8] (fun b d _ _ wr => ∃ (out : List Int) (ab : Option Addr) (cb : Nat) (es : List Int) (ad : Option Addr) (cd : Nat), b = .slice ab out.length cb ∧ d = .slice ad es.length cd ∧ es.length ≤ 1024 ∧ out.length ≤ 5000 ∧ Hid (Canon 65536 es ∧ decs (val 65536 ds) = out ++ decs (val 65536 es)) ∧ Hid (wr.ownsRow (W2.heap.size + 1) 5 1 (.slice ab out.length cb) out.length (vals .u8 out)) ∧ Hid (RowAt .i64 wr ad es ∧ Off (.slice ab out.length cb) ad es) ∧ Hid (Below (W2.heap.size + 1) (W2.alloc (.cells #[.bool g2, .slice a2 ds.length c2] 72)) wr)) (fun b _ _ _ _ => (decs (val 65536 ds)).length - lenV b)
    case atStart => exact ⟨[], none, 0, ds, a2, c2, rfl, rfl, hdl2, by simp, ⟨HC.out, by simp⟩, own_nil _ _ _ _, ⟨HR.out, Off.none _ _ _ _⟩, Below.refl _ _⟩
    case round =>
      obtain ⟨out, ab, cb, es, ad, cd, rfl, rfl, hel, hol, hes, hown, hrow, hbel⟩ := hrel
      by_cases hlt : 0 < es.length
      · have hp := val_pos (by decide) hes.out.1 (by intro h; subst h; simp at hlt)
        have HST := decs_step hp
        have HST2 : Hid (decs (val 65536 ds) = (out ++ [48 + val 65536 es % 10]) ++ decs (val 65536 es / 10)) := by unfold Hid; rw [hes.out.2, HST]; simp
        have hol2 : out.length + 1 ≤ (decs (val 65536 ds)).length := by rw [HST2.out]; simp
        have hol3 : out.length + 1 ≤ 5000 := Nat.le_trans hol2 HN.out
        have HOL : Hid (out.length + 1 ≤ (decs (val 65536 ds)).length) := hol2
        clear HST hol2
        go_wp2_with fail
        refine (tenth_any ad cd es wr (by omega) hrow.out.1 hes.out.1.1).mono ?_
        rintro e w4 ⟨a4, c4, qs, hqs, rfl, hrn, hb4⟩
        have HQ : Hid (Canon 65536 qs ∧ val 65536 qs = val 65536 es / 10 ∧ qs.length ≤ es.length) := tenth_val hes.out.1 hqs
        have hql : qs.length ≤ 1024 := Nat.le_trans HQ.out.2.2 hel
        have hown4 := own_later hown.out hb4
        have HOFF : Hid (Off (.slice ab out.length cb) a4 qs) := Off.new hown.out hrn
        have HRQ : Hid (RowAt .i64 w4 a4 qs) := hrn.row
        have HB4 : Hid (Below (W2.heap.size + 1) (W2.alloc (.cells #[.bool g2, .slice a2 ds.length c2] 72)) w4) := hbel.out.trans (hb4.mono (by have := hbel.out.size; simp at this; omega))
        have hsz : W2.heap.size + 1 ≤ w4.heap.size := by have := HB4.out.size; simp at this; omega
        obtain ⟨r, hr⟩ : ∃ r, r = val 65536 es % 10 := ⟨_, rfl⟩
        have hr0 : 0 ≤ r := by omega
        have hr1 : r < 10 := by omega
        have HST3 : Hid (decs (val 65536 ds) = (out ++ [48 + r]) ++ decs (val 65536 qs)) := by unfold Hid; rw [HST2.out, hr, HQ.out.2.1]
        rw [← hr]
        clear hr hp hqs hrn hb4 HST2
        go_wp2_with (at_builtin; refine app2 rfl (.tmp 31) (.tmp 35) 22 rfl (W2.heap.size + 1) 5 Try.underlying22 Try.info5 (by decide) _ out rfl rfl hown4 (by omega) hsz ?_; intro a1 n1 c1 w5 hown1 hb5 hs5 hk5 hv5)
        obtain ⟨a6, c6, he6, _, _, _⟩ := own_row hown1
        injection he6 with e1 e2 e3
        subst e1 e2 e3
        have hst := HOFF.out.stay HRQ.out (Nat.le_of_lt hs5) hk5 hv5
        go_roundw
        case rel => exact ⟨out ++ [48 + r], a1, c1, qs, a4, c4, rfl, rfl, hql, by simp; omega, ⟨HQ.out.1, HST3.out⟩, hown1, hst, HB4.out.trans hb5⟩
        case measure => have := HOL.out; simp [lenV]; omega
      · have hnil : es = [] := List.length_eq_zero_iff.1 (by omega)
        cases g with
        | true =>
          have HX0 : Hid (val 65536 ds ≠ 0) := by unfold Hid; have := val_pos (by decide) HC.out (by intro h; subst h; simp at hne); omega
          have HOUT : Hid (out = decs (val 65536 ds)) := by unfold Hid; rw [hes.out.2]; simp [hnil, val, decs_none]
          have HW : Hid (Below w.heap.size w wr) := HB2.out.trans (hbel.out.mono (by omega))
          have q5 : wr.cell? ⟨w.heap.size, 0, none⟩ = some (.bool true) := by rw [hbel.out.cell (by simp; omega), World.cell?_alloc_past _ _ _ z2]; exact q2
          have hsz : W2.heap.size + 1 ≤ wr.heap.size := by have := hbel.out.size; simp at this; omega
          have hown4 := hown.out
          go_wp2_with (at_builtin; refine app2 rfl (.tmp 40) (.tmp 41) 22 rfl (W2.heap.size + 1) 5 Try.underlying22 Try.info5 (by decide) _ out rfl rfl hown4 (by omega) hsz ?_; intro abk n1 cbk WB hown1 hb5 hs5 _ _)
          obtain ⟨a6, c6, he6, _, _, hrn6⟩ := own_row hown1
          injection he6 with e1 e2 e3
          subst e1 e2 e3
          obtain ⟨bk, hbk⟩ : ∃ bk, bk = out ++ [45] := ⟨_, rfl⟩
          rw [← hbk] at hrn6 ⊢
          have HBK : Hid (RowAt .u8 WB abk bk) := hrn6.row
          have HBL : Hid (bk.length ≤ 5001) := by unfold Hid; rw [hbk]; simp; omega
          have HTX : Hid (textL true (val 4294967296 zs) = bk.reverse) := by unfold Hid textL; rw [HX.out, if_neg HX0.out, hbk, HOUT.out]; rfl
          have HWB : Hid (Below w.heap.size w WB) := HW.out.trans (hb5.mono (by omega))
          have HZB : Hid (w.heap.size ≤ WB.heap.size) := HWB.out.size
          clear hrn6 hown1 hb5 hs5 hbk q5
          have hbl : bk.length ≤ 5001 := HBL.out
          go_loopw [9, 10] (fun o i wr => ∃ (k : Nat) (ou : List Int) (ao : Option Addr) (co : Nat), k ≤ bk.length ∧ i = .int .i64 ((k : Int) - 1) ∧ o = .slice ao ou.length co ∧ ou.length ≤ 5001 ∧ Hid (ou = (bk.drop k).reverse) ∧ Hid (wr.ownsRow WB.heap.size 5 1 (.slice ao ou.length co) ou.length (vals .u8 ou)) ∧ Hid (RowAt .u8 wr abk bk ∧ Off (.slice ao ou.length co) abk bk) ∧ Hid (Below WB.heap.size WB wr)) (fun _ i _ => (intOf i + 1).toNat)
          case atStart => exact ⟨bk.length, [], none, 0, Nat.le_refl _, by first | rfl | (simp only [wrap64]; congr 1; omega), rfl, by simp, by unfold Hid; simp, own_nil _ _ _ _, ⟨HBK.out, Off.none _ _ _ _⟩, Below.refl _ _⟩
          case round =>
            obtain ⟨k, ou, ao, co, hk, rfl, rfl, hoL, hou, howo, hro, hbo⟩ := hrel
            by_cases hk0 : 0 < k
            · obtain ⟨j, rfl⟩ : ∃ j, k = j + 1 := ⟨k - 1, by omega⟩
              obtain ⟨bb, offb, rfl, gq⟩ := row_cell hro.out.1 (Below.refl _ _) (show j < bk.length by omega)
              obtain ⟨x, hx⟩ : ∃ x, x = bk.getD j 0 := ⟨_, rfl⟩
              rw [← hx] at gq
              have HO2 : Hid (ou ++ [x] = (bk.drop j).reverse) := by unfold Hid; rw [drop_pred (show j < bk.length by omega), ← hx, hou.out]; simp
              have hoL2 : ou.length + 1 ≤ 5001 := by have := congrArg List.length HO2.out; simp at this; omega
              have ej : ((j + 1 : Nat) : Int) - 1 = j := by omega
              rw [ej]
              have hsq : WB.heap.size ≤ wr.heap.size := hbo.out.size
              have howo2 := howo.out
              clear hx
              go_wp2_with (at_builtin; refine app2 rfl (.tmp 50) (.tmp 55) 22 rfl WB.heap.size 5 Try.underlying22 Try.info5 (by decide) _ ou rfl rfl howo2 (by omega) hsq ?_; intro a8 n8 c8 w8 hown8 hb8 hs8 hk8 hv8)
              obtain ⟨a9, c9, he9, _, _, _⟩ := own_row hown8
              injection he9 with e1 e2 e3
              subst e1 e2 e3
              have hst8 := hro.out.2.stay hro.out.1 (Nat.le_of_lt hs8) hk8 hv8
              go_roundw
              case rel => exact ⟨j, ou ++ [x], a8, c8, by omega, by go_num, rfl, by simpa using hoL2, HO2.out, hown8, hst8, hbo.out.trans hb8⟩
              case measure => simp [intOf]
            · have e : k = 0 := by omega
              subst e
              obtain ⟨a9, c9, he9, hcm9, hsl9, hrn9⟩ := own_row howo.out
              injection he9 with e1 e2 e3
              subst e1 e3
              have HCP : Hid (ou.length ≤ co ∧ co ≤ maxLen) := ⟨hsl9.fits, hcm9⟩
              clear hcm9 hsl9
              have HRN : Hid (RowNew .u8 wr WB.heap.size ao ou) := hrn9
              have HOU : Hid (ou = textL true (val 4294967296 zs)) := by unfold Hid; rw [HTX.out, hou.out]; rfl
              clear hrn9
              go_wp2
              refine bodyPost_ret (v := .tuple #[.slice ao ou.length co, .int .i64 0]) (by simp [results, Try.results41, go_sem]) rfl ?_
              exact ⟨ou, 0, ao, co, rfl, .inr ⟨HV.out, HOU.out, rfl⟩, HCP.out, HRN.out.down HZB.out, HWB.out.trans (hbo.out.mono HZB.out)⟩
        | false =>
          have HX0 : Hid (val 65536 ds ≠ 0) := by unfold Hid; have := val_pos (by decide) HC.out (by intro h; subst h; simp at hne); omega
          have HOUT : Hid (out = decs (val 65536 ds)) := by unfold Hid; rw [hes.out.2]; simp [hnil, val, decs_none]
          have HW : Hid (Below w.heap.size w wr) := HB2.out.trans (hbel.out.mono (by omega))
          have q5 : wr.cell? ⟨w.heap.size, 0, none⟩ = some (.bool false) := by rw [hbel.out.cell (by simp; omega), World.cell?_alloc_past _ _ _ z2]; exact q2
          have hsz : W2.heap.size + 1 ≤ wr.heap.size := by have := hbel.out.size; simp at this; omega
          obtain ⟨a6, c6, he6, _, _, hrn6⟩ := own_row hown.out
          injection he6 with e1 e2 e3
          subst e1 e3
          obtain ⟨bk, hbk⟩ : ∃ bk, bk = out := ⟨_, rfl⟩
          obtain ⟨abk, habk⟩ : ∃ abk, abk = ab := ⟨_, rfl⟩
          obtain ⟨WB, hWB⟩ : ∃ WB, WB = wr := ⟨_, rfl⟩
          have HBK : Hid (RowAt .u8 WB abk bk) := by unfold Hid; rw [hbk, habk, hWB]; exact hrn6.row
          have HBL : Hid (bk.length ≤ 5001) := by unfold Hid; rw [hbk]; omega
          have HTX : Hid (textL false (val 4294967296 zs) = bk.reverse) := by unfold Hid textL; rw [HX.out, if_neg HX0.out, hbk, HOUT.out]; simp
          have HWB : Hid (Below w.heap.size w WB) := by unfold Hid; rw [hWB]; exact HW.out
          have HZB : Hid (w.heap.size ≤ WB.heap.size) := HWB.out.size
          subst hbk habk hWB
          clear hrn6
          go_wp2
          have hbl : bk.length ≤ 5001 := HBL.out
          go_loopw [9, 10] (fun o i wr => ∃ (k : Nat) (ou : List Int) (ao : Option Addr) (co : Nat), k ≤ bk.length ∧ i = .int .i64 ((k : Int) - 1) ∧ o = .slice ao ou.length co ∧ ou.length ≤ 5001 ∧ Hid (ou = (bk.drop k).reverse) ∧ Hid (wr.ownsRow WB.heap.size 5 1 (.slice ao ou.length co) ou.length (vals .u8 ou)) ∧ Hid (RowAt .u8 wr abk bk ∧ Off (.slice ao ou.length co) abk bk) ∧ Hid (Below WB.heap.size WB wr)) (fun _ i _ => (intOf i + 1).toNat)
          case atStart => exact ⟨bk.length, [], none, 0, Nat.le_refl _, by first | rfl | (simp only [wrap64]; congr 1; omega), rfl, by simp, by unfold Hid; simp, own_nil _ _ _ _, ⟨HBK.out, Off.none _ _ _ _⟩, Below.refl _ _⟩
          case round =>
            obtain ⟨k, ou, ao, co, hk, rfl, rfl, hoL, hou, howo, hro, hbo⟩ := hrel
            by_cases hk0 : 0 < k
            · obtain ⟨j, rfl⟩ : ∃ j, k = j + 1 := ⟨k - 1, by omega⟩
              obtain ⟨bb, offb, rfl, gq⟩ := row_cell hro.out.1 (Below.refl _ _) (show j < bk.length by omega)
              obtain ⟨x, hx⟩ : ∃ x, x = bk.getD j 0 := ⟨_, rfl⟩
              rw [← hx] at gq
              have HO2 : Hid (ou ++ [x] = (bk.drop j).reverse) := by unfold Hid; rw [drop_pred (show j < bk.length by omega), ← hx, hou.out]; simp
              have hoL2 : ou.length + 1 ≤ 5001 := by have := congrArg List.length HO2.out; simp at this; omega
              have ej : ((j + 1 : Nat) : Int) - 1 = j := by omega
              rw [ej]
              have hsq : WB.heap.size ≤ wr.heap.size := hbo.out.size
              have howo2 := howo.out
              clear hx
              go_wp2_with (at_builtin; refine app2 rfl (.tmp 50) (.tmp 55) 22 rfl WB.heap.size 5 Try.underlying22 Try.info5 (by decide) _ ou rfl rfl howo2 (by omega) hsq ?_; intro a8 n8 c8 w8 hown8 hb8 hs8 hk8 hv8)
              obtain ⟨a9, c9, he9, _, _, _⟩ := own_row hown8
              injection he9 with e1 e2 e3
              subst e1 e2 e3
              have hst8 := hro.out.2.stay hro.out.1 (Nat.le_of_lt hs8) hk8 hv8
              go_roundw
              case rel => exact ⟨j, ou ++ [x], a8, c8, by omega, by go_num, rfl, by simpa using hoL2, HO2.out, hown8, hst8, hbo.out.trans hb8⟩
              case measure => simp [intOf]
            · have e : k = 0 := by omega
              subst e
              obtain ⟨a9, c9, he9, hcm9, hsl9, hrn9⟩ := own_row howo.out
              injection he9 with e1 e2 e3
              subst e1 e3
              have HCP : Hid (ou.length ≤ co ∧ co ≤ maxLen) := ⟨hsl9.fits, hcm9⟩
              clear hcm9 hsl9
              have HRN : Hid (RowNew .u8 wr WB.heap.size ao ou) := hrn9
              have HOU : Hid (ou = textL false (val 4294967296 zs)) := by unfold Hid; rw [HTX.out, hou.out]; rfl
              clear hrn9
              go_wp2
              refine bodyPost_ret (v := .tuple #[.slice ao ou.length co, .int .i64 0]) (by simp [results, Try.results41, go_sem]) rfl ?_
              exact ⟨ou, 0, ao, co, rfl, .inr ⟨HV.out, HOU.out, rfl⟩, HCP.out, HRN.out.down HZB.out, HWB.out.trans (hbo.out.mono HZB.out)⟩

theorem textSc_any (g : Bool) (a : Option Addr) (c : Nat) (zs : List Int) (w : World) (hn : zs.length ≤ maxLen) (hz : RowAt .u32 w a zs) (hu : Dig 4294967296 zs) :
    Calls Try.prog 41 #[.agg #[.bool g, .slice a zs.length c]] w fun e w' => OutTc w g zs e w' := by
  cases hv : validB g zs with
  | false => exact textSc_bad g a c zs w hn hz hv
  | true =>
    refine textSc_good g a c zs w ?_ hz hu hv
    unfold validB at hv
    by_cases h0 : zs.length = 0
    · omega
    · simp [h0] at hv
      omega

end Go.Proofs.Ytfgpknglgbpebac

/-
  The model's drawn texts, as a function of the bytes.
-/
namespace Go.Proofs.Ytfgpknglgbpebac
open Go.RowKit

def oddS : List (List Int) := [[], [45], [45, 48], [48, 48], [43, 49], [48, 49], [45, 48, 49], [49, 97], [32, 49], [49, 46, 48], [45, 45, 49], [48], [45, 49]]

/-- The text of a drawn number; a drawn text. -/
def txtF (g : Bool) (zs : List Int) : List Int := if validB g zs = true then textL g (val 4294967296 zs) else []
def drawPF (rs : List Int) : List Int :=
  if rs.headD 0 % 16 = 0 then oddS.getD (rs.headD 0 / 16 % 13).toNat []
  else if rs.headD 0 = 1 then List.replicate (4999 + rs.tail.headD 0 % 3).toNat 57
  else if rs.headD 0 = 2 then List.replicate (4930 + rs.tail.headD 0 % 6).toNat 49
  else if rs.headD 0 % 16 = 1 ∧ txtF (drawG rs.tail) (drawZ rs.tail) ≠ [] then
    (txtF (drawG rs.tail) (drawZ rs.tail)).set ((drawL rs.tail).2.headD 0 % (txtF (drawG rs.tail) (drawZ rs.tail)).length).toNat ((drawL rs.tail).2.tail.headD 0)
  else txtF (drawG rs.tail) (drawZ rs.tail)

theorem ResT.fn {g : Bool} {zs ts : List Int} {K : Int} (h : ResT g zs ts K) : ts = txtF g zs := by
  unfold txtF
  rcases h with ⟨h0, h1, _⟩ | ⟨h0, h1, _⟩
  · rw [if_neg (by rw [h0]; decide), h1]
  · rw [if_pos h0, h1]

/-- What DrawBigParse hands back. -/
def DrawPOut (w : World) (rs : List Int) (e : Ending) (w' : World) : Prop :=
  ∃ (a : Option Addr) (c : Nat), e = .returned (.slice a (drawPF rs).length c) ∧ ((drawPF rs).length ≤ 5001 ∧ (drawPF rs).length ≤ c ∧ c ≤ maxLen) ∧ RowAt .u8 w' a (drawPF rs) ∧ Below w.heap.size w w'

/-- A reader that was laid behind w. -/
theorem Aside.new {P : Nat} {w w1 w2 : World} (hb : Below w.heap.size w w1) (hP : w.heap.size ≤ P) (ha : Aside P w1 w2) : Below w.heap.size w w2 :=
  hb.trans (ha.below hP hb.size)

theorem conv_below (W : World) (e : TypeId) (s : ByteArray) : Below W.heap.size W (Lib.bytesWorld W e s) :=
  ⟨rfl, rfl, rfl, by rw [Lib.bytesWorld_size]; omega, fun k hk => Lib.bytesWorld_at_old W e s k hk⟩

/-- A text of the table, made bytes. -/
theorem conv_out {w W : World} {b n : Nat} {rs ts : List Int} (HB : Below w.heap.size w W) (e : TypeId) (s : ByteArray) (hb : b = W.heap.size) (hns : n = s.size) (hd : drawPF rs = ts) (hn : s.size = ts.length) (hl : ts.length ≤ 10) (hc : ∀ j, j < ts.length → ((s.data.toList.getD j 0).toNat : Int) = ts.getD j 0) :
    DrawPOut w rs (.returned (.slice (some ⟨b, 0, none⟩) n (grownCap W n 0 e))) (Lib.bytesWorld W e s) := by
  subst hb hns
  unfold DrawPOut
  rw [hd]
  have h1 := grownCap_ge W s.size 0 e
  have h2 := grownCap_le_maxLen W s.size 0 e (by unfold maxLen; omega)
  refine ⟨some ⟨W.heap.size, 0, none⟩, grownCap W s.size 0 e, by rw [hn], ⟨by omega, by omega, h2⟩, .inr ⟨W.heap.size, 0, rfl, by rw [Lib.bytesWorld_size]; omega, fun j hj => ?_⟩, HB.trans ((conv_below W e s).mono HB.size)⟩
  rw [Nat.zero_add, Lib.bytesWorld_cell W e s j (by omega), hc j hj]

set_option maxRecDepth 100000 in
set_option maxHeartbeats 8000000 in
theorem drawP_odd (a : Option Addr) (c : Nat) (bs rs : List Int) (w : World) (hrs : bs.take 500 = rs) (hh : rs.headD 0 % 16 = 0) (hn : bs.length ≤ 1048576) (hc : bs.length ≤ c) (hcm : c ≤ maxLen) (hnil : a = none → c = 0) (hr : RowAt .u8 w a bs) (hb : Dig 256 bs) :
    Calls Try.prog 14 #[.slice a bs.length c] w fun e w' => DrawPOut w rs e w' := by
  go_enter Try.func14, Try.ntmps14
  go_wp2_with fail
  refine (openF_any a c bs w hn hc hcm hnil hr hb).mono ?_
  rintro e w1 ⟨rfl, hs1, hb1, hz1⟩
  rw [hrs] at hs1
  obtain ⟨P, hP⟩ : ∃ P, P = w.heap.size := ⟨_, rfl⟩
  rw [← hP] at hs1 ⊢
  have HPw : Hid (w.heap.size ≤ P) := by unfold Hid; omega
  have HB1 : Hid (Below w.heap.size w w1) := by unfold Hid; exact hb1
  clear hb1 hz1 hrs hr hb hnil hc hcm hn hP
  go_wp2_with fail
  refine (nextF_any P rs _ hs1).mono ?_
  rintro e w2 ⟨rfl, hk0, hk1, hs2, ha2⟩
  have S2 : Hid (Rs P rs.tail w2) := hs2
  have HB2 : Hid (Below w.heap.size w w2) := Aside.new HB1.out HPw.out ha2
  obtain ⟨kk, hkk⟩ : ∃ kk, kk = rs.headD 0 := ⟨_, rfl⟩
  rw [← hkk] at hk0 hk1 ⊢
  have HKK : Hid (kk = rs.headD 0) := hkk
  clear hs1 hs2 ha2 HB1 hkk
  have h16 : kk % 16 = 0 := by rw [HKK.out]; exact hh
  have htm : kk.tmod 16 = kk % 16 := Int.tmod_eq_emod_of_nonneg hk0
  have hs2 := HB2.out.size
  have h16b : (kk % 16 == 0) = true := by rw [beq_iff_eq]; exact h16
  have hq0 : 0 ≤ kk / 16 := by omega
  obtain ⟨j, hj⟩ : ∃ j, j = kk / 16 % 13 := ⟨_, rfl⟩
  have htj : (kk / 16).tmod 13 = j := by rw [Int.tmod_eq_emod_of_nonneg hq0, hj]
  have htq : kk.tdiv 16 = kk / 16 := Int.tdiv_eq_ediv_of_nonneg hk0
  have HJ : Hid (drawPF rs = oddS.getD j.toNat []) := by
    unfold Hid drawPF
    rw [← HKK.out, if_pos h16, hj]
  have hj13 : j = 0 ∨ j = 1 ∨ j = 2 ∨ j = 3 ∨ j = 4 ∨ j = 5 ∨ j = 6 ∨ j = 7 ∨ j = 8 ∨ j = 9 ∨ j = 10 ∨ j = 11 ∨ j = 12 := by omega
  have hj2 : kk / 16 % 13 = j := hj.symm
  clear hj
  have hcv : ∀ (w : World) (s : ByteArray), (convert 9 22 (.string s)).run Try.prog w = .ok (.slice (some ⟨w.heap.size, 0, none⟩) s.size (grownCap w s.size 0 5)) (Lib.bytesWorld w 5 s) := fun w s => Lib.run_convert_string_bytes w 9 22 5 s Try.underlying9 Try.underlying22 Try.underlying5
  have HB3 : Hid (∀ o, Below w.heap.size w (w2.alloc o)) := fun o => HB2.out.alloc HB2.out.size o
  rcases hj13 with rfl | rfl | rfl | rfl | rfl | rfl | rfl | rfl | rfl | rfl | rfl | rfl | rfl
  · go_wp2
    go_ret
    exact conv_out (HB3.out _) _ ⟨#[]⟩ (by simp) rfl (ts := []) HJ.out rfl (by decide) (by decide)
  · go_wp2
    go_ret
    exact conv_out (HB3.out _) _ ⟨#[45]⟩ (by simp) rfl (ts := [45]) HJ.out rfl (by decide) (by decide)
  · go_wp2
    go_ret
    exact conv_out (HB3.out _) _ ⟨#[45, 48]⟩ (by simp) rfl (ts := [45, 48]) HJ.out rfl (by decide) (by decide)
  · go_wp2
    go_ret
    exact conv_out (HB3.out _) _ ⟨#[48, 48]⟩ (by simp) rfl (ts := [48, 48]) HJ.out rfl (by decide) (by decide)
  · go_wp2
    go_ret
    exact conv_out (HB3.out _) _ ⟨#[43, 49]⟩ (by simp) rfl (ts := [43, 49]) HJ.out rfl (by decide) (by decide)
  · go_wp2
    go_ret
    exact conv_out (HB3.out _) _ ⟨#[48, 49]⟩ (by simp) rfl (ts := [48, 49]) HJ.out rfl (by decide) (by decide)
  · go_wp2
    go_ret
    exact conv_out (HB3.out _) _ ⟨#[45, 48, 49]⟩ (by simp) rfl (ts := [45, 48, 49]) HJ.out rfl (by decide) (by decide)
  · go_wp2
    go_ret
    exact conv_out (HB3.out _) _ ⟨#[49, 97]⟩ (by simp) rfl (ts := [49, 97]) HJ.out rfl (by decide) (by decide)
  · go_wp2
    go_ret
    exact conv_out (HB3.out _) _ ⟨#[32, 49]⟩ (by simp) rfl (ts := [32, 49]) HJ.out rfl (by decide) (by decide)
  · go_wp2
    go_ret
    exact conv_out (HB3.out _) _ ⟨#[49, 46, 48]⟩ (by simp) rfl (ts := [49, 46, 48]) HJ.out rfl (by decide) (by decide)
  · go_wp2
    go_ret
    exact conv_out (HB3.out _) _ ⟨#[45, 45, 49]⟩ (by simp) rfl (ts := [45, 45, 49]) HJ.out rfl (by decide) (by decide)
  · go_wp2
    go_ret
    exact conv_out (HB3.out _) _ ⟨#[48]⟩ (by simp) rfl (ts := [48]) HJ.out rfl (by decide) (by decide)
  · go_wp2
    go_ret
    exact conv_out (HB3.out _) _ ⟨#[45, 49]⟩ (by simp) rfl (ts := [45, 49]) HJ.out rfl (by decide) (by decide)

end Go.Proofs.Ytfgpknglgbpebac

/-
  The model's drawn texts: the long ones, and those of drawn numbers.
-/
namespace Go.Proofs.Ytfgpknglgbpebac
open Go.RowKit

set_option maxRecDepth 100000 in
set_option maxHeartbeats 8000000 in
theorem drawP_nines (a : Option Addr) (c : Nat) (bs rs : List Int) (w : World) (hrs : bs.take 500 = rs) (hh : rs.headD 0 = 1) (hn : bs.length ≤ 1048576) (hc : bs.length ≤ c) (hcm : c ≤ maxLen) (hnil : a = none → c = 0) (hr : RowAt .u8 w a bs) (hb : Dig 256 bs) :
    Calls Try.prog 14 #[.slice a bs.length c] w fun e w' => DrawPOut w rs e w' := by
  go_enter Try.func14, Try.ntmps14
  go_wp2_with fail
  refine (openF_any a c bs w hn hc hcm hnil hr hb).mono ?_
  rintro e w1 ⟨rfl, hs1, hb1, hz1⟩
  rw [hrs] at hs1
  obtain ⟨P, hP⟩ : ∃ P, P = w.heap.size := ⟨_, rfl⟩
  rw [← hP] at hs1 ⊢
  have HPw : Hid (w.heap.size ≤ P) := by unfold Hid; omega
  have HB1 : Hid (Below w.heap.size w w1) := by unfold Hid; exact hb1
  clear hb1 hz1 hrs hr hb hnil hc hcm hn hP
  go_wp2_with fail
  refine (nextF_any P rs _ hs1).mono ?_
  rintro e w2 ⟨rfl, hk0, hk1, hs2, ha2⟩
  have S2 : Hid (Rs P rs.tail w2) := hs2
  have HB2 : Hid (Below w.heap.size w w2) := Aside.new HB1.out HPw.out ha2
  obtain ⟨kk, hkk⟩ : ∃ kk, kk = rs.headD 0 := ⟨_, rfl⟩
  rw [← hkk] at hk0 hk1 ⊢
  have HKK : Hid (kk = rs.headD 0) := hkk
  clear hs1 hs2 ha2 HB1 hkk
  have hkv : kk = 1 := by rw [HKK.out]; exact hh
  subst hkv
  have hs2 := HB2.out.size
  go_wp2_with fail
  refine (nextF_any P rs.tail _ S2.out).mono ?_
  rintro e w3 ⟨rfl, hj0, hj1, hs3, ha3⟩
  have HB3 : Hid (Below w.heap.size w w3) := Aside.new HB2.out HPw.out ha3
  obtain ⟨jj, hjj⟩ : ∃ jj, jj = rs.tail.headD 0 := ⟨_, rfl⟩
  rw [← hjj] at hj0 hj1 ⊢
  obtain ⟨n, hnn⟩ : ∃ n : Nat, (n : Int) = 4999 + jj % 3 := ⟨(4999 + jj % 3).toNat, by omega⟩
  have HF : Hid (drawPF rs = List.replicate n 57) := by
    unfold Hid drawPF
    rw [hh, if_neg (by decide), if_pos rfl, ← hjj, show (4999 + jj % 3).toNat = n by omega]
  have htj : jj.tmod 3 = jj % 3 := Int.tmod_eq_emod_of_nonneg hj0
  have hn5 : n ≤ 5001 := by omega
  have hsz3 : w.heap.size ≤ w3.heap.size := HB3.out.size
  clear hs3 ha3 hjj HB2 S2
  go_wp2
  go_loopw [7, 8] (fun so si wr => ∃ i : Nat, i ≤ n ∧ si = .int .i64 i ∧ Hid (wr.ownsRow w3.heap.size 5 1 so (List.replicate i (57 : Int)).length (vals .u8 (List.replicate i 57))) ∧ Hid (Below w3.heap.size w3 wr)) (fun _ si _ => n - (intOf si).toNat)
  case atStart => exact ⟨0, Nat.zero_le _, rfl, own_nil _ _ _ _, Below.refl _ _⟩
  case round =>
    obtain ⟨i, hi, rfl, hown, hbe⟩ := hrel
    have hown2 := hown.out
    have hle : w3.heap.size ≤ wr.heap.size := hbe.out.size
    obtain ⟨va, vc, hv, hcm, hsl, hrn⟩ := own_row hown2
    subst hv
    by_cases hlt : i < n
    · have hlt2 : (i : Int) < 4999 + jj % 3 := by omega
      have hil : (List.replicate i (57 : Int)).length ≤ 8388608 := by rw [List.length_replicate]; omega
      clear hcm hsl hrn
      go_wp2_with (at_builtin; refine app1 rfl (.tmp 40) (.tmp 41) 22 rfl w3.heap.size 5 Try.underlying22 infoY (by decide) _ (List.replicate i 57) rfl rfl hown2 hil hle ?_; intro a1 n1 c1 w4 hown1 hb1 hs1)
      go_roundw
      case rel => exact ⟨i + 1, by omega, by go_num, by unfold Hid; rw [List.replicate_succ']; exact hown1, hbe.out.trans hb1⟩
      case measure => simp [intOf]; omega
    · have hin : i = n := by omega
      subst hin
      have hlt2 : ¬ (i : Int) < 4999 + jj % 3 := by omega
      have HFI : Hid (DrawPOut w rs (.returned (.slice va i vc)) wr) := by
        unfold Hid DrawPOut
        rw [HF.out]
        exact ⟨va, vc, by rw [List.length_replicate], ⟨by rw [List.length_replicate]; omega, hsl.fits, hcm⟩, hrn.row, HB3.out.trans (hbe.out.mono hsz3)⟩
      clear hcm hsl hrn hown2 hown hbe
      go_wp2
      go_ret
      exact HFI.out

set_option maxRecDepth 100000 in
set_option maxHeartbeats 8000000 in
theorem drawP_ones (a : Option Addr) (c : Nat) (bs rs : List Int) (w : World) (hrs : bs.take 500 = rs) (hh : rs.headD 0 = 2) (hn : bs.length ≤ 1048576) (hc : bs.length ≤ c) (hcm : c ≤ maxLen) (hnil : a = none → c = 0) (hr : RowAt .u8 w a bs) (hb : Dig 256 bs) :
    Calls Try.prog 14 #[.slice a bs.length c] w fun e w' => DrawPOut w rs e w' := by
  go_enter Try.func14, Try.ntmps14
  go_wp2_with fail
  refine (openF_any a c bs w hn hc hcm hnil hr hb).mono ?_
  rintro e w1 ⟨rfl, hs1, hb1, hz1⟩
  rw [hrs] at hs1
  obtain ⟨P, hP⟩ : ∃ P, P = w.heap.size := ⟨_, rfl⟩
  rw [← hP] at hs1 ⊢
  have HPw : Hid (w.heap.size ≤ P) := by unfold Hid; omega
  have HB1 : Hid (Below w.heap.size w w1) := by unfold Hid; exact hb1
  clear hb1 hz1 hrs hr hb hnil hc hcm hn hP
  go_wp2_with fail
  refine (nextF_any P rs _ hs1).mono ?_
  rintro e w2 ⟨rfl, hk0, hk1, hs2, ha2⟩
  have S2 : Hid (Rs P rs.tail w2) := hs2
  have HB2 : Hid (Below w.heap.size w w2) := Aside.new HB1.out HPw.out ha2
  obtain ⟨kk, hkk⟩ : ∃ kk, kk = rs.headD 0 := ⟨_, rfl⟩
  rw [← hkk] at hk0 hk1 ⊢
  have HKK : Hid (kk = rs.headD 0) := hkk
  clear hs1 hs2 ha2 HB1 hkk
  have hkv : kk = 2 := by rw [HKK.out]; exact hh
  subst hkv
  have hs2 := HB2.out.size
  go_wp2_with fail
  refine (nextF_any P rs.tail _ S2.out).mono ?_
  rintro e w3 ⟨rfl, hj0, hj1, hs3, ha3⟩
  have HB3 : Hid (Below w.heap.size w w3) := Aside.new HB2.out HPw.out ha3
  obtain ⟨jj, hjj⟩ : ∃ jj, jj = rs.tail.headD 0 := ⟨_, rfl⟩
  rw [← hjj] at hj0 hj1 ⊢
  obtain ⟨n, hnn⟩ : ∃ n : Nat, (n : Int) = 4930 + jj % 6 := ⟨(4930 + jj % 6).toNat, by omega⟩
  have HF : Hid (drawPF rs = List.replicate n 49) := by
    unfold Hid drawPF
    rw [hh, if_neg (by decide), if_neg (by decide), if_pos rfl, ← hjj, show (4930 + jj % 6).toNat = n by omega]
  have htj : jj.tmod 6 = jj % 6 := Int.tmod_eq_emod_of_nonneg hj0
  have hn5 : n ≤ 5001 := by omega
  have hsz3 : w.heap.size ≤ w3.heap.size := HB3.out.size
  clear hs3 ha3 hjj HB2 S2
  go_wp2
  go_loopw [10, 11] (fun so si wr => ∃ i : Nat, i ≤ n ∧ si = .int .i64 i ∧ Hid (wr.ownsRow w3.heap.size 5 1 so (List.replicate i (49 : Int)).length (vals .u8 (List.replicate i 49))) ∧ Hid (Below w3.heap.size w3 wr)) (fun _ si _ => n - (intOf si).toNat)
  case atStart => exact ⟨0, Nat.zero_le _, rfl, own_nil _ _ _ _, Below.refl _ _⟩
  case round =>
    obtain ⟨i, hi, rfl, hown, hbe⟩ := hrel
    have hown2 := hown.out
    have hle : w3.heap.size ≤ wr.heap.size := hbe.out.size
    obtain ⟨va, vc, hv, hcm, hsl, hrn⟩ := own_row hown2
    subst hv
    by_cases hlt : i < n
    · have hlt2 : (i : Int) < 4930 + jj % 6 := by omega
      have hil : (List.replicate i (49 : Int)).length ≤ 8388608 := by rw [List.length_replicate]; omega
      clear hcm hsl hrn
      go_wp2_with (at_builtin; refine app1 rfl (.tmp 55) (.tmp 56) 22 rfl w3.heap.size 5 Try.underlying22 infoY (by decide) _ (List.replicate i 49) rfl rfl hown2 hil hle ?_; intro a1 n1 c1 w4 hown1 hb1 hs1)
      go_roundw
      case rel => exact ⟨i + 1, by omega, by go_num, by unfold Hid; rw [List.replicate_succ']; exact hown1, hbe.out.trans hb1⟩
      case measure => simp [intOf]; omega
    · have hin : i = n := by omega
      subst hin
      have hlt2 : ¬ (i : Int) < 4930 + jj % 6 := by omega
      have HFI : Hid (DrawPOut w rs (.returned (.slice va i vc)) wr) := by
        unfold Hid DrawPOut
        rw [HF.out]
        exact ⟨va, vc, by rw [List.length_replicate], ⟨by rw [List.length_replicate]; omega, hsl.fits, hcm⟩, hrn.row, HB3.out.trans (hbe.out.mono hsz3)⟩
      clear hcm hsl hrn hown2 hown hbe
      go_wp2
      go_ret
      exact HFI.out

end Go.Proofs.Ytfgpknglgbpebac

/-
  The model's drawn texts: those of drawn numbers.
-/
namespace Go.Proofs.Ytfgpknglgbpebac
open Go.RowKit

theorem Rs.head {P : Nat} {rs : List Int} {W : World} (h : Rs P rs W) : ∀ x, x ∈ rs → 0 ≤ x ∧ x ≤ 255 := by
  obtain ⟨⟨a, c, bs, i, _, _, _, _, _, _, h7, h8⟩, _, _⟩ := h
  intro x hx
  rw [h8] at hx
  have := h7 x (List.mem_of_mem_drop hx)
  omega

theorem head_in {rs : List Int} (h : ∀ x, x ∈ rs → 0 ≤ x ∧ x ≤ 255) : 0 ≤ rs.headD 0 ∧ rs.headD 0 ≤ 255 := by
  cases rs with
  | nil => decide
  | cons x xs => exact h x (by simp)

theorem txtF_len {g : Bool} {zs : List Int} (hu : U32 zs) : (txtF g zs).length ≤ 5001 := by
  unfold txtF
  split
  · rename_i hv
    obtain ⟨hcan, hl, _⟩ := valid_canon hu hv
    have hd := decs_length (val_fits hcan.1 hl)
    unfold textL
    split
    · simp
    · rw [List.length_reverse, List.length_append]
      split
      · simp; omega
      · simp; omega
  · simp

set_option maxRecDepth 100000 in
set_option maxHeartbeats 8000000 in
theorem drawP_text (a : Option Addr) (c : Nat) (bs rs : List Int) (w : World) (hrs : bs.take 500 = rs) (hh0 : rs.headD 0 % 16 ≠ 0) (hh1 : rs.headD 0 ≠ 1) (hh2 : rs.headD 0 ≠ 2) (hn : bs.length ≤ 1048576) (hc : bs.length ≤ c) (hcm : c ≤ maxLen) (hnil : a = none → c = 0) (hr : RowAt .u8 w a bs) (hb : Dig 256 bs) :
    Calls Try.prog 14 #[.slice a bs.length c] w fun e w' => DrawPOut w rs e w' := by
  go_enter Try.func14, Try.ntmps14
  go_wp2_with fail
  refine (openF_any a c bs w hn hc hcm hnil hr hb).mono ?_
  rintro e w1 ⟨rfl, hs1, hb1, hz1⟩
  rw [hrs] at hs1
  obtain ⟨P, hP⟩ : ∃ P, P = w.heap.size := ⟨_, rfl⟩
  rw [← hP] at hs1 ⊢
  have HPw : Hid (w.heap.size ≤ P) := by unfold Hid; omega
  have HB1 : Hid (Below w.heap.size w w1) := by unfold Hid; exact hb1
  clear hb1 hz1 hrs hr hb hnil hc hcm hn hP
  go_wp2_with fail
  refine (nextF_any P rs _ hs1).mono ?_
  rintro e w2 ⟨rfl, hk0, hk1, hs2, ha2⟩
  have S2 : Hid (Rs P rs.tail w2) := hs2
  have HB2 : Hid (Below w.heap.size w w2) := Aside.new HB1.out HPw.out ha2
  obtain ⟨kk, hkk⟩ : ∃ kk, kk = rs.headD 0 := ⟨_, rfl⟩
  rw [← hkk] at hk0 hk1 ⊢
  have HKK : Hid (kk = rs.headD 0) := hkk
  clear hs1 hs2 ha2 HB1 hkk
  have h16 : (kk % 16 == 0) = false := by rw [beq_eq_false_iff_ne, HKK.out]; exact hh0
  have h1b : (kk == 1) = false := by rw [beq_eq_false_iff_ne, HKK.out]; exact hh1
  have h2b : (kk == 2) = false := by rw [beq_eq_false_iff_ne, HKK.out]; exact hh2
  have htm : kk.tmod 16 = kk % 16 := Int.tmod_eq_emod_of_nonneg hk0
  have hs2 := HB2.out.size
  go_wp2_with fail
  refine (drawBigF_any P rs.tail _ S2.out).mono ?_
  rintro e w3 ⟨aD, cD, rfl, hzl, hzu, hown, hs3, ha3⟩
  obtain ⟨aE, cE, heq, _, hsl, hrow⟩ := own_row hown
  injection heq with he1 _ he3
  subst he1 he3
  have HB3 : Hid (Below w.heap.size w w3) := Aside.new HB2.out HPw.out ha3
  have S3 : Hid (Rs P (drawL rs.tail).2 w3) := hs3
  have HRW : Hid (RowAt .u32 w3 aD (drawZ rs.tail)) := hrow.row
  have HLE : Hid ((txtF (drawG rs.tail) (drawZ rs.tail)).length ≤ 5001) := txtF_len hzu
  clear hs3 ha3 hown hsl hrow HB2 S2
  go_wp2_with fail
  refine (textSc_any _ aD cD _ w3 (by unfold maxLen; omega) HRW.out (fun z hz => hzu z hz)).mono ?_
  rintro e w4 ⟨ts, K, aT, cT, rfl, hres, ⟨hcp1, hcp2⟩, hrn, hb4⟩
  have hts := hres.fn
  have S4 : Hid (Rs P (drawL rs.tail).2 w4) := S3.out.later hb4
  have HB4 : Hid (Below w.heap.size w w4) := HB3.out.trans (hb4.mono HB3.out.size)
  have HRN : Hid (RowNew .u8 w4 w3.heap.size aT ts) := hrn
  have hPl : P < w3.heap.size := S3.out.lt
  have HTS : Hid (ts = txtF (drawG rs.tail) (drawZ rs.tail)) := hts
  have hlen : ts.length ≤ 5001 := by rw [hts]; exact HLE.out
  clear hb4 hres hrn HB3 S3 HRW hts HLE
  by_cases hB : kk % 16 = 1 ∧ ts ≠ []
  · have h161 : (kk % 16 == 1) = true := by rw [beq_iff_eq]; exact hB.1
    have htl : 0 < ts.length := List.length_pos_iff.2 hB.2
    have htl2 : (0 : Int) < (ts.length : Int) := by omega
    have HF : Hid (drawPF rs = ts.set ((drawL rs.tail).2.headD 0 % ts.length).toNat ((drawL rs.tail).2.tail.headD 0)) := by
      unfold Hid drawPF
      rw [if_neg hh0, if_neg hh1, if_neg hh2, ← HTS.out, if_pos ⟨by rw [← HKK.out]; exact hB.1, hB.2⟩]
    obtain ⟨q, hq⟩ : ∃ q, q = (drawL rs.tail).2 := ⟨_, rfl⟩
    rw [← hq] at S4 HF
    have hqa := S4.out.head
    have hq1 := head_in hqa
    have hq2 := head_in (rs := q.tail) (fun x hx => hqa x (List.mem_of_mem_tail hx))
    obtain ⟨ii, hii⟩ : ∃ ii, ii = q.headD 0 := ⟨_, rfl⟩
    obtain ⟨vv, hvv⟩ : ∃ vv, vv = q.tail.headD 0 := ⟨_, rfl⟩
    rw [← hii, ← hvv] at HF
    rw [← hii] at hq1
    rw [← hvv] at hq2
    obtain ⟨hi0, hi1⟩ := hq1
    obtain ⟨hv0, hv1⟩ := hq2
    obtain ⟨m, hm⟩ : ∃ m : Nat, ii % ts.length = (m : Int) := ⟨(ii % ts.length).toNat, by have := Int.emod_nonneg ii (show (ts.length : Int) ≠ 0 by omega); omega⟩
    have hml : (m : Int) < ts.length := by rw [← hm]; exact Int.emod_lt_of_pos _ htl2
    have htm2 : ii.tmod ts.length = (m : Int) := by rw [Int.tmod_eq_emod_of_nonneg hi0, hm]
    have HFM : Hid (drawPF rs = ts.set m vv) := by unfold Hid; rw [HF.out, hm]; rfl
    obtain ⟨bt, off, rfl, hbt, hbl, hbc, hbf⟩ := HRN.out.resolve_left hB.2
    have HII : Hid (ii = q.headD 0) := hii
    have HVV : Hid (vv = q.tail.headD 0) := hvv
    have HOW : Hid (Own .u8 w4 bt off ts) := ⟨hbl, hbc, hbf⟩
    have hPb : bt ≠ P := by omega
    have hz0 : ((ts.length : Int) == 0) = false := by rw [beq_eq_false_iff_ne]; omega
    have hz1 : ¬ ((ts.length : Int) = 0) := by omega
    have hz2 : ts.length ≠ 0 := by omega
    have hz3 : ts ≠ [] := hB.2
    have hwb : w.heap.size ≤ bt := by have := HPw.out; omega
    clear hii hvv HF hqa hq hB HRN hbc hbf
    go_wp2_with fail
    go_region_with
      (first
        | (go_at_call 40; refine (nextF_any P _ _ (S4.out.later (Below.refl _ _).drew)).mono ?_; clear S4; rintro e w5 ⟨he, -, -, hs5, ha5⟩; rw [← HII.out] at he; subst he; have HA5 : Aside P w4 w5 := (Aside.of (Below.refl _ _).drew).trans ha5)
        | (go_at_call 40; refine (nextF_any P _ _ hs5).mono ?_; rintro e w6 ⟨he, -, -, hs6, ha6⟩; rw [← HVV.out] at he; subst he; have HA6 : Aside P w4 w6 := HA5.trans ha6; have cc := (HA6.cell (p := ⟨bt, off + m, none⟩) hbl hPb).trans (HOW.out.cell m (by omega)); have ff := (HA6.frozen (p := ⟨bt, off + m, none⟩) hbl hPb).trans (HOW.out.free m (by omega))))
    have hwv : IntKind.u8.wrap vv = vv := by
      simp [IntKind.wrap, IntKind.bits, IntKind.signed]
      omega
    rw [hwv]
    have HFI : Hid (DrawPOut w rs (.returned (.slice (some ⟨bt, off, none⟩) ts.length cT)) (w6.setCell ⟨bt, off + m, none⟩ (.int .u8 vv))) := by
      unfold Hid DrawPOut
      rw [HFM.out]
      have hO6 : Own .u8 w6 bt off ts := ⟨Nat.lt_of_lt_of_le hbl HA6.size, fun j hj => (HA6.cell (p := ⟨bt, off + j, none⟩) hbl hPb).trans (HOW.out.cell j hj), fun j hj => (HA6.frozen (p := ⟨bt, off + j, none⟩) hbl hPb).trans (HOW.out.free j hj)⟩
      have hOs := hO6.set m vv (by omega)
      exact ⟨some ⟨bt, off, none⟩, cT, by rw [List.length_set], ⟨by rw [List.length_set]; exact hlen, by rw [List.length_set]; exact hcp1, hcp2⟩, (hOs.new (B := 0) (Nat.zero_le _)).row, (Aside.new HB4.out HPw.out HA6).setCell (by simpa using hwb) _⟩
    clear hs5 hs6 ha5 ha6 HA5 HA6 cc ff HOW HFM HII HVV
    go_wp2
    go_ret
    exact HFI.out
  · have HF : Hid (drawPF rs = ts) := by
      unfold Hid drawPF
      rw [if_neg hh0, if_neg hh1, if_neg hh2, ← HTS.out, if_neg (by rw [← HKK.out]; exact hB)]
    have HFI : Hid (DrawPOut w rs (.returned (.slice aT ts.length cT)) w4) := by
      unfold Hid DrawPOut
      rw [HF.out]
      exact ⟨aT, cT, rfl, ⟨hlen, hcp1, hcp2⟩, HRN.out.row, HB4.out⟩
    by_cases h161 : kk % 16 = 1
    · have htn : ts = [] := by
        by_cases e : ts = []
        · exact e
        · exact absurd ⟨h161, e⟩ hB
      have h161b : (kk % 16 == 1) = true := by rw [beq_iff_eq]; exact h161
      subst htn
      clear hB
      go_wp2
      go_ret
      exact HFI.out
    · have h161b : (kk % 16 == 1) = false := by rw [beq_eq_false_iff_ne]; exact h161
      clear hB
      go_wp2
      go_ret
      exact HFI.out

theorem drawP_any (a : Option Addr) (c : Nat) (bs : List Int) (w : World) (hn : bs.length ≤ 1048576) (hc : bs.length ≤ c) (hcm : c ≤ maxLen) (hnil : a = none → c = 0) (hr : RowAt .u8 w a bs) (hb : Dig 256 bs) :
    Calls Try.prog 14 #[.slice a bs.length c] w fun e w' => DrawPOut w (bs.take 500) e w' := by
  by_cases h0 : (bs.take 500).headD 0 % 16 = 0
  · exact drawP_odd a c bs _ w rfl h0 hn hc hcm hnil hr hb
  · by_cases h1 : (bs.take 500).headD 0 = 1
    · exact drawP_nines a c bs _ w rfl h1 hn hc hcm hnil hr hb
    · by_cases h2 : (bs.take 500).headD 0 = 2
      · exact drawP_ones a c bs _ w rfl h2 hn hc hcm hnil hr hb
      · exact drawP_text a c bs _ w rfl h0 h1 h2 hn hc hcm hnil hr hb

end Go.Proofs.Ytfgpknglgbpebac
