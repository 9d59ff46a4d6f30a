/-
  The program's texts to magnitudes: a factor and an addend; nine digits at a time.
-/
import Derived.Test.YtfgpknglgbpebacImplC0
import Derived.Test.YtfgpknglgbpebacNumP
import Derived.Test.YtfgpknglgbpebacRes
import Derived.Test.YtfgpknglgbpebacResP
namespace Go.Proofs.Ytfgpknglgbpebac
open Go.RowKit

set_option maxHeartbeats 4000000 in
theorem timesPlus_any (a : Option Addr) (p : Nat) (zs : List Int) (f d : Int) (w : World) (hn : zs.length ≤ 100000) (hz : RowAt .u32 w a zs) (hdz : Dig 4294967296 zs) (hf0 : 0 ≤ f) (hf1 : f < 4294967296) (hd0 : 0 ≤ d) (hd1 : d < 4294967296) :
    Calls Try.prog 72 #[.slice a zs.length p, .int .u32 f, .int .u32 d] w fun e w' => MagOut w (f * val 4294967296 zs + d) (zs.length + 1) e w' := by
  have hmk := run_make_row' (P := Try.prog) 66 43 (.int .u32 0) 4 Try.underlying66 Try.info43 rfl .i64 .i64 (zs.length + 1) (by omega) (by omega)
  rw [show ((zs.length + 1 : Nat) : Int) = (zs.length : Int) + 1 by omega] at hmk
  go_enter Try.func72, Try.ntmps72
  go_wp2
  go_loopw [8, 19] (fun cc i wr => ∃ (k : Nat) (c : Int) (out : List Int), k ≤ zs.length ∧ out.length = k ∧ i = .int .i64 k ∧ cc = .int .u64 c ∧ 0 ≤ c ∧ c ≤ 4294967295 ∧ Hid (carryD 4294967296 (mulsL f zs []) d = out ++ carryD 4294967296 (mulsL f (zs.drop k) []) c) ∧ Hid (carryO 4294967296 (mulsL f zs []) d = carryO 4294967296 (mulsL f (zs.drop k) []) c) ∧
      Own .u32 wr w.heap.size 0 (out ++ List.replicate (zs.length + 1 - k) 0) ∧ Below w.heap.size w wr) (fun _ i _ => zs.length - (intOf i).toNat)
  case atStart => exact ⟨0, d, [], Nat.zero_le _, rfl, rfl, rfl, hd0, by omega, rfl, rfl, by simpa using Own.made w (zs.length + 1) _, bel0 _ _⟩
  case round =>
    obtain ⟨k, c, out, hk, hol, rfl, rfl, hc0, hc1, hD, hO, hown, hnx⟩ := hrel
    by_cases hlt : k < zs.length
    · have hb1 := hdz.at (by decide) k
      obtain ⟨b, off, rfl, g1⟩ := row_cell hz hnx hlt
      obtain ⟨x, hx⟩ : ∃ x, x = zs.getD k 0 := ⟨_, rfl⟩
      rw [← hx] at hb1 g1
      obtain ⟨hb10, hb11⟩ := hb1
      have g3 := hown.cell k (by simp; omega)
      have g4 := hown.free k (by simp; omega)
      rw [Nat.zero_add] at g3 g4
      obtain ⟨hxy0, hxy1⟩ := mul_bound hb10 hb11 hf0 hf1
      simp only [Int.reduceSub, Int.reduceMul] at hxy1
      have hcb := carry_bound (B := 4294967296) (s := c + x * f) (by decide) (by omega) (by simp only [Int.reduceSub, Int.reduceMul]; omega)
      have hst := mul_step (B := 4294967296) (x := f) (c := c) (s := c + x * f) (ms := []) hlt (by rw [← hx, Int.mul_comm f x]; simp; omega)
      simp only [List.drop_nil] at hst
      have HD : Hid (carryD 4294967296 (mulsL f zs []) d = (out ++ [(c + x * f) % 4294967296]) ++ carryD 4294967296 (mulsL f (zs.drop (k + 1)) []) ((c + x * f) / 4294967296)) := by unfold Hid; rw [hD.out, hst.1]; simp
      have HO : Hid (carryO 4294967296 (mulsL f zs []) d = carryO 4294967296 (mulsL f (zs.drop (k + 1)) []) ((c + x * f) / 4294967296)) := by unfold Hid; rw [hO.out, hst.2]
      have hs := hown.set k ((c + x * f) % 4294967296) (by simp; omega)
      rw [Nat.zero_add, own_step hol hlt] at hs
      have HS : Hid (Own .u32 (wr.setCell ⟨w.heap.size, k, none⟩ (.int .u32 ((c + x * f) % 4294967296))) w.heap.size 0 ((out ++ [(c + x * f) % 4294967296]) ++ List.replicate (zs.length + 1 - (k + 1)) 0)) := hs
      have HB : Hid (Below w.heap.size w (wr.setCell ⟨w.heap.size, k, none⟩ (.int .u32 ((c + x * f) % 4294967296)))) := hnx.setCell (Nat.le_refl _) _
      obtain ⟨hcb0, hcb1⟩ := hcb
      have HCB : Hid (0 ≤ (c + x * f) / 4294967296 ∧ (c + x * f) / 4294967296 ≤ 4294967295) := ⟨hcb0, by omega⟩
      clear hcb0 hcb1 hst hs hx hD hO hown hnx hz hdz
      go_wp2
      go_roundw
      case rel => exact ⟨k + 1, (c + x * f) / 4294967296, out ++ [(c + x * f) % 4294967296], by omega, by simp; omega, by go_num, rfl, HCB.out.1, HCB.out.2, HD, HO, HS.out, HB.out⟩
      case measure => simp [intOf]; omega
    · have hkn : k = zs.length := by omega
      subst hkn
      have g3 := hown.cell zs.length (by simp; omega)
      have g4 := hown.free zs.length (by simp; omega)
      rw [Nat.zero_add] at g3 g4
      have hs := hown.set zs.length c (by simp; omega)
      rw [Nat.zero_add, own_last hol] at hs
      have hDD : carryD 4294967296 (mulsL f zs []) d = out := by
        rw [hD.out, List.drop_eq_nil_of_le (Nat.le_refl _)]; simp [mulsL, carryD]
      have hOO : carryO 4294967296 (mulsL f zs []) d = c := by
        rw [hO.out, List.drop_eq_nil_of_le (Nat.le_refl _)]; simp [mulsL, carryO]
      have hV : val 4294967296 (out ++ [c]) = f * val 4294967296 zs + d := by rw [← hDD, ← hOO, val_carryDO, val_muls]; simp [val]
      have hG : Dig 4294967296 (out ++ [c]) := by
        refine Dig.append ?_ (Dig.cons hc0 (by omega) (Dig.nil _))
        rw [← hDD]
        exact dig_carryD (by decide) _ _
      have HV : Hid (val 4294967296 (out ++ [c]) = f * val 4294967296 zs + d) := hV
      have HG : Hid (Dig 4294967296 (out ++ [c])) := hG
      have HL : Hid (out.length = zs.length) := hol
      have HS : Hid (Own .u32 (wr.setCell ⟨w.heap.size, zs.length, none⟩ (.int .u32 c)) w.heap.size 0 (out ++ [c])) := hs
      have HB : Hid (Below w.heap.size w (wr.setCell ⟨w.heap.size, zs.length, none⟩ (.int .u32 c))) := hnx.setCell (Nat.le_refl _) _
      clear hs hV hG hDD hOO hD hO hown hnx hz hdz hol
      go_wp2_with fail
      have e1 : zs.length + 1 = (out ++ [c]).length := by simp [HL.out]
      rw [e1]
      refine (trimmed_any _ _ (out ++ [c]) _ w.heap.size (by rw [← e1]; omega) (by rw [← e1]; unfold maxLen; omega) (Nat.le_refl _) (fun h => by cases h) (HS.out.new (Nat.le_refl _))).mono ?_
      rintro e w1 ⟨a2, c2, rfl, hf2, hm2, hr2, hw⟩
      subst hw
      have HM : Hid (MagOut w (f * val 4294967296 zs + d) (zs.length + 1) (.returned (.slice a2 (trimL (out ++ [c])).length c2)) (wr.setCell ⟨w.heap.size, zs.length, none⟩ (.int .u32 c))) := by
        refine ⟨a2, c2, trimL (out ++ [c]), rfl, hf2, hm2, canon_trim HG.out, by rw [val_trim, HV.out], ?_, hr2, HB.out⟩
        have := trim_le (out ++ [c])
        rw [← e1] at this
        omega
      clear hf2 hm2 hr2 HG HV HB HS e1
      go_wp2
      go_ret
      exact HM.out

set_option maxHeartbeats 8000000 in
theorem magnitudeOf_any (a : Option Addr) (c : Nat) (ts : List Int) (w : World) (hn : ts.length ≤ 5000) (hc : c ≤ maxLen) (hfit : ts.length ≤ c) (hz : RowAt .u8 w a ts) (hdec : Dec ts) :
    Calls Try.prog 39 #[.slice a ts.length c] w fun e w' => MagOut w (dval ts) (ts.length + 1) e w' := by
  unfold maxLen at hc
  go_enter Try.func39, Try.ntmps39
  go_wp2
  go_loopw [0, 3] (fun sd sm wr => ∃ (p : Nat) (a1 : Option Addr) (n1 c1 : Nat) (am : Option Addr) (cm : Nat) (fs : List Int), p ≤ ts.length ∧ n1 = ts.length - p ∧ sd = .slice a1 n1 c1 ∧ n1 ≤ c1 ∧ c1 ≤ 2 ^ 63 - 1 ∧ sm = .slice am fs.length cm ∧ fs.length ≤ p ∧ cm ≤ maxLen ∧ fs.length ≤ cm ∧ Hid (RowAt .u8 wr a1 (ts.drop p)) ∧ Hid (RowNew .u32 wr w.heap.size am fs) ∧ Hid (Canon 4294967296 fs) ∧ Hid (val 4294967296 fs = dval (ts.take p)) ∧ (p = 0 ∨ n1 % 9 = 0) ∧ Hid (Below w.heap.size w wr)) (fun sd _ _ => match sd with | .slice _ n _ => n | _ => 0)
  case atStart => exact ⟨0, a, ts.length, c, none, 0, [], by omega, by omega, rfl, hfit, hc, rfl, by simp, by simp, by simp, hz, .inl rfl, ⟨Dig.nil _, rfl⟩, by unfold Hid; simp [val, dval], .inl rfl, Below.refl _ _⟩
  case round =>
    obtain ⟨p, a1, n1, c1, am, cm, fs, hp, hn1, rfl, hf1, hc1, rfl, hfl, hcm, hfm, hrow, hmag, hcan, hval, h9, hbel⟩ := hrel
    by_cases hlt : 0 < n1
    · have hpl : p < ts.length := by omega
      obtain ⟨b, off, rfl, hb, hcell⟩ := hrow.out.resolve_left (by intro e; have := congrArg List.length e; simp at this; omega)
      obtain ⟨n, hnn⟩ : ∃ n : Nat, n = (n1 - 1) % 9 + 1 := ⟨_, rfl⟩
      have hn9 : n ≤ 9 := by omega
      have hnle : n ≤ n1 := by omega
      have HN : Hid (n = (n1 - 1) % 9 + 1) := hnn
      have HCELL : Hid (∀ j, j < (ts.drop p).length → wr.cell? ⟨b, off + j, none⟩ = some (.int .u8 ((ts.drop p).getD j 0))) := hcell
      have HN1 : Hid (n1 = ts.length - p) := hn1
      have e4 : ((n1 : Int) - 1) % 9 + 1 = (n : Int) := by omega
      clear hnn hcell hn1
      go_wp2
      clear e4
      have HL : Hid ((ts.drop p).length = n1) := by unfold Hid; rw [List.length_drop]; have := HN1.out; omega
      go_loop [5, 20] (fun sg t => ∃ j : Nat, j ≤ n ∧ t = .int .i64 j ∧ sg = .int .u32 (dval ((ts.drop p).take j))) (fun _ t => n - (intOf t).toNat)
      case atStart => exact ⟨0, Nat.zero_le _, rfl, by simp [dval]⟩
      case round =>
        obtain ⟨j, hj, rfl, rfl⟩ := hrel
        by_cases hjl : j < n
        · have hjL : j < (ts.drop p).length := by rw [HL.out]; omega
          have g1 := HCELL.out j hjL
          have hd := (hdec.drop p).at hjL
          have hs8 := dval_small8 (hdec.drop p) (j := j) (by omega) (by omega)
          have hst := dval_take_succ hjL
          obtain ⟨t, ht⟩ : ∃ t, t = (ts.drop p).getD j 0 := ⟨_, rfl⟩
          obtain ⟨v, hv⟩ : ∃ v, v = dval ((ts.drop p).take j) := ⟨_, rfl⟩
          rw [← ht] at g1 hd hst
          rw [← hv] at hst hs8
          rw [← hv]
          obtain ⟨hd0, hd1⟩ := hd
          obtain ⟨hs0, hs1⟩ := hs8
          have HST : Hid (dval ((ts.drop p).take (j + 1)) = v * 10 + (t - 48)) := hst
          clear hst ht hv
          go_wp2
          go_round
          case rel => exact ⟨j + 1, by omega, by go_num, by rw [HST.out]⟩
          case measure => simp [intOf]; omega
        · have hjn : j = n := by omega
          subst hjn
          have hs9 := dval_small (ts := (ts.drop p).take j) ((hdec.drop p).take j) (by rw [List.length_take]; omega) (j := j) (by rw [List.length_take, HL.out]; omega)
          rw [List.take_take, Nat.min_self] at hs9
          have HV : Hid (1000000000 * val 4294967296 fs + dval ((ts.drop p).take j) = dval (ts.take (p + j))) := by
            unfold Hid
            rw [hval.out]
            exact dval_next (by rw [← HN1.out]; exact HN.out) hpl (by rw [← HN1.out]; exact h9)
          obtain ⟨v, hv⟩ : ∃ v, v = dval ((ts.drop p).take j) := ⟨_, rfl⟩
          rw [← hv] at hs9 HV
          rw [← hv]
          obtain ⟨hs0, hs1⟩ := hs9
          clear hv
          go_wp2_with fail
          refine (timesPlus_any am cm fs 1000000000 v _ (by omega) hmag.out.row hcan.out.1 (by decide) (by decide) (by omega) (by omega)).mono ?_
          rintro e w2 ⟨a2, c2, gs, rfl, hf2, hm2, hcan2, hval2, hlen2, hrn2, hb2⟩
          rw [HV.out] at hval2
          have HC2 : Hid (Canon 4294967296 gs) := hcan2
          have HV2 : Hid (val 4294967296 gs = dval (ts.take (p + j))) := hval2
          have HR2 : Hid (RowNew .u32 w2 w.heap.size a2 gs) := hrn2.down hbel.out.size
          have HB2 : Hid (Below w.heap.size w w2) := hbel.out.trans (hb2.mono hbel.out.size)
          have HROW : Hid (RowAt .u8 w2 (some ⟨b, off + j, none⟩) (ts.drop (p + j))) := by
            refine RowAt.later (w := wr) ?_ hb2
            refine .inr ⟨b, off + j, rfl, hb, fun k hk => ?_⟩
            have hk' : k < ts.length - (p + j) := by simpa using hk
            have := HCELL.out (j + k) (by rw [HL.out]; have := HN1.out; omega)
            rw [Nat.add_assoc, this]
            simp [List.getD_eq_getElem?_getD, List.getElem?_drop, Nat.add_assoc]
          have HNN : Hid (n1 - j = ts.length - (p + j)) := by unfold Hid; have := HN1.out; omega
          have HJ : Hid (1 ≤ j ∧ (n1 - j) % 9 = 0) := by unfold Hid; have := HN.out; omega
          clear hcan2 hval2 hrn2 hb2 hval hcan hmag hrow HCELL HV hbel
          go_wp2
          go_roundw
          case rel =>
            refine ⟨p + j, _, n1 - j, c1 - j, a2, c2, gs, by have := HN1.out; omega, HNN.out, rfl, by omega, by omega, rfl, by have := HJ.out; omega, hm2, hf2, ?_, HR2, HC2, HV2, .inr HJ.out.2, HB2⟩
            by_cases hcj : c1 = j
            · refine .inl (List.drop_eq_nil_of_le ?_)
              have := HNN.out
              omega
            · rw [if_neg hcj]
              exact HROW.out
          case measure => simp; have := HJ.out; omega
    · have hpn : p = ts.length := by omega
      have hn0 : n1 = 0 := by omega
      subst hpn hn0
      rw [List.take_length] at hval
      have HM : Hid (MagOut w (dval ts) (ts.length + 1) (.returned (.slice am fs.length cm)) wr) := ⟨am, cm, fs, rfl, hfm, hcm, hcan.out, hval.out, by omega, hmag.out, hbel.out⟩
      clear hval hcan hmag hrow hbel hfm hcm hn1 h9 hlt hp hfl
      go_wp2
      go_ret
      exact HM.out

end Go.Proofs.Ytfgpknglgbpebac

/-
  The program's plainDigits, BigParse.
-/
namespace Go.Proofs.Ytfgpknglgbpebac
open Go.RowKit

/-- Bytes. -/
def Byt (ts : List Int) : Prop := ∀ t, t ∈ ts → 0 ≤ t ∧ t ≤ 255

theorem Byt.at {ts : List Int} (h : Byt ts) (j : Nat) : 0 ≤ ts.getD j 0 ∧ ts.getD j 0 ≤ 255 := by
  by_cases hj : j < ts.length
  · rw [List.getD_eq_getElem?_getD, List.getElem?_eq_getElem hj]; exact h _ (List.getElem_mem hj)
  · rw [List.getD_eq_getElem?_getD, List.getElem?_eq_none (by omega)]; decide

set_option maxHeartbeats 2000000 in
theorem plain_any (a : Option Addr) (c : Nat) (ts : List Int) (w : World) (hn : ts.length ≤ 1048576) (hz : RowAt .u8 w a ts) :
    Calls Try.prog 36 #[.slice a ts.length c] w fun e w' => e = .returned (.bool (plainB ts)) ∧ w' = w := by
  go_enter Try.func36, Try.ntmps36
  go_wp2
  go_loop [7] (fun i => ∃ k : Nat, k ≤ ts.length ∧ i = .int .i64 k ∧ Hid (Dec (ts.take k))) (fun i => ts.length - (intOf i).toNat)
  case atStart => exact ⟨0, Nat.zero_le _, rfl, fun t ht => by simp at ht⟩
  case round =>
    obtain ⟨k, hk, rfl, hd⟩ := hrel
    by_cases hlt : k < ts.length
    · obtain ⟨b, off, rfl, g1⟩ := row_cell hz (Below.refl _ w) hlt
      obtain ⟨t, ht⟩ : ∃ t, t = ts.getD k 0 := ⟨_, rfl⟩
      rw [← ht] at g1
      have HT : Hid (t = ts.getD k 0) := ht
      clear ht
      by_cases h0 : t < 48
      · have HP : Hid (plainB ts = false) := plain_bad hlt (by rw [← HT.out]; omega)
        go_wp2
        go_ret
        exact ⟨ret_bool HP.out.symm, rfl⟩
      · by_cases h1 : 57 < t
        · have HP : Hid (plainB ts = false) := plain_bad hlt (by rw [← HT.out]; omega)
          go_wp2
          go_ret
          exact ⟨ret_bool HP.out.symm, rfl⟩
        · have HD : Hid (Dec (ts.take (k + 1))) := dec_succ hlt hd.out (by rw [← HT.out]; omega) (by rw [← HT.out]; omega)
          go_wp2
          go_round
          case rel => exact ⟨k + 1, by omega, by go_num, HD⟩
          case measure => simp [intOf]; omega
    · have hkn : k = ts.length := by omega
      subst hkn
      rw [List.take_length] at hd
      have HA : Hid (ts.all (fun t => decide (48 ≤ t) && decide (t ≤ 57)) = true) := all_dec hd.out
      clear hd
      by_cases hl1 : ts.length = 1
      · have HP : Hid (plainB ts = true) := by unfold Hid plainB; rw [HA.out]; simp [hl1]
        have e1 : ((ts.length : Int) == 1) = true := by rw [beq_iff_eq]; omega
        clear hl1
        go_wp2
        go_ret
        exact ⟨ret_bool HP.out.symm, rfl⟩
      · have e1 : ((ts.length : Int) == 1) = false := by rw [beq_eq_false_iff_ne]; omega
        by_cases hl2 : 1 < ts.length
        · obtain ⟨b, off, rfl, g1⟩ := row_cell hz (Below.refl _ w) (show 0 < ts.length by omega)
          obtain ⟨t, ht⟩ : ∃ t, t = ts.getD 0 0 := ⟨_, rfl⟩
          rw [← ht, Nat.add_zero] at g1
          have HP : Hid (plainB ts = (t != 48)) := by unfold Hid plainB; rw [HA.out, ht]; simp [hl1, hl2]
          clear ht hl1
          go_wp2
          go_ret
          exact ⟨ret_bool HP.out.symm, rfl⟩
        · have HP : Hid (plainB ts = false) := by unfold Hid plainB; simp [hl1, hl2]
          clear hl1
          go_wp2
          go_ret
          exact ⟨ret_bool HP.out.symm, rfl⟩

end Go.Proofs.Ytfgpknglgbpebac

/-
  The program's BigParse.
-/
namespace Go.Proofs.Ytfgpknglgbpebac
open Go.RowKit

theorem plain_pos {ts : List Int} (h : plainB ts = true) : 0 < ts.length := by
  unfold plainB at h
  simp at h
  omega

set_option maxHeartbeats 4000000 in
theorem parseI_plus (b off c : Nat) (ts : List Int) (w : World) (hn : ts.length ≤ 1048576) (hc : c ≤ maxLen) (hfit : ts.length ≤ c) (hz : RowAt .u8 w (some ⟨b, off, none⟩) ts) (hpos : 0 < ts.length) (hb : b < w.heap.size) (t0 : Int) (g0 : w.cell? ⟨b, off, none⟩ = some (.int .u8 t0)) (e45 : (t0 == 45) = false) (hng : negB ts = false) :
    Calls Try.prog 11 #[.slice (some ⟨b, off, none⟩) ts.length c] w fun e w' => OutP w ts e w' := by
  have HNEG : Hid (negB ts = false) := hng
  have HDIG0 : digs ts = ts := by unfold digs; rw [hng]; rfl
  obtain ⟨us, hus⟩ : ∃ us, us = ts := ⟨_, rfl⟩
  have HDIG : Hid (digs ts = us) := by unfold Hid; rw [HDIG0, hus]
  have hrow : RowAt .u8 w (some ⟨b, off, none⟩) us := by rw [hus]; exact hz
  have hlen : ts.length = us.length := by rw [hus]
  have HLEN : Hid (ts.length = us.length) := hlen
  rw [hlen] at hn hfit
  clear hng HDIG0 hus hz hlen
  cases hpl : plainB us
  · have HRP : Hid (ResP ts false [] 3) := .inl ⟨by unfold synB; rw [HDIG.out, hpl]; rfl, rfl, rfl, rfl⟩
    go_enter Try.func11, Try.ntmps11
    go_wp2_with fail
    rw [HLEN.out]
    refine (plain_any (some ⟨b, off, none⟩) (c) us _ (by omega) (hrow.later (bel0 _ _))).mono ?_
    rintro e w0 ⟨rfl, hw⟩
    subst hw
    rw [hpl]
    go_wp2
    refine bodyPost_ret (v := .tuple #[.agg #[.bool false, .slice none 0 0], .int .i64 3]) (by simp [results, Try.results11, go_sem]) rfl ?_
    exact ⟨false, [], 3, none, 0, rfl, HRP.out, .inl rfl, bel0 _ _⟩
  · have hdec := dec_of_plain hpl
    have hne : 0 < us.length := plain_pos hpl
    have HSYN : Hid (synB ts = true) := by
      unfold Hid synB
      rw [HDIG.out, hpl, HNEG.out]
      rfl
    by_cases hlen5 : us.length ≤ 5000
    · go_enter Try.func11, Try.ntmps11
      go_wp2_with fail
      rw [HLEN.out]
      refine (plain_any (some ⟨b, off, none⟩) (c) us _ (by omega) (hrow.later (bel0 _ _))).mono ?_
      rintro e w0 ⟨rfl, hw⟩
      subst hw
      rw [hpl]
      go_wp2_with fail
      try rw [HLEN.out]
      refine (magnitudeOf_any (some ⟨b, off, none⟩) (c) us _ hlen5 (by unfold maxLen at *; omega) (by omega) (hrow.later (bel0 _ _)) hdec).mono ?_
      rintro e w1 ⟨a2, c2, fs, rfl, hf2, hm2, hcan, hval, hlenf, hrn, hb1⟩
      go_wp2_with fail
      refine (signed_any false a2 fs.length c2 _).mono ?_
      rintro e w2 ⟨rfl, hb2⟩
      obtain ⟨gx, hgx⟩ : ∃ gx, gx = (false && decide (0 < fs.length)) := ⟨_, rfl⟩
      rw [← hgx]
      have HGX : Hid (gx = (false && decide (0 < fs.length))) := hgx
      clear hgx
      go_wp2_with fail
      refine (within_any gx a2 c2 fs _ (w.heap.size + 1) (by omega) (RowNew.later (by simpa using hrn) hb2)).mono ?_
      rintro e w3 ⟨a5, c5, rfl, hr5, hb3⟩
      have hE : Hid (ResP ts (limOut gx fs).1 (limOut gx fs).2.1 (limOut gx fs).2.2) := .inr (.inr ⟨HSYN.out, by rw [HDIG.out]; exact hlen5, by rw [HDIG.out, HNEG.out]; exact res_lim (by rw [HGX.out]; exact B1.of_signed (g := false) hcan hval)⟩)
      have hB : Below (w.alloc (.cells #[.bool false, .slice none 0 0] 25)).heap.size (w.alloc (.cells #[.bool false, .slice none 0 0] 25)) w3 := (hb1.trans (hb2.mono hb1.size)).trans (hb3.mono (Nat.le_trans hb1.size hb2.size))
      have hh : Hid (Has w.heap.size w3) := (Has.new w 25).later hB
      have HB : Hid (Below w.heap.size w w3) := (bel0 _ _).trans (hB.mono (by simp))
      have r1 := hh.out.r1
      have r2 := hh.out.r2
      have r3 := hh.out.r3
      have HR : Hid (RowNew .u32 w3 (w.heap.size + 1) a5 (limOut gx fs).2.1) := hr5
      clear hB hb1 hb2 hb3 hr5 hrn hcan hval
      generalize (limOut gx fs).1 = G at *
      generalize (limOut gx fs).2.1 = Z at *
      generalize (limOut gx fs).2.2 = K at *
      go_wp2
      refine bodyPost_ret (v := .tuple #[.agg #[.bool G, .slice a5 Z.length c5], .int .i64 K]) (by simp [results, Try.results11, go_sem, r1, r2]) rfl ?_
      refine ⟨G, Z, K, a5, c5, rfl, hE.out, ?_, ?_⟩
      · exact ((HR.out.setLow (by simp) _).setLow (by simp) _).down (by omega)
      · exact (HB.out.setCell (by simp) _).setCell (by simp) _
    · have HRP : Hid (ResP ts false [] 2) := .inr (.inl ⟨HSYN.out, by rw [HDIG.out]; omega, rfl, rfl, rfl⟩)
      go_enter Try.func11, Try.ntmps11
      go_wp2_with fail
      rw [HLEN.out]
      refine (plain_any (some ⟨b, off, none⟩) (c) us _ (by omega) (hrow.later (bel0 _ _))).mono ?_
      rintro e w0 ⟨rfl, hw⟩
      subst hw
      rw [hpl]
      go_wp2
      refine bodyPost_ret (v := .tuple #[.agg #[.bool false, .slice none 0 0], .int .i64 2]) (by simp [results, Try.results11, go_sem]) rfl ?_
      exact ⟨false, [], 2, none, 0, rfl, HRP.out, .inl rfl, bel0 _ _⟩

set_option maxHeartbeats 4000000 in
theorem parseI_minus (b off c : Nat) (ts : List Int) (w : World) (hn : ts.length ≤ 1048576) (hc : c ≤ maxLen) (hfit : ts.length ≤ c) (hz : RowAt .u8 w (some ⟨b, off, none⟩) ts) (hpos : 0 < ts.length) (hc1 : ¬ c = 1) (hb : b < w.heap.size) (t0 : Int) (g0 : w.cell? ⟨b, off, none⟩ = some (.int .u8 t0)) (e45 : (t0 == 45) = true) (hng : negB ts = true) :
    Calls Try.prog 11 #[.slice (some ⟨b, off, none⟩) ts.length c] w fun e w' => OutP w ts e w' := by
  have HNEG : Hid (negB ts = true) := hng
  have HDIG0 : digs ts = ts.drop 1 := by unfold digs; rw [hng]; rfl
  obtain ⟨us, hus⟩ : ∃ us, us = ts.drop 1 := ⟨_, rfl⟩
  have HDIG : Hid (digs ts = us) := by unfold Hid; rw [HDIG0, hus]
  have hrow : RowAt .u8 w (some ⟨b, off + 1, none⟩) us := by rw [hus]; exact row_drop1 hz
  have hlen : ts.length - 1 = us.length := by rw [hus]; simp
  have HLEN : Hid (ts.length - 1 = us.length) := hlen
  have hul : us.length ≤ 1048576 := by omega
  have huc : us.length + 1 ≤ c := by omega
  clear hng HDIG0 hus hz hlen
  cases hpl : plainB us
  · have HRP : Hid (ResP ts false [] 3) := .inl ⟨by unfold synB; rw [HDIG.out, hpl]; rfl, rfl, rfl, rfl⟩
    go_enter Try.func11, Try.ntmps11
    go_wp2_with fail
    rw [HLEN.out]
    refine (plain_any (some ⟨b, off + 1, none⟩) (c - 1) us _ (by omega) (hrow.later (bel0 _ _))).mono ?_
    rintro e w0 ⟨rfl, hw⟩
    subst hw
    rw [hpl]
    go_wp2
    refine bodyPost_ret (v := .tuple #[.agg #[.bool false, .slice none 0 0], .int .i64 3]) (by simp [results, Try.results11, go_sem]) rfl ?_
    exact ⟨false, [], 3, none, 0, rfl, HRP.out, .inl rfl, bel0 _ _⟩
  · have hdec := dec_of_plain hpl
    have hne : 0 < us.length := plain_pos hpl
    obtain ⟨u0, hu0⟩ : ∃ u0, u0 = us.getD 0 0 := ⟨_, rfl⟩
    have gd : w.cell? ⟨b, off + 1, none⟩ = some (.int .u8 u0) := by
      obtain ⟨b', off', e', g'⟩ := row_cell hrow (Below.refl _ w) hne
      injection e' with e'
      cases e'
      rw [hu0]
      exact g'
    have HU0 : Hid (u0 = us.getD 0 0) := hu0
    clear hu0
    by_cases h48 : u0 = 48
    · have HRP : Hid (ResP ts false [] 3) := .inl ⟨by unfold synB; rw [HDIG.out, hpl, HNEG.out, ← HU0.out, h48]; rfl, rfl, rfl, rfl⟩
      have e48 : (u0 == 48) = true := by rw [h48]; rfl
      clear h48
      go_enter Try.func11, Try.ntmps11
      go_wp2_with fail
      rw [HLEN.out]
      refine (plain_any (some ⟨b, off + 1, none⟩) (c - 1) us _ (by omega) (hrow.later (bel0 _ _))).mono ?_
      rintro e w0 ⟨rfl, hw⟩
      subst hw
      rw [hpl]
      go_wp2
      refine bodyPost_ret (v := .tuple #[.agg #[.bool false, .slice none 0 0], .int .i64 3]) (by simp [results, Try.results11, go_sem]) rfl ?_
      exact ⟨false, [], 3, none, 0, rfl, HRP.out, .inl rfl, bel0 _ _⟩
    · have HSYN : Hid (synB ts = true) := by
        unfold Hid synB
        rw [HDIG.out, hpl, HNEG.out, ← HU0.out]
        simp [h48]
      have e48 : (u0 == 48) = false := by rw [beq_eq_false_iff_ne]; exact h48
      clear h48
      by_cases hlen5 : us.length ≤ 5000
      · go_enter Try.func11, Try.ntmps11
        go_wp2_with fail
        rw [HLEN.out]
        refine (plain_any (some ⟨b, off + 1, none⟩) (c - 1) us _ (by omega) (hrow.later (bel0 _ _))).mono ?_
        rintro e w0 ⟨rfl, hw⟩
        subst hw
        rw [hpl]
        go_wp2_with fail
        try rw [HLEN.out]
        refine (magnitudeOf_any (some ⟨b, off + 1, none⟩) (c - 1) us _ hlen5 (by unfold maxLen at *; omega) (by omega) (hrow.later (bel0 _ _)) hdec).mono ?_
        rintro e w1 ⟨a2, c2, fs, rfl, hf2, hm2, hcan, hval, hlenf, hrn, hb1⟩
        go_wp2_with fail
        refine (signed_any true a2 fs.length c2 _).mono ?_
        rintro e w2 ⟨rfl, hb2⟩
        obtain ⟨gx, hgx⟩ : ∃ gx, gx = (true && decide (0 < fs.length)) := ⟨_, rfl⟩
        rw [← hgx]
        have HGX : Hid (gx = (true && decide (0 < fs.length))) := hgx
        clear hgx
        go_wp2_with fail
        refine (within_any gx a2 c2 fs _ (w.heap.size + 1) (by omega) (RowNew.later (by simpa using hrn) hb2)).mono ?_
        rintro e w3 ⟨a5, c5, rfl, hr5, hb3⟩
        have hE : Hid (ResP ts (limOut gx fs).1 (limOut gx fs).2.1 (limOut gx fs).2.2) := .inr (.inr ⟨HSYN.out, by rw [HDIG.out]; exact hlen5, by rw [HDIG.out, HNEG.out]; exact res_lim (by rw [HGX.out]; exact B1.of_signed (g := true) hcan hval)⟩)
        have hB : Below (w.alloc (.cells #[.bool false, .slice none 0 0] 25)).heap.size (w.alloc (.cells #[.bool false, .slice none 0 0] 25)) w3 := (hb1.trans (hb2.mono hb1.size)).trans (hb3.mono (Nat.le_trans hb1.size hb2.size))
        have hh : Hid (Has w.heap.size w3) := (Has.new w 25).later hB
        have HB : Hid (Below w.heap.size w w3) := (bel0 _ _).trans (hB.mono (by simp))
        have r1 := hh.out.r1
        have r2 := hh.out.r2
        have r3 := hh.out.r3
        have HR : Hid (RowNew .u32 w3 (w.heap.size + 1) a5 (limOut gx fs).2.1) := hr5
        clear hB hb1 hb2 hb3 hr5 hrn hcan hval
        generalize (limOut gx fs).1 = G at *
        generalize (limOut gx fs).2.1 = Z at *
        generalize (limOut gx fs).2.2 = K at *
        go_wp2
        refine bodyPost_ret (v := .tuple #[.agg #[.bool G, .slice a5 Z.length c5], .int .i64 K]) (by simp [results, Try.results11, go_sem, r1, r2]) rfl ?_
        refine ⟨G, Z, K, a5, c5, rfl, hE.out, ?_, ?_⟩
        · exact ((HR.out.setLow (by simp) _).setLow (by simp) _).down (by omega)
        · exact (HB.out.setCell (by simp) _).setCell (by simp) _
      · have HRP : Hid (ResP ts false [] 2) := .inr (.inl ⟨HSYN.out, by rw [HDIG.out]; omega, rfl, rfl, rfl⟩)
        go_enter Try.func11, Try.ntmps11
        go_wp2_with fail
        rw [HLEN.out]
        refine (plain_any (some ⟨b, off + 1, none⟩) (c - 1) us _ (by omega) (hrow.later (bel0 _ _))).mono ?_
        rintro e w0 ⟨rfl, hw⟩
        subst hw
        rw [hpl]
        go_wp2
        refine bodyPost_ret (v := .tuple #[.agg #[.bool false, .slice none 0 0], .int .i64 2]) (by simp [results, Try.results11, go_sem]) rfl ?_
        exact ⟨false, [], 2, none, 0, rfl, HRP.out, .inl rfl, bel0 _ _⟩

set_option maxHeartbeats 2000000 in
theorem parseI_none (a : Option Addr) (c : Nat) (w : World) :
    Calls Try.prog 11 #[.slice a 0 c] w fun e w' => OutP w [] e w' := by
  have hpl : plainB [] = false := rfl
  have HRP : Hid (ResP [] false [] 3) := .inl ⟨rfl, rfl, rfl, rfl⟩
  go_enter Try.func11, Try.ntmps11
  go_wp2_with fail
  refine (plain_any a c [] _ (by simp) (.inl rfl)).mono ?_
  rintro e w0 ⟨rfl, hw⟩
  subst hw
  rw [show plainB [] = false from rfl]
  clear hpl
  go_wp2
  refine bodyPost_ret (v := .tuple #[.agg #[.bool false, .slice none 0 0], .int .i64 3]) (by simp [results, Try.results11, go_sem]) rfl ?_
  exact ⟨false, [], 3, none, 0, rfl, HRP.out, .inl rfl, bel0 _ _⟩

set_option maxHeartbeats 2000000 in
theorem parseI_sign (b off : Nat) (t0 : Int) (w : World) (hb : b < w.heap.size) (g0 : w.cell? ⟨b, off, none⟩ = some (.int .u8 t0)) (e45 : (t0 == 45) = true) :
    Calls Try.prog 11 #[.slice (some ⟨b, off, none⟩) 1 1] w fun e w' => OutP w [t0] e w' := by
  have HRP : Hid (ResP [t0] false [] 3) := by
    have h45 : t0 = 45 := by simpa using e45
    subst h45
    exact .inl ⟨rfl, rfl, rfl, rfl⟩
  go_enter Try.func11, Try.ntmps11
  go_wp2_with fail
  refine (plain_any _ _ [] _ (by simp) (.inl rfl)).mono ?_
  rintro e w0 ⟨rfl, hw⟩
  subst hw
  rw [show plainB [] = false from rfl]
  go_wp2
  refine bodyPost_ret (v := .tuple #[.agg #[.bool false, .slice none 0 0], .int .i64 3]) (by simp [results, Try.results11, go_sem]) rfl ?_
  exact ⟨false, [], 3, none, 0, rfl, HRP.out, .inl rfl, bel0 _ _⟩

theorem parseI_any (a : Option Addr) (c : Nat) (ts : List Int) (w : World) (hn : ts.length ≤ 1048576) (hc : c ≤ maxLen) (hfit : ts.length ≤ c) (hz : RowAt .u8 w a ts) :
    Calls Try.prog 11 #[.slice a ts.length c] w fun e w' => OutP w ts e w' := by
  by_cases h0 : ts.length = 0
  · have : ts = [] := List.length_eq_zero_iff.1 h0
    subst this
    exact parseI_none a c w
  · have hpos : 0 < ts.length := by omega
    obtain ⟨b, off, rfl, hb, hcell⟩ := hz.resolve_left (by intro e; subst e; simp at h0)
    have g0 := hcell 0 hpos
    rw [Nat.add_zero] at g0
    have hng : negB ts = (ts.getD 0 0 == 45) := by unfold negB; simp [hpos]
    cases e45 : (ts.getD 0 0 == 45)
    · exact parseI_plus b off c ts w hn hc hfit hz hpos hb _ g0 e45 (by rw [hng, e45])
    · by_cases hc1 : c = 1
      · have h1 : ts.length = 1 := by omega
        obtain ⟨t0, ht0⟩ := List.length_eq_one_iff.1 h1
        subst ht0 hc1
        exact parseI_sign b off t0 w hb (by simpa using g0) (by simpa using e45)
      · exact parseI_minus b off c ts w hn hc hfit hz hpos hc1 hb _ g0 e45 (by rw [hng, e45])

end Go.Proofs.Ytfgpknglgbpebac
