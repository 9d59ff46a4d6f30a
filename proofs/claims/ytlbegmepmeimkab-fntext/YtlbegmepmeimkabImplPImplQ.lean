/-
  The program's texts to magnitudes: a factor and an addend; nine digits at a time.
-/
import Derived.Test.YtlbegmepmeimkabNumTxImplXImplC0
import Derived.Test.YtlbegmepmeimkabNumMNumPResP
import Derived.Test.YtlbegmepmeimkabResHasLawB
namespace Go.Proofs.Ytlbegmepmeimkab
open Go.RowKit

set_option maxHeartbeats 4000000 in
theorem timesPlus_any (a : Option Addr) (p : Nat) (zs : List Int) (f d : Int) (w : World) (hn : zs.length ≤ 100000) (hz : RowAt .u32 w a zs) (hdz : Dig 4294967296 zs) (hf0 : 0 ≤ f) (hf1 : f < 4294967296) (hd0 : 0 ≤ d) (hd1 : d < 4294967296) :
    Calls Try.prog 71 #[.slice a zs.length p, .int .u32 f, .int .u32 d] w fun e w' => MagOut w (f * val 4294967296 zs + d) (zs.length + 1) e w' := by
  have hmk := run_make_row' (P := Try.prog) 67 46 (.int .u32 0) 4 Try.underlying67 Try.info46 rfl .i64 .i64 (zs.length + 1) (by omega) (by omega)
  rw [show ((zs.length + 1 : Nat) : Int) = (zs.length : Int) + 1 by omega] at hmk
  go_enter Try.func71, Try.ntmps71
  go_wp2
  go_loopw [8, 19] (fun cc i wr => ∃ (k : Nat) (c : Int) (out : List Int), k ≤ zs.length ∧ out.length = k ∧ i = .int .i64 k ∧ cc = .int .u64 c ∧ 0 ≤ c ∧ c ≤ 4294967295 ∧ Hid (carryD 4294967296 (mulsL f zs []) d = out ++ carryD 4294967296 (mulsL f (zs.drop k) []) c) ∧ Hid (carryO 4294967296 (mulsL f zs []) d = carryO 4294967296 (mulsL f (zs.drop k) []) c) ∧
      Own .u32 wr w.heap.size 0 (out ++ List.replicate (zs.length + 1 - k) 0) ∧ Below w.heap.size w wr) (fun _ i _ => zs.length - (intOf i).toNat)
  case atStart => exact ⟨0, d, [], Nat.zero_le _, rfl, rfl, rfl, hd0, by omega, rfl, rfl, by simpa using Own.made w (zs.length + 1) _, bel0 _ _⟩
  case round =>
    obtain ⟨k, c, out, hk, hol, rfl, rfl, hc0, hc1, hD, hO, hown, hnx⟩ := hrel
    by_cases hlt : k < zs.length
    · have hb1 := hdz.at (by decide) k
      obtain ⟨b, off, rfl, g1⟩ := row_cell hz hnx hlt
      obtain ⟨x, hx⟩ : ∃ x, x = zs.getD k 0 := ⟨_, rfl⟩
      rw [← hx] at hb1 g1
      obtain ⟨hb10, hb11⟩ := hb1
      have g3 := hown.cell k (by simp; omega)
      have g4 := hown.free k (by simp; omega)
      rw [Nat.zero_add] at g3 g4
      obtain ⟨hxy0, hxy1⟩ := mul_bound hb10 hb11 hf0 hf1
      simp only [Int.reduceSub, Int.reduceMul] at hxy1
      have hcb := carry_bound (B := 4294967296) (s := c + x * f) (by decide) (by omega) (by simp only [Int.reduceSub, Int.reduceMul]; omega)
      have hst := mul_step (B := 4294967296) (x := f) (c := c) (s := c + x * f) (ms := []) hlt (by rw [← hx, Int.mul_comm f x]; simp; omega)
      simp only [List.drop_nil] at hst
      have HD : Hid (carryD 4294967296 (mulsL f zs []) d = (out ++ [(c + x * f) % 4294967296]) ++ carryD 4294967296 (mulsL f (zs.drop (k + 1)) []) ((c + x * f) / 4294967296)) := by unfold Hid; rw [hD.out, hst.1]; simp
      have HO : Hid (carryO 4294967296 (mulsL f zs []) d = carryO 4294967296 (mulsL f (zs.drop (k + 1)) []) ((c + x * f) / 4294967296)) := by unfold Hid; rw [hO.out, hst.2]
      have hs := hown.set k ((c + x * f) % 4294967296) (by simp; omega)
      rw [Nat.zero_add, own_step hol hlt] at hs
      have HS : Hid (Own .u32 (wr.setCell ⟨w.heap.size, k, none⟩ (.int .u32 ((c + x * f) % 4294967296))) w.heap.size 0 ((out ++ [(c + x * f) % 4294967296]) ++ List.replicate (zs.length + 1 - (k + 1)) 0)) := hs
      have HB : Hid (Below w.heap.size w (wr.setCell ⟨w.heap.size, k, none⟩ (.int .u32 ((c + x * f) % 4294967296)))) := hnx.setCell (Nat.le_refl _) _
      obtain ⟨hcb0, hcb1⟩ := hcb
      have HCB : Hid (0 ≤ (c + x * f) / 4294967296 ∧ (c + x * f) / 4294967296 ≤ 4294967295) := ⟨hcb0, by omega⟩
      clear hcb0 hcb1 hst hs hx hD hO hown hnx hz hdz
      go_wp2
      go_roundw
      case rel => exact ⟨k + 1, (c + x * f) / 4294967296, out ++ [(c + x * f) % 4294967296], by omega, by simp; omega, by go_num, rfl, HCB.out.1, HCB.out.2, HD, HO, HS.out, HB.out⟩
      case measure => simp [intOf]; omega
    · have hkn : k = zs.length := by omega
      subst hkn
      have g3 := hown.cell zs.length (by simp; omega)
      have g4 := hown.free zs.length (by simp; omega)
      rw [Nat.zero_add] at g3 g4
      have hs := hown.set zs.length c (by simp; omega)
      rw [Nat.zero_add, own_last hol] at hs
      have hDD : carryD 4294967296 (mulsL f zs []) d = out := by
        rw [hD.out, List.drop_eq_nil_of_le (Nat.le_refl _)]; simp [mulsL, carryD]
      have hOO : carryO 4294967296 (mulsL f zs []) d = c := by
        rw [hO.out, List.drop_eq_nil_of_le (Nat.le_refl _)]; simp [mulsL, carryO]
      have hV : val 4294967296 (out ++ [c]) = f * val 4294967296 zs + d := by rw [← hDD, ← hOO, val_carryDO, val_muls]; simp [val]
      have hG : Dig 4294967296 (out ++ [c]) := by
        refine Dig.append ?_ (Dig.cons hc0 (by omega) (Dig.nil _))
        rw [← hDD]
        exact dig_carryD (by decide) _ _
      have HV : Hid (val 4294967296 (out ++ [c]) = f * val 4294967296 zs + d) := hV
      have HG : Hid (Dig 4294967296 (out ++ [c])) := hG
      have HL : Hid (out.length = zs.length) := hol
      have HS : Hid (Own .u32 (wr.setCell ⟨w.heap.size, zs.length, none⟩ (.int .u32 c)) w.heap.size 0 (out ++ [c])) := hs
      have HB : Hid (Below w.heap.size w (wr.setCell ⟨w.heap.size, zs.length, none⟩ (.int .u32 c))) := hnx.setCell (Nat.le_refl _) _
      clear hs hV hG hDD hOO hD hO hown hnx hz hdz hol
      go_wp2_with fail
      have e1 : zs.length + 1 = (out ++ [c]).length := by simp [HL.out]
      rw [e1]
      refine (trimmed_any _ _ (out ++ [c]) _ w.heap.size (by rw [← e1]; omega) (by rw [← e1]; unfold maxLen; omega) (Nat.le_refl _) (fun h => by cases h) (HS.out.new (Nat.le_refl _))).mono ?_
      rintro e w1 ⟨a2, c2, rfl, hf2, hm2, hr2, hw⟩
      subst hw
      have HM : Hid (MagOut w (f * val 4294967296 zs + d) (zs.length + 1) (.returned (.slice a2 (trimL (out ++ [c])).length c2)) (wr.setCell ⟨w.heap.size, zs.length, none⟩ (.int .u32 c))) := by
        refine ⟨a2, c2, trimL (out ++ [c]), rfl, hf2, hm2, canon_trim HG.out, by rw [val_trim, HV.out], ?_, hr2, HB.out⟩
        have := trim_le (out ++ [c])
        rw [← e1] at this
        omega
      clear hf2 hm2 hr2 HG HV HB HS e1
      go_wp2
      go_ret
      exact HM.out

set_option maxHeartbeats 8000000 in
theorem magnitudeOf_any (a : Option Addr) (c : Nat) (ts : List Int) (w : World) (hn : ts.length ≤ 5000) (hc : c ≤ maxLen) (hfit : ts.length ≤ c) (hz : RowAt .u8 w a ts) (hdec : Dec ts) :
    Calls Try.prog 51 #[.slice a ts.length c] w fun e w' => MagOut w (dval ts) (ts.length + 1) e w' := by
  unfold maxLen at hc
  go_enter Try.func51, Try.ntmps51
  go_wp2
  go_loopw [0, 3] (fun sd sm wr => ∃ (p : Nat) (a1 : Option Addr) (n1 c1 : Nat) (am : Option Addr) (cm : Nat) (fs : List Int), p ≤ ts.length ∧ n1 = ts.length - p ∧ sd = .slice a1 n1 c1 ∧ n1 ≤ c1 ∧ c1 ≤ 2 ^ 63 - 1 ∧ sm = .slice am fs.length cm ∧ fs.length ≤ p ∧ cm ≤ maxLen ∧ fs.length ≤ cm ∧ Hid (RowAt .u8 wr a1 (ts.drop p)) ∧ Hid (RowNew .u32 wr w.heap.size am fs) ∧ Hid (Canon 4294967296 fs) ∧ Hid (val 4294967296 fs = dval (ts.take p)) ∧ (p = 0 ∨ n1 % 9 = 0) ∧ Hid (Below w.heap.size w wr)) (fun sd _ _ => match sd with | .slice _ n _ => n | _ => 0)
  case atStart => exact ⟨0, a, ts.length, c, none, 0, [], by omega, by omega, rfl, hfit, hc, rfl, by simp, by simp, by simp, hz, .inl rfl, ⟨Dig.nil _, rfl⟩, by unfold Hid; simp [val, dval], .inl rfl, Below.refl _ _⟩
  case round =>
    obtain ⟨p, a1, n1, c1, am, cm, fs, hp, hn1, rfl, hf1, hc1, rfl, hfl, hcm, hfm, hrow, hmag, hcan, hval, h9, hbel⟩ := hrel
    by_cases hlt : 0 < n1
    · have hpl : p < ts.length := by omega
      obtain ⟨b, off, rfl, hb, hcell⟩ := hrow.out.resolve_left (by intro e; have := congrArg List.length e; simp at this; omega)
      obtain ⟨n, hnn⟩ : ∃ n : Nat, n = (n1 - 1) % 9 + 1 := ⟨_, rfl⟩
      have hn9 : n ≤ 9 := by omega
      have hnle : n ≤ n1 := by omega
      have HN : Hid (n = (n1 - 1) % 9 + 1) := hnn
      have HCELL : Hid (∀ j, j < (ts.drop p).length → wr.cell? ⟨b, off + j, none⟩ = some (.int .u8 ((ts.drop p).getD j 0))) := hcell
      have HN1 : Hid (n1 = ts.length - p) := hn1
      have e4 : ((n1 : Int) - 1) % 9 + 1 = (n : Int) := by omega
      clear hnn hcell hn1
      go_wp2
      clear e4
      have HL : Hid ((ts.drop p).length = n1) := by unfold Hid; rw [List.length_drop]; have := HN1.out; omega
      go_loop [5, 20] (fun sg t => ∃ j : Nat, j ≤ n ∧ t = .int .i64 j ∧ sg = .int .u32 (dval ((ts.drop p).take j))) (fun _ t => n - (intOf t).toNat)
      case atStart => exact ⟨0, Nat.zero_le _, rfl, by simp [dval]⟩
      case round =>
        obtain ⟨j, hj, rfl, rfl⟩ := hrel
        by_cases hjl : j < n
        · have hjL : j < (ts.drop p).length := by rw [HL.out]; omega
          have g1 := HCELL.out j hjL
          have hd := (hdec.drop p).at hjL
          have hs8 := dval_small8 (hdec.drop p) (j := j) (by omega) (by omega)
          have hst := dval_take_succ hjL
          obtain ⟨t, ht⟩ : ∃ t, t = (ts.drop p).getD j 0 := ⟨_, rfl⟩
          obtain ⟨v, hv⟩ : ∃ v, v = dval ((ts.drop p).take j) := ⟨_, rfl⟩
          rw [← ht] at g1 hd hst
          rw [← hv] at hst hs8
          rw [← hv]
          obtain ⟨hd0, hd1⟩ := hd
          obtain ⟨hs0, hs1⟩ := hs8
          have HST : Hid (dval ((ts.drop p).take (j + 1)) = v * 10 + (t - 48)) := hst
          clear hst ht hv
          go_wp2
          go_round
          case rel => exact ⟨j + 1, by omega, by go_num, by rw [HST.out]⟩
          case measure => simp [intOf]; omega
        · have hjn : j = n := by omega
          subst hjn
          have hs9 := dval_small (ts := (ts.drop p).take j) ((hdec.drop p).take j) (by rw [List.length_take]; omega) (j := j) (by rw [List.length_take, HL.out]; omega)
          rw [List.take_take, Nat.min_self] at hs9
          have HV : Hid (1000000000 * val 4294967296 fs + dval ((ts.drop p).take j) = dval (ts.take (p + j))) := by
            unfold Hid
            rw [hval.out]
            exact dval_next (by rw [← HN1.out]; exact HN.out) hpl (by rw [← HN1.out]; exact h9)
          obtain ⟨v, hv⟩ : ∃ v, v = dval ((ts.drop p).take j) := ⟨_, rfl⟩
          rw [← hv] at hs9 HV
          rw [← hv]
          obtain ⟨hs0, hs1⟩ := hs9
          clear hv
          go_wp2_with fail
          refine (timesPlus_any am cm fs 1000000000 v _ (by omega) hmag.out.row hcan.out.1 (by decide) (by decide) (by omega) (by omega)).mono ?_
          rintro e w2 ⟨a2, c2, gs, rfl, hf2, hm2, hcan2, hval2, hlen2, hrn2, hb2⟩
          rw [HV.out] at hval2
          have HC2 : Hid (Canon 4294967296 gs) := hcan2
          have HV2 : Hid (val 4294967296 gs = dval (ts.take (p + j))) := hval2
          have HR2 : Hid (RowNew .u32 w2 w.heap.size a2 gs) := hrn2.down hbel.out.size
          have HB2 : Hid (Below w.heap.size w w2) := hbel.out.trans (hb2.mono hbel.out.size)
          have HROW : Hid (RowAt .u8 w2 (some ⟨b, off + j, none⟩) (ts.drop (p + j))) := by
            refine RowAt.later (w := wr) ?_ hb2
            refine .inr ⟨b, off + j, rfl, hb, fun k hk => ?_⟩
            have hk' : k < ts.length - (p + j) := by simpa using hk
            have := HCELL.out (j + k) (by rw [HL.out]; have := HN1.out; omega)
            rw [Nat.add_assoc, this]
            simp [List.getD_eq_getElem?_getD, List.getElem?_drop, Nat.add_assoc]
          have HNN : Hid (n1 - j = ts.length - (p + j)) := by unfold Hid; have := HN1.out; omega
          have HJ : Hid (1 ≤ j ∧ (n1 - j) % 9 = 0) := by unfold Hid; have := HN.out; omega
          clear hcan2 hval2 hrn2 hb2 hval hcan hmag hrow HCELL HV hbel
          go_wp2
          go_roundw
          case rel =>
            refine ⟨p + j, _, n1 - j, c1 - j, a2, c2, gs, by have := HN1.out; omega, HNN.out, rfl, by omega, by omega, rfl, by have := HJ.out; omega, hm2, hf2, ?_, HR2, HC2, HV2, .inr HJ.out.2, HB2⟩
            by_cases hcj : c1 = j
            · refine .inl (List.drop_eq_nil_of_le ?_)
              have := HNN.out
              omega
            · rw [if_neg hcj]
              exact HROW.out
          case measure => simp; have := HJ.out; omega
    · have hpn : p = ts.length := by omega
      have hn0 : n1 = 0 := by omega
      subst hpn hn0
      rw [List.take_length] at hval
      have HM : Hid (MagOut w (dval ts) (ts.length + 1) (.returned (.slice am fs.length cm)) wr) := ⟨am, cm, fs, rfl, hfm, hcm, hcan.out, hval.out, by omega, hmag.out, hbel.out⟩
      clear hval hcan hmag hrow hbel hfm hcm hn1 h9 hlt hp hfl
      go_wp2
      go_ret
      exact HM.out

end Go.Proofs.Ytlbegmepmeimkab

/-
  The program's plainDigits, BigParse.
-/
namespace Go.Proofs.Ytlbegmepmeimkab
open Go.RowKit

/-- Bytes. -/
def Byt (ts : List Int) : Prop := ∀ t, t ∈ ts → 0 ≤ t ∧ t ≤ 255

theorem Byt.at {ts : List Int} (h : Byt ts) (j : Nat) : 0 ≤ ts.getD j 0 ∧ ts.getD j 0 ≤ 255 := by
  by_cases hj : j < ts.length
  · rw [List.getD_eq_getElem?_getD, List.getElem?_eq_getElem hj]; exact h _ (List.getElem_mem hj)
  · rw [List.getD_eq_getElem?_getD, List.getElem?_eq_none (by omega)]; decide

set_option maxHeartbeats 2000000 in
theorem plain_any (a : Option Addr) (c : Nat) (ts : List Int) (w : World) (hn : ts.length ≤ 1048576) (hz : RowAt .u8 w a ts) :
    Calls Try.prog 49 #[.slice a ts.length c] w fun e w' => e = .returned (.bool (plainB ts)) ∧ w' = w := by
  go_enter Try.func49, Try.ntmps49
  go_wp2
  go_loop [7] (fun i => ∃ k : Nat, k ≤ ts.length ∧ i = .int .i64 k ∧ Hid (Dec (ts.take k))) (fun i => ts.length - (intOf i).toNat)
  case atStart => exact ⟨0, Nat.zero_le _, rfl, fun t ht => by simp at ht⟩
  case round =>
    obtain ⟨k, hk, rfl, hd⟩ := hrel
    by_cases hlt : k < ts.length
    · obtain ⟨b, off, rfl, g1⟩ := row_cell hz (Below.refl _ w) hlt
      obtain ⟨t, ht⟩ : ∃ t, t = ts.getD k 0 := ⟨_, rfl⟩
      rw [← ht] at g1
      have HT : Hid (t = ts.getD k 0) := ht
      clear ht
      by_cases h0 : t < 48
      · have HP : Hid (plainB ts = false) := plain_bad hlt (by rw [← HT.out]; omega)
        go_wp2
        go_ret
        exact ⟨ret_bool HP.out.symm, rfl⟩
      · by_cases h1 : 57 < t
        · have HP : Hid (plainB ts = false) := plain_bad hlt (by rw [← HT.out]; omega)
          go_wp2
          go_ret
          exact ⟨ret_bool HP.out.symm, rfl⟩
        · have HD : Hid (Dec (ts.take (k + 1))) := dec_succ hlt hd.out (by rw [← HT.out]; omega) (by rw [← HT.out]; omega)
          go_wp2
          go_round
          case rel => exact ⟨k + 1, by omega, by go_num, HD⟩
          case measure => simp [intOf]; omega
    · have hkn : k = ts.length := by omega
      subst hkn
      rw [List.take_length] at hd
      have HA : Hid (ts.all (fun t => decide (48 ≤ t) && decide (t ≤ 57)) = true) := all_dec hd.out
      clear hd
      by_cases hl1 : ts.length = 1
      · have HP : Hid (plainB ts = true) := by unfold Hid plainB; rw [HA.out]; simp [hl1]
        have e1 : ((ts.length : Int) == 1) = true := by rw [beq_iff_eq]; omega
        clear hl1
        go_wp2
        go_ret
        exact ⟨ret_bool HP.out.symm, rfl⟩
      · have e1 : ((ts.length : Int) == 1) = false := by rw [beq_eq_false_iff_ne]; omega
        by_cases hl2 : 1 < ts.length
        · obtain ⟨b, off, rfl, g1⟩ := row_cell hz (Below.refl _ w) (show 0 < ts.length by omega)
          obtain ⟨t, ht⟩ : ∃ t, t = ts.getD 0 0 := ⟨_, rfl⟩
          rw [← ht, Nat.add_zero] at g1
          have HP : Hid (plainB ts = (t != 48)) := by unfold Hid plainB; rw [HA.out, ht]; simp [hl1, hl2]
          clear ht hl1
          go_wp2
          go_ret
          exact ⟨ret_bool HP.out.symm, rfl⟩
        · have HP : Hid (plainB ts = false) := by unfold Hid plainB; simp [hl1, hl2]
          clear hl1
          go_wp2
          go_ret
          exact ⟨ret_bool HP.out.symm, rfl⟩

end Go.Proofs.Ytlbegmepmeimkab
