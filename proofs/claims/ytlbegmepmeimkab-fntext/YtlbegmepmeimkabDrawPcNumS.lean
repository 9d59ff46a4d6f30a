/-
  The model's drawn texts: those of drawn numbers.
-/
import Derived.Test.YtlbegmepmeimkabDrawPaDrawPb
import Derived.Test.YtlbegmepmeimkabWithin
import Derived.Test.YtlbegmepmeimkabNum
namespace Go.Proofs.Ytlbegmepmeimkab
open Go.RowKit

theorem Rs.head {P : Nat} {rs : List Int} {W : World} (h : Rs P rs W) : ∀ x, x ∈ rs → 0 ≤ x ∧ x ≤ 255 := by
  obtain ⟨⟨a, c, bs, i, _, _, _, _, _, _, h7, h8⟩, _, _⟩ := h
  intro x hx
  rw [h8] at hx
  have := h7 x (List.mem_of_mem_drop hx)
  omega

theorem head_in {rs : List Int} (h : ∀ x, x ∈ rs → 0 ≤ x ∧ x ≤ 255) : 0 ≤ rs.headD 0 ∧ rs.headD 0 ≤ 255 := by
  cases rs with
  | nil => decide
  | cons x xs => exact h x (by simp)

theorem txtF_len {g : Bool} {zs : List Int} (hu : U32 zs) : (txtF g zs).length ≤ 5001 := by
  unfold txtF
  split
  · rename_i hv
    obtain ⟨hcan, hl, _⟩ := valid_canon hu hv
    have hd := decs_length (val_fits hcan.1 hl)
    unfold textL
    split
    · simp
    · rw [List.length_reverse, List.length_append]
      split
      · simp; omega
      · simp; omega
  · simp

set_option maxRecDepth 100000 in
set_option maxHeartbeats 8000000 in
theorem drawP_text (a : Option Addr) (c : Nat) (bs rs : List Int) (w : World) (hrs : bs.take 500 = rs) (hh0 : rs.headD 0 % 16 ≠ 0) (hh1 : rs.headD 0 ≠ 1) (hh2 : rs.headD 0 ≠ 2) (hn : bs.length ≤ 1048576) (hc : bs.length ≤ c) (hcm : c ≤ maxLen) (hnil : a = none → c = 0) (hr : RowAt .u8 w a bs) (hb : Dig 256 bs) :
    Calls Try.prog 22 #[.slice a bs.length c] w fun e w' => DrawPOut w rs e w' := by
  go_enter Try.func22, Try.ntmps22
  go_wp2_with fail
  refine (openF_any a c bs w hn hc hcm hnil hr hb).mono ?_
  rintro e w1 ⟨rfl, hs1, hb1, hz1⟩
  rw [hrs] at hs1
  obtain ⟨P, hP⟩ : ∃ P, P = w.heap.size := ⟨_, rfl⟩
  rw [← hP] at hs1 ⊢
  have HPw : Hid (w.heap.size ≤ P) := by unfold Hid; omega
  have HB1 : Hid (Below w.heap.size w w1) := by unfold Hid; exact hb1
  clear hb1 hz1 hrs hr hb hnil hc hcm hn hP
  go_wp2_with fail
  refine (nextF_any P rs _ hs1).mono ?_
  rintro e w2 ⟨rfl, hk0, hk1, hs2, ha2⟩
  have S2 : Hid (Rs P rs.tail w2) := hs2
  have HB2 : Hid (Below w.heap.size w w2) := Aside.new HB1.out HPw.out ha2
  obtain ⟨kk, hkk⟩ : ∃ kk, kk = rs.headD 0 := ⟨_, rfl⟩
  rw [← hkk] at hk0 hk1 ⊢
  have HKK : Hid (kk = rs.headD 0) := hkk
  clear hs1 hs2 ha2 HB1 hkk
  have h16 : (kk % 16 == 0) = false := by rw [beq_eq_false_iff_ne, HKK.out]; exact hh0
  have h1b : (kk == 1) = false := by rw [beq_eq_false_iff_ne, HKK.out]; exact hh1
  have h2b : (kk == 2) = false := by rw [beq_eq_false_iff_ne, HKK.out]; exact hh2
  have htm : kk.tmod 16 = kk % 16 := Int.tmod_eq_emod_of_nonneg hk0
  have hs2 := HB2.out.size
  go_wp2_with fail
  refine (drawBigF_any P rs.tail _ S2.out).mono ?_
  rintro e w3 ⟨aD, cD, rfl, hzl, hzu, hown, hs3, ha3⟩
  obtain ⟨aE, cE, heq, _, hsl, hrow⟩ := own_row hown
  injection heq with he1 _ he3
  subst he1 he3
  have HB3 : Hid (Below w.heap.size w w3) := Aside.new HB2.out HPw.out ha3
  have S3 : Hid (Rs P (drawL rs.tail).2 w3) := hs3
  have HRW : Hid (RowAt .u32 w3 aD (drawZ rs.tail)) := hrow.row
  have HLE : Hid ((txtF (drawG rs.tail) (drawZ rs.tail)).length ≤ 5001) := txtF_len hzu
  clear hs3 ha3 hown hsl hrow HB2 S2
  go_wp2_with fail
  refine (textSc_any _ aD cD _ w3 (by unfold maxLen; omega) HRW.out (fun z hz => hzu z hz)).mono ?_
  rintro e w4 ⟨ts, K, aT, cT, rfl, hres, ⟨hcp1, hcp2⟩, hrn, hb4⟩
  have hts := hres.fn
  have S4 : Hid (Rs P (drawL rs.tail).2 w4) := S3.out.later hb4
  have HB4 : Hid (Below w.heap.size w w4) := HB3.out.trans (hb4.mono HB3.out.size)
  have HRN : Hid (RowNew .u8 w4 w3.heap.size aT ts) := hrn
  have hPl : P < w3.heap.size := S3.out.lt
  have HTS : Hid (ts = txtF (drawG rs.tail) (drawZ rs.tail)) := hts
  have hlen : ts.length ≤ 5001 := by rw [hts]; exact HLE.out
  clear hb4 hres hrn HB3 S3 HRW hts HLE
  by_cases hB : kk % 16 = 1 ∧ ts ≠ []
  · have h161 : (kk % 16 == 1) = true := by rw [beq_iff_eq]; exact hB.1
    have htl : 0 < ts.length := List.length_pos_iff.2 hB.2
    have htl2 : (0 : Int) < (ts.length : Int) := by omega
    have HF : Hid (drawPF rs = ts.set ((drawL rs.tail).2.headD 0 % ts.length).toNat ((drawL rs.tail).2.tail.headD 0)) := by
      unfold Hid drawPF
      rw [if_neg hh0, if_neg hh1, if_neg hh2, ← HTS.out, if_pos ⟨by rw [← HKK.out]; exact hB.1, hB.2⟩]
    obtain ⟨q, hq⟩ : ∃ q, q = (drawL rs.tail).2 := ⟨_, rfl⟩
    rw [← hq] at S4 HF
    have hqa := S4.out.head
    have hq1 := head_in hqa
    have hq2 := head_in (rs := q.tail) (fun x hx => hqa x (List.mem_of_mem_tail hx))
    obtain ⟨ii, hii⟩ : ∃ ii, ii = q.headD 0 := ⟨_, rfl⟩
    obtain ⟨vv, hvv⟩ : ∃ vv, vv = q.tail.headD 0 := ⟨_, rfl⟩
    rw [← hii, ← hvv] at HF
    rw [← hii] at hq1
    rw [← hvv] at hq2
    obtain ⟨hi0, hi1⟩ := hq1
    obtain ⟨hv0, hv1⟩ := hq2
    obtain ⟨m, hm⟩ : ∃ m : Nat, ii % ts.length = (m : Int) := ⟨(ii % ts.length).toNat, by have := Int.emod_nonneg ii (show (ts.length : Int) ≠ 0 by omega); omega⟩
    have hml : (m : Int) < ts.length := by rw [← hm]; exact Int.emod_lt_of_pos _ htl2
    have htm2 : ii.tmod ts.length = (m : Int) := by rw [Int.tmod_eq_emod_of_nonneg hi0, hm]
    have HFM : Hid (drawPF rs = ts.set m vv) := by unfold Hid; rw [HF.out, hm]; rfl
    obtain ⟨bt, off, rfl, hbt, hbl, hbc, hbf⟩ := HRN.out.resolve_left hB.2
    have HII : Hid (ii = q.headD 0) := hii
    have HVV : Hid (vv = q.tail.headD 0) := hvv
    have HOW : Hid (Own .u8 w4 bt off ts) := ⟨hbl, hbc, hbf⟩
    have hPb : bt ≠ P := by omega
    have hz0 : ((ts.length : Int) == 0) = false := by rw [beq_eq_false_iff_ne]; omega
    have hz1 : ¬ ((ts.length : Int) = 0) := by omega
    have hz2 : ts.length ≠ 0 := by omega
    have hz3 : ts ≠ [] := hB.2
    have hwb : w.heap.size ≤ bt := by have := HPw.out; omega
    clear hii hvv HF hqa hq hB HRN hbc hbf
    go_wp2_with fail
    go_region_with
      (first
        | (go_at_call 52; refine (nextF_any P _ _ (S4.out.later (Below.refl _ _).drew)).mono ?_; clear S4; rintro e w5 ⟨he, -, -, hs5, ha5⟩; rw [← HII.out] at he; subst he; have HA5 : Aside P w4 w5 := (Aside.of (Below.refl _ _).drew).trans ha5)
        | (go_at_call 52; refine (nextF_any P _ _ hs5).mono ?_; rintro e w6 ⟨he, -, -, hs6, ha6⟩; rw [← HVV.out] at he; subst he; have HA6 : Aside P w4 w6 := HA5.trans ha6; have cc := (HA6.cell (p := ⟨bt, off + m, none⟩) hbl hPb).trans (HOW.out.cell m (by omega)); have ff := (HA6.frozen (p := ⟨bt, off + m, none⟩) hbl hPb).trans (HOW.out.free m (by omega))))
    have hwv : IntKind.u8.wrap vv = vv := by
      simp [IntKind.wrap, IntKind.bits, IntKind.signed]
      omega
    rw [hwv]
    have HFI : Hid (DrawPOut w rs (.returned (.slice (some ⟨bt, off, none⟩) ts.length cT)) (w6.setCell ⟨bt, off + m, none⟩ (.int .u8 vv))) := by
      unfold Hid DrawPOut
      rw [HFM.out]
      have hO6 : Own .u8 w6 bt off ts := ⟨Nat.lt_of_lt_of_le hbl HA6.size, fun j hj => (HA6.cell (p := ⟨bt, off + j, none⟩) hbl hPb).trans (HOW.out.cell j hj), fun j hj => (HA6.frozen (p := ⟨bt, off + j, none⟩) hbl hPb).trans (HOW.out.free j hj)⟩
      have hOs := hO6.set m vv (by omega)
      exact ⟨some ⟨bt, off, none⟩, cT, by rw [List.length_set], ⟨by rw [List.length_set]; exact hlen, by rw [List.length_set]; exact hcp1, hcp2⟩, (hOs.new (B := 0) (Nat.zero_le _)).row, (Aside.new HB4.out HPw.out HA6).setCell (by simpa using hwb) _⟩
    clear hs5 hs6 ha5 ha6 HA5 HA6 cc ff HOW HFM HII HVV
    go_wp2
    go_ret
    exact HFI.out
  · have HF : Hid (drawPF rs = ts) := by
      unfold Hid drawPF
      rw [if_neg hh0, if_neg hh1, if_neg hh2, ← HTS.out, if_neg (by rw [← HKK.out]; exact hB)]
    have HFI : Hid (DrawPOut w rs (.returned (.slice aT ts.length cT)) w4) := by
      unfold Hid DrawPOut
      rw [HF.out]
      exact ⟨aT, cT, rfl, ⟨hlen, hcp1, hcp2⟩, HRN.out.row, HB4.out⟩
    by_cases h161 : kk % 16 = 1
    · have htn : ts = [] := by
        by_cases e : ts = []
        · exact e
        · exact absurd ⟨h161, e⟩ hB
      have h161b : (kk % 16 == 1) = true := by rw [beq_iff_eq]; exact h161
      subst htn
      clear hB
      go_wp2
      go_ret
      exact HFI.out
    · have h161b : (kk % 16 == 1) = false := by rw [beq_eq_false_iff_ne]; exact h161
      clear hB
      go_wp2
      go_ret
      exact HFI.out

theorem drawP_any (a : Option Addr) (c : Nat) (bs : List Int) (w : World) (hn : bs.length ≤ 1048576) (hc : bs.length ≤ c) (hcm : c ≤ maxLen) (hnil : a = none → c = 0) (hr : RowAt .u8 w a bs) (hb : Dig 256 bs) :
    Calls Try.prog 22 #[.slice a bs.length c] w fun e w' => DrawPOut w (bs.take 500) e w' := by
  by_cases h0 : (bs.take 500).headD 0 % 16 = 0
  · exact drawP_odd a c bs _ w rfl h0 hn hc hcm hnil hr hb
  · by_cases h1 : (bs.take 500).headD 0 = 1
    · exact drawP_nines a c bs _ w rfl h1 hn hc hcm hnil hr hb
    · by_cases h2 : (bs.take 500).headD 0 = 2
      · exact drawP_ones a c bs _ w rfl h2 hn hc hcm hnil hr hb
      · exact drawP_text a c bs _ w rfl h0 h1 h2 hn hc hcm hnil hr hb

end Go.Proofs.Ytlbegmepmeimkab

/-
  Plain mathematics: digits shifted up and down.
-/
namespace Go.Proofs.Ytlbegmepmeimkab

theorem two_pow_le {a b : Nat} (h : a ≤ b) : (2 : Int) ^ a ≤ 2 ^ b := by
  obtain ⟨d, rfl⟩ := Nat.le.dest h
  have h1 : (0 : Int) < 2 ^ a := Int.pow_pos (by decide)
  have h2 : (0 : Int) < 2 ^ d := Int.pow_pos (by decide)
  have h3 : (2 : Int) ^ a * 1 ≤ 2 ^ a * 2 ^ d := Int.mul_le_mul_of_nonneg_left (by omega) (by omega)
  rw [Int.pow_add]
  omega

/-- Something is left over. -/
def lostB (m q : Int) : Bool := decide (m % q ≠ 0)

/-! ### Up -/
def timesL (q : Int) (zs : List Int) : List Int := zs.map (· * q)

theorem val_timesL (B q : Int) : ∀ zs : List Int, val B (timesL q zs) = val B zs * q
  | [] => by simp [timesL, val]
  | z :: zs => by
    have ih := val_timesL B q zs
    simp only [timesL, List.map_cons, val] at ih ⊢
    rw [ih, Int.add_mul, Int.mul_assoc]

theorem timesL_length (q : Int) (zs : List Int) : (timesL q zs).length = zs.length := by simp [timesL]

theorem timesL_drop {q : Int} {zs : List Int} {k : Nat} (h : k < zs.length) : timesL q (zs.drop k) = zs.getD k 0 * q :: timesL q (zs.drop (k + 1)) := by
  rw [List.drop_eq_getElem_cons h, List.getD_eq_getElem?_getD, List.getElem?_eq_getElem h]
  rfl

theorem val_zeros (B : Int) : ∀ n : Nat, val B (List.replicate n 0) = 0
  | 0 => rfl
  | n + 1 => by rw [List.replicate_succ]; simp [val, val_zeros B n]

theorem val_up (B : Int) (n : Nat) (zs : List Int) : val B (List.replicate n 0 ++ zs) = B ^ n * val B zs := by
  rw [val_append, val_zeros, List.length_replicate]
  omega

theorem Dig.zeros {B : Int} (hB : 0 < B) (n : Nat) : Dig B (List.replicate n 0) := by
  intro z hz
  have := List.eq_of_mem_replicate hz
  subst this
  exact ⟨Int.le_refl 0, hB⟩

theorem canon_up {B : Int} (hB : 0 < B) {zs : List Int} (h : Canon B zs) (hne : zs ≠ []) (n : Nat) : Canon B (List.replicate n 0 ++ zs) := by
  have hl : zs.length ≠ 0 := fun e => hne (List.length_eq_zero_iff.1 e)
  refine canon_last (Dig.append (Dig.zeros hB n) h.1) (by rw [List.length_append]; omega) ?_
  have := last_of_canon h.2 hl
  rw [List.getD_eq_getElem?_getD] at this ⊢
  rw [List.length_append, List.length_replicate, List.getElem?_append_right (by rw [List.length_replicate]; omega), List.length_replicate, show n + zs.length - 1 - n = zs.length - 1 by omega]
  exact this

/-- The carry of digits times q stays below q. -/
theorem times_carry {B q x c : Int} (hB : 0 < B) (hq : 0 < q) (hx0 : 0 ≤ x) (hx1 : x < B) (hc0 : 0 ≤ c) (hc1 : c < q) : 0 ≤ (x * q + c) / B ∧ (x * q + c) / B < q := by
  have h0 := Int.mul_nonneg hx0 (Int.le_of_lt hq)
  refine ⟨Int.ediv_nonneg (by omega) (by omega), Int.ediv_lt_of_lt_mul hB ?_⟩
  have h1 : (x + 1) * q ≤ B * q := Int.mul_le_mul_of_nonneg_right (by omega) (by omega)
  rw [Int.add_mul, Int.one_mul, Int.mul_comm B q] at h1
  omega

theorem dig_times {B q : Int} (hB : 0 < B) (hq : 0 < q) (hqB : q ≤ B) : ∀ (zs : List Int) (c : Int), Dig B zs → 0 ≤ c → c < q → Dig B (carryL B (timesL q zs) c)
  | [], c, _, h0, h1 => by
    simp only [timesL, List.map_nil, carryL]
    split
    · exact Dig.nil B
    · exact Dig.cons h0 (by omega) (Dig.nil B)
  | z :: zs, c, h, h0, h1 => by
    simp only [timesL, List.map_cons, carryL]
    have h2 := times_carry hB hq h.head.1 h.head.2 h0 h1
    exact Dig.cons (Int.emod_nonneg _ (by omega)) (Int.emod_lt_of_pos _ hB) (dig_times hB hq hqB zs _ h.tail h2.1 h2.2)

/-! ### Down -/
def downL (B q : Int) : List Int → List Int
  | [] => []
  | z :: zs => (z + B * zs.headD 0) / q % B :: downL B q zs

theorem down_length (B q : Int) : ∀ zs : List Int, (downL B q zs).length = zs.length
  | [] => rfl
  | z :: zs => by simp only [downL, List.length_cons, down_length B q zs]

theorem dig_down {B : Int} (hB : 0 < B) (q : Int) : ∀ zs : List Int, Dig B (downL B q zs)
  | [] => Dig.nil B
  | z :: zs => Dig.cons (Int.emod_nonneg _ (by omega)) (Int.emod_lt_of_pos _ hB) (dig_down hB q zs)

theorem headD_drop (zs : List Int) (k : Nat) : (zs.drop k).headD 0 = zs.getD k 0 := by
  rw [List.headD_eq_head?_getD, List.head?_drop, List.getD_eq_getElem?_getD]

theorem down_drop {B q : Int} {zs : List Int} {k : Nat} (h : k < zs.length) : downL B q (zs.drop k) = (zs.getD k 0 + B * zs.getD (k + 1) 0) / q % B :: downL B q (zs.drop (k + 1)) := by
  rw [List.drop_eq_getElem_cons h]
  simp only [downL]
  rw [headD_drop]
  simp [List.getD_eq_getElem?_getD, h]

theorem val_head (B : Int) (zs : List Int) : val B zs = zs.headD 0 + B * val B zs.tail := by
  cases zs <;> simp [val]

/-- One digit. -/
theorem down_digit {B q r z y : Int} (hBq : B = q * r) (hq : 0 < q) (hr : 0 < r) (hz0 : 0 ≤ z) (hz1 : z < B) : (z + B * y) / q % B = z / q + r * (y % q) := by
  have e1 : (z + B * y) / q = z / q + r * y := by
    rw [hBq, Int.mul_assoc]
    rw [Int.add_mul_ediv_left _ _ (by omega)]
  have e2 : r * y = B * (y / q) + r * (y % q) := by
    have h := Int.mul_add r (q * (y / q)) (y % q)
    rw [Int.mul_ediv_add_emod y q, ← Int.mul_assoc, Int.mul_comm r q, ← hBq] at h
    exact h
  have hd0 : 0 ≤ z / q := Int.ediv_nonneg hz0 (by omega)
  have hd1 : z / q < r := Int.ediv_lt_of_lt_mul hq (by rw [Int.mul_comm r q, ← hBq]; exact hz1)
  have hm0 := Int.emod_nonneg y (show q ≠ 0 by omega)
  have hm1 := Int.emod_lt_of_pos y hq
  have h3 : r * (y % q) ≤ r * (q - 1) := Int.mul_le_mul_of_nonneg_left (by omega) (by omega)
  have h4 : 0 ≤ r * (y % q) := Int.mul_nonneg (by omega) hm0
  rw [Int.mul_sub, Int.mul_one, Int.mul_comm r q, ← hBq] at h3
  rw [e1, e2, show z / q + (B * (y / q) + r * (y % q)) = (z / q + r * (y % q)) + B * (y / q) by omega, Int.add_mul_emod_self_left]
  exact Int.emod_eq_of_lt (by omega) (by omega)

theorem val_down {B q r : Int} (hBq : B = q * r) (hq : 0 < q) (hr : 0 < r) : ∀ {zs : List Int}, Dig B zs → val B (downL B q zs) = val B zs / q
  | [], _ => by simp [downL, val]
  | z :: zs, h => by
    have ih := val_down hBq hq hr h.tail
    simp only [downL, val]
    rw [ih, down_digit hBq hq hr h.head.1 h.head.2]
    have hv := val_head B zs
    have hBr : B * val B zs.tail = q * (r * val B zs.tail) := by rw [hBq, Int.mul_assoc]
    have e1 : val B zs / q = zs.headD 0 / q + r * val B zs.tail := by
      rw [hv, hBr, Int.add_mul_ediv_left _ _ (by omega)]
    have e2 : (z + B * val B zs) / q = z / q + r * val B zs := by
      rw [hBq, Int.mul_assoc, Int.add_mul_ediv_left _ _ (by omega)]
    have e3 : val B zs % q = zs.headD 0 % q := by
      rw [hv, hBr, Int.add_mul_emod_self_left]
    have e4 := Int.mul_ediv_add_emod (val B zs) q
    rw [e2, ← e3]
    have e5 : r * val B zs = B * (val B zs / q) + r * (val B zs % q) := by
      have h := Int.mul_add r (q * (val B zs / q)) (val B zs % q)
      rw [e4, ← Int.mul_assoc, Int.mul_comm r q, ← hBq] at h
      exact h
    omega

theorem val_parts (B : Int) (zs : List Int) (s : Nat) (hs : s ≤ zs.length) : val B zs = val B (zs.take s) + B ^ s * val B (zs.drop s) := by
  have h := val_append B (zs.drop s) (zs.take s)
  rw [List.take_append_drop, List.length_take, show min s zs.length = s by omega] at h
  exact h

theorem pow_pos' {B : Int} (hB : 0 < B) (s : Nat) : 0 < B ^ s := Int.pow_pos hB

/-- Cut at a whole digit and within the next one. -/
theorem val_cut {B q r : Int} (hBq : B = q * r) (hq : 0 < q) (hr : 0 < r) (hB : 0 < B) {zs : List Int} (h : Dig B zs) {s : Nat} (hs : s ≤ zs.length) : val B (downL B q (zs.drop s)) = val B zs / (B ^ s * q) := by
  rw [val_down hBq hq hr (h.drop s)]
  have hp := pow_pos' hB s
  rw [← Int.ediv_ediv_of_nonneg (by omega)]
  congr 1
  rw [val_parts B zs s hs, Int.add_mul_ediv_left _ _ (by omega)]
  have h0 := val_nonneg hB (h.take s)
  have h1 := val_lt_pow hB (h.take s)
  rw [List.length_take, show min s zs.length = s by omega] at h1
  rw [Int.ediv_eq_zero_of_lt h0 h1]
  omega

/-- Nothing is cut off: no digit below, and nothing of the next one. -/
theorem cut_exact {B q : Int} (hq : 0 < q) (hqB : ∃ r, B = q * r) (hB : 0 < B) {zs : List Int} (h : Dig B zs) {s : Nat} (hs : s ≤ zs.length) : val B zs % (B ^ s * q) = 0 ↔ val B (zs.take s) = 0 ∧ zs.getD s 0 % q = 0 := by
  have hp := pow_pos' hB s
  have h0 := val_nonneg hB (h.take s)
  have h1 := val_lt_pow hB (h.take s)
  rw [List.length_take, show min s zs.length = s by omega] at h1
  have hsp := val_parts B zs s hs
  have hd : val B (zs.drop s) % q = zs.getD s 0 % q := by
    obtain ⟨r, hr⟩ := hqB
    rw [val_head B (zs.drop s), headD_drop, show B * val B (zs.drop s).tail = q * (r * val B (zs.drop s).tail) by rw [hr, Int.mul_assoc], Int.add_mul_emod_self_left]
  rw [← hd]
  have hm0 := Int.emod_nonneg (val B (zs.drop s)) (show q ≠ 0 by omega)
  have hm1 := Int.emod_lt_of_pos (val B (zs.drop s)) hq
  have hde := Int.mul_ediv_add_emod (val B (zs.drop s)) q
  have e : val B zs = (val B (zs.take s) + B ^ s * (val B (zs.drop s) % q)) + B ^ s * q * (val B (zs.drop s) / q) := by
    rw [hsp, Int.mul_assoc, Int.add_assoc, ← Int.mul_add]
    congr 2
    omega
  have hlt : val B (zs.take s) + B ^ s * (val B (zs.drop s) % q) < B ^ s * q := by
    have : B ^ s * (val B (zs.drop s) % q) ≤ B ^ s * (q - 1) := Int.mul_le_mul_of_nonneg_left (by omega) (by omega)
    rw [Int.mul_sub, Int.mul_one] at this
    omega
  have hge : 0 ≤ B ^ s * (val B (zs.drop s) % q) := Int.mul_nonneg (by omega) hm0
  rw [e, Int.add_mul_emod_self_left, Int.emod_eq_of_lt (by omega) hlt]
  constructor
  · intro h2
    refine ⟨by omega, ?_⟩
    have h3 : B ^ s * (val B (zs.drop s) % q) = 0 := by omega
    rcases Int.mul_eq_zero.1 h3 with h4 | h4
    · omega
    · exact h4
  · rintro ⟨h2, h3⟩
    rw [h2, h3]
    simp

/-- Is any digit not 0? -/
def anyN (zs : List Int) : Bool := zs.any (· != 0)

theorem anyN_snoc (zs : List Int) (z : Int) : anyN (zs ++ [z]) = (anyN zs || (z != 0)) := by simp [anyN]

theorem anyN_take {zs : List Int} {k : Nat} (h : k < zs.length) : anyN (zs.take (k + 1)) = (anyN (zs.take k) || (zs.getD k 0 != 0)) := by
  rw [List.take_succ_eq_append_getElem h, anyN_snoc]
  simp [List.getD_eq_getElem?_getD, h]

theorem anyN_val {B : Int} (hB : 0 < B) : ∀ {zs : List Int}, Dig B zs → (anyN zs = true ↔ val B zs ≠ 0)
  | [], _ => by simp [anyN, val]
  | z :: zs, h => by
    have ih := anyN_val hB h.tail
    have h1 := val_nonneg hB h.tail
    have h2 := h.head
    have h3 := Int.mul_nonneg (Int.le_of_lt hB) h1
    have e : anyN (z :: zs) = ((z != 0) || anyN zs) := by simp [anyN]
    rw [e]
    simp only [Bool.or_eq_true, bne_iff_ne, ne_eq, val, ih]
    constructor
    · rintro (h4 | h4) h5
      · omega
      · have h6 : 0 < val B zs := by omega
        have h7 := Int.mul_pos hB h6
        omega
    · intro h4
      by_cases h5 : z = 0
      · right
        intro h6
        apply h4
        rw [h5, h6]
        simp
      · exact .inl h5

theorem trim_anyN : ∀ zs : List Int, trimL zs = [] ↔ anyN zs = false
  | [] => by simp [trimL, anyN]
  | z :: zs => by
    have ih := trim_anyN zs
    have e : anyN (z :: zs) = ((z != 0) || anyN zs) := by simp [anyN]
    rw [e]
    simp only [trimL]
    by_cases h : trimL zs = [] ∧ z = 0
    · rw [if_pos h]
      simp [h.2, ih.1 h.1]
    · rw [if_neg h]
      constructor
      · intro h'; cases h'
      · intro h'
        simp only [Bool.or_eq_false_iff, bne_eq_false_iff_eq] at h'
        exact absurd ⟨ih.2 h'.2, h'.1⟩ h

end Go.Proofs.Ytlbegmepmeimkab
