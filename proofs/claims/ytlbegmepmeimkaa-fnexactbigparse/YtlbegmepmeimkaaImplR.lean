/-
  The program's BigParse.
-/
import Derived.Test.YtlbegmepmeimkaaImplQ
import Derived.Test.YtlbegmepmeimkaaResP
namespace Go.Proofs.Ytlbegmepmeimkaa
open Go.RowKit

theorem plain_pos {ts : List Int} (h : plainB ts = true) : 0 < ts.length := by
  unfold plainB at h
  simp at h
  omega

set_option maxHeartbeats 4000000 in
theorem parseI_plus (b off c : Nat) (ts : List Int) (w : World) (hn : ts.length ≤ 1048576) (hc : c ≤ maxLen) (hfit : ts.length ≤ c) (hz : RowAt .u8 w (some ⟨b, off, none⟩) ts) (hpos : 0 < ts.length) (hb : b < w.heap.size) (t0 : Int) (g0 : w.cell? ⟨b, off, none⟩ = some (.int .u8 t0)) (e45 : (t0 == 45) = false) (hng : negB ts = false) :
    Calls Try.prog 27 #[.slice (some ⟨b, off, none⟩) ts.length c] w fun e w' => OutP w ts e w' := by
  have HNEG : Hid (negB ts = false) := hng
  have HDIG0 : digs ts = ts := by unfold digs; rw [hng]; rfl
  obtain ⟨us, hus⟩ : ∃ us, us = ts := ⟨_, rfl⟩
  have HDIG : Hid (digs ts = us) := by unfold Hid; rw [HDIG0, hus]
  have hrow : RowAt .u8 w (some ⟨b, off, none⟩) us := by rw [hus]; exact hz
  have hlen : ts.length = us.length := by rw [hus]
  have HLEN : Hid (ts.length = us.length) := hlen
  rw [hlen] at hn hfit
  clear hng HDIG0 hus hz hlen
  cases hpl : plainB us
  · have HRP : Hid (ResP ts false [] 3) := .inl ⟨by unfold synB; rw [HDIG.out, hpl]; rfl, rfl, rfl, rfl⟩
    go_enter Try.func27, Try.ntmps27
    go_wp2_with fail
    rw [HLEN.out]
    refine (plain_any (some ⟨b, off, none⟩) (c) us _ (by omega) (hrow.later (bel0 _ _))).mono ?_
    rintro e w0 ⟨rfl, hw⟩
    subst hw
    rw [hpl]
    go_wp2
    refine bodyPost_ret (v := .tuple #[.agg #[.bool false, .slice none 0 0], .int .i64 3]) (by simp [results, Try.results27, go_sem]) rfl ?_
    exact ⟨false, [], 3, none, 0, rfl, HRP.out, .inl rfl, bel0 _ _⟩
  · have hdec := dec_of_plain hpl
    have hne : 0 < us.length := plain_pos hpl
    have HSYN : Hid (synB ts = true) := by
      unfold Hid synB
      rw [HDIG.out, hpl, HNEG.out]
      rfl
    by_cases hlen5 : us.length ≤ 5000
    · go_enter Try.func27, Try.ntmps27
      go_wp2_with fail
      rw [HLEN.out]
      refine (plain_any (some ⟨b, off, none⟩) (c) us _ (by omega) (hrow.later (bel0 _ _))).mono ?_
      rintro e w0 ⟨rfl, hw⟩
      subst hw
      rw [hpl]
      go_wp2_with fail
      try rw [HLEN.out]
      refine (magnitudeOf_any (some ⟨b, off, none⟩) (c) us _ hlen5 (by unfold maxLen at *; omega) (by omega) (hrow.later (bel0 _ _)) hdec).mono ?_
      rintro e w1 ⟨a2, c2, fs, rfl, hf2, hm2, hcan, hval, hlenf, hrn, hb1⟩
      go_wp2_with fail
      refine (signed_any false a2 fs.length c2 _).mono ?_
      rintro e w2 ⟨rfl, hb2⟩
      obtain ⟨gx, hgx⟩ : ∃ gx, gx = (false && decide (0 < fs.length)) := ⟨_, rfl⟩
      rw [← hgx]
      have HGX : Hid (gx = (false && decide (0 < fs.length))) := hgx
      clear hgx
      go_wp2_with fail
      refine (within_any gx a2 c2 fs _ (w.heap.size + 1) (by omega) (RowNew.later (by simpa using hrn) hb2)).mono ?_
      rintro e w3 ⟨a5, c5, rfl, hr5, hb3⟩
      have hE : Hid (ResP ts (limOut gx fs).1 (limOut gx fs).2.1 (limOut gx fs).2.2) := .inr (.inr ⟨HSYN.out, by rw [HDIG.out]; exact hlen5, by rw [HDIG.out, HNEG.out]; exact res_lim (by rw [HGX.out]; exact B1.of_signed (g := false) hcan hval)⟩)
      have hB : Below (w.alloc (.cells #[.bool false, .slice none 0 0] 27)).heap.size (w.alloc (.cells #[.bool false, .slice none 0 0] 27)) w3 := (hb1.trans (hb2.mono hb1.size)).trans (hb3.mono (Nat.le_trans hb1.size hb2.size))
      have hh : Hid (Has w.heap.size w3) := (Has.new w 27).later hB
      have HB : Hid (Below w.heap.size w w3) := (bel0 _ _).trans (hB.mono (by simp))
      have r1 := hh.out.r1
      have r2 := hh.out.r2
      have r3 := hh.out.r3
      have HR : Hid (RowNew .u32 w3 (w.heap.size + 1) a5 (limOut gx fs).2.1) := hr5
      clear hB hb1 hb2 hb3 hr5 hrn hcan hval
      generalize (limOut gx fs).1 = G at *
      generalize (limOut gx fs).2.1 = Z at *
      generalize (limOut gx fs).2.2 = K at *
      go_wp2
      refine bodyPost_ret (v := .tuple #[.agg #[.bool G, .slice a5 Z.length c5], .int .i64 K]) (by simp [results, Try.results27, go_sem, r1, r2]) rfl ?_
      refine ⟨G, Z, K, a5, c5, rfl, hE.out, ?_, ?_⟩
      · exact ((HR.out.setLow (by simp) _).setLow (by simp) _).down (by omega)
      · exact (HB.out.setCell (by simp) _).setCell (by simp) _
    · have HRP : Hid (ResP ts false [] 2) := .inr (.inl ⟨HSYN.out, by rw [HDIG.out]; omega, rfl, rfl, rfl⟩)
      go_enter Try.func27, Try.ntmps27
      go_wp2_with fail
      rw [HLEN.out]
      refine (plain_any (some ⟨b, off, none⟩) (c) us _ (by omega) (hrow.later (bel0 _ _))).mono ?_
      rintro e w0 ⟨rfl, hw⟩
      subst hw
      rw [hpl]
      go_wp2
      refine bodyPost_ret (v := .tuple #[.agg #[.bool false, .slice none 0 0], .int .i64 2]) (by simp [results, Try.results27, go_sem]) rfl ?_
      exact ⟨false, [], 2, none, 0, rfl, HRP.out, .inl rfl, bel0 _ _⟩

set_option maxHeartbeats 4000000 in
theorem parseI_minus (b off c : Nat) (ts : List Int) (w : World) (hn : ts.length ≤ 1048576) (hc : c ≤ maxLen) (hfit : ts.length ≤ c) (hz : RowAt .u8 w (some ⟨b, off, none⟩) ts) (hpos : 0 < ts.length) (hc1 : ¬ c = 1) (hb : b < w.heap.size) (t0 : Int) (g0 : w.cell? ⟨b, off, none⟩ = some (.int .u8 t0)) (e45 : (t0 == 45) = true) (hng : negB ts = true) :
    Calls Try.prog 27 #[.slice (some ⟨b, off, none⟩) ts.length c] w fun e w' => OutP w ts e w' := by
  have HNEG : Hid (negB ts = true) := hng
  have HDIG0 : digs ts = ts.drop 1 := by unfold digs; rw [hng]; rfl
  obtain ⟨us, hus⟩ : ∃ us, us = ts.drop 1 := ⟨_, rfl⟩
  have HDIG : Hid (digs ts = us) := by unfold Hid; rw [HDIG0, hus]
  have hrow : RowAt .u8 w (some ⟨b, off + 1, none⟩) us := by rw [hus]; exact row_drop1 hz
  have hlen : ts.length - 1 = us.length := by rw [hus]; simp
  have HLEN : Hid (ts.length - 1 = us.length) := hlen
  have hul : us.length ≤ 1048576 := by omega
  have huc : us.length + 1 ≤ c := by omega
  clear hng HDIG0 hus hz hlen
  cases hpl : plainB us
  · have HRP : Hid (ResP ts false [] 3) := .inl ⟨by unfold synB; rw [HDIG.out, hpl]; rfl, rfl, rfl, rfl⟩
    go_enter Try.func27, Try.ntmps27
    go_wp2_with fail
    rw [HLEN.out]
    refine (plain_any (some ⟨b, off + 1, none⟩) (c - 1) us _ (by omega) (hrow.later (bel0 _ _))).mono ?_
    rintro e w0 ⟨rfl, hw⟩
    subst hw
    rw [hpl]
    go_wp2
    refine bodyPost_ret (v := .tuple #[.agg #[.bool false, .slice none 0 0], .int .i64 3]) (by simp [results, Try.results27, go_sem]) rfl ?_
    exact ⟨false, [], 3, none, 0, rfl, HRP.out, .inl rfl, bel0 _ _⟩
  · have hdec := dec_of_plain hpl
    have hne : 0 < us.length := plain_pos hpl
    obtain ⟨u0, hu0⟩ : ∃ u0, u0 = us.getD 0 0 := ⟨_, rfl⟩
    have gd : w.cell? ⟨b, off + 1, none⟩ = some (.int .u8 u0) := by
      obtain ⟨b', off', e', g'⟩ := row_cell hrow (Below.refl _ w) hne
      injection e' with e'
      cases e'
      rw [hu0]
      exact g'
    have HU0 : Hid (u0 = us.getD 0 0) := hu0
    clear hu0
    by_cases h48 : u0 = 48
    · have HRP : Hid (ResP ts false [] 3) := .inl ⟨by unfold synB; rw [HDIG.out, hpl, HNEG.out, ← HU0.out, h48]; rfl, rfl, rfl, rfl⟩
      have e48 : (u0 == 48) = true := by rw [h48]; rfl
      clear h48
      go_enter Try.func27, Try.ntmps27
      go_wp2_with fail
      rw [HLEN.out]
      refine (plain_any (some ⟨b, off + 1, none⟩) (c - 1) us _ (by omega) (hrow.later (bel0 _ _))).mono ?_
      rintro e w0 ⟨rfl, hw⟩
      subst hw
      rw [hpl]
      go_wp2
      refine bodyPost_ret (v := .tuple #[.agg #[.bool false, .slice none 0 0], .int .i64 3]) (by simp [results, Try.results27, go_sem]) rfl ?_
      exact ⟨false, [], 3, none, 0, rfl, HRP.out, .inl rfl, bel0 _ _⟩
    · have HSYN : Hid (synB ts = true) := by
        unfold Hid synB
        rw [HDIG.out, hpl, HNEG.out, ← HU0.out]
        simp [h48]
      have e48 : (u0 == 48) = false := by rw [beq_eq_false_iff_ne]; exact h48
      clear h48
      by_cases hlen5 : us.length ≤ 5000
      · go_enter Try.func27, Try.ntmps27
        go_wp2_with fail
        rw [HLEN.out]
        refine (plain_any (some ⟨b, off + 1, none⟩) (c - 1) us _ (by omega) (hrow.later (bel0 _ _))).mono ?_
        rintro e w0 ⟨rfl, hw⟩
        subst hw
        rw [hpl]
        go_wp2_with fail
        try rw [HLEN.out]
        refine (magnitudeOf_any (some ⟨b, off + 1, none⟩) (c - 1) us _ hlen5 (by unfold maxLen at *; omega) (by omega) (hrow.later (bel0 _ _)) hdec).mono ?_
        rintro e w1 ⟨a2, c2, fs, rfl, hf2, hm2, hcan, hval, hlenf, hrn, hb1⟩
        go_wp2_with fail
        refine (signed_any true a2 fs.length c2 _).mono ?_
        rintro e w2 ⟨rfl, hb2⟩
        obtain ⟨gx, hgx⟩ : ∃ gx, gx = (true && decide (0 < fs.length)) := ⟨_, rfl⟩
        rw [← hgx]
        have HGX : Hid (gx = (true && decide (0 < fs.length))) := hgx
        clear hgx
        go_wp2_with fail
        refine (within_any gx a2 c2 fs _ (w.heap.size + 1) (by omega) (RowNew.later (by simpa using hrn) hb2)).mono ?_
        rintro e w3 ⟨a5, c5, rfl, hr5, hb3⟩
        have hE : Hid (ResP ts (limOut gx fs).1 (limOut gx fs).2.1 (limOut gx fs).2.2) := .inr (.inr ⟨HSYN.out, by rw [HDIG.out]; exact hlen5, by rw [HDIG.out, HNEG.out]; exact res_lim (by rw [HGX.out]; exact B1.of_signed (g := true) hcan hval)⟩)
        have hB : Below (w.alloc (.cells #[.bool false, .slice none 0 0] 27)).heap.size (w.alloc (.cells #[.bool false, .slice none 0 0] 27)) w3 := (hb1.trans (hb2.mono hb1.size)).trans (hb3.mono (Nat.le_trans hb1.size hb2.size))
        have hh : Hid (Has w.heap.size w3) := (Has.new w 27).later hB
        have HB : Hid (Below w.heap.size w w3) := (bel0 _ _).trans (hB.mono (by simp))
        have r1 := hh.out.r1
        have r2 := hh.out.r2
        have r3 := hh.out.r3
        have HR : Hid (RowNew .u32 w3 (w.heap.size + 1) a5 (limOut gx fs).2.1) := hr5
        clear hB hb1 hb2 hb3 hr5 hrn hcan hval
        generalize (limOut gx fs).1 = G at *
        generalize (limOut gx fs).2.1 = Z at *
        generalize (limOut gx fs).2.2 = K at *
        go_wp2
        refine bodyPost_ret (v := .tuple #[.agg #[.bool G, .slice a5 Z.length c5], .int .i64 K]) (by simp [results, Try.results27, go_sem, r1, r2]) rfl ?_
        refine ⟨G, Z, K, a5, c5, rfl, hE.out, ?_, ?_⟩
        · exact ((HR.out.setLow (by simp) _).setLow (by simp) _).down (by omega)
        · exact (HB.out.setCell (by simp) _).setCell (by simp) _
      · have HRP : Hid (ResP ts false [] 2) := .inr (.inl ⟨HSYN.out, by rw [HDIG.out]; omega, rfl, rfl, rfl⟩)
        go_enter Try.func27, Try.ntmps27
        go_wp2_with fail
        rw [HLEN.out]
        refine (plain_any (some ⟨b, off + 1, none⟩) (c - 1) us _ (by omega) (hrow.later (bel0 _ _))).mono ?_
        rintro e w0 ⟨rfl, hw⟩
        subst hw
        rw [hpl]
        go_wp2
        refine bodyPost_ret (v := .tuple #[.agg #[.bool false, .slice none 0 0], .int .i64 2]) (by simp [results, Try.results27, go_sem]) rfl ?_
        exact ⟨false, [], 2, none, 0, rfl, HRP.out, .inl rfl, bel0 _ _⟩

set_option maxHeartbeats 2000000 in
theorem parseI_none (a : Option Addr) (c : Nat) (w : World) :
    Calls Try.prog 27 #[.slice a 0 c] w fun e w' => OutP w [] e w' := by
  have hpl : plainB [] = false := rfl
  have HRP : Hid (ResP [] false [] 3) := .inl ⟨rfl, rfl, rfl, rfl⟩
  go_enter Try.func27, Try.ntmps27
  go_wp2_with fail
  refine (plain_any a c [] _ (by simp) (.inl rfl)).mono ?_
  rintro e w0 ⟨rfl, hw⟩
  subst hw
  rw [show plainB [] = false from rfl]
  clear hpl
  go_wp2
  refine bodyPost_ret (v := .tuple #[.agg #[.bool false, .slice none 0 0], .int .i64 3]) (by simp [results, Try.results27, go_sem]) rfl ?_
  exact ⟨false, [], 3, none, 0, rfl, HRP.out, .inl rfl, bel0 _ _⟩

set_option maxHeartbeats 2000000 in
theorem parseI_sign (b off : Nat) (t0 : Int) (w : World) (hb : b < w.heap.size) (g0 : w.cell? ⟨b, off, none⟩ = some (.int .u8 t0)) (e45 : (t0 == 45) = true) :
    Calls Try.prog 27 #[.slice (some ⟨b, off, none⟩) 1 1] w fun e w' => OutP w [t0] e w' := by
  have HRP : Hid (ResP [t0] false [] 3) := by
    have h45 : t0 = 45 := by simpa using e45
    subst h45
    exact .inl ⟨rfl, rfl, rfl, rfl⟩
  go_enter Try.func27, Try.ntmps27
  go_wp2_with fail
  refine (plain_any _ _ [] _ (by simp) (.inl rfl)).mono ?_
  rintro e w0 ⟨rfl, hw⟩
  subst hw
  rw [show plainB [] = false from rfl]
  go_wp2
  refine bodyPost_ret (v := .tuple #[.agg #[.bool false, .slice none 0 0], .int .i64 3]) (by simp [results, Try.results27, go_sem]) rfl ?_
  exact ⟨false, [], 3, none, 0, rfl, HRP.out, .inl rfl, bel0 _ _⟩

theorem parseI_any (a : Option Addr) (c : Nat) (ts : List Int) (w : World) (hn : ts.length ≤ 1048576) (hc : c ≤ maxLen) (hfit : ts.length ≤ c) (hz : RowAt .u8 w a ts) :
    Calls Try.prog 27 #[.slice a ts.length c] w fun e w' => OutP w ts e w' := by
  by_cases h0 : ts.length = 0
  · have : ts = [] := List.length_eq_zero_iff.1 h0
    subst this
    exact parseI_none a c w
  · have hpos : 0 < ts.length := by omega
    obtain ⟨b, off, rfl, hb, hcell⟩ := hz.resolve_left (by intro e; subst e; simp at h0)
    have g0 := hcell 0 hpos
    rw [Nat.add_zero] at g0
    have hng : negB ts = (ts.getD 0 0 == 45) := by unfold negB; simp [hpos]
    cases e45 : (ts.getD 0 0 == 45)
    · exact parseI_plus b off c ts w hn hc hfit hz hpos hb _ g0 e45 (by rw [hng, e45])
    · by_cases hc1 : c = 1
      · have h1 : ts.length = 1 := by omega
        obtain ⟨t0, ht0⟩ := List.length_eq_one_iff.1 h1
        subst ht0 hc1
        exact parseI_sign b off t0 w hb (by simpa using g0) (by simpa using e45)
      · exact parseI_minus b off c ts w hn hc hfit hz hpos hc1 hb _ g0 e45 (by rw [hng, e45])

end Go.Proofs.Ytlbegmepmeimkaa
