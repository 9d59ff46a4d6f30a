/-
  The program's BigParse.
-/
import Derived.Test.YtlbegmepmeimkabImplPImplQ
import Derived.Test.YtlbegmepmeimkabNumMNumPResP
import Derived.Test.YtlbegmepmeimkabSpecFSpecGSpecH
namespace Go.Proofs.Ytlbegmepmeimkab
open Go.RowKit

theorem plain_pos {ts : List Int} (h : plainB ts = true) : 0 < ts.length := by
  unfold plainB at h
  simp at h
  omega

set_option maxHeartbeats 4000000 in
theorem parseI_plus (b off c : Nat) (ts : List Int) (w : World) (hn : ts.length ≤ 1048576) (hc : c ≤ maxLen) (hfit : ts.length ≤ c) (hz : RowAt .u8 w (some ⟨b, off, none⟩) ts) (hpos : 0 < ts.length) (hb : b < w.heap.size) (t0 : Int) (g0 : w.cell? ⟨b, off, none⟩ = some (.int .u8 t0)) (e45 : (t0 == 45) = false) (hng : negB ts = false) :
    Calls Try.prog 19 #[.slice (some ⟨b, off, none⟩) ts.length c] w fun e w' => OutP w ts e w' := by
  have HNEG : Hid (negB ts = false) := hng
  have HDIG0 : digs ts = ts := by unfold digs; rw [hng]; rfl
  obtain ⟨us, hus⟩ : ∃ us, us = ts := ⟨_, rfl⟩
  have HDIG : Hid (digs ts = us) := by unfold Hid; rw [HDIG0, hus]
  have hrow : RowAt .u8 w (some ⟨b, off, none⟩) us := by rw [hus]; exact hz
  have hlen : ts.length = us.length := by rw [hus]
  have HLEN : Hid (ts.length = us.length) := hlen
  rw [hlen] at hn hfit
  clear hng HDIG0 hus hz hlen
  cases hpl : plainB us
  · have HRP : Hid (ResP ts false [] 3) := .inl ⟨by unfold synB; rw [HDIG.out, hpl]; rfl, rfl, rfl, rfl⟩
    go_enter Try.func19, Try.ntmps19
    go_wp2_with fail
    rw [HLEN.out]
    refine (plain_any (some ⟨b, off, none⟩) (c) us _ (by omega) (hrow.later (bel0 _ _))).mono ?_
    rintro e w0 ⟨rfl, hw⟩
    subst hw
    rw [hpl]
    go_wp2
    refine bodyPost_ret (v := .tuple #[.agg #[.bool false, .slice none 0 0], .int .i64 3]) (by simp [results, Try.results19, go_sem]) rfl ?_
    exact ⟨false, [], 3, none, 0, rfl, HRP.out, .inl rfl, bel0 _ _⟩
  · have hdec := dec_of_plain hpl
    have hne : 0 < us.length := plain_pos hpl
    have HSYN : Hid (synB ts = true) := by
      unfold Hid synB
      rw [HDIG.out, hpl, HNEG.out]
      rfl
    by_cases hlen5 : us.length ≤ 5000
    · go_enter Try.func19, Try.ntmps19
      go_wp2_with fail
      rw [HLEN.out]
      refine (plain_any (some ⟨b, off, none⟩) (c) us _ (by omega) (hrow.later (bel0 _ _))).mono ?_
      rintro e w0 ⟨rfl, hw⟩
      subst hw
      rw [hpl]
      go_wp2_with fail
      try rw [HLEN.out]
      refine (magnitudeOf_any (some ⟨b, off, none⟩) (c) us _ hlen5 (by unfold maxLen at *; omega) (by omega) (hrow.later (bel0 _ _)) hdec).mono ?_
      rintro e w1 ⟨a2, c2, fs, rfl, hf2, hm2, hcan, hval, hlenf, hrn, hb1⟩
      go_wp2_with fail
      refine (signed_any false a2 fs.length c2 _).mono ?_
      rintro e w2 ⟨rfl, hb2⟩
      obtain ⟨gx, hgx⟩ : ∃ gx, gx = (false && decide (0 < fs.length)) := ⟨_, rfl⟩
      rw [← hgx]
      have HGX : Hid (gx = (false && decide (0 < fs.length))) := hgx
      clear hgx
      go_wp2_with fail
      refine (within_any gx a2 c2 fs _ (w.heap.size + 1) (by omega) (RowNew.later (by simpa using hrn) hb2)).mono ?_
      rintro e w3 ⟨a5, c5, rfl, hr5, hb3⟩
      have hE : Hid (ResP ts (limOut gx fs).1 (limOut gx fs).2.1 (limOut gx fs).2.2) := .inr (.inr ⟨HSYN.out, by rw [HDIG.out]; exact hlen5, by rw [HDIG.out, HNEG.out]; exact res_lim (by rw [HGX.out]; exact B1.of_signed (g := false) hcan hval)⟩)
      have hB : Below (w.alloc (.cells #[.bool false, .slice none 0 0] 26)).heap.size (w.alloc (.cells #[.bool false, .slice none 0 0] 26)) w3 := (hb1.trans (hb2.mono hb1.size)).trans (hb3.mono (Nat.le_trans hb1.size hb2.size))
      have hh : Hid (Has w.heap.size w3) := (Has.new w 26).later hB
      have HB : Hid (Below w.heap.size w w3) := (bel0 _ _).trans (hB.mono (by simp))
      have r1 := hh.out.r1
      have r2 := hh.out.r2
      have r3 := hh.out.r3
      have HR : Hid (RowNew .u32 w3 (w.heap.size + 1) a5 (limOut gx fs).2.1) := hr5
      clear hB hb1 hb2 hb3 hr5 hrn hcan hval
      generalize (limOut gx fs).1 = G at *
      generalize (limOut gx fs).2.1 = Z at *
      generalize (limOut gx fs).2.2 = K at *
      go_wp2
      refine bodyPost_ret (v := .tuple #[.agg #[.bool G, .slice a5 Z.length c5], .int .i64 K]) (by simp [results, Try.results19, go_sem, r1, r2]) rfl ?_
      refine ⟨G, Z, K, a5, c5, rfl, hE.out, ?_, ?_⟩
      · exact ((HR.out.setLow (by simp) _).setLow (by simp) _).down (by omega)
      · exact (HB.out.setCell (by simp) _).setCell (by simp) _
    · have HRP : Hid (ResP ts false [] 2) := .inr (.inl ⟨HSYN.out, by rw [HDIG.out]; omega, rfl, rfl, rfl⟩)
      go_enter Try.func19, Try.ntmps19
      go_wp2_with fail
      rw [HLEN.out]
      refine (plain_any (some ⟨b, off, none⟩) (c) us _ (by omega) (hrow.later (bel0 _ _))).mono ?_
      rintro e w0 ⟨rfl, hw⟩
      subst hw
      rw [hpl]
      go_wp2
      refine bodyPost_ret (v := .tuple #[.agg #[.bool false, .slice none 0 0], .int .i64 2]) (by simp [results, Try.results19, go_sem]) rfl ?_
      exact ⟨false, [], 2, none, 0, rfl, HRP.out, .inl rfl, bel0 _ _⟩

set_option maxHeartbeats 4000000 in
theorem parseI_minus (b off c : Nat) (ts : List Int) (w : World) (hn : ts.length ≤ 1048576) (hc : c ≤ maxLen) (hfit : ts.length ≤ c) (hz : RowAt .u8 w (some ⟨b, off, none⟩) ts) (hpos : 0 < ts.length) (hc1 : ¬ c = 1) (hb : b < w.heap.size) (t0 : Int) (g0 : w.cell? ⟨b, off, none⟩ = some (.int .u8 t0)) (e45 : (t0 == 45) = true) (hng : negB ts = true) :
    Calls Try.prog 19 #[.slice (some ⟨b, off, none⟩) ts.length c] w fun e w' => OutP w ts e w' := by
  have HNEG : Hid (negB ts = true) := hng
  have HDIG0 : digs ts = ts.drop 1 := by unfold digs; rw [hng]; rfl
  obtain ⟨us, hus⟩ : ∃ us, us = ts.drop 1 := ⟨_, rfl⟩
  have HDIG : Hid (digs ts = us) := by unfold Hid; rw [HDIG0, hus]
  have hrow : RowAt .u8 w (some ⟨b, off + 1, none⟩) us := by rw [hus]; exact row_drop1 hz
  have hlen : ts.length - 1 = us.length := by rw [hus]; simp
  have HLEN : Hid (ts.length - 1 = us.length) := hlen
  have hul : us.length ≤ 1048576 := by omega
  have huc : us.length + 1 ≤ c := by omega
  clear hng HDIG0 hus hz hlen
  cases hpl : plainB us
  · have HRP : Hid (ResP ts false [] 3) := .inl ⟨by unfold synB; rw [HDIG.out, hpl]; rfl, rfl, rfl, rfl⟩
    go_enter Try.func19, Try.ntmps19
    go_wp2_with fail
    rw [HLEN.out]
    refine (plain_any (some ⟨b, off + 1, none⟩) (c - 1) us _ (by omega) (hrow.later (bel0 _ _))).mono ?_
    rintro e w0 ⟨rfl, hw⟩
    subst hw
    rw [hpl]
    go_wp2
    refine bodyPost_ret (v := .tuple #[.agg #[.bool false, .slice none 0 0], .int .i64 3]) (by simp [results, Try.results19, go_sem]) rfl ?_
    exact ⟨false, [], 3, none, 0, rfl, HRP.out, .inl rfl, bel0 _ _⟩
  · have hdec := dec_of_plain hpl
    have hne : 0 < us.length := plain_pos hpl
    obtain ⟨u0, hu0⟩ : ∃ u0, u0 = us.getD 0 0 := ⟨_, rfl⟩
    have gd : w.cell? ⟨b, off + 1, none⟩ = some (.int .u8 u0) := by
      obtain ⟨b', off', e', g'⟩ := row_cell hrow (Below.refl _ w) hne
      injection e' with e'
      cases e'
      rw [hu0]
      exact g'
    have HU0 : Hid (u0 = us.getD 0 0) := hu0
    clear hu0
    by_cases h48 : u0 = 48
    · have HRP : Hid (ResP ts false [] 3) := .inl ⟨by unfold synB; rw [HDIG.out, hpl, HNEG.out, ← HU0.out, h48]; rfl, rfl, rfl, rfl⟩
      have e48 : (u0 == 48) = true := by rw [h48]; rfl
      clear h48
      go_enter Try.func19, Try.ntmps19
      go_wp2_with fail
      rw [HLEN.out]
      refine (plain_any (some ⟨b, off + 1, none⟩) (c - 1) us _ (by omega) (hrow.later (bel0 _ _))).mono ?_
      rintro e w0 ⟨rfl, hw⟩
      subst hw
      rw [hpl]
      go_wp2
      refine bodyPost_ret (v := .tuple #[.agg #[.bool false, .slice none 0 0], .int .i64 3]) (by simp [results, Try.results19, go_sem]) rfl ?_
      exact ⟨false, [], 3, none, 0, rfl, HRP.out, .inl rfl, bel0 _ _⟩
    · have HSYN : Hid (synB ts = true) := by
        unfold Hid synB
        rw [HDIG.out, hpl, HNEG.out, ← HU0.out]
        simp [h48]
      have e48 : (u0 == 48) = false := by rw [beq_eq_false_iff_ne]; exact h48
      clear h48
      by_cases hlen5 : us.length ≤ 5000
      · go_enter Try.func19, Try.ntmps19
        go_wp2_with fail
        rw [HLEN.out]
        refine (plain_any (some ⟨b, off + 1, none⟩) (c - 1) us _ (by omega) (hrow.later (bel0 _ _))).mono ?_
        rintro e w0 ⟨rfl, hw⟩
        subst hw
        rw [hpl]
        go_wp2_with fail
        try rw [HLEN.out]
        refine (magnitudeOf_any (some ⟨b, off + 1, none⟩) (c - 1) us _ hlen5 (by unfold maxLen at *; omega) (by omega) (hrow.later (bel0 _ _)) hdec).mono ?_
        rintro e w1 ⟨a2, c2, fs, rfl, hf2, hm2, hcan, hval, hlenf, hrn, hb1⟩
        go_wp2_with fail
        refine (signed_any true a2 fs.length c2 _).mono ?_
        rintro e w2 ⟨rfl, hb2⟩
        obtain ⟨gx, hgx⟩ : ∃ gx, gx = (true && decide (0 < fs.length)) := ⟨_, rfl⟩
        rw [← hgx]
        have HGX : Hid (gx = (true && decide (0 < fs.length))) := hgx
        clear hgx
        go_wp2_with fail
        refine (within_any gx a2 c2 fs _ (w.heap.size + 1) (by omega) (RowNew.later (by simpa using hrn) hb2)).mono ?_
        rintro e w3 ⟨a5, c5, rfl, hr5, hb3⟩
        have hE : Hid (ResP ts (limOut gx fs).1 (limOut gx fs).2.1 (limOut gx fs).2.2) := .inr (.inr ⟨HSYN.out, by rw [HDIG.out]; exact hlen5, by rw [HDIG.out, HNEG.out]; exact res_lim (by rw [HGX.out]; exact B1.of_signed (g := true) hcan hval)⟩)
        have hB : Below (w.alloc (.cells #[.bool false, .slice none 0 0] 26)).heap.size (w.alloc (.cells #[.bool false, .slice none 0 0] 26)) w3 := (hb1.trans (hb2.mono hb1.size)).trans (hb3.mono (Nat.le_trans hb1.size hb2.size))
        have hh : Hid (Has w.heap.size w3) := (Has.new w 26).later hB
        have HB : Hid (Below w.heap.size w w3) := (bel0 _ _).trans (hB.mono (by simp))
        have r1 := hh.out.r1
        have r2 := hh.out.r2
        have r3 := hh.out.r3
        have HR : Hid (RowNew .u32 w3 (w.heap.size + 1) a5 (limOut gx fs).2.1) := hr5
        clear hB hb1 hb2 hb3 hr5 hrn hcan hval
        generalize (limOut gx fs).1 = G at *
        generalize (limOut gx fs).2.1 = Z at *
        generalize (limOut gx fs).2.2 = K at *
        go_wp2
        refine bodyPost_ret (v := .tuple #[.agg #[.bool G, .slice a5 Z.length c5], .int .i64 K]) (by simp [results, Try.results19, go_sem, r1, r2]) rfl ?_
        refine ⟨G, Z, K, a5, c5, rfl, hE.out, ?_, ?_⟩
        · exact ((HR.out.setLow (by simp) _).setLow (by simp) _).down (by omega)
        · exact (HB.out.setCell (by simp) _).setCell (by simp) _
      · have HRP : Hid (ResP ts false [] 2) := .inr (.inl ⟨HSYN.out, by rw [HDIG.out]; omega, rfl, rfl, rfl⟩)
        go_enter Try.func19, Try.ntmps19
        go_wp2_with fail
        rw [HLEN.out]
        refine (plain_any (some ⟨b, off + 1, none⟩) (c - 1) us _ (by omega) (hrow.later (bel0 _ _))).mono ?_
        rintro e w0 ⟨rfl, hw⟩
        subst hw
        rw [hpl]
        go_wp2
        refine bodyPost_ret (v := .tuple #[.agg #[.bool false, .slice none 0 0], .int .i64 2]) (by simp [results, Try.results19, go_sem]) rfl ?_
        exact ⟨false, [], 2, none, 0, rfl, HRP.out, .inl rfl, bel0 _ _⟩

set_option maxHeartbeats 2000000 in
theorem parseI_none (a : Option Addr) (c : Nat) (w : World) :
    Calls Try.prog 19 #[.slice a 0 c] w fun e w' => OutP w [] e w' := by
  have hpl : plainB [] = false := rfl
  have HRP : Hid (ResP [] false [] 3) := .inl ⟨rfl, rfl, rfl, rfl⟩
  go_enter Try.func19, Try.ntmps19
  go_wp2_with fail
  refine (plain_any a c [] _ (by simp) (.inl rfl)).mono ?_
  rintro e w0 ⟨rfl, hw⟩
  subst hw
  rw [show plainB [] = false from rfl]
  clear hpl
  go_wp2
  refine bodyPost_ret (v := .tuple #[.agg #[.bool false, .slice none 0 0], .int .i64 3]) (by simp [results, Try.results19, go_sem]) rfl ?_
  exact ⟨false, [], 3, none, 0, rfl, HRP.out, .inl rfl, bel0 _ _⟩

set_option maxHeartbeats 2000000 in
theorem parseI_sign (b off : Nat) (t0 : Int) (w : World) (hb : b < w.heap.size) (g0 : w.cell? ⟨b, off, none⟩ = some (.int .u8 t0)) (e45 : (t0 == 45) = true) :
    Calls Try.prog 19 #[.slice (some ⟨b, off, none⟩) 1 1] w fun e w' => OutP w [t0] e w' := by
  have HRP : Hid (ResP [t0] false [] 3) := by
    have h45 : t0 = 45 := by simpa using e45
    subst h45
    exact .inl ⟨rfl, rfl, rfl, rfl⟩
  go_enter Try.func19, Try.ntmps19
  go_wp2_with fail
  refine (plain_any _ _ [] _ (by simp) (.inl rfl)).mono ?_
  rintro e w0 ⟨rfl, hw⟩
  subst hw
  rw [show plainB [] = false from rfl]
  go_wp2
  refine bodyPost_ret (v := .tuple #[.agg #[.bool false, .slice none 0 0], .int .i64 3]) (by simp [results, Try.results19, go_sem]) rfl ?_
  exact ⟨false, [], 3, none, 0, rfl, HRP.out, .inl rfl, bel0 _ _⟩

theorem parseI_any (a : Option Addr) (c : Nat) (ts : List Int) (w : World) (hn : ts.length ≤ 1048576) (hc : c ≤ maxLen) (hfit : ts.length ≤ c) (hz : RowAt .u8 w a ts) :
    Calls Try.prog 19 #[.slice a ts.length c] w fun e w' => OutP w ts e w' := by
  by_cases h0 : ts.length = 0
  · have : ts = [] := List.length_eq_zero_iff.1 h0
    subst this
    exact parseI_none a c w
  · have hpos : 0 < ts.length := by omega
    obtain ⟨b, off, rfl, hb, hcell⟩ := hz.resolve_left (by intro e; subst e; simp at h0)
    have g0 := hcell 0 hpos
    rw [Nat.add_zero] at g0
    have hng : negB ts = (ts.getD 0 0 == 45) := by unfold negB; simp [hpos]
    cases e45 : (ts.getD 0 0 == 45)
    · exact parseI_plus b off c ts w hn hc hfit hz hpos hb _ g0 e45 (by rw [hng, e45])
    · by_cases hc1 : c = 1
      · have h1 : ts.length = 1 := by omega
        obtain ⟨t0, ht0⟩ := List.length_eq_one_iff.1 h1
        subst ht0 hc1
        exact parseI_sign b off t0 w hb (by simpa using g0) (by simpa using e45)
      · exact parseI_minus b off c ts w hn hc hfit hz hpos hc1 hb _ g0 e45 (by rw [hng, e45])

end Go.Proofs.Ytlbegmepmeimkab

/-
  The model's small numbers.
-/
namespace Go.Proofs.Ytlbegmepmeimkab
open Go.RowKit

theorem l1_small {w : World} {a : Option Addr} {c : Nat} {v : Int} (h0 : 0 ≤ v) (h1 : v ≤ 65535) (hc : c ≤ maxLen) (h : Sl .i64 w a c (if v = 0 then [] else [v])) : L1 w false a c (if v = 0 then [] else [v]) v := by
  by_cases hv : v = 0
  · subst hv
    rw [if_pos rfl] at h ⊢
    exact ⟨h, ⟨Dig.nil _, rfl⟩, by simp [sg, val], (fun hg => by cases hg), hc⟩
  · rw [if_neg hv] at h ⊢
    exact ⟨h, ⟨Dig.cons h0 (by omega) (Dig.nil _), by simp [trimL, hv]⟩, by simp [sg, val], (fun hg => by cases hg), hc⟩

/-- What l1small hands back. -/
def SmallOut (w : World) (v : Int) (e : Ending) (w' : World) : Prop :=
  ∃ (a : Option Addr) (c : Nat) (ds : List Int), e = .returned (.agg #[.bool false, .slice a ds.length c]) ∧ ds.length ≤ 1 ∧ L1 w' false a c ds v ∧ Far (w.heap.size + 1) a ds ∧ Below w.heap.size w w'

set_option maxHeartbeats 2000000 in
theorem small_any (v : Int) (w : World) (h0 : 0 ≤ v) (h1 : v ≤ 65535) :
    Calls Try.prog 55 #[.int .i64 v] w fun e w' => SmallOut w v e w' := by
  go_enter Try.func55, Try.ntmps55
  go_wp2
  go_loopw [4, 5] (fun su sd wr => ∃ (u : Int) (ys : List Int), su = .int .u64 u ∧ ((u = v ∧ ys = []) ∨ (u = 0 ∧ ys = [v] ∧ 0 < v)) ∧ wr.ownsRow (w.heap.size + 1) 3 1 sd ys.length (vals .i64 ys) ∧ Below (w.heap.size + 1) (w.alloc (.cells #[.bool false, .slice none 0 0] 55)) wr ∧ w.heap.size + 1 ≤ wr.heap.size) (fun su _ _ => (intOf su).toNat)
  case atStart => exact ⟨v, [], rfl, .inl ⟨rfl, rfl⟩, own_nil _ _ _ _, Below.refl _ _, by simp⟩
  case round =>
    obtain ⟨u, ys, rfl, hcase, hown, hnx, hsz⟩ := hrel
    have hu0 : 0 ≤ u := by omega
    have hu1 : u ≤ 65535 := by omega
    by_cases hu : 0 < u
    · have hy : ys = [] ∧ u = v := by
        rcases hcase with ⟨h, h'⟩ | ⟨h, _, _⟩
        · exact ⟨h', h⟩
        · omega
      obtain ⟨hy, huv⟩ := hy
      subst hy huv
      have E1 : Hid (u % 65536 = u) := by unfold Hid; omega
      have E2 : Hid (u / 65536 = 0) := by unfold Hid; omega
      clear hcase
      go_wp2_with (at_builtin; refine app1 rfl (.tmp 15) (.tmp 19) 53 rfl (w.heap.size + 1) 3 Try.underlying53 Try.info3 (by decide) _ _ rfl rfl hown (by simp) hsz ?_; intro a1 n1 c1 w1 hown1 hb1 hs1)
      rw [E1.out] at hown1
      go_roundw
      case rel => exact ⟨0, [u], by rw [E2.out], .inr ⟨rfl, rfl, hu⟩, hown1, hnx.trans hb1, by omega⟩
      case measure => simp only [intOf]; rw [E2.out]; omega
    · have hu00 : u = 0 := by omega
      subst hu00
      have hys : ys = (if v = 0 then [] else [v]) := by
        rcases hcase with ⟨h, h'⟩ | ⟨_, h', h⟩
        · rw [h', if_pos h.symm]
        · rw [h', if_neg (by omega)]
      obtain ⟨a', c', rfl, hcm, hsl, hrn⟩ := own_row hown
      have r1 : wr.cell? ⟨w.heap.size, 0, none⟩ = some (.bool false) := by rw [hnx.cell (by simp)]; simp [go_sem]
      have r2 : wr.cell? ⟨w.heap.size, 1, none⟩ = some (.slice none 0 0) := by rw [hnx.cell (by simp)]; simp [go_sem]
      have r3 : ∀ j, wr.frozen? ⟨w.heap.size, j, none⟩ = false := by intro j; rw [hnx.frozen (by simp)]; simp [go_sem]
      have HF : Hid (Far (w.heap.size + 1) a' ys) := hrn.far (Nat.le_refl _) (Nat.le_refl _)
      have HL : Hid (L1 wr false a' c' ys v) := by unfold Hid; rw [hys] at hsl ⊢; exact l1_small h0 h1 hcm hsl
      have HB : Hid (Below w.heap.size w wr) := (bel0 _ _).trans (hnx.mono (by omega))
      have hyl : ys.length ≤ 1 := by rw [hys]; split <;> simp
      clear hown hnx hsl hrn hcase hys
      go_wp2
      refine bodyPost_ret (v := .agg #[.bool false, .slice a' ys.length c']) (by simp [results, Try.results55, go_sem, r1, r2, h0]) rfl ?_
      refine ⟨a', c', ys, rfl, hyl, ?_, HF.out, ?_⟩
      · exact (HL.out.setFar HF.out (by simp) _).setFar HF.out (by simp) _
      · exact (HB.out.setCell (by simp) _).setCell (by simp) _

end Go.Proofs.Ytlbegmepmeimkab
