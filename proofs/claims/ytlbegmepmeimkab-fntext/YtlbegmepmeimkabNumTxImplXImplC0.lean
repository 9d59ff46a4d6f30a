/-
  Plain mathematics: texts of numbers and numbers of texts undo one another.
-/
import Derived.Test.YtlbegmepmeimkabNumU
import Derived.Test.YtlbegmepmeimkabNumMNumPResP
import Derived.Test.YtlbegmepmeimkabNumWNumYLawS0
import Derived.Test.YtlbegmepmeimkabOff
import Derived.Test.YtlbegmepmeimkabImplH
import Derived.Test.YtlbegmepmeimkabSpecU
import Derived.Test.YtlbegmepmeimkabImplB
import Derived.Test.YtlbegmepmeimkabSpecD
namespace Go.Proofs.Ytlbegmepmeimkab
open Go.RowKit

/-- The digits of a number greater than 0, the highest first. -/
theorem decs_rev (f : Nat) : ∀ n : Int, 0 < n → n < (10 ^ f : Nat) → Dec (decs n).reverse ∧ dval (decs n).reverse = n ∧ (decs n).reverse ≠ [] ∧ (decs n).reverse.getD 0 0 ≠ 48 := by
  induction f with
  | zero => intro n h0 h1; simp at h1; omega
  | succ f ih =>
    intro n h0 h1
    have e := decs_step h0
    rw [e, List.reverse_cons]
    by_cases h : n / 10 ≤ 0
    · rw [decs_none h]
      have h9 : n < 10 := by omega
      refine ⟨?_, ?_, by simp, ?_⟩
      · intro t ht
        have : t = 48 + n % 10 := by simpa using ht
        omega
      · simp [dval]
        omega
      · simp
        omega
    · obtain ⟨i1, i2, i3, i4⟩ := ih (n / 10) (by omega) (by rw [Nat.pow_succ] at h1; omega)
      refine ⟨?_, ?_, by simp, ?_⟩
      · intro t ht
        rcases List.mem_append.1 ht with ht | ht
        · exact i1 t ht
        · have : t = 48 + n % 10 := by simpa using ht
          omega
      · rw [dval_snoc, i2]
        omega
      · obtain ⟨u, us, hu⟩ := List.exists_cons_of_ne_nil i3
        rw [hu] at i4 ⊢
        simpa using i4

/-- Digits with no zero first are those of their number. -/
theorem decs_of (m : Nat) : ∀ ds : List Int, ds.length = m + 1 → Dec ds → ds.getD 0 0 ≠ 48 → ds = (decs (dval ds)).reverse ∧ 0 < dval ds := by
  induction m with
  | zero =>
    intro ds hl hd h0
    obtain ⟨t, rfl⟩ := List.length_eq_one_iff.1 hl
    have ht := hd t (by simp)
    have hv : dval [t] = t - 48 := by simp [dval]
    have h0' : t ≠ 48 := by simpa using h0
    rw [hv, decs_step (by omega), decs_none (by omega)]
    refine ⟨?_, by omega⟩
    simp
    omega
  | succ m ih =>
    intro ds hl hd h0
    rcases List.eq_nil_or_concat ds with rfl | ⟨us, t, rfl⟩
    · simp at hl
    · rw [List.concat_eq_append] at *
      have hul : us.length = m + 1 := by simpa using hl
      have hud : Dec us := fun x hx => hd x (List.mem_append.2 (.inl hx))
      have ht := hd t (by simp)
      have hu0 : us.getD 0 0 ≠ 48 := by
        obtain ⟨u, us', hu⟩ := List.exists_cons_of_ne_nil (show us ≠ [] from fun e => by rw [e] at hul; simp at hul)
        rw [hu] at h0 ⊢
        simpa using h0
      obtain ⟨i1, i2⟩ := ih us hul hud hu0
      have hv := dval_snoc us t
      have hpos : 0 < dval (us ++ [t]) := by rw [hv]; omega
      refine ⟨?_, hpos⟩
      rw [decs_step hpos, List.reverse_cons]
      have e1 : dval (us ++ [t]) / 10 = dval us := by rw [hv]; omega
      have e2 : 48 + dval (us ++ [t]) % 10 = t := by rw [hv]; omega
      rw [e1, e2, ← i1]

/-- The digits of a text behind its sign, of a number's own text. -/
theorem text_parts {g : Bool} {n : Int} (h0 : 0 ≤ n) (hg : g = true → n ≠ 0) : negB (textL g n) = g ∧ digs (textL g n) = (if n = 0 then [48] else (decs n).reverse) := by
  have hcase : negB (textL g n) = g := by
    unfold textL
    by_cases hn : n = 0
    · have : g = false := by cases g; rfl; exact absurd hn (hg rfl)
      subst this
      rw [if_pos hn]
      decide
    · rw [if_neg hn]
      obtain ⟨d1, _, d3, _⟩ := decs_rev n.toNat n (by omega) (lt_ten n)
      cases g
      · simp only [Bool.false_eq_true, if_false, List.append_nil]
        obtain ⟨u, us, hu⟩ := List.exists_cons_of_ne_nil d3
        have hu0 := d1 u (by rw [hu]; simp)
        rw [hu]
        unfold negB
        simp
        omega
      · simp [negB]
  refine ⟨hcase, ?_⟩
  unfold digs
  rw [hcase]
  cases g
  · rw [if_neg (by decide)]
    unfold textL
    split
    · rfl
    · simp
  · rw [if_pos rfl]
    unfold textL
    rw [if_neg (hg rfl), if_neg (hg rfl)]
    simp

/-- A number's own text is a text. -/
theorem text_syn {g : Bool} {n : Int} (h0 : 0 ≤ n) (hg : g = true → n ≠ 0) : synB (textL g n) = true ∧ dval (digs (textL g n)) = n := by
  obtain ⟨e1, e2⟩ := text_parts h0 hg
  unfold synB
  rw [e1, e2]
  by_cases hn : n = 0
  · have : g = false := by cases g; rfl; exact absurd hn (hg rfl)
    subst this hn
    exact ⟨by decide, by decide⟩
  · rw [if_neg hn]
    obtain ⟨d1, d2, d3, d4⟩ := decs_rev n.toNat n (by omega) (lt_ten n)
    refine ⟨?_, d2⟩
    have hpl : plainB (decs n).reverse = true := by
      unfold plainB
      rw [all_dec d1, Bool.true_and]
      have hl : 0 < (decs n).reverse.length := List.length_pos_iff.2 d3
      by_cases h1 : (decs n).reverse.length = 1
      · simp [h1]
      · have h2 : 1 < (decs n).reverse.length := by omega
        rw [decide_eq_true h2, bne_iff_ne.2 d4]
        simp
    rw [hpl, beq_eq_false_iff_ne.2 d4]
    simp

/-- What BigParse answers to a number's own text. -/
theorem parse_text {g : Bool} {zs : List Int} (hu : U32 zs) (hv : validB g zs = true) {G : Bool} {Z : List Int} {K : Int} (h : ResP (textL g (val 4294967296 zs)) G Z K) : G = g ∧ Z = zs ∧ K = 0 := by
  obtain ⟨hcan, hl, hz⟩ := valid_canon hu hv
  have h0 := val_nonneg (B := 4294967296) (by decide) hcan.1
  have hg : g = true → val 4294967296 zs ≠ 0 := fun e => by
    have := val_pos (B := 4294967296) (by decide) hcan (hz e)
    omega
  obtain ⟨s1, s2⟩ := text_syn h0 hg
  obtain ⟨e1, e2⟩ := text_parts h0 hg
  have hdl : (digs (textL g (val 4294967296 zs))).length ≤ 5000 := by
    rw [e2]
    split
    · simp
    · rw [List.length_reverse]
      exact decs_length (val_fits hcan.1 hl)
  rcases h with ⟨h1, _⟩ | ⟨_, h1, _⟩ | ⟨_, _, hr⟩
  · rw [s1] at h1; cases h1
  · omega
  · rw [e1, s2] at hr
    have hb : B1 g zs (sg g (val 4294967296 zs)) := B1.of_valid hu hv
    have hfit := hb.fits hl
    obtain ⟨hK, hB, _⟩ := hr.ok hfit
    have hu2 := hB.inj hb
    exact ⟨hu2.1, hu2.2, hK⟩

/-- A text that BigParse takes is the text of what it answers. -/
theorem text_parse {ts : List Int} {G : Bool} {Z : List Int} (h : ResP ts G Z 0) : validB G Z = true ∧ U32 Z ∧ textL G (val 4294967296 Z) = ts := by
  rcases h with ⟨_, _, _, h1⟩ | ⟨_, _, _, _, h1⟩ | ⟨hs, hl, hr⟩
  · cases h1
  · cases h1
  · obtain ⟨hB, hzl, hfit⟩ := hr.of_ok rfl
    refine ⟨hB.valid hzl, hB.u32, ?_⟩
    unfold synB at hs
    rw [Bool.and_eq_true] at hs
    obtain ⟨hp, hz⟩ := hs
    have hd := dec_of_plain hp
    have hts : ts = (if negB ts = true then [45] else []) ++ digs ts := by
      cases hn : negB ts
      · simp [digs, hn]
      · unfold negB at hn
        rw [Bool.and_eq_true, decide_eq_true_eq, beq_iff_eq] at hn
        obtain ⟨u, us, hu⟩ := List.exists_cons_of_ne_nil (List.length_pos_iff.1 hn.1)
        have hu0 : u = 45 := by simpa [hu] using hn.2
        have hng : negB ts = true := by
          unfold negB
          rw [decide_eq_true hn.1, beq_iff_eq.2 hn.2]
          rfl
        simp [digs, hng]
        rw [hu, hu0]
        simp
    obtain ⟨neg, hneg⟩ : ∃ neg, neg = negB ts := ⟨_, rfl⟩
    obtain ⟨ds, hds⟩ : ∃ ds, ds = digs ts := ⟨_, rfl⟩
    rw [← hneg, ← hds] at hts hz
    rw [← hds] at hp hd hl
    rw [← hneg, ← hds] at hB
    have hlen : 0 < ds.length := by
      rcases Nat.eq_zero_or_pos ds.length with h | h
      · rw [List.length_eq_zero_iff.1 h] at hp
        exact absurd hp (by decide)
      · exact h
    by_cases h48 : ds.getD 0 0 = 48
    · have h1 : ds.length = 1 := by
        unfold plainB at hp
        rw [Bool.and_eq_true] at hp
        have h2 := hp.2
        rw [bne_eq_false_iff_eq.2 h48, Bool.and_false, Bool.or_false, decide_eq_true_eq] at h2
        exact h2
      obtain ⟨t, ht⟩ := List.length_eq_one_iff.1 h1
      have ht48 : t = 48 := by simpa [ht] using h48
      have hn0 : neg = false := by
        cases neg
        · rfl
        · rw [h48] at hz
          exact absurd hz (by decide)
      subst hn0
      rw [ht, ht48] at hB hts
      have hx : sg false (dval [48]) = 0 := by decide
      rw [hx] at hB
      have hZ : G = false ∧ Z = [] := hB.inj ⟨⟨Dig.nil _, rfl⟩, by simp [sg, val], fun h => by cases h⟩
      rw [hZ.1, hZ.2, hts]
      decide
    · obtain ⟨e1, e2⟩ := decs_of (ds.length - 1) ds (by omega) hd h48
      have hv := hB.num
      have hvn := val_nonneg (B := 4294967296) (by decide) hB.can.1
      have hGn : G = neg ∧ val 4294967296 Z = dval ds := by
        cases G <;> cases neg
        · exact ⟨rfl, by simpa [sg] using hv.symm⟩
        · simp [sg] at hv; omega
        · simp [sg] at hv; omega
        · exact ⟨rfl, by simp [sg] at hv; omega⟩
      rw [hGn.1, hGn.2, hts]
      unfold textL
      rw [if_neg (by omega), List.reverse_append, ← e1]
      cases neg <;> simp

end Go.Proofs.Ytlbegmepmeimkab

/-
  The program's BigText.
-/
namespace Go.Proofs.Ytlbegmepmeimkab
open Go.RowKit

set_option maxHeartbeats 2000000 in
theorem textI_bad (g : Bool) (a : Option Addr) (c : Nat) (zs : List Int) (w : World) (hn : zs.length ≤ maxLen) (hz : RowAt .u32 w a zs) (hv : validB g zs = false) :
    Calls Try.prog 17 #[.agg #[.bool g, .slice a zs.length c]] w fun e w' => OutT w g zs e w' := by
  go_enter Try.func17, Try.ntmps17
  go_wp2_with fail
  refine (validI_any _ _ _ _ _ hn (hz.later (bel0 _ _))).mono ?_
  rintro e w1 ⟨rfl, hb⟩
  have HB : Hid (Below w.heap.size w w1) := (bel0 _ _).trans (hb.mono (by simp))
  have HV : Hid (validB g zs = false) := hv
  rw [hv]
  clear hb hv
  go_wp2
  refine bodyPost_ret (v := .tuple #[.slice none 0 0, .int .i64 1]) (by simp [results, Try.results17, go_sem]) rfl ?_
  exact ⟨[], 1, none, 0, rfl, .inl ⟨HV.out, rfl, rfl⟩, .inl rfl, HB.out⟩

set_option maxHeartbeats 2000000 in
theorem textI_nil (a : Option Addr) (c : Nat) (w : World) (hv : validB false [] = true) :
    Calls Try.prog 17 #[.agg #[.bool false, .slice a ([] : List Int).length c]] w fun e w' => OutT w false [] e w' := by
  go_enter Try.func17, Try.ntmps17
  go_wp2_with fail
  refine (validI_any _ _ _ _ _ (by simp) (.inl rfl)).mono ?_
  rintro e w1 ⟨rfl, hb⟩
  have HB : Hid (Below w.heap.size w w1) := (bel0 _ _).trans (hb.mono (by simp))
  have q1 : w1.cell? ⟨w.heap.size, 1, none⟩ = some (.slice a ([] : List Int).length c) := by rw [(bcell hb).1 _ _ (by simp)]; simp [go_sem]
  have HV : Hid (validB false [] = true) := hv
  rw [hv]
  clear hb hv
  go_wp2
  refine bodyPost_ret (v := .tuple #[.slice (some ⟨w1.heap.size, 0, none⟩) 1 1, .int .i64 0]) (by simp [results, Try.results17, go_sem]) rfl ?_
  exact ⟨[48], 0, some ⟨w1.heap.size, 0, none⟩, 1, rfl, .inr ⟨HV.out, by simp [textL, val], rfl⟩, one_new w1 48 _ HB.out.size, HB.out.alloc HB.out.size _⟩

/-- A row in new memory, at its block. -/
theorem own_at {w : World} {base : Nat} {e : TypeId} {v : Value} {ys : List Int} (h : w.ownsRow base e 1 v ys.length (vals .u8 ys)) (hne : ys ≠ []) :
    ∃ b c, v = .slice (some ⟨b, 0, none⟩) ys.length c ∧ base ≤ b ∧ Own .u8 w b 0 ys := by
  obtain ⟨a, c, rfl, _, _, hr⟩ := own_row h
  obtain ⟨b, off, rfl, hB, hlt, hcell, hfree⟩ := hr.resolve_left hne
  have h0 : off = 0 := by
    rcases h.2 with ⟨h1, _⟩ | ⟨g, cap, cur, h1, _⟩
    · cases h1
    · injection h1 with h1
      injection h1 with h1
      injection h1
  subst h0
  exact ⟨b, c, rfl, hB, hlt, hcell, hfree⟩

set_option maxRecDepth 100000 in
set_option maxHeartbeats 4000000 in
theorem textI_good (g : Bool) (a : Option Addr) (c : Nat) (zs : List Int) (w : World) (hz : RowAt .u32 w a zs) (hu : Dig 4294967296 zs) (hv : validB g zs = true) (hne : zs ≠ []) :
    Calls Try.prog 17 #[.agg #[.bool g, .slice a zs.length c]] w fun e w' => OutT w g zs e w' := by
  obtain ⟨hcan, hl, -⟩ := valid_canon (zs := zs) (fun z hz => hu z hz) hv
  have hpos := val_pos (B := 4294967296) (by decide) hcan hne
  have hl0 : ((zs.length : Int) == 0) = false := by rw [beq_eq_false_iff_ne]; have : zs.length ≠ 0 := fun e => hne (List.length_eq_zero_iff.1 e); omega
  obtain ⟨b, off, rfl, hb0, hc0⟩ := hz.resolve_left hne
  have HZ : Hid (RowAt .u32 w (some ⟨b, off, none⟩) zs) := .inr ⟨b, off, rfl, hb0, hc0⟩
  have htx : (decs (val 4294967296 zs)).length ≤ 5000 := decs_length (val_fits hcan.1 hl)
  obtain ⟨T, hT⟩ : ∃ T, T = decs (val 4294967296 zs) := ⟨_, rfl⟩
  have hTne : T ≠ [] := by
    rw [hT, decs_step hpos]
    simp
  have HTX : Hid (textL g (val 4294967296 zs) = (T ++ if g then [45] else []).reverse) := by
    unfold Hid textL
    rw [if_neg (by omega), hT]
  have HTT : Hid (T = decs (val 4294967296 zs)) := hT
  have HV : Hid (validB g zs = true) := hv
  rw [← hT] at htx
  clear hT hz hc0 hb0
  go_enter Try.func17, Try.ntmps17
  go_wp2_with fail
  refine (validI_any _ _ _ _ _ (by unfold maxLen; omega) (HZ.out.later (bel0 _ _))).mono ?_
  rintro e w1 ⟨rfl, hb⟩
  have HB : Hid (Below w.heap.size w w1) := (bel0 _ _).trans (hb.mono (by simp))
  have q0 : w1.cell? ⟨w.heap.size, 0, none⟩ = some (.bool g) := by rw [(bcell hb).1 _ _ (by simp)]; simp [go_sem]
  have q1 : w1.cell? ⟨w.heap.size, 1, none⟩ = some (.slice (some ⟨b, off, none⟩) zs.length c) := by rw [(bcell hb).1 _ _ (by simp)]; simp [go_sem]
  have hs1 : w.heap.size < w1.heap.size := by have := hb.size; simp at this; omega
  rw [hv]
  clear hb hv
  go_wp2_with fail
  refine (lastD_any b off c zs w1 (HZ.out.later HB.out) hl hne hcan).mono ?_
  rintro e w2 ⟨v, rfl, hown, hb2⟩
  rw [← HTT.out] at hown
  obtain ⟨av, cv, rfl, -, -, -⟩ := own_row hown
  have q2 : w2.cell? ⟨w.heap.size, 0, none⟩ = some (.bool g) := (hb2.cell (by simpa using hs1)).trans q0
  have hsz2 : w1.heap.size ≤ w2.heap.size := hb2.size
  have HB2 : Hid (Below w.heap.size w w2) := HB.out.trans (hb2.mono (by omega))
  clear hb2 q0 q1
  cases g
  · have HTX2 : Hid (textL false (val 4294967296 zs) = T.reverse) := by unfold Hid; rw [HTX.out]; simp
    obtain ⟨br, cr, ev, hbr, hO⟩ := own_at hown hTne
    injection ev with ev1 _ ev2
    subst ev1 ev2
    go_wp2_with fail
    refine (rev_any br 0 cv T _ (by omega) hO).mono ?_
    rintro e w3 ⟨rfl, hO3, hb3⟩
    have HR : Hid (RowNew .u8 w3 w.heap.size (some ⟨br, 0, none⟩) T.reverse) := hO3.new (by omega)
    have HB3 : Hid (Below w.heap.size w w3) := HB2.out.trans (hb3.mono (by omega))
    clear hO3 hb3 hO
    go_wp2
    refine bodyPost_ret (v := .tuple #[.slice (some ⟨br, 0, none⟩) T.length cv, .int .i64 0]) (by simp [results, Try.results17, go_sem]) rfl ?_
    exact ⟨T.reverse, 0, _, cv, by rw [List.length_reverse], .inr ⟨HV.out, HTX2.out.symm, rfl⟩, HR.out, HB3.out⟩
  · have HTX2 : Hid (textL true (val 4294967296 zs) = (T ++ [45]).reverse) := by unfold Hid; rw [HTX.out]; rfl
    go_wp2_with (at_builtin; refine app1 rfl (.tmp 18) (.tmp 19) 33 rfl w1.heap.size 5 Try.underlying33 infoY (by decide) _ T rfl rfl hown (by omega) hsz2 ?_; intro a3 n3 c3 w3 hown3 hb3 hs3)
    obtain ⟨br, cr, ev, hbr, hO⟩ := own_at hown3 (by simp)
    injection ev with ev1 ev2 ev3
    subst ev1 ev2 ev3
    refine (rev_any br 0 c3 (T ++ [45]) _ (by simp; omega) hO).mono ?_
    rintro e w4 ⟨rfl, hO4, hb4⟩
    have HR : Hid (RowNew .u8 w4 w.heap.size (some ⟨br, 0, none⟩) (T ++ [45]).reverse) := hO4.new (by omega)
    have HB4 : Hid (Below w.heap.size w w4) := (HB2.out.trans (hb3.mono (by omega))).trans (hb4.mono (by omega))
    clear hO4 hb4 hO hown3 hb3 hown
    go_wp2
    refine bodyPost_ret (v := .tuple #[.slice (some ⟨br, 0, none⟩) (T ++ [45]).length c3, .int .i64 0]) (by simp [results, Try.results17, go_sem]) rfl ?_
    exact ⟨(T ++ [45]).reverse, 0, _, c3, by rw [List.length_reverse], .inr ⟨HV.out, HTX2.out.symm, rfl⟩, HR.out, HB4.out⟩

theorem textI_any (g : Bool) (a : Option Addr) (c : Nat) (zs : List Int) (w : World) (hn : zs.length ≤ maxLen) (hz : RowAt .u32 w a zs) (hu : Dig 4294967296 zs) :
    Calls Try.prog 17 #[.agg #[.bool g, .slice a zs.length c]] w fun e w' => OutT w g zs e w' := by
  cases hv : validB g zs with
  | false => exact textI_bad g a c zs w hn hz hv
  | true =>
    by_cases hne : zs = []
    · subst hne
      have hg : g = false := by
        cases g
        · rfl
        · exact absurd rfl ((valid_canon (zs := []) (fun z hz => by cases hz) hv).2.2 rfl)
      subst hg
      exact textI_nil a c w hv
    · exact textI_good g a c zs w hz hu hv hne

end Go.Proofs.Ytlbegmepmeimkab

/-
  Magnitudes that the program hands back.
-/
namespace Go.Proofs.Ytlbegmepmeimkab
open Go.RowKit

/-- A magnitude in new memory: no zero at its upper end, of the value v, of at most n limbs. -/
def MagOut (w : World) (v : Int) (n : Nat) (e : Ending) (w' : World) : Prop :=
  ∃ (a : Option Addr) (c : Nat) (fs : List Int), e = .returned (.slice a fs.length c) ∧ fs.length ≤ c ∧ c ≤ maxLen ∧ Canon 4294967296 fs ∧ val 4294967296 fs = v ∧ fs.length ≤ n ∧ RowNew .u32 w' w.heap.size a fs ∧ Below w.heap.size w w'

theorem set_mid {l1 l2 : List Int} {z d : Int} {k : Nat} (h : l1.length = k) : (l1 ++ z :: l2).set k d = l1 ++ d :: l2 := by
  subst h
  simp

theorem own_step {out : List Int} {n k : Nat} {d : Int} (h : out.length = k) (hk : k < n) : (out ++ List.replicate (n + 1 - k) 0).set k d = (out ++ [d]) ++ List.replicate (n + 1 - (k + 1)) 0 := by
  rw [show n + 1 - k = (n + 1 - (k + 1)) + 1 by omega, List.replicate_succ, set_mid h]
  simp

theorem own_last {out : List Int} {n : Nat} {d : Int} (h : out.length = n) : (out ++ List.replicate (n + 1 - n) 0).set n d = out ++ [d] := by
  rw [show n + 1 - n = 0 + 1 by omega, List.replicate_succ, set_mid h]
  simp

end Go.Proofs.Ytlbegmepmeimkab
