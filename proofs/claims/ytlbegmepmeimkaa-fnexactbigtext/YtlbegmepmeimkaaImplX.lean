/-
  The program's BigText.
-/
import Derived.Test.YtlbegmepmeimkaaImplH
import Derived.Test.YtlbegmepmeimkaaSpecU
namespace Go.Proofs.Ytlbegmepmeimkaa
open Go.RowKit

set_option maxHeartbeats 2000000 in
theorem textI_bad (g : Bool) (a : Option Addr) (c : Nat) (zs : List Int) (w : World) (hn : zs.length ≤ maxLen) (hz : RowAt .u32 w a zs) (hv : validB g zs = false) :
    Calls Try.prog 19 #[.agg #[.bool g, .slice a zs.length c]] w fun e w' => OutT w g zs e w' := by
  go_enter Try.func19, Try.ntmps19
  go_wp2_with fail
  refine (validI_any _ _ _ _ _ hn (hz.later (bel0 _ _))).mono ?_
  rintro e w1 ⟨rfl, hb⟩
  have HB : Hid (Below w.heap.size w w1) := (bel0 _ _).trans (hb.mono (by simp))
  have HV : Hid (validB g zs = false) := hv
  rw [hv]
  clear hb hv
  go_wp2
  refine bodyPost_ret (v := .tuple #[.slice none 0 0, .int .i64 1]) (by simp [results, Try.results19, go_sem]) rfl ?_
  exact ⟨[], 1, none, 0, rfl, .inl ⟨HV.out, rfl, rfl⟩, .inl rfl, HB.out⟩

set_option maxHeartbeats 2000000 in
theorem textI_nil (a : Option Addr) (c : Nat) (w : World) (hv : validB false [] = true) :
    Calls Try.prog 19 #[.agg #[.bool false, .slice a ([] : List Int).length c]] w fun e w' => OutT w false [] e w' := by
  go_enter Try.func19, Try.ntmps19
  go_wp2_with fail
  refine (validI_any _ _ _ _ _ (by simp) (.inl rfl)).mono ?_
  rintro e w1 ⟨rfl, hb⟩
  have HB : Hid (Below w.heap.size w w1) := (bel0 _ _).trans (hb.mono (by simp))
  have q1 : w1.cell? ⟨w.heap.size, 1, none⟩ = some (.slice a ([] : List Int).length c) := by rw [(bcell hb).1 _ _ (by simp)]; simp [go_sem]
  have HV : Hid (validB false [] = true) := hv
  rw [hv]
  clear hb hv
  go_wp2
  refine bodyPost_ret (v := .tuple #[.slice (some ⟨w1.heap.size, 0, none⟩) 1 1, .int .i64 0]) (by simp [results, Try.results19, go_sem]) rfl ?_
  exact ⟨[48], 0, some ⟨w1.heap.size, 0, none⟩, 1, rfl, .inr ⟨HV.out, by simp [textL, val], rfl⟩, one_new w1 48 _ HB.out.size, HB.out.alloc HB.out.size _⟩

/-- A row in new memory, at its block. -/
theorem own_at {w : World} {base : Nat} {e : TypeId} {v : Value} {ys : List Int} (h : w.ownsRow base e 1 v ys.length (vals .u8 ys)) (hne : ys ≠ []) :
    ∃ b c, v = .slice (some ⟨b, 0, none⟩) ys.length c ∧ base ≤ b ∧ Own .u8 w b 0 ys := by
  obtain ⟨a, c, rfl, _, _, hr⟩ := own_row h
  obtain ⟨b, off, rfl, hB, hlt, hcell, hfree⟩ := hr.resolve_left hne
  have h0 : off = 0 := by
    rcases h.2 with ⟨h1, _⟩ | ⟨g, cap, cur, h1, _⟩
    · cases h1
    · injection h1 with h1
      injection h1 with h1
      injection h1
  subst h0
  exact ⟨b, c, rfl, hB, hlt, hcell, hfree⟩

set_option maxRecDepth 100000 in
set_option maxHeartbeats 4000000 in
theorem textI_good (g : Bool) (a : Option Addr) (c : Nat) (zs : List Int) (w : World) (hz : RowAt .u32 w a zs) (hu : Dig 4294967296 zs) (hv : validB g zs = true) (hne : zs ≠ []) :
    Calls Try.prog 19 #[.agg #[.bool g, .slice a zs.length c]] w fun e w' => OutT w g zs e w' := by
  obtain ⟨hcan, hl, -⟩ := valid_canon (zs := zs) (fun z hz => hu z hz) hv
  have hpos := val_pos (B := 4294967296) (by decide) hcan hne
  have hl0 : ((zs.length : Int) == 0) = false := by rw [beq_eq_false_iff_ne]; have : zs.length ≠ 0 := fun e => hne (List.length_eq_zero_iff.1 e); omega
  obtain ⟨b, off, rfl, hb0, hc0⟩ := hz.resolve_left hne
  have HZ : Hid (RowAt .u32 w (some ⟨b, off, none⟩) zs) := .inr ⟨b, off, rfl, hb0, hc0⟩
  have htx : (decs (val 4294967296 zs)).length ≤ 5000 := decs_length (val_fits hcan.1 hl)
  obtain ⟨T, hT⟩ : ∃ T, T = decs (val 4294967296 zs) := ⟨_, rfl⟩
  have hTne : T ≠ [] := by
    rw [hT, decs_step hpos]
    simp
  have HTX : Hid (textL g (val 4294967296 zs) = (T ++ if g then [45] else []).reverse) := by
    unfold Hid textL
    rw [if_neg (by omega), hT]
  have HTT : Hid (T = decs (val 4294967296 zs)) := hT
  have HV : Hid (validB g zs = true) := hv
  rw [← hT] at htx
  clear hT hz hc0 hb0
  go_enter Try.func19, Try.ntmps19
  go_wp2_with fail
  refine (validI_any _ _ _ _ _ (by unfold maxLen; omega) (HZ.out.later (bel0 _ _))).mono ?_
  rintro e w1 ⟨rfl, hb⟩
  have HB : Hid (Below w.heap.size w w1) := (bel0 _ _).trans (hb.mono (by simp))
  have q0 : w1.cell? ⟨w.heap.size, 0, none⟩ = some (.bool g) := by rw [(bcell hb).1 _ _ (by simp)]; simp [go_sem]
  have q1 : w1.cell? ⟨w.heap.size, 1, none⟩ = some (.slice (some ⟨b, off, none⟩) zs.length c) := by rw [(bcell hb).1 _ _ (by simp)]; simp [go_sem]
  have hs1 : w.heap.size < w1.heap.size := by have := hb.size; simp at this; omega
  rw [hv]
  clear hb hv
  go_wp2_with fail
  refine (lastD_any b off c zs w1 (HZ.out.later HB.out) hl hne hcan).mono ?_
  rintro e w2 ⟨v, rfl, hown, hb2⟩
  rw [← HTT.out] at hown
  obtain ⟨av, cv, rfl, -, -, -⟩ := own_row hown
  have q2 : w2.cell? ⟨w.heap.size, 0, none⟩ = some (.bool g) := (hb2.cell (by simpa using hs1)).trans q0
  have hsz2 : w1.heap.size ≤ w2.heap.size := hb2.size
  have HB2 : Hid (Below w.heap.size w w2) := HB.out.trans (hb2.mono (by omega))
  clear hb2 q0 q1
  cases g
  · have HTX2 : Hid (textL false (val 4294967296 zs) = T.reverse) := by unfold Hid; rw [HTX.out]; simp
    obtain ⟨br, cr, ev, hbr, hO⟩ := own_at hown hTne
    injection ev with ev1 _ ev2
    subst ev1 ev2
    go_wp2_with fail
    refine (rev_any br 0 cv T _ (by omega) hO).mono ?_
    rintro e w3 ⟨rfl, hO3, hb3⟩
    have HR : Hid (RowNew .u8 w3 w.heap.size (some ⟨br, 0, none⟩) T.reverse) := hO3.new (by omega)
    have HB3 : Hid (Below w.heap.size w w3) := HB2.out.trans (hb3.mono (by omega))
    clear hO3 hb3 hO
    go_wp2
    refine bodyPost_ret (v := .tuple #[.slice (some ⟨br, 0, none⟩) T.length cv, .int .i64 0]) (by simp [results, Try.results19, go_sem]) rfl ?_
    exact ⟨T.reverse, 0, _, cv, by rw [List.length_reverse], .inr ⟨HV.out, HTX2.out.symm, rfl⟩, HR.out, HB3.out⟩
  · have HTX2 : Hid (textL true (val 4294967296 zs) = (T ++ [45]).reverse) := by unfold Hid; rw [HTX.out]; rfl
    go_wp2_with (at_builtin; refine app1 rfl (.tmp 18) (.tmp 19) 35 rfl w1.heap.size 5 Try.underlying35 infoY (by decide) _ T rfl rfl hown (by omega) hsz2 ?_; intro a3 n3 c3 w3 hown3 hb3 hs3)
    obtain ⟨br, cr, ev, hbr, hO⟩ := own_at hown3 (by simp)
    injection ev with ev1 ev2 ev3
    subst ev1 ev2 ev3
    refine (rev_any br 0 c3 (T ++ [45]) _ (by simp; omega) hO).mono ?_
    rintro e w4 ⟨rfl, hO4, hb4⟩
    have HR : Hid (RowNew .u8 w4 w.heap.size (some ⟨br, 0, none⟩) (T ++ [45]).reverse) := hO4.new (by omega)
    have HB4 : Hid (Below w.heap.size w w4) := (HB2.out.trans (hb3.mono (by omega))).trans (hb4.mono (by omega))
    clear hO4 hb4 hO hown3 hb3 hown
    go_wp2
    refine bodyPost_ret (v := .tuple #[.slice (some ⟨br, 0, none⟩) (T ++ [45]).length c3, .int .i64 0]) (by simp [results, Try.results19, go_sem]) rfl ?_
    exact ⟨(T ++ [45]).reverse, 0, _, c3, by rw [List.length_reverse], .inr ⟨HV.out, HTX2.out.symm, rfl⟩, HR.out, HB4.out⟩

theorem textI_any (g : Bool) (a : Option Addr) (c : Nat) (zs : List Int) (w : World) (hn : zs.length ≤ maxLen) (hz : RowAt .u32 w a zs) (hu : Dig 4294967296 zs) :
    Calls Try.prog 19 #[.agg #[.bool g, .slice a zs.length c]] w fun e w' => OutT w g zs e w' := by
  cases hv : validB g zs with
  | false => exact textI_bad g a c zs w hn hz hv
  | true =>
    by_cases hne : zs = []
    · subst hne
      have hg : g = false := by
        cases g
        · rfl
        · exact absurd rfl ((valid_canon (zs := []) (fun z hz => by cases hz) hv).2.2 rfl)
      subst hg
      exact textI_nil a c w hv
    · exact textI_good g a c zs w hz hu hv hne

end Go.Proofs.Ytlbegmepmeimkaa
