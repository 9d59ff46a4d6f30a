/-
  The model's DyCmp.
-/
import Derived.Test.YtladfpljnaippaaSpecFnToDy3h
import Derived.Test.YtladfpljnaippaaDy1
import Derived.Test.YtladfpljnaippaaSpecFnToDy3h
import Derived.Deep.CutRange
import Derived.Deep.Light
namespace Go.Proofs.Ytladfpljnaippaa
open Go.RowKit

/-- What DyCmp answers. -/
def cmpD (g g' : Bool) (zs ys : List Int) (E E' : Int) : Int := if validD g zs E = true ∧ validD g' ys E' = true then sgn (atK 20000 (sg g (val 4294967296 zs)) E - atK 20000 (sg g' (val 4294967296 ys)) E') else 0
def codeD (g g' : Bool) (zs ys : List Int) (E E' : Int) : Int := if validD g zs E = true ∧ validD g' ys E' = true then 0 else 1

theorem cmpD_sgn {x y E E' m1 e1 m2 e2 : Int} {T T' : Nat} (h1 : NormOf x E m1 e1 T) (h2 : NormOf y E' m2 e2 T') (hE : -20000 ≤ E) (hE' : -20000 ≤ E') : sgn (sumAt m1 e1 (-m2) e2) = sgn (atK 20000 x E - atK 20000 y E') := by
  have b1 := h1.bound
  have b2 := h2.bound
  rw [sgn_sumAt (K := 20000) (by omega) (by omega), atK_neg, h1.at (by omega), h2.at (by omega), Int.sub_eq_add_neg]

set_option maxRecDepth 100000 in
set_option maxHeartbeats 8000000 in
theorem cmpDS_ok (g g' : Bool) (a a' : Option Addr) (c c' : Nat) (zs ys : List Int) (E E' : Int) (w : World) (hz : RowAt .u32 w a zs) (hy : RowAt .u32 w a' ys) (hu : U32 zs) (hu' : U32 ys) (v1 : validD g zs E = true) (v2 : validD g' ys E' = true) :
    Calls Try.prog 13 #[.agg #[.bool g, .slice a zs.length c, .int .i64 E], .agg #[.bool g', .slice a' ys.length c', .int .i64 E']] w fun e w' => e = .returned (.tuple #[.int .i64 (sgn (atK 20000 (sg g (val 4294967296 zs)) E - atK 20000 (sg g' (val 4294967296 ys)) E')), .int .i64 0]) ∧ Below w.heap.size w w' := by
  obtain ⟨vb1, hE0, hE1⟩ := validD_parts v1
  obtain ⟨vb2, hE2, hE3⟩ := validD_parts v2
  have hn := (valid_canon hu vb1).2.1
  have hn' := (valid_canon hu' vb2).2.1
  have B0 : Hid (∀ t t', Bx6 w (.bool g) (.slice a zs.length c) (.int .i64 E) (.bool g') (.slice a' ys.length c') (.int .i64 E') ((w.alloc (.cells #[.bool g, .slice a zs.length c, .int .i64 E] t)).alloc (.cells #[.bool g', .slice a' ys.length c', .int .i64 E'] t'))) := fun t t' => Bx6.start w _ _ _ _ _ _ _ _
  go_enter Try.func13, Try.ntmps13
  go_wp2_with fail
  refine (valid2S_any g a c zs E _ (by omega) (hz.later (B0.out _ _).bel)).mono ?_
  rintro e w1 ⟨rfl, hb1⟩
  rw [v1]
  have F1 : Hid (Bx6 w (.bool g) (.slice a zs.length c) (.int .i64 E) (.bool g') (.slice a' ys.length c') (.int .i64 E') w1) := (B0.out _ _).later hb1
  have s0 := F1.out.p0
  have s1 := F1.out.p1
  have s2 := F1.out.p2
  clear hb1 B0
  go_wp2_with fail
  refine (valid2S_any g' a' c' ys E' _ (by omega) (hy.later F1.out.bel)).mono ?_
  rintro e W0 ⟨rfl, hb2⟩
  rw [v2]
  have F : Hid (Bx6 w (.bool g) (.slice a zs.length c) (.int .i64 E) (.bool g') (.slice a' ys.length c') (.int .i64 E') W0) := F1.out.later hb2
  clear hb2 F1 s0 s1 s2
  go_wp2
  go_cut [6] from 7 to 23 (fun s6 wx => ∃ (T : Nat) (g4 : Bool) (a4 : Option Addr) (c4 : Nat) (f4 : List Int) (m4 e4 : Int), s6 = .pointer (some ⟨T, 0, none⟩) ∧ f4.length ≤ 100000 ∧ Hid (L2In T g4 a4 c4 f4 m4 e4 wx) ∧ Hid (sgn m4 = sgn (atK 20000 (sg g (val 4294967296 zs)) E - atK 20000 (sg g' (val 4294967296 ys)) E')) ∧ Hid (Below W0.heap.size W0 wx))
  case first =>
    go_region_held3 (fun w' => w'.cell? ⟨w.heap.size, 0, none⟩ = some (.bool g) ∧ w'.cell? ⟨w.heap.size, 1, none⟩ = some (.slice a zs.length c) ∧ w'.cell? ⟨w.heap.size, 2, none⟩ = some (.int .i64 E) ∧ w'.cell? ⟨w.heap.size + 1, 0, none⟩ = some (.bool g') ∧ w'.cell? ⟨w.heap.size + 1, 1, none⟩ = some (.slice a' ys.length c') ∧ w'.cell? ⟨w.heap.size + 1, 2, none⟩ = some (.int .i64 E') ∧ Below W0.heap.size W0 w')
      (first | exact F.out.held (Below.refl _ _).drew | exact F.out.held (by assumption) | exact F.out.held (Below.alloc (by assumption) (Below.size (by assumption)) _) | exact F.out.held (Below.alloc (held7 (by assumption)) (Below.size (held7 (by assumption))) _) | exact F.out.held (Below.setCell (Below.setCell (Below.setCell (by assumption) (by first | (simp; done) | (simp; omega)) _) (by first | (simp; done) | (simp; omega)) _) (by first | (simp; done) | (simp; omega)) _))
      (first
        | (go_at_call_of 22 a; refine (of2_any g a c zs E _ (by omega) (by omega) (by omega) (hz.later (F.out.bel.trans (Below.mono (held7 (by assumption)) (by have := F.out.le; omega)))) hu).mono ?_; rintro e w2 ⟨m1, e1, hn1, g1, a1, c1, f1, rfl, hl1, hL1, hF1, hb1⟩; have hB1 : Below W0.heap.size W0 w2 := Below.trans (held7 (by assumption)) (Below.mono hb1 (Below.size (held7 (by assumption)))); have hs1 := hB1.size)
        | (go_at_call_of 22 a'; refine (of2_any g' a' c' ys E' _ (by omega) (by omega) (by omega) (hy.later (F.out.bel.trans (Below.mono (held7 (by assumption)) (by have := F.out.le; omega)))) hu').mono ?_; rintro e w3 ⟨m2, e2, hn2, g2, a2, c2, f2, rfl, hl2, hL2, hF2, hb2⟩; have hB2 : Below W0.heap.size W0 w3 := Below.trans (held7 (by assumption)) (Below.mono hb2 (Below.size (held7 (by assumption)))); have hs2 := hB2.size; have hL1b := (by first | exact hL1.later hb2 | exact (hL1.later (bel0 _ _)).later hb2 : L1 w3 g1 a1 c1 f1 m1))
        | (go_at_call 39; refine (neg2_any g2 a2 c2 f2 m2 e2 _ (by omega) (by first | exact hL2 | exact hL2.later (bel0 _ _))).mono ?_; rintro e w4 ⟨g3, f3, rfl, hl3, hL3, hb3⟩; have hB3 : Below W0.heap.size W0 w4 := Below.trans (held7 (by assumption)) (Below.mono hb3 (Below.size (held7 (by assumption)))); have hs3 := hB3.size; have hL1c := (by first | exact hL1b.later hb3 | exact (hL1b.later (bel0 _ _)).later hb3 : L1 w4 g1 a1 c1 f1 m1))
        | (go_at_call 38; refine (add2_any g1 g3 a1 a2 c1 c2 f1 f3 m1 (-m2) e1 e2 _ (by omega) (by omega) (by have := hn1.bound; have := hn2.bound; omega) (by have := hn1.bound; have := hn2.bound; omega) (by first | exact hL1c | exact hL1c.later (bel0 _ _)) (by first | exact hL3 | exact hL3.later (bel0 _ _))).mono ?_; rintro e w5 ⟨g4, a4, c4, f4, rfl, hl4, hL4, hF4, hb4⟩; have hB4 : Below W0.heap.size W0 w5 := Below.trans (held7 (by assumption)) (Below.mono hb4 (Below.size (held7 (by assumption)))); (first | (have hhc := ((((Has3.new W0 54).later (Below.refl _ _).drew).later hb1).later hb2).later hb3; have hh := hhc.later hb4) | (have hhc := ((Has3.new w2 54).later hb2).later hb3; have hh := hhc.later hb4) | (have hhc := (Has3.new w3 54).later hb3; have hh := hhc.later hb4) | (have hhc := Has3.new w4 54; have hh := hhc.later hb4) | have hh : True := trivial); (try have r1 := hh.r1); (try have r2 := hh.r2); (try have r3 := hh.r3); (try have r4 := hh.r4)))
    all_goals
      go_wp2_with fail
      go_meet
      case rel =>
        refine ⟨_, g4, a4, c4, f4, sumAt m1 e1 (-m2) e2, min e1 e2, rfl, by omega, ?_, cmpD_sgn hn1 hn2 hE0 hE2, ?_⟩
        · first
            | exact L2In.start _ hL4
            | exact L2In.set hL4 hF4 hhc.lt hh
        · first
            | exact hB4.alloc hB4.size _
            | exact ((hB4.setCell (by first | exact Nat.le_refl _ | exact hs1 | exact hs2 | exact hs3) _).setCell (by first | exact Nat.le_refl _ | exact hs1 | exact hs2 | exact hs3) _).setCell (by first | exact Nat.le_refl _ | exact hs1 | exact hs2 | exact hs3) _
  case rest =>
    obtain ⟨T, g4, a4, c4, f4, m4, e4, rfl, hf4, hI, hS, hB⟩ := hcut
    have s0 := hI.out.q0
    have s1 := hI.out.q1
    have HB : Hid (Below w.heap.size w wc) := F.out.bel.trans (hB.out.mono (by have := F.out.le; omega))
    go_wp2_with fail
    refine (sign_any g4 a4 c4 f4 m4 _ (by omega) hI.out.l1).mono ?_
    rintro e w6 ⟨rfl, hb6⟩
    rw [hS.out]
    have HB6 : Hid (Below w.heap.size w w6) := HB.out.trans (hb6.mono HB.out.size)
    clear hb6 s0 s1
    go_wp2
    refine bodyPost_ret (v := .tuple #[.int .i64 (sgn (atK 20000 (sg g (val 4294967296 zs)) E - atK 20000 (sg g' (val 4294967296 ys)) E')), .int .i64 0]) (by simp [results, Try.results13, go_sem]) rfl ?_
    exact ⟨rfl, HB6.out⟩

end Go.Proofs.Ytladfpljnaippaa
