/-
  The program's DyCmp of valid numbers.
-/
import Derived.Test.YtladfpljnaippaaImplOCmpIDyI6
import Derived.Test.YtladfpljnaippaaImplSgImplNgDyI1n
import Derived.Test.YtladfpljnaippaaImplSgImplNgDyI1n
namespace Go.Proofs.Ytladfpljnaippaa
open Go.RowKit

/-- The difference's sign. -/
theorem sgn_sumK {g : Bool} {a a' : Option Addr} {c c' b b' o o' q q' : Nat} {zs ys : List Int} {E E' m e x y : Int} {G : Bool} (hx : x = sg g (val 4294967296 zs)) (hy : -y = sg G (val 4294967296 ys)) (hE : -20000 ≤ E) (hE' : -20000 ≤ E') 
    (h : ∀ K, 60000 ≤ K → atK K m e = sumK K [⟨b, o, q, [⟨g, a, c, zs, E⟩]⟩, ⟨b', o', q', [⟨G, a', c', ys, E'⟩]⟩]) : sgn m = sgn (atK 20000 x E - atK 20000 y E') := by
  have h1 := h 60000 (by decide)
  have e1 : sumK 60000 [⟨b, o, q, [⟨g, a, c, zs, E⟩]⟩, ⟨b', o', q', [⟨G, a', c', ys, E'⟩]⟩] = atK 60000 x E + atK 60000 (-y) E' := by
    simp [sumK, prodM, sumE, hx, hy]
  rw [e1] at h1
  have e2 : sgn m = sgn (atK 60000 m e) := by unfold atK; rw [sgn_pos_mul (Int.pow_pos (by decide))]
  have e3 : ∀ z F : Int, -20000 ≤ F → atK 60000 z F = atK 20000 z F * 2 ^ 40000 := by
    intro z F hF
    unfold atK
    rw [Int.mul_assoc, ← Int.pow_add]
    congr 2
    omega
  rw [e2, h1, e3 x E hE, e3 (-y) E' hE', ← Int.add_mul, sgn_pos_mul (Int.pow_pos (by decide)), atK_neg, Int.sub_eq_add_neg]

/-- A box of the result: its first two cells, and the row. -/
structure InB (T : Nat) (g : Bool) (a : Option Addr) (c : Nat) (fs : List Int) (W : World) : Prop where
  q0 : W.cell? ⟨T, 0, none⟩ = some (.bool g)
  q1 : W.cell? ⟨T, 1, none⟩ = some (.slice a fs.length c)
  row : RowAt .u32 W a fs

theorem InB.start {g : Bool} {a : Option Addr} {c : Nat} {fs : List Int} {e : Int} {W : World} (t : TypeId) (h : RowAt .u32 W a fs) : InB W.heap.size g a c fs (W.alloc (.cells #[.bool g, .slice a fs.length c, .int .i64 e] t)) :=
  ⟨by simp [go_sem], by simp [go_sem], h.later (bel0 _ _)⟩

theorem InB.set {b B : Nat} {g : Bool} {a : Option Addr} {c : Nat} {fs : List Int} {e : Int} {W : World} (h : RowAt .u32 W a fs) (hf : Far B a fs) (hb : b < B) (hh : Has3 b W) : InB b g a c fs (((W.setCell ⟨b, 0, none⟩ (.bool g)).setCell ⟨b, 1, none⟩ (.slice a fs.length c)).setCell ⟨b, 2, none⟩ (.int .i64 e)) := by
  have ha : ∀ j b' o, a = some ⟨b', o, none⟩ → fs ≠ [] → b' ≠ (⟨b, j, none⟩ : Addr).block := fun j => hf.away (p := ⟨b, j, none⟩) (by simpa using hb)
  refine ⟨?_, ?_, ((h.setAway (ha 0) _).setAway (ha 1) _).setAway (ha 2) _⟩
  · rw [World.cell?_setCell_other _ _ _ _ (by simp), World.cell?_setCell_other _ _ _ _ (by simp)]
    exact World.cell?_setCell_same _ _ _ hh.r1
  · rw [World.cell?_setCell_other _ _ _ _ (by simp)]
    refine World.cell?_setCell_same _ _ _ (u := .slice none 0 0) ?_
    rw [World.cell?_setCell_other _ _ _ _ (by simp)]
    exact hh.r2

theorem Has3.at {b : Nat} {W : World} (t : TypeId) (hb : b = W.heap.size) : Has3 b (W.alloc (.cells #[.bool false, .slice none 0 0, .int .i64 0] t)) := by
  subst hb
  exact Has3.new W t

theorem oneD_last {W : World} {b : Nat} {t : TypeId} {g : Bool} {a : Option Addr} {c : Nat} {zs : List Int} {E : Int} (hb : b = W.heap.size) (hr : RowAt .u32 W a zs) : RowD (W.alloc (.cells #[.bool g, .slice a zs.length c, .int .i64 E] t)) b 0 [⟨g, a, c, zs, E⟩] := by
  subst hb
  exact one_rowD (by simp) (by simp [go_sem]) (by simp [go_sem]) (by simp [go_sem]) (hr.later (bel0 _ _))

theorem twoT_last {W : World} {b b1 b2 c1 c2 : Nat} {t : TypeId} {d d' : DV} (hb : b = W.heap.size) (hr : RowD W b1 0 [d]) (hr' : RowD W b2 0 [d']) : RowT (W.alloc (.cells #[.slice (some ⟨b1, 0, none⟩) 1 c1, .slice (some ⟨b2, 0, none⟩) 1 c2] t)) b 0 [⟨b1, 0, c1, [d]⟩, ⟨b2, 0, c2, [d']⟩] := by
  subst hb
  exact two_rowT (by simp) (by simp [go_sem]) (by simp [go_sem]) (hr.later (bel0 _ _)) (hr'.later (bel0 _ _))

set_option maxRecDepth 100000 in
set_option maxHeartbeats 16000000 in
theorem cmpDI_ok (HPR : ProdSays) (g g' : Bool) (a a' : Option Addr) (c c' : Nat) (zs ys : List Int) (E E' : Int) (w : World) (hz : RowAt .u32 w a zs) (hy : RowAt .u32 w a' ys) (hu : U32 zs) (hu' : U32 ys) (v1 : validD g zs E = true) (v2 : validD g' ys E' = true) :
    Calls Try.prog 14 #[.agg #[.bool g, .slice a zs.length c, .int .i64 E], .agg #[.bool g', .slice a' ys.length c', .int .i64 E']] w fun e w' => e = .returned (.tuple #[.int .i64 (sgn (atK 20000 (sg g (val 4294967296 zs)) E - atK 20000 (sg g' (val 4294967296 ys)) E')), .int .i64 0]) ∧ Below w.heap.size w w' := by
  obtain ⟨vb1, hE0, hE1⟩ := validD_parts v1
  obtain ⟨vb2, hE2, hE3⟩ := validD_parts v2
  have hn := (valid_canon hu vb1).2.1
  have hn' := (valid_canon hu' vb2).2.1
  have Bz := B1.of_valid hu vb1
  have By := B1.of_valid hu' vb2
  have Bn := By.neg
  have HNG : Hid (-(sg g' (val 4294967296 ys)) = sg (!g' && decide (0 < ys.length)) (val 4294967296 ys)) := Bn.num
  have B0 : Hid (∀ t t', Bx6 w (.bool g) (.slice a zs.length c) (.int .i64 E) (.bool g') (.slice a' ys.length c') (.int .i64 E') ((w.alloc (.cells #[.bool g, .slice a zs.length c, .int .i64 E] t)).alloc (.cells #[.bool g', .slice a' ys.length c', .int .i64 E'] t'))) := fun t t' => Bx6.start w _ _ _ _ _ _ _ _
  go_enter Try.func14, Try.ntmps14
  go_wp2_with fail
  refine (validsI_any _ 0 _ [⟨g, a, c, zs, E⟩, ⟨g', a', c', ys, E'⟩] _ (by simp) ?_ (two_rowD ?_ ?_ ?_ ?_ ?_ ?_ ?_ (hz.later (bel3 _ _ _ _)) (hy.later (bel3 _ _ _ _)))).mono ?_
  · intro d hd
    simp at hd
    rcases hd with rfl | rfl
    · exact Nat.le_trans hn (by decide)
    · exact Nat.le_trans hn' (by decide)
  · simp
  · simp [go_sem]
  · simp [go_sem]
  · simp [go_sem]
  · simp [go_sem]
  · simp [go_sem]
  · simp [go_sem]
  · rintro e W0 ⟨rfl, hb1⟩
    have HV : Hid ([(⟨g, a, c, zs, E⟩ : DV), ⟨g', a', c', ys, E'⟩].all DV.ok = true) := by unfold Hid; simp [DV.ok, v1, v2]
    rw [HV.out]
    have F : Hid (Bx6 w (.bool g) (.slice a zs.length c) (.int .i64 E) (.bool g') (.slice a' ys.length c') (.int .i64 E') W0) := ((B0.out _ _).later (bel0 _ _)).later hb1
    obtain ⟨NG, hNG⟩ : ∃ NG, NG = (!g' && decide (0 < ys.length)) := ⟨_, rfl⟩
    rw [← hNG] at HNG Bn
    have HNGe : Hid (NG = (!g' && decide (0 < ys.length))) := hNG
    have HFINE : Hid (∀ b1 c1 b2 c2 : Nat, ∀ t, t ∈ [(⟨b1, 0, c1, [⟨g, a, c, zs, E⟩]⟩ : TV), ⟨b2, 0, c2, [⟨NG, a', c', ys, E'⟩]⟩] → t.ds.length ≤ 3 ∧ ∀ d, d ∈ t.ds → d.fine) := by
      intro b1 c1 b2 c2 t ht
      simp at ht
      rcases ht with rfl | rfl
      · refine ⟨by simp, fun d hd => ?_⟩
        simp at hd
        subst hd
        exact ⟨hn, hE0, hE1, Bz⟩
      · refine ⟨by simp, fun d hd => ?_⟩
        simp at hd
        subst hd
        have : B1 NG ys (sg NG (val 4294967296 ys)) := by rw [← HNG.out]; exact Bn
        exact ⟨hn', hE2, hE3, this⟩
    have HZ : Hid (RowAt .u32 W0 a zs) := hz.later F.out.bel
    have HY : Hid (RowAt .u32 W0 a' ys) := hy.later F.out.bel
    clear hb1 B0 HV hNG
    go_wp2
    go_cut [6] from 7 to 22 (fun s6 wx => ∃ (T : Nat) (g4 : Bool) (a4 : Option Addr) (c4 : Nat) (f4 : List Int) (m4 : Int), s6 = .pointer (some ⟨T, 0, none⟩) ∧ f4.length ≤ 100000 ∧ Hid (InB T g4 a4 c4 f4 wx) ∧ Hid (B1 g4 f4 m4) ∧ Hid (sgn m4 = sgn (atK 20000 (sg g (val 4294967296 zs)) E - atK 20000 (sg g' (val 4294967296 ys)) E')) ∧ Hid (Below W0.heap.size W0 wx))
    case first =>
      go_region_held3 (fun w' => w'.cell? ⟨w.heap.size, 0, none⟩ = some (.bool g) ∧ w'.cell? ⟨w.heap.size, 1, none⟩ = some (.slice a zs.length c) ∧ w'.cell? ⟨w.heap.size, 2, none⟩ = some (.int .i64 E) ∧ w'.cell? ⟨w.heap.size + 1, 0, none⟩ = some (.bool g') ∧ w'.cell? ⟨w.heap.size + 1, 1, none⟩ = some (.slice a' ys.length c') ∧ w'.cell? ⟨w.heap.size + 1, 2, none⟩ = some (.int .i64 E') ∧ Below W0.heap.size W0 w')
        (first | exact F.out.held (Below.refl _ _).drew | exact F.out.held (by assumption) | exact F.out.held (Below.alloc (by assumption) (Below.size (by assumption)) _) | exact F.out.held (Below.alloc (held7 (by assumption)) (Below.size (held7 (by assumption))) _) | exact F.out.held (Below.setCell (Below.setCell (Below.setCell (by assumption) (by first | (simp; done) | (simp; omega)) _) (by first | (simp; done) | (simp; omega)) _) (by first | (simp; done) | (simp; omega)) _))
        (first
          | (go_at_call 42; refine (negI_any g' a' c' ys E' _).mono ?_; rintro e w2 ⟨rfl, hb2⟩; rw [← HNGe.out]; have hB2 : Below W0.heap.size W0 w2 := Below.trans (held7 (by assumption)) (Below.mono hb2 (Below.size (held7 (by assumption)))); have hs2 := hB2.size; have hs3 := hb2.size; (try simp at hs3))
          | (go_at_call 41
             refine (sumP_any HPR _ 0 _ [⟨_, 0, _, [⟨g, a, c, zs, E⟩]⟩, ⟨_, 0, _, [⟨NG, a', c', ys, E'⟩]⟩] _ (by simp) (HFINE.out _ _ _ _) (by first | exact twoT_last (by simp) (by (repeat first | exact oneD_last (by simp) (by (repeat first | exact HZ.out | exact HY.out | refine RowAt.later ?_ (bel0 _ _) | refine RowAt.later ?_ hb2 | refine RowAt.later ?_ (Below.refl _ _).drew); done) | refine RowD.later ?_ (bel0 _ _) | refine RowD.later ?_ hb2 | refine RowD.later ?_ (Below.refl _ _).drew); done) (by (repeat first | exact oneD_last (by simp) (by (repeat first | exact HZ.out | exact HY.out | refine RowAt.later ?_ (bel0 _ _) | refine RowAt.later ?_ hb2 | refine RowAt.later ?_ (Below.refl _ _).drew); done) | refine RowD.later ?_ (bel0 _ _) | refine RowD.later ?_ hb2 | refine RowD.later ?_ (Below.refl _ _).drew); done) | exact RowT.later (twoT_last (by simp) (by (repeat first | exact oneD_last (by simp) (by (repeat first | exact HZ.out | exact HY.out | refine RowAt.later ?_ (bel0 _ _) | refine RowAt.later ?_ hb2 | refine RowAt.later ?_ (Below.refl _ _).drew); done) | refine RowD.later ?_ (bel0 _ _) | refine RowD.later ?_ hb2 | refine RowD.later ?_ (Below.refl _ _).drew); done) (by (repeat first | exact oneD_last (by simp) (by (repeat first | exact HZ.out | exact HY.out | refine RowAt.later ?_ (bel0 _ _) | refine RowAt.later ?_ hb2 | refine RowAt.later ?_ (Below.refl _ _).drew); done) | refine RowD.later ?_ (bel0 _ _) | refine RowD.later ?_ hb2 | refine RowD.later ?_ (Below.refl _ _).drew); done)) (bel0 _ _))).mono ?_
             rintro e w5 ⟨g4, a4, c4, f4, m4, e4, rfl, hb14, hl4, hK4, _, _, hr4, hf4, hb4⟩
             have hS4 := sgn_sumK rfl HNG.out hE0 hE2 hK4
             have hB4 : Below W0.heap.size W0 w5 := Below.trans (held7 (by assumption)) (Below.mono hb4 (Below.size (held7 (by assumption))))
             (first | ((refine have hh : Has3 W0.heap.size w5 := ?_; ?_); focus (refine Has3.later ?_ hb4; (repeat first | (refine Has3.at _ ?_; simp; done) | refine Has3.later ?_ (bel0 _ _) | refine Has3.later ?_ hb2 | refine Has3.later ?_ (Below.refl _ _).drew); done)) | ((refine have hh : Has3 (W0.heap.size + 1) w5 := ?_; ?_); focus (refine Has3.later ?_ hb4; (repeat first | (refine Has3.at _ ?_; simp; done) | refine Has3.later ?_ (bel0 _ _) | refine Has3.later ?_ hb2 | refine Has3.later ?_ (Below.refl _ _).drew); done)) | ((refine have hh : Has3 w2.heap.size w5 := ?_; ?_); focus (refine Has3.later ?_ hb4; (repeat first | (refine Has3.at _ ?_; simp; done) | refine Has3.later ?_ (bel0 _ _) | refine Has3.later ?_ hb2 | refine Has3.later ?_ (Below.refl _ _).drew); done)) | ((refine have hh : Has3 (w2.heap.size + 1) w5 := ?_; ?_); focus (refine Has3.later ?_ hb4; (repeat first | (refine Has3.at _ ?_; simp; done) | refine Has3.later ?_ (bel0 _ _) | refine Has3.later ?_ hb2 | refine Has3.later ?_ (Below.refl _ _).drew); done)) | ((refine have hh : Has3 (w2.heap.size + 2) w5 := ?_; ?_); focus (refine Has3.later ?_ hb4; (repeat first | (refine Has3.at _ ?_; simp; done) | refine Has3.later ?_ (bel0 _ _) | refine Has3.later ?_ hb2 | refine Has3.later ?_ (Below.refl _ _).drew); done)) | ((refine have hh : Has3 (w2.heap.size + 3) w5 := ?_; ?_); focus (refine Has3.later ?_ hb4; (repeat first | (refine Has3.at _ ?_; simp; done) | refine Has3.later ?_ (bel0 _ _) | refine Has3.later ?_ hb2 | refine Has3.later ?_ (Below.refl _ _).drew); done)) | have hh : True := trivial)
             (try have r1 := hh.r1); (try have r2 := hh.r2); (try have r3 := hh.r3); (try have r4 := hh.r4)))
      all_goals
        go_wp2_with fail
        go_meet
        case rel =>
          refine ⟨_, g4, a4, c4, f4, m4, rfl, by simp at hl4; omega, ?_, hb14, hS4, ?_⟩
          · first
              | exact InB.start _ hr4
              | exact InB.set hr4 hf4 (by first | (simp; done) | (simp; omega)) hh
          · first
              | exact hB4.alloc hB4.size _
              | exact ((hB4.setCell (by first | (simp; done) | (simp; omega)) _).setCell (by first | (simp; done) | (simp; omega)) _).setCell (by first | (simp; done) | (simp; omega)) _
    case rest =>
      obtain ⟨T, g4, a4, c4, f4, m4, rfl, hf4, hI, hB1, hS, hB⟩ := hcut
      have s0 := hI.out.q0
      have s1 := hI.out.q1
      have HB : Hid (Below w.heap.size w wc) := F.out.bel.trans (hB.out.mono (by have := F.out.le; omega))
      go_wp2_with fail
      refine (signB_any g4 a4 c4 f4 m4 _ (by omega) hI.out.row hB1.out).mono ?_
      rintro e w6 ⟨rfl, hb6⟩
      rw [hS.out]
      have HB6 : Hid (Below w.heap.size w w6) := HB.out.trans (hb6.mono HB.out.size)
      clear hb6 s0 s1
      go_wp2
      refine bodyPost_ret (v := .tuple #[.int .i64 (sgn (atK 20000 (sg g (val 4294967296 zs)) E - atK 20000 (sg g' (val 4294967296 ys)) E')), .int .i64 0]) (by simp [results, Try.results14, go_sem]) rfl ?_
      exact ⟨rfl, HB6.out⟩

end Go.Proofs.Ytladfpljnaippaa
