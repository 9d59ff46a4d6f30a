/-
  The program's DyCmp of valid numbers.
-/
import Derived.Test.YtladfpljnaippabDoorMathGToDyI1nF
import Derived.Test.YtladfpljnaippabDoorNumWToNumFlF
import Derived.Test.YtladfpljnaippabDoorDyI5ToDyJMulF
import Derived.Test.YtladfpljnaippabDoorDyJAddGapWWithinDraw0Draw1F
import Derived.Test.YtladfpljnaippabDoorDrawKQF
import Derived.Test.YtladfpljnaippabDoorDrawOSpecBtBox3SpecDfSpecDgF
import Derived.Test.YtladfpljnaippabDoorGrow2ToDyOSF
import Derived.Test.YtladfpljnaippabDoorCopyQF
import Derived.Deep.CutRange
import Derived.Deep.Light
namespace Go.Proofs.YtladfpljnaippabDoor
open Go.RowKit

/-- The difference's sign. -/
theorem sgn_sumK {g : Bool} {a a' : Option Addr} {c c' b b' o o' q q' : Nat} {zs ys : List Int} {E E' m e x y : Int} {G : Bool} (hx : x = sg g (val 4294967296 zs)) (hy : -y = sg G (val 4294967296 ys)) (hE : -20000 ≤ E) (hE' : -20000 ≤ E') 
    (h : ∀ K, 60000 ≤ K → atK K m e = sumK K [⟨b, o, q, [⟨g, a, c, zs, E⟩]⟩, ⟨b', o', q', [⟨G, a', c', ys, E'⟩]⟩]) : sgn m = sgn (atK 20000 x E - atK 20000 y E') := by
  have h1 := h 60000 (by decide)
  have e1 : sumK 60000 [⟨b, o, q, [⟨g, a, c, zs, E⟩]⟩, ⟨b', o', q', [⟨G, a', c', ys, E'⟩]⟩] = atK 60000 x E + atK 60000 (-y) E' := by
    simp [sumK, prodM, sumE, hx, hy]
  rw [e1] at h1
  have e2 : sgn m = sgn (atK 60000 m e) := by unfold atK; rw [sgn_pos_mul (Int.pow_pos (by decide))]
  have e3 : ∀ z F : Int, -20000 ≤ F → atK 60000 z F = atK 20000 z F * 2 ^ 40000 := by
    intro z F hF
    unfold atK
    rw [Int.mul_assoc, ← Int.pow_add]
    congr 2
    omega
  rw [e2, h1, e3 x E hE, e3 (-y) E' hE', ← Int.add_mul, sgn_pos_mul (Int.pow_pos (by decide)), atK_neg, Int.sub_eq_add_neg]

/-- A box of the result: its first two cells, and the row. -/
structure InB (T : Nat) (g : Bool) (a : Option Addr) (c : Nat) (fs : List Int) (W : World) : Prop where
  q0 : W.cell? ⟨T, 0, none⟩ = some (.bool g)
  q1 : W.cell? ⟨T, 1, none⟩ = some (.slice a fs.length c)
  row : RowAt .u32 W a fs

theorem InB.start {g : Bool} {a : Option Addr} {c : Nat} {fs : List Int} {e : Int} {W : World} (t : TypeId) (h : RowAt .u32 W a fs) : InB W.heap.size g a c fs (W.alloc (.cells #[.bool g, .slice a fs.length c, .int .i64 e] t)) :=
  ⟨by simp [go_sem], by simp [go_sem], h.later (bel0 _ _)⟩

theorem InB.set {b B : Nat} {g : Bool} {a : Option Addr} {c : Nat} {fs : List Int} {e : Int} {W : World} (h : RowAt .u32 W a fs) (hf : Far B a fs) (hb : b < B) (hh : Has3 b W) : InB b g a c fs (((W.setCell ⟨b, 0, none⟩ (.bool g)).setCell ⟨b, 1, none⟩ (.slice a fs.length c)).setCell ⟨b, 2, none⟩ (.int .i64 e)) := by
  have ha : ∀ j b' o, a = some ⟨b', o, none⟩ → fs ≠ [] → b' ≠ (⟨b, j, none⟩ : Addr).block := fun j => hf.away (p := ⟨b, j, none⟩) (by simpa using hb)
  refine ⟨?_, ?_, ((h.setAway (ha 0) _).setAway (ha 1) _).setAway (ha 2) _⟩
  · rw [World.cell?_setCell_other _ _ _ _ (by simp), World.cell?_setCell_other _ _ _ _ (by simp)]
    exact World.cell?_setCell_same _ _ _ hh.r1
  · rw [World.cell?_setCell_other _ _ _ _ (by simp)]
    refine World.cell?_setCell_same _ _ _ (u := .slice none 0 0) ?_
    rw [World.cell?_setCell_other _ _ _ _ (by simp)]
    exact hh.r2

theorem Has3.at {b : Nat} {W : World} (t : TypeId) (hb : b = W.heap.size) : Has3 b (W.alloc (.cells #[.bool false, .slice none 0 0, .int .i64 0] t)) := by
  subst hb
  exact Has3.new W t

theorem oneD_last {W : World} {b : Nat} {t : TypeId} {g : Bool} {a : Option Addr} {c : Nat} {zs : List Int} {E : Int} (hb : b = W.heap.size) (hr : RowAt .u32 W a zs) : RowD (W.alloc (.cells #[.bool g, .slice a zs.length c, .int .i64 E] t)) b 0 [⟨g, a, c, zs, E⟩] := by
  subst hb
  exact one_rowD (by simp) (by simp [go_sem]) (by simp [go_sem]) (by simp [go_sem]) (hr.later (bel0 _ _))

theorem twoT_last {W : World} {b b1 b2 c1 c2 : Nat} {t : TypeId} {d d' : DV} (hb : b = W.heap.size) (hr : RowD W b1 0 [d]) (hr' : RowD W b2 0 [d']) : RowT (W.alloc (.cells #[.slice (some ⟨b1, 0, none⟩) 1 c1, .slice (some ⟨b2, 0, none⟩) 1 c2] t)) b 0 [⟨b1, 0, c1, [d]⟩, ⟨b2, 0, c2, [d']⟩] := by
  subst hb
  exact two_rowT (by simp) (by simp [go_sem]) (by simp [go_sem]) (hr.later (bel0 _ _)) (hr'.later (bel0 _ _))

set_option maxRecDepth 100000 in
set_option maxHeartbeats 16000000 in
theorem cmpDI_ok (HPR : ProdSays) (g g' : Bool) (a a' : Option Addr) (c c' : Nat) (zs ys : List Int) (E E' : Int) (w : World) (hz : RowAt .u32 w a zs) (hy : RowAt .u32 w a' ys) (hu : U32 zs) (hu' : U32 ys) (v1 : validD g zs E = true) (v2 : validD g' ys E' = true) :
    Calls Tryd.prog 20 #[.agg #[.bool g, .slice a zs.length c, .int .i64 E], .agg #[.bool g', .slice a' ys.length c', .int .i64 E']] w fun e w' => e = .returned (.tuple #[.int .i64 (sgn (atK 20000 (sg g (val 4294967296 zs)) E - atK 20000 (sg g' (val 4294967296 ys)) E')), .int .i64 0]) ∧ Below w.heap.size w w' := by
  obtain ⟨vb1, hE0, hE1⟩ := validD_parts v1
  obtain ⟨vb2, hE2, hE3⟩ := validD_parts v2
  have hn := (valid_canon hu vb1).2.1
  have hn' := (valid_canon hu' vb2).2.1
  have Bz := B1.of_valid hu vb1
  have By := B1.of_valid hu' vb2
  have Bn := By.neg
  have HNG : Hid (-(sg g' (val 4294967296 ys)) = sg (!g' && decide (0 < ys.length)) (val 4294967296 ys)) := Bn.num
  have B0 : Hid (∀ t t', Bx6 w (.bool g) (.slice a zs.length c) (.int .i64 E) (.bool g') (.slice a' ys.length c') (.int .i64 E') ((w.alloc (.cells #[.bool g, .slice a zs.length c, .int .i64 E] t)).alloc (.cells #[.bool g', .slice a' ys.length c', .int .i64 E'] t'))) := fun t t' => Bx6.start w _ _ _ _ _ _ _ _
  go_enter Tryd.func20, Tryd.ntmps20
  go_wp2_with fail
  refine (validsI_any _ 0 _ [⟨g, a, c, zs, E⟩, ⟨g', a', c', ys, E'⟩] _ (by simp) ?_ (two_rowD ?_ ?_ ?_ ?_ ?_ ?_ ?_ (hz.later (bel3 _ _ _ _)) (hy.later (bel3 _ _ _ _)))).mono ?_
  · intro d hd
    simp at hd
    rcases hd with rfl | rfl
    · exact Nat.le_trans hn (by decide)
    · exact Nat.le_trans hn' (by decide)
  · simp
  · simp [go_sem]
  · simp [go_sem]
  · simp [go_sem]
  · simp [go_sem]
  · simp [go_sem]
  · simp [go_sem]
  · rintro e W0 ⟨rfl, hb1⟩
    have HV : Hid ([(⟨g, a, c, zs, E⟩ : DV), ⟨g', a', c', ys, E'⟩].all DV.ok = true) := by unfold Hid; simp [DV.ok, v1, v2]
    rw [HV.out]
    have F : Hid (Bx6 w (.bool g) (.slice a zs.length c) (.int .i64 E) (.bool g') (.slice a' ys.length c') (.int .i64 E') W0) := ((B0.out _ _).later (bel0 _ _)).later hb1
    obtain ⟨NG, hNG⟩ : ∃ NG, NG = (!g' && decide (0 < ys.length)) := ⟨_, rfl⟩
    rw [← hNG] at HNG Bn
    have HNGe : Hid (NG = (!g' && decide (0 < ys.length))) := hNG
    have HFINE : Hid (∀ b1 c1 b2 c2 : Nat, ∀ t, t ∈ [(⟨b1, 0, c1, [⟨g, a, c, zs, E⟩]⟩ : TV), ⟨b2, 0, c2, [⟨NG, a', c', ys, E'⟩]⟩] → t.ds.length ≤ 3 ∧ ∀ d, d ∈ t.ds → d.fine) := by
      intro b1 c1 b2 c2 t ht
      simp at ht
      rcases ht with rfl | rfl
      · refine ⟨by simp, fun d hd => ?_⟩
        simp at hd
        subst hd
        exact ⟨hn, hE0, hE1, Bz⟩
      · refine ⟨by simp, fun d hd => ?_⟩
        simp at hd
        subst hd
        have : B1 NG ys (sg NG (val 4294967296 ys)) := by rw [← HNG.out]; exact Bn
        exact ⟨hn', hE2, hE3, this⟩
    have HZ : Hid (RowAt .u32 W0 a zs) := hz.later F.out.bel
    have HY : Hid (RowAt .u32 W0 a' ys) := hy.later F.out.bel
    clear hb1 B0 HV hNG
    go_wp2
    go_cut [6] from 7 to 22 (fun s6 wx => ∃ (T : Nat) (g4 : Bool) (a4 : Option Addr) (c4 : Nat) (f4 : List Int) (m4 : Int), s6 = .pointer (some ⟨T, 0, none⟩) ∧ f4.length ≤ 100000 ∧ Hid (InB T g4 a4 c4 f4 wx) ∧ Hid (B1 g4 f4 m4) ∧ Hid (sgn m4 = sgn (atK 20000 (sg g (val 4294967296 zs)) E - atK 20000 (sg g' (val 4294967296 ys)) E')) ∧ Hid (Below W0.heap.size W0 wx))
    case first =>
      go_region_held3 (fun w' => w'.cell? ⟨w.heap.size, 0, none⟩ = some (.bool g) ∧ w'.cell? ⟨w.heap.size, 1, none⟩ = some (.slice a zs.length c) ∧ w'.cell? ⟨w.heap.size, 2, none⟩ = some (.int .i64 E) ∧ w'.cell? ⟨w.heap.size + 1, 0, none⟩ = some (.bool g') ∧ w'.cell? ⟨w.heap.size + 1, 1, none⟩ = some (.slice a' ys.length c') ∧ w'.cell? ⟨w.heap.size + 1, 2, none⟩ = some (.int .i64 E') ∧ Below W0.heap.size W0 w')
        (first | exact F.out.held (Below.refl _ _).drew | exact F.out.held (by assumption) | exact F.out.held (Below.alloc (by assumption) (Below.size (by assumption)) _) | exact F.out.held (Below.alloc (held7 (by assumption)) (Below.size (held7 (by assumption))) _) | exact F.out.held (Below.setCell (Below.setCell (Below.setCell (by assumption) (by first | (simp; done) | (simp; omega)) _) (by first | (simp; done) | (simp; omega)) _) (by first | (simp; done) | (simp; omega)) _))
        (first
          | (go_at_call 41; refine (negI_any g' a' c' ys E' _).mono ?_; rintro e w2 ⟨rfl, hb2⟩; rw [← HNGe.out]; have hB2 : Below W0.heap.size W0 w2 := Below.trans (held7 (by assumption)) (Below.mono hb2 (Below.size (held7 (by assumption)))); have hs2 := hB2.size; have hs3 := hb2.size; (try simp at hs3))
          | (go_at_call 40
             refine (sumP_any HPR _ 0 _ [⟨_, 0, _, [⟨g, a, c, zs, E⟩]⟩, ⟨_, 0, _, [⟨NG, a', c', ys, E'⟩]⟩] _ (by simp) (HFINE.out _ _ _ _) (by first | exact twoT_last (by simp) (by (repeat first | exact oneD_last (by simp) (by (repeat first | exact HZ.out | exact HY.out | refine RowAt.later ?_ (bel0 _ _) | refine RowAt.later ?_ hb2 | refine RowAt.later ?_ (Below.refl _ _).drew); done) | refine RowD.later ?_ (bel0 _ _) | refine RowD.later ?_ hb2 | refine RowD.later ?_ (Below.refl _ _).drew); done) (by (repeat first | exact oneD_last (by simp) (by (repeat first | exact HZ.out | exact HY.out | refine RowAt.later ?_ (bel0 _ _) | refine RowAt.later ?_ hb2 | refine RowAt.later ?_ (Below.refl _ _).drew); done) | refine RowD.later ?_ (bel0 _ _) | refine RowD.later ?_ hb2 | refine RowD.later ?_ (Below.refl _ _).drew); done) | exact RowT.later (twoT_last (by simp) (by (repeat first | exact oneD_last (by simp) (by (repeat first | exact HZ.out | exact HY.out | refine RowAt.later ?_ (bel0 _ _) | refine RowAt.later ?_ hb2 | refine RowAt.later ?_ (Below.refl _ _).drew); done) | refine RowD.later ?_ (bel0 _ _) | refine RowD.later ?_ hb2 | refine RowD.later ?_ (Below.refl _ _).drew); done) (by (repeat first | exact oneD_last (by simp) (by (repeat first | exact HZ.out | exact HY.out | refine RowAt.later ?_ (bel0 _ _) | refine RowAt.later ?_ hb2 | refine RowAt.later ?_ (Below.refl _ _).drew); done) | refine RowD.later ?_ (bel0 _ _) | refine RowD.later ?_ hb2 | refine RowD.later ?_ (Below.refl _ _).drew); done)) (bel0 _ _))).mono ?_
             rintro e w5 ⟨g4, a4, c4, f4, m4, e4, rfl, hb14, hl4, hK4, _, _, hr4, hf4, hb4⟩
             have hS4 := sgn_sumK rfl HNG.out hE0 hE2 hK4
             have hB4 : Below W0.heap.size W0 w5 := Below.trans (held7 (by assumption)) (Below.mono hb4 (Below.size (held7 (by assumption))))
             (first | ((refine have hh : Has3 W0.heap.size w5 := ?_; ?_); focus (refine Has3.later ?_ hb4; (repeat first | (refine Has3.at _ ?_; simp; done) | refine Has3.later ?_ (bel0 _ _) | refine Has3.later ?_ hb2 | refine Has3.later ?_ (Below.refl _ _).drew); done)) | ((refine have hh : Has3 (W0.heap.size + 1) w5 := ?_; ?_); focus (refine Has3.later ?_ hb4; (repeat first | (refine Has3.at _ ?_; simp; done) | refine Has3.later ?_ (bel0 _ _) | refine Has3.later ?_ hb2 | refine Has3.later ?_ (Below.refl _ _).drew); done)) | ((refine have hh : Has3 w2.heap.size w5 := ?_; ?_); focus (refine Has3.later ?_ hb4; (repeat first | (refine Has3.at _ ?_; simp; done) | refine Has3.later ?_ (bel0 _ _) | refine Has3.later ?_ hb2 | refine Has3.later ?_ (Below.refl _ _).drew); done)) | ((refine have hh : Has3 (w2.heap.size + 1) w5 := ?_; ?_); focus (refine Has3.later ?_ hb4; (repeat first | (refine Has3.at _ ?_; simp; done) | refine Has3.later ?_ (bel0 _ _) | refine Has3.later ?_ hb2 | refine Has3.later ?_ (Below.refl _ _).drew); done)) | ((refine have hh : Has3 (w2.heap.size + 2) w5 := ?_; ?_); focus (refine Has3.later ?_ hb4; (repeat first | (refine Has3.at _ ?_; simp; done) | refine Has3.later ?_ (bel0 _ _) | refine Has3.later ?_ hb2 | refine Has3.later ?_ (Below.refl _ _).drew); done)) | ((refine have hh : Has3 (w2.heap.size + 3) w5 := ?_; ?_); focus (refine Has3.later ?_ hb4; (repeat first | (refine Has3.at _ ?_; simp; done) | refine Has3.later ?_ (bel0 _ _) | refine Has3.later ?_ hb2 | refine Has3.later ?_ (Below.refl _ _).drew); done)) | have hh : True := trivial)
             (try have r1 := hh.r1); (try have r2 := hh.r2); (try have r3 := hh.r3); (try have r4 := hh.r4)))
      all_goals
        go_wp2_with fail
        go_meet
        case rel =>
          refine ⟨_, g4, a4, c4, f4, m4, rfl, by simp at hl4; omega, ?_, hb14, hS4, ?_⟩
          · first
              | exact InB.start _ hr4
              | exact InB.set hr4 hf4 (by first | (simp; done) | (simp; omega)) hh
          · first
              | exact hB4.alloc hB4.size _
              | exact ((hB4.setCell (by first | (simp; done) | (simp; omega)) _).setCell (by first | (simp; done) | (simp; omega)) _).setCell (by first | (simp; done) | (simp; omega)) _
    case rest =>
      obtain ⟨T, g4, a4, c4, f4, m4, rfl, hf4, hI, hB1, hS, hB⟩ := hcut
      have s0 := hI.out.q0
      have s1 := hI.out.q1
      have HB : Hid (Below w.heap.size w wc) := F.out.bel.trans (hB.out.mono (by have := F.out.le; omega))
      go_wp2_with fail
      refine (signB_any g4 a4 c4 f4 m4 _ (by omega) hI.out.row hB1.out).mono ?_
      rintro e w6 ⟨rfl, hb6⟩
      rw [hS.out]
      have HB6 : Hid (Below w.heap.size w w6) := HB.out.trans (hb6.mono HB.out.size)
      clear hb6 s0 s1
      go_wp2
      refine bodyPost_ret (v := .tuple #[.int .i64 (sgn (atK 20000 (sg g (val 4294967296 zs)) E - atK 20000 (sg g' (val 4294967296 ys)) E')), .int .i64 0]) (by simp [results, Tryd.results20, go_sem]) rfl ?_
      exact ⟨rfl, HB6.out⟩

end Go.Proofs.YtladfpljnaippabDoor

/-
  The model's DyCmp, whatever it is asked.
-/
namespace Go.Proofs.YtladfpljnaippabDoor
open Go.RowKit

end Go.Proofs.YtladfpljnaippabDoor

/-
  The program's DyCmp, whatever it is asked.
-/
namespace Go.Proofs.YtladfpljnaippabDoor
open Go.RowKit

theorem prodSays : ProdSays := fun b off c ds w hn hl hd => prod_any b off c ds w hn hl hd

theorem cmpDI_any (g g' : Bool) (a a' : Option Addr) (c c' : Nat) (zs ys : List Int) (E E' : Int) (w : World) (hn : zs.length ≤ 1048576) (hn' : ys.length ≤ 1048576) (hz : RowAt .u32 w a zs) (hy : RowAt .u32 w a' ys) (hu : U32 zs) (hu' : U32 ys) :
    Calls Tryd.prog 20 #[.agg #[.bool g, .slice a zs.length c, .int .i64 E], .agg #[.bool g', .slice a' ys.length c', .int .i64 E']] w fun e w' => e = .returned (.tuple #[.int .i64 (cmpD g g' zs ys E E'), .int .i64 (codeD g g' zs ys E E')]) ∧ Below w.heap.size w w' := by
  unfold cmpD codeD
  cases v1 : validD g zs E
  · rw [if_neg (by simp), if_neg (by simp)]
    exact cmpDI_bad g g' a a' c c' zs ys E E' w hn hn' hz hy (by simp [v1])
  · cases v2 : validD g' ys E'
    · rw [if_neg (by simp), if_neg (by simp)]
      exact cmpDI_bad g g' a a' c c' zs ys E E' w hn hn' hz hy (by simp [v2])
    · rw [if_pos ⟨rfl, rfl⟩, if_pos ⟨rfl, rfl⟩]
      exact cmpDI_ok prodSays g g' a a' c c' zs ys E E' w hz hy hu hu' v1 v2

end Go.Proofs.YtladfpljnaippabDoor

/-
  The law of FnFloat, walked.
-/
namespace Go.Proofs.YtladfpljnaippabDoor
open Go.RowKit

/-- A Dyadic in a box. -/
structure BoxV (T : Nat) (g : Bool) (a : Option Addr) (c : Nat) (zs : List Int) (E : Int) (W : World) : Prop where
  c0 : W.cell? ⟨T, 0, none⟩ = some (.bool g)
  c1 : W.cell? ⟨T, 1, none⟩ = some (.slice a zs.length c)
  c2 : W.cell? ⟨T, 2, none⟩ = some (.int .i64 E)
  row : RowAt .u32 W a zs
  lt : T < W.heap.size

theorem BoxV.later {T : Nat} {g : Bool} {a : Option Addr} {c : Nat} {zs : List Int} {E : Int} {W W' : World} (h : BoxV T g a c zs E W) (hb : Below W.heap.size W W') : BoxV T g a c zs E W' :=
  ⟨(hb.cell (p := ⟨T, 0, none⟩) h.lt).trans h.c0, (hb.cell (p := ⟨T, 1, none⟩) h.lt).trans h.c1, (hb.cell (p := ⟨T, 2, none⟩) h.lt).trans h.c2, h.row.later hb, Nat.lt_of_lt_of_le h.lt hb.size⟩

theorem BoxV.start {g : Bool} {a : Option Addr} {c : Nat} {zs : List Int} {E : Int} {W : World} (h : RowAt .u32 W a zs) (t : TypeId) : BoxV W.heap.size g a c zs E (W.alloc (.cells #[.bool g, .slice a zs.length c, .int .i64 E] t)) :=
  ⟨by simp [go_sem], by simp [go_sem], by simp [go_sem], h.later (bel0 _ _), by simp⟩

theorem flC_ok {ok : Bool} {N E : Int} (h : flC ok N E = 0) : ok = true := by
  unfold flC at h
  cases ok
  · simp at h
  · rfl

theorem val_small {Z : List Int} (hu : U32 Z) (hl : Z.length ≤ 60) (g : Bool) : (sg g (val 4294967296 Z)).natAbs < 2 ^ 1920 := by
  have h0 : 0 ≤ val 4294967296 Z := val_nonneg (by decide) hu
  have h1 : val 4294967296 Z < 4294967296 ^ Z.length := val_lt_pow (by decide) hu
  have h2 : (4294967296 : Int) ^ Z.length ≤ 4294967296 ^ 60 := pow_mono (by decide) hl
  have h3 : (4294967296 : Int) ^ 60 = ((2 ^ 1920 : Nat) : Int) := by decide +kernel
  rw [h3] at h2
  unfold sg
  split <;> omega

/-- The neighbours of a float: the first and the second. -/
def nbI (i : Nat) (f : Int) : Int := if i = 0 then nbD f else f + 1

theorem nbI_range {i : Nat} {f : Int} (h0 : 0 ≤ f) (h1 : f < 4286578688) : 0 ≤ nbI i f ∧ nbI i f < 4294967296 := by
  unfold nbI nbD
  split
  · split
    · split <;> omega
    · omega
  · omega

/-- What stays while the law's loop runs. -/
structure StV (w : World) (T13 : Nat) (G : Bool) (a7 : Option Addr) (c7 : Nat) (Z : List Int) (E : Int) (T16 : Nat) (a9 : Option Addr) (c9 : Nat) (Z9 : List Int) (E9 : Int) (TB : Nat) (f : Int) (W : World) : Prop where
  x : BoxV T13 G a7 c7 Z E W
  h : BoxV T16 false a9 c9 Z9 E9 W
  b0 : W.cell? ⟨TB, 0, none⟩ = some (.int .u32 ((f - 1) % 4294967296))
  b1 : W.cell? ⟨TB, 1, none⟩ = some (.int .u32 (f + 1))
  lt : TB < W.heap.size
  bel : Below w.heap.size w W

theorem StV.later {w : World} {T13 : Nat} {G : Bool} {a7 : Option Addr} {c7 : Nat} {Z : List Int} {E : Int} {T16 : Nat} {a9 : Option Addr} {c9 : Nat} {Z9 : List Int} {E9 : Int} {TB : Nat} {f : Int} {W W' : World} (h : StV w T13 G a7 c7 Z E T16 a9 c9 Z9 E9 TB f W) (hb : Below W.heap.size W W') : StV w T13 G a7 c7 Z E T16 a9 c9 Z9 E9 TB f W' :=
  ⟨h.x.later hb, h.h.later hb, (hb.cell (p := ⟨TB, 0, none⟩) h.lt).trans h.b0, (hb.cell (p := ⟨TB, 1, none⟩) h.lt).trans h.b1, Nat.lt_of_lt_of_le h.lt hb.size, h.bel.trans (hb.mono h.bel.size)⟩

set_option maxRecDepth 100000 in
set_option maxHeartbeats 16000000 in
theorem lawFF_any (a : Option Addr) (c : Nat) (bs : List Int) (w : World) (hn : bs.length ≤ 1048576) (hc : bs.length ≤ c) (hcm : c ≤ maxLen) (hnil : a = none → c = 0) (hr : RowAt .u8 w a bs) (hb : Dig 256 bs) (hT : Tab w) :
    Calls Tryd.prog 4 #[.slice a bs.length c] w fun e w' => e = .returned (.bool true) ∧ Below w.heap.size w w' := by
  have HT : Hid (Tab w) := hT
  obtain ⟨G, hG⟩ : ∃ G, G = (dfF bs).1 := ⟨_, rfl⟩
  obtain ⟨Z, hZ⟩ : ∃ Z, Z = (dfF bs).2.1 := ⟨_, rfl⟩
  obtain ⟨E, hE⟩ : ∃ E, E = (dfF bs).2.2 := ⟨_, rfl⟩
  have HD : Hid (∀ W, Below w.heap.size w W → Calls Tryd.prog 17 #[.slice a bs.length c] W fun e w' => DfOut W G Z E e w') := by
    intro W hW
    rw [hG, hZ, hE]
    exact drawDf_any a c bs W hn hc hcm hnil (hr.later hW) hb
  have HO : Hid (Calls Tryd.prog 9 #[.slice a bs.length c] w fun e w' => OfOut w e w') := drawOf_any a c bs w hn hc hcm hnil hr hb
  have hlen : ¬ (bs.length : Int) > 1048576 := by omega
  clear hT hG hZ hE hr hb hc hcm hnil
  go_enter Tryd.func4, Tryd.ntmps4
  go_wp2_with fail
  refine HO.out.mono ?_
  rintro e W1 ⟨b, rfl, hb0, hb1, hB1⟩
  have HB1 : Hid (Below w.heap.size w W1) := hB1
  clear hB1 HO
  go_wp2_with fail
  refine (dyOfS_any b _ hb0 hb1).mono ?_
  rintro e W2 ⟨Gs, Zs, Es, Ks, aS, cs, rfl, hress, hrs, _, hB2⟩
  have HRs : Hid (ResD (fFin b) (atK 100000 (fNum b) (fExp b - 150)) Gs Zs Es Ks) := hress
  have HB2 : Hid (Below w.heap.size w W2) := HB1.out.trans (hB2.mono HB1.out.size)
  have hls : Zs.length ≤ 512 := hress.len.1
  have HX2 : Hid (∀ t, BoxV W2.heap.size Gs aS cs Zs Es (W2.alloc (.cells #[.bool Gs, .slice aS Zs.length cs, .int .i64 Es] t))) := fun t => BoxV.start hrs t
  clear hress hB2 hrs HB1
  go_wp2_with fail
  refine (dyOfI_any b _ hb0 hb1 ((HT.out.later HB2.out).later (bel0 _ _))).mono ?_
  rintro e W3 ⟨Gi, Zi, Ei, Ki, ai, ci, rfl, hresi, hri, hB3⟩
  obtain ⟨eG, eZ, eE, eK⟩ := hresi.inj HRs.out
  subst eG eZ eE eK
  have HX3 : Hid (BoxV W2.heap.size Gi aS cs Zi Ei W3) := (HX2.out _).later hB3
  have HB3 : Hid (Below w.heap.size w W3) := (HB2.out.alloc HB2.out.size _).trans (hB3.mono (by have := HB2.out.size; simp; omega))
  have HX4 : Hid (∀ t, BoxV W3.heap.size Gi ai ci Zi Ei (W3.alloc (.cells #[.bool Gi, .slice ai Zi.length ci, .int .i64 Ei] t))) := fun t => BoxV.start hri.row t
  have hKK : (Ki != Ki) = false := by simp
  clear hresi hri hB3 HX2 HB2
  go_upto_if 46 with fail
  go_cut [2, 3, 8, 9] from 27 (fun _ _ _ _ wx => Hid (Below w.heap.size w wx))
  case first =>
    by_cases hK : Ki = 0
    · subst hK
      have hfin : fFin b = true := HRs.out.good.1
      have hRt : ResD true (vF b) Gi Zi Ei 0 := by have := HRs.out; rw [hfin] at this; exact this
      obtain ⟨hbk, hbc⟩ := round_trip hb0 hb1 hfin hRt
      have HU : Hid (U32 Zi) := HRs.out.len.2
      have HVD : Hid (validD Gi Zi Ei = true) := HRs.out.good.2.1
      have HBK : Hid (flB true Gi (val 4294967296 Zi) Ei = (if b = 2147483648 then 0 else b)) := hbk
      have HBC : Hid (flC true (val 4294967296 Zi) Ei = 0) := hbc
      clear hbk hbc hRt hfin
      go_wp2_with fail
      refine (flDI_any Gi ai ci Zi Ei _ (by omega) (HX4.out _).row HU.out).mono ?_
      rintro e W5 ⟨rfl, hB5⟩
      rw [HVD.out, HBK.out, HBC.out]
      have HX5 : Hid (BoxV W2.heap.size Gi aS cs Zi Ei W5) := (HX3.out.later (bel0 _ _)).later hB5
      have HX6 : Hid (BoxV W3.heap.size Gi ai ci Zi Ei W5) := (HX4.out _).later hB5
      have HB5 : Hid (Below w.heap.size w W5) := (HB3.out.alloc HB3.out.size _).trans (hB5.mono (by have := HB3.out.size; simp; omega))
      have q0 := HX5.out.c0
      have q1 := HX5.out.c1
      have q2 := HX5.out.c2
      have p0 := HX6.out.c0
      have p1 := HX6.out.c1
      have p2 := HX6.out.c2
      clear hB5 HX3 HX4 HB3
      by_cases h8 : b = 2147483648
      · rw [if_pos h8]
        subst h8
        go_wp2_with fail
        refine (same_any Gi ai aS ci cs Zi _ (by unfold maxLen; omega) HX6.out.row HX5.out.row).mono ?_
        rintro e W6 ⟨rfl, hB6⟩
        have HB6 : Hid (Below w.heap.size w W6) := HB5.out.trans (hB6.mono HB5.out.size)
        have HX7 : Hid (BoxV W2.heap.size Gi aS cs Zi Ei W6) := HX5.out.later hB6
        have HX8 : Hid (BoxV W3.heap.size Gi ai ci Zi Ei W6) := HX6.out.later hB6
        have hEE : (Ei != Ei) = false := by simp
        clear q0 q1 q2 p0 p1 p2 hB6
        have q2 := HX7.out.c2
        have p2 := HX8.out.c2
        go_wp2_with fail
        go_meet
        case rel => exact HB6
      · rw [if_neg h8]
        have hbb : (b != b) = false := by simp
        have h8b : (b == 2147483648) = false := by simp [h8]
        go_wp2_with fail
        refine (same_any Gi ai aS ci cs Zi _ (by unfold maxLen; omega) HX6.out.row HX5.out.row).mono ?_
        rintro e W6 ⟨rfl, hB6⟩
        have HB6 : Hid (Below w.heap.size w W6) := HB5.out.trans (hB6.mono HB5.out.size)
        have HX7 : Hid (BoxV W2.heap.size Gi aS cs Zi Ei W6) := HX5.out.later hB6
        have HX8 : Hid (BoxV W3.heap.size Gi ai ci Zi Ei W6) := HX6.out.later hB6
        have hEE : (Ei != Ei) = false := by simp
        clear q0 q1 q2 p0 p1 p2 hB6
        have q2 := HX7.out.c2
        have p2 := HX8.out.c2
        go_wp2_with fail
        go_meet
        case rel => exact HB6
    · have hKb : (Ki == 0) = false := by simp [hK]
      go_wp2
      go_meet
      case rel => exact HB3.out.alloc HB3.out.size _
  case rest =>
    obtain ⟨Wq, hWq⟩ : ∃ Wq, Wq = wc := ⟨_, rfl⟩
    subst hWq
    have HB4 : Hid (Below w.heap.size w Wq) := hcut
    clear hcut HX3 HX4 HB3 HRs hKK
    go_wp2_with fail
    refine (HD.out _ HB4.out).mono ?_
    rintro e W5 ⟨a5, c5, rfl, hl5, hu5, hr5, hB5⟩
    have HU : Hid (U32 Z) := hu5
    have HB5 : Hid (Below w.heap.size w W5) := HB4.out.trans (hB5.mono HB4.out.size)
    have HX5 : Hid (∀ t, BoxV W5.heap.size G a5 c5 Z E (W5.alloc (.cells #[.bool G, .slice a5 Z.length c5, .int .i64 E] t))) := fun t => BoxV.start hr5 t
    clear hu5 hr5 hB5 HB4
    go_wp2_with fail
    refine (flS_any G a5 c5 Z E _ (by omega) (HX5.out _).row HU.out).mono ?_
    rintro e W6 ⟨rfl, hB6⟩
    obtain ⟨f, hf⟩ : ∃ f, f = flB (validD G Z E) G (val 4294967296 Z) E := ⟨_, rfl⟩
    obtain ⟨k, hk⟩ : ∃ k, k = flC (validD G Z E) (val 4294967296 Z) E := ⟨_, rfl⟩
    rw [← hf, ← hk]
    have HF : Hid (f = flB (validD G Z E) G (val 4294967296 Z) E) := hf
    have HK : Hid (k = flC (validD G Z E) (val 4294967296 Z) E) := hk
    have HX6 : Hid (BoxV W5.heap.size G a5 c5 Z E W6) := (HX5.out _).later hB6
    have HB6 : Hid (Below w.heap.size w W6) := (HB5.out.alloc HB5.out.size _).trans (hB6.mono (by have := HB5.out.size; simp; omega))
    clear hf hk hB6 HX5 HB5
    go_wp2_with fail
    refine (HD.out _ HB6.out).mono ?_
    rintro e W7 ⟨a7, c7, rfl, _, _, hr7, hB7⟩
    have HX7 : Hid (BoxV W5.heap.size G a5 c5 Z E W7) := HX6.out.later hB7
    have HB7 : Hid (Below w.heap.size w W7) := HB6.out.trans (hB7.mono HB6.out.size)
    have HY7 : Hid (∀ t, BoxV W7.heap.size G a7 c7 Z E (W7.alloc (.cells #[.bool G, .slice a7 Z.length c7, .int .i64 E] t))) := fun t => BoxV.start hr7 t
    clear hr7 hB7 HX6 HB6
    go_wp2_with fail
    refine (flDI_any G a7 c7 Z E _ (by omega) (HY7.out _).row HU.out).mono ?_
    rintro e W8 ⟨rfl, hB8⟩
    rw [← HF.out, ← HK.out]
    have HX8 : Hid (BoxV W5.heap.size G a5 c5 Z E W8) := (HX7.out.later (bel0 _ _)).later hB8
    have HY8 : Hid (BoxV W7.heap.size G a7 c7 Z E W8) := (HY7.out _).later hB8
    have HB8 : Hid (Below w.heap.size w W8) := (HB7.out.alloc HB7.out.size _).trans (hB8.mono (by have := HB7.out.size; simp; omega))
    have hkk : (k != k) = false := by simp
    have q1 := HX8.out.c1
    have q2 := HX8.out.c2
    clear hB8 HX7 HY7 HB7 HD
    by_cases hk0 : k = 0
    · subst hk0
      by_cases hE1 : E < -1000
      · go_wp2
        go_ret
        exact ⟨rfl, HB8.out⟩
      · by_cases hE2 : E > 1000
        · go_wp2
          go_ret
          exact ⟨rfl, HB8.out⟩
        · by_cases hZ : (Z.length : Int) > 60
          · go_wp2
            go_ret
            exact ⟨rfl, HB8.out⟩
          · have hv : validD G Z E = true := flC_ok HK.out.symm
            have HV : Hid (validD G Z E = true) := hv
            have hfl : f = flB true G (val 4294967296 Z) E := by have := HF.out; rw [hv] at this; exact this
            have hkl : flC true (val 4294967296 Z) E = 0 := by have := HK.out; rw [hv] at this; exact this.symm
            obtain ⟨f0, f1, f2, f3, f4⟩ := flB_near (g := G) (val_nonneg (by decide) HU.out) (show 0 ≤ E + 100000 by omega) hkl
            rw [← hfl] at f0 f1 f2 f3 f4
            have HG : Hid (GoodV 6000 (atK 100000 (sg G (val 4294967296 Z)) E)) := GoodV.of (a := 1920) (by omega) (val_small HU.out (by omega) G) (by omega)
            have HFF : Hid (fFin f = true) := f2
            obtain ⟨v, hvv⟩ : ∃ v, v = atK 100000 (sg G (val 4294967296 Z)) E := ⟨_, rfl⟩
            have HVV : Hid (v = atK 100000 (sg G (val 4294967296 Z)) E) := hvv
            have HN0 : Hid (Nearest v f (nbD f)) := by unfold Hid; rw [hvv]; exact f3
            have HN1 : Hid (Nearest v f (f + 1)) := by unfold Hid; rw [hvv]; exact f4
            have hl512 : Z.length ≤ 512 := by omega
            have r0 := HY8.out.c0
            have r1 := HY8.out.c1
            have r2 := HY8.out.c2
            clear hv hfl hkl f2 f3 f4 hvv
            go_wp2_with fail
            refine (gap_any G a7 c7 Z E f _ HV.out HU.out hl512 HY8.out.row HG.out f0 (by omega) HFF.out (HT.out.later HB8.out)).mono ?_
            rintro e W9 ⟨a9, c9, Z9, E9, rfl, hv9, hd9, hu9, hl9, hr9, hB9⟩
            rw [← HVV.out] at hd9
            have HV9 : Hid (validD false Z9 E9 = true) := hv9
            have HD9 : Hid (atK 100000 (val 4294967296 Z9) E9 = ((v - vF f).natAbs : Int)) := hd9
            have HU9 : Hid (U32 Z9) := hu9
            have HY9 : Hid (BoxV W7.heap.size G a7 c7 Z E W9) := HY8.out.later hB9
            have HB9 : Hid (Below w.heap.size w W9) := HB8.out.trans (hB9.mono HB8.out.size)
            have HX9 : Hid (∀ t, BoxV W9.heap.size false a9 c9 Z9 E9 (W9.alloc (.cells #[.bool false, .slice a9 Z9.length c9, .int .i64 E9] t))) := fun t => BoxV.start hr9 t
            clear hv9 hd9 hu9 hr9 hB9 HX8 HY8 HB8 r0 r1 r2 q1 q2
            have HS0 : Hid (StV w W7.heap.size G a7 c7 Z E W9.heap.size a9 c9 Z9 E9 (W9.heap.size + 1) f ((W9.alloc (.cells #[.bool false, .slice a9 Z9.length c9, .int .i64 E9] 29)).alloc (.cells #[.int .u32 ((f - 1) % 4294967296), .int .u32 (f + 1)] 33))) :=
              ⟨HY9.out.later (bel2 _ _ _), (HX9.out _).later (bel0 _ _), by simp [go_sem], by simp [go_sem], by simp, HB9.out.trans ((bel2 _ _ _).mono HB9.out.size)⟩
            clear HY9 HX9 HB9
            go_wp2
            obtain ⟨T7, hT7⟩ : ∃ T7, T7 = W7.heap.size := ⟨_, rfl⟩
            obtain ⟨T9, hT9⟩ : ∃ T9, T9 = W9.heap.size := ⟨_, rfl⟩
            rw [← hT7, ← hT9]
            rw [← hT7, ← hT9] at HS0
            go_loopw [19, 20, 21, 22, 23, 24, 25, 26] (fun si _ _ _ _ _ _ _ wr => ∃ (i : Nat), i ≤ 2 ∧ si = .int .i64 i ∧ Hid (StV w T7 G a7 c7 Z E T9 a9 c9 Z9 E9 (T9 + 1) f wr)) (fun si _ _ _ _ _ _ _ _ => 2 - (intOf si).toNat)
            case atStart => exact ⟨0, by decide, rfl, HS0⟩
            case round =>
              obtain ⟨i, hi2, rfl, HS⟩ := hrel
              clear HS0 hT7 hT9
              by_cases hlt : i < 2
              · have hib : (i : Int) < 2 := by omega
                obtain ⟨x, hx⟩ : ∃ x, x = (if i = 0 then (f - 1) % 4294967296 else f + 1) := ⟨_, rfl⟩
                have hcell : wr.cell? ⟨T9 + 1, i, none⟩ = some (.int .u32 x) := by
                  rw [hx]
                  rcases (show i = 0 ∨ i = 1 by omega) with rfl | rfl
                  · exact HS.out.b0
                  · exact HS.out.b1
                have HX : Hid (x = (if i = 0 then (f - 1) % 4294967296 else f + 1)) := hx
                clear hx
                go_upto_region 30 with fail
                go_cut [139] from 125 to 138 (fun s139 wx => s139 = .bool (decide (f % 2147483648 = 0 ∧ i = 0)) ∧ wx = wr)
                case first =>
                  by_cases hz : f % 2147483648 = 0
                  · by_cases hi0 : i = 0
                    · have hi0b : ((i : Int) == 0) = true := by simp [hi0]
                      go_wp2
                      go_meet
                      case rel => exact ⟨by simp [hz, hi0], rfl⟩
                    · have hi0b : ((i : Int) == 0) = false := by simp; omega
                      go_wp2
                      go_meet
                      case rel => exact ⟨by simp [hz, hi0], rfl⟩
                  · have hzb : (f % 2147483648 == 0) = false := by simp [hz]
                    go_wp2
                    go_meet
                    case rel => exact ⟨by simp [hz], rfl⟩
                case rest =>
                  obtain ⟨rfl, rfl⟩ := hcut
                  obtain ⟨wr, hwr⟩ : ∃ wr, wr = wc := ⟨_, rfl⟩
                  subst hwr
                  go_upto_if 139 with fail
                  go_cut [20] from 125 to 181 (fun s20 wx => s20 = .int .u32 (nbI i f) ∧ wx = wr)
                  case first =>
                    by_cases hcz : f % 2147483648 = 0 ∧ i = 0
                    · have hd : decide (f % 2147483648 = 0 ∧ i = 0) = true := by simp [hcz]
                      rw [hd]
                      rcases (show f = 0 ∨ f = 2147483648 by omega) with rfl | rfl
                      · go_wp2
                        go_meet
                        case rel => exact ⟨by rw [hcz.2]; rfl, rfl⟩
                      · go_wp2
                        go_meet
                        case rel => exact ⟨by rw [hcz.2]; rfl, rfl⟩
                    · have hd : decide (f % 2147483648 = 0 ∧ i = 0) = false := by simp [hcz]
                      rw [hd]
                      have hxn : x = nbI i f := by
                        rw [HX.out]
                        unfold nbI nbD
                        by_cases hi0 : i = 0
                        · rw [if_pos hi0, if_pos hi0, if_neg (by omega)]
                          omega
                        · rw [if_neg hi0, if_neg hi0]
                      go_wp2
                      go_meet
                      case rel => exact ⟨by rw [hxn], rfl⟩
                  case rest =>
                    obtain ⟨rfl, rfl⟩ := hcut
                    obtain ⟨g0, g1⟩ := nbI_range (i := i) f0 f1
                    have hN : Nearest v f (nbI i f) := by
                      unfold nbI
                      split
                      · exact HN0.out
                      · exact HN1.out
                    have HN : Hid (Nearest v f (nbI i f)) := hN
                    clear hN HX hcell
                    generalize nbI i f = g at *
                    go_wp2_with fail
                    refine (dyOfS_any g _ g0 g1).mono ?_
                    rintro e WA ⟨G3, Z3, E3, K3, a3, c3, rfl, hres3, hr3, _, hBA⟩
                    have HSA : Hid (StV w T7 G a7 c7 Z E T9 a9 c9 Z9 E9 (T9 + 1) f WA) := HS.out.later hBA
                    have HSB : Hid (∀ t, StV w T7 G a7 c7 Z E T9 a9 c9 Z9 E9 (T9 + 1) f (WA.alloc (.cells #[.bool G3, .slice a3 Z3.length c3, .int .i64 E3] t))) := fun t => HSA.out.later (bel0 _ _)
                    by_cases hK3 : K3 = 0
                    · subst hK3
                      have HFG : Hid (fFin g = true) := hres3.good.1
                      have s0 := HSA.out.x.c0
                      have s1 := HSA.out.x.c1
                      have s2 := HSA.out.x.c2
                      have slt := HSA.out.x.lt
                      clear hres3 hr3 hBA
                      go_wp2_with fail
                      refine (gap_any G a7 c7 Z E g _ HV.out HU.out hl512 (HSB.out _).x.row HG.out g0 g1 HFG.out (HT.out.later (HSB.out _).bel)).mono ?_
                      rintro e WB ⟨aB, cB, ZB, EB, rfl, hvB, hdB, huB, hlB, hrB, hBB⟩
                      rw [← HVV.out] at hdB
                      obtain ⟨m1, m2, m3⟩ := cmp_near HN.out HV9.out hvB HD9.out hdB
                      have HM3 : Hid (codeD false false Z9 ZB E9 EB = 0) := m3
                      obtain ⟨s, hs⟩ : ∃ s, s = cmpD false false Z9 ZB E9 EB := ⟨_, rfl⟩
                      rw [← hs] at m1 m2
                      have HSS : Hid (s = cmpD false false Z9 ZB E9 EB) := hs
                      have HUB : Hid (U32 ZB) := huB
                      have HRB : Hid (RowAt .u32 WB aB ZB) := hrB
                      have HSC : Hid (StV w T7 G a7 c7 Z E T9 a9 c9 Z9 E9 (T9 + 1) f WB) := (HSB.out _).later hBB
                      clear s0 s1 s2 slt m3 hs huB hrB hvB hdB hBB HSA HSB
                      have s0 := HSC.out.h.c0
                      have s1 := HSC.out.h.c1
                      have s2 := HSC.out.h.c2
                      have slt := HSC.out.h.lt
                      go_wp2_with fail
                      refine (cmpDI_any false false a9 aB c9 cB Z9 ZB E9 EB _ (by omega) (by omega) (HSC.out.h.row.later (bel0 _ _)) (HRB.out.later (bel0 _ _)) HU9.out HUB.out).mono ?_
                      rintro e WC ⟨rfl, hBC⟩
                      rw [HM3.out, ← HSS.out]
                      have HSD : Hid (StV w T7 G a7 c7 Z E T9 a9 c9 Z9 E9 (T9 + 1) f WC) := (HSC.out.later (bel0 _ _)).later hBC
                      clear s0 s1 s2 slt hBC HSC HRB HUB HSS HM3
                      by_cases hs0 : s = 0
                      · have hfm : f % 2 = 0 := m2 hs0
                        subst hs0
                        go_wp2
                        go_roundw
                        case rel => exact ⟨i + 1, by omega, by go_num, HSD⟩
                        case measure => simp [intOf]; omega
                      · have hs1 : ¬ s > 0 := by omega
                        have hs2 : (s == 0) = false := by simp [hs0]
                        clear m2
                        go_wp2
                        go_roundw
                        case rel => exact ⟨i + 1, by omega, by go_num, HSD⟩
                        case measure => simp [intOf]; omega
                    · have hKb : (K3 != 0) = true := by simp [hK3]
                      clear hres3 hr3 hBA
                      go_wp2
                      go_roundw
                      case rel => exact ⟨i + 1, by omega, by go_num, HSB.out _⟩
                      case measure => simp [intOf]; omega
              · have hi4 : i = 2 := by omega
                subst hi4
                go_wp2
                go_ret
                exact ⟨rfl, HS.out.bel⟩
    · have hkb : (k != 0) = true := by simp [hk0]
      go_wp2
      go_ret
      exact ⟨rfl, HB8.out⟩

set_option maxRecDepth 100000 in
set_option maxHeartbeats 4000000 in
theorem lawFF_far (a : Option Addr) (n c : Nat) (w : World) (h : (1048576 : Int) < n) :
    Calls Tryd.prog 4 #[.slice a n c] w fun e w' => e = .returned (.bool true) ∧ Below w.heap.size w w' := by
  have h1 : (n : Int) > 1048576 := h
  clear h
  go_enter Tryd.func4, Tryd.ntmps4
  go_wp2
  go_ret
  exact ⟨rfl, Below.refl _ _⟩

theorem lawFF_all (a : Option Addr) (c : Nat) (bs : List Int) (w : World) (hc : bs.length ≤ c) (hcm : c ≤ maxLen) (hnil : a = none → c = 0) (hr : RowAt .u8 w a bs) (hb : Dig 256 bs) (hT : Tab w) :
    Calls Tryd.prog 4 #[.slice a bs.length c] w fun e w' => e = .returned (.bool true) ∧ Below w.heap.size w w' := by
  by_cases h : (1048576 : Int) < bs.length
  · exact lawFF_far a _ c w h
  · exact lawFF_any a c bs w (by omega) hc hcm hnil hr hb hT

end Go.Proofs.YtladfpljnaippabDoor
