/-
  DrawBigAdd: two drawn Bigs.
-/
import Derived.Test.YtlbegmepmeimkabDrawW
import Derived.Test.YtlbegmepmeimkabDrawR
import Derived.Test.YtlbegmepmeimkabRes
import Derived.Test.YtlbegmepmeimkabSpecH
namespace Go.Proofs.Ytlbegmepmeimkab
open Go.RowKit

/-- What DrawBigAdd answers. -/
def DrawXOut (w : World) (e : Ending) (w' : World) : Prop :=
  ∃ (G : Bool) (a : Option Addr) (c : Nat) (zs : List Int) (G' : Bool) (a' : Option Addr) (c' : Nat) (ys : List Int), e = .returned (.tuple #[.agg #[.bool G, .slice a zs.length c], .agg #[.bool G', .slice a' ys.length c']]) ∧ zs.length ≤ 513 ∧ ys.length ≤ 513 ∧ U32 zs ∧ U32 ys ∧ Sl .u32 w' a c zs ∧ Sl .u32 w' a' c' ys ∧ Below w.heap.size w w'

/-- The two answers' boxes and the reader behind them. -/
structure Ry2 (w W : World) : Prop where
  h0 : Has w.heap.size W
  h1 : Has (w.heap.size + 1) W
  rd : Rd (w.heap.size + 1 + 1) W
  bel : Below w.heap.size w W

theorem Ry2.start {w W : World} {t : TypeId} {e : Ending} (h : OpenOut ((w.alloc (.cells #[.bool false, .slice none 0 0] t)).alloc (.cells #[.bool false, .slice none 0 0] t)) e W) : Ry2 w W := by
  obtain ⟨_, h2, h3, h4⟩ := h
  simp at h2 h4
  refine ⟨((Has.new w t).later (bel0 _ _)).later h3, ?_, h2, (bel2 _ _ _).trans (h3.mono (by simp; omega))⟩
  have h5 := (Has.new (w.alloc (.cells #[.bool false, .slice none 0 0] t)) t).later h3
  simpa using h5

theorem far_ne {B b j : Nat} {a : Option Addr} {zs : List Int} (h : Far B a zs) (hb : b < B) : ∀ b' o, a = some ⟨b', o, none⟩ → zs ≠ [] → b' ≠ (⟨b, j, none⟩ : Addr).block := h.away (p := ⟨b, j, none⟩) (by simpa using hb)

theorem row_two {w W : World} {B : Nat} {G G' : Bool} {v v' : Value} {a : Option Addr} {zs : List Int} (hr : RowAt .u32 W a zs) (hf : Far B a zs) (hB : w.heap.size + 1 < B) :
    RowAt .u32 ((((W.setCell ⟨w.heap.size, 0, none⟩ (.bool G)).setCell ⟨w.heap.size, 1, none⟩ v).setCell ⟨w.heap.size + 1, 0, none⟩ (.bool G')).setCell ⟨w.heap.size + 1, 1, none⟩ v') a zs :=
  (((hr.setAway (far_ne hf (by omega)) _).setAway (far_ne hf (by omega)) _).setAway (far_ne hf hB) _).setAway (far_ne hf hB) _

theorem row_two' {w W : World} {B : Nat} {G G' : Bool} {v v' : Value} {a : Option Addr} {zs : List Int} (hr : RowAt .u32 W a zs) (hf : Far B a zs) (hB : w.heap.size + 1 < B) :
    RowAt .u32 ((((W.setCell ⟨w.heap.size + 1, 0, none⟩ (.bool G')).setCell ⟨w.heap.size + 1, 1, none⟩ v').setCell ⟨w.heap.size, 0, none⟩ (.bool G)).setCell ⟨w.heap.size, 1, none⟩ v) a zs :=
  (((hr.setAway (far_ne hf hB) _).setAway (far_ne hf hB) _).setAway (far_ne hf (by omega)) _).setAway (far_ne hf (by omega)) _

set_option maxRecDepth 100000 in
set_option maxHeartbeats 2000000 in
theorem drawAdd_any (a : Option Addr) (c : Nat) (bs : List Int) (w : World) (hn : bs.length ≤ 1048576) (hc : bs.length ≤ c) (hcm : c ≤ maxLen) (hnil : a = none → c = 0) (hr : RowAt .u8 w a bs) (hb : Dig 256 bs) :
    Calls Try.prog 30 #[.slice a bs.length c] w fun e w' => DrawXOut w e w' := by
  go_enter Try.func30, Try.ntmps30
  go_wp2_with fail
  refine (open_any a c bs _ hn hc hcm hnil (hr.later (bel2 _ _ _)) hb).mono ?_
  rintro e w1 ho
  have Y1 : Hid (Ry2 w w1) := Ry2.start ho
  obtain ⟨rfl, _, _, _⟩ := ho
  have e1 : ((w.alloc (.cells #[.bool false, .slice none 0 0] 26)).alloc (.cells #[.bool false, .slice none 0 0] 26)).heap.size = w.heap.size + 1 + 1 := by simp
  rw [e1]
  clear e1
  go_wp2_with fail
  refine (drawTwo_any _ _ Y1.out.rd).mono ?_
  rintro e w4 ⟨G, a4, c4, zs, G', a5, c5, ys, rfl, hn4, hn5, hu4, hu5, hs4, hs5, ⟨hf4, hf5⟩, ha4⟩
  have hlt := Y1.out.rd.lt
  have hk0 := Y1.out.h0.asideB ha4 (by omega)
  have hk1 := Y1.out.h1.asideB ha4 (by omega)
  have r0 := hk0.r1
  have r1 := hk0.r2
  have r2 := hk0.r3
  have s0 := hk1.r1
  have s1 := hk1.r2
  have s2 := hk1.r3
  have HB : Hid (Below w.heap.size w w4) := Y1.out.bel.trans (ha4.below (by omega) Y1.out.bel.size)
  have HS4 : Hid (Sl .u32 w4 a4 c4 zs) := hs4
  have HS5 : Hid (Sl .u32 w4 a5 c5 ys) := hs5
  have HF4 : Hid (Far w1.heap.size a4 zs) := hf4
  have HF5 : Hid (Far w1.heap.size a5 ys) := hf5
  have HLT : Hid (w.heap.size + 1 < w1.heap.size) := by unfold Hid; omega
  clear hs4 hs5 hf4 hf5 ha4 hk0 hk1 hlt
  go_wp2
  refine bodyPost_ret (v := .tuple #[.agg #[.bool G, .slice a4 zs.length c4], .agg #[.bool G', .slice a5 ys.length c5]]) (by simp [results, Try.results30, go_sem, r0, r1, s0, s1]) rfl ?_
  exact ⟨G, a4, c4, zs, G', a5, c5, ys, rfl, hn4, hn5, hu4, hu5, ⟨HS4.out.fits, HS4.out.nil, row_two HS4.out.row HF4.out HLT.out⟩, ⟨HS5.out.fits, HS5.out.nil, row_two HS5.out.row HF5.out HLT.out⟩, (((HB.out.setCell (by simp) _).setCell (by simp) _).setCell (by simp) _).setCell (by simp) _⟩

end Go.Proofs.Ytlbegmepmeimkab

/-
  A drawn Big.
-/
namespace Go.Proofs.Ytlbegmepmeimkab
open Go.RowKit

def DrawTOut (w : World) (e : Ending) (w' : World) : Prop :=
  ∃ (G : Bool) (a : Option Addr) (c : Nat) (zs : List Int), e = .returned (.agg #[.bool G, .slice a zs.length c]) ∧ NewBig w 513 G a c zs w'

set_option maxRecDepth 100000 in
theorem drawText_any (a : Option Addr) (c : Nat) (bs : List Int) (w : World) (hn : bs.length ≤ 1048576) (hc : bs.length ≤ c) (hcm : c ≤ maxLen) (hnil : a = none → c = 0) (hr : RowAt .u8 w a bs) (hb : Dig 256 bs) :
    Calls Try.prog 15 #[.slice a bs.length c] w fun e w' => DrawTOut w e w' := by
  go_enter Try.func15, Try.ntmps15
  go_wp2_with fail
  refine (open_any a c bs _ hn hc hcm hnil (hr.later (bel0 _ _)) hb).mono ?_
  rintro e w1 ho
  have Y1 : Hid (Ry w w.heap.size (w.heap.size + 1) w1) := Ry.start ho
  obtain ⟨rfl, _, _, _⟩ := ho
  have e1 : (w.alloc (.cells #[.bool false, .slice none 0 0] 26)).heap.size = w.heap.size + 1 := by simp
  rw [e1]
  clear e1
  go_wp2_with fail
  refine (drawAny_any _ _ Y1.out.rd).mono ?_
  rintro e w4 ⟨G, a4, c4, zs, rfl, hn4, hu4, hown4, hr4, ha4⟩
  have Y4 : Hid (Ry w w.heap.size (w.heap.size + 1) w4) := Y1.out.aside ha4 hr4
  have r1 := Y4.out.r1
  have r2 := Y4.out.r2
  have r3 := Y4.out.r3
  have KEY : Hid (NewBig w 513 G a4 c4 zs ((w4.setCell ⟨w.heap.size, 0, none⟩ (.bool G)).setCell ⟨w.heap.size, 1, none⟩ (.slice a4 zs.length c4))) := Y1.out.out ha4 hown4 hu4 hn4
  clear hown4 hr4 ha4 hu4
  go_wp2
  refine bodyPost_ret (v := .agg #[.bool G, .slice a4 zs.length c4]) (by simp [results, Try.results15, go_sem, r1, r2]) rfl ?_
  exact ⟨G, a4, c4, zs, rfl, KEY.out⟩

end Go.Proofs.Ytlbegmepmeimkab

/-
  The model's BigAdd.
-/
namespace Go.Proofs.Ytlbegmepmeimkab
open Go.RowKit

set_option maxHeartbeats 1000000 in
theorem spAdd_bad1 (g g' : Bool) (a a' : Option Addr) (c c' : Nat) (zs ys : List Int) (x : Int) (w : World) (hn : zs.length ≤ 1048576) (hz : RowAt .u32 w a zs) (v1 : validB g zs = false) :
    Calls Try.prog 31 #[.agg #[.bool g, .slice a zs.length c], .agg #[.bool g', .slice a' ys.length c']] w fun e w' => OutS w false x e w' := by
  go_enter Try.func31, Try.ntmps31
  go_wp2_with fail
  refine (validS_any g a c zs _ (by unfold maxLen; omega) (hz.later (bel3 _ _ _ _))).mono ?_
  rintro e w1 ⟨rfl, hb1⟩
  rw [v1]
  have F1 : Hid (AddF w g g' (.slice a zs.length c) (.slice a' ys.length c') (.slice none 0 0) w1) := (AddF.start w g g' _ _ _ _ _ _).later hb1
  clear hb1
  have r1 := F1.out.r1
  have r2 := F1.out.r2
  have r3 := F1.out.r3
  go_wp2
  refine bodyPost_ret (v := .tuple #[.agg #[.bool false, .slice none 0 0], .int .i64 1]) (by simp [results, Try.results31, go_sem, r1, r2]) rfl ?_
  refine ⟨false, [], 1, none, 0, rfl, .inl ⟨rfl, rfl, rfl, rfl⟩, .inl rfl, .inl rfl, ?_⟩
  exact (F1.out.bel.setCell (by simp; omega) _).setCell (by simp; omega) _

set_option maxHeartbeats 1000000 in
theorem spAdd_bad2 (g g' : Bool) (a a' : Option Addr) (c c' : Nat) (zs ys : List Int) (x : Int) (w : World) (hn : zs.length ≤ 1048576) (hn' : ys.length ≤ 1048576) (hz : RowAt .u32 w a zs) (hy : RowAt .u32 w a' ys) (v1 : validB g zs = true) (v2 : validB g' ys = false) :
    Calls Try.prog 31 #[.agg #[.bool g, .slice a zs.length c], .agg #[.bool g', .slice a' ys.length c']] w fun e w' => OutS w false x e w' := by
  go_enter Try.func31, Try.ntmps31
  go_wp2_with fail
  refine (validS_any g a c zs _ (by unfold maxLen; omega) (hz.later (bel3 _ _ _ _))).mono ?_
  rintro e w1 ⟨rfl, hb1⟩
  rw [v1]
  have F0 : Hid (AddF w g g' (.slice a zs.length c) (.slice a' ys.length c') (.slice none 0 0) w1) := (AddF.start w g g' _ _ _ _ _ _).later hb1
  have s0 := F0.out.s.1
  have s1 := F0.out.s.2.1
  have s2 := F0.out.s.2.2.1
  have s3 := F0.out.s.2.2.2.1
  clear hb1
  go_wp2_with fail
  refine (validS_any g' a' c' ys _ (by unfold maxLen; omega) (hy.later F0.out.bel)).mono ?_
  rintro e w2 ⟨rfl, hb2⟩
  rw [v2]
  have F1 : Hid (AddF w g g' (.slice a zs.length c) (.slice a' ys.length c') (.slice none 0 0) w2) := F0.out.later hb2
  clear hb2 s0 s1 s2 s3 F0
  have r1 := F1.out.r1
  have r2 := F1.out.r2
  have r3 := F1.out.r3
  go_wp2
  refine bodyPost_ret (v := .tuple #[.agg #[.bool false, .slice none 0 0], .int .i64 1]) (by simp [results, Try.results31, go_sem, r1, r2]) rfl ?_
  refine ⟨false, [], 1, none, 0, rfl, .inl ⟨rfl, rfl, rfl, rfl⟩, .inl rfl, .inl rfl, ?_⟩
  exact (F1.out.bel.setCell (by simp; omega) _).setCell (by simp; omega) _

set_option maxHeartbeats 4000000 in
theorem spAdd_ok (g g' : Bool) (a a' : Option Addr) (c c' : Nat) (zs ys : List Int) (x y : Int) (w : World) (hn : zs.length ≤ 512) (hn' : ys.length ≤ 512) (hz : RowAt .u32 w a zs) (hy : RowAt .u32 w a' ys) (h : B1 g zs x) (h' : B1 g' ys y) (v1 : validB g zs = true) (v2 : validB g' ys = true) :
    Calls Try.prog 31 #[.agg #[.bool g, .slice a zs.length c], .agg #[.bool g', .slice a' ys.length c']] w fun e w' => OutS w true (x + y) e w' := by
  have hu := h.can.1
  have hu' := h'.can.1
  have HX : Hid (x = sg g (val 4294967296 zs)) := h.num
  have HY : Hid (y = sg g' (val 4294967296 ys)) := h'.num
  go_enter Try.func31, Try.ntmps31
  go_wp2_with fail
  refine (validS_any g a c zs _ (by unfold maxLen; omega) (hz.later (bel3 _ _ _ _))).mono ?_
  rintro e w1 ⟨rfl, hb1⟩
  rw [v1]
  have F0 : Hid (AddF w g g' (.slice a zs.length c) (.slice a' ys.length c') (.slice none 0 0) w1) := (AddF.start w g g' _ _ _ _ _ _).later hb1
  have s0 := F0.out.s.1
  have s1 := F0.out.s.2.1
  have s2 := F0.out.s.2.2.1
  have s3 := F0.out.s.2.2.2.1
  clear hb1
  go_wp2_with fail
  refine (validS_any g' a' c' ys _ (by unfold maxLen; omega) (hy.later F0.out.bel)).mono ?_
  rintro e W0 ⟨rfl, hb2⟩
  rw [v2]
  have F : Hid (AddF w g g' (.slice a zs.length c) (.slice a' ys.length c') (.slice none 0 0) W0) := F0.out.later hb2
  clear hb2 s0 s1 s2 s3 F0 v1 v2
  go_wp2
  go_region_held3 (fun w' => w'.cell? ⟨w.heap.size, 0, none⟩ = some (.bool g) ∧ w'.cell? ⟨w.heap.size, 1, none⟩ = some (.slice a zs.length c) ∧ w'.cell? ⟨w.heap.size + 1, 0, none⟩ = some (.bool g') ∧ w'.cell? ⟨w.heap.size + 1, 1, none⟩ = some (.slice a' ys.length c') ∧ Below (w.heap.size + 1 + 1) W0 w')
    (first | exact addS_of F.out.s (Below.refl _ _).drew | exact addS_of F.out.s (by assumption) | exact addS_of F.out.s (Below.setCell (Below.setCell (by assumption) (by simp) _) (by simp) _))
    (first
      | (go_at_call_of 38 a; refine (of_any g a c zs _ (by omega) (hz.later ?_) hu).mono ?_; (first | exact F.out.bel.drew | exact F.out.bel.trans (Below.mono (by assumption) F.out.bel.size)); rintro e w2 ⟨g1, a1, c1, ds, rfl, hl1, hL1, hb1⟩; rw [← HX.out] at hL1; have hB : Below W0.heap.size W0 w2 := (by first | exact (Below.refl _ _).drew.trans hb1 | exact Below.trans (by assumption) (Below.mono hb1 (Below.size (by assumption)))); have hBl : Below (w.heap.size + 1 + 1) W0 w2 := hB.mono (by have := F.out.le; omega); have K1 := fun {g a c ds x} (h : L1 _ g a c ds x) => h.later hb1)
      | (go_at_call_of 38 a'; refine (of_any g' a' c' ys _ (by omega) (hy.later ?_) hu').mono ?_; (first | exact F.out.bel.drew | exact F.out.bel.trans (Below.mono (by assumption) F.out.bel.size)); rintro e w3 ⟨g2, a2, c2, es, rfl, hl2, hL2, hb2⟩; rw [← HY.out] at hL2; have hB' : Below W0.heap.size W0 w3 := (by first | exact (Below.refl _ _).drew.trans hb2 | exact Below.trans (by assumption) (Below.mono hb2 (Below.size (by assumption)))); have hBl' : Below (w.heap.size + 1 + 1) W0 w3 := hB'.mono (by have := F.out.le; omega); have K2 := fun {g a c ds x} (h : L1 _ g a c ds x) => h.later hb2)
      | (go_at_call 56; refine (add_any g1 g2 a1 a2 c1 c2 ds es x y _ (by omega) (by omega) ?_ ?_).mono ?_; (first | exact hL1 | exact K2 hL1); (first | exact hL2 | exact K1 hL2); rintro e w4 ⟨g4, a4, c4, fs, rfl, hl4, hL4, _, hb4⟩; have hB4 : Below W0.heap.size W0 w4 := (by first | exact hB.trans (hb4.mono hB.size) | exact hB'.trans (hb4.mono hB'.size)); have hBl4 : Below (w.heap.size + 1 + 1) W0 w4 := hB4.mono (by have := F.out.le; omega))
      | (go_at_call 36; refine (big_any g4 a4 c4 fs _ (by omega) hL4.sl.row hL4.can.1).mono ?_; rintro e w5 ⟨a5, c5, rfl, hr5, hf5, hb5⟩; have hB5 : Below W0.heap.size W0 w5 := hB4.trans (hb5.mono hB4.size); have hBl5 : Below (w.heap.size + 1 + 1) W0 w5 := hB5.mono (by have := F.out.le; omega); have F5 : Hid (AddF w g g' (.slice a zs.length c) (.slice a' ys.length c') (.slice none 0 0) w5) := F.out.later hB5; have r1 := F5.out.r1; have r2 := F5.out.r2; have r3 := F5.out.r3; have HRes := res_big hL4; have HF5 : Far W0.heap.size a5 (bigOut g4 fs).2.1 := Far.down hf5 hB4.size))
  all_goals
    have hE : Hid (Res true (x + y) (bigOut g4 fs).1 (bigOut g4 fs).2.1 (bigOut g4 fs).2.2) := HRes
    have hF : Hid (Far W0.heap.size a5 (bigOut g4 fs).2.1) := HF5
    have hR : Hid (RowAt .u32 w5 a5 (bigOut g4 fs).2.1) := hr5
    clear HRes HF5 hr5 hf5 hB hB' hB4 hB5 hBl hBl' hBl4 hBl5 K1 K2 hL1 hL2 hL4 hb1 hb2 hb4 hb5
    generalize (bigOut g4 fs).1 = G at *
    generalize (bigOut g4 fs).2.1 = Z at *
    generalize (bigOut g4 fs).2.2 = K at *
    go_wp2
    refine bodyPost_ret (v := .tuple #[.agg #[.bool G, .slice a5 Z.length c5], .int .i64 K]) (by simp [results, Try.results31, go_sem, r1, r2]) rfl ?_
    have hle := F.out.le
    refine ⟨G, Z, K, a5, c5, rfl, hE.out, ?_, hF.out.down (by omega), ?_⟩
    · exact (hR.out.setAway (hF.out.away (by simp; omega)) _).setAway (hF.out.away (by simp; omega)) _
    · exact (F5.out.bel.setCell (by simp; omega) _).setCell (by simp; omega) _

theorem spAdd_any (g g' : Bool) (a a' : Option Addr) (c c' : Nat) (zs ys : List Int) (w : World) (hn : zs.length ≤ 1048576) (hn' : ys.length ≤ 1048576) (hz : RowAt .u32 w a zs) (hy : RowAt .u32 w a' ys) (hu : U32 zs) (hu' : U32 ys) :
    Calls Try.prog 31 #[.agg #[.bool g, .slice a zs.length c], .agg #[.bool g', .slice a' ys.length c']] w fun e w' => OutS w (validB g zs && validB g' ys) (sg g (val 4294967296 zs) + sg g' (val 4294967296 ys)) e w' := by
  cases v1 : validB g zs
  · exact spAdd_bad1 g g' a a' c c' zs ys _ w hn hz v1
  · cases v2 : validB g' ys
    · exact spAdd_bad2 g g' a a' c c' zs ys _ w hn hn' hz hy v1 v2
    · exact spAdd_ok g g' a a' c c' zs ys _ _ w (valid_canon hu v1).2.1 (valid_canon hu' v2).2.1 hz hy (B1.of_valid hu v1) (B1.of_valid hu' v2) v1 v2

end Go.Proofs.Ytlbegmepmeimkab
