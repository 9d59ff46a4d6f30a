/-
  The model's BigSub.
-/
import Derived.Test.YtlbegmepmeimkabRes
import Derived.Test.YtlbegmepmeimkabSpecMulSpecFnSpecI
import Derived.Test.YtlbegmepmeimkabImplB
import Derived.Test.YtlbegmepmeimkabSpecD
namespace Go.Proofs.Ytlbegmepmeimkab
open Go.RowKit

set_option maxHeartbeats 1000000 in
theorem spSub_bad1 (g g' : Bool) (a a' : Option Addr) (c c' : Nat) (zs ys : List Int) (x : Int) (w : World) (hn : zs.length ≤ 1048576) (hz : RowAt .u32 w a zs) (v1 : validB g zs = false) :
    Calls Try.prog 9 #[.agg #[.bool g, .slice a zs.length c], .agg #[.bool g', .slice a' ys.length c']] w fun e w' => OutS w false x e w' := by
  go_enter Try.func9, Try.ntmps9
  go_wp2_with fail
  refine (validS_any g a c zs _ (by unfold maxLen; omega) (hz.later (bel3 _ _ _ _))).mono ?_
  rintro e w1 ⟨rfl, hb1⟩
  rw [v1]
  have F1 : Hid (AddF w g g' (.slice a zs.length c) (.slice a' ys.length c') (.slice none 0 0) w1) := (AddF.start w g g' _ _ _ _ _ _).later hb1
  clear hb1
  have r1 := F1.out.r1
  have r2 := F1.out.r2
  have r3 := F1.out.r3
  go_wp2
  refine bodyPost_ret (v := .tuple #[.agg #[.bool false, .slice none 0 0], .int .i64 1]) (by simp [results, Try.results9, go_sem, r1, r2]) rfl ?_
  refine ⟨false, [], 1, none, 0, rfl, .inl ⟨rfl, rfl, rfl, rfl⟩, .inl rfl, .inl rfl, ?_⟩
  exact (F1.out.bel.setCell (by simp; omega) _).setCell (by simp; omega) _

set_option maxHeartbeats 1000000 in
theorem spSub_bad2 (g g' : Bool) (a a' : Option Addr) (c c' : Nat) (zs ys : List Int) (x : Int) (w : World) (hn : zs.length ≤ 1048576) (hn' : ys.length ≤ 1048576) (hz : RowAt .u32 w a zs) (hy : RowAt .u32 w a' ys) (v1 : validB g zs = true) (v2 : validB g' ys = false) :
    Calls Try.prog 9 #[.agg #[.bool g, .slice a zs.length c], .agg #[.bool g', .slice a' ys.length c']] w fun e w' => OutS w false x e w' := by
  go_enter Try.func9, Try.ntmps9
  go_wp2_with fail
  refine (validS_any g a c zs _ (by unfold maxLen; omega) (hz.later (bel3 _ _ _ _))).mono ?_
  rintro e w1 ⟨rfl, hb1⟩
  rw [v1]
  have F0 : Hid (AddF w g g' (.slice a zs.length c) (.slice a' ys.length c') (.slice none 0 0) w1) := (AddF.start w g g' _ _ _ _ _ _).later hb1
  have s0 := F0.out.s.1
  have s1 := F0.out.s.2.1
  have s2 := F0.out.s.2.2.1
  have s3 := F0.out.s.2.2.2.1
  clear hb1
  go_wp2_with fail
  refine (validS_any g' a' c' ys _ (by unfold maxLen; omega) (hy.later F0.out.bel)).mono ?_
  rintro e w2 ⟨rfl, hb2⟩
  rw [v2]
  have F1 : Hid (AddF w g g' (.slice a zs.length c) (.slice a' ys.length c') (.slice none 0 0) w2) := F0.out.later hb2
  clear hb2 s0 s1 s2 s3 F0
  have r1 := F1.out.r1
  have r2 := F1.out.r2
  have r3 := F1.out.r3
  go_wp2
  refine bodyPost_ret (v := .tuple #[.agg #[.bool false, .slice none 0 0], .int .i64 1]) (by simp [results, Try.results9, go_sem, r1, r2]) rfl ?_
  refine ⟨false, [], 1, none, 0, rfl, .inl ⟨rfl, rfl, rfl, rfl⟩, .inl rfl, .inl rfl, ?_⟩
  exact (F1.out.bel.setCell (by simp; omega) _).setCell (by simp; omega) _

set_option maxHeartbeats 4000000 in
theorem spSub_ok (g g' : Bool) (a a' : Option Addr) (c c' : Nat) (zs ys : List Int) (x y : Int) (w : World) (hn : zs.length ≤ 512) (hn' : ys.length ≤ 512) (hz : RowAt .u32 w a zs) (hy : RowAt .u32 w a' ys) (h : B1 g zs x) (h' : B1 g' ys y) (v1 : validB g zs = true) (v2 : validB g' ys = true) :
    Calls Try.prog 9 #[.agg #[.bool g, .slice a zs.length c], .agg #[.bool g', .slice a' ys.length c']] w fun e w' => OutS w true (x - y) e w' := by
  have hu := h.can.1
  have hu' := h'.can.1
  have HX : Hid (x = sg g (val 4294967296 zs)) := h.num
  have HY : Hid (y = sg g' (val 4294967296 ys)) := h'.num
  go_enter Try.func9, Try.ntmps9
  go_wp2_with fail
  refine (validS_any g a c zs _ (by unfold maxLen; omega) (hz.later (bel3 _ _ _ _))).mono ?_
  rintro e w1 ⟨rfl, hb1⟩
  rw [v1]
  have F0 : Hid (AddF w g g' (.slice a zs.length c) (.slice a' ys.length c') (.slice none 0 0) w1) := (AddF.start w g g' _ _ _ _ _ _).later hb1
  have s0 := F0.out.s.1
  have s1 := F0.out.s.2.1
  have s2 := F0.out.s.2.2.1
  have s3 := F0.out.s.2.2.2.1
  clear hb1
  go_wp2_with fail
  refine (validS_any g' a' c' ys _ (by unfold maxLen; omega) (hy.later F0.out.bel)).mono ?_
  rintro e W0 ⟨rfl, hb2⟩
  rw [v2]
  have F : Hid (AddF w g g' (.slice a zs.length c) (.slice a' ys.length c') (.slice none 0 0) W0) := F0.out.later hb2
  clear hb2 s0 s1 s2 s3 F0 v1 v2
  go_wp2
  go_region_held3 (fun w' => w'.cell? ⟨w.heap.size, 0, none⟩ = some (.bool g) ∧ w'.cell? ⟨w.heap.size, 1, none⟩ = some (.slice a zs.length c) ∧ w'.cell? ⟨w.heap.size + 1, 0, none⟩ = some (.bool g') ∧ w'.cell? ⟨w.heap.size + 1, 1, none⟩ = some (.slice a' ys.length c') ∧ Below (w.heap.size + 1 + 1) W0 w')
    (first | exact addS_of F.out.s (Below.refl _ _).drew | exact addS_of F.out.s (by assumption) | exact addS_of F.out.s (Below.setCell (Below.setCell (by assumption) (by simp) _) (by simp) _))
    (first
      | (go_at_call_of 38 a; refine (of_any g a c zs _ (by omega) (hz.later ?_) hu).mono ?_; (first | exact F.out.bel.drew | exact F.out.bel.trans (Below.mono (by assumption) F.out.bel.size)); rintro e w2 ⟨g1, a1, c1, ds, rfl, hl1, hL1, hb1⟩; rw [← HX.out] at hL1; have hB : Below W0.heap.size W0 w2 := (by first | exact (Below.refl _ _).drew.trans hb1 | exact Below.trans (by assumption) (Below.mono hb1 (Below.size (by assumption)))); have hBl : Below (w.heap.size + 1 + 1) W0 w2 := hB.mono (by have := F.out.le; omega); have K1 := fun {g a c ds x} (h : L1 _ g a c ds x) => h.later hb1)
      | (go_at_call_of 38 a'; refine (of_any g' a' c' ys _ (by omega) (hy.later ?_) hu').mono ?_; (first | exact F.out.bel.drew | exact F.out.bel.trans (Below.mono (by assumption) F.out.bel.size)); rintro e w3 ⟨g2, a2, c2, es, rfl, hl2, hL2, hb2⟩; rw [← HY.out] at hL2; have hB' : Below W0.heap.size W0 w3 := (by first | exact (Below.refl _ _).drew.trans hb2 | exact Below.trans (by assumption) (Below.mono hb2 (Below.size (by assumption)))); have hBl' : Below (w.heap.size + 1 + 1) W0 w3 := hB'.mono (by have := F.out.le; omega); have K2 := fun {g a c ds x} (h : L1 _ g a c ds x) => h.later hb2)
      | (go_at_call 37; refine (sub_any g1 g2 a1 a2 c1 c2 ds es x y _ (by omega) (by omega) ?_ ?_).mono ?_; (first | exact hL1 | exact K2 hL1); (first | exact hL2 | exact K1 hL2); rintro e w4 ⟨g4, a4, c4, fs, rfl, hl4, hL4, _, hb4⟩; have hB4 : Below W0.heap.size W0 w4 := (by first | exact hB.trans (hb4.mono hB.size) | exact hB'.trans (hb4.mono hB'.size)); have hBl4 : Below (w.heap.size + 1 + 1) W0 w4 := hB4.mono (by have := F.out.le; omega))
      | (go_at_call 36; refine (big_any g4 a4 c4 fs _ (by omega) hL4.sl.row hL4.can.1).mono ?_; rintro e w5 ⟨a5, c5, rfl, hr5, hf5, hb5⟩; have hB5 : Below W0.heap.size W0 w5 := hB4.trans (hb5.mono hB4.size); have hBl5 : Below (w.heap.size + 1 + 1) W0 w5 := hB5.mono (by have := F.out.le; omega); have F5 : Hid (AddF w g g' (.slice a zs.length c) (.slice a' ys.length c') (.slice none 0 0) w5) := F.out.later hB5; have r1 := F5.out.r1; have r2 := F5.out.r2; have r3 := F5.out.r3; have HRes := res_big hL4; have HF5 : Far W0.heap.size a5 (bigOut g4 fs).2.1 := Far.down hf5 hB4.size))
  all_goals
    have hE : Hid (Res true (x - y) (bigOut g4 fs).1 (bigOut g4 fs).2.1 (bigOut g4 fs).2.2) := HRes
    have hF : Hid (Far W0.heap.size a5 (bigOut g4 fs).2.1) := HF5
    have hR : Hid (RowAt .u32 w5 a5 (bigOut g4 fs).2.1) := hr5
    clear HRes HF5 hr5 hf5 hB hB' hB4 hB5 hBl hBl' hBl4 hBl5 K1 K2 hL1 hL2 hL4 hb1 hb2 hb4 hb5
    generalize (bigOut g4 fs).1 = G at *
    generalize (bigOut g4 fs).2.1 = Z at *
    generalize (bigOut g4 fs).2.2 = K at *
    go_wp2
    refine bodyPost_ret (v := .tuple #[.agg #[.bool G, .slice a5 Z.length c5], .int .i64 K]) (by simp [results, Try.results9, go_sem, r1, r2]) rfl ?_
    have hle := F.out.le
    refine ⟨G, Z, K, a5, c5, rfl, hE.out, ?_, hF.out.down (by omega), ?_⟩
    · exact (hR.out.setAway (hF.out.away (by simp; omega)) _).setAway (hF.out.away (by simp; omega)) _
    · exact (F5.out.bel.setCell (by simp; omega) _).setCell (by simp; omega) _

theorem spSub_any (g g' : Bool) (a a' : Option Addr) (c c' : Nat) (zs ys : List Int) (w : World) (hn : zs.length ≤ 1048576) (hn' : ys.length ≤ 1048576) (hz : RowAt .u32 w a zs) (hy : RowAt .u32 w a' ys) (hu : U32 zs) (hu' : U32 ys) :
    Calls Try.prog 9 #[.agg #[.bool g, .slice a zs.length c], .agg #[.bool g', .slice a' ys.length c']] w fun e w' => OutS w (validB g zs && validB g' ys) (sg g (val 4294967296 zs) - sg g' (val 4294967296 ys)) e w' := by
  cases v1 : validB g zs
  · exact spSub_bad1 g g' a a' c c' zs ys _ w hn hz v1
  · cases v2 : validB g' ys
    · exact spSub_bad2 g g' a a' c c' zs ys _ w hn hn' hz hy v1 v2
    · exact spSub_ok g g' a a' c c' zs ys _ _ w (valid_canon hu v1).2.1 (valid_canon hu' v2).2.1 hz hy (B1.of_valid hu v1) (B1.of_valid hu' v2) v1 v2

end Go.Proofs.Ytlbegmepmeimkab

/-
  Magnitudes that the program hands back.
-/
namespace Go.Proofs.Ytlbegmepmeimkab
open Go.RowKit

/-- A magnitude in new memory: no zero at its upper end, of the value v, of at most n limbs. -/
def MagOut (w : World) (v : Int) (n : Nat) (e : Ending) (w' : World) : Prop :=
  ∃ (a : Option Addr) (c : Nat) (fs : List Int), e = .returned (.slice a fs.length c) ∧ fs.length ≤ c ∧ c ≤ maxLen ∧ Canon 4294967296 fs ∧ val 4294967296 fs = v ∧ fs.length ≤ n ∧ RowNew .u32 w' w.heap.size a fs ∧ Below w.heap.size w w'

theorem set_mid {l1 l2 : List Int} {z d : Int} {k : Nat} (h : l1.length = k) : (l1 ++ z :: l2).set k d = l1 ++ d :: l2 := by
  subst h
  simp

theorem own_step {out : List Int} {n k : Nat} {d : Int} (h : out.length = k) (hk : k < n) : (out ++ List.replicate (n + 1 - k) 0).set k d = (out ++ [d]) ++ List.replicate (n + 1 - (k + 1)) 0 := by
  rw [show n + 1 - k = (n + 1 - (k + 1)) + 1 by omega, List.replicate_succ, set_mid h]
  simp

theorem own_last {out : List Int} {n : Nat} {d : Int} (h : out.length = n) : (out ++ List.replicate (n + 1 - n) 0).set n d = out ++ [d] := by
  rw [show n + 1 - n = 0 + 1 by omega, List.replicate_succ, set_mid h]
  simp

end Go.Proofs.Ytlbegmepmeimkab
