/-
  The program's BigSub.
-/
import Derived.Test.YtlbegmepmeimkabRes
import Derived.Test.YtlbegmepmeimkabImplAddImplNgImplN
namespace Go.Proofs.Ytlbegmepmeimkab
open Go.RowKit

set_option maxHeartbeats 1000000 in
theorem imSub_bad1 (g g' : Bool) (a a' : Option Addr) (c c' : Nat) (zs ys : List Int) (x : Int) (w : World) (hn : zs.length ≤ 1048576) (hz : RowAt .u32 w a zs) (v1 : validB g zs = false) :
    Calls Try.prog 11 #[.agg #[.bool g, .slice a zs.length c], .agg #[.bool g', .slice a' ys.length c']] w fun e w' => OutI w false x e w' := by
  go_enter Try.func11, Try.ntmps11
  go_wp2_with fail
  refine (validI_any g a c zs _ (by unfold maxLen; omega) (hz.later (bel3 _ _ _ _))).mono ?_
  rintro e w1 ⟨rfl, hb1⟩
  rw [v1]
  have F1 : Hid (AddF w g g' (.slice a zs.length c) (.slice a' ys.length c') (.slice none 0 0) w1) := (AddF.start w g g' _ _ _ _ _ _).later hb1
  clear hb1
  have r1 := F1.out.r1
  have r2 := F1.out.r2
  have r3 := F1.out.r3
  go_wp2
  refine bodyPost_ret (v := .tuple #[.agg #[.bool false, .slice none 0 0], .int .i64 1]) (by simp [results, Try.results11, go_sem, r1, r2]) rfl ?_
  refine ⟨false, [], 1, none, 0, rfl, .inl ⟨rfl, rfl, rfl, rfl⟩, .inl rfl, ?_⟩
  exact (F1.out.bel.setCell (by simp; omega) _).setCell (by simp; omega) _

set_option maxHeartbeats 1000000 in
theorem imSub_bad2 (g g' : Bool) (a a' : Option Addr) (c c' : Nat) (zs ys : List Int) (x : Int) (w : World) (hn : zs.length ≤ 1048576) (hn' : ys.length ≤ 1048576) (hz : RowAt .u32 w a zs) (hy : RowAt .u32 w a' ys) (v1 : validB g zs = true) (v2 : validB g' ys = false) :
    Calls Try.prog 11 #[.agg #[.bool g, .slice a zs.length c], .agg #[.bool g', .slice a' ys.length c']] w fun e w' => OutI w false x e w' := by
  go_enter Try.func11, Try.ntmps11
  go_wp2_with fail
  refine (validI_any g a c zs _ (by unfold maxLen; omega) (hz.later (bel3 _ _ _ _))).mono ?_
  rintro e w1 ⟨rfl, hb1⟩
  rw [v1]
  have F0 : Hid (AddF w g g' (.slice a zs.length c) (.slice a' ys.length c') (.slice none 0 0) w1) := (AddF.start w g g' _ _ _ _ _ _).later hb1
  have s0 := F0.out.s.1
  have s1 := F0.out.s.2.1
  have s2 := F0.out.s.2.2.1
  have s3 := F0.out.s.2.2.2.1
  clear hb1
  go_wp2_with fail
  refine (validI_any g' a' c' ys _ (by unfold maxLen; omega) (hy.later F0.out.bel)).mono ?_
  rintro e w2 ⟨rfl, hb2⟩
  rw [v2]
  have F1 : Hid (AddF w g g' (.slice a zs.length c) (.slice a' ys.length c') (.slice none 0 0) w2) := F0.out.later hb2
  clear hb2 s0 s1 s2 s3 F0
  have r1 := F1.out.r1
  have r2 := F1.out.r2
  have r3 := F1.out.r3
  go_wp2
  refine bodyPost_ret (v := .tuple #[.agg #[.bool false, .slice none 0 0], .int .i64 1]) (by simp [results, Try.results11, go_sem, r1, r2]) rfl ?_
  refine ⟨false, [], 1, none, 0, rfl, .inl ⟨rfl, rfl, rfl, rfl⟩, .inl rfl, ?_⟩
  exact (F1.out.bel.setCell (by simp; omega) _).setCell (by simp; omega) _

set_option maxHeartbeats 4000000 in
theorem imSub_ok (g g' : Bool) (a a' : Option Addr) (c c' : Nat) (zs ys : List Int) (x y : Int) (w : World) (hn : zs.length ≤ 512) (hn' : ys.length ≤ 512) (hz : RowAt .u32 w a zs) (hy : RowAt .u32 w a' ys) (h : B1 g zs x) (h' : B1 g' ys y) (v1 : validB g zs = true) (v2 : validB g' ys = true) :
    Calls Try.prog 11 #[.agg #[.bool g, .slice a zs.length c], .agg #[.bool g', .slice a' ys.length c']] w fun e w' => OutI w true (x - y) e w' := by
  have hu := h.can.1
  have hu' := h'.can.1
  have HX : Hid (x = sg g (val 4294967296 zs)) := h.num
  have HY : Hid (y = sg g' (val 4294967296 ys)) := h'.num
  go_enter Try.func11, Try.ntmps11
  go_wp2_with fail
  refine (validI_any g a c zs _ (by unfold maxLen; omega) (hz.later (bel3 _ _ _ _))).mono ?_
  rintro e w1 ⟨rfl, hb1⟩
  rw [v1]
  have F0 : Hid (AddF w g g' (.slice a zs.length c) (.slice a' ys.length c') (.slice none 0 0) w1) := (AddF.start w g g' _ _ _ _ _ _).later hb1
  have s0 := F0.out.s.1
  have s1 := F0.out.s.2.1
  have s2 := F0.out.s.2.2.1
  have s3 := F0.out.s.2.2.2.1
  clear hb1
  go_wp2_with fail
  refine (validI_any g' a' c' ys _ (by unfold maxLen; omega) (hy.later F0.out.bel)).mono ?_
  rintro e W0 ⟨rfl, hb2⟩
  rw [v2]
  have F : Hid (AddF w g g' (.slice a zs.length c) (.slice a' ys.length c') (.slice none 0 0) W0) := F0.out.later hb2
  clear hb2 s0 s1 s2 s3 F0 v1 v2
  have s0 := F.out.s.1
  have s1 := F.out.s.2.1
  have s2 := F.out.s.2.2.1
  have s3 := F.out.s.2.2.2.1
  go_wp2_with fail
  refine (minusB_any g g' a a' c c' zs ys x y _ (by omega) (by omega) (hz.later F.out.bel) (hy.later F.out.bel) h h').mono ?_
  rintro e w4 ⟨g4, a4, c4, fs, rfl, hB1, hl4, hr4, hb4⟩
  have hB4 : Below W0.heap.size W0 w4 := hb4
  clear s0 s1 s2 s3
  go_wp2_with fail
  refine (within_any g4 a4 c4 fs _ W0.heap.size (by omega) hr4).mono ?_
  rintro e w5 ⟨a5, c5, rfl, hr5, hb5⟩
  have hB5 : Below W0.heap.size W0 w5 := hB4.trans (hb5.mono hB4.size)
  have hE : Hid (Res true (x - y) (limOut g4 fs).1 (limOut g4 fs).2.1 (limOut g4 fs).2.2) := res_lim hB1
  have hR : Hid (RowNew .u32 w5 W0.heap.size a5 (limOut g4 fs).2.1) := hr5
  have F5 : Hid (AddF w g g' (.slice a zs.length c) (.slice a' ys.length c') (.slice none 0 0) w5) := F.out.later hB5
  have r1 := F5.out.r1
  have r2 := F5.out.r2
  have r3 := F5.out.r3
  clear hr5 hB1 hB5 hB4 hb4 hb5 hr4
  generalize (limOut g4 fs).1 = G at *
  generalize (limOut g4 fs).2.1 = Z at *
  generalize (limOut g4 fs).2.2 = K at *
  go_wp2
  refine bodyPost_ret (v := .tuple #[.agg #[.bool G, .slice a5 Z.length c5], .int .i64 K]) (by simp [results, Try.results11, go_sem, r1, r2]) rfl ?_
  have hle := F.out.le
  refine ⟨G, Z, K, a5, c5, rfl, hE.out, ?_, ?_⟩
  · exact ((hR.out.setLow (by simp; omega) _).setLow (by simp; omega) _).down (by omega)
  · exact (F5.out.bel.setCell (by simp; omega) _).setCell (by simp; omega) _

theorem imSub_any (g g' : Bool) (a a' : Option Addr) (c c' : Nat) (zs ys : List Int) (w : World) (hn : zs.length ≤ 1048576) (hn' : ys.length ≤ 1048576) (hz : RowAt .u32 w a zs) (hy : RowAt .u32 w a' ys) (hu : U32 zs) (hu' : U32 ys) :
    Calls Try.prog 11 #[.agg #[.bool g, .slice a zs.length c], .agg #[.bool g', .slice a' ys.length c']] w fun e w' => OutI w (validB g zs && validB g' ys) (sg g (val 4294967296 zs) - sg g' (val 4294967296 ys)) e w' := by
  cases v1 : validB g zs
  · exact imSub_bad1 g g' a a' c c' zs ys _ w hn hz v1
  · cases v2 : validB g' ys
    · exact imSub_bad2 g g' a a' c c' zs ys _ w hn hn' hz hy v1 v2
    · exact imSub_ok g g' a a' c c' zs ys _ _ w (valid_canon hu v1).2.1 (valid_canon hu' v2).2.1 hz hy (B1.of_valid hu v1) (B1.of_valid hu' v2) v1 v2

end Go.Proofs.Ytlbegmepmeimkab
