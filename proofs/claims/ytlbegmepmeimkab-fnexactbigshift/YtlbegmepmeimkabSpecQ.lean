/-
  The model's BigShift.
-/
import Derived.Test.YtlbegmepmeimkabSpecO
import Derived.Test.YtlbegmepmeimkabSpecI
import Derived.Test.YtlbegmepmeimkabSpecS
import Derived.Test.YtlbegmepmeimkabNumW
namespace Go.Proofs.Ytlbegmepmeimkab
open Go.RowKit

set_option maxHeartbeats 1000000 in
theorem spShift_bad (g : Bool) (a : Option Addr) (c : Nat) (zs : List Int) (n x : Int) (w : World) (hn : zs.length ≤ 1048576) (hz : RowAt .u32 w a zs) (v1 : validB g zs = false) :
    Calls Try.prog 24 #[.agg #[.bool g, .slice a zs.length c], .int .i64 n] w fun e w' => OutS w false x e w' := by
  go_enter Try.func24, Try.ntmps24
  go_wp2_with fail
  refine (validS_any g a c zs _ (by unfold maxLen; omega) (hz.later (bel2 _ _ _))).mono ?_
  rintro e w1 ⟨rfl, hb1⟩
  rw [v1]
  have F1 : Hid (Bx1 w (.bool g) (.slice a zs.length c) w1) := (Bx1.start w _ _ _ _).later hb1
  clear hb1
  have r1 := F1.out.r1
  have r2 := F1.out.r2
  have r3 := F1.out.r3
  go_wp2
  refine bodyPost_ret (v := .tuple #[.agg #[.bool false, .slice none 0 0], .int .i64 1]) (by simp [results, Try.results24, go_sem, r1, r2]) rfl ?_
  refine ⟨false, [], 1, none, 0, rfl, .inl ⟨rfl, rfl, rfl, rfl⟩, .inl rfl, .inl rfl, ?_⟩
  exact (F1.out.bel.setCell (by simp) _).setCell (by simp) _

theorem sg_nil {w : World} {g : Bool} {a : Option Addr} {c : Nat} {x : Int} (h : L1 w g a c [] x) : x = 0 := by rw [h.num]; simp [sg, val]

set_option maxHeartbeats 4000000 in
theorem spShift_up (g : Bool) (a : Option Addr) (c : Nat) (zs : List Int) (x n : Int) (w : World) (hn : zs.length ≤ 512) (hz : RowAt .u32 w a zs) (h : B1 g zs x) (v1 : validB g zs = true) (n0 : 0 ≤ n) :
    Calls Try.prog 24 #[.agg #[.bool g, .slice a zs.length c], .int .i64 n] w fun e w' => OutS w true (shN x n) e w' := by
  have hu := h.can.1
  have HX : Hid (x = sg g (val 4294967296 zs)) := h.num
  have HB1 : Hid (B1 g zs x) := h
  go_enter Try.func24, Try.ntmps24
  go_wp2_with fail
  refine (validS_any g a c zs _ (by unfold maxLen; omega) (hz.later (bel2 _ _ _))).mono ?_
  rintro e w1 ⟨rfl, hb1⟩
  rw [v1]
  have F1 : Hid (Bx1 w (.bool g) (.slice a zs.length c) w1) := (Bx1.start w _ _ _ _).later hb1
  clear hb1
  have s0 := F1.out.q0
  have s1 := F1.out.q1
  go_wp2_with fail
  refine (of_any g a c zs _ (by omega) (hz.later F1.out.bel) hu).mono ?_
  rintro e w2 ⟨g1, a1, c1, ds, rfl, hl1, hL1, hb2⟩
  rw [← HX.out] at hL1
  have F2 : Hid (Bx1 w (.bool g) (.slice a zs.length c) w2) := F1.out.later hb2
  have HL1 : Hid (L1 w2 g1 a1 c1 ds x) := hL1
  have zz : w.heap.size + 1 < w2.heap.size := F2.out.le
  clear hb2 s0 s1 F1 hL1
  by_cases hd : ds.length = 0
  · have hde : ds = [] := List.length_eq_zero_iff.1 hd
    subst hde
    have hx0 : x = 0 := sg_nil HL1.out
    have HR : Hid (Res true (shN x n) false [] 0) := by unfold Hid; rw [hx0]; exact res_zero
    have p1 := F2.out.r1
    have p2 := F2.out.r2
    have p3 := F2.out.r3
    clear hx0
    go_wp2
    all_goals
      refine bodyPost_ret (v := .tuple #[.agg #[.bool false, .slice none 0 0], .int .i64 0]) (by simp [results, Try.results24, go_sem, p1, p2, zz]) rfl ?_
      refine ⟨false, [], 0, none, 0, rfl, HR.out, .inl rfl, .inl rfl, ?_⟩
      exact ((F2.out.bel.setCell (by simp) _).setCell (by simp) _).alloc (by simp; omega) _
  · have hd1 : ((ds.length : Int) == 0) = false := by rw [beq_eq_false_iff_ne]; omega
    have hd2 : (0 : Int) < ds.length := by omega
    by_cases hf : 16384 < n
    · have HR : Hid (Res true (shN x n) false [] 2) := by
        refine res_far HB1.out ?_ hf
        intro e
        have h1 := HB1.out.num
        have h2 := HL1.out.num
        rw [e] at h1
        have h3 := val_pos (B := 65536) (by decide) HL1.out.can (fun e => hd (by rw [e]; rfl))
        cases g <;> cases g1 <;> simp [sg, val] at h1 h2 <;> omega
      have p1 := F2.out.r1
      have p2 := F2.out.r2
      have p3 := F2.out.r3
      go_wp2
      refine bodyPost_ret (v := .tuple #[.agg #[.bool false, .slice none 0 0], .int .i64 2]) (by simp [results, Try.results24, go_sem, p1, p2, zz]) rfl ?_
      refine ⟨false, [], 2, none, 0, rfl, HR.out, .inl rfl, .inl rfl, ?_⟩
      exact ((F2.out.bel.setCell (by simp) _).setCell (by simp) _).alloc (by simp; omega) _
    · have HS : Hid (shN x n = x * 2 ^ n.toNat) := shN_up n0 (by omega)
      go_wp2_with fail
      refine (up_any g1 a1 c1 ds x n _ (by omega) n0 (by omega) (HL1.out.later (bel0 _ _))).mono ?_
      rintro e w3 ⟨g3, a3, c3, fs, rfl, hl3, hL3, hF3, hb3⟩
      have F3 : Hid (Bx1 w (.bool g) (.slice a zs.length c) w3) := (F2.out.later (bel0 _ _)).later hb3
      have HL3 : Hid (L1 w3 g3 a3 c3 fs (x * 2 ^ n.toNat)) := hL3
      clear hL3 hF3 hb3
      go_wp2_with fail
      refine (big_any g3 a3 c3 fs _ (by omega) HL3.out.sl.row HL3.out.can.1).mono ?_
      rintro e w5 ⟨a5, c5, rfl, hr5, hf5, hb5⟩
      have F5 : Hid (Bx1 w (.bool g) (.slice a zs.length c) w5) := F3.out.later hb5
      have p1 := F5.out.r1
      have p2 := F5.out.r2
      have p3 := F5.out.r3
      have hE : Hid (Res true (shN x n) (bigOut g3 fs).1 (bigOut g3 fs).2.1 (bigOut g3 fs).2.2) := by unfold Hid; rw [HS.out]; exact res_big HL3.out
      have hF : Hid (Far (w.heap.size + 1 + 1) a5 (bigOut g3 fs).2.1) := hf5.down F3.out.le
      have hR : Hid (RowAt .u32 w5 a5 (bigOut g3 fs).2.1) := hr5
      clear hr5 hf5 hb5 F3 F2 HL3 HL1
      generalize (bigOut g3 fs).1 = G at *
      generalize (bigOut g3 fs).2.1 = Z at *
      generalize (bigOut g3 fs).2.2 = K at *
      go_wp2
      refine bodyPost_ret (v := .tuple #[.agg #[.bool G, .slice a5 Z.length c5], .int .i64 K]) (by simp [results, Try.results24, go_sem, p1, p2]) rfl ?_
      refine ⟨G, Z, K, a5, c5, rfl, hE.out, ?_, hF.out.down (by omega), ?_⟩
      · exact (hR.out.setAway (hF.out.away (by simp)) _).setAway (hF.out.away (by simp)) _
      · exact (F5.out.bel.setCell (by simp) _).setCell (by simp) _

end Go.Proofs.Ytlbegmepmeimkab
