/-
  The model's BigShift, down.
-/
import Derived.Test.YtlbegmepmeimkabSpecFnSpecISpecSSpecQ
namespace Go.Proofs.Ytlbegmepmeimkab
open Go.RowKit

/-- The box of the quotient, behind the shift. -/
structure Qb (w : World) (T : Nat) (u v : Value) (W : World) : Prop where
  q0 : W.cell? ⟨T, 0, none⟩ = some u
  q1 : W.cell? ⟨T, 1, none⟩ = some v
  q2 : ∀ j, W.frozen? ⟨T, j, none⟩ = false
  o0 : w.heap.size + 1 < T
  lt : T < W.heap.size

theorem Qb.start {w : World} {u v : Value} {W : World} {t : TypeId} (h : w.heap.size + 1 < W.heap.size) : Qb w W.heap.size u v (W.alloc (.cells #[u, v] t)) :=
  ⟨by simp [go_sem], by simp [go_sem], by intro j; simp [go_sem], h, by simp⟩

theorem Qb.later {w : World} {T : Nat} {u v : Value} {W W' : World} (h : Qb w T u v W) (hb : Below W.heap.size W W') : Qb w T u v W' :=
  ⟨(hb.cell (p := ⟨T, 0, none⟩) h.lt).trans h.q0, (hb.cell (p := ⟨T, 1, none⟩) h.lt).trans h.q1, fun j => (hb.frozen (p := ⟨T, j, none⟩) h.lt).trans (h.q2 j), h.o0, Nat.lt_of_lt_of_le h.lt hb.size⟩

/-- The number at the end. -/
theorem down_num {g : Bool} {v x n : Int} (hx : x = sg g v) (hn : n < 0) : shN x n = if g = true ∧ lostB v (2 ^ (min (-n) 16384).toNat) = true then sg g (v / 2 ^ (min (-n) 16384).toNat) - 1 else sg g (v / 2 ^ (min (-n) 16384).toNat) := by
  rw [shN_down hn, hx]
  have hq : (0 : Int) < 2 ^ (min (-n) 16384).toNat := Int.pow_pos (by decide)
  cases g
  · simp [sg]
  · have h := neg_div v _ hq
    simp only [sg, if_true]
    rw [h]
    unfold lostB
    by_cases h0 : v % 2 ^ (min (-n) 16384).toNat = 0
    · rw [if_pos h0, if_neg (by simp [h0])]
    · rw [if_neg h0, if_pos (by simp [h0])]

set_option maxHeartbeats 8000000 in
theorem spShift_down (g : Bool) (a : Option Addr) (c : Nat) (zs : List Int) (x n : Int) (w : World) (hn : zs.length ≤ 512) (hz : RowAt .u32 w a zs) (h : B1 g zs x) (v1 : validB g zs = true) (n0 : n < 0) :
    Calls Try.prog 24 #[.agg #[.bool g, .slice a zs.length c], .int .i64 n] w fun e w' => OutS w true (shN x n) e w' := by
  have hu := h.can.1
  have HX : Hid (x = sg g (val 4294967296 zs)) := h.num
  have n0' : ¬ (0 ≤ n) := by omega
  go_enter Try.func24, Try.ntmps24
  go_wp2_with fail
  refine (validS_any g a c zs _ (by unfold maxLen; omega) (hz.later (bel2 _ _ _))).mono ?_
  rintro e w1 ⟨rfl, hb1⟩
  rw [v1]
  have F1 : Hid (Bx1 w (.bool g) (.slice a zs.length c) w1) := (Bx1.start w _ _ _ _).later hb1
  clear hb1
  have s0 := F1.out.q0
  have s1 := F1.out.q1
  go_wp2_with fail
  refine (of_any g a c zs _ (by omega) (hz.later F1.out.bel) hu).mono ?_
  rintro e w2 ⟨g1, a1, c1, ds, rfl, hl1, hL1, hb2⟩
  rw [← HX.out] at hL1
  have F2 : Hid (Bx1 w (.bool g) (.slice a zs.length c) w2) := F1.out.later hb2
  have HL1 : Hid (L1 w2 g1 a1 c1 ds x) := hL1
  have zz : w.heap.size + 1 < w2.heap.size := F2.out.le
  clear hb2 s0 s1 F1 hL1
  obtain ⟨m, hm⟩ : ∃ m, m = min (-n) 16384 := ⟨_, rfl⟩
  have hm0 : 0 ≤ m := by omega
  have hm1 : m ≤ 16384 := by omega
  have HN : Hid (shN x n = if g1 = true ∧ lostB (val 65536 ds) (2 ^ m.toNat) = true then sg g1 (val 65536 ds / 2 ^ m.toNat) - 1 else sg g1 (val 65536 ds / 2 ^ m.toNat)) := by
    unfold Hid; rw [hm]; exact down_num HL1.out.num n0
  by_cases hfar : n < -16384
  · have hme : m = 16384 := by omega
    clear hm
    subst hme
    go_wp2_with fail
    refine (down_any g1 a1 c1 ds x 16384 _ (by omega) hm0 (by omega) (HL1.out.later (bel0 _ _))).mono ?_
    rintro e w3 ⟨g3, a3, c3, fs, rfl, hl3, hL3, hF3, hb3⟩
    have F3 : Hid (Bx1 w (.bool g) (.slice a zs.length c) w3) := (F2.out.later (bel0 _ _)).later hb3
    have zz3 : w.heap.size + 1 < w3.heap.size := F3.out.le
    have zz4 : w2.heap.size < w3.heap.size := by have := hb3.size; simp at this; omega
    have x0 : w3.cell? ⟨w2.heap.size, 0, none⟩ = some (.bool g1) := by rw [(bcell hb3).1 _ _ (by simp)]; simp [go_sem]
    have HL3 : Hid (L1 w3 g3 a3 c3 fs (sg g1 (val 65536 ds / 2 ^ (16384 : Int).toNat))) := hL3
    clear hL3 hb3
    obtain ⟨lo, hlo⟩ : ∃ lo, lo = lostB (val 65536 ds) (2 ^ (16384 : Int).toNat) := ⟨_, rfl⟩
    rw [← hlo] at HN ⊢
    clear hlo
    by_cases hneg : g1 = true ∧ lo = true
    · obtain ⟨rfl, rfl⟩ := hneg
      have HN2 : Hid (shN x n = sg true (val 65536 ds / 2 ^ (16384 : Int).toNat) - 1) := by unfold Hid; rw [HN.out, if_pos ⟨rfl, rfl⟩]
      have Q4 : Hid (∀ t, Qb w w3.heap.size (.bool g3) (.slice a3 fs.length c3) (w3.alloc (.cells #[.bool g3, .slice a3 fs.length c3] t))) := fun t => Qb.start zz3
      go_wp2
      obtain ⟨W4, hW4⟩ : ∃ W4, W4 = w3.alloc (.cells #[.bool g3, .slice a3 fs.length c3] 55) := ⟨_, rfl⟩
      have QQ : Hid (Qb w w3.heap.size (.bool g3) (.slice a3 fs.length c3) W4) := by unfold Hid; rw [hW4]; exact Q4.out _
      have FF : Hid (Bx1 w (.bool g) (.slice a zs.length c) W4) := by unfold Hid; rw [hW4]; exact F3.out.later (bel0 _ _)
      have LL : Hid (L1 W4 g3 a3 c3 fs (sg true (val 65536 ds / 2 ^ (16384 : Int).toNat))) := by unfold Hid; rw [hW4]; exact HL3.out.later (bel0 _ _)
      have HF4 : Hid (Far w.heap.size a3 fs) := hF3.down (by simp; omega)
      have hsz : W4.heap.size = w3.heap.size + 1 := by rw [hW4]; simp
      have t0 := QQ.out.q0
      have t1 := QQ.out.q1
      have t2 := QQ.out.q2
      rw [← hW4]
      clear hW4 Q4 hF3 HL3 F3 x0
      go_region_with
        (first
          | (go_at_call 55; refine (small_any 1 _ (by decide) (by decide)).mono ?_; rintro e w5 ⟨a5, c5, f5, rfl, hl5, hL5, hF5, hb5⟩; have hB5 : Below W4.heap.size W4 w5 := (Below.refl _ _).drew.trans hb5; have Q5 : Hid (Qb w w3.heap.size (.bool g3) (.slice a3 fs.length c3) w5) := QQ.out.later hB5; have y0 := Q5.out.q0; have y1 := Q5.out.q1; have y2 := Q5.out.q2)
          | (go_at_call 37; refine (sub_any g3 false a3 a5 c3 c5 fs f5 _ 1 _ (by omega) (by omega) (LL.out.later hB5) hL5).mono ?_; rintro e w6 ⟨g6, a6, c6, f6, rfl, hl6, hL6, hF6, hb6⟩; have hB6 : Below W4.heap.size W4 w6 := hB5.trans (hb6.mono hB5.size); have Q6 : Hid (Qb w w3.heap.size (.bool g3) (.slice a3 fs.length c3) w6) := QQ.out.later hB6; have z0 := Q6.out.q0; have z1 := Q6.out.q1; have z2 := Q6.out.q2))
      all_goals
        have HF6 : Hid (Far (w3.heap.size + 1) a6 f6) := hF6.down (by have := hB5.size; omega)
        have F6 : Hid (Bx1 w (.bool g) (.slice a zs.length c) w6) := FF.out.later hB6
        have HL7 : Hid (L1 ((w6.setCell ⟨w3.heap.size, 0, none⟩ (.bool g6)).setCell ⟨w3.heap.size, 1, none⟩ (.slice a6 f6.length c6)) g6 a6 c6 f6 (shN x n)) := by unfold Hid; rw [HN2.out]; exact (hL6.setFar HF6.out (by simp) _).setFar HF6.out (by simp) _
        have F7 : Hid (Bx1 w (.bool g) (.slice a zs.length c) ((w6.setCell ⟨w3.heap.size, 0, none⟩ (.bool g6)).setCell ⟨w3.heap.size, 1, none⟩ (.slice a6 f6.length c6))) := F6.out.on (((Below.refl _ _).setCell (by simp; omega) _).setCell (by simp; omega) _)
        clear hL5 hL6 hF5 hF6 hB5 hB6 hb5 hb6 Q5 QQ y0 y1 y2 t0 t1 t2
        go_wp2_with fail
        refine (big_any g6 a6 c6 f6 _ (by omega) HL7.out.sl.row HL7.out.can.1).mono ?_
        rintro e w8 ⟨a8, c8, rfl, hr8, hf8, hb8⟩
        have F8 : Hid (Bx1 w (.bool g) (.slice a zs.length c) w8) := F7.out.later hb8
        have p1 := F8.out.r1
        have p2 := F8.out.r2
        have p3 := F8.out.r3
        have hE : Hid (Res true (shN x n) (bigOut g6 f6).1 (bigOut g6 f6).2.1 (bigOut g6 f6).2.2) := res_big HL7.out
        have hF : Hid (Far (w.heap.size + 1 + 1) a8 (bigOut g6 f6).2.1) := hf8.down F7.out.le
        have hR : Hid (RowAt .u32 w8 a8 (bigOut g6 f6).2.1) := hr8
        clear hr8 hf8 hb8 F7 F6 HL7 z0 z1 z2 Q6
        generalize (bigOut g6 f6).1 = G at *
        generalize (bigOut g6 f6).2.1 = Z at *
        generalize (bigOut g6 f6).2.2 = K at *
        go_wp2
        refine bodyPost_ret (v := .tuple #[.agg #[.bool G, .slice a8 Z.length c8], .int .i64 K]) (by simp [results, Try.results24, go_sem, p1, p2]) rfl ?_
        refine ⟨G, Z, K, a8, c8, rfl, hE.out, ?_, hF.out.down (by omega), ?_⟩
        · exact (hR.out.setAway (hF.out.away (by simp)) _).setAway (hF.out.away (by simp)) _
        · exact (F8.out.bel.setCell (by simp) _).setCell (by simp) _
    · have HN2 : Hid (shN x n = sg g1 (val 65536 ds / 2 ^ (16384 : Int).toNat)) := by unfold Hid; rw [HN.out, if_neg hneg]
      have hq : (lo = false) ∨ (lo = true ∧ g1 = false) := by cases lo <;> cases g1 <;> simp at hneg ⊢
      clear HN hneg
      rcases hq with rfl | ⟨rfl, rfl⟩
      all_goals
        go_wp2_with fail
        refine (big_any g3 a3 c3 fs _ (by omega) (HL3.out.later (bel0 _ _)).sl.row HL3.out.can.1).mono ?_
        rintro e w8 ⟨a8, c8, rfl, hr8, hf8, hb8⟩
        have F8 : Hid (Bx1 w (.bool g) (.slice a zs.length c) w8) := (F3.out.later (bel0 _ _)).later hb8
        have p1 := F8.out.r1
        have p2 := F8.out.r2
        have p3 := F8.out.r3
        have hE : Hid (Res true (shN x n) (bigOut g3 fs).1 (bigOut g3 fs).2.1 (bigOut g3 fs).2.2) := by unfold Hid; rw [HN2.out]; exact res_big HL3.out
        have hF : Hid (Far (w.heap.size + 1 + 1) a8 (bigOut g3 fs).2.1) := hf8.down (by simp; omega)
        have hR : Hid (RowAt .u32 w8 a8 (bigOut g3 fs).2.1) := hr8
        clear hr8 hf8 hb8 F3 HL3 x0
        generalize (bigOut g3 fs).1 = G at *
        generalize (bigOut g3 fs).2.1 = Z at *
        generalize (bigOut g3 fs).2.2 = K at *
        go_wp2
        refine bodyPost_ret (v := .tuple #[.agg #[.bool G, .slice a8 Z.length c8], .int .i64 K]) (by simp [results, Try.results24, go_sem, p1, p2]) rfl ?_
        refine ⟨G, Z, K, a8, c8, rfl, hE.out, ?_, hF.out.down (by omega), ?_⟩
        · exact (hR.out.setAway (hF.out.away (by simp)) _).setAway (hF.out.away (by simp)) _
        · exact (F8.out.bel.setCell (by simp) _).setCell (by simp) _
  · have hnm : -n = m := by omega
    clear hm
    go_wp2_with fail
    refine (down_any g1 a1 c1 ds x m _ (by omega) hm0 (by omega) (HL1.out.later (bel0 _ _))).mono ?_
    rintro e w3 ⟨g3, a3, c3, fs, rfl, hl3, hL3, hF3, hb3⟩
    have F3 : Hid (Bx1 w (.bool g) (.slice a zs.length c) w3) := (F2.out.later (bel0 _ _)).later hb3
    have zz3 : w.heap.size + 1 < w3.heap.size := F3.out.le
    have zz4 : w2.heap.size < w3.heap.size := by have := hb3.size; simp at this; omega
    have x0 : w3.cell? ⟨w2.heap.size, 0, none⟩ = some (.bool g1) := by rw [(bcell hb3).1 _ _ (by simp)]; simp [go_sem]
    have HL3 : Hid (L1 w3 g3 a3 c3 fs (sg g1 (val 65536 ds / 2 ^ m.toNat))) := hL3
    clear hL3 hb3
    obtain ⟨lo, hlo⟩ : ∃ lo, lo = lostB (val 65536 ds) (2 ^ m.toNat) := ⟨_, rfl⟩
    rw [← hlo] at HN ⊢
    clear hlo
    by_cases hneg : g1 = true ∧ lo = true
    · obtain ⟨rfl, rfl⟩ := hneg
      have HN2 : Hid (shN x n = sg true (val 65536 ds / 2 ^ m.toNat) - 1) := by unfold Hid; rw [HN.out, if_pos ⟨rfl, rfl⟩]
      have Q4 : Hid (∀ t, Qb w w3.heap.size (.bool g3) (.slice a3 fs.length c3) (w3.alloc (.cells #[.bool g3, .slice a3 fs.length c3] t))) := fun t => Qb.start zz3
      go_wp2
      obtain ⟨W4, hW4⟩ : ∃ W4, W4 = w3.alloc (.cells #[.bool g3, .slice a3 fs.length c3] 55) := ⟨_, rfl⟩
      have QQ : Hid (Qb w w3.heap.size (.bool g3) (.slice a3 fs.length c3) W4) := by unfold Hid; rw [hW4]; exact Q4.out _
      have FF : Hid (Bx1 w (.bool g) (.slice a zs.length c) W4) := by unfold Hid; rw [hW4]; exact F3.out.later (bel0 _ _)
      have LL : Hid (L1 W4 g3 a3 c3 fs (sg true (val 65536 ds / 2 ^ m.toNat))) := by unfold Hid; rw [hW4]; exact HL3.out.later (bel0 _ _)
      have HF4 : Hid (Far w.heap.size a3 fs) := hF3.down (by simp; omega)
      have hsz : W4.heap.size = w3.heap.size + 1 := by rw [hW4]; simp
      have t0 := QQ.out.q0
      have t1 := QQ.out.q1
      have t2 := QQ.out.q2
      rw [← hW4]
      clear hW4 Q4 hF3 HL3 F3 x0
      go_region_with
        (first
          | (go_at_call 55; refine (small_any 1 _ (by decide) (by decide)).mono ?_; rintro e w5 ⟨a5, c5, f5, rfl, hl5, hL5, hF5, hb5⟩; have hB5 : Below W4.heap.size W4 w5 := (Below.refl _ _).drew.trans hb5; have Q5 : Hid (Qb w w3.heap.size (.bool g3) (.slice a3 fs.length c3) w5) := QQ.out.later hB5; have y0 := Q5.out.q0; have y1 := Q5.out.q1; have y2 := Q5.out.q2)
          | (go_at_call 37; refine (sub_any g3 false a3 a5 c3 c5 fs f5 _ 1 _ (by omega) (by omega) (LL.out.later hB5) hL5).mono ?_; rintro e w6 ⟨g6, a6, c6, f6, rfl, hl6, hL6, hF6, hb6⟩; have hB6 : Below W4.heap.size W4 w6 := hB5.trans (hb6.mono hB5.size); have Q6 : Hid (Qb w w3.heap.size (.bool g3) (.slice a3 fs.length c3) w6) := QQ.out.later hB6; have z0 := Q6.out.q0; have z1 := Q6.out.q1; have z2 := Q6.out.q2))
      all_goals
        have HF6 : Hid (Far (w3.heap.size + 1) a6 f6) := hF6.down (by have := hB5.size; omega)
        have F6 : Hid (Bx1 w (.bool g) (.slice a zs.length c) w6) := FF.out.later hB6
        have HL7 : Hid (L1 ((w6.setCell ⟨w3.heap.size, 0, none⟩ (.bool g6)).setCell ⟨w3.heap.size, 1, none⟩ (.slice a6 f6.length c6)) g6 a6 c6 f6 (shN x n)) := by unfold Hid; rw [HN2.out]; exact (hL6.setFar HF6.out (by simp) _).setFar HF6.out (by simp) _
        have F7 : Hid (Bx1 w (.bool g) (.slice a zs.length c) ((w6.setCell ⟨w3.heap.size, 0, none⟩ (.bool g6)).setCell ⟨w3.heap.size, 1, none⟩ (.slice a6 f6.length c6))) := F6.out.on (((Below.refl _ _).setCell (by simp; omega) _).setCell (by simp; omega) _)
        clear hL5 hL6 hF5 hF6 hB5 hB6 hb5 hb6 Q5 QQ y0 y1 y2 t0 t1 t2
        go_wp2_with fail
        refine (big_any g6 a6 c6 f6 _ (by omega) HL7.out.sl.row HL7.out.can.1).mono ?_
        rintro e w8 ⟨a8, c8, rfl, hr8, hf8, hb8⟩
        have F8 : Hid (Bx1 w (.bool g) (.slice a zs.length c) w8) := F7.out.later hb8
        have p1 := F8.out.r1
        have p2 := F8.out.r2
        have p3 := F8.out.r3
        have hE : Hid (Res true (shN x n) (bigOut g6 f6).1 (bigOut g6 f6).2.1 (bigOut g6 f6).2.2) := res_big HL7.out
        have hF : Hid (Far (w.heap.size + 1 + 1) a8 (bigOut g6 f6).2.1) := hf8.down F7.out.le
        have hR : Hid (RowAt .u32 w8 a8 (bigOut g6 f6).2.1) := hr8
        clear hr8 hf8 hb8 F7 F6 HL7 z0 z1 z2 Q6
        generalize (bigOut g6 f6).1 = G at *
        generalize (bigOut g6 f6).2.1 = Z at *
        generalize (bigOut g6 f6).2.2 = K at *
        go_wp2
        refine bodyPost_ret (v := .tuple #[.agg #[.bool G, .slice a8 Z.length c8], .int .i64 K]) (by simp [results, Try.results24, go_sem, p1, p2]) rfl ?_
        refine ⟨G, Z, K, a8, c8, rfl, hE.out, ?_, hF.out.down (by omega), ?_⟩
        · exact (hR.out.setAway (hF.out.away (by simp)) _).setAway (hF.out.away (by simp)) _
        · exact (F8.out.bel.setCell (by simp) _).setCell (by simp) _
    · have HN2 : Hid (shN x n = sg g1 (val 65536 ds / 2 ^ m.toNat)) := by unfold Hid; rw [HN.out, if_neg hneg]
      have hq : (lo = false) ∨ (lo = true ∧ g1 = false) := by cases lo <;> cases g1 <;> simp at hneg ⊢
      clear HN hneg
      rcases hq with rfl | ⟨rfl, rfl⟩
      all_goals
        go_wp2_with fail
        refine (big_any g3 a3 c3 fs _ (by omega) (HL3.out.later (bel0 _ _)).sl.row HL3.out.can.1).mono ?_
        rintro e w8 ⟨a8, c8, rfl, hr8, hf8, hb8⟩
        have F8 : Hid (Bx1 w (.bool g) (.slice a zs.length c) w8) := (F3.out.later (bel0 _ _)).later hb8
        have p1 := F8.out.r1
        have p2 := F8.out.r2
        have p3 := F8.out.r3
        have hE : Hid (Res true (shN x n) (bigOut g3 fs).1 (bigOut g3 fs).2.1 (bigOut g3 fs).2.2) := by unfold Hid; rw [HN2.out]; exact res_big HL3.out
        have hF : Hid (Far (w.heap.size + 1 + 1) a8 (bigOut g3 fs).2.1) := hf8.down (by simp; omega)
        have hR : Hid (RowAt .u32 w8 a8 (bigOut g3 fs).2.1) := hr8
        clear hr8 hf8 hb8 F3 HL3 x0
        generalize (bigOut g3 fs).1 = G at *
        generalize (bigOut g3 fs).2.1 = Z at *
        generalize (bigOut g3 fs).2.2 = K at *
        go_wp2
        refine bodyPost_ret (v := .tuple #[.agg #[.bool G, .slice a8 Z.length c8], .int .i64 K]) (by simp [results, Try.results24, go_sem, p1, p2]) rfl ?_
        refine ⟨G, Z, K, a8, c8, rfl, hE.out, ?_, hF.out.down (by omega), ?_⟩
        · exact (hR.out.setAway (hF.out.away (by simp)) _).setAway (hF.out.away (by simp)) _
        · exact (F8.out.bel.setCell (by simp) _).setCell (by simp) _

theorem spShift_any (g : Bool) (a : Option Addr) (c : Nat) (zs : List Int) (n : Int) (w : World) (hn : zs.length ≤ 1048576) (hz : RowAt .u32 w a zs) (hu : U32 zs) :
    Calls Try.prog 24 #[.agg #[.bool g, .slice a zs.length c], .int .i64 n] w fun e w' => OutS w (validB g zs) (shN (sg g (val 4294967296 zs)) n) e w' := by
  cases v1 : validB g zs
  · exact spShift_bad g a c zs n _ w hn hz v1
  · by_cases h : 0 ≤ n
    · exact spShift_up g a c zs _ n w (valid_canon hu v1).2.1 hz (B1.of_valid hu v1) v1 h
    · exact spShift_down g a c zs _ n w (valid_canon hu v1).2.1 hz (B1.of_valid hu v1) v1 (by omega)

end Go.Proofs.Ytlbegmepmeimkab
