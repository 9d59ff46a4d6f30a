/-
  The program's BigShift.
-/
import Derived.Test.YtlbegmepmeimkabImplU
import Derived.Test.YtlbegmepmeimkabImplC
import Derived.Test.YtlbegmepmeimkabBox1
import Derived.Test.YtlbegmepmeimkabNumW
namespace Go.Proofs.Ytlbegmepmeimkab
open Go.RowKit

theorem one_row (W : World) (t : TypeId) : RowAt .u32 (W.alloc (.cells #[.int .u32 1] t)) (some ⟨W.heap.size, 0, none⟩) [1] := by
  refine .inr ⟨W.heap.size, 0, rfl, by simp, fun j hj => ?_⟩
  have : j = 0 := by simp at hj; omega
  subst this
  simp [go_sem]

/-- A number shifted down, rounded down. -/
theorem B1.down {g : Bool} {v n x : Int} (hx : x = sg g v) : x / 2 ^ n.toNat = if g = true ∧ lostB v (2 ^ n.toNat) = true then sg g (v / 2 ^ n.toNat + 1) else sg g (v / 2 ^ n.toNat) := by
  have hq : (0 : Int) < 2 ^ n.toNat := Int.pow_pos (by decide)
  rw [hx]
  cases g
  · simp [sg]
  · have h := neg_div v _ hq
    simp only [sg, if_true]
    rw [h]
    unfold lostB
    by_cases h0 : v % 2 ^ n.toNat = 0
    · rw [if_pos h0, if_neg (by simp [h0])]
    · rw [if_neg h0, if_pos (by simp [h0])]
      omega

/-- A Big in new memory that writes the number x with at most n limbs, its slice well formed. -/
def BigOutC (w : World) (x : Int) (n : Nat) (e : Ending) (w' : World) : Prop :=
  ∃ (g : Bool) (a : Option Addr) (c : Nat) (fs : List Int), e = .returned (.agg #[.bool g, .slice a fs.length c]) ∧ B1 g fs x ∧ fs.length ≤ n ∧ fs.length ≤ c ∧ c ≤ maxLen ∧ RowNew .u32 w' w.heap.size a fs ∧ Below w.heap.size w w'

/-- What the program's shift answers: its slice well formed, too. -/
def OutJ (w : World) (ok : Bool) (x : Int) (e : Ending) (w' : World) : Prop :=
  ∃ (G : Bool) (Z : List Int) (K : Int) (a : Option Addr) (c : Nat), e = .returned (.tuple #[.agg #[.bool G, .slice a Z.length c], .int .i64 K]) ∧ Res ok x G Z K ∧ Z.length ≤ c ∧ c ≤ maxLen ∧ RowNew .u32 w' w.heap.size a Z ∧ Below w.heap.size w w'

theorem OutJ.toI {w : World} {ok : Bool} {x : Int} {e : Ending} {w' : World} (h : OutJ w ok x e w') : OutI w ok x e w' := by
  obtain ⟨G, Z, K, a, c, h1, h2, _, _, h3, h4⟩ := h
  exact ⟨G, Z, K, a, c, h1, h2, h3, h4⟩

set_option maxHeartbeats 400000 in
theorem withinC_any (g : Bool) (a : Option Addr) (c : Nat) (zs : List Int) (w : World) (B : Nat) (hn : zs.length ≤ 1048576) (hc : zs.length ≤ c) (hm : c ≤ maxLen) (hz : RowNew .u32 w B a zs) :
    Calls Try.prog 40 #[.agg #[.bool g, .slice a zs.length c]] w fun e w' => ∃ a' c', e = .returned (.tuple #[.agg #[.bool (limOut g zs).1, .slice a' (limOut g zs).2.1.length c'], .int .i64 (limOut g zs).2.2]) ∧ (limOut g zs).2.1.length ≤ c' ∧ c' ≤ maxLen ∧ RowNew .u32 w' B a' (limOut g zs).2.1 ∧ Below w.heap.size w w' := by
  by_cases h5 : zs.length ≤ 512
  · have HO : Hid (limOut g zs = (g, zs, 0)) := by unfold Hid limOut; rw [if_pos h5]
    go_enter Try.func40, Try.ntmps40
    go_wp2
    refine bodyPost_ret (v := .tuple #[.agg #[.bool g, .slice a zs.length c], .int .i64 0]) (by simp [results, Try.results40, go_sem]) rfl ?_
    rw [HO.out]
    exact ⟨a, c, rfl, hc, hm, hz.later (bel2 _ _ _), bel2 _ _ _⟩
  · have HO : Hid (limOut g zs = (false, [], 2)) := by unfold Hid limOut; rw [if_neg h5]
    go_enter Try.func40, Try.ntmps40
    go_wp2
    refine bodyPost_ret (v := .tuple #[.agg #[.bool false, .slice none 0 0], .int .i64 2]) (by simp [results, Try.results40, go_sem]) rfl ?_
    rw [HO.out]
    exact ⟨none, 0, rfl, by simp, by unfold maxLen; omega, .inl rfl, bel2 _ _ _⟩

set_option maxHeartbeats 4000000 in
theorem shdI_any (g : Bool) (a : Option Addr) (c : Nat) (zs : List Int) (x n : Int) (w : World) (hn : zs.length ≤ 100000) (hp : zs.length ≤ c) (hpm : c ≤ maxLen) (n0 : 0 ≤ n) (n1 : n ≤ 1000000) (hz : RowAt .u32 w a zs) (h : B1 g zs x) :
    Calls Try.prog 62 #[.agg #[.bool g, .slice a zs.length c], .int .i64 n] w fun e w' => BigOutC w (x / 2 ^ n.toNat) (zs.length + 2) e w' := by
  have HN : Hid (x / 2 ^ n.toNat = if g = true ∧ lostB (val 4294967296 zs) (2 ^ n.toNat) = true then sg g (val 4294967296 zs / 2 ^ n.toNat + 1) else sg g (val 4294967296 zs / 2 ^ n.toNat)) := B1.down h.num
  go_enter Try.func62, Try.ntmps62
  go_wp2_with fail
  refine (downI_any a c zs n _ hn hp hpm n0 n1 (hz.later (bel2 _ _ _)) h.can).mono ?_
  rintro e w1 ⟨a1, c1, fs, rfl, hf1, hm1, hcan1, hv1, hl1, hr1, hb1⟩
  have F1 : Hid (Bx1 w (.bool g) (.slice a zs.length c) w1) := (Bx1.start w _ _ _ _).later hb1
  have HR1 : Hid (RowNew .u32 w1 (w.heap.size + 1 + 1) a1 fs) := by unfold Hid; simpa using hr1
  have s0 := F1.out.q0
  have zz : w.heap.size + 1 < w1.heap.size := F1.out.le
  obtain ⟨lo, hlo⟩ : ∃ lo, lo = lostB (val 4294967296 zs) (2 ^ n.toNat) := ⟨_, rfl⟩
  rw [← hlo] at HN ⊢
  clear hb1 hr1 hlo
  by_cases hneg : g = true ∧ lo = true
  · obtain ⟨rfl, rfl⟩ := hneg
    have HN2 : Hid (x / 2 ^ n.toNat = sg true (val 4294967296 zs / 2 ^ n.toNat + 1)) := by unfold Hid; rw [HN.out, if_pos ⟨rfl, rfl⟩]
    go_wp2_with fail
    refine (plus_any a1 _ c1 _ fs [1] _ (by omega) (by simp) (HR1.out.row.later (bel0 _ _)) (one_row _ _) hcan1.1 (Dig.cons (by decide) (by decide) (Dig.nil _))).mono ?_
    rintro e w2 ⟨a2, c2, f2, rfl, hf2, hm2, hcan2, hv2, hl2, hr2, hb2⟩
    have F2 : Hid (Bx1 w (.bool true) (.slice a zs.length c) w2) := (F1.out.later (bel0 _ _)).later hb2
    have HR2 : Hid (RowNew .u32 w2 (w.heap.size + 1 + 1) a2 f2) := hr2.down (by simp; omega)
    have HV2 : Hid (val 4294967296 f2 = val 4294967296 zs / 2 ^ n.toNat + 1) := by unfold Hid; rw [hv2, hv1]; rfl
    have s2 := F2.out.q0
    clear hr2 hb2 s0 hv2 hv1
    go_wp2_with fail
    refine (signed_any true a2 f2.length c2 _).mono ?_
    rintro e w3 ⟨rfl, hb3⟩
    have F3 : Hid (Bx1 w (.bool true) (.slice a zs.length c) w3) := F2.out.later hb3
    have HR3 : Hid (RowNew .u32 w3 (w.heap.size + 1 + 1) a2 f2) := HR2.out.later hb3
    have p1 := F3.out.r1
    have p2 := F3.out.r2
    have p3 := F3.out.r3
    have HB : Hid (B1 (true && decide (0 < f2.length)) f2 (x / 2 ^ n.toNat)) := by unfold Hid; rw [HN2.out]; exact B1.of_signed hcan2 HV2.out
    have hl2' : f2.length ≤ zs.length + 2 := by simp at hl2; omega
    clear hb3 s2 HR2 F2 F1 hcan1 hcan2 HV2
    generalize (true && decide (0 < f2.length)) = G at *
    go_wp2
    refine bodyPost_ret (v := .agg #[.bool G, .slice a2 f2.length c2]) (by simp [results, Try.results62, go_sem, p1, p2]) rfl ?_
    refine ⟨G, a2, c2, f2, rfl, HB.out, hl2', hf2, hm2, ?_, ?_⟩
    · exact ((HR3.out.setLow (by simp) _).setLow (by simp) _).down (by omega)
    · exact (F3.out.bel.setCell (by simp) _).setCell (by simp) _
  · have HN2 : Hid (x / 2 ^ n.toNat = sg g (val 4294967296 zs / 2 ^ n.toNat)) := by unfold Hid; rw [HN.out, if_neg hneg]
    have hq : (g = false) ∨ (g = true ∧ lo = false) := by cases lo <;> cases g <;> simp at hneg ⊢
    clear HN hneg
    rcases hq with rfl | ⟨rfl, rfl⟩
    · go_wp2_with fail
      refine (signed_any false a1 fs.length c1 _).mono ?_
      rintro e w3 ⟨rfl, hb3⟩
      have F3 : Hid (Bx1 w (.bool false) (.slice a zs.length c) w3) := F1.out.later hb3
      have HR3 : Hid (RowNew .u32 w3 (w.heap.size + 1 + 1) a1 fs) := HR1.out.later hb3
      have p1 := F3.out.r1
      have p2 := F3.out.r2
      have p3 := F3.out.r3
      have HB : Hid (B1 (false && decide (0 < fs.length)) fs (x / 2 ^ n.toNat)) := by unfold Hid; rw [HN2.out]; exact B1.of_signed hcan1 hv1
      clear hb3 s0 F1 hcan1
      generalize (false && decide (0 < fs.length)) = G at *
      go_wp2
      refine bodyPost_ret (v := .agg #[.bool G, .slice a1 fs.length c1]) (by simp [results, Try.results62, go_sem, p1, p2]) rfl ?_
      refine ⟨G, a1, c1, fs, rfl, HB.out, by omega, hf1, hm1, ?_, ?_⟩
      · exact ((HR3.out.setLow (by simp) _).setLow (by simp) _).down (by omega)
      · exact (F3.out.bel.setCell (by simp) _).setCell (by simp) _
    · go_wp2_with fail
      refine (signed_any true a1 fs.length c1 _).mono ?_
      rintro e w3 ⟨rfl, hb3⟩
      have F3 : Hid (Bx1 w (.bool true) (.slice a zs.length c) w3) := F1.out.later hb3
      have HR3 : Hid (RowNew .u32 w3 (w.heap.size + 1 + 1) a1 fs) := HR1.out.later hb3
      have p1 := F3.out.r1
      have p2 := F3.out.r2
      have p3 := F3.out.r3
      have HB : Hid (B1 (true && decide (0 < fs.length)) fs (x / 2 ^ n.toNat)) := by unfold Hid; rw [HN2.out]; exact B1.of_signed hcan1 hv1
      clear hb3 s0 F1 hcan1
      generalize (true && decide (0 < fs.length)) = G at *
      go_wp2
      refine bodyPost_ret (v := .agg #[.bool G, .slice a1 fs.length c1]) (by simp [results, Try.results62, go_sem, p1, p2]) rfl ?_
      refine ⟨G, a1, c1, fs, rfl, HB.out, by omega, hf1, hm1, ?_, ?_⟩
      · exact ((HR3.out.setLow (by simp) _).setLow (by simp) _).down (by omega)
      · exact (F3.out.bel.setCell (by simp) _).setCell (by simp) _

set_option maxHeartbeats 1000000 in
theorem imShift_bad (g : Bool) (a : Option Addr) (c : Nat) (zs : List Int) (n x : Int) (w : World) (hn : zs.length ≤ 1048576) (hz : RowAt .u32 w a zs) (v1 : validB g zs = false) :
    Calls Try.prog 25 #[.agg #[.bool g, .slice a zs.length c], .int .i64 n] w fun e w' => OutJ w false x e w' := by
  go_enter Try.func25, Try.ntmps25
  go_wp2_with fail
  refine (validI_any g a c zs _ (by unfold maxLen; omega) (hz.later (bel2 _ _ _))).mono ?_
  rintro e w1 ⟨rfl, hb1⟩
  rw [v1]
  have F1 : Hid (Bx1 w (.bool g) (.slice a zs.length c) w1) := (Bx1.start w _ _ _ _).later hb1
  clear hb1
  have r1 := F1.out.r1
  have r2 := F1.out.r2
  have r3 := F1.out.r3
  go_wp2
  refine bodyPost_ret (v := .tuple #[.agg #[.bool false, .slice none 0 0], .int .i64 1]) (by simp [results, Try.results25, go_sem, r1, r2]) rfl ?_
  refine ⟨false, [], 1, none, 0, rfl, .inl ⟨rfl, rfl, rfl, rfl⟩, by simp, by unfold maxLen; omega, .inl rfl, ?_⟩
  exact (F1.out.bel.setCell (by simp) _).setCell (by simp) _

set_option maxHeartbeats 4000000 in
theorem imShift_ok (g : Bool) (a : Option Addr) (c : Nat) (zs : List Int) (x n : Int) (w : World) (hn : zs.length ≤ 512) (hp : zs.length ≤ c) (hpm : c ≤ maxLen) (hz : RowAt .u32 w a zs) (h : B1 g zs x) (v1 : validB g zs = true) :
    Calls Try.prog 25 #[.agg #[.bool g, .slice a zs.length c], .int .i64 n] w fun e w' => OutJ w true (shN x n) e w' := by
  have HX : Hid (x = sg g (val 4294967296 zs)) := h.num
  have HB1 : Hid (B1 g zs x) := h
  go_enter Try.func25, Try.ntmps25
  go_wp2_with fail
  refine (validI_any g a c zs _ (by unfold maxLen; omega) (hz.later (bel2 _ _ _))).mono ?_
  rintro e w1 ⟨rfl, hb1⟩
  rw [v1]
  have F1 : Hid (Bx1 w (.bool g) (.slice a zs.length c) w1) := (Bx1.start w _ _ _ _).later hb1
  clear hb1 h
  have s0 := F1.out.q0
  have s1 := F1.out.q1
  have p1 := F1.out.r1
  have p2 := F1.out.r2
  have p3 := F1.out.r3
  have zz : w.heap.size + 1 < w1.heap.size := F1.out.le
  by_cases hd : zs.length = 0
  · have hde : zs = [] := List.length_eq_zero_iff.1 hd
    subst hde
    have hx0 : x = 0 := by rw [HX.out]; simp [sg, val]
    have HR : Hid (Res true (shN x n) false [] 0) := by unfold Hid; rw [hx0]; exact res_zero
    clear hx0
    go_wp2
    refine bodyPost_ret (v := .tuple #[.agg #[.bool false, .slice none 0 0], .int .i64 0]) (by simp [results, Try.results25, go_sem, p1, p2]) rfl ?_
    refine ⟨false, [], 0, none, 0, rfl, HR.out, by simp, by unfold maxLen; omega, .inl rfl, ?_⟩
    exact (F1.out.bel.setCell (by simp) _).setCell (by simp) _
  · have hd1 : ((zs.length : Int) == 0) = false := by rw [beq_eq_false_iff_ne]; omega
    by_cases hf : 16384 < n
    · have HR : Hid (Res true (shN x n) false [] 2) := res_far HB1.out (fun e => hd (by rw [e]; rfl)) hf
      go_wp2
      refine bodyPost_ret (v := .tuple #[.agg #[.bool false, .slice none 0 0], .int .i64 2]) (by simp [results, Try.results25, go_sem, p1, p2]) rfl ?_
      refine ⟨false, [], 2, none, 0, rfl, HR.out, by simp, by unfold maxLen; omega, .inl rfl, ?_⟩
      exact (F1.out.bel.setCell (by simp) _).setCell (by simp) _
    · by_cases hn0 : 0 ≤ n
      · have HS : Hid (shN x n = sg g (val 4294967296 zs * 2 ^ n.toNat)) := by
          unfold Hid; rw [shN_up hn0 (by omega), HX.out]
          cases g
          · simp only [sg]; rfl
          · simp only [sg, if_true]; rw [Int.neg_mul]
        go_wp2
        go_region_held3 (fun w' => w'.cell? ⟨w.heap.size, 0, none⟩ = some (.bool g) ∧ w'.cell? ⟨w.heap.size, 1, none⟩ = some (.slice a zs.length c) ∧ Below (w.heap.size + 1) w1 w')
          (first | exact F1.out.held (Below.refl _ _).drew | exact F1.out.held (by assumption) | exact F1.out.held (Below.setCell (Below.setCell (by assumption) (by simp) _) (by simp) _))
          (first
            | (go_at_call 61; refine (upI_any a c zs n _ (by omega) hn0 (by omega) (hz.later F1.out.bel.drew) HB1.out.can.1).mono ?_; rintro e w2 ⟨a2, c2, f2, rfl, hf2, hm2, hcan2, hv2, hl2, hr2, hb2⟩; have hB2 : Below w1.heap.size w1 w2 := (Below.refl _ _).drew.trans hb2; have hB2' : Below (w.heap.size + 1) w1 w2 := hB2.mono (by omega))
            | (go_at_call 50; refine (signed_any g a2 f2.length c2 _).mono ?_; rintro e w3 ⟨rfl, hb3⟩; have hB3 : Below w1.heap.size w1 w3 := hB2.trans (hb3.mono hB2.size); have hB3' : Below (w.heap.size + 1) w1 w3 := hB3.mono (by omega); have hr3 := hr2.later hb3)
            | (go_at_call 40; refine (withinC_any _ a2 c2 f2 _ w1.heap.size (by omega) hf2 hm2 (by simpa using hr3)).mono ?_; rintro e w5 ⟨a5, c5, rfl, hq5, hqm5, hr5, hb5⟩; have hB5 : Below w1.heap.size w1 w5 := hB3.trans (hb5.mono hB3.size); have hB5' : Below (w.heap.size + 1) w1 w5 := hB5.mono (by omega); have F5 : Hid (Bx1 w (.bool g) (.slice a zs.length c) w5) := F1.out.later hB5; have y1 := F5.out.r1; have y2 := F5.out.r2; have y3 := F5.out.r3))
        have hE : Hid (Res true (shN x n) (limOut (g && decide (0 < f2.length)) f2).1 (limOut (g && decide (0 < f2.length)) f2).2.1 (limOut (g && decide (0 < f2.length)) f2).2.2) := by unfold Hid; rw [HS.out]; exact res_lim (B1.of_signed hcan2 hv2)
        have hR : Hid (RowNew .u32 w5 w1.heap.size a5 (limOut (g && decide (0 < f2.length)) f2).2.1) := hr5
        have HQ : Hid ((limOut (g && decide (0 < f2.length)) f2).2.1.length ≤ c5) := hq5
        clear hq5 hr5 hB5 hB5' hB3 hB3' hB2 hB2' hb2 hb3 hb5 hr2 hr3 hcan2 hv2 p1 p2 p3 s0 s1
        generalize (limOut (g && decide (0 < f2.length)) f2).1 = G at *
        generalize (limOut (g && decide (0 < f2.length)) f2).2.1 = Z at *
        generalize (limOut (g && decide (0 < f2.length)) f2).2.2 = K at *
        go_wp2
        refine bodyPost_ret (v := .tuple #[.agg #[.bool G, .slice a5 Z.length c5], .int .i64 K]) (by simp [results, Try.results25, go_sem, y1, y2]) rfl ?_
        refine ⟨G, Z, K, a5, c5, rfl, hE.out, HQ.out, hqm5, ?_, ?_⟩
        · exact ((hR.out.setLow (by simp; omega) _).setLow (by simp; omega) _).down (by omega)
        · exact (F5.out.bel.setCell (by simp) _).setCell (by simp) _
      · by_cases hfar : n < -16384
        · have HS : Hid (shN x n = x / 2 ^ (16384 : Int).toNat) := by unfold Hid; rw [shN_down (by omega), show min (-n) 16384 = 16384 by omega]
          go_wp2_with fail
          refine (shdI_any g a c zs x (16384) _ (by omega) hp hpm (by omega) (by omega) (hz.later F1.out.bel) HB1.out).mono ?_
          rintro e w4 ⟨g4, a4, c4, fs, rfl, hB1, hl4, hf4, hm4, hr4, hb4⟩
          go_wp2_with fail
          refine (withinC_any g4 a4 c4 fs _ w1.heap.size (by omega) hf4 hm4 hr4).mono ?_
          rintro e w5 ⟨a5, c5, rfl, hq5, hqm5, hr5, hb5⟩
          have hB5 : Below w1.heap.size w1 w5 := hb4.trans (hb5.mono hb4.size)
          have hE : Hid (Res true (shN x n) (limOut g4 fs).1 (limOut g4 fs).2.1 (limOut g4 fs).2.2) := by unfold Hid; rw [HS.out]; exact res_lim hB1
          have hR : Hid (RowNew .u32 w5 w1.heap.size a5 (limOut g4 fs).2.1) := hr5
          have HQ : Hid ((limOut g4 fs).2.1.length ≤ c5) := hq5
          have F5 : Hid (Bx1 w (.bool g) (.slice a zs.length c) w5) := F1.out.later hB5
          have y1 := F5.out.r1
          have y2 := F5.out.r2
          have y3 := F5.out.r3
          clear hq5 hr5 hB1 hB5 hb4 hb5 hr4 p1 p2 p3 s0 s1
          generalize (limOut g4 fs).1 = G at *
          generalize (limOut g4 fs).2.1 = Z at *
          generalize (limOut g4 fs).2.2 = K at *
          go_wp2
          refine bodyPost_ret (v := .tuple #[.agg #[.bool G, .slice a5 Z.length c5], .int .i64 K]) (by simp [results, Try.results25, go_sem, y1, y2]) rfl ?_
          refine ⟨G, Z, K, a5, c5, rfl, hE.out, HQ.out, hqm5, ?_, ?_⟩
          · exact ((hR.out.setLow (by simp; omega) _).setLow (by simp; omega) _).down (by omega)
          · exact (F5.out.bel.setCell (by simp) _).setCell (by simp) _
        · have HS : Hid (shN x n = x / 2 ^ (-n).toNat) := by unfold Hid; rw [shN_down (by omega), show min (-n) 16384 = -n by omega]
          go_wp2_with fail
          refine (shdI_any g a c zs x (-n) _ (by omega) hp hpm (by omega) (by omega) (hz.later F1.out.bel) HB1.out).mono ?_
          rintro e w4 ⟨g4, a4, c4, fs, rfl, hB1, hl4, hf4, hm4, hr4, hb4⟩
          go_wp2_with fail
          refine (withinC_any g4 a4 c4 fs _ w1.heap.size (by omega) hf4 hm4 hr4).mono ?_
          rintro e w5 ⟨a5, c5, rfl, hq5, hqm5, hr5, hb5⟩
          have hB5 : Below w1.heap.size w1 w5 := hb4.trans (hb5.mono hb4.size)
          have hE : Hid (Res true (shN x n) (limOut g4 fs).1 (limOut g4 fs).2.1 (limOut g4 fs).2.2) := by unfold Hid; rw [HS.out]; exact res_lim hB1
          have hR : Hid (RowNew .u32 w5 w1.heap.size a5 (limOut g4 fs).2.1) := hr5
          have HQ : Hid ((limOut g4 fs).2.1.length ≤ c5) := hq5
          have F5 : Hid (Bx1 w (.bool g) (.slice a zs.length c) w5) := F1.out.later hB5
          have y1 := F5.out.r1
          have y2 := F5.out.r2
          have y3 := F5.out.r3
          clear hq5 hr5 hB1 hB5 hb4 hb5 hr4 p1 p2 p3 s0 s1
          generalize (limOut g4 fs).1 = G at *
          generalize (limOut g4 fs).2.1 = Z at *
          generalize (limOut g4 fs).2.2 = K at *
          go_wp2
          refine bodyPost_ret (v := .tuple #[.agg #[.bool G, .slice a5 Z.length c5], .int .i64 K]) (by simp [results, Try.results25, go_sem, y1, y2]) rfl ?_
          refine ⟨G, Z, K, a5, c5, rfl, hE.out, HQ.out, hqm5, ?_, ?_⟩
          · exact ((hR.out.setLow (by simp; omega) _).setLow (by simp; omega) _).down (by omega)
          · exact (F5.out.bel.setCell (by simp) _).setCell (by simp) _

theorem imShiftJ_any (g : Bool) (a : Option Addr) (c : Nat) (zs : List Int) (n : Int) (w : World) (hn : zs.length ≤ 1048576) (hp : zs.length ≤ c) (hpm : c ≤ maxLen) (hz : RowAt .u32 w a zs) (hu : U32 zs) :
    Calls Try.prog 25 #[.agg #[.bool g, .slice a zs.length c], .int .i64 n] w fun e w' => OutJ w (validB g zs) (shN (sg g (val 4294967296 zs)) n) e w' := by
  cases v1 : validB g zs
  · exact imShift_bad g a c zs n _ w hn hz v1
  · exact imShift_ok g a c zs _ n w (valid_canon hu v1).2.1 hp hpm hz (B1.of_valid hu v1) v1

theorem imShift_any (g : Bool) (a : Option Addr) (c : Nat) (zs : List Int) (n : Int) (w : World) (hn : zs.length ≤ 1048576) (hp : zs.length ≤ c) (hpm : c ≤ maxLen) (hz : RowAt .u32 w a zs) (hu : U32 zs) :
    Calls Try.prog 25 #[.agg #[.bool g, .slice a zs.length c], .int .i64 n] w fun e w' => OutI w (validB g zs) (shN (sg g (val 4294967296 zs)) n) e w' :=
  (imShiftJ_any g a c zs n w hn hp hpm hz hu).mono fun _ _ h => h.toI

end Go.Proofs.Ytlbegmepmeimkab
