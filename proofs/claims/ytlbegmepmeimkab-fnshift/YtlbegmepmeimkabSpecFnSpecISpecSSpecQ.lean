/-
  The model's negatives.
-/
import Derived.Test.YtlbegmepmeimkabSpecF
import Derived.Test.YtlbegmepmeimkabSpecH
import Derived.Test.YtlbegmepmeimkabSpecG
import Derived.Test.YtlbegmepmeimkabSpecO
import Derived.Test.YtlbegmepmeimkabNumW
namespace Go.Proofs.Ytlbegmepmeimkab
open Go.RowKit

set_option maxHeartbeats 1000000 in
theorem neg_any (g : Bool) (a : Option Addr) (c : Nat) (ds : List Int) (x : Int) (w : World) (hn : ds.length ≤ 1048576) (h : L1 w g a c ds x) :
    Calls Try.prog 67 #[.agg #[.bool g, .slice a ds.length c]] w fun e w' => ∃ g' ds', e = .returned (.agg #[.bool g', .slice a ds'.length c]) ∧ ds'.length ≤ ds.length ∧ L1 w' g' a c ds' (-x) ∧ Below w.heap.size w w' := by
  have hx : sg (!g) (val 65536 ds) = -x := by rw [sg_not, h.num]
  have HX : Hid (sg (!g) (val 65536 ds) = -x) := hx
  clear hx
  go_enter Try.func67, Try.ntmps67
  go_wp2_with fail
  refine (make_any (!g) a c ds _ hn h.cap (h.sl.later (bel2 _ _ _)) h.can.1).mono ?_
  rintro e w1 ⟨g', ds', rfl, hle, hL, hb1⟩
  have hb2 := hb1
  simp at hb2
  have r1 : w1.cell? ⟨w.heap.size + 1, 0, none⟩ = some (.bool false) := by rw [(bcell hb1).1 _ _ (by simp)]; simp [go_sem]
  have r2 : w1.cell? ⟨w.heap.size + 1, 1, none⟩ = some (.slice none 0 0) := by rw [(bcell hb1).1 _ _ (by simp)]; simp [go_sem]
  have r3 : ∀ j, w1.frozen? ⟨w.heap.size + 1, j, none⟩ = false := by intro j; rw [(bcell hb1).2 _ _ (by simp)]; simp [go_sem]
  have HB : Hid (Below w.heap.size w w1) := (bel2 _ _ _).trans (hb1.mono (by simp; omega))
  rw [HX.out] at hL
  have HL : Hid (L1 w1 g' a c ds' (-x)) := hL
  clear hL hb1 hb2
  go_wp2
  refine bodyPost_ret (v := .agg #[.bool g', .slice a ds'.length c]) (by simp [results, Try.results67, go_sem, r1, r2]) rfl ⟨g', ds', rfl, hle, ?_, ?_⟩
  · exact (HL.out.setNew h.sl.row hle (by simp) _).setNew h.sl.row hle (by simp) _
  · exact (HB.out.setCell (by simp) _).setCell (by simp) _

end Go.Proofs.Ytlbegmepmeimkab

/-
  The model's differences.
-/
namespace Go.Proofs.Ytlbegmepmeimkab
open Go.RowKit

set_option maxHeartbeats 4000000 in
theorem sub_any (g g' : Bool) (a a' : Option Addr) (c c' : Nat) (ds es : List Int) (x y : Int) (w : World) (hn : ds.length ≤ 100000) (hn' : es.length ≤ 100000) (h : L1 w g a c ds x) (h' : L1 w g' a' c' es y) :
    Calls Try.prog 37 #[.agg #[.bool g, .slice a ds.length c], .agg #[.bool g', .slice a' es.length c']] w fun e w' => ∃ g2 a2 c2 fs, e = .returned (.agg #[.bool g2, .slice a2 fs.length c2]) ∧ fs.length ≤ ds.length + es.length + 1 ∧ L1 w' g2 a2 c2 fs (x - y) ∧ Far w.heap.size a2 fs ∧ Below w.heap.size w w' := by
  go_enter Try.func37, Try.ntmps37
  go_wp2
  obtain ⟨W0, hW0⟩ : ∃ W0, W0 = (((w.alloc (.cells #[.bool g, .slice a ds.length c] 55)).alloc (.cells #[.bool g', .slice a' es.length c'] 55)).alloc (.cells #[.bool false, .slice none 0 0] 55)) := ⟨_, rfl⟩
  rw [← hW0]
  have F : Hid (AddF w g g' (.slice a ds.length c) (.slice a' es.length c') (.slice none 0 0) W0) := by rw [hW0]; exact AddF.start w g g' _ _ _ _ _ _
  clear hW0
  go_region_held3 (fun w' => w'.cell? ⟨w.heap.size, 0, none⟩ = some (.bool g) ∧ w'.cell? ⟨w.heap.size, 1, none⟩ = some (.slice a ds.length c) ∧ w'.cell? ⟨w.heap.size + 1, 0, none⟩ = some (.bool g') ∧ w'.cell? ⟨w.heap.size + 1, 1, none⟩ = some (.slice a' es.length c') ∧ Below (w.heap.size + 1 + 1) W0 w')
    (first | exact addS_of F.out.s (Below.refl _ _).drew | exact addS_of F.out.s (by assumption) | exact addS_of F.out.s (Below.setCell (Below.setCell (by assumption) (by simp) _) (by simp) _))
    (first
      | (go_at_call 67; refine (neg_any g' a' c' es y _ (by omega) (h'.later F.out.bel.drew)).mono ?_; rintro e w1 ⟨g1, fs1, rfl, hf1, hL1, hb1⟩; have hB1 : Below W0.heap.size W0 w1 := (Below.refl _ _).drew.trans hb1; have hB1' : Below (w.heap.size + 1 + 1) W0 w1 := hB1.mono (by have := F.out.le; omega))
      | (go_at_call 56; refine (add_any g g1 a a' c c' ds fs1 x (-y) _ (by omega) (by omega) (h.later (F.out.bel.trans (hB1.mono (by have := F.out.le; omega)))) hL1).mono ?_; rintro e w2 ⟨g2, a2, c2, fs, rfl, hfl, hL2, hfar, hb2⟩; have hB2 : Below W0.heap.size W0 w2 := hB1.trans (hb2.mono hB1.size); have hB2' : Below (w.heap.size + 1 + 1) W0 w2 := hB2.mono (by have := F.out.le; omega); have F2 : Hid (AddF w g g' (.slice a ds.length c) (.slice a' es.length c') (.slice none 0 0) w2) := F.out.later hB2; have r1 := F2.out.r1; have r2 := F2.out.r2; have r3 := F2.out.r3))
  have HF : Hid (Far W0.heap.size a2 fs) := hfar.down hB1.size
  have HL : Hid (L1 w2 g2 a2 c2 fs (x + -y)) := hL2
  clear hfar hL2 hB1 hB1' hB2 hB2' hb1 hb2 hL1
  go_wp2
  refine bodyPost_ret (v := .agg #[.bool g2, .slice a2 fs.length c2]) (by simp [results, Try.results37, go_sem, r1, r2]) rfl ⟨g2, a2, c2, fs, rfl, by omega, ?_, HF.out.down (by have := F.out.le; omega), ?_⟩
  · rw [show x - y = x + -y by omega]
    have hle := F.out.le
    exact (HL.out.setFar HF.out (by simp; omega) _).setFar HF.out (by simp; omega) _
  · exact (F2.out.bel.setCell (by simp; omega) _).setCell (by simp; omega) _

end Go.Proofs.Ytlbegmepmeimkab

/-
  The model's small numbers.
-/
namespace Go.Proofs.Ytlbegmepmeimkab
open Go.RowKit

theorem l1_small {w : World} {a : Option Addr} {c : Nat} {v : Int} (h0 : 0 ≤ v) (h1 : v ≤ 65535) (hc : c ≤ maxLen) (h : Sl .i64 w a c (if v = 0 then [] else [v])) : L1 w false a c (if v = 0 then [] else [v]) v := by
  by_cases hv : v = 0
  · subst hv
    rw [if_pos rfl] at h ⊢
    exact ⟨h, ⟨Dig.nil _, rfl⟩, by simp [sg, val], (fun hg => by cases hg), hc⟩
  · rw [if_neg hv] at h ⊢
    exact ⟨h, ⟨Dig.cons h0 (by omega) (Dig.nil _), by simp [trimL, hv]⟩, by simp [sg, val], (fun hg => by cases hg), hc⟩

/-- What l1small hands back. -/
def SmallOut (w : World) (v : Int) (e : Ending) (w' : World) : Prop :=
  ∃ (a : Option Addr) (c : Nat) (ds : List Int), e = .returned (.agg #[.bool false, .slice a ds.length c]) ∧ ds.length ≤ 1 ∧ L1 w' false a c ds v ∧ Far (w.heap.size + 1) a ds ∧ Below w.heap.size w w'

set_option maxHeartbeats 2000000 in
theorem small_any (v : Int) (w : World) (h0 : 0 ≤ v) (h1 : v ≤ 65535) :
    Calls Try.prog 55 #[.int .i64 v] w fun e w' => SmallOut w v e w' := by
  go_enter Try.func55, Try.ntmps55
  go_wp2
  go_loopw [4, 5] (fun su sd wr => ∃ (u : Int) (ys : List Int), su = .int .u64 u ∧ ((u = v ∧ ys = []) ∨ (u = 0 ∧ ys = [v] ∧ 0 < v)) ∧ wr.ownsRow (w.heap.size + 1) 3 1 sd ys.length (vals .i64 ys) ∧ Below (w.heap.size + 1) (w.alloc (.cells #[.bool false, .slice none 0 0] 55)) wr ∧ w.heap.size + 1 ≤ wr.heap.size) (fun su _ _ => (intOf su).toNat)
  case atStart => exact ⟨v, [], rfl, .inl ⟨rfl, rfl⟩, own_nil _ _ _ _, Below.refl _ _, by simp⟩
  case round =>
    obtain ⟨u, ys, rfl, hcase, hown, hnx, hsz⟩ := hrel
    have hu0 : 0 ≤ u := by omega
    have hu1 : u ≤ 65535 := by omega
    by_cases hu : 0 < u
    · have hy : ys = [] ∧ u = v := by
        rcases hcase with ⟨h, h'⟩ | ⟨h, _, _⟩
        · exact ⟨h', h⟩
        · omega
      obtain ⟨hy, huv⟩ := hy
      subst hy huv
      have E1 : Hid (u % 65536 = u) := by unfold Hid; omega
      have E2 : Hid (u / 65536 = 0) := by unfold Hid; omega
      clear hcase
      go_wp2_with (at_builtin; refine app1 rfl (.tmp 15) (.tmp 19) 53 rfl (w.heap.size + 1) 3 Try.underlying53 Try.info3 (by decide) _ _ rfl rfl hown (by simp) hsz ?_; intro a1 n1 c1 w1 hown1 hb1 hs1)
      rw [E1.out] at hown1
      go_roundw
      case rel => exact ⟨0, [u], by rw [E2.out], .inr ⟨rfl, rfl, hu⟩, hown1, hnx.trans hb1, by omega⟩
      case measure => simp only [intOf]; rw [E2.out]; omega
    · have hu00 : u = 0 := by omega
      subst hu00
      have hys : ys = (if v = 0 then [] else [v]) := by
        rcases hcase with ⟨h, h'⟩ | ⟨_, h', h⟩
        · rw [h', if_pos h.symm]
        · rw [h', if_neg (by omega)]
      obtain ⟨a', c', rfl, hcm, hsl, hrn⟩ := own_row hown
      have r1 : wr.cell? ⟨w.heap.size, 0, none⟩ = some (.bool false) := by rw [hnx.cell (by simp)]; simp [go_sem]
      have r2 : wr.cell? ⟨w.heap.size, 1, none⟩ = some (.slice none 0 0) := by rw [hnx.cell (by simp)]; simp [go_sem]
      have r3 : ∀ j, wr.frozen? ⟨w.heap.size, j, none⟩ = false := by intro j; rw [hnx.frozen (by simp)]; simp [go_sem]
      have HF : Hid (Far (w.heap.size + 1) a' ys) := hrn.far (Nat.le_refl _) (Nat.le_refl _)
      have HL : Hid (L1 wr false a' c' ys v) := by unfold Hid; rw [hys] at hsl ⊢; exact l1_small h0 h1 hcm hsl
      have HB : Hid (Below w.heap.size w wr) := (bel0 _ _).trans (hnx.mono (by omega))
      have hyl : ys.length ≤ 1 := by rw [hys]; split <;> simp
      clear hown hnx hsl hrn hcase hys
      go_wp2
      refine bodyPost_ret (v := .agg #[.bool false, .slice a' ys.length c']) (by simp [results, Try.results55, go_sem, r1, r2, h0]) rfl ?_
      refine ⟨a', c', ys, rfl, hyl, ?_, HF.out, ?_⟩
      · exact (HL.out.setFar HF.out (by simp) _).setFar HF.out (by simp) _
      · exact (HB.out.setCell (by simp) _).setCell (by simp) _

end Go.Proofs.Ytlbegmepmeimkab

/-
  The model's BigShift.
-/
namespace Go.Proofs.Ytlbegmepmeimkab
open Go.RowKit

set_option maxHeartbeats 1000000 in
theorem spShift_bad (g : Bool) (a : Option Addr) (c : Nat) (zs : List Int) (n x : Int) (w : World) (hn : zs.length ≤ 1048576) (hz : RowAt .u32 w a zs) (v1 : validB g zs = false) :
    Calls Try.prog 24 #[.agg #[.bool g, .slice a zs.length c], .int .i64 n] w fun e w' => OutS w false x e w' := by
  go_enter Try.func24, Try.ntmps24
  go_wp2_with fail
  refine (validS_any g a c zs _ (by unfold maxLen; omega) (hz.later (bel2 _ _ _))).mono ?_
  rintro e w1 ⟨rfl, hb1⟩
  rw [v1]
  have F1 : Hid (Bx1 w (.bool g) (.slice a zs.length c) w1) := (Bx1.start w _ _ _ _).later hb1
  clear hb1
  have r1 := F1.out.r1
  have r2 := F1.out.r2
  have r3 := F1.out.r3
  go_wp2
  refine bodyPost_ret (v := .tuple #[.agg #[.bool false, .slice none 0 0], .int .i64 1]) (by simp [results, Try.results24, go_sem, r1, r2]) rfl ?_
  refine ⟨false, [], 1, none, 0, rfl, .inl ⟨rfl, rfl, rfl, rfl⟩, .inl rfl, .inl rfl, ?_⟩
  exact (F1.out.bel.setCell (by simp) _).setCell (by simp) _

theorem sg_nil {w : World} {g : Bool} {a : Option Addr} {c : Nat} {x : Int} (h : L1 w g a c [] x) : x = 0 := by rw [h.num]; simp [sg, val]

set_option maxHeartbeats 4000000 in
theorem spShift_up (g : Bool) (a : Option Addr) (c : Nat) (zs : List Int) (x n : Int) (w : World) (hn : zs.length ≤ 512) (hz : RowAt .u32 w a zs) (h : B1 g zs x) (v1 : validB g zs = true) (n0 : 0 ≤ n) :
    Calls Try.prog 24 #[.agg #[.bool g, .slice a zs.length c], .int .i64 n] w fun e w' => OutS w true (shN x n) e w' := by
  have hu := h.can.1
  have HX : Hid (x = sg g (val 4294967296 zs)) := h.num
  have HB1 : Hid (B1 g zs x) := h
  go_enter Try.func24, Try.ntmps24
  go_wp2_with fail
  refine (validS_any g a c zs _ (by unfold maxLen; omega) (hz.later (bel2 _ _ _))).mono ?_
  rintro e w1 ⟨rfl, hb1⟩
  rw [v1]
  have F1 : Hid (Bx1 w (.bool g) (.slice a zs.length c) w1) := (Bx1.start w _ _ _ _).later hb1
  clear hb1
  have s0 := F1.out.q0
  have s1 := F1.out.q1
  go_wp2_with fail
  refine (of_any g a c zs _ (by omega) (hz.later F1.out.bel) hu).mono ?_
  rintro e w2 ⟨g1, a1, c1, ds, rfl, hl1, hL1, hb2⟩
  rw [← HX.out] at hL1
  have F2 : Hid (Bx1 w (.bool g) (.slice a zs.length c) w2) := F1.out.later hb2
  have HL1 : Hid (L1 w2 g1 a1 c1 ds x) := hL1
  have zz : w.heap.size + 1 < w2.heap.size := F2.out.le
  clear hb2 s0 s1 F1 hL1
  by_cases hd : ds.length = 0
  · have hde : ds = [] := List.length_eq_zero_iff.1 hd
    subst hde
    have hx0 : x = 0 := sg_nil HL1.out
    have HR : Hid (Res true (shN x n) false [] 0) := by unfold Hid; rw [hx0]; exact res_zero
    have p1 := F2.out.r1
    have p2 := F2.out.r2
    have p3 := F2.out.r3
    clear hx0
    go_wp2
    all_goals
      refine bodyPost_ret (v := .tuple #[.agg #[.bool false, .slice none 0 0], .int .i64 0]) (by simp [results, Try.results24, go_sem, p1, p2, zz]) rfl ?_
      refine ⟨false, [], 0, none, 0, rfl, HR.out, .inl rfl, .inl rfl, ?_⟩
      exact ((F2.out.bel.setCell (by simp) _).setCell (by simp) _).alloc (by simp; omega) _
  · have hd1 : ((ds.length : Int) == 0) = false := by rw [beq_eq_false_iff_ne]; omega
    have hd2 : (0 : Int) < ds.length := by omega
    by_cases hf : 16384 < n
    · have HR : Hid (Res true (shN x n) false [] 2) := by
        refine res_far HB1.out ?_ hf
        intro e
        have h1 := HB1.out.num
        have h2 := HL1.out.num
        rw [e] at h1
        have h3 := val_pos (B := 65536) (by decide) HL1.out.can (fun e => hd (by rw [e]; rfl))
        cases g <;> cases g1 <;> simp [sg, val] at h1 h2 <;> omega
      have p1 := F2.out.r1
      have p2 := F2.out.r2
      have p3 := F2.out.r3
      go_wp2
      refine bodyPost_ret (v := .tuple #[.agg #[.bool false, .slice none 0 0], .int .i64 2]) (by simp [results, Try.results24, go_sem, p1, p2, zz]) rfl ?_
      refine ⟨false, [], 2, none, 0, rfl, HR.out, .inl rfl, .inl rfl, ?_⟩
      exact ((F2.out.bel.setCell (by simp) _).setCell (by simp) _).alloc (by simp; omega) _
    · have HS : Hid (shN x n = x * 2 ^ n.toNat) := shN_up n0 (by omega)
      go_wp2_with fail
      refine (up_any g1 a1 c1 ds x n _ (by omega) n0 (by omega) (HL1.out.later (bel0 _ _))).mono ?_
      rintro e w3 ⟨g3, a3, c3, fs, rfl, hl3, hL3, hF3, hb3⟩
      have F3 : Hid (Bx1 w (.bool g) (.slice a zs.length c) w3) := (F2.out.later (bel0 _ _)).later hb3
      have HL3 : Hid (L1 w3 g3 a3 c3 fs (x * 2 ^ n.toNat)) := hL3
      clear hL3 hF3 hb3
      go_wp2_with fail
      refine (big_any g3 a3 c3 fs _ (by omega) HL3.out.sl.row HL3.out.can.1).mono ?_
      rintro e w5 ⟨a5, c5, rfl, hr5, hf5, hb5⟩
      have F5 : Hid (Bx1 w (.bool g) (.slice a zs.length c) w5) := F3.out.later hb5
      have p1 := F5.out.r1
      have p2 := F5.out.r2
      have p3 := F5.out.r3
      have hE : Hid (Res true (shN x n) (bigOut g3 fs).1 (bigOut g3 fs).2.1 (bigOut g3 fs).2.2) := by unfold Hid; rw [HS.out]; exact res_big HL3.out
      have hF : Hid (Far (w.heap.size + 1 + 1) a5 (bigOut g3 fs).2.1) := hf5.down F3.out.le
      have hR : Hid (RowAt .u32 w5 a5 (bigOut g3 fs).2.1) := hr5
      clear hr5 hf5 hb5 F3 F2 HL3 HL1
      generalize (bigOut g3 fs).1 = G at *
      generalize (bigOut g3 fs).2.1 = Z at *
      generalize (bigOut g3 fs).2.2 = K at *
      go_wp2
      refine bodyPost_ret (v := .tuple #[.agg #[.bool G, .slice a5 Z.length c5], .int .i64 K]) (by simp [results, Try.results24, go_sem, p1, p2]) rfl ?_
      refine ⟨G, Z, K, a5, c5, rfl, hE.out, ?_, hF.out.down (by omega), ?_⟩
      · exact (hR.out.setAway (hF.out.away (by simp)) _).setAway (hF.out.away (by simp)) _
      · exact (F5.out.bel.setCell (by simp) _).setCell (by simp) _

end Go.Proofs.Ytlbegmepmeimkab
