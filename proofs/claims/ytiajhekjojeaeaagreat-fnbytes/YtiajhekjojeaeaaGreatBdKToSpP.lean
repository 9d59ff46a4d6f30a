/-
  Drawn scenes at the limits, and any drawn scene.
-/
import Derived.Test.YtiajhekjojeaeaaGreatBdJ
import Derived.Test.YtiajhekjojeaeaaGreatDrawFb
import Derived.Test.YtiajhekjojeaeaaGreatIdEIdMIdHBdI
import Derived.Test.YtiajhekjojeaeaaGreatBytesToSpF
import Derived.Test.YtiajhekjojeaeaaGreatWithin
import Derived.Test.YtiajhekjojeaeaaGreatSpD2ScMScJBytes2LawDs
import Derived.BigQuiet
namespace Go.Proofs.YtiajhekjojeaeaaGreat
open Go.RowKit

/-- Rays along an axis. -/
def capR : Nat → List Int
  | 0 => []
  | i + 1 => capR i ++ [0, (i : Int), 0, 1065353216, 0, 0]
theorem capR_length : ∀ n, (capR n).length = n * 6
  | 0 => rfl
  | n + 1 => by rw [capR, List.length_append, capR_length n]; simp; omega
theorem capR_u32 : ∀ n, n ≤ 1000 → U32 (capR n)
  | 0, _ => fun z hz => by simp [capR] at hz
  | n + 1, hn => by
    intro z hz
    rcases List.mem_append.1 hz with h | h
    · exact capR_u32 n (by omega) z h
    · simp at h
      omega

theorem rowIn_apart {k : IntKind} {w : World} {lo hi : Nat} {a : Option Addr} {zs : List Int} (h : RowIn k w lo hi a zs) (X j : Nat) (v : Value) (hX : X < lo ∨ hi ≤ X) : RowIn k (w.setCell ⟨X, j, none⟩ v) lo hi a zs := h.apart ((Within.refl X (X + 1) w).setCell (p := ⟨X, j, none⟩) (Nat.le_refl _) (Nat.lt_succ_self _) v) (by omega)

set_option maxRecDepth 100000 in
set_option maxHeartbeats 4000000 in
theorem scene7 (rs : List Int) (HK : Hid (rs.headD 0 = 7)) : ∃ n1 n2 n3 z1 z2 z3 rs', SceneD rs n1 n2 n3 z1 z2 z3 rs' := by
  obtain ⟨d, hd⟩ : ∃ k, k = rs.tail.headD 0 := ⟨_, rfl⟩
  have HD : Hid (rs.tail.headD 0 = d) := hd.symm
  obtain ⟨e3, he3⟩ : ∃ n : Nat, n = (d % 3).toNat := ⟨_, rfl⟩
  have HE3 : Hid (d % 3 = e3) := show d % 3 = (e3 : Int) by omega
  have he2 : e3 ≤ 2 := by omega
  refine ⟨2, 39 + e3, 0, manyZ 2, capR (39 + e3), [], rs.tail.tail, by omega, by omega, by omega, rfl, capR_length _, rfl, manyZ_u32 2, capR_u32 (39 + e3) (by omega), fun z hz => by simp at hz, ?_⟩
  clear hd he3
  intro P w h
  have hP := h.lt
  have HS : Hid (Rs P rs w) := h
  clear h
  obtain ⟨W0, hW0⟩ : ∃ W0, W0 = w.alloc (.cells #[.slice none 0 0, .slice none 0 0, .slice none 0 0] 27) := ⟨_, rfl⟩
  have X0 : Hid (BxF W0 w.heap.size (.slice none 0 0) (.slice none 0 0) (.slice none 0 0)) := by unfold Hid; rw [hW0]; exact BxF.new _ _ _ _ _
  have H0 : Hid (Rs P rs W0 ∧ Aside P w W0) := by unfold Hid; rw [hW0]; exact ⟨HS.out.later (bel0 _ _), Aside.of (bel0 _ _)⟩
  go_enter Tryz.func20, Tryz.ntmps20
  go_wp2_with fail
  rw [← hW0]
  clear hW0
  refine (nextF_any P rs _ H0.out.1).mono ?_
  rintro e w1 ⟨rfl, c0, c1, hr, ha⟩
  rw [HK.out]
  have X1 : Hid (BxF w1 w.heap.size (.slice none 0 0) (.slice none 0 0) (.slice none 0 0)) := X0.out.aside ha (show w.heap.size ≠ P by omega)
  have H1 : Hid (Rs P rs.tail w1 ∧ Aside P w w1) := ⟨hr, H0.out.2.trans ha⟩
  clear hr ha X0 H0 c0 c1
  go_wp2_with fail
  refine (nextF_any P rs.tail _ H1.out.1).mono ?_
  rintro e w2 ⟨rfl, d0, d1, hr, ha⟩
  rw [HD.out] at d0 d1 ⊢
  have X2 : Hid (BxF w2 w.heap.size (.slice none 0 0) (.slice none 0 0) (.slice none 0 0)) := X1.out.aside ha (show w.heap.size ≠ P by omega)
  have H2 : Hid (Rs P rs.tail.tail w2 ∧ Aside P w w2) := ⟨hr, H1.out.2.trans ha⟩
  have hm3 : d.tmod 3 = e3 := by rw [Int.tmod_eq_emod_of_nonneg d0]; exact HE3.out
  clear hr ha X1 H1
  go_wp2_with fail
  refine (many_any 2 _ (by decide)).mono ?_
  rintro e w3 ⟨v1, rfl, hM⟩
  obtain ⟨a1, k1, rfl, hr1⟩ := own_flat hM.own rfl
  have X3 := X2.out.aside (Aside.of (P := P) hM.bel) (show w.heap.size ≠ P by omega)
  have hwl : w.heap.size < w3.heap.size := X3.lt
  have y2 : w2.heap.size ≤ w3.heap.size := hM.bel.size
  have x2 : w.heap.size < w2.heap.size := X2.out.lt
  obtain ⟨W3, hW3⟩ : ∃ W, W = w3.alloc (.cells #[.slice a1 2 k1, .slice none 0 0, .slice none 0 0] 27) := ⟨_, rfl⟩
  have bW : Below w3.heap.size w3 W3 := by rw [hW3]; exact bel0 _ _
  have S3 : Hid (SnS w P w.heap.size w3.heap.size (.slice a1 2 k1) (.slice none 0 0) (.slice none 0 0) rs.tail.tail W3) := by
    refine ⟨(H2.out.1.later hM.bel).later bW, X3.aside (Aside.of (P := P) bW) (by omega), ?_, (H2.out.2.trans (Aside.of hM.bel)).trans (Aside.of bW), rfl, hwl, hP⟩
    rw [hW3]
    exact BxF.new _ _ _ _ _
  have R3 : Hid (RowIn .u32 W3 w2.heap.size w3.heap.size a1 (manyZ 2)) := hr1.later bW
  have z3 : W3.heap.size = w3.heap.size + 1 := by rw [hW3]; simp
  clear hM hr1 X3 bW X2 H2
  go_upto_region 5 with fail
  rw [← hW3]
  clear hW3
  go_wp2
  go_loopw [7] (fun si wr => ∃ (j : Nat) (v : Value), j ≤ 39 + e3 ∧ si = .int .i64 j ∧ Hid (SnS w P w.heap.size w3.heap.size (.slice a1 2 k1) v (.slice none 0 0) rs.tail.tail wr) ∧ Hid (wr.ownsRow W3.heap.size 55 6 v j (vals .u32 (capR j))) ∧ Hid (RowIn .u32 wr w2.heap.size w3.heap.size a1 (manyZ 2)) ∧ W3.heap.size ≤ wr.heap.size) (fun si _ => 39 + e3 - (intOf si).toNat)
  case atStart => exact ⟨0, _, Nat.zero_le _, rfl, S3, ⟨by simp [vals, capR], .inl ⟨rfl, rfl⟩⟩, R3, Nat.le_refl _⟩
  case round =>
    obtain ⟨j, v, hj, rfl, hS, hO, hR, hz⟩ := hrel
    by_cases hc : j < 39 + e3
    · have hin : (j : Int) < 39 + (e3 : Int) := by omega
      have c5 := hS.out.by_.q1
      go_wp2_with (at_builtin; refine app6w rfl (.tmp 32) (.tmp 38) rfl W3.heap.size _ j _ _ _ _ _ _ _ _ rfl rfl hO.out (by omega) hz ?_; intro g1 k2 w4 ho1 hb1; have S4 := hS.out.above hb1 (by omega); have u0 := S4.by_.q1; have u1 := S4.by_.fr 1; have R4 := rowIn_below hR.out hb1 (by omega); have z4 := hb1.size)
      have HS4 : Hid (SnS w P w.heap.size w3.heap.size (.slice a1 2 k1) (.slice (some ⟨g1, 0, none⟩) (j + 1) k2) (.slice none 0 0) rs.tail.tail (w4.setCell ⟨w3.heap.size, 1, none⟩ (.slice (some ⟨g1, 0, none⟩) (j + 1) k2))) := S4.put 1 _ (S4.by_.set1 _)
      have HO4 : Hid ((w4.setCell ⟨w3.heap.size, 1, none⟩ (.slice (some ⟨g1, 0, none⟩) (j + 1) k2)).ownsRow W3.heap.size 55 6 (.slice (some ⟨g1, 0, none⟩) (j + 1) k2) (j + 1) (vals .u32 (capR (j + 1)))) := own_low ho1 (by simp; omega) _
      have HR4 : Hid (RowIn .u32 (w4.setCell ⟨w3.heap.size, 1, none⟩ (.slice (some ⟨g1, 0, none⟩) (j + 1) k2)) w2.heap.size w3.heap.size a1 (manyZ 2)) := rowIn_apart R4 w3.heap.size 1 _ (.inr (Nat.le_refl _))
      have HZ4 : W3.heap.size ≤ (w4.setCell ⟨w3.heap.size, 1, none⟩ (.slice (some ⟨g1, 0, none⟩) (j + 1) k2)).heap.size := by simp at z4 ⊢; omega
      clear ho1 hb1 S4 u0 u1 R4 z4 c5
      go_roundw
      case rel => exact ⟨j + 1, _, by omega, by go_num, HS4, HO4, HR4, HZ4⟩
      case measure => simp [intOf]; omega
    · obtain ⟨n2, hn2⟩ : ∃ n, n = 39 + e3 := ⟨_, rfl⟩
      have hje : j = n2 := by omega
      subst hje
      have hin : ¬ (j : Int) < 39 + (e3 : Int) := by omega
      obtain ⟨a2, k2, rfl, hr2⟩ := own_flat hO.out (capR_length j)
      have Q : Hid (RowIn .u32 wr W3.heap.size wr.heap.size a2 (capR j)) := hr2
      clear hr2 hO
      have HN2 : Hid (j = 39 + e3) := hn2
      clear hn2
      have x0 := hS.out.bx.q0
      have x1 := hS.out.bx.q1
      have x2' := hS.out.bx.q2
      have f0 := hS.out.bx.fr 0
      have f1 := hS.out.bx.fr 1
      have f2 := hS.out.bx.fr 2
      have v0 := hS.out.by_.q0
      have v1 := hS.out.by_.q1
      have v2 := hS.out.by_.q2
      go_wp2
      refine bodyPost_ret (v := .agg #[.slice a1 2 k1, .slice a2 j k2, .slice none 0 0]) (by simp [results, Tryz.results20, go_sem, x0, x1, x2']) rfl ?_
      have key : ∀ {lo hi : Nat} {a : Option Addr} {zs : List Int}, RowIn .u32 wr lo hi a zs → w.heap.size < lo → RowIn .u32 (((wr.setCell ⟨w.heap.size, 0, none⟩ (.slice a1 2 k1)).setCell ⟨w.heap.size, 1, none⟩ (.slice a2 j k2)).setCell ⟨w.heap.size, 2, none⟩ (.slice none 0 0)) lo hi a zs := by
        intro lo hi a zs hr hl
        exact rowIn_aside (rowIn_aside (rowIn_aside hr ((Aside.refl w.heap.size _).set 0 _) hl) ((Aside.refl w.heap.size _).set 1 _) hl) ((Aside.refl w.heap.size _).set 2 _) hl
      have hzz : (((wr.setCell ⟨w.heap.size, 0, none⟩ (.slice a1 2 k1)).setCell ⟨w.heap.size, 1, none⟩ (.slice a2 j k2)).setCell ⟨w.heap.size, 2, none⟩ (.slice none 0 0)).heap.size = wr.heap.size := by simp
      rw [← HN2.out]
      refine ⟨a1, a2, none, k1, k2, 0, w2.heap.size, w3.heap.size, W3.heap.size, wr.heap.size, wr.heap.size, wr.heap.size, rfl, ?_, ?_, ?_⟩
      · exact ⟨rfl, capR_length _, rfl, ⟨by omega, by rw [hzz]; omega⟩, ⟨by omega, by rw [hzz]; omega⟩, ⟨by omega, by rw [hzz]; omega⟩, .inl (by omega), .inl (by omega), .inl (by omega), Nat.le_refl _, key hR.out (by omega), key Q.out (by omega), .inl rfl⟩
      · exact ((hS.out.rs.set hP 0 _).set hP 1 _).set hP 2 _
      · exact ((hS.out.asd.setHigh (p := ⟨w.heap.size, 0, none⟩) (Nat.le_refl _) _).setHigh (p := ⟨w.heap.size, 1, none⟩) (Nat.le_refl _) _).setHigh (p := ⟨w.heap.size, 2, none⟩) (Nat.le_refl _) _


end Go.Proofs.YtiajhekjojeaeaaGreat

/-
  Drawn scenes at the limits: many triangles.
-/
namespace Go.Proofs.YtiajhekjojeaeaaGreat
open Go.RowKit

set_option maxRecDepth 100000 in
set_option maxHeartbeats 4000000 in
theorem scene8 (rs : List Int) (HK : Hid (rs.headD 0 = 8)) : ∃ n1 n2 n3 z1 z2 z3 rs', SceneD rs n1 n2 n3 z1 z2 z3 rs' := by
  obtain ⟨d, hd⟩ : ∃ k, k = rs.tail.headD 0 := ⟨_, rfl⟩
  have HD : Hid (rs.tail.headD 0 = d) := hd.symm
  obtain ⟨e3, he3⟩ : ∃ n : Nat, n = (d % 3).toNat := ⟨_, rfl⟩
  have HE3 : Hid (d % 3 = e3) := show d % 3 = (e3 : Int) by omega
  have he2 : e3 ≤ 2 := by omega
  refine ⟨39 + e3, 0, 1, manyZ (39 + e3), [], [0, 0, 0], rs.tail.tail, by omega, by omega, by omega, manyZ_length _, rfl, rfl, manyZ_u32 (39 + e3), fun z hz => by simp at hz, fun z hz => by simp at hz; omega, ?_⟩
  clear hd he3
  intro P w h
  have hP := h.lt
  have HS : Hid (Rs P rs w) := h
  clear h
  obtain ⟨W0, hW0⟩ : ∃ W0, W0 = w.alloc (.cells #[.slice none 0 0, .slice none 0 0, .slice none 0 0] 27) := ⟨_, rfl⟩
  have X0 : Hid (BxF W0 w.heap.size (.slice none 0 0) (.slice none 0 0) (.slice none 0 0)) := by unfold Hid; rw [hW0]; exact BxF.new _ _ _ _ _
  have H0 : Hid (Rs P rs W0 ∧ Aside P w W0) := by unfold Hid; rw [hW0]; exact ⟨HS.out.later (bel0 _ _), Aside.of (bel0 _ _)⟩
  go_enter Tryz.func20, Tryz.ntmps20
  go_wp2_with fail
  rw [← hW0]
  clear hW0
  refine (nextF_any P rs _ H0.out.1).mono ?_
  rintro e w1 ⟨rfl, c0, c1, hr, ha⟩
  rw [HK.out]
  have X1 : Hid (BxF w1 w.heap.size (.slice none 0 0) (.slice none 0 0) (.slice none 0 0)) := X0.out.aside ha (show w.heap.size ≠ P by omega)
  have H1 : Hid (Rs P rs.tail w1 ∧ Aside P w w1) := ⟨hr, H0.out.2.trans ha⟩
  clear hr ha X0 H0 c0 c1
  go_wp2_with fail
  refine (nextF_any P rs.tail _ H1.out.1).mono ?_
  rintro e w2 ⟨rfl, d0, d1, hr, ha⟩
  rw [HD.out] at d0 d1 ⊢
  have X2 : Hid (BxF w2 w.heap.size (.slice none 0 0) (.slice none 0 0) (.slice none 0 0)) := X1.out.aside ha (show w.heap.size ≠ P by omega)
  have H2 : Hid (Rs P rs.tail.tail w2 ∧ Aside P w w2) := ⟨hr, H1.out.2.trans ha⟩
  have hm3 : d.tmod 3 = e3 := by rw [Int.tmod_eq_emod_of_nonneg d0]; exact HE3.out
  clear hr ha X1 H1
  go_wp2_with fail
  have HM := many_any (39 + e3) w2 (by omega)
  rw [show (((39 + e3 : Nat) : Int)) = 39 + (e3 : Int) from by omega] at HM
  refine HM.mono ?_
  clear HM
  rintro e w3 ⟨v1, rfl, hM⟩
  obtain ⟨a1, k1, rfl, hr1⟩ := own_flat hM.own (manyZ_length (39 + e3))
  have X3 := X2.out.aside (Aside.of (P := P) hM.bel) (show w.heap.size ≠ P by omega)
  have hwl : w.heap.size < w3.heap.size := X3.lt
  have y2 : w2.heap.size ≤ w3.heap.size := hM.bel.size
  have x2 : w.heap.size < w2.heap.size := X2.out.lt
  have H3 : Hid (Rs P rs.tail.tail w3 ∧ Aside P w w3) := ⟨H2.out.1.later hM.bel, H2.out.2.trans (Aside.of hM.bel)⟩
  have R3 : Hid (RowIn .u32 w3 w2.heap.size w3.heap.size a1 (manyZ (39 + e3))) := hr1
  have q0 : ∀ o, (w3.alloc o).cell? ⟨w.heap.size, 0, none⟩ = some (.slice none 0 0) := fun o => ((bcell (bel0 w3 o)).1 _ _ hwl).trans X3.q0
  have q1 : ∀ o, (w3.alloc o).cell? ⟨w.heap.size, 1, none⟩ = some (.slice none 0 0) := fun o => ((bcell (bel0 w3 o)).1 _ _ hwl).trans X3.q1
  have q2 : ∀ o, (w3.alloc o).cell? ⟨w.heap.size, 2, none⟩ = some (.slice none 0 0) := fun o => ((bcell (bel0 w3 o)).1 _ _ hwl).trans X3.q2
  have f0 : ∀ o, (w3.alloc o).frozen? ⟨w.heap.size, 0, none⟩ = false := fun o => ((bcell (bel0 w3 o)).2 _ _ hwl).trans (X3.fr 0)
  have f1 : ∀ o, (w3.alloc o).frozen? ⟨w.heap.size, 1, none⟩ = false := fun o => ((bcell (bel0 w3 o)).2 _ _ hwl).trans (X3.fr 1)
  have f2 : ∀ o, (w3.alloc o).frozen? ⟨w.heap.size, 2, none⟩ = false := fun o => ((bcell (bel0 w3 o)).2 _ _ hwl).trans (X3.fr 2)
  have hPw : w.heap.size ≠ P := by omega
  have g1 : ∀ x o, ((w3.setCell ⟨w.heap.size, 0, none⟩ x).alloc o).cell? ⟨w.heap.size, 1, none⟩ = some (.slice none 0 0) := fun x o => ((X3.set0 x).aside (Aside.of (P := P) (bel0 _ _)) hPw).q1
  have g1f : ∀ x o, ((w3.setCell ⟨w.heap.size, 0, none⟩ x).alloc o).frozen? ⟨w.heap.size, 1, none⟩ = false := fun x o => ((X3.set0 x).aside (Aside.of (P := P) (bel0 _ _)) hPw).fr 1
  have g2 : ∀ x y o, (((w3.setCell ⟨w.heap.size, 0, none⟩ x).setCell ⟨w.heap.size, 1, none⟩ y).alloc o).cell? ⟨w.heap.size, 2, none⟩ = some (.slice none 0 0) := fun x y o => (((X3.set0 x).set1 y).aside (Aside.of (P := P) (bel0 _ _)) hPw).q2
  have g2f : ∀ x y o, (((w3.setCell ⟨w.heap.size, 0, none⟩ x).setCell ⟨w.heap.size, 1, none⟩ y).alloc o).frozen? ⟨w.heap.size, 2, none⟩ = false := fun x y o => (((X3.set0 x).set1 y).aside (Aside.of (P := P) (bel0 _ _)) hPw).fr 2
  have g3 : ∀ x y z o, ((((w3.setCell ⟨w.heap.size, 0, none⟩ x).setCell ⟨w.heap.size, 1, none⟩ y).setCell ⟨w.heap.size, 2, none⟩ z).alloc o).cell? ⟨w.heap.size, 0, none⟩ = some x := fun x y z o => ((((X3.set0 x).set1 y).set2 z).aside (Aside.of (P := P) (bel0 _ _)) hPw).q0
  have g4 : ∀ x y z o, ((((w3.setCell ⟨w.heap.size, 0, none⟩ x).setCell ⟨w.heap.size, 1, none⟩ y).setCell ⟨w.heap.size, 2, none⟩ z).alloc o).cell? ⟨w.heap.size, 1, none⟩ = some y := fun x y z o => ((((X3.set0 x).set1 y).set2 z).aside (Aside.of (P := P) (bel0 _ _)) hPw).q1
  have g5 : ∀ x y z o, ((((w3.setCell ⟨w.heap.size, 0, none⟩ x).setCell ⟨w.heap.size, 1, none⟩ y).setCell ⟨w.heap.size, 2, none⟩ z).alloc o).cell? ⟨w.heap.size, 2, none⟩ = some z := fun x y z o => ((((X3.set0 x).set1 y).set2 z).aside (Aside.of (P := P) (bel0 _ _)) hPw).q2
  clear hM hr1 X3 X2 H2
  go_wp2
  refine bodyPost_ret (v := .agg #[.slice a1 (39 + e3) k1, .slice none 0 0, .slice (some ⟨w3.heap.size, 0, none⟩) 1 1]) (by simp [results, Tryz.results20, go_sem, g3, g4, g5]) rfl ?_
  clear g1 g1f g2 g2f g3 g4 g5 q0 q1 q2 f0 f1 f2
  obtain ⟨V, hV⟩ : ∃ V, V = (((w3.setCell ⟨w.heap.size, 0, none⟩ (.slice a1 (39 + e3) k1)).setCell ⟨w.heap.size, 1, none⟩ (.slice none 0 0)).setCell ⟨w.heap.size, 2, none⟩ (.slice (some ⟨w3.heap.size, 0, none⟩) 1 1)) := ⟨_, rfl⟩
  have hVs : V.heap.size = w3.heap.size := by rw [hV]; simp
  have rV : RowIn .u32 V w2.heap.size w3.heap.size a1 (manyZ (39 + e3)) := by
    rw [hV]
    exact rowIn_aside (rowIn_aside (rowIn_aside R3.out ((Aside.refl w.heap.size _).set 0 _) x2) ((Aside.refl w.heap.size _).set 1 _) x2) ((Aside.refl w.heap.size _).set 2 _) x2
  have sV : Rs P rs.tail.tail V := by rw [hV]; exact ((H3.out.1.set hP 0 _).set hP 1 _).set hP 2 _
  have aV : Aside P w V := by rw [hV]; exact ((H3.out.2.setHigh (p := ⟨w.heap.size, 0, none⟩) (Nat.le_refl _) _).setHigh (p := ⟨w.heap.size, 1, none⟩) (Nat.le_refl _) _).setHigh (p := ⟨w.heap.size, 2, none⟩) (Nat.le_refl _) _
  rw [← hV]
  clear hV
  have N := BxF.new V (.int .u32 0) (.int .u32 0) (.int .u32 0) 53
  rw [hVs] at N
  obtain ⟨Y, hY⟩ : ∃ Y, Y = V.alloc (.cells #[.int .u32 0, .int .u32 0, .int .u32 0] 53) := ⟨_, rfl⟩
  have hYs : Y.heap.size = w3.heap.size + 1 := by rw [hY]; simp; omega
  have bY : Below V.heap.size V Y := by rw [hY]; exact bel0 _ _
  rw [← hY] at N
  show ScnD P (39 + e3) 0 1 (manyZ (39 + e3)) [] [0, 0, 0] rs.tail.tail w _ (V.alloc _)
  rw [← hY]
  clear hY
  refine ⟨a1, none, some ⟨w3.heap.size, 0, none⟩, k1, 0, 1, w2.heap.size, w3.heap.size, w3.heap.size, w3.heap.size, w3.heap.size, w3.heap.size + 1, rfl, ?_, sV.later bY, aV.trans (Aside.of bY)⟩
  refine ⟨manyZ_length _, rfl, rfl, ⟨by omega, by omega⟩, ⟨by omega, by omega⟩, ⟨by omega, by omega⟩, .inl (by omega), .inl (by omega), .inl (by omega), Nat.le_refl _, rV.later bY, .inl rfl, .inr ⟨w3.heap.size, 0, rfl, Nat.le_refl _, by omega, by omega, ?_, ?_⟩⟩
  · intro j hj
    match j, hj with
    | 0, _ => exact N.q0
    | 1, _ => exact N.q1
    | 2, _ => exact N.q2
    | j + 3, hj => simp at hj; omega
  · intro j _
    rw [Nat.zero_add]
    exact N.fr j

end Go.Proofs.YtiajhekjojeaeaaGreat

/-
  Any drawn scene.
-/
namespace Go.Proofs.YtiajhekjojeaeaaGreat
open Go.RowKit

/-- Whatever the reader holds: there is one scene that l6drawScene answers. -/
theorem sceneD (rs : List Int) : ∃ n1 n2 n3 z1 z2 z3 rs', SceneD rs n1 n2 n3 z1 z2 z3 rs' := by
  by_cases h7 : rs.headD 0 = 7
  · exact scene7 rs h7
  · by_cases h8 : rs.headD 0 = 8
    · exact scene8 rs h8
    · exact sceneM rs _ rfl h7 h8

end Go.Proofs.YtiajhekjojeaeaaGreat

/-
  Bytes that are spoiled: l6spoil told by the reader's bytes.
-/
namespace Go.Proofs.YtiajhekjojeaeaaGreat
open Go.RowKit

/-- A cell of a row of one's own is written. -/
theorem rowNew_set {k : IntKind} {w : World} {B b off : Nat} {zs : List Int} (h : RowNew k w B (some ⟨b, off, none⟩) zs) (j : Nat) (hj : j < zs.length) (v : Int) : RowNew k (w.setCell ⟨b, off + j, none⟩ (.int k v)) B (some ⟨b, off, none⟩) (zs.set j v) := by
  rcases h with h | ⟨b', off', h1, h0, h2, h3, h4⟩
  · rw [h] at hj; simp at hj
  · obtain ⟨rfl, rfl⟩ : b = b' ∧ off = off' := by
      have := Option.some.inj h1
      exact ⟨congrArg Addr.block this, congrArg Addr.off this⟩
    refine .inr ⟨b, off, rfl, h0, by simpa using h2, ?_, ?_⟩
    · intro i hi
      rw [List.length_set] at hi
      by_cases e : i = j
      · subst e
        rw [World.cell?_setCell_same _ _ _ (h3 i hi)]
        simp [List.getD_eq_getElem?_getD, hi]
      · rw [World.cell?_setCell_other _ _ _ _ (by simp), h3 i hi]
        simp [List.getD_eq_getElem?_getD, Ne.symm e]
    · intro i hi
      rw [List.length_set] at hi
      rw [World.frozen?_setCell]
      exact h4 i hi

theorem rowNew_take {k : IntKind} {w : World} {B : Nat} {a : Option Addr} {zs : List Int} (h : RowNew k w B a zs) (q : Nat) : RowNew k w B a (zs.take q) := by
  rcases h with h | ⟨b, off, h1, h0, h2, h3, h4⟩
  · exact .inl (by rw [h]; simp)
  · refine .inr ⟨b, off, h1, h0, h2, fun j hj => ?_, fun j hj => h4 j ?_⟩
    · rw [List.length_take] at hj
      rw [h3 j (by omega), List.getD_eq_getElem?_getD, List.getD_eq_getElem?_getD, List.getElem?_take, if_pos (by omega)]
    · rw [List.length_take] at hj; omega
theorem rowNew_at {k : IntKind} {w : World} {B b off : Nat} {zs : List Int} (h : RowNew k w B (some ⟨b, off, none⟩) zs) (j : Nat) (hj : j < zs.length) : w.cell? ⟨b, off + j, none⟩ = some (.int k (zs.getD j 0)) ∧ w.frozen? ⟨b, off + j, none⟩ = false := by
  rcases h with h | ⟨b', off', h1, h0, h2, h3, h4⟩
  · rw [h] at hj; simp at hj
  · obtain ⟨rfl, rfl⟩ : b = b' ∧ off = off' := by
      have := Option.some.inj h1
      exact ⟨congrArg Addr.block this, congrArg Addr.off this⟩
    exact ⟨h3 j hj, h4 j hj⟩

/-- The odd floats. -/
def oddV (k : Int) : Int := if k = 0 then 0x7f800000 else if k = 1 then 0xffc00000 else if k = 2 then 0 else 0x80000000
def oddS (bs : List Int) (o : Int) (at_ : Nat) : Nat → List Int
  | 0 => bs
  | j + 1 => (oddS bs o at_ j).set (at_ + j) (divB o j % 256)
theorem oddS_length (bs : List Int) (o : Int) (at_ : Nat) : ∀ j, (oddS bs o at_ j).length = bs.length
  | 0 => rfl
  | j + 1 => by rw [oddS, List.length_set, oddS_length bs o at_ j]
theorem oddS_stop (bs : List Int) (o : Int) (at_ m : Nat) (h : bs.length ≤ at_ + m) : ∀ d, oddS bs o at_ (m + d) = oddS bs o at_ m
  | 0 => rfl
  | d + 1 => by rw [← Nat.add_assoc, oddS, List.set_eq_of_length_le (by rw [oddS_length]; omega), oddS_stop bs o at_ m h d]
theorem dig_set {bs : List Int} (h : Dig 256 bs) (j : Nat) (v : Int) (h0 : 0 ≤ v) (h1 : v < 256) : Dig 256 (bs.set j v) := by
  intro z hz
  rcases List.mem_or_eq_of_mem_set hz with h' | rfl
  · exact h z h'
  · exact ⟨h0, h1⟩
theorem oddS_dig {bs : List Int} (h : Dig 256 bs) (o : Int) (at_ : Nat) : ∀ j, Dig 256 (oddS bs o at_ j)
  | 0 => h
  | j + 1 => dig_set (oddS_dig h o at_ j) _ _ (by omega) (by omega)

/-- What l6spoil makes of bytes. -/
def spoilV (rs : List Int) : Int := rs.tail.headD 0 * 256 + 1 + rs.tail.tail.headD 0
def spoilY (rs bs : List Int) : List Int :=
  if bs = [] then []
  else if rs.headD 0 % 5 = 0 then bs.take (spoilV rs % bs.length).toNat
  else if rs.headD 0 % 5 = 1 then bs ++ [spoilV rs % 256]
  else if rs.headD 0 % 5 = 2 then bs.set (spoilV rs % bs.length).toNat (rs.headD 0)
  else if rs.headD 0 % 5 = 3 then oddS bs (oddV (rs.headD 0 / 5 % 4)) (9 + (spoilV rs % 64).toNat * 4) 4
  else bs.set (spoilV rs % 9 % bs.length).toNat (rs.headD 0)

theorem spoilY_length (rs bs : List Int) : (spoilY rs bs).length ≤ bs.length + 1 := by
  unfold spoilY
  repeat' split
  all_goals simp [oddS_length]
  all_goals omega
theorem spoilY_dig (rs bs : List Int) (h : Dig 256 bs) (h0 : 0 ≤ rs.headD 0) (h1 : rs.headD 0 ≤ 255) : Dig 256 (spoilY rs bs) := by
  unfold spoilY
  repeat' split
  · intro z hz; simp at hz
  · exact fun z hz => h z (List.mem_of_mem_take hz)
  · intro z hz
    rcases List.mem_append.1 hz with h' | h'
    · exact h z h'
    · simp at h'; omega
  · exact dig_set h _ _ h0 (by omega)
  · exact oddS_dig h _ _ _
  · exact dig_set h _ _ h0 (by omega)

/-- What l6spoil hands back. -/
def SpoilOut (P base : Nat) (bs : List Int) (w : World) (e : Ending) (w' : World) : Prop :=
  (∃ a c, e = .returned (.slice a bs.length c) ∧ bs.length ≤ c ∧ RowNew .u8 w' base a bs ∧ Below P w w') ∧ Dig 256 bs

theorem aside_ownY {P base : Nat} {w w' : World} {v : Value} {ys : List Int} (ha : Aside P w w') (h : OwnY w base v ys) (hP : P < base) : OwnY w' base v ys := aside_ownk ha h hP

end Go.Proofs.YtiajhekjojeaeaaGreat

/-
  l6spoil.
-/
namespace Go.Proofs.YtiajhekjojeaeaaGreat
open Go.RowKit

theorem ownY_out {w : World} {base n c : Nat} {a : Option Addr} {ys : List Int} (h : OwnY w base (.slice a n c) ys) : n = ys.length ∧ ys.length ≤ c ∧ RowNew .u8 w base a ys := by
  obtain ⟨a', c', h1, h2⟩ := h.row
  simp at h1
  obtain ⟨rfl, rfl, rfl⟩ := h1
  refine ⟨rfl, ?_, h2⟩
  rcases h.2 with h | ⟨g, cap, cur, h1, _, _, h2, _⟩
  · omega
  · simp at h1; omega
theorem divB_pow (o : Int) : ∀ j : Nat, divB o j = o / 2 ^ (8 * j)
  | 0 => by simp [divB]
  | j + 1 => by
    rw [divB, divB_pow o j, Nat.mul_succ, Int.pow_add, Int.ediv_ediv_of_nonneg (Int.pow_nonneg (by decide))]
    rfl
theorem row_one (W : World) (t : TypeId) (x : Int) : RowAt .u8 (W.alloc (.cells #[.int .u8 x] t)) (some ⟨W.heap.size, 0, none⟩) [x] := by
  refine .inr ⟨_, 0, rfl, by simp, fun j hj => ?_⟩
  match j, hj with
  | 0, _ => simp [go_sem]
  | j + 1, hj => simp at hj

set_option maxRecDepth 100000 in
set_option maxHeartbeats 4000000 in
theorem spoil_any (rs bs : List Int) (hlen : bs.length ≤ 4000) (hdig : Dig 256 bs) (P base : Nat) (hPb : P < base) (v : Value) (w : World) (h : Rs P rs w) (ho : OwnY w base v bs) (hbw : base ≤ w.heap.size) :
    Calls Tryz.prog 32 #[v, .pointer (some ⟨P, 0, none⟩)] w fun e w' => SpoilOut P base (spoilY rs bs) w e w' := by
  have HS : Hid (Rs P rs w) := h
  have HO : Hid (OwnY w base v bs) := ho
  obtain ⟨a, c, rfl, hcm, hsl, _⟩ := own_row ho
  have hc : bs.length ≤ c := by
    rcases ho.2 with h | ⟨g, cap, cur, h1, _, _, h2, _⟩
    · omega
    · simp at h1; omega
  clear h ho hsl
  obtain ⟨kk, hkk⟩ : ∃ k, k = rs.headD 0 := ⟨_, rfl⟩
  obtain ⟨v1, hv1⟩ : ∃ k, k = rs.tail.headD 0 := ⟨_, rfl⟩
  obtain ⟨v2, hv2⟩ : ∃ k, k = rs.tail.tail.headD 0 := ⟨_, rfl⟩
  have HK : Hid (rs.headD 0 = kk ∧ rs.tail.headD 0 = v1 ∧ rs.tail.tail.headD 0 = v2) := ⟨hkk.symm, hv1.symm, hv2.symm⟩
  clear hkk hv1 hv2
  go_enter Tryz.func32, Tryz.ntmps32
  go_wp2_with fail
  refine (nextF_any P rs _ HS.out).mono ?_
  rintro e w1 ⟨rfl, c0, c1, hr1, ha1⟩
  rw [HK.out.1] at c0 c1 ⊢
  have HR1 : Hid (Rs P rs.tail w1) := hr1
  clear hr1
  go_wp2_with fail
  refine (nextF_any P rs.tail _ HR1.out).mono ?_
  rintro e w2 ⟨rfl, d0, d1, hr2, ha2⟩
  rw [HK.out.2.1] at d0 d1 ⊢
  have HR2 : Hid (Rs P rs.tail.tail w2) := hr2
  clear hr2
  go_wp2_with fail
  refine (nextF_any P rs.tail.tail _ HR2.out).mono ?_
  rintro e w3 ⟨rfl, e0, e1, hr3, ha3⟩
  rw [HK.out.2.2] at e0 e1 ⊢
  have HA : Hid (Aside P w w3) := (ha1.trans ha2).trans ha3
  have HO3 : Hid (OwnY w3 base (.slice a bs.length c) bs) := aside_ownY HA.out HO.out hPb
  have HY : Hid (spoilY rs bs = if bs = [] then [] else if kk % 5 = 0 then bs.take ((v1 * 256 + 1 + v2) % bs.length).toNat else if kk % 5 = 1 then bs ++ [(v1 * 256 + 1 + v2) % 256] else if kk % 5 = 2 then bs.set ((v1 * 256 + 1 + v2) % bs.length).toNat kk else if kk % 5 = 3 then oddS bs (oddV (kk / 5 % 4)) (9 + ((v1 * 256 + 1 + v2) % 64).toNat * 4) 4 else bs.set ((v1 * 256 + 1 + v2) % 9 % bs.length).toNat kk) := by
    unfold Hid spoilY spoilV
    rw [HK.out.1, HK.out.2.1, HK.out.2.2]
  have HDG : Hid (Dig 256 (spoilY rs bs)) := spoilY_dig rs bs hdig (by rw [HK.out.1]; exact c0) (by rw [HK.out.1]; exact c1)
  have hPs : P ≤ w.heap.size := by omega
  have hbw3 : base ≤ w3.heap.size := Nat.le_trans hbw HA.out.size
  clear ha1 ha2 ha3 hr3 HR1 HR2 HK HO HS hdig
  by_cases hbs : bs = []
  · have hY : Hid (spoilY rs bs = bs) := by unfold Hid; rw [HY.out, if_pos hbs, hbs]
    have h0 : bs.length = 0 := by rw [hbs]; rfl
    have HR : Hid (RowNew .u8 w3 base a bs) := .inl hbs
    clear HY hbs
    go_wp2
    go_ret
    refine ⟨?_, HDG.out⟩
    rw [hY.out]
    exact ⟨a, c, by rw [h0]; rfl, hc, HR.out, HA.out.below (Nat.le_refl P) hPs⟩
  · have h0 : bs.length ≠ 0 := fun h => hbs (List.length_eq_zero_iff.1 h)
    have h0i : ¬ ((bs.length : Int) = 0) := by omega
    have hm5 : kk.tmod 5 = kk % 5 := Int.tmod_eq_emod_of_nonneg c0
    obtain ⟨b, off, rfl⟩ : ∃ b off, a = some ⟨b, off, none⟩ := by
      rcases HO3.out.2 with h | ⟨g, cap, cur, h1, _⟩
      · exact absurd h.2 h0
      · simp at h1
        exact ⟨g, 0, h1.1⟩
    have HN3 : Hid (RowNew .u8 w3 base (some ⟨b, off, none⟩) bs) := by
      obtain ⟨b2, o2, c2, e2, g2⟩ := HO3.out.spot hbs
      simp at e2
      obtain ⟨⟨rfl, rfl⟩, _⟩ := e2
      exact g2
    have hBb : base ≤ b := by
      rcases HN3.out with h | ⟨b', off', h1, h2, _⟩
      · exact absurd h hbs
      · have := congrArg Addr.block (Option.some.inj h1)
        simp at this
        omega
    by_cases k0 : kk % 5 = 0
    · obtain ⟨q, hq⟩ : ∃ q : Nat, q = ((v1 * 256 + 1 + v2) % bs.length).toNat := ⟨_, rfl⟩
      have hq2 : (v1 * 256 + 1 + v2) % (bs.length : Int) = q := by have := Int.emod_nonneg (v1 * 256 + 1 + v2) h0i; omega
      have hq3 : q < bs.length := by have := Int.emod_lt_of_pos (v1 * 256 + 1 + v2) (show (0 : Int) < bs.length by omega); omega
      have hY : Hid (spoilY rs bs = bs.take q) := by unfold Hid; rw [HY.out, if_neg hbs, if_pos k0, hq]
      have hq4 : (v1 * 256 + 1 + v2).tmod bs.length = q := by rw [Int.tmod_eq_emod_of_nonneg (by omega)]; exact hq2
      rw [k0] at hm5
      clear HY hq hq2 k0
      have hql : (bs.take q).length = q := by rw [List.length_take, Nat.min_eq_left (by omega)]
      have HR : Hid (RowNew .u8 w3 base (some ⟨b, off, none⟩) (bs.take q)) := rowNew_take HN3.out q
      go_wp2
      go_ret
      refine ⟨?_, HDG.out⟩
      rw [hY.out]
      exact ⟨_, c, by rw [hql]; rfl, by rw [hql]; omega, HR.out, HA.out.below (Nat.le_refl P) hPs⟩
    · by_cases k1 : kk % 5 = 1
      · have hY : Hid (spoilY rs bs = bs ++ [(v1 * 256 + 1 + v2) % 256]) := by unfold Hid; rw [HY.out, if_neg hbs, if_neg k0, if_pos k1]
        rw [k1] at hm5
        clear HY k0 k1
        go_wp2_with (at_builtin; refine appB rfl (.tmp 36) (.tmp 39) rfl base _ bs ⟨w3.heap.size, 0, none⟩ 1 1 [(v1 * 256 + 1 + v2) % 256] rfl (HO3.out.later (bel0 _ _)) rfl rfl (by simp) (by omega) (by simp) (row_one _ _ _) (by simp; omega) ?_; intro e2 m2 k2 w4 ho2 hb2)
        go_ret
        refine ⟨?_, HDG.out⟩
        rw [hY.out]
        obtain ⟨x1, x2, x3⟩ := ownY_out ho2
        exact ⟨e2, k2, by rw [← x1]; rfl, x2, x3, ((HA.out.below (Nat.le_refl P) hPs).trans ((bel0 _ _).mono (Nat.le_trans hPs HA.out.size))).trans (hb2.mono (Nat.le_of_lt hPb))⟩
      · by_cases k2 : kk % 5 = 2
        · obtain ⟨q, hq⟩ : ∃ q : Nat, q = ((v1 * 256 + 1 + v2) % bs.length).toNat := ⟨_, rfl⟩
          have hq2 : (v1 * 256 + 1 + v2) % (bs.length : Int) = q := by have := Int.emod_nonneg (v1 * 256 + 1 + v2) h0i; omega
          have hq3 : q < bs.length := by have := Int.emod_lt_of_pos (v1 * 256 + 1 + v2) (show (0 : Int) < bs.length by omega); omega
          have hY : Hid (spoilY rs bs = bs.set q kk) := by unfold Hid; rw [HY.out, if_neg hbs, if_neg k0, if_neg k1, if_pos k2, hq]
          have hq4 : (v1 * 256 + 1 + v2).tmod bs.length = q := by rw [Int.tmod_eq_emod_of_nonneg (by omega)]; exact hq2
          rw [k2] at hm5
          clear HY hq hq2 k0 k1 k2
          obtain ⟨x1, x2⟩ := rowNew_at HN3.out q hq3
          have HR : Hid (RowNew .u8 (w3.setCell ⟨b, off + q, none⟩ (.int .u8 kk)) base (some ⟨b, off, none⟩) (bs.set q kk)) := rowNew_set HN3.out q hq3 kk
          have HB : Hid (Below P w (w3.setCell ⟨b, off + q, none⟩ (.int .u8 kk))) := (HA.out.below (Nat.le_refl P) hPs).setCell (p := ⟨b, off + q, none⟩) (by simp; omega) _
          go_wp2
          go_ret
          refine ⟨?_, HDG.out⟩
          rw [hY.out]
          exact ⟨_, c, by rw [List.length_set]; rfl, by rw [List.length_set]; omega, HR.out, HB.out⟩
        · by_cases k3 : kk % 5 = 3
          · have hY : Hid (spoilY rs bs = oddS bs (oddV (kk / 5 % 4)) (9 + ((v1 * 256 + 1 + v2) % 64).toNat * 4) 4) := by unfold Hid; rw [HY.out, if_neg hbs, if_neg k0, if_neg k1, if_neg k2, if_pos k3]
            obtain ⟨q, hq⟩ : ∃ q : Nat, q = ((v1 * 256 + 1 + v2) % 64).toNat := ⟨_, rfl⟩
            have hq2 : (v1 * 256 + 1 + v2).tmod 64 = q := by rw [Int.tmod_eq_emod_of_nonneg (by omega)]; omega
            have hq3 : q < 64 := by omega
            obtain ⟨r, hr⟩ : ∃ r : Nat, r = (kk / 5 % 4).toNat := ⟨_, rfl⟩
            have hr2 : (kk.tdiv 5).tmod 4 = r := by rw [Int.tdiv_eq_ediv_of_nonneg (by omega), Int.tmod_eq_emod_of_nonneg (by omega)]; omega
            have hr3 : r < 4 := by omega
            have hr4 : kk / 5 % 4 = r := by omega
            have hr5 : (kk / 5).tmod 4 = r := by rw [Int.tmod_eq_emod_of_nonneg (by omega)]; omega
            have HRR : Hid (kk / 5 % 4 = r) := by unfold Hid; omega
            rw [k3] at hm5
            rw [← hq] at hY
            clear HY hq hr k0 k1 k2 k3
            obtain ⟨o, ho⟩ : ∃ o, o = oddV r := ⟨_, rfl⟩
            have ho1 : 0 ≤ o ∧ o ≤ 4294967295 := by
              rw [ho]
              unfold oddV
              repeat' split
              all_goals omega
            rw [HRR.out, ← ho] at hY
            have hbw3' : b < w3.heap.size := by
              rcases HN3.out with h | ⟨b', off', h1, _, h2, _⟩
              · exact absurd h hbs
              · have := congrArg Addr.block (Option.some.inj h1)
                simp at this
                omega
            obtain ⟨W, hW⟩ : ∃ W, W = w3.alloc (.cells #[.int .u32 2139095040, .int .u32 4290772992, .int .u32 0, .int .u32 2147483648] 51) := ⟨_, rfl⟩
            have HC : Hid (W.cell? ⟨w3.heap.size, r, none⟩ = some (.int .u32 o)) := by
              unfold Hid
              rw [hW, ho]
              rcases (show r = 0 ∨ r = 1 ∨ r = 2 ∨ r = 3 by omega) with rfl | rfl | rfl | rfl <;> simp [go_sem, oddV]
            have HW : Hid (RowNew .u8 W base (some ⟨b, off, none⟩) bs) := by unfold Hid; rw [hW]; exact HN3.out.later (bel0 _ _)
            have HBW : Hid (Below P w W) := by unfold Hid; rw [hW]; exact (HA.out.below (Nat.le_refl P) hPs).trans ((bel0 _ _).mono (Nat.le_trans hPs HA.out.size))
            clear HO3 HN3 ho HRR HA
            go_upto_region 16 with fail
            rw [← hW]
            clear hW
            go_wp2
            go_loopw [9] (fun si wr => ∃ j : Nat, j ≤ 4 ∧ si = .int .i64 j ∧ Hid (RowNew .u8 wr base (some ⟨b, off, none⟩) (oddS bs o (9 + q * 4) j)) ∧ Hid (Below P w wr) ∧ Hid (wr.cell? ⟨w3.heap.size, r, none⟩ = some (.int .u32 o))) (fun si _ => 4 - (intOf si).toNat)
            case atStart => exact ⟨0, Nat.zero_le _, rfl, HW, HBW, HC⟩
            case round =>
              obtain ⟨j, hj, rfl, hR, hB, hC⟩ := hrel
              by_cases hj4 : j < 4
              · by_cases hjl : 9 + q * 4 + j < bs.length
                · have hin : (j : Int) < 4 := by omega
                  have hin2 : (9 + (q : Int) * 4 + j) < bs.length := by omega
                  obtain ⟨x1, x2⟩ := rowNew_at hR.out (9 + q * 4 + j) (by rw [oddS_length]; exact hjl)
                  have x3 := hC.out
                  have HR1 : Hid (RowNew .u8 (wr.setCell ⟨b, off + (9 + q * 4 + j), none⟩ (.int .u8 (o / 2 ^ (8 * j) % 256))) base (some ⟨b, off, none⟩) (oddS bs o (9 + q * 4) (j + 1))) := by
                    unfold Hid
                    rw [oddS, divB_pow o j]
                    exact rowNew_set hR.out _ (by rw [oddS_length]; exact hjl) _
                  have HB1 : Hid (Below P w (wr.setCell ⟨b, off + (9 + q * 4 + j), none⟩ (.int .u8 (o / 2 ^ (8 * j) % 256)))) := hB.out.setCell (p := ⟨b, off + (9 + q * 4 + j), none⟩) (by simp; omega) _
                  have HC1 : Hid ((wr.setCell ⟨b, off + (9 + q * 4 + j), none⟩ (.int .u8 (o / 2 ^ (8 * j) % 256))).cell? ⟨w3.heap.size, r, none⟩ = some (.int .u32 o)) := by
                    unfold Hid
                    rw [World.cell?_setCell_other _ _ _ _ (fun e => by have := congrArg Addr.block e; simp at this; omega)]
                    exact hC.out
                  go_wp2
                  exact ⟨⟨j + 1, by omega, by go_num, HR1, HB1, HC1⟩, by simp [intOf]; omega⟩
                · have hin : (j : Int) < 4 := by omega
                  have hin2 : ¬ (9 + (q : Int) * 4 + j) < bs.length := by omega
                  have hE : Hid (spoilY rs bs = oddS bs o (9 + q * 4) j) := by
                    unfold Hid
                    rw [hY.out]
                    have hh := oddS_stop bs o (9 + q * 4) j (by omega) (4 - j)
                    rwa [show j + (4 - j) = 4 by omega] at hh
                  go_wp2
                  go_ret
                  refine ⟨?_, HDG.out⟩
                  rw [hE.out]
                  exact ⟨_, c, by rw [oddS_length]; rfl, by rw [oddS_length]; omega, hR.out, hB.out⟩
              · have hin : ¬ (j : Int) < 4 := by omega
                have hE : Hid (spoilY rs bs = oddS bs o (9 + q * 4) j) := by unfold Hid; rw [hY.out, show j = 4 by omega]
                go_wp2
                go_ret
                refine ⟨?_, HDG.out⟩
                rw [hE.out]
                exact ⟨_, c, by rw [oddS_length]; rfl, by rw [oddS_length]; omega, hR.out, hB.out⟩
          · obtain ⟨q, hq⟩ : ∃ q : Nat, q = ((v1 * 256 + 1 + v2) % 9 % bs.length).toNat := ⟨_, rfl⟩
            have hq2 : (v1 * 256 + 1 + v2) % 9 % (bs.length : Int) = q := by have := Int.emod_nonneg ((v1 * 256 + 1 + v2) % 9) h0i; omega
            have hq3 : q < bs.length := by have := Int.emod_lt_of_pos ((v1 * 256 + 1 + v2) % 9) (show (0 : Int) < bs.length by omega); omega
            have hY : Hid (spoilY rs bs = bs.set q kk) := by unfold Hid; rw [HY.out, if_neg hbs, if_neg k0, if_neg k1, if_neg k2, if_neg k3, hq]
            have hq4 : ((v1 * 256 + 1 + v2).tmod 9).tmod bs.length = q := by rw [Int.tmod_eq_emod_of_nonneg (show 0 ≤ v1 * 256 + 1 + v2 by omega), Int.tmod_eq_emod_of_nonneg (by omega)]; exact hq2
            have k4 : kk % 5 = 4 := by omega
            rw [k4] at hm5
            clear HY hq k0 k1 k2 k3 k4
            obtain ⟨x1, x2⟩ := rowNew_at HN3.out q hq3
            have HR : Hid (RowNew .u8 (w3.setCell ⟨b, off + q, none⟩ (.int .u8 kk)) base (some ⟨b, off, none⟩) (bs.set q kk)) := rowNew_set HN3.out q hq3 kk
            have HB : Hid (Below P w (w3.setCell ⟨b, off + q, none⟩ (.int .u8 kk))) := (HA.out.below (Nat.le_refl P) hPs).setCell (p := ⟨b, off + q, none⟩) (by simp; omega) _
            go_wp2
            go_ret
            refine ⟨?_, HDG.out⟩
            rw [hY.out]
            exact ⟨_, c, by rw [List.length_set]; rfl, by rw [List.length_set]; omega, HR.out, HB.out⟩

end Go.Proofs.YtiajhekjojeaeaaGreat

/-
  Rows of values of one cell each, told by a function of the place.
-/
namespace Go.Proofs.YtiajhekjojeaeaaGreat
open Go.RowKit

/-- The slice of n values that begins at a reads as f 0, f 1, .. -/
def RowF (w : World) (a : Option Addr) (n : Nat) (f : Nat → Value) : Prop :=
  n = 0 ∨ ∃ b off, a = some ⟨b, off, none⟩ ∧ b < w.heap.size ∧ ∀ j, j < n → w.cell? ⟨b, off + j, none⟩ = some (f j)
/-- .. and lies in blocks from lo to below hi, and may be written. -/
def RowFIn (w : World) (lo hi : Nat) (a : Option Addr) (n : Nat) (f : Nat → Value) : Prop :=
  n = 0 ∨ ∃ b off, a = some ⟨b, off, none⟩ ∧ lo ≤ b ∧ b < hi ∧ b < w.heap.size ∧ (∀ j, j < n → w.cell? ⟨b, off + j, none⟩ = some (f j)) ∧ ∀ j, j < n → w.frozen? ⟨b, off + j, none⟩ = false

theorem RowFIn.row {w : World} {lo hi : Nat} {a : Option Addr} {n : Nat} {f : Nat → Value} (h : RowFIn w lo hi a n f) : RowF w a n f := by
  rcases h with h | ⟨b, off, h1, _, _, h2, h3, _⟩
  · exact .inl h
  · exact .inr ⟨b, off, h1, h2, h3⟩
theorem RowF.later {w w' : World} {a : Option Addr} {n : Nat} {f : Nat → Value} (h : RowF w a n f) (hb : Below w.heap.size w w') : RowF w' a n f := by
  rcases h with h | ⟨b, off, h1, h2, h3⟩
  · exact .inl h
  · exact .inr ⟨b, off, h1, Nat.lt_of_lt_of_le h2 hb.size, fun j hj => ((bcell hb).1 _ _ h2).trans (h3 j hj)⟩
theorem RowFIn.later {w w' : World} {lo hi : Nat} {a : Option Addr} {n : Nat} {f : Nat → Value} (h : RowFIn w lo hi a n f) (hb : Below w.heap.size w w') : RowFIn w' lo hi a n f := by
  rcases h with h | ⟨b, off, h1, h0, h00, h2, h3, h4⟩
  · exact .inl h
  · exact .inr ⟨b, off, h1, h0, h00, Nat.lt_of_lt_of_le h2 hb.size, fun j hj => ((bcell hb).1 _ _ h2).trans (h3 j hj), fun j hj => ((bcell hb).2 _ _ h2).trans (h4 j hj)⟩
theorem RowFIn.apart {w w' : World} {lo hi lo' hi' : Nat} {a : Option Addr} {n : Nat} {f : Nat → Value} (h : RowFIn w lo hi a n f) (hb : Within lo' hi' w w') (hd : hi ≤ lo' ∨ hi' ≤ lo) : RowFIn w' lo hi a n f := by
  rcases h with h | ⟨b, off, h1, h0, h00, h2, h3, h4⟩
  · exact .inl h
  · exact .inr ⟨b, off, h1, h0, h00, by rw [hb.size]; exact h2, fun j hj => (hb.cell (p := ⟨b, off + j, none⟩) (by simp; omega)).trans (h3 j hj), fun j hj => (hb.frozen (p := ⟨b, off + j, none⟩) (by simp; omega)).trans (h4 j hj)⟩

/-- A row of n places that is being filled: the first m hold f 0, f 1, .. -/
structure FillF (w : World) (b off n : Nat) (f : Nat → Value) (m : Nat) : Prop where
  lt : b < w.heap.size
  done : ∀ j, j < m → w.cell? ⟨b, off + j, none⟩ = some (f j)
  all : ∀ j, j < n → ∃ v, w.cell? ⟨b, off + j, none⟩ = some v
  free : ∀ j, j < n → w.frozen? ⟨b, off + j, none⟩ = false
theorem FillF.later {w w' : World} {b off n : Nat} {f : Nat → Value} {m : Nat} (h : FillF w b off n f m) (hb : Below w.heap.size w w') : FillF w' b off n f m :=
  ⟨Nat.lt_of_lt_of_le h.lt hb.size, fun j hj => ((bcell hb).1 _ _ h.lt).trans (h.done j hj), fun j hj => by obtain ⟨v, hv⟩ := h.all j hj; exact ⟨v, ((bcell hb).1 _ _ h.lt).trans hv⟩, fun j hj => ((bcell hb).2 _ _ h.lt).trans (h.free j hj)⟩
theorem FillF.row {w : World} {b off n lo hi : Nat} {f : Nat → Value} (h : FillF w b off n f n) (h1 : lo ≤ b) (h2 : b < hi) : RowFIn w lo hi (some ⟨b, off, none⟩) n f := .inr ⟨b, off, rfl, h1, h2, h.lt, h.done, h.free⟩
theorem FillF.start (w : World) (z : Value) (n : Nat) (t : TypeId) (f : Nat → Value) : FillF (w.alloc (.cells (madeCells #[z] n) t)) w.heap.size 0 n f 0 := by
  refine ⟨by simp, fun j hj => absurd hj (by omega), fun j hj => ⟨z, ?_⟩, fun j hj => by simp⟩
  simp [hj, madeCells, Nat.mod_one]

end Go.Proofs.YtiajhekjojeaeaaGreat

/-
  Lists of ints as the laws copy, compare and mark them.
-/
namespace Go.Proofs.YtiajhekjojeaeaaGreat
open Go.RowKit

end Go.Proofs.YtiajhekjojeaeaaGreat

/-
  Lists of bools as the laws copy, compare and mark them.
-/
namespace Go.Proofs.YtiajhekjojeaeaaGreat
open Go.RowKit

theorem info_Bool : (Tryz.prog.info? 4).map (fun i => (i.zero, i.size, i.bytes)) = some (some (.bool false), 1, 1) := by kernel_rfl

end Go.Proofs.YtiajhekjojeaeaaGreat

/-
  Pictures as the laws measure, copy, compare and mark them.
-/
namespace Go.Proofs.YtiajhekjojeaeaaGreat
open Go.RowKit

def intF (g : Nat → Int) : Nat → Value := fun j => .int .i64 (g j)
def boolF (h : Nat → Bool) : Nat → Value := fun j => .bool (h j)

/-- The two lists of a picture. -/
structure PcAt (w : World) (a1 a3 : Option Addr) (n1 n3 : Nat) (g : Nat → Int) (h : Nat → Bool) : Prop where
  r1 : RowF w a1 n1 (intF g)
  r3 : RowF w a3 n3 (boolF h)
theorem PcAt.later {w w' : World} {a1 a3 : Option Addr} {n1 n3 : Nat} {g : Nat → Int} {h : Nat → Bool} (p : PcAt w a1 a3 n1 n3 g h) (hb : Below w.heap.size w w') : PcAt w' a1 a3 n1 n3 g h := ⟨p.r1.later hb, p.r3.later hb⟩

structure PcIn (w : World) (lo hi : Nat) (a1 a3 : Option Addr) (n1 n3 : Nat) (g : Nat → Int) (h : Nat → Bool) (m1 : Nat) : Prop where
  lo1 : lo ≤ m1
  hi1 : m1 ≤ hi
  top : hi ≤ w.heap.size
  r1 : RowFIn w lo m1 a1 n1 (intF g)
  r3 : RowFIn w m1 hi a3 n3 (boolF h)
theorem PcIn.at {w : World} {lo hi : Nat} {a1 a3 : Option Addr} {n1 n3 : Nat} {g : Nat → Int} {h : Nat → Bool} {m1 : Nat} (p : PcIn w lo hi a1 a3 n1 n3 g h m1) : PcAt w a1 a3 n1 n3 g h := ⟨p.r1.row, p.r3.row⟩
theorem PcIn.later {w w' : World} {lo hi : Nat} {a1 a3 : Option Addr} {n1 n3 : Nat} {g : Nat → Int} {h : Nat → Bool} {m1 : Nat} (p : PcIn w lo hi a1 a3 n1 n3 g h m1) (hb : Below w.heap.size w w') : PcIn w' lo hi a1 a3 n1 n3 g h m1 :=
  ⟨p.lo1, p.hi1, Nat.le_trans p.top hb.size, p.r1.later hb, p.r3.later hb⟩
theorem PcIn.apart {w w' : World} {lo hi lo' hi' : Nat} {a1 a3 : Option Addr} {n1 n3 : Nat} {g : Nat → Int} {h : Nat → Bool} {m1 : Nat} (p : PcIn w lo hi a1 a3 n1 n3 g h m1) (hw : Within lo' hi' w w') (hd : hi ≤ lo' ∨ hi' ≤ lo) : PcIn w' lo hi a1 a3 n1 n3 g h m1 :=
  have h1 := p.lo1
  have h2 := p.hi1
  ⟨h1, h2, by rw [hw.size]; exact p.top, p.r1.apart hw (by omega), p.r3.apart hw (by omega)⟩

end Go.Proofs.YtiajhekjojeaeaaGreat

/-
  What a picture must be to be valid, its bytes, and the model's l6validPicture.
-/
namespace Go.Proofs.YtiajhekjojeaeaaGreat
open Go.RowKit

def idOK (g : Nat → Int) (i : Nat) : Bool := decide (-1 ≤ g i) && decide (g i < 40)
def validPc (n1 n3 : Nat) (g : Nat → Int) (L : Int) : Bool :=
  decide (n1 ≤ 40) && decide (0 ≤ L) && decide (L ≤ 4) && decide ((n3 : Int) = n1 * L) && (List.range n1).all (idOK g)

/-- A box that holds a picture. -/
structure LwP (w : World) (a1 a3 : Option Addr) (n1 n3 c1 c3 : Nat) (L : Int) (g : Nat → Int) (h : Nat → Bool) (W : World) : Prop where
  bx : BxS W w.heap.size (.slice a1 n1 c1) (.int .i64 L) (.slice a3 n3 c3)
  pc : PcAt W a1 a3 n1 n3 g h
  bel : Below w.heap.size w W
theorem LwP.later {w W W' : World} {a1 a3 : Option Addr} {n1 n3 c1 c3 : Nat} {L : Int} {g : Nat → Int} {h : Nat → Bool} (p : LwP w a1 a3 n1 n3 c1 c3 L g h W) (hb : Below W.heap.size W W') : LwP w a1 a3 n1 n3 c1 c3 L g h W' :=
  ⟨p.bx.later hb, p.pc.later hb, p.bel.trans (hb.mono p.bel.size)⟩
theorem LwP.start {w : World} {a1 a3 : Option Addr} {n1 n3 c1 c3 : Nat} {L : Int} {g : Nat → Int} {h : Nat → Bool} (hs : PcAt w a1 a3 n1 n3 g h) (t : TypeId) : LwP w a1 a3 n1 n3 c1 c3 L g h (w.alloc (.cells #[.slice a1 n1 c1, .int .i64 L, .slice a3 n3 c3] t)) :=
  ⟨BxS.new _ _ _ _ _, hs.later (bel0 _ _), bel0 _ _⟩
theorem LwP.within {w W W' : World} {a1 a3 : Option Addr} {n1 n3 c1 c3 lo hi : Nat} {L : Int} {g : Nat → Int} {h : Nat → Bool} (p : LwP w a1 a3 n1 n3 c1 c3 L g h W) (hs : PcAt w a1 a3 n1 n3 g h) (hw : Within lo hi W W') (hl : w.heap.size < lo) : LwP w a1 a3 n1 n3 c1 c3 L g h W' := by
  have hb : Below w.heap.size w W' := p.bel.trans (hw.below.mono (by omega))
  exact ⟨⟨by rw [hw.size]; exact p.bx.lt, (hw.cell (p := ⟨w.heap.size, 0, none⟩) (.inl hl)).trans p.bx.q0, (hw.cell (p := ⟨w.heap.size, 1, none⟩) (.inl hl)).trans p.bx.q1, (hw.cell (p := ⟨w.heap.size, 2, none⟩) (.inl hl)).trans p.bx.q2⟩, hs.later hb, hb⟩

set_option maxRecDepth 100000 in
set_option maxHeartbeats 4000000 in
theorem validP_any (a1 a3 : Option Addr) (n1 n3 c1 c3 : Nat) (L : Int) (g : Nat → Int) (h : Nat → Bool) (w : World) (hn : n1 + n3 ≤ 1048576) (hs : PcAt w a1 a3 n1 n3 g h) :
    Calls Tryz.prog 37 #[.agg #[.slice a1 n1 c1, .int .i64 L, .slice a3 n3 c3]] w fun e w' => e = .returned (.bool (validPc n1 n3 g L)) ∧ Below w.heap.size w w' := by
  have HSC : Hid (PcAt w a1 a3 n1 n3 g h) := hs
  clear hs
  by_cases h1 : n1 ≤ 40
  · have h1' : ¬ (40 : Int) < n1 := by omega
    by_cases h2 : 0 ≤ L
    · have h2' : ¬ L < 0 := by omega
      by_cases h3 : L ≤ 4
      · have h3' : ¬ 4 < L := by omega
        have hmb : (n1 : Int) * L ≤ 160 := by
          have e1 : (n1 : Int) * L ≤ 40 * L := Int.mul_le_mul_of_nonneg_right (by omega) h2
          omega
        have hmc : 0 ≤ (n1 : Int) * L := Int.mul_nonneg (by omega) h2
        obtain ⟨m, hm⟩ : ∃ m, m = (n1 : Int) * L := ⟨_, rfl⟩
        by_cases h4 : (n3 : Int) = n1 * L
        · have h4' : ((n3 : Int) != n1 * L) = false := by simp [h4]
          have HV : Hid (∀ b, (List.range n1).all (idOK g) = b → validPc n1 n3 g L = b) := by
            intro b hb
            unfold validPc
            rw [decide_eq_true h1, decide_eq_true h2, decide_eq_true h3, decide_eq_true h4, hb]
            rfl
          rw [← hm] at hmb hmc h4'
          have hm' := hm.symm
          clear h4 hm
          go_enter Tryz.func37, Tryz.ntmps37
          go_wp2
          go_loopw [3] (fun si wr => ∃ (i : Nat), i ≤ n1 ∧ si = .int .i64 i ∧ Hid ((List.range i).all (idOK g) = true) ∧ Hid (LwP w a1 a3 n1 n3 c1 c3 L g h wr)) (fun si _ => n1 - (intOf si).toNat)
          case atStart => exact ⟨0, Nat.zero_le _, rfl, rfl, LwP.start HSC.out _⟩
          case round =>
            obtain ⟨i, hi, rfl, hA, hF⟩ := hrel
            have q0 := hF.out.bx.q0
            have q1 := hF.out.bx.q1
            have q2 := hF.out.bx.q2
            by_cases hlt : i < n1
            · obtain ⟨b, off, rfl, hbl, hc⟩ := hF.out.pc.r1.resolve_left (by omega)
              have g1 : wr.cell? ⟨b, off + i, none⟩ = some (.int .i64 (g i)) := hc i hlt
              have HO : Hid (idOK g i = (decide (-1 ≤ g i) && decide (g i < 40))) := rfl
              obtain ⟨x, hx⟩ : ∃ x, x = g i := ⟨_, rfl⟩
              rw [← hx] at g1 HO
              have hib : (i : Int) < n1 := by omega
              clear hc hx
              by_cases x1 : x < -1
              · have HF : Hid (validPc n1 n3 g L = false) := HV.out _ (all_range_false hlt (by rw [HO.out]; simp; omega))
                go_wp2
                go_ret
                exact ⟨by rw [HF.out]; rfl, hF.out.bel⟩
              · by_cases x2 : 40 ≤ x
                · have HF : Hid (validPc n1 n3 g L = false) := HV.out _ (all_range_false hlt (by rw [HO.out]; simp; omega))
                  go_wp2
                  go_ret
                  exact ⟨by rw [HF.out]; rfl, hF.out.bel⟩
                · have HOK : Hid (idOK g i = true) := by unfold Hid; rw [HO.out]; simp; omega
                  go_wp2
                  go_roundw
                  case rel => exact ⟨i + 1, by omega, by go_num, by unfold Hid; rw [all_range_succ, hA.out, HOK.out]; rfl, hF⟩
                  case measure => simp [intOf]; omega
            · have hie : n1 = i := by omega
              subst hie
              have HF : Hid (validPc n1 n3 g L = true) := HV.out _ hA.out
              go_wp2
              go_ret
              exact ⟨by rw [HF.out]; rfl, hF.out.bel⟩
        · have h4' : ((n3 : Int) != n1 * L) = true := by simp [h4]
          have HV : Hid (validPc n1 n3 g L = false) := by unfold Hid validPc; rw [decide_eq_false h4]; simp
          rw [← hm] at hmb hmc h4'
          have hm' := hm.symm
          rw [HV.out]
          clear h4 hm
          go_enter Tryz.func37, Tryz.ntmps37
          go_wp2
          go_ret
          exact ⟨rfl, bel0 _ _⟩
      · have h3' : 4 < L := by omega
        have HV : Hid (validPc n1 n3 g L = false) := by unfold Hid validPc; rw [decide_eq_false h3]; simp
        rw [HV.out]
        go_enter Tryz.func37, Tryz.ntmps37
        go_wp2
        go_ret
        exact ⟨rfl, bel0 _ _⟩
    · have h2' : L < 0 := by omega
      have HV : Hid (validPc n1 n3 g L = false) := by unfold Hid validPc; rw [decide_eq_false h2]; simp
      rw [HV.out]
      go_enter Tryz.func37, Tryz.ntmps37
      go_wp2
      go_ret
      exact ⟨rfl, bel0 _ _⟩
  · have h1' : (40 : Int) < n1 := by omega
    have HV : Hid (validPc n1 n3 g L = false) := by unfold Hid validPc; rw [decide_eq_false h1]; simp
    rw [HV.out]
    go_enter Tryz.func37, Tryz.ntmps37
    go_wp2
    go_ret
    exact ⟨rfl, bel0 _ _⟩

end Go.Proofs.YtiajhekjojeaeaaGreat
