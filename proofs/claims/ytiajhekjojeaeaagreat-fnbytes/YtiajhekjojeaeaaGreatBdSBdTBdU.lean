/-
  Drawn pictures: forty and more.
-/
import Derived.Test.YtiajhekjojeaeaaGreatBdQBdR
import Derived.Test.YtiajhekjojeaeaaGreatSpQToBdP
namespace Go.Proofs.YtiajhekjojeaeaaGreat
open Go.RowKit

set_option maxRecDepth 100000 in
set_option maxHeartbeats 8000000 in
theorem pic7 (rs : List Int) (HK : Hid (rs.tail.headD 0 = 7)) : ∃ ids L lits rs', PicD rs ids L lits rs' := by
  obtain ⟨n0, hn0⟩ : ∃ k, k = rs.headD 0 := ⟨_, rfl⟩
  have HN : Hid (rs.headD 0 = n0) := hn0.symm
  obtain ⟨n9, hn9⟩ : ∃ n : Nat, n = (n0 % 9).toNat := ⟨_, rfl⟩
  have HNN : Hid (n0 % 9 = n9) := show n0 % 9 = (n9 : Int) by omega
  have hn98 : n9 ≤ 8 := by omega
  obtain ⟨d, hd⟩ : ∃ k, k = rs.tail.tail.headD 0 := ⟨_, rfl⟩
  have HDD : Hid (rs.tail.tail.headD 0 = d) := hd.symm
  obtain ⟨e2, he2⟩ : ∃ n : Nat, n = (d % 2).toNat := ⟨_, rfl⟩
  have HE2 : Hid (d % 2 = e2) := show d % 2 = (e2 : Int) by omega
  obtain ⟨n, hn⟩ : ∃ n : Nat, n = 40 + e2 := ⟨_, rfl⟩
  have HNE : Hid ((n : Int) = 40 + (e2 : Int)) := show (n : Int) = 40 + (e2 : Int) by omega
  have hn8 : n ≤ 41 := by omega
  have he21 : e2 ≤ 1 := by omega
  have hl4 : 2 ≤ 2 := Nat.le_refl 2
  clear hn0 hn hn9 hd he2
  obtain ⟨rs1, hrs1⟩ : ∃ r, r = rs.tail.tail.tail := ⟨_, rfl⟩
  have HRS1 : Hid (rs.tail.tail.tail = rs1) := hrs1.symm
  refine ⟨fIds 7 (idsS rs1 n).1, fL 7 2, fLit 7 (litS (idsS rs1 n).2 (n * 2)).1, (litS (idsS rs1 n).2 (n * 2)).2, ?_, ?_, ?_, ?_, fIds_good (idsS_good rs1 n) 7, ?_⟩
  · rw [fIds_length, idsS_length]; omega
  · have h1 := fLit_length 7 (litS (idsS rs1 n).2 (n * 2)).1
    rw [litS_length] at h1
    have h2 := Nat.mul_le_mul hn8 hl4
    omega
  · decide
  · decide
  clear hrs1
  intro P w h
  have hP := h.lt
  have HS : Hid (Rs P rs w) := h
  clear h
  obtain ⟨W0, hW0⟩ : ∃ W0, W0 = w.alloc (.cells #[.slice none 0 0, .int .i64 0, .slice none 0 0] 39) := ⟨_, rfl⟩
  have X0 : Hid (BxF W0 w.heap.size (.slice none 0 0) (.int .i64 0) (.slice none 0 0)) := by unfold Hid; rw [hW0]; exact BxF.new _ _ _ _ _
  have H0 : Hid (Rs P rs W0 ∧ Aside P w W0) := by unfold Hid; rw [hW0]; exact ⟨HS.out.later (bel0 _ _), Aside.of (bel0 _ _)⟩
  go_enter Tryz.func36, Tryz.ntmps36
  go_wp2_with fail
  rw [← hW0]
  clear hW0
  refine (nextF_any P rs _ H0.out.1).mono ?_
  rintro e w1 ⟨rfl, c0, c1, hr, ha⟩
  rw [HN.out] at c0 c1 ⊢
  have hm9 : n0.tmod 9 = n9 := by rw [Int.tmod_eq_emod_of_nonneg c0]; exact HNN.out
  have X1 : Hid (BxF w1 w.heap.size (.slice none 0 0) (.int .i64 0) (.slice none 0 0)) := X0.out.aside ha (show w.heap.size ≠ P by omega)
  have H1 : Hid (Rs P rs.tail w1 ∧ Aside P w w1) := ⟨hr, H0.out.2.trans ha⟩
  clear hr ha X0 H0
  go_wp2_with fail
  refine (nextF_any P rs.tail _ H1.out.1).mono ?_
  rintro e w2 ⟨rfl, d0, d1, hr, ha⟩
  rw [HK.out] at d0 d1 ⊢
  have X1b : Hid (BxF w2 w.heap.size (.slice none 0 0) (.int .i64 0) (.slice none 0 0)) := X1.out.aside ha (show w.heap.size ≠ P by omega)
  have H1b : Hid (Rs P rs.tail.tail w2 ∧ Aside P w w2) := ⟨hr, H1.out.2.trans ha⟩
  clear hr ha X1 H1
  go_wp2_with fail
  refine (nextF_any P rs.tail.tail _ H1b.out.1).mono ?_
  rintro e w2 ⟨rfl, g0, g1, hr, ha⟩
  rw [HDD.out] at g0 g1 ⊢
  have hm5 : d.tmod 2 = e2 := by rw [Int.tmod_eq_emod_of_nonneg g0]; exact HE2.out
  have X2 := X1b.out.aside ha (show w.heap.size ≠ P by omega)
  have hwl : w.heap.size < w2.heap.size := X2.lt
  obtain ⟨W2, hW2⟩ : ∃ W, W = w2.alloc (.cells #[.slice none 0 0, (.int .i64 2), .slice none 0 0] 39) := ⟨_, rfl⟩
  rw [HRS1.out] at hr
  have S2 : Hid (PnS w P w.heap.size w2.heap.size (.slice none 0 0) (.int .i64 2) (.slice none 0 0) rs1 W2) := by
    unfold Hid
    rw [hW2]
    exact ⟨hr.later (bel0 _ _), X2.aside (Aside.of (P := P) (bel0 _ _)) (by omega), BxF.new _ _ _ _ _, (H1b.out.2.trans ha).trans (Aside.of (bel0 _ _)), rfl, hwl, hP⟩
  clear hr ha X1b H1b X2
  have yW : w2.heap.size < W2.heap.size := S2.out.by_.lt
  go_wp2
  rw [← hW2]
  clear hW2 hm9 hm5
  go_loopw [6] (fun si wr => ∃ (j : Nat) (v : Value), j ≤ n ∧ si = .int .i64 j ∧ Hid (PnS w P w.heap.size w2.heap.size v (.int .i64 2) (.slice none 0 0) (idsS rs1 j).2 wr) ∧ Hid (wr.ownsRow W2.heap.size 3 1 v j (vals .i64 (idsS rs1 j).1)) ∧ W2.heap.size ≤ wr.heap.size) (fun si _ => n - (intOf si).toNat)
  case atStart => exact ⟨0, _, Nat.zero_le _, rfl, S2, ⟨by simp [vals, idsS], .inl ⟨rfl, rfl⟩⟩, Nat.le_refl _⟩
  case round =>
    obtain ⟨j, v, hj, rfl, hS, hO, hz⟩ := hrel
    by_cases hc : j < n
    · have hin : (j : Int) < (40 + (e2 : Int)) := by have := HNE.out; omega
      obtain ⟨xx, hxx⟩ : ∃ x, x = (idsS rs1 j).2.headD 0 := ⟨_, rfl⟩
      have HX : Hid ((idsS rs1 j).2.headD 0 = xx) := hxx.symm
      have HE : Hid ((idsS rs1 (j + 1)).1 = (idsS rs1 j).1 ++ [xx % 40 - 1] ∧ (idsS rs1 (j + 1)).2 = (idsS rs1 j).2.tail) := ⟨by rw [idsS, HX.out], rfl⟩
      clear hxx
      go_wp2
      have HC0 : Hid (∀ w', Aside P wr w' → w'.cell? ⟨w2.heap.size, 0, none⟩ = some v) := fun w' hw => (hS.out.by_.aside hw (by omega)).q0
      have HFZ : Hid (∀ w' w'', Aside P wr w' → Below W2.heap.size w' w'' → w''.cell? ⟨w2.heap.size, 0, none⟩ = some v ∧ w''.frozen? ⟨w2.heap.size, 0, none⟩ = false) := fun w' w'' h1 h2 => ⟨(h2.cell (p := ⟨w2.heap.size, 0, none⟩) yW).trans (hS.out.by_.aside h1 (by omega)).q0, (h2.frozen (p := ⟨w2.heap.size, 0, none⟩) yW).trans ((hS.out.by_.aside h1 (by omega)).fr 0)⟩
      have z0 := hS.out.by_.q0
      have z9 := hS.out.by_.fr 0
      go_region_law
        (first
          | (have hBB := hA1; clear hBB; refine step1i rfl (.tmp 28) (.tmp 33) rfl W2.heap.size v j (idsS rs1 j).1 (xx % 40 - 1) u1 (by simp [Act.eval]) (by simp [Act.eval]) (aside_ownk hA1 hO.out (by omega)) (by omega) (Nat.le_trans hz hA1.size) ?_; intro gg cp uu hown4 hb4; have k4 := (HFZ.out u1 uu hA1 hb4).1; have f4 := (HFZ.out u1 uu hA1 hb4).2)
          | (go_simp; refine (nextF_any P _ _ (hS.out.rs.above (B := P + 1) (Below.refl _ _).drew (Nat.lt_succ_self _))).mono ?_; rintro e u1 ⟨rfl, x0, x1, hr1, ha1⟩; rw [HX.out] at x0 x1 ⊢; have hm40 : xx.tmod 40 = xx % 40 := Int.tmod_eq_emod_of_nonneg x0; have hw40 : IntKind.i64.wrap (xx % 40 - 1) = xx % 40 - 1 := wrapQ (by omega) (by omega); have hA1 : Aside P wr u1 := (Aside.of (Below.refl _ _).drew).trans ha1; have c1 := HC0.out u1 hA1; have c1a : ∀ o, (u1.alloc o).cell? ⟨w2.heap.size, 0, none⟩ = some v := fun o => HC0.out _ (hA1.trans (Aside.of (bel0 _ _)))))
      all_goals
        have S8 := (hS.out.call hr1 hA1).above hb4 yW
        have HS8 : Hid (PnS w P w.heap.size w2.heap.size (.slice (some ⟨gg, 0, none⟩) (j + 1) cp) (.int .i64 2) (.slice none 0 0) (idsS rs1 (j + 1)).2 (uu.setCell ⟨w2.heap.size, 0, none⟩ (.slice (some ⟨gg, 0, none⟩) (j + 1) cp))) := by unfold Hid; rw [HE.out.2]; exact S8.put 0 _ (S8.by_.set0 _)
        have HO8 : Hid ((uu.setCell ⟨w2.heap.size, 0, none⟩ (.slice (some ⟨gg, 0, none⟩) (j + 1) cp)).ownsRow W2.heap.size 3 1 (.slice (some ⟨gg, 0, none⟩) (j + 1) cp) (j + 1) (vals .i64 (idsS rs1 (j + 1)).1)) := by unfold Hid; rw [HE.out.1]; exact own_low hown4 (p := ⟨w2.heap.size, 0, none⟩) yW _
        have HZ8 : W2.heap.size ≤ (uu.setCell ⟨w2.heap.size, 0, none⟩ (.slice (some ⟨gg, 0, none⟩) (j + 1) cp)).heap.size := by have := hA1.size; have := hb4.size; simp; omega
        clear hown4 hb4 hA1 ha1 hr1 c1 c1a k4 f4 S8
        go_wp2
        go_roundw
        case rel => exact ⟨j + 1, _, by omega, by go_num, HS8, HO8, HZ8⟩
        case measure => simp [intOf]; omega
    · have hje : n = j := by omega
      subst hje
      have hin : ¬ (n : Int) < (40 + (e2 : Int)) := by have := HNE.out; omega
      obtain ⟨a1, k1, rfl, hr1⟩ := own_rowF hO.out (f := intF (gets (idsS rs1 n).1)) (fun i hi => vals_gets _ i (by rw [idsS_length]; exact hi))
      have Q1 : Hid (RowFIn wr W2.heap.size wr.heap.size a1 n (intF (gets (idsS rs1 n).1))) := hr1
      clear hr1 hO
      obtain ⟨m3, hm3⟩ : ∃ m : Nat, m = n * 2 := ⟨_, rfl⟩
      have HM3 : Hid ((m3 : Int) = (40 + (e2 : Int)) * 2) := show (m3 : Int) = (40 + (e2 : Int)) * 2 by rw [hm3]; have := HNE.out; omega
      have hm4 : m3 ≤ 100 := by rw [hm3]; exact Nat.le_trans (Nat.mul_le_mul hn8 hl4) (by decide)
      have hml0 : 0 ≤ (40 + (e2 : Int)) * 2 := by have := HM3.out; omega
      have hml1 : (40 + (e2 : Int)) * 2 ≤ 100 := by have := HM3.out; omega
      have hinA := hin
      obtain ⟨rs2, hrs2⟩ : ∃ r, r = (idsS rs1 n).2 := ⟨_, rfl⟩
      obtain ⟨ids, hids⟩ : ∃ r, r = (idsS rs1 n).1 := ⟨_, rfl⟩
      have HM3e : Hid (m3 = n * 2) := hm3
      have HRS2 : Hid (rs2 = (idsS rs1 n).2 ∧ ids = (idsS rs1 n).1) := ⟨hrs2, hids⟩
      have hidl : Hid (ids.length = n) := by unfold Hid; rw [hids]; exact idsS_length rs1 n
      rw [← hrs2] at hS
      rw [← hids] at Q1
      clear hids hrs2 hm3
      obtain ⟨w5, hw5⟩ : ∃ w5, w5 = wr := ⟨_, rfl⟩
      rw [← hw5] at hS Q1 hz
      go_wp2
      rw [← hw5]
      clear hw5
      have yW5 : w2.heap.size < w5.heap.size := by omega
      have S5 : Hid (PnS w P w.heap.size w2.heap.size (.slice a1 n k1) (.int .i64 2) (.slice none 0 0) rs2 w5) := hS
      clear hS
      go_loopw [7] (fun si wr => ∃ (j : Nat) (v : Value), j ≤ m3 ∧ si = .int .i64 j ∧ Hid (PnS w P w.heap.size w2.heap.size (.slice a1 n k1) (.int .i64 2) v (litS rs2 j).2 wr) ∧ Hid (wr.ownsRow w5.heap.size 4 1 v j ((litS rs2 j).1.map Value.bool)) ∧ Hid (RowFIn wr W2.heap.size w5.heap.size a1 n (intF (gets ids))) ∧ w5.heap.size ≤ wr.heap.size) (fun si _ => m3 - (intOf si).toNat)
      case atStart => exact ⟨0, _, Nat.zero_le _, rfl, S5, ⟨by simp [litS], .inl ⟨rfl, rfl⟩⟩, Q1, Nat.le_refl _⟩
      case round =>
        obtain ⟨j, v, hj, rfl, hS, hO, hQ, hz5⟩ := hrel
        have z1 := hS.out.by_.q1
        by_cases hc : j < m3
        · have hin : (j : Int) < (40 + (e2 : Int)) * 2 := by have := HM3.out; omega
          obtain ⟨xx, hxx⟩ : ∃ x, x = (litS rs2 j).2.headD 0 := ⟨_, rfl⟩
          have HX : Hid ((litS rs2 j).2.headD 0 = xx) := hxx.symm
          have HE : Hid ((litS rs2 (j + 1)).1 = (litS rs2 j).1 ++ [xx % 2 == 1] ∧ (litS rs2 (j + 1)).2 = (litS rs2 j).2.tail) := ⟨by rw [litS, HX.out], rfl⟩
          clear hxx
          go_wp2
          have HC0 : Hid (∀ w', Aside P wr w' → w'.cell? ⟨w2.heap.size, 2, none⟩ = some v) := fun w' hw => (hS.out.by_.aside hw (by omega)).q2
          have HFZ : Hid (∀ w' w'', Aside P wr w' → Below w5.heap.size w' w'' → w''.cell? ⟨w2.heap.size, 2, none⟩ = some v ∧ w''.frozen? ⟨w2.heap.size, 2, none⟩ = false) := fun w' w'' h1 h2 => ⟨(h2.cell (p := ⟨w2.heap.size, 2, none⟩) yW5).trans (hS.out.by_.aside h1 (by omega)).q2, (h2.frozen (p := ⟨w2.heap.size, 2, none⟩) yW5).trans ((hS.out.by_.aside h1 (by omega)).fr 2)⟩
          have z0 := hS.out.by_.q2
          have z9 := hS.out.by_.fr 2
          go_region_law
            (first
              | (have hBB := hA1; clear hBB; refine step1b rfl (.tmp 45) (.tmp 50) rfl w5.heap.size v j (litS rs2 j).1 (xx % 2 == 1) u1 (by simp [Act.eval]) (by simp [Act.eval]) (aside_ownk hA1 hO.out (by omega)) (by omega) (Nat.le_trans hz5 hA1.size) ?_; intro gg cp uu hown4 hb4; have k4 := (HFZ.out u1 uu hA1 hb4).1; have f4 := (HFZ.out u1 uu hA1 hb4).2)
              | (go_simp; refine (nextF_any P _ _ (hS.out.rs.above (B := P + 1) (Below.refl _ _).drew (Nat.lt_succ_self _))).mono ?_; rintro e u1 ⟨rfl, x0, x1, hr1, ha1⟩; rw [HX.out] at x0 x1 ⊢; have hm40 : xx.tmod 2 = xx % 2 := Int.tmod_eq_emod_of_nonneg x0; have hA1 : Aside P wr u1 := (Aside.of (Below.refl _ _).drew).trans ha1; have c1 := HC0.out u1 hA1; have c1a : ∀ o, (u1.alloc o).cell? ⟨w2.heap.size, 2, none⟩ = some v := fun o => HC0.out _ (hA1.trans (Aside.of (bel0 _ _)))))
          all_goals
            have S8 := (hS.out.call hr1 hA1).above hb4 yW5
            have HS8 : Hid (PnS w P w.heap.size w2.heap.size (.slice a1 n k1) (.int .i64 2) (.slice (some ⟨gg, 0, none⟩) (j + 1) cp) (litS rs2 (j + 1)).2 (uu.setCell ⟨w2.heap.size, 2, none⟩ (.slice (some ⟨gg, 0, none⟩) (j + 1) cp))) := by unfold Hid; rw [HE.out.2]; exact S8.put 2 _ (S8.by_.set2 _)
            have HO8 : Hid ((uu.setCell ⟨w2.heap.size, 2, none⟩ (.slice (some ⟨gg, 0, none⟩) (j + 1) cp)).ownsRow w5.heap.size 4 1 (.slice (some ⟨gg, 0, none⟩) (j + 1) cp) (j + 1) ((litS rs2 (j + 1)).1.map Value.bool)) := by unfold Hid; rw [HE.out.1]; exact own_low hown4 (p := ⟨w2.heap.size, 2, none⟩) yW5 _
            have HQ8 : Hid (RowFIn (uu.setCell ⟨w2.heap.size, 2, none⟩ (.slice (some ⟨gg, 0, none⟩) (j + 1) cp)) W2.heap.size w5.heap.size a1 n (intF (gets ids))) := ((rowFq_aside hQ.out hA1 (by omega)).keep hb4 (Nat.le_refl _)).set yW 2 _
            have HZ8 : w5.heap.size ≤ (uu.setCell ⟨w2.heap.size, 2, none⟩ (.slice (some ⟨gg, 0, none⟩) (j + 1) cp)).heap.size := by have := hA1.size; have := hb4.size; simp; omega
            clear hown4 hb4 hA1 ha1 hr1 c1 c1a k4 f4 S8
            go_wp2
            go_roundw
            case rel => exact ⟨j + 1, _, by omega, by go_num, HS8, HO8, HQ8, HZ8⟩
            case measure => simp [intOf]; omega
        · have hje : m3 = j := by omega
          subst hje
          have hin : ¬ (m3 : Int) < (40 + (e2 : Int)) * 2 := by have := HM3.out; omega
          have HOL : Hid (wr.ownsRow w5.heap.size 4 1 v m3 ((litS rs2 m3).1.map Value.bool)) := hO
          obtain ⟨a2, k2, rfl, hr2⟩ := own_rowF hO.out (f := boolF (getb (litS rs2 m3).1)) (fun i hi => bools_gets _ i (by rw [litS_length]; exact hi))
          have Q2 : Hid (RowFIn wr w5.heap.size wr.heap.size a2 m3 (boolF (getb (litS rs2 m3).1))) := hr2
          obtain ⟨lits, hlits⟩ : ∃ r, r = (litS rs2 m3).1 := ⟨_, rfl⟩
          have hlil : Hid (lits.length = m3) := by unfold Hid; rw [hlits]; exact litS_length rs2 m3
          obtain ⟨rs3, hrs3⟩ : ∃ r, r = (litS rs2 m3).2 := ⟨_, rfl⟩
          rw [← hlits] at Q2 HOL
          rw [← hrs3] at hS
          have HRS3 : Hid (rs3 = (litS rs2 m3).2 ∧ lits = (litS rs2 m3).1) := ⟨hrs3, hlits⟩
          clear hrs3 hlits hin
          have hin : ¬ (m3 : Int) < (40 + (e2 : Int)) * 2 := by have := HM3.out; omega
          clear hr2 hO
          have x0 := hS.out.bx.q0
          have x1 := hS.out.bx.q1
          have x2 := hS.out.bx.q2
          have f0 := hS.out.bx.fr 0
          have f1 := hS.out.bx.fr 1
          have f2 := hS.out.bx.fr 2
          have v0 := hS.out.by_.q0
          have v1 := hS.out.by_.q1
          have v2 := hS.out.by_.q2
          have g0 := hS.out.by_.fr 0
          have g1 := hS.out.by_.fr 1
          have g2 := hS.out.by_.fr 2
          have hF : Hid (fIds 7 ids = ids ∧ fL 7 2 = 2 ∧ fLit 7 lits = lits) := ⟨rfl, rfl, rfl⟩
          go_wp2
          refine bodyPost_ret (v := .agg #[.slice a1 n k1, .int .i64 2, .slice a2 m3 k2]) (by simp [results, Tryz.results36, go_sem, x0, x1, x2]) rfl ?_
          rw [← HRS2.out.2, ← HRS2.out.1, ← HM3e.out, ← HRS3.out.2, ← HRS3.out.1]
          rw [hF.out.1, hF.out.2.1, hF.out.2.2]
          exact picEnd hS.out.rs hS.out.asd hP hQ.out Q2.out hidl.out hlil.out (by omega) (by omega) (Nat.le_refl _) (Nat.le_refl _) hz5 _ _ _

/-- Whatever the reader holds: there is one picture that l6drawPicture answers. -/
theorem picD (rs : List Int) : ∃ ids L lits rs', PicD rs ids L lits rs' := by
  by_cases h7 : rs.tail.headD 0 = 7
  · exact pic7 rs h7
  · exact picM rs _ rfl h7

end Go.Proofs.YtiajhekjojeaeaaGreat

/-
  DrawEncodePicture and DrawDecodePicture told by the code's bytes.
-/
namespace Go.Proofs.YtiajhekjojeaeaaGreat
open Go.RowKit

theorem gets_mem {zs : List Int} {i : Nat} (h : i < zs.length) : gets zs i ∈ zs := by
  simp [gets, List.getD_eq_getElem?_getD, List.getElem?_eq_getElem h]
theorem PcDj.low {w : World} {lo hi : Nat} {a1 a3 : Option Addr} {n1 n3 : Nat} {g : Nat → Int} {h : Nat → Bool} {l1 h1 l3 h3 : Nat} (p : PcDj w lo hi a1 a3 n1 n3 g h l1 h1 l3 h3) {X : Nat} (hX : X < lo) (j : Nat) (v : Value) : PcDj (w.setCell ⟨X, j, none⟩ v) lo hi a1 a3 n1 n3 g h l1 h1 l3 h3 :=
  ⟨p.i1, p.i3, p.d13, by simpa using p.top, p.r1.set (Nat.lt_of_lt_of_le hX p.i1.1) j v, p.r3.set (Nat.lt_of_lt_of_le hX p.i3.1) j v⟩
theorem PcDj.down {w : World} {lo hi lo' hi' : Nat} {a1 a3 : Option Addr} {n1 n3 : Nat} {g : Nat → Int} {h : Nat → Bool} {l1 h1 l3 h3 : Nat} (p : PcDj w lo hi a1 a3 n1 n3 g h l1 h1 l3 h3) (hl : lo' ≤ lo) (hh : hi ≤ hi') (ht : hi' ≤ w.heap.size) : PcDj w lo' hi' a1 a3 n1 n3 g h l1 h1 l3 h3 :=
  ⟨⟨Nat.le_trans hl p.i1.1, Nat.le_trans p.i1.2 hh⟩, ⟨Nat.le_trans hl p.i3.1, Nat.le_trans p.i3.2 hh⟩, p.d13, ht, p.r1, p.r3⟩
theorem encPc_len {n1 n3 : Nat} {g : Nat → Int} {L : Int} {h : Nat → Bool} (k1 : n1 ≤ 41) (k3 : n3 ≤ 300) : (encPc n1 n3 g L h).length ≤ 4000 := by
  simp [encPc, headP_length, idsB_length, litB_length]
  omega

/-- A new picture is handed back. -/
def DpcOut (ids : List Int) (L : Int) (lits : List Bool) (w : World) (e : Ending) (w' : World) : Prop :=
  ∃ a1 a3 c1 c3 l1 h1 l3 h3, e = .returned (.agg #[.slice a1 ids.length c1, .int .i64 L, .slice a3 lits.length c3]) ∧ PcDj w' w.heap.size w'.heap.size a1 a3 ids.length lits.length (gets ids) (getb lits) l1 h1 l3 h3 ∧ Below w.heap.size w w'

set_option maxRecDepth 100000 in
set_option maxHeartbeats 4000000 in
theorem drawEP (bs : List Int) {ids : List Int} {L : Int} {lits : List Bool} {rs' : List Int} (hd : PicD (bs.take 500) ids L lits rs') (a : Option Addr) (c : Nat) (w : World) (h : CodeAt w a c bs) :
    Calls Tryz.prog 12 #[.slice a bs.length c] w fun e w' => DpcOut ids L lits w e w' := by
  have HD : Hid (PicD (bs.take 500) ids L lits rs') := hd
  obtain ⟨W0, hW0⟩ : ∃ W0, W0 = w.alloc (.cells #[.slice none 0 0, .int .i64 0, .slice none 0 0] 39) := ⟨_, rfl⟩
  have X0 : Hid (BxF W0 w.heap.size (.slice none 0 0) (.int .i64 0) (.slice none 0 0)) := by unfold Hid; rw [hW0]; exact BxF.new _ _ _ _ _
  have bW0 : Below w.heap.size w W0 := by rw [hW0]; exact bel0 _ _
  have HC : Hid (CodeAt W0 a c bs) := h.later bW0
  clear hd h
  go_enter Tryz.func12, Tryz.ntmps12
  go_wp2_with fail
  rw [← hW0]
  clear hW0
  refine HC.out.open_.mono ?_
  rintro e w1 ⟨rfl, hr, hb, hs⟩
  have HR : Hid (Rs W0.heap.size (bs.take 500) w1) := hr
  have B1 : Hid (Below W0.heap.size W0 w1) := hb
  have y0 : w.heap.size < W0.heap.size := X0.out.lt
  clear hr hb HC
  go_wp2_with fail
  refine (HD.out.tells W0.heap.size _ HR.out).mono ?_
  rintro e w2 ⟨a1, a3, c1, c3, l1, h1, l3, h3, rfl, hj, _, ha⟩
  have B2 : Hid (Below W0.heap.size W0 w2) := B1.out.trans (ha.below (Nat.le_refl _) (by omega))
  have X2 := X0.out.aside (Aside.of (P := W0.heap.size) B2.out) (by omega)
  have HJ : Hid (PcDj w2 w1.heap.size w2.heap.size a1 a3 ids.length lits.length (gets ids) (getb lits) l1 h1 l3 h3) := hj
  have x0 := X2.q0
  have x1 := X2.q1
  have x2 := X2.q2
  have f0 := X2.fr 0
  have f1 := X2.fr 1
  have f2 := X2.fr 2
  clear hj ha HR B1 HD X2 X0
  go_wp2
  refine bodyPost_ret (v := .agg #[.slice a1 ids.length c1, .int .i64 L, .slice a3 lits.length c3]) (by simp [results, Tryz.results12, go_sem, x0, x1, x2]) rfl ?_
  have hl : w.heap.size < w1.heap.size := by omega
  refine ⟨a1, a3, c1, c3, l1, h1, l3, h3, rfl, (((HJ.out.low hl 0 _).low hl 1 _).low hl 2 _).down (Nat.le_of_lt hl) (by simp) (Nat.le_refl _), ?_⟩
  exact (((bW0.trans (B2.out.mono (Nat.le_of_lt y0))).setCell (p := ⟨w.heap.size, 0, none⟩) (Nat.le_refl _) _).setCell (p := ⟨w.heap.size, 1, none⟩) (Nat.le_refl _) _).setCell (p := ⟨w.heap.size, 2, none⟩) (Nat.le_refl _) _

/-- What DrawDecodePicture draws. -/
def decPY (bs : List Int) (ys rs' : List Int) : List Int := if (bs.take 500).headD 0 % 3 = 0 then spoilY rs' ys else ys

set_option maxRecDepth 100000 in
set_option maxHeartbeats 4000000 in
theorem drawDP (bs : List Int) {ids : List Int} {L : Int} {lits : List Bool} {rs' : List Int} (hd : PicD (bs.take 500).tail ids L lits rs') (a : Option Addr) (c : Nat) (w : World) (h : CodeAt w a c bs) :
    Calls Tryz.prog 17 #[.slice a bs.length c] w fun e w' => SpoilOut w.heap.size w.heap.size (decPY bs (encPc ids.length lits.length (gets ids) L (getb lits)) rs') w e w' := by
  have HD : Hid (PicD (bs.take 500).tail ids L lits rs') := hd
  have HC : Hid (CodeAt w a c bs) := h
  obtain ⟨ys, hys⟩ : ∃ ys, ys = encPc ids.length lits.length (gets ids) L (getb lits) := ⟨_, rfl⟩
  have hyl : ys.length ≤ 4000 := by
    rw [hys]
    exact encPc_len hd.n1 hd.n3
  have hb1 : ids.length ≤ 10000 := Nat.le_trans hd.n1 (by decide)
  have hb3 : lits.length ≤ 100000 := Nat.le_trans hd.n3 (by decide)
  have hb4 : 0 ≤ L := hd.l0
  have hb5 : L ≤ 255 := by have := hd.l1; omega
  have HG : Hid (∀ i, i < ids.length → gets ids i ≤ 4294967295) := fun i hi => by
    have := hd.g (gets ids i) (gets_mem hi)
    omega
  obtain ⟨kk, hkk⟩ : ∃ k, k = (bs.take 500).headD 0 := ⟨_, rfl⟩
  have HK : Hid ((bs.take 500).headD 0 = kk) := hkk.symm
  have HY : Hid (decPY bs (encPc ids.length lits.length (gets ids) L (getb lits)) rs' = if kk % 3 = 0 then spoilY rs' ys else ys) := by unfold Hid decPY; rw [← hys, hkk]
  have HYS : Hid (encPc ids.length lits.length (gets ids) L (getb lits) = ys) := hys.symm
  have HDY : Hid (Dig 256 ys) := by unfold Hid; rw [hys]; exact encPc_u8 _ _ _ _ _
  clear hd h hys hkk
  go_enter Tryz.func17, Tryz.ntmps17
  go_wp2_with fail
  refine HC.out.open_.mono ?_
  rintro e w1 ⟨rfl, hr, hb, hs⟩
  have HR : Hid (Rs w.heap.size (bs.take 500) w1) := hr
  have B1 : Hid (Below w.heap.size w w1) := hb
  clear hr hb HC
  go_wp2_with fail
  refine (nextF_any w.heap.size (bs.take 500) _ HR.out).mono ?_
  rintro e w2 ⟨rfl, c0, c1, hr, ha⟩
  rw [HK.out] at c0 c1 ⊢
  have HR2 : Hid (Rs w.heap.size (bs.take 500).tail w2) := hr
  have B2 : Hid (Below w.heap.size w w2) := B1.out.trans (ha.below (Nat.le_refl _) (by omega))
  have y2 : w.heap.size < w2.heap.size := hr.lt
  clear hr ha HR B1
  go_wp2_with fail
  refine (HD.out.tells w.heap.size _ HR2.out).mono ?_
  rintro e w3 ⟨a1, a3, k1, k3, l1, h1, l3, h3, rfl, hj, hr, ha⟩
  have HR3 : Hid (Rs w.heap.size rs' w3) := hr
  have B3 : Hid (Below w.heap.size w w3) := B2.out.trans (ha.below (Nat.le_refl _) (by omega))
  have HJ : Hid (PcAt w3 a1 a3 ids.length lits.length (gets ids) (getb lits)) := hj.at
  have y3 : w.heap.size < w3.heap.size := hr.lt
  clear hr ha hj HR2 B2
  go_wp2_with fail
  refine (picture6_any a1 a3 ids.length lits.length k1 k3 L (gets ids) (getb lits) _ hb1 hb3 hb4 hb5 HG.out HJ.out).mono ?_
  rintro e w4 ⟨v, rfl, ho, hb⟩
  rw [HYS.out] at ho
  have HO : Hid (OwnY w4 w3.heap.size v ys) := ho
  have HR4 : Hid (Rs w.heap.size rs' w4) := HR3.out.later hb
  have B4 : Hid (Below w.heap.size w w4) := B3.out.trans (hb.mono (Nat.le_of_lt y3))
  have y4 : w3.heap.size ≤ w4.heap.size := hb.size
  have hm3 : kk.tmod 3 = kk % 3 := Int.tmod_eq_emod_of_nonneg c0
  clear ho hb HR3 B3 HJ HD
  by_cases k3 : kk % 3 = 0
  · have hE : Hid (decPY bs (encPc ids.length lits.length (gets ids) L (getb lits)) rs' = spoilY rs' ys) := by unfold Hid; rw [HY.out, if_pos k3]
    rw [k3] at hm3
    clear HY k3
    go_wp2_with fail
    refine (spoil_any rs' ys hyl HDY.out w.heap.size w3.heap.size y3 _ _ HR4.out HO.out y4).mono ?_
    rintro e w5 ⟨⟨a5, c5, rfl, hc5, hr5, hb5⟩, hd5⟩
    go_wp2
    go_ret
    rw [hE.out]
    exact ⟨⟨a5, c5, rfl, hc5, hr5.down (Nat.le_of_lt y3), B4.out.trans hb5⟩, hd5⟩
  · have hE : Hid (decPY bs (encPc ids.length lits.length (gets ids) L (getb lits)) rs' = ys) := by unfold Hid; rw [HY.out, if_neg k3]
    have k3' : kk % 3 = 1 ∨ kk % 3 = 2 := by omega
    obtain ⟨a5, c5, rfl, hr5⟩ := HO.out.row
    obtain ⟨_, hc5, _⟩ := ownY_out HO.out
    rcases k3' with k3' | k3' <;> (
      rw [k3'] at hm3
      clear k3 k3' HY
      go_wp2
      go_ret
      rw [hE.out]
      exact ⟨⟨a5, c5, rfl, hc5, hr5.down (Nat.le_of_lt y3), B4.out⟩, HDY.out⟩)

end Go.Proofs.YtiajhekjojeaeaaGreat

/-
  What the law of bytes holds against one another: points, scenes.
-/
namespace Go.Proofs.YtiajhekjojeaeaaGreat
open Go.RowKit

set_option maxRecDepth 100000 in
set_option maxHeartbeats 2000000 in
theorem samePoint_same (x y z : Int) (w : World) :
    Calls Tryz.prog 29 #[.agg #[.int .u32 x, .int .u32 y, .int .u32 z], .agg #[.int .u32 x, .int .u32 y, .int .u32 z]] w fun e w' => e = .returned (.bool true) ∧ Below w.heap.size w w' := by
  go_enter Tryz.func29, Tryz.ntmps29
  go_wp2
  go_ret
  exact ⟨rfl, bel2 _ _ _⟩

/-- The boxes of two scenes. -/
structure BoxS (W : World) (X : Nat) (u1 u2 u3 v1 v2 v3 : Value) : Prop where
  a1 : W.cell? ⟨X, 0, none⟩ = some u1
  a2 : W.cell? ⟨X, 1, none⟩ = some u2
  a3 : W.cell? ⟨X, 2, none⟩ = some u3
  b1 : W.cell? ⟨X + 1, 0, none⟩ = some v1
  b2 : W.cell? ⟨X + 1, 1, none⟩ = some v2
  b3 : W.cell? ⟨X + 1, 2, none⟩ = some v3
theorem BoxS.new (w : World) (u1 u2 u3 v1 v2 v3 : Value) (t t' : TypeId) : BoxS ((w.alloc (.cells #[u1, u2, u3] t)).alloc (.cells #[v1, v2, v3] t')) w.heap.size u1 u2 u3 v1 v2 v3 := by
  constructor <;> simp [go_sem]
theorem lastS9 {p0 p1 p2 p3 p4 p5 p6 p7 p8 p9 p10 p11 p12 p13 p14 p15 p16 p17 p18 p19 q : Prop} (h : p0 ∧ p1 ∧ p2 ∧ p3 ∧ p4 ∧ p5 ∧ p6 ∧ p7 ∧ p8 ∧ p9 ∧ p10 ∧ p11 ∧ p12 ∧ p13 ∧ p14 ∧ p15 ∧ p16 ∧ p17 ∧ p18 ∧ p19 ∧ q) : q := by
  obtain ⟨_, _, _, _, _, _, _, _, _, _, _, _, _, _, _, _, _, _, _, _, h⟩ := h
  exact h
theorem lastS6 {p0 p1 p2 p3 p4 p5 p6 p7 p8 p9 p10 p11 p12 p13 q : Prop} (h : p0 ∧ p1 ∧ p2 ∧ p3 ∧ p4 ∧ p5 ∧ p6 ∧ p7 ∧ p8 ∧ p9 ∧ p10 ∧ p11 ∧ p12 ∧ p13 ∧ q) : q := by
  obtain ⟨_, _, _, _, _, _, _, _, _, _, _, _, _, _, h⟩ := h
  exact h
theorem lastS3 {p0 p1 p2 p3 p4 p5 p6 p7 q : Prop} (h : p0 ∧ p1 ∧ p2 ∧ p3 ∧ p4 ∧ p5 ∧ p6 ∧ p7 ∧ q) : q := by
  obtain ⟨_, _, _, _, _, _, _, _, h⟩ := h
  exact h


set_option maxRecDepth 100000 in
set_option maxHeartbeats 16000000 in
theorem sameScene_same (a1 a2 a3 b1 b2 b3 : Option Addr) (n1 n2 n3 c1 c2 c3 d1 d2 d3 : Nat) (z1 z2 z3 : List Int) (w : World) (hn1 : n1 ≤ 1048576) (hn2 : n2 ≤ 1048576) (hn3 : n3 ≤ 1048576) (hs : ScAt w a1 a2 a3 n1 n2 n3 z1 z2 z3) (hs1 : ScAt w b1 b2 b3 n1 n2 n3 z1 z2 z3) :
    Calls Tryz.prog 8 #[.agg #[.slice a1 n1 c1, .slice a2 n2 c2, .slice a3 n3 c3], .agg #[.slice b1 n1 d1, .slice b2 n2 d2, .slice b3 n3 d3]] w fun e w' => e = .returned (.bool true) ∧ Below w.heap.size w w' := by
  obtain ⟨W0, hW0⟩ : ∃ W, W = (w.alloc (.cells #[.slice a1 n1 c1, .slice a2 n2 c2, .slice a3 n3 c3] 27)).alloc (.cells #[.slice b1 n1 d1, .slice b2 n2 d2, .slice b3 n3 d3] 27) := ⟨_, rfl⟩
  have bW0 : Below w.heap.size w W0 := by rw [hW0]; exact bel2 _ _ _
  have BX : Hid (BoxS W0 w.heap.size (.slice a1 n1 c1) (.slice a2 n2 c2) (.slice a3 n3 c3) (.slice b1 n1 d1) (.slice b2 n2 d2) (.slice b3 n3 d3)) := by unfold Hid; rw [hW0]; exact BoxS.new _ _ _ _ _ _ _ _ _
  have y1 : w.heap.size + 1 < W0.heap.size := by rw [hW0]; simp
  have y0 : w.heap.size < W0.heap.size := by omega
  have HSC : Hid (ScAt W0 a1 a2 a3 n1 n2 n3 z1 z2 z3) := hs.later bW0
  have HSD : Hid (ScAt W0 b1 b2 b3 n1 n2 n3 z1 z2 z3) := hs1.later bW0
  clear hs hs1
  go_enter Tryz.func8, Tryz.ntmps8
  go_wp2
  rw [← hW0]
  clear hW0
  go_loopw [5] (fun si wr => ∃ (i : Nat), i ≤ n1 ∧ si = .int .i64 i ∧ Hid (Below W0.heap.size W0 wr)) (fun si _ => n1 - (intOf si).toNat)
  case atStart => exact ⟨0, Nat.zero_le _, rfl, Below.refl _ _⟩
  case round =>
    obtain ⟨i, hi, rfl, hb⟩ := hrel
    have v0 : wr.cell? ⟨w.heap.size, 0, none⟩ = some (.slice a1 n1 c1) := (hb.out.cell (p := ⟨w.heap.size, 0, none⟩) y0).trans BX.out.a1
    have v1 : wr.cell? ⟨w.heap.size + 1, 0, none⟩ = some (.slice b1 n1 d1) := (hb.out.cell (p := ⟨w.heap.size + 1, 0, none⟩) y1).trans BX.out.b1
    by_cases hlt : i < n1
    · have hle : ∀ j, j < 9 → i * 9 + j < z1.length := by intro j hj; rw [HSC.out.l1]; omega
      obtain ⟨bb, off, rfl, hbl, hc⟩ := HSC.out.r1.resolve_left (by intro h; have := hle 0 (by omega); rw [h] at this; simp at this)
      obtain ⟨be, off1, rfl, hbl1, hc1⟩ := HSD.out.r1.resolve_left (by intro h; have := hle 0 (by omega); rw [h] at this; simp at this)
      obtain ⟨x0, hx0⟩ : ∃ x, x = z1.getD (i * 9) 0 := ⟨_, rfl⟩
      have q0 : wr.cell? ⟨bb, off + i * 9, none⟩ = some (.int .u32 x0) := by
        have := (hb.out.cell (p := ⟨bb, off + (i * 9 + 0), none⟩) hbl).trans (hc (i * 9 + 0) (hle 0 (by omega)))
        rw [hx0]
        simpa [Nat.add_assoc] using this
      have p0 : wr.cell? ⟨be, off1 + i * 9, none⟩ = some (.int .u32 x0) := by
        have := (hb.out.cell (p := ⟨be, off1 + (i * 9 + 0), none⟩) hbl1).trans (hc1 (i * 9 + 0) (hle 0 (by omega)))
        rw [hx0]
        simpa [Nat.add_assoc] using this
      obtain ⟨x1, hx1⟩ : ∃ x, x = z1.getD (i * 9 + 1) 0 := ⟨_, rfl⟩
      have q1 : wr.cell? ⟨bb, off + i * 9 + 1, none⟩ = some (.int .u32 x1) := by
        have := (hb.out.cell (p := ⟨bb, off + (i * 9 + 1), none⟩) hbl).trans (hc (i * 9 + 1) (hle 1 (by omega)))
        rw [hx1]
        simpa [Nat.add_assoc] using this
      have p1 : wr.cell? ⟨be, off1 + i * 9 + 1, none⟩ = some (.int .u32 x1) := by
        have := (hb.out.cell (p := ⟨be, off1 + (i * 9 + 1), none⟩) hbl1).trans (hc1 (i * 9 + 1) (hle 1 (by omega)))
        rw [hx1]
        simpa [Nat.add_assoc] using this
      obtain ⟨x2, hx2⟩ : ∃ x, x = z1.getD (i * 9 + 2) 0 := ⟨_, rfl⟩
      have q2 : wr.cell? ⟨bb, off + i * 9 + 2, none⟩ = some (.int .u32 x2) := by
        have := (hb.out.cell (p := ⟨bb, off + (i * 9 + 2), none⟩) hbl).trans (hc (i * 9 + 2) (hle 2 (by omega)))
        rw [hx2]
        simpa [Nat.add_assoc] using this
      have p2 : wr.cell? ⟨be, off1 + i * 9 + 2, none⟩ = some (.int .u32 x2) := by
        have := (hb.out.cell (p := ⟨be, off1 + (i * 9 + 2), none⟩) hbl1).trans (hc1 (i * 9 + 2) (hle 2 (by omega)))
        rw [hx2]
        simpa [Nat.add_assoc] using this
      obtain ⟨x3, hx3⟩ : ∃ x, x = z1.getD (i * 9 + 3) 0 := ⟨_, rfl⟩
      have q3 : wr.cell? ⟨bb, off + i * 9 + 3, none⟩ = some (.int .u32 x3) := by
        have := (hb.out.cell (p := ⟨bb, off + (i * 9 + 3), none⟩) hbl).trans (hc (i * 9 + 3) (hle 3 (by omega)))
        rw [hx3]
        simpa [Nat.add_assoc] using this
      have p3 : wr.cell? ⟨be, off1 + i * 9 + 3, none⟩ = some (.int .u32 x3) := by
        have := (hb.out.cell (p := ⟨be, off1 + (i * 9 + 3), none⟩) hbl1).trans (hc1 (i * 9 + 3) (hle 3 (by omega)))
        rw [hx3]
        simpa [Nat.add_assoc] using this
      obtain ⟨x4, hx4⟩ : ∃ x, x = z1.getD (i * 9 + 4) 0 := ⟨_, rfl⟩
      have q4 : wr.cell? ⟨bb, off + i * 9 + 4, none⟩ = some (.int .u32 x4) := by
        have := (hb.out.cell (p := ⟨bb, off + (i * 9 + 4), none⟩) hbl).trans (hc (i * 9 + 4) (hle 4 (by omega)))
        rw [hx4]
        simpa [Nat.add_assoc] using this
      have p4 : wr.cell? ⟨be, off1 + i * 9 + 4, none⟩ = some (.int .u32 x4) := by
        have := (hb.out.cell (p := ⟨be, off1 + (i * 9 + 4), none⟩) hbl1).trans (hc1 (i * 9 + 4) (hle 4 (by omega)))
        rw [hx4]
        simpa [Nat.add_assoc] using this
      obtain ⟨x5, hx5⟩ : ∃ x, x = z1.getD (i * 9 + 5) 0 := ⟨_, rfl⟩
      have q5 : wr.cell? ⟨bb, off + i * 9 + 5, none⟩ = some (.int .u32 x5) := by
        have := (hb.out.cell (p := ⟨bb, off + (i * 9 + 5), none⟩) hbl).trans (hc (i * 9 + 5) (hle 5 (by omega)))
        rw [hx5]
        simpa [Nat.add_assoc] using this
      have p5 : wr.cell? ⟨be, off1 + i * 9 + 5, none⟩ = some (.int .u32 x5) := by
        have := (hb.out.cell (p := ⟨be, off1 + (i * 9 + 5), none⟩) hbl1).trans (hc1 (i * 9 + 5) (hle 5 (by omega)))
        rw [hx5]
        simpa [Nat.add_assoc] using this
      obtain ⟨x6, hx6⟩ : ∃ x, x = z1.getD (i * 9 + 6) 0 := ⟨_, rfl⟩
      have q6 : wr.cell? ⟨bb, off + i * 9 + 6, none⟩ = some (.int .u32 x6) := by
        have := (hb.out.cell (p := ⟨bb, off + (i * 9 + 6), none⟩) hbl).trans (hc (i * 9 + 6) (hle 6 (by omega)))
        rw [hx6]
        simpa [Nat.add_assoc] using this
      have p6 : wr.cell? ⟨be, off1 + i * 9 + 6, none⟩ = some (.int .u32 x6) := by
        have := (hb.out.cell (p := ⟨be, off1 + (i * 9 + 6), none⟩) hbl1).trans (hc1 (i * 9 + 6) (hle 6 (by omega)))
        rw [hx6]
        simpa [Nat.add_assoc] using this
      obtain ⟨x7, hx7⟩ : ∃ x, x = z1.getD (i * 9 + 7) 0 := ⟨_, rfl⟩
      have q7 : wr.cell? ⟨bb, off + i * 9 + 7, none⟩ = some (.int .u32 x7) := by
        have := (hb.out.cell (p := ⟨bb, off + (i * 9 + 7), none⟩) hbl).trans (hc (i * 9 + 7) (hle 7 (by omega)))
        rw [hx7]
        simpa [Nat.add_assoc] using this
      have p7 : wr.cell? ⟨be, off1 + i * 9 + 7, none⟩ = some (.int .u32 x7) := by
        have := (hb.out.cell (p := ⟨be, off1 + (i * 9 + 7), none⟩) hbl1).trans (hc1 (i * 9 + 7) (hle 7 (by omega)))
        rw [hx7]
        simpa [Nat.add_assoc] using this
      obtain ⟨x8, hx8⟩ : ∃ x, x = z1.getD (i * 9 + 8) 0 := ⟨_, rfl⟩
      have q8 : wr.cell? ⟨bb, off + i * 9 + 8, none⟩ = some (.int .u32 x8) := by
        have := (hb.out.cell (p := ⟨bb, off + (i * 9 + 8), none⟩) hbl).trans (hc (i * 9 + 8) (hle 8 (by omega)))
        rw [hx8]
        simpa [Nat.add_assoc] using this
      have p8 : wr.cell? ⟨be, off1 + i * 9 + 8, none⟩ = some (.int .u32 x8) := by
        have := (hb.out.cell (p := ⟨be, off1 + (i * 9 + 8), none⟩) hbl1).trans (hc1 (i * 9 + 8) (hle 8 (by omega)))
        rw [hx8]
        simpa [Nat.add_assoc] using this
      have hbl2 : bb < wr.heap.size := Nat.lt_of_lt_of_le hbl hb.out.size
      have hbl3 : be < wr.heap.size := Nat.lt_of_lt_of_le hbl1 hb.out.size
      have hw0 : w.heap.size < wr.heap.size := Nat.lt_of_lt_of_le y0 hb.out.size
      have hw1 : w.heap.size + 1 < wr.heap.size := Nat.lt_of_lt_of_le y1 hb.out.size
      have HH : Hid (∀ w', Below wr.heap.size wr w' → w'.cell? ⟨bb, off + i * 9, none⟩ = some (.int .u32 x0) ∧ w'.cell? ⟨bb, off + i * 9 + 1, none⟩ = some (.int .u32 x1) ∧ w'.cell? ⟨bb, off + i * 9 + 2, none⟩ = some (.int .u32 x2) ∧ w'.cell? ⟨bb, off + i * 9 + 3, none⟩ = some (.int .u32 x3) ∧ w'.cell? ⟨bb, off + i * 9 + 4, none⟩ = some (.int .u32 x4) ∧ w'.cell? ⟨bb, off + i * 9 + 5, none⟩ = some (.int .u32 x5) ∧ w'.cell? ⟨bb, off + i * 9 + 6, none⟩ = some (.int .u32 x6) ∧ w'.cell? ⟨bb, off + i * 9 + 7, none⟩ = some (.int .u32 x7) ∧ w'.cell? ⟨bb, off + i * 9 + 8, none⟩ = some (.int .u32 x8) ∧ w'.cell? ⟨be, off1 + i * 9, none⟩ = some (.int .u32 x0) ∧ w'.cell? ⟨be, off1 + i * 9 + 1, none⟩ = some (.int .u32 x1) ∧ w'.cell? ⟨be, off1 + i * 9 + 2, none⟩ = some (.int .u32 x2) ∧ w'.cell? ⟨be, off1 + i * 9 + 3, none⟩ = some (.int .u32 x3) ∧ w'.cell? ⟨be, off1 + i * 9 + 4, none⟩ = some (.int .u32 x4) ∧ w'.cell? ⟨be, off1 + i * 9 + 5, none⟩ = some (.int .u32 x5) ∧ w'.cell? ⟨be, off1 + i * 9 + 6, none⟩ = some (.int .u32 x6) ∧ w'.cell? ⟨be, off1 + i * 9 + 7, none⟩ = some (.int .u32 x7) ∧ w'.cell? ⟨be, off1 + i * 9 + 8, none⟩ = some (.int .u32 x8) ∧ w'.cell? ⟨w.heap.size, 0, none⟩ = some (.slice (some ⟨bb, off, none⟩) n1 c1) ∧ w'.cell? ⟨w.heap.size + 1, 0, none⟩ = some (.slice (some ⟨be, off1, none⟩) n1 d1) ∧ Below wr.heap.size wr w') := by
        intro w' hw
        exact ⟨((bcell hw).1 _ _ hbl2).trans q0, ((bcell hw).1 _ _ hbl2).trans q1, ((bcell hw).1 _ _ hbl2).trans q2, ((bcell hw).1 _ _ hbl2).trans q3, ((bcell hw).1 _ _ hbl2).trans q4, ((bcell hw).1 _ _ hbl2).trans q5, ((bcell hw).1 _ _ hbl2).trans q6, ((bcell hw).1 _ _ hbl2).trans q7, ((bcell hw).1 _ _ hbl2).trans q8, ((bcell hw).1 _ _ hbl3).trans p0, ((bcell hw).1 _ _ hbl3).trans p1, ((bcell hw).1 _ _ hbl3).trans p2, ((bcell hw).1 _ _ hbl3).trans p3, ((bcell hw).1 _ _ hbl3).trans p4, ((bcell hw).1 _ _ hbl3).trans p5, ((bcell hw).1 _ _ hbl3).trans p6, ((bcell hw).1 _ _ hbl3).trans p7, ((bcell hw).1 _ _ hbl3).trans p8, ((bcell hw).1 _ _ hw0).trans v0, ((bcell hw).1 _ _ hw1).trans v1, hw⟩
      have hib : (i : Int) < n1 := by omega
      clear hc hc1 hle hbl hbl1 hbl2 hbl3 hw0 hw1 hx0 q0 p0 hx1 q1 p1 hx2 q2 p2 hx3 q3 p3 hx4 q4 p4 hx5 q5 p5 hx6 q6 p6 hx7 q7 p7 hx8 q8 p8
      go_wp2
      go_region_held3 (fun w' => w'.cell? ⟨bb, off + i * 9, none⟩ = some (.int .u32 x0) ∧ w'.cell? ⟨bb, off + i * 9 + 1, none⟩ = some (.int .u32 x1) ∧ w'.cell? ⟨bb, off + i * 9 + 2, none⟩ = some (.int .u32 x2) ∧ w'.cell? ⟨bb, off + i * 9 + 3, none⟩ = some (.int .u32 x3) ∧ w'.cell? ⟨bb, off + i * 9 + 4, none⟩ = some (.int .u32 x4) ∧ w'.cell? ⟨bb, off + i * 9 + 5, none⟩ = some (.int .u32 x5) ∧ w'.cell? ⟨bb, off + i * 9 + 6, none⟩ = some (.int .u32 x6) ∧ w'.cell? ⟨bb, off + i * 9 + 7, none⟩ = some (.int .u32 x7) ∧ w'.cell? ⟨bb, off + i * 9 + 8, none⟩ = some (.int .u32 x8) ∧ w'.cell? ⟨be, off1 + i * 9, none⟩ = some (.int .u32 x0) ∧ w'.cell? ⟨be, off1 + i * 9 + 1, none⟩ = some (.int .u32 x1) ∧ w'.cell? ⟨be, off1 + i * 9 + 2, none⟩ = some (.int .u32 x2) ∧ w'.cell? ⟨be, off1 + i * 9 + 3, none⟩ = some (.int .u32 x3) ∧ w'.cell? ⟨be, off1 + i * 9 + 4, none⟩ = some (.int .u32 x4) ∧ w'.cell? ⟨be, off1 + i * 9 + 5, none⟩ = some (.int .u32 x5) ∧ w'.cell? ⟨be, off1 + i * 9 + 6, none⟩ = some (.int .u32 x6) ∧ w'.cell? ⟨be, off1 + i * 9 + 7, none⟩ = some (.int .u32 x7) ∧ w'.cell? ⟨be, off1 + i * 9 + 8, none⟩ = some (.int .u32 x8) ∧ w'.cell? ⟨w.heap.size, 0, none⟩ = some (.slice (some ⟨bb, off, none⟩) n1 c1) ∧ w'.cell? ⟨w.heap.size + 1, 0, none⟩ = some (.slice (some ⟨be, off1, none⟩) n1 d1) ∧ Below wr.heap.size wr w')
        (first | exact HH.out _ (Below.refl _ _).drew | exact HH.out _ (by assumption))
        (first | (go_at_call 29; refine (samePoint_same _ _ _ _).mono ?_; rintro e w1 ⟨rfl, hb1⟩; have hB1 : Below wr.heap.size wr w1 := Below.trans (lastS9 (by assumption)) (Below.mono hb1 (Below.size (lastS9 (by assumption))))))
      have HBn : Hid (Below W0.heap.size W0 w1) := hb.out.trans (hB1.mono hb.out.size)
      clear hb1 hB1 hb HH
      go_wp2
      go_roundw
      case rel => exact ⟨i + 1, by omega, by go_num, HBn⟩
      case measure => simp [intOf]; omega
    · have hje : n1 = i := by omega
      subst hje
      have HB1 : Hid (Below W0.heap.size W0 wr) := hb
      clear hb
      go_wp2
      go_loopw [6] (fun si wr => ∃ (i : Nat), i ≤ n2 ∧ si = .int .i64 i ∧ Hid (Below W0.heap.size W0 wr)) (fun si _ => n2 - (intOf si).toNat)
      case atStart => exact ⟨0, Nat.zero_le _, rfl, HB1⟩
      case round =>
        obtain ⟨i, hi, rfl, hb⟩ := hrel
        have v0 : wr.cell? ⟨w.heap.size, 1, none⟩ = some (.slice a2 n2 c2) := (hb.out.cell (p := ⟨w.heap.size, 1, none⟩) y0).trans BX.out.a2
        have v1 : wr.cell? ⟨w.heap.size + 1, 1, none⟩ = some (.slice b2 n2 d2) := (hb.out.cell (p := ⟨w.heap.size + 1, 1, none⟩) y1).trans BX.out.b2
        by_cases hlt : i < n2
        · have hle : ∀ j, j < 6 → i * 6 + j < z2.length := by intro j hj; rw [HSC.out.l2]; omega
          obtain ⟨bb, off, rfl, hbl, hc⟩ := HSC.out.r2.resolve_left (by intro h; have := hle 0 (by omega); rw [h] at this; simp at this)
          obtain ⟨be, off1, rfl, hbl1, hc1⟩ := HSD.out.r2.resolve_left (by intro h; have := hle 0 (by omega); rw [h] at this; simp at this)
          obtain ⟨x0, hx0⟩ : ∃ x, x = z2.getD (i * 6) 0 := ⟨_, rfl⟩
          have q0 : wr.cell? ⟨bb, off + i * 6, none⟩ = some (.int .u32 x0) := by
            have := (hb.out.cell (p := ⟨bb, off + (i * 6 + 0), none⟩) hbl).trans (hc (i * 6 + 0) (hle 0 (by omega)))
            rw [hx0]
            simpa [Nat.add_assoc] using this
          have p0 : wr.cell? ⟨be, off1 + i * 6, none⟩ = some (.int .u32 x0) := by
            have := (hb.out.cell (p := ⟨be, off1 + (i * 6 + 0), none⟩) hbl1).trans (hc1 (i * 6 + 0) (hle 0 (by omega)))
            rw [hx0]
            simpa [Nat.add_assoc] using this
          obtain ⟨x1, hx1⟩ : ∃ x, x = z2.getD (i * 6 + 1) 0 := ⟨_, rfl⟩
          have q1 : wr.cell? ⟨bb, off + i * 6 + 1, none⟩ = some (.int .u32 x1) := by
            have := (hb.out.cell (p := ⟨bb, off + (i * 6 + 1), none⟩) hbl).trans (hc (i * 6 + 1) (hle 1 (by omega)))
            rw [hx1]
            simpa [Nat.add_assoc] using this
          have p1 : wr.cell? ⟨be, off1 + i * 6 + 1, none⟩ = some (.int .u32 x1) := by
            have := (hb.out.cell (p := ⟨be, off1 + (i * 6 + 1), none⟩) hbl1).trans (hc1 (i * 6 + 1) (hle 1 (by omega)))
            rw [hx1]
            simpa [Nat.add_assoc] using this
          obtain ⟨x2, hx2⟩ : ∃ x, x = z2.getD (i * 6 + 2) 0 := ⟨_, rfl⟩
          have q2 : wr.cell? ⟨bb, off + i * 6 + 2, none⟩ = some (.int .u32 x2) := by
            have := (hb.out.cell (p := ⟨bb, off + (i * 6 + 2), none⟩) hbl).trans (hc (i * 6 + 2) (hle 2 (by omega)))
            rw [hx2]
            simpa [Nat.add_assoc] using this
          have p2 : wr.cell? ⟨be, off1 + i * 6 + 2, none⟩ = some (.int .u32 x2) := by
            have := (hb.out.cell (p := ⟨be, off1 + (i * 6 + 2), none⟩) hbl1).trans (hc1 (i * 6 + 2) (hle 2 (by omega)))
            rw [hx2]
            simpa [Nat.add_assoc] using this
          obtain ⟨x3, hx3⟩ : ∃ x, x = z2.getD (i * 6 + 3) 0 := ⟨_, rfl⟩
          have q3 : wr.cell? ⟨bb, off + i * 6 + 3, none⟩ = some (.int .u32 x3) := by
            have := (hb.out.cell (p := ⟨bb, off + (i * 6 + 3), none⟩) hbl).trans (hc (i * 6 + 3) (hle 3 (by omega)))
            rw [hx3]
            simpa [Nat.add_assoc] using this
          have p3 : wr.cell? ⟨be, off1 + i * 6 + 3, none⟩ = some (.int .u32 x3) := by
            have := (hb.out.cell (p := ⟨be, off1 + (i * 6 + 3), none⟩) hbl1).trans (hc1 (i * 6 + 3) (hle 3 (by omega)))
            rw [hx3]
            simpa [Nat.add_assoc] using this
          obtain ⟨x4, hx4⟩ : ∃ x, x = z2.getD (i * 6 + 4) 0 := ⟨_, rfl⟩
          have q4 : wr.cell? ⟨bb, off + i * 6 + 4, none⟩ = some (.int .u32 x4) := by
            have := (hb.out.cell (p := ⟨bb, off + (i * 6 + 4), none⟩) hbl).trans (hc (i * 6 + 4) (hle 4 (by omega)))
            rw [hx4]
            simpa [Nat.add_assoc] using this
          have p4 : wr.cell? ⟨be, off1 + i * 6 + 4, none⟩ = some (.int .u32 x4) := by
            have := (hb.out.cell (p := ⟨be, off1 + (i * 6 + 4), none⟩) hbl1).trans (hc1 (i * 6 + 4) (hle 4 (by omega)))
            rw [hx4]
            simpa [Nat.add_assoc] using this
          obtain ⟨x5, hx5⟩ : ∃ x, x = z2.getD (i * 6 + 5) 0 := ⟨_, rfl⟩
          have q5 : wr.cell? ⟨bb, off + i * 6 + 5, none⟩ = some (.int .u32 x5) := by
            have := (hb.out.cell (p := ⟨bb, off + (i * 6 + 5), none⟩) hbl).trans (hc (i * 6 + 5) (hle 5 (by omega)))
            rw [hx5]
            simpa [Nat.add_assoc] using this
          have p5 : wr.cell? ⟨be, off1 + i * 6 + 5, none⟩ = some (.int .u32 x5) := by
            have := (hb.out.cell (p := ⟨be, off1 + (i * 6 + 5), none⟩) hbl1).trans (hc1 (i * 6 + 5) (hle 5 (by omega)))
            rw [hx5]
            simpa [Nat.add_assoc] using this
          have hbl2 : bb < wr.heap.size := Nat.lt_of_lt_of_le hbl hb.out.size
          have hbl3 : be < wr.heap.size := Nat.lt_of_lt_of_le hbl1 hb.out.size
          have hw0 : w.heap.size < wr.heap.size := Nat.lt_of_lt_of_le y0 hb.out.size
          have hw1 : w.heap.size + 1 < wr.heap.size := Nat.lt_of_lt_of_le y1 hb.out.size
          have HH : Hid (∀ w', Below wr.heap.size wr w' → w'.cell? ⟨bb, off + i * 6, none⟩ = some (.int .u32 x0) ∧ w'.cell? ⟨bb, off + i * 6 + 1, none⟩ = some (.int .u32 x1) ∧ w'.cell? ⟨bb, off + i * 6 + 2, none⟩ = some (.int .u32 x2) ∧ w'.cell? ⟨bb, off + i * 6 + 3, none⟩ = some (.int .u32 x3) ∧ w'.cell? ⟨bb, off + i * 6 + 4, none⟩ = some (.int .u32 x4) ∧ w'.cell? ⟨bb, off + i * 6 + 5, none⟩ = some (.int .u32 x5) ∧ w'.cell? ⟨be, off1 + i * 6, none⟩ = some (.int .u32 x0) ∧ w'.cell? ⟨be, off1 + i * 6 + 1, none⟩ = some (.int .u32 x1) ∧ w'.cell? ⟨be, off1 + i * 6 + 2, none⟩ = some (.int .u32 x2) ∧ w'.cell? ⟨be, off1 + i * 6 + 3, none⟩ = some (.int .u32 x3) ∧ w'.cell? ⟨be, off1 + i * 6 + 4, none⟩ = some (.int .u32 x4) ∧ w'.cell? ⟨be, off1 + i * 6 + 5, none⟩ = some (.int .u32 x5) ∧ w'.cell? ⟨w.heap.size, 1, none⟩ = some (.slice (some ⟨bb, off, none⟩) n2 c2) ∧ w'.cell? ⟨w.heap.size + 1, 1, none⟩ = some (.slice (some ⟨be, off1, none⟩) n2 d2) ∧ Below wr.heap.size wr w') := by
            intro w' hw
            exact ⟨((bcell hw).1 _ _ hbl2).trans q0, ((bcell hw).1 _ _ hbl2).trans q1, ((bcell hw).1 _ _ hbl2).trans q2, ((bcell hw).1 _ _ hbl2).trans q3, ((bcell hw).1 _ _ hbl2).trans q4, ((bcell hw).1 _ _ hbl2).trans q5, ((bcell hw).1 _ _ hbl3).trans p0, ((bcell hw).1 _ _ hbl3).trans p1, ((bcell hw).1 _ _ hbl3).trans p2, ((bcell hw).1 _ _ hbl3).trans p3, ((bcell hw).1 _ _ hbl3).trans p4, ((bcell hw).1 _ _ hbl3).trans p5, ((bcell hw).1 _ _ hw0).trans v0, ((bcell hw).1 _ _ hw1).trans v1, hw⟩
          have hib : (i : Int) < n2 := by omega
          clear hc hc1 hle hbl hbl1 hbl2 hbl3 hw0 hw1 hx0 q0 p0 hx1 q1 p1 hx2 q2 p2 hx3 q3 p3 hx4 q4 p4 hx5 q5 p5
          go_wp2
          go_region_held3 (fun w' => w'.cell? ⟨bb, off + i * 6, none⟩ = some (.int .u32 x0) ∧ w'.cell? ⟨bb, off + i * 6 + 1, none⟩ = some (.int .u32 x1) ∧ w'.cell? ⟨bb, off + i * 6 + 2, none⟩ = some (.int .u32 x2) ∧ w'.cell? ⟨bb, off + i * 6 + 3, none⟩ = some (.int .u32 x3) ∧ w'.cell? ⟨bb, off + i * 6 + 4, none⟩ = some (.int .u32 x4) ∧ w'.cell? ⟨bb, off + i * 6 + 5, none⟩ = some (.int .u32 x5) ∧ w'.cell? ⟨be, off1 + i * 6, none⟩ = some (.int .u32 x0) ∧ w'.cell? ⟨be, off1 + i * 6 + 1, none⟩ = some (.int .u32 x1) ∧ w'.cell? ⟨be, off1 + i * 6 + 2, none⟩ = some (.int .u32 x2) ∧ w'.cell? ⟨be, off1 + i * 6 + 3, none⟩ = some (.int .u32 x3) ∧ w'.cell? ⟨be, off1 + i * 6 + 4, none⟩ = some (.int .u32 x4) ∧ w'.cell? ⟨be, off1 + i * 6 + 5, none⟩ = some (.int .u32 x5) ∧ w'.cell? ⟨w.heap.size, 1, none⟩ = some (.slice (some ⟨bb, off, none⟩) n2 c2) ∧ w'.cell? ⟨w.heap.size + 1, 1, none⟩ = some (.slice (some ⟨be, off1, none⟩) n2 d2) ∧ Below wr.heap.size wr w')
            (first | exact HH.out _ (Below.refl _ _).drew | exact HH.out _ (by assumption))
            (first | (go_at_call 29; refine (samePoint_same _ _ _ _).mono ?_; rintro e w1 ⟨rfl, hb1⟩; have hB1 : Below wr.heap.size wr w1 := Below.trans (lastS6 (by assumption)) (Below.mono hb1 (Below.size (lastS6 (by assumption))))))
          have HBn : Hid (Below W0.heap.size W0 w1) := hb.out.trans (hB1.mono hb.out.size)
          clear hb1 hB1 hb HH
          go_wp2
          go_roundw
          case rel => exact ⟨i + 1, by omega, by go_num, HBn⟩
          case measure => simp [intOf]; omega
        · have hje : n2 = i := by omega
          subst hje
          have HB2 : Hid (Below W0.heap.size W0 wr) := hb
          clear hb
          go_wp2
          go_loopw [7] (fun si wr => ∃ (i : Nat), i ≤ n3 ∧ si = .int .i64 i ∧ Hid (Below W0.heap.size W0 wr)) (fun si _ => n3 - (intOf si).toNat)
          case atStart => exact ⟨0, Nat.zero_le _, rfl, HB2⟩
          case round =>
            obtain ⟨i, hi, rfl, hb⟩ := hrel
            have v0 : wr.cell? ⟨w.heap.size, 2, none⟩ = some (.slice a3 n3 c3) := (hb.out.cell (p := ⟨w.heap.size, 2, none⟩) y0).trans BX.out.a3
            have v1 : wr.cell? ⟨w.heap.size + 1, 2, none⟩ = some (.slice b3 n3 d3) := (hb.out.cell (p := ⟨w.heap.size + 1, 2, none⟩) y1).trans BX.out.b3
            by_cases hlt : i < n3
            · have hle : ∀ j, j < 3 → i * 3 + j < z3.length := by intro j hj; rw [HSC.out.l3]; omega
              obtain ⟨bb, off, rfl, hbl, hc⟩ := HSC.out.r3.resolve_left (by intro h; have := hle 0 (by omega); rw [h] at this; simp at this)
              obtain ⟨be, off1, rfl, hbl1, hc1⟩ := HSD.out.r3.resolve_left (by intro h; have := hle 0 (by omega); rw [h] at this; simp at this)
              obtain ⟨x0, hx0⟩ : ∃ x, x = z3.getD (i * 3) 0 := ⟨_, rfl⟩
              have q0 : wr.cell? ⟨bb, off + i * 3, none⟩ = some (.int .u32 x0) := by
                have := (hb.out.cell (p := ⟨bb, off + (i * 3 + 0), none⟩) hbl).trans (hc (i * 3 + 0) (hle 0 (by omega)))
                rw [hx0]
                simpa [Nat.add_assoc] using this
              have p0 : wr.cell? ⟨be, off1 + i * 3, none⟩ = some (.int .u32 x0) := by
                have := (hb.out.cell (p := ⟨be, off1 + (i * 3 + 0), none⟩) hbl1).trans (hc1 (i * 3 + 0) (hle 0 (by omega)))
                rw [hx0]
                simpa [Nat.add_assoc] using this
              obtain ⟨x1, hx1⟩ : ∃ x, x = z3.getD (i * 3 + 1) 0 := ⟨_, rfl⟩
              have q1 : wr.cell? ⟨bb, off + i * 3 + 1, none⟩ = some (.int .u32 x1) := by
                have := (hb.out.cell (p := ⟨bb, off + (i * 3 + 1), none⟩) hbl).trans (hc (i * 3 + 1) (hle 1 (by omega)))
                rw [hx1]
                simpa [Nat.add_assoc] using this
              have p1 : wr.cell? ⟨be, off1 + i * 3 + 1, none⟩ = some (.int .u32 x1) := by
                have := (hb.out.cell (p := ⟨be, off1 + (i * 3 + 1), none⟩) hbl1).trans (hc1 (i * 3 + 1) (hle 1 (by omega)))
                rw [hx1]
                simpa [Nat.add_assoc] using this
              obtain ⟨x2, hx2⟩ : ∃ x, x = z3.getD (i * 3 + 2) 0 := ⟨_, rfl⟩
              have q2 : wr.cell? ⟨bb, off + i * 3 + 2, none⟩ = some (.int .u32 x2) := by
                have := (hb.out.cell (p := ⟨bb, off + (i * 3 + 2), none⟩) hbl).trans (hc (i * 3 + 2) (hle 2 (by omega)))
                rw [hx2]
                simpa [Nat.add_assoc] using this
              have p2 : wr.cell? ⟨be, off1 + i * 3 + 2, none⟩ = some (.int .u32 x2) := by
                have := (hb.out.cell (p := ⟨be, off1 + (i * 3 + 2), none⟩) hbl1).trans (hc1 (i * 3 + 2) (hle 2 (by omega)))
                rw [hx2]
                simpa [Nat.add_assoc] using this
              have hbl2 : bb < wr.heap.size := Nat.lt_of_lt_of_le hbl hb.out.size
              have hbl3 : be < wr.heap.size := Nat.lt_of_lt_of_le hbl1 hb.out.size
              have hw0 : w.heap.size < wr.heap.size := Nat.lt_of_lt_of_le y0 hb.out.size
              have hw1 : w.heap.size + 1 < wr.heap.size := Nat.lt_of_lt_of_le y1 hb.out.size
              have HH : Hid (∀ w', Below wr.heap.size wr w' → w'.cell? ⟨bb, off + i * 3, none⟩ = some (.int .u32 x0) ∧ w'.cell? ⟨bb, off + i * 3 + 1, none⟩ = some (.int .u32 x1) ∧ w'.cell? ⟨bb, off + i * 3 + 2, none⟩ = some (.int .u32 x2) ∧ w'.cell? ⟨be, off1 + i * 3, none⟩ = some (.int .u32 x0) ∧ w'.cell? ⟨be, off1 + i * 3 + 1, none⟩ = some (.int .u32 x1) ∧ w'.cell? ⟨be, off1 + i * 3 + 2, none⟩ = some (.int .u32 x2) ∧ w'.cell? ⟨w.heap.size, 2, none⟩ = some (.slice (some ⟨bb, off, none⟩) n3 c3) ∧ w'.cell? ⟨w.heap.size + 1, 2, none⟩ = some (.slice (some ⟨be, off1, none⟩) n3 d3) ∧ Below wr.heap.size wr w') := by
                intro w' hw
                exact ⟨((bcell hw).1 _ _ hbl2).trans q0, ((bcell hw).1 _ _ hbl2).trans q1, ((bcell hw).1 _ _ hbl2).trans q2, ((bcell hw).1 _ _ hbl3).trans p0, ((bcell hw).1 _ _ hbl3).trans p1, ((bcell hw).1 _ _ hbl3).trans p2, ((bcell hw).1 _ _ hw0).trans v0, ((bcell hw).1 _ _ hw1).trans v1, hw⟩
              have hib : (i : Int) < n3 := by omega
              clear hc hc1 hle hbl hbl1 hbl2 hbl3 hw0 hw1 hx0 q0 p0 hx1 q1 p1 hx2 q2 p2
              go_wp2
              go_region_held3 (fun w' => w'.cell? ⟨bb, off + i * 3, none⟩ = some (.int .u32 x0) ∧ w'.cell? ⟨bb, off + i * 3 + 1, none⟩ = some (.int .u32 x1) ∧ w'.cell? ⟨bb, off + i * 3 + 2, none⟩ = some (.int .u32 x2) ∧ w'.cell? ⟨be, off1 + i * 3, none⟩ = some (.int .u32 x0) ∧ w'.cell? ⟨be, off1 + i * 3 + 1, none⟩ = some (.int .u32 x1) ∧ w'.cell? ⟨be, off1 + i * 3 + 2, none⟩ = some (.int .u32 x2) ∧ w'.cell? ⟨w.heap.size, 2, none⟩ = some (.slice (some ⟨bb, off, none⟩) n3 c3) ∧ w'.cell? ⟨w.heap.size + 1, 2, none⟩ = some (.slice (some ⟨be, off1, none⟩) n3 d3) ∧ Below wr.heap.size wr w')
                (first | exact HH.out _ (Below.refl _ _).drew | exact HH.out _ (by assumption))
                (first | (go_at_call 29; refine (samePoint_same _ _ _ _).mono ?_; rintro e w1 ⟨rfl, hb1⟩; have hB1 : Below wr.heap.size wr w1 := Below.trans (lastS3 (by assumption)) (Below.mono hb1 (Below.size (lastS3 (by assumption))))))
              have HBn : Hid (Below W0.heap.size W0 w1) := hb.out.trans (hB1.mono hb.out.size)
              clear hb1 hB1 hb HH
              go_wp2
              go_roundw
              case rel => exact ⟨i + 1, by omega, by go_num, HBn⟩
              case measure => simp [intOf]; omega
            · have hje : n3 = i := by omega
              subst hje
              have HB3 : Hid (Below W0.heap.size W0 wr) := hb
              clear hb
              go_wp2
              go_ret
              exact ⟨rfl, bW0.trans (HB3.out.mono (by omega))⟩

end Go.Proofs.YtiajhekjojeaeaaGreat
