/-
  Drawn scenes, the common way: what is drawn is told by the reader's bytes alone.
-/
import Derived.Test.YtiajhekjojeaeaaGreatIdEIdMIdHBdI
namespace Go.Proofs.YtiajhekjojeaeaaGreat
open Go.RowKit

theorem rowIn_wide {k : IntKind} {w : World} {lo hi hi' : Nat} {a : Option Addr} {zs : List Int} (h : RowIn k w lo hi a zs) (hh : hi ≤ hi') : RowIn k w lo hi' a zs := by
  rcases h with h | ⟨b, off, q1, q0, q00, q2, q3, q4⟩
  · exact .inl h
  · exact .inr ⟨b, off, q1, q0, Nat.lt_of_lt_of_le q00 hh, q2, q3, q4⟩

set_option maxRecDepth 100000 in
set_option maxHeartbeats 8000000 in
theorem sceneM (rs : List Int) (kk : Int) (HK : Hid (rs.headD 0 = kk)) (hk7 : kk ≠ 7) (hk8 : kk ≠ 8) : ∃ n1 n2 n3 z1 z2 z3 rs', SceneD rs n1 n2 n3 z1 z2 z3 rs' := by
  obtain ⟨wild, hwild⟩ : ∃ b, (kk % 6 == 0) = b := ⟨_, rfl⟩
  obtain ⟨n1, z1, rs1, hTD⟩ := trisD wild rs.tail
  have HTD : Hid (TrisD wild rs.tail n1 z1 rs1) := hTD
  have q6 := hTD.n6
  obtain ⟨qa, hqa⟩ : ∃ k, k = rs1.headD 0 := ⟨_, rfl⟩
  have HQA : Hid (rs1.headD 0 = qa) := hqa.symm
  obtain ⟨n2, hn2⟩ : ∃ n : Nat, n = (qa % 4).toNat := ⟨_, rfl⟩
  have hn2a : (qa % 4 : Int) = n2 := by omega
  have hn2b : n2 ≤ 3 := by omega
  have hg2 := raysS_good wild rs1.tail n2
  obtain ⟨rs3, hrs3⟩ : ∃ r, r = (raysS wild rs1.tail n2).2 := ⟨_, rfl⟩
  have HRS3 : Hid ((raysS wild rs1.tail n2).2 = rs3) := hrs3.symm
  obtain ⟨qb, hqb⟩ : ∃ k, k = rs3.headD 0 := ⟨_, rfl⟩
  have HQB : Hid (rs3.headD 0 = qb) := hqb.symm
  obtain ⟨n3, hn3⟩ : ∃ n : Nat, n = if kk = 9 then 5 else (qb % 5).toNat := ⟨_, rfl⟩
  have hn3b : n3 ≤ 5 := by rw [hn3]; split <;> omega
  have HN3a : Hid (kk = 9 → n3 = 5) := fun h => by rw [hn3, if_pos h]
  have HN3b : Hid (kk ≠ 9 → (qb % 5 : Int) = n3) := fun h => by rw [hn3, if_neg h]; omega
  obtain ⟨m, hm1, hm2, hm3⟩ := first_stop_le (condL wild n3 rs3.tail) n3 n3 (Nat.le_refl _) (fun h => Nat.lt_irrefl _ h.1)
  have hg3 := litsS_good wild rs3.tail m
  refine ⟨n1, n2, m, z1, (raysS wild rs1.tail n2).1, (litsS wild rs3.tail m).1, (litsS wild rs3.tail m).2, by omega, by omega, by omega, hTD.len, hg2.1, hg3.1, hTD.r, hg2.2, hg3.2, ?_⟩
  have HL1 : Hid (z1.length = n1 * 9) := hTD.len
  have HM2 : Hid (∀ j, j < m → condL wild n3 rs3.tail j) := hm2
  have HM3 : Hid (¬ condL wild n3 rs3.tail m) := hm3
  clear hTD hqa hn2 hg2 hrs3 hqb hn3 hg3 hm2 hm3
  intro P w h
  have hP := h.lt
  have HS : Hid (Rs P rs w) := h
  clear h
  have k7 : (kk == 7) = false := by rw [beq_eq_false_iff_ne]; exact hk7
  have k8 : (kk == 8) = false := by rw [beq_eq_false_iff_ne]; exact hk8
  obtain ⟨W0, hW0⟩ : ∃ W0, W0 = w.alloc (.cells #[.slice none 0 0, .slice none 0 0, .slice none 0 0] 27) := ⟨_, rfl⟩
  have X0 : Hid (BxF W0 w.heap.size (.slice none 0 0) (.slice none 0 0) (.slice none 0 0)) := by unfold Hid; rw [hW0]; exact BxF.new _ _ _ _ _
  have H0 : Hid (Rs P rs W0 ∧ Aside P w W0) := by unfold Hid; rw [hW0]; exact ⟨HS.out.later (bel0 _ _), Aside.of (bel0 _ _)⟩
  clear hk7 hk8
  go_enter Tryz.func20, Tryz.ntmps20
  go_wp2_with fail
  rw [← hW0]
  clear hW0
  refine (nextF_any P rs _ H0.out.1).mono ?_
  rintro e w1 ⟨rfl, c0, c1, hr, ha⟩
  rw [HK.out] at c0 c1 ⊢
  have hm6 : kk.tmod 6 = kk % 6 := Int.tmod_eq_emod_of_nonneg c0
  have X1 := X0.out.aside ha (show w.heap.size ≠ P by omega)
  obtain ⟨W1, hW1⟩ : ∃ W, W = w1.alloc (.cells #[.slice none 0 0, .slice none 0 0, .slice none 0 0] 27) := ⟨_, rfl⟩
  have hwl : w.heap.size < w1.heap.size := X1.lt
  have S1 : Hid (SnS w P w.heap.size w1.heap.size (.slice none 0 0) (.slice none 0 0) (.slice none 0 0) rs.tail W1) := by
    unfold Hid
    rw [hW1]
    exact ⟨hr.later (bel0 _ _), X1.aside (Aside.of (P := P) (bel0 _ _)) (by omega), BxF.new _ _ _ _ _, (H0.out.2.trans ha).trans (Aside.of (bel0 _ _)), rfl, hwl, hP⟩
  clear hr ha X0 H0 X1
  go_wp2_with fail
  rw [← hW1]
  clear hW1
  refine (HTD.out.tells P W1 S1.out.rs).mono ?_
  rintro e w2 ⟨v1, rfl, hT⟩
  obtain ⟨a1, k1, rfl, hr1⟩ := own_flat hT.own HL1.out
  have G2 := S1.out.call hT.rs hT.asd
  have y1 : w1.heap.size < W1.heap.size := S1.out.by_.lt
  have y2 : W1.heap.size ≤ w2.heap.size := hT.asd.size
  have S2 : Hid (SnS w P w.heap.size w1.heap.size (.slice a1 n1 k1) (.slice none 0 0) (.slice none 0 0) rs1 (w2.setCell ⟨w1.heap.size, 0, none⟩ (.slice a1 n1 k1))) := G2.put 0 _ (G2.by_.set0 _)
  have R2 : Hid (RowIn .u32 (w2.setCell ⟨w1.heap.size, 0, none⟩ (.slice a1 n1 k1)) W1.heap.size w2.heap.size a1 z1) := rowIn_aside hr1 ((Aside.refl w1.heap.size _).set _ _) y1
  have g0 := G2.by_.q0
  have g1 := G2.by_.fr 0
  obtain ⟨W2, hW⟩ : ∃ W, W = w2.setCell ⟨w1.heap.size, 0, none⟩ (.slice a1 n1 k1) := ⟨_, rfl⟩
  have t2 : W2.heap.size = w2.heap.size := by rw [hW]; simp
  rw [← hW] at S2 R2
  clear hT hr1 G2 S1 HTD
  go_wp2_with fail
  rw [← hW]
  clear hW g0 g1
  refine (nextF_any P rs1 _ S2.out.rs).mono ?_
  rintro e w3 ⟨rfl, d0, d1, hr, ha⟩
  rw [HQA.out] at d0 d1 ⊢
  have S3 : Hid (SnS w P w.heap.size w1.heap.size (.slice a1 n1 k1) (.slice none 0 0) (.slice none 0 0) rs1.tail w3) := S2.out.call hr ha
  have R3 : Hid (RowIn .u32 w3 W1.heap.size w2.heap.size a1 z1) := rowIn_aside R2.out ha (by omega)
  have y3 : w2.heap.size ≤ w3.heap.size := by have := ha.size; omega
  have hm4 : qa.tmod 4 = n2 := by rw [Int.tmod_eq_emod_of_nonneg d0]; exact hn2a
  clear hr ha S2 R2 hn2a
  go_wp2
  clear hm4
  go_loopw [11, 12, 13] (fun si _ _ wr => ∃ (j : Nat) (v : Value), j ≤ n2 ∧ si = .int .i64 j ∧ Hid (SnS w P w.heap.size w1.heap.size (.slice a1 n1 k1) v (.slice none 0 0) (raysS wild rs1.tail j).2 wr) ∧ Hid (wr.ownsRow w3.heap.size 55 6 v j (vals .u32 (raysS wild rs1.tail j).1)) ∧ Hid (RowIn .u32 wr W1.heap.size w2.heap.size a1 z1) ∧ w3.heap.size ≤ wr.heap.size) (fun si _ _ _ => n2 - (intOf si).toNat)
  case atStart => exact ⟨0, _, Nat.zero_le _, rfl, S3, ⟨by simp [vals, raysS], .inl ⟨rfl, rfl⟩⟩, R3, Nat.le_refl _⟩
  case round =>
    obtain ⟨j, v, hj, rfl, hS, hO, hR, hz⟩ := hrel
    by_cases hc : j < n2
    · have hin : (j : Int) < n2 := by omega
      obtain ⟨x0, x1, x2, x3, x4, x5, x6, x7, x8, y0, y1', y2', y3', y4, y5, he, hp⟩ := pair_spec wild (raysS wild rs1.tail j).2
      have HE : Hid ((raysS wild rs1.tail (j + 1)).1 = (raysS wild rs1.tail j).1 ++ [y0, y1', y2', y3', y4, y5] ∧ (raysS wild rs1.tail (j + 1)).2 = pairR wild (raysS wild rs1.tail j).2) := ⟨by rw [raysS, he], rfl⟩
      have HC := hp.tells P wr hS.out.rs
      clear he hp
      have z0 := hS.out.by_.q1
      go_wp2_with fail
      refine HC.mono ?_
      rintro e V ⟨rfl, hr, ha⟩
      have hVz : w3.heap.size ≤ V.heap.size := Nat.le_trans hz ha.size
      have SV : Hid (∀ o1 o2, SnS w P w.heap.size w1.heap.size (.slice a1 n1 k1) v (.slice none 0 0) (pairR wild (raysS wild rs1.tail j).2) ((V.alloc o1).alloc o2)) := fun o1 o2 => (hS.out.call hr ha).later (bel2 _ _ _)
      have OV : Hid (∀ o1 o2, ((V.alloc o1).alloc o2).ownsRow w3.heap.size 55 6 v j (vals .u32 (raysS wild rs1.tail j).1)) := fun o1 o2 => ownk_later (aside_ownk ha hO.out (by omega)) (bel2 _ _ _)
      have RV : Hid (∀ o1 o2, RowIn .u32 ((V.alloc o1).alloc o2) W1.heap.size w2.heap.size a1 z1) := fun o1 o2 => (rowIn_aside hR.out ha (by omega)).later (bel2 _ _ _)
      have c5 : ∀ o1 o2, ((V.alloc o1).alloc o2).cell? ⟨w1.heap.size, 1, none⟩ = some v := fun o1 o2 => (SV.out o1 o2).by_.q1
      clear hr ha hS hO hR HC z0
      go_wp2_with (at_builtin; refine app6w rfl (.tmp 74) (.tmp 76) rfl w3.heap.size _ j _ _ _ _ _ _ _ _ rfl (by simp; rfl) (OV.out _ _) (by omega) (by simp; omega) ?_; intro g1 k2 w4 ho1 hb1; have S4 := (SV.out _ _).above hb1 (by omega); have u0 := S4.by_.q1; have u1 := S4.by_.fr 1; have R4 := rowIn_below (RV.out _ _) hb1 y3; have z4 := hb1.size)
      have HS4 : Hid (SnS w P w.heap.size w1.heap.size (.slice a1 n1 k1) (.slice (some ⟨g1, 0, none⟩) (j + 1) k2) (.slice none 0 0) (raysS wild rs1.tail (j + 1)).2 (w4.setCell ⟨w1.heap.size, 1, none⟩ (.slice (some ⟨g1, 0, none⟩) (j + 1) k2))) := by unfold Hid; rw [HE.out.2]; exact S4.put 1 _ (S4.by_.set1 _)
      have HO4 : Hid ((w4.setCell ⟨w1.heap.size, 1, none⟩ (.slice (some ⟨g1, 0, none⟩) (j + 1) k2)).ownsRow w3.heap.size 55 6 (.slice (some ⟨g1, 0, none⟩) (j + 1) k2) (j + 1) (vals .u32 (raysS wild rs1.tail (j + 1)).1)) := by unfold Hid; rw [HE.out.1]; exact own_low ho1 (by simp; omega) _
      have HR4 : Hid (RowIn .u32 (w4.setCell ⟨w1.heap.size, 1, none⟩ (.slice (some ⟨g1, 0, none⟩) (j + 1) k2)) W1.heap.size w2.heap.size a1 z1) := rowIn_aside R4 ((Aside.refl w1.heap.size _).set _ _) y1
      have HZ4 : w3.heap.size ≤ (w4.setCell ⟨w1.heap.size, 1, none⟩ (.slice (some ⟨g1, 0, none⟩) (j + 1) k2)).heap.size := by simp at z4 ⊢; omega
      clear ho1 hb1 S4 u0 u1 R4 z4 SV OV RV c5 HE
      go_roundw
      case rel => exact ⟨j + 1, _, by omega, by go_num, HS4, HO4, HR4, HZ4⟩
      case measure => simp [intOf]; omega
    · have hje : n2 = j := by omega
      subst hje
      obtain ⟨a2, k2, rfl, hr2⟩ := own_flat hO.out (raysS_good wild rs1.tail n2).1
      have S5 : Hid (SnS w P w.heap.size w1.heap.size (.slice a1 n1 k1) (.slice a2 n2 k2) (.slice none 0 0) rs3 wr) := by unfold Hid; rw [← HRS3.out]; exact hS.out
      have Q5 : Hid (RowIn .u32 wr w3.heap.size wr.heap.size a2 (raysS wild rs1.tail n2).1) := hr2
      clear hr2 hS hO
      obtain ⟨w5, hw5⟩ : ∃ w5, w5 = wr := ⟨_, rfl⟩
      rw [← hw5] at S5 Q5 hR hz
      go_wp2_with fail
      rw [← hw5]
      clear hw5
      refine (nextF_any P rs3 _ S5.out.rs).mono ?_
      rintro e w6 ⟨rfl, e0, e1, hr, ha⟩
      rw [HQB.out] at e0 e1 ⊢
      have S6 : Hid (SnS w P w.heap.size w1.heap.size (.slice a1 n1 k1) (.slice a2 n2 k2) (.slice none 0 0) rs3.tail w6) := S5.out.call hr ha
      have Q6 : Hid (RowIn .u32 w6 w3.heap.size w5.heap.size a2 (raysS wild rs1.tail n2).1) := rowIn_aside Q5.out ha (by omega)
      have R6 : Hid (RowIn .u32 w6 W1.heap.size w2.heap.size a1 z1) := rowIn_aside hR.out ha (by omega)
      have y6 : w5.heap.size ≤ w6.heap.size := ha.size
      have hm5 : qb.tmod 5 = qb % 5 := Int.tmod_eq_emod_of_nonneg e0
      clear hr ha S5 Q5 hR
      by_cases hk9 : kk = 9
      · have k9 : (kk == 9) = true := by rw [beq_iff_eq]; exact hk9
        have h53 : n3 = 5 := HN3a.out hk9
        clear hk9 hm5 HN3a HN3b
        go_wp2
        go_loopw [14] (fun si wr => ∃ (j : Nat) (v : Value), j ≤ m ∧ si = .int .i64 j ∧ Hid (SnS w P w.heap.size w1.heap.size (.slice a1 n1 k1) (.slice a2 n2 k2) v (litsS wild rs3.tail j).2 wr) ∧ Hid (wr.ownsRow w6.heap.size 53 3 v j (vals .u32 (litsS wild rs3.tail j).1)) ∧ Hid (RowIn .u32 wr W1.heap.size w2.heap.size a1 z1) ∧ Hid (RowIn .u32 wr w3.heap.size w5.heap.size a2 (raysS wild rs1.tail n2).1) ∧ w6.heap.size ≤ wr.heap.size) (fun si _ => m - (intOf si).toNat)
        case atStart => exact ⟨0, _, Nat.zero_le _, rfl, S6, ⟨by simp [vals, litsS], .inl ⟨rfl, rfl⟩⟩, R6, Q6, Nat.le_refl _⟩
        case round =>
          obtain ⟨j, v, hj, rfl, hS, hO, hR, hQ, hz⟩ := hrel
          by_cases hc : j < m
          · obtain ⟨hjn, hj1⟩ := HM2.out j hc
            have hin : (j : Int) < 5 := by omega
            obtain ⟨x, y, z, he, hp⟩ := pt_spec wild (litsS wild rs3.tail j).2
            have HE : Hid ((litsS wild rs3.tail (j + 1)).1 = (litsS wild rs3.tail j).1 ++ [x, y, z] ∧ (litsS wild rs3.tail (j + 1)).2 = ptR wild (litsS wild rs3.tail j).2) := ⟨by rw [litsS, he], rfl⟩
            clear he
            by_cases h1 : j < 1
            · have hi1 : (j : Int) < 1 := by omega
              clear hj1
              go_wp2
              have HC0 : Hid (∀ w', Aside P wr w' → w'.cell? ⟨w1.heap.size, 2, none⟩ = some v) := fun w' hw => (hS.out.by_.aside hw (by omega)).q2
              have HFZ : Hid (∀ w' w'', Aside P wr w' → Below w6.heap.size w' w'' → w''.cell? ⟨w1.heap.size, 2, none⟩ = some v ∧ w''.frozen? ⟨w1.heap.size, 2, none⟩ = false) := fun w' w'' h1 h2 => ⟨(h2.cell (p := ⟨w1.heap.size, 2, none⟩) (by show w1.heap.size < w6.heap.size; omega)).trans (hS.out.by_.aside h1 (by omega)).q2, (h2.frozen (p := ⟨w1.heap.size, 2, none⟩) (by show w1.heap.size < w6.heap.size; omega)).trans ((hS.out.by_.aside h1 (by omega)).fr 2)⟩
              have z0 := hS.out.by_.q2
              have z9 := hS.out.by_.fr 2
              go_region_law
                (first
                  | (have hBB := hA1; clear hBB; refine step3 rfl (.tmp 99) (.tmp 103) rfl w6.heap.size v j (litsS wild rs3.tail j).1 x y z u1 (by simp [Act.eval]) (by simp [Act.eval]) (aside_ownk hA1 hO.out (by omega)) (by omega) (Nat.le_trans hz hA1.size) ?_; intro gg cp uu hown4 hb4; have k4 := (HFZ.out u1 uu hA1 hb4).1; have f4 := (HFZ.out u1 uu hA1 hb4).2)
                  | (go_simp; refine (hp.tells P _ (hS.out.rs.above (B := P + 1) (Below.refl _ _).drew (Nat.lt_succ_self _))).mono ?_; rintro e u1 ⟨rfl, hr1, ha1⟩; have hA1 : Aside P wr u1 := (Aside.of (Below.refl _ _).drew).trans ha1; have c1 := HC0.out u1 hA1; have c1a : ∀ o, (u1.alloc o).cell? ⟨w1.heap.size, 2, none⟩ = some v := fun o => HC0.out _ (hA1.trans (Aside.of (bel0 _ _)))))
              all_goals
                have S8 := (hS.out.call hr1 hA1).above hb4 (show w1.heap.size < w6.heap.size by omega)
                have HS8 : Hid (SnS w P w.heap.size w1.heap.size (.slice a1 n1 k1) (.slice a2 n2 k2) (.slice (some ⟨gg, 0, none⟩) (j + 1) cp) (litsS wild rs3.tail (j + 1)).2 (uu.setCell ⟨w1.heap.size, 2, none⟩ (.slice (some ⟨gg, 0, none⟩) (j + 1) cp))) := by unfold Hid; rw [HE.out.2]; exact S8.put 2 _ (S8.by_.set2 _)
                have HO8 : Hid ((uu.setCell ⟨w1.heap.size, 2, none⟩ (.slice (some ⟨gg, 0, none⟩) (j + 1) cp)).ownsRow w6.heap.size 53 3 (.slice (some ⟨gg, 0, none⟩) (j + 1) cp) (j + 1) (vals .u32 (litsS wild rs3.tail (j + 1)).1)) := by unfold Hid; rw [HE.out.1]; exact own_low hown4 (p := ⟨w1.heap.size, 2, none⟩) (by show w1.heap.size < w6.heap.size; omega) _
                have HR8 : Hid (RowIn .u32 (uu.setCell ⟨w1.heap.size, 2, none⟩ (.slice (some ⟨gg, 0, none⟩) (j + 1) cp)) W1.heap.size w2.heap.size a1 z1) := rowIn_aside (rowIn_below (rowIn_aside hR.out hA1 (by omega)) hb4 (by omega)) ((Aside.refl w1.heap.size _).set _ _) (by omega)
                have HQ8 : Hid (RowIn .u32 (uu.setCell ⟨w1.heap.size, 2, none⟩ (.slice (some ⟨gg, 0, none⟩) (j + 1) cp)) w3.heap.size w5.heap.size a2 (raysS wild rs1.tail n2).1) := rowIn_aside (rowIn_below (rowIn_aside hQ.out hA1 (by omega)) hb4 (by omega)) ((Aside.refl w1.heap.size _).set _ _) (by omega)
                have HZ8 : w6.heap.size ≤ (uu.setCell ⟨w1.heap.size, 2, none⟩ (.slice (some ⟨gg, 0, none⟩) (j + 1) cp)).heap.size := by have := hA1.size; have := hb4.size; simp; omega
                clear hown4 hb4 hA1 ha1 hr1 c1 c1a k4 f4 S8
                go_wp2
                go_roundw
                case rel => exact ⟨j + 1, _, by omega, by go_num, HS8, HO8, HR8, HQ8, HZ8⟩
                case measure => simp [intOf]; omega
            · have hi1 : ¬ (j : Int) < 1 := by omega
              have hl0 : (0 : Int) < (litsS wild rs3.tail j).2.length := by have := hj1.resolve_left h1; omega
              clear hj1
              go_wp2_with fail
              refine (leftF_any P (litsS wild rs3.tail j).2 _ hS.out.rs).mono ?_
              rintro e U1 ⟨rfl, hb⟩
              have hS' : Hid (SnS w P w.heap.size w1.heap.size (.slice a1 n1 k1) (.slice a2 n2 k2) v (litsS wild rs3.tail j).2 U1) := hS.out.later hb
              have hO' : Hid (U1.ownsRow w6.heap.size 53 3 v j (vals .u32 (litsS wild rs3.tail j).1)) := ownk_later hO.out hb
              have hR' : Hid (RowIn .u32 U1 W1.heap.size w2.heap.size a1 z1) := hR.out.later hb
              have hQ' : Hid (RowIn .u32 U1 w3.heap.size w5.heap.size a2 (raysS wild rs1.tail n2).1) := hQ.out.later hb
              have hz' : w6.heap.size ≤ U1.heap.size := Nat.le_trans hz hb.size
              clear hS hO hR hQ hz hb
              obtain ⟨wr, hwr⟩ : ∃ wr, wr = U1 := ⟨_, rfl⟩
              rw [← hwr] at hS' hO' hR' hQ' hz' ⊢
              clear hwr
              have hS := hS'
              have hO := hO'
              have hR := hR'
              have hQ := hQ'
              have hz := hz'
              clear hS' hO' hR' hQ' hz'
              go_wp2
              have HC0 : Hid (∀ w', Aside P wr w' → w'.cell? ⟨w1.heap.size, 2, none⟩ = some v) := fun w' hw => (hS.out.by_.aside hw (by omega)).q2
              have HFZ : Hid (∀ w' w'', Aside P wr w' → Below w6.heap.size w' w'' → w''.cell? ⟨w1.heap.size, 2, none⟩ = some v ∧ w''.frozen? ⟨w1.heap.size, 2, none⟩ = false) := fun w' w'' h1 h2 => ⟨(h2.cell (p := ⟨w1.heap.size, 2, none⟩) (by show w1.heap.size < w6.heap.size; omega)).trans (hS.out.by_.aside h1 (by omega)).q2, (h2.frozen (p := ⟨w1.heap.size, 2, none⟩) (by show w1.heap.size < w6.heap.size; omega)).trans ((hS.out.by_.aside h1 (by omega)).fr 2)⟩
              have z0 := hS.out.by_.q2
              have z9 := hS.out.by_.fr 2
              go_region_law
                (first
                  | (have hBB := hA1; clear hBB; refine step3 rfl (.tmp 99) (.tmp 103) rfl w6.heap.size v j (litsS wild rs3.tail j).1 x y z u1 (by simp [Act.eval]) (by simp [Act.eval]) (aside_ownk hA1 hO.out (by omega)) (by omega) (Nat.le_trans hz hA1.size) ?_; intro gg cp uu hown4 hb4; have k4 := (HFZ.out u1 uu hA1 hb4).1; have f4 := (HFZ.out u1 uu hA1 hb4).2)
                  | (go_simp; refine (hp.tells P _ (hS.out.rs.above (B := P + 1) (Below.refl _ _).drew (Nat.lt_succ_self _))).mono ?_; rintro e u1 ⟨rfl, hr1, ha1⟩; have hA1 : Aside P wr u1 := (Aside.of (Below.refl _ _).drew).trans ha1; have c1 := HC0.out u1 hA1; have c1a : ∀ o, (u1.alloc o).cell? ⟨w1.heap.size, 2, none⟩ = some v := fun o => HC0.out _ (hA1.trans (Aside.of (bel0 _ _)))))
              all_goals
                have S8 := (hS.out.call hr1 hA1).above hb4 (show w1.heap.size < w6.heap.size by omega)
                have HS8 : Hid (SnS w P w.heap.size w1.heap.size (.slice a1 n1 k1) (.slice a2 n2 k2) (.slice (some ⟨gg, 0, none⟩) (j + 1) cp) (litsS wild rs3.tail (j + 1)).2 (uu.setCell ⟨w1.heap.size, 2, none⟩ (.slice (some ⟨gg, 0, none⟩) (j + 1) cp))) := by unfold Hid; rw [HE.out.2]; exact S8.put 2 _ (S8.by_.set2 _)
                have HO8 : Hid ((uu.setCell ⟨w1.heap.size, 2, none⟩ (.slice (some ⟨gg, 0, none⟩) (j + 1) cp)).ownsRow w6.heap.size 53 3 (.slice (some ⟨gg, 0, none⟩) (j + 1) cp) (j + 1) (vals .u32 (litsS wild rs3.tail (j + 1)).1)) := by unfold Hid; rw [HE.out.1]; exact own_low hown4 (p := ⟨w1.heap.size, 2, none⟩) (by show w1.heap.size < w6.heap.size; omega) _
                have HR8 : Hid (RowIn .u32 (uu.setCell ⟨w1.heap.size, 2, none⟩ (.slice (some ⟨gg, 0, none⟩) (j + 1) cp)) W1.heap.size w2.heap.size a1 z1) := rowIn_aside (rowIn_below (rowIn_aside hR.out hA1 (by omega)) hb4 (by omega)) ((Aside.refl w1.heap.size _).set _ _) (by omega)
                have HQ8 : Hid (RowIn .u32 (uu.setCell ⟨w1.heap.size, 2, none⟩ (.slice (some ⟨gg, 0, none⟩) (j + 1) cp)) w3.heap.size w5.heap.size a2 (raysS wild rs1.tail n2).1) := rowIn_aside (rowIn_below (rowIn_aside hQ.out hA1 (by omega)) hb4 (by omega)) ((Aside.refl w1.heap.size _).set _ _) (by omega)
                have HZ8 : w6.heap.size ≤ (uu.setCell ⟨w1.heap.size, 2, none⟩ (.slice (some ⟨gg, 0, none⟩) (j + 1) cp)).heap.size := by have := hA1.size; have := hb4.size; simp; omega
                clear hown4 hb4 hA1 ha1 hr1 c1 c1a k4 f4 S8
                go_wp2
                go_roundw
                case rel => exact ⟨j + 1, _, by omega, by go_num, HS8, HO8, HR8, HQ8, HZ8⟩
                case measure => simp [intOf]; omega
          · have hje : m = j := by omega
            subst hje
            have HN := HM3.out
            obtain ⟨a3, k3, rfl, hr3⟩ := own_flat hO.out (litsS_good wild rs3.tail m).1
            have hL : Hid (RowIn .u32 wr w6.heap.size wr.heap.size a3 (litsS wild rs3.tail m).1) := hr3
            clear hr3 hO
            by_cases hin : m < n3
            · have hin' : (m : Int) < 5 := by omega
              have h1 : ¬ m < 1 := fun h => HN ⟨hin, .inl h⟩
              have hi1 : ¬ (m : Int) < 1 := by omega
              have hl0 : (litsS wild rs3.tail m).2.length = 0 := by
                by_cases h0 : 0 < (litsS wild rs3.tail m).2.length
                · exact absurd ⟨hin, .inr h0⟩ HN
                · omega
              have hl1 : (((litsS wild rs3.tail m).2.length : Nat) : Int) = 0 := by omega
              clear HN hl0
              go_wp2_with fail
              refine (leftF_any P (litsS wild rs3.tail m).2 _ hS.out.rs).mono ?_
              rintro e U1 ⟨rfl, hb⟩
              rw [hl1]
              clear hl1
              have hS' : Hid (SnS w P w.heap.size w1.heap.size (.slice a1 n1 k1) (.slice a2 n2 k2) (.slice a3 m k3) (litsS wild rs3.tail m).2 U1) := hS.out.later hb
              have hR' : Hid (RowIn .u32 U1 W1.heap.size w2.heap.size a1 z1) := hR.out.later hb
              have hQ' : Hid (RowIn .u32 U1 w3.heap.size w5.heap.size a2 (raysS wild rs1.tail n2).1) := hQ.out.later hb
              have hL' : Hid (RowIn .u32 U1 w6.heap.size U1.heap.size a3 (litsS wild rs3.tail m).1) := rowIn_wide (hL.out.later hb) hb.size
              have hz' : w6.heap.size ≤ U1.heap.size := Nat.le_trans hz hb.size
              clear hS hR hQ hL hz hb
              have hS := hS'
              have hR := hR'
              have hQ := hQ'
              have hL := hL'
              have hz := hz'
              clear hS' hR' hQ' hL' hz'
              have SF : Hid (SnS w P w.heap.size w1.heap.size (.slice a1 n1 k1) (.slice a2 n2 k2) (.slice a3 m k3) (litsS wild rs3.tail m).2 U1) := hS
              have RF : Hid (RowIn .u32 U1 W1.heap.size w2.heap.size a1 z1) := hR
              have QF : Hid (RowIn .u32 U1 w3.heap.size w5.heap.size a2 (raysS wild rs1.tail n2).1) := hQ
              have LF : Hid (RowIn .u32 U1 w6.heap.size U1.heap.size a3 (litsS wild rs3.tail m).1) := hL
              clear hS hR hQ hL
              obtain ⟨WF, hWF⟩ : ∃ W, W = U1 := ⟨_, rfl⟩
              rw [← hWF] at SF RF QF LF hz ⊢
              clear hWF
              have x0 := SF.out.bx.q0
              have x1 := SF.out.bx.q1
              have x2 := SF.out.bx.q2
              have f0 := SF.out.bx.fr 0
              have f1 := SF.out.bx.fr 1
              have f2 := SF.out.bx.fr 2
              have v0 := SF.out.by_.q0
              have v1 := SF.out.by_.q1
              have v2 := SF.out.by_.q2
              go_wp2
              refine bodyPost_ret (v := .agg #[.slice a1 n1 k1, .slice a2 n2 k2, .slice a3 m k3]) (by simp [results, Tryz.results20, go_sem, x0, x1, x2]) rfl ?_
              have key : ∀ {lo hi : Nat} {a : Option Addr} {zs : List Int}, RowIn .u32 WF lo hi a zs → w.heap.size < lo → RowIn .u32 (((WF.setCell ⟨w.heap.size, 0, none⟩ (.slice a1 n1 k1)).setCell ⟨w.heap.size, 1, none⟩ (.slice a2 n2 k2)).setCell ⟨w.heap.size, 2, none⟩ (.slice a3 m k3)) lo hi a zs := by
                intro lo hi a zs hr hl
                exact rowIn_aside (rowIn_aside (rowIn_aside hr ((Aside.refl w.heap.size _).set 0 _) hl) ((Aside.refl w.heap.size _).set 1 _) hl) ((Aside.refl w.heap.size _).set 2 _) hl
              have hzz : (((WF.setCell ⟨w.heap.size, 0, none⟩ (.slice a1 n1 k1)).setCell ⟨w.heap.size, 1, none⟩ (.slice a2 n2 k2)).setCell ⟨w.heap.size, 2, none⟩ (.slice a3 m k3)).heap.size = WF.heap.size := by simp
              refine ⟨a1, a2, a3, k1, k2, k3, W1.heap.size, w2.heap.size, w3.heap.size, w5.heap.size, w6.heap.size, WF.heap.size, rfl, ?_, ?_, ?_⟩
              · exact ⟨HL1.out, (raysS_good wild rs1.tail n2).1, (litsS_good wild rs3.tail m).1, ⟨by omega, by rw [hzz]; omega⟩, ⟨by omega, by rw [hzz]; omega⟩, ⟨by omega, by rw [hzz]; omega⟩, .inl (by omega), .inl (by omega), .inl (by omega), Nat.le_refl _, key RF.out (by omega), key QF.out (by omega), key LF.out (by omega)⟩
              · exact ((SF.out.rs.set hP 0 _).set hP 1 _).set hP 2 _
              · exact ((SF.out.asd.setHigh (p := ⟨w.heap.size, 0, none⟩) (Nat.le_refl _) _).setHigh (p := ⟨w.heap.size, 1, none⟩) (Nat.le_refl _) _).setHigh (p := ⟨w.heap.size, 2, none⟩) (Nat.le_refl _) _
            · have hin' : ¬ (m : Int) < 5 := by omega
              clear HN
              have SF : Hid (SnS w P w.heap.size w1.heap.size (.slice a1 n1 k1) (.slice a2 n2 k2) (.slice a3 m k3) (litsS wild rs3.tail m).2 wr) := hS
              have RF : Hid (RowIn .u32 wr W1.heap.size w2.heap.size a1 z1) := hR
              have QF : Hid (RowIn .u32 wr w3.heap.size w5.heap.size a2 (raysS wild rs1.tail n2).1) := hQ
              have LF : Hid (RowIn .u32 wr w6.heap.size wr.heap.size a3 (litsS wild rs3.tail m).1) := hL
              clear hS hR hQ hL
              obtain ⟨WF, hWF⟩ : ∃ W, W = wr := ⟨_, rfl⟩
              rw [← hWF] at SF RF QF LF hz ⊢
              clear hWF
              have x0 := SF.out.bx.q0
              have x1 := SF.out.bx.q1
              have x2 := SF.out.bx.q2
              have f0 := SF.out.bx.fr 0
              have f1 := SF.out.bx.fr 1
              have f2 := SF.out.bx.fr 2
              have v0 := SF.out.by_.q0
              have v1 := SF.out.by_.q1
              have v2 := SF.out.by_.q2
              go_wp2
              refine bodyPost_ret (v := .agg #[.slice a1 n1 k1, .slice a2 n2 k2, .slice a3 m k3]) (by simp [results, Tryz.results20, go_sem, x0, x1, x2]) rfl ?_
              have key : ∀ {lo hi : Nat} {a : Option Addr} {zs : List Int}, RowIn .u32 WF lo hi a zs → w.heap.size < lo → RowIn .u32 (((WF.setCell ⟨w.heap.size, 0, none⟩ (.slice a1 n1 k1)).setCell ⟨w.heap.size, 1, none⟩ (.slice a2 n2 k2)).setCell ⟨w.heap.size, 2, none⟩ (.slice a3 m k3)) lo hi a zs := by
                intro lo hi a zs hr hl
                exact rowIn_aside (rowIn_aside (rowIn_aside hr ((Aside.refl w.heap.size _).set 0 _) hl) ((Aside.refl w.heap.size _).set 1 _) hl) ((Aside.refl w.heap.size _).set 2 _) hl
              have hzz : (((WF.setCell ⟨w.heap.size, 0, none⟩ (.slice a1 n1 k1)).setCell ⟨w.heap.size, 1, none⟩ (.slice a2 n2 k2)).setCell ⟨w.heap.size, 2, none⟩ (.slice a3 m k3)).heap.size = WF.heap.size := by simp
              refine ⟨a1, a2, a3, k1, k2, k3, W1.heap.size, w2.heap.size, w3.heap.size, w5.heap.size, w6.heap.size, WF.heap.size, rfl, ?_, ?_, ?_⟩
              · exact ⟨HL1.out, (raysS_good wild rs1.tail n2).1, (litsS_good wild rs3.tail m).1, ⟨by omega, by rw [hzz]; omega⟩, ⟨by omega, by rw [hzz]; omega⟩, ⟨by omega, by rw [hzz]; omega⟩, .inl (by omega), .inl (by omega), .inl (by omega), Nat.le_refl _, key RF.out (by omega), key QF.out (by omega), key LF.out (by omega)⟩
              · exact ((SF.out.rs.set hP 0 _).set hP 1 _).set hP 2 _
              · exact ((SF.out.asd.setHigh (p := ⟨w.heap.size, 0, none⟩) (Nat.le_refl _) _).setHigh (p := ⟨w.heap.size, 1, none⟩) (Nat.le_refl _) _).setHigh (p := ⟨w.heap.size, 2, none⟩) (Nat.le_refl _) _
      · have k9 : (kk == 9) = false := by rw [beq_eq_false_iff_ne]; exact hk9
        have hmn : qb.tmod 5 = n3 := by rw [hm5]; exact HN3b.out hk9
        clear hk9 hm5 HN3a HN3b
        go_wp2
        clear hmn
        go_loopw [14] (fun si wr => ∃ (j : Nat) (v : Value), j ≤ m ∧ si = .int .i64 j ∧ Hid (SnS w P w.heap.size w1.heap.size (.slice a1 n1 k1) (.slice a2 n2 k2) v (litsS wild rs3.tail j).2 wr) ∧ Hid (wr.ownsRow w6.heap.size 53 3 v j (vals .u32 (litsS wild rs3.tail j).1)) ∧ Hid (RowIn .u32 wr W1.heap.size w2.heap.size a1 z1) ∧ Hid (RowIn .u32 wr w3.heap.size w5.heap.size a2 (raysS wild rs1.tail n2).1) ∧ w6.heap.size ≤ wr.heap.size) (fun si _ => m - (intOf si).toNat)
        case atStart => exact ⟨0, _, Nat.zero_le _, rfl, S6, ⟨by simp [vals, litsS], .inl ⟨rfl, rfl⟩⟩, R6, Q6, Nat.le_refl _⟩
        case round =>
          obtain ⟨j, v, hj, rfl, hS, hO, hR, hQ, hz⟩ := hrel
          by_cases hc : j < m
          · obtain ⟨hjn, hj1⟩ := HM2.out j hc
            have hin : (j : Int) < n3 := by omega
            obtain ⟨x, y, z, he, hp⟩ := pt_spec wild (litsS wild rs3.tail j).2
            have HE : Hid ((litsS wild rs3.tail (j + 1)).1 = (litsS wild rs3.tail j).1 ++ [x, y, z] ∧ (litsS wild rs3.tail (j + 1)).2 = ptR wild (litsS wild rs3.tail j).2) := ⟨by rw [litsS, he], rfl⟩
            clear he
            by_cases h1 : j < 1
            · have hi1 : (j : Int) < 1 := by omega
              clear hj1
              go_wp2
              have HC0 : Hid (∀ w', Aside P wr w' → w'.cell? ⟨w1.heap.size, 2, none⟩ = some v) := fun w' hw => (hS.out.by_.aside hw (by omega)).q2
              have HFZ : Hid (∀ w' w'', Aside P wr w' → Below w6.heap.size w' w'' → w''.cell? ⟨w1.heap.size, 2, none⟩ = some v ∧ w''.frozen? ⟨w1.heap.size, 2, none⟩ = false) := fun w' w'' h1 h2 => ⟨(h2.cell (p := ⟨w1.heap.size, 2, none⟩) (by show w1.heap.size < w6.heap.size; omega)).trans (hS.out.by_.aside h1 (by omega)).q2, (h2.frozen (p := ⟨w1.heap.size, 2, none⟩) (by show w1.heap.size < w6.heap.size; omega)).trans ((hS.out.by_.aside h1 (by omega)).fr 2)⟩
              have z0 := hS.out.by_.q2
              have z9 := hS.out.by_.fr 2
              go_region_law
                (first
                  | (have hBB := hA1; clear hBB; refine step3 rfl (.tmp 99) (.tmp 103) rfl w6.heap.size v j (litsS wild rs3.tail j).1 x y z u1 (by simp [Act.eval]) (by simp [Act.eval]) (aside_ownk hA1 hO.out (by omega)) (by omega) (Nat.le_trans hz hA1.size) ?_; intro gg cp uu hown4 hb4; have k4 := (HFZ.out u1 uu hA1 hb4).1; have f4 := (HFZ.out u1 uu hA1 hb4).2)
                  | (go_simp; refine (hp.tells P _ (hS.out.rs.above (B := P + 1) (Below.refl _ _).drew (Nat.lt_succ_self _))).mono ?_; rintro e u1 ⟨rfl, hr1, ha1⟩; have hA1 : Aside P wr u1 := (Aside.of (Below.refl _ _).drew).trans ha1; have c1 := HC0.out u1 hA1; have c1a : ∀ o, (u1.alloc o).cell? ⟨w1.heap.size, 2, none⟩ = some v := fun o => HC0.out _ (hA1.trans (Aside.of (bel0 _ _)))))
              all_goals
                have S8 := (hS.out.call hr1 hA1).above hb4 (show w1.heap.size < w6.heap.size by omega)
                have HS8 : Hid (SnS w P w.heap.size w1.heap.size (.slice a1 n1 k1) (.slice a2 n2 k2) (.slice (some ⟨gg, 0, none⟩) (j + 1) cp) (litsS wild rs3.tail (j + 1)).2 (uu.setCell ⟨w1.heap.size, 2, none⟩ (.slice (some ⟨gg, 0, none⟩) (j + 1) cp))) := by unfold Hid; rw [HE.out.2]; exact S8.put 2 _ (S8.by_.set2 _)
                have HO8 : Hid ((uu.setCell ⟨w1.heap.size, 2, none⟩ (.slice (some ⟨gg, 0, none⟩) (j + 1) cp)).ownsRow w6.heap.size 53 3 (.slice (some ⟨gg, 0, none⟩) (j + 1) cp) (j + 1) (vals .u32 (litsS wild rs3.tail (j + 1)).1)) := by unfold Hid; rw [HE.out.1]; exact own_low hown4 (p := ⟨w1.heap.size, 2, none⟩) (by show w1.heap.size < w6.heap.size; omega) _
                have HR8 : Hid (RowIn .u32 (uu.setCell ⟨w1.heap.size, 2, none⟩ (.slice (some ⟨gg, 0, none⟩) (j + 1) cp)) W1.heap.size w2.heap.size a1 z1) := rowIn_aside (rowIn_below (rowIn_aside hR.out hA1 (by omega)) hb4 (by omega)) ((Aside.refl w1.heap.size _).set _ _) (by omega)
                have HQ8 : Hid (RowIn .u32 (uu.setCell ⟨w1.heap.size, 2, none⟩ (.slice (some ⟨gg, 0, none⟩) (j + 1) cp)) w3.heap.size w5.heap.size a2 (raysS wild rs1.tail n2).1) := rowIn_aside (rowIn_below (rowIn_aside hQ.out hA1 (by omega)) hb4 (by omega)) ((Aside.refl w1.heap.size _).set _ _) (by omega)
                have HZ8 : w6.heap.size ≤ (uu.setCell ⟨w1.heap.size, 2, none⟩ (.slice (some ⟨gg, 0, none⟩) (j + 1) cp)).heap.size := by have := hA1.size; have := hb4.size; simp; omega
                clear hown4 hb4 hA1 ha1 hr1 c1 c1a k4 f4 S8
                go_wp2
                go_roundw
                case rel => exact ⟨j + 1, _, by omega, by go_num, HS8, HO8, HR8, HQ8, HZ8⟩
                case measure => simp [intOf]; omega
            · have hi1 : ¬ (j : Int) < 1 := by omega
              have hl0 : (0 : Int) < (litsS wild rs3.tail j).2.length := by have := hj1.resolve_left h1; omega
              clear hj1
              go_wp2_with fail
              refine (leftF_any P (litsS wild rs3.tail j).2 _ hS.out.rs).mono ?_
              rintro e U1 ⟨rfl, hb⟩
              have hS' : Hid (SnS w P w.heap.size w1.heap.size (.slice a1 n1 k1) (.slice a2 n2 k2) v (litsS wild rs3.tail j).2 U1) := hS.out.later hb
              have hO' : Hid (U1.ownsRow w6.heap.size 53 3 v j (vals .u32 (litsS wild rs3.tail j).1)) := ownk_later hO.out hb
              have hR' : Hid (RowIn .u32 U1 W1.heap.size w2.heap.size a1 z1) := hR.out.later hb
              have hQ' : Hid (RowIn .u32 U1 w3.heap.size w5.heap.size a2 (raysS wild rs1.tail n2).1) := hQ.out.later hb
              have hz' : w6.heap.size ≤ U1.heap.size := Nat.le_trans hz hb.size
              clear hS hO hR hQ hz hb
              obtain ⟨wr, hwr⟩ : ∃ wr, wr = U1 := ⟨_, rfl⟩
              rw [← hwr] at hS' hO' hR' hQ' hz' ⊢
              clear hwr
              have hS := hS'
              have hO := hO'
              have hR := hR'
              have hQ := hQ'
              have hz := hz'
              clear hS' hO' hR' hQ' hz'
              go_wp2
              have HC0 : Hid (∀ w', Aside P wr w' → w'.cell? ⟨w1.heap.size, 2, none⟩ = some v) := fun w' hw => (hS.out.by_.aside hw (by omega)).q2
              have HFZ : Hid (∀ w' w'', Aside P wr w' → Below w6.heap.size w' w'' → w''.cell? ⟨w1.heap.size, 2, none⟩ = some v ∧ w''.frozen? ⟨w1.heap.size, 2, none⟩ = false) := fun w' w'' h1 h2 => ⟨(h2.cell (p := ⟨w1.heap.size, 2, none⟩) (by show w1.heap.size < w6.heap.size; omega)).trans (hS.out.by_.aside h1 (by omega)).q2, (h2.frozen (p := ⟨w1.heap.size, 2, none⟩) (by show w1.heap.size < w6.heap.size; omega)).trans ((hS.out.by_.aside h1 (by omega)).fr 2)⟩
              have z0 := hS.out.by_.q2
              have z9 := hS.out.by_.fr 2
              go_region_law
                (first
                  | (have hBB := hA1; clear hBB; refine step3 rfl (.tmp 99) (.tmp 103) rfl w6.heap.size v j (litsS wild rs3.tail j).1 x y z u1 (by simp [Act.eval]) (by simp [Act.eval]) (aside_ownk hA1 hO.out (by omega)) (by omega) (Nat.le_trans hz hA1.size) ?_; intro gg cp uu hown4 hb4; have k4 := (HFZ.out u1 uu hA1 hb4).1; have f4 := (HFZ.out u1 uu hA1 hb4).2)
                  | (go_simp; refine (hp.tells P _ (hS.out.rs.above (B := P + 1) (Below.refl _ _).drew (Nat.lt_succ_self _))).mono ?_; rintro e u1 ⟨rfl, hr1, ha1⟩; have hA1 : Aside P wr u1 := (Aside.of (Below.refl _ _).drew).trans ha1; have c1 := HC0.out u1 hA1; have c1a : ∀ o, (u1.alloc o).cell? ⟨w1.heap.size, 2, none⟩ = some v := fun o => HC0.out _ (hA1.trans (Aside.of (bel0 _ _)))))
              all_goals
                have S8 := (hS.out.call hr1 hA1).above hb4 (show w1.heap.size < w6.heap.size by omega)
                have HS8 : Hid (SnS w P w.heap.size w1.heap.size (.slice a1 n1 k1) (.slice a2 n2 k2) (.slice (some ⟨gg, 0, none⟩) (j + 1) cp) (litsS wild rs3.tail (j + 1)).2 (uu.setCell ⟨w1.heap.size, 2, none⟩ (.slice (some ⟨gg, 0, none⟩) (j + 1) cp))) := by unfold Hid; rw [HE.out.2]; exact S8.put 2 _ (S8.by_.set2 _)
                have HO8 : Hid ((uu.setCell ⟨w1.heap.size, 2, none⟩ (.slice (some ⟨gg, 0, none⟩) (j + 1) cp)).ownsRow w6.heap.size 53 3 (.slice (some ⟨gg, 0, none⟩) (j + 1) cp) (j + 1) (vals .u32 (litsS wild rs3.tail (j + 1)).1)) := by unfold Hid; rw [HE.out.1]; exact own_low hown4 (p := ⟨w1.heap.size, 2, none⟩) (by show w1.heap.size < w6.heap.size; omega) _
                have HR8 : Hid (RowIn .u32 (uu.setCell ⟨w1.heap.size, 2, none⟩ (.slice (some ⟨gg, 0, none⟩) (j + 1) cp)) W1.heap.size w2.heap.size a1 z1) := rowIn_aside (rowIn_below (rowIn_aside hR.out hA1 (by omega)) hb4 (by omega)) ((Aside.refl w1.heap.size _).set _ _) (by omega)
                have HQ8 : Hid (RowIn .u32 (uu.setCell ⟨w1.heap.size, 2, none⟩ (.slice (some ⟨gg, 0, none⟩) (j + 1) cp)) w3.heap.size w5.heap.size a2 (raysS wild rs1.tail n2).1) := rowIn_aside (rowIn_below (rowIn_aside hQ.out hA1 (by omega)) hb4 (by omega)) ((Aside.refl w1.heap.size _).set _ _) (by omega)
                have HZ8 : w6.heap.size ≤ (uu.setCell ⟨w1.heap.size, 2, none⟩ (.slice (some ⟨gg, 0, none⟩) (j + 1) cp)).heap.size := by have := hA1.size; have := hb4.size; simp; omega
                clear hown4 hb4 hA1 ha1 hr1 c1 c1a k4 f4 S8
                go_wp2
                go_roundw
                case rel => exact ⟨j + 1, _, by omega, by go_num, HS8, HO8, HR8, HQ8, HZ8⟩
                case measure => simp [intOf]; omega
          · have hje : m = j := by omega
            subst hje
            have HN := HM3.out
            obtain ⟨a3, k3, rfl, hr3⟩ := own_flat hO.out (litsS_good wild rs3.tail m).1
            have hL : Hid (RowIn .u32 wr w6.heap.size wr.heap.size a3 (litsS wild rs3.tail m).1) := hr3
            clear hr3 hO
            by_cases hin : m < n3
            · have hin' : (m : Int) < n3 := by omega
              have h1 : ¬ m < 1 := fun h => HN ⟨hin, .inl h⟩
              have hi1 : ¬ (m : Int) < 1 := by omega
              have hl0 : (litsS wild rs3.tail m).2.length = 0 := by
                by_cases h0 : 0 < (litsS wild rs3.tail m).2.length
                · exact absurd ⟨hin, .inr h0⟩ HN
                · omega
              have hl1 : (((litsS wild rs3.tail m).2.length : Nat) : Int) = 0 := by omega
              clear HN hl0
              go_wp2_with fail
              refine (leftF_any P (litsS wild rs3.tail m).2 _ hS.out.rs).mono ?_
              rintro e U1 ⟨rfl, hb⟩
              rw [hl1]
              clear hl1
              have hS' : Hid (SnS w P w.heap.size w1.heap.size (.slice a1 n1 k1) (.slice a2 n2 k2) (.slice a3 m k3) (litsS wild rs3.tail m).2 U1) := hS.out.later hb
              have hR' : Hid (RowIn .u32 U1 W1.heap.size w2.heap.size a1 z1) := hR.out.later hb
              have hQ' : Hid (RowIn .u32 U1 w3.heap.size w5.heap.size a2 (raysS wild rs1.tail n2).1) := hQ.out.later hb
              have hL' : Hid (RowIn .u32 U1 w6.heap.size U1.heap.size a3 (litsS wild rs3.tail m).1) := rowIn_wide (hL.out.later hb) hb.size
              have hz' : w6.heap.size ≤ U1.heap.size := Nat.le_trans hz hb.size
              clear hS hR hQ hL hz hb
              have hS := hS'
              have hR := hR'
              have hQ := hQ'
              have hL := hL'
              have hz := hz'
              clear hS' hR' hQ' hL' hz'
              have SF : Hid (SnS w P w.heap.size w1.heap.size (.slice a1 n1 k1) (.slice a2 n2 k2) (.slice a3 m k3) (litsS wild rs3.tail m).2 U1) := hS
              have RF : Hid (RowIn .u32 U1 W1.heap.size w2.heap.size a1 z1) := hR
              have QF : Hid (RowIn .u32 U1 w3.heap.size w5.heap.size a2 (raysS wild rs1.tail n2).1) := hQ
              have LF : Hid (RowIn .u32 U1 w6.heap.size U1.heap.size a3 (litsS wild rs3.tail m).1) := hL
              clear hS hR hQ hL
              obtain ⟨WF, hWF⟩ : ∃ W, W = U1 := ⟨_, rfl⟩
              rw [← hWF] at SF RF QF LF hz ⊢
              clear hWF
              have x0 := SF.out.bx.q0
              have x1 := SF.out.bx.q1
              have x2 := SF.out.bx.q2
              have f0 := SF.out.bx.fr 0
              have f1 := SF.out.bx.fr 1
              have f2 := SF.out.bx.fr 2
              have v0 := SF.out.by_.q0
              have v1 := SF.out.by_.q1
              have v2 := SF.out.by_.q2
              go_wp2
              refine bodyPost_ret (v := .agg #[.slice a1 n1 k1, .slice a2 n2 k2, .slice a3 m k3]) (by simp [results, Tryz.results20, go_sem, x0, x1, x2]) rfl ?_
              have key : ∀ {lo hi : Nat} {a : Option Addr} {zs : List Int}, RowIn .u32 WF lo hi a zs → w.heap.size < lo → RowIn .u32 (((WF.setCell ⟨w.heap.size, 0, none⟩ (.slice a1 n1 k1)).setCell ⟨w.heap.size, 1, none⟩ (.slice a2 n2 k2)).setCell ⟨w.heap.size, 2, none⟩ (.slice a3 m k3)) lo hi a zs := by
                intro lo hi a zs hr hl
                exact rowIn_aside (rowIn_aside (rowIn_aside hr ((Aside.refl w.heap.size _).set 0 _) hl) ((Aside.refl w.heap.size _).set 1 _) hl) ((Aside.refl w.heap.size _).set 2 _) hl
              have hzz : (((WF.setCell ⟨w.heap.size, 0, none⟩ (.slice a1 n1 k1)).setCell ⟨w.heap.size, 1, none⟩ (.slice a2 n2 k2)).setCell ⟨w.heap.size, 2, none⟩ (.slice a3 m k3)).heap.size = WF.heap.size := by simp
              refine ⟨a1, a2, a3, k1, k2, k3, W1.heap.size, w2.heap.size, w3.heap.size, w5.heap.size, w6.heap.size, WF.heap.size, rfl, ?_, ?_, ?_⟩
              · exact ⟨HL1.out, (raysS_good wild rs1.tail n2).1, (litsS_good wild rs3.tail m).1, ⟨by omega, by rw [hzz]; omega⟩, ⟨by omega, by rw [hzz]; omega⟩, ⟨by omega, by rw [hzz]; omega⟩, .inl (by omega), .inl (by omega), .inl (by omega), Nat.le_refl _, key RF.out (by omega), key QF.out (by omega), key LF.out (by omega)⟩
              · exact ((SF.out.rs.set hP 0 _).set hP 1 _).set hP 2 _
              · exact ((SF.out.asd.setHigh (p := ⟨w.heap.size, 0, none⟩) (Nat.le_refl _) _).setHigh (p := ⟨w.heap.size, 1, none⟩) (Nat.le_refl _) _).setHigh (p := ⟨w.heap.size, 2, none⟩) (Nat.le_refl _) _
            · have hin' : ¬ (m : Int) < n3 := by omega
              clear HN
              have SF : Hid (SnS w P w.heap.size w1.heap.size (.slice a1 n1 k1) (.slice a2 n2 k2) (.slice a3 m k3) (litsS wild rs3.tail m).2 wr) := hS
              have RF : Hid (RowIn .u32 wr W1.heap.size w2.heap.size a1 z1) := hR
              have QF : Hid (RowIn .u32 wr w3.heap.size w5.heap.size a2 (raysS wild rs1.tail n2).1) := hQ
              have LF : Hid (RowIn .u32 wr w6.heap.size wr.heap.size a3 (litsS wild rs3.tail m).1) := hL
              clear hS hR hQ hL
              obtain ⟨WF, hWF⟩ : ∃ W, W = wr := ⟨_, rfl⟩
              rw [← hWF] at SF RF QF LF hz ⊢
              clear hWF
              have x0 := SF.out.bx.q0
              have x1 := SF.out.bx.q1
              have x2 := SF.out.bx.q2
              have f0 := SF.out.bx.fr 0
              have f1 := SF.out.bx.fr 1
              have f2 := SF.out.bx.fr 2
              have v0 := SF.out.by_.q0
              have v1 := SF.out.by_.q1
              have v2 := SF.out.by_.q2
              go_wp2
              refine bodyPost_ret (v := .agg #[.slice a1 n1 k1, .slice a2 n2 k2, .slice a3 m k3]) (by simp [results, Tryz.results20, go_sem, x0, x1, x2]) rfl ?_
              have key : ∀ {lo hi : Nat} {a : Option Addr} {zs : List Int}, RowIn .u32 WF lo hi a zs → w.heap.size < lo → RowIn .u32 (((WF.setCell ⟨w.heap.size, 0, none⟩ (.slice a1 n1 k1)).setCell ⟨w.heap.size, 1, none⟩ (.slice a2 n2 k2)).setCell ⟨w.heap.size, 2, none⟩ (.slice a3 m k3)) lo hi a zs := by
                intro lo hi a zs hr hl
                exact rowIn_aside (rowIn_aside (rowIn_aside hr ((Aside.refl w.heap.size _).set 0 _) hl) ((Aside.refl w.heap.size _).set 1 _) hl) ((Aside.refl w.heap.size _).set 2 _) hl
              have hzz : (((WF.setCell ⟨w.heap.size, 0, none⟩ (.slice a1 n1 k1)).setCell ⟨w.heap.size, 1, none⟩ (.slice a2 n2 k2)).setCell ⟨w.heap.size, 2, none⟩ (.slice a3 m k3)).heap.size = WF.heap.size := by simp
              refine ⟨a1, a2, a3, k1, k2, k3, W1.heap.size, w2.heap.size, w3.heap.size, w5.heap.size, w6.heap.size, WF.heap.size, rfl, ?_, ?_, ?_⟩
              · exact ⟨HL1.out, (raysS_good wild rs1.tail n2).1, (litsS_good wild rs3.tail m).1, ⟨by omega, by rw [hzz]; omega⟩, ⟨by omega, by rw [hzz]; omega⟩, ⟨by omega, by rw [hzz]; omega⟩, .inl (by omega), .inl (by omega), .inl (by omega), Nat.le_refl _, key RF.out (by omega), key QF.out (by omega), key LF.out (by omega)⟩
              · exact ((SF.out.rs.set hP 0 _).set hP 1 _).set hP 2 _
              · exact ((SF.out.asd.setHigh (p := ⟨w.heap.size, 0, none⟩) (Nat.le_refl _) _).setHigh (p := ⟨w.heap.size, 1, none⟩) (Nat.le_refl _) _).setHigh (p := ⟨w.heap.size, 2, none⟩) (Nat.le_refl _) _

end Go.Proofs.YtiajhekjojeaeaaGreat
