/-
  The program's ValidScene.
-/
import Derived.Test.YtcjdnomhnlbmbaaIdBFoFImV
import Derived.Test.YtcjdnomhnlbmbaaLawVsScMPcAPcIPcB
import Derived.Test.YtcjdnomhnlbmbaaSpF
import Derived.Test.YtcjdnomhnlbmbaaSpD0ScJBytes2
namespace Go.Proofs.Ytcjdnomhnlbmbaa
open Go.RowKit

set_option maxRecDepth 100000 in
set_option maxHeartbeats 8000000 in
theorem vldI_any : VldSays 24 := by
  intro a1 a2 a3 n1 n2 n3 c1 c2 c3 z1 z2 z3 w hn hs hu1 hu2 hu3
  have HSC : Hid (ScAt w a1 a2 a3 n1 n2 n3 z1 z2 z3) := hs
  have HU1 : Hid (U32 z1) := hu1
  have HU2 : Hid (U32 z2) := hu2
  have HU3 : Hid (U32 z3) := hu3
  clear hs hu1 hu2 hu3
  go_enter Try.func24, Try.ntmps24
  go_wp2_with fail
  refine (fewAndFinite_any a1 n1 c1 z1 _ (by omega) HSC.out.l1 HU1.out (HSC.out.r1.later (bel0 _ _))).mono ?_
  rintro e W ⟨rfl, hb1⟩
  have P1 : Hid (W.cell? ⟨w.heap.size, 1, none⟩ = some (.slice a2 n2 c2)) := by unfold Hid; rw [(bcell hb1).1 _ _ (by simp)]; simp [go_sem]
  have P2 : Hid (W.cell? ⟨w.heap.size, 2, none⟩ = some (.slice a3 n3 c3)) := by unfold Hid; rw [(bcell hb1).1 _ _ (by simp)]; simp [go_sem]
  have HW0 : Hid (Below w.heap.size w W) := (bel0 _ _).trans (hb1.mono (by simp))
  have SW : Hid (w.heap.size < W.heap.size) := by unfold Hid; have := hb1.size; simp at this; omega
  have p1 := P1.out
  have p2 := P2.out
  clear hb1
  cases hT1 : (decide (n1 ≤ 40) && (List.range n1).all (triAt z1))
  · go_wp2
    go_ret
    exact ⟨ret_bool (by unfold validSc; rw [hT1]; rfl), HW0.out⟩
  · by_cases hn2 : n2 ≤ 40
    · have hng2 : ¬ (40 : Int) < n2 := by omega
      by_cases hn3 : n3 ≤ 4
      · have hng3 : ¬ (4 : Int) < n3 := by omega
        go_wp2
        clear p1 p2
        go_loopw [4, 24] (fun _ si wr => ∃ (i : Nat), i ≤ n2 ∧ si = .int .i64 i ∧ Hid ((List.range i).all (rayAt z2) = true) ∧ Hid (Below W.heap.size W wr)) (fun _ si _ => n2 - (intOf si).toNat)
        case atStart => exact ⟨0, Nat.zero_le _, rfl, rfl, Below.refl _ _⟩
        case round =>
          obtain ⟨i, hi, rfl, hA, hb⟩ := hrel
          have HZ : Hid (RowAt .u32 wr a2 z2) := (HSC.out.r2.later HW0.out).later hb.out
          by_cases hlt : i < n2
          · have hle : ∀ j, j < 6 → i * 6 + j < z2.length := by intro j hj; rw [HSC.out.l2]; omega
            obtain ⟨b, off, rfl, hbl, hc⟩ := HZ.out.resolve_left (by intro h; have := hle 0 (by omega); rw [h] at this; simp at this)
            obtain ⟨x0, hx0⟩ : ∃ x, x = z2.getD (i * 6) 0 := ⟨_, rfl⟩
            have q0 : wr.cell? ⟨b, off + i * 6, none⟩ = some (.int .u32 x0) := by
              have := hc (i * 6 + 0) (hle 0 (by omega))
              rw [hx0]
              simpa [Nat.add_assoc] using this
            have x0a : 0 ≤ x0 := by rw [hx0]; exact (HU2.out.at _).1
            have x0b : x0 < 4294967296 := by rw [hx0]; exact (HU2.out.at _).2
            obtain ⟨x1, hx1⟩ : ∃ x, x = z2.getD (i * 6 + 1) 0 := ⟨_, rfl⟩
            have q1 : wr.cell? ⟨b, off + i * 6 + 1, none⟩ = some (.int .u32 x1) := by
              have := hc (i * 6 + 1) (hle 1 (by omega))
              rw [hx1]
              simpa [Nat.add_assoc] using this
            have x1a : 0 ≤ x1 := by rw [hx1]; exact (HU2.out.at _).1
            have x1b : x1 < 4294967296 := by rw [hx1]; exact (HU2.out.at _).2
            obtain ⟨x2, hx2⟩ : ∃ x, x = z2.getD (i * 6 + 2) 0 := ⟨_, rfl⟩
            have q2 : wr.cell? ⟨b, off + i * 6 + 2, none⟩ = some (.int .u32 x2) := by
              have := hc (i * 6 + 2) (hle 2 (by omega))
              rw [hx2]
              simpa [Nat.add_assoc] using this
            have x2a : 0 ≤ x2 := by rw [hx2]; exact (HU2.out.at _).1
            have x2b : x2 < 4294967296 := by rw [hx2]; exact (HU2.out.at _).2
            obtain ⟨x3, hx3⟩ : ∃ x, x = z2.getD (i * 6 + 3) 0 := ⟨_, rfl⟩
            have q3 : wr.cell? ⟨b, off + i * 6 + 3, none⟩ = some (.int .u32 x3) := by
              have := hc (i * 6 + 3) (hle 3 (by omega))
              rw [hx3]
              simpa [Nat.add_assoc] using this
            have x3a : 0 ≤ x3 := by rw [hx3]; exact (HU2.out.at _).1
            have x3b : x3 < 4294967296 := by rw [hx3]; exact (HU2.out.at _).2
            obtain ⟨x4, hx4⟩ : ∃ x, x = z2.getD (i * 6 + 4) 0 := ⟨_, rfl⟩
            have q4 : wr.cell? ⟨b, off + i * 6 + 4, none⟩ = some (.int .u32 x4) := by
              have := hc (i * 6 + 4) (hle 4 (by omega))
              rw [hx4]
              simpa [Nat.add_assoc] using this
            have x4a : 0 ≤ x4 := by rw [hx4]; exact (HU2.out.at _).1
            have x4b : x4 < 4294967296 := by rw [hx4]; exact (HU2.out.at _).2
            obtain ⟨x5, hx5⟩ : ∃ x, x = z2.getD (i * 6 + 5) 0 := ⟨_, rfl⟩
            have q5 : wr.cell? ⟨b, off + i * 6 + 5, none⟩ = some (.int .u32 x5) := by
              have := hc (i * 6 + 5) (hle 5 (by omega))
              rw [hx5]
              simpa [Nat.add_assoc] using this
            have x5a : 0 ≤ x5 := by rw [hx5]; exact (HU2.out.at _).1
            have x5b : x5 < 4294967296 := by rw [hx5]; exact (HU2.out.at _).2
            have HX : Hid (rayAt z2 i = (pointB x0 x1 x2 && pointB x3 x4 x5 && !(noWayB x3 x4 x5))) := by unfold Hid; rw [hx0, hx1, hx2, hx3, hx4, hx5]; rfl
            have hib : (i : Int) < n2 := by omega
            clear hc hle HZ hx0 hx1 hx2 hx3 hx4 hx5
            go_wp2_with fail
            refine (proper_any x0 x1 x2 x3 x4 x5 _ x0a x0b x1a x1b x2a x2b x3a x3b x4a x4b x5a x5b).mono ?_
            rintro e w2 ⟨rfl, hb2⟩
            have HB2 : Hid (Below W.heap.size W w2) := hb.out.trans ((bel0 _ _).trans (hb2.mono (by simp)) |>.mono hb.out.size)
            clear hb2 hb q0 x0a x0b q1 x1a x1b q2 x2a x2b q3 x3a x3b q4 x4a x4b q5 x5a x5b
            rw [← HX.out]
            cases hT : rayAt z2 i
            · go_wp2
              go_ret
              exact ⟨ret_bool (by unfold validSc; rw [all_range_false hlt hT]; simp), HW0.out.trans (HB2.out.mono HW0.out.size)⟩
            · go_wp2
              go_roundw
              case rel => exact ⟨i + 1, by omega, by go_num, by unfold Hid; rw [all_range_succ, hA.out, hT]; rfl, HB2⟩
              case measure => simp [intOf]; omega
          · have hie : i = n2 := by omega
            subst hie
            have HR : Hid ((List.range i).all (rayAt z2) = true) := hA
            have HV : Hid (Below w.heap.size w wr) := HW0.out.trans (hb.out.mono HW0.out.size)
            have p2 : wr.cell? ⟨w.heap.size, 2, none⟩ = some (.slice a3 n3 c3) := ((bcell hb.out).1 _ _ SW.out).trans P2.out
            clear hA HZ hb
            go_wp2_with fail
            refine (pointsFinite_any a3 n3 c3 z3 _ (by omega) HSC.out.l3 HU3.out (HSC.out.r3.later HV.out)).mono ?_
            rintro e w3 ⟨rfl, hb3⟩
            have HB3 : Hid (Below w.heap.size w w3) := HV.out.trans (hb3.mono HV.out.size)
            clear hb3 p2
            go_wp2
            go_ret
            exact ⟨ret_bool (by unfold validSc; rw [hT1, HR.out]; simp [hn2, hn3]), HB3.out⟩
      · have hng3 : (4 : Int) < n3 := by omega
        go_wp2
        go_ret
        exact ⟨ret_bool (by unfold validSc; simp [hn3]), HW0.out⟩
    · have hng2 : (40 : Int) < n2 := by omega
      go_wp2
      go_ret
      exact ⟨ret_bool (by unfold validSc; simp [hn2]), HW0.out⟩

end Go.Proofs.Ytcjdnomhnlbmbaa

/-
  The law of EncodeScene, for any program whose EncodeScene answers the bytes in new memory.
-/
namespace Go.Proofs.Ytcjdnomhnlbmbaa
open Go.RowKit

/-- A function that answers a list of bytes in new memory. -/
def RowOut (w : World) (ys : List Int) (e : Ending) (w' : World) : Prop := ∃ a c, e = .returned (.slice a ys.length c) ∧ RowNew .u8 w' w.heap.size a ys ∧ Below w.heap.size w w'

theorem NewY.out {w w' : World} {ys : List Int} {e : Ending} (h : NewY w ys e w') : RowOut w ys e w' := by
  obtain ⟨v, rfl, ho, hb⟩ := h
  obtain ⟨a, c, rfl, hr⟩ := ho.row
  exact ⟨a, c, rfl, hr, hb⟩

/-- The function answers a scene's bytes. -/
def EncSays (f : FuncId) : Prop := ∀ (a1 a2 a3 : Option Addr) (n1 n2 n3 c1 c2 c3 : Nat) (z1 z2 z3 : List Int) (w : World), n1 + n2 + n3 ≤ 1048576 → ScAt w a1 a2 a3 n1 n2 n3 z1 z2 z3 → U32 z1 → U32 z2 → U32 z3 →
  Calls Try.prog f #[.agg #[.slice a1 n1 c1, .slice a2 n2 c2, .slice a3 n3 c3]] w fun e w' => RowOut w (encV n1 n2 n3 z1 z2 z3) e w'

theorem encV_length (n1 n2 n3 : Nat) (z1 z2 z3 : List Int) (h1 : z1.length = n1 * 9) (h2 : z2.length = n2 * 6) (h3 : z3.length = n3 * 3) : (encV n1 n2 n3 z1 z2 z3).length ≤ 10000 := by
  cases hv : validSc n1 n2 n3 z1 z2 z3
  · rw [encV_bad hv]; simp
  · rw [encV_ok hv]
    unfold validSc at hv
    simp only [Bool.and_eq_true, decide_eq_true_eq] at hv
    have q1 := hv.1.1.1.1.1
    have q2 := hv.1.1.1.2
    have q3 := hv.1.1.2
    unfold encSc
    simp only [List.length_append, flatB_length, headB_length]
    omega

theorem RowIn.both {k : IntKind} {w u w' : World} {lo hi lo' hi' : Nat} {a : Option Addr} {zs : List Int} (h : RowIn k w lo hi a zs) (hb : Below w.heap.size w u) (hw : Within lo' hi' u w') (hd : hi ≤ lo' ∨ hi' ≤ lo) : RowIn k w' lo hi a zs := (h.later hb).apart hw hd

set_option maxRecDepth 100000 in
set_option maxHeartbeats 16000000 in
theorem lawEncodeScene_any (hI : EncSays 31) (a1 a2 a3 : Option Addr) (n1 n2 n3 c1 c2 c3 : Nat) (z1 z2 z3 : List Int) (w : World) (h1 : n1 ≤ maxLen) (h2 : n2 ≤ maxLen) (h3 : n3 ≤ maxLen) (hu1 : U32 z1) (hu2 : U32 z2) (hu3 : U32 z3) (hs : ScAt w a1 a2 a3 n1 n2 n3 z1 z2 z3) :
    Calls Try.prog 7 #[.agg #[.slice a1 n1 c1, .slice a2 n2 c2, .slice a3 n3 c3]] w fun e w' => e = .returned (.bool true) ∧ Below w.heap.size w w' := by
  have HSC : Hid (ScAt w a1 a2 a3 n1 n2 n3 z1 z2 z3) := hs
  have HU : Hid (U32 z1 ∧ U32 z2 ∧ U32 z3) := ⟨hu1, hu2, hu3⟩
  have HI : Hid (EncSays 31) := hI
  have HYL : Hid ((encV n1 n2 n3 z1 z2 z3).length ≤ 10000) := encV_length _ _ _ _ _ _ hs.l1 hs.l2 hs.l3
  obtain ⟨ys, hys⟩ : ∃ ys, ys = encV n1 n2 n3 z1 z2 z3 := ⟨_, rfl⟩
  have HY : Hid (ys = encV n1 n2 n3 z1 z2 z3) := hys
  rw [← hys] at HYL
  clear hs hu1 hu2 hu3 hI hys
  go_enter Try.func7, Try.ntmps7
  go_wp2_with fail
  refine (szScene_any a1 a2 a3 n1 n2 n3 c1 c2 c3 _ h1 h2 h3).mono ?_
  rintro e W0 ⟨r, rfl, hr, hb⟩
  have F0 : Hid (LwS w a1 a2 a3 n1 n2 n3 c1 c2 c3 z1 z2 z3 W0) := (LwS.start HSC.out _).later hb
  clear hb
  rcases hr with hr | ⟨hr, hn⟩
  · go_wp2
    go_ret
    exact ⟨rfl, F0.out.bel⟩
  · have HN : Hid (n1 + n2 + n3 ≤ 1048576) := hn
    have hrn : ¬ r < 0 := by omega
    have q0 := F0.out.bx.q0
    have q1 := F0.out.bx.q1
    have q2 := F0.out.bx.q2
    clear hn
    go_wp2_with fail
    refine (toScene_any a1 a2 a3 n1 n2 n3 c1 c2 c3 z1 z2 z3 _ HN.out F0.out.sc).mono ?_
    rintro e W1 ⟨b1, b2, b3, m1, m2, rfl, hi1, hb1⟩
    have F1 : Hid (LwS w a1 a2 a3 n1 n2 n3 c1 c2 c3 z1 z2 z3 W1) := F0.out.later hb1
    have I1 : Hid (ScAt W1 b1 b2 b3 n1 n2 n3 z1 z2 z3) := hi1.at
    clear hb1 hi1 q0 q1 q2 F0
    go_wp2_with fail
    refine (encS_any b1 b2 b3 n1 n2 n3 n1 n2 n3 z1 z2 z3 _ HN.out I1.out HU.out.1 HU.out.2.1 HU.out.2.2).mono ?_
    rintro e W2 hN2
    rw [← HY.out] at hN2
    obtain ⟨aw, cw, rfl, hr2, hb2⟩ := hN2.out
    have F2 : Hid (LwS w a1 a2 a3 n1 n2 n3 c1 c2 c3 z1 z2 z3 W2) := F1.out.later hb2
    have RW2 : Hid (RowIn .u8 W2 W1.heap.size W2.heap.size aw ys) := hr2.rowIn
    have q0 := F2.out.bx.q0
    have q1 := F2.out.bx.q1
    have q2 := F2.out.bx.q2
    have L1 : Hid (w.heap.size < W1.heap.size) := F1.out.bx.lt
    have L2 : Hid (W1.heap.size ≤ W2.heap.size) := hb2.size
    clear hN2 hr2 hb2 F1 I1
    go_wp2_with fail
    refine (toScene_any a1 a2 a3 n1 n2 n3 c1 c2 c3 z1 z2 z3 _ HN.out F2.out.sc).mono ?_
    rintro e W3 ⟨d1, d2, d3, k1, k2, rfl, hi3, hb3⟩
    have F3 : Hid (∀ t, LwS w a1 a2 a3 n1 n2 n3 c1 c2 c3 z1 z2 z3 (W3.alloc (.cells #[.slice d1 n1 n1, .slice d2 n2 n2, .slice d3 n3 n3] t))) := fun t => (F2.out.later hb3).later (bel0 _ _)
    have X3 : Hid (∀ t, BxS (W3.alloc (.cells #[.slice d1 n1 n1, .slice d2 n2 n2, .slice d3 n3 n3] t)) W3.heap.size (.slice d1 n1 n1) (.slice d2 n2 n2) (.slice d3 n3 n3)) := fun t => BxS.new _ _ _ _ _
    have I3 : Hid (∀ t, ScIn (W3.alloc (.cells #[.slice d1 n1 n1, .slice d2 n2 n2, .slice d3 n3 n3] t)) W2.heap.size W3.heap.size d1 d2 d3 n1 n2 n3 z1 z2 z3 k1 k2) := fun t => hi3.later (bel0 _ _)
    have RW3 : Hid (∀ t, RowIn .u8 (W3.alloc (.cells #[.slice d1 n1 n1, .slice d2 n2 n2, .slice d3 n3 n3] t)) W1.heap.size W2.heap.size aw ys) := fun t => (RW2.out.later hb3).later (bel0 _ _)
    have L3 : Hid (W2.heap.size ≤ W3.heap.size) := hb3.size
    clear hb3 hi3 q0 q1 q2 F2 RW2
    go_wp2_with fail
    refine (HI.out d1 d2 d3 n1 n2 n3 n1 n2 n3 z1 z2 z3 _ HN.out (I3.out _).at HU.out.1 HU.out.2.1 HU.out.2.2).mono ?_
    rintro e W4 hN4
    rw [← HY.out] at hN4
    obtain ⟨ag, cg, rfl, hr4, hb4⟩ := hN4
    have F4 : Hid (LwS w a1 a2 a3 n1 n2 n3 c1 c2 c3 z1 z2 z3 W4) := (F3.out _).later hb4
    have X4 : Hid (BxS W4 W3.heap.size (.slice d1 n1 n1) (.slice d2 n2 n2) (.slice d3 n3 n3)) := (X3.out _).later hb4
    have I4 : Hid (ScIn W4 W2.heap.size W3.heap.size d1 d2 d3 n1 n2 n3 z1 z2 z3 k1 k2) := (I3.out _).later hb4
    have RW4 : Hid (RowIn .u8 W4 W1.heap.size W2.heap.size aw ys) := (RW3.out _).later hb4
    have RG4 : Hid (RowIn .u8 W4 (W3.heap.size + 1) W4.heap.size ag ys) := by
      have := hr4.rowIn
      unfold Hid
      simpa using this
    have L4 : Hid (W3.heap.size + 1 ≤ W4.heap.size) := by have := hb4.size; unfold Hid; simpa using this
    clear hr4 hb4 F3 X3 I3 RW3
    go_wp2_with fail
    refine (eqY_any ag aw cg cw ys ys _ (by have := HYL.out; unfold maxLen; omega) (by have := HYL.out; unfold maxLen; omega) RG4.out.row RW4.out.row).mono ?_
    rintro e W5 ⟨rfl, hb5⟩
    rw [decide_eq_true rfl]
    have F5 : Hid (LwS w a1 a2 a3 n1 n2 n3 c1 c2 c3 z1 z2 z3 W5) := F4.out.later hb5
    have X5 : Hid (BxS W5 W3.heap.size (.slice d1 n1 n1) (.slice d2 n2 n2) (.slice d3 n3 n3)) := X4.out.later hb5
    have I5 : Hid (ScIn W5 W2.heap.size W3.heap.size d1 d2 d3 n1 n2 n3 z1 z2 z3 k1 k2) := I4.out.later hb5
    have RW5 : Hid (RowIn .u8 W5 W1.heap.size W2.heap.size aw ys) := RW4.out.later hb5
    have RG5 : Hid (RowIn .u8 W5 (W3.heap.size + 1) W4.heap.size ag ys) := RG4.out.later hb5
    have L5 : Hid (W4.heap.size ≤ W5.heap.size) := hb5.size
    have HH : Hid (∀ w', Below W5.heap.size W5 w' → w'.cell? ⟨w.heap.size, 0, none⟩ = some (.slice a1 n1 c1) ∧ w'.cell? ⟨w.heap.size, 1, none⟩ = some (.slice a2 n2 c2) ∧ w'.cell? ⟨w.heap.size, 2, none⟩ = some (.slice a3 n3 c3) ∧ w'.cell? ⟨W3.heap.size, 0, none⟩ = some (.slice d1 n1 n1) ∧ w'.cell? ⟨W3.heap.size, 1, none⟩ = some (.slice d2 n2 n2) ∧ w'.cell? ⟨W3.heap.size, 2, none⟩ = some (.slice d3 n3 n3) ∧ Below W5.heap.size W5 w') := by
      intro w' hw
      have e1 := F5.out.bx.later hw
      have e2 := X5.out.later hw
      exact ⟨e1.q0, e1.q1, e1.q2, e2.q0, e2.q1, e2.q2, hw⟩
    clear hb5 F4 X4 I4 RW4 RG4
    go_wp2
    go_region_held3 (fun w' => w'.cell? ⟨w.heap.size, 0, none⟩ = some (.slice a1 n1 c1) ∧ w'.cell? ⟨w.heap.size, 1, none⟩ = some (.slice a2 n2 c2) ∧ w'.cell? ⟨w.heap.size, 2, none⟩ = some (.slice a3 n3 c3) ∧ w'.cell? ⟨W3.heap.size, 0, none⟩ = some (.slice d1 n1 n1) ∧ w'.cell? ⟨W3.heap.size, 1, none⟩ = some (.slice d2 n2 n2) ∧ w'.cell? ⟨W3.heap.size, 2, none⟩ = some (.slice d3 n3 n3) ∧ Below W5.heap.size W5 w')
      (first | exact HH.out _ (Below.refl _ _).drew | exact HH.out _ (by assumption))
      (first
        | (go_at_call 23; refine (toScene_any a1 a2 a3 n1 n2 n3 c1 c2 c3 z1 z2 z3 _ HN.out (F5.out.sc.later (Below.refl _ _).drew)).mono ?_; rintro e W6 ⟨g1, g2, g3, j1, j2, rfl, hi6, hb6⟩; have hB6 : Below W5.heap.size W5 W6 := (Below.refl _ _).drew.trans hb6)
        | (go_at_call 25; refine (eqScene_same d1 d2 d3 g1 g2 g3 n1 n2 n3 _ _ _ _ _ _ z1 z2 z3 _ HN.out (I5.out.at.later hB6) hi6.at).mono ?_; rintro e W7 ⟨rfl, hb7⟩; have hB7 : Below W5.heap.size W5 W7 := hB6.trans (hb7.mono hB6.size)))
    have F7 : Hid (LwS w a1 a2 a3 n1 n2 n3 c1 c2 c3 z1 z2 z3 W7) := F5.out.later hB7
    have X7 : Hid (BxS W7 W3.heap.size (.slice d1 n1 n1) (.slice d2 n2 n2) (.slice d3 n3 n3)) := X5.out.later hB7
    have I7 : Hid (ScIn W7 W2.heap.size W3.heap.size d1 d2 d3 n1 n2 n3 z1 z2 z3 k1 k2) := I5.out.later hB7
    have RW7 : Hid (RowIn .u8 W7 W1.heap.size W2.heap.size aw ys) := RW5.out.later hB7
    have RG7 : Hid (RowIn .u8 W7 (W3.heap.size + 1) W4.heap.size ag ys) := RG5.out.later hB7
    have L7 : Hid (W4.heap.size ≤ W7.heap.size) := Nat.le_trans L5.out hB7.size
    clear hb6 hb7 hB6 hB7 hi6 F5 X5 I5 RW5 RG5 HH
    have q0 := X7.out.q0
    have q1 := X7.out.q1
    have q2 := X7.out.q2
    go_wp2_with fail
    refine (markScene_any d1 d2 d3 n1 n2 n3 n1 n2 n3 z1 z2 z3 k1 k2 W2.heap.size W3.heap.size 1 _ HN.out (by decide) (by decide) I7.out).mono ?_
    rintro e W8 ⟨rfl, _, u8, hbu, hwu⟩
    have F8 : Hid (LwS w a1 a2 a3 n1 n2 n3 c1 c2 c3 z1 z2 z3 W8) := (F7.out.later hbu).within HSC.out hwu (by have := L1.out; have := L2.out; omega)
    have RW8 : Hid (RowIn .u8 W8 W1.heap.size W2.heap.size aw ys) := RW7.out.both hbu hwu (.inl (Nat.le_refl _))
    have RG8 : Hid (RowIn .u8 W8 (W3.heap.size + 1) W4.heap.size ag ys) := RG7.out.both hbu hwu (.inr (Nat.le_succ _))
    have hk8 : ¬ (1 : Int) + z1.length + z2.length + z3.length < 0 := by omega
    clear hbu hwu F7 X7 I7 RW7 RG7 q0 q1 q2
    go_wp2_with fail
    refine (eqY_any ag aw cg cw ys ys _ (by have := HYL.out; unfold maxLen; omega) (by have := HYL.out; unfold maxLen; omega) RG8.out.row RW8.out.row).mono ?_
    rintro e W9 ⟨rfl, hb9⟩
    rw [decide_eq_true rfl]
    have F9 : Hid (LwS w a1 a2 a3 n1 n2 n3 c1 c2 c3 z1 z2 z3 W9) := F8.out.later hb9
    have RW9 : Hid (RowIn .u8 W9 W1.heap.size W2.heap.size aw ys) := RW8.out.later hb9
    have RG9 : Hid (RowIn .u8 W9 (W3.heap.size + 1) W4.heap.size ag ys) := RG8.out.later hb9
    clear hb9 F8 RW8 RG8 hk8
    go_wp2_with fail
    refine (markY2_any ag cg ys 1 _ (W3.heap.size + 1) W4.heap.size (by have := HYL.out; omega) (by decide) (by decide) RG9.out).mono ?_
    rintro e W10 ⟨rfl, hr10, hw10⟩
    have F10 : Hid (LwS w a1 a2 a3 n1 n2 n3 c1 c2 c3 z1 z2 z3 W10) := F9.out.within HSC.out hw10 (by have := L1.out; have := L2.out; have := L3.out; omega)
    have RW10 : Hid (RowIn .u8 W10 W1.heap.size W2.heap.size aw ys) := RW9.out.apart hw10 (.inl (by have := L3.out; omega))
    have RG10 : Hid (RowAt .u8 W10 ag (marksY 1 ys.length)) := hr10.row
    clear hr10 hw10 F9 RW9 RG9
    go_wp2_with fail
    refine (heldY_any ag cg ys.length 1 _ (by have := HYL.out; omega) (by decide) (by decide) RG10.out).mono ?_
    rintro e W11 ⟨rfl, rfl⟩
    have hk11 : ¬ (1 : Int) + ys.length < 0 := by omega
    have hne11 : ((1 : Int) + ys.length != 1 + ys.length) = false := by simp
    have q0 := F10.out.bx.q0
    have q1 := F10.out.bx.q1
    have q2 := F10.out.bx.q2
    go_wp2_with fail
    refine (toScene_any a1 a2 a3 n1 n2 n3 c1 c2 c3 z1 z2 z3 _ HN.out F10.out.sc).mono ?_
    rintro e W12 ⟨f1, f2, f3, t1, t2, rfl, hi12, hb12⟩
    have F12 : Hid (LwS w a1 a2 a3 n1 n2 n3 c1 c2 c3 z1 z2 z3 W12) := F10.out.later hb12
    have I12 : Hid (ScAt W12 f1 f2 f3 n1 n2 n3 z1 z2 z3) := hi12.at
    have RW12 : Hid (RowIn .u8 W12 W1.heap.size W2.heap.size aw ys) := RW10.out.later hb12
    clear hb12 hi12 F10 RW10 RG10 q0 q1 q2 hk11 hne11
    go_wp2_with fail
    refine (HI.out f1 f2 f3 n1 n2 n3 n1 n2 n3 z1 z2 z3 _ HN.out I12.out HU.out.1 HU.out.2.1 HU.out.2.2).mono ?_
    rintro e W13 hN13
    rw [← HY.out] at hN13
    obtain ⟨ah, ch, rfl, hr13, hb13⟩ := hN13
    have F13 : Hid (LwS w a1 a2 a3 n1 n2 n3 c1 c2 c3 z1 z2 z3 W13) := F12.out.later hb13
    have RW13 : Hid (RowIn .u8 W13 W1.heap.size W2.heap.size aw ys) := RW12.out.later hb13
    have RH13 : Hid (RowAt .u8 W13 ah ys) := hr13.row
    clear hr13 hb13 F12 I12 RW12
    go_wp2_with fail
    refine (eqY_any ah aw ch cw ys ys _ (by have := HYL.out; unfold maxLen; omega) (by have := HYL.out; unfold maxLen; omega) RH13.out RW13.out.row).mono ?_
    rintro e W14 ⟨rfl, hb14⟩
    rw [decide_eq_true rfl]
    have F14 : Hid (LwS w a1 a2 a3 n1 n2 n3 c1 c2 c3 z1 z2 z3 W14) := F13.out.later hb14
    clear hb14 F13 RW13 RH13
    go_wp2
    go_ret
    exact ⟨rfl, F14.out.bel⟩

end Go.Proofs.Ytcjdnomhnlbmbaa
