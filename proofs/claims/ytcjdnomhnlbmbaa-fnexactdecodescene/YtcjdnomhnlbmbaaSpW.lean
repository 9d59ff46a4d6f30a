/-
  The model's ValidScene.
-/
import Derived.Test.YtcjdnomhnlbmbaaSpV
namespace Go.Proofs.Ytcjdnomhnlbmbaa
open Go.RowKit

set_option maxRecDepth 100000 in
set_option maxHeartbeats 8000000 in
theorem validV_any (a1 a2 a3 : Option Addr) (n1 n2 n3 c1 c2 c3 : Nat) (z1 z2 z3 : List Int) (w : World) (hn : n1 + n2 + n3 ≤ 1048576) (hs : ScAt w a1 a2 a3 n1 n2 n3 z1 z2 z3) (hu1 : U32 z1) (hu2 : U32 z2) (hu3 : U32 z3) :
    Calls Try.prog 22 #[.agg #[.slice a1 n1 c1, .slice a2 n2 c2, .slice a3 n3 c3]] w fun e w' => e = .returned (.bool (validSc n1 n2 n3 z1 z2 z3)) ∧ Below w.heap.size w w' := by
  have HSC : Hid (ScAt w a1 a2 a3 n1 n2 n3 z1 z2 z3) := hs
  have HU1 : Hid (U32 z1) := hu1
  have HU2 : Hid (U32 z2) := hu2
  have HU3 : Hid (U32 z3) := hu3
  clear hs hu1 hu2 hu3
  go_enter Try.func22, Try.ntmps22
  go_wp2_with fail
  refine (trisV_any a1 n1 c1 z1 _ (by omega) HSC.out.l1 HU1.out (HSC.out.r1.later (bel0 _ _))).mono ?_
  rintro e W ⟨rfl, hb1⟩
  have P1 : Hid (W.cell? ⟨w.heap.size, 1, none⟩ = some (.slice a2 n2 c2)) := by unfold Hid; rw [(bcell hb1).1 _ _ (by simp)]; simp [go_sem]
  have P2 : Hid (W.cell? ⟨w.heap.size, 2, none⟩ = some (.slice a3 n3 c3)) := by unfold Hid; rw [(bcell hb1).1 _ _ (by simp)]; simp [go_sem]
  have HW0 : Hid (Below w.heap.size w W) := (bel0 _ _).trans (hb1.mono (by simp))
  have SW : Hid (w.heap.size < W.heap.size) := by unfold Hid; have := hb1.size; simp at this; omega
  have p1 := P1.out
  have p2 := P2.out
  clear hb1
  cases hT1 : (decide (n1 ≤ 40) && (List.range n1).all (triAt z1))
  · go_wp2
    go_ret
    exact ⟨ret_bool (by unfold validSc; rw [hT1]; rfl), HW0.out⟩
  · by_cases hn2 : n2 ≤ 40
    · have hng2 : ¬ (40 : Int) < n2 := by omega
      by_cases hn3 : n3 ≤ 4
      · have hng3 : ¬ (4 : Int) < n3 := by omega
        go_wp2
        clear p1 p2
        go_loopw [3] (fun si wr => ∃ (i : Nat), i ≤ n2 ∧ si = .int .i64 i ∧ Hid ((List.range i).all (rayAt z2) = true) ∧ Hid (Below W.heap.size W wr)) (fun si _ => n2 - (intOf si).toNat)
        case atStart => exact ⟨0, Nat.zero_le _, rfl, rfl, Below.refl _ _⟩
        case round =>
          obtain ⟨i, hi, rfl, hA, hb⟩ := hrel
          have HZ : Hid (RowAt .u32 wr a2 z2) := (HSC.out.r2.later HW0.out).later hb.out
          have p : wr.cell? ⟨w.heap.size, 1, none⟩ = some (.slice a2 n2 c2) := ((bcell hb.out).1 _ _ SW.out).trans P1.out
          by_cases hlt : i < n2
          · have hle : ∀ j, j < 6 → i * 6 + j < z2.length := by intro j hj; rw [HSC.out.l2]; omega
            obtain ⟨b, off, rfl, hbl, hc⟩ := HZ.out.resolve_left (by intro h; have := hle 0 (by omega); rw [h] at this; simp at this)
            obtain ⟨x0, hx0⟩ : ∃ x, x = z2.getD (i * 6) 0 := ⟨_, rfl⟩
            have q0 : wr.cell? ⟨b, off + i * 6, none⟩ = some (.int .u32 x0) := by
              have := hc (i * 6 + 0) (hle 0 (by omega))
              rw [hx0]
              simpa [Nat.add_assoc] using this
            have x0a : 0 ≤ x0 := by rw [hx0]; exact (HU2.out.at _).1
            have x0b : x0 < 4294967296 := by rw [hx0]; exact (HU2.out.at _).2
            obtain ⟨x1, hx1⟩ : ∃ x, x = z2.getD (i * 6 + 1) 0 := ⟨_, rfl⟩
            have q1 : wr.cell? ⟨b, off + i * 6 + 1, none⟩ = some (.int .u32 x1) := by
              have := hc (i * 6 + 1) (hle 1 (by omega))
              rw [hx1]
              simpa [Nat.add_assoc] using this
            have x1a : 0 ≤ x1 := by rw [hx1]; exact (HU2.out.at _).1
            have x1b : x1 < 4294967296 := by rw [hx1]; exact (HU2.out.at _).2
            obtain ⟨x2, hx2⟩ : ∃ x, x = z2.getD (i * 6 + 2) 0 := ⟨_, rfl⟩
            have q2 : wr.cell? ⟨b, off + i * 6 + 2, none⟩ = some (.int .u32 x2) := by
              have := hc (i * 6 + 2) (hle 2 (by omega))
              rw [hx2]
              simpa [Nat.add_assoc] using this
            have x2a : 0 ≤ x2 := by rw [hx2]; exact (HU2.out.at _).1
            have x2b : x2 < 4294967296 := by rw [hx2]; exact (HU2.out.at _).2
            obtain ⟨x3, hx3⟩ : ∃ x, x = z2.getD (i * 6 + 3) 0 := ⟨_, rfl⟩
            have q3 : wr.cell? ⟨b, off + i * 6 + 3, none⟩ = some (.int .u32 x3) := by
              have := hc (i * 6 + 3) (hle 3 (by omega))
              rw [hx3]
              simpa [Nat.add_assoc] using this
            have x3a : 0 ≤ x3 := by rw [hx3]; exact (HU2.out.at _).1
            have x3b : x3 < 4294967296 := by rw [hx3]; exact (HU2.out.at _).2
            obtain ⟨x4, hx4⟩ : ∃ x, x = z2.getD (i * 6 + 4) 0 := ⟨_, rfl⟩
            have q4 : wr.cell? ⟨b, off + i * 6 + 4, none⟩ = some (.int .u32 x4) := by
              have := hc (i * 6 + 4) (hle 4 (by omega))
              rw [hx4]
              simpa [Nat.add_assoc] using this
            have x4a : 0 ≤ x4 := by rw [hx4]; exact (HU2.out.at _).1
            have x4b : x4 < 4294967296 := by rw [hx4]; exact (HU2.out.at _).2
            obtain ⟨x5, hx5⟩ : ∃ x, x = z2.getD (i * 6 + 5) 0 := ⟨_, rfl⟩
            have q5 : wr.cell? ⟨b, off + i * 6 + 5, none⟩ = some (.int .u32 x5) := by
              have := hc (i * 6 + 5) (hle 5 (by omega))
              rw [hx5]
              simpa [Nat.add_assoc] using this
            have x5a : 0 ≤ x5 := by rw [hx5]; exact (HU2.out.at _).1
            have x5b : x5 < 4294967296 := by rw [hx5]; exact (HU2.out.at _).2
            have HX : Hid (rayAt z2 i = (pointB x0 x1 x2 && pointB x3 x4 x5 && !(noWayB x3 x4 x5))) := by unfold Hid; rw [hx0, hx1, hx2, hx3, hx4, hx5]; rfl
            have hib : (i : Int) < n2 := by omega
            clear hc hle HZ hx0 hx1 hx2 hx3 hx4 hx5
            go_wp2_with fail
            refine (rayV_any x0 x1 x2 x3 x4 x5 _ x0a x0b x1a x1b x2a x2b x3a x3b x4a x4b x5a x5b).mono ?_
            rintro e w2 ⟨rfl, hb2⟩
            have HB2 : Hid (Below W.heap.size W w2) := hb.out.trans (hb2.mono hb.out.size)
            clear hb2 hb q0 x0a x0b q1 x1a x1b q2 x2a x2b q3 x3a x3b q4 x4a x4b q5 x5a x5b
            rw [← HX.out]
            cases hT : rayAt z2 i
            · go_wp2
              go_ret
              exact ⟨ret_bool (by unfold validSc; rw [all_range_false hlt hT]; simp), HW0.out.trans (HB2.out.mono HW0.out.size)⟩
            · go_wp2
              go_roundw
              case rel => exact ⟨i + 1, by omega, by go_num, by unfold Hid; rw [all_range_succ, hA.out, hT]; rfl, HB2⟩
              case measure => simp [intOf]; omega
          · have hie : i = n2 := by omega
            subst hie
            have HR : Hid ((List.range i).all (rayAt z2) = true) := hA
            have HV : Hid (Below w.heap.size w wr) := HW0.out.trans (hb.out.mono HW0.out.size)
            have SV : Hid (w.heap.size < wr.heap.size) := Nat.lt_of_lt_of_le SW.out hb.out.size
            have PV2 : Hid (wr.cell? ⟨w.heap.size, 2, none⟩ = some (.slice a3 n3 c3)) := ((bcell hb.out).1 _ _ SW.out).trans P2.out
            obtain ⟨V, hV⟩ : ∃ V, V = wr := ⟨_, rfl⟩
            rw [← hV] at HV SV PV2
            clear hA HZ
            go_wp2
            rw [← hV]
            clear hV hb p
            go_loopw [4] (fun si wr => ∃ (i : Nat), i ≤ n3 ∧ si = .int .i64 i ∧ Hid ((List.range i).all (ptAt z3) = true) ∧ Hid (Below V.heap.size V wr)) (fun si _ => n3 - (intOf si).toNat)
            case atStart => exact ⟨0, Nat.zero_le _, rfl, rfl, Below.refl _ _⟩
            case round =>
              obtain ⟨i, hi, rfl, hA, hb⟩ := hrel
              have HZ : Hid (RowAt .u32 wr a3 z3) := (HSC.out.r3.later HV.out).later hb.out
              have p : wr.cell? ⟨w.heap.size, 2, none⟩ = some (.slice a3 n3 c3) := ((bcell hb.out).1 _ _ SV.out).trans PV2.out
              by_cases hlt : i < n3
              · have hle : ∀ j, j < 3 → i * 3 + j < z3.length := by intro j hj; rw [HSC.out.l3]; omega
                obtain ⟨b, off, rfl, hbl, hc⟩ := HZ.out.resolve_left (by intro h; have := hle 0 (by omega); rw [h] at this; simp at this)
                obtain ⟨x0, hx0⟩ : ∃ x, x = z3.getD (i * 3) 0 := ⟨_, rfl⟩
                have q0 : wr.cell? ⟨b, off + i * 3, none⟩ = some (.int .u32 x0) := by
                  have := hc (i * 3 + 0) (hle 0 (by omega))
                  rw [hx0]
                  simpa [Nat.add_assoc] using this
                have x0a : 0 ≤ x0 := by rw [hx0]; exact (HU3.out.at _).1
                have x0b : x0 < 4294967296 := by rw [hx0]; exact (HU3.out.at _).2
                obtain ⟨x1, hx1⟩ : ∃ x, x = z3.getD (i * 3 + 1) 0 := ⟨_, rfl⟩
                have q1 : wr.cell? ⟨b, off + i * 3 + 1, none⟩ = some (.int .u32 x1) := by
                  have := hc (i * 3 + 1) (hle 1 (by omega))
                  rw [hx1]
                  simpa [Nat.add_assoc] using this
                have x1a : 0 ≤ x1 := by rw [hx1]; exact (HU3.out.at _).1
                have x1b : x1 < 4294967296 := by rw [hx1]; exact (HU3.out.at _).2
                obtain ⟨x2, hx2⟩ : ∃ x, x = z3.getD (i * 3 + 2) 0 := ⟨_, rfl⟩
                have q2 : wr.cell? ⟨b, off + i * 3 + 2, none⟩ = some (.int .u32 x2) := by
                  have := hc (i * 3 + 2) (hle 2 (by omega))
                  rw [hx2]
                  simpa [Nat.add_assoc] using this
                have x2a : 0 ≤ x2 := by rw [hx2]; exact (HU3.out.at _).1
                have x2b : x2 < 4294967296 := by rw [hx2]; exact (HU3.out.at _).2
                have HX : Hid (ptAt z3 i = (pointB x0 x1 x2)) := by unfold Hid; rw [hx0, hx1, hx2]; rfl
                have hib : (i : Int) < n3 := by omega
                clear hc hle HZ hx0 hx1 hx2
                go_wp2_with fail
                refine (pointV_any x0 x1 x2 _ x0a x0b x1a x1b x2a x2b).mono ?_
                rintro e w2 ⟨rfl, hb2⟩
                have HB2 : Hid (Below V.heap.size V w2) := hb.out.trans (hb2.mono hb.out.size)
                clear hb2 hb q0 x0a x0b q1 x1a x1b q2 x2a x2b
                rw [← HX.out]
                cases hT : ptAt z3 i
                · go_wp2
                  go_ret
                  exact ⟨ret_bool (by unfold validSc; rw [all_range_false hlt hT]; simp), HV.out.trans (HB2.out.mono HV.out.size)⟩
                · go_wp2
                  go_roundw
                  case rel => exact ⟨i + 1, by omega, by go_num, by unfold Hid; rw [all_range_succ, hA.out, hT]; rfl, HB2⟩
                  case measure => simp [intOf]; omega
              · have hie : i = n3 := by omega
                subst hie
                have HA := hA.out
                go_wp2
                go_ret
                exact ⟨ret_bool (by unfold validSc; rw [hT1, HR.out, HA]; simp [hn2, hn3]), HV.out.trans (hb.out.mono HV.out.size)⟩
      · have hng3 : (4 : Int) < n3 := by omega
        go_wp2
        go_ret
        exact ⟨ret_bool (by unfold validSc; simp [hn3]), HW0.out⟩
    · have hng2 : (40 : Int) < n2 := by omega
      go_wp2
      go_ret
      exact ⟨ret_bool (by unfold validSc; simp [hn2]), HW0.out⟩

end Go.Proofs.Ytcjdnomhnlbmbaa
