/-
  The program's reader: scene, walked.
-/
import Derived.Test.YtcjdnomhnlbmbaaIqAIqBIdMIdH
namespace Go.Proofs.Ytcjdnomhnlbmbaa
open Go.RowKit

theorem firstF_prop {α : Type} {f : Nat → Option α} {P : α → Prop} (h : ∀ j x, f j = some x → P x) : ∀ {n : Nat} {x : α}, firstF f n = some x → P x
  | 0, x, e => by cases e
  | n + 1, x, e => by
    rw [firstF_orF] at e
    rcases orF_some e with e | ⟨_, e⟩
    · exact firstF_prop h e
    · exact h _ _ e
theorem mkF_nz {ts bs : List Int} {j : Nat} {x : Int × Int} (h : mkF ts bs j = some x) : x.1 ≠ 0 := by
  unfold mkF at h
  split at h
  · cases h; show (5 : Int) ≠ 0; decide
  · split at h
    · cases h
    · cases h; show (4 : Int) ≠ 0; decide
theorem cntF_nz {bs : List Int} {i size : Nat} {l : Int} {x : Int × Int} (h : cntF bs i size l = some x) : x.1 ≠ 0 := by
  unfold cntF at h
  split at h
  · cases h; show (5 : Int) ≠ 0; decide
  · split at h
    · cases h; show (2 : Int) ≠ 0; decide
    · cases h
theorem fltF_nz {bs : List Int} {i : Nat} {x : Int × Int} (h : fltF bs i = some x) : x.1 ≠ 0 := by
  unfold fltF at h
  split at h
  · cases h; show (5 : Int) ≠ 0; decide
  · split at h
    · cases h; show (6 : Int) ≠ 0; decide
    · cases h
theorem ptF_nz {bs : List Int} {i : Nat} {x : Int × Int} (h : ptF bs i = some x) : x.1 ≠ 0 := by
  rcases orF_some h with h | ⟨_, h⟩
  · exact fltF_nz h
  · rcases orF_some h with h | ⟨_, h⟩
    · exact fltF_nz h
    · exact fltF_nz h
theorem triF_nz {bs : List Int} {i : Nat} {x : Int × Int} (h : triF bs i = some x) : x.1 ≠ 0 := by
  rcases orF_some h with h | ⟨_, h⟩
  · exact ptF_nz h
  · rcases orF_some h with h | ⟨_, h⟩
    · exact ptF_nz h
    · exact ptF_nz h
theorem rayF_nz {bs : List Int} {i : Nat} {x : Int × Int} (h : rayF bs i = some x) : x.1 ≠ 0 := by
  rcases orF_some h with h | ⟨_, h⟩
  · exact ptF_nz h
  · rcases orF_some h with h | ⟨_, h⟩
    · exact ptF_nz h
    · split at h
      · cases h; show (7 : Int) ≠ 0; decide
      · cases h

/-- Memory while a scene is read. -/
structure ScnS (w0 : World) (R b off c : Nat) (bs : List Int) (i X Y : Nat) (v0 v1 v2 : Value) (W : World) : Prop where
  rd : RdB W R b off c bs i
  bx : BxF W X (.slice none 0 0) (.slice none 0 0) (.slice none 0 0)
  by_ : BxF W Y v0 v1 v2
  asd : Aside R w0 W
  hX : X = w0.heap.size
  hXY : X < Y
  hR : R < X
  hb : b < X
theorem ScnS.call {w0 W W' : World} {R b off c i i' X Y : Nat} {bs : List Int} {v0 v1 v2 : Value} (h : ScnS w0 R b off c bs i X Y v0 v1 v2 W) (hr : RdB W' R b off c bs i') (ha : Aside R W W') : ScnS w0 R b off c bs i' X Y v0 v1 v2 W' :=
  ⟨hr, h.bx.aside ha (by have := h.hR; omega), h.by_.aside ha (by have := h.hR; have := h.hXY; omega), h.asd.trans ha, h.hX, h.hXY, h.hR, h.hb⟩
theorem ScnS.put0 {w0 W : World} {R b off c i X Y : Nat} {bs : List Int} {v0 v1 v2 : Value} (h : ScnS w0 R b off c bs i X Y v0 v1 v2 W) (v : Value) : ScnS w0 R b off c bs i X Y v v1 v2 (W.setCell ⟨Y, 0, none⟩ v) := by
  have h1 := h.hX
  have h2 := h.hXY
  have h3 := h.hR
  have h4 := h.hb
  exact ⟨h.rd.other (by omega) (by omega) _ _, h.bx.other (by omega) _ _, h.by_.set0 v, h.asd.setHigh (p := ⟨Y, 0, none⟩) (by show w0.heap.size ≤ Y; omega) _, h1, h2, h3, h4⟩
theorem ScnS.put1 {w0 W : World} {R b off c i X Y : Nat} {bs : List Int} {v0 v1 v2 : Value} (h : ScnS w0 R b off c bs i X Y v0 v1 v2 W) (v : Value) : ScnS w0 R b off c bs i X Y v0 v v2 (W.setCell ⟨Y, 1, none⟩ v) := by
  have h1 := h.hX
  have h2 := h.hXY
  have h3 := h.hR
  have h4 := h.hb
  exact ⟨h.rd.other (by omega) (by omega) _ _, h.bx.other (by omega) _ _, h.by_.set1 v, h.asd.setHigh (p := ⟨Y, 1, none⟩) (by show w0.heap.size ≤ Y; omega) _, h1, h2, h3, h4⟩
theorem ScnS.put2 {w0 W : World} {R b off c i X Y : Nat} {bs : List Int} {v0 v1 v2 : Value} (h : ScnS w0 R b off c bs i X Y v0 v1 v2 W) (v : Value) : ScnS w0 R b off c bs i X Y v0 v1 v (W.setCell ⟨Y, 2, none⟩ v) := by
  have h1 := h.hX
  have h2 := h.hXY
  have h3 := h.hR
  have h4 := h.hb
  exact ⟨h.rd.other (by omega) (by omega) _ _, h.bx.other (by omega) _ _, h.by_.set2 v, h.asd.setHigh (p := ⟨Y, 2, none⟩) (by show w0.heap.size ≤ Y; omega) _, h1, h2, h3, h4⟩

theorem dec_n {bs : List Int} (hf : (faultF bs).1 = 0) {k n : Nat} (h : cntB bs k = n) : decN bs k = n := by
  unfold decN
  rw [if_pos hf, h]
  exact Int.toNat_natCast _

set_option maxRecDepth 100000 in
set_option maxHeartbeats 4000000 in
theorem scene_any (R b off c : Nat) (bs : List Int) (w : World) (hu : U8 bs) (hb : b < w.heap.size) (h : RdB w R b off c bs 0) :
    Calls Try.prog 69 #[.pointer (some ⟨R, 0, none⟩)] w fun e w' => ScnOut w R bs e w' := by
  have HU : Hid (U8 bs) := hu
  have hlt := h.lt
  have hmf : ∀ (fn : Fn) (first cap : Array Value) (w : World), (Instr.makeFunc fn first cap).run Try.prog w = .ok (.func fn first cap) w := fun _ _ _ _ => rfl
  obtain ⟨W0, hW0⟩ : ∃ W0, W0 = w.alloc (.cells #[.slice none 0 0, .slice none 0 0, .slice none 0 0] 51) := ⟨_, rfl⟩
  have D0 : Hid (RdB W0 R b off c bs 0) := by unfold Hid; rw [hW0]; exact h.later (bel0 _ _)
  have X0 : Hid (BxF W0 w.heap.size (.slice none 0 0) (.slice none 0 0) (.slice none 0 0)) := by unfold Hid; rw [hW0]; exact BxF.new _ _ _ _ _
  have A0 : Hid (Aside R w W0) := by unfold Hid; rw [hW0]; exact Aside.of (bel0 _ _)
  clear h hu
  go_enter Try.func69, Try.ntmps69
  go_wp2_with fail
  rw [← hW0]
  clear hW0
  refine (mark_scen R b off c bs W0 HU.out D0.out).mono ?_
  rintro e w1 (⟨hm, rfl, hrd, has⟩ | ⟨x, hx, rfl, has⟩)
  rotate_left
  · rw [mkF_scen] at hx
    refine ⟨rfl, .inr ⟨?_, by rw [faultF_magic hx]; rfl, A0.out.trans has⟩⟩
    rw [faultF_magic hx]
    exact firstF_prop (fun j x h => mkF_nz (ts := [83, 67, 69, 78]) h) hx
  rw [mkF_scen] at hm
  have HM : Hid (firstF (magicAt bs) 4 = none) := hm
  have D1 : Hid (RdB w1 R b off c bs 4) := hrd
  have X1 : Hid (BxF w1 w.heap.size (.slice none 0 0) (.slice none 0 0) (.slice none 0 0)) := X0.out.aside has (by omega)
  have A1 : Hid (Aside R w w1) := A0.out.trans has
  clear hrd has hm D0 X0 A0
  have e0 : Hid (cntF bs 4 2 ((40 : Nat) : Int) = cntAt bs 0) := cnt_eq HU.out 0
  cases hc0 : cntF bs 4 2 ((40 : Nat) : Int) with
  | some x =>
    have HX : Hid (faultF bs = x) := faultF_counts HM.out (firstF_hit (by decide) (show firstF (cntAt bs) 0 = none from rfl) (by rw [← e0.out]; exact hc0))
    go_wp2_with fail
    refine (count_bad R b off c bs 4 2 40 x _ HU.out (by decide) hc0 D1.out).mono ?_
    rintro e V ⟨rfl, has⟩
    exact ⟨rfl, .inr ⟨by rw [HX.out]; exact cntF_nz hc0, by rw [HX.out]; rfl, A1.out.trans has⟩⟩
  | none =>
  have C0 : Hid (firstF (cntAt bs) (0 + 1) = none) := firstF_succ (show firstF (cntAt bs) 0 = none from rfl) (by rw [← e0.out]; exact hc0)
  have K0 := cntF_ok hc0
  obtain ⟨n0, hn0⟩ : ∃ n : Nat, numB bs 4 2 = n := ⟨(numB bs 4 2).toNat, (Int.toNat_of_nonneg (numB_full HU.out (by decide) K0.1)).symm⟩
  have l0 : n0 ≤ 40 := by have := K0.2; rw [hn0] at this; omega
  have N0 : Hid (cntB bs 0 = n0) := hn0
  go_wp2_with fail
  refine (count_ok R b off c bs 4 2 40 _ HU.out (by decide) hc0 D1.out).mono ?_
  rintro e w2 ⟨rfl, hrd, has⟩
  rw [hn0]
  have D2 : Hid (RdB w2 R b off c bs (4 + 2)) := hrd
  have X2 : Hid (BxF w2 w.heap.size (.slice none 0 0) (.slice none 0 0) (.slice none 0 0)) := X1.out.aside has (by omega)
  have A2 : Hid (Aside R w w2) := A1.out.trans has
  clear hrd has hc0 hn0 K0 D1 X1 A1
  have e1 : Hid (cntF bs 6 2 ((40 : Nat) : Int) = cntAt bs 1) := cnt_eq HU.out 1
  cases hc1 : cntF bs 6 2 ((40 : Nat) : Int) with
  | some x =>
    have HX : Hid (faultF bs = x) := faultF_counts HM.out (firstF_hit (by decide) (show firstF (cntAt bs) 1 = none from C0.out) (by rw [← e1.out]; exact hc1))
    go_wp2_with fail
    refine (count_bad R b off c bs 6 2 40 x _ HU.out (by decide) hc1 D2.out).mono ?_
    rintro e V ⟨rfl, has⟩
    exact ⟨rfl, .inr ⟨by rw [HX.out]; exact cntF_nz hc1, by rw [HX.out]; rfl, A2.out.trans has⟩⟩
  | none =>
  have C1 : Hid (firstF (cntAt bs) (1 + 1) = none) := firstF_succ (show firstF (cntAt bs) 1 = none from C0.out) (by rw [← e1.out]; exact hc1)
  have K1 := cntF_ok hc1
  obtain ⟨n1, hn1⟩ : ∃ n : Nat, numB bs 6 2 = n := ⟨(numB bs 6 2).toNat, (Int.toNat_of_nonneg (numB_full HU.out (by decide) K1.1)).symm⟩
  have l1 : n1 ≤ 40 := by have := K1.2; rw [hn1] at this; omega
  have N1 : Hid (cntB bs 1 = n1) := hn1
  go_wp2_with fail
  refine (count_ok R b off c bs 6 2 40 _ HU.out (by decide) hc1 D2.out).mono ?_
  rintro e w3 ⟨rfl, hrd, has⟩
  rw [hn1]
  have D3 : Hid (RdB w3 R b off c bs (6 + 2)) := hrd
  have X3 : Hid (BxF w3 w.heap.size (.slice none 0 0) (.slice none 0 0) (.slice none 0 0)) := X2.out.aside has (by omega)
  have A3 : Hid (Aside R w w3) := A2.out.trans has
  clear hrd has hc1 hn1 K1 D2 X2 A2
  have e2 : Hid (cntF bs 8 1 ((4 : Nat) : Int) = cntAt bs 2) := cnt_eq HU.out 2
  cases hc2 : cntF bs 8 1 ((4 : Nat) : Int) with
  | some x =>
    have HX : Hid (faultF bs = x) := faultF_counts HM.out (firstF_hit (by decide) (show firstF (cntAt bs) 2 = none from C1.out) (by rw [← e2.out]; exact hc2))
    go_wp2_with fail
    refine (count_bad R b off c bs 8 1 4 x _ HU.out (by decide) hc2 D3.out).mono ?_
    rintro e V ⟨rfl, has⟩
    exact ⟨rfl, .inr ⟨by rw [HX.out]; exact cntF_nz hc2, by rw [HX.out]; rfl, A3.out.trans has⟩⟩
  | none =>
  have C2 : Hid (firstF (cntAt bs) (2 + 1) = none) := firstF_succ (show firstF (cntAt bs) 2 = none from C1.out) (by rw [← e2.out]; exact hc2)
  have K2 := cntF_ok hc2
  obtain ⟨n2, hn2⟩ : ∃ n : Nat, numB bs 8 1 = n := ⟨(numB bs 8 1).toNat, (Int.toNat_of_nonneg (numB_full HU.out (by decide) K2.1)).symm⟩
  have l2 : n2 ≤ 4 := by have := K2.2; rw [hn2] at this; omega
  have N2 : Hid (cntB bs 2 = n2) := hn2
  go_wp2_with fail
  refine (count_ok R b off c bs 8 1 4 _ HU.out (by decide) hc2 D3.out).mono ?_
  rintro e w4 ⟨rfl, hrd, has⟩
  rw [hn2]
  have D4 : Hid (RdB w4 R b off c bs (8 + 1)) := hrd
  have X4 : Hid (BxF w4 w.heap.size (.slice none 0 0) (.slice none 0 0) (.slice none 0 0)) := X3.out.aside has (by omega)
  have A4 : Hid (Aside R w w4) := A3.out.trans has
  clear hrd has hc2 hn2 K2 D3 X3 A3
  have HF0 : Hid (faultF bs = tailF bs n0 n1 n2) := by
    have h1 := faultF_tail HM.out (show firstF (cntAt bs) 3 = none from C2.out)
    rw [N0.out, N1.out, N2.out, Int.toNat_natCast, Int.toNat_natCast, Int.toNat_natCast] at h1
    exact h1
  have HSP : Hid (firstF (fltAt bs n0 n1) (fltN n0 n1 n2) = orF (firstF (fun j => triF bs (9 + 4 * 9 * j)) n0) (orF (firstF (fun j => rayF bs (9 + 36 * n0 + 4 * 6 * j)) n1) (firstF (fun j => ptF bs (9 + 36 * n0 + 24 * n1 + 4 * 3 * j)) n2))) := tail_split HU.out n0 n1 n2
  obtain ⟨W4, hW4⟩ : ∃ W4, W4 = w4.alloc (.cells #[.slice none 0 0, .slice none 0 0, .slice none 0 0] 51) := ⟨_, rfl⟩
  have hwl : w.heap.size < w4.heap.size := X4.out.lt
  have S4 : Hid (ScnS w R b off c bs 9 w.heap.size w4.heap.size (.slice none 0 0) (.slice none 0 0) (.slice none 0 0) W4) := by
    unfold Hid
    rw [hW4]
    exact ⟨D4.out.later (bel0 _ _), X4.out.aside (Aside.of (P := R) (bel0 _ _)) (by omega), BxF.new _ _ _ _ _, A4.out.trans (Aside.of (bel0 _ _)), rfl, hwl, hlt, hb⟩
  have Z4 : Hid (W4.heap.size = w4.heap.size + 1) := by unfold Hid; rw [hW4]; simp
  clear D4 X4 A4 e0 e1 e2 C0 C1 C2 HM
  go_wp2_with fail
  rw [← hW4]
  clear hW4
  refine (several_tri R b off c bs (9) n0 W4 HU.out (by omega) (by have := S4.out.bx.lt; omega) S4.out.rd).mono ?_
  rintro e w5 (⟨hx, v, rfl, hv⟩ | ⟨x, hx, rfl, has⟩)
  rotate_left
  · have HX : faultF bs = x := by rw [HF0.out]; exact tailF_hit (by rw [HSP.out, hx]; rfl)
    refine ⟨rfl, .inr ⟨by rw [HX]; exact firstF_prop (fun j x h => triF_nz h) hx, by rw [HX]; rfl, S4.out.asd.trans has⟩⟩
  obtain ⟨a0, k0, rfl, hr0⟩ := own_flat hv.own (by rw [numsB_length])
  have T0 : Hid (firstF (fun j => triF bs (9 + 4 * 9 * j)) n0 = none) := hx
  have G0 := S4.out.call (by have := hv.rd; rw [show 9 + 4 * 9 * n0 = 9 + 36 * n0 by omega] at this; exact this) hv.asd
  have S5 : Hid (ScnS w R b off c bs (9 + 36 * n0) w.heap.size w4.heap.size (.slice a0 n0 k0) (.slice none 0 0) (.slice none 0 0) (w5.setCell ⟨w4.heap.size, 0, none⟩ (.slice a0 n0 k0))) := G0.put0 _
  have g0 := G0.by_.q0
  have g1 := G0.by_.fr 0
  have R0 : Hid (RowIn .u32 (w5.setCell ⟨w4.heap.size, 0, none⟩ (.slice a0 n0 k0)) W4.heap.size w5.heap.size a0 (numsB bs (9) (n0 * 9))) := rowIn_aside hr0 ((Aside.refl w4.heap.size _).set _ _) (by have := S4.out.by_.lt; omega)
  have Q0 : Hid (w4.heap.size < W4.heap.size ∧ W4.heap.size ≤ w5.heap.size) := ⟨S4.out.by_.lt, hv.asd.size⟩
  obtain ⟨W5, hW⟩ : ∃ W, W = w5.setCell ⟨w4.heap.size, 0, none⟩ (.slice a0 n0 k0) := ⟨_, rfl⟩
  have Y0 : Hid (W5.heap.size = w5.heap.size) := by unfold Hid; rw [hW]; simp
  rw [← hW] at S5 R0
  clear hr0 hv hx G0
  go_wp2_with fail
  rw [← hW]
  clear hW g0 g1
  refine (several_ray R b off c bs (9 + 36 * n0) n1 W5 HU.out (by omega) (by have := S5.out.bx.lt; omega) S5.out.rd).mono ?_
  rintro e w6 (⟨hx, v, rfl, hv⟩ | ⟨x, hx, rfl, has⟩)
  rotate_left
  · have HX : faultF bs = x := by rw [HF0.out]; exact tailF_hit (by rw [HSP.out, T0.out, hx]; rfl)
    refine ⟨rfl, .inr ⟨by rw [HX]; exact firstF_prop (fun j x h => rayF_nz h) hx, by rw [HX]; rfl, S5.out.asd.trans has⟩⟩
  obtain ⟨a1, k1, rfl, hr1⟩ := own_flat hv.own (by rw [numsB_length])
  have T1 : Hid (firstF (fun j => rayF bs (9 + 36 * n0 + 4 * 6 * j)) n1 = none) := hx
  have G1 := S5.out.call (by have := hv.rd; rw [show 9 + 36 * n0 + 4 * 6 * n1 = 9 + 36 * n0 + 24 * n1 by omega] at this; exact this) hv.asd
  have S6 : Hid (ScnS w R b off c bs (9 + 36 * n0 + 24 * n1) w.heap.size w4.heap.size (.slice a0 n0 k0) (.slice a1 n1 k1) (.slice none 0 0) (w6.setCell ⟨w4.heap.size, 1, none⟩ (.slice a1 n1 k1))) := G1.put1 _
  have g0 := G1.by_.q1
  have g1 := G1.by_.fr 1
  have R1 : Hid (RowIn .u32 (w6.setCell ⟨w4.heap.size, 1, none⟩ (.slice a1 n1 k1)) W5.heap.size w6.heap.size a1 (numsB bs (9 + 36 * n0) (n1 * 6))) := rowIn_aside hr1 ((Aside.refl w4.heap.size _).set _ _) (by have := S5.out.by_.lt; omega)
  have R0' : Hid (RowIn .u32 (w6.setCell ⟨w4.heap.size, 1, none⟩ (.slice a1 n1 k1)) W4.heap.size w5.heap.size a0 (numsB bs (9) (n0 * 9))) := rowIn_aside (rowIn_aside R0.out hv.asd (by have := S4.out.by_.lt; have := Q0.out; omega)) ((Aside.refl w4.heap.size _).set _ _) (by have := S4.out.by_.lt; have := Q0.out; omega)
  have Q1 : Hid (w4.heap.size < W5.heap.size ∧ W5.heap.size ≤ w6.heap.size) := ⟨S5.out.by_.lt, hv.asd.size⟩
  clear R0
  have R0 := R0'
  clear R0'
  obtain ⟨W6, hW⟩ : ∃ W, W = w6.setCell ⟨w4.heap.size, 1, none⟩ (.slice a1 n1 k1) := ⟨_, rfl⟩
  have Y1 : Hid (W6.heap.size = w6.heap.size) := by unfold Hid; rw [hW]; simp
  rw [← hW] at S6 R0 R1
  clear hr1 hv hx G1
  go_wp2_with fail
  rw [← hW]
  clear hW g0 g1
  refine (several_point R b off c bs (9 + 36 * n0 + 24 * n1) n2 W6 HU.out (by omega) (by have := S6.out.bx.lt; omega) S6.out.rd).mono ?_
  rintro e w7 (⟨hx, v, rfl, hv⟩ | ⟨x, hx, rfl, has⟩)
  rotate_left
  · have HX : faultF bs = x := by rw [HF0.out]; exact tailF_hit (by rw [HSP.out, T0.out, T1.out, hx]; rfl)
    refine ⟨rfl, .inr ⟨by rw [HX]; exact firstF_prop (fun j x h => ptF_nz h) hx, by rw [HX]; rfl, S6.out.asd.trans has⟩⟩
  obtain ⟨a2, k2, rfl, hr2⟩ := own_flat hv.own (by rw [numsB_length])
  have T2 : Hid (firstF (fun j => ptF bs (9 + 36 * n0 + 24 * n1 + 4 * 3 * j)) n2 = none) := hx
  have G2 := S6.out.call (by have := hv.rd; rw [show 9 + 36 * n0 + 24 * n1 + 4 * 3 * n2 = 9 + 36 * n0 + 24 * n1 + 12 * n2 by omega] at this; exact this) hv.asd
  have S7 : Hid (ScnS w R b off c bs (9 + 36 * n0 + 24 * n1 + 12 * n2) w.heap.size w4.heap.size (.slice a0 n0 k0) (.slice a1 n1 k1) (.slice a2 n2 k2) (w7.setCell ⟨w4.heap.size, 2, none⟩ (.slice a2 n2 k2))) := G2.put2 _
  have g0 := G2.by_.q2
  have g1 := G2.by_.fr 2
  have R2 : Hid (RowIn .u32 (w7.setCell ⟨w4.heap.size, 2, none⟩ (.slice a2 n2 k2)) W6.heap.size w7.heap.size a2 (numsB bs (9 + 36 * n0 + 24 * n1) (n2 * 3))) := rowIn_aside hr2 ((Aside.refl w4.heap.size _).set _ _) (by have := S6.out.by_.lt; omega)
  have R0' : Hid (RowIn .u32 (w7.setCell ⟨w4.heap.size, 2, none⟩ (.slice a2 n2 k2)) W4.heap.size w5.heap.size a0 (numsB bs (9) (n0 * 9))) := rowIn_aside (rowIn_aside R0.out hv.asd (by have := S4.out.by_.lt; have := Q0.out; omega)) ((Aside.refl w4.heap.size _).set _ _) (by have := S4.out.by_.lt; have := Q0.out; omega)
  have R1' : Hid (RowIn .u32 (w7.setCell ⟨w4.heap.size, 2, none⟩ (.slice a2 n2 k2)) W5.heap.size w6.heap.size a1 (numsB bs (9 + 36 * n0) (n1 * 6))) := rowIn_aside (rowIn_aside R1.out hv.asd (by have := S4.out.by_.lt; have := Q1.out; omega)) ((Aside.refl w4.heap.size _).set _ _) (by have := S4.out.by_.lt; have := Q1.out; omega)
  have Q2 : Hid (w4.heap.size < W6.heap.size ∧ W6.heap.size ≤ w7.heap.size) := ⟨S6.out.by_.lt, hv.asd.size⟩
  clear R0
  have R0 := R0'
  clear R0'
  clear R1
  have R1 := R1'
  clear R1'
  obtain ⟨W7, hW⟩ : ∃ W, W = w7.setCell ⟨w4.heap.size, 2, none⟩ (.slice a2 n2 k2) := ⟨_, rfl⟩
  have Y2 : Hid (W7.heap.size = w7.heap.size) := by unfold Hid; rw [hW]; simp
  rw [← hW] at S7 R0 R1 R2
  have HFN : Hid (firstF (fltAt bs n0 n1) (fltN n0 n1 n2) = none) := by unfold Hid; rw [HSP.out, T0.out, T1.out, T2.out]; rfl
  have hne : w.heap.size ≠ w4.heap.size := by omega
  clear hr2 hv hx G2
  go_wp2
  rw [← hW]
  clear hW g0 g1
  have p0 := S7.out.rd.c0
  have p1 := S7.out.rd.c1
  have hsm := S7.out.rd.sm
  by_cases hend : 9 + 36 * n0 + 24 * n1 + 12 * n2 < bs.length
  · have HX : Hid (faultF bs = (8, ((9 + 36 * n0 + 24 * n1 + 12 * n2 : Nat) : Int))) := by
      unfold Hid
      rw [HF0.out, tailF_none HFN.out, if_pos (by unfold fltN; omega)]
      unfold fltN
      rw [show 9 + 4 * (9 * n0 + 6 * n1 + 3 * n2) = 9 + 36 * n0 + 24 * n1 + 12 * n2 by omega]
    obtain ⟨m, hm⟩ : ∃ m, m = 9 + 36 * n0 + 24 * n1 + 12 * n2 := ⟨_, rfl⟩
    rw [← hm] at HX p1 hend
    clear hm
    have hlt1 : (m : Int) < bs.length := by omega
    go_quiet (fail)
    go_wp2
    exact ⟨rfl, .inr ⟨by rw [HX.out]; show (8 : Int) ≠ 0; decide, by rw [HX.out]; rfl, S7.out.asd.trans (Aside.of (below_drewN (Below.refl _ _) _))⟩⟩
  · have HX : Hid (faultF bs = (0, 0)) := by
      unfold Hid
      rw [HF0.out, tailF_none HFN.out, if_neg (by unfold fltN; omega)]
    obtain ⟨m, hm⟩ : ∃ m, m = 9 + 36 * n0 + 24 * n1 + 12 * n2 := ⟨_, rfl⟩
    rw [← hm] at p1 hend
    clear hm
    have hlt1 : ¬ ((m : Int) < bs.length) := by omega
    have x0 := S7.out.bx.q0
    have x1 := S7.out.bx.q1
    have x2 := S7.out.bx.q2
    have f0 := S7.out.bx.fr 0
    have f1 := S7.out.bx.fr 1
    have f2 := S7.out.bx.fr 2
    have y0 := S7.out.by_.q0
    have y1 := S7.out.by_.q1
    have y2 := S7.out.by_.q2
    go_quiet (fail)
    go_wp2
    refine bodyPost_ret (v := .agg #[.slice a0 n0 k0, .slice a1 n1 k1, .slice a2 n2 k2]) (by simp [results, Try.results69, go_sem, x0, x1, x2]) rfl ?_
    have hf : (faultF bs).1 = 0 := by rw [HX.out]
    have q0 := Q0.out
    have q1 := Q1.out
    have q2 := Q2.out
    have t0 := Y0.out
    have t1 := Y1.out
    have t2 := Y2.out
    have t4 := Z4.out
    have d0 := dec_n hf N0.out
    have d1 := dec_n hf N1.out
    have d2 := dec_n hf N2.out
    refine .inl ⟨hf, a0, a1, a2, k0, k1, k2, W4.heap.size, w5.heap.size, W5.heap.size, w6.heap.size, W6.heap.size, w7.heap.size, ?_, ?_, ?_⟩
    · rw [d0, d1, d2]
    · unfold decZ1 decZ2 decZ3
      rw [d0, d1, d2]
      have key : ∀ {lo hi : Nat} {a : Option Addr} {zs : List Int}, RowIn .u32 W7 lo hi a zs → w.heap.size < lo → RowIn .u32 ((((W7.drewN nq).setCell ⟨w.heap.size, 0, none⟩ (.slice a0 n0 k0)).setCell ⟨w.heap.size, 1, none⟩ (.slice a1 n1 k1)).setCell ⟨w.heap.size, 2, none⟩ (.slice a2 n2 k2)) lo hi a zs := by
        intro lo hi a zs hr hl
        exact rowIn_aside (rowIn_aside (rowIn_aside (rowIn_aside hr (Aside.of (P := w.heap.size) (below_drewN (Below.refl _ _) nq)) hl) ((Aside.refl w.heap.size _).set 0 _) hl) ((Aside.refl w.heap.size _).set 1 _) hl) ((Aside.refl w.heap.size _).set 2 _) hl
      have hz : ((((W7.drewN nq).setCell ⟨w.heap.size, 0, none⟩ (.slice a0 n0 k0)).setCell ⟨w.heap.size, 1, none⟩ (.slice a1 n1 k1)).setCell ⟨w.heap.size, 2, none⟩ (.slice a2 n2 k2)).heap.size = W7.heap.size := by simp
      refine ⟨numsB_length _ _ _, numsB_length _ _ _, numsB_length _ _ _, ⟨by omega, by rw [hz]; omega⟩, ⟨by omega, by rw [hz]; omega⟩, ⟨by omega, by rw [hz]; omega⟩, .inl (by omega), .inl (by omega), .inl (by omega), Nat.le_refl _, key R0.out (by omega), key R1.out (by omega), key R2.out (by omega)⟩
    · exact (((S7.out.asd.trans (Aside.of (below_drewN (Below.refl _ _) nq))).setHigh (p := ⟨w.heap.size, 0, none⟩) (Nat.le_refl _) _).setHigh (p := ⟨w.heap.size, 1, none⟩) (Nat.le_refl _) _).setHigh (p := ⟨w.heap.size, 2, none⟩) (Nat.le_refl _) _

theorem scene_none (R : Nat) (a : Option Addr) (c : Nat) (w : World) (c0 : w.cell? ⟨R, 0, none⟩ = some (.slice a 0 c)) (c1 : w.cell? ⟨R, 1, none⟩ = some (.int .i64 0)) (hR : R < w.heap.size) :
    Calls Try.prog 69 #[.pointer (some ⟨R, 0, none⟩)] w fun e w' => ThrowOut w R (5, 0) e w' := by
  go_enter Try.func69, Try.ntmps69
  go_wp2_with fail
  refine (mark_scen_none R a c _ (((bcell (bel0 w _)).1 _ _ hR).trans c0) (((bcell (bel0 w _)).1 _ _ hR).trans c1)).mono ?_
  rintro e V ⟨rfl, has⟩
  exact ⟨rfl, rfl, (Aside.of (bel0 _ _)).trans has⟩

end Go.Proofs.Ytcjdnomhnlbmbaa

/-
  The program's reader: picture.
-/
namespace Go.Proofs.Ytcjdnomhnlbmbaa
open Go.RowKit

theorem rowF_aside {w w' : World} {lo hi R : Nat} {a : Option Addr} {n : Nat} {f : Nat → Value} (h : RowFIn w lo hi a n f) (ha : Aside R w w') (hR : R < lo) : RowFIn w' lo hi a n f := by
  rcases h with h | ⟨b, off, q1, q0, q00, q2, q3, q4⟩
  · exact .inl h
  · exact .inr ⟨b, off, q1, q0, q00, Nat.lt_of_lt_of_le q2 ha.size, fun j hj => (ha.cell (p := ⟨b, off + j, none⟩) q2 (by simp; omega)).trans (q3 j hj), fun j hj => (ha.frozen (p := ⟨b, off + j, none⟩) q2 (by simp; omega)).trans (q4 j hj)⟩

/-- An id, as it is read. -/
def idr (bs : List Int) (i : Nat) : Int := sgn32 (numB bs (7 + 4 * i) 4)

theorem IsPic.len {bs : List Int} {n1 n3 : Nat} {g : Nat → Int} {L : Int} {h : Nat → Bool} (p : IsPic bs n1 n3 g L h) : bs.length = 7 + 4 * n1 + (n3 + 7) / 8 := by
  rw [← p.enc]
  unfold encPc
  rw [List.length_append, List.length_append, headP_length, idsB_length, litB_length]
  omega
theorem IsPic.mark {bs : List Int} {n1 n3 : Nat} {g : Nat → Int} {L : Int} {h : Nat → Bool} (p : IsPic bs n1 n3 g L h) : firstF (mkF [80, 73, 67, 84] bs) 4 = none := by
  have hl := p.len
  have key : ∀ i, i < 4 → bs.getD i 0 = ([80, 73, 67, 84] : List Int).getD i 0 := by
    intro i hi
    rw [← p.enc]
    unfold encPc headP
    rw [show [80, 73, 67, 84] ++ leB (n1 : Int) 2 ++ leB L 1 ++ idsB g n1 ++ litB n3 h ((n3 + 7) / 8) = [80, 73, 67, 84] ++ (leB (n1 : Int) 2 ++ (leB L 1 ++ (idsB g n1 ++ litB n3 h ((n3 + 7) / 8)))) by simp only [List.append_assoc]]
    rw [List.getD_eq_getElem?_getD, List.getD_eq_getElem?_getD, List.getElem?_append_left (by simpa using hi)]
  have k : ∀ i, i < 4 → mkF [80, 73, 67, 84] bs i = none := by
    intro i hi
    unfold mkF
    rw [if_neg (by omega), if_pos (key i hi)]
  exact firstF_succ (firstF_succ (firstF_succ (firstF_succ rfl (k 0 (by decide))) (k 1 (by decide))) (k 2 (by decide))) (k 3 (by decide))
theorem IsPic.cnt {bs : List Int} {n1 n3 : Nat} {g : Nat → Int} {L : Int} {h : Nat → Bool} (p : IsPic bs n1 n3 g L h) : cntF bs 4 2 ((40 : Nat) : Int) = none ∧ cntF bs 6 1 ((4 : Nat) : Int) = none := by
  have hl := p.len
  have hb := p.bounds
  constructor
  · unfold cntF
    rw [if_neg (by omega), p.count, if_neg (by omega)]
  · unfold cntF
    rw [if_neg (by omega), p.lights, if_neg (by omega)]

theorem shF_nz {bs : List Int} {i size : Nat} {x : Int × Int} (h : shF bs i size = some x) : x.1 ≠ 0 := by
  obtain ⟨_, rfl⟩ := shF_bad h
  show (5 : Int) ≠ 0
  decide

/-- A picture that is read. -/
structure PicR (bs : List Int) (N Lt M : Nat) : Prop where
  n : (N : Int) = numB bs 4 2
  l : (Lt : Int) = numB bs 6 1
  n40 : N ≤ 40
  l4 : Lt ≤ 4
  m : M = N * Lt
theorem PicR.same {bs : List Int} {N Lt M n1 n3 : Nat} {g : Nat → Int} {L : Int} {h : Nat → Bool} (q : PicR bs N Lt M) (p : IsPic bs n1 n3 g L h) : n1 = N ∧ n3 = M := by
  have h1 : n1 = N := by have h1 := p.count; have h2 := q.n; omega
  subst h1
  refine ⟨rfl, ?_⟩
  have h2 := p.bounds.2.2.2.1
  have h3 := p.lights
  have h4 := q.l
  rw [← h4] at h3
  rw [← h3] at h2
  rw [q.m]
  exact_mod_cast h2

/-- What picture answers, or throws. -/
def PctOut (w : World) (R : Nat) (bs : List Int) (e : Ending) (w' : World) : Prop :=
  (∃ N Lt M aI aB cI cB l1 h1 l3 h3, PicR bs N Lt M ∧ e = .returned (.agg #[.slice aI N cI, .int .i64 Lt, .slice aB M cB]) ∧ PcDj w' w.heap.size w'.heap.size aI aB N M (idr bs) (bitv bs N) l1 h1 l3 h3 ∧ Aside R w w') ∨
  ∃ x : Int × Int, x.1 ≠ 0 ∧ (∀ n1 n3 g L h, ¬ IsPic bs n1 n3 g L h) ∧ ThrowOut w R x e w'

/-- Memory while a picture is read. -/
structure PcnS (w0 : World) (R b off c : Nat) (bs : List Int) (i X Y : Nat) (v0 v1 v2 : Value) (W : World) : Prop where
  rd : RdB W R b off c bs i
  bx : BxF W X (.slice none 0 0) (.int .i64 0) (.slice none 0 0)
  by_ : BxF W Y v0 v1 v2
  asd : Aside R w0 W
  hX : X = w0.heap.size
  hXY : X < Y
  hR : R < X
  hb : b < X
theorem PcnS.call {w0 W W' : World} {R b off c i i' X Y : Nat} {bs : List Int} {v0 v1 v2 : Value} (h : PcnS w0 R b off c bs i X Y v0 v1 v2 W) (hr : RdB W' R b off c bs i') (ha : Aside R W W') : PcnS w0 R b off c bs i' X Y v0 v1 v2 W' :=
  ⟨hr, h.bx.aside ha (by have := h.hR; omega), h.by_.aside ha (by have := h.hR; have := h.hXY; omega), h.asd.trans ha, h.hX, h.hXY, h.hR, h.hb⟩
theorem PcnS.put {w0 W : World} {R b off c i X Y : Nat} {bs : List Int} {v0 v1 v2 u0 u1 u2 : Value} (h : PcnS w0 R b off c bs i X Y v0 v1 v2 W) (j : Nat) (v : Value) (hy : BxF (W.setCell ⟨Y, j, none⟩ v) Y u0 u1 u2) : PcnS w0 R b off c bs i X Y u0 u1 u2 (W.setCell ⟨Y, j, none⟩ v) := by
  have h1 := h.hX
  have h2 := h.hXY
  have h3 := h.hR
  have h4 := h.hb
  exact ⟨h.rd.other (by omega) (by omega) _ _, h.bx.other (by omega) _ _, hy, h.asd.setHigh (p := ⟨Y, j, none⟩) (by show w0.heap.size ≤ Y; omega) _, h1, h2, h3, h4⟩

set_option maxRecDepth 100000 in
set_option maxHeartbeats 4000000 in
theorem picture_any (R b off c : Nat) (bs : List Int) (w : World) (hu : U8 bs) (hb : b < w.heap.size) (h : RdB w R b off c bs 0) :
    Calls Try.prog 36 #[.pointer (some ⟨R, 0, none⟩)] w fun e w' => PctOut w R bs e w' := by
  have HU : Hid (U8 bs) := hu
  have hlt := h.lt
  have hmf : ∀ (fn : Fn) (first cap : Array Value) (w : World), (Instr.makeFunc fn first cap).run Try.prog w = .ok (.func fn first cap) w := fun _ _ _ _ => rfl
  obtain ⟨W0, hW0⟩ : ∃ W0, W0 = w.alloc (.cells #[.slice none 0 0, .int .i64 0, .slice none 0 0] 26) := ⟨_, rfl⟩
  have D0 : Hid (RdB W0 R b off c bs 0) := by unfold Hid; rw [hW0]; exact h.later (bel0 _ _)
  have X0 : Hid (BxF W0 w.heap.size (.slice none 0 0) (.int .i64 0) (.slice none 0 0)) := by unfold Hid; rw [hW0]; exact BxF.new _ _ _ _ _
  have A0 : Hid (Aside R w W0) := by unfold Hid; rw [hW0]; exact Aside.of (bel0 _ _)
  clear h hu
  go_enter Try.func36, Try.ntmps36
  go_wp2_with fail
  rw [← hW0]
  clear hW0
  refine (mark_pict R b off c bs W0 HU.out D0.out).mono ?_
  rintro e w1 (⟨hm, rfl, hrd, has⟩ | ⟨x, hx, rfl, has⟩)
  rotate_left
  · exact ⟨rfl, .inr ⟨x, firstF_prop (fun j x h => mkF_nz h) hx, fun n1 n3 g L h p => (by have := p.mark; rw [hx] at this; cases this), rfl, A0.out.trans has⟩⟩
  have D1 : Hid (RdB w1 R b off c bs 4) := hrd
  have X1 : Hid (BxF w1 w.heap.size (.slice none 0 0) (.int .i64 0) (.slice none 0 0)) := X0.out.aside has (by omega)
  have A1 : Hid (Aside R w w1) := A0.out.trans has
  clear hrd has hm D0 X0 A0
  cases hc0 : cntF bs 4 2 ((40 : Nat) : Int) with
  | some x =>
    go_wp2_with fail
    refine (count_bad R b off c bs 4 2 40 x _ HU.out (by decide) hc0 D1.out).mono ?_
    rintro e V ⟨rfl, has⟩
    exact ⟨rfl, .inr ⟨x, cntF_nz hc0, fun n1 n3 g L h p => (by have := p.cnt.1; rw [hc0] at this; cases this), rfl, A1.out.trans has⟩⟩
  | none =>
  have K0 := cntF_ok hc0
  obtain ⟨N, hn0⟩ : ∃ n : Nat, numB bs 4 2 = n := ⟨(numB bs 4 2).toNat, (Int.toNat_of_nonneg (numB_full HU.out (by decide) K0.1)).symm⟩
  have l0 : N ≤ 40 := by have := K0.2; rw [hn0] at this; omega
  have N0 : Hid (numB bs 4 2 = N) := hn0
  go_wp2_with fail
  refine (count_ok R b off c bs 4 2 40 _ HU.out (by decide) hc0 D1.out).mono ?_
  rintro e w2 ⟨rfl, hrd, has⟩
  rw [hn0]
  obtain ⟨W2, hW2⟩ : ∃ W2, W2 = w2.alloc (.cells #[.slice none 0 0, .int .i64 0, .slice none 0 0] 26) := ⟨_, rfl⟩
  have X2 := X1.out.aside has (show w.heap.size ≠ R by omega)
  have hwl : w.heap.size < w2.heap.size := X2.lt
  have S2 : Hid (PcnS w R b off c bs 6 w.heap.size w2.heap.size (.slice none 0 0) (.int .i64 0) (.slice none 0 0) W2) := by
    unfold Hid
    rw [hW2]
    exact ⟨RdB.later hrd (bel0 _ _), X2.aside (Aside.of (P := R) (bel0 _ _)) (by omega), BxF.new _ _ _ _ _, (A1.out.trans has).trans (Aside.of (bel0 _ _)), rfl, hwl, hlt, hb⟩
  have Z2 : Hid (W2.heap.size = w2.heap.size + 1) := by unfold Hid; rw [hW2]; simp
  clear hrd has hc0 hn0 K0 D1 X1 A1 X2
  cases hc1 : cntF bs 6 1 ((4 : Nat) : Int) with
  | some x =>
    go_wp2_with fail
    rw [← hW2]
    refine (count_bad R b off c bs 6 1 4 x _ HU.out (by decide) hc1 S2.out.rd).mono ?_
    rintro e V ⟨rfl, has⟩
    exact ⟨rfl, .inr ⟨x, cntF_nz hc1, fun n1 n3 g L h p => (by have := p.cnt.2; rw [hc1] at this; cases this), rfl, S2.out.asd.trans has⟩⟩
  | none =>
  have K1 := cntF_ok hc1
  obtain ⟨Lt, hn1⟩ : ∃ n : Nat, numB bs 6 1 = n := ⟨(numB bs 6 1).toNat, (Int.toNat_of_nonneg (numB_full HU.out (by decide) K1.1)).symm⟩
  have l1 : Lt ≤ 4 := by have := K1.2; rw [hn1] at this; omega
  obtain ⟨M, hM⟩ : ∃ M, M = N * Lt := ⟨_, rfl⟩
  have PR : Hid (PicR bs N Lt M) := ⟨N0.out.symm, hn1.symm, l0, l1, hM⟩
  have hM1 : M ≤ 160 := by rw [hM]; exact Nat.mul_le_mul l0 l1
  have hMi : (N : Int) * (Lt : Int) = (M : Int) := by rw [hM]; push_cast; rfl
  clear hM
  go_wp2_with fail
  rw [← hW2]
  clear hW2
  refine (count_ok R b off c bs 6 1 4 _ HU.out (by decide) hc1 S2.out.rd).mono ?_
  rintro e w3 ⟨rfl, hrd, has⟩
  rw [hn1]
  have G3 := S2.out.call hrd has
  have g0 := G3.by_.q1
  have g1 := G3.by_.fr 1
  have S3 : Hid (PcnS w R b off c bs 7 w.heap.size w2.heap.size (.slice none 0 0) (.int .i64 Lt) (.slice none 0 0) (w3.setCell ⟨w2.heap.size, 1, none⟩ (.int .i64 Lt))) := G3.put 1 _ (G3.by_.set1 _)
  obtain ⟨W3, hW⟩ : ∃ W, W = w3.setCell ⟨w2.heap.size, 1, none⟩ (.int .i64 (Lt : Int)) := ⟨_, rfl⟩
  rw [← hW] at S3
  have hz3 : w2.heap.size < W3.heap.size := S3.out.by_.lt
  clear hrd has hc1 hn1 K1 G3
  go_wp2_with fail
  rw [← hW]
  clear hW g0 g1
  refine (several_int R b off c bs 7 N W3 HU.out (by omega) (by have := S3.out.bx.lt; omega) S3.out.rd).mono ?_
  rintro e w4 (⟨hx, v, rfl, hv⟩ | ⟨x, hx, rfl, has⟩)
  rotate_left
  · refine ⟨rfl, .inr ⟨x, firstF_prop (P := fun x => x.1 ≠ 0) (fun j x h => shF_nz h) hx, fun n1 n3 g L h p => ?_, rfl, S3.out.asd.trans has⟩⟩
    · have e1 := (PR.out.same p).1
      have e2 := p.len
      have : firstF (fun j => shF bs (7 + 4 * j) 4) N = none := by
        have k : ∀ j, j < N → shF bs (7 + 4 * j) 4 = none := by
          intro j hj
          unfold shF
          rw [if_neg (by omega)]
        clear hx
        have gen : ∀ t, t ≤ N → firstF (fun j => shF bs (7 + 4 * j) 4) t = none := by
          intro t
          induction t with
          | zero => intro _; rfl
          | succ t ih => intro ht; exact firstF_succ (ih (by omega)) (k t (by omega))
        exact gen N (Nat.le_refl _)
      rw [hx] at this
      cases this
  have T0 : Hid (firstF (fun j => shF bs (7 + 4 * j) 4) N = none) := hx
  obtain ⟨aI, cI, rfl, hrI⟩ := own_rowF (n := (idL bs 7 N).length) (f := intF (idr bs)) hv.own (by
    intro j hj
    rw [idL_length] at hj
    simp [vals, idL, hj]
    rfl)
  rw [idL_length] at hrI ⊢
  have G4 := S3.out.call hv.rd hv.asd
  have g0 := G4.by_.q0
  have g1 := G4.by_.fr 0
  have g2 := G4.by_.q1
  have S4 : Hid (PcnS w R b off c bs (7 + 4 * N) w.heap.size w2.heap.size (.slice aI N cI) (.int .i64 Lt) (.slice none 0 0) (w4.setCell ⟨w2.heap.size, 0, none⟩ (.slice aI N cI))) := G4.put 0 _ (G4.by_.set0 _)
  have R4 : Hid (RowFIn (w4.setCell ⟨w2.heap.size, 0, none⟩ (.slice aI N cI)) W3.heap.size w4.heap.size aI N (intF (idr bs))) := rowF_aside hrI ((Aside.refl w2.heap.size _).set _ _) hz3
  have Q4 : Hid (W3.heap.size ≤ w4.heap.size) := hv.asd.size
  obtain ⟨W4, hW⟩ : ∃ W, W = w4.setCell ⟨w2.heap.size, 0, none⟩ (.slice aI N cI) := ⟨_, rfl⟩
  have Y4 : Hid (W4.heap.size = w4.heap.size) := by unfold Hid; rw [hW]; simp
  rw [← hW] at S4 R4
  clear hv hx G4 hrI
  by_cases hend : bs.length < 7 + 4 * N + (M + 7) / 8
  · go_wp2_with fail
    rw [← hW]
    refine (bits_bad R b off c bs (7 + 4 * N) M _ (by omega) hend S4.out.rd).mono ?_
    rintro e V ⟨rfl, has⟩
    refine ⟨rfl, .inr ⟨_, ?_, fun n1 n3 g L h p => ?_, rfl, S4.out.asd.trans has⟩⟩
    · show (5 : Int) ≠ 0
      decide
    · obtain ⟨e1, e3⟩ := PR.out.same p
      have e2 := p.len
      omega
  · go_wp2_with fail
    rw [← hW]
    clear hW g0 g1 g2
    refine (bits_ok R b off c bs (7 + 4 * N) M _ HU.out (by omega) (by have := S4.out.bx.lt; omega) (by omega) S4.out.rd).mono ?_
    rintro e w5 ⟨v, rfl, hv⟩
    obtain ⟨aB, cB, rfl, hrB⟩ := own_rowF (n := M) (f := boolF (bitv bs N)) hv.own (by
      intro j hj
      simp [bitL, hj]
      rfl)
    have G5 := S4.out.call hv.rd hv.asd
    have g0 := G5.by_.q2
    have g1 := G5.by_.fr 2
    have S5 : Hid (PcnS w R b off c bs (7 + 4 * N + (M + 7) / 8) w.heap.size w2.heap.size (.slice aI N cI) (.int .i64 Lt) (.slice aB M cB) (w5.setCell ⟨w2.heap.size, 2, none⟩ (.slice aB M cB))) := G5.put 2 _ (G5.by_.set2 _)
    have R5 : Hid (RowFIn (w5.setCell ⟨w2.heap.size, 2, none⟩ (.slice aB M cB)) W4.heap.size w5.heap.size aB M (boolF (bitv bs N))) := rowF_aside hrB ((Aside.refl w2.heap.size _).set _ _) (S4.out.by_.lt)
    have R4' : Hid (RowFIn (w5.setCell ⟨w2.heap.size, 2, none⟩ (.slice aB M cB)) W3.heap.size w4.heap.size aI N (intF (idr bs))) := rowF_aside (rowF_aside R4.out hv.asd (by omega)) ((Aside.refl w2.heap.size _).set _ _) hz3
    have Q5 : Hid (W4.heap.size ≤ w5.heap.size) := hv.asd.size
    obtain ⟨W5, hW⟩ : ∃ W, W = w5.setCell ⟨w2.heap.size, 2, none⟩ (.slice aB M cB) := ⟨_, rfl⟩
    have Y5 : Hid (W5.heap.size = w5.heap.size) := by unfold Hid; rw [hW]; simp
    have x0 := G5.bx.q0
    have x1 := G5.bx.q1
    have x2 := G5.bx.q2
    have f0 := G5.bx.fr 0
    have f1 := G5.bx.fr 1
    have f2 := G5.bx.fr 2
    have y0 := G5.by_.q0
    have y1 := G5.by_.q1
    have hne : w.heap.size ≠ w2.heap.size := by omega
    clear hv G5 hrB R4
    go_wp2
    rw [← hW] at S5 R5 R4' ⊢
    have x3 := S5.out.bx.q0
    have x4 := S5.out.bx.q1
    have x5 := S5.out.bx.q2
    refine bodyPost_ret (v := .agg #[.slice aI N cI, .int .i64 Lt, .slice aB M cB]) (by simp [results, Try.results36, go_sem, x3, x4, x5]) rfl ?_
    have hz : (((W5.setCell ⟨w.heap.size, 0, none⟩ (.slice aI N cI)).setCell ⟨w.heap.size, 1, none⟩ (.int .i64 Lt)).setCell ⟨w.heap.size, 2, none⟩ (.slice aB M cB)).heap.size = W5.heap.size := by simp
    have key : ∀ {lo hi : Nat} {a : Option Addr} {n : Nat} {f : Nat → Value}, RowFIn W5 lo hi a n f → w.heap.size < lo → RowFIn (((W5.setCell ⟨w.heap.size, 0, none⟩ (.slice aI N cI)).setCell ⟨w.heap.size, 1, none⟩ (.int .i64 Lt)).setCell ⟨w.heap.size, 2, none⟩ (.slice aB M cB)) lo hi a n f := by
      intro lo hi a n f hr hl
      exact rowF_aside (rowF_aside (rowF_aside hr ((Aside.refl w.heap.size _).set 0 _) hl) ((Aside.refl w.heap.size _).set 1 _) hl) ((Aside.refl w.heap.size _).set 2 _) hl
    have q4 := Q4.out
    have q5 := Q5.out
    have t4 := Y4.out
    have t5 := Y5.out
    refine .inl ⟨N, Lt, M, aI, aB, cI, cB, W3.heap.size, w4.heap.size, W4.heap.size, w5.heap.size, PR.out, rfl, ?_, ?_⟩
    · exact ⟨⟨by omega, by rw [hz]; omega⟩, ⟨by omega, by rw [hz]; omega⟩, .inl (by omega), Nat.le_refl _, key R4'.out (by omega), key R5.out (by omega)⟩
    · exact ((S5.out.asd.setHigh (p := ⟨w.heap.size, 0, none⟩) (Nat.le_refl _) _).setHigh (p := ⟨w.heap.size, 1, none⟩) (Nat.le_refl _) _).setHigh (p := ⟨w.heap.size, 2, none⟩) (Nat.le_refl _) _

theorem picture_none (R : Nat) (a : Option Addr) (c : Nat) (w : World) (c0 : w.cell? ⟨R, 0, none⟩ = some (.slice a 0 c)) (c1 : w.cell? ⟨R, 1, none⟩ = some (.int .i64 0)) (hR : R < w.heap.size) :
    Calls Try.prog 36 #[.pointer (some ⟨R, 0, none⟩)] w fun e w' => ThrowOut w R (5, 0) e w' := by
  go_enter Try.func36, Try.ntmps36
  go_wp2_with fail
  refine (mark_pict_none R a c _ (((bcell (bel0 w _)).1 _ _ hR).trans c0) (((bcell (bel0 w _)).1 _ _ hR).trans c1)).mono ?_
  rintro e V ⟨rfl, has⟩
  exact ⟨rfl, rfl, (Aside.of (bel0 _ _)).trans has⟩

end Go.Proofs.Ytcjdnomhnlbmbaa
