/-
  The law of BigShift, walked.
-/
import Derived.Test.YtlbegmepmeimkabLawC
import Derived.Deep.RegionHeld3
import Derived.Test.YtlbegmepmeimkabSpecR
import Derived.Test.YtlbegmepmeimkabImplW
namespace Go.Proofs.Ytlbegmepmeimkab
open Go.RowKit

set_option maxHeartbeats 1000000 in
theorem lawShift_far (g : Bool) (a : Option Addr) (c : Nat) (zs : List Int) (n : Int) (w : World) (hn : zs.length ≤ maxLen) (hl : (1048576 : Int) < zs.length) :
    Calls Try.prog 5 #[.agg #[.bool g, .slice a zs.length c], .int .i64 n] w fun e w' => e = .returned (.bool true) ∧ Below w.heap.size w w' := by
  go_enter Try.func5, Try.ntmps5
  go_wp2_with fail
  refine (szB_any _ _ _ _ _ _ hn (by omega) (by omega)).mono ?_
  rintro e w1 ⟨rfl, hb⟩
  rw [if_pos (by omega)]
  have HB : Hid (Below w.heap.size w w1) := (bel0 _ _).trans (hb.mono (by simp))
  clear hb
  go_wp2
  go_ret
  exact ⟨rfl, HB.out⟩

set_option maxRecDepth 100000 in
set_option maxHeartbeats 16000000 in
theorem lawShift_near (g : Bool) (a : Option Addr) (c : Nat) (zs : List Int) (n : Int) (w : World) (hn : zs.length ≤ maxLen) (hz : RowAt .u32 w a zs) (hu : U32 zs) (hl : ¬ (1048576 : Int) < zs.length) :
    Calls Try.prog 5 #[.agg #[.bool g, .slice a zs.length c], .int .i64 n] w fun e w' => e = .returned (.bool true) ∧ Below w.heap.size w w' := by
  have hm : 0 ≤ 1048576 - (zs.length : Int) := by omega
  have hzl : zs.length ≤ 1048576 := by omega
  go_enter Try.func5, Try.ntmps5
  go_wp2_with fail
  refine (szB_any _ _ _ _ _ _ hn (by omega) (by omega)).mono ?_
  rintro e W0 ⟨rfl, hb⟩
  rw [if_neg (by omega)]
  have F : Hid (Ax w (.bool g) (.slice a zs.length c) W0) := (Ax.start w _ _ _).later hb
  have q0 := F.out.q0
  have q1 := F.out.q1
  have zz := F.out.le
  clear hb
  go_wp2_with fail
  refine (toB_any g a c zs _ hzl (hz.later F.out.bel)).mono ?_
  rintro e W1 ⟨a1, rfl, hr1, hb1⟩
  go_wp2_with fail
  refine (spShift_any g a1 _ zs n _ hzl hr1.row hu).mono ?_
  rintro e W4 ⟨G, Z, K, aw, cw, rfl, hres, hrw, hfar, hb4⟩
  have F4 : Hid (Ax w (.bool g) (.slice a zs.length c) W4) := (F.out.later hb1).later hb4
  have HRes : Hid (Res (validB g zs) (shN (sg g (val 4294967296 zs)) n) G Z K) := hres
  have hZl : Z.length ≤ 512 := hres.len
  obtain ⟨wc, hwc⟩ : ∃ wc, wc = W4.alloc (.cells #[.bool G, .slice aw Z.length cw] 26) := ⟨_, rfl⟩
  have HWC : Hid (wc = W4.alloc (.cells #[.bool G, .slice aw Z.length cw] 26)) := hwc
  have FA : Hid (Ax w (.bool g) (.slice a zs.length c) wc) := by unfold Hid; rw [hwc]; exact F4.out.later (bel0 _ _)
  have HRW : Hid (RowAt .u32 wc aw Z) := by unfold Hid; rw [hwc]; exact hrw.later (bel0 _ _)
  have HB0 : Hid (Bb W4.heap.size (.bool G) (.slice aw Z.length cw) wc) := by unfold Hid; rw [hwc]; exact Bb.start _ _ _ _
  clear q0 q1 zz hwc hres hrw hfar hb1 hb4 hr1 F
  have q0 := F4.out.q0
  have q1 := F4.out.q1
  have z4 := F4.out.le
  go_wp2_with fail
  rw [← HWC.out]
  refine (toB_any g a c zs _ hzl (hz.later FA.out.bel)).mono ?_
  rintro e W5 ⟨a5, rfl, hr5, hb5⟩
  have R5 : Hid (RowNew .u32 W5 wc.heap.size a5 zs) := hr5
  have HB5 : Hid (Below wc.heap.size wc W5) := hb5
  clear q0 q1 z4 hb5 hr5
  go_wp2_with fail
  refine (imShift_any g a5 _ zs n _ hzl (Nat.le_refl _) hn (R5.out.row.later (bel0 _ _)) hu).mono ?_
  rintro e W7 ⟨G7, Z7, K7, ag, cg, rfl, hres7, hrg, hb7⟩
  obtain ⟨eG, eZ, eK⟩ := hres7.inj HRes.out
  subst eG eZ eK
  have F8 : Hid (∀ t2, LC w g a c zs G7 Z7 aw cw a5 ag cg W4.heap.size wc.heap.size W5.heap.size W7.heap.size wc zs Z7 (W7.alloc (.cells #[.bool G7, .slice ag Z7.length cg] t2))) := fun t2 => LC.start FA.out HB0.out F4.out.le HRW.out HB5.out R5.out hb7 (by simpa using hrg)
  have s0 := (F8.out 26).bw.q0
  have s1 := (F8.out 26).bw.q1
  have zT : W4.heap.size < W7.heap.size := by have h1 := (F8.out 26).o1; have h2 := (F8.out 26).oE; have h3 := (F8.out 26).o3; omega
  rw [World.cell?_alloc_past _ _ _ zT] at s0 s1
  clear hres7 hrg hb7 R5 HB5 FA HRW HB0 F4 HWC
  go_wp2_with fail
  refine (eqB_any _ _ _ _ _ _ Z7 Z7 _ (by unfold maxLen; omega) (by unfold maxLen; omega) (F8.out _).rg.row (F8.out _).wrow).mono ?_
  rintro e W9 ⟨rfl, hb9⟩
  rw [show decide (G7 = G7 ∧ Z7 = Z7) = true from by simp]
  have F9 : Hid (LC w g a c zs G7 Z7 aw cw a5 ag cg W4.heap.size wc.heap.size W5.heap.size W7.heap.size wc zs Z7 W9) := (F8.out _).later hb9
  have hKK : (K7 != K7) = false := by simp
  clear hb9 s0 s1 F8
  go_wp2
  go_region_held3 (fun w' => w'.cell? ⟨w.heap.size, 0, none⟩ = some (.bool g) ∧ w'.cell? ⟨w.heap.size, 1, none⟩ = some (.slice a zs.length c) ∧ w'.cell? ⟨W5.heap.size, 0, none⟩ = some (.bool g) ∧ w'.cell? ⟨W5.heap.size, 1, none⟩ = some (.slice a5 zs.length zs.length) ∧ Below W9.heap.size W9 w')
    (first | exact F9.out.held (Below.refl _ _).drew | exact F9.out.held (by assumption))
    (first
      | (go_at_call 10; refine (toB_any g a c zs _ hzl (hz.later F9.out.bx.bel.drew)).mono ?_; rintro e WA ⟨ax, rfl, hrx, hbx⟩; have hBx : Below W9.heap.size W9 WA := (Below.refl _ _).drew.trans hbx)
      | (go_at_call 12; refine (eqB_any _ _ _ _ _ _ zs zs _ (by unfold maxLen; omega) (by unfold maxLen; omega) (F9.out.later hBx).r0.row hrx.row).mono ?_; rintro e WB ⟨rfl, hby⟩; rw [show decide (g = g ∧ zs = zs) = true from by simp]; have hBy : Below W9.heap.size W9 WB := hBx.trans (hby.mono hBx.size)))
  have FD : Hid (LC w g a c zs G7 Z7 aw cw a5 ag cg W4.heap.size wc.heap.size W5.heap.size W7.heap.size wc zs Z7 WB) := F9.out.later hBy
  clear hbx hby hBx hBy hrx F9
  have p0 := FD.out.bp.q0
  have p1 := FD.out.bp.q1
  go_wp2_with fail
  refine (markB_any g a5 _ zs 1 _ _ _ hzl (by decide) (by decide) FD.out.r0).mono ?_
  rintro e WE ⟨rfl, hrE, hwE⟩
  have FE : Hid (LC w g a c zs G7 Z7 aw cw a5 ag cg W4.heap.size wc.heap.size W5.heap.size W7.heap.size wc (marksL 1 zs.length) Z7 WE) := FD.out.mark0 hrE hwE
  clear hrE hwE p0 p1 FD
  have s0 := FE.out.bw.q0
  have s1 := FE.out.bw.q1
  have s2 := FE.out.bg.q0
  have s3 := FE.out.bg.q1
  have hk0 : ¬ (1 : Int) + zs.length < 0 := by omega
  go_wp2_with fail
  refine (eqB_any _ _ _ _ _ _ Z7 Z7 _ (by unfold maxLen; omega) (by unfold maxLen; omega) FE.out.rg.row FE.out.wrow).mono ?_
  rintro e WG ⟨rfl, hbG⟩
  rw [show decide (G7 = G7 ∧ Z7 = Z7) = true from by simp]
  have FG : Hid (LC w g a c zs G7 Z7 aw cw a5 ag cg W4.heap.size wc.heap.size W5.heap.size W7.heap.size wc (marksL 1 zs.length) Z7 WG) := FE.out.later hbG
  clear hbG s0 s1 s2 s3 FE
  have s2 := FG.out.bg.q0
  have s3 := FG.out.bg.q1
  go_wp2_with fail
  refine (markB_any G7 ag _ Z7 1 _ _ _ (by omega) (by decide) (by decide) FG.out.rg).mono ?_
  rintro e WH ⟨rfl, hrH, hwH⟩
  have FH : Hid (LC w g a c zs G7 Z7 aw cw a5 ag cg W4.heap.size wc.heap.size W5.heap.size W7.heap.size wc (marksL 1 zs.length) (marksL 1 Z7.length) WH) := FG.out.markg hrH hwH
  clear hrH hwH s2 s3 FG
  have s2 := FH.out.bg.q0
  have s3 := FH.out.bg.q1
  go_wp2_with fail
  refine (heldB_any G7 ag _ Z7.length 1 _ (by omega) (by decide) (by decide) FH.out.rg.row).mono ?_
  rintro e WI ⟨rfl, hbI⟩
  have FI : Hid (LC w g a c zs G7 Z7 aw cw a5 ag cg W4.heap.size wc.heap.size W5.heap.size W7.heap.size wc (marksL 1 zs.length) (marksL 1 Z7.length) WI) := FH.out.later hbI
  clear hbI s2 s3 FH
  have hq0 : ¬ (1 : Int) + Z7.length < 0 := by omega
  have hqq : ((1 : Int) + Z7.length != 1 + Z7.length) = false := by simp
  have q0 := FI.out.bx.q0
  have q1 := FI.out.bx.q1
  go_wp2_with fail
  refine (toB_any g a c zs _ hzl (hz.later FI.out.bx.bel)).mono ?_
  rintro e WJ ⟨aj, rfl, hrj, hbj⟩
  have FJ : Hid (LC w g a c zs G7 Z7 aw cw a5 ag cg W4.heap.size wc.heap.size W5.heap.size W7.heap.size wc (marksL 1 zs.length) (marksL 1 Z7.length) WJ) := FI.out.later hbj
  clear q0 q1 FI
  go_wp2_with fail
  refine (imShift_any g aj _ zs n _ hzl (Nat.le_refl _) hn hrj.row hu).mono ?_
  rintro e WK ⟨GK, ZK, KK, ak, ck, rfl, hresK, hrk, hbk⟩
  obtain ⟨eG, eZ, eK⟩ := hresK.inj HRes.out
  subst eG eZ eK
  have FK : Hid (LC w g a c zs GK ZK aw cw a5 ag cg W4.heap.size wc.heap.size W5.heap.size W7.heap.size wc (marksL 1 zs.length) (marksL 1 ZK.length) WK) := FJ.out.later hbk
  have HRK : Hid (RowAt .u32 WK ak ZK) := hrk.row
  have s0 := FK.out.bw.q0
  have s1 := FK.out.bw.q1
  have zK : W4.heap.size < WK.heap.size := FK.out.bw.lt
  clear hresK hrk hbk FJ hbj hrj
  go_wp2_with fail
  refine (eqB_any _ _ _ _ _ _ ZK ZK _ (by unfold maxLen; omega) (by unfold maxLen; omega) (HRK.out.later (bel0 _ _)) (FK.out.wrow.later (bel0 _ _))).mono ?_
  rintro e WL ⟨rfl, hbL⟩
  rw [show decide (GK = GK ∧ ZK = ZK) = true from by simp]
  have HB : Hid (Below w.heap.size w WL) := ((FK.out.later (bel0 _ _)).later hbL).bx.bel
  clear hbL s0 s1
  go_wp2
  go_ret
  exact ⟨rfl, HB.out⟩

theorem lawShift_any (g : Bool) (a : Option Addr) (c : Nat) (zs : List Int) (n : Int) (w : World) (hn : zs.length ≤ maxLen) (hz : RowAt .u32 w a zs) (hu : U32 zs) :
    Calls Try.prog 5 #[.agg #[.bool g, .slice a zs.length c], .int .i64 n] w fun e w' => e = .returned (.bool true) ∧ Below w.heap.size w w' := by
  by_cases hl : (1048576 : Int) < zs.length
  · exact lawShift_far g a c zs n w hn hl
  · exact lawShift_near g a c zs n w hn hz hu hl

end Go.Proofs.Ytlbegmepmeimkab
