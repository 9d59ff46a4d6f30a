/-
  The law of BigParse, walked (the model's BigParse as a hypothesis, laid in behind).
-/
import Derived.Test.YtlbegmepmeimkaaLawP0
import Derived.Test.YtlbegmepmeimkaaImplR
namespace Go.Proofs.Ytlbegmepmeimkaa
open Go.RowKit

set_option maxHeartbeats 1000000 in
theorem lawParse_far (a : Option Addr) (c : Nat) (ts : List Int) (w : World) (hl : (1048576 : Int) < ts.length) :
    Calls Try.prog 7 #[.slice a ts.length c] w fun e w' => e = .returned (.bool true) ∧ Below w.heap.size w w' := by
  go_enter Try.func7, Try.ntmps7
  go_wp2
  go_ret
  exact ⟨rfl, Below.refl _ _⟩

set_option maxRecDepth 100000 in
set_option maxHeartbeats 8000000 in
theorem lawParse_near (hS : ∀ (a : Option Addr) (c : Nat) (ts : List Int) (w : World), ts.length ≤ 1048576 → c ≤ maxLen → ts.length ≤ c → RowAt .u8 w a ts → Calls Try.prog 25 #[.slice a ts.length c] w fun e w' => OutQ w ts e w')
    (a : Option Addr) (c : Nat) (ts : List Int) (w : World) (hl : ¬ (1048576 : Int) < ts.length) (hz : RowAt .u8 w a ts) :
    Calls Try.prog 7 #[.slice a ts.length c] w fun e w' => e = .returned (.bool true) ∧ Below w.heap.size w w' := by
  have hn : ts.length ≤ 1048576 := by omega
  have hm : ts.length ≤ maxLen := by unfold maxLen; omega
  go_enter Try.func7, Try.ntmps7
  go_wp2_with fail
  refine (toY_any a c ts _ hn hz).mono ?_
  rintro e w1 ⟨a1, rfl, hr1, hb1⟩
  go_wp2_with fail
  refine (hS a1 _ ts _ hn hm (Nat.le_refl _) hr1.row).mono ?_
  rintro e Wsp ⟨G, Z, K, aw, cw, rfl, hres, hrw, _, hb2⟩
  have HSp : Hid (Below w.heap.size w Wsp) := hb1.trans (hb2.mono hb1.size)
  have HRes : Hid (ResP ts G Z K) := hres
  have HRw : Hid (RowAt .u32 Wsp aw Z) := hrw
  have hZl : Z.length ≤ 512 := hres.len
  clear hb1 hb2 hr1 hres hrw
  go_wp2_with fail
  refine (toY_any a c ts _ hn (hz.later (HSp.out.trans ((bel0 _ _).mono HSp.out.size)))).mono ?_
  rintro e V2 ⟨x0, rfl, hrx, hbx⟩
  have HRx : Hid (RowNew .u8 V2 (Wsp.heap.size + 1) x0 ts) := by unfold Hid; simpa using hrx
  have HBx : Hid (Below (Wsp.alloc (.cells #[.bool G, .slice aw Z.length cw] 27)).heap.size (Wsp.alloc (.cells #[.bool G, .slice aw Z.length cw] 27)) V2) := hbx
  have zx : Wsp.heap.size < V2.heap.size := by have := hbx.size; simp at this; omega
  clear hrx hbx
  go_wp2_with fail
  refine (parseI_any x0 _ ts _ hn hm (Nat.le_refl _) HRx.out.row).mono ?_
  rintro e V3 ⟨G7, Z7, K7, ag, cg, rfl, hres7, hrg, hb3⟩
  obtain ⟨eG, eZ, eK⟩ := hres7.inj HRes.out
  subst eG eZ eK
  have F4 : Hid (∀ t2, LP w G7 Z7 aw cw Wsp.heap.size V2.heap.size V3.heap.size ag cg Wsp Z7 (V3.alloc (.cells #[.bool G7, .slice ag Z7.length cg] t2))) := fun t2 => LP.start HSp.out HRw.out HBx.out hb3 hrg rfl
  have R4 : Hid (∀ t2, RowIn .u8 (V3.alloc (.cells #[.bool G7, .slice ag Z7.length cg] t2)) (Wsp.heap.size + 1) V2.heap.size x0 ts) := fun t2 => HRx.out.rowIn.later (hb3.alloc hb3.size _)
  have s0 := (F4.out 27).w0
  have s1 := (F4.out 27).w1
  have zT : Wsp.heap.size < V3.heap.size := Nat.lt_of_lt_of_le zx hb3.size
  rw [World.cell?_alloc_past _ _ _ zT] at s0 s1
  clear hres7 hrg hb3 HBx HRx HRw
  go_wp2_with fail
  refine (eqB_any _ _ _ _ _ _ Z7 Z7 _ (by unfold maxLen; omega) (by unfold maxLen; omega) (F4.out _).rg.row (F4.out _).wrow).mono ?_
  rintro e W5 ⟨rfl, hb5⟩
  rw [show decide (G7 = G7 ∧ Z7 = Z7) = true from by simp]
  have F5 : Hid (LP w G7 Z7 aw cw Wsp.heap.size V2.heap.size V3.heap.size ag cg Wsp Z7 W5) := (F4.out _).later hb5
  have R5 : Hid (RowIn .u8 W5 (Wsp.heap.size + 1) V2.heap.size x0 ts) := (R4.out _).later hb5
  have hKK : (K7 != K7) = false := by simp
  clear hb5 s0 s1 F4 R4
  go_wp2_with fail
  refine (toY_any a c ts _ hn (hz.later F5.out.bel)).mono ?_
  rintro e W6 ⟨a6, rfl, hr6, hb6⟩
  have F6 : Hid (LP w G7 Z7 aw cw Wsp.heap.size V2.heap.size V3.heap.size ag cg Wsp Z7 W6) := F5.out.later hb6
  have R6 : Hid (RowIn .u8 W6 (Wsp.heap.size + 1) V2.heap.size x0 ts) := R5.out.later hb6
  have Y6 : Hid (RowAt .u8 W6 a6 ts) := hr6.row
  clear hb6 hr6 F5 R5
  go_wp2_with fail
  refine (eqY_any x0 a6 _ _ ts ts _ hm hm R6.out.row Y6.out).mono ?_
  rintro e W7 ⟨rfl, hb7⟩
  rw [show decide (ts = ts) = true from by simp]
  have F7 : Hid (LP w G7 Z7 aw cw Wsp.heap.size V2.heap.size V3.heap.size ag cg Wsp Z7 W7) := F6.out.later hb7
  have R7 : Hid (RowIn .u8 W7 (Wsp.heap.size + 1) V2.heap.size x0 ts) := R6.out.later hb7
  clear hb7 F6 R6 Y6
  go_wp2_with fail
  refine (markY_any x0 _ ts 1 _ _ _ hn (by decide) (by decide) R7.out).mono ?_
  rintro e W8 ⟨rfl, hw8⟩
  have F8 : Hid (LP w G7 Z7 aw cw Wsp.heap.size V2.heap.size V3.heap.size ag cg Wsp Z7 W8) := F7.out.markx hw8
  clear hw8 F7 R7
  have s0 := F8.out.w0
  have s1 := F8.out.w1
  have s2 := F8.out.g0
  have s3 := F8.out.g1
  have hk0 : ¬ (1 : Int) + ts.length < 0 := by omega
  go_wp2_with fail
  refine (eqB_any _ _ _ _ _ _ Z7 Z7 _ (by unfold maxLen; omega) (by unfold maxLen; omega) F8.out.rg.row F8.out.wrow).mono ?_
  rintro e WG ⟨rfl, hbG⟩
  rw [show decide (G7 = G7 ∧ Z7 = Z7) = true from by simp]
  have FG : Hid (LP w G7 Z7 aw cw Wsp.heap.size V2.heap.size V3.heap.size ag cg Wsp Z7 WG) := F8.out.later hbG
  clear hbG s0 s1 s2 s3 F8
  have s2 := FG.out.g0
  have s3 := FG.out.g1
  go_wp2_with fail
  refine (markB_any G7 ag _ Z7 1 _ _ _ (by omega) (by decide) (by decide) FG.out.rg).mono ?_
  rintro e WH ⟨rfl, hrH, hwH⟩
  have FH : Hid (LP w G7 Z7 aw cw Wsp.heap.size V2.heap.size V3.heap.size ag cg Wsp (marksL 1 Z7.length) WH) := FG.out.markg hrH hwH
  clear hrH hwH s2 s3 FG
  have s2 := FH.out.g0
  have s3 := FH.out.g1
  go_wp2_with fail
  refine (heldB_any G7 ag _ Z7.length 1 _ (by omega) (by decide) (by decide) FH.out.rg.row).mono ?_
  rintro e WI ⟨rfl, hbI⟩
  have FI : Hid (LP w G7 Z7 aw cw Wsp.heap.size V2.heap.size V3.heap.size ag cg Wsp (marksL 1 Z7.length) WI) := FH.out.later hbI
  clear hbI s2 s3 FH
  have hq0 : ¬ (1 : Int) + Z7.length < 0 := by omega
  have hqq : ((1 : Int) + Z7.length != 1 + Z7.length) = false := by simp
  go_wp2_with fail
  refine (toY_any a c ts _ hn (hz.later FI.out.bel)).mono ?_
  rintro e WJ ⟨aj, rfl, hrj, hbj⟩
  have FJ : Hid (LP w G7 Z7 aw cw Wsp.heap.size V2.heap.size V3.heap.size ag cg Wsp (marksL 1 Z7.length) WJ) := FI.out.later hbj
  have YJ : Hid (RowAt .u8 WJ aj ts) := hrj.row
  clear hbj hrj FI
  go_wp2_with fail
  refine (parseI_any aj _ ts _ hn hm (Nat.le_refl _) YJ.out).mono ?_
  rintro e WK ⟨G8, Z8, K8, ah, ch, rfl, hres8, hrh, hbk⟩
  obtain ⟨eG, eZ, eK⟩ := HRes.out.inj hres8
  subst eG eZ eK
  have FK : Hid (LP w G7 Z7 aw cw Wsp.heap.size V2.heap.size V3.heap.size ag cg Wsp (marksL 1 Z7.length) WK) := FJ.out.later hbk
  have YK : Hid (RowAt .u32 WK ah Z7) := hrh.row
  clear hbk hrh hres8 FJ YJ
  have s0 := FK.out.w0
  have s1 := FK.out.w1
  have zK : Wsp.heap.size < WK.heap.size := by have := FK.out.o3; have := FK.out.o1; have := FK.out.o2; omega
  go_wp2_with fail
  refine (eqB_any _ _ _ _ _ _ Z7 Z7 _ (by unfold maxLen; omega) (by unfold maxLen; omega) (YK.out.later (bel0 _ _)) (FK.out.later (bel0 _ _)).wrow).mono ?_
  rintro e WL ⟨rfl, hbL⟩
  rw [show decide (G7 = G7 ∧ Z7 = Z7) = true from by simp]
  have HB : Hid (Below w.heap.size w WL) := ((FK.out.later (bel0 _ _)).later hbL).bel
  clear hbL s0 s1
  go_wp2
  go_ret
  exact ⟨rfl, HB.out⟩

theorem lawParse_any (hS : ∀ (a : Option Addr) (c : Nat) (ts : List Int) (w : World), ts.length ≤ 1048576 → c ≤ maxLen → ts.length ≤ c → RowAt .u8 w a ts → Calls Try.prog 25 #[.slice a ts.length c] w fun e w' => OutQ w ts e w')
    (a : Option Addr) (c : Nat) (ts : List Int) (w : World) (hz : RowAt .u8 w a ts) :
    Calls Try.prog 7 #[.slice a ts.length c] w fun e w' => e = .returned (.bool true) ∧ Below w.heap.size w w' := by
  by_cases hl : (1048576 : Int) < ts.length
  · exact lawParse_far a c ts w hl
  · exact lawParse_near hS a c ts w hl hz

end Go.Proofs.Ytlbegmepmeimkaa
