/-
  The law of BigText, walked (both BigTexts as hypotheses, laid in behind).
-/
import Derived.Test.YtlbegmepmeimkaaLawC
import Derived.Deep.RegionHeld3
import Derived.Test.YtlbegmepmeimkaaSpecU
import Derived.Test.YtlbegmepmeimkaaBytes2
namespace Go.Proofs.Ytlbegmepmeimkaa
open Go.RowKit

/-- The box of the law's argument (behind w), of the copy (T2); the model's text lies in Wsp, whose size is TE; the copy from TE to below T2, the program's text from T2 + 1 to below H. -/
structure LT (w : World) (g : Bool) (a : Option Addr) (c : Nat) (zs Z : List Int) (aw x0 ag : Option Addr) (TE T2 H : Nat) (Wsp : World) (X0 ZG : List Int) (W : World) : Prop where
  bx : Ax w (.bool g) (.slice a zs.length c) W
  bp : Bb T2 (.bool g) (.slice x0 zs.length zs.length) W
  o1 : w.heap.size < TE
  oE : TE ≤ T2
  o3 : T2 < H
  o4 : H ≤ W.heap.size
  rw : RowAt .u8 Wsp aw Z
  rwT : Wsp.heap.size = TE
  rwB : Below TE Wsp W
  r0 : RowIn .u32 W TE T2 x0 X0
  rg : RowIn .u8 W (T2 + 1) H ag ZG

section
variable {w : World} {g : Bool} {a : Option Addr} {c : Nat} {zs Z : List Int} {aw x0 ag : Option Addr} {TE T2 H : Nat} {Wsp : World} {X0 ZG : List Int} {W W' : World}

theorem LT.wrow (h : LT w g a c zs Z aw x0 ag TE T2 H Wsp X0 ZG W) : RowAt .u8 W aw Z := h.rw.later (by rw [h.rwT]; exact h.rwB)

theorem LT.later (h : LT w g a c zs Z aw x0 ag TE T2 H Wsp X0 ZG W) (hb : Below W.heap.size W W') : LT w g a c zs Z aw x0 ag TE T2 H Wsp X0 ZG W' := by
  have h1 := h.o1; have hE := h.oE; have h3 := h.o3; have h4 := h.o4
  exact ⟨h.bx.later hb, h.bp.later hb, h1, hE, h3, Nat.le_trans h4 hb.size, h.rw, h.rwT, h.rwB.trans (hb.mono (by omega)), h.r0.later hb, h.rg.later hb⟩

/-- A write within blocks that hold none of the boxes. -/
theorem LT.turn {lo hi : Nat} (h : LT w g a c zs Z aw x0 ag TE T2 H Wsp X0 ZG W) (hw : Within lo hi W W') (hT : (lo = TE ∧ hi = T2) ∨ (lo = T2 + 1 ∧ hi = H))
    {X0' ZG' : List Int} (h0 : RowIn .u32 W' TE T2 x0 X0') (hg' : RowIn .u8 W' (T2 + 1) H ag ZG') : LT w g a c zs Z aw x0 ag TE T2 H Wsp X0' ZG' W' := by
  have h1 := h.o1; have hE := h.oE; have h3 := h.o3; have h4 := h.o4
  have hB := hw.below
  have hx := h.bx.le
  exact ⟨⟨(hw.cell (by simp; omega)).trans h.bx.q0, (hw.cell (by simp; omega)).trans h.bx.q1, by rw [hw.size]; exact hx, h.bx.bel.trans (hB.mono (by omega))⟩, h.bp.within hw (by omega), h1, hE, h3, by rw [hw.size]; exact h4, h.rw, h.rwT, h.rwB.trans (hB.mono (by omega)), h0, hg'⟩

theorem LT.mark0 (h : LT w g a c zs Z aw x0 ag TE T2 H Wsp X0 ZG W) {X0' : List Int} (hr : RowIn .u32 W' TE T2 x0 X0') (hw : ∃ W1, Below W.heap.size W W1 ∧ Within TE T2 W1 W') : LT w g a c zs Z aw x0 ag TE T2 H Wsp X0' ZG W' := by
  obtain ⟨W1, hb, hwi⟩ := hw
  have h2 := h.later hb
  have oE := h.oE; have o3 := h.o3
  exact h2.turn hwi (.inl ⟨rfl, rfl⟩) hr (h2.rg.apart hwi (by omega))

theorem LT.markg (h : LT w g a c zs Z aw x0 ag TE T2 H Wsp X0 ZG W) {ZG' : List Int} (hr : RowIn .u8 W' (T2 + 1) H ag ZG') (hw : Within (T2 + 1) H W W') : LT w g a c zs Z aw x0 ag TE T2 H Wsp X0 ZG' W' := by
  have oE := h.oE; have o3 := h.o3
  exact h.turn hw (.inr ⟨rfl, rfl⟩) (h.r0.apart hw (by omega)) hr

theorem LT.held (h : LT w g a c zs Z aw x0 ag TE T2 H Wsp X0 ZG W) (hb : Below W.heap.size W W') :
    W'.cell? ⟨w.heap.size, 0, none⟩ = some (.bool g) ∧ W'.cell? ⟨w.heap.size, 1, none⟩ = some (.slice a zs.length c) ∧ W'.cell? ⟨T2, 0, none⟩ = some (.bool g) ∧ W'.cell? ⟨T2, 1, none⟩ = some (.slice x0 zs.length zs.length) ∧ Below W.heap.size W W' :=
  ⟨(h.later hb).bx.q0, (h.later hb).bx.q1, (h.later hb).bp.q0, (h.later hb).bp.q1, hb⟩

theorem LT.start {W4 W5 W7 : World} {t : TypeId} (hx : Ax w (.bool g) (.slice a zs.length c) W4) (hr : RowAt .u8 W4 aw Z) (hb5 : Below W4.heap.size W4 W5)
    (hr0 : RowNew .u32 W5 W4.heap.size x0 zs) (hb7 : Below (W5.alloc (.cells #[.bool g, .slice x0 zs.length zs.length] t)).heap.size (W5.alloc (.cells #[.bool g, .slice x0 zs.length zs.length] t)) W7) (hrg : RowNew .u8 W7 (W5.heap.size + 1) ag Z) :
    LT w g a c zs Z aw x0 ag W4.heap.size W5.heap.size W7.heap.size W4 zs Z W7 := by
  have z5 := hb5.size
  have z7 := hb7.size
  simp at z7
  have b57 : Below W5.heap.size W5 W7 := (bel0 _ _).trans (hb7.mono (by simp))
  have b47 : Below W4.heap.size W4 W7 := hb5.trans (b57.mono (by omega))
  exact ⟨hx.later b47, (Bb.start W5 _ _ t).later hb7, hx.le, z5, by omega, Nat.le_refl _, hr, rfl, b47, hr0.rowIn.later b57, hrg.rowIn⟩

end

/-- A text has no more than 5001 signs. -/
theorem ResT.len {g : Bool} {zs ts : List Int} {K : Int} (hu : Dig 4294967296 zs) (h : ResT g zs ts K) : ts.length ≤ 5001 := by
  rcases h with ⟨_, h1, _⟩ | ⟨hv, h1, _⟩
  · rw [h1]; simp
  · obtain ⟨hcan, hl, _⟩ := valid_canon (zs := zs) (fun z hz => hu z hz) hv
    have hd := decs_length (val_fits hcan.1 hl)
    rw [h1]
    unfold textL
    split
    · simp
    · rw [List.length_reverse, List.length_append]
      split
      · simp; omega
      · simp; omega

/-- What BigText, of the model and of the program, answers. -/
def TextSays (f : FuncId) : Prop := ∀ (g : Bool) (a : Option Addr) (c : Nat) (zs : List Int) (w : World), zs.length ≤ maxLen → RowAt .u32 w a zs → Dig 4294967296 zs →
    Calls Try.prog f #[.agg #[.bool g, .slice a zs.length c]] w fun e w' => OutT w g zs e w'

set_option maxHeartbeats 1000000 in
theorem lawText_far (g : Bool) (a : Option Addr) (c : Nat) (zs : List Int) (w : World) (hn : zs.length ≤ maxLen) (hl : (1048576 : Int) < zs.length) :
    Calls Try.prog 5 #[.agg #[.bool g, .slice a zs.length c]] w fun e w' => e = .returned (.bool true) ∧ Below w.heap.size w w' := by
  go_enter Try.func5, Try.ntmps5
  go_wp2_with fail
  refine (szB_any _ _ _ _ _ _ hn (by omega) (by omega)).mono ?_
  rintro e w1 ⟨rfl, hb⟩
  rw [if_pos (by omega)]
  have HB : Hid (Below w.heap.size w w1) := (bel0 _ _).trans (hb.mono (by simp))
  clear hb
  go_wp2
  go_ret
  exact ⟨rfl, HB.out⟩

set_option maxRecDepth 100000 in
set_option maxHeartbeats 16000000 in
theorem lawText_near (hS : TextSays 18) (hI : TextSays 19) (g : Bool) (a : Option Addr) (c : Nat) (zs : List Int) (w : World) (hn : zs.length ≤ maxLen) (hz : RowAt .u32 w a zs) (hu : U32 zs) (hl : ¬ (1048576 : Int) < zs.length) :
    Calls Try.prog 5 #[.agg #[.bool g, .slice a zs.length c]] w fun e w' => e = .returned (.bool true) ∧ Below w.heap.size w w' := by
  have hm : 0 ≤ 1048576 - (zs.length : Int) := by omega
  have hzl : zs.length ≤ 1048576 := by omega
  have hud : Dig 4294967296 zs := fun z hz => hu z hz
  have HS : Hid (TextSays 18) := hS
  have HI : Hid (TextSays 19) := hI
  clear hS hI
  go_enter Try.func5, Try.ntmps5
  go_wp2_with fail
  refine (szB_any _ _ _ _ _ _ hn (by omega) (by omega)).mono ?_
  rintro e W0 ⟨rfl, hb⟩
  rw [if_neg (by omega)]
  have F : Hid (Ax w (.bool g) (.slice a zs.length c) W0) := (Ax.start w _ _ _).later hb
  have q0 := F.out.q0
  have q1 := F.out.q1
  have zz := F.out.le
  clear hb
  go_wp2_with fail
  refine (toB_any g a c zs _ hzl (hz.later F.out.bel)).mono ?_
  rintro e W1 ⟨a1, rfl, hr1, hb1⟩
  go_wp2_with fail
  refine (HS.out g a1 _ zs _ hn hr1.row hud).mono ?_
  rintro e W4 ⟨Z, K, aw, cw, rfl, hres, hrw, hb4⟩
  have F4 : Hid (Ax w (.bool g) (.slice a zs.length c) W4) := (F.out.later hb1).later hb4
  have HRes : Hid (ResT g zs Z K) := hres
  have hZl : Z.length ≤ 5001 := hres.len hud
  have HRW : Hid (RowAt .u8 W4 aw Z) := hrw.row
  clear q0 q1 zz hres hrw hb1 hb4 hr1 F HS
  have q0 := F4.out.q0
  have q1 := F4.out.q1
  have z4 := F4.out.le
  go_wp2_with fail
  refine (toB_any g a c zs _ hzl (hz.later F4.out.bel)).mono ?_
  rintro e W5 ⟨a5, rfl, hr5, hb5⟩
  have R5 : Hid (RowNew .u32 W5 W4.heap.size a5 zs) := hr5
  have HB5 : Hid (Below W4.heap.size W4 W5) := hb5
  clear q0 q1 z4 hb5 hr5
  go_wp2_with fail
  refine (HI.out g a5 _ zs _ hn (R5.out.row.later (bel0 _ _)) hud).mono ?_
  rintro e W7 ⟨Z7, K7, ag, cg, rfl, hres7, hrg, hb7⟩
  obtain ⟨eZ, eK⟩ := hres7.inj HRes.out
  subst eZ eK
  have F8 : Hid (LT w g a c zs Z7 aw a5 ag W4.heap.size W5.heap.size W7.heap.size W4 zs Z7 W7) := LT.start F4.out HRW.out HB5.out R5.out hb7 (by simpa using hrg)
  clear hres7 hrg hb7 R5 HB5 HRW F4
  go_wp2_with fail
  refine (eqY_any _ _ _ _ Z7 Z7 _ (by unfold maxLen; omega) (by unfold maxLen; omega) F8.out.rg.row F8.out.wrow).mono ?_
  rintro e W9 ⟨rfl, hb9⟩
  rw [show decide (Z7 = Z7) = true from by simp]
  have F9 : Hid (LT w g a c zs Z7 aw a5 ag W4.heap.size W5.heap.size W7.heap.size W4 zs Z7 W9) := F8.out.later hb9
  have hKK : (K7 != K7) = false := by simp
  clear hb9 F8
  go_wp2
  go_region_held3 (fun w' => w'.cell? ⟨w.heap.size, 0, none⟩ = some (.bool g) ∧ w'.cell? ⟨w.heap.size, 1, none⟩ = some (.slice a zs.length c) ∧ w'.cell? ⟨W5.heap.size, 0, none⟩ = some (.bool g) ∧ w'.cell? ⟨W5.heap.size, 1, none⟩ = some (.slice a5 zs.length zs.length) ∧ Below W9.heap.size W9 w')
    (first | exact F9.out.held (Below.refl _ _).drew | exact F9.out.held (by assumption))
    (first
      | (go_at_call 11; refine (toB_any g a c zs _ hzl (hz.later F9.out.bx.bel.drew)).mono ?_; rintro e WA ⟨ax, rfl, hrx, hbx⟩; have hBx : Below W9.heap.size W9 WA := (Below.refl _ _).drew.trans hbx)
      | (go_at_call 13; refine (eqB_any _ _ _ _ _ _ zs zs _ (by unfold maxLen; omega) (by unfold maxLen; omega) (F9.out.later hBx).r0.row hrx.row).mono ?_; rintro e WB ⟨rfl, hby⟩; rw [show decide (g = g ∧ zs = zs) = true from by simp]; have hBy : Below W9.heap.size W9 WB := hBx.trans (hby.mono hBx.size)))
  have FD : Hid (LT w g a c zs Z7 aw a5 ag W4.heap.size W5.heap.size W7.heap.size W4 zs Z7 WB) := F9.out.later hBy
  clear hbx hby hBx hBy hrx F9
  have p0 := FD.out.bp.q0
  have p1 := FD.out.bp.q1
  go_wp2_with fail
  refine (markB_any g a5 _ zs 1 _ _ _ hzl (by decide) (by decide) FD.out.r0).mono ?_
  rintro e WE ⟨rfl, hrE, hwE⟩
  have FE : Hid (LT w g a c zs Z7 aw a5 ag W4.heap.size W5.heap.size W7.heap.size W4 (marksL 1 zs.length) Z7 WE) := FD.out.mark0 hrE hwE
  clear hrE hwE p0 p1 FD
  have hk0 : ¬ (1 : Int) + zs.length < 0 := by omega
  go_wp2_with fail
  refine (eqY_any _ _ _ _ Z7 Z7 _ (by unfold maxLen; omega) (by unfold maxLen; omega) FE.out.rg.row FE.out.wrow).mono ?_
  rintro e WG ⟨rfl, hbG⟩
  rw [show decide (Z7 = Z7) = true from by simp]
  have FG : Hid (LT w g a c zs Z7 aw a5 ag W4.heap.size W5.heap.size W7.heap.size W4 (marksL 1 zs.length) Z7 WG) := FE.out.later hbG
  clear hbG FE
  go_wp2_with fail
  refine (markY2_any ag _ Z7 1 _ _ _ (by omega) (by decide) (by decide) FG.out.rg).mono ?_
  rintro e WH ⟨rfl, hrH, hwH⟩
  have FH : Hid (LT w g a c zs Z7 aw a5 ag W4.heap.size W5.heap.size W7.heap.size W4 (marksL 1 zs.length) (marksY 1 Z7.length) WH) := FG.out.markg hrH hwH
  clear hrH hwH FG
  go_wp2_with fail
  refine (heldY_any ag _ Z7.length 1 _ (by omega) (by decide) (by decide) FH.out.rg.row).mono ?_
  rintro e WI ⟨rfl, rfl⟩
  have hq0 : ¬ (1 : Int) + Z7.length < 0 := by omega
  have hqq : ((1 : Int) + Z7.length != 1 + Z7.length) = false := by simp
  have q0 := FH.out.bx.q0
  have q1 := FH.out.bx.q1
  go_wp2_with fail
  refine (toB_any g a c zs _ hzl (hz.later FH.out.bx.bel)).mono ?_
  rintro e WJ ⟨aj, rfl, hrj, hbj⟩
  have FJ : Hid (LT w g a c zs Z7 aw a5 ag W4.heap.size W5.heap.size W7.heap.size W4 (marksL 1 zs.length) (marksY 1 Z7.length) WJ) := FH.out.later hbj
  clear q0 q1 FH
  go_wp2_with fail
  refine (HI.out g aj _ zs _ hn hrj.row hud).mono ?_
  rintro e WK ⟨ZK, KK, ak, ck, rfl, hresK, hrk, hbk⟩
  obtain ⟨eZ, eK⟩ := hresK.inj HRes.out
  subst eZ eK
  have FK : Hid (LT w g a c zs ZK aw a5 ag W4.heap.size W5.heap.size W7.heap.size W4 (marksL 1 zs.length) (marksY 1 ZK.length) WK) := FJ.out.later hbk
  have HRK : Hid (RowAt .u8 WK ak ZK) := hrk.row
  clear hresK hrk hbk FJ hbj hrj
  go_wp2_with fail
  refine (eqY_any _ _ _ _ ZK ZK _ (by unfold maxLen; omega) (by unfold maxLen; omega) HRK.out FK.out.wrow).mono ?_
  rintro e WL ⟨rfl, hbL⟩
  rw [show decide (ZK = ZK) = true from by simp]
  have HB : Hid (Below w.heap.size w WL) := (FK.out.later hbL).bx.bel
  clear hbL
  go_wp2
  go_ret
  exact ⟨rfl, HB.out⟩

theorem lawText_any (hS : TextSays 18) (hI : TextSays 19) (g : Bool) (a : Option Addr) (c : Nat) (zs : List Int) (w : World) (hn : zs.length ≤ maxLen) (hz : RowAt .u32 w a zs) (hu : U32 zs) :
    Calls Try.prog 5 #[.agg #[.bool g, .slice a zs.length c]] w fun e w' => e = .returned (.bool true) ∧ Below w.heap.size w w' := by
  by_cases hl : (1048576 : Int) < zs.length
  · exact lawText_far g a c zs w hn hl
  · exact lawText_near hS hI g a c zs w hn hz hu hl

end Go.Proofs.Ytlbegmepmeimkaa
