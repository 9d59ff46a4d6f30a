/-
  The law of BigSub, walked.
-/
import Derived.Test.YtlbegmepmeimkabLawB
import Derived.Deep.CutRange
import Derived.Deep.Light
import Derived.Test.YtlbegmepmeimkabSpecSub
import Derived.Test.YtlbegmepmeimkabImplSub
namespace Go.Proofs.Ytlbegmepmeimkab
open Go.RowKit

set_option maxHeartbeats 1000000 in
theorem lawSub_far1 (g g' : Bool) (a a' : Option Addr) (c c' : Nat) (zs ys : List Int) (w : World) (hn : zs.length ≤ maxLen) (hl : (1048576 : Int) < zs.length) :
    Calls Try.prog 3 #[.agg #[.bool g, .slice a zs.length c], .agg #[.bool g', .slice a' ys.length c']] w fun e w' => e = .returned (.bool true) ∧ Below w.heap.size w w' := by
  go_enter Try.func3, Try.ntmps3
  go_wp2_with fail
  refine (szB_any _ _ _ _ _ _ hn (by omega) (by omega)).mono ?_
  rintro e w1 ⟨rfl, hb⟩
  rw [if_pos (by omega)]
  have HB : Hid (Below w.heap.size w w1) := (bel2 _ _ _).trans (hb.mono (by simp; omega))
  clear hb
  go_wp2
  go_ret
  exact ⟨rfl, HB.out⟩

set_option maxHeartbeats 1000000 in
theorem lawSub_far2 (g g' : Bool) (a a' : Option Addr) (c c' : Nat) (zs ys : List Int) (w : World) (hn : zs.length ≤ maxLen) (hn' : ys.length ≤ maxLen) (hl : ¬ (1048576 : Int) < zs.length) (hl2 : (1048576 : Int) - zs.length < ys.length) :
    Calls Try.prog 3 #[.agg #[.bool g, .slice a zs.length c], .agg #[.bool g', .slice a' ys.length c']] w fun e w' => e = .returned (.bool true) ∧ Below w.heap.size w w' := by
  go_enter Try.func3, Try.ntmps3
  go_wp2_with fail
  refine (szB_any _ _ _ _ _ _ hn (by omega) (by omega)).mono ?_
  rintro e w1 ⟨rfl, hb⟩
  rw [if_neg (by omega)]
  have F1 : Hid (Bx2 w (.bool g) (.slice a zs.length c) (.bool g') (.slice a' ys.length c') w1) := (Bx2.start w _ _ _ _ _ _).later hb
  have q2 := F1.out.q2
  have q3 := F1.out.q3
  have hm : 0 ≤ 1048576 - (zs.length : Int) := by omega
  clear hb
  go_wp2_with fail
  refine (szB_any _ _ _ _ _ _ hn' (by omega) (by omega)).mono ?_
  rintro e w2 ⟨rfl, hb⟩
  rw [if_pos (by omega)]
  have HB : Hid (Below w.heap.size w w2) := (F1.out.later hb).bel
  clear hb
  go_wp2
  go_ret
  exact ⟨rfl, HB.out⟩

set_option maxRecDepth 100000 in
set_option maxHeartbeats 16000000 in
theorem lawSub_near (g g' : Bool) (a a' : Option Addr) (c c' : Nat) (zs ys : List Int) (w : World) (hn : zs.length ≤ maxLen) (hn' : ys.length ≤ maxLen) (hz : RowAt .u32 w a zs) (hy : RowAt .u32 w a' ys) (hu : U32 zs) (hu' : U32 ys) (hl : ¬ (1048576 : Int) < zs.length) (hl2 : ¬ (1048576 : Int) - zs.length < ys.length) :
    Calls Try.prog 3 #[.agg #[.bool g, .slice a zs.length c], .agg #[.bool g', .slice a' ys.length c']] w fun e w' => e = .returned (.bool true) ∧ Below w.heap.size w w' := by
  have hm : 0 ≤ 1048576 - (zs.length : Int) := by omega
  have hm2 : 0 ≤ 1048576 - (zs.length : Int) - (ys.length : Int) := by omega
  have hzl : zs.length ≤ 1048576 := by omega
  have hyl : ys.length ≤ 1048576 := by omega
  go_enter Try.func3, Try.ntmps3
  go_wp2_with fail
  refine (szB_any _ _ _ _ _ _ hn (by omega) (by omega)).mono ?_
  rintro e w1 ⟨rfl, hb⟩
  rw [if_neg (by omega)]
  have F1 : Hid (Bx2 w (.bool g) (.slice a zs.length c) (.bool g') (.slice a' ys.length c') w1) := (Bx2.start w _ _ _ _ _ _).later hb
  have q2 := F1.out.q2
  have q3 := F1.out.q3
  clear hb
  go_wp2_with fail
  refine (szB_any _ _ _ _ _ _ hn' (by omega) (by omega)).mono ?_
  rintro e W0 ⟨rfl, hb⟩
  rw [if_neg (by omega)]
  have F : Hid (Bx2 w (.bool g) (.slice a zs.length c) (.bool g') (.slice a' ys.length c') W0) := F1.out.later hb
  clear hb F1 q2 q3
  go_wp2
  go_cut [6, 7] from 17 to 110 (fun s6 s7 wx => ∃ (G : Bool) (Z : List Int) (K : Int) (aw : Option Addr) (cw T1 : Nat), s6 = .pointer (some ⟨T1, 0, none⟩) ∧ s7 = .int .i64 K ∧ Hid (LA w g g' a a' c c' zs ys G Z aw cw T1 wx) ∧ Hid (Res (validB g zs && validB g' ys) (sg g (val 4294967296 zs) - sg g' (val 4294967296 ys)) G Z K))
  case first =>
    go_region_held3 (fun w' => w'.cell? ⟨w.heap.size, 0, none⟩ = some (.bool g) ∧ w'.cell? ⟨w.heap.size, 1, none⟩ = some (.slice a zs.length c) ∧ w'.cell? ⟨w.heap.size + 1, 0, none⟩ = some (.bool g') ∧ w'.cell? ⟨w.heap.size + 1, 1, none⟩ = some (.slice a' ys.length c') ∧ Below W0.heap.size W0 w')
      (first | exact F.out.held (Below.refl _ _).drew | exact F.out.held (by assumption) | exact F.out.held (Below.alloc (by assumption) (Below.size (by assumption)) _) | exact F.out.held (Below.alloc (held_last (by assumption)) (Below.size (held_last (by assumption))) _) | exact F.out.held (Below.setCell (Below.setCell (by assumption) (by first | (simp; done) | (simp; omega)) _) (by first | (simp; done) | (simp; omega)) _))
      (first
        | (go_at_call_of 10 a; refine (toB_any g a c zs _ hzl (hz.later (F.out.bel.trans (Below.mono (held_last (by assumption)) F.out.bel.size)))).mono ?_; rintro e w2 ⟨a1, rfl, hr1, hb1⟩; have hB : Below W0.heap.size W0 w2 := Below.trans (held_last (by assumption)) (Below.mono hb1 (Below.size (held_last (by assumption)))); have hs1 := hB.size; have K1 := fun {k a zs} (h : RowAt k _ a zs) => h.later hb1)
        | (go_at_call_of 10 a'; refine (toB_any g' a' c' ys _ hyl (hy.later (F.out.bel.trans (Below.mono (held_last (by assumption)) F.out.bel.size)))).mono ?_; rintro e w3 ⟨a2, rfl, hr2, hb2⟩; have hB' : Below W0.heap.size W0 w3 := Below.trans (held_last (by assumption)) (Below.mono hb2 (Below.size (held_last (by assumption)))); have hs2 := hB'.size; have K2 := fun {k a zs} (h : RowAt k _ a zs) => h.later hb2)
        | (go_at_call 9; refine (spSub_any g g' a1 a2 _ _ zs ys _ hzl hyl ?_ ?_ hu hu').mono ?_; (first | exact hr1.row | exact hr1.row.later (bel0 _ _) | exact K2 hr1.row | exact K2 (hr1.row.later (bel0 _ _)) | exact (K2 hr1.row).later (bel0 _ _)); (first | exact hr2.row | exact hr2.row.later (bel0 _ _) | exact K1 hr2.row | exact K1 (hr2.row.later (bel0 _ _)) | exact (K1 hr2.row).later (bel0 _ _)); rintro e W4 ⟨G, Z, K, aw, cw, rfl, hres, hrw, hfar, hb4⟩; have hB4 : Below W0.heap.size W0 W4 := Below.trans (held_last (by assumption)) (Below.mono hb4 (Below.size (held_last (by assumption)))); (first | (have hhc := (((Has.new W0 26).later (Below.refl _ _).drew).later hb1).later hb2; have hh := hhc.later hb4) | (have hhc := (Has.new w2 26).later hb2; have hh := hhc.later hb4) | (have hhc := Has.new w3 26; have hh := hhc.later hb4) | have hh : True := trivial); (try have r1 := hh.r1); (try have r2 := hh.r2); (try have r3 := hh.r3)))
    all_goals
      go_wp2_with fail
      go_meet
      case rel =>
        refine ⟨G, Z, K, aw, cw, _, rfl, rfl, ?_, hres⟩
        first
          | exact LA.start (F.out.later hB4) hrw
          | exact LA.set (F.out.later hB4) hrw hfar hhc.lt hh (by first | exact Nat.le_refl _ | exact hs1 | exact hs2) F.out.le
  case rest =>
    obtain ⟨G, Z, K, aw, cw, T1, rfl, rfl, FA, HRes⟩ := hcut
    have hZl : Z.length ≤ 512 := HRes.out.len
    have q0 := FA.out.bx.q0
    have q1 := FA.out.bx.q1
    have zz : w.heap.size + 1 < wc.heap.size := FA.out.bx.le
    go_wp2_with fail
    refine (toB_any g a c zs _ hzl (hz.later FA.out.bx.bel)).mono ?_
    rintro e W5 ⟨a5, rfl, hr5, hb5⟩
    have F5 : Hid (LA w g g' a a' c c' zs ys G Z aw cw T1 W5) := FA.out.later hb5
    have R5 : Hid (RowNew .u32 W5 wc.heap.size a5 zs) := hr5
    have HB5 : Hid (Below wc.heap.size wc W5) := hb5
    clear q0 q1 hb5 hr5
    have q2 := F5.out.bx.q2
    have q3 := F5.out.bx.q3
    have z5 : w.heap.size + 1 < W5.heap.size := F5.out.bx.le
    have z5' : T1 < W5.heap.size := F5.out.o1
    go_wp2_with fail
    refine (toB_any g' a' c' ys _ hyl (hy.later (F5.out.bx.bel.trans ((bel0 _ _).mono F5.out.bx.bel.size)))).mono ?_
    rintro e W6 ⟨a6, rfl, hr6, hb6⟩
    have R6 : Hid (RowNew .u32 W6 (W5.heap.size + 1) a6 ys) := by unfold Hid; simpa using hr6
    have HB6 : Hid (Below (W5.alloc (.cells #[.bool g, .slice a5 zs.length zs.length] 26)).heap.size (W5.alloc (.cells #[.bool g, .slice a5 zs.length zs.length] 26)) W6) := hb6
    have q4 : W6.cell? ⟨W5.heap.size, 0, none⟩ = some (.bool g) := by rw [(bcell hb6).1 _ _ (by simp)]; simp [go_sem]
    have q5 : W6.cell? ⟨W5.heap.size, 1, none⟩ = some (.slice a5 zs.length zs.length) := by rw [(bcell hb6).1 _ _ (by simp)]; simp [go_sem]
    have z6 : W5.heap.size < W6.heap.size := by have := hb6.size; simp at this; omega
    have r50 : Hid (RowAt .u32 W6 a5 zs) := (R5.out.row.later (bel0 _ _)).later hb6
    clear hb6 hr6 q2 q3
    go_wp2_with fail
    refine (imSub_any g g' a5 a6 _ _ zs ys _ hzl hyl (r50.out.later (bel0 _ _)) (R6.out.row.later (bel0 _ _)) hu hu').mono ?_
    rintro e W7 ⟨G7, Z7, K7, ag, cg, rfl, hres7, hrg, hb7⟩
    obtain ⟨eG, eZ, eK⟩ := hres7.inj HRes.out
    subst eG eZ eK
    have F8 : Hid (∀ t2, LB w g g' a a' c c' zs ys G7 Z7 aw cw a5 a6 ag cg T1 wc.heap.size W5.heap.size W6.heap.size W7.heap.size wc zs ys Z7 (W7.alloc (.cells #[.bool G7, .slice ag Z7.length cg] t2))) := fun t2 => LB.start FA.out HB5.out R5.out HB6.out R6.out hb7 (by simpa using hrg) rfl
    have s0 := (F8.out 26).w0
    have s1 := (F8.out 26).w1
    have z7 : W6.heap.size < W7.heap.size := (F8.out 26).o3
    have zT : T1 < W7.heap.size := by omega
    rw [World.cell?_alloc_past _ _ _ zT] at s0 s1
    clear q4 q5 hres7 hrg hb7 HB6 R6 R5 r50 F5 HB5 FA
    go_wp2_with fail
    refine (eqB_any _ _ _ _ _ _ Z7 Z7 _ (by unfold maxLen; omega) (by unfold maxLen; omega) (F8.out _).rg.row (F8.out _).wrow).mono ?_
    rintro e W9 ⟨rfl, hb9⟩
    rw [show decide (G7 = G7 ∧ Z7 = Z7) = true from by simp]
    have F9 : Hid (LB w g g' a a' c c' zs ys G7 Z7 aw cw a5 a6 ag cg T1 wc.heap.size W5.heap.size W6.heap.size W7.heap.size wc zs ys Z7 W9) := (F8.out _).later hb9
    have hKK : (K7 != K7) = false := by simp
    clear hb9 s0 s1 F8
    go_wp2
    go_region_held3 (fun w' => w'.cell? ⟨w.heap.size, 0, none⟩ = some (.bool g) ∧ w'.cell? ⟨w.heap.size, 1, none⟩ = some (.slice a zs.length c) ∧ w'.cell? ⟨w.heap.size + 1, 0, none⟩ = some (.bool g') ∧ w'.cell? ⟨w.heap.size + 1, 1, none⟩ = some (.slice a' ys.length c') ∧
        w'.cell? ⟨W5.heap.size, 0, none⟩ = some (.bool g) ∧ w'.cell? ⟨W5.heap.size, 1, none⟩ = some (.slice a5 zs.length zs.length) ∧ w'.cell? ⟨W6.heap.size, 0, none⟩ = some (.bool g') ∧ w'.cell? ⟨W6.heap.size, 1, none⟩ = some (.slice a6 ys.length ys.length) ∧ Below W9.heap.size W9 w')
      (first | exact F9.out.held (Below.refl _ _).drew | exact F9.out.held (by assumption))
      (first
        | (go_at_call 10; refine (toB_any g a c zs _ hzl (hz.later F9.out.bx.bel.drew)).mono ?_; rintro e WA ⟨ax, rfl, hrx, hbx⟩; have hBx : Below W9.heap.size W9 WA := (Below.refl _ _).drew.trans hbx)
        | (go_at_call 12; refine (eqB_any _ _ _ _ _ _ zs zs _ (by unfold maxLen; omega) (by unfold maxLen; omega) (F9.out.later hBx).r0.row hrx.row).mono ?_; rintro e WB ⟨rfl, hby⟩; rw [show decide (g = g ∧ zs = zs) = true from by simp]; have hBy : Below W9.heap.size W9 WB := hBx.trans (hby.mono hBx.size)))
    have FB : Hid (LB w g g' a a' c c' zs ys G7 Z7 aw cw a5 a6 ag cg T1 wc.heap.size W5.heap.size W6.heap.size W7.heap.size wc zs ys Z7 WB) := F9.out.later hBy
    clear hbx hby hBx hBy hrx F9
    go_wp2
    go_region_held3 (fun w' => w'.cell? ⟨w.heap.size, 0, none⟩ = some (.bool g) ∧ w'.cell? ⟨w.heap.size, 1, none⟩ = some (.slice a zs.length c) ∧ w'.cell? ⟨w.heap.size + 1, 0, none⟩ = some (.bool g') ∧ w'.cell? ⟨w.heap.size + 1, 1, none⟩ = some (.slice a' ys.length c') ∧
        w'.cell? ⟨W5.heap.size, 0, none⟩ = some (.bool g) ∧ w'.cell? ⟨W5.heap.size, 1, none⟩ = some (.slice a5 zs.length zs.length) ∧ w'.cell? ⟨W6.heap.size, 0, none⟩ = some (.bool g') ∧ w'.cell? ⟨W6.heap.size, 1, none⟩ = some (.slice a6 ys.length ys.length) ∧ Below WB.heap.size WB w')
      (first | exact FB.out.held (Below.refl _ _).drew | exact FB.out.held (by assumption))
      (first
        | (go_at_call 10; refine (toB_any g' a' c' ys _ hyl (hy.later FB.out.bx.bel.drew)).mono ?_; rintro e WC ⟨ax, rfl, hrx, hbx⟩; have hBx : Below WB.heap.size WB WC := (Below.refl _ _).drew.trans hbx)
        | (go_at_call 12; refine (eqB_any _ _ _ _ _ _ ys ys _ (by unfold maxLen; omega) (by unfold maxLen; omega) (FB.out.later hBx).r1.row hrx.row).mono ?_; rintro e WD ⟨rfl, hby⟩; rw [show decide (g' = g' ∧ ys = ys) = true from by simp]; have hBy : Below WB.heap.size WB WD := hBx.trans (hby.mono hBx.size)))
    have FD : Hid (LB w g g' a a' c c' zs ys G7 Z7 aw cw a5 a6 ag cg T1 wc.heap.size W5.heap.size W6.heap.size W7.heap.size wc zs ys Z7 WD) := FB.out.later hBy
    clear hbx hby hBx hBy hrx FB
    have p0 := FD.out.p0
    have p1 := FD.out.p1
    go_wp2_with fail
    refine (markB_any g a5 _ zs 1 _ _ _ hzl (by decide) (by decide) FD.out.r0).mono ?_
    rintro e WE ⟨rfl, hrE, hwE⟩
    have FE : Hid (LB w g g' a a' c c' zs ys G7 Z7 aw cw a5 a6 ag cg T1 wc.heap.size W5.heap.size W6.heap.size W7.heap.size wc (marksL 1 zs.length) ys Z7 WE) := FD.out.mark0 hrE hwE
    clear hrE hwE p0 p1 FD
    have p2 := FE.out.p2
    have p3 := FE.out.p3
    go_wp2_with fail
    refine (markB_any g' a6 _ ys _ _ _ _ hyl (by omega) (by omega) FE.out.r1).mono ?_
    rintro e WF ⟨rfl, hrF, hwF⟩
    have FF : Hid (LB w g g' a a' c c' zs ys G7 Z7 aw cw a5 a6 ag cg T1 wc.heap.size W5.heap.size W6.heap.size W7.heap.size wc (marksL 1 zs.length) (marksL (1 + zs.length) ys.length) Z7 WF) := FE.out.mark1 hrF hwF
    clear hrF hwF p2 p3 FE
    have s0 := FF.out.w0
    have s1 := FF.out.w1
    have s2 := FF.out.g0
    have s3 := FF.out.g1
    have hk0 : ¬ (1 : Int) + zs.length + ys.length < 0 := by omega
    go_wp2_with fail
    refine (eqB_any _ _ _ _ _ _ Z7 Z7 _ (by unfold maxLen; omega) (by unfold maxLen; omega) FF.out.rg.row FF.out.wrow).mono ?_
    rintro e WG ⟨rfl, hbG⟩
    rw [show decide (G7 = G7 ∧ Z7 = Z7) = true from by simp]
    have FG : Hid (LB w g g' a a' c c' zs ys G7 Z7 aw cw a5 a6 ag cg T1 wc.heap.size W5.heap.size W6.heap.size W7.heap.size wc (marksL 1 zs.length) (marksL (1 + zs.length) ys.length) Z7 WG) := FF.out.later hbG
    clear hbG s0 s1 s2 s3 FF
    have s2 := FG.out.g0
    have s3 := FG.out.g1
    go_wp2_with fail
    refine (markB_any G7 ag _ Z7 1 _ _ _ (by omega) (by decide) (by decide) FG.out.rg).mono ?_
    rintro e WH ⟨rfl, hrH, hwH⟩
    have FH : Hid (LB w g g' a a' c c' zs ys G7 Z7 aw cw a5 a6 ag cg T1 wc.heap.size W5.heap.size W6.heap.size W7.heap.size wc (marksL 1 zs.length) (marksL (1 + zs.length) ys.length) (marksL 1 Z7.length) WH) := FG.out.markg hrH hwH
    clear hrH hwH s2 s3 FG
    have s2 := FH.out.g0
    have s3 := FH.out.g1
    go_wp2_with fail
    refine (heldB_any G7 ag _ Z7.length 1 _ (by omega) (by decide) (by decide) FH.out.rg.row).mono ?_
    rintro e WI ⟨rfl, hbI⟩
    have FI : Hid (LB w g g' a a' c c' zs ys G7 Z7 aw cw a5 a6 ag cg T1 wc.heap.size W5.heap.size W6.heap.size W7.heap.size wc (marksL 1 zs.length) (marksL (1 + zs.length) ys.length) (marksL 1 Z7.length) WI) := FH.out.later hbI
    clear hbI s2 s3 FH
    have hq0 : ¬ (1 : Int) + Z7.length < 0 := by omega
    have hqq : ((1 : Int) + Z7.length != 1 + Z7.length) = false := by simp
    go_wp2
    go_cut [15, 16] from 17 to 110 (fun s15 s16 wx => ∃ (aj : Option Addr) (cj T5 : Nat), s15 = .pointer (some ⟨T5, 0, none⟩) ∧ s16 = .int .i64 K7 ∧ Hid (LA w g g' a a' c c' zs ys G7 Z7 aj cj T5 wx) ∧ Hid (LB w g g' a a' c c' zs ys G7 Z7 aw cw a5 a6 ag cg T1 wc.heap.size W5.heap.size W6.heap.size W7.heap.size wc (marksL 1 zs.length) (marksL (1 + zs.length) ys.length) (marksL 1 Z7.length) wx))
    case first =>
      go_region_held3 (fun w' => w'.cell? ⟨w.heap.size, 0, none⟩ = some (.bool g) ∧ w'.cell? ⟨w.heap.size, 1, none⟩ = some (.slice a zs.length c) ∧ w'.cell? ⟨w.heap.size + 1, 0, none⟩ = some (.bool g') ∧ w'.cell? ⟨w.heap.size + 1, 1, none⟩ = some (.slice a' ys.length c') ∧ Below WI.heap.size WI w')
        (first | exact FI.out.bx.held (Below.refl _ _).drew | exact FI.out.bx.held (by assumption) | exact FI.out.bx.held (Below.alloc (by assumption) (Below.size (by assumption)) _) | exact FI.out.bx.held (Below.alloc (held_last (by assumption)) (Below.size (held_last (by assumption))) _) | exact FI.out.bx.held (Below.setCell (Below.setCell (by assumption) (by first | (simp; done) | (simp; omega)) _) (by first | (simp; done) | (simp; omega)) _))
        (first
          | (go_at_call_of 10 a; refine (toB_any g a c zs _ hzl (hz.later (FI.out.bx.bel.trans (Below.mono (held_last (by assumption)) FI.out.bx.bel.size)))).mono ?_; rintro e w2 ⟨a1, rfl, hr1, hb1⟩; have hB : Below WI.heap.size WI w2 := Below.trans (held_last (by assumption)) (Below.mono hb1 (Below.size (held_last (by assumption)))); have hs1 := hB.size; have K1 := fun {k a zs} (h : RowAt k _ a zs) => h.later hb1)
          | (go_at_call_of 10 a'; refine (toB_any g' a' c' ys _ hyl (hy.later (FI.out.bx.bel.trans (Below.mono (held_last (by assumption)) FI.out.bx.bel.size)))).mono ?_; rintro e w3 ⟨a2, rfl, hr2, hb2⟩; have hB' : Below WI.heap.size WI w3 := Below.trans (held_last (by assumption)) (Below.mono hb2 (Below.size (held_last (by assumption)))); have hs2 := hB'.size; have K2 := fun {k a zs} (h : RowAt k _ a zs) => h.later hb2)
          | (go_at_call 11; refine (imSub_any g g' a1 a2 _ _ zs ys _ hzl hyl ?_ ?_ hu hu').mono ?_; (first | exact hr1.row | exact hr1.row.later (bel0 _ _) | exact K2 hr1.row | exact K2 (hr1.row.later (bel0 _ _)) | exact (K2 hr1.row).later (bel0 _ _)); (first | exact hr2.row | exact hr2.row.later (bel0 _ _) | exact K1 hr2.row | exact K1 (hr2.row.later (bel0 _ _)) | exact (K1 hr2.row).later (bel0 _ _)); rintro e WJ ⟨GJ, ZJ, KJ, aj, cj, rfl, hresJ, hrj, hb4⟩; have hB4 : Below WI.heap.size WI WJ := Below.trans (held_last (by assumption)) (Below.mono hb4 (Below.size (held_last (by assumption)))); obtain ⟨eG, eZ, eK⟩ := hresJ.inj HRes.out; subst eG eZ eK; (first | (have hhc := (((Has.new WI 26).later (Below.refl _ _).drew).later hb1).later hb2; have hh := hhc.later hb4) | (have hhc := (Has.new w2 26).later hb2; have hh := hhc.later hb4) | (have hhc := Has.new w3 26; have hh := hhc.later hb4) | have hh : True := trivial); (try have r1 := hh.r1); (try have r2 := hh.r2); (try have r3 := hh.r3)))
      all_goals
        go_wp2_with fail
        go_meet
        case rel =>
          refine ⟨aj, cj, _, rfl, rfl, ?_, ?_⟩
          · first
              | exact LA.start (FI.out.bx.later hB4) hrj.row
              | exact LA.set (FI.out.bx.later hB4) hrj.row (hrj.far (Nat.le_refl _) (Nat.le_refl _)) hhc.lt hh (by first | exact Nat.le_refl _ | exact hs1 | exact hs2) FI.out.bx.le
          · first
              | exact FI.out.later (hB4.alloc hB4.size _)
              | exact FI.out.later ((hB4.setCell (by first | exact Nat.le_refl _ | exact hs1 | exact hs2) _).setCell (by first | exact Nat.le_refl _ | exact hs1 | exact hs2) _)
    case rest =>
      obtain ⟨aj, cj, T5, rfl, rfl, FJ, FK⟩ := hcut
      have s0 := FK.out.w0
      have s1 := FK.out.w1
      have s2 := FJ.out.w0
      have s3 := FJ.out.w1
      clear FI
      go_wp2_with fail
      refine (eqB_any _ _ _ _ _ _ Z7 Z7 _ (by unfold maxLen; omega) (by unfold maxLen; omega) FJ.out.rw FK.out.wrow).mono ?_
      rintro e WK ⟨rfl, hbK⟩
      rw [show decide (G7 = G7 ∧ Z7 = Z7) = true from by simp]
      have HB : Hid (Below w.heap.size w WK) := (FK.out.later hbK).bx.bel
      clear hbK s0 s1 s2 s3
      go_wp2
      go_ret
      exact ⟨rfl, HB.out⟩

theorem lawSub_any (g g' : Bool) (a a' : Option Addr) (c c' : Nat) (zs ys : List Int) (w : World) (hn : zs.length ≤ maxLen) (hn' : ys.length ≤ maxLen) (hz : RowAt .u32 w a zs) (hy : RowAt .u32 w a' ys) (hu : U32 zs) (hu' : U32 ys) :
    Calls Try.prog 3 #[.agg #[.bool g, .slice a zs.length c], .agg #[.bool g', .slice a' ys.length c']] w fun e w' => e = .returned (.bool true) ∧ Below w.heap.size w w' := by
  by_cases hl : (1048576 : Int) < zs.length
  · exact lawSub_far1 g g' a a' c c' zs ys w hn hl
  · by_cases hl2 : (1048576 : Int) - zs.length < ys.length
    · exact lawSub_far2 g g' a a' c c' zs ys w hn hn' hl hl2
    · exact lawSub_near g g' a a' c c' zs ys w hn hn' hz hy hu hu' hl hl2

end Go.Proofs.Ytlbegmepmeimkab
