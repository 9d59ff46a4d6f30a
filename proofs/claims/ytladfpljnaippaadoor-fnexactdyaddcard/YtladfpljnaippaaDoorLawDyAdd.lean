/-
  The law of DyAdd, walked.
-/
import Derived.Test.YtladfpljnaippaaDoorLawDB
import Derived.Deep.CutRange
import Derived.Deep.Light
import Derived.Test.YtladfpljnaippaaDoorDy1Dy3hDySAdd
import Derived.Test.YtladfpljnaippaaDoorDyJAddDyI0DyMk
import Derived.Test.YtladfpljnaippaaDoorDyJAddDyI0DyMk
import Derived.Test.YtladfpljnaippaaDoorDyJAddDyI0DyMk
namespace Go.Proofs.YtladfpljnaippaaDoor
open Go.RowKit

set_option maxHeartbeats 1000000 in
theorem lawDAdd_far1 (g g' : Bool) (a a' : Option Addr) (c c' : Nat) (zs ys : List Int) (E E' : Int) (w : World) (hn : zs.length ≤ maxLen) (hl : (1048576 : Int) < zs.length) :
    Calls Tryd.prog 5 #[.agg #[.bool g, .slice a zs.length c, .int .i64 E], .agg #[.bool g', .slice a' ys.length c', .int .i64 E']] w fun e w' => e = .returned (.bool true) ∧ Below w.heap.size w w' := by
  go_enter Tryd.func5, Tryd.ntmps5
  go_wp2_with fail
  refine (sz2_any _ _ _ _ _ _ _ hn (by omega) (by omega)).mono ?_
  rintro e w1 ⟨rfl, hb⟩
  rw [if_pos (by omega)]
  have HB : Hid (Below w.heap.size w w1) := (bel2 _ _ _).trans (hb.mono (by simp; omega))
  clear hb
  go_wp2
  go_ret
  exact ⟨rfl, HB.out⟩

set_option maxHeartbeats 1000000 in
theorem lawDAdd_far2 (g g' : Bool) (a a' : Option Addr) (c c' : Nat) (zs ys : List Int) (E E' : Int) (w : World) (hn : zs.length ≤ maxLen) (hn' : ys.length ≤ maxLen) (hl : ¬ (1048576 : Int) < zs.length) (hl2 : (1048576 : Int) - zs.length < ys.length) :
    Calls Tryd.prog 5 #[.agg #[.bool g, .slice a zs.length c, .int .i64 E], .agg #[.bool g', .slice a' ys.length c', .int .i64 E']] w fun e w' => e = .returned (.bool true) ∧ Below w.heap.size w w' := by
  go_enter Tryd.func5, Tryd.ntmps5
  go_wp2_with fail
  refine (sz2_any _ _ _ _ _ _ _ hn (by omega) (by omega)).mono ?_
  rintro e w1 ⟨rfl, hb⟩
  rw [if_neg (by omega)]
  have F1 : Hid (Bx6 w (.bool g) (.slice a zs.length c) (.int .i64 E) (.bool g') (.slice a' ys.length c') (.int .i64 E') w1) := (Bx6.start w _ _ _ _ _ _ _ _).later hb
  have q2 := F1.out.p0
  have q3 := F1.out.p1
  have qe := F1.out.p2
  have hm : 0 ≤ 1048576 - (zs.length : Int) := by omega
  clear hb
  go_wp2_with fail
  refine (sz2_any _ _ _ _ _ _ _ hn' (by omega) (by omega)).mono ?_
  rintro e w2 ⟨rfl, hb⟩
  rw [if_pos (by omega)]
  have HB : Hid (Below w.heap.size w w2) := (F1.out.later hb).bel
  clear hb
  go_wp2
  go_ret
  exact ⟨rfl, HB.out⟩

set_option maxRecDepth 100000 in
set_option maxHeartbeats 16000000 in
theorem lawDAdd_near (g g' : Bool) (a a' : Option Addr) (c c' : Nat) (zs ys : List Int) (E E' : Int) (w : World) (hn : zs.length ≤ maxLen) (hn' : ys.length ≤ maxLen) (hz : RowAt .u32 w a zs) (hy : RowAt .u32 w a' ys) (hu : U32 zs) (hu' : U32 ys) (hl : ¬ (1048576 : Int) < zs.length) (hl2 : ¬ (1048576 : Int) - zs.length < ys.length) (hT : Tab w) :
    Calls Tryd.prog 5 #[.agg #[.bool g, .slice a zs.length c, .int .i64 E], .agg #[.bool g', .slice a' ys.length c', .int .i64 E']] w fun e w' => e = .returned (.bool true) ∧ Below w.heap.size w w' := by
  have hm : 0 ≤ 1048576 - (zs.length : Int) := by omega
  have hm2 : 0 ≤ 1048576 - (zs.length : Int) - (ys.length : Int) := by omega
  have hzl : zs.length ≤ 1048576 := by omega
  have hyl : ys.length ≤ 1048576 := by omega
  have HT : Hid (Tab w) := hT
  clear hT
  go_enter Tryd.func5, Tryd.ntmps5
  go_wp2_with fail
  refine (sz2_any _ _ _ _ _ _ _ hn (by omega) (by omega)).mono ?_
  rintro e w1 ⟨rfl, hb⟩
  rw [if_neg (by omega)]
  have F1 : Hid (Bx6 w (.bool g) (.slice a zs.length c) (.int .i64 E) (.bool g') (.slice a' ys.length c') (.int .i64 E') w1) := (Bx6.start w _ _ _ _ _ _ _ _).later hb
  have q2 := F1.out.p0
  have q3 := F1.out.p1
  have qe := F1.out.p2
  clear hb
  go_wp2_with fail
  refine (sz2_any _ _ _ _ _ _ _ hn' (by omega) (by omega)).mono ?_
  rintro e W0 ⟨rfl, hb⟩
  rw [if_neg (by omega)]
  have F : Hid (Bx6 w (.bool g) (.slice a zs.length c) (.int .i64 E) (.bool g') (.slice a' ys.length c') (.int .i64 E') W0) := F1.out.later hb
  clear hb F1 q2 q3 qe
  go_wp2
  go_cut [6, 7] from 17 to 111 (fun s6 s7 wx => ∃ (G : Bool) (Z : List Int) (EZ K : Int) (aw : Option Addr) (cw T1 : Nat), s6 = .pointer (some ⟨T1, 0, none⟩) ∧ s7 = .int .i64 K ∧ Hid (LAD w g g' a a' c c' zs ys E E' G Z EZ aw cw T1 wx) ∧ Hid (ResD (validD g zs E && validD g' ys E') (atK 100000 (sg g (val 4294967296 zs)) E + atK 100000 (sg g' (val 4294967296 ys)) E') G Z EZ K))
  case first =>
    go_region_held3 (fun w' => w'.cell? ⟨w.heap.size, 0, none⟩ = some (.bool g) ∧ w'.cell? ⟨w.heap.size, 1, none⟩ = some (.slice a zs.length c) ∧ w'.cell? ⟨w.heap.size, 2, none⟩ = some (.int .i64 E) ∧ w'.cell? ⟨w.heap.size + 1, 0, none⟩ = some (.bool g') ∧ w'.cell? ⟨w.heap.size + 1, 1, none⟩ = some (.slice a' ys.length c') ∧ w'.cell? ⟨w.heap.size + 1, 2, none⟩ = some (.int .i64 E') ∧ Below W0.heap.size W0 w')
      (first | exact F.out.held (Below.refl _ _).drew | exact F.out.held (by assumption) | exact F.out.held (Below.alloc (by assumption) (Below.size (by assumption)) _) | exact F.out.held (Below.alloc (held7 (by assumption)) (Below.size (held7 (by assumption))) _) | exact F.out.held (Below.setCell (Below.setCell (Below.setCell (by assumption) (by first | (simp; done) | (simp; omega)) _) (by first | (simp; done) | (simp; omega)) _) (by first | (simp; done) | (simp; omega)) _))
      (first
        | (go_at_call_of 13 a; refine (to2_any g a c zs E _ hzl (hz.later (F.out.bel.trans (Below.mono (held7 (by assumption)) F.out.bel.size)))).mono ?_; rintro e w2 ⟨a1, rfl, hr1, hb1⟩; have hB : Below W0.heap.size W0 w2 := Below.trans (held7 (by assumption)) (Below.mono hb1 (Below.size (held7 (by assumption)))); have hs1 := hB.size; have K1 := fun {k a zs} (h : RowAt k _ a zs) => h.later hb1)
        | (go_at_call_of 13 a'; refine (to2_any g' a' c' ys E' _ hyl (hy.later (F.out.bel.trans (Below.mono (held7 (by assumption)) F.out.bel.size)))).mono ?_; rintro e w3 ⟨a2, rfl, hr2, hb2⟩; have hB' : Below W0.heap.size W0 w3 := Below.trans (held7 (by assumption)) (Below.mono hb2 (Below.size (held7 (by assumption)))); have hs2 := hB'.size; have K2 := fun {k a zs} (h : RowAt k _ a zs) => h.later hb2)
        | (go_at_call 15; refine (addDS_any g g' a1 a2 _ _ zs ys E E' _ hzl hyl ?_ ?_ hu hu').mono ?_; (first | exact hr1.row | exact hr1.row.later (bel0 _ _) | exact K2 hr1.row | exact K2 (hr1.row.later (bel0 _ _)) | exact (K2 hr1.row).later (bel0 _ _)); (first | exact hr2.row | exact hr2.row.later (bel0 _ _) | exact K1 hr2.row | exact K1 (hr2.row.later (bel0 _ _)) | exact (K1 hr2.row).later (bel0 _ _)); rintro e W4 ⟨G, Z, EZ, K, aw, cw, rfl, hres, hrw, hfar, hb4⟩; have hB4 : Below W0.heap.size W0 W4 := Below.trans (held7 (by assumption)) (Below.mono hb4 (Below.size (held7 (by assumption)))); (first | (have hhc := (((Has3.new W0 27).later (Below.refl _ _).drew).later hb1).later hb2; have hh := hhc.later hb4) | (have hhc := (Has3.new w2 27).later hb2; have hh := hhc.later hb4) | (have hhc := Has3.new w3 27; have hh := hhc.later hb4) | have hh : True := trivial); (try have r1 := hh.r1); (try have r2 := hh.r2); (try have r3 := hh.r3); (try have r4 := hh.r4)))
    all_goals
      go_wp2_with fail
      go_meet
      case rel =>
        refine ⟨G, Z, EZ, K, aw, cw, _, rfl, rfl, ?_, hres⟩
        first
          | exact LAD.start (F.out.later hB4) hrw
          | exact LAD.set (F.out.later hB4) hrw hfar hhc.lt hh (by first | exact Nat.le_refl _ | exact hs1 | exact hs2) F.out.le
  case rest =>
    obtain ⟨G, Z, EZ, K, aw, cw, T1, rfl, rfl, FA, HRes⟩ := hcut
    have hZl : Z.length ≤ 512 := HRes.out.len.1
    have q0 := FA.out.bx.q0
    have q1 := FA.out.bx.q1
    have qe := FA.out.bx.q2
    have zz : w.heap.size + 1 < wc.heap.size := FA.out.bx.le
    go_wp2_with fail
    refine (to2_any g a c zs E _ hzl (hz.later FA.out.bx.bel)).mono ?_
    rintro e W5 ⟨a5, rfl, hr5, hb5⟩
    have F5 : Hid (LAD w g g' a a' c c' zs ys E E' G Z EZ aw cw T1 W5) := FA.out.later hb5
    have R5 : Hid (RowNew .u32 W5 wc.heap.size a5 zs) := hr5
    have HB5 : Hid (Below wc.heap.size wc W5) := hb5
    clear q0 q1 qe hb5 hr5
    have q2 := F5.out.bx.p0
    have q3 := F5.out.bx.p1
    have qe := F5.out.bx.p2
    have z5 : w.heap.size + 1 < W5.heap.size := F5.out.bx.le
    have z5' : T1 < W5.heap.size := F5.out.o1
    go_wp2_with fail
    refine (to2_any g' a' c' ys E' _ hyl (hy.later (F5.out.bx.bel.trans ((bel0 _ _).mono F5.out.bx.bel.size)))).mono ?_
    rintro e W6 ⟨a6, rfl, hr6, hb6⟩
    have R6 : Hid (RowNew .u32 W6 (W5.heap.size + 1) a6 ys) := by unfold Hid; simpa using hr6
    have HB6 : Hid (Below (W5.alloc (.cells #[.bool g, .slice a5 zs.length zs.length, .int .i64 E] 27)).heap.size (W5.alloc (.cells #[.bool g, .slice a5 zs.length zs.length, .int .i64 E] 27)) W6) := hb6
    have q4 : W6.cell? ⟨W5.heap.size, 0, none⟩ = some (.bool g) := by rw [(bcell hb6).1 _ _ (by simp)]; simp [go_sem]
    have q5 : W6.cell? ⟨W5.heap.size, 1, none⟩ = some (.slice a5 zs.length zs.length) := by rw [(bcell hb6).1 _ _ (by simp)]; simp [go_sem]
    have q6 : W6.cell? ⟨W5.heap.size, 2, none⟩ = some (.int .i64 E) := by rw [(bcell hb6).1 _ _ (by simp)]; simp [go_sem]
    have HT6 : Hid (Tab W6) := ((HT.out.later F5.out.bx.bel).later (bel0 _ _)).later hb6
    have z6 : W5.heap.size < W6.heap.size := by have := hb6.size; simp at this; omega
    have r50 : Hid (RowAt .u32 W6 a5 zs) := (R5.out.row.later (bel0 _ _)).later hb6
    clear hb6 hr6 q2 q3 qe
    go_wp2_with fail
    refine (addDI_any g g' a5 a6 _ _ zs ys E E' _ hzl hyl (r50.out.later (bel0 _ _)) (R6.out.row.later (bel0 _ _)) hu hu' (HT6.out.later (bel0 _ _))).mono ?_
    rintro e W7 ⟨G7, Z7, EZ7, K7, ag, cg, rfl, hres7, hrg, hb7⟩
    obtain ⟨eG, eZ, eE, eK⟩ := hres7.inj HRes.out
    subst eG eZ eE eK
    have F8 : Hid (∀ t2, LBD w g g' a a' c c' zs ys E E' G7 Z7 EZ7 aw cw a5 a6 ag cg T1 wc.heap.size W5.heap.size W6.heap.size W7.heap.size wc zs ys Z7 (W7.alloc (.cells #[.bool G7, .slice ag Z7.length cg, .int .i64 EZ7] t2))) := fun t2 => LBD.start FA.out HB5.out R5.out HB6.out R6.out hb7 (by simpa using hrg) rfl
    have s0 := (F8.out 27).w0
    have s1 := (F8.out 27).w1
    have se := (F8.out 27).we
    have z7 : W6.heap.size < W7.heap.size := (F8.out 27).o3
    have zT : T1 < W7.heap.size := by omega
    rw [World.cell?_alloc_past _ _ _ zT] at s0 s1 se
    clear q4 q5 q6 HT6 hres7 hrg hb7 HB6 R6 R5 r50 F5 HB5 FA
    go_wp2_with fail
    refine (eq2_any _ _ _ _ _ Z7 _ _ (by unfold maxLen; omega) (F8.out _).rg.row (F8.out _).wrow).mono ?_
    rintro e W9 ⟨rfl, hb9⟩
    have F9 : Hid (LBD w g g' a a' c c' zs ys E E' G7 Z7 EZ7 aw cw a5 a6 ag cg T1 wc.heap.size W5.heap.size W6.heap.size W7.heap.size wc zs ys Z7 W9) := (F8.out _).later hb9
    have hKK : (K7 != K7) = false := by simp
    clear hb9 s0 s1 se F8
    go_wp2
    go_region_held3 (fun w' => w'.cell? ⟨w.heap.size, 0, none⟩ = some (.bool g) ∧ w'.cell? ⟨w.heap.size, 1, none⟩ = some (.slice a zs.length c) ∧ w'.cell? ⟨w.heap.size, 2, none⟩ = some (.int .i64 E) ∧ w'.cell? ⟨w.heap.size + 1, 0, none⟩ = some (.bool g') ∧ w'.cell? ⟨w.heap.size + 1, 1, none⟩ = some (.slice a' ys.length c') ∧ w'.cell? ⟨w.heap.size + 1, 2, none⟩ = some (.int .i64 E') ∧
        w'.cell? ⟨W5.heap.size, 0, none⟩ = some (.bool g) ∧ w'.cell? ⟨W5.heap.size, 1, none⟩ = some (.slice a5 zs.length zs.length) ∧ w'.cell? ⟨W5.heap.size, 2, none⟩ = some (.int .i64 E) ∧ w'.cell? ⟨W6.heap.size, 0, none⟩ = some (.bool g') ∧ w'.cell? ⟨W6.heap.size, 1, none⟩ = some (.slice a6 ys.length ys.length) ∧ w'.cell? ⟨W6.heap.size, 2, none⟩ = some (.int .i64 E') ∧ Below W9.heap.size W9 w')
      (first | exact F9.out.held (Below.refl _ _).drew | exact F9.out.held (by assumption))
      (first
        | (go_at_call 13; refine (to2_any g a c zs E _ hzl (hz.later F9.out.bx.bel.drew)).mono ?_; rintro e WA ⟨ax, rfl, hrx, hbx⟩; have hBx : Below W9.heap.size W9 WA := (Below.refl _ _).drew.trans hbx)
        | (go_at_call 8; refine (eq2_any _ _ _ _ _ zs _ _ (by unfold maxLen; omega) (F9.out.later hBx).r0.row hrx.row).mono ?_; rintro e WB ⟨rfl, hby⟩; have hBy : Below W9.heap.size W9 WB := hBx.trans (hby.mono hBx.size)))
    have FB : Hid (LBD w g g' a a' c c' zs ys E E' G7 Z7 EZ7 aw cw a5 a6 ag cg T1 wc.heap.size W5.heap.size W6.heap.size W7.heap.size wc zs ys Z7 WB) := F9.out.later hBy
    clear hbx hby hBx hBy hrx F9
    go_wp2
    go_region_held3 (fun w' => w'.cell? ⟨w.heap.size, 0, none⟩ = some (.bool g) ∧ w'.cell? ⟨w.heap.size, 1, none⟩ = some (.slice a zs.length c) ∧ w'.cell? ⟨w.heap.size, 2, none⟩ = some (.int .i64 E) ∧ w'.cell? ⟨w.heap.size + 1, 0, none⟩ = some (.bool g') ∧ w'.cell? ⟨w.heap.size + 1, 1, none⟩ = some (.slice a' ys.length c') ∧ w'.cell? ⟨w.heap.size + 1, 2, none⟩ = some (.int .i64 E') ∧
        w'.cell? ⟨W5.heap.size, 0, none⟩ = some (.bool g) ∧ w'.cell? ⟨W5.heap.size, 1, none⟩ = some (.slice a5 zs.length zs.length) ∧ w'.cell? ⟨W5.heap.size, 2, none⟩ = some (.int .i64 E) ∧ w'.cell? ⟨W6.heap.size, 0, none⟩ = some (.bool g') ∧ w'.cell? ⟨W6.heap.size, 1, none⟩ = some (.slice a6 ys.length ys.length) ∧ w'.cell? ⟨W6.heap.size, 2, none⟩ = some (.int .i64 E') ∧ Below WB.heap.size WB w')
      (first | exact FB.out.held (Below.refl _ _).drew | exact FB.out.held (by assumption))
      (first
        | (go_at_call 13; refine (to2_any g' a' c' ys E' _ hyl (hy.later FB.out.bx.bel.drew)).mono ?_; rintro e WC ⟨ax, rfl, hrx, hbx⟩; have hBx : Below WB.heap.size WB WC := (Below.refl _ _).drew.trans hbx)
        | (go_at_call 8; refine (eq2_any _ _ _ _ _ ys _ _ (by unfold maxLen; omega) (FB.out.later hBx).r1.row hrx.row).mono ?_; rintro e WD ⟨rfl, hby⟩; have hBy : Below WB.heap.size WB WD := hBx.trans (hby.mono hBx.size)))
    have FD : Hid (LBD w g g' a a' c c' zs ys E E' G7 Z7 EZ7 aw cw a5 a6 ag cg T1 wc.heap.size W5.heap.size W6.heap.size W7.heap.size wc zs ys Z7 WD) := FB.out.later hBy
    clear hbx hby hBx hBy hrx FB
    have p0 := FD.out.p0
    have p1 := FD.out.p1
    have pe := FD.out.pe
    go_wp2_with fail
    refine (mark2_any g a5 _ zs E 1 _ _ _ hzl (by decide) (by decide) FD.out.r0).mono ?_
    rintro e WE ⟨rfl, hrE, hwE⟩
    have FE : Hid (LBD w g g' a a' c c' zs ys E E' G7 Z7 EZ7 aw cw a5 a6 ag cg T1 wc.heap.size W5.heap.size W6.heap.size W7.heap.size wc (marksL 1 zs.length) ys Z7 WE) := FD.out.mark0 hrE hwE
    clear hrE hwE p0 p1 pe FD
    have p2 := FE.out.p2
    have p3 := FE.out.p3
    have pf := FE.out.pf
    go_wp2_with fail
    refine (mark2_any g' a6 _ ys E' _ _ _ _ hyl (by omega) (by omega) FE.out.r1).mono ?_
    rintro e WF ⟨rfl, hrF, hwF⟩
    have FF : Hid (LBD w g g' a a' c c' zs ys E E' G7 Z7 EZ7 aw cw a5 a6 ag cg T1 wc.heap.size W5.heap.size W6.heap.size W7.heap.size wc (marksL 1 zs.length) (marksL (1 + zs.length) ys.length) Z7 WF) := FE.out.mark1 hrF hwF
    clear hrF hwF p2 p3 pf FE
    have s0 := FF.out.w0
    have s1 := FF.out.w1
    have se := FF.out.we
    have s2 := FF.out.g0
    have s3 := FF.out.g1
    have sf := FF.out.ge
    have hk0 : ¬ (1 : Int) + zs.length + ys.length < 0 := by omega
    go_wp2_with fail
    refine (eq2_any _ _ _ _ _ Z7 _ _ (by unfold maxLen; omega) FF.out.rg.row FF.out.wrow).mono ?_
    rintro e WG ⟨rfl, hbG⟩
    have FG : Hid (LBD w g g' a a' c c' zs ys E E' G7 Z7 EZ7 aw cw a5 a6 ag cg T1 wc.heap.size W5.heap.size W6.heap.size W7.heap.size wc (marksL 1 zs.length) (marksL (1 + zs.length) ys.length) Z7 WG) := FF.out.later hbG
    clear hbG s0 s1 se s2 s3 sf FF
    have s2 := FG.out.g0
    have s3 := FG.out.g1
    have sf := FG.out.ge
    go_wp2_with fail
    refine (mark2_any G7 ag _ Z7 EZ7 1 _ _ _ (by omega) (by decide) (by decide) FG.out.rg).mono ?_
    rintro e WH ⟨rfl, hrH, hwH⟩
    have FH : Hid (LBD w g g' a a' c c' zs ys E E' G7 Z7 EZ7 aw cw a5 a6 ag cg T1 wc.heap.size W5.heap.size W6.heap.size W7.heap.size wc (marksL 1 zs.length) (marksL (1 + zs.length) ys.length) (marksL 1 Z7.length) WH) := FG.out.markg hrH hwH
    clear hrH hwH s2 s3 sf FG
    have s2 := FH.out.g0
    have s3 := FH.out.g1
    have sf := FH.out.ge
    go_wp2_with fail
    refine (held2_any G7 ag _ Z7.length EZ7 1 _ (by omega) (by decide) (by decide) FH.out.rg.row).mono ?_
    rintro e WI ⟨rfl, hbI⟩
    have FI : Hid (LBD w g g' a a' c c' zs ys E E' G7 Z7 EZ7 aw cw a5 a6 ag cg T1 wc.heap.size W5.heap.size W6.heap.size W7.heap.size wc (marksL 1 zs.length) (marksL (1 + zs.length) ys.length) (marksL 1 Z7.length) WI) := FH.out.later hbI
    clear hbI s2 s3 sf FH
    have hq0 : ¬ (1 : Int) + Z7.length < 0 := by omega
    have hqq : ((1 : Int) + Z7.length != 1 + Z7.length) = false := by simp
    go_wp2
    go_cut [15, 16] from 17 to 111 (fun s15 s16 wx => ∃ (aj : Option Addr) (cj T5 : Nat), s15 = .pointer (some ⟨T5, 0, none⟩) ∧ s16 = .int .i64 K7 ∧ Hid (LAD w g g' a a' c c' zs ys E E' G7 Z7 EZ7 aj cj T5 wx) ∧ Hid (LBD w g g' a a' c c' zs ys E E' G7 Z7 EZ7 aw cw a5 a6 ag cg T1 wc.heap.size W5.heap.size W6.heap.size W7.heap.size wc (marksL 1 zs.length) (marksL (1 + zs.length) ys.length) (marksL 1 Z7.length) wx))
    case first =>
      go_region_held3 (fun w' => w'.cell? ⟨w.heap.size, 0, none⟩ = some (.bool g) ∧ w'.cell? ⟨w.heap.size, 1, none⟩ = some (.slice a zs.length c) ∧ w'.cell? ⟨w.heap.size, 2, none⟩ = some (.int .i64 E) ∧ w'.cell? ⟨w.heap.size + 1, 0, none⟩ = some (.bool g') ∧ w'.cell? ⟨w.heap.size + 1, 1, none⟩ = some (.slice a' ys.length c') ∧ w'.cell? ⟨w.heap.size + 1, 2, none⟩ = some (.int .i64 E') ∧ Below WI.heap.size WI w')
        (first | exact FI.out.bx.held (Below.refl _ _).drew | exact FI.out.bx.held (by assumption) | exact FI.out.bx.held (Below.alloc (by assumption) (Below.size (by assumption)) _) | exact FI.out.bx.held (Below.alloc (held7 (by assumption)) (Below.size (held7 (by assumption))) _) | exact FI.out.bx.held (Below.setCell (Below.setCell (Below.setCell (by assumption) (by first | (simp; done) | (simp; omega)) _) (by first | (simp; done) | (simp; omega)) _) (by first | (simp; done) | (simp; omega)) _))
        (first
          | (go_at_call_of 13 a; refine (to2_any g a c zs E _ hzl (hz.later (FI.out.bx.bel.trans (Below.mono (held7 (by assumption)) FI.out.bx.bel.size)))).mono ?_; rintro e w2 ⟨a1, rfl, hr1, hb1⟩; have hB : Below WI.heap.size WI w2 := Below.trans (held7 (by assumption)) (Below.mono hb1 (Below.size (held7 (by assumption)))); have hs1 := hB.size; have K1 := fun {k a zs} (h : RowAt k _ a zs) => h.later hb1)
          | (go_at_call_of 13 a'; refine (to2_any g' a' c' ys E' _ hyl (hy.later (FI.out.bx.bel.trans (Below.mono (held7 (by assumption)) FI.out.bx.bel.size)))).mono ?_; rintro e w3 ⟨a2, rfl, hr2, hb2⟩; have hB' : Below WI.heap.size WI w3 := Below.trans (held7 (by assumption)) (Below.mono hb2 (Below.size (held7 (by assumption)))); have hs2 := hB'.size; have K2 := fun {k a zs} (h : RowAt k _ a zs) => h.later hb2)
          | (go_at_call 16; refine (addDI_any g g' a1 a2 _ _ zs ys E E' _ hzl hyl ?_ ?_ hu hu' (HT.out.later (FI.out.bx.bel.trans (Below.mono (held7 (by assumption)) FI.out.bx.bel.size)))).mono ?_; (first | exact hr1.row | exact hr1.row.later (bel0 _ _) | exact K2 hr1.row | exact K2 (hr1.row.later (bel0 _ _)) | exact (K2 hr1.row).later (bel0 _ _)); (first | exact hr2.row | exact hr2.row.later (bel0 _ _) | exact K1 hr2.row | exact K1 (hr2.row.later (bel0 _ _)) | exact (K1 hr2.row).later (bel0 _ _)); rintro e WJ ⟨GJ, ZJ, EJ, KJ, aj, cj, rfl, hresJ, hrj, hb4⟩; have hB4 : Below WI.heap.size WI WJ := Below.trans (held7 (by assumption)) (Below.mono hb4 (Below.size (held7 (by assumption)))); obtain ⟨eG, eZ, eE, eK⟩ := hresJ.inj HRes.out; subst eG eZ eE eK; (first | (have hhc := (((Has3.new WI 27).later (Below.refl _ _).drew).later hb1).later hb2; have hh := hhc.later hb4) | (have hhc := (Has3.new w2 27).later hb2; have hh := hhc.later hb4) | (have hhc := Has3.new w3 27; have hh := hhc.later hb4) | have hh : True := trivial); (try have r1 := hh.r1); (try have r2 := hh.r2); (try have r3 := hh.r3); (try have r4 := hh.r4)))
      all_goals
        go_wp2_with fail
        go_meet
        case rel =>
          refine ⟨aj, cj, _, rfl, rfl, ?_, ?_⟩
          · first
              | exact LAD.start (FI.out.bx.later hB4) hrj.row
              | exact LAD.set (FI.out.bx.later hB4) hrj.row (hrj.far (Nat.le_refl _) (Nat.le_refl _)) hhc.lt hh (by first | exact Nat.le_refl _ | exact hs1 | exact hs2) FI.out.bx.le
          · first
              | exact FI.out.later (hB4.alloc hB4.size _)
              | exact FI.out.later (((hB4.setCell (by first | exact Nat.le_refl _ | exact hs1 | exact hs2) _).setCell (by first | exact Nat.le_refl _ | exact hs1 | exact hs2) _).setCell (by first | exact Nat.le_refl _ | exact hs1 | exact hs2) _)
    case rest =>
      obtain ⟨aj, cj, T5, rfl, rfl, FJ, FK⟩ := hcut
      have s0 := FK.out.w0
      have s1 := FK.out.w1
      have se := FK.out.we
      have s2 := FJ.out.w0
      have s3 := FJ.out.w1
      have sf := FJ.out.we
      clear FI
      go_wp2_with fail
      refine (eq2_any _ _ _ _ _ Z7 _ _ (by unfold maxLen; omega) FJ.out.rw FK.out.wrow).mono ?_
      rintro e WK ⟨rfl, hbK⟩
      have HB : Hid (Below w.heap.size w WK) := (FK.out.later hbK).bx.bel
      clear hbK s0 s1 se s2 s3 sf
      go_wp2
      go_ret
      exact ⟨rfl, HB.out⟩

theorem lawDAdd_any (g g' : Bool) (a a' : Option Addr) (c c' : Nat) (zs ys : List Int) (E E' : Int) (w : World) (hn : zs.length ≤ maxLen) (hn' : ys.length ≤ maxLen) (hz : RowAt .u32 w a zs) (hy : RowAt .u32 w a' ys) (hu : U32 zs) (hu' : U32 ys) (hT : Tab w) :
    Calls Tryd.prog 5 #[.agg #[.bool g, .slice a zs.length c, .int .i64 E], .agg #[.bool g', .slice a' ys.length c', .int .i64 E']] w fun e w' => e = .returned (.bool true) ∧ Below w.heap.size w w' := by
  by_cases hl : (1048576 : Int) < zs.length
  · exact lawDAdd_far1 g g' a a' c c' zs ys E E' w hn hl
  · by_cases hl2 : (1048576 : Int) - zs.length < ys.length
    · exact lawDAdd_far2 g g' a a' c c' zs ys E E' w hn hn' hl hl2
    · exact lawDAdd_near g g' a a' c c' zs ys E E' w hn hn' hz hy hu hu' hl hl2 hT

end Go.Proofs.YtladfpljnaippaaDoor
