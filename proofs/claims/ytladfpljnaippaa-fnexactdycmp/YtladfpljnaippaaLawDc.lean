/-
  The law FnExactDyCmp's walk.
-/
import Derived.Test.YtladfpljnaippaaDy3bDyI8
import Derived.Test.YtladfpljnaippaaDyI0
namespace Go.Proofs.Ytladfpljnaippaa
open Go.RowKit

/-- What holds of memory while a law over two Dyadics runs: the boxes of its arguments, the arguments' own rows. -/
structure LawD2 (w : World) (g g' : Bool) (a a' : Option Addr) (c c' : Nat) (zs ys : List Int) (E E' : Int) (W : World) : Prop where
  bx : Bx6 w (.bool g) (.slice a zs.length c) (.int .i64 E) (.bool g') (.slice a' ys.length c') (.int .i64 E') W
  z : RowAt .u32 W a zs
  y : RowAt .u32 W a' ys

theorem LawD2.later {w : World} {g g' : Bool} {a a' : Option Addr} {c c' : Nat} {zs ys : List Int} {E E' : Int} {W W' : World} (h : LawD2 w g g' a a' c c' zs ys E E' W) (hb : Below W.heap.size W W') : LawD2 w g g' a a' c c' zs ys E E' W' :=
  ⟨h.bx.later hb, h.z.later hb, h.y.later hb⟩

/-- .. and the boxes of the two copies that the program is called with. -/
structure LawD4 (w : World) (g g' : Bool) (a a' : Option Addr) (c c' : Nat) (zs ys : List Int) (E E' : Int) (b0 b1 B0 B1 : Nat) (x0 x1 : Option Addr) (W : World) : Prop where
  l2 : LawD2 w g g' a a' c c' zs ys E E' W
  p0 : W.cell? ⟨b0, 0, none⟩ = some (.bool g)
  p1 : W.cell? ⟨b0, 1, none⟩ = some (.slice x0 zs.length zs.length)
  pe : W.cell? ⟨b0, 2, none⟩ = some (.int .i64 E)
  p2 : W.cell? ⟨b1, 0, none⟩ = some (.bool g')
  p3 : W.cell? ⟨b1, 1, none⟩ = some (.slice x1 ys.length ys.length)
  pf : W.cell? ⟨b1, 2, none⟩ = some (.int .i64 E')
  lt : w.heap.size + 1 < b0
  lt1 : b0 < b1
  lt2 : b1 < W.heap.size
  r0 : RowNew .u32 W B0 x0 zs
  r1 : RowNew .u32 W B1 x1 ys

theorem LawD4.later {w : World} {g g' : Bool} {a a' : Option Addr} {c c' : Nat} {zs ys : List Int} {E E' : Int} {b0 b1 B0 B1 : Nat} {x0 x1 : Option Addr} {W W' : World} (h : LawD4 w g g' a a' c c' zs ys E E' b0 b1 B0 B1 x0 x1 W) (hb : Below W.heap.size W W') : LawD4 w g g' a a' c c' zs ys E E' b0 b1 B0 B1 x0 x1 W' := by
  have h1 := h.lt1
  have h2 := h.lt2
  exact ⟨h.l2.later hb, (hb.cell (by simp; omega)).trans h.p0, (hb.cell (by simp; omega)).trans h.p1, (hb.cell (by simp; omega)).trans h.pe, (hb.cell (by simpa using h2)).trans h.p2, (hb.cell (by simpa using h2)).trans h.p3, (hb.cell (by simpa using h2)).trans h.pf, h.lt, h1, Nat.lt_of_lt_of_le h2 hb.size, h.r0.later hb, h.r1.later hb⟩

/-- What the regions of the law need of it. -/
theorem LawD4.held {w : World} {g g' : Bool} {a a' : Option Addr} {c c' : Nat} {zs ys : List Int} {E E' : Int} {b0 b1 B0 B1 : Nat} {x0 x1 : Option Addr} {W W' : World} (h : LawD4 w g g' a a' c c' zs ys E E' b0 b1 B0 B1 x0 x1 W) (hb : Below W.heap.size W W') :
    W'.cell? ⟨w.heap.size, 0, none⟩ = some (.bool g) ∧ W'.cell? ⟨w.heap.size, 1, none⟩ = some (.slice a zs.length c) ∧ W'.cell? ⟨w.heap.size, 2, none⟩ = some (.int .i64 E) ∧ W'.cell? ⟨w.heap.size + 1, 0, none⟩ = some (.bool g') ∧ W'.cell? ⟨w.heap.size + 1, 1, none⟩ = some (.slice a' ys.length c') ∧ W'.cell? ⟨w.heap.size + 1, 2, none⟩ = some (.int .i64 E') ∧
    W'.cell? ⟨b0, 0, none⟩ = some (.bool g) ∧ W'.cell? ⟨b0, 1, none⟩ = some (.slice x0 zs.length zs.length) ∧ W'.cell? ⟨b0, 2, none⟩ = some (.int .i64 E) ∧ W'.cell? ⟨b1, 0, none⟩ = some (.bool g') ∧ W'.cell? ⟨b1, 1, none⟩ = some (.slice x1 ys.length ys.length) ∧ W'.cell? ⟨b1, 2, none⟩ = some (.int .i64 E') ∧ Below W.heap.size W W' :=
  ⟨(h.later hb).l2.bx.q0, (h.later hb).l2.bx.q1, (h.later hb).l2.bx.q2, (h.later hb).l2.bx.p0, (h.later hb).l2.bx.p1, (h.later hb).l2.bx.p2, (h.later hb).p0, (h.later hb).p1, (h.later hb).pe, (h.later hb).p2, (h.later hb).p3, (h.later hb).pf, hb⟩

theorem LawD4.start {w : World} {g g' : Bool} {a a' : Option Addr} {c c' : Nat} {zs ys : List Int} {E E' : Int} {B0 B1 : Nat} {x0 x1 : Option Addr} {W5 W6 : World} {t t' : TypeId} (h5 : LawD2 w g g' a a' c c' zs ys E E' W5) (hr0 : RowNew .u32 W5 B0 x0 zs)
    (hb : Below (W5.alloc (.cells #[.bool g, .slice x0 zs.length zs.length, .int .i64 E] t)).heap.size (W5.alloc (.cells #[.bool g, .slice x0 zs.length zs.length, .int .i64 E] t)) W6) (hr1 : RowNew .u32 W6 B1 x1 ys) :
    LawD4 w g g' a a' c c' zs ys E E' W5.heap.size W6.heap.size B0 B1 x0 x1 (W6.alloc (.cells #[.bool g', .slice x1 ys.length ys.length, .int .i64 E'] t')) := by
  have hsz := hb.size
  simp at hsz
  have hle := h5.bx.le
  have hb2 : Below W5.heap.size W5 (W6.alloc (.cells #[.bool g', .slice x1 ys.length ys.length, .int .i64 E'] t')) := ((bel0 _ _).trans (hb.mono (by simp))).alloc (by omega) _
  have e0 : ∀ j, (W6.alloc (.cells #[.bool g', .slice x1 ys.length ys.length, .int .i64 E'] t')).cell? ⟨W5.heap.size, j, none⟩ = #[Value.bool g, .slice x0 zs.length zs.length, .int .i64 E][j]? := by
    intro j
    rw [World.cell?_alloc_past _ _ _ (by omega), hb.cell (by simp), World.cell?_alloc_at _ _ _ _ rfl]
  refine ⟨h5.later hb2, by rw [e0]; rfl, by rw [e0]; rfl, by rw [e0]; rfl, by simp [go_sem], by simp [go_sem], by simp [go_sem], by omega, by omega, by simp, hr0.later hb2, hr1.later (bel0 _ _)⟩

set_option maxRecDepth 100000 in
set_option maxHeartbeats 16000000 in
theorem lawDyCmp_any (g g' : Bool) (a a' : Option Addr) (c c' : Nat) (zs ys : List Int) (E E' : Int) (w : World) (hn : zs.length ≤ maxLen) (hn' : ys.length ≤ maxLen) (hz : RowAt .u32 w a zs) (hy : RowAt .u32 w a' ys) (hu : U32 zs) (hu' : U32 ys) :
    Calls Try.prog 5 #[.agg #[.bool g, .slice a zs.length c, .int .i64 E], .agg #[.bool g', .slice a' ys.length c', .int .i64 E']] w fun e w' => e = .returned (.bool true) ∧ Below w.heap.size w w' := by
  by_cases hl : (1048576 : Int) < zs.length
  · go_enter Try.func5, Try.ntmps5
    go_wp2_with fail
    refine (sz2_any _ _ _ _ _ _ _ hn (by omega) (by omega)).mono ?_
    rintro e w1 ⟨rfl, hb⟩
    rw [if_pos (by omega)]
    have HB : Hid (Below w.heap.size w w1) := (bel2 _ _ _).trans (hb.mono (by simp; omega))
    clear hb
    go_wp2
    go_ret
    exact ⟨rfl, HB.out⟩
  · by_cases hl2 : (1048576 : Int) - zs.length < ys.length
    · go_enter Try.func5, Try.ntmps5
      go_wp2_with fail
      refine (sz2_any _ _ _ _ _ _ _ hn (by omega) (by omega)).mono ?_
      rintro e w1 ⟨rfl, hb⟩
      rw [if_neg (by omega)]
      have F1 : Hid (Bx6 w (.bool g) (.slice a zs.length c) (.int .i64 E) (.bool g') (.slice a' ys.length c') (.int .i64 E') w1) := (Bx6.start w _ _ _ _ _ _ _ _).later hb
      have q2 := F1.out.p0
      have q3 := F1.out.p1
      have qe := F1.out.p2
      have hm : 0 ≤ 1048576 - (zs.length : Int) := by omega
      clear hb
      go_wp2_with fail
      refine (sz2_any _ _ _ _ _ _ _ hn' (by omega) (by omega)).mono ?_
      rintro e w2 ⟨rfl, hb⟩
      rw [if_pos (by omega)]
      have HB : Hid (Below w.heap.size w w2) := (F1.out.later hb).bel
      clear hb
      go_wp2
      go_ret
      exact ⟨rfl, HB.out⟩
    · have hm : 0 ≤ 1048576 - (zs.length : Int) := by omega
      have hm2 : 0 ≤ 1048576 - (zs.length : Int) - (ys.length : Int) := by omega
      have hzl : zs.length ≤ 1048576 := by omega
      have hyl : ys.length ≤ 1048576 := by omega
      go_enter Try.func5, Try.ntmps5
      go_wp2_with fail
      refine (sz2_any _ _ _ _ _ _ _ hn (by omega) (by omega)).mono ?_
      rintro e w1 ⟨rfl, hb⟩
      rw [if_neg (by omega)]
      have F1 : Hid (LawD2 w g g' a a' c c' zs ys E E' w1) := LawD2.later ⟨Bx6.start w _ _ _ _ _ _ _ _, hz.later (bel2 _ _ _), hy.later (bel2 _ _ _)⟩ hb
      have q2 := F1.out.bx.p0
      have q3 := F1.out.bx.p1
      have qe := F1.out.bx.p2
      clear hb
      go_wp2_with fail
      refine (sz2_any _ _ _ _ _ _ _ hn' (by omega) (by omega)).mono ?_
      rintro e W0 ⟨rfl, hb⟩
      rw [if_neg (by omega)]
      have F : Hid (LawD2 w g g' a a' c c' zs ys E E' W0) := F1.out.later hb
      clear hb F1 q2 q3 qe
      go_wp2
      go_region_held3 (fun w' => w'.cell? ⟨w.heap.size, 0, none⟩ = some (.bool g) ∧ w'.cell? ⟨w.heap.size, 1, none⟩ = some (.slice a zs.length c) ∧ w'.cell? ⟨w.heap.size, 2, none⟩ = some (.int .i64 E) ∧ w'.cell? ⟨w.heap.size + 1, 0, none⟩ = some (.bool g') ∧ w'.cell? ⟨w.heap.size + 1, 1, none⟩ = some (.slice a' ys.length c') ∧ w'.cell? ⟨w.heap.size + 1, 2, none⟩ = some (.int .i64 E') ∧ Below W0.heap.size W0 w')
        (first | exact F.out.bx.held (Below.refl _ _).drew | exact F.out.bx.held (by assumption) | exact F.out.bx.held (held7 (by assumption)))
        (first
          | (go_at_call_of 10 a; refine (to2_any g a c zs E _ hzl (F.out.z.later ?_)).mono ?_; (first | exact (Below.refl _ _).drew | assumption); rintro e w2 ⟨a1, rfl, hr1, hb1⟩; have hB : Below W0.heap.size W0 w2 := (by first | exact (Below.refl _ _).drew.trans hb1 | exact Below.trans (by assumption) (Below.mono hb1 (Below.size (by assumption)))); have K1 := fun {k a zs} (h : RowAt k _ a zs) => h.later hb1)
          | (go_at_call_of 10 a'; refine (to2_any g' a' c' ys E' _ hyl (F.out.y.later ?_)).mono ?_; (first | exact (Below.refl _ _).drew | assumption); rintro e w3 ⟨a2, rfl, hr2, hb2⟩; have hB' : Below W0.heap.size W0 w3 := (by first | exact (Below.refl _ _).drew.trans hb2 | exact Below.trans (by assumption) (Below.mono hb2 (Below.size (by assumption)))); have K2 := fun {k a zs} (h : RowAt k _ a zs) => h.later hb2)
          | (go_at_call 13; refine (cmpDS_any g g' a1 a2 _ _ zs ys E E' _ hzl hyl ?_ ?_ hu hu').mono ?_; (first | exact hr1.row | exact K2 hr1.row); (first | exact hr2.row | exact K1 hr2.row); rintro e W4 ⟨rfl, hb4⟩; have hB4 : Below W0.heap.size W0 W4 := (by first | exact hB.trans (hb4.mono hB.size) | exact hB'.trans (hb4.mono hB'.size))))
      all_goals
        have F4 : Hid (LawD2 w g g' a a' c c' zs ys E E' W4) := F.out.later hB4
        clear hB4 hb4 hb1 hb2 hr1 hr2 K1 K2 hB hB' F
        have q0 := F4.out.bx.q0
        have q1 := F4.out.bx.q1
        have qe := F4.out.bx.q2
        go_wp2_with fail
        refine (to2_any g a c zs E _ hzl F4.out.z).mono ?_
        rintro e W5 ⟨a5, rfl, hr5, hb5⟩
        have F5 : Hid (LawD2 w g g' a a' c c' zs ys E E' W5) := F4.out.later hb5
        have R5 : Hid (RowNew .u32 W5 W4.heap.size a5 zs) := hr5
        clear q0 q1 qe hb5 hr5
        have q2 := F5.out.bx.p0
        have q3 := F5.out.bx.p1
        have qe := F5.out.bx.p2
        have z5 : w.heap.size + 1 < W5.heap.size := F5.out.bx.le
        go_wp2_with fail
        refine (to2_any g' a' c' ys E' _ hyl (F5.out.y.later (bel0 _ _))).mono ?_
        rintro e W6 ⟨a6, rfl, hr6, hb6⟩
        have F6 : Hid (∀ t', LawD4 w g g' a a' c c' zs ys E E' W5.heap.size W6.heap.size W4.heap.size (W5.heap.size + 1) a5 a6 (W6.alloc (.cells #[.bool g', .slice a6 ys.length ys.length, .int .i64 E'] t'))) := fun t' => LawD4.start F5.out R5.out hb6 (by simpa using hr6)
        have q4 : W6.cell? ⟨W5.heap.size, 0, none⟩ = some (.bool g) := by rw [(bcell hb6).1 _ _ (by simp)]; simp [go_sem]
        have q5 : W6.cell? ⟨W5.heap.size, 1, none⟩ = some (.slice a5 zs.length zs.length) := by rw [(bcell hb6).1 _ _ (by simp)]; simp [go_sem]
        have q6 : W6.cell? ⟨W5.heap.size, 2, none⟩ = some (.int .i64 E) := by rw [(bcell hb6).1 _ _ (by simp)]; simp [go_sem]
        have z6 : W5.heap.size < W6.heap.size := by have := hb6.size; simp at this; omega
        clear hb6 hr6 q2 q3 qe F4 F5 R5
        go_wp2_with fail
        refine (cmpDI_any g g' a5 a6 _ _ zs ys E E' _ hzl hyl (F6.out _).r0.row (F6.out _).r1.row hu hu').mono ?_
        rintro e W7 ⟨rfl, hb7⟩
        have F7 : Hid (LawD4 w g g' a a' c c' zs ys E E' W5.heap.size W6.heap.size W4.heap.size (W5.heap.size + 1) a5 a6 W7) := (F6.out _).later hb7
        have hne1 : (cmpD g g' zs ys E E' != cmpD g g' zs ys E E') = false := by simp
        have hne2 : (codeD g g' zs ys E E' != codeD g g' zs ys E E') = false := by simp
        clear hb7 q4 q5 q6 F6
        go_wp2
        go_region_held3 (fun w' => w'.cell? ⟨w.heap.size, 0, none⟩ = some (.bool g) ∧ w'.cell? ⟨w.heap.size, 1, none⟩ = some (.slice a zs.length c) ∧ w'.cell? ⟨w.heap.size, 2, none⟩ = some (.int .i64 E) ∧ w'.cell? ⟨w.heap.size + 1, 0, none⟩ = some (.bool g') ∧ w'.cell? ⟨w.heap.size + 1, 1, none⟩ = some (.slice a' ys.length c') ∧ w'.cell? ⟨w.heap.size + 1, 2, none⟩ = some (.int .i64 E') ∧
          w'.cell? ⟨W5.heap.size, 0, none⟩ = some (.bool g) ∧ w'.cell? ⟨W5.heap.size, 1, none⟩ = some (.slice a5 zs.length zs.length) ∧ w'.cell? ⟨W5.heap.size, 2, none⟩ = some (.int .i64 E) ∧ w'.cell? ⟨W6.heap.size, 0, none⟩ = some (.bool g') ∧ w'.cell? ⟨W6.heap.size, 1, none⟩ = some (.slice a6 ys.length ys.length) ∧ w'.cell? ⟨W6.heap.size, 2, none⟩ = some (.int .i64 E') ∧ Below W7.heap.size W7 w')
          (first | exact F7.out.held (Below.refl _ _).drew | exact F7.out.held (by assumption))
          (first
            | (go_at_call 10; refine (to2_any g a c zs E _ hzl (F7.out.l2.z.later (Below.refl _ _).drew)).mono ?_; rintro e W8 ⟨ax, rfl, hrx, hbx⟩; have hBx : Below W7.heap.size W7 W8 := (Below.refl _ _).drew.trans hbx)
            | (go_at_call 12; refine (eq2_any _ _ _ _ _ zs _ _ (by unfold maxLen; omega) (F7.out.later hBx).r0.row hrx.row).mono ?_; rintro e W9 ⟨rfl, hby⟩; have hBy : Below W7.heap.size W7 W9 := hBx.trans (hby.mono hBx.size)))
        have F9 : Hid (LawD4 w g g' a a' c c' zs ys E E' W5.heap.size W6.heap.size W4.heap.size (W5.heap.size + 1) a5 a6 W9) := F7.out.later hBy
        clear hbx hby hBx hBy hrx F7
        go_wp2
        go_region_held3 (fun w' => w'.cell? ⟨w.heap.size, 0, none⟩ = some (.bool g) ∧ w'.cell? ⟨w.heap.size, 1, none⟩ = some (.slice a zs.length c) ∧ w'.cell? ⟨w.heap.size, 2, none⟩ = some (.int .i64 E) ∧ w'.cell? ⟨w.heap.size + 1, 0, none⟩ = some (.bool g') ∧ w'.cell? ⟨w.heap.size + 1, 1, none⟩ = some (.slice a' ys.length c') ∧ w'.cell? ⟨w.heap.size + 1, 2, none⟩ = some (.int .i64 E') ∧
          w'.cell? ⟨W5.heap.size, 0, none⟩ = some (.bool g) ∧ w'.cell? ⟨W5.heap.size, 1, none⟩ = some (.slice a5 zs.length zs.length) ∧ w'.cell? ⟨W5.heap.size, 2, none⟩ = some (.int .i64 E) ∧ w'.cell? ⟨W6.heap.size, 0, none⟩ = some (.bool g') ∧ w'.cell? ⟨W6.heap.size, 1, none⟩ = some (.slice a6 ys.length ys.length) ∧ w'.cell? ⟨W6.heap.size, 2, none⟩ = some (.int .i64 E') ∧ Below W9.heap.size W9 w')
          (first | exact F9.out.held (Below.refl _ _).drew | exact F9.out.held (by assumption))
          (first
            | (go_at_call 10; refine (to2_any g' a' c' ys E' _ hyl (F9.out.l2.y.later (Below.refl _ _).drew)).mono ?_; rintro e WA ⟨ax, rfl, hrx, hbx⟩; have hBx : Below W9.heap.size W9 WA := (Below.refl _ _).drew.trans hbx)
            | (go_at_call 12; refine (eq2_any _ _ _ _ _ ys _ _ (by unfold maxLen; omega) (F9.out.later hBx).r1.row hrx.row).mono ?_; rintro e WB ⟨rfl, hby⟩; have hBy : Below W9.heap.size W9 WB := hBx.trans (hby.mono hBx.size)))
        have FB : Hid (LawD4 w g g' a a' c c' zs ys E E' W5.heap.size W6.heap.size W4.heap.size (W5.heap.size + 1) a5 a6 WB) := F9.out.later hBy
        clear hbx hby hBx hBy hrx F9
        go_wp2
        go_ret
        exact ⟨rfl, FB.out.l2.bx.bel⟩

end Go.Proofs.Ytladfpljnaippaa
