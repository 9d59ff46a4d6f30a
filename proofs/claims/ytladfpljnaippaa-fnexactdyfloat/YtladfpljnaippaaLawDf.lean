/-
  The law FnExactDyFloat's walk.
-/
import Derived.Test.YtladfpljnaippaaNumR2
import Derived.Test.YtladfpljnaippaaBox3
import Derived.Test.YtladfpljnaippaaDyI0
import Derived.Test.YtladfpljnaippaaDy1
namespace Go.Proofs.Ytladfpljnaippaa
open Go.RowKit

/-- What holds of memory while a law over one Dyadic runs: the box of its argument, the argument's own row. -/
structure LawD1 (w : World) (g : Bool) (a : Option Addr) (c : Nat) (zs : List Int) (E : Int) (W : World) : Prop where
  bx : BxD w (.bool g) (.slice a zs.length c) (.int .i64 E) W
  z : RowAt .u32 W a zs

theorem LawD1.later {w : World} {g : Bool} {a : Option Addr} {c : Nat} {zs : List Int} {E : Int} {W W' : World} (h : LawD1 w g a c zs E W) (hb : Below W.heap.size W W') : LawD1 w g a c zs E W' :=
  ⟨h.bx.later hb, h.z.later hb⟩

/-- .. and the box of the copy that the program is called with. -/
structure LawD3 (w : World) (g : Bool) (a : Option Addr) (c : Nat) (zs : List Int) (E : Int) (b0 B0 : Nat) (x0 : Option Addr) (W : World) : Prop where
  l1 : LawD1 w g a c zs E W
  p0 : W.cell? ⟨b0, 0, none⟩ = some (.bool g)
  p1 : W.cell? ⟨b0, 1, none⟩ = some (.slice x0 zs.length zs.length)
  pe : W.cell? ⟨b0, 2, none⟩ = some (.int .i64 E)
  lt2 : b0 < W.heap.size
  r0 : RowNew .u32 W B0 x0 zs

theorem LawD3.later {w : World} {g : Bool} {a : Option Addr} {c : Nat} {zs : List Int} {E : Int} {b0 B0 : Nat} {x0 : Option Addr} {W W' : World} (h : LawD3 w g a c zs E b0 B0 x0 W) (hb : Below W.heap.size W W') : LawD3 w g a c zs E b0 B0 x0 W' := by
  have h2 := h.lt2
  exact ⟨h.l1.later hb, (hb.cell (by simpa using h2)).trans h.p0, (hb.cell (by simpa using h2)).trans h.p1, (hb.cell (by simpa using h2)).trans h.pe, Nat.lt_of_lt_of_le h2 hb.size, h.r0.later hb⟩

theorem LawD3.held {w : World} {g : Bool} {a : Option Addr} {c : Nat} {zs : List Int} {E : Int} {b0 B0 : Nat} {x0 : Option Addr} {W W' : World} (h : LawD3 w g a c zs E b0 B0 x0 W) (hb : Below W.heap.size W W') :
    W'.cell? ⟨w.heap.size, 0, none⟩ = some (.bool g) ∧ W'.cell? ⟨w.heap.size, 1, none⟩ = some (.slice a zs.length c) ∧ W'.cell? ⟨w.heap.size, 2, none⟩ = some (.int .i64 E) ∧
    W'.cell? ⟨b0, 0, none⟩ = some (.bool g) ∧ W'.cell? ⟨b0, 1, none⟩ = some (.slice x0 zs.length zs.length) ∧ W'.cell? ⟨b0, 2, none⟩ = some (.int .i64 E) ∧ Below W.heap.size W W' :=
  ⟨(h.later hb).l1.bx.q0, (h.later hb).l1.bx.q1, (h.later hb).l1.bx.q2, (h.later hb).p0, (h.later hb).p1, (h.later hb).pe, hb⟩

theorem LawD3.start {w : World} {g : Bool} {a : Option Addr} {c : Nat} {zs : List Int} {E : Int} {B0 : Nat} {x0 : Option Addr} {W5 : World} (t : TypeId) (h5 : LawD1 w g a c zs E W5) (hr0 : RowNew .u32 W5 B0 x0 zs) :
    LawD3 w g a c zs E W5.heap.size B0 x0 (W5.alloc (.cells #[.bool g, .slice x0 zs.length zs.length, .int .i64 E] t)) :=
  ⟨h5.later (bel0 _ _), by simp [go_sem], by simp [go_sem], by simp [go_sem], by simp, hr0.later (bel0 _ _)⟩

/-- What DyFloat, of the model and of the program, answers. -/
def FlSays (f : FuncId) : Prop := ∀ (g : Bool) (a : Option Addr) (c : Nat) (zs : List Int) (E : Int) (w : World), zs.length ≤ 1048576 → RowAt .u32 w a zs → U32 zs →
    Calls Try.prog f #[.agg #[.bool g, .slice a zs.length c, .int .i64 E]] w fun e w' => e = .returned (.tuple #[.int .u32 (flB (validD g zs E) g (val 4294967296 zs) E), .int .i64 (flC (validD g zs E) (val 4294967296 zs) E)]) ∧ Below w.heap.size w w'

set_option maxRecDepth 100000 in
set_option maxHeartbeats 16000000 in
theorem lawDyFloat_any (hS : FlSays 9) (hI : FlSays 11) (g : Bool) (a : Option Addr) (c : Nat) (zs : List Int) (E : Int) (w : World) (hn : zs.length ≤ maxLen) (hz : RowAt .u32 w a zs) (hu : U32 zs) :
    Calls Try.prog 4 #[.agg #[.bool g, .slice a zs.length c, .int .i64 E]] w fun e w' => e = .returned (.bool true) ∧ Below w.heap.size w w' := by
  by_cases hl : (1048576 : Int) < zs.length
  · go_enter Try.func4, Try.ntmps4
    go_wp2_with fail
    refine (sz2_any _ _ _ _ _ _ _ hn (by omega) (by omega)).mono ?_
    rintro e w1 ⟨rfl, hb⟩
    rw [if_pos (by omega)]
    have HB : Hid (Below w.heap.size w w1) := (bel0 _ _).trans (hb.mono (by simp))
    clear hb
    go_wp2
    go_ret
    exact ⟨rfl, HB.out⟩
  · have hm : 0 ≤ 1048576 - (zs.length : Int) := by omega
    have hzl : zs.length ≤ 1048576 := by omega
    go_enter Try.func4, Try.ntmps4
    go_wp2_with fail
    refine (sz2_any _ _ _ _ _ _ _ hn (by omega) (by omega)).mono ?_
    rintro e W0 ⟨rfl, hb⟩
    rw [if_neg (by omega)]
    have F : Hid (LawD1 w g a c zs E W0) := LawD1.later ⟨BxD.start w _ _ _ _, hz.later (bel0 _ _)⟩ hb
    have HS : Hid (FlSays 9) := hS
    have HI : Hid (FlSays 11) := hI
    clear hb hS hI
    have q0 := F.out.bx.q0
    have q1 := F.out.bx.q1
    have qe := F.out.bx.q2
    go_wp2_with fail
    refine (to2_any g a c zs E _ hzl F.out.z).mono ?_
    rintro e w2 ⟨a2, rfl, hr2, hb2⟩
    have F2 : Hid (LawD1 w g a c zs E w2) := F.out.later hb2
    have R2 : Hid (RowNew .u32 w2 W0.heap.size a2 zs) := hr2
    clear q0 q1 qe hb2 hr2 F
    go_wp2_with fail
    refine (HS.out g a2 _ zs E _ hzl R2.out.row hu).mono ?_
    rintro e W4 ⟨rfl, hb4⟩
    have F4 : Hid (LawD1 w g a c zs E W4) := F2.out.later hb4
    clear hb4 F2 R2 HS
    have q0 := F4.out.bx.q0
    have q1 := F4.out.bx.q1
    have qe := F4.out.bx.q2
    obtain ⟨fb, hfb⟩ : ∃ fb, fb = flB (validD g zs E) g (val 4294967296 zs) E := ⟨_, rfl⟩
    obtain ⟨fc, hfc⟩ : ∃ fc, fc = flC (validD g zs E) (val 4294967296 zs) E := ⟨_, rfl⟩
    rw [← hfb, ← hfc]
    have HFB : Hid (fb = flB (validD g zs E) g (val 4294967296 zs) E) := hfb
    have HFC : Hid (fc = flC (validD g zs E) (val 4294967296 zs) E) := hfc
    clear hfb hfc
    go_wp2_with fail
    refine (to2_any g a c zs E _ hzl F4.out.z).mono ?_
    rintro e W5 ⟨a5, rfl, hr5, hb5⟩
    have F5 : Hid (LawD1 w g a c zs E W5) := F4.out.later hb5
    have R5 : Hid (RowNew .u32 W5 W4.heap.size a5 zs) := hr5
    have F6 : Hid (∀ t, LawD3 w g a c zs E W5.heap.size W4.heap.size a5 (W5.alloc (.cells #[.bool g, .slice a5 zs.length zs.length, .int .i64 E] t))) := fun t => LawD3.start t F5.out R5.out
    clear q0 q1 qe hb5 hr5 F4 F5 R5
    go_wp2_with fail
    refine (HI.out g a5 _ zs E _ hzl (F6.out _).r0.row hu).mono ?_
    rintro e W7 ⟨rfl, hb7⟩
    have F7 : Hid (LawD3 w g a c zs E W5.heap.size W4.heap.size a5 W7) := (F6.out _).later hb7
    rw [← HFB.out, ← HFC.out]
    have hne1 : (fb != fb) = false := by simp
    have hne2 : (fc != fc) = false := by simp
    clear hb7 F6 HI HFB HFC
    go_wp2
    go_region_held3 (fun w' => w'.cell? ⟨w.heap.size, 0, none⟩ = some (.bool g) ∧ w'.cell? ⟨w.heap.size, 1, none⟩ = some (.slice a zs.length c) ∧ w'.cell? ⟨w.heap.size, 2, none⟩ = some (.int .i64 E) ∧
      w'.cell? ⟨W5.heap.size, 0, none⟩ = some (.bool g) ∧ w'.cell? ⟨W5.heap.size, 1, none⟩ = some (.slice a5 zs.length zs.length) ∧ w'.cell? ⟨W5.heap.size, 2, none⟩ = some (.int .i64 E) ∧ Below W7.heap.size W7 w')
      (first | exact F7.out.held (Below.refl _ _).drew | exact F7.out.held (by assumption))
      (first
        | (go_at_call 10; refine (to2_any g a c zs E _ hzl (F7.out.l1.z.later (Below.refl _ _).drew)).mono ?_; rintro e W8 ⟨ax, rfl, hrx, hbx⟩; have hBx : Below W7.heap.size W7 W8 := (Below.refl _ _).drew.trans hbx)
        | (go_at_call 12; refine (eq2_any _ _ _ _ _ zs _ _ (by unfold maxLen; omega) (F7.out.later hBx).r0.row hrx.row).mono ?_; rintro e W9 ⟨rfl, hby⟩; have hBy : Below W7.heap.size W7 W9 := hBx.trans (hby.mono hBx.size)))
    have F9 : Hid (LawD3 w g a c zs E W5.heap.size W4.heap.size a5 W9) := F7.out.later hBy
    clear hbx hby hBx hBy hrx F7
    go_wp2
    go_ret
    exact ⟨rfl, F9.out.l1.bx.bel⟩

end Go.Proofs.Ytladfpljnaippaa
