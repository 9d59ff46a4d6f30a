/-
  What a scene must be to be valid, and the model's tests of it.
-/
import Derived.Test.YtfhfepphccaadabScS
import Derived.Test.YtfhfepphccaadabNumDNumF
namespace Go.Proofs.Ytfhfepphccaadab
open Go.RowKit

/-- A zero of either sign. -/
def zeroB (x : Int) : Bool := x % 2147483648 == 0
def pointB (x y z : Int) : Bool := fFin x && fFin y && fFin z
def noWayB (x y z : Int) : Bool := zeroB x && zeroB y && zeroB z
def triAt (zs : List Int) (i : Nat) : Bool := pointB (zs.getD (i * 9) 0) (zs.getD (i * 9 + 1) 0) (zs.getD (i * 9 + 2) 0) && pointB (zs.getD (i * 9 + 3) 0) (zs.getD (i * 9 + 4) 0) (zs.getD (i * 9 + 5) 0) && pointB (zs.getD (i * 9 + 6) 0) (zs.getD (i * 9 + 7) 0) (zs.getD (i * 9 + 8) 0)
def rayAt (zs : List Int) (i : Nat) : Bool := pointB (zs.getD (i * 6) 0) (zs.getD (i * 6 + 1) 0) (zs.getD (i * 6 + 2) 0) && pointB (zs.getD (i * 6 + 3) 0) (zs.getD (i * 6 + 4) 0) (zs.getD (i * 6 + 5) 0) && !(noWayB (zs.getD (i * 6 + 3) 0) (zs.getD (i * 6 + 4) 0) (zs.getD (i * 6 + 5) 0))
def ptAt (zs : List Int) (i : Nat) : Bool := pointB (zs.getD (i * 3) 0) (zs.getD (i * 3 + 1) 0) (zs.getD (i * 3 + 2) 0)
def validSc (n1 n2 n3 : Nat) (z1 z2 z3 : List Int) : Bool :=
  (decide (n1 ≤ 40) && (List.range n1).all (triAt z1)) && decide (n2 ≤ 40) && decide (n3 ≤ 4) && (List.range n2).all (rayAt z2) && (List.range n3).all (ptAt z3)

theorem all_range_succ (P : Nat → Bool) (i : Nat) : (List.range (i + 1)).all P = ((List.range i).all P && P i) := by
  rw [List.range_succ, List.all_append]
  simp
theorem all_range_false {P : Nat → Bool} {i n : Nat} (hi : i < n) (h : P i = false) : (List.range n).all P = false := by
  rw [List.all_eq_false]
  exact ⟨i, List.mem_range.2 hi, by simp [h]⟩

theorem finV_any (x : Int) (w : World) (xa : 0 ≤ x) (xb : x < 4294967296) :
    Calls Try.prog 31 #[.int .u32 x] w fun e w' => e = .returned (.bool (fFin x)) ∧ w' = w := by
  go_enter Try.func31, Try.ntmps31
  go_wp2
  go_ret
  exact ⟨by unfold fFin; rfl, rfl⟩

set_option maxHeartbeats 2000000 in
theorem pointV_any (x y z : Int) (w : World) (xa : 0 ≤ x) (xb : x < 4294967296) (ya : 0 ≤ y) (yb : y < 4294967296) (za : 0 ≤ z) (zb : z < 4294967296) :
    Calls Try.prog 63 #[.agg #[.int .u32 x, .int .u32 y, .int .u32 z]] w fun e w' => e = .returned (.bool (pointB x y z)) ∧ Below w.heap.size w w' := by
  go_enter Try.func63, Try.ntmps63
  go_wp2_with fail
  refine (finV_any x _ xa xb).mono ?_
  rintro e w1 ⟨rfl, rfl⟩
  cases hx : fFin x
  · go_wp2
    go_ret
    exact ⟨by simp [pointB, hx], bel0 _ _⟩
  · go_wp2_with fail
    refine (finV_any y _ ya yb).mono ?_
    rintro e w2 ⟨rfl, rfl⟩
    cases hy : fFin y
    · go_wp2
      go_ret
      exact ⟨by simp [pointB, hx, hy], bel0 _ _⟩
    · go_wp2_with fail
      refine (finV_any z _ za zb).mono ?_
      rintro e w3 ⟨rfl, rfl⟩
      go_wp2
      go_ret
      exact ⟨by simp [pointB, hx, hy], bel0 _ _⟩

end Go.Proofs.Ytfhfepphccaadab

/-
  The model's ValidScene.
-/
namespace Go.Proofs.Ytfhfepphccaadab
open Go.RowKit

end Go.Proofs.Ytfhfepphccaadab

/-
  The law of ValidScene, for any program whose ValidScene answers whether the scene is valid.
-/
namespace Go.Proofs.Ytfhfepphccaadab
open Go.RowKit

/-- The function answers whether a scene is valid. -/
def VldSays (f : FuncId) : Prop := ∀ (a1 a2 a3 : Option Addr) (n1 n2 n3 c1 c2 c3 : Nat) (z1 z2 z3 : List Int) (w : World), n1 + n2 + n3 ≤ 1048576 → ScAt w a1 a2 a3 n1 n2 n3 z1 z2 z3 → U32 z1 → U32 z2 → U32 z3 →
  Calls Try.prog f #[.agg #[.slice a1 n1 c1, .slice a2 n2 c2, .slice a3 n3 c3]] w fun e w' => e = .returned (.bool (validSc n1 n2 n3 z1 z2 z3)) ∧ Below w.heap.size w w'

/-- A box that holds a scene's three slices. -/
structure BxS (w : World) (X : Nat) (v1 v2 v3 : Value) : Prop where
  lt : X < w.heap.size
  q0 : w.cell? ⟨X, 0, none⟩ = some v1
  q1 : w.cell? ⟨X, 1, none⟩ = some v2
  q2 : w.cell? ⟨X, 2, none⟩ = some v3
theorem BxS.later {w w' : World} {X : Nat} {v1 v2 v3 : Value} (h : BxS w X v1 v2 v3) (hb : Below w.heap.size w w') : BxS w' X v1 v2 v3 :=
  ⟨Nat.lt_of_lt_of_le h.lt hb.size, ((bcell hb).1 _ _ h.lt).trans h.q0, ((bcell hb).1 _ _ h.lt).trans h.q1, ((bcell hb).1 _ _ h.lt).trans h.q2⟩
theorem BxS.new (w : World) (v1 v2 v3 : Value) (t : TypeId) : BxS (w.alloc (.cells #[v1, v2, v3] t)) w.heap.size v1 v2 v3 :=
  ⟨by simp, by simp [go_sem], by simp [go_sem], by simp [go_sem]⟩

/-- Memory while a law over a scene runs: the box of the argument, the argument's lists. -/
structure LwS (w : World) (a1 a2 a3 : Option Addr) (n1 n2 n3 c1 c2 c3 : Nat) (z1 z2 z3 : List Int) (W : World) : Prop where
  bx : BxS W w.heap.size (.slice a1 n1 c1) (.slice a2 n2 c2) (.slice a3 n3 c3)
  sc : ScAt W a1 a2 a3 n1 n2 n3 z1 z2 z3
  bel : Below w.heap.size w W
theorem LwS.later {w W W' : World} {a1 a2 a3 : Option Addr} {n1 n2 n3 c1 c2 c3 : Nat} {z1 z2 z3 : List Int} (h : LwS w a1 a2 a3 n1 n2 n3 c1 c2 c3 z1 z2 z3 W) (hb : Below W.heap.size W W') : LwS w a1 a2 a3 n1 n2 n3 c1 c2 c3 z1 z2 z3 W' :=
  ⟨h.bx.later hb, h.sc.later hb, h.bel.trans (hb.mono h.bel.size)⟩
theorem LwS.start {w : World} {a1 a2 a3 : Option Addr} {n1 n2 n3 c1 c2 c3 : Nat} {z1 z2 z3 : List Int} (hs : ScAt w a1 a2 a3 n1 n2 n3 z1 z2 z3) (t : TypeId) : LwS w a1 a2 a3 n1 n2 n3 c1 c2 c3 z1 z2 z3 (w.alloc (.cells #[.slice a1 n1 c1, .slice a2 n2 c2, .slice a3 n3 c3] t)) :=
  ⟨BxS.new _ _ _ _ _, hs.later (bel0 _ _), bel0 _ _⟩

theorem last7 {p0 p1 p2 p3 p4 p5 q : Prop} (h : p0 ∧ p1 ∧ p2 ∧ p3 ∧ p4 ∧ p5 ∧ q) : q := h.2.2.2.2.2.2

end Go.Proofs.Ytfhfepphccaadab

/-
  Scenes as the laws mark them.
-/
namespace Go.Proofs.Ytfhfepphccaadab
open Go.RowKit

theorem Within.wide {lo hi lo' hi' : Nat} {w w' : World} (h : Within lo hi w w') (h1 : lo' ≤ lo) (h2 : hi ≤ hi') : Within lo' hi' w w' :=
  ⟨h.os, h.tape, h.output, h.size, fun k hk => h.block k (by omega)⟩
theorem Within.tr {lo hi : Nat} {w w' w'' : World} (h : Within lo hi w w') (h2 : Within lo hi w' w'') : Within lo hi w w'' :=
  ⟨h2.os.trans h.os, h2.tape.trans h.tape, h2.output.trans h.output, h2.size.trans h.size, fun k hk => (h2.block k hk).trans (h.block k hk)⟩

/-- What markScene answers. -/
def MkSc (w : World) (lo hi : Nat) (a1 a2 a3 : Option Addr) (n1 n2 n3 : Nat) (z1 z2 z3 : List Int) (m1 m2 : Nat) (k0 : Int) (e : Ending) (w' : World) : Prop :=
  e = .returned (.int .i64 (k0 + z1.length + z2.length + z3.length)) ∧ ScIn w' lo hi a1 a2 a3 n1 n2 n3 (marksL k0 z1.length) (marksL (k0 + z1.length) z2.length) (marksL (k0 + z1.length + z2.length) z3.length) m1 m2 ∧ ∃ u, Below w.heap.size w u ∧ Within lo hi u w'

theorem LwS.within {w W W' : World} {a1 a2 a3 : Option Addr} {n1 n2 n3 c1 c2 c3 lo hi : Nat} {z1 z2 z3 : List Int} (h : LwS w a1 a2 a3 n1 n2 n3 c1 c2 c3 z1 z2 z3 W) (hs : ScAt w a1 a2 a3 n1 n2 n3 z1 z2 z3) (hw : Within lo hi W W') (hl : w.heap.size < lo) : LwS w a1 a2 a3 n1 n2 n3 c1 c2 c3 z1 z2 z3 W' := by
  have hb : Below w.heap.size w W' := h.bel.trans (hw.below.mono (by omega))
  exact ⟨⟨by rw [hw.size]; exact h.bx.lt, (hw.cell (p := ⟨w.heap.size, 0, none⟩) (.inl hl)).trans h.bx.q0, (hw.cell (p := ⟨w.heap.size, 1, none⟩) (.inl hl)).trans h.bx.q1, (hw.cell (p := ⟨w.heap.size, 2, none⟩) (.inl hl)).trans h.bx.q2⟩, hs.later hb, hb⟩

end Go.Proofs.Ytfhfepphccaadab
