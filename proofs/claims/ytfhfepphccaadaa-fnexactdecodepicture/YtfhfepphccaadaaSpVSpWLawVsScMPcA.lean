/-
  What a scene must be to be valid, and the model's tests of it.
-/
import Derived.Test.YtfhfepphccaadaaScSNumS
import Derived.Test.YtfhfepphccaadaaDy0Dy1hDy2NumDNumF
namespace Go.Proofs.Ytfhfepphccaadaa
open Go.RowKit

/-- A zero of either sign. -/
def zeroB (x : Int) : Bool := x % 2147483648 == 0
def pointB (x y z : Int) : Bool := fFin x && fFin y && fFin z
def noWayB (x y z : Int) : Bool := zeroB x && zeroB y && zeroB z
def triAt (zs : List Int) (i : Nat) : Bool := pointB (zs.getD (i * 9) 0) (zs.getD (i * 9 + 1) 0) (zs.getD (i * 9 + 2) 0) && pointB (zs.getD (i * 9 + 3) 0) (zs.getD (i * 9 + 4) 0) (zs.getD (i * 9 + 5) 0) && pointB (zs.getD (i * 9 + 6) 0) (zs.getD (i * 9 + 7) 0) (zs.getD (i * 9 + 8) 0)
def rayAt (zs : List Int) (i : Nat) : Bool := pointB (zs.getD (i * 6) 0) (zs.getD (i * 6 + 1) 0) (zs.getD (i * 6 + 2) 0) && pointB (zs.getD (i * 6 + 3) 0) (zs.getD (i * 6 + 4) 0) (zs.getD (i * 6 + 5) 0) && !(noWayB (zs.getD (i * 6 + 3) 0) (zs.getD (i * 6 + 4) 0) (zs.getD (i * 6 + 5) 0))
def ptAt (zs : List Int) (i : Nat) : Bool := pointB (zs.getD (i * 3) 0) (zs.getD (i * 3 + 1) 0) (zs.getD (i * 3 + 2) 0)
def validSc (n1 n2 n3 : Nat) (z1 z2 z3 : List Int) : Bool :=
  (decide (n1 ≤ 40) && (List.range n1).all (triAt z1)) && decide (n2 ≤ 40) && decide (n3 ≤ 4) && (List.range n2).all (rayAt z2) && (List.range n3).all (ptAt z3)

theorem all_range_succ (P : Nat → Bool) (i : Nat) : (List.range (i + 1)).all P = ((List.range i).all P && P i) := by
  rw [List.range_succ, List.all_append]
  simp
theorem all_range_false {P : Nat → Bool} {i n : Nat} (hi : i < n) (h : P i = false) : (List.range n).all P = false := by
  rw [List.all_eq_false]
  exact ⟨i, List.mem_range.2 hi, by simp [h]⟩

end Go.Proofs.Ytfhfepphccaadaa

/-
  The model's ValidScene.
-/
namespace Go.Proofs.Ytfhfepphccaadaa
open Go.RowKit

end Go.Proofs.Ytfhfepphccaadaa

/-
  The law of ValidScene, for any program whose ValidScene answers whether the scene is valid.
-/
namespace Go.Proofs.Ytfhfepphccaadaa
open Go.RowKit

/-- The function answers whether a scene is valid. -/
def VldSays (f : FuncId) : Prop := ∀ (a1 a2 a3 : Option Addr) (n1 n2 n3 c1 c2 c3 : Nat) (z1 z2 z3 : List Int) (w : World), n1 + n2 + n3 ≤ 1048576 → ScAt w a1 a2 a3 n1 n2 n3 z1 z2 z3 → U32 z1 → U32 z2 → U32 z3 →
  Calls Try.prog f #[.agg #[.slice a1 n1 c1, .slice a2 n2 c2, .slice a3 n3 c3]] w fun e w' => e = .returned (.bool (validSc n1 n2 n3 z1 z2 z3)) ∧ Below w.heap.size w w'

/-- A box that holds a scene's three slices. -/
structure BxS (w : World) (X : Nat) (v1 v2 v3 : Value) : Prop where
  lt : X < w.heap.size
  q0 : w.cell? ⟨X, 0, none⟩ = some v1
  q1 : w.cell? ⟨X, 1, none⟩ = some v2
  q2 : w.cell? ⟨X, 2, none⟩ = some v3
theorem BxS.later {w w' : World} {X : Nat} {v1 v2 v3 : Value} (h : BxS w X v1 v2 v3) (hb : Below w.heap.size w w') : BxS w' X v1 v2 v3 :=
  ⟨Nat.lt_of_lt_of_le h.lt hb.size, ((bcell hb).1 _ _ h.lt).trans h.q0, ((bcell hb).1 _ _ h.lt).trans h.q1, ((bcell hb).1 _ _ h.lt).trans h.q2⟩
theorem BxS.new (w : World) (v1 v2 v3 : Value) (t : TypeId) : BxS (w.alloc (.cells #[v1, v2, v3] t)) w.heap.size v1 v2 v3 :=
  ⟨by simp, by simp [go_sem], by simp [go_sem], by simp [go_sem]⟩

/-- Memory while a law over a scene runs: the box of the argument, the argument's lists. -/
structure LwS (w : World) (a1 a2 a3 : Option Addr) (n1 n2 n3 c1 c2 c3 : Nat) (z1 z2 z3 : List Int) (W : World) : Prop where
  bx : BxS W w.heap.size (.slice a1 n1 c1) (.slice a2 n2 c2) (.slice a3 n3 c3)
  sc : ScAt W a1 a2 a3 n1 n2 n3 z1 z2 z3
  bel : Below w.heap.size w W
theorem LwS.later {w W W' : World} {a1 a2 a3 : Option Addr} {n1 n2 n3 c1 c2 c3 : Nat} {z1 z2 z3 : List Int} (h : LwS w a1 a2 a3 n1 n2 n3 c1 c2 c3 z1 z2 z3 W) (hb : Below W.heap.size W W') : LwS w a1 a2 a3 n1 n2 n3 c1 c2 c3 z1 z2 z3 W' :=
  ⟨h.bx.later hb, h.sc.later hb, h.bel.trans (hb.mono h.bel.size)⟩
theorem LwS.start {w : World} {a1 a2 a3 : Option Addr} {n1 n2 n3 c1 c2 c3 : Nat} {z1 z2 z3 : List Int} (hs : ScAt w a1 a2 a3 n1 n2 n3 z1 z2 z3) (t : TypeId) : LwS w a1 a2 a3 n1 n2 n3 c1 c2 c3 z1 z2 z3 (w.alloc (.cells #[.slice a1 n1 c1, .slice a2 n2 c2, .slice a3 n3 c3] t)) :=
  ⟨BxS.new _ _ _ _ _, hs.later (bel0 _ _), bel0 _ _⟩

theorem last7 {p0 p1 p2 p3 p4 p5 q : Prop} (h : p0 ∧ p1 ∧ p2 ∧ p3 ∧ p4 ∧ p5 ∧ q) : q := h.2.2.2.2.2.2

end Go.Proofs.Ytfhfepphccaadaa

/-
  Scenes as the laws mark them.
-/
namespace Go.Proofs.Ytfhfepphccaadaa
open Go.RowKit

theorem Within.wide {lo hi lo' hi' : Nat} {w w' : World} (h : Within lo hi w w') (h1 : lo' ≤ lo) (h2 : hi ≤ hi') : Within lo' hi' w w' :=
  ⟨h.os, h.tape, h.output, h.size, fun k hk => h.block k (by omega)⟩
theorem Within.tr {lo hi : Nat} {w w' w'' : World} (h : Within lo hi w w') (h2 : Within lo hi w' w'') : Within lo hi w w'' :=
  ⟨h2.os.trans h.os, h2.tape.trans h.tape, h2.output.trans h.output, h2.size.trans h.size, fun k hk => (h2.block k hk).trans (h.block k hk)⟩

/-- What markScene answers. -/
def MkSc (w : World) (lo hi : Nat) (a1 a2 a3 : Option Addr) (n1 n2 n3 : Nat) (z1 z2 z3 : List Int) (m1 m2 : Nat) (k0 : Int) (e : Ending) (w' : World) : Prop :=
  e = .returned (.int .i64 (k0 + z1.length + z2.length + z3.length)) ∧ ScIn w' lo hi a1 a2 a3 n1 n2 n3 (marksL k0 z1.length) (marksL (k0 + z1.length) z2.length) (marksL (k0 + z1.length + z2.length) z3.length) m1 m2 ∧ ∃ u, Below w.heap.size w u ∧ Within lo hi u w'

theorem LwS.within {w W W' : World} {a1 a2 a3 : Option Addr} {n1 n2 n3 c1 c2 c3 lo hi : Nat} {z1 z2 z3 : List Int} (h : LwS w a1 a2 a3 n1 n2 n3 c1 c2 c3 z1 z2 z3 W) (hs : ScAt w a1 a2 a3 n1 n2 n3 z1 z2 z3) (hw : Within lo hi W W') (hl : w.heap.size < lo) : LwS w a1 a2 a3 n1 n2 n3 c1 c2 c3 z1 z2 z3 W' := by
  have hb : Below w.heap.size w W' := h.bel.trans (hw.below.mono (by omega))
  exact ⟨⟨by rw [hw.size]; exact h.bx.lt, (hw.cell (p := ⟨w.heap.size, 0, none⟩) (.inl hl)).trans h.bx.q0, (hw.cell (p := ⟨w.heap.size, 1, none⟩) (.inl hl)).trans h.bx.q1, (hw.cell (p := ⟨w.heap.size, 2, none⟩) (.inl hl)).trans h.bx.q2⟩, hs.later hb, hb⟩

end Go.Proofs.Ytfhfepphccaadaa

/-
  Rows of values of one cell each, told by a function of the place.
-/
namespace Go.Proofs.Ytfhfepphccaadaa
open Go.RowKit

/-- The slice of n values that begins at a reads as f 0, f 1, .. -/
def RowF (w : World) (a : Option Addr) (n : Nat) (f : Nat → Value) : Prop :=
  n = 0 ∨ ∃ b off, a = some ⟨b, off, none⟩ ∧ b < w.heap.size ∧ ∀ j, j < n → w.cell? ⟨b, off + j, none⟩ = some (f j)
/-- .. and lies in blocks from lo to below hi, and may be written. -/
def RowFIn (w : World) (lo hi : Nat) (a : Option Addr) (n : Nat) (f : Nat → Value) : Prop :=
  n = 0 ∨ ∃ b off, a = some ⟨b, off, none⟩ ∧ lo ≤ b ∧ b < hi ∧ b < w.heap.size ∧ (∀ j, j < n → w.cell? ⟨b, off + j, none⟩ = some (f j)) ∧ ∀ j, j < n → w.frozen? ⟨b, off + j, none⟩ = false

theorem RowFIn.row {w : World} {lo hi : Nat} {a : Option Addr} {n : Nat} {f : Nat → Value} (h : RowFIn w lo hi a n f) : RowF w a n f := by
  rcases h with h | ⟨b, off, h1, _, _, h2, h3, _⟩
  · exact .inl h
  · exact .inr ⟨b, off, h1, h2, h3⟩
theorem RowF.later {w w' : World} {a : Option Addr} {n : Nat} {f : Nat → Value} (h : RowF w a n f) (hb : Below w.heap.size w w') : RowF w' a n f := by
  rcases h with h | ⟨b, off, h1, h2, h3⟩
  · exact .inl h
  · exact .inr ⟨b, off, h1, Nat.lt_of_lt_of_le h2 hb.size, fun j hj => ((bcell hb).1 _ _ h2).trans (h3 j hj)⟩
theorem RowFIn.later {w w' : World} {lo hi : Nat} {a : Option Addr} {n : Nat} {f : Nat → Value} (h : RowFIn w lo hi a n f) (hb : Below w.heap.size w w') : RowFIn w' lo hi a n f := by
  rcases h with h | ⟨b, off, h1, h0, h00, h2, h3, h4⟩
  · exact .inl h
  · exact .inr ⟨b, off, h1, h0, h00, Nat.lt_of_lt_of_le h2 hb.size, fun j hj => ((bcell hb).1 _ _ h2).trans (h3 j hj), fun j hj => ((bcell hb).2 _ _ h2).trans (h4 j hj)⟩
theorem RowFIn.apart {w w' : World} {lo hi lo' hi' : Nat} {a : Option Addr} {n : Nat} {f : Nat → Value} (h : RowFIn w lo hi a n f) (hb : Within lo' hi' w w') (hd : hi ≤ lo' ∨ hi' ≤ lo) : RowFIn w' lo hi a n f := by
  rcases h with h | ⟨b, off, h1, h0, h00, h2, h3, h4⟩
  · exact .inl h
  · exact .inr ⟨b, off, h1, h0, h00, by rw [hb.size]; exact h2, fun j hj => (hb.cell (p := ⟨b, off + j, none⟩) (by simp; omega)).trans (h3 j hj), fun j hj => (hb.frozen (p := ⟨b, off + j, none⟩) (by simp; omega)).trans (h4 j hj)⟩

/-- A row of n places that is being filled: the first m hold f 0, f 1, .. -/
structure FillF (w : World) (b off n : Nat) (f : Nat → Value) (m : Nat) : Prop where
  lt : b < w.heap.size
  done : ∀ j, j < m → w.cell? ⟨b, off + j, none⟩ = some (f j)
  all : ∀ j, j < n → ∃ v, w.cell? ⟨b, off + j, none⟩ = some v
  free : ∀ j, j < n → w.frozen? ⟨b, off + j, none⟩ = false
theorem FillF.step {w : World} {b off n : Nat} {f : Nat → Value} {m : Nat} (h : FillF w b off n f m) (hm : m < n) : FillF (w.setCell ⟨b, off + m, none⟩ (f m)) b off n f (m + 1) := by
  obtain ⟨u, hu⟩ := h.all m hm
  refine ⟨by simpa using h.lt, fun j hj => ?_, fun j hj => ?_, fun j hj => ?_⟩
  · by_cases e : j = m
    · subst e; exact World.cell?_setCell_same _ _ _ hu
    · rw [World.cell?_setCell_other _ _ _ _ (by intro hh; apply e; have := congrArg Addr.off hh; simp at this; omega)]; exact h.done j (by omega)
  · by_cases e : j = m
    · subst e; exact ⟨_, World.cell?_setCell_same _ _ _ hu⟩
    · rw [World.cell?_setCell_other _ _ _ _ (by intro hh; apply e; have := congrArg Addr.off hh; simp at this; omega)]; exact h.all j hj
  · rw [World.frozen?_setCell]; exact h.free j hj
theorem FillF.later {w w' : World} {b off n : Nat} {f : Nat → Value} {m : Nat} (h : FillF w b off n f m) (hb : Below w.heap.size w w') : FillF w' b off n f m :=
  ⟨Nat.lt_of_lt_of_le h.lt hb.size, fun j hj => ((bcell hb).1 _ _ h.lt).trans (h.done j hj), fun j hj => by obtain ⟨v, hv⟩ := h.all j hj; exact ⟨v, ((bcell hb).1 _ _ h.lt).trans hv⟩, fun j hj => ((bcell hb).2 _ _ h.lt).trans (h.free j hj)⟩
theorem FillF.row {w : World} {b off n lo hi : Nat} {f : Nat → Value} (h : FillF w b off n f n) (h1 : lo ≤ b) (h2 : b < hi) : RowFIn w lo hi (some ⟨b, off, none⟩) n f := .inr ⟨b, off, rfl, h1, h2, h.lt, h.done, h.free⟩
theorem FillF.start (w : World) (z : Value) (n : Nat) (t : TypeId) (f : Nat → Value) : FillF (w.alloc (.cells (madeCells #[z] n) t)) w.heap.size 0 n f 0 := by
  refine ⟨by simp, fun j hj => absurd hj (by omega), fun j hj => ⟨z, ?_⟩, fun j hj => by simp⟩
  simp [hj, madeCells, Nat.mod_one]

end Go.Proofs.Ytfhfepphccaadaa
