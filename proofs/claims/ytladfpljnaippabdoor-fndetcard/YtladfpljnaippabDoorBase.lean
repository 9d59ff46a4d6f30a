/-
  What the walks of this seat say of memory: a row of numbers that is read, a row that the call itself made.
-/
import Derived.Test.YtladfpljnaippabDoorRows
import Derived.WalkKit
import Derived.WalkSpells
import Derived.WalkLawsBesides
import Derived.Deep.OwnRows
import Derived.Deep.QuietTactic
import Derived.BigQuiet
namespace Go.Proofs.YtladfpljnaippabDoor
open Go.RowKit

/-- The slice that begins at a0 reads as the numbers zs. -/
def RowAt (k : IntKind) (w : World) (a0 : Option Addr) (zs : List Int) : Prop :=
  zs = [] ∨ ∃ b off, a0 = some ⟨b, off, none⟩ ∧ b < w.heap.size ∧ ∀ j, j < zs.length → w.cell? ⟨b, off + j, none⟩ = some (.int k (zs.getD j 0))

/-- .. and lies in memory from block B on, which may be written. -/
def RowNew (k : IntKind) (w : World) (B : Nat) (a0 : Option Addr) (zs : List Int) : Prop :=
  zs = [] ∨ ∃ b off, a0 = some ⟨b, off, none⟩ ∧ B ≤ b ∧ b < w.heap.size ∧ (∀ j, j < zs.length → w.cell? ⟨b, off + j, none⟩ = some (.int k (zs.getD j 0))) ∧
    ∀ j, j < zs.length → w.frozen? ⟨b, off + j, none⟩ = false

/-- Every number fits into 32 bits. -/
def U32 (zs : List Int) : Prop := ∀ z, z ∈ zs → 0 ≤ z ∧ z < 4294967296

theorem RowNew.row {k : IntKind} {w : World} {B : Nat} {a0 : Option Addr} {zs : List Int} (h : RowNew k w B a0 zs) : RowAt k w a0 zs := by
  rcases h with h | ⟨b, off, h1, _, h2, h3, _⟩
  · exact .inl h
  · exact .inr ⟨b, off, h1, h2, h3⟩

theorem RowAt.later {k : IntKind} {w w' : World} {a0 : Option Addr} {zs : List Int} (h : RowAt k w a0 zs) (hb : Below w.heap.size w w') : RowAt k w' a0 zs := by
  rcases h with h | ⟨b, off, h1, h2, h3⟩
  · exact .inl h
  · exact .inr ⟨b, off, h1, Nat.lt_of_lt_of_le h2 hb.size, fun j hj => (hb.cell (p := ⟨b, off + j, none⟩) h2).trans (h3 j hj)⟩

theorem RowNew.later {k : IntKind} {w w' : World} {B : Nat} {a0 : Option Addr} {zs : List Int} (h : RowNew k w B a0 zs) (hb : Below w.heap.size w w') : RowNew k w' B a0 zs := by
  rcases h with h | ⟨b, off, h1, h0, h2, h3, h4⟩
  · exact .inl h
  · exact .inr ⟨b, off, h1, h0, Nat.lt_of_lt_of_le h2 hb.size, fun j hj => (hb.cell (p := ⟨b, off + j, none⟩) h2).trans (h3 j hj), fun j hj => (hb.frozen (p := ⟨b, off + j, none⟩) h2).trans (h4 j hj)⟩

theorem RowNew.down {k : IntKind} {w : World} {B B' : Nat} {a0 : Option Addr} {zs : List Int} (h : RowNew k w B a0 zs) (hB : B' ≤ B) : RowNew k w B' a0 zs := by
  rcases h with h | ⟨b, off, h1, h0, h2, h3, h4⟩
  · exact .inl h
  · exact .inr ⟨b, off, h1, Nat.le_trans hB h0, h2, h3, h4⟩

/-- All below the size of an earlier world reads as before. -/
theorem bcell {W w1 : World} (hb : Below W.heap.size W w1) : (∀ b o, b < W.heap.size → w1.cell? ⟨b, o, none⟩ = W.cell? ⟨b, o, none⟩) ∧ (∀ b o, b < W.heap.size → w1.frozen? ⟨b, o, none⟩ = W.frozen? ⟨b, o, none⟩) :=
  ⟨fun b o h => hb.cell (p := ⟨b, o, none⟩) h, fun b o h => hb.frozen (p := ⟨b, o, none⟩) h⟩

/-- A row of the call's own: block b from off on holds the numbers ys, and may be written. -/
structure Own (k : IntKind) (w : World) (b off : Nat) (ys : List Int) : Prop where
  lt : b < w.heap.size
  cell : ∀ j, j < ys.length → w.cell? ⟨b, off + j, none⟩ = some (.int k (ys.getD j 0))
  free : ∀ j, j < ys.length → w.frozen? ⟨b, off + j, none⟩ = false

theorem Own.new {k : IntKind} {w : World} {b off B : Nat} {ys : List Int} (h : Own k w b off ys) (hB : B ≤ b) : RowNew k w B (some ⟨b, off, none⟩) ys :=
  .inr ⟨b, off, rfl, hB, h.lt, h.cell, h.free⟩

theorem Own.set {k : IntKind} {w : World} {b off : Nat} {ys : List Int} (h : Own k w b off ys) (i : Nat) (v : Int) (hi : i < ys.length) : Own k (w.setCell ⟨b, off + i, none⟩ (.int k v)) b off (ys.set i v) := by
  refine ⟨by simpa using h.lt, fun j hj => ?_, fun j hj => ?_⟩
  · rw [List.length_set] at hj
    by_cases e : j = i
    · subst e
      rw [World.cell?_setCell_same _ _ _ (h.cell j hj)]
      simp [List.getD_eq_getElem?_getD, hj]
    · rw [World.cell?_setCell_other _ _ _ _ (by intro hh; apply e; have := congrArg Addr.off hh; simp at this; omega), h.cell j hj]
      simp [List.getD_eq_getElem?_getD, show ¬ i = j from fun h => e h.symm]
  · rw [List.length_set] at hj
    rw [World.frozen?_setCell]
    exact h.free j hj

theorem Own.later {k : IntKind} {w w' : World} {b off : Nat} {ys : List Int} (h : Own k w b off ys) (hb : Below w.heap.size w w') : Own k w' b off ys :=
  ⟨Nat.lt_of_lt_of_le h.lt hb.size, fun j hj => (hb.cell (p := ⟨b, off + j, none⟩) h.lt).trans (h.cell j hj), fun j hj => (hb.frozen (p := ⟨b, off + j, none⟩) h.lt).trans (h.free j hj)⟩

theorem Own.made {k : IntKind} (w : World) (n : Nat) (t : TypeId) : Own k (w.alloc (.cells (madeCells #[.int k 0] n) t)) w.heap.size 0 (List.replicate n 0) := by
  refine ⟨by simp, fun j hj => ?_, fun j hj => ?_⟩
  · rw [List.length_replicate] at hj
    simp [List.getD_eq_getElem?_getD, hj, madeCells, Nat.mod_one]
  · simp

theorem bel0 (w : World) (o : Obj) : Below w.heap.size w (w.alloc o) := (Below.refl _ _).alloc (Nat.le_refl _) _

theorem bel2 (w : World) (o1 o2 : Obj) : Below w.heap.size w ((w.alloc o1).alloc o2) := (bel0 w o1).alloc (by simp) _
theorem bel3 (w : World) (o1 o2 o3 : Obj) : Below w.heap.size w (((w.alloc o1).alloc o2).alloc o3) := (bel2 w o1 o2).alloc (by simp; omega) _

/-- A store below the row's own memory leaves it as it is. -/
theorem RowNew.setLow {k : IntKind} {w : World} {B : Nat} {a0 : Option Addr} {zs : List Int} (h : RowNew k w B a0 zs) {p : Addr} (hp : p.block < B) (v : Value) : RowNew k (w.setCell p v) B a0 zs := by
  rcases h with h | ⟨b, off, h1, h0, h2, h3, h4⟩
  · exact .inl h
  · refine .inr ⟨b, off, h1, h0, by simpa using h2, fun j hj => ?_, fun j hj => ?_⟩
    · rw [World.cell?_setCell_other _ _ _ _ (by intro hh; have := congrArg Addr.block hh; simp at this; omega)]; exact h3 j hj
    · rw [World.frozen?_setCell]; exact h4 j hj

theorem U32.at {zs : List Int} (h : U32 zs) (j : Nat) : 0 ≤ zs.getD j 0 ∧ zs.getD j 0 < 4294967296 := by
  by_cases hj : j < zs.length
  · rw [List.getD_eq_getElem?_getD, List.getElem?_eq_getElem hj]; exact h _ (List.getElem_mem hj)
  · rw [List.getD_eq_getElem?_getD, List.getElem?_eq_none (by omega)]; decide

theorem Tryd.info33 : (Tryd.prog.info? 33).map (fun i => (i.zero, i.size, i.bytes)) = some (some (.int .u32 0), 1, 4) := by kernel_rfl

end Go.Proofs.YtladfpljnaippabDoor
