/-
  Writes within some blocks; rows that lie in some blocks.
-/
import Derived.Test.YtladfpljnaippaaDoorBase
namespace Go.Proofs.YtladfpljnaippaaDoor
open Go.RowKit

/-- Only blocks from lo to below hi have turned. -/
structure Within (lo hi : Nat) (w w' : World) : Prop where
  os : w'.os = w.os
  tape : w'.tape = w.tape
  output : w'.output = w.output
  size : w'.heap.size = w.heap.size
  block : ∀ k, (k < lo ∨ hi ≤ k) → w'.heap[k]? = w.heap[k]?

theorem Within.refl (lo hi : Nat) (w : World) : Within lo hi w w := ⟨rfl, rfl, rfl, rfl, fun _ _ => rfl⟩

theorem Within.below {lo hi : Nat} {w w' : World} (h : Within lo hi w w') : Below lo w w' := ⟨h.os, h.tape, h.output, by rw [h.size]; omega, fun k hk => h.block k (.inl hk)⟩

theorem Within.setCell {lo hi : Nat} {a w : World} (h : Within lo hi a w) {p : Addr} (h1 : lo ≤ p.block) (h2 : p.block < hi) (u : Value) : Within lo hi a (w.setCell p u) :=
  ⟨h.os, h.tape, h.output, by simpa using h.size, fun k hk => (Below.heap_setCell _ _ _ _ (by omega)).trans (h.block k hk)⟩

theorem Within.cell {lo hi : Nat} {w w' : World} (h : Within lo hi w w') {p : Addr} (hp : p.block < lo ∨ hi ≤ p.block) : w'.cell? p = w.cell? p := World.cell?_of_block (w := w) (h.block p.block hp)
theorem Within.frozen {lo hi : Nat} {w w' : World} (h : Within lo hi w w') {p : Addr} (hp : p.block < lo ∨ hi ≤ p.block) : w'.frozen? p = w.frozen? p := World.frozen?_of_block (w := w) (h.block p.block hp)

/-- A row of numbers that may be written, in blocks from lo to below hi. -/
def RowIn (k : IntKind) (w : World) (lo hi : Nat) (a : Option Addr) (zs : List Int) : Prop :=
  zs = [] ∨ ∃ b off, a = some ⟨b, off, none⟩ ∧ lo ≤ b ∧ b < hi ∧ b < w.heap.size ∧ (∀ j, j < zs.length → w.cell? ⟨b, off + j, none⟩ = some (.int k (zs.getD j 0))) ∧ ∀ j, j < zs.length → w.frozen? ⟨b, off + j, none⟩ = false

theorem RowIn.row {k : IntKind} {w : World} {lo hi : Nat} {a : Option Addr} {zs : List Int} (h : RowIn k w lo hi a zs) : RowAt k w a zs := by
  rcases h with h | ⟨b, off, h1, _, _, h2, h3, _⟩
  · exact .inl h
  · exact .inr ⟨b, off, h1, h2, h3⟩

theorem RowNew.rowIn {k : IntKind} {w : World} {B : Nat} {a : Option Addr} {zs : List Int} (h : RowNew k w B a zs) : RowIn k w B w.heap.size a zs := by
  rcases h with h | ⟨b, off, h1, h0, h2, h3, h4⟩
  · exact .inl h
  · exact .inr ⟨b, off, h1, h0, h2, h2, h3, h4⟩

theorem RowIn.later {k : IntKind} {w w' : World} {lo hi : Nat} {a : Option Addr} {zs : List Int} (h : RowIn k w lo hi a zs) (hb : Below w.heap.size w w') : RowIn k w' lo hi a zs := by
  rcases h with h | ⟨b, off, h1, h0, h00, h2, h3, h4⟩
  · exact .inl h
  · exact .inr ⟨b, off, h1, h0, h00, Nat.lt_of_lt_of_le h2 hb.size, fun j hj => (hb.cell (p := ⟨b, off + j, none⟩) h2).trans (h3 j hj), fun j hj => (hb.frozen (p := ⟨b, off + j, none⟩) h2).trans (h4 j hj)⟩

theorem RowIn.apart {k : IntKind} {w w' : World} {lo hi lo' hi' : Nat} {a : Option Addr} {zs : List Int} (h : RowIn k w lo hi a zs) (hb : Within lo' hi' w w') (hd : hi ≤ lo' ∨ hi' ≤ lo) : RowIn k w' lo hi a zs := by
  rcases h with h | ⟨b, off, h1, h0, h00, h2, h3, h4⟩
  · exact .inl h
  · exact .inr ⟨b, off, h1, h0, h00, by rw [hb.size]; exact h2, fun j hj => (hb.cell (p := ⟨b, off + j, none⟩) (by simp; omega)).trans (h3 j hj), fun j hj => (hb.frozen (p := ⟨b, off + j, none⟩) (by simp; omega)).trans (h4 j hj)⟩

end Go.Proofs.YtladfpljnaippaaDoor
