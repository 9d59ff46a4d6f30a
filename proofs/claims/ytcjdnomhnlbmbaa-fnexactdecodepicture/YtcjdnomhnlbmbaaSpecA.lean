/-
  The model's whole numbers: trimming, making.
-/
import Derived.Test.YtcjdnomhnlbmbaaUtil
import Derived.Test.YtcjdnomhnlbmbaaNum
namespace Go.Proofs.Ytcjdnomhnlbmbaa
open Go.RowKit

/-- A slice value reads as the numbers zs. -/
structure Sl (k : IntKind) (w : World) (a : Option Addr) (c : Nat) (zs : List Int) : Prop where
  fits : zs.length ≤ c
  nil : a = none → c = 0
  row : RowAt k w a zs

theorem Sl.later {k : IntKind} {w w' : World} {a : Option Addr} {c : Nat} {zs : List Int} (h : Sl k w a c zs) (hb : Below w.heap.size w w') : Sl k w' a c zs := ⟨h.fits, h.nil, h.row.later hb⟩

theorem RowAt.take {k : IntKind} {w : World} {a : Option Addr} {zs : List Int} (h : RowAt k w a zs) (m : Nat) : RowAt k w a (zs.take m) := by
  rcases h with h | ⟨b, off, h1, h2, h3⟩
  · exact .inl (by rw [h]; simp)
  · refine .inr ⟨b, off, h1, h2, fun j hj => ?_⟩
    rw [List.length_take] at hj
    rw [h3 j (by omega)]
    simp [List.getD_eq_getElem?_getD, show j < m from by omega]

theorem Sl.take {k : IntKind} {w : World} {a : Option Addr} {c : Nat} {zs : List Int} (h : Sl k w a c zs) (m : Nat) : Sl k w a c (zs.take m) :=
  ⟨by have := h.fits; rw [List.length_take]; omega, h.nil, h.row.take m⟩

/-- A store below the memory of another reading of the same slice. -/
theorem RowAt.setLow {k k' : IntKind} {w w' : World} {B : Nat} {a : Option Addr} {zs ys : List Int} (h : RowAt k w a zs) (hf : RowNew k' w' B a ys) (hl : zs.length ≤ ys.length) {p : Addr} (hp : p.block < B) (v : Value) : RowAt k (w.setCell p v) a zs := by
  rcases h with h | ⟨b, off, h1, h2, h3⟩
  · exact .inl h
  · rcases hf with hf | ⟨b', off', h1', h2', _⟩
    · subst hf
      exact .inl (List.length_eq_zero_iff.1 (by simpa using hl))
    · rw [h1] at h1'
      injection h1' with h1'
      have hbb : b = b' := congrArg Addr.block h1'
      refine .inr ⟨b, off, h1, by simpa using h2, fun j hj => ?_⟩
      rw [World.cell?_setCell_other _ _ _ _ (by intro hh; have := congrArg Addr.block hh; simp at this; omega)]
      exact h3 j hj

/-- A store into memory that is newer than another reading of the same slice. -/
theorem RowAt.setNew {k k' : IntKind} {w w' : World} {a : Option Addr} {zs ys : List Int} (h : RowAt k w a zs) (hf : RowAt k' w' a ys) (hl : zs.length ≤ ys.length) {p : Addr} (hp : w'.heap.size ≤ p.block) (v : Value) : RowAt k (w.setCell p v) a zs := by
  rcases h with h | ⟨b, off, h1, h2, h3⟩
  · exact .inl h
  · rcases hf with hf | ⟨b', off', h1', h2', _⟩
    · subst hf
      exact .inl (List.length_eq_zero_iff.1 (by simpa using hl))
    · rw [h1] at h1'
      injection h1' with h1'
      have hbb : b = b' := congrArg Addr.block h1'
      refine .inr ⟨b, off, h1, by simpa using h2, fun j hj => ?_⟩
      rw [World.cell?_setCell_other _ _ _ _ (by intro hh; have := congrArg Addr.block hh; simp at this; omega)]
      exact h3 j hj

/-- A sign and a size. -/
def sg (g : Bool) (n : Int) : Int := if g then -n else n

/-- The parts of a value of the model's type l1int write the number x. -/
structure L1 (w : World) (g : Bool) (a : Option Addr) (c : Nat) (ds : List Int) (x : Int) : Prop where
  sl : Sl .i64 w a c ds
  can : Canon 65536 ds
  num : x = sg g (val 65536 ds)
  zero : g = true → ds ≠ []
  cap : c ≤ maxLen

theorem L1.later {w w' : World} {g : Bool} {a : Option Addr} {c : Nat} {ds : List Int} {x : Int} (h : L1 w g a c ds x) (hb : Below w.heap.size w w') : L1 w' g a c ds x :=
  ⟨h.sl.later hb, h.can, h.num, h.zero, h.cap⟩

theorem L1.setLow {k' : IntKind} {w w' : World} {B : Nat} {g : Bool} {a : Option Addr} {c : Nat} {ds ys : List Int} {x : Int} (h : L1 w g a c ds x) (hf : RowNew k' w' B a ys) (hl : ds.length ≤ ys.length) {p : Addr} (hp : p.block < B) (v : Value) : L1 (w.setCell p v) g a c ds x :=
  ⟨⟨h.sl.fits, h.sl.nil, h.sl.row.setLow hf hl hp v⟩, h.can, h.num, h.zero, h.cap⟩

theorem L1.setNew {k' : IntKind} {w w' : World} {g : Bool} {a : Option Addr} {c : Nat} {ds ys : List Int} {x : Int} (h : L1 w g a c ds x) (hf : RowAt k' w' a ys) (hl : ds.length ≤ ys.length) {p : Addr} (hp : w'.heap.size ≤ p.block) (v : Value) : L1 (w.setCell p v) g a c ds x :=
  ⟨⟨h.sl.fits, h.sl.nil, h.sl.row.setNew hf hl hp v⟩, h.can, h.num, h.zero, h.cap⟩

theorem L1.of_trim {w : World} {a : Option Addr} {c : Nat} {ds : List Int} (g : Bool) (h : Sl .i64 w a c (trimL ds)) (hd : Dig 65536 ds) (hc : c ≤ maxLen) : L1 w (g && decide (0 < (trimL ds).length)) a c (trimL ds) (sg g (val 65536 ds)) := by
  refine ⟨h, canon_trim hd, ?_, ?_, hc⟩
  · rw [val_trim]
    by_cases e : trimL ds = []
    · have : val 65536 ds = 0 := by rw [← val_trim, e]; rfl
      rw [this]
      simp [sg]
    · have : 0 < (trimL ds).length := by
        rcases Nat.eq_zero_or_pos (trimL ds).length with h | h
        · exact absurd (List.length_eq_zero_iff.1 h) e
        · exact h
      simp [this]
  · intro hg e
    rw [e] at hg
    simp at hg

/-- The slice lies in memory from block B on. -/
def Far (B : Nat) (a : Option Addr) (zs : List Int) : Prop := zs = [] ∨ ∃ b off, a = some ⟨b, off, none⟩ ∧ B ≤ b

theorem RowNew.far {k : IntKind} {w : World} {B B' : Nat} {a : Option Addr} {ys zs : List Int} (h : RowNew k w B a ys) (hl : zs.length ≤ ys.length) (hB : B' ≤ B) : Far B' a zs := by
  rcases h with h | ⟨b, off, h1, h2, _⟩
  · subst h
    exact .inl (List.length_eq_zero_iff.1 (by simpa using hl))
  · exact .inr ⟨b, off, h1, Nat.le_trans hB h2⟩

theorem L1.setFar {w : World} {B : Nat} {g : Bool} {a : Option Addr} {c : Nat} {ds : List Int} {x : Int} (h : L1 w g a c ds x) (hf : Far B a ds) {p : Addr} (hp : p.block < B) (v : Value) : L1 (w.setCell p v) g a c ds x := by
  refine ⟨⟨h.sl.fits, h.sl.nil, ?_⟩, h.can, h.num, h.zero, h.cap⟩
  rcases h.sl.row with h | ⟨b, off, h1, h2, h3⟩
  · exact .inl h
  · rcases hf with hf | ⟨b', off', h1', h2'⟩
    · exact .inl hf
    · rw [h1] at h1'
      injection h1' with h1'
      have hbb : b = b' := congrArg Addr.block h1'
      refine .inr ⟨b, off, h1, by simpa using h2, fun j hj => ?_⟩
      rw [World.cell?_setCell_other _ _ _ _ (by intro hh; have := congrArg Addr.block hh; simp at this; omega)]
      exact h3 j hj

theorem Far.down {B B' : Nat} {a : Option Addr} {zs : List Int} (h : Far B a zs) (hB : B' ≤ B) : Far B' a zs := by
  rcases h with h | ⟨b, off, h1, h2⟩
  · exact .inl h
  · exact .inr ⟨b, off, h1, Nat.le_trans hB h2⟩

end Go.Proofs.Ytcjdnomhnlbmbaa
