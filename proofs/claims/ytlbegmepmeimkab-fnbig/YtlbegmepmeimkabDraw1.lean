/-
  A drawn Big while it grows.
-/
import Derived.Test.YtlbegmepmeimkabDraw0
namespace Go.Proofs.Ytlbegmepmeimkab
open Go.RowKit

/-- The answer's box (block R, still zero), the number's own box (block O: sign G, limbs v), the limbs in memory from B on; the reader in block P; of w nothing else has turned. -/
structure DS (w : World) (P R O B : Nat) (e : TypeId) (G : Bool) (v : Value) (ys : List Int) (W : World) : Prop where
  r1 : W.cell? ⟨R, 0, none⟩ = some (.bool false)
  r2 : W.cell? ⟨R, 1, none⟩ = some (.slice none 0 0)
  r3 : ∀ j, W.frozen? ⟨R, j, none⟩ = false
  o0 : W.cell? ⟨O, 0, none⟩ = some (.bool G)
  o1 : W.cell? ⟨O, 1, none⟩ = some v
  o2 : ∀ j, W.frozen? ⟨O, j, none⟩ = false
  own : W.ownsRow B e 1 v ys.length (vals .u32 ys)
  u : U32 ys
  rd : Rd P W
  asd : Aside P w W
  ordR : w.heap.size ≤ R
  ordP : P < w.heap.size
  ordO : R < O
  ordB : O < B
  ordW : B ≤ W.heap.size

section
variable {w : World} {P R O B : Nat} {e : TypeId} {G : Bool} {v : Value} {ys : List Int} {W W' : World}

theorem DS.aside (h : DS w P R O B e G v ys W) (ha : Aside P W W') (hr : Rd P W') : DS w P R O B e G v ys W' := by
  have o1 := h.ordR; have o2 := h.ordP; have o3 := h.ordO; have o4 := h.ordB; have o5 := h.ordW
  exact ⟨(ha.cell (by simp; omega) (by simp; omega)).trans h.r1, (ha.cell (by simp; omega) (by simp; omega)).trans h.r2, fun j => (ha.frozen (by simp; omega) (by simp; omega)).trans (h.r3 j), (ha.cell (by simp; omega) (by simp; omega)).trans h.o0, (ha.cell (by simp; omega) (by simp; omega)).trans h.o1, fun j => (ha.frozen (by simp; omega) (by simp; omega)).trans (h.o2 j),
    ha.own h.own (by omega), h.u, hr, h.asd.trans ha, h.ordR, h.ordP, h.ordO, h.ordB, Nat.le_trans h.ordW ha.size⟩

theorem DS.later (h : DS w P R O B e G v ys W) (hb : Below W.heap.size W W') : DS w P R O B e G v ys W' := h.aside (Aside.of hb) (h.rd.later hb)

/-- The limbs have grown, and lie in the box. -/
theorem DS.grow {v' : Value} {ys' : List Int} (h : DS w P R O B e G v ys W) (hb : Below B W W') (hown : W'.ownsRow B e 1 v' ys'.length (vals .u32 ys')) (hu : U32 ys') : DS w P R O B e G v' ys' (W'.setCell ⟨O, 1, none⟩ v') := by
  have o1 := h.ordR; have o2 := h.ordP; have o3 := h.ordO; have o4 := h.ordB; have o5 := h.ordW
  have c1 : W'.cell? ⟨O, 1, none⟩ = some v := (hb.cell (by simp; omega)).trans h.o1
  refine ⟨?_, ?_, ?_, ?_, ?_, ?_, ?_, hu, ?_, ?_, h.ordR, h.ordP, h.ordO, h.ordB, ?_⟩
  · rw [World.cell?_setCell_other _ _ _ _ (by first | (simp; done) | (simp; omega))]; exact (hb.cell (by simp; omega)).trans h.r1
  · rw [World.cell?_setCell_other _ _ _ _ (by first | (simp; done) | (simp; omega))]; exact (hb.cell (by simp; omega)).trans h.r2
  · intro j; rw [World.frozen?_setCell]; exact (hb.frozen (by simp; omega)).trans (h.r3 j)
  · rw [World.cell?_setCell_other _ _ _ _ (by simp)]; exact (hb.cell (by simp; omega)).trans h.o0
  · exact World.cell?_setCell_same _ _ _ c1
  · intro j; rw [World.frozen?_setCell]; exact (hb.frozen (by simp; omega)).trans (h.o2 j)
  · refine ⟨hown.1, ?_⟩
    rcases hown.2 with g1 | ⟨g, cap, cur, g1, g2, g3, g4⟩
    · exact .inl g1
    · refine .inr ⟨g, cap, cur, g1, g2, ?_, g4⟩
      have hw : Within O (O + 1) W' (W'.setCell ⟨O, 1, none⟩ v') := (Within.refl O (O + 1) W').setCell (p := ⟨O, 1, none⟩) (Nat.le_refl _) (Nat.lt_succ_self _) v'
      rw [hw.block g (by omega)]
      exact g3
  · have hw : Below (P + 1) W' (W'.setCell ⟨O, 1, none⟩ v') := (Below.refl _ _).setCell (by simp; omega) _
    exact (h.rd.above hb (by omega)).above hw (by omega)
  · exact (h.asd.high hb (by omega)).setHigh (by simp; omega) _
  · have := hb.size; simp; omega

/-- Its sign is set. -/
theorem DS.sign (h : DS w P R O B e G v ys W) (G' : Bool) : DS w P R O B e G' v ys (W.setCell ⟨O, 0, none⟩ (.bool G')) := by
  have o1 := h.ordR; have o2 := h.ordP; have o3 := h.ordO; have o4 := h.ordB; have o5 := h.ordW
  refine ⟨?_, ?_, ?_, ?_, ?_, ?_, ?_, h.u, ?_, ?_, h.ordR, h.ordP, h.ordO, h.ordB, by simpa using h.ordW⟩
  · rw [World.cell?_setCell_other _ _ _ _ (by first | (simp; done) | (simp; omega))]; exact h.r1
  · rw [World.cell?_setCell_other _ _ _ _ (by first | (simp; done) | (simp; omega))]; exact h.r2
  · intro j; rw [World.frozen?_setCell]; exact h.r3 j
  · exact World.cell?_setCell_same _ _ _ h.o0
  · rw [World.cell?_setCell_other _ _ _ _ (by simp)]; exact h.o1
  · intro j; rw [World.frozen?_setCell]; exact h.o2 j
  · refine ⟨h.own.1, ?_⟩
    rcases h.own.2 with g1 | ⟨g, cap, cur, g1, g2, g3, g4⟩
    · exact .inl g1
    · refine .inr ⟨g, cap, cur, g1, g2, ?_, g4⟩
      have hw : Within O (O + 1) W (W.setCell ⟨O, 0, none⟩ (.bool G')) := (Within.refl O (O + 1) W).setCell (p := ⟨O, 0, none⟩) (Nat.le_refl _) (Nat.lt_succ_self _) _
      rw [hw.block g (by omega)]
      exact g3
  · have hw : Below (P + 1) W (W.setCell ⟨O, 0, none⟩ (.bool G')) := (Below.refl _ _).setCell (by simp; omega) _
    exact h.rd.above hw (by omega)
  · exact h.asd.setHigh (by simp; omega) _

/-- A drawn Big: what is handed back. -/
def DrawOut (P : Nat) (e' : TypeId) (w : World) (n : Nat) (e : Ending) (w' : World) : Prop :=
  ∃ (G : Bool) (a : Option Addr) (c : Nat) (zs : List Int), e = .returned (.agg #[.bool G, .slice a zs.length c]) ∧ zs.length ≤ n ∧ U32 zs ∧ w'.ownsRow w.heap.size e' 1 (.slice a zs.length c) zs.length (vals .u32 zs) ∧ Rd P w' ∧ Aside P w w'

theorem own_set {X : World} {base : Nat} {e : TypeId} {v : Value} {n : Nat} {xs : List Value} (h : X.ownsRow base e 1 v n xs) {p : Addr} (hp : p.block < base) (u : Value) : (X.setCell p u).ownsRow base e 1 v n xs := by
  refine ⟨h.1, ?_⟩
  rcases h.2 with g1 | ⟨g, cap, cur, g1, g2, g3, g4⟩
  · exact .inl g1
  · refine .inr ⟨g, cap, cur, g1, g2, ?_, g4⟩
    have hw : Within p.block (p.block + 1) X (X.setCell p u) := (Within.refl _ _ X).setCell (p := p) (Nat.le_refl _) (Nat.lt_succ_self _) u
    rw [hw.block g (by omega)]
    exact g3

theorem own_mono {X : World} {base base' : Nat} {e : TypeId} {v : Value} {n : Nat} {xs : List Value} (h : X.ownsRow base e 1 v n xs) (hb : base' ≤ base) : X.ownsRow base' e 1 v n xs := by
  refine ⟨h.1, ?_⟩
  rcases h.2 with g1 | ⟨g, cap, cur, g1, g2, g3⟩
  · exact .inl g1
  · exact .inr ⟨g, cap, cur, g1, Nat.le_trans hb g2, g3⟩

theorem own_slice {X : World} {base : Nat} {e : TypeId} {v : Value} {n : Nat} {xs : List Value} (h : X.ownsRow base e 1 v n xs) : ∃ a c, v = .slice a n c := by
  rcases h.2 with ⟨h1, h2⟩ | ⟨g, cap, cur, h1, _⟩
  · subst h2; exact ⟨none, 0, h1⟩
  · exact ⟨some ⟨g, 0, none⟩, cap, h1⟩

/-- Shorter by its last limb. -/
theorem own_short {X : World} {base : Nat} {e : TypeId} {a : Option Addr} {c : Nat} {ys : List Int} {m : Nat} (h : X.ownsRow base e 1 (.slice a ys.length c) ys.length (vals .u32 ys)) (hm : ys.length = m + 1) : X.ownsRow base e 1 (.slice a m c) (ys.take m).length (vals .u32 (ys.take m)) := by
  have ht : (ys.take m).length = m := by rw [List.length_take]; omega
  refine ⟨by rw [vals_length, Nat.mul_one], ?_⟩
  rw [ht]
  rcases h.2 with ⟨h1, h2⟩ | ⟨g, cap, cur, h1, h2, h3, h4, h5, h6, h7⟩
  · omega
  · injection h1 with e1 e2 e3
    subst e1 e3
    refine .inr ⟨g, c, cur, rfl, h2, h3, by omega, h5, h6, ?_⟩
    have := congrArg (List.take m) h7
    rw [List.take_take, show min m (ys.length * 1) = m by omega] at this
    rw [Nat.mul_one, this]
    simp [vals, List.map_take]

theorem U32.snoc {ys : List Int} {y : Int} (h : U32 ys) (h0 : 0 ≤ y) (h1 : y < 4294967296) : U32 (ys ++ [y]) := by
  intro z hz
  rcases List.mem_append.1 hz with hz | hz
  · exact h z hz
  · have : z = y := by simpa using hz
    subst this
    exact ⟨h0, h1⟩

theorem U32.take {ys : List Int} (h : U32 ys) (m : Nat) : U32 (ys.take m) := fun z hz => h z (List.mem_of_mem_take hz)

/-- The end: the number's box is read into the answer's. -/
theorem DS.out {a : Option Addr} {c n : Nat} (h : DS w P R O B e G (.slice a ys.length c) ys W) (hn : ys.length ≤ n) : DrawOut P e w n (.returned (.agg #[.bool G, .slice a ys.length c])) ((W.setCell ⟨R, 0, none⟩ (.bool G)).setCell ⟨R, 1, none⟩ (.slice a ys.length c)) := by
  have o1 := h.ordR; have o2 := h.ordP; have o3 := h.ordO; have o4 := h.ordB; have o5 := h.ordW
  refine ⟨G, a, c, ys, rfl, hn, h.u, own_mono (own_set (own_set h.own (by simp; omega) _) (by simp; omega) _) (by omega), ?_, (h.asd.setHigh (by simp; omega) _).setHigh (by simp; omega) _⟩
  have hw : Below (P + 1) W ((W.setCell ⟨R, 0, none⟩ (.bool G)).setCell ⟨R, 1, none⟩ (.slice a ys.length c)) := ((Below.refl _ _).setCell (by simp; omega) _).setCell (by simp; omega) _
  exact h.rd.above hw (by omega)

end

end Go.Proofs.Ytlbegmepmeimkab
