/-
  Dyadic numbers: boxes of three cells; the model's normal forms.
-/
import Derived.Test.YtcjdnomhnlbmbaaSpecTw
import Derived.Test.YtcjdnomhnlbmbaaSpecO
import Derived.Test.YtcjdnomhnlbmbaaSpecH
namespace Go.Proofs.Ytcjdnomhnlbmbaa
open Go.RowKit

/-- A struct of three cells lies behind w, and the answer's, still zero, behind that; nothing of w has turned. -/
structure Bx3 (w : World) (u v e : Value) (W : World) : Prop where
  q0 : W.cell? ⟨w.heap.size, 0, none⟩ = some u
  q1 : W.cell? ⟨w.heap.size, 1, none⟩ = some v
  q2 : W.cell? ⟨w.heap.size, 2, none⟩ = some e
  r1 : W.cell? ⟨w.heap.size + 1, 0, none⟩ = some (.bool false)
  r2 : W.cell? ⟨w.heap.size + 1, 1, none⟩ = some (.slice none 0 0)
  r3 : W.cell? ⟨w.heap.size + 1, 2, none⟩ = some (.int .i64 0)
  r4 : ∀ j, W.frozen? ⟨w.heap.size + 1, j, none⟩ = false
  le : w.heap.size + 1 + 1 ≤ W.heap.size
  bel : Below w.heap.size w W

theorem Bx3.start (w : World) (u v e : Value) (t t' : TypeId) : Bx3 w u v e ((w.alloc (.cells #[u, v, e] t)).alloc (.cells #[.bool false, .slice none 0 0, .int .i64 0] t')) := by
  refine ⟨?_, ?_, ?_, ?_, ?_, ?_, ?_, ?_, bel2 _ _ _⟩
  all_goals simp [go_sem]

theorem Bx3.later {w : World} {u v e : Value} {W W' : World} (h : Bx3 w u v e W) (hb : Below W.heap.size W W') : Bx3 w u v e W' := by
  have hl := h.le
  exact ⟨(hb.cell (by simp; omega)).trans h.q0, (hb.cell (by simp; omega)).trans h.q1, (hb.cell (by simp; omega)).trans h.q2, (hb.cell (by simp; omega)).trans h.r1, (hb.cell (by simp; omega)).trans h.r2, (hb.cell (by simp; omega)).trans h.r3, fun j => (hb.frozen (by simp; omega)).trans (h.r4 j), Nat.le_trans h.le hb.size, h.bel.trans (hb.mono (by omega))⟩

/-- What a function of the model hands back that answers an l2dy: m * 2^e. -/
def L2Out (w : World) (n : Nat) (m e' : Int) (e : Ending) (w' : World) : Prop :=
  ∃ (g : Bool) (a : Option Addr) (c : Nat) (fs : List Int), e = .returned (.agg #[.bool g, .slice a fs.length c, .int .i64 e']) ∧ fs.length ≤ n ∧ L1 w' g a c fs m ∧ Far w.heap.size a fs ∧ Below w.heap.size w w'

/-- m * 2^e' is x * 2^e0 in its normal form. -/
def NormOf (x e0 m e' : Int) (T : Nat) : Prop := (x = 0 ∧ m = 0 ∧ e' = 0) ∨ (x ≠ 0 ∧ ∃ t : Nat, x = m * 2 ^ t ∧ e' = e0 + t ∧ m % 2 = 1 ∧ t ≤ T)

/-- What l2norm hands back. -/
def NormOut (w : World) (n : Nat) (x e0 : Int) (T : Nat) (e : Ending) (w' : World) : Prop := ∃ m e', NormOf x e0 m e' T ∧ L2Out w n m e' e w'

theorem L1.nil (w : World) : L1 w false none 0 [] 0 := ⟨⟨by simp, fun _ => rfl, .inl rfl⟩, ⟨Dig.nil _, rfl⟩, by simp [sg, val], (fun h => by cases h), by unfold maxLen; omega⟩

theorem norm_of {g : Bool} {v x : Int} {t : Nat} (hx : x = sg g v) (ht : Twos v t) : x = sg g (v / 2 ^ t) * 2 ^ t ∧ sg g (v / 2 ^ t) % 2 = 1 := by
  obtain ⟨h1, h2⟩ := ht.ediv
  cases g
  · have hx : x = v := hx
    refine ⟨?_, h2⟩
    rw [hx]
    exact h1
  · simp only [sg, if_true] at hx ⊢
    refine ⟨?_, by omega⟩
    rw [hx, Int.neg_mul, ← h1]

end Go.Proofs.Ytcjdnomhnlbmbaa
