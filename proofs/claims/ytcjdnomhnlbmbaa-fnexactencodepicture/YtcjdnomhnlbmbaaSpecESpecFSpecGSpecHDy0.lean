/-
  The model's differences of magnitudes.
-/
import Derived.Test.YtcjdnomhnlbmbaaSpecD
import Derived.Deep.RegionHeld3
import Derived.Test.YtcjdnomhnlbmbaaSpecTw
import Derived.Test.YtcjdnomhnlbmbaaBox1SpecNSpecO
namespace Go.Proofs.Ytcjdnomhnlbmbaa
open Go.RowKit

end Go.Proofs.Ytcjdnomhnlbmbaa

/-
  Signs turned.
-/
namespace Go.Proofs.Ytcjdnomhnlbmbaa
open Go.RowKit

theorem sg_not (g : Bool) (n : Int) : sg (!g) n = - sg g n := by cases g <;> simp [sg]

end Go.Proofs.Ytcjdnomhnlbmbaa

/-
  The model's sums.
-/
namespace Go.Proofs.Ytcjdnomhnlbmbaa
open Go.RowKit

/-- What a region of l1add holds of memory: both boxes, and that nothing below the answer's own box has turned. -/
def AddS (w : World) (g g' : Bool) (v v' : Value) (w0 w1 : World) : Prop :=
  w1.cell? ⟨w.heap.size, 0, none⟩ = some (.bool g) ∧ w1.cell? ⟨w.heap.size, 1, none⟩ = some v ∧ w1.cell? ⟨w.heap.size + 1, 0, none⟩ = some (.bool g') ∧ w1.cell? ⟨w.heap.size + 1, 1, none⟩ = some v' ∧ Below (w.heap.size + 1 + 1) w0 w1

theorem addS_of {w w0 w1 : World} {g g' : Bool} {v v' : Value} (h : AddS w g g' v v' w0 w0) (hb : Below (w.heap.size + 1 + 1) w0 w1) : w1.cell? ⟨w.heap.size, 0, none⟩ = some (.bool g) ∧ w1.cell? ⟨w.heap.size, 1, none⟩ = some v ∧ w1.cell? ⟨w.heap.size + 1, 0, none⟩ = some (.bool g') ∧ w1.cell? ⟨w.heap.size + 1, 1, none⟩ = some v' ∧ Below (w.heap.size + 1 + 1) w0 w1 :=
  ⟨(hb.cell (by simp; omega)).trans h.1, (hb.cell (by simp; omega)).trans h.2.1, (hb.cell (by simp)).trans h.2.2.1, (hb.cell (by simp)).trans h.2.2.2.1, hb⟩

/-- The world behind the boxes of two arguments and of the answer. -/
theorem addF (w : World) (g g' : Bool) (v v' z : Value) (t t' t2 : TypeId) (W0 : World) (hW : W0 = ((w.alloc (.cells #[.bool g, v] t)).alloc (.cells #[.bool g', v'] t')).alloc (.cells #[.bool false, z] t2)) :
    AddS w g g' v v' W0 W0 ∧ W0.cell? ⟨w.heap.size + 1 + 1, 0, none⟩ = some (.bool false) ∧ W0.cell? ⟨w.heap.size + 1 + 1, 1, none⟩ = some z ∧ (∀ j, W0.frozen? ⟨w.heap.size + 1 + 1, j, none⟩ = false) ∧ W0.heap.size = w.heap.size + 1 + 1 + 1 ∧ Below w.heap.size w W0 := by
  subst hW
  refine ⟨⟨?_, ?_, ?_, ?_, Below.refl _ _⟩, ?_, ?_, ?_, ?_, bel3 _ _ _ _⟩
  all_goals simp [go_sem]

end Go.Proofs.Ytcjdnomhnlbmbaa

/-
  The model's sums of numbers of two signs; differences, signs, order.
-/
namespace Go.Proofs.Ytcjdnomhnlbmbaa
open Go.RowKit

/-- The boxes of two arguments and of the answer, in whatever later world. -/
structure AddF (w : World) (g g' : Bool) (v v' z : Value) (W : World) : Prop where
  s : AddS w g g' v v' W W
  r1 : W.cell? ⟨w.heap.size + 1 + 1, 0, none⟩ = some (.bool false)
  r2 : W.cell? ⟨w.heap.size + 1 + 1, 1, none⟩ = some z
  r3 : ∀ j, W.frozen? ⟨w.heap.size + 1 + 1, j, none⟩ = false
  le : w.heap.size + 1 + 1 + 1 ≤ W.heap.size
  bel : Below w.heap.size w W

theorem AddF.start (w : World) (g g' : Bool) (v v' z : Value) (t t' t2 : TypeId) : AddF w g g' v v' z (((w.alloc (.cells #[.bool g, v] t)).alloc (.cells #[.bool g', v'] t')).alloc (.cells #[.bool false, z] t2)) := by
  obtain ⟨h1, h2, h3, h4, h5, h6⟩ := addF w g g' v v' z t t' t2 _ rfl
  exact ⟨h1, h2, h3, h4, by omega, h6⟩

theorem AddF.later {w : World} {g g' : Bool} {v v' z : Value} {W W' : World} (h : AddF w g g' v v' z W) (hb : Below W.heap.size W W') : AddF w g g' v v' z W' := by
  have hle := h.le
  obtain ⟨a1, a2, a3, a4, _⟩ := addS_of h.s (hb.mono (by omega))
  exact ⟨⟨a1, a2, a3, a4, Below.refl _ _⟩, (hb.cell (by simp; omega)).trans h.r1, (hb.cell (by simp; omega)).trans h.r2, fun j => (hb.frozen (by simp; omega)).trans (h.r3 j), Nat.le_trans h.le hb.size, h.bel.trans (hb.mono (by omega))⟩

theorem cmpL_ge {B : Int} (hB : 0 < B) {xs ys : List Int} (hx : Canon B xs) (hy : Canon B ys) (h : 0 ≤ cmpL xs ys) : ys.length ≤ xs.length ∧ val B ys ≤ val B xs := by
  have hc := cmpL_val hB hx hy
  constructor
  · by_cases hl : xs.length < ys.length
    · unfold cmpL at h
      rw [if_neg (by omega), if_pos hl] at h
      omega
    · omega
  · rcases sgn_cases (val B xs - val B ys) with ⟨h1, h2⟩ | ⟨h1, h2⟩ | ⟨h1, h2⟩
    · omega
    · omega
    · omega

theorem cmpL_lt {B : Int} (hB : 0 < B) {xs ys : List Int} (hx : Canon B xs) (hy : Canon B ys) (h : cmpL xs ys < 0) : xs.length ≤ ys.length ∧ val B xs ≤ val B ys := by
  have hc := cmpL_val hB hx hy
  constructor
  · by_cases hl : ys.length < xs.length
    · unfold cmpL at h
      rw [if_neg (by omega), if_neg (by omega)] at h
      omega
    · omega
  · rcases sgn_cases (val B xs - val B ys) with ⟨h1, h2⟩ | ⟨h1, h2⟩ | ⟨h1, h2⟩
    · omega
    · omega
    · omega

end Go.Proofs.Ytcjdnomhnlbmbaa

/-
  Dyadic numbers: boxes of three cells; the model's normal forms.
-/
namespace Go.Proofs.Ytcjdnomhnlbmbaa
open Go.RowKit

/-- A struct of three cells lies behind w, and the answer's, still zero, behind that; nothing of w has turned. -/
structure Bx3 (w : World) (u v e : Value) (W : World) : Prop where
  q0 : W.cell? ⟨w.heap.size, 0, none⟩ = some u
  q1 : W.cell? ⟨w.heap.size, 1, none⟩ = some v
  q2 : W.cell? ⟨w.heap.size, 2, none⟩ = some e
  r1 : W.cell? ⟨w.heap.size + 1, 0, none⟩ = some (.bool false)
  r2 : W.cell? ⟨w.heap.size + 1, 1, none⟩ = some (.slice none 0 0)
  r3 : W.cell? ⟨w.heap.size + 1, 2, none⟩ = some (.int .i64 0)
  r4 : ∀ j, W.frozen? ⟨w.heap.size + 1, j, none⟩ = false
  le : w.heap.size + 1 + 1 ≤ W.heap.size
  bel : Below w.heap.size w W

theorem Bx3.start (w : World) (u v e : Value) (t t' : TypeId) : Bx3 w u v e ((w.alloc (.cells #[u, v, e] t)).alloc (.cells #[.bool false, .slice none 0 0, .int .i64 0] t')) := by
  refine ⟨?_, ?_, ?_, ?_, ?_, ?_, ?_, ?_, bel2 _ _ _⟩
  all_goals simp [go_sem]

theorem Bx3.later {w : World} {u v e : Value} {W W' : World} (h : Bx3 w u v e W) (hb : Below W.heap.size W W') : Bx3 w u v e W' := by
  have hl := h.le
  exact ⟨(hb.cell (by simp; omega)).trans h.q0, (hb.cell (by simp; omega)).trans h.q1, (hb.cell (by simp; omega)).trans h.q2, (hb.cell (by simp; omega)).trans h.r1, (hb.cell (by simp; omega)).trans h.r2, (hb.cell (by simp; omega)).trans h.r3, fun j => (hb.frozen (by simp; omega)).trans (h.r4 j), Nat.le_trans h.le hb.size, h.bel.trans (hb.mono (by omega))⟩

/-- What a function of the model hands back that answers an l2dy: m * 2^e. -/
def L2Out (w : World) (n : Nat) (m e' : Int) (e : Ending) (w' : World) : Prop :=
  ∃ (g : Bool) (a : Option Addr) (c : Nat) (fs : List Int), e = .returned (.agg #[.bool g, .slice a fs.length c, .int .i64 e']) ∧ fs.length ≤ n ∧ L1 w' g a c fs m ∧ Far w.heap.size a fs ∧ Below w.heap.size w w'

/-- m * 2^e' is x * 2^e0 in its normal form. -/
def NormOf (x e0 m e' : Int) (T : Nat) : Prop := (x = 0 ∧ m = 0 ∧ e' = 0) ∨ (x ≠ 0 ∧ ∃ t : Nat, x = m * 2 ^ t ∧ e' = e0 + t ∧ m % 2 = 1 ∧ t ≤ T)

/-- What l2norm hands back. -/
def NormOut (w : World) (n : Nat) (x e0 : Int) (T : Nat) (e : Ending) (w' : World) : Prop := ∃ m e', NormOf x e0 m e' T ∧ L2Out w n m e' e w'

theorem L1.nil (w : World) : L1 w false none 0 [] 0 := ⟨⟨by simp, fun _ => rfl, .inl rfl⟩, ⟨Dig.nil _, rfl⟩, by simp [sg, val], (fun h => by cases h), by unfold maxLen; omega⟩

theorem norm_of {g : Bool} {v x : Int} {t : Nat} (hx : x = sg g v) (ht : Twos v t) : x = sg g (v / 2 ^ t) * 2 ^ t ∧ sg g (v / 2 ^ t) % 2 = 1 := by
  obtain ⟨h1, h2⟩ := ht.ediv
  cases g
  · have hx : x = v := hx
    refine ⟨?_, h2⟩
    rw [hx]
    exact h1
  · simp only [sg, if_true] at hx ⊢
    refine ⟨?_, by omega⟩
    rw [hx, Int.neg_mul, ← h1]

end Go.Proofs.Ytcjdnomhnlbmbaa
