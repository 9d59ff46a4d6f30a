/-
  The model's sums of dyadic numbers.
-/
import Derived.Test.YtcjdnomhnlbmbaaDy1h
namespace Go.Proofs.Ytcjdnomhnlbmbaa
open Go.RowKit

/-- The boxes of two l2dy and of the answer, in whatever later world. -/
structure Bx7 (w : World) (u v e u' v' e' : Value) (W : World) : Prop where
  q0 : W.cell? ⟨w.heap.size, 0, none⟩ = some u
  q1 : W.cell? ⟨w.heap.size, 1, none⟩ = some v
  q2 : W.cell? ⟨w.heap.size, 2, none⟩ = some e
  p0 : W.cell? ⟨w.heap.size + 1, 0, none⟩ = some u'
  p1 : W.cell? ⟨w.heap.size + 1, 1, none⟩ = some v'
  p2 : W.cell? ⟨w.heap.size + 1, 2, none⟩ = some e'
  r1 : W.cell? ⟨w.heap.size + 1 + 1, 0, none⟩ = some (.bool false)
  r2 : W.cell? ⟨w.heap.size + 1 + 1, 1, none⟩ = some (.slice none 0 0)
  r3 : W.cell? ⟨w.heap.size + 1 + 1, 2, none⟩ = some (.int .i64 0)
  r4 : ∀ j, W.frozen? ⟨w.heap.size + 1 + 1, j, none⟩ = false
  le : w.heap.size + 1 + 1 + 1 ≤ W.heap.size
  bel : Below w.heap.size w W

theorem Bx7.start (w : World) (u v e u' v' e' : Value) (t t' t2 : TypeId) : Bx7 w u v e u' v' e' (((w.alloc (.cells #[u, v, e] t)).alloc (.cells #[u', v', e'] t')).alloc (.cells #[.bool false, .slice none 0 0, .int .i64 0] t2)) := by
  refine ⟨?_, ?_, ?_, ?_, ?_, ?_, ?_, ?_, ?_, ?_, ?_, bel3 _ _ _ _⟩
  all_goals simp [go_sem]

theorem Bx7.later {w : World} {u v e u' v' e' : Value} {W W' : World} (h : Bx7 w u v e u' v' e' W) (hb : Below W.heap.size W W') : Bx7 w u v e u' v' e' W' := by
  have hl := h.le
  exact ⟨(hb.cell (by simp; omega)).trans h.q0, (hb.cell (by simp; omega)).trans h.q1, (hb.cell (by simp; omega)).trans h.q2, (hb.cell (by simp; omega)).trans h.p0, (hb.cell (by simp; omega)).trans h.p1, (hb.cell (by simp; omega)).trans h.p2,
    (hb.cell (by simp; omega)).trans h.r1, (hb.cell (by simp; omega)).trans h.r2, (hb.cell (by simp; omega)).trans h.r3, fun j => (hb.frozen (by simp; omega)).trans (h.r4 j), Nat.le_trans h.le hb.size, h.bel.trans (hb.mono (by omega))⟩

theorem Bx7.held {w : World} {u v e u' v' e' : Value} {W W' : World} (h : Bx7 w u v e u' v' e' W) (hb : Below (w.heap.size + 1 + 1) W W') : W'.cell? ⟨w.heap.size, 0, none⟩ = some u ∧ W'.cell? ⟨w.heap.size, 1, none⟩ = some v ∧ W'.cell? ⟨w.heap.size, 2, none⟩ = some e ∧ W'.cell? ⟨w.heap.size + 1, 0, none⟩ = some u' ∧ W'.cell? ⟨w.heap.size + 1, 1, none⟩ = some v' ∧ W'.cell? ⟨w.heap.size + 1, 2, none⟩ = some e' ∧ Below (w.heap.size + 1 + 1) W W' :=
  ⟨(hb.cell (by simp; omega)).trans h.q0, (hb.cell (by simp; omega)).trans h.q1, (hb.cell (by simp; omega)).trans h.q2, (hb.cell (by simp)).trans h.p0, (hb.cell (by simp)).trans h.p1, (hb.cell (by simp)).trans h.p2, hb⟩

theorem wrap64_id {n : Int} (h0 : -9223372036854775808 ≤ n) (h1 : n ≤ 9223372036854775807) : IntKind.i64.wrap n = n := by
  simp [IntKind.wrap, IntKind.bits, IntKind.signed]
  omega

/-- m1 * 2^e1 + m2 * 2^e2 at the lower of the two exponents. -/
def sumAt (m1 e1 m2 e2 : Int) : Int := m1 * 2 ^ (e1 - min e1 e2).toNat + m2 * 2 ^ (e2 - min e1 e2).toNat

end Go.Proofs.Ytcjdnomhnlbmbaa
