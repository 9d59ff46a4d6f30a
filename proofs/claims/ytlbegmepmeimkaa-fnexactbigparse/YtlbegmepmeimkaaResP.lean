/-
  What BigParse must answer.
-/
import Derived.Test.YtlbegmepmeimkaaLawB
import Derived.Test.YtlbegmepmeimkaaNumP
namespace Go.Proofs.Ytlbegmepmeimkaa
open Go.RowKit

def negB (ts : List Int) : Bool := decide (0 < ts.length) && (ts.getD 0 0 == 45)
def digs (ts : List Int) : List Int := if negB ts = true then ts.drop 1 else ts
def synB (ts : List Int) : Bool := plainB (digs ts) && !(negB ts && ((digs ts).getD 0 0 == 48))

/-- The answers G, Z (a Big) and K (a code) for the text ts. -/
def ResP (ts : List Int) (G : Bool) (Z : List Int) (K : Int) : Prop :=
  (synB ts = false ∧ G = false ∧ Z = [] ∧ K = 3) ∨ (synB ts = true ∧ 5000 < (digs ts).length ∧ G = false ∧ Z = [] ∧ K = 2) ∨ (synB ts = true ∧ (digs ts).length ≤ 5000 ∧ Res true (sg (negB ts) (dval (digs ts))) G Z K)

theorem ResP.inj {ts : List Int} {G G' : Bool} {Z Z' : List Int} {K K' : Int} (h : ResP ts G Z K) (h' : ResP ts G' Z' K') : G = G' ∧ Z = Z' ∧ K = K' := by
  rcases h with ⟨h0, h1, h2, h3⟩ | ⟨h0, hl, h1, h2, h3⟩ | ⟨h0, hl, hr⟩ <;> rcases h' with ⟨k0, k1, k2, k3⟩ | ⟨k0, kl, k1, k2, k3⟩ | ⟨k0, kl, kr⟩
  · exact ⟨by rw [h1, k1], by rw [h2, k2], by rw [h3, k3]⟩
  · rw [h0] at k0; cases k0
  · rw [h0] at k0; cases k0
  · rw [h0] at k0; cases k0
  · exact ⟨by rw [h1, k1], by rw [h2, k2], by rw [h3, k3]⟩
  · omega
  · rw [h0] at k0; cases k0
  · omega
  · exact hr.inj kr

theorem ResP.len {ts : List Int} {G : Bool} {Z : List Int} {K : Int} (h : ResP ts G Z K) : Z.length ≤ 512 := by
  rcases h with ⟨_, _, h2, _⟩ | ⟨_, _, _, h2, _⟩ | ⟨_, _, hr⟩
  · rw [h2]; simp
  · rw [h2]; simp
  · exact hr.len

/-- What the program answers: in new memory. What the model answers: in new memory too, as far as it lies anywhere. -/
def OutP (w : World) (ts : List Int) (e : Ending) (w' : World) : Prop :=
  ∃ (G : Bool) (Z : List Int) (K : Int) (a : Option Addr) (c : Nat), e = .returned (.tuple #[.agg #[.bool G, .slice a Z.length c], .int .i64 K]) ∧ ResP ts G Z K ∧ RowNew .u32 w' w.heap.size a Z ∧ Below w.heap.size w w'
def OutQ (w : World) (ts : List Int) (e : Ending) (w' : World) : Prop :=
  ∃ (G : Bool) (Z : List Int) (K : Int) (a : Option Addr) (c : Nat), e = .returned (.tuple #[.agg #[.bool G, .slice a Z.length c], .int .i64 K]) ∧ ResP ts G Z K ∧ RowAt .u32 w' a Z ∧ Far w.heap.size a Z ∧ Below w.heap.size w w'

/-- A text behind its sign. -/
theorem row_drop1 {k : IntKind} {w : World} {b off : Nat} {ts : List Int} (h : RowAt k w (some ⟨b, off, none⟩) ts) : RowAt k w (some ⟨b, off + 1, none⟩) (ts.drop 1) := by
  rcases h with h | ⟨b', off', h1, h2, h3⟩
  · exact .inl (by rw [h]; rfl)
  · injection h1 with h1
    have e1 : b = b' := congrArg Addr.block h1
    have e2 : off = off' := congrArg Addr.off h1
    subst e1 e2
    refine .inr ⟨b, off + 1, rfl, h2, fun j hj => ?_⟩
    have hj' : j < ts.length - 1 := by simpa using hj
    have := h3 (1 + j) (by omega)
    rw [Nat.add_assoc, this, List.getD_eq_getElem?_getD, List.getD_eq_getElem?_getD, List.getElem?_drop]

end Go.Proofs.Ytlbegmepmeimkaa
