/-
  The program's ValidScene.
-/
import Derived.Test.YtfhfepphccaadaaIdBFoFImV
import Derived.Test.YtfhfepphccaadaaSpVSpWLawVsScMPcA
import Derived.Test.YtfhfepphccaadaaSpESpFSpP
import Derived.Test.YtfhfepphccaadaaSpD0ScJBytes2
import Derived.Test.YtfhfepphccaadaaIeN
import Derived.Test.YtfhfepphccaadaaSpQ
namespace Go.Proofs.Ytfhfepphccaadaa
open Go.RowKit

end Go.Proofs.Ytfhfepphccaadaa

/-
  The law of EncodeScene, for any program whose EncodeScene answers the bytes in new memory.
-/
namespace Go.Proofs.Ytfhfepphccaadaa
open Go.RowKit

/-- A function that answers a list of bytes in new memory. -/
def RowOut (w : World) (ys : List Int) (e : Ending) (w' : World) : Prop := ∃ a c, e = .returned (.slice a ys.length c) ∧ RowNew .u8 w' w.heap.size a ys ∧ Below w.heap.size w w'

theorem NewY.out {w w' : World} {ys : List Int} {e : Ending} (h : NewY w ys e w') : RowOut w ys e w' := by
  obtain ⟨v, rfl, ho, hb⟩ := h
  obtain ⟨a, c, rfl, hr⟩ := ho.row
  exact ⟨a, c, rfl, hr, hb⟩

/-- The function answers a scene's bytes. -/
def EncSays (f : FuncId) : Prop := ∀ (a1 a2 a3 : Option Addr) (n1 n2 n3 c1 c2 c3 : Nat) (z1 z2 z3 : List Int) (w : World), n1 + n2 + n3 ≤ 1048576 → ScAt w a1 a2 a3 n1 n2 n3 z1 z2 z3 → U32 z1 → U32 z2 → U32 z3 →
  Calls Try.prog f #[.agg #[.slice a1 n1 c1, .slice a2 n2 c2, .slice a3 n3 c3]] w fun e w' => RowOut w (encV n1 n2 n3 z1 z2 z3) e w'

theorem encV_length (n1 n2 n3 : Nat) (z1 z2 z3 : List Int) (h1 : z1.length = n1 * 9) (h2 : z2.length = n2 * 6) (h3 : z3.length = n3 * 3) : (encV n1 n2 n3 z1 z2 z3).length ≤ 10000 := by
  cases hv : validSc n1 n2 n3 z1 z2 z3
  · rw [encV_bad hv]; simp
  · rw [encV_ok hv]
    unfold validSc at hv
    simp only [Bool.and_eq_true, decide_eq_true_eq] at hv
    have q1 := hv.1.1.1.1.1
    have q2 := hv.1.1.1.2
    have q3 := hv.1.1.2
    unfold encSc
    simp only [List.length_append, flatB_length, headB_length]
    omega

theorem RowIn.both {k : IntKind} {w u w' : World} {lo hi lo' hi' : Nat} {a : Option Addr} {zs : List Int} (h : RowIn k w lo hi a zs) (hb : Below w.heap.size w u) (hw : Within lo' hi' u w') (hd : hi ≤ lo' ∨ hi' ≤ lo) : RowIn k w' lo hi a zs := (h.later hb).apart hw hd

end Go.Proofs.Ytfhfepphccaadaa

/-
  The program's appendPoints and EncodeScene.
-/
namespace Go.Proofs.Ytfhfepphccaadaa
open Go.RowKit

theorem EncS.form {W0 wr : World} {base : Nat} {v : Value} {ys : List Int} (h : EncS W0 base v ys wr) (hn : 0 < ys.length) : ∃ g n c, v = .slice (some ⟨g, 0, none⟩) n c ∧ base ≤ g ∧ g < wr.heap.size := by
  obtain ⟨g, c, h1, h2, h3⟩ := World.ownsRow.form h.own hn
  exact ⟨g, _, c, h1, h2, h3⟩
theorem EncS.grew {W0 wr u w' : World} {base : Nat} {v : Value} {g g' n' c' : Nat} {ys ys' : List Int} (h : EncS W0 base v ys wr) (hb : Below wr.heap.size wr u) (hg : base ≤ g) (k : GrewY u base (some g) g' ys' n' c' w') : EncS W0 base (.slice (some ⟨g', 0, none⟩) n' c') ys' w' :=
  ⟨k.own, (h.bel.trans (hb.mono h.le)).trans (gb_below k.grown (Nat.le_trans h.le hb.size) (fun j hj => by cases hj; exact hg)), Nat.le_trans (Nat.le_trans h.le hb.size) k.grown.size⟩

theorem EncS.first {W0 u w' : World} {base : Nat} {v : Value} {g' n' c' : Nat} {ys' : List Int} (hb : Below base W0 u) (hl : base ≤ u.heap.size) (hv : ∀ k, v.ownBlock = some k → base ≤ k) (k : GrewY u base v.ownBlock g' ys' n' c' w') : EncS W0 base (.slice (some ⟨g', 0, none⟩) n' c') ys' w' :=
  ⟨k.own, hb.trans (gb_below k.grown hl hv), Nat.le_trans hl k.grown.size⟩

end Go.Proofs.Ytfhfepphccaadaa

/-
  The law of EncodePicture, for any program whose EncodePicture answers the bytes in new memory.
-/
namespace Go.Proofs.Ytfhfepphccaadaa
open Go.RowKit

/-- The function answers a picture's bytes. -/
def EncPSays (f : FuncId) : Prop := ∀ (a1 a3 : Option Addr) (n1 n3 c1 c3 : Nat) (L : Int) (g : Nat → Int) (h : Nat → Bool) (w : World), n1 + n3 ≤ 1048576 → PcAt w a1 a3 n1 n3 g h →
  Calls Try.prog f #[.agg #[.slice a1 n1 c1, .int .i64 L, .slice a3 n3 c3]] w fun e w' => RowOut w (encPV n1 n3 g L h) e w'

theorem encPV_length (n1 n3 : Nat) (g : Nat → Int) (L : Int) (h : Nat → Bool) : (encPV n1 n3 g L h).length ≤ 10000 := by
  cases hv : validPc n1 n3 g L
  · rw [encPV_bad hv]; simp
  · rw [encPV_ok hv]
    unfold validPc at hv
    simp only [Bool.and_eq_true, decide_eq_true_eq] at hv
    obtain ⟨⟨⟨⟨q1, q2⟩, q3⟩, q4⟩, q5⟩ := hv
    have e1 : (n1 : Int) * L ≤ 40 * L := Int.mul_le_mul_of_nonneg_right (by omega) q2
    unfold encPc
    simp only [List.length_append, headP_length, idsB_length, litB_length]
    omega

end Go.Proofs.Ytfhfepphccaadaa
