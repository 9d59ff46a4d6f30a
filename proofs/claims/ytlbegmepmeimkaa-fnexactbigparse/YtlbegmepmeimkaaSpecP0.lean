/-
  The model's BigParse.
-/
import Derived.Test.YtlbegmepmeimkaaResP
import Derived.Test.YtlbegmepmeimkaaSpecS
import Derived.Test.YtlbegmepmeimkaaSpecM
import Derived.Deep.CutRange
namespace Go.Proofs.Ytlbegmepmeimkaa
open Go.RowKit

theorem wrap_dec {t : Int} (h0 : 48 ≤ t) (h1 : t ≤ 57) : IntKind.i64.wrap (IntKind.u8.wrap (t - 48)) = t - 48 := by
  have e : IntKind.u8.wrap (t - 48) = (t - 48) % 256 := by simp [IntKind.wrap, IntKind.bits, IntKind.signed]
  rw [e, IntKind.wrap_i64]
  omega

theorem plain_zero {us : List Int} (h : us.length = 0) : plainB us = false := by
  have : us = [] := List.length_eq_zero_iff.1 h
  subst this
  rfl

theorem syn_of {ts us : List Int} {n : Bool} (hd : Dec us) (hu : digs ts = us) (hn : negB ts = n) : synB ts = ((decide (us.length = 1) || (decide (1 < us.length) && (us.getD 0 0 != 48))) && !(n && (us.getD 0 0 == 48))) := by
  unfold synB plainB
  rw [hu, hn, all_dec hd]
  rfl

theorem L1.nonneg {w : World} {g : Bool} {a : Option Addr} {c : Nat} {ds : List Int} {x : Int} (h : L1 w g a c ds x) (hx : 0 ≤ x) : val 65536 ds = x := by
  have hn := h.num
  cases g with
  | false => simpa [sg] using hn.symm
  | true =>
    have := val_pos (B := 65536) (by decide) h.can (h.zero rfl)
    simp [sg] at hn
    omega

/-- While the model reads a text: the answer's box, the box of the number so far (BX), the box of ten (BT). -/
structure PS (w : World) (BX BT : Nat) (at1 : Option Addr) (ct : Nat) (tens : List Int) (x : Int) (gx : Bool) (ax : Option Addr) (cx : Nat) (fx : List Int) (W : World) : Prop where
  has : Has w.heap.size W
  x0 : W.cell? ⟨BX, 0, none⟩ = some (.bool gx)
  x1 : W.cell? ⟨BX, 1, none⟩ = some (.slice ax fx.length cx)
  x2 : ∀ j, W.frozen? ⟨BX, j, none⟩ = false
  t0 : W.cell? ⟨BT, 0, none⟩ = some (.bool false)
  t1 : W.cell? ⟨BT, 1, none⟩ = some (.slice at1 tens.length ct)
  lx : L1 W gx ax cx fx x
  lt : L1 W false at1 ct tens 10
  ft : Far (BX + 1) at1 tens
  o0 : w.heap.size < BX
  o1 : BX < BT
  o2 : BT < W.heap.size
  bel : Below w.heap.size w W
  tl : tens.length ≤ 1

theorem PS.later {w : World} {BX BT : Nat} {at1 : Option Addr} {ct : Nat} {tens : List Int} {x : Int} {gx : Bool} {ax : Option Addr} {cx : Nat} {fx : List Int} {W W' : World} (h : PS w BX BT at1 ct tens x gx ax cx fx W) (hb : Below W.heap.size W W') : PS w BX BT at1 ct tens x gx ax cx fx W' := by
  have o0 := h.o0; have o1 := h.o1; have o2 := h.o2
  exact ⟨h.has.later hb, (hb.cell (by simp; omega)).trans h.x0, (hb.cell (by simp; omega)).trans h.x1, fun j => (hb.frozen (by simp; omega)).trans (h.x2 j), (hb.cell (by simpa using o2)).trans h.t0, (hb.cell (by simpa using o2)).trans h.t1, h.lx.later hb, h.lt.later hb, h.ft, o0, o1, Nat.lt_of_lt_of_le o2 hb.size, h.bel.trans (hb.mono (by omega)), h.tl⟩

theorem PS.held {w : World} {BX BT : Nat} {at1 : Option Addr} {ct : Nat} {tens : List Int} {x : Int} {gx : Bool} {ax : Option Addr} {cx : Nat} {fx : List Int} {W W' : World} (h : PS w BX BT at1 ct tens x gx ax cx fx W) {b o : Nat} {v : Value} (hb : b < w.heap.size) (hc : w.cell? ⟨b, o, none⟩ = some v) (hB : Below W.heap.size W W') :
    W'.cell? ⟨BT, 0, none⟩ = some (.bool false) ∧ W'.cell? ⟨BT, 1, none⟩ = some (.slice at1 tens.length ct) ∧ W'.cell? ⟨b, o, none⟩ = some v :=
  ⟨(h.later hB).t0, (h.later hB).t1, ((h.later hB).bel.cell (p := ⟨b, o, none⟩) hb).trans hc⟩

theorem PS.heldS {w : World} {BX BT : Nat} {at1 : Option Addr} {ct : Nat} {tens : List Int} {x : Int} {gx : Bool} {ax : Option Addr} {cx : Nat} {fx : List Int} {W W' : World} (h : PS w BX BT at1 ct tens x gx ax cx fx W) {b o : Nat} {v : Value} (hb : b < w.heap.size) (hc : w.cell? ⟨b, o, none⟩ = some v) (hB : Below W.heap.size W W') (u u' : Value) :
    ((W'.setCell ⟨BX, 0, none⟩ u).setCell ⟨BX, 1, none⟩ u').cell? ⟨BT, 0, none⟩ = some (.bool false) ∧ ((W'.setCell ⟨BX, 0, none⟩ u).setCell ⟨BX, 1, none⟩ u').cell? ⟨BT, 1, none⟩ = some (.slice at1 tens.length ct) ∧ ((W'.setCell ⟨BX, 0, none⟩ u).setCell ⟨BX, 1, none⟩ u').cell? ⟨b, o, none⟩ = some v := by
  obtain ⟨a1, a2, a3⟩ := h.held hb hc hB
  have o0 := h.o0; have o1 := h.o1
  refine ⟨?_, ?_, ?_⟩
  · rw [World.cell?_setCell_far _ _ _ _ (by simp; omega), World.cell?_setCell_far _ _ _ _ (by simp; omega)]; exact a1
  · rw [World.cell?_setCell_far _ _ _ _ (by simp; omega), World.cell?_setCell_far _ _ _ _ (by simp; omega)]; exact a2
  · rw [World.cell?_setCell_far _ _ _ _ (by simp; omega), World.cell?_setCell_far _ _ _ _ (by simp; omega)]; exact a3

theorem PS.set {w : World} {BX BT : Nat} {at1 : Option Addr} {ct : Nat} {tens : List Int} {x x' : Int} {gx g' : Bool} {ax a' : Option Addr} {cx c' : Nat} {fx f' : List Int} {W : World} (h : PS w BX BT at1 ct tens x gx ax cx fx W) (hl : L1 W g' a' c' f' x') (hf : Far (BX + 1) a' f') :
    PS w BX BT at1 ct tens x' g' a' c' f' ((W.setCell ⟨BX, 0, none⟩ (.bool g')).setCell ⟨BX, 1, none⟩ (.slice a' f'.length c')) := by
  have o0 := h.o0; have o1 := h.o1; have o2 := h.o2
  refine ⟨⟨?_, ?_, ?_, ?_⟩, ?_, ?_, ?_, ?_, ?_, ?_, ?_, h.ft, o0, o1, by simpa using o2, ?_, h.tl⟩
  · rw [World.cell?_setCell_far _ _ _ _ (by simp; omega), World.cell?_setCell_far _ _ _ _ (by simp; omega)]; exact h.has.r1
  · rw [World.cell?_setCell_far _ _ _ _ (by simp; omega), World.cell?_setCell_far _ _ _ _ (by simp; omega)]; exact h.has.r2
  · intro j; rw [World.frozen?_setCell, World.frozen?_setCell]; exact h.has.r3 j
  · simpa using h.has.lt
  · rw [World.cell?_setCell_other _ _ _ _ (by simp)]
    exact World.cell?_setCell_same _ _ _ h.x0
  · refine World.cell?_setCell_same _ _ _ (u := .slice ax fx.length cx) ?_
    rw [World.cell?_setCell_other _ _ _ _ (by simp)]
    exact h.x1
  · intro j; rw [World.frozen?_setCell, World.frozen?_setCell]; exact h.x2 j
  · rw [World.cell?_setCell_far _ _ _ _ (by simp; omega), World.cell?_setCell_far _ _ _ _ (by simp; omega)]; exact h.t0
  · rw [World.cell?_setCell_far _ _ _ _ (by simp; omega), World.cell?_setCell_far _ _ _ _ (by simp; omega)]; exact h.t1
  · exact (hl.setFar hf (by simp) _).setFar hf (by simp) _
  · exact (h.lt.setFar h.ft (by simp) _).setFar h.ft (by simp) _
  · exact (h.bel.setCell (by simp; omega) _).setCell (by simp; omega) _

theorem PS.start {w W1 : World} {at1 : Option Addr} {ct : Nat} {tens : List Int} (t1 t2 t3 : TypeId) (hb : Below ((w.alloc (.cells #[.bool false, .slice none 0 0] t1)).alloc (.cells #[.bool false, .slice none 0 0] t2)).heap.size ((w.alloc (.cells #[.bool false, .slice none 0 0] t1)).alloc (.cells #[.bool false, .slice none 0 0] t2)) W1)
    (hT : L1 W1 false at1 ct tens 10) (hF : Far (w.heap.size + 1 + 1 + 1) at1 tens) (htl : tens.length ≤ 1) : PS w (w.heap.size + 1) W1.heap.size at1 ct tens 0 false none 0 [] (W1.alloc (.cells #[.bool false, .slice at1 tens.length ct] t3)) := by
  have hsz := hb.size
  simp at hsz
  have h0 : Has w.heap.size W1 := ((Has.new w t1).later (bel0 _ _)).later hb
  have h1 : Has (w.heap.size + 1) W1 := by
    have := (Has.new (w.alloc (.cells #[.bool false, .slice none 0 0] t1)) t2).later hb
    simpa using this
  exact ⟨h0.later (bel0 _ _), (h1.later (bel0 _ _)).r1, (h1.later (bel0 _ _)).r2, (h1.later (bel0 _ _)).r3, by simp [go_sem], by simp [go_sem], ⟨⟨by simp, fun _ => rfl, .inl rfl⟩, ⟨Dig.nil _, rfl⟩, by simp [sg, val], (fun hg => by cases hg), by simp⟩, hT.later (bel0 _ _), hF.down (by omega), by omega, by omega, by simp,
    ((bel2 _ _ _).trans (hb.mono (by simp; omega))).alloc (by omega) _, htl⟩

end Go.Proofs.Ytlbegmepmeimkaa
