/-
  FnExactDecodePicture: the given statement, from what the model's and the program's DecodePicture answer.
-/
import Derived.Test.YtcjdnomhnlbmbaaOpenY
import Derived.Test.YtcjdnomhnlbmbaaLawDp
import Derived.Test.YtcjdnomhnlbmbaaBox1
import Derived.Test.YtcjdnomhnlbmbaaWithin
import Derived.Deep.QuietTactic
import Derived.BigQuiet
import Derived.Test.YtcjdnomhnlbmbaaSpD0ScJBytes2
namespace Go.Proofs.Ytcjdnomhnlbmbaa
open Go.ChangeShapes Go.WideShapes Go.ChangeAt Go.RowKit

set_option maxRecDepth 100000 in
theorem fnExactDecodePicture_lifted (hS : DecPSays 8) (hI : DecPSays 10) (os : Os) (started : os.Started) (H : Type) (enc : TypeId × Value → H) :
    ReturnsInHanded {} Try.checked os 3 .any (Rows.fnExactDecodePictureSpec.pre6 enc Try.prog Try.f3 Rows.fnExactDecodePictureRow.domain false) (Rows.fnExactDecodePictureSpec.post enc Try.prog Try.f3 false true false false) := by
  refine returnsInHanded_of_change (C := Try.checked) own started (by kernel_rfl) Try.func3
    (ChangeSpec.witness6 (enc := enc) (C := Try.checked) false ⟨#[], #[.slice none 0 0], []⟩ 8 (by kernel_rfl) (by kernel_rfl) (by kernel_rfl) (by kernel_rfl)) ?_
  intro W base args ds gs before hval0 hW _ _
  have hval : ∀ (j : Nat) t v, Try.f3.params[j]? = some t → args[j]? = some v → Value.okWide Try.prog W .any base t v := hval0
  have hW' := hW
  obtain ⟨p, q, hA0, hV, rfl, hfz, hnd⟩ := hW
  have hA : DataW.TrodAll enc Try.prog W 0 (fun _ => true) true Try.f3.params.toList args.toList ds p := hA0
  rw [Try.params3] at hA hval
  obtain ⟨v0, vs0, d0, ds0, p0, q0, hargs, rfl, rfl, h0, r0⟩ := trodAll_cons hA
  obtain ⟨rfl, rfl, rfl⟩ := trodAll_nil r0
  obtain rfl : args = #[v0] := by cases args; simp_all
  obtain ⟨rfl, rfl⟩ := trodVars_none hV
  have lt0 : ∀ x ∈ p0, x.block < W.heap.size := by obtain ⟨m, hm⟩ := h0; exact DataW.trod_lt m _ _ _ hm
  obtain ⟨a, c, zs, hv, hc1, hc2, _, hd, hz⟩ := open_bytesY (hval 0 22 v0 rfl rfl) h0
  clear hA0 hval0
  subst hv
  refine (lawDecodePicture_any hS hI a c zs W (Nat.le_trans hc1 hc2) hd hz).mono fun e W' ⟨he, bel⟩ => ?_
  subst he
  exact ⟨_, rfl, _, _, _, [], _, [], hW', trodAll_mk1 (shut_bool Try.underlying4 _), (trodAll_cons_mk (Below.trod laidOut (by kernel_rfl) (of_decide_eq_true (by kernel_rfl)) h0 bel lt0) trodAll_mk0), rfl, bel.frame _, fun h => by cases h⟩

theorem fnExactDecodePicture_from (hS : DecPSays 8) (hI : DecPSays 10) : Rows.FnExactDecodePictureSaid :=
  OpenClaim.holds_of_wide 3 Try.f3 rfl rfl rfl rfl rfl rfl rfl ⟨rfl, rfl, rfl, rfl, rfl⟩ rfl rfl rfl rfl rfl (by kernel_rfl) Try.func3 (by kernel_rfl)
    (of_decide_eq_true (by kernel_rfl)) (by unfold Func.isWrapper; first | (rw [if_pos (by decide +kernel)]; kernel_rfl) | (rw [if_neg (by decide +kernel)]; exact ⟨rfl, rfl⟩))
    (fun os started H enc _ => fnExactDecodePicture_lifted hS hI os started H enc)

#print axioms fnExactDecodePicture_from
end Go.Proofs.Ytcjdnomhnlbmbaa

/-
  The reader of a code's bytes: what it holds, and what it leaves alone.
-/
namespace Go.Proofs.Ytcjdnomhnlbmbaa
open Go.RowKit

/-- Of the memory of w nothing but block P has turned. -/
structure Aside (P : Nat) (w w' : World) : Prop where
  os : w'.os = w.os
  tape : w'.tape = w.tape
  output : w'.output = w.output
  size : w.heap.size ≤ w'.heap.size
  block : ∀ k, k < w.heap.size → k ≠ P → w'.heap[k]? = w.heap[k]?

theorem Aside.refl (P : Nat) (w : World) : Aside P w w := ⟨rfl, rfl, rfl, Nat.le_refl _, fun _ _ _ => rfl⟩

theorem Aside.trans {P : Nat} {a b c : World} (h : Aside P a b) (k : Aside P b c) : Aside P a c :=
  ⟨k.os.trans h.os, k.tape.trans h.tape, k.output.trans h.output, Nat.le_trans h.size k.size, fun i hi hp => (k.block i (Nat.lt_of_lt_of_le hi h.size) hp).trans (h.block i hi hp)⟩

theorem Aside.of {P : Nat} {w w' : World} (h : Below w.heap.size w w') : Aside P w w' := ⟨h.os, h.tape, h.output, h.size, fun k hk _ => h.block k hk⟩

theorem Aside.set {P : Nat} {w w' : World} (h : Aside P w w') (j : Nat) (v : Value) : Aside P w (w'.setCell ⟨P, j, none⟩ v) := by
  have hb : Within P (P + 1) w' (w'.setCell ⟨P, j, none⟩ v) := (Within.refl P (P + 1) w').setCell (p := ⟨P, j, none⟩) (Nat.le_refl _) (Nat.lt_succ_self _) v
  exact ⟨hb.os.trans h.os, hb.tape.trans h.tape, hb.output.trans h.output, by rw [hb.size]; exact h.size, fun k hk hp => (hb.block k (by omega)).trans (h.block k hk hp)⟩

/-- A store above all of w. -/
theorem Aside.setHigh {P : Nat} {w w' : World} (h : Aside P w w') {p : Addr} (hp : w.heap.size ≤ p.block) (v : Value) : Aside P w (w'.setCell p v) := by
  have hb : Within p.block (p.block + 1) w' (w'.setCell p v) := (Within.refl _ _ _).setCell (Nat.le_refl _) (Nat.lt_succ_self _) v
  exact ⟨hb.os.trans h.os, hb.tape.trans h.tape, hb.output.trans h.output, by rw [hb.size]; exact h.size, fun k hk hp' => (hb.block k (by omega)).trans (h.block k hk hp')⟩

/-- What turns only above all of w. -/
theorem Aside.high {P B : Nat} {w w' w'' : World} (h : Aside P w w') (hb : Below B w' w'') (hB : w.heap.size ≤ B) : Aside P w w'' :=
  ⟨hb.os.trans h.os, hb.tape.trans h.tape, hb.output.trans h.output, Nat.le_trans h.size hb.size, fun k hk hp => (hb.block k (by omega)).trans (h.block k hk hp)⟩

theorem Aside.below {P B : Nat} {w w' : World} (h : Aside P w w') (hB : B ≤ P) (hS : B ≤ w.heap.size) : Below B w w' :=
  ⟨h.os, h.tape, h.output, h.size, fun k hk => h.block k (by omega) (by omega)⟩

theorem Aside.cell {P : Nat} {w w' : World} (h : Aside P w w') {p : Addr} (hp : p.block < w.heap.size) (hq : p.block ≠ P) : w'.cell? p = w.cell? p := World.cell?_of_block (w := w) (h.block p.block hp hq)
theorem Aside.frozen {P : Nat} {w w' : World} (h : Aside P w w') {p : Addr} (hp : p.block < w.heap.size) (hq : p.block ≠ P) : w'.frozen? p = w.frozen? p := World.frozen?_of_block (w := w) (h.block p.block hp hq)

theorem Aside.row {P : Nat} {k : IntKind} {w w' : World} {a : Option Addr} {zs : List Int} (h : Aside P w w') (hr : RowAt k w a zs) (hp : ∀ b off, a = some ⟨b, off, none⟩ → zs ≠ [] → b ≠ P) : RowAt k w' a zs := by
  by_cases e : zs = []
  · exact .inl e
  · rcases hr with hr | ⟨b, off, h1, h2, h3⟩
    · exact .inl hr
    · exact .inr ⟨b, off, h1, Nat.lt_of_lt_of_le h2 h.size, fun j hj => (h.cell (p := ⟨b, off + j, none⟩) h2 (hp b off h1 e)).trans (h3 j hj)⟩

theorem Aside.own {P : Nat} {w w' : World} {base : Nat} {e : TypeId} {v : Value} {n : Nat} {xs : List Value} (h : Aside P w w') (ho : w.ownsRow base e 1 v n xs) (hp : P < base) : w'.ownsRow base e 1 v n xs := by
  refine ⟨ho.1, ?_⟩
  rcases ho.2 with h1 | ⟨g, cap, cur, h1, h2, h3, h4⟩
  · exact .inl h1
  · refine .inr ⟨g, cap, cur, h1, h2, ?_, h4⟩
    have hg : g < w.heap.size := by
      by_cases hp : g < w.heap.size
      · exact hp
      · rw [Array.getElem?_eq_none (by omega)] at h3; cases h3
    rw [h.block g hg (by omega)]
    exact h3

/-- The reader in block P: its bytes, which lie elsewhere, and its place. -/
structure Rd (P : Nat) (W : World) : Prop where
  ex : ∃ (a : Option Addr) (c : Nat) (bs : List Int) (i : Nat), W.cell? ⟨P, 0, none⟩ = some (.slice a bs.length c) ∧ W.cell? ⟨P, 1, none⟩ = some (.int .i64 i) ∧ i ≤ bs.length ∧ bs.length ≤ 500 ∧ RowAt .u8 W a bs ∧ (∀ b off, a = some ⟨b, off, none⟩ → bs ≠ [] → b < P) ∧ Dig 256 bs
  free : ∀ j, W.frozen? ⟨P, j, none⟩ = false
  lt : P < W.heap.size

theorem Rd.later {P : Nat} {W W' : World} (h : Rd P W) (hb : Below W.heap.size W W') : Rd P W' := by
  obtain ⟨⟨a, c, bs, i, h1, h2, h3, h4, h5, h6, h7⟩, hf, hl⟩ := h
  exact ⟨⟨a, c, bs, i, (hb.cell (p := ⟨P, 0, none⟩) hl).trans h1, (hb.cell (p := ⟨P, 1, none⟩) hl).trans h2, h3, h4, h5.later hb, h6, h7⟩, fun j => (hb.frozen (p := ⟨P, j, none⟩) hl).trans (hf j), Nat.lt_of_lt_of_le hl hb.size⟩

/-- What turns only above the reader. -/
theorem Rd.above {P B : Nat} {W W' : World} (h : Rd P W) (hb : Below B W W') (hB : P < B) : Rd P W' := by
  obtain ⟨⟨a, c, bs, i, h1, h2, h3, h4, h5, h6, h7⟩, hf, hl⟩ := h
  refine ⟨⟨a, c, bs, i, (hb.cell (p := ⟨P, 0, none⟩) hB).trans h1, (hb.cell (p := ⟨P, 1, none⟩) hB).trans h2, h3, h4, ?_, h6, h7⟩, fun j => (hb.frozen (p := ⟨P, j, none⟩) hB).trans (hf j), Nat.lt_of_lt_of_le hl hb.size⟩
  by_cases e : bs = []
  · exact .inl e
  · rcases h5 with h5 | ⟨b, off, g1, g2, g3⟩
    · exact .inl h5
    · have := h6 b off g1 e
      exact .inr ⟨b, off, g1, Nat.lt_of_lt_of_le g2 hb.size, fun j hj => (hb.cell (p := ⟨b, off + j, none⟩) (by simp; omega)).trans (g3 j hj)⟩

/-- What next hands back. -/
def NextOut (P : Nat) (w : World) (e : Ending) (w' : World) : Prop := ∃ v : Int, e = .returned (.int .i64 v) ∧ 0 ≤ v ∧ v ≤ 255 ∧ Rd P w' ∧ Aside P w w'

/-- What l1open hands back: a reader in a new block. -/
def OpenOut (w : World) (e : Ending) (w' : World) : Prop := e = .returned (.pointer (some ⟨w.heap.size, 0, none⟩)) ∧ Rd w.heap.size w' ∧ Below w.heap.size w w' ∧ w'.heap.size = w.heap.size + 1

theorem open_rd (w : World) (a : Option Addr) (n c : Nat) (bs : List Int) (t : TypeId) (hn : n = bs.length) (h5 : bs.length ≤ 500) (hb : Dig 256 bs) (hr : RowAt .u8 w a bs) : OpenOut w (.returned (.pointer (some ⟨w.heap.size, 0, none⟩))) (w.alloc (.cells #[.slice a n c, .int .i64 0] t)) := by
  subst hn
  refine ⟨rfl, ⟨⟨a, c, bs, 0, by simp [go_sem], by simp [go_sem], by omega, h5, hr.later (bel0 _ _), ?_, hb⟩, fun j => by simp [go_sem], by simp⟩, bel0 _ _, by simp⟩
  intro b off e hne
  rcases hr with hr | ⟨b', off', g1, g2, _⟩
  · exact absurd hr hne
  · rw [e] at g1
    have := congrArg Addr.block (Option.some.inj g1)
    simp at this
    omega

end Go.Proofs.Ytcjdnomhnlbmbaa

/-
  The first fault of a list of bytes, and the model's l6fault.
-/
namespace Go.Proofs.Ytcjdnomhnlbmbaa
open Go.RowKit

/-- The first that is there of f 0, f 1, .. -/
def firstF {α : Type} (f : Nat → Option α) : Nat → Option α
  | 0 => none
  | n + 1 => match firstF f n with
    | some x => some x
    | none => f n
theorem firstF_succ {α : Type} {f : Nat → Option α} {i : Nat} (h : firstF f i = none) (hx : f i = none) : firstF f (i + 1) = none := by
  simp only [firstF, h, hx]
theorem firstF_at {α : Type} {f : Nat → Option α} {i : Nat} {x : α} (h : firstF f i = none) (hx : f i = some x) : firstF f (i + 1) = some x := by
  simp only [firstF, h, hx]
theorem firstF_stay {α : Type} {f : Nat → Option α} {i : Nat} {x : α} (h : firstF f i = some x) : ∀ d, firstF f (i + d) = some x
  | 0 => h
  | d + 1 => by
    have := firstF_stay h d
    rw [← Nat.add_assoc]
    simp only [firstF, this]
theorem firstF_hit {α : Type} {f : Nat → Option α} {i n : Nat} {x : α} (hi : i < n) (h : firstF f i = none) (hx : f i = some x) : firstF f n = some x := by
  have := firstF_stay (firstF_at h hx) (n - (i + 1))
  rwa [show i + 1 + (n - (i + 1)) = n by omega] at this

def magicAt (bs : List Int) (i : Nat) : Option (Int × Int) :=
  if bs.length ≤ i then some (5, bs.length) else if bs.getD i 0 = ([83, 67, 69, 78] : List Int).getD i 0 then none else some (4, i)
def cntPl (k : Nat) : Nat := 4 + 2 * k
def cntSz (k : Nat) : Nat := if k = 2 then 1 else 2
def cntMo (k : Nat) : Int := if k = 2 then 4 else 40
def cntB (bs : List Int) (k : Nat) : Int := numB bs (cntPl k) (cntSz k)
def cntAt (bs : List Int) (k : Nat) : Option (Int × Int) :=
  if cntB bs k < 0 then some (5, bs.length) else if cntMo k < cntB bs k then some (2, cntPl k) else none
def dirAt (bs : List Int) (c0 c1 : Nat) (i : Nat) : Bool := decide (9 * c0 ≤ i) && decide (i < 9 * c0 + 6 * c1) && decide ((i - 9 * c0) % 6 = 5) && noWayB (fltB bs (1 + 4 * i)) (fltB bs (1 + 4 * i + 4)) (fltB bs (1 + 4 * i + 8))
def fltAt (bs : List Int) (c0 c1 : Nat) (i : Nat) : Option (Int × Int) :=
  if numB bs (9 + 4 * i) 4 < 0 then some (5, bs.length)
  else if fFin (numB bs (9 + 4 * i) 4) = false then some (6, ((9 + 4 * i : Nat) : Int))
  else if dirAt bs c0 c1 i = true then some (7, ((1 + 4 * i : Nat) : Int)) else none
def fltN (c0 c1 c2 : Nat) : Nat := 9 * c0 + 6 * c1 + 3 * c2
def tailF (bs : List Int) (c0 c1 c2 : Nat) : Int × Int :=
  match firstF (fltAt bs c0 c1) (fltN c0 c1 c2) with
  | some x => x
  | none => if 9 + 4 * fltN c0 c1 c2 < bs.length then (8, ((9 + 4 * fltN c0 c1 c2 : Nat) : Int)) else (0, 0)
def countsF (bs : List Int) : Int × Int :=
  match firstF (cntAt bs) 3 with
  | some x => x
  | none => tailF bs (cntB bs 0).toNat (cntB bs 1).toNat (cntB bs 2).toNat
/-- The first fault of a scene's bytes: a code and an offset. -/
def faultF (bs : List Int) : Int × Int :=
  match firstF (magicAt bs) 4 with
  | some x => x
  | none => countsF bs

theorem faultF_magic {bs : List Int} {x : Int × Int} (h : firstF (magicAt bs) 4 = some x) : faultF bs = x := by unfold faultF; rw [h]
theorem faultF_counts {bs : List Int} {x : Int × Int} (h : firstF (magicAt bs) 4 = none) (h1 : firstF (cntAt bs) 3 = some x) : faultF bs = x := by unfold faultF; rw [h]; show countsF bs = x; unfold countsF; rw [h1]
theorem faultF_tail {bs : List Int} (h : firstF (magicAt bs) 4 = none) (h1 : firstF (cntAt bs) 3 = none) : faultF bs = tailF bs (cntB bs 0).toNat (cntB bs 1).toNat (cntB bs 2).toNat := by unfold faultF; rw [h]; show countsF bs = _; unfold countsF; rw [h1]
theorem tailF_hit {bs : List Int} {c0 c1 c2 : Nat} {x : Int × Int} (h : firstF (fltAt bs c0 c1) (fltN c0 c1 c2) = some x) : tailF bs c0 c1 c2 = x := by unfold tailF; rw [h]
theorem tailF_none {bs : List Int} {c0 c1 c2 : Nat} (h : firstF (fltAt bs c0 c1) (fltN c0 c1 c2) = none) : tailF bs c0 c1 c2 = if 9 + 4 * fltN c0 c1 c2 < bs.length then (8, ((9 + 4 * fltN c0 c1 c2 : Nat) : Int)) else (0, 0) := by unfold tailF; rw [h]

theorem firstF_none {α : Type} {f : Nat → Option α} {n : Nat} (h : firstF f n = none) : ∀ i, i < n → f i = none := by
  intro i hi
  cases hf : f i with
  | none => rfl
  | some x =>
    have hn : firstF f i = none := by
      cases hg : firstF f i with
      | none => rfl
      | some y =>
        have := firstF_stay hg (n - i)
        rw [show i + (n - i) = n by omega, h] at this
        cases this
    have := firstF_hit hi hn hf
    rw [h] at this
    cases this

/-- What a count is where none is wrong. -/
theorem cnt_ok {bs : List Int} (h : firstF (cntAt bs) 3 = none) (k : Nat) (hk : k < 3) : 0 ≤ cntB bs k ∧ cntB bs k ≤ cntMo k := by
  have := firstF_none h k hk
  unfold cntAt at this
  by_cases h1 : cntB bs k < 0
  · rw [if_pos h1] at this; cases this
  · rw [if_neg h1] at this
    by_cases h2 : cntMo k < cntB bs k
    · rw [if_pos h2] at this; cases this
    · omega

/-- What l6fault answers. -/
def FaultOut (w : World) (x : Int × Int) (e : Ending) (w' : World) : Prop := e = .returned (.tuple #[.int .i64 x.1, .int .i64 x.2]) ∧ Below w.heap.size w w'

end Go.Proofs.Ytcjdnomhnlbmbaa

/-
  The program's reader of bytes: what it holds; take.
-/
namespace Go.Proofs.Ytcjdnomhnlbmbaa
open Go.RowKit

/-- The reader in block R: its bytes, which lie elsewhere, and its place. -/
structure RdB (w : World) (R b off c : Nat) (bs : List Int) (i : Nat) : Prop where
  c0 : w.cell? ⟨R, 0, none⟩ = some (.slice (some ⟨b, off, none⟩) bs.length c)
  c1 : w.cell? ⟨R, 1, none⟩ = some (.int .i64 i)
  fr : w.frozen? ⟨R, 1, none⟩ = false
  lt : R < w.heap.size
  row : RowAt .u8 w (some ⟨b, off, none⟩) bs
  ap : b ≠ R
  le : i ≤ bs.length
  cap : bs.length ≤ c
  sm : bs.length ≤ 1048576

theorem RdB.later {w w' : World} {R b off c i : Nat} {bs : List Int} (h : RdB w R b off c bs i) (hb : Below w.heap.size w w') : RdB w' R b off c bs i :=
  ⟨(hb.cell (p := ⟨R, 0, none⟩) h.lt).trans h.c0, (hb.cell (p := ⟨R, 1, none⟩) h.lt).trans h.c1, (hb.frozen (p := ⟨R, 1, none⟩) h.lt).trans h.fr, Nat.lt_of_lt_of_le h.lt hb.size, h.row.later hb, h.ap, h.le, h.cap, h.sm⟩
theorem RdB.move {w : World} {R b off c i : Nat} {bs : List Int} (h : RdB w R b off c bs i) {j : Nat} {z : Int} (hz : z = j) (hj : j ≤ bs.length) : RdB (w.setCell ⟨R, 1, none⟩ (.int .i64 z)) R b off c bs j := by
  subst hz
  refine ⟨by rw [World.cell?_setCell_other _ _ _ _ (by simp)]; exact h.c0, by rw [World.cell?_setCell_same _ _ _ h.c1], by rw [World.frozen?_setCell]; exact h.fr, by rw [World.size_setCell]; exact h.lt, ?_, h.ap, hj, h.cap, h.sm⟩
  exact ((Aside.refl R w).set 1 _).row h.row (fun b' off' e _ => by cases e; exact h.ap)

/-- A fault that is thrown. -/
def thrown (x : Int × Int) : Ending := .panicked [{ v := .iface 65 (.agg #[.int .i64 x.1, .int .i64 x.2]), recovered := false }]

/-- The bytes at a place: size of them. -/
def partB (bs : List Int) (i size : Nat) : List Int := (bs.drop i).take size
theorem partB_length {bs : List Int} {i size : Nat} (h : i + size ≤ bs.length) : (partB bs i size).length = size := by
  unfold partB
  rw [List.length_take, List.length_drop]
  omega
theorem partB_get {bs : List Int} {i size j : Nat} (hj : j < size) : (partB bs i size).getD j 0 = bs.getD (i + j) 0 := by
  unfold partB
  rw [List.getD_eq_getElem?_getD, List.getD_eq_getElem?_getD, List.getElem?_take_of_lt hj, List.getElem?_drop]
theorem part_row {w : World} {b off i size : Nat} {bs : List Int} (h : RowAt .u8 w (some ⟨b, off, none⟩) bs) (hs : i + size ≤ bs.length) : RowAt .u8 w (some ⟨b, off + i, none⟩) (partB bs i size) := by
  by_cases h0 : size = 0
  · left
    apply List.length_eq_zero_iff.1
    rw [partB_length hs, h0]
  · obtain ⟨b', off', e1, e2, e3⟩ := h.resolve_left (by intro e; rw [e] at hs; simp at hs; omega)
    cases e1
    refine .inr ⟨b, off + i, rfl, e2, fun j hj => ?_⟩
    rw [partB_length hs] at hj
    rw [partB_get hj, Nat.add_assoc]
    exact e3 (i + j) (by omega)

def TakeOut (w : World) (R b off c : Nat) (bs : List Int) (i size : Nat) (e : Ending) (w' : World) : Prop :=
  ∃ p k, e = .returned (.slice p size k) ∧ RowAt .u8 w' p (partB bs i size) ∧ (∀ b' o', p = some ⟨b', o', none⟩ → b' = b) ∧ RdB w' R b off c bs (i + size) ∧ Aside R w w'

set_option maxHeartbeats 400000 in
theorem take_ok (R b off c : Nat) (bs : List Int) (i size : Nat) (w : World) (hs : i + size ≤ bs.length) (h : RdB w R b off c bs i) :
    Calls Try.prog 106 #[.pointer (some ⟨R, 0, none⟩), .int .i64 size] w fun e w' => TakeOut w R b off c bs i size e w' := by
  have HH : Hid (∀ n m, RdB (((w.drewN n).setCell ⟨R, 1, none⟩ (.int .i64 ((i : Int) + size))).drewN m) R b off c bs (i + size) ∧ Aside R w (((w.drewN n).setCell ⟨R, 1, none⟩ (.int .i64 ((i : Int) + size))).drewN m)) := by
    intro n m
    refine ⟨((h.later (below_drewN (Below.refl _ _) n)).move (j := i + size) (by simp) hs).later (below_drewN (Below.refl _ _) m), ?_⟩
    exact ((Aside.of (P := R) (below_drewN (Below.refl _ _) n)).set 1 _).high (below_drewN (Below.refl w.heap.size _) m) (Nat.le_refl _)
  have c0 := h.c0
  have c1 := h.c1
  have fr := h.fr
  have hcap := h.cap
  have hsm := h.sm
  clear h
  have hge : ¬ ((bs.length : Int) - i < size) := by omega
  by_cases hic : c = i
  · subst hic
    have hz : size = 0 := by omega
    subst hz
    go_enter Try.func106, Try.ntmps106
    go_wp2
    go_quiet (fail)
    go_wp2
    go_quiet (fail)
    go_wp2
    go_ret
    exact ⟨_, _, rfl, .inl (by simp [partB]), fun b' o' e => by cases e; rfl, (HH.out _ _).1, (HH.out _ _).2⟩
  · have hic' : i < c := by omega
    clear hic
    go_enter Try.func106, Try.ntmps106
    go_wp2
    go_quiet (fail)
    go_wp2
    go_quiet (fail)
    go_wp2
    go_ret
    exact ⟨some ⟨b, off + i, none⟩, c - i, (show Ending.returned (.slice (some ⟨b, off + i, none⟩) (i + size - i) (c - i)) = _ by rw [Nat.add_sub_cancel_left]), part_row (HH.out _ _).1.row hs, fun b' o' e => by cases e; rfl, (HH.out _ _).1, (HH.out _ _).2⟩

set_option maxHeartbeats 400000 in
theorem take_short (R b off c : Nat) (bs : List Int) (i size : Nat) (w : World) (hs : bs.length < i + size) (h : RdB w R b off c bs i) :
    Calls Try.prog 106 #[.pointer (some ⟨R, 0, none⟩), .int .i64 size] w fun e w' => e = thrown (5, bs.length) ∧ Aside R w w' := by
  have c0 := h.c0
  have c1 := h.c1
  have hsm := h.sm
  have hle := h.le
  clear h
  have hge : ((bs.length : Int) - i < size) := by omega
  go_enter Try.func106, Try.ntmps106
  go_wp2
  go_quiet (fail)
  go_wp2
  exact ⟨rfl, rfl, Aside.of (below_drewN (Below.refl _ _) _)⟩

end Go.Proofs.Ytcjdnomhnlbmbaa
