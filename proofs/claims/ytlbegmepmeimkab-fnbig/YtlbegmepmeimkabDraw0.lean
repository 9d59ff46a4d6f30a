/-
  The reader of a code's bytes: what it holds, and what it leaves alone.
-/
import Derived.Test.YtlbegmepmeimkabBox1
import Derived.Test.YtlbegmepmeimkabWithin
import Derived.Deep.QuietTactic
import Derived.BigQuiet
namespace Go.Proofs.Ytlbegmepmeimkab
open Go.RowKit

/-- Of the memory of w nothing but block P has turned. -/
structure Aside (P : Nat) (w w' : World) : Prop where
  os : w'.os = w.os
  tape : w'.tape = w.tape
  output : w'.output = w.output
  size : w.heap.size ≤ w'.heap.size
  block : ∀ k, k < w.heap.size → k ≠ P → w'.heap[k]? = w.heap[k]?

theorem Aside.refl (P : Nat) (w : World) : Aside P w w := ⟨rfl, rfl, rfl, Nat.le_refl _, fun _ _ _ => rfl⟩

theorem Aside.trans {P : Nat} {a b c : World} (h : Aside P a b) (k : Aside P b c) : Aside P a c :=
  ⟨k.os.trans h.os, k.tape.trans h.tape, k.output.trans h.output, Nat.le_trans h.size k.size, fun i hi hp => (k.block i (Nat.lt_of_lt_of_le hi h.size) hp).trans (h.block i hi hp)⟩

theorem Aside.of {P : Nat} {w w' : World} (h : Below w.heap.size w w') : Aside P w w' := ⟨h.os, h.tape, h.output, h.size, fun k hk _ => h.block k hk⟩

theorem Aside.set {P : Nat} {w w' : World} (h : Aside P w w') (j : Nat) (v : Value) : Aside P w (w'.setCell ⟨P, j, none⟩ v) := by
  have hb : Within P (P + 1) w' (w'.setCell ⟨P, j, none⟩ v) := (Within.refl P (P + 1) w').setCell (p := ⟨P, j, none⟩) (Nat.le_refl _) (Nat.lt_succ_self _) v
  exact ⟨hb.os.trans h.os, hb.tape.trans h.tape, hb.output.trans h.output, by rw [hb.size]; exact h.size, fun k hk hp => (hb.block k (by omega)).trans (h.block k hk hp)⟩

/-- A store above all of w. -/
theorem Aside.setHigh {P : Nat} {w w' : World} (h : Aside P w w') {p : Addr} (hp : w.heap.size ≤ p.block) (v : Value) : Aside P w (w'.setCell p v) := by
  have hb : Within p.block (p.block + 1) w' (w'.setCell p v) := (Within.refl _ _ _).setCell (Nat.le_refl _) (Nat.lt_succ_self _) v
  exact ⟨hb.os.trans h.os, hb.tape.trans h.tape, hb.output.trans h.output, by rw [hb.size]; exact h.size, fun k hk hp' => (hb.block k (by omega)).trans (h.block k hk hp')⟩

/-- What turns only above all of w. -/
theorem Aside.high {P B : Nat} {w w' w'' : World} (h : Aside P w w') (hb : Below B w' w'') (hB : w.heap.size ≤ B) : Aside P w w'' :=
  ⟨hb.os.trans h.os, hb.tape.trans h.tape, hb.output.trans h.output, Nat.le_trans h.size hb.size, fun k hk hp => (hb.block k (by omega)).trans (h.block k hk hp)⟩

theorem Aside.below {P B : Nat} {w w' : World} (h : Aside P w w') (hB : B ≤ P) (hS : B ≤ w.heap.size) : Below B w w' :=
  ⟨h.os, h.tape, h.output, h.size, fun k hk => h.block k (by omega) (by omega)⟩

theorem Aside.cell {P : Nat} {w w' : World} (h : Aside P w w') {p : Addr} (hp : p.block < w.heap.size) (hq : p.block ≠ P) : w'.cell? p = w.cell? p := World.cell?_of_block (w := w) (h.block p.block hp hq)
theorem Aside.frozen {P : Nat} {w w' : World} (h : Aside P w w') {p : Addr} (hp : p.block < w.heap.size) (hq : p.block ≠ P) : w'.frozen? p = w.frozen? p := World.frozen?_of_block (w := w) (h.block p.block hp hq)

theorem Aside.row {P : Nat} {k : IntKind} {w w' : World} {a : Option Addr} {zs : List Int} (h : Aside P w w') (hr : RowAt k w a zs) (hp : ∀ b off, a = some ⟨b, off, none⟩ → zs ≠ [] → b ≠ P) : RowAt k w' a zs := by
  by_cases e : zs = []
  · exact .inl e
  · rcases hr with hr | ⟨b, off, h1, h2, h3⟩
    · exact .inl hr
    · exact .inr ⟨b, off, h1, Nat.lt_of_lt_of_le h2 h.size, fun j hj => (h.cell (p := ⟨b, off + j, none⟩) h2 (hp b off h1 e)).trans (h3 j hj)⟩

theorem Aside.own {P : Nat} {w w' : World} {base : Nat} {e : TypeId} {v : Value} {n : Nat} {xs : List Value} (h : Aside P w w') (ho : w.ownsRow base e 1 v n xs) (hp : P < base) : w'.ownsRow base e 1 v n xs := by
  refine ⟨ho.1, ?_⟩
  rcases ho.2 with h1 | ⟨g, cap, cur, h1, h2, h3, h4⟩
  · exact .inl h1
  · refine .inr ⟨g, cap, cur, h1, h2, ?_, h4⟩
    have hg : g < w.heap.size := by
      by_cases hp : g < w.heap.size
      · exact hp
      · rw [Array.getElem?_eq_none (by omega)] at h3; cases h3
    rw [h.block g hg (by omega)]
    exact h3

/-- The reader in block P: its bytes, which lie elsewhere, and its place. -/
structure Rd (P : Nat) (W : World) : Prop where
  ex : ∃ (a : Option Addr) (c : Nat) (bs : List Int) (i : Nat), W.cell? ⟨P, 0, none⟩ = some (.slice a bs.length c) ∧ W.cell? ⟨P, 1, none⟩ = some (.int .i64 i) ∧ i ≤ bs.length ∧ bs.length ≤ 500 ∧ RowAt .u8 W a bs ∧ (∀ b off, a = some ⟨b, off, none⟩ → bs ≠ [] → b < P) ∧ Dig 256 bs
  free : ∀ j, W.frozen? ⟨P, j, none⟩ = false
  lt : P < W.heap.size

theorem Rd.later {P : Nat} {W W' : World} (h : Rd P W) (hb : Below W.heap.size W W') : Rd P W' := by
  obtain ⟨⟨a, c, bs, i, h1, h2, h3, h4, h5, h6, h7⟩, hf, hl⟩ := h
  exact ⟨⟨a, c, bs, i, (hb.cell (p := ⟨P, 0, none⟩) hl).trans h1, (hb.cell (p := ⟨P, 1, none⟩) hl).trans h2, h3, h4, h5.later hb, h6, h7⟩, fun j => (hb.frozen (p := ⟨P, j, none⟩) hl).trans (hf j), Nat.lt_of_lt_of_le hl hb.size⟩

/-- What turns only above the reader. -/
theorem Rd.above {P B : Nat} {W W' : World} (h : Rd P W) (hb : Below B W W') (hB : P < B) : Rd P W' := by
  obtain ⟨⟨a, c, bs, i, h1, h2, h3, h4, h5, h6, h7⟩, hf, hl⟩ := h
  refine ⟨⟨a, c, bs, i, (hb.cell (p := ⟨P, 0, none⟩) hB).trans h1, (hb.cell (p := ⟨P, 1, none⟩) hB).trans h2, h3, h4, ?_, h6, h7⟩, fun j => (hb.frozen (p := ⟨P, j, none⟩) hB).trans (hf j), Nat.lt_of_lt_of_le hl hb.size⟩
  by_cases e : bs = []
  · exact .inl e
  · rcases h5 with h5 | ⟨b, off, g1, g2, g3⟩
    · exact .inl h5
    · have := h6 b off g1 e
      exact .inr ⟨b, off, g1, Nat.lt_of_lt_of_le g2 hb.size, fun j hj => (hb.cell (p := ⟨b, off + j, none⟩) (by simp; omega)).trans (g3 j hj)⟩

/-- What next hands back. -/
def NextOut (P : Nat) (w : World) (e : Ending) (w' : World) : Prop := ∃ v : Int, e = .returned (.int .i64 v) ∧ 0 ≤ v ∧ v ≤ 255 ∧ Rd P w' ∧ Aside P w w'

set_option maxHeartbeats 1000000 in
theorem next_any (P : Nat) (w : World) (h : Rd P w) :
    Calls Try.prog 52 #[.pointer (some ⟨P, 0, none⟩)] w fun e w' => NextOut P w e w' := by
  have HH : Hid (Rd P w) := h
  obtain ⟨⟨a, c, bs, i, h1, h2, h3, h4, h5, h6, h7⟩, hf, hl⟩ := h
  by_cases hi : i < bs.length
  · obtain ⟨b, off, rfl, g1⟩ := row_cell h5 (Below.refl _ _) hi
    have hb := h7.at (by decide) i
    obtain ⟨y, hy⟩ : ∃ y, y = bs.getD i 0 := ⟨_, rfl⟩
    rw [← hy] at hb g1
    obtain ⟨hb0, hb1⟩ := hb
    have hge : ¬ ((i : Int) ≥ bs.length) := by omega
    have hlt : (i : Int) < bs.length := by omega
    have HO : Hid (∀ W, Below w.heap.size w W → NextOut P w (.returned (.int .i64 y)) (W.setCell ⟨P, 1, none⟩ (.int .i64 ((i : Int) + 1)))) := by
      intro W hW
      have c1 : W.cell? ⟨P, 0, none⟩ = some (.slice (some ⟨b, off, none⟩) bs.length c) := (hW.cell (p := ⟨P, 0, none⟩) hl).trans h1
      have c2 : W.cell? ⟨P, 1, none⟩ = some (.int .i64 i) := (hW.cell (p := ⟨P, 1, none⟩) hl).trans h2
      refine ⟨y, rfl, hb0, by omega, ⟨⟨some ⟨b, off, none⟩, c, bs, i + 1, ?_, ?_, by omega, h4, ?_, h6, h7⟩, fun j => by rw [World.frozen?_setCell]; exact (hW.frozen (p := ⟨P, j, none⟩) hl).trans (hf j), by have := hW.size; simp; omega⟩, (Aside.of hW).set 1 _⟩
      · rw [World.cell?_setCell_other _ _ _ _ (by simp)]; exact c1
      · rw [World.cell?_setCell_same _ _ _ c2]; simp
      · have hbP := h6 b off rfl (by intro e; rw [e] at hi; simp at hi)
        exact ((Aside.of (P := P) hW).set 1 _).row h5 (fun b' off' e _ => by have := congrArg Addr.block (Option.some.inj e); simp at this; omega)
    clear h5 h6 h7 hy HH
    go_enter Try.func52, Try.ntmps52
    go_wp2
    go_quiet (fail)
    go_wp2
    go_quiet (fail)
    go_wp2
    go_ret
    exact HO.out _ (by first | exact below_drewN (below_drewN (Below.refl _ _) _) _ | exact below_drewN (Below.refl _ _) _)
  · have hge : (bs.length : Int) ≤ i := by omega
    have HO : Hid (∀ W, Below w.heap.size w W → NextOut P w (.returned (.int .i64 0)) W) := fun W hW => ⟨0, rfl, by decide, by decide, HH.out.later hW, Aside.of hW⟩
    clear h5 h6 h7 HH
    go_enter Try.func52, Try.ntmps52
    go_wp2
    go_quiet (fail)
    go_wp2
    go_ret
    exact HO.out _ (below_drewN (Below.refl _ _) _)

/-- What l1open hands back: a reader in a new block. -/
def OpenOut (w : World) (e : Ending) (w' : World) : Prop := e = .returned (.pointer (some ⟨w.heap.size, 0, none⟩)) ∧ Rd w.heap.size w' ∧ Below w.heap.size w w' ∧ w'.heap.size = w.heap.size + 1

theorem open_rd (w : World) (a : Option Addr) (n c : Nat) (bs : List Int) (t : TypeId) (hn : n = bs.length) (h5 : bs.length ≤ 500) (hb : Dig 256 bs) (hr : RowAt .u8 w a bs) : OpenOut w (.returned (.pointer (some ⟨w.heap.size, 0, none⟩))) (w.alloc (.cells #[.slice a n c, .int .i64 0] t)) := by
  subst hn
  refine ⟨rfl, ⟨⟨a, c, bs, 0, by simp [go_sem], by simp [go_sem], by omega, h5, hr.later (bel0 _ _), ?_, hb⟩, fun j => by simp [go_sem], by simp⟩, bel0 _ _, by simp⟩
  intro b off e hne
  rcases hr with hr | ⟨b', off', g1, g2, _⟩
  · exact absurd hr hne
  · rw [e] at g1
    have := congrArg Addr.block (Option.some.inj g1)
    simp at this
    omega

set_option maxHeartbeats 1000000 in
theorem open_any (a : Option Addr) (c : Nat) (bs : List Int) (w : World) (hn : bs.length ≤ 1048576) (hc : bs.length ≤ c) (hcm : c ≤ maxLen) (hnil : a = none → c = 0) (hr : RowAt .u8 w a bs) (hb : Dig 256 bs) :
    Calls Try.prog 46 #[.slice a bs.length c] w fun e w' => OpenOut w e w' := by
  unfold maxLen at hcm
  by_cases h5 : 500 < bs.length
  · have HO : Hid (∀ t, OpenOut w (.returned (.pointer (some ⟨w.heap.size, 0, none⟩))) (w.alloc (.cells #[.slice a 500 c, .int .i64 0] t))) := fun t =>
      open_rd w a 500 c (bs.take 500) t (by rw [List.length_take]; omega) (by rw [List.length_take]; omega) (hb.take 500) (hr.take 500)
    cases a with
    | none => have := hnil rfl; omega
    | some x =>
      clear hr hb
      go_enter Try.func46, Try.ntmps46
      go_wp2
      go_ret
      exact HO.out _
  · have HO : Hid (∀ t, OpenOut w (.returned (.pointer (some ⟨w.heap.size, 0, none⟩))) (w.alloc (.cells #[.slice a bs.length c, .int .i64 0] t))) := fun t =>
      open_rd w a bs.length c bs t rfl (by omega) hb hr
    cases a with
    | none =>
      have h0 := hnil rfl
      subst h0
      have hl : bs.length = 0 := by omega
      rw [hl] at HO ⊢
      clear hr hb
      go_enter Try.func46, Try.ntmps46
      go_wp2
      go_ret
      exact HO.out _
    | some x =>
      clear hr hb
      go_enter Try.func46, Try.ntmps46
      go_wp2
      go_ret
      exact HO.out _

end Go.Proofs.Ytlbegmepmeimkab
