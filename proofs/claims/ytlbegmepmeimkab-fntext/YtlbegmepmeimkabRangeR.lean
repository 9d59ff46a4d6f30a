/-
  A range over a function whose iterator works in a block of its own: the law of the statement.
-/
import Derived.Test.YtlbegmepmeimkabWithin
import Derived.RangeFuncFrom
import Derived.RangeFuncBox
import Derived.RangeFuncLeaves
namespace Go.Proofs.Ytlbegmepmeimkab
open Go.RowKit

theorem Within.grown {R : Nat} {W W' : World} (h : Within R (R + 1) W W') : W.grownBy W' (some R) :=
  ⟨h.os, h.tape, h.output, by rw [h.size]; exact Nat.le_refl _, fun k _ hk => h.block k (by
    have : k ≠ R := fun e => hk (by rw [e])
    omega)⟩

/-- The iterator (gf, at the receiver rc) may write the block R that it has laid, and no other that is not new; a round leaves that block. -/
theorem range_r {F : Fence} {n : Nat} {P : Program} {α : Type} {g : Operand} {ps : Array Tmp} {assign body : Code} {Q : Exit → Act → World → Prop} {a : Act} {w : World}
    (hro : F.round = none) (h1 : 1 ≤ n) {gf : Nat} {rc : Array Value} (hg : a.eval g = .func (.func gf) rc #[]) (hFg : F.fn gf) (eg : ∀ args w, (callFunc gf args).run P w = .ok (.enter gf args) w)
    {encs : α → Array Value} (hps : ∀ x, (encs x).size = ps.size) {ok : List α → α → Prop} {S : List α → Prop} (I : Nat → List α → World → Prop)
    (hit : ∀ (l : Nat) (J : Nat → List α → World → Prop) (W : World), Below w.heap.size w W →
      (∀ R W2, Below W.heap.size W W2 → W.heap.size ≤ R → R < W2.heap.size → J R [] W2) →
      (∀ R pre W2 W3, J R pre W2 → Within R (R + 1) W2 W3 → J R pre W3) →
      (∀ R pre x W2, J R pre W2 → ok pre x → YieldAt F (n - 1 - 1) P l (encs x) W2 fun e W3 => e = .returned (.bool true) ∧ J R (pre ++ [x]) W3 ∧ W3.heap[R]? = W2.heap[R]?) →
      CallsIn F (n - 1) P gf (rc ++ #[.func (.yield l) #[] #[]]) W fun e W3 => (∃ v, e = .returned v) ∧ ∃ R xs, S xs ∧ J R xs W3)
    (hI0 : ∀ R W, Below w.heap.size w W → w.heap.size + 2 ≤ R → R < W.heap.size → I R [] W)
    (hIw : ∀ R pre W W', w.heap.size + 2 ≤ R → I R pre W → Within R (R + 1) W W' → I R pre W')
    (hIp : ∀ R pre W l o o', I R pre W → w.heap.size ≤ l → W.heap[l]? = some o → o.isCells = false → I R pre (W.putObj l o'))
    (a₁ : α → Act)
    (hassign : ∀ (l : Nat) (x : α) (W : World) (K : Act → World → Prop), K (a₁ x) W →
      assign.wpIn (F.inRound l) (n - 1 - 1) P (Exit.then K (fun _ _ _ => False)) { tmps := (ps.zip (encs x)).foldl (fun t (p, v) => t.setIfInBounds p v) a.tmps, defers := [] } W)
    (hbody : ∀ (l R : Nat) (pre : List α) (x : α) (W : World), w.heap.size + 2 ≤ R → I R pre W → ok pre x →
      body.wpIn (F.inRound l) (n - 1 - 1) P (Exit.then (fun _ W' => KeepsOthers W W' ∧ W'.heap[R]? = W.heap[R]? ∧ I R (pre ++ [x]) W') (fun _ _ _ => False)) (a₁ x) W)
    (hdone : ∀ (D R : Nat) (xs : List α) (W : World), w.heap.size ≤ D → S xs → I R xs W → W.heap[D]? = some (.deferred (some [])) → Q .normal { a with defers := { target := .collected D, args := #[] } :: a.defers } W) :
    (Code.rangeFunc g ps assign body).wpIn F n P Q a w := by
  refine wpIn_rangeFunc fun fn hfn => ?_
  rw [hro]
  obtain ⟨rec, hrec⟩ : ∃ rec : Loop, rec = { state := .ready, pending := none, fn, tmps := a.tmps, params := ps, assign, body, defers := w.heap.size } := ⟨_, rfl⟩
  obtain ⟨W1, hW1⟩ : ∃ W1, W1 = (w.alloc (.deferred (some []))).alloc (.loop rec) := ⟨_, rfl⟩
  have hsz : W1.heap.size = w.heap.size + 2 := by rw [hW1]; simp
  have hL1 : W1.heap[w.heap.size + 1]? = some (.loop rec) := by
    have := World.alloc_heap_new (w.alloc (.deferred (some []))) (.loop rec)
    rw [World.size_alloc] at this
    rw [hW1]
    exact this
  have hD1 : W1.heap[w.heap.size]? = some (.deferred (some [])) := by
    rw [hW1, Below.heap_alloc _ _ _ (by simp)]
    exact World.alloc_heap_new w _
  have hB1 : Below w.heap.size w W1 := by
    rw [hW1]
    exact ((Below.refl _ w).alloc (Nat.le_refl _) _).alloc (by simp) _
  refine ⟨w.heap.size + 1, [{ target := .collected w.heap.size, args := #[] }], W1, { target := .fn (.func gf) #[], args := rc ++ #[.func (.yield (w.heap.size + 1)) #[] #[]] }, W1, gf, rc ++ #[.func (.yield (w.heap.size + 1)) #[] #[]], W1, ?_, ?_, ?_, ?_, fun _ => h1, ?_⟩
  · rw [hW1, hrec]
    exact run_enterLoop_outer _ _ _ _ _
  · simp only [resolve, hg]
    simp [go_sem]
  · intro f' hf'
    simp [Target.leads] at hf'
    subst hf'
    exact hFg
  · simp [invoke, go_sem, eg]
  · refine (hit (w.heap.size + 1) (fun R pre W => w.heap.size + 2 ≤ R ∧ I R pre W ∧ W.heap[w.heap.size + 1]? = some (.loop rec) ∧ W.heap[w.heap.size]? = some (.deferred (some []))) W1 hB1 ?_ ?_ ?_).mono ?_
    · intro R W2 hb hR hR2
      rw [hsz] at hb hR
      exact ⟨hR, hI0 R W2 (hB1.trans (hb.mono (by omega))) hR hR2, (hb.block _ (by omega)).trans hL1, (hb.block _ (by omega)).trans hD1⟩
    · rintro R pre W2 W3 ⟨hR, hi, hl, hd⟩ hw
      exact ⟨hR, hIw R pre W2 W3 hR hi hw, (hw.block _ (.inl (by omega))).trans hl, (hw.block _ (.inl (by omega))).trans hd⟩
    · rintro R pre x W2 ⟨hR, hi, hl, hd⟩ hx
      have hlt : w.heap.size + 1 < W2.heap.size := (Array.getElem?_eq_some_iff.1 hl).1
      have hy := run_yield (P := P) (args := encs x) hl (by rw [hrec]; exact hps x)
      refine ⟨rec.fn, _, rec.assign, rec.body, hy, ?_⟩
      rw [hrec]
      refine roundIn_of_wpIn hfn (hassign _ x W2 _ ⟨_, run_beginRound hl (by rw [hrec]), ?_⟩)
      have hl2 : (W2.putObj (w.heap.size + 1) (.loop { rec with state := .busy })).heap[w.heap.size + 1]? = some (.loop { rec with state := .busy }) := World.putObj_heap_same hlt
      have hd2 : (W2.putObj (w.heap.size + 1) (.loop { rec with state := .busy })).heap[w.heap.size]? = some (.deferred (some [])) := (World.putObj_heap_other (by omega)).trans hd
      have hi2 := hIp R pre W2 (w.heap.size + 1) _ (.loop { rec with state := .busy }) hi (by omega) hl rfl
      have hR2 : (W2.putObj (w.heap.size + 1) (.loop { rec with state := .busy })).heap[R]? = W2.heap[R]? := World.putObj_heap_other (by omega)
      refine wpIn_mono (hbody (w.heap.size + 1) R pre x _ hR hi2 hx) ?_
      rintro e a3 W3 hp
      cases e with
      | normal =>
        obtain ⟨hk, hR3, hi3⟩ := hp
        have hl3 := hk.same _ _ hl2 rfl
        have hd3 := hk.same _ _ hd2 rfl
        have he := run_endRound (P := P) none hl3
        refine ⟨_, _, he, rfl, ⟨hR, hIp R _ W3 _ _ _ hi3 (by omega) hl3 rfl, ?_, (World.putObj_heap_other (by omega)).trans hd3⟩, ?_⟩
        · rw [World.putObj_heap_same (Array.getElem?_eq_some_iff.1 hl3).1, hrec]
          rfl
        · rw [World.putObj_heap_other (by omega), hR3, hR2]
      | ret => exact hp.elim
      | exit id => exact hp.elim
      | goto t => exact hp.elim
      | panic ch => exact hp.elim
      | outgrown => exact hp.elim
    · rintro e W2 ⟨⟨v, rfl⟩, R, xs, hS, hR, hi, hl, hd⟩
      have hend := run_endLoop (P := P) hl (by rw [hrec]; simp)
      refine ⟨none, _, by rw [hend, hrec], ?_⟩
      exact hdone _ R xs _ (Nat.le_refl _) hS (hIp R xs W2 _ _ _ hi (by omega) hl rfl) ((World.putObj_heap_other (by omega)).trans hd)

end Go.Proofs.Ytlbegmepmeimkab
