/-
  The model's drawn Bigs.
-/
import Derived.Test.YtiajhekjojeaeaaGreatDraw1
import Derived.Deep.RegionHeld3
import Derived.Deep.RegionLaw
namespace Go.Proofs.YtiajhekjojeaeaaGreat
open Go.RowKit

theorem DS.start {w W : World} {P : Nat} {e t t' : TypeId} (hp : P < w.heap.size) (hr : Rd P W) (ha : Aside P (w.alloc (.cells #[.bool false, .slice none 0 0] t)) W) : DS w P w.heap.size W.heap.size (W.heap.size + 1) e false (.slice none 0 0) [] (W.alloc (.cells #[.bool false, .slice none 0 0] t')) := by
  have hs := ha.size
  simp at hs
  have a1 : Aside P w W := (Aside.of (bel0 w _)).trans ha
  have b1 := bel0 W (.cells #[.bool false, .slice none 0 0] t')
  refine ⟨?_, ?_, ?_, by simp [go_sem], by simp [go_sem], by intro j; simp [go_sem], own_nil _ _ _ _, (fun z hz => by cases hz), hr.later b1, a1.trans (Aside.of b1), Nat.le_refl _, hp, by omega, by omega, by simp⟩
  · rw [b1.cell (by simp; omega), ha.cell (by simp) (by simp; omega)]; simp [go_sem]
  · rw [b1.cell (by simp; omega), ha.cell (by simp) (by simp; omega)]; simp [go_sem]
  · intro j; rw [b1.frozen (by simp; omega), ha.frozen (by simp) (by simp; omega)]; simp [go_sem]

/-- Something more is laid, ahead of the first limb. -/
theorem DS.rebase {w : World} {P R O B : Nat} {e : TypeId} {G : Bool} {W : World} (h : DS w P R O B e G (.slice none 0 0) [] W) (o : Obj) (hB : W.heap.size = B) : DS w P R O (B + 1) e G (.slice none 0 0) [] (W.alloc o) := by
  have h2 := h.later (bel0 W o)
  exact ⟨h2.r1, h2.r2, h2.r3, h2.o0, h2.o1, h2.o2, own_nil _ _ _ _, h2.u, h2.rd, h2.asd, h2.ordR, h2.ordP, h2.ordO, Nat.lt_succ_of_lt h2.ordB, by simp; omega⟩

/-- The odd limbs. -/
def oddT : List Int := [0, 1, 4294967295, 2147483648, 2147483647, 2, 10, 1000000000]

theorem oddT_row (w : World) (t : TypeId) (o : Obj) : RowAt .u32 ((w.alloc o).alloc (.cells #[.int .u32 0, .int .u32 1, .int .u32 4294967295, .int .u32 2147483648, .int .u32 2147483647, .int .u32 2, .int .u32 10, .int .u32 1000000000] t)) (some ⟨w.heap.size + 1, 0, none⟩) oddT := by
  refine .inr ⟨w.heap.size + 1, 0, rfl, by simp, fun j hj => ?_⟩
  rw [Nat.zero_add, World.cell?_alloc_at _ _ _ _ (by simp)]
  have : j < 8 := hj
  match j, this with
  | 0, _ => rfl
  | 1, _ => rfl
  | 2, _ => rfl
  | 3, _ => rfl
  | 4, _ => rfl
  | 5, _ => rfl
  | 6, _ => rfl
  | 7, _ => rfl

theorem oddT_cell {W : World} {T j : Nat} (h : RowAt .u32 W (some ⟨T, 0, none⟩) oddT) (hj : j < 8) : ∃ y, W.cell? ⟨T, j, none⟩ = some (.int .u32 y) ∧ 0 ≤ y ∧ y < 4294967296 := by
  rcases h with h | ⟨b, off, h1, _, h3⟩
  · cases h
  · have h4 := Option.some.inj h1
    have e1 : b = T := (congrArg Addr.block h4).symm
    have e2 : off = 0 := (congrArg Addr.off h4).symm
    subst e1 e2
    have := h3 j hj
    rw [Nat.zero_add] at this
    refine ⟨_, this, ?_⟩
    have hu : ∀ k, k < 8 → 0 ≤ oddT.getD k 0 ∧ oddT.getD k 0 < 4294967296 := by decide
    exact hu j hj

theorem oddT_stay {W W' : World} {T O B : Nat} {v : Value} (h : RowAt .u32 W (some ⟨T, 0, none⟩) oddT) (hb : Below B W W') (hT : T < B) (hO : O ≠ T) : RowAt .u32 (W'.setCell ⟨O, 1, none⟩ v) (some ⟨T, 0, none⟩) oddT := by
  rcases h with h | ⟨b, off, h1, h2, h3⟩
  · cases h
  · have h4 := Option.some.inj h1
    have e1 : b = T := (congrArg Addr.block h4).symm
    subst e1
    refine .inr ⟨b, off, h1, by have := hb.size; simp; omega, fun j hj => ?_⟩
    rw [World.cell?_setCell_other _ _ _ _ (by first | (simp; done) | (simp; omega) | (intro e; exact hO (congrArg Addr.block e)))]
    exact (hb.cell (p := ⟨b, off + j, none⟩) hT).trans (h3 j hj)

theorem own_drew {X : World} {base : Nat} {e : TypeId} {v : Value} {n : Nat} {xs : List Value} (h : X.ownsRow base e 1 v n xs) : X.drew.ownsRow base e 1 v n xs := h

theorem bits_range (op : BinOp) (a b : Int) : 0 ≤ bits op .u32 a b ∧ bits op .u32 a b < 4294967296 := by
  unfold bits
  simp only [IntKind.wrap, IntKind.bits, IntKind.signed]
  simp
  omega

/-- 'append(s, x)' of one number to a slice of the call's own, as a step of a region that draws. -/
theorem app1s {k : IntKind} {X : Int} {bytes : Nat} {w0 : World} {ops : Array Oper} {o : Oper} {a : Act} {K : Act → World → Prop} {Q : Exit → Act → World → Prop} {E : Prop} (hgd : o.guard = none) (s x : Operand) (t : TypeId)
    (ho : o.op = .call { callee := .builtin .append, args := #[s, x], argTypes := #[t, t] })
    (base : Nat) (e : TypeId) (ht : Tryz.prog.underlying t = some (.slice e)) (hinfo : (Tryz.prog.info? e).map (fun i => (i.zero, i.size, i.bytes)) = some (some (.int k 0), 1, bytes)) (hby : bytes ≤ 8)
    (sv : Value) (ys : List Int) (bl : Nat) (hbl : w0.heap.size = bl) (hs : a.eval s = sv) (hx : a.eval x = .slice (some ⟨bl, 0, none⟩) 1 1) (hown : w0.ownsRow base e 1 sv ys.length (vals k ys)) (hn : ys.length ≤ 8388608) (hbase : base ≤ w0.heap.size)
    (h : ∀ a' n' c' w', w'.ownsRow base e 1 (.slice a' n' c') (ys ++ [X]).length (vals k (ys ++ [X])) → Below base w0 w' → w0.heap.size < w'.heap.size → K (a.put o.dst (.slice a' n' c')) w') :
    if Region.wanted o (yielded ops a.tmps) = true then Oper.wp Tryz.prog o a (w0.alloc (.cells #[.int k X] e)) K Q else E := by
  subst hbl
  have hw : Region.wanted o (yielded ops a.tmps) = true := by simp [Region.wanted, hgd]
  rw [if_pos hw]
  obtain ⟨i0, hi, hz0, hz1, hz2⟩ := info_parts hinfo
  have hb1 : (ys.length + 1) * bytes ≤ (ys.length + 1) * 8 := Nat.mul_le_mul_left _ hby
  refine wp_append_own _ s x t ho base e i0 (.int k 0) 1 bytes ht hi hz0 hz1 hz2 rfl (by decide) sv ys.length (vals k ys) hs (hown.alloc _) ⟨w0.heap.size, 0, none⟩ 1 1 [.int k X] hx rfl ?_ ?_ ?_ ?_ ?_ ?_
  · intro j u hj
    match j, hj with
    | 0, hj => simp at hj; subst hj; simp [Addr.add]
  · intro u hu; simp at hu; subst hu; rfl
  · unfold maxLen; omega
  · omega
  · simp; omega
  · intro v' w' hown' hgrow _
    obtain ⟨a', n', c', rfl⟩ : ∃ a' n' c', v' = .slice a' n' c' := by
      rcases hown'.2 with ⟨h1, _⟩ | ⟨g, cap, cur, h1, _⟩
      · exact ⟨_, _, _, h1⟩
      · exact ⟨_, _, _, h1⟩
    refine h a' n' c' w' ?_ ?_ ?_
    · rw [vals_snoc] at hown'
      simpa using hown'
    · have hb0 : Below base w0 (w0.alloc (.cells #[.int k X] e)) := (Below.refl _ _).alloc hbase _
      refine hb0.grown hgrow (by simp; omega) ?_
      intro kk hk
      rcases hown.2 with ⟨h1, _⟩ | ⟨g, cap, cur, h1, h2, _⟩
      · rw [h1] at hk; simp [Value.ownBlock] at hk
      · rw [h1] at hk; simp [Value.ownBlock] at hk; omega
    · have := hgrow.size
      simp at this
      omega

/-- How long the slice in a box is. -/
def boxLen (O : Nat) (W : World) : Nat := match W.cell? ⟨O, 1, none⟩ with
  | some (.slice _ n _) => n
  | _ => 0

theorem boxLen_of {O n c : Nat} {a : Option Addr} {W : World} (h : W.cell? ⟨O, 1, none⟩ = some (.slice a n c)) : boxLen O W = n := by unfold boxLen; rw [h]

/-- Shorter by a limb: the box behind the store. -/
theorem DS.short {w : World} {P R O B : Nat} {e : TypeId} {G : Bool} {a : Option Addr} {c m : Nat} {ys : List Int} {W : World} (h : DS w P R O B e G (.slice a ys.length c) ys W) (hm : ys.length = m + 1) : DS w P R O B e G (.slice a m c) (ys.take m) (W.setCell ⟨O, 1, none⟩ (.slice a m c)) :=
  h.grow (Below.refl _ _) (own_short h.own hm) (h.u.take m)

end Go.Proofs.YtiajhekjojeaeaaGreat
