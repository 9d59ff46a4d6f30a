/-
  'append([]T{}, s...)' as a step of a region that draws.
-/
import Derived.Test.YtlbegmepmeimkabDraw2
import Derived.Test.YtlbegmepmeimkabCopy
import Derived.Test.YtlbegmepmeimkabDrawR
import Derived.Test.YtlbegmepmeimkabSpecAddC
import Derived.Test.YtlbegmepmeimkabHas
import Derived.Deep.CutRange
import Derived.Deep.Light
import Derived.Deep.RegionHeld3
namespace Go.Proofs.Ytlbegmepmeimkab
open Go.RowKit

theorem own_empty {W : World} {bl base : Nat} {e : TypeId} {k : IntKind} (hbl : W.heap[bl]? = some (.cells #[] e (0, 0))) (hb : base ≤ bl) : W.ownsRow base e 1 (.slice (some ⟨bl, 0, none⟩) 0 0) 0 (vals k []) := by
  refine ⟨by simp [vals], .inr ⟨bl, 0, #[], rfl, hb, hbl, Nat.le_refl _, by unfold maxLen; omega, by simp, by simp [vals]⟩⟩

theorem appEs {k : IntKind} {bytes : Nat} {w0 : World} {ops : Array Oper} {o : Oper} {ac : Act} {K : Act → World → Prop} {Q : Exit → Act → World → Prop} {E : Prop} (hgd : o.guard = none) (s x : Operand) (t : TypeId)
    (ho : o.op = .call { callee := .builtin .append, args := #[s, x], argTypes := #[t, t] })
    (e : TypeId) (ht : Try.prog.underlying t = some (.slice e)) (hinfo : (Try.prog.info? e).map (fun i => (i.zero, i.size, i.bytes)) = some (some (.int k 0), 1, bytes)) (hby : bytes ≤ 8)
    (a : Option Addr) (c : Nat) (zs : List Int) (bl : Nat) (hbl : w0.heap[bl]? = some (.cells #[] e (0, 0))) (hs : ac.eval s = .slice (some ⟨bl, 0, none⟩) 0 0) (hx : ac.eval x = .slice a zs.length c) (hn : zs.length ≤ 8388608) (hnil : a = none → c = 0) (hc : zs.length ≤ c) (hr : RowAt k w0 a zs)
    (h : ∀ a' c' w', w'.ownsRow bl e 1 (.slice a' zs.length c') zs.length (vals k zs) → Aside bl w0 w' → K (ac.put o.dst (.slice a' zs.length c')) w') :
    if Region.wanted o (yielded ops ac.tmps) = true then Oper.wp Try.prog o ac w0 K Q else E := by
  have hw : Region.wanted o (yielded ops ac.tmps) = true := by simp [Region.wanted, hgd]
  rw [if_pos hw]
  obtain ⟨i0, hi, hz0, hz1, hz2⟩ := info_parts hinfo
  have hlt : bl < w0.heap.size := by
    by_cases hp : bl < w0.heap.size
    · exact hp
    · rw [Array.getElem?_eq_none (by omega)] at hbl; cases hbl
  cases a with
  | none =>
    have h0 := hnil rfl
    subst h0
    have hz : zs = [] := List.length_eq_zero_iff.1 (by omega)
    subst hz
    have hrun := run_append_owned_none (P := Try.prog) (w := w0) bl t o.type e i0 1 ht hi (.slice (some ⟨bl, 0, none⟩) 0 0) 0 (vals k []) (own_empty hbl (Nat.le_refl _))
    unfold Oper.wp execOp
    simp only [ho, resolve, invoke, builtin, Sem.run_bind, Sem.run_pure, Result.andThen_ok, List.map_toArray, List.map_cons, List.map_nil, hs, hx, List.length_nil, hrun]
    exact h _ _ w0 (own_empty hbl (Nat.le_refl _)) (Aside.refl _ _)
  | some ad =>
    have hb1 : zs.length * bytes ≤ zs.length * 8 := Nat.mul_le_mul_left _ hby
    refine wp_append_own _ s x t ho bl e i0 (.int k 0) 1 bytes ht hi hz0 hz1 hz2 rfl (by decide) (.slice (some ⟨bl, 0, none⟩) 0 0) 0 (vals k []) hs (own_empty hbl (Nat.le_refl _)) ad zs.length c (vals k zs) hx (by simp [vals]) ?_ ?_ ?_ ?_ (by omega) ?_
    · intro j u hj
      have hjl : j < zs.length := by
        by_cases hp : j < zs.length
        · exact hp
        · rw [List.getElem?_eq_none (by rw [vals_length]; omega)] at hj; cases hj
      rcases hr with hr | ⟨b, off, h1, h2, h3⟩
      · rw [hr] at hjl; simp at hjl
      · have e1 := Option.some.inj h1
        subst e1
        have hu : u = .int k (zs.getD j 0) := by
          simp [vals, hjl] at hj
          rw [← hj, List.getD_eq_getElem?_getD, List.getElem?_eq_getElem hjl]
          rfl
        rw [hu]
        have h4 := h3 j hjl
        by_cases e : j = 0
        · subst e; simpa [Addr.add] using h4
        · simpa [Addr.add, e] using h4
    · intro u hu
      simp [vals] at hu
      obtain ⟨z, _, rfl⟩ := hu
      rfl
    · unfold maxLen; omega
    · rw [Nat.zero_add]; omega
    · intro v' w' hown hgrow _
      rw [Nat.zero_add, show vals k [] = [] from rfl, List.nil_append] at hown
      obtain ⟨a', c', rfl⟩ : ∃ a' c', v' = .slice a' zs.length c' := by
        rcases hown.2 with ⟨h1, h2⟩ | ⟨g, cap, cur, h1, _⟩
        · rw [h2]; exact ⟨_, _, h1⟩
        · exact ⟨_, _, h1⟩
      refine h a' c' w' hown ?_
      exact ⟨hgrow.os, hgrow.tape, hgrow.output, hgrow.size, fun kk hk hne => hgrow.block kk hk (by simp [Value.ownBlock]; exact fun hh => hne hh)⟩

end Go.Proofs.Ytlbegmepmeimkab

/-
  Two drawn Bigs: memory.
-/
namespace Go.Proofs.Ytlbegmepmeimkab
open Go.RowKit

/-- Memory while two Bigs are drawn: the two answers' boxes (still zero), the first Big's box A, its limbs. -/
structure Tw (w : World) (P A : Nat) (G : Bool) (a : Option Addr) (c : Nat) (zs : List Int) (W : World) : Prop where
  r0 : W.cell? ⟨w.heap.size, 0, none⟩ = some (.bool false)
  r1 : W.cell? ⟨w.heap.size, 1, none⟩ = some (.slice none 0 0)
  r2 : W.cell? ⟨w.heap.size + 1, 0, none⟩ = some (.bool false)
  r3 : W.cell? ⟨w.heap.size + 1, 1, none⟩ = some (.slice none 0 0)
  rf : ∀ j, W.frozen? ⟨w.heap.size, j, none⟩ = false
  rg : ∀ j, W.frozen? ⟨w.heap.size + 1, j, none⟩ = false
  q0 : W.cell? ⟨A, 0, none⟩ = some (.bool G)
  q1 : W.cell? ⟨A, 1, none⟩ = some (.slice a zs.length c)
  sl : Sl .u32 W a c zs
  off : ∀ b o, a = some ⟨b, o, none⟩ → zs ≠ [] → b ≠ P ∧ w.heap.size + 1 < b
  asd : Aside P w W
  ord : P < w.heap.size ∧ w.heap.size + 1 < A ∧ A < W.heap.size

section
variable {w : World} {P A : Nat} {G : Bool} {a : Option Addr} {c : Nat} {zs : List Int} {W W' : World}

theorem Tw.aside (h : Tw w P A G a c zs W) (ha : Aside P W W') : Tw w P A G a c zs W' := by
  obtain ⟨o1, o2, o3⟩ := h.ord
  have hs := ha.size
  exact ⟨(ha.cell (by simp; omega) (by simp; omega)).trans h.r0, (ha.cell (by simp; omega) (by simp; omega)).trans h.r1, (ha.cell (by simp; omega) (by simp; omega)).trans h.r2, (ha.cell (by simp; omega) (by simp; omega)).trans h.r3, fun j => (ha.frozen (by simp; omega) (by simp; omega)).trans (h.rf j), fun j => (ha.frozen (by simp; omega) (by simp; omega)).trans (h.rg j),
    (ha.cell (by simp; omega) (by simp; omega)).trans h.q0, (ha.cell (by simp; omega) (by simp; omega)).trans h.q1, ⟨h.sl.fits, h.sl.nil, ha.row h.sl.row (fun b o e1 hne => (h.off b o e1 hne).1)⟩, h.off, h.asd.trans ha, o1, o2, by omega⟩

theorem Tw.later (h : Tw w P A G a c zs W) (hb : Below W.heap.size W W') : Tw w P A G a c zs W' := h.aside (Aside.of hb)

end

/-- The second Big in its box. -/
structure Tb (w : World) (P B : Nat) (G : Bool) (a : Option Addr) (c : Nat) (zs : List Int) (W : World) : Prop where
  q0 : W.cell? ⟨B, 0, none⟩ = some (.bool G)
  q1 : W.cell? ⟨B, 1, none⟩ = some (.slice a zs.length c)
  sl : Sl .u32 W a c zs
  off : ∀ b o, a = some ⟨b, o, none⟩ → zs ≠ [] → b ≠ P ∧ w.heap.size + 1 < b
  ord : w.heap.size + 1 < B ∧ B < W.heap.size

theorem heapAt {W : World} {e : TypeId} {n : Nat} (hn : n = W.heap.size) : (W.alloc (.cells #[] e)).heap[n]? = some (.cells #[] e (0, 0)) := by
  subst hn
  first | exact heap_alloc_new _ _ | exact Go.heap_alloc_new _ _

theorem heapPast {W : World} {o o' : Obj} {n : Nat} (hn : n < W.heap.size) (h : W.heap[n]? = some o') : (W.alloc o).heap[n]? = some o' := (Below.heap_alloc _ _ _ hn).trans h

theorem Has.asideB {b bl : Nat} {W W' : World} (h : Has b W) (ha : Aside bl W W') (hne : b ≠ bl) : Has b W' :=
  ⟨(ha.cell (p := ⟨b, 0, none⟩) h.lt hne).trans h.r1, (ha.cell (p := ⟨b, 1, none⟩) h.lt hne).trans h.r2, fun j => (ha.frozen (p := ⟨b, j, none⟩) h.lt hne).trans (h.r3 j), Nat.lt_of_lt_of_le h.lt ha.size⟩

theorem Has.at {b : Nat} {W : World} (t : TypeId) (hb : b = W.heap.size) : Has b (W.alloc (.cells #[.bool false, .slice none 0 0] t)) := by
  subst hb
  exact Has.new W t

theorem Tb.start {w W : World} {P B : Nat} {G : Bool} {a : Option Addr} {c : Nat} {zs : List Int} {t : TypeId} {bl : Nat} (hB : B = W.heap.size) (hP : P < w.heap.size) (hl : w.heap.size + 1 < bl) (hb : w.heap.size + 1 < W.heap.size) (hown : W.ownsRow bl 46 1 (.slice a zs.length c) zs.length (vals .u32 zs)) : Tb w P B G a c zs (W.alloc (.cells #[.bool G, .slice a zs.length c] t)) := by
  subst hB
  obtain ⟨a2, c2, e2, hcm, hsl, hrn⟩ := own_row hown
  injection e2 with e3 e4 e5
  subst e3 e5
  refine ⟨by simp [go_sem], by simp [go_sem], hsl.later (bel0 _ _), ?_, hb, by simp⟩
  intro b o e1 hne
  have hfar := (hrn.far (Nat.le_refl _) (Nat.le_refl _)).away (p := ⟨b, 0, none⟩)
  by_cases hb : b < bl
  · exact absurd rfl (hfar hb b o e1 hne)
  · omega

/-- The box was laid ahead of the append. -/
theorem Tb.set {w W : World} {P B : Nat} {G : Bool} {a : Option Addr} {c : Nat} {zs : List Int} {bl : Nat} (hP : P < w.heap.size) (hl : w.heap.size + 1 < bl) (hT : w.heap.size + 1 < B) (hh : Has B W) (hown : W.ownsRow bl 46 1 (.slice a zs.length c) zs.length (vals .u32 zs)) : Tb w P B G a c zs ((W.setCell ⟨B, 0, none⟩ (.bool G)).setCell ⟨B, 1, none⟩ (.slice a zs.length c)) := by
  have hzero : ∀ b o, a = some ⟨b, o, none⟩ → zs ≠ [] → o = 0 := by
    intro b o e1 hne
    rcases hown.2 with ⟨h1, h2⟩ | ⟨g, cap, cur, h1, _⟩
    · exact absurd (List.length_eq_zero_iff.1 h2) hne
    · injection h1 with e2
      rw [e1] at e2
      injection e2 with e3
      injection e3
  obtain ⟨a2, c2, e2, hcm, hsl, hrn⟩ := own_row hown
  injection e2 with e3 e4 e5
  subst e3 e5
  have hne : ∀ b o, a = some ⟨b, o, none⟩ → zs ≠ [] → b ≠ B := by
    intro b o e1 hz hb
    have h0 := hzero b o e1 hz
    subst hb h0
    rcases hsl.row with h | ⟨b', off', h1, h2, h3⟩
    · exact hz h
    · rw [e1] at h1
      injection h1 with h1
      injection h1 with h4 h5
      subst h4 h5
      have h6 := h3 0 (List.length_pos_iff.2 hz)
      have h7 := hh.r1
      rw [h6] at h7
      cases h7
  refine ⟨?_, ?_, ⟨hsl.fits, hsl.nil, (hsl.row.setAway (p := ⟨B, 0, none⟩) hne _).setAway (p := ⟨B, 1, none⟩) hne _⟩, ?_, hT, by simpa using hh.lt⟩
  · rw [World.cell?_setCell_other _ _ _ _ (by simp)]
    exact World.cell?_setCell_same _ _ _ hh.r1
  · refine World.cell?_setCell_same _ _ _ (u := .slice none 0 0) ?_
    rw [World.cell?_setCell_other _ _ _ _ (by simp)]
    exact hh.r2
  · intro b o e1 hz
    have hfar := (hrn.far (Nat.le_refl _) (Nat.le_refl _)).away (p := ⟨b, 0, none⟩)
    by_cases hb : b < bl
    · exact absurd rfl (hfar hb b o e1 hz)
    · omega

/-- The two answers. -/
def TwoOut (w : World) (P : Nat) (e : Ending) (w' : World) : Prop :=
  ∃ (G : Bool) (a : Option Addr) (c : Nat) (zs : List Int) (G' : Bool) (a' : Option Addr) (c' : Nat) (ys : List Int), e = .returned (.tuple #[.agg #[.bool G, .slice a zs.length c], .agg #[.bool G', .slice a' ys.length c']]) ∧ zs.length ≤ 513 ∧ ys.length ≤ 513 ∧ U32 zs ∧ U32 ys ∧ Sl .u32 w' a c zs ∧ Sl .u32 w' a' c' ys ∧ (Far w.heap.size a zs ∧ Far w.heap.size a' ys) ∧ Aside P w w'

theorem far_of {k : IntKind} {W : World} {B : Nat} {a : Option Addr} {zs : List Int} (hr : RowAt k W a zs) (h : ∀ b o, a = some ⟨b, o, none⟩ → zs ≠ [] → B ≤ b) : Far B a zs := by
  rcases hr with e | ⟨b, o, h1, _, _⟩
  · exact .inl e
  · by_cases e : zs = []
    · exact .inl e
    · exact .inr ⟨b, o, h1, h b o h1 e⟩

/-- Both Bigs are laid into the answers' boxes. -/
theorem two_fin {w W W' : World} {P A B : Nat} {G G' : Bool} {a a' : Option Addr} {c c' : Nat} {zs ys : List Int} (h1 : Tw w P A G a c zs W) (h2 : Tb w P B G' a' c' ys W) (hn : zs.length ≤ 513) (hn' : ys.length ≤ 513) (hu : U32 zs) (hu' : U32 ys)
    (hW : W' = (((W.setCell ⟨w.heap.size, 0, none⟩ (.bool G)).setCell ⟨w.heap.size, 1, none⟩ (.slice a zs.length c)).setCell ⟨w.heap.size + 1, 0, none⟩ (.bool G')).setCell ⟨w.heap.size + 1, 1, none⟩ (.slice a' ys.length c') ∨
      W' = (((W.setCell ⟨w.heap.size + 1, 0, none⟩ (.bool G')).setCell ⟨w.heap.size + 1, 1, none⟩ (.slice a' ys.length c')).setCell ⟨w.heap.size, 0, none⟩ (.bool G)).setCell ⟨w.heap.size, 1, none⟩ (.slice a zs.length c)) :
    TwoOut w P (.returned (.tuple #[.agg #[.bool G, .slice a zs.length c], .agg #[.bool G', .slice a' ys.length c']])) W' := by
  have k1 : ∀ m j, m ≤ w.heap.size + 1 → ∀ b o, a = some ⟨b, o, none⟩ → zs ≠ [] → b ≠ (⟨m, j, none⟩ : Addr).block := by
    intro m j hm b o e1 hne
    have := (h1.off b o e1 hne).2
    simp
    omega
  have k2 : ∀ m j, m ≤ w.heap.size + 1 → ∀ b o, a' = some ⟨b, o, none⟩ → ys ≠ [] → b ≠ (⟨m, j, none⟩ : Addr).block := by
    intro m j hm b o e1 hne
    have := (h2.off b o e1 hne).2
    simp
    omega
  refine ⟨G, a, c, zs, G', a', c', ys, rfl, hn, hn', hu, hu', ⟨h1.sl.fits, h1.sl.nil, ?_⟩, ⟨h2.sl.fits, h2.sl.nil, ?_⟩, ⟨far_of h1.sl.row fun b o e1 hne => by have := (h1.off b o e1 hne).2; omega, far_of h2.sl.row fun b o e1 hne => by have := (h2.off b o e1 hne).2; omega⟩, ?_⟩
  · rcases hW with rfl | rfl
    · exact (((h1.sl.row.setAway (k1 _ _ (by omega)) _).setAway (k1 _ _ (by omega)) _).setAway (k1 _ _ (by omega)) _).setAway (k1 _ _ (by omega)) _
    · exact (((h1.sl.row.setAway (k1 _ _ (by omega)) _).setAway (k1 _ _ (by omega)) _).setAway (k1 _ _ (by omega)) _).setAway (k1 _ _ (by omega)) _
  · rcases hW with rfl | rfl
    · exact (((h2.sl.row.setAway (k2 _ _ (by omega)) _).setAway (k2 _ _ (by omega)) _).setAway (k2 _ _ (by omega)) _).setAway (k2 _ _ (by omega)) _
    · exact (((h2.sl.row.setAway (k2 _ _ (by omega)) _).setAway (k2 _ _ (by omega)) _).setAway (k2 _ _ (by omega)) _).setAway (k2 _ _ (by omega)) _
  · rcases hW with rfl | rfl
    · exact (((h1.asd.setHigh (by simp) _).setHigh (by simp) _).setHigh (by simp) _).setHigh (by simp) _
    · exact (((h1.asd.setHigh (by simp) _).setHigh (by simp) _).setHigh (by simp) _).setHigh (by simp) _

theorem TwoOut.drew {w W : World} {P : Nat} {e : Ending} (h : TwoOut w P e W) : TwoOut w P e W.drew := by
  obtain ⟨G, a, c, zs, G', a', c', ys, he, h1, h2, h3, h4, h5, h6, hf, h7⟩ := h
  exact ⟨G, a, c, zs, G', a', c', ys, he, h1, h2, h3, h4, h5.later (Below.refl _ _).drew, h6.later (Below.refl _ _).drew, hf, h7.trans (Aside.of (Below.refl _ _).drew)⟩

end Go.Proofs.Ytlbegmepmeimkab
