/-
  The model's DecodeScene.
-/
import Derived.Test.YtcjdnomhnlbmbaaSpD2
import Derived.Test.YtcjdnomhnlbmbaaLawDs
import Derived.Deep.AppendLies
import Derived.Deep.RegionLaw
namespace Go.Proofs.Ytcjdnomhnlbmbaa
open Go.RowKit

/-- The scene that is being filled, at block X. -/
structure DecS (V0 : World) (X : Nat) (v0 v1 v2 : Value) (wr : World) : Prop where
  bel : Below X V0 wr
  lt : X < wr.heap.size
  c0 : wr.cell? ⟨X, 0, none⟩ = some v0
  c1 : wr.cell? ⟨X, 1, none⟩ = some v1
  c2 : wr.cell? ⟨X, 2, none⟩ = some v2
  fr : ∀ j, wr.frozen? ⟨X, j, none⟩ = false
theorem DecS.mid {V0 wr w' : World} {X : Nat} {v0 v1 v2 : Value} (h : DecS V0 X v0 v1 v2 wr) (hb : Below (X + 1) wr w') : DecS V0 X v0 v1 v2 w' :=
  ⟨h.bel.trans (hb.mono (Nat.le_succ _)), Nat.lt_of_lt_of_le h.lt hb.size, (hb.cell (p := ⟨X, 0, none⟩) (by simp)).trans h.c0, (hb.cell (p := ⟨X, 1, none⟩) (by simp)).trans h.c1, (hb.cell (p := ⟨X, 2, none⟩) (by simp)).trans h.c2, fun j => (hb.frozen (p := ⟨X, j, none⟩) (by simp)).trans (h.fr j)⟩

theorem pointAt6_i (a : Option Addr) (c : Nat) (bs : List Int) (q : Int) (p : Nat) (w : World) (hq : q = p) (hl : bs.length ≤ 1048576) (hp : p ≤ 9000000) (hu : U8 bs) (hz : RowAt .u8 w a bs) :
    Calls Try.prog 67 #[.slice a bs.length c, .int .i64 q] w fun e w' => e = .returned (.agg #[.int .u32 (fltB bs p), .int .u32 (fltB bs (p + 4)), .int .u32 (fltB bs (p + 8))]) ∧ Below w.heap.size w w' := by
  subst hq
  exact pointAt6_any a c bs p w hl hp hu hz

theorem nums_succ (bs : List Int) (p k : Nat) : numsB bs p (k + 1) = numsB bs p k ++ [fltB bs (p + 4 * k)] := by
  unfold numsB
  rw [List.range_succ, List.map_append]
  rfl

theorem DecS.set0 {V0 wr : World} {X : Nat} {v0 v1 v2 : Value} (h : DecS V0 X v0 v1 v2 wr) (v : Value) : DecS V0 X v v1 v2 (wr.setCell ⟨X, 0, none⟩ v) :=
  ⟨h.bel.setCell (p := ⟨X, 0, none⟩) (Nat.le_refl _) v, by simpa using h.lt, World.cell?_setCell_same _ _ _ h.c0, by rw [World.cell?_setCell_other _ _ _ _ (by simp)]; exact h.c1, by rw [World.cell?_setCell_other _ _ _ _ (by simp)]; exact h.c2, fun j => by rw [World.frozen?_setCell]; exact h.fr j⟩

theorem own_low {w : World} {base : Nat} {e : TypeId} {k n : Nat} {v : Value} {xs : List Value} (h : w.ownsRow base e k v n xs) {p : Addr} (hp : p.block < base) (u : Value) : (w.setCell p u).ownsRow base e k v n xs := by
  refine ⟨h.1, ?_⟩
  rcases h.2 with h1 | ⟨g, cap, cur, h1, h2, h3, h4⟩
  · exact .inl h1
  · exact .inr ⟨g, cap, cur, h1, h2, (Below.heap_setCell _ _ _ _ (by omega)).trans h3, h4⟩

theorem DecS.set1 {V0 wr : World} {X : Nat} {v0 v1 v2 : Value} (h : DecS V0 X v0 v1 v2 wr) (v : Value) : DecS V0 X v0 v v2 (wr.setCell ⟨X, 1, none⟩ v) :=
  ⟨h.bel.setCell (p := ⟨X, 1, none⟩) (Nat.le_refl _) v, by simpa using h.lt, by rw [World.cell?_setCell_other _ _ _ _ (by simp)]; exact h.c0, World.cell?_setCell_same _ _ _ h.c1, by rw [World.cell?_setCell_other _ _ _ _ (by simp)]; exact h.c2, fun j => by rw [World.frozen?_setCell]; exact h.fr j⟩
theorem DecS.set2 {V0 wr : World} {X : Nat} {v0 v1 v2 : Value} (h : DecS V0 X v0 v1 v2 wr) (v : Value) : DecS V0 X v0 v1 v (wr.setCell ⟨X, 2, none⟩ v) :=
  ⟨h.bel.setCell (p := ⟨X, 2, none⟩) (Nat.le_refl _) v, by simpa using h.lt, by rw [World.cell?_setCell_other _ _ _ _ (by simp)]; exact h.c0, by rw [World.cell?_setCell_other _ _ _ _ (by simp)]; exact h.c1, World.cell?_setCell_same _ _ _ h.c2, fun j => by rw [World.frozen?_setCell]; exact h.fr j⟩

theorem ownk_later {w w' : World} {base k : Nat} {e : TypeId} {v : Value} {n : Nat} {xs : List Value} (h : w.ownsRow base e k v n xs) (hb : Below w.heap.size w w') : w'.ownsRow base e k v n xs := by
  refine ⟨h.1, ?_⟩
  rcases h.2 with h1 | ⟨g, cap, cur, h1, h2, h3, h4⟩
  · exact .inl h1
  · have hg : g < w.heap.size := by
      by_cases hp : g < w.heap.size
      · exact hp
      · rw [Array.getElem?_eq_none (by omega)] at h3; cases h3
    exact .inr ⟨g, cap, cur, h1, h2, (hb.block g hg).trans h3, h4⟩

/-- What the call owns, as a row of numbers of k cells each. -/
theorem own_flat {w : World} {base k : Nat} {e : TypeId} {v : Value} {n : Nat} {zs : List Int} (h : w.ownsRow base e k v n (vals .u32 zs)) (hl : zs.length = n * k) : ∃ a c, v = .slice a n c ∧ RowIn .u32 w base w.heap.size a zs := by
  rcases h.2 with ⟨h1, h2⟩ | ⟨g, cap, cur, h1, h2, h3, h4, h5, h6, h7⟩
  · subst h2
    exact ⟨none, 0, h1, .inl (List.length_eq_zero_iff.1 (by omega))⟩
  · have hg : g < w.heap.size := by
      by_cases hp : g < w.heap.size
      · exact hp
      · rw [Array.getElem?_eq_none (by omega)] at h3; cases h3
    refine ⟨some ⟨g, 0, none⟩, cap, h1, .inr ⟨g, 0, rfl, h2, hg, hg, fun j hj => ?_, fun j hj => by simp [World.frozen?, h3]⟩⟩
    have : (cur.toList.take (n * k))[j]? = (vals .u32 zs)[j]? := by rw [h7]
    rw [List.getElem?_take, if_pos (by omega)] at this
    simp only [World.cell?, h3]
    simp [vals, hj] at this
    simp [this, List.getD_eq_getElem?_getD, hj]

theorem RowIn.keepX {w uu : World} {lo hi base X : Nat} {a : Option Addr} {zs : List Int} (h : RowIn .u32 w lo hi a zs) (hb : Below base w uu) (hhi : hi ≤ base) (hlo : X < lo) (j : Nat) (v : Value) : RowIn .u32 (uu.setCell ⟨X, j, none⟩ v) lo hi a zs := by
  have h1 : RowIn .u32 uu lo hi a zs := by
    rcases h with h | ⟨b, off, q1, q0, q00, q2, q3, q4⟩
    · exact .inl h
    · exact .inr ⟨b, off, q1, q0, q00, Nat.lt_of_lt_of_le q2 hb.size, fun j hj => (hb.cell (p := ⟨b, off + j, none⟩) (by simp; omega)).trans (q3 j hj), fun j hj => (hb.frozen (p := ⟨b, off + j, none⟩) (by simp; omega)).trans (q4 j hj)⟩
  exact h1.apart (within_set _ _ _) (.inr (by simp; omega))

theorem ScDj.lowS {w : World} {lo hi : Nat} {a1 a2 a3 : Option Addr} {n1 n2 n3 : Nat} {z1 z2 z3 : List Int} {l1 h1 l2 h2 l3 h3 : Nat} (h : ScDj w lo hi a1 a2 a3 n1 n2 n3 z1 z2 z3 l1 h1 l2 h2 l3 h3) {p : Addr} {X : Nat} (hp : p.block < X) (v : Value) (hx : X < l1 ∧ X < l2 ∧ X < l3) : ScDj (w.setCell p v) lo hi a1 a2 a3 n1 n2 n3 z1 z2 z3 l1 h1 l2 h2 l3 h3 :=
  ⟨h.e1, h.e2, h.e3, h.i1, h.i2, h.i3, h.d12, h.d13, h.d23, by simpa using h.top, h.r1.apart (within_set _ _ _) (.inr (by omega)), h.r2.apart (within_set _ _ _) (.inr (by omega)), h.r3.apart (within_set _ _ _) (.inr (by omega))⟩

theorem step9 {ops : Array Oper} {o : Oper} {ac : Act} {K : Act → World → Prop} {Q : Exit → Act → World → Prop} {E : Prop} (hgd : o.guard = none) (s x : Operand)
    (ho : o.op = .call { callee := .builtin .append, args := #[s, x], argTypes := #[47, 47] })
    (base : Nat) (v : Value) (n : Nat) (zs : List Int) (x0 x1 x2 x3 x4 x5 x6 x7 x8 : Int) (w0 : World) (hs : ac.eval s = v) (hx : ac.eval x = .slice (some ⟨w0.heap.size, 0, none⟩) 1 1) (hown : w0.ownsRow base 99 9 v n (vals .u32 zs)) (hn : n ≤ 100000) (hbase : base ≤ w0.heap.size)
    (h : ∀ g cap w', w'.ownsRow base 99 9 (.slice (some ⟨g, 0, none⟩) (n + 1) cap) (n + 1) (vals .u32 (zs ++ [x0, x1, x2, x3, x4, x5, x6, x7, x8])) → Below base w0 w' → K (ac.put o.dst (.slice (some ⟨g, 0, none⟩) (n + 1) cap)) w') :
    if Region.wanted o (yielded ops ac.tmps) = true then Oper.wp Try.prog o ac (w0.alloc (.cells #[.int .u32 x0, .int .u32 x1, .int .u32 x2, .int .u32 x3, .int .u32 x4, .int .u32 x5, .int .u32 x6, .int .u32 x7, .int .u32 x8] 99)) K Q else E := by
  obtain ⟨i0, hi, hz0, hz1, hz2⟩ := info_parts info_Tri
  refine step_append_lies (P := Try.prog) (w0.alloc (.cells #[.int .u32 x0, .int .u32 x1, .int .u32 x2, .int .u32 x3, .int .u32 x4, .int .u32 x5, .int .u32 x6, .int .u32 x7, .int .u32 x8] 99)) hgd s x 47 ho base 99 i0 _ 9 36 Try.underlying47 hi hz0 hz1 hz2 rfl (by decide) v n (vals .u32 zs) hs (hown.alloc _) ⟨w0.heap.size, 0, none⟩ 1 1 (vals .u32 [x0, x1, x2, x3, x4, x5, x6, x7, x8]) hx rfl ?_ ?_ (by decide) (by unfold maxLen; omega) (by omega) (by simp; omega) _ rfl ?_
  · exact World.news_of_block (cs := #[.int .u32 x0, .int .u32 x1, .int .u32 x2, .int .u32 x3, .int .u32 x4, .int .u32 x5, .int .u32 x6, .int .u32 x7, .int .u32 x8]) (by first | exact heap_alloc_new _ _ | exact Go.heap_alloc_new _ _)
  · intro u hu
    simp [vals] at hu
    rcases hu with rfl | rfl | rfl | rfl | rfl | rfl | rfl | rfl | rfl <;> rfl
  · intro g cap w' hown' hgrow _ _
    refine h g cap w' ?_ ?_
    · simpa [vals] using hown'
    · refine ((bel0 w0 _).mono hbase |>.grown hgrow (by simp; omega) ?_)
      intro k hk
      rcases hown.2 with ⟨h1, _⟩ | ⟨g0, cap0, cur, h1, h2, _⟩
      · rw [h1] at hk; simp [Value.ownBlock] at hk
      · rw [h1] at hk; simp [Value.ownBlock] at hk; omega

theorem step6 {ops : Array Oper} {o : Oper} {ac : Act} {K : Act → World → Prop} {Q : Exit → Act → World → Prop} {E : Prop} (hgd : o.guard = none) (s x : Operand)
    (ho : o.op = .call { callee := .builtin .append, args := #[s, x], argTypes := #[48, 48] })
    (base : Nat) (v : Value) (n : Nat) (zs : List Int) (x0 x1 x2 x3 x4 x5 : Int) (w0 : World) (hs : ac.eval s = v) (hx : ac.eval x = .slice (some ⟨w0.heap.size, 0, none⟩) 1 1) (hown : w0.ownsRow base 86 6 v n (vals .u32 zs)) (hn : n ≤ 100000) (hbase : base ≤ w0.heap.size)
    (h : ∀ g cap w', w'.ownsRow base 86 6 (.slice (some ⟨g, 0, none⟩) (n + 1) cap) (n + 1) (vals .u32 (zs ++ [x0, x1, x2, x3, x4, x5])) → Below base w0 w' → K (ac.put o.dst (.slice (some ⟨g, 0, none⟩) (n + 1) cap)) w') :
    if Region.wanted o (yielded ops ac.tmps) = true then Oper.wp Try.prog o ac (w0.alloc (.cells #[.int .u32 x0, .int .u32 x1, .int .u32 x2, .int .u32 x3, .int .u32 x4, .int .u32 x5] 86)) K Q else E := by
  obtain ⟨i0, hi, hz0, hz1, hz2⟩ := info_parts info_Ray
  refine step_append_lies (P := Try.prog) (w0.alloc (.cells #[.int .u32 x0, .int .u32 x1, .int .u32 x2, .int .u32 x3, .int .u32 x4, .int .u32 x5] 86)) hgd s x 48 ho base 86 i0 _ 6 24 Try.underlying48 hi hz0 hz1 hz2 rfl (by decide) v n (vals .u32 zs) hs (hown.alloc _) ⟨w0.heap.size, 0, none⟩ 1 1 (vals .u32 [x0, x1, x2, x3, x4, x5]) hx rfl ?_ ?_ (by decide) (by unfold maxLen; omega) (by omega) (by simp; omega) _ rfl ?_
  · exact World.news_of_block (cs := #[.int .u32 x0, .int .u32 x1, .int .u32 x2, .int .u32 x3, .int .u32 x4, .int .u32 x5]) (by first | exact heap_alloc_new _ _ | exact Go.heap_alloc_new _ _)
  · intro u hu
    simp [vals] at hu
    rcases hu with rfl | rfl | rfl | rfl | rfl | rfl <;> rfl
  · intro g cap w' hown' hgrow _ _
    refine h g cap w' ?_ ?_
    · simpa [vals] using hown'
    · refine ((bel0 w0 _).mono hbase |>.grown hgrow (by simp; omega) ?_)
      intro k hk
      rcases hown.2 with ⟨h1, _⟩ | ⟨g0, cap0, cur, h1, h2, _⟩
      · rw [h1] at hk; simp [Value.ownBlock] at hk
      · rw [h1] at hk; simp [Value.ownBlock] at hk; omega

theorem step3 {ops : Array Oper} {o : Oper} {ac : Act} {K : Act → World → Prop} {Q : Exit → Act → World → Prop} {E : Prop} (hgd : o.guard = none) (s x : Operand)
    (ho : o.op = .call { callee := .builtin .append, args := #[s, x], argTypes := #[49, 49] })
    (base : Nat) (v : Value) (n : Nat) (zs : List Int) (x0 x1 x2 : Int) (w0 : World) (hs : ac.eval s = v) (hx : ac.eval x = .slice (some ⟨w0.heap.size, 0, none⟩) 1 1) (hown : w0.ownsRow base 84 3 v n (vals .u32 zs)) (hn : n ≤ 100000) (hbase : base ≤ w0.heap.size)
    (h : ∀ g cap w', w'.ownsRow base 84 3 (.slice (some ⟨g, 0, none⟩) (n + 1) cap) (n + 1) (vals .u32 (zs ++ [x0, x1, x2])) → Below base w0 w' → K (ac.put o.dst (.slice (some ⟨g, 0, none⟩) (n + 1) cap)) w') :
    if Region.wanted o (yielded ops ac.tmps) = true then Oper.wp Try.prog o ac (w0.alloc (.cells #[.int .u32 x0, .int .u32 x1, .int .u32 x2] 84)) K Q else E := by
  obtain ⟨i0, hi, hz0, hz1, hz2⟩ := info_parts info_Point
  refine step_append_lies (P := Try.prog) (w0.alloc (.cells #[.int .u32 x0, .int .u32 x1, .int .u32 x2] 84)) hgd s x 49 ho base 84 i0 _ 3 12 Try.underlying49 hi hz0 hz1 hz2 rfl (by decide) v n (vals .u32 zs) hs (hown.alloc _) ⟨w0.heap.size, 0, none⟩ 1 1 (vals .u32 [x0, x1, x2]) hx rfl ?_ ?_ (by decide) (by unfold maxLen; omega) (by omega) (by simp; omega) _ rfl ?_
  · exact World.news_of_block (cs := #[.int .u32 x0, .int .u32 x1, .int .u32 x2]) (by first | exact heap_alloc_new _ _ | exact Go.heap_alloc_new _ _)
  · intro u hu
    simp [vals] at hu
    rcases hu with rfl | rfl | rfl <;> rfl
  · intro g cap w' hown' hgrow _ _
    refine h g cap w' ?_ ?_
    · simpa [vals] using hown'
    · refine ((bel0 w0 _).mono hbase |>.grown hgrow (by simp; omega) ?_)
      intro k hk
      rcases hown.2 with ⟨h1, _⟩ | ⟨g0, cap0, cur, h1, h2, _⟩
      · rw [h1] at hk; simp [Value.ownBlock] at hk
      · rw [h1] at hk; simp [Value.ownBlock] at hk; omega

theorem fault_zero {bs : List Int} (h : (faultF bs).1 = 0) : (faultF bs).2 = 0 := by
  unfold faultF at h ⊢
  cases hm : firstF (magicAt bs) 4 with
  | some x =>
    rw [hm] at h
    exfalso
    have key : ∀ n, firstF (magicAt bs) n = some x → x.1 = 5 ∨ x.1 = 4 := by
      intro n
      induction n with
      | zero => intro h; cases h
      | succ n ih =>
        intro h
        unfold firstF at h
        cases hq : firstF (magicAt bs) n with
        | some y => rw [hq] at h; simp at h; subst h; exact ih hq
        | none =>
          rw [hq] at h
          simp only at h
          unfold magicAt at h
          split at h
          · simp at h; subst h; exact .inl rfl
          · split at h
            · cases h
            · simp at h; subst h; exact .inr rfl
    have h' : x.1 = 0 := h
    rcases key 4 hm with h5 | h5 <;> rw [h5] at h' <;> cases h'
  | none =>
    rw [hm] at h
    have h1 : (countsF bs).1 = 0 := h
    show (countsF bs).2 = 0
    unfold countsF at h1 ⊢
    cases hc : firstF (cntAt bs) 3 with
    | some x =>
      rw [hc] at h1
      exfalso
      have key : ∀ n, firstF (cntAt bs) n = some x → x.1 = 5 ∨ x.1 = 2 := by
        intro n
        induction n with
        | zero => intro h; cases h
        | succ n ih =>
          intro h
          unfold firstF at h
          cases hq : firstF (cntAt bs) n with
          | some y => rw [hq] at h; simp at h; subst h; exact ih hq
          | none =>
            rw [hq] at h
            simp only at h
            unfold cntAt at h
            split at h
            · simp at h; subst h; exact .inl rfl
            · split at h
              · simp at h; subst h; exact .inr rfl
              · cases h
      have h' : x.1 = 0 := h1
      rcases key 3 hc with h5 | h5 <;> rw [h5] at h' <;> cases h'
    | none =>
      rw [hc] at h1
      obtain ⟨c0, e0⟩ : ∃ c, c = (cntB bs 0).toNat := ⟨_, rfl⟩
      obtain ⟨c1, e1⟩ : ∃ c, c = (cntB bs 1).toNat := ⟨_, rfl⟩
      obtain ⟨c2, e2⟩ : ∃ c, c = (cntB bs 2).toNat := ⟨_, rfl⟩
      rw [← e0, ← e1, ← e2] at h1
      show (tailF bs (cntB bs 0).toNat (cntB bs 1).toNat (cntB bs 2).toNat).2 = 0
      rw [← e0, ← e1, ← e2]
      have h2 : (tailF bs c0 c1 c2).1 = 0 := h1
      unfold tailF at h2 ⊢
      cases hf : firstF (fltAt bs c0 c1) (fltN c0 c1 c2) with
      | some x =>
        rw [hf] at h2
        exfalso
        have key : ∀ n, firstF (fltAt bs c0 c1) n = some x → x.1 = 5 ∨ x.1 = 6 ∨ x.1 = 7 := by
          intro n
          induction n with
          | zero => intro h; cases h
          | succ n ih =>
            intro h
            unfold firstF at h
            cases hq : firstF (fltAt bs c0 c1) n with
            | some y => rw [hq] at h; simp at h; subst h; exact ih hq
            | none =>
              rw [hq] at h
              simp only at h
              unfold fltAt at h
              split at h
              · simp at h; subst h; exact .inl rfl
              · split at h
                · simp at h; subst h; exact .inr (.inl rfl)
                · split at h
                  · simp at h; subst h; exact .inr (.inr rfl)
                  · cases h
        have h' : x.1 = 0 := h2
        rcases key _ hf with h5 | h5 | h5 <;> rw [h5] at h' <;> cases h'
      | none =>
        rw [hf] at h2
        by_cases hl : 9 + 4 * fltN c0 c1 c2 < bs.length
        · simp only [if_pos hl] at h2
          cases h2
        · simp only [if_neg hl]

theorem fault_counts {bs : List Int} (h : (faultF bs).1 = 0) : firstF (cntAt bs) 3 = none := by
  have hm : firstF (magicAt bs) 4 = none := by
    cases hf : firstF (magicAt bs) 4 with
    | none => rfl
    | some x =>
      rw [faultF_magic hf] at h
      exfalso
      have key : ∀ n, firstF (magicAt bs) n = some x → x.1 = 5 ∨ x.1 = 4 := by
        intro n
        induction n with
        | zero => intro h; cases h
        | succ n ih =>
          intro h
          unfold firstF at h
          cases hq : firstF (magicAt bs) n with
          | some y => rw [hq] at h; simp at h; subst h; exact ih hq
          | none =>
            rw [hq] at h
            simp only at h
            unfold magicAt at h
            split at h
            · simp at h; subst h; exact .inl rfl
            · split at h
              · cases h
              · simp at h; subst h; exact .inr rfl
      rcases key 4 hf with h5 | h5 <;> rw [h5] at h <;> cases h
  cases hf : firstF (cntAt bs) 3 with
  | none => rfl
  | some x =>
    rw [faultF_counts hm hf] at h
    exfalso
    have key : ∀ n, firstF (cntAt bs) n = some x → x.1 = 5 ∨ x.1 = 2 := by
      intro n
      induction n with
      | zero => intro h; cases h
      | succ n ih =>
        intro h
        unfold firstF at h
        cases hq : firstF (cntAt bs) n with
        | some y => rw [hq] at h; simp at h; subst h; exact ih hq
        | none =>
          rw [hq] at h
          simp only at h
          unfold cntAt at h
          split at h
          · simp at h; subst h; exact .inl rfl
          · split at h
            · simp at h; subst h; exact .inr rfl
            · cases h
    rcases key 3 hf with h5 | h5 <;> rw [h5] at h <;> cases h

set_option maxRecDepth 100000 in
set_option maxHeartbeats 16000000 in
theorem decS_any (a : Option Addr) (c : Nat) (bs : List Int) (w : World) (hl : bs.length ≤ 1048576) (hu : U8 bs) (hz : RowAt .u8 w a bs) :
    Calls Try.prog 26 #[.slice a bs.length c] w fun e w' => DecOut w bs e w' := by
  have HZ : Hid (RowAt .u8 w a bs) := hz
  have HU : Hid (U8 bs) := hu
  clear hz hu
  go_enter Try.func26, Try.ntmps26
  go_wp2_with fail
  refine (fault6_any a c bs _ hl HU.out (HZ.out.later (bel0 _ _))).mono ?_
  rintro e W1 ⟨rfl, hb1⟩
  have r0 : W1.cell? ⟨w.heap.size, 0, none⟩ = some (.slice none 0 0) := by rw [(bcell hb1).1 _ _ (by simp)]; simp [go_sem]
  have r1 : W1.cell? ⟨w.heap.size, 1, none⟩ = some (.slice none 0 0) := by rw [(bcell hb1).1 _ _ (by simp)]; simp [go_sem]
  have r2 : W1.cell? ⟨w.heap.size, 2, none⟩ = some (.slice none 0 0) := by rw [(bcell hb1).1 _ _ (by simp)]; simp [go_sem]
  have r3 : ∀ j, W1.frozen? ⟨w.heap.size, j, none⟩ = false := by intro j; rw [(bcell hb1).2 _ _ (by simp)]; simp [go_sem]
  have B1 : Hid (Below w.heap.size w W1) := (bel0 _ _).trans (hb1.mono (by simp))
  have S1 : w.heap.size < W1.heap.size := by have := hb1.size; simp at this; omega
  clear hb1
  by_cases hk : (faultF bs).1 = 0
  · have hc := fault_counts hk
    obtain ⟨C0, e0⟩ : ∃ C0 : Nat, cntB bs 0 = C0 := ⟨(cntB bs 0).toNat, by have := (cnt_ok hc 0 (by decide)).1; omega⟩
    obtain ⟨C1, e1⟩ : ∃ C1 : Nat, cntB bs 1 = C1 := ⟨(cntB bs 1).toNat, by have := (cnt_ok hc 1 (by decide)).1; omega⟩
    obtain ⟨C2, e2⟩ : ∃ C2 : Nat, cntB bs 2 = C2 := ⟨(cntB bs 2).toNat, by have := (cnt_ok hc 2 (by decide)).1; omega⟩
    have b0 : C0 ≤ 40 := by have := (cnt_ok hc 0 (by decide)).2; rw [show cntMo 0 = 40 from rfl] at this; omega
    have b1 : C1 ≤ 40 := by have := (cnt_ok hc 1 (by decide)).2; rw [show cntMo 1 = 40 from rfl] at this; omega
    have b2 : C2 ≤ 4 := by have := (cnt_ok hc 2 (by decide)).2; rw [show cntMo 2 = 4 from rfl] at this; omega
    have HD : Hid (decN bs 0 = C0 ∧ decN bs 1 = C1 ∧ decN bs 2 = C2) := by unfold Hid decN; rw [if_pos hk, if_pos hk, if_pos hk, e0, e1, e2]; exact ⟨rfl, rfl, rfl⟩
    have HK : Hid ((faultF bs).1 = 0) := hk
    have q0 : numB bs 4 2 = C0 := e0
    have q1 : numB bs 6 2 = C1 := e1
    have q2 : numB bs 8 1 = C2 := e2
    have HQ : Hid (numB bs 4 2 = C0 ∧ numB bs 6 2 = C1 ∧ numB bs 8 1 = C2) := ⟨q0, q1, q2⟩
    have HJ : Hid (∃ J, (faultF bs).2 = J) := ⟨_, rfl⟩
    obtain ⟨J, hJ⟩ : ∃ J, J = (faultF bs).2 := ⟨_, rfl⟩
    rw [hk, ← hJ]
    obtain ⟨X, hX⟩ : ∃ X, X = W1.heap.size := ⟨_, rfl⟩
    obtain ⟨V0, hV0⟩ : ∃ V0, V0 = W1.alloc (.cells #[.slice none 0 0, .slice none 0 0, .slice none 0 0] 51) := ⟨_, rfl⟩
    have D0 : Hid (DecS V0 X (.slice none 0 0) (.slice none 0 0) (.slice none 0 0) V0) := by
      unfold Hid
      rw [hV0, hX]
      exact ⟨Below.refl _ _, by simp, by simp [go_sem], by simp [go_sem], by simp [go_sem], fun j => by simp [go_sem]⟩
    have BV : Hid (Below w.heap.size w V0) := by unfold Hid; rw [hV0]; exact B1.out.trans ((bel0 _ _).mono (Nat.le_of_lt S1))
    clear hc e0 e1 e2 q0 q1 q2 hk
    go_wp2_with fail
    rw [← hV0, ← hX]
    have HV0 : Hid (V0 = W1.alloc (.cells #[.slice none 0 0, .slice none 0 0, .slice none 0 0] 51)) := hV0
    have HX : Hid (X = W1.heap.size) := hX
    clear hV0 hX
    refine (num6_any a c bs 4 2 _ hl (by decide) (by decide) HU.out (HZ.out.later BV.out)).mono ?_
    rintro e w2 ⟨rfl, rfl⟩
    rw [HQ.out.1]
    go_wp2_with fail
    refine (num6_any a c bs 6 2 _ hl (by decide) (by decide) HU.out (HZ.out.later BV.out)).mono ?_
    rintro e w3 ⟨rfl, rfl⟩
    rw [HQ.out.2.1]
    go_wp2_with fail
    refine (num6_any a c bs 8 1 _ hl (by decide) (by decide) HU.out (HZ.out.later BV.out)).mono ?_
    rintro e w4 ⟨rfl, rfl⟩
    rw [HQ.out.2.2]
    have HSX : Hid (w.heap.size < X) := by unfold Hid; rw [HX.out]; exact S1
    have R0 : Hid (w4.cell? ⟨w.heap.size, 0, none⟩ = some (.slice none 0 0) ∧ w4.cell? ⟨w.heap.size, 1, none⟩ = some (.slice none 0 0) ∧ w4.cell? ⟨w.heap.size, 2, none⟩ = some (.slice none 0 0) ∧ ∀ j, w4.frozen? ⟨w.heap.size, j, none⟩ = false) := by
      have hb := bcell (bel0 W1 (.cells #[.slice none 0 0, .slice none 0 0, .slice none 0 0] 51))
      rw [← HV0.out] at hb
      exact ⟨(hb.1 _ _ S1).trans r0, (hb.1 _ _ S1).trans r1, (hb.1 _ _ S1).trans r2, fun j => (hb.2 _ _ S1).trans (r3 j)⟩
    clear HV0 HX r0 r1 r2 r3 S1 B1 HQ HJ
    go_wp2
    go_loopw [11, 12] (fun sa si wr => ∃ (i P : Nat) (vT : Value), i ≤ C0 ∧ si = .int .i64 i ∧ sa = .int .i64 P ∧ Hid (P = 9 + 36 * i) ∧ Hid (DecS w4 X vT (.slice none 0 0) (.slice none 0 0) wr) ∧ Hid (wr.ownsRow (X + 1) 99 9 vT i (vals .u32 (numsB bs (9) (i * 9)))) ∧ Hid (X + 1 ≤ X + 1 ∧ X + 1 ≤ wr.heap.size)) (fun _ si _ => C0 - (intOf si).toNat)
    case atStart => exact ⟨0, 9, _, Nat.zero_le _, rfl, rfl, rfl, D0, by unfold Hid; simpa [numsB, vals] using World.ownsRow_nil w4 (X + 1) 99 9, ⟨Nat.le_refl _, D0.out.lt⟩⟩
    case round =>
      obtain ⟨i, P, vT, hi, rfl, rfl, hP, hD, hO, HBX⟩ := hrel
      have c0 := hD.out.c0
      have HZR : Hid (RowAt .u8 wr a bs) := HZ.out.later (BV.out.trans (hD.out.bel.mono (Nat.le_of_lt HSX.out)))
      by_cases hlt : i < C0
      · have hib : (i : Int) < C0 := by omega
        obtain ⟨P1, hP1⟩ : ∃ P1, P1 = P + 12 := ⟨_, rfl⟩
        obtain ⟨P2, hP2⟩ : ∃ P2, P2 = P + 24 := ⟨_, rfl⟩
        have hp1 : (P : Int) + 12 = P1 := by omega
        have hp2 : (P : Int) + 24 = P2 := by omega
        have hpb : P ≤ 100000 ∧ P1 ≤ 100000 ∧ P2 ≤ 100000 := by have := hP.out; omega
        have HNUM : Hid (numsB bs (9) ((i + 1) * 9) = numsB bs (9) (i * 9) ++ [fltB bs P, fltB bs (P + 4), fltB bs (P + 8), fltB bs P1, fltB bs (P1 + 4), fltB bs (P1 + 8), fltB bs P2, fltB bs (P2 + 4), fltB bs (P2 + 8)]) := by
          unfold Hid
          rw [hP1, hP2, hP.out, show (i + 1) * 9 = i * 9 + 1 + 1 + 1 + 1 + 1 + 1 + 1 + 1 + 1 by omega]
          simp only [nums_succ, List.append_assoc, List.cons_append, List.nil_append]
          congr 1
          simp only [List.cons.injEq, and_true]
          refine ⟨?_, ?_, ?_, ?_, ?_, ?_, ?_, ?_, ?_⟩ <;> (congr 1; omega)
        have hw1 : Hid (IntKind.i64.wrap (P1 : Int) = P1) := by unfold Hid; simp [IntKind.wrap, IntKind.bits, IntKind.signed]; omega
        have hw2 : Hid (IntKind.i64.wrap (P2 : Int) = P2) := by unfold Hid; simp [IntKind.wrap, IntKind.bits, IntKind.signed]; omega
        clear hP1 hP2
        go_wp2
        have HFZ : Hid (∀ w', Below (X + 1) wr w' → w'.frozen? ⟨X, 0, none⟩ = false) := fun w' hw => (hw.frozen (p := ⟨X, 0, none⟩) (by simp)).trans (hD.out.fr 0)
        have HC0 : Hid (∀ w', Below (X + 1) wr w' → w'.cell? ⟨X, 0, none⟩ = some vT) := fun w' hw => (hw.cell (p := ⟨X, 0, none⟩) (by simp)).trans hD.out.c0
        have HLX : Hid (X + 1 ≤ wr.heap.size) := hD.out.lt
        have f0 := hD.out.fr 0
        go_region_law
          (first
            | (have hBB := hB3; clear hBB; refine step9 rfl (.tmp 37) (.tmp 50) rfl (X + 1) vT i (numsB bs (9) (i * 9)) (fltB bs P) (fltB bs (P + 4)) (fltB bs (P + 8)) (fltB bs P1) (fltB bs (P1 + 4)) (fltB bs (P1 + 8)) (fltB bs P2) (fltB bs (P2 + 4)) (fltB bs (P2 + 8)) u3 (by simp [Act.eval]) (by simp [Act.eval]) (ownk_later hO.out hB3) (by omega) (Nat.le_trans HBX.out.2 hB3.size) ?_; intro gg cp uu hown4 hb4; have hB4 : Below (X + 1) wr uu := (hB3.mono HBX.out.2).trans hb4; have k4 := HC0.out _ (hB4.mono HBX.out.1); have f4 := HFZ.out _ (hB4.mono HBX.out.1))
            | (have hBB := hB2; clear hBB; go_simp; refine (pointAt6_i a c bs _ P2 _ (by first | exact hw2.out | rfl) hl (by omega) HU.out (HZR.out.later hB2)).mono ?_; rintro e u3 ⟨rfl, hb3⟩; have hB3 : Below wr.heap.size wr u3 := Below.trans hB2 (Below.mono hb3 hB2.size); have k3 := HC0.out _ (hB3.mono HLX.out); have k3a : ∀ o, (u3.alloc o).cell? ⟨X, 0, none⟩ = some vT := fun o => HC0.out _ ((Below.trans hB3 (Below.mono (bel0 _ _) hB3.size)).mono HLX.out))
            | (have hBB := hB1; clear hBB; go_simp; refine (pointAt6_i a c bs _ P1 _ (by first | exact hw1.out | rfl) hl (by omega) HU.out (HZR.out.later hB1)).mono ?_; rintro e u2 ⟨rfl, hb2⟩; have hB2 : Below wr.heap.size wr u2 := Below.trans hB1 (Below.mono hb2 hB1.size); have k2 := HC0.out _ (hB2.mono HLX.out))
            | (go_simp; refine (pointAt6_i a c bs _ P _ rfl hl (by omega) HU.out (HZR.out.later (Below.refl _ _).drew)).mono ?_; rintro e u1 ⟨rfl, hb1⟩; have hB1 : Below wr.heap.size wr u1 := (Below.refl _ _).drew.trans hb1; have k1 := HC0.out _ (hB1.mono HLX.out)))
        all_goals
          have HD4 : Hid (DecS w4 X (.slice (some ⟨gg, 0, none⟩) (i + 1) cp) (.slice none 0 0) (.slice none 0 0) (uu.setCell ⟨X, 0, none⟩ (.slice (some ⟨gg, 0, none⟩) (i + 1) cp))) := (hD.out.mid (hB4.mono HBX.out.1)).set0 _
          have HO4 : Hid ((uu.setCell ⟨X, 0, none⟩ (.slice (some ⟨gg, 0, none⟩) (i + 1) cp)).ownsRow (X + 1) 99 9 (.slice (some ⟨gg, 0, none⟩) (i + 1) cp) (i + 1) (vals .u32 (numsB bs (9) ((i + 1) * 9)))) := by
            unfold Hid
            rw [HNUM.out]
            exact own_low hown4 (p := ⟨X, 0, none⟩) (by show X < X + 1; have := HBX.out.1; omega) (.slice (some ⟨gg, 0, none⟩) (i + 1) cp)
          have HBX2 : Hid (X + 1 ≤ X + 1 ∧ X + 1 ≤ (uu.setCell ⟨X, 0, none⟩ (.slice (some ⟨gg, 0, none⟩) (i + 1) cp)).heap.size) := ⟨HBX.out.1, by simpa using Nat.le_trans HBX.out.2 hB4.size⟩
          clear hown4 hb4 hB4 hB1 hb1 k1 hB2 hb2 k2 hB3 hb3 k3 k3a k4 f4
          go_wp2
          go_roundw
          case rel => exact ⟨i + 1, P + 36, _, by omega, by go_num, by go_num, by unfold Hid; have := hP.out; omega, HD4, HO4, HBX2⟩
          case measure => simp [intOf]; omega
      · have hie : C0 = i := by omega
        subst hie
        obtain ⟨aT, cT, rfl, hrT⟩ := own_flat hO.out (by rw [numsB_length])
        obtain ⟨W5, hW5⟩ : ∃ W5, W5 = wr := ⟨_, rfl⟩
        subst hW5
        have DT : Hid (DecS w4 X (.slice aT C0 cT) (.slice none 0 0) (.slice none 0 0) W5) := hD
        have RT : Hid (RowIn .u32 W5 (X + 1) W5.heap.size aT (numsB bs 9 (C0 * 9))) := hrT
        have HP0 : Hid (P = 9 + 36 * C0) := hP
        have HB12 : Hid (X + 1 ≤ W5.heap.size) := HBX.out.2
        clear hD hO hrT hP c0 HZR HBX
        go_wp2
        go_loopw [11, 13] (fun sa si wr => ∃ (i P : Nat) (vT : Value), i ≤ C1 ∧ si = .int .i64 i ∧ sa = .int .i64 P ∧ Hid (P = 9 + 36 * C0 + 24 * i) ∧ Hid (DecS w4 X (.slice aT C0 cT) vT (.slice none 0 0) wr) ∧ Hid (wr.ownsRow (W5.heap.size) 86 6 vT i (vals .u32 (numsB bs (9 + 36 * C0) (i * 6)))) ∧ Hid (X + 1 ≤ W5.heap.size ∧ W5.heap.size ≤ wr.heap.size) ∧ Hid (RowIn .u32 wr (X + 1) W5.heap.size aT (numsB bs 9 (C0 * 9)))) (fun _ si _ => C1 - (intOf si).toNat)
        case atStart => exact ⟨0, P, _, Nat.zero_le _, rfl, rfl, by unfold Hid; have := HP0.out; omega, DT, by unfold Hid; simpa [numsB, vals] using World.ownsRow_nil W5 W5.heap.size 86 6, ⟨HB12.out, Nat.le_refl _⟩, RT⟩
        case round =>
          obtain ⟨i, P, vT, hi, rfl, rfl, hP, hD, hO, HBX, hRT⟩ := hrel
          have c0 := hD.out.c1
          have HZR : Hid (RowAt .u8 wr a bs) := HZ.out.later (BV.out.trans (hD.out.bel.mono (Nat.le_of_lt HSX.out)))
          by_cases hlt : i < C1
          · have hib : (i : Int) < C1 := by omega
            obtain ⟨P1, hP1⟩ : ∃ P1, P1 = P + 12 := ⟨_, rfl⟩
            obtain ⟨P2, hP2⟩ : ∃ P2, P2 = P + 24 := ⟨_, rfl⟩
            have hp1 : (P : Int) + 12 = P1 := by omega
            have hp2 : (P : Int) + 24 = P2 := by omega
            have hpb : P ≤ 100000 ∧ P1 ≤ 100000 ∧ P2 ≤ 100000 := by have := hP.out; omega
            have HNUM : Hid (numsB bs (9 + 36 * C0) ((i + 1) * 6) = numsB bs (9 + 36 * C0) (i * 6) ++ [fltB bs P, fltB bs (P + 4), fltB bs (P + 8), fltB bs P1, fltB bs (P1 + 4), fltB bs (P1 + 8)]) := by
              unfold Hid
              rw [hP1, hP.out, show (i + 1) * 6 = i * 6 + 1 + 1 + 1 + 1 + 1 + 1 by omega]
              simp only [nums_succ, List.append_assoc, List.cons_append, List.nil_append]
              congr 1
              simp only [List.cons.injEq, and_true]
              refine ⟨?_, ?_, ?_, ?_, ?_, ?_⟩ <;> (congr 1; omega)
            have hw1 : Hid (IntKind.i64.wrap (P1 : Int) = P1) := by unfold Hid; simp [IntKind.wrap, IntKind.bits, IntKind.signed]; omega
            have hw2 : Hid (IntKind.i64.wrap (P2 : Int) = P2) := by unfold Hid; simp [IntKind.wrap, IntKind.bits, IntKind.signed]; omega
            clear hP1 hP2
            go_wp2
            have HFZ : Hid (∀ w', Below (X + 1) wr w' → w'.frozen? ⟨X, 1, none⟩ = false) := fun w' hw => (hw.frozen (p := ⟨X, 1, none⟩) (by simp)).trans (hD.out.fr 1)
            have HC0 : Hid (∀ w', Below (X + 1) wr w' → w'.cell? ⟨X, 1, none⟩ = some vT) := fun w' hw => (hw.cell (p := ⟨X, 1, none⟩) (by simp)).trans hD.out.c1
            have HLX : Hid (X + 1 ≤ wr.heap.size) := hD.out.lt
            have f0 := hD.out.fr 1
            go_region_law
              (first
                | (have hBB := hB2; clear hBB; refine step6 rfl (.tmp 61) (.tmp 70) rfl (W5.heap.size) vT i (numsB bs (9 + 36 * C0) (i * 6)) (fltB bs P) (fltB bs (P + 4)) (fltB bs (P + 8)) (fltB bs P1) (fltB bs (P1 + 4)) (fltB bs (P1 + 8)) u2 (by simp [Act.eval]) (by simp [Act.eval]) (ownk_later hO.out hB2) (by omega) (Nat.le_trans HBX.out.2 hB2.size) ?_; intro gg cp uu hown4 hb4; have hB4 : Below (W5.heap.size) wr uu := (hB2.mono HBX.out.2).trans hb4; have k4 := HC0.out _ (hB4.mono HBX.out.1); have f4 := HFZ.out _ (hB4.mono HBX.out.1))
                | (have hBB := hB1; clear hBB; go_simp; refine (pointAt6_i a c bs _ P1 _ (by first | exact hw1.out | rfl) hl (by omega) HU.out (HZR.out.later hB1)).mono ?_; rintro e u2 ⟨rfl, hb2⟩; have hB2 : Below wr.heap.size wr u2 := Below.trans hB1 (Below.mono hb2 hB1.size); have k2 := HC0.out _ (hB2.mono HLX.out); have k2a : ∀ o, (u2.alloc o).cell? ⟨X, 1, none⟩ = some vT := fun o => HC0.out _ ((Below.trans hB2 (Below.mono (bel0 _ _) hB2.size)).mono HLX.out))
                | (go_simp; refine (pointAt6_i a c bs _ P _ rfl hl (by omega) HU.out (HZR.out.later (Below.refl _ _).drew)).mono ?_; rintro e u1 ⟨rfl, hb1⟩; have hB1 : Below wr.heap.size wr u1 := (Below.refl _ _).drew.trans hb1; have k1 := HC0.out _ (hB1.mono HLX.out)))
            all_goals
              have HD4 : Hid (DecS w4 X (.slice aT C0 cT) (.slice (some ⟨gg, 0, none⟩) (i + 1) cp) (.slice none 0 0) (uu.setCell ⟨X, 1, none⟩ (.slice (some ⟨gg, 0, none⟩) (i + 1) cp))) := (hD.out.mid (hB4.mono HBX.out.1)).set1 _
              have HO4 : Hid ((uu.setCell ⟨X, 1, none⟩ (.slice (some ⟨gg, 0, none⟩) (i + 1) cp)).ownsRow (W5.heap.size) 86 6 (.slice (some ⟨gg, 0, none⟩) (i + 1) cp) (i + 1) (vals .u32 (numsB bs (9 + 36 * C0) ((i + 1) * 6)))) := by
                unfold Hid
                rw [HNUM.out]
                exact own_low hown4 (p := ⟨X, 1, none⟩) (by show X < W5.heap.size; have := HBX.out.1; omega) (.slice (some ⟨gg, 0, none⟩) (i + 1) cp)
              have HRT : Hid (RowIn .u32 (uu.setCell ⟨X, 1, none⟩ (.slice (some ⟨gg, 0, none⟩) (i + 1) cp)) (X + 1) W5.heap.size aT (numsB bs 9 (C0 * 9))) := hRT.out.keepX hB4 (Nat.le_refl _) (Nat.lt_succ_self _) 1 (.slice (some ⟨gg, 0, none⟩) (i + 1) cp)
              have HBX2 : Hid (X + 1 ≤ W5.heap.size ∧ W5.heap.size ≤ (uu.setCell ⟨X, 1, none⟩ (.slice (some ⟨gg, 0, none⟩) (i + 1) cp)).heap.size) := ⟨HBX.out.1, by simpa using Nat.le_trans HBX.out.2 hB4.size⟩
              clear hown4 hb4 hB4 hB1 hb1 k1 hB2 hb2 k2 k2a k4 f4
              go_wp2
              go_roundw
              case rel => exact ⟨i + 1, P + 24, _, by omega, by go_num, by go_num, by unfold Hid; have := hP.out; omega, HD4, HO4, HBX2, HRT⟩
              case measure => simp [intOf]; omega
          · have hie : C1 = i := by omega
            subst hie
            obtain ⟨aR, cR, rfl, hrR⟩ := own_flat hO.out (by rw [numsB_length])
            obtain ⟨W6, hW6⟩ : ∃ W6, W6 = wr := ⟨_, rfl⟩
            subst hW6
            have DR : Hid (DecS w4 X (.slice aT C0 cT) (.slice aR C1 cR) (.slice none 0 0) W6) := hD
            have RR : Hid (RowIn .u32 W6 W5.heap.size W6.heap.size aR (numsB bs (9 + 36 * C0) (C1 * 6))) := hrR
            have RT6 : Hid (RowIn .u32 W6 (X + 1) W5.heap.size aT (numsB bs 9 (C0 * 9))) := hRT
            have HP1 : Hid (P = 9 + 36 * C0 + 24 * C1) := hP
            have HB23 : Hid (W5.heap.size ≤ W6.heap.size) := HBX.out.2
            clear hD hO hrR hP c0 HZR hRT HBX
            go_wp2
            go_loopw [11, 14] (fun sa si wr => ∃ (i P : Nat) (vT : Value), i ≤ C2 ∧ si = .int .i64 i ∧ sa = .int .i64 P ∧ Hid (P = 9 + 36 * C0 + 24 * C1 + 12 * i) ∧ Hid (DecS w4 X (.slice aT C0 cT) (.slice aR C1 cR) vT wr) ∧ Hid (wr.ownsRow (W6.heap.size) 84 3 vT i (vals .u32 (numsB bs (9 + 36 * C0 + 24 * C1) (i * 3)))) ∧ Hid (X + 1 ≤ W6.heap.size ∧ W6.heap.size ≤ wr.heap.size) ∧ Hid (RowIn .u32 wr (X + 1) W5.heap.size aT (numsB bs 9 (C0 * 9))) ∧ Hid (RowIn .u32 wr W5.heap.size W6.heap.size aR (numsB bs (9 + 36 * C0) (C1 * 6)))) (fun _ si _ => C2 - (intOf si).toNat)
            case atStart => exact ⟨0, P, _, Nat.zero_le _, rfl, rfl, by unfold Hid; have := HP1.out; omega, DR, by unfold Hid; simpa [numsB, vals] using World.ownsRow_nil W6 W6.heap.size 84 3, ⟨Nat.le_trans HB12.out HB23.out, Nat.le_refl _⟩, RT6, RR⟩
            case round =>
              obtain ⟨i, P, vT, hi, rfl, rfl, hP, hD, hO, HBX, hRT, hRR⟩ := hrel
              have c0 := hD.out.c2
              have HZR : Hid (RowAt .u8 wr a bs) := HZ.out.later (BV.out.trans (hD.out.bel.mono (Nat.le_of_lt HSX.out)))
              by_cases hlt : i < C2
              · have hib : (i : Int) < C2 := by omega
                obtain ⟨P1, hP1⟩ : ∃ P1, P1 = P + 12 := ⟨_, rfl⟩
                obtain ⟨P2, hP2⟩ : ∃ P2, P2 = P + 24 := ⟨_, rfl⟩
                have hp1 : (P : Int) + 12 = P1 := by omega
                have hp2 : (P : Int) + 24 = P2 := by omega
                have hpb : P ≤ 100000 ∧ P1 ≤ 100000 ∧ P2 ≤ 100000 := by have := hP.out; omega
                have HNUM : Hid (numsB bs (9 + 36 * C0 + 24 * C1) ((i + 1) * 3) = numsB bs (9 + 36 * C0 + 24 * C1) (i * 3) ++ [fltB bs P, fltB bs (P + 4), fltB bs (P + 8)]) := by
                  unfold Hid
                  rw [hP.out, show (i + 1) * 3 = i * 3 + 1 + 1 + 1 by omega]
                  simp only [nums_succ, List.append_assoc, List.cons_append, List.nil_append]
                  congr 1
                  simp only [List.cons.injEq, and_true]
                  refine ⟨?_, ?_, ?_⟩ <;> (congr 1; omega)
                have hw1 : Hid (IntKind.i64.wrap (P1 : Int) = P1) := by unfold Hid; simp [IntKind.wrap, IntKind.bits, IntKind.signed]; omega
                have hw2 : Hid (IntKind.i64.wrap (P2 : Int) = P2) := by unfold Hid; simp [IntKind.wrap, IntKind.bits, IntKind.signed]; omega
                clear hP1 hP2
                go_wp2
                have HFZ : Hid (∀ w', Below (X + 1) wr w' → w'.frozen? ⟨X, 2, none⟩ = false) := fun w' hw => (hw.frozen (p := ⟨X, 2, none⟩) (by simp)).trans (hD.out.fr 2)
                have HC0 : Hid (∀ w', Below (X + 1) wr w' → w'.cell? ⟨X, 2, none⟩ = some vT) := fun w' hw => (hw.cell (p := ⟨X, 2, none⟩) (by simp)).trans hD.out.c2
                have HLX : Hid (X + 1 ≤ wr.heap.size) := hD.out.lt
                have f0 := hD.out.fr 2
                go_region_law
                  (first
                    | (have hBB := hB1; clear hBB; refine step3 rfl (.tmp 81) (.tmp 85) rfl (W6.heap.size) vT i (numsB bs (9 + 36 * C0 + 24 * C1) (i * 3)) (fltB bs P) (fltB bs (P + 4)) (fltB bs (P + 8)) u1 (by simp [Act.eval]) (by simp [Act.eval]) (ownk_later hO.out hB1) (by omega) (Nat.le_trans HBX.out.2 hB1.size) ?_; intro gg cp uu hown4 hb4; have hB4 : Below (W6.heap.size) wr uu := (hB1.mono HBX.out.2).trans hb4; have k4 := HC0.out _ (hB4.mono HBX.out.1); have f4 := HFZ.out _ (hB4.mono HBX.out.1))
                    | (go_simp; refine (pointAt6_i a c bs _ P _ rfl hl (by omega) HU.out (HZR.out.later (Below.refl _ _).drew)).mono ?_; rintro e u1 ⟨rfl, hb1⟩; have hB1 : Below wr.heap.size wr u1 := (Below.refl _ _).drew.trans hb1; have k1 := HC0.out _ (hB1.mono HLX.out); have k1a : ∀ o, (u1.alloc o).cell? ⟨X, 2, none⟩ = some vT := fun o => HC0.out _ ((Below.trans hB1 (Below.mono (bel0 _ _) hB1.size)).mono HLX.out)))
                all_goals
                  have HD4 : Hid (DecS w4 X (.slice aT C0 cT) (.slice aR C1 cR) (.slice (some ⟨gg, 0, none⟩) (i + 1) cp) (uu.setCell ⟨X, 2, none⟩ (.slice (some ⟨gg, 0, none⟩) (i + 1) cp))) := (hD.out.mid (hB4.mono HBX.out.1)).set2 _
                  have HO4 : Hid ((uu.setCell ⟨X, 2, none⟩ (.slice (some ⟨gg, 0, none⟩) (i + 1) cp)).ownsRow (W6.heap.size) 84 3 (.slice (some ⟨gg, 0, none⟩) (i + 1) cp) (i + 1) (vals .u32 (numsB bs (9 + 36 * C0 + 24 * C1) ((i + 1) * 3)))) := by
                    unfold Hid
                    rw [HNUM.out]
                    exact own_low hown4 (p := ⟨X, 2, none⟩) (by show X < W6.heap.size; have := HBX.out.1; omega) (.slice (some ⟨gg, 0, none⟩) (i + 1) cp)
                  have HRT : Hid (RowIn .u32 (uu.setCell ⟨X, 2, none⟩ (.slice (some ⟨gg, 0, none⟩) (i + 1) cp)) (X + 1) W5.heap.size aT (numsB bs 9 (C0 * 9))) := hRT.out.keepX hB4 HB23.out (Nat.lt_succ_self _) 2 (.slice (some ⟨gg, 0, none⟩) (i + 1) cp)
                  have HRR : Hid (RowIn .u32 (uu.setCell ⟨X, 2, none⟩ (.slice (some ⟨gg, 0, none⟩) (i + 1) cp)) W5.heap.size W6.heap.size aR (numsB bs (9 + 36 * C0) (C1 * 6))) := hRR.out.keepX hB4 (Nat.le_refl _) HB12.out 2 (.slice (some ⟨gg, 0, none⟩) (i + 1) cp)
                  have HBX2 : Hid (X + 1 ≤ W6.heap.size ∧ W6.heap.size ≤ (uu.setCell ⟨X, 2, none⟩ (.slice (some ⟨gg, 0, none⟩) (i + 1) cp)).heap.size) := ⟨HBX.out.1, by simpa using Nat.le_trans HBX.out.2 hB4.size⟩
                  clear hown4 hb4 hB4 hB1 hb1 k1 k1a k4 f4
                  go_wp2
                  go_roundw
                  case rel => exact ⟨i + 1, P + 12, _, by omega, by go_num, by go_num, by unfold Hid; have := hP.out; omega, HD4, HO4, HBX2, HRT, HRR⟩
                  case measure => simp [intOf]; omega
              · have hie : C2 = i := by omega
                subst hie
                obtain ⟨aL, cL, rfl, hrL⟩ := own_flat hO.out (by rw [numsB_length])
                have BW : Hid (Below w.heap.size w wr) := BV.out.trans (hD.out.bel.mono (Nat.le_of_lt HSX.out))
                have g0 := hD.out.c0
                have g1 := hD.out.c1
                have g2 := hD.out.c2
                have lowc := fun j => hD.out.bel.cell (p := ⟨w.heap.size, j, none⟩) HSX.out
                have r0 := (lowc 0).trans R0.out.1
                have r1 := (lowc 1).trans R0.out.2.1
                have r2 := (lowc 2).trans R0.out.2.2.1
                have r3 : ∀ j, wr.frozen? ⟨w.heap.size, j, none⟩ = false := fun j => (hD.out.bel.frozen (p := ⟨w.heap.size, j, none⟩) HSX.out).trans (R0.out.2.2.2 j)
                have HSJ : Hid (ScDj wr w.heap.size wr.heap.size aT aR aL C0 C1 C2 (numsB bs 9 (C0 * 9)) (numsB bs (9 + 36 * C0) (C1 * 6)) (numsB bs (9 + 36 * C0 + 24 * C1) (C2 * 3)) (X + 1) W5.heap.size W5.heap.size W6.heap.size W6.heap.size wr.heap.size) := by
                  have q1 := HSX.out
                  have q2 := HB12.out
                  have q3 := HB23.out
                  have q4 := HBX.out.2
                  exact ⟨numsB_length _ _ _, numsB_length _ _ _, numsB_length _ _ _, ⟨by omega, by omega⟩, ⟨by omega, by omega⟩, ⟨by omega, Nat.le_refl _⟩, .inl (Nat.le_refl _), .inl q3, .inl (Nat.le_refl _), Nat.le_refl _, hRT.out, hRR.out, hrL⟩
                have HXL : Hid (X < wr.heap.size) := hD.out.lt
                clear hO hrL hP c0 HZR hRT hRR HBX lowc
                go_wp2
                refine bodyPost_ret (v := .tuple #[.agg #[.slice aT C0 cT, .slice aR C1 cR, .slice aL C2 cL], .int .i64 0, .int .i64 0]) (by simp [results, Try.results26, go_sem, r0, r1, r2]) rfl ?_
                refine ⟨aT, aR, aL, cT, cR, cL, X + 1, W5.heap.size, W5.heap.size, W6.heap.size, W6.heap.size, wr.heap.size, ?_, ?_, ?_⟩
                · rw [HD.out.1, HD.out.2.1, HD.out.2.2, HK.out, fault_zero HK.out]
                · unfold decZ1 decZ2 decZ3
                  rw [HD.out.1, HD.out.2.1, HD.out.2.2]
                  have hh := ((HSJ.out.lowS (p := ⟨w.heap.size, 0, none⟩) HSX.out (.slice aT C0 cT) ⟨Nat.lt_succ_self _, HB12.out, Nat.lt_of_lt_of_le HB12.out HB23.out⟩).lowS (p := ⟨w.heap.size, 1, none⟩) HSX.out (.slice aR C1 cR) ⟨Nat.lt_succ_self _, HB12.out, Nat.lt_of_lt_of_le HB12.out HB23.out⟩).lowS (p := ⟨w.heap.size, 2, none⟩) HSX.out (.slice aL C2 cL) ⟨Nat.lt_succ_self _, HB12.out, Nat.lt_of_lt_of_le HB12.out HB23.out⟩
                  simpa using hh
                · exact ((BW.out.setCell (by simp) _).setCell (by simp) _).setCell (by simp) _
  · have HD : Hid (decN bs 0 = 0 ∧ decN bs 1 = 0 ∧ decN bs 2 = 0) := by unfold Hid decN; rw [if_neg hk, if_neg hk, if_neg hk]; exact ⟨rfl, rfl, rfl⟩
    have HZZ : Hid (decZ1 bs = [] ∧ decZ2 bs = [] ∧ decZ3 bs = []) := by
      unfold Hid decZ1 decZ2 decZ3
      rw [HD.out.1, HD.out.2.1, HD.out.2.2]
      exact ⟨rfl, rfl, rfl⟩
    obtain ⟨K, hK⟩ : ∃ K, K = (faultF bs).1 := ⟨_, rfl⟩
    obtain ⟨J, hJ⟩ : ∃ J, J = (faultF bs).2 := ⟨_, rfl⟩
    rw [← hK] at hk ⊢
    rw [← hJ]
    have HK : Hid (K = (faultF bs).1 ∧ J = (faultF bs).2) := ⟨hK, hJ⟩
    have hne : (K != 0) = true := by rw [bne_iff_ne]; exact hk
    clear hK hJ hk
    go_wp2
    refine bodyPost_ret (v := .tuple #[.agg #[.slice none 0 0, .slice none 0 0, .slice none 0 0], .int .i64 K, .int .i64 J]) (by simp [results, Try.results26, go_sem, r0, r1, r2]) rfl ?_
    refine ⟨none, none, none, 0, 0, 0, w.heap.size, w.heap.size, w.heap.size, w.heap.size, w.heap.size, w.heap.size, ?_, ?_, ?_⟩
    · rw [HD.out.1, HD.out.2.1, HD.out.2.2, HK.out.1, HK.out.2]
    · rw [HD.out.1, HD.out.2.1, HD.out.2.2, HZZ.out.1, HZZ.out.2.1, HZZ.out.2.2]
      exact ⟨rfl, rfl, rfl, ⟨Nat.le_refl _, by simp; omega⟩, ⟨Nat.le_refl _, by simp; omega⟩, ⟨Nat.le_refl _, by simp; omega⟩, .inl (Nat.le_refl _), .inl (Nat.le_refl _), .inl (Nat.le_refl _), Nat.le_refl _, .inl rfl, .inl rfl, .inl rfl⟩
    · exact (((B1.out.setCell (by simp) _).setCell (by simp) _).setCell (by simp) _)

end Go.Proofs.Ytcjdnomhnlbmbaa
