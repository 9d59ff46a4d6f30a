/-
  The model's l6fault.
-/
import Derived.Test.YtfhfepphccaadaaFromDpDraw0SpD1IdA
import Derived.Test.YtfhfepphccaadaaSpD0ScJBytes2
import Derived.Deep.AppendLies
import Derived.Deep.RegionLaw
namespace Go.Proofs.Ytfhfepphccaadaa
open Go.RowKit

theorem FaultOut.of {w w' : World} {x : Int × Int} {e : Ending} {p q : Int} (h : x = (p, q)) (he : e = .returned (.tuple #[.int .i64 p, .int .i64 q])) (hb : Below w.heap.size w w') : FaultOut w x e w' := by
  subst h
  exact ⟨he, hb⟩

theorem cnt_bad {bs : List Int} {k : Nat} (h : firstF (cntAt bs) k = none) (hk : k < 3) (hv : cntB bs k < 0) : firstF (cntAt bs) 3 = some (5, (bs.length : Int)) := firstF_hit hk h (by unfold cntAt; rw [if_pos hv])
theorem cnt_much {bs : List Int} {k : Nat} (h : firstF (cntAt bs) k = none) (hk : k < 3) (hv : ¬ cntB bs k < 0) (hm : cntMo k < cntB bs k) : firstF (cntAt bs) 3 = some (2, (cntPl k : Int)) := firstF_hit hk h (by unfold cntAt; rw [if_neg hv, if_pos hm])
theorem cnt_fine {bs : List Int} {k : Nat} (h : firstF (cntAt bs) k = none) (hv : ¬ cntB bs k < 0) (hm : ¬ cntMo k < cntB bs k) : firstF (cntAt bs) (k + 1) = none := firstF_succ h (by unfold cntAt; rw [if_neg hv, if_neg hm])
theorem magic_short {bs : List Int} {i : Nat} (h : firstF (magicAt bs) i = none) (hi : i < 4) (hl : bs.length ≤ i) : faultF bs = (5, (bs.length : Int)) := faultF_magic (firstF_hit hi h (by unfold magicAt; rw [if_pos hl]))
theorem magic_wrong {bs : List Int} {i : Nat} (h : firstF (magicAt bs) i = none) (hi : i < 4) (hl : ¬ bs.length ≤ i) (hx : bs.getD i 0 ≠ ([83, 67, 69, 78] : List Int).getD i 0) : faultF bs = (4, (i : Int)) := faultF_magic (firstF_hit hi h (by unfold magicAt; rw [if_neg hl, if_neg hx]))
theorem magic_right {bs : List Int} {i : Nat} (h : firstF (magicAt bs) i = none) (hl : ¬ bs.length ≤ i) (hx : bs.getD i 0 = ([83, 67, 69, 78] : List Int).getD i 0) : firstF (magicAt bs) (i + 1) = none := firstF_succ h (by unfold magicAt; rw [if_neg hl, if_pos hx])

/-- Where the k-th count stands. -/
def atK3 : Nat → Int
  | 0 => 4
  | 1 => 6
  | 2 => 8
  | _ => 9

/-- The list of counts that the model makes, and its two tables. -/
structure CntS (V : World) (X : Nat) (so : Value) (cs : List Int) (wr : World) : Prop where
  own : wr.ownsRow V.heap.size 3 1 so cs.length (vals .i64 cs)
  bel : Below V.heap.size V wr

theorem flt_short {bs : List Int} {c0 c1 i : Nat} {v : Int} (hv : v = numB bs (9 + 4 * i) 4) (h1 : v < 0) : fltAt bs c0 c1 i = some (5, (bs.length : Int)) := by
  subst hv
  unfold fltAt
  rw [if_pos h1]
theorem flt_odd {bs : List Int} {c0 c1 i : Nat} {v : Int} (hv : v = numB bs (9 + 4 * i) 4) (h1 : ¬ v < 0) (hf : fFin v = false) : fltAt bs c0 c1 i = some (6, ((9 + 4 * i : Nat) : Int)) := by
  subst hv
  unfold fltAt
  rw [if_neg h1, if_pos hf]
theorem flt_zero {bs : List Int} {c0 c1 i : Nat} {v : Int} (hv : v = numB bs (9 + 4 * i) 4) (h1 : ¬ v < 0) (hf : fFin v = true) (hd : dirAt bs c0 c1 i = true) : fltAt bs c0 c1 i = some (7, ((1 + 4 * i : Nat) : Int)) := by
  subst hv
  unfold fltAt
  rw [if_neg h1, if_neg (by rw [hf]; decide), if_pos hd]
theorem flt_none {bs : List Int} {c0 c1 i : Nat} {v : Int} (hv : v = numB bs (9 + 4 * i) 4) (h1 : ¬ v < 0) (hf : fFin v = true) (hd : dirAt bs c0 c1 i = false) : fltAt bs c0 c1 i = none := by
  subst hv
  unfold fltAt
  rw [if_neg h1, if_neg (by rw [hf]; decide), if_neg (by rw [hd]; decide)]

end Go.Proofs.Ytfhfepphccaadaa

/-
  The law of DecodeScene, for any model and any program that answer the first fault or the scene in new memory.
-/
namespace Go.Proofs.Ytfhfepphccaadaa
open Go.RowKit

/-- The floats at a place: k of them. -/
def numsB (bs : List Int) (p k : Nat) : List Int := (List.range k).map fun j => fltB bs (p + 4 * j)
theorem numsB_length (bs : List Int) (p k : Nat) : (numsB bs p k).length = k := by simp [numsB]
/-- How many triangles, rays, lights are answered. -/
def decN (bs : List Int) (k : Nat) : Nat := if (faultF bs).1 = 0 then (cntB bs k).toNat else 0
def decZ1 (bs : List Int) : List Int := numsB bs 9 (decN bs 0 * 9)
def decZ2 (bs : List Int) : List Int := numsB bs (9 + 36 * decN bs 0) (decN bs 1 * 6)
def decZ3 (bs : List Int) : List Int := numsB bs (9 + 36 * decN bs 0 + 24 * decN bs 1) (decN bs 2 * 3)

/-- Where a scene is answered, its counts are within the limits. -/
theorem decN_small (bs : List Int) : decN bs 0 + decN bs 1 + decN bs 2 ≤ 1048576 := by
  unfold decN
  by_cases h : (faultF bs).1 = 0
  · rw [if_pos h, if_pos h, if_pos h]
    have hm : firstF (magicAt bs) 4 = none := by
      cases hf : firstF (magicAt bs) 4 with
      | none => rfl
      | some x =>
        rw [faultF_magic hf] at h
        exfalso
        have key : ∀ n, firstF (magicAt bs) n = some x → x.1 = 5 ∨ x.1 = 4 := by
          intro n
          induction n with
          | zero => intro h; cases h
          | succ n ih =>
            intro h
            unfold firstF at h
            cases hq : firstF (magicAt bs) n with
            | some y => rw [hq] at h; simp at h; subst h; exact ih hq
            | none =>
              rw [hq] at h
              simp only at h
              unfold magicAt at h
              split at h
              · simp at h; subst h; exact .inl rfl
              · split at h
                · cases h
                · simp at h; subst h; exact .inr rfl
        rcases key 4 hf with h5 | h5 <;> rw [h5] at h <;> cases h
    have hc : firstF (cntAt bs) 3 = none := by
      cases hf : firstF (cntAt bs) 3 with
      | none => rfl
      | some x =>
        rw [faultF_counts hm hf] at h
        exfalso
        have key : ∀ n, firstF (cntAt bs) n = some x → x.1 = 5 ∨ x.1 = 2 := by
          intro n
          induction n with
          | zero => intro h; cases h
          | succ n ih =>
            intro h
            unfold firstF at h
            cases hq : firstF (cntAt bs) n with
            | some y => rw [hq] at h; simp at h; subst h; exact ih hq
            | none =>
              rw [hq] at h
              simp only at h
              unfold cntAt at h
              split at h
              · simp at h; subst h; exact .inl rfl
              · split at h
                · simp at h; subst h; exact .inr rfl
                · cases h
        rcases key 3 hf with h5 | h5 <;> rw [h5] at h <;> cases h
    have c0 := (cnt_ok hc 0 (by decide)).2
    have c1 := (cnt_ok hc 1 (by decide)).2
    have c2 := (cnt_ok hc 2 (by decide)).2
    rw [show cntMo 0 = 40 from rfl] at c0
    rw [show cntMo 1 = 40 from rfl] at c1
    rw [show cntMo 2 = 4 from rfl] at c2
    omega
  · rw [if_neg h, if_neg h, if_neg h]
    decide

/-- What DecodeScene answers. -/
def DecOut (w : World) (bs : List Int) (e : Ending) (w' : World) : Prop :=
  ∃ a1 a2 a3 c1 c2 c3 l1 h1 l2 h2 l3 h3, e = .returned (.tuple #[.agg #[.slice a1 (decN bs 0) c1, .slice a2 (decN bs 1) c2, .slice a3 (decN bs 2) c3], .int .i64 (faultF bs).1, .int .i64 (faultF bs).2]) ∧
    ScDj w' w.heap.size w'.heap.size a1 a2 a3 (decN bs 0) (decN bs 1) (decN bs 2) (decZ1 bs) (decZ2 bs) (decZ3 bs) l1 h1 l2 h2 l3 h3 ∧ Below w.heap.size w w'
def DecSays (f : FuncId) : Prop := ∀ (a : Option Addr) (c : Nat) (bs : List Int) (w : World), bs.length ≤ 1048576 → bs.length ≤ c → U8 bs → RowAt .u8 w a bs → Calls Try.prog f #[.slice a bs.length c] w fun e w' => DecOut w bs e w'

end Go.Proofs.Ytfhfepphccaadaa

/-
  The model's DecodeScene.
-/
namespace Go.Proofs.Ytfhfepphccaadaa
open Go.RowKit

/-- The scene that is being filled, at block X. -/
structure DecS (V0 : World) (X : Nat) (v0 v1 v2 : Value) (wr : World) : Prop where
  bel : Below X V0 wr
  lt : X < wr.heap.size
  c0 : wr.cell? ⟨X, 0, none⟩ = some v0
  c1 : wr.cell? ⟨X, 1, none⟩ = some v1
  c2 : wr.cell? ⟨X, 2, none⟩ = some v2
  fr : ∀ j, wr.frozen? ⟨X, j, none⟩ = false
theorem DecS.mid {V0 wr w' : World} {X : Nat} {v0 v1 v2 : Value} (h : DecS V0 X v0 v1 v2 wr) (hb : Below (X + 1) wr w') : DecS V0 X v0 v1 v2 w' :=
  ⟨h.bel.trans (hb.mono (Nat.le_succ _)), Nat.lt_of_lt_of_le h.lt hb.size, (hb.cell (p := ⟨X, 0, none⟩) (by simp)).trans h.c0, (hb.cell (p := ⟨X, 1, none⟩) (by simp)).trans h.c1, (hb.cell (p := ⟨X, 2, none⟩) (by simp)).trans h.c2, fun j => (hb.frozen (p := ⟨X, j, none⟩) (by simp)).trans (h.fr j)⟩

theorem nums_succ (bs : List Int) (p k : Nat) : numsB bs p (k + 1) = numsB bs p k ++ [fltB bs (p + 4 * k)] := by
  unfold numsB
  rw [List.range_succ, List.map_append]
  rfl

theorem DecS.set0 {V0 wr : World} {X : Nat} {v0 v1 v2 : Value} (h : DecS V0 X v0 v1 v2 wr) (v : Value) : DecS V0 X v v1 v2 (wr.setCell ⟨X, 0, none⟩ v) :=
  ⟨h.bel.setCell (p := ⟨X, 0, none⟩) (Nat.le_refl _) v, by simpa using h.lt, World.cell?_setCell_same _ _ _ h.c0, by rw [World.cell?_setCell_other _ _ _ _ (by simp)]; exact h.c1, by rw [World.cell?_setCell_other _ _ _ _ (by simp)]; exact h.c2, fun j => by rw [World.frozen?_setCell]; exact h.fr j⟩

theorem own_low {w : World} {base : Nat} {e : TypeId} {k n : Nat} {v : Value} {xs : List Value} (h : w.ownsRow base e k v n xs) {p : Addr} (hp : p.block < base) (u : Value) : (w.setCell p u).ownsRow base e k v n xs := by
  refine ⟨h.1, ?_⟩
  rcases h.2 with h1 | ⟨g, cap, cur, h1, h2, h3, h4⟩
  · exact .inl h1
  · exact .inr ⟨g, cap, cur, h1, h2, (Below.heap_setCell _ _ _ _ (by omega)).trans h3, h4⟩

theorem DecS.set1 {V0 wr : World} {X : Nat} {v0 v1 v2 : Value} (h : DecS V0 X v0 v1 v2 wr) (v : Value) : DecS V0 X v0 v v2 (wr.setCell ⟨X, 1, none⟩ v) :=
  ⟨h.bel.setCell (p := ⟨X, 1, none⟩) (Nat.le_refl _) v, by simpa using h.lt, by rw [World.cell?_setCell_other _ _ _ _ (by simp)]; exact h.c0, World.cell?_setCell_same _ _ _ h.c1, by rw [World.cell?_setCell_other _ _ _ _ (by simp)]; exact h.c2, fun j => by rw [World.frozen?_setCell]; exact h.fr j⟩
theorem DecS.set2 {V0 wr : World} {X : Nat} {v0 v1 v2 : Value} (h : DecS V0 X v0 v1 v2 wr) (v : Value) : DecS V0 X v0 v1 v (wr.setCell ⟨X, 2, none⟩ v) :=
  ⟨h.bel.setCell (p := ⟨X, 2, none⟩) (Nat.le_refl _) v, by simpa using h.lt, by rw [World.cell?_setCell_other _ _ _ _ (by simp)]; exact h.c0, by rw [World.cell?_setCell_other _ _ _ _ (by simp)]; exact h.c1, World.cell?_setCell_same _ _ _ h.c2, fun j => by rw [World.frozen?_setCell]; exact h.fr j⟩

theorem ownk_later {w w' : World} {base k : Nat} {e : TypeId} {v : Value} {n : Nat} {xs : List Value} (h : w.ownsRow base e k v n xs) (hb : Below w.heap.size w w') : w'.ownsRow base e k v n xs := by
  refine ⟨h.1, ?_⟩
  rcases h.2 with h1 | ⟨g, cap, cur, h1, h2, h3, h4⟩
  · exact .inl h1
  · have hg : g < w.heap.size := by
      by_cases hp : g < w.heap.size
      · exact hp
      · rw [Array.getElem?_eq_none (by omega)] at h3; cases h3
    exact .inr ⟨g, cap, cur, h1, h2, (hb.block g hg).trans h3, h4⟩

/-- What the call owns, as a row of numbers of k cells each. -/
theorem own_flat {w : World} {base k : Nat} {e : TypeId} {v : Value} {n : Nat} {zs : List Int} (h : w.ownsRow base e k v n (vals .u32 zs)) (hl : zs.length = n * k) : ∃ a c, v = .slice a n c ∧ RowIn .u32 w base w.heap.size a zs := by
  rcases h.2 with ⟨h1, h2⟩ | ⟨g, cap, cur, h1, h2, h3, h4, h5, h6, h7⟩
  · subst h2
    exact ⟨none, 0, h1, .inl (List.length_eq_zero_iff.1 (by omega))⟩
  · have hg : g < w.heap.size := by
      by_cases hp : g < w.heap.size
      · exact hp
      · rw [Array.getElem?_eq_none (by omega)] at h3; cases h3
    refine ⟨some ⟨g, 0, none⟩, cap, h1, .inr ⟨g, 0, rfl, h2, hg, hg, fun j hj => ?_, fun j hj => by simp [World.frozen?, h3]⟩⟩
    have : (cur.toList.take (n * k))[j]? = (vals .u32 zs)[j]? := by rw [h7]
    rw [List.getElem?_take, if_pos (by omega)] at this
    simp only [World.cell?, h3]
    simp [vals, hj] at this
    simp [this, List.getD_eq_getElem?_getD, hj]

theorem RowIn.keepX {w uu : World} {lo hi base X : Nat} {a : Option Addr} {zs : List Int} (h : RowIn .u32 w lo hi a zs) (hb : Below base w uu) (hhi : hi ≤ base) (hlo : X < lo) (j : Nat) (v : Value) : RowIn .u32 (uu.setCell ⟨X, j, none⟩ v) lo hi a zs := by
  have h1 : RowIn .u32 uu lo hi a zs := by
    rcases h with h | ⟨b, off, q1, q0, q00, q2, q3, q4⟩
    · exact .inl h
    · exact .inr ⟨b, off, q1, q0, q00, Nat.lt_of_lt_of_le q2 hb.size, fun j hj => (hb.cell (p := ⟨b, off + j, none⟩) (by simp; omega)).trans (q3 j hj), fun j hj => (hb.frozen (p := ⟨b, off + j, none⟩) (by simp; omega)).trans (q4 j hj)⟩
  exact h1.apart (within_set _ _ _) (.inr (by simp; omega))

theorem ScDj.lowS {w : World} {lo hi : Nat} {a1 a2 a3 : Option Addr} {n1 n2 n3 : Nat} {z1 z2 z3 : List Int} {l1 h1 l2 h2 l3 h3 : Nat} (h : ScDj w lo hi a1 a2 a3 n1 n2 n3 z1 z2 z3 l1 h1 l2 h2 l3 h3) {p : Addr} {X : Nat} (hp : p.block < X) (v : Value) (hx : X < l1 ∧ X < l2 ∧ X < l3) : ScDj (w.setCell p v) lo hi a1 a2 a3 n1 n2 n3 z1 z2 z3 l1 h1 l2 h2 l3 h3 :=
  ⟨h.e1, h.e2, h.e3, h.i1, h.i2, h.i3, h.d12, h.d13, h.d23, by simpa using h.top, h.r1.apart (within_set _ _ _) (.inr (by omega)), h.r2.apart (within_set _ _ _) (.inr (by omega)), h.r3.apart (within_set _ _ _) (.inr (by omega))⟩

theorem fault_zero {bs : List Int} (h : (faultF bs).1 = 0) : (faultF bs).2 = 0 := by
  unfold faultF at h ⊢
  cases hm : firstF (magicAt bs) 4 with
  | some x =>
    rw [hm] at h
    exfalso
    have key : ∀ n, firstF (magicAt bs) n = some x → x.1 = 5 ∨ x.1 = 4 := by
      intro n
      induction n with
      | zero => intro h; cases h
      | succ n ih =>
        intro h
        unfold firstF at h
        cases hq : firstF (magicAt bs) n with
        | some y => rw [hq] at h; simp at h; subst h; exact ih hq
        | none =>
          rw [hq] at h
          simp only at h
          unfold magicAt at h
          split at h
          · simp at h; subst h; exact .inl rfl
          · split at h
            · cases h
            · simp at h; subst h; exact .inr rfl
    have h' : x.1 = 0 := h
    rcases key 4 hm with h5 | h5 <;> rw [h5] at h' <;> cases h'
  | none =>
    rw [hm] at h
    have h1 : (countsF bs).1 = 0 := h
    show (countsF bs).2 = 0
    unfold countsF at h1 ⊢
    cases hc : firstF (cntAt bs) 3 with
    | some x =>
      rw [hc] at h1
      exfalso
      have key : ∀ n, firstF (cntAt bs) n = some x → x.1 = 5 ∨ x.1 = 2 := by
        intro n
        induction n with
        | zero => intro h; cases h
        | succ n ih =>
          intro h
          unfold firstF at h
          cases hq : firstF (cntAt bs) n with
          | some y => rw [hq] at h; simp at h; subst h; exact ih hq
          | none =>
            rw [hq] at h
            simp only at h
            unfold cntAt at h
            split at h
            · simp at h; subst h; exact .inl rfl
            · split at h
              · simp at h; subst h; exact .inr rfl
              · cases h
      have h' : x.1 = 0 := h1
      rcases key 3 hc with h5 | h5 <;> rw [h5] at h' <;> cases h'
    | none =>
      rw [hc] at h1
      obtain ⟨c0, e0⟩ : ∃ c, c = (cntB bs 0).toNat := ⟨_, rfl⟩
      obtain ⟨c1, e1⟩ : ∃ c, c = (cntB bs 1).toNat := ⟨_, rfl⟩
      obtain ⟨c2, e2⟩ : ∃ c, c = (cntB bs 2).toNat := ⟨_, rfl⟩
      rw [← e0, ← e1, ← e2] at h1
      show (tailF bs (cntB bs 0).toNat (cntB bs 1).toNat (cntB bs 2).toNat).2 = 0
      rw [← e0, ← e1, ← e2]
      have h2 : (tailF bs c0 c1 c2).1 = 0 := h1
      unfold tailF at h2 ⊢
      cases hf : firstF (fltAt bs c0 c1) (fltN c0 c1 c2) with
      | some x =>
        rw [hf] at h2
        exfalso
        have key : ∀ n, firstF (fltAt bs c0 c1) n = some x → x.1 = 5 ∨ x.1 = 6 ∨ x.1 = 7 := by
          intro n
          induction n with
          | zero => intro h; cases h
          | succ n ih =>
            intro h
            unfold firstF at h
            cases hq : firstF (fltAt bs c0 c1) n with
            | some y => rw [hq] at h; simp at h; subst h; exact ih hq
            | none =>
              rw [hq] at h
              simp only at h
              unfold fltAt at h
              split at h
              · simp at h; subst h; exact .inl rfl
              · split at h
                · simp at h; subst h; exact .inr (.inl rfl)
                · split at h
                  · simp at h; subst h; exact .inr (.inr rfl)
                  · cases h
        have h' : x.1 = 0 := h2
        rcases key _ hf with h5 | h5 | h5 <;> rw [h5] at h' <;> cases h'
      | none =>
        rw [hf] at h2
        by_cases hl : 9 + 4 * fltN c0 c1 c2 < bs.length
        · simp only [if_pos hl] at h2
          cases h2
        · simp only [if_neg hl]

theorem fault_counts {bs : List Int} (h : (faultF bs).1 = 0) : firstF (cntAt bs) 3 = none := by
  have hm : firstF (magicAt bs) 4 = none := by
    cases hf : firstF (magicAt bs) 4 with
    | none => rfl
    | some x =>
      rw [faultF_magic hf] at h
      exfalso
      have key : ∀ n, firstF (magicAt bs) n = some x → x.1 = 5 ∨ x.1 = 4 := by
        intro n
        induction n with
        | zero => intro h; cases h
        | succ n ih =>
          intro h
          unfold firstF at h
          cases hq : firstF (magicAt bs) n with
          | some y => rw [hq] at h; simp at h; subst h; exact ih hq
          | none =>
            rw [hq] at h
            simp only at h
            unfold magicAt at h
            split at h
            · simp at h; subst h; exact .inl rfl
            · split at h
              · cases h
              · simp at h; subst h; exact .inr rfl
      rcases key 4 hf with h5 | h5 <;> rw [h5] at h <;> cases h
  cases hf : firstF (cntAt bs) 3 with
  | none => rfl
  | some x =>
    rw [faultF_counts hm hf] at h
    exfalso
    have key : ∀ n, firstF (cntAt bs) n = some x → x.1 = 5 ∨ x.1 = 2 := by
      intro n
      induction n with
      | zero => intro h; cases h
      | succ n ih =>
        intro h
        unfold firstF at h
        cases hq : firstF (cntAt bs) n with
        | some y => rw [hq] at h; simp at h; subst h; exact ih hq
        | none =>
          rw [hq] at h
          simp only at h
          unfold cntAt at h
          split at h
          · simp at h; subst h; exact .inl rfl
          · split at h
            · simp at h; subst h; exact .inr rfl
            · cases h
    rcases key 3 hf with h5 | h5 <;> rw [h5] at h <;> cases h

end Go.Proofs.Ytfhfepphccaadaa
