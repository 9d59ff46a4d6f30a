/-
  The first fault of a scene's bytes, piece by piece, as the program's reader comes to it.
-/
import Derived.Test.YtcjdnomhnlbmbaaIdE
import Derived.Test.YtcjdnomhnlbmbaaIdG
namespace Go.Proofs.Ytcjdnomhnlbmbaa
open Go.RowKit

theorem orF_assoc {α : Type} (x y z : Option α) : orF (orF x y) z = orF x (orF y z) := by
  cases x with
  | none => rfl
  | some x => rfl
theorem orF_nil {α : Type} (x : Option α) : orF x none = x := by
  cases x with
  | none => rfl
  | some x => rfl
theorem firstF_orF {α : Type} (f : Nat → Option α) (n : Nat) : firstF f (n + 1) = orF (firstF f n) (f n) := by
  show (match firstF f n with
    | some x => some x
    | none => f n) = _
  cases firstF f n with
  | none => rfl
  | some x => rfl
theorem firstF_congr {α : Type} {f g : Nat → Option α} : ∀ {n : Nat}, (∀ j, j < n → f j = g j) → firstF f n = firstF g n
  | 0, _ => rfl
  | n + 1, h => by rw [firstF_orF, firstF_orF, firstF_congr (fun j hj => h j (Nat.lt_succ_of_lt hj)), h n (Nat.lt_succ_self _)]
theorem firstF_add {α : Type} (f : Nat → Option α) (a : Nat) : ∀ b, firstF f (a + b) = orF (firstF f a) (firstF (fun j => f (a + j)) b)
  | 0 => by rw [Nat.add_zero]; exact (orF_nil _).symm
  | b + 1 => by rw [← Nat.add_assoc, firstF_orF, firstF_add f a b, firstF_orF, orF_assoc]
theorem firstF_mul {α : Type} (f : Nat → Option α) (m : Nat) : ∀ n, firstF f (m * n) = firstF (fun k => firstF (fun j => f (m * k + j)) m) n
  | 0 => rfl
  | n + 1 => by rw [Nat.mul_succ, firstF_add, firstF_mul f m n, firstF_orF]

theorem mkF_scen (bs : List Int) : mkF [83, 67, 69, 78] bs = magicAt bs := rfl

theorem cnt_eq {bs : List Int} (hu : U8 bs) (k : Nat) : cntF bs (cntPl k) (cntSz k) (cntMo k) = cntAt bs k := by
  have hsz : cntSz k ≤ 4 := by unfold cntSz; split <;> decide
  unfold cntF cntAt cntB
  by_cases h : bs.length < cntPl k + cntSz k
  · rw [if_pos h, if_pos ((numB_neg hu hsz).2 h)]
  · rw [if_neg h, if_neg (fun q => h ((numB_neg hu hsz).1 q))]

theorem flt_eq {bs : List Int} (hu : U8 bs) {c0 c1 i : Nat} (hd : dirAt bs c0 c1 i = false) : fltAt bs c0 c1 i = fltF bs (9 + 4 * i) := by
  unfold fltAt fltF
  by_cases h : bs.length < 9 + 4 * i + 4
  · rw [if_pos h, if_pos ((numB_neg hu (by decide)).2 h)]
  · rw [if_neg h, if_neg (fun q => h ((numB_neg hu (by decide)).1 q)), hd]
    rfl
theorem dir_tri {bs : List Int} {c0 c1 i : Nat} (h : i < 9 * c0) : dirAt bs c0 c1 i = false := by
  unfold dirAt
  rw [decide_eq_false (by omega)]
  rfl
theorem dir_end {bs : List Int} {c0 c1 i : Nat} (h : 9 * c0 + 6 * c1 ≤ i) : dirAt bs c0 c1 i = false := by
  unfold dirAt
  rw [decide_eq_false (p := i < 9 * c0 + 6 * c1) (by omega)]
  simp
theorem dir_mid {bs : List Int} {c0 c1 i : Nat} (h : (i - 9 * c0) % 6 ≠ 5) : dirAt bs c0 c1 i = false := by
  unfold dirAt
  rw [decide_eq_false (p := (i - 9 * c0) % 6 = 5) h]
  simp

theorem fltF_at {bs : List Int} {p q : Nat} (h : p = q) : fltF bs p = fltF bs q := by rw [h]

theorem tri_block {bs : List Int} (hu : U8 bs) {c0 c1 k : Nat} (hk : k < c0) : firstF (fun j => fltAt bs c0 c1 (9 * k + j)) 9 = triF bs (9 + 4 * 9 * k) := by
  have e : ∀ j, j < 9 → fltAt bs c0 c1 (9 * k + j) = fltF bs (9 + 4 * 9 * k + 4 * j) := by
    intro j hj
    rw [flt_eq hu (dir_tri (by omega))]
    exact fltF_at (by omega)
  rw [firstF_congr e]
  simp only [firstF_orF, orF_assoc]
  unfold triF ptF
  simp only [orF_assoc]
  rfl
theorem pt_block {bs : List Int} (hu : U8 bs) {c0 c1 k : Nat} : firstF (fun j => fltAt bs c0 c1 (9 * c0 + 6 * c1 + (3 * k + j))) 3 = ptF bs (9 + 36 * c0 + 24 * c1 + 4 * 3 * k) := by
  have e : ∀ j, j < 3 → fltAt bs c0 c1 (9 * c0 + 6 * c1 + (3 * k + j)) = fltF bs (9 + 36 * c0 + 24 * c1 + 4 * 3 * k + 4 * j) := by
    intro j hj
    rw [flt_eq hu (dir_end (by omega))]
    exact fltF_at (by omega)
  rw [firstF_congr e]
  simp only [firstF_orF, orF_assoc]
  rfl

/-- The last float of a ray. -/
theorem ray_last {bs : List Int} (hu : U8 bs) {c0 c1 k P : Nat} (hk : k < c1) (hP : P = 9 + 36 * c0 + 24 * k) : fltAt bs c0 c1 (9 * c0 + (6 * k + 5)) = orF (fltF bs (P + 12 + 8)) (if noWayB (numB bs (P + 12) 4) (numB bs (P + 12 + 4) 4) (numB bs (P + 12 + 8) 4) = true then some (7, ((P + 12 : Nat) : Int)) else none) := by
  have e1 : 9 + 4 * (9 * c0 + (6 * k + 5)) = P + 12 + 8 := by omega
  have e2 : 1 + 4 * (9 * c0 + (6 * k + 5)) = P + 12 := by omega
  unfold fltAt fltF
  rw [e1, e2]
  by_cases h : bs.length < P + 12 + 8 + 4
  · rw [if_pos h, if_pos ((numB_neg hu (by decide)).2 h)]
    rfl
  · rw [if_neg h, if_neg (fun q => h ((numB_neg hu (by decide)).1 q))]
    by_cases hf : fFin (numB bs (P + 12 + 8) 4) = false
    · rw [if_pos hf, if_pos hf]
      rfl
    · rw [if_neg hf, if_neg hf]
      show _ = if _ then _ else none
      have hd : dirAt bs c0 c1 (9 * c0 + (6 * k + 5)) = noWayB (numB bs (P + 12) 4) (numB bs (P + 12 + 4) 4) (numB bs (P + 12 + 8) 4) := by
        unfold dirAt
        rw [e2, decide_eq_true (p := 9 * c0 ≤ 9 * c0 + (6 * k + 5)) (by omega), decide_eq_true (p := 9 * c0 + (6 * k + 5) < 9 * c0 + 6 * c1) (by omega), decide_eq_true (p := (9 * c0 + (6 * k + 5) - 9 * c0) % 6 = 5) (by omega), flt_num (by omega), flt_num (by omega), flt_num (by omega)]
        rfl
      rw [hd]
theorem ray_block {bs : List Int} (hu : U8 bs) {c0 c1 k : Nat} (hk : k < c1) : firstF (fun j => fltAt bs c0 c1 (9 * c0 + (6 * k + j))) 6 = rayF bs (9 + 36 * c0 + 4 * 6 * k) := by
  have e : ∀ j, j < 5 → fltAt bs c0 c1 (9 * c0 + (6 * k + j)) = fltF bs (9 + 36 * c0 + 4 * 6 * k + 4 * j) := by
    intro j hj
    rw [flt_eq hu (dir_mid (by omega))]
    exact fltF_at (by omega)
  rw [firstF_orF, firstF_congr e, ray_last hu hk (P := 9 + 36 * c0 + 4 * 6 * k) (by omega)]
  simp only [firstF_orF, orF_assoc]
  unfold rayF ptF
  simp only [orF_assoc]
  rfl

/-- Where the rays and the lights begin. -/
theorem tail_split {bs : List Int} (hu : U8 bs) (c0 c1 c2 : Nat) : firstF (fltAt bs c0 c1) (fltN c0 c1 c2) =
    orF (firstF (fun j => triF bs (9 + 4 * 9 * j)) c0) (orF (firstF (fun j => rayF bs (9 + 36 * c0 + 4 * 6 * j)) c1) (firstF (fun j => ptF bs (9 + 36 * c0 + 24 * c1 + 4 * 3 * j)) c2)) := by
  unfold fltN
  rw [firstF_add, firstF_add, firstF_mul, firstF_mul, firstF_mul, orF_assoc]
  rw [firstF_congr (fun k hk => tri_block hu hk), firstF_congr (fun k hk => ray_block hu hk), firstF_congr (fun k _ => pt_block hu)]

end Go.Proofs.Ytcjdnomhnlbmbaa

/-
  The program's reader: scene.
-/
namespace Go.Proofs.Ytcjdnomhnlbmbaa
open Go.RowKit

theorem rowIn_aside {k : IntKind} {w w' : World} {lo hi R : Nat} {a : Option Addr} {zs : List Int} (h : RowIn k w lo hi a zs) (ha : Aside R w w') (hR : R < lo) : RowIn k w' lo hi a zs := by
  rcases h with h | ⟨b, off, q1, q0, q00, q2, q3, q4⟩
  · exact .inl h
  · exact .inr ⟨b, off, q1, q0, q00, Nat.lt_of_lt_of_le q2 ha.size, fun j hj => (ha.cell (p := ⟨b, off + j, none⟩) q2 (by simp; omega)).trans (q3 j hj), fun j hj => (ha.frozen (p := ⟨b, off + j, none⟩) q2 (by simp; omega)).trans (q4 j hj)⟩

/-- A box of three values that may be written. -/
structure BxF (w : World) (X : Nat) (v0 v1 v2 : Value) : Prop where
  lt : X < w.heap.size
  q0 : w.cell? ⟨X, 0, none⟩ = some v0
  q1 : w.cell? ⟨X, 1, none⟩ = some v1
  q2 : w.cell? ⟨X, 2, none⟩ = some v2
  fr : ∀ j, w.frozen? ⟨X, j, none⟩ = false
theorem BxF.aside {w w' : World} {X R : Nat} {v0 v1 v2 : Value} (h : BxF w X v0 v1 v2) (ha : Aside R w w') (hR : X ≠ R) : BxF w' X v0 v1 v2 :=
  ⟨Nat.lt_of_lt_of_le h.lt ha.size, (ha.cell (p := ⟨X, 0, none⟩) h.lt hR).trans h.q0, (ha.cell (p := ⟨X, 1, none⟩) h.lt hR).trans h.q1, (ha.cell (p := ⟨X, 2, none⟩) h.lt hR).trans h.q2, fun j => (ha.frozen (p := ⟨X, j, none⟩) h.lt hR).trans (h.fr j)⟩
theorem BxF.new (w : World) (v0 v1 v2 : Value) (t : TypeId) : BxF (w.alloc (.cells #[v0, v1, v2] t)) w.heap.size v0 v1 v2 :=
  ⟨by simp, by simp [go_sem], by simp [go_sem], by simp [go_sem], fun j => by simp [go_sem]⟩
theorem BxF.other {w : World} {X k : Nat} {v0 v1 v2 : Value} (h : BxF w X v0 v1 v2) (hk : k ≠ X) (j : Nat) (v : Value) : BxF (w.setCell ⟨k, j, none⟩ v) X v0 v1 v2 :=
  h.aside ((Aside.refl k w).set j v) (fun e => hk e.symm)
theorem BxF.set0 {w : World} {X : Nat} {v0 v1 v2 : Value} (h : BxF w X v0 v1 v2) (v : Value) : BxF (w.setCell ⟨X, 0, none⟩ v) X v v1 v2 :=
  ⟨by simpa using h.lt, World.cell?_setCell_same _ _ _ h.q0, by rw [World.cell?_setCell_other _ _ _ _ (by simp)]; exact h.q1, by rw [World.cell?_setCell_other _ _ _ _ (by simp)]; exact h.q2, fun j => by rw [World.frozen?_setCell]; exact h.fr j⟩
theorem BxF.set1 {w : World} {X : Nat} {v0 v1 v2 : Value} (h : BxF w X v0 v1 v2) (v : Value) : BxF (w.setCell ⟨X, 1, none⟩ v) X v0 v v2 :=
  ⟨by simpa using h.lt, by rw [World.cell?_setCell_other _ _ _ _ (by simp)]; exact h.q0, World.cell?_setCell_same _ _ _ h.q1, by rw [World.cell?_setCell_other _ _ _ _ (by simp)]; exact h.q2, fun j => by rw [World.frozen?_setCell]; exact h.fr j⟩
theorem BxF.set2 {w : World} {X : Nat} {v0 v1 v2 : Value} (h : BxF w X v0 v1 v2) (v : Value) : BxF (w.setCell ⟨X, 2, none⟩ v) X v0 v1 v :=
  ⟨by simpa using h.lt, by rw [World.cell?_setCell_other _ _ _ _ (by simp)]; exact h.q0, by rw [World.cell?_setCell_other _ _ _ _ (by simp)]; exact h.q1, World.cell?_setCell_same _ _ _ h.q2, fun j => by rw [World.frozen?_setCell]; exact h.fr j⟩

/-- What scene answers, or throws. -/
def ScnOut (w : World) (R : Nat) (bs : List Int) (e : Ending) (w' : World) : Prop :=
  ((faultF bs).1 = 0 ∧ ∃ a1 a2 a3 c1 c2 c3 l1 h1 l2 h2 l3 h3, e = .returned (.agg #[.slice a1 (decN bs 0) c1, .slice a2 (decN bs 1) c2, .slice a3 (decN bs 2) c3]) ∧
    ScDj w' w.heap.size w'.heap.size a1 a2 a3 (decN bs 0) (decN bs 1) (decN bs 2) (decZ1 bs) (decZ2 bs) (decZ3 bs) l1 h1 l2 h2 l3 h3 ∧ Aside R w w') ∨
  ((faultF bs).1 ≠ 0 ∧ ThrowOut w R (faultF bs) e w')

end Go.Proofs.Ytcjdnomhnlbmbaa
