/-
  Points, triangles and rays as the laws copy and compare them.
-/
import Derived.Test.YtcjdnomhnlbmbaaMarks
import Derived.Test.YtcjdnomhnlbmbaaUtil
namespace Go.Proofs.Ytcjdnomhnlbmbaa
open Go.RowKit

/-- A row of numbers that is being filled from the list zs: the first m are there. -/
def OwnF (w : World) (X : Nat) (zs : List Int) (m : Nat) : Prop := Own .u32 w X 0 (zs.take m ++ List.replicate (zs.length - m) 0)

theorem OwnF.step {w : World} {X : Nat} {zs : List Int} {m : Nat} (h : OwnF w X zs m) (hm : m < zs.length) : OwnF (w.setCell ⟨X, m, none⟩ (.int .u32 (zs.getD m 0))) X zs (m + 1) := by
  have h1 := Own.set h m (zs.getD m 0) (by simp; omega)
  rw [fill_step zs m hm, Nat.zero_add] at h1
  exact h1

theorem OwnF.stepo {w : World} {X : Nat} {zs : List Int} {m : Nat} (h : OwnF w X zs m) (hm : m < zs.length) {o : Nat} (ho : o = m) {v : Int} (hv : v = zs.getD o 0) : OwnF (w.setCell ⟨X, o, none⟩ (.int .u32 v)) X zs (m + 1) := by
  subst ho hv
  exact h.step hm

theorem OwnF.cast {w : World} {X : Nat} {zs : List Int} {m m1 : Nat} (h : OwnF w X zs m) (e : m = m1) : OwnF w X zs m1 := e ▸ h

theorem OwnF.later {w w' : World} {X : Nat} {zs : List Int} {m : Nat} (h : OwnF w X zs m) (hb : Below w.heap.size w w') : OwnF w' X zs m := Own.later h hb

theorem OwnF.cell {w : World} {X : Nat} {zs : List Int} {m : Nat} (h : OwnF w X zs m) (hm : m ≤ zs.length) (j : Nat) (hj : j < zs.length) : ∃ v, w.cell? ⟨X, j, none⟩ = some v := by
  have := Own.cell h j (by simp; omega)
  rw [Nat.zero_add] at this
  exact ⟨_, this⟩

theorem OwnF.free {w : World} {X : Nat} {zs : List Int} {m : Nat} (h : OwnF w X zs m) (hm : m ≤ zs.length) (j : Nat) (hj : j < zs.length) : w.frozen? ⟨X, j, none⟩ = false := by
  have := Own.free h j (by simp; omega)
  rwa [Nat.zero_add] at this

theorem OwnF.whole {w : World} {X B : Nat} {zs : List Int} (h : OwnF w X zs zs.length) (hB : B ≤ X) : RowNew .u32 w B (some ⟨X, 0, none⟩) zs := by
  have := Own.new h hB
  simpa using this

theorem Own.made_flat (w : World) (n k : Nat) (t : TypeId) (hk : 0 < k) : Own .u32 (w.alloc (.cells (madeCells (Array.replicate k (.int .u32 0)) n) t)) w.heap.size 0 (List.replicate n 0) := by
  refine ⟨by simp, fun j hj => ?_, fun j hj => ?_⟩
  · rw [List.length_replicate] at hj
    have : j % k < k := Nat.mod_lt _ hk
    simp [List.getD_eq_getElem?_getD, hj, madeCells, this]
  · simp

theorem OwnF.start (w : World) (zs : List Int) (k : Nat) (t : TypeId) (hk : 0 < k) : OwnF (w.alloc (.cells (madeCells (Array.replicate k (.int .u32 0)) zs.length) t)) w.heap.size zs 0 := by
  unfold OwnF
  simpa using Own.made_flat w zs.length k t hk

/-- A row that is being marked: the first m places hold k0, k0 + 1, .. -/
structure MarkF (w : World) (b off L : Nat) (k0 : Int) (m : Nat) : Prop where
  lt : b < w.heap.size
  done : ∀ j, j < m → w.cell? ⟨b, off + j, none⟩ = some (.int .u32 (k0 + j))
  all : ∀ j, j < L → ∃ v, w.cell? ⟨b, off + j, none⟩ = some v
  free : ∀ j, j < L → w.frozen? ⟨b, off + j, none⟩ = false

theorem MarkF.step {w : World} {b off L : Nat} {k0 : Int} {m : Nat} (h : MarkF w b off L k0 m) (hm : m < L) {o : Nat} (ho : o = off + m) {v : Int} (hv : v = k0 + m) : MarkF (w.setCell ⟨b, o, none⟩ (.int .u32 v)) b off L k0 (m + 1) := by
  subst ho hv
  obtain ⟨u, hu⟩ := h.all m hm
  refine ⟨by simpa using h.lt, fun j hj => ?_, fun j hj => ?_, fun j hj => ?_⟩
  · by_cases e : j = m
    · subst e; exact World.cell?_setCell_same _ _ _ hu
    · rw [World.cell?_setCell_other _ _ _ _ (by intro hh; apply e; have := congrArg Addr.off hh; simp at this; omega)]; exact h.done j (by omega)
  · by_cases e : j = m
    · subst e; exact ⟨_, World.cell?_setCell_same _ _ _ hu⟩
    · rw [World.cell?_setCell_other _ _ _ _ (by intro hh; apply e; have := congrArg Addr.off hh; simp at this; omega)]; exact h.all j hj
  · rw [World.frozen?_setCell]; exact h.free j hj

theorem MarkF.cast {w : World} {b off L : Nat} {k0 : Int} {m m1 : Nat} (h : MarkF w b off L k0 m) (e : m = m1) : MarkF w b off L k0 m1 := e ▸ h

theorem MarkF.row {w : World} {b off L lo hi : Nat} {k0 : Int} (h : MarkF w b off L k0 L) (h1 : lo ≤ b) (h2 : b < hi) : RowIn .u32 w lo hi (some ⟨b, off, none⟩) (marksL k0 L) := by
  refine .inr ⟨b, off, rfl, h1, h2, h.lt, fun j hj => ?_, fun j hj => ?_⟩
  · rw [marks_length] at hj
    rw [marks_get _ _ _ hj]; exact h.done j hj
  · rw [marks_length] at hj; exact h.free j hj

set_option maxRecDepth 100000 in
set_option maxHeartbeats 2000000 in
theorem toPoint_any (x0 x1 x2 : Int) (w : World) :
    Calls Try.prog 91 #[.agg #[.int .u32 x0, .int .u32 x1, .int .u32 x2]] w fun e w' => e = .returned (.agg #[.int .u32 x0, .int .u32 x1, .int .u32 x2]) ∧ Below w.heap.size w w' := by
  go_enter Try.func91, Try.ntmps91
  go_wp2
  refine bodyPost_ret (v := .agg #[.int .u32 x0, .int .u32 x1, .int .u32 x2]) (by simp [results, Try.results91, go_sem]) rfl ?_
  exact ⟨rfl, by repeat first | exact Below.refl _ _ | refine Below.setCell ?_ (by simp <;> omega) _ | refine Below.alloc ?_ (by simp <;> omega) _⟩

set_option maxRecDepth 100000 in
set_option maxHeartbeats 2000000 in
theorem toTri_any (x0 x1 x2 x3 x4 x5 x6 x7 x8 : Int) (w : World) :
    Calls Try.prog 89 #[.agg #[.int .u32 x0, .int .u32 x1, .int .u32 x2, .int .u32 x3, .int .u32 x4, .int .u32 x5, .int .u32 x6, .int .u32 x7, .int .u32 x8]] w fun e w' => e = .returned (.agg #[.int .u32 x0, .int .u32 x1, .int .u32 x2, .int .u32 x3, .int .u32 x4, .int .u32 x5, .int .u32 x6, .int .u32 x7, .int .u32 x8]) ∧ Below w.heap.size w w' := by
  go_enter Try.func89, Try.ntmps89
  go_wp2
  refine bodyPost_ret (v := .agg #[.int .u32 x0, .int .u32 x1, .int .u32 x2]) (by simp [results, Try.results91, go_sem]) rfl ?_
  go_wp2
  refine bodyPost_ret (v := .agg #[.int .u32 x3, .int .u32 x4, .int .u32 x5]) (by simp [results, Try.results91, go_sem]) rfl ?_
  go_wp2
  refine bodyPost_ret (v := .agg #[.int .u32 x6, .int .u32 x7, .int .u32 x8]) (by simp [results, Try.results91, go_sem]) rfl ?_
  go_wp2
  refine bodyPost_ret (v := .agg #[.int .u32 x0, .int .u32 x1, .int .u32 x2, .int .u32 x3, .int .u32 x4, .int .u32 x5, .int .u32 x6, .int .u32 x7, .int .u32 x8]) (by simp [results, Try.results89, go_sem]) rfl ?_
  exact ⟨rfl, by repeat first | exact Below.refl _ _ | refine Below.setCell ?_ (by simp <;> omega) _ | refine Below.alloc ?_ (by simp <;> omega) _⟩

set_option maxRecDepth 100000 in
set_option maxHeartbeats 2000000 in
theorem toRay_any (x0 x1 x2 x3 x4 x5 : Int) (w : World) :
    Calls Try.prog 90 #[.agg #[.int .u32 x0, .int .u32 x1, .int .u32 x2, .int .u32 x3, .int .u32 x4, .int .u32 x5]] w fun e w' => e = .returned (.agg #[.int .u32 x0, .int .u32 x1, .int .u32 x2, .int .u32 x3, .int .u32 x4, .int .u32 x5]) ∧ Below w.heap.size w w' := by
  go_enter Try.func90, Try.ntmps90
  go_wp2
  refine bodyPost_ret (v := .agg #[.int .u32 x0, .int .u32 x1, .int .u32 x2]) (by simp [results, Try.results91, go_sem]) rfl ?_
  go_wp2
  refine bodyPost_ret (v := .agg #[.int .u32 x3, .int .u32 x4, .int .u32 x5]) (by simp [results, Try.results91, go_sem]) rfl ?_
  go_wp2
  refine bodyPost_ret (v := .agg #[.int .u32 x0, .int .u32 x1, .int .u32 x2, .int .u32 x3, .int .u32 x4, .int .u32 x5]) (by simp [results, Try.results90, go_sem]) rfl ?_
  exact ⟨rfl, by repeat first | exact Below.refl _ _ | refine Below.setCell ?_ (by simp <;> omega) _ | refine Below.alloc ?_ (by simp <;> omega) _⟩

end Go.Proofs.Ytcjdnomhnlbmbaa
