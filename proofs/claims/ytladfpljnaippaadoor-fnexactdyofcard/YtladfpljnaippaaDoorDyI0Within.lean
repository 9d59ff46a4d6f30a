/-
  The laws' helpers for Dyadics: sizes, copies, whether two are the same.
-/
import Derived.Test.YtladfpljnaippaaDoorDy6
import Derived.Test.YtladfpljnaippaaDoorBigs
import Derived.Test.YtladfpljnaippaaDoorUtil
import Derived.Deep.RegionHeld3
import Derived.Test.YtladfpljnaippaaDoorBase
namespace Go.Proofs.YtladfpljnaippaaDoor
open Go.RowKit

set_option maxHeartbeats 1000000 in
theorem sz2_any (g : Bool) (a : Option Addr) (n c : Nat) (E l : Int) (w : World) (hn : n ≤ maxLen) (h0 : 0 ≤ l) (h1 : l ≤ 1048576) :
    Calls Tryd.prog 11 #[.agg #[.bool g, .slice a n c, .int .i64 E], .int .i64 l] w fun e w' => e = .returned (.int .i64 (if l < n then -1 else l - n)) ∧ Below w.heap.size w w' := by
  by_cases h : l < n
  · rw [if_pos h]
    go_enter Tryd.func11, Tryd.ntmps11
    go_wp2_with fail
    refine (szB_any g a n c l _ hn h0 h1).mono ?_
    rintro e w1 ⟨rfl, hb1⟩
    rw [if_pos h]
    have HB : Hid (Below w.heap.size w w1) := (bel0 _ _).trans (hb1.mono (by simp))
    clear hb1
    go_wp2
    go_ret
    exact ⟨rfl, HB.out⟩
  · rw [if_neg h]
    have hln : ¬ l - n < 0 := by omega
    go_enter Tryd.func11, Tryd.ntmps11
    go_wp2_with fail
    refine (szB_any g a n c l _ hn h0 h1).mono ?_
    rintro e w1 ⟨rfl, hb1⟩
    rw [if_neg (by omega)]
    have HB : Hid (Below w.heap.size w w1) := (bel0 _ _).trans (hb1.mono (by simp))
    clear hb1
    go_wp2
    go_ret
    exact ⟨rfl, HB.out⟩

set_option maxHeartbeats 2000000 in
theorem to2_any (g : Bool) (a : Option Addr) (c : Nat) (zs : List Int) (E : Int) (w : World) (hn : zs.length ≤ 1048576) (hz : RowAt .u32 w a zs) :
    Calls Tryd.prog 13 #[.agg #[.bool g, .slice a zs.length c, .int .i64 E]] w fun e w' => ∃ a', e = .returned (.agg #[.bool g, .slice a' zs.length zs.length, .int .i64 E]) ∧ RowNew .u32 w' w.heap.size a' zs ∧ Below w.heap.size w w' := by
  go_enter Tryd.func13, Tryd.ntmps13
  go_wp2_with fail
  refine (toB_any g a c zs _ hn (hz.later (bel3 _ _ _ _))).mono ?_
  rintro e w1 ⟨a1, rfl, hr1, hb1⟩
  have q2 : w1.cell? ⟨w.heap.size, 2, none⟩ = some (.int .i64 E) := by rw [(bcell hb1).1 _ _ (by simp; omega)]; simp [go_sem]
  have r1 : w1.cell? ⟨w.heap.size + 1, 0, none⟩ = some (.bool false) := by rw [(bcell hb1).1 _ _ (by simp)]; simp [go_sem]
  have r2 : w1.cell? ⟨w.heap.size + 1, 1, none⟩ = some (.slice none 0 0) := by rw [(bcell hb1).1 _ _ (by simp)]; simp [go_sem]
  have r3 : w1.cell? ⟨w.heap.size + 1, 2, none⟩ = some (.int .i64 0) := by rw [(bcell hb1).1 _ _ (by simp)]; simp [go_sem]
  have r4 : ∀ j, w1.frozen? ⟨w.heap.size + 1, j, none⟩ = false := by intro j; rw [(bcell hb1).2 _ _ (by simp)]; simp [go_sem]
  have p1 : w1.cell? ⟨w.heap.size + 1 + 1, 0, none⟩ = some (.bool false) := by rw [(bcell hb1).1 _ _ (by simp)]; simp [go_sem]
  have p2 : w1.cell? ⟨w.heap.size + 1 + 1, 1, none⟩ = some (.slice none 0 0) := by rw [(bcell hb1).1 _ _ (by simp)]; simp [go_sem]
  have p3 : w1.cell? ⟨w.heap.size + 1 + 1, 2, none⟩ = some (.int .i64 0) := by rw [(bcell hb1).1 _ _ (by simp)]; simp [go_sem]
  have p4 : ∀ j, w1.frozen? ⟨w.heap.size + 1 + 1, j, none⟩ = false := by intro j; rw [(bcell hb1).2 _ _ (by simp)]; simp [go_sem]
  have HR : Hid (RowNew .u32 w1 (w.heap.size + 1 + 1 + 1) a1 zs) := by unfold Hid; simpa using hr1
  have HB : Hid (Below w.heap.size w w1) := (bel3 _ _ _ _).trans (hb1.mono (by simp; omega))
  clear hb1 hr1
  go_wp2
  refine bodyPost_ret (v := .agg #[.bool g, .slice a1 zs.length zs.length, .int .i64 E]) (by simp [results, Tryd.results13, go_sem, r1, r2, r3]) rfl ?_
  refine ⟨a1, rfl, ?_, ?_⟩
  · refine RowNew.down (B := w.heap.size + 1 + 1 + 1) ?_ (by omega)
    repeat' (refine RowNew.setLow ?_ (by simp) _)
    exact HR.out
  · repeat' (refine Below.setCell ?_ (by first | (simp; done) | (simp; omega)) _)
    exact HB.out

set_option maxHeartbeats 2000000 in
theorem eq2_any (g : Bool) (a a' : Option Addr) (c c' : Nat) (zs : List Int) (E : Int) (w : World) (hn : zs.length ≤ maxLen) (hz : RowAt .u32 w a zs) (hy : RowAt .u32 w a' zs) :
    Calls Tryd.prog 8 #[.agg #[.bool g, .slice a zs.length c, .int .i64 E], .agg #[.bool g, .slice a' zs.length c', .int .i64 E]] w fun e w' => e = .returned (.bool true) ∧ Below w.heap.size w w' := by
  have B0 : Hid (∀ t t', Bx6 w (.bool g) (.slice a zs.length c) (.int .i64 E) (.bool g) (.slice a' zs.length c') (.int .i64 E) ((w.alloc (.cells #[.bool g, .slice a zs.length c, .int .i64 E] t)).alloc (.cells #[.bool g, .slice a' zs.length c', .int .i64 E] t'))) := fun t t' => Bx6.start w _ _ _ _ _ _ _ _
  have hEE : (E != E) = false := by simp
  go_enter Tryd.func8, Tryd.ntmps8
  go_wp2_with fail
  refine (eqB_any _ _ _ _ _ _ zs zs _ hn hn (hz.later (B0.out _ _).bel) (hy.later (B0.out _ _).bel)).mono ?_
  rintro e w1 ⟨rfl, hb1⟩
  rw [show decide (g = g ∧ zs = zs) = true from by simp]
  have F1 := (B0.out _ _).later hb1
  have q2 := F1.q2
  have p2 := F1.p2
  have HB : Hid (Below w.heap.size w w1) := F1.bel
  clear hb1 F1 B0
  go_wp2
  go_ret
  exact ⟨rfl, HB.out⟩

end Go.Proofs.YtladfpljnaippaaDoor

/-
  Writes within some blocks; rows that lie in some blocks.
-/
namespace Go.Proofs.YtladfpljnaippaaDoor
open Go.RowKit

/-- Only blocks from lo to below hi have turned. -/
structure Within (lo hi : Nat) (w w' : World) : Prop where
  os : w'.os = w.os
  tape : w'.tape = w.tape
  output : w'.output = w.output
  size : w'.heap.size = w.heap.size
  block : ∀ k, (k < lo ∨ hi ≤ k) → w'.heap[k]? = w.heap[k]?

theorem Within.refl (lo hi : Nat) (w : World) : Within lo hi w w := ⟨rfl, rfl, rfl, rfl, fun _ _ => rfl⟩

theorem Within.below {lo hi : Nat} {w w' : World} (h : Within lo hi w w') : Below lo w w' := ⟨h.os, h.tape, h.output, by rw [h.size]; omega, fun k hk => h.block k (.inl hk)⟩

theorem Within.setCell {lo hi : Nat} {a w : World} (h : Within lo hi a w) {p : Addr} (h1 : lo ≤ p.block) (h2 : p.block < hi) (u : Value) : Within lo hi a (w.setCell p u) :=
  ⟨h.os, h.tape, h.output, by simpa using h.size, fun k hk => (Below.heap_setCell _ _ _ _ (by omega)).trans (h.block k hk)⟩

theorem Within.cell {lo hi : Nat} {w w' : World} (h : Within lo hi w w') {p : Addr} (hp : p.block < lo ∨ hi ≤ p.block) : w'.cell? p = w.cell? p := World.cell?_of_block (w := w) (h.block p.block hp)
theorem Within.frozen {lo hi : Nat} {w w' : World} (h : Within lo hi w w') {p : Addr} (hp : p.block < lo ∨ hi ≤ p.block) : w'.frozen? p = w.frozen? p := World.frozen?_of_block (w := w) (h.block p.block hp)

/-- A row of numbers that may be written, in blocks from lo to below hi. -/
def RowIn (k : IntKind) (w : World) (lo hi : Nat) (a : Option Addr) (zs : List Int) : Prop :=
  zs = [] ∨ ∃ b off, a = some ⟨b, off, none⟩ ∧ lo ≤ b ∧ b < hi ∧ b < w.heap.size ∧ (∀ j, j < zs.length → w.cell? ⟨b, off + j, none⟩ = some (.int k (zs.getD j 0))) ∧ ∀ j, j < zs.length → w.frozen? ⟨b, off + j, none⟩ = false

theorem RowIn.row {k : IntKind} {w : World} {lo hi : Nat} {a : Option Addr} {zs : List Int} (h : RowIn k w lo hi a zs) : RowAt k w a zs := by
  rcases h with h | ⟨b, off, h1, _, _, h2, h3, _⟩
  · exact .inl h
  · exact .inr ⟨b, off, h1, h2, h3⟩

theorem RowNew.rowIn {k : IntKind} {w : World} {B : Nat} {a : Option Addr} {zs : List Int} (h : RowNew k w B a zs) : RowIn k w B w.heap.size a zs := by
  rcases h with h | ⟨b, off, h1, h0, h2, h3, h4⟩
  · exact .inl h
  · exact .inr ⟨b, off, h1, h0, h2, h2, h3, h4⟩

theorem RowIn.later {k : IntKind} {w w' : World} {lo hi : Nat} {a : Option Addr} {zs : List Int} (h : RowIn k w lo hi a zs) (hb : Below w.heap.size w w') : RowIn k w' lo hi a zs := by
  rcases h with h | ⟨b, off, h1, h0, h00, h2, h3, h4⟩
  · exact .inl h
  · exact .inr ⟨b, off, h1, h0, h00, Nat.lt_of_lt_of_le h2 hb.size, fun j hj => (hb.cell (p := ⟨b, off + j, none⟩) h2).trans (h3 j hj), fun j hj => (hb.frozen (p := ⟨b, off + j, none⟩) h2).trans (h4 j hj)⟩

theorem RowIn.apart {k : IntKind} {w w' : World} {lo hi lo' hi' : Nat} {a : Option Addr} {zs : List Int} (h : RowIn k w lo hi a zs) (hb : Within lo' hi' w w') (hd : hi ≤ lo' ∨ hi' ≤ lo) : RowIn k w' lo hi a zs := by
  rcases h with h | ⟨b, off, h1, h0, h00, h2, h3, h4⟩
  · exact .inl h
  · exact .inr ⟨b, off, h1, h0, h00, by rw [hb.size]; exact h2, fun j hj => (hb.cell (p := ⟨b, off + j, none⟩) (by simp; omega)).trans (h3 j hj), fun j hj => (hb.frozen (p := ⟨b, off + j, none⟩) (by simp; omega)).trans (h4 j hj)⟩

end Go.Proofs.YtladfpljnaippaaDoor
