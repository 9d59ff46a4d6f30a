/-
  Dyadic numbers: boxes of three cells; the model's normal forms.
-/
import Derived.Test.YtladfpljnaippabDoorSpecTw
import Derived.Test.YtladfpljnaippabDoorSpecO
import Derived.Test.YtladfpljnaippabDoorSpecH
namespace Go.Proofs.YtladfpljnaippabDoor
open Go.RowKit

/-- A struct of three cells lies behind w, and the answer's, still zero, behind that; nothing of w has turned. -/
structure Bx3 (w : World) (u v e : Value) (W : World) : Prop where
  q0 : W.cell? ⟨w.heap.size, 0, none⟩ = some u
  q1 : W.cell? ⟨w.heap.size, 1, none⟩ = some v
  q2 : W.cell? ⟨w.heap.size, 2, none⟩ = some e
  r1 : W.cell? ⟨w.heap.size + 1, 0, none⟩ = some (.bool false)
  r2 : W.cell? ⟨w.heap.size + 1, 1, none⟩ = some (.slice none 0 0)
  r3 : W.cell? ⟨w.heap.size + 1, 2, none⟩ = some (.int .i64 0)
  r4 : ∀ j, W.frozen? ⟨w.heap.size + 1, j, none⟩ = false
  le : w.heap.size + 1 + 1 ≤ W.heap.size
  bel : Below w.heap.size w W

theorem Bx3.start (w : World) (u v e : Value) (t t' : TypeId) : Bx3 w u v e ((w.alloc (.cells #[u, v, e] t)).alloc (.cells #[.bool false, .slice none 0 0, .int .i64 0] t')) := by
  refine ⟨?_, ?_, ?_, ?_, ?_, ?_, ?_, ?_, bel2 _ _ _⟩
  all_goals simp [go_sem]

theorem Bx3.later {w : World} {u v e : Value} {W W' : World} (h : Bx3 w u v e W) (hb : Below W.heap.size W W') : Bx3 w u v e W' := by
  have hl := h.le
  exact ⟨(hb.cell (by simp; omega)).trans h.q0, (hb.cell (by simp; omega)).trans h.q1, (hb.cell (by simp; omega)).trans h.q2, (hb.cell (by simp; omega)).trans h.r1, (hb.cell (by simp; omega)).trans h.r2, (hb.cell (by simp; omega)).trans h.r3, fun j => (hb.frozen (by simp; omega)).trans (h.r4 j), Nat.le_trans h.le hb.size, h.bel.trans (hb.mono (by omega))⟩

/-- What a function of the model hands back that answers an l2dy: m * 2^e. -/
def L2Out (w : World) (n : Nat) (m e' : Int) (e : Ending) (w' : World) : Prop :=
  ∃ (g : Bool) (a : Option Addr) (c : Nat) (fs : List Int), e = .returned (.agg #[.bool g, .slice a fs.length c, .int .i64 e']) ∧ fs.length ≤ n ∧ L1 w' g a c fs m ∧ Far w.heap.size a fs ∧ Below w.heap.size w w'

/-- m * 2^e' is x * 2^e0 in its normal form. -/
def NormOf (x e0 m e' : Int) (T : Nat) : Prop := (x = 0 ∧ m = 0 ∧ e' = 0) ∨ (x ≠ 0 ∧ ∃ t : Nat, x = m * 2 ^ t ∧ e' = e0 + t ∧ m % 2 = 1 ∧ t ≤ T)

/-- What l2norm hands back. -/
def NormOut (w : World) (n : Nat) (x e0 : Int) (T : Nat) (e : Ending) (w' : World) : Prop := ∃ m e', NormOf x e0 m e' T ∧ L2Out w n m e' e w'

theorem L1.nil (w : World) : L1 w false none 0 [] 0 := ⟨⟨by simp, fun _ => rfl, .inl rfl⟩, ⟨Dig.nil _, rfl⟩, by simp [sg, val], (fun h => by cases h), by unfold maxLen; omega⟩

set_option maxHeartbeats 2000000 in
theorem norm_zero (g : Bool) (a : Option Addr) (c : Nat) (e0 : Int) (w : World) :
    Calls Tryd.prog 75 #[.agg #[.bool g, .slice a ([] : List Int).length c, .int .i64 e0]] w fun e w' => L2Out w 0 0 0 e w' := by
  go_enter Tryd.func75, Tryd.ntmps75
  go_wp2
  refine bodyPost_ret (v := .agg #[.bool false, .slice none 0 0, .int .i64 0]) (by simp [results, Tryd.results75, go_sem]) rfl ?_
  exact ⟨false, none, 0, [], rfl, by simp, L1.nil _, .inl rfl, bel2 _ _ _⟩

theorem norm_of {g : Bool} {v x : Int} {t : Nat} (hx : x = sg g v) (ht : Twos v t) : x = sg g (v / 2 ^ t) * 2 ^ t ∧ sg g (v / 2 ^ t) % 2 = 1 := by
  obtain ⟨h1, h2⟩ := ht.ediv
  cases g
  · have hx : x = v := hx
    refine ⟨?_, h2⟩
    rw [hx]
    exact h1
  · simp only [sg, if_true] at hx ⊢
    refine ⟨?_, by omega⟩
    rw [hx, Int.neg_mul, ← h1]

set_option maxHeartbeats 4000000 in
theorem norm_any (g : Bool) (a : Option Addr) (c : Nat) (ds : List Int) (x e0 : Int) (w : World) (hn : ds.length ≤ 60000) (he0 : -1000000 ≤ e0) (he1 : e0 ≤ 1000000) (h : L1 w g a c ds x) :
    Calls Tryd.prog 75 #[.agg #[.bool g, .slice a ds.length c, .int .i64 e0]] w fun e w' => NormOut w ds.length x e0 (16 * ds.length) e w' := by
  by_cases hd : ds = []
  · subst hd
    have hx : x = 0 := by rw [h.num]; simp [sg, val]
    exact (norm_zero g a c e0 w).mono fun e w' hh => ⟨0, 0, .inl ⟨hx, rfl, rfl⟩, hh⟩
  · have hl0 : ((ds.length : Int) == 0) = false := by rw [beq_eq_false_iff_ne]; have : ds.length ≠ 0 := fun e => hd (List.length_eq_zero_iff.1 e); omega
    have hpos := val_pos (B := 65536) (by decide) h.can hd
    have hx0 : x ≠ 0 := by rw [h.num]; cases g <;> simp [sg] <;> omega
    have B0 : Hid (∀ t t', Bx3 w (.bool g) (.slice a ds.length c) (.int .i64 e0) ((w.alloc (.cells #[.bool g, .slice a ds.length c, .int .i64 e0] t)).alloc (.cells #[.bool false, .slice none 0 0, .int .i64 0] t'))) := fun t t' => Bx3.start w _ _ _ _ _
    go_enter Tryd.func75, Tryd.ntmps75
    go_wp2_with fail
    refine (twos_any g a c ds x _ (by omega) (h.later (bel2 _ _ _)) hd).mono ?_
    rintro e w1 ⟨t, rfl, ht, htw, hb1⟩
    have F1 : Hid (Bx3 w (.bool g) (.slice a ds.length c) (.int .i64 e0) w1) := (B0.out _ _).later hb1
    have HL1 : Hid (L1 w1 g a c ds x) := h.later F1.out.bel
    obtain ⟨hm1, hm2⟩ := norm_of h.num htw
    have HM : Hid (x = sg g (val 65536 ds / 2 ^ t) * 2 ^ t ∧ sg g (val 65536 ds / 2 ^ t) % 2 = 1) := ⟨hm1, hm2⟩
    have q0 := F1.out.q0
    have q1 := F1.out.q1
    clear hb1 B0 hm1 hm2
    go_wp2_with fail
    refine (down_any g a c ds x (t : Int) _ (by omega) (by omega) (by omega) HL1.out).mono ?_
    rintro e w2 ⟨g2, a2, c2, fs, rfl, hl2, hL2, hF2, hb2⟩
    rw [Int.toNat_natCast] at hL2
    have F2 : Hid (Bx3 w (.bool g) (.slice a ds.length c) (.int .i64 e0) w2) := F1.out.later hb2
    have q2 := F2.out.q2
    have r1 := F2.out.r1
    have r2 := F2.out.r2
    have r3 := F2.out.r3
    have r4 := F2.out.r4
    have zz : w.heap.size + 1 < w2.heap.size := F2.out.le
    have zz0 : w.heap.size < w2.heap.size := by omega
    have HL2 : Hid (L1 w2 g2 a2 c2 fs (sg g (val 65536 ds / 2 ^ t))) := hL2
    have HF2 : Hid (Far (w.heap.size + 1 + 1) a2 fs) := hF2.down F1.out.le
    clear hL2 hF2 hb2 q0 q1 HL1
    go_wp2
    refine bodyPost_ret (v := .agg #[.bool g2, .slice a2 fs.length c2, .int .i64 (e0 + t)]) (by simp [results, Tryd.results75, go_sem, r1, r2, r3, zz]) rfl ?_
    refine ⟨_, _, .inr ⟨hx0, t, HM.out.1, rfl, HM.out.2, by omega⟩, g2, a2, c2, fs, rfl, by omega, ?_, HF2.out.down (by omega), ?_⟩
    · exact L1.later (((HL2.out.setFar HF2.out (by simp) _).setFar HF2.out (by simp) _).setFar HF2.out (by simp) _) (bel0 _ _)
    · exact (((F2.out.bel.setCell (by simp) _).setCell (by simp) _).setCell (by simp) _).alloc (by simp; omega) _

end Go.Proofs.YtladfpljnaippabDoor
