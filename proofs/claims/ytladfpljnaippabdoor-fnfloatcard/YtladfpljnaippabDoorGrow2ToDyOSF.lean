/-
  Appending one number to a slice of the call's own, with what stays beside it.
-/
import Derived.Test.YtladfpljnaippabDoorGrowQF
import Derived.Maps.AppendAt
import Derived.Test.YtladfpljnaippabDoorDraw2DrawFbF
import Derived.Test.YtladfpljnaippabDoorSpecGQF
import Derived.Test.YtladfpljnaippabDoorNumFQF
import Derived.Test.YtladfpljnaippabDoorNumWToNumFlF
import Derived.Test.YtladfpljnaippabDoorDy1hQF
namespace Go.Proofs.YtladfpljnaippabDoor
open Go.RowKit

/-- 'append(s, x)' of one number: every block but the slice's own stays, and the slice's block is the old one or a new one. -/
theorem app2 {k : IntKind} {X : Int} {bytes : Nat} {w0 : World} {ops : Array Oper} {rest : List Oper} {o : Oper} {a : Act} {Q : Exit → Act → World → Prop} (hgd : o.guard = none) (s x : Operand) (t : TypeId)
    (ho : o.op = .call { callee := .builtin .append, args := #[s, x], argTypes := #[t, t] })
    (base : Nat) (e : TypeId) (ht : Tryd.prog.underlying t = some (.slice e)) (hinfo : (Tryd.prog.info? e).map (fun i => (i.zero, i.size, i.bytes)) = some (some (.int k 0), 1, bytes)) (hby : bytes ≤ 8)
    (sv : Value) (ys : List Int) (hs : a.eval s = sv) (hx : a.eval x = .slice (some ⟨w0.heap.size, 0, none⟩) 1 1) (hown : w0.ownsRow base e 1 sv ys.length (vals k ys)) (hn : ys.length ≤ 8388608) (hbase : base ≤ w0.heap.size)
    (h : ∀ a' n' c' w', w'.ownsRow base e 1 (.slice a' n' c') (ys ++ [X]).length (vals k (ys ++ [X])) → Below base w0 w' → w0.heap.size < w'.heap.size → (∀ j, j < w0.heap.size → sv.ownBlock ≠ some j → w'.heap[j]? = w0.heap[j]?) → ((Value.slice a' n' c').ownBlock = sv.ownBlock ∨ ∃ j, (Value.slice a' n' c').ownBlock = some j ∧ w0.heap.size ≤ j) → wpList Tryd.prog ops Q rest (a.put o.dst (.slice a' n' c')) w') :
    wpList Tryd.prog ops Q (o :: rest) a (w0.alloc (.cells #[.int k X] e)) := by
  obtain ⟨i0, hi, hz0, hz1, hz2⟩ := info_parts hinfo
  have hb1 : (ys.length + 1) * bytes ≤ (ys.length + 1) * 8 := Nat.mul_le_mul_left _ hby
  refine wpList_append_own_at _ hgd s x t ho base e i0 (.int k 0) 1 bytes ht hi hz0 hz1 hz2 rfl (by decide) sv ys.length (vals k ys) hs (hown.alloc _) ⟨w0.heap.size, 0, none⟩ 1 1 [.int k X] hx rfl ?_ ?_ ?_ ?_ ?_ ?_
  · intro j u hj
    match j, hj with
    | 0, hj => simp at hj; subst hj; simp [Addr.add]
  · intro u hu; simp at hu; subst hu; rfl
  · unfold maxLen; omega
  · omega
  · simp; omega
  · intro v' w' hown' hgrow _ hwhere
    obtain ⟨a', n', c', rfl⟩ : ∃ a' n' c', v' = .slice a' n' c' := by
      rcases hown'.2 with ⟨h1, _⟩ | ⟨g, cap, cur, h1, _⟩
      · exact ⟨_, _, _, h1⟩
      · exact ⟨_, _, _, h1⟩
    have hB : Below base w0 w' := by
      have hb0 : Below base w0 (w0.alloc (.cells #[.int k X] e)) := (Below.refl _ _).alloc hbase _
      refine hb0.grown hgrow (by simp; omega) ?_
      intro kk hk
      rcases hown.2 with ⟨h1, _⟩ | ⟨g, cap, cur, h1, h2, _⟩
      · rw [h1] at hk; simp [Value.ownBlock] at hk
      · rw [h1] at hk; simp [Value.ownBlock] at hk; omega
    have hS : w0.heap.size < w'.heap.size := by
      have := hgrow.size
      simp at this
      omega
    refine h a' n' c' w' ?_ hB hS ?_ ?_
    · rw [vals_snoc] at hown'
      simpa using hown'
    · intro j hj hne
      rw [hgrow.block j (by simp; omega) (fun e => hne e.symm)]
      exact (bel0 w0 (.cells #[.int k X] e)).block j hj
    · rcases hwhere with hw | hw
      · exact .inl hw
      · exact .inr ⟨_, hw, by simp⟩

end Go.Proofs.YtladfpljnaippabDoor

/-
  The model's spoilt Bigs, and any drawn one.
-/
namespace Go.Proofs.YtladfpljnaippabDoor
open Go.RowKit

/-- The number's box (O), the answer's (R); the limbs in memory of their own from w on, in neither box; the reader in block P; of w nothing else has turned. -/
structure SP (w : World) (P R O : Nat) (e : TypeId) (G : Bool) (v : Value) (ys : List Int) (W : World) : Prop where
  r1 : W.cell? ⟨R, 0, none⟩ = some (.bool false)
  r2 : W.cell? ⟨R, 1, none⟩ = some (.slice none 0 0)
  r3 : ∀ j, W.frozen? ⟨R, j, none⟩ = false
  o0 : W.cell? ⟨O, 0, none⟩ = some (.bool G)
  o1 : W.cell? ⟨O, 1, none⟩ = some v
  o2 : ∀ j, W.frozen? ⟨O, j, none⟩ = false
  own : W.ownsRow w.heap.size e 1 v ys.length (vals .u32 ys)
  u : U32 ys
  rd : Rd P W
  asd : Aside P w W
  offR : v.ownBlock ≠ some R
  offO : v.ownBlock ≠ some O
  ord : w.heap.size ≤ R ∧ w.heap.size ≤ O ∧ R ≠ O ∧ R < W.heap.size ∧ O < W.heap.size ∧ P < w.heap.size

section
variable {w : World} {P R O : Nat} {e : TypeId} {G : Bool} {v : Value} {ys : List Int} {W W' : World}

theorem SP.aside (h : SP w P R O e G v ys W) (ha : Aside P W W') (hr : Rd P W') : SP w P R O e G v ys W' := by
  obtain ⟨o1, o2, o3, o4, o5, o6⟩ := h.ord
  have hs := ha.size
  exact ⟨(ha.cell (by simp; omega) (by simp; omega)).trans h.r1, (ha.cell (by simp; omega) (by simp; omega)).trans h.r2, fun j => (ha.frozen (by simp; omega) (by simp; omega)).trans (h.r3 j), (ha.cell (by simp; omega) (by simp; omega)).trans h.o0, (ha.cell (by simp; omega) (by simp; omega)).trans h.o1, fun j => (ha.frozen (by simp; omega) (by simp; omega)).trans (h.o2 j),
    ha.own h.own (by omega), h.u, hr, h.asd.trans ha, h.offR, h.offO, o1, o2, o3, by omega, by omega, o6⟩

/-- Another row of the call's own is laid into the box. -/
theorem SP.put {v' : Value} {ys' : List Int} (h : SP w P R O e G v ys W) (hown : W.ownsRow w.heap.size e 1 v' ys'.length (vals .u32 ys')) (hu : U32 ys') (hR : v'.ownBlock ≠ some R) (hO : v'.ownBlock ≠ some O) : SP w P R O e G v' ys' (W.setCell ⟨O, 1, none⟩ v') := by
  obtain ⟨o1, o2, o3, o4, o5, o6⟩ := h.ord
  have hw : Within O (O + 1) W (W.setCell ⟨O, 1, none⟩ v') := (Within.refl O (O + 1) W).setCell (p := ⟨O, 1, none⟩) (Nat.le_refl _) (Nat.lt_succ_self _) v'
  refine ⟨?_, ?_, ?_, ?_, ?_, ?_, ?_, hu, ?_, ?_, hR, hO, o1, o2, o3, by simpa using o4, by simpa using o5, o6⟩
  · rw [hw.cell (by simp; omega)]; exact h.r1
  · rw [hw.cell (by simp; omega)]; exact h.r2
  · intro j; rw [World.frozen?_setCell]; exact h.r3 j
  · rw [World.cell?_setCell_other _ _ _ _ (by simp)]; exact h.o0
  · exact World.cell?_setCell_same _ _ _ h.o1
  · intro j; rw [World.frozen?_setCell]; exact h.o2 j
  · refine ⟨hown.1, ?_⟩
    rcases hown.2 with g1 | ⟨g, cap, cur, g1, g2, g3, g4⟩
    · exact .inl g1
    · refine .inr ⟨g, cap, cur, g1, g2, ?_, g4⟩
      have : g ≠ O := fun e => hO (by rw [g1, e]; rfl)
      rw [hw.block g (by omega)]
      exact g3
  · exact h.rd.above (B := P + 1) ((Below.refl _ _).setCell (by simp; omega) _) (by omega)
  · exact h.asd.setHigh (by simp; omega) _

/-- What an append leaves. -/
theorem SP.grown {v' : Value} {ys' : List Int} (h : SP w P R O e G v ys W) (hb : Below w.heap.size W W') (hs : W.heap.size < W'.heap.size) (hk : ∀ j, j < W.heap.size → v.ownBlock ≠ some j → W'.heap[j]? = W.heap[j]?) (hv : v'.ownBlock = v.ownBlock ∨ ∃ j, v'.ownBlock = some j ∧ W.heap.size ≤ j)
    (hown : W'.ownsRow w.heap.size e 1 v' ys'.length (vals .u32 ys')) (hu : U32 ys') : SP w P R O e G v' ys' (W'.setCell ⟨O, 1, none⟩ v') := by
  obtain ⟨o1, o2, o3, o4, o5, o6⟩ := h.ord
  have eR : W'.heap[R]? = W.heap[R]? := hk R o4 h.offR
  have eO : W'.heap[O]? = W.heap[O]? := hk O o5 h.offO
  have cR : ∀ j, W'.cell? ⟨R, j, none⟩ = W.cell? ⟨R, j, none⟩ := fun j => World.cell?_of_block (w := W) (a := ⟨R, j, none⟩) eR
  have cO : ∀ j, W'.cell? ⟨O, j, none⟩ = W.cell? ⟨O, j, none⟩ := fun j => World.cell?_of_block (w := W) (a := ⟨O, j, none⟩) eO
  have fR : ∀ j, W'.frozen? ⟨R, j, none⟩ = W.frozen? ⟨R, j, none⟩ := fun j => World.frozen?_of_block (w := W) (a := ⟨R, j, none⟩) eR
  have fO : ∀ j, W'.frozen? ⟨O, j, none⟩ = W.frozen? ⟨O, j, none⟩ := fun j => World.frozen?_of_block (w := W) (a := ⟨O, j, none⟩) eO
  have hR : v'.ownBlock ≠ some R := by
    rcases hv with hv | ⟨j, hv, hj⟩
    · rw [hv]; exact h.offR
    · rw [hv]; intro e; have := Option.some.inj e; omega
  have hO : v'.ownBlock ≠ some O := by
    rcases hv with hv | ⟨j, hv, hj⟩
    · rw [hv]; exact h.offO
    · rw [hv]; intro e; have := Option.some.inj e; omega
  have hw : Within O (O + 1) W' (W'.setCell ⟨O, 1, none⟩ v') := (Within.refl O (O + 1) W').setCell (p := ⟨O, 1, none⟩) (Nat.le_refl _) (Nat.lt_succ_self _) v'
  refine ⟨?_, ?_, ?_, ?_, ?_, ?_, ?_, hu, ?_, ?_, hR, hO, o1, o2, o3, by simp; omega, by simp; omega, o6⟩
  · rw [hw.cell (by simp; omega), cR]; exact h.r1
  · rw [hw.cell (by simp; omega), cR]; exact h.r2
  · intro j; rw [World.frozen?_setCell, fR]; exact h.r3 j
  · rw [World.cell?_setCell_other _ _ _ _ (by simp), cO]; exact h.o0
  · exact World.cell?_setCell_same _ _ _ ((cO 1).trans h.o1)
  · intro j; rw [World.frozen?_setCell, fO]; exact h.o2 j
  · refine ⟨hown.1, ?_⟩
    rcases hown.2 with g1 | ⟨g, cap, cur, g1, g2, g3, g4⟩
    · exact .inl g1
    · refine .inr ⟨g, cap, cur, g1, g2, ?_, g4⟩
      have : g ≠ O := fun e => hO (by rw [g1, e]; rfl)
      rw [hw.block g (by omega)]
      exact g3
  · exact (h.rd.above hb o6).above (B := P + 1) ((Below.refl _ _).setCell (by simp; omega) _) (by omega)
  · exact (h.asd.high hb (Nat.le_refl _)).setHigh (by simp; omega) _

/-- The boxes behind an append. -/
theorem SP.keep (h : SP w P R O e G v ys W) (hk : ∀ j, j < W.heap.size → v.ownBlock ≠ some j → W'.heap[j]? = W.heap[j]?) :
    W'.cell? ⟨O, 0, none⟩ = some (.bool G) ∧ W'.cell? ⟨O, 1, none⟩ = some v ∧ (∀ j, W'.frozen? ⟨O, j, none⟩ = false) ∧ W'.cell? ⟨R, 0, none⟩ = some (.bool false) ∧ W'.cell? ⟨R, 1, none⟩ = some (.slice none 0 0) ∧ (∀ j, W'.frozen? ⟨R, j, none⟩ = false) := by
  obtain ⟨o1, o2, o3, o4, o5, o6⟩ := h.ord
  have eR : W'.heap[R]? = W.heap[R]? := hk R o4 h.offR
  have eO : W'.heap[O]? = W.heap[O]? := hk O o5 h.offO
  exact ⟨(World.cell?_of_block (w := W) (a := ⟨O, 0, none⟩) eO).trans h.o0, (World.cell?_of_block (w := W) (a := ⟨O, 1, none⟩) eO).trans h.o1, fun j => (World.frozen?_of_block (w := W) (a := ⟨O, j, none⟩) eO).trans (h.o2 j),
    (World.cell?_of_block (w := W) (a := ⟨R, 0, none⟩) eR).trans h.r1, (World.cell?_of_block (w := W) (a := ⟨R, 1, none⟩) eR).trans h.r2, fun j => (World.frozen?_of_block (w := W) (a := ⟨R, j, none⟩) eR).trans (h.r3 j)⟩

theorem SP.sign (h : SP w P R O e G v ys W) (G' : Bool) : SP w P R O e G' v ys (W.setCell ⟨O, 0, none⟩ (.bool G')) := by
  obtain ⟨o1, o2, o3, o4, o5, o6⟩ := h.ord
  have hw : Within O (O + 1) W (W.setCell ⟨O, 0, none⟩ (.bool G')) := (Within.refl O (O + 1) W).setCell (p := ⟨O, 0, none⟩) (Nat.le_refl _) (Nat.lt_succ_self _) _
  refine ⟨?_, ?_, ?_, ?_, ?_, ?_, ?_, h.u, ?_, ?_, h.offR, h.offO, o1, o2, o3, by simpa using o4, by simpa using o5, o6⟩
  · rw [hw.cell (by simp; omega)]; exact h.r1
  · rw [hw.cell (by simp; omega)]; exact h.r2
  · intro j; rw [World.frozen?_setCell]; exact h.r3 j
  · exact World.cell?_setCell_same _ _ _ h.o0
  · rw [World.cell?_setCell_other _ _ _ _ (by simp)]; exact h.o1
  · intro j; rw [World.frozen?_setCell]; exact h.o2 j
  · refine ⟨h.own.1, ?_⟩
    rcases h.own.2 with g1 | ⟨g, cap, cur, g1, g2, g3, g4⟩
    · exact .inl g1
    · refine .inr ⟨g, cap, cur, g1, g2, ?_, g4⟩
      have : g ≠ O := fun e => h.offO (by rw [g1, e]; rfl)
      rw [hw.block g (by omega)]
      exact g3
  · exact h.rd.above (B := P + 1) ((Below.refl _ _).setCell (by simp; omega) _) (by omega)
  · exact h.asd.setHigh (by simp; omega) _

/-- The end: the number's box is read into the answer's. -/
theorem SP.out {a : Option Addr} {c n : Nat} (h : SP w P R O e G (.slice a ys.length c) ys W) (hn : ys.length ≤ n) : DrawOut P e w n (.returned (.agg #[.bool G, .slice a ys.length c])) ((W.setCell ⟨R, 0, none⟩ (.bool G)).setCell ⟨R, 1, none⟩ (.slice a ys.length c)) := by
  obtain ⟨o1, o2, o3, o4, o5, o6⟩ := h.ord
  have hw : Within R (R + 1) W ((W.setCell ⟨R, 0, none⟩ (.bool G)).setCell ⟨R, 1, none⟩ (.slice a ys.length c)) := ((Within.refl R (R + 1) W).setCell (p := ⟨R, 0, none⟩) (Nat.le_refl _) (Nat.lt_succ_self _) _).setCell (p := ⟨R, 1, none⟩) (Nat.le_refl _) (Nat.lt_succ_self _) _
  refine ⟨G, a, c, ys, rfl, hn, h.u, ?_, ?_, (h.asd.setHigh (by simp; omega) _).setHigh (by simp; omega) _⟩
  · refine ⟨h.own.1, ?_⟩
    rcases h.own.2 with g1 | ⟨g, cap, cur, g1, g2, g3, g4⟩
    · exact .inl g1
    · refine .inr ⟨g, cap, cur, g1, g2, ?_, g4⟩
      have : g ≠ R := fun e => h.offR (by rw [g1, e]; rfl)
      rw [hw.block g (by omega)]
      exact g3
  · exact h.rd.above (B := P + 1) (((Below.refl _ _).setCell (by simp; omega) _).setCell (by simp; omega) _) (by omega)

end

theorem own_len {X : World} {base : Nat} {e : TypeId} {a : Option Addr} {n c : Nat} {ys : List Int} (h : X.ownsRow base e 1 (.slice a n c) ys.length (vals .u32 ys)) : n = ys.length ∧ n ≤ maxLen := by
  rcases h.2 with ⟨h1, h2⟩ | ⟨g, cap, cur, h1, h2, h3, h4, h5, _⟩
  · injection h1 with e1 e2 e3
    exact ⟨by omega, by rw [e2]; exact Nat.zero_le _⟩
  · injection h1 with e1 e2 e3
    exact ⟨e2, by omega⟩

theorem u32_zero : U32 [0] := by
  intro z hz
  have : z = 0 := by simpa using hz
  subst this
  decide

/-- A slice of one number, written out. -/
theorem own_lit (W : World) (e : TypeId) (y : Int) {base : Nat} (hb : base ≤ W.heap.size) : (W.alloc (.cells #[.int .u32 y] e)).ownsRow base e 1 (.slice (some ⟨W.heap.size, 0, none⟩) ([y] : List Int).length 1) ([y] : List Int).length (vals .u32 [y]) := by
  refine ⟨by simp [vals], .inr ⟨W.heap.size, 1, #[.int .u32 y], rfl, hb, by (first | exact heap_alloc_new _ _ | exact Go.heap_alloc_new _ _), by simp, by unfold maxLen; omega, by simp, by simp [vals]⟩⟩

theorem SP.start {w00 w : World} {P : Nat} {e t t' : TypeId} {G : Bool} {a : Option Addr} {c : Nat} {zs : List Int} (hp : P < w00.heap.size) (hr : Rd P w) (ha : Aside P w00 w) (hown : w.ownsRow w00.heap.size e 1 (.slice a zs.length c) zs.length (vals .u32 zs)) (hu : U32 zs) :
    SP w00 P (w.heap.size + 1) w.heap.size e G (.slice a zs.length c) zs ((w.alloc (.cells #[.bool G, .slice a zs.length c] t)).alloc (.cells #[.bool false, .slice none 0 0] t')) := by
  have hs := ha.size
  have b2 : Below w.heap.size w ((w.alloc (.cells #[.bool G, .slice a zs.length c] t)).alloc (.cells #[.bool false, .slice none 0 0] t')) := bel2 _ _ _
  have hblk : ∀ j, (Value.slice a zs.length c).ownBlock = some j → j < w.heap.size := by
    intro j hj
    rcases hown.2 with ⟨g1, _⟩ | ⟨g, cap, cur, g1, g2, g3, _⟩
    · rw [g1] at hj; simp [Value.ownBlock] at hj
    · rw [g1] at hj
      have : g = j := by simpa [Value.ownBlock] using hj
      subst this
      by_cases hp : g < w.heap.size
      · exact hp
      · rw [Array.getElem?_eq_none (by omega)] at g3; cases g3
  refine ⟨by simp [go_sem], by simp [go_sem], by intro j; simp [go_sem], by simp [go_sem], by simp [go_sem], by intro j; simp [go_sem], (Aside.of (P := P) b2).own hown hp, hu, hr.later b2, ha.trans (Aside.of b2), ?_, ?_, by omega, hs, by omega, by simp, by simp; omega, hp⟩
  · intro e; have := hblk _ e; omega
  · intro e; have := hblk _ e; omega

set_option maxRecDepth 100000 in
set_option maxHeartbeats 8000000 in
theorem spoil_any (P : Nat) (w00 w : World) (G : Bool) (a : Option Addr) (c : Nat) (zs : List Int) (hp : P < w00.heap.size) (hr : Rd P w) (ha : Aside P w00 w) (hown : w.ownsRow w00.heap.size 33 1 (.slice a zs.length c) zs.length (vals .u32 zs)) (hu : U32 zs) (hn : zs.length ≤ 512) :
    Calls Tryd.prog 105 #[.agg #[.bool G, .slice a zs.length c], .pointer (some ⟨P, 0, none⟩)] w fun e w' => DrawOut P 33 w00 513 e w' := by
  have D0 : Hid (∀ t t', SP w00 P (w.heap.size + 1) w.heap.size 33 G (.slice a zs.length c) zs ((w.alloc (.cells #[.bool G, .slice a zs.length c] t)).alloc (.cells #[.bool false, .slice none 0 0] t'))) := fun t t' => SP.start hp hr ha hown hu
  clear hr ha hown hu
  go_enter Tryd.func105, Tryd.ntmps105
  go_wp2_with fail
  refine (next_any P _ (D0.out _ _).rd).mono ?_
  rintro e w1 ⟨kk, rfl, hk0, hk1, hr1, ha1⟩
  have D1 : Hid (SP w00 P (w.heap.size + 1) w.heap.size 33 G (.slice a zs.length c) zs w1) := (D0.out _ _).aside ha1 hr1
  have oR : w.heap.size + 1 < w1.heap.size := D1.out.ord.2.2.2.1
  have oB : w00.heap.size ≤ w1.heap.size := D1.out.asd.size
  have hq0 : 0 ≤ kk % 4 := by omega
  clear hr1 ha1 D0
  have s0 := D1.out.o0
  have s1 := D1.out.o1
  have s2 := D1.out.o2
  have r1 := D1.out.r1
  have r2 := D1.out.r2
  have r3 := D1.out.r3
  have hown := D1.out.own
  rcases (show kk % 4 = 0 ∨ kk % 4 = 1 ∨ kk % 4 = 2 ∨ kk % 4 = 3 by omega) with hc | hc | hc | hc
  · go_wp2_with (at_builtin; refine app2 rfl (.tmp 12) (.tmp 13) 25 rfl w00.heap.size 33 Tryd.underlying25 Tryd.info33 (by decide) _ _ rfl rfl hown (by omega) oB ?_; intro a1 n1 c1 w4 hown1 hb1 hs1 hk hv; obtain ⟨z0, z1, z2, y1, y2, y3⟩ := D1.out.keep hk)
    have D4 := D1.out.grown hb1 hs1 hk hv hown1 (D1.out.u.snoc (by decide) (by decide))
    obtain ⟨e1, e2⟩ := own_len hown1
    subst e1
    refine bodyPost_ret (v := .agg #[.bool G, .slice a1 (zs ++ [0]).length c1]) (by simp [results, Tryd.results105, go_sem, y1, y2]) rfl ?_
    exact D4.out (by simp; omega)
  · have DX := ((D1.out.put (v' := .slice none ([] : List Int).length 0) (ys' := []) (own_nil _ _ _ _) (fun z hz => by cases hz) (by simp [Value.ownBlock]) (by simp [Value.ownBlock])).sign true).out (n := 513) (by simp)
    have HX : Hid (DrawOut P 33 w00 513 (.returned (.agg #[.bool true, .slice none 0 0])) ((((w1.setCell ⟨w.heap.size, 1, none⟩ (.slice none 0 0)).setCell ⟨w.heap.size, 0, none⟩ (.bool true)).setCell ⟨w.heap.size + 1, 0, none⟩ (.bool true)).setCell ⟨w.heap.size + 1, 1, none⟩ (.slice none 0 0))) := DX
    clear DX hown
    go_wp2
    refine bodyPost_ret (v := .agg #[.bool true, .slice none 0 0]) (by simp [results, Tryd.results105, go_sem, r1, r2]) rfl ?_
    exact HX.out
  · go_wp2
    clear hc
    go_loopw [] (fun wr => ∃ (va : Option Addr) (vc : Nat) (ys : List Int), ys.length ≤ 513 ∧ Hid (SP w00 P (w.heap.size + 1) w.heap.size 33 G (.slice va ys.length vc) ys wr)) (fun wr => 513 - boxLen w.heap.size wr)
    case atStart => exact ⟨a, c, zs, by omega, D1⟩
    case round =>
      clear D1 s0 s1 s2 r1 r2 r3 hown oR oB
      obtain ⟨va, vc, ys, hy5, hD⟩ := hrel
      have s0 := hD.out.o0
      have s1 := hD.out.o1
      have s2 := hD.out.o2
      have r1 := hD.out.r1
      have r2 := hD.out.r2
      have r3 := hD.out.r3
      have hown := hD.out.own
      have oB : w00.heap.size ≤ wr.heap.size := hD.out.asd.size
      by_cases hlt : (ys.length : Int) < 513
      · go_wp2_with (at_builtin; refine app2 rfl (.tmp 27) (.tmp 28) 25 rfl w00.heap.size 33 Tryd.underlying25 Tryd.info33 (by decide) _ _ rfl rfl hown (by omega) oB ?_; intro a1 n1 c1 w4 hown1 hb1 hs1 hk hv; obtain ⟨z0, z1, z2, y1, y2, y3⟩ := hD.out.keep hk)
        obtain ⟨e1, e2⟩ := own_len hown1
        subst e1
        have D4 := hD.out.grown hb1 hs1 hk hv hown1 (hD.out.u.snoc (by decide) (by decide))
        have L1 : boxLen w.heap.size wr = ys.length := boxLen_of s1
        have L2 := boxLen_of D4.o1
        go_roundw
        case rel => exact ⟨a1, c1, ys ++ [5], by simp; omega, D4⟩
        case measure => rw [L1, L2]; simp; omega
      · have HX : Hid (DrawOut P 33 w00 513 (.returned (.agg #[.bool G, .slice va ys.length vc])) ((wr.setCell ⟨w.heap.size + 1, 0, none⟩ (.bool G)).setCell ⟨w.heap.size + 1, 1, none⟩ (.slice va ys.length vc))) := hD.out.out (by omega)
        clear hD hown
        go_wp2
        refine bodyPost_ret (v := .agg #[.bool G, .slice va ys.length vc]) (by simp [results, Tryd.results105, go_sem, r1, r2]) rfl ?_
        exact HX.out
  · have DL := D1.out.aside (W' := w1.alloc (.cells #[.int .u32 0] 33)) (Aside.of (bel0 _ _)) (D1.out.rd.later (bel0 _ _))
    have DX := (DL.put (own_lit w1 33 0 oB) u32_zero (by intro e; simp [Value.ownBlock] at e; omega) (by intro e; simp [Value.ownBlock] at e; omega)).out (n := 513) (by simp)
    have oO : w.heap.size < w1.heap.size := by omega
    have HX : Hid (DrawOut P 33 w00 513 (.returned (.agg #[.bool G, .slice (some ⟨w1.heap.size, 0, none⟩) 1 1])) ((((w1.setCell ⟨w.heap.size, 1, none⟩ (.slice (some ⟨w1.heap.size, 0, none⟩) 1 1)).setCell ⟨w.heap.size + 1, 0, none⟩ (.bool G)).setCell ⟨w.heap.size + 1, 1, none⟩ (.slice (some ⟨w1.heap.size, 0, none⟩) 1 1)).alloc (.cells #[.int .u32 0] 33))) := by
      unfold Hid
      simpa [go_sem, oO, oR] using DX
    clear DX DL hown
    go_wp2
    refine bodyPost_ret (v := .agg #[.bool G, .slice (some ⟨w1.heap.size, 0, none⟩) 1 1]) (by simp [results, Tryd.results105, go_sem, r1, r2, oR]) rfl ?_
    exact HX.out

end Go.Proofs.YtladfpljnaippabDoor

/-
  Any drawn Big; a drawn shift.
-/
namespace Go.Proofs.YtladfpljnaippabDoor
open Go.RowKit

/-- The answer's box (R, still zero) while a Big is drawn behind it. -/
structure Rz (w : World) (P R : Nat) (W : World) : Prop where
  r1 : W.cell? ⟨R, 0, none⟩ = some (.bool false)
  r2 : W.cell? ⟨R, 1, none⟩ = some (.slice none 0 0)
  r3 : ∀ j, W.frozen? ⟨R, j, none⟩ = false
  asd : Aside P w W
  ord : w.heap.size ≤ R ∧ R < W.heap.size ∧ P < w.heap.size

theorem Rz.start (w : World) (P : Nat) (hp : P < w.heap.size) (t : TypeId) : Rz w P w.heap.size (w.alloc (.cells #[.bool false, .slice none 0 0] t)) :=
  ⟨by simp [go_sem], by simp [go_sem], by intro j; simp [go_sem], Aside.of (bel0 _ _), Nat.le_refl _, by simp, hp⟩

theorem Rz.aside {w : World} {P R : Nat} {W W' : World} (h : Rz w P R W) (ha : Aside P W W') : Rz w P R W' := by
  obtain ⟨o1, o2, o3⟩ := h.ord
  have hs := ha.size
  exact ⟨(ha.cell (by simp; omega) (by simp; omega)).trans h.r1, (ha.cell (by simp; omega) (by simp; omega)).trans h.r2, fun j => (ha.frozen (by simp; omega) (by simp; omega)).trans (h.r3 j), h.asd.trans ha, o1, by omega, o3⟩

/-- A drawn Big is laid into the answer's box. -/
theorem Rz.out {w W0 W : World} {P R : Nat} {e : TypeId} {G : Bool} {a : Option Addr} {c n : Nat} {zs : List Int} (h : Rz w P R W0) (ha : Aside P W0 W) (hr : Rd P W) (hown : W.ownsRow W0.heap.size e 1 (.slice a zs.length c) zs.length (vals .u32 zs)) (hu : U32 zs) (hn : zs.length ≤ n) :
    DrawOut P e w n (.returned (.agg #[.bool G, .slice a zs.length c])) ((W.setCell ⟨R, 0, none⟩ (.bool G)).setCell ⟨R, 1, none⟩ (.slice a zs.length c)) := by
  obtain ⟨o1, o2, o3⟩ := h.ord
  have hs := h.asd.size
  refine ⟨G, a, c, zs, rfl, hn, hu, own_mono (own_set (own_set hown (by simp; omega) _) (by simp; omega) _) (by omega), ?_, ((h.asd.trans ha).setHigh (by simp; omega) _).setHigh (by simp; omega) _⟩
  exact hr.above (B := P + 1) (((Below.refl _ _).setCell (by simp; omega) _).setCell (by simp; omega) _) (by omega)

set_option maxHeartbeats 4000000 in
theorem drawAny_any (P : Nat) (w : World) (h : Rd P w) :
    Calls Tryd.prog 73 #[.pointer (some ⟨P, 0, none⟩)] w fun e w' => DrawOut P 33 w 513 e w' := by
  have hl := h.lt
  go_enter Tryd.func73, Tryd.ntmps73
  go_wp2_with fail
  refine (next_any P _ (h.later (bel0 _ _))).mono ?_
  rintro e w1 ⟨kk, rfl, hk0, hk1, hr1, ha1⟩
  have R1 : Hid (Rz w P w.heap.size w1) := (Rz.start w P hl _).aside ha1
  have HR1 : Hid (Rd P w1) := hr1
  have hq0 : 0 ≤ kk % 14 := by omega
  clear hr1 ha1
  go_wp2_with fail
  refine (drawBig_any P _ HR1.out).mono ?_
  rintro e w2 ⟨G, a, c, zs, rfl, hn2, hu2, hown2, hr2, ha2⟩
  have R2 : Hid (Rz w P w.heap.size w2) := R1.out.aside ha2
  have oR : w.heap.size < w2.heap.size := R2.out.ord.2.1
  have r1 := R2.out.r1
  have r2 := R2.out.r2
  have r3 := R2.out.r3
  by_cases hz : kk % 14 = 0
  · have hz' : (kk % 14 == 0) = true := by rw [beq_iff_eq]; exact hz
    have hp1 : P < w1.heap.size := by have := R1.out.ord; omega
    have b0 : Below w2.heap.size w2 (w2.alloc (.cells #[.bool G, .slice a zs.length c] 27)) := bel0 _ _
    have S3 := spoil_any P w1 (w2.alloc (.cells #[.bool G, .slice a zs.length c] 27)) G a c zs hp1 (hr2.later b0) (ha2.trans (Aside.of b0)) ((Aside.of (P := P) b0).own hown2 hp1) hu2 hn2
    have HS3 : Hid (Calls Tryd.prog 105 #[.agg #[.bool G, .slice a zs.length c], .pointer (some ⟨P, 0, none⟩)] (w2.alloc (.cells #[.bool G, .slice a zs.length c] 27)) fun e w' => DrawOut P 33 w1 513 e w') := S3
    clear S3 hown2 hr2 ha2 b0 hu2 hz
    go_wp2_with fail
    refine HS3.out.mono ?_
    rintro e w3 ⟨G3, a3, c3, z3, rfl, hn3, hu3, hown3, hr3, ha3⟩
    have HX : Hid (DrawOut P 33 w 513 (.returned (.agg #[.bool G3, .slice a3 z3.length c3])) ((w3.setCell ⟨w.heap.size, 0, none⟩ (.bool G3)).setCell ⟨w.heap.size, 1, none⟩ (.slice a3 z3.length c3))) := R1.out.out ha3 hr3 hown3 hu3 hn3
    have R3 : Hid (Rz w P w.heap.size w3) := R1.out.aside ha3
    have y1 := R3.out.r1
    have y2 := R3.out.r2
    have y3 := R3.out.r3
    clear hown3 hr3 ha3 hu3 r1 r2 r3
    go_wp2
    refine bodyPost_ret (v := .agg #[.bool G3, .slice a3 z3.length c3]) (by simp [results, Tryd.results73, go_sem, y1, y2]) rfl ?_
    exact HX.out
  · have hz' : (kk % 14 == 0) = false := by rw [beq_eq_false_iff_ne]; exact hz
    have b0 : Below w2.heap.size w2 (w2.alloc (.cells #[.bool G, .slice a zs.length c] 27)) := bel0 _ _
    have hp1 : P < w1.heap.size := by have := R1.out.ord; omega
    have DX := R1.out.out (n := 513) (G := G) (ha2.trans (Aside.of b0)) (hr2.later b0) ((Aside.of (P := P) b0).own hown2 hp1) hu2 (by omega)
    have HX : Hid (DrawOut P 33 w 513 (.returned (.agg #[.bool G, .slice a zs.length c])) (((w2.setCell ⟨w.heap.size, 0, none⟩ (.bool G)).setCell ⟨w.heap.size, 1, none⟩ (.slice a zs.length c)).alloc (.cells #[.bool G, .slice a zs.length c] 27))) := by
      unfold Hid
      simpa [go_sem, oR] using DX
    clear DX hown2 hr2 ha2 b0 hu2 hz
    go_wp2
    refine bodyPost_ret (v := .agg #[.bool G, .slice a zs.length c]) (by simp [results, Tryd.results73, go_sem, r1, r2, oR]) rfl ?_
    exact HX.out

end Go.Proofs.YtladfpljnaippabDoor

/-
  Drawn Bigs, spoiled or not, as functions of the reader's bytes.
-/
namespace Go.Proofs.YtladfpljnaippabDoor
open Go.RowKit

/-- A drawn Big, told: what is handed back. -/
def DrawH (P : Nat) (G : Bool) (Z rs' : List Int) (w : World) (e : Ending) (w' : World) : Prop :=
  ∃ (a : Option Addr) (c : Nat), e = .returned (.agg #[.bool G, .slice a Z.length c]) ∧ Z.length ≤ 513 ∧ U32 Z ∧ w'.ownsRow w.heap.size 33 1 (.slice a Z.length c) Z.length (vals .u32 Z) ∧ Rs P rs' w' ∧ Aside P w w'

theorem SP.outH {w : World} {P R O : Nat} {G : Bool} {ys rs : List Int} {W : World} {a : Option Addr} {c : Nat} (h : SP w P R O 33 G (.slice a ys.length c) ys W) (hn : ys.length ≤ 513) (hs : Rs P rs W) : DrawH P G ys rs w (.returned (.agg #[.bool G, .slice a ys.length c])) ((W.setCell ⟨R, 0, none⟩ (.bool G)).setCell ⟨R, 1, none⟩ (.slice a ys.length c)) := by
  obtain ⟨o1, o2, o3, o4, o5, o6⟩ := h.ord
  have hw : Within R (R + 1) W ((W.setCell ⟨R, 0, none⟩ (.bool G)).setCell ⟨R, 1, none⟩ (.slice a ys.length c)) := ((Within.refl R (R + 1) W).setCell (p := ⟨R, 0, none⟩) (Nat.le_refl _) (Nat.lt_succ_self _) _).setCell (p := ⟨R, 1, none⟩) (Nat.le_refl _) (Nat.lt_succ_self _) _
  refine ⟨a, c, rfl, hn, h.u, ?_, ?_, (h.asd.setHigh (by simp; omega) _).setHigh (by simp; omega) _⟩
  · refine ⟨h.own.1, ?_⟩
    rcases h.own.2 with g1 | ⟨g, cap, cur, g1, g2, g3, g4⟩
    · exact .inl g1
    · refine .inr ⟨g, cap, cur, g1, g2, ?_, g4⟩
      have : g ≠ R := fun e => h.offR (by rw [g1, e]; rfl)
      rw [hw.block g (by omega)]
      exact g3
  · exact hs.above (B := P + 1) (((Below.refl _ _).setCell (by simp; omega) _).setCell (by simp; omega) _) (by omega)

/-- What l1spoil makes of a number. -/
def spoilF (G : Bool) (Z rs : List Int) : Bool × List Int :=
  if rs.headD 0 % 4 = 0 then (G, Z ++ [0]) else if rs.headD 0 % 4 = 1 then (true, []) else if rs.headD 0 % 4 = 2 then (G, Z ++ List.replicate (513 - Z.length) 5) else (G, [0])

set_option maxRecDepth 100000 in
set_option maxHeartbeats 8000000 in
theorem spoilH_any (P : Nat) (rs : List Int) (w00 w : World) (G : Bool) (a : Option Addr) (c : Nat) (zs : List Int) (hp : P < w00.heap.size) (hr : Rs P rs w) (ha : Aside P w00 w) (hown : w.ownsRow w00.heap.size 33 1 (.slice a zs.length c) zs.length (vals .u32 zs)) (hu : U32 zs) (hn : zs.length ≤ 512) :
    Calls Tryd.prog 105 #[.agg #[.bool G, .slice a zs.length c], .pointer (some ⟨P, 0, none⟩)] w fun e w' => DrawH P (spoilF G zs rs).1 (spoilF G zs rs).2 rs.tail w00 e w' := by
  have D0 : Hid (∀ t t', SP w00 P (w.heap.size + 1) w.heap.size 33 G (.slice a zs.length c) zs ((w.alloc (.cells #[.bool G, .slice a zs.length c] t)).alloc (.cells #[.bool false, .slice none 0 0] t'))) := fun t t' => SP.start hp hr.rd ha hown hu
  have HS : Hid (Rs P rs w) := hr
  clear hr ha hown hu
  obtain ⟨FS, hFS⟩ : ∃ FS, FS = spoilF G zs rs := ⟨_, rfl⟩
  rw [← hFS]
  have HF : Hid (FS = spoilF G zs rs) := hFS
  clear hFS
  go_enter Tryd.func105, Tryd.ntmps105
  go_wp2_with fail
  refine (nextF_any P rs _ (HS.out.later (bel2 _ _ _))).mono ?_
  rintro e w1 ⟨rfl, hk0, hk1, hr1, ha1⟩
  obtain ⟨kk, hkk⟩ : ∃ kk, kk = rs.headD 0 := ⟨_, rfl⟩
  have HF2 : Hid (FS = if kk % 4 = 0 then (G, zs ++ [0]) else if kk % 4 = 1 then (true, []) else if kk % 4 = 2 then (G, zs ++ List.replicate (513 - zs.length) 5) else (G, [0])) := by unfold Hid; rw [HF.out, hkk]; rfl
  rw [← hkk] at hk0 hk1 ⊢
  clear hkk HF
  have D1 : Hid (SP w00 P (w.heap.size + 1) w.heap.size 33 G (.slice a zs.length c) zs w1) := (D0.out _ _).aside ha1 hr1.rd
  have HS1 : Hid (Rs P rs.tail w1) := hr1
  have oR : w.heap.size + 1 < w1.heap.size := D1.out.ord.2.2.2.1
  have oB : w00.heap.size ≤ w1.heap.size := D1.out.asd.size
  have oW : w00.heap.size ≤ w.heap.size := D1.out.ord.2.1
  have hq0 : 0 ≤ kk % 4 := by omega
  clear hr1 ha1 D0 HS
  have s0 := D1.out.o0
  have s1 := D1.out.o1
  have s2 := D1.out.o2
  have r1 := D1.out.r1
  have r2 := D1.out.r2
  have r3 := D1.out.r3
  have hown := D1.out.own
  rcases (show kk % 4 = 0 ∨ kk % 4 = 1 ∨ kk % 4 = 2 ∨ kk % 4 = 3 by omega) with hc | hc | hc | hc
  · have HFS : Hid (FS = (G, zs ++ [0])) := by unfold Hid; rw [HF2.out, if_pos hc]
    clear HF2
    go_wp2_with (at_builtin; refine app2 rfl (.tmp 12) (.tmp 13) 25 rfl w00.heap.size 33 Tryd.underlying25 Tryd.info33 (by decide) _ _ rfl rfl hown (by omega) oB ?_; intro a1 n1 c1 w4 hown1 hb1 hs1 hk hv; obtain ⟨z0, z1, z2, y1, y2, y3⟩ := D1.out.keep hk)
    have D4 := D1.out.grown hb1 hs1 hk hv hown1 (D1.out.u.snoc (by decide) (by decide))
    obtain ⟨e1, e2⟩ := own_len hown1
    subst e1
    have HS4 : Hid (Rs P rs.tail (w4.setCell ⟨w.heap.size, 1, none⟩ (.slice a1 (zs ++ [0]).length c1))) := HS1.out.above (hb1.setCell (by simpa using oW) _) hp
    refine bodyPost_ret (v := .agg #[.bool G, .slice a1 (zs ++ [0]).length c1]) (by simp [results, Tryd.results105, go_sem, y1, y2]) rfl ?_
    rw [HFS.out]
    exact D4.outH (by simp; omega) HS4.out
  · have HFS : Hid (FS = (true, [])) := by unfold Hid; rw [HF2.out, if_neg (by omega), if_pos hc]
    clear HF2
    have DS1 := (D1.out.put (v' := .slice none ([] : List Int).length 0) (ys' := []) (own_nil _ _ _ _) (fun z hz => by cases hz) (by simp [Value.ownBlock]) (by simp [Value.ownBlock])).sign true
    have HS4 : Rs P rs.tail ((w1.setCell ⟨w.heap.size, 1, none⟩ (.slice none ([] : List Int).length 0)).setCell ⟨w.heap.size, 0, none⟩ (.bool true)) := HS1.out.above (B := w00.heap.size) (((Below.refl _ _).setCell (by simpa using oW) _).setCell (by simpa using oW) _) hp
    have DX := DS1.outH (by simp) HS4
    have HX : Hid (DrawH P true [] rs.tail w00 (.returned (.agg #[.bool true, .slice none 0 0])) ((((w1.setCell ⟨w.heap.size, 1, none⟩ (.slice none 0 0)).setCell ⟨w.heap.size, 0, none⟩ (.bool true)).setCell ⟨w.heap.size + 1, 0, none⟩ (.bool true)).setCell ⟨w.heap.size + 1, 1, none⟩ (.slice none 0 0))) := DX
    clear DX hown DS1 HS4
    go_wp2
    refine bodyPost_ret (v := .agg #[.bool true, .slice none 0 0]) (by simp [results, Tryd.results105, go_sem, r1, r2]) rfl ?_
    rw [HFS.out]
    exact HX.out
  · have HFS : Hid (FS = (G, zs ++ List.replicate (513 - zs.length) 5)) := by unfold Hid; rw [HF2.out, if_neg (by omega), if_neg (by omega), if_pos hc]
    clear HF2
    go_wp2
    clear hc
    go_loopw [] (fun wr => ∃ (va : Option Addr) (vc : Nat) (ys : List Int), ys.length ≤ 513 ∧ Hid (ys = zs ++ List.replicate (ys.length - zs.length) 5) ∧ zs.length ≤ ys.length ∧ Hid (Rs P rs.tail wr) ∧ Hid (SP w00 P (w.heap.size + 1) w.heap.size 33 G (.slice va ys.length vc) ys wr)) (fun wr => 513 - boxLen w.heap.size wr)
    case atStart => exact ⟨a, c, zs, by omega, (by simp : zs = zs ++ List.replicate (zs.length - zs.length) 5), Nat.le_refl _, HS1, D1⟩
    case round =>
      clear D1 s0 s1 s2 r1 r2 r3 hown oR oB HS1
      obtain ⟨va, vc, ys, hy5, hys, hzy, hRs, hD⟩ := hrel
      have s0 := hD.out.o0
      have s1 := hD.out.o1
      have s2 := hD.out.o2
      have r1 := hD.out.r1
      have r2 := hD.out.r2
      have r3 := hD.out.r3
      have hown := hD.out.own
      have oB : w00.heap.size ≤ wr.heap.size := hD.out.asd.size
      by_cases hlt : (ys.length : Int) < 513
      · go_wp2_with (at_builtin; refine app2 rfl (.tmp 27) (.tmp 28) 25 rfl w00.heap.size 33 Tryd.underlying25 Tryd.info33 (by decide) _ _ rfl rfl hown (by omega) oB ?_; intro a1 n1 c1 w4 hown1 hb1 hs1 hk hv; obtain ⟨z0, z1, z2, y1, y2, y3⟩ := hD.out.keep hk)
        obtain ⟨e1, e2⟩ := own_len hown1
        subst e1
        have D4 := hD.out.grown hb1 hs1 hk hv hown1 (hD.out.u.snoc (by decide) (by decide))
        have L1 : boxLen w.heap.size wr = ys.length := boxLen_of s1
        have L2 := boxLen_of D4.o1
        have hys2 : ys ++ [5] = zs ++ List.replicate ((ys ++ [5]).length - zs.length) 5 := by
          rw [List.length_append, List.length_singleton, show ys.length + 1 - zs.length = (ys.length - zs.length) + 1 by omega, List.replicate_succ', ← List.append_assoc]
          rw [← hys.out]
        have HS4 : Rs P rs.tail (w4.setCell ⟨w.heap.size, 1, none⟩ (.slice a1 (ys ++ [5]).length c1)) := hRs.out.above (hb1.setCell (by simpa using oW) _) hp
        go_roundw
        case rel => exact ⟨a1, c1, ys ++ [5], by simp; omega, hys2, by simp; omega, HS4, D4⟩
        case measure => rw [L1, L2]; simp; omega
      · have HX : Hid (DrawH P G ys rs.tail w00 (.returned (.agg #[.bool G, .slice va ys.length vc])) ((wr.setCell ⟨w.heap.size + 1, 0, none⟩ (.bool G)).setCell ⟨w.heap.size + 1, 1, none⟩ (.slice va ys.length vc))) := hD.out.outH (by omega) hRs.out
        have HY : Hid (ys = zs ++ List.replicate (513 - zs.length) 5) := by
          unfold Hid
          have h := hys.out
          rw [show ys.length = 513 by omega] at h
          exact h
        clear hD hown hys
        go_wp2
        refine bodyPost_ret (v := .agg #[.bool G, .slice va ys.length vc]) (by simp [results, Tryd.results105, go_sem, r1, r2]) rfl ?_
        rw [HFS.out, ← HY.out]
        exact HX.out
  · have HFS : Hid (FS = (G, [0])) := by unfold Hid; rw [HF2.out, if_neg (by omega), if_neg (by omega), if_neg (by omega)]
    clear HF2
    have DL := D1.out.aside (W' := w1.alloc (.cells #[.int .u32 0] 33)) (Aside.of (bel0 _ _)) (D1.out.rd.later (bel0 _ _))
    have DP := DL.put (own_lit w1 33 0 oB) u32_zero (by intro e; simp [Value.ownBlock] at e; omega) (by intro e; simp [Value.ownBlock] at e; omega)
    have HS4 : Rs P rs.tail ((w1.alloc (.cells #[.int .u32 0] 33)).setCell ⟨w.heap.size, 1, none⟩ (.slice (some ⟨w1.heap.size, 0, none⟩) ([0] : List Int).length 1)) := (HS1.out.later (bel0 _ _)).above (B := w00.heap.size) ((Below.refl _ _).setCell (by simpa using oW) _) hp
    have DX := DP.outH (by simp) HS4
    have oO : w.heap.size < w1.heap.size := by omega
    have HX : Hid (DrawH P G [0] rs.tail w00 (.returned (.agg #[.bool G, .slice (some ⟨w1.heap.size, 0, none⟩) 1 1])) ((((w1.setCell ⟨w.heap.size, 1, none⟩ (.slice (some ⟨w1.heap.size, 0, none⟩) 1 1)).setCell ⟨w.heap.size + 1, 0, none⟩ (.bool G)).setCell ⟨w.heap.size + 1, 1, none⟩ (.slice (some ⟨w1.heap.size, 0, none⟩) 1 1)).alloc (.cells #[.int .u32 0] 33))) := by
      unfold Hid
      simpa [go_sem, oO, oR] using DX
    clear DX DL DP HS4 hown
    go_wp2
    refine bodyPost_ret (v := .agg #[.bool G, .slice (some ⟨w1.heap.size, 0, none⟩) 1 1]) (by simp [results, Tryd.results105, go_sem, r1, r2, oR]) rfl ?_
    rw [HFS.out]
    exact HX.out

end Go.Proofs.YtladfpljnaippabDoor

/-
  The model's numbers of at most two digits, with a sign.
-/
namespace Go.Proofs.YtladfpljnaippabDoor
open Go.RowKit

/-- The digits of a number below 2^32. -/
def sdig (V : Int) : List Int := if V = 0 then [] else if V < 65536 then [V] else [V % 65536, V / 65536]

theorem l1_sdig {w : World} {g : Bool} {a : Option Addr} {c : Nat} {v V : Int} (h0 : 0 ≤ V) (h1 : V < 4294967296) (hv : v = sg g V) (hg : g = true → V ≠ 0) (hc : c ≤ maxLen) (h : Sl .i64 w a c (sdig V)) : L1 w g a c (sdig V) v := by
  by_cases hz : V = 0
  · have e : sdig V = [] := by unfold sdig; rw [if_pos hz]
    rw [e] at h ⊢
    exact ⟨h, ⟨Dig.nil _, rfl⟩, by rw [hv, hz]; rfl, fun h2 => absurd hz (hg h2), hc⟩
  · by_cases hs : V < 65536
    · have e : sdig V = [V] := by unfold sdig; rw [if_neg hz, if_pos hs]
      rw [e] at h ⊢
      exact ⟨h, ⟨Dig.cons h0 hs (Dig.nil _), by simp [trimL, hz]⟩, by rw [hv]; simp [val], by simp, hc⟩
    · have e : sdig V = [V % 65536, V / 65536] := by unfold sdig; rw [if_neg hz, if_neg hs]
      have hq : V / 65536 ≠ 0 := by omega
      rw [e] at h ⊢
      exact ⟨h, ⟨Dig.cons (by omega) (by omega) (Dig.cons (by omega) (by omega) (Dig.nil _)), by simp [trimL, hq]⟩, by rw [hv]; congr 1; simp [val]; omega, by simp, hc⟩

/-- What l1small hands back. -/
def Small2Out (w : World) (v : Int) (e : Ending) (w' : World) : Prop :=
  ∃ (g : Bool) (a : Option Addr) (c : Nat) (ds : List Int), e = .returned (.agg #[.bool g, .slice a ds.length c]) ∧ ds.length ≤ 2 ∧ L1 w' g a c ds v ∧ Far (w.heap.size + 1) a ds ∧ Below w.heap.size w w'

theorem wrap_i64 {n : Int} (h0 : 0 ≤ n) (h1 : n < 9223372036854775808) : IntKind.i64.wrap n = n := by
  simp [IntKind.wrap, IntKind.bits, IntKind.signed]
  omega

set_option maxHeartbeats 4000000 in
theorem small2_pos (v : Int) (w : World) (h0 : 0 ≤ v) (h1 : v < 4294967296) :
    Calls Tryd.prog 56 #[.int .i64 v] w fun e w' => Small2Out w v e w' := by
  obtain ⟨V, hV⟩ : ∃ V, V = v := ⟨_, rfl⟩
  have hV0 : 0 ≤ V := by omega
  have hV1 : V < 4294967296 := by omega
  have HVV : Hid (V = v) := hV
  clear hV
  go_enter Tryd.func56, Tryd.ntmps56
  go_wp2
  go_loopw [4, 5] (fun su sd wr => ∃ (u : Int) (ys : List Int), su = .int .u64 u ∧ ((u = V ∧ ys = []) ∨ (u = V / 65536 ∧ ys = [V % 65536] ∧ 0 < V) ∨ (u = 0 ∧ ys = [V % 65536, V / 65536] ∧ 65536 ≤ V)) ∧ wr.ownsRow (w.heap.size + 1) 3 1 sd ys.length (vals .i64 ys) ∧ Below (w.heap.size + 1) (w.alloc (.cells #[.bool false, .slice none 0 0] 64)) wr ∧ w.heap.size + 1 ≤ wr.heap.size) (fun su _ _ => (intOf su).toNat)
  case atStart => exact ⟨V, [], by rw [HVV.out], .inl ⟨rfl, rfl⟩, own_nil _ _ _ _, Below.refl _ _, by simp⟩
  case round =>
    obtain ⟨u, ys, rfl, hcase, hown, hnx, hsz⟩ := hrel
    have hu0 : 0 ≤ u := by omega
    have hu1 : u < 4294967296 := by omega
    by_cases hu : 0 < u
    · have E1 : Hid (IntKind.i64.wrap (u % 65536) = u % 65536) := wrap_i64 (by omega) (by omega)
      rcases hcase with ⟨hc1, hc2⟩ | ⟨hc1, hc2, hc3⟩ | ⟨hc1, _, _⟩
      · subst hc2
        have HC : Hid (_ = _) := hc1
        clear hc1
        go_wp2_with (at_builtin; refine app1 rfl (.tmp 15) (.tmp 19) 62 rfl (w.heap.size + 1) 3 Tryd.underlying62 Tryd.info3 (by decide) _ _ rfl rfl hown (by simp) hsz ?_; intro a1 n1 c1 w1 hown1 hb1 hs1)
        go_roundw
        case rel => exact ⟨u / 65536, [u % 65536], rfl, .inr (.inl ⟨by rw [HC.out], by rw [HC.out], by have := HC.out; omega⟩), hown1, hnx.trans hb1, by omega⟩
        case measure => simp only [intOf]; omega
      · subst hc2
        have HC : Hid (_ = _) := hc1
        clear hc1
        go_wp2_with (at_builtin; refine app1 rfl (.tmp 15) (.tmp 19) 62 rfl (w.heap.size + 1) 3 Tryd.underlying62 Tryd.info3 (by decide) _ _ rfl rfl hown (by simp) hsz ?_; intro a1 n1 c1 w1 hown1 hb1 hs1)
        go_roundw
        case rel => exact ⟨u / 65536, [V % 65536, u % 65536], rfl, .inr (.inr ⟨by have := HC.out; omega, by have := HC.out; have e : u % 65536 = V / 65536 := (by omega); rw [e], by have := HC.out; omega⟩), hown1, hnx.trans hb1, by omega⟩
        case measure => simp only [intOf]; omega
      · omega
    · have hu00 : u = 0 := by omega
      subst hu00
      have hys : ys = sdig V := by
        unfold sdig
        rcases hcase with ⟨hc1, hc2⟩ | ⟨hc1, hc2, hc3⟩ | ⟨hc1, hc2, hc3⟩
        · rw [hc2, if_pos hc1.symm]
        · rw [hc2, if_neg (by omega), if_pos (by omega), Int.emod_eq_of_lt (by omega) (by omega)]
        · rw [hc2, if_neg (by omega), if_neg (by omega)]
      obtain ⟨a', c', rfl, hcm, hsl, hrn⟩ := own_row hown
      have r1 : wr.cell? ⟨w.heap.size, 0, none⟩ = some (.bool false) := by rw [hnx.cell (by simp)]; simp [go_sem]
      have r2 : wr.cell? ⟨w.heap.size, 1, none⟩ = some (.slice none 0 0) := by rw [hnx.cell (by simp)]; simp [go_sem]
      have r3 : ∀ j, wr.frozen? ⟨w.heap.size, j, none⟩ = false := by intro j; rw [hnx.frozen (by simp)]; simp [go_sem]
      have HF : Hid (Far (w.heap.size + 1) a' ys) := hrn.far (Nat.le_refl _) (Nat.le_refl _)
      have HL : Hid (L1 wr false a' c' ys v) := by unfold Hid; rw [hys] at hsl ⊢; exact l1_sdig hV0 hV1 (by have := HVV.out; simp [sg]; omega) (by intro h; cases h) hcm hsl
      have HB : Hid (Below w.heap.size w wr) := (bel0 _ _).trans (hnx.mono (by omega))
      have hyl : ys.length ≤ 2 := by rw [hys]; unfold sdig; split <;> (try split) <;> simp
      clear hown hnx hsl hrn hcase hys
      go_wp2
      refine bodyPost_ret (v := .agg #[.bool false, .slice a' ys.length c']) (by simp [results, Tryd.results56, go_sem, r1, r2, h0]) rfl ?_
      refine ⟨false, a', c', ys, rfl, hyl, ?_, HF.out, ?_⟩
      · exact (HL.out.setFar HF.out (by simp) _).setFar HF.out (by simp) _
      · exact (HB.out.setCell (by simp) _).setCell (by simp) _

set_option maxHeartbeats 4000000 in
theorem small2_neg (v : Int) (w : World) (h0 : v < 0) (h1 : -4294967296 < v) :
    Calls Tryd.prog 56 #[.int .i64 v] w fun e w' => Small2Out w v e w' := by
  obtain ⟨V, hV⟩ : ∃ V, V = -v := ⟨_, rfl⟩
  have hV0 : 0 ≤ V := by omega
  have hV1 : V < 4294967296 := by omega
  have HVV : Hid (V = -v) := hV
  clear hV
  go_enter Tryd.func56, Tryd.ntmps56
  go_wp2
  go_loopw [4, 5] (fun su sd wr => ∃ (u : Int) (ys : List Int), su = .int .u64 u ∧ ((u = V ∧ ys = []) ∨ (u = V / 65536 ∧ ys = [V % 65536] ∧ 0 < V) ∨ (u = 0 ∧ ys = [V % 65536, V / 65536] ∧ 65536 ≤ V)) ∧ wr.ownsRow (w.heap.size + 1) 3 1 sd ys.length (vals .i64 ys) ∧ Below (w.heap.size + 1) (w.alloc (.cells #[.bool false, .slice none 0 0] 64)) wr ∧ w.heap.size + 1 ≤ wr.heap.size) (fun su _ _ => (intOf su).toNat)
  case atStart => exact ⟨V, [], by rw [HVV.out]; exact congrArg _ (by simp [IntKind.wrap, IntKind.bits, IntKind.signed]; omega), .inl ⟨rfl, rfl⟩, own_nil _ _ _ _, Below.refl _ _, by simp⟩
  case round =>
    obtain ⟨u, ys, rfl, hcase, hown, hnx, hsz⟩ := hrel
    have hu0 : 0 ≤ u := by omega
    have hu1 : u < 4294967296 := by omega
    by_cases hu : 0 < u
    · have E1 : Hid (IntKind.i64.wrap (u % 65536) = u % 65536) := wrap_i64 (by omega) (by omega)
      rcases hcase with ⟨hc1, hc2⟩ | ⟨hc1, hc2, hc3⟩ | ⟨hc1, _, _⟩
      · subst hc2
        have HC : Hid (_ = _) := hc1
        clear hc1
        go_wp2_with (at_builtin; refine app1 rfl (.tmp 15) (.tmp 19) 62 rfl (w.heap.size + 1) 3 Tryd.underlying62 Tryd.info3 (by decide) _ _ rfl rfl hown (by simp) hsz ?_; intro a1 n1 c1 w1 hown1 hb1 hs1)
        go_roundw
        case rel => exact ⟨u / 65536, [u % 65536], rfl, .inr (.inl ⟨by rw [HC.out], by rw [HC.out], by have := HC.out; omega⟩), hown1, hnx.trans hb1, by omega⟩
        case measure => simp only [intOf]; omega
      · subst hc2
        have HC : Hid (_ = _) := hc1
        clear hc1
        go_wp2_with (at_builtin; refine app1 rfl (.tmp 15) (.tmp 19) 62 rfl (w.heap.size + 1) 3 Tryd.underlying62 Tryd.info3 (by decide) _ _ rfl rfl hown (by simp) hsz ?_; intro a1 n1 c1 w1 hown1 hb1 hs1)
        go_roundw
        case rel => exact ⟨u / 65536, [V % 65536, u % 65536], rfl, .inr (.inr ⟨by have := HC.out; omega, by have := HC.out; have e : u % 65536 = V / 65536 := (by omega); rw [e], by have := HC.out; omega⟩), hown1, hnx.trans hb1, by omega⟩
        case measure => simp only [intOf]; omega
      · omega
    · have hu00 : u = 0 := by omega
      subst hu00
      have hys : ys = sdig V := by
        unfold sdig
        rcases hcase with ⟨hc1, hc2⟩ | ⟨hc1, hc2, hc3⟩ | ⟨hc1, hc2, hc3⟩
        · rw [hc2, if_pos hc1.symm]
        · rw [hc2, if_neg (by omega), if_pos (by omega), Int.emod_eq_of_lt (by omega) (by omega)]
        · rw [hc2, if_neg (by omega), if_neg (by omega)]
      obtain ⟨a', c', rfl, hcm, hsl, hrn⟩ := own_row hown
      have r1 : wr.cell? ⟨w.heap.size, 0, none⟩ = some (.bool false) := by rw [hnx.cell (by simp)]; simp [go_sem]
      have r2 : wr.cell? ⟨w.heap.size, 1, none⟩ = some (.slice none 0 0) := by rw [hnx.cell (by simp)]; simp [go_sem]
      have r3 : ∀ j, wr.frozen? ⟨w.heap.size, j, none⟩ = false := by intro j; rw [hnx.frozen (by simp)]; simp [go_sem]
      have HF : Hid (Far (w.heap.size + 1) a' ys) := hrn.far (Nat.le_refl _) (Nat.le_refl _)
      have HL : Hid (L1 wr true a' c' ys v) := by unfold Hid; rw [hys] at hsl ⊢; exact l1_sdig hV0 hV1 (by have := HVV.out; simp [sg]; omega) (by have := HVV.out; intro _; omega) hcm hsl
      have HB : Hid (Below w.heap.size w wr) := (bel0 _ _).trans (hnx.mono (by omega))
      have hyl : ys.length ≤ 2 := by rw [hys]; unfold sdig; split <;> (try split) <;> simp
      clear hown hnx hsl hrn hcase hys
      go_wp2
      refine bodyPost_ret (v := .agg #[.bool true, .slice a' ys.length c']) (by simp [results, Tryd.results56, go_sem, r1, r2]) rfl ?_
      refine ⟨true, a', c', ys, rfl, hyl, ?_, HF.out, ?_⟩
      · exact (HL.out.setFar HF.out (by simp) _).setFar HF.out (by simp) _
      · exact (HB.out.setCell (by simp) _).setCell (by simp) _

theorem small2_any (v : Int) (w : World) (h0 : -4294967296 < v) (h1 : v < 4294967296) :
    Calls Tryd.prog 56 #[.int .i64 v] w fun e w' => Small2Out w v e w' := by
  by_cases h : 0 ≤ v
  · exact small2_pos v w h h1
  · exact small2_neg v w (by omega) h0

end Go.Proofs.YtladfpljnaippabDoor

/-
  The model's value of a float.
-/
namespace Go.Proofs.YtladfpljnaippabDoor
open Go.RowKit

set_option maxHeartbeats 4000000 in
theorem float2_bp (b : Int) (w : World) (h0 : 0 ≤ b) (h1 : b < 4294967296) (hE : 0 < b / 8388608 % 256) (hS : ¬ 2147483648 ≤ b) :
    Calls Tryd.prog 37 #[.int .u32 b] w fun e w' => NormOut w 2 (fNum b) (fExp b - 150) 32 e w' := by
  have HX : Hid (b % 8388608 + 8388608 = fNum b) := by
    unfold Hid fNum fMag
    rw [if_neg (by omega)]
    rw [if_neg (by omega)]
  have HY : Hid (b / 8388608 % 256 - 150 = fExp b - 150) := by
    unfold Hid fExp
    rw [if_neg (by omega)]
  have HX1 : Hid (-4294967296 < fNum b ∧ fNum b < 4294967296) := by
    unfold Hid
    rw [← HX.out]
    omega
  have HY1 : Hid (-150 ≤ fExp b - 150 ∧ fExp b - 150 ≤ 200) := by
    unfold Hid
    rw [← HY.out]
    omega
  have HB0 : Hid (∀ t, Has3 w.heap.size (w.alloc (.cells #[.bool false, .slice none 0 0, .int .i64 0] t))) := fun t => Has3.new w t
  go_enter Tryd.func37, Tryd.ntmps37
  go_wp2_with fail
  rw [HX.out]
  refine (small2_any (fNum b) _ HX1.out.1 HX1.out.2).mono ?_
  rintro e w1 ⟨g1, a1, c1, ds, rfl, hl1, hL1, hF1, hb1⟩
  have K1 : Hid (Has3 w.heap.size w1) := (HB0.out _).later hb1
  have B1 : Hid (Below w.heap.size w w1) := (bel0 _ _).trans (hb1.mono (by simp))
  have HL1 : Hid (L1 w1 g1 a1 c1 ds (fNum b)) := hL1
  clear hb1 hF1 hL1
  go_wp2_with fail
  rw [HY.out]
  refine (norm_any g1 a1 c1 ds _ _ _ (by omega) (by have := HY1.out; omega) (by have := HY1.out; omega) HL1.out).mono ?_
  rintro e w2 ⟨m, e', hnf, g2, a2, c2, fs, rfl, hl2, hL2, hF2, hb2⟩
  have K2 : Hid (Has3 w.heap.size w2) := K1.out.later hb2
  have B2 : Hid (Below w.heap.size w w2) := B1.out.trans (hb2.mono B1.out.size)
  have HL2 : Hid (L1 w2 g2 a2 c2 fs m) := hL2
  have HF2 : Hid (Far (w.heap.size + 1) a2 fs) := hF2.down K1.out.lt
  have HN : Hid (NormOf (fNum b) (fExp b - 150) m e' 32) := by
    rcases hnf with h | ⟨h1, t, h2, h3, h4, h5⟩
    · exact .inl h
    · exact .inr ⟨h1, t, h2, h3, h4, by omega⟩
  have r1 := K2.out.r1
  have r2 := K2.out.r2
  have r3 := K2.out.r3
  have r4 := K2.out.r4
  clear hL2 hF2 hb2 hnf HB0
  go_wp2
  refine bodyPost_ret (v := .agg #[.bool g2, .slice a2 fs.length c2, .int .i64 e']) (by simp [results, Tryd.results37, go_sem, r1, r2, r3]) rfl ?_
  refine ⟨m, e', HN.out, g2, a2, c2, fs, rfl, by omega, ?_, HF2.out.down (by omega), ?_⟩
  · exact ((HL2.out.setFar HF2.out (by simp) _).setFar HF2.out (by simp) _).setFar HF2.out (by simp) _
  · exact ((B2.out.setCell (by simp) _).setCell (by simp) _).setCell (by simp) _

set_option maxHeartbeats 4000000 in
theorem float2_bn (b : Int) (w : World) (h0 : 0 ≤ b) (h1 : b < 4294967296) (hE : 0 < b / 8388608 % 256) (hS : 2147483648 ≤ b) :
    Calls Tryd.prog 37 #[.int .u32 b] w fun e w' => NormOut w 2 (fNum b) (fExp b - 150) 32 e w' := by
  have HX : Hid (-(b % 8388608 + 8388608) = fNum b) := by
    unfold Hid fNum fMag
    rw [if_pos hS]
    rw [if_neg (by omega)]
  have HY : Hid (b / 8388608 % 256 - 150 = fExp b - 150) := by
    unfold Hid fExp
    rw [if_neg (by omega)]
  have HX1 : Hid (-4294967296 < fNum b ∧ fNum b < 4294967296) := by
    unfold Hid
    rw [← HX.out]
    omega
  have HY1 : Hid (-150 ≤ fExp b - 150 ∧ fExp b - 150 ≤ 200) := by
    unfold Hid
    rw [← HY.out]
    omega
  have HB0 : Hid (∀ t, Has3 w.heap.size (w.alloc (.cells #[.bool false, .slice none 0 0, .int .i64 0] t))) := fun t => Has3.new w t
  go_enter Tryd.func37, Tryd.ntmps37
  go_wp2_with fail
  rw [HX.out]
  refine (small2_any (fNum b) _ HX1.out.1 HX1.out.2).mono ?_
  rintro e w1 ⟨g1, a1, c1, ds, rfl, hl1, hL1, hF1, hb1⟩
  have K1 : Hid (Has3 w.heap.size w1) := (HB0.out _).later hb1
  have B1 : Hid (Below w.heap.size w w1) := (bel0 _ _).trans (hb1.mono (by simp))
  have HL1 : Hid (L1 w1 g1 a1 c1 ds (fNum b)) := hL1
  clear hb1 hF1 hL1
  go_wp2_with fail
  rw [HY.out]
  refine (norm_any g1 a1 c1 ds _ _ _ (by omega) (by have := HY1.out; omega) (by have := HY1.out; omega) HL1.out).mono ?_
  rintro e w2 ⟨m, e', hnf, g2, a2, c2, fs, rfl, hl2, hL2, hF2, hb2⟩
  have K2 : Hid (Has3 w.heap.size w2) := K1.out.later hb2
  have B2 : Hid (Below w.heap.size w w2) := B1.out.trans (hb2.mono B1.out.size)
  have HL2 : Hid (L1 w2 g2 a2 c2 fs m) := hL2
  have HF2 : Hid (Far (w.heap.size + 1) a2 fs) := hF2.down K1.out.lt
  have HN : Hid (NormOf (fNum b) (fExp b - 150) m e' 32) := by
    rcases hnf with h | ⟨h1, t, h2, h3, h4, h5⟩
    · exact .inl h
    · exact .inr ⟨h1, t, h2, h3, h4, by omega⟩
  have r1 := K2.out.r1
  have r2 := K2.out.r2
  have r3 := K2.out.r3
  have r4 := K2.out.r4
  clear hL2 hF2 hb2 hnf HB0
  go_wp2
  refine bodyPost_ret (v := .agg #[.bool g2, .slice a2 fs.length c2, .int .i64 e']) (by simp [results, Tryd.results37, go_sem, r1, r2, r3]) rfl ?_
  refine ⟨m, e', HN.out, g2, a2, c2, fs, rfl, by omega, ?_, HF2.out.down (by omega), ?_⟩
  · exact ((HL2.out.setFar HF2.out (by simp) _).setFar HF2.out (by simp) _).setFar HF2.out (by simp) _
  · exact ((B2.out.setCell (by simp) _).setCell (by simp) _).setCell (by simp) _

set_option maxHeartbeats 4000000 in
theorem float2_sp (b : Int) (w : World) (h0 : 0 ≤ b) (h1 : b < 4294967296) (hE : ¬ 0 < b / 8388608 % 256) (hS : ¬ 2147483648 ≤ b) :
    Calls Tryd.prog 37 #[.int .u32 b] w fun e w' => NormOut w 2 (fNum b) (fExp b - 150) 32 e w' := by
  have HX : Hid (b % 8388608 = fNum b) := by
    unfold Hid fNum fMag
    rw [if_neg (by omega)]
    rw [if_pos (by omega)]
  have HY : Hid (-149 = fExp b - 150) := by
    unfold Hid fExp
    rw [if_pos (by omega)]
    rfl
  have HX1 : Hid (-4294967296 < fNum b ∧ fNum b < 4294967296) := by
    unfold Hid
    rw [← HX.out]
    omega
  have HY1 : Hid (-150 ≤ fExp b - 150 ∧ fExp b - 150 ≤ 200) := by
    unfold Hid
    rw [← HY.out]
    omega
  have HB0 : Hid (∀ t, Has3 w.heap.size (w.alloc (.cells #[.bool false, .slice none 0 0, .int .i64 0] t))) := fun t => Has3.new w t
  go_enter Tryd.func37, Tryd.ntmps37
  go_wp2_with fail
  rw [HX.out]
  refine (small2_any (fNum b) _ HX1.out.1 HX1.out.2).mono ?_
  rintro e w1 ⟨g1, a1, c1, ds, rfl, hl1, hL1, hF1, hb1⟩
  have K1 : Hid (Has3 w.heap.size w1) := (HB0.out _).later hb1
  have B1 : Hid (Below w.heap.size w w1) := (bel0 _ _).trans (hb1.mono (by simp))
  have HL1 : Hid (L1 w1 g1 a1 c1 ds (fNum b)) := hL1
  clear hb1 hF1 hL1
  go_wp2_with fail
  rw [HY.out]
  refine (norm_any g1 a1 c1 ds _ _ _ (by omega) (by have := HY1.out; omega) (by have := HY1.out; omega) HL1.out).mono ?_
  rintro e w2 ⟨m, e', hnf, g2, a2, c2, fs, rfl, hl2, hL2, hF2, hb2⟩
  have K2 : Hid (Has3 w.heap.size w2) := K1.out.later hb2
  have B2 : Hid (Below w.heap.size w w2) := B1.out.trans (hb2.mono B1.out.size)
  have HL2 : Hid (L1 w2 g2 a2 c2 fs m) := hL2
  have HF2 : Hid (Far (w.heap.size + 1) a2 fs) := hF2.down K1.out.lt
  have HN : Hid (NormOf (fNum b) (fExp b - 150) m e' 32) := by
    rcases hnf with h | ⟨h1, t, h2, h3, h4, h5⟩
    · exact .inl h
    · exact .inr ⟨h1, t, h2, h3, h4, by omega⟩
  have r1 := K2.out.r1
  have r2 := K2.out.r2
  have r3 := K2.out.r3
  have r4 := K2.out.r4
  clear hL2 hF2 hb2 hnf HB0
  go_wp2
  refine bodyPost_ret (v := .agg #[.bool g2, .slice a2 fs.length c2, .int .i64 e']) (by simp [results, Tryd.results37, go_sem, r1, r2, r3]) rfl ?_
  refine ⟨m, e', HN.out, g2, a2, c2, fs, rfl, by omega, ?_, HF2.out.down (by omega), ?_⟩
  · exact ((HL2.out.setFar HF2.out (by simp) _).setFar HF2.out (by simp) _).setFar HF2.out (by simp) _
  · exact ((B2.out.setCell (by simp) _).setCell (by simp) _).setCell (by simp) _

set_option maxHeartbeats 4000000 in
theorem float2_sn (b : Int) (w : World) (h0 : 0 ≤ b) (h1 : b < 4294967296) (hE : ¬ 0 < b / 8388608 % 256) (hS : 2147483648 ≤ b) :
    Calls Tryd.prog 37 #[.int .u32 b] w fun e w' => NormOut w 2 (fNum b) (fExp b - 150) 32 e w' := by
  have HX : Hid (-(b % 8388608) = fNum b) := by
    unfold Hid fNum fMag
    rw [if_pos hS]
    rw [if_pos (by omega)]
  have HY : Hid (-149 = fExp b - 150) := by
    unfold Hid fExp
    rw [if_pos (by omega)]
    rfl
  have HX1 : Hid (-4294967296 < fNum b ∧ fNum b < 4294967296) := by
    unfold Hid
    rw [← HX.out]
    omega
  have HY1 : Hid (-150 ≤ fExp b - 150 ∧ fExp b - 150 ≤ 200) := by
    unfold Hid
    rw [← HY.out]
    omega
  have HB0 : Hid (∀ t, Has3 w.heap.size (w.alloc (.cells #[.bool false, .slice none 0 0, .int .i64 0] t))) := fun t => Has3.new w t
  go_enter Tryd.func37, Tryd.ntmps37
  go_wp2_with fail
  rw [HX.out]
  refine (small2_any (fNum b) _ HX1.out.1 HX1.out.2).mono ?_
  rintro e w1 ⟨g1, a1, c1, ds, rfl, hl1, hL1, hF1, hb1⟩
  have K1 : Hid (Has3 w.heap.size w1) := (HB0.out _).later hb1
  have B1 : Hid (Below w.heap.size w w1) := (bel0 _ _).trans (hb1.mono (by simp))
  have HL1 : Hid (L1 w1 g1 a1 c1 ds (fNum b)) := hL1
  clear hb1 hF1 hL1
  go_wp2_with fail
  rw [HY.out]
  refine (norm_any g1 a1 c1 ds _ _ _ (by omega) (by have := HY1.out; omega) (by have := HY1.out; omega) HL1.out).mono ?_
  rintro e w2 ⟨m, e', hnf, g2, a2, c2, fs, rfl, hl2, hL2, hF2, hb2⟩
  have K2 : Hid (Has3 w.heap.size w2) := K1.out.later hb2
  have B2 : Hid (Below w.heap.size w w2) := B1.out.trans (hb2.mono B1.out.size)
  have HL2 : Hid (L1 w2 g2 a2 c2 fs m) := hL2
  have HF2 : Hid (Far (w.heap.size + 1) a2 fs) := hF2.down K1.out.lt
  have HN : Hid (NormOf (fNum b) (fExp b - 150) m e' 32) := by
    rcases hnf with h | ⟨h1, t, h2, h3, h4, h5⟩
    · exact .inl h
    · exact .inr ⟨h1, t, h2, h3, h4, by omega⟩
  have r1 := K2.out.r1
  have r2 := K2.out.r2
  have r3 := K2.out.r3
  have r4 := K2.out.r4
  clear hL2 hF2 hb2 hnf HB0
  go_wp2
  refine bodyPost_ret (v := .agg #[.bool g2, .slice a2 fs.length c2, .int .i64 e']) (by simp [results, Tryd.results37, go_sem, r1, r2, r3]) rfl ?_
  refine ⟨m, e', HN.out, g2, a2, c2, fs, rfl, by omega, ?_, HF2.out.down (by omega), ?_⟩
  · exact ((HL2.out.setFar HF2.out (by simp) _).setFar HF2.out (by simp) _).setFar HF2.out (by simp) _
  · exact ((B2.out.setCell (by simp) _).setCell (by simp) _).setCell (by simp) _

theorem float2_any (b : Int) (w : World) (h0 : 0 ≤ b) (h1 : b < 4294967296) :
    Calls Tryd.prog 37 #[.int .u32 b] w fun e w' => NormOut w 2 (fNum b) (fExp b - 150) 32 e w' := by
  by_cases hE : 0 < b / 8388608 % 256
  · by_cases hS : 2147483648 ≤ b
    · exact float2_bn b w h0 h1 hE hS
    · exact float2_bp b w h0 h1 hE hS
  · by_cases hS : 2147483648 ≤ b
    · exact float2_sn b w h0 h1 hE hS
    · exact float2_sp b w h0 h1 hE hS

end Go.Proofs.YtladfpljnaippabDoor

/-
  The model's answers of dyadic numbers.
-/
namespace Go.Proofs.YtladfpljnaippabDoor
open Go.RowKit

/-- What a function of the model answers that gives a Dyadic and a code. -/
def OutDS (w : World) (ok : Bool) (v : Int) (e : Ending) (w' : World) : Prop :=
  ∃ (G : Bool) (Z : List Int) (E K : Int) (a : Option Addr) (c : Nat), e = .returned (.tuple #[.agg #[.bool G, .slice a Z.length c, .int .i64 E], .int .i64 K]) ∧ ResD ok v G Z E K ∧ RowAt .u32 w' a Z ∧ Far w.heap.size a Z ∧ Below w.heap.size w w'

/-- Another number is laid into the argument's box. -/
theorem Bx3.put {w : World} {u v e u' v' e' : Value} {W : World} (h : Bx3 w u v e W) : Bx3 w u' v' e' (((W.setCell ⟨w.heap.size, 0, none⟩ u').setCell ⟨w.heap.size, 1, none⟩ v').setCell ⟨w.heap.size, 2, none⟩ e') := by
  have o := h.le
  refine ⟨?_, ?_, ?_, ?_, ?_, ?_, ?_, by simpa using o, ((h.bel.setCell (by simp) _).setCell (by simp) _).setCell (by simp) _⟩
  · rw [World.cell?_setCell_other _ _ _ _ (by simp), World.cell?_setCell_other _ _ _ _ (by simp)]
    exact World.cell?_setCell_same _ _ _ h.q0
  · rw [World.cell?_setCell_other _ _ _ _ (by simp)]
    refine World.cell?_setCell_same _ _ _ (u := v) ?_
    rw [World.cell?_setCell_other _ _ _ _ (by simp)]
    exact h.q1
  · refine World.cell?_setCell_same _ _ _ (u := e) ?_
    rw [World.cell?_setCell_other _ _ _ _ (by simp), World.cell?_setCell_other _ _ _ _ (by simp)]
    exact h.q2
  · rw [World.cell?_setCell_other _ _ _ _ (by simp), World.cell?_setCell_other _ _ _ _ (by simp), World.cell?_setCell_other _ _ _ _ (by simp)]
    exact h.r1
  · rw [World.cell?_setCell_other _ _ _ _ (by simp), World.cell?_setCell_other _ _ _ _ (by simp), World.cell?_setCell_other _ _ _ _ (by simp)]
    exact h.r2
  · rw [World.cell?_setCell_other _ _ _ _ (by simp), World.cell?_setCell_other _ _ _ _ (by simp), World.cell?_setCell_other _ _ _ _ (by simp)]
    exact h.r3
  · intro j
    rw [World.frozen?_setCell, World.frozen?_setCell, World.frozen?_setCell]
    exact h.r4 j

set_option maxRecDepth 100000 in
set_option maxHeartbeats 4000000 in
theorem out2_any (g : Bool) (a : Option Addr) (c : Nat) (ds : List Int) (x E : Int) (w : World) (hn : ds.length ≤ 60000) (he0 : -100000 ≤ E) (he1 : E ≤ 1000000) (h : L1 w g a c ds x) :
    Calls Tryd.prog 34 #[.agg #[.bool g, .slice a ds.length c, .int .i64 E]] w fun e w' => OutDS w true (atK 100000 x E) e w' := by
  have B0 : Hid (∀ t t', Bx3 w (.bool g) (.slice a ds.length c) (.int .i64 E) ((w.alloc (.cells #[.bool g, .slice a ds.length c, .int .i64 E] t)).alloc (.cells #[.bool false, .slice none 0 0, .int .i64 0] t'))) := fun t t' => Bx3.start w _ _ _ _ _
  obtain ⟨v, hv⟩ : ∃ v, v = atK 100000 x E := ⟨_, rfl⟩
  have HV : Hid (v = atK 100000 x E) := hv
  rw [← hv]
  clear hv
  go_enter Tryd.func34, Tryd.ntmps34
  go_wp2_with fail
  refine (norm_any g a c ds x E _ hn (by omega) he1 (h.later (bel2 _ _ _))).mono ?_
  rintro e w1 ⟨m, e', hnf, g1, a1, c1, fs, rfl, hl1, hL1, hF1, hb1⟩
  have HN : Hid (Norm v m e') := by unfold Hid; rw [HV.out]; exact Norm.of_normOf hnf he0
  have F1 : Hid (Bx3 w (.bool g) (.slice a ds.length c) (.int .i64 E) w1) := (B0.out _ _).later hb1
  have fz : ∀ j, w1.frozen? ⟨w.heap.size, j, none⟩ = false := by intro j; rw [hb1.frozen (by simp; omega)]; simp [go_sem]
  have hF1' : Far (w.heap.size + 1 + 1) a1 fs := hF1.down (by simp)
  have F2 : Hid (Bx3 w (.bool g1) (.slice a1 fs.length c1) (.int .i64 e') (((w1.setCell ⟨w.heap.size, 0, none⟩ (.bool g1)).setCell ⟨w.heap.size, 1, none⟩ (.slice a1 fs.length c1)).setCell ⟨w.heap.size, 2, none⟩ (.int .i64 e'))) := F1.out.put
  have HL2 : Hid (L1 (((w1.setCell ⟨w.heap.size, 0, none⟩ (.bool g1)).setCell ⟨w.heap.size, 1, none⟩ (.slice a1 fs.length c1)).setCell ⟨w.heap.size, 2, none⟩ (.int .i64 e')) g1 a1 c1 fs m) := ((hL1.setFar hF1' (by simp; omega) _).setFar hF1' (by simp; omega) _).setFar hF1' (by simp; omega) _
  have hbe : -100000 ≤ e' ∧ e' ≤ 2000000 := by have := hnf.bound; omega
  obtain ⟨hbe0, hbe1⟩ := hbe
  have q0 := F1.out.q0
  have q1 := F1.out.q1
  have q2 := F1.out.q2
  clear hnf hL1 hF1 hF1' hb1 B0
  go_wp2_with fail
  refine (big_any g1 a1 c1 fs _ (by omega) HL2.out.sl.row HL2.out.can.1).mono ?_
  rintro e w3 ⟨a5, c5, rfl, hr5, hf5, hb5⟩
  have F3 : Hid (Bx3 w (.bool g1) (.slice a1 fs.length c1) (.int .i64 e') w3) := F2.out.later hb5
  have HBL : Hid (B1 g1 (joinL fs) m) := B1.of_l1 HL2.out
  have hs2 := F2.out.le
  have r1 := F3.out.r1
  have r2 := F3.out.r2
  have r3 := F3.out.r3
  have r4 := F3.out.r4
  have p2 := F3.out.q2
  have hs4 : w.heap.size + 1 < w3.heap.size := F3.out.le
  have hs5 : w.heap.size < w3.heap.size := by omega
  clear q0 q1 q2 fz hb5
  by_cases h5 : (joinL fs).length ≤ 512
  · have hbo : bigOut g1 fs = (g1, joinL fs, 0) := by unfold bigOut; rw [if_pos h5]
    rw [hbo] at hr5 hf5 ⊢
    have HR5 : Hid (RowAt .u32 w3 a5 (joinL fs)) := hr5
    have HF5 : Hid (Far (w.heap.size + 1 + 1) a5 (joinL fs)) := Far.down hf5 hs2
    clear hbo hr5 hf5
    by_cases hr : e' < -20000 ∨ 20000 < e'
    · have HO : Hid (ResD true v false [] 0 2) := .inr ⟨rfl, _, _, HN.out, .inr ⟨by omega, rfl, rfl, rfl, rfl⟩⟩
      by_cases hr1 : e' < -20000
      · go_wp2
        refine bodyPost_ret (v := .tuple #[.agg #[.bool false, .slice none 0 0, .int .i64 0], .int .i64 2]) (by simp [results, Tryd.results34, go_sem, r1, r2, r3, hs4]) rfl ?_
        have hb0 := F3.out.bel
        have hbl := ((F3.out.bel.setCell (p := ⟨w.heap.size + 1, 0, none⟩) (by simp) (.bool false)).setCell (p := ⟨w.heap.size + 1, 1, none⟩) (by simp) (.slice none 0 0)).setCell (p := ⟨w.heap.size + 1, 2, none⟩) (by simp) (.int .i64 0)
        refine ⟨false, [], 0, 2, none, 0, rfl, HO.out, .inl rfl, .inl rfl, ?_⟩
        first
          | exact hbl.alloc hbl.size _
          | exact hb0.alloc hb0.size _
          | exact hbl
          | exact hb0
      · have hr2 : 20000 < e' := by omega
        go_wp2
        refine bodyPost_ret (v := .tuple #[.agg #[.bool false, .slice none 0 0, .int .i64 0], .int .i64 2]) (by simp [results, Tryd.results34, go_sem, r1, r2, r3, hs4]) rfl ?_
        have hb0 := F3.out.bel
        have hbl := ((F3.out.bel.setCell (p := ⟨w.heap.size + 1, 0, none⟩) (by simp) (.bool false)).setCell (p := ⟨w.heap.size + 1, 1, none⟩) (by simp) (.slice none 0 0)).setCell (p := ⟨w.heap.size + 1, 2, none⟩) (by simp) (.int .i64 0)
        refine ⟨false, [], 0, 2, none, 0, rfl, HO.out, .inl rfl, .inl rfl, ?_⟩
        first
          | exact hbl.alloc hbl.size _
          | exact hb0.alloc hb0.size _
          | exact hbl
          | exact hb0
    · have HO : Hid (ResD true v g1 (joinL fs) e' 0) := .inr ⟨rfl, _, _, HN.out, .inl ⟨⟨HBL.out.fits h5, by omega, by omega⟩, HBL.out, rfl, rfl⟩⟩
      have hr1 : ¬ e' < -20000 := by omega
      have hr2 : ¬ 20000 < e' := by omega
      generalize joinL fs = Z at *
      go_wp2
      refine bodyPost_ret (v := .tuple #[.agg #[.bool g1, .slice a5 Z.length c5, .int .i64 e'], .int .i64 0]) (by simp [results, Tryd.results34, go_sem, r1, r2, r3, hs4]) rfl ?_
      have hbl := ((F3.out.bel.setCell (p := ⟨w.heap.size + 1, 0, none⟩) (by simp) (.bool g1)).setCell (p := ⟨w.heap.size + 1, 1, none⟩) (by simp) (.slice a5 Z.length c5)).setCell (p := ⟨w.heap.size + 1, 2, none⟩) (by simp) (.int .i64 e')
      refine ⟨g1, Z, e', 0, a5, c5, rfl, HO.out, ?_, HF5.out.down (by omega), hbl.alloc hbl.size _⟩
      exact (((HR5.out.setAway (HF5.out.away (by simp)) _).setAway (HF5.out.away (by simp)) _).setAway (HF5.out.away (by simp)) _).later (bel0 _ _)
  · have hbo : bigOut g1 fs = (false, [], 2) := by unfold bigOut; rw [if_neg h5]
    have HO : Hid (ResD true v false [] 0 2) := .inr ⟨rfl, _, _, HN.out, .inr ⟨fun h => h5 (HBL.out.len h.1), rfl, rfl, rfl, rfl⟩⟩
    rw [hbo] at hr5 hf5 ⊢
    clear hbo hr5 hf5
    go_wp2
    refine bodyPost_ret (v := .tuple #[.agg #[.bool false, .slice none 0 0, .int .i64 0], .int .i64 2]) (by simp [results, Tryd.results34, go_sem, r1, r2, r3, hs4]) rfl ?_
    have hb0 := F3.out.bel
    have hbl := ((F3.out.bel.setCell (p := ⟨w.heap.size + 1, 0, none⟩) (by simp) (.bool false)).setCell (p := ⟨w.heap.size + 1, 1, none⟩) (by simp) (.slice none 0 0)).setCell (p := ⟨w.heap.size + 1, 2, none⟩) (by simp) (.int .i64 0)
    refine ⟨false, [], 0, 2, none, 0, rfl, HO.out, .inl rfl, .inl rfl, ?_⟩
    first
      | exact hbl.alloc hbl.size _
      | exact hb0.alloc hb0.size _
      | exact hbl
      | exact hb0

end Go.Proofs.YtladfpljnaippabDoor

/-
  The model's DyOf.
-/
namespace Go.Proofs.YtladfpljnaippabDoor
open Go.RowKit

theorem finD_any (b : Int) (w : World) (_h0 : 0 ≤ b) (_h1 : b < 4294967296) :
    Calls Tryd.prog 36 #[.int .u32 b] w fun e w' => e = .returned (.bool (fFin b)) ∧ Below w.heap.size w w' := by
  go_enter Tryd.func36, Tryd.ntmps36
  go_wp2
  go_ret
  exact ⟨by unfold fFin; rfl, Below.refl _ _⟩

set_option maxHeartbeats 2000000 in
theorem dyOfS_any (b : Int) (w : World) (h0 : 0 ≤ b) (h1 : b < 4294967296) :
    Calls Tryd.prog 8 #[.int .u32 b] w fun e w' => OutDS w (fFin b) (atK 100000 (fNum b) (fExp b - 150)) e w' := by
  have hex := fExp_pos h0
  have K0 : Hid (∀ t, Has3 w.heap.size (w.alloc (.cells #[.bool false, .slice none 0 0, .int .i64 0] t))) := fun t => Has3.new w t
  obtain ⟨v, hv⟩ : ∃ v, v = atK 100000 (fNum b) (fExp b - 150) := ⟨_, rfl⟩
  have HV : Hid (v = atK 100000 (fNum b) (fExp b - 150)) := hv
  rw [← hv]
  clear hv
  cases hf : fFin b
  · go_enter Tryd.func8, Tryd.ntmps8
    go_wp2_with fail
    refine (finD_any b _ h0 h1).mono ?_
    rintro e w1 ⟨rfl, hb1⟩
    rw [hf]
    have K1 : Hid (Has3 w.heap.size w1) := (K0.out _).later hb1
    have HB : Hid (Below w.heap.size w w1) := (bel0 _ _).trans (hb1.mono (by simp))
    have r1 := K1.out.r1
    have r2 := K1.out.r2
    have r3 := K1.out.r3
    have r4 := K1.out.r4
    clear hb1 K0
    go_wp2
    refine bodyPost_ret (v := .tuple #[.agg #[.bool false, .slice none 0 0, .int .i64 0], .int .i64 1]) (by simp [results, Tryd.results8, go_sem, r1, r2, r3]) rfl ?_
    refine ⟨false, [], 0, 1, none, 0, rfl, .inl ⟨rfl, rfl, rfl, rfl, rfl⟩, .inl rfl, .inl rfl, ?_⟩
    exact ((HB.out.setCell (by simp) _).setCell (by simp) _).setCell (by simp) _
  · go_enter Tryd.func8, Tryd.ntmps8
    go_wp2_with fail
    refine (finD_any b _ h0 h1).mono ?_
    rintro e w1 ⟨rfl, hb1⟩
    rw [hf]
    have K1 : Hid (Has3 w.heap.size w1) := (K0.out _).later hb1
    have HB1 : Hid (Below w.heap.size w w1) := (bel0 _ _).trans (hb1.mono (by simp))
    clear hb1 K0
    go_wp2_with fail
    refine (float2_any b _ h0 h1).mono ?_
    rintro e w2 ⟨m, e', hnf, g2, a2, c2, fs, rfl, hl2, hL2, hF2, hb2⟩
    have K2 : Hid (Has3 w.heap.size w2) := K1.out.later hb2
    have HB2 : Hid (Below w.heap.size w w2) := HB1.out.trans (hb2.mono HB1.out.size)
    have hbd : -100000 ≤ e' ∧ e' ≤ 1000000 := by have := hnf.bound; omega
    have HVV : Hid (atK 100000 m e' = v) := by unfold Hid; rw [HV.out]; exact hnf.at (by omega)
    have HL : Hid (L1 w2 g2 a2 c2 fs m) := hL2
    clear hb2 hnf hL2 hF2
    go_wp2_with fail
    refine (out2_any g2 a2 c2 fs m e' _ (by omega) hbd.1 hbd.2 HL.out).mono ?_
    rintro e w3 ⟨G, Z, E, K, a3, c3, rfl, hres, hr3, hf3, hb3⟩
    rw [HVV.out] at hres
    have K3 : Hid (Has3 w.heap.size w3) := K2.out.later hb3
    have HB3 : Hid (Below w.heap.size w w3) := HB2.out.trans (hb3.mono HB2.out.size)
    have HR : Hid (ResD true v G Z E K) := hres
    have HA : Hid (RowAt .u32 w3 a3 Z) := hr3
    have HF : Hid (Far (w.heap.size + 1) a3 Z) := Far.down hf3 K2.out.lt
    have r1 := K3.out.r1
    have r2 := K3.out.r2
    have r3 := K3.out.r3
    have r4 := K3.out.r4
    clear hb3 hres hr3 hf3
    go_wp2
    refine bodyPost_ret (v := .tuple #[.agg #[.bool G, .slice a3 Z.length c3, .int .i64 E], .int .i64 K]) (by simp [results, Tryd.results8, go_sem, r1, r2, r3]) rfl ?_
    refine ⟨G, Z, E, K, a3, c3, rfl, HR.out, ?_, HF.out.down (by omega), ?_⟩
    · exact ((HA.out.setAway (HF.out.away (by simp)) _).setAway (HF.out.away (by simp)) _).setAway (HF.out.away (by simp)) _
    · exact ((HB3.out.setCell (by simp) _).setCell (by simp) _).setCell (by simp) _

end Go.Proofs.YtladfpljnaippabDoor
