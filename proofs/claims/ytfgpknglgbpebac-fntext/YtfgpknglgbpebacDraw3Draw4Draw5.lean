/-
  The model's spoilt Bigs, and any drawn one.
-/
import Derived.Test.YtfgpknglgbpebacDraw0Draw1Draw2
import Derived.Test.YtfgpknglgbpebacGrow2
namespace Go.Proofs.Ytfgpknglgbpebac
open Go.RowKit

/-- The number's box (O), the answer's (R); the limbs in memory of their own from w on, in neither box; the reader in block P; of w nothing else has turned. -/
structure SP (w : World) (P R O : Nat) (e : TypeId) (G : Bool) (v : Value) (ys : List Int) (W : World) : Prop where
  r1 : W.cell? ⟨R, 0, none⟩ = some (.bool false)
  r2 : W.cell? ⟨R, 1, none⟩ = some (.slice none 0 0)
  r3 : ∀ j, W.frozen? ⟨R, j, none⟩ = false
  o0 : W.cell? ⟨O, 0, none⟩ = some (.bool G)
  o1 : W.cell? ⟨O, 1, none⟩ = some v
  o2 : ∀ j, W.frozen? ⟨O, j, none⟩ = false
  own : W.ownsRow w.heap.size e 1 v ys.length (vals .u32 ys)
  u : U32 ys
  rd : Rd P W
  asd : Aside P w W
  offR : v.ownBlock ≠ some R
  offO : v.ownBlock ≠ some O
  ord : w.heap.size ≤ R ∧ w.heap.size ≤ O ∧ R ≠ O ∧ R < W.heap.size ∧ O < W.heap.size ∧ P < w.heap.size

section
variable {w : World} {P R O : Nat} {e : TypeId} {G : Bool} {v : Value} {ys : List Int} {W W' : World}

theorem SP.aside (h : SP w P R O e G v ys W) (ha : Aside P W W') (hr : Rd P W') : SP w P R O e G v ys W' := by
  obtain ⟨o1, o2, o3, o4, o5, o6⟩ := h.ord
  have hs := ha.size
  exact ⟨(ha.cell (by simp; omega) (by simp; omega)).trans h.r1, (ha.cell (by simp; omega) (by simp; omega)).trans h.r2, fun j => (ha.frozen (by simp; omega) (by simp; omega)).trans (h.r3 j), (ha.cell (by simp; omega) (by simp; omega)).trans h.o0, (ha.cell (by simp; omega) (by simp; omega)).trans h.o1, fun j => (ha.frozen (by simp; omega) (by simp; omega)).trans (h.o2 j),
    ha.own h.own (by omega), h.u, hr, h.asd.trans ha, h.offR, h.offO, o1, o2, o3, by omega, by omega, o6⟩

/-- Another row of the call's own is laid into the box. -/
theorem SP.put {v' : Value} {ys' : List Int} (h : SP w P R O e G v ys W) (hown : W.ownsRow w.heap.size e 1 v' ys'.length (vals .u32 ys')) (hu : U32 ys') (hR : v'.ownBlock ≠ some R) (hO : v'.ownBlock ≠ some O) : SP w P R O e G v' ys' (W.setCell ⟨O, 1, none⟩ v') := by
  obtain ⟨o1, o2, o3, o4, o5, o6⟩ := h.ord
  have hw : Within O (O + 1) W (W.setCell ⟨O, 1, none⟩ v') := (Within.refl O (O + 1) W).setCell (p := ⟨O, 1, none⟩) (Nat.le_refl _) (Nat.lt_succ_self _) v'
  refine ⟨?_, ?_, ?_, ?_, ?_, ?_, ?_, hu, ?_, ?_, hR, hO, o1, o2, o3, by simpa using o4, by simpa using o5, o6⟩
  · rw [hw.cell (by simp; omega)]; exact h.r1
  · rw [hw.cell (by simp; omega)]; exact h.r2
  · intro j; rw [World.frozen?_setCell]; exact h.r3 j
  · rw [World.cell?_setCell_other _ _ _ _ (by simp)]; exact h.o0
  · exact World.cell?_setCell_same _ _ _ h.o1
  · intro j; rw [World.frozen?_setCell]; exact h.o2 j
  · refine ⟨hown.1, ?_⟩
    rcases hown.2 with g1 | ⟨g, cap, cur, g1, g2, g3, g4⟩
    · exact .inl g1
    · refine .inr ⟨g, cap, cur, g1, g2, ?_, g4⟩
      have : g ≠ O := fun e => hO (by rw [g1, e]; rfl)
      rw [hw.block g (by omega)]
      exact g3
  · exact h.rd.above (B := P + 1) ((Below.refl _ _).setCell (by simp; omega) _) (by omega)
  · exact h.asd.setHigh (by simp; omega) _

/-- What an append leaves. -/
theorem SP.grown {v' : Value} {ys' : List Int} (h : SP w P R O e G v ys W) (hb : Below w.heap.size W W') (hs : W.heap.size < W'.heap.size) (hk : ∀ j, j < W.heap.size → v.ownBlock ≠ some j → W'.heap[j]? = W.heap[j]?) (hv : v'.ownBlock = v.ownBlock ∨ ∃ j, v'.ownBlock = some j ∧ W.heap.size ≤ j)
    (hown : W'.ownsRow w.heap.size e 1 v' ys'.length (vals .u32 ys')) (hu : U32 ys') : SP w P R O e G v' ys' (W'.setCell ⟨O, 1, none⟩ v') := by
  obtain ⟨o1, o2, o3, o4, o5, o6⟩ := h.ord
  have eR : W'.heap[R]? = W.heap[R]? := hk R o4 h.offR
  have eO : W'.heap[O]? = W.heap[O]? := hk O o5 h.offO
  have cR : ∀ j, W'.cell? ⟨R, j, none⟩ = W.cell? ⟨R, j, none⟩ := fun j => World.cell?_of_block (w := W) (a := ⟨R, j, none⟩) eR
  have cO : ∀ j, W'.cell? ⟨O, j, none⟩ = W.cell? ⟨O, j, none⟩ := fun j => World.cell?_of_block (w := W) (a := ⟨O, j, none⟩) eO
  have fR : ∀ j, W'.frozen? ⟨R, j, none⟩ = W.frozen? ⟨R, j, none⟩ := fun j => World.frozen?_of_block (w := W) (a := ⟨R, j, none⟩) eR
  have fO : ∀ j, W'.frozen? ⟨O, j, none⟩ = W.frozen? ⟨O, j, none⟩ := fun j => World.frozen?_of_block (w := W) (a := ⟨O, j, none⟩) eO
  have hR : v'.ownBlock ≠ some R := by
    rcases hv with hv | ⟨j, hv, hj⟩
    · rw [hv]; exact h.offR
    · rw [hv]; intro e; have := Option.some.inj e; omega
  have hO : v'.ownBlock ≠ some O := by
    rcases hv with hv | ⟨j, hv, hj⟩
    · rw [hv]; exact h.offO
    · rw [hv]; intro e; have := Option.some.inj e; omega
  have hw : Within O (O + 1) W' (W'.setCell ⟨O, 1, none⟩ v') := (Within.refl O (O + 1) W').setCell (p := ⟨O, 1, none⟩) (Nat.le_refl _) (Nat.lt_succ_self _) v'
  refine ⟨?_, ?_, ?_, ?_, ?_, ?_, ?_, hu, ?_, ?_, hR, hO, o1, o2, o3, by simp; omega, by simp; omega, o6⟩
  · rw [hw.cell (by simp; omega), cR]; exact h.r1
  · rw [hw.cell (by simp; omega), cR]; exact h.r2
  · intro j; rw [World.frozen?_setCell, fR]; exact h.r3 j
  · rw [World.cell?_setCell_other _ _ _ _ (by simp), cO]; exact h.o0
  · exact World.cell?_setCell_same _ _ _ ((cO 1).trans h.o1)
  · intro j; rw [World.frozen?_setCell, fO]; exact h.o2 j
  · refine ⟨hown.1, ?_⟩
    rcases hown.2 with g1 | ⟨g, cap, cur, g1, g2, g3, g4⟩
    · exact .inl g1
    · refine .inr ⟨g, cap, cur, g1, g2, ?_, g4⟩
      have : g ≠ O := fun e => hO (by rw [g1, e]; rfl)
      rw [hw.block g (by omega)]
      exact g3
  · exact (h.rd.above hb o6).above (B := P + 1) ((Below.refl _ _).setCell (by simp; omega) _) (by omega)
  · exact (h.asd.high hb (Nat.le_refl _)).setHigh (by simp; omega) _

/-- The boxes behind an append. -/
theorem SP.keep (h : SP w P R O e G v ys W) (hk : ∀ j, j < W.heap.size → v.ownBlock ≠ some j → W'.heap[j]? = W.heap[j]?) :
    W'.cell? ⟨O, 0, none⟩ = some (.bool G) ∧ W'.cell? ⟨O, 1, none⟩ = some v ∧ (∀ j, W'.frozen? ⟨O, j, none⟩ = false) ∧ W'.cell? ⟨R, 0, none⟩ = some (.bool false) ∧ W'.cell? ⟨R, 1, none⟩ = some (.slice none 0 0) ∧ (∀ j, W'.frozen? ⟨R, j, none⟩ = false) := by
  obtain ⟨o1, o2, o3, o4, o5, o6⟩ := h.ord
  have eR : W'.heap[R]? = W.heap[R]? := hk R o4 h.offR
  have eO : W'.heap[O]? = W.heap[O]? := hk O o5 h.offO
  exact ⟨(World.cell?_of_block (w := W) (a := ⟨O, 0, none⟩) eO).trans h.o0, (World.cell?_of_block (w := W) (a := ⟨O, 1, none⟩) eO).trans h.o1, fun j => (World.frozen?_of_block (w := W) (a := ⟨O, j, none⟩) eO).trans (h.o2 j),
    (World.cell?_of_block (w := W) (a := ⟨R, 0, none⟩) eR).trans h.r1, (World.cell?_of_block (w := W) (a := ⟨R, 1, none⟩) eR).trans h.r2, fun j => (World.frozen?_of_block (w := W) (a := ⟨R, j, none⟩) eR).trans (h.r3 j)⟩

theorem SP.sign (h : SP w P R O e G v ys W) (G' : Bool) : SP w P R O e G' v ys (W.setCell ⟨O, 0, none⟩ (.bool G')) := by
  obtain ⟨o1, o2, o3, o4, o5, o6⟩ := h.ord
  have hw : Within O (O + 1) W (W.setCell ⟨O, 0, none⟩ (.bool G')) := (Within.refl O (O + 1) W).setCell (p := ⟨O, 0, none⟩) (Nat.le_refl _) (Nat.lt_succ_self _) _
  refine ⟨?_, ?_, ?_, ?_, ?_, ?_, ?_, h.u, ?_, ?_, h.offR, h.offO, o1, o2, o3, by simpa using o4, by simpa using o5, o6⟩
  · rw [hw.cell (by simp; omega)]; exact h.r1
  · rw [hw.cell (by simp; omega)]; exact h.r2
  · intro j; rw [World.frozen?_setCell]; exact h.r3 j
  · exact World.cell?_setCell_same _ _ _ h.o0
  · rw [World.cell?_setCell_other _ _ _ _ (by simp)]; exact h.o1
  · intro j; rw [World.frozen?_setCell]; exact h.o2 j
  · refine ⟨h.own.1, ?_⟩
    rcases h.own.2 with g1 | ⟨g, cap, cur, g1, g2, g3, g4⟩
    · exact .inl g1
    · refine .inr ⟨g, cap, cur, g1, g2, ?_, g4⟩
      have : g ≠ O := fun e => h.offO (by rw [g1, e]; rfl)
      rw [hw.block g (by omega)]
      exact g3
  · exact h.rd.above (B := P + 1) ((Below.refl _ _).setCell (by simp; omega) _) (by omega)
  · exact h.asd.setHigh (by simp; omega) _

/-- The end: the number's box is read into the answer's. -/
theorem SP.out {a : Option Addr} {c n : Nat} (h : SP w P R O e G (.slice a ys.length c) ys W) (hn : ys.length ≤ n) : DrawOut P e w n (.returned (.agg #[.bool G, .slice a ys.length c])) ((W.setCell ⟨R, 0, none⟩ (.bool G)).setCell ⟨R, 1, none⟩ (.slice a ys.length c)) := by
  obtain ⟨o1, o2, o3, o4, o5, o6⟩ := h.ord
  have hw : Within R (R + 1) W ((W.setCell ⟨R, 0, none⟩ (.bool G)).setCell ⟨R, 1, none⟩ (.slice a ys.length c)) := ((Within.refl R (R + 1) W).setCell (p := ⟨R, 0, none⟩) (Nat.le_refl _) (Nat.lt_succ_self _) _).setCell (p := ⟨R, 1, none⟩) (Nat.le_refl _) (Nat.lt_succ_self _) _
  refine ⟨G, a, c, ys, rfl, hn, h.u, ?_, ?_, (h.asd.setHigh (by simp; omega) _).setHigh (by simp; omega) _⟩
  · refine ⟨h.own.1, ?_⟩
    rcases h.own.2 with g1 | ⟨g, cap, cur, g1, g2, g3, g4⟩
    · exact .inl g1
    · refine .inr ⟨g, cap, cur, g1, g2, ?_, g4⟩
      have : g ≠ R := fun e => h.offR (by rw [g1, e]; rfl)
      rw [hw.block g (by omega)]
      exact g3
  · exact h.rd.above (B := P + 1) (((Below.refl _ _).setCell (by simp; omega) _).setCell (by simp; omega) _) (by omega)

end

theorem own_len {X : World} {base : Nat} {e : TypeId} {a : Option Addr} {n c : Nat} {ys : List Int} (h : X.ownsRow base e 1 (.slice a n c) ys.length (vals .u32 ys)) : n = ys.length ∧ n ≤ maxLen := by
  rcases h.2 with ⟨h1, h2⟩ | ⟨g, cap, cur, h1, h2, h3, h4, h5, _⟩
  · injection h1 with e1 e2 e3
    exact ⟨by omega, by rw [e2]; exact Nat.zero_le _⟩
  · injection h1 with e1 e2 e3
    exact ⟨e2, by omega⟩

theorem u32_zero : U32 [0] := by
  intro z hz
  have : z = 0 := by simpa using hz
  subst this
  decide

/-- A slice of one number, written out. -/
theorem own_lit (W : World) (e : TypeId) (y : Int) {base : Nat} (hb : base ≤ W.heap.size) : (W.alloc (.cells #[.int .u32 y] e)).ownsRow base e 1 (.slice (some ⟨W.heap.size, 0, none⟩) ([y] : List Int).length 1) ([y] : List Int).length (vals .u32 [y]) := by
  refine ⟨by simp [vals], .inr ⟨W.heap.size, 1, #[.int .u32 y], rfl, hb, by (first | exact heap_alloc_new _ _ | exact Go.heap_alloc_new _ _), by simp, by unfold maxLen; omega, by simp, by simp [vals]⟩⟩

theorem SP.start {w00 w : World} {P : Nat} {e t t' : TypeId} {G : Bool} {a : Option Addr} {c : Nat} {zs : List Int} (hp : P < w00.heap.size) (hr : Rd P w) (ha : Aside P w00 w) (hown : w.ownsRow w00.heap.size e 1 (.slice a zs.length c) zs.length (vals .u32 zs)) (hu : U32 zs) :
    SP w00 P (w.heap.size + 1) w.heap.size e G (.slice a zs.length c) zs ((w.alloc (.cells #[.bool G, .slice a zs.length c] t)).alloc (.cells #[.bool false, .slice none 0 0] t')) := by
  have hs := ha.size
  have b2 : Below w.heap.size w ((w.alloc (.cells #[.bool G, .slice a zs.length c] t)).alloc (.cells #[.bool false, .slice none 0 0] t')) := bel2 _ _ _
  have hblk : ∀ j, (Value.slice a zs.length c).ownBlock = some j → j < w.heap.size := by
    intro j hj
    rcases hown.2 with ⟨g1, _⟩ | ⟨g, cap, cur, g1, g2, g3, _⟩
    · rw [g1] at hj; simp [Value.ownBlock] at hj
    · rw [g1] at hj
      have : g = j := by simpa [Value.ownBlock] using hj
      subst this
      by_cases hp : g < w.heap.size
      · exact hp
      · rw [Array.getElem?_eq_none (by omega)] at g3; cases g3
  refine ⟨by simp [go_sem], by simp [go_sem], by intro j; simp [go_sem], by simp [go_sem], by simp [go_sem], by intro j; simp [go_sem], (Aside.of (P := P) b2).own hown hp, hu, hr.later b2, ha.trans (Aside.of b2), ?_, ?_, by omega, hs, by omega, by simp, by simp; omega, hp⟩
  · intro e; have := hblk _ e; omega
  · intro e; have := hblk _ e; omega

set_option maxRecDepth 100000 in
set_option maxHeartbeats 8000000 in
theorem spoil_any (P : Nat) (w00 w : World) (G : Bool) (a : Option Addr) (c : Nat) (zs : List Int) (hp : P < w00.heap.size) (hr : Rd P w) (ha : Aside P w00 w) (hown : w.ownsRow w00.heap.size 43 1 (.slice a zs.length c) zs.length (vals .u32 zs)) (hu : U32 zs) (hn : zs.length ≤ 512) :
    Calls Try.prog 70 #[.agg #[.bool G, .slice a zs.length c], .pointer (some ⟨P, 0, none⟩)] w fun e w' => DrawOut P 43 w00 513 e w' := by
  have D0 : Hid (∀ t t', SP w00 P (w.heap.size + 1) w.heap.size 43 G (.slice a zs.length c) zs ((w.alloc (.cells #[.bool G, .slice a zs.length c] t)).alloc (.cells #[.bool false, .slice none 0 0] t'))) := fun t t' => SP.start hp hr ha hown hu
  clear hr ha hown hu
  go_enter Try.func70, Try.ntmps70
  go_wp2_with fail
  refine (next_any P _ (D0.out _ _).rd).mono ?_
  rintro e w1 ⟨kk, rfl, hk0, hk1, hr1, ha1⟩
  have D1 : Hid (SP w00 P (w.heap.size + 1) w.heap.size 43 G (.slice a zs.length c) zs w1) := (D0.out _ _).aside ha1 hr1
  have oR : w.heap.size + 1 < w1.heap.size := D1.out.ord.2.2.2.1
  have oB : w00.heap.size ≤ w1.heap.size := D1.out.asd.size
  have hq0 : 0 ≤ kk % 4 := by omega
  clear hr1 ha1 D0
  have s0 := D1.out.o0
  have s1 := D1.out.o1
  have s2 := D1.out.o2
  have r1 := D1.out.r1
  have r2 := D1.out.r2
  have r3 := D1.out.r3
  have hown := D1.out.own
  rcases (show kk % 4 = 0 ∨ kk % 4 = 1 ∨ kk % 4 = 2 ∨ kk % 4 = 3 by omega) with hc | hc | hc | hc
  · go_wp2_with (at_builtin; refine app2 rfl (.tmp 12) (.tmp 13) 23 rfl w00.heap.size 43 Try.underlying23 Try.info43 (by decide) _ _ rfl rfl hown (by omega) oB ?_; intro a1 n1 c1 w4 hown1 hb1 hs1 hk hv; obtain ⟨z0, z1, z2, y1, y2, y3⟩ := D1.out.keep hk)
    have D4 := D1.out.grown hb1 hs1 hk hv hown1 (D1.out.u.snoc (by decide) (by decide))
    obtain ⟨e1, e2⟩ := own_len hown1
    subst e1
    refine bodyPost_ret (v := .agg #[.bool G, .slice a1 (zs ++ [0]).length c1]) (by simp [results, Try.results70, go_sem, y1, y2]) rfl ?_
    exact D4.out (by simp; omega)
  · have DX := ((D1.out.put (v' := .slice none ([] : List Int).length 0) (ys' := []) (own_nil _ _ _ _) (fun z hz => by cases hz) (by simp [Value.ownBlock]) (by simp [Value.ownBlock])).sign true).out (n := 513) (by simp)
    have HX : Hid (DrawOut P 43 w00 513 (.returned (.agg #[.bool true, .slice none 0 0])) ((((w1.setCell ⟨w.heap.size, 1, none⟩ (.slice none 0 0)).setCell ⟨w.heap.size, 0, none⟩ (.bool true)).setCell ⟨w.heap.size + 1, 0, none⟩ (.bool true)).setCell ⟨w.heap.size + 1, 1, none⟩ (.slice none 0 0))) := DX
    clear DX hown
    go_wp2
    refine bodyPost_ret (v := .agg #[.bool true, .slice none 0 0]) (by simp [results, Try.results70, go_sem, r1, r2]) rfl ?_
    exact HX.out
  · go_wp2
    clear hc
    go_loopw [] (fun wr => ∃ (va : Option Addr) (vc : Nat) (ys : List Int), ys.length ≤ 513 ∧ Hid (SP w00 P (w.heap.size + 1) w.heap.size 43 G (.slice va ys.length vc) ys wr)) (fun wr => 513 - boxLen w.heap.size wr)
    case atStart => exact ⟨a, c, zs, by omega, D1⟩
    case round =>
      clear D1 s0 s1 s2 r1 r2 r3 hown oR oB
      obtain ⟨va, vc, ys, hy5, hD⟩ := hrel
      have s0 := hD.out.o0
      have s1 := hD.out.o1
      have s2 := hD.out.o2
      have r1 := hD.out.r1
      have r2 := hD.out.r2
      have r3 := hD.out.r3
      have hown := hD.out.own
      have oB : w00.heap.size ≤ wr.heap.size := hD.out.asd.size
      by_cases hlt : (ys.length : Int) < 513
      · go_wp2_with (at_builtin; refine app2 rfl (.tmp 27) (.tmp 28) 23 rfl w00.heap.size 43 Try.underlying23 Try.info43 (by decide) _ _ rfl rfl hown (by omega) oB ?_; intro a1 n1 c1 w4 hown1 hb1 hs1 hk hv; obtain ⟨z0, z1, z2, y1, y2, y3⟩ := hD.out.keep hk)
        obtain ⟨e1, e2⟩ := own_len hown1
        subst e1
        have D4 := hD.out.grown hb1 hs1 hk hv hown1 (hD.out.u.snoc (by decide) (by decide))
        have L1 : boxLen w.heap.size wr = ys.length := boxLen_of s1
        have L2 := boxLen_of D4.o1
        go_roundw
        case rel => exact ⟨a1, c1, ys ++ [5], by simp; omega, D4⟩
        case measure => rw [L1, L2]; simp; omega
      · have HX : Hid (DrawOut P 43 w00 513 (.returned (.agg #[.bool G, .slice va ys.length vc])) ((wr.setCell ⟨w.heap.size + 1, 0, none⟩ (.bool G)).setCell ⟨w.heap.size + 1, 1, none⟩ (.slice va ys.length vc))) := hD.out.out (by omega)
        clear hD hown
        go_wp2
        refine bodyPost_ret (v := .agg #[.bool G, .slice va ys.length vc]) (by simp [results, Try.results70, go_sem, r1, r2]) rfl ?_
        exact HX.out
  · have DL := D1.out.aside (W' := w1.alloc (.cells #[.int .u32 0] 43)) (Aside.of (bel0 _ _)) (D1.out.rd.later (bel0 _ _))
    have DX := (DL.put (own_lit w1 43 0 oB) u32_zero (by intro e; simp [Value.ownBlock] at e; omega) (by intro e; simp [Value.ownBlock] at e; omega)).out (n := 513) (by simp)
    have oO : w.heap.size < w1.heap.size := by omega
    have HX : Hid (DrawOut P 43 w00 513 (.returned (.agg #[.bool G, .slice (some ⟨w1.heap.size, 0, none⟩) 1 1])) ((((w1.setCell ⟨w.heap.size, 1, none⟩ (.slice (some ⟨w1.heap.size, 0, none⟩) 1 1)).setCell ⟨w.heap.size + 1, 0, none⟩ (.bool G)).setCell ⟨w.heap.size + 1, 1, none⟩ (.slice (some ⟨w1.heap.size, 0, none⟩) 1 1)).alloc (.cells #[.int .u32 0] 43))) := by
      unfold Hid
      simpa [go_sem, oO, oR] using DX
    clear DX DL hown
    go_wp2
    refine bodyPost_ret (v := .agg #[.bool G, .slice (some ⟨w1.heap.size, 0, none⟩) 1 1]) (by simp [results, Try.results70, go_sem, r1, r2, oR]) rfl ?_
    exact HX.out

end Go.Proofs.Ytfgpknglgbpebac

/-
  Any drawn Big; a drawn shift.
-/
namespace Go.Proofs.Ytfgpknglgbpebac
open Go.RowKit

/-- The answer's box (R, still zero) while a Big is drawn behind it. -/
structure Rz (w : World) (P R : Nat) (W : World) : Prop where
  r1 : W.cell? ⟨R, 0, none⟩ = some (.bool false)
  r2 : W.cell? ⟨R, 1, none⟩ = some (.slice none 0 0)
  r3 : ∀ j, W.frozen? ⟨R, j, none⟩ = false
  asd : Aside P w W
  ord : w.heap.size ≤ R ∧ R < W.heap.size ∧ P < w.heap.size

theorem Rz.start (w : World) (P : Nat) (hp : P < w.heap.size) (t : TypeId) : Rz w P w.heap.size (w.alloc (.cells #[.bool false, .slice none 0 0] t)) :=
  ⟨by simp [go_sem], by simp [go_sem], by intro j; simp [go_sem], Aside.of (bel0 _ _), Nat.le_refl _, by simp, hp⟩

theorem Rz.aside {w : World} {P R : Nat} {W W' : World} (h : Rz w P R W) (ha : Aside P W W') : Rz w P R W' := by
  obtain ⟨o1, o2, o3⟩ := h.ord
  have hs := ha.size
  exact ⟨(ha.cell (by simp; omega) (by simp; omega)).trans h.r1, (ha.cell (by simp; omega) (by simp; omega)).trans h.r2, fun j => (ha.frozen (by simp; omega) (by simp; omega)).trans (h.r3 j), h.asd.trans ha, o1, by omega, o3⟩

/-- A drawn Big is laid into the answer's box. -/
theorem Rz.out {w W0 W : World} {P R : Nat} {e : TypeId} {G : Bool} {a : Option Addr} {c n : Nat} {zs : List Int} (h : Rz w P R W0) (ha : Aside P W0 W) (hr : Rd P W) (hown : W.ownsRow W0.heap.size e 1 (.slice a zs.length c) zs.length (vals .u32 zs)) (hu : U32 zs) (hn : zs.length ≤ n) :
    DrawOut P e w n (.returned (.agg #[.bool G, .slice a zs.length c])) ((W.setCell ⟨R, 0, none⟩ (.bool G)).setCell ⟨R, 1, none⟩ (.slice a zs.length c)) := by
  obtain ⟨o1, o2, o3⟩ := h.ord
  have hs := h.asd.size
  refine ⟨G, a, c, zs, rfl, hn, hu, own_mono (own_set (own_set hown (by simp; omega) _) (by simp; omega) _) (by omega), ?_, ((h.asd.trans ha).setHigh (by simp; omega) _).setHigh (by simp; omega) _⟩
  exact hr.above (B := P + 1) (((Below.refl _ _).setCell (by simp; omega) _).setCell (by simp; omega) _) (by omega)

set_option maxHeartbeats 4000000 in
theorem drawAny_any (P : Nat) (w : World) (h : Rd P w) :
    Calls Try.prog 31 #[.pointer (some ⟨P, 0, none⟩)] w fun e w' => DrawOut P 43 w 513 e w' := by
  have hl := h.lt
  go_enter Try.func31, Try.ntmps31
  go_wp2_with fail
  refine (next_any P _ (h.later (bel0 _ _))).mono ?_
  rintro e w1 ⟨kk, rfl, hk0, hk1, hr1, ha1⟩
  have R1 : Hid (Rz w P w.heap.size w1) := (Rz.start w P hl _).aside ha1
  have HR1 : Hid (Rd P w1) := hr1
  have hq0 : 0 ≤ kk % 14 := by omega
  clear hr1 ha1
  go_wp2_with fail
  refine (drawBig_any P _ HR1.out).mono ?_
  rintro e w2 ⟨G, a, c, zs, rfl, hn2, hu2, hown2, hr2, ha2⟩
  have R2 : Hid (Rz w P w.heap.size w2) := R1.out.aside ha2
  have oR : w.heap.size < w2.heap.size := R2.out.ord.2.1
  have r1 := R2.out.r1
  have r2 := R2.out.r2
  have r3 := R2.out.r3
  by_cases hz : kk % 14 = 0
  · have hz' : (kk % 14 == 0) = true := by rw [beq_iff_eq]; exact hz
    have hp1 : P < w1.heap.size := by have := R1.out.ord; omega
    have b0 : Below w2.heap.size w2 (w2.alloc (.cells #[.bool G, .slice a zs.length c] 25)) := bel0 _ _
    have S3 := spoil_any P w1 (w2.alloc (.cells #[.bool G, .slice a zs.length c] 25)) G a c zs hp1 (hr2.later b0) (ha2.trans (Aside.of b0)) ((Aside.of (P := P) b0).own hown2 hp1) hu2 hn2
    have HS3 : Hid (Calls Try.prog 70 #[.agg #[.bool G, .slice a zs.length c], .pointer (some ⟨P, 0, none⟩)] (w2.alloc (.cells #[.bool G, .slice a zs.length c] 25)) fun e w' => DrawOut P 43 w1 513 e w') := S3
    clear S3 hown2 hr2 ha2 b0 hu2 hz
    go_wp2_with fail
    refine HS3.out.mono ?_
    rintro e w3 ⟨G3, a3, c3, z3, rfl, hn3, hu3, hown3, hr3, ha3⟩
    have HX : Hid (DrawOut P 43 w 513 (.returned (.agg #[.bool G3, .slice a3 z3.length c3])) ((w3.setCell ⟨w.heap.size, 0, none⟩ (.bool G3)).setCell ⟨w.heap.size, 1, none⟩ (.slice a3 z3.length c3))) := R1.out.out ha3 hr3 hown3 hu3 hn3
    have R3 : Hid (Rz w P w.heap.size w3) := R1.out.aside ha3
    have y1 := R3.out.r1
    have y2 := R3.out.r2
    have y3 := R3.out.r3
    clear hown3 hr3 ha3 hu3 r1 r2 r3
    go_wp2
    refine bodyPost_ret (v := .agg #[.bool G3, .slice a3 z3.length c3]) (by simp [results, Try.results31, go_sem, y1, y2]) rfl ?_
    exact HX.out
  · have hz' : (kk % 14 == 0) = false := by rw [beq_eq_false_iff_ne]; exact hz
    have b0 : Below w2.heap.size w2 (w2.alloc (.cells #[.bool G, .slice a zs.length c] 25)) := bel0 _ _
    have hp1 : P < w1.heap.size := by have := R1.out.ord; omega
    have DX := R1.out.out (n := 513) (G := G) (ha2.trans (Aside.of b0)) (hr2.later b0) ((Aside.of (P := P) b0).own hown2 hp1) hu2 (by omega)
    have HX : Hid (DrawOut P 43 w 513 (.returned (.agg #[.bool G, .slice a zs.length c])) (((w2.setCell ⟨w.heap.size, 0, none⟩ (.bool G)).setCell ⟨w.heap.size, 1, none⟩ (.slice a zs.length c)).alloc (.cells #[.bool G, .slice a zs.length c] 25))) := by
      unfold Hid
      simpa [go_sem, oR] using DX
    clear DX hown2 hr2 ha2 b0 hu2 hz
    go_wp2
    refine bodyPost_ret (v := .agg #[.bool G, .slice a zs.length c]) (by simp [results, Try.results31, go_sem, r1, r2, oR]) rfl ?_
    exact HX.out

end Go.Proofs.Ytfgpknglgbpebac

/-
  A drawn Big and a number to shift it by.
-/
namespace Go.Proofs.Ytfgpknglgbpebac
open Go.RowKit

/-- A Big in memory of its own. -/
def NewBig (w : World) (n : Nat) (G : Bool) (a : Option Addr) (c : Nat) (zs : List Int) (w' : World) : Prop :=
  zs.length ≤ n ∧ U32 zs ∧ w'.ownsRow w.heap.size 43 1 (.slice a zs.length c) zs.length (vals .u32 zs) ∧ Below w.heap.size w w' ∧ (G = true ∨ G = false)

def DrawShOut (w : World) (e : Ending) (w' : World) : Prop :=
  ∃ (G : Bool) (a : Option Addr) (c : Nat) (zs : List Int) (m : Int), e = .returned (.tuple #[.agg #[.bool G, .slice a zs.length c], .int .i64 m]) ∧ NewBig w 513 G a c zs w'

/-- The reader (behind the answer's box R), and what it has left alone. -/
structure Ry (w : World) (R P : Nat) (W : World) : Prop where
  r1 : W.cell? ⟨R, 0, none⟩ = some (.bool false)
  r2 : W.cell? ⟨R, 1, none⟩ = some (.slice none 0 0)
  r3 : ∀ j, W.frozen? ⟨R, j, none⟩ = false
  bel : Below w.heap.size w W
  rd : Rd P W
  ord : w.heap.size ≤ R ∧ R < P ∧ P < W.heap.size

theorem Ry.start {w W : World} {t : TypeId} {e : Ending} (h : OpenOut (w.alloc (.cells #[.bool false, .slice none 0 0] t)) e W) : Ry w w.heap.size (w.heap.size + 1) W := by
  obtain ⟨_, h2, h3, h4⟩ := h
  simp at h2 h4
  refine ⟨?_, ?_, ?_, (bel0 _ _).trans (h3.mono (by simp)), h2, Nat.le_refl _, by omega, h2.lt⟩
  · rw [h3.cell (by simp)]; simp [go_sem]
  · rw [h3.cell (by simp)]; simp [go_sem]
  · intro j; rw [h3.frozen (by simp)]; simp [go_sem]

theorem Ry.aside {w : World} {R P : Nat} {W W' : World} (h : Ry w R P W) (ha : Aside P W W') (hr : Rd P W') : Ry w R P W' := by
  obtain ⟨o1, o2, o3⟩ := h.ord
  have hs := ha.size
  exact ⟨(ha.cell (by simp; omega) (by simp; omega)).trans h.r1, (ha.cell (by simp; omega) (by simp; omega)).trans h.r2, fun j => (ha.frozen (by simp; omega) (by simp; omega)).trans (h.r3 j), h.bel.trans (ha.below (by omega) (by omega)), hr, o1, o2, by omega⟩

/-- The Big is laid into the answer's box. -/
theorem Ry.out {w W0 W : World} {R P n : Nat} {G : Bool} {a : Option Addr} {c : Nat} {zs : List Int} (h : Ry w R P W0) (ha : Aside P W0 W) (hown : W.ownsRow W0.heap.size 43 1 (.slice a zs.length c) zs.length (vals .u32 zs)) (hu : U32 zs) (hn : zs.length ≤ n) :
    NewBig w n G a c zs ((W.setCell ⟨R, 0, none⟩ (.bool G)).setCell ⟨R, 1, none⟩ (.slice a zs.length c)) := by
  obtain ⟨o1, o2, o3⟩ := h.ord
  refine ⟨hn, hu, own_mono (own_set (own_set hown (by simp; omega) _) (by simp; omega) _) (by omega), ?_, by cases G <;> simp⟩
  exact ((h.bel.trans (ha.below (by omega) (by omega))).setCell (by simp; omega) _).setCell (by simp; omega) _

theorem edge_cell (W : World) (t : TypeId) (arr : Array Value) (j : Nat) (hj : j < arr.size) (ha : ∀ i (h : i < arr.size), ∃ y, arr[i] = .int .i64 y) : ∃ y, (W.alloc (.cells arr t)).cell? ⟨W.heap.size, j, none⟩ = some (.int .i64 y) := by
  obtain ⟨y, hy⟩ := ha j hj
  exact ⟨y, by rw [World.cell?_alloc_at _ _ _ _ rfl, Array.getElem?_eq_getElem hj, hy]⟩

set_option maxRecDepth 100000 in
set_option maxHeartbeats 4000000 in
theorem drawShift_any (a : Option Addr) (c : Nat) (bs : List Int) (w : World) (hn : bs.length ≤ 1048576) (hc : bs.length ≤ c) (hcm : c ≤ maxLen) (hnil : a = none → c = 0) (hr : RowAt .u8 w a bs) (hb : Dig 256 bs) :
    Calls Try.prog 26 #[.slice a bs.length c] w fun e w' => DrawShOut w e w' := by
  go_enter Try.func26, Try.ntmps26
  go_wp2_with fail
  refine (open_any a c bs _ hn hc hcm hnil (hr.later (bel0 _ _)) hb).mono ?_
  rintro e w1 ho
  have Y1 : Hid (Ry w w.heap.size (w.heap.size + 1) w1) := Ry.start ho
  obtain ⟨rfl, _, _, _⟩ := ho
  have e1 : (w.alloc (.cells #[.bool false, .slice none 0 0] 25)).heap.size = w.heap.size + 1 := by simp
  rw [e1]
  clear e1
  go_wp2_with fail
  refine (next_any _ _ Y1.out.rd).mono ?_
  rintro e w2 ⟨kk, rfl, hk0, hk1, hr2, ha2⟩
  have Y2 : Hid (Ry w w.heap.size (w.heap.size + 1) w2) := Y1.out.aside ha2 hr2
  clear Y1 hr2 ha2
  go_wp2_with fail
  refine (next_any _ _ Y2.out.rd).mono ?_
  rintro e w3 ⟨vv, rfl, hv0, hv1, hr3, ha3⟩
  have Y3 : Hid (Ry w w.heap.size (w.heap.size + 1) w3) := Y2.out.aside ha3 hr3
  clear Y2 hr3 ha3
  go_wp2_with fail
  refine (drawAny_any _ _ Y3.out.rd).mono ?_
  rintro e w4 ⟨G, a4, c4, zs, rfl, hn4, hu4, hown4, hr4, ha4⟩
  have Y4 : Hid (Ry w w.heap.size (w.heap.size + 1) w4) := Y3.out.aside ha4 hr4
  have oP : w.heap.size + 1 < w3.heap.size := Y3.out.ord.2.2
  have oR : w.heap.size < w4.heap.size := by have := Y4.out.ord; omega
  have r1 := Y4.out.r1
  have r2 := Y4.out.r2
  have r3 := Y4.out.r3
  have KEY : Hid (∀ W, Below w4.heap.size w4 W → NewBig w 513 G a4 c4 zs ((W.setCell ⟨w.heap.size, 0, none⟩ (.bool G)).setCell ⟨w.heap.size, 1, none⟩ (.slice a4 zs.length c4))) := by
    intro W hW
    exact Y3.out.out (ha4.trans (Aside.of hW)) ((Aside.of (P := w.heap.size + 1) hW).own hown4 oP) hu4 hn4
  have hq0 : 0 ≤ kk % 8 := by omega
  clear hown4 hr4 ha4 hu4
  by_cases hz : kk % 8 = 0
  · have hz' : (kk % 8 == 0) = true := by rw [beq_iff_eq]; exact hz
    have hjt : vv.tmod 8 = vv % 8 := Int.tmod_eq_emod_of_nonneg hv0
    have hj0 : 0 ≤ vv % 8 := by omega
    have hj8 : vv % 8 < 8 := by omega
    have hj9 : 0 ≤ vv % 8 ∧ vv % 8 < 8 := ⟨hj0, hj8⟩
    clear hz
    go_wp2
    obtain ⟨T, hT⟩ : ∃ T : Array Value, T = #[.int .i64 16384, .int .i64 16385, .int .i64 (-16384), .int .i64 9223372036854775807, .int .i64 (-9223372036854775808), .int .i64 16352, .int .i64 (-1), .int .i64 0] := ⟨_, rfl⟩
    rw [← hT]
    have hTs : T.size = 8 := by rw [hT]; rfl
    have hTy : ∀ i (h : i < T.size), ∃ y, T[i] = .int .i64 y := by
      subst hT
      intro i h
      have : i < 8 := h
      match i, this with
      | 0, _ => exact ⟨_, rfl⟩
      | 1, _ => exact ⟨_, rfl⟩
      | 2, _ => exact ⟨_, rfl⟩
      | 3, _ => exact ⟨_, rfl⟩
      | 4, _ => exact ⟨_, rfl⟩
      | 5, _ => exact ⟨_, rfl⟩
      | 6, _ => exact ⟨_, rfl⟩
      | 7, _ => exact ⟨_, rfl⟩
    obtain ⟨y, hy⟩ := edge_cell (w4.alloc (.cells #[.bool G, .slice a4 zs.length c4] 25)) 3 T (vv % 8).toNat (by omega) hTy
    have hb6 : Below w4.heap.size w4 ((w4.alloc (.cells #[.bool G, .slice a4 zs.length c4] 25)).alloc (.cells T 3)) := bel2 _ _ _
    have c0 : ((w4.alloc (.cells #[.bool G, .slice a4 zs.length c4] 25)).alloc (.cells T 3)).cell? ⟨w4.heap.size, 0, none⟩ = some (.bool G) := by simp [go_sem]
    have c1 : ((w4.alloc (.cells #[.bool G, .slice a4 zs.length c4] 25)).alloc (.cells T 3)).cell? ⟨w4.heap.size, 1, none⟩ = some (.slice a4 zs.length c4) := by simp [go_sem]
    simp only [World.size_alloc] at hy
    obtain ⟨W6, hW6⟩ : ∃ W6, W6 = (w4.alloc (.cells #[.bool G, .slice a4 zs.length c4] 25)).alloc (.cells T 3) := ⟨_, rfl⟩
    rw [← hW6] at hy hb6 c0 c1 ⊢
    have y1 := (hb6.cell (p := ⟨w.heap.size, 0, none⟩) oR).trans r1
    have y2 := (hb6.cell (p := ⟨w.heap.size, 1, none⟩) oR).trans r2
    have y3 := fun j => (hb6.frozen (p := ⟨w.heap.size, j, none⟩) oR).trans (r3 j)
    clear hT hTs hTy hW6 r1 r2 r3
    go_region_with (fail)
    all_goals
      go_wp2
      refine bodyPost_ret (v := .tuple #[.agg #[.bool G, .slice a4 zs.length c4], .int .i64 y]) (by simp [results, Try.results26, go_sem, y1, y2]) rfl ?_
      exact ⟨G, a4, c4, zs, y, rfl, KEY.out _ (hb6.trans ((Below.refl _ _).drew))⟩
  · have hz' : (kk % 8 == 0) = false := by rw [beq_eq_false_iff_ne]; exact hz
    have KX := KEY.out (w4.alloc (.cells #[.bool G, .slice a4 zs.length c4] 25)) (bel0 _ _)
    have HX : Hid (NewBig w 513 G a4 c4 zs (((w4.setCell ⟨w.heap.size, 0, none⟩ (.bool G)).setCell ⟨w.heap.size, 1, none⟩ (.slice a4 zs.length c4)).alloc (.cells #[.bool G, .slice a4 zs.length c4] 25))) := by
      unfold Hid
      simpa [go_sem, oR] using KX
    clear hz KX
    go_wp2
    refine bodyPost_ret (v := .tuple #[.agg #[.bool G, .slice a4 zs.length c4], .int .i64 (vv - 120)]) (by simp [results, Try.results26, go_sem, r1, r2, oR]) rfl ?_
    exact ⟨G, a4, c4, zs, vv - 120, rfl, HX.out⟩

end Go.Proofs.Ytfgpknglgbpebac
