/-
  The model's spoilt Bigs, and any drawn one.
-/
import Derived.Test.YtlbegmepmeimkabDraw2
import Derived.Test.YtlbegmepmeimkabGrow2
namespace Go.Proofs.Ytlbegmepmeimkab
open Go.RowKit

/-- The number's box (O), the answer's (R); the limbs in memory of their own from w on, in neither box; the reader in block P; of w nothing else has turned. -/
structure SP (w : World) (P R O : Nat) (e : TypeId) (G : Bool) (v : Value) (ys : List Int) (W : World) : Prop where
  r1 : W.cell? ⟨R, 0, none⟩ = some (.bool false)
  r2 : W.cell? ⟨R, 1, none⟩ = some (.slice none 0 0)
  r3 : ∀ j, W.frozen? ⟨R, j, none⟩ = false
  o0 : W.cell? ⟨O, 0, none⟩ = some (.bool G)
  o1 : W.cell? ⟨O, 1, none⟩ = some v
  o2 : ∀ j, W.frozen? ⟨O, j, none⟩ = false
  own : W.ownsRow w.heap.size e 1 v ys.length (vals .u32 ys)
  u : U32 ys
  rd : Rd P W
  asd : Aside P w W
  offR : v.ownBlock ≠ some R
  offO : v.ownBlock ≠ some O
  ord : w.heap.size ≤ R ∧ w.heap.size ≤ O ∧ R ≠ O ∧ R < W.heap.size ∧ O < W.heap.size ∧ P < w.heap.size

section
variable {w : World} {P R O : Nat} {e : TypeId} {G : Bool} {v : Value} {ys : List Int} {W W' : World}

theorem SP.aside (h : SP w P R O e G v ys W) (ha : Aside P W W') (hr : Rd P W') : SP w P R O e G v ys W' := by
  obtain ⟨o1, o2, o3, o4, o5, o6⟩ := h.ord
  have hs := ha.size
  exact ⟨(ha.cell (by simp; omega) (by simp; omega)).trans h.r1, (ha.cell (by simp; omega) (by simp; omega)).trans h.r2, fun j => (ha.frozen (by simp; omega) (by simp; omega)).trans (h.r3 j), (ha.cell (by simp; omega) (by simp; omega)).trans h.o0, (ha.cell (by simp; omega) (by simp; omega)).trans h.o1, fun j => (ha.frozen (by simp; omega) (by simp; omega)).trans (h.o2 j),
    ha.own h.own (by omega), h.u, hr, h.asd.trans ha, h.offR, h.offO, o1, o2, o3, by omega, by omega, o6⟩

/-- Another row of the call's own is laid into the box. -/
theorem SP.put {v' : Value} {ys' : List Int} (h : SP w P R O e G v ys W) (hown : W.ownsRow w.heap.size e 1 v' ys'.length (vals .u32 ys')) (hu : U32 ys') (hR : v'.ownBlock ≠ some R) (hO : v'.ownBlock ≠ some O) : SP w P R O e G v' ys' (W.setCell ⟨O, 1, none⟩ v') := by
  obtain ⟨o1, o2, o3, o4, o5, o6⟩ := h.ord
  have hw : Within O (O + 1) W (W.setCell ⟨O, 1, none⟩ v') := (Within.refl O (O + 1) W).setCell (p := ⟨O, 1, none⟩) (Nat.le_refl _) (Nat.lt_succ_self _) v'
  refine ⟨?_, ?_, ?_, ?_, ?_, ?_, ?_, hu, ?_, ?_, hR, hO, o1, o2, o3, by simpa using o4, by simpa using o5, o6⟩
  · rw [hw.cell (by simp; omega)]; exact h.r1
  · rw [hw.cell (by simp; omega)]; exact h.r2
  · intro j; rw [World.frozen?_setCell]; exact h.r3 j
  · rw [World.cell?_setCell_other _ _ _ _ (by simp)]; exact h.o0
  · exact World.cell?_setCell_same _ _ _ h.o1
  · intro j; rw [World.frozen?_setCell]; exact h.o2 j
  · refine ⟨hown.1, ?_⟩
    rcases hown.2 with g1 | ⟨g, cap, cur, g1, g2, g3, g4⟩
    · exact .inl g1
    · refine .inr ⟨g, cap, cur, g1, g2, ?_, g4⟩
      have : g ≠ O := fun e => hO (by rw [g1, e]; rfl)
      rw [hw.block g (by omega)]
      exact g3
  · exact h.rd.above (B := P + 1) ((Below.refl _ _).setCell (by simp; omega) _) (by omega)
  · exact h.asd.setHigh (by simp; omega) _

/-- What an append leaves. -/
theorem SP.grown {v' : Value} {ys' : List Int} (h : SP w P R O e G v ys W) (hb : Below w.heap.size W W') (hs : W.heap.size < W'.heap.size) (hk : ∀ j, j < W.heap.size → v.ownBlock ≠ some j → W'.heap[j]? = W.heap[j]?) (hv : v'.ownBlock = v.ownBlock ∨ ∃ j, v'.ownBlock = some j ∧ W.heap.size ≤ j)
    (hown : W'.ownsRow w.heap.size e 1 v' ys'.length (vals .u32 ys')) (hu : U32 ys') : SP w P R O e G v' ys' (W'.setCell ⟨O, 1, none⟩ v') := by
  obtain ⟨o1, o2, o3, o4, o5, o6⟩ := h.ord
  have eR : W'.heap[R]? = W.heap[R]? := hk R o4 h.offR
  have eO : W'.heap[O]? = W.heap[O]? := hk O o5 h.offO
  have cR : ∀ j, W'.cell? ⟨R, j, none⟩ = W.cell? ⟨R, j, none⟩ := fun j => World.cell?_of_block (w := W) (a := ⟨R, j, none⟩) eR
  have cO : ∀ j, W'.cell? ⟨O, j, none⟩ = W.cell? ⟨O, j, none⟩ := fun j => World.cell?_of_block (w := W) (a := ⟨O, j, none⟩) eO
  have fR : ∀ j, W'.frozen? ⟨R, j, none⟩ = W.frozen? ⟨R, j, none⟩ := fun j => World.frozen?_of_block (w := W) (a := ⟨R, j, none⟩) eR
  have fO : ∀ j, W'.frozen? ⟨O, j, none⟩ = W.frozen? ⟨O, j, none⟩ := fun j => World.frozen?_of_block (w := W) (a := ⟨O, j, none⟩) eO
  have hR : v'.ownBlock ≠ some R := by
    rcases hv with hv | ⟨j, hv, hj⟩
    · rw [hv]; exact h.offR
    · rw [hv]; intro e; have := Option.some.inj e; omega
  have hO : v'.ownBlock ≠ some O := by
    rcases hv with hv | ⟨j, hv, hj⟩
    · rw [hv]; exact h.offO
    · rw [hv]; intro e; have := Option.some.inj e; omega
  have hw : Within O (O + 1) W' (W'.setCell ⟨O, 1, none⟩ v') := (Within.refl O (O + 1) W').setCell (p := ⟨O, 1, none⟩) (Nat.le_refl _) (Nat.lt_succ_self _) v'
  refine ⟨?_, ?_, ?_, ?_, ?_, ?_, ?_, hu, ?_, ?_, hR, hO, o1, o2, o3, by simp; omega, by simp; omega, o6⟩
  · rw [hw.cell (by simp; omega), cR]; exact h.r1
  · rw [hw.cell (by simp; omega), cR]; exact h.r2
  · intro j; rw [World.frozen?_setCell, fR]; exact h.r3 j
  · rw [World.cell?_setCell_other _ _ _ _ (by simp), cO]; exact h.o0
  · exact World.cell?_setCell_same _ _ _ ((cO 1).trans h.o1)
  · intro j; rw [World.frozen?_setCell, fO]; exact h.o2 j
  · refine ⟨hown.1, ?_⟩
    rcases hown.2 with g1 | ⟨g, cap, cur, g1, g2, g3, g4⟩
    · exact .inl g1
    · refine .inr ⟨g, cap, cur, g1, g2, ?_, g4⟩
      have : g ≠ O := fun e => hO (by rw [g1, e]; rfl)
      rw [hw.block g (by omega)]
      exact g3
  · exact (h.rd.above hb o6).above (B := P + 1) ((Below.refl _ _).setCell (by simp; omega) _) (by omega)
  · exact (h.asd.high hb (Nat.le_refl _)).setHigh (by simp; omega) _

/-- The boxes behind an append. -/
theorem SP.keep (h : SP w P R O e G v ys W) (hk : ∀ j, j < W.heap.size → v.ownBlock ≠ some j → W'.heap[j]? = W.heap[j]?) :
    W'.cell? ⟨O, 0, none⟩ = some (.bool G) ∧ W'.cell? ⟨O, 1, none⟩ = some v ∧ (∀ j, W'.frozen? ⟨O, j, none⟩ = false) ∧ W'.cell? ⟨R, 0, none⟩ = some (.bool false) ∧ W'.cell? ⟨R, 1, none⟩ = some (.slice none 0 0) ∧ (∀ j, W'.frozen? ⟨R, j, none⟩ = false) := by
  obtain ⟨o1, o2, o3, o4, o5, o6⟩ := h.ord
  have eR : W'.heap[R]? = W.heap[R]? := hk R o4 h.offR
  have eO : W'.heap[O]? = W.heap[O]? := hk O o5 h.offO
  exact ⟨(World.cell?_of_block (w := W) (a := ⟨O, 0, none⟩) eO).trans h.o0, (World.cell?_of_block (w := W) (a := ⟨O, 1, none⟩) eO).trans h.o1, fun j => (World.frozen?_of_block (w := W) (a := ⟨O, j, none⟩) eO).trans (h.o2 j),
    (World.cell?_of_block (w := W) (a := ⟨R, 0, none⟩) eR).trans h.r1, (World.cell?_of_block (w := W) (a := ⟨R, 1, none⟩) eR).trans h.r2, fun j => (World.frozen?_of_block (w := W) (a := ⟨R, j, none⟩) eR).trans (h.r3 j)⟩

theorem SP.sign (h : SP w P R O e G v ys W) (G' : Bool) : SP w P R O e G' v ys (W.setCell ⟨O, 0, none⟩ (.bool G')) := by
  obtain ⟨o1, o2, o3, o4, o5, o6⟩ := h.ord
  have hw : Within O (O + 1) W (W.setCell ⟨O, 0, none⟩ (.bool G')) := (Within.refl O (O + 1) W).setCell (p := ⟨O, 0, none⟩) (Nat.le_refl _) (Nat.lt_succ_self _) _
  refine ⟨?_, ?_, ?_, ?_, ?_, ?_, ?_, h.u, ?_, ?_, h.offR, h.offO, o1, o2, o3, by simpa using o4, by simpa using o5, o6⟩
  · rw [hw.cell (by simp; omega)]; exact h.r1
  · rw [hw.cell (by simp; omega)]; exact h.r2
  · intro j; rw [World.frozen?_setCell]; exact h.r3 j
  · exact World.cell?_setCell_same _ _ _ h.o0
  · rw [World.cell?_setCell_other _ _ _ _ (by simp)]; exact h.o1
  · intro j; rw [World.frozen?_setCell]; exact h.o2 j
  · refine ⟨h.own.1, ?_⟩
    rcases h.own.2 with g1 | ⟨g, cap, cur, g1, g2, g3, g4⟩
    · exact .inl g1
    · refine .inr ⟨g, cap, cur, g1, g2, ?_, g4⟩
      have : g ≠ O := fun e => h.offO (by rw [g1, e]; rfl)
      rw [hw.block g (by omega)]
      exact g3
  · exact h.rd.above (B := P + 1) ((Below.refl _ _).setCell (by simp; omega) _) (by omega)
  · exact h.asd.setHigh (by simp; omega) _

/-- The end: the number's box is read into the answer's. -/
theorem SP.out {a : Option Addr} {c n : Nat} (h : SP w P R O e G (.slice a ys.length c) ys W) (hn : ys.length ≤ n) : DrawOut P e w n (.returned (.agg #[.bool G, .slice a ys.length c])) ((W.setCell ⟨R, 0, none⟩ (.bool G)).setCell ⟨R, 1, none⟩ (.slice a ys.length c)) := by
  obtain ⟨o1, o2, o3, o4, o5, o6⟩ := h.ord
  have hw : Within R (R + 1) W ((W.setCell ⟨R, 0, none⟩ (.bool G)).setCell ⟨R, 1, none⟩ (.slice a ys.length c)) := ((Within.refl R (R + 1) W).setCell (p := ⟨R, 0, none⟩) (Nat.le_refl _) (Nat.lt_succ_self _) _).setCell (p := ⟨R, 1, none⟩) (Nat.le_refl _) (Nat.lt_succ_self _) _
  refine ⟨G, a, c, ys, rfl, hn, h.u, ?_, ?_, (h.asd.setHigh (by simp; omega) _).setHigh (by simp; omega) _⟩
  · refine ⟨h.own.1, ?_⟩
    rcases h.own.2 with g1 | ⟨g, cap, cur, g1, g2, g3, g4⟩
    · exact .inl g1
    · refine .inr ⟨g, cap, cur, g1, g2, ?_, g4⟩
      have : g ≠ R := fun e => h.offR (by rw [g1, e]; rfl)
      rw [hw.block g (by omega)]
      exact g3
  · exact h.rd.above (B := P + 1) (((Below.refl _ _).setCell (by simp; omega) _).setCell (by simp; omega) _) (by omega)

end

theorem own_len {X : World} {base : Nat} {e : TypeId} {a : Option Addr} {n c : Nat} {ys : List Int} (h : X.ownsRow base e 1 (.slice a n c) ys.length (vals .u32 ys)) : n = ys.length ∧ n ≤ maxLen := by
  rcases h.2 with ⟨h1, h2⟩ | ⟨g, cap, cur, h1, h2, h3, h4, h5, _⟩
  · injection h1 with e1 e2 e3
    exact ⟨by omega, by rw [e2]; exact Nat.zero_le _⟩
  · injection h1 with e1 e2 e3
    exact ⟨e2, by omega⟩

theorem u32_zero : U32 [0] := by
  intro z hz
  have : z = 0 := by simpa using hz
  subst this
  decide

/-- A slice of one number, written out. -/
theorem own_lit (W : World) (e : TypeId) (y : Int) {base : Nat} (hb : base ≤ W.heap.size) : (W.alloc (.cells #[.int .u32 y] e)).ownsRow base e 1 (.slice (some ⟨W.heap.size, 0, none⟩) ([y] : List Int).length 1) ([y] : List Int).length (vals .u32 [y]) := by
  refine ⟨by simp [vals], .inr ⟨W.heap.size, 1, #[.int .u32 y], rfl, hb, by (first | exact heap_alloc_new _ _ | exact Go.heap_alloc_new _ _), by simp, by unfold maxLen; omega, by simp, by simp [vals]⟩⟩

theorem SP.start {w00 w : World} {P : Nat} {e t t' : TypeId} {G : Bool} {a : Option Addr} {c : Nat} {zs : List Int} (hp : P < w00.heap.size) (hr : Rd P w) (ha : Aside P w00 w) (hown : w.ownsRow w00.heap.size e 1 (.slice a zs.length c) zs.length (vals .u32 zs)) (hu : U32 zs) :
    SP w00 P (w.heap.size + 1) w.heap.size e G (.slice a zs.length c) zs ((w.alloc (.cells #[.bool G, .slice a zs.length c] t)).alloc (.cells #[.bool false, .slice none 0 0] t')) := by
  have hs := ha.size
  have b2 : Below w.heap.size w ((w.alloc (.cells #[.bool G, .slice a zs.length c] t)).alloc (.cells #[.bool false, .slice none 0 0] t')) := bel2 _ _ _
  have hblk : ∀ j, (Value.slice a zs.length c).ownBlock = some j → j < w.heap.size := by
    intro j hj
    rcases hown.2 with ⟨g1, _⟩ | ⟨g, cap, cur, g1, g2, g3, _⟩
    · rw [g1] at hj; simp [Value.ownBlock] at hj
    · rw [g1] at hj
      have : g = j := by simpa [Value.ownBlock] using hj
      subst this
      by_cases hp : g < w.heap.size
      · exact hp
      · rw [Array.getElem?_eq_none (by omega)] at g3; cases g3
  refine ⟨by simp [go_sem], by simp [go_sem], by intro j; simp [go_sem], by simp [go_sem], by simp [go_sem], by intro j; simp [go_sem], (Aside.of (P := P) b2).own hown hp, hu, hr.later b2, ha.trans (Aside.of b2), ?_, ?_, by omega, hs, by omega, by simp, by simp; omega, hp⟩
  · intro e; have := hblk _ e; omega
  · intro e; have := hblk _ e; omega

set_option maxRecDepth 100000 in
set_option maxHeartbeats 8000000 in
theorem spoil_any (P : Nat) (w00 w : World) (G : Bool) (a : Option Addr) (c : Nat) (zs : List Int) (hp : P < w00.heap.size) (hr : Rd P w) (ha : Aside P w00 w) (hown : w.ownsRow w00.heap.size 46 1 (.slice a zs.length c) zs.length (vals .u32 zs)) (hu : U32 zs) (hn : zs.length ≤ 512) :
    Calls Try.prog 69 #[.agg #[.bool G, .slice a zs.length c], .pointer (some ⟨P, 0, none⟩)] w fun e w' => DrawOut P 46 w00 513 e w' := by
  have D0 : Hid (∀ t t', SP w00 P (w.heap.size + 1) w.heap.size 46 G (.slice a zs.length c) zs ((w.alloc (.cells #[.bool G, .slice a zs.length c] t)).alloc (.cells #[.bool false, .slice none 0 0] t'))) := fun t t' => SP.start hp hr ha hown hu
  clear hr ha hown hu
  go_enter Try.func69, Try.ntmps69
  go_wp2_with fail
  refine (next_any P _ (D0.out _ _).rd).mono ?_
  rintro e w1 ⟨kk, rfl, hk0, hk1, hr1, ha1⟩
  have D1 : Hid (SP w00 P (w.heap.size + 1) w.heap.size 46 G (.slice a zs.length c) zs w1) := (D0.out _ _).aside ha1 hr1
  have oR : w.heap.size + 1 < w1.heap.size := D1.out.ord.2.2.2.1
  have oB : w00.heap.size ≤ w1.heap.size := D1.out.asd.size
  have hq0 : 0 ≤ kk % 4 := by omega
  clear hr1 ha1 D0
  have s0 := D1.out.o0
  have s1 := D1.out.o1
  have s2 := D1.out.o2
  have r1 := D1.out.r1
  have r2 := D1.out.r2
  have r3 := D1.out.r3
  have hown := D1.out.own
  rcases (show kk % 4 = 0 ∨ kk % 4 = 1 ∨ kk % 4 = 2 ∨ kk % 4 = 3 by omega) with hc | hc | hc | hc
  · go_wp2_with (at_builtin; refine app2 rfl (.tmp 12) (.tmp 13) 22 rfl w00.heap.size 46 Try.underlying22 Try.info46 (by decide) _ _ rfl rfl hown (by omega) oB ?_; intro a1 n1 c1 w4 hown1 hb1 hs1 hk hv; obtain ⟨z0, z1, z2, y1, y2, y3⟩ := D1.out.keep hk)
    have D4 := D1.out.grown hb1 hs1 hk hv hown1 (D1.out.u.snoc (by decide) (by decide))
    obtain ⟨e1, e2⟩ := own_len hown1
    subst e1
    refine bodyPost_ret (v := .agg #[.bool G, .slice a1 (zs ++ [0]).length c1]) (by simp [results, Try.results69, go_sem, y1, y2]) rfl ?_
    exact D4.out (by simp; omega)
  · have DX := ((D1.out.put (v' := .slice none ([] : List Int).length 0) (ys' := []) (own_nil _ _ _ _) (fun z hz => by cases hz) (by simp [Value.ownBlock]) (by simp [Value.ownBlock])).sign true).out (n := 513) (by simp)
    have HX : Hid (DrawOut P 46 w00 513 (.returned (.agg #[.bool true, .slice none 0 0])) ((((w1.setCell ⟨w.heap.size, 1, none⟩ (.slice none 0 0)).setCell ⟨w.heap.size, 0, none⟩ (.bool true)).setCell ⟨w.heap.size + 1, 0, none⟩ (.bool true)).setCell ⟨w.heap.size + 1, 1, none⟩ (.slice none 0 0))) := DX
    clear DX hown
    go_wp2
    refine bodyPost_ret (v := .agg #[.bool true, .slice none 0 0]) (by simp [results, Try.results69, go_sem, r1, r2]) rfl ?_
    exact HX.out
  · go_wp2
    clear hc
    go_loopw [] (fun wr => ∃ (va : Option Addr) (vc : Nat) (ys : List Int), ys.length ≤ 513 ∧ Hid (SP w00 P (w.heap.size + 1) w.heap.size 46 G (.slice va ys.length vc) ys wr)) (fun wr => 513 - boxLen w.heap.size wr)
    case atStart => exact ⟨a, c, zs, by omega, D1⟩
    case round =>
      clear D1 s0 s1 s2 r1 r2 r3 hown oR oB
      obtain ⟨va, vc, ys, hy5, hD⟩ := hrel
      have s0 := hD.out.o0
      have s1 := hD.out.o1
      have s2 := hD.out.o2
      have r1 := hD.out.r1
      have r2 := hD.out.r2
      have r3 := hD.out.r3
      have hown := hD.out.own
      have oB : w00.heap.size ≤ wr.heap.size := hD.out.asd.size
      by_cases hlt : (ys.length : Int) < 513
      · go_wp2_with (at_builtin; refine app2 rfl (.tmp 27) (.tmp 28) 22 rfl w00.heap.size 46 Try.underlying22 Try.info46 (by decide) _ _ rfl rfl hown (by omega) oB ?_; intro a1 n1 c1 w4 hown1 hb1 hs1 hk hv; obtain ⟨z0, z1, z2, y1, y2, y3⟩ := hD.out.keep hk)
        obtain ⟨e1, e2⟩ := own_len hown1
        subst e1
        have D4 := hD.out.grown hb1 hs1 hk hv hown1 (hD.out.u.snoc (by decide) (by decide))
        have L1 : boxLen w.heap.size wr = ys.length := boxLen_of s1
        have L2 := boxLen_of D4.o1
        go_roundw
        case rel => exact ⟨a1, c1, ys ++ [5], by simp; omega, D4⟩
        case measure => rw [L1, L2]; simp; omega
      · have HX : Hid (DrawOut P 46 w00 513 (.returned (.agg #[.bool G, .slice va ys.length vc])) ((wr.setCell ⟨w.heap.size + 1, 0, none⟩ (.bool G)).setCell ⟨w.heap.size + 1, 1, none⟩ (.slice va ys.length vc))) := hD.out.out (by omega)
        clear hD hown
        go_wp2
        refine bodyPost_ret (v := .agg #[.bool G, .slice va ys.length vc]) (by simp [results, Try.results69, go_sem, r1, r2]) rfl ?_
        exact HX.out
  · have DL := D1.out.aside (W' := w1.alloc (.cells #[.int .u32 0] 46)) (Aside.of (bel0 _ _)) (D1.out.rd.later (bel0 _ _))
    have DX := (DL.put (own_lit w1 46 0 oB) u32_zero (by intro e; simp [Value.ownBlock] at e; omega) (by intro e; simp [Value.ownBlock] at e; omega)).out (n := 513) (by simp)
    have oO : w.heap.size < w1.heap.size := by omega
    have HX : Hid (DrawOut P 46 w00 513 (.returned (.agg #[.bool G, .slice (some ⟨w1.heap.size, 0, none⟩) 1 1])) ((((w1.setCell ⟨w.heap.size, 1, none⟩ (.slice (some ⟨w1.heap.size, 0, none⟩) 1 1)).setCell ⟨w.heap.size + 1, 0, none⟩ (.bool G)).setCell ⟨w.heap.size + 1, 1, none⟩ (.slice (some ⟨w1.heap.size, 0, none⟩) 1 1)).alloc (.cells #[.int .u32 0] 46))) := by
      unfold Hid
      simpa [go_sem, oO, oR] using DX
    clear DX DL hown
    go_wp2
    refine bodyPost_ret (v := .agg #[.bool G, .slice (some ⟨w1.heap.size, 0, none⟩) 1 1]) (by simp [results, Try.results69, go_sem, r1, r2, oR]) rfl ?_
    exact HX.out

end Go.Proofs.Ytlbegmepmeimkab
