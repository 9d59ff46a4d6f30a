/-
  A drawn Big and a number to shift it by.
-/
import Derived.Test.YtlbegmepmeimkabDraw4
namespace Go.Proofs.Ytlbegmepmeimkab
open Go.RowKit

/-- A Big in memory of its own. -/
def NewBig (w : World) (n : Nat) (G : Bool) (a : Option Addr) (c : Nat) (zs : List Int) (w' : World) : Prop :=
  zs.length ≤ n ∧ U32 zs ∧ w'.ownsRow w.heap.size 46 1 (.slice a zs.length c) zs.length (vals .u32 zs) ∧ Below w.heap.size w w' ∧ (G = true ∨ G = false)

def DrawShOut (w : World) (e : Ending) (w' : World) : Prop :=
  ∃ (G : Bool) (a : Option Addr) (c : Nat) (zs : List Int) (m : Int), e = .returned (.tuple #[.agg #[.bool G, .slice a zs.length c], .int .i64 m]) ∧ NewBig w 513 G a c zs w'

/-- The reader (behind the answer's box R), and what it has left alone. -/
structure Ry (w : World) (R P : Nat) (W : World) : Prop where
  r1 : W.cell? ⟨R, 0, none⟩ = some (.bool false)
  r2 : W.cell? ⟨R, 1, none⟩ = some (.slice none 0 0)
  r3 : ∀ j, W.frozen? ⟨R, j, none⟩ = false
  bel : Below w.heap.size w W
  rd : Rd P W
  ord : w.heap.size ≤ R ∧ R < P ∧ P < W.heap.size

theorem Ry.start {w W : World} {t : TypeId} {e : Ending} (h : OpenOut (w.alloc (.cells #[.bool false, .slice none 0 0] t)) e W) : Ry w w.heap.size (w.heap.size + 1) W := by
  obtain ⟨_, h2, h3, h4⟩ := h
  simp at h2 h4
  refine ⟨?_, ?_, ?_, (bel0 _ _).trans (h3.mono (by simp)), h2, Nat.le_refl _, by omega, h2.lt⟩
  · rw [h3.cell (by simp)]; simp [go_sem]
  · rw [h3.cell (by simp)]; simp [go_sem]
  · intro j; rw [h3.frozen (by simp)]; simp [go_sem]

theorem Ry.aside {w : World} {R P : Nat} {W W' : World} (h : Ry w R P W) (ha : Aside P W W') (hr : Rd P W') : Ry w R P W' := by
  obtain ⟨o1, o2, o3⟩ := h.ord
  have hs := ha.size
  exact ⟨(ha.cell (by simp; omega) (by simp; omega)).trans h.r1, (ha.cell (by simp; omega) (by simp; omega)).trans h.r2, fun j => (ha.frozen (by simp; omega) (by simp; omega)).trans (h.r3 j), h.bel.trans (ha.below (by omega) (by omega)), hr, o1, o2, by omega⟩

/-- The Big is laid into the answer's box. -/
theorem Ry.out {w W0 W : World} {R P n : Nat} {G : Bool} {a : Option Addr} {c : Nat} {zs : List Int} (h : Ry w R P W0) (ha : Aside P W0 W) (hown : W.ownsRow W0.heap.size 46 1 (.slice a zs.length c) zs.length (vals .u32 zs)) (hu : U32 zs) (hn : zs.length ≤ n) :
    NewBig w n G a c zs ((W.setCell ⟨R, 0, none⟩ (.bool G)).setCell ⟨R, 1, none⟩ (.slice a zs.length c)) := by
  obtain ⟨o1, o2, o3⟩ := h.ord
  refine ⟨hn, hu, own_mono (own_set (own_set hown (by simp; omega) _) (by simp; omega) _) (by omega), ?_, by cases G <;> simp⟩
  exact ((h.bel.trans (ha.below (by omega) (by omega))).setCell (by simp; omega) _).setCell (by simp; omega) _

theorem edge_cell (W : World) (t : TypeId) (arr : Array Value) (j : Nat) (hj : j < arr.size) (ha : ∀ i (h : i < arr.size), ∃ y, arr[i] = .int .i64 y) : ∃ y, (W.alloc (.cells arr t)).cell? ⟨W.heap.size, j, none⟩ = some (.int .i64 y) := by
  obtain ⟨y, hy⟩ := ha j hj
  exact ⟨y, by rw [World.cell?_alloc_at _ _ _ _ rfl, Array.getElem?_eq_getElem hj, hy]⟩

set_option maxRecDepth 100000 in
set_option maxHeartbeats 4000000 in
theorem drawShift_any (a : Option Addr) (c : Nat) (bs : List Int) (w : World) (hn : bs.length ≤ 1048576) (hc : bs.length ≤ c) (hcm : c ≤ maxLen) (hnil : a = none → c = 0) (hr : RowAt .u8 w a bs) (hb : Dig 256 bs) :
    Calls Try.prog 26 #[.slice a bs.length c] w fun e w' => DrawShOut w e w' := by
  go_enter Try.func26, Try.ntmps26
  go_wp2_with fail
  refine (open_any a c bs _ hn hc hcm hnil (hr.later (bel0 _ _)) hb).mono ?_
  rintro e w1 ho
  have Y1 : Hid (Ry w w.heap.size (w.heap.size + 1) w1) := Ry.start ho
  obtain ⟨rfl, _, _, _⟩ := ho
  have e1 : (w.alloc (.cells #[.bool false, .slice none 0 0] 26)).heap.size = w.heap.size + 1 := by simp
  rw [e1]
  clear e1
  go_wp2_with fail
  refine (next_any _ _ Y1.out.rd).mono ?_
  rintro e w2 ⟨kk, rfl, hk0, hk1, hr2, ha2⟩
  have Y2 : Hid (Ry w w.heap.size (w.heap.size + 1) w2) := Y1.out.aside ha2 hr2
  clear Y1 hr2 ha2
  go_wp2_with fail
  refine (next_any _ _ Y2.out.rd).mono ?_
  rintro e w3 ⟨vv, rfl, hv0, hv1, hr3, ha3⟩
  have Y3 : Hid (Ry w w.heap.size (w.heap.size + 1) w3) := Y2.out.aside ha3 hr3
  clear Y2 hr3 ha3
  go_wp2_with fail
  refine (drawAny_any _ _ Y3.out.rd).mono ?_
  rintro e w4 ⟨G, a4, c4, zs, rfl, hn4, hu4, hown4, hr4, ha4⟩
  have Y4 : Hid (Ry w w.heap.size (w.heap.size + 1) w4) := Y3.out.aside ha4 hr4
  have oP : w.heap.size + 1 < w3.heap.size := Y3.out.ord.2.2
  have oR : w.heap.size < w4.heap.size := by have := Y4.out.ord; omega
  have r1 := Y4.out.r1
  have r2 := Y4.out.r2
  have r3 := Y4.out.r3
  have KEY : Hid (∀ W, Below w4.heap.size w4 W → NewBig w 513 G a4 c4 zs ((W.setCell ⟨w.heap.size, 0, none⟩ (.bool G)).setCell ⟨w.heap.size, 1, none⟩ (.slice a4 zs.length c4))) := by
    intro W hW
    exact Y3.out.out (ha4.trans (Aside.of hW)) ((Aside.of (P := w.heap.size + 1) hW).own hown4 oP) hu4 hn4
  have hq0 : 0 ≤ kk % 8 := by omega
  clear hown4 hr4 ha4 hu4
  by_cases hz : kk % 8 = 0
  · have hz' : (kk % 8 == 0) = true := by rw [beq_iff_eq]; exact hz
    have hjt : vv.tmod 8 = vv % 8 := Int.tmod_eq_emod_of_nonneg hv0
    have hj0 : 0 ≤ vv % 8 := by omega
    have hj8 : vv % 8 < 8 := by omega
    have hj9 : 0 ≤ vv % 8 ∧ vv % 8 < 8 := ⟨hj0, hj8⟩
    clear hz
    go_wp2
    obtain ⟨T, hT⟩ : ∃ T : Array Value, T = #[.int .i64 16384, .int .i64 16385, .int .i64 (-16384), .int .i64 9223372036854775807, .int .i64 (-9223372036854775808), .int .i64 16352, .int .i64 (-1), .int .i64 0] := ⟨_, rfl⟩
    rw [← hT]
    have hTs : T.size = 8 := by rw [hT]; rfl
    have hTy : ∀ i (h : i < T.size), ∃ y, T[i] = .int .i64 y := by
      subst hT
      intro i h
      have : i < 8 := h
      match i, this with
      | 0, _ => exact ⟨_, rfl⟩
      | 1, _ => exact ⟨_, rfl⟩
      | 2, _ => exact ⟨_, rfl⟩
      | 3, _ => exact ⟨_, rfl⟩
      | 4, _ => exact ⟨_, rfl⟩
      | 5, _ => exact ⟨_, rfl⟩
      | 6, _ => exact ⟨_, rfl⟩
      | 7, _ => exact ⟨_, rfl⟩
    obtain ⟨y, hy⟩ := edge_cell (w4.alloc (.cells #[.bool G, .slice a4 zs.length c4] 26)) 3 T (vv % 8).toNat (by omega) hTy
    have hb6 : Below w4.heap.size w4 ((w4.alloc (.cells #[.bool G, .slice a4 zs.length c4] 26)).alloc (.cells T 3)) := bel2 _ _ _
    have c0 : ((w4.alloc (.cells #[.bool G, .slice a4 zs.length c4] 26)).alloc (.cells T 3)).cell? ⟨w4.heap.size, 0, none⟩ = some (.bool G) := by simp [go_sem]
    have c1 : ((w4.alloc (.cells #[.bool G, .slice a4 zs.length c4] 26)).alloc (.cells T 3)).cell? ⟨w4.heap.size, 1, none⟩ = some (.slice a4 zs.length c4) := by simp [go_sem]
    simp only [World.size_alloc] at hy
    obtain ⟨W6, hW6⟩ : ∃ W6, W6 = (w4.alloc (.cells #[.bool G, .slice a4 zs.length c4] 26)).alloc (.cells T 3) := ⟨_, rfl⟩
    rw [← hW6] at hy hb6 c0 c1 ⊢
    have y1 := (hb6.cell (p := ⟨w.heap.size, 0, none⟩) oR).trans r1
    have y2 := (hb6.cell (p := ⟨w.heap.size, 1, none⟩) oR).trans r2
    have y3 := fun j => (hb6.frozen (p := ⟨w.heap.size, j, none⟩) oR).trans (r3 j)
    clear hT hTs hTy hW6 r1 r2 r3
    go_region_with (fail)
    all_goals
      go_wp2
      refine bodyPost_ret (v := .tuple #[.agg #[.bool G, .slice a4 zs.length c4], .int .i64 y]) (by simp [results, Try.results26, go_sem, y1, y2]) rfl ?_
      exact ⟨G, a4, c4, zs, y, rfl, KEY.out _ (hb6.trans ((Below.refl _ _).drew))⟩
  · have hz' : (kk % 8 == 0) = false := by rw [beq_eq_false_iff_ne]; exact hz
    have KX := KEY.out (w4.alloc (.cells #[.bool G, .slice a4 zs.length c4] 26)) (bel0 _ _)
    have HX : Hid (NewBig w 513 G a4 c4 zs (((w4.setCell ⟨w.heap.size, 0, none⟩ (.bool G)).setCell ⟨w.heap.size, 1, none⟩ (.slice a4 zs.length c4)).alloc (.cells #[.bool G, .slice a4 zs.length c4] 26))) := by
      unfold Hid
      simpa [go_sem, oR] using KX
    clear hz KX
    go_wp2
    refine bodyPost_ret (v := .tuple #[.agg #[.bool G, .slice a4 zs.length c4], .int .i64 (vv - 120)]) (by simp [results, Try.results26, go_sem, r1, r2, oR]) rfl ?_
    exact ⟨G, a4, c4, zs, vv - 120, rfl, HX.out⟩

end Go.Proofs.Ytlbegmepmeimkab
