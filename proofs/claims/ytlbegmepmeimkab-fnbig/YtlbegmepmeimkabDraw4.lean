/-
  Any drawn Big; a drawn shift.
-/
import Derived.Test.YtlbegmepmeimkabDraw3
namespace Go.Proofs.Ytlbegmepmeimkab
open Go.RowKit

/-- The answer's box (R, still zero) while a Big is drawn behind it. -/
structure Rz (w : World) (P R : Nat) (W : World) : Prop where
  r1 : W.cell? ⟨R, 0, none⟩ = some (.bool false)
  r2 : W.cell? ⟨R, 1, none⟩ = some (.slice none 0 0)
  r3 : ∀ j, W.frozen? ⟨R, j, none⟩ = false
  asd : Aside P w W
  ord : w.heap.size ≤ R ∧ R < W.heap.size ∧ P < w.heap.size

theorem Rz.start (w : World) (P : Nat) (hp : P < w.heap.size) (t : TypeId) : Rz w P w.heap.size (w.alloc (.cells #[.bool false, .slice none 0 0] t)) :=
  ⟨by simp [go_sem], by simp [go_sem], by intro j; simp [go_sem], Aside.of (bel0 _ _), Nat.le_refl _, by simp, hp⟩

theorem Rz.aside {w : World} {P R : Nat} {W W' : World} (h : Rz w P R W) (ha : Aside P W W') : Rz w P R W' := by
  obtain ⟨o1, o2, o3⟩ := h.ord
  have hs := ha.size
  exact ⟨(ha.cell (by simp; omega) (by simp; omega)).trans h.r1, (ha.cell (by simp; omega) (by simp; omega)).trans h.r2, fun j => (ha.frozen (by simp; omega) (by simp; omega)).trans (h.r3 j), h.asd.trans ha, o1, by omega, o3⟩

/-- A drawn Big is laid into the answer's box. -/
theorem Rz.out {w W0 W : World} {P R : Nat} {e : TypeId} {G : Bool} {a : Option Addr} {c n : Nat} {zs : List Int} (h : Rz w P R W0) (ha : Aside P W0 W) (hr : Rd P W) (hown : W.ownsRow W0.heap.size e 1 (.slice a zs.length c) zs.length (vals .u32 zs)) (hu : U32 zs) (hn : zs.length ≤ n) :
    DrawOut P e w n (.returned (.agg #[.bool G, .slice a zs.length c])) ((W.setCell ⟨R, 0, none⟩ (.bool G)).setCell ⟨R, 1, none⟩ (.slice a zs.length c)) := by
  obtain ⟨o1, o2, o3⟩ := h.ord
  have hs := h.asd.size
  refine ⟨G, a, c, zs, rfl, hn, hu, own_mono (own_set (own_set hown (by simp; omega) _) (by simp; omega) _) (by omega), ?_, ((h.asd.trans ha).setHigh (by simp; omega) _).setHigh (by simp; omega) _⟩
  exact hr.above (B := P + 1) (((Below.refl _ _).setCell (by simp; omega) _).setCell (by simp; omega) _) (by omega)

set_option maxHeartbeats 4000000 in
theorem drawAny_any (P : Nat) (w : World) (h : Rd P w) :
    Calls Try.prog 45 #[.pointer (some ⟨P, 0, none⟩)] w fun e w' => DrawOut P 46 w 513 e w' := by
  have hl := h.lt
  go_enter Try.func45, Try.ntmps45
  go_wp2_with fail
  refine (next_any P _ (h.later (bel0 _ _))).mono ?_
  rintro e w1 ⟨kk, rfl, hk0, hk1, hr1, ha1⟩
  have R1 : Hid (Rz w P w.heap.size w1) := (Rz.start w P hl _).aside ha1
  have HR1 : Hid (Rd P w1) := hr1
  have hq0 : 0 ≤ kk % 14 := by omega
  clear hr1 ha1
  go_wp2_with fail
  refine (drawBig_any P _ HR1.out).mono ?_
  rintro e w2 ⟨G, a, c, zs, rfl, hn2, hu2, hown2, hr2, ha2⟩
  have R2 : Hid (Rz w P w.heap.size w2) := R1.out.aside ha2
  have oR : w.heap.size < w2.heap.size := R2.out.ord.2.1
  have r1 := R2.out.r1
  have r2 := R2.out.r2
  have r3 := R2.out.r3
  by_cases hz : kk % 14 = 0
  · have hz' : (kk % 14 == 0) = true := by rw [beq_iff_eq]; exact hz
    have hp1 : P < w1.heap.size := by have := R1.out.ord; omega
    have b0 : Below w2.heap.size w2 (w2.alloc (.cells #[.bool G, .slice a zs.length c] 26)) := bel0 _ _
    have S3 := spoil_any P w1 (w2.alloc (.cells #[.bool G, .slice a zs.length c] 26)) G a c zs hp1 (hr2.later b0) (ha2.trans (Aside.of b0)) ((Aside.of (P := P) b0).own hown2 hp1) hu2 hn2
    have HS3 : Hid (Calls Try.prog 69 #[.agg #[.bool G, .slice a zs.length c], .pointer (some ⟨P, 0, none⟩)] (w2.alloc (.cells #[.bool G, .slice a zs.length c] 26)) fun e w' => DrawOut P 46 w1 513 e w') := S3
    clear S3 hown2 hr2 ha2 b0 hu2 hz
    go_wp2_with fail
    refine HS3.out.mono ?_
    rintro e w3 ⟨G3, a3, c3, z3, rfl, hn3, hu3, hown3, hr3, ha3⟩
    have HX : Hid (DrawOut P 46 w 513 (.returned (.agg #[.bool G3, .slice a3 z3.length c3])) ((w3.setCell ⟨w.heap.size, 0, none⟩ (.bool G3)).setCell ⟨w.heap.size, 1, none⟩ (.slice a3 z3.length c3))) := R1.out.out ha3 hr3 hown3 hu3 hn3
    have R3 : Hid (Rz w P w.heap.size w3) := R1.out.aside ha3
    have y1 := R3.out.r1
    have y2 := R3.out.r2
    have y3 := R3.out.r3
    clear hown3 hr3 ha3 hu3 r1 r2 r3
    go_wp2
    refine bodyPost_ret (v := .agg #[.bool G3, .slice a3 z3.length c3]) (by simp [results, Try.results45, go_sem, y1, y2]) rfl ?_
    exact HX.out
  · have hz' : (kk % 14 == 0) = false := by rw [beq_eq_false_iff_ne]; exact hz
    have b0 : Below w2.heap.size w2 (w2.alloc (.cells #[.bool G, .slice a zs.length c] 26)) := bel0 _ _
    have hp1 : P < w1.heap.size := by have := R1.out.ord; omega
    have DX := R1.out.out (n := 513) (G := G) (ha2.trans (Aside.of b0)) (hr2.later b0) ((Aside.of (P := P) b0).own hown2 hp1) hu2 (by omega)
    have HX : Hid (DrawOut P 46 w 513 (.returned (.agg #[.bool G, .slice a zs.length c])) (((w2.setCell ⟨w.heap.size, 0, none⟩ (.bool G)).setCell ⟨w.heap.size, 1, none⟩ (.slice a zs.length c)).alloc (.cells #[.bool G, .slice a zs.length c] 26))) := by
      unfold Hid
      simpa [go_sem, oR] using DX
    clear DX hown2 hr2 ha2 b0 hu2 hz
    go_wp2
    refine bodyPost_ret (v := .agg #[.bool G, .slice a zs.length c]) (by simp [results, Try.results45, go_sem, r1, r2, oR]) rfl ?_
    exact HX.out

end Go.Proofs.Ytlbegmepmeimkab
