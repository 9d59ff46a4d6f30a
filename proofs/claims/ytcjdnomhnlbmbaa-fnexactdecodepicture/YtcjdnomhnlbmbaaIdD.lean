/-
  The program's reader: tri, ray, mark.
-/
import Derived.Test.YtcjdnomhnlbmbaaIdC
namespace Go.Proofs.Ytcjdnomhnlbmbaa
open Go.RowKit

/-- What is wrong with a triangle. -/
def triF (bs : List Int) (i : Nat) : Option (Int × Int) := orF (ptF bs i) (orF (ptF bs (i + 12)) (ptF bs (i + 24)))
/-- .. with a ray. -/
def rayF (bs : List Int) (i : Nat) : Option (Int × Int) := orF (ptF bs i) (orF (ptF bs (i + 12)) (if noWayB (numB bs (i + 12) 4) (numB bs (i + 12 + 4) 4) (numB bs (i + 12 + 8) 4) = true then some (7, ((i + 12 : Nat) : Int)) else none))

theorem FillS.later {w0 w w' : World} {R b off c i X n : Nat} {bs ys : List Int} (h : FillS w0 R b off c bs i X n ys w) (hb : Below w.heap.size w w') : FillS w0 R b off c bs i X n ys w' :=
  h.call (h.rd.later hb) (Aside.of hb)
theorem FillS.blt {w0 w : World} {R b off c i X n : Nat} {bs ys : List Int} (h : FillS w0 R b off c bs i X n ys w) : b < w.heap.size := by
  have h1 := h.hb
  have h2 := h.o1.lt
  omega

theorem fin_bounds {bs : List Int} (hu : U8 bs) {i : Nat} (h : ptF bs i = none) : (0 ≤ numB bs i 4 ∧ numB bs i 4 < 4294967296) ∧ (0 ≤ numB bs (i + 4) 4 ∧ numB bs (i + 4) 4 < 4294967296) ∧ (0 ≤ numB bs (i + 8) 4 ∧ numB bs (i + 8) 4 < 4294967296) ∧ pointB (numB bs i 4) (numB bs (i + 4) 4) (numB bs (i + 8) 4) = true := by
  obtain ⟨h0, h'⟩ := orF_none h
  obtain ⟨h1, h2⟩ := orF_none h'
  have k0 := fltF_ok h0
  have k1 := fltF_ok h1
  have k2 := fltF_ok h2
  refine ⟨⟨numB_full hu (by decide) k0.1, (numB_range hu _ 4 (by decide)).2⟩, ⟨numB_full hu (by decide) k1.1, (numB_range hu _ 4 (by decide)).2⟩, ⟨numB_full hu (by decide) k2.1, (numB_range hu _ 4 (by decide)).2⟩, ?_⟩
  unfold pointB
  rw [k0.2, k1.2, k2.2]
  rfl

set_option maxRecDepth 100000 in
set_option maxHeartbeats 2000000 in
theorem tri_ok (R b off c : Nat) (bs : List Int) (i : Nat) (w : World) (hu : U8 bs) (hb : b < w.heap.size) (hx : triF bs i = none) (h : RdB w R b off c bs i) :
    Calls Try.prog 100 #[.pointer (some ⟨R, 0, none⟩)] w fun e w' => ReadOut w R b off c bs (i + 36) (.agg #[.int .u32 (numB bs i 4), .int .u32 (numB bs (i + 4) 4), .int .u32 (numB bs (i + 8) 4), .int .u32 (numB bs (i + 12) 4), .int .u32 (numB bs (i + 12 + 4) 4), .int .u32 (numB bs (i + 12 + 8) 4), .int .u32 (numB bs (i + 24) 4), .int .u32 (numB bs (i + 24 + 4) 4), .int .u32 (numB bs (i + 24 + 8) 4)]) e w' := by
  obtain ⟨hx0, hx'⟩ := orF_none hx
  obtain ⟨hx1, hx2⟩ := orF_none hx'
  clear hx hx'
  have HU : Hid (U8 bs) := hu
  have F0 : Hid (FillS w R b off c bs i w.heap.size 9 [0, 0, 0, 0, 0, 0, 0, 0, 0] ((w.alloc (.cells #[.int .u32 0, .int .u32 0, .int .u32 0, .int .u32 0, .int .u32 0, .int .u32 0, .int .u32 0, .int .u32 0, .int .u32 0] 99)).alloc (.cells #[.int .u32 0, .int .u32 0, .int .u32 0, .int .u32 0, .int .u32 0, .int .u32 0, .int .u32 0, .int .u32 0, .int .u32 0] 99))) := FillS.new h hb 9 99 _ rfl
  clear h hu hb
  go_enter Try.func100, Try.ntmps100
  go_wp2_with fail
  refine (point_ok R b off c bs (i) _ HU.out F0.out.blt hx0 F0.out.rd).mono ?_
  rintro e w1 ⟨rfl, hrd, has⟩
  have G := F0.out.call hrd has
  have F1 : Hid (FillS w R b off c bs (i + 12) w.heap.size 9 [(numB bs i 4), (numB bs (i + 4) 4), (numB bs (i + 8) 4), 0, 0, 0, 0, 0, 0] (((w1.setCell ⟨w.heap.size + 1, 0, none⟩ (.int .u32 (numB bs i 4))).setCell ⟨w.heap.size + 1, 1, none⟩ (.int .u32 (numB bs (i + 4) 4))).setCell ⟨w.heap.size + 1, 2, none⟩ (.int .u32 (numB bs (i + 8) 4)))) := ((G.put (j := 0) (by simp) _).put (j := 1) (by simp) _).put (j := 2) (by simp) _
  have q0 : w1.cell? ⟨w.heap.size + 1, 0, none⟩ = some (.int .u32 0) := G.o2.cell 0 (by simp)
  have q0' : w1.frozen? ⟨w.heap.size + 1, 0, none⟩ = false := G.o2.free 0 (by simp)
  have q1 : w1.cell? ⟨w.heap.size + 1, 1, none⟩ = some (.int .u32 0) := G.o2.cell 1 (by simp)
  have q1' : w1.frozen? ⟨w.heap.size + 1, 1, none⟩ = false := G.o2.free 1 (by simp)
  have q2 : w1.cell? ⟨w.heap.size + 1, 2, none⟩ = some (.int .u32 0) := G.o2.cell 2 (by simp)
  have q2' : w1.frozen? ⟨w.heap.size + 1, 2, none⟩ = false := G.o2.free 2 (by simp)
  clear hrd has G
  go_wp2_with fail
  clear q0 q1 q2 q0' q1' q2'
  refine (point_ok R b off c bs (i + 12) _ HU.out F1.out.blt hx1 F1.out.rd).mono ?_
  rintro e w2 ⟨rfl, hrd, has⟩
  have G := F1.out.call hrd has
  have F2 : Hid (FillS w R b off c bs (i + 24) w.heap.size 9 [(numB bs i 4), (numB bs (i + 4) 4), (numB bs (i + 8) 4), (numB bs (i + 12) 4), (numB bs (i + 12 + 4) 4), (numB bs (i + 12 + 8) 4), 0, 0, 0] (((w2.setCell ⟨w.heap.size + 1, 3, none⟩ (.int .u32 (numB bs (i + 12) 4))).setCell ⟨w.heap.size + 1, 4, none⟩ (.int .u32 (numB bs (i + 12 + 4) 4))).setCell ⟨w.heap.size + 1, 5, none⟩ (.int .u32 (numB bs (i + 12 + 8) 4)))) := ((G.put (j := 3) (by simp) _).put (j := 4) (by simp) _).put (j := 5) (by simp) _
  have q0 : w2.cell? ⟨w.heap.size + 1, 3, none⟩ = some (.int .u32 0) := G.o2.cell 3 (by simp)
  have q0' : w2.frozen? ⟨w.heap.size + 1, 3, none⟩ = false := G.o2.free 3 (by simp)
  have q1 : w2.cell? ⟨w.heap.size + 1, 4, none⟩ = some (.int .u32 0) := G.o2.cell 4 (by simp)
  have q1' : w2.frozen? ⟨w.heap.size + 1, 4, none⟩ = false := G.o2.free 4 (by simp)
  have q2 : w2.cell? ⟨w.heap.size + 1, 5, none⟩ = some (.int .u32 0) := G.o2.cell 5 (by simp)
  have q2' : w2.frozen? ⟨w.heap.size + 1, 5, none⟩ = false := G.o2.free 5 (by simp)
  clear hrd has G
  go_wp2_with fail
  clear q0 q1 q2 q0' q1' q2'
  refine (point_ok R b off c bs (i + 24) _ HU.out F2.out.blt hx2 F2.out.rd).mono ?_
  rintro e w3 ⟨rfl, hrd, has⟩
  have G := F2.out.call hrd has
  have F3 : Hid (FillS w R b off c bs (i + 36) w.heap.size 9 [(numB bs i 4), (numB bs (i + 4) 4), (numB bs (i + 8) 4), (numB bs (i + 12) 4), (numB bs (i + 12 + 4) 4), (numB bs (i + 12 + 8) 4), (numB bs (i + 24) 4), (numB bs (i + 24 + 4) 4), (numB bs (i + 24 + 8) 4)] (((w3.setCell ⟨w.heap.size + 1, 6, none⟩ (.int .u32 (numB bs (i + 24) 4))).setCell ⟨w.heap.size + 1, 7, none⟩ (.int .u32 (numB bs (i + 24 + 4) 4))).setCell ⟨w.heap.size + 1, 8, none⟩ (.int .u32 (numB bs (i + 24 + 8) 4)))) := ((G.put (j := 6) (by simp) _).put (j := 7) (by simp) _).put (j := 8) (by simp) _
  have q0 : w3.cell? ⟨w.heap.size + 1, 6, none⟩ = some (.int .u32 0) := G.o2.cell 6 (by simp)
  have q0' : w3.frozen? ⟨w.heap.size + 1, 6, none⟩ = false := G.o2.free 6 (by simp)
  have q1 : w3.cell? ⟨w.heap.size + 1, 7, none⟩ = some (.int .u32 0) := G.o2.cell 7 (by simp)
  have q1' : w3.frozen? ⟨w.heap.size + 1, 7, none⟩ = false := G.o2.free 7 (by simp)
  have q2 : w3.cell? ⟨w.heap.size + 1, 8, none⟩ = some (.int .u32 0) := G.o2.cell 8 (by simp)
  have q2' : w3.frozen? ⟨w.heap.size + 1, 8, none⟩ = false := G.o2.free 8 (by simp)
  clear hrd has
  have o0 : w3.cell? ⟨w.heap.size + 1, 0, none⟩ = some (.int .u32 (numB bs i 4)) := G.o2.cell 0 (by simp)
  have o1 : w3.cell? ⟨w.heap.size + 1, 1, none⟩ = some (.int .u32 (numB bs (i + 4) 4)) := G.o2.cell 1 (by simp)
  have o2 : w3.cell? ⟨w.heap.size + 1, 2, none⟩ = some (.int .u32 (numB bs (i + 8) 4)) := G.o2.cell 2 (by simp)
  have o3 : w3.cell? ⟨w.heap.size + 1, 3, none⟩ = some (.int .u32 (numB bs (i + 12) 4)) := G.o2.cell 3 (by simp)
  have o4 : w3.cell? ⟨w.heap.size + 1, 4, none⟩ = some (.int .u32 (numB bs (i + 12 + 4) 4)) := G.o2.cell 4 (by simp)
  have o5 : w3.cell? ⟨w.heap.size + 1, 5, none⟩ = some (.int .u32 (numB bs (i + 12 + 8) 4)) := G.o2.cell 5 (by simp)
  have r0 : w3.cell? ⟨w.heap.size, 0, none⟩ = some (.int .u32 0) := G.o1.cell 0 (by simp)
  have s0 : w3.frozen? ⟨w.heap.size, 0, none⟩ = false := G.o1.free 0 (by simp)
  have r1 : w3.cell? ⟨w.heap.size, 1, none⟩ = some (.int .u32 0) := G.o1.cell 1 (by simp)
  have s1 : w3.frozen? ⟨w.heap.size, 1, none⟩ = false := G.o1.free 1 (by simp)
  have r2 : w3.cell? ⟨w.heap.size, 2, none⟩ = some (.int .u32 0) := G.o1.cell 2 (by simp)
  have s2 : w3.frozen? ⟨w.heap.size, 2, none⟩ = false := G.o1.free 2 (by simp)
  have r3 : w3.cell? ⟨w.heap.size, 3, none⟩ = some (.int .u32 0) := G.o1.cell 3 (by simp)
  have s3 : w3.frozen? ⟨w.heap.size, 3, none⟩ = false := G.o1.free 3 (by simp)
  have r4 : w3.cell? ⟨w.heap.size, 4, none⟩ = some (.int .u32 0) := G.o1.cell 4 (by simp)
  have s4 : w3.frozen? ⟨w.heap.size, 4, none⟩ = false := G.o1.free 4 (by simp)
  have r5 : w3.cell? ⟨w.heap.size, 5, none⟩ = some (.int .u32 0) := G.o1.cell 5 (by simp)
  have s5 : w3.frozen? ⟨w.heap.size, 5, none⟩ = false := G.o1.free 5 (by simp)
  have r6 : w3.cell? ⟨w.heap.size, 6, none⟩ = some (.int .u32 0) := G.o1.cell 6 (by simp)
  have s6 : w3.frozen? ⟨w.heap.size, 6, none⟩ = false := G.o1.free 6 (by simp)
  have r7 : w3.cell? ⟨w.heap.size, 7, none⟩ = some (.int .u32 0) := G.o1.cell 7 (by simp)
  have s7 : w3.frozen? ⟨w.heap.size, 7, none⟩ = false := G.o1.free 7 (by simp)
  have r8 : w3.cell? ⟨w.heap.size, 8, none⟩ = some (.int .u32 0) := G.o1.cell 8 (by simp)
  have s8 : w3.frozen? ⟨w.heap.size, 8, none⟩ = false := G.o1.free 8 (by simp)
  clear G F0 F1 F2
  go_wp2
  refine bodyPost_ret (v := .agg #[.int .u32 (numB bs i 4), .int .u32 (numB bs (i + 4) 4), .int .u32 (numB bs (i + 8) 4), .int .u32 (numB bs (i + 12) 4), .int .u32 (numB bs (i + 12 + 4) 4), .int .u32 (numB bs (i + 12 + 8) 4), .int .u32 (numB bs (i + 24) 4), .int .u32 (numB bs (i + 24 + 4) 4), .int .u32 (numB bs (i + 24 + 8) 4)]) (by simp [results, Try.results100, go_sem, r0, r1, r2, r3, r4, r5, r6, r7, r8]) rfl ?_
  have hd := (done_set (done_set (done_set (done_set (done_set (done_set (done_set (done_set (done_set F3.out.done 0 (.int .u32 (numB bs i 4))) 1 (.int .u32 (numB bs (i + 4) 4))) 2 (.int .u32 (numB bs (i + 8) 4))) 3 (.int .u32 (numB bs (i + 12) 4))) 4 (.int .u32 (numB bs (i + 12 + 4) 4))) 5 (.int .u32 (numB bs (i + 12 + 8) 4))) 6 (.int .u32 (numB bs (i + 24) 4))) 7 (.int .u32 (numB bs (i + 24 + 4) 4))) 8 (.int .u32 (numB bs (i + 24 + 8) 4)))
  exact ⟨rfl, hd.1, hd.2.1⟩

set_option maxRecDepth 100000 in
set_option maxHeartbeats 2000000 in
theorem tri_bad (R b off c : Nat) (bs : List Int) (i : Nat) (x : Int × Int) (w : World) (hu : U8 bs) (hb : b < w.heap.size) (hx : triF bs i = some x) (h : RdB w R b off c bs i) :
    Calls Try.prog 100 #[.pointer (some ⟨R, 0, none⟩)] w fun e w' => ThrowOut w R x e w' := by
  rcases orF_some hx with hx0 | ⟨hx0, hx'⟩
  · clear hx
    have HU : Hid (U8 bs) := hu
    have F0 : Hid (FillS w R b off c bs i w.heap.size 9 [0, 0, 0, 0, 0, 0, 0, 0, 0] ((w.alloc (.cells #[.int .u32 0, .int .u32 0, .int .u32 0, .int .u32 0, .int .u32 0, .int .u32 0, .int .u32 0, .int .u32 0, .int .u32 0] 99)).alloc (.cells #[.int .u32 0, .int .u32 0, .int .u32 0, .int .u32 0, .int .u32 0, .int .u32 0, .int .u32 0, .int .u32 0, .int .u32 0] 99))) := FillS.new h hb 9 99 _ rfl
    clear h hu hb
    go_enter Try.func100, Try.ntmps100
    go_wp2_with fail
    refine (point_bad R b off c bs (i) x _ HU.out F0.out.blt hx0 F0.out.rd).mono ?_
    rintro e w9 ⟨rfl, has⟩
    exact ⟨rfl, rfl, F0.out.asd.trans has⟩
  · clear hx
    rcases orF_some hx' with hx1 | ⟨hx1, hx2⟩
    · clear hx'
      have HU : Hid (U8 bs) := hu
      have F0 : Hid (FillS w R b off c bs i w.heap.size 9 [0, 0, 0, 0, 0, 0, 0, 0, 0] ((w.alloc (.cells #[.int .u32 0, .int .u32 0, .int .u32 0, .int .u32 0, .int .u32 0, .int .u32 0, .int .u32 0, .int .u32 0, .int .u32 0] 99)).alloc (.cells #[.int .u32 0, .int .u32 0, .int .u32 0, .int .u32 0, .int .u32 0, .int .u32 0, .int .u32 0, .int .u32 0, .int .u32 0] 99))) := FillS.new h hb 9 99 _ rfl
      clear h hu hb
      go_enter Try.func100, Try.ntmps100
      go_wp2_with fail
      refine (point_ok R b off c bs (i) _ HU.out F0.out.blt hx0 F0.out.rd).mono ?_
      rintro e w1 ⟨rfl, hrd, has⟩
      have G := F0.out.call hrd has
      have F1 : Hid (FillS w R b off c bs (i + 12) w.heap.size 9 [(numB bs i 4), (numB bs (i + 4) 4), (numB bs (i + 8) 4), 0, 0, 0, 0, 0, 0] (((w1.setCell ⟨w.heap.size + 1, 0, none⟩ (.int .u32 (numB bs i 4))).setCell ⟨w.heap.size + 1, 1, none⟩ (.int .u32 (numB bs (i + 4) 4))).setCell ⟨w.heap.size + 1, 2, none⟩ (.int .u32 (numB bs (i + 8) 4)))) := ((G.put (j := 0) (by simp) _).put (j := 1) (by simp) _).put (j := 2) (by simp) _
      have q0 : w1.cell? ⟨w.heap.size + 1, 0, none⟩ = some (.int .u32 0) := G.o2.cell 0 (by simp)
      have q0' : w1.frozen? ⟨w.heap.size + 1, 0, none⟩ = false := G.o2.free 0 (by simp)
      have q1 : w1.cell? ⟨w.heap.size + 1, 1, none⟩ = some (.int .u32 0) := G.o2.cell 1 (by simp)
      have q1' : w1.frozen? ⟨w.heap.size + 1, 1, none⟩ = false := G.o2.free 1 (by simp)
      have q2 : w1.cell? ⟨w.heap.size + 1, 2, none⟩ = some (.int .u32 0) := G.o2.cell 2 (by simp)
      have q2' : w1.frozen? ⟨w.heap.size + 1, 2, none⟩ = false := G.o2.free 2 (by simp)
      clear hrd has G
      go_wp2_with fail
      clear q0 q1 q2 q0' q1' q2'
      refine (point_bad R b off c bs (i + 12) x _ HU.out F1.out.blt hx1 F1.out.rd).mono ?_
      rintro e w9 ⟨rfl, has⟩
      exact ⟨rfl, rfl, F1.out.asd.trans has⟩
    · clear hx'
      have HU : Hid (U8 bs) := hu
      have F0 : Hid (FillS w R b off c bs i w.heap.size 9 [0, 0, 0, 0, 0, 0, 0, 0, 0] ((w.alloc (.cells #[.int .u32 0, .int .u32 0, .int .u32 0, .int .u32 0, .int .u32 0, .int .u32 0, .int .u32 0, .int .u32 0, .int .u32 0] 99)).alloc (.cells #[.int .u32 0, .int .u32 0, .int .u32 0, .int .u32 0, .int .u32 0, .int .u32 0, .int .u32 0, .int .u32 0, .int .u32 0] 99))) := FillS.new h hb 9 99 _ rfl
      clear h hu hb
      go_enter Try.func100, Try.ntmps100
      go_wp2_with fail
      refine (point_ok R b off c bs (i) _ HU.out F0.out.blt hx0 F0.out.rd).mono ?_
      rintro e w1 ⟨rfl, hrd, has⟩
      have G := F0.out.call hrd has
      have F1 : Hid (FillS w R b off c bs (i + 12) w.heap.size 9 [(numB bs i 4), (numB bs (i + 4) 4), (numB bs (i + 8) 4), 0, 0, 0, 0, 0, 0] (((w1.setCell ⟨w.heap.size + 1, 0, none⟩ (.int .u32 (numB bs i 4))).setCell ⟨w.heap.size + 1, 1, none⟩ (.int .u32 (numB bs (i + 4) 4))).setCell ⟨w.heap.size + 1, 2, none⟩ (.int .u32 (numB bs (i + 8) 4)))) := ((G.put (j := 0) (by simp) _).put (j := 1) (by simp) _).put (j := 2) (by simp) _
      have q0 : w1.cell? ⟨w.heap.size + 1, 0, none⟩ = some (.int .u32 0) := G.o2.cell 0 (by simp)
      have q0' : w1.frozen? ⟨w.heap.size + 1, 0, none⟩ = false := G.o2.free 0 (by simp)
      have q1 : w1.cell? ⟨w.heap.size + 1, 1, none⟩ = some (.int .u32 0) := G.o2.cell 1 (by simp)
      have q1' : w1.frozen? ⟨w.heap.size + 1, 1, none⟩ = false := G.o2.free 1 (by simp)
      have q2 : w1.cell? ⟨w.heap.size + 1, 2, none⟩ = some (.int .u32 0) := G.o2.cell 2 (by simp)
      have q2' : w1.frozen? ⟨w.heap.size + 1, 2, none⟩ = false := G.o2.free 2 (by simp)
      clear hrd has G
      go_wp2_with fail
      clear q0 q1 q2 q0' q1' q2'
      refine (point_ok R b off c bs (i + 12) _ HU.out F1.out.blt hx1 F1.out.rd).mono ?_
      rintro e w2 ⟨rfl, hrd, has⟩
      have G := F1.out.call hrd has
      have F2 : Hid (FillS w R b off c bs (i + 24) w.heap.size 9 [(numB bs i 4), (numB bs (i + 4) 4), (numB bs (i + 8) 4), (numB bs (i + 12) 4), (numB bs (i + 12 + 4) 4), (numB bs (i + 12 + 8) 4), 0, 0, 0] (((w2.setCell ⟨w.heap.size + 1, 3, none⟩ (.int .u32 (numB bs (i + 12) 4))).setCell ⟨w.heap.size + 1, 4, none⟩ (.int .u32 (numB bs (i + 12 + 4) 4))).setCell ⟨w.heap.size + 1, 5, none⟩ (.int .u32 (numB bs (i + 12 + 8) 4)))) := ((G.put (j := 3) (by simp) _).put (j := 4) (by simp) _).put (j := 5) (by simp) _
      have q0 : w2.cell? ⟨w.heap.size + 1, 3, none⟩ = some (.int .u32 0) := G.o2.cell 3 (by simp)
      have q0' : w2.frozen? ⟨w.heap.size + 1, 3, none⟩ = false := G.o2.free 3 (by simp)
      have q1 : w2.cell? ⟨w.heap.size + 1, 4, none⟩ = some (.int .u32 0) := G.o2.cell 4 (by simp)
      have q1' : w2.frozen? ⟨w.heap.size + 1, 4, none⟩ = false := G.o2.free 4 (by simp)
      have q2 : w2.cell? ⟨w.heap.size + 1, 5, none⟩ = some (.int .u32 0) := G.o2.cell 5 (by simp)
      have q2' : w2.frozen? ⟨w.heap.size + 1, 5, none⟩ = false := G.o2.free 5 (by simp)
      clear hrd has G
      go_wp2_with fail
      clear q0 q1 q2 q0' q1' q2'
      refine (point_bad R b off c bs (i + 24) x _ HU.out F2.out.blt hx2 F2.out.rd).mono ?_
      rintro e w9 ⟨rfl, has⟩
      exact ⟨rfl, rfl, F2.out.asd.trans has⟩

set_option maxRecDepth 100000 in
set_option maxHeartbeats 2000000 in
theorem ray_ok (R b off c : Nat) (bs : List Int) (i : Nat) (w : World) (hu : U8 bs) (hb : b < w.heap.size) (hx : rayF bs i = none) (h : RdB w R b off c bs i) :
    Calls Try.prog 102 #[.pointer (some ⟨R, 0, none⟩)] w fun e w' => ReadOut w R b off c bs (i + 24) (.agg #[.int .u32 (numB bs i 4), .int .u32 (numB bs (i + 4) 4), .int .u32 (numB bs (i + 8) 4), .int .u32 (numB bs (i + 12) 4), .int .u32 (numB bs (i + 12 + 4) 4), .int .u32 (numB bs (i + 12 + 8) 4)]) e w' := by
  obtain ⟨hx0, hx'⟩ := orF_none hx
  obtain ⟨hx1, hx2⟩ := orF_none hx'
  clear hx hx'
  have HU : Hid (U8 bs) := hu
  have F0 : Hid (FillS w R b off c bs i w.heap.size 6 [0, 0, 0, 0, 0, 0] ((w.alloc (.cells #[.int .u32 0, .int .u32 0, .int .u32 0, .int .u32 0, .int .u32 0, .int .u32 0] 86)).alloc (.cells #[.int .u32 0, .int .u32 0, .int .u32 0, .int .u32 0, .int .u32 0, .int .u32 0] 86))) := FillS.new h hb 6 86 _ rfl
  clear h hu hb
  go_enter Try.func102, Try.ntmps102
  go_wp2_with fail
  refine (point_ok R b off c bs (i) _ HU.out F0.out.blt hx0 F0.out.rd).mono ?_
  rintro e w1 ⟨rfl, hrd, has⟩
  have G := F0.out.call hrd has
  have F1 : Hid (FillS w R b off c bs (i + 12) w.heap.size 6 [(numB bs i 4), (numB bs (i + 4) 4), (numB bs (i + 8) 4), 0, 0, 0] (((w1.setCell ⟨w.heap.size + 1, 0, none⟩ (.int .u32 (numB bs i 4))).setCell ⟨w.heap.size + 1, 1, none⟩ (.int .u32 (numB bs (i + 4) 4))).setCell ⟨w.heap.size + 1, 2, none⟩ (.int .u32 (numB bs (i + 8) 4)))) := ((G.put (j := 0) (by simp) _).put (j := 1) (by simp) _).put (j := 2) (by simp) _
  have q0 : w1.cell? ⟨w.heap.size + 1, 0, none⟩ = some (.int .u32 0) := G.o2.cell 0 (by simp)
  have q0' : w1.frozen? ⟨w.heap.size + 1, 0, none⟩ = false := G.o2.free 0 (by simp)
  have q1 : w1.cell? ⟨w.heap.size + 1, 1, none⟩ = some (.int .u32 0) := G.o2.cell 1 (by simp)
  have q1' : w1.frozen? ⟨w.heap.size + 1, 1, none⟩ = false := G.o2.free 1 (by simp)
  have q2 : w1.cell? ⟨w.heap.size + 1, 2, none⟩ = some (.int .u32 0) := G.o2.cell 2 (by simp)
  have q2' : w1.frozen? ⟨w.heap.size + 1, 2, none⟩ = false := G.o2.free 2 (by simp)
  have qa : (((w1.setCell ⟨w.heap.size + 1, 0, none⟩ (.int .u32 (numB bs i 4))).setCell ⟨w.heap.size + 1, 1, none⟩ (.int .u32 (numB bs (i + 4) 4))).setCell ⟨w.heap.size + 1, 2, none⟩ (.int .u32 (numB bs (i + 8) 4))).cell? ⟨R, 1, none⟩ = some (.int .i64 ((i + 12 : Nat) : Int)) := F1.out.rd.c1
  clear hrd has G
  go_wp2_with fail
  clear q0 q1 q2 q0' q1' q2'
  clear qa
  refine (point_ok R b off c bs (i + 12) _ HU.out F1.out.blt hx1 F1.out.rd).mono ?_
  rintro e w2 ⟨rfl, hrd, has⟩
  have G := F1.out.call hrd has
  have F2 : Hid (FillS w R b off c bs (i + 24) w.heap.size 6 [(numB bs i 4), (numB bs (i + 4) 4), (numB bs (i + 8) 4), (numB bs (i + 12) 4), (numB bs (i + 12 + 4) 4), (numB bs (i + 12 + 8) 4)] (((w2.setCell ⟨w.heap.size + 1, 3, none⟩ (.int .u32 (numB bs (i + 12) 4))).setCell ⟨w.heap.size + 1, 4, none⟩ (.int .u32 (numB bs (i + 12 + 4) 4))).setCell ⟨w.heap.size + 1, 5, none⟩ (.int .u32 (numB bs (i + 12 + 8) 4)))) := ((G.put (j := 3) (by simp) _).put (j := 4) (by simp) _).put (j := 5) (by simp) _
  have q0 : w2.cell? ⟨w.heap.size + 1, 3, none⟩ = some (.int .u32 0) := G.o2.cell 3 (by simp)
  have q0' : w2.frozen? ⟨w.heap.size + 1, 3, none⟩ = false := G.o2.free 3 (by simp)
  have q1 : w2.cell? ⟨w.heap.size + 1, 4, none⟩ = some (.int .u32 0) := G.o2.cell 4 (by simp)
  have q1' : w2.frozen? ⟨w.heap.size + 1, 4, none⟩ = false := G.o2.free 4 (by simp)
  have q2 : w2.cell? ⟨w.heap.size + 1, 5, none⟩ = some (.int .u32 0) := G.o2.cell 5 (by simp)
  have q2' : w2.frozen? ⟨w.heap.size + 1, 5, none⟩ = false := G.o2.free 5 (by simp)
  clear hrd has
  have b0 := fin_bounds HU.out hx0
  have b1 := fin_bounds HU.out hx1
  have o0 : w2.cell? ⟨w.heap.size + 1, 0, none⟩ = some (.int .u32 (numB bs i 4)) := G.o2.cell 0 (by simp)
  have o1 : w2.cell? ⟨w.heap.size + 1, 1, none⟩ = some (.int .u32 (numB bs (i + 4) 4)) := G.o2.cell 1 (by simp)
  have o2 : w2.cell? ⟨w.heap.size + 1, 2, none⟩ = some (.int .u32 (numB bs (i + 8) 4)) := G.o2.cell 2 (by simp)
  have r0 : w2.cell? ⟨w.heap.size, 0, none⟩ = some (.int .u32 0) := G.o1.cell 0 (by simp)
  have s0 : w2.frozen? ⟨w.heap.size, 0, none⟩ = false := G.o1.free 0 (by simp)
  have r1 : w2.cell? ⟨w.heap.size, 1, none⟩ = some (.int .u32 0) := G.o1.cell 1 (by simp)
  have s1 : w2.frozen? ⟨w.heap.size, 1, none⟩ = false := G.o1.free 1 (by simp)
  have r2 : w2.cell? ⟨w.heap.size, 2, none⟩ = some (.int .u32 0) := G.o1.cell 2 (by simp)
  have s2 : w2.frozen? ⟨w.heap.size, 2, none⟩ = false := G.o1.free 2 (by simp)
  have r3 : w2.cell? ⟨w.heap.size, 3, none⟩ = some (.int .u32 0) := G.o1.cell 3 (by simp)
  have s3 : w2.frozen? ⟨w.heap.size, 3, none⟩ = false := G.o1.free 3 (by simp)
  have r4 : w2.cell? ⟨w.heap.size, 4, none⟩ = some (.int .u32 0) := G.o1.cell 4 (by simp)
  have s4 : w2.frozen? ⟨w.heap.size, 4, none⟩ = false := G.o1.free 4 (by simp)
  have r5 : w2.cell? ⟨w.heap.size, 5, none⟩ = some (.int .u32 0) := G.o1.cell 5 (by simp)
  have s5 : w2.frozen? ⟨w.heap.size, 5, none⟩ = false := G.o1.free 5 (by simp)
  clear G F0 F1
  go_wp2_with fail
  refine (proper_any (numB bs i 4) (numB bs (i + 4) 4) (numB bs (i + 8) 4) (numB bs (i + 12) 4) (numB bs (i + 12 + 4) 4) (numB bs (i + 12 + 8) 4) _ b0.1.1 b0.1.2 b0.2.1.1 b0.2.1.2 b0.2.2.1.1 b0.2.2.1.2 b1.1.1 b1.1.2 b1.2.1.1 b1.2.1.2 b1.2.2.1.1 b1.2.2.1.2).mono ?_
  rintro e V ⟨rfl, hb2⟩
  have G := F2.out.later hb2
  have HG : Hid (FillS w R b off c bs (i + 24) w.heap.size 6 [(numB bs i 4), (numB bs (i + 4) 4), (numB bs (i + 8) 4), (numB bs (i + 12) 4), (numB bs (i + 12 + 4) 4), (numB bs (i + 12 + 8) 4)] V) := G
  rw [b0.2.2.2, b1.2.2.2]
  have hnw : noWayB (numB bs (i + 12) 4) (numB bs (i + 12 + 4) 4) (numB bs (i + 12 + 8) 4) = false := by
    cases hq : noWayB (numB bs (i + 12) 4) (numB bs (i + 12 + 4) 4) (numB bs (i + 12 + 8) 4)
    · rfl
    · rw [hq, if_pos rfl] at hx2; cases hx2
  rw [hnw]
  clear hnw hx2 hb2 o0 o1 o2 r0 s0 r1 s1 r2 s2 r3 s3 r4 s4 r5 s5 q0 q1 q2 q0' q1' q2'
  have o0 : V.cell? ⟨w.heap.size + 1, 0, none⟩ = some (.int .u32 (numB bs i 4)) := G.o2.cell 0 (by simp)
  have o1 : V.cell? ⟨w.heap.size + 1, 1, none⟩ = some (.int .u32 (numB bs (i + 4) 4)) := G.o2.cell 1 (by simp)
  have o2 : V.cell? ⟨w.heap.size + 1, 2, none⟩ = some (.int .u32 (numB bs (i + 8) 4)) := G.o2.cell 2 (by simp)
  have o3 : V.cell? ⟨w.heap.size + 1, 3, none⟩ = some (.int .u32 (numB bs (i + 12) 4)) := G.o2.cell 3 (by simp)
  have o4 : V.cell? ⟨w.heap.size + 1, 4, none⟩ = some (.int .u32 (numB bs (i + 12 + 4) 4)) := G.o2.cell 4 (by simp)
  have o5 : V.cell? ⟨w.heap.size + 1, 5, none⟩ = some (.int .u32 (numB bs (i + 12 + 8) 4)) := G.o2.cell 5 (by simp)
  have r0 : V.cell? ⟨w.heap.size, 0, none⟩ = some (.int .u32 0) := G.o1.cell 0 (by simp)
  have s0 : V.frozen? ⟨w.heap.size, 0, none⟩ = false := G.o1.free 0 (by simp)
  have r1 : V.cell? ⟨w.heap.size, 1, none⟩ = some (.int .u32 0) := G.o1.cell 1 (by simp)
  have s1 : V.frozen? ⟨w.heap.size, 1, none⟩ = false := G.o1.free 1 (by simp)
  have r2 : V.cell? ⟨w.heap.size, 2, none⟩ = some (.int .u32 0) := G.o1.cell 2 (by simp)
  have s2 : V.frozen? ⟨w.heap.size, 2, none⟩ = false := G.o1.free 2 (by simp)
  have r3 : V.cell? ⟨w.heap.size, 3, none⟩ = some (.int .u32 0) := G.o1.cell 3 (by simp)
  have s3 : V.frozen? ⟨w.heap.size, 3, none⟩ = false := G.o1.free 3 (by simp)
  have r4 : V.cell? ⟨w.heap.size, 4, none⟩ = some (.int .u32 0) := G.o1.cell 4 (by simp)
  have s4 : V.frozen? ⟨w.heap.size, 4, none⟩ = false := G.o1.free 4 (by simp)
  have r5 : V.cell? ⟨w.heap.size, 5, none⟩ = some (.int .u32 0) := G.o1.cell 5 (by simp)
  have s5 : V.frozen? ⟨w.heap.size, 5, none⟩ = false := G.o1.free 5 (by simp)
  clear G F2 b0 b1
  go_wp2
  refine bodyPost_ret (v := .agg #[.int .u32 (numB bs i 4), .int .u32 (numB bs (i + 4) 4), .int .u32 (numB bs (i + 8) 4), .int .u32 (numB bs (i + 12) 4), .int .u32 (numB bs (i + 12 + 4) 4), .int .u32 (numB bs (i + 12 + 8) 4)]) (by simp [results, Try.results102, go_sem, r0, r1, r2, r3, r4, r5]) rfl ?_
  have hd := (done_set (done_set (done_set (done_set (done_set (done_set HG.out.done 0 (.int .u32 (numB bs i 4))) 1 (.int .u32 (numB bs (i + 4) 4))) 2 (.int .u32 (numB bs (i + 8) 4))) 3 (.int .u32 (numB bs (i + 12) 4))) 4 (.int .u32 (numB bs (i + 12 + 4) 4))) 5 (.int .u32 (numB bs (i + 12 + 8) 4)))
  exact ⟨rfl, hd.1, hd.2.1⟩

set_option maxRecDepth 100000 in
set_option maxHeartbeats 2000000 in
theorem ray_bad (R b off c : Nat) (bs : List Int) (i : Nat) (x : Int × Int) (w : World) (hu : U8 bs) (hb : b < w.heap.size) (hx : rayF bs i = some x) (h : RdB w R b off c bs i) :
    Calls Try.prog 102 #[.pointer (some ⟨R, 0, none⟩)] w fun e w' => ThrowOut w R x e w' := by
  rcases orF_some hx with hx0 | ⟨hx0, hx'⟩
  · clear hx
    have HU : Hid (U8 bs) := hu
    have F0 : Hid (FillS w R b off c bs i w.heap.size 6 [0, 0, 0, 0, 0, 0] ((w.alloc (.cells #[.int .u32 0, .int .u32 0, .int .u32 0, .int .u32 0, .int .u32 0, .int .u32 0] 86)).alloc (.cells #[.int .u32 0, .int .u32 0, .int .u32 0, .int .u32 0, .int .u32 0, .int .u32 0] 86))) := FillS.new h hb 6 86 _ rfl
    clear h hu hb
    go_enter Try.func102, Try.ntmps102
    go_wp2_with fail
    refine (point_bad R b off c bs (i) x _ HU.out F0.out.blt hx0 F0.out.rd).mono ?_
    rintro e w9 ⟨rfl, has⟩
    exact ⟨rfl, rfl, F0.out.asd.trans has⟩
  · clear hx
    rcases orF_some hx' with hx1 | ⟨hx1, hx2⟩
    · clear hx'
      have HU : Hid (U8 bs) := hu
      have F0 : Hid (FillS w R b off c bs i w.heap.size 6 [0, 0, 0, 0, 0, 0] ((w.alloc (.cells #[.int .u32 0, .int .u32 0, .int .u32 0, .int .u32 0, .int .u32 0, .int .u32 0] 86)).alloc (.cells #[.int .u32 0, .int .u32 0, .int .u32 0, .int .u32 0, .int .u32 0, .int .u32 0] 86))) := FillS.new h hb 6 86 _ rfl
      clear h hu hb
      go_enter Try.func102, Try.ntmps102
      go_wp2_with fail
      refine (point_ok R b off c bs (i) _ HU.out F0.out.blt hx0 F0.out.rd).mono ?_
      rintro e w1 ⟨rfl, hrd, has⟩
      have G := F0.out.call hrd has
      have F1 : Hid (FillS w R b off c bs (i + 12) w.heap.size 6 [(numB bs i 4), (numB bs (i + 4) 4), (numB bs (i + 8) 4), 0, 0, 0] (((w1.setCell ⟨w.heap.size + 1, 0, none⟩ (.int .u32 (numB bs i 4))).setCell ⟨w.heap.size + 1, 1, none⟩ (.int .u32 (numB bs (i + 4) 4))).setCell ⟨w.heap.size + 1, 2, none⟩ (.int .u32 (numB bs (i + 8) 4)))) := ((G.put (j := 0) (by simp) _).put (j := 1) (by simp) _).put (j := 2) (by simp) _
      have q0 : w1.cell? ⟨w.heap.size + 1, 0, none⟩ = some (.int .u32 0) := G.o2.cell 0 (by simp)
      have q0' : w1.frozen? ⟨w.heap.size + 1, 0, none⟩ = false := G.o2.free 0 (by simp)
      have q1 : w1.cell? ⟨w.heap.size + 1, 1, none⟩ = some (.int .u32 0) := G.o2.cell 1 (by simp)
      have q1' : w1.frozen? ⟨w.heap.size + 1, 1, none⟩ = false := G.o2.free 1 (by simp)
      have q2 : w1.cell? ⟨w.heap.size + 1, 2, none⟩ = some (.int .u32 0) := G.o2.cell 2 (by simp)
      have q2' : w1.frozen? ⟨w.heap.size + 1, 2, none⟩ = false := G.o2.free 2 (by simp)
      have qa : (((w1.setCell ⟨w.heap.size + 1, 0, none⟩ (.int .u32 (numB bs i 4))).setCell ⟨w.heap.size + 1, 1, none⟩ (.int .u32 (numB bs (i + 4) 4))).setCell ⟨w.heap.size + 1, 2, none⟩ (.int .u32 (numB bs (i + 8) 4))).cell? ⟨R, 1, none⟩ = some (.int .i64 ((i + 12 : Nat) : Int)) := F1.out.rd.c1
      clear hrd has G
      go_wp2_with fail
      clear q0 q1 q2 q0' q1' q2'
      clear qa
      refine (point_bad R b off c bs (i + 12) x _ HU.out F1.out.blt hx1 F1.out.rd).mono ?_
      rintro e w9 ⟨rfl, has⟩
      exact ⟨rfl, rfl, F1.out.asd.trans has⟩
    · clear hx'
      have hnw : noWayB (numB bs (i + 12) 4) (numB bs (i + 12 + 4) 4) (numB bs (i + 12 + 8) 4) = true := by
        cases hq : noWayB (numB bs (i + 12) 4) (numB bs (i + 12 + 4) 4) (numB bs (i + 12 + 8) 4)
        · rw [hq, if_neg (by decide)] at hx2; cases hx2
        · rfl
      rw [hnw, if_pos rfl] at hx2
      cases hx2
      have HU : Hid (U8 bs) := hu
      have F0 : Hid (FillS w R b off c bs i w.heap.size 6 [0, 0, 0, 0, 0, 0] ((w.alloc (.cells #[.int .u32 0, .int .u32 0, .int .u32 0, .int .u32 0, .int .u32 0, .int .u32 0] 86)).alloc (.cells #[.int .u32 0, .int .u32 0, .int .u32 0, .int .u32 0, .int .u32 0, .int .u32 0] 86))) := FillS.new h hb 6 86 _ rfl
      clear h hu hb
      go_enter Try.func102, Try.ntmps102
      go_wp2_with fail
      refine (point_ok R b off c bs (i) _ HU.out F0.out.blt hx0 F0.out.rd).mono ?_
      rintro e w1 ⟨rfl, hrd, has⟩
      have G := F0.out.call hrd has
      have F1 : Hid (FillS w R b off c bs (i + 12) w.heap.size 6 [(numB bs i 4), (numB bs (i + 4) 4), (numB bs (i + 8) 4), 0, 0, 0] (((w1.setCell ⟨w.heap.size + 1, 0, none⟩ (.int .u32 (numB bs i 4))).setCell ⟨w.heap.size + 1, 1, none⟩ (.int .u32 (numB bs (i + 4) 4))).setCell ⟨w.heap.size + 1, 2, none⟩ (.int .u32 (numB bs (i + 8) 4)))) := ((G.put (j := 0) (by simp) _).put (j := 1) (by simp) _).put (j := 2) (by simp) _
      have q0 : w1.cell? ⟨w.heap.size + 1, 0, none⟩ = some (.int .u32 0) := G.o2.cell 0 (by simp)
      have q0' : w1.frozen? ⟨w.heap.size + 1, 0, none⟩ = false := G.o2.free 0 (by simp)
      have q1 : w1.cell? ⟨w.heap.size + 1, 1, none⟩ = some (.int .u32 0) := G.o2.cell 1 (by simp)
      have q1' : w1.frozen? ⟨w.heap.size + 1, 1, none⟩ = false := G.o2.free 1 (by simp)
      have q2 : w1.cell? ⟨w.heap.size + 1, 2, none⟩ = some (.int .u32 0) := G.o2.cell 2 (by simp)
      have q2' : w1.frozen? ⟨w.heap.size + 1, 2, none⟩ = false := G.o2.free 2 (by simp)
      have qa : (((w1.setCell ⟨w.heap.size + 1, 0, none⟩ (.int .u32 (numB bs i 4))).setCell ⟨w.heap.size + 1, 1, none⟩ (.int .u32 (numB bs (i + 4) 4))).setCell ⟨w.heap.size + 1, 2, none⟩ (.int .u32 (numB bs (i + 8) 4))).cell? ⟨R, 1, none⟩ = some (.int .i64 ((i + 12 : Nat) : Int)) := F1.out.rd.c1
      clear hrd has G
      go_wp2_with fail
      clear q0 q1 q2 q0' q1' q2'
      clear qa
      refine (point_ok R b off c bs (i + 12) _ HU.out F1.out.blt hx1 F1.out.rd).mono ?_
      rintro e w2 ⟨rfl, hrd, has⟩
      have G := F1.out.call hrd has
      have F2 : Hid (FillS w R b off c bs (i + 24) w.heap.size 6 [(numB bs i 4), (numB bs (i + 4) 4), (numB bs (i + 8) 4), (numB bs (i + 12) 4), (numB bs (i + 12 + 4) 4), (numB bs (i + 12 + 8) 4)] (((w2.setCell ⟨w.heap.size + 1, 3, none⟩ (.int .u32 (numB bs (i + 12) 4))).setCell ⟨w.heap.size + 1, 4, none⟩ (.int .u32 (numB bs (i + 12 + 4) 4))).setCell ⟨w.heap.size + 1, 5, none⟩ (.int .u32 (numB bs (i + 12 + 8) 4)))) := ((G.put (j := 3) (by simp) _).put (j := 4) (by simp) _).put (j := 5) (by simp) _
      have q0 : w2.cell? ⟨w.heap.size + 1, 3, none⟩ = some (.int .u32 0) := G.o2.cell 3 (by simp)
      have q0' : w2.frozen? ⟨w.heap.size + 1, 3, none⟩ = false := G.o2.free 3 (by simp)
      have q1 : w2.cell? ⟨w.heap.size + 1, 4, none⟩ = some (.int .u32 0) := G.o2.cell 4 (by simp)
      have q1' : w2.frozen? ⟨w.heap.size + 1, 4, none⟩ = false := G.o2.free 4 (by simp)
      have q2 : w2.cell? ⟨w.heap.size + 1, 5, none⟩ = some (.int .u32 0) := G.o2.cell 5 (by simp)
      have q2' : w2.frozen? ⟨w.heap.size + 1, 5, none⟩ = false := G.o2.free 5 (by simp)
      clear hrd has
      have b0 := fin_bounds HU.out hx0
      have b1 := fin_bounds HU.out hx1
      have o0 : w2.cell? ⟨w.heap.size + 1, 0, none⟩ = some (.int .u32 (numB bs i 4)) := G.o2.cell 0 (by simp)
      have o1 : w2.cell? ⟨w.heap.size + 1, 1, none⟩ = some (.int .u32 (numB bs (i + 4) 4)) := G.o2.cell 1 (by simp)
      have o2 : w2.cell? ⟨w.heap.size + 1, 2, none⟩ = some (.int .u32 (numB bs (i + 8) 4)) := G.o2.cell 2 (by simp)
      have r0 : w2.cell? ⟨w.heap.size, 0, none⟩ = some (.int .u32 0) := G.o1.cell 0 (by simp)
      have s0 : w2.frozen? ⟨w.heap.size, 0, none⟩ = false := G.o1.free 0 (by simp)
      have r1 : w2.cell? ⟨w.heap.size, 1, none⟩ = some (.int .u32 0) := G.o1.cell 1 (by simp)
      have s1 : w2.frozen? ⟨w.heap.size, 1, none⟩ = false := G.o1.free 1 (by simp)
      have r2 : w2.cell? ⟨w.heap.size, 2, none⟩ = some (.int .u32 0) := G.o1.cell 2 (by simp)
      have s2 : w2.frozen? ⟨w.heap.size, 2, none⟩ = false := G.o1.free 2 (by simp)
      have r3 : w2.cell? ⟨w.heap.size, 3, none⟩ = some (.int .u32 0) := G.o1.cell 3 (by simp)
      have s3 : w2.frozen? ⟨w.heap.size, 3, none⟩ = false := G.o1.free 3 (by simp)
      have r4 : w2.cell? ⟨w.heap.size, 4, none⟩ = some (.int .u32 0) := G.o1.cell 4 (by simp)
      have s4 : w2.frozen? ⟨w.heap.size, 4, none⟩ = false := G.o1.free 4 (by simp)
      have r5 : w2.cell? ⟨w.heap.size, 5, none⟩ = some (.int .u32 0) := G.o1.cell 5 (by simp)
      have s5 : w2.frozen? ⟨w.heap.size, 5, none⟩ = false := G.o1.free 5 (by simp)
      clear G F0 F1
      go_wp2_with fail
      refine (proper_any (numB bs i 4) (numB bs (i + 4) 4) (numB bs (i + 8) 4) (numB bs (i + 12) 4) (numB bs (i + 12 + 4) 4) (numB bs (i + 12 + 8) 4) _ b0.1.1 b0.1.2 b0.2.1.1 b0.2.1.2 b0.2.2.1.1 b0.2.2.1.2 b1.1.1 b1.1.2 b1.2.1.1 b1.2.1.2 b1.2.2.1.1 b1.2.2.1.2).mono ?_
      rintro e V ⟨rfl, hb2⟩
      have G := F2.out.later hb2
      have HG : Hid (FillS w R b off c bs (i + 24) w.heap.size 6 [(numB bs i 4), (numB bs (i + 4) 4), (numB bs (i + 8) 4), (numB bs (i + 12) 4), (numB bs (i + 12 + 4) 4), (numB bs (i + 12 + 8) 4)] V) := G
      rw [b0.2.2.2, b1.2.2.2, hnw]
      clear hnw hb2 G o0 o1 o2 r0 s0 r1 s1 r2 s2 r3 s3 r4 s4 r5 s5 q0 q1 q2 q0' q1' q2' F2 b0 b1
      go_wp2
      exact ⟨rfl, rfl, HG.out.asd⟩

end Go.Proofs.Ytcjdnomhnlbmbaa
