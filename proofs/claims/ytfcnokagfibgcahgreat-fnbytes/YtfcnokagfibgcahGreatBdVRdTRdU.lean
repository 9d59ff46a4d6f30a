/-
  What the law of bytes holds against one another: bytes, numbers, pictures.
-/
import Derived.Test.YtfcnokagfibgcahGreatBdSBdTBdU
import Derived.Test.YtfcnokagfibgcahGreatSpQToBdP
import Derived.Test.YtfcnokagfibgcahGreatSpD2ScMScJBytes2LawDs
import Derived.Test.YtfcnokagfibgcahGreatSpD3
namespace Go.Proofs.YtfcnokagfibgcahGreat
open Go.RowKit

set_option maxHeartbeats 1000000 in
theorem sameB_same (a a' : Option Addr) (c c' : Nat) (zs : List Int) (w : World) (hn : zs.length ≤ 1048576) (hz : RowAt .u8 w a zs) (hy : RowAt .u8 w a' zs) :
    Calls Tryz.prog 24 #[.slice a zs.length c, .slice a' zs.length c'] w fun e w' => e = .returned (.bool true) ∧ Below w.heap.size w w' := by
  have HZ : Hid (RowAt .u8 w a zs) := hz
  have HY : Hid (RowAt .u8 w a' zs) := hy
  clear hz hy
  go_enter Tryz.func24, Tryz.ntmps24
  go_wp2
  go_loopw [5] (fun i wr => ∃ k : Nat, k ≤ zs.length ∧ i = .int .i64 k ∧ Hid (Below w.heap.size w wr)) (fun i _ => zs.length - (intOf i).toNat)
  case atStart => exact ⟨0, Nat.zero_le _, rfl, Below.refl _ _⟩
  case round =>
    obtain ⟨k, hk, rfl, hb⟩ := hrel
    by_cases hlt : k < zs.length
    · obtain ⟨b, off, rfl, g1⟩ := row_cell HZ.out hb.out hlt
      obtain ⟨b', off', rfl, g2⟩ := row_cell HY.out hb.out hlt
      have hin : (k : Int) < zs.length := by omega
      obtain ⟨x, hx⟩ : ∃ x, x = zs.getD k 0 := ⟨_, rfl⟩
      rw [← hx] at g1 g2
      clear hx
      go_wp2
      go_quiet (fail)
      go_wp2
      go_roundw
      case rel => exact ⟨k + 1, by omega, by go_num, below_drewN hb.out _⟩
      case measure => simp [intOf]; omega
    · go_wp2
      go_ret
      exact ⟨rfl, hb.out⟩

set_option maxHeartbeats 1000000 in
theorem sameN_same (a a' : Option Addr) (n c c' : Nat) (g g' : Nat → Int) (w : World) (hn : n ≤ 1048576) (hz : RowF w a n (intF g)) (hy : RowF w a' n (intF g')) (he : ∀ i, i < n → g' i = g i) :
    Calls Tryz.prog 14 #[.slice a n c, .slice a' n c'] w fun e w' => e = .returned (.bool true) ∧ Below w.heap.size w w' := by
  have HZ : Hid (RowF w a n (intF g)) := hz
  have HY : Hid (RowF w a' n (intF g')) := hy
  have HE : Hid (∀ i, i < n → g' i = g i) := he
  clear hz hy he
  go_enter Tryz.func14, Tryz.ntmps14
  go_wp2
  go_loopw [5] (fun i wr => ∃ k : Nat, k ≤ n ∧ i = .int .i64 k ∧ Hid (Below w.heap.size w wr)) (fun i _ => n - (intOf i).toNat)
  case atStart => exact ⟨0, Nat.zero_le _, rfl, Below.refl _ _⟩
  case round =>
    obtain ⟨k, hk, rfl, hb⟩ := hrel
    by_cases hlt : k < n
    · obtain ⟨b, off, rfl, h1, h2⟩ := HZ.out.resolve_left (by omega)
      obtain ⟨b', off', rfl, h3, h4⟩ := HY.out.resolve_left (by omega)
      obtain ⟨x, hx⟩ : ∃ x, x = g k := ⟨_, rfl⟩
      have g1 : wr.cell? ⟨b, off + k, none⟩ = some (.int .i64 x) := by rw [hx]; exact (hb.out.cell (p := ⟨b, off + k, none⟩) h1).trans (h2 k hlt)
      have g2 : wr.cell? ⟨b', off' + k, none⟩ = some (.int .i64 x) := by rw [hx, ← HE.out k hlt]; exact (hb.out.cell (p := ⟨b', off' + k, none⟩) h3).trans (h4 k hlt)
      have hin : (k : Int) < n := by omega
      clear hx h2 h4
      go_wp2
      go_quiet (fail)
      go_wp2
      go_roundw
      case rel => exact ⟨k + 1, by omega, by go_num, below_drewN hb.out _⟩
      case measure => simp [intOf]; omega
    · go_wp2
      go_ret
      exact ⟨rfl, hb.out⟩

set_option maxRecDepth 100000 in
set_option maxHeartbeats 4000000 in
theorem samePicture_same (a1 a3 b1 b3 : Option Addr) (n1 n3 c1 c3 d1 d3 : Nat) (L : Int) (g g' : Nat → Int) (h h' : Nat → Bool) (w : World) (hn1 : n1 ≤ 1048576) (hn3 : n3 ≤ 1048576) (hs : PcAt w a1 a3 n1 n3 g h) (hs1 : PcAt w b1 b3 n1 n3 g' h') (he : ∀ i, i < n1 → g' i = g i) (hf : ∀ i, i < n3 → h' i = h i) :
    Calls Tryz.prog 29 #[.agg #[.slice a1 n1 c1, .int .i64 L, .slice a3 n3 c3], .agg #[.slice b1 n1 d1, .int .i64 L, .slice b3 n3 d3]] w fun e w' => e = .returned (.bool true) ∧ Below w.heap.size w w' := by
  obtain ⟨W0, hW0⟩ : ∃ W, W = (w.alloc (.cells #[.slice a1 n1 c1, .int .i64 L, .slice a3 n3 c3] 57)).alloc (.cells #[.slice b1 n1 d1, .int .i64 L, .slice b3 n3 d3] 57) := ⟨_, rfl⟩
  have bW0 : Below w.heap.size w W0 := by rw [hW0]; exact bel2 _ _ _
  have y1 : w.heap.size + 1 < W0.heap.size := by rw [hW0]; simp
  have HSC : Hid (PcAt W0 a1 a3 n1 n3 g h) := hs.later bW0
  have HSD : Hid (PcAt W0 b1 b3 n1 n3 g' h') := hs1.later bW0
  have HE : Hid ((∀ i, i < n1 → g' i = g i) ∧ ∀ i, i < n3 → h' i = h i) := ⟨he, hf⟩
  clear hs hs1 he hf
  go_enter Tryz.func29, Tryz.ntmps29
  go_wp2_with fail
  have p2 : W0.cell? ⟨w.heap.size, 2, none⟩ = some (.slice a3 n3 c3) := by rw [hW0]; simp [go_sem]
  have q2 : W0.cell? ⟨w.heap.size + 1, 2, none⟩ = some (.slice b3 n3 d3) := by rw [hW0]; simp [go_sem]
  rw [← hW0]
  clear hW0
  refine (sameN_same a1 b1 n1 c1 d1 g g' _ hn1 HSC.out.r1 HSD.out.r1 HE.out.1).mono ?_
  rintro e w1 ⟨rfl, hb1⟩
  have HB1 : Hid (Below W0.heap.size W0 w1) := hb1
  replace p2 := ((bcell hb1).1 _ _ (by omega)).trans p2
  replace q2 := ((bcell hb1).1 _ _ y1).trans q2
  have y2 : W0.heap.size ≤ w1.heap.size := hb1.size
  clear hb1
  go_wp2
  go_loopw [5] (fun i wr => ∃ k : Nat, k ≤ n3 ∧ i = .int .i64 k ∧ Hid (Below w1.heap.size w1 wr)) (fun i _ => n3 - (intOf i).toNat)
  case atStart => exact ⟨0, Nat.zero_le _, rfl, Below.refl _ _⟩
  case round =>
    obtain ⟨k, hk, rfl, hb⟩ := hrel
    have p3 : wr.cell? ⟨w.heap.size, 2, none⟩ = some (.slice a3 n3 c3) := ((bcell hb.out).1 _ _ (by omega)).trans p2
    have q3 : wr.cell? ⟨w.heap.size + 1, 2, none⟩ = some (.slice b3 n3 d3) := ((bcell hb.out).1 _ _ (by omega)).trans q2
    by_cases hlt : k < n3
    · obtain ⟨b, off, rfl, h1, h2⟩ := HSC.out.r3.resolve_left (by omega)
      obtain ⟨b', off', rfl, h3, h4⟩ := HSD.out.r3.resolve_left (by omega)
      obtain ⟨x, hx⟩ : ∃ x, x = h k := ⟨_, rfl⟩
      have hbb : Below W0.heap.size W0 wr := HB1.out.trans (hb.out.mono y2)
      have g1 : wr.cell? ⟨b, off + k, none⟩ = some (.bool x) := by rw [hx]; exact (hbb.cell (p := ⟨b, off + k, none⟩) h1).trans (h2 k hlt)
      have g2 : wr.cell? ⟨b', off' + k, none⟩ = some (.bool x) := by rw [hx, ← HE.out.2 k hlt]; exact (hbb.cell (p := ⟨b', off' + k, none⟩) h3).trans (h4 k hlt)
      have hin : (k : Int) < n3 := by omega
      clear hx h2 h4 hbb
      go_wp2
      go_quiet (fail)
      go_wp2
      go_roundw
      case rel => exact ⟨k + 1, by omega, by go_num, below_drewN hb.out _⟩
      case measure => simp [intOf]; omega
    · go_wp2
      go_ret
      exact ⟨rfl, bW0.trans ((HB1.out.trans (hb.out.mono y2)).mono (by omega))⟩

end Go.Proofs.YtfcnokagfibgcahGreat

/-
  A valid scene's bytes have no fault, and the scene comes back.
-/
namespace Go.Proofs.YtfcnokagfibgcahGreat
open Go.RowKit

theorem tri_fin {zs : List Int} {t : Nat} (h : triAt zs t = true) {j : Nat} (hj : j < 9) : fFin (zs.getD (t * 9 + j) 0) = true := by
  unfold triAt pointB at h
  simp only [Bool.and_eq_true] at h
  match j, hj with
  | 0, _ => exact h.1.1.1.1
  | 1, _ => exact h.1.1.1.2
  | 2, _ => exact h.1.1.2
  | 3, _ => exact h.1.2.1.1
  | 4, _ => exact h.1.2.1.2
  | 5, _ => exact h.1.2.2
  | 6, _ => exact h.2.1.1
  | 7, _ => exact h.2.1.2
  | 8, _ => exact h.2.2
theorem ray_fin {zs : List Int} {t : Nat} (h : rayAt zs t = true) {j : Nat} (hj : j < 6) : fFin (zs.getD (t * 6 + j) 0) = true := by
  unfold rayAt pointB at h
  simp only [Bool.and_eq_true] at h
  match j, hj with
  | 0, _ => exact h.1.1.1.1
  | 1, _ => exact h.1.1.1.2
  | 2, _ => exact h.1.1.2
  | 3, _ => exact h.1.2.1.1
  | 4, _ => exact h.1.2.1.2
  | 5, _ => exact h.1.2.2
theorem ray_dir {zs : List Int} {t : Nat} (h : rayAt zs t = true) : noWayB (zs.getD (t * 6 + 3) 0) (zs.getD (t * 6 + 4) 0) (zs.getD (t * 6 + 5) 0) = false := by
  unfold rayAt at h
  simp only [Bool.and_eq_true, Bool.not_eq_true'] at h
  exact h.2
theorem pt_fin {zs : List Int} {t : Nat} (h : ptAt zs t = true) {j : Nat} (hj : j < 3) : fFin (zs.getD (t * 3 + j) 0) = true := by
  unfold ptAt pointB at h
  simp only [Bool.and_eq_true] at h
  match j, hj with
  | 0, _ => exact h.1.1
  | 1, _ => exact h.1.2
  | 2, _ => exact h.2

theorem getD_left {a b : List Int} {i : Nat} (h : i < a.length) : (a ++ b).getD i 0 = a.getD i 0 := by
  rw [List.getD_eq_getElem?_getD, List.getElem?_append_left h, ← List.getD_eq_getElem?_getD]
theorem getD_right {a b : List Int} {i : Nat} (h : a.length ≤ i) : (a ++ b).getD i 0 = b.getD (i - a.length) 0 := by
  rw [List.getD_eq_getElem?_getD, List.getElem?_append_right h, ← List.getD_eq_getElem?_getD]
theorem list_of_getD {l : List Int} {n : Nat} (hl : l.length = n) {f : Nat → Int} (h : ∀ j, j < n → f j = l.getD j 0) : (List.range n).map f = l := by
  apply List.ext_getElem (by simp [hl])
  intro i h1 h2
  have := h i (by omega)
  rw [List.getD_eq_getElem?_getD, List.getElem?_eq_getElem h2] at this
  simpa using this

theorem valid_parts {n1 n2 n3 : Nat} {z1 z2 z3 : List Int} (hv : validSc n1 n2 n3 z1 z2 z3 = true) : n1 ≤ 40 ∧ n2 ≤ 40 ∧ n3 ≤ 4 ∧ (∀ t, t < n1 → triAt z1 t = true) ∧ (∀ t, t < n2 → rayAt z2 t = true) ∧ ∀ t, t < n3 → ptAt z3 t = true := by
  unfold validSc at hv
  simp only [Bool.and_eq_true, decide_eq_true_eq] at hv
  obtain ⟨⟨⟨⟨⟨a1, a2⟩, a3⟩, a4⟩, a5⟩, a6⟩ := hv
  exact ⟨a1, a3, a4, fun t ht => List.all_eq_true.1 a2 t (List.mem_range.2 ht), fun t ht => List.all_eq_true.1 a5 t (List.mem_range.2 ht), fun t ht => List.all_eq_true.1 a6 t (List.mem_range.2 ht)⟩

/-- The bytes of a valid scene have no fault. -/
theorem enc_fault {n1 n2 n3 : Nat} {z1 z2 z3 : List Int} (hv : validSc n1 n2 n3 z1 z2 z3 = true) (l1 : z1.length = n1 * 9) (l2 : z2.length = n2 * 6) (l3 : z3.length = n3 * 3) (u1 : U32 z1) (u2 : U32 z2) (u3 : U32 z3) :
    faultF (encSc n1 n2 n3 z1 z2 z3) = (0, 0) := by
  obtain ⟨b1, b2, b3, t1, t2, t3⟩ := valid_parts hv
  rw [encSc_flat]
  have hu : U32 (z1 ++ z2 ++ z3) := by
    intro z hz
    simp only [List.mem_append] at hz
    rcases hz with (h | h) | h
    · exact u1 z h
    · exact u2 z h
    · exact u3 z h
  have hlen : (z1 ++ z2 ++ z3).length = fltN n1 n2 n3 := by rw [List.length_append, List.length_append, l1, l2, l3]; unfold fltN; omega
  obtain ⟨zz, hzz⟩ : ∃ zz, zz = z1 ++ z2 ++ z3 := ⟨_, rfl⟩
  have g1 : ∀ i, i < n1 * 9 → zz.getD i 0 = z1.getD i 0 := by
    intro i hi
    rw [hzz, List.append_assoc, getD_left (by omega)]
  have g2 : ∀ i, i < n2 * 6 → zz.getD (9 * n1 + i) 0 = z2.getD i 0 := by
    intro i hi
    rw [hzz, List.append_assoc, getD_right (by omega), getD_left (by omega)]
    congr 1
    omega
  have g3 : ∀ i, i < n3 * 3 → zz.getD (9 * n1 + 6 * n2 + i) 0 = z3.getD i 0 := by
    intro i hi
    rw [hzz, getD_right (by rw [List.length_append]; omega)]
    congr 1
    rw [List.length_append]
    omega
  rw [← hzz] at hu hlen ⊢
  have c0 := cnt_flat0 (n2 := n2) (n3 := n3) (F := flatB zz) b1
  have c1 := cnt_flat1 (n1 := n1) (n3 := n3) (F := flatB zz) b2
  have c2 := cnt_flat2 (n1 := n1) (n2 := n2) (F := flatB zz) b3
  have hm := magic_flat n1 n2 n3 (flatB zz)
  have hc : firstF (cntAt (headB n1 n2 n3 ++ flatB zz)) 3 = none := by
    refine firstF_all 3 fun k hk => ?_
    unfold cntAt
    match k, hk with
    | 0, _ => rw [c0, if_neg (by omega), if_neg (by rw [show cntMo 0 = 40 from rfl]; omega)]
    | 1, _ => rw [c1, if_neg (by omega), if_neg (by rw [show cntMo 1 = 40 from rfl]; omega)]
    | 2, _ => rw [c2, if_neg (by omega), if_neg (by rw [show cntMo 2 = 4 from rfl]; omega)]
  rw [faultF_tail hm hc, c0, c1, c2, Int.toNat_natCast, Int.toNat_natCast, Int.toNat_natCast]
  have hN : fltN n1 n2 n3 = 9 * n1 + 6 * n2 + 3 * n3 := rfl
  have hfl : firstF (fltAt (headB n1 n2 n3 ++ flatB zz) n1 n2) (fltN n1 n2 n3) = none := by
    refine firstF_all _ fun i hi => ?_
    have hi' : i < zz.length := by omega
    have hn := num_flat (n1 := n1) (n2 := n2) (n3 := n3) hu hi'
    refine flt_none hn.symm (by have := (hu.at i).1; omega) ?_ ?_
    · by_cases q1 : i < 9 * n1
      · rw [g1 i (by omega)]
        have := tri_fin (t1 (i / 9) (by omega)) (j := i % 9) (by omega)
        rwa [show i / 9 * 9 + i % 9 = i by omega] at this
      · by_cases q2 : i < 9 * n1 + 6 * n2
        · rw [show i = 9 * n1 + (i - 9 * n1) by omega, g2 (i - 9 * n1) (by omega)]
          have := ray_fin (t2 ((i - 9 * n1) / 6) (by omega)) (j := (i - 9 * n1) % 6) (by omega)
          rwa [show (i - 9 * n1) / 6 * 6 + (i - 9 * n1) % 6 = i - 9 * n1 by omega] at this
        · rw [show i = 9 * n1 + 6 * n2 + (i - (9 * n1 + 6 * n2)) by omega, g3 (i - (9 * n1 + 6 * n2)) (by omega)]
          have := pt_fin (t3 ((i - (9 * n1 + 6 * n2)) / 3) (by omega)) (j := (i - (9 * n1 + 6 * n2)) % 3) (by omega)
          rwa [show (i - (9 * n1 + 6 * n2)) / 3 * 3 + (i - (9 * n1 + 6 * n2)) % 3 = i - (9 * n1 + 6 * n2) by omega] at this
    · unfold dirAt
      by_cases q : 9 * n1 ≤ i ∧ i < 9 * n1 + 6 * n2 ∧ (i - 9 * n1) % 6 = 5
      · obtain ⟨r, hr⟩ : ∃ r, r = (i - 9 * n1) / 6 := ⟨_, rfl⟩
        have e : i = 9 * n1 + (r * 6 + 5) := by omega
        have hd := ray_dir (t2 r (by omega))
        have f3 : fltB (headB n1 n2 n3 ++ flatB zz) (1 + 4 * i) = z2.getD (r * 6 + 3) 0 := by
          rw [show 1 + 4 * i = 9 + 4 * (9 * n1 + (r * 6 + 3)) by omega, flt_flat hu (by omega), g2 _ (by omega)]
        have f4 : fltB (headB n1 n2 n3 ++ flatB zz) (1 + 4 * i + 4) = z2.getD (r * 6 + 4) 0 := by
          rw [show 1 + 4 * i + 4 = 9 + 4 * (9 * n1 + (r * 6 + 4)) by omega, flt_flat hu (by omega), g2 _ (by omega)]
        have f5 : fltB (headB n1 n2 n3 ++ flatB zz) (1 + 4 * i + 8) = z2.getD (r * 6 + 5) 0 := by
          rw [show 1 + 4 * i + 8 = 9 + 4 * (9 * n1 + (r * 6 + 5)) by omega, flt_flat hu (by omega), g2 _ (by omega)]
        rw [f3, f4, f5, hd]
        simp
      · by_cases q1 : 9 * n1 ≤ i
        · by_cases q2 : i < 9 * n1 + 6 * n2
          · rw [decide_eq_false (show ¬ (i - 9 * n1) % 6 = 5 from fun h => q ⟨q1, q2, h⟩)]; simp
          · rw [decide_eq_false q2]; simp
        · rw [decide_eq_false q1]; simp
  rw [tailF_none hfl, if_neg (by rw [List.length_append, headB_length, flatB_length, hlen]; omega)]

/-- .. and the scene comes back. -/
theorem enc_back {n1 n2 n3 : Nat} {z1 z2 z3 : List Int} (hv : validSc n1 n2 n3 z1 z2 z3 = true) (l1 : z1.length = n1 * 9) (l2 : z2.length = n2 * 6) (l3 : z3.length = n3 * 3) (u1 : U32 z1) (u2 : U32 z2) (u3 : U32 z3) :
    decN (encSc n1 n2 n3 z1 z2 z3) 0 = n1 ∧ decN (encSc n1 n2 n3 z1 z2 z3) 1 = n2 ∧ decN (encSc n1 n2 n3 z1 z2 z3) 2 = n3 ∧ decZ1 (encSc n1 n2 n3 z1 z2 z3) = z1 ∧ decZ2 (encSc n1 n2 n3 z1 z2 z3) = z2 ∧ decZ3 (encSc n1 n2 n3 z1 z2 z3) = z3 := by
  have hf := enc_fault hv l1 l2 l3 u1 u2 u3
  obtain ⟨b1, b2, b3, _, _, _⟩ := valid_parts hv
  have hu : U32 (z1 ++ z2 ++ z3) := by
    intro z hz
    simp only [List.mem_append] at hz
    rcases hz with (h | h) | h
    · exact u1 z h
    · exact u2 z h
    · exact u3 z h
  have hlen : (z1 ++ z2 ++ z3).length = 9 * n1 + 6 * n2 + 3 * n3 := by rw [List.length_append, List.length_append, l1, l2, l3]; omega
  have d0 : decN (encSc n1 n2 n3 z1 z2 z3) 0 = n1 := by unfold decN; rw [hf, if_pos rfl, encSc_flat, cnt_flat0 b1, Int.toNat_natCast]
  have d1 : decN (encSc n1 n2 n3 z1 z2 z3) 1 = n2 := by unfold decN; rw [hf, if_pos rfl, encSc_flat, cnt_flat1 b2, Int.toNat_natCast]
  have d2 : decN (encSc n1 n2 n3 z1 z2 z3) 2 = n3 := by unfold decN; rw [hf, if_pos rfl, encSc_flat, cnt_flat2 b3, Int.toNat_natCast]
  refine ⟨d0, d1, d2, ?_, ?_, ?_⟩
  · unfold decZ1
    rw [d0]
    refine list_of_getD l1 fun j hj => ?_
    rw [encSc_flat, flt_flat hu (by omega), List.append_assoc, getD_left (by omega)]
  · unfold decZ2
    rw [d0, d1]
    refine list_of_getD l2 fun j hj => ?_
    rw [encSc_flat, show 9 + 36 * n1 + 4 * j = 9 + 4 * (9 * n1 + j) by omega, flt_flat hu (by omega), List.append_assoc, getD_right (by omega), getD_left (by omega)]
    congr 1
    omega
  · unfold decZ3
    rw [d0, d1, d2]
    refine list_of_getD l3 fun j hj => ?_
    rw [encSc_flat, show 9 + 36 * n1 + 24 * n2 + 4 * j = 9 + 4 * (9 * n1 + 6 * n2 + j) by omega, flt_flat hu (by omega), getD_right (by rw [List.length_append]; omega)]
    congr 1
    rw [List.length_append]
    omega

end Go.Proofs.YtfcnokagfibgcahGreat

/-
  Bytes without a fault are those of the scene that is read out of them, and that scene is valid.
-/
namespace Go.Proofs.YtfcnokagfibgcahGreat
open Go.RowKit

theorem leB_one_of {l : List Int} (hl : l.length = 1) (hu : U8 l) : leB (leV l) 1 = l := by
  match l, hl with
  | [a], _ =>
    have := hu a (by simp)
    simp [leB, divB, leV]
    omega
theorem leB_two_of {l : List Int} (hl : l.length = 2) (hu : U8 l) : leB (leV l) 2 = l := by
  match l, hl with
  | [a, b], _ =>
    have h1 := hu a (by simp)
    have h2 := hu b (by simp)
    simp [leB, divB, leV]
    omega
theorem leB_four_of {l : List Int} (hl : l.length = 4) (hu : U8 l) : leB (leV l) 4 = l := by
  match l, hl with
  | [a, b, c, d], _ =>
    have h1 := hu a (by simp)
    have h2 := hu b (by simp)
    have h3 := hu c (by simp)
    have h4 := hu d (by simp)
    simp [leB, divB, leV]
    omega

theorem flat_nums {bs : List Int} (hu : U8 bs) (p : Nat) : ∀ k, p + 4 * k ≤ bs.length → flatB (numsB bs p k) = (bs.drop p).take (4 * k)
  | 0, _ => by simp [numsB, flatB]
  | k + 1, h => by
    rw [nums_succ, flatB_snoc, flat_nums hu p k (by omega)]
    have e : fltB bs (p + 4 * k) = leV ((bs.drop (p + 4 * k)).take 4) := by unfold fltB; rw [if_neg (by omega)]
    rw [e, leB_four_of (by rw [List.length_take, List.length_drop]; omega) (hu.part _ _)]
    rw [show 4 * (k + 1) = 4 * k + 4 by omega, List.take_add, List.drop_drop]

theorem take_step {bs : List Int} (p n m : Nat) (hm : m = p + n) : bs.take p ++ (bs.drop p).take n = bs.take m := by
  subst hm
  rw [List.take_add]

/-- What there is where no fault is found. -/
theorem fault_none {bs : List Int} (h : (faultF bs).1 = 0) : firstF (magicAt bs) 4 = none ∧ firstF (cntAt bs) 3 = none ∧
    firstF (fltAt bs (decN bs 0) (decN bs 1)) (fltN (decN bs 0) (decN bs 1) (decN bs 2)) = none ∧ bs.length = 9 + 4 * fltN (decN bs 0) (decN bs 1) (decN bs 2) := by
  have hc := fault_counts h
  have hm : firstF (magicAt bs) 4 = none := by
    cases hf : firstF (magicAt bs) 4 with
    | none => rfl
    | some x =>
      rw [faultF_magic hf] at h
      exfalso
      have key : ∀ n, firstF (magicAt bs) n = some x → x.1 = 5 ∨ x.1 = 4 := by
        intro n
        induction n with
        | zero => intro h; cases h
        | succ n ih =>
          intro h
          unfold firstF at h
          cases hq : firstF (magicAt bs) n with
          | some y => rw [hq] at h; simp at h; subst h; exact ih hq
          | none =>
            rw [hq] at h
            simp only at h
            unfold magicAt at h
            split at h
            · simp at h; subst h; exact .inl rfl
            · split at h
              · cases h
              · simp at h; subst h; exact .inr rfl
      rcases key 4 hf with h5 | h5 <;> rw [h5] at h <;> cases h
  have n0 : decN bs 0 = (cntB bs 0).toNat := by unfold decN; rw [if_pos h]
  have n1 : decN bs 1 = (cntB bs 1).toNat := by unfold decN; rw [if_pos h]
  have n2 : decN bs 2 = (cntB bs 2).toNat := by unfold decN; rw [if_pos h]
  rw [n0, n1, n2]
  have ht := faultF_tail hm hc
  rw [ht] at h
  obtain ⟨c0, e0⟩ : ∃ c, c = (cntB bs 0).toNat := ⟨_, rfl⟩
  obtain ⟨c1, e1⟩ : ∃ c, c = (cntB bs 1).toNat := ⟨_, rfl⟩
  obtain ⟨c2, e2⟩ : ∃ c, c = (cntB bs 2).toNat := ⟨_, rfl⟩
  rw [← e0, ← e1, ← e2] at h ⊢
  have hf : firstF (fltAt bs c0 c1) (fltN c0 c1 c2) = none := by
    cases hf : firstF (fltAt bs c0 c1) (fltN c0 c1 c2) with
    | none => rfl
    | some x =>
      rw [tailF_hit hf] at h
      exfalso
      have key : ∀ n, firstF (fltAt bs c0 c1) n = some x → x.1 = 5 ∨ x.1 = 6 ∨ x.1 = 7 := by
        intro n
        induction n with
        | zero => intro h; cases h
        | succ n ih =>
          intro h
          unfold firstF at h
          cases hq : firstF (fltAt bs c0 c1) n with
          | some y => rw [hq] at h; simp at h; subst h; exact ih hq
          | none =>
            rw [hq] at h
            simp only at h
            unfold fltAt at h
            split at h
            · simp at h; subst h; exact .inl rfl
            · split at h
              · simp at h; subst h; exact .inr (.inl rfl)
              · split at h
                · simp at h; subst h; exact .inr (.inr rfl)
                · cases h
      rcases key _ hf with h5 | h5 | h5 <;> rw [h5] at h <;> cases h
  refine ⟨hm, hc, hf, ?_⟩
  rw [tailF_none hf] at h
  have h9 : 9 ≤ bs.length := by
    have := (cnt_ok hc 2 (by decide)).1
    by_cases hq : bs.length < 8 + 1
    · have e : cntB bs 2 = -1 := numB_short (i := 8) (n := 1) hq
      omega
    · omega
  by_cases hl : 9 + 4 * fltN c0 c1 c2 < bs.length
  · rw [if_pos hl] at h; cases h
  · by_cases hN : fltN c0 c1 c2 = 0
    · omega
    · have hi := firstF_none hf (fltN c0 c1 c2 - 1) (by omega)
      by_cases hq : bs.length < 9 + 4 * (fltN c0 c1 c2 - 1) + 4
      · rw [flt_short rfl (by rw [numB_short hq]; decide)] at hi
        cases hi
      · omega

/-- Bytes without a fault are those of their scene. -/
theorem enc_of {bs : List Int} (hu : U8 bs) (h : (faultF bs).1 = 0) : encSc (decN bs 0) (decN bs 1) (decN bs 2) (decZ1 bs) (decZ2 bs) (decZ3 bs) = bs := by
  obtain ⟨hm, hc, hf, hlen⟩ := fault_none h
  have n0 : ((decN bs 0 : Nat) : Int) = numB bs 4 2 := by
    have := (cnt_ok hc 0 (by decide)).1
    unfold decN
    rw [if_pos h]
    show ((cntB bs 0).toNat : Int) = cntB bs 0
    omega
  have n1 : ((decN bs 1 : Nat) : Int) = numB bs 6 2 := by
    have := (cnt_ok hc 1 (by decide)).1
    unfold decN
    rw [if_pos h]
    show ((cntB bs 1).toNat : Int) = cntB bs 1
    omega
  have n2 : ((decN bs 2 : Nat) : Int) = numB bs 8 1 := by
    have := (cnt_ok hc 2 (by decide)).1
    unfold decN
    rw [if_pos h]
    show ((cntB bs 2).toNat : Int) = cntB bs 2
    omega
  have hN : fltN (decN bs 0) (decN bs 1) (decN bs 2) = 9 * decN bs 0 + 6 * decN bs 1 + 3 * decN bs 2 := rfl
  have hh : headB (decN bs 0) (decN bs 1) (decN bs 2) = bs.take 9 := by
    unfold headB
    rw [n0, n1, n2]
    have m0 : numB bs 4 2 = leV ((bs.drop 4).take 2) := by unfold numB; rw [if_neg (by omega)]
    have m1 : numB bs 6 2 = leV ((bs.drop 6).take 2) := by unfold numB; rw [if_neg (by omega)]
    have m2 : numB bs 8 1 = leV ((bs.drop 8).take 1) := by unfold numB; rw [if_neg (by omega)]
    rw [m0, m1, m2, leB_two_of (by rw [List.length_take, List.length_drop]; omega) (hu.part _ _), leB_two_of (by rw [List.length_take, List.length_drop]; omega) (hu.part _ _), leB_one_of (by rw [List.length_take, List.length_drop]; omega) (hu.part _ _)]
    have h4 : ([83, 67, 69, 78] : List Int) = bs.take 4 := by
      apply List.ext_getElem (by rw [List.length_take]; simp; omega)
      intro i h1 h2
      have hi : i < 4 := by simpa using h1
      have := firstF_none hm i hi
      unfold magicAt at this
      rw [if_neg (by omega)] at this
      by_cases e : bs.getD i 0 = ([83, 67, 69, 78] : List Int).getD i 0
      · rw [List.getElem_take]
        rw [List.getD_eq_getElem?_getD, List.getElem?_eq_getElem (by omega), List.getD_eq_getElem?_getD, List.getElem?_eq_getElem h1] at e
        simpa using e.symm
      · rw [if_neg e] at this; cases this
    rw [h4, take_step 4 2 6 rfl, take_step 6 2 8 rfl, take_step 8 1 9 rfl]
  unfold encSc
  rw [hh]
  unfold decZ1 decZ2 decZ3
  rw [flat_nums hu 9 _ (by omega), flat_nums hu _ _ (by omega), flat_nums hu _ _ (by omega)]
  rw [take_step 9 _ (9 + 36 * decN bs 0) (by omega), take_step _ _ (9 + 36 * decN bs 0 + 24 * decN bs 1) (by omega), take_step _ _ bs.length (by omega)]
  exact List.take_length

theorem nums_get {bs : List Int} {p k j : Nat} (hj : j < k) : (numsB bs p k).getD j 0 = fltB bs (p + 4 * j) := by
  unfold numsB
  rw [List.getD_eq_getElem?_getD, List.getElem?_eq_getElem (by simpa using hj)]
  simp
theorem nums_u32 {bs : List Int} (hu : U8 bs) (p k : Nat) : U32 (numsB bs p k) := by
  intro z hz
  unfold numsB at hz
  obtain ⟨j, _, rfl⟩ := List.mem_map.1 hz
  exact fltB_range hu _

/-- The scene that is read out of bytes without a fault is valid. -/
theorem dec_valid {bs : List Int} (hu : U8 bs) (h : (faultF bs).1 = 0) : validSc (decN bs 0) (decN bs 1) (decN bs 2) (decZ1 bs) (decZ2 bs) (decZ3 bs) = true := by
  obtain ⟨_, hc, hf, hlen⟩ := fault_none h
  have b0 : decN bs 0 ≤ 40 := by have := (cnt_ok hc 0 (by decide)).2; rw [show cntMo 0 = 40 from rfl] at this; unfold decN; rw [if_pos h]; omega
  have b1 : decN bs 1 ≤ 40 := by have := (cnt_ok hc 1 (by decide)).2; rw [show cntMo 1 = 40 from rfl] at this; unfold decN; rw [if_pos h]; omega
  have b2 : decN bs 2 ≤ 4 := by have := (cnt_ok hc 2 (by decide)).2; rw [show cntMo 2 = 4 from rfl] at this; unfold decN; rw [if_pos h]; omega
  obtain ⟨n1, e1⟩ : ∃ n, n = decN bs 0 := ⟨_, rfl⟩
  obtain ⟨n2, e2⟩ : ∃ n, n = decN bs 1 := ⟨_, rfl⟩
  obtain ⟨n3, e3⟩ : ∃ n, n = decN bs 2 := ⟨_, rfl⟩
  unfold decZ1 decZ2 decZ3
  rw [← e1] at b0 hf hlen ⊢
  rw [← e2] at b1 hf hlen ⊢
  rw [← e3] at b2 hf hlen ⊢
  have hN : fltN n1 n2 n3 = 9 * n1 + 6 * n2 + 3 * n3 := rfl
  have nf : ∀ i, i < fltN n1 n2 n3 → numB bs (9 + 4 * i) 4 = fltB bs (9 + 4 * i) := by
    intro i hi
    unfold numB fltB
    rw [if_neg (by omega), if_neg (by omega)]
  have fin : ∀ i, i < fltN n1 n2 n3 → fFin (fltB bs (9 + 4 * i)) = true := by
    intro i hi
    have hn := firstF_none hf i hi
    cases hq : fFin (fltB bs (9 + 4 * i)) with
    | true => rfl
    | false =>
      rw [flt_odd rfl (by rw [nf i hi]; have := (fltB_range hu (9 + 4 * i)).1; omega) (by rw [nf i hi]; exact hq)] at hn
      cases hn
  have dir : ∀ i, i < fltN n1 n2 n3 → dirAt bs n1 n2 i = false := by
    intro i hi
    have hn := firstF_none hf i hi
    cases hq : dirAt bs n1 n2 i with
    | false => rfl
    | true =>
      rw [flt_zero rfl (by rw [nf i hi]; have := (fltB_range hu (9 + 4 * i)).1; omega) (by rw [nf i hi]; exact fin i hi) hq] at hn
      cases hn
  have p1 : ∀ t, t < n1 → triAt (numsB bs 9 (n1 * 9)) t = true := by
    intro t ht
    have key : ∀ j, j < 9 → fFin ((numsB bs 9 (n1 * 9)).getD (t * 9 + j) 0) = true := by
      intro j hj
      rw [nums_get (by omega)]
      exact fin (t * 9 + j) (by omega)
    unfold triAt pointB
    have k0 := key 0 (by decide)
    rw [Nat.add_zero] at k0
    rw [k0, key 1 (by decide), key 2 (by decide), key 3 (by decide), key 4 (by decide), key 5 (by decide), key 6 (by decide), key 7 (by decide), key 8 (by decide)]
    rfl
  have p2 : ∀ t, t < n2 → rayAt (numsB bs (9 + 36 * n1) (n2 * 6)) t = true := by
    intro t ht
    have key : ∀ j, j < 6 → fFin ((numsB bs (9 + 36 * n1) (n2 * 6)).getD (t * 6 + j) 0) = true := by
      intro j hj
      rw [nums_get (by omega), show 9 + 36 * n1 + 4 * (t * 6 + j) = 9 + 4 * (9 * n1 + (t * 6 + j)) by omega]
      exact fin _ (by omega)
    have hd := dir (9 * n1 + (t * 6 + 5)) (by omega)
    unfold dirAt at hd
    rw [decide_eq_true (show 9 * n1 ≤ 9 * n1 + (t * 6 + 5) by omega), decide_eq_true (show 9 * n1 + (t * 6 + 5) < 9 * n1 + 6 * n2 by omega), decide_eq_true (show (9 * n1 + (t * 6 + 5) - 9 * n1) % 6 = 5 by omega)] at hd
    have hd2 : noWayB ((numsB bs (9 + 36 * n1) (n2 * 6)).getD (t * 6 + 3) 0) ((numsB bs (9 + 36 * n1) (n2 * 6)).getD (t * 6 + 4) 0) ((numsB bs (9 + 36 * n1) (n2 * 6)).getD (t * 6 + 5) 0) = false := by
      rw [nums_get (by omega), nums_get (by omega), nums_get (by omega)]
      rw [show 1 + 4 * (9 * n1 + (t * 6 + 5)) = 9 + 36 * n1 + 4 * (t * 6 + 3) by omega, show 9 + 36 * n1 + 4 * (t * 6 + 3) + 4 = 9 + 36 * n1 + 4 * (t * 6 + 4) by omega, show 9 + 36 * n1 + 4 * (t * 6 + 3) + 8 = 9 + 36 * n1 + 4 * (t * 6 + 5) by omega] at hd
      simpa using hd
    unfold rayAt pointB
    rw [hd2]
    have k0 := key 0 (by decide)
    rw [Nat.add_zero] at k0
    rw [k0, key 1 (by decide), key 2 (by decide), key 3 (by decide), key 4 (by decide), key 5 (by decide)]
    rfl
  have p3 : ∀ t, t < n3 → ptAt (numsB bs (9 + 36 * n1 + 24 * n2) (n3 * 3)) t = true := by
    intro t ht
    have key : ∀ j, j < 3 → fFin ((numsB bs (9 + 36 * n1 + 24 * n2) (n3 * 3)).getD (t * 3 + j) 0) = true := by
      intro j hj
      rw [nums_get (by omega), show 9 + 36 * n1 + 24 * n2 + 4 * (t * 3 + j) = 9 + 4 * (9 * n1 + 6 * n2 + (t * 3 + j)) by omega]
      exact fin _ (by omega)
    unfold ptAt pointB
    have k0 := key 0 (by decide)
    rw [Nat.add_zero] at k0
    rw [k0, key 1 (by decide), key 2 (by decide)]
    rfl
  have q1 : (List.range n1).all (triAt (numsB bs 9 (n1 * 9))) = true := List.all_eq_true.2 fun t ht => p1 t (List.mem_range.1 ht)
  have q2 : (List.range n2).all (rayAt (numsB bs (9 + 36 * n1) (n2 * 6))) = true := List.all_eq_true.2 fun t ht => p2 t (List.mem_range.1 ht)
  have q3 : (List.range n3).all (ptAt (numsB bs (9 + 36 * n1 + 24 * n2) (n3 * 3))) = true := List.all_eq_true.2 fun t ht => p3 t (List.mem_range.1 ht)
  unfold validSc
  rw [q1, q2, q3, decide_eq_true b0, decide_eq_true b1, decide_eq_true b2]
  rfl

end Go.Proofs.YtfcnokagfibgcahGreat
