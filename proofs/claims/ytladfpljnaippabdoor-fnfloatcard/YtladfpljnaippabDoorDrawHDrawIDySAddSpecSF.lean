/-
  Any drawn Big, and the bits of a drawn float, as functions of the reader's bytes.
-/
import Derived.Test.YtladfpljnaippabDoorGrow2ToDyOSF
import Derived.Test.YtladfpljnaippabDoorNumWToNumFlF
import Derived.Test.YtladfpljnaippabDoorDy2QF
import Derived.Test.YtladfpljnaippabDoorSpecGQF
namespace Go.Proofs.YtladfpljnaippabDoor
open Go.RowKit

/-- Any drawn Big: sign, digits, the bytes that are left. -/
def anyF (rs : List Int) : Bool × List Int × List Int :=
  if rs.headD 0 % 14 = 0 then ((spoilF (drawG rs.tail) (drawZ rs.tail) (drawL rs.tail).2).1, (spoilF (drawG rs.tail) (drawZ rs.tail) (drawL rs.tail).2).2, (drawL rs.tail).2.tail)
  else (drawG rs.tail, drawZ rs.tail, (drawL rs.tail).2)

theorem Rz.outH {w W0 W : World} {P R : Nat} {G : Bool} {a : Option Addr} {c : Nat} {zs rs : List Int} (h : Rz w P R W0) (ha : Aside P W0 W) (hr : Rs P rs W) (hown : W.ownsRow W0.heap.size 33 1 (.slice a zs.length c) zs.length (vals .u32 zs)) (hu : U32 zs) (hn : zs.length ≤ 513) :
    DrawH P G zs rs w (.returned (.agg #[.bool G, .slice a zs.length c])) ((W.setCell ⟨R, 0, none⟩ (.bool G)).setCell ⟨R, 1, none⟩ (.slice a zs.length c)) := by
  obtain ⟨o1, o2, o3⟩ := h.ord
  have hs := h.asd.size
  refine ⟨a, c, rfl, hn, hu, own_mono (own_set (own_set hown (by simp; omega) _) (by simp; omega) _) (by omega), ?_, ((h.asd.trans ha).setHigh (by simp; omega) _).setHigh (by simp; omega) _⟩
  exact hr.above (B := P + 1) (((Below.refl _ _).setCell (by simp; omega) _).setCell (by simp; omega) _) (by omega)

set_option maxHeartbeats 4000000 in
theorem drawAnyH_any (P : Nat) (rs : List Int) (w : World) (h : Rs P rs w) :
    Calls Tryd.prog 73 #[.pointer (some ⟨P, 0, none⟩)] w fun e w' => DrawH P (anyF rs).1 (anyF rs).2.1 (anyF rs).2.2 w e w' := by
  have hl := h.lt
  obtain ⟨F, hF⟩ : ∃ F, F = anyF rs := ⟨_, rfl⟩
  rw [← hF]
  have HF : Hid (F = anyF rs) := hF
  clear hF
  go_enter Tryd.func73, Tryd.ntmps73
  go_wp2_with fail
  refine (nextF_any P rs _ (h.later (bel0 _ _))).mono ?_
  rintro e w1 ⟨rfl, hk0, hk1, hr1, ha1⟩
  obtain ⟨kk, hkk⟩ : ∃ kk, kk = rs.headD 0 := ⟨_, rfl⟩
  have HF2 : Hid (F = if kk % 14 = 0 then ((spoilF (drawG rs.tail) (drawZ rs.tail) (drawL rs.tail).2).1, (spoilF (drawG rs.tail) (drawZ rs.tail) (drawL rs.tail).2).2, (drawL rs.tail).2.tail) else (drawG rs.tail, drawZ rs.tail, (drawL rs.tail).2)) := by unfold Hid; rw [HF.out, hkk]; rfl
  rw [← hkk] at hk0 hk1 ⊢
  clear hkk HF
  have R1 : Hid (Rz w P w.heap.size w1) := (Rz.start w P hl _).aside ha1
  have HR1 : Hid (Rs P rs.tail w1) := hr1
  have hq0 : 0 ≤ kk % 14 := by omega
  clear hr1 ha1 h
  go_wp2_with fail
  refine (drawBigF_any P rs.tail _ HR1.out).mono ?_
  rintro e w2 ⟨a, c, rfl, hn2, hu2, hown2, hr2, ha2⟩
  obtain ⟨G, hG⟩ : ∃ G, G = drawG rs.tail := ⟨_, rfl⟩
  obtain ⟨zs, hzs⟩ : ∃ zs, zs = drawZ rs.tail := ⟨_, rfl⟩
  obtain ⟨rs2, hrs2⟩ : ∃ rs2, rs2 = (drawL rs.tail).2 := ⟨_, rfl⟩
  have HF3 : Hid (F = if kk % 14 = 0 then ((spoilF G zs rs2).1, (spoilF G zs rs2).2, rs2.tail) else (G, zs, rs2)) := by unfold Hid; rw [HF2.out, hG, hzs, hrs2]
  rw [← hzs] at hn2 hu2 hown2 ⊢
  rw [← hrs2] at hr2
  rw [← hG]
  clear hG hzs hrs2 HF2
  have R2 : Hid (Rz w P w.heap.size w2) := R1.out.aside ha2
  have oR : w.heap.size < w2.heap.size := R2.out.ord.2.1
  have r1 := R2.out.r1
  have r2 := R2.out.r2
  have r3 := R2.out.r3
  by_cases hz : kk % 14 = 0
  · have hz' : (kk % 14 == 0) = true := by rw [beq_iff_eq]; exact hz
    have HF4 : Hid (F = ((spoilF G zs rs2).1, (spoilF G zs rs2).2, rs2.tail)) := by unfold Hid; rw [HF3.out, if_pos hz]
    have hp1 : P < w1.heap.size := by have := R1.out.ord; omega
    have b0 : Below w2.heap.size w2 (w2.alloc (.cells #[.bool G, .slice a zs.length c] 27)) := bel0 _ _
    have S3 := spoilH_any P rs2 w1 (w2.alloc (.cells #[.bool G, .slice a zs.length c] 27)) G a c zs hp1 (hr2.later b0) (ha2.trans (Aside.of b0)) ((Aside.of (P := P) b0).own hown2 hp1) hu2 hn2
    have HS3 : Hid (Calls Tryd.prog 105 #[.agg #[.bool G, .slice a zs.length c], .pointer (some ⟨P, 0, none⟩)] (w2.alloc (.cells #[.bool G, .slice a zs.length c] 27)) fun e w' => DrawH P (spoilF G zs rs2).1 (spoilF G zs rs2).2 rs2.tail w1 e w') := S3
    clear S3 hown2 hr2 ha2 b0 hu2 hz HF3
    go_wp2_with fail
    refine HS3.out.mono ?_
    rintro e w3 ⟨a3, c3, rfl, hn3, hu3, hown3, hr3, ha3⟩
    obtain ⟨G3, hG3⟩ : ∃ G3, G3 = (spoilF G zs rs2).1 := ⟨_, rfl⟩
    obtain ⟨z3, hz3⟩ : ∃ z3, z3 = (spoilF G zs rs2).2 := ⟨_, rfl⟩
    have HF5 : Hid (F = (G3, z3, rs2.tail)) := by unfold Hid; rw [HF4.out, hG3, hz3]
    rw [← hz3] at hn3 hu3 hown3 ⊢
    rw [← hG3]
    clear hG3 hz3 HF4 HS3
    have HX : Hid (DrawH P G3 z3 rs2.tail w (.returned (.agg #[.bool G3, .slice a3 z3.length c3])) ((w3.setCell ⟨w.heap.size, 0, none⟩ (.bool G3)).setCell ⟨w.heap.size, 1, none⟩ (.slice a3 z3.length c3))) := R1.out.outH ha3 hr3 hown3 hu3 hn3
    have R3 : Hid (Rz w P w.heap.size w3) := R1.out.aside ha3
    have y1 := R3.out.r1
    have y2 := R3.out.r2
    have y3 := R3.out.r3
    clear hown3 hr3 ha3 hu3 r1 r2 r3
    go_wp2
    refine bodyPost_ret (v := .agg #[.bool G3, .slice a3 z3.length c3]) (by simp [results, Tryd.results73, go_sem, y1, y2]) rfl ?_
    rw [HF5.out]
    exact HX.out
  · have hz' : (kk % 14 == 0) = false := by rw [beq_eq_false_iff_ne]; exact hz
    have HF4 : Hid (F = (G, zs, rs2)) := by unfold Hid; rw [HF3.out, if_neg hz]
    have b0 : Below w2.heap.size w2 (w2.alloc (.cells #[.bool G, .slice a zs.length c] 27)) := bel0 _ _
    have hp1 : P < w1.heap.size := by have := R1.out.ord; omega
    have DX := R1.out.outH (G := G) (ha2.trans (Aside.of b0)) (hr2.later b0) ((Aside.of (P := P) b0).own hown2 hp1) hu2 (by omega)
    have HX : Hid (DrawH P G zs rs2 w (.returned (.agg #[.bool G, .slice a zs.length c])) (((w2.setCell ⟨w.heap.size, 0, none⟩ (.bool G)).setCell ⟨w.heap.size, 1, none⟩ (.slice a zs.length c)).alloc (.cells #[.bool G, .slice a zs.length c] 27))) := by
      unfold Hid
      simpa [go_sem, oR] using DX
    clear DX hown2 hr2 ha2 b0 hu2 hz HF3
    go_wp2
    refine bodyPost_ret (v := .agg #[.bool G, .slice a zs.length c]) (by simp [results, Tryd.results73, go_sem, r1, r2, oR]) rfl ?_
    rw [HF4.out]
    exact HX.out

def smallU : List Int := [0, 1065353216, 1073741824, 1077936128, 1082130432, 1084227584, 1086324736, 3212836864, 3221225472, 3225419776, 1056964608, 2147483648]
def oddU : List Int := [1, 2147483649, 8388607, 8388608, 2139095039, 4286578687, 1065353217, 872415232, 2139095040, 4286578688, 2143289344, 2139095041]

/-- The bits of a drawn float, and the bytes that are left. -/
def bitsF (wild : Bool) (rs : List Int) : Int × List Int :=
  if wild = false ∨ rs.headD 0 < 200 then (smallU.getD (rs.headD 0 % 12).toNat 0, rs.tail)
  else if rs.headD 0 < 224 then (oddU.getD (rs.headD 0 % 8).toNat 0, rs.tail)
  else if rs.headD 0 < 226 then (oddU.getD (8 + rs.tail.headD 0 % 4).toNat 0, rs.tail.tail)
  else (if fFin (bits .xor .u32 (rs.tail.headD 0 * 16843009) (rs.tail.tail.headD 0 * 66309)) = true then bits .xor .u32 (rs.tail.headD 0 * 16843009) (rs.tail.tail.headD 0 * 66309) else bits .xor .u32 (bits .xor .u32 (rs.tail.headD 0 * 16843009) (rs.tail.tail.headD 0 * 66309)) 1073741824, rs.tail.tail.tail)

/-- What l2drawBits hands back. -/
def BitsOut (P : Nat) (b : Int) (rs' : List Int) (w : World) (e : Ending) (w' : World) : Prop := e = .returned (.int .u32 b) ∧ 0 ≤ b ∧ b < 4294967296 ∧ Rs P rs' w' ∧ Aside P w w'

theorem smallU_row (w : World) (t : TypeId) : RowAt .u32 (w.alloc (.cells #[.int .u32 0, .int .u32 1065353216, .int .u32 1073741824, .int .u32 1077936128, .int .u32 1082130432, .int .u32 1084227584, .int .u32 1086324736, .int .u32 3212836864, .int .u32 3221225472, .int .u32 3225419776, .int .u32 1056964608, .int .u32 2147483648] t)) (some ⟨w.heap.size, 0, none⟩) smallU := by
  refine .inr ⟨w.heap.size, 0, rfl, by simp, fun j hj => ?_⟩
  rw [Nat.zero_add, World.cell?_alloc_at _ _ _ _ (by simp)]
  have : j < 12 := hj
  match j, this with
  | 0, _ => rfl
  | 1, _ => rfl
  | 2, _ => rfl
  | 3, _ => rfl
  | 4, _ => rfl
  | 5, _ => rfl
  | 6, _ => rfl
  | 7, _ => rfl
  | 8, _ => rfl
  | 9, _ => rfl
  | 10, _ => rfl
  | 11, _ => rfl

theorem smallU_cell {W : World} {T j : Nat} (h : RowAt .u32 W (some ⟨T, 0, none⟩) smallU) (hj : j < 12) : ∃ y, W.cell? ⟨T, j, none⟩ = some (.int .u32 y) ∧ 0 ≤ y ∧ y < 4294967296 ∧ y = smallU.getD j 0 := by
  rcases h with h | ⟨b, off, h1, _, h3⟩
  · cases h
  · have h4 := Option.some.inj h1
    have e1 : b = T := (congrArg Addr.block h4).symm
    have e2 : off = 0 := (congrArg Addr.off h4).symm
    subst e1 e2
    have := h3 j hj
    rw [Nat.zero_add] at this
    have hu : ∀ k, k < 12 → 0 ≤ smallU.getD k 0 ∧ smallU.getD k 0 < 4294967296 := by decide
    exact ⟨_, this, (hu j hj).1, (hu j hj).2, rfl⟩

theorem oddU_row (w : World) (t : TypeId) : RowAt .u32 (w.alloc (.cells #[.int .u32 1, .int .u32 2147483649, .int .u32 8388607, .int .u32 8388608, .int .u32 2139095039, .int .u32 4286578687, .int .u32 1065353217, .int .u32 872415232, .int .u32 2139095040, .int .u32 4286578688, .int .u32 2143289344, .int .u32 2139095041] t)) (some ⟨w.heap.size, 0, none⟩) oddU := by
  refine .inr ⟨w.heap.size, 0, rfl, by simp, fun j hj => ?_⟩
  rw [Nat.zero_add, World.cell?_alloc_at _ _ _ _ (by simp)]
  have : j < 12 := hj
  match j, this with
  | 0, _ => rfl
  | 1, _ => rfl
  | 2, _ => rfl
  | 3, _ => rfl
  | 4, _ => rfl
  | 5, _ => rfl
  | 6, _ => rfl
  | 7, _ => rfl
  | 8, _ => rfl
  | 9, _ => rfl
  | 10, _ => rfl
  | 11, _ => rfl

theorem oddU_cell {W : World} {T j : Nat} (h : RowAt .u32 W (some ⟨T, 0, none⟩) oddU) (hj : j < 12) : ∃ y, W.cell? ⟨T, j, none⟩ = some (.int .u32 y) ∧ 0 ≤ y ∧ y < 4294967296 ∧ y = oddU.getD j 0 := by
  rcases h with h | ⟨b, off, h1, _, h3⟩
  · cases h
  · have h4 := Option.some.inj h1
    have e1 : b = T := (congrArg Addr.block h4).symm
    have e2 : off = 0 := (congrArg Addr.off h4).symm
    subst e1 e2
    have := h3 j hj
    rw [Nat.zero_add] at this
    have hu : ∀ k, k < 12 → 0 ≤ oddU.getD k 0 ∧ oddU.getD k 0 < 4294967296 := by decide
    exact ⟨_, this, (hu j hj).1, (hu j hj).2, rfl⟩

set_option maxRecDepth 100000 in
set_option maxHeartbeats 8000000 in
theorem drawBits_any (P : Nat) (wild : Bool) (rs : List Int) (w : World) (h : Rs P rs w) :
    Calls Tryd.prog 31 #[.pointer (some ⟨P, 0, none⟩), .bool wild] w fun e w' => BitsOut P (bitsF wild rs).1 (bitsF wild rs).2 w e w' := by
  obtain ⟨F, hF⟩ : ∃ F, F = bitsF wild rs := ⟨_, rfl⟩
  rw [← hF]
  have HF : Hid (F = bitsF wild rs) := hF
  have HS : Hid (Rs P rs w) := h
  have hPl := h.lt
  clear hF h
  go_enter Tryd.func31, Tryd.ntmps31
  go_wp2_with fail
  refine (nextF_any P rs _ HS.out).mono ?_
  rintro e w1 ⟨rfl, hk0, hk1, hr1, ha1⟩
  obtain ⟨k, hk⟩ : ∃ k, k = rs.headD 0 := ⟨_, rfl⟩
  have HK : Hid (k = rs.headD 0) := hk
  rw [← hk] at hk0 hk1 ⊢
  clear hk
  have HR1 : Hid (Rs P rs.tail w1) := hr1
  have HA1 : Hid (Aside P w w1) := ha1
  have SR : Hid (∀ t, RowAt .u32 (w1.alloc (.cells #[.int .u32 0, .int .u32 1065353216, .int .u32 1073741824, .int .u32 1077936128, .int .u32 1082130432, .int .u32 1084227584, .int .u32 1086324736, .int .u32 3212836864, .int .u32 3221225472, .int .u32 3225419776, .int .u32 1056964608, .int .u32 2147483648] t)) (some ⟨w1.heap.size, 0, none⟩) smallU) := fun t => smallU_row w1 t
  obtain ⟨y, gy, hy0, hy1, hyo⟩ := smallU_cell (SR.out 33) (show (k % 12).toNat < 12 by omega)
  have HYO : Hid (y = smallU.getD (k % 12).toNat 0) := hyo
  have hj0 : 0 ≤ k % 12 := by omega
  have hj8 : k % 12 < 12 := by omega
  have hj9 : 0 ≤ k % 12 ∧ k % 12 < 12 := ⟨hj0, hj8⟩
  have hjt : k.tmod 12 = k % 12 := Int.tmod_eq_emod_of_nonneg hk0
  clear hr1 ha1 hyo HS SR
  by_cases hc : wild = false ∨ k < 200
  · have HF2 : Hid (F = (y, rs.tail)) := by unfold Hid; rw [HF.out]; unfold bitsF; rw [← HK.out, if_pos hc, HYO.out]
    have HO : Hid (∀ W, Below w1.heap.size w1 W → BitsOut P F.1 F.2 w (.returned (.int .u32 y)) W) := by
      intro W hW
      rw [HF2.out]
      exact ⟨rfl, hy0, hy1, HR1.out.later hW, HA1.out.trans (Aside.of hW)⟩
    clear HF2 HF
    rcases hc with rfl | hc
    · go_wp2
      go_ret
      exact HO.out _ (bel0 _ _)
    · cases wild
      · go_wp2
        go_ret
        exact HO.out _ (bel0 _ _)
      · go_wp2
        go_ret
        exact HO.out _ (bel0 _ _)
  · have hw : wild = true := by cases wild <;> simp_all
    have hk2 : ¬ k < 200 := fun h => hc (.inr h)
    subst hw
    clear gy hj0 hj8 hj9 hjt HYO hy0 hy1
    have hP1 : P < w1.heap.size := HR1.out.lt
    obtain ⟨W2, hW2⟩ : ∃ W2, W2 = (w1.alloc (.cells #[.int .u32 0, .int .u32 1065353216, .int .u32 1073741824, .int .u32 1077936128, .int .u32 1082130432, .int .u32 1084227584, .int .u32 1086324736, .int .u32 3212836864, .int .u32 3221225472, .int .u32 3225419776, .int .u32 1056964608, .int .u32 2147483648] 33)).alloc (.cells #[.int .u32 1, .int .u32 2147483649, .int .u32 8388607, .int .u32 8388608, .int .u32 2139095039, .int .u32 4286578687, .int .u32 1065353217, .int .u32 872415232, .int .u32 2139095040, .int .u32 4286578688, .int .u32 2143289344, .int .u32 2139095041] 33) := ⟨_, rfl⟩
    have OR : RowAt .u32 W2 (some ⟨w1.heap.size + 1, 0, none⟩) oddU := by
      rw [hW2]
      have := oddU_row (w1.alloc (.cells #[.int .u32 0, .int .u32 1065353216, .int .u32 1073741824, .int .u32 1077936128, .int .u32 1082130432, .int .u32 1084227584, .int .u32 1086324736, .int .u32 3212836864, .int .u32 3221225472, .int .u32 3225419776, .int .u32 1056964608, .int .u32 2147483648] 33)) 33
      simpa using this
    have HOR : Hid (RowAt .u32 W2 (some ⟨w1.heap.size + 1, 0, none⟩) oddU) := OR
    have hb2 : Below w1.heap.size w1 W2 := by rw [hW2]; exact bel2 _ _ _
    have hs2 : W2.heap.size = w1.heap.size + 2 := by rw [hW2]; simp
    have HR2 : Hid (Rs P rs.tail W2) := HR1.out.later hb2
    have HA2 : Hid (Aside P w W2) := HA1.out.trans (Aside.of hb2)
    by_cases hc2 : k < 224
    · obtain ⟨y, gy, hy0, hy1, hyo⟩ := oddU_cell OR (show (k % 8).toNat < 12 by omega)
      have HO : Hid (BitsOut P F.1 F.2 w (.returned (.int .u32 y)) W2) := by
        unfold Hid
        rw [HF.out]
        unfold bitsF
        rw [← HK.out, if_neg hc, if_pos hc2, ← hyo]
        exact ⟨rfl, hy0, hy1, HR2.out, HA2.out⟩
      have hj0 : 0 ≤ k % 8 := by omega
      have hj8 : k % 8 < 12 := by omega
      have hj9 : 0 ≤ k % 8 ∧ k % 8 < 12 := ⟨hj0, hj8⟩
      have hjt : k.tmod 8 = k % 8 := Int.tmod_eq_emod_of_nonneg hk0
      rw [hW2] at gy
      rw [hW2] at HO
      clear hyo HF hc hb2 OR hW2 HOR HR2 HA2 HR1 HA1 hs2
      go_wp2
      go_ret
      exact HO.out
    · by_cases hc3 : k < 226
      · have HF2 : Hid (F = (oddU.getD (8 + rs.tail.headD 0 % 4).toNat 0, rs.tail.tail)) := by unfold Hid; rw [HF.out]; unfold bitsF; rw [← HK.out, if_neg hc, if_neg hc2, if_pos hc3]
        have hn := nextF_any P rs.tail W2 HR2.out
        rw [hW2] at hn
        have HN : Hid (Calls Tryd.prog 29 #[.pointer (some ⟨P, 0, none⟩)] ((w1.alloc (.cells #[.int .u32 0, .int .u32 1065353216, .int .u32 1073741824, .int .u32 1077936128, .int .u32 1082130432, .int .u32 1084227584, .int .u32 1086324736, .int .u32 3212836864, .int .u32 3221225472, .int .u32 3225419776, .int .u32 1056964608, .int .u32 2147483648] 33)).alloc (.cells #[.int .u32 1, .int .u32 2147483649, .int .u32 8388607, .int .u32 8388608, .int .u32 2139095039, .int .u32 4286578687, .int .u32 1065353217, .int .u32 872415232, .int .u32 2139095040, .int .u32 4286578688, .int .u32 2143289344, .int .u32 2139095041] 33)) fun e w' => NextF P rs.tail ((w1.alloc (.cells #[.int .u32 0, .int .u32 1065353216, .int .u32 1073741824, .int .u32 1077936128, .int .u32 1082130432, .int .u32 1084227584, .int .u32 1086324736, .int .u32 3212836864, .int .u32 3221225472, .int .u32 3225419776, .int .u32 1056964608, .int .u32 2147483648] 33)).alloc (.cells #[.int .u32 1, .int .u32 2147483649, .int .u32 8388607, .int .u32 8388608, .int .u32 2139095039, .int .u32 4286578687, .int .u32 1065353217, .int .u32 872415232, .int .u32 2139095040, .int .u32 4286578688, .int .u32 2143289344, .int .u32 2139095041] 33)) e w') := hn
        clear hn HF hc
        go_wp2_with fail
        refine HN.out.mono ?_
        rw [← hW2]
        rintro e w3 ⟨rfl, hv0, hv1, hr3, ha3⟩
        obtain ⟨v, hv⟩ : ∃ v, v = rs.tail.headD 0 := ⟨_, rfl⟩
        rw [← hv] at hv0 hv1 HF2 ⊢
        obtain ⟨y, gy, hy0, hy1, hyo⟩ := oddU_cell OR (show (8 + v % 4).toNat < 12 by omega)
        have gy3 : w3.cell? ⟨w1.heap.size + 1, (8 + v % 4).toNat, none⟩ = some (.int .u32 y) := (ha3.cell (by simp; omega) (by simp; omega)).trans gy
        have HO : Hid (BitsOut P F.1 F.2 w (.returned (.int .u32 y)) w3) := by
          unfold Hid
          rw [HF2.out, ← hyo]
          exact ⟨rfl, hy0, hy1, hr3, HA2.out.trans ha3⟩
        have hj0 : 0 ≤ 8 + v % 4 := by omega
        have hj8 : 8 + v % 4 < 12 := by omega
        have hj9 : 0 ≤ 8 + v % 4 ∧ 8 + v % 4 < 12 := ⟨hj0, hj8⟩
        have hjt : v.tmod 4 = v % 4 := Int.tmod_eq_emod_of_nonneg hv0
        clear hyo HF2 hb2 OR hW2 HOR HR2 HA2 HR1 HA1 hs2 gy hr3 ha3 hv HN
        go_wp2
        go_ret
        exact HO.out
      · have HF2 : Hid (F = (if fFin (bits .xor .u32 (rs.tail.headD 0 * 16843009) (rs.tail.tail.headD 0 * 66309)) = true then bits .xor .u32 (rs.tail.headD 0 * 16843009) (rs.tail.tail.headD 0 * 66309) else bits .xor .u32 (bits .xor .u32 (rs.tail.headD 0 * 16843009) (rs.tail.tail.headD 0 * 66309)) 1073741824, rs.tail.tail.tail)) := by unfold Hid; rw [HF.out]; unfold bitsF; rw [← HK.out, if_neg hc, if_neg hc2, if_neg hc3]
        have hn := nextF_any P rs.tail W2 HR2.out
        rw [hW2] at hn
        have HN : Hid (Calls Tryd.prog 29 #[.pointer (some ⟨P, 0, none⟩)] ((w1.alloc (.cells #[.int .u32 0, .int .u32 1065353216, .int .u32 1073741824, .int .u32 1077936128, .int .u32 1082130432, .int .u32 1084227584, .int .u32 1086324736, .int .u32 3212836864, .int .u32 3221225472, .int .u32 3225419776, .int .u32 1056964608, .int .u32 2147483648] 33)).alloc (.cells #[.int .u32 1, .int .u32 2147483649, .int .u32 8388607, .int .u32 8388608, .int .u32 2139095039, .int .u32 4286578687, .int .u32 1065353217, .int .u32 872415232, .int .u32 2139095040, .int .u32 4286578688, .int .u32 2143289344, .int .u32 2139095041] 33)) fun e w' => NextF P rs.tail ((w1.alloc (.cells #[.int .u32 0, .int .u32 1065353216, .int .u32 1073741824, .int .u32 1077936128, .int .u32 1082130432, .int .u32 1084227584, .int .u32 1086324736, .int .u32 3212836864, .int .u32 3221225472, .int .u32 3225419776, .int .u32 1056964608, .int .u32 2147483648] 33)).alloc (.cells #[.int .u32 1, .int .u32 2147483649, .int .u32 8388607, .int .u32 8388608, .int .u32 2139095039, .int .u32 4286578687, .int .u32 1065353217, .int .u32 872415232, .int .u32 2139095040, .int .u32 4286578688, .int .u32 2143289344, .int .u32 2139095041] 33)) e w') := hn
        clear hn HF hc
        go_wp2_with fail
        refine HN.out.mono ?_
        rw [← hW2]
        rintro e w3 ⟨rfl, hv0, hv1, hr3, ha3⟩
        obtain ⟨v, hv⟩ : ∃ v, v = rs.tail.headD 0 := ⟨_, rfl⟩
        rw [← hv] at hv0 hv1 HF2 ⊢
        have HR3 : Hid (Rs P rs.tail.tail w3) := hr3
        have HA3 : Hid (Aside P w w3) := HA2.out.trans ha3
        clear hb2 OR hW2 HOR HR2 HA2 HR1 HA1 hs2 hr3 ha3 hv HN
        go_wp2_with fail
        refine (nextF_any P rs.tail.tail _ HR3.out).mono ?_
        rintro e w4 ⟨rfl, hu0, hu1, hr4, ha4⟩
        obtain ⟨u, hu⟩ : ∃ u, u = rs.tail.tail.headD 0 := ⟨_, rfl⟩
        rw [← hu] at hu0 hu1 HF2 ⊢
        have HR4 : Hid (Rs P rs.tail.tail.tail w4) := hr4
        have HA4 : Hid (Aside P w w4) := HA3.out.trans ha4
        have hbr := bits_range .xor (v * 16843009) (u * 66309)
        obtain ⟨B, hB⟩ : ∃ B, B = bits .xor .u32 (v * 16843009) (u * 66309) := ⟨_, rfl⟩
        have HB : Hid (B = bits .xor .u32 (v * 16843009) (u * 66309)) := hB
        rw [← hB] at hbr HF2
        obtain ⟨hB0, hB1⟩ := hbr
        have hbr2 := bits_range .xor B 1073741824
        clear hr4 ha4 hu HR3 HA3 hB
        go_wp2_with fail
        rw [← HB.out]
        refine (finD_any B _ hB0 hB1).mono ?_
        rintro e w5 ⟨rfl, hb5⟩
        have HR5 : Hid (Rs P rs.tail.tail.tail w5) := HR4.out.later hb5
        have HA5 : Hid (Aside P w w5) := HA4.out.trans (Aside.of hb5)
        clear hb5 HR4 HA4 HB
        cases hf : fFin B
        · have HO : Hid (BitsOut P F.1 F.2 w (.returned (.int .u32 (bits .xor .u32 B 1073741824))) w5) := by
            unfold Hid
            rw [HF2.out, if_neg (by rw [hf]; decide)]
            exact ⟨rfl, hbr2.1, hbr2.2, HR5.out, HA5.out⟩
          clear HF2
          go_wp2
          go_ret
          exact HO.out
        · have HO : Hid (BitsOut P F.1 F.2 w (.returned (.int .u32 B)) w5) := by
            unfold Hid
            rw [HF2.out, if_pos hf]
            exact ⟨rfl, hB0, hB1, HR5.out, HA5.out⟩
          clear HF2
          go_wp2
          go_ret
          exact HO.out

end Go.Proofs.YtladfpljnaippabDoor

/-
  A drawn Dyadic as a function of the reader's bytes.
-/
namespace Go.Proofs.YtladfpljnaippabDoor
open Go.RowKit

/-- What a function answers that gives a Dyadic and a code. -/
noncomputable def rD (ok : Bool) (v : Int) : Bool × List Int × Int × Int := Classical.epsilon fun p => ResD ok v p.1 p.2.1 p.2.2.1 p.2.2.2

theorem rD_is {ok : Bool} {v : Int} {G : Bool} {Z : List Int} {E K : Int} (h : ResD ok v G Z E K) : rD ok v = (G, Z, E, K) := by
  have h1 : ResD ok v (rD ok v).1 (rD ok v).2.1 (rD ok v).2.2.1 (rD ok v).2.2.2 := Classical.epsilon_spec (p := fun p : Bool × List Int × Int × Int => ResD ok v p.1 p.2.1 p.2.2.1 p.2.2.2) ⟨(G, Z, E, K), h⟩
  obtain ⟨h2, h3, h4, h5⟩ := h1.inj h
  rw [← h2, ← h3, ← h4, ← h5]

/-- DyOf of bits. -/
noncomputable def ofF (b : Int) : Bool × List Int × Int × Int := rD (fFin b) (atK 100000 (fNum b) (fExp b - 150))

def edgeT : List Int := [20000, -20000, 20001, -20001, 19999, 16000, -16300, 0]

/-- A drawn Dyadic, and the bytes that are left. -/
noncomputable def l2F (rs : List Int) : (Bool × List Int × Int) × List Int :=
  if rs.headD 0 < 150 then (((ofF (bitsF (rs.headD 0 % 2 == 1) rs.tail).1).1, (ofF (bitsF (rs.headD 0 % 2 == 1) rs.tail).1).2.1, (ofF (bitsF (rs.headD 0 % 2 == 1) rs.tail).1).2.2.1), (bitsF (rs.headD 0 % 2 == 1) rs.tail).2)
  else (((anyF rs.tail).1, (anyF rs.tail).2.1, if rs.headD 0 < 240 then (anyF rs.tail).2.2.headD 0 - 128 else edgeT.getD ((anyF rs.tail).2.2.headD 0 % 8).toNat 0), (anyF rs.tail).2.2.tail)

/-- A drawn Dyadic: what is handed back. -/
def DrawD (P : Nat) (G : Bool) (Z : List Int) (E : Int) (rs' : List Int) (w : World) (e : Ending) (w' : World) : Prop :=
  ∃ (a : Option Addr) (c : Nat), e = .returned (.agg #[.bool G, .slice a Z.length c, .int .i64 E]) ∧ Z.length ≤ 513 ∧ U32 Z ∧ RowAt .u32 w' a Z ∧ Far w.heap.size a Z ∧ Rs P rs' w' ∧ Aside P w w'

/-- The answer's box (R, still zero) while a Dyadic is drawn behind it. -/
structure Rz3 (w : World) (P R : Nat) (W : World) : Prop where
  r1 : W.cell? ⟨R, 0, none⟩ = some (.bool false)
  r2 : W.cell? ⟨R, 1, none⟩ = some (.slice none 0 0)
  r3 : W.cell? ⟨R, 2, none⟩ = some (.int .i64 0)
  r4 : ∀ j, W.frozen? ⟨R, j, none⟩ = false
  asd : Aside P w W
  ord : w.heap.size ≤ R ∧ R < W.heap.size ∧ P < w.heap.size

theorem Rz3.start (w : World) (P : Nat) (hp : P < w.heap.size) (t : TypeId) : Rz3 w P w.heap.size (w.alloc (.cells #[.bool false, .slice none 0 0, .int .i64 0] t)) :=
  ⟨by simp [go_sem], by simp [go_sem], by simp [go_sem], by intro j; simp [go_sem], Aside.of (bel0 _ _), Nat.le_refl _, by simp, hp⟩

theorem Rz3.aside {w : World} {P R : Nat} {W W' : World} (h : Rz3 w P R W) (ha : Aside P W W') : Rz3 w P R W' := by
  obtain ⟨o1, o2, o3⟩ := h.ord
  have hs := ha.size
  exact ⟨(ha.cell (by simp; omega) (by simp; omega)).trans h.r1, (ha.cell (by simp; omega) (by simp; omega)).trans h.r2, (ha.cell (by simp; omega) (by simp; omega)).trans h.r3, fun j => (ha.frozen (by simp; omega) (by simp; omega)).trans (h.r4 j), h.asd.trans ha, o1, by omega, o3⟩

/-- A Dyadic is laid into the answer's box. -/
theorem Rz3.out {w W : World} {P R : Nat} {G : Bool} {a : Option Addr} {c : Nat} {zs rs : List Int} {E : Int} (h : Rz3 w P R W) (hr : Rs P rs W) (hw : RowAt .u32 W a zs) (hf : Far (R + 1) a zs) (hu : U32 zs) (hn : zs.length ≤ 513) :
    DrawD P G zs E rs w (.returned (.agg #[.bool G, .slice a zs.length c, .int .i64 E])) (((W.setCell ⟨R, 0, none⟩ (.bool G)).setCell ⟨R, 1, none⟩ (.slice a zs.length c)).setCell ⟨R, 2, none⟩ (.int .i64 E)) := by
  obtain ⟨o1, o2, o3⟩ := h.ord
  refine ⟨a, c, rfl, hn, hu, ?_, hf.down (by omega), ?_, ((h.asd.setHigh (by simp; omega) _).setHigh (by simp; omega) _).setHigh (by simp; omega) _⟩
  · exact ((hw.setAway (hf.away (by simp)) _).setAway (hf.away (by simp)) _).setAway (hf.away (by simp)) _
  · exact hr.above (B := P + 1) ((((Below.refl _ _).setCell (by simp; omega) _).setCell (by simp; omega) _).setCell (by simp; omega) _) (by omega)

theorem DrawD.later {P : Nat} {G : Bool} {Z : List Int} {E : Int} {rs : List Int} {w : World} {e : Ending} {W W' : World} (h : DrawD P G Z E rs w e W) (hb : Below W.heap.size W W') : DrawD P G Z E rs w e W' := by
  obtain ⟨a, c, h1, h2, h3, h4, h5, h6, h7⟩ := h
  exact ⟨a, c, h1, h2, h3, h4.later hb, h5, h6.later hb, h7.trans (Aside.of hb)⟩

theorem edgeT_row (w : World) (t : TypeId) : RowAt .i64 (w.alloc (.cells #[.int .i64 20000, .int .i64 (-20000), .int .i64 20001, .int .i64 (-20001), .int .i64 19999, .int .i64 16000, .int .i64 (-16300), .int .i64 0] t)) (some ⟨w.heap.size, 0, none⟩) edgeT := by
  refine .inr ⟨w.heap.size, 0, rfl, by simp, fun j hj => ?_⟩
  rw [Nat.zero_add, World.cell?_alloc_at _ _ _ _ (by simp)]
  have : j < 8 := hj
  match j, this with
  | 0, _ => rfl
  | 1, _ => rfl
  | 2, _ => rfl
  | 3, _ => rfl
  | 4, _ => rfl
  | 5, _ => rfl
  | 6, _ => rfl
  | 7, _ => rfl

theorem edgeT_cell (w : World) (t : TypeId) {j : Nat} (hj : j < 8) : (w.alloc (.cells #[.int .i64 20000, .int .i64 (-20000), .int .i64 20001, .int .i64 (-20001), .int .i64 19999, .int .i64 16000, .int .i64 (-16300), .int .i64 0] t)).cell? ⟨w.heap.size, j, none⟩ = some (.int .i64 (edgeT.getD j 0)) := by
  rcases edgeT_row w t with h | ⟨b, off, h1, _, h3⟩
  · cases h
  · have h4 := Option.some.inj h1
    have e1 : b = w.heap.size := (congrArg Addr.block h4).symm
    have e2 : off = 0 := (congrArg Addr.off h4).symm
    subst e1 e2
    have := h3 j hj
    rw [Nat.zero_add] at this
    exact this

set_option maxRecDepth 100000 in
set_option maxHeartbeats 8000000 in
theorem drawD_any (P : Nat) (rs : List Int) (w : World) (h : Rs P rs w) :
    Calls Tryd.prog 30 #[.pointer (some ⟨P, 0, none⟩)] w fun e w' => DrawD P (l2F rs).1.1 (l2F rs).1.2.1 (l2F rs).1.2.2 (l2F rs).2 w e w' := by
  obtain ⟨F, hF⟩ : ∃ F, F = l2F rs := ⟨_, rfl⟩
  rw [← hF]
  have HF : Hid (F = l2F rs) := hF
  have HS : Hid (Rs P rs w) := h
  have hPl := h.lt
  have HZ : Hid (∀ t, Rz3 w P w.heap.size (w.alloc (.cells #[.bool false, .slice none 0 0, .int .i64 0] t))) := fun t => Rz3.start w P hPl t
  clear hF h
  go_enter Tryd.func30, Tryd.ntmps30
  go_wp2_with fail
  refine (nextF_any P rs _ (HS.out.later (bel0 _ _))).mono ?_
  rintro e w1 ⟨rfl, hk0, hk1, hr1, ha1⟩
  obtain ⟨k, hk⟩ : ∃ k, k = rs.headD 0 := ⟨_, rfl⟩
  have HK : Hid (k = rs.headD 0) := hk
  rw [← hk] at hk0 hk1 ⊢
  clear hk
  have HR1 : Hid (Rs P rs.tail w1) := hr1
  have HZ1 : Hid (Rz3 w P w.heap.size w1) := (HZ.out _).aside ha1
  clear hr1 ha1 HZ HS
  by_cases hc : k < 150
  · have HF2 : Hid (F = (((ofF (bitsF (k % 2 == 1) rs.tail).1).1, (ofF (bitsF (k % 2 == 1) rs.tail).1).2.1, (ofF (bitsF (k % 2 == 1) rs.tail).1).2.2.1), (bitsF (k % 2 == 1) rs.tail).2)) := by unfold Hid; rw [HF.out]; unfold l2F; rw [← HK.out, if_pos hc]
    have hjt : k.tmod 2 = k % 2 := Int.tmod_eq_emod_of_nonneg hk0
    clear HF
    go_wp2_with fail
    refine (drawBits_any P (k % 2 == 1) rs.tail _ HR1.out).mono ?_
    rintro e w2 ⟨rfl, hb0, hb1, hr2, ha2⟩
    obtain ⟨B, hB⟩ : ∃ B, B = (bitsF (k % 2 == 1) rs.tail).1 := ⟨_, rfl⟩
    obtain ⟨rs2, hrs2⟩ : ∃ rs2, rs2 = (bitsF (k % 2 == 1) rs.tail).2 := ⟨_, rfl⟩
    rw [← hB] at hb0 hb1 ⊢
    rw [← hrs2] at hr2
    have HF3 : Hid (F = (((ofF B).1, (ofF B).2.1, (ofF B).2.2.1), rs2)) := by unfold Hid; rw [HF2.out, hB, hrs2]
    have HR2 : Hid (Rs P rs2 w2) := hr2
    have HZ2 : Hid (Rz3 w P w.heap.size w2) := HZ1.out.aside ha2
    clear hr2 ha2 hB hrs2 HF2 HZ1 HR1
    go_wp2_with fail
    refine (dyOfS_any B _ hb0 hb1).mono ?_
    rintro e w3 ⟨G, Z, E, K, a3, c3, rfl, hres, hrw, hfar, hb3⟩
    have HF4 : Hid (F = ((G, Z, E), rs2)) := by
      unfold Hid
      rw [HF3.out]
      unfold ofF
      rw [rD_is hres]
    have HZ3 : Hid (Rz3 w P w.heap.size w3) := HZ2.out.aside (Aside.of hb3)
    have HX : Hid (DrawD P G Z E rs2 w (.returned (.agg #[.bool G, .slice a3 Z.length c3, .int .i64 E])) (((w3.setCell ⟨w.heap.size, 0, none⟩ (.bool G)).setCell ⟨w.heap.size, 1, none⟩ (.slice a3 Z.length c3)).setCell ⟨w.heap.size, 2, none⟩ (.int .i64 E))) := HZ3.out.out (HR2.out.later hb3) hrw (hfar.down (by have := HZ2.out.ord; omega)) hres.len.2 (by have := hres.len.1; omega)
    have oR : w.heap.size < w3.heap.size := HZ3.out.ord.2.1
    have r1 := HZ3.out.r1
    have r2 := HZ3.out.r2
    have r3 := HZ3.out.r3
    have r4 := HZ3.out.r4
    clear hres hrw hfar hb3 HF3 HZ2 HR2
    go_wp2
    refine bodyPost_ret (v := .agg #[.bool G, .slice a3 Z.length c3, .int .i64 E]) (by simp [results, Tryd.results30, go_sem, r1, r2, r3, oR]) rfl ?_
    rw [HF4.out]
    exact HX.out.later (bel0 _ _)
  · have HF2 : Hid (F = (((anyF rs.tail).1, (anyF rs.tail).2.1, if k < 240 then (anyF rs.tail).2.2.headD 0 - 128 else edgeT.getD ((anyF rs.tail).2.2.headD 0 % 8).toNat 0), (anyF rs.tail).2.2.tail)) := by unfold Hid; rw [HF.out]; unfold l2F; rw [← HK.out, if_neg hc]
    clear HF
    go_wp2_with fail
    refine (drawAnyH_any P rs.tail _ HR1.out).mono ?_
    rintro e w2 ⟨a2, c2, rfl, hn2, hu2, hown2, hr2, ha2⟩
    obtain ⟨G, hG⟩ : ∃ G, G = (anyF rs.tail).1 := ⟨_, rfl⟩
    obtain ⟨Z, hZ⟩ : ∃ Z, Z = (anyF rs.tail).2.1 := ⟨_, rfl⟩
    obtain ⟨rs2, hrs2⟩ : ∃ rs2, rs2 = (anyF rs.tail).2.2 := ⟨_, rfl⟩
    rw [← hZ] at hn2 hu2 hown2 ⊢
    rw [← hrs2] at hr2
    rw [← hG]
    have HF3 : Hid (F = ((G, Z, if k < 240 then rs2.headD 0 - 128 else edgeT.getD (rs2.headD 0 % 8).toNat 0), rs2.tail)) := by unfold Hid; rw [HF2.out, hG, hZ, hrs2]
    have hnew : RowNew .u32 w2 w1.heap.size a2 Z := by
      obtain ⟨a', c', he, _, _, hh⟩ := own_row hown2
      injection he with h1 _ _
      rw [h1]
      exact hh
    have HRW : Hid (RowAt .u32 w2 a2 Z) := hnew.row
    have HFR : Hid (Far (w.heap.size + 1) a2 Z) := hnew.far (Nat.le_refl _) (by have := HZ1.out.ord; omega)
    have HR2 : Hid (Rs P rs2 w2) := hr2
    have HZ2 : Hid (Rz3 w P w.heap.size w2) := HZ1.out.aside ha2
    have HU : Hid (U32 Z) := hu2
    clear hr2 ha2 hG hZ hrs2 HF2 HZ1 HR1 hown2 hnew hu2
    have hPl2 : P < w2.heap.size := HR2.out.lt
    have oR2 : w.heap.size < w2.heap.size := HZ2.out.ord.2.1
    obtain ⟨W3, hW3⟩ : ∃ W3, W3 = w2.alloc (.cells #[.bool G, .slice a2 Z.length c2] 27) := ⟨_, rfl⟩
    have hb3 : Below w2.heap.size w2 W3 := by rw [hW3]; exact bel0 _ _
    have hs3 : W3.heap.size = w2.heap.size + 1 := by rw [hW3]; simp
    have q0 : W3.cell? ⟨w2.heap.size, 0, none⟩ = some (.bool G) := by rw [hW3]; simp [go_sem]
    have q1 : W3.cell? ⟨w2.heap.size, 1, none⟩ = some (.slice a2 Z.length c2) := by rw [hW3]; simp [go_sem]
    go_wp2_with fail
    rw [← hW3]
    refine (nextF_any P rs2 _ (HR2.out.later hb3)).mono ?_
    rintro e w4 ⟨rfl, hv0, hv1, hr4, ha4⟩
    obtain ⟨v, hv⟩ : ∃ v, v = rs2.headD 0 := ⟨_, rfl⟩
    have HF4 : Hid (F = ((G, Z, if k < 240 then v - 128 else edgeT.getD (v % 8).toNat 0), rs2.tail)) := by unfold Hid; rw [HF3.out, hv]
    rw [← hv] at hv0 hv1 ⊢
    have HZ4 : Hid (Rz3 w P w.heap.size w4) := (HZ2.out.aside (Aside.of hb3)).aside ha4
    have HR4 : Hid (Rs P rs2.tail w4) := hr4
    have HRW4 : Hid (RowAt .u32 w4 a2 Z) := ha4.row (HRW.out.later hb3) (fun b o h1 h2 => by
      rcases HFR.out with h | ⟨b', o', h3, h4⟩
      · exact absurd h h2
      · rw [h1] at h3
        injection h3 with h3
        have : b = b' := congrArg Addr.block h3
        omega)
    have z0 : w4.cell? ⟨w2.heap.size, 0, none⟩ = some (.bool G) := (ha4.cell (by simp; omega) (by simp; omega)).trans q0
    have z1 : w4.cell? ⟨w2.heap.size, 1, none⟩ = some (.slice a2 Z.length c2) := (ha4.cell (by simp; omega) (by simp; omega)).trans q1
    have oB : w2.heap.size < w4.heap.size := by have := ha4.size; omega
    have oR : w.heap.size < w4.heap.size := HZ4.out.ord.2.1
    have r1 := HZ4.out.r1
    have r2 := HZ4.out.r2
    have r3 := HZ4.out.r3
    have r4 := HZ4.out.r4
    clear hv hr4 ha4 hW3 hb3 hs3 q0 q1 HF3 HRW HR2 HZ2
    by_cases hc2 : k < 240
    · have HF5 : Hid (F = ((G, Z, v - 128), rs2.tail)) := by unfold Hid; rw [HF4.out, if_pos hc2]
      have HX : Hid (DrawD P G Z (v - 128) rs2.tail w (.returned (.agg #[.bool G, .slice a2 Z.length c2, .int .i64 (v - 128)])) (((w4.setCell ⟨w.heap.size, 0, none⟩ (.bool G)).setCell ⟨w.heap.size, 1, none⟩ (.slice a2 Z.length c2)).setCell ⟨w.heap.size, 2, none⟩ (.int .i64 (v - 128)))) := HZ4.out.out HR4.out HRW4.out HFR.out HU.out hn2
      clear HF4
      go_wp2
      refine bodyPost_ret (v := .agg #[.bool G, .slice a2 Z.length c2, .int .i64 (v - 128)]) (by simp [results, Tryd.results30, go_sem, r1, r2, r3]) rfl ?_
      rw [HF5.out]
      exact HX.out
    · obtain ⟨E, hE⟩ : ∃ E, E = edgeT.getD (v % 8).toNat 0 := ⟨_, rfl⟩
      have HF5 : Hid (F = ((G, Z, E), rs2.tail)) := by unfold Hid; rw [HF4.out, if_neg hc2, hE]
      have gy := edgeT_cell w4 3 (show (v % 8).toNat < 8 by omega)
      rw [← hE] at gy
      have HX : Hid (∀ W, Below w4.heap.size w4 W → DrawD P G Z E rs2.tail w (.returned (.agg #[.bool G, .slice a2 Z.length c2, .int .i64 E])) (((W.setCell ⟨w.heap.size, 0, none⟩ (.bool G)).setCell ⟨w.heap.size, 1, none⟩ (.slice a2 Z.length c2)).setCell ⟨w.heap.size, 2, none⟩ (.int .i64 E))) := fun W hW => (HZ4.out.aside (Aside.of hW)).out (HR4.out.later hW) (HRW4.out.later hW) HFR.out HU.out hn2
      have hj0 : 0 ≤ v % 8 := by omega
      have hj8 : v % 8 < 8 := by omega
      have hj9 : 0 ≤ v % 8 ∧ v % 8 < 8 := ⟨hj0, hj8⟩
      have hjt : v.tmod 8 = v % 8 := Int.tmod_eq_emod_of_nonneg hv0
      clear HF4 hE
      go_wp2
      go_region_with fail
      all_goals
        go_wp2
        refine bodyPost_ret (v := .agg #[.bool G, .slice a2 Z.length c2, .int .i64 E]) (by simp [results, Tryd.results30, go_sem, r1, r2, r3, oR]) rfl ?_
        rw [HF5.out]
        exact (HX.out w4 (Below.refl _ _)).later (bel0 _ _).drew

end Go.Proofs.YtladfpljnaippabDoor

/-
  The model's DyAdd.
-/
namespace Go.Proofs.YtladfpljnaippabDoor
open Go.RowKit

theorem badAdd_fin {w : World} {v : Int} : ∀ W, Below w.heap.size w W → OutDS w false v (.returned (.tuple #[.agg #[.bool false, .slice none 0 0, .int .i64 0], .int .i64 1])) W :=
  fun _ hW => ⟨false, [], 0, 1, none, 0, rfl, .inl ⟨rfl, rfl, rfl, rfl, rfl⟩, .inl rfl, .inl rfl, hW⟩

end Go.Proofs.YtladfpljnaippabDoor

/-
  The model's small numbers.
-/
namespace Go.Proofs.YtladfpljnaippabDoor
open Go.RowKit

theorem l1_small {w : World} {a : Option Addr} {c : Nat} {v : Int} (h0 : 0 ≤ v) (h1 : v ≤ 65535) (hc : c ≤ maxLen) (h : Sl .i64 w a c (if v = 0 then [] else [v])) : L1 w false a c (if v = 0 then [] else [v]) v := by
  by_cases hv : v = 0
  · subst hv
    rw [if_pos rfl] at h ⊢
    exact ⟨h, ⟨Dig.nil _, rfl⟩, by simp [sg, val], (fun hg => by cases hg), hc⟩
  · rw [if_neg hv] at h ⊢
    exact ⟨h, ⟨Dig.cons h0 (by omega) (Dig.nil _), by simp [trimL, hv]⟩, by simp [sg, val], (fun hg => by cases hg), hc⟩

/-- What l1small hands back. -/
def SmallOut (w : World) (v : Int) (e : Ending) (w' : World) : Prop :=
  ∃ (a : Option Addr) (c : Nat) (ds : List Int), e = .returned (.agg #[.bool false, .slice a ds.length c]) ∧ ds.length ≤ 1 ∧ L1 w' false a c ds v ∧ Far (w.heap.size + 1) a ds ∧ Below w.heap.size w w'

set_option maxHeartbeats 2000000 in
theorem small_any (v : Int) (w : World) (h0 : 0 ≤ v) (h1 : v ≤ 65535) :
    Calls Tryd.prog 56 #[.int .i64 v] w fun e w' => SmallOut w v e w' := by
  go_enter Tryd.func56, Tryd.ntmps56
  go_wp2
  go_loopw [4, 5] (fun su sd wr => ∃ (u : Int) (ys : List Int), su = .int .u64 u ∧ ((u = v ∧ ys = []) ∨ (u = 0 ∧ ys = [v] ∧ 0 < v)) ∧ wr.ownsRow (w.heap.size + 1) 3 1 sd ys.length (vals .i64 ys) ∧ Below (w.heap.size + 1) (w.alloc (.cells #[.bool false, .slice none 0 0] 64)) wr ∧ w.heap.size + 1 ≤ wr.heap.size) (fun su _ _ => (intOf su).toNat)
  case atStart => exact ⟨v, [], rfl, .inl ⟨rfl, rfl⟩, own_nil _ _ _ _, Below.refl _ _, by simp⟩
  case round =>
    obtain ⟨u, ys, rfl, hcase, hown, hnx, hsz⟩ := hrel
    have hu0 : 0 ≤ u := by omega
    have hu1 : u ≤ 65535 := by omega
    by_cases hu : 0 < u
    · have hy : ys = [] ∧ u = v := by
        rcases hcase with ⟨h, h'⟩ | ⟨h, _, _⟩
        · exact ⟨h', h⟩
        · omega
      obtain ⟨hy, huv⟩ := hy
      subst hy huv
      have E1 : Hid (u % 65536 = u) := by unfold Hid; omega
      have E2 : Hid (u / 65536 = 0) := by unfold Hid; omega
      clear hcase
      go_wp2_with (at_builtin; refine app1 rfl (.tmp 15) (.tmp 19) 62 rfl (w.heap.size + 1) 3 Tryd.underlying62 Tryd.info3 (by decide) _ _ rfl rfl hown (by simp) hsz ?_; intro a1 n1 c1 w1 hown1 hb1 hs1)
      rw [E1.out] at hown1
      go_roundw
      case rel => exact ⟨0, [u], by rw [E2.out], .inr ⟨rfl, rfl, hu⟩, hown1, hnx.trans hb1, by omega⟩
      case measure => simp only [intOf]; rw [E2.out]; omega
    · have hu00 : u = 0 := by omega
      subst hu00
      have hys : ys = (if v = 0 then [] else [v]) := by
        rcases hcase with ⟨h, h'⟩ | ⟨_, h', h⟩
        · rw [h', if_pos h.symm]
        · rw [h', if_neg (by omega)]
      obtain ⟨a', c', rfl, hcm, hsl, hrn⟩ := own_row hown
      have r1 : wr.cell? ⟨w.heap.size, 0, none⟩ = some (.bool false) := by rw [hnx.cell (by simp)]; simp [go_sem]
      have r2 : wr.cell? ⟨w.heap.size, 1, none⟩ = some (.slice none 0 0) := by rw [hnx.cell (by simp)]; simp [go_sem]
      have r3 : ∀ j, wr.frozen? ⟨w.heap.size, j, none⟩ = false := by intro j; rw [hnx.frozen (by simp)]; simp [go_sem]
      have HF : Hid (Far (w.heap.size + 1) a' ys) := hrn.far (Nat.le_refl _) (Nat.le_refl _)
      have HL : Hid (L1 wr false a' c' ys v) := by unfold Hid; rw [hys] at hsl ⊢; exact l1_small h0 h1 hcm hsl
      have HB : Hid (Below w.heap.size w wr) := (bel0 _ _).trans (hnx.mono (by omega))
      have hyl : ys.length ≤ 1 := by rw [hys]; split <;> simp
      clear hown hnx hsl hrn hcase hys
      go_wp2
      refine bodyPost_ret (v := .agg #[.bool false, .slice a' ys.length c']) (by simp [results, Tryd.results56, go_sem, r1, r2, h0]) rfl ?_
      refine ⟨a', c', ys, rfl, hyl, ?_, HF.out, ?_⟩
      · exact (HL.out.setFar HF.out (by simp) _).setFar HF.out (by simp) _
      · exact (HB.out.setCell (by simp) _).setCell (by simp) _

end Go.Proofs.YtladfpljnaippabDoor
