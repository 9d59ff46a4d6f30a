/-
  The bits of a drawn float, as a function of the reader's bytes.
-/
import Derived.Test.YtfcnokagfibgcahGreatDrawFb
import Derived.Test.YtfcnokagfibgcahGreatSpecOToNumF
import Derived.Test.YtfcnokagfibgcahGreatBigs
import Derived.Test.YtfcnokagfibgcahGreatWithin
import Derived.Test.YtfcnokagfibgcahGreatUtil
import Derived.Deep.RegionHeld3
import Derived.Laws.MakeOwn
namespace Go.Proofs.YtfcnokagfibgcahGreat
open Go.RowKit

theorem finB_any (b : Int) (w : World) (_h0 : 0 ≤ b) (_h1 : b < 4294967296) :
    Calls Tryz.prog 156 #[.int .u32 b] w fun e w' => e = .returned (.bool (fFin b)) ∧ Below w.heap.size w w' := by
  go_enter Tryz.func156, Tryz.ntmps156
  go_wp2
  go_ret
  exact ⟨by unfold fFin; rfl, Below.refl _ _⟩

def smallU : List Int := [0, 1065353216, 1073741824, 1077936128, 1082130432, 1084227584, 1086324736, 3212836864, 3221225472, 3225419776, 1056964608, 2147483648]
def oddU : List Int := [1, 2147483649, 8388607, 8388608, 2139095039, 4286578687, 1065353217, 872415232, 2139095040, 4286578688, 2143289344, 2139095041]

/-- The bits of a drawn float, and the bytes that are left. -/
def l2bF (wild : Bool) (rs : List Int) : Int × List Int :=
  if wild = false ∨ rs.headD 0 < 200 then (smallU.getD (rs.headD 0 % 12).toNat 0, rs.tail)
  else if rs.headD 0 < 224 then (oddU.getD (rs.headD 0 % 8).toNat 0, rs.tail)
  else if rs.headD 0 < 226 then (oddU.getD (8 + rs.tail.headD 0 % 4).toNat 0, rs.tail.tail)
  else (if fFin (bits .xor .u32 (rs.tail.headD 0 * 16843009) (rs.tail.tail.headD 0 * 66309)) = true then bits .xor .u32 (rs.tail.headD 0 * 16843009) (rs.tail.tail.headD 0 * 66309) else bits .xor .u32 (bits .xor .u32 (rs.tail.headD 0 * 16843009) (rs.tail.tail.headD 0 * 66309)) 1073741824, rs.tail.tail.tail)

/-- What l2drawBits hands back. -/
def BitsOut (P : Nat) (b : Int) (rs' : List Int) (w : World) (e : Ending) (w' : World) : Prop := e = .returned (.int .u32 b) ∧ 0 ≤ b ∧ b < 4294967296 ∧ Rs P rs' w' ∧ Aside P w w'

theorem smallU_row (w : World) (t : TypeId) : RowAt .u32 (w.alloc (.cells #[.int .u32 0, .int .u32 1065353216, .int .u32 1073741824, .int .u32 1077936128, .int .u32 1082130432, .int .u32 1084227584, .int .u32 1086324736, .int .u32 3212836864, .int .u32 3221225472, .int .u32 3225419776, .int .u32 1056964608, .int .u32 2147483648] t)) (some ⟨w.heap.size, 0, none⟩) smallU := by
  refine .inr ⟨w.heap.size, 0, rfl, by simp, fun j hj => ?_⟩
  rw [Nat.zero_add, World.cell?_alloc_at _ _ _ _ (by simp)]
  have : j < 12 := hj
  match j, this with
  | 0, _ => rfl
  | 1, _ => rfl
  | 2, _ => rfl
  | 3, _ => rfl
  | 4, _ => rfl
  | 5, _ => rfl
  | 6, _ => rfl
  | 7, _ => rfl
  | 8, _ => rfl
  | 9, _ => rfl
  | 10, _ => rfl
  | 11, _ => rfl

theorem smallU_cell {W : World} {T j : Nat} (h : RowAt .u32 W (some ⟨T, 0, none⟩) smallU) (hj : j < 12) : ∃ y, W.cell? ⟨T, j, none⟩ = some (.int .u32 y) ∧ 0 ≤ y ∧ y < 4294967296 ∧ y = smallU.getD j 0 := by
  rcases h with h | ⟨b, off, h1, _, h3⟩
  · cases h
  · have h4 := Option.some.inj h1
    have e1 : b = T := (congrArg Addr.block h4).symm
    have e2 : off = 0 := (congrArg Addr.off h4).symm
    subst e1 e2
    have := h3 j hj
    rw [Nat.zero_add] at this
    have hu : ∀ k, k < 12 → 0 ≤ smallU.getD k 0 ∧ smallU.getD k 0 < 4294967296 := by decide
    exact ⟨_, this, (hu j hj).1, (hu j hj).2, rfl⟩

theorem oddU_row (w : World) (t : TypeId) : RowAt .u32 (w.alloc (.cells #[.int .u32 1, .int .u32 2147483649, .int .u32 8388607, .int .u32 8388608, .int .u32 2139095039, .int .u32 4286578687, .int .u32 1065353217, .int .u32 872415232, .int .u32 2139095040, .int .u32 4286578688, .int .u32 2143289344, .int .u32 2139095041] t)) (some ⟨w.heap.size, 0, none⟩) oddU := by
  refine .inr ⟨w.heap.size, 0, rfl, by simp, fun j hj => ?_⟩
  rw [Nat.zero_add, World.cell?_alloc_at _ _ _ _ (by simp)]
  have : j < 12 := hj
  match j, this with
  | 0, _ => rfl
  | 1, _ => rfl
  | 2, _ => rfl
  | 3, _ => rfl
  | 4, _ => rfl
  | 5, _ => rfl
  | 6, _ => rfl
  | 7, _ => rfl
  | 8, _ => rfl
  | 9, _ => rfl
  | 10, _ => rfl
  | 11, _ => rfl

theorem oddU_cell {W : World} {T j : Nat} (h : RowAt .u32 W (some ⟨T, 0, none⟩) oddU) (hj : j < 12) : ∃ y, W.cell? ⟨T, j, none⟩ = some (.int .u32 y) ∧ 0 ≤ y ∧ y < 4294967296 ∧ y = oddU.getD j 0 := by
  rcases h with h | ⟨b, off, h1, _, h3⟩
  · cases h
  · have h4 := Option.some.inj h1
    have e1 : b = T := (congrArg Addr.block h4).symm
    have e2 : off = 0 := (congrArg Addr.off h4).symm
    subst e1 e2
    have := h3 j hj
    rw [Nat.zero_add] at this
    have hu : ∀ k, k < 12 → 0 ≤ oddU.getD k 0 ∧ oddU.getD k 0 < 4294967296 := by decide
    exact ⟨_, this, (hu j hj).1, (hu j hj).2, rfl⟩

set_option maxRecDepth 100000 in
set_option maxHeartbeats 8000000 in
theorem drawBits_any (P : Nat) (wild : Bool) (rs : List Int) (w : World) (h : Rs P rs w) :
    Calls Tryz.prog 256 #[.pointer (some ⟨P, 0, none⟩), .bool wild] w fun e w' => BitsOut P (l2bF wild rs).1 (l2bF wild rs).2 w e w' := by
  obtain ⟨F, hF⟩ : ∃ F, F = l2bF wild rs := ⟨_, rfl⟩
  rw [← hF]
  have HF : Hid (F = l2bF wild rs) := hF
  have HS : Hid (Rs P rs w) := h
  have hPl := h.lt
  clear hF h
  go_enter Tryz.func256, Tryz.ntmps256
  go_wp2_with fail
  refine (nextF_any P rs _ HS.out).mono ?_
  rintro e w1 ⟨rfl, hk0, hk1, hr1, ha1⟩
  obtain ⟨k, hk⟩ : ∃ k, k = rs.headD 0 := ⟨_, rfl⟩
  have HK : Hid (k = rs.headD 0) := hk
  rw [← hk] at hk0 hk1 ⊢
  clear hk
  have HR1 : Hid (Rs P rs.tail w1) := hr1
  have HA1 : Hid (Aside P w w1) := ha1
  have SR : Hid (∀ t, RowAt .u32 (w1.alloc (.cells #[.int .u32 0, .int .u32 1065353216, .int .u32 1073741824, .int .u32 1077936128, .int .u32 1082130432, .int .u32 1084227584, .int .u32 1086324736, .int .u32 3212836864, .int .u32 3221225472, .int .u32 3225419776, .int .u32 1056964608, .int .u32 2147483648] t)) (some ⟨w1.heap.size, 0, none⟩) smallU) := fun t => smallU_row w1 t
  obtain ⟨y, gy, hy0, hy1, hyo⟩ := smallU_cell (SR.out 24) (show (k % 12).toNat < 12 by omega)
  have HYO : Hid (y = smallU.getD (k % 12).toNat 0) := hyo
  have hj0 : 0 ≤ k % 12 := by omega
  have hj8 : k % 12 < 12 := by omega
  have hj9 : 0 ≤ k % 12 ∧ k % 12 < 12 := ⟨hj0, hj8⟩
  have hjt : k.tmod 12 = k % 12 := Int.tmod_eq_emod_of_nonneg hk0
  clear hr1 ha1 hyo HS SR
  by_cases hc : wild = false ∨ k < 200
  · have HF2 : Hid (F = (y, rs.tail)) := by unfold Hid; rw [HF.out]; unfold l2bF; rw [← HK.out, if_pos hc, HYO.out]
    have HO : Hid (∀ W, Below w1.heap.size w1 W → BitsOut P F.1 F.2 w (.returned (.int .u32 y)) W) := by
      intro W hW
      rw [HF2.out]
      exact ⟨rfl, hy0, hy1, HR1.out.later hW, HA1.out.trans (Aside.of hW)⟩
    clear HF2 HF
    rcases hc with rfl | hc
    · go_wp2
      go_ret
      exact HO.out _ (bel0 _ _)
    · cases wild
      · go_wp2
        go_ret
        exact HO.out _ (bel0 _ _)
      · go_wp2
        go_ret
        exact HO.out _ (bel0 _ _)
  · have hw : wild = true := by cases wild <;> simp_all
    have hk2 : ¬ k < 200 := fun h => hc (.inr h)
    subst hw
    clear gy hj0 hj8 hj9 hjt HYO hy0 hy1
    have hP1 : P < w1.heap.size := HR1.out.lt
    obtain ⟨W2, hW2⟩ : ∃ W2, W2 = (w1.alloc (.cells #[.int .u32 0, .int .u32 1065353216, .int .u32 1073741824, .int .u32 1077936128, .int .u32 1082130432, .int .u32 1084227584, .int .u32 1086324736, .int .u32 3212836864, .int .u32 3221225472, .int .u32 3225419776, .int .u32 1056964608, .int .u32 2147483648] 24)).alloc (.cells #[.int .u32 1, .int .u32 2147483649, .int .u32 8388607, .int .u32 8388608, .int .u32 2139095039, .int .u32 4286578687, .int .u32 1065353217, .int .u32 872415232, .int .u32 2139095040, .int .u32 4286578688, .int .u32 2143289344, .int .u32 2139095041] 24) := ⟨_, rfl⟩
    have OR : RowAt .u32 W2 (some ⟨w1.heap.size + 1, 0, none⟩) oddU := by
      rw [hW2]
      have := oddU_row (w1.alloc (.cells #[.int .u32 0, .int .u32 1065353216, .int .u32 1073741824, .int .u32 1077936128, .int .u32 1082130432, .int .u32 1084227584, .int .u32 1086324736, .int .u32 3212836864, .int .u32 3221225472, .int .u32 3225419776, .int .u32 1056964608, .int .u32 2147483648] 24)) 24
      simpa using this
    have HOR : Hid (RowAt .u32 W2 (some ⟨w1.heap.size + 1, 0, none⟩) oddU) := OR
    have hb2 : Below w1.heap.size w1 W2 := by rw [hW2]; exact bel2 _ _ _
    have hs2 : W2.heap.size = w1.heap.size + 2 := by rw [hW2]; simp
    have HR2 : Hid (Rs P rs.tail W2) := HR1.out.later hb2
    have HA2 : Hid (Aside P w W2) := HA1.out.trans (Aside.of hb2)
    by_cases hc2 : k < 224
    · obtain ⟨y, gy, hy0, hy1, hyo⟩ := oddU_cell OR (show (k % 8).toNat < 12 by omega)
      have HO : Hid (BitsOut P F.1 F.2 w (.returned (.int .u32 y)) W2) := by
        unfold Hid
        rw [HF.out]
        unfold l2bF
        rw [← HK.out, if_neg hc, if_pos hc2, ← hyo]
        exact ⟨rfl, hy0, hy1, HR2.out, HA2.out⟩
      have hj0 : 0 ≤ k % 8 := by omega
      have hj8 : k % 8 < 12 := by omega
      have hj9 : 0 ≤ k % 8 ∧ k % 8 < 12 := ⟨hj0, hj8⟩
      have hjt : k.tmod 8 = k % 8 := Int.tmod_eq_emod_of_nonneg hk0
      rw [hW2] at gy
      rw [hW2] at HO
      clear hyo HF hc hb2 OR hW2 HOR HR2 HA2 HR1 HA1 hs2
      go_wp2
      go_ret
      exact HO.out
    · by_cases hc3 : k < 226
      · have HF2 : Hid (F = (oddU.getD (8 + rs.tail.headD 0 % 4).toNat 0, rs.tail.tail)) := by unfold Hid; rw [HF.out]; unfold l2bF; rw [← HK.out, if_neg hc, if_neg hc2, if_pos hc3]
        have hn := nextF_any P rs.tail W2 HR2.out
        rw [hW2] at hn
        have HN : Hid (Calls Tryz.prog 50 #[.pointer (some ⟨P, 0, none⟩)] ((w1.alloc (.cells #[.int .u32 0, .int .u32 1065353216, .int .u32 1073741824, .int .u32 1077936128, .int .u32 1082130432, .int .u32 1084227584, .int .u32 1086324736, .int .u32 3212836864, .int .u32 3221225472, .int .u32 3225419776, .int .u32 1056964608, .int .u32 2147483648] 24)).alloc (.cells #[.int .u32 1, .int .u32 2147483649, .int .u32 8388607, .int .u32 8388608, .int .u32 2139095039, .int .u32 4286578687, .int .u32 1065353217, .int .u32 872415232, .int .u32 2139095040, .int .u32 4286578688, .int .u32 2143289344, .int .u32 2139095041] 24)) fun e w' => NextF P rs.tail ((w1.alloc (.cells #[.int .u32 0, .int .u32 1065353216, .int .u32 1073741824, .int .u32 1077936128, .int .u32 1082130432, .int .u32 1084227584, .int .u32 1086324736, .int .u32 3212836864, .int .u32 3221225472, .int .u32 3225419776, .int .u32 1056964608, .int .u32 2147483648] 24)).alloc (.cells #[.int .u32 1, .int .u32 2147483649, .int .u32 8388607, .int .u32 8388608, .int .u32 2139095039, .int .u32 4286578687, .int .u32 1065353217, .int .u32 872415232, .int .u32 2139095040, .int .u32 4286578688, .int .u32 2143289344, .int .u32 2139095041] 24)) e w') := hn
        clear hn HF hc
        go_wp2_with fail
        refine HN.out.mono ?_
        rw [← hW2]
        rintro e w3 ⟨rfl, hv0, hv1, hr3, ha3⟩
        obtain ⟨v, hv⟩ : ∃ v, v = rs.tail.headD 0 := ⟨_, rfl⟩
        rw [← hv] at hv0 hv1 HF2 ⊢
        obtain ⟨y, gy, hy0, hy1, hyo⟩ := oddU_cell OR (show (8 + v % 4).toNat < 12 by omega)
        have gy3 : w3.cell? ⟨w1.heap.size + 1, (8 + v % 4).toNat, none⟩ = some (.int .u32 y) := (ha3.cell (by simp; omega) (by simp; omega)).trans gy
        have HO : Hid (BitsOut P F.1 F.2 w (.returned (.int .u32 y)) w3) := by
          unfold Hid
          rw [HF2.out, ← hyo]
          exact ⟨rfl, hy0, hy1, hr3, HA2.out.trans ha3⟩
        have hj0 : 0 ≤ 8 + v % 4 := by omega
        have hj8 : 8 + v % 4 < 12 := by omega
        have hj9 : 0 ≤ 8 + v % 4 ∧ 8 + v % 4 < 12 := ⟨hj0, hj8⟩
        have hjt : v.tmod 4 = v % 4 := Int.tmod_eq_emod_of_nonneg hv0
        clear hyo HF2 hb2 OR hW2 HOR HR2 HA2 HR1 HA1 hs2 gy hr3 ha3 hv HN
        go_wp2
        go_ret
        exact HO.out
      · have HF2 : Hid (F = (if fFin (bits .xor .u32 (rs.tail.headD 0 * 16843009) (rs.tail.tail.headD 0 * 66309)) = true then bits .xor .u32 (rs.tail.headD 0 * 16843009) (rs.tail.tail.headD 0 * 66309) else bits .xor .u32 (bits .xor .u32 (rs.tail.headD 0 * 16843009) (rs.tail.tail.headD 0 * 66309)) 1073741824, rs.tail.tail.tail)) := by unfold Hid; rw [HF.out]; unfold l2bF; rw [← HK.out, if_neg hc, if_neg hc2, if_neg hc3]
        have hn := nextF_any P rs.tail W2 HR2.out
        rw [hW2] at hn
        have HN : Hid (Calls Tryz.prog 50 #[.pointer (some ⟨P, 0, none⟩)] ((w1.alloc (.cells #[.int .u32 0, .int .u32 1065353216, .int .u32 1073741824, .int .u32 1077936128, .int .u32 1082130432, .int .u32 1084227584, .int .u32 1086324736, .int .u32 3212836864, .int .u32 3221225472, .int .u32 3225419776, .int .u32 1056964608, .int .u32 2147483648] 24)).alloc (.cells #[.int .u32 1, .int .u32 2147483649, .int .u32 8388607, .int .u32 8388608, .int .u32 2139095039, .int .u32 4286578687, .int .u32 1065353217, .int .u32 872415232, .int .u32 2139095040, .int .u32 4286578688, .int .u32 2143289344, .int .u32 2139095041] 24)) fun e w' => NextF P rs.tail ((w1.alloc (.cells #[.int .u32 0, .int .u32 1065353216, .int .u32 1073741824, .int .u32 1077936128, .int .u32 1082130432, .int .u32 1084227584, .int .u32 1086324736, .int .u32 3212836864, .int .u32 3221225472, .int .u32 3225419776, .int .u32 1056964608, .int .u32 2147483648] 24)).alloc (.cells #[.int .u32 1, .int .u32 2147483649, .int .u32 8388607, .int .u32 8388608, .int .u32 2139095039, .int .u32 4286578687, .int .u32 1065353217, .int .u32 872415232, .int .u32 2139095040, .int .u32 4286578688, .int .u32 2143289344, .int .u32 2139095041] 24)) e w') := hn
        clear hn HF hc
        go_wp2_with fail
        refine HN.out.mono ?_
        rw [← hW2]
        rintro e w3 ⟨rfl, hv0, hv1, hr3, ha3⟩
        obtain ⟨v, hv⟩ : ∃ v, v = rs.tail.headD 0 := ⟨_, rfl⟩
        rw [← hv] at hv0 hv1 HF2 ⊢
        have HR3 : Hid (Rs P rs.tail.tail w3) := hr3
        have HA3 : Hid (Aside P w w3) := HA2.out.trans ha3
        clear hb2 OR hW2 HOR HR2 HA2 HR1 HA1 hs2 hr3 ha3 hv HN
        go_wp2_with fail
        refine (nextF_any P rs.tail.tail _ HR3.out).mono ?_
        rintro e w4 ⟨rfl, hu0, hu1, hr4, ha4⟩
        obtain ⟨u, hu⟩ : ∃ u, u = rs.tail.tail.headD 0 := ⟨_, rfl⟩
        rw [← hu] at hu0 hu1 HF2 ⊢
        have HR4 : Hid (Rs P rs.tail.tail.tail w4) := hr4
        have HA4 : Hid (Aside P w w4) := HA3.out.trans ha4
        have hbr := bits_range .xor (v * 16843009) (u * 66309)
        obtain ⟨B, hB⟩ : ∃ B, B = bits .xor .u32 (v * 16843009) (u * 66309) := ⟨_, rfl⟩
        have HB : Hid (B = bits .xor .u32 (v * 16843009) (u * 66309)) := hB
        rw [← hB] at hbr HF2
        obtain ⟨hB0, hB1⟩ := hbr
        have hbr2 := bits_range .xor B 1073741824
        clear hr4 ha4 hu HR3 HA3 hB
        go_wp2_with fail
        rw [← HB.out]
        refine (finB_any B _ hB0 hB1).mono ?_
        rintro e w5 ⟨rfl, hb5⟩
        have HR5 : Hid (Rs P rs.tail.tail.tail w5) := HR4.out.later hb5
        have HA5 : Hid (Aside P w w5) := HA4.out.trans (Aside.of hb5)
        clear hb5 HR4 HA4 HB
        cases hf : fFin B
        · have HO : Hid (BitsOut P F.1 F.2 w (.returned (.int .u32 (bits .xor .u32 B 1073741824))) w5) := by
            unfold Hid
            rw [HF2.out, if_neg (by rw [hf]; decide)]
            exact ⟨rfl, hbr2.1, hbr2.2, HR5.out, HA5.out⟩
          clear HF2
          go_wp2
          go_ret
          exact HO.out
        · have HO : Hid (BitsOut P F.1 F.2 w (.returned (.int .u32 B)) w5) := by
            unfold Hid
            rw [HF2.out, if_pos hf]
            exact ⟨rfl, hB0, hB1, HR5.out, HA5.out⟩
          clear HF2
          go_wp2
          go_ret
          exact HO.out

end Go.Proofs.YtfcnokagfibgcahGreat

/-
  Memory that the law itself marks: a frame for writes within known blocks; the laws' markers.
-/
namespace Go.Proofs.YtfcnokagfibgcahGreat
open Go.RowKit

/-- k, k + 1, .. : n numbers. -/
def marksL (k : Int) : Nat → List Int
  | 0 => []
  | n + 1 => k :: marksL (k + 1) n
theorem marks_length : ∀ (n : Nat) (k : Int), (marksL k n).length = n
  | 0, _ => rfl
  | n + 1, k => by simp [marksL, marks_length n]
theorem marks_get : ∀ (n : Nat) (k : Int) (j : Nat), j < n → (marksL k n).getD j 0 = k + j
  | 0, _, _, h => absurd h (by omega)
  | n + 1, k, 0, _ => by simp [marksL]
  | n + 1, k, j + 1, h => by
    have := marks_get n (k + 1) j (by omega)
    simp only [marksL, List.getD_cons_succ, this]
    omega

end Go.Proofs.YtfcnokagfibgcahGreat

/-
  Points, triangles and rays as the laws copy and compare them.
-/
namespace Go.Proofs.YtfcnokagfibgcahGreat
open Go.RowKit

/-- A row of numbers that is being filled from the list zs: the first m are there. -/
def OwnF (w : World) (X : Nat) (zs : List Int) (m : Nat) : Prop := Own .u32 w X 0 (zs.take m ++ List.replicate (zs.length - m) 0)

theorem OwnF.later {w w' : World} {X : Nat} {zs : List Int} {m : Nat} (h : OwnF w X zs m) (hb : Below w.heap.size w w') : OwnF w' X zs m := Own.later h hb

theorem OwnF.cell {w : World} {X : Nat} {zs : List Int} {m : Nat} (h : OwnF w X zs m) (hm : m ≤ zs.length) (j : Nat) (hj : j < zs.length) : ∃ v, w.cell? ⟨X, j, none⟩ = some v := by
  have := Own.cell h j (by simp; omega)
  rw [Nat.zero_add] at this
  exact ⟨_, this⟩

theorem OwnF.free {w : World} {X : Nat} {zs : List Int} {m : Nat} (h : OwnF w X zs m) (hm : m ≤ zs.length) (j : Nat) (hj : j < zs.length) : w.frozen? ⟨X, j, none⟩ = false := by
  have := Own.free h j (by simp; omega)
  rwa [Nat.zero_add] at this

theorem OwnF.whole {w : World} {X B : Nat} {zs : List Int} (h : OwnF w X zs zs.length) (hB : B ≤ X) : RowNew .u32 w B (some ⟨X, 0, none⟩) zs := by
  have := Own.new h hB
  simpa using this

theorem Own.made_flat (w : World) (n k : Nat) (t : TypeId) (hk : 0 < k) : Own .u32 (w.alloc (.cells (madeCells (Array.replicate k (.int .u32 0)) n) t)) w.heap.size 0 (List.replicate n 0) := by
  refine ⟨by simp, fun j hj => ?_, fun j hj => ?_⟩
  · rw [List.length_replicate] at hj
    have : j % k < k := Nat.mod_lt _ hk
    simp [List.getD_eq_getElem?_getD, hj, madeCells, this]
  · simp

theorem OwnF.start (w : World) (zs : List Int) (k : Nat) (t : TypeId) (hk : 0 < k) : OwnF (w.alloc (.cells (madeCells (Array.replicate k (.int .u32 0)) zs.length) t)) w.heap.size zs 0 := by
  unfold OwnF
  simpa using Own.made_flat w zs.length k t hk

/-- A row that is being marked: the first m places hold k0, k0 + 1, .. -/
structure MarkF (w : World) (b off L : Nat) (k0 : Int) (m : Nat) : Prop where
  lt : b < w.heap.size
  done : ∀ j, j < m → w.cell? ⟨b, off + j, none⟩ = some (.int .u32 (k0 + j))
  all : ∀ j, j < L → ∃ v, w.cell? ⟨b, off + j, none⟩ = some v
  free : ∀ j, j < L → w.frozen? ⟨b, off + j, none⟩ = false

theorem MarkF.row {w : World} {b off L lo hi : Nat} {k0 : Int} (h : MarkF w b off L k0 L) (h1 : lo ≤ b) (h2 : b < hi) : RowIn .u32 w lo hi (some ⟨b, off, none⟩) (marksL k0 L) := by
  refine .inr ⟨b, off, rfl, h1, h2, h.lt, fun j hj => ?_, fun j hj => ?_⟩
  · rw [marks_length] at hj
    rw [marks_get _ _ _ hj]; exact h.done j hj
  · rw [marks_length] at hj; exact h.free j hj

end Go.Proofs.YtfcnokagfibgcahGreat

/-
  Lists of Tris as the laws copy, compare and mark them: a list is the row of its numbers, 9 for each.
-/
namespace Go.Proofs.YtfcnokagfibgcahGreat
open Go.RowKit

theorem info_Tri : (Tryz.prog.info? 41).map (fun i => (i.zero, i.size, i.bytes)) = some (some (.agg #[.int .u32 0, .int .u32 0, .int .u32 0, .int .u32 0, .int .u32 0, .int .u32 0, .int .u32 0, .int .u32 0, .int .u32 0]), 9, 36) := by kernel_rfl

end Go.Proofs.YtfcnokagfibgcahGreat

/-
  Lists of Tris: equality, marks.
-/
namespace Go.Proofs.YtfcnokagfibgcahGreat
open Go.RowKit

end Go.Proofs.YtfcnokagfibgcahGreat

/-
  Lists of Rays as the laws copy, compare and mark them: a list is the row of its numbers, 6 for each.
-/
namespace Go.Proofs.YtfcnokagfibgcahGreat
open Go.RowKit

theorem info_Ray : (Tryz.prog.info? 28).map (fun i => (i.zero, i.size, i.bytes)) = some (some (.agg #[.int .u32 0, .int .u32 0, .int .u32 0, .int .u32 0, .int .u32 0, .int .u32 0]), 6, 24) := by kernel_rfl

end Go.Proofs.YtfcnokagfibgcahGreat

/-
  Lists of Rays: equality, marks.
-/
namespace Go.Proofs.YtfcnokagfibgcahGreat
open Go.RowKit

end Go.Proofs.YtfcnokagfibgcahGreat

/-
  Lists of Points as the laws copy, compare and mark them: a list is the row of its numbers, 3 for each.
-/
namespace Go.Proofs.YtfcnokagfibgcahGreat
open Go.RowKit

theorem info_Point : (Tryz.prog.info? 26).map (fun i => (i.zero, i.size, i.bytes)) = some (some (.agg #[.int .u32 0, .int .u32 0, .int .u32 0]), 3, 12) := by kernel_rfl

end Go.Proofs.YtfcnokagfibgcahGreat

/-
  Lists of Points: equality, marks.
-/
namespace Go.Proofs.YtfcnokagfibgcahGreat
open Go.RowKit

end Go.Proofs.YtfcnokagfibgcahGreat

/-
  Scenes as the laws measure, copy and compare them.
-/
namespace Go.Proofs.YtfcnokagfibgcahGreat
open Go.RowKit

/-- The three lists of a scene read as these numbers: 9 for each triangle, 6 for each ray, 3 for each light. -/
structure ScAt (w : World) (a1 a2 a3 : Option Addr) (n1 n2 n3 : Nat) (z1 z2 z3 : List Int) : Prop where
  l1 : z1.length = n1 * 9
  l2 : z2.length = n2 * 6
  l3 : z3.length = n3 * 3
  r1 : RowAt .u32 w a1 z1
  r2 : RowAt .u32 w a2 z2
  r3 : RowAt .u32 w a3 z3

theorem ScAt.later {w w' : World} {a1 a2 a3 : Option Addr} {n1 n2 n3 : Nat} {z1 z2 z3 : List Int} (h : ScAt w a1 a2 a3 n1 n2 n3 z1 z2 z3) (hb : Below w.heap.size w w') : ScAt w' a1 a2 a3 n1 n2 n3 z1 z2 z3 :=
  ⟨h.l1, h.l2, h.l3, h.r1.later hb, h.r2.later hb, h.r3.later hb⟩

/-- .. and lie, one behind the other, in memory from block lo to below hi, which may be written. -/
structure ScIn (w : World) (lo hi : Nat) (a1 a2 a3 : Option Addr) (n1 n2 n3 : Nat) (z1 z2 z3 : List Int) (m1 m2 : Nat) : Prop where
  l1 : z1.length = n1 * 9
  l2 : z2.length = n2 * 6
  l3 : z3.length = n3 * 3
  lo1 : lo ≤ m1
  m12 : m1 ≤ m2
  hi2 : m2 ≤ hi
  top : hi ≤ w.heap.size
  r1 : RowIn .u32 w lo m1 a1 z1
  r2 : RowIn .u32 w m1 m2 a2 z2
  r3 : RowIn .u32 w m2 hi a3 z3

theorem ScIn.at {w : World} {lo hi : Nat} {a1 a2 a3 : Option Addr} {n1 n2 n3 : Nat} {z1 z2 z3 : List Int} {m1 m2 : Nat} (h : ScIn w lo hi a1 a2 a3 n1 n2 n3 z1 z2 z3 m1 m2) : ScAt w a1 a2 a3 n1 n2 n3 z1 z2 z3 :=
  ⟨h.l1, h.l2, h.l3, h.r1.row, h.r2.row, h.r3.row⟩

theorem ScIn.later {w w' : World} {lo hi : Nat} {a1 a2 a3 : Option Addr} {n1 n2 n3 : Nat} {z1 z2 z3 : List Int} {m1 m2 : Nat} (h : ScIn w lo hi a1 a2 a3 n1 n2 n3 z1 z2 z3 m1 m2) (hb : Below w.heap.size w w') : ScIn w' lo hi a1 a2 a3 n1 n2 n3 z1 z2 z3 m1 m2 :=
  ⟨h.l1, h.l2, h.l3, h.lo1, h.m12, h.hi2, Nat.le_trans h.top hb.size, h.r1.later hb, h.r2.later hb, h.r3.later hb⟩

theorem ScIn.apart {w w' : World} {lo hi lo' hi' : Nat} {a1 a2 a3 : Option Addr} {n1 n2 n3 : Nat} {z1 z2 z3 : List Int} {m1 m2 : Nat} (h : ScIn w lo hi a1 a2 a3 n1 n2 n3 z1 z2 z3 m1 m2) (hw : Within lo' hi' w w') (hd : hi ≤ lo' ∨ hi' ≤ lo) : ScIn w' lo hi a1 a2 a3 n1 n2 n3 z1 z2 z3 m1 m2 :=
  have h1 := h.lo1
  have h2 := h.m12
  have h3 := h.hi2
  ⟨h.l1, h.l2, h.l3, h1, h2, h3, by rw [hw.size]; exact h.top, h.r1.apart hw (by omega), h.r2.apart hw (by omega), h.r3.apart hw (by omega)⟩

theorem within_set (w : World) (p : Addr) (v : Value) : Within p.block (p.block + 1) w (w.setCell p v) := (Within.refl _ _ _).setCell (Nat.le_refl _) (Nat.lt_succ_self _) _

end Go.Proofs.YtfcnokagfibgcahGreat

/-
  What a scene must be to be valid, and the model's tests of it.
-/
namespace Go.Proofs.YtfcnokagfibgcahGreat
open Go.RowKit

/-- A zero of either sign. -/
def zeroB (x : Int) : Bool := x % 2147483648 == 0
def pointB (x y z : Int) : Bool := fFin x && fFin y && fFin z
def noWayB (x y z : Int) : Bool := zeroB x && zeroB y && zeroB z
def triAt (zs : List Int) (i : Nat) : Bool := pointB (zs.getD (i * 9) 0) (zs.getD (i * 9 + 1) 0) (zs.getD (i * 9 + 2) 0) && pointB (zs.getD (i * 9 + 3) 0) (zs.getD (i * 9 + 4) 0) (zs.getD (i * 9 + 5) 0) && pointB (zs.getD (i * 9 + 6) 0) (zs.getD (i * 9 + 7) 0) (zs.getD (i * 9 + 8) 0)
def rayAt (zs : List Int) (i : Nat) : Bool := pointB (zs.getD (i * 6) 0) (zs.getD (i * 6 + 1) 0) (zs.getD (i * 6 + 2) 0) && pointB (zs.getD (i * 6 + 3) 0) (zs.getD (i * 6 + 4) 0) (zs.getD (i * 6 + 5) 0) && !(noWayB (zs.getD (i * 6 + 3) 0) (zs.getD (i * 6 + 4) 0) (zs.getD (i * 6 + 5) 0))
def ptAt (zs : List Int) (i : Nat) : Bool := pointB (zs.getD (i * 3) 0) (zs.getD (i * 3 + 1) 0) (zs.getD (i * 3 + 2) 0)
def validSc (n1 n2 n3 : Nat) (z1 z2 z3 : List Int) : Bool :=
  (decide (n1 ≤ 40) && (List.range n1).all (triAt z1)) && decide (n2 ≤ 40) && decide (n3 ≤ 4) && (List.range n2).all (rayAt z2) && (List.range n3).all (ptAt z3)

theorem all_range_succ (P : Nat → Bool) (i : Nat) : (List.range (i + 1)).all P = ((List.range i).all P && P i) := by
  rw [List.range_succ, List.all_append]
  simp
theorem all_range_false {P : Nat → Bool} {i n : Nat} (hi : i < n) (h : P i = false) : (List.range n).all P = false := by
  rw [List.all_eq_false]
  exact ⟨i, List.mem_range.2 hi, by simp [h]⟩

theorem finV_any (x : Int) (w : World) (xa : 0 ≤ x) (xb : x < 4294967296) :
    Calls Tryz.prog 156 #[.int .u32 x] w fun e w' => e = .returned (.bool (fFin x)) ∧ w' = w := by
  go_enter Tryz.func156, Tryz.ntmps156
  go_wp2
  go_ret
  exact ⟨by unfold fFin; rfl, rfl⟩

theorem zeroV_any (x : Int) (w : World) (xa : 0 ≤ x) (xb : x < 4294967296) :
    Calls Tryz.prog 224 #[.int .u32 x] w fun e w' => e = .returned (.bool (zeroB x)) ∧ w' = w := by
  go_enter Tryz.func224, Tryz.ntmps224
  go_wp2
  go_ret
  exact ⟨by unfold zeroB; rfl, rfl⟩

set_option maxHeartbeats 2000000 in
theorem pointV_any (x y z : Int) (w : World) (xa : 0 ≤ x) (xb : x < 4294967296) (ya : 0 ≤ y) (yb : y < 4294967296) (za : 0 ≤ z) (zb : z < 4294967296) :
    Calls Tryz.prog 69 #[.agg #[.int .u32 x, .int .u32 y, .int .u32 z]] w fun e w' => e = .returned (.bool (pointB x y z)) ∧ Below w.heap.size w w' := by
  go_enter Tryz.func69, Tryz.ntmps69
  go_wp2_with fail
  refine (finV_any x _ xa xb).mono ?_
  rintro e w1 ⟨rfl, rfl⟩
  cases hx : fFin x
  · go_wp2
    go_ret
    exact ⟨by simp [pointB, hx], bel0 _ _⟩
  · go_wp2_with fail
    refine (finV_any y _ ya yb).mono ?_
    rintro e w2 ⟨rfl, rfl⟩
    cases hy : fFin y
    · go_wp2
      go_ret
      exact ⟨by simp [pointB, hx, hy], bel0 _ _⟩
    · go_wp2_with fail
      refine (finV_any z _ za zb).mono ?_
      rintro e w3 ⟨rfl, rfl⟩
      go_wp2
      go_ret
      exact ⟨by simp [pointB, hx, hy], bel0 _ _⟩

set_option maxHeartbeats 2000000 in
theorem noWayV_any (x y z : Int) (w : World) (xa : 0 ≤ x) (xb : x < 4294967296) (ya : 0 ≤ y) (yb : y < 4294967296) (za : 0 ≤ z) (zb : z < 4294967296) :
    Calls Tryz.prog 129 #[.agg #[.int .u32 x, .int .u32 y, .int .u32 z]] w fun e w' => e = .returned (.bool (noWayB x y z)) ∧ Below w.heap.size w w' := by
  go_enter Tryz.func129, Tryz.ntmps129
  go_wp2_with fail
  refine (zeroV_any x _ xa xb).mono ?_
  rintro e w1 ⟨rfl, rfl⟩
  cases hx : zeroB x
  · go_wp2
    go_ret
    exact ⟨by simp [noWayB, hx], bel0 _ _⟩
  · go_wp2_with fail
    refine (zeroV_any y _ ya yb).mono ?_
    rintro e w2 ⟨rfl, rfl⟩
    cases hy : zeroB y
    · go_wp2
      go_ret
      exact ⟨by simp [noWayB, hx, hy], bel0 _ _⟩
    · go_wp2_with fail
      refine (zeroV_any z _ za zb).mono ?_
      rintro e w3 ⟨rfl, rfl⟩
      go_wp2
      go_ret
      exact ⟨by simp [noWayB, hx, hy], bel0 _ _⟩

set_option maxHeartbeats 4000000 in
theorem triV_any (x0 x1 x2 x3 x4 x5 x6 x7 x8 : Int) (w : World) (x0a : 0 ≤ x0) (x0b : x0 < 4294967296) (x1a : 0 ≤ x1) (x1b : x1 < 4294967296) (x2a : 0 ≤ x2) (x2b : x2 < 4294967296) (x3a : 0 ≤ x3) (x3b : x3 < 4294967296) (x4a : 0 ≤ x4) (x4b : x4 < 4294967296) (x5a : 0 ≤ x5) (x5b : x5 < 4294967296) (x6a : 0 ≤ x6) (x6b : x6 < 4294967296) (x7a : 0 ≤ x7) (x7b : x7 < 4294967296) (x8a : 0 ≤ x8) (x8b : x8 < 4294967296) :
    Calls Tryz.prog 131 #[.agg #[.int .u32 x0, .int .u32 x1, .int .u32 x2, .int .u32 x3, .int .u32 x4, .int .u32 x5, .int .u32 x6, .int .u32 x7, .int .u32 x8]] w fun e w' => e = .returned (.bool (pointB x0 x1 x2 && pointB x3 x4 x5 && pointB x6 x7 x8)) ∧ Below w.heap.size w w' := by
  go_enter Tryz.func131, Tryz.ntmps131
  go_wp2_with fail
  refine (pointV_any x0 x1 x2 _ x0a x0b x1a x1b x2a x2b).mono ?_
  rintro e w1 ⟨rfl, hb1⟩
  have c3 : w1.cell? ⟨w.heap.size, 3, none⟩ = some (.int .u32 x3) := by rw [(bcell hb1).1 _ _ (by simp)]; simp [go_sem]
  have c4 : w1.cell? ⟨w.heap.size, 4, none⟩ = some (.int .u32 x4) := by rw [(bcell hb1).1 _ _ (by simp)]; simp [go_sem]
  have c5 : w1.cell? ⟨w.heap.size, 5, none⟩ = some (.int .u32 x5) := by rw [(bcell hb1).1 _ _ (by simp)]; simp [go_sem]
  have c6 : w1.cell? ⟨w.heap.size, 6, none⟩ = some (.int .u32 x6) := by rw [(bcell hb1).1 _ _ (by simp)]; simp [go_sem]
  have c7 : w1.cell? ⟨w.heap.size, 7, none⟩ = some (.int .u32 x7) := by rw [(bcell hb1).1 _ _ (by simp)]; simp [go_sem]
  have c8 : w1.cell? ⟨w.heap.size, 8, none⟩ = some (.int .u32 x8) := by rw [(bcell hb1).1 _ _ (by simp)]; simp [go_sem]
  have B1 : Below w.heap.size w w1 := (bel0 _ _).trans (hb1.mono (by simp))
  have S1 : w.heap.size < w1.heap.size := by have := hb1.size; simp at this; omega
  have HB1 : Hid (Below w.heap.size w w1) := B1
  clear hb1 B1
  cases h1 : pointB x0 x1 x2
  · go_wp2
    go_ret
    exact ⟨by simp [h1], HB1.out⟩
  · go_wp2_with fail
    refine (pointV_any x3 x4 x5 _ x3a x3b x4a x4b x5a x5b).mono ?_
    rintro e w2 ⟨rfl, hb2⟩
    replace c6 := ((bcell hb2).1 _ _ S1).trans c6
    replace c7 := ((bcell hb2).1 _ _ S1).trans c7
    replace c8 := ((bcell hb2).1 _ _ S1).trans c8
    have HB2 : Hid (Below w.heap.size w w2) := HB1.out.trans (hb2.mono HB1.out.size)
    clear hb2
    cases h2 : pointB x3 x4 x5
    · go_wp2
      go_ret
      exact ⟨by simp [h1, h2], HB2.out⟩
    · go_wp2_with fail
      refine (pointV_any x6 x7 x8 _ x6a x6b x7a x7b x8a x8b).mono ?_
      rintro e w3 ⟨rfl, hb3⟩
      have HB3 : Hid (Below w.heap.size w w3) := HB2.out.trans (hb3.mono HB2.out.size)
      clear hb3
      go_wp2
      go_ret
      exact ⟨by simp [h1, h2], HB3.out⟩

set_option maxHeartbeats 4000000 in
theorem rayV_any (x0 x1 x2 x3 x4 x5 : Int) (w : World) (x0a : 0 ≤ x0) (x0b : x0 < 4294967296) (x1a : 0 ≤ x1) (x1b : x1 < 4294967296) (x2a : 0 ≤ x2) (x2b : x2 < 4294967296) (x3a : 0 ≤ x3) (x3b : x3 < 4294967296) (x4a : 0 ≤ x4) (x4b : x4 < 4294967296) (x5a : 0 ≤ x5) (x5b : x5 < 4294967296) :
    Calls Tryz.prog 55 #[.agg #[.int .u32 x0, .int .u32 x1, .int .u32 x2, .int .u32 x3, .int .u32 x4, .int .u32 x5]] w fun e w' => e = .returned (.bool (pointB x0 x1 x2 && pointB x3 x4 x5 && !(noWayB x3 x4 x5))) ∧ Below w.heap.size w w' := by
  go_enter Tryz.func55, Tryz.ntmps55
  go_wp2_with fail
  refine (pointV_any x0 x1 x2 _ x0a x0b x1a x1b x2a x2b).mono ?_
  rintro e w1 ⟨rfl, hb1⟩
  have c3 : w1.cell? ⟨w.heap.size, 3, none⟩ = some (.int .u32 x3) := by rw [(bcell hb1).1 _ _ (by simp)]; simp [go_sem]
  have c4 : w1.cell? ⟨w.heap.size, 4, none⟩ = some (.int .u32 x4) := by rw [(bcell hb1).1 _ _ (by simp)]; simp [go_sem]
  have c5 : w1.cell? ⟨w.heap.size, 5, none⟩ = some (.int .u32 x5) := by rw [(bcell hb1).1 _ _ (by simp)]; simp [go_sem]
  have B1 : Below w.heap.size w w1 := (bel0 _ _).trans (hb1.mono (by simp))
  have S1 : w.heap.size < w1.heap.size := by have := hb1.size; simp at this; omega
  have HB1 : Hid (Below w.heap.size w w1) := B1
  clear hb1 B1
  cases h1 : pointB x0 x1 x2
  · go_wp2
    go_ret
    exact ⟨by simp [h1], HB1.out⟩
  · go_wp2_with fail
    refine (pointV_any x3 x4 x5 _ x3a x3b x4a x4b x5a x5b).mono ?_
    rintro e w2 ⟨rfl, hb2⟩
    replace c3 := ((bcell hb2).1 _ _ S1).trans c3
    replace c4 := ((bcell hb2).1 _ _ S1).trans c4
    replace c5 := ((bcell hb2).1 _ _ S1).trans c5
    have HB2 : Hid (Below w.heap.size w w2) := HB1.out.trans (hb2.mono HB1.out.size)
    clear hb2
    cases h2 : pointB x3 x4 x5
    · go_wp2
      go_ret
      exact ⟨by simp [h1, h2], HB2.out⟩
    · go_wp2_with fail
      refine (noWayV_any x3 x4 x5 _ x3a x3b x4a x4b x5a x5b).mono ?_
      rintro e w3 ⟨rfl, hb3⟩
      have HB3 : Hid (Below w.heap.size w w3) := HB2.out.trans (hb3.mono HB2.out.size)
      clear hb3
      go_wp2
      go_ret
      exact ⟨by simp [h1, h2], HB3.out⟩

set_option maxRecDepth 100000 in
set_option maxHeartbeats 4000000 in
theorem trisV_any (a : Option Addr) (n c : Nat) (zs : List Int) (w : World) (hn : n ≤ 1048576) (hl : zs.length = n * 9) (hu : U32 zs) (hz : RowAt .u32 w a zs) :
    Calls Tryz.prog 54 #[.slice a n c] w fun e w' => e = .returned (.bool (decide (n ≤ 40) && (List.range n).all (triAt zs))) ∧ Below w.heap.size w w' := by
  have HL : Hid (zs.length = n * 9) := hl
  have HZ : Hid (RowAt .u32 w a zs) := hz
  have HU : Hid (U32 zs) := hu
  clear hl hz hu
  by_cases hn4 : n ≤ 40
  · have hng : ¬ (40 : Int) < n := by omega
    go_enter Tryz.func54, Tryz.ntmps54
    go_wp2
    go_loopw [3] (fun si wr => ∃ (i : Nat), i ≤ n ∧ si = .int .i64 i ∧ Hid ((List.range i).all (triAt zs) = true) ∧ Hid (Below w.heap.size w wr)) (fun si _ => n - (intOf si).toNat)
    case atStart => exact ⟨0, Nat.zero_le _, rfl, rfl, Below.refl _ _⟩
    case round =>
      obtain ⟨i, hi, rfl, hA, hb⟩ := hrel
      by_cases hlt : i < n
      · have hle : ∀ j, j < 9 → i * 9 + j < zs.length := by intro j hj; rw [HL.out]; omega
        obtain ⟨b, off, rfl, hbl, hc⟩ := HZ.out.resolve_left (by intro h; have := hle 0 (by omega); rw [h] at this; simp at this)
        have HT : Hid (triAt zs i = triAt zs i) := rfl
        obtain ⟨x0, hx0⟩ : ∃ x, x = zs.getD (i * 9) 0 := ⟨_, rfl⟩
        have q0 : wr.cell? ⟨b, off + i * 9, none⟩ = some (.int .u32 x0) := by
          have := (hb.out.cell (p := ⟨b, off + (i * 9 + 0), none⟩) hbl).trans (hc (i * 9 + 0) (hle 0 (by omega)))
          rw [hx0]
          simpa [Nat.add_assoc] using this
        have x0a : 0 ≤ x0 := by rw [hx0]; exact (HU.out.at _).1
        have x0b : x0 < 4294967296 := by rw [hx0]; exact (HU.out.at _).2
        obtain ⟨x1, hx1⟩ : ∃ x, x = zs.getD (i * 9 + 1) 0 := ⟨_, rfl⟩
        have q1 : wr.cell? ⟨b, off + i * 9 + 1, none⟩ = some (.int .u32 x1) := by
          have := (hb.out.cell (p := ⟨b, off + (i * 9 + 1), none⟩) hbl).trans (hc (i * 9 + 1) (hle 1 (by omega)))
          rw [hx1]
          simpa [Nat.add_assoc] using this
        have x1a : 0 ≤ x1 := by rw [hx1]; exact (HU.out.at _).1
        have x1b : x1 < 4294967296 := by rw [hx1]; exact (HU.out.at _).2
        obtain ⟨x2, hx2⟩ : ∃ x, x = zs.getD (i * 9 + 2) 0 := ⟨_, rfl⟩
        have q2 : wr.cell? ⟨b, off + i * 9 + 2, none⟩ = some (.int .u32 x2) := by
          have := (hb.out.cell (p := ⟨b, off + (i * 9 + 2), none⟩) hbl).trans (hc (i * 9 + 2) (hle 2 (by omega)))
          rw [hx2]
          simpa [Nat.add_assoc] using this
        have x2a : 0 ≤ x2 := by rw [hx2]; exact (HU.out.at _).1
        have x2b : x2 < 4294967296 := by rw [hx2]; exact (HU.out.at _).2
        obtain ⟨x3, hx3⟩ : ∃ x, x = zs.getD (i * 9 + 3) 0 := ⟨_, rfl⟩
        have q3 : wr.cell? ⟨b, off + i * 9 + 3, none⟩ = some (.int .u32 x3) := by
          have := (hb.out.cell (p := ⟨b, off + (i * 9 + 3), none⟩) hbl).trans (hc (i * 9 + 3) (hle 3 (by omega)))
          rw [hx3]
          simpa [Nat.add_assoc] using this
        have x3a : 0 ≤ x3 := by rw [hx3]; exact (HU.out.at _).1
        have x3b : x3 < 4294967296 := by rw [hx3]; exact (HU.out.at _).2
        obtain ⟨x4, hx4⟩ : ∃ x, x = zs.getD (i * 9 + 4) 0 := ⟨_, rfl⟩
        have q4 : wr.cell? ⟨b, off + i * 9 + 4, none⟩ = some (.int .u32 x4) := by
          have := (hb.out.cell (p := ⟨b, off + (i * 9 + 4), none⟩) hbl).trans (hc (i * 9 + 4) (hle 4 (by omega)))
          rw [hx4]
          simpa [Nat.add_assoc] using this
        have x4a : 0 ≤ x4 := by rw [hx4]; exact (HU.out.at _).1
        have x4b : x4 < 4294967296 := by rw [hx4]; exact (HU.out.at _).2
        obtain ⟨x5, hx5⟩ : ∃ x, x = zs.getD (i * 9 + 5) 0 := ⟨_, rfl⟩
        have q5 : wr.cell? ⟨b, off + i * 9 + 5, none⟩ = some (.int .u32 x5) := by
          have := (hb.out.cell (p := ⟨b, off + (i * 9 + 5), none⟩) hbl).trans (hc (i * 9 + 5) (hle 5 (by omega)))
          rw [hx5]
          simpa [Nat.add_assoc] using this
        have x5a : 0 ≤ x5 := by rw [hx5]; exact (HU.out.at _).1
        have x5b : x5 < 4294967296 := by rw [hx5]; exact (HU.out.at _).2
        obtain ⟨x6, hx6⟩ : ∃ x, x = zs.getD (i * 9 + 6) 0 := ⟨_, rfl⟩
        have q6 : wr.cell? ⟨b, off + i * 9 + 6, none⟩ = some (.int .u32 x6) := by
          have := (hb.out.cell (p := ⟨b, off + (i * 9 + 6), none⟩) hbl).trans (hc (i * 9 + 6) (hle 6 (by omega)))
          rw [hx6]
          simpa [Nat.add_assoc] using this
        have x6a : 0 ≤ x6 := by rw [hx6]; exact (HU.out.at _).1
        have x6b : x6 < 4294967296 := by rw [hx6]; exact (HU.out.at _).2
        obtain ⟨x7, hx7⟩ : ∃ x, x = zs.getD (i * 9 + 7) 0 := ⟨_, rfl⟩
        have q7 : wr.cell? ⟨b, off + i * 9 + 7, none⟩ = some (.int .u32 x7) := by
          have := (hb.out.cell (p := ⟨b, off + (i * 9 + 7), none⟩) hbl).trans (hc (i * 9 + 7) (hle 7 (by omega)))
          rw [hx7]
          simpa [Nat.add_assoc] using this
        have x7a : 0 ≤ x7 := by rw [hx7]; exact (HU.out.at _).1
        have x7b : x7 < 4294967296 := by rw [hx7]; exact (HU.out.at _).2
        obtain ⟨x8, hx8⟩ : ∃ x, x = zs.getD (i * 9 + 8) 0 := ⟨_, rfl⟩
        have q8 : wr.cell? ⟨b, off + i * 9 + 8, none⟩ = some (.int .u32 x8) := by
          have := (hb.out.cell (p := ⟨b, off + (i * 9 + 8), none⟩) hbl).trans (hc (i * 9 + 8) (hle 8 (by omega)))
          rw [hx8]
          simpa [Nat.add_assoc] using this
        have x8a : 0 ≤ x8 := by rw [hx8]; exact (HU.out.at _).1
        have x8b : x8 < 4294967296 := by rw [hx8]; exact (HU.out.at _).2
        have HX : Hid (triAt zs i = (pointB x0 x1 x2 && pointB x3 x4 x5 && pointB x6 x7 x8)) := by unfold Hid; rw [hx0, hx1, hx2, hx3, hx4, hx5, hx6, hx7, hx8]; rfl
        have hib : (i : Int) < n := by omega
        clear hc hle HT hx0 hx1 hx2 hx3 hx4 hx5 hx6 hx7 hx8
        go_wp2_with fail
        refine (triV_any x0 x1 x2 x3 x4 x5 x6 x7 x8 _ x0a x0b x1a x1b x2a x2b x3a x3b x4a x4b x5a x5b x6a x6b x7a x7b x8a x8b).mono ?_
        rintro e w1 ⟨rfl, hb1⟩
        have HB1 : Hid (Below w.heap.size w w1) := hb.out.trans (hb1.mono hb.out.size)
        clear hb1 hb q0 x0a x0b q1 x1a x1b q2 x2a x2b q3 x3a x3b q4 x4a x4b q5 x5a x5b q6 x6a x6b q7 x7a x7b q8 x8a x8b
        rw [← HX.out]
        cases hT : triAt zs i
        · go_wp2
          go_ret
          exact ⟨ret_bool (by rw [all_range_false hlt hT]; simp), HB1.out⟩
        · go_wp2
          go_roundw
          case rel => exact ⟨i + 1, by omega, by go_num, by unfold Hid; rw [all_range_succ, hA.out, hT]; rfl, HB1⟩
          case measure => simp [intOf]; omega
      · have hie : i = n := by omega
        subst hie
        have HA := hA.out
        go_wp2
        go_ret
        exact ⟨ret_bool (by rw [HA]; simp [hn4]), hb.out⟩
  · have hng : (40 : Int) < n := by omega
    go_enter Tryz.func54, Tryz.ntmps54
    go_wp2
    go_ret
    exact ⟨ret_bool (by simp [hn4]), Below.refl _ _⟩

end Go.Proofs.YtfcnokagfibgcahGreat

/-
  Drawn points, triangles and rays, as functions of the reader's bytes.
-/
namespace Go.Proofs.YtfcnokagfibgcahGreat
open Go.RowKit

/-- What a draw hands back: the value v, and the bytes rs' that are left. -/
def Drew (P : Nat) (v : Value) (rs' : List Int) (w : World) (e : Ending) (w' : World) : Prop := e = .returned v ∧ Rs P rs' w' ∧ Aside P w w'

theorem Rs.set {P : Nat} {rs : List Int} {W : World} (h : Rs P rs W) {k : Nat} (hk : P < k) (j : Nat) (v : Value) : Rs P rs (W.setCell ⟨k, j, none⟩ v) :=
  h.above (B := P + 1) ((Below.refl _ _).setCell (p := ⟨k, j, none⟩) (by show P + 1 ≤ k; omega) v) (Nat.lt_succ_self _)
theorem own_asideP {k : IntKind} {w w' : World} {b off R : Nat} {ys : List Int} (h : Own k w b off ys) (ha : Aside R w w') (hR : b ≠ R) : Own k w' b off ys :=
  ⟨Nat.lt_of_lt_of_le h.lt ha.size, fun j hj => (ha.cell (p := ⟨b, off + j, none⟩) h.lt hR).trans (h.cell j hj), fun j hj => (ha.frozen (p := ⟨b, off + j, none⟩) h.lt hR).trans (h.free j hj)⟩
theorem own_lit (w : World) (ys : List Int) (t : TypeId) (cs : Array Value) (hc : cs = (ys.map (Value.int .u32 ·)).toArray) : Own .u32 (w.alloc (.cells cs t)) w.heap.size 0 ys := by
  subst hc
  refine ⟨by simp, fun j hj => ?_, fun j hj => by simp [go_sem]⟩
  simp [List.getD_eq_getElem?_getD, hj]

set_option maxRecDepth 100000 in
set_option maxHeartbeats 1000000 in
theorem drawPt (wild : Bool) (rs : List Int) (P : Nat) (w : World) (h : Rs P rs w) :
    Calls Tryz.prog 155 #[.pointer (some ⟨P, 0, none⟩), .bool wild] w fun e w' => Drew P (.agg #[.int .u32 (l2bF wild rs).1, .int .u32 (l2bF wild (l2bF wild rs).2).1, .int .u32 (l2bF wild (l2bF wild (l2bF wild rs).2).2).1]) (l2bF wild (l2bF wild (l2bF wild rs).2).2).2 w e w' := by
  have hP := h.lt
  have HS : Hid (Rs P rs w) := h
  obtain ⟨F1, hF1⟩ : ∃ F, F = l2bF wild rs := ⟨_, rfl⟩
  rw [← hF1]
  have HF1 : Hid (F1 = l2bF wild rs) := hF1
  obtain ⟨F2, hF2⟩ : ∃ F, F = l2bF wild F1.2 := ⟨_, rfl⟩
  rw [← hF2]
  have HF2 : Hid (F2 = l2bF wild F1.2) := hF2
  obtain ⟨F3, hF3⟩ : ∃ F, F = l2bF wild F2.2 := ⟨_, rfl⟩
  rw [← hF3]
  have HF3 : Hid (F3 = l2bF wild F2.2) := hF3
  clear h hF1 hF2 hF3
  go_enter Tryz.func155, Tryz.ntmps155
  go_wp2_with fail
  refine (drawBits_any P wild rs _ (HS.out.later (bel0 _ _))).mono ?_
  rintro e w1 ⟨rfl, a0, a1, hr1, ha1⟩
  rw [← HF1.out] at a0 a1 hr1 ⊢
  have O1 : Hid (Own .u32 w1 w.heap.size 0 [0, 0, 0]) := own_asideP (own_lit w [0, 0, 0] _ _ rfl) ha1 (by omega)
  have H1 : Hid (Rs P F1.2 w1 ∧ Aside P w w1) := ⟨hr1, (Aside.of (bel0 _ _)).trans ha1⟩
  clear hr1 ha1
  go_wp2_with fail
  refine (drawBits_any P wild F1.2 _ H1.out.1).mono ?_
  rintro e w2 ⟨rfl, b0, b1, hr1, ha1⟩
  rw [← HF2.out] at b0 b1 hr1 ⊢
  have O2 : Hid (Own .u32 w2 w.heap.size 0 [0, 0, 0]) := own_asideP O1.out ha1 (by omega)
  have H2 : Hid (Rs P F2.2 w2 ∧ Aside P w w2) := ⟨hr1, H1.out.2.trans ha1⟩
  clear hr1 ha1 O1 H1
  go_wp2_with fail
  refine (drawBits_any P wild F2.2 _ H2.out.1).mono ?_
  rintro e w3 ⟨rfl, c0, c1, hr1, ha1⟩
  rw [← HF3.out] at c0 c1 hr1 ⊢
  have O3 : Hid (Own .u32 w3 w.heap.size 0 [0, 0, 0]) := own_asideP O2.out ha1 (by omega)
  have H3 : Hid (Rs P F3.2 w3 ∧ Aside P w w3) := ⟨hr1, H2.out.2.trans ha1⟩
  clear hr1 ha1 O2 H2
  have r0 : w3.cell? ⟨w.heap.size, 0, none⟩ = some (.int .u32 0) := O3.out.cell 0 (by simp)
  have r1 : w3.cell? ⟨w.heap.size, 1, none⟩ = some (.int .u32 0) := O3.out.cell 1 (by simp)
  have r2 : w3.cell? ⟨w.heap.size, 2, none⟩ = some (.int .u32 0) := O3.out.cell 2 (by simp)
  have s0 : w3.frozen? ⟨w.heap.size, 0, none⟩ = false := O3.out.free 0 (by simp)
  have s1 : w3.frozen? ⟨w.heap.size, 1, none⟩ = false := O3.out.free 1 (by simp)
  have s2 : w3.frozen? ⟨w.heap.size, 2, none⟩ = false := O3.out.free 2 (by simp)
  clear O3
  go_wp2
  refine bodyPost_ret (v := .agg #[.int .u32 F1.1, .int .u32 F2.1, .int .u32 F3.1]) (by simp [results, Tryz.results155, go_sem, r0, r1, r2]) rfl ?_
  exact ⟨rfl, ((H3.out.1.set hP _ _).set hP _ _).set hP _ _, ((H3.out.2.setHigh (p := ⟨w.heap.size, 0, none⟩) (Nat.le_refl _) _).setHigh (p := ⟨w.heap.size, 1, none⟩) (Nat.le_refl _) _).setHigh (p := ⟨w.heap.size, 2, none⟩) (Nat.le_refl _) _⟩

end Go.Proofs.YtfcnokagfibgcahGreat
