/-
  A drawn float: its bits.
-/
import Derived.Test.YtladfpljnaippabDoorSpecFlToDrawH
import Derived.Test.YtladfpljnaippabDoorNumD
import Derived.Test.YtladfpljnaippabDoorDy1
import Derived.Test.YtladfpljnaippabDoorSpecF
import Derived.Test.YtladfpljnaippabDoorSpecH
import Derived.Test.YtladfpljnaippabDoorDy1h
import Derived.Test.YtladfpljnaippabDoorNum
import Derived.Test.YtladfpljnaippabDoorDy2
import Derived.Test.YtladfpljnaippabDoorDraw4DrawGNumFDy6SpecS2
namespace Go.Proofs.YtladfpljnaippabDoor
open Go.RowKit

/-- A drawn float: its bits. -/
def OfOut (w : World) (e : Ending) (w' : World) : Prop := ∃ b : Int, e = .returned (.int .u32 b) ∧ 0 ≤ b ∧ b < 4294967296 ∧ Below w.heap.size w w'

theorem pow256 {i : Nat} {b : Int} (h : b < 256 ^ i) (hi : i < 4) : b < 16777216 := by
  rcases (show i = 0 ∨ i = 1 ∨ i = 2 ∨ i = 3 by omega) with rfl | rfl | rfl | rfl <;> simp at h <;> omega

theorem pow256_succ {i : Nat} {b v : Int} (h : b < 256 ^ i) (hv : v ≤ 255) : b * 256 + v < 256 ^ (i + 1) := by
  rw [Int.pow_succ]
  have : b + 1 ≤ 256 ^ i := h
  have h2 : (b + 1) * 256 ≤ 256 ^ i * 256 := Int.mul_le_mul_of_nonneg_right this (by decide)
  omega

set_option maxRecDepth 100000 in
set_option maxHeartbeats 4000000 in
theorem drawOf_any (a : Option Addr) (c : Nat) (bs : List Int) (w : World) (hn : bs.length ≤ 1048576) (hc : bs.length ≤ c) (hcm : c ≤ maxLen) (hnil : a = none → c = 0) (hr : RowAt .u8 w a bs) (hb : Dig 256 bs) :
    Calls Tryd.prog 9 #[.slice a bs.length c] w fun e w' => OfOut w e w' := by
  go_enter Tryd.func9, Tryd.ntmps9
  go_wp2_with fail
  refine (openF_any a c bs _ hn hc hcm hnil hr hb).mono ?_
  rintro e w1 ⟨rfl, hr1, hb1, hs1⟩
  have HB1 : Hid (Below w.heap.size w w1) := hb1
  have HR1 : Hid (Rs w.heap.size (bs.take 500) w1) := hr1
  clear hr1 hb1 hr hb hn hc hcm hnil
  go_wp2_with fail
  refine (nextF_any w.heap.size _ _ HR1.out).mono ?_
  rintro e w2 ⟨rfl, hk0, hk1, hr2, ha2⟩
  obtain ⟨rs, hrs⟩ : ∃ rs, rs = (bs.take 500).tail := ⟨_, rfl⟩
  rw [← hrs] at hr2
  obtain ⟨k, hk⟩ : ∃ k, k = (bs.take 500).headD 0 := ⟨_, rfl⟩
  rw [← hk] at hk0 hk1 ⊢
  have HR2 : Hid (Rs w.heap.size rs w2) := hr2
  have HB2 : Hid (Below w.heap.size w w2) := HB1.out.trans (ha2.below (Nat.le_refl _) (by omega))
  have hs2 : w.heap.size < w2.heap.size := hr2.lt
  have hjt : k.tmod 4 = k % 4 := Int.tmod_eq_emod_of_nonneg hk0
  clear hr2 ha2 hrs hk HR1 HB1
  by_cases hc : k % 4 = 0
  · have hc' : (k % 4 == 0) = true := by rw [beq_iff_eq]; exact hc
    clear hc
    go_wp2
    go_loopw [5, 6] (fun sb si wr => ∃ (i : Nat) (b : Int) (rs' : List Int), i ≤ 4 ∧ si = .int .i64 i ∧ sb = .int .u32 b ∧ 0 ≤ b ∧ Hid (b < 256 ^ i) ∧ Hid (Rs w.heap.size rs' wr) ∧ Hid (Below w.heap.size w wr)) (fun _ si _ => 4 - (intOf si).toNat)
    case atStart => exact ⟨0, 0, rs, by decide, rfl, rfl, by decide, (by decide : (0 : Int) < 256 ^ 0), HR2, HB2⟩
    case round =>
      obtain ⟨i, b, rs', hi, rfl, rfl, hb0, hbp, hRs, hBw⟩ := hrel
      by_cases hlt : i < 4
      · have hib : (i : Int) < 4 := by omega
        have hb24 := pow256 hbp.out hlt
        go_wp2_with fail
        refine (nextF_any w.heap.size rs' _ hRs.out).mono ?_
        rintro e w3 ⟨rfl, hv0, hv1, hr3, ha3⟩
        obtain ⟨v, hv⟩ : ∃ v, v = rs'.headD 0 := ⟨_, rfl⟩
        rw [← hv] at hv0 hv1 ⊢
        have HR3 : Hid (Rs w.heap.size rs'.tail w3) := hr3
        have HB3 : Hid (Below w.heap.size w w3) := hBw.out.trans (ha3.below (Nat.le_refl _) hBw.out.size)
        have HP : Hid (b * 256 + v < 256 ^ (i + 1)) := pow256_succ hbp.out hv1
        clear hr3 ha3 hv hRs hBw
        go_wp2
        go_roundw
        case rel => exact ⟨i + 1, b * 256 + v, rs'.tail, by omega, by go_num, by go_num, by omega, HP, HR3, HB3⟩
        case measure => simp [intOf]; omega
      · have hi4 : i = 4 := by omega
        subst hi4
        have hb32 : b < 4294967296 := hbp.out
        go_wp2
        go_ret
        exact ⟨b, rfl, hb0, hb32, hBw.out⟩
  · have hc' : (k % 4 == 0) = false := by rw [beq_eq_false_iff_ne]; exact hc
    clear hc
    go_wp2_with fail
    refine (drawBits_any w.heap.size true rs _ HR2.out).mono ?_
    rintro e w3 ⟨rfl, hB0, hB1, hr3, ha3⟩
    have HB3 : Hid (Below w.heap.size w w3) := HB2.out.trans (ha3.below (Nat.le_refl _) HB2.out.size)
    obtain ⟨B, hB⟩ : ∃ B, B = (bitsF true rs).1 := ⟨_, rfl⟩
    rw [← hB] at hB0 hB1 ⊢
    clear hr3 ha3 hB
    go_wp2
    go_ret
    exact ⟨B, rfl, hB0, hB1, HB3.out⟩

end Go.Proofs.YtladfpljnaippabDoor

/-
  How great the numbers are that the model's determinant meets.
-/
namespace Go.Proofs.YtladfpljnaippabDoor
open Go.RowKit

/-- m * 2^e: its exponent is at least -K, and it is less than 2^(B - K). -/
def Bd (K : Int) (B : Nat) (m e : Int) : Prop := 0 ≤ e + K ∧ (m = 0 → e = 0) ∧ m.natAbs * 2 ^ (e + K).toNat < 2 ^ B

theorem pow2d_pos (n : Nat) : 0 < 2 ^ n := Nat.pow_pos (by decide)

theorem Bd.top {K : Int} {B : Nat} {m e : Int} (h : Bd K B m e) (hK : K ≤ B) : e + K ≤ B := by
  obtain ⟨h1, h2, h3⟩ := h
  by_cases hm : m = 0
  · rw [h2 hm]
    omega
  · have h4 : 2 ^ (e + K).toNat < 2 ^ B := Nat.lt_of_le_of_lt (Nat.le_mul_of_pos_left _ (by omega)) h3
    have h5 := (Nat.pow_lt_pow_iff_right (by decide)).1 h4
    omega

theorem sg_abs {g : Bool} {v : Int} (hv : 0 ≤ v) : ((sg g v).natAbs : Int) = v := by
  unfold sg
  cases g <;> simp <;> omega

theorem pow32d (n : Nat) : (4294967296 : Int) ^ n = ((2 ^ (32 * n) : Nat) : Int) := by
  rw [Nat.pow_mul]
  simp

theorem Bd.len {K : Int} {B : Nat} {m e : Int} (h : Bd K B m e) {w : World} {g : Bool} {a : Option Addr} {c : Nat} {ds : List Int} (hL : L1 w g a c ds m) : ds.length ≤ B / 16 + 1 := by
  obtain ⟨_, _, h3⟩ := h
  have h4 : m.natAbs < 2 ^ B := Nat.lt_of_le_of_lt (Nat.le_mul_of_pos_right _ (pow2d_pos _)) h3
  have hv : ((m.natAbs : Nat) : Int) = val 65536 ds := by
    rw [hL.num]
    exact sg_abs (val_nonneg (by decide) hL.can.1)
  refine len_of_lt (B := 65536) (by decide) hL.can ?_
  rw [← hv]
  have h5 : (65536 : Int) ^ (B / 16 + 1) = ((2 ^ (16 * (B / 16 + 1)) : Nat) : Int) := by
    rw [Nat.pow_mul]
    simp
  rw [h5]
  have h6 : 2 ^ B ≤ 2 ^ (16 * (B / 16 + 1)) := Nat.pow_le_pow_right (by decide) (by omega)
  exact Int.ofNat_lt.2 (Nat.lt_of_lt_of_le h4 h6)

theorem Bd.neg {K : Int} {B : Nat} {m e : Int} (h : Bd K B m e) : Bd K B (-m) e :=
  ⟨h.1, fun hm => h.2.1 (by omega), by rw [Int.natAbs_neg]; exact h.2.2⟩

theorem Bd.of_norm {K : Int} {B : Nat} {x E m e : Int} {T : Nat} (hn : NormOf x E m e T) (hE : 0 ≤ E + K) (hK : 0 ≤ K) (h : x.natAbs * 2 ^ (E + K).toNat < 2 ^ B) : Bd K B m e := by
  rcases hn with ⟨h1, h2, h3⟩ | ⟨h1, t, h2, h3, h4, _⟩
  · rw [h2, h3]
    exact ⟨by omega, fun _ => rfl, by simp [pow2d_pos]⟩
  · refine ⟨by omega, (fun hm => by rw [hm] at h4; cases h4), ?_⟩
    rw [h2, Int.natAbs_mul, Int.natAbs_pow, Nat.mul_assoc] at h
    have h5 : (2 : Int).natAbs = 2 := rfl
    rw [h5, ← Nat.pow_add, show t + (E + K).toNat = (e + K).toNat by omega] at h
    exact h

theorem Bd.mul {K K' : Int} {B B' : Nat} {m m' e e' m3 e3 : Int} {T : Nat} (h : Bd K B m e) (h' : Bd K' B' m' e') (hK : 0 ≤ K + K') (hn : NormOf (m * m') (e + e') m3 e3 T) : Bd (K + K') (B + B') m3 e3 := by
  obtain ⟨h1, _, h3⟩ := h
  obtain ⟨g1, _, g3⟩ := h'
  refine Bd.of_norm hn (by omega) hK ?_
  rw [show e + e' + (K + K') = (e + K) + (e' + K') by omega, show (e + K + (e' + K')).toNat = (e + K).toNat + (e' + K').toNat by omega, Nat.pow_add, Nat.pow_add, Int.natAbs_mul]
  have h4 : m.natAbs * m'.natAbs * (2 ^ (e + K).toNat * 2 ^ (e' + K').toNat) = (m.natAbs * 2 ^ (e + K).toNat) * (m'.natAbs * 2 ^ (e' + K').toNat) := by
    simp only [Nat.mul_assoc, Nat.mul_left_comm]
  rw [h4]
  exact Nat.mul_lt_mul'' h3 g3

/-- A sum of k such numbers. -/
def Sm (B k : Nat) (m e : Int) : Prop := 0 ≤ e + 60000 ∧ e ≤ 0 ∧ m.natAbs * 2 ^ (e + 60000).toNat ≤ k * 2 ^ B

theorem Sm.add {B k : Nat} {m e m' e' : Int} (h : Sm B k m e) (h' : Bd 60000 B m' e') : Sm B (k + 1) (sumAt m e m' e') (min e e') := by
  obtain ⟨h1, h2, h3⟩ := h
  obtain ⟨g1, _, g3⟩ := h'
  refine ⟨by omega, by omega, ?_⟩
  have h4 := sumAt_at (K := 60000) (m := m) (e := e) (m' := m') (e' := e') h1 g1
  have h5 : (sumAt m e m' e' * 2 ^ (min e e' + 60000).toNat).natAbs ≤ m.natAbs * 2 ^ (e + 60000).toNat + m'.natAbs * 2 ^ (e' + 60000).toNat := by
    rw [h4]
    refine Nat.le_trans (Int.natAbs_add_le _ _) ?_
    unfold atK
    rw [Int.natAbs_mul, Int.natAbs_mul, Int.natAbs_pow, Int.natAbs_pow]
    exact Nat.le_refl _
  rw [Int.natAbs_mul, Int.natAbs_pow] at h5
  have h6 : (2 : Int).natAbs = 2 := rfl
  rw [h6] at h5
  rw [Nat.add_mul, Nat.one_mul]
  omega

theorem Sm.len {B k : Nat} {m e : Int} (h : Sm B k m e) (hk : k ≤ 6) {w : World} {g : Bool} {a : Option Addr} {c : Nat} {ds : List Int} (hL : L1 w g a c ds m) : ds.length ≤ (B + 3) / 16 + 1 := by
  obtain ⟨h1, h2, h3⟩ := h
  by_cases hm : m = 0
  · subst hm
    exact Bd.len (K := 0) (e := 0) ⟨by omega, fun _ => rfl, by simp [pow2d_pos]⟩ hL
  · refine Bd.len (K := 60000 - (e + 60000)) (e := e) ⟨by omega, fun hm' => absurd hm' hm, ?_⟩ hL
    rw [show e + (60000 - (e + 60000)) = 0 by omega]
    have h4 : m.natAbs ≤ k * 2 ^ B := Nat.le_trans (Nat.le_mul_of_pos_right _ (pow2d_pos _)) h3
    have h5 : k * 2 ^ B ≤ 6 * 2 ^ B := Nat.mul_le_mul_right _ hk
    have h6 : 2 ^ (B + 3) = 2 ^ B * 8 := by rw [Nat.pow_add]
    have h7 := pow2d_pos B
    have h8 : m.natAbs * 2 ^ Int.toNat 0 = m.natAbs := by simp
    omega

theorem lt_mul_pow {x a b q : Nat} (h5 : x < 2 ^ a) (h : q ≤ b) : x * 2 ^ q < 2 ^ (a + b) := by
  rw [Nat.pow_add]
  exact Nat.lt_of_lt_of_le (Nat.mul_lt_mul_of_pos_right h5 (pow2d_pos _)) (Nat.mul_le_mul_left _ (Nat.pow_le_pow_right (by decide) h))

/-- A valid number. -/
theorem Bd.of_valid2 {p q : Nat} (hp : p = 16384) (hq : q = 40000) {g : Bool} {zs : List Int} {E m e : Int} {T : Nat} (hd : Dig 4294967296 zs) (hn : zs.length ≤ 512) (hE : -20000 ≤ E) (hE' : E ≤ 20000) (h : NormOf (sg g (val 4294967296 zs)) E m e T) : Bd 20000 (p + q) m e := by
  refine Bd.of_norm h (by omega) (by decide) ?_
  have h1 : ((sg g (val 4294967296 zs)).natAbs : Int) = val 4294967296 zs := sg_abs (val_nonneg (by decide) hd)
  have h2 := val_lt_pow (B := 4294967296) (by decide) hd
  obtain ⟨n5, hn5⟩ : ∃ n5 : Nat, n5 = 512 := ⟨_, rfl⟩
  have h3 : (4294967296 : Int) ^ zs.length ≤ 4294967296 ^ n5 := pow_mono (by decide) (by omega)
  rw [pow32d n5, show 32 * n5 = p by omega] at h3
  have h5 : (sg g (val 4294967296 zs)).natAbs < 2 ^ p := Int.ofNat_lt.1 (by rw [h1]; exact Int.lt_of_lt_of_le h2 h3)
  exact lt_mul_pow h5 (by omega)

theorem Bd.of_valid {A : Nat} (hA : A = 56384) {g : Bool} {zs : List Int} {E m e : Int} {T : Nat} (hd : Dig 4294967296 zs) (hn : zs.length ≤ 512) (hE : -20000 ≤ E) (hE' : E ≤ 20000) (h : NormOf (sg g (val 4294967296 zs)) E m e T) : Bd 20000 A m e := by
  obtain ⟨p, hp⟩ : ∃ p : Nat, p = 16384 := ⟨_, rfl⟩
  obtain ⟨q, hq⟩ : ∃ q : Nat, q = 40000 := ⟨_, rfl⟩
  have h1 := Bd.of_valid2 hp hq hd hn hE hE' h
  rw [show p + q = A by omega] at h1
  exact h1

end Go.Proofs.YtladfpljnaippabDoor

/-
  The model's negatives.
-/
namespace Go.Proofs.YtladfpljnaippabDoor
open Go.RowKit

set_option maxHeartbeats 1000000 in
theorem neg_any (g : Bool) (a : Option Addr) (c : Nat) (ds : List Int) (x : Int) (w : World) (hn : ds.length ≤ 1048576) (h : L1 w g a c ds x) :
    Calls Tryd.prog 94 #[.agg #[.bool g, .slice a ds.length c]] w fun e w' => ∃ g' ds', e = .returned (.agg #[.bool g', .slice a ds'.length c]) ∧ ds'.length ≤ ds.length ∧ L1 w' g' a c ds' (-x) ∧ Below w.heap.size w w' := by
  have hx : sg (!g) (val 65536 ds) = -x := by rw [sg_not, h.num]
  have HX : Hid (sg (!g) (val 65536 ds) = -x) := hx
  clear hx
  go_enter Tryd.func94, Tryd.ntmps94
  go_wp2_with fail
  refine (make_any (!g) a c ds _ hn h.cap (h.sl.later (bel2 _ _ _)) h.can.1).mono ?_
  rintro e w1 ⟨g', ds', rfl, hle, hL, hb1⟩
  have hb2 := hb1
  simp at hb2
  have r1 : w1.cell? ⟨w.heap.size + 1, 0, none⟩ = some (.bool false) := by rw [(bcell hb1).1 _ _ (by simp)]; simp [go_sem]
  have r2 : w1.cell? ⟨w.heap.size + 1, 1, none⟩ = some (.slice none 0 0) := by rw [(bcell hb1).1 _ _ (by simp)]; simp [go_sem]
  have r3 : ∀ j, w1.frozen? ⟨w.heap.size + 1, j, none⟩ = false := by intro j; rw [(bcell hb1).2 _ _ (by simp)]; simp [go_sem]
  have HB : Hid (Below w.heap.size w w1) := (bel2 _ _ _).trans (hb1.mono (by simp; omega))
  rw [HX.out] at hL
  have HL : Hid (L1 w1 g' a c ds' (-x)) := hL
  clear hL hb1 hb2
  go_wp2
  refine bodyPost_ret (v := .agg #[.bool g', .slice a ds'.length c]) (by simp [results, Tryd.results94, go_sem, r1, r2]) rfl ⟨g', ds', rfl, hle, ?_, ?_⟩
  · exact (HL.out.setNew h.sl.row hle (by simp) _).setNew h.sl.row hle (by simp) _
  · exact (HB.out.setCell (by simp) _).setCell (by simp) _

end Go.Proofs.YtladfpljnaippabDoor

/-
  The model's differences.
-/
namespace Go.Proofs.YtladfpljnaippabDoor
open Go.RowKit

end Go.Proofs.YtladfpljnaippabDoor

/-
  The model's dyadic numbers: negatives.
-/
namespace Go.Proofs.YtladfpljnaippabDoor
open Go.RowKit

set_option maxHeartbeats 4000000 in
theorem neg2_any (g : Bool) (a : Option Addr) (c : Nat) (ds : List Int) (m E : Int) (w : World) (hn : ds.length ≤ 1048576) (h : L1 w g a c ds m) :
    Calls Tryd.prog 57 #[.agg #[.bool g, .slice a ds.length c, .int .i64 E]] w fun e w' => ∃ g' ds', e = .returned (.agg #[.bool g', .slice a ds'.length c, .int .i64 E]) ∧ ds'.length ≤ ds.length ∧ L1 w' g' a c ds' (-m) ∧ Below w.heap.size w w' := by
  have B0 : Hid (∀ t t', Bx3 w (.bool g) (.slice a ds.length c) (.int .i64 E) ((w.alloc (.cells #[.bool g, .slice a ds.length c, .int .i64 E] t)).alloc (.cells #[.bool false, .slice none 0 0, .int .i64 0] t'))) := fun t t' => Bx3.start w _ _ _ _ _
  go_enter Tryd.func57, Tryd.ntmps57
  go_wp2
  obtain ⟨W0, hW0⟩ : ∃ W0, W0 = ((w.alloc (.cells #[.bool g, .slice a ds.length c, .int .i64 E] 66)).alloc (.cells #[.bool false, .slice none 0 0, .int .i64 0] 66)) := ⟨_, rfl⟩
  have F : Hid (Bx3 w (.bool g) (.slice a ds.length c) (.int .i64 E) W0) := by unfold Hid; rw [hW0]; exact B0.out _ _
  rw [← hW0]
  clear hW0 B0
  have zz : w.heap.size + 1 < W0.heap.size := F.out.le
  go_region_held3 (fun w' => w'.cell? ⟨w.heap.size, 0, none⟩ = some (.bool g) ∧ w'.cell? ⟨w.heap.size, 1, none⟩ = some (.slice a ds.length c) ∧ w'.cell? ⟨w.heap.size, 2, none⟩ = some (.int .i64 E) ∧ Below (w.heap.size + 1) W0 w')
    (first | exact F.out.held (Below.refl _ _).drew | exact F.out.held (by assumption) | exact F.out.held (Below.setCell (Below.setCell (Below.setCell (by assumption) (by simp) _) (by simp) _) (by simp) _))
    (first
      | (go_at_call 94; refine (neg_any g a c ds m _ hn (h.later F.out.bel.drew)).mono ?_; rintro e w2 ⟨g2, ds2, rfl, hl2, hL2, hb2⟩; have hB2 : Below W0.heap.size W0 w2 := (Below.refl _ _).drew.trans hb2; have hB2' : Below (w.heap.size + 1) W0 w2 := hB2.mono (by omega); have F2 : Hid (Bx3 w (.bool g) (.slice a ds.length c) (.int .i64 E) w2) := F.out.later hB2; have r1 := F2.out.r1; have r2 := F2.out.r2; have r3 := F2.out.r3; have r4 := F2.out.r4))
  have HL2 : Hid (L1 w2 g2 a c ds2 (-m)) := hL2
  clear hL2 hB2 hB2' hb2
  go_wp2
  refine bodyPost_ret (v := .agg #[.bool g2, .slice a ds2.length c, .int .i64 E]) (by simp [results, Tryd.results57, go_sem, r1, r2, r3]) rfl ?_
  refine ⟨g2, ds2, rfl, by omega, ?_, ?_⟩
  · exact ((HL2.out.setNew h.sl.row hl2 (by simp) _).setNew h.sl.row hl2 (by simp) _).setNew h.sl.row hl2 (by simp) _
  · exact ((F2.out.bel.setCell (by simp) _).setCell (by simp) _).setCell (by simp) _

end Go.Proofs.YtladfpljnaippabDoor

/-
  Plain mathematics: products, digit by digit.
-/
namespace Go.Proofs.YtladfpljnaippabDoor

/-- x times the digits ys, added to the digits ms. -/
def mulsL (x : Int) : List Int → List Int → List Int
  | [], _ => []
  | y :: ys, [] => (x * y) :: mulsL x ys []
  | y :: ys, m :: ms => (x * y + m) :: mulsL x ys ms

theorem muls_length (x : Int) : ∀ ys ms : List Int, (mulsL x ys ms).length = ys.length
  | [], _ => rfl
  | y :: ys, [] => by simp only [mulsL, List.length_cons, muls_length x ys []]
  | y :: ys, m :: ms => by simp only [mulsL, List.length_cons, muls_length x ys ms]

theorem val_muls (B x : Int) : ∀ ys ms : List Int, val B (mulsL x ys ms) = x * val B ys + val B (ms.take ys.length)
  | [], _ => by simp [mulsL, val]
  | y :: ys, [] => by
    have ih := val_muls B x ys []
    simp only [mulsL, val, ih, List.take_nil, Int.add_zero, Int.mul_add]
    rw [Int.mul_left_comm]
  | y :: ys, m :: ms => by
    have ih := val_muls B x ys ms
    simp only [mulsL, val, ih, List.length_cons, List.take_succ_cons, Int.mul_add]
    rw [Int.mul_left_comm x B]
    omega

theorem muls_drop (x : Int) {ys ms : List Int} {j : Nat} (h : j < ys.length) : mulsL x (ys.drop j) (ms.drop j) = (x * ys.getD j 0 + ms.getD j 0) :: mulsL x (ys.drop (j + 1)) (ms.drop (j + 1)) := by
  rw [List.drop_eq_getElem_cons h]
  by_cases h2 : j < ms.length
  · rw [List.drop_eq_getElem_cons h2]
    simp [mulsL, List.getD_eq_getElem?_getD, h, h2]
  · rw [List.drop_eq_nil_of_le (show ms.length ≤ j by omega), List.drop_eq_nil_of_le (show ms.length ≤ j + 1 by omega)]
    rw [List.getD_eq_getElem?_getD, List.getD_eq_getElem?_getD, List.getElem?_eq_none (show ms.length ≤ j by omega), List.getElem?_eq_getElem h]
    simp [mulsL]

theorem mul_step {B x c s : Int} {ys ms : List Int} {j : Nat} (h : j < ys.length) (hs : s = x * ys.getD j 0 + ms.getD j 0 + c) :
    carryD B (mulsL x (ys.drop j) (ms.drop j)) c = s % B :: carryD B (mulsL x (ys.drop (j + 1)) (ms.drop (j + 1))) (s / B) ∧ carryO B (mulsL x (ys.drop j) (ms.drop j)) c = carryO B (mulsL x (ys.drop (j + 1)) (ms.drop (j + 1))) (s / B) := by
  rw [muls_drop x h, hs]
  exact ⟨rfl, rfl⟩

theorem mul_bound {B x y : Int} (h0 : 0 ≤ x) (h1 : x < B) (h2 : 0 ≤ y) (h3 : y < B) : 0 ≤ x * y ∧ x * y ≤ (B - 1) * (B - 1) :=
  ⟨Int.mul_nonneg h0 h2, Int.mul_le_mul (by omega) (by omega) h2 (by omega)⟩

theorem carry_bound {B s : Int} (hB : 0 < B) (h0 : 0 ≤ s) (h1 : s ≤ (B - 1) * (B - 1) + (B - 1) + (B - 1)) : 0 ≤ s / B ∧ s / B ≤ B - 1 := by
  refine ⟨Int.ediv_nonneg h0 (by omega), ?_⟩
  have : s / B < B := by
    refine Int.ediv_lt_of_lt_mul hB ?_
    have e : (B - 1) * (B - 1) = B * B - B - B + 1 := by
      rw [Int.sub_mul, Int.mul_sub]
      omega
    omega
  omega

/-- One row of a product: the digits i .. of P gain x times ys. -/
theorem row_step {B x : Int} {P ys : List Int} {i : Nat} {D : List Int} {c : Int} (hl : i + ys.length < P.length) (hD : D = carryD B (mulsL x ys (P.drop i)) 0) (hc : c = carryO B (mulsL x ys (P.drop i)) 0) (h0 : P.getD (i + ys.length) 0 = 0) :
    val B (P.take i ++ ((D ++ [c]) ++ P.drop (i + ys.length + 1))) = val B P + B ^ i * (x * val B ys) := by
  have hti : (P.take i).length = i := by rw [List.length_take]; omega
  have hDl : (D ++ [c]).length = ys.length + 1 := by rw [hD, List.length_append, carryD_length, muls_length]; rfl
  have e1 : val B (D ++ [c]) = x * val B ys + val B ((P.drop i).take ys.length) := by rw [hD, hc, val_carryDO, val_muls]; omega
  have e2 : val B P = val B (P.take i) + B ^ i * (val B ((P.drop i).take ys.length) + B ^ ys.length * val B (P.drop (i + ys.length))) := by
    have a1 := val_append B (P.drop i) (P.take i)
    rw [List.take_append_drop, hti] at a1
    have a2 := val_append B ((P.drop i).drop ys.length) ((P.drop i).take ys.length)
    rw [List.take_append_drop] at a2
    have hl2 : ((P.drop i).take ys.length).length = ys.length := by rw [List.length_take, List.length_drop]; omega
    rw [hl2, List.drop_drop] at a2
    rw [a1, a2]
  have e3 : val B (P.drop (i + ys.length)) = B * val B (P.drop (i + ys.length + 1)) := by
    rw [List.drop_eq_getElem_cons hl]
    have : P[i + ys.length] = 0 := by simpa [List.getD_eq_getElem?_getD, hl] using h0
    rw [this]
    simp [val]
  rw [val_append, hti, val_append, hDl, e1, e2, e3, Int.pow_succ]
  simp only [Int.mul_add]
  rw [Int.mul_assoc (B ^ ys.length) B]
  omega

theorem val_take_succ {B : Int} {zs : List Int} {i : Nat} (h : i < zs.length) : val B (zs.take (i + 1)) = val B (zs.take i) + B ^ i * zs.getD i 0 := by
  rw [List.take_succ_eq_append_getElem h, val_append]
  have hti : (zs.take i).length = i := by rw [List.length_take]; omega
  rw [hti]
  simp [val, List.getD_eq_getElem?_getD, h]

/-- What the rows so far have made of the product. -/
structure Prod (B : Int) (zs ys : List Int) (L i : Nat) (P : List Int) : Prop where
  dig : Dig B P
  len : P.length = L
  eq : val B P = val B (zs.take i) * val B ys
  up : ∀ j, i + ys.length ≤ j → P.getD j 0 = 0

theorem prod_start (B : Int) (hB : 0 < B) (zs ys : List Int) (L : Nat) : Prod B zs ys L 0 (List.replicate L 0) := by
  refine ⟨fun z hz => ?_, by simp, ?_, fun j _ => ?_⟩
  · rw [List.eq_of_mem_replicate hz]; exact ⟨Int.le_refl 0, hB⟩
  · have : ∀ n : Nat, val B (List.replicate n 0) = 0 := by
      intro n
      induction n with
      | zero => rfl
      | succ n ih => simp [List.replicate_succ, val, ih]
    rw [this]
    simp [val]
  · by_cases hj : j < L
    · simp [List.getD_eq_getElem?_getD, hj]
    · simp [List.getD_eq_getElem?_getD, hj]

theorem prod_step {B x c : Int} (hB : 1 < B) {zs ys P D : List Int} {L i : Nat} (h : Prod B zs ys L i P) (hi : i < zs.length) (hL : i + ys.length < L) (hx : x = zs.getD i 0) (hD : D = carryD B (mulsL x ys (P.drop i)) 0) (hc : c = carryO B (mulsL x ys (P.drop i)) 0) (hc0 : 0 ≤ c) (hc1 : c < B) :
    Prod B zs ys L (i + 1) (P.take i ++ ((D ++ [c]) ++ P.drop (i + ys.length + 1))) := by
  have hl : i + ys.length < P.length := by rw [h.len]; exact hL
  have hti : (P.take i).length = i := by rw [List.length_take]; omega
  have hDl : (D ++ [c]).length = ys.length + 1 := by rw [hD, List.length_append, carryD_length, muls_length]; rfl
  refine ⟨?_, ?_, ?_, ?_⟩
  · exact (h.dig.take i).append (((by rw [hD]; exact dig_carryD (by omega) _ _ : Dig B D).append (Dig.cons hc0 hc1 (Dig.nil B))).append (h.dig.drop _))
  · rw [List.length_append, List.length_append, hti, hDl, List.length_drop, h.len]; omega
  · rw [row_step hl hD hc (h.up _ (Nat.le_refl _)), h.eq, val_take_succ hi, Int.add_mul, hx, Int.mul_assoc]
  · intro j hj
    rw [List.getD_eq_getElem?_getD, List.getElem?_append_right (by rw [hti]; omega), List.getElem?_append_right (by rw [hti, hDl]; omega), hti, hDl, List.getElem?_drop, ← List.getD_eq_getElem?_getD]
    exact h.up _ (by omega)

/-- The product's own row while a row of digits is being added. -/
theorem mid_get {P D : List Int} {i j k : Nat} (hi : i + j ≤ k) (hD : D.length = j) (hP : i ≤ P.length) : (P.take i ++ (D ++ P.drop (i + j))).getD k 0 = P.getD k 0 := by
  have hti : (P.take i).length = i := by rw [List.length_take]; omega
  rw [List.getD_eq_getElem?_getD, List.getElem?_append_right (by omega), List.getElem?_append_right (by omega), hti, hD, List.getElem?_drop, List.getD_eq_getElem?_getD]
  congr 2
  omega

theorem mid_set {P D : List Int} {i j : Nat} {d : Int} (hD : D.length = j) (hP : i + j < P.length) : (P.take i ++ (D ++ P.drop (i + j))).set (i + j) d = P.take i ++ ((D ++ [d]) ++ P.drop (i + j + 1)) := by
  have hti : (P.take i).length = i := by rw [List.length_take]; omega
  have e := List.drop_eq_getElem_cons hP
  rw [List.set_append_right _ _ (by omega), hti, show i + j - i = j by omega, List.set_append_right _ _ (by omega), hD, Nat.sub_self, e, List.set_cons_zero, List.append_assoc D [d]]
  rfl

theorem mid_length {P D : List Int} {i j : Nat} (hD : D.length = j) (hP : i + j ≤ P.length) : (P.take i ++ (D ++ P.drop (i + j))).length = P.length := by
  rw [List.length_append, List.length_append, List.length_take, List.length_drop]; omega

end Go.Proofs.YtladfpljnaippabDoor

/-
  The model's products.
-/
namespace Go.Proofs.YtladfpljnaippabDoor
open Go.RowKit

theorem sg_mulS (g g' : Bool) (u v : Int) : sg (!(g == g')) (u * v) = sg g u * sg g' v := by
  cases g <;> cases g' <;> simp [sg, Int.neg_mul, Int.mul_neg]

/-- Where the inner loop of l1mul stands: j digits done; or all, and the last carry written behind them. -/
def MulAt (x : Int) (es Pi D : List Int) (j : Nat) (c : Int) : Prop :=
  (j ≤ es.length ∧ carryD 65536 (mulsL x es Pi) 0 = D ++ carryD 65536 (mulsL x (es.drop j) (Pi.drop j)) c ∧ carryO 65536 (mulsL x es Pi) 0 = carryO 65536 (mulsL x (es.drop j) (Pi.drop j)) c) ∨
  (j = es.length + 1 ∧ c = 0 ∧ D = carryD 65536 (mulsL x es Pi) 0 ++ [carryO 65536 (mulsL x es Pi) 0])

/-- The row is done. -/
theorem MulAt.fin {x c : Int} {ds es P D : List Int} {i j L : Nat} (h : MulAt x es (P.drop i) D j c) (hj : ¬ j < es.length) (hc : c = 0) (hDl : D.length = j) (hP : Prod 65536 ds es L i P) (hi : i < ds.length) (hL : i + es.length < L) (hx : x = ds.getD i 0)
    (hcb : 0 ≤ carryO 65536 (mulsL x es (P.drop i)) 0 ∧ carryO 65536 (mulsL x es (P.drop i)) 0 < 65536) : Prod 65536 ds es L (i + 1) (P.take i ++ (D ++ P.drop (i + j))) := by
  have hl : i + es.length < P.length := by rw [hP.len]; exact hL
  rcases h with ⟨h1, h2, h3⟩ | ⟨h1, _, h3⟩
  · have hjn : j = es.length := by omega
    subst hjn hc
    have hD : D = carryD 65536 (mulsL x es (P.drop i)) 0 := by rw [h2, List.drop_eq_nil_of_le (Nat.le_refl _)]; simp [mulsL, carryD]
    have hO : carryO 65536 (mulsL x es (P.drop i)) 0 = 0 := by rw [h3, List.drop_eq_nil_of_le (Nat.le_refl _)]; simp [mulsL, carryO]
    have h := prod_step (by decide) hP hi hL hx hD rfl hcb.1 hcb.2
    rw [hO] at h
    have e : D ++ P.drop (i + es.length) = (D ++ [0]) ++ P.drop (i + es.length + 1) := by
      rw [List.drop_eq_getElem_cons hl]
      have : P[i + es.length] = 0 := by simpa [List.getD_eq_getElem?_getD, hl] using hP.up (i + es.length) (Nat.le_refl _)
      rw [this, List.append_assoc]
      rfl
    rw [e]
    exact h
  · subst h1 h3
    have h := prod_step (by decide) hP hi hL hx rfl rfl hcb.1 hcb.2
    exact h

theorem carryO_muls {B x : Int} (hB : 1 < B) (h0 : 0 ≤ x) (h1 : x < B) {ys ms : List Int} (hy : Dig B ys) (hm : Dig B ms) : 0 ≤ carryO B (mulsL x ys ms) 0 ∧ carryO B (mulsL x ys ms) 0 < B := by
  have hmem : ∀ (ys ms : List Int), Dig B ys → Dig B ms → ∀ s, s ∈ mulsL x ys ms → 0 ≤ s ∧ s ≤ (B - 1) * (B - 1) + (B - 1) := by
    intro ys
    induction ys with
    | nil => intro ms _ _ s hs; simp [mulsL] at hs
    | cons y ys ih =>
      intro ms hy hm s hs
      have hb := mul_bound h0 h1 hy.head.1 hy.head.2
      cases ms with
      | nil =>
        rcases List.mem_cons.1 hs with rfl | hs
        · omega
        · exact ih [] hy.tail hm s hs
      | cons m ms =>
        have := hm.head
        rcases List.mem_cons.1 hs with rfl | hs
        · omega
        · exact ih ms hy.tail hm.tail s hs
  have h := carryO_mem (B := B) (lo := 0) (hi := B - 1) (mulsL x ys ms) 0 (Int.le_refl 0) (by omega) (by
    intro s hs c hc0 hc1
    have hb := hmem ys ms hy hm s hs
    exact carry_bound (by omega) (by omega) (by omega))
  omega

theorem AddF.mid {w : World} {g g' : Bool} {v v' z : Value} {W W' : World} (h : AddF w g g' v v' z W) (hb : Below (w.heap.size + 1 + 1 + 1) W W') : AddF w g g' v v' z W' := by
  obtain ⟨a1, a2, a3, a4, _⟩ := addS_of h.s (hb.mono (by omega))
  exact ⟨⟨a1, a2, a3, a4, Below.refl _ _⟩, (hb.cell (by simp)).trans h.r1, (hb.cell (by simp)).trans h.r2, fun j => (hb.frozen (by simp)).trans (h.r3 j), Nat.le_trans h.le hb.size, h.bel.trans (hb.mono (by omega))⟩

set_option maxHeartbeats 8000000 in
theorem mul_any (g g' : Bool) (a a' : Option Addr) (c c' : Nat) (ds es : List Int) (x y : Int) (w : World) (hn : ds.length ≤ 100000) (hn' : es.length ≤ 100000) (h : L1 w g a c ds x) (h' : L1 w g' a' c' es y) :
    Calls Tryd.prog 85 #[.agg #[.bool g, .slice a ds.length c], .agg #[.bool g', .slice a' es.length c']] w fun e w' => ∃ g2 a2 c2 fs, e = .returned (.agg #[.bool g2, .slice a2 fs.length c2]) ∧ fs.length ≤ ds.length + es.length + 1 ∧ L1 w' g2 a2 c2 fs (x * y) ∧ Far w.heap.size a2 fs ∧ Below w.heap.size w w' := by
  have hmk := run_make_row' (P := Tryd.prog) 62 3 (.int .i64 0) 8 Tryd.underlying62 Tryd.info3 rfl .i64 .i64 (ds.length + es.length + 1) (by omega) (by omega)
  rw [show ((ds.length + es.length + 1 : Nat) : Int) = (ds.length : Int) + (es.length : Int) + 1 by omega] at hmk
  have HX : Hid (sg (!(g == g')) (val 65536 ds * val 65536 es) = x * y) := by unfold Hid; rw [sg_mulS, h.num, h'.num]
  have hdz := h.can.1
  have hdy := h'.can.1
  have hz := h.sl.row
  have hy := h'.sl.row
  clear h h'
  go_enter Tryd.func85, Tryd.ntmps85
  go_wp2
  obtain ⟨W0, hW0⟩ : ∃ W0, W0 = (((w.alloc (.cells #[.bool g, .slice a ds.length c] 64)).alloc (.cells #[.bool g', .slice a' es.length c'] 64)).alloc (.cells #[.bool false, .slice none 0 0] 64)) := ⟨_, rfl⟩
  have F : Hid (AddF w g g' (.slice a ds.length c) (.slice a' es.length c') (.slice none 0 0) W0) := by rw [hW0]; exact AddF.start w g g' _ _ _ _ _ _
  have hS : w.heap.size + 1 + 1 + 1 = W0.heap.size := by rw [hW0]; simp
  rw [← hW0]
  have HS0 : Hid (Own .i64 (W0.alloc (.cells (madeCells #[.int .i64 0] (ds.length + es.length + 1)) 3)) (w.heap.size + 1 + 1 + 1) 0 (List.replicate (ds.length + es.length + 1) 0)) := by unfold Hid; rw [hS]; exact Own.made W0 _ _
  have HB0 : Hid (Below (w.heap.size + 1 + 1 + 1) W0 (W0.alloc (.cells (madeCells #[.int .i64 0] (ds.length + es.length + 1)) 3))) := by unfold Hid; rw [hS]; exact bel0 _ _
  clear hW0 hS
  go_loopw [6] (fun t wr => ∃ (i : Nat) (P : List Int), i ≤ ds.length ∧ t = .int .i64 i ∧ Hid (Prod 65536 ds es (ds.length + es.length + 1) i P) ∧ Own .i64 wr (w.heap.size + 1 + 1 + 1) 0 P ∧ Below (w.heap.size + 1 + 1 + 1) W0 wr) (fun t _ => ds.length - (intOf t).toNat)
  case atStart => exact ⟨0, _, Nat.zero_le _, rfl, prod_start _ (by decide) _ _ _, HS0.out, HB0.out⟩
  case round =>
    obtain ⟨i, P, hi, rfl, hP, hown, hnx⟩ := hrel
    clear HS0 HB0
    by_cases hlt : i < ds.length
    · have hb1 := hdz.at (by decide) i
      have F1 : Hid (AddF w g g' (.slice a ds.length c) (.slice a' es.length c') (.slice none 0 0) wr) := F.out.mid hnx
      obtain ⟨x1, hx⟩ : ∃ x1, x1 = ds.getD i 0 := ⟨_, rfl⟩
      rw [← hx] at hb1
      obtain ⟨hb10, hb11⟩ := hb1
      have HX1 : Hid (x1 = ds.getD i 0) := hx
      have hPl : P.length = ds.length + es.length + 1 := hP.out.len
      have HPl : Hid (P.length = ds.length + es.length + 1) := hPl
      have HO : Hid (Own .i64 wr (w.heap.size + 1 + 1 + 1) 0 P) := hown
      have HN : Hid (Below (w.heap.size + 1 + 1 + 1) W0 wr) := hnx
      have s1 := F1.out.s.2.1
      have HOB := carryO_muls (B := 65536) (by decide) hb10 hb11 hdy (hP.out.dig.drop i)
      have HOB : Hid (0 ≤ carryO 65536 (mulsL x1 es (P.drop i)) 0 ∧ carryO 65536 (mulsL x1 es (P.drop i)) 0 < 65536) := HOB
      clear hx hPl hown hnx
      go_wp2
      clear s1 F1
      go_loopw [7, 8] (fun cc t wq => ∃ (j : Nat) (cv : Int) (D : List Int), j ≤ es.length + 1 ∧ D.length = j ∧ t = .int .i64 j ∧ cc = .int .i64 cv ∧ 0 ≤ cv ∧ cv ≤ 65535 ∧ Hid (MulAt x1 es (P.drop i) D j cv) ∧
          Own .i64 wq (w.heap.size + 1 + 1 + 1) 0 (P.take i ++ (D ++ P.drop (i + j))) ∧ Below (w.heap.size + 1 + 1 + 1) W0 wq) (fun _ t _ => es.length + 1 - (intOf t).toNat)
      case atStart => exact ⟨0, 0, [], Nat.zero_le _, rfl, rfl, rfl, by decide, by decide, .inl ⟨Nat.zero_le _, rfl, rfl⟩, by simpa using HO.out, HN.out⟩
      case round =>
        obtain ⟨j, cv, D, hj, hDl, rfl, rfl, hc0, hc1, hM, hown, hnx⟩ := hrel
        have F1 : Hid (AddF w g g' (.slice a ds.length c) (.slice a' es.length c') (.slice none 0 0) wr) := F.out.mid hnx
        have s1 := F1.out.s.2.1
        have s3 := F1.out.s.2.2.2.1
        have hbw : Below w.heap.size w wr := F1.out.bel
        by_cases hlt2 : j < es.length
        · have hb2 := hdy.at (by decide) j
          obtain ⟨b, off, rfl, g1⟩ := row_cell hz hbw hlt
          obtain ⟨b', off', rfl, g2⟩ := row_cell hy hbw hlt2
          rw [← HX1.out] at g1
          obtain ⟨y1, hyy⟩ : ∃ y1, y1 = es.getD j 0 := ⟨_, rfl⟩
          rw [← hyy] at hb2 g2
          obtain ⟨hb20, hb21⟩ := hb2
          have hij : i + j < P.length := by rw [HPl.out]; omega
          have hbm := hP.out.dig.at (by decide) (i + j)
          have g3 := hown.cell (i + j) (by rw [mid_length hDl (by omega)]; exact hij)
          have g4 := hown.free (i + j) (by rw [mid_length hDl (by omega)]; exact hij)
          rw [Nat.zero_add] at g3 g4
          rw [mid_get (Nat.le_refl _) hDl (by omega)] at g3
          obtain ⟨m, hm⟩ : ∃ m, m = P.getD (i + j) 0 := ⟨_, rfl⟩
          rw [← hm] at hbm g3
          obtain ⟨hbm0, hbm1⟩ := hbm
          obtain ⟨hxy0, hxy1⟩ := mul_bound hb10 hb11 hb20 hb21
          simp only [Int.reduceSub, Int.reduceMul] at hxy1
          have hcb := carry_bound (B := 65536) (s := m + cv + x1 * y1) (by decide) (by omega) (by simp only [Int.reduceSub, Int.reduceMul]; omega)
          have hst := mul_step (B := 65536) (x := x1) (c := cv) (s := m + cv + x1 * y1) (ms := P.drop i) hlt2 (by rw [← hyy, List.getD_eq_getElem?_getD, List.getElem?_drop, ← List.getD_eq_getElem?_getD, ← hm]; omega)
          have HM : Hid (MulAt x1 es (P.drop i) (D ++ [(m + cv + x1 * y1) % 65536]) (j + 1) ((m + cv + x1 * y1) / 65536)) := by
            rcases hM.out with ⟨h1, h2, h3⟩ | ⟨h1, _, _⟩
            · refine .inl ⟨by omega, ?_, ?_⟩
              · rw [h2, hst.1]; simp
              · rw [h3, hst.2]
            · omega
          have hs := hown.set (i + j) ((m + cv + x1 * y1) % 65536) (by rw [mid_length hDl (by omega)]; exact hij)
          rw [Nat.zero_add, mid_set hDl hij] at hs
          have HS : Hid (Own .i64 (wr.setCell ⟨w.heap.size + 1 + 1 + 1, i + j, none⟩ (.int .i64 ((m + cv + x1 * y1) % 65536))) (w.heap.size + 1 + 1 + 1) 0 (P.take i ++ ((D ++ [(m + cv + x1 * y1) % 65536]) ++ P.drop (i + j + 1)))) := hs
          have HB : Hid (Below (w.heap.size + 1 + 1 + 1) W0 (wr.setCell ⟨w.heap.size + 1 + 1 + 1, i + j, none⟩ (.int .i64 ((m + cv + x1 * y1) % 65536)))) := hnx.setCell (Nat.le_refl _) _
          obtain ⟨hcb0, hcb1⟩ := hcb
          have HCB : Hid (0 ≤ (m + cv + x1 * y1) / 65536 ∧ (m + cv + x1 * y1) / 65536 ≤ 65535) := ⟨hcb0, by omega⟩
          have hji : (i : Int) + (j : Int) < (ds.length : Int) + (es.length : Int) + 1 := by omega
          clear hcb0 hcb1 hst hs hyy hm hM hown hnx hij HN HO hbw F1
          go_wp2
          go_quiet (fail)
          go_wp2
          go_roundw
          case rel => exact ⟨j + 1, (m + cv + x1 * y1) / 65536, D ++ [(m + cv + x1 * y1) % 65536], by omega, by simp; omega, by go_num, rfl, HCB.out.1, HCB.out.2, HM, HS.out.later (below_drewN (Below.refl _ _) _), below_drewN HB.out _⟩
          case measure => simp [intOf]; omega
        · by_cases hcp : 0 < cv
          · have hjn : j = es.length := by
              rcases hM.out with ⟨h1, _⟩ | ⟨_, h2, _⟩
              · omega
              · omega
            subst hjn
            have hij : i + es.length < P.length := by rw [HPl.out]; omega
            have hm0 : P.getD (i + es.length) 0 = 0 := hP.out.up _ (Nat.le_refl _)
            have g3 := hown.cell (i + es.length) (by rw [mid_length hDl (by omega)]; exact hij)
            have g4 := hown.free (i + es.length) (by rw [mid_length hDl (by omega)]; exact hij)
            rw [Nat.zero_add] at g3 g4
            rw [mid_get (Nat.le_refl _) hDl (by omega), hm0] at g3
            have HM : Hid (MulAt x1 es (P.drop i) (D ++ [cv]) (es.length + 1) 0) := by
              rcases hM.out with ⟨h1, h2, h3⟩ | ⟨h1, _, _⟩
              · refine .inr ⟨rfl, rfl, ?_⟩
                have hD : carryD 65536 (mulsL x1 es (P.drop i)) 0 = D := by rw [h2, List.drop_eq_nil_of_le (Nat.le_refl _)]; simp [mulsL, carryD]
                have hO : carryO 65536 (mulsL x1 es (P.drop i)) 0 = cv := by rw [h3, List.drop_eq_nil_of_le (Nat.le_refl _)]; simp [mulsL, carryO]
                rw [hD, hO]
              · omega
            have hs := hown.set (i + es.length) cv (by rw [mid_length hDl (by omega)]; exact hij)
            rw [Nat.zero_add, mid_set hDl hij] at hs
            have HS : Hid (Own .i64 (wr.setCell ⟨w.heap.size + 1 + 1 + 1, i + es.length, none⟩ (.int .i64 cv)) (w.heap.size + 1 + 1 + 1) 0 (P.take i ++ ((D ++ [cv]) ++ P.drop (i + es.length + 1)))) := hs
            have HB : Hid (Below (w.heap.size + 1 + 1 + 1) W0 (wr.setCell ⟨w.heap.size + 1 + 1 + 1, i + es.length, none⟩ (.int .i64 cv))) := hnx.setCell (Nat.le_refl _) _
            have hji : (i : Int) + (es.length : Int) < (ds.length : Int) + (es.length : Int) + 1 := by omega
            have E1 : Hid (cv % 65536 = cv) := by unfold Hid; omega
            have E2 : Hid (cv / 65536 = 0) := by unfold Hid; omega
            clear hs hm0 hM hown hnx hij HN HO hbw F1
            go_wp2
            go_roundw
            case rel => exact ⟨es.length + 1, 0, D ++ [cv], by omega, by simp; omega, by go_num, by rw [E2.out], by decide, by decide, HM, by rw [E1.out]; exact HS.out, by rw [E1.out]; exact HB.out⟩
            case measure => simp [intOf]
          · have hcz : cv = 0 := by omega
            have HP2 : Hid (Prod 65536 ds es (ds.length + es.length + 1) (i + 1) (P.take i ++ (D ++ P.drop (i + j)))) := hM.out.fin hlt2 hcz hDl hP.out hlt (by omega) HX1.out HOB.out
            subst hcz
            have HS : Hid (Own .i64 wr (w.heap.size + 1 + 1 + 1) 0 (P.take i ++ (D ++ P.drop (i + j)))) := hown
            have HB : Hid (Below (w.heap.size + 1 + 1 + 1) W0 wr) := hnx
            clear hM hown hnx HN HO hbw F1 hP HOB
            go_wp2
            go_roundw
            case rel => exact ⟨i + 1, P.take i ++ (D ++ P.drop (i + j)), by omega, by go_num, HP2, HS.out, HB.out⟩
            case measure => simp [intOf]; omega
    · have hin : i = ds.length := by omega
      subst hin
      have hPl : P.length = ds.length + es.length + 1 := hP.out.len
      have hV : val 65536 P = val 65536 ds * val 65536 es := by rw [hP.out.eq, List.take_length]
      have HV : Hid (val 65536 P = val 65536 ds * val 65536 es) := hV
      have HG : Hid (Dig 65536 P) := hP.out.dig
      have HL : Hid (P.length = ds.length + es.length + 1) := hPl
      have HS : Hid (Own .i64 wr (w.heap.size + 1 + 1 + 1) 0 P) := hown
      have F1 : Hid (AddF w g g' (.slice a ds.length c) (.slice a' es.length c') (.slice none 0 0) wr) := F.out.mid hnx
      have s0 := F1.out.s.1
      have s1 := F1.out.s.2.1
      have s2 := F1.out.s.2.2.1
      clear hV hPl hP hown hnx hz hy hdz hdy F
      go_wp2_with fail
      have e1 : ds.length + es.length + 1 = P.length := HL.out.symm
      rw [e1]
      refine (make_any (!(g == g')) _ _ P _ (by omega) (by unfold maxLen; omega) ⟨Nat.le_refl _, (fun h => by cases h), .inr ⟨_, _, rfl, HS.out.lt, HS.out.cell⟩⟩ HG.out).mono ?_
      rintro e w2 ⟨g2, fs, rfl, hfl, hL2, hb2⟩
      rw [HV.out, HX.out] at hL2
      have F2 : Hid (AddF w g g' (.slice a ds.length c) (.slice a' es.length c') (.slice none 0 0) w2) := F1.out.later hb2
      have r1 := F2.out.r1
      have r2 := F2.out.r2
      have r3 := F2.out.r3
      have HL2 : Hid (L1 w2 g2 (some ⟨w.heap.size + 1 + 1 + 1, 0, none⟩) P.length fs (x * y)) := hL2
      have HF : Hid (Far (w.heap.size + 1 + 1 + 1) (some ⟨w.heap.size + 1 + 1 + 1, 0, none⟩) fs) := .inr ⟨_, _, rfl, Nat.le_refl _⟩
      clear hL2 hb2 s0 s1 s2 F1 HS
      go_wp2
      refine bodyPost_ret (v := .agg #[.bool g2, .slice (some ⟨w.heap.size + 1 + 1 + 1, 0, none⟩) fs.length P.length]) (by simp [results, Tryd.results85, go_sem, r1, r2]) rfl ⟨g2, _, _, fs, rfl, by omega, ?_, HF.out.down (by omega), ?_⟩
      · exact (HL2.out.setFar HF.out (by simp) _).setFar HF.out (by simp) _
      · exact (F2.out.bel.setCell (by simp; omega) _).setCell (by simp; omega) _

end Go.Proofs.YtladfpljnaippabDoor

/-
  The model's products of dyadic numbers.
-/
namespace Go.Proofs.YtladfpljnaippabDoor
open Go.RowKit

set_option maxRecDepth 100000 in
set_option maxHeartbeats 4000000 in
theorem mul2_any (g g' : Bool) (a a' : Option Addr) (c c' : Nat) (ds es : List Int) (m m' E E' : Int) (w : World) (hn : ds.length ≤ 20000) (hn' : es.length ≤ 20000) (he : -500000 ≤ E + E') (he' : E + E' ≤ 500000) (h : L1 w g a c ds m) (h' : L1 w g' a' c' es m') :
    Calls Tryd.prog 42 #[.agg #[.bool g, .slice a ds.length c, .int .i64 E], .agg #[.bool g', .slice a' es.length c', .int .i64 E']] w fun e w' => NormOut w (ds.length + es.length + 1) (m * m') (E + E') (16 * (ds.length + es.length + 1)) e w' := by
  have B0 : Hid (∀ t t' t2, Bx7 w (.bool g) (.slice a ds.length c) (.int .i64 E) (.bool g') (.slice a' es.length c') (.int .i64 E') (((w.alloc (.cells #[.bool g, .slice a ds.length c, .int .i64 E] t)).alloc (.cells #[.bool g', .slice a' es.length c', .int .i64 E'] t')).alloc (.cells #[.bool false, .slice none 0 0, .int .i64 0] t2))) := fun t t' t2 => Bx7.start w _ _ _ _ _ _ _ _ _
  obtain ⟨S, hS⟩ : ∃ S, S = E + E' := ⟨_, rfl⟩
  have HS : Hid (S = E + E') := hS
  have HW : Hid (IntKind.i64.wrap (E + E') = E + E') := wrap64_id (by omega) (by omega)
  go_enter Tryd.func42, Tryd.ntmps42
  go_wp2
  obtain ⟨W0, hW0⟩ : ∃ W0, W0 = (((w.alloc (.cells #[.bool g, .slice a ds.length c, .int .i64 E] 66)).alloc (.cells #[.bool g', .slice a' es.length c', .int .i64 E'] 66)).alloc (.cells #[.bool false, .slice none 0 0, .int .i64 0] 66)) := ⟨_, rfl⟩
  have F : Hid (Bx7 w (.bool g) (.slice a ds.length c) (.int .i64 E) (.bool g') (.slice a' es.length c') (.int .i64 E') W0) := by unfold Hid; rw [hW0]; exact B0.out _ _ _
  rw [← hW0]
  clear hW0 B0 hS
  have zz : w.heap.size + 1 + 1 < W0.heap.size := F.out.le
  go_region_held3 (fun w' => w'.cell? ⟨w.heap.size, 0, none⟩ = some (.bool g) ∧ w'.cell? ⟨w.heap.size, 1, none⟩ = some (.slice a ds.length c) ∧ w'.cell? ⟨w.heap.size, 2, none⟩ = some (.int .i64 E) ∧ w'.cell? ⟨w.heap.size + 1, 0, none⟩ = some (.bool g') ∧ w'.cell? ⟨w.heap.size + 1, 1, none⟩ = some (.slice a' es.length c') ∧ w'.cell? ⟨w.heap.size + 1, 2, none⟩ = some (.int .i64 E') ∧ Below (w.heap.size + 1 + 1) W0 w')
    (first | exact F.out.held (Below.refl _ _).drew | exact F.out.held (by assumption) | exact F.out.held (Below.setCell (Below.setCell (Below.setCell (by assumption) (by simp) _) (by simp) _) (by simp) _))
    (first
      | (go_at_call 85; refine (mul_any g g' a a' c c' ds es m m' _ (by omega) (by omega) (h.later F.out.bel.drew) (h'.later F.out.bel.drew)).mono ?_; rintro e w1 ⟨g1, a1, c1, fs, rfl, hl1, hL1, hF1, hb1⟩; have hB1 : Below W0.heap.size W0 w1 := (Below.refl _ _).drew.trans hb1; have hB1' : Below (w.heap.size + 1 + 1) W0 w1 := hB1.mono (by omega))
      | (go_at_call 75; (try rw [HW.out]); refine (norm_any g1 a1 c1 fs _ (E + E') _ (by omega) (by omega) (by omega) hL1).mono ?_; rintro e w2 ⟨m2, e2, hnf, g2, a2, c2, f2, rfl, hl2, hL2, hF2, hb2⟩; have hB2 : Below W0.heap.size W0 w2 := hB1.trans (hb2.mono hB1.size); have hB2' : Below (w.heap.size + 1 + 1) W0 w2 := hB2.mono (by omega); have F2 : Hid (Bx7 w (.bool g) (.slice a ds.length c) (.int .i64 E) (.bool g') (.slice a' es.length c') (.int .i64 E') w2) := F.out.later hB2; have r1 := F2.out.r1; have r2 := F2.out.r2; have r3 := F2.out.r3; have r4 := F2.out.r4))
  have HL2 : Hid (L1 w2 g2 a2 c2 f2 m2) := hL2
  have HF2 : Hid (Far (w.heap.size + 1 + 1 + 1) a2 f2) := hF2.down (by have := hB1.size; have := F.out.le; omega)
  have HN : Hid (NormOf (m * m') (E + E') m2 e2 (16 * (ds.length + es.length + 1))) := by
    rcases hnf with h | ⟨h1, t, h2, h3, h4, h5⟩
    · exact .inl h
    · exact .inr ⟨h1, t, h2, h3, h4, by omega⟩
  clear hL2 hF2 hB1 hB1' hB2 hB2' hb1 hb2 hL1 hF1 hnf
  go_wp2
  refine bodyPost_ret (v := .agg #[.bool g2, .slice a2 f2.length c2, .int .i64 e2]) (by simp [results, Tryd.results42, go_sem, r1, r2, r3]) rfl ?_
  refine ⟨m2, e2, HN.out, g2, a2, c2, f2, rfl, by omega, ?_, HF2.out.down (by omega), ?_⟩
  · exact ((HL2.out.setFar HF2.out (by simp) _).setFar HF2.out (by simp) _).setFar HF2.out (by simp) _
  · exact ((F2.out.bel.setCell (by simp; omega) _).setCell (by simp; omega) _).setCell (by simp; omega) _

end Go.Proofs.YtladfpljnaippabDoor

/-
  The model's determinant.
-/
namespace Go.Proofs.YtladfpljnaippabDoor
open Go.RowKit

/-- A number of the model: its parts. -/
structure LV where
  g : Bool
  a : Option Addr
  c : Nat
  fs : List Int
  m : Int
  e : Int

instance : Inhabited LV := ⟨⟨false, none, 0, [], 0, 0⟩⟩

/-- Block b from off on holds the numbers ls. -/
structure RowL (w : World) (b off : Nat) (ls : List LV) : Prop where
  lt : b < w.heap.size
  c0 : ∀ i, i < ls.length → w.cell? ⟨b, off + i * 3, none⟩ = some (.bool (ls.getD i default).g)
  c1 : ∀ i, i < ls.length → w.cell? ⟨b, off + i * 3 + 1, none⟩ = some (.slice (ls.getD i default).a (ls.getD i default).fs.length (ls.getD i default).c)
  c2 : ∀ i, i < ls.length → w.cell? ⟨b, off + i * 3 + 2, none⟩ = some (.int .i64 (ls.getD i default).e)
  l1 : ∀ i, i < ls.length → L1 w (ls.getD i default).g (ls.getD i default).a (ls.getD i default).c (ls.getD i default).fs (ls.getD i default).m

theorem RowL.later {w w' : World} {b off : Nat} {ls : List LV} (h : RowL w b off ls) (hb : Below w.heap.size w w') : RowL w' b off ls :=
  ⟨Nat.lt_of_lt_of_le h.lt hb.size, fun i hi => (hb.cell (p := ⟨b, off + i * 3, none⟩) h.lt).trans (h.c0 i hi), fun i hi => (hb.cell (p := ⟨b, off + i * 3 + 1, none⟩) h.lt).trans (h.c1 i hi), fun i hi => (hb.cell (p := ⟨b, off + i * 3 + 2, none⟩) h.lt).trans (h.c2 i hi), fun i hi => (h.l1 i hi).later hb⟩

/-- The sum's box A while the loop runs. -/
structure SD (W0 : World) (A : Nat) (G : Bool) (a : Option Addr) (c : Nat) (fs : List Int) (m e : Int) (W : World) : Prop where
  a1 : W.cell? ⟨A, 0, none⟩ = some (.bool G)
  a2 : W.cell? ⟨A, 1, none⟩ = some (.slice a fs.length c)
  a3 : W.cell? ⟨A, 2, none⟩ = some (.int .i64 e)
  a4 : ∀ j, W.frozen? ⟨A, j, none⟩ = false
  l1 : L1 W G a c fs m
  far : Far (A + 1) a fs
  lt : A < W.heap.size
  bel : Below A W0 W

section
variable {W0 : World} {A : Nat} {G : Bool} {a : Option Addr} {c : Nat} {fs : List Int} {m e : Int} {W W' : World}

theorem SD.later (h : SD W0 A G a c fs m e W) (hb : Below W.heap.size W W') : SD W0 A G a c fs m e W' := by
  have o := h.lt
  have hs := hb.size
  exact ⟨(hb.cell (by simp; omega)).trans h.a1, (hb.cell (by simp; omega)).trans h.a2, (hb.cell (by simp; omega)).trans h.a3, fun j => (hb.frozen (by simp; omega)).trans (h.a4 j), h.l1.later hb, h.far, by omega, h.bel.trans (hb.mono (by omega))⟩

/-- Another number is laid into the box. -/
theorem SD.lay {G' : Bool} {a' : Option Addr} {c' : Nat} {fs' : List Int} {m' e' : Int} (h : SD W0 A G a c fs m e W) (hL : L1 W G' a' c' fs' m') (hf : Far (A + 1) a' fs') : SD W0 A G' a' c' fs' m' e' (((W.setCell ⟨A, 0, none⟩ (.bool G')).setCell ⟨A, 1, none⟩ (.slice a' fs'.length c')).setCell ⟨A, 2, none⟩ (.int .i64 e')) := by
  have o := h.lt
  have hbel : Below A W (((W.setCell ⟨A, 0, none⟩ (.bool G')).setCell ⟨A, 1, none⟩ (.slice a' fs'.length c')).setCell ⟨A, 2, none⟩ (.int .i64 e')) := (((Below.refl _ _).setCell (by simp) _).setCell (by simp) _).setCell (by simp) _
  refine ⟨?_, ?_, ?_, ?_, ?_, hf, by simpa using o, h.bel.trans hbel⟩
  · rw [World.cell?_setCell_other _ _ _ _ (by simp), World.cell?_setCell_other _ _ _ _ (by simp)]
    exact World.cell?_setCell_same _ _ _ h.a1
  · rw [World.cell?_setCell_other _ _ _ _ (by simp)]
    refine World.cell?_setCell_same _ _ _ (u := .slice a fs.length c) ?_
    rw [World.cell?_setCell_other _ _ _ _ (by simp)]
    exact h.a2
  · refine World.cell?_setCell_same _ _ _ (u := .int .i64 e) ?_
    rw [World.cell?_setCell_other _ _ _ _ (by simp), World.cell?_setCell_other _ _ _ _ (by simp)]
    exact h.a3
  · intro j; rw [World.frozen?_setCell, World.frozen?_setCell, World.frozen?_setCell]; exact h.a4 j
  · exact ((hL.setFar hf (by simp) _).setFar hf (by simp) _).setFar hf (by simp) _

end

/-- The six ways: three places, and a sign. -/
def wy (i j : Nat) : Nat := ((([[0, 4, 8], [1, 5, 6], [2, 3, 7], [2, 4, 6], [1, 3, 8], [0, 5, 7]] : List (List Nat)).getD i []).getD j 0)
def ws (i : Nat) : Int := if i < 3 then 1 else -1

theorem wy_lt : ∀ i j, i < 6 → j < 3 → wy i j < 9 := by
  intro i j hi hj
  have h1 : i = 0 ∨ i = 1 ∨ i = 2 ∨ i = 3 ∨ i = 4 ∨ i = 5 := by omega
  have h2 : j = 0 ∨ j = 1 ∨ j = 2 := by omega
  rcases h1 with rfl | rfl | rfl | rfl | rfl | rfl <;> rcases h2 with rfl | rfl | rfl <;> decide

/-- What way i adds, in units of 2^-K. -/
def wayV (K : Int) (ls : List LV) (i : Nat) : Int :=
  ws i * atK K ((ls.getD (wy i 0) default).m * (ls.getD (wy i 1) default).m * (ls.getD (wy i 2) default).m) ((ls.getD (wy i 0) default).e + (ls.getD (wy i 1) default).e + (ls.getD (wy i 2) default).e)
def detV (K : Int) (ls : List LV) : Nat → Int
  | 0 => 0
  | i + 1 => detV K ls i + wayV K ls i

/-- Where the ways lie: the list in block B + 7, way i in block B + 1 + i. -/
def WaysAt (W : World) (B : Nat) : Prop := ∀ i, i < 6 → W.cell? ⟨B + 7, i, none⟩ = some (.slice (some ⟨B + 1 + i, 0, none⟩) 4 4) ∧ W.cell? ⟨B + 1 + i, 0, none⟩ = some (.int .i64 (wy i 0)) ∧ W.cell? ⟨B + 1 + i, 1, none⟩ = some (.int .i64 (wy i 1)) ∧ W.cell? ⟨B + 1 + i, 2, none⟩ = some (.int .i64 (wy i 2)) ∧ W.cell? ⟨B + 1 + i, 3, none⟩ = some (.int .i64 (ws i))

set_option maxRecDepth 100000 in
set_option maxHeartbeats 2000000 in
theorem ways_start (w : World) (t0 t1 t2 t3 t4 t5 t6 t7 t8 : TypeId) (x y : Array Value) : WaysAt (((((((((w.alloc (.cells x t0)).alloc (.cells #[.int .i64 0, .int .i64 4, .int .i64 8, .int .i64 1] t1)).alloc (.cells #[.int .i64 1, .int .i64 5, .int .i64 6, .int .i64 1] t2)).alloc (.cells #[.int .i64 2, .int .i64 3, .int .i64 7, .int .i64 1] t3)).alloc (.cells #[.int .i64 2, .int .i64 4, .int .i64 6, .int .i64 (-1)] t4)).alloc (.cells #[.int .i64 1, .int .i64 3, .int .i64 8, .int .i64 (-1)] t5)).alloc (.cells #[.int .i64 0, .int .i64 5, .int .i64 7, .int .i64 (-1)] t6)).alloc (.cells #[.slice (some ⟨w.heap.size + 1, 0, none⟩) 4 4, .slice (some ⟨w.heap.size + 1 + 1, 0, none⟩) 4 4, .slice (some ⟨w.heap.size + 1 + 1 + 1, 0, none⟩) 4 4, .slice (some ⟨w.heap.size + 1 + 1 + 1 + 1, 0, none⟩) 4 4, .slice (some ⟨w.heap.size + 1 + 1 + 1 + 1 + 1, 0, none⟩) 4 4, .slice (some ⟨w.heap.size + 1 + 1 + 1 + 1 + 1 + 1, 0, none⟩) 4 4] t7)).alloc (.cells y t8)) w.heap.size := by
  intro i hi
  have : i = 0 ∨ i = 1 ∨ i = 2 ∨ i = 3 ∨ i = 4 ∨ i = 5 := by omega
  rcases this with rfl | rfl | rfl | rfl | rfl | rfl
  all_goals
    refine ⟨?_, ?_, ?_, ?_, ?_⟩
    all_goals simp [go_sem, wy, ws]

theorem WaysAt.later {W W' : World} {B n : Nat} (h : WaysAt W B) (hb : Below n W W') (hn : B + 7 < n) : WaysAt W' B := fun i hi => by
  obtain ⟨h0, h1, h2, h3, h4⟩ := h i hi
  exact ⟨(hb.cell (by simp; omega)).trans h0, (hb.cell (by simp; omega)).trans h1, (hb.cell (by simp; omega)).trans h2, (hb.cell (by simp; omega)).trans h3, (hb.cell (by simp; omega)).trans h4⟩

end Go.Proofs.YtladfpljnaippabDoor

/-
  The model's determinant: the product's box.
-/
namespace Go.Proofs.YtladfpljnaippabDoor
open Go.RowKit

/-- The row lies in no box P. -/
def OffP (P : Nat) (a : Option Addr) (fs : List Int) : Prop := ∀ b o, a = some ⟨b, o, none⟩ → fs ≠ [] → b ≠ P

theorem L1.setOff {w : World} {P : Nat} {g : Bool} {a : Option Addr} {c : Nat} {ds : List Int} {x : Int} (h : L1 w g a c ds x) (hf : OffP P a ds) {p : Addr} (hp : p.block = P) (v : Value) : L1 (w.setCell p v) g a c ds x := by
  refine ⟨⟨h.sl.fits, h.sl.nil, ?_⟩, h.can, h.num, h.zero, h.cap⟩
  rcases h.sl.row with h | ⟨b, off, h1, h2, h3⟩
  · exact .inl h
  · by_cases hd : ds = []
    · exact .inl hd
    · have hb := hf b off h1 hd
      refine .inr ⟨b, off, h1, by simpa using h2, fun j hj => ?_⟩
      rw [World.cell?_setCell_other _ _ _ _ (by intro hh; have := congrArg Addr.block hh; simp at this; omega)]
      exact h3 j hj

theorem OffP.of_far {B P : Nat} {a : Option Addr} {fs : List Int} (h : Far B a fs) (hP : P < B) : OffP P a fs := by
  intro b o h1 h2
  rcases h with h | ⟨b', o', h3, h4⟩
  · exact absurd h h2
  · rw [h1] at h3
    injection h3 with h3
    have : b = b' := congrArg Addr.block h3
    omega

theorem OffP.of_row {w : World} {P : Nat} {a : Option Addr} {fs : List Int} (h : RowAt .i64 w a fs) (hP : w.heap.size ≤ P) : OffP P a fs := by
  intro b o h1 h2
  rcases h with h | ⟨b', o', h3, h4, _⟩
  · exact absurd h h2
  · rw [h1] at h3
    injection h3 with h3
    have : b = b' := congrArg Addr.block h3
    omega

/-- The product's box P. -/
structure PX (wr : World) (P : Nat) (g : Bool) (a : Option Addr) (c : Nat) (fs : List Int) (m e : Int) (W : World) : Prop where
  p0 : W.cell? ⟨P, 0, none⟩ = some (.bool g)
  p1 : W.cell? ⟨P, 1, none⟩ = some (.slice a fs.length c)
  p2 : W.cell? ⟨P, 2, none⟩ = some (.int .i64 e)
  p4 : ∀ j, W.frozen? ⟨P, j, none⟩ = false
  l1 : L1 W g a c fs m
  off : OffP P a fs
  far : Far wr.heap.size a fs
  ge : wr.heap.size ≤ P
  lt : P < W.heap.size
  bel : Below wr.heap.size wr W

section
variable {wr W W' : World} {P : Nat} {g : Bool} {a : Option Addr} {c : Nat} {fs : List Int} {m e : Int}

theorem PX.start (hL : L1 W g a c fs m) (hf : Far wr.heap.size a fs) (hb : Below wr.heap.size wr W) (t : TypeId) : PX wr W.heap.size g a c fs m e (W.alloc (.cells #[.bool g, .slice a fs.length c, .int .i64 e] t)) := by
  refine ⟨by simp [go_sem], by simp [go_sem], by simp [go_sem], by intro j; simp [go_sem], hL.later (bel0 _ _), OffP.of_row hL.sl.row (Nat.le_refl _), hf, hb.size, by simp, hb.alloc hb.size _⟩

theorem PX.set {x0 x1 x2 : Value} (r1 : W.cell? ⟨P, 0, none⟩ = some x0) (r2 : W.cell? ⟨P, 1, none⟩ = some x1) (r3 : W.cell? ⟨P, 2, none⟩ = some x2) (r4 : ∀ j, W.frozen? ⟨P, j, none⟩ = false) (hlt : P < W.heap.size) (hge : wr.heap.size ≤ P) (hL : L1 W g a c fs m) (ho : OffP P a fs) (hf : Far wr.heap.size a fs) (hb : Below wr.heap.size wr W) :
    PX wr P g a c fs m e (((W.setCell ⟨P, 0, none⟩ (.bool g)).setCell ⟨P, 1, none⟩ (.slice a fs.length c)).setCell ⟨P, 2, none⟩ (.int .i64 e)) := by
  refine ⟨?_, ?_, ?_, ?_, ?_, ho, hf, hge, by simpa using hlt, ((hb.setCell (by simpa using hge) _).setCell (by simpa using hge) _).setCell (by simpa using hge) _⟩
  · rw [World.cell?_setCell_other _ _ _ _ (by simp), World.cell?_setCell_other _ _ _ _ (by simp)]
    exact World.cell?_setCell_same _ _ _ r1
  · rw [World.cell?_setCell_other _ _ _ _ (by simp)]
    refine World.cell?_setCell_same _ _ _ (u := x1) ?_
    rw [World.cell?_setCell_other _ _ _ _ (by simp)]
    exact r2
  · refine World.cell?_setCell_same _ _ _ (u := x2) ?_
    rw [World.cell?_setCell_other _ _ _ _ (by simp), World.cell?_setCell_other _ _ _ _ (by simp)]
    exact r3
  · intro j; rw [World.frozen?_setCell, World.frozen?_setCell, World.frozen?_setCell]; exact r4 j
  · exact ((hL.setOff ho rfl _).setOff ho rfl _).setOff ho rfl _

theorem PX.later (h : PX wr P g a c fs m e W) (hb : Below W.heap.size W W') : PX wr P g a c fs m e W' := by
  have o := h.lt
  have hs := hb.size
  have hg := h.ge
  exact ⟨(hb.cell (by simp; omega)).trans h.p0, (hb.cell (by simp; omega)).trans h.p1, (hb.cell (by simp; omega)).trans h.p2, fun j => (hb.frozen (by simp; omega)).trans (h.p4 j), h.l1.later hb, h.off, h.far, hg, by omega, h.bel.trans (hb.mono (by omega))⟩

end

theorem held13 {p0 p1 p2 p3 p4 p5 p6 p7 p8 p9 p10 p11 t : Prop} (h : p0 ∧ p1 ∧ p2 ∧ p3 ∧ p4 ∧ p5 ∧ p6 ∧ p7 ∧ p8 ∧ p9 ∧ p10 ∧ p11 ∧ t) : t := h.2.2.2.2.2.2.2.2.2.2.2.2

/-- What l2det hands back. -/
def L2Sum (w : World) (ls : List LV) (e : Ending) (w' : World) : Prop :=
  ∃ (g : Bool) (a : Option Addr) (c : Nat) (fs : List Int) (m e' : Int), e = .returned (.agg #[.bool g, .slice a fs.length c, .int .i64 e']) ∧ fs.length ≤ 20000 ∧ -60000 ≤ e' ∧ e' ≤ 0 ∧ (∀ K, 60000 ≤ K → atK K m e' = detV K ls 6) ∧ L1 w' g a c fs m ∧ Far w.heap.size a fs ∧ Below w.heap.size w w'

end Go.Proofs.YtladfpljnaippabDoor
