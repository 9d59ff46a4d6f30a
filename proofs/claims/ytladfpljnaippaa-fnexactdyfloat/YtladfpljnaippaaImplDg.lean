/-
  The program's DyFloat, whole.
-/
import Derived.Test.YtladfpljnaippaaImplDf
namespace Go.Proofs.Ytladfpljnaippaa
open Go.RowKit

theorem flDI_at (g : Bool) (a : Option Addr) (c : Nat) (zs : List Int) (E nb U : Int) (v X Y Z R : Nat) (o : Bool) (w : World) (hn : zs.length ≤ 1048576) (hz : RowAt .u32 w a zs) (hv : validD g zs E = true) (b0 : 0 ≤ nb) (b1 : nb ≤ 100000)
    (hBL : ∀ W, RowAt .u32 W a zs → Calls Try.prog 32 #[.slice a zs.length c] W fun e w' => e = .returned (.int .i64 nb) ∧ w' = W)
    (hU : U = max (nb + E - 24) (-149))
    (hNe : ∀ W, RowAt .u32 W a zs → Calls Try.prog 34 #[.slice a zs.length c, .int .i64 (U - E)] W fun e w' => e = .returned (.int .u32 v) ∧ Below W.heap.size W w')
    (hX : floatOfInt .f64 (v : Int) = X)
    (hLd : ∀ W, Calls Try.prog 33 #[.float .f64 X, .int .i64 U] W fun e w' => e = .returned (.float .f64 Y) ∧ Below W.heap.size W w')
    (ho : (FloatKind.f64.format.order Y 5183643170566569984 == some .gt) = o)
    (hY : Y < 9223372036854775808) (hZ : Ieee.double.word g Y = Z) (hR : o = false → floatToFloatBits .f64 Z .f32 = some R) :
    Calls Try.prog 11 #[.agg #[.bool g, .slice a zs.length c, .int .i64 E]] w fun e w' => e = .returned (.tuple #[.int .u32 (if o = true then 0 else (R : Int)), .int .i64 (if o = true then 2 else 0)]) ∧ Below w.heap.size w w' := by
  by_cases h : -149 ≤ nb + E - 24
  · have e : U = nb + E - 24 := by omega
    subst e
    exact flDI_up g a c zs E nb v X Y Z R o w hn hz hv b0 b1 hBL h hNe hX hLd ho hY hZ hR
  · have e : U = -149 := by omega
    subst e
    exact flDI_low g a c zs E nb v X Y Z R o w hn hz hv b0 b1 hBL (by omega) hNe hX hLd ho hY hZ hR

theorem max_zero : (FloatKind.f64.format.order 0 5183643170566569984 == some .gt) = false := by decide

theorem max_inf : (FloatKind.f64.format.order 9218868437227405312 5183643170566569984 == some .gt) = true := by decide

theorem max_fin {Y : Nat} (h : Y < 9218868437227405312) : (FloatKind.f64.format.order Y 5183643170566569984 == some .gt) = decide (5183643170566569984 < Y) := by
  rw [ord64 h (by decide)]
  rcases Int.lt_trichotomy (Y : Int) ((5183643170566569984 : Nat) : Int) with h1 | h1 | h1
  · rw [Int.compare_eq_lt.2 h1, decide_eq_false (by omega)]; rfl
  · rw [Int.compare_eq_eq.2 h1, decide_eq_false (by omega)]; rfl
  · rw [Int.compare_eq_gt.2 h1, decide_eq_true (by omega)]; rfl

theorem int_zero : floatOfInt .f64 ((0 : Nat) : Int) = 0 := by decide

theorem int_word {v L f : Nat} (hL : L ≤ 24) (h1 : 2 ^ L ≤ v) (h2 : v < 2 ^ (L + 1)) (hf : v * 2 ^ (52 - L) = 4503599627370496 + f) : floatOfInt .f64 (v : Int) = (L + 1023) * 4503599627370496 + f := by
  have h : floatOfInt .f64 (v : Int) = Ieee.double.nearest false v 0 := by
    show Ieee.double.nearest (decide ((v : Int) < 0)) (v : Int).natAbs 0 = _
    rw [decide_eq_false (by omega), Int.natAbs_natCast]
  rw [h]
  exact of_int hL h1 h2 hf

theorem rnd_zero (d : Int) : rnd 0 d = 0 := by
  unfold rnd
  simp

theorem flDI_nil (a : Option Addr) (c : Nat) (E : Int) (w : World) (hv : validD false [] E = true) :
    Calls Try.prog 11 #[.agg #[.bool false, .slice a ([] : List Int).length c, .int .i64 E]] w fun e w' => e = .returned (.tuple #[.int .u32 0, .int .i64 0]) ∧ Below w.heap.size w w' := by
  obtain ⟨_, hE0, hE1⟩ := validD_parts hv
  have h := flDI_at false a c [] E 0 (max (0 + E - 24) (-149)) 0 0 0 0 0 false w (by simp) (.inl rfl) hv (by decide) (by decide) (fun W _ => bitLen_nil a c W) rfl
    (fun W hW => (near_any a c [] (max (0 + E - 24) (-149) - E) W (by simp) (by omega) (by omega) hW ⟨Dig.nil _, rfl⟩ (by simp [val])).mono (by
      rintro e w1 ⟨rfl, hb⟩
      exact ⟨by rw [show val 4294967296 [] = 0 from rfl, rnd_zero]; rfl, hb⟩))
    int_zero (fun W => ldexpG_zero _ W) max_zero (by decide) rfl (fun _ => conv_back0 false)
  exact h

theorem flR_lt {N E : Int} {v : Nat} (hv : rnd N (plc N E - E) = v) : flR N E = ((v + (plc N E + 149).toNat * 8388608 : Nat) : Int) := by
  have := plc_ge N E
  unfold flR
  rw [hv]
  omega

theorem flDI_pos (g : Bool) (a : Option Addr) (c : Nat) (zs : List Int) (E : Int) (w : World) (hz : RowAt .u32 w a zs) (hu : U32 zs) (hv : validD g zs E = true) (hne : zs ≠ []) :
    Calls Try.prog 11 #[.agg #[.bool g, .slice a zs.length c, .int .i64 E]] w fun e w' => e = .returned (.tuple #[.int .u32 (flB true g (val 4294967296 zs) E), .int .i64 (flC true (val 4294967296 zs) E)]) ∧ Below w.heap.size w w' := by
  obtain ⟨vb, hE0, hE1⟩ := validD_parts hv
  obtain ⟨hcz, hn5, _⟩ := valid_canon hu vb
  have hpos := val_pos (B := 4294967296) (by decide) hcz hne
  obtain ⟨N, hN⟩ : ∃ N, N = val 4294967296 zs := ⟨_, rfl⟩
  rw [← hN] at hpos ⊢
  -- how many bits N has
  obtain ⟨n, hnl⟩ : ∃ n, n = N.toNat.log2 := ⟨_, rfl⟩
  have hN0 : N.toNat ≠ 0 := by omega
  have k1 : (2 : Int) ^ n ≤ N := by
    have := Nat.log2_self_le hN0
    rw [← hnl] at this
    have h2 : ((2 ^ n : Nat) : Int) ≤ N := by omega
    exact_mod_cast h2
  have k2 : N < (2 : Int) ^ (n + 1) := by
    have := @Nat.lt_log2_self N.toNat
    rw [← hnl] at this
    have h2 : N < ((2 ^ (n + 1) : Nat) : Int) := by omega
    exact_mod_cast h2
  have hBL : ∀ W, RowAt .u32 W a zs → Calls Try.prog 32 #[.slice a zs.length c] W fun e w' => e = .returned (.int .i64 ((n : Int) + 1)) ∧ w' = W := by
    intro W hW
    refine (bitLen_any a c zs W (by omega) hW hcz hne).mono ?_
    rintro e w1 ⟨m, rfl, _, m1, m2, rfl⟩
    rw [← hN] at m1 m2
    have := log2_of m1 m2
    exact ⟨by rw [hnl, this], rfl⟩
  have hn2 : n ≤ 20000 := by
    apply Nat.le_of_not_lt
    intro h
    have h1 := val_lt_pow (B := 4294967296) (by decide) hcz.1
    rw [← hN, show (4294967296 : Int) = 2 ^ 32 by decide, ← Int.pow_mul] at h1
    have h2 := pow2_mono (show 32 * zs.length ≤ n by omega)
    omega
  obtain ⟨P, hP⟩ : ∃ P, P = plc N E := ⟨_, rfl⟩
  have hPm : P = max ((n : Int) + 1 + E - 24) (-149) := by rw [hP]; exact plc_of k1 k2
  obtain ⟨r0, r1, r2⟩ := rnd_plc (E := E) k1 k2
  obtain ⟨v, hvv⟩ : ∃ v : Nat, rnd N (plc N E - E) = v := ⟨(rnd N (plc N E - E)).toNat, by omega⟩
  have hfl := flR_lt hvv
  rw [hvv] at r0 r1 r2
  rw [← hP] at hfl r2
  have hNe : ∀ W, RowAt .u32 W a zs → Calls Try.prog 34 #[.slice a zs.length c, .int .i64 (P - E)] W fun e w' => e = .returned (.int .u32 v) ∧ Below W.heap.size W w' := by
    intro W hW
    refine (near_any a c zs (P - E) W (by omega) (by omega) (by omega) hW hcz (by rw [← hN]; exact dbl_lt k2 (by omega))).mono ?_
    rintro e w1 ⟨rfl, hb⟩
    rw [← hN, hP, hvv]
    exact ⟨rfl, hb⟩
  by_cases hv0 : v = 0
  · subst hv0
    have hP9 : P = -149 := by
      by_cases h : P = -149
      · exact h
      · have := r2 h
        omega
    have hR0 : flR N E = 0 := by rw [hfl, hP9]; rfl
    refine (flDI_at g a c zs E ((n : Int) + 1) P 0 0 0 _ _ false w (by omega) hz hv (by omega) (by omega) hBL hPm hNe int_zero (fun W => ldexpG_zero _ W) max_zero (by decide) rfl (fun _ => conv_back0 g)).mono ?_
    rintro e w1 ⟨rfl, hb⟩
    refine ⟨?_, hb⟩
    unfold flB flC
    rw [hR0]
    have hNn : N ≠ 0 := by omega
    cases g
    · simp [hNn]
      rfl
    · simp [hNn]
      rfl
  · obtain ⟨L, f, hL, l1, l2, l24, hf, hvf⟩ := v_parts hv0 (by omega)
    have hu9 : P = -149 ∨ 23 ≤ L := by
      by_cases h : P = -149
      · exact .inl h
      · have := r2 h
        refine .inr (Nat.le_of_not_lt fun h3 => ?_)
        have h4 : 2 ^ (L + 1) ≤ 2 ^ 23 := Nat.pow_le_pow_right (by decide) (by omega)
        have e2 : 2 ^ 23 = 8388608 := by decide
        omega
    have hP0 : -149 ≤ P := by omega
    obtain ⟨G, hG⟩ : ∃ G : Nat, (G : Int) = L + 1023 + P := ⟨((L : Int) + 1023 + P).toNat, by omega⟩
    have hX := int_word hL l1 l2 hvf
    have hNn : N ≠ 0 := by omega
    by_cases hbig : G ≤ 2046
    · have hpm := past_max (G := G) hL l1 l2 l24 hvf hf hP0 hu9 hG
      have hlt : G * 4503599627370496 + f < 9218868437227405312 := by omega
      refine (flDI_at g a c zs E ((n : Int) + 1) P v ((L + 1023) * 4503599627370496 + f) (G * 4503599627370496 + f) _ (Ieee.single.word g (v + (P + 149).toNat * 8388608)) (decide (5183643170566569984 < G * 4503599627370496 + f)) w (by omega) hz hv (by omega) (by omega) hBL hPm hNe hX
        (fun W => ldexpG_any (L + 1023) f P G W hf (by omega) (by omega) (by omega) (by omega) hbig) (max_fin hlt) (by omega) rfl
        (fun ho => conv_back hL l1 l2 l24 hf hvf hP0 hu9 (by have := of_decide_eq_false ho; omega) hG)).mono ?_
      rintro e w1 ⟨rfl, hb⟩
      refine ⟨?_, hb⟩
      by_cases ho : 5183643170566569984 < G * 4503599627370496 + f
      · have h2 := hpm.1 ho
        have hB : flB true g N E = 0 := by
          unfold flB
          rw [hfl, if_neg (by rintro ⟨_, _, h⟩; omega)]
        have hC : flC true N E = 2 := by
          unfold flC
          rw [hfl, if_pos rfl, if_pos ⟨hNn, by omega⟩]
        rw [hB, hC, decide_eq_true ho]
        rfl
      · have h2 : ¬ 2139095040 ≤ v + (P + 149).toNat * 8388608 := fun h => ho (hpm.2 h)
        have hB : flB true g N E = ((v + (P + 149).toNat * 8388608 : Nat) : Int) + (if g = true then 2147483648 else 0) := by
          unfold flB
          rw [hfl, if_pos ⟨rfl, hNn, by omega⟩]
        have hC : flC true N E = 0 := by
          unfold flC
          rw [hfl, if_pos rfl, if_neg (by rintro ⟨_, h⟩; omega)]
        rw [hB, hC, decide_eq_false ho]
        cases g
        · show Ending.returned (.tuple #[.int .u32 ((v + (P + 149).toNat * 8388608 : Nat) : Int), .int .i64 0]) = Ending.returned (.tuple #[.int .u32 (((v + (P + 149).toNat * 8388608 : Nat) : Int) + 0), .int .i64 0])
          rw [Int.add_zero]
        · show Ending.returned (.tuple #[.int .u32 ((2147483648 + (v + (P + 149).toNat * 8388608) : Nat) : Int), .int .i64 0]) = Ending.returned (.tuple #[.int .u32 (((v + (P + 149).toNat * 8388608 : Nat) : Int) + 2147483648), .int .i64 0])
          rw [Int.natCast_add 2147483648, Int.add_comm]
          rfl
    · refine (flDI_at g a c zs E ((n : Int) + 1) P v ((L + 1023) * 4503599627370496 + f) 9218868437227405312 _ 0 true w (by omega) hz hv (by omega) (by omega) hBL hPm hNe hX
        (fun W => ldexpG_big (L + 1023) f P W hf (by omega) (by omega) (by omega) (by omega)) max_inf (by decide) rfl (fun ho => by cases ho)).mono ?_
      rintro e w1 ⟨rfl, hb⟩
      refine ⟨?_, hb⟩
      have hB : flB true g N E = 0 := by
        unfold flB
        rw [hfl, if_neg (by rintro ⟨_, _, h⟩; omega)]
      have hC : flC true N E = 2 := by
        unfold flC
        rw [hfl, if_pos rfl, if_pos ⟨hNn, by omega⟩]
      rw [hB, hC]
      rfl

/-- The program's DyFloat. -/
theorem flDI_any (g : Bool) (a : Option Addr) (c : Nat) (zs : List Int) (E : Int) (w : World) (hn : zs.length ≤ 1048576) (hz : RowAt .u32 w a zs) (hu : U32 zs) :
    Calls Try.prog 11 #[.agg #[.bool g, .slice a zs.length c, .int .i64 E]] w fun e w' => e = .returned (.tuple #[.int .u32 (flB (validD g zs E) g (val 4294967296 zs) E), .int .i64 (flC (validD g zs E) (val 4294967296 zs) E)]) ∧ Below w.heap.size w w' := by
  cases hv : validD g zs E
  · refine (flDI_bad g a c zs E w hn hz hv).mono ?_
    rintro e w1 ⟨rfl, hb⟩
    exact ⟨by unfold flB flC; simp, hb⟩
  · by_cases hne : zs = []
    · subst hne
      have hg : g = false := by
        cases g
        · rfl
        · exact absurd rfl ((valid_canon hu (validD_parts hv).1).2.2 rfl)
      subst hg
      refine (flDI_nil a c E w hv).mono ?_
      rintro e w1 ⟨rfl, hb⟩
      exact ⟨by unfold flB flC; simp [val], hb⟩
    · exact flDI_pos g a c zs E w hz hu hv hne

end Go.Proofs.Ytladfpljnaippaa
