/-
  The model's determinant: the sum over the six ways.
-/
import Derived.Test.YtladfpljnaippabDoorDyPNumNDyODetMDetO
import Derived.Deep.CutRange
namespace Go.Proofs.YtladfpljnaippabDoor
open Go.RowKit

theorem Sm.zero (B : Nat) : Sm B 0 0 0 := ⟨by decide, by decide, by rw [Int.natAbs_zero, Nat.zero_mul]; exact Nat.zero_le _⟩

theorem NormOf.at_mul {K x E m e y F : Int} {T : Nat} (h : NormOf x E m e T) (hK : 0 ≤ E + F + K) : atK K (m * y) (e + F) = atK K (x * y) (E + F) := by
  unfold atK
  rcases h with ⟨a1, a2, _⟩ | ⟨_, t, a2, a3, _⟩
  · rw [a1, a2]; simp
  · rw [a2, a3, show (E + ↑t + F + K).toNat = t + (E + F + K).toNat by omega, Int.pow_add]
    simp only [Int.mul_assoc, Int.mul_left_comm]

/-- The product of three numbers. -/
theorem way_prod {A : Nat} {m0 e0 m1 e1 m2 e2 m3 e3 m5 e5 : Int} {T T' : Nat} (h0 : Bd 20000 A m0 e0) (h1 : Bd 20000 A m1 e1) (h2 : Bd 20000 A m2 e2) (n1 : NormOf (m0 * m1) (e0 + e1) m3 e3 T) (n2 : NormOf (m3 * m2) (e3 + e2) m5 e5 T') :
    Bd 40000 (A + A) m3 e3 ∧ Bd 60000 (A + A + A) m5 e5 ∧ ∀ K, 60000 ≤ K → atK K m5 e5 = atK K (m0 * m1 * m2) (e0 + e1 + e2) := by
  have b3 : Bd 40000 (A + A) m3 e3 := Bd.mul (K := 20000) (K' := 20000) h0 h1 (by decide) n1
  have b5 : Bd 60000 (A + A + A) m5 e5 := Bd.mul (K := 40000) (K' := 20000) b3 h2 (by decide) n2
  refine ⟨b3, b5, fun K hK => ?_⟩
  have q0 := h0.1
  have q1 := h1.1
  have q2 := h2.1
  have q3 := b3.1
  rw [n2.at (by omega), n1.at_mul (by omega)]

theorem OffP.short {P : Nat} {a : Option Addr} {fs fs' : List Int} (h : OffP P a fs) (hl : fs'.length ≤ fs.length) : OffP P a fs' := by
  intro b o h1 h2
  refine h b o h1 ?_
  intro h3
  rw [h3] at hl
  exact h2 (List.length_eq_zero_iff.1 (by simpa using hl))

theorem Far.short {B : Nat} {a : Option Addr} {fs fs' : List Int} (h : Far B a fs) (hl : fs'.length ≤ fs.length) : Far B a fs' := by
  rcases h with h | h
  · rw [h] at hl
    exact .inl (List.length_eq_zero_iff.1 (by simpa using hl))
  · exact .inr h

/-- What the product's region reads. -/
theorem det_held {wr w' : World} {B b off n k0 k1 k2 : Nat} {ls : List LV} (hw : WaysAt wr B) (hr : RowL wr b off ls) (hlen : ls.length = 9) (hB : B + 8 ≤ wr.heap.size) (hn : n < 6) {v0 v1 v2 : LV} (i0 : ls.getD k0 default = v0) (i1 : ls.getD k1 default = v1) (i2 : ls.getD k2 default = v2) (e0 : wy n 0 = k0) (e1 : wy n 1 = k1) (e2 : wy n 2 = k2) (hb : Below wr.heap.size wr w') :
    w'.cell? ⟨B + 1 + n, 0, none⟩ = some (.int .i64 k0) ∧ w'.cell? ⟨B + 1 + n, 1, none⟩ = some (.int .i64 k1) ∧ w'.cell? ⟨B + 1 + n, 2, none⟩ = some (.int .i64 k2) ∧
    w'.cell? ⟨b, off + k0 * 3, none⟩ = some (.bool v0.g) ∧ w'.cell? ⟨b, off + k0 * 3 + 1, none⟩ = some (.slice v0.a v0.fs.length v0.c) ∧ w'.cell? ⟨b, off + k0 * 3 + 2, none⟩ = some (.int .i64 v0.e) ∧
    w'.cell? ⟨b, off + k1 * 3, none⟩ = some (.bool v1.g) ∧ w'.cell? ⟨b, off + k1 * 3 + 1, none⟩ = some (.slice v1.a v1.fs.length v1.c) ∧ w'.cell? ⟨b, off + k1 * 3 + 2, none⟩ = some (.int .i64 v1.e) ∧
    w'.cell? ⟨b, off + k2 * 3, none⟩ = some (.bool v2.g) ∧ w'.cell? ⟨b, off + k2 * 3 + 1, none⟩ = some (.slice v2.a v2.fs.length v2.c) ∧ w'.cell? ⟨b, off + k2 * 3 + 2, none⟩ = some (.int .i64 v2.e) ∧ Below wr.heap.size wr w' := by
  have hw' := hw.later hb (by omega) n hn
  have hr' := hr.later hb
  have l0 := wy_lt n 0 hn (by decide)
  have l1 := wy_lt n 1 hn (by decide)
  have l2 := wy_lt n 2 hn (by decide)
  obtain ⟨_, c1, c2, c3, _⟩ := hw'
  subst e0 e1 e2 i0 i1 i2
  exact ⟨c1, c2, c3, hr'.c0 _ (by omega), hr'.c1 _ (by omega), hr'.c2 _ (by omega), hr'.c0 _ (by omega), hr'.c1 _ (by omega), hr'.c2 _ (by omega), hr'.c0 _ (by omega), hr'.c1 _ (by omega), hr'.c2 _ (by omega), hb⟩

set_option maxRecDepth 100000 in
set_option maxHeartbeats 8000000 in
theorem det2_any {A : Nat} (hA : A = 56384) (b off c : Nat) (ls : List LV) (w : World) (hlen : ls.length = 9) (hbd : ∀ i, i < 9 → Bd 20000 A (ls.getD i default).m (ls.getD i default).e) (hr : RowL w b off ls) :
    Calls Tryd.prog 35 #[.slice (some ⟨b, off, none⟩) 9 c] w fun e w' => L2Sum w ls e w' := by
  have HS : Hid (∀ t0 t1 t2 t3 t4 t5 t6 t7 t8, WaysAt (((((((((w.alloc (.cells #[.bool false, .slice none 0 0, .int .i64 0] t0)).alloc (.cells #[.int .i64 0, .int .i64 4, .int .i64 8, .int .i64 1] t1)).alloc (.cells #[.int .i64 1, .int .i64 5, .int .i64 6, .int .i64 1] t2)).alloc (.cells #[.int .i64 2, .int .i64 3, .int .i64 7, .int .i64 1] t3)).alloc (.cells #[.int .i64 2, .int .i64 4, .int .i64 6, .int .i64 (-1)] t4)).alloc (.cells #[.int .i64 1, .int .i64 3, .int .i64 8, .int .i64 (-1)] t5)).alloc (.cells #[.int .i64 0, .int .i64 5, .int .i64 7, .int .i64 (-1)] t6)).alloc (.cells #[.slice (some ⟨w.heap.size + 1, 0, none⟩) 4 4, .slice (some ⟨w.heap.size + 1 + 1, 0, none⟩) 4 4, .slice (some ⟨w.heap.size + 1 + 1 + 1, 0, none⟩) 4 4, .slice (some ⟨w.heap.size + 1 + 1 + 1 + 1, 0, none⟩) 4 4, .slice (some ⟨w.heap.size + 1 + 1 + 1 + 1 + 1, 0, none⟩) 4 4, .slice (some ⟨w.heap.size + 1 + 1 + 1 + 1 + 1 + 1, 0, none⟩) 4 4] t7)).alloc (.cells #[.bool false, .slice none 0 0, .int .i64 0] t8)) w.heap.size) := fun t0 t1 t2 t3 t4 t5 t6 t7 t8 => ways_start w t0 t1 t2 t3 t4 t5 t6 t7 t8 _ _
  have HBd : Hid (∀ i, i < 9 → Bd 20000 A (ls.getD i default).m (ls.getD i default).e) := hbd
  have HRL : Hid (RowL w b off ls) := hr
  have HL : Hid (ls.length = 9) := hlen
  have HA : Hid (A = 56384) := hA
  clear hbd hr hlen hA
  go_enter Tryd.func35, Tryd.ntmps35
  go_wp2
  have HW0 := HS.out 66 3 3 3 3 3 3 62 66
  clear HS
  generalize hW0 : (World.alloc _ _) = W0 at HW0 ⊢
  have hs0 : W0.heap.size = w.heap.size + 9 := by rw [← hW0]; simp
  have hb0 : Below w.heap.size w W0 := by rw [← hW0]; exact (((((((((Below.refl _ _).alloc (by simp) _).alloc (by simp) _).alloc (by simp; omega) _).alloc (by simp; omega) _).alloc (by simp; omega) _).alloc (by simp; omega) _).alloc (by simp; omega) _).alloc (by simp; omega) _).alloc (by simp; omega) _
  have r1 : W0.cell? ⟨w.heap.size, 0, none⟩ = some (.bool false) := by rw [← hW0]; simp [go_sem]
  have r2 : W0.cell? ⟨w.heap.size, 1, none⟩ = some (.slice none 0 0) := by rw [← hW0]; simp [go_sem]
  have r3 : W0.cell? ⟨w.heap.size, 2, none⟩ = some (.int .i64 0) := by rw [← hW0]; simp [go_sem]
  have r4 : ∀ j, W0.frozen? ⟨w.heap.size, j, none⟩ = false := by intro j; rw [← hW0]; simp [go_sem]
  have hSD : SD W0 (w.heap.size + 8) false none 0 [] 0 0 W0 := by
    refine ⟨?_, ?_, ?_, ?_, L1.nil _, .inl rfl, by omega, Below.refl _ _⟩
    · rw [← hW0]; simp [go_sem]
    · rw [← hW0]; simp [go_sem]
    · rw [← hW0]; simp [go_sem]
    · intro j; rw [← hW0]; simp [go_sem]
  clear hW0
  have HW : Hid (WaysAt W0 w.heap.size) := HW0
  have HB0 : Hid (Below w.heap.size w W0) := hb0
  have HR4 : Hid (∀ j, W0.frozen? ⟨w.heap.size, j, none⟩ = false) := r4
  have HSD : Hid (SD W0 (w.heap.size + 8) false none 0 [] 0 0 W0) := hSD
  clear HW0 hb0 r4 hSD
  rw [show w.heap.size + 1 + 1 + 1 + 1 + 1 + 1 + 1 + 1 = w.heap.size + 8 from rfl, show w.heap.size + 1 + 1 + 1 + 1 + 1 + 1 + 1 = w.heap.size + 7 from rfl]
  go_loopw [5, 6, 7] (fun si _ _ wr => ∃ (n : Nat) (G : Bool) (a : Option Addr) (ca : Nat) (fs : List Int) (m e : Int), n ≤ 6 ∧ si = .int .i64 n ∧ Hid (Sm (A + A + A) n m e) ∧ Hid (∀ K, 60000 ≤ K → atK K m e = detV K ls n) ∧ Hid (SD W0 (w.heap.size + 8) G a ca fs m e wr)) (fun si _ _ _ => 6 - (intOf si).toNat)
  case atStart => exact ⟨0, false, none, 0, [], 0, 0, by decide, rfl, Sm.zero _, (fun K _ => by simp [atK, detV]), HSD⟩
  case round =>
    obtain ⟨n, G, a, ca, fs, m, e, hn, rfl, hS, hK, hD⟩ := hrel
    clear HSD
    have hbA := hD.out.bel
    have hsz : w.heap.size + 9 ≤ wr.heap.size := by have := hD.out.lt; omega
    by_cases hlt : n < 6
    · have HWr : Hid (WaysAt wr w.heap.size) := HW.out.later hbA (by omega)
      have HRr : Hid (RowL wr b off ls) := HRL.out.later (HB0.out.trans (hbA.mono (by omega)))
      obtain ⟨k0, e0⟩ : ∃ k0, wy n 0 = k0 := ⟨_, rfl⟩
      obtain ⟨k1, e1⟩ : ∃ k1, wy n 1 = k1 := ⟨_, rfl⟩
      obtain ⟨k2, e2⟩ : ∃ k2, wy n 2 = k2 := ⟨_, rfl⟩
      have l0 : k0 < 9 := e0 ▸ wy_lt n 0 hlt (by decide)
      have l1 : k1 < 9 := e1 ▸ wy_lt n 1 hlt (by decide)
      have l2 : k2 < 9 := e2 ▸ wy_lt n 2 hlt (by decide)
      obtain ⟨v0, i0⟩ : ∃ v0, ls.getD k0 default = v0 := ⟨_, rfl⟩
      obtain ⟨v1, i1⟩ : ∃ v1, ls.getD k1 default = v1 := ⟨_, rfl⟩
      obtain ⟨v2, i2⟩ : ∃ v2, ls.getD k2 default = v2 := ⟨_, rfl⟩
      have HWV : Hid (∀ K, wayV K ls n = ws n * atK K (v0.m * v1.m * v2.m) (v0.e + v1.e + v2.e)) := by intro K; unfold wayV; rw [e0, e1, e2, i0, i1, i2]
      have HBV : Hid (Bd 20000 A v0.m v0.e ∧ Bd 20000 A v1.m v1.e ∧ Bd 20000 A v2.m v2.e) := ⟨i0 ▸ HBd.out k0 l0, i1 ▸ HBd.out k1 l1, i2 ▸ HBd.out k2 l2⟩
      have HLV : Hid (L1 wr v0.g v0.a v0.c v0.fs v0.m ∧ L1 wr v1.g v1.a v1.c v1.fs v1.m ∧ L1 wr v2.g v2.a v2.c v2.fs v2.m) := ⟨i0 ▸ HRr.out.l1 k0 (by rw [HL.out]; exact l0), i1 ▸ HRr.out.l1 k1 (by rw [HL.out]; exact l1), i2 ▸ HRr.out.l1 k2 (by rw [HL.out]; exact l2)⟩
      have HH : Hid (∀ w', Below wr.heap.size wr w' → _) := fun w' hb => det_held HWr.out HRr.out HL.out (by omega) hlt i0 i1 i2 e0 e1 e2 hb
      have q7 := (HWr.out n hlt).1
      have q3 := (HWr.out n hlt).2.2.2.2
      clear hbA e0 e1 e2 i0 i1 i2
      have hib : (n : Int) < 6 := by omega
      go_wp2
      go_cut [7] from 16 to 52 (fun s7 wx => ∃ (P : Nat) (g5 : Bool) (a5 : Option Addr) (c5 : Nat) (f5 : List Int) (m5 e5 : Int), s7 = .pointer (some ⟨P, 0, none⟩) ∧ Hid (PX wr P g5 a5 c5 f5 m5 e5 wx) ∧ Hid (Bd 60000 (A + A + A) m5 e5) ∧ Hid (∀ K, 60000 ≤ K → atK K m5 e5 = atK K (v0.m * v1.m * v2.m) (v0.e + v1.e + v2.e)))
      case first =>
        obtain ⟨b0, b1, b2⟩ := HBV.out
        obtain ⟨L0, L1', L2'⟩ := HLV.out
        have hA5 := HA.out
        have t0 := b0.top (by omega)
        have t1 := b1.top (by omega)
        have t2 := b2.top (by omega)
        have y0 := b0.1
        have y1 := b1.1
        have y2 := b2.1
        have n0 := b0.len L0
        have n1 := b1.len L1'
        have n2 := b2.len L2'
        have ki0 : (k0 : Int) < 9 := by omega
        have ki1 : (k1 : Int) < 9 := by omega
        have ki2 : (k2 : Int) < 9 := by omega
        have kj0 : (0 : Int) ≤ k0 := by omega
        have kj1 : (0 : Int) ≤ k1 := by omega
        have kj2 : (0 : Int) ≤ k2 := by omega
        clear b0 b1 b2
        go_region_held3 (fun w' => w'.cell? ⟨w.heap.size + 1 + n, 0, none⟩ = some (.int .i64 k0) ∧ w'.cell? ⟨w.heap.size + 1 + n, 1, none⟩ = some (.int .i64 k1) ∧ w'.cell? ⟨w.heap.size + 1 + n, 2, none⟩ = some (.int .i64 k2) ∧ w'.cell? ⟨b, off + k0 * 3, none⟩ = some (.bool v0.g) ∧ w'.cell? ⟨b, off + k0 * 3 + 1, none⟩ = some (.slice v0.a v0.fs.length v0.c) ∧ w'.cell? ⟨b, off + k0 * 3 + 2, none⟩ = some (.int .i64 v0.e) ∧ w'.cell? ⟨b, off + k1 * 3, none⟩ = some (.bool v1.g) ∧ w'.cell? ⟨b, off + k1 * 3 + 1, none⟩ = some (.slice v1.a v1.fs.length v1.c) ∧ w'.cell? ⟨b, off + k1 * 3 + 2, none⟩ = some (.int .i64 v1.e) ∧ w'.cell? ⟨b, off + k2 * 3, none⟩ = some (.bool v2.g) ∧ w'.cell? ⟨b, off + k2 * 3 + 1, none⟩ = some (.slice v2.a v2.fs.length v2.c) ∧ w'.cell? ⟨b, off + k2 * 3 + 2, none⟩ = some (.int .i64 v2.e) ∧ Below wr.heap.size wr w')
          (first | exact HH.out _ (Below.refl _ _).drew | exact HH.out _ (by assumption) | exact HH.out _ (Below.alloc (held13 (by assumption)) (Below.size (held13 (by assumption))) _) | exact HH.out _ (Below.alloc (by assumption) (Below.size (by assumption)) _) | exact HH.out _ (Below.setCell (Below.setCell (Below.setCell (by assumption) (by first | (simp; done) | (simp; omega)) _) (by first | (simp; done) | (simp; omega)) _) (by first | (simp; done) | (simp; omega)) _))
          (first
            | (go_at_call_of 42 v0; refine (mul2_any v0.g v1.g v0.a v1.a v0.c v1.c v0.fs v1.fs v0.m v1.m v0.e v1.e _ (by omega) (by omega) (by omega) (by omega) (L0.later (held13 (by assumption))) (L1'.later (held13 (by assumption)))).mono ?_; rintro e w1 ⟨m3, e3, hn3, g3, a3, c3, f3, rfl, hl3, hL3, hF3, hb3⟩; have hB1 : Below wr.heap.size wr w1 := Below.trans (held13 (by assumption)) (Below.mono hb3 (Below.size (held13 (by assumption)))); have hs1 := hB1.size; have b3 := Bd.mul (K := 20000) (K' := 20000) HBV.out.1 HBV.out.2.1 (by decide) hn3; have t3 := b3.top (by omega); have y3 := b3.1; clear b3)
            | (go_at_call_of 42 v2; refine (mul2_any g3 v2.g a3 v2.a c3 v2.c f3 v2.fs m3 v2.m e3 v2.e _ (by omega) (by omega) (by omega) (by omega) ?_ (L2'.later (held13 (by assumption)))).mono ?_; (first | exact hL3 | exact hL3.later (bel0 _ _)); rintro e w2 ⟨m5, e5, hn5, g5, a5, c5, f5, rfl, hl5, hL5, hF5, hb5⟩; have hB2 : Below wr.heap.size wr w2 := Below.trans (held13 (by assumption)) (Below.mono hb5 (Below.size (held13 (by assumption)))); (first | (have hhc := ((Has3.new wr 66).later (Below.refl _ _).drew).later hb3; have hh := hhc.later hb5) | (have hhc := Has3.new w1 66; have hh := hhc.later hb5) | have hh : True := trivial); (try have r1 := hh.r1); (try have r2 := hh.r2); (try have r3 := hh.r3); (try have r4 := hh.r4)))
        all_goals
          have hW := way_prod HBV.out.1 HBV.out.2.1 HBV.out.2.2 hn3 hn5
          go_wp2_with fail
          go_meet
          case rel =>
            refine ⟨_, g5, a5, c5, f5, m5, e5, rfl, ?_, hW.2.1, hW.2.2⟩
            first
              | exact PX.start hL5 (hF5.down hs1) hB2 _
              | exact PX.set hh.r1 hh.r2 hh.r3 hh.r4 hh.lt (by first | exact Nat.le_refl _ | exact hs1) hL5 (OffP.of_far hF5 hhc.lt) (hF5.down (by first | exact hs1 | (simp; omega))) hB2
      case rest =>
        obtain ⟨P, g5, a5, c5, f5, m5, e5, rfl, hP, hB5, hV5⟩ := hcut
        have hA5 := HA.out
        have q3c : wc.cell? ⟨w.heap.size + 1 + n, 3, none⟩ = some (.int .i64 (ws n)) := (hP.out.bel.cell (by simp; omega)).trans q3
        have hWV : ∀ K, 60000 ≤ K → wayV K ls n = ws n * atK K m5 e5 := fun K hK => by rw [HWV.out, hV5.out K hK]
        have HWV2 : Hid (∀ K, 60000 ≤ K → wayV K ls n = ws n * atK K m5 e5) := hWV
        have p0 := hP.out.p0
        have p1 := hP.out.p1
        have p2 := hP.out.p2
        have p4 := hP.out.p4
        have pL := hP.out.lt
        have n5 := hB5.out.len hP.out.l1
        have t5 := hB5.out.top (by omega)
        have y5 := hB5.out.1
        have HDc : Hid (SD W0 (w.heap.size + 8) G a ca fs m e wc) := hD.out.later hP.out.bel
        have nS := hS.out.len hn HDc.out.l1
        obtain ⟨s0, s1, _⟩ := hS.out
        have z1 := HDc.out.a1
        have z2 := HDc.out.a2
        have z3 := HDc.out.a3
        have z4 := HDc.out.a4
        clear hWV HWV hV5 q3 q7 HH HBV HLV
        by_cases h3 : n < 3
        · have hws : ws n = 1 := by unfold ws; rw [if_pos h3]
          rw [hws] at q3c
          go_wp2_with fail
          refine (add2_any G g5 a a5 ca c5 fs f5 m m5 e e5 _ (by omega) (by omega) (by omega) (by omega) HDc.out.l1 hP.out.l1).mono ?_
          rintro e7 W7 ⟨g7, a7, c7, f7, rfl, hl7, hL7, hF7, hb7⟩
          have HD7 : Hid (SD W0 (w.heap.size + 8) G a ca fs m e W7) := HDc.out.later hb7
          have HDn : Hid (SD W0 (w.heap.size + 8) g7 a7 c7 f7 (sumAt m e m5 e5) (min e e5) (((W7.setCell ⟨w.heap.size + 8, 0, none⟩ (.bool g7)).setCell ⟨w.heap.size + 8, 1, none⟩ (.slice a7 f7.length c7)).setCell ⟨w.heap.size + 8, 2, none⟩ (.int .i64 (min e e5)))) := HD7.out.lay hL7 (hF7.down (by have := HDc.out.lt; omega))
          have HSn : Hid (Sm (A + A + A) (n + 1) (sumAt m e m5 e5) (min e e5)) := hS.out.add hB5.out
          have HKn : Hid (∀ K, 60000 ≤ K → atK K (sumAt m e m5 e5) (min e e5) = detV K ls (n + 1)) := by
            intro K hK6
            have h1 := sumAt_at (K := K) (m := m) (e := e) (m' := m5) (e' := e5) (by omega) (by omega)
            show sumAt m e m5 e5 * 2 ^ (min e e5 + K).toNat = detV K ls n + wayV K ls n
            rw [h1, hK.out K hK6, HWV2.out K hK6, hws]
            omega
          have x1 := HD7.out.a1
          have x2 := HD7.out.a2
          have x3 := HD7.out.a3
          have x4 := HD7.out.a4
          obtain ⟨E7, hE7⟩ : ∃ E7, E7 = min e e5 := ⟨_, rfl⟩
          rw [← hE7] at HDn HSn HKn ⊢
          clear hE7 HWV2 HD7 hl7 hL7 hF7 hb7 z1 z2 z3 z4 p0 p1 p2 p4 q3c hS hK hD HDc
          go_wp2
          go_roundw
          case rel =>
            exact ⟨n + 1, g7, a7, c7, f7, _, E7, by omega, by go_num, HSn, HKn, HDn⟩
          case measure => simp [intOf]; omega
        · have hws : ws n = -1 := by unfold ws; rw [if_neg h3]
          rw [hws] at q3c
          go_wp2_with fail
          refine (neg2_any g5 a5 c5 f5 m5 e5 _ (by omega) hP.out.l1).mono ?_
          rintro e6 W6 ⟨g6, f6, rfl, hl6, hL6, hb6⟩
          have HP6 : Hid (PX wr P g5 a5 c5 f5 m5 e5 W6) := hP.out.later hb6
          have HPn : Hid (PX wr P g6 a5 c5 f6 (-m5) e5 (((W6.setCell ⟨P, 0, none⟩ (.bool g6)).setCell ⟨P, 1, none⟩ (.slice a5 f6.length c5)).setCell ⟨P, 2, none⟩ (.int .i64 e5))) := PX.set HP6.out.p0 HP6.out.p1 HP6.out.p2 HP6.out.p4 HP6.out.lt HP6.out.ge hL6 (HP6.out.off.short hl6) (HP6.out.far.short hl6) HP6.out.bel
          have d0 := HP6.out.p0
          have d1 := HP6.out.p1
          have d2 := HP6.out.p2
          have d4 := HP6.out.p4
          have dL := HP6.out.lt
          have dA : w.heap.size + 8 < P := by have := HP6.out.ge; omega
          have HD6 : Hid (SD W0 (w.heap.size + 8) G a ca fs m e W6) := HDc.out.later hb6
          clear z1 z2 z3 z4 p0 p1 p2 p4 HDc hL6 hb6 HP6
          have z1 := HD6.out.a1
          have z2 := HD6.out.a2
          have z3 := HD6.out.a3
          have z4 := HD6.out.a4
          have HDc : Hid (SD W0 (w.heap.size + 8) G a ca fs m e (((W6.setCell ⟨P, 0, none⟩ (.bool g6)).setCell ⟨P, 1, none⟩ (.slice a5 f6.length c5)).setCell ⟨P, 2, none⟩ (.int .i64 e5))) := hD.out.later HPn.out.bel
          have dN : ¬ w.heap.size + 8 = P := by omega
          have dM : ¬ P = w.heap.size + 8 := by omega
          go_wp2_with fail
          refine (add2_any G g6 a a5 ca c5 fs f6 m (-m5) e e5 _ (by omega) (by omega) (by omega) (by omega) HDc.out.l1 HPn.out.l1).mono ?_
          rintro e7 W7 ⟨g7, a7, c7, f7, rfl, hl7, hL7, hF7, hb7⟩
          have HD7 : Hid (SD W0 (w.heap.size + 8) G a ca fs m e W7) := HDc.out.later hb7
          have HDn : Hid (SD W0 (w.heap.size + 8) g7 a7 c7 f7 (sumAt m e (-m5) e5) (min e e5) (((W7.setCell ⟨w.heap.size + 8, 0, none⟩ (.bool g7)).setCell ⟨w.heap.size + 8, 1, none⟩ (.slice a7 f7.length c7)).setCell ⟨w.heap.size + 8, 2, none⟩ (.int .i64 (min e e5)))) := HD7.out.lay hL7 (hF7.down (by have := HDc.out.lt; omega))
          have HSn : Hid (Sm (A + A + A) (n + 1) (sumAt m e (-m5) e5) (min e e5)) := hS.out.add hB5.out.neg
          have HKn : Hid (∀ K, 60000 ≤ K → atK K (sumAt m e (-m5) e5) (min e e5) = detV K ls (n + 1)) := by
            intro K hK6
            have h1 := sumAt_at (K := K) (m := m) (e := e) (m' := (-m5)) (e' := e5) (by omega) (by omega)
            show sumAt m e (-m5) e5 * 2 ^ (min e e5 + K).toNat = detV K ls n + wayV K ls n
            rw [h1, hK.out K hK6, HWV2.out K hK6, hws, atK_neg]
            omega
          have x1 := HD7.out.a1
          have x2 := HD7.out.a2
          have x3 := HD7.out.a3
          have x4 := HD7.out.a4
          obtain ⟨E7, hE7⟩ : ∃ E7, E7 = min e e5 := ⟨_, rfl⟩
          rw [← hE7] at HDn HSn HKn ⊢
          clear hE7 HWV2 HD7 hl7 hL7 hF7 hb7 z1 z2 z3 z4 q3c d0 d1 d2 d4 HPn HD6 hS hK hD HDc
          go_wp2
          go_roundw
          case rel =>
            exact ⟨n + 1, g7, a7, c7, f7, _, E7, by omega, by go_num, HSn, HKn, HDn⟩
          case measure => simp [intOf]; omega
    · have hn6 : n = 6 := by omega
      subst hn6
      have z1 := hD.out.a1
      have z2 := hD.out.a2
      have z3 := hD.out.a3
      have hA5 := HA.out
      have nS := hS.out.len (by decide) hD.out.l1
      obtain ⟨s0, s1, _⟩ := hS.out
      have q1 : wr.cell? ⟨w.heap.size, 0, none⟩ = some (.bool false) := (hbA.cell (by simp)).trans r1
      have q2 : wr.cell? ⟨w.heap.size, 1, none⟩ = some (.slice none 0 0) := (hbA.cell (by simp)).trans r2
      have q3 : wr.cell? ⟨w.heap.size, 2, none⟩ = some (.int .i64 0) := (hbA.cell (by simp)).trans r3
      have q4 : ∀ j, wr.frozen? ⟨w.heap.size, j, none⟩ = false := fun j => (hbA.frozen (by simp)).trans (HR4.out j)
      have HBw : Hid (Below w.heap.size w wr) := HB0.out.trans (hbA.mono (by omega))
      clear hbA r1 r2 r3
      go_wp2
      refine bodyPost_ret (v := .agg #[.bool G, .slice a fs.length ca, .int .i64 e]) (by simp [results, Tryd.results35, go_sem, q1, q2, q3]) rfl ?_
      refine ⟨G, a, ca, fs, m, e, rfl, by omega, by omega, s1, hK.out, ?_, hD.out.far.down (by omega), ?_⟩
      · exact ((hD.out.l1.setFar hD.out.far (by simp; omega) _).setFar hD.out.far (by simp; omega) _).setFar hD.out.far (by simp; omega) _
      · exact ((HBw.out.setCell (by simp) _).setCell (by simp) _).setCell (by simp) _

end Go.Proofs.YtladfpljnaippabDoor
