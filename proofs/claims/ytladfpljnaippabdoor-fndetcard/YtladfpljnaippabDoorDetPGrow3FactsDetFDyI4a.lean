/-
  The model's determinant: the sum over the six ways.
-/
import Derived.Test.YtladfpljnaippabDoorDrawOToDetO
import Derived.Deep.CutRange
import Derived.Maps.AppendAt
import Derived.Test.YtladfpljnaippabDoorBase
import Derived.OrdersHeld
import Derived.KernelRfl
import Derived.Test.YtladfpljnaippabDoorDyI3ToDraw1
namespace Go.Proofs.YtladfpljnaippabDoor
open Go.RowKit

theorem Sm.zero (B : Nat) : Sm B 0 0 0 := ⟨by decide, by decide, by rw [Int.natAbs_zero, Nat.zero_mul]; exact Nat.zero_le _⟩

theorem NormOf.at_mul {K x E m e y F : Int} {T : Nat} (h : NormOf x E m e T) (hK : 0 ≤ E + F + K) : atK K (m * y) (e + F) = atK K (x * y) (E + F) := by
  unfold atK
  rcases h with ⟨a1, a2, _⟩ | ⟨_, t, a2, a3, _⟩
  · rw [a1, a2]; simp
  · rw [a2, a3, show (E + ↑t + F + K).toNat = t + (E + F + K).toNat by omega, Int.pow_add]
    simp only [Int.mul_assoc, Int.mul_left_comm]

/-- The product of three numbers. -/
theorem way_prod {A : Nat} {m0 e0 m1 e1 m2 e2 m3 e3 m5 e5 : Int} {T T' : Nat} (h0 : Bd 20000 A m0 e0) (h1 : Bd 20000 A m1 e1) (h2 : Bd 20000 A m2 e2) (n1 : NormOf (m0 * m1) (e0 + e1) m3 e3 T) (n2 : NormOf (m3 * m2) (e3 + e2) m5 e5 T') :
    Bd 40000 (A + A) m3 e3 ∧ Bd 60000 (A + A + A) m5 e5 ∧ ∀ K, 60000 ≤ K → atK K m5 e5 = atK K (m0 * m1 * m2) (e0 + e1 + e2) := by
  have b3 : Bd 40000 (A + A) m3 e3 := Bd.mul (K := 20000) (K' := 20000) h0 h1 (by decide) n1
  have b5 : Bd 60000 (A + A + A) m5 e5 := Bd.mul (K := 40000) (K' := 20000) b3 h2 (by decide) n2
  refine ⟨b3, b5, fun K hK => ?_⟩
  have q0 := h0.1
  have q1 := h1.1
  have q2 := h2.1
  have q3 := b3.1
  rw [n2.at (by omega), n1.at_mul (by omega)]

theorem OffP.short {P : Nat} {a : Option Addr} {fs fs' : List Int} (h : OffP P a fs) (hl : fs'.length ≤ fs.length) : OffP P a fs' := by
  intro b o h1 h2
  refine h b o h1 ?_
  intro h3
  rw [h3] at hl
  exact h2 (List.length_eq_zero_iff.1 (by simpa using hl))

theorem Far.short {B : Nat} {a : Option Addr} {fs fs' : List Int} (h : Far B a fs) (hl : fs'.length ≤ fs.length) : Far B a fs' := by
  rcases h with h | h
  · rw [h] at hl
    exact .inl (List.length_eq_zero_iff.1 (by simpa using hl))
  · exact .inr h

/-- What the product's region reads. -/
theorem det_held {wr w' : World} {B b off n k0 k1 k2 : Nat} {ls : List LV} (hw : WaysAt wr B) (hr : RowL wr b off ls) (hlen : ls.length = 9) (hB : B + 8 ≤ wr.heap.size) (hn : n < 6) {v0 v1 v2 : LV} (i0 : ls.getD k0 default = v0) (i1 : ls.getD k1 default = v1) (i2 : ls.getD k2 default = v2) (e0 : wy n 0 = k0) (e1 : wy n 1 = k1) (e2 : wy n 2 = k2) (hb : Below wr.heap.size wr w') :
    w'.cell? ⟨B + 1 + n, 0, none⟩ = some (.int .i64 k0) ∧ w'.cell? ⟨B + 1 + n, 1, none⟩ = some (.int .i64 k1) ∧ w'.cell? ⟨B + 1 + n, 2, none⟩ = some (.int .i64 k2) ∧
    w'.cell? ⟨b, off + k0 * 3, none⟩ = some (.bool v0.g) ∧ w'.cell? ⟨b, off + k0 * 3 + 1, none⟩ = some (.slice v0.a v0.fs.length v0.c) ∧ w'.cell? ⟨b, off + k0 * 3 + 2, none⟩ = some (.int .i64 v0.e) ∧
    w'.cell? ⟨b, off + k1 * 3, none⟩ = some (.bool v1.g) ∧ w'.cell? ⟨b, off + k1 * 3 + 1, none⟩ = some (.slice v1.a v1.fs.length v1.c) ∧ w'.cell? ⟨b, off + k1 * 3 + 2, none⟩ = some (.int .i64 v1.e) ∧
    w'.cell? ⟨b, off + k2 * 3, none⟩ = some (.bool v2.g) ∧ w'.cell? ⟨b, off + k2 * 3 + 1, none⟩ = some (.slice v2.a v2.fs.length v2.c) ∧ w'.cell? ⟨b, off + k2 * 3 + 2, none⟩ = some (.int .i64 v2.e) ∧ Below wr.heap.size wr w' := by
  have hw' := hw.later hb (by omega) n hn
  have hr' := hr.later hb
  have l0 := wy_lt n 0 hn (by decide)
  have l1 := wy_lt n 1 hn (by decide)
  have l2 := wy_lt n 2 hn (by decide)
  obtain ⟨_, c1, c2, c3, _⟩ := hw'
  subst e0 e1 e2 i0 i1 i2
  exact ⟨c1, c2, c3, hr'.c0 _ (by omega), hr'.c1 _ (by omega), hr'.c2 _ (by omega), hr'.c0 _ (by omega), hr'.c1 _ (by omega), hr'.c2 _ (by omega), hr'.c0 _ (by omega), hr'.c1 _ (by omega), hr'.c2 _ (by omega), hb⟩

set_option maxRecDepth 100000 in
set_option maxHeartbeats 8000000 in
theorem det2_any {A : Nat} (hA : A = 56384) (b off c : Nat) (ls : List LV) (w : World) (hlen : ls.length = 9) (hbd : ∀ i, i < 9 → Bd 20000 A (ls.getD i default).m (ls.getD i default).e) (hr : RowL w b off ls) :
    Calls Tryd.prog 35 #[.slice (some ⟨b, off, none⟩) 9 c] w fun e w' => L2Sum w ls e w' := by
  have HS : Hid (∀ t0 t1 t2 t3 t4 t5 t6 t7 t8, WaysAt (((((((((w.alloc (.cells #[.bool false, .slice none 0 0, .int .i64 0] t0)).alloc (.cells #[.int .i64 0, .int .i64 4, .int .i64 8, .int .i64 1] t1)).alloc (.cells #[.int .i64 1, .int .i64 5, .int .i64 6, .int .i64 1] t2)).alloc (.cells #[.int .i64 2, .int .i64 3, .int .i64 7, .int .i64 1] t3)).alloc (.cells #[.int .i64 2, .int .i64 4, .int .i64 6, .int .i64 (-1)] t4)).alloc (.cells #[.int .i64 1, .int .i64 3, .int .i64 8, .int .i64 (-1)] t5)).alloc (.cells #[.int .i64 0, .int .i64 5, .int .i64 7, .int .i64 (-1)] t6)).alloc (.cells #[.slice (some ⟨w.heap.size + 1, 0, none⟩) 4 4, .slice (some ⟨w.heap.size + 1 + 1, 0, none⟩) 4 4, .slice (some ⟨w.heap.size + 1 + 1 + 1, 0, none⟩) 4 4, .slice (some ⟨w.heap.size + 1 + 1 + 1 + 1, 0, none⟩) 4 4, .slice (some ⟨w.heap.size + 1 + 1 + 1 + 1 + 1, 0, none⟩) 4 4, .slice (some ⟨w.heap.size + 1 + 1 + 1 + 1 + 1 + 1, 0, none⟩) 4 4] t7)).alloc (.cells #[.bool false, .slice none 0 0, .int .i64 0] t8)) w.heap.size) := fun t0 t1 t2 t3 t4 t5 t6 t7 t8 => ways_start w t0 t1 t2 t3 t4 t5 t6 t7 t8 _ _
  have HBd : Hid (∀ i, i < 9 → Bd 20000 A (ls.getD i default).m (ls.getD i default).e) := hbd
  have HRL : Hid (RowL w b off ls) := hr
  have HL : Hid (ls.length = 9) := hlen
  have HA : Hid (A = 56384) := hA
  clear hbd hr hlen hA
  go_enter Tryd.func35, Tryd.ntmps35
  go_wp2
  have HW0 := HS.out 66 3 3 3 3 3 3 62 66
  clear HS
  generalize hW0 : (World.alloc _ _) = W0 at HW0 ⊢
  have hs0 : W0.heap.size = w.heap.size + 9 := by rw [← hW0]; simp
  have hb0 : Below w.heap.size w W0 := by rw [← hW0]; exact (((((((((Below.refl _ _).alloc (by simp) _).alloc (by simp) _).alloc (by simp; omega) _).alloc (by simp; omega) _).alloc (by simp; omega) _).alloc (by simp; omega) _).alloc (by simp; omega) _).alloc (by simp; omega) _).alloc (by simp; omega) _
  have r1 : W0.cell? ⟨w.heap.size, 0, none⟩ = some (.bool false) := by rw [← hW0]; simp [go_sem]
  have r2 : W0.cell? ⟨w.heap.size, 1, none⟩ = some (.slice none 0 0) := by rw [← hW0]; simp [go_sem]
  have r3 : W0.cell? ⟨w.heap.size, 2, none⟩ = some (.int .i64 0) := by rw [← hW0]; simp [go_sem]
  have r4 : ∀ j, W0.frozen? ⟨w.heap.size, j, none⟩ = false := by intro j; rw [← hW0]; simp [go_sem]
  have hSD : SD W0 (w.heap.size + 8) false none 0 [] 0 0 W0 := by
    refine ⟨?_, ?_, ?_, ?_, L1.nil _, .inl rfl, by omega, Below.refl _ _⟩
    · rw [← hW0]; simp [go_sem]
    · rw [← hW0]; simp [go_sem]
    · rw [← hW0]; simp [go_sem]
    · intro j; rw [← hW0]; simp [go_sem]
  clear hW0
  have HW : Hid (WaysAt W0 w.heap.size) := HW0
  have HB0 : Hid (Below w.heap.size w W0) := hb0
  have HR4 : Hid (∀ j, W0.frozen? ⟨w.heap.size, j, none⟩ = false) := r4
  have HSD : Hid (SD W0 (w.heap.size + 8) false none 0 [] 0 0 W0) := hSD
  clear HW0 hb0 r4 hSD
  rw [show w.heap.size + 1 + 1 + 1 + 1 + 1 + 1 + 1 + 1 = w.heap.size + 8 from rfl, show w.heap.size + 1 + 1 + 1 + 1 + 1 + 1 + 1 = w.heap.size + 7 from rfl]
  go_loopw [5, 6, 7] (fun si _ _ wr => ∃ (n : Nat) (G : Bool) (a : Option Addr) (ca : Nat) (fs : List Int) (m e : Int), n ≤ 6 ∧ si = .int .i64 n ∧ Hid (Sm (A + A + A) n m e) ∧ Hid (∀ K, 60000 ≤ K → atK K m e = detV K ls n) ∧ Hid (SD W0 (w.heap.size + 8) G a ca fs m e wr)) (fun si _ _ _ => 6 - (intOf si).toNat)
  case atStart => exact ⟨0, false, none, 0, [], 0, 0, by decide, rfl, Sm.zero _, (fun K _ => by simp [atK, detV]), HSD⟩
  case round =>
    obtain ⟨n, G, a, ca, fs, m, e, hn, rfl, hS, hK, hD⟩ := hrel
    clear HSD
    have hbA := hD.out.bel
    have hsz : w.heap.size + 9 ≤ wr.heap.size := by have := hD.out.lt; omega
    by_cases hlt : n < 6
    · have HWr : Hid (WaysAt wr w.heap.size) := HW.out.later hbA (by omega)
      have HRr : Hid (RowL wr b off ls) := HRL.out.later (HB0.out.trans (hbA.mono (by omega)))
      obtain ⟨k0, e0⟩ : ∃ k0, wy n 0 = k0 := ⟨_, rfl⟩
      obtain ⟨k1, e1⟩ : ∃ k1, wy n 1 = k1 := ⟨_, rfl⟩
      obtain ⟨k2, e2⟩ : ∃ k2, wy n 2 = k2 := ⟨_, rfl⟩
      have l0 : k0 < 9 := e0 ▸ wy_lt n 0 hlt (by decide)
      have l1 : k1 < 9 := e1 ▸ wy_lt n 1 hlt (by decide)
      have l2 : k2 < 9 := e2 ▸ wy_lt n 2 hlt (by decide)
      obtain ⟨v0, i0⟩ : ∃ v0, ls.getD k0 default = v0 := ⟨_, rfl⟩
      obtain ⟨v1, i1⟩ : ∃ v1, ls.getD k1 default = v1 := ⟨_, rfl⟩
      obtain ⟨v2, i2⟩ : ∃ v2, ls.getD k2 default = v2 := ⟨_, rfl⟩
      have HWV : Hid (∀ K, wayV K ls n = ws n * atK K (v0.m * v1.m * v2.m) (v0.e + v1.e + v2.e)) := by intro K; unfold wayV; rw [e0, e1, e2, i0, i1, i2]
      have HBV : Hid (Bd 20000 A v0.m v0.e ∧ Bd 20000 A v1.m v1.e ∧ Bd 20000 A v2.m v2.e) := ⟨i0 ▸ HBd.out k0 l0, i1 ▸ HBd.out k1 l1, i2 ▸ HBd.out k2 l2⟩
      have HLV : Hid (L1 wr v0.g v0.a v0.c v0.fs v0.m ∧ L1 wr v1.g v1.a v1.c v1.fs v1.m ∧ L1 wr v2.g v2.a v2.c v2.fs v2.m) := ⟨i0 ▸ HRr.out.l1 k0 (by rw [HL.out]; exact l0), i1 ▸ HRr.out.l1 k1 (by rw [HL.out]; exact l1), i2 ▸ HRr.out.l1 k2 (by rw [HL.out]; exact l2)⟩
      have HH : Hid (∀ w', Below wr.heap.size wr w' → _) := fun w' hb => det_held HWr.out HRr.out HL.out (by omega) hlt i0 i1 i2 e0 e1 e2 hb
      have q7 := (HWr.out n hlt).1
      have q3 := (HWr.out n hlt).2.2.2.2
      clear hbA e0 e1 e2 i0 i1 i2
      have hib : (n : Int) < 6 := by omega
      go_wp2
      go_cut [7] from 16 to 52 (fun s7 wx => ∃ (P : Nat) (g5 : Bool) (a5 : Option Addr) (c5 : Nat) (f5 : List Int) (m5 e5 : Int), s7 = .pointer (some ⟨P, 0, none⟩) ∧ Hid (PX wr P g5 a5 c5 f5 m5 e5 wx) ∧ Hid (Bd 60000 (A + A + A) m5 e5) ∧ Hid (∀ K, 60000 ≤ K → atK K m5 e5 = atK K (v0.m * v1.m * v2.m) (v0.e + v1.e + v2.e)))
      case first =>
        obtain ⟨b0, b1, b2⟩ := HBV.out
        obtain ⟨L0, L1', L2'⟩ := HLV.out
        have hA5 := HA.out
        have t0 := b0.top (by omega)
        have t1 := b1.top (by omega)
        have t2 := b2.top (by omega)
        have y0 := b0.1
        have y1 := b1.1
        have y2 := b2.1
        have n0 := b0.len L0
        have n1 := b1.len L1'
        have n2 := b2.len L2'
        have ki0 : (k0 : Int) < 9 := by omega
        have ki1 : (k1 : Int) < 9 := by omega
        have ki2 : (k2 : Int) < 9 := by omega
        have kj0 : (0 : Int) ≤ k0 := by omega
        have kj1 : (0 : Int) ≤ k1 := by omega
        have kj2 : (0 : Int) ≤ k2 := by omega
        clear b0 b1 b2
        go_region_held3 (fun w' => w'.cell? ⟨w.heap.size + 1 + n, 0, none⟩ = some (.int .i64 k0) ∧ w'.cell? ⟨w.heap.size + 1 + n, 1, none⟩ = some (.int .i64 k1) ∧ w'.cell? ⟨w.heap.size + 1 + n, 2, none⟩ = some (.int .i64 k2) ∧ w'.cell? ⟨b, off + k0 * 3, none⟩ = some (.bool v0.g) ∧ w'.cell? ⟨b, off + k0 * 3 + 1, none⟩ = some (.slice v0.a v0.fs.length v0.c) ∧ w'.cell? ⟨b, off + k0 * 3 + 2, none⟩ = some (.int .i64 v0.e) ∧ w'.cell? ⟨b, off + k1 * 3, none⟩ = some (.bool v1.g) ∧ w'.cell? ⟨b, off + k1 * 3 + 1, none⟩ = some (.slice v1.a v1.fs.length v1.c) ∧ w'.cell? ⟨b, off + k1 * 3 + 2, none⟩ = some (.int .i64 v1.e) ∧ w'.cell? ⟨b, off + k2 * 3, none⟩ = some (.bool v2.g) ∧ w'.cell? ⟨b, off + k2 * 3 + 1, none⟩ = some (.slice v2.a v2.fs.length v2.c) ∧ w'.cell? ⟨b, off + k2 * 3 + 2, none⟩ = some (.int .i64 v2.e) ∧ Below wr.heap.size wr w')
          (first | exact HH.out _ (Below.refl _ _).drew | exact HH.out _ (by assumption) | exact HH.out _ (Below.alloc (held13 (by assumption)) (Below.size (held13 (by assumption))) _) | exact HH.out _ (Below.alloc (by assumption) (Below.size (by assumption)) _) | exact HH.out _ (Below.setCell (Below.setCell (Below.setCell (by assumption) (by first | (simp; done) | (simp; omega)) _) (by first | (simp; done) | (simp; omega)) _) (by first | (simp; done) | (simp; omega)) _))
          (first
            | (go_at_call_of 42 v0; refine (mul2_any v0.g v1.g v0.a v1.a v0.c v1.c v0.fs v1.fs v0.m v1.m v0.e v1.e _ (by omega) (by omega) (by omega) (by omega) (L0.later (held13 (by assumption))) (L1'.later (held13 (by assumption)))).mono ?_; rintro e w1 ⟨m3, e3, hn3, g3, a3, c3, f3, rfl, hl3, hL3, hF3, hb3⟩; have hB1 : Below wr.heap.size wr w1 := Below.trans (held13 (by assumption)) (Below.mono hb3 (Below.size (held13 (by assumption)))); have hs1 := hB1.size; have b3 := Bd.mul (K := 20000) (K' := 20000) HBV.out.1 HBV.out.2.1 (by decide) hn3; have t3 := b3.top (by omega); have y3 := b3.1; clear b3)
            | (go_at_call_of 42 v2; refine (mul2_any g3 v2.g a3 v2.a c3 v2.c f3 v2.fs m3 v2.m e3 v2.e _ (by omega) (by omega) (by omega) (by omega) ?_ (L2'.later (held13 (by assumption)))).mono ?_; (first | exact hL3 | exact hL3.later (bel0 _ _)); rintro e w2 ⟨m5, e5, hn5, g5, a5, c5, f5, rfl, hl5, hL5, hF5, hb5⟩; have hB2 : Below wr.heap.size wr w2 := Below.trans (held13 (by assumption)) (Below.mono hb5 (Below.size (held13 (by assumption)))); (first | (have hhc := ((Has3.new wr 66).later (Below.refl _ _).drew).later hb3; have hh := hhc.later hb5) | (have hhc := Has3.new w1 66; have hh := hhc.later hb5) | have hh : True := trivial); (try have r1 := hh.r1); (try have r2 := hh.r2); (try have r3 := hh.r3); (try have r4 := hh.r4)))
        all_goals
          have hW := way_prod HBV.out.1 HBV.out.2.1 HBV.out.2.2 hn3 hn5
          go_wp2_with fail
          go_meet
          case rel =>
            refine ⟨_, g5, a5, c5, f5, m5, e5, rfl, ?_, hW.2.1, hW.2.2⟩
            first
              | exact PX.start hL5 (hF5.down hs1) hB2 _
              | exact PX.set hh.r1 hh.r2 hh.r3 hh.r4 hh.lt (by first | exact Nat.le_refl _ | exact hs1) hL5 (OffP.of_far hF5 hhc.lt) (hF5.down (by first | exact hs1 | (simp; omega))) hB2
      case rest =>
        obtain ⟨P, g5, a5, c5, f5, m5, e5, rfl, hP, hB5, hV5⟩ := hcut
        have hA5 := HA.out
        have q3c : wc.cell? ⟨w.heap.size + 1 + n, 3, none⟩ = some (.int .i64 (ws n)) := (hP.out.bel.cell (by simp; omega)).trans q3
        have hWV : ∀ K, 60000 ≤ K → wayV K ls n = ws n * atK K m5 e5 := fun K hK => by rw [HWV.out, hV5.out K hK]
        have HWV2 : Hid (∀ K, 60000 ≤ K → wayV K ls n = ws n * atK K m5 e5) := hWV
        have p0 := hP.out.p0
        have p1 := hP.out.p1
        have p2 := hP.out.p2
        have p4 := hP.out.p4
        have pL := hP.out.lt
        have n5 := hB5.out.len hP.out.l1
        have t5 := hB5.out.top (by omega)
        have y5 := hB5.out.1
        have HDc : Hid (SD W0 (w.heap.size + 8) G a ca fs m e wc) := hD.out.later hP.out.bel
        have nS := hS.out.len hn HDc.out.l1
        obtain ⟨s0, s1, _⟩ := hS.out
        have z1 := HDc.out.a1
        have z2 := HDc.out.a2
        have z3 := HDc.out.a3
        have z4 := HDc.out.a4
        clear hWV HWV hV5 q3 q7 HH HBV HLV
        by_cases h3 : n < 3
        · have hws : ws n = 1 := by unfold ws; rw [if_pos h3]
          rw [hws] at q3c
          go_wp2_with fail
          refine (add2_any G g5 a a5 ca c5 fs f5 m m5 e e5 _ (by omega) (by omega) (by omega) (by omega) HDc.out.l1 hP.out.l1).mono ?_
          rintro e7 W7 ⟨g7, a7, c7, f7, rfl, hl7, hL7, hF7, hb7⟩
          have HD7 : Hid (SD W0 (w.heap.size + 8) G a ca fs m e W7) := HDc.out.later hb7
          have HDn : Hid (SD W0 (w.heap.size + 8) g7 a7 c7 f7 (sumAt m e m5 e5) (min e e5) (((W7.setCell ⟨w.heap.size + 8, 0, none⟩ (.bool g7)).setCell ⟨w.heap.size + 8, 1, none⟩ (.slice a7 f7.length c7)).setCell ⟨w.heap.size + 8, 2, none⟩ (.int .i64 (min e e5)))) := HD7.out.lay hL7 (hF7.down (by have := HDc.out.lt; omega))
          have HSn : Hid (Sm (A + A + A) (n + 1) (sumAt m e m5 e5) (min e e5)) := hS.out.add hB5.out
          have HKn : Hid (∀ K, 60000 ≤ K → atK K (sumAt m e m5 e5) (min e e5) = detV K ls (n + 1)) := by
            intro K hK6
            have h1 := sumAt_at (K := K) (m := m) (e := e) (m' := m5) (e' := e5) (by omega) (by omega)
            show sumAt m e m5 e5 * 2 ^ (min e e5 + K).toNat = detV K ls n + wayV K ls n
            rw [h1, hK.out K hK6, HWV2.out K hK6, hws]
            omega
          have x1 := HD7.out.a1
          have x2 := HD7.out.a2
          have x3 := HD7.out.a3
          have x4 := HD7.out.a4
          obtain ⟨E7, hE7⟩ : ∃ E7, E7 = min e e5 := ⟨_, rfl⟩
          rw [← hE7] at HDn HSn HKn ⊢
          clear hE7 HWV2 HD7 hl7 hL7 hF7 hb7 z1 z2 z3 z4 p0 p1 p2 p4 q3c hS hK hD HDc
          go_wp2
          go_roundw
          case rel =>
            exact ⟨n + 1, g7, a7, c7, f7, _, E7, by omega, by go_num, HSn, HKn, HDn⟩
          case measure => simp [intOf]; omega
        · have hws : ws n = -1 := by unfold ws; rw [if_neg h3]
          rw [hws] at q3c
          go_wp2_with fail
          refine (neg2_any g5 a5 c5 f5 m5 e5 _ (by omega) hP.out.l1).mono ?_
          rintro e6 W6 ⟨g6, f6, rfl, hl6, hL6, hb6⟩
          have HP6 : Hid (PX wr P g5 a5 c5 f5 m5 e5 W6) := hP.out.later hb6
          have HPn : Hid (PX wr P g6 a5 c5 f6 (-m5) e5 (((W6.setCell ⟨P, 0, none⟩ (.bool g6)).setCell ⟨P, 1, none⟩ (.slice a5 f6.length c5)).setCell ⟨P, 2, none⟩ (.int .i64 e5))) := PX.set HP6.out.p0 HP6.out.p1 HP6.out.p2 HP6.out.p4 HP6.out.lt HP6.out.ge hL6 (HP6.out.off.short hl6) (HP6.out.far.short hl6) HP6.out.bel
          have d0 := HP6.out.p0
          have d1 := HP6.out.p1
          have d2 := HP6.out.p2
          have d4 := HP6.out.p4
          have dL := HP6.out.lt
          have dA : w.heap.size + 8 < P := by have := HP6.out.ge; omega
          have HD6 : Hid (SD W0 (w.heap.size + 8) G a ca fs m e W6) := HDc.out.later hb6
          clear z1 z2 z3 z4 p0 p1 p2 p4 HDc hL6 hb6 HP6
          have z1 := HD6.out.a1
          have z2 := HD6.out.a2
          have z3 := HD6.out.a3
          have z4 := HD6.out.a4
          have HDc : Hid (SD W0 (w.heap.size + 8) G a ca fs m e (((W6.setCell ⟨P, 0, none⟩ (.bool g6)).setCell ⟨P, 1, none⟩ (.slice a5 f6.length c5)).setCell ⟨P, 2, none⟩ (.int .i64 e5))) := hD.out.later HPn.out.bel
          have dN : ¬ w.heap.size + 8 = P := by omega
          have dM : ¬ P = w.heap.size + 8 := by omega
          go_wp2_with fail
          refine (add2_any G g6 a a5 ca c5 fs f6 m (-m5) e e5 _ (by omega) (by omega) (by omega) (by omega) HDc.out.l1 HPn.out.l1).mono ?_
          rintro e7 W7 ⟨g7, a7, c7, f7, rfl, hl7, hL7, hF7, hb7⟩
          have HD7 : Hid (SD W0 (w.heap.size + 8) G a ca fs m e W7) := HDc.out.later hb7
          have HDn : Hid (SD W0 (w.heap.size + 8) g7 a7 c7 f7 (sumAt m e (-m5) e5) (min e e5) (((W7.setCell ⟨w.heap.size + 8, 0, none⟩ (.bool g7)).setCell ⟨w.heap.size + 8, 1, none⟩ (.slice a7 f7.length c7)).setCell ⟨w.heap.size + 8, 2, none⟩ (.int .i64 (min e e5)))) := HD7.out.lay hL7 (hF7.down (by have := HDc.out.lt; omega))
          have HSn : Hid (Sm (A + A + A) (n + 1) (sumAt m e (-m5) e5) (min e e5)) := hS.out.add hB5.out.neg
          have HKn : Hid (∀ K, 60000 ≤ K → atK K (sumAt m e (-m5) e5) (min e e5) = detV K ls (n + 1)) := by
            intro K hK6
            have h1 := sumAt_at (K := K) (m := m) (e := e) (m' := (-m5)) (e' := e5) (by omega) (by omega)
            show sumAt m e (-m5) e5 * 2 ^ (min e e5 + K).toNat = detV K ls n + wayV K ls n
            rw [h1, hK.out K hK6, HWV2.out K hK6, hws, atK_neg]
            omega
          have x1 := HD7.out.a1
          have x2 := HD7.out.a2
          have x3 := HD7.out.a3
          have x4 := HD7.out.a4
          obtain ⟨E7, hE7⟩ : ∃ E7, E7 = min e e5 := ⟨_, rfl⟩
          rw [← hE7] at HDn HSn HKn ⊢
          clear hE7 HWV2 HD7 hl7 hL7 hF7 hb7 z1 z2 z3 z4 q3c d0 d1 d2 d4 HPn HD6 hS hK hD HDc
          go_wp2
          go_roundw
          case rel =>
            exact ⟨n + 1, g7, a7, c7, f7, _, E7, by omega, by go_num, HSn, HKn, HDn⟩
          case measure => simp [intOf]; omega
    · have hn6 : n = 6 := by omega
      subst hn6
      have z1 := hD.out.a1
      have z2 := hD.out.a2
      have z3 := hD.out.a3
      have hA5 := HA.out
      have nS := hS.out.len (by decide) hD.out.l1
      obtain ⟨s0, s1, _⟩ := hS.out
      have q1 : wr.cell? ⟨w.heap.size, 0, none⟩ = some (.bool false) := (hbA.cell (by simp)).trans r1
      have q2 : wr.cell? ⟨w.heap.size, 1, none⟩ = some (.slice none 0 0) := (hbA.cell (by simp)).trans r2
      have q3 : wr.cell? ⟨w.heap.size, 2, none⟩ = some (.int .i64 0) := (hbA.cell (by simp)).trans r3
      have q4 : ∀ j, wr.frozen? ⟨w.heap.size, j, none⟩ = false := fun j => (hbA.frozen (by simp)).trans (HR4.out j)
      have HBw : Hid (Below w.heap.size w wr) := HB0.out.trans (hbA.mono (by omega))
      clear hbA r1 r2 r3
      go_wp2
      refine bodyPost_ret (v := .agg #[.bool G, .slice a fs.length ca, .int .i64 e]) (by simp [results, Tryd.results35, go_sem, q1, q2, q3]) rfl ?_
      refine ⟨G, a, ca, fs, m, e, rfl, by omega, by omega, s1, hK.out, ?_, hD.out.far.down (by omega), ?_⟩
      · exact ((hD.out.l1.setFar hD.out.far (by simp; omega) _).setFar hD.out.far (by simp; omega) _).setFar hD.out.far (by simp; omega) _
      · exact ((HBw.out.setCell (by simp) _).setCell (by simp) _).setCell (by simp) _

end Go.Proofs.YtladfpljnaippabDoor

/-
  Appending a struct of three cells to a slice of the call's own: the model's lists of numbers.
-/
namespace Go.Proofs.YtladfpljnaippabDoor
open Go.RowKit

def LV.cells (l : LV) : List Value := [.bool l.g, .slice l.a l.fs.length l.c, .int .i64 l.e]
/-- The numbers as cells. -/
def lcells (ls : List LV) : List Value := ls.flatMap LV.cells

theorem lcells_snoc (ls : List LV) (l : LV) : lcells ls ++ l.cells = lcells (ls ++ [l]) := by simp [lcells]
theorem lcells_length : ∀ ls : List LV, (lcells ls).length = ls.length * 3
  | [] => rfl
  | l :: ls => by
    have := lcells_length ls
    simp only [lcells, List.flatMap_cons, List.length_append, List.length_cons] at this ⊢
    rw [this]
    simp [LV.cells]
    omega

theorem lcells_get : ∀ (ls : List LV) (i j : Nat), i < ls.length → j < 3 → (lcells ls)[i * 3 + j]? = (ls.getD i default).cells[j]?
  | [], i, j, h, _ => absurd h (by simp)
  | l :: ls, 0, j, _, hj => by
    simp only [lcells, List.flatMap_cons, List.getD_cons_zero, Nat.zero_mul, Nat.zero_add]
    rw [List.getElem?_append_left (by simpa [LV.cells] using hj)]
  | l :: ls, i + 1, j, h, hj => by
    have := lcells_get ls i j (by simpa using h) hj
    simp only [lcells, List.flatMap_cons, List.getD_cons_succ] at this ⊢
    rw [List.getElem?_append_right (by simp [LV.cells]; omega), ← this]
    congr 1
    simp [LV.cells]
    omega

/-- The row lies in another block than the slice v. -/
def OffV (v : Value) (a : Option Addr) (fs : List Int) : Prop := ∀ b o, a = some ⟨b, o, none⟩ → fs ≠ [] → v.ownBlock ≠ some b

theorem L1.stay {w w' : World} {v : Value} {g : Bool} {a : Option Addr} {c : Nat} {ds : List Int} {x : Int} (h : L1 w g a c ds x) (ho : OffV v a ds) (hs : w.heap.size ≤ w'.heap.size) (hk : ∀ j, j < w.heap.size → v.ownBlock ≠ some j → w'.heap[j]? = w.heap[j]?) : L1 w' g a c ds x := by
  refine ⟨⟨h.sl.fits, h.sl.nil, ?_⟩, h.can, h.num, h.zero, h.cap⟩
  rcases h.sl.row with h | ⟨b, off, h1, h2, h3⟩
  · exact .inl h
  · by_cases hd : ds = []
    · exact .inl hd
    · have hb := ho b off h1 hd
      refine .inr ⟨b, off, h1, by omega, fun j hj => ?_⟩
      rw [World.cell?_of_block (w := w) (hk b h2 hb)]
      exact h3 j hj

/-- The slice v of the call's own, the numbers ls in it. -/
structure AllAt (w : World) (base : Nat) (v : Value) (ls : List LV) (W : World) : Prop where
  own : W.ownsRow base 66 3 v ls.length (lcells ls)
  l1 : ∀ i, i < ls.length → L1 W (ls.getD i default).g (ls.getD i default).a (ls.getD i default).c (ls.getD i default).fs (ls.getD i default).m
  off : ∀ i, i < ls.length → OffV v (ls.getD i default).a (ls.getD i default).fs
  bel : Below base w W
  ge : base ≤ W.heap.size

theorem own3_block {w : World} {base : Nat} {e : TypeId} {v : Value} {n : Nat} {xs : List Value} (h : w.ownsRow base e 3 v n xs) {j : Nat} (hj : v.ownBlock = some j) : j < w.heap.size ∧ base ≤ j := by
  rcases h.2 with ⟨h1, _⟩ | ⟨g, cap, cur, h1, h2, h3, h4⟩
  · rw [h1] at hj; simp [Value.ownBlock] at hj
  · rw [h1] at hj
    simp [Value.ownBlock] at hj
    subst hj
    refine ⟨?_, h2⟩
    by_cases hp : g < w.heap.size
    · exact hp
    · rw [Array.getElem?_eq_none (by omega)] at h3; cases h3

theorem own3_later {w w' : World} {base : Nat} {e : TypeId} {v : Value} {n : Nat} {xs : List Value} (h : w.ownsRow base e 3 v n xs) (hb : Below w.heap.size w w') : w'.ownsRow base e 3 v n xs := by
  refine ⟨h.1, ?_⟩
  rcases h.2 with h1 | ⟨g, cap, cur, h1, h2, h3, h4⟩
  · exact .inl h1
  · have hg : g < w.heap.size := by
      by_cases hp : g < w.heap.size
      · exact hp
      · rw [Array.getElem?_eq_none (by omega)] at h3; cases h3
    exact .inr ⟨g, cap, cur, h1, h2, (hb.block g hg).trans h3, h4⟩

theorem AllAt.later {w W W' : World} {base : Nat} {v : Value} {ls : List LV} (h : AllAt w base v ls W) (hb : Below W.heap.size W W') : AllAt w base v ls W' :=
  ⟨own3_later h.own hb, fun i hi => (h.l1 i hi).later hb, h.off, h.bel.trans (hb.mono h.ge), Nat.le_trans h.ge hb.size⟩

theorem AllAt.start (w W : World) (base : Nat) (hb : Below base w W) (hg : base ≤ W.heap.size) : AllAt w base (.slice none 0 0) [] W :=
  ⟨World.ownsRow_nil _ _ _ _, (fun i hi => absurd hi (by simp)), (fun i hi => absurd hi (by simp)), hb, hg⟩

theorem getD_snoc (ls : List LV) (l : LV) (i : Nat) (hi : i < (ls ++ [l]).length) : (i < ls.length ∧ (ls ++ [l]).getD i default = ls.getD i default) ∨ (i = ls.length ∧ (ls ++ [l]).getD i default = l) := by
  by_cases h : i < ls.length
  · exact .inl ⟨h, by simp [List.getD_eq_getElem?_getD, List.getElem?_append_left h]⟩
  · have : i = ls.length := by simp at hi; omega
    subst this
    exact .inr ⟨rfl, by simp [List.getD_eq_getElem?_getD]⟩

theorem info_l2dy : (Tryd.prog.info? 66).map (fun i => (i.zero, i.size, i.bytes)) = some (some (.agg #[.bool false, .slice none 0 0, .int .i64 0]), 3, 40) := by kernel_rfl

/-- 'append(s, x)' of one number: its place is the call's own, its digits lie elsewhere. -/
theorem app3 {l : LV} {w w0 : World} {ops : Array Oper} {rest : List Oper} {o : Oper} {a : Act} {Q : Exit → Act → World → Prop} (hgd : o.guard = none) (s x : Operand)
    (ho : o.op = .call { callee := .builtin .append, args := #[s, x], argTypes := #[60, 60] })
    (base : Nat) (sv : Value) (ls : List LV) (hs : a.eval s = sv) (hx : a.eval x = .slice (some ⟨w0.heap.size, 0, none⟩) 1 1) (hall : AllAt w base sv ls w0) (hl : L1 w0 l.g l.a l.c l.fs l.m) (hoff : OffV sv l.a l.fs) (hn : ls.length ≤ 1048576)
    (h : ∀ a' n' c' w', AllAt w base (.slice a' n' c') (ls ++ [l]) w' → wpList Tryd.prog ops Q rest (a.put o.dst (.slice a' n' c')) w') :
    wpList Tryd.prog ops Q (o :: rest) a (w0.alloc (.cells #[.bool l.g, .slice l.a l.fs.length l.c, .int .i64 l.e] 66)) := by
  obtain ⟨i0, hi, hz0, hz1, hz2⟩ := info_parts info_l2dy
  have hb0 := bel0 w0 (.cells #[.bool l.g, .slice l.a l.fs.length l.c, .int .i64 l.e] 66)
  have hall' := hall.later hb0
  refine wpList_append_own_at _ hgd s x 60 ho base 66 i0 _ 3 40 Tryd.underlying60 hi hz0 hz1 hz2 rfl (by decide) sv ls.length (lcells ls) hs hall'.own ⟨w0.heap.size, 0, none⟩ 1 1 l.cells hx rfl ?_ ?_ ?_ ?_ ?_ ?_
  · intro j u hj
    match j, hj with
    | 0, hj => simp [LV.cells] at hj; subst hj; simp [Addr.add]
    | 1, hj => simp [LV.cells] at hj; subst hj; simp [Addr.add]
    | 2, hj => simp [LV.cells] at hj; subst hj; simp [Addr.add]
    | k + 3, hj => simp [LV.cells] at hj
  · intro u hu
    simp [LV.cells] at hu
    rcases hu with rfl | rfl | rfl <;> rfl
  · unfold maxLen; omega
  · omega
  · exact hall'.ge
  · intro v' w' hown' hgrow _ hwhere
    obtain ⟨a', n', c', rfl⟩ : ∃ a' n' c', v' = .slice a' n' c' := by
      rcases hown'.2 with ⟨h1, _⟩ | ⟨g, cap, cur, h1, _⟩
      · exact ⟨_, _, _, h1⟩
      · exact ⟨_, _, _, h1⟩
    have hsz : w0.heap.size < w'.heap.size := by
      have := hgrow.size
      simp at this
      omega
    have hk : ∀ j, j < w0.heap.size → sv.ownBlock ≠ some j → w'.heap[j]? = w0.heap[j]? := by
      intro j hj hne
      rw [hgrow.block j (by simp; omega) (fun e => hne e.symm)]
      exact hb0.block j hj
    have hov : ∀ (b : Nat), b < w0.heap.size → sv.ownBlock ≠ some b → (Value.slice a' n' c').ownBlock ≠ some b := by
      intro b hb hne he
      rcases hwhere with hw | hw
      · exact hne (hw ▸ he)
      · rw [hw] at he
        injection he with he
        simp at he
        omega
    have lift : ∀ (g : Bool) (a : Option Addr) (c : Nat) (fs : List Int) (m : Int), L1 w0 g a c fs m → OffV sv a fs → L1 w' g a c fs m ∧ OffV (.slice a' n' c') a fs := by
      intro g a c fs m hL hO
      refine ⟨hL.stay hO (by omega) hk, fun b o h1 h2 => ?_⟩
      refine hov b ?_ (hO b o h1 h2)
      rcases hL.sl.row with hr | ⟨b', o', h3, h4, _⟩
      · exact absurd hr h2
      · rw [h1] at h3
        injection h3 with h3
        have : b = b' := congrArg Addr.block h3
        omega
    refine h a' n' c' w' ⟨?_, ?_, ?_, ?_, ?_⟩
    · rw [lcells_snoc] at hown'
      simpa using hown'
    · intro i hi
      rcases getD_snoc ls l i hi with ⟨h1, h2⟩ | ⟨_, h2⟩
      · rw [h2]; exact (lift _ _ _ _ _ (hall.l1 i h1) (hall.off i h1)).1
      · rw [h2]; exact (lift _ _ _ _ _ hl hoff).1
    · intro i hi
      rcases getD_snoc ls l i hi with ⟨h1, h2⟩ | ⟨_, h2⟩
      · rw [h2]; exact (lift _ _ _ _ _ (hall.l1 i h1) (hall.off i h1)).2
      · rw [h2]; exact (lift _ _ _ _ _ hl hoff).2
    · refine hall'.bel.grown hgrow hall'.ge ?_
      intro kk hkk
      have := (own3_block hall.own hkk).2
      omega
    · exact Nat.le_trans hall.ge (by omega)

/-- The list, whole. -/
theorem AllAt.row {w W : World} {base : Nat} {v : Value} {ls : List LV} (h : AllAt w base v ls W) (hne : ls ≠ []) : ∃ b c, v = .slice (some ⟨b, 0, none⟩) ls.length c ∧ base ≤ b ∧ RowL W b 0 ls := by
  rcases h.own.2 with ⟨_, h2⟩ | ⟨g, cap, cur, h1, h2, h3, h4, h5, h6, h7⟩
  · exact absurd (List.length_eq_zero_iff.1 h2) hne
  · have hg : g < W.heap.size := by
      by_cases hp : g < W.heap.size
      · exact hp
      · rw [Array.getElem?_eq_none (by omega)] at h3; cases h3
    have hc : ∀ i j, i < ls.length → j < 3 → W.cell? ⟨g, 0 + i * 3 + j, none⟩ = (ls.getD i default).cells[j]? := by
      intro i j hi hj
      have h8 : (cur.toList.take (ls.length * 3))[i * 3 + j]? = (lcells ls)[i * 3 + j]? := by rw [h7]
      rw [List.getElem?_take, if_pos (by omega), lcells_get ls i j hi hj] at h8
      simp only [World.cell?, h3, Nat.zero_add]
      rw [← h8]
      simp
    refine ⟨g, cap, h1, h2, hg, fun i hi => ?_, fun i hi => ?_, fun i hi => ?_, h.l1⟩
    · exact hc i 0 hi (by decide)
    · exact hc i 1 hi (by decide)
    · exact hc i 2 hi (by decide)

end Go.Proofs.YtladfpljnaippabDoor

/-
  A region whose operations come up in any order, told by what each of them leaves.
-/
namespace Go.Proofs.YtladfpljnaippabDoor
open Go.RowKit

section
variable {P : Program} {ops : Array Oper} {Q : Exit → Act → World → Prop} {md : Region.Mode}

/-- The first m operations come up in any order; of each that has come up, F tells what it has left. -/
structure Fd (md : Region.Mode) (ops : Array Oper) (m : Nat) (F : Nat → Value → World → Prop) (a0 : Act) (w0 : World) (listed : Array Bool) (a : Act) (w : World) : Prop where
  sz : a.tmps.size = a0.tmps.size
  df : a.defers = a0.defers
  old : ∀ t, (∀ i o, i < m → ops[i]? = some o → o.dst ≠ some t) → a.tmps.getD t undef = a0.tmps.getD t undef
  got : ∀ i o t, i < m → ops[i]? = some o → o.dst = some t → listed.getD i false = true → F i (a.tmps.getD t undef) w
  ls : listed.size = ops.size
  new : ∀ i, m ≤ i → i < ops.size → listed.getD i true = false
  cl : ∀ i o, ops[i]? = some o → listed.getD i false = true → ∀ e ∈ o.after, Region.binds md e = true → listed.getD e.on false = true
  bel : Below w0.heap.size w0 w

/-- What is asked of the region's text. -/
structure Text (md : Region.Mode) (ops : Array Oper) (m n : Nat) : Prop where
  lt : m < ops.size
  pos : 0 < m
  dst : ∀ i o, i < m → ops[i]? = some o → ∃ t, o.dst = some t ∧ t < n
  inj : ∀ i j o o', i < m → j < m → ops[i]? = some o → ops[j]? = some o' → o.dst = o'.dst → i = j
  back : ∀ i o, i < m → ops[i]? = some o → ∀ e ∈ o.after, e.on < i
  late : ∀ i o, m ≤ i → ops[i]? = some o → ∃ e ∈ o.after, Region.binds md e = true ∧ m - 1 ≤ e.on ∧ e.on < ops.size
  all : ∀ L : Nat → Bool, (∀ i o, i < m → ops[i]? = some o → L i = true → ∀ e ∈ o.after, Region.binds md e = true → L e.on = true) → L (m - 1) = true → ∀ i, i < m → L i = true

theorem getD_tt {l : Array Bool} {i : Nat} (hi : i < l.size) (x y : Bool) : l.getD i x = l.getD i y := by
  simp [hi]

theorem count_set_tt {l : Array Bool} {i : Nat} (h : l.getD i true = false) : (l.setIfInBounds i true).toList.count true = l.toList.count true + 1 := by
  have hi : i < l.size := by
    rcases Nat.lt_or_ge i l.size with h' | h'
    · exact h'
    · simp [Array.getElem?_eq_none h'] at h
  have hl : l.toList[i]'(by simpa using hi) = false := by simpa [hi] using h
  rw [Array.toList_setIfInBounds, List.count_set (by simpa using hi), hl]
  simp

theorem count_all {l : Array Bool} (h : l.toList.count true = l.size) : ∀ i, i < l.size → l.getD i true = true := by
  intro i hi
  have h1 : l.toList.count true = l.toList.length := by simpa using h
  have h2 := List.count_eq_length.1 h1 (l.toList[i]'(by simpa using hi)) (List.getElem_mem _)
  simpa [hi] using h2.symm

theorem put_getD {a : Act} {d : Nat} {v : Value} (hd : d < a.tmps.size) (t : Nat) : (a.put (some d) v).tmps.getD t undef = if t = d then v else a.tmps.getD t undef := by
  unfold Act.put
  by_cases h : t = d
  · subst h
    simp [hd]
  · rw [if_neg h]
    simp [Array.getElem?_setIfInBounds_ne (Ne.symm h)]

theorem least_out {p : Nat → Bool} : ∀ m, (∃ i, i < m ∧ p i = false) → ∃ i, i < m ∧ p i = false ∧ ∀ j, j < i → p j = true
  | 0, ⟨i, hi, _⟩ => by omega
  | m + 1, h => by
    by_cases hm : ∃ i, i < m ∧ p i = false
    · obtain ⟨i, hi, h1, h2⟩ := least_out m hm
      exact ⟨i, by omega, h1, h2⟩
    · obtain ⟨i, hi, h1⟩ := h
      have hall : ∀ j, j < m → p j = true := fun j hj => by
        cases hp : p j
        · exact absurd ⟨j, hj, hp⟩ hm
        · rfl
      have him : i = m := by
        rcases Nat.lt_or_ge i m with h' | h'
        · rw [hall i h'] at h1
          cases h1
        · omega
      subst him
      exact ⟨i, by omega, h1, hall⟩

theorem facts_any {m n : Nat} {F : Nat → Value → World → Prop} {a0 : Act} {w0 : World} (T : Text md ops m n) (hn : a0.tmps.size = n)
    (hF : ∀ i v w w', Below w.heap.size w w' → F i v w → F i v w')
    (hstep : ∀ i o, i < m → ops[i]? = some o → ∀ a w, (∀ t, (∀ i o, i < m → ops[i]? = some o → o.dst ≠ some t) → a.tmps.getD t undef = a0.tmps.getD t undef) → Below w0.heap.size w0 w →
      (∀ e ∈ o.after, Region.binds md e = true → ∀ o' t, ops[e.on]? = some o' → o'.dst = some t → F e.on (a.tmps.getD t undef) w) →
      wpOp P ops Q i (fun a' w' => Below w.heap.size w w' ∧ ∃ v, a' = a.put o.dst v ∧ F i v w') a w)
    (hend : ∀ listed a w, (∀ i, i < m → listed.getD i false = true) → Fd md ops m F a0 w0 listed a w → listed.toList.count true = m → wpAny P md ops Q (ops.size - m) listed a w) :
    ∀ fuel listed a w, Fd md ops m F a0 w0 listed a w → fuel + listed.toList.count true = ops.size → wpAny P md ops Q fuel listed a w := by
  intro fuel
  induction fuel with
  | zero =>
    intro listed a w hI hc
    have h1 := count_all (l := listed) (by rw [hI.ls]; omega) m (by rw [hI.ls]; exact T.lt)
    rw [hI.new m (Nat.le_refl _) T.lt] at h1
    cases h1
  | succ f ih =>
    intro listed a w hI hc
    by_cases hall : ∀ i, i < m → listed.getD i false = true
    · have hcm : listed.toList.count true = m := by
        have e : listed.toList = (List.replicate m true) ++ (List.replicate (ops.size - m) false) := by
          apply List.ext_getElem
          · simp [hI.ls]
            have := T.lt
            omega
          · intro i h1 h2
            have hi : i < listed.size := by simpa using h1
            by_cases him : i < m
            · have := hall i him
              rw [List.getElem_append_left (by simpa using him)]
              simpa [hi] using this
            · have := hI.new i (by omega) (by rw [← hI.ls]; exact hi)
              rw [List.getElem_append_right (by simp; omega)]
              simpa [hi] using this
        rw [e, List.count_append]
        simp [List.count_replicate]
      have hf : f + 1 = ops.size - m := by omega
      rw [hf]
      exact hend listed a w hall hI hcm
    · have hlt := T.lt
      have hgs : ∀ i, i < m → listed.getD i true = listed.getD i false := fun i hi => getD_tt (by rw [hI.ls]; omega) _ _
      have hclN : ∀ i o, i < m → ops[i]? = some o → listed.getD i false = true → ∀ e ∈ o.after, Region.binds md e = true → listed.getD e.on false = true := fun i o _ ho hl => hI.cl i o ho hl
      refine ⟨fun hr => ?_, fun i hi => ?_⟩
      · exfalso
        have hex : ∃ i, i < m ∧ listed.getD i false = false := by
          apply Classical.byContradiction
          intro hno
          apply hall
          intro i hi
          cases hp : listed.getD i false
          · exact absurd ⟨i, hi, hp⟩ hno
          · rfl
        obtain ⟨i, hi, h1, h2⟩ := least_out (p := fun i => listed.getD i false) m hex
        have hio : i < ops.size := by omega
        have hmem : i ∈ Region.ready md ops listed := mem_ready.2 ⟨by rw [hgs i hi]; exact h1, ops[i], by simp [hio], fun e he _ => h2 e.on (T.back i ops[i] hi (by simp [hio]) e he)⟩
        rw [hr] at hmem
        cases hmem
      · obtain ⟨hun, o, ho, haft⟩ := mem_ready.1 hi
        have him : i < m := by
          apply Classical.byContradiction
          intro hge
          obtain ⟨e, he, hb, h1, h2⟩ := T.late i o (by omega) ho
          have h3 := haft e he hb
          by_cases hem : m ≤ e.on
          · have h4 := hI.new e.on hem h2
            rw [getD_tt (by rw [hI.ls]; exact h2) true false, h3] at h4
            cases h4
          · have hie : e.on = m - 1 := by omega
            rw [hie] at h3
            exact hall (T.all (fun i => listed.getD i false) hclN h3)
        obtain ⟨d, hd, hdn⟩ := T.dst i o him ho
        refine wpOp_mono ?_ (hstep i o him ho a w hI.old hI.bel (fun e he hb o' t ho' ht => hI.got e.on o' t (by have := T.back i o him ho e he; omega) ho' ht (haft e he hb)))
        rintro a' w' ⟨hB, v, rfl, hv⟩
        have hda : d < a.tmps.size := by rw [hI.sz, hn]; exact hdn
        rw [hd]
        refine ih _ _ _ ⟨?_, ?_, ?_, ?_, ?_, ?_, ?_, ?_⟩ ?_
        · simp [Act.put, hI.sz]
        · exact hI.df
        · intro t ht
          rw [put_getD hda, if_neg (fun e => ht i o him ho (by rw [hd, e])), hI.old t ht]
        · intro j o' t hj ho' ht hl
          rw [put_getD hda]
          by_cases hij : j = i
          · subst hij
            rw [ho] at ho'
            cases ho'
            rw [hd] at ht
            cases ht
            rw [if_pos rfl]
            exact hv
          · have htd : t ≠ d := fun e => hij (T.inj j i o' o hj him ho' ho (by rw [ht, hd, e]))
            rw [if_neg htd]
            rw [getD_set_ne false (Ne.symm hij)] at hl
            exact hF _ _ _ _ hB (hI.got j o' t hj ho' ht hl)
        · simp [hI.ls]
        · intro j h1 h2
          rw [getD_set_ne true (by omega)]
          exact hI.new j h1 h2
        · intro j o' ho' hl e he hb
          by_cases hij : i = j
          · subst hij
            rw [ho] at ho'
            cases ho'
            exact getD_set_true (haft e he hb)
          · rw [getD_set_ne false hij] at hl
            exact getD_set_true (hI.cl j o' ho' hl e he hb)
        · exact hI.bel.trans (hB.mono hI.bel.size)
        · rw [count_set_tt hun]
          omega

end

end Go.Proofs.YtladfpljnaippabDoor

/-
  The determinant's region: its text.
-/
namespace Go.Proofs.YtladfpljnaippabDoor
open Go.RowKit

/-- The operations of region n. -/
def regOps (n : Nat) : Code → Option (Array Oper)
  | .region id ops _ => if id = n then some ops else none
  | .seq a b => (regOps n a).orElse fun _ => regOps n b
  | .cond _ a b => (regOps n a).orElse fun _ => regOps n b
  | _ => none

/-- Is the text of the region as facts_any asks? -/
def textOk (md : Region.Mode) (ops : Array Oper) (m n : Nat) : Bool :=
  decide (m < ops.size) && decide (0 < m) &&
  (List.range m).all (fun i => match ops[i]? with
    | some o => (match o.dst with | some t => decide (t < n) | none => false) && o.after.toList.all fun e => decide (e.on < i)
    | none => false) &&
  (List.range m).all (fun i => (List.range m).all fun j => decide (i = j) || !decide ((ops[i]?).bind (·.dst) = (ops[j]?).bind (·.dst))) &&
  (List.range ops.size).all (fun i => decide (i < m) || match ops[i]? with
    | some o => o.after.toList.any fun e => Region.binds md e && decide (m - 1 ≤ e.on) && decide (e.on < ops.size)
    | none => true) &&
  (List.range (m - 1)).all (fun i => (List.range m).any fun j => decide (i < j) && match ops[j]? with
    | some o => o.after.toList.any fun e => Region.binds md e && decide (e.on = i)
    | none => false)

theorem Text.of_ok {md : Region.Mode} {ops : Array Oper} {m n : Nat} (h : textOk md ops m n = true) : Text md ops m n := by
  unfold textOk at h
  simp only [Bool.and_eq_true, List.all_eq_true, List.mem_range, decide_eq_true_eq, Bool.or_eq_true, Bool.not_eq_true', decide_eq_false_iff_not, List.any_eq_true] at h
  obtain ⟨⟨⟨⟨⟨h1, h2⟩, h3⟩, h4⟩, h5⟩, h7⟩ := h
  refine ⟨h1, h2, ?_, ?_, ?_, ?_, ?_⟩
  · intro i o hi ho
    have := h3 i hi
    rw [ho] at this
    simp only [Bool.and_eq_true] at this
    cases hd : o.dst with
    | none => rw [hd] at this; exact absurd this.1 (by simp)
    | some t => rw [hd] at this; exact ⟨t, rfl, by simpa using this.1⟩
  · intro i j o o' hi hj ho ho' hd
    rcases h4 i hi j hj with h | h
    · exact h
    · rw [ho, ho'] at h
      exact absurd hd h
  · intro i o hi ho e he
    have := h3 i hi
    rw [ho] at this
    simp only [Bool.and_eq_true, List.all_eq_true, decide_eq_true_eq] at this
    exact this.2 e (by simpa using he)
  · intro i o hi ho
    have hio : i < ops.size := (Array.getElem?_eq_some_iff.1 ho).1
    rcases h5 i hio with h | h
    · omega
    · rw [ho] at h
      simp only [List.any_eq_true, Bool.and_eq_true, decide_eq_true_eq] at h
      obtain ⟨e, he, ⟨hb, h1⟩, h2⟩ := h
      exact ⟨e, by simpa using he, hb, h1, h2⟩
  · intro L hL hm
    have key : ∀ k i, i + k = m - 1 → L i = true := by
      intro k
      induction k using Nat.strongRecOn with
      | _ k ih =>
        intro i hik
        by_cases hk : k = 0
        · have : i = m - 1 := by omega
          rw [this]
          exact hm
        · obtain ⟨j, hj, hij, hh⟩ := h7 i (by omega)
          cases hoj : ops[j]? with
          | none => rw [hoj] at hh; cases hh
          | some o =>
            rw [hoj] at hh
            simp only [List.any_eq_true, Bool.and_eq_true, decide_eq_true_eq] at hh
            obtain ⟨e, he, hb, he1⟩ := hh
            have hLj := ih (m - 1 - j) (by omega) j (by omega)
            have := hL j o hj hoj hLj e (by simpa using he) hb
            rw [he1] at this
            exact this
    exact fun i hi => key (m - 1 - i) i (by omega)

noncomputable def detOps : Array Oper := ((Tryd.f10.body.bind (regOps 3)).getD #[])

theorem det_text : Text .any detOps 66 81 := Text.of_ok (by kernel_rfl)

end Go.Proofs.YtladfpljnaippabDoor

/-
  The program's products of dyadic numbers.
-/
namespace Go.Proofs.YtladfpljnaippabDoor
open Go.RowKit

/-- The product of the first numbers, and the sum of their exponents. -/
def prodM (ds : List DV) : Int := (ds.map fun d => sg d.g (val 4294967296 d.zs)).foldl (· * ·) 1
def sumE (ds : List DV) : Int := (ds.map fun d => d.E).foldl (· + ·) 0

theorem prodM_snoc (ds : List DV) (d : DV) : prodM (ds ++ [d]) = prodM ds * sg d.g (val 4294967296 d.zs) := by simp [prodM]
theorem sumE_snoc (ds : List DV) (d : DV) : sumE (ds ++ [d]) = sumE ds + d.E := by simp [sumE]

/-- While a product grows: the answer's box (R, still zero), the product's own (A). -/
structure PD (w : World) (R A : Nat) (G : Bool) (a : Option Addr) (c : Nat) (fs : List Int) (m e : Int) (W : World) : Prop where
  r1 : W.cell? ⟨R, 0, none⟩ = some (.bool false)
  r2 : W.cell? ⟨R, 1, none⟩ = some (.slice none 0 0)
  r3 : W.cell? ⟨R, 2, none⟩ = some (.int .i64 0)
  r4 : ∀ j, W.frozen? ⟨R, j, none⟩ = false
  a1 : W.cell? ⟨A, 0, none⟩ = some (.bool G)
  a2 : W.cell? ⟨A, 1, none⟩ = some (.slice a fs.length c)
  a3 : W.cell? ⟨A, 2, none⟩ = some (.int .i64 e)
  a4 : ∀ j, W.frozen? ⟨A, j, none⟩ = false
  b1 : B1 G fs m
  row : RowAt .u32 W a fs
  off : ∀ b o, a = some ⟨b, o, none⟩ → fs ≠ [] → b ≠ A ∧ b ≠ R
  far : Far (w.heap.size + 1) a fs
  ord : w.heap.size ≤ R ∧ R < A ∧ A < W.heap.size
  bel : Below w.heap.size w W
  cap : fs.length ≤ c ∧ c ≤ maxLen

section
variable {w : World} {R A : Nat} {G : Bool} {a : Option Addr} {c : Nat} {fs : List Int} {m e : Int} {W W' : World}

theorem PD.later (h : PD w R A G a c fs m e W) (hb : Below W.heap.size W W') : PD w R A G a c fs m e W' := by
  obtain ⟨o1, o2, o3⟩ := h.ord
  have hs := hb.size
  exact ⟨(hb.cell (by simp; omega)).trans h.r1, (hb.cell (by simp; omega)).trans h.r2, (hb.cell (by simp; omega)).trans h.r3, fun j => (hb.frozen (by simp; omega)).trans (h.r4 j), (hb.cell (by simp; omega)).trans h.a1, (hb.cell (by simp; omega)).trans h.a2, (hb.cell (by simp; omega)).trans h.a3, fun j => (hb.frozen (by simp; omega)).trans (h.a4 j), h.b1, h.row.later hb, h.off, h.far, ⟨o1, o2, by omega⟩, h.bel.trans (hb.mono (by omega)), h.cap⟩

/-- Another number, its row in no box, is laid into the box. -/
theorem PD.lay {G' : Bool} {a' : Option Addr} {c' : Nat} {fs' : List Int} {m' e' : Int} (h : PD w R A G a c fs m e W) (hb : B1 G' fs' m') (hr : RowAt .u32 W a' fs') (ho : ∀ b o, a' = some ⟨b, o, none⟩ → fs' ≠ [] → b ≠ A ∧ b ≠ R) (hf : Far (w.heap.size + 1) a' fs') (hcap : fs'.length ≤ c' ∧ c' ≤ maxLen) : PD w R A G' a' c' fs' m' e' (((W.setCell ⟨A, 0, none⟩ (.bool G')).setCell ⟨A, 1, none⟩ (.slice a' fs'.length c')).setCell ⟨A, 2, none⟩ (.int .i64 e')) := by
  obtain ⟨o1, o2, o3⟩ := h.ord
  have hbel : Below A W (((W.setCell ⟨A, 0, none⟩ (.bool G')).setCell ⟨A, 1, none⟩ (.slice a' fs'.length c')).setCell ⟨A, 2, none⟩ (.int .i64 e')) := (((Below.refl _ _).setCell (by simp) _).setCell (by simp) _).setCell (by simp) _
  refine ⟨(hbel.cell (by simp; omega)).trans h.r1, (hbel.cell (by simp; omega)).trans h.r2, (hbel.cell (by simp; omega)).trans h.r3, fun j => (hbel.frozen (by simp; omega)).trans (h.r4 j), ?_, ?_, ?_, ?_, hb, ?_, ho, hf, ⟨o1, o2, by simpa using o3⟩, h.bel.trans (hbel.mono (by omega)), hcap⟩
  · rw [World.cell?_setCell_other _ _ _ _ (by simp), World.cell?_setCell_other _ _ _ _ (by simp)]
    exact World.cell?_setCell_same _ _ _ h.a1
  · rw [World.cell?_setCell_other _ _ _ _ (by simp)]
    refine World.cell?_setCell_same _ _ _ (u := .slice a fs.length c) ?_
    rw [World.cell?_setCell_other _ _ _ _ (by simp)]
    exact h.a2
  · refine World.cell?_setCell_same _ _ _ (u := .int .i64 e) ?_
    rw [World.cell?_setCell_other _ _ _ _ (by simp), World.cell?_setCell_other _ _ _ _ (by simp)]
    exact h.a3
  · intro j; rw [World.frozen?_setCell, World.frozen?_setCell, World.frozen?_setCell]; exact h.a4 j
  · exact ((hr.setAway (fun b o e1 hne => (ho b o e1 hne).1) _).setAway (fun b o e1 hne => (ho b o e1 hne).1) _).setAway (fun b o e1 hne => (ho b o e1 hne).1) _

theorem Far.offs {B : Nat} {a' : Option Addr} {fs' : List Int} (hf : Far B a' fs') (hR : R < B) (hA : A < B) : ∀ b o, a' = some ⟨b, o, none⟩ → fs' ≠ [] → b ≠ A ∧ b ≠ R := by
  intro b o e1 hne
  exact ⟨hf.away (p := ⟨A, 0, none⟩) (by simpa using hA) b o e1 hne, hf.away (p := ⟨R, 0, none⟩) (by simpa using hR) b o e1 hne⟩

/-- The next product, in memory behind, is laid into the box. -/
theorem PD.put {G' : Bool} {a' : Option Addr} {c' : Nat} {fs' : List Int} {m' e' : Int} {B : Nat} (h : PD w R A G a c fs m e W) (hb : B1 G' fs' m') (hr : RowAt .u32 W a' fs') (hf : Far B a' fs') (hB : A < B) (hcap : fs'.length ≤ c' ∧ c' ≤ maxLen) : PD w R A G' a' c' fs' m' e' (((W.setCell ⟨A, 0, none⟩ (.bool G')).setCell ⟨A, 1, none⟩ (.slice a' fs'.length c')).setCell ⟨A, 2, none⟩ (.int .i64 e')) := by
  obtain ⟨o1, o2, o3⟩ := h.ord
  exact h.lay hb hr (hf.offs (by omega) hB) (hf.down (by omega)) hcap

end

/-- What product hands back. -/
def ProdOut (w : World) (m e' : Int) (n : Nat) (e : Ending) (w' : World) : Prop :=
  ∃ (G : Bool) (a : Option Addr) (c : Nat) (fs : List Int), e = .returned (.agg #[.bool G, .slice a fs.length c, .int .i64 e']) ∧ B1 G fs m ∧ (fs.length ≤ n ∧ fs.length ≤ c ∧ c ≤ maxLen) ∧ RowAt .u32 w' a fs ∧ Far w.heap.size a fs ∧ Below w.heap.size w w'

/-- What a call of product answers. -/
def ProdSays : Prop := ∀ (b off c : Nat) (ds : List DV) (w : World), ds.length ≤ 3 → (∀ d, d ∈ ds → d.zs.length ≤ 512 ∧ -20000 ≤ d.E ∧ d.E ≤ 20000 ∧ B1 d.g d.zs (sg d.g (val 4294967296 d.zs))) → RowD w b off ds →
    Calls Tryd.prog 83 #[.slice (some ⟨b, off, none⟩) ds.length c] w fun e w' => ProdOut w (prodM ds) (sumE ds) (513 * ds.length + 1) e w'

end Go.Proofs.YtladfpljnaippabDoor
