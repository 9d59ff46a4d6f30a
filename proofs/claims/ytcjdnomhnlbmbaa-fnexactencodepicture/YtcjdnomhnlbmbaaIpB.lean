/-
  The program's validPicture, appendBits and EncodePicture.
-/
import Derived.Test.YtcjdnomhnlbmbaaIpA
import Derived.Test.YtcjdnomhnlbmbaaIeS
import Derived.Test.YtcjdnomhnlbmbaaLawEp
namespace Go.Proofs.Ytcjdnomhnlbmbaa
open Go.RowKit

/-- The lowest t bits of the byte that begins with bit i. -/
def lowF (n3 : Nat) (h : Nat → Bool) (i : Nat) : Nat → Int
  | 0 => 0
  | t + 1 => lowF n3 h i t + bitF n3 h (i + t) * 2 ^ t

theorem lowF_bounds (n3 : Nat) (h : Nat → Bool) (i : Nat) : ∀ t, 0 ≤ lowF n3 h i t ∧ lowF n3 h i t < 2 ^ t
  | 0 => by simp [lowF]
  | t + 1 => by
    have h1 := lowF_bounds n3 h i t
    simp only [lowF, Int.pow_succ]
    unfold bitF
    split <;> omega
theorem lowF_all (n3 : Nat) (h : Nat → Bool) (i : Nat) : lowF n3 h i 8 = bitsF n3 h i 8 := by
  simp [lowF, bitsF]
  omega

/-- Memory when j bits have been written. -/
def BitsAt (W : World) (X base g0 : Nat) (ys : List Int) (n3 : Nat) (h : Nat → Bool) (j : Nat) (wr : World) : Prop :=
  ∃ g n c, BtS W X base g0 (lowF n3 h (8 * (j / 8)) (j % 8)) ((j % 8 : Nat) : Int) g n c (ys ++ litB n3 h (j / 8)) wr

theorem BitsAt.next {W : World} {X base g0 : Nat} {ys : List Int} {n3 : Nat} {h : Nat → Bool} {j : Nat} {e : Ending} {w' : World} {f : Int} {u : Nat} {zs : List Int} (hp : PutOut W X base g0 f u zs e w') (hu : u = (j + 1) % 8) (hf : f = lowF n3 h (8 * ((j + 1) / 8)) ((j + 1) % 8)) (hz : zs = ys ++ litB n3 h ((j + 1) / 8)) : e = .returned (.tuple #[]) ∧ BitsAt W X base g0 ys n3 h (j + 1) w' := by
  obtain ⟨he, g, n, c, hb⟩ := hp
  subst hu hf hz
  exact ⟨he, g, n, c, hb⟩

theorem bitF_on {n3 : Nat} {h : Nat → Bool} {j : Nat} (hb : (decide (j < n3) && h j) = true) : bitF n3 h j = 1 := by
  simp at hb
  unfold bitF
  rw [if_pos hb]
theorem bitF_off {n3 : Nat} {h : Nat → Bool} {j : Nat} (hb : (decide (j < n3) && h j) = false) : bitF n3 h j = 0 := by
  unfold bitF
  rw [if_neg]
  intro hh
  simp [hh.1, hh.2] at hb

set_option maxHeartbeats 2000000 in
theorem put_any (W : World) (X base g0 : Nat) (ys : List Int) (n3 : Nat) (h : Nat → Bool) (j : Nat) (bit : Bool) (w : World) (hb : (decide (j < n3) && h j) = bit) (hj : j ≤ 400000) (hy : ys.length ≤ 500000) (hs : BitsAt W X base g0 ys n3 h j w) :
    Calls Try.prog 85 #[.bool bit, .pointer (some ⟨X + 1, 0, none⟩), .pointer (some ⟨X + 2, 0, none⟩), .pointer (some ⟨X, 0, none⟩)] w fun e w' => e = .returned (.tuple #[]) ∧ BitsAt W X base g0 ys n3 h (j + 1) w' := by
  obtain ⟨g, n, c, hB⟩ := hs
  have hyl : (ys ++ litB n3 h (j / 8)).length ≤ 1000000 := by rw [List.length_append, litB_length]; omega
  obtain ⟨m, hm⟩ : ∃ m, m = j / 8 := ⟨_, rfl⟩
  have h0 := (lowF_bounds n3 h (8 * m) (j % 8)).1
  have h1 := (lowF_bounds n3 h (8 * m) (j % 8)).2
  have hj8 : j % 8 = 0 ∨ j % 8 = 1 ∨ j % 8 = 2 ∨ j % 8 = 3 ∨ j % 8 = 4 ∨ j % 8 = 5 ∨ j % 8 = 6 ∨ j % 8 = 7 := by omega
  rw [← hm] at hB hyl
  rcases hj8 with h8 | h8 | h8 | h8 | h8 | h8 | h8 | h8
  · have e1 : (j + 1) / 8 = m := by omega
    have e2 : (j + 1) % 8 = 1 := by omega
    have e3 : 8 * m + 0 = j := by omega
    rw [h8] at hB h0 h1
    cases bit
    · have hz : bitF n3 h (8 * m + 0) = 0 := by rw [e3]; exact bitF_off hb
      refine (put_false0 W X base g0 _ g n c _ w hB).mono ?_
      intro e w' hp
      refine BitsAt.next hp e2.symm ?_ (by rw [e1])
      rw [e1, e2]
      show _ = lowF n3 h (8 * m) 0 + bitF n3 h (8 * m + 0) * 2 ^ 0
      rw [hz, Int.zero_mul, Int.add_zero]
    · have hz : bitF n3 h (8 * m + 0) = 1 := by rw [e3]; exact bitF_on hb
      have h1' : lowF n3 h (8 * m) 0 < 1 := Int.lt_of_lt_of_le h1 (by decide)
      clear h1
      refine (put_true0 W X base g0 _ g n c _ w h0 h1' hB).mono ?_
      intro e w' hp
      refine BitsAt.next hp e2.symm ?_ (by rw [e1])
      rw [e1, e2]
      show _ = lowF n3 h (8 * m) 0 + bitF n3 h (8 * m + 0) * 2 ^ 0
      rw [hz, Int.one_mul, show ((2 : Int) ^ 0) = 1 from by decide]
  · have e1 : (j + 1) / 8 = m := by omega
    have e2 : (j + 1) % 8 = 2 := by omega
    have e3 : 8 * m + 1 = j := by omega
    rw [h8] at hB h0 h1
    cases bit
    · have hz : bitF n3 h (8 * m + 1) = 0 := by rw [e3]; exact bitF_off hb
      refine (put_false1 W X base g0 _ g n c _ w hB).mono ?_
      intro e w' hp
      refine BitsAt.next hp e2.symm ?_ (by rw [e1])
      rw [e1, e2]
      show _ = lowF n3 h (8 * m) 1 + bitF n3 h (8 * m + 1) * 2 ^ 1
      rw [hz, Int.zero_mul, Int.add_zero]
    · have hz : bitF n3 h (8 * m + 1) = 1 := by rw [e3]; exact bitF_on hb
      have h1' : lowF n3 h (8 * m) 1 < 2 := Int.lt_of_lt_of_le h1 (by decide)
      clear h1
      refine (put_true1 W X base g0 _ g n c _ w h0 h1' hB).mono ?_
      intro e w' hp
      refine BitsAt.next hp e2.symm ?_ (by rw [e1])
      rw [e1, e2]
      show _ = lowF n3 h (8 * m) 1 + bitF n3 h (8 * m + 1) * 2 ^ 1
      rw [hz, Int.one_mul, show ((2 : Int) ^ 1) = 2 from by decide]
  · have e1 : (j + 1) / 8 = m := by omega
    have e2 : (j + 1) % 8 = 3 := by omega
    have e3 : 8 * m + 2 = j := by omega
    rw [h8] at hB h0 h1
    cases bit
    · have hz : bitF n3 h (8 * m + 2) = 0 := by rw [e3]; exact bitF_off hb
      refine (put_false2 W X base g0 _ g n c _ w hB).mono ?_
      intro e w' hp
      refine BitsAt.next hp e2.symm ?_ (by rw [e1])
      rw [e1, e2]
      show _ = lowF n3 h (8 * m) 2 + bitF n3 h (8 * m + 2) * 2 ^ 2
      rw [hz, Int.zero_mul, Int.add_zero]
    · have hz : bitF n3 h (8 * m + 2) = 1 := by rw [e3]; exact bitF_on hb
      have h1' : lowF n3 h (8 * m) 2 < 4 := Int.lt_of_lt_of_le h1 (by decide)
      clear h1
      refine (put_true2 W X base g0 _ g n c _ w h0 h1' hB).mono ?_
      intro e w' hp
      refine BitsAt.next hp e2.symm ?_ (by rw [e1])
      rw [e1, e2]
      show _ = lowF n3 h (8 * m) 2 + bitF n3 h (8 * m + 2) * 2 ^ 2
      rw [hz, Int.one_mul, show ((2 : Int) ^ 2) = 4 from by decide]
  · have e1 : (j + 1) / 8 = m := by omega
    have e2 : (j + 1) % 8 = 4 := by omega
    have e3 : 8 * m + 3 = j := by omega
    rw [h8] at hB h0 h1
    cases bit
    · have hz : bitF n3 h (8 * m + 3) = 0 := by rw [e3]; exact bitF_off hb
      refine (put_false3 W X base g0 _ g n c _ w hB).mono ?_
      intro e w' hp
      refine BitsAt.next hp e2.symm ?_ (by rw [e1])
      rw [e1, e2]
      show _ = lowF n3 h (8 * m) 3 + bitF n3 h (8 * m + 3) * 2 ^ 3
      rw [hz, Int.zero_mul, Int.add_zero]
    · have hz : bitF n3 h (8 * m + 3) = 1 := by rw [e3]; exact bitF_on hb
      have h1' : lowF n3 h (8 * m) 3 < 8 := Int.lt_of_lt_of_le h1 (by decide)
      clear h1
      refine (put_true3 W X base g0 _ g n c _ w h0 h1' hB).mono ?_
      intro e w' hp
      refine BitsAt.next hp e2.symm ?_ (by rw [e1])
      rw [e1, e2]
      show _ = lowF n3 h (8 * m) 3 + bitF n3 h (8 * m + 3) * 2 ^ 3
      rw [hz, Int.one_mul, show ((2 : Int) ^ 3) = 8 from by decide]
  · have e1 : (j + 1) / 8 = m := by omega
    have e2 : (j + 1) % 8 = 5 := by omega
    have e3 : 8 * m + 4 = j := by omega
    rw [h8] at hB h0 h1
    cases bit
    · have hz : bitF n3 h (8 * m + 4) = 0 := by rw [e3]; exact bitF_off hb
      refine (put_false4 W X base g0 _ g n c _ w hB).mono ?_
      intro e w' hp
      refine BitsAt.next hp e2.symm ?_ (by rw [e1])
      rw [e1, e2]
      show _ = lowF n3 h (8 * m) 4 + bitF n3 h (8 * m + 4) * 2 ^ 4
      rw [hz, Int.zero_mul, Int.add_zero]
    · have hz : bitF n3 h (8 * m + 4) = 1 := by rw [e3]; exact bitF_on hb
      have h1' : lowF n3 h (8 * m) 4 < 16 := Int.lt_of_lt_of_le h1 (by decide)
      clear h1
      refine (put_true4 W X base g0 _ g n c _ w h0 h1' hB).mono ?_
      intro e w' hp
      refine BitsAt.next hp e2.symm ?_ (by rw [e1])
      rw [e1, e2]
      show _ = lowF n3 h (8 * m) 4 + bitF n3 h (8 * m + 4) * 2 ^ 4
      rw [hz, Int.one_mul, show ((2 : Int) ^ 4) = 16 from by decide]
  · have e1 : (j + 1) / 8 = m := by omega
    have e2 : (j + 1) % 8 = 6 := by omega
    have e3 : 8 * m + 5 = j := by omega
    rw [h8] at hB h0 h1
    cases bit
    · have hz : bitF n3 h (8 * m + 5) = 0 := by rw [e3]; exact bitF_off hb
      refine (put_false5 W X base g0 _ g n c _ w hB).mono ?_
      intro e w' hp
      refine BitsAt.next hp e2.symm ?_ (by rw [e1])
      rw [e1, e2]
      show _ = lowF n3 h (8 * m) 5 + bitF n3 h (8 * m + 5) * 2 ^ 5
      rw [hz, Int.zero_mul, Int.add_zero]
    · have hz : bitF n3 h (8 * m + 5) = 1 := by rw [e3]; exact bitF_on hb
      have h1' : lowF n3 h (8 * m) 5 < 32 := Int.lt_of_lt_of_le h1 (by decide)
      clear h1
      refine (put_true5 W X base g0 _ g n c _ w h0 h1' hB).mono ?_
      intro e w' hp
      refine BitsAt.next hp e2.symm ?_ (by rw [e1])
      rw [e1, e2]
      show _ = lowF n3 h (8 * m) 5 + bitF n3 h (8 * m + 5) * 2 ^ 5
      rw [hz, Int.one_mul, show ((2 : Int) ^ 5) = 32 from by decide]
  · have e1 : (j + 1) / 8 = m := by omega
    have e2 : (j + 1) % 8 = 7 := by omega
    have e3 : 8 * m + 6 = j := by omega
    rw [h8] at hB h0 h1
    cases bit
    · have hz : bitF n3 h (8 * m + 6) = 0 := by rw [e3]; exact bitF_off hb
      refine (put_false6 W X base g0 _ g n c _ w hB).mono ?_
      intro e w' hp
      refine BitsAt.next hp e2.symm ?_ (by rw [e1])
      rw [e1, e2]
      show _ = lowF n3 h (8 * m) 6 + bitF n3 h (8 * m + 6) * 2 ^ 6
      rw [hz, Int.zero_mul, Int.add_zero]
    · have hz : bitF n3 h (8 * m + 6) = 1 := by rw [e3]; exact bitF_on hb
      have h1' : lowF n3 h (8 * m) 6 < 64 := Int.lt_of_lt_of_le h1 (by decide)
      clear h1
      refine (put_true6 W X base g0 _ g n c _ w h0 h1' hB).mono ?_
      intro e w' hp
      refine BitsAt.next hp e2.symm ?_ (by rw [e1])
      rw [e1, e2]
      show _ = lowF n3 h (8 * m) 6 + bitF n3 h (8 * m + 6) * 2 ^ 6
      rw [hz, Int.one_mul, show ((2 : Int) ^ 6) = 64 from by decide]
  · have e1 : (j + 1) / 8 = m + 1 := by omega
    have e2 : (j + 1) % 8 = 0 := by omega
    have e3 : 8 * m + 7 = j := by omega
    rw [h8] at hB h0 h1
    cases bit
    · have hz : bitF n3 h (8 * m + 7) = 0 := by rw [e3]; exact bitF_off hb
      refine (put_false7 W X base g0 _ g n c _ w hyl hB).mono ?_
      intro e w' hp
      refine BitsAt.next hp e2.symm (by rw [e2]; rfl) ?_
      rw [e1, litB, ← List.append_assoc, ← lowF_all]
      show _ = _ ++ [lowF n3 h (8 * m) 7 + bitF n3 h (8 * m + 7) * 2 ^ 7]
      rw [hz, Int.zero_mul, Int.add_zero]
    · have hz : bitF n3 h (8 * m + 7) = 1 := by rw [e3]; exact bitF_on hb
      have h1' : lowF n3 h (8 * m) 7 < 128 := Int.lt_of_lt_of_le h1 (by decide)
      clear h1
      refine (put_true7 W X base g0 _ g n c _ w h0 h1' hyl hB).mono ?_
      intro e w' hp
      refine BitsAt.next hp e2.symm (by rw [e2]; rfl) ?_
      rw [e1, litB, ← List.append_assoc, ← lowF_all]
      show _ = _ ++ [lowF n3 h (8 * m) 7 + bitF n3 h (8 * m + 7) * 2 ^ 7]
      rw [hz, Int.one_mul, show ((2 : Int) ^ 7) = 128 from by decide]

theorem BtS.start {W : World} {base g0 n0 c0 : Nat} {ys : List Int} (ho : OwnY W base (.slice (some ⟨g0, 0, none⟩) n0 c0) ys) (hb : base ≤ W.heap.size) (t1 t2 t3 : TypeId) :
    BtS W W.heap.size base g0 0 0 g0 n0 c0 ys (((W.alloc (.cells #[.slice (some ⟨g0, 0, none⟩) n0 c0] t1)).alloc (.cells #[.int .u8 0] t2)).alloc (.cells #[.int .i64 0] t3)) := by
  have hl := (ho.blk (k := g0) (by simp [Value.ownBlock])).2
  refine ⟨rfl, by simp [go_sem], by simp [go_sem], by simp [go_sem], ?_, by simp, ho.later (bel3 _ _ _ _), .inl rfl, gb_of (bel3 _ _ _ _) _, hl, hb⟩
  intro k h1 h2
  have hk : k = W.heap.size ∨ k = W.heap.size + 1 ∨ k = W.heap.size + 2 := by omega
  rcases hk with rfl | rfl | rfl <;> simp [go_sem]

/-- How many bits of the byte are used. -/
def usedOf (X : Nat) (wr : World) : Nat := match wr.cell? ⟨X + 2, 0, none⟩ with
  | some (.int _ z) => z.toNat
  | _ => 0

set_option maxRecDepth 100000 in
set_option maxHeartbeats 1000000 in
theorem appBits_any (base g n0 c0 : Nat) (ys : List Int) (a : Option Addr) (n c : Nat) (h : Nat → Bool) (w : World) (hn : n ≤ 10000) (hz : RowF w a n (boolF h)) (hap : ∀ b off, a = some ⟨b, off, none⟩ → n ≠ 0 → g ≠ b) (hy : ys.length ≤ 500000) (ho : OwnY w base (.slice (some ⟨g, 0, none⟩) n0 c0) ys) (hb : base ≤ w.heap.size) :
    Calls Try.prog 50 #[.slice (some ⟨g, 0, none⟩) n0 c0, .slice a n c] w fun e w' => MoreY w base (some g) (ys ++ litB n h ((n + 7) / 8)) e w' := by
  have HZ : Hid (RowF w a n (boolF h)) := hz
  have HA : Hid (∀ b off, a = some ⟨b, off, none⟩ → n ≠ 0 → g ≠ b) := hap
  have HO : Hid (OwnY w base (.slice (some ⟨g, 0, none⟩) n0 c0) ys) := ho
  have hmf : ∀ (fn : Fn) (first cap : Array Value) (w : World), (Instr.makeFunc fn first cap).run Try.prog w = .ok (.func fn first cap) w := fun _ _ _ _ => rfl
  clear hz hap ho
  go_enter Try.func50, Try.ntmps50
  go_wp2
  go_loopw [9, 13] (fun _ si wr => ∃ (i : Nat), i ≤ n ∧ si = .int .i64 i ∧ Hid (BitsAt w w.heap.size base g ys n h i wr)) (fun _ si _ => n - (intOf si).toNat)
  case atStart => exact ⟨0, Nat.zero_le _, rfl, _, _, _, by rw [show ys ++ litB n h (0 / 8) = ys by simp [litB]]; exact BtS.start HO.out hb _ _ _⟩
  case round =>
    obtain ⟨i, hi, rfl, hB⟩ := hrel
    by_cases hlt : i < n
    · obtain ⟨b, off, rfl, hbl, hc⟩ := HZ.out.resolve_left (by omega)
      have q : wr.cell? ⟨b, off + i, none⟩ = some (.bool (h i)) := by
        obtain ⟨g1, m1, k1, hB1⟩ := hB.out
        exact (hB1.grown.cell_far ⟨b, off + i, none⟩ hbl (fun e => HA.out b off rfl (by omega) (Option.some.inj e).symm)).trans (hc i hlt)
      have hib : (i : Int) < n := by omega
      have HH : Hid ((decide (i < n) && h i) = h i) := by unfold Hid; simp [hlt]
      clear hc
      go_wp2_with fail
      refine (put_any w w.heap.size base g ys n h i (h i) wr HH.out (by omega) hy hB.out).mono ?_
      rintro e w1 ⟨rfl, hB1⟩
      have HB1 : Hid (BitsAt w w.heap.size base g ys n h (i + 1) w1) := hB1
      clear hB1 hB q HH
      go_wp2
      go_roundw
      case rel => exact ⟨i + 1, by omega, by go_num, HB1⟩
      case measure => simp [intOf]; omega
    · have hie : n = i := by omega
      subst hie
      go_wp2
      have hn8 : n ≤ 8 * ((n + 7) / 8) := by omega
      go_loopw [] (fun wr => ∃ (j : Nat), n ≤ j ∧ j ≤ 8 * ((n + 7) / 8) ∧ Hid (BitsAt w w.heap.size base g ys n h j wr)) (fun wr => (8 - usedOf w.heap.size wr) % 8)
      case atStart => exact ⟨n, Nat.le_refl _, hn8, hB⟩
      case round =>
        obtain ⟨j, hj1, hj2, hJ⟩ := hrel
        obtain ⟨g1, m1, k1, hJ1⟩ := hJ.out
        have cU := hJ1.cU
        have cO := hJ1.cO
        have HM : Hid (usedOf w.heap.size wr = j % 8) := by unfold Hid usedOf; rw [cU]; exact Int.toNat_natCast _
        have HE : Hid (GrewY w base (some g) g1 (ys ++ litB n h (j / 8)) m1 k1 wr) := ⟨hJ1.own, hJ1.grown, by
          rcases hJ1.at_ with h1 | h1
          · subst h1; exact .inl rfl
          · right; omega⟩
        clear hJ1
        obtain ⟨u, hu⟩ : ∃ u, u = j % 8 := ⟨_, rfl⟩
        rw [← hu] at cU HM
        by_cases hu0 : u = 0
        · have hud : (j / 8) = (n + 7) / 8 := by omega
          rw [hu0] at cU
          rw [hud] at HE
          clear hu hud HM hJ hB hn8 hj1 hj2
          go_wp2
          go_ret
          exact ⟨_, _, _, rfl, HE.out⟩
        · have hup : (0 : Int) < u := by omega
          have hj3 : j + 1 ≤ 8 * ((n + 7) / 8) := by omega
          have HU : Hid (u = j % 8) := hu
          clear hu HE
          go_wp2_with fail
          refine (put_any w w.heap.size base g ys n h j false wr (by simp; omega) (by omega) hy hJ.out).mono ?_
          rintro e w1 ⟨rfl, hB1⟩
          have HB1 : Hid (BitsAt w w.heap.size base g ys n h (j + 1) w1) := hB1
          have HM1 : Hid (usedOf w.heap.size w1 = (j + 1) % 8) := by
            obtain ⟨g2, m2, k2, hJ2⟩ := hB1
            have e1 := hJ2.cU
            unfold Hid usedOf
            rw [e1]
            exact Int.toNat_natCast _
          clear hB1 hJ cU cO hB
          go_wp2
          go_roundw
          case rel => exact ⟨j + 1, by omega, hj3, HB1⟩
          case measure =>
            rw [HM.out, HM1.out]
            have := HU.out
            omega

set_option maxRecDepth 100000 in
set_option maxHeartbeats 1000000 in
theorem validPI_any (a1 a3 : Option Addr) (n1 n3 c1 c3 : Nat) (L : Int) (g : Nat → Int) (h : Nat → Bool) (w : World) (hn : n1 + n3 ≤ 1048576) (hs : PcAt w a1 a3 n1 n3 g h) :
    Calls Try.prog 48 #[.agg #[.slice a1 n1 c1, .int .i64 L, .slice a3 n3 c3]] w fun e w' => e = .returned (.bool (validPc n1 n3 g L)) ∧ Below w.heap.size w w' := by
  have HSC : Hid (PcAt w a1 a3 n1 n3 g h) := hs
  clear hs
  by_cases h1 : n1 ≤ 40
  · have h1' : ¬ (40 : Int) < n1 := by omega
    by_cases h2 : 0 ≤ L
    · have h2' : ¬ L < 0 := by omega
      by_cases h3 : L ≤ 4
      · have h3' : ¬ 4 < L := by omega
        have hmb : (n1 : Int) * L ≤ 160 := by
          have e1 : (n1 : Int) * L ≤ 40 * L := Int.mul_le_mul_of_nonneg_right (by omega) h2
          omega
        have hmc : 0 ≤ (n1 : Int) * L := Int.mul_nonneg (by omega) h2
        obtain ⟨m, hm⟩ : ∃ m, m = (n1 : Int) * L := ⟨_, rfl⟩
        obtain ⟨t, ht⟩ : ∃ t, t = ((n3 : Int) == m) := ⟨_, rfl⟩
        have HV : Hid (∀ b, (List.range n1).all (idOK g) = b → validPc n1 n3 g L = (t && b)) := by
          intro b hb
          have e4 : decide ((n3 : Int) = n1 * L) = t := by rw [ht, hm]; by_cases h : (n3 : Int) = n1 * L <;> simp [h]
          unfold validPc
          rw [decide_eq_true h1, decide_eq_true h2, decide_eq_true h3, e4, hb]
          simp
        rw [← hm] at hmb hmc
        have hm' := hm.symm
        have ht' := ht.symm
        clear hm ht
        go_enter Try.func48, Try.ntmps48
        go_wp2
        go_loopw [4, 22] (fun _ si wr => ∃ (i : Nat), i ≤ n1 ∧ si = .int .i64 i ∧ Hid ((List.range i).all (idOK g) = true) ∧ Hid (LwP w a1 a3 n1 n3 c1 c3 L g h wr)) (fun _ si _ => n1 - (intOf si).toNat)
        case atStart => exact ⟨0, Nat.zero_le _, rfl, rfl, LwP.start HSC.out _⟩
        case round =>
          obtain ⟨i, hi, rfl, hA, hF⟩ := hrel
          have q0 := hF.out.bx.q0
          have q1 := hF.out.bx.q1
          have q2 := hF.out.bx.q2
          by_cases hlt : i < n1
          · obtain ⟨b, off, rfl, hbl, hc⟩ := hF.out.pc.r1.resolve_left (by omega)
            have g1 : wr.cell? ⟨b, off + i, none⟩ = some (.int .i64 (g i)) := hc i hlt
            have HO : Hid (idOK g i = (decide (-1 ≤ g i) && decide (g i < 40))) := rfl
            obtain ⟨x, hx⟩ : ∃ x, x = g i := ⟨_, rfl⟩
            rw [← hx] at g1 HO
            have hib : (i : Int) < n1 := by omega
            clear hc hx
            by_cases x1 : x < -1
            · have HF : Hid (validPc n1 n3 g L = false) := by unfold Hid; rw [HV.out _ (all_range_false hlt (by rw [HO.out]; simp; omega))]; simp
              clear ht'
              go_wp2
              go_ret
              exact ⟨by rw [HF.out]; rfl, hF.out.bel⟩
            · by_cases x2 : 40 ≤ x
              · have HF : Hid (validPc n1 n3 g L = false) := by unfold Hid; rw [HV.out _ (all_range_false hlt (by rw [HO.out]; simp; omega))]; simp
                clear ht'
                go_wp2
                go_ret
                exact ⟨by rw [HF.out]; rfl, hF.out.bel⟩
              · have HOK : Hid (idOK g i = true) := by unfold Hid; rw [HO.out]; simp; omega
                clear ht'
                go_wp2
                go_roundw
                case rel => exact ⟨i + 1, by omega, by go_num, by unfold Hid; rw [all_range_succ, hA.out, HOK.out]; rfl, hF⟩
                case measure => simp [intOf]; omega
          · have hie : n1 = i := by omega
            subst hie
            have HF : Hid (validPc n1 n3 g L = t) := by unfold Hid; rw [HV.out _ hA.out]; simp
            go_wp2
            go_ret
            exact ⟨by rw [HF.out]; first | rfl | rw [ht'], hF.out.bel⟩
      · have h3' : 4 < L := by omega
        have HV : Hid (validPc n1 n3 g L = false) := by unfold Hid validPc; rw [decide_eq_false h3]; simp
        rw [HV.out]
        go_enter Try.func48, Try.ntmps48
        go_wp2
        go_ret
        exact ⟨rfl, bel0 _ _⟩
    · have h2' : L < 0 := by omega
      have HV : Hid (validPc n1 n3 g L = false) := by unfold Hid validPc; rw [decide_eq_false h2]; simp
      rw [HV.out]
      go_enter Try.func48, Try.ntmps48
      go_wp2
      go_ret
      exact ⟨rfl, bel0 _ _⟩
  · have h1' : (40 : Int) < n1 := by omega
    have HV : Hid (validPc n1 n3 g L = false) := by unfold Hid validPc; rw [decide_eq_false h1]; simp
    rw [HV.out]
    go_enter Try.func48, Try.ntmps48
    go_wp2
    go_ret
    exact ⟨rfl, bel0 _ _⟩

end Go.Proofs.Ytcjdnomhnlbmbaa
