/-
  A drawn float: its bits.
-/
import Derived.Test.YtladfpljnaippabDoorDrawHDrawIDySAddSpecSF
import Derived.Test.YtladfpljnaippabDoorSpecDQF
import Derived.Test.YtladfpljnaippabDoorNumZQF
import Derived.Test.YtladfpljnaippabDoorDyI5ToDyJMulF
import Derived.Test.YtladfpljnaippabDoorBoxQF
import Derived.Test.YtladfpljnaippabDoorNumWToNumFlF
import Derived.Test.YtladfpljnaippabDoorNumR2QF
import Derived.Deep.CutRange
namespace Go.Proofs.YtladfpljnaippabDoor
open Go.RowKit

/-- A drawn float: its bits. -/
def OfOut (w : World) (e : Ending) (w' : World) : Prop := ∃ b : Int, e = .returned (.int .u32 b) ∧ 0 ≤ b ∧ b < 4294967296 ∧ Below w.heap.size w w'

theorem pow256 {i : Nat} {b : Int} (h : b < 256 ^ i) (hi : i < 4) : b < 16777216 := by
  rcases (show i = 0 ∨ i = 1 ∨ i = 2 ∨ i = 3 by omega) with rfl | rfl | rfl | rfl <;> simp at h <;> omega

theorem pow256_succ {i : Nat} {b v : Int} (h : b < 256 ^ i) (hv : v ≤ 255) : b * 256 + v < 256 ^ (i + 1) := by
  rw [Int.pow_succ]
  have : b + 1 ≤ 256 ^ i := h
  have h2 : (b + 1) * 256 ≤ 256 ^ i * 256 := Int.mul_le_mul_of_nonneg_right this (by decide)
  omega

set_option maxRecDepth 100000 in
set_option maxHeartbeats 4000000 in
theorem drawOf_any (a : Option Addr) (c : Nat) (bs : List Int) (w : World) (hn : bs.length ≤ 1048576) (hc : bs.length ≤ c) (hcm : c ≤ maxLen) (hnil : a = none → c = 0) (hr : RowAt .u8 w a bs) (hb : Dig 256 bs) :
    Calls Tryd.prog 9 #[.slice a bs.length c] w fun e w' => OfOut w e w' := by
  go_enter Tryd.func9, Tryd.ntmps9
  go_wp2_with fail
  refine (openF_any a c bs _ hn hc hcm hnil hr hb).mono ?_
  rintro e w1 ⟨rfl, hr1, hb1, hs1⟩
  have HB1 : Hid (Below w.heap.size w w1) := hb1
  have HR1 : Hid (Rs w.heap.size (bs.take 500) w1) := hr1
  clear hr1 hb1 hr hb hn hc hcm hnil
  go_wp2_with fail
  refine (nextF_any w.heap.size _ _ HR1.out).mono ?_
  rintro e w2 ⟨rfl, hk0, hk1, hr2, ha2⟩
  obtain ⟨rs, hrs⟩ : ∃ rs, rs = (bs.take 500).tail := ⟨_, rfl⟩
  rw [← hrs] at hr2
  obtain ⟨k, hk⟩ : ∃ k, k = (bs.take 500).headD 0 := ⟨_, rfl⟩
  rw [← hk] at hk0 hk1 ⊢
  have HR2 : Hid (Rs w.heap.size rs w2) := hr2
  have HB2 : Hid (Below w.heap.size w w2) := HB1.out.trans (ha2.below (Nat.le_refl _) (by omega))
  have hs2 : w.heap.size < w2.heap.size := hr2.lt
  have hjt : k.tmod 4 = k % 4 := Int.tmod_eq_emod_of_nonneg hk0
  clear hr2 ha2 hrs hk HR1 HB1
  by_cases hc : k % 4 = 0
  · have hc' : (k % 4 == 0) = true := by rw [beq_iff_eq]; exact hc
    clear hc
    go_wp2
    go_loopw [5, 6] (fun sb si wr => ∃ (i : Nat) (b : Int) (rs' : List Int), i ≤ 4 ∧ si = .int .i64 i ∧ sb = .int .u32 b ∧ 0 ≤ b ∧ Hid (b < 256 ^ i) ∧ Hid (Rs w.heap.size rs' wr) ∧ Hid (Below w.heap.size w wr)) (fun _ si _ => 4 - (intOf si).toNat)
    case atStart => exact ⟨0, 0, rs, by decide, rfl, rfl, by decide, (by decide : (0 : Int) < 256 ^ 0), HR2, HB2⟩
    case round =>
      obtain ⟨i, b, rs', hi, rfl, rfl, hb0, hbp, hRs, hBw⟩ := hrel
      by_cases hlt : i < 4
      · have hib : (i : Int) < 4 := by omega
        have hb24 := pow256 hbp.out hlt
        go_wp2_with fail
        refine (nextF_any w.heap.size rs' _ hRs.out).mono ?_
        rintro e w3 ⟨rfl, hv0, hv1, hr3, ha3⟩
        obtain ⟨v, hv⟩ : ∃ v, v = rs'.headD 0 := ⟨_, rfl⟩
        rw [← hv] at hv0 hv1 ⊢
        have HR3 : Hid (Rs w.heap.size rs'.tail w3) := hr3
        have HB3 : Hid (Below w.heap.size w w3) := hBw.out.trans (ha3.below (Nat.le_refl _) hBw.out.size)
        have HP : Hid (b * 256 + v < 256 ^ (i + 1)) := pow256_succ hbp.out hv1
        clear hr3 ha3 hv hRs hBw
        go_wp2
        go_roundw
        case rel => exact ⟨i + 1, b * 256 + v, rs'.tail, by omega, by go_num, by go_num, by omega, HP, HR3, HB3⟩
        case measure => simp [intOf]; omega
      · have hi4 : i = 4 := by omega
        subst hi4
        have hb32 : b < 4294967296 := hbp.out
        go_wp2
        go_ret
        exact ⟨b, rfl, hb0, hb32, hBw.out⟩
  · have hc' : (k % 4 == 0) = false := by rw [beq_eq_false_iff_ne]; exact hc
    clear hc
    go_wp2_with fail
    refine (drawBits_any w.heap.size true rs _ HR2.out).mono ?_
    rintro e w3 ⟨rfl, hB0, hB1, hr3, ha3⟩
    have HB3 : Hid (Below w.heap.size w w3) := HB2.out.trans (ha3.below (Nat.le_refl _) HB2.out.size)
    obtain ⟨B, hB⟩ : ∃ B, B = (bitsF true rs).1 := ⟨_, rfl⟩
    rw [← hB] at hB0 hB1 ⊢
    clear hr3 ha3 hB
    go_wp2
    go_ret
    exact ⟨B, rfl, hB0, hB1, HB3.out⟩

end Go.Proofs.YtladfpljnaippabDoor

/-
  The model: how many bits a number has; is it odd?
-/
namespace Go.Proofs.YtladfpljnaippabDoor
open Go.RowKit

set_option maxHeartbeats 2000000 in
theorem odd_any (g : Bool) (a : Option Addr) (c : Nat) (ds : List Int) (x : Int) (w : World) (hn : ds.length ≤ 1048576) (h : L1 w g a c ds x) :
    Calls Tryd.prog 63 #[.agg #[.bool g, .slice a ds.length c]] w fun e w' => e = .returned (.bool (decide (val 65536 ds % 2 = 1))) ∧ Below w.heap.size w w' := by
  by_cases hne : ds = []
  · subst hne
    have hl : ¬ (0 : Int) < (([] : List Int).length : Int) := by simp
    have HB : Hid (∀ t, Below w.heap.size w (w.alloc (.cells #[.bool g, .slice a ([] : List Int).length c] t))) := fun t => bel0 _ _
    clear h
    go_enter Tryd.func63, Tryd.ntmps63
    go_wp2
    go_ret
    exact ⟨by simp [val], HB.out _⟩
  · obtain ⟨b, off, rfl, hb, hc⟩ := h.sl.row.resolve_left hne
    have hpos := List.length_pos_iff.2 hne
    have hl : (0 : Int) < (ds.length : Int) := by omega
    have g0 := hc 0 hpos
    have hd0 := h.can.1.at (by decide) 0
    obtain ⟨y, hy⟩ : ∃ y, y = ds.getD 0 0 := ⟨_, rfl⟩
    rw [← hy] at g0 hd0
    have g1 : ∀ t, (w.alloc (.cells #[.bool g, .slice (some ⟨b, off, none⟩) ds.length c] t)).cell? ⟨b, off, none⟩ = some (.int .i64 y) := by
      intro t
      rw [World.cell?_alloc_past _ _ _ hb]
      simpa using g0
    have HV : Hid (val 65536 ds % 2 = y % 2) := by
      unfold Hid
      cases ds with
      | nil => simp at hpos
      | cons z zs =>
        rw [hy]
        simp only [val, List.getD_cons_zero]
        omega
    have HB : Hid (∀ t, Below w.heap.size w (w.alloc (.cells #[.bool g, .slice (some ⟨b, off, none⟩) ds.length c] t))) := fun t => bel0 _ _
    obtain ⟨hd1, hd2⟩ := hd0
    clear h hc hne hy g0 hpos
    go_enter Tryd.func63, Tryd.ntmps63
    go_wp2
    go_ret
    refine ⟨?_, HB.out _⟩
    rw [HV.out]
    rfl

/-- A number's bits, counted by halving. -/
theorem halved {y t : Int} {n : Nat} (ht : t = y / 2 ^ n) (h0 : 0 < t) : 2 ^ n ≤ y ∧ t / 2 = y / 2 ^ (n + 1) := by
  have hp : (0 : Int) < 2 ^ n := Int.pow_pos (by decide)
  constructor
  · have h1 : 1 ≤ y / 2 ^ n := by omega
    have := (Int.le_ediv_iff_mul_le hp).1 h1
    omega
  · rw [ht, Int.ediv_ediv_of_nonneg (Int.le_of_lt hp), Int.pow_succ]

theorem top_bits {ds : List Int} {k m : Nat} {y : Int} (hd : Dig 65536 ds) (hk : ds.length = k + 1) (hy : y = ds.getD k 0) (h1 : 2 ^ m ≤ y) (h2 : y < 2 ^ (m + 1)) :
    2 ^ (16 * k + m) ≤ val 65536 ds ∧ val 65536 ds < 2 ^ (16 * k + m + 1) := by
  have hs := val_take_succ (B := 65536) (zs := ds) (i := k) (by omega)
  have ht : ds.take (k + 1) = ds := List.take_of_length_le (by omega)
  rw [ht, ← hy] at hs
  have hb := val_lt_pow (B := 65536) (by decide) (hd.take k)
  have hb0 := val_nonneg (B := 65536) (by decide) (hd.take k)
  have hl : (ds.take k).length = k := by rw [List.length_take]; omega
  rw [hl] at hb
  have hP : (65536 : Int) ^ k = 2 ^ (16 * k) := by
    rw [Int.pow_mul]
    rfl
  have hp : (0 : Int) < 2 ^ (16 * k) := Int.pow_pos (by decide)
  rw [hP] at hs hb
  have e1 : (2 : Int) ^ (16 * k + m) = 2 ^ (16 * k) * 2 ^ m := Int.pow_add ..
  have e2 : (2 : Int) ^ (16 * k + m + 1) = 2 ^ (16 * k) * 2 ^ (m + 1) := by rw [Nat.add_assoc]; exact Int.pow_add ..
  have m1 := Int.mul_le_mul_of_nonneg_left h1 (Int.le_of_lt hp)
  have m2 : (2 : Int) ^ (16 * k) * (y + 1) ≤ 2 ^ (16 * k) * 2 ^ (m + 1) := Int.mul_le_mul_of_nonneg_left (by omega) (Int.le_of_lt hp)
  rw [Int.mul_add, Int.mul_one] at m2
  rw [e1, e2]
  omega

set_option maxHeartbeats 4000000 in
theorem bits_any (g : Bool) (a : Option Addr) (c : Nat) (ds : List Int) (x : Int) (w : World) (hn : ds.length ≤ 1048576) (h : L1 w g a c ds x) (hne : ds ≠ []) :
    Calls Tryd.prog 59 #[.agg #[.bool g, .slice a ds.length c]] w fun e w' => ∃ n : Nat, e = .returned (.int .i64 ((n : Int) + 1)) ∧ n + 1 ≤ 16 * ds.length ∧ 2 ^ n ≤ val 65536 ds ∧ val 65536 ds < 2 ^ (n + 1) ∧ Below w.heap.size w w' := by
  have hpos := List.length_pos_iff.2 hne
  obtain ⟨k, hk⟩ : ∃ k, ds.length = k + 1 := ⟨ds.length - 1, by omega⟩
  obtain ⟨b, off, rfl, hb, hc⟩ := h.sl.row.resolve_left hne
  have gk := hc k (by omega)
  have hdk := h.can.1.at (by decide) k
  have hlast : ds.getD k 0 ≠ 0 := by
    have := last_of_canon h.can.2 (by omega)
    rw [hk, Nat.add_sub_cancel] at this
    exact this
  have HD : Hid (Dig 65536 ds) := h.can.1
  obtain ⟨y, hy⟩ : ∃ y, y = ds.getD k 0 := ⟨_, rfl⟩
  rw [← hy] at gk hdk hlast
  have HY : Hid (y = ds.getD k 0) := hy
  have hl0 : ((k : Int) + 1 == 0) = false := by rw [beq_eq_false_iff_ne]; omega
  have hki : (k : Int) + 1 - 1 = k := by omega
  have q1 : (w.alloc (.cells #[.bool g, .slice (some ⟨b, off, none⟩) (k + 1) c] 64)).cell? ⟨w.heap.size, 1, none⟩ = some (.slice (some ⟨b, off, none⟩) (k + 1) c) := by simp [go_sem]
  have g1 : (w.alloc (.cells #[.bool g, .slice (some ⟨b, off, none⟩) (k + 1) c] 64)).cell? ⟨b, off + k, none⟩ = some (.int .i64 y) := by
    rw [World.cell?_alloc_past _ _ _ hb]
    exact gk
  have HB : Hid (Below w.heap.size w (w.alloc (.cells #[.bool g, .slice (some ⟨b, off, none⟩) (k + 1) c] 64))) := bel0 _ _
  have HK : Hid (ds.length = k + 1) := hk
  have hk2 : k < 1048576 := by omega
  obtain ⟨hd1, hd2⟩ := hdk
  rw [hk]
  clear h hc hne hy gk hpos hn hk
  go_enter Tryd.func59, Tryd.ntmps59
  go_wp2
  obtain ⟨W, hW⟩ : ∃ W, W = w.alloc (.cells #[.bool g, .slice (some ⟨b, off, none⟩) (k + 1) c] 64) := ⟨_, rfl⟩
  rw [← hW] at q1 g1 HB ⊢
  clear hW
  go_loop [4, 5] (fun sk sv => ∃ (m : Nat) (t : Int), sk = .int .i64 m ∧ sv = .int .i64 t ∧ 0 ≤ t ∧ t < 65536 ∧ m ≤ 16 ∧ Hid (t = y / 2 ^ m) ∧ Hid (m ≠ 0 → 2 ^ (m - 1) ≤ y)) (fun _ sv => (intOf sv).toNat)
  case atStart => exact ⟨0, y, rfl, rfl, by omega, by omega, by decide, by unfold Hid; simp, fun h => absurd rfl h⟩
  case round =>
    obtain ⟨m, t, rfl, rfl, ht0, ht1, hm, hty, hmy⟩ := hrel
    by_cases hz : 0 < t
    · obtain ⟨h1, h2⟩ := halved hty.out hz
      have hm2 : m < 16 := by
        by_cases hp : m < 16
        · exact hp
        · have : m = 16 := by omega
          subst this
          have : (2 : Int) ^ 16 = 65536 := by decide
          omega
      have H1 : Hid (t / 2 = y / 2 ^ (m + 1)) := h2
      have H2 : Hid (m + 1 ≠ 0 → 2 ^ (m + 1 - 1) ≤ y) := fun _ => h1
      clear h1 h2 hty hmy
      go_wp2
      go_round
      case rel => exact ⟨m + 1, t / 2, by go_num, rfl, by omega, by omega, by omega, H1, H2⟩
      case measure => simp [intOf]; omega
    · have hm0 : m ≠ 0 := by
        intro e
        subst e
        have := hty.out
        simp at this
        omega
      obtain ⟨n, rfl⟩ : ∃ n, m = n + 1 := ⟨m - 1, by omega⟩
      have hlow : 2 ^ n ≤ y := hmy.out (by omega)
      have hp : (0 : Int) < 2 ^ (n + 1) := Int.pow_pos (by decide)
      have hup : y < 2 ^ (n + 1) := by
        have h0 : y / 2 ^ (n + 1) < 1 := by rw [← hty.out]; omega
        have := (Int.ediv_lt_iff_lt_mul hp).1 h0
        omega
      have HT := top_bits HD.out HK.out HY.out hlow hup
      have HT' : Hid (2 ^ (16 * k + n) ≤ val 65536 ds ∧ val 65536 ds < 2 ^ (16 * k + n + 1)) := HT
      have htz : t = 0 := by omega
      subst htz
      clear HT hlow hup hp hty hmy
      go_wp2
      go_ret
      exact ⟨16 * k + n, ret_int (by omega), by omega, HT'.out.1, HT'.out.2, HB.out⟩

end Go.Proofs.YtladfpljnaippabDoor

/-
  The box of a Dyadic that is handed in.
-/
namespace Go.Proofs.YtladfpljnaippabDoor
open Go.RowKit

/-- The argument's box. -/
structure BxD (w : World) (u v e : Value) (W : World) : Prop where
  q0 : W.cell? ⟨w.heap.size, 0, none⟩ = some u
  q1 : W.cell? ⟨w.heap.size, 1, none⟩ = some v
  q2 : W.cell? ⟨w.heap.size, 2, none⟩ = some e
  le : w.heap.size + 1 ≤ W.heap.size
  bel : Below w.heap.size w W

theorem BxD.start (w : World) (u v e : Value) (t : TypeId) : BxD w u v e (w.alloc (.cells #[u, v, e] t)) := by
  refine ⟨?_, ?_, ?_, ?_, bel0 _ _⟩
  all_goals simp [go_sem]

theorem BxD.later {w : World} {u v e : Value} {W W' : World} (h : BxD w u v e W) (hb : Below W.heap.size W W') : BxD w u v e W' := by
  have hl := h.le
  exact ⟨(hb.cell (by simp; omega)).trans h.q0, (hb.cell (by simp; omega)).trans h.q1, (hb.cell (by simp; omega)).trans h.q2, Nat.le_trans h.le hb.size, h.bel.trans (hb.mono (by omega))⟩

end Go.Proofs.YtladfpljnaippabDoor

/-
  The model's DyFloat.
-/
namespace Go.Proofs.YtladfpljnaippabDoor
open Go.RowKit

/-- The model's DyFloat under way: the boxes of x (at X) and of mag (at M). -/
structure DM (w : World) (X M : Nat) (G : Bool) (e : Int) (Gm : Bool) (am : Option Addr) (cm : Nat) (ms : List Int) (v : Int) (W : World) : Prop where
  x0 : W.cell? ⟨X, 0, none⟩ = some (.bool G)
  x2 : W.cell? ⟨X, 2, none⟩ = some (.int .i64 e)
  m0 : W.cell? ⟨M, 0, none⟩ = some (.bool Gm)
  m1 : W.cell? ⟨M, 1, none⟩ = some (.slice am ms.length cm)
  fr : ∀ j, W.frozen? ⟨M, j, none⟩ = false
  l1 : L1 W Gm am cm ms v
  wx : w.heap.size ≤ X
  xm : X < M
  lt : M < W.heap.size
  bel : Below w.heap.size w W

theorem DM.later {w : World} {X M : Nat} {G : Bool} {e : Int} {Gm : Bool} {am : Option Addr} {cm : Nat} {ms : List Int} {v : Int} {W W' : World} (h : DM w X M G e Gm am cm ms v W) (hb : Below W.heap.size W W') : DM w X M G e Gm am cm ms v W' := by
  have h1 := h.wx
  have h2 := h.xm
  have h3 := h.lt
  exact ⟨(hb.cell (by simp; omega)).trans h.x0, (hb.cell (by simp; omega)).trans h.x2, (hb.cell (by simp; omega)).trans h.m0, (hb.cell (by simp; omega)).trans h.m1, fun j => (hb.frozen (by simp; omega)).trans (h.fr j), h.l1.later hb, h1, h2, Nat.lt_of_lt_of_le h3 hb.size, h.bel.trans (hb.mono (by omega))⟩

theorem DM.put {w : World} {X M : Nat} {G : Bool} {e : Int} {Gm : Bool} {am : Option Addr} {cm : Nat} {ms : List Int} {v : Int} {W W1 : World} (h : DM w X M G e Gm am cm ms v W) (hb : Below W.heap.size W W1)
    {G2 : Bool} {a2 : Option Addr} {c2 : Nat} {fs : List Int} {v2 : Int} (hl : L1 W1 G2 a2 c2 fs v2) (hf : Far W.heap.size a2 fs) :
    DM w X M G e G2 a2 c2 fs v2 ((W1.setCell ⟨M, 0, none⟩ (.bool G2)).setCell ⟨M, 1, none⟩ (.slice a2 fs.length c2)) := by
  have h' := h.later hb
  have h1 := h.wx
  have h2 := h.xm
  have h3 := h.lt
  have n0 : X ≠ M := by omega
  refine ⟨?_, ?_, ?_, ?_, ?_, (hl.setFar hf (by simpa using h3) _).setFar hf (by simpa using h3) _, h1, h2, by simpa using h'.lt, (h'.bel.setCell (by simp; omega) _).setCell (by simp; omega) _⟩
  · rw [World.cell?_setCell_other _ _ _ _ (fun hh => n0 (congrArg Addr.block hh).symm), World.cell?_setCell_other _ _ _ _ (fun hh => n0 (congrArg Addr.block hh).symm)]
    exact h'.x0
  · rw [World.cell?_setCell_other _ _ _ _ (fun hh => n0 (congrArg Addr.block hh).symm), World.cell?_setCell_other _ _ _ _ (fun hh => n0 (congrArg Addr.block hh).symm)]
    exact h'.x2
  · simp [go_sem, h'.m0]
  · simp [go_sem, h'.m1]
  · intro j
    simp [go_sem, h'.fr]

/-- .. ahead of mag: the box of x alone. -/
structure DX (w : World) (X : Nat) (G : Bool) (ax : Option Addr) (cx : Nat) (ds : List Int) (m e : Int) (W : World) : Prop where
  x0 : W.cell? ⟨X, 0, none⟩ = some (.bool G)
  x1 : W.cell? ⟨X, 1, none⟩ = some (.slice ax ds.length cx)
  x2 : W.cell? ⟨X, 2, none⟩ = some (.int .i64 e)
  l1 : L1 W G ax cx ds m
  wx : w.heap.size ≤ X
  lt : X < W.heap.size
  bel : Below w.heap.size w W

theorem DX.later {w : World} {X : Nat} {G : Bool} {ax : Option Addr} {cx : Nat} {ds : List Int} {m e : Int} {W W' : World} (h : DX w X G ax cx ds m e W) (hb : Below W.heap.size W W') : DX w X G ax cx ds m e W' := by
  have h1 := h.wx
  have h3 := h.lt
  exact ⟨(hb.cell (by simp; omega)).trans h.x0, (hb.cell (by simp; omega)).trans h.x1, (hb.cell (by simp; omega)).trans h.x2, h.l1.later hb, h1, Nat.lt_of_lt_of_le h3 hb.size, h.bel.trans (hb.mono (by omega))⟩

theorem DX.held {w : World} {X : Nat} {G : Bool} {ax : Option Addr} {cx : Nat} {ds : List Int} {m e : Int} {W W' : World} (h : DX w X G ax cx ds m e W) (hb : Below W.heap.size W W') :
    W'.cell? ⟨X, 0, none⟩ = some (.bool G) ∧ W'.cell? ⟨X, 1, none⟩ = some (.slice ax ds.length cx) ∧ W'.cell? ⟨X, 2, none⟩ = some (.int .i64 e) ∧ Below W.heap.size W W' :=
  ⟨(h.later hb).x0, (h.later hb).x1, (h.later hb).x2, hb⟩

theorem DX.start {w W : World} {G : Bool} {ax : Option Addr} {cx : Nat} {ds : List Int} {m e : Int} (hb : Below w.heap.size w W) (hl : L1 W G ax cx ds m) (t : TypeId) : DX w W.heap.size G ax cx ds m e (W.alloc (.cells #[.bool G, .slice ax ds.length cx, .int .i64 e] t)) :=
  ⟨by simp [go_sem], by simp [go_sem], by simp [go_sem], hl.later (bel0 _ _), hb.size, by simp, hb.alloc hb.size _⟩

theorem DM.start {w : World} {X : Nat} {G : Bool} {ax : Option Addr} {cx : Nat} {ds : List Int} {m e : Int} {W W1 : World} (h : DX w X G ax cx ds m e W) (hb : Below W.heap.size W W1) {G2 : Bool} {a2 : Option Addr} {c2 : Nat} {fs : List Int} {v2 : Int} (hl : L1 W1 G2 a2 c2 fs v2) (t : TypeId) :
    DM w X W1.heap.size G e G2 a2 c2 fs v2 (W1.alloc (.cells #[.bool G2, .slice a2 fs.length c2] t)) := by
  have h' := (h.later hb).later (bel0 _ (.cells #[.bool G2, .slice a2 fs.length c2] t))
  exact ⟨h'.x0, h'.x2, by simp [go_sem], by simp [go_sem], by simp [go_sem], hl.later (bel0 _ _), h'.wx, (h.later hb).lt, by simp, h'.bel⟩

theorem DM.held {w : World} {X M : Nat} {G : Bool} {e : Int} {Gm : Bool} {am : Option Addr} {cm : Nat} {ms : List Int} {v : Int} {W W' : World} (h : DM w X M G e Gm am cm ms v W) (hb : Below W.heap.size W W') :
    W'.cell? ⟨X, 0, none⟩ = some (.bool G) ∧ W'.cell? ⟨X, 2, none⟩ = some (.int .i64 e) ∧ W'.cell? ⟨M, 0, none⟩ = some (.bool Gm) ∧ W'.cell? ⟨M, 1, none⟩ = some (.slice am ms.length cm) ∧ Below W.heap.size W W' :=
  ⟨(h.later hb).x0, (h.later hb).x2, (h.later hb).m0, (h.later hb).m1, hb⟩

/-- The digits from the i-th on. -/
theorem val_drop_step {ds : List Int} {i : Nat} (h : i < ds.length) : val 65536 (ds.drop i) = ds.getD i 0 + 65536 * val 65536 (ds.drop (i + 1)) := by
  rw [List.drop_eq_getElem_cons h]
  simp only [val]
  rw [List.getD_eq_getElem?_getD, List.getElem?_eq_getElem h]
  rfl

theorem val_drop_le {ds : List Int} (hd : Dig 65536 ds) : ∀ i, i ≤ ds.length → 0 ≤ val 65536 (ds.drop i) ∧ val 65536 (ds.drop i) ≤ val 65536 ds := by
  intro i
  induction i with
  | zero => intro _; exact ⟨val_nonneg (by decide) (hd.drop 0), by simp⟩
  | succ i ih =>
    intro hi
    have h1 := ih (by omega)
    have h2 := val_drop_step (show i < ds.length by omega)
    have h3 := hd.at (by decide) i
    have h4 := val_nonneg (B := 65536) (by decide) (hd.drop (i + 1))
    omega

end Go.Proofs.YtladfpljnaippabDoor

/-
  The model's DyFloat, walked.
-/
namespace Go.Proofs.YtladfpljnaippabDoor
open Go.RowKit

theorem fl_fin {N E R : Int} (g : Bool) (hN : 0 < N) (hF : flR N E = R) (h : R < 2139095040) : flB true g N E = R + (if g = true then 2147483648 else 0) ∧ flC true N E = 0 := by
  constructor
  · unfold flB
    rw [hF, if_pos ⟨rfl, by omega, h⟩]
  · unfold flC
    rw [hF, if_pos rfl, if_neg (by omega)]

theorem fl_big {N E R : Int} (g : Bool) (hN : 0 < N) (hF : flR N E = R) (h : 2139095040 ≤ R) : flB true g N E = 0 ∧ flC true N E = 2 := by
  constructor
  · unfold flB
    rw [hF, if_neg (by omega)]
  · unfold flC
    rw [hF, if_pos rfl, if_pos ⟨by omega, h⟩]

/-- A number that is not negative is its digits. -/
theorem L1.pos {w : World} {g : Bool} {a : Option Addr} {c : Nat} {ds : List Int} {x : Int} (h : L1 w g a c ds x) (hx : 0 ≤ x) : g = false ∧ val 65536 ds = x := by
  cases g
  · exact ⟨rfl, h.num.symm⟩
  · exfalso
    have h1 := val_pos (B := 65536) (by decide) h.can (h.zero rfl)
    have h2 : x = -val 65536 ds := h.num
    omega

theorem wrapS {n : Int} (h0 : -9223372036854775808 ≤ n) (h1 : n ≤ 9223372036854775807) : IntKind.i64.wrap n = n := by
  simp [IntKind.wrap, IntKind.bits, IntKind.signed]
  omega

/-- The normal form's size and sign. -/
theorem norm_parts {g g2 : Bool} {N K m E e' : Int} {T : Nat} (hN : 0 < N) (hK : 0 ≤ K) (hm : m = sg g2 K) (h : NormOf (sg g N) E m e' T) : ∃ t : Nat, t ≤ T ∧ e' = E + t ∧ N = K * 2 ^ t ∧ g2 = g ∧ 0 < K := by
  rcases h with ⟨h0, _⟩ | ⟨_, t, h1, h2, _, h4⟩
  · exfalso
    cases g <;> simp [sg] at h0 <;> omega
  · have hp : (0 : Int) < 2 ^ t := Int.pow_pos (by decide)
    have hK2 : 0 ≤ K * 2 ^ t := Int.mul_nonneg hK (Int.le_of_lt hp)
    have hK0 : N = K * 2 ^ t → 0 < K := by
      intro e
      rcases Int.lt_or_eq_of_le hK with h | h
      · exact h
      · rw [← h] at e
        simp at e
        omega
    rw [hm] at h1
    refine ⟨t, h4, h2, ?_⟩
    cases g <;> cases g2
    · have h1 : N = K * 2 ^ t := h1
      exact ⟨h1, rfl, hK0 h1⟩
    · have h1 : N = -K * 2 ^ t := h1
      rw [Int.neg_mul] at h1
      omega
    · have h1 : -N = K * 2 ^ t := h1
      omega
    · have h1 : -N = -K * 2 ^ t := h1
      rw [Int.neg_mul] at h1
      have h1 : N = K * 2 ^ t := by omega
      exact ⟨h1, rfl, hK0 h1⟩

set_option maxHeartbeats 4000000 in
theorem flS_bad (g : Bool) (a : Option Addr) (c : Nat) (zs : List Int) (E : Int) (w : World) (hn : zs.length ≤ 1048576) (hz : RowAt .u32 w a zs) (hv : validD g zs E = false) :
    Calls Tryd.prog 18 #[.agg #[.bool g, .slice a zs.length c, .int .i64 E]] w fun e w' => e = .returned (.tuple #[.int .u32 0, .int .i64 1]) ∧ Below w.heap.size w w' := by
  go_enter Tryd.func18, Tryd.ntmps18
  go_wp2_with fail
  refine (valid2S_any g a c zs E _ hn (hz.later (bel0 _ _))).mono ?_
  rintro e w1 ⟨rfl, hb1⟩
  rw [hv]
  have HB : Hid (Below w.heap.size w w1) := (bel0 _ _).trans (hb1.mono (by simp))
  clear hb1
  go_wp2
  refine bodyPost_ret (v := .tuple #[.int .u32 0, .int .i64 1]) (by simp [results, Tryd.results18, go_sem]) rfl ?_
  exact ⟨rfl, HB.out⟩

set_option maxRecDepth 100000 in
set_option maxHeartbeats 4000000 in
theorem flS_pos (g : Bool) (a : Option Addr) (c : Nat) (zs : List Int) (E : Int) (w : World) (hz : RowAt .u32 w a zs) (hu : U32 zs) (hv : validD g zs E = true) (hne : zs ≠ []) :
    Calls Tryd.prog 18 #[.agg #[.bool g, .slice a zs.length c, .int .i64 E]] w fun e w' => e = .returned (.tuple #[.int .u32 (flB true g (val 4294967296 zs) E), .int .i64 (flC true (val 4294967296 zs) E)]) ∧ Below w.heap.size w w' := by
  obtain ⟨vb1, hE0, hE1⟩ := validD_parts hv
  obtain ⟨hcan, hn, -⟩ := valid_canon hu vb1
  have hNp : Hid (0 < val 4294967296 zs) := val_pos (by decide) hcan hne
  have B0 : Hid (∀ t, BxD w (.bool g) (.slice a zs.length c) (.int .i64 E) (w.alloc (.cells #[.bool g, .slice a zs.length c, .int .i64 E] t))) := fun t => BxD.start w _ _ _ _
  go_enter Tryd.func18, Tryd.ntmps18
  go_wp2_with fail
  refine (valid2S_any g a c zs E _ (by omega) (hz.later (bel0 _ _))).mono ?_
  rintro e w1 ⟨rfl, hb1⟩
  rw [hv]
  have F1 : Hid (BxD w (.bool g) (.slice a zs.length c) (.int .i64 E) w1) := (B0.out _).later hb1
  have s0 := F1.out.q0
  have s1 := F1.out.q1
  have s2 := F1.out.q2
  clear hb1 B0 hv vb1
  go_wp2_with fail
  refine (of2_any g a c zs E _ (by omega) (by omega) (by omega) (hz.later F1.out.bel) hu).mono ?_
  rintro e w2 ⟨m, e', hno, g2, a2, c2, ds, rfl, hl2, hL2, hF2, hb2⟩
  obtain ⟨t, ht, rfl, hNK, rfl, hKp⟩ := norm_parts hNp.out (val_nonneg (by decide) hL2.can.1) hL2.num hno
  have FX : Hid (∀ t', DX w w2.heap.size g2 a2 c2 ds m (E + t) (w2.alloc (.cells #[.bool g2, .slice a2 ds.length c2, .int .i64 (E + t)] t'))) := fun t' => DX.start (F1.out.bel.trans (hb2.mono F1.out.bel.size)) hL2 t'
  have hNe : ds ≠ [] := by
    intro e
    rw [e] at hKp
    simp [val] at hKp
  have hl0 : ((ds.length : Int) == 0) = false := by rw [beq_eq_false_iff_ne]; have : ds.length ≠ 0 := fun e => hNe (List.length_eq_zero_iff.1 e); omega
  have HNK : Hid (val 4294967296 zs = val 65536 ds * 2 ^ t) := hNK
  have HKP : Hid (0 < val 65536 ds) := hKp
  clear hNK hKp hL2 hF2 hb2 hno s0 s1 s2 F1 hz hu hcan hne
  go_wp2
  obtain ⟨W0, hW0⟩ : ∃ W0, W0 = w2.alloc (.cells #[.bool g2, .slice a2 ds.length c2, .int .i64 (E + t)] 66) := ⟨_, rfl⟩
  have F : Hid (DX w w2.heap.size g2 a2 c2 ds m (E + t) W0) := by unfold Hid; rw [hW0]; exact FX.out _
  rw [← hW0]
  clear hW0 FX
  go_region_held3 (fun w' => w'.cell? ⟨w2.heap.size, 0, none⟩ = some (.bool g2) ∧ w'.cell? ⟨w2.heap.size, 1, none⟩ = some (.slice a2 ds.length c2) ∧ w'.cell? ⟨w2.heap.size, 2, none⟩ = some (.int .i64 (E + t)) ∧ Below W0.heap.size W0 w')
    (first | exact F.out.held (Below.refl _ _).drew | exact F.out.held (by assumption))
    (first
      | (go_at_call 59; refine (bits_any g2 a2 c2 ds m _ (by omega) (F.out.l1.later (Below.refl _ _).drew) hNe).mono ?_; rintro e w3 ⟨n, rfl, hn16, hn1, hn2, hb3⟩; have hB3 : Below W0.heap.size W0 w3 := (Below.refl _ _).drew.trans hb3))
  have F3 : Hid (DX w w2.heap.size g2 a2 c2 ds m (E + t) w3) := F.out.later hB3
  have HPN : Hid (2 ^ n ≤ val 65536 ds ∧ val 65536 ds < 2 ^ (n + 1)) := ⟨hn1, hn2⟩
  have hP := plc_of (E := E + t) hn1 hn2
  obtain ⟨P, hPP⟩ : ∃ P, P = plc (val 65536 ds) (E + t) := ⟨_, rfl⟩
  rw [← hPP] at hP
  have HP : Hid (P = plc (val 65536 ds) (E + t)) := hPP
  have hP1 : P = E + t + (n + 1) - 24 ∧ -149 ≤ P ∨ P = -149 ∧ E + t + (n + 1) - 24 < -149 := by omega
  have hP0 : -149 ≤ P ∧ P ≤ 60000 := by omega
  have HQ : Hid (P = E + t + (n + 1) - 24 ∧ -149 ≤ P ∨ P = -149 ∧ E + t + (n + 1) - 24 < -149) := hP1
  clear hn1 hn2 hb3 hB3 hP hPP hP1
  go_upto_if 33 with fail
  go_cut [5] from 34 (fun s5 wx => s5 = .int .i64 P ∧ wx = w3)
  case first =>
    by_cases hlt : E + t + (n + 1) - 24 < -149
    · go_wp2
      go_meet
      case rel => exact ⟨by have := HQ.out; rw [show P = -149 by omega], rfl⟩
    · go_wp2
      go_meet
      case rel => exact ⟨by have := HQ.out; rw [wrapS (n := E + t + (n + 1)) (by omega) (by omega), wrapS (by omega) (by omega), show P = E + t + (n + 1) - 24 by omega], rfl⟩
  case rest =>
    obtain ⟨rfl, rfl⟩ := hcut
    have s0 := F3.out.x0
    have s1 := F3.out.x1
    have s2 := F3.out.x2
    clear F HQ
    go_wp2_with fail
    refine (make_any false a2 c2 ds _ (by omega) F3.out.l1.cap F3.out.l1.sl F3.out.l1.can.1).mono ?_
    rintro e w4 ⟨g4, ms, rfl, hl4, hL4, hb4⟩
    have FM : Hid (∀ t', DM w w2.heap.size w4.heap.size g2 (E + t) g4 a2 c2 ms (val 65536 ds) (w4.alloc (.cells #[.bool g4, .slice a2 ms.length c2] t'))) := fun t' => DM.start F3.out hb4 hL4 t'
    have oM : w2.heap.size < w4.heap.size := (FM.out 0).xm
    have FX := F3.out.later hb4
    have s2 := FX.x2
    have s0 := FX.x0
    clear hL4 hb4 s1 F3 FX
    go_upto_if 41 with fail
    obtain ⟨W5, hW5⟩ : ∃ W5, W5 = w4.alloc (.cells #[.bool g4, .slice a2 ms.length c2] 64) := ⟨_, rfl⟩
    have F5 : Hid (DM w w2.heap.size w4.heap.size g2 (E + t) g4 a2 c2 ms (val 65536 ds) W5) := by unfold Hid; rw [hW5]; exact FM.out _
    rw [← hW5]
    clear hW5 FM s0 s2
    obtain ⟨hg4, hvm⟩ := F5.out.l1.pos (Int.le_of_lt HKP.out)
    subst hg4
    have HVM : Hid (val 65536 ms = val 65536 ds) := hvm
    clear hvm
    have hml : ms.length ≤ 1024 := by omega
    go_cut [7, 8, 9, 10] from 41 (fun _ _ _ _ wx => ∃ (Gm : Bool) (am : Option Addr) (cm : Nat) (ys : List Int), ys.length ≤ 100000 ∧ Hid (DM w w2.heap.size w4.heap.size g2 (E + t) Gm am cm ys (rnd (val 65536 ds) (P - (E + t))) wx))
    case first =>
      have s2 := F5.out.x2
      have m0 := F5.out.m0
      have m1 := F5.out.m1
      have fr := F5.out.fr
      have zz : w4.heap.size < W5.heap.size := F5.out.lt
      by_cases hge : P ≤ E + t
      · go_wp2_with fail
        refine (up_any false a2 c2 ms (val 65536 ds) (E + t - P) _ (by omega) (by omega) (by omega) F5.out.l1).mono ?_
        rintro e w6 ⟨g6, a6, c6, fs, rfl, hl6, hL6, hF6, hb6⟩
        have HN : Hid (DM w w2.heap.size w4.heap.size g2 (E + t) g6 a6 c6 fs (rnd (val 65536 ds) (P - (E + t))) ((w6.setCell ⟨w4.heap.size, 0, none⟩ (.bool g6)).setCell ⟨w4.heap.size, 1, none⟩ (.slice a6 fs.length c6))) := by
          unfold Hid
          rw [rnd_up (by omega), show (-(P - (E + t))).toNat = (E + t - P).toNat by congr 1; omega]
          exact F5.out.put hb6 hL6 hF6
        have F6 : Hid (DM w w2.heap.size w4.heap.size g2 (E + t) false a2 c2 ms (val 65536 ds) w6) := F5.out.later hb6
        have hl7 : fs.length ≤ 100000 := by omega
        clear hL6 hF6 hb6 s2 m0 m1 fr zz
        have s2 := F6.out.x2
        have m0 := F6.out.m0
        have m1 := F6.out.m1
        have fr := F6.out.fr
        have zz : w4.heap.size < w6.heap.size := F6.out.lt
        go_wp2
        go_meet
        case rel => exact ⟨g6, a6, c6, fs, hl7, HN⟩
      · obtain ⟨c0, hc0⟩ : ∃ c0 : Nat, P - (E + t) = (c0 : Int) + 1 := ⟨(P - (E + t) - 1).toNat, by omega⟩
        have HC0 : Hid (P - (E + t) = (c0 : Int) + 1) := hc0
        clear hc0
        go_wp2_with fail
        refine (down_any false a2 c2 ms (val 65536 ds) (P - (E + t) - 1) _ (by omega) (by omega) (by omega) F5.out.l1).mono ?_
        rintro e w6 ⟨g6, a6, c6, f6, rfl, hl6, hL6, hF6, hb6⟩
        rw [HVM.out, show (P - (E + t) - 1).toNat = c0 by have := HC0.out; omega] at hL6 ⊢
        have F6 : Hid (DM w w2.heap.size w4.heap.size g2 (E + t) false a2 c2 ms (val 65536 ds) w6) := F5.out.later hb6
        have HL6 : Hid (∀ o, L1 (w6.alloc o) g6 a6 c6 f6 (val 65536 ds / 2 ^ c0)) := fun o => hL6.later (bel0 _ _)
        obtain ⟨lo, hlo⟩ : ∃ lo, lo = lostB (val 65536 ds) (2 ^ c0) := ⟨_, rfl⟩
        rw [← hlo]
        have HLO : Hid (lo = lostB (val 65536 ds) (2 ^ c0)) := hlo
        clear hlo hL6 hF6 hb6 s2 m0 m1 fr zz
        go_wp2_with fail
        refine (odd_any g6 a6 c6 f6 _ _ (by omega) (HL6.out _)).mono ?_
        rintro e w7 ⟨rfl, hb7⟩
        have F7 : Hid (DM w w2.heap.size w4.heap.size g2 (E + t) false a2 c2 ms (val 65536 ds) w7) := (F6.out.later (bel0 _ _)).later hb7
        have hv6 := ((HL6.out (.cells #[] 0)).pos (Int.ediv_nonneg (Int.le_of_lt HKP.out) (Int.le_of_lt (Int.pow_pos (by decide))))).2
        rw [hv6]
        obtain ⟨up, hup⟩ : ∃ up, up = decide (val 65536 ds / 2 ^ c0 % 2 = 1) := ⟨_, rfl⟩
        rw [← hup]
        have HUP : Hid (up = decide (val 65536 ds / 2 ^ c0 % 2 = 1)) := hup
        clear hup hb7 F6 hv6 HL6
        have s2 := F7.out.x2
        have m0 := F7.out.m0
        have m1 := F7.out.m1
        have fr := F7.out.fr
        have zz : w4.heap.size < w7.heap.size := F7.out.lt
        go_wp2_with fail
        refine (down_any false a2 c2 ms (val 65536 ds) (P - (E + t)) _ (by omega) (by omega) (by omega) F7.out.l1).mono ?_
        rintro e w8 ⟨g8, a8, c8, f8, rfl, hl8, hL8, hF8, hb8⟩
        rw [HVM.out, show (P - (E + t)).toNat = c0 + 1 by have := HC0.out; omega] at hL8 ⊢
        have HN : Hid (DM w w2.heap.size w4.heap.size g2 (E + t) g8 a8 c8 f8 (val 65536 ds / 2 ^ (c0 + 1)) ((w8.setCell ⟨w4.heap.size, 0, none⟩ (.bool g8)).setCell ⟨w4.heap.size, 1, none⟩ (.slice a8 f8.length c8))) := F7.out.put hb8 hL8 hF8
        have F8 : Hid (DM w w2.heap.size w4.heap.size g2 (E + t) false a2 c2 ms (val 65536 ds) w8) := F7.out.later hb8
        obtain ⟨lo2, hlo2⟩ : ∃ lo2, lo2 = lostB (val 65536 ds) (2 ^ (c0 + 1)) := ⟨_, rfl⟩
        rw [← hlo2]
        clear hL8 hF8 hb8 s2 m0 m1 fr zz hlo2 F7
        have m0 := F8.out.m0
        have m1 := F8.out.m1
        have fr := F8.out.fr
        have zz : w4.heap.size < w8.heap.size := F8.out.lt
        have hf8 : f8.length ≤ 1024 := by omega
        clear hl8
        cases up
        · have HN0 : Hid (DM w w2.heap.size w4.heap.size g2 (E + t) g8 a8 c8 f8 (rnd (val 65536 ds) (P - (E + t))) ((w8.setCell ⟨w4.heap.size, 0, none⟩ (.bool g8)).setCell ⟨w4.heap.size, 1, none⟩ (.slice a8 f8.length c8))) := by
            unfold Hid
            rw [rnd_down HC0.out, if_neg (fun h => (of_decide_eq_false HUP.out.symm) h.1), Int.add_zero]
            exact HN.out
          go_wp2
          go_meet
          case rel => exact ⟨g8, a8, c8, f8, by omega, HN0⟩
        · cases lo
          · go_upto_region 16 with fail
            obtain ⟨W9, hW9⟩ : ∃ W9, W9 = ((w8.setCell ⟨w4.heap.size, 0, none⟩ (.bool g8)).setCell ⟨w4.heap.size, 1, none⟩ (.slice a8 f8.length c8)) := ⟨_, rfl⟩
            rw [← hW9] at HN ⊢
            clear hW9 m0 m1 fr zz F8
            have m0 := HN.out.m0
            have m1 := HN.out.m1
            go_wp2_with fail
            refine (odd_any g8 a8 c8 f8 _ _ (by omega) HN.out.l1).mono ?_
            rintro e wO ⟨rfl, hbO⟩
            have F9 : Hid (DM w w2.heap.size w4.heap.size g2 (E + t) g8 a8 c8 f8 (val 65536 ds / 2 ^ (c0 + 1)) wO) := HN.out.later hbO
            have hv8 := (F9.out.l1.pos (Int.ediv_nonneg (Int.le_of_lt HKP.out) (Int.le_of_lt (Int.pow_pos (by decide))))).2
            rw [hv8]
            clear hv8 hbO m0 m1 HN W9
            revert F9
            generalize wO = W9
            intro F9
            have m0 := F9.out.m0
            have m1 := F9.out.m1
            have fr := F9.out.fr
            have zz : w4.heap.size < W9.heap.size := F9.out.lt
            by_cases hod : val 65536 ds / 2 ^ (c0 + 1) % 2 = 1
            · have HIN : Hid (val 65536 ds / 2 ^ c0 % 2 = 1 ∧ (val 65536 ds % 2 ^ c0 ≠ 0 ∨ val 65536 ds / 2 ^ (c0 + 1) % 2 = 1)) := ⟨of_decide_eq_true HUP.out.symm, .inr hod⟩
              rw [decide_eq_true hod]
              clear hod
              go_wp2
              go_region_with
                (first
                  | (go_at_call 56; refine (small_any 1 _ (by decide) (by decide)).mono ?_; rintro e wA ⟨aA, cA, fA, rfl, hlA, hLA, hFA, hbA⟩; have hBA : Below W9.heap.size W9 wA := (Below.refl _ _).drew.trans hbA; have F10 : Hid (DM w w2.heap.size w4.heap.size g2 (E + t) g8 a8 c8 f8 (val 65536 ds / 2 ^ (c0 + 1)) wA) := F9.out.later hBA; have n0 := F10.out.m0; have n1 := F10.out.m1)
                  | (go_at_call 64; refine (add_any g8 false a8 aA c8 cA f8 fA (val 65536 ds / 2 ^ (c0 + 1)) 1 _ (by omega) (by omega) F10.out.l1 hLA).mono ?_; rintro e wB ⟨gB, aB, cB, fB, rfl, hlB, hLB, hFB, hbB⟩; have hBB : Below W9.heap.size W9 wB := hBA.trans (hbB.mono hBA.size); have F11 : Hid (DM w w2.heap.size w4.heap.size g2 (E + t) g8 a8 c8 f8 (val 65536 ds / 2 ^ (c0 + 1)) wB) := F9.out.later hBB; have p0 := F11.out.m0; have p1 := F11.out.m1; have p2 := F11.out.fr; have p3 : w4.heap.size < wB.heap.size := F11.out.lt))
              all_goals
                have HN2 : Hid (DM w w2.heap.size w4.heap.size g2 (E + t) gB aB cB fB (rnd (val 65536 ds) (P - (E + t))) ((wB.setCell ⟨w4.heap.size, 0, none⟩ (.bool gB)).setCell ⟨w4.heap.size, 1, none⟩ (.slice aB fB.length cB))) := by
                  unfold Hid
                  rw [rnd_down HC0.out, if_pos HIN.out]
                  exact F9.out.put hBB hLB (hFB.down hBA.size)
                have hlC : fB.length ≤ 100000 := by omega
                clear m0 m1 fr zz n0 n1 hLA hFA hbA hBA F10 hLB hFB hbB hBB F11 F9
                go_wp2
                go_meet
                case rel => exact ⟨gB, aB, cB, fB, hlC, HN2⟩
            · have HN0 : Hid (DM w w2.heap.size w4.heap.size g2 (E + t) g8 a8 c8 f8 (rnd (val 65536 ds) (P - (E + t))) W9) := by
                unfold Hid
                have hl0 : ¬ (val 65536 ds % 2 ^ c0 ≠ 0) := of_decide_eq_false HLO.out.symm
                rw [rnd_down HC0.out, if_neg (fun h => h.2.elim hl0 hod), Int.add_zero]
                exact F9.out
              rw [decide_eq_false hod]
              clear hod
              go_wp2
              go_meet
              case rel => exact ⟨g8, a8, c8, f8, by omega, HN0⟩
          · have HIN : Hid (val 65536 ds / 2 ^ c0 % 2 = 1 ∧ (val 65536 ds % 2 ^ c0 ≠ 0 ∨ val 65536 ds / 2 ^ (c0 + 1) % 2 = 1)) := ⟨of_decide_eq_true HUP.out.symm, .inl (of_decide_eq_true HLO.out.symm)⟩
            go_wp2
            obtain ⟨W9, hW9⟩ : ∃ W9, W9 = ((w8.setCell ⟨w4.heap.size, 0, none⟩ (.bool g8)).setCell ⟨w4.heap.size, 1, none⟩ (.slice a8 f8.length c8)) := ⟨_, rfl⟩
            rw [← hW9] at HN ⊢
            clear hW9 m0 m1 fr zz F8
            have F9 := HN
            clear HN
            have m0 := F9.out.m0
            have m1 := F9.out.m1
            have fr := F9.out.fr
            have zz : w4.heap.size < W9.heap.size := F9.out.lt
            go_region_with
              (first
                | (go_at_call 56; refine (small_any 1 _ (by decide) (by decide)).mono ?_; rintro e wA ⟨aA, cA, fA, rfl, hlA, hLA, hFA, hbA⟩; have hBA : Below W9.heap.size W9 wA := (Below.refl _ _).drew.trans hbA; have F10 : Hid (DM w w2.heap.size w4.heap.size g2 (E + t) g8 a8 c8 f8 (val 65536 ds / 2 ^ (c0 + 1)) wA) := F9.out.later hBA; have n0 := F10.out.m0; have n1 := F10.out.m1)
                | (go_at_call 64; refine (add_any g8 false a8 aA c8 cA f8 fA (val 65536 ds / 2 ^ (c0 + 1)) 1 _ (by omega) (by omega) F10.out.l1 hLA).mono ?_; rintro e wB ⟨gB, aB, cB, fB, rfl, hlB, hLB, hFB, hbB⟩; have hBB : Below W9.heap.size W9 wB := hBA.trans (hbB.mono hBA.size); have F11 : Hid (DM w w2.heap.size w4.heap.size g2 (E + t) g8 a8 c8 f8 (val 65536 ds / 2 ^ (c0 + 1)) wB) := F9.out.later hBB; have p0 := F11.out.m0; have p1 := F11.out.m1; have p2 := F11.out.fr; have p3 : w4.heap.size < wB.heap.size := F11.out.lt))
            all_goals
              have HN2 : Hid (DM w w2.heap.size w4.heap.size g2 (E + t) gB aB cB fB (rnd (val 65536 ds) (P - (E + t))) ((wB.setCell ⟨w4.heap.size, 0, none⟩ (.bool gB)).setCell ⟨w4.heap.size, 1, none⟩ (.slice aB fB.length cB))) := by
                unfold Hid
                rw [rnd_down HC0.out, if_pos HIN.out]
                exact F9.out.put hBB hLB (hFB.down hBA.size)
              have hlC : fB.length ≤ 100000 := by omega
              clear m0 m1 fr zz n0 n1 hLA hFA hbA hBA F10 hLB hFB hbB hBB F11 F9
              go_wp2
              go_meet
              case rel => exact ⟨gB, aB, cB, fB, hlC, HN2⟩
    case rest =>
      obtain ⟨Gm, am, cm, ys, hyl, FM⟩ := hcut
      have hr := rnd_plc (E := E + t) HPN.out.1 HPN.out.2
      rw [← HP.out] at hr
      obtain ⟨V, hV⟩ : ∃ V, V = rnd (val 65536 ds) (P - (E + t)) := ⟨_, rfl⟩
      rw [← hV] at hr FM
      obtain ⟨hgm, hvm⟩ := FM.out.l1.pos hr.1
      subst hgm
      have HF : Hid (flR (val 4294967296 zs) E = V + (P + 149) * 8388608) := by
        unfold Hid
        rw [HNK.out, flR_pow HKP.out t E]
        unfold flR
        rw [← HP.out, ← hV]
      have HVV : Hid (val 65536 ys = V) := hvm
      obtain ⟨hr0, hr1, hr2⟩ := hr
      have HR2 : Hid (P ≠ -149 → 8388608 ≤ V) := hr2
      have x0 := FM.out.x0
      have m1 := FM.out.m1
      have HB : Hid (Below w.heap.size w wc) := FM.out.bel
      have HL : Hid (L1 wc false am cm ys V) := FM.out.l1
      clear hvm hV hr2 FM F5 HPN HP HNK HKP HVM
      go_wp2
      go_loop [11, 12] (fun sv si => ∃ i : Nat, i ≤ ys.length ∧ si = .int .i64 ((i : Int) - 1) ∧ ∃ q, sv = .int .i64 q ∧ 0 ≤ q ∧ q ≤ V ∧ Hid (q = val 65536 (ys.drop i))) (fun _ si => (intOf si + 1).toNat)
      case atStart => exact ⟨ys.length, Nat.le_refl _, rfl, 0, rfl, by omega, hr0, by unfold Hid; simp [val]⟩
      case round =>
        obtain ⟨i, hi, rfl, q, rfl, hq0, hq1, hq⟩ := hrel
        by_cases hi0 : i = 0
        · subst hi0
          have hqV : q = V := by rw [hq.out, List.drop_zero]; exact HVV.out
          subst hqV
          clear hq
          cases g2
          · by_cases h24 : q = 16777216
            · subst h24
              by_cases h254 : 254 < P + 1 + 150
              · go_wp2
                refine bodyPost_ret (v := .tuple #[.int .u32 0, .int .i64 2]) (by simp [results, Tryd.results18, go_sem]) rfl ?_
                have hk := fl_big false hNp.out HF.out (by omega)
                rw [hk.1, hk.2]
                exact ⟨rfl, HB.out⟩
              · go_wp2
                refine bodyPost_ret (v := .tuple #[.int .u32 ((P + 1 + 150) * 8388608), .int .i64 0]) (by simp [results, Tryd.results18, go_sem]) rfl ?_
                have hk := fl_fin false hNp.out HF.out (by omega)
                rw [hk.1, hk.2]
                exact ⟨by simp; omega, HB.out⟩
            · by_cases h23 : 8388608 ≤ q
              · by_cases h254 : 254 < P + 150
                · go_wp2
                  refine bodyPost_ret (v := .tuple #[.int .u32 0, .int .i64 2]) (by simp [results, Tryd.results18, go_sem]) rfl ?_
                  have hk := fl_big false hNp.out HF.out (by omega)
                  rw [hk.1, hk.2]
                  exact ⟨rfl, HB.out⟩
                · go_wp2
                  refine bodyPost_ret (v := .tuple #[.int .u32 (q - 8388608 + (P + 150) * 8388608), .int .i64 0]) (by simp [results, Tryd.results18, go_sem]) rfl ?_
                  have hk := fl_fin false hNp.out HF.out (by omega)
                  rw [hk.1, hk.2]
                  exact ⟨by simp; omega, HB.out⟩
              · have hp149 : P = -149 := by
                  by_cases hp : P = -149
                  · exact hp
                  · exact absurd (HR2.out hp) h23
                go_wp2
                refine bodyPost_ret (v := .tuple #[.int .u32 (q), .int .i64 0]) (by simp [results, Tryd.results18, go_sem]) rfl ?_
                have hk := fl_fin false hNp.out HF.out (by omega)
                rw [hk.1, hk.2]
                exact ⟨by simp; omega, HB.out⟩
          · by_cases h24 : q = 16777216
            · subst h24
              by_cases h254 : 254 < P + 1 + 150
              · go_wp2
                refine bodyPost_ret (v := .tuple #[.int .u32 0, .int .i64 2]) (by simp [results, Tryd.results18, go_sem]) rfl ?_
                have hk := fl_big true hNp.out HF.out (by omega)
                rw [hk.1, hk.2]
                exact ⟨rfl, HB.out⟩
              · go_wp2
                refine bodyPost_ret (v := .tuple #[.int .u32 ((P + 1 + 150) * 8388608 + 2147483648), .int .i64 0]) (by simp [results, Tryd.results18, go_sem]) rfl ?_
                have hk := fl_fin true hNp.out HF.out (by omega)
                rw [hk.1, hk.2]
                exact ⟨by simp; omega, HB.out⟩
            · by_cases h23 : 8388608 ≤ q
              · by_cases h254 : 254 < P + 150
                · go_wp2
                  refine bodyPost_ret (v := .tuple #[.int .u32 0, .int .i64 2]) (by simp [results, Tryd.results18, go_sem]) rfl ?_
                  have hk := fl_big true hNp.out HF.out (by omega)
                  rw [hk.1, hk.2]
                  exact ⟨rfl, HB.out⟩
                · go_wp2
                  refine bodyPost_ret (v := .tuple #[.int .u32 (q - 8388608 + (P + 150) * 8388608 + 2147483648), .int .i64 0]) (by simp [results, Tryd.results18, go_sem]) rfl ?_
                  have hk := fl_fin true hNp.out HF.out (by omega)
                  rw [hk.1, hk.2]
                  exact ⟨by simp; omega, HB.out⟩
              · have hp149 : P = -149 := by
                  by_cases hp : P = -149
                  · exact hp
                  · exact absurd (HR2.out hp) h23
                go_wp2
                refine bodyPost_ret (v := .tuple #[.int .u32 (q + 2147483648), .int .i64 0]) (by simp [results, Tryd.results18, go_sem]) rfl ?_
                have hk := fl_fin true hNp.out HF.out (by omega)
                rw [hk.1, hk.2]
                exact ⟨by simp; omega, HB.out⟩
        · obtain ⟨k, rfl⟩ : ∃ k, i = k + 1 := ⟨i - 1, by omega⟩
          obtain ⟨b, off, rfl, hb, hc⟩ := HL.out.sl.row.resolve_left (fun e => by rw [e] at hi; simp at hi)
          have gk := hc k (by omega)
          obtain ⟨y, hy⟩ : ∃ y, y = ys.getD k 0 := ⟨_, rfl⟩
          rw [← hy] at gk
          have hyd := HL.out.can.1.at (by decide) k
          rw [← hy] at hyd
          have hst := val_drop_step (ds := ys) (i := k) (by omega)
          rw [← hy, ← hq.out] at hst
          have hle := (val_drop_le HL.out.can.1 k (by omega)).2
          rw [HVV.out] at hle
          have HST : Hid (q * 65536 + y = val 65536 (ys.drop k)) := by unfold Hid; omega
          have hq2 : q * 65536 + y ≤ V := by omega
          have hki : (k : Int) < ys.length := by omega
          clear hc hst hle hy hq
          go_wp2
          go_round
          case rel => exact ⟨k, by omega, by go_num, q * 65536 + y, by go_num, by omega, hq2, HST⟩
          case measure => simp [intOf]
set_option maxHeartbeats 4000000 in
theorem flS_nil (a : Option Addr) (c : Nat) (E : Int) (w : World) (hv : validD false [] E = true) :
    Calls Tryd.prog 18 #[.agg #[.bool false, .slice a ([] : List Int).length c, .int .i64 E]] w fun e w' => e = .returned (.tuple #[.int .u32 0, .int .i64 0]) ∧ Below w.heap.size w w' := by
  obtain ⟨-, hE0, hE1⟩ := validD_parts hv
  have B0 : Hid (∀ t, BxD w (.bool false) (.slice a ([] : List Int).length c) (.int .i64 E) (w.alloc (.cells #[.bool false, .slice a ([] : List Int).length c, .int .i64 E] t))) := fun t => BxD.start w _ _ _ _
  go_enter Tryd.func18, Tryd.ntmps18
  go_wp2_with fail
  refine (valid2S_any false a c [] E _ (by simp) (.inl rfl)).mono ?_
  rintro e w1 ⟨rfl, hb1⟩
  rw [hv]
  have F1 : Hid (BxD w (.bool false) (.slice a ([] : List Int).length c) (.int .i64 E) w1) := (B0.out _).later hb1
  have s0 := F1.out.q0
  have s1 := F1.out.q1
  have s2 := F1.out.q2
  clear hb1 B0 hv
  go_wp2_with fail
  refine (of2_any false a c [] E _ (by simp) (by omega) (by omega) (.inl rfl) (fun z hz => by cases hz)).mono ?_
  rintro e w2 ⟨m, e', hno, g2, a2, c2, ds, rfl, hl2, hL2, hF2, hb2⟩
  have hds : ds.length = 0 := by simpa using hl2
  have hl0 : ((ds.length : Int) == 0) = true := by rw [beq_iff_eq]; omega
  have HB : Hid (∀ o, Below w.heap.size w (w2.alloc o)) := fun o => (F1.out.bel.trans (hb2.mono F1.out.bel.size)).alloc (by have := F1.out.bel.size; have := hb2.size; omega) o
  clear hb2 hno hl2 hL2 hF2 s0 s1 s2 F1 hds
  go_wp2
  refine bodyPost_ret (v := .tuple #[.int .u32 0, .int .i64 0]) (by simp [results, Tryd.results18, go_sem]) rfl ?_
  exact ⟨rfl, HB.out _⟩

/-- The model's DyFloat. -/
theorem flS_any (g : Bool) (a : Option Addr) (c : Nat) (zs : List Int) (E : Int) (w : World) (hn : zs.length ≤ 1048576) (hz : RowAt .u32 w a zs) (hu : U32 zs) :
    Calls Tryd.prog 18 #[.agg #[.bool g, .slice a zs.length c, .int .i64 E]] w fun e w' => e = .returned (.tuple #[.int .u32 (flB (validD g zs E) g (val 4294967296 zs) E), .int .i64 (flC (validD g zs E) (val 4294967296 zs) E)]) ∧ Below w.heap.size w w' := by
  cases hv : validD g zs E
  · refine (flS_bad g a c zs E w hn hz hv).mono ?_
    rintro e w1 ⟨rfl, hb⟩
    exact ⟨by unfold flB flC; simp, hb⟩
  · by_cases hne : zs = []
    · subst hne
      have hg : g = false := by
        cases g
        · rfl
        · exact absurd rfl ((valid_canon hu (validD_parts hv).1).2.2 rfl)
      subst hg
      refine (flS_nil a c E w hv).mono ?_
      rintro e w1 ⟨rfl, hb⟩
      exact ⟨by unfold flB flC; simp [val], hb⟩
    · exact flS_pos g a c zs E w hz hu hv hne

end Go.Proofs.YtladfpljnaippabDoor
