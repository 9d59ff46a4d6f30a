/-
  The model: how many bits a number has; is it odd?
-/
import Derived.Test.YtladfpljnaippaaSpecD
import Derived.Test.YtladfpljnaippaaNumZ
import Derived.Test.YtladfpljnaippaaNumM
import Derived.Test.YtladfpljnaippaaSpecG
import Derived.Test.YtladfpljnaippaaDy1
import Derived.Test.YtladfpljnaippaaNumR2
import Derived.Test.YtladfpljnaippaaBox3
namespace Go.Proofs.Ytladfpljnaippaa
open Go.RowKit

set_option maxHeartbeats 2000000 in
theorem odd_any (g : Bool) (a : Option Addr) (c : Nat) (ds : List Int) (x : Int) (w : World) (hn : ds.length ≤ 1048576) (h : L1 w g a c ds x) :
    Calls Try.prog 27 #[.agg #[.bool g, .slice a ds.length c]] w fun e w' => e = .returned (.bool (decide (val 65536 ds % 2 = 1))) ∧ Below w.heap.size w w' := by
  by_cases hne : ds = []
  · subst hne
    have hl : ¬ (0 : Int) < (([] : List Int).length : Int) := by simp
    have HB : Hid (∀ t, Below w.heap.size w (w.alloc (.cells #[.bool g, .slice a ([] : List Int).length c] t))) := fun t => bel0 _ _
    clear h
    go_enter Try.func27, Try.ntmps27
    go_wp2
    go_ret
    exact ⟨by simp [val], HB.out _⟩
  · obtain ⟨b, off, rfl, hb, hc⟩ := h.sl.row.resolve_left hne
    have hpos := List.length_pos_iff.2 hne
    have hl : (0 : Int) < (ds.length : Int) := by omega
    have g0 := hc 0 hpos
    have hd0 := h.can.1.at (by decide) 0
    obtain ⟨y, hy⟩ : ∃ y, y = ds.getD 0 0 := ⟨_, rfl⟩
    rw [← hy] at g0 hd0
    have g1 : ∀ t, (w.alloc (.cells #[.bool g, .slice (some ⟨b, off, none⟩) ds.length c] t)).cell? ⟨b, off, none⟩ = some (.int .i64 y) := by
      intro t
      rw [World.cell?_alloc_past _ _ _ hb]
      simpa using g0
    have HV : Hid (val 65536 ds % 2 = y % 2) := by
      unfold Hid
      cases ds with
      | nil => simp at hpos
      | cons z zs =>
        rw [hy]
        simp only [val, List.getD_cons_zero]
        omega
    have HB : Hid (∀ t, Below w.heap.size w (w.alloc (.cells #[.bool g, .slice (some ⟨b, off, none⟩) ds.length c] t))) := fun t => bel0 _ _
    obtain ⟨hd1, hd2⟩ := hd0
    clear h hc hne hy g0 hpos
    go_enter Try.func27, Try.ntmps27
    go_wp2
    go_ret
    refine ⟨?_, HB.out _⟩
    rw [HV.out]
    rfl

/-- A number's bits, counted by halving. -/
theorem halved {y t : Int} {n : Nat} (ht : t = y / 2 ^ n) (h0 : 0 < t) : 2 ^ n ≤ y ∧ t / 2 = y / 2 ^ (n + 1) := by
  have hp : (0 : Int) < 2 ^ n := Int.pow_pos (by decide)
  constructor
  · have h1 : 1 ≤ y / 2 ^ n := by omega
    have := (Int.le_ediv_iff_mul_le hp).1 h1
    omega
  · rw [ht, Int.ediv_ediv_of_nonneg (Int.le_of_lt hp), Int.pow_succ]

theorem top_bits {ds : List Int} {k m : Nat} {y : Int} (hd : Dig 65536 ds) (hk : ds.length = k + 1) (hy : y = ds.getD k 0) (h1 : 2 ^ m ≤ y) (h2 : y < 2 ^ (m + 1)) :
    2 ^ (16 * k + m) ≤ val 65536 ds ∧ val 65536 ds < 2 ^ (16 * k + m + 1) := by
  have hs := val_take_succ (B := 65536) (zs := ds) (i := k) (by omega)
  have ht : ds.take (k + 1) = ds := List.take_of_length_le (by omega)
  rw [ht, ← hy] at hs
  have hb := val_lt_pow (B := 65536) (by decide) (hd.take k)
  have hb0 := val_nonneg (B := 65536) (by decide) (hd.take k)
  have hl : (ds.take k).length = k := by rw [List.length_take]; omega
  rw [hl] at hb
  have hP : (65536 : Int) ^ k = 2 ^ (16 * k) := by
    rw [Int.pow_mul]
    rfl
  have hp : (0 : Int) < 2 ^ (16 * k) := Int.pow_pos (by decide)
  rw [hP] at hs hb
  have e1 : (2 : Int) ^ (16 * k + m) = 2 ^ (16 * k) * 2 ^ m := Int.pow_add ..
  have e2 : (2 : Int) ^ (16 * k + m + 1) = 2 ^ (16 * k) * 2 ^ (m + 1) := by rw [Nat.add_assoc]; exact Int.pow_add ..
  have m1 := Int.mul_le_mul_of_nonneg_left h1 (Int.le_of_lt hp)
  have m2 : (2 : Int) ^ (16 * k) * (y + 1) ≤ 2 ^ (16 * k) * 2 ^ (m + 1) := Int.mul_le_mul_of_nonneg_left (by omega) (Int.le_of_lt hp)
  rw [Int.mul_add, Int.mul_one] at m2
  rw [e1, e2]
  omega

set_option maxHeartbeats 4000000 in
theorem bits_any (g : Bool) (a : Option Addr) (c : Nat) (ds : List Int) (x : Int) (w : World) (hn : ds.length ≤ 1048576) (h : L1 w g a c ds x) (hne : ds ≠ []) :
    Calls Try.prog 23 #[.agg #[.bool g, .slice a ds.length c]] w fun e w' => ∃ n : Nat, e = .returned (.int .i64 ((n : Int) + 1)) ∧ n + 1 ≤ 16 * ds.length ∧ 2 ^ n ≤ val 65536 ds ∧ val 65536 ds < 2 ^ (n + 1) ∧ Below w.heap.size w w' := by
  have hpos := List.length_pos_iff.2 hne
  obtain ⟨k, hk⟩ : ∃ k, ds.length = k + 1 := ⟨ds.length - 1, by omega⟩
  obtain ⟨b, off, rfl, hb, hc⟩ := h.sl.row.resolve_left hne
  have gk := hc k (by omega)
  have hdk := h.can.1.at (by decide) k
  have hlast : ds.getD k 0 ≠ 0 := by
    have := last_of_canon h.can.2 (by omega)
    rw [hk, Nat.add_sub_cancel] at this
    exact this
  have HD : Hid (Dig 65536 ds) := h.can.1
  obtain ⟨y, hy⟩ : ∃ y, y = ds.getD k 0 := ⟨_, rfl⟩
  rw [← hy] at gk hdk hlast
  have HY : Hid (y = ds.getD k 0) := hy
  have hl0 : ((k : Int) + 1 == 0) = false := by rw [beq_eq_false_iff_ne]; omega
  have hki : (k : Int) + 1 - 1 = k := by omega
  have q1 : (w.alloc (.cells #[.bool g, .slice (some ⟨b, off, none⟩) (k + 1) c] 52)).cell? ⟨w.heap.size, 1, none⟩ = some (.slice (some ⟨b, off, none⟩) (k + 1) c) := by simp [go_sem]
  have g1 : (w.alloc (.cells #[.bool g, .slice (some ⟨b, off, none⟩) (k + 1) c] 52)).cell? ⟨b, off + k, none⟩ = some (.int .i64 y) := by
    rw [World.cell?_alloc_past _ _ _ hb]
    exact gk
  have HB : Hid (Below w.heap.size w (w.alloc (.cells #[.bool g, .slice (some ⟨b, off, none⟩) (k + 1) c] 52))) := bel0 _ _
  have HK : Hid (ds.length = k + 1) := hk
  have hk2 : k < 1048576 := by omega
  obtain ⟨hd1, hd2⟩ := hdk
  rw [hk]
  clear h hc hne hy gk hpos hn hk
  go_enter Try.func23, Try.ntmps23
  go_wp2
  obtain ⟨W, hW⟩ : ∃ W, W = w.alloc (.cells #[.bool g, .slice (some ⟨b, off, none⟩) (k + 1) c] 52) := ⟨_, rfl⟩
  rw [← hW] at q1 g1 HB ⊢
  clear hW
  go_loop [4, 5] (fun sk sv => ∃ (m : Nat) (t : Int), sk = .int .i64 m ∧ sv = .int .i64 t ∧ 0 ≤ t ∧ t < 65536 ∧ m ≤ 16 ∧ Hid (t = y / 2 ^ m) ∧ Hid (m ≠ 0 → 2 ^ (m - 1) ≤ y)) (fun _ sv => (intOf sv).toNat)
  case atStart => exact ⟨0, y, rfl, rfl, by omega, by omega, by decide, by unfold Hid; simp, fun h => absurd rfl h⟩
  case round =>
    obtain ⟨m, t, rfl, rfl, ht0, ht1, hm, hty, hmy⟩ := hrel
    by_cases hz : 0 < t
    · obtain ⟨h1, h2⟩ := halved hty.out hz
      have hm2 : m < 16 := by
        by_cases hp : m < 16
        · exact hp
        · have : m = 16 := by omega
          subst this
          have : (2 : Int) ^ 16 = 65536 := by decide
          omega
      have H1 : Hid (t / 2 = y / 2 ^ (m + 1)) := h2
      have H2 : Hid (m + 1 ≠ 0 → 2 ^ (m + 1 - 1) ≤ y) := fun _ => h1
      clear h1 h2 hty hmy
      go_wp2
      go_round
      case rel => exact ⟨m + 1, t / 2, by go_num, rfl, by omega, by omega, by omega, H1, H2⟩
      case measure => simp [intOf]; omega
    · have hm0 : m ≠ 0 := by
        intro e
        subst e
        have := hty.out
        simp at this
        omega
      obtain ⟨n, rfl⟩ : ∃ n, m = n + 1 := ⟨m - 1, by omega⟩
      have hlow : 2 ^ n ≤ y := hmy.out (by omega)
      have hp : (0 : Int) < 2 ^ (n + 1) := Int.pow_pos (by decide)
      have hup : y < 2 ^ (n + 1) := by
        have h0 : y / 2 ^ (n + 1) < 1 := by rw [← hty.out]; omega
        have := (Int.ediv_lt_iff_lt_mul hp).1 h0
        omega
      have HT := top_bits HD.out HK.out HY.out hlow hup
      have HT' : Hid (2 ^ (16 * k + n) ≤ val 65536 ds ∧ val 65536 ds < 2 ^ (16 * k + n + 1)) := HT
      have htz : t = 0 := by omega
      subst htz
      clear HT hlow hup hp hty hmy
      go_wp2
      go_ret
      exact ⟨16 * k + n, ret_int (by omega), by omega, HT'.out.1, HT'.out.2, HB.out⟩

end Go.Proofs.Ytladfpljnaippaa

/-
  The model's small numbers.
-/
namespace Go.Proofs.Ytladfpljnaippaa
open Go.RowKit

theorem l1_small {w : World} {a : Option Addr} {c : Nat} {v : Int} (h0 : 0 ≤ v) (h1 : v ≤ 65535) (hc : c ≤ maxLen) (h : Sl .i64 w a c (if v = 0 then [] else [v])) : L1 w false a c (if v = 0 then [] else [v]) v := by
  by_cases hv : v = 0
  · subst hv
    rw [if_pos rfl] at h ⊢
    exact ⟨h, ⟨Dig.nil _, rfl⟩, by simp [sg, val], (fun hg => by cases hg), hc⟩
  · rw [if_neg hv] at h ⊢
    exact ⟨h, ⟨Dig.cons h0 (by omega) (Dig.nil _), by simp [trimL, hv]⟩, by simp [sg, val], (fun hg => by cases hg), hc⟩

/-- What l1small hands back. -/
def SmallOut (w : World) (v : Int) (e : Ending) (w' : World) : Prop :=
  ∃ (a : Option Addr) (c : Nat) (ds : List Int), e = .returned (.agg #[.bool false, .slice a ds.length c]) ∧ ds.length ≤ 1 ∧ L1 w' false a c ds v ∧ Far (w.heap.size + 1) a ds ∧ Below w.heap.size w w'

set_option maxHeartbeats 2000000 in
theorem small_any (v : Int) (w : World) (h0 : 0 ≤ v) (h1 : v ≤ 65535) :
    Calls Try.prog 29 #[.int .i64 v] w fun e w' => SmallOut w v e w' := by
  go_enter Try.func29, Try.ntmps29
  go_wp2
  go_loopw [4, 5] (fun su sd wr => ∃ (u : Int) (ys : List Int), su = .int .u64 u ∧ ((u = v ∧ ys = []) ∨ (u = 0 ∧ ys = [v] ∧ 0 < v)) ∧ wr.ownsRow (w.heap.size + 1) 3 1 sd ys.length (vals .i64 ys) ∧ Below (w.heap.size + 1) (w.alloc (.cells #[.bool false, .slice none 0 0] 52)) wr ∧ w.heap.size + 1 ≤ wr.heap.size) (fun su _ _ => (intOf su).toNat)
  case atStart => exact ⟨v, [], rfl, .inl ⟨rfl, rfl⟩, own_nil _ _ _ _, Below.refl _ _, by simp⟩
  case round =>
    obtain ⟨u, ys, rfl, hcase, hown, hnx, hsz⟩ := hrel
    have hu0 : 0 ≤ u := by omega
    have hu1 : u ≤ 65535 := by omega
    by_cases hu : 0 < u
    · have hy : ys = [] ∧ u = v := by
        rcases hcase with ⟨h, h'⟩ | ⟨h, _, _⟩
        · exact ⟨h', h⟩
        · omega
      obtain ⟨hy, huv⟩ := hy
      subst hy huv
      have E1 : Hid (u % 65536 = u) := by unfold Hid; omega
      have E2 : Hid (u / 65536 = 0) := by unfold Hid; omega
      clear hcase
      go_wp2_with (at_builtin; refine app1 rfl (.tmp 15) (.tmp 19) 50 rfl (w.heap.size + 1) 3 Try.underlying50 Try.info3 (by decide) _ _ rfl rfl hown (by simp) hsz ?_; intro a1 n1 c1 w1 hown1 hb1 hs1)
      rw [E1.out] at hown1
      go_roundw
      case rel => exact ⟨0, [u], by rw [E2.out], .inr ⟨rfl, rfl, hu⟩, hown1, hnx.trans hb1, by omega⟩
      case measure => simp only [intOf]; rw [E2.out]; omega
    · have hu00 : u = 0 := by omega
      subst hu00
      have hys : ys = (if v = 0 then [] else [v]) := by
        rcases hcase with ⟨h, h'⟩ | ⟨_, h', h⟩
        · rw [h', if_pos h.symm]
        · rw [h', if_neg (by omega)]
      obtain ⟨a', c', rfl, hcm, hsl, hrn⟩ := own_row hown
      have r1 : wr.cell? ⟨w.heap.size, 0, none⟩ = some (.bool false) := by rw [hnx.cell (by simp)]; simp [go_sem]
      have r2 : wr.cell? ⟨w.heap.size, 1, none⟩ = some (.slice none 0 0) := by rw [hnx.cell (by simp)]; simp [go_sem]
      have r3 : ∀ j, wr.frozen? ⟨w.heap.size, j, none⟩ = false := by intro j; rw [hnx.frozen (by simp)]; simp [go_sem]
      have HF : Hid (Far (w.heap.size + 1) a' ys) := hrn.far (Nat.le_refl _) (Nat.le_refl _)
      have HL : Hid (L1 wr false a' c' ys v) := by unfold Hid; rw [hys] at hsl ⊢; exact l1_small h0 h1 hcm hsl
      have HB : Hid (Below w.heap.size w wr) := (bel0 _ _).trans (hnx.mono (by omega))
      have hyl : ys.length ≤ 1 := by rw [hys]; split <;> simp
      clear hown hnx hsl hrn hcase hys
      go_wp2
      refine bodyPost_ret (v := .agg #[.bool false, .slice a' ys.length c']) (by simp [results, Try.results29, go_sem, r1, r2, h0]) rfl ?_
      refine ⟨a', c', ys, rfl, hyl, ?_, HF.out, ?_⟩
      · exact (HL.out.setFar HF.out (by simp) _).setFar HF.out (by simp) _
      · exact (HB.out.setCell (by simp) _).setCell (by simp) _

end Go.Proofs.Ytladfpljnaippaa

/-
  The model's DyFloat.
-/
namespace Go.Proofs.Ytladfpljnaippaa
open Go.RowKit

/-- The model's DyFloat under way: the boxes of x (at X) and of mag (at M). -/
structure DM (w : World) (X M : Nat) (G : Bool) (e : Int) (Gm : Bool) (am : Option Addr) (cm : Nat) (ms : List Int) (v : Int) (W : World) : Prop where
  x0 : W.cell? ⟨X, 0, none⟩ = some (.bool G)
  x2 : W.cell? ⟨X, 2, none⟩ = some (.int .i64 e)
  m0 : W.cell? ⟨M, 0, none⟩ = some (.bool Gm)
  m1 : W.cell? ⟨M, 1, none⟩ = some (.slice am ms.length cm)
  fr : ∀ j, W.frozen? ⟨M, j, none⟩ = false
  l1 : L1 W Gm am cm ms v
  wx : w.heap.size ≤ X
  xm : X < M
  lt : M < W.heap.size
  bel : Below w.heap.size w W

theorem DM.later {w : World} {X M : Nat} {G : Bool} {e : Int} {Gm : Bool} {am : Option Addr} {cm : Nat} {ms : List Int} {v : Int} {W W' : World} (h : DM w X M G e Gm am cm ms v W) (hb : Below W.heap.size W W') : DM w X M G e Gm am cm ms v W' := by
  have h1 := h.wx
  have h2 := h.xm
  have h3 := h.lt
  exact ⟨(hb.cell (by simp; omega)).trans h.x0, (hb.cell (by simp; omega)).trans h.x2, (hb.cell (by simp; omega)).trans h.m0, (hb.cell (by simp; omega)).trans h.m1, fun j => (hb.frozen (by simp; omega)).trans (h.fr j), h.l1.later hb, h1, h2, Nat.lt_of_lt_of_le h3 hb.size, h.bel.trans (hb.mono (by omega))⟩

theorem DM.put {w : World} {X M : Nat} {G : Bool} {e : Int} {Gm : Bool} {am : Option Addr} {cm : Nat} {ms : List Int} {v : Int} {W W1 : World} (h : DM w X M G e Gm am cm ms v W) (hb : Below W.heap.size W W1)
    {G2 : Bool} {a2 : Option Addr} {c2 : Nat} {fs : List Int} {v2 : Int} (hl : L1 W1 G2 a2 c2 fs v2) (hf : Far W.heap.size a2 fs) :
    DM w X M G e G2 a2 c2 fs v2 ((W1.setCell ⟨M, 0, none⟩ (.bool G2)).setCell ⟨M, 1, none⟩ (.slice a2 fs.length c2)) := by
  have h' := h.later hb
  have h1 := h.wx
  have h2 := h.xm
  have h3 := h.lt
  have n0 : X ≠ M := by omega
  refine ⟨?_, ?_, ?_, ?_, ?_, (hl.setFar hf (by simpa using h3) _).setFar hf (by simpa using h3) _, h1, h2, by simpa using h'.lt, (h'.bel.setCell (by simp; omega) _).setCell (by simp; omega) _⟩
  · rw [World.cell?_setCell_other _ _ _ _ (fun hh => n0 (congrArg Addr.block hh).symm), World.cell?_setCell_other _ _ _ _ (fun hh => n0 (congrArg Addr.block hh).symm)]
    exact h'.x0
  · rw [World.cell?_setCell_other _ _ _ _ (fun hh => n0 (congrArg Addr.block hh).symm), World.cell?_setCell_other _ _ _ _ (fun hh => n0 (congrArg Addr.block hh).symm)]
    exact h'.x2
  · simp [go_sem, h'.m0]
  · simp [go_sem, h'.m1]
  · intro j
    simp [go_sem, h'.fr]

/-- .. ahead of mag: the box of x alone. -/
structure DX (w : World) (X : Nat) (G : Bool) (ax : Option Addr) (cx : Nat) (ds : List Int) (m e : Int) (W : World) : Prop where
  x0 : W.cell? ⟨X, 0, none⟩ = some (.bool G)
  x1 : W.cell? ⟨X, 1, none⟩ = some (.slice ax ds.length cx)
  x2 : W.cell? ⟨X, 2, none⟩ = some (.int .i64 e)
  l1 : L1 W G ax cx ds m
  wx : w.heap.size ≤ X
  lt : X < W.heap.size
  bel : Below w.heap.size w W

theorem DX.later {w : World} {X : Nat} {G : Bool} {ax : Option Addr} {cx : Nat} {ds : List Int} {m e : Int} {W W' : World} (h : DX w X G ax cx ds m e W) (hb : Below W.heap.size W W') : DX w X G ax cx ds m e W' := by
  have h1 := h.wx
  have h3 := h.lt
  exact ⟨(hb.cell (by simp; omega)).trans h.x0, (hb.cell (by simp; omega)).trans h.x1, (hb.cell (by simp; omega)).trans h.x2, h.l1.later hb, h1, Nat.lt_of_lt_of_le h3 hb.size, h.bel.trans (hb.mono (by omega))⟩

theorem DX.held {w : World} {X : Nat} {G : Bool} {ax : Option Addr} {cx : Nat} {ds : List Int} {m e : Int} {W W' : World} (h : DX w X G ax cx ds m e W) (hb : Below W.heap.size W W') :
    W'.cell? ⟨X, 0, none⟩ = some (.bool G) ∧ W'.cell? ⟨X, 1, none⟩ = some (.slice ax ds.length cx) ∧ W'.cell? ⟨X, 2, none⟩ = some (.int .i64 e) ∧ Below W.heap.size W W' :=
  ⟨(h.later hb).x0, (h.later hb).x1, (h.later hb).x2, hb⟩

theorem DX.start {w W : World} {G : Bool} {ax : Option Addr} {cx : Nat} {ds : List Int} {m e : Int} (hb : Below w.heap.size w W) (hl : L1 W G ax cx ds m) (t : TypeId) : DX w W.heap.size G ax cx ds m e (W.alloc (.cells #[.bool G, .slice ax ds.length cx, .int .i64 e] t)) :=
  ⟨by simp [go_sem], by simp [go_sem], by simp [go_sem], hl.later (bel0 _ _), hb.size, by simp, hb.alloc hb.size _⟩

theorem DM.start {w : World} {X : Nat} {G : Bool} {ax : Option Addr} {cx : Nat} {ds : List Int} {m e : Int} {W W1 : World} (h : DX w X G ax cx ds m e W) (hb : Below W.heap.size W W1) {G2 : Bool} {a2 : Option Addr} {c2 : Nat} {fs : List Int} {v2 : Int} (hl : L1 W1 G2 a2 c2 fs v2) (t : TypeId) :
    DM w X W1.heap.size G e G2 a2 c2 fs v2 (W1.alloc (.cells #[.bool G2, .slice a2 fs.length c2] t)) := by
  have h' := (h.later hb).later (bel0 _ (.cells #[.bool G2, .slice a2 fs.length c2] t))
  exact ⟨h'.x0, h'.x2, by simp [go_sem], by simp [go_sem], by simp [go_sem], hl.later (bel0 _ _), h'.wx, (h.later hb).lt, by simp, h'.bel⟩

theorem DM.held {w : World} {X M : Nat} {G : Bool} {e : Int} {Gm : Bool} {am : Option Addr} {cm : Nat} {ms : List Int} {v : Int} {W W' : World} (h : DM w X M G e Gm am cm ms v W) (hb : Below W.heap.size W W') :
    W'.cell? ⟨X, 0, none⟩ = some (.bool G) ∧ W'.cell? ⟨X, 2, none⟩ = some (.int .i64 e) ∧ W'.cell? ⟨M, 0, none⟩ = some (.bool Gm) ∧ W'.cell? ⟨M, 1, none⟩ = some (.slice am ms.length cm) ∧ Below W.heap.size W W' :=
  ⟨(h.later hb).x0, (h.later hb).x2, (h.later hb).m0, (h.later hb).m1, hb⟩

/-- The digits from the i-th on. -/
theorem val_drop_step {ds : List Int} {i : Nat} (h : i < ds.length) : val 65536 (ds.drop i) = ds.getD i 0 + 65536 * val 65536 (ds.drop (i + 1)) := by
  rw [List.drop_eq_getElem_cons h]
  simp only [val]
  rw [List.getD_eq_getElem?_getD, List.getElem?_eq_getElem h]
  rfl

theorem val_drop_le {ds : List Int} (hd : Dig 65536 ds) : ∀ i, i ≤ ds.length → 0 ≤ val 65536 (ds.drop i) ∧ val 65536 (ds.drop i) ≤ val 65536 ds := by
  intro i
  induction i with
  | zero => intro _; exact ⟨val_nonneg (by decide) (hd.drop 0), by simp⟩
  | succ i ih =>
    intro hi
    have h1 := ih (by omega)
    have h2 := val_drop_step (show i < ds.length by omega)
    have h3 := hd.at (by decide) i
    have h4 := val_nonneg (B := 65536) (by decide) (hd.drop (i + 1))
    omega

end Go.Proofs.Ytladfpljnaippaa
