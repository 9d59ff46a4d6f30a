/-
  Numbers out of bytes: the model's l6number, l6float, l6pointAt.
-/
import Derived.Test.YtcjdnomhnlbmbaaSpF
import Derived.Test.YtcjdnomhnlbmbaaLawVsScMPcAPcIPcB
import Derived.Test.YtcjdnomhnlbmbaaPcPBytes
namespace Go.Proofs.Ytcjdnomhnlbmbaa
open Go.RowKit

/-- The number whose bytes these are, the lowest first. -/
def leV : List Int → Int
  | [] => 0
  | b :: r => b + 256 * leV r
/-- The number of n bytes at a place, or -1 if not all are there. -/
def numB (bs : List Int) (at_ n : Nat) : Int := if bs.length < at_ + n then -1 else leV ((bs.drop at_).take n)
/-- The bits at a place; behind the end there are zeros. -/
def fltB (bs : List Int) (at_ : Nat) : Int := if bs.length < at_ + 4 then 0 else leV ((bs.drop at_).take 4)
/-- Every number fits into a byte. -/
def U8 (bs : List Int) : Prop := ∀ z, z ∈ bs → 0 ≤ z ∧ z < 256

theorem U8.at {bs : List Int} (h : U8 bs) (j : Nat) : 0 ≤ bs.getD j 0 ∧ bs.getD j 0 < 256 := by
  by_cases hj : j < bs.length
  · rw [List.getD_eq_getElem?_getD, List.getElem?_eq_getElem hj]; exact h _ (List.getElem_mem hj)
  · rw [List.getD_eq_getElem?_getD, List.getElem?_eq_none (by omega)]; decide
theorem U8.part {bs : List Int} (h : U8 bs) (i n : Nat) : U8 ((bs.drop i).take n) := fun z hz => h z (List.mem_of_mem_drop (List.mem_of_mem_take hz))

theorem leV_bounds : ∀ (l : List Int), U8 l → 0 ≤ leV l ∧ leV l < 256 ^ l.length
  | [], _ => by simp [leV]
  | b :: r, h => by
    have h1 := leV_bounds r (fun z hz => h z (List.mem_cons_of_mem _ hz))
    have h2 := h b List.mem_cons_self
    simp only [leV, List.length_cons, Int.pow_succ]
    omega
theorem leV_small {l : List Int} (h : U8 l) (hl : l.length ≤ 4) : 0 ≤ leV l ∧ leV l < 4294967296 := by
  have h1 := leV_bounds l h
  refine ⟨h1.1, Int.lt_of_lt_of_le h1.2 ?_⟩
  match l.length, hl with
  | 0, _ => decide
  | 1, _ => decide
  | 2, _ => decide
  | 3, _ => decide
  | 4, _ => decide
theorem leV_three {l : List Int} (h : U8 l) (hl : l.length ≤ 3) : 0 ≤ leV l ∧ leV l < 16777216 := by
  have h1 := leV_bounds l h
  refine ⟨h1.1, Int.lt_of_lt_of_le h1.2 ?_⟩
  match l.length, hl with
  | 0, _ => decide
  | 1, _ => decide
  | 2, _ => decide
  | 3, _ => decide
theorem numB_range {bs : List Int} (h : U8 bs) (i n : Nat) (hn : n ≤ 4) : -1 ≤ numB bs i n ∧ numB bs i n < 4294967296 := by
  unfold numB
  split
  · decide
  · have := leV_small (h.part i n) (by rw [List.length_take]; omega)
    omega
theorem numB_short {bs : List Int} {i n : Nat} (h : bs.length < i + n) : numB bs i n = -1 := by unfold numB; rw [if_pos h]
theorem numB_full {bs : List Int} (h : U8 bs) {i n : Nat} (hn : n ≤ 4) (hl : i + n ≤ bs.length) : 0 ≤ numB bs i n := by
  unfold numB
  rw [if_neg (by omega)]
  exact (leV_small (h.part i n) (by rw [List.length_take]; omega)).1
theorem numB_neg {bs : List Int} (h : U8 bs) {i n : Nat} (hn : n ≤ 4) : numB bs i n < 0 ↔ bs.length < i + n := by
  constructor
  · intro h1
    by_cases hc : bs.length < i + n
    · exact hc
    · have := numB_full h hn (i := i) (by omega)
      omega
  · intro h1
    rw [numB_short h1]
    decide
theorem fltB_range {bs : List Int} (h : U8 bs) (i : Nat) : 0 ≤ fltB bs i ∧ fltB bs i < 4294967296 := by
  unfold fltB
  split
  · decide
  · exact leV_small (h.part i 4) (by rw [List.length_take]; omega)
theorem leV_step {bs : List Int} {i n : Nat} (h : i < bs.length) : leV ((bs.drop i).take (n + 1)) = leV ((bs.drop (i + 1)).take n) * 256 + bs.getD i 0 := by
  rw [List.drop_eq_getElem_cons h, List.take_succ_cons, leV, List.getD_eq_getElem?_getD, List.getElem?_eq_getElem h]
  simp only [Option.getD_some]
  omega

set_option maxRecDepth 100000 in
set_option maxHeartbeats 2000000 in
theorem num6_any (a : Option Addr) (c : Nat) (bs : List Int) (p n : Nat) (w : World) (hl : bs.length ≤ 1048576) (hp : p ≤ 10000000) (hn : n ≤ 4) (hu : U8 bs) (hz : RowAt .u8 w a bs) :
    Calls Try.prog 32 #[.slice a bs.length c, .int .i64 p, .int .i64 n] w fun e w' => e = .returned (.int .i64 (numB bs p n)) ∧ w' = w := by
  by_cases hs : bs.length < p + n
  · have hs' : (bs.length : Int) < p + n := by omega
    rw [numB_short hs]
    go_enter Try.func32, Try.ntmps32
    go_wp2
    go_ret
    exact ⟨rfl, rfl⟩
  · have hs' : ¬ (bs.length : Int) < p + n := by omega
    have HN : Hid (numB bs p n = leV ((bs.drop p).take n)) := by unfold Hid numB; rw [if_neg hs]
    have HZ : Hid (RowAt .u8 w a bs) := hz
    have HU : Hid (U8 bs) := hu
    rw [HN.out]
    clear hz hu
    go_enter Try.func32, Try.ntmps32
    go_wp2
    go_loop [7, 8] (fun sv si => ∃ m : Nat, m ≤ n ∧ si = .int .i64 ((m : Int) - 1) ∧ sv = .int .i64 (leV ((bs.drop (p + m)).take (n - m)))) (fun _ si => (intOf si + 1).toNat)
    case atStart => exact ⟨n, Nat.le_refl _, rfl, by simp [leV]⟩
    case round =>
      obtain ⟨m, hm, hi, rfl⟩ := hrel
      rcases m with _ | k
      · subst hi
        simp only [Nat.add_zero, Nat.sub_zero]
        go_wp2
        go_ret
        exact ⟨rfl, rfl⟩
      · have e : (((k + 1 : Nat) : Int)) - 1 = (k : Int) := by omega
        rw [e] at hi
        subst hi
        have hidx : p + k < bs.length := by omega
        obtain ⟨b, off, rfl, hb, hc⟩ := HZ.out.resolve_left (by intro h; rw [h] at hidx; simp at hidx)
        have g1 := hc (p + k) hidx
        have g2 := (HU.out.at (p + k))
        have h3 := leV_three (HU.out.part (p + (k + 1)) (n - (k + 1))) (by rw [List.length_take]; omega)
        have HST : Hid (leV ((bs.drop (p + k)).take (n - k)) = leV ((bs.drop (p + (k + 1))).take (n - (k + 1))) * 256 + bs.getD (p + k) 0) := by
          have := leV_step (n := n - (k + 1)) hidx
          rw [show n - (k + 1) + 1 = n - k by omega] at this
          exact this
        obtain ⟨v, hv⟩ : ∃ v, v = leV ((bs.drop (p + (k + 1))).take (n - (k + 1))) := ⟨_, rfl⟩
        obtain ⟨y, hy⟩ : ∃ y, y = bs.getD (p + k) 0 := ⟨_, rfl⟩
        rw [← hv] at h3 HST ⊢
        rw [← hy] at g1 g2 HST
        obtain ⟨t, ht⟩ : ∃ t, t = p + k := ⟨_, rfl⟩
        have hx1 : ((p : Int) + (k : Int)) = (t : Int) := by omega
        have hx2 : (t : Int) < bs.length := by omega
        have hx3 : t < bs.length := by omega
        rw [← ht] at g1
        clear hc hv hy ht hidx
        go_wp2
        go_round
        case rel => exact ⟨k, by omega, by go_num, by rw [HST.out]⟩
        case measure => simp [intOf] <;> omega

set_option maxHeartbeats 2000000 in
theorem float6_any (a : Option Addr) (c : Nat) (bs : List Int) (p : Nat) (w : World) (hl : bs.length ≤ 1048576) (hp : p ≤ 10000000) (hu : U8 bs) (hz : RowAt .u8 w a bs) :
    Calls Try.prog 97 #[.slice a bs.length c, .int .i64 p] w fun e w' => e = .returned (.int .u32 (fltB bs p)) ∧ w' = w := by
  have HR : Hid (-1 ≤ numB bs p 4 ∧ numB bs p 4 < 4294967296) := numB_range hu p 4 (by decide)
  have HF : Hid (fltB bs p = if numB bs p 4 < 0 then 0 else numB bs p 4) := by
    unfold Hid fltB
    by_cases h : bs.length < p + 4
    · rw [if_pos h, if_pos ((numB_neg hu (by decide)).2 h)]
    · rw [if_neg h, if_neg (fun h2 => h ((numB_neg hu (by decide)).1 h2))]
      unfold numB
      rw [if_neg h]
  obtain ⟨v, hv⟩ : ∃ v, v = numB bs p 4 := ⟨_, rfl⟩
  have HV : Hid (v = numB bs p 4) := hv
  rw [← hv] at HR HF
  obtain ⟨v0, v1⟩ := HR.out
  clear hv HR
  by_cases hn : v < 0
  · have e := HF.out
    rw [if_pos hn] at e
    rw [e]
    clear HF e
    go_enter Try.func97, Try.ntmps97
    go_wp2_with fail
    refine (num6_any a c bs p 4 _ hl hp (by decide) hu hz).mono ?_
    rintro e w1 ⟨rfl, rfl⟩
    rw [← HV.out]
    go_wp2
    go_ret
    exact ⟨rfl, rfl⟩
  · have e := HF.out
    rw [if_neg hn] at e
    rw [e]
    clear HF e
    have hv0 : 0 ≤ v := by omega
    go_enter Try.func97, Try.ntmps97
    go_wp2_with fail
    refine (num6_any a c bs p 4 _ hl hp (by decide) hu hz).mono ?_
    rintro e w1 ⟨rfl, rfl⟩
    rw [← HV.out]
    go_wp2
    go_ret
    exact ⟨by first | rfl | (congr 2; simp [IntKind.wrap, IntKind.bits, IntKind.signed]; omega), rfl⟩

set_option maxRecDepth 100000 in
set_option maxHeartbeats 4000000 in
theorem pointAt6_any (a : Option Addr) (c : Nat) (bs : List Int) (p : Nat) (w : World) (hl : bs.length ≤ 1048576) (hp : p ≤ 9000000) (hu : U8 bs) (hz : RowAt .u8 w a bs) :
    Calls Try.prog 67 #[.slice a bs.length c, .int .i64 p] w fun e w' => e = .returned (.agg #[.int .u32 (fltB bs p), .int .u32 (fltB bs (p + 4)), .int .u32 (fltB bs (p + 8))]) ∧ Below w.heap.size w w' := by
  have HZ : Hid (RowAt .u8 w a bs) := hz
  have HU : Hid (U8 bs) := hu
  clear hz hu
  go_enter Try.func67, Try.ntmps67
  go_wp2_with fail
  refine (float6_any a c bs p _ hl (by omega) HU.out (HZ.out.later (bel0 _ _))).mono ?_
  rintro e w1 ⟨rfl, rfl⟩
  go_wp2_with fail
  refine (float6_any a c bs (p + 4) _ hl (by omega) HU.out (HZ.out.later (bel0 _ _))).mono ?_
  rintro e w1 ⟨rfl, rfl⟩
  go_wp2_with fail
  refine (float6_any a c bs (p + 8) _ hl (by omega) HU.out (HZ.out.later (bel0 _ _))).mono ?_
  rintro e w1 ⟨rfl, rfl⟩
  go_wp2
  refine bodyPost_ret (v := .agg #[.int .u32 (fltB bs p), .int .u32 (fltB bs (p + 4)), .int .u32 (fltB bs (p + 8))]) (by simp [results, Try.results67, go_sem]) rfl ?_
  exact ⟨rfl, by repeat first | exact Below.refl _ _ | refine Below.setCell ?_ (by simp <;> omega) _ | refine Below.alloc ?_ (by simp <;> omega) _⟩

end Go.Proofs.Ytcjdnomhnlbmbaa

/-
  Scenes whose three lists lie in blocks apart from one another, in whatever order: marked and asked again.
-/
namespace Go.Proofs.Ytcjdnomhnlbmbaa
open Go.RowKit

/-- Two ranges of blocks have none in common. -/
def Dj (l1 h1 l2 h2 : Nat) : Prop := h1 ≤ l2 ∨ h2 ≤ l1

structure ScDj (w : World) (lo hi : Nat) (a1 a2 a3 : Option Addr) (n1 n2 n3 : Nat) (z1 z2 z3 : List Int) (l1 h1 l2 h2 l3 h3 : Nat) : Prop where
  e1 : z1.length = n1 * 9
  e2 : z2.length = n2 * 6
  e3 : z3.length = n3 * 3
  i1 : lo ≤ l1 ∧ h1 ≤ hi
  i2 : lo ≤ l2 ∧ h2 ≤ hi
  i3 : lo ≤ l3 ∧ h3 ≤ hi
  d12 : Dj l1 h1 l2 h2
  d13 : Dj l1 h1 l3 h3
  d23 : Dj l2 h2 l3 h3
  top : hi ≤ w.heap.size
  r1 : RowIn .u32 w l1 h1 a1 z1
  r2 : RowIn .u32 w l2 h2 a2 z2
  r3 : RowIn .u32 w l3 h3 a3 z3

theorem ScDj.at {w : World} {lo hi : Nat} {a1 a2 a3 : Option Addr} {n1 n2 n3 : Nat} {z1 z2 z3 : List Int} {l1 h1 l2 h2 l3 h3 : Nat} (h : ScDj w lo hi a1 a2 a3 n1 n2 n3 z1 z2 z3 l1 h1 l2 h2 l3 h3) : ScAt w a1 a2 a3 n1 n2 n3 z1 z2 z3 :=
  ⟨h.e1, h.e2, h.e3, h.r1.row, h.r2.row, h.r3.row⟩
theorem ScDj.later {w w' : World} {lo hi : Nat} {a1 a2 a3 : Option Addr} {n1 n2 n3 : Nat} {z1 z2 z3 : List Int} {l1 h1 l2 h2 l3 h3 : Nat} (h : ScDj w lo hi a1 a2 a3 n1 n2 n3 z1 z2 z3 l1 h1 l2 h2 l3 h3) (hb : Below w.heap.size w w') : ScDj w' lo hi a1 a2 a3 n1 n2 n3 z1 z2 z3 l1 h1 l2 h2 l3 h3 :=
  ⟨h.e1, h.e2, h.e3, h.i1, h.i2, h.i3, h.d12, h.d13, h.d23, Nat.le_trans h.top hb.size, h.r1.later hb, h.r2.later hb, h.r3.later hb⟩
theorem ScDj.apart {w w' : World} {lo hi lo' hi' : Nat} {a1 a2 a3 : Option Addr} {n1 n2 n3 : Nat} {z1 z2 z3 : List Int} {l1 h1 l2 h2 l3 h3 : Nat} (h : ScDj w lo hi a1 a2 a3 n1 n2 n3 z1 z2 z3 l1 h1 l2 h2 l3 h3) (hw : Within lo' hi' w w') (hd : hi ≤ lo' ∨ hi' ≤ lo) : ScDj w' lo hi a1 a2 a3 n1 n2 n3 z1 z2 z3 l1 h1 l2 h2 l3 h3 :=
  ⟨h.e1, h.e2, h.e3, h.i1, h.i2, h.i3, h.d12, h.d13, h.d23, by rw [hw.size]; exact h.top,
    h.r1.apart hw (by have := h.i1; omega), h.r2.apart hw (by have := h.i2; omega), h.r3.apart hw (by have := h.i3; omega)⟩

/-- What markScene answers of such a scene. -/
def MkDj (w : World) (lo hi : Nat) (a1 a2 a3 : Option Addr) (n1 n2 n3 : Nat) (z1 z2 z3 : List Int) (l1 h1 l2 h2 l3 h3 : Nat) (k0 : Int) (e : Ending) (w' : World) : Prop :=
  e = .returned (.int .i64 (k0 + z1.length + z2.length + z3.length)) ∧ ScDj w' lo hi a1 a2 a3 n1 n2 n3 (marksL k0 z1.length) (marksL (k0 + z1.length) z2.length) (marksL (k0 + z1.length + z2.length) z3.length) l1 h1 l2 h2 l3 h3 ∧ ∃ u, Below w.heap.size w u ∧ Within lo hi u w'

set_option maxRecDepth 100000 in
set_option maxHeartbeats 4000000 in
theorem markDj_any (a1 a2 a3 : Option Addr) (n1 n2 n3 c1 c2 c3 : Nat) (z1 z2 z3 : List Int) (l1 h1 l2 h2 l3 h3 lo hi : Nat) (k0 : Int) (w : World) (hn : n1 + n2 + n3 ≤ 1048576) (hk0 : 1 ≤ k0) (hk1 : k0 ≤ 1048576) (hs : ScDj w lo hi a1 a2 a3 n1 n2 n3 z1 z2 z3 l1 h1 l2 h2 l3 h3) :
    Calls Try.prog 28 #[.agg #[.slice a1 n1 c1, .slice a2 n2 c2, .slice a3 n3 c3], .int .i64 k0] w fun e w' => MkDj w lo hi a1 a2 a3 n1 n2 n3 z1 z2 z3 l1 h1 l2 h2 l3 h3 k0 e w' := by
  have HSC : Hid (ScDj w lo hi a1 a2 a3 n1 n2 n3 z1 z2 z3 l1 h1 l2 h2 l3 h3) := hs
  have HT : Hid (hi ≤ w.heap.size) := hs.top
  have HL : Hid (z1.length = n1 * 9 ∧ z2.length = n2 * 6 ∧ z3.length = n3 * 3) := ⟨hs.e1, hs.e2, hs.e3⟩
  clear hs
  go_enter Try.func28, Try.ntmps28
  go_wp2_with fail
  have I0 : Hid (ScDj (w.alloc (.cells #[.slice a1 n1 c1, .slice a2 n2 c2, .slice a3 n3 c3] 51)) lo hi a1 a2 a3 n1 n2 n3 z1 z2 z3 l1 h1 l2 h2 l3 h3) := HSC.out.later (bel0 _ _)
  refine (markTriS_any a1 n1 c1 z1 k0 _ l1 h1 (by omega) hk0 (by omega) HL.out.1 I0.out.r1).mono ?_
  rintro e w1 ⟨rfl, hr1, hw1⟩
  have p1 : w1.cell? ⟨w.heap.size, 1, none⟩ = some (.slice a2 n2 c2) := by rw [hw1.cell (p := ⟨w.heap.size, 1, none⟩) (.inr (by have := I0.out.i1; have := HT.out; show h1 ≤ w.heap.size; omega))]; simp [go_sem]
  have p2 : w1.cell? ⟨w.heap.size, 2, none⟩ = some (.slice a3 n3 c3) := by rw [hw1.cell (p := ⟨w.heap.size, 2, none⟩) (.inr (by have := I0.out.i1; have := HT.out; show h1 ≤ w.heap.size; omega))]; simp [go_sem]
  have HR1 : Hid (RowIn .u32 w1 l1 h1 a1 (marksL k0 z1.length)) := hr1
  have HR2 : Hid (RowIn .u32 w1 l2 h2 a2 z2) := I0.out.r2.apart hw1 (by have := I0.out.d12; unfold Dj at this; omega)
  have HR3 : Hid (RowIn .u32 w1 l3 h3 a3 z3) := I0.out.r3.apart hw1 (by have := I0.out.d13; unfold Dj at this; omega)
  have HW1 : Hid (Within lo hi (w.alloc (.cells #[.slice a1 n1 c1, .slice a2 n2 c2, .slice a3 n3 c3] 51)) w1) := hw1.wide I0.out.i1.1 I0.out.i1.2
  clear hr1 hw1
  go_wp2_with fail
  refine (markRayS_any a2 n2 c2 z2 (k0 + z1.length) _ l2 h2 (by omega) (by omega) (by have := HL.out; omega) HL.out.2.1 HR2.out).mono ?_
  rintro e w2 ⟨rfl, hr2, hw2⟩
  replace p2 := (hw2.cell (p := ⟨w.heap.size, 2, none⟩) (.inr (by have := I0.out.i2; have := HT.out; show h2 ≤ w.heap.size; omega))).trans p2
  have HQ1 : Hid (RowIn .u32 w2 l1 h1 a1 (marksL k0 z1.length)) := HR1.out.apart hw2 (by have := I0.out.d12; unfold Dj at this; omega)
  have HQ2 : Hid (RowIn .u32 w2 l2 h2 a2 (marksL (k0 + z1.length) z2.length)) := hr2
  have HQ3 : Hid (RowIn .u32 w2 l3 h3 a3 z3) := HR3.out.apart hw2 (by have := I0.out.d23; unfold Dj at this; omega)
  have HW2 : Hid (Within lo hi (w.alloc (.cells #[.slice a1 n1 c1, .slice a2 n2 c2, .slice a3 n3 c3] 51)) w2) := HW1.out.tr (hw2.wide I0.out.i2.1 I0.out.i2.2)
  clear hr2 hw2 HR1 HR2 HR3 HW1 p1
  go_wp2_with fail
  refine (markPointS_any a3 n3 c3 z3 (k0 + z1.length + z2.length) _ l3 h3 (by omega) (by omega) (by have := HL.out; omega) HL.out.2.2 HQ3.out).mono ?_
  rintro e w3 ⟨rfl, hr3, hw3⟩
  have HW3 : Hid (Within lo hi (w.alloc (.cells #[.slice a1 n1 c1, .slice a2 n2 c2, .slice a3 n3 c3] 51)) w3) := HW2.out.tr (hw3.wide I0.out.i3.1 I0.out.i3.2)
  have HI : Hid (ScDj w3 lo hi a1 a2 a3 n1 n2 n3 (marksL k0 z1.length) (marksL (k0 + z1.length) z2.length) (marksL (k0 + z1.length + z2.length) z3.length) l1 h1 l2 h2 l3 h3) := by
    refine ⟨by rw [marks_length]; exact HL.out.1, by rw [marks_length]; exact HL.out.2.1, by rw [marks_length]; exact HL.out.2.2, I0.out.i1, I0.out.i2, I0.out.i3, I0.out.d12, I0.out.d13, I0.out.d23, ?_, HQ1.out.apart hw3 (by have := I0.out.d13; unfold Dj at this; omega), HQ2.out.apart hw3 (by have := I0.out.d23; unfold Dj at this; omega), hr3⟩
    rw [HW3.out.size]
    exact I0.out.top
  clear hr3 hw3 HQ1 HQ2 HQ3 HW2 p2 I0
  go_wp2
  go_ret
  exact ⟨ret_intM rfl, HI.out, _, bel0 _ _, HW3.out⟩

theorem BxS.within {w w' : World} {X lo hi : Nat} {v1 v2 v3 : Value} (h : BxS w X v1 v2 v3) (hw : Within lo hi w w') (hd : X < lo ∨ hi ≤ X) : BxS w' X v1 v2 v3 :=
  ⟨by rw [hw.size]; exact h.lt, (hw.cell (p := ⟨X, 0, none⟩) hd).trans h.q0, (hw.cell (p := ⟨X, 1, none⟩) hd).trans h.q1, (hw.cell (p := ⟨X, 2, none⟩) hd).trans h.q2⟩

end Go.Proofs.Ytcjdnomhnlbmbaa

/-
  Marks in bytes.
-/
namespace Go.Proofs.Ytcjdnomhnlbmbaa
open Go.RowKit

def marksY (k : Int) (n : Nat) : List Int := (marksL k n).map (· % 256)
theorem marksY_length (n : Nat) (k : Int) : (marksY k n).length = n := by rw [marksY, List.length_map, marks_length]
theorem marksY_get (n : Nat) (k : Int) (j : Nat) (h : j < n) : (marksY k n).getD j 0 = (k + j) % 256 := by
  have := marks_get n k j h
  rw [List.getD_eq_getElem?_getD, List.getElem?_eq_getElem (by rw [marks_length]; exact h)] at this
  rw [marksY, List.getD_eq_getElem?_getD, List.getElem?_map, List.getElem?_eq_getElem (by rw [marks_length]; exact h)]
  simp at this ⊢
  rw [this]

set_option maxHeartbeats 1000000 in
theorem markY2_any (a : Option Addr) (c : Nat) (zs : List Int) (k0 : Int) (w : World) (lo hi : Nat) (hn : zs.length ≤ 1048576) (h0 : 1 ≤ k0) (h1 : k0 ≤ 2097152) (hz : RowIn .u8 w lo hi a zs) :
    Calls Try.prog 13 #[.slice a zs.length c, .int .i64 k0] w fun e w' => e = .returned (.int .i64 (k0 + zs.length)) ∧ RowIn .u8 w' lo hi a (marksY k0 zs.length) ∧ Within lo hi w w' := by
  rcases hz with hz | ⟨b, off, rfl, hlo, hhi, hb, hc, hf⟩
  · subst hz
    go_enter Try.func13, Try.ntmps13
    go_wp2
    go_loop [1, 5] (fun k i => k = .int .i64 k0 ∧ i = .int .i64 0) (fun _ _ => 0)
    case atStart => exact ⟨rfl, rfl⟩
    case round =>
      obtain ⟨rfl, rfl⟩ := hrel
      go_wp2
      go_ret
      exact ⟨ret_intM (by simp), .inl rfl, Within.refl _ _ _⟩
  · go_enter Try.func13, Try.ntmps13
    go_wp2
    go_loopw [1, 5] (fun k i wr => ∃ n : Nat, n ≤ zs.length ∧ i = .int .i64 n ∧ k = .int .i64 (k0 + n) ∧ (∀ j, j < n → wr.cell? ⟨b, off + j, none⟩ = some (.int .u8 ((k0 + j) % 256))) ∧ (∀ j, j < zs.length → ∃ v, wr.cell? ⟨b, off + j, none⟩ = some v) ∧ (∀ j, j < zs.length → wr.frozen? ⟨b, off + j, none⟩ = false) ∧ Within lo hi w wr) (fun _ i _ => zs.length - (intOf i).toNat)
    case atStart => exact ⟨0, Nat.zero_le _, rfl, by simp, fun j hj => absurd hj (by omega), fun j hj => ⟨_, hc j hj⟩, hf, Within.refl _ _ _⟩
    case round =>
      obtain ⟨n, hn', rfl, rfl, hdone, hall, hfz, hwi⟩ := hrel
      by_cases hlt : n < zs.length
      · obtain ⟨v, hv⟩ := hall n hlt
        have hv2 := hfz n hlt
        have HD := hdone
        have HS : Hid ((∀ j, j < n + 1 → (wr.setCell ⟨b, off + n, none⟩ (.int .u8 ((k0 + n) % 256))).cell? ⟨b, off + j, none⟩ = some (.int .u8 ((k0 + j) % 256))) ∧ (∀ j, j < zs.length → ∃ v, (wr.setCell ⟨b, off + n, none⟩ (.int .u8 ((k0 + n) % 256))).cell? ⟨b, off + j, none⟩ = some v) ∧ (∀ j, j < zs.length → (wr.setCell ⟨b, off + n, none⟩ (.int .u8 ((k0 + n) % 256))).frozen? ⟨b, off + j, none⟩ = false) ∧ Within lo hi w (wr.setCell ⟨b, off + n, none⟩ (.int .u8 ((k0 + n) % 256)))) := by
          refine ⟨fun j hj => ?_, fun j hj => ?_, fun j hj => ?_, hwi.setCell hlo hhi _⟩
          · by_cases e : j = n
            · subst e; exact World.cell?_setCell_same _ _ _ hv
            · rw [World.cell?_setCell_other _ _ _ _ (by intro hh; apply e; have := congrArg Addr.off hh; simp at this; omega)]; exact hdone j (by omega)
          · by_cases e : j = n
            · subst e; exact ⟨_, World.cell?_setCell_same _ _ _ hv⟩
            · rw [World.cell?_setCell_other _ _ _ _ (by intro hh; apply e; have := congrArg Addr.off hh; simp at this; omega)]; exact hall j hj
          · rw [World.frozen?_setCell]; exact hfz j hj
        clear hdone hall hfz hwi HD hc hf
        go_wp2
        go_roundw
        case rel => exact ⟨n + 1, by omega, by go_num, by go_num, HS.out.1, HS.out.2⟩
        case measure => simp [intOf]; omega
      · have hnn : n = zs.length := by omega
        subst hnn
        have HR : Hid (RowIn .u8 wr lo hi (some ⟨b, off, none⟩) (marksY k0 zs.length)) := by
          refine .inr ⟨b, off, rfl, hlo, hhi, by rw [hwi.size]; exact hb, fun j hj => ?_, fun j hj => ?_⟩
          · rw [marksY_length] at hj
            rw [marksY_get _ _ _ hj]; exact hdone j hj
          · rw [marksY_length] at hj; exact hfz j hj
        have HW : Hid (Within lo hi w wr) := hwi
        clear hdone hall hfz hc hf hwi
        go_wp2
        go_ret
        exact ⟨rfl, HR.out, HW.out⟩

set_option maxHeartbeats 1000000 in
theorem heldY_any (a : Option Addr) (c : Nat) (n : Nat) (k0 : Int) (w : World) (hn : n ≤ 1048576) (h0 : 1 ≤ k0) (h1 : k0 ≤ 2097152) (hz : RowAt .u8 w a (marksY k0 n)) :
    Calls Try.prog 20 #[.slice a n c, .int .i64 k0] w fun e w' => e = .returned (.int .i64 (k0 + n)) ∧ w' = w := by
  rcases hz with hz | ⟨b, off, rfl, hb, hc⟩
  · have : n = 0 := by rw [← marksY_length n k0, hz]; rfl
    subst this
    go_enter Try.func20, Try.ntmps20
    go_wp2
    go_loop [1, 5] (fun k i => k = .int .i64 k0 ∧ i = .int .i64 0) (fun _ _ => 0)
    case atStart => exact ⟨rfl, rfl⟩
    case round =>
      obtain ⟨rfl, rfl⟩ := hrel
      go_wp2
      go_ret
      exact ⟨ret_intM (by simp), rfl⟩
  · go_enter Try.func20, Try.ntmps20
    go_wp2
    go_loop [1, 5] (fun k i => ∃ m : Nat, m ≤ n ∧ i = .int .i64 m ∧ k = .int .i64 (k0 + m)) (fun _ i => n - (intOf i).toNat)
    case atStart => exact ⟨0, Nat.zero_le _, rfl, by simp⟩
    case round =>
      obtain ⟨m, hm, rfl, rfl⟩ := hrel
      by_cases hlt : m < n
      · have g1 : w.cell? ⟨b, off + m, none⟩ = some (.int .u8 ((k0 + m) % 256)) := by rw [hc m (by rw [marksY_length]; exact hlt), marksY_get _ _ _ hlt]
        have hne : ((k0 + (m : Int)) % 256 != (k0 + (m : Int)) % 256) = false := by simp
        clear hc
        go_wp2
        go_round
        case rel => exact ⟨m + 1, by omega, by go_num, by go_num⟩
        case measure => simp [intOf]; omega
      · have hmn : m = n := by omega
        subst hmn
        go_wp2
        go_ret
        exact ⟨rfl, rfl⟩

end Go.Proofs.Ytcjdnomhnlbmbaa
