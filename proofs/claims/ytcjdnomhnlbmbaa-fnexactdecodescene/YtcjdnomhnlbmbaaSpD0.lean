/-
  Numbers out of bytes: the model's l6number, l6float, l6pointAt.
-/
import Derived.Test.YtcjdnomhnlbmbaaSpF
namespace Go.Proofs.Ytcjdnomhnlbmbaa
open Go.RowKit

/-- The number whose bytes these are, the lowest first. -/
def leV : List Int → Int
  | [] => 0
  | b :: r => b + 256 * leV r
/-- The number of n bytes at a place, or -1 if not all are there. -/
def numB (bs : List Int) (at_ n : Nat) : Int := if bs.length < at_ + n then -1 else leV ((bs.drop at_).take n)
/-- The bits at a place; behind the end there are zeros. -/
def fltB (bs : List Int) (at_ : Nat) : Int := if bs.length < at_ + 4 then 0 else leV ((bs.drop at_).take 4)
/-- Every number fits into a byte. -/
def U8 (bs : List Int) : Prop := ∀ z, z ∈ bs → 0 ≤ z ∧ z < 256

theorem U8.at {bs : List Int} (h : U8 bs) (j : Nat) : 0 ≤ bs.getD j 0 ∧ bs.getD j 0 < 256 := by
  by_cases hj : j < bs.length
  · rw [List.getD_eq_getElem?_getD, List.getElem?_eq_getElem hj]; exact h _ (List.getElem_mem hj)
  · rw [List.getD_eq_getElem?_getD, List.getElem?_eq_none (by omega)]; decide
theorem U8.part {bs : List Int} (h : U8 bs) (i n : Nat) : U8 ((bs.drop i).take n) := fun z hz => h z (List.mem_of_mem_drop (List.mem_of_mem_take hz))

theorem leV_bounds : ∀ (l : List Int), U8 l → 0 ≤ leV l ∧ leV l < 256 ^ l.length
  | [], _ => by simp [leV]
  | b :: r, h => by
    have h1 := leV_bounds r (fun z hz => h z (List.mem_cons_of_mem _ hz))
    have h2 := h b List.mem_cons_self
    simp only [leV, List.length_cons, Int.pow_succ]
    omega
theorem leV_small {l : List Int} (h : U8 l) (hl : l.length ≤ 4) : 0 ≤ leV l ∧ leV l < 4294967296 := by
  have h1 := leV_bounds l h
  refine ⟨h1.1, Int.lt_of_lt_of_le h1.2 ?_⟩
  match l.length, hl with
  | 0, _ => decide
  | 1, _ => decide
  | 2, _ => decide
  | 3, _ => decide
  | 4, _ => decide
theorem leV_three {l : List Int} (h : U8 l) (hl : l.length ≤ 3) : 0 ≤ leV l ∧ leV l < 16777216 := by
  have h1 := leV_bounds l h
  refine ⟨h1.1, Int.lt_of_lt_of_le h1.2 ?_⟩
  match l.length, hl with
  | 0, _ => decide
  | 1, _ => decide
  | 2, _ => decide
  | 3, _ => decide
theorem numB_range {bs : List Int} (h : U8 bs) (i n : Nat) (hn : n ≤ 4) : -1 ≤ numB bs i n ∧ numB bs i n < 4294967296 := by
  unfold numB
  split
  · decide
  · have := leV_small (h.part i n) (by rw [List.length_take]; omega)
    omega
theorem numB_short {bs : List Int} {i n : Nat} (h : bs.length < i + n) : numB bs i n = -1 := by unfold numB; rw [if_pos h]
theorem numB_full {bs : List Int} (h : U8 bs) {i n : Nat} (hn : n ≤ 4) (hl : i + n ≤ bs.length) : 0 ≤ numB bs i n := by
  unfold numB
  rw [if_neg (by omega)]
  exact (leV_small (h.part i n) (by rw [List.length_take]; omega)).1
theorem numB_neg {bs : List Int} (h : U8 bs) {i n : Nat} (hn : n ≤ 4) : numB bs i n < 0 ↔ bs.length < i + n := by
  constructor
  · intro h1
    by_cases hc : bs.length < i + n
    · exact hc
    · have := numB_full h hn (i := i) (by omega)
      omega
  · intro h1
    rw [numB_short h1]
    decide
theorem fltB_range {bs : List Int} (h : U8 bs) (i : Nat) : 0 ≤ fltB bs i ∧ fltB bs i < 4294967296 := by
  unfold fltB
  split
  · decide
  · exact leV_small (h.part i 4) (by rw [List.length_take]; omega)
theorem leV_step {bs : List Int} {i n : Nat} (h : i < bs.length) : leV ((bs.drop i).take (n + 1)) = leV ((bs.drop (i + 1)).take n) * 256 + bs.getD i 0 := by
  rw [List.drop_eq_getElem_cons h, List.take_succ_cons, leV, List.getD_eq_getElem?_getD, List.getElem?_eq_getElem h]
  simp only [Option.getD_some]
  omega

set_option maxRecDepth 100000 in
set_option maxHeartbeats 2000000 in
theorem num6_any (a : Option Addr) (c : Nat) (bs : List Int) (p n : Nat) (w : World) (hl : bs.length ≤ 1048576) (hp : p ≤ 10000000) (hn : n ≤ 4) (hu : U8 bs) (hz : RowAt .u8 w a bs) :
    Calls Try.prog 32 #[.slice a bs.length c, .int .i64 p, .int .i64 n] w fun e w' => e = .returned (.int .i64 (numB bs p n)) ∧ w' = w := by
  by_cases hs : bs.length < p + n
  · have hs' : (bs.length : Int) < p + n := by omega
    rw [numB_short hs]
    go_enter Try.func32, Try.ntmps32
    go_wp2
    go_ret
    exact ⟨rfl, rfl⟩
  · have hs' : ¬ (bs.length : Int) < p + n := by omega
    have HN : Hid (numB bs p n = leV ((bs.drop p).take n)) := by unfold Hid numB; rw [if_neg hs]
    have HZ : Hid (RowAt .u8 w a bs) := hz
    have HU : Hid (U8 bs) := hu
    rw [HN.out]
    clear hz hu
    go_enter Try.func32, Try.ntmps32
    go_wp2
    go_loop [7, 8] (fun sv si => ∃ m : Nat, m ≤ n ∧ si = .int .i64 ((m : Int) - 1) ∧ sv = .int .i64 (leV ((bs.drop (p + m)).take (n - m)))) (fun _ si => (intOf si + 1).toNat)
    case atStart => exact ⟨n, Nat.le_refl _, rfl, by simp [leV]⟩
    case round =>
      obtain ⟨m, hm, hi, rfl⟩ := hrel
      rcases m with _ | k
      · subst hi
        simp only [Nat.add_zero, Nat.sub_zero]
        go_wp2
        go_ret
        exact ⟨rfl, rfl⟩
      · have e : (((k + 1 : Nat) : Int)) - 1 = (k : Int) := by omega
        rw [e] at hi
        subst hi
        have hidx : p + k < bs.length := by omega
        obtain ⟨b, off, rfl, hb, hc⟩ := HZ.out.resolve_left (by intro h; rw [h] at hidx; simp at hidx)
        have g1 := hc (p + k) hidx
        have g2 := (HU.out.at (p + k))
        have h3 := leV_three (HU.out.part (p + (k + 1)) (n - (k + 1))) (by rw [List.length_take]; omega)
        have HST : Hid (leV ((bs.drop (p + k)).take (n - k)) = leV ((bs.drop (p + (k + 1))).take (n - (k + 1))) * 256 + bs.getD (p + k) 0) := by
          have := leV_step (n := n - (k + 1)) hidx
          rw [show n - (k + 1) + 1 = n - k by omega] at this
          exact this
        obtain ⟨v, hv⟩ : ∃ v, v = leV ((bs.drop (p + (k + 1))).take (n - (k + 1))) := ⟨_, rfl⟩
        obtain ⟨y, hy⟩ : ∃ y, y = bs.getD (p + k) 0 := ⟨_, rfl⟩
        rw [← hv] at h3 HST ⊢
        rw [← hy] at g1 g2 HST
        obtain ⟨t, ht⟩ : ∃ t, t = p + k := ⟨_, rfl⟩
        have hx1 : ((p : Int) + (k : Int)) = (t : Int) := by omega
        have hx2 : (t : Int) < bs.length := by omega
        have hx3 : t < bs.length := by omega
        rw [← ht] at g1
        clear hc hv hy ht hidx
        go_wp2
        go_round
        case rel => exact ⟨k, by omega, by go_num, by rw [HST.out]⟩
        case measure => simp [intOf] <;> omega

set_option maxHeartbeats 2000000 in
theorem float6_any (a : Option Addr) (c : Nat) (bs : List Int) (p : Nat) (w : World) (hl : bs.length ≤ 1048576) (hp : p ≤ 10000000) (hu : U8 bs) (hz : RowAt .u8 w a bs) :
    Calls Try.prog 97 #[.slice a bs.length c, .int .i64 p] w fun e w' => e = .returned (.int .u32 (fltB bs p)) ∧ w' = w := by
  have HR : Hid (-1 ≤ numB bs p 4 ∧ numB bs p 4 < 4294967296) := numB_range hu p 4 (by decide)
  have HF : Hid (fltB bs p = if numB bs p 4 < 0 then 0 else numB bs p 4) := by
    unfold Hid fltB
    by_cases h : bs.length < p + 4
    · rw [if_pos h, if_pos ((numB_neg hu (by decide)).2 h)]
    · rw [if_neg h, if_neg (fun h2 => h ((numB_neg hu (by decide)).1 h2))]
      unfold numB
      rw [if_neg h]
  obtain ⟨v, hv⟩ : ∃ v, v = numB bs p 4 := ⟨_, rfl⟩
  have HV : Hid (v = numB bs p 4) := hv
  rw [← hv] at HR HF
  obtain ⟨v0, v1⟩ := HR.out
  clear hv HR
  by_cases hn : v < 0
  · have e := HF.out
    rw [if_pos hn] at e
    rw [e]
    clear HF e
    go_enter Try.func97, Try.ntmps97
    go_wp2_with fail
    refine (num6_any a c bs p 4 _ hl hp (by decide) hu hz).mono ?_
    rintro e w1 ⟨rfl, rfl⟩
    rw [← HV.out]
    go_wp2
    go_ret
    exact ⟨rfl, rfl⟩
  · have e := HF.out
    rw [if_neg hn] at e
    rw [e]
    clear HF e
    have hv0 : 0 ≤ v := by omega
    go_enter Try.func97, Try.ntmps97
    go_wp2_with fail
    refine (num6_any a c bs p 4 _ hl hp (by decide) hu hz).mono ?_
    rintro e w1 ⟨rfl, rfl⟩
    rw [← HV.out]
    go_wp2
    go_ret
    exact ⟨by first | rfl | (congr 2; simp [IntKind.wrap, IntKind.bits, IntKind.signed]; omega), rfl⟩

set_option maxRecDepth 100000 in
set_option maxHeartbeats 4000000 in
theorem pointAt6_any (a : Option Addr) (c : Nat) (bs : List Int) (p : Nat) (w : World) (hl : bs.length ≤ 1048576) (hp : p ≤ 9000000) (hu : U8 bs) (hz : RowAt .u8 w a bs) :
    Calls Try.prog 67 #[.slice a bs.length c, .int .i64 p] w fun e w' => e = .returned (.agg #[.int .u32 (fltB bs p), .int .u32 (fltB bs (p + 4)), .int .u32 (fltB bs (p + 8))]) ∧ Below w.heap.size w w' := by
  have HZ : Hid (RowAt .u8 w a bs) := hz
  have HU : Hid (U8 bs) := hu
  clear hz hu
  go_enter Try.func67, Try.ntmps67
  go_wp2_with fail
  refine (float6_any a c bs p _ hl (by omega) HU.out (HZ.out.later (bel0 _ _))).mono ?_
  rintro e w1 ⟨rfl, rfl⟩
  go_wp2_with fail
  refine (float6_any a c bs (p + 4) _ hl (by omega) HU.out (HZ.out.later (bel0 _ _))).mono ?_
  rintro e w1 ⟨rfl, rfl⟩
  go_wp2_with fail
  refine (float6_any a c bs (p + 8) _ hl (by omega) HU.out (HZ.out.later (bel0 _ _))).mono ?_
  rintro e w1 ⟨rfl, rfl⟩
  go_wp2
  refine bodyPost_ret (v := .agg #[.int .u32 (fltB bs p), .int .u32 (fltB bs (p + 4)), .int .u32 (fltB bs (p + 8))]) (by simp [results, Try.results67, go_sem]) rfl ?_
  exact ⟨rfl, by repeat first | exact Below.refl _ _ | refine Below.setCell ?_ (by simp <;> omega) _ | refine Below.alloc ?_ (by simp <;> omega) _⟩

end Go.Proofs.Ytcjdnomhnlbmbaa
