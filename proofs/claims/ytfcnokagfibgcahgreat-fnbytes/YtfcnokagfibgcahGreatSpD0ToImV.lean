/-
  Numbers out of bytes: the model's l6number, l6float, l6pointAt.
-/
import Derived.Test.YtfcnokagfibgcahGreatBytesToSpF
import Derived.BigQuiet
import Derived.Test.YtfcnokagfibgcahGreatDraw0
import Derived.Test.YtfcnokagfibgcahGreatUtil
import Derived.Test.YtfcnokagfibgcahGreatNum
import Derived.Test.YtfcnokagfibgcahGreatSpecOToNumF
import Derived.Laws.Entries
namespace Go.Proofs.YtfcnokagfibgcahGreat
open Go.RowKit

/-- The number whose bytes these are, the lowest first. -/
def leV : List Int → Int
  | [] => 0
  | b :: r => b + 256 * leV r
/-- The number of n bytes at a place, or -1 if not all are there. -/
def numB (bs : List Int) (at_ n : Nat) : Int := if bs.length < at_ + n then -1 else leV ((bs.drop at_).take n)
/-- The bits at a place; behind the end there are zeros. -/
def fltB (bs : List Int) (at_ : Nat) : Int := if bs.length < at_ + 4 then 0 else leV ((bs.drop at_).take 4)
/-- Every number fits into a byte. -/
def U8 (bs : List Int) : Prop := ∀ z, z ∈ bs → 0 ≤ z ∧ z < 256

theorem U8.at {bs : List Int} (h : U8 bs) (j : Nat) : 0 ≤ bs.getD j 0 ∧ bs.getD j 0 < 256 := by
  by_cases hj : j < bs.length
  · rw [List.getD_eq_getElem?_getD, List.getElem?_eq_getElem hj]; exact h _ (List.getElem_mem hj)
  · rw [List.getD_eq_getElem?_getD, List.getElem?_eq_none (by omega)]; decide
theorem U8.part {bs : List Int} (h : U8 bs) (i n : Nat) : U8 ((bs.drop i).take n) := fun z hz => h z (List.mem_of_mem_drop (List.mem_of_mem_take hz))

theorem leV_bounds : ∀ (l : List Int), U8 l → 0 ≤ leV l ∧ leV l < 256 ^ l.length
  | [], _ => by simp [leV]
  | b :: r, h => by
    have h1 := leV_bounds r (fun z hz => h z (List.mem_cons_of_mem _ hz))
    have h2 := h b List.mem_cons_self
    simp only [leV, List.length_cons, Int.pow_succ]
    omega
theorem leV_small {l : List Int} (h : U8 l) (hl : l.length ≤ 4) : 0 ≤ leV l ∧ leV l < 4294967296 := by
  have h1 := leV_bounds l h
  refine ⟨h1.1, Int.lt_of_lt_of_le h1.2 ?_⟩
  match l.length, hl with
  | 0, _ => decide
  | 1, _ => decide
  | 2, _ => decide
  | 3, _ => decide
  | 4, _ => decide
theorem leV_three {l : List Int} (h : U8 l) (hl : l.length ≤ 3) : 0 ≤ leV l ∧ leV l < 16777216 := by
  have h1 := leV_bounds l h
  refine ⟨h1.1, Int.lt_of_lt_of_le h1.2 ?_⟩
  match l.length, hl with
  | 0, _ => decide
  | 1, _ => decide
  | 2, _ => decide
  | 3, _ => decide
theorem numB_range {bs : List Int} (h : U8 bs) (i n : Nat) (hn : n ≤ 4) : -1 ≤ numB bs i n ∧ numB bs i n < 4294967296 := by
  unfold numB
  split
  · decide
  · have := leV_small (h.part i n) (by rw [List.length_take]; omega)
    omega
theorem numB_short {bs : List Int} {i n : Nat} (h : bs.length < i + n) : numB bs i n = -1 := by unfold numB; rw [if_pos h]
theorem numB_full {bs : List Int} (h : U8 bs) {i n : Nat} (hn : n ≤ 4) (hl : i + n ≤ bs.length) : 0 ≤ numB bs i n := by
  unfold numB
  rw [if_neg (by omega)]
  exact (leV_small (h.part i n) (by rw [List.length_take]; omega)).1
theorem numB_neg {bs : List Int} (h : U8 bs) {i n : Nat} (hn : n ≤ 4) : numB bs i n < 0 ↔ bs.length < i + n := by
  constructor
  · intro h1
    by_cases hc : bs.length < i + n
    · exact hc
    · have := numB_full h hn (i := i) (by omega)
      omega
  · intro h1
    rw [numB_short h1]
    decide
theorem fltB_range {bs : List Int} (h : U8 bs) (i : Nat) : 0 ≤ fltB bs i ∧ fltB bs i < 4294967296 := by
  unfold fltB
  split
  · decide
  · exact leV_small (h.part i 4) (by rw [List.length_take]; omega)
theorem leV_step {bs : List Int} {i n : Nat} (h : i < bs.length) : leV ((bs.drop i).take (n + 1)) = leV ((bs.drop (i + 1)).take n) * 256 + bs.getD i 0 := by
  rw [List.drop_eq_getElem_cons h, List.take_succ_cons, leV, List.getD_eq_getElem?_getD, List.getElem?_eq_getElem h]
  simp only [Option.getD_some]
  omega

set_option maxRecDepth 100000 in
set_option maxHeartbeats 2000000 in
theorem num6_any (a : Option Addr) (c : Nat) (bs : List Int) (p n : Nat) (w : World) (hl : bs.length ≤ 1048576) (hp : p ≤ 10000000) (hn : n ≤ 4) (hu : U8 bs) (hz : RowAt .u8 w a bs) :
    Calls Tryz.prog 79 #[.slice a bs.length c, .int .i64 p, .int .i64 n] w fun e w' => e = .returned (.int .i64 (numB bs p n)) ∧ w' = w := by
  by_cases hs : bs.length < p + n
  · have hs' : (bs.length : Int) < p + n := by omega
    rw [numB_short hs]
    go_enter Tryz.func79, Tryz.ntmps79
    go_wp2
    go_ret
    exact ⟨rfl, rfl⟩
  · have hs' : ¬ (bs.length : Int) < p + n := by omega
    have HN : Hid (numB bs p n = leV ((bs.drop p).take n)) := by unfold Hid numB; rw [if_neg hs]
    have HZ : Hid (RowAt .u8 w a bs) := hz
    have HU : Hid (U8 bs) := hu
    rw [HN.out]
    clear hz hu
    go_enter Tryz.func79, Tryz.ntmps79
    go_wp2
    go_loop [7, 8] (fun sv si => ∃ m : Nat, m ≤ n ∧ si = .int .i64 ((m : Int) - 1) ∧ sv = .int .i64 (leV ((bs.drop (p + m)).take (n - m)))) (fun _ si => (intOf si + 1).toNat)
    case atStart => exact ⟨n, Nat.le_refl _, rfl, by simp [leV]⟩
    case round =>
      obtain ⟨m, hm, hi, rfl⟩ := hrel
      rcases m with _ | k
      · subst hi
        simp only [Nat.add_zero, Nat.sub_zero]
        go_wp2
        go_ret
        exact ⟨rfl, rfl⟩
      · have e : (((k + 1 : Nat) : Int)) - 1 = (k : Int) := by omega
        rw [e] at hi
        subst hi
        have hidx : p + k < bs.length := by omega
        obtain ⟨b, off, rfl, hb, hc⟩ := HZ.out.resolve_left (by intro h; rw [h] at hidx; simp at hidx)
        have g1 := hc (p + k) hidx
        have g2 := (HU.out.at (p + k))
        have h3 := leV_three (HU.out.part (p + (k + 1)) (n - (k + 1))) (by rw [List.length_take]; omega)
        have HST : Hid (leV ((bs.drop (p + k)).take (n - k)) = leV ((bs.drop (p + (k + 1))).take (n - (k + 1))) * 256 + bs.getD (p + k) 0) := by
          have := leV_step (n := n - (k + 1)) hidx
          rw [show n - (k + 1) + 1 = n - k by omega] at this
          exact this
        obtain ⟨v, hv⟩ : ∃ v, v = leV ((bs.drop (p + (k + 1))).take (n - (k + 1))) := ⟨_, rfl⟩
        obtain ⟨y, hy⟩ : ∃ y, y = bs.getD (p + k) 0 := ⟨_, rfl⟩
        rw [← hv] at h3 HST ⊢
        rw [← hy] at g1 g2 HST
        obtain ⟨t, ht⟩ : ∃ t, t = p + k := ⟨_, rfl⟩
        have hx1 : ((p : Int) + (k : Int)) = (t : Int) := by omega
        have hx2 : (t : Int) < bs.length := by omega
        have hx3 : t < bs.length := by omega
        rw [← ht] at g1
        clear hc hv hy ht hidx
        go_wp2
        go_round
        case rel => exact ⟨k, by omega, by go_num, by rw [HST.out]⟩
        case measure => simp [intOf] <;> omega

set_option maxHeartbeats 2000000 in
theorem float6_any (a : Option Addr) (c : Nat) (bs : List Int) (p : Nat) (w : World) (hl : bs.length ≤ 1048576) (hp : p ≤ 10000000) (hu : U8 bs) (hz : RowAt .u8 w a bs) :
    Calls Tryz.prog 168 #[.slice a bs.length c, .int .i64 p] w fun e w' => e = .returned (.int .u32 (fltB bs p)) ∧ w' = w := by
  have HR : Hid (-1 ≤ numB bs p 4 ∧ numB bs p 4 < 4294967296) := numB_range hu p 4 (by decide)
  have HF : Hid (fltB bs p = if numB bs p 4 < 0 then 0 else numB bs p 4) := by
    unfold Hid fltB
    by_cases h : bs.length < p + 4
    · rw [if_pos h, if_pos ((numB_neg hu (by decide)).2 h)]
    · rw [if_neg h, if_neg (fun h2 => h ((numB_neg hu (by decide)).1 h2))]
      unfold numB
      rw [if_neg h]
  obtain ⟨v, hv⟩ : ∃ v, v = numB bs p 4 := ⟨_, rfl⟩
  have HV : Hid (v = numB bs p 4) := hv
  rw [← hv] at HR HF
  obtain ⟨v0, v1⟩ := HR.out
  clear hv HR
  by_cases hn : v < 0
  · have e := HF.out
    rw [if_pos hn] at e
    rw [e]
    clear HF e
    go_enter Tryz.func168, Tryz.ntmps168
    go_wp2_with fail
    refine (num6_any a c bs p 4 _ hl hp (by decide) hu hz).mono ?_
    rintro e w1 ⟨rfl, rfl⟩
    rw [← HV.out]
    go_wp2
    go_ret
    exact ⟨rfl, rfl⟩
  · have e := HF.out
    rw [if_neg hn] at e
    rw [e]
    clear HF e
    have hv0 : 0 ≤ v := by omega
    go_enter Tryz.func168, Tryz.ntmps168
    go_wp2_with fail
    refine (num6_any a c bs p 4 _ hl hp (by decide) hu hz).mono ?_
    rintro e w1 ⟨rfl, rfl⟩
    rw [← HV.out]
    go_wp2
    go_ret
    exact ⟨by first | rfl | (congr 2; simp [IntKind.wrap, IntKind.bits, IntKind.signed]; omega), rfl⟩

set_option maxRecDepth 100000 in
set_option maxHeartbeats 4000000 in
theorem pointAt6_any (a : Option Addr) (c : Nat) (bs : List Int) (p : Nat) (w : World) (hl : bs.length ≤ 1048576) (hp : p ≤ 9000000) (hu : U8 bs) (hz : RowAt .u8 w a bs) :
    Calls Tryz.prog 80 #[.slice a bs.length c, .int .i64 p] w fun e w' => e = .returned (.agg #[.int .u32 (fltB bs p), .int .u32 (fltB bs (p + 4)), .int .u32 (fltB bs (p + 8))]) ∧ Below w.heap.size w w' := by
  have HZ : Hid (RowAt .u8 w a bs) := hz
  have HU : Hid (U8 bs) := hu
  clear hz hu
  go_enter Tryz.func80, Tryz.ntmps80
  go_wp2_with fail
  refine (float6_any a c bs p _ hl (by omega) HU.out (HZ.out.later (bel0 _ _))).mono ?_
  rintro e w1 ⟨rfl, rfl⟩
  go_wp2_with fail
  refine (float6_any a c bs (p + 4) _ hl (by omega) HU.out (HZ.out.later (bel0 _ _))).mono ?_
  rintro e w1 ⟨rfl, rfl⟩
  go_wp2_with fail
  refine (float6_any a c bs (p + 8) _ hl (by omega) HU.out (HZ.out.later (bel0 _ _))).mono ?_
  rintro e w1 ⟨rfl, rfl⟩
  go_wp2
  refine bodyPost_ret (v := .agg #[.int .u32 (fltB bs p), .int .u32 (fltB bs (p + 4)), .int .u32 (fltB bs (p + 8))]) (by simp [results, Tryz.results80, go_sem]) rfl ?_
  exact ⟨rfl, by repeat first | exact Below.refl _ _ | refine Below.setCell ?_ (by simp <;> omega) _ | refine Below.alloc ?_ (by simp <;> omega) _⟩

end Go.Proofs.YtfcnokagfibgcahGreat

/-
  The first fault of a list of bytes, and the model's l6fault.
-/
namespace Go.Proofs.YtfcnokagfibgcahGreat
open Go.RowKit

/-- The first that is there of f 0, f 1, .. -/
def firstF {α : Type} (f : Nat → Option α) : Nat → Option α
  | 0 => none
  | n + 1 => match firstF f n with
    | some x => some x
    | none => f n
theorem firstF_succ {α : Type} {f : Nat → Option α} {i : Nat} (h : firstF f i = none) (hx : f i = none) : firstF f (i + 1) = none := by
  simp only [firstF, h, hx]
theorem firstF_at {α : Type} {f : Nat → Option α} {i : Nat} {x : α} (h : firstF f i = none) (hx : f i = some x) : firstF f (i + 1) = some x := by
  simp only [firstF, h, hx]
theorem firstF_stay {α : Type} {f : Nat → Option α} {i : Nat} {x : α} (h : firstF f i = some x) : ∀ d, firstF f (i + d) = some x
  | 0 => h
  | d + 1 => by
    have := firstF_stay h d
    rw [← Nat.add_assoc]
    simp only [firstF, this]
theorem firstF_hit {α : Type} {f : Nat → Option α} {i n : Nat} {x : α} (hi : i < n) (h : firstF f i = none) (hx : f i = some x) : firstF f n = some x := by
  have := firstF_stay (firstF_at h hx) (n - (i + 1))
  rwa [show i + 1 + (n - (i + 1)) = n by omega] at this

def magicAt (bs : List Int) (i : Nat) : Option (Int × Int) :=
  if bs.length ≤ i then some (5, bs.length) else if bs.getD i 0 = ([83, 67, 69, 78] : List Int).getD i 0 then none else some (4, i)
def cntPl (k : Nat) : Nat := 4 + 2 * k
def cntSz (k : Nat) : Nat := if k = 2 then 1 else 2
def cntMo (k : Nat) : Int := if k = 2 then 4 else 40
def cntB (bs : List Int) (k : Nat) : Int := numB bs (cntPl k) (cntSz k)
def cntAt (bs : List Int) (k : Nat) : Option (Int × Int) :=
  if cntB bs k < 0 then some (5, bs.length) else if cntMo k < cntB bs k then some (2, cntPl k) else none
def dirAt (bs : List Int) (c0 c1 : Nat) (i : Nat) : Bool := decide (9 * c0 ≤ i) && decide (i < 9 * c0 + 6 * c1) && decide ((i - 9 * c0) % 6 = 5) && noWayB (fltB bs (1 + 4 * i)) (fltB bs (1 + 4 * i + 4)) (fltB bs (1 + 4 * i + 8))
def fltAt (bs : List Int) (c0 c1 : Nat) (i : Nat) : Option (Int × Int) :=
  if numB bs (9 + 4 * i) 4 < 0 then some (5, bs.length)
  else if fFin (numB bs (9 + 4 * i) 4) = false then some (6, ((9 + 4 * i : Nat) : Int))
  else if dirAt bs c0 c1 i = true then some (7, ((1 + 4 * i : Nat) : Int)) else none
def fltN (c0 c1 c2 : Nat) : Nat := 9 * c0 + 6 * c1 + 3 * c2
def tailF (bs : List Int) (c0 c1 c2 : Nat) : Int × Int :=
  match firstF (fltAt bs c0 c1) (fltN c0 c1 c2) with
  | some x => x
  | none => if 9 + 4 * fltN c0 c1 c2 < bs.length then (8, ((9 + 4 * fltN c0 c1 c2 : Nat) : Int)) else (0, 0)
def countsF (bs : List Int) : Int × Int :=
  match firstF (cntAt bs) 3 with
  | some x => x
  | none => tailF bs (cntB bs 0).toNat (cntB bs 1).toNat (cntB bs 2).toNat
/-- The first fault of a scene's bytes: a code and an offset. -/
def faultF (bs : List Int) : Int × Int :=
  match firstF (magicAt bs) 4 with
  | some x => x
  | none => countsF bs

theorem faultF_magic {bs : List Int} {x : Int × Int} (h : firstF (magicAt bs) 4 = some x) : faultF bs = x := by unfold faultF; rw [h]
theorem faultF_counts {bs : List Int} {x : Int × Int} (h : firstF (magicAt bs) 4 = none) (h1 : firstF (cntAt bs) 3 = some x) : faultF bs = x := by unfold faultF; rw [h]; show countsF bs = x; unfold countsF; rw [h1]
theorem faultF_tail {bs : List Int} (h : firstF (magicAt bs) 4 = none) (h1 : firstF (cntAt bs) 3 = none) : faultF bs = tailF bs (cntB bs 0).toNat (cntB bs 1).toNat (cntB bs 2).toNat := by unfold faultF; rw [h]; show countsF bs = _; unfold countsF; rw [h1]
theorem tailF_hit {bs : List Int} {c0 c1 c2 : Nat} {x : Int × Int} (h : firstF (fltAt bs c0 c1) (fltN c0 c1 c2) = some x) : tailF bs c0 c1 c2 = x := by unfold tailF; rw [h]
theorem tailF_none {bs : List Int} {c0 c1 c2 : Nat} (h : firstF (fltAt bs c0 c1) (fltN c0 c1 c2) = none) : tailF bs c0 c1 c2 = if 9 + 4 * fltN c0 c1 c2 < bs.length then (8, ((9 + 4 * fltN c0 c1 c2 : Nat) : Int)) else (0, 0) := by unfold tailF; rw [h]

theorem firstF_none {α : Type} {f : Nat → Option α} {n : Nat} (h : firstF f n = none) : ∀ i, i < n → f i = none := by
  intro i hi
  cases hf : f i with
  | none => rfl
  | some x =>
    have hn : firstF f i = none := by
      cases hg : firstF f i with
      | none => rfl
      | some y =>
        have := firstF_stay hg (n - i)
        rw [show i + (n - i) = n by omega, h] at this
        cases this
    have := firstF_hit hi hn hf
    rw [h] at this
    cases this

/-- What a count is where none is wrong. -/
theorem cnt_ok {bs : List Int} (h : firstF (cntAt bs) 3 = none) (k : Nat) (hk : k < 3) : 0 ≤ cntB bs k ∧ cntB bs k ≤ cntMo k := by
  have := firstF_none h k hk
  unfold cntAt at this
  by_cases h1 : cntB bs k < 0
  · rw [if_pos h1] at this; cases this
  · rw [if_neg h1] at this
    by_cases h2 : cntMo k < cntB bs k
    · rw [if_pos h2] at this; cases this
    · omega

/-- What l6fault answers. -/
def FaultOut (w : World) (x : Int × Int) (e : Ending) (w' : World) : Prop := e = .returned (.tuple #[.int .i64 x.1, .int .i64 x.2]) ∧ Below w.heap.size w w'

end Go.Proofs.YtfcnokagfibgcahGreat

/-
  The program's reader of bytes: what it holds; take.
-/
namespace Go.Proofs.YtfcnokagfibgcahGreat
open Go.RowKit

/-- The reader in block R: its bytes, which lie elsewhere, and its place. -/
structure RdB (w : World) (R b off c : Nat) (bs : List Int) (i : Nat) : Prop where
  c0 : w.cell? ⟨R, 0, none⟩ = some (.slice (some ⟨b, off, none⟩) bs.length c)
  c1 : w.cell? ⟨R, 1, none⟩ = some (.int .i64 i)
  fr : w.frozen? ⟨R, 1, none⟩ = false
  lt : R < w.heap.size
  row : RowAt .u8 w (some ⟨b, off, none⟩) bs
  ap : b ≠ R
  le : i ≤ bs.length
  cap : bs.length ≤ c
  sm : bs.length ≤ 1048576

theorem RdB.later {w w' : World} {R b off c i : Nat} {bs : List Int} (h : RdB w R b off c bs i) (hb : Below w.heap.size w w') : RdB w' R b off c bs i :=
  ⟨(hb.cell (p := ⟨R, 0, none⟩) h.lt).trans h.c0, (hb.cell (p := ⟨R, 1, none⟩) h.lt).trans h.c1, (hb.frozen (p := ⟨R, 1, none⟩) h.lt).trans h.fr, Nat.lt_of_lt_of_le h.lt hb.size, h.row.later hb, h.ap, h.le, h.cap, h.sm⟩
theorem RdB.move {w : World} {R b off c i : Nat} {bs : List Int} (h : RdB w R b off c bs i) {j : Nat} {z : Int} (hz : z = j) (hj : j ≤ bs.length) : RdB (w.setCell ⟨R, 1, none⟩ (.int .i64 z)) R b off c bs j := by
  subst hz
  refine ⟨by rw [World.cell?_setCell_other _ _ _ _ (by simp)]; exact h.c0, by rw [World.cell?_setCell_same _ _ _ h.c1], by rw [World.frozen?_setCell]; exact h.fr, by rw [World.size_setCell]; exact h.lt, ?_, h.ap, hj, h.cap, h.sm⟩
  exact ((Aside.refl R w).set 1 _).row h.row (fun b' off' e _ => by cases e; exact h.ap)

/-- A fault that is thrown. -/
def thrown (x : Int × Int) : Ending := .panicked [{ v := .iface 139 (.agg #[.int .i64 x.1, .int .i64 x.2]), recovered := false }]

/-- The bytes at a place: size of them. -/
def partB (bs : List Int) (i size : Nat) : List Int := (bs.drop i).take size
theorem partB_length {bs : List Int} {i size : Nat} (h : i + size ≤ bs.length) : (partB bs i size).length = size := by
  unfold partB
  rw [List.length_take, List.length_drop]
  omega
theorem partB_get {bs : List Int} {i size j : Nat} (hj : j < size) : (partB bs i size).getD j 0 = bs.getD (i + j) 0 := by
  unfold partB
  rw [List.getD_eq_getElem?_getD, List.getD_eq_getElem?_getD, List.getElem?_take_of_lt hj, List.getElem?_drop]
theorem part_row {w : World} {b off i size : Nat} {bs : List Int} (h : RowAt .u8 w (some ⟨b, off, none⟩) bs) (hs : i + size ≤ bs.length) : RowAt .u8 w (some ⟨b, off + i, none⟩) (partB bs i size) := by
  by_cases h0 : size = 0
  · left
    apply List.length_eq_zero_iff.1
    rw [partB_length hs, h0]
  · obtain ⟨b', off', e1, e2, e3⟩ := h.resolve_left (by intro e; rw [e] at hs; simp at hs; omega)
    cases e1
    refine .inr ⟨b, off + i, rfl, e2, fun j hj => ?_⟩
    rw [partB_length hs] at hj
    rw [partB_get hj, Nat.add_assoc]
    exact e3 (i + j) (by omega)

def TakeOut (w : World) (R b off c : Nat) (bs : List Int) (i size : Nat) (e : Ending) (w' : World) : Prop :=
  ∃ p k, e = .returned (.slice p size k) ∧ RowAt .u8 w' p (partB bs i size) ∧ (∀ b' o', p = some ⟨b', o', none⟩ → b' = b) ∧ RdB w' R b off c bs (i + size) ∧ Aside R w w'

set_option maxHeartbeats 400000 in
theorem take_ok (R b off c : Nat) (bs : List Int) (i size : Nat) (w : World) (hs : i + size ≤ bs.length) (h : RdB w R b off c bs i) :
    Calls Tryz.prog 257 #[.pointer (some ⟨R, 0, none⟩), .int .i64 size] w fun e w' => TakeOut w R b off c bs i size e w' := by
  have HH : Hid (∀ n m, RdB (((w.drewN n).setCell ⟨R, 1, none⟩ (.int .i64 ((i : Int) + size))).drewN m) R b off c bs (i + size) ∧ Aside R w (((w.drewN n).setCell ⟨R, 1, none⟩ (.int .i64 ((i : Int) + size))).drewN m)) := by
    intro n m
    refine ⟨((h.later (below_drewN (Below.refl _ _) n)).move (j := i + size) (by simp) hs).later (below_drewN (Below.refl _ _) m), ?_⟩
    exact ((Aside.of (P := R) (below_drewN (Below.refl _ _) n)).set 1 _).high (below_drewN (Below.refl w.heap.size _) m) (Nat.le_refl _)
  have c0 := h.c0
  have c1 := h.c1
  have fr := h.fr
  have hcap := h.cap
  have hsm := h.sm
  clear h
  have hge : ¬ ((bs.length : Int) - i < size) := by omega
  by_cases hic : c = i
  · subst hic
    have hz : size = 0 := by omega
    subst hz
    go_enter Tryz.func257, Tryz.ntmps257
    go_wp2
    go_quiet (fail)
    go_wp2
    go_quiet (fail)
    go_wp2
    go_ret
    exact ⟨_, _, rfl, .inl (by simp [partB]), fun b' o' e => by cases e; rfl, (HH.out _ _).1, (HH.out _ _).2⟩
  · have hic' : i < c := by omega
    clear hic
    go_enter Tryz.func257, Tryz.ntmps257
    go_wp2
    go_quiet (fail)
    go_wp2
    go_quiet (fail)
    go_wp2
    go_ret
    exact ⟨some ⟨b, off + i, none⟩, c - i, (show Ending.returned (.slice (some ⟨b, off + i, none⟩) (i + size - i) (c - i)) = _ by rw [Nat.add_sub_cancel_left]), part_row (HH.out _ _).1.row hs, fun b' o' e => by cases e; rfl, (HH.out _ _).1, (HH.out _ _).2⟩

set_option maxHeartbeats 400000 in
theorem take_short (R b off c : Nat) (bs : List Int) (i size : Nat) (w : World) (hs : bs.length < i + size) (h : RdB w R b off c bs i) :
    Calls Tryz.prog 257 #[.pointer (some ⟨R, 0, none⟩), .int .i64 size] w fun e w' => e = thrown (5, bs.length) ∧ Aside R w w' := by
  have c0 := h.c0
  have c1 := h.c1
  have hsm := h.sm
  have hle := h.le
  clear h
  have hge : ((bs.length : Int) - i < size) := by omega
  go_enter Tryz.func257, Tryz.ntmps257
  go_wp2
  go_quiet (fail)
  go_wp2
  exact ⟨rfl, rfl, Aside.of (below_drewN (Below.refl _ _) _)⟩

end Go.Proofs.YtfcnokagfibgcahGreat

/-
  The program's reader: number.
-/
namespace Go.Proofs.YtfcnokagfibgcahGreat
open Go.RowKit

theorem leV_snoc : ∀ (l : List Int) (x : Int), leV (l ++ [x]) = leV l + 256 ^ l.length * x
  | [], x => by simp [leV]
  | b :: r, x => by
    rw [List.cons_append, leV, leV, leV_snoc r x, List.length_cons, Int.pow_succ, Int.mul_add, Int.add_assoc, ← Int.mul_assoc, Int.mul_comm (256 ^ r.length) 256]

/-- The number of the first k bytes of a part. -/
def numK (bs : List Int) (i size k : Nat) : Int := leV ((partB bs i size).take k)
theorem numK_succ {bs : List Int} {i size k : Nat} (hs : i + size ≤ bs.length) (hk : k < size) : numK bs i size (k + 1) = numK bs i size k + 256 ^ k * bs.getD (i + k) 0 := by
  unfold numK
  have hl : k < (partB bs i size).length := by rw [partB_length hs]; exact hk
  rw [List.take_succ_eq_append_getElem hl, leV_snoc, List.length_take, Nat.min_eq_left (Nat.le_of_lt hl), ← partB_get (size := size) hk, List.getD_eq_getElem?_getD, List.getElem?_eq_getElem hl]
  rfl
theorem numK_bounds {bs : List Int} (hu : U8 bs) {i size k : Nat} (hs : i + size ≤ bs.length) (hk : k ≤ size) : 0 ≤ numK bs i size k ∧ numK bs i size k < 256 ^ k := by
  have h1 : U8 ((partB bs i size).take k) := fun z hz => hu.part i size z (List.mem_of_mem_take hz)
  have h2 := leV_bounds _ h1
  rw [List.length_take, partB_length hs, Nat.min_eq_left hk] at h2
  exact h2
theorem numK_all {bs : List Int} {i size : Nat} (hs : i + size ≤ bs.length) : numK bs i size size = numB bs i size := by
  unfold numK numB
  rw [if_neg (by omega), List.take_of_length_le (by rw [partB_length hs]; omega)]
  rfl

theorem or_byte {n y p : Int} (k : Nat) (hp : p = 2 ^ (8 * k)) (h0 : 0 ≤ n) (h1 : n < p) (y0 : 0 ≤ y) (y1 : y < 256) (hk : k < 4) : bits .or .u32 n (y * p) = n + p * y := by
  subst hp
  obtain ⟨m, rfl⟩ := Int.eq_ofNat_of_zero_le h0
  obtain ⟨z, rfl⟩ := Int.eq_ofNat_of_zero_le y0
  have hm : m < 2 ^ (8 * k) := by exact_mod_cast h1
  have hz : z < 256 := by omega
  have hb : z * 2 ^ (8 * k) + m < 4294967296 := by
    have hk4 : k = 0 ∨ k = 1 ∨ k = 2 ∨ k = 3 := by omega
    rcases hk4 with rfl | rfl | rfl | rfl <;> simp at hm ⊢ <;> omega
  have e1 : m ||| z * 2 ^ (8 * k) = z * 2 ^ (8 * k) + m := by
    have := Nat.two_pow_add_eq_or_of_lt hm z
    rw [Nat.or_comm, Nat.mul_comm z, this]
  have e2 : (BitVec.ofInt 32 (m : Int) ||| BitVec.ofInt 32 ((z * 2 ^ (8 * k) : Nat) : Int)).toNat = m ||| z * 2 ^ (8 * k) := by
    rw [BitVec.toNat_or, BitVec.ofInt_natCast, BitVec.toNat_ofNat, BitVec.ofInt_natCast, BitVec.toNat_ofNat, Nat.mod_eq_of_lt (by omega), Nat.mod_eq_of_lt (by omega)]
  have e3 : ((z : Int) * (2 : Int) ^ (8 * k)) = ((z * 2 ^ (8 * k) : Nat) : Int) := by push_cast; rfl
  rw [e3]
  show IntKind.u32.wrap ((BitVec.ofInt 32 (m : Int) ||| BitVec.ofInt 32 ((z * 2 ^ (8 * k) : Nat) : Int)).toNat : Int) = _
  rw [e2, e1]
  simp only [IntKind.wrap, IntKind.bits, IntKind.signed]
  rw [Int.mul_comm, e3]
  obtain ⟨t, ht⟩ : ∃ t, t = z * 2 ^ (8 * k) := ⟨_, rfl⟩
  rw [← ht] at hb ⊢
  simp
  omega

def NumOut (w : World) (R b off c : Nat) (bs : List Int) (i size : Nat) (e : Ending) (w' : World) : Prop :=
  e = .returned (.int .u32 (numB bs i size)) ∧ RdB w' R b off c bs (i + size) ∧ Aside R w w'

set_option maxRecDepth 100000 in
set_option maxHeartbeats 1000000 in
theorem number_ok (R b off c : Nat) (bs : List Int) (i size : Nat) (w : World) (hu : U8 bs) (hs4 : size ≤ 4) (hs : i + size ≤ bs.length) (h : RdB w R b off c bs i) :
    Calls Tryz.prog 258 #[.pointer (some ⟨R, 0, none⟩), .int .i64 size] w fun e w' => NumOut w R b off c bs i size e w' := by
  have HU : Hid (U8 bs) := hu
  have HH : Hid (RdB w R b off c bs i) := h
  clear h hu
  go_enter Tryz.func258, Tryz.ntmps258
  go_wp2_with fail
  refine (take_ok R b off c bs i size _ hs HH.out).mono ?_
  rintro e V ⟨p, k, rfl, hrow, hpb, hrd, has⟩
  have HR : Hid (RowAt .u8 V p (partB bs i size)) := hrow
  have HD : Hid (RdB V R b off c bs (i + size)) := hrd
  have HA : Hid (Aside R w V) := has
  clear hrow hrd has hpb
  go_wp2
  go_loopw [5, 6, 7, 12] (fun sn _ _ si wr => ∃ (j : Nat), j ≤ size ∧ si = .int .i64 j ∧ sn = .int .u32 (numK bs i size j) ∧ wr = V) (fun _ _ _ si _ => size - (intOf si).toNat)
  case atStart => exact ⟨0, Nat.zero_le _, rfl, rfl, rfl⟩
  case round =>
    obtain ⟨j, hj, rfl, rfl, rfl⟩ := hrel
    by_cases hlt : j < size
    · obtain ⟨b1, o1, rfl, hbl, hc⟩ := HR.out.resolve_left (by intro e; have := congrArg List.length e; rw [partB_length hs] at this; simp at this; omega)
      have q : wr.cell? ⟨b1, o1 + j, none⟩ = some (.int .u8 (bs.getD (i + j) 0)) := by
        have := hc j (by rw [partB_length hs]; exact hlt)
        rw [partB_get hlt] at this
        exact this
      have y0 := (HU.out.at (i + j)).1
      have y1 := (HU.out.at (i + j)).2
      have n0 := (numK_bounds HU.out hs (Nat.le_of_lt hlt)).1
      have n1 := (numK_bounds HU.out hs (Nat.le_of_lt hlt)).2
      have HE : Hid (numK bs i size (j + 1) = numK bs i size j + 256 ^ j * bs.getD (i + j) 0) := numK_succ hs hlt
      obtain ⟨y, hy⟩ : ∃ y, y = bs.getD (i + j) 0 := ⟨_, rfl⟩
      rw [← hy] at q y0 y1 HE
      obtain ⟨N, hN⟩ : ∃ N, N = numK bs i size j := ⟨_, rfl⟩
      rw [← hN] at n0 n1 HE ⊢
      have hib : (j : Int) < size := by omega
      clear hc hy hN hbl
      have hj4 : j = 0 ∨ j = 1 ∨ j = 2 ∨ j = 3 := by omega
      rcases hj4 with rfl | rfl | rfl | rfl
      · have HO : Hid (bits .or .u32 N y = numK bs i size (0 + 1)) := by
          have h1 := or_byte 0 (p := 1) (by decide) n0 (Int.lt_of_lt_of_le n1 (by decide)) y0 y1 (by decide)
          rw [Int.mul_one] at h1
          unfold Hid
          rw [h1, HE.out, show ((256 : Int) ^ 0) = 1 from by decide]
        clear n1 HE
        rw [Nat.add_zero] at q
        go_wp2
        go_roundw
        case rel => exact ⟨0 + 1, by omega, by go_num, by rw [HO.out], trivial⟩
        case measure => simp [intOf]; omega
      · have HO : Hid (bits .or .u32 N (y * 256) = numK bs i size (1 + 1)) := by
          have h1 := or_byte 1 (p := 256) (by decide) n0 (Int.lt_of_lt_of_le n1 (by decide)) y0 y1 (by decide)
          unfold Hid
          rw [h1, HE.out, show ((256 : Int) ^ 1) = 256 from by decide]
        clear n1 HE
        go_wp2
        go_roundw
        case rel => exact ⟨1 + 1, by omega, by go_num, by rw [HO.out], trivial⟩
        case measure => simp [intOf]; omega
      · have HO : Hid (bits .or .u32 N (y * 65536) = numK bs i size (2 + 1)) := by
          have h1 := or_byte 2 (p := 65536) (by decide) n0 (Int.lt_of_lt_of_le n1 (by decide)) y0 y1 (by decide)
          unfold Hid
          rw [h1, HE.out, show ((256 : Int) ^ 2) = 65536 from by decide]
        clear n1 HE
        go_wp2
        go_roundw
        case rel => exact ⟨2 + 1, by omega, by go_num, by rw [HO.out], trivial⟩
        case measure => simp [intOf]; omega
      · have HO : Hid (bits .or .u32 N (y * 16777216) = numK bs i size (3 + 1)) := by
          have h1 := or_byte 3 (p := 16777216) (by decide) n0 (Int.lt_of_lt_of_le n1 (by decide)) y0 y1 (by decide)
          unfold Hid
          rw [h1, HE.out, show ((256 : Int) ^ 3) = 16777216 from by decide]
        clear n1 HE
        go_wp2
        go_roundw
        case rel => exact ⟨3 + 1, by omega, by go_num, by rw [HO.out], trivial⟩
        case measure => simp [intOf]; omega
    · have hje : size = j := by omega
      subst hje
      have HN : Hid (numK bs i size size = numB bs i size) := numK_all hs
      go_wp2
      go_ret
      exact ⟨by rw [← HN.out]; rfl, HD.out, HA.out⟩

theorem number_short (R b off c : Nat) (bs : List Int) (i size : Nat) (w : World) (hs : bs.length < i + size) (h : RdB w R b off c bs i) :
    Calls Tryz.prog 258 #[.pointer (some ⟨R, 0, none⟩), .int .i64 size] w fun e w' => e = thrown (5, bs.length) ∧ Aside R w w' := by
  have HH : Hid (RdB w R b off c bs i) := h
  clear h
  go_enter Tryz.func258, Tryz.ntmps258
  go_wp2_with fail
  refine (take_short R b off c bs i size _ hs HH.out).mono ?_
  rintro e V ⟨rfl, has⟩
  exact ⟨rfl, rfl, has⟩

end Go.Proofs.YtfcnokagfibgcahGreat

/-
  The program's test whether floats are finite.
-/
namespace Go.Proofs.YtfcnokagfibgcahGreat
open Go.RowKit

theorem mask_nat (n : Nat) : n &&& 2139095040 = n / 8388608 % 256 * 8388608 := by
  apply Nat.eq_of_testBit_eq
  intro i
  rw [show (2139095040 : Nat) = (2 ^ 8 - 1) <<< 23 by decide, show n / 8388608 % 256 * 8388608 = ((n >>> 23) % 2 ^ 8) <<< 23 by rw [Nat.shiftLeft_eq, Nat.shiftRight_eq_div_pow]]
  simp only [Nat.testBit_and, Nat.testBit_shiftLeft, Nat.testBit_mod_two_pow, Nat.testBit_two_pow_sub_one, Nat.testBit_shiftRight]
  by_cases h : 23 ≤ i
  · rw [show 23 + (i - 23) = i by omega]
    simp [h, Bool.and_comm]
  · simp [h]
theorem mask_bits {x : Int} (h0 : 0 ≤ x) (h1 : x < 4294967296) : (bits .and .u32 x 2139095040 == 2139095040) = !(fFin x) := by
  obtain ⟨n, rfl⟩ := Int.eq_ofNat_of_zero_le h0
  have e : bits .and .u32 (n : Int) 2139095040 = ((n &&& 2139095040 : Nat) : Int) := by
    have hl : n &&& 2139095040 < 4294967296 := Nat.lt_of_le_of_lt Nat.and_le_right (by decide)
    have e2 : (BitVec.ofInt 32 (n : Int) &&& BitVec.ofInt 32 2139095040).toNat = n &&& 2139095040 := by
      rw [BitVec.toNat_and, BitVec.ofInt_natCast, BitVec.toNat_ofNat, Nat.mod_eq_of_lt (by omega)]
      rfl
    show IntKind.u32.wrap ((BitVec.ofInt 32 (n : Int) &&& BitVec.ofInt 32 2139095040).toNat : Int) = _
    rw [e2]
    simp only [IntKind.wrap, IntKind.bits, IntKind.signed]
    simp
    omega
  rw [e, mask_nat]
  unfold fFin
  by_cases h : (n : Int) / 8388608 % 256 = 255
  · have h2 : n / 8388608 % 256 = 255 := by omega
    rw [h2, h]
    decide
  · have h2 : n / 8388608 % 256 ≠ 255 := by omega
    have h3 : (((n / 8388608 % 256 * 8388608 : Nat) : Int) == 2139095040) = false := by
      rw [beq_eq_false_iff_ne]
      omega
    have h4 : ((n : Int) / 8388608 % 256 != 255) = true := by rw [bne_iff_ne]; exact h
    rw [h3, h4]
    rfl

set_option maxHeartbeats 1000000 in
theorem floatsFin_any (a : Option Addr) (c : Nat) (zs : List Int) (w : World) (hn : zs.length ≤ 1000) (hz : RowAt .u32 w a zs) (hu : U32 zs) :
    Calls Tryz.prog 197 #[.slice a zs.length c] w fun e w' => e = .returned (.bool (zs.all fFin)) ∧ Below w.heap.size w w' := by
  go_enter Tryz.func197, Tryz.ntmps197
  go_wp2
  go_loopw [4, 7] (fun _ si wr => ∃ i : Nat, i ≤ zs.length ∧ si = .int .i64 i ∧ Hid ((zs.take i).all fFin = true) ∧ Below w.heap.size w wr) (fun _ si _ => zs.length - (intOf si).toNat)
  case atStart => exact ⟨0, Nat.zero_le _, rfl, rfl, Below.refl _ _⟩
  case round =>
    obtain ⟨i, hi, rfl, hall, hnx⟩ := hrel
    have hz2 := hz.later hnx
    by_cases hlt : i < zs.length
    · have hib : (i : Int) < zs.length := by omega
      rcases hz2 with h | ⟨b, off, h1, h2, h3⟩
      · subst h; simp at hlt
      subst h1
      have g0 := h3 i hlt
      obtain ⟨x, hx⟩ : ∃ x, x = zs.getD i 0 := ⟨_, rfl⟩
      rw [← hx] at g0
      have hmem : x ∈ zs := by rw [hx, List.getD_eq_getElem?_getD, List.getElem?_eq_getElem hlt]; exact List.getElem_mem hlt
      have hx0 := hu x hmem
      have HTK : Hid ((zs.take (i + 1)).all fFin = fFin x) := by
        unfold Hid
        rw [List.take_succ_eq_append_getElem hlt, List.all_append, hall.out, hx]
        simp [List.getD_eq_getElem?_getD, hlt]
      have HBAD : Hid (fFin x = false → zs.all fFin = false) := by
        intro hf
        cases hall2 : zs.all fFin
        · rfl
        · have := List.all_eq_true.1 hall2 x hmem
          rw [hf] at this
          cases this
      have hm := mask_bits hx0.1 hx0.2
      have HN : Hid (Below w.heap.size w wr) := hnx
      clear hx hmem h3 hall hnx
      cases hf : fFin x
      · rw [hf] at hm
        have hbad := HBAD.out hf
        have HF : Hid (zs.all fFin = false) := hbad
        clear hbad
        go_wp2
        go_ret
        exact ⟨by rw [HF.out]; rfl, HN.out⟩
      · rw [hf] at hm
        go_wp2
        go_roundw
        case rel => exact ⟨i + 1, by omega, by simp, by unfold Hid; rw [HTK.out, hf], HN.out⟩
        case measure => simp [intOf]; omega
    · have hie : i = zs.length := by omega
      subst hie
      have HF : Hid (zs.all fFin = true) := by
        have := hall.out
        rwa [List.take_length] at this
      have HN : Hid (Below w.heap.size w wr) := hnx
      clear hall hnx hz2
      go_wp2
      go_ret
      exact ⟨by rw [HF.out]; rfl, HN.out⟩

end Go.Proofs.YtfcnokagfibgcahGreat

/-
  The program's tests of points, triangles and rays.
-/
namespace Go.Proofs.YtfcnokagfibgcahGreat
open Go.RowKit

theorem row_lit (w : World) (xs : List Int) (t : TypeId) : RowAt .u32 (w.alloc (.cells (xs.map (Value.int .u32 ·)).toArray t)) (some ⟨w.heap.size, 0, none⟩) xs := by
  refine .inr ⟨w.heap.size, 0, rfl, by simp, fun j hj => ?_⟩
  simp [List.getD_eq_getElem?_getD, hj]

theorem row_at (w : World) (xs : List Int) (t : TypeId) {X : Nat} (hX : X = w.heap.size) : RowAt .u32 (w.alloc (.cells (xs.map (Value.int .u32 ·)).toArray t)) (some ⟨X, 0, none⟩) xs := by
  subst hX
  exact row_lit w xs t

set_option maxRecDepth 100000 in
set_option maxHeartbeats 4000000 in
theorem pointsFinite_any (a : Option Addr) (n c : Nat) (zs : List Int) (w : World) (hn : n ≤ 1048576) (hl : zs.length = n * 3) (hu : U32 zs) (hz : RowAt .u32 w a zs) :
    Calls Tryz.prog 98 #[.slice a n c] w fun e w' => e = .returned (.bool ((List.range n).all (ptAt zs))) ∧ Below w.heap.size w w' := by
  have HL : Hid (zs.length = n * 3) := hl
  have HZ : Hid (RowAt .u32 w a zs) := hz
  have HU : Hid (U32 zs) := hu
  clear hl hz hu
  go_enter Tryz.func98, Tryz.ntmps98
  go_wp2
  go_loopw [4, 7] (fun _ si wr => ∃ (i : Nat), i ≤ n ∧ si = .int .i64 i ∧ Hid ((List.range i).all (ptAt zs) = true) ∧ Hid (Below w.heap.size w wr)) (fun _ si _ => n - (intOf si).toNat)
  case atStart => exact ⟨0, Nat.zero_le _, rfl, rfl, Below.refl _ _⟩
  case round =>
    obtain ⟨i, hi, rfl, hA, hb⟩ := hrel
    by_cases hlt : i < n
    · have hle : ∀ j, j < 3 → i * 3 + j < zs.length := by intro j hj; rw [HL.out]; omega
      obtain ⟨b, off, rfl, hbl, hc⟩ := HZ.out.resolve_left (by intro h; have := hle 0 (by omega); rw [h] at this; simp at this)
      obtain ⟨x0, hx0⟩ : ∃ x, x = zs.getD (i * 3) 0 := ⟨_, rfl⟩
      have q0 : wr.cell? ⟨b, off + i * 3, none⟩ = some (.int .u32 x0) := by
        have := (hb.out.cell (p := ⟨b, off + (i * 3 + 0), none⟩) hbl).trans (hc (i * 3 + 0) (hle 0 (by omega)))
        rw [hx0]
        simpa [Nat.add_assoc] using this
      have x0a : 0 ≤ x0 := by rw [hx0]; exact (HU.out.at _).1
      have x0b : x0 < 4294967296 := by rw [hx0]; exact (HU.out.at _).2
      obtain ⟨x1, hx1⟩ : ∃ x, x = zs.getD (i * 3 + 1) 0 := ⟨_, rfl⟩
      have q1 : wr.cell? ⟨b, off + i * 3 + 1, none⟩ = some (.int .u32 x1) := by
        have := (hb.out.cell (p := ⟨b, off + (i * 3 + 1), none⟩) hbl).trans (hc (i * 3 + 1) (hle 1 (by omega)))
        rw [hx1]
        simpa [Nat.add_assoc] using this
      have x1a : 0 ≤ x1 := by rw [hx1]; exact (HU.out.at _).1
      have x1b : x1 < 4294967296 := by rw [hx1]; exact (HU.out.at _).2
      obtain ⟨x2, hx2⟩ : ∃ x, x = zs.getD (i * 3 + 2) 0 := ⟨_, rfl⟩
      have q2 : wr.cell? ⟨b, off + i * 3 + 2, none⟩ = some (.int .u32 x2) := by
        have := (hb.out.cell (p := ⟨b, off + (i * 3 + 2), none⟩) hbl).trans (hc (i * 3 + 2) (hle 2 (by omega)))
        rw [hx2]
        simpa [Nat.add_assoc] using this
      have x2a : 0 ≤ x2 := by rw [hx2]; exact (HU.out.at _).1
      have x2b : x2 < 4294967296 := by rw [hx2]; exact (HU.out.at _).2
      have HX : Hid (ptAt zs i = ([x0, x1, x2].all fFin)) := by unfold Hid; rw [hx0, hx1, hx2]; simp [ptAt, pointB, Bool.and_assoc]
      have hib : (i : Int) < n := by omega
      clear hc hle hx0 hx1 hx2
      go_wp2_with fail
      refine (floatsFin_any (some ⟨wr.heap.size + 1, 0, none⟩) 3 [x0, x1, x2] _ (by simp) (row_at _ [x0, x1, x2] _ (by simp)) (by intro x hx; simp at hx; rcases hx with rfl | rfl | rfl <;> (constructor <;> assumption))).mono ?_
      rintro e w1 ⟨rfl, hb1⟩
      have HB1 : Hid (Below w.heap.size w w1) := hb.out.trans ((bel2 _ _ _).trans (hb1.mono (by simp <;> omega)) |>.mono hb.out.size)
      clear hb1 hb q0 x0a x0b q1 x1a x1b q2 x2a x2b
      rw [← HX.out]
      cases hT : ptAt zs i
      · go_wp2
        go_ret
        exact ⟨ret_bool (by rw [all_range_false hlt hT]), HB1.out⟩
      · go_wp2
        go_roundw
        case rel => exact ⟨i + 1, by omega, by go_num, by unfold Hid; rw [all_range_succ, hA.out, hT]; rfl, HB1⟩
        case measure => simp [intOf]; omega
    · have hie : i = n := by omega
      subst hie
      have HA := hA.out
      go_wp2
      go_ret
      exact ⟨ret_bool HA.symm, hb.out⟩

set_option maxRecDepth 100000 in
set_option maxHeartbeats 4000000 in
theorem trisFinite_any (a : Option Addr) (n c : Nat) (zs : List Int) (w : World) (hn : n ≤ 1048576) (hl : zs.length = n * 9) (hu : U32 zs) (hz : RowAt .u32 w a zs) :
    Calls Tryz.prog 66 #[.slice a n c] w fun e w' => e = .returned (.bool ((List.range n).all (triAt zs))) ∧ Below w.heap.size w w' := by
  have HL : Hid (zs.length = n * 9) := hl
  have HZ : Hid (RowAt .u32 w a zs) := hz
  have HU : Hid (U32 zs) := hu
  clear hl hz hu
  go_enter Tryz.func66, Tryz.ntmps66
  go_wp2
  go_loopw [4, 7] (fun _ si wr => ∃ (i : Nat), i ≤ n ∧ si = .int .i64 i ∧ Hid ((List.range i).all (triAt zs) = true) ∧ Hid (Below w.heap.size w wr)) (fun _ si _ => n - (intOf si).toNat)
  case atStart => exact ⟨0, Nat.zero_le _, rfl, rfl, Below.refl _ _⟩
  case round =>
    obtain ⟨i, hi, rfl, hA, hb⟩ := hrel
    by_cases hlt : i < n
    · have hle : ∀ j, j < 9 → i * 9 + j < zs.length := by intro j hj; rw [HL.out]; omega
      obtain ⟨b, off, rfl, hbl, hc⟩ := HZ.out.resolve_left (by intro h; have := hle 0 (by omega); rw [h] at this; simp at this)
      obtain ⟨x0, hx0⟩ : ∃ x, x = zs.getD (i * 9) 0 := ⟨_, rfl⟩
      have q0 : wr.cell? ⟨b, off + i * 9, none⟩ = some (.int .u32 x0) := by
        have := (hb.out.cell (p := ⟨b, off + (i * 9 + 0), none⟩) hbl).trans (hc (i * 9 + 0) (hle 0 (by omega)))
        rw [hx0]
        simpa [Nat.add_assoc] using this
      have x0a : 0 ≤ x0 := by rw [hx0]; exact (HU.out.at _).1
      have x0b : x0 < 4294967296 := by rw [hx0]; exact (HU.out.at _).2
      obtain ⟨x1, hx1⟩ : ∃ x, x = zs.getD (i * 9 + 1) 0 := ⟨_, rfl⟩
      have q1 : wr.cell? ⟨b, off + i * 9 + 1, none⟩ = some (.int .u32 x1) := by
        have := (hb.out.cell (p := ⟨b, off + (i * 9 + 1), none⟩) hbl).trans (hc (i * 9 + 1) (hle 1 (by omega)))
        rw [hx1]
        simpa [Nat.add_assoc] using this
      have x1a : 0 ≤ x1 := by rw [hx1]; exact (HU.out.at _).1
      have x1b : x1 < 4294967296 := by rw [hx1]; exact (HU.out.at _).2
      obtain ⟨x2, hx2⟩ : ∃ x, x = zs.getD (i * 9 + 2) 0 := ⟨_, rfl⟩
      have q2 : wr.cell? ⟨b, off + i * 9 + 2, none⟩ = some (.int .u32 x2) := by
        have := (hb.out.cell (p := ⟨b, off + (i * 9 + 2), none⟩) hbl).trans (hc (i * 9 + 2) (hle 2 (by omega)))
        rw [hx2]
        simpa [Nat.add_assoc] using this
      have x2a : 0 ≤ x2 := by rw [hx2]; exact (HU.out.at _).1
      have x2b : x2 < 4294967296 := by rw [hx2]; exact (HU.out.at _).2
      obtain ⟨x3, hx3⟩ : ∃ x, x = zs.getD (i * 9 + 3) 0 := ⟨_, rfl⟩
      have q3 : wr.cell? ⟨b, off + i * 9 + 3, none⟩ = some (.int .u32 x3) := by
        have := (hb.out.cell (p := ⟨b, off + (i * 9 + 3), none⟩) hbl).trans (hc (i * 9 + 3) (hle 3 (by omega)))
        rw [hx3]
        simpa [Nat.add_assoc] using this
      have x3a : 0 ≤ x3 := by rw [hx3]; exact (HU.out.at _).1
      have x3b : x3 < 4294967296 := by rw [hx3]; exact (HU.out.at _).2
      obtain ⟨x4, hx4⟩ : ∃ x, x = zs.getD (i * 9 + 4) 0 := ⟨_, rfl⟩
      have q4 : wr.cell? ⟨b, off + i * 9 + 4, none⟩ = some (.int .u32 x4) := by
        have := (hb.out.cell (p := ⟨b, off + (i * 9 + 4), none⟩) hbl).trans (hc (i * 9 + 4) (hle 4 (by omega)))
        rw [hx4]
        simpa [Nat.add_assoc] using this
      have x4a : 0 ≤ x4 := by rw [hx4]; exact (HU.out.at _).1
      have x4b : x4 < 4294967296 := by rw [hx4]; exact (HU.out.at _).2
      obtain ⟨x5, hx5⟩ : ∃ x, x = zs.getD (i * 9 + 5) 0 := ⟨_, rfl⟩
      have q5 : wr.cell? ⟨b, off + i * 9 + 5, none⟩ = some (.int .u32 x5) := by
        have := (hb.out.cell (p := ⟨b, off + (i * 9 + 5), none⟩) hbl).trans (hc (i * 9 + 5) (hle 5 (by omega)))
        rw [hx5]
        simpa [Nat.add_assoc] using this
      have x5a : 0 ≤ x5 := by rw [hx5]; exact (HU.out.at _).1
      have x5b : x5 < 4294967296 := by rw [hx5]; exact (HU.out.at _).2
      obtain ⟨x6, hx6⟩ : ∃ x, x = zs.getD (i * 9 + 6) 0 := ⟨_, rfl⟩
      have q6 : wr.cell? ⟨b, off + i * 9 + 6, none⟩ = some (.int .u32 x6) := by
        have := (hb.out.cell (p := ⟨b, off + (i * 9 + 6), none⟩) hbl).trans (hc (i * 9 + 6) (hle 6 (by omega)))
        rw [hx6]
        simpa [Nat.add_assoc] using this
      have x6a : 0 ≤ x6 := by rw [hx6]; exact (HU.out.at _).1
      have x6b : x6 < 4294967296 := by rw [hx6]; exact (HU.out.at _).2
      obtain ⟨x7, hx7⟩ : ∃ x, x = zs.getD (i * 9 + 7) 0 := ⟨_, rfl⟩
      have q7 : wr.cell? ⟨b, off + i * 9 + 7, none⟩ = some (.int .u32 x7) := by
        have := (hb.out.cell (p := ⟨b, off + (i * 9 + 7), none⟩) hbl).trans (hc (i * 9 + 7) (hle 7 (by omega)))
        rw [hx7]
        simpa [Nat.add_assoc] using this
      have x7a : 0 ≤ x7 := by rw [hx7]; exact (HU.out.at _).1
      have x7b : x7 < 4294967296 := by rw [hx7]; exact (HU.out.at _).2
      obtain ⟨x8, hx8⟩ : ∃ x, x = zs.getD (i * 9 + 8) 0 := ⟨_, rfl⟩
      have q8 : wr.cell? ⟨b, off + i * 9 + 8, none⟩ = some (.int .u32 x8) := by
        have := (hb.out.cell (p := ⟨b, off + (i * 9 + 8), none⟩) hbl).trans (hc (i * 9 + 8) (hle 8 (by omega)))
        rw [hx8]
        simpa [Nat.add_assoc] using this
      have x8a : 0 ≤ x8 := by rw [hx8]; exact (HU.out.at _).1
      have x8b : x8 < 4294967296 := by rw [hx8]; exact (HU.out.at _).2
      have HX : Hid (triAt zs i = ((List.range 3).all (ptAt [x0, x1, x2, x3, x4, x5, x6, x7, x8]))) := by unfold Hid; rw [hx0, hx1, hx2, hx3, hx4, hx5, hx6, hx7, hx8]; simp [List.range, List.range.loop, triAt, ptAt, Bool.and_assoc]
      have hib : (i : Int) < n := by omega
      clear hc hle hx0 hx1 hx2 hx3 hx4 hx5 hx6 hx7 hx8
      go_wp2_with fail
      refine (pointsFinite_any (some ⟨wr.heap.size + 1, 0, none⟩) 3 3 [x0, x1, x2, x3, x4, x5, x6, x7, x8] _ (by decide) rfl (by intro x hx; simp at hx; rcases hx with rfl | rfl | rfl | rfl | rfl | rfl | rfl | rfl | rfl <;> (constructor <;> assumption)) (row_at _ [x0, x1, x2, x3, x4, x5, x6, x7, x8] _ (by simp))).mono ?_
      rintro e w1 ⟨rfl, hb1⟩
      have HB1 : Hid (Below w.heap.size w w1) := hb.out.trans ((bel2 _ _ _).trans (hb1.mono (by simp <;> omega)) |>.mono hb.out.size)
      clear hb1 hb q0 x0a x0b q1 x1a x1b q2 x2a x2b q3 x3a x3b q4 x4a x4b q5 x5a x5b q6 x6a x6b q7 x7a x7b q8 x8a x8b
      rw [← HX.out]
      cases hT : triAt zs i
      · go_wp2
        go_ret
        exact ⟨ret_bool (by rw [all_range_false hlt hT]), HB1.out⟩
      · go_wp2
        go_roundw
        case rel => exact ⟨i + 1, by omega, by go_num, by unfold Hid; rw [all_range_succ, hA.out, hT]; rfl, HB1⟩
        case measure => simp [intOf]; omega
    · have hie : i = n := by omega
      subst hie
      have HA := hA.out
      go_wp2
      go_ret
      exact ⟨ret_bool HA.symm, hb.out⟩

theorem fewAndFinite_any (a : Option Addr) (n c : Nat) (zs : List Int) (w : World) (hn : n ≤ 1048576) (hl : zs.length = n * 9) (hu : U32 zs) (hz : RowAt .u32 w a zs) :
    Calls Tryz.prog 58 #[.slice a n c] w fun e w' => e = .returned (.bool (decide (n ≤ 40) && (List.range n).all (triAt zs))) ∧ Below w.heap.size w w' := by
  by_cases h4 : n ≤ 40
  · have h4' : (n : Int) ≤ 40 := by omega
    go_enter Tryz.func58, Tryz.ntmps58
    go_wp2_with fail
    refine (trisFinite_any a n c zs _ hn hl hu hz).mono ?_
    rintro e w1 ⟨rfl, hb1⟩
    go_wp2
    go_ret
    exact ⟨ret_bool (by simp [h4]), hb1⟩
  · have h4' : ¬ (n : Int) ≤ 40 := by omega
    go_enter Tryz.func58, Tryz.ntmps58
    go_wp2
    go_ret
    exact ⟨ret_bool (by first | rfl | (rw [decide_eq_false h4]; rfl)), Below.refl _ _⟩

theorem bits_or_u {a b : Int} (a0 : 0 ≤ a) (a1 : a < 4294967296) (b0 : 0 ≤ b) (b1 : b < 4294967296) : ∃ n m : Nat, a = n ∧ b = m ∧ bits .or .u32 a b = ((n ||| m : Nat) : Int) ∧ n ||| m < 4294967296 := by
  obtain ⟨n, rfl⟩ := Int.eq_ofNat_of_zero_le a0
  obtain ⟨m, rfl⟩ := Int.eq_ofNat_of_zero_le b0
  have hl : n ||| m < 4294967296 := Nat.or_lt_two_pow (n := 32) (by omega) (by omega)
  refine ⟨n, m, rfl, rfl, ?_, hl⟩
  have e2 : (BitVec.ofInt 32 (n : Int) ||| BitVec.ofInt 32 (m : Int)).toNat = n ||| m := by
    rw [BitVec.toNat_or, BitVec.ofInt_natCast, BitVec.toNat_ofNat, BitVec.ofInt_natCast, BitVec.toNat_ofNat, Nat.mod_eq_of_lt (by omega), Nat.mod_eq_of_lt (by omega)]
  show IntKind.u32.wrap ((BitVec.ofInt 32 (n : Int) ||| BitVec.ofInt 32 (m : Int)).toNat : Int) = _
  rw [e2]
  simp only [IntKind.wrap, IntKind.bits, IntKind.signed]
  simp
  omega

theorem zero_mod (n : Nat) : zeroB (n : Int) = decide (n % 2147483648 = 0) := by
  unfold zeroB
  by_cases h : n % 2147483648 = 0
  · simp [h]; omega
  · simp [h]; omega

theorem or_low (n m : Nat) : (n ||| m) % 2147483648 = (n % 2147483648) ||| (m % 2147483648) := by
  rw [show (2147483648 : Nat) = 2 ^ 31 by decide, Nat.or_mod_two_pow]

theorem or_zero (n m : Nat) : (n ||| m = 0) ↔ n = 0 ∧ m = 0 := by
  constructor
  · intro h
    have h1 : n ≤ n ||| m := Nat.left_le_or
    have h2 : m ≤ n ||| m := Nat.right_le_or
    omega
  · rintro ⟨rfl, rfl⟩
    rfl

theorem andNot_u {n : Nat} (h : n < 4294967296) : bits .andNot .u32 (n : Int) 2147483648 = ((n % 2147483648 : Nat) : Int) := by
  have e2 : (BitVec.ofInt 32 (n : Int) &&& ~~~ BitVec.ofInt 32 2147483648).toNat = n % 2147483648 := by
    rw [BitVec.toNat_and, BitVec.ofInt_natCast, BitVec.toNat_ofNat, Nat.mod_eq_of_lt (by omega)]
    have : (~~~ BitVec.ofInt 32 2147483648).toNat = 2 ^ 31 - 1 := by decide
    rw [this, Nat.and_two_pow_sub_one_eq_mod]
  show IntKind.u32.wrap ((BitVec.ofInt 32 (n : Int) &&& ~~~ BitVec.ofInt 32 2147483648).toNat : Int) = _
  rw [e2]
  simp only [IntKind.wrap, IntKind.bits, IntKind.signed]
  simp
  omega

theorem way_bits {x y z : Int} (xa : 0 ≤ x) (xb : x < 4294967296) (ya : 0 ≤ y) (yb : y < 4294967296) (za : 0 ≤ z) (zb : z < 4294967296) : (bits .andNot .u32 (bits .or .u32 (bits .or .u32 x y) z) 2147483648 != 0) = !(noWayB x y z) := by
  obtain ⟨n, m, rfl, rfl, e1, l1⟩ := bits_or_u xa xb ya yb
  rw [e1]
  obtain ⟨p, q, e3, rfl, e2, l2⟩ := bits_or_u (a := ((n ||| m : Nat) : Int)) (by omega) (by omega) za zb
  have e4 : p = n ||| m := by omega
  subst e4
  rw [e2, andNot_u l2, or_low, or_low]
  unfold noWayB
  rw [zero_mod, zero_mod, zero_mod]
  by_cases h : (n % 2147483648 ||| m % 2147483648) ||| q % 2147483648 = 0
  · obtain ⟨h1, h2⟩ := (or_zero _ _).1 h
    obtain ⟨h3, h4⟩ := (or_zero _ _).1 h1
    rw [h, h3, h4, h2]
    decide
  · have h5 : ¬ (n % 2147483648 = 0 ∧ m % 2147483648 = 0 ∧ q % 2147483648 = 0) := by
      rintro ⟨q1, q2, q3⟩
      rw [q1, q2, q3] at h
      exact h (by decide)
    have h6 : (((((n % 2147483648 ||| m % 2147483648) ||| q % 2147483648 : Nat) : Int)) != 0) = true := by
      rw [bne_iff_ne]
      omega
    rw [h6]
    symm
    rw [Bool.not_eq_true', Bool.and_eq_false_iff, Bool.and_eq_false_iff]
    simp only [decide_eq_false_iff_not]
    omega

set_option maxRecDepth 100000 in
set_option maxHeartbeats 4000000 in
theorem proper_any (x0 x1 x2 x3 x4 x5 : Int) (w : World) (x0a : 0 ≤ x0) (x0b : x0 < 4294967296) (x1a : 0 ≤ x1) (x1b : x1 < 4294967296) (x2a : 0 ≤ x2) (x2b : x2 < 4294967296) (x3a : 0 ≤ x3) (x3b : x3 < 4294967296) (x4a : 0 ≤ x4) (x4b : x4 < 4294967296) (x5a : 0 ≤ x5) (x5b : x5 < 4294967296) :
    Calls Tryz.prog 59 #[.agg #[.int .u32 x0, .int .u32 x1, .int .u32 x2, .int .u32 x3, .int .u32 x4, .int .u32 x5]] w fun e w' => e = .returned (.bool (pointB x0 x1 x2 && pointB x3 x4 x5 && !(noWayB x3 x4 x5))) ∧ Below w.heap.size w w' := by
  have HW : Hid ((bits .andNot .u32 (bits .or .u32 (bits .or .u32 x3 x4) x5) 2147483648 != 0) = !(noWayB x3 x4 x5)) := way_bits x3a x3b x4a x4b x5a x5b
  go_enter Tryz.func59, Tryz.ntmps59
  go_wp2_with fail
  refine (pointsFinite_any (some ⟨w.heap.size + 1, 0, none⟩) 2 2 [x0, x1, x2, x3, x4, x5] _ (by decide) rfl (by intro x hx; simp at hx; rcases hx with rfl | rfl | rfl | rfl | rfl | rfl <;> (constructor <;> assumption)) (row_at _ [x0, x1, x2, x3, x4, x5] _ (by simp))).mono ?_
  rintro e w1 ⟨rfl, hb1⟩
  have c3 : w1.cell? ⟨w.heap.size, 3, none⟩ = some (.int .u32 x3) := by rw [(bcell hb1).1 _ _ (by simp <;> omega)]; simp [go_sem]
  have c4 : w1.cell? ⟨w.heap.size, 4, none⟩ = some (.int .u32 x4) := by rw [(bcell hb1).1 _ _ (by simp <;> omega)]; simp [go_sem]
  have c5 : w1.cell? ⟨w.heap.size, 5, none⟩ = some (.int .u32 x5) := by rw [(bcell hb1).1 _ _ (by simp <;> omega)]; simp [go_sem]
  have HB1 : Hid (Below w.heap.size w w1) := (bel2 _ _ _).trans (hb1.mono (by simp <;> omega))
  have HX : Hid ((List.range 2).all (ptAt [x0, x1, x2, x3, x4, x5]) = (pointB x0 x1 x2 && pointB x3 x4 x5)) := by unfold Hid; simp [List.range, List.range.loop, ptAt]
  rw [HX.out]
  clear hb1
  cases hp : (pointB x0 x1 x2 && pointB x3 x4 x5)
  · go_wp2
    go_ret
    exact ⟨ret_bool (by first | rfl | (rw [hp]; rfl)), HB1.out⟩
  · have hw := HW.out
    go_wp2
    go_ret
    exact ⟨ret_bool (by first | rfl | (rw [hp, Bool.true_and]) | (rw [hp, Bool.true_and]; exact hw)), HB1.out⟩

end Go.Proofs.YtfcnokagfibgcahGreat
