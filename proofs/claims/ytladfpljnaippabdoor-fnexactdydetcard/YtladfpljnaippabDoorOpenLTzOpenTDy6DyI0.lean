/-
  An argument of the type []laws.Dyadic, opened.
-/
import Derived.Test.YtladfpljnaippabDoorOpenD
import Derived.Test.YtladfpljnaippabDoorDyI3WithinMarksDyMkListD
import Derived.Test.YtladfpljnaippabDoorBase
import Derived.Test.YtladfpljnaippabDoorNumZ
import Derived.Laws.Entries
import Derived.Test.YtladfpljnaippabDoorOpen
import Derived.LaidMore
import Derived.Stop.Joined
import Derived.Test.YtladfpljnaippabDoorNumD
import Derived.Test.YtladfpljnaippabDoorBigs
import Derived.Test.YtladfpljnaippabDoorUtil
import Derived.Deep.RegionHeld3
namespace Go.Proofs.YtladfpljnaippabDoor
open Go.ChangeShapes Go.WideShapes Go.ChangeAt Go.RowKit Go.Joins

set_option maxRecDepth 100000 in
theorem open_dyc {H : Type} {enc : TypeId × Value → H} {W : World} {fuel : Nat} {c0 c1 c2 : Value} {y : DataW H × List MemPlace} (h : DataW.trod enc Tryd.prog W 0 (fun _ => true) true fuel 105 [c0, c1, c2] = some y) :
    ∃ (g : Bool) (a : Option Addr) (c : Nat) (zs : List Int) (E : Int), c0 = .bool g ∧ c1 = .slice a zs.length c ∧ c2 = .int .i64 E ∧ zs.length ≤ maxLen ∧ U32 zs ∧ RowAt .u32 W a zs := by
  obtain ⟨y0, y1, n, _, _, h0, h1⟩ := trod_struct2 Tryd.underlying105 h
  have h0' : DataW.trod enc Tryd.prog W 0 (fun _ => true) true n 103 [c0, c1] = some y0 := by simpa [cellsBig] using h0
  have h1' : DataW.trod enc Tryd.prog W 0 (fun _ => true) true n 3 [c2] = some y1 := by simpa [cellsBig, cellsInt] using h1
  obtain ⟨E, e2, _⟩ := DataW.trod_int Tryd.underlying3 h1'
  simp at e2
  subst e2
  obtain ⟨z0, z1, m, _, _, k0, k1⟩ := trod_struct2 Tryd.underlying103 h0'
  have k0' : DataW.trod enc Tryd.prog W 0 (fun _ => true) true m 4 [c0] = some z0 := by
    have : Tryd.prog.cellsOf 4 = 1 := by kernel_rfl
    simpa [this] using k0
  have k1' : DataW.trod enc Tryd.prog W 0 (fun _ => true) true m 25 [c1] = some z1 := by
    have h1 : Tryd.prog.cellsOf 4 = 1 := by kernel_rfl
    have h2 : Tryd.prog.cellsOf 25 = 1 := by kernel_rfl
    simpa [h1, h2] using k1
  obtain ⟨g, e0, _⟩ := DataW.trod_bool Tryd.underlying4 k0'
  simp at e0
  subst e0
  rcases open_ints Tryd.underlying25 Tryd.underlying33 cellsU k1' with ⟨hcs, _⟩ | ⟨x, l, c, zs, hcs, _, hl, hm, hz, _, hcell, hwz⟩
  · simp at hcs
    subst hcs
    exact ⟨g, none, 0, [], E, rfl, rfl, rfl, by simp, (fun z hz => by cases hz), .inl rfl⟩
  · simp at hcs
    subst hcs
    have hzl : zs.length = c := by simpa using hz
    have ht : (zs.take l).length = l := by rw [List.length_take]; omega
    refine ⟨g, some x, c, zs.take l, E, rfl, by rw [ht], rfl, by rw [ht]; omega, u32_of (fun n hn => hwz n (List.mem_of_mem_take hn)), row_of ?_⟩
    intro i hi
    rw [ht] at hi
    rw [hcell i (by omega)]
    simp [List.getD_eq_getElem?_getD, hi]

theorem each_list {P : Nat → DV → Prop} : ∀ n : Nat, (∀ i, i < n → ∃ d, P i d) → ∃ ds : List DV, ds.length = n ∧ ∀ i, i < n → P i (ds.getD i default)
  | 0, _ => ⟨[], rfl, fun i hi => absurd hi (by omega)⟩
  | n + 1, h => by
    obtain ⟨ds, h1, h2⟩ := each_list n (fun i hi => h i (by omega))
    obtain ⟨d, hd⟩ := h n (by omega)
    refine ⟨ds ++ [d], by simp [h1], fun i hi => ?_⟩
    rcases getD_push ds d i (by simp; omega) with ⟨q1, q2⟩ | ⟨q1, q2⟩
    · rw [q2]; exact h2 i (by omega)
    · rw [q2, q1, h1]; exact hd

theorem cellsLDy : Tryd.prog.cellsOf 105 = 3 := by kernel_rfl

/-- The element at place i of a row of three cells each. -/
theorem at3 {w : World} {b off i j : Nat} {x : Value} (h : w.cell? (((⟨b, off, none⟩ : Addr).add (i * 3)).add j) = some x) : w.cell? ⟨b, off + i * 3 + j, none⟩ = some x := by
  rw [Addr.add_add] at h
  by_cases e : i * 3 + j = 0
  · have e1 : i = 0 := by omega
    have e2 : j = 0 := by omega
    subst e1 e2
    simpa [Addr.add] using h
  · unfold Addr.add at h
    rw [if_neg e] at h
    rw [Nat.add_assoc]
    exact h

set_option maxRecDepth 100000 in
theorem open_dyl {H : Type} {enc : TypeId × Value → H} {W : World} {b0 : Nat} {v : Value} {d : DataW H} {p : List MemPlace} (hv : Value.okWide Tryd.prog W .any b0 47 v) (h : DataW.Trod enc Tryd.prog W 0 (fun _ => true) true 47 v d p) :
    ∃ (a : Option Addr) (c : Nat) (ds : List DV), v = .slice a ds.length c ∧ ds.length ≤ maxLen ∧ (∀ d, d ∈ ds → d.zs.length ≤ maxLen) ∧ (∀ d, d ∈ ds → U32 d.zs) ∧ ListD W a ds := by
  obtain ⟨a0, len0, cap0, rfl⟩ := okWide_slice Tryd.underlying47 hv
  obtain ⟨fuel, hf⟩ := h
  rcases DataW.trod_slice Tryd.underlying47 hf with ⟨hcs, _⟩ | ⟨x, len, cap, elems, rest, n, _, hcs, _, hb, hl, hm, hlen, hel, _, _⟩
  · simp [Value.cells] at hcs
    obtain ⟨rfl, rfl, rfl⟩ := hcs
    exact ⟨none, 0, [], rfl, by simp, (fun d hd => by cases hd), (fun d hd => by cases hd), .inl rfl⟩
  · simp [Value.cells] at hcs
    obtain ⟨rfl, rfl, rfl⟩ := hcs
    by_cases h0 : len0 = 0
    · subst h0
      exact ⟨some x, cap0, [], rfl, by simp, (fun d hd => by cases hd), (fun d hd => by cases hd), .inl rfl⟩
    have each : ∀ i, i < len0 → ∃ d : DV, (∀ j, j < 3 → W.cell? ((x.add (i * 3)).add j) = [Value.bool d.g, .slice d.a d.zs.length d.c, .int .i64 d.E][j]?) ∧ d.zs.length ≤ maxLen ∧ U32 d.zs ∧ RowAt .u32 W d.a d.zs := by
      intro i hi
      have h1 := hel i hi
      rw [List.getElem?_eq_getElem (by omega), cellsLDy, Option.bind_eq_some_iff] at h1
      obtain ⟨cs, h2, h3⟩ := h1
      obtain ⟨_, h4, h5⟩ := World.cells?_some h2
      obtain ⟨c0, c1, c2, rfl⟩ : ∃ c0 c1 c2, cs = [c0, c1, c2] := by
        match cs, h4 with
        | [c0, c1, c2], _ => exact ⟨c0, c1, c2, rfl⟩
      obtain ⟨g, a, c, zs, E, rfl, rfl, rfl, h6, h7, h8⟩ := open_dyc h3
      exact ⟨⟨g, a, c, zs, E⟩, h5, h6, h7, h8⟩
    obtain ⟨ds, hds, hp⟩ := each_list len0 each
    have hmem : ∀ d, d ∈ ds → ∃ i, i < len0 ∧ ds.getD i default = d := by
      intro d hd
      obtain ⟨i, hi, rfl⟩ := List.mem_iff_getElem.1 hd
      exact ⟨i, by omega, by rw [List.getD_eq_getElem?_getD, List.getElem?_eq_getElem hi]; rfl⟩
    obtain ⟨b, off, spot⟩ := x
    have hspot : spot = none := by
      have := (hp 0 (by omega)).1 0 (by decide)
      simp [Addr.add] at this
      exact World.cell?_spot this
    subst hspot
    have cell : ∀ i, i < ds.length → ∀ j, j < 3 → W.cell? ⟨b, off + i * 3 + j, none⟩ = [Value.bool (ds.getD i default).g, .slice (ds.getD i default).a (ds.getD i default).zs.length (ds.getD i default).c, .int .i64 (ds.getD i default).E][j]? := by
      intro i hi j hj
      have h1 := (hp i (by omega)).1 j hj
      rw [List.getElem?_eq_getElem (by simpa using hj)] at h1 ⊢
      exact at3 h1
    refine ⟨some ⟨b, off, none⟩, cap0, ds, by rw [hds], by omega, ?_, ?_, .inr ⟨b, off, rfl, ?_, fun i hi => ?_, fun i hi => ?_, fun i hi => ?_, fun i hi => ?_⟩⟩
    · intro d hd
      obtain ⟨i, hi, rfl⟩ := hmem d hd
      exact (hp i hi).2.1
    · intro d hd
      obtain ⟨i, hi, rfl⟩ := hmem d hd
      exact (hp i hi).2.2.1
    · exact cell_lt (cell 0 (by omega) 0 (by decide))
    · exact cell i hi 0 (by decide)
    · exact cell i hi 1 (by decide)
    · exact cell i hi 2 (by decide)
    · exact (hp i (by omega)).2.2.2

end Go.Proofs.YtladfpljnaippabDoor

/-
  math/bits.TrailingZeros32: the table as Go's text lays it.
-/
namespace Go.Proofs.YtladfpljnaippabDoor
open Go.RowKit

theorem shl_odd_and (k m t : Nat) (h : k &&& m = 0) : ((2 * k + 1) <<< t) &&& ((2 * m + 1) <<< t) = 2 ^ t := by
  rw [← Nat.shiftLeft_and_distrib]
  have e : (2 * k + 1) &&& (2 * m + 1) = 1 := by
    apply Nat.eq_of_testBit_eq
    intro i
    rw [Nat.testBit_and]
    cases i with
    | zero => simp
    | succ i =>
      have h2 := congrArg (Nat.testBit · i) h
      simp only [Nat.testBit_and, Nat.zero_testBit] at h2
      rw [Nat.testBit_succ, Nat.testBit_succ, Nat.testBit_succ]
      rw [show (2 * k + 1) / 2 = k by omega, show (2 * m + 1) / 2 = m by omega, show 1 / 2 = 0 by omega, h2]
      simp
  rw [e, Nat.shiftLeft_eq, Nat.one_mul]

theorem and_comp (k n : Nat) (h : k < 2 ^ n) : k &&& (2 ^ n - (k + 1)) = 0 := by
  apply Nat.eq_of_testBit_eq
  intro i
  rw [Nat.testBit_and, Nat.testBit_two_pow_sub_succ h, Nat.zero_testBit]
  cases k.testBit i <;> simp

theorem low_nat {x k t : Nat} (hx : x = 2 ^ t * (2 * k + 1)) (h1 : x < 4294967296) : x &&& (4294967296 - x) = 2 ^ t := by
  have hp : 0 < 2 ^ t := Nat.two_pow_pos _
  have ht : t < 32 := by
    apply Nat.lt_of_not_le
    intro h
    have h2 : 2 ^ 32 ≤ 2 ^ t := Nat.pow_le_pow_right (by decide) h
    have h3 : 2 ^ t * 1 ≤ 2 ^ t * (2 * k + 1) := Nat.mul_le_mul_left _ (by omega)
    omega
  have e1 : (4294967296 : Nat) = 2 ^ t * 2 ^ (32 - t) := by rw [← Nat.pow_add, show t + (32 - t) = 32 by omega]
  have e2 : 2 ^ (32 - t) = 2 * 2 ^ (31 - t) := by rw [show 32 - t = (31 - t) + 1 by omega, Nat.pow_succ]; omega
  have hk : k < 2 ^ (31 - t) := by
    have h2 : 2 ^ t * (2 * k + 1) < 2 ^ t * (2 * 2 ^ (31 - t)) := by rw [← hx, ← e2, ← e1]; exact h1
    have := Nat.lt_of_mul_lt_mul_left h2
    omega
  have e3 : 4294967296 - x = (2 * (2 ^ (31 - t) - (k + 1)) + 1) <<< t := by
    rw [Nat.shiftLeft_eq, e1, e2, hx, ← Nat.mul_sub, Nat.mul_comm]
    congr 1
    omega
  have e4 : x = (2 * k + 1) <<< t := by rw [Nat.shiftLeft_eq, hx, Nat.mul_comm]
  rw [e3]
  conv => lhs; lhs; rw [e4]
  exact shl_odd_and _ _ _ (and_comp _ _ hk)

theorem low_bits {x q : Int} {t : Nat} (h0 : 0 < x) (h1 : x < 4294967296) (hx : x = 2 ^ t * q) (hq : q % 2 = 1) : bits .and .u32 x (-x % 4294967296) = 2 ^ t := by
  obtain ⟨n, rfl⟩ := Int.eq_ofNat_of_zero_le (Int.le_of_lt h0)
  have hq0 : 0 < q := by
    have hp : (0 : Int) < 2 ^ t := Int.pow_pos (by decide)
    apply Int.lt_of_not_ge
    intro h
    have : 2 ^ t * q ≤ 0 := Int.mul_nonpos_of_nonneg_of_nonpos (Int.le_of_lt hp) h
    omega
  obtain ⟨k, hk⟩ : ∃ k : Nat, q = 2 * (k : Int) + 1 := ⟨(q / 2).toNat, by omega⟩
  have hn : n = 2 ^ t * (2 * k + 1) := by
    rw [hk] at hx
    have : (n : Int) = ((2 ^ t * (2 * k + 1) : Nat) : Int) := by rw [hx]; push_cast; rfl
    exact Int.ofNat.inj this
  have hl := low_nat hn (by omega)
  have e2 : (BitVec.ofInt 32 (n : Int) &&& BitVec.ofInt 32 (-(n : Int) % 4294967296)).toNat = n &&& (4294967296 - n) := by
    rw [show -(n : Int) % 4294967296 = ((4294967296 - n : Nat) : Int) by omega, BitVec.toNat_and, BitVec.ofInt_natCast, BitVec.ofInt_natCast, BitVec.toNat_ofNat, BitVec.toNat_ofNat, Nat.mod_eq_of_lt (by omega), Nat.mod_eq_of_lt (by omega)]
  show IntKind.u32.wrap ((BitVec.ofInt 32 (n : Int) &&& BitVec.ofInt 32 (-(n : Int) % 4294967296)).toNat : Int) = _
  rw [e2, hl]
  have hlt : 2 ^ t < 4294967296 := by
    have h3 : 2 ^ t * 1 ≤ 2 ^ t * (2 * k + 1) := Nat.mul_le_mul_left _ (by omega)
    omega
  simp only [IntKind.wrap, IntKind.bits, IntKind.signed]
  simp
  have : ((2 ^ t : Nat) : Int) = 2 ^ t := by push_cast; rfl
  omega

theorem odd_part : ∀ (n : Nat), 0 < n → ∃ t k : Nat, n = 2 ^ t * (2 * k + 1) := by
  intro n
  induction n using Nat.strongRecOn with
  | ind n ih =>
    intro hn
    by_cases h : n % 2 = 1
    · exact ⟨0, n / 2, by omega⟩
    · obtain ⟨t, k, e⟩ := ih (n / 2) (by omega) (by omega)
      refine ⟨t + 1, k, ?_⟩
      rw [Nat.pow_succ, Nat.mul_comm (2 ^ t) 2, Nat.mul_assoc, ← e]
      omega

def tzTab : List Int := [0, 1, 28, 2, 29, 14, 24, 3, 30, 22, 20, 15, 25, 17, 4, 8, 31, 27, 13, 23, 21, 19, 16, 7, 26, 12, 18, 6, 11, 5, 10, 9]
theorem tz_tab : ∀ t : Nat, t < 32 → ((2 : Int) ^ t * 125613361 % 4294967296 / 134217728).toNat < 32 ∧ tzTab.getD ((2 : Int) ^ t * 125613361 % 4294967296 / 134217728).toNat 0 = t := by decide

/-- The package variable holds its table. -/
structure Tab (w : World) : Prop where
  lt : 1 < w.heap.size
  at_ : ∀ i, i < 32 → w.cell? ⟨1, i, none⟩ = some (.int .u8 (tzTab.getD i 0))

theorem Tab.later {w w' : World} (h : Tab w) (hb : Below w.heap.size w w') : Tab w' :=
  ⟨Nat.lt_of_lt_of_le h.lt hb.size, fun i hi => (hb.cell (p := ⟨1, i, none⟩) h.lt).trans (h.at_ i hi)⟩

set_option maxHeartbeats 1000000 in
theorem tz_any (x : Int) (w : World) (h0 : 0 < x) (h1 : x < 4294967296) (hT : Tab w) :
    Calls Tryd.prog 107 #[.int .u32 x] w fun e w' => ∃ t : Nat, e = .returned (.int .i64 t) ∧ t < 32 ∧ Twos x t ∧ Below w.heap.size w w' := by
  obtain ⟨n, hn⟩ := Int.eq_ofNat_of_zero_le (Int.le_of_lt h0)
  obtain ⟨t, k, hk⟩ := odd_part n (by omega)
  have hx : x = 2 ^ t * (2 * (k : Int) + 1) := by rw [hn, hk]; push_cast; rfl
  have ht : t < 32 := pow_lt_of (b := 32) hx (by omega) h1
  have hb := low_bits h0 h1 hx (by omega)
  have hc := hT.at_ _ (tz_tab t ht).1
  rw [(tz_tab t ht).2, ← hb] at hc
  have HW : Hid (Twos x t) := ⟨_, hx, by omega⟩
  have hz : (x == 0) = false := by rw [beq_eq_false_iff_ne]; omega
  have ht' : (t : Int) < 32 := by omega
  clear hn hk hx hb hT
  go_enter Tryd.func107, Tryd.ntmps107
  go_wp2
  refine bodyPost_ret (v := .int .i64 t) (by simp [results, Tryd.results107, go_sem]) rfl ?_
  exact ⟨t, rfl, ht, HW.out, Below.refl _ _⟩

end Go.Proofs.YtladfpljnaippabDoor

/-
  The table of math/bits, as the rows lay it.
-/
namespace Go.Proofs.YtladfpljnaippabDoor
open Go.ChangeShapes Go.WideShapes Go.ChangeAt Go.RowKit

def laidT : List (String × DataW Unit) := [("math/bits.deBruijn32tab", Rows.laid_math_bits_deBruijn32tab)]

theorem gTab : Tryd.prog.globalNamed "math/bits.deBruijn32tab" = some 1 := by kernel_rfl
theorem tTab : (Tryd.prog.globals[1]?).map (·.type) = some 142 := by kernel_rfl

/-- The door's own heap meets the condition. -/
theorem door_met (os : Os) (args : Array Value) : laidMetH Tryd.prog laidT ((World.doorLaid Tryd.prog 400 os).forCall (fun _ _ => 0) ⟨#[], args, []⟩).memory :=
  laidMetH_of_parts3 (fuel := 8) (laidMet_of_run' 8 (by kernel_rfl) (by kernel_rfl)) (by kernel_rfl) (by kernel_rfl)

set_option maxRecDepth 100000 in
theorem tab_of_laid {W : World} (h : laidMetH Tryd.prog laidT W) : Tab W := by
  rw [MakeChecks.laidMetH_plain _ _ _ (by kernel_rfl)] at h
  obtain ⟨ps, ⟨g0, t0, cs0, f0, p0, q0, hg0, ht0, hv0, hd0, _, _⟩, _, _⟩ := h
  obtain rfl := Option.some.inj (gTab.symm.trans hg0)
  obtain rfl := Option.some.inj (tTab.symm.trans ht0)
  obtain ⟨xs, m1, rfl, hx1, hlen, hn3, hel⟩ := DataW.trod_array Tryd.underlying142 hd0
  have c5 : Tryd.prog.cellsOf 5 = 1 := by kernel_rfl
  have hag : (Rows.laid_math_bits_deBruijn32tab : DataW Unit) = .agg (tzTab.map fun k => .lit (.int .u8 k)) := rfl
  have hmap : tzTab.map (fun k => (DataW.lit (.int .u8 k) : DataW Unit)) = xs.map (fun x => x.1) := by
    have h1 := (Prod.mk.inj hx1).1
    rw [hag] at h1
    exact DataW.agg.inj h1
  have hall : ∀ i, i < 32 → W.cell? ⟨1, i, none⟩ = some (.int .u8 (tzTab.getD i 0)) := by
    intro i hi
    have hxi : xs[i]? = some (xs[i]'(by omega)) := List.getElem?_eq_getElem (by omega)
    have h1 := hel i hi
    rw [c5, Nat.mul_one, hxi] at h1
    obtain ⟨k, e1, e2, _⟩ := DataW.trod_int Tryd.underlying5 h1
    have h2 : (xs.map (fun x => x.1))[i]? = some (DataW.lit (.int .u8 k)) := by rw [List.getElem?_map, hxi, e2]; rfl
    rw [← hmap, List.getElem?_map] at h2
    have hti : i < tzTab.length := hi
    rw [List.getElem?_eq_getElem hti] at h2
    have hk : tzTab[i] = k := by
      have h3 := Option.some.inj h2
      injection h3 with h4
      injection h4
    rw [World.var?_cell hg0 hv0 i]
    have h5 : (List.take 1 (List.drop i cs0.toList))[0]? = cs0[i]? := by
      rw [List.getElem?_take_of_lt (by decide), List.getElem?_drop]
      simp
    rw [← h5, e1, List.getD_eq_getElem?_getD, List.getElem?_eq_getElem hti, ← hk]
    rfl
  exact ⟨cell_lt (hall 0 (by decide)), hall⟩

end Go.Proofs.YtladfpljnaippabDoor

/-
  The boxes of two Dyadics; an l2dy in a box.
-/
namespace Go.Proofs.YtladfpljnaippabDoor
open Go.RowKit

/-- The boxes of two Dyadics behind w. -/
structure Bx6 (w : World) (u v e u' v' e' : Value) (W : World) : Prop where
  q0 : W.cell? ⟨w.heap.size, 0, none⟩ = some u
  q1 : W.cell? ⟨w.heap.size, 1, none⟩ = some v
  q2 : W.cell? ⟨w.heap.size, 2, none⟩ = some e
  p0 : W.cell? ⟨w.heap.size + 1, 0, none⟩ = some u'
  p1 : W.cell? ⟨w.heap.size + 1, 1, none⟩ = some v'
  p2 : W.cell? ⟨w.heap.size + 1, 2, none⟩ = some e'
  le : w.heap.size + 1 + 1 ≤ W.heap.size
  bel : Below w.heap.size w W

theorem Bx6.start (w : World) (u v e u' v' e' : Value) (t t' : TypeId) : Bx6 w u v e u' v' e' ((w.alloc (.cells #[u, v, e] t)).alloc (.cells #[u', v', e'] t')) := by
  refine ⟨?_, ?_, ?_, ?_, ?_, ?_, ?_, bel2 _ _ _⟩
  all_goals simp [go_sem]

theorem Bx6.later {w : World} {u v e u' v' e' : Value} {W W' : World} (h : Bx6 w u v e u' v' e' W) (hb : Below W.heap.size W W') : Bx6 w u v e u' v' e' W' := by
  have hl := h.le
  exact ⟨(hb.cell (by simp; omega)).trans h.q0, (hb.cell (by simp; omega)).trans h.q1, (hb.cell (by simp; omega)).trans h.q2, (hb.cell (by simp; omega)).trans h.p0, (hb.cell (by simp; omega)).trans h.p1, (hb.cell (by simp; omega)).trans h.p2, Nat.le_trans h.le hb.size, h.bel.trans (hb.mono (by omega))⟩

theorem Bx6.held {w : World} {u v e u' v' e' : Value} {W W' : World} (h : Bx6 w u v e u' v' e' W) (hb : Below W.heap.size W W') : W'.cell? ⟨w.heap.size, 0, none⟩ = some u ∧ W'.cell? ⟨w.heap.size, 1, none⟩ = some v ∧ W'.cell? ⟨w.heap.size, 2, none⟩ = some e ∧ W'.cell? ⟨w.heap.size + 1, 0, none⟩ = some u' ∧ W'.cell? ⟨w.heap.size + 1, 1, none⟩ = some v' ∧ W'.cell? ⟨w.heap.size + 1, 2, none⟩ = some e' ∧ Below W.heap.size W W' :=
  ⟨(h.later hb).q0, (h.later hb).q1, (h.later hb).q2, (h.later hb).p0, (h.later hb).p1, (h.later hb).p2, hb⟩

theorem held7 {p q r s t u v : Prop} (h : p ∧ q ∧ r ∧ s ∧ t ∧ u ∧ v) : v := h.2.2.2.2.2.2

/-- An l2dy in a box. -/
structure L2In (T : Nat) (g : Bool) (a : Option Addr) (c : Nat) (ds : List Int) (m e : Int) (W : World) : Prop where
  q0 : W.cell? ⟨T, 0, none⟩ = some (.bool g)
  q1 : W.cell? ⟨T, 1, none⟩ = some (.slice a ds.length c)
  l1 : L1 W g a c ds m

/-- A box of a struct of three that is still zero. -/
structure Has3 (b : Nat) (W : World) : Prop where
  r1 : W.cell? ⟨b, 0, none⟩ = some (.bool false)
  r2 : W.cell? ⟨b, 1, none⟩ = some (.slice none 0 0)
  r3 : W.cell? ⟨b, 2, none⟩ = some (.int .i64 0)
  r4 : ∀ j, W.frozen? ⟨b, j, none⟩ = false
  lt : b < W.heap.size

theorem Has3.new (W : World) (t : TypeId) : Has3 W.heap.size (W.alloc (.cells #[.bool false, .slice none 0 0, .int .i64 0] t)) := ⟨by simp [go_sem], by simp [go_sem], by simp [go_sem], by intro j; simp [go_sem], by simp⟩

theorem Has3.later {b : Nat} {W W' : World} (h : Has3 b W) (hb : Below W.heap.size W W') : Has3 b W' :=
  ⟨(hb.cell (p := ⟨b, 0, none⟩) h.lt).trans h.r1, (hb.cell (p := ⟨b, 1, none⟩) h.lt).trans h.r2, (hb.cell (p := ⟨b, 2, none⟩) h.lt).trans h.r3, fun j => (hb.frozen (p := ⟨b, j, none⟩) h.lt).trans (h.r4 j), Nat.lt_of_lt_of_le h.lt hb.size⟩

theorem L2In.start {g : Bool} {a : Option Addr} {c : Nat} {ds : List Int} {m e : Int} {W : World} (t : TypeId) (h : L1 W g a c ds m) : L2In W.heap.size g a c ds m e (W.alloc (.cells #[.bool g, .slice a ds.length c, .int .i64 e] t)) :=
  ⟨by simp [go_sem], by simp [go_sem], h.later (bel0 _ _)⟩

theorem L2In.set {b B : Nat} {g : Bool} {a : Option Addr} {c : Nat} {ds : List Int} {m e : Int} {W : World} (h : L1 W g a c ds m) (hf : Far B a ds) (hb : b < B) (hh : Has3 b W) : L2In b g a c ds m e (((W.setCell ⟨b, 0, none⟩ (.bool g)).setCell ⟨b, 1, none⟩ (.slice a ds.length c)).setCell ⟨b, 2, none⟩ (.int .i64 e)) := by
  refine ⟨?_, ?_, ((h.setFar hf (by simpa using hb) _).setFar hf (by simpa using hb) _).setFar hf (by simpa using hb) _⟩
  · rw [World.cell?_setCell_other _ _ _ _ (by simp), World.cell?_setCell_other _ _ _ _ (by simp)]
    exact World.cell?_setCell_same _ _ _ hh.r1
  · rw [World.cell?_setCell_other _ _ _ _ (by simp)]
    refine World.cell?_setCell_same _ _ _ (u := .slice none 0 0) ?_
    rw [World.cell?_setCell_other _ _ _ _ (by simp)]
    exact hh.r2

end Go.Proofs.YtladfpljnaippabDoor

/-
  The laws' helpers for Dyadics: sizes, copies, whether two are the same.
-/
namespace Go.Proofs.YtladfpljnaippabDoor
open Go.RowKit

set_option maxHeartbeats 1000000 in
theorem sz2_any (g : Bool) (a : Option Addr) (n c : Nat) (E l : Int) (w : World) (hn : n ≤ maxLen) (h0 : 0 ≤ l) (h1 : l ≤ 1048576) :
    Calls Tryd.prog 67 #[.agg #[.bool g, .slice a n c, .int .i64 E], .int .i64 l] w fun e w' => e = .returned (.int .i64 (if l < n then -1 else l - n)) ∧ Below w.heap.size w w' := by
  by_cases h : l < n
  · rw [if_pos h]
    go_enter Tryd.func67, Tryd.ntmps67
    go_wp2_with fail
    refine (szB_any g a n c l _ hn h0 h1).mono ?_
    rintro e w1 ⟨rfl, hb1⟩
    rw [if_pos h]
    have HB : Hid (Below w.heap.size w w1) := (bel0 _ _).trans (hb1.mono (by simp))
    clear hb1
    go_wp2
    go_ret
    exact ⟨rfl, HB.out⟩
  · rw [if_neg h]
    have hln : ¬ l - n < 0 := by omega
    go_enter Tryd.func67, Tryd.ntmps67
    go_wp2_with fail
    refine (szB_any g a n c l _ hn h0 h1).mono ?_
    rintro e w1 ⟨rfl, hb1⟩
    rw [if_neg (by omega)]
    have HB : Hid (Below w.heap.size w w1) := (bel0 _ _).trans (hb1.mono (by simp))
    clear hb1
    go_wp2
    go_ret
    exact ⟨rfl, HB.out⟩

set_option maxHeartbeats 2000000 in
theorem to2_any (g : Bool) (a : Option Addr) (c : Nat) (zs : List Int) (E : Int) (w : World) (hn : zs.length ≤ 1048576) (hz : RowAt .u32 w a zs) :
    Calls Tryd.prog 68 #[.agg #[.bool g, .slice a zs.length c, .int .i64 E]] w fun e w' => ∃ a', e = .returned (.agg #[.bool g, .slice a' zs.length zs.length, .int .i64 E]) ∧ RowNew .u32 w' w.heap.size a' zs ∧ Below w.heap.size w w' := by
  go_enter Tryd.func68, Tryd.ntmps68
  go_wp2_with fail
  refine (toB_any g a c zs _ hn (hz.later (bel3 _ _ _ _))).mono ?_
  rintro e w1 ⟨a1, rfl, hr1, hb1⟩
  have q2 : w1.cell? ⟨w.heap.size, 2, none⟩ = some (.int .i64 E) := by rw [(bcell hb1).1 _ _ (by simp; omega)]; simp [go_sem]
  have r1 : w1.cell? ⟨w.heap.size + 1, 0, none⟩ = some (.bool false) := by rw [(bcell hb1).1 _ _ (by simp)]; simp [go_sem]
  have r2 : w1.cell? ⟨w.heap.size + 1, 1, none⟩ = some (.slice none 0 0) := by rw [(bcell hb1).1 _ _ (by simp)]; simp [go_sem]
  have r3 : w1.cell? ⟨w.heap.size + 1, 2, none⟩ = some (.int .i64 0) := by rw [(bcell hb1).1 _ _ (by simp)]; simp [go_sem]
  have r4 : ∀ j, w1.frozen? ⟨w.heap.size + 1, j, none⟩ = false := by intro j; rw [(bcell hb1).2 _ _ (by simp)]; simp [go_sem]
  have p1 : w1.cell? ⟨w.heap.size + 1 + 1, 0, none⟩ = some (.bool false) := by rw [(bcell hb1).1 _ _ (by simp)]; simp [go_sem]
  have p2 : w1.cell? ⟨w.heap.size + 1 + 1, 1, none⟩ = some (.slice none 0 0) := by rw [(bcell hb1).1 _ _ (by simp)]; simp [go_sem]
  have p3 : w1.cell? ⟨w.heap.size + 1 + 1, 2, none⟩ = some (.int .i64 0) := by rw [(bcell hb1).1 _ _ (by simp)]; simp [go_sem]
  have p4 : ∀ j, w1.frozen? ⟨w.heap.size + 1 + 1, j, none⟩ = false := by intro j; rw [(bcell hb1).2 _ _ (by simp)]; simp [go_sem]
  have HR : Hid (RowNew .u32 w1 (w.heap.size + 1 + 1 + 1) a1 zs) := by unfold Hid; simpa using hr1
  have HB : Hid (Below w.heap.size w w1) := (bel3 _ _ _ _).trans (hb1.mono (by simp; omega))
  clear hb1 hr1
  go_wp2
  refine bodyPost_ret (v := .agg #[.bool g, .slice a1 zs.length zs.length, .int .i64 E]) (by simp [results, Tryd.results68, go_sem, r1, r2, r3]) rfl ?_
  refine ⟨a1, rfl, ?_, ?_⟩
  · refine RowNew.down (B := w.heap.size + 1 + 1 + 1) ?_ (by omega)
    repeat' (refine RowNew.setLow ?_ (by simp) _)
    exact HR.out
  · repeat' (refine Below.setCell ?_ (by first | (simp; done) | (simp; omega)) _)
    exact HB.out

set_option maxHeartbeats 2000000 in
theorem eq2_any (g : Bool) (a a' : Option Addr) (c c' : Nat) (zs : List Int) (E : Int) (w : World) (hn : zs.length ≤ maxLen) (hz : RowAt .u32 w a zs) (hy : RowAt .u32 w a' zs) :
    Calls Tryd.prog 23 #[.agg #[.bool g, .slice a zs.length c, .int .i64 E], .agg #[.bool g, .slice a' zs.length c', .int .i64 E]] w fun e w' => e = .returned (.bool true) ∧ Below w.heap.size w w' := by
  have B0 : Hid (∀ t t', Bx6 w (.bool g) (.slice a zs.length c) (.int .i64 E) (.bool g) (.slice a' zs.length c') (.int .i64 E) ((w.alloc (.cells #[.bool g, .slice a zs.length c, .int .i64 E] t)).alloc (.cells #[.bool g, .slice a' zs.length c', .int .i64 E] t'))) := fun t t' => Bx6.start w _ _ _ _ _ _ _ _
  have hEE : (E != E) = false := by simp
  go_enter Tryd.func23, Tryd.ntmps23
  go_wp2_with fail
  refine (eqB_any _ _ _ _ _ _ zs zs _ hn hn (hz.later (B0.out _ _).bel) (hy.later (B0.out _ _).bel)).mono ?_
  rintro e w1 ⟨rfl, hb1⟩
  rw [show decide (g = g ∧ zs = zs) = true from by simp]
  have F1 := (B0.out _ _).later hb1
  have q2 := F1.q2
  have p2 := F1.p2
  have HB : Hid (Below w.heap.size w w1) := F1.bel
  clear hb1 F1 B0
  go_wp2
  go_ret
  exact ⟨rfl, HB.out⟩

end Go.Proofs.YtladfpljnaippabDoor
