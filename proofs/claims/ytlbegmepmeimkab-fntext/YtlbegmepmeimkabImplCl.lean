/-
  The library's slices.Clone and slices.Reverse, as the program calls them.
-/
import Derived.Test.YtlbegmepmeimkabGrow2
import Derived.Test.YtlbegmepmeimkabImplB
import Derived.Test.YtlbegmepmeimkabWithin
import Derived.Shelf.RegionOpenPlain
import Derived.Lib.SlicesMore
import Derived.Lib.Walk
import Derived.Shelf.SlicesE.Clone
namespace Go.Proofs.Ytlbegmepmeimkab
open Go.RowKit

/-- The first and the last i of a list exchanged. -/
def rv (zs : List Int) (i : Nat) : List Int := (List.range zs.length).map fun k => if k < i ∨ zs.length - i ≤ k then zs.getD (zs.length - 1 - k) 0 else zs.getD k 0

theorem ext_getD {xs ys : List Int} (hl : xs.length = ys.length) (h : ∀ k, k < xs.length → xs.getD k 0 = ys.getD k 0) : xs = ys := by
  apply List.ext_getElem hl
  intro k h1 h2
  have := h k h1
  rwa [List.getD_eq_getElem?_getD, List.getD_eq_getElem?_getD, List.getElem?_eq_getElem h1, List.getElem?_eq_getElem h2] at this

theorem rv_length (zs : List Int) (i : Nat) : (rv zs i).length = zs.length := by simp [rv]

theorem rv_get {zs : List Int} {i k : Nat} (h : k < zs.length) : (rv zs i).getD k 0 = if k < i ∨ zs.length - i ≤ k then zs.getD (zs.length - 1 - k) 0 else zs.getD k 0 := by
  rw [List.getD_eq_getElem?_getD, rv, List.getElem?_map, List.getElem?_range h]
  rfl

theorem rv_zero (zs : List Int) : rv zs 0 = zs := by
  refine ext_getD (rv_length _ _) fun k hk => ?_
  rw [rv_length] at hk
  rw [rv_get hk, if_neg (by omega)]

theorem rv_done {zs : List Int} {i : Nat} (h : zs.length ≤ 2 * i + 1) : rv zs i = zs.reverse := by
  refine ext_getD (by rw [rv_length, List.length_reverse]) fun k hk => ?_
  rw [rv_length] at hk
  have e : zs.reverse.getD k 0 = zs.getD (zs.length - 1 - k) 0 := by
    rw [List.getD_eq_getElem?_getD, List.getElem?_reverse hk, ← List.getD_eq_getElem?_getD]
  rw [rv_get hk, e]
  split
  · rfl
  · congr 1
    omega

theorem set_get {xs : List Int} {i k : Nat} {v : Int} (hk : k < xs.length) : (xs.set i v).getD k 0 = if i = k then v else xs.getD k 0 := by
  rw [List.getD_eq_getElem?_getD, List.getElem?_set]
  split
  · rename_i h
    subst h
    simp [hk]
  · rw [List.getD_eq_getElem?_getD]

theorem rv_step {zs : List Int} {i j : Nat} (hj : i + j + 1 = zs.length) (h : i < j) : ((rv zs i).set i ((rv zs i).getD j 0)).set j ((rv zs i).getD i 0) = rv zs (i + 1) := by
  refine ext_getD (by rw [List.length_set, List.length_set, rv_length, rv_length]) fun k hk => ?_
  rw [List.length_set, List.length_set, rv_length] at hk
  rw [set_get (by rw [List.length_set, rv_length]; exact hk), set_get (by rw [rv_length]; exact hk), rv_get hk, rv_get (i := i + 1) hk, rv_get (k := i) (by omega), rv_get (k := j) (by omega)]
  by_cases h1 : j = k
  · subst h1
    rw [if_pos rfl, if_neg (by omega), if_pos (by omega)]
    congr 1
    omega
  · rw [if_neg h1]
    by_cases h2 : i = k
    · subst h2
      rw [if_pos rfl, if_neg (by omega), if_pos (by omega)]
      congr 1
      omega
    · rw [if_neg h2]
      by_cases h3 : k < i ∨ zs.length - i ≤ k
      · rw [if_pos h3, if_pos (by omega)]
      · rw [if_neg h3, if_neg (by omega)]

set_option maxRecDepth 100000 in
set_option maxHeartbeats 2000000 in
theorem clone_any (b off c : Nat) (zs : List Int) (w : World) (hn : zs.length ≤ 1048576) (hne : zs ≠ []) (hz : RowAt .u32 w (some ⟨b, off, none⟩) zs) :
    Calls Try.prog 83 #[.slice (some ⟨b, off, none⟩) zs.length c] w fun e w' => ∃ R cR, e = .returned (.slice (some ⟨R, 0, none⟩) zs.length cR) ∧ zs.length ≤ cR ∧ cR ≤ maxLen ∧ w.heap.size ≤ R ∧ Own .u32 w' R 0 zs ∧ Below w.heap.size w w' := by
  have q22 : ∀ (w : World) (a : Option Addr) (n c n' c' : Nat), (binOp .eql 67 (.slice a n c) (.slice none n' c')).run Try.prog w = .ok (.bool a.isNone) w := fun w a n c n' c' => Lib.run_eql_slice_nil w _ _ a n c n' c' Try.underlying67
  have HZ : Hid (RowAt .u32 w (some ⟨b, off, none⟩) zs) := hz
  obtain ⟨i0, hi, hz0, hz1, hz2⟩ := info_parts Try.info46
  clear hz
  go_enter Try.func83, Try.ntmps83
  go_wp2_with (at_builtin; refine wpList_append_own _ rfl _ _ 67 rfl w.heap.size 46 i0 (.int .u32 0) 1 4 Try.underlying67 hi hz0 hz1 hz2 rfl (by decide) _ _ _ rfl (World.ownsRow_made w #[] 0 (Nat.le_refl _) (Nat.zero_le _) (by simp)) ⟨b, off, none⟩ zs.length c (vals .u32 zs) rfl ?qc1 ?qc2 ?qc3 ?qc4 ?qc5 ?qc6 ?_)
  case qc1 => simp [vals]
  case qc2 =>
    intro j u hj
    rw [Addr.add_lit]
    obtain ⟨hj1, hj2⟩ := List.getElem?_eq_some_iff.1 hj
    have hjl : j < zs.length := by simpa [vals] using hj1
    obtain ⟨b', off', e1, hb, hc⟩ := HZ.out.resolve_left hne
    injection e1 with e1
    injection e1 with e2 e3
    subst e2 e3
    rw [World.cell?_alloc_past _ _ _ hb, hc j hjl, ← hj2]
    simp [vals, List.getD_eq_getElem?_getD, hjl]
  case qc3 =>
    intro u hu
    obtain ⟨x, _, rfl⟩ := List.mem_map.1 hu
    rfl
  case qc4 => unfold maxLen; omega
  case qc5 => omega
  case qc6 => simp
  intro v' w1 hown hgrow hnil
  have hown2 : w1.ownsRow w.heap.size 46 1 v' zs.length (vals .u32 zs) := by simpa using hown
  have HB : Hid (Below w.heap.size w w1) := ((Below.refl _ w).alloc (Nat.le_refl _) _).grown hgrow (by simp) (by intro k hk; simp [Value.ownBlock] at hk; omega)
  obtain ⟨a', c', rfl, hcm, hsl, hr⟩ := own_row hown2
  have hoff : ∃ R, a' = some ⟨R, 0, none⟩ := by
    rcases hown2.2 with ⟨h1, _⟩ | ⟨g, cap, cur, h1, _⟩
    · exact absurd h1 hnil
    · injection h1 with h1
      exact ⟨g, h1⟩
  obtain ⟨R, rfl⟩ := hoff
  have HO : Hid (w.heap.size ≤ R ∧ Own .u32 w1 R 0 zs) := by
    obtain ⟨b', off', e1, hB, hlt, h1, h2⟩ := hr.resolve_left hne
    injection e1 with e1
    injection e1 with e2 e3
    subst e2 e3
    exact ⟨hB, ⟨hlt, h1, h2⟩⟩
  have hfit := hsl.fits
  clear hown hown2 hgrow hnil hsl hr
  go_wp2
  go_ret
  exact ⟨R, c', rfl, hfit, hcm, HO.out.1, HO.out.2, HB.out⟩

set_option maxRecDepth 100000 in
set_option maxHeartbeats 2000000 in
theorem rev_any (b off c : Nat) (zs : List Int) (w : World) (hn : zs.length ≤ 1048576) (hz : Own .u8 w b off zs) :
    Calls Try.prog 48 #[.slice (some ⟨b, off, none⟩) zs.length c] w fun e w' => e = .returned (.tuple #[]) ∧ Own .u8 w' b off zs.reverse ∧ Below b w w' := by
  have mixed : Try.prog.follows Departure.mixedOrders = true := by kernel_rfl
  go_enter Try.func48, Try.ntmps48
  go_wp2
  go_loopw [2, 3] (fun si sj wr => ∃ i : Nat, 2 * i ≤ zs.length ∧ si = .int .i64 i ∧ sj = .int .i64 ((zs.length : Int) - 1 - i) ∧ Own .u8 wr b off (rv zs i) ∧ Below b w wr) (fun si _ _ => zs.length - (intOf si).toNat)
  case atStart => exact ⟨0, by omega, rfl, by simp, by rw [rv_zero]; exact hz, Below.refl _ _⟩
  case round =>
    obtain ⟨i, hi, rfl, rfl, hown, hnx⟩ := hrel
    by_cases hlt : (i : Int) < (zs.length : Int) - 1 - i
    · obtain ⟨j, hj⟩ : ∃ j : Nat, i + j + 1 = zs.length := ⟨zs.length - 1 - i, by omega⟩
      have hst := rv_step hj (by omega)
      have hjj : (zs.length : Int) - 1 - i = j := by omega
      rw [hjj]
      have ci := hown.cell i (by rw [rv_length]; omega)
      have cj := hown.cell j (by rw [rv_length]; omega)
      have fi := hown.free i (by rw [rv_length]; omega)
      have fj := hown.free j (by rw [rv_length]; omega)
      have hil : (i : Int) < zs.length := by omega
      have hjl : (j : Int) < zs.length := by omega
      have hij : (i : Int) < j := by omega
      obtain ⟨x, hx⟩ : ∃ x, x = (rv zs i).getD i 0 := ⟨_, rfl⟩
      obtain ⟨y, hy⟩ : ∃ y, y = (rv zs i).getD j 0 := ⟨_, rfl⟩
      have HS := (hown.set i y (by rw [rv_length]; omega)).set j x (by rw [List.length_set, rv_length]; omega)
      rw [hx, hy, hst, ← hx, ← hy] at HS
      rw [← hx] at ci
      rw [← hy] at cj
      have HS2 : Hid (Own .u8 ((wr.setCell ⟨b, off + i, none⟩ (.int .u8 y)).setCell ⟨b, off + j, none⟩ (.int .u8 x)) b off (rv zs (i + 1))) := HS
      have HW : Hid (Below b w ((wr.setCell ⟨b, off + i, none⟩ (.int .u8 y)).setCell ⟨b, off + j, none⟩ (.int .u8 x))) := (hnx.setCell (p := ⟨b, off + i, none⟩) (Nat.le_refl _) _).setCell (p := ⟨b, off + j, none⟩) (Nat.le_refl _) _
      clear HS hst hx hy hown hnx hjj hlt hz
      go_wp2_with fail
      go_region_o
      go_wp2
      go_roundw
      case rel => exact ⟨i + 1, by omega, by go_num, by go_num, ⟨by simpa using HS2.out.lt, fun k hk => by simpa using HS2.out.cell k hk, fun k hk => by simpa using HS2.out.free k hk⟩, HW.out.drew⟩
      case measure => simp [intOf]; omega
    · have hd := rv_done (zs := zs) (i := i) (by omega)
      rw [hd] at hown
      go_wp2
      go_end0
      exact ⟨rfl, hown, hnx⟩
end Go.Proofs.Ytlbegmepmeimkab
