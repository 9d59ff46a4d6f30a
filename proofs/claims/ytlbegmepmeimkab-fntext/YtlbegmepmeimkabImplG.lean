/-
  The program's groups of nine decimal digits, the lowest first.
-/
import Derived.Test.YtlbegmepmeimkabRangeR
import Derived.Test.YtlbegmepmeimkabImplCl
import Derived.Test.YtlbegmepmeimkabImplT
import Derived.Test.YtlbegmepmeimkabNumG9
import Derived.Shelf.Abstract
import Derived.WalkKit
import Derived.OwnWalkIn
import Derived.TacticsInMore
import Derived.LoopNIn
import Derived.LoopIn
namespace Go.Proofs.Ytlbegmepmeimkab
open Go.RowKit Go.Shelf

attribute [local go_sem] Oper.semAt_some

set_option maxHeartbeats 400000 in
theorem trimO_any (R c : Nat) (ds : List Int) (w : World) (hm : c ≤ maxLen) (hf : ds.length ≤ c) (hd : Own .u32 w R 0 ds) :
    Calls Try.prog 77 #[.slice (some ⟨R, 0, none⟩) ds.length c] w fun e w' => TrimOut ds (some ⟨R, 0, none⟩) w e w' := by
  unfold maxLen at hm
  go_enter Try.func77, Try.ntmps77
  go_wp2
  go_loop [3] (fun i => ∃ m : Nat, m ≤ ds.length ∧ i = .int .i64 m ∧ Hid (trimL ds = trimL (ds.take m))) (fun i => (intOf i).toNat)
  case atStart => exact ⟨ds.length, by omega, rfl, by unfold Hid; simp⟩
  case round =>
    obtain ⟨m, hk, rfl, ht⟩ := hrel
    by_cases h0 : m = 0
    · subst h0
      go_wp2
      go_ret
      unfold TrimOut
      exact ⟨0, none, 0, by omega, rfl, by rw [ht.out]; simp [trimL], by omega, by unfold maxLen; omega, .inl rfl, rfl⟩
    · obtain ⟨m, rfl⟩ : ∃ m', m = m' + 1 := ⟨m - 1, by omega⟩
      have g := hd.cell m (by omega)
      simp only [Nat.zero_add] at g
      have hm0 : ((m : Int) + 1 == 0) = false := by rw [beq_eq_false_iff_ne]; omega
      clear hd
      go_wp2
      · have hz : ds.getD m 0 = 0 := by simpa using ‹(ds[m]?.getD 0 == 0) = true›
        go_round
        case rel => exact ⟨m, by omega, by go_num, by unfold Hid; rw [ht.out, trim_take_step hk hz]⟩
        case measure => simp [intOf]
      · have hz : ds.getD m 0 ≠ 0 := by simpa using ‹(ds[m]?.getD 0 == 0) = false›
        go_ret
        unfold TrimOut
        exact ⟨m + 1, _, c, hk, rfl, by rw [ht.out, trim_take_stop hk hz], by omega, by unfold maxLen; omega, .inr rfl, rfl⟩

theorem Own.block {k : IntKind} {w w' : World} {R off : Nat} {ys : List Int} (h : Own k w R off ys) (hb : w'.heap[R]? = w.heap[R]?) : Own k w' R off ys := by
  refine ⟨?_, fun j hj => ?_, fun j hj => ?_⟩
  · have hl := h.lt
    rw [Array.getElem?_eq_getElem hl] at hb
    exact (Array.getElem?_eq_some_iff.1 hb).1
  · exact (World.cell?_of_block (a := ⟨R, off + j, none⟩) hb).trans (h.cell j hj)
  · exact (World.frozen?_of_block (a := ⟨R, off + j, none⟩) hb).trans (h.free j hj)

/-- What the digits in block R are worth, read off the world. -/
def rowVal (R : Nat) (s : Value) (W : World) : Nat :=
  match s with
  | .slice _ n _ => (val 4294967296 ((List.range n).map fun j => intOf ((W.cell? ⟨R, j, none⟩).getD undef))).toNat
  | _ => 0

theorem rowVal_eq {R : Nat} {W : World} {a : Option Addr} {c : Nat} {ys : List Int} (h : ys ≠ [] → Own .u32 W R 0 ys) : rowVal R (.slice a ys.length c) W = (val 4294967296 ys).toNat := by
  have e : (List.range ys.length).map (fun j => intOf ((W.cell? ⟨R, j, none⟩).getD undef)) = ys := by
    refine ext_getD (by simp) fun k hk => ?_
    have hk2 : k < ys.length := by simpa using hk
    have hne : ys ≠ [] := fun e => by subst e; simp at hk2
    have hc := (h hne).cell k hk2
    rw [Nat.zero_add] at hc
    rw [List.getD_eq_getElem?_getD, List.getElem?_map, List.getElem?_range hk2, Option.map_some, hc]
    rfl
  show (val 4294967296 ((List.range ys.length).map fun j => intOf ((W.cell? ⟨R, j, none⟩).getD undef))).toNat = _
  rw [e]

set_option maxRecDepth 100000 in
set_option maxHeartbeats 2000000 in
theorem groups_in (n : Nat) (b off c : Nat) (zs : List Int) (l : Nat) (J : Nat → List Int → World → Prop) (W : World) (hz : RowAt .u32 W (some ⟨b, off, none⟩) zs) (hl : zs.length ≤ 512) (hne : zs ≠ []) (hcan : Canon 4294967296 zs)
    (hJ0 : ∀ R W2, Below W.heap.size W W2 → W.heap.size ≤ R → R < W2.heap.size → J R [] W2)
    (hJw : ∀ R pre W2 W3, J R pre W2 → Within R (R + 1) W2 W3 → J R pre W3)
    (hY : ∀ R pre x W2, J R pre W2 → (pre.length < 600 ∧ 0 ≤ x ∧ x < 1000000000) → YieldAt Fence.wide (n - 1) Try.prog l #[.int .u32 x] W2 fun e W3 => e = .returned (.bool true) ∧ J R (pre ++ [x]) W3 ∧ W3.heap[R]? = W2.heap[R]?) :
    CallsIn Fence.wide n Try.prog 70 #[.slice (some ⟨b, off, none⟩) zs.length c, .func (.yield l) #[] #[]] W fun e W3 => (∃ v, e = .returned v) ∧ ∃ R xs, (∃ k, flat9 xs = padF (9 * k) (val 4294967296 zs) ∧ val 4294967296 zs < (10 ^ (9 * k) : Nat)) ∧ J R xs W3 := by
  refine callsIn_of_wp Try.func70 rfl trivial ?_ rfl
  simp only [Try.ntmps70, List.size_toArray, List.length_cons, List.length_nil, Nat.reduceAdd, Nat.reduceSub, Array.replicate_succ, Array.replicate_zero, List.push_toArray, List.append_toArray, List.nil_append, List.cons_append]
  have hd := hcan.1
  have hN0 : 0 < val 4294967296 zs := val_pos (by decide) hcan hne
  have hNf := val_fits hd hl
  obtain ⟨N, hN⟩ : ∃ N, N = val 4294967296 zs := ⟨_, rfl⟩
  rw [← hN] at hN0 hNf ⊢
  have HNf : Hid (N < (10 ^ 5000 : Nat)) := hNf
  clear hNf
  gi_wp2_with fail
  refine ⟨trivial, fun h => (by cases h), (callsIn_wide.2 (clone_any b off c zs W (by omega) hne hz)).mono ?_⟩
  rintro e W2 ⟨R, cR, rfl, hc1, hc2, hR, hO, hb⟩
  have HJ0 : Hid (J R [] W2) := hJ0 R W2 hb hR hO.lt
  have HO : Hid (Own .u32 W2 R 0 zs) := hO
  have HC : Hid (Canon 4294967296 zs ∧ flat9 [] = padF (9 * ([] : List Int).length) N ∧ val 4294967296 zs = N / (10 ^ (9 * ([] : List Int).length) : Nat)) := ⟨hcan, rfl, by rw [hN]; simp⟩
  have HJw : Hid (∀ R pre W2 W3, J R pre W2 → Within R (R + 1) W2 W3 → J R pre W3) := hJw
  have HY : Hid (∀ R pre x W2, J R pre W2 → (pre.length < 600 ∧ 0 ≤ x ∧ x < 1000000000) → YieldAt Fence.wide (n - 1) Try.prog l #[.int .u32 x] W2 fun e W3 => e = .returned (.bool true) ∧ J R (pre ++ [x]) W3 ∧ W3.heap[R]? = W2.heap[R]?) := hY
  clear hJ0 hJw hY hb hO hR hz hd hcan hN
  gi_wp2
  gi_loopw [4] (fun s wr => ∃ (pre ys : List Int) (ar : Option Addr) (cr : Nat), s = .slice ar ys.length cr ∧ ys.length ≤ cr ∧ cr ≤ maxLen ∧ ys.length ≤ 512 ∧ Hid (ys ≠ [] → ar = some ⟨R, 0, none⟩ ∧ Own .u32 wr R 0 ys) ∧ Hid (Canon 4294967296 ys ∧ flat9 pre = padF (9 * pre.length) N ∧ val 4294967296 ys = N / (10 ^ (9 * pre.length) : Nat)) ∧ Hid (J R pre wr)) (fun s wr => rowVal R s wr)
  case atStart => exact ⟨[], zs, some ⟨R, 0, none⟩, cR, rfl, hc1, hc2, hl, fun _ => ⟨rfl, HO.out⟩, HC, HJ0⟩
  case round =>
    obtain ⟨pre, ys, ar, cr, rfl, hy1, hy2, hy3, hrow, hval, hJ⟩ := hrel
    by_cases hy0 : ys = []
    · subst hy0
      have hfin := no_more (N := N) (k := pre.length) hval.out.2.2.symm
      have HFIN : Hid (N < (10 ^ (9 * pre.length) : Nat)) := hfin
      clear hfin
      gi_wp2
      go_end0
      exact ⟨⟨_, rfl⟩, R, pre, ⟨pre.length, hval.out.2.1, HFIN.out⟩, hJ.out⟩
    · obtain ⟨rfl, hO⟩ := hrow.out hy0
      have hyl : 0 < ys.length := List.length_pos_iff.2 hy0
      have hyi : (0 : Int) < (ys.length : Int) := by omega
      have hvp := val_pos (B := 4294967296) (by decide) hval.out.1 hy0
      have hfew := groups_few HNf.out (by rw [← hval.out.2.2]; exact hvp)
      have hme := rowVal_eq (R := R) (W := wr) (a := some ⟨R, 0, none⟩) (c := cr) (ys := ys) (fun _ => hO)
      have HME : Hid (rowVal R (.slice (some ⟨R, 0, none⟩) ys.length cr) wr = (val 4294967296 ys).toNat) := hme
      have HVP : Hid (0 < val 4294967296 ys) := hvp
      have HO2 : Hid (Own .u32 wr R 0 ys) := hO
      clear hme hvp hO hrow
      gi_wp2_with fail
      refine ⟨trivial, fun h => (by cases h), (callsIn_wide.2 (divide_any R 0 cr ys wr (by omega) HO2.out hval.out.1.1)).mono ?_⟩
      rintro e W3 ⟨rfl, hO3, hw3⟩
      obtain ⟨qs, hqs⟩ : ∃ qs, qs = (divL 4294967296 1000000000 ys).1 := ⟨_, rfl⟩
      rw [← hqs] at hO3
      have hql : qs.length = ys.length := by rw [hqs, divL_length]
      have hqv : val 4294967296 qs = val 4294967296 ys / 1000000000 := by rw [hqs]; exact (divL_ediv (by decide) ys).1
      have hqd : Dig 4294967296 qs := by rw [hqs]; exact divL_dig (by decide) (by decide) hval.out.1.1
      have hJ3 := HJw.out R pre wr W3 hJ.out hw3
      obtain ⟨x, hx⟩ : ∃ x, x = val 4294967296 ys % 1000000000 := ⟨_, rfl⟩
      rw [← hx]
      have hx0 : 0 ≤ x ∧ x < 1000000000 := by rw [hx]; exact ⟨Int.emod_nonneg _ (by decide), Int.emod_lt_of_pos _ (by decide)⟩
      have hst := flat9_step hval.out.2.1
      rw [← hval.out.2.2, ← hx] at hst
      have hnx := next9 N pre.length
      rw [← hval.out.2.2, ← hqv] at hnx
      obtain ⟨fn, tmps, assign, body, hyy, hRR⟩ := HY.out R pre x W3 hJ3 ⟨hfew, hx0.1, hx0.2⟩
      have HO3 : Hid (Own .u32 W3 R 0 qs) := hO3
      have HST : Hid (flat9 (pre ++ [x]) = padF (9 * (pre ++ [x]).length) N) := hst
      have HNX : Hid (val 4294967296 qs = N / (10 ^ (9 * (pre.length + 1)) : Nat)) := hnx
      have HQV : Hid (val 4294967296 qs = val 4294967296 ys / 1000000000) := hqv
      have HQD : Hid (Dig 4294967296 qs) := hqd
      clear hO3 hst hnx hqv hqd hJ3 hJ hval hqs hx hw3
      rw [← hql] at hyi hy1 hy3 hyl ⊢
      clear hql
      gi_wp2
      refine ⟨fun h => (by cases h), hRR.mono ?_⟩
      rintro e W4 ⟨rfl, hJ4, hk4⟩
      have HO4 : Hid (Own .u32 W4 R 0 qs) := HO3.out.block hk4
      have HJ4 : Hid (J R (pre ++ [x]) W4) := hJ4
      clear hJ4 hk4 hyy hRR
      gi_wp2_with fail
      refine ⟨trivial, fun h => (by cases h), (callsIn_wide.2 (trimO_any R cr qs W4 hy2 (by omega) HO4.out)).mono ?_⟩
      rintro e W5 ⟨m, a', c', hm, rfl, ht, hc1', hc2', ha, rfl⟩
      have htl : (trimL qs).length = m := by rw [ht, List.length_take]; omega
      have hvt : val 4294967296 (trimL qs) = val 4294967296 qs := val_trim _ _
      have HCT : Hid (Canon 4294967296 (trimL qs)) := canon_trim HQD.out
      have HRW : Hid (trimL qs ≠ [] → a' = some ⟨R, 0, none⟩ ∧ Own .u32 W5 R 0 (trimL qs)) := by
        intro hne2
        have hm0 : m ≠ 0 := fun e => hne2 (List.length_eq_zero_iff.1 (by omega))
        refine ⟨ha.resolve_left hm0, HO4.out.lt, fun j hj => ?_, fun j hj => HO4.out.free j (by omega)⟩
        rw [HO4.out.cell j (by omega), ht]
        simp [List.getD_eq_getElem?_getD, show j < m by omega]
      rw [← htl]
      have HVT : Hid (val 4294967296 (trimL qs) = val 4294967296 qs) := hvt
      have hme2 := rowVal_eq (R := R) (W := W5) (a := a') (c := c') (ys := trimL qs) (fun h => (HRW.out h).2)
      have HME2 : Hid (rowVal R (.slice a' (trimL qs).length c') W5 = (val 4294967296 (trimL qs)).toNat) := hme2
      clear hme2 hvt ha ht
      gi_wp2
      go_roundw
      case rel => exact ⟨pre ++ [x], trimL qs, a', c', by rw [htl], by omega, hc2', by omega, HRW, ⟨HCT.out, HST.out, by rw [HVT.out, HNX.out, List.length_append, List.length_singleton]⟩, HJ4⟩
      case measure =>
        have e1 := HME.out
        have e2 := HME2.out
        have e3 := HVP.out
        rw [HVT.out, HQV.out] at e2
        rw [htl] at e2
        have e4 : rowVal R (.slice a' m c') W5 < rowVal R (.slice (some ⟨R, 0, none⟩) ys.length cr) wr := by rw [e1, e2]; omega
        exact e4
end Go.Proofs.Ytlbegmepmeimkab
