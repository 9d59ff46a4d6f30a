/-
  Plain mathematics: decimal digits nine at a time.
-/
import Derived.Test.YtfgpknglgbpebacNumU
import Derived.Test.YtfgpknglgbpebacOff
import Derived.Test.YtfgpknglgbpebacRangeR
import Derived.Test.YtfgpknglgbpebacImplCl
import Derived.Test.YtfgpknglgbpebacImplT
import Derived.Shelf.Abstract
import Derived.WalkKit
import Derived.OwnWalkIn
import Derived.TacticsInMore
import Derived.LoopNIn
import Derived.LoopIn
import Derived.Maps.OwnIn
import Derived.Maps.AppendAt
namespace Go.Proofs.Ytfgpknglgbpebac

/-- The digits of the groups so far. -/
def flat9 (pre : List Int) : List Int := pre.flatMap (padF 9)

theorem flat9_snoc (pre : List Int) (x : Int) : flat9 (pre ++ [x]) = flat9 pre ++ padF 9 x := by simp [flat9]

theorem flat9_length : ∀ pre : List Int, (flat9 pre).length = 9 * pre.length
  | [] => rfl
  | x :: pre => by
    have h := flat9_length pre
    unfold flat9 at h ⊢
    rw [List.flatMap_cons, List.length_append, padF_length, h, List.length_cons]
    omega

theorem mod_tenth {n P : Int} (hP : 0 < P) : n % (P * 10) / 10 = n / 10 % P := by
  have h0 := Int.emod_nonneg n (show P * 10 ≠ 0 by omega)
  have h1 := Int.emod_lt_of_pos n (show 0 < P * 10 by omega)
  have h2 := Int.mul_ediv_add_emod n (P * 10)
  obtain ⟨q, hq⟩ : ∃ q, q = n / (P * 10) := ⟨_, rfl⟩
  obtain ⟨r, hr⟩ : ∃ r, r = n % (P * 10) := ⟨_, rfl⟩
  rw [← hq, ← hr] at h2
  rw [← hr] at h0 h1 ⊢
  have e : n / 10 = r / 10 + P * q := by
    have e1 : P * 10 * q = 10 * (P * q) := by rw [Int.mul_comm P 10, Int.mul_assoc]
    rw [e1] at h2
    omega
  rw [e, Int.add_mul_emod_self_left]
  exact (Int.emod_eq_of_lt (by omega) (by omega)).symm

theorem padF_mod : ∀ (f : Nat) (n : Int), padF f (n % (10 ^ f : Nat)) = padF f n
  | 0, _ => rfl
  | f + 1, n => by
    have hP : (0 : Int) < ((10 ^ f : Nat) : Int) := by
      have : 0 < 10 ^ f := Nat.pow_pos (by decide)
      omega
    have e : ((10 ^ (f + 1) : Nat) : Int) = ((10 ^ f : Nat) : Int) * 10 := by rw [Nat.pow_succ]; rfl
    simp only [padF]
    rw [e, mod_tenth hP, padF_mod f (n / 10), Int.emod_emod_of_dvd n ⟨((10 ^ f : Nat) : Int), Int.mul_comm _ _⟩]

/-- One group more. -/
theorem flat9_step {N : Int} {pre : List Int} (h : flat9 pre = padF (9 * pre.length) N) : flat9 (pre ++ [N / (10 ^ (9 * pre.length) : Nat) % 1000000000]) = padF (9 * (pre ++ [N / (10 ^ (9 * pre.length) : Nat) % 1000000000]).length) N := by
  have e := padF_mod 9 (N / (10 ^ (9 * pre.length) : Nat))
  have e9 : ((10 ^ 9 : Nat) : Int) = 1000000000 := by decide
  rw [e9] at e
  rw [flat9_snoc, h, e, List.length_append, List.length_singleton, show 9 * (pre.length + 1) = 9 * pre.length + 9 by omega, padF_add]

theorem next9 (N : Int) (k : Nat) : N / (10 ^ (9 * k) : Nat) / 1000000000 = N / (10 ^ (9 * (k + 1)) : Nat) := by
  rw [Int.ediv_ediv_of_nonneg (Int.natCast_nonneg _), show 9 * (k + 1) = 9 * k + 9 by omega, Nat.pow_add]
  rfl

/-- There are fewer than 600 groups. -/
theorem groups_few {N : Int} {k : Nat} (hN : N < (10 ^ 5000 : Nat)) (h : 0 < N / (10 ^ (9 * k) : Nat)) : k < 600 := by
  have hp : 0 < 10 ^ (9 * k) := Nat.pow_pos (by decide)
  have h1 : ((10 ^ (9 * k) : Nat) : Int) ≤ N := by
    have := (Int.le_ediv_iff_mul_le (show (0 : Int) < ((10 ^ (9 * k) : Nat) : Int) by omega)).1 (show 1 ≤ N / (10 ^ (9 * k) : Nat) by omega)
    omega
  have h2 : 10 ^ (9 * k) < 10 ^ 5000 := by
    have : ((10 ^ (9 * k) : Nat) : Int) < ((10 ^ 5000 : Nat) : Int) := Int.lt_of_le_of_lt h1 hN
    exact Int.ofNat_lt.1 this
  have h3 := (Nat.pow_lt_pow_iff_right (by decide : 1 < 10)).1 h2
  omega

theorem no_more {N : Int} {k : Nat} (h : N / (10 ^ (9 * k) : Nat) = 0) : N < (10 ^ (9 * k) : Nat) := by
  have hp : 0 < 10 ^ (9 * k) := Nat.pow_pos (by decide)
  have := Int.lt_mul_ediv_self_add (x := N) (k := ((10 ^ (9 * k) : Nat) : Int)) (by omega)
  rw [h] at this
  omega

end Go.Proofs.Ytfgpknglgbpebac

/-
  The program's groups of nine decimal digits, the lowest first.
-/
namespace Go.Proofs.Ytfgpknglgbpebac
open Go.RowKit Go.Shelf

attribute [local go_sem] Oper.semAt_some

set_option maxHeartbeats 400000 in
theorem trimO_any (R c : Nat) (ds : List Int) (w : World) (hm : c ≤ maxLen) (hf : ds.length ≤ c) (hd : Own .u32 w R 0 ds) :
    Calls Try.prog 79 #[.slice (some ⟨R, 0, none⟩) ds.length c] w fun e w' => TrimOut ds (some ⟨R, 0, none⟩) w e w' := by
  unfold maxLen at hm
  go_enter Try.func79, Try.ntmps79
  go_wp2
  go_loop [3] (fun i => ∃ m : Nat, m ≤ ds.length ∧ i = .int .i64 m ∧ Hid (trimL ds = trimL (ds.take m))) (fun i => (intOf i).toNat)
  case atStart => exact ⟨ds.length, by omega, rfl, by unfold Hid; simp⟩
  case round =>
    obtain ⟨m, hk, rfl, ht⟩ := hrel
    by_cases h0 : m = 0
    · subst h0
      go_wp2
      go_ret
      unfold TrimOut
      exact ⟨0, none, 0, by omega, rfl, by rw [ht.out]; simp [trimL], by omega, by unfold maxLen; omega, .inl rfl, rfl⟩
    · obtain ⟨m, rfl⟩ : ∃ m', m = m' + 1 := ⟨m - 1, by omega⟩
      have g := hd.cell m (by omega)
      simp only [Nat.zero_add] at g
      have hm0 : ((m : Int) + 1 == 0) = false := by rw [beq_eq_false_iff_ne]; omega
      clear hd
      go_wp2
      · have hz : ds.getD m 0 = 0 := by simpa using ‹(ds[m]?.getD 0 == 0) = true›
        go_round
        case rel => exact ⟨m, by omega, by go_num, by unfold Hid; rw [ht.out, trim_take_step hk hz]⟩
        case measure => simp [intOf]
      · have hz : ds.getD m 0 ≠ 0 := by simpa using ‹(ds[m]?.getD 0 == 0) = false›
        go_ret
        unfold TrimOut
        exact ⟨m + 1, _, c, hk, rfl, by rw [ht.out, trim_take_stop hk hz], by omega, by unfold maxLen; omega, .inr rfl, rfl⟩

theorem Own.block {k : IntKind} {w w' : World} {R off : Nat} {ys : List Int} (h : Own k w R off ys) (hb : w'.heap[R]? = w.heap[R]?) : Own k w' R off ys := by
  refine ⟨?_, fun j hj => ?_, fun j hj => ?_⟩
  · have hl := h.lt
    rw [Array.getElem?_eq_getElem hl] at hb
    exact (Array.getElem?_eq_some_iff.1 hb).1
  · exact (World.cell?_of_block (a := ⟨R, off + j, none⟩) hb).trans (h.cell j hj)
  · exact (World.frozen?_of_block (a := ⟨R, off + j, none⟩) hb).trans (h.free j hj)

/-- What the digits in block R are worth, read off the world. -/
def rowVal (R : Nat) (s : Value) (W : World) : Nat :=
  match s with
  | .slice _ n _ => (val 4294967296 ((List.range n).map fun j => intOf ((W.cell? ⟨R, j, none⟩).getD undef))).toNat
  | _ => 0

theorem rowVal_eq {R : Nat} {W : World} {a : Option Addr} {c : Nat} {ys : List Int} (h : ys ≠ [] → Own .u32 W R 0 ys) : rowVal R (.slice a ys.length c) W = (val 4294967296 ys).toNat := by
  have e : (List.range ys.length).map (fun j => intOf ((W.cell? ⟨R, j, none⟩).getD undef)) = ys := by
    refine ext_getD (by simp) fun k hk => ?_
    have hk2 : k < ys.length := by simpa using hk
    have hne : ys ≠ [] := fun e => by subst e; simp at hk2
    have hc := (h hne).cell k hk2
    rw [Nat.zero_add] at hc
    rw [List.getD_eq_getElem?_getD, List.getElem?_map, List.getElem?_range hk2, Option.map_some, hc]
    rfl
  show (val 4294967296 ((List.range ys.length).map fun j => intOf ((W.cell? ⟨R, j, none⟩).getD undef))).toNat = _
  rw [e]

set_option maxRecDepth 100000 in
set_option maxHeartbeats 2000000 in
theorem groups_in (n : Nat) (b off c : Nat) (zs : List Int) (l : Nat) (J : Nat → List Int → World → Prop) (W : World) (hz : RowAt .u32 W (some ⟨b, off, none⟩) zs) (hl : zs.length ≤ 512) (hne : zs ≠ []) (hcan : Canon 4294967296 zs)
    (hJ0 : ∀ R W2, Below W.heap.size W W2 → W.heap.size ≤ R → R < W2.heap.size → J R [] W2)
    (hJw : ∀ R pre W2 W3, J R pre W2 → Within R (R + 1) W2 W3 → J R pre W3)
    (hY : ∀ R pre x W2, J R pre W2 → (pre.length < 600 ∧ 0 ≤ x ∧ x < 1000000000) → YieldAt Fence.wide (n - 1) Try.prog l #[.int .u32 x] W2 fun e W3 => e = .returned (.bool true) ∧ J R (pre ++ [x]) W3 ∧ W3.heap[R]? = W2.heap[R]?) :
    CallsIn Fence.wide n Try.prog 71 #[.slice (some ⟨b, off, none⟩) zs.length c, .func (.yield l) #[] #[]] W fun e W3 => (∃ v, e = .returned v) ∧ ∃ R xs, (∃ k, flat9 xs = padF (9 * k) (val 4294967296 zs) ∧ val 4294967296 zs < (10 ^ (9 * k) : Nat)) ∧ J R xs W3 := by
  refine callsIn_of_wp Try.func71 rfl trivial ?_ rfl
  simp only [Try.ntmps71, List.size_toArray, List.length_cons, List.length_nil, Nat.reduceAdd, Nat.reduceSub, Array.replicate_succ, Array.replicate_zero, List.push_toArray, List.append_toArray, List.nil_append, List.cons_append]
  have hd := hcan.1
  have hN0 : 0 < val 4294967296 zs := val_pos (by decide) hcan hne
  have hNf := val_fits hd hl
  obtain ⟨N, hN⟩ : ∃ N, N = val 4294967296 zs := ⟨_, rfl⟩
  rw [← hN] at hN0 hNf ⊢
  have HNf : Hid (N < (10 ^ 5000 : Nat)) := hNf
  clear hNf
  gi_wp2_with fail
  refine ⟨trivial, fun h => (by cases h), (callsIn_wide.2 (clone_any b off c zs W (by omega) hne hz)).mono ?_⟩
  rintro e W2 ⟨R, cR, rfl, hc1, hc2, hR, hO, hb⟩
  have HJ0 : Hid (J R [] W2) := hJ0 R W2 hb hR hO.lt
  have HO : Hid (Own .u32 W2 R 0 zs) := hO
  have HC : Hid (Canon 4294967296 zs ∧ flat9 [] = padF (9 * ([] : List Int).length) N ∧ val 4294967296 zs = N / (10 ^ (9 * ([] : List Int).length) : Nat)) := ⟨hcan, rfl, by rw [hN]; simp⟩
  have HJw : Hid (∀ R pre W2 W3, J R pre W2 → Within R (R + 1) W2 W3 → J R pre W3) := hJw
  have HY : Hid (∀ R pre x W2, J R pre W2 → (pre.length < 600 ∧ 0 ≤ x ∧ x < 1000000000) → YieldAt Fence.wide (n - 1) Try.prog l #[.int .u32 x] W2 fun e W3 => e = .returned (.bool true) ∧ J R (pre ++ [x]) W3 ∧ W3.heap[R]? = W2.heap[R]?) := hY
  clear hJ0 hJw hY hb hO hR hz hd hcan hN
  gi_wp2
  gi_loopw [4] (fun s wr => ∃ (pre ys : List Int) (ar : Option Addr) (cr : Nat), s = .slice ar ys.length cr ∧ ys.length ≤ cr ∧ cr ≤ maxLen ∧ ys.length ≤ 512 ∧ Hid (ys ≠ [] → ar = some ⟨R, 0, none⟩ ∧ Own .u32 wr R 0 ys) ∧ Hid (Canon 4294967296 ys ∧ flat9 pre = padF (9 * pre.length) N ∧ val 4294967296 ys = N / (10 ^ (9 * pre.length) : Nat)) ∧ Hid (J R pre wr)) (fun s wr => rowVal R s wr)
  case atStart => exact ⟨[], zs, some ⟨R, 0, none⟩, cR, rfl, hc1, hc2, hl, fun _ => ⟨rfl, HO.out⟩, HC, HJ0⟩
  case round =>
    obtain ⟨pre, ys, ar, cr, rfl, hy1, hy2, hy3, hrow, hval, hJ⟩ := hrel
    by_cases hy0 : ys = []
    · subst hy0
      have hfin := no_more (N := N) (k := pre.length) hval.out.2.2.symm
      have HFIN : Hid (N < (10 ^ (9 * pre.length) : Nat)) := hfin
      clear hfin
      gi_wp2
      go_end0
      exact ⟨⟨_, rfl⟩, R, pre, ⟨pre.length, hval.out.2.1, HFIN.out⟩, hJ.out⟩
    · obtain ⟨rfl, hO⟩ := hrow.out hy0
      have hyl : 0 < ys.length := List.length_pos_iff.2 hy0
      have hyi : (0 : Int) < (ys.length : Int) := by omega
      have hvp := val_pos (B := 4294967296) (by decide) hval.out.1 hy0
      have hfew := groups_few HNf.out (by rw [← hval.out.2.2]; exact hvp)
      have hme := rowVal_eq (R := R) (W := wr) (a := some ⟨R, 0, none⟩) (c := cr) (ys := ys) (fun _ => hO)
      have HME : Hid (rowVal R (.slice (some ⟨R, 0, none⟩) ys.length cr) wr = (val 4294967296 ys).toNat) := hme
      have HVP : Hid (0 < val 4294967296 ys) := hvp
      have HO2 : Hid (Own .u32 wr R 0 ys) := hO
      clear hme hvp hO hrow
      gi_wp2_with fail
      refine ⟨trivial, fun h => (by cases h), (callsIn_wide.2 (divide_any R 0 cr ys wr (by omega) HO2.out hval.out.1.1)).mono ?_⟩
      rintro e W3 ⟨rfl, hO3, hw3⟩
      obtain ⟨qs, hqs⟩ : ∃ qs, qs = (divL 4294967296 1000000000 ys).1 := ⟨_, rfl⟩
      rw [← hqs] at hO3
      have hql : qs.length = ys.length := by rw [hqs, divL_length]
      have hqv : val 4294967296 qs = val 4294967296 ys / 1000000000 := by rw [hqs]; exact (divL_ediv (by decide) ys).1
      have hqd : Dig 4294967296 qs := by rw [hqs]; exact divL_dig (by decide) (by decide) hval.out.1.1
      have hJ3 := HJw.out R pre wr W3 hJ.out hw3
      obtain ⟨x, hx⟩ : ∃ x, x = val 4294967296 ys % 1000000000 := ⟨_, rfl⟩
      rw [← hx]
      have hx0 : 0 ≤ x ∧ x < 1000000000 := by rw [hx]; exact ⟨Int.emod_nonneg _ (by decide), Int.emod_lt_of_pos _ (by decide)⟩
      have hst := flat9_step hval.out.2.1
      rw [← hval.out.2.2, ← hx] at hst
      have hnx := next9 N pre.length
      rw [← hval.out.2.2, ← hqv] at hnx
      obtain ⟨fn, tmps, assign, body, hyy, hRR⟩ := HY.out R pre x W3 hJ3 ⟨hfew, hx0.1, hx0.2⟩
      have HO3 : Hid (Own .u32 W3 R 0 qs) := hO3
      have HST : Hid (flat9 (pre ++ [x]) = padF (9 * (pre ++ [x]).length) N) := hst
      have HNX : Hid (val 4294967296 qs = N / (10 ^ (9 * (pre.length + 1)) : Nat)) := hnx
      have HQV : Hid (val 4294967296 qs = val 4294967296 ys / 1000000000) := hqv
      have HQD : Hid (Dig 4294967296 qs) := hqd
      clear hO3 hst hnx hqv hqd hJ3 hJ hval hqs hx hw3
      rw [← hql] at hyi hy1 hy3 hyl ⊢
      clear hql
      gi_wp2
      refine ⟨fun h => (by cases h), hRR.mono ?_⟩
      rintro e W4 ⟨rfl, hJ4, hk4⟩
      have HO4 : Hid (Own .u32 W4 R 0 qs) := HO3.out.block hk4
      have HJ4 : Hid (J R (pre ++ [x]) W4) := hJ4
      clear hJ4 hk4 hyy hRR
      gi_wp2_with fail
      refine ⟨trivial, fun h => (by cases h), (callsIn_wide.2 (trimO_any R cr qs W4 hy2 (by omega) HO4.out)).mono ?_⟩
      rintro e W5 ⟨m, a', c', hm, rfl, ht, hc1', hc2', ha, rfl⟩
      have htl : (trimL qs).length = m := by rw [ht, List.length_take]; omega
      have hvt : val 4294967296 (trimL qs) = val 4294967296 qs := val_trim _ _
      have HCT : Hid (Canon 4294967296 (trimL qs)) := canon_trim HQD.out
      have HRW : Hid (trimL qs ≠ [] → a' = some ⟨R, 0, none⟩ ∧ Own .u32 W5 R 0 (trimL qs)) := by
        intro hne2
        have hm0 : m ≠ 0 := fun e => hne2 (List.length_eq_zero_iff.1 (by omega))
        refine ⟨ha.resolve_left hm0, HO4.out.lt, fun j hj => ?_, fun j hj => HO4.out.free j (by omega)⟩
        rw [HO4.out.cell j (by omega), ht]
        simp [List.getD_eq_getElem?_getD, show j < m by omega]
      rw [← htl]
      have HVT : Hid (val 4294967296 (trimL qs) = val 4294967296 qs) := hvt
      have hme2 := rowVal_eq (R := R) (W := W5) (a := a') (c := c') (ys := trimL qs) (fun h => (HRW.out h).2)
      have HME2 : Hid (rowVal R (.slice a' (trimL qs).length c') W5 = (val 4294967296 (trimL qs)).toNat) := hme2
      clear hme2 hvt ha ht
      gi_wp2
      go_roundw
      case rel => exact ⟨pre ++ [x], trimL qs, a', c', by rw [htl], by omega, hc2', by omega, HRW, ⟨HCT.out, HST.out, by rw [HVT.out, HNX.out, List.length_append, List.length_singleton]⟩, HJ4⟩
      case measure =>
        have e1 := HME.out
        have e2 := HME2.out
        have e3 := HVP.out
        rw [HVT.out, HQV.out] at e2
        rw [htl] at e2
        have e4 : rowVal R (.slice a' m c') W5 < rowVal R (.slice (some ⟨R, 0, none⟩) ys.length cr) wr := by rw [e1, e2]; omega
        exact e4
end Go.Proofs.Ytfgpknglgbpebac

/-
  The program's decimal digits, the last first.
-/
namespace Go.Proofs.Ytfgpknglgbpebac
open Go.RowKit Go.Shelf

attribute [local go_sem] Oper.semAt_some

/-- Between two groups: the box of digits (at B), its row; the row is not in block R. -/
def GI (w : World) (B R : Nat) (ds : List Int) (W : World) : Prop :=
  ∃ v, Boxed W B 22 v ∧ W.ownsRow w.heap.size 5 1 v ds.length (vals .u8 ds) ∧ v.ownBlock ≠ some R ∧ R < W.heap.size ∧ ds.length ≤ 6000 ∧ Below w.heap.size w W

theorem own_shorter {w : World} {base : Nat} {e : TypeId} {a : Option Addr} {c : Nat} {ys : List Int} {t : Int} (h : w.ownsRow base e 1 (.slice a (ys ++ [t]).length c) (ys ++ [t]).length (vals .u8 (ys ++ [t]))) :
    w.ownsRow base e 1 (.slice a ys.length c) ys.length (vals .u8 ys) := by
  refine ⟨by simp [vals], ?_⟩
  rcases h.2 with ⟨_, h0⟩ | ⟨g, cap, cur, h1, h2, h3, h4, h5, h6, h7⟩
  · simp at h0
  · injection h1 with h1 _ h1'
    subst h1 h1'
    refine .inr ⟨g, c, cur, rfl, h2, h3, by simp at h4; omega, h5, h6, ?_⟩
    have e1 : cur.toList.take (ys.length * 1) = (cur.toList.take ((ys ++ [t]).length * 1)).take (ys.length * 1) := by
      rw [List.take_take]
      congr 1
      simp
    rw [e1, h7]
    simp [vals]

theorem own_lastY {w : World} {base : Nat} {e : TypeId} {v : Value} {ys : List Int} {t : Int} (h : w.ownsRow base e 1 v (ys ++ [t]).length (vals .u8 (ys ++ [t]))) :
    ∃ g c, v = .slice (some ⟨g, 0, none⟩) (ys.length + 1) c ∧ w.cell? ⟨g, ys.length, none⟩ = some (.int .u8 t) ∧ c ≤ maxLen ∧ ys.length + 1 ≤ c := by
  obtain ⟨a, c, rfl, hc, hsl, hr⟩ := own_row h
  obtain ⟨b, off, rfl, _, _, hcell, _⟩ := hr.resolve_left (by simp)
  have hf := hsl.fits
  have h0 : off = 0 := by
    rcases h.2 with ⟨h1, _⟩ | ⟨g, cap, cur, h1, _⟩
    · cases h1
    · injection h1 with h1
      injection h1 with h1
      injection h1
  subst h0
  have := hcell ys.length (by simp)
  refine ⟨b, c, by simp, ?_, hc, by simpa using hf⟩
  rw [Nat.zero_add] at this
  rw [this]
  simp [List.getD_eq_getElem?_getD]

theorem infoY : (Try.prog.info? 5).map (fun i => (i.zero, i.size, i.bytes)) = some (some (.int .u8 0), 1, 1) := by kernel_rfl

/-- How long the slice in a box is. -/
def boxL (B : Nat) (W : World) : Nat :=
  match W.cell? ⟨B, 0, none⟩ with
  | some (.slice _ n _) => n
  | _ => 0

set_option maxRecDepth 100000 in
set_option maxHeartbeats 4000000 in
theorem lastD_in (b off c : Nat) (zs : List Int) (w : World) (hz : RowAt .u32 w (some ⟨b, off, none⟩) zs) (hl : zs.length ≤ 512) (hne : zs ≠ []) (hcan : Canon 4294967296 zs) :
    CallsIn Fence.wide 9 Try.prog 34 #[.slice (some ⟨b, off, none⟩) zs.length c] w fun e W' => ∃ v, e = .returned v ∧ W'.ownsRow w.heap.size 5 1 v (decs (val 4294967296 zs)).length (vals .u8 (decs (val 4294967296 zs))) ∧ Below w.heap.size w W' := by
  refine callsIn_of_wp_marks Try.func34 rfl trivial ?_ rfl
  simp only [Try.ntmps34, List.size_toArray, List.length_cons, List.length_nil, Nat.reduceAdd, Nat.reduceSub, Array.replicate_succ, Array.replicate_zero, List.push_toArray, List.append_toArray, List.nil_append, List.cons_append]
  gi_wp2
  have bO := Boxed.new w 22 (.slice none 0 0)
  have hB0 : Below w.heap.size w (w.alloc (.cells #[.slice none 0 0] 22)) := bel0 _ _
  refine range_r rfl (by decide) (gf := 71) (rc := #[.slice (some ⟨b, off, none⟩) zs.length c]) rfl trivial (enters_of Try.func71 (by kernel_rfl) rfl)
    (encs := fun x : Int => #[Value.int .u32 x]) (fun _ => rfl) (ok := fun pre x => pre.length < 600 ∧ 0 ≤ x ∧ x < 1000000000) (S := fun xs => ∃ k, flat9 xs = padF (9 * k) (val 4294967296 zs) ∧ val 4294967296 zs < (10 ^ (9 * k) : Nat))
    (fun R pre W => GI w w.heap.size R (flat9 pre) W)
    (fun l J W hb hJ0 hJw hY => groups_in 8 b off c zs l J W ((hz.later hB0).later hb) hl hne hcan hJ0 hJw hY)
    ?start ?within ?put
    (fun x => { tmps := #[.slice (some ⟨b, off, none⟩) zs.length c, undef, .slice none 0 0, .pointer (some ⟨w.heap.size, 0, none⟩), .int .u32 x, .slice (some ⟨b, off, none⟩) zs.length c, .func (.func 71) #[.slice (some ⟨b, off, none⟩) zs.length c] #[], .int .u32 x, undef, undef, undef, undef, undef, undef, undef, undef, undef, undef, undef, undef, undef, undef, undef, undef, undef, undef, undef, undef, undef, undef, undef, undef, undef, undef, undef, undef, undef, undef], defers := [] }) ?assign ?body ?done
  case start =>
    intro R W hb hR hRl
    refine ⟨.slice none 0 0, (hb.block _ (by simp)).trans bO, World.ownsRow_nil _ _ _ _, by simp [Value.ownBlock], hRl, by simp [flat9], hB0.trans (hb.mono (by simp))⟩
  case within =>
    rintro R pre W W' hR ⟨v, hv, hrow, hvR, hRl, hdl, hB⟩ hw
    simp at hR
    exact ⟨v, hv.kept hw.grown (fun e => by injection e with e; omega), hrow.kept hw.grown (.inr hvR), hvR, by rw [hw.size]; exact hRl, hdl, hB.trans (hw.below.mono (by omega))⟩
  case put =>
    rintro R pre W l o o' ⟨v, hv, hrow, hvR, hRl, hdl, hB⟩ hl ho hc
    simp at hl
    have hlt := (Array.getElem?_eq_some_iff.1 ho).1
    have hBs := hB.size
    exact ⟨v, hv.kept (grownBy_putObj' W l o') (fun e => by injection e with e; omega), ownsRow_putObj hrow o' ho hc, hvR, by have := (grownBy_putObj' W l o').size; omega, hdl, hB.trans ((Below.refl _ W).grown (grownBy_putObj' W l o') hBs (fun k e => by cases e; omega))⟩
  case assign =>
    intro l x W K hK
    gi_wp2
    exact hK
  case body =>
    rintro l R pre x W hR ⟨v, hv, hrow, hvR, hRl, hdl, hB⟩ ⟨hp, hx0, hx1⟩
    simp at hR
    have HG : Hid (GI w w.heap.size R (flat9 pre ++ padF 0 x) W) := ⟨v, hv, by simpa [padF] using hrow, hvR, hRl, by simpa [padF] using hdl, hB⟩
    have hfl := flat9_length pre
    obtain ⟨i0, hi, hz0, hz1, hz2⟩ := info_parts infoY
    clear hv hrow hvR hRl hdl hB v bO hB0 hz hcan hne
    gi_wp2
    gi_loopw [4, 8] (fun s4 s8 wr => ∃ i : Nat, i ≤ 9 ∧ s8 = .int .i64 i ∧ s4 = .int .u32 (x / (10 ^ i : Nat)) ∧ Hid (GI w w.heap.size R (flat9 pre ++ padF i x) wr) ∧ Hid (KeepsOthers W wr ∧ wr.heap[R]? = W.heap[R]?)) (fun _ s8 _ => 9 - (intOf s8).toNat)
    case atStart => exact ⟨0, by omega, rfl, by simp, HG, KeepsOthers.refl _, rfl⟩
    case round =>
      obtain ⟨i, hi9, rfl, rfl, hG, hKR⟩ := hrel
      by_cases hlt : i < 9
      · obtain ⟨v, hv, hrow, hvR, hRl, hdl, hB⟩ := hG.out
        have hc := hv.cell
        have hsn := padF_snoc i x
        have hnx : x / (10 ^ i : Nat) / 10 = x / (10 ^ (i + 1) : Nat) := by
          rw [Int.ediv_ediv_of_nonneg (Int.natCast_nonneg _), Nat.pow_succ]
          rfl
        have hq0 : 0 ≤ x / (10 ^ i : Nat) := Int.ediv_nonneg hx0 (Int.natCast_nonneg _)
        have hq1 : x / (10 ^ i : Nat) < 1000000000 := Int.lt_of_le_of_lt (Int.ediv_le_self _ hx0) hx1
        obtain ⟨q, hq⟩ : ∃ q, q = x / (10 ^ i : Nat) := ⟨_, rfl⟩
        rw [← hq] at hsn hnx hq0 hq1 ⊢
        have hil : (i : Int) < 9 := by omega
        have HSN : Hid (padF (i + 1) x = padF i x ++ [48 + q % 10]) := hsn
        have HNX : Hid (q / 10 = x / (10 ^ (i + 1) : Nat)) := hnx
        have hpl := padF_length i x
        have hdl2 : (flat9 pre ++ padF i x).length ≤ 6000 := hdl
        obtain ⟨ys, hys⟩ : ∃ ys, ys = flat9 pre ++ padF i x := ⟨_, rfl⟩
        have HYS : Hid (ys = flat9 pre ++ padF i x) := hys
        have hyl : ys.length + 1 ≤ 6000 := by rw [hys, List.length_append]; omega
        rw [← hys] at hrow hdl
        clear hsn hnx hq hG hys HG
        gi_wp2_with (gi_at_builtin; refine wpListIn_append_own_at _ rfl _ _ 22 rfl w.heap.size 5 i0 (.int .u8 0) 1 1 Try.underlying22 hi hz0 hz1 hz2 rfl (by decide) _ _ _ rfl (hrow.alloc _) ⟨wr.heap.size, 0, none⟩ 1 1 [.int .u8 (48 + q % 10)] rfl rfl (cell_one_new _ _ _) (by simp [Value.oneCell']) (by unfold maxLen; omega) (by omega) (by have := hB.size; simp; omega) ?_; intro v' w1 hown' hgrow _ hat; obtain ⟨g', cap', rfl⟩ := ownsRow_succ hown'; obtain ⟨hv1, hv2, hr2, hk2, hb2⟩ := hv.appended (by decide) hrow hB.size (Nat.le_refl _) hown' hgrow; have hc1 := hv1.cell; have hf1 := hv1.frozen)
        have hgr : (wr.alloc (.cells #[.int .u8 (48 + q % 10)] 5)).grownBy w1 v.ownBlock := hgrow
        have hat2 : (Value.slice (some ⟨g', 0, none⟩) (ys.length + 1) cap').ownBlock = v.ownBlock ∨ (Value.slice (some ⟨g', 0, none⟩) (ys.length + 1) cap').ownBlock = some (wr.alloc (.cells #[.int .u8 (48 + q % 10)] 5)).heap.size := hat
        have hgR : (Value.slice (some ⟨g', 0, none⟩) (ys.length + 1) cap').ownBlock ≠ some R := by
          rcases hat2 with h | h
          · rw [h]; exact hvR
          · rw [h]
            intro e
            injection e with e
            simp at e
            omega
        have hw1R : w1.heap[R]? = wr.heap[R]? := (hgr.block R (by simp; omega) (fun e => hvR e.symm)).trans ((bel0 wr (.cells #[.int .u8 (48 + q % 10)] 5)).block R hRl)
        have hsR : (w1.setCell ⟨w.heap.size, 0, none⟩ (.slice (some ⟨g', 0, none⟩) (ys.length + 1) cap')).heap[R]? = w1.heap[R]? := Below.heap_setCell _ _ _ R (by simp; omega)
        have hds : flat9 pre ++ padF (i + 1) x = ys ++ [48 + q % 10] := by rw [HSN.out, HYS.out, List.append_assoc]
        have hRs : R < (w1.setCell ⟨w.heap.size, 0, none⟩ (.slice (some ⟨g', 0, none⟩) (ys.length + 1) cap')).heap.size := by have := hk2.size; omega
        go_roundw
        case rel =>
          refine ⟨i + 1, by omega, by go_num, by rw [HNX.out], ?_, hKR.out.1.trans hk2, (hsR.trans hw1R).trans hKR.out.2⟩
          unfold Hid
          rw [hds]
          exact ⟨_, hv2, by rw [← vals_snoc]; simpa using hr2, hgR, hRs, by simpa using hyl, hB.trans hb2⟩
        case measure => simp [intOf]; omega
      · have hi10 : i = 9 := by omega
        subst hi10
        gi_wp2
        exact ⟨hKR.out.1, hKR.out.2, by rw [flat9_snoc]; exact hG.out⟩
  case done =>
    rintro D R xs W hD ⟨k, hk1, hk2⟩ ⟨v, hv, hrow, hvR, hRl, hdl, hB⟩ hK
    simp at hD
    have hN0 : 0 ≤ val 4294967296 zs := val_nonneg (by decide) hcan.1
    have hst := strip_decs hN0 hk2
    rw [← hk1] at hst
    obtain ⟨T, hT⟩ : ∃ T, T = decs (val 4294967296 zs) := ⟨_, rfl⟩
    rw [← hT] at hst
    have HT : Hid (T = decs (val 4294967296 zs)) := hT
    obtain ⟨y0, hy0⟩ : ∃ y0, y0 = flat9 xs := ⟨_, rfl⟩
    rw [← hy0] at hst hrow hdl
    have HI : Hid (∃ (ys : List Int) (v : Value), Boxed W w.heap.size 22 v ∧ W.ownsRow w.heap.size 5 1 v ys.length (vals .u8 ys) ∧ strip ys = T ∧ ys.length ≤ 6000 ∧ Below w.heap.size w W ∧ W.heap[D]? = some (.deferred (some []))) := ⟨y0, v, hv, hrow, hst, hdl, hB, hK⟩
    clear hv hrow hvR hRl hdl hB hK hst hy0 hk1 hk2 hN0 hT v y0 bO hB0 hz hcan hne
    gi_wp2
    gi_loopw [] (fun wr => Hid (∃ (ys : List Int) (v : Value), Boxed wr w.heap.size 22 v ∧ wr.ownsRow w.heap.size 5 1 v ys.length (vals .u8 ys) ∧ strip ys = T ∧ ys.length ≤ 6000 ∧ Below w.heap.size w wr ∧ wr.heap[D]? = some (.deferred (some [])))) (fun wr => boxL w.heap.size wr)
    case atStart => exact HI
    case round =>
      obtain ⟨ys, v, hv, hrow, hst, hdl, hB, hK⟩ := hrel.out
      clear HI hrel
      have HO : Hid (Boxed wr w.heap.size 22 v ∧ wr.ownsRow w.heap.size 5 1 v ys.length (vals .u8 ys) ∧ strip ys = T ∧ ys.length ≤ 6000 ∧ Below w.heap.size w wr ∧ wr.heap[D]? = some (.deferred (some []))) := ⟨hv, hrow, hst, hdl, hB, hK⟩
      rcases List.eq_nil_or_concat ys with rfl | ⟨zs', t, rfl⟩
      · obtain ⟨aa, cc, rfl, -, -, -⟩ := own_row hrow
        have hc := hv.cell
        clear hv hrow hst hdl hB hK
        gi_wp2
        refine ⟨by simp, .inl ⟨_, _, rfl, run_takeDeferred HO.out.2.2.2.2.2, ?_⟩⟩
        refine ⟨_, results_tmp rfl _ _ _, _, rfl, ?_, HO.out.2.2.2.2.1.trans (belowK_b (w := w) (Nat.le_refl _) wr D _ _ (by omega) HO.out.2.2.2.2.2 rfl rfl)⟩
        rw [← HT.out, ← HO.out.2.2.1]
        exact ownsRow_putObj HO.out.2.1 _ HO.out.2.2.2.2.2 rfl
      · rw [List.concat_eq_append] at HO hrow hst hdl
        obtain ⟨g, cc, rfl, hcell, hcm, hcl⟩ := own_lastY hrow
        have hc := hv.cell
        have hf := hv.frozen
        unfold maxLen at hcm
        have hz1 : (zs'.length : Int) < (zs'.length : Int) + 1 := by omega
        have hdl2 : zs'.length + 1 ≤ 6000 := by simpa using hdl
        rw [strip_snoc] at hst
        by_cases ht : t = 48
        · subst ht
          rw [if_pos rfl] at hst
          have HS : Hid (strip zs' = T) := hst
          have hbx : boxL w.heap.size wr = zs'.length + 1 := by unfold boxL; rw [hc]
          have HBX : Hid (boxL w.heap.size wr = zs'.length + 1) := hbx
          clear hv hrow hst hdl hB hK hbx
          gi_wp2
          have hv2 := HO.out.1.set (.slice (some ⟨g, 0, none⟩) zs'.length cc)
          have el : (zs' ++ [(48 : Int)]).length = zs'.length + 1 := by simp
          have hrow2 := HO.out.2.1
          rw [el] at hrow2
          have hrow3 := own_shorter (t := 48) (by rw [el]; exact hrow2)
          have hrow4 := hrow3.kept (grownBy_setCell' wr w.heap.size (.slice (some ⟨g, 0, none⟩) zs'.length cc)) (.inr (HO.out.1.not_row (by decide) hrow3).symm)
          go_roundw
          case rel => exact ⟨zs', _, hv2, hrow4, HS.out, by omega, HO.out.2.2.2.2.1.setCell (p := ⟨w.heap.size, 0, none⟩) (Nat.le_refl _) _, (Below.heap_setCell _ _ _ D (by simp; omega)).trans HO.out.2.2.2.2.2⟩
          case measure =>
            have e1 : boxL w.heap.size (wr.setCell ⟨w.heap.size, 0, none⟩ (.slice (some ⟨g, 0, none⟩) zs'.length cc)) = zs'.length := by
              unfold boxL
              rw [hv2.cell]
            have e2 := HBX.out
            omega
        · rw [if_neg ht] at hst
          have HS : Hid (zs' ++ [t] = T) := hst
          have htb : (t == 48) = false := by rw [beq_eq_false_iff_ne]; exact ht
          clear hv hrow hst hdl hB hK
          gi_wp2
          refine ⟨by simp, .inl ⟨_, _, rfl, run_takeDeferred HO.out.2.2.2.2.2, ?_⟩⟩
          refine ⟨_, results_tmp rfl _ _ _, _, rfl, ?_, HO.out.2.2.2.2.1.trans (belowK_b (w := w) (Nat.le_refl _) wr D _ _ (by omega) HO.out.2.2.2.2.2 rfl rfl)⟩
          rw [← HT.out, ← HS.out]
          exact ownsRow_putObj HO.out.2.1 _ HO.out.2.2.2.2.2 rfl
/-- The program's digits, the last first. -/
theorem lastD_any (b off c : Nat) (zs : List Int) (w : World) (hz : RowAt .u32 w (some ⟨b, off, none⟩) zs) (hl : zs.length ≤ 512) (hne : zs ≠ []) (hcan : Canon 4294967296 zs) :
    Calls Try.prog 34 #[.slice (some ⟨b, off, none⟩) zs.length c] w fun e W' => ∃ v, e = .returned v ∧ W'.ownsRow w.heap.size 5 1 v (decs (val 4294967296 zs)).length (vals .u8 (decs (val 4294967296 zs))) ∧ Below w.heap.size w W' :=
  (callsIn_wide (n := 9)).1 (lastD_in b off c zs w hz hl hne hcan)

end Go.Proofs.Ytfgpknglgbpebac
