/-
  The program's decimal digits, the last first.
-/
import Derived.Test.YtlbegmepmeimkabImplG
import Derived.Maps.OwnIn
import Derived.Maps.AppendAt
namespace Go.Proofs.Ytlbegmepmeimkab
open Go.RowKit Go.Shelf

attribute [local go_sem] Oper.semAt_some

/-- Between two groups: the box of digits (at B), its row; the row is not in block R. -/
def GI (w : World) (B R : Nat) (ds : List Int) (W : World) : Prop :=
  ∃ v, Boxed W B 33 v ∧ W.ownsRow w.heap.size 5 1 v ds.length (vals .u8 ds) ∧ v.ownBlock ≠ some R ∧ R < W.heap.size ∧ ds.length ≤ 6000 ∧ Below w.heap.size w W

theorem own_shorter {w : World} {base : Nat} {e : TypeId} {a : Option Addr} {c : Nat} {ys : List Int} {t : Int} (h : w.ownsRow base e 1 (.slice a (ys ++ [t]).length c) (ys ++ [t]).length (vals .u8 (ys ++ [t]))) :
    w.ownsRow base e 1 (.slice a ys.length c) ys.length (vals .u8 ys) := by
  refine ⟨by simp [vals], ?_⟩
  rcases h.2 with ⟨_, h0⟩ | ⟨g, cap, cur, h1, h2, h3, h4, h5, h6, h7⟩
  · simp at h0
  · injection h1 with h1 _ h1'
    subst h1 h1'
    refine .inr ⟨g, c, cur, rfl, h2, h3, by simp at h4; omega, h5, h6, ?_⟩
    have e1 : cur.toList.take (ys.length * 1) = (cur.toList.take ((ys ++ [t]).length * 1)).take (ys.length * 1) := by
      rw [List.take_take]
      congr 1
      simp
    rw [e1, h7]
    simp [vals]

theorem own_lastY {w : World} {base : Nat} {e : TypeId} {v : Value} {ys : List Int} {t : Int} (h : w.ownsRow base e 1 v (ys ++ [t]).length (vals .u8 (ys ++ [t]))) :
    ∃ g c, v = .slice (some ⟨g, 0, none⟩) (ys.length + 1) c ∧ w.cell? ⟨g, ys.length, none⟩ = some (.int .u8 t) ∧ c ≤ maxLen ∧ ys.length + 1 ≤ c := by
  obtain ⟨a, c, rfl, hc, hsl, hr⟩ := own_row h
  obtain ⟨b, off, rfl, _, _, hcell, _⟩ := hr.resolve_left (by simp)
  have hf := hsl.fits
  have h0 : off = 0 := by
    rcases h.2 with ⟨h1, _⟩ | ⟨g, cap, cur, h1, _⟩
    · cases h1
    · injection h1 with h1
      injection h1 with h1
      injection h1
  subst h0
  have := hcell ys.length (by simp)
  refine ⟨b, c, by simp, ?_, hc, by simpa using hf⟩
  rw [Nat.zero_add] at this
  rw [this]
  simp [List.getD_eq_getElem?_getD]

theorem infoY : (Try.prog.info? 5).map (fun i => (i.zero, i.size, i.bytes)) = some (some (.int .u8 0), 1, 1) := by kernel_rfl

/-- How long the slice in a box is. -/
def boxL (B : Nat) (W : World) : Nat :=
  match W.cell? ⟨B, 0, none⟩ with
  | some (.slice _ n _) => n
  | _ => 0

set_option maxRecDepth 100000 in
set_option maxHeartbeats 4000000 in
theorem lastD_in (b off c : Nat) (zs : List Int) (w : World) (hz : RowAt .u32 w (some ⟨b, off, none⟩) zs) (hl : zs.length ≤ 512) (hne : zs ≠ []) (hcan : Canon 4294967296 zs) :
    CallsIn Fence.wide 9 Try.prog 47 #[.slice (some ⟨b, off, none⟩) zs.length c] w fun e W' => ∃ v, e = .returned v ∧ W'.ownsRow w.heap.size 5 1 v (decs (val 4294967296 zs)).length (vals .u8 (decs (val 4294967296 zs))) ∧ Below w.heap.size w W' := by
  refine callsIn_of_wp_marks Try.func47 rfl trivial ?_ rfl
  simp only [Try.ntmps47, List.size_toArray, List.length_cons, List.length_nil, Nat.reduceAdd, Nat.reduceSub, Array.replicate_succ, Array.replicate_zero, List.push_toArray, List.append_toArray, List.nil_append, List.cons_append]
  gi_wp2
  have bO := Boxed.new w 33 (.slice none 0 0)
  have hB0 : Below w.heap.size w (w.alloc (.cells #[.slice none 0 0] 33)) := bel0 _ _
  refine range_r rfl (by decide) (gf := 70) (rc := #[.slice (some ⟨b, off, none⟩) zs.length c]) rfl trivial (enters_of Try.func70 (by kernel_rfl) rfl)
    (encs := fun x : Int => #[Value.int .u32 x]) (fun _ => rfl) (ok := fun pre x => pre.length < 600 ∧ 0 ≤ x ∧ x < 1000000000) (S := fun xs => ∃ k, flat9 xs = padF (9 * k) (val 4294967296 zs) ∧ val 4294967296 zs < (10 ^ (9 * k) : Nat))
    (fun R pre W => GI w w.heap.size R (flat9 pre) W)
    (fun l J W hb hJ0 hJw hY => groups_in 8 b off c zs l J W ((hz.later hB0).later hb) hl hne hcan hJ0 hJw hY)
    ?start ?within ?put
    (fun x => { tmps := #[.slice (some ⟨b, off, none⟩) zs.length c, undef, .slice none 0 0, .pointer (some ⟨w.heap.size, 0, none⟩), .int .u32 x, .slice (some ⟨b, off, none⟩) zs.length c, .func (.func 70) #[.slice (some ⟨b, off, none⟩) zs.length c] #[], .int .u32 x, undef, undef, undef, undef, undef, undef, undef, undef, undef, undef, undef, undef, undef, undef, undef, undef, undef, undef, undef, undef, undef, undef, undef, undef, undef, undef, undef, undef, undef, undef], defers := [] }) ?assign ?body ?done
  case start =>
    intro R W hb hR hRl
    refine ⟨.slice none 0 0, (hb.block _ (by simp)).trans bO, World.ownsRow_nil _ _ _ _, by simp [Value.ownBlock], hRl, by simp [flat9], hB0.trans (hb.mono (by simp))⟩
  case within =>
    rintro R pre W W' hR ⟨v, hv, hrow, hvR, hRl, hdl, hB⟩ hw
    simp at hR
    exact ⟨v, hv.kept hw.grown (fun e => by injection e with e; omega), hrow.kept hw.grown (.inr hvR), hvR, by rw [hw.size]; exact hRl, hdl, hB.trans (hw.below.mono (by omega))⟩
  case put =>
    rintro R pre W l o o' ⟨v, hv, hrow, hvR, hRl, hdl, hB⟩ hl ho hc
    simp at hl
    have hlt := (Array.getElem?_eq_some_iff.1 ho).1
    have hBs := hB.size
    exact ⟨v, hv.kept (grownBy_putObj' W l o') (fun e => by injection e with e; omega), ownsRow_putObj hrow o' ho hc, hvR, by have := (grownBy_putObj' W l o').size; omega, hdl, hB.trans ((Below.refl _ W).grown (grownBy_putObj' W l o') hBs (fun k e => by cases e; omega))⟩
  case assign =>
    intro l x W K hK
    gi_wp2
    exact hK
  case body =>
    rintro l R pre x W hR ⟨v, hv, hrow, hvR, hRl, hdl, hB⟩ ⟨hp, hx0, hx1⟩
    simp at hR
    have HG : Hid (GI w w.heap.size R (flat9 pre ++ padF 0 x) W) := ⟨v, hv, by simpa [padF] using hrow, hvR, hRl, by simpa [padF] using hdl, hB⟩
    have hfl := flat9_length pre
    obtain ⟨i0, hi, hz0, hz1, hz2⟩ := info_parts infoY
    clear hv hrow hvR hRl hdl hB v bO hB0 hz hcan hne
    gi_wp2
    gi_loopw [4, 8] (fun s4 s8 wr => ∃ i : Nat, i ≤ 9 ∧ s8 = .int .i64 i ∧ s4 = .int .u32 (x / (10 ^ i : Nat)) ∧ Hid (GI w w.heap.size R (flat9 pre ++ padF i x) wr) ∧ Hid (KeepsOthers W wr ∧ wr.heap[R]? = W.heap[R]?)) (fun _ s8 _ => 9 - (intOf s8).toNat)
    case atStart => exact ⟨0, by omega, rfl, by simp, HG, KeepsOthers.refl _, rfl⟩
    case round =>
      obtain ⟨i, hi9, rfl, rfl, hG, hKR⟩ := hrel
      by_cases hlt : i < 9
      · obtain ⟨v, hv, hrow, hvR, hRl, hdl, hB⟩ := hG.out
        have hc := hv.cell
        have hsn := padF_snoc i x
        have hnx : x / (10 ^ i : Nat) / 10 = x / (10 ^ (i + 1) : Nat) := by
          rw [Int.ediv_ediv_of_nonneg (Int.natCast_nonneg _), Nat.pow_succ]
          rfl
        have hq0 : 0 ≤ x / (10 ^ i : Nat) := Int.ediv_nonneg hx0 (Int.natCast_nonneg _)
        have hq1 : x / (10 ^ i : Nat) < 1000000000 := Int.lt_of_le_of_lt (Int.ediv_le_self _ hx0) hx1
        obtain ⟨q, hq⟩ : ∃ q, q = x / (10 ^ i : Nat) := ⟨_, rfl⟩
        rw [← hq] at hsn hnx hq0 hq1 ⊢
        have hil : (i : Int) < 9 := by omega
        have HSN : Hid (padF (i + 1) x = padF i x ++ [48 + q % 10]) := hsn
        have HNX : Hid (q / 10 = x / (10 ^ (i + 1) : Nat)) := hnx
        have hpl := padF_length i x
        have hdl2 : (flat9 pre ++ padF i x).length ≤ 6000 := hdl
        obtain ⟨ys, hys⟩ : ∃ ys, ys = flat9 pre ++ padF i x := ⟨_, rfl⟩
        have HYS : Hid (ys = flat9 pre ++ padF i x) := hys
        have hyl : ys.length + 1 ≤ 6000 := by rw [hys, List.length_append]; omega
        rw [← hys] at hrow hdl
        clear hsn hnx hq hG hys HG
        gi_wp2_with (gi_at_builtin; refine wpListIn_append_own_at _ rfl _ _ 33 rfl w.heap.size 5 i0 (.int .u8 0) 1 1 Try.underlying33 hi hz0 hz1 hz2 rfl (by decide) _ _ _ rfl (hrow.alloc _) ⟨wr.heap.size, 0, none⟩ 1 1 [.int .u8 (48 + q % 10)] rfl rfl (cell_one_new _ _ _) (by simp [Value.oneCell']) (by unfold maxLen; omega) (by omega) (by have := hB.size; simp; omega) ?_; intro v' w1 hown' hgrow _ hat; obtain ⟨g', cap', rfl⟩ := ownsRow_succ hown'; obtain ⟨hv1, hv2, hr2, hk2, hb2⟩ := hv.appended (by decide) hrow hB.size (Nat.le_refl _) hown' hgrow; have hc1 := hv1.cell; have hf1 := hv1.frozen)
        have hgr : (wr.alloc (.cells #[.int .u8 (48 + q % 10)] 5)).grownBy w1 v.ownBlock := hgrow
        have hat2 : (Value.slice (some ⟨g', 0, none⟩) (ys.length + 1) cap').ownBlock = v.ownBlock ∨ (Value.slice (some ⟨g', 0, none⟩) (ys.length + 1) cap').ownBlock = some (wr.alloc (.cells #[.int .u8 (48 + q % 10)] 5)).heap.size := hat
        have hgR : (Value.slice (some ⟨g', 0, none⟩) (ys.length + 1) cap').ownBlock ≠ some R := by
          rcases hat2 with h | h
          · rw [h]; exact hvR
          · rw [h]
            intro e
            injection e with e
            simp at e
            omega
        have hw1R : w1.heap[R]? = wr.heap[R]? := (hgr.block R (by simp; omega) (fun e => hvR e.symm)).trans ((bel0 wr (.cells #[.int .u8 (48 + q % 10)] 5)).block R hRl)
        have hsR : (w1.setCell ⟨w.heap.size, 0, none⟩ (.slice (some ⟨g', 0, none⟩) (ys.length + 1) cap')).heap[R]? = w1.heap[R]? := Below.heap_setCell _ _ _ R (by simp; omega)
        have hds : flat9 pre ++ padF (i + 1) x = ys ++ [48 + q % 10] := by rw [HSN.out, HYS.out, List.append_assoc]
        have hRs : R < (w1.setCell ⟨w.heap.size, 0, none⟩ (.slice (some ⟨g', 0, none⟩) (ys.length + 1) cap')).heap.size := by have := hk2.size; omega
        go_roundw
        case rel =>
          refine ⟨i + 1, by omega, by go_num, by rw [HNX.out], ?_, hKR.out.1.trans hk2, (hsR.trans hw1R).trans hKR.out.2⟩
          unfold Hid
          rw [hds]
          exact ⟨_, hv2, by rw [← vals_snoc]; simpa using hr2, hgR, hRs, by simpa using hyl, hB.trans hb2⟩
        case measure => simp [intOf]; omega
      · have hi10 : i = 9 := by omega
        subst hi10
        gi_wp2
        exact ⟨hKR.out.1, hKR.out.2, by rw [flat9_snoc]; exact hG.out⟩
  case done =>
    rintro D R xs W hD ⟨k, hk1, hk2⟩ ⟨v, hv, hrow, hvR, hRl, hdl, hB⟩ hK
    simp at hD
    have hN0 : 0 ≤ val 4294967296 zs := val_nonneg (by decide) hcan.1
    have hst := strip_decs hN0 hk2
    rw [← hk1] at hst
    obtain ⟨T, hT⟩ : ∃ T, T = decs (val 4294967296 zs) := ⟨_, rfl⟩
    rw [← hT] at hst
    have HT : Hid (T = decs (val 4294967296 zs)) := hT
    obtain ⟨y0, hy0⟩ : ∃ y0, y0 = flat9 xs := ⟨_, rfl⟩
    rw [← hy0] at hst hrow hdl
    have HI : Hid (∃ (ys : List Int) (v : Value), Boxed W w.heap.size 33 v ∧ W.ownsRow w.heap.size 5 1 v ys.length (vals .u8 ys) ∧ strip ys = T ∧ ys.length ≤ 6000 ∧ Below w.heap.size w W ∧ W.heap[D]? = some (.deferred (some []))) := ⟨y0, v, hv, hrow, hst, hdl, hB, hK⟩
    clear hv hrow hvR hRl hdl hB hK hst hy0 hk1 hk2 hN0 hT v y0 bO hB0 hz hcan hne
    gi_wp2
    gi_loopw [] (fun wr => Hid (∃ (ys : List Int) (v : Value), Boxed wr w.heap.size 33 v ∧ wr.ownsRow w.heap.size 5 1 v ys.length (vals .u8 ys) ∧ strip ys = T ∧ ys.length ≤ 6000 ∧ Below w.heap.size w wr ∧ wr.heap[D]? = some (.deferred (some [])))) (fun wr => boxL w.heap.size wr)
    case atStart => exact HI
    case round =>
      obtain ⟨ys, v, hv, hrow, hst, hdl, hB, hK⟩ := hrel.out
      clear HI hrel
      have HO : Hid (Boxed wr w.heap.size 33 v ∧ wr.ownsRow w.heap.size 5 1 v ys.length (vals .u8 ys) ∧ strip ys = T ∧ ys.length ≤ 6000 ∧ Below w.heap.size w wr ∧ wr.heap[D]? = some (.deferred (some []))) := ⟨hv, hrow, hst, hdl, hB, hK⟩
      rcases List.eq_nil_or_concat ys with rfl | ⟨zs', t, rfl⟩
      · obtain ⟨aa, cc, rfl, -, -, -⟩ := own_row hrow
        have hc := hv.cell
        clear hv hrow hst hdl hB hK
        gi_wp2
        refine ⟨by simp, .inl ⟨_, _, rfl, run_takeDeferred HO.out.2.2.2.2.2, ?_⟩⟩
        refine ⟨_, results_tmp rfl _ _ _, _, rfl, ?_, HO.out.2.2.2.2.1.trans (belowK_b (w := w) (Nat.le_refl _) wr D _ _ (by omega) HO.out.2.2.2.2.2 rfl rfl)⟩
        rw [← HT.out, ← HO.out.2.2.1]
        exact ownsRow_putObj HO.out.2.1 _ HO.out.2.2.2.2.2 rfl
      · rw [List.concat_eq_append] at HO hrow hst hdl
        obtain ⟨g, cc, rfl, hcell, hcm, hcl⟩ := own_lastY hrow
        have hc := hv.cell
        have hf := hv.frozen
        unfold maxLen at hcm
        have hz1 : (zs'.length : Int) < (zs'.length : Int) + 1 := by omega
        have hdl2 : zs'.length + 1 ≤ 6000 := by simpa using hdl
        rw [strip_snoc] at hst
        by_cases ht : t = 48
        · subst ht
          rw [if_pos rfl] at hst
          have HS : Hid (strip zs' = T) := hst
          have hbx : boxL w.heap.size wr = zs'.length + 1 := by unfold boxL; rw [hc]
          have HBX : Hid (boxL w.heap.size wr = zs'.length + 1) := hbx
          clear hv hrow hst hdl hB hK hbx
          gi_wp2
          have hv2 := HO.out.1.set (.slice (some ⟨g, 0, none⟩) zs'.length cc)
          have el : (zs' ++ [(48 : Int)]).length = zs'.length + 1 := by simp
          have hrow2 := HO.out.2.1
          rw [el] at hrow2
          have hrow3 := own_shorter (t := 48) (by rw [el]; exact hrow2)
          have hrow4 := hrow3.kept (grownBy_setCell' wr w.heap.size (.slice (some ⟨g, 0, none⟩) zs'.length cc)) (.inr (HO.out.1.not_row (by decide) hrow3).symm)
          go_roundw
          case rel => exact ⟨zs', _, hv2, hrow4, HS.out, by omega, HO.out.2.2.2.2.1.setCell (p := ⟨w.heap.size, 0, none⟩) (Nat.le_refl _) _, (Below.heap_setCell _ _ _ D (by simp; omega)).trans HO.out.2.2.2.2.2⟩
          case measure =>
            have e1 : boxL w.heap.size (wr.setCell ⟨w.heap.size, 0, none⟩ (.slice (some ⟨g, 0, none⟩) zs'.length cc)) = zs'.length := by
              unfold boxL
              rw [hv2.cell]
            have e2 := HBX.out
            omega
        · rw [if_neg ht] at hst
          have HS : Hid (zs' ++ [t] = T) := hst
          have htb : (t == 48) = false := by rw [beq_eq_false_iff_ne]; exact ht
          clear hv hrow hst hdl hB hK
          gi_wp2
          refine ⟨by simp, .inl ⟨_, _, rfl, run_takeDeferred HO.out.2.2.2.2.2, ?_⟩⟩
          refine ⟨_, results_tmp rfl _ _ _, _, rfl, ?_, HO.out.2.2.2.2.1.trans (belowK_b (w := w) (Nat.le_refl _) wr D _ _ (by omega) HO.out.2.2.2.2.2 rfl rfl)⟩
          rw [← HT.out, ← HS.out]
          exact ownsRow_putObj HO.out.2.1 _ HO.out.2.2.2.2.2 rfl
/-- The program's digits, the last first. -/
theorem lastD_any (b off c : Nat) (zs : List Int) (w : World) (hz : RowAt .u32 w (some ⟨b, off, none⟩) zs) (hl : zs.length ≤ 512) (hne : zs ≠ []) (hcan : Canon 4294967296 zs) :
    Calls Try.prog 47 #[.slice (some ⟨b, off, none⟩) zs.length c] w fun e W' => ∃ v, e = .returned v ∧ W'.ownsRow w.heap.size 5 1 v (decs (val 4294967296 zs)).length (vals .u8 (decs (val 4294967296 zs))) ∧ Below w.heap.size w W' :=
  (callsIn_wide (n := 9)).1 (lastD_in b off c zs w hz hl hne hcan)

end Go.Proofs.Ytlbegmepmeimkab
