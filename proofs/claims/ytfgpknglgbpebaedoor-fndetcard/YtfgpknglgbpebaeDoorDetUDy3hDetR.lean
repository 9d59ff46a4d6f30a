/-
  What the law of FnDet uses besides: a drawn float, copies, a list of nine.
-/
import Derived.Test.YtfgpknglgbpebaeDoorDrawJ
import Derived.Test.YtfgpknglgbpebaeDoorCopy
import Derived.Test.YtfgpknglgbpebaeDoorDyN2ToDetT
import Derived.Test.YtfgpknglgbpebaeDoorDy1
import Derived.Deep.CutRange
namespace Go.Proofs.YtfgpknglgbpebaeDoor
open Go.RowKit

/-- 'append(nil, s...)' of a slice of numbers. -/
theorem appNilW {k : IntKind} {bytes : Nat} {w0 : World} {ops : Array Oper} {rest : List Oper} {o : Oper} {ac : Act} {Q : Exit → Act → World → Prop} (hgd : o.guard = none) (s x : Operand) (t : TypeId)
    (ho : o.op = .call { callee := .builtin .append, args := #[s, x], argTypes := #[t, t] })
    (e : TypeId) (ht : Tryd.prog.underlying t = some (.slice e)) (hinfo : (Tryd.prog.info? e).map (fun i => (i.zero, i.size, i.bytes)) = some (some (.int k 0), 1, bytes)) (hby : bytes ≤ 8)
    (a : Option Addr) (c : Nat) (zs : List Int) (hs : ac.eval s = .slice none 0 0) (hx : ac.eval x = .slice a zs.length c) (hn : zs.length ≤ 8388608) (hr : RowAt k w0 a zs)
    (h : ∀ a' c' w', w'.ownsRow w0.heap.size e 1 (.slice a' zs.length c') zs.length (vals k zs) → Below w0.heap.size w0 w' → wpList Tryd.prog ops Q rest (ac.put o.dst (.slice a' zs.length c')) w') :
    wpList Tryd.prog ops Q (o :: rest) ac w0 := by
  obtain ⟨i0, hi, hz0, hz1, hz2⟩ := info_parts hinfo
  cases a with
  | none =>
    have hz : zs = [] := by
      rcases hr with h | ⟨_, _, h, _⟩
      · exact h
      · cases h
    subst hz
    have hrun : (Builtin.append_ #[t, t] o.type #[.slice none 0 0, .slice none 0 c]).run Tryd.prog w0 = .ok (.slice none 0 0) w0 := by
      simp [Builtin.append_, run_underlying ht, sizeOf, typeInfo, hi, Builtin.lenOf, Builtin.firstCells]
    refine wpList_plain hgd fun _ hK => ?_
    unfold Oper.wp execOp
    simp only [ho, resolve, invoke, builtin, Sem.run_bind, Sem.run_pure, Result.andThen_ok, List.map_toArray, List.map_cons, List.map_nil, hs, hx, List.length_nil, hrun]
    exact hK _ _ (h none 0 w0 (own_nil _ _ _ _) (Below.refl _ _))
  | some ad =>
    have hb1 : zs.length * bytes ≤ zs.length * 8 := Nat.mul_le_mul_left _ hby
    refine wpList_append_own w0 hgd s x t ho w0.heap.size e i0 (.int k 0) 1 bytes ht hi hz0 hz1 hz2 rfl (by decide) (.slice none 0 0) 0 [] hs (own_nil w0 w0.heap.size e k) ad zs.length c (vals k zs) hx (by simp [vals]) ?_ ?_ ?_ ?_ (Nat.le_refl _) ?_
    · intro j u hj
      have hjl : j < zs.length := by
        by_cases hp : j < zs.length
        · exact hp
        · rw [List.getElem?_eq_none (by rw [vals_length]; omega)] at hj; cases hj
      rcases hr with hr | ⟨b, off, h1, h2, h3⟩
      · rw [hr] at hjl; simp at hjl
      · have e1 := Option.some.inj h1
        subst e1
        have hu : u = .int k (zs.getD j 0) := by
          simp [vals, hjl] at hj
          rw [← hj, List.getD_eq_getElem?_getD, List.getElem?_eq_getElem hjl]
          rfl
        rw [hu]
        have h4 := h3 j hjl
        by_cases e : j = 0
        · subst e; simpa [Addr.add] using h4
        · simpa [Addr.add, e] using h4
    · intro u hu
      simp [vals] at hu
      obtain ⟨z, _, rfl⟩ := hu
      rfl
    · unfold maxLen; omega
    · rw [Nat.zero_add]; omega
    · intro v' w' hown hgrow _
      rw [Nat.zero_add, List.nil_append] at hown
      obtain ⟨a', c', rfl⟩ : ∃ a' c', v' = .slice a' zs.length c' := by
        rcases hown.2 with ⟨h1, h2⟩ | ⟨g, cap, cur, h1, _⟩
        · rw [h2]; exact ⟨_, _, h1⟩
        · exact ⟨_, _, h1⟩
      refine h a' c' w' hown ?_
      exact ⟨hgrow.os, hgrow.tape, hgrow.output, hgrow.size, fun k hk => hgrow.block k hk (by simp [Value.ownBlock])⟩

set_option maxHeartbeats 2000000 in
theorem copyW_any (g : Bool) (a : Option Addr) (c : Nat) (zs : List Int) (w : World) (hn : zs.length ≤ 1000000) (hz : RowAt .u32 w a zs) :
    Calls Tryd.prog 12 #[.agg #[.bool g, .slice a zs.length c]] w fun e w' => CopyOut w g zs e w' := by
  have B0 : Hid (∀ t t', Bx1 w (.bool g) (.slice a zs.length c) ((w.alloc (.cells #[.bool g, .slice a zs.length c] t)).alloc (.cells #[.bool false, .slice none 0 0] t'))) := fun t t' => Bx1.start w _ _ _ _
  have HZ : Hid (∀ t t', RowAt .u32 ((w.alloc (.cells #[.bool g, .slice a zs.length c] t)).alloc (.cells #[.bool false, .slice none 0 0] t')) a zs) := fun t t' => hz.later (bel2 _ _ _)
  go_enter Tryd.func12, Tryd.ntmps12
  go_wp2_with (at_builtin; refine appNilW rfl (.tmp 4) (.tmp 6) 25 rfl 33 Tryd.underlying25 Tryd.info33 (by decide) a c zs rfl rfl (by omega) (HZ.out _ _) ?_; intro a1 c1 w1 hown1 hb1; have F1 := (B0.out _ _).later hb1; have s0 := F1.q0; have r1 := F1.r1; have r2 := F1.r2; have r3 := F1.r3)
  obtain ⟨a2, c2, e2, hcm, hsl, hrn⟩ := own_row hown1
  injection e2 with e3 e4 e5
  subst e3 e5
  refine bodyPost_ret (v := .agg #[.bool g, .slice a1 zs.length c1]) (by simp [results, Tryd.results12, go_sem, r1, r2]) rfl ?_
  simp at hrn
  refine ⟨a1, c1, rfl, hsl.fits, hcm, hsl.nil, ?_, ?_⟩
  · exact ((hrn.setLow (by simp) _).setLow (by simp) _).down (by omega)
  · exact (F1.bel.setCell (by simp) _).setCell (by simp) _

/-- A list of nine, laid at once. -/
theorem nine_row {w : World} {t : TypeId} {d0 d1 d2 d3 d4 d5 d6 d7 d8 : DV} (h0 : RowAt .u32 w d0.a d0.zs) (h1 : RowAt .u32 w d1.a d1.zs) (h2 : RowAt .u32 w d2.a d2.zs) (h3 : RowAt .u32 w d3.a d3.zs) (h4 : RowAt .u32 w d4.a d4.zs) (h5 : RowAt .u32 w d5.a d5.zs) (h6 : RowAt .u32 w d6.a d6.zs) (h7 : RowAt .u32 w d7.a d7.zs) (h8 : RowAt .u32 w d8.a d8.zs) : RowD (w.alloc (.cells #[.bool d0.g, .slice d0.a d0.zs.length d0.c, .int .i64 d0.E, .bool d1.g, .slice d1.a d1.zs.length d1.c, .int .i64 d1.E, .bool d2.g, .slice d2.a d2.zs.length d2.c, .int .i64 d2.E, .bool d3.g, .slice d3.a d3.zs.length d3.c, .int .i64 d3.E, .bool d4.g, .slice d4.a d4.zs.length d4.c, .int .i64 d4.E, .bool d5.g, .slice d5.a d5.zs.length d5.c, .int .i64 d5.E, .bool d6.g, .slice d6.a d6.zs.length d6.c, .int .i64 d6.E, .bool d7.g, .slice d7.a d7.zs.length d7.c, .int .i64 d7.E, .bool d8.g, .slice d8.a d8.zs.length d8.c, .int .i64 d8.E] t)) w.heap.size 0 [d0, d1, d2, d3, d4, d5, d6, d7, d8] := by
  have hi : ∀ i, i < [d0, d1, d2, d3, d4, d5, d6, d7, d8].length → i = 0 ∨ i = 1 ∨ i = 2 ∨ i = 3 ∨ i = 4 ∨ i = 5 ∨ i = 6 ∨ i = 7 ∨ i = 8 := by
    intro i h
    simp at h
    omega
  refine ⟨by simp, fun i h => ?_, fun i h => ?_, fun i h => ?_, fun i h => ?_⟩
  · rcases hi i h with rfl | rfl | rfl | rfl | rfl | rfl | rfl | rfl | rfl <;> simp [go_sem]
  · rcases hi i h with rfl | rfl | rfl | rfl | rfl | rfl | rfl | rfl | rfl <;> simp [go_sem]
  · rcases hi i h with rfl | rfl | rfl | rfl | rfl | rfl | rfl | rfl | rfl <;> simp [go_sem]
  · rcases hi i h with rfl | rfl | rfl | rfl | rfl | rfl | rfl | rfl | rfl
    · exact h0.later (bel0 _ _)
    · exact h1.later (bel0 _ _)
    · exact h2.later (bel0 _ _)
    · exact h3.later (bel0 _ _)
    · exact h4.later (bel0 _ _)
    · exact h5.later (bel0 _ _)
    · exact h6.later (bel0 _ _)
    · exact h7.later (bel0 _ _)
    · exact h8.later (bel0 _ _)

/-- A drawn float: its bits. -/
def OfOut (w : World) (e : Ending) (w' : World) : Prop := ∃ b : Int, e = .returned (.int .u32 b) ∧ 0 ≤ b ∧ b < 4294967296 ∧ Below w.heap.size w w'

theorem pow256 {i : Nat} {b : Int} (h : b < 256 ^ i) (hi : i < 4) : b < 16777216 := by
  rcases (show i = 0 ∨ i = 1 ∨ i = 2 ∨ i = 3 by omega) with rfl | rfl | rfl | rfl <;> simp at h <;> omega

theorem pow256_succ {i : Nat} {b v : Int} (h : b < 256 ^ i) (hv : v ≤ 255) : b * 256 + v < 256 ^ (i + 1) := by
  rw [Int.pow_succ]
  have : b + 1 ≤ 256 ^ i := h
  have h2 : (b + 1) * 256 ≤ 256 ^ i * 256 := Int.mul_le_mul_of_nonneg_right this (by decide)
  omega

set_option maxRecDepth 100000 in
set_option maxHeartbeats 4000000 in
theorem drawOf_any (a : Option Addr) (c : Nat) (bs : List Int) (w : World) (hn : bs.length ≤ 1048576) (hc : bs.length ≤ c) (hcm : c ≤ maxLen) (hnil : a = none → c = 0) (hr : RowAt .u8 w a bs) (hb : Dig 256 bs) :
    Calls Tryd.prog 7 #[.slice a bs.length c] w fun e w' => OfOut w e w' := by
  go_enter Tryd.func7, Tryd.ntmps7
  go_wp2_with fail
  refine (openF_any a c bs _ hn hc hcm hnil hr hb).mono ?_
  rintro e w1 ⟨rfl, hr1, hb1, hs1⟩
  have HB1 : Hid (Below w.heap.size w w1) := hb1
  have HR1 : Hid (Rs w.heap.size (bs.take 500) w1) := hr1
  clear hr1 hb1 hr hb hn hc hcm hnil
  go_wp2_with fail
  refine (nextF_any w.heap.size _ _ HR1.out).mono ?_
  rintro e w2 ⟨rfl, hk0, hk1, hr2, ha2⟩
  obtain ⟨rs, hrs⟩ : ∃ rs, rs = (bs.take 500).tail := ⟨_, rfl⟩
  rw [← hrs] at hr2
  obtain ⟨k, hk⟩ : ∃ k, k = (bs.take 500).headD 0 := ⟨_, rfl⟩
  rw [← hk] at hk0 hk1 ⊢
  have HR2 : Hid (Rs w.heap.size rs w2) := hr2
  have HB2 : Hid (Below w.heap.size w w2) := HB1.out.trans (ha2.below (Nat.le_refl _) (by omega))
  have hs2 : w.heap.size < w2.heap.size := hr2.lt
  have hjt : k.tmod 4 = k % 4 := Int.tmod_eq_emod_of_nonneg hk0
  clear hr2 ha2 hrs hk HR1 HB1
  by_cases hc : k % 4 = 0
  · have hc' : (k % 4 == 0) = true := by rw [beq_iff_eq]; exact hc
    clear hc
    go_wp2
    go_loopw [5, 6] (fun sb si wr => ∃ (i : Nat) (b : Int) (rs' : List Int), i ≤ 4 ∧ si = .int .i64 i ∧ sb = .int .u32 b ∧ 0 ≤ b ∧ Hid (b < 256 ^ i) ∧ Hid (Rs w.heap.size rs' wr) ∧ Hid (Below w.heap.size w wr)) (fun _ si _ => 4 - (intOf si).toNat)
    case atStart => exact ⟨0, 0, rs, by decide, rfl, rfl, by decide, (by decide : (0 : Int) < 256 ^ 0), HR2, HB2⟩
    case round =>
      obtain ⟨i, b, rs', hi, rfl, rfl, hb0, hbp, hRs, hBw⟩ := hrel
      by_cases hlt : i < 4
      · have hib : (i : Int) < 4 := by omega
        have hb24 := pow256 hbp.out hlt
        go_wp2_with fail
        refine (nextF_any w.heap.size rs' _ hRs.out).mono ?_
        rintro e w3 ⟨rfl, hv0, hv1, hr3, ha3⟩
        obtain ⟨v, hv⟩ : ∃ v, v = rs'.headD 0 := ⟨_, rfl⟩
        rw [← hv] at hv0 hv1 ⊢
        have HR3 : Hid (Rs w.heap.size rs'.tail w3) := hr3
        have HB3 : Hid (Below w.heap.size w w3) := hBw.out.trans (ha3.below (Nat.le_refl _) hBw.out.size)
        have HP : Hid (b * 256 + v < 256 ^ (i + 1)) := pow256_succ hbp.out hv1
        clear hr3 ha3 hv hRs hBw
        go_wp2
        go_roundw
        case rel => exact ⟨i + 1, b * 256 + v, rs'.tail, by omega, by go_num, by go_num, by omega, HP, HR3, HB3⟩
        case measure => simp [intOf]; omega
      · have hi4 : i = 4 := by omega
        subst hi4
        have hb32 : b < 4294967296 := hbp.out
        go_wp2
        go_ret
        exact ⟨b, rfl, hb0, hb32, hBw.out⟩
  · have hc' : (k % 4 == 0) = false := by rw [beq_eq_false_iff_ne]; exact hc
    clear hc
    go_wp2_with fail
    refine (drawBits_any w.heap.size true rs _ HR2.out).mono ?_
    rintro e w3 ⟨rfl, hB0, hB1, hr3, ha3⟩
    have HB3 : Hid (Below w.heap.size w w3) := HB2.out.trans (ha3.below (Nat.le_refl _) HB2.out.size)
    obtain ⟨B, hB⟩ : ∃ B, B = (bitsF true rs).1 := ⟨_, rfl⟩
    rw [← hB] at hB0 hB1 ⊢
    clear hr3 ha3 hB
    go_wp2
    go_ret
    exact ⟨B, rfl, hB0, hB1, HB3.out⟩

end Go.Proofs.YtfgpknglgbpebaeDoor

/-
  The parts of a valid Dyadic.
-/
namespace Go.Proofs.YtfgpknglgbpebaeDoor
open Go.RowKit

theorem validD_parts {g : Bool} {zs : List Int} {E : Int} (h : validD g zs E = true) : validB g zs = true ∧ -20000 ≤ E ∧ E ≤ 20000 := by
  unfold validD at h
  simp only [Bool.and_eq_true, decide_eq_true_eq] at h
  exact ⟨h.1, h.2.1, h.2.2⟩

end Go.Proofs.YtfgpknglgbpebaeDoor

/-
  The model's DyDet, whole.
-/
namespace Go.Proofs.YtfgpknglgbpebaeDoor
open Go.RowKit

theorem badDet_fin {w : World} {v : Int} : ∀ W, Below w.heap.size w W → OutDS w false v (.returned (.tuple #[.agg #[.bool false, .slice none 0 0, .int .i64 0], .int .i64 1])) W :=
  fun _ hW => ⟨false, [], 0, 1, none, 0, rfl, .inl ⟨rfl, rfl, rfl, rfl, rfl⟩, .inl rfl, .inl rfl, hW⟩

set_option maxRecDepth 100000 in
set_option maxHeartbeats 4000000 in
theorem detDS_bad9 (a : Option Addr) (n c : Nat) (v : Int) (w : World) (hn : n ≠ 9) :
    Calls Tryd.prog 5 #[.slice a n c] w fun e w' => OutDS w false v e w' := by
  have hni : ¬ ((n : Int) = 9) := by omega
  go_enter Tryd.func5, Tryd.ntmps5
  go_wp2_with fail
  refine bodyPost_ret (v := .tuple #[.agg #[.bool false, .slice none 0 0, .int .i64 0], .int .i64 1]) (by simp [results, Tryd.results5, go_sem]) rfl ?_
  refine badDet_fin _ ?_
  first | exact bel0 _ _ | exact (((bel0 w _).setCell (by simp) _).setCell (by simp) _).setCell (by simp) _

set_option maxRecDepth 100000 in
set_option maxHeartbeats 8000000 in
theorem detDS_any (b off c : Nat) (ds : List DV) (w : World) (hlen : ds.length = 9) (hl : ∀ d, d ∈ ds → U32 d.zs) (hl2 : ∀ d, d ∈ ds → d.zs.length ≤ 1048576) (hd : RowD w b off ds) :
    Calls Tryd.prog 5 #[.slice (some ⟨b, off, none⟩) 9 c] w fun e w' => OutDS w (ds.all DV.ok) (detK 100000 ds) e w' := by
  obtain ⟨A, hA⟩ : ∃ A : Nat, A = 56384 := ⟨_, rfl⟩
  have HA : Hid (A = 56384) := hA
  have HL : Hid (ds.length = 9) := hlen
  have HD : Hid (RowD w b off ds) := hd
  have HU : Hid (∀ d, d ∈ ds → U32 d.zs) := hl
  have HU2 : Hid (∀ d, d ∈ ds → d.zs.length ≤ 1048576) := hl2
  clear hA hlen hd hl hl2
  go_enter Tryd.func5, Tryd.ntmps5
  go_wp2
  obtain ⟨W0, hW0⟩ : ∃ W0, W0 = w.alloc (.cells #[.bool false, .slice none 0 0, .int .i64 0] 29) := ⟨_, rfl⟩
  have HB0 : Hid (AllAt W0 (w.heap.size + 1) (.slice none 0 0) [] W0) := AllAt.start _ _ _ (Below.refl _ _) (by rw [hW0]; simp)
  have r1 : W0.cell? ⟨w.heap.size, 0, none⟩ = some (.bool false) := by rw [hW0]; simp [go_sem]
  have r2 : W0.cell? ⟨w.heap.size, 1, none⟩ = some (.slice none 0 0) := by rw [hW0]; simp [go_sem]
  have r3 : W0.cell? ⟨w.heap.size, 2, none⟩ = some (.int .i64 0) := by rw [hW0]; simp [go_sem]
  have HR4 : Hid (∀ j, W0.frozen? ⟨w.heap.size, j, none⟩ = false) := by intro j; rw [hW0]; simp [go_sem]
  have HBW : Hid (Below w.heap.size w W0) := by unfold Hid; rw [hW0]; exact bel0 _ _
  rw [← hW0]
  clear hW0
  go_loopw [4, 5] (fun sv si wr => ∃ (n : Nat) (ls : List LV), n ≤ 9 ∧ ls.length = n ∧ si = .int .i64 n ∧ Hid (AllAt W0 (w.heap.size + 1) sv ls wr) ∧ Hid (NormsOf ds ls n) ∧ Hid (∀ i, i < n → Bd 20000 A (ls.getD i default).m (ls.getD i default).e) ∧ Hid (∀ i, i < n → (ds.getD i default).ok = true)) (fun _ si _ => 9 - (intOf si).toNat)
  case atStart => exact ⟨0, [], by decide, rfl, rfl, HB0, (fun i hi => absurd hi (by omega)), (fun i hi => absurd hi (by omega)), (fun i hi => absurd hi (by omega))⟩
  case round =>
    obtain ⟨n, ls, hn, hln, rfl, hAll, hNm, hBd, hOk⟩ := hrel
    clear HB0
    have hbA := hAll.out.bel
    have HWr : Hid (Below w.heap.size w wr) := HBW.out.trans (hbA.mono (by omega))
    have q1 : wr.cell? ⟨w.heap.size, 0, none⟩ = some (.bool false) := (hbA.cell (by simp)).trans r1
    have q2 : wr.cell? ⟨w.heap.size, 1, none⟩ = some (.slice none 0 0) := (hbA.cell (by simp)).trans r2
    have q3 : wr.cell? ⟨w.heap.size, 2, none⟩ = some (.int .i64 0) := (hbA.cell (by simp)).trans r3
    have q4 : ∀ j, wr.frozen? ⟨w.heap.size, j, none⟩ = false := fun j => (hbA.frozen (by simp)).trans (HR4.out j)
    have hge := hAll.out.ge
    have HLn : Hid (ls.length = n) := hln
    clear hbA r1 r2 r3 hln
    by_cases hlt : n < 9
    · have hmem : ds.getD n default ∈ ds := by rw [List.getD_eq_getElem?_getD, List.getElem?_eq_getElem (by rw [HL.out]; exact hlt)]; exact List.getElem_mem _
      have hdr := HD.out.later HWr.out
      have hnl : n < ds.length := by rw [HL.out]; exact hlt
      have hbl := hdr.lt
      have d0 := hdr.c0 n hnl
      have d1 := hdr.c1 n hnl
      have d2 := hdr.c2 n hnl
      have d3 := hdr.row n hnl
      have hU := HU.out _ hmem
      have hU2 := HU2.out _ hmem
      obtain ⟨d, hdd⟩ : ∃ d, d = ds.getD n default := ⟨_, rfl⟩
      rw [← hdd] at hmem d0 d1 d2 d3 hU hU2
      have HDD : Hid (d = ds.getD n default) := hdd
      have HM : Hid (d ∈ ds) := hmem
      have D3 : Hid (RowAt .u32 wr d.a d.zs) := d3
      have HUd : Hid (U32 d.zs) := hU
      clear hdd hmem d3 hdr hnl hU
      have hib : (n : Int) < 9 := by omega
      go_wp2_with fail
      refine (valid2S_any d.g d.a d.c d.zs d.E _ hU2 D3.out).mono ?_
      rintro e w1 ⟨rfl, hb1⟩
      have HA1 : Hid (AllAt W0 (w.heap.size + 1) u4 ls w1) := hAll.out.later hb1
      have HB1 : Hid (Below wr.heap.size wr w1) := hb1
      have hs1 := hb1.size
      have p0 : w1.cell? ⟨b, off + n * 3, none⟩ = some (.bool d.g) := by rw [(bcell hb1).1 _ _ hbl]; exact d0
      have p1 : w1.cell? ⟨b, off + n * 3 + 1, none⟩ = some (.slice d.a d.zs.length d.c) := by rw [(bcell hb1).1 _ _ hbl]; exact d1
      have p2 : w1.cell? ⟨b, off + n * 3 + 2, none⟩ = some (.int .i64 d.E) := by rw [(bcell hb1).1 _ _ hbl]; exact d2
      have s1 : w1.cell? ⟨w.heap.size, 0, none⟩ = some (.bool false) := by rw [(bcell hb1).1 _ _ (by omega)]; exact q1
      have s2 : w1.cell? ⟨w.heap.size, 1, none⟩ = some (.slice none 0 0) := by rw [(bcell hb1).1 _ _ (by omega)]; exact q2
      have s3 : w1.cell? ⟨w.heap.size, 2, none⟩ = some (.int .i64 0) := by rw [(bcell hb1).1 _ _ (by omega)]; exact q3
      have s4 : ∀ j, w1.frozen? ⟨w.heap.size, j, none⟩ = false := fun j => by rw [(bcell hb1).2 _ _ (by omega)]; exact q4 j
      clear hb1 d0 d1 d2 q1 q2 q3 q4 hAll
      cases hv : validD d.g d.zs d.E
      · have HAF : Hid (ds.all DV.ok = false) := by
          unfold Hid
          rw [List.all_eq_false]
          exact ⟨d, HM.out, by unfold DV.ok; rw [hv]; decide⟩
        clear hv HA1 hNm hBd hOk p0 p1 p2
        go_wp2
        refine bodyPost_ret (v := .tuple #[.agg #[.bool false, .slice none 0 0, .int .i64 0], .int .i64 1]) (by simp [results, Tryd.results5, go_sem, s1, s2, s3]) rfl ?_
        rw [HAF.out]
        refine badDet_fin _ ?_
        have hB := HWr.out.trans (HB1.out.mono HWr.out.size)
        first | exact hB | exact ((hB.setCell (by simp) _).setCell (by simp) _).setCell (by simp) _
      · obtain ⟨vb, v1, v2⟩ := validD_parts hv
        have HV : Hid (validD d.g d.zs d.E = true) := hv
        have hz5 : d.zs.length ≤ 512 := (valid_canon HUd.out vb).2.1
        clear hv
        go_wp2_with fail
        refine (of2_any d.g d.a d.c d.zs d.E _ (by omega) (by omega) (by omega) (D3.out.later HB1.out) HUd.out).mono ?_
        rintro e w2 ⟨m2, e2, hnf, g2, a2, c2, f2, rfl, hl2, hL2, hF2, hb2⟩
        obtain ⟨l, hl⟩ : ∃ l : LV, l = ⟨g2, a2, c2, f2, m2, e2⟩ := ⟨_, rfl⟩
        have HA2 : Hid (AllAt W0 (w.heap.size + 1) u4 ls w2) := HA1.out.later hb2
        have HLl : Hid (L1 w2 l.g l.a l.c l.fs l.m) := by unfold Hid; rw [hl]; exact hL2
        have HOl : Hid (OffV u4 l.a l.fs) := by
          unfold Hid; rw [hl]
          intro b' o' h1' h2 h3
          have h1 : a2 = some ⟨b', o', none⟩ := h1'
          have h4 := (own3_block HA1.out.own h3).1
          rcases hF2 with h | ⟨b5, o5, h5, h6⟩
          · exact h2 h
          · rw [h1] at h5
            injection h5 with h5
            have : b' = b5 := congrArg Addr.block h5
            omega
        have HBl : Hid (Bd 20000 A l.m l.e) := by
          unfold Hid; rw [hl]
          exact Bd.of_valid HA.out (HUd.out) hz5 v1 v2 hnf
        have HNl : Hid (NormOf (sg d.g (val 4294967296 d.zs)) d.E l.m l.e (32 * d.zs.length)) := by unfold Hid; rw [hl]; exact hnf
        have hnl : ls.length ≤ 1048576 := by rw [HLn.out]; omega
        rw [show g2 = l.g by rw [hl], show a2 = l.a by rw [hl], show f2.length = l.fs.length by rw [hl], show c2 = l.c by rw [hl], show e2 = l.e by rw [hl]]
        clear hl hnf hL2 hF2 hb2 hl2 HA1 HB1 hs1 p0 p1 p2 s1 s2 s3 s4
        go_wp2_with (at_builtin; refine app3 rfl (.tmp 21) (.tmp 27) rfl (w.heap.size + 1) _ ls rfl rfl HA2.out HLl.out HOl.out hnl ?_; intro a3 n3 c3 w3 hall3)
        have HA3 : Hid (AllAt W0 (w.heap.size + 1) (.slice a3 n3 c3) (ls ++ [l]) w3) := hall3
        clear hall3 HA2 HLl HOl
        go_wp2
        go_roundw
        case rel =>
          have hL' := HLn.out
          have split : ∀ i, i < n + 1 → (i < n ∧ (ls ++ [l]).getD i default = ls.getD i default) ∨ (i = n ∧ (ls ++ [l]).getD i default = l) := by
            intro i hi
            have := getD_snoc ls l i (by simp; omega)
            rw [hL'] at this
            exact this
          refine ⟨n + 1, ls ++ [l], by omega, by simp [hL'], by go_num, HA3, ?_, ?_, ?_⟩
          · intro i hi
            rcases split i hi with ⟨h1, h2⟩ | ⟨h1, h2⟩
            · rw [h2]; exact hNm.out i h1
            · rw [h2, h1, ← HDD.out]; exact ⟨_, HNl.out⟩
          · intro i hi
            rcases split i hi with ⟨h1, h2⟩ | ⟨h1, h2⟩
            · rw [h2]; exact hBd.out i h1
            · rw [h2]; exact HBl.out
          · intro i hi
            rcases split i hi with ⟨h1, h2⟩ | ⟨h1, h2⟩
            · exact hOk.out i h1
            · rw [h1, ← HDD.out]; exact HV.out
        case measure => simp [intOf]; omega
    · have hn9 : n = 9 := by omega
      subst hn9
      have HAT : Hid (ds.all DV.ok = true) := by
        unfold Hid
        rw [List.all_eq_true]
        intro x hx
        obtain ⟨i, hi, rfl⟩ := List.mem_iff_getElem.1 hx
        have h := hOk.out i (by rw [← HL.out]; exact hi)
        rw [List.getD_eq_getElem?_getD, List.getElem?_eq_getElem hi] at h
        exact h
      have HEQ : Hid (detV 100000 ls 6 = detK 100000 ds) := by
        refine det_same hNm.out fun i hi => ?_
        exact (validD_parts (hOk.out i hi)).2.1
      obtain ⟨B, cb, hu4, hBB, hRL⟩ := hAll.out.row (by intro h; have := HLn.out; rw [h] at this; cases this)
      rw [HLn.out] at hu4
      subst hu4
      have HRL : Hid (RowL wr B 0 ls) := hRL
      clear hRL hAll
      go_wp2_with fail
      refine (det2_any HA.out B 0 cb ls _ HLn.out hBd.out HRL.out).mono ?_
      rintro e w1 ⟨g1, a1, c1, f1, m1, e1, rfl, hl1, he0, he1, hK1, hL1, hF1, hb1⟩
      have HL1 : Hid (L1 w1 g1 a1 c1 f1 m1) := hL1
      have HK1 : Hid (atK 100000 m1 e1 = detK 100000 ds) := by unfold Hid; rw [hK1 100000 (by decide), HEQ.out]
      have HB1 : Hid (Below wr.heap.size wr w1) := hb1
      have hs1 := hb1.size
      clear hK1 hL1 hF1 hb1 HRL
      go_wp2_with fail
      refine (out2_any g1 a1 c1 f1 m1 e1 _ (by omega) (by omega) (by omega) HL1.out).mono ?_
      rintro e w2 ⟨G, Z, EZ, K, aw, cw, rfl, hres, hrw, hfar, hb2⟩
      have HRes : Hid (ResD true (detK 100000 ds) G Z EZ K) := by unfold Hid; rw [← HK1.out]; exact hres
      have HRw : Hid (RowAt .u32 w2 aw Z) := hrw
      have HFr : Hid (Far (w.heap.size + 1) aw Z) := hfar.down (by omega)
      have hB := HB1.out.trans (hb2.mono hs1)
      have HB2 : Hid (Below w.heap.size w w2) := HWr.out.trans (hB.mono (by omega))
      have s1 : w2.cell? ⟨w.heap.size, 0, none⟩ = some (.bool false) := by rw [(bcell hB).1 _ _ (by omega)]; exact q1
      have s2 : w2.cell? ⟨w.heap.size, 1, none⟩ = some (.slice none 0 0) := by rw [(bcell hB).1 _ _ (by omega)]; exact q2
      have s3 : w2.cell? ⟨w.heap.size, 2, none⟩ = some (.int .i64 0) := by rw [(bcell hB).1 _ _ (by omega)]; exact q3
      have s4 : ∀ j, w2.frozen? ⟨w.heap.size, j, none⟩ = false := fun j => by rw [(bcell hB).2 _ _ (by omega)]; exact q4 j
      clear hB hres hrw hfar hb2 q1 q2 q3 q4
      go_wp2
      refine bodyPost_ret (v := .tuple #[.agg #[.bool G, .slice aw Z.length cw, .int .i64 EZ], .int .i64 K]) (by simp [results, Tryd.results5, go_sem, s1, s2, s3]) rfl ?_
      rw [HAT.out]
      refine ⟨G, Z, EZ, K, aw, cw, rfl, HRes.out, ?_, HFr.out.down (by omega), ?_⟩
      · exact ((HRw.out.setAway (HFr.out.away (by simp)) _).setAway (HFr.out.away (by simp)) _).setAway (HFr.out.away (by simp)) _
      · exact ((HB2.out.setCell (by simp) _).setCell (by simp) _).setCell (by simp) _

end Go.Proofs.YtfgpknglgbpebaeDoor
