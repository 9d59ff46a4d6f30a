/-
  What the law of FnDet uses besides: a drawn float, copies, a list of nine.
-/
import Derived.Test.YtladfpljnaippabDoorDrawJ
import Derived.Test.YtladfpljnaippabDoorDrawOToDetO
import Derived.Test.YtladfpljnaippabDoorCopy
import Derived.Test.YtladfpljnaippabDoorDyN2ToDetT
import Derived.Test.YtladfpljnaippabDoorDy1
import Derived.Deep.CutRange
import Derived.Test.YtladfpljnaippabDoorImplC0
import Derived.Test.YtladfpljnaippabDoorRes
import Derived.Test.YtladfpljnaippabDoorImplB
import Derived.Test.YtladfpljnaippabDoorDetPGrow3FactsDetFDyI4a
namespace Go.Proofs.YtladfpljnaippabDoor
open Go.RowKit

/-- 'append(nil, s...)' of a slice of numbers. -/
theorem appNilW {k : IntKind} {bytes : Nat} {w0 : World} {ops : Array Oper} {rest : List Oper} {o : Oper} {ac : Act} {Q : Exit → Act → World → Prop} (hgd : o.guard = none) (s x : Operand) (t : TypeId)
    (ho : o.op = .call { callee := .builtin .append, args := #[s, x], argTypes := #[t, t] })
    (e : TypeId) (ht : Tryd.prog.underlying t = some (.slice e)) (hinfo : (Tryd.prog.info? e).map (fun i => (i.zero, i.size, i.bytes)) = some (some (.int k 0), 1, bytes)) (hby : bytes ≤ 8)
    (a : Option Addr) (c : Nat) (zs : List Int) (hs : ac.eval s = .slice none 0 0) (hx : ac.eval x = .slice a zs.length c) (hn : zs.length ≤ 8388608) (hr : RowAt k w0 a zs)
    (h : ∀ a' c' w', w'.ownsRow w0.heap.size e 1 (.slice a' zs.length c') zs.length (vals k zs) → Below w0.heap.size w0 w' → wpList Tryd.prog ops Q rest (ac.put o.dst (.slice a' zs.length c')) w') :
    wpList Tryd.prog ops Q (o :: rest) ac w0 := by
  obtain ⟨i0, hi, hz0, hz1, hz2⟩ := info_parts hinfo
  cases a with
  | none =>
    have hz : zs = [] := by
      rcases hr with h | ⟨_, _, h, _⟩
      · exact h
      · cases h
    subst hz
    have hrun : (Builtin.append_ #[t, t] o.type #[.slice none 0 0, .slice none 0 c]).run Tryd.prog w0 = .ok (.slice none 0 0) w0 := by
      simp [Builtin.append_, run_underlying ht, sizeOf, typeInfo, hi, Builtin.lenOf, Builtin.firstCells]
    refine wpList_plain hgd fun _ hK => ?_
    unfold Oper.wp execOp
    simp only [ho, resolve, invoke, builtin, Sem.run_bind, Sem.run_pure, Result.andThen_ok, List.map_toArray, List.map_cons, List.map_nil, hs, hx, List.length_nil, hrun]
    exact hK _ _ (h none 0 w0 (own_nil _ _ _ _) (Below.refl _ _))
  | some ad =>
    have hb1 : zs.length * bytes ≤ zs.length * 8 := Nat.mul_le_mul_left _ hby
    refine wpList_append_own w0 hgd s x t ho w0.heap.size e i0 (.int k 0) 1 bytes ht hi hz0 hz1 hz2 rfl (by decide) (.slice none 0 0) 0 [] hs (own_nil w0 w0.heap.size e k) ad zs.length c (vals k zs) hx (by simp [vals]) ?_ ?_ ?_ ?_ (Nat.le_refl _) ?_
    · intro j u hj
      have hjl : j < zs.length := by
        by_cases hp : j < zs.length
        · exact hp
        · rw [List.getElem?_eq_none (by rw [vals_length]; omega)] at hj; cases hj
      rcases hr with hr | ⟨b, off, h1, h2, h3⟩
      · rw [hr] at hjl; simp at hjl
      · have e1 := Option.some.inj h1
        subst e1
        have hu : u = .int k (zs.getD j 0) := by
          simp [vals, hjl] at hj
          rw [← hj, List.getD_eq_getElem?_getD, List.getElem?_eq_getElem hjl]
          rfl
        rw [hu]
        have h4 := h3 j hjl
        by_cases e : j = 0
        · subst e; simpa [Addr.add] using h4
        · simpa [Addr.add, e] using h4
    · intro u hu
      simp [vals] at hu
      obtain ⟨z, _, rfl⟩ := hu
      rfl
    · unfold maxLen; omega
    · rw [Nat.zero_add]; omega
    · intro v' w' hown hgrow _
      rw [Nat.zero_add, List.nil_append] at hown
      obtain ⟨a', c', rfl⟩ : ∃ a' c', v' = .slice a' zs.length c' := by
        rcases hown.2 with ⟨h1, h2⟩ | ⟨g, cap, cur, h1, _⟩
        · rw [h2]; exact ⟨_, _, h1⟩
        · exact ⟨_, _, h1⟩
      refine h a' c' w' hown ?_
      exact ⟨hgrow.os, hgrow.tape, hgrow.output, hgrow.size, fun k hk => hgrow.block k hk (by simp [Value.ownBlock])⟩

set_option maxHeartbeats 2000000 in
theorem copyW_any (g : Bool) (a : Option Addr) (c : Nat) (zs : List Int) (w : World) (hn : zs.length ≤ 1000000) (hz : RowAt .u32 w a zs) :
    Calls Tryd.prog 14 #[.agg #[.bool g, .slice a zs.length c]] w fun e w' => CopyOut w g zs e w' := by
  have B0 : Hid (∀ t t', Bx1 w (.bool g) (.slice a zs.length c) ((w.alloc (.cells #[.bool g, .slice a zs.length c] t)).alloc (.cells #[.bool false, .slice none 0 0] t'))) := fun t t' => Bx1.start w _ _ _ _
  have HZ : Hid (∀ t t', RowAt .u32 ((w.alloc (.cells #[.bool g, .slice a zs.length c] t)).alloc (.cells #[.bool false, .slice none 0 0] t')) a zs) := fun t t' => hz.later (bel2 _ _ _)
  go_enter Tryd.func14, Tryd.ntmps14
  go_wp2_with (at_builtin; refine appNilW rfl (.tmp 4) (.tmp 6) 25 rfl 33 Tryd.underlying25 Tryd.info33 (by decide) a c zs rfl rfl (by omega) (HZ.out _ _) ?_; intro a1 c1 w1 hown1 hb1; have F1 := (B0.out _ _).later hb1; have s0 := F1.q0; have r1 := F1.r1; have r2 := F1.r2; have r3 := F1.r3)
  obtain ⟨a2, c2, e2, hcm, hsl, hrn⟩ := own_row hown1
  injection e2 with e3 e4 e5
  subst e3 e5
  refine bodyPost_ret (v := .agg #[.bool g, .slice a1 zs.length c1]) (by simp [results, Tryd.results14, go_sem, r1, r2]) rfl ?_
  simp at hrn
  refine ⟨a1, c1, rfl, hsl.fits, hcm, hsl.nil, ?_, ?_⟩
  · exact ((hrn.setLow (by simp) _).setLow (by simp) _).down (by omega)
  · exact (F1.bel.setCell (by simp) _).setCell (by simp) _

/-- A list of nine, laid at once. -/
theorem nine_row {w : World} {t : TypeId} {d0 d1 d2 d3 d4 d5 d6 d7 d8 : DV} (h0 : RowAt .u32 w d0.a d0.zs) (h1 : RowAt .u32 w d1.a d1.zs) (h2 : RowAt .u32 w d2.a d2.zs) (h3 : RowAt .u32 w d3.a d3.zs) (h4 : RowAt .u32 w d4.a d4.zs) (h5 : RowAt .u32 w d5.a d5.zs) (h6 : RowAt .u32 w d6.a d6.zs) (h7 : RowAt .u32 w d7.a d7.zs) (h8 : RowAt .u32 w d8.a d8.zs) : RowD (w.alloc (.cells #[.bool d0.g, .slice d0.a d0.zs.length d0.c, .int .i64 d0.E, .bool d1.g, .slice d1.a d1.zs.length d1.c, .int .i64 d1.E, .bool d2.g, .slice d2.a d2.zs.length d2.c, .int .i64 d2.E, .bool d3.g, .slice d3.a d3.zs.length d3.c, .int .i64 d3.E, .bool d4.g, .slice d4.a d4.zs.length d4.c, .int .i64 d4.E, .bool d5.g, .slice d5.a d5.zs.length d5.c, .int .i64 d5.E, .bool d6.g, .slice d6.a d6.zs.length d6.c, .int .i64 d6.E, .bool d7.g, .slice d7.a d7.zs.length d7.c, .int .i64 d7.E, .bool d8.g, .slice d8.a d8.zs.length d8.c, .int .i64 d8.E] t)) w.heap.size 0 [d0, d1, d2, d3, d4, d5, d6, d7, d8] := by
  have hi : ∀ i, i < [d0, d1, d2, d3, d4, d5, d6, d7, d8].length → i = 0 ∨ i = 1 ∨ i = 2 ∨ i = 3 ∨ i = 4 ∨ i = 5 ∨ i = 6 ∨ i = 7 ∨ i = 8 := by
    intro i h
    simp at h
    omega
  refine ⟨by simp, fun i h => ?_, fun i h => ?_, fun i h => ?_, fun i h => ?_⟩
  · rcases hi i h with rfl | rfl | rfl | rfl | rfl | rfl | rfl | rfl | rfl <;> simp [go_sem]
  · rcases hi i h with rfl | rfl | rfl | rfl | rfl | rfl | rfl | rfl | rfl <;> simp [go_sem]
  · rcases hi i h with rfl | rfl | rfl | rfl | rfl | rfl | rfl | rfl | rfl <;> simp [go_sem]
  · rcases hi i h with rfl | rfl | rfl | rfl | rfl | rfl | rfl | rfl | rfl
    · exact h0.later (bel0 _ _)
    · exact h1.later (bel0 _ _)
    · exact h2.later (bel0 _ _)
    · exact h3.later (bel0 _ _)
    · exact h4.later (bel0 _ _)
    · exact h5.later (bel0 _ _)
    · exact h6.later (bel0 _ _)
    · exact h7.later (bel0 _ _)
    · exact h8.later (bel0 _ _)

end Go.Proofs.YtladfpljnaippabDoor

/-
  The parts of a valid Dyadic.
-/
namespace Go.Proofs.YtladfpljnaippabDoor
open Go.RowKit

theorem validD_parts {g : Bool} {zs : List Int} {E : Int} (h : validD g zs E = true) : validB g zs = true ∧ -20000 ≤ E ∧ E ≤ 20000 := by
  unfold validD at h
  simp only [Bool.and_eq_true, decide_eq_true_eq] at h
  exact ⟨h.1, h.2.1, h.2.2⟩

end Go.Proofs.YtladfpljnaippabDoor

/-
  The model's DyDet, whole.
-/
namespace Go.Proofs.YtladfpljnaippabDoor
open Go.RowKit

theorem badDet_fin {w : World} {v : Int} : ∀ W, Below w.heap.size w W → OutDS w false v (.returned (.tuple #[.agg #[.bool false, .slice none 0 0, .int .i64 0], .int .i64 1])) W :=
  fun _ hW => ⟨false, [], 0, 1, none, 0, rfl, .inl ⟨rfl, rfl, rfl, rfl, rfl⟩, .inl rfl, .inl rfl, hW⟩

set_option maxRecDepth 100000 in
set_option maxHeartbeats 4000000 in
theorem detDS_bad9 (a : Option Addr) (n c : Nat) (v : Int) (w : World) (hn : n ≠ 9) :
    Calls Tryd.prog 7 #[.slice a n c] w fun e w' => OutDS w false v e w' := by
  have hni : ¬ ((n : Int) = 9) := by omega
  go_enter Tryd.func7, Tryd.ntmps7
  go_wp2_with fail
  refine bodyPost_ret (v := .tuple #[.agg #[.bool false, .slice none 0 0, .int .i64 0], .int .i64 1]) (by simp [results, Tryd.results7, go_sem]) rfl ?_
  refine badDet_fin _ ?_
  first | exact bel0 _ _ | exact (((bel0 w _).setCell (by simp) _).setCell (by simp) _).setCell (by simp) _

set_option maxRecDepth 100000 in
set_option maxHeartbeats 8000000 in
theorem detDS_any (b off c : Nat) (ds : List DV) (w : World) (hlen : ds.length = 9) (hl : ∀ d, d ∈ ds → U32 d.zs) (hl2 : ∀ d, d ∈ ds → d.zs.length ≤ 1048576) (hd : RowD w b off ds) :
    Calls Tryd.prog 7 #[.slice (some ⟨b, off, none⟩) 9 c] w fun e w' => OutDS w (ds.all DV.ok) (detK 100000 ds) e w' := by
  obtain ⟨A, hA⟩ : ∃ A : Nat, A = 56384 := ⟨_, rfl⟩
  have HA : Hid (A = 56384) := hA
  have HL : Hid (ds.length = 9) := hlen
  have HD : Hid (RowD w b off ds) := hd
  have HU : Hid (∀ d, d ∈ ds → U32 d.zs) := hl
  have HU2 : Hid (∀ d, d ∈ ds → d.zs.length ≤ 1048576) := hl2
  clear hA hlen hd hl hl2
  go_enter Tryd.func7, Tryd.ntmps7
  go_wp2
  obtain ⟨W0, hW0⟩ : ∃ W0, W0 = w.alloc (.cells #[.bool false, .slice none 0 0, .int .i64 0] 29) := ⟨_, rfl⟩
  have HB0 : Hid (AllAt W0 (w.heap.size + 1) (.slice none 0 0) [] W0) := AllAt.start _ _ _ (Below.refl _ _) (by rw [hW0]; simp)
  have r1 : W0.cell? ⟨w.heap.size, 0, none⟩ = some (.bool false) := by rw [hW0]; simp [go_sem]
  have r2 : W0.cell? ⟨w.heap.size, 1, none⟩ = some (.slice none 0 0) := by rw [hW0]; simp [go_sem]
  have r3 : W0.cell? ⟨w.heap.size, 2, none⟩ = some (.int .i64 0) := by rw [hW0]; simp [go_sem]
  have HR4 : Hid (∀ j, W0.frozen? ⟨w.heap.size, j, none⟩ = false) := by intro j; rw [hW0]; simp [go_sem]
  have HBW : Hid (Below w.heap.size w W0) := by unfold Hid; rw [hW0]; exact bel0 _ _
  rw [← hW0]
  clear hW0
  go_loopw [4, 5] (fun sv si wr => ∃ (n : Nat) (ls : List LV), n ≤ 9 ∧ ls.length = n ∧ si = .int .i64 n ∧ Hid (AllAt W0 (w.heap.size + 1) sv ls wr) ∧ Hid (NormsOf ds ls n) ∧ Hid (∀ i, i < n → Bd 20000 A (ls.getD i default).m (ls.getD i default).e) ∧ Hid (∀ i, i < n → (ds.getD i default).ok = true)) (fun _ si _ => 9 - (intOf si).toNat)
  case atStart => exact ⟨0, [], by decide, rfl, rfl, HB0, (fun i hi => absurd hi (by omega)), (fun i hi => absurd hi (by omega)), (fun i hi => absurd hi (by omega))⟩
  case round =>
    obtain ⟨n, ls, hn, hln, rfl, hAll, hNm, hBd, hOk⟩ := hrel
    clear HB0
    have hbA := hAll.out.bel
    have HWr : Hid (Below w.heap.size w wr) := HBW.out.trans (hbA.mono (by omega))
    have q1 : wr.cell? ⟨w.heap.size, 0, none⟩ = some (.bool false) := (hbA.cell (by simp)).trans r1
    have q2 : wr.cell? ⟨w.heap.size, 1, none⟩ = some (.slice none 0 0) := (hbA.cell (by simp)).trans r2
    have q3 : wr.cell? ⟨w.heap.size, 2, none⟩ = some (.int .i64 0) := (hbA.cell (by simp)).trans r3
    have q4 : ∀ j, wr.frozen? ⟨w.heap.size, j, none⟩ = false := fun j => (hbA.frozen (by simp)).trans (HR4.out j)
    have hge := hAll.out.ge
    have HLn : Hid (ls.length = n) := hln
    clear hbA r1 r2 r3 hln
    by_cases hlt : n < 9
    · have hmem : ds.getD n default ∈ ds := by rw [List.getD_eq_getElem?_getD, List.getElem?_eq_getElem (by rw [HL.out]; exact hlt)]; exact List.getElem_mem _
      have hdr := HD.out.later HWr.out
      have hnl : n < ds.length := by rw [HL.out]; exact hlt
      have hbl := hdr.lt
      have d0 := hdr.c0 n hnl
      have d1 := hdr.c1 n hnl
      have d2 := hdr.c2 n hnl
      have d3 := hdr.row n hnl
      have hU := HU.out _ hmem
      have hU2 := HU2.out _ hmem
      obtain ⟨d, hdd⟩ : ∃ d, d = ds.getD n default := ⟨_, rfl⟩
      rw [← hdd] at hmem d0 d1 d2 d3 hU hU2
      have HDD : Hid (d = ds.getD n default) := hdd
      have HM : Hid (d ∈ ds) := hmem
      have D3 : Hid (RowAt .u32 wr d.a d.zs) := d3
      have HUd : Hid (U32 d.zs) := hU
      clear hdd hmem d3 hdr hnl hU
      have hib : (n : Int) < 9 := by omega
      go_wp2_with fail
      refine (valid2S_any d.g d.a d.c d.zs d.E _ hU2 D3.out).mono ?_
      rintro e w1 ⟨rfl, hb1⟩
      have HA1 : Hid (AllAt W0 (w.heap.size + 1) u4 ls w1) := hAll.out.later hb1
      have HB1 : Hid (Below wr.heap.size wr w1) := hb1
      have hs1 := hb1.size
      have p0 : w1.cell? ⟨b, off + n * 3, none⟩ = some (.bool d.g) := by rw [(bcell hb1).1 _ _ hbl]; exact d0
      have p1 : w1.cell? ⟨b, off + n * 3 + 1, none⟩ = some (.slice d.a d.zs.length d.c) := by rw [(bcell hb1).1 _ _ hbl]; exact d1
      have p2 : w1.cell? ⟨b, off + n * 3 + 2, none⟩ = some (.int .i64 d.E) := by rw [(bcell hb1).1 _ _ hbl]; exact d2
      have s1 : w1.cell? ⟨w.heap.size, 0, none⟩ = some (.bool false) := by rw [(bcell hb1).1 _ _ (by omega)]; exact q1
      have s2 : w1.cell? ⟨w.heap.size, 1, none⟩ = some (.slice none 0 0) := by rw [(bcell hb1).1 _ _ (by omega)]; exact q2
      have s3 : w1.cell? ⟨w.heap.size, 2, none⟩ = some (.int .i64 0) := by rw [(bcell hb1).1 _ _ (by omega)]; exact q3
      have s4 : ∀ j, w1.frozen? ⟨w.heap.size, j, none⟩ = false := fun j => by rw [(bcell hb1).2 _ _ (by omega)]; exact q4 j
      clear hb1 d0 d1 d2 q1 q2 q3 q4 hAll
      cases hv : validD d.g d.zs d.E
      · have HAF : Hid (ds.all DV.ok = false) := by
          unfold Hid
          rw [List.all_eq_false]
          exact ⟨d, HM.out, by unfold DV.ok; rw [hv]; decide⟩
        clear hv HA1 hNm hBd hOk p0 p1 p2
        go_wp2
        refine bodyPost_ret (v := .tuple #[.agg #[.bool false, .slice none 0 0, .int .i64 0], .int .i64 1]) (by simp [results, Tryd.results7, go_sem, s1, s2, s3]) rfl ?_
        rw [HAF.out]
        refine badDet_fin _ ?_
        have hB := HWr.out.trans (HB1.out.mono HWr.out.size)
        first | exact hB | exact ((hB.setCell (by simp) _).setCell (by simp) _).setCell (by simp) _
      · obtain ⟨vb, v1, v2⟩ := validD_parts hv
        have HV : Hid (validD d.g d.zs d.E = true) := hv
        have hz5 : d.zs.length ≤ 512 := (valid_canon HUd.out vb).2.1
        clear hv
        go_wp2_with fail
        refine (of2_any d.g d.a d.c d.zs d.E _ (by omega) (by omega) (by omega) (D3.out.later HB1.out) HUd.out).mono ?_
        rintro e w2 ⟨m2, e2, hnf, g2, a2, c2, f2, rfl, hl2, hL2, hF2, hb2⟩
        obtain ⟨l, hl⟩ : ∃ l : LV, l = ⟨g2, a2, c2, f2, m2, e2⟩ := ⟨_, rfl⟩
        have HA2 : Hid (AllAt W0 (w.heap.size + 1) u4 ls w2) := HA1.out.later hb2
        have HLl : Hid (L1 w2 l.g l.a l.c l.fs l.m) := by unfold Hid; rw [hl]; exact hL2
        have HOl : Hid (OffV u4 l.a l.fs) := by
          unfold Hid; rw [hl]
          intro b' o' h1' h2 h3
          have h1 : a2 = some ⟨b', o', none⟩ := h1'
          have h4 := (own3_block HA1.out.own h3).1
          rcases hF2 with h | ⟨b5, o5, h5, h6⟩
          · exact h2 h
          · rw [h1] at h5
            injection h5 with h5
            have : b' = b5 := congrArg Addr.block h5
            omega
        have HBl : Hid (Bd 20000 A l.m l.e) := by
          unfold Hid; rw [hl]
          exact Bd.of_valid HA.out (HUd.out) hz5 v1 v2 hnf
        have HNl : Hid (NormOf (sg d.g (val 4294967296 d.zs)) d.E l.m l.e (32 * d.zs.length)) := by unfold Hid; rw [hl]; exact hnf
        have hnl : ls.length ≤ 1048576 := by rw [HLn.out]; omega
        rw [show g2 = l.g by rw [hl], show a2 = l.a by rw [hl], show f2.length = l.fs.length by rw [hl], show c2 = l.c by rw [hl], show e2 = l.e by rw [hl]]
        clear hl hnf hL2 hF2 hb2 hl2 HA1 HB1 hs1 p0 p1 p2 s1 s2 s3 s4
        go_wp2_with (at_builtin; refine app3 rfl (.tmp 21) (.tmp 27) rfl (w.heap.size + 1) _ ls rfl rfl HA2.out HLl.out HOl.out hnl ?_; intro a3 n3 c3 w3 hall3)
        have HA3 : Hid (AllAt W0 (w.heap.size + 1) (.slice a3 n3 c3) (ls ++ [l]) w3) := hall3
        clear hall3 HA2 HLl HOl
        go_wp2
        go_roundw
        case rel =>
          have hL' := HLn.out
          have split : ∀ i, i < n + 1 → (i < n ∧ (ls ++ [l]).getD i default = ls.getD i default) ∨ (i = n ∧ (ls ++ [l]).getD i default = l) := by
            intro i hi
            have := getD_snoc ls l i (by simp; omega)
            rw [hL'] at this
            exact this
          refine ⟨n + 1, ls ++ [l], by omega, by simp [hL'], by go_num, HA3, ?_, ?_, ?_⟩
          · intro i hi
            rcases split i hi with ⟨h1, h2⟩ | ⟨h1, h2⟩
            · rw [h2]; exact hNm.out i h1
            · rw [h2, h1, ← HDD.out]; exact ⟨_, HNl.out⟩
          · intro i hi
            rcases split i hi with ⟨h1, h2⟩ | ⟨h1, h2⟩
            · rw [h2]; exact hBd.out i h1
            · rw [h2]; exact HBl.out
          · intro i hi
            rcases split i hi with ⟨h1, h2⟩ | ⟨h1, h2⟩
            · exact hOk.out i h1
            · rw [h1, ← HDD.out]; exact HV.out
        case measure => simp [intOf]; omega
    · have hn9 : n = 9 := by omega
      subst hn9
      have HAT : Hid (ds.all DV.ok = true) := by
        unfold Hid
        rw [List.all_eq_true]
        intro x hx
        obtain ⟨i, hi, rfl⟩ := List.mem_iff_getElem.1 hx
        have h := hOk.out i (by rw [← HL.out]; exact hi)
        rw [List.getD_eq_getElem?_getD, List.getElem?_eq_getElem hi] at h
        exact h
      have HEQ : Hid (detV 100000 ls 6 = detK 100000 ds) := by
        refine det_same hNm.out fun i hi => ?_
        exact (validD_parts (hOk.out i hi)).2.1
      obtain ⟨B, cb, hu4, hBB, hRL⟩ := hAll.out.row (by intro h; have := HLn.out; rw [h] at this; cases this)
      rw [HLn.out] at hu4
      subst hu4
      have HRL : Hid (RowL wr B 0 ls) := hRL
      clear hRL hAll
      go_wp2_with fail
      refine (det2_any HA.out B 0 cb ls _ HLn.out hBd.out HRL.out).mono ?_
      rintro e w1 ⟨g1, a1, c1, f1, m1, e1, rfl, hl1, he0, he1, hK1, hL1, hF1, hb1⟩
      have HL1 : Hid (L1 w1 g1 a1 c1 f1 m1) := hL1
      have HK1 : Hid (atK 100000 m1 e1 = detK 100000 ds) := by unfold Hid; rw [hK1 100000 (by decide), HEQ.out]
      have HB1 : Hid (Below wr.heap.size wr w1) := hb1
      have hs1 := hb1.size
      clear hK1 hL1 hF1 hb1 HRL
      go_wp2_with fail
      refine (out2_any g1 a1 c1 f1 m1 e1 _ (by omega) (by omega) (by omega) HL1.out).mono ?_
      rintro e w2 ⟨G, Z, EZ, K, aw, cw, rfl, hres, hrw, hfar, hb2⟩
      have HRes : Hid (ResD true (detK 100000 ds) G Z EZ K) := by unfold Hid; rw [← HK1.out]; exact hres
      have HRw : Hid (RowAt .u32 w2 aw Z) := hrw
      have HFr : Hid (Far (w.heap.size + 1) aw Z) := hfar.down (by omega)
      have hB := HB1.out.trans (hb2.mono hs1)
      have HB2 : Hid (Below w.heap.size w w2) := HWr.out.trans (hB.mono (by omega))
      have s1 : w2.cell? ⟨w.heap.size, 0, none⟩ = some (.bool false) := by rw [(bcell hB).1 _ _ (by omega)]; exact q1
      have s2 : w2.cell? ⟨w.heap.size, 1, none⟩ = some (.slice none 0 0) := by rw [(bcell hB).1 _ _ (by omega)]; exact q2
      have s3 : w2.cell? ⟨w.heap.size, 2, none⟩ = some (.int .i64 0) := by rw [(bcell hB).1 _ _ (by omega)]; exact q3
      have s4 : ∀ j, w2.frozen? ⟨w.heap.size, j, none⟩ = false := fun j => by rw [(bcell hB).2 _ _ (by omega)]; exact q4 j
      clear hB hres hrw hfar hb2 q1 q2 q3 q4
      go_wp2
      refine bodyPost_ret (v := .tuple #[.agg #[.bool G, .slice aw Z.length cw, .int .i64 EZ], .int .i64 K]) (by simp [results, Tryd.results7, go_sem, s1, s2, s3]) rfl ?_
      rw [HAT.out]
      refine ⟨G, Z, EZ, K, aw, cw, rfl, HRes.out, ?_, HFr.out.down (by omega), ?_⟩
      · exact ((HRw.out.setAway (HFr.out.away (by simp)) _).setAway (HFr.out.away (by simp)) _).setAway (HFr.out.away (by simp)) _
      · exact ((HB2.out.setCell (by simp) _).setCell (by simp) _).setCell (by simp) _

end Go.Proofs.YtladfpljnaippabDoor

/-
  The program's DyDet: its region, in whatever order.
-/
namespace Go.Proofs.YtladfpljnaippabDoor
open Go.RowKit

theorem DV.fine.neg {d : DV} (h : d.fine) : d.neg.fine := by
  obtain ⟨h1, h2, h3, h4⟩ := h
  refine ⟨h1, h2, h3, ?_⟩
  have h5 := h4.neg
  have h6 := h5.num
  rw [h6] at h5
  exact h5

set_option maxRecDepth 100000 in
set_option maxHeartbeats 1000000 in
theorem det_step (HPR : ProdSays) {b off c : Nat} {ds : List DV} {a0 : Act} {w0 : World} {Q : Exit → Act → World → Prop} (h0 : a0.tmps.getD 0 undef = .slice (some ⟨b, off, none⟩) 9 c) (hd : RowD w0 b off ds) (hlen : ds.length = 9) (hfi : ∀ d, d ∈ ds → d.fine) (hT : Tab w0) :
    ∀ i o, i < 66 → detOps[i]? = some o → ∀ a w, (∀ t, (∀ i o, i < 66 → detOps[i]? = some o → o.dst ≠ some t) → a.tmps.getD t undef = a0.tmps.getD t undef) → Below w0.heap.size w0 w →
      (∀ e ∈ o.after, Region.binds .any e = true → ∀ o' t, detOps[e.on]? = some o' → o'.dst = some t → KF b off c w0.heap.size ds (kd e.on) (a.tmps.getD t undef) w) →
      wpOp Tryd.prog detOps Q i (fun a' w' => Below w.heap.size w w' ∧ ∃ v, a' = a.put o.dst v ∧ KF b off c w0.heap.size ds (kd i) v w') a w := by
  intro i o hi ho a w hold hb hdep
  obtain ⟨hf1, hdst⟩ := det_form i o hi ho
  have ht0 : a.tmps.getD 0 undef = .slice (some ⟨b, off, none⟩) 9 c := by
    rw [hold 0 (fun j o' hj ho' => by
      rw [(det_form j o' hj ho').2]
      intro h
      have := Option.some.inj h
      omega)]
    exact h0
  have got : ∀ j t, Dep o.after j t → KF b off c w0.heap.size ds (kd j) (a.tmps.getD t undef) w := fun j t ⟨q, e, o', h1, h2, h3, h4, h5⟩ => by
    subst h3
    exact hdep e (Array.mem_of_getElem? h1) h2 o' t h4 h5
  have hdl := hd.later hb
  have fin : ∀ k, k < 9 → (ds.getD k default).fine := fun k hk => hfi _ (by rw [List.getD_eq_getElem?_getD, List.getElem?_eq_getElem (by omega)]; exact List.getElem_mem (by omega))
  generalize hk : kd i = k at hf1 ⊢
  cases hf1 with
  | mv d ty pos aft => exact wpOp_plain ho rfl (step_mv d ty pos aft ⟨Below.refl _ _, _, rfl, ht0⟩)
  | ix d ty pos aft t k j h1 h2 h3 =>
    have g := got j t h2
    rw [h3] at g
    exact wpOp_plain ho rfl (step_ix d t ty pos aft b off c k h1 g ⟨Below.refl _ _, _, rfl, rfl⟩)
  | ld d ty pos aft t k j h1 h2 h3 =>
    have g := got j t h2
    rw [h3] at g
    exact wpOp_plain ho rfl (step_ld d t ty pos aft b off k (ds.getD k default) g (hdl.c0 k (by omega)) (hdl.c1 k (by omega)) (hdl.c2 k (by omega)) ⟨Below.refl _ _, _, rfl, rfl⟩)
  | ng d ty pos aft t k j h2 h3 =>
    have g := got j t h2
    rw [h3] at g
    exact wpOp_plain ho rfl (step_ng d t ty pos aft (ds.getD k default) g (fun w' hb' => ⟨hb', _, rfl, rfl⟩))
  | bdp d ty pos aft t0 t1 t2 k0 k1 k2 j0 j1 j2 hk d0 d1 d2 e0 e1 e2 =>
    have g0 := got j0 t0 d0
    have g1 := got j1 t1 d1
    have g2 := got j2 t2 d2
    rw [e0] at g0
    rw [e1] at g1
    rw [e2] at g2
    refine wpOp_plain ho rfl (step_bd d t0 t1 t2 ty pos aft (ds.getD k0 default) (ds.getD k1 default) (ds.getD k2 default) g0 g1 g2 ⟨bel0 _ _, _, rfl, w.heap.size, rfl, ?_⟩)
    exact three_rowD (by simp) (by simp [go_sem]) (by simp [go_sem]) (by simp [go_sem]) (by simp [go_sem]) (by simp [go_sem]) (by simp [go_sem]) (by simp [go_sem]) (by simp [go_sem]) (by simp [go_sem]) ((hdl.row k0 (by omega)).later (bel0 _ _)) ((hdl.row k1 (by omega)).later (bel0 _ _)) ((hdl.row k2 (by omega)).later (bel0 _ _))
  | bdn d ty pos aft t0 t1 t2 k0 k1 k2 j0 j1 j2 hk d0 d1 d2 e0 e1 e2 =>
    have g0 := got j0 t0 d0
    have g1 := got j1 t1 d1
    have g2 := got j2 t2 d2
    rw [e0] at g0
    rw [e1] at g1
    rw [e2] at g2
    refine wpOp_plain ho rfl (step_bd d t0 t1 t2 ty pos aft (ds.getD k0 default).neg (ds.getD k1 default) (ds.getD k2 default) g0 g1 g2 ⟨bel0 _ _, _, rfl, w.heap.size, rfl, ?_⟩)
    exact three_rowD (d := (ds.getD k0 default).neg) (by simp) (by simp [go_sem]) (by simp [go_sem]) (by simp [go_sem]) (by simp [go_sem]) (by simp [go_sem]) (by simp [go_sem]) (by simp [go_sem]) (by simp [go_sem]) (by simp [go_sem]) ((hdl.row k0 (by omega)).later (bel0 _ _)) ((hdl.row k1 (by omega)).later (bel0 _ _)) ((hdl.row k2 (by omega)).later (bel0 _ _))
  | al d ty pos aft t0 t1 t2 t3 t4 t5 j0 j1 j2 j3 j4 j5 d0 d1 d2 d3 d4 d5 e0 e1 e2 e3 e4 e5 =>
    have g0 := got j0 t0 d0
    have g1 := got j1 t1 d1
    have g2 := got j2 t2 d2
    have g3 := got j3 t3 d3
    have g4 := got j4 t4 d4
    have g5 := got j5 t5 d5
    rw [e0] at g0
    rw [e1] at g1
    rw [e2] at g2
    rw [e3] at g3
    rw [e4] at g4
    rw [e5] at g5
    obtain ⟨b0, v0, r0⟩ := g0
    obtain ⟨b1, v1, r1⟩ := g1
    obtain ⟨b2, v2, r2⟩ := g2
    obtain ⟨b3, v3, r3⟩ := g3
    obtain ⟨b4, v4, r4⟩ := g4
    obtain ⟨b5, v5, r5⟩ := g5
    refine wpOp_plain ho rfl (step_al d t0 t1 t2 t3 t4 t5 ty pos aft b0 b1 b2 b3 b4 b5 v0 v1 v2 v3 v4 v5 ⟨bel0 _ _, _, rfl, w.heap.size, b0, b1, b2, b3, b4, b5, rfl, ?_⟩)
    exact six_rowT (by simp) rfl rfl rfl rfl rfl rfl (by simp [go_sem]) (by simp [go_sem]) (by simp [go_sem]) (by simp [go_sem]) (by simp [go_sem]) (by simp [go_sem]) (r0.later (bel0 _ _)) (r1.later (bel0 _ _)) (r2.later (bel0 _ _)) (r3.later (bel0 _ _)) (r4.later (bel0 _ _)) (r5.later (bel0 _ _))
  | sm d ty pos aft t j h2 h3 =>
    have g := got j t h2
    rw [h3] at g
    obtain ⟨b', b0, b1, b2, b3, b4, b5, ev, hr⟩ := g
    refine wpOp_plain ho rfl (step_sm HPR d t ty pos aft b' (sixT ds b0 b1 b2 b3 b4 b5) rfl ?_ hr ev (fun w' G a' c' fs m e h1 h2 h3 h4 h5 h6 h8 => ⟨h8, _, rfl, G, a', c', fs, m, e, rfl, h1, h2, (fun K hK => (h3 K hK).trans (sumK_six K ds b0 b1 b2 b3 b4 b5)), h4, h5, h6⟩))
    have one : ∀ s k0 k1 k2, k0 < 9 → k1 < 9 → k2 < 9 → (tri ds s k0 k1 k2).length ≤ 3 ∧ ∀ d, d ∈ tri ds s k0 k1 k2 → d.fine := by
      intro s k0 k1 k2 l0 l1 l2
      refine ⟨by simp [tri], fun d hd => ?_⟩
      unfold tri at hd
      rcases List.mem_cons.1 hd with rfl | hd
      · cases s
        · exact fin k0 l0
        · exact (fin k0 l0).neg
      rcases List.mem_cons.1 hd with rfl | hd
      · exact fin k1 l1
      rcases List.mem_cons.1 hd with rfl | hd
      · exact fin k2 l2
      · cases hd
    intro t ht
    unfold sixT at ht
    rcases List.mem_cons.1 ht with rfl | ht
    · exact one _ _ _ _ (by decide) (by decide) (by decide)
    rcases List.mem_cons.1 ht with rfl | ht
    · exact one _ _ _ _ (by decide) (by decide) (by decide)
    rcases List.mem_cons.1 ht with rfl | ht
    · exact one _ _ _ _ (by decide) (by decide) (by decide)
    rcases List.mem_cons.1 ht with rfl | ht
    · exact one _ _ _ _ (by decide) (by decide) (by decide)
    rcases List.mem_cons.1 ht with rfl | ht
    · exact one _ _ _ _ (by decide) (by decide) (by decide)
    rcases List.mem_cons.1 ht with rfl | ht
    · exact one _ _ _ _ (by decide) (by decide) (by decide)
    · cases ht
  | nr d ty pos aft t j h2 h3 =>
    have g := got j t h2
    rw [h3] at g
    obtain ⟨G, a1, c1, fs, m, e, ev, h1, hl, hK, h4, h5, h6⟩ := g
    refine wpOp_plain ho rfl (step_nr d t ty pos aft G a1 c1 fs m e (by omega) h4 h5 h6 h1 hl.2 (hT.later hb) ev (fun w' G Z E K' a' c' r1 r2 r3 => ⟨r3, _, rfl, G, Z, E, K', a', c', rfl, ?_, r2.down hb.size⟩))
    rw [← hK 100000 (by decide)]
    exact r1

section
variable {Q : Exit → Act → World → Prop} {K : Act → World → Prop} {a : Act} {w : World}

set_option maxRecDepth 100000 in
set_option maxHeartbeats 2000000 in
theorem step_st (t ty : Nat) (pos : String) (aft : Array Edge) (R : Nat) (G : Bool) (s : Value) (E : Int) (a5 : Option Addr) (n c5 : Nat) (hs : s = .slice a5 n c5) (h : a.tmps.getD 2 undef = .pointer (some ⟨R, 0, none⟩)) (h1 : a.tmps.getD t undef = .agg #[.bool G, s, .int .i64 E]) (x0 x1 x2 : Value)
    (r1 : w.cell? ⟨R, 0, none⟩ = some x0) (r2 : w.cell? ⟨R, 1, none⟩ = some x1) (r3 : w.cell? ⟨R, 2, none⟩ = some x2) (r4 : ∀ j, w.frozen? ⟨R, j, none⟩ = false)
    (hK : K a (((w.setCell ⟨R, 0, none⟩ (.bool G)).setCell ⟨R, 1, none⟩ s).setCell ⟨R, 2, none⟩ (.int .i64 E))) :
    Oper.wp Tryd.prog ⟨none, .store 29 (.tmp 2) (.tmp t), ty, pos, aft, none⟩ a w K Q := by
  subst hs
  have h' : a.tmps[2]?.getD undef = .pointer (some ⟨R, 0, none⟩) := by simpa using h
  have h1' : a.tmps[t]?.getD undef = .agg #[.bool G, .slice a5 n c5, .int .i64 E] := by simpa using h1
  go_simp
  exact hK

end
end Go.Proofs.YtladfpljnaippabDoor

/-
  The program's DyDet.
-/
namespace Go.Proofs.YtladfpljnaippabDoor
open Go.RowKit

theorem listed_is {l : Array Bool} {n m : Nat} (hm : m ≤ n) (hs : l.size = n) (h1 : ∀ i, i < m → l.getD i false = true) (h2 : ∀ i, m ≤ i → i < n → l.getD i true = false) : l = ((List.replicate m true) ++ (List.replicate (n - m) false)).toArray := by
  apply Array.ext'
  show l.toList = _
  apply List.ext_getElem
  · simp [hs]
    omega
  · intro i g1 g2
    have hi : i < l.size := by simpa using g1
    by_cases him : i < m
    · have := h1 i him
      simp only [List.getElem_append_left (show i < (List.replicate m true).length by simpa using him)]
      simpa [hi] using this
    · have := h2 i (by omega) (by omega)
      simp only [List.getElem_append_right (show (List.replicate m true).length ≤ i by simp; omega)]
      simpa [hi] using this

section
variable {Q : Exit → Act → World → Prop}

set_option maxRecDepth 100000 in
set_option maxHeartbeats 2000000 in
theorem det_end {b off c R B : Nat} {ds : List DV} {a0 : Act} {w0 : World} (hQ : ∀ ch (a : Act) d v w, Q (.panic ch) (a.put d v) w → Q (.panic ch) a w) (h2 : a0.tmps.getD 2 undef = .pointer (some ⟨R, 0, none⟩)) (hsz : a0.tmps.size = 81)
    (hR : R < w0.heap.size) (x0 x1 x2 : Value) (r1 : w0.cell? ⟨R, 0, none⟩ = some x0) (r2 : w0.cell? ⟨R, 1, none⟩ = some x1) (r3 : w0.cell? ⟨R, 2, none⟩ = some x2) (r4 : ∀ j, w0.frozen? ⟨R, j, none⟩ = false)
    (hfin : ∀ (a : Act) (W : World) (G : Bool) (Z : List Int) (E K : Int) (a5 : Option Addr) (c5 : Nat), a.tmps.getD 2 undef = .pointer (some ⟨R, 0, none⟩) → a.tmps.getD 3 undef = .int .i64 K → a.tmps.size = 81 → a.defers = a0.defers → ResD true (detK 100000 ds) G Z E K → RowNew .u32 W B a5 Z → Below w0.heap.size w0 W →
      Q .normal a (((W.setCell ⟨R, 0, none⟩ (.bool G)).setCell ⟨R, 1, none⟩ (.slice a5 Z.length c5)).setCell ⟨R, 2, none⟩ (.int .i64 E)))
    (listed : Array Bool) (a : Act) (w : World) (hall : ∀ i, i < 66 → listed.getD i false = true) (hI : Fd .any detOps 66 (fun i => KF b off c B ds (kd i)) a0 w0 listed a w) :
    wpAny Tryd.prog .any detOps Q (detOps.size - 66) listed a w := by
  have hs70 : detOps.size = 70 := by kernel_rfl
  have hl := listed_is (l := listed) (m := 66) (n := 70) (by decide) (by rw [hI.ls, hs70]) hall (fun i g1 g2 => hI.new i g1 (by rw [hs70]; exact g2))
  have hf : detOps.size - 66 = 4 := by rw [hs70]
  rw [hf]
  have g65 := hI.got 65 _ 78 (by decide) rfl rfl (hall 65 (by decide))
  obtain ⟨G, Z, E, K, a5, c5, ev, hres, hrow⟩ := g65
  have t2 : a.tmps.getD 2 undef = .pointer (some ⟨R, 0, none⟩) := by
    rw [hI.old 2 (fun j o' hj ho' => by
      rw [(det_form j o' hj ho').2]
      intro h
      have := Option.some.inj h
      omega)]
    exact h2
  have hsa : a.tmps.size = 81 := by rw [hI.sz, hsz]
  have hdf := hI.df
  have hbel := hI.bel
  clear hI hall hf
  subst hl
  have ev' : a.tmps[78]?.getD undef = .tuple #[.agg #[.bool G, .slice a5 Z.length c5, .int .i64 E], .int .i64 K] := by simpa using ev
  refine wpAny_take (i := 66) (v := .agg #[.bool G, .slice a5 Z.length c5, .int .i64 E]) (oi := detOps[66]) rfl (by kernel_rfl) (by kernel_rfl) (by kernel_rfl) (fun ch a w => hQ ch a _ _ w) (Or.inl ⟨rfl, fun w => ?_⟩) ?_
  · show (execOp a.eval ⟨some 79, .extract (.tmp 78) 0, 29, _, _, none⟩).run Tryd.prog w = _
    simp [go_sem, ev']
  obtain ⟨A1, hA1⟩ : ∃ A1, A1 = a.put (some 79) (.agg #[.bool G, .slice a5 Z.length c5, .int .i64 E]) := ⟨_, rfl⟩
  have q78 : A1.tmps.getD 78 undef = .tuple #[.agg #[.bool G, .slice a5 Z.length c5, .int .i64 E], .int .i64 K] := by rw [hA1, put_getD (by rw [hsa]; decide), if_neg (by decide)]; exact ev
  have q79 : A1.tmps.getD 79 undef = .agg #[.bool G, .slice a5 Z.length c5, .int .i64 E] := by rw [hA1, put_getD (by rw [hsa]; decide), if_pos rfl]
  have q2 : A1.tmps.getD 2 undef = .pointer (some ⟨R, 0, none⟩) := by rw [hA1, put_getD (by rw [hsa]; decide), if_neg (by decide)]; exact t2
  have qs : A1.tmps.size = 81 := by rw [hA1]; simp [Act.put, hsa]
  have qd : A1.defers = a0.defers := by rw [hA1]; exact hdf
  have q78' : A1.tmps[78]?.getD undef = .tuple #[.agg #[.bool G, .slice a5 Z.length c5, .int .i64 E], .int .i64 K] := by simpa using q78
  show wpAny Tryd.prog .any detOps Q 3 _ (a.put (some 79) _) w
  rw [← hA1]
  refine wpAny_take (i := 67) (v := .int .i64 K) (oi := detOps[67]) rfl (by kernel_rfl) (by kernel_rfl) (by kernel_rfl) (fun ch a w => hQ ch a _ _ w) (Or.inl ⟨rfl, fun w => ?_⟩) ?_
  · show (execOp A1.eval ⟨some 80, .extract (.tmp 78) 1, _, _, _, none⟩).run Tryd.prog w = _
    simp [go_sem, q78']
  obtain ⟨A2, hA2⟩ : ∃ A2, A2 = A1.put (some 80) (.int .i64 K) := ⟨_, rfl⟩
  have p80 : A2.tmps.getD 80 undef = .int .i64 K := by rw [hA2, put_getD (by rw [qs]; decide), if_pos rfl]
  have p79 : A2.tmps.getD 79 undef = .agg #[.bool G, .slice a5 Z.length c5, .int .i64 E] := by rw [hA2, put_getD (by rw [qs]; decide), if_neg (by decide)]; exact q79
  have p2 : A2.tmps.getD 2 undef = .pointer (some ⟨R, 0, none⟩) := by rw [hA2, put_getD (by rw [qs]; decide), if_neg (by decide)]; exact q2
  have ps : A2.tmps.size = 81 := by rw [hA2]; simp [Act.put, qs]
  have pd : A2.defers = a0.defers := by rw [hA2]; exact qd
  show wpAny Tryd.prog .any detOps Q 2 _ (A1.put (some 80) _) w
  rw [← hA2]
  refine wpAny_all (rs := [68]) (by kernel_rfl) (by simp) ?_
  intro i hi
  have hi' : i = 68 := by simpa using hi
  subst hi'
  refine wpOp_plain (o := detOps[68]) rfl rfl ?_
  refine step_st 79 _ _ _ R G _ E a5 Z.length c5 rfl p2 p79 x0 x1 x2 ?_ ?_ ?_ ?_ ?_
  · exact (hbel.cell (p := ⟨R, 0, none⟩) hR).trans r1
  · exact (hbel.cell (p := ⟨R, 1, none⟩) hR).trans r2
  · exact (hbel.cell (p := ⟨R, 2, none⟩) hR).trans r3
  · intro j
    exact (hbel.frozen (p := ⟨R, j, none⟩) hR).trans (r4 j)
  refine wpAny_all (rs := [69]) (by kernel_rfl) (by simp) ?_
  intro i hi
  have hi' : i = 69 := by simpa using hi
  subst hi'
  refine wpOp_plain (o := detOps[69]) rfl rfl ?_
  show wpAny Tryd.prog .any detOps Q 0 _ (A2.put (some 3) (A2.tmps.getD 80 undef)) _
  rw [p80]
  refine wpAny_done (by kernel_rfl) ?_ 0
  refine hfin _ _ G Z E K a5 c5 ?_ ?_ ?_ pd hres hrow hbel
  · rw [put_getD (by rw [ps]; decide), if_neg (by decide)]
    exact p2
  · rw [put_getD (by rw [ps]; decide), if_pos rfl]
  · simp [Act.put, ps]

end
end Go.Proofs.YtladfpljnaippabDoor

/-
  The program's products.
-/
namespace Go.Proofs.YtladfpljnaippabDoor
open Go.RowKit

set_option maxHeartbeats 4000000 in
theorem times_any (a a' : Option Addr) (p p' : Nat) (zs ys : List Int) (w : World) (hn : zs.length ≤ 100000) (hn' : ys.length ≤ 100000) (hz : RowAt .u32 w a zs) (hy : RowAt .u32 w a' ys) (hdz : Dig 4294967296 zs) (hdy : Dig 4294967296 ys) :
    Calls Tryd.prog 119 #[.slice a zs.length p, .slice a' ys.length p'] w fun e w' => MagOut w (val 4294967296 zs * val 4294967296 ys) (zs.length + ys.length) e w' := by
  have hmk := run_make_row' (P := Tryd.prog) 86 33 (.int .u32 0) 4 Tryd.underlying86 Tryd.info33 rfl .i64 .i64 (zs.length + ys.length) (by omega) (by omega)
  rw [show ((zs.length + ys.length : Nat) : Int) = (zs.length : Int) + (ys.length : Int) by omega] at hmk
  go_enter Tryd.func119, Tryd.ntmps119
  go_wp2
  go_loopw [19] (fun t wr => ∃ (i : Nat) (P : List Int), i ≤ zs.length ∧ t = .int .i64 i ∧ Hid (Prod 4294967296 zs ys (zs.length + ys.length) i P) ∧ Own .u32 wr w.heap.size 0 P ∧ Below w.heap.size w wr) (fun t _ => zs.length - (intOf t).toNat)
  case atStart => exact ⟨0, List.replicate (zs.length + ys.length) 0, Nat.zero_le _, rfl, prod_start _ (by decide) _ _ _, Own.made w (zs.length + ys.length) _, bel0 _ _⟩
  case round =>
    obtain ⟨i, P, hi, rfl, hP, hown, hnx⟩ := hrel
    by_cases hlt : i < zs.length
    · have hb1 := hdz.at (by decide) i
      obtain ⟨b, off, rfl, g1⟩ := row_cell hz hnx hlt
      obtain ⟨x, hx⟩ : ∃ x, x = zs.getD i 0 := ⟨_, rfl⟩
      rw [← hx] at hb1 g1
      obtain ⟨hb10, hb11⟩ := hb1
      have HX : Hid (x = zs.getD i 0) := hx
      have hPl : P.length = zs.length + ys.length := hP.out.len
      have HPl : Hid (P.length = zs.length + ys.length) := hPl
      have HO : Hid (Own .u32 wr w.heap.size 0 P) := hown
      have HN : Hid (Below w.heap.size w wr) := hnx
      clear hx hPl hown hnx
      go_wp2
      go_loopw [8, 26] (fun cc t wq => ∃ (j : Nat) (c : Int) (D : List Int), j ≤ ys.length ∧ D.length = j ∧ t = .int .i64 j ∧ cc = .int .u64 c ∧ 0 ≤ c ∧ c ≤ 4294967295 ∧ Hid (carryD 4294967296 (mulsL x ys (P.drop i)) 0 = D ++ carryD 4294967296 (mulsL x (ys.drop j) ((P.drop i).drop j)) c) ∧ Hid (carryO 4294967296 (mulsL x ys (P.drop i)) 0 = carryO 4294967296 (mulsL x (ys.drop j) ((P.drop i).drop j)) c) ∧
          Own .u32 wq w.heap.size 0 (P.take i ++ (D ++ P.drop (i + j))) ∧ Below w.heap.size w wq) (fun _ t _ => ys.length - (intOf t).toNat)
      case atStart => exact ⟨0, 0, [], Nat.zero_le _, rfl, rfl, rfl, by decide, by decide, rfl, rfl, by simpa using HO.out, HN.out⟩
      case round =>
        obtain ⟨j, c, D, hj, hDl, rfl, rfl, hc0, hc1, hD, hO, hown, hnx⟩ := hrel
        by_cases hlt2 : j < ys.length
        · have hb2 := hdy.at (by decide) j
          obtain ⟨b', off', rfl, g2⟩ := row_cell hy hnx hlt2
          obtain ⟨y, hyy⟩ : ∃ y, y = ys.getD j 0 := ⟨_, rfl⟩
          rw [← hyy] at hb2 g2
          obtain ⟨hb20, hb21⟩ := hb2
          have hij : i + j < P.length := by rw [HPl.out]; omega
          have hbm := hP.out.dig.at (by decide) (i + j)
          have g3 := hown.cell (i + j) (by rw [mid_length hDl (by omega)]; exact hij)
          have g4 := hown.free (i + j) (by rw [mid_length hDl (by omega)]; exact hij)
          rw [Nat.zero_add] at g3 g4
          rw [mid_get (Nat.le_refl _) hDl (by omega)] at g3
          obtain ⟨m, hm⟩ : ∃ m, m = P.getD (i + j) 0 := ⟨_, rfl⟩
          rw [← hm] at hbm g3
          obtain ⟨hbm0, hbm1⟩ := hbm
          obtain ⟨hxy0, hxy1⟩ := mul_bound hb10 hb11 hb20 hb21
          simp only [Int.reduceSub, Int.reduceMul] at hxy1
          have hcb := carry_bound (B := 4294967296) (s := c + (x * y + m)) (by decide) (by omega) (by simp only [Int.reduceSub, Int.reduceMul]; omega)
          have hst := mul_step (B := 4294967296) (x := x) (c := c) (s := c + (x * y + m)) (ms := P.drop i) hlt2 (by rw [← hyy, List.getD_eq_getElem?_getD, List.getElem?_drop, ← List.getD_eq_getElem?_getD, ← hm]; omega)
          have HD : Hid (carryD 4294967296 (mulsL x ys (P.drop i)) 0 = (D ++ [(c + (x * y + m)) % 4294967296]) ++ carryD 4294967296 (mulsL x (ys.drop (j + 1)) ((P.drop i).drop (j + 1))) ((c + (x * y + m)) / 4294967296)) := by unfold Hid; rw [hD.out, hst.1]; simp
          have HQ : Hid (carryO 4294967296 (mulsL x ys (P.drop i)) 0 = carryO 4294967296 (mulsL x (ys.drop (j + 1)) ((P.drop i).drop (j + 1))) ((c + (x * y + m)) / 4294967296)) := by unfold Hid; rw [hO.out, hst.2]
          have hs := hown.set (i + j) ((c + (x * y + m)) % 4294967296) (by rw [mid_length hDl (by omega)]; exact hij)
          rw [Nat.zero_add, mid_set hDl hij] at hs
          have HS : Hid (Own .u32 (wr.setCell ⟨w.heap.size, i + j, none⟩ (.int .u32 ((c + (x * y + m)) % 4294967296))) w.heap.size 0 (P.take i ++ ((D ++ [(c + (x * y + m)) % 4294967296]) ++ P.drop (i + j + 1)))) := hs
          have HB : Hid (Below w.heap.size w (wr.setCell ⟨w.heap.size, i + j, none⟩ (.int .u32 ((c + (x * y + m)) % 4294967296)))) := hnx.setCell (Nat.le_refl _) _
          obtain ⟨hcb0, hcb1⟩ := hcb
          have HCB : Hid (0 ≤ (c + (x * y + m)) / 4294967296 ∧ (c + (x * y + m)) / 4294967296 ≤ 4294967295) := ⟨hcb0, by omega⟩
          have HJ : Hid (i + j < zs.length + ys.length) := by unfold Hid; omega
          have hji : (i : Int) + (j : Int) < (zs.length : Int) + (ys.length : Int) := by omega
          clear hcb0 hcb1 hst hs hyy hm hD hO hown hnx hij HN HO
          go_wp2
          go_roundw
          case rel => exact ⟨j + 1, (c + (x * y + m)) / 4294967296, D ++ [(c + (x * y + m)) % 4294967296], by omega, by simp; omega, by go_num, rfl, HCB.out.1, HCB.out.2, HD, HQ, HS.out, HB.out⟩
          case measure => simp [intOf]; omega
        · have hjn : j = ys.length := by omega
          subst hjn
          have hin : i + ys.length < P.length := by rw [HPl.out]; omega
          have hDD : D = carryD 4294967296 (mulsL x ys (P.drop i)) 0 := by
            rw [hD.out, List.drop_eq_nil_of_le (Nat.le_refl _)]; simp [mulsL, carryD]
          have hCC : c = carryO 4294967296 (mulsL x ys (P.drop i)) 0 := by
            rw [hO.out, List.drop_eq_nil_of_le (Nat.le_refl _)]; simp [mulsL, carryO]
          have HP2 : Hid (Prod 4294967296 zs ys (zs.length + ys.length) (i + 1) (P.take i ++ ((D ++ [c]) ++ P.drop (i + ys.length + 1)))) := prod_step (by decide) hP.out hlt (by omega) HX.out hDD hCC hc0 (by omega)
          have g3 := hown.cell (i + ys.length) (by rw [mid_length hDl (by omega)]; exact hin)
          have g4 := hown.free (i + ys.length) (by rw [mid_length hDl (by omega)]; exact hin)
          rw [Nat.zero_add] at g3 g4
          have hs := hown.set (i + ys.length) c (by rw [mid_length hDl (by omega)]; exact hin)
          rw [Nat.zero_add, mid_set hDl hin] at hs
          have HS : Hid (Own .u32 (wr.setCell ⟨w.heap.size, i + ys.length, none⟩ (.int .u32 c)) w.heap.size 0 (P.take i ++ ((D ++ [c]) ++ P.drop (i + ys.length + 1)))) := hs
          have HB : Hid (Below w.heap.size w (wr.setCell ⟨w.heap.size, i + ys.length, none⟩ (.int .u32 c))) := hnx.setCell (Nat.le_refl _) _
          have hji : (i : Int) + (ys.length : Int) < (zs.length : Int) + (ys.length : Int) := by omega
          clear hs hDD hCC hD hO hown hnx hin HN HO hP
          go_wp2
          go_roundw
          case rel => exact ⟨i + 1, P.take i ++ ((D ++ [c]) ++ P.drop (i + ys.length + 1)), by omega, by go_num, HP2, HS.out, HB.out⟩
          case measure => simp [intOf]; omega
    · have hin : i = zs.length := by omega
      subst hin
      have hPl : P.length = zs.length + ys.length := hP.out.len
      have hV : val 4294967296 P = val 4294967296 zs * val 4294967296 ys := by rw [hP.out.eq, List.take_length]
      have HV : Hid (val 4294967296 P = val 4294967296 zs * val 4294967296 ys) := hV
      have HG : Hid (Dig 4294967296 P) := hP.out.dig
      have HL : Hid (P.length = zs.length + ys.length) := hPl
      have HS : Hid (Own .u32 wr w.heap.size 0 P) := hown
      have HB : Hid (Below w.heap.size w wr) := hnx
      clear hV hPl hP hown hnx hz hy hdz hdy
      go_wp2_with fail
      have e1 : zs.length + ys.length = P.length := HL.out.symm
      rw [e1]
      refine (trimmed_any _ _ P _ w.heap.size (by omega) (by unfold maxLen; omega) (Nat.le_refl _) (fun h => by cases h) (HS.out.new (Nat.le_refl _))).mono ?_
      rintro e w1 ⟨a2, c2, rfl, hf2, hm2, hr2, hw⟩
      subst hw
      have HM : Hid (MagOut w (val 4294967296 zs * val 4294967296 ys) (zs.length + ys.length) (.returned (.slice a2 (trimL P).length c2)) w1) := by
        refine ⟨a2, c2, trimL P, rfl, hf2, hm2, canon_trim HG.out, by rw [val_trim, HV.out], ?_, hr2, HB.out⟩
        have := trim_le P
        omega
      clear hf2 hm2 hr2 HG HV HB HS e1
      go_wp2
      go_ret
      exact HM.out

theorem sg_mul (g g' : Bool) (u v : Int) : sg (g != g') (u * v) = sg g u * sg g' v := by
  cases g <;> cases g' <;> simp [sg, Int.neg_mul, Int.mul_neg]

set_option maxHeartbeats 4000000 in
theorem productOf_any (g g' : Bool) (a a' : Option Addr) (c c' : Nat) (zs ys : List Int) (x y : Int) (w : World) (hn : zs.length ≤ 100000) (hn' : ys.length ≤ 100000) (hz : RowAt .u32 w a zs) (hy : RowAt .u32 w a' ys) (h : B1 g zs x) (h' : B1 g' ys y) :
    Calls Tryd.prog 111 #[.agg #[.bool g, .slice a zs.length c], .agg #[.bool g', .slice a' ys.length c']] w fun e w' => BigOut w (x * y) (zs.length + ys.length + 1) e w' := by
  have HX : Hid (sg (g != g') (val 4294967296 zs * val 4294967296 ys) = x * y) := by
    unfold Hid
    rw [sg_mul, h.num, h'.num]
  have hdz := h.can.1
  have hdy := h'.can.1
  clear h h'
  go_enter Tryd.func111, Tryd.ntmps111
  go_wp2
  obtain ⟨W0, hW0⟩ : ∃ W0, W0 = (((w.alloc (.cells #[.bool g, .slice a zs.length c] 27)).alloc (.cells #[.bool g', .slice a' ys.length c'] 27)).alloc (.cells #[.bool false, .slice none 0 0] 27)) := ⟨_, rfl⟩
  rw [← hW0]
  have F : Hid (AddF w g g' (.slice a zs.length c) (.slice a' ys.length c') (.slice none 0 0) W0) := by rw [hW0]; exact AddF.start w g g' _ _ _ _ _ _
  clear hW0
  go_region_held3 (fun w' => w'.cell? ⟨w.heap.size, 0, none⟩ = some (.bool g) ∧ w'.cell? ⟨w.heap.size, 1, none⟩ = some (.slice a zs.length c) ∧ w'.cell? ⟨w.heap.size + 1, 0, none⟩ = some (.bool g') ∧ w'.cell? ⟨w.heap.size + 1, 1, none⟩ = some (.slice a' ys.length c') ∧ Below (w.heap.size + 1 + 1) W0 w')
    (first | exact addS_of F.out.s (Below.refl _ _).drew | exact addS_of F.out.s (by assumption) | exact addS_of F.out.s (Below.setCell (Below.setCell (by assumption) (by simp) _) (by simp) _))
    (first
      | (go_at_call 119; refine (times_any a a' c c' zs ys _ hn hn' (hz.later F.out.bel.drew) (hy.later F.out.bel.drew) hdz hdy).mono ?_; rintro e w1 ⟨a2, c2, fs, rfl, hf2, hm2, hcan, hval, hlen, hrn1, hb1⟩; have hB1 : Below W0.heap.size W0 w1 := (Below.refl _ _).drew.trans hb1; have hB1' : Below (w.heap.size + 1 + 1) W0 w1 := hB1.mono (by have := F.out.le; omega))
      | (go_at_call 50; refine (signed_any _ a2 fs.length c2 _).mono ?_; rintro e w2 ⟨rfl, hb2⟩; have hB2 : Below W0.heap.size W0 w2 := hB1.trans (hb2.mono hB1.size); have hB2' : Below (w.heap.size + 1 + 1) W0 w2 := hB2.mono (by have := F.out.le; omega); have hrn2 : RowNew .u32 w2 W0.heap.size a2 fs := RowNew.later hrn1 hb2; have F2 : Hid (AddF w g g' (.slice a zs.length c) (.slice a' ys.length c') (.slice none 0 0) w2) := F.out.later hB2; have r1 := F2.out.r1; have r2 := F2.out.r2; have r3 := F2.out.r3))
  have HR : Hid (RowNew .u32 w2 W0.heap.size a2 fs) := hrn2
  have HB : Hid (B1 (!(g == g') && decide (0 < fs.length)) fs (x * y)) := by unfold Hid; rw [← HX.out]; exact B1.of_signed (g := (g != g')) hcan hval
  clear hrn1 hrn2 hB1 hB1' hB2 hB2' hb1 hb2 hcan hval
  generalize (!(g == g') && decide (0 < fs.length)) = g2 at *
  go_wp2
  refine bodyPost_ret (v := .agg #[.bool g2, .slice a2 fs.length c2]) (by simp [results, Tryd.results111, go_sem, r1, r2]) rfl ?_
  have hle := F.out.le
  refine ⟨g2, a2, c2, fs, rfl, HB.out, by omega, ?_, ?_⟩
  · exact ((HR.out.setLow (by simp; omega) _).setLow (by simp; omega) _).down (by omega)
  · exact (F2.out.bel.setCell (by simp; omega) _).setCell (by simp; omega) _

end Go.Proofs.YtladfpljnaippabDoor

/-
  The program's one.
-/
namespace Go.Proofs.YtladfpljnaippabDoor
open Go.RowKit

/-- What one hands back. -/
def OneOut (w : World) (e : Ending) (w' : World) : Prop := ∃ b, e = .returned (.agg #[.bool false, .slice (some ⟨b, 0, none⟩) 1 1]) ∧ w.heap.size ≤ b ∧ b < w'.heap.size ∧ w'.cell? ⟨b, 0, none⟩ = some (.int .u32 1) ∧ Below w.heap.size w w'

set_option maxHeartbeats 400000 in
theorem one_any (w : World) : Calls Tryd.prog 110 #[] w fun e w' => OneOut w e w' := by
  go_enter Tryd.func110, Tryd.ntmps110
  go_wp2
  refine bodyPost_ret (v := .agg #[.bool false, .slice (some ⟨w.heap.size + 1, 0, none⟩) 1 1]) (by simp [results, Tryd.results110, go_sem]) rfl ?_
  exact ⟨w.heap.size + 1, rfl, by omega, by simp, by simp [go_sem], bel2 _ _ _⟩

end Go.Proofs.YtladfpljnaippabDoor

/-
  The program's products of dyadic numbers.
-/
namespace Go.Proofs.YtladfpljnaippabDoor
open Go.RowKit

set_option maxRecDepth 100000 in
set_option maxHeartbeats 8000000 in
theorem prod_any (b off c : Nat) (ds : List DV) (w : World) (hn : ds.length ≤ 3) (hl : ∀ d, d ∈ ds → d.zs.length ≤ 512 ∧ -20000 ≤ d.E ∧ d.E ≤ 20000 ∧ B1 d.g d.zs (sg d.g (val 4294967296 d.zs))) (hd : RowD w b off ds) :
    Calls Tryd.prog 83 #[.slice (some ⟨b, off, none⟩) ds.length c] w fun e w' => ProdOut w (prodM ds) (sumE ds) (513 * ds.length + 1) e w' := by
  go_enter Tryd.func83, Tryd.ntmps83
  go_wp2_with fail
  refine (one_any _).mono ?_
  rintro e w1 ⟨bb, rfl, hbb0, hbb1, hbb2, hb1⟩
  have hb0 : w.heap.size + 1 ≤ bb := by simpa using hbb0
  have P0 : ∀ t, PD w w.heap.size w1.heap.size false (some ⟨bb, 0, none⟩) 1 [1] 1 0 (w1.alloc (.cells #[.bool false, .slice (some ⟨bb, 0, none⟩) 1 1, .int .i64 0] t)) := by
    intro t
    have hbw : Below (w.heap.size + 1) (w.alloc (.cells #[.bool false, .slice none 0 0, .int .i64 0] 29)) (w1.alloc (.cells #[.bool false, .slice (some ⟨bb, 0, none⟩) 1 1, .int .i64 0] t)) := (hb1.mono (by simp)).alloc (by omega) _
    refine ⟨?_, ?_, ?_, ?_, ?_, ?_, ?_, ?_, ⟨⟨Dig.cons (by decide) (by decide) (Dig.nil _), by decide⟩, by decide, fun h => by cases h⟩, ?_, ?_, .inr ⟨_, _, rfl, hb0⟩, ⟨Nat.le_refl _, by omega, by simp⟩, (bel0 _ _).trans (hbw.mono (by omega)), ⟨Nat.le_refl _, by unfold maxLen; omega⟩⟩
    · exact (hbw.cell (by simp)).trans (by simp [go_sem])
    · exact (hbw.cell (by simp)).trans (by simp [go_sem])
    · exact (hbw.cell (by simp)).trans (by simp [go_sem])
    · intro j
      exact (hbw.frozen (by simp)).trans (by simp [go_sem])
    · simp [go_sem]
    · simp [go_sem]
    · simp [go_sem]
    · simp [go_sem]
    · refine .inr ⟨bb, 0, rfl, by simp; omega, fun j hj => ?_⟩
      have : j = 0 := by simp at hj; omega
      subst this
      rw [World.cell?_alloc_past _ _ _ hbb1]
      simpa using hbb2
    · intro b o e1 _
      injection e1 with e1
      have : bb = b := congrArg Addr.block e1
      omega
  have oR : w.heap.size < w1.heap.size := by omega
  clear hbb0 hbb1 hbb2 hb1 hb0
  go_wp2
  have P1 := P0 29
  clear P0
  obtain ⟨X, hX⟩ : ∃ X, X = w1.alloc (.cells #[.bool false, .slice (some ⟨bb, 0, none⟩) 1 1, .int .i64 0] 29) := ⟨_, rfl⟩
  rw [← hX] at P1 ⊢
  clear hX
  obtain ⟨A, hA⟩ : ∃ A, A = w1.heap.size := ⟨_, rfl⟩
  rw [← hA] at P1 oR ⊢
  clear hA
  have HP0 : Hid (PD w w.heap.size A false (some ⟨bb, 0, none⟩) 1 [1] 1 0 X) := P1
  clear P1
  go_loopw [5, 10] (fun _ si wr => ∃ (i : Nat) (G : Bool) (a : Option Addr) (ca : Nat) (fs : List Int), i ≤ ds.length ∧ si = .int .i64 i ∧ fs.length ≤ 513 * i + 1 ∧ -20000 * (i : Int) ≤ sumE (ds.take i) ∧ sumE (ds.take i) ≤ 20000 * (i : Int) ∧ Hid (PD w w.heap.size (A) G a ca fs (prodM (ds.take i)) (sumE (ds.take i)) wr)) (fun _ si _ => ds.length - (intOf si).toNat)
  case atStart => exact ⟨0, false, _, 1, [1], Nat.zero_le _, rfl, by simp, by simp [sumE], by simp [sumE], HP0⟩
  case round =>
    obtain ⟨i, G, a, ca, fs, hi, rfl, hfl, hs0, hs1, hP⟩ := hrel
    clear HP0
    have hd2 := hd.later hP.out.bel
    by_cases hlt : i < ds.length
    · have g0 := hd2.c0 i hlt
      have g1 := hd2.c1 i hlt
      have g2 := hd2.c2 i hlt
      have g3 := hd2.row i hlt
      obtain ⟨d, hdd⟩ : ∃ d, d = ds.getD i default := ⟨_, rfl⟩
      rw [← hdd] at g0 g1 g2 g3
      have hib : (i : Int) < ds.length := by omega
      have hmem : d ∈ ds := by rw [hdd, List.getD_eq_getElem?_getD, List.getElem?_eq_getElem hlt]; exact List.getElem_mem hlt
      obtain ⟨hd5, hE0, hE1, hBd⟩ := hl d hmem
      have htk : ds.take (i + 1) = ds.take i ++ [d] := by
        rw [List.take_succ_eq_append_getElem hlt, hdd, List.getD_eq_getElem?_getD, List.getElem?_eq_getElem hlt]
        rfl
      have HPM : Hid (prodM (ds.take (i + 1)) = prodM (ds.take i) * sg d.g (val 4294967296 d.zs)) := by unfold Hid; rw [htk, prodM_snoc]
      have HSE : Hid (sumE (ds.take (i + 1)) = sumE (ds.take i) + d.E) := by unfold Hid; rw [htk, sumE_snoc]
      have G3 : Hid (RowAt .u32 wr d.a d.zs) := g3
      obtain ⟨M, hM⟩ : ∃ M, M = prodM (ds.take i) := ⟨_, rfl⟩
      obtain ⟨S, hS⟩ : ∃ S, S = sumE (ds.take i) := ⟨_, rfl⟩
      rw [← hM] at HPM hP
      rw [← hS] at HSE hP hs0 hs1
      clear hdd hmem g3 hd2 htk hM hS
      have z0 := hP.out.a1
      have z1 := hP.out.a2
      have z2 := hP.out.a3
      have z3 := hP.out.a4
      have oA : A < wr.heap.size := hP.out.ord.2.2
      have hSE0 : -9223372036854775808 ≤ S + d.E := by omega
      have hSE1 : S + d.E ≤ 9223372036854775807 := by omega
      go_wp2
      have hWB : Below wr.heap.size wr (wr.alloc (.cells #[.bool d.g, .slice d.a d.zs.length d.c, .int .i64 d.E] 29)).drew := (bel0 _ _).drew
      have HWE : Hid ((wr.alloc (.cells #[.bool d.g, .slice d.a d.zs.length d.c, .int .i64 d.E] 29)).drew.cell? ⟨wr.heap.size, 2, none⟩ = some (.int .i64 d.E)) := by unfold Hid; simp [go_sem]
      have HWS : Hid (wr.heap.size < (wr.alloc (.cells #[.bool d.g, .slice d.a d.zs.length d.c, .int .i64 d.E] 29)).drew.heap.size) := by unfold Hid; simp [go_sem]
      go_region_with
        (first
          | (go_at_call 111; refine (productOf_any G d.g a d.a ca d.c fs d.zs M (sg d.g (val 4294967296 d.zs)) _ (by omega) (by omega) (hP.out.later hWB).row (G3.out.later hWB) hP.out.b1 hBd).mono ?_; rintro e w2 ⟨g2, a2, c2, f2, rfl, hB2, hl2, hr2, hb2⟩; have P2 : Hid (PD w w.heap.size (A) G a ca fs M S w2) := (hP.out.later hWB).later hb2; have y0 := P2.out.a1; have y1 := P2.out.a2; have y2 := P2.out.a3; have y3 := P2.out.a4; have y4 := (hb2.cell (p := ⟨wr.heap.size, 2, none⟩) HWS.out).trans HWE.out))
      all_goals
        have HF : Far wr.heap.size a2 f2 := hr2.far (Nat.le_refl _) (by have := HWS.out; omega)
        have PN := P2.out.put (c' := c2) (e' := S + d.E) hB2 hr2.row HF oA (by omega)
        rw [← HPM.out, ← HSE.out] at PN
        have HPN : Hid (PD w w.heap.size (A) g2 a2 c2 f2 (prodM (ds.take (i + 1))) (sumE (ds.take (i + 1))) (((w2.setCell ⟨A, 0, none⟩ (.bool g2)).setCell ⟨A, 1, none⟩ (.slice a2 f2.length c2)).setCell ⟨A, 2, none⟩ (.int .i64 (S + d.E)))) := by
          unfold Hid
          have h2 := HSE.out
          rw [h2] at PN
          rw [h2]
          exact PN
        have hl3 : f2.length ≤ 513 * (i + 1) + 1 := by omega
        have hq0 : -20000 * ((i : Int) + 1) ≤ S + d.E := by omega
        have hq1 : S + d.E ≤ 20000 * ((i : Int) + 1) := by omega
        clear PN hB2 hr2 hb2 P2 HF y0 y1 y2 y3 y4 z0 z1 z2 z3
        go_wp2
        go_roundw
        case rel => exact ⟨i + 1, g2, a2, c2, f2, by omega, by go_num, hl3, by rw [HSE.out]; simpa using hq0, by rw [HSE.out]; simpa using hq1, HPN⟩
        case measure => simp [intOf]; omega
    · have hin : i = ds.length := by omega
      subst hin
      rw [List.take_length] at hP hs0 hs1
      have z0 := hP.out.a1
      have z1 := hP.out.a2
      have z2 := hP.out.a3
      have r1 := hP.out.r1
      have r2 := hP.out.r2
      have r3 := hP.out.r3
      have r4 := hP.out.r4
      obtain ⟨S, hS⟩ : ∃ S, S = sumE ds := ⟨_, rfl⟩
      have HS : Hid (S = sumE ds) := hS
      rw [← hS] at hP z2
      clear hS hd2
      go_wp2
      refine bodyPost_ret (v := .agg #[.bool G, .slice a fs.length ca, .int .i64 S]) (by simp [results, Tryd.results83, go_sem, r1, r2, r3]) rfl ?_
      refine ⟨G, a, ca, fs, by rw [HS.out], hP.out.b1, ⟨hfl, hP.out.cap⟩, ?_, hP.out.far.down (by omega), ?_⟩
      · have ho := hP.out.off
        exact ((hP.out.row.setAway (fun b o e1 hne => (ho b o e1 hne).2) _).setAway (fun b o e1 hne => (ho b o e1 hne).2) _).setAway (fun b o e1 hne => (ho b o e1 hne).2) _
      · exact ((hP.out.bel.setCell (by simp) _).setCell (by simp) _).setCell (by simp) _

end Go.Proofs.YtladfpljnaippabDoor

/-
  Products of factors, as the sums of products take them.
-/
namespace Go.Proofs.YtladfpljnaippabDoor

theorem prodSaysJ : ProdSays := fun b off c ds w hn hl hd => prod_any b off c ds w hn hl hd

end Go.Proofs.YtladfpljnaippabDoor

/-
  The program's DyDet, whole.
-/
namespace Go.Proofs.YtladfpljnaippabDoor
open Go.RowKit

theorem none_listed (n i : Nat) : (Array.replicate n false).getD i false = false := by
  by_cases h : i < n
  · simp [h]
  · simp [Array.getElem?_eq_none (xs := Array.replicate n false) (i := i) (by simp; omega)]

set_option maxRecDepth 100000 in
set_option maxHeartbeats 2000000 in
theorem det_region {Q : Exit → Act → World → Prop} {b off c R : Nat} {ds : List DV} {a0 : Act} {w : World} (hQ : ∀ ch (a : Act) d v w, Q (.panic ch) (a.put d v) w → Q (.panic ch) a w)
    (h0 : a0.tmps.getD 0 undef = .slice (some ⟨b, off, none⟩) 9 c) (h2 : a0.tmps.getD 2 undef = .pointer (some ⟨R, 0, none⟩)) (hsz : a0.tmps.size = 81)
    (hd : RowD w b off ds) (hlen : ds.length = 9) (hfi : ∀ d, d ∈ ds → d.fine) (hT : Tab w)
    (hR : R < w.heap.size) (x0 x1 x2 : Value) (r1 : w.cell? ⟨R, 0, none⟩ = some x0) (r2 : w.cell? ⟨R, 1, none⟩ = some x1) (r3 : w.cell? ⟨R, 2, none⟩ = some x2) (r4 : ∀ j, w.frozen? ⟨R, j, none⟩ = false)
    (hfin : ∀ (a : Act) (W : World) (G : Bool) (Z : List Int) (E K : Int) (a5 : Option Addr) (c5 : Nat), a.tmps.getD 2 undef = .pointer (some ⟨R, 0, none⟩) → a.tmps.getD 3 undef = .int .i64 K → a.tmps.size = 81 → a.defers = a0.defers → ResD true (detK 100000 ds) G Z E K → RowNew .u32 W w.heap.size a5 Z → Below w.heap.size w W →
      Q .normal a (((W.setCell ⟨R, 0, none⟩ (.bool G)).setCell ⟨R, 1, none⟩ (.slice a5 Z.length c5)).setCell ⟨R, 2, none⟩ (.int .i64 E))) :
    (Code.region 3 detOps true).wp Tryd.prog Q a0 w := by
  refine wp_region_any (by kernel_rfl) ?_
  have hb0 : Below w.heap.size w w.drew := (Below.refl _ _).drew
  show wpAny Tryd.prog .any detOps Q detOps.size (Array.replicate detOps.size false) a0 w.drew
  have rb : ∀ j, w.drew.cell? ⟨R, j, none⟩ = w.cell? ⟨R, j, none⟩ := fun j => hb0.cell (p := ⟨R, j, none⟩) hR
  refine facts_any (F := fun i => KF b off c w.heap.size ds (kd i)) (a0 := a0) (w0 := w.drew) det_text hsz (fun i v w1 w2 hb h => KF.later _ _ _ _ hb h)
    (det_step prodSaysJ h0 (hd.later hb0) hlen hfi (hT.later hb0))
    (fun listed a w1 hall hI _ => det_end (w0 := w.drew) hQ h2 hsz hR x0 x1 x2 ((rb 0).trans r1) ((rb 1).trans r2) ((rb 2).trans r3) (fun j => (hb0.frozen (p := ⟨R, j, none⟩) hR).trans (r4 j)) (fun a W G Z E K a5 c5 g1 g2 g3 g4 g5 g6 g7 => hfin a W G Z E K a5 c5 g1 g2 g3 g4 g5 g6 (hb0.trans g7)) listed a w1 hall hI)
    detOps.size (Array.replicate detOps.size false) a0 w.drew ⟨rfl, rfl, fun _ _ => rfl, ?_, by simp, ?_, ?_, Below.refl _ _⟩ ?_
  · intro i o t _ _ _ hl
    rw [none_listed] at hl
    cases hl
  · intro i _ hi
    simp [hi]
  · intro i o _ hl
    rw [none_listed] at hl
    cases hl
  · simp [List.count_replicate]

set_option maxRecDepth 100000 in
set_option maxHeartbeats 4000000 in
theorem detDI_bad9 (a : Option Addr) (n c : Nat) (v : Int) (w : World) (hn : n ≠ 9) :
    Calls Tryd.prog 10 #[.slice a n c] w fun e w' => OutDI w false v e w' := by
  have hni : ¬ ((n : Int) = 9) := by omega
  go_enter Tryd.func10, Tryd.ntmps10
  go_wp2_with fail
  refine bodyPost_ret (v := .tuple #[.agg #[.bool false, .slice none 0 0, .int .i64 0], .int .i64 1]) (by simp [results, Tryd.results10, go_sem]) rfl ?_
  refine ⟨false, [], 0, 1, none, 0, rfl, .inl ⟨rfl, rfl, rfl, rfl, rfl⟩, .inl rfl, ?_⟩
  first | exact bel0 _ _ | exact (((bel0 w _).setCell (by simp) _).setCell (by simp) _).setCell (by simp) _

set_option maxRecDepth 100000 in
set_option maxHeartbeats 4000000 in
theorem detDI_bad (b off c : Nat) (ds : List DV) (v : Int) (w : World) (hlen : ds.length = 9) (hl : ∀ d, d ∈ ds → d.zs.length ≤ 1048576) (hd : RowD w b off ds) (hv : ds.all DV.ok = false) :
    Calls Tryd.prog 10 #[.slice (some ⟨b, off, none⟩) 9 c] w fun e w' => OutDI w false v e w' := by
  go_enter Tryd.func10, Tryd.ntmps10
  go_wp2_with fail
  have hc := validsI_any b off c ds _ (by omega) hl (hd.later (bel0 w (.cells #[.bool false, .slice none 0 0, .int .i64 0] 29)))
  rw [hlen] at hc
  refine hc.mono ?_
  rintro e w1 ⟨rfl, hb1⟩
  rw [hv]
  have r1 : w1.cell? ⟨w.heap.size, 0, none⟩ = some (.bool false) := by rw [(bcell hb1).1 _ _ (by simp)]; simp [go_sem]
  have r2 : w1.cell? ⟨w.heap.size, 1, none⟩ = some (.slice none 0 0) := by rw [(bcell hb1).1 _ _ (by simp)]; simp [go_sem]
  have r3 : w1.cell? ⟨w.heap.size, 2, none⟩ = some (.int .i64 0) := by rw [(bcell hb1).1 _ _ (by simp)]; simp [go_sem]
  have r4 : ∀ j, w1.frozen? ⟨w.heap.size, j, none⟩ = false := fun j => by rw [(bcell hb1).2 _ _ (by simp)]; simp [go_sem]
  have HB : Hid (Below w.heap.size w w1) := (bel0 _ _).trans (hb1.mono (by simp))
  clear hb1 hc hd hl
  go_wp2
  refine bodyPost_ret (v := .tuple #[.agg #[.bool false, .slice none 0 0, .int .i64 0], .int .i64 1]) (by simp [results, Tryd.results10, go_sem, r1, r2, r3]) rfl ?_
  refine ⟨false, [], 0, 1, none, 0, rfl, .inl ⟨rfl, rfl, rfl, rfl, rfl⟩, .inl rfl, ?_⟩
  exact ((HB.out.setCell (by simp) _).setCell (by simp) _).setCell (by simp) _

set_option maxRecDepth 100000 in
set_option maxHeartbeats 4000000 in
theorem detDI_ok (b off c : Nat) (ds : List DV) (w : World) (hlen : ds.length = 9) (hl : ∀ d, d ∈ ds → U32 d.zs) (hl2 : ∀ d, d ∈ ds → d.zs.length ≤ 1048576) (hd : RowD w b off ds) (hv : ds.all DV.ok = true) (hT : Tab w) :
    Calls Tryd.prog 10 #[.slice (some ⟨b, off, none⟩) 9 c] w fun e w' => OutDI w true (detK 100000 ds) e w' := by
  have hfi : ∀ d, d ∈ ds → d.fine := by
    intro d hm
    obtain ⟨vb, h1, h2⟩ := validD_parts (List.all_eq_true.1 hv d hm)
    exact ⟨(valid_canon (hl d hm) vb).2.1, h1, h2, B1.of_valid (hl d hm) vb⟩
  go_enter Tryd.func10, Tryd.ntmps10
  go_wp2_with fail
  have hc := validsI_any b off c ds _ (by omega) hl2 (hd.later (bel0 w (.cells #[.bool false, .slice none 0 0, .int .i64 0] 29)))
  rw [hlen] at hc
  refine hc.mono ?_
  rintro e w1 ⟨rfl, hb1⟩
  rw [hv]
  have r1 : w1.cell? ⟨w.heap.size, 0, none⟩ = some (.bool false) := by rw [(bcell hb1).1 _ _ (by simp)]; simp [go_sem]
  have r2 : w1.cell? ⟨w.heap.size, 1, none⟩ = some (.slice none 0 0) := by rw [(bcell hb1).1 _ _ (by simp)]; simp [go_sem]
  have r3 : w1.cell? ⟨w.heap.size, 2, none⟩ = some (.int .i64 0) := by rw [(bcell hb1).1 _ _ (by simp)]; simp [go_sem]
  have r4 : ∀ j, w1.frozen? ⟨w.heap.size, j, none⟩ = false := fun j => by rw [(bcell hb1).2 _ _ (by simp)]; simp [go_sem]
  have hs1 : w.heap.size + 1 ≤ w1.heap.size := by have := hb1.size; simp at this; omega
  have HB : Hid (Below w.heap.size w w1) := (bel0 _ _).trans (hb1.mono (by simp))
  have HD : Hid (RowD w1 b off ds) := hd.later HB.out
  have HT : Hid (Tab w1) := hT.later HB.out
  have HF : Hid (∀ d, d ∈ ds → d.fine) := hfi
  have HL : Hid (ds.length = 9) := hlen
  clear hb1 hc hd hl hl2 hfi hT hv hlen
  go_wp2_with fail
  refine det_region (R := w.heap.size) ?_ rfl rfl rfl HD.out HL.out HF.out HT.out (by omega) _ _ _ r1 r2 r3 r4 ?_
  · intro ch a d v w h
    cases d <;> exact h
  · intro a W G Z E K a5 c5 g1 g2 g3 g4 hres hrow hbel
    rename_i Q' K' hk
    apply hk
    apply wp_ret
    have g1' : a.tmps[2]?.getD undef = .pointer (some ⟨w.heap.size, 0, none⟩) := by simpa using g1
    have g2' : a.tmps[3]?.getD undef = .int .i64 K := by simpa using g2
    have hs2 := hbel.size
    have r1' : W.cell? ⟨w.heap.size, 0, none⟩ = some (.bool false) := (hbel.cell (p := ⟨w.heap.size, 0, none⟩) (show w.heap.size < w1.heap.size by omega)).trans r1
    have r2' : W.cell? ⟨w.heap.size, 1, none⟩ = some (.slice none 0 0) := (hbel.cell (p := ⟨w.heap.size, 1, none⟩) (show w.heap.size < w1.heap.size by omega)).trans r2
    have r3' : W.cell? ⟨w.heap.size, 2, none⟩ = some (.int .i64 0) := (hbel.cell (p := ⟨w.heap.size, 2, none⟩) (show w.heap.size < w1.heap.size by omega)).trans r3
    refine bodyPost_ret (v := .tuple #[.agg #[.bool G, .slice a5 Z.length c5, .int .i64 E], .int .i64 K]) (by simp [results, Tryd.results10, go_sem, g1', g2', r1', r2', r3']) g4 ?_
    refine ⟨G, Z, E, K, a5, c5, rfl, hres, ?_, ?_⟩
    · exact (((hrow.setLow (show w.heap.size < w1.heap.size by omega) _).setLow (show w.heap.size < w1.heap.size by omega) _).setLow (show w.heap.size < w1.heap.size by omega) _).down (by omega)
    · exact (((HB.out.trans (hbel.mono HB.out.size)).setCell (Nat.le_refl _) _).setCell (Nat.le_refl _) _).setCell (Nat.le_refl _) _

theorem detDI_any (b off c : Nat) (ds : List DV) (w : World) (hlen : ds.length = 9) (hl : ∀ d, d ∈ ds → U32 d.zs) (hl2 : ∀ d, d ∈ ds → d.zs.length ≤ 1048576) (hd : RowD w b off ds) (hT : Tab w) :
    Calls Tryd.prog 10 #[.slice (some ⟨b, off, none⟩) 9 c] w fun e w' => OutDI w (ds.all DV.ok) (detK 100000 ds) e w' := by
  cases hv : ds.all DV.ok
  · exact detDI_bad b off c ds _ w hlen hl2 hd hv
  · exact detDI_ok b off c ds w hlen hl hl2 hd hv hT

end Go.Proofs.YtladfpljnaippabDoor
