/-
  The model's determinant is the program's: plain mathematics.
-/
import Derived.Test.YtladfpljnaippabDoorGrow3FactsDetFDyI4a
import Derived.Test.YtladfpljnaippabDoorDyN2DetGDetH
import Derived.Test.YtladfpljnaippabDoorDy1
import Derived.Deep.CutRange
namespace Go.Proofs.YtladfpljnaippabDoor
open Go.RowKit

theorem norm3_at {K x0 E0 m0 e0 x1 E1 m1 e1 x2 E2 m2 e2 : Int} {T0 T1 T2 : Nat} (h0 : NormOf x0 E0 m0 e0 T0) (h1 : NormOf x1 E1 m1 e1 T1) (h2 : NormOf x2 E2 m2 e2 T2) (hK : 0 ≤ E0 + E1 + E2 + K) :
    atK K (m0 * m1 * m2) (e0 + e1 + e2) = atK K (x0 * x1 * x2) (E0 + E1 + E2) := by
  unfold atK
  rcases h0 with ⟨a1, a2, _⟩ | ⟨_, t0, a2, a3, _⟩
  · rw [a1, a2]; simp
  · rcases h1 with ⟨b1, b2, _⟩ | ⟨_, t1, b2, b3, _⟩
    · rw [b1, b2]; simp
    · rcases h2 with ⟨c1, c2, _⟩ | ⟨_, t2, c2, c3, _⟩
      · rw [c1, c2]; simp
      · rw [a2, b2, c2, a3, b3, c3, show (E0 + ↑t0 + (E1 + ↑t1) + (E2 + ↑t2) + K).toNat = t0 + (t1 + (t2 + (E0 + E1 + E2 + K).toNat)) by omega, Int.pow_add, Int.pow_add, Int.pow_add]
        simp only [Int.mul_assoc, Int.mul_left_comm]

theorem dv_neg_num (d : DV) : sg d.neg.g (val 4294967296 d.neg.zs) = - sg d.g (val 4294967296 d.zs) := by
  unfold DV.neg
  cases hz : d.zs with
  | nil => cases d.g <;> simp [sg, val]
  | cons z zs => cases d.g <;> simp [sg]

/-- ls holds the numbers of ds in their normal form. -/
def NormsOf (ds : List DV) (ls : List LV) (n : Nat) : Prop := ∀ i, i < n → ∃ T, NormOf (sg (ds.getD i default).g (val 4294967296 (ds.getD i default).zs)) (ds.getD i default).E (ls.getD i default).m (ls.getD i default).e T

theorem tri_pos {ds : List DV} {k0 k1 k2 : Nat} : prodM (tri ds false k0 k1 k2) = sg (ds.getD k0 default).g (val 4294967296 (ds.getD k0 default).zs) * sg (ds.getD k1 default).g (val 4294967296 (ds.getD k1 default).zs) * sg (ds.getD k2 default).g (val 4294967296 (ds.getD k2 default).zs) ∧ sumE (tri ds false k0 k1 k2) = (ds.getD k0 default).E + (ds.getD k1 default).E + (ds.getD k2 default).E := by
  refine ⟨?_, ?_⟩
  · simp only [prodM, tri, List.map_cons, List.map_nil, List.foldl_cons, List.foldl_nil, Int.one_mul]
    rfl
  · simp only [sumE, tri, List.map_cons, List.map_nil, List.foldl_cons, List.foldl_nil, Int.zero_add]
    rfl

theorem tri_neg {ds : List DV} {k0 k1 k2 : Nat} : prodM (tri ds true k0 k1 k2) = -(sg (ds.getD k0 default).g (val 4294967296 (ds.getD k0 default).zs) * sg (ds.getD k1 default).g (val 4294967296 (ds.getD k1 default).zs) * sg (ds.getD k2 default).g (val 4294967296 (ds.getD k2 default).zs)) ∧ sumE (tri ds true k0 k1 k2) = (ds.getD k0 default).E + (ds.getD k1 default).E + (ds.getD k2 default).E := by
  refine ⟨?_, ?_⟩
  · simp only [prodM, tri, List.map_cons, List.map_nil, List.foldl_cons, List.foldl_nil, Int.one_mul, if_true, dv_neg_num, Int.neg_mul]
  · simp only [sumE, tri, List.map_cons, List.map_nil, List.foldl_cons, List.foldl_nil, Int.zero_add, if_true]
    rfl

theorem det_same {ds : List DV} {ls : List LV} (hn : NormsOf ds ls 9) (hE : ∀ i, i < 9 → -20000 ≤ (ds.getD i default).E) : detV 100000 ls 6 = detK 100000 ds := by
  have key : ∀ k0 k1 k2, k0 < 9 → k1 < 9 → k2 < 9 →
      atK 100000 ((ls.getD k0 default).m * (ls.getD k1 default).m * (ls.getD k2 default).m) ((ls.getD k0 default).e + (ls.getD k1 default).e + (ls.getD k2 default).e)
      = atK 100000 (sg (ds.getD k0 default).g (val 4294967296 (ds.getD k0 default).zs) * sg (ds.getD k1 default).g (val 4294967296 (ds.getD k1 default).zs) * sg (ds.getD k2 default).g (val 4294967296 (ds.getD k2 default).zs)) ((ds.getD k0 default).E + (ds.getD k1 default).E + (ds.getD k2 default).E) := by
    intro k0 k1 k2 l0 l1 l2
    obtain ⟨T0, h0⟩ := hn k0 l0
    obtain ⟨T1, h1⟩ := hn k1 l1
    obtain ⟨T2, h2⟩ := hn k2 l2
    have q0 := hE k0 l0
    have q1 := hE k1 l1
    have q2 := hE k2 l2
    exact norm3_at h0 h1 h2 (by omega)
  have w0 : wayV 100000 ls 0 = atK 100000 (prodM (tri ds false 0 4 8)) (sumE (tri ds false 0 4 8)) := by
    rw [tri_pos.1, tri_pos.2, ← key 0 4 8 (by decide) (by decide) (by decide)]
    exact Int.one_mul _
  have w1 : wayV 100000 ls 1 = atK 100000 (prodM (tri ds false 1 5 6)) (sumE (tri ds false 1 5 6)) := by
    rw [tri_pos.1, tri_pos.2, ← key 1 5 6 (by decide) (by decide) (by decide)]
    exact Int.one_mul _
  have w2 : wayV 100000 ls 2 = atK 100000 (prodM (tri ds false 2 3 7)) (sumE (tri ds false 2 3 7)) := by
    rw [tri_pos.1, tri_pos.2, ← key 2 3 7 (by decide) (by decide) (by decide)]
    exact Int.one_mul _
  have w3 : wayV 100000 ls 3 = atK 100000 (prodM (tri ds true 2 4 6)) (sumE (tri ds true 2 4 6)) := by
    rw [tri_neg.1, tri_neg.2, atK_neg, ← key 2 4 6 (by decide) (by decide) (by decide)]
    exact Int.neg_one_mul _
  have w4 : wayV 100000 ls 4 = atK 100000 (prodM (tri ds true 1 3 8)) (sumE (tri ds true 1 3 8)) := by
    rw [tri_neg.1, tri_neg.2, atK_neg, ← key 1 3 8 (by decide) (by decide) (by decide)]
    exact Int.neg_one_mul _
  have w5 : wayV 100000 ls 5 = atK 100000 (prodM (tri ds true 0 5 7)) (sumE (tri ds true 0 5 7)) := by
    rw [tri_neg.1, tri_neg.2, atK_neg, ← key 0 5 7 (by decide) (by decide) (by decide)]
    exact Int.neg_one_mul _
  show 0 + wayV 100000 ls 0 + wayV 100000 ls 1 + wayV 100000 ls 2 + wayV 100000 ls 3 + wayV 100000 ls 4 + wayV 100000 ls 5 = _
  rw [w0, w1, w2, w3, w4, w5]
  simp only [detK, sumK, sixT, List.map_cons, List.map_nil, List.foldl_cons, List.foldl_nil]
  omega

end Go.Proofs.YtladfpljnaippabDoor

/-
  The parts of a valid Dyadic.
-/
namespace Go.Proofs.YtladfpljnaippabDoor
open Go.RowKit

theorem validD_parts {g : Bool} {zs : List Int} {E : Int} (h : validD g zs E = true) : validB g zs = true ∧ -20000 ≤ E ∧ E ≤ 20000 := by
  unfold validD at h
  simp only [Bool.and_eq_true, decide_eq_true_eq] at h
  exact ⟨h.1, h.2.1, h.2.2⟩

end Go.Proofs.YtladfpljnaippabDoor

/-
  The model's DyDet, whole.
-/
namespace Go.Proofs.YtladfpljnaippabDoor
open Go.RowKit

theorem badDet_fin {w : World} {v : Int} : ∀ W, Below w.heap.size w W → OutDS w false v (.returned (.tuple #[.agg #[.bool false, .slice none 0 0, .int .i64 0], .int .i64 1])) W :=
  fun _ hW => ⟨false, [], 0, 1, none, 0, rfl, .inl ⟨rfl, rfl, rfl, rfl, rfl⟩, .inl rfl, .inl rfl, hW⟩

set_option maxRecDepth 100000 in
set_option maxHeartbeats 4000000 in
theorem detDS_bad9 (a : Option Addr) (n c : Nat) (v : Int) (w : World) (hn : n ≠ 9) :
    Calls Tryd.prog 7 #[.slice a n c] w fun e w' => OutDS w false v e w' := by
  have hni : ¬ ((n : Int) = 9) := by omega
  go_enter Tryd.func7, Tryd.ntmps7
  go_wp2_with fail
  refine bodyPost_ret (v := .tuple #[.agg #[.bool false, .slice none 0 0, .int .i64 0], .int .i64 1]) (by simp [results, Tryd.results7, go_sem]) rfl ?_
  refine badDet_fin _ ?_
  first | exact bel0 _ _ | exact (((bel0 w _).setCell (by simp) _).setCell (by simp) _).setCell (by simp) _

set_option maxRecDepth 100000 in
set_option maxHeartbeats 8000000 in
theorem detDS_any (b off c : Nat) (ds : List DV) (w : World) (hlen : ds.length = 9) (hl : ∀ d, d ∈ ds → U32 d.zs) (hl2 : ∀ d, d ∈ ds → d.zs.length ≤ 1048576) (hd : RowD w b off ds) :
    Calls Tryd.prog 7 #[.slice (some ⟨b, off, none⟩) 9 c] w fun e w' => OutDS w (ds.all DV.ok) (detK 100000 ds) e w' := by
  obtain ⟨A, hA⟩ : ∃ A : Nat, A = 56384 := ⟨_, rfl⟩
  have HA : Hid (A = 56384) := hA
  have HL : Hid (ds.length = 9) := hlen
  have HD : Hid (RowD w b off ds) := hd
  have HU : Hid (∀ d, d ∈ ds → U32 d.zs) := hl
  have HU2 : Hid (∀ d, d ∈ ds → d.zs.length ≤ 1048576) := hl2
  clear hA hlen hd hl hl2
  go_enter Tryd.func7, Tryd.ntmps7
  go_wp2
  obtain ⟨W0, hW0⟩ : ∃ W0, W0 = w.alloc (.cells #[.bool false, .slice none 0 0, .int .i64 0] 29) := ⟨_, rfl⟩
  have HB0 : Hid (AllAt W0 (w.heap.size + 1) (.slice none 0 0) [] W0) := AllAt.start _ _ _ (Below.refl _ _) (by rw [hW0]; simp)
  have r1 : W0.cell? ⟨w.heap.size, 0, none⟩ = some (.bool false) := by rw [hW0]; simp [go_sem]
  have r2 : W0.cell? ⟨w.heap.size, 1, none⟩ = some (.slice none 0 0) := by rw [hW0]; simp [go_sem]
  have r3 : W0.cell? ⟨w.heap.size, 2, none⟩ = some (.int .i64 0) := by rw [hW0]; simp [go_sem]
  have HR4 : Hid (∀ j, W0.frozen? ⟨w.heap.size, j, none⟩ = false) := by intro j; rw [hW0]; simp [go_sem]
  have HBW : Hid (Below w.heap.size w W0) := by unfold Hid; rw [hW0]; exact bel0 _ _
  rw [← hW0]
  clear hW0
  go_loopw [4, 5] (fun sv si wr => ∃ (n : Nat) (ls : List LV), n ≤ 9 ∧ ls.length = n ∧ si = .int .i64 n ∧ Hid (AllAt W0 (w.heap.size + 1) sv ls wr) ∧ Hid (NormsOf ds ls n) ∧ Hid (∀ i, i < n → Bd 20000 A (ls.getD i default).m (ls.getD i default).e) ∧ Hid (∀ i, i < n → (ds.getD i default).ok = true)) (fun _ si _ => 9 - (intOf si).toNat)
  case atStart => exact ⟨0, [], by decide, rfl, rfl, HB0, (fun i hi => absurd hi (by omega)), (fun i hi => absurd hi (by omega)), (fun i hi => absurd hi (by omega))⟩
  case round =>
    obtain ⟨n, ls, hn, hln, rfl, hAll, hNm, hBd, hOk⟩ := hrel
    clear HB0
    have hbA := hAll.out.bel
    have HWr : Hid (Below w.heap.size w wr) := HBW.out.trans (hbA.mono (by omega))
    have q1 : wr.cell? ⟨w.heap.size, 0, none⟩ = some (.bool false) := (hbA.cell (by simp)).trans r1
    have q2 : wr.cell? ⟨w.heap.size, 1, none⟩ = some (.slice none 0 0) := (hbA.cell (by simp)).trans r2
    have q3 : wr.cell? ⟨w.heap.size, 2, none⟩ = some (.int .i64 0) := (hbA.cell (by simp)).trans r3
    have q4 : ∀ j, wr.frozen? ⟨w.heap.size, j, none⟩ = false := fun j => (hbA.frozen (by simp)).trans (HR4.out j)
    have hge := hAll.out.ge
    have HLn : Hid (ls.length = n) := hln
    clear hbA r1 r2 r3 hln
    by_cases hlt : n < 9
    · have hmem : ds.getD n default ∈ ds := by rw [List.getD_eq_getElem?_getD, List.getElem?_eq_getElem (by rw [HL.out]; exact hlt)]; exact List.getElem_mem _
      have hdr := HD.out.later HWr.out
      have hnl : n < ds.length := by rw [HL.out]; exact hlt
      have hbl := hdr.lt
      have d0 := hdr.c0 n hnl
      have d1 := hdr.c1 n hnl
      have d2 := hdr.c2 n hnl
      have d3 := hdr.row n hnl
      have hU := HU.out _ hmem
      have hU2 := HU2.out _ hmem
      obtain ⟨d, hdd⟩ : ∃ d, d = ds.getD n default := ⟨_, rfl⟩
      rw [← hdd] at hmem d0 d1 d2 d3 hU hU2
      have HDD : Hid (d = ds.getD n default) := hdd
      have HM : Hid (d ∈ ds) := hmem
      have D3 : Hid (RowAt .u32 wr d.a d.zs) := d3
      have HUd : Hid (U32 d.zs) := hU
      clear hdd hmem d3 hdr hnl hU
      have hib : (n : Int) < 9 := by omega
      go_wp2_with fail
      refine (valid2S_any d.g d.a d.c d.zs d.E _ hU2 D3.out).mono ?_
      rintro e w1 ⟨rfl, hb1⟩
      have HA1 : Hid (AllAt W0 (w.heap.size + 1) u4 ls w1) := hAll.out.later hb1
      have HB1 : Hid (Below wr.heap.size wr w1) := hb1
      have hs1 := hb1.size
      have p0 : w1.cell? ⟨b, off + n * 3, none⟩ = some (.bool d.g) := by rw [(bcell hb1).1 _ _ hbl]; exact d0
      have p1 : w1.cell? ⟨b, off + n * 3 + 1, none⟩ = some (.slice d.a d.zs.length d.c) := by rw [(bcell hb1).1 _ _ hbl]; exact d1
      have p2 : w1.cell? ⟨b, off + n * 3 + 2, none⟩ = some (.int .i64 d.E) := by rw [(bcell hb1).1 _ _ hbl]; exact d2
      have s1 : w1.cell? ⟨w.heap.size, 0, none⟩ = some (.bool false) := by rw [(bcell hb1).1 _ _ (by omega)]; exact q1
      have s2 : w1.cell? ⟨w.heap.size, 1, none⟩ = some (.slice none 0 0) := by rw [(bcell hb1).1 _ _ (by omega)]; exact q2
      have s3 : w1.cell? ⟨w.heap.size, 2, none⟩ = some (.int .i64 0) := by rw [(bcell hb1).1 _ _ (by omega)]; exact q3
      have s4 : ∀ j, w1.frozen? ⟨w.heap.size, j, none⟩ = false := fun j => by rw [(bcell hb1).2 _ _ (by omega)]; exact q4 j
      clear hb1 d0 d1 d2 q1 q2 q3 q4 hAll
      cases hv : validD d.g d.zs d.E
      · have HAF : Hid (ds.all DV.ok = false) := by
          unfold Hid
          rw [List.all_eq_false]
          exact ⟨d, HM.out, by unfold DV.ok; rw [hv]; decide⟩
        clear hv HA1 hNm hBd hOk p0 p1 p2
        go_wp2
        refine bodyPost_ret (v := .tuple #[.agg #[.bool false, .slice none 0 0, .int .i64 0], .int .i64 1]) (by simp [results, Tryd.results7, go_sem, s1, s2, s3]) rfl ?_
        rw [HAF.out]
        refine badDet_fin _ ?_
        have hB := HWr.out.trans (HB1.out.mono HWr.out.size)
        first | exact hB | exact ((hB.setCell (by simp) _).setCell (by simp) _).setCell (by simp) _
      · obtain ⟨vb, v1, v2⟩ := validD_parts hv
        have HV : Hid (validD d.g d.zs d.E = true) := hv
        have hz5 : d.zs.length ≤ 512 := (valid_canon HUd.out vb).2.1
        clear hv
        go_wp2_with fail
        refine (of2_any d.g d.a d.c d.zs d.E _ (by omega) (by omega) (by omega) (D3.out.later HB1.out) HUd.out).mono ?_
        rintro e w2 ⟨m2, e2, hnf, g2, a2, c2, f2, rfl, hl2, hL2, hF2, hb2⟩
        obtain ⟨l, hl⟩ : ∃ l : LV, l = ⟨g2, a2, c2, f2, m2, e2⟩ := ⟨_, rfl⟩
        have HA2 : Hid (AllAt W0 (w.heap.size + 1) u4 ls w2) := HA1.out.later hb2
        have HLl : Hid (L1 w2 l.g l.a l.c l.fs l.m) := by unfold Hid; rw [hl]; exact hL2
        have HOl : Hid (OffV u4 l.a l.fs) := by
          unfold Hid; rw [hl]
          intro b' o' h1' h2 h3
          have h1 : a2 = some ⟨b', o', none⟩ := h1'
          have h4 := (own3_block HA1.out.own h3).1
          rcases hF2 with h | ⟨b5, o5, h5, h6⟩
          · exact h2 h
          · rw [h1] at h5
            injection h5 with h5
            have : b' = b5 := congrArg Addr.block h5
            omega
        have HBl : Hid (Bd 20000 A l.m l.e) := by
          unfold Hid; rw [hl]
          exact Bd.of_valid HA.out (HUd.out) hz5 v1 v2 hnf
        have HNl : Hid (NormOf (sg d.g (val 4294967296 d.zs)) d.E l.m l.e (32 * d.zs.length)) := by unfold Hid; rw [hl]; exact hnf
        have hnl : ls.length ≤ 1048576 := by rw [HLn.out]; omega
        rw [show g2 = l.g by rw [hl], show a2 = l.a by rw [hl], show f2.length = l.fs.length by rw [hl], show c2 = l.c by rw [hl], show e2 = l.e by rw [hl]]
        clear hl hnf hL2 hF2 hb2 hl2 HA1 HB1 hs1 p0 p1 p2 s1 s2 s3 s4
        go_wp2_with (at_builtin; refine app3 rfl (.tmp 21) (.tmp 27) rfl (w.heap.size + 1) _ ls rfl rfl HA2.out HLl.out HOl.out hnl ?_; intro a3 n3 c3 w3 hall3)
        have HA3 : Hid (AllAt W0 (w.heap.size + 1) (.slice a3 n3 c3) (ls ++ [l]) w3) := hall3
        clear hall3 HA2 HLl HOl
        go_wp2
        go_roundw
        case rel =>
          have hL' := HLn.out
          have split : ∀ i, i < n + 1 → (i < n ∧ (ls ++ [l]).getD i default = ls.getD i default) ∨ (i = n ∧ (ls ++ [l]).getD i default = l) := by
            intro i hi
            have := getD_snoc ls l i (by simp; omega)
            rw [hL'] at this
            exact this
          refine ⟨n + 1, ls ++ [l], by omega, by simp [hL'], by go_num, HA3, ?_, ?_, ?_⟩
          · intro i hi
            rcases split i hi with ⟨h1, h2⟩ | ⟨h1, h2⟩
            · rw [h2]; exact hNm.out i h1
            · rw [h2, h1, ← HDD.out]; exact ⟨_, HNl.out⟩
          · intro i hi
            rcases split i hi with ⟨h1, h2⟩ | ⟨h1, h2⟩
            · rw [h2]; exact hBd.out i h1
            · rw [h2]; exact HBl.out
          · intro i hi
            rcases split i hi with ⟨h1, h2⟩ | ⟨h1, h2⟩
            · exact hOk.out i h1
            · rw [h1, ← HDD.out]; exact HV.out
        case measure => simp [intOf]; omega
    · have hn9 : n = 9 := by omega
      subst hn9
      have HAT : Hid (ds.all DV.ok = true) := by
        unfold Hid
        rw [List.all_eq_true]
        intro x hx
        obtain ⟨i, hi, rfl⟩ := List.mem_iff_getElem.1 hx
        have h := hOk.out i (by rw [← HL.out]; exact hi)
        rw [List.getD_eq_getElem?_getD, List.getElem?_eq_getElem hi] at h
        exact h
      have HEQ : Hid (detV 100000 ls 6 = detK 100000 ds) := by
        refine det_same hNm.out fun i hi => ?_
        exact (validD_parts (hOk.out i hi)).2.1
      obtain ⟨B, cb, hu4, hBB, hRL⟩ := hAll.out.row (by intro h; have := HLn.out; rw [h] at this; cases this)
      rw [HLn.out] at hu4
      subst hu4
      have HRL : Hid (RowL wr B 0 ls) := hRL
      clear hRL hAll
      go_wp2_with fail
      refine (det2_any HA.out B 0 cb ls _ HLn.out hBd.out HRL.out).mono ?_
      rintro e w1 ⟨g1, a1, c1, f1, m1, e1, rfl, hl1, he0, he1, hK1, hL1, hF1, hb1⟩
      have HL1 : Hid (L1 w1 g1 a1 c1 f1 m1) := hL1
      have HK1 : Hid (atK 100000 m1 e1 = detK 100000 ds) := by unfold Hid; rw [hK1 100000 (by decide), HEQ.out]
      have HB1 : Hid (Below wr.heap.size wr w1) := hb1
      have hs1 := hb1.size
      clear hK1 hL1 hF1 hb1 HRL
      go_wp2_with fail
      refine (out2_any g1 a1 c1 f1 m1 e1 _ (by omega) (by omega) (by omega) HL1.out).mono ?_
      rintro e w2 ⟨G, Z, EZ, K, aw, cw, rfl, hres, hrw, hfar, hb2⟩
      have HRes : Hid (ResD true (detK 100000 ds) G Z EZ K) := by unfold Hid; rw [← HK1.out]; exact hres
      have HRw : Hid (RowAt .u32 w2 aw Z) := hrw
      have HFr : Hid (Far (w.heap.size + 1) aw Z) := hfar.down (by omega)
      have hB := HB1.out.trans (hb2.mono hs1)
      have HB2 : Hid (Below w.heap.size w w2) := HWr.out.trans (hB.mono (by omega))
      have s1 : w2.cell? ⟨w.heap.size, 0, none⟩ = some (.bool false) := by rw [(bcell hB).1 _ _ (by omega)]; exact q1
      have s2 : w2.cell? ⟨w.heap.size, 1, none⟩ = some (.slice none 0 0) := by rw [(bcell hB).1 _ _ (by omega)]; exact q2
      have s3 : w2.cell? ⟨w.heap.size, 2, none⟩ = some (.int .i64 0) := by rw [(bcell hB).1 _ _ (by omega)]; exact q3
      have s4 : ∀ j, w2.frozen? ⟨w.heap.size, j, none⟩ = false := fun j => by rw [(bcell hB).2 _ _ (by omega)]; exact q4 j
      clear hB hres hrw hfar hb2 q1 q2 q3 q4
      go_wp2
      refine bodyPost_ret (v := .tuple #[.agg #[.bool G, .slice aw Z.length cw, .int .i64 EZ], .int .i64 K]) (by simp [results, Tryd.results7, go_sem, s1, s2, s3]) rfl ?_
      rw [HAT.out]
      refine ⟨G, Z, EZ, K, aw, cw, rfl, HRes.out, ?_, HFr.out.down (by omega), ?_⟩
      · exact ((HRw.out.setAway (HFr.out.away (by simp)) _).setAway (HFr.out.away (by simp)) _).setAway (HFr.out.away (by simp)) _
      · exact ((HB2.out.setCell (by simp) _).setCell (by simp) _).setCell (by simp) _

end Go.Proofs.YtladfpljnaippabDoor
