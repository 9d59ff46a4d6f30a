/-
  The program's one.
-/
import Derived.Test.YtladfpljnaippabDoorImplB
import Derived.Test.YtladfpljnaippabDoorRes
import Derived.Test.YtladfpljnaippabDoorGrow3FactsDetFDyI4a
import Derived.Test.YtladfpljnaippabDoorDetIDetJImplM
import Derived.Test.YtladfpljnaippabDoorDetQDy3hDetR
namespace Go.Proofs.YtladfpljnaippabDoor
open Go.RowKit

/-- What one hands back. -/
def OneOut (w : World) (e : Ending) (w' : World) : Prop := ∃ b, e = .returned (.agg #[.bool false, .slice (some ⟨b, 0, none⟩) 1 1]) ∧ w.heap.size ≤ b ∧ b < w'.heap.size ∧ w'.cell? ⟨b, 0, none⟩ = some (.int .u32 1) ∧ Below w.heap.size w w'

set_option maxHeartbeats 400000 in
theorem one_any (w : World) : Calls Tryd.prog 110 #[] w fun e w' => OneOut w e w' := by
  go_enter Tryd.func110, Tryd.ntmps110
  go_wp2
  refine bodyPost_ret (v := .agg #[.bool false, .slice (some ⟨w.heap.size + 1, 0, none⟩) 1 1]) (by simp [results, Tryd.results110, go_sem]) rfl ?_
  exact ⟨w.heap.size + 1, rfl, by omega, by simp, by simp [go_sem], bel2 _ _ _⟩

end Go.Proofs.YtladfpljnaippabDoor

/-
  The program's products of dyadic numbers.
-/
namespace Go.Proofs.YtladfpljnaippabDoor
open Go.RowKit

set_option maxRecDepth 100000 in
set_option maxHeartbeats 8000000 in
theorem prod_any (b off c : Nat) (ds : List DV) (w : World) (hn : ds.length ≤ 3) (hl : ∀ d, d ∈ ds → d.zs.length ≤ 512 ∧ -20000 ≤ d.E ∧ d.E ≤ 20000 ∧ B1 d.g d.zs (sg d.g (val 4294967296 d.zs))) (hd : RowD w b off ds) :
    Calls Tryd.prog 83 #[.slice (some ⟨b, off, none⟩) ds.length c] w fun e w' => ProdOut w (prodM ds) (sumE ds) (513 * ds.length + 1) e w' := by
  go_enter Tryd.func83, Tryd.ntmps83
  go_wp2_with fail
  refine (one_any _).mono ?_
  rintro e w1 ⟨bb, rfl, hbb0, hbb1, hbb2, hb1⟩
  have hb0 : w.heap.size + 1 ≤ bb := by simpa using hbb0
  have P0 : ∀ t, PD w w.heap.size w1.heap.size false (some ⟨bb, 0, none⟩) 1 [1] 1 0 (w1.alloc (.cells #[.bool false, .slice (some ⟨bb, 0, none⟩) 1 1, .int .i64 0] t)) := by
    intro t
    have hbw : Below (w.heap.size + 1) (w.alloc (.cells #[.bool false, .slice none 0 0, .int .i64 0] 29)) (w1.alloc (.cells #[.bool false, .slice (some ⟨bb, 0, none⟩) 1 1, .int .i64 0] t)) := (hb1.mono (by simp)).alloc (by omega) _
    refine ⟨?_, ?_, ?_, ?_, ?_, ?_, ?_, ?_, ⟨⟨Dig.cons (by decide) (by decide) (Dig.nil _), by decide⟩, by decide, fun h => by cases h⟩, ?_, ?_, .inr ⟨_, _, rfl, hb0⟩, ⟨Nat.le_refl _, by omega, by simp⟩, (bel0 _ _).trans (hbw.mono (by omega)), ⟨Nat.le_refl _, by unfold maxLen; omega⟩⟩
    · exact (hbw.cell (by simp)).trans (by simp [go_sem])
    · exact (hbw.cell (by simp)).trans (by simp [go_sem])
    · exact (hbw.cell (by simp)).trans (by simp [go_sem])
    · intro j
      exact (hbw.frozen (by simp)).trans (by simp [go_sem])
    · simp [go_sem]
    · simp [go_sem]
    · simp [go_sem]
    · simp [go_sem]
    · refine .inr ⟨bb, 0, rfl, by simp; omega, fun j hj => ?_⟩
      have : j = 0 := by simp at hj; omega
      subst this
      rw [World.cell?_alloc_past _ _ _ hbb1]
      simpa using hbb2
    · intro b o e1 _
      injection e1 with e1
      have : bb = b := congrArg Addr.block e1
      omega
  have oR : w.heap.size < w1.heap.size := by omega
  clear hbb0 hbb1 hbb2 hb1 hb0
  go_wp2
  have P1 := P0 29
  clear P0
  obtain ⟨X, hX⟩ : ∃ X, X = w1.alloc (.cells #[.bool false, .slice (some ⟨bb, 0, none⟩) 1 1, .int .i64 0] 29) := ⟨_, rfl⟩
  rw [← hX] at P1 ⊢
  clear hX
  obtain ⟨A, hA⟩ : ∃ A, A = w1.heap.size := ⟨_, rfl⟩
  rw [← hA] at P1 oR ⊢
  clear hA
  have HP0 : Hid (PD w w.heap.size A false (some ⟨bb, 0, none⟩) 1 [1] 1 0 X) := P1
  clear P1
  go_loopw [5, 10] (fun _ si wr => ∃ (i : Nat) (G : Bool) (a : Option Addr) (ca : Nat) (fs : List Int), i ≤ ds.length ∧ si = .int .i64 i ∧ fs.length ≤ 513 * i + 1 ∧ -20000 * (i : Int) ≤ sumE (ds.take i) ∧ sumE (ds.take i) ≤ 20000 * (i : Int) ∧ Hid (PD w w.heap.size (A) G a ca fs (prodM (ds.take i)) (sumE (ds.take i)) wr)) (fun _ si _ => ds.length - (intOf si).toNat)
  case atStart => exact ⟨0, false, _, 1, [1], Nat.zero_le _, rfl, by simp, by simp [sumE], by simp [sumE], HP0⟩
  case round =>
    obtain ⟨i, G, a, ca, fs, hi, rfl, hfl, hs0, hs1, hP⟩ := hrel
    clear HP0
    have hd2 := hd.later hP.out.bel
    by_cases hlt : i < ds.length
    · have g0 := hd2.c0 i hlt
      have g1 := hd2.c1 i hlt
      have g2 := hd2.c2 i hlt
      have g3 := hd2.row i hlt
      obtain ⟨d, hdd⟩ : ∃ d, d = ds.getD i default := ⟨_, rfl⟩
      rw [← hdd] at g0 g1 g2 g3
      have hib : (i : Int) < ds.length := by omega
      have hmem : d ∈ ds := by rw [hdd, List.getD_eq_getElem?_getD, List.getElem?_eq_getElem hlt]; exact List.getElem_mem hlt
      obtain ⟨hd5, hE0, hE1, hBd⟩ := hl d hmem
      have htk : ds.take (i + 1) = ds.take i ++ [d] := by
        rw [List.take_succ_eq_append_getElem hlt, hdd, List.getD_eq_getElem?_getD, List.getElem?_eq_getElem hlt]
        rfl
      have HPM : Hid (prodM (ds.take (i + 1)) = prodM (ds.take i) * sg d.g (val 4294967296 d.zs)) := by unfold Hid; rw [htk, prodM_snoc]
      have HSE : Hid (sumE (ds.take (i + 1)) = sumE (ds.take i) + d.E) := by unfold Hid; rw [htk, sumE_snoc]
      have G3 : Hid (RowAt .u32 wr d.a d.zs) := g3
      obtain ⟨M, hM⟩ : ∃ M, M = prodM (ds.take i) := ⟨_, rfl⟩
      obtain ⟨S, hS⟩ : ∃ S, S = sumE (ds.take i) := ⟨_, rfl⟩
      rw [← hM] at HPM hP
      rw [← hS] at HSE hP hs0 hs1
      clear hdd hmem g3 hd2 htk hM hS
      have z0 := hP.out.a1
      have z1 := hP.out.a2
      have z2 := hP.out.a3
      have z3 := hP.out.a4
      have oA : A < wr.heap.size := hP.out.ord.2.2
      have hSE0 : -9223372036854775808 ≤ S + d.E := by omega
      have hSE1 : S + d.E ≤ 9223372036854775807 := by omega
      go_wp2
      have hWB : Below wr.heap.size wr (wr.alloc (.cells #[.bool d.g, .slice d.a d.zs.length d.c, .int .i64 d.E] 29)).drew := (bel0 _ _).drew
      have HWE : Hid ((wr.alloc (.cells #[.bool d.g, .slice d.a d.zs.length d.c, .int .i64 d.E] 29)).drew.cell? ⟨wr.heap.size, 2, none⟩ = some (.int .i64 d.E)) := by unfold Hid; simp [go_sem]
      have HWS : Hid (wr.heap.size < (wr.alloc (.cells #[.bool d.g, .slice d.a d.zs.length d.c, .int .i64 d.E] 29)).drew.heap.size) := by unfold Hid; simp [go_sem]
      go_region_with
        (first
          | (go_at_call 111; refine (productOf_any G d.g a d.a ca d.c fs d.zs M (sg d.g (val 4294967296 d.zs)) _ (by omega) (by omega) (hP.out.later hWB).row (G3.out.later hWB) hP.out.b1 hBd).mono ?_; rintro e w2 ⟨g2, a2, c2, f2, rfl, hB2, hl2, hr2, hb2⟩; have P2 : Hid (PD w w.heap.size (A) G a ca fs M S w2) := (hP.out.later hWB).later hb2; have y0 := P2.out.a1; have y1 := P2.out.a2; have y2 := P2.out.a3; have y3 := P2.out.a4; have y4 := (hb2.cell (p := ⟨wr.heap.size, 2, none⟩) HWS.out).trans HWE.out))
      all_goals
        have HF : Far wr.heap.size a2 f2 := hr2.far (Nat.le_refl _) (by have := HWS.out; omega)
        have PN := P2.out.put (c' := c2) (e' := S + d.E) hB2 hr2.row HF oA (by omega)
        rw [← HPM.out, ← HSE.out] at PN
        have HPN : Hid (PD w w.heap.size (A) g2 a2 c2 f2 (prodM (ds.take (i + 1))) (sumE (ds.take (i + 1))) (((w2.setCell ⟨A, 0, none⟩ (.bool g2)).setCell ⟨A, 1, none⟩ (.slice a2 f2.length c2)).setCell ⟨A, 2, none⟩ (.int .i64 (S + d.E)))) := by
          unfold Hid
          have h2 := HSE.out
          rw [h2] at PN
          rw [h2]
          exact PN
        have hl3 : f2.length ≤ 513 * (i + 1) + 1 := by omega
        have hq0 : -20000 * ((i : Int) + 1) ≤ S + d.E := by omega
        have hq1 : S + d.E ≤ 20000 * ((i : Int) + 1) := by omega
        clear PN hB2 hr2 hb2 P2 HF y0 y1 y2 y3 y4 z0 z1 z2 z3
        go_wp2
        go_roundw
        case rel => exact ⟨i + 1, g2, a2, c2, f2, by omega, by go_num, hl3, by rw [HSE.out]; simpa using hq0, by rw [HSE.out]; simpa using hq1, HPN⟩
        case measure => simp [intOf]; omega
    · have hin : i = ds.length := by omega
      subst hin
      rw [List.take_length] at hP hs0 hs1
      have z0 := hP.out.a1
      have z1 := hP.out.a2
      have z2 := hP.out.a3
      have r1 := hP.out.r1
      have r2 := hP.out.r2
      have r3 := hP.out.r3
      have r4 := hP.out.r4
      obtain ⟨S, hS⟩ : ∃ S, S = sumE ds := ⟨_, rfl⟩
      have HS : Hid (S = sumE ds) := hS
      rw [← hS] at hP z2
      clear hS hd2
      go_wp2
      refine bodyPost_ret (v := .agg #[.bool G, .slice a fs.length ca, .int .i64 S]) (by simp [results, Tryd.results83, go_sem, r1, r2, r3]) rfl ?_
      refine ⟨G, a, ca, fs, by rw [HS.out], hP.out.b1, ⟨hfl, hP.out.cap⟩, ?_, hP.out.far.down (by omega), ?_⟩
      · have ho := hP.out.off
        exact ((hP.out.row.setAway (fun b o e1 hne => (ho b o e1 hne).2) _).setAway (fun b o e1 hne => (ho b o e1 hne).2) _).setAway (fun b o e1 hne => (ho b o e1 hne).2) _
      · exact ((hP.out.bel.setCell (by simp) _).setCell (by simp) _).setCell (by simp) _

end Go.Proofs.YtladfpljnaippabDoor

/-
  Products of factors, as the sums of products take them.
-/
namespace Go.Proofs.YtladfpljnaippabDoor

theorem prodSaysJ : ProdSays := fun b off c ds w hn hl hd => prod_any b off c ds w hn hl hd

end Go.Proofs.YtladfpljnaippabDoor

/-
  The program's DyDet, whole.
-/
namespace Go.Proofs.YtladfpljnaippabDoor
open Go.RowKit

theorem none_listed (n i : Nat) : (Array.replicate n false).getD i false = false := by
  by_cases h : i < n
  · simp [h]
  · simp [Array.getElem?_eq_none (xs := Array.replicate n false) (i := i) (by simp; omega)]

set_option maxRecDepth 100000 in
set_option maxHeartbeats 2000000 in
theorem det_region {Q : Exit → Act → World → Prop} {b off c R : Nat} {ds : List DV} {a0 : Act} {w : World} (hQ : ∀ ch (a : Act) d v w, Q (.panic ch) (a.put d v) w → Q (.panic ch) a w)
    (h0 : a0.tmps.getD 0 undef = .slice (some ⟨b, off, none⟩) 9 c) (h2 : a0.tmps.getD 2 undef = .pointer (some ⟨R, 0, none⟩)) (hsz : a0.tmps.size = 81)
    (hd : RowD w b off ds) (hlen : ds.length = 9) (hfi : ∀ d, d ∈ ds → d.fine) (hT : Tab w)
    (hR : R < w.heap.size) (x0 x1 x2 : Value) (r1 : w.cell? ⟨R, 0, none⟩ = some x0) (r2 : w.cell? ⟨R, 1, none⟩ = some x1) (r3 : w.cell? ⟨R, 2, none⟩ = some x2) (r4 : ∀ j, w.frozen? ⟨R, j, none⟩ = false)
    (hfin : ∀ (a : Act) (W : World) (G : Bool) (Z : List Int) (E K : Int) (a5 : Option Addr) (c5 : Nat), a.tmps.getD 2 undef = .pointer (some ⟨R, 0, none⟩) → a.tmps.getD 3 undef = .int .i64 K → a.tmps.size = 81 → a.defers = a0.defers → ResD true (detK 100000 ds) G Z E K → RowNew .u32 W w.heap.size a5 Z → Below w.heap.size w W →
      Q .normal a (((W.setCell ⟨R, 0, none⟩ (.bool G)).setCell ⟨R, 1, none⟩ (.slice a5 Z.length c5)).setCell ⟨R, 2, none⟩ (.int .i64 E))) :
    (Code.region 3 detOps true).wp Tryd.prog Q a0 w := by
  refine wp_region_any (by kernel_rfl) ?_
  have hb0 : Below w.heap.size w w.drew := (Below.refl _ _).drew
  show wpAny Tryd.prog .any detOps Q detOps.size (Array.replicate detOps.size false) a0 w.drew
  have rb : ∀ j, w.drew.cell? ⟨R, j, none⟩ = w.cell? ⟨R, j, none⟩ := fun j => hb0.cell (p := ⟨R, j, none⟩) hR
  refine facts_any (F := fun i => KF b off c w.heap.size ds (kd i)) (a0 := a0) (w0 := w.drew) det_text hsz (fun i v w1 w2 hb h => KF.later _ _ _ _ hb h)
    (det_step prodSaysJ h0 (hd.later hb0) hlen hfi (hT.later hb0))
    (fun listed a w1 hall hI _ => det_end (w0 := w.drew) hQ h2 hsz hR x0 x1 x2 ((rb 0).trans r1) ((rb 1).trans r2) ((rb 2).trans r3) (fun j => (hb0.frozen (p := ⟨R, j, none⟩) hR).trans (r4 j)) (fun a W G Z E K a5 c5 g1 g2 g3 g4 g5 g6 g7 => hfin a W G Z E K a5 c5 g1 g2 g3 g4 g5 g6 (hb0.trans g7)) listed a w1 hall hI)
    detOps.size (Array.replicate detOps.size false) a0 w.drew ⟨rfl, rfl, fun _ _ => rfl, ?_, by simp, ?_, ?_, Below.refl _ _⟩ ?_
  · intro i o t _ _ _ hl
    rw [none_listed] at hl
    cases hl
  · intro i _ hi
    simp [hi]
  · intro i o _ hl
    rw [none_listed] at hl
    cases hl
  · simp [List.count_replicate]

set_option maxRecDepth 100000 in
set_option maxHeartbeats 4000000 in
theorem detDI_bad9 (a : Option Addr) (n c : Nat) (v : Int) (w : World) (hn : n ≠ 9) :
    Calls Tryd.prog 10 #[.slice a n c] w fun e w' => OutDI w false v e w' := by
  have hni : ¬ ((n : Int) = 9) := by omega
  go_enter Tryd.func10, Tryd.ntmps10
  go_wp2_with fail
  refine bodyPost_ret (v := .tuple #[.agg #[.bool false, .slice none 0 0, .int .i64 0], .int .i64 1]) (by simp [results, Tryd.results10, go_sem]) rfl ?_
  refine ⟨false, [], 0, 1, none, 0, rfl, .inl ⟨rfl, rfl, rfl, rfl, rfl⟩, .inl rfl, ?_⟩
  first | exact bel0 _ _ | exact (((bel0 w _).setCell (by simp) _).setCell (by simp) _).setCell (by simp) _

set_option maxRecDepth 100000 in
set_option maxHeartbeats 4000000 in
theorem detDI_bad (b off c : Nat) (ds : List DV) (v : Int) (w : World) (hlen : ds.length = 9) (hl : ∀ d, d ∈ ds → d.zs.length ≤ 1048576) (hd : RowD w b off ds) (hv : ds.all DV.ok = false) :
    Calls Tryd.prog 10 #[.slice (some ⟨b, off, none⟩) 9 c] w fun e w' => OutDI w false v e w' := by
  go_enter Tryd.func10, Tryd.ntmps10
  go_wp2_with fail
  have hc := validsI_any b off c ds _ (by omega) hl (hd.later (bel0 w (.cells #[.bool false, .slice none 0 0, .int .i64 0] 29)))
  rw [hlen] at hc
  refine hc.mono ?_
  rintro e w1 ⟨rfl, hb1⟩
  rw [hv]
  have r1 : w1.cell? ⟨w.heap.size, 0, none⟩ = some (.bool false) := by rw [(bcell hb1).1 _ _ (by simp)]; simp [go_sem]
  have r2 : w1.cell? ⟨w.heap.size, 1, none⟩ = some (.slice none 0 0) := by rw [(bcell hb1).1 _ _ (by simp)]; simp [go_sem]
  have r3 : w1.cell? ⟨w.heap.size, 2, none⟩ = some (.int .i64 0) := by rw [(bcell hb1).1 _ _ (by simp)]; simp [go_sem]
  have r4 : ∀ j, w1.frozen? ⟨w.heap.size, j, none⟩ = false := fun j => by rw [(bcell hb1).2 _ _ (by simp)]; simp [go_sem]
  have HB : Hid (Below w.heap.size w w1) := (bel0 _ _).trans (hb1.mono (by simp))
  clear hb1 hc hd hl
  go_wp2
  refine bodyPost_ret (v := .tuple #[.agg #[.bool false, .slice none 0 0, .int .i64 0], .int .i64 1]) (by simp [results, Tryd.results10, go_sem, r1, r2, r3]) rfl ?_
  refine ⟨false, [], 0, 1, none, 0, rfl, .inl ⟨rfl, rfl, rfl, rfl, rfl⟩, .inl rfl, ?_⟩
  exact ((HB.out.setCell (by simp) _).setCell (by simp) _).setCell (by simp) _

set_option maxRecDepth 100000 in
set_option maxHeartbeats 4000000 in
theorem detDI_ok (b off c : Nat) (ds : List DV) (w : World) (hlen : ds.length = 9) (hl : ∀ d, d ∈ ds → U32 d.zs) (hl2 : ∀ d, d ∈ ds → d.zs.length ≤ 1048576) (hd : RowD w b off ds) (hv : ds.all DV.ok = true) (hT : Tab w) :
    Calls Tryd.prog 10 #[.slice (some ⟨b, off, none⟩) 9 c] w fun e w' => OutDI w true (detK 100000 ds) e w' := by
  have hfi : ∀ d, d ∈ ds → d.fine := by
    intro d hm
    obtain ⟨vb, h1, h2⟩ := validD_parts (List.all_eq_true.1 hv d hm)
    exact ⟨(valid_canon (hl d hm) vb).2.1, h1, h2, B1.of_valid (hl d hm) vb⟩
  go_enter Tryd.func10, Tryd.ntmps10
  go_wp2_with fail
  have hc := validsI_any b off c ds _ (by omega) hl2 (hd.later (bel0 w (.cells #[.bool false, .slice none 0 0, .int .i64 0] 29)))
  rw [hlen] at hc
  refine hc.mono ?_
  rintro e w1 ⟨rfl, hb1⟩
  rw [hv]
  have r1 : w1.cell? ⟨w.heap.size, 0, none⟩ = some (.bool false) := by rw [(bcell hb1).1 _ _ (by simp)]; simp [go_sem]
  have r2 : w1.cell? ⟨w.heap.size, 1, none⟩ = some (.slice none 0 0) := by rw [(bcell hb1).1 _ _ (by simp)]; simp [go_sem]
  have r3 : w1.cell? ⟨w.heap.size, 2, none⟩ = some (.int .i64 0) := by rw [(bcell hb1).1 _ _ (by simp)]; simp [go_sem]
  have r4 : ∀ j, w1.frozen? ⟨w.heap.size, j, none⟩ = false := fun j => by rw [(bcell hb1).2 _ _ (by simp)]; simp [go_sem]
  have hs1 : w.heap.size + 1 ≤ w1.heap.size := by have := hb1.size; simp at this; omega
  have HB : Hid (Below w.heap.size w w1) := (bel0 _ _).trans (hb1.mono (by simp))
  have HD : Hid (RowD w1 b off ds) := hd.later HB.out
  have HT : Hid (Tab w1) := hT.later HB.out
  have HF : Hid (∀ d, d ∈ ds → d.fine) := hfi
  have HL : Hid (ds.length = 9) := hlen
  clear hb1 hc hd hl hl2 hfi hT hv hlen
  go_wp2_with fail
  refine det_region (R := w.heap.size) ?_ rfl rfl rfl HD.out HL.out HF.out HT.out (by omega) _ _ _ r1 r2 r3 r4 ?_
  · intro ch a d v w h
    cases d <;> exact h
  · intro a W G Z E K a5 c5 g1 g2 g3 g4 hres hrow hbel
    rename_i Q' K' hk
    apply hk
    apply wp_ret
    have g1' : a.tmps[2]?.getD undef = .pointer (some ⟨w.heap.size, 0, none⟩) := by simpa using g1
    have g2' : a.tmps[3]?.getD undef = .int .i64 K := by simpa using g2
    have hs2 := hbel.size
    have r1' : W.cell? ⟨w.heap.size, 0, none⟩ = some (.bool false) := (hbel.cell (p := ⟨w.heap.size, 0, none⟩) (show w.heap.size < w1.heap.size by omega)).trans r1
    have r2' : W.cell? ⟨w.heap.size, 1, none⟩ = some (.slice none 0 0) := (hbel.cell (p := ⟨w.heap.size, 1, none⟩) (show w.heap.size < w1.heap.size by omega)).trans r2
    have r3' : W.cell? ⟨w.heap.size, 2, none⟩ = some (.int .i64 0) := (hbel.cell (p := ⟨w.heap.size, 2, none⟩) (show w.heap.size < w1.heap.size by omega)).trans r3
    refine bodyPost_ret (v := .tuple #[.agg #[.bool G, .slice a5 Z.length c5, .int .i64 E], .int .i64 K]) (by simp [results, Tryd.results10, go_sem, g1', g2', r1', r2', r3']) g4 ?_
    refine ⟨G, Z, E, K, a5, c5, rfl, hres, ?_, ?_⟩
    · exact (((hrow.setLow (show w.heap.size < w1.heap.size by omega) _).setLow (show w.heap.size < w1.heap.size by omega) _).setLow (show w.heap.size < w1.heap.size by omega) _).down (by omega)
    · exact (((HB.out.trans (hbel.mono HB.out.size)).setCell (Nat.le_refl _) _).setCell (Nat.le_refl _) _).setCell (Nat.le_refl _) _

theorem detDI_any (b off c : Nat) (ds : List DV) (w : World) (hlen : ds.length = 9) (hl : ∀ d, d ∈ ds → U32 d.zs) (hl2 : ∀ d, d ∈ ds → d.zs.length ≤ 1048576) (hd : RowD w b off ds) (hT : Tab w) :
    Calls Tryd.prog 10 #[.slice (some ⟨b, off, none⟩) 9 c] w fun e w' => OutDI w (ds.all DV.ok) (detK 100000 ds) e w' := by
  cases hv : ds.all DV.ok
  · exact detDI_bad b off c ds _ w hlen hl2 hd hv
  · exact detDI_ok b off c ds w hlen hl hl2 hd hv hT

end Go.Proofs.YtladfpljnaippabDoor
