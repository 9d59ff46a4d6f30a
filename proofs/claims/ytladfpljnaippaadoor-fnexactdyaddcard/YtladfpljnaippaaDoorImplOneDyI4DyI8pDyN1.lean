/-
  The program's one.
-/
import Derived.Test.YtladfpljnaippaaDoorImplB
import Derived.Test.YtladfpljnaippaaDoorRes
import Derived.Test.YtladfpljnaippaaDoorDyI3DyI4a
import Derived.Test.YtladfpljnaippaaDoorImplM
import Derived.Test.YtladfpljnaippaaDoorTz
import Derived.Test.YtladfpljnaippaaDoorNum
import Derived.Test.YtladfpljnaippaaDoorSpecD
namespace Go.Proofs.YtladfpljnaippaaDoor
open Go.RowKit

/-- What one hands back. -/
def OneOut (w : World) (e : Ending) (w' : World) : Prop := ∃ b, e = .returned (.agg #[.bool false, .slice (some ⟨b, 0, none⟩) 1 1]) ∧ w.heap.size ≤ b ∧ b < w'.heap.size ∧ w'.cell? ⟨b, 0, none⟩ = some (.int .u32 1) ∧ Below w.heap.size w w'

set_option maxHeartbeats 400000 in
theorem one_any (w : World) : Calls Tryd.prog 75 #[] w fun e w' => OneOut w e w' := by
  go_enter Tryd.func75, Tryd.ntmps75
  go_wp2
  refine bodyPost_ret (v := .agg #[.bool false, .slice (some ⟨w.heap.size + 1, 0, none⟩) 1 1]) (by simp [results, Tryd.results75, go_sem]) rfl ?_
  exact ⟨w.heap.size + 1, rfl, by omega, by simp, by simp [go_sem], bel2 _ _ _⟩

end Go.Proofs.YtladfpljnaippaaDoor

/-
  The program's products of dyadic numbers.
-/
namespace Go.Proofs.YtladfpljnaippaaDoor
open Go.RowKit

set_option maxRecDepth 100000 in
set_option maxHeartbeats 8000000 in
theorem prod_any (b off c : Nat) (ds : List DV) (w : World) (hn : ds.length ≤ 3) (hl : ∀ d, d ∈ ds → d.zs.length ≤ 512 ∧ -20000 ≤ d.E ∧ d.E ≤ 20000 ∧ B1 d.g d.zs (sg d.g (val 4294967296 d.zs))) (hd : RowD w b off ds) :
    Calls Tryd.prog 63 #[.slice (some ⟨b, off, none⟩) ds.length c] w fun e w' => ProdOut w (prodM ds) (sumE ds) (513 * ds.length + 1) e w' := by
  go_enter Tryd.func63, Tryd.ntmps63
  go_wp2_with fail
  refine (one_any _).mono ?_
  rintro e w1 ⟨bb, rfl, hbb0, hbb1, hbb2, hb1⟩
  have hb0 : w.heap.size + 1 ≤ bb := by simpa using hbb0
  have P0 : ∀ t, PD w w.heap.size w1.heap.size false (some ⟨bb, 0, none⟩) 1 [1] 1 0 (w1.alloc (.cells #[.bool false, .slice (some ⟨bb, 0, none⟩) 1 1, .int .i64 0] t)) := by
    intro t
    have hbw : Below (w.heap.size + 1) (w.alloc (.cells #[.bool false, .slice none 0 0, .int .i64 0] 27)) (w1.alloc (.cells #[.bool false, .slice (some ⟨bb, 0, none⟩) 1 1, .int .i64 0] t)) := (hb1.mono (by simp)).alloc (by omega) _
    refine ⟨?_, ?_, ?_, ?_, ?_, ?_, ?_, ?_, ⟨⟨Dig.cons (by decide) (by decide) (Dig.nil _), by decide⟩, by decide, fun h => by cases h⟩, ?_, ?_, .inr ⟨_, _, rfl, hb0⟩, ⟨Nat.le_refl _, by omega, by simp⟩, (bel0 _ _).trans (hbw.mono (by omega)), ⟨Nat.le_refl _, by unfold maxLen; omega⟩⟩
    · exact (hbw.cell (by simp)).trans (by simp [go_sem])
    · exact (hbw.cell (by simp)).trans (by simp [go_sem])
    · exact (hbw.cell (by simp)).trans (by simp [go_sem])
    · intro j
      exact (hbw.frozen (by simp)).trans (by simp [go_sem])
    · simp [go_sem]
    · simp [go_sem]
    · simp [go_sem]
    · simp [go_sem]
    · refine .inr ⟨bb, 0, rfl, by simp; omega, fun j hj => ?_⟩
      have : j = 0 := by simp at hj; omega
      subst this
      rw [World.cell?_alloc_past _ _ _ hbb1]
      simpa using hbb2
    · intro b o e1 _
      injection e1 with e1
      have : bb = b := congrArg Addr.block e1
      omega
  have oR : w.heap.size < w1.heap.size := by omega
  clear hbb0 hbb1 hbb2 hb1 hb0
  go_wp2
  have P1 := P0 27
  clear P0
  obtain ⟨X, hX⟩ : ∃ X, X = w1.alloc (.cells #[.bool false, .slice (some ⟨bb, 0, none⟩) 1 1, .int .i64 0] 27) := ⟨_, rfl⟩
  rw [← hX] at P1 ⊢
  clear hX
  obtain ⟨A, hA⟩ : ∃ A, A = w1.heap.size := ⟨_, rfl⟩
  rw [← hA] at P1 oR ⊢
  clear hA
  have HP0 : Hid (PD w w.heap.size A false (some ⟨bb, 0, none⟩) 1 [1] 1 0 X) := P1
  clear P1
  go_loopw [5, 10] (fun _ si wr => ∃ (i : Nat) (G : Bool) (a : Option Addr) (ca : Nat) (fs : List Int), i ≤ ds.length ∧ si = .int .i64 i ∧ fs.length ≤ 513 * i + 1 ∧ -20000 * (i : Int) ≤ sumE (ds.take i) ∧ sumE (ds.take i) ≤ 20000 * (i : Int) ∧ Hid (PD w w.heap.size (A) G a ca fs (prodM (ds.take i)) (sumE (ds.take i)) wr)) (fun _ si _ => ds.length - (intOf si).toNat)
  case atStart => exact ⟨0, false, _, 1, [1], Nat.zero_le _, rfl, by simp, by simp [sumE], by simp [sumE], HP0⟩
  case round =>
    obtain ⟨i, G, a, ca, fs, hi, rfl, hfl, hs0, hs1, hP⟩ := hrel
    clear HP0
    have hd2 := hd.later hP.out.bel
    by_cases hlt : i < ds.length
    · have g0 := hd2.c0 i hlt
      have g1 := hd2.c1 i hlt
      have g2 := hd2.c2 i hlt
      have g3 := hd2.row i hlt
      obtain ⟨d, hdd⟩ : ∃ d, d = ds.getD i default := ⟨_, rfl⟩
      rw [← hdd] at g0 g1 g2 g3
      have hib : (i : Int) < ds.length := by omega
      have hmem : d ∈ ds := by rw [hdd, List.getD_eq_getElem?_getD, List.getElem?_eq_getElem hlt]; exact List.getElem_mem hlt
      obtain ⟨hd5, hE0, hE1, hBd⟩ := hl d hmem
      have htk : ds.take (i + 1) = ds.take i ++ [d] := by
        rw [List.take_succ_eq_append_getElem hlt, hdd, List.getD_eq_getElem?_getD, List.getElem?_eq_getElem hlt]
        rfl
      have HPM : Hid (prodM (ds.take (i + 1)) = prodM (ds.take i) * sg d.g (val 4294967296 d.zs)) := by unfold Hid; rw [htk, prodM_snoc]
      have HSE : Hid (sumE (ds.take (i + 1)) = sumE (ds.take i) + d.E) := by unfold Hid; rw [htk, sumE_snoc]
      have G3 : Hid (RowAt .u32 wr d.a d.zs) := g3
      obtain ⟨M, hM⟩ : ∃ M, M = prodM (ds.take i) := ⟨_, rfl⟩
      obtain ⟨S, hS⟩ : ∃ S, S = sumE (ds.take i) := ⟨_, rfl⟩
      rw [← hM] at HPM hP
      rw [← hS] at HSE hP hs0 hs1
      clear hdd hmem g3 hd2 htk hM hS
      have z0 := hP.out.a1
      have z1 := hP.out.a2
      have z2 := hP.out.a3
      have z3 := hP.out.a4
      have oA : A < wr.heap.size := hP.out.ord.2.2
      have hSE0 : -9223372036854775808 ≤ S + d.E := by omega
      have hSE1 : S + d.E ≤ 9223372036854775807 := by omega
      go_wp2
      have hWB : Below wr.heap.size wr (wr.alloc (.cells #[.bool d.g, .slice d.a d.zs.length d.c, .int .i64 d.E] 27)).drew := (bel0 _ _).drew
      have HWE : Hid ((wr.alloc (.cells #[.bool d.g, .slice d.a d.zs.length d.c, .int .i64 d.E] 27)).drew.cell? ⟨wr.heap.size, 2, none⟩ = some (.int .i64 d.E)) := by unfold Hid; simp [go_sem]
      have HWS : Hid (wr.heap.size < (wr.alloc (.cells #[.bool d.g, .slice d.a d.zs.length d.c, .int .i64 d.E] 27)).drew.heap.size) := by unfold Hid; simp [go_sem]
      go_region_with
        (first
          | (go_at_call 76; refine (productOf_any G d.g a d.a ca d.c fs d.zs M (sg d.g (val 4294967296 d.zs)) _ (by omega) (by omega) (hP.out.later hWB).row (G3.out.later hWB) hP.out.b1 hBd).mono ?_; rintro e w2 ⟨g2, a2, c2, f2, rfl, hB2, hl2, hr2, hb2⟩; have P2 : Hid (PD w w.heap.size (A) G a ca fs M S w2) := (hP.out.later hWB).later hb2; have y0 := P2.out.a1; have y1 := P2.out.a2; have y2 := P2.out.a3; have y3 := P2.out.a4; have y4 := (hb2.cell (p := ⟨wr.heap.size, 2, none⟩) HWS.out).trans HWE.out))
      all_goals
        have HF : Far wr.heap.size a2 f2 := hr2.far (Nat.le_refl _) (by have := HWS.out; omega)
        have PN := P2.out.put (c' := c2) (e' := S + d.E) hB2 hr2.row HF oA (by omega)
        rw [← HPM.out, ← HSE.out] at PN
        have HPN : Hid (PD w w.heap.size (A) g2 a2 c2 f2 (prodM (ds.take (i + 1))) (sumE (ds.take (i + 1))) (((w2.setCell ⟨A, 0, none⟩ (.bool g2)).setCell ⟨A, 1, none⟩ (.slice a2 f2.length c2)).setCell ⟨A, 2, none⟩ (.int .i64 (S + d.E)))) := by
          unfold Hid
          have h2 := HSE.out
          rw [h2] at PN
          rw [h2]
          exact PN
        have hl3 : f2.length ≤ 513 * (i + 1) + 1 := by omega
        have hq0 : -20000 * ((i : Int) + 1) ≤ S + d.E := by omega
        have hq1 : S + d.E ≤ 20000 * ((i : Int) + 1) := by omega
        clear PN hB2 hr2 hb2 P2 HF y0 y1 y2 y3 y4 z0 z1 z2 z3
        go_wp2
        go_roundw
        case rel => exact ⟨i + 1, g2, a2, c2, f2, by omega, by go_num, hl3, by rw [HSE.out]; simpa using hq0, by rw [HSE.out]; simpa using hq1, HPN⟩
        case measure => simp [intOf]; omega
    · have hin : i = ds.length := by omega
      subst hin
      rw [List.take_length] at hP hs0 hs1
      have z0 := hP.out.a1
      have z1 := hP.out.a2
      have z2 := hP.out.a3
      have r1 := hP.out.r1
      have r2 := hP.out.r2
      have r3 := hP.out.r3
      have r4 := hP.out.r4
      obtain ⟨S, hS⟩ : ∃ S, S = sumE ds := ⟨_, rfl⟩
      have HS : Hid (S = sumE ds) := hS
      rw [← hS] at hP z2
      clear hS hd2
      go_wp2
      refine bodyPost_ret (v := .agg #[.bool G, .slice a fs.length ca, .int .i64 S]) (by simp [results, Tryd.results63, go_sem, r1, r2, r3]) rfl ?_
      refine ⟨G, a, ca, fs, by rw [HS.out], hP.out.b1, ⟨hfl, hP.out.cap⟩, ?_, hP.out.far.down (by omega), ?_⟩
      · have ho := hP.out.off
        exact ((hP.out.row.setAway (fun b o e1 hne => (ho b o e1 hne).2) _).setAway (fun b o e1 hne => (ho b o e1 hne).2) _).setAway (fun b o e1 hne => (ho b o e1 hne).2) _
      · exact ((hP.out.bel.setCell (by simp) _).setCell (by simp) _).setCell (by simp) _

end Go.Proofs.YtladfpljnaippaaDoor

/-
  Products of factors, as the sums of products take them.
-/
namespace Go.Proofs.YtladfpljnaippaaDoor

theorem prodSaysJ : ProdSays := fun b off c ds w hn hl hd => prod_any b off c ds w hn hl hd

end Go.Proofs.YtladfpljnaippaaDoor

/-
  The program: the zeros below the lowest bit that is set.
-/
namespace Go.Proofs.YtladfpljnaippaaDoor
open Go.RowKit

set_option maxHeartbeats 2000000 in
theorem lowZ_any (a : Option Addr) (c : Nat) (zs : List Int) (w : World) (hn : zs.length ≤ 100000) (hz : RowAt .u32 w a zs) (hcz : Canon 4294967296 zs) (hne : zs ≠ []) (hT : Tab w) :
    Calls Tryd.prog 50 #[.slice a zs.length c] w fun e w' => ∃ t : Nat, e = .returned (.int .i64 t) ∧ t ≤ 32 * zs.length ∧ Twos (val 4294967296 zs) t ∧ Below w.heap.size w w' := by
  have HP : Hid (0 < val 4294967296 zs) := val_pos (B := 4294967296) (by decide) hcz hne
  have HD : Hid (Dig 4294967296 zs) := hcz.1
  obtain ⟨b, off, rfl, hb, hc⟩ := hz.resolve_left hne
  have HC : Hid (∀ j, j < zs.length → w.cell? ⟨b, off + j, none⟩ = some (.int .u32 (zs.getD j 0))) := hc
  have HT : Hid (Tab w) := hT
  have hlen : zs.length ≠ 0 := fun e => hne (List.length_eq_zero_iff.1 e)
  clear hz hcz hne hc hT hb
  go_enter Tryd.func50, Tryd.ntmps50
  go_wp2
  go_loop [3, 4, 7] (fun _ _ i => ∃ j : Nat, j < zs.length ∧ i = .int .i64 j ∧ Hid (anyN (zs.take j) = false)) (fun _ _ i => zs.length - (intOf i).toNat)
  case atStart => exact ⟨0, by omega, rfl, rfl⟩
  case round =>
    obtain ⟨j, hj, rfl, hany⟩ := hrel
    have g1 := HC.out j hj
    have hst := anyN_take hj
    obtain ⟨y, hy⟩ : ∃ y, y = zs.getD j 0 := ⟨_, rfl⟩
    have hyb := HD.out.at (by decide) j
    rw [← hy] at g1 hst hyb
    have hji : (j : Int) < zs.length := by omega
    by_cases hy0 : y = 0
    · have hany2 : anyN (zs.take (j + 1)) = false := by rw [hst, hany.out, hy0]; rfl
      have hj2 : j + 1 < zs.length := by
        by_cases hp : j + 1 < zs.length
        · exact hp
        · have : zs.take (j + 1) = zs := List.take_of_length_le (by omega)
          rw [this, anyN_false (B := 4294967296) (by decide) HD.out] at hany2
          have := HP.out
          omega
      have HA : Hid (anyN (zs.take (j + 1)) = false) := hany2
      subst hy0
      clear hst hany hany2 hy
      go_wp2
      go_round
      case rel => exact ⟨j + 1, hj2, by go_num, HA⟩
      case measure => simp [intOf]; omega
    · have hy1 : (y != 0) = true := by rw [bne_iff_ne]; exact hy0
      have HV0 : Hid (val 4294967296 (zs.take j) = 0) := (anyN_false (B := 4294967296) (by decide) (HD.out.take j)).1 hany.out
      have HY : Hid (y = zs.getD j 0) := hy
      obtain ⟨hyb0, hyb1⟩ := hyb
      clear hst hany hy
      go_wp2_with fail
      refine (tz_any y _ (by omega) hyb1 HT.out).mono ?_
      rintro e w1 ⟨t, rfl, ht, ⟨q, hq, ho⟩, hb1⟩
      have HT2 : Hid (Twos (val 4294967296 zs) (32 * j + t)) := twos_of (b := 32) hj HV0.out (by rw [← HY.out]; exact hq) ho ht
      have HB : Hid (Below w.heap.size w w1) := hb1
      have ht' : (t : Int) < 32 := by omega
      clear hb1 hq ho
      go_wp2
      refine bodyPost_ret (v := .int .i64 (32 * (j : Int) + t)) (by simp [results, Tryd.results50, go_sem]) rfl ?_
      exact ⟨32 * j + t, by simp, by omega, HT2.out, HB.out⟩

end Go.Proofs.YtladfpljnaippaaDoor
