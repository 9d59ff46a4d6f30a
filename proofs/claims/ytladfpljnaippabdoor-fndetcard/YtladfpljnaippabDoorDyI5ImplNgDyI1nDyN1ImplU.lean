/-
  The program's sums of products.
-/
import Derived.Test.YtladfpljnaippabDoorDetPGrow3FactsDetFDyI4a
import Derived.Test.YtladfpljnaippabDoorImplB
import Derived.Test.YtladfpljnaippabDoorBox1
import Derived.Test.YtladfpljnaippabDoorRes
import Derived.Test.YtladfpljnaippabDoorImplCToDyI2
import Derived.Test.YtladfpljnaippabDoorTz
import Derived.Test.YtladfpljnaippabDoorNum
import Derived.Test.YtladfpljnaippabDoorSpecD
import Derived.Test.YtladfpljnaippabDoorImplS
namespace Go.Proofs.YtladfpljnaippabDoor
open Go.RowKit

/-- A list of factors: where it lies. -/
structure TV where
  b : Nat
  off : Nat
  c : Nat
  ds : List DV

instance : Inhabited TV := ⟨⟨0, 0, 0, []⟩⟩

/-- Block b from off on holds the lists ts. -/
structure RowT (w : World) (b off : Nat) (ts : List TV) : Prop where
  lt : b < w.heap.size
  c0 : ∀ i, i < ts.length → w.cell? ⟨b, off + i, none⟩ = some (.slice (some ⟨(ts.getD i default).b, (ts.getD i default).off, none⟩) (ts.getD i default).ds.length (ts.getD i default).c)
  row : ∀ i, i < ts.length → RowD w (ts.getD i default).b (ts.getD i default).off (ts.getD i default).ds

theorem RowT.later {w w' : World} {b off : Nat} {ts : List TV} (h : RowT w b off ts) (hb : Below w.heap.size w w') : RowT w' b off ts :=
  ⟨Nat.lt_of_lt_of_le h.lt hb.size, fun i hi => (hb.cell (p := ⟨b, off + i, none⟩) h.lt).trans (h.c0 i hi), fun i hi => (h.row i hi).later hb⟩

/-- A factor that may stand in a product. -/
def DV.fine (d : DV) : Prop := d.zs.length ≤ 512 ∧ -20000 ≤ d.E ∧ d.E ≤ 20000 ∧ B1 d.g d.zs (sg d.g (val 4294967296 d.zs))

def sumK (K : Int) (ts : List TV) : Int := (ts.map fun t => atK K (prodM t.ds) (sumE t.ds)).foldl (· + ·) 0
theorem sumK_snoc (K : Int) (ts : List TV) (t : TV) : sumK K (ts ++ [t]) = sumK K ts + atK K (prodM t.ds) (sumE t.ds) := by simp [sumK]

theorem sumE_from (ds : List DV) (s : Int) : (ds.map fun d => d.E).foldl (· + ·) s = s + sumE ds := by
  induction ds generalizing s with
  | nil => simp [sumE]
  | cons d ds ih =>
    simp only [List.map_cons, List.foldl_cons, sumE]
    rw [ih, ih]
    omega

theorem sumE_bound : ∀ ds : List DV, (∀ d, d ∈ ds → d.fine) → -20000 * (ds.length : Int) ≤ sumE ds ∧ sumE ds ≤ 20000 * (ds.length : Int)
  | [], _ => by simp [sumE]
  | d :: ds, h => by
    have ih := sumE_bound ds (fun d' h' => h d' (List.mem_cons_of_mem _ h'))
    have h1 := (h d List.mem_cons_self)
    have h2 := h1.2.1
    have h3 := h1.2.2.1
    have e : sumE (d :: ds) = d.E + sumE ds := by
      simp only [sumE, List.map_cons, List.foldl_cons]
      rw [sumE_from]
      simp [sumE]
    rw [e, List.length_cons]
    omega

/-- What sumOfProducts hands back. -/
def SumProd (w : World) (ts : List TV) (n : Nat) (e : Ending) (w' : World) : Prop :=
  ∃ (G : Bool) (a : Option Addr) (c : Nat) (fs : List Int) (m e' : Int), e = .returned (.agg #[.bool G, .slice a fs.length c, .int .i64 e']) ∧ B1 G fs m ∧ (fs.length ≤ n ∧ fs.length ≤ c ∧ c ≤ maxLen) ∧ (∀ K, 60000 ≤ K → atK K m e' = sumK K ts) ∧ -60000 ≤ e' ∧ e' ≤ 60000 ∧ RowAt .u32 w' a fs ∧ Far w.heap.size a fs ∧ Below w.heap.size w w'

set_option maxRecDepth 100000 in
set_option maxHeartbeats 8000000 in
theorem sumP_any (HPR : ProdSays) (b off c : Nat) (ts : List TV) (w : World) (hn : ts.length ≤ 6) (hl : ∀ t, t ∈ ts → t.ds.length ≤ 3 ∧ ∀ d, d ∈ t.ds → d.fine) (hd : RowT w b off ts) :
    Calls Tryd.prog 40 #[.slice (some ⟨b, off, none⟩) ts.length c] w fun e w' => SumProd w ts (9043 * ts.length) e w' := by
  go_enter Tryd.func40, Tryd.ntmps40
  go_wp2
  have P0 : PD w w.heap.size (w.heap.size + 1) false none 0 [] 0 0 ((w.alloc (.cells #[.bool false, .slice none 0 0, .int .i64 0] 29)).alloc (.cells #[.bool false, .slice none 0 0, .int .i64 0] 29)) := by
    refine ⟨?_, ?_, ?_, ?_, ?_, ?_, ?_, ?_, ⟨⟨Dig.nil _, rfl⟩, by decide, fun h => by cases h⟩, .inl rfl, (fun b o e1 hne => absurd rfl hne), .inl rfl, ⟨Nat.le_refl _, by omega, by simp⟩, bel2 _ _ _, ⟨Nat.le_refl _, Nat.zero_le _⟩⟩
    all_goals simp [go_sem]
  obtain ⟨X, hX⟩ : ∃ X, X = ((w.alloc (.cells #[.bool false, .slice none 0 0, .int .i64 0] 29)).alloc (.cells #[.bool false, .slice none 0 0, .int .i64 0] 29)) := ⟨_, rfl⟩
  rw [← hX] at P0 ⊢
  clear hX
  have HP0 : Hid (PD w w.heap.size (w.heap.size + 1) false none 0 [] 0 0 X) := P0
  clear P0
  go_loopw [5, 8] (fun _ si wr => ∃ (i : Nat) (G : Bool) (a : Option Addr) (ca : Nat) (fs : List Int) (m e : Int), i ≤ ts.length ∧ si = .int .i64 i ∧ fs.length ≤ 9043 * i ∧ -60000 ≤ e ∧ e ≤ 60000 ∧ Hid (∀ K, 60000 ≤ K → atK K m e = sumK K (ts.take i)) ∧ Hid (PD w w.heap.size (w.heap.size + 1) G a ca fs m e wr)) (fun _ si _ => ts.length - (intOf si).toNat)
  case atStart => exact ⟨0, false, none, 0, [], 0, 0, Nat.zero_le _, rfl, by simp, by decide, by decide, (fun K _ => by simp [atK, sumK]), HP0⟩
  case round =>
    obtain ⟨i, G, a, ca, fs, m, e, hi, rfl, hfl, he0, he1, hK, hP⟩ := hrel
    clear HP0
    have hd2 := hd.later hP.out.bel
    by_cases hlt : i < ts.length
    · have g0 := hd2.c0 i hlt
      have g3 := hd2.row i hlt
      obtain ⟨t, htt⟩ : ∃ t, t = ts.getD i default := ⟨_, rfl⟩
      rw [← htt] at g0 g3
      have hib : (i : Int) < ts.length := by omega
      have hmem : t ∈ ts := by rw [htt, List.getD_eq_getElem?_getD, List.getElem?_eq_getElem hlt]; exact List.getElem_mem hlt
      obtain ⟨ht3, htf⟩ := hl t hmem
      have hsb := sumE_bound t.ds htf
      have htk : ts.take (i + 1) = ts.take i ++ [t] := by
        rw [List.take_succ_eq_append_getElem hlt, htt, List.getD_eq_getElem?_getD, List.getElem?_eq_getElem hlt]
        rfl
      have G3 : Hid (RowD wr t.b t.off t.ds) := g3
      have HTK : Hid (ts.take (i + 1) = ts.take i ++ [t]) := htk
      have HSB : Hid (-60000 ≤ sumE t.ds ∧ sumE t.ds ≤ 60000) := by unfold Hid; omega
      have HTF : Hid (∀ d, d ∈ t.ds → d.fine) := htf
      clear htt hmem g3 hd2 htk hsb htf
      have z0 := hP.out.a1
      have z1 := hP.out.a2
      have z2 := hP.out.a3
      have z3 := hP.out.a4
      have oA : w.heap.size + 1 < wr.heap.size := hP.out.ord.2.2
      go_wp2
      go_region_with
        (first
          | (go_at_call 83; refine (HPR t.b t.off t.c t.ds _ ht3 HTF.out (G3.out.later (Below.refl _ _).drew)).mono ?_; rintro e1 w2 ⟨g2, a2, c2, f2, rfl, hB2, hl2, hr2, hF2, hb2⟩; have hWB : Below wr.heap.size wr w2 := (Below.refl _ _).drew.trans hb2; have P2 : Hid (PD w w.heap.size (w.heap.size + 1) G a ca fs m e w2) := hP.out.later hWB; have y0 := P2.out.a1; have y1 := P2.out.a2; have y2 := P2.out.a3; have y3 := P2.out.a4)
          | (go_at_call 82; refine (plusD_any G g2 a a2 ca c2 fs f2 m (prodM t.ds) e (sumE t.ds) _ (by omega) (by omega) (by have := HSB.out; omega) (by have := HSB.out; omega) P2.out.row hr2 P2.out.b1 hB2 P2.out.cap (by omega)).mono ?_; rintro e3 w3 ⟨g3, a3, c3, f3, m3, e3', rfl, hB3, hS3, hl3, hr3, hF3, hb3⟩; have P3 : Hid (PD w w.heap.size (w.heap.size + 1) G a ca fs m e w3) := P2.out.later hb3; have x0 := P3.out.a1; have x1 := P3.out.a2; have x2 := P3.out.a3; have x3 := P3.out.a4))
      all_goals
        have hs2 : wr.heap.size ≤ w2.heap.size := hWB.size
        have hF2' : Far wr.heap.size a2 f2 := hF2
        have ho3 : (∀ b o, a3 = some ⟨b, o, none⟩ → f3 ≠ [] → b ≠ w.heap.size + 1 ∧ b ≠ w.heap.size) ∧ Far (w.heap.size + 1) a3 f3 := by
          rcases hF3 with h | ⟨h1, h2⟩ | ⟨h1, h2⟩
          · exact ⟨h.offs (by omega) (by omega), h.down (by omega)⟩
          · rw [h1, h2]
            exact ⟨P3.out.off, P3.out.far⟩
          · rw [h1, h2]
            exact ⟨hF2'.offs (by omega) (by omega), hF2'.down (by omega)⟩
        have HPN : Hid (PD w w.heap.size (w.heap.size + 1) g3 a3 c3 f3 m3 e3' (((w3.setCell ⟨w.heap.size + 1, 0, none⟩ (.bool g3)).setCell ⟨w.heap.size + 1, 1, none⟩ (.slice a3 f3.length c3)).setCell ⟨w.heap.size + 1, 2, none⟩ (.int .i64 e3'))) := P3.out.lay hB3 hr3 ho3.1 ho3.2 (by omega)
        have HK3 : Hid (∀ K, 60000 ≤ K → atK K m3 e3' = sumK K (ts.take (i + 1))) := by
          intro K hK6
          have hb := HSB.out
          rw [HTK.out, sumK_snoc, hS3.2 K (by omega) (by omega), hK.out K hK6]
        have hbe : -60000 ≤ e3' ∧ e3' ≤ 60000 := by
          have hb := HSB.out
          rcases hS3.1 with h | h <;> omega
        have hlen : f3.length ≤ 9043 * (i + 1) := by omega
        obtain ⟨hbe0, hbe1⟩ := hbe
        clear hB2 hr2 hF2 hb2 hWB P2 y0 y1 y2 y3 hB3 hS3 hr3 hF3 hb3 P3 x0 x1 x2 x3 hF2' ho3 z0 z1 z2 z3 hK hP
        go_wp2
        go_roundw
        case rel => exact ⟨i + 1, g3, a3, c3, f3, m3, e3', by omega, by go_num, hlen, hbe0, hbe1, HK3, HPN⟩
        case measure => simp [intOf]; omega
    · have hin : i = ts.length := by omega
      subst hin
      have HK3 : Hid (∀ K, 60000 ≤ K → atK K m e = sumK K ts) := by intro K hK6; have := hK.out K hK6; rw [List.take_length] at this; exact this
      have z0 := hP.out.a1
      have z1 := hP.out.a2
      have z2 := hP.out.a3
      have r1 := hP.out.r1
      have r2 := hP.out.r2
      have r3 := hP.out.r3
      have r4 := hP.out.r4
      clear hd2 hK
      go_wp2
      refine bodyPost_ret (v := .agg #[.bool G, .slice a fs.length ca, .int .i64 e]) (by simp [results, Tryd.results40, go_sem, r1, r2, r3]) rfl ?_
      refine ⟨G, a, ca, fs, m, e, rfl, hP.out.b1, ⟨hfl, hP.out.cap⟩, HK3.out, he0, he1, ?_, hP.out.far.down (by omega), ?_⟩
      · have ho := hP.out.off
        exact ((hP.out.row.setAway (fun b o e1 hne => (ho b o e1 hne).2) _).setAway (fun b o e1 hne => (ho b o e1 hne).2) _).setAway (fun b o e1 hne => (ho b o e1 hne).2) _
      · exact ((hP.out.bel.setCell (by simp) _).setCell (by simp) _).setCell (by simp) _

end Go.Proofs.YtladfpljnaippabDoor

/-
  The program's negated Bigs, and its one.
-/
namespace Go.Proofs.YtladfpljnaippabDoor
open Go.RowKit

set_option maxRecDepth 100000 in
set_option maxHeartbeats 4000000 in
theorem negB_any (g : Bool) (a : Option Addr) (n c : Nat) (w : World) :
    Calls Tryd.prog 84 #[.agg #[.bool g, .slice a n c]] w fun e w' => e = .returned (.agg #[.bool (!g && decide (0 < n)), .slice a n c]) ∧ Below w.heap.size w w' := by
  have B0 : Hid (∀ t t', Bx1 w (.bool g) (.slice a n c) ((w.alloc (.cells #[.bool g, .slice a n c] t)).alloc (.cells #[.bool false, .slice none 0 0] t'))) := fun t t' => Bx1.start w _ _ _ _
  go_enter Tryd.func84, Tryd.ntmps84
  go_wp2_with fail
  refine (signed_any (!g) a n c _).mono ?_
  rintro e w2 ⟨rfl, hb2⟩
  have F2 : Hid (Bx1 w (.bool g) (.slice a n c) w2) := (B0.out _ _).later hb2
  have r1 := F2.out.r1
  have r2 := F2.out.r2
  have r3 := F2.out.r3
  have zz : w.heap.size + 1 < w2.heap.size := F2.out.le
  clear hb2 B0
  obtain ⟨G, hG⟩ : ∃ G, G = (!g && decide (0 < n)) := ⟨_, rfl⟩
  rw [← hG]
  have HG : Hid (G = (!g && decide (0 < n))) := hG
  clear hG
  go_wp2
  refine bodyPost_ret (v := .agg #[.bool G, .slice a n c]) (by simp [results, Tryd.results84, go_sem, r1, r2]) rfl ?_
  exact ⟨by rw [HG.out], (F2.out.bel.setCell (by simp) _).setCell (by simp) _⟩

end Go.Proofs.YtladfpljnaippabDoor

/-
  The program's negatives of dyadic numbers.
-/
namespace Go.Proofs.YtladfpljnaippabDoor
open Go.RowKit

set_option maxRecDepth 100000 in
set_option maxHeartbeats 4000000 in
theorem negI_any (g : Bool) (a : Option Addr) (c : Nat) (zs : List Int) (E : Int) (w : World) :
    Calls Tryd.prog 41 #[.agg #[.bool g, .slice a zs.length c, .int .i64 E]] w fun e w' => e = .returned (.agg #[.bool (!g && decide (0 < zs.length)), .slice a zs.length c, .int .i64 E]) ∧ Below w.heap.size w w' := by
  have B0 : Hid (∀ t t', Bx3 w (.bool g) (.slice a zs.length c) (.int .i64 E) ((w.alloc (.cells #[.bool g, .slice a zs.length c, .int .i64 E] t)).alloc (.cells #[.bool false, .slice none 0 0, .int .i64 0] t'))) := fun t t' => Bx3.start w _ _ _ _ _
  go_enter Tryd.func41, Tryd.ntmps41
  go_wp2
  obtain ⟨W0, hW0⟩ : ∃ W0, W0 = ((w.alloc (.cells #[.bool g, .slice a zs.length c, .int .i64 E] 29)).alloc (.cells #[.bool false, .slice none 0 0, .int .i64 0] 29)) := ⟨_, rfl⟩
  have F : Hid (Bx3 w (.bool g) (.slice a zs.length c) (.int .i64 E) W0) := by unfold Hid; rw [hW0]; exact B0.out _ _
  rw [← hW0]
  clear hW0 B0
  have zz : w.heap.size + 1 < W0.heap.size := F.out.le
  go_region_held3 (fun w' => w'.cell? ⟨w.heap.size, 0, none⟩ = some (.bool g) ∧ w'.cell? ⟨w.heap.size, 1, none⟩ = some (.slice a zs.length c) ∧ w'.cell? ⟨w.heap.size, 2, none⟩ = some (.int .i64 E) ∧ Below (w.heap.size + 1) W0 w')
    (first | exact F.out.held (Below.refl _ _).drew | exact F.out.held (by assumption) | exact F.out.held (Below.setCell (Below.setCell (Below.setCell (by assumption) (by simp) _) (by simp) _) (by simp) _))
    (first
      | (go_at_call 84; refine (negB_any g a zs.length c _).mono ?_; rintro e w2 ⟨rfl, hb2⟩; have hB2 : Below W0.heap.size W0 w2 := (Below.refl _ _).drew.trans hb2; have hB2' : Below (w.heap.size + 1) W0 w2 := hB2.mono (by omega); have F2 : Hid (Bx3 w (.bool g) (.slice a zs.length c) (.int .i64 E) w2) := F.out.later hB2; have r1 := F2.out.r1; have r2 := F2.out.r2; have r3 := F2.out.r3; have r4 := F2.out.r4))
  clear hB2 hB2' hb2
  obtain ⟨G, hG⟩ : ∃ G, G = (!g && decide (0 < zs.length)) := ⟨_, rfl⟩
  rw [← hG]
  have HG : Hid (G = (!g && decide (0 < zs.length))) := hG
  clear hG
  go_wp2
  refine bodyPost_ret (v := .agg #[.bool G, .slice a zs.length c, .int .i64 E]) (by simp [results, Tryd.results41, go_sem, r1, r2, r3]) rfl ?_
  exact ⟨by rw [HG.out], ((F2.out.bel.setCell (by simp) _).setCell (by simp) _).setCell (by simp) _⟩

end Go.Proofs.YtladfpljnaippabDoor

/-
  The program: the zeros below the lowest bit that is set.
-/
namespace Go.Proofs.YtladfpljnaippabDoor
open Go.RowKit

set_option maxHeartbeats 2000000 in
theorem lowZ_any (a : Option Addr) (c : Nat) (zs : List Int) (w : World) (hn : zs.length ≤ 100000) (hz : RowAt .u32 w a zs) (hcz : Canon 4294967296 zs) (hne : zs ≠ []) (hT : Tab w) :
    Calls Tryd.prog 79 #[.slice a zs.length c] w fun e w' => ∃ t : Nat, e = .returned (.int .i64 t) ∧ t ≤ 32 * zs.length ∧ Twos (val 4294967296 zs) t ∧ Below w.heap.size w w' := by
  have HP : Hid (0 < val 4294967296 zs) := val_pos (B := 4294967296) (by decide) hcz hne
  have HD : Hid (Dig 4294967296 zs) := hcz.1
  obtain ⟨b, off, rfl, hb, hc⟩ := hz.resolve_left hne
  have HC : Hid (∀ j, j < zs.length → w.cell? ⟨b, off + j, none⟩ = some (.int .u32 (zs.getD j 0))) := hc
  have HT : Hid (Tab w) := hT
  have hlen : zs.length ≠ 0 := fun e => hne (List.length_eq_zero_iff.1 e)
  clear hz hcz hne hc hT hb
  go_enter Tryd.func79, Tryd.ntmps79
  go_wp2
  go_loop [3, 4, 7] (fun _ _ i => ∃ j : Nat, j < zs.length ∧ i = .int .i64 j ∧ Hid (anyN (zs.take j) = false)) (fun _ _ i => zs.length - (intOf i).toNat)
  case atStart => exact ⟨0, by omega, rfl, rfl⟩
  case round =>
    obtain ⟨j, hj, rfl, hany⟩ := hrel
    have g1 := HC.out j hj
    have hst := anyN_take hj
    obtain ⟨y, hy⟩ : ∃ y, y = zs.getD j 0 := ⟨_, rfl⟩
    have hyb := HD.out.at (by decide) j
    rw [← hy] at g1 hst hyb
    have hji : (j : Int) < zs.length := by omega
    by_cases hy0 : y = 0
    · have hany2 : anyN (zs.take (j + 1)) = false := by rw [hst, hany.out, hy0]; rfl
      have hj2 : j + 1 < zs.length := by
        by_cases hp : j + 1 < zs.length
        · exact hp
        · have : zs.take (j + 1) = zs := List.take_of_length_le (by omega)
          rw [this, anyN_false (B := 4294967296) (by decide) HD.out] at hany2
          have := HP.out
          omega
      have HA : Hid (anyN (zs.take (j + 1)) = false) := hany2
      subst hy0
      clear hst hany hany2 hy
      go_wp2
      go_round
      case rel => exact ⟨j + 1, hj2, by go_num, HA⟩
      case measure => simp [intOf]; omega
    · have hy1 : (y != 0) = true := by rw [bne_iff_ne]; exact hy0
      have HV0 : Hid (val 4294967296 (zs.take j) = 0) := (anyN_false (B := 4294967296) (by decide) (HD.out.take j)).1 hany.out
      have HY : Hid (y = zs.getD j 0) := hy
      obtain ⟨hyb0, hyb1⟩ := hyb
      clear hst hany hy
      go_wp2_with fail
      refine (tz_any y _ (by omega) hyb1 HT.out).mono ?_
      rintro e w1 ⟨t, rfl, ht, ⟨q, hq, ho⟩, hb1⟩
      have HT2 : Hid (Twos (val 4294967296 zs) (32 * j + t)) := twos_of (b := 32) hj HV0.out (by rw [← HY.out]; exact hq) ho ht
      have HB : Hid (Below w.heap.size w w1) := hb1
      have ht' : (t : Int) < 32 := by omega
      clear hb1 hq ho
      go_wp2
      refine bodyPost_ret (v := .int .i64 (32 * (j : Int) + t)) (by simp [results, Tryd.results79, go_sem]) rfl ?_
      exact ⟨32 * j + t, by simp, by omega, HT2.out, HB.out⟩

end Go.Proofs.YtladfpljnaippabDoor

/-
  The program's shifts down.
-/
namespace Go.Proofs.YtladfpljnaippabDoor
open Go.RowKit

/-- A magnitude in new memory, and whether nothing was cut off. -/
def DownI (w : World) (v : Int) (n : Nat) (ex : Bool) (e : Ending) (w' : World) : Prop :=
  ∃ (a : Option Addr) (c : Nat) (fs : List Int), e = .returned (.tuple #[.slice a fs.length c, .bool ex]) ∧ fs.length ≤ c ∧ c ≤ maxLen ∧ Canon 4294967296 fs ∧ val 4294967296 fs = v ∧ fs.length ≤ n ∧ RowNew .u32 w' w.heap.size a fs ∧ Below w.heap.size w w'

theorem cut_all32 {ds : List Int} {n : Int} (hd : Canon 4294967296 ds) (n0 : 0 ≤ n) (h : (ds.length : Int) ≤ n / 32) : val 4294967296 ds / 2 ^ n.toNat = 0 ∧ lostB (val 4294967296 ds) (2 ^ n.toNat) = !decide (ds.length = 0) := by
  have h0 := val_nonneg (B := 4294967296) (by decide) hd.1
  have h1 := val_lt_pow (B := 4294967296) (by decide) hd.1
  have h2 : (4294967296 : Int) ^ ds.length ≤ 2 ^ n.toNat := by
    rw [show (4294967296 : Int) = 2 ^ 32 from rfl, ← Int.pow_mul]
    exact two_pow_le (by omega)
  refine ⟨Int.ediv_eq_zero_of_lt h0 (by omega), ?_⟩
  unfold lostB
  rw [Int.emod_eq_of_lt h0 (by omega)]
  by_cases e : ds.length = 0
  · have : ds = [] := List.length_eq_zero_iff.1 e
    subst this
    simp [val]
  · have := val_pos (B := 4294967296) (by decide) hd (fun h => e (by rw [h]; rfl))
    simp [e]
    omega

theorem cut_some32 {ds : List Int} {n : Int} (hd : Dig 4294967296 ds) (n0 : 0 ≤ n) (h : n / 32 < (ds.length : Int)) : val 4294967296 (downL 4294967296 (2 ^ (n % 32).toNat) (ds.drop (n / 32).toNat)) = val 4294967296 ds / 2 ^ n.toNat ∧ (lostB (val 4294967296 ds) (2 ^ n.toNat) = false ↔ (trimL (ds.take (n / 32).toNat) = [] ∧ ds.getD (n / 32).toNat 0 % 2 ^ (n % 32).toNat = 0)) := by
  obtain ⟨e1, e2⟩ := two32r n
  obtain ⟨e4, _⟩ := two32 n
  have hs : (n / 32).toNat ≤ ds.length := by omega
  rw [← pow32 n n0]
  refine ⟨val_cut e1 e4 e2 (by decide) hd hs, ?_⟩
  unfold lostB
  rw [decide_eq_false_iff_not, Decidable.not_not, cut_exact e4 ⟨_, e1⟩ (by decide) hd hs, trim_anyN]
  have h2 := anyN_val (B := 4294967296) (by decide) (hd.take (n / 32).toNat)
  by_cases h3 : val 4294967296 (ds.take (n / 32).toNat) = 0
  · have : anyN (ds.take (n / 32).toNat) = false := by
      cases h4 : anyN (ds.take (n / 32).toNat)
      · rfl
      · exact absurd h3 (h2.1 h4)
    simp [h3, this]
  · have : anyN (ds.take (n / 32).toNat) = true := h2.2 h3
    simp [h3, this]

/-- Shifted down and up again: nothing was lost, or it is less. -/
theorem back_eq {y q : Int} (_hq : 0 < q) : (y / q * q == y) = decide (y % q = 0) := by
  have h := Int.mul_ediv_add_emod y q
  rw [Int.mul_comm q] at h
  by_cases h0 : y % q = 0
  · rw [decide_eq_true h0, beq_iff_eq]; omega
  · rw [decide_eq_false h0, beq_eq_false_iff_ne]; omega

theorem or_high {y x : Int} (hy0 : 0 ≤ y) (hy1 : y < 4294967296) (hx0 : 0 ≤ x) (hx1 : x < 4294967296) : bits .or .u64 x (y * 4294967296) = x + 4294967296 * y := by
  obtain ⟨a, rfl⟩ := Int.eq_ofNat_of_zero_le hy0
  obtain ⟨b, rfl⟩ := Int.eq_ofNat_of_zero_le hx0
  have h := bits_or_u64_nat b (4294967296 * a) (by omega) (by omega)
  have h2 := Nat.two_pow_add_eq_or_of_lt (i := 32) (b := b) (by omega) a
  rw [show (a : Int) * 4294967296 = ((4294967296 * a : Nat) : Int) by omega, h, Nat.or_comm]
  have h3 : (4294967296 * a ||| b : Nat) = 4294967296 * a + b := h2.symm
  rw [h3]
  omega

set_option maxHeartbeats 400000 in
/-- trimmed, of a row that is read alone: where all is zero. -/
theorem trimR_nil (a : Option Addr) (c : Nat) (ds : List Int) (w : World) (hn : ds.length ≤ 1048576) (hz : RowAt .u32 w a ds) (ht0 : trimL ds = []) :
    Calls Tryd.prog 49 #[.slice a ds.length c] w fun e w' => e = .returned (.slice none 0 0) ∧ w' = w := by
  go_enter Tryd.func49, Tryd.ntmps49
  go_wp2
  go_loop [3] (fun i => ∃ m : Nat, m ≤ ds.length ∧ i = .int .i64 m ∧ Hid (trimL (ds.take m) = [])) (fun i => (intOf i).toNat)
  case atStart => exact ⟨ds.length, by omega, rfl, by unfold Hid; rw [List.take_length]; exact ht0⟩
  case round =>
    obtain ⟨m, hk, rfl, ht⟩ := hrel
    by_cases h0 : m = 0
    · subst h0
      go_wp2
      go_ret
      exact ⟨rfl, rfl⟩
    · obtain ⟨m, rfl⟩ : ∃ m', m = m' + 1 := ⟨m - 1, by omega⟩
      obtain ⟨b, off, rfl, g⟩ := row_cell hz (Below.refl _ _) (show m < ds.length by omega)
      have hz0 : ds.getD m 0 = 0 := by
        by_cases h : ds.getD m 0 = 0
        · exact h
        · have := trim_take_stop hk h
          rw [ht.out] at this
          have h2 := congrArg List.length this
          simp at h2
          omega
      rw [hz0] at g
      have HT : Hid (trimL (ds.take m) = []) := by unfold Hid; rw [← trim_take_step hk hz0]; exact ht.out
      clear ht hz0 ht0
      go_wp2
      go_round
      case rel => exact ⟨m, by omega, by go_num, HT⟩
      case measure => simp [intOf]

set_option maxHeartbeats 400000 in
/-- .. where not all is zero. -/
theorem trimR_cons (a : Option Addr) (c : Nat) (ds : List Int) (w : World) (_hn : ds.length ≤ 1048576) (hm : c ≤ maxLen) (hf : ds.length ≤ c) (hz : RowAt .u32 w a ds) (ht0 : trimL ds ≠ []) :
    Calls Tryd.prog 49 #[.slice a ds.length c] w fun e w' => e = .returned (.slice a (trimL ds).length c) ∧ w' = w := by
  unfold maxLen at hm
  have hne : ds ≠ [] := fun e => ht0 (by rw [e]; rfl)
  obtain ⟨b, off, rfl, hb, hc⟩ := hz.resolve_left hne
  go_enter Tryd.func49, Tryd.ntmps49
  go_wp2
  go_loop [3] (fun i => ∃ m : Nat, m ≤ ds.length ∧ i = .int .i64 m ∧ Hid (trimL (ds.take m) = trimL ds)) (fun i => (intOf i).toNat)
  case atStart => exact ⟨ds.length, by omega, rfl, by unfold Hid; rw [List.take_length]⟩
  case round =>
    obtain ⟨m, hk, rfl, ht⟩ := hrel
    by_cases h0 : m = 0
    · subst h0
      exact absurd (by rw [← ht.out]; simp [trimL]) ht0
    · obtain ⟨m, rfl⟩ : ∃ m', m = m' + 1 := ⟨m - 1, by omega⟩
      have g := hc m (by omega)
      have hm0 : ((m : Int) + 1 == 0) = false := by rw [beq_eq_false_iff_ne]; omega
      obtain ⟨y, hy⟩ : ∃ y, y = ds.getD m 0 := ⟨_, rfl⟩
      rw [← hy] at g
      by_cases hz0 : y = 0
      · have HT : Hid (trimL (ds.take m) = trimL ds) := by unfold Hid; rw [← trim_take_step hk (by rw [← hy]; exact hz0)]; exact ht.out
        subst hz0
        clear ht ht0 hc hy hne
        go_wp2
        go_round
        case rel => exact ⟨m, by omega, by go_num, HT⟩
        case measure => simp [intOf]
      · have hst := trim_take_stop hk (by rw [← hy]; exact hz0)
        rw [ht.out] at hst
        have HL : Hid ((trimL ds).length = m + 1) := by unfold Hid; rw [hst, List.length_take]; omega
        have hz1 : (y == 0) = false := by rw [beq_eq_false_iff_ne]; exact hz0
        clear ht ht0 hc hy hne hst
        go_wp2
        go_ret
        rw [HL.out]
        exact ⟨rfl, rfl⟩

theorem trimR_nil' (a : Option Addr) (c : Nat) (ds : List Int) (m : Nat) (w : World) (hm : ds.length = m) (hn : m ≤ 1048576) (hz : RowAt .u32 w a ds) (ht0 : trimL ds = []) :
    Calls Tryd.prog 49 #[.slice a m c] w fun e w' => e = .returned (.slice none 0 0) ∧ w' = w := by
  subst hm
  exact trimR_nil a c ds w hn hz ht0

theorem trimR_cons' (a : Option Addr) (c : Nat) (ds : List Int) (m : Nat) (w : World) (hl : ds.length = m) (hn : m ≤ 1048576) (hm : c ≤ maxLen) (hf : m ≤ c) (hz : RowAt .u32 w a ds) (ht0 : trimL ds ≠ []) :
    Calls Tryd.prog 49 #[.slice a m c] w fun e w' => e = .returned (.slice a (trimL ds).length c) ∧ w' = w := by
  subst hl
  exact trimR_cons a c ds w hn hm hf hz ht0

theorem drewN_below (w : World) (n : Nat) : Below w.heap.size w (w.drewN n) := below_drewN (Below.refl _ _) _

set_option maxHeartbeats 4000000 in
theorem downI_any (a : Option Addr) (p : Nat) (zs : List Int) (n : Int) (w : World) (hn : zs.length ≤ 100000) (hp : zs.length ≤ p) (hpm : p ≤ maxLen) (n0 : 0 ≤ n) (n1 : n ≤ 1000000) (hz : RowAt .u32 w a zs) (hcz : Canon 4294967296 zs) :
    Calls Tryd.prog 80 #[.slice a zs.length p, .int .i64 n] w fun e w' => DownI w (val 4294967296 zs / 2 ^ n.toNat) zs.length (!lostB (val 4294967296 zs) (2 ^ n.toNat)) e w' := by
  obtain ⟨q0, q1⟩ := two32 n
  obtain ⟨s, hs⟩ : ∃ s : Nat, n / 32 = (s : Int) := ⟨(n / 32).toNat, by omega⟩
  have hss : (n / 32).toNat = s := by omega
  have hdz := hcz.1
  unfold maxLen at hpm
  by_cases hA : (zs.length : Int) ≤ n / 32
  · obtain ⟨c1, c2⟩ := cut_all32 hcz n0 hA
    have HM : Hid (DownI w (val 4294967296 zs / 2 ^ n.toNat) zs.length (!lostB (val 4294967296 zs) (2 ^ n.toNat)) (.returned (.tuple #[.slice none 0 0, .bool ((zs.length : Int) == 0)])) w) := by
      unfold Hid
      rw [c1, c2]
      refine ⟨none, 0, [], ?_, by simp, by unfold maxLen; omega, ⟨Dig.nil _, rfl⟩, rfl, by simp, .inl rfl, Below.refl _ _⟩
      by_cases h : zs.length = 0
      · simp [h]
      · simp [h]
    rw [hs] at hA
    clear c1 c2 hdz hcz hz hss
    go_enter Tryd.func80, Tryd.ntmps80
    go_wp2
    refine bodyPost_ret (v := .tuple #[.slice none 0 0, .bool ((zs.length : Int) == 0)]) (by simp [results, Tryd.results80, go_sem]) rfl ?_
    exact HM.out
  · have hlt : s < zs.length := by omega
    obtain ⟨c1, c2⟩ := cut_some32 hdz n0 (by omega)
    rw [hss] at c1 c2
    obtain ⟨b, off, rfl, hb, hc⟩ := hz.resolve_left (by intro e; rw [e] at hlt; simp at hlt)
    have hmk := run_make_row' (P := Tryd.prog) 86 33 (.int .u32 0) 4 Tryd.underlying86 Tryd.info33 rfl .i64 .i64 (zs.length - s) (by omega) (by omega)
    have hy := hdz.at (by decide) s
    obtain ⟨y, hyy⟩ : ∃ y, y = zs.getD s 0 := ⟨_, rfl⟩
    rw [← hyy] at hy c2
    have g0 := hc s hlt
    rw [← hyy] at g0
    obtain ⟨hy0, hy1⟩ := hy
    have hd0 : 0 ≤ y / 2 ^ (n % 32).toNat := Int.ediv_nonneg hy0 (by omega)
    have hd1 : y / 2 ^ (n % 32).toNat * 2 ^ (n % 32).toNat ≤ y := Int.ediv_mul_le _ (by omega)
    have hd2 : 0 ≤ y / 2 ^ (n % 32).toNat * 2 ^ (n % 32).toNat := Int.mul_nonneg hd0 (by omega)
    have HC1 : Hid (val 4294967296 (downL 4294967296 (2 ^ (n % 32).toNat) (zs.drop s)) = val 4294967296 zs / 2 ^ n.toNat) := c1
    have HC2 : Hid (lostB (val 4294967296 zs) (2 ^ n.toNat) = false ↔ (trimL (zs.take s) = [] ∧ y % 2 ^ (n % 32).toNat = 0)) := c2
    have HDZ : Hid (Dig 4294967296 zs) := hdz
    have HZ : Hid (RowAt .u32 w (some ⟨b, off, none⟩) zs) := hz
    have HZ2 : Hid (RowAt .u32 w (some ⟨b, off, none⟩) (zs.take s)) := hz.take s
    have hts : (zs.take s).length = s := by rw [List.length_take]; omega
    have HTS : Hid ((zs.take s).length = s) := hts
    have hsl : (s : Int) < zs.length := by omega
    have hsp : (s : Int) ≤ p := by omega
    clear c1 c2 hdz hcz hz hss hA hyy hts hc
    by_cases ht : trimL (zs.take s) = []
    · have HT : Hid (trimL (zs.take s) = []) := ht
      have HEX : Hid ((y / 2 ^ (n % 32).toNat * 2 ^ (n % 32).toNat == y) = !lostB (val 4294967296 zs) (2 ^ n.toNat)) := by
        unfold Hid
        rw [back_eq q0]
        have h := HC2.out
        cases hl : lostB (val 4294967296 zs) (2 ^ n.toNat)
        · rw [decide_eq_true (h.1 hl).2]; rfl
        · rw [hl] at h
          rw [decide_eq_false (fun e => by have := h.2 ⟨ht, e⟩; cases this)]
          rfl
      clear ht
      go_enter Tryd.func80, Tryd.ntmps80
      go_wp2
      rw [hs]
      go_quiet (first | (go_at_call 49; refine Calls.quiet_of_same (trimR_nil' (some ⟨b, off, none⟩) p (zs.take s) s _ HTS.out (by omega) (HZ2.out.later (drewN_below _ _)) HT.out)))
      go_wp2
      go_loopw [52] (fun t wr => ∃ (k : Nat) (D : List Int), k ≤ zs.length - s ∧ D.length = k ∧ t = .int .i64 k ∧ Hid (downL 4294967296 (2 ^ (n % 32).toNat) (zs.drop s) = D ++ downL 4294967296 (2 ^ (n % 32).toNat) (zs.drop (s + k))) ∧
          Own .u32 wr w.heap.size 0 (D ++ List.replicate (zs.length - s - k) 0) ∧ Below w.heap.size w wr) (fun t _ => zs.length - s - (intOf t).toNat)
      case atStart =>
        refine ⟨0, [], Nat.zero_le _, rfl, rfl, rfl, ?_, ?_⟩
        · have := Own.made (k := .u32) (w.drewN nq) (zs.length - s) 33
          simpa using this
        · exact (drewN_below _ _).trans (by simpa using bel0 (w.drewN nq) _)
      case round =>
        obtain ⟨k, D, hk, hDl, rfl, hD, hown, hnx⟩ := hrel
        by_cases hlt2 : k < zs.length - s
        · have hk1 : s + k < zs.length := by omega
          have hb1 := HDZ.out.at (by decide) (s + k)
          have hb2 := HDZ.out.at (by decide) (s + k + 1)
          obtain ⟨b1, off1, hbb, g1⟩ := row_cell HZ.out hnx hk1
          have hbe : b1 = b ∧ off1 = off := by
            have h3 := Option.some.inj hbb
            exact ⟨(congrArg Addr.block h3).symm, (congrArg Addr.off h3).symm⟩
          obtain ⟨rfl, rfl⟩ := hbe
          have hst := down_drop (B := 4294967296) (q := 2 ^ (n % 32).toNat) hk1
          obtain ⟨x, hx⟩ : ∃ x, x = zs.getD (s + k) 0 := ⟨_, rfl⟩
          obtain ⟨x', hx'⟩ : ∃ x', x' = zs.getD (s + k + 1) 0 := ⟨_, rfl⟩
          rw [← hx] at hb1 g1 hst
          rw [← hx'] at hb2 hst
          rw [← Nat.add_assoc] at g1
          obtain ⟨hb10, hb11⟩ := hb1
          obtain ⟨hb20, hb21⟩ := hb2
          have g3 := hown.cell k (by simp; omega)
          have g4 := hown.free k (by simp; omega)
          rw [Nat.zero_add] at g3 g4
          by_cases h2 : k + 1 < zs.length - s
          · obtain ⟨b2, off2, hbb2, g2⟩ := row_cell HZ.out hnx (show s + k + 1 < zs.length by omega)
            have hbe2 : b2 = b1 ∧ off2 = off1 := by
              have h3 := Option.some.inj hbb2
              exact ⟨(congrArg Addr.block h3).symm, (congrArg Addr.off h3).symm⟩
            obtain ⟨rfl, rfl⟩ := hbe2
            rw [← hx', show off2 + (s + k + 1) = off2 + s + (k + 1) by omega] at g2
            have hor := or_high hb20 hb21 hb10 hb11
            have hw0 : 0 ≤ x + 4294967296 * x' := by omega
            have hw1 : x + 4294967296 * x' ≤ 18446744073709551615 := by omega
            have hw2 : 0 ≤ (x + 4294967296 * x') / 2 ^ (n % 32).toNat := Int.ediv_nonneg hw0 (by omega)
            have hs1 := hown.set k ((x + 4294967296 * x') / 2 ^ (n % 32).toNat % 4294967296) (by simp; omega)
            rw [Nat.zero_add, show zs.length - s - k = (zs.length - s - (k + 1)) + 1 by omega, List.replicate_succ, set_mid hDl] at hs1
            have HS : Hid (Own .u32 (wr.setCell ⟨w.heap.size, k, none⟩ (.int .u32 ((x + 4294967296 * x') / 2 ^ (n % 32).toNat % 4294967296))) w.heap.size 0 ((D ++ [(x + 4294967296 * x') / 2 ^ (n % 32).toNat % 4294967296]) ++ List.replicate (zs.length - s - (k + 1)) 0)) := by unfold Hid; simpa using hs1
            have HB : Hid (Below w.heap.size w (wr.setCell ⟨w.heap.size, k, none⟩ (.int .u32 ((x + 4294967296 * x') / 2 ^ (n % 32).toNat % 4294967296)))) := hnx.setCell (Nat.le_refl _) _
            have HD : Hid (downL 4294967296 (2 ^ (n % 32).toNat) (zs.drop s) = (D ++ [(x + 4294967296 * x') / 2 ^ (n % 32).toNat % 4294967296]) ++ downL 4294967296 (2 ^ (n % 32).toNat) (zs.drop (s + (k + 1)))) := by unfold Hid; rw [hD.out, hst]; simp [Nat.add_assoc]
            have HL : Hid (D.length = k) := hDl
            clear hst hx hx' hD hown hnx hs1 hbb hbb2 hDl hd0 hd1 hd2 g0
            go_wp2
            go_roundw
            case rel => exact ⟨k + 1, D ++ [(x + 4294967296 * x') / 2 ^ (n % 32).toNat % 4294967296], by omega, by rw [List.length_append, HL.out]; rfl, by go_num, HD, HS.out, HB.out⟩
            case measure => simp [intOf]; omega
          · have hx0 : x' = 0 := by rw [hx']; exact getD_out (by omega)
            have hq1 : 0 ≤ x / 2 ^ (n % 32).toNat := Int.ediv_nonneg hb10 (by omega)
            have hq2 : x / 2 ^ (n % 32).toNat ≤ x := Int.ediv_le_self _ hb10
            have hq3 : x / 2 ^ (n % 32).toNat ≤ 4294967295 := by omega
            rw [hx0, Int.mul_zero, Int.add_zero, Int.emod_eq_of_lt hq1 (by omega)] at hst
            have hs1 := hown.set k (x / 2 ^ (n % 32).toNat) (by simp; omega)
            rw [Nat.zero_add, show zs.length - s - k = (zs.length - s - (k + 1)) + 1 by omega, List.replicate_succ, set_mid hDl] at hs1
            have HS : Hid (Own .u32 (wr.setCell ⟨w.heap.size, k, none⟩ (.int .u32 (x / 2 ^ (n % 32).toNat))) w.heap.size 0 ((D ++ [x / 2 ^ (n % 32).toNat]) ++ List.replicate (zs.length - s - (k + 1)) 0)) := by unfold Hid; simpa using hs1
            have HB : Hid (Below w.heap.size w (wr.setCell ⟨w.heap.size, k, none⟩ (.int .u32 (x / 2 ^ (n % 32).toNat)))) := hnx.setCell (Nat.le_refl _) _
            have HD : Hid (downL 4294967296 (2 ^ (n % 32).toNat) (zs.drop s) = (D ++ [x / 2 ^ (n % 32).toNat]) ++ downL 4294967296 (2 ^ (n % 32).toNat) (zs.drop (s + (k + 1)))) := by unfold Hid; rw [hD.out, hst]; simp [Nat.add_assoc]
            have HL : Hid (D.length = k) := hDl
            clear hst hx hx' hx0 hb20 hb21 hD hown hnx hs1 hbb hDl hd0 hd1 hd2 g0
            go_wp2
            go_roundw
            case rel => exact ⟨k + 1, D ++ [x / 2 ^ (n % 32).toNat], by omega, by rw [List.length_append, HL.out]; rfl, by go_num, HD, HS.out, HB.out⟩
            case measure => simp [intOf]; omega
        · have hkn : k = zs.length - s := by omega
          subst hkn
          have hDD : downL 4294967296 (2 ^ (n % 32).toNat) (zs.drop s) = D := by
            rw [hD.out, List.drop_eq_nil_of_le (by omega)]; simp [downL]
          have hown' : Own .u32 wr w.heap.size 0 D := by simpa using hown
          have HVV : Hid (val 4294967296 D = val 4294967296 zs / 2 ^ n.toNat) := by unfold Hid; rw [← hDD]; exact HC1.out
          have HG : Hid (Dig 4294967296 D) := by unfold Hid; rw [← hDD]; exact dig_down (by decide) _ _
          have HS : Hid (Own .u32 wr w.heap.size 0 D) := hown'
          have HB : Hid (Below w.heap.size w wr) := hnx
          have HLR : Hid (zs.length - s = D.length) := hDl.symm
          clear hown' hDD hD hown hnx hDl g0 hd0 hd1 hd2
          go_wp2_with fail
          rw [HLR.out]
          have e1 := HLR.out
          refine (trimmed_any _ _ D _ w.heap.size (by rw [← e1]; omega) (by rw [← e1]; unfold maxLen; omega) (Nat.le_refl _) (fun h => by cases h) (HS.out.new (Nat.le_refl _))).mono ?_
          rintro e w1 ⟨a2, c2, rfl, hf2, hm2, hr2, hw⟩
          subst hw
          have HM : Hid (DownI w (val 4294967296 zs / 2 ^ n.toNat) zs.length (!lostB (val 4294967296 zs) (2 ^ n.toNat)) (.returned (.tuple #[.slice a2 (trimL D).length c2, .bool (y / 2 ^ (n % 32).toNat * 2 ^ (n % 32).toNat == y)])) w1) := by
            refine ⟨a2, c2, trimL D, by rw [HEX.out], hf2, hm2, canon_trim HG.out, by rw [val_trim, HVV.out], ?_, hr2, HB.out⟩
            have := trim_le D
            omega
          clear hf2 hm2 hr2 HG HVV HB HS e1 HEX
          go_wp2
          refine bodyPost_ret (v := .tuple #[.slice a2 (trimL D).length c2, .bool (y / 2 ^ (n % 32).toNat * 2 ^ (n % 32).toNat == y)]) (by simp [results, Tryd.results80, go_sem]) rfl ?_
          exact HM.out
    · have HT : Hid (trimL (zs.take s) ≠ []) := ht
      have hl0 : ((trimL (zs.take s)).length : Int) ≠ 0 := by
        intro e
        exact ht (List.length_eq_zero_iff.1 (by omega))
      have hl1 : (((trimL (zs.take s)).length : Int) == 0) = false := by rw [beq_eq_false_iff_ne]; exact hl0
      have HEX : Hid (false = !lostB (val 4294967296 zs) (2 ^ n.toNat)) := by
        unfold Hid
        have h := HC2.out
        cases hl : lostB (val 4294967296 zs) (2 ^ n.toNat)
        · exact absurd (h.1 hl).1 ht
        · rfl
      clear ht hl0
      go_enter Tryd.func80, Tryd.ntmps80
      go_wp2
      rw [hs]
      go_quiet (first | (go_at_call 49; refine Calls.quiet_of_same (trimR_cons' (some ⟨b, off, none⟩) p (zs.take s) s _ HTS.out (by omega) (by unfold maxLen; omega) (by omega) (HZ2.out.later (drewN_below _ _)) HT.out)))
      go_wp2
      go_loopw [52] (fun t wr => ∃ (k : Nat) (D : List Int), k ≤ zs.length - s ∧ D.length = k ∧ t = .int .i64 k ∧ Hid (downL 4294967296 (2 ^ (n % 32).toNat) (zs.drop s) = D ++ downL 4294967296 (2 ^ (n % 32).toNat) (zs.drop (s + k))) ∧
          Own .u32 wr w.heap.size 0 (D ++ List.replicate (zs.length - s - k) 0) ∧ Below w.heap.size w wr) (fun t _ => zs.length - s - (intOf t).toNat)
      case atStart =>
        refine ⟨0, [], Nat.zero_le _, rfl, rfl, rfl, ?_, ?_⟩
        · have := Own.made (k := .u32) (w.drewN nq) (zs.length - s) 33
          simpa using this
        · exact (drewN_below _ _).trans (by simpa using bel0 (w.drewN nq) _)
      case round =>
        obtain ⟨k, D, hk, hDl, rfl, hD, hown, hnx⟩ := hrel
        by_cases hlt2 : k < zs.length - s
        · have hk1 : s + k < zs.length := by omega
          have hb1 := HDZ.out.at (by decide) (s + k)
          have hb2 := HDZ.out.at (by decide) (s + k + 1)
          obtain ⟨b1, off1, hbb, g1⟩ := row_cell HZ.out hnx hk1
          have hbe : b1 = b ∧ off1 = off := by
            have h3 := Option.some.inj hbb
            exact ⟨(congrArg Addr.block h3).symm, (congrArg Addr.off h3).symm⟩
          obtain ⟨rfl, rfl⟩ := hbe
          have hst := down_drop (B := 4294967296) (q := 2 ^ (n % 32).toNat) hk1
          obtain ⟨x, hx⟩ : ∃ x, x = zs.getD (s + k) 0 := ⟨_, rfl⟩
          obtain ⟨x', hx'⟩ : ∃ x', x' = zs.getD (s + k + 1) 0 := ⟨_, rfl⟩
          rw [← hx] at hb1 g1 hst
          rw [← hx'] at hb2 hst
          rw [← Nat.add_assoc] at g1
          obtain ⟨hb10, hb11⟩ := hb1
          obtain ⟨hb20, hb21⟩ := hb2
          have g3 := hown.cell k (by simp; omega)
          have g4 := hown.free k (by simp; omega)
          rw [Nat.zero_add] at g3 g4
          by_cases h2 : k + 1 < zs.length - s
          · obtain ⟨b2, off2, hbb2, g2⟩ := row_cell HZ.out hnx (show s + k + 1 < zs.length by omega)
            have hbe2 : b2 = b1 ∧ off2 = off1 := by
              have h3 := Option.some.inj hbb2
              exact ⟨(congrArg Addr.block h3).symm, (congrArg Addr.off h3).symm⟩
            obtain ⟨rfl, rfl⟩ := hbe2
            rw [← hx', show off2 + (s + k + 1) = off2 + s + (k + 1) by omega] at g2
            have hor := or_high hb20 hb21 hb10 hb11
            have hw0 : 0 ≤ x + 4294967296 * x' := by omega
            have hw1 : x + 4294967296 * x' ≤ 18446744073709551615 := by omega
            have hw2 : 0 ≤ (x + 4294967296 * x') / 2 ^ (n % 32).toNat := Int.ediv_nonneg hw0 (by omega)
            have hs1 := hown.set k ((x + 4294967296 * x') / 2 ^ (n % 32).toNat % 4294967296) (by simp; omega)
            rw [Nat.zero_add, show zs.length - s - k = (zs.length - s - (k + 1)) + 1 by omega, List.replicate_succ, set_mid hDl] at hs1
            have HS : Hid (Own .u32 (wr.setCell ⟨w.heap.size, k, none⟩ (.int .u32 ((x + 4294967296 * x') / 2 ^ (n % 32).toNat % 4294967296))) w.heap.size 0 ((D ++ [(x + 4294967296 * x') / 2 ^ (n % 32).toNat % 4294967296]) ++ List.replicate (zs.length - s - (k + 1)) 0)) := by unfold Hid; simpa using hs1
            have HB : Hid (Below w.heap.size w (wr.setCell ⟨w.heap.size, k, none⟩ (.int .u32 ((x + 4294967296 * x') / 2 ^ (n % 32).toNat % 4294967296)))) := hnx.setCell (Nat.le_refl _) _
            have HD : Hid (downL 4294967296 (2 ^ (n % 32).toNat) (zs.drop s) = (D ++ [(x + 4294967296 * x') / 2 ^ (n % 32).toNat % 4294967296]) ++ downL 4294967296 (2 ^ (n % 32).toNat) (zs.drop (s + (k + 1)))) := by unfold Hid; rw [hD.out, hst]; simp [Nat.add_assoc]
            have HL : Hid (D.length = k) := hDl
            clear hst hx hx' hD hown hnx hs1 hbb hbb2 hDl hd0 hd1 hd2 g0
            go_wp2
            go_roundw
            case rel => exact ⟨k + 1, D ++ [(x + 4294967296 * x') / 2 ^ (n % 32).toNat % 4294967296], by omega, by rw [List.length_append, HL.out]; rfl, by go_num, HD, HS.out, HB.out⟩
            case measure => simp [intOf]; omega
          · have hx0 : x' = 0 := by rw [hx']; exact getD_out (by omega)
            have hq1 : 0 ≤ x / 2 ^ (n % 32).toNat := Int.ediv_nonneg hb10 (by omega)
            have hq2 : x / 2 ^ (n % 32).toNat ≤ x := Int.ediv_le_self _ hb10
            have hq3 : x / 2 ^ (n % 32).toNat ≤ 4294967295 := by omega
            rw [hx0, Int.mul_zero, Int.add_zero, Int.emod_eq_of_lt hq1 (by omega)] at hst
            have hs1 := hown.set k (x / 2 ^ (n % 32).toNat) (by simp; omega)
            rw [Nat.zero_add, show zs.length - s - k = (zs.length - s - (k + 1)) + 1 by omega, List.replicate_succ, set_mid hDl] at hs1
            have HS : Hid (Own .u32 (wr.setCell ⟨w.heap.size, k, none⟩ (.int .u32 (x / 2 ^ (n % 32).toNat))) w.heap.size 0 ((D ++ [x / 2 ^ (n % 32).toNat]) ++ List.replicate (zs.length - s - (k + 1)) 0)) := by unfold Hid; simpa using hs1
            have HB : Hid (Below w.heap.size w (wr.setCell ⟨w.heap.size, k, none⟩ (.int .u32 (x / 2 ^ (n % 32).toNat)))) := hnx.setCell (Nat.le_refl _) _
            have HD : Hid (downL 4294967296 (2 ^ (n % 32).toNat) (zs.drop s) = (D ++ [x / 2 ^ (n % 32).toNat]) ++ downL 4294967296 (2 ^ (n % 32).toNat) (zs.drop (s + (k + 1)))) := by unfold Hid; rw [hD.out, hst]; simp [Nat.add_assoc]
            have HL : Hid (D.length = k) := hDl
            clear hst hx hx' hx0 hb20 hb21 hD hown hnx hs1 hbb hDl hd0 hd1 hd2 g0
            go_wp2
            go_roundw
            case rel => exact ⟨k + 1, D ++ [x / 2 ^ (n % 32).toNat], by omega, by rw [List.length_append, HL.out]; rfl, by go_num, HD, HS.out, HB.out⟩
            case measure => simp [intOf]; omega
        · have hkn : k = zs.length - s := by omega
          subst hkn
          have hDD : downL 4294967296 (2 ^ (n % 32).toNat) (zs.drop s) = D := by
            rw [hD.out, List.drop_eq_nil_of_le (by omega)]; simp [downL]
          have hown' : Own .u32 wr w.heap.size 0 D := by simpa using hown
          have HVV : Hid (val 4294967296 D = val 4294967296 zs / 2 ^ n.toNat) := by unfold Hid; rw [← hDD]; exact HC1.out
          have HG : Hid (Dig 4294967296 D) := by unfold Hid; rw [← hDD]; exact dig_down (by decide) _ _
          have HS : Hid (Own .u32 wr w.heap.size 0 D) := hown'
          have HB : Hid (Below w.heap.size w wr) := hnx
          have HLR : Hid (zs.length - s = D.length) := hDl.symm
          clear hown' hDD hD hown hnx hDl g0 hd0 hd1 hd2
          go_wp2_with fail
          rw [HLR.out]
          have e1 := HLR.out
          refine (trimmed_any _ _ D _ w.heap.size (by rw [← e1]; omega) (by rw [← e1]; unfold maxLen; omega) (Nat.le_refl _) (fun h => by cases h) (HS.out.new (Nat.le_refl _))).mono ?_
          rintro e w1 ⟨a2, c2, rfl, hf2, hm2, hr2, hw⟩
          subst hw
          have HM : Hid (DownI w (val 4294967296 zs / 2 ^ n.toNat) zs.length (!lostB (val 4294967296 zs) (2 ^ n.toNat)) (.returned (.tuple #[.slice a2 (trimL D).length c2, .bool (false)])) w1) := by
            refine ⟨a2, c2, trimL D, by rw [HEX.out], hf2, hm2, canon_trim HG.out, by rw [val_trim, HVV.out], ?_, hr2, HB.out⟩
            have := trim_le D
            omega
          clear hf2 hm2 hr2 HG HVV HB HS e1 HEX
          go_wp2
          refine bodyPost_ret (v := .tuple #[.slice a2 (trimL D).length c2, .bool (false)]) (by simp [results, Tryd.results80, go_sem]) rfl ?_
          exact HM.out

end Go.Proofs.YtladfpljnaippabDoor
