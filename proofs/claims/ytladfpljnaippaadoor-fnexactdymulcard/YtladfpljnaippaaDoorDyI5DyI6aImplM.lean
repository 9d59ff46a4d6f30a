/-
  The program's sums of products.
-/
import Derived.Test.YtladfpljnaippaaDoorDyI3DyI4a
import Derived.Test.YtladfpljnaippaaDoorImplC0NumXImplS
import Derived.Test.YtladfpljnaippaaDoorDy1NumM
import Derived.Test.YtladfpljnaippaaDoorRes
namespace Go.Proofs.YtladfpljnaippaaDoor
open Go.RowKit

/-- A list of factors: where it lies. -/
structure TV where
  b : Nat
  off : Nat
  c : Nat
  ds : List DV

instance : Inhabited TV := ⟨⟨0, 0, 0, []⟩⟩

/-- Block b from off on holds the lists ts. -/
structure RowT (w : World) (b off : Nat) (ts : List TV) : Prop where
  lt : b < w.heap.size
  c0 : ∀ i, i < ts.length → w.cell? ⟨b, off + i, none⟩ = some (.slice (some ⟨(ts.getD i default).b, (ts.getD i default).off, none⟩) (ts.getD i default).ds.length (ts.getD i default).c)
  row : ∀ i, i < ts.length → RowD w (ts.getD i default).b (ts.getD i default).off (ts.getD i default).ds

theorem RowT.later {w w' : World} {b off : Nat} {ts : List TV} (h : RowT w b off ts) (hb : Below w.heap.size w w') : RowT w' b off ts :=
  ⟨Nat.lt_of_lt_of_le h.lt hb.size, fun i hi => (hb.cell (p := ⟨b, off + i, none⟩) h.lt).trans (h.c0 i hi), fun i hi => (h.row i hi).later hb⟩

/-- A factor that may stand in a product. -/
def DV.fine (d : DV) : Prop := d.zs.length ≤ 512 ∧ -20000 ≤ d.E ∧ d.E ≤ 20000 ∧ B1 d.g d.zs (sg d.g (val 4294967296 d.zs))

def sumK (K : Int) (ts : List TV) : Int := (ts.map fun t => atK K (prodM t.ds) (sumE t.ds)).foldl (· + ·) 0
theorem sumK_snoc (K : Int) (ts : List TV) (t : TV) : sumK K (ts ++ [t]) = sumK K ts + atK K (prodM t.ds) (sumE t.ds) := by simp [sumK]

theorem sumE_from (ds : List DV) (s : Int) : (ds.map fun d => d.E).foldl (· + ·) s = s + sumE ds := by
  induction ds generalizing s with
  | nil => simp [sumE]
  | cons d ds ih =>
    simp only [List.map_cons, List.foldl_cons, sumE]
    rw [ih, ih]
    omega

theorem sumE_bound : ∀ ds : List DV, (∀ d, d ∈ ds → d.fine) → -20000 * (ds.length : Int) ≤ sumE ds ∧ sumE ds ≤ 20000 * (ds.length : Int)
  | [], _ => by simp [sumE]
  | d :: ds, h => by
    have ih := sumE_bound ds (fun d' h' => h d' (List.mem_cons_of_mem _ h'))
    have h1 := (h d List.mem_cons_self)
    have h2 := h1.2.1
    have h3 := h1.2.2.1
    have e : sumE (d :: ds) = d.E + sumE ds := by
      simp only [sumE, List.map_cons, List.foldl_cons]
      rw [sumE_from]
      simp [sumE]
    rw [e, List.length_cons]
    omega

/-- What sumOfProducts hands back. -/
def SumProd (w : World) (ts : List TV) (n : Nat) (e : Ending) (w' : World) : Prop :=
  ∃ (G : Bool) (a : Option Addr) (c : Nat) (fs : List Int) (m e' : Int), e = .returned (.agg #[.bool G, .slice a fs.length c, .int .i64 e']) ∧ B1 G fs m ∧ (fs.length ≤ n ∧ fs.length ≤ c ∧ c ≤ maxLen) ∧ (∀ K, 60000 ≤ K → atK K m e' = sumK K ts) ∧ -60000 ≤ e' ∧ e' ≤ 60000 ∧ RowAt .u32 w' a fs ∧ Far w.heap.size a fs ∧ Below w.heap.size w w'

set_option maxRecDepth 100000 in
set_option maxHeartbeats 8000000 in
theorem sumP_any (HPR : ProdSays) (b off c : Nat) (ts : List TV) (w : World) (hn : ts.length ≤ 6) (hl : ∀ t, t ∈ ts → t.ds.length ≤ 3 ∧ ∀ d, d ∈ t.ds → d.fine) (hd : RowT w b off ts) :
    Calls Tryd.prog 39 #[.slice (some ⟨b, off, none⟩) ts.length c] w fun e w' => SumProd w ts (9043 * ts.length) e w' := by
  go_enter Tryd.func39, Tryd.ntmps39
  go_wp2
  have P0 : PD w w.heap.size (w.heap.size + 1) false none 0 [] 0 0 ((w.alloc (.cells #[.bool false, .slice none 0 0, .int .i64 0] 27)).alloc (.cells #[.bool false, .slice none 0 0, .int .i64 0] 27)) := by
    refine ⟨?_, ?_, ?_, ?_, ?_, ?_, ?_, ?_, ⟨⟨Dig.nil _, rfl⟩, by decide, fun h => by cases h⟩, .inl rfl, (fun b o e1 hne => absurd rfl hne), .inl rfl, ⟨Nat.le_refl _, by omega, by simp⟩, bel2 _ _ _, ⟨Nat.le_refl _, Nat.zero_le _⟩⟩
    all_goals simp [go_sem]
  obtain ⟨X, hX⟩ : ∃ X, X = ((w.alloc (.cells #[.bool false, .slice none 0 0, .int .i64 0] 27)).alloc (.cells #[.bool false, .slice none 0 0, .int .i64 0] 27)) := ⟨_, rfl⟩
  rw [← hX] at P0 ⊢
  clear hX
  have HP0 : Hid (PD w w.heap.size (w.heap.size + 1) false none 0 [] 0 0 X) := P0
  clear P0
  go_loopw [5, 8] (fun _ si wr => ∃ (i : Nat) (G : Bool) (a : Option Addr) (ca : Nat) (fs : List Int) (m e : Int), i ≤ ts.length ∧ si = .int .i64 i ∧ fs.length ≤ 9043 * i ∧ -60000 ≤ e ∧ e ≤ 60000 ∧ Hid (∀ K, 60000 ≤ K → atK K m e = sumK K (ts.take i)) ∧ Hid (PD w w.heap.size (w.heap.size + 1) G a ca fs m e wr)) (fun _ si _ => ts.length - (intOf si).toNat)
  case atStart => exact ⟨0, false, none, 0, [], 0, 0, Nat.zero_le _, rfl, by simp, by decide, by decide, (fun K _ => by simp [atK, sumK]), HP0⟩
  case round =>
    obtain ⟨i, G, a, ca, fs, m, e, hi, rfl, hfl, he0, he1, hK, hP⟩ := hrel
    clear HP0
    have hd2 := hd.later hP.out.bel
    by_cases hlt : i < ts.length
    · have g0 := hd2.c0 i hlt
      have g3 := hd2.row i hlt
      obtain ⟨t, htt⟩ : ∃ t, t = ts.getD i default := ⟨_, rfl⟩
      rw [← htt] at g0 g3
      have hib : (i : Int) < ts.length := by omega
      have hmem : t ∈ ts := by rw [htt, List.getD_eq_getElem?_getD, List.getElem?_eq_getElem hlt]; exact List.getElem_mem hlt
      obtain ⟨ht3, htf⟩ := hl t hmem
      have hsb := sumE_bound t.ds htf
      have htk : ts.take (i + 1) = ts.take i ++ [t] := by
        rw [List.take_succ_eq_append_getElem hlt, htt, List.getD_eq_getElem?_getD, List.getElem?_eq_getElem hlt]
        rfl
      have G3 : Hid (RowD wr t.b t.off t.ds) := g3
      have HTK : Hid (ts.take (i + 1) = ts.take i ++ [t]) := htk
      have HSB : Hid (-60000 ≤ sumE t.ds ∧ sumE t.ds ≤ 60000) := by unfold Hid; omega
      have HTF : Hid (∀ d, d ∈ t.ds → d.fine) := htf
      clear htt hmem g3 hd2 htk hsb htf
      have z0 := hP.out.a1
      have z1 := hP.out.a2
      have z2 := hP.out.a3
      have z3 := hP.out.a4
      have oA : w.heap.size + 1 < wr.heap.size := hP.out.ord.2.2
      go_wp2
      go_region_with
        (first
          | (go_at_call 63; refine (HPR t.b t.off t.c t.ds _ ht3 HTF.out (G3.out.later (Below.refl _ _).drew)).mono ?_; rintro e1 w2 ⟨g2, a2, c2, f2, rfl, hB2, hl2, hr2, hF2, hb2⟩; have hWB : Below wr.heap.size wr w2 := (Below.refl _ _).drew.trans hb2; have P2 : Hid (PD w w.heap.size (w.heap.size + 1) G a ca fs m e w2) := hP.out.later hWB; have y0 := P2.out.a1; have y1 := P2.out.a2; have y2 := P2.out.a3; have y3 := P2.out.a4)
          | (go_at_call 62; refine (plusD_any G g2 a a2 ca c2 fs f2 m (prodM t.ds) e (sumE t.ds) _ (by omega) (by omega) (by have := HSB.out; omega) (by have := HSB.out; omega) P2.out.row hr2 P2.out.b1 hB2 P2.out.cap (by omega)).mono ?_; rintro e3 w3 ⟨g3, a3, c3, f3, m3, e3', rfl, hB3, hS3, hl3, hr3, hF3, hb3⟩; have P3 : Hid (PD w w.heap.size (w.heap.size + 1) G a ca fs m e w3) := P2.out.later hb3; have x0 := P3.out.a1; have x1 := P3.out.a2; have x2 := P3.out.a3; have x3 := P3.out.a4))
      all_goals
        have hs2 : wr.heap.size ≤ w2.heap.size := hWB.size
        have hF2' : Far wr.heap.size a2 f2 := hF2
        have ho3 : (∀ b o, a3 = some ⟨b, o, none⟩ → f3 ≠ [] → b ≠ w.heap.size + 1 ∧ b ≠ w.heap.size) ∧ Far (w.heap.size + 1) a3 f3 := by
          rcases hF3 with h | ⟨h1, h2⟩ | ⟨h1, h2⟩
          · exact ⟨h.offs (by omega) (by omega), h.down (by omega)⟩
          · rw [h1, h2]
            exact ⟨P3.out.off, P3.out.far⟩
          · rw [h1, h2]
            exact ⟨hF2'.offs (by omega) (by omega), hF2'.down (by omega)⟩
        have HPN : Hid (PD w w.heap.size (w.heap.size + 1) g3 a3 c3 f3 m3 e3' (((w3.setCell ⟨w.heap.size + 1, 0, none⟩ (.bool g3)).setCell ⟨w.heap.size + 1, 1, none⟩ (.slice a3 f3.length c3)).setCell ⟨w.heap.size + 1, 2, none⟩ (.int .i64 e3'))) := P3.out.lay hB3 hr3 ho3.1 ho3.2 (by omega)
        have HK3 : Hid (∀ K, 60000 ≤ K → atK K m3 e3' = sumK K (ts.take (i + 1))) := by
          intro K hK6
          have hb := HSB.out
          rw [HTK.out, sumK_snoc, hS3.2 K (by omega) (by omega), hK.out K hK6]
        have hbe : -60000 ≤ e3' ∧ e3' ≤ 60000 := by
          have hb := HSB.out
          rcases hS3.1 with h | h <;> omega
        have hlen : f3.length ≤ 9043 * (i + 1) := by omega
        obtain ⟨hbe0, hbe1⟩ := hbe
        clear hB2 hr2 hF2 hb2 hWB P2 y0 y1 y2 y3 hB3 hS3 hr3 hF3 hb3 P3 x0 x1 x2 x3 hF2' ho3 z0 z1 z2 z3 hK hP
        go_wp2
        go_roundw
        case rel => exact ⟨i + 1, g3, a3, c3, f3, m3, e3', by omega, by go_num, hlen, hbe0, hbe1, HK3, HPN⟩
        case measure => simp [intOf]; omega
    · have hin : i = ts.length := by omega
      subst hin
      have HK3 : Hid (∀ K, 60000 ≤ K → atK K m e = sumK K ts) := by intro K hK6; have := hK.out K hK6; rw [List.take_length] at this; exact this
      have z0 := hP.out.a1
      have z1 := hP.out.a2
      have z2 := hP.out.a3
      have r1 := hP.out.r1
      have r2 := hP.out.r2
      have r3 := hP.out.r3
      have r4 := hP.out.r4
      clear hd2 hK
      go_wp2
      refine bodyPost_ret (v := .agg #[.bool G, .slice a fs.length ca, .int .i64 e]) (by simp [results, Tryd.results39, go_sem, r1, r2, r3]) rfl ?_
      refine ⟨G, a, ca, fs, m, e, rfl, hP.out.b1, ⟨hfl, hP.out.cap⟩, HK3.out, he0, he1, ?_, hP.out.far.down (by omega), ?_⟩
      · have ho := hP.out.off
        exact ((hP.out.row.setAway (fun b o e1 hne => (ho b o e1 hne).2) _).setAway (fun b o e1 hne => (ho b o e1 hne).2) _).setAway (fun b o e1 hne => (ho b o e1 hne).2) _
      · exact ((hP.out.bel.setCell (by simp) _).setCell (by simp) _).setCell (by simp) _

end Go.Proofs.YtladfpljnaippaaDoor

/-
  Lists of dyadic numbers and of factors, written out.
-/
namespace Go.Proofs.YtladfpljnaippaaDoor
open Go.RowKit

/-- One Dyadic written out as a list. -/
theorem one_rowD {W : World} {b : Nat} {d : DV} (hb : b < W.heap.size) (h0 : W.cell? ⟨b, 0, none⟩ = some (.bool d.g)) (h1 : W.cell? ⟨b, 1, none⟩ = some (.slice d.a d.zs.length d.c)) (h2 : W.cell? ⟨b, 2, none⟩ = some (.int .i64 d.E)) (hr : RowAt .u32 W d.a d.zs) : RowD W b 0 [d] := by
  refine ⟨hb, ?_, ?_, ?_, ?_⟩
  all_goals
    intro i hi
    have : i = 0 := by simp at hi; omega
    subst this
    simpa

theorem two_rowD {W : World} {b : Nat} {d d' : DV} (hb : b < W.heap.size) (h0 : W.cell? ⟨b, 0, none⟩ = some (.bool d.g)) (h1 : W.cell? ⟨b, 1, none⟩ = some (.slice d.a d.zs.length d.c)) (h2 : W.cell? ⟨b, 2, none⟩ = some (.int .i64 d.E)) (h3 : W.cell? ⟨b, 3, none⟩ = some (.bool d'.g)) (h4 : W.cell? ⟨b, 4, none⟩ = some (.slice d'.a d'.zs.length d'.c)) (h5 : W.cell? ⟨b, 5, none⟩ = some (.int .i64 d'.E))
    (hr : RowAt .u32 W d.a d.zs) (hr' : RowAt .u32 W d'.a d'.zs) : RowD W b 0 [d, d'] := by
  refine ⟨hb, ?_, ?_, ?_, ?_⟩
  all_goals
    intro i hi
    have : i = 0 ∨ i = 1 := by simp at hi; omega
    rcases this with rfl | rfl
    · simpa
    · simpa

theorem two_rowT {W : World} {b b1 b2 c1 c2 : Nat} {d d' : DV} (hb : b < W.heap.size) (h0 : W.cell? ⟨b, 0, none⟩ = some (.slice (some ⟨b1, 0, none⟩) 1 c1)) (h1 : W.cell? ⟨b, 1, none⟩ = some (.slice (some ⟨b2, 0, none⟩) 1 c2)) (hr : RowD W b1 0 [d]) (hr' : RowD W b2 0 [d']) : RowT W b 0 [⟨b1, 0, c1, [d]⟩, ⟨b2, 0, c2, [d']⟩] := by
  refine ⟨hb, ?_, ?_⟩
  all_goals
    intro i hi
    have : i = 0 ∨ i = 1 := by simp at hi; omega
    rcases this with rfl | rfl
    · simpa
    · simpa

theorem one_rowT {W : World} {b b1 c1 : Nat} {ds : List DV} (hb : b < W.heap.size) (h0 : W.cell? ⟨b, 0, none⟩ = some (.slice (some ⟨b1, 0, none⟩) ds.length c1)) (hr : RowD W b1 0 ds) : RowT W b 0 [⟨b1, 0, c1, ds⟩] := by
  refine ⟨hb, ?_, ?_⟩
  all_goals
    intro i hi
    have : i = 0 := by simp at hi; omega
    subst this
    simpa

end Go.Proofs.YtladfpljnaippaaDoor

/-
  The program's products.
-/
namespace Go.Proofs.YtladfpljnaippaaDoor
open Go.RowKit

set_option maxHeartbeats 4000000 in
theorem times_any (a a' : Option Addr) (p p' : Nat) (zs ys : List Int) (w : World) (hn : zs.length ≤ 100000) (hn' : ys.length ≤ 100000) (hz : RowAt .u32 w a zs) (hy : RowAt .u32 w a' ys) (hdz : Dig 4294967296 zs) (hdy : Dig 4294967296 ys) :
    Calls Tryd.prog 85 #[.slice a zs.length p, .slice a' ys.length p'] w fun e w' => MagOut w (val 4294967296 zs * val 4294967296 ys) (zs.length + ys.length) e w' := by
  have hmk := run_make_row' (P := Tryd.prog) 55 22 (.int .u32 0) 4 Tryd.underlying55 Tryd.info22 rfl .i64 .i64 (zs.length + ys.length) (by omega) (by omega)
  rw [show ((zs.length + ys.length : Nat) : Int) = (zs.length : Int) + (ys.length : Int) by omega] at hmk
  go_enter Tryd.func85, Tryd.ntmps85
  go_wp2
  go_loopw [19] (fun t wr => ∃ (i : Nat) (P : List Int), i ≤ zs.length ∧ t = .int .i64 i ∧ Hid (Prod 4294967296 zs ys (zs.length + ys.length) i P) ∧ Own .u32 wr w.heap.size 0 P ∧ Below w.heap.size w wr) (fun t _ => zs.length - (intOf t).toNat)
  case atStart => exact ⟨0, List.replicate (zs.length + ys.length) 0, Nat.zero_le _, rfl, prod_start _ (by decide) _ _ _, Own.made w (zs.length + ys.length) _, bel0 _ _⟩
  case round =>
    obtain ⟨i, P, hi, rfl, hP, hown, hnx⟩ := hrel
    by_cases hlt : i < zs.length
    · have hb1 := hdz.at (by decide) i
      obtain ⟨b, off, rfl, g1⟩ := row_cell hz hnx hlt
      obtain ⟨x, hx⟩ : ∃ x, x = zs.getD i 0 := ⟨_, rfl⟩
      rw [← hx] at hb1 g1
      obtain ⟨hb10, hb11⟩ := hb1
      have HX : Hid (x = zs.getD i 0) := hx
      have hPl : P.length = zs.length + ys.length := hP.out.len
      have HPl : Hid (P.length = zs.length + ys.length) := hPl
      have HO : Hid (Own .u32 wr w.heap.size 0 P) := hown
      have HN : Hid (Below w.heap.size w wr) := hnx
      clear hx hPl hown hnx
      go_wp2
      go_loopw [8, 26] (fun cc t wq => ∃ (j : Nat) (c : Int) (D : List Int), j ≤ ys.length ∧ D.length = j ∧ t = .int .i64 j ∧ cc = .int .u64 c ∧ 0 ≤ c ∧ c ≤ 4294967295 ∧ Hid (carryD 4294967296 (mulsL x ys (P.drop i)) 0 = D ++ carryD 4294967296 (mulsL x (ys.drop j) ((P.drop i).drop j)) c) ∧ Hid (carryO 4294967296 (mulsL x ys (P.drop i)) 0 = carryO 4294967296 (mulsL x (ys.drop j) ((P.drop i).drop j)) c) ∧
          Own .u32 wq w.heap.size 0 (P.take i ++ (D ++ P.drop (i + j))) ∧ Below w.heap.size w wq) (fun _ t _ => ys.length - (intOf t).toNat)
      case atStart => exact ⟨0, 0, [], Nat.zero_le _, rfl, rfl, rfl, by decide, by decide, rfl, rfl, by simpa using HO.out, HN.out⟩
      case round =>
        obtain ⟨j, c, D, hj, hDl, rfl, rfl, hc0, hc1, hD, hO, hown, hnx⟩ := hrel
        by_cases hlt2 : j < ys.length
        · have hb2 := hdy.at (by decide) j
          obtain ⟨b', off', rfl, g2⟩ := row_cell hy hnx hlt2
          obtain ⟨y, hyy⟩ : ∃ y, y = ys.getD j 0 := ⟨_, rfl⟩
          rw [← hyy] at hb2 g2
          obtain ⟨hb20, hb21⟩ := hb2
          have hij : i + j < P.length := by rw [HPl.out]; omega
          have hbm := hP.out.dig.at (by decide) (i + j)
          have g3 := hown.cell (i + j) (by rw [mid_length hDl (by omega)]; exact hij)
          have g4 := hown.free (i + j) (by rw [mid_length hDl (by omega)]; exact hij)
          rw [Nat.zero_add] at g3 g4
          rw [mid_get (Nat.le_refl _) hDl (by omega)] at g3
          obtain ⟨m, hm⟩ : ∃ m, m = P.getD (i + j) 0 := ⟨_, rfl⟩
          rw [← hm] at hbm g3
          obtain ⟨hbm0, hbm1⟩ := hbm
          obtain ⟨hxy0, hxy1⟩ := mul_bound hb10 hb11 hb20 hb21
          simp only [Int.reduceSub, Int.reduceMul] at hxy1
          have hcb := carry_bound (B := 4294967296) (s := c + (x * y + m)) (by decide) (by omega) (by simp only [Int.reduceSub, Int.reduceMul]; omega)
          have hst := mul_step (B := 4294967296) (x := x) (c := c) (s := c + (x * y + m)) (ms := P.drop i) hlt2 (by rw [← hyy, List.getD_eq_getElem?_getD, List.getElem?_drop, ← List.getD_eq_getElem?_getD, ← hm]; omega)
          have HD : Hid (carryD 4294967296 (mulsL x ys (P.drop i)) 0 = (D ++ [(c + (x * y + m)) % 4294967296]) ++ carryD 4294967296 (mulsL x (ys.drop (j + 1)) ((P.drop i).drop (j + 1))) ((c + (x * y + m)) / 4294967296)) := by unfold Hid; rw [hD.out, hst.1]; simp
          have HQ : Hid (carryO 4294967296 (mulsL x ys (P.drop i)) 0 = carryO 4294967296 (mulsL x (ys.drop (j + 1)) ((P.drop i).drop (j + 1))) ((c + (x * y + m)) / 4294967296)) := by unfold Hid; rw [hO.out, hst.2]
          have hs := hown.set (i + j) ((c + (x * y + m)) % 4294967296) (by rw [mid_length hDl (by omega)]; exact hij)
          rw [Nat.zero_add, mid_set hDl hij] at hs
          have HS : Hid (Own .u32 (wr.setCell ⟨w.heap.size, i + j, none⟩ (.int .u32 ((c + (x * y + m)) % 4294967296))) w.heap.size 0 (P.take i ++ ((D ++ [(c + (x * y + m)) % 4294967296]) ++ P.drop (i + j + 1)))) := hs
          have HB : Hid (Below w.heap.size w (wr.setCell ⟨w.heap.size, i + j, none⟩ (.int .u32 ((c + (x * y + m)) % 4294967296)))) := hnx.setCell (Nat.le_refl _) _
          obtain ⟨hcb0, hcb1⟩ := hcb
          have HCB : Hid (0 ≤ (c + (x * y + m)) / 4294967296 ∧ (c + (x * y + m)) / 4294967296 ≤ 4294967295) := ⟨hcb0, by omega⟩
          have HJ : Hid (i + j < zs.length + ys.length) := by unfold Hid; omega
          have hji : (i : Int) + (j : Int) < (zs.length : Int) + (ys.length : Int) := by omega
          clear hcb0 hcb1 hst hs hyy hm hD hO hown hnx hij HN HO
          go_wp2
          go_roundw
          case rel => exact ⟨j + 1, (c + (x * y + m)) / 4294967296, D ++ [(c + (x * y + m)) % 4294967296], by omega, by simp; omega, by go_num, rfl, HCB.out.1, HCB.out.2, HD, HQ, HS.out, HB.out⟩
          case measure => simp [intOf]; omega
        · have hjn : j = ys.length := by omega
          subst hjn
          have hin : i + ys.length < P.length := by rw [HPl.out]; omega
          have hDD : D = carryD 4294967296 (mulsL x ys (P.drop i)) 0 := by
            rw [hD.out, List.drop_eq_nil_of_le (Nat.le_refl _)]; simp [mulsL, carryD]
          have hCC : c = carryO 4294967296 (mulsL x ys (P.drop i)) 0 := by
            rw [hO.out, List.drop_eq_nil_of_le (Nat.le_refl _)]; simp [mulsL, carryO]
          have HP2 : Hid (Prod 4294967296 zs ys (zs.length + ys.length) (i + 1) (P.take i ++ ((D ++ [c]) ++ P.drop (i + ys.length + 1)))) := prod_step (by decide) hP.out hlt (by omega) HX.out hDD hCC hc0 (by omega)
          have g3 := hown.cell (i + ys.length) (by rw [mid_length hDl (by omega)]; exact hin)
          have g4 := hown.free (i + ys.length) (by rw [mid_length hDl (by omega)]; exact hin)
          rw [Nat.zero_add] at g3 g4
          have hs := hown.set (i + ys.length) c (by rw [mid_length hDl (by omega)]; exact hin)
          rw [Nat.zero_add, mid_set hDl hin] at hs
          have HS : Hid (Own .u32 (wr.setCell ⟨w.heap.size, i + ys.length, none⟩ (.int .u32 c)) w.heap.size 0 (P.take i ++ ((D ++ [c]) ++ P.drop (i + ys.length + 1)))) := hs
          have HB : Hid (Below w.heap.size w (wr.setCell ⟨w.heap.size, i + ys.length, none⟩ (.int .u32 c))) := hnx.setCell (Nat.le_refl _) _
          have hji : (i : Int) + (ys.length : Int) < (zs.length : Int) + (ys.length : Int) := by omega
          clear hs hDD hCC hD hO hown hnx hin HN HO hP
          go_wp2
          go_roundw
          case rel => exact ⟨i + 1, P.take i ++ ((D ++ [c]) ++ P.drop (i + ys.length + 1)), by omega, by go_num, HP2, HS.out, HB.out⟩
          case measure => simp [intOf]; omega
    · have hin : i = zs.length := by omega
      subst hin
      have hPl : P.length = zs.length + ys.length := hP.out.len
      have hV : val 4294967296 P = val 4294967296 zs * val 4294967296 ys := by rw [hP.out.eq, List.take_length]
      have HV : Hid (val 4294967296 P = val 4294967296 zs * val 4294967296 ys) := hV
      have HG : Hid (Dig 4294967296 P) := hP.out.dig
      have HL : Hid (P.length = zs.length + ys.length) := hPl
      have HS : Hid (Own .u32 wr w.heap.size 0 P) := hown
      have HB : Hid (Below w.heap.size w wr) := hnx
      clear hV hPl hP hown hnx hz hy hdz hdy
      go_wp2_with fail
      have e1 : zs.length + ys.length = P.length := HL.out.symm
      rw [e1]
      refine (trimmed_any _ _ P _ w.heap.size (by omega) (by unfold maxLen; omega) (Nat.le_refl _) (fun h => by cases h) (HS.out.new (Nat.le_refl _))).mono ?_
      rintro e w1 ⟨a2, c2, rfl, hf2, hm2, hr2, hw⟩
      subst hw
      have HM : Hid (MagOut w (val 4294967296 zs * val 4294967296 ys) (zs.length + ys.length) (.returned (.slice a2 (trimL P).length c2)) w1) := by
        refine ⟨a2, c2, trimL P, rfl, hf2, hm2, canon_trim HG.out, by rw [val_trim, HV.out], ?_, hr2, HB.out⟩
        have := trim_le P
        omega
      clear hf2 hm2 hr2 HG HV HB HS e1
      go_wp2
      go_ret
      exact HM.out

theorem sg_mul (g g' : Bool) (u v : Int) : sg (g != g') (u * v) = sg g u * sg g' v := by
  cases g <;> cases g' <;> simp [sg, Int.neg_mul, Int.mul_neg]

set_option maxHeartbeats 4000000 in
theorem productOf_any (g g' : Bool) (a a' : Option Addr) (c c' : Nat) (zs ys : List Int) (x y : Int) (w : World) (hn : zs.length ≤ 100000) (hn' : ys.length ≤ 100000) (hz : RowAt .u32 w a zs) (hy : RowAt .u32 w a' ys) (h : B1 g zs x) (h' : B1 g' ys y) :
    Calls Tryd.prog 76 #[.agg #[.bool g, .slice a zs.length c], .agg #[.bool g', .slice a' ys.length c']] w fun e w' => BigOut w (x * y) (zs.length + ys.length + 1) e w' := by
  have HX : Hid (sg (g != g') (val 4294967296 zs * val 4294967296 ys) = x * y) := by
    unfold Hid
    rw [sg_mul, h.num, h'.num]
  have hdz := h.can.1
  have hdy := h'.can.1
  clear h h'
  go_enter Tryd.func76, Tryd.ntmps76
  go_wp2
  obtain ⟨W0, hW0⟩ : ∃ W0, W0 = (((w.alloc (.cells #[.bool g, .slice a zs.length c] 25)).alloc (.cells #[.bool g', .slice a' ys.length c'] 25)).alloc (.cells #[.bool false, .slice none 0 0] 25)) := ⟨_, rfl⟩
  rw [← hW0]
  have F : Hid (AddF w g g' (.slice a zs.length c) (.slice a' ys.length c') (.slice none 0 0) W0) := by rw [hW0]; exact AddF.start w g g' _ _ _ _ _ _
  clear hW0
  go_region_held3 (fun w' => w'.cell? ⟨w.heap.size, 0, none⟩ = some (.bool g) ∧ w'.cell? ⟨w.heap.size, 1, none⟩ = some (.slice a zs.length c) ∧ w'.cell? ⟨w.heap.size + 1, 0, none⟩ = some (.bool g') ∧ w'.cell? ⟨w.heap.size + 1, 1, none⟩ = some (.slice a' ys.length c') ∧ Below (w.heap.size + 1 + 1) W0 w')
    (first | exact addS_of F.out.s (Below.refl _ _).drew | exact addS_of F.out.s (by assumption) | exact addS_of F.out.s (Below.setCell (Below.setCell (by assumption) (by simp) _) (by simp) _))
    (first
      | (go_at_call 85; refine (times_any a a' c c' zs ys _ hn hn' (hz.later F.out.bel.drew) (hy.later F.out.bel.drew) hdz hdy).mono ?_; rintro e w1 ⟨a2, c2, fs, rfl, hf2, hm2, hcan, hval, hlen, hrn1, hb1⟩; have hB1 : Below W0.heap.size W0 w1 := (Below.refl _ _).drew.trans hb1; have hB1' : Below (w.heap.size + 1 + 1) W0 w1 := hB1.mono (by have := F.out.le; omega))
      | (go_at_call 28; refine (signed_any _ a2 fs.length c2 _).mono ?_; rintro e w2 ⟨rfl, hb2⟩; have hB2 : Below W0.heap.size W0 w2 := hB1.trans (hb2.mono hB1.size); have hB2' : Below (w.heap.size + 1 + 1) W0 w2 := hB2.mono (by have := F.out.le; omega); have hrn2 : RowNew .u32 w2 W0.heap.size a2 fs := RowNew.later hrn1 hb2; have F2 : Hid (AddF w g g' (.slice a zs.length c) (.slice a' ys.length c') (.slice none 0 0) w2) := F.out.later hB2; have r1 := F2.out.r1; have r2 := F2.out.r2; have r3 := F2.out.r3))
  have HR : Hid (RowNew .u32 w2 W0.heap.size a2 fs) := hrn2
  have HB : Hid (B1 (!(g == g') && decide (0 < fs.length)) fs (x * y)) := by unfold Hid; rw [← HX.out]; exact B1.of_signed (g := (g != g')) hcan hval
  clear hrn1 hrn2 hB1 hB1' hB2 hB2' hb1 hb2 hcan hval
  generalize (!(g == g') && decide (0 < fs.length)) = g2 at *
  go_wp2
  refine bodyPost_ret (v := .agg #[.bool g2, .slice a2 fs.length c2]) (by simp [results, Tryd.results76, go_sem, r1, r2]) rfl ?_
  have hle := F.out.le
  refine ⟨g2, a2, c2, fs, rfl, HB.out, by omega, ?_, ?_⟩
  · exact ((HR.out.setLow (by simp; omega) _).setLow (by simp; omega) _).down (by omega)
  · exact (F2.out.bel.setCell (by simp; omega) _).setCell (by simp; omega) _

end Go.Proofs.YtladfpljnaippaaDoor
