/-
  The program's sums of products.
-/
import Derived.Test.YtladfpljnaippabDoorImplEDyI1DyI2DyI3DyI4aF
import Derived.Test.YtladfpljnaippabDoorNumQF
import Derived.Test.YtladfpljnaippabDoorNumGToImplSF
import Derived.Test.YtladfpljnaippabDoorResQF
import Derived.Test.YtladfpljnaippabDoorImplBQF
import Derived.Test.YtladfpljnaippabDoorImplUDyN2DyOIDyOBF
import Derived.Test.YtladfpljnaippabDoorNumWToNumFlF
namespace Go.Proofs.YtladfpljnaippabDoor
open Go.RowKit

/-- A list of factors: where it lies. -/
structure TV where
  b : Nat
  off : Nat
  c : Nat
  ds : List DV

instance : Inhabited TV := ⟨⟨0, 0, 0, []⟩⟩

/-- Block b from off on holds the lists ts. -/
structure RowT (w : World) (b off : Nat) (ts : List TV) : Prop where
  lt : b < w.heap.size
  c0 : ∀ i, i < ts.length → w.cell? ⟨b, off + i, none⟩ = some (.slice (some ⟨(ts.getD i default).b, (ts.getD i default).off, none⟩) (ts.getD i default).ds.length (ts.getD i default).c)
  row : ∀ i, i < ts.length → RowD w (ts.getD i default).b (ts.getD i default).off (ts.getD i default).ds

theorem RowT.later {w w' : World} {b off : Nat} {ts : List TV} (h : RowT w b off ts) (hb : Below w.heap.size w w') : RowT w' b off ts :=
  ⟨Nat.lt_of_lt_of_le h.lt hb.size, fun i hi => (hb.cell (p := ⟨b, off + i, none⟩) h.lt).trans (h.c0 i hi), fun i hi => (h.row i hi).later hb⟩

/-- A factor that may stand in a product. -/
def DV.fine (d : DV) : Prop := d.zs.length ≤ 512 ∧ -20000 ≤ d.E ∧ d.E ≤ 20000 ∧ B1 d.g d.zs (sg d.g (val 4294967296 d.zs))

def sumK (K : Int) (ts : List TV) : Int := (ts.map fun t => atK K (prodM t.ds) (sumE t.ds)).foldl (· + ·) 0
theorem sumK_snoc (K : Int) (ts : List TV) (t : TV) : sumK K (ts ++ [t]) = sumK K ts + atK K (prodM t.ds) (sumE t.ds) := by simp [sumK]

theorem sumE_from (ds : List DV) (s : Int) : (ds.map fun d => d.E).foldl (· + ·) s = s + sumE ds := by
  induction ds generalizing s with
  | nil => simp [sumE]
  | cons d ds ih =>
    simp only [List.map_cons, List.foldl_cons, sumE]
    rw [ih, ih]
    omega

theorem sumE_bound : ∀ ds : List DV, (∀ d, d ∈ ds → d.fine) → -20000 * (ds.length : Int) ≤ sumE ds ∧ sumE ds ≤ 20000 * (ds.length : Int)
  | [], _ => by simp [sumE]
  | d :: ds, h => by
    have ih := sumE_bound ds (fun d' h' => h d' (List.mem_cons_of_mem _ h'))
    have h1 := (h d List.mem_cons_self)
    have h2 := h1.2.1
    have h3 := h1.2.2.1
    have e : sumE (d :: ds) = d.E + sumE ds := by
      simp only [sumE, List.map_cons, List.foldl_cons]
      rw [sumE_from]
      simp [sumE]
    rw [e, List.length_cons]
    omega

/-- What sumOfProducts hands back. -/
def SumProd (w : World) (ts : List TV) (n : Nat) (e : Ending) (w' : World) : Prop :=
  ∃ (G : Bool) (a : Option Addr) (c : Nat) (fs : List Int) (m e' : Int), e = .returned (.agg #[.bool G, .slice a fs.length c, .int .i64 e']) ∧ B1 G fs m ∧ (fs.length ≤ n ∧ fs.length ≤ c ∧ c ≤ maxLen) ∧ (∀ K, 60000 ≤ K → atK K m e' = sumK K ts) ∧ -60000 ≤ e' ∧ e' ≤ 60000 ∧ RowAt .u32 w' a fs ∧ Far w.heap.size a fs ∧ Below w.heap.size w w'

set_option maxRecDepth 100000 in
set_option maxHeartbeats 8000000 in
theorem sumP_any (HPR : ProdSays) (b off c : Nat) (ts : List TV) (w : World) (hn : ts.length ≤ 6) (hl : ∀ t, t ∈ ts → t.ds.length ≤ 3 ∧ ∀ d, d ∈ t.ds → d.fine) (hd : RowT w b off ts) :
    Calls Tryd.prog 40 #[.slice (some ⟨b, off, none⟩) ts.length c] w fun e w' => SumProd w ts (9043 * ts.length) e w' := by
  go_enter Tryd.func40, Tryd.ntmps40
  go_wp2
  have P0 : PD w w.heap.size (w.heap.size + 1) false none 0 [] 0 0 ((w.alloc (.cells #[.bool false, .slice none 0 0, .int .i64 0] 29)).alloc (.cells #[.bool false, .slice none 0 0, .int .i64 0] 29)) := by
    refine ⟨?_, ?_, ?_, ?_, ?_, ?_, ?_, ?_, ⟨⟨Dig.nil _, rfl⟩, by decide, fun h => by cases h⟩, .inl rfl, (fun b o e1 hne => absurd rfl hne), .inl rfl, ⟨Nat.le_refl _, by omega, by simp⟩, bel2 _ _ _, ⟨Nat.le_refl _, Nat.zero_le _⟩⟩
    all_goals simp [go_sem]
  obtain ⟨X, hX⟩ : ∃ X, X = ((w.alloc (.cells #[.bool false, .slice none 0 0, .int .i64 0] 29)).alloc (.cells #[.bool false, .slice none 0 0, .int .i64 0] 29)) := ⟨_, rfl⟩
  rw [← hX] at P0 ⊢
  clear hX
  have HP0 : Hid (PD w w.heap.size (w.heap.size + 1) false none 0 [] 0 0 X) := P0
  clear P0
  go_loopw [5, 8] (fun _ si wr => ∃ (i : Nat) (G : Bool) (a : Option Addr) (ca : Nat) (fs : List Int) (m e : Int), i ≤ ts.length ∧ si = .int .i64 i ∧ fs.length ≤ 9043 * i ∧ -60000 ≤ e ∧ e ≤ 60000 ∧ Hid (∀ K, 60000 ≤ K → atK K m e = sumK K (ts.take i)) ∧ Hid (PD w w.heap.size (w.heap.size + 1) G a ca fs m e wr)) (fun _ si _ => ts.length - (intOf si).toNat)
  case atStart => exact ⟨0, false, none, 0, [], 0, 0, Nat.zero_le _, rfl, by simp, by decide, by decide, (fun K _ => by simp [atK, sumK]), HP0⟩
  case round =>
    obtain ⟨i, G, a, ca, fs, m, e, hi, rfl, hfl, he0, he1, hK, hP⟩ := hrel
    clear HP0
    have hd2 := hd.later hP.out.bel
    by_cases hlt : i < ts.length
    · have g0 := hd2.c0 i hlt
      have g3 := hd2.row i hlt
      obtain ⟨t, htt⟩ : ∃ t, t = ts.getD i default := ⟨_, rfl⟩
      rw [← htt] at g0 g3
      have hib : (i : Int) < ts.length := by omega
      have hmem : t ∈ ts := by rw [htt, List.getD_eq_getElem?_getD, List.getElem?_eq_getElem hlt]; exact List.getElem_mem hlt
      obtain ⟨ht3, htf⟩ := hl t hmem
      have hsb := sumE_bound t.ds htf
      have htk : ts.take (i + 1) = ts.take i ++ [t] := by
        rw [List.take_succ_eq_append_getElem hlt, htt, List.getD_eq_getElem?_getD, List.getElem?_eq_getElem hlt]
        rfl
      have G3 : Hid (RowD wr t.b t.off t.ds) := g3
      have HTK : Hid (ts.take (i + 1) = ts.take i ++ [t]) := htk
      have HSB : Hid (-60000 ≤ sumE t.ds ∧ sumE t.ds ≤ 60000) := by unfold Hid; omega
      have HTF : Hid (∀ d, d ∈ t.ds → d.fine) := htf
      clear htt hmem g3 hd2 htk hsb htf
      have z0 := hP.out.a1
      have z1 := hP.out.a2
      have z2 := hP.out.a3
      have z3 := hP.out.a4
      have oA : w.heap.size + 1 < wr.heap.size := hP.out.ord.2.2
      go_wp2
      go_region_with
        (first
          | (go_at_call 83; refine (HPR t.b t.off t.c t.ds _ ht3 HTF.out (G3.out.later (Below.refl _ _).drew)).mono ?_; rintro e1 w2 ⟨g2, a2, c2, f2, rfl, hB2, hl2, hr2, hF2, hb2⟩; have hWB : Below wr.heap.size wr w2 := (Below.refl _ _).drew.trans hb2; have P2 : Hid (PD w w.heap.size (w.heap.size + 1) G a ca fs m e w2) := hP.out.later hWB; have y0 := P2.out.a1; have y1 := P2.out.a2; have y2 := P2.out.a3; have y3 := P2.out.a4)
          | (go_at_call 82; refine (plusD_any G g2 a a2 ca c2 fs f2 m (prodM t.ds) e (sumE t.ds) _ (by omega) (by omega) (by have := HSB.out; omega) (by have := HSB.out; omega) P2.out.row hr2 P2.out.b1 hB2 P2.out.cap (by omega)).mono ?_; rintro e3 w3 ⟨g3, a3, c3, f3, m3, e3', rfl, hB3, hS3, hl3, hr3, hF3, hb3⟩; have P3 : Hid (PD w w.heap.size (w.heap.size + 1) G a ca fs m e w3) := P2.out.later hb3; have x0 := P3.out.a1; have x1 := P3.out.a2; have x2 := P3.out.a3; have x3 := P3.out.a4))
      all_goals
        have hs2 : wr.heap.size ≤ w2.heap.size := hWB.size
        have hF2' : Far wr.heap.size a2 f2 := hF2
        have ho3 : (∀ b o, a3 = some ⟨b, o, none⟩ → f3 ≠ [] → b ≠ w.heap.size + 1 ∧ b ≠ w.heap.size) ∧ Far (w.heap.size + 1) a3 f3 := by
          rcases hF3 with h | ⟨h1, h2⟩ | ⟨h1, h2⟩
          · exact ⟨h.offs (by omega) (by omega), h.down (by omega)⟩
          · rw [h1, h2]
            exact ⟨P3.out.off, P3.out.far⟩
          · rw [h1, h2]
            exact ⟨hF2'.offs (by omega) (by omega), hF2'.down (by omega)⟩
        have HPN : Hid (PD w w.heap.size (w.heap.size + 1) g3 a3 c3 f3 m3 e3' (((w3.setCell ⟨w.heap.size + 1, 0, none⟩ (.bool g3)).setCell ⟨w.heap.size + 1, 1, none⟩ (.slice a3 f3.length c3)).setCell ⟨w.heap.size + 1, 2, none⟩ (.int .i64 e3'))) := P3.out.lay hB3 hr3 ho3.1 ho3.2 (by omega)
        have HK3 : Hid (∀ K, 60000 ≤ K → atK K m3 e3' = sumK K (ts.take (i + 1))) := by
          intro K hK6
          have hb := HSB.out
          rw [HTK.out, sumK_snoc, hS3.2 K (by omega) (by omega), hK.out K hK6]
        have hbe : -60000 ≤ e3' ∧ e3' ≤ 60000 := by
          have hb := HSB.out
          rcases hS3.1 with h | h <;> omega
        have hlen : f3.length ≤ 9043 * (i + 1) := by omega
        obtain ⟨hbe0, hbe1⟩ := hbe
        clear hB2 hr2 hF2 hb2 hWB P2 y0 y1 y2 y3 hB3 hS3 hr3 hF3 hb3 P3 x0 x1 x2 x3 hF2' ho3 z0 z1 z2 z3 hK hP
        go_wp2
        go_roundw
        case rel => exact ⟨i + 1, g3, a3, c3, f3, m3, e3', by omega, by go_num, hlen, hbe0, hbe1, HK3, HPN⟩
        case measure => simp [intOf]; omega
    · have hin : i = ts.length := by omega
      subst hin
      have HK3 : Hid (∀ K, 60000 ≤ K → atK K m e = sumK K ts) := by intro K hK6; have := hK.out K hK6; rw [List.take_length] at this; exact this
      have z0 := hP.out.a1
      have z1 := hP.out.a2
      have z2 := hP.out.a3
      have r1 := hP.out.r1
      have r2 := hP.out.r2
      have r3 := hP.out.r3
      have r4 := hP.out.r4
      clear hd2 hK
      go_wp2
      refine bodyPost_ret (v := .agg #[.bool G, .slice a fs.length ca, .int .i64 e]) (by simp [results, Tryd.results40, go_sem, r1, r2, r3]) rfl ?_
      refine ⟨G, a, ca, fs, m, e, rfl, hP.out.b1, ⟨hfl, hP.out.cap⟩, HK3.out, he0, he1, ?_, hP.out.far.down (by omega), ?_⟩
      · have ho := hP.out.off
        exact ((hP.out.row.setAway (fun b o e1 hne => (ho b o e1 hne).2) _).setAway (fun b o e1 hne => (ho b o e1 hne).2) _).setAway (fun b o e1 hne => (ho b o e1 hne).2) _
      · exact ((hP.out.bel.setCell (by simp) _).setCell (by simp) _).setCell (by simp) _

end Go.Proofs.YtladfpljnaippabDoor

/-
  Lists of dyadic numbers and of factors, written out.
-/
namespace Go.Proofs.YtladfpljnaippabDoor
open Go.RowKit

/-- One Dyadic written out as a list. -/
theorem one_rowD {W : World} {b : Nat} {d : DV} (hb : b < W.heap.size) (h0 : W.cell? ⟨b, 0, none⟩ = some (.bool d.g)) (h1 : W.cell? ⟨b, 1, none⟩ = some (.slice d.a d.zs.length d.c)) (h2 : W.cell? ⟨b, 2, none⟩ = some (.int .i64 d.E)) (hr : RowAt .u32 W d.a d.zs) : RowD W b 0 [d] := by
  refine ⟨hb, ?_, ?_, ?_, ?_⟩
  all_goals
    intro i hi
    have : i = 0 := by simp at hi; omega
    subst this
    simpa

theorem two_rowD {W : World} {b : Nat} {d d' : DV} (hb : b < W.heap.size) (h0 : W.cell? ⟨b, 0, none⟩ = some (.bool d.g)) (h1 : W.cell? ⟨b, 1, none⟩ = some (.slice d.a d.zs.length d.c)) (h2 : W.cell? ⟨b, 2, none⟩ = some (.int .i64 d.E)) (h3 : W.cell? ⟨b, 3, none⟩ = some (.bool d'.g)) (h4 : W.cell? ⟨b, 4, none⟩ = some (.slice d'.a d'.zs.length d'.c)) (h5 : W.cell? ⟨b, 5, none⟩ = some (.int .i64 d'.E))
    (hr : RowAt .u32 W d.a d.zs) (hr' : RowAt .u32 W d'.a d'.zs) : RowD W b 0 [d, d'] := by
  refine ⟨hb, ?_, ?_, ?_, ?_⟩
  all_goals
    intro i hi
    have : i = 0 ∨ i = 1 := by simp at hi; omega
    rcases this with rfl | rfl
    · simpa
    · simpa

theorem two_rowT {W : World} {b b1 b2 c1 c2 : Nat} {d d' : DV} (hb : b < W.heap.size) (h0 : W.cell? ⟨b, 0, none⟩ = some (.slice (some ⟨b1, 0, none⟩) 1 c1)) (h1 : W.cell? ⟨b, 1, none⟩ = some (.slice (some ⟨b2, 0, none⟩) 1 c2)) (hr : RowD W b1 0 [d]) (hr' : RowD W b2 0 [d']) : RowT W b 0 [⟨b1, 0, c1, [d]⟩, ⟨b2, 0, c2, [d']⟩] := by
  refine ⟨hb, ?_, ?_⟩
  all_goals
    intro i hi
    have : i = 0 ∨ i = 1 := by simp at hi; omega
    rcases this with rfl | rfl
    · simpa
    · simpa

theorem one_rowT {W : World} {b b1 c1 : Nat} {ds : List DV} (hb : b < W.heap.size) (h0 : W.cell? ⟨b, 0, none⟩ = some (.slice (some ⟨b1, 0, none⟩) ds.length c1)) (hr : RowD W b1 0 ds) : RowT W b 0 [⟨b1, 0, c1, ds⟩] := by
  refine ⟨hb, ?_, ?_⟩
  all_goals
    intro i hi
    have : i = 0 := by simp at hi; omega
    subst this
    simpa

end Go.Proofs.YtladfpljnaippabDoor

/-
  Plain mathematics: products, digit by digit.
-/
namespace Go.Proofs.YtladfpljnaippabDoor

/-- x times the digits ys, added to the digits ms. -/
def mulsL (x : Int) : List Int → List Int → List Int
  | [], _ => []
  | y :: ys, [] => (x * y) :: mulsL x ys []
  | y :: ys, m :: ms => (x * y + m) :: mulsL x ys ms

theorem muls_length (x : Int) : ∀ ys ms : List Int, (mulsL x ys ms).length = ys.length
  | [], _ => rfl
  | y :: ys, [] => by simp only [mulsL, List.length_cons, muls_length x ys []]
  | y :: ys, m :: ms => by simp only [mulsL, List.length_cons, muls_length x ys ms]

theorem val_muls (B x : Int) : ∀ ys ms : List Int, val B (mulsL x ys ms) = x * val B ys + val B (ms.take ys.length)
  | [], _ => by simp [mulsL, val]
  | y :: ys, [] => by
    have ih := val_muls B x ys []
    simp only [mulsL, val, ih, List.take_nil, Int.add_zero, Int.mul_add]
    rw [Int.mul_left_comm]
  | y :: ys, m :: ms => by
    have ih := val_muls B x ys ms
    simp only [mulsL, val, ih, List.length_cons, List.take_succ_cons, Int.mul_add]
    rw [Int.mul_left_comm x B]
    omega

theorem muls_drop (x : Int) {ys ms : List Int} {j : Nat} (h : j < ys.length) : mulsL x (ys.drop j) (ms.drop j) = (x * ys.getD j 0 + ms.getD j 0) :: mulsL x (ys.drop (j + 1)) (ms.drop (j + 1)) := by
  rw [List.drop_eq_getElem_cons h]
  by_cases h2 : j < ms.length
  · rw [List.drop_eq_getElem_cons h2]
    simp [mulsL, List.getD_eq_getElem?_getD, h, h2]
  · rw [List.drop_eq_nil_of_le (show ms.length ≤ j by omega), List.drop_eq_nil_of_le (show ms.length ≤ j + 1 by omega)]
    rw [List.getD_eq_getElem?_getD, List.getD_eq_getElem?_getD, List.getElem?_eq_none (show ms.length ≤ j by omega), List.getElem?_eq_getElem h]
    simp [mulsL]

theorem mul_step {B x c s : Int} {ys ms : List Int} {j : Nat} (h : j < ys.length) (hs : s = x * ys.getD j 0 + ms.getD j 0 + c) :
    carryD B (mulsL x (ys.drop j) (ms.drop j)) c = s % B :: carryD B (mulsL x (ys.drop (j + 1)) (ms.drop (j + 1))) (s / B) ∧ carryO B (mulsL x (ys.drop j) (ms.drop j)) c = carryO B (mulsL x (ys.drop (j + 1)) (ms.drop (j + 1))) (s / B) := by
  rw [muls_drop x h, hs]
  exact ⟨rfl, rfl⟩

theorem mul_bound {B x y : Int} (h0 : 0 ≤ x) (h1 : x < B) (h2 : 0 ≤ y) (h3 : y < B) : 0 ≤ x * y ∧ x * y ≤ (B - 1) * (B - 1) :=
  ⟨Int.mul_nonneg h0 h2, Int.mul_le_mul (by omega) (by omega) h2 (by omega)⟩

theorem carry_bound {B s : Int} (hB : 0 < B) (h0 : 0 ≤ s) (h1 : s ≤ (B - 1) * (B - 1) + (B - 1) + (B - 1)) : 0 ≤ s / B ∧ s / B ≤ B - 1 := by
  refine ⟨Int.ediv_nonneg h0 (by omega), ?_⟩
  have : s / B < B := by
    refine Int.ediv_lt_of_lt_mul hB ?_
    have e : (B - 1) * (B - 1) = B * B - B - B + 1 := by
      rw [Int.sub_mul, Int.mul_sub]
      omega
    omega
  omega

/-- One row of a product: the digits i .. of P gain x times ys. -/
theorem row_step {B x : Int} {P ys : List Int} {i : Nat} {D : List Int} {c : Int} (hl : i + ys.length < P.length) (hD : D = carryD B (mulsL x ys (P.drop i)) 0) (hc : c = carryO B (mulsL x ys (P.drop i)) 0) (h0 : P.getD (i + ys.length) 0 = 0) :
    val B (P.take i ++ ((D ++ [c]) ++ P.drop (i + ys.length + 1))) = val B P + B ^ i * (x * val B ys) := by
  have hti : (P.take i).length = i := by rw [List.length_take]; omega
  have hDl : (D ++ [c]).length = ys.length + 1 := by rw [hD, List.length_append, carryD_length, muls_length]; rfl
  have e1 : val B (D ++ [c]) = x * val B ys + val B ((P.drop i).take ys.length) := by rw [hD, hc, val_carryDO, val_muls]; omega
  have e2 : val B P = val B (P.take i) + B ^ i * (val B ((P.drop i).take ys.length) + B ^ ys.length * val B (P.drop (i + ys.length))) := by
    have a1 := val_append B (P.drop i) (P.take i)
    rw [List.take_append_drop, hti] at a1
    have a2 := val_append B ((P.drop i).drop ys.length) ((P.drop i).take ys.length)
    rw [List.take_append_drop] at a2
    have hl2 : ((P.drop i).take ys.length).length = ys.length := by rw [List.length_take, List.length_drop]; omega
    rw [hl2, List.drop_drop] at a2
    rw [a1, a2]
  have e3 : val B (P.drop (i + ys.length)) = B * val B (P.drop (i + ys.length + 1)) := by
    rw [List.drop_eq_getElem_cons hl]
    have : P[i + ys.length] = 0 := by simpa [List.getD_eq_getElem?_getD, hl] using h0
    rw [this]
    simp [val]
  rw [val_append, hti, val_append, hDl, e1, e2, e3, Int.pow_succ]
  simp only [Int.mul_add]
  rw [Int.mul_assoc (B ^ ys.length) B]
  omega

theorem val_take_succ {B : Int} {zs : List Int} {i : Nat} (h : i < zs.length) : val B (zs.take (i + 1)) = val B (zs.take i) + B ^ i * zs.getD i 0 := by
  rw [List.take_succ_eq_append_getElem h, val_append]
  have hti : (zs.take i).length = i := by rw [List.length_take]; omega
  rw [hti]
  simp [val, List.getD_eq_getElem?_getD, h]

/-- What the rows so far have made of the product. -/
structure Prod (B : Int) (zs ys : List Int) (L i : Nat) (P : List Int) : Prop where
  dig : Dig B P
  len : P.length = L
  eq : val B P = val B (zs.take i) * val B ys
  up : ∀ j, i + ys.length ≤ j → P.getD j 0 = 0

theorem prod_start (B : Int) (hB : 0 < B) (zs ys : List Int) (L : Nat) : Prod B zs ys L 0 (List.replicate L 0) := by
  refine ⟨fun z hz => ?_, by simp, ?_, fun j _ => ?_⟩
  · rw [List.eq_of_mem_replicate hz]; exact ⟨Int.le_refl 0, hB⟩
  · have : ∀ n : Nat, val B (List.replicate n 0) = 0 := by
      intro n
      induction n with
      | zero => rfl
      | succ n ih => simp [List.replicate_succ, val, ih]
    rw [this]
    simp [val]
  · by_cases hj : j < L
    · simp [List.getD_eq_getElem?_getD, hj]
    · simp [List.getD_eq_getElem?_getD, hj]

theorem prod_step {B x c : Int} (hB : 1 < B) {zs ys P D : List Int} {L i : Nat} (h : Prod B zs ys L i P) (hi : i < zs.length) (hL : i + ys.length < L) (hx : x = zs.getD i 0) (hD : D = carryD B (mulsL x ys (P.drop i)) 0) (hc : c = carryO B (mulsL x ys (P.drop i)) 0) (hc0 : 0 ≤ c) (hc1 : c < B) :
    Prod B zs ys L (i + 1) (P.take i ++ ((D ++ [c]) ++ P.drop (i + ys.length + 1))) := by
  have hl : i + ys.length < P.length := by rw [h.len]; exact hL
  have hti : (P.take i).length = i := by rw [List.length_take]; omega
  have hDl : (D ++ [c]).length = ys.length + 1 := by rw [hD, List.length_append, carryD_length, muls_length]; rfl
  refine ⟨?_, ?_, ?_, ?_⟩
  · exact (h.dig.take i).append (((by rw [hD]; exact dig_carryD (by omega) _ _ : Dig B D).append (Dig.cons hc0 hc1 (Dig.nil B))).append (h.dig.drop _))
  · rw [List.length_append, List.length_append, hti, hDl, List.length_drop, h.len]; omega
  · rw [row_step hl hD hc (h.up _ (Nat.le_refl _)), h.eq, val_take_succ hi, Int.add_mul, hx, Int.mul_assoc]
  · intro j hj
    rw [List.getD_eq_getElem?_getD, List.getElem?_append_right (by rw [hti]; omega), List.getElem?_append_right (by rw [hti, hDl]; omega), hti, hDl, List.getElem?_drop, ← List.getD_eq_getElem?_getD]
    exact h.up _ (by omega)

/-- The product's own row while a row of digits is being added. -/
theorem mid_get {P D : List Int} {i j k : Nat} (hi : i + j ≤ k) (hD : D.length = j) (hP : i ≤ P.length) : (P.take i ++ (D ++ P.drop (i + j))).getD k 0 = P.getD k 0 := by
  have hti : (P.take i).length = i := by rw [List.length_take]; omega
  rw [List.getD_eq_getElem?_getD, List.getElem?_append_right (by omega), List.getElem?_append_right (by omega), hti, hD, List.getElem?_drop, List.getD_eq_getElem?_getD]
  congr 2
  omega

theorem mid_set {P D : List Int} {i j : Nat} {d : Int} (hD : D.length = j) (hP : i + j < P.length) : (P.take i ++ (D ++ P.drop (i + j))).set (i + j) d = P.take i ++ ((D ++ [d]) ++ P.drop (i + j + 1)) := by
  have hti : (P.take i).length = i := by rw [List.length_take]; omega
  have e := List.drop_eq_getElem_cons hP
  rw [List.set_append_right _ _ (by omega), hti, show i + j - i = j by omega, List.set_append_right _ _ (by omega), hD, Nat.sub_self, e, List.set_cons_zero, List.append_assoc D [d]]
  rfl

theorem mid_length {P D : List Int} {i j : Nat} (hD : D.length = j) (hP : i + j ≤ P.length) : (P.take i ++ (D ++ P.drop (i + j))).length = P.length := by
  rw [List.length_append, List.length_append, List.length_take, List.length_drop]; omega

end Go.Proofs.YtladfpljnaippabDoor

/-
  The program's products.
-/
namespace Go.Proofs.YtladfpljnaippabDoor
open Go.RowKit

set_option maxHeartbeats 4000000 in
theorem times_any (a a' : Option Addr) (p p' : Nat) (zs ys : List Int) (w : World) (hn : zs.length ≤ 100000) (hn' : ys.length ≤ 100000) (hz : RowAt .u32 w a zs) (hy : RowAt .u32 w a' ys) (hdz : Dig 4294967296 zs) (hdy : Dig 4294967296 ys) :
    Calls Tryd.prog 119 #[.slice a zs.length p, .slice a' ys.length p'] w fun e w' => MagOut w (val 4294967296 zs * val 4294967296 ys) (zs.length + ys.length) e w' := by
  have hmk := run_make_row' (P := Tryd.prog) 86 33 (.int .u32 0) 4 Tryd.underlying86 Tryd.info33 rfl .i64 .i64 (zs.length + ys.length) (by omega) (by omega)
  rw [show ((zs.length + ys.length : Nat) : Int) = (zs.length : Int) + (ys.length : Int) by omega] at hmk
  go_enter Tryd.func119, Tryd.ntmps119
  go_wp2
  go_loopw [19] (fun t wr => ∃ (i : Nat) (P : List Int), i ≤ zs.length ∧ t = .int .i64 i ∧ Hid (Prod 4294967296 zs ys (zs.length + ys.length) i P) ∧ Own .u32 wr w.heap.size 0 P ∧ Below w.heap.size w wr) (fun t _ => zs.length - (intOf t).toNat)
  case atStart => exact ⟨0, List.replicate (zs.length + ys.length) 0, Nat.zero_le _, rfl, prod_start _ (by decide) _ _ _, Own.made w (zs.length + ys.length) _, bel0 _ _⟩
  case round =>
    obtain ⟨i, P, hi, rfl, hP, hown, hnx⟩ := hrel
    by_cases hlt : i < zs.length
    · have hb1 := hdz.at (by decide) i
      obtain ⟨b, off, rfl, g1⟩ := row_cell hz hnx hlt
      obtain ⟨x, hx⟩ : ∃ x, x = zs.getD i 0 := ⟨_, rfl⟩
      rw [← hx] at hb1 g1
      obtain ⟨hb10, hb11⟩ := hb1
      have HX : Hid (x = zs.getD i 0) := hx
      have hPl : P.length = zs.length + ys.length := hP.out.len
      have HPl : Hid (P.length = zs.length + ys.length) := hPl
      have HO : Hid (Own .u32 wr w.heap.size 0 P) := hown
      have HN : Hid (Below w.heap.size w wr) := hnx
      clear hx hPl hown hnx
      go_wp2
      go_loopw [8, 26] (fun cc t wq => ∃ (j : Nat) (c : Int) (D : List Int), j ≤ ys.length ∧ D.length = j ∧ t = .int .i64 j ∧ cc = .int .u64 c ∧ 0 ≤ c ∧ c ≤ 4294967295 ∧ Hid (carryD 4294967296 (mulsL x ys (P.drop i)) 0 = D ++ carryD 4294967296 (mulsL x (ys.drop j) ((P.drop i).drop j)) c) ∧ Hid (carryO 4294967296 (mulsL x ys (P.drop i)) 0 = carryO 4294967296 (mulsL x (ys.drop j) ((P.drop i).drop j)) c) ∧
          Own .u32 wq w.heap.size 0 (P.take i ++ (D ++ P.drop (i + j))) ∧ Below w.heap.size w wq) (fun _ t _ => ys.length - (intOf t).toNat)
      case atStart => exact ⟨0, 0, [], Nat.zero_le _, rfl, rfl, rfl, by decide, by decide, rfl, rfl, by simpa using HO.out, HN.out⟩
      case round =>
        obtain ⟨j, c, D, hj, hDl, rfl, rfl, hc0, hc1, hD, hO, hown, hnx⟩ := hrel
        by_cases hlt2 : j < ys.length
        · have hb2 := hdy.at (by decide) j
          obtain ⟨b', off', rfl, g2⟩ := row_cell hy hnx hlt2
          obtain ⟨y, hyy⟩ : ∃ y, y = ys.getD j 0 := ⟨_, rfl⟩
          rw [← hyy] at hb2 g2
          obtain ⟨hb20, hb21⟩ := hb2
          have hij : i + j < P.length := by rw [HPl.out]; omega
          have hbm := hP.out.dig.at (by decide) (i + j)
          have g3 := hown.cell (i + j) (by rw [mid_length hDl (by omega)]; exact hij)
          have g4 := hown.free (i + j) (by rw [mid_length hDl (by omega)]; exact hij)
          rw [Nat.zero_add] at g3 g4
          rw [mid_get (Nat.le_refl _) hDl (by omega)] at g3
          obtain ⟨m, hm⟩ : ∃ m, m = P.getD (i + j) 0 := ⟨_, rfl⟩
          rw [← hm] at hbm g3
          obtain ⟨hbm0, hbm1⟩ := hbm
          obtain ⟨hxy0, hxy1⟩ := mul_bound hb10 hb11 hb20 hb21
          simp only [Int.reduceSub, Int.reduceMul] at hxy1
          have hcb := carry_bound (B := 4294967296) (s := c + (x * y + m)) (by decide) (by omega) (by simp only [Int.reduceSub, Int.reduceMul]; omega)
          have hst := mul_step (B := 4294967296) (x := x) (c := c) (s := c + (x * y + m)) (ms := P.drop i) hlt2 (by rw [← hyy, List.getD_eq_getElem?_getD, List.getElem?_drop, ← List.getD_eq_getElem?_getD, ← hm]; omega)
          have HD : Hid (carryD 4294967296 (mulsL x ys (P.drop i)) 0 = (D ++ [(c + (x * y + m)) % 4294967296]) ++ carryD 4294967296 (mulsL x (ys.drop (j + 1)) ((P.drop i).drop (j + 1))) ((c + (x * y + m)) / 4294967296)) := by unfold Hid; rw [hD.out, hst.1]; simp
          have HQ : Hid (carryO 4294967296 (mulsL x ys (P.drop i)) 0 = carryO 4294967296 (mulsL x (ys.drop (j + 1)) ((P.drop i).drop (j + 1))) ((c + (x * y + m)) / 4294967296)) := by unfold Hid; rw [hO.out, hst.2]
          have hs := hown.set (i + j) ((c + (x * y + m)) % 4294967296) (by rw [mid_length hDl (by omega)]; exact hij)
          rw [Nat.zero_add, mid_set hDl hij] at hs
          have HS : Hid (Own .u32 (wr.setCell ⟨w.heap.size, i + j, none⟩ (.int .u32 ((c + (x * y + m)) % 4294967296))) w.heap.size 0 (P.take i ++ ((D ++ [(c + (x * y + m)) % 4294967296]) ++ P.drop (i + j + 1)))) := hs
          have HB : Hid (Below w.heap.size w (wr.setCell ⟨w.heap.size, i + j, none⟩ (.int .u32 ((c + (x * y + m)) % 4294967296)))) := hnx.setCell (Nat.le_refl _) _
          obtain ⟨hcb0, hcb1⟩ := hcb
          have HCB : Hid (0 ≤ (c + (x * y + m)) / 4294967296 ∧ (c + (x * y + m)) / 4294967296 ≤ 4294967295) := ⟨hcb0, by omega⟩
          have HJ : Hid (i + j < zs.length + ys.length) := by unfold Hid; omega
          have hji : (i : Int) + (j : Int) < (zs.length : Int) + (ys.length : Int) := by omega
          clear hcb0 hcb1 hst hs hyy hm hD hO hown hnx hij HN HO
          go_wp2
          go_roundw
          case rel => exact ⟨j + 1, (c + (x * y + m)) / 4294967296, D ++ [(c + (x * y + m)) % 4294967296], by omega, by simp; omega, by go_num, rfl, HCB.out.1, HCB.out.2, HD, HQ, HS.out, HB.out⟩
          case measure => simp [intOf]; omega
        · have hjn : j = ys.length := by omega
          subst hjn
          have hin : i + ys.length < P.length := by rw [HPl.out]; omega
          have hDD : D = carryD 4294967296 (mulsL x ys (P.drop i)) 0 := by
            rw [hD.out, List.drop_eq_nil_of_le (Nat.le_refl _)]; simp [mulsL, carryD]
          have hCC : c = carryO 4294967296 (mulsL x ys (P.drop i)) 0 := by
            rw [hO.out, List.drop_eq_nil_of_le (Nat.le_refl _)]; simp [mulsL, carryO]
          have HP2 : Hid (Prod 4294967296 zs ys (zs.length + ys.length) (i + 1) (P.take i ++ ((D ++ [c]) ++ P.drop (i + ys.length + 1)))) := prod_step (by decide) hP.out hlt (by omega) HX.out hDD hCC hc0 (by omega)
          have g3 := hown.cell (i + ys.length) (by rw [mid_length hDl (by omega)]; exact hin)
          have g4 := hown.free (i + ys.length) (by rw [mid_length hDl (by omega)]; exact hin)
          rw [Nat.zero_add] at g3 g4
          have hs := hown.set (i + ys.length) c (by rw [mid_length hDl (by omega)]; exact hin)
          rw [Nat.zero_add, mid_set hDl hin] at hs
          have HS : Hid (Own .u32 (wr.setCell ⟨w.heap.size, i + ys.length, none⟩ (.int .u32 c)) w.heap.size 0 (P.take i ++ ((D ++ [c]) ++ P.drop (i + ys.length + 1)))) := hs
          have HB : Hid (Below w.heap.size w (wr.setCell ⟨w.heap.size, i + ys.length, none⟩ (.int .u32 c))) := hnx.setCell (Nat.le_refl _) _
          have hji : (i : Int) + (ys.length : Int) < (zs.length : Int) + (ys.length : Int) := by omega
          clear hs hDD hCC hD hO hown hnx hin HN HO hP
          go_wp2
          go_roundw
          case rel => exact ⟨i + 1, P.take i ++ ((D ++ [c]) ++ P.drop (i + ys.length + 1)), by omega, by go_num, HP2, HS.out, HB.out⟩
          case measure => simp [intOf]; omega
    · have hin : i = zs.length := by omega
      subst hin
      have hPl : P.length = zs.length + ys.length := hP.out.len
      have hV : val 4294967296 P = val 4294967296 zs * val 4294967296 ys := by rw [hP.out.eq, List.take_length]
      have HV : Hid (val 4294967296 P = val 4294967296 zs * val 4294967296 ys) := hV
      have HG : Hid (Dig 4294967296 P) := hP.out.dig
      have HL : Hid (P.length = zs.length + ys.length) := hPl
      have HS : Hid (Own .u32 wr w.heap.size 0 P) := hown
      have HB : Hid (Below w.heap.size w wr) := hnx
      clear hV hPl hP hown hnx hz hy hdz hdy
      go_wp2_with fail
      have e1 : zs.length + ys.length = P.length := HL.out.symm
      rw [e1]
      refine (trimmed_any _ _ P _ w.heap.size (by omega) (by unfold maxLen; omega) (Nat.le_refl _) (fun h => by cases h) (HS.out.new (Nat.le_refl _))).mono ?_
      rintro e w1 ⟨a2, c2, rfl, hf2, hm2, hr2, hw⟩
      subst hw
      have HM : Hid (MagOut w (val 4294967296 zs * val 4294967296 ys) (zs.length + ys.length) (.returned (.slice a2 (trimL P).length c2)) w1) := by
        refine ⟨a2, c2, trimL P, rfl, hf2, hm2, canon_trim HG.out, by rw [val_trim, HV.out], ?_, hr2, HB.out⟩
        have := trim_le P
        omega
      clear hf2 hm2 hr2 HG HV HB HS e1
      go_wp2
      go_ret
      exact HM.out

theorem sg_mul (g g' : Bool) (u v : Int) : sg (g != g') (u * v) = sg g u * sg g' v := by
  cases g <;> cases g' <;> simp [sg, Int.neg_mul, Int.mul_neg]

set_option maxHeartbeats 4000000 in
theorem productOf_any (g g' : Bool) (a a' : Option Addr) (c c' : Nat) (zs ys : List Int) (x y : Int) (w : World) (hn : zs.length ≤ 100000) (hn' : ys.length ≤ 100000) (hz : RowAt .u32 w a zs) (hy : RowAt .u32 w a' ys) (h : B1 g zs x) (h' : B1 g' ys y) :
    Calls Tryd.prog 111 #[.agg #[.bool g, .slice a zs.length c], .agg #[.bool g', .slice a' ys.length c']] w fun e w' => BigOut w (x * y) (zs.length + ys.length + 1) e w' := by
  have HX : Hid (sg (g != g') (val 4294967296 zs * val 4294967296 ys) = x * y) := by
    unfold Hid
    rw [sg_mul, h.num, h'.num]
  have hdz := h.can.1
  have hdy := h'.can.1
  clear h h'
  go_enter Tryd.func111, Tryd.ntmps111
  go_wp2
  obtain ⟨W0, hW0⟩ : ∃ W0, W0 = (((w.alloc (.cells #[.bool g, .slice a zs.length c] 27)).alloc (.cells #[.bool g', .slice a' ys.length c'] 27)).alloc (.cells #[.bool false, .slice none 0 0] 27)) := ⟨_, rfl⟩
  rw [← hW0]
  have F : Hid (AddF w g g' (.slice a zs.length c) (.slice a' ys.length c') (.slice none 0 0) W0) := by rw [hW0]; exact AddF.start w g g' _ _ _ _ _ _
  clear hW0
  go_region_held3 (fun w' => w'.cell? ⟨w.heap.size, 0, none⟩ = some (.bool g) ∧ w'.cell? ⟨w.heap.size, 1, none⟩ = some (.slice a zs.length c) ∧ w'.cell? ⟨w.heap.size + 1, 0, none⟩ = some (.bool g') ∧ w'.cell? ⟨w.heap.size + 1, 1, none⟩ = some (.slice a' ys.length c') ∧ Below (w.heap.size + 1 + 1) W0 w')
    (first | exact addS_of F.out.s (Below.refl _ _).drew | exact addS_of F.out.s (by assumption) | exact addS_of F.out.s (Below.setCell (Below.setCell (by assumption) (by simp) _) (by simp) _))
    (first
      | (go_at_call 119; refine (times_any a a' c c' zs ys _ hn hn' (hz.later F.out.bel.drew) (hy.later F.out.bel.drew) hdz hdy).mono ?_; rintro e w1 ⟨a2, c2, fs, rfl, hf2, hm2, hcan, hval, hlen, hrn1, hb1⟩; have hB1 : Below W0.heap.size W0 w1 := (Below.refl _ _).drew.trans hb1; have hB1' : Below (w.heap.size + 1 + 1) W0 w1 := hB1.mono (by have := F.out.le; omega))
      | (go_at_call 50; refine (signed_any _ a2 fs.length c2 _).mono ?_; rintro e w2 ⟨rfl, hb2⟩; have hB2 : Below W0.heap.size W0 w2 := hB1.trans (hb2.mono hB1.size); have hB2' : Below (w.heap.size + 1 + 1) W0 w2 := hB2.mono (by have := F.out.le; omega); have hrn2 : RowNew .u32 w2 W0.heap.size a2 fs := RowNew.later hrn1 hb2; have F2 : Hid (AddF w g g' (.slice a zs.length c) (.slice a' ys.length c') (.slice none 0 0) w2) := F.out.later hB2; have r1 := F2.out.r1; have r2 := F2.out.r2; have r3 := F2.out.r3))
  have HR : Hid (RowNew .u32 w2 W0.heap.size a2 fs) := hrn2
  have HB : Hid (B1 (!(g == g') && decide (0 < fs.length)) fs (x * y)) := by unfold Hid; rw [← HX.out]; exact B1.of_signed (g := (g != g')) hcan hval
  clear hrn1 hrn2 hB1 hB1' hB2 hB2' hb1 hb2 hcan hval
  generalize (!(g == g') && decide (0 < fs.length)) = g2 at *
  go_wp2
  refine bodyPost_ret (v := .agg #[.bool g2, .slice a2 fs.length c2]) (by simp [results, Tryd.results111, go_sem, r1, r2]) rfl ?_
  have hle := F.out.le
  refine ⟨g2, a2, c2, fs, rfl, HB.out, by omega, ?_, ?_⟩
  · exact ((HR.out.setLow (by simp; omega) _).setLow (by simp; omega) _).down (by omega)
  · exact (F2.out.bel.setCell (by simp; omega) _).setCell (by simp; omega) _

end Go.Proofs.YtladfpljnaippabDoor

/-
  The program's one.
-/
namespace Go.Proofs.YtladfpljnaippabDoor
open Go.RowKit

/-- What one hands back. -/
def OneOut (w : World) (e : Ending) (w' : World) : Prop := ∃ b, e = .returned (.agg #[.bool false, .slice (some ⟨b, 0, none⟩) 1 1]) ∧ w.heap.size ≤ b ∧ b < w'.heap.size ∧ w'.cell? ⟨b, 0, none⟩ = some (.int .u32 1) ∧ Below w.heap.size w w'

set_option maxHeartbeats 400000 in
theorem one_any (w : World) : Calls Tryd.prog 110 #[] w fun e w' => OneOut w e w' := by
  go_enter Tryd.func110, Tryd.ntmps110
  go_wp2
  refine bodyPost_ret (v := .agg #[.bool false, .slice (some ⟨w.heap.size + 1, 0, none⟩) 1 1]) (by simp [results, Tryd.results110, go_sem]) rfl ?_
  exact ⟨w.heap.size + 1, rfl, by omega, by simp, by simp [go_sem], bel2 _ _ _⟩

end Go.Proofs.YtladfpljnaippabDoor

/-
  The program's products of dyadic numbers.
-/
namespace Go.Proofs.YtladfpljnaippabDoor
open Go.RowKit

set_option maxRecDepth 100000 in
set_option maxHeartbeats 8000000 in
theorem prod_any (b off c : Nat) (ds : List DV) (w : World) (hn : ds.length ≤ 3) (hl : ∀ d, d ∈ ds → d.zs.length ≤ 512 ∧ -20000 ≤ d.E ∧ d.E ≤ 20000 ∧ B1 d.g d.zs (sg d.g (val 4294967296 d.zs))) (hd : RowD w b off ds) :
    Calls Tryd.prog 83 #[.slice (some ⟨b, off, none⟩) ds.length c] w fun e w' => ProdOut w (prodM ds) (sumE ds) (513 * ds.length + 1) e w' := by
  go_enter Tryd.func83, Tryd.ntmps83
  go_wp2_with fail
  refine (one_any _).mono ?_
  rintro e w1 ⟨bb, rfl, hbb0, hbb1, hbb2, hb1⟩
  have hb0 : w.heap.size + 1 ≤ bb := by simpa using hbb0
  have P0 : ∀ t, PD w w.heap.size w1.heap.size false (some ⟨bb, 0, none⟩) 1 [1] 1 0 (w1.alloc (.cells #[.bool false, .slice (some ⟨bb, 0, none⟩) 1 1, .int .i64 0] t)) := by
    intro t
    have hbw : Below (w.heap.size + 1) (w.alloc (.cells #[.bool false, .slice none 0 0, .int .i64 0] 29)) (w1.alloc (.cells #[.bool false, .slice (some ⟨bb, 0, none⟩) 1 1, .int .i64 0] t)) := (hb1.mono (by simp)).alloc (by omega) _
    refine ⟨?_, ?_, ?_, ?_, ?_, ?_, ?_, ?_, ⟨⟨Dig.cons (by decide) (by decide) (Dig.nil _), by decide⟩, by decide, fun h => by cases h⟩, ?_, ?_, .inr ⟨_, _, rfl, hb0⟩, ⟨Nat.le_refl _, by omega, by simp⟩, (bel0 _ _).trans (hbw.mono (by omega)), ⟨Nat.le_refl _, by unfold maxLen; omega⟩⟩
    · exact (hbw.cell (by simp)).trans (by simp [go_sem])
    · exact (hbw.cell (by simp)).trans (by simp [go_sem])
    · exact (hbw.cell (by simp)).trans (by simp [go_sem])
    · intro j
      exact (hbw.frozen (by simp)).trans (by simp [go_sem])
    · simp [go_sem]
    · simp [go_sem]
    · simp [go_sem]
    · simp [go_sem]
    · refine .inr ⟨bb, 0, rfl, by simp; omega, fun j hj => ?_⟩
      have : j = 0 := by simp at hj; omega
      subst this
      rw [World.cell?_alloc_past _ _ _ hbb1]
      simpa using hbb2
    · intro b o e1 _
      injection e1 with e1
      have : bb = b := congrArg Addr.block e1
      omega
  have oR : w.heap.size < w1.heap.size := by omega
  clear hbb0 hbb1 hbb2 hb1 hb0
  go_wp2
  have P1 := P0 29
  clear P0
  obtain ⟨X, hX⟩ : ∃ X, X = w1.alloc (.cells #[.bool false, .slice (some ⟨bb, 0, none⟩) 1 1, .int .i64 0] 29) := ⟨_, rfl⟩
  rw [← hX] at P1 ⊢
  clear hX
  obtain ⟨A, hA⟩ : ∃ A, A = w1.heap.size := ⟨_, rfl⟩
  rw [← hA] at P1 oR ⊢
  clear hA
  have HP0 : Hid (PD w w.heap.size A false (some ⟨bb, 0, none⟩) 1 [1] 1 0 X) := P1
  clear P1
  go_loopw [5, 10] (fun _ si wr => ∃ (i : Nat) (G : Bool) (a : Option Addr) (ca : Nat) (fs : List Int), i ≤ ds.length ∧ si = .int .i64 i ∧ fs.length ≤ 513 * i + 1 ∧ -20000 * (i : Int) ≤ sumE (ds.take i) ∧ sumE (ds.take i) ≤ 20000 * (i : Int) ∧ Hid (PD w w.heap.size (A) G a ca fs (prodM (ds.take i)) (sumE (ds.take i)) wr)) (fun _ si _ => ds.length - (intOf si).toNat)
  case atStart => exact ⟨0, false, _, 1, [1], Nat.zero_le _, rfl, by simp, by simp [sumE], by simp [sumE], HP0⟩
  case round =>
    obtain ⟨i, G, a, ca, fs, hi, rfl, hfl, hs0, hs1, hP⟩ := hrel
    clear HP0
    have hd2 := hd.later hP.out.bel
    by_cases hlt : i < ds.length
    · have g0 := hd2.c0 i hlt
      have g1 := hd2.c1 i hlt
      have g2 := hd2.c2 i hlt
      have g3 := hd2.row i hlt
      obtain ⟨d, hdd⟩ : ∃ d, d = ds.getD i default := ⟨_, rfl⟩
      rw [← hdd] at g0 g1 g2 g3
      have hib : (i : Int) < ds.length := by omega
      have hmem : d ∈ ds := by rw [hdd, List.getD_eq_getElem?_getD, List.getElem?_eq_getElem hlt]; exact List.getElem_mem hlt
      obtain ⟨hd5, hE0, hE1, hBd⟩ := hl d hmem
      have htk : ds.take (i + 1) = ds.take i ++ [d] := by
        rw [List.take_succ_eq_append_getElem hlt, hdd, List.getD_eq_getElem?_getD, List.getElem?_eq_getElem hlt]
        rfl
      have HPM : Hid (prodM (ds.take (i + 1)) = prodM (ds.take i) * sg d.g (val 4294967296 d.zs)) := by unfold Hid; rw [htk, prodM_snoc]
      have HSE : Hid (sumE (ds.take (i + 1)) = sumE (ds.take i) + d.E) := by unfold Hid; rw [htk, sumE_snoc]
      have G3 : Hid (RowAt .u32 wr d.a d.zs) := g3
      obtain ⟨M, hM⟩ : ∃ M, M = prodM (ds.take i) := ⟨_, rfl⟩
      obtain ⟨S, hS⟩ : ∃ S, S = sumE (ds.take i) := ⟨_, rfl⟩
      rw [← hM] at HPM hP
      rw [← hS] at HSE hP hs0 hs1
      clear hdd hmem g3 hd2 htk hM hS
      have z0 := hP.out.a1
      have z1 := hP.out.a2
      have z2 := hP.out.a3
      have z3 := hP.out.a4
      have oA : A < wr.heap.size := hP.out.ord.2.2
      have hSE0 : -9223372036854775808 ≤ S + d.E := by omega
      have hSE1 : S + d.E ≤ 9223372036854775807 := by omega
      go_wp2
      have hWB : Below wr.heap.size wr (wr.alloc (.cells #[.bool d.g, .slice d.a d.zs.length d.c, .int .i64 d.E] 29)).drew := (bel0 _ _).drew
      have HWE : Hid ((wr.alloc (.cells #[.bool d.g, .slice d.a d.zs.length d.c, .int .i64 d.E] 29)).drew.cell? ⟨wr.heap.size, 2, none⟩ = some (.int .i64 d.E)) := by unfold Hid; simp [go_sem]
      have HWS : Hid (wr.heap.size < (wr.alloc (.cells #[.bool d.g, .slice d.a d.zs.length d.c, .int .i64 d.E] 29)).drew.heap.size) := by unfold Hid; simp [go_sem]
      go_region_with
        (first
          | (go_at_call 111; refine (productOf_any G d.g a d.a ca d.c fs d.zs M (sg d.g (val 4294967296 d.zs)) _ (by omega) (by omega) (hP.out.later hWB).row (G3.out.later hWB) hP.out.b1 hBd).mono ?_; rintro e w2 ⟨g2, a2, c2, f2, rfl, hB2, hl2, hr2, hb2⟩; have P2 : Hid (PD w w.heap.size (A) G a ca fs M S w2) := (hP.out.later hWB).later hb2; have y0 := P2.out.a1; have y1 := P2.out.a2; have y2 := P2.out.a3; have y3 := P2.out.a4; have y4 := (hb2.cell (p := ⟨wr.heap.size, 2, none⟩) HWS.out).trans HWE.out))
      all_goals
        have HF : Far wr.heap.size a2 f2 := hr2.far (Nat.le_refl _) (by have := HWS.out; omega)
        have PN := P2.out.put (c' := c2) (e' := S + d.E) hB2 hr2.row HF oA (by omega)
        rw [← HPM.out, ← HSE.out] at PN
        have HPN : Hid (PD w w.heap.size (A) g2 a2 c2 f2 (prodM (ds.take (i + 1))) (sumE (ds.take (i + 1))) (((w2.setCell ⟨A, 0, none⟩ (.bool g2)).setCell ⟨A, 1, none⟩ (.slice a2 f2.length c2)).setCell ⟨A, 2, none⟩ (.int .i64 (S + d.E)))) := by
          unfold Hid
          have h2 := HSE.out
          rw [h2] at PN
          rw [h2]
          exact PN
        have hl3 : f2.length ≤ 513 * (i + 1) + 1 := by omega
        have hq0 : -20000 * ((i : Int) + 1) ≤ S + d.E := by omega
        have hq1 : S + d.E ≤ 20000 * ((i : Int) + 1) := by omega
        clear PN hB2 hr2 hb2 P2 HF y0 y1 y2 y3 y4 z0 z1 z2 z3
        go_wp2
        go_roundw
        case rel => exact ⟨i + 1, g2, a2, c2, f2, by omega, by go_num, hl3, by rw [HSE.out]; simpa using hq0, by rw [HSE.out]; simpa using hq1, HPN⟩
        case measure => simp [intOf]; omega
    · have hin : i = ds.length := by omega
      subst hin
      rw [List.take_length] at hP hs0 hs1
      have z0 := hP.out.a1
      have z1 := hP.out.a2
      have z2 := hP.out.a3
      have r1 := hP.out.r1
      have r2 := hP.out.r2
      have r3 := hP.out.r3
      have r4 := hP.out.r4
      obtain ⟨S, hS⟩ : ∃ S, S = sumE ds := ⟨_, rfl⟩
      have HS : Hid (S = sumE ds) := hS
      rw [← hS] at hP z2
      clear hS hd2
      go_wp2
      refine bodyPost_ret (v := .agg #[.bool G, .slice a fs.length ca, .int .i64 S]) (by simp [results, Tryd.results83, go_sem, r1, r2, r3]) rfl ?_
      refine ⟨G, a, ca, fs, by rw [HS.out], hP.out.b1, ⟨hfl, hP.out.cap⟩, ?_, hP.out.far.down (by omega), ?_⟩
      · have ho := hP.out.off
        exact ((hP.out.row.setAway (fun b o e1 hne => (ho b o e1 hne).2) _).setAway (fun b o e1 hne => (ho b o e1 hne).2) _).setAway (fun b o e1 hne => (ho b o e1 hne).2) _
      · exact ((hP.out.bel.setCell (by simp) _).setCell (by simp) _).setCell (by simp) _

end Go.Proofs.YtladfpljnaippabDoor

/-
  Products of factors, as the sums of products take them.
-/
namespace Go.Proofs.YtladfpljnaippabDoor

theorem prodSaysJ : ProdSays := fun b off c ds w hn hl hd => prod_any b off c ds w hn hl hd

end Go.Proofs.YtladfpljnaippabDoor

/-
  The program's DyMul.
-/
namespace Go.Proofs.YtladfpljnaippabDoor
open Go.RowKit

set_option maxRecDepth 100000 in
set_option maxHeartbeats 8000000 in
theorem mulDI_bad (g g' : Bool) (a a' : Option Addr) (c c' : Nat) (zs ys : List Int) (E E' v : Int) (w : World) (hn : zs.length ≤ 1048576) (hn' : ys.length ≤ 1048576) (hz : RowAt .u32 w a zs) (hy : RowAt .u32 w a' ys) (hv : (validD g zs E && validD g' ys E') = false) :
    Calls Tryd.prog 13 #[.agg #[.bool g, .slice a zs.length c, .int .i64 E], .agg #[.bool g', .slice a' ys.length c', .int .i64 E']] w fun e w' => OutDI w false v e w' := by
  have B0 : Hid (∀ t t' t2, Bx7 w (.bool g) (.slice a zs.length c) (.int .i64 E) (.bool g') (.slice a' ys.length c') (.int .i64 E') (((w.alloc (.cells #[.bool g, .slice a zs.length c, .int .i64 E] t)).alloc (.cells #[.bool g', .slice a' ys.length c', .int .i64 E'] t')).alloc (.cells #[.bool false, .slice none 0 0, .int .i64 0] t2))) := fun t t' t2 => Bx7.start w _ _ _ _ _ _ _ _ _
  go_enter Tryd.func13, Tryd.ntmps13
  go_wp2_with fail
  refine (validsI_any _ 0 _ [⟨g, a, c, zs, E⟩, ⟨g', a', c', ys, E'⟩] _ (by simp) ?_ (two_rowD ?_ ?_ ?_ ?_ ?_ ?_ ?_ (hz.later ((B0.out _ _ _).bel.trans ((bel0 _ _).mono (B0.out _ _ _).bel.size))) (hy.later ((B0.out _ _ _).bel.trans ((bel0 _ _).mono (B0.out _ _ _).bel.size))))).mono ?_
  · intro d hd
    simp at hd
    rcases hd with rfl | rfl
    · exact hn
    · exact hn'
  · simp
  · simp [go_sem]
  · simp [go_sem]
  · simp [go_sem]
  · simp [go_sem]
  · simp [go_sem]
  · simp [go_sem]
  · rintro e w1 ⟨rfl, hb1⟩
    have HV : Hid ([(⟨g, a, c, zs, E⟩ : DV), ⟨g', a', c', ys, E'⟩].all DV.ok = false) := by unfold Hid; simpa [DV.ok] using hv
    rw [HV.out]
    have F1 : Hid (Bx7 w (.bool g) (.slice a zs.length c) (.int .i64 E) (.bool g') (.slice a' ys.length c') (.int .i64 E') w1) := ((B0.out _ _ _).later (bel0 _ _)).later hb1
    have r1 := F1.out.r1
    have r2 := F1.out.r2
    have r3 := F1.out.r3
    have r4 := F1.out.r4
    clear hb1 B0
    go_wp2
    refine bodyPost_ret (v := .tuple #[.agg #[.bool false, .slice none 0 0, .int .i64 0], .int .i64 1]) (by simp [results, Tryd.results13, go_sem, r1, r2, r3]) rfl ?_
    refine ⟨false, [], 0, 1, none, 0, rfl, .inl ⟨rfl, rfl, rfl, rfl, rfl⟩, .inl rfl, ?_⟩
    exact ((F1.out.bel.setCell (by simp; omega) _).setCell (by simp; omega) _).setCell (by simp; omega) _

set_option maxRecDepth 100000 in
set_option maxHeartbeats 8000000 in
theorem mulDI_ok (g g' : Bool) (a a' : Option Addr) (c c' : Nat) (zs ys : List Int) (E E' : Int) (w : World) (hz : RowAt .u32 w a zs) (hy : RowAt .u32 w a' ys) (hu : U32 zs) (hu' : U32 ys) (v1 : validD g zs E = true) (v2 : validD g' ys E' = true) (hT : Tab w) :
    Calls Tryd.prog 13 #[.agg #[.bool g, .slice a zs.length c, .int .i64 E], .agg #[.bool g', .slice a' ys.length c', .int .i64 E']] w fun e w' => OutDI w true (atK 100000 ((sg g (val 4294967296 zs)) * (sg g' (val 4294967296 ys))) (E + E')) e w' := by
  obtain ⟨vb1, hE0, hE1⟩ := validD_parts v1
  obtain ⟨vb2, hE2, hE3⟩ := validD_parts v2
  have hn5 := (valid_canon hu vb1).2.1
  have hn5' := (valid_canon hu' vb2).2.1
  have hn : zs.length ≤ 1048576 := Nat.le_trans hn5 (by decide)
  have hn' : ys.length ≤ 1048576 := Nat.le_trans hn5' (by decide)
  have HBz : Hid (B1 g zs (sg g (val 4294967296 zs))) := B1.of_valid hu vb1
  have HBy : Hid (B1 g' ys (sg g' (val 4294967296 ys))) := B1.of_valid hu' vb2
  obtain ⟨v, hv⟩ : ∃ v, v = atK 100000 ((sg g (val 4294967296 zs)) * (sg g' (val 4294967296 ys))) (E + E') := ⟨_, rfl⟩
  have HV : Hid (v = atK 100000 ((sg g (val 4294967296 zs)) * (sg g' (val 4294967296 ys))) (E + E')) := hv
  rw [← hv]
  clear hv
  have B0 : Hid (∀ t t' t2, Bx7 w (.bool g) (.slice a zs.length c) (.int .i64 E) (.bool g') (.slice a' ys.length c') (.int .i64 E') (((w.alloc (.cells #[.bool g, .slice a zs.length c, .int .i64 E] t)).alloc (.cells #[.bool g', .slice a' ys.length c', .int .i64 E'] t')).alloc (.cells #[.bool false, .slice none 0 0, .int .i64 0] t2))) := fun t t' t2 => Bx7.start w _ _ _ _ _ _ _ _ _
  go_enter Tryd.func13, Tryd.ntmps13
  go_wp2_with fail
  refine (validsI_any _ 0 _ [⟨g, a, c, zs, E⟩, ⟨g', a', c', ys, E'⟩] _ (by simp) ?_ (two_rowD ?_ ?_ ?_ ?_ ?_ ?_ ?_ (hz.later ((B0.out _ _ _).bel.trans ((bel0 _ _).mono (B0.out _ _ _).bel.size))) (hy.later ((B0.out _ _ _).bel.trans ((bel0 _ _).mono (B0.out _ _ _).bel.size))))).mono ?_
  · intro d hd
    simp at hd
    rcases hd with rfl | rfl
    · exact hn
    · exact hn'
  · simp
  · simp [go_sem]
  · simp [go_sem]
  · simp [go_sem]
  · simp [go_sem]
  · simp [go_sem]
  · simp [go_sem]
  · rintro e W1 ⟨rfl, hb1⟩
    have HVV : Hid ([(⟨g, a, c, zs, E⟩ : DV), ⟨g', a', c', ys, E'⟩].all DV.ok = true) := by unfold Hid; simp [DV.ok, v1, v2]
    rw [HVV.out]
    have F1 : Hid (Bx7 w (.bool g) (.slice a zs.length c) (.int .i64 E) (.bool g') (.slice a' ys.length c') (.int .i64 E') W1) := ((B0.out _ _ _).later (bel0 _ _)).later hb1
    have s0 := F1.out.q0
    have s1 := F1.out.q1
    have s2 := F1.out.q2
    have s3 := F1.out.p0
    have s4 := F1.out.p1
    have s5 := F1.out.p2
    have hl1 := F1.out.le
    have za : w.heap.size < W1.heap.size := by omega
    have zb : w.heap.size + 1 < W1.heap.size := by omega
    clear hb1 B0
    have hz1 := hz.later F1.out.bel
    have hy1 := hy.later F1.out.bel
    have HRT : Hid (RowT ((W1.alloc (.cells #[.bool g, .slice a zs.length c, .int .i64 E, .bool g', .slice a' ys.length c', .int .i64 E'] 29)).alloc (.cells #[.slice (some ⟨W1.heap.size, 0, none⟩) 2 2] 75)) (W1.heap.size + 1) 0 [⟨W1.heap.size, 0, 2, [⟨g, a, c, zs, E⟩, ⟨g', a', c', ys, E'⟩]⟩]) := by
      unfold Hid
      exact one_rowT (by simp) (by simp [go_sem]) (RowD.later (two_rowD (by simp) (by simp [go_sem]) (by simp [go_sem]) (by simp [go_sem]) (by simp [go_sem]) (by simp [go_sem]) (by simp [go_sem]) (hz1.later (bel0 _ _)) (hy1.later (bel0 _ _))) (bel0 _ _))
    clear hz1 hy1
    go_wp2_with fail
    refine (sumP_any prodSaysJ _ 0 _ [⟨W1.heap.size, 0, 2, [⟨g, a, c, zs, E⟩, ⟨g', a', c', ys, E'⟩]⟩] _ (by simp) ?_ HRT.out).mono ?_
    · intro t ht
      simp at ht
      subst ht
      refine ⟨by simp, fun d hd => ?_⟩
      simp at hd
      rcases hd with rfl | rfl
      · exact ⟨hn5, hE0, hE1, HBz.out⟩
      · exact ⟨hn5', hE2, hE3, HBy.out⟩
    · rintro e W2 ⟨G, a4, c4, f4, m, e4, rfl, hB4, hl4, hK4, he0, he1, hr4, hF4, hb4⟩
      have hVK : atK 100000 m e4 = v := by rw [hK4 100000 (by decide), HV.out]; simp [sumK, prodM, sumE]
      have hl5 : f4.length ≤ 60000 ∧ f4.length ≤ c4 ∧ c4 ≤ maxLen := by simp at hl4; omega
      have hb12 : Below W1.heap.size W1 W2 := (bel2 _ _ _).trans (hb4.mono (by simp; omega))
      have F2 : Hid (Bx7 w (.bool g) (.slice a zs.length c) (.int .i64 E) (.bool g') (.slice a' ys.length c') (.int .i64 E') W2) := F1.out.later hb12
      have HB4 : Hid (B1 G f4 m) := hB4
      have HR4 : Hid (RowAt .u32 W2 a4 f4) := hr4
      have hVK' : Hid (atK 100000 m e4 = v) := hVK
      have HT2 : Hid (Tab W2) := (hT.later F1.out.bel).later hb12
      clear hB4 hK4 hr4 hF4 hb4 hVK HRT s0 s1 s2 s3 s4 s5 hb12 hl4
      go_wp2_with fail
      refine (normalI_any G a4 c4 f4 m e4 _ hl5.1 he0 he1 HR4.out HB4.out hl5.2 HT2.out).mono ?_
      rintro e W3 ⟨G5, Z, E5, K, a5, c5, rfl, hres, hr5, hb5⟩
      rw [hVK'.out] at hres
      have F3 : Hid (Bx7 w (.bool g) (.slice a zs.length c) (.int .i64 E) (.bool g') (.slice a' ys.length c') (.int .i64 E') W3) := F2.out.later hb5
      have HR : Hid (ResD true v G5 Z E5 K) := hres
      have HA : Hid (RowNew .u32 W3 (w.heap.size + 1 + 1 + 1) a5 Z) := hr5.down F2.out.le
      have r1 := F3.out.r1
      have r2 := F3.out.r2
      have r3 := F3.out.r3
      have r4 := F3.out.r4
      clear hres hr5 hb5
      go_wp2
      refine bodyPost_ret (v := .tuple #[.agg #[.bool G5, .slice a5 Z.length c5, .int .i64 E5], .int .i64 K]) (by simp [results, Tryd.results13, go_sem, r1, r2, r3]) rfl ?_
      refine ⟨G5, Z, E5, K, a5, c5, rfl, HR.out, ?_, ?_⟩
      · exact (((HA.out.setLow (by simp) _).setLow (by simp) _).setLow (by simp) _).down (by omega)
      · exact ((F3.out.bel.setCell (by simp; omega) _).setCell (by simp; omega) _).setCell (by simp; omega) _

theorem mulDI_any (g g' : Bool) (a a' : Option Addr) (c c' : Nat) (zs ys : List Int) (E E' : Int) (w : World) (hn : zs.length ≤ 1048576) (hn' : ys.length ≤ 1048576) (hz : RowAt .u32 w a zs) (hy : RowAt .u32 w a' ys) (hu : U32 zs) (hu' : U32 ys) (hT : Tab w) :
    Calls Tryd.prog 13 #[.agg #[.bool g, .slice a zs.length c, .int .i64 E], .agg #[.bool g', .slice a' ys.length c', .int .i64 E']] w fun e w' => OutDI w (validD g zs E && validD g' ys E') (atK 100000 ((sg g (val 4294967296 zs)) * (sg g' (val 4294967296 ys))) (E + E')) e w' := by
  cases hv : validD g zs E && validD g' ys E'
  · exact mulDI_bad g g' a a' c c' zs ys E E' _ w hn hn' hz hy hv
  · obtain ⟨v1, v2⟩ := Bool.and_eq_true_iff.1 hv
    exact mulDI_ok g g' a a' c c' zs ys E E' w hz hy hu hu' v1 v2 hT

end Go.Proofs.YtladfpljnaippabDoor
