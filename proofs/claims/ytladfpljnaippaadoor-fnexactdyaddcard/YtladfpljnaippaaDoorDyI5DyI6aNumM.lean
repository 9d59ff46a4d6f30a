/-
  The program's sums of products.
-/
import Derived.Test.YtladfpljnaippaaDoorDyI3DyI4a
import Derived.Test.YtladfpljnaippaaDoorNum
namespace Go.Proofs.YtladfpljnaippaaDoor
open Go.RowKit

/-- A list of factors: where it lies. -/
structure TV where
  b : Nat
  off : Nat
  c : Nat
  ds : List DV

instance : Inhabited TV := ⟨⟨0, 0, 0, []⟩⟩

/-- Block b from off on holds the lists ts. -/
structure RowT (w : World) (b off : Nat) (ts : List TV) : Prop where
  lt : b < w.heap.size
  c0 : ∀ i, i < ts.length → w.cell? ⟨b, off + i, none⟩ = some (.slice (some ⟨(ts.getD i default).b, (ts.getD i default).off, none⟩) (ts.getD i default).ds.length (ts.getD i default).c)
  row : ∀ i, i < ts.length → RowD w (ts.getD i default).b (ts.getD i default).off (ts.getD i default).ds

theorem RowT.later {w w' : World} {b off : Nat} {ts : List TV} (h : RowT w b off ts) (hb : Below w.heap.size w w') : RowT w' b off ts :=
  ⟨Nat.lt_of_lt_of_le h.lt hb.size, fun i hi => (hb.cell (p := ⟨b, off + i, none⟩) h.lt).trans (h.c0 i hi), fun i hi => (h.row i hi).later hb⟩

/-- A factor that may stand in a product. -/
def DV.fine (d : DV) : Prop := d.zs.length ≤ 512 ∧ -20000 ≤ d.E ∧ d.E ≤ 20000 ∧ B1 d.g d.zs (sg d.g (val 4294967296 d.zs))

def sumK (K : Int) (ts : List TV) : Int := (ts.map fun t => atK K (prodM t.ds) (sumE t.ds)).foldl (· + ·) 0
theorem sumK_snoc (K : Int) (ts : List TV) (t : TV) : sumK K (ts ++ [t]) = sumK K ts + atK K (prodM t.ds) (sumE t.ds) := by simp [sumK]

theorem sumE_from (ds : List DV) (s : Int) : (ds.map fun d => d.E).foldl (· + ·) s = s + sumE ds := by
  induction ds generalizing s with
  | nil => simp [sumE]
  | cons d ds ih =>
    simp only [List.map_cons, List.foldl_cons, sumE]
    rw [ih, ih]
    omega

theorem sumE_bound : ∀ ds : List DV, (∀ d, d ∈ ds → d.fine) → -20000 * (ds.length : Int) ≤ sumE ds ∧ sumE ds ≤ 20000 * (ds.length : Int)
  | [], _ => by simp [sumE]
  | d :: ds, h => by
    have ih := sumE_bound ds (fun d' h' => h d' (List.mem_cons_of_mem _ h'))
    have h1 := (h d List.mem_cons_self)
    have h2 := h1.2.1
    have h3 := h1.2.2.1
    have e : sumE (d :: ds) = d.E + sumE ds := by
      simp only [sumE, List.map_cons, List.foldl_cons]
      rw [sumE_from]
      simp [sumE]
    rw [e, List.length_cons]
    omega

/-- What sumOfProducts hands back. -/
def SumProd (w : World) (ts : List TV) (n : Nat) (e : Ending) (w' : World) : Prop :=
  ∃ (G : Bool) (a : Option Addr) (c : Nat) (fs : List Int) (m e' : Int), e = .returned (.agg #[.bool G, .slice a fs.length c, .int .i64 e']) ∧ B1 G fs m ∧ (fs.length ≤ n ∧ fs.length ≤ c ∧ c ≤ maxLen) ∧ (∀ K, 60000 ≤ K → atK K m e' = sumK K ts) ∧ -60000 ≤ e' ∧ e' ≤ 60000 ∧ RowAt .u32 w' a fs ∧ Far w.heap.size a fs ∧ Below w.heap.size w w'

set_option maxRecDepth 100000 in
set_option maxHeartbeats 8000000 in
theorem sumP_any (HPR : ProdSays) (b off c : Nat) (ts : List TV) (w : World) (hn : ts.length ≤ 6) (hl : ∀ t, t ∈ ts → t.ds.length ≤ 3 ∧ ∀ d, d ∈ t.ds → d.fine) (hd : RowT w b off ts) :
    Calls Tryd.prog 39 #[.slice (some ⟨b, off, none⟩) ts.length c] w fun e w' => SumProd w ts (9043 * ts.length) e w' := by
  go_enter Tryd.func39, Tryd.ntmps39
  go_wp2
  have P0 : PD w w.heap.size (w.heap.size + 1) false none 0 [] 0 0 ((w.alloc (.cells #[.bool false, .slice none 0 0, .int .i64 0] 27)).alloc (.cells #[.bool false, .slice none 0 0, .int .i64 0] 27)) := by
    refine ⟨?_, ?_, ?_, ?_, ?_, ?_, ?_, ?_, ⟨⟨Dig.nil _, rfl⟩, by decide, fun h => by cases h⟩, .inl rfl, (fun b o e1 hne => absurd rfl hne), .inl rfl, ⟨Nat.le_refl _, by omega, by simp⟩, bel2 _ _ _, ⟨Nat.le_refl _, Nat.zero_le _⟩⟩
    all_goals simp [go_sem]
  obtain ⟨X, hX⟩ : ∃ X, X = ((w.alloc (.cells #[.bool false, .slice none 0 0, .int .i64 0] 27)).alloc (.cells #[.bool false, .slice none 0 0, .int .i64 0] 27)) := ⟨_, rfl⟩
  rw [← hX] at P0 ⊢
  clear hX
  have HP0 : Hid (PD w w.heap.size (w.heap.size + 1) false none 0 [] 0 0 X) := P0
  clear P0
  go_loopw [5, 8] (fun _ si wr => ∃ (i : Nat) (G : Bool) (a : Option Addr) (ca : Nat) (fs : List Int) (m e : Int), i ≤ ts.length ∧ si = .int .i64 i ∧ fs.length ≤ 9043 * i ∧ -60000 ≤ e ∧ e ≤ 60000 ∧ Hid (∀ K, 60000 ≤ K → atK K m e = sumK K (ts.take i)) ∧ Hid (PD w w.heap.size (w.heap.size + 1) G a ca fs m e wr)) (fun _ si _ => ts.length - (intOf si).toNat)
  case atStart => exact ⟨0, false, none, 0, [], 0, 0, Nat.zero_le _, rfl, by simp, by decide, by decide, (fun K _ => by simp [atK, sumK]), HP0⟩
  case round =>
    obtain ⟨i, G, a, ca, fs, m, e, hi, rfl, hfl, he0, he1, hK, hP⟩ := hrel
    clear HP0
    have hd2 := hd.later hP.out.bel
    by_cases hlt : i < ts.length
    · have g0 := hd2.c0 i hlt
      have g3 := hd2.row i hlt
      obtain ⟨t, htt⟩ : ∃ t, t = ts.getD i default := ⟨_, rfl⟩
      rw [← htt] at g0 g3
      have hib : (i : Int) < ts.length := by omega
      have hmem : t ∈ ts := by rw [htt, List.getD_eq_getElem?_getD, List.getElem?_eq_getElem hlt]; exact List.getElem_mem hlt
      obtain ⟨ht3, htf⟩ := hl t hmem
      have hsb := sumE_bound t.ds htf
      have htk : ts.take (i + 1) = ts.take i ++ [t] := by
        rw [List.take_succ_eq_append_getElem hlt, htt, List.getD_eq_getElem?_getD, List.getElem?_eq_getElem hlt]
        rfl
      have G3 : Hid (RowD wr t.b t.off t.ds) := g3
      have HTK : Hid (ts.take (i + 1) = ts.take i ++ [t]) := htk
      have HSB : Hid (-60000 ≤ sumE t.ds ∧ sumE t.ds ≤ 60000) := by unfold Hid; omega
      have HTF : Hid (∀ d, d ∈ t.ds → d.fine) := htf
      clear htt hmem g3 hd2 htk hsb htf
      have z0 := hP.out.a1
      have z1 := hP.out.a2
      have z2 := hP.out.a3
      have z3 := hP.out.a4
      have oA : w.heap.size + 1 < wr.heap.size := hP.out.ord.2.2
      go_wp2
      go_region_with
        (first
          | (go_at_call 63; refine (HPR t.b t.off t.c t.ds _ ht3 HTF.out (G3.out.later (Below.refl _ _).drew)).mono ?_; rintro e1 w2 ⟨g2, a2, c2, f2, rfl, hB2, hl2, hr2, hF2, hb2⟩; have hWB : Below wr.heap.size wr w2 := (Below.refl _ _).drew.trans hb2; have P2 : Hid (PD w w.heap.size (w.heap.size + 1) G a ca fs m e w2) := hP.out.later hWB; have y0 := P2.out.a1; have y1 := P2.out.a2; have y2 := P2.out.a3; have y3 := P2.out.a4)
          | (go_at_call 62; refine (plusD_any G g2 a a2 ca c2 fs f2 m (prodM t.ds) e (sumE t.ds) _ (by omega) (by omega) (by have := HSB.out; omega) (by have := HSB.out; omega) P2.out.row hr2 P2.out.b1 hB2 P2.out.cap (by omega)).mono ?_; rintro e3 w3 ⟨g3, a3, c3, f3, m3, e3', rfl, hB3, hS3, hl3, hr3, hF3, hb3⟩; have P3 : Hid (PD w w.heap.size (w.heap.size + 1) G a ca fs m e w3) := P2.out.later hb3; have x0 := P3.out.a1; have x1 := P3.out.a2; have x2 := P3.out.a3; have x3 := P3.out.a4))
      all_goals
        have hs2 : wr.heap.size ≤ w2.heap.size := hWB.size
        have hF2' : Far wr.heap.size a2 f2 := hF2
        have ho3 : (∀ b o, a3 = some ⟨b, o, none⟩ → f3 ≠ [] → b ≠ w.heap.size + 1 ∧ b ≠ w.heap.size) ∧ Far (w.heap.size + 1) a3 f3 := by
          rcases hF3 with h | ⟨h1, h2⟩ | ⟨h1, h2⟩
          · exact ⟨h.offs (by omega) (by omega), h.down (by omega)⟩
          · rw [h1, h2]
            exact ⟨P3.out.off, P3.out.far⟩
          · rw [h1, h2]
            exact ⟨hF2'.offs (by omega) (by omega), hF2'.down (by omega)⟩
        have HPN : Hid (PD w w.heap.size (w.heap.size + 1) g3 a3 c3 f3 m3 e3' (((w3.setCell ⟨w.heap.size + 1, 0, none⟩ (.bool g3)).setCell ⟨w.heap.size + 1, 1, none⟩ (.slice a3 f3.length c3)).setCell ⟨w.heap.size + 1, 2, none⟩ (.int .i64 e3'))) := P3.out.lay hB3 hr3 ho3.1 ho3.2 (by omega)
        have HK3 : Hid (∀ K, 60000 ≤ K → atK K m3 e3' = sumK K (ts.take (i + 1))) := by
          intro K hK6
          have hb := HSB.out
          rw [HTK.out, sumK_snoc, hS3.2 K (by omega) (by omega), hK.out K hK6]
        have hbe : -60000 ≤ e3' ∧ e3' ≤ 60000 := by
          have hb := HSB.out
          rcases hS3.1 with h | h <;> omega
        have hlen : f3.length ≤ 9043 * (i + 1) := by omega
        obtain ⟨hbe0, hbe1⟩ := hbe
        clear hB2 hr2 hF2 hb2 hWB P2 y0 y1 y2 y3 hB3 hS3 hr3 hF3 hb3 P3 x0 x1 x2 x3 hF2' ho3 z0 z1 z2 z3 hK hP
        go_wp2
        go_roundw
        case rel => exact ⟨i + 1, g3, a3, c3, f3, m3, e3', by omega, by go_num, hlen, hbe0, hbe1, HK3, HPN⟩
        case measure => simp [intOf]; omega
    · have hin : i = ts.length := by omega
      subst hin
      have HK3 : Hid (∀ K, 60000 ≤ K → atK K m e = sumK K ts) := by intro K hK6; have := hK.out K hK6; rw [List.take_length] at this; exact this
      have z0 := hP.out.a1
      have z1 := hP.out.a2
      have z2 := hP.out.a3
      have r1 := hP.out.r1
      have r2 := hP.out.r2
      have r3 := hP.out.r3
      have r4 := hP.out.r4
      clear hd2 hK
      go_wp2
      refine bodyPost_ret (v := .agg #[.bool G, .slice a fs.length ca, .int .i64 e]) (by simp [results, Tryd.results39, go_sem, r1, r2, r3]) rfl ?_
      refine ⟨G, a, ca, fs, m, e, rfl, hP.out.b1, ⟨hfl, hP.out.cap⟩, HK3.out, he0, he1, ?_, hP.out.far.down (by omega), ?_⟩
      · have ho := hP.out.off
        exact ((hP.out.row.setAway (fun b o e1 hne => (ho b o e1 hne).2) _).setAway (fun b o e1 hne => (ho b o e1 hne).2) _).setAway (fun b o e1 hne => (ho b o e1 hne).2) _
      · exact ((hP.out.bel.setCell (by simp) _).setCell (by simp) _).setCell (by simp) _

end Go.Proofs.YtladfpljnaippaaDoor

/-
  Lists of dyadic numbers and of factors, written out.
-/
namespace Go.Proofs.YtladfpljnaippaaDoor
open Go.RowKit

/-- One Dyadic written out as a list. -/
theorem one_rowD {W : World} {b : Nat} {d : DV} (hb : b < W.heap.size) (h0 : W.cell? ⟨b, 0, none⟩ = some (.bool d.g)) (h1 : W.cell? ⟨b, 1, none⟩ = some (.slice d.a d.zs.length d.c)) (h2 : W.cell? ⟨b, 2, none⟩ = some (.int .i64 d.E)) (hr : RowAt .u32 W d.a d.zs) : RowD W b 0 [d] := by
  refine ⟨hb, ?_, ?_, ?_, ?_⟩
  all_goals
    intro i hi
    have : i = 0 := by simp at hi; omega
    subst this
    simpa

theorem two_rowD {W : World} {b : Nat} {d d' : DV} (hb : b < W.heap.size) (h0 : W.cell? ⟨b, 0, none⟩ = some (.bool d.g)) (h1 : W.cell? ⟨b, 1, none⟩ = some (.slice d.a d.zs.length d.c)) (h2 : W.cell? ⟨b, 2, none⟩ = some (.int .i64 d.E)) (h3 : W.cell? ⟨b, 3, none⟩ = some (.bool d'.g)) (h4 : W.cell? ⟨b, 4, none⟩ = some (.slice d'.a d'.zs.length d'.c)) (h5 : W.cell? ⟨b, 5, none⟩ = some (.int .i64 d'.E))
    (hr : RowAt .u32 W d.a d.zs) (hr' : RowAt .u32 W d'.a d'.zs) : RowD W b 0 [d, d'] := by
  refine ⟨hb, ?_, ?_, ?_, ?_⟩
  all_goals
    intro i hi
    have : i = 0 ∨ i = 1 := by simp at hi; omega
    rcases this with rfl | rfl
    · simpa
    · simpa

theorem two_rowT {W : World} {b b1 b2 c1 c2 : Nat} {d d' : DV} (hb : b < W.heap.size) (h0 : W.cell? ⟨b, 0, none⟩ = some (.slice (some ⟨b1, 0, none⟩) 1 c1)) (h1 : W.cell? ⟨b, 1, none⟩ = some (.slice (some ⟨b2, 0, none⟩) 1 c2)) (hr : RowD W b1 0 [d]) (hr' : RowD W b2 0 [d']) : RowT W b 0 [⟨b1, 0, c1, [d]⟩, ⟨b2, 0, c2, [d']⟩] := by
  refine ⟨hb, ?_, ?_⟩
  all_goals
    intro i hi
    have : i = 0 ∨ i = 1 := by simp at hi; omega
    rcases this with rfl | rfl
    · simpa
    · simpa

theorem one_rowT {W : World} {b b1 c1 : Nat} {ds : List DV} (hb : b < W.heap.size) (h0 : W.cell? ⟨b, 0, none⟩ = some (.slice (some ⟨b1, 0, none⟩) ds.length c1)) (hr : RowD W b1 0 ds) : RowT W b 0 [⟨b1, 0, c1, ds⟩] := by
  refine ⟨hb, ?_, ?_⟩
  all_goals
    intro i hi
    have : i = 0 := by simp at hi; omega
    subst this
    simpa

end Go.Proofs.YtladfpljnaippaaDoor

/-
  Plain mathematics: products, digit by digit.
-/
namespace Go.Proofs.YtladfpljnaippaaDoor

/-- x times the digits ys, added to the digits ms. -/
def mulsL (x : Int) : List Int → List Int → List Int
  | [], _ => []
  | y :: ys, [] => (x * y) :: mulsL x ys []
  | y :: ys, m :: ms => (x * y + m) :: mulsL x ys ms

theorem muls_length (x : Int) : ∀ ys ms : List Int, (mulsL x ys ms).length = ys.length
  | [], _ => rfl
  | y :: ys, [] => by simp only [mulsL, List.length_cons, muls_length x ys []]
  | y :: ys, m :: ms => by simp only [mulsL, List.length_cons, muls_length x ys ms]

theorem val_muls (B x : Int) : ∀ ys ms : List Int, val B (mulsL x ys ms) = x * val B ys + val B (ms.take ys.length)
  | [], _ => by simp [mulsL, val]
  | y :: ys, [] => by
    have ih := val_muls B x ys []
    simp only [mulsL, val, ih, List.take_nil, Int.add_zero, Int.mul_add]
    rw [Int.mul_left_comm]
  | y :: ys, m :: ms => by
    have ih := val_muls B x ys ms
    simp only [mulsL, val, ih, List.length_cons, List.take_succ_cons, Int.mul_add]
    rw [Int.mul_left_comm x B]
    omega

theorem muls_drop (x : Int) {ys ms : List Int} {j : Nat} (h : j < ys.length) : mulsL x (ys.drop j) (ms.drop j) = (x * ys.getD j 0 + ms.getD j 0) :: mulsL x (ys.drop (j + 1)) (ms.drop (j + 1)) := by
  rw [List.drop_eq_getElem_cons h]
  by_cases h2 : j < ms.length
  · rw [List.drop_eq_getElem_cons h2]
    simp [mulsL, List.getD_eq_getElem?_getD, h, h2]
  · rw [List.drop_eq_nil_of_le (show ms.length ≤ j by omega), List.drop_eq_nil_of_le (show ms.length ≤ j + 1 by omega)]
    rw [List.getD_eq_getElem?_getD, List.getD_eq_getElem?_getD, List.getElem?_eq_none (show ms.length ≤ j by omega), List.getElem?_eq_getElem h]
    simp [mulsL]

theorem mul_step {B x c s : Int} {ys ms : List Int} {j : Nat} (h : j < ys.length) (hs : s = x * ys.getD j 0 + ms.getD j 0 + c) :
    carryD B (mulsL x (ys.drop j) (ms.drop j)) c = s % B :: carryD B (mulsL x (ys.drop (j + 1)) (ms.drop (j + 1))) (s / B) ∧ carryO B (mulsL x (ys.drop j) (ms.drop j)) c = carryO B (mulsL x (ys.drop (j + 1)) (ms.drop (j + 1))) (s / B) := by
  rw [muls_drop x h, hs]
  exact ⟨rfl, rfl⟩

theorem mul_bound {B x y : Int} (h0 : 0 ≤ x) (h1 : x < B) (h2 : 0 ≤ y) (h3 : y < B) : 0 ≤ x * y ∧ x * y ≤ (B - 1) * (B - 1) :=
  ⟨Int.mul_nonneg h0 h2, Int.mul_le_mul (by omega) (by omega) h2 (by omega)⟩

theorem carry_bound {B s : Int} (hB : 0 < B) (h0 : 0 ≤ s) (h1 : s ≤ (B - 1) * (B - 1) + (B - 1) + (B - 1)) : 0 ≤ s / B ∧ s / B ≤ B - 1 := by
  refine ⟨Int.ediv_nonneg h0 (by omega), ?_⟩
  have : s / B < B := by
    refine Int.ediv_lt_of_lt_mul hB ?_
    have e : (B - 1) * (B - 1) = B * B - B - B + 1 := by
      rw [Int.sub_mul, Int.mul_sub]
      omega
    omega
  omega

/-- One row of a product: the digits i .. of P gain x times ys. -/
theorem row_step {B x : Int} {P ys : List Int} {i : Nat} {D : List Int} {c : Int} (hl : i + ys.length < P.length) (hD : D = carryD B (mulsL x ys (P.drop i)) 0) (hc : c = carryO B (mulsL x ys (P.drop i)) 0) (h0 : P.getD (i + ys.length) 0 = 0) :
    val B (P.take i ++ ((D ++ [c]) ++ P.drop (i + ys.length + 1))) = val B P + B ^ i * (x * val B ys) := by
  have hti : (P.take i).length = i := by rw [List.length_take]; omega
  have hDl : (D ++ [c]).length = ys.length + 1 := by rw [hD, List.length_append, carryD_length, muls_length]; rfl
  have e1 : val B (D ++ [c]) = x * val B ys + val B ((P.drop i).take ys.length) := by rw [hD, hc, val_carryDO, val_muls]; omega
  have e2 : val B P = val B (P.take i) + B ^ i * (val B ((P.drop i).take ys.length) + B ^ ys.length * val B (P.drop (i + ys.length))) := by
    have a1 := val_append B (P.drop i) (P.take i)
    rw [List.take_append_drop, hti] at a1
    have a2 := val_append B ((P.drop i).drop ys.length) ((P.drop i).take ys.length)
    rw [List.take_append_drop] at a2
    have hl2 : ((P.drop i).take ys.length).length = ys.length := by rw [List.length_take, List.length_drop]; omega
    rw [hl2, List.drop_drop] at a2
    rw [a1, a2]
  have e3 : val B (P.drop (i + ys.length)) = B * val B (P.drop (i + ys.length + 1)) := by
    rw [List.drop_eq_getElem_cons hl]
    have : P[i + ys.length] = 0 := by simpa [List.getD_eq_getElem?_getD, hl] using h0
    rw [this]
    simp [val]
  rw [val_append, hti, val_append, hDl, e1, e2, e3, Int.pow_succ]
  simp only [Int.mul_add]
  rw [Int.mul_assoc (B ^ ys.length) B]
  omega

theorem val_take_succ {B : Int} {zs : List Int} {i : Nat} (h : i < zs.length) : val B (zs.take (i + 1)) = val B (zs.take i) + B ^ i * zs.getD i 0 := by
  rw [List.take_succ_eq_append_getElem h, val_append]
  have hti : (zs.take i).length = i := by rw [List.length_take]; omega
  rw [hti]
  simp [val, List.getD_eq_getElem?_getD, h]

/-- What the rows so far have made of the product. -/
structure Prod (B : Int) (zs ys : List Int) (L i : Nat) (P : List Int) : Prop where
  dig : Dig B P
  len : P.length = L
  eq : val B P = val B (zs.take i) * val B ys
  up : ∀ j, i + ys.length ≤ j → P.getD j 0 = 0

theorem prod_start (B : Int) (hB : 0 < B) (zs ys : List Int) (L : Nat) : Prod B zs ys L 0 (List.replicate L 0) := by
  refine ⟨fun z hz => ?_, by simp, ?_, fun j _ => ?_⟩
  · rw [List.eq_of_mem_replicate hz]; exact ⟨Int.le_refl 0, hB⟩
  · have : ∀ n : Nat, val B (List.replicate n 0) = 0 := by
      intro n
      induction n with
      | zero => rfl
      | succ n ih => simp [List.replicate_succ, val, ih]
    rw [this]
    simp [val]
  · by_cases hj : j < L
    · simp [List.getD_eq_getElem?_getD, hj]
    · simp [List.getD_eq_getElem?_getD, hj]

theorem prod_step {B x c : Int} (hB : 1 < B) {zs ys P D : List Int} {L i : Nat} (h : Prod B zs ys L i P) (hi : i < zs.length) (hL : i + ys.length < L) (hx : x = zs.getD i 0) (hD : D = carryD B (mulsL x ys (P.drop i)) 0) (hc : c = carryO B (mulsL x ys (P.drop i)) 0) (hc0 : 0 ≤ c) (hc1 : c < B) :
    Prod B zs ys L (i + 1) (P.take i ++ ((D ++ [c]) ++ P.drop (i + ys.length + 1))) := by
  have hl : i + ys.length < P.length := by rw [h.len]; exact hL
  have hti : (P.take i).length = i := by rw [List.length_take]; omega
  have hDl : (D ++ [c]).length = ys.length + 1 := by rw [hD, List.length_append, carryD_length, muls_length]; rfl
  refine ⟨?_, ?_, ?_, ?_⟩
  · exact (h.dig.take i).append (((by rw [hD]; exact dig_carryD (by omega) _ _ : Dig B D).append (Dig.cons hc0 hc1 (Dig.nil B))).append (h.dig.drop _))
  · rw [List.length_append, List.length_append, hti, hDl, List.length_drop, h.len]; omega
  · rw [row_step hl hD hc (h.up _ (Nat.le_refl _)), h.eq, val_take_succ hi, Int.add_mul, hx, Int.mul_assoc]
  · intro j hj
    rw [List.getD_eq_getElem?_getD, List.getElem?_append_right (by rw [hti]; omega), List.getElem?_append_right (by rw [hti, hDl]; omega), hti, hDl, List.getElem?_drop, ← List.getD_eq_getElem?_getD]
    exact h.up _ (by omega)

/-- The product's own row while a row of digits is being added. -/
theorem mid_get {P D : List Int} {i j k : Nat} (hi : i + j ≤ k) (hD : D.length = j) (hP : i ≤ P.length) : (P.take i ++ (D ++ P.drop (i + j))).getD k 0 = P.getD k 0 := by
  have hti : (P.take i).length = i := by rw [List.length_take]; omega
  rw [List.getD_eq_getElem?_getD, List.getElem?_append_right (by omega), List.getElem?_append_right (by omega), hti, hD, List.getElem?_drop, List.getD_eq_getElem?_getD]
  congr 2
  omega

theorem mid_set {P D : List Int} {i j : Nat} {d : Int} (hD : D.length = j) (hP : i + j < P.length) : (P.take i ++ (D ++ P.drop (i + j))).set (i + j) d = P.take i ++ ((D ++ [d]) ++ P.drop (i + j + 1)) := by
  have hti : (P.take i).length = i := by rw [List.length_take]; omega
  have e := List.drop_eq_getElem_cons hP
  rw [List.set_append_right _ _ (by omega), hti, show i + j - i = j by omega, List.set_append_right _ _ (by omega), hD, Nat.sub_self, e, List.set_cons_zero, List.append_assoc D [d]]
  rfl

theorem mid_length {P D : List Int} {i j : Nat} (hD : D.length = j) (hP : i + j ≤ P.length) : (P.take i ++ (D ++ P.drop (i + j))).length = P.length := by
  rw [List.length_append, List.length_append, List.length_take, List.length_drop]; omega

end Go.Proofs.YtladfpljnaippaaDoor
