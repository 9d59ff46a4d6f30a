/-
  The program's sums of products.
-/
import Derived.Test.YtladfpljnaippaaDyI4a
namespace Go.Proofs.Ytladfpljnaippaa
open Go.RowKit

/-- A list of factors: where it lies. -/
structure TV where
  b : Nat
  off : Nat
  c : Nat
  ds : List DV

instance : Inhabited TV := ⟨⟨0, 0, 0, []⟩⟩

/-- Block b from off on holds the lists ts. -/
structure RowT (w : World) (b off : Nat) (ts : List TV) : Prop where
  lt : b < w.heap.size
  c0 : ∀ i, i < ts.length → w.cell? ⟨b, off + i, none⟩ = some (.slice (some ⟨(ts.getD i default).b, (ts.getD i default).off, none⟩) (ts.getD i default).ds.length (ts.getD i default).c)
  row : ∀ i, i < ts.length → RowD w (ts.getD i default).b (ts.getD i default).off (ts.getD i default).ds

theorem RowT.later {w w' : World} {b off : Nat} {ts : List TV} (h : RowT w b off ts) (hb : Below w.heap.size w w') : RowT w' b off ts :=
  ⟨Nat.lt_of_lt_of_le h.lt hb.size, fun i hi => (hb.cell (p := ⟨b, off + i, none⟩) h.lt).trans (h.c0 i hi), fun i hi => (h.row i hi).later hb⟩

/-- A factor that may stand in a product. -/
def DV.fine (d : DV) : Prop := d.zs.length ≤ 512 ∧ -20000 ≤ d.E ∧ d.E ≤ 20000 ∧ B1 d.g d.zs (sg d.g (val 4294967296 d.zs))

def sumK (K : Int) (ts : List TV) : Int := (ts.map fun t => atK K (prodM t.ds) (sumE t.ds)).foldl (· + ·) 0
theorem sumK_snoc (K : Int) (ts : List TV) (t : TV) : sumK K (ts ++ [t]) = sumK K ts + atK K (prodM t.ds) (sumE t.ds) := by simp [sumK]

theorem sumE_from (ds : List DV) (s : Int) : (ds.map fun d => d.E).foldl (· + ·) s = s + sumE ds := by
  induction ds generalizing s with
  | nil => simp [sumE]
  | cons d ds ih =>
    simp only [List.map_cons, List.foldl_cons, sumE]
    rw [ih, ih]
    omega

theorem sumE_bound : ∀ ds : List DV, (∀ d, d ∈ ds → d.fine) → -20000 * (ds.length : Int) ≤ sumE ds ∧ sumE ds ≤ 20000 * (ds.length : Int)
  | [], _ => by simp [sumE]
  | d :: ds, h => by
    have ih := sumE_bound ds (fun d' h' => h d' (List.mem_cons_of_mem _ h'))
    have h1 := (h d List.mem_cons_self)
    have h2 := h1.2.1
    have h3 := h1.2.2.1
    have e : sumE (d :: ds) = d.E + sumE ds := by
      simp only [sumE, List.map_cons, List.foldl_cons]
      rw [sumE_from]
      simp [sumE]
    rw [e, List.length_cons]
    omega

/-- What sumOfProducts hands back. -/
def SumProd (w : World) (ts : List TV) (n : Nat) (e : Ending) (w' : World) : Prop :=
  ∃ (G : Bool) (a : Option Addr) (c : Nat) (fs : List Int) (m e' : Int), e = .returned (.agg #[.bool G, .slice a fs.length c, .int .i64 e']) ∧ B1 G fs m ∧ (fs.length ≤ n ∧ fs.length ≤ c ∧ c ≤ maxLen) ∧ (∀ K, 60000 ≤ K → atK K m e' = sumK K ts) ∧ -60000 ≤ e' ∧ e' ≤ 60000 ∧ RowAt .u32 w' a fs ∧ Far w.heap.size a fs ∧ Below w.heap.size w w'

set_option maxRecDepth 100000 in
set_option maxHeartbeats 8000000 in
theorem sumP_any (HPR : ProdSays) (b off c : Nat) (ts : List TV) (w : World) (hn : ts.length ≤ 6) (hl : ∀ t, t ∈ ts → t.ds.length ≤ 3 ∧ ∀ d, d ∈ t.ds → d.fine) (hd : RowT w b off ts) :
    Calls Try.prog 41 #[.slice (some ⟨b, off, none⟩) ts.length c] w fun e w' => SumProd w ts (9043 * ts.length) e w' := by
  go_enter Try.func41, Try.ntmps41
  go_wp2
  have P0 : PD w w.heap.size (w.heap.size + 1) false none 0 [] 0 0 ((w.alloc (.cells #[.bool false, .slice none 0 0, .int .i64 0] 36)).alloc (.cells #[.bool false, .slice none 0 0, .int .i64 0] 36)) := by
    refine ⟨?_, ?_, ?_, ?_, ?_, ?_, ?_, ?_, ⟨⟨Dig.nil _, rfl⟩, by decide, fun h => by cases h⟩, .inl rfl, (fun b o e1 hne => absurd rfl hne), .inl rfl, ⟨Nat.le_refl _, by omega, by simp⟩, bel2 _ _ _, ⟨Nat.le_refl _, Nat.zero_le _⟩⟩
    all_goals simp [go_sem]
  obtain ⟨X, hX⟩ : ∃ X, X = ((w.alloc (.cells #[.bool false, .slice none 0 0, .int .i64 0] 36)).alloc (.cells #[.bool false, .slice none 0 0, .int .i64 0] 36)) := ⟨_, rfl⟩
  rw [← hX] at P0 ⊢
  clear hX
  have HP0 : Hid (PD w w.heap.size (w.heap.size + 1) false none 0 [] 0 0 X) := P0
  clear P0
  go_loopw [5, 8] (fun _ si wr => ∃ (i : Nat) (G : Bool) (a : Option Addr) (ca : Nat) (fs : List Int) (m e : Int), i ≤ ts.length ∧ si = .int .i64 i ∧ fs.length ≤ 9043 * i ∧ -60000 ≤ e ∧ e ≤ 60000 ∧ Hid (∀ K, 60000 ≤ K → atK K m e = sumK K (ts.take i)) ∧ Hid (PD w w.heap.size (w.heap.size + 1) G a ca fs m e wr)) (fun _ si _ => ts.length - (intOf si).toNat)
  case atStart => exact ⟨0, false, none, 0, [], 0, 0, Nat.zero_le _, rfl, by simp, by decide, by decide, (fun K _ => by simp [atK, sumK]), HP0⟩
  case round =>
    obtain ⟨i, G, a, ca, fs, m, e, hi, rfl, hfl, he0, he1, hK, hP⟩ := hrel
    clear HP0
    have hd2 := hd.later hP.out.bel
    by_cases hlt : i < ts.length
    · have g0 := hd2.c0 i hlt
      have g3 := hd2.row i hlt
      obtain ⟨t, htt⟩ : ∃ t, t = ts.getD i default := ⟨_, rfl⟩
      rw [← htt] at g0 g3
      have hib : (i : Int) < ts.length := by omega
      have hmem : t ∈ ts := by rw [htt, List.getD_eq_getElem?_getD, List.getElem?_eq_getElem hlt]; exact List.getElem_mem hlt
      obtain ⟨ht3, htf⟩ := hl t hmem
      have hsb := sumE_bound t.ds htf
      have htk : ts.take (i + 1) = ts.take i ++ [t] := by
        rw [List.take_succ_eq_append_getElem hlt, htt, List.getD_eq_getElem?_getD, List.getElem?_eq_getElem hlt]
        rfl
      have G3 : Hid (RowD wr t.b t.off t.ds) := g3
      have HTK : Hid (ts.take (i + 1) = ts.take i ++ [t]) := htk
      have HSB : Hid (-60000 ≤ sumE t.ds ∧ sumE t.ds ≤ 60000) := by unfold Hid; omega
      have HTF : Hid (∀ d, d ∈ t.ds → d.fine) := htf
      clear htt hmem g3 hd2 htk hsb htf
      have z0 := hP.out.a1
      have z1 := hP.out.a2
      have z2 := hP.out.a3
      have z3 := hP.out.a4
      have oA : w.heap.size + 1 < wr.heap.size := hP.out.ord.2.2
      go_wp2
      go_region_with
        (first
          | (go_at_call 66; refine (HPR t.b t.off t.c t.ds _ ht3 HTF.out (G3.out.later (Below.refl _ _).drew)).mono ?_; rintro e1 w2 ⟨g2, a2, c2, f2, rfl, hB2, hl2, hr2, hF2, hb2⟩; have hWB : Below wr.heap.size wr w2 := (Below.refl _ _).drew.trans hb2; have P2 : Hid (PD w w.heap.size (w.heap.size + 1) G a ca fs m e w2) := hP.out.later hWB; have y0 := P2.out.a1; have y1 := P2.out.a2; have y2 := P2.out.a3; have y3 := P2.out.a4)
          | (go_at_call 65; refine (plusD_any G g2 a a2 ca c2 fs f2 m (prodM t.ds) e (sumE t.ds) _ (by omega) (by omega) (by have := HSB.out; omega) (by have := HSB.out; omega) P2.out.row hr2 P2.out.b1 hB2 P2.out.cap (by omega)).mono ?_; rintro e3 w3 ⟨g3, a3, c3, f3, m3, e3', rfl, hB3, hS3, hl3, hr3, hF3, hb3⟩; have P3 : Hid (PD w w.heap.size (w.heap.size + 1) G a ca fs m e w3) := P2.out.later hb3; have x0 := P3.out.a1; have x1 := P3.out.a2; have x2 := P3.out.a3; have x3 := P3.out.a4))
      all_goals
        have hs2 : wr.heap.size ≤ w2.heap.size := hWB.size
        have hF2' : Far wr.heap.size a2 f2 := hF2
        have ho3 : (∀ b o, a3 = some ⟨b, o, none⟩ → f3 ≠ [] → b ≠ w.heap.size + 1 ∧ b ≠ w.heap.size) ∧ Far (w.heap.size + 1) a3 f3 := by
          rcases hF3 with h | ⟨h1, h2⟩ | ⟨h1, h2⟩
          · exact ⟨h.offs (by omega) (by omega), h.down (by omega)⟩
          · rw [h1, h2]
            exact ⟨P3.out.off, P3.out.far⟩
          · rw [h1, h2]
            exact ⟨hF2'.offs (by omega) (by omega), hF2'.down (by omega)⟩
        have HPN : Hid (PD w w.heap.size (w.heap.size + 1) g3 a3 c3 f3 m3 e3' (((w3.setCell ⟨w.heap.size + 1, 0, none⟩ (.bool g3)).setCell ⟨w.heap.size + 1, 1, none⟩ (.slice a3 f3.length c3)).setCell ⟨w.heap.size + 1, 2, none⟩ (.int .i64 e3'))) := P3.out.lay hB3 hr3 ho3.1 ho3.2 (by omega)
        have HK3 : Hid (∀ K, 60000 ≤ K → atK K m3 e3' = sumK K (ts.take (i + 1))) := by
          intro K hK6
          have hb := HSB.out
          rw [HTK.out, sumK_snoc, hS3.2 K (by omega) (by omega), hK.out K hK6]
        have hbe : -60000 ≤ e3' ∧ e3' ≤ 60000 := by
          have hb := HSB.out
          rcases hS3.1 with h | h <;> omega
        have hlen : f3.length ≤ 9043 * (i + 1) := by omega
        obtain ⟨hbe0, hbe1⟩ := hbe
        clear hB2 hr2 hF2 hb2 hWB P2 y0 y1 y2 y3 hB3 hS3 hr3 hF3 hb3 P3 x0 x1 x2 x3 hF2' ho3 z0 z1 z2 z3 hK hP
        go_wp2
        go_roundw
        case rel => exact ⟨i + 1, g3, a3, c3, f3, m3, e3', by omega, by go_num, hlen, hbe0, hbe1, HK3, HPN⟩
        case measure => simp [intOf]; omega
    · have hin : i = ts.length := by omega
      subst hin
      have HK3 : Hid (∀ K, 60000 ≤ K → atK K m e = sumK K ts) := by intro K hK6; have := hK.out K hK6; rw [List.take_length] at this; exact this
      have z0 := hP.out.a1
      have z1 := hP.out.a2
      have z2 := hP.out.a3
      have r1 := hP.out.r1
      have r2 := hP.out.r2
      have r3 := hP.out.r3
      have r4 := hP.out.r4
      clear hd2 hK
      go_wp2
      refine bodyPost_ret (v := .agg #[.bool G, .slice a fs.length ca, .int .i64 e]) (by simp [results, Try.results41, go_sem, r1, r2, r3]) rfl ?_
      refine ⟨G, a, ca, fs, m, e, rfl, hP.out.b1, ⟨hfl, hP.out.cap⟩, HK3.out, he0, he1, ?_, hP.out.far.down (by omega), ?_⟩
      · have ho := hP.out.off
        exact ((hP.out.row.setAway (fun b o e1 hne => (ho b o e1 hne).2) _).setAway (fun b o e1 hne => (ho b o e1 hne).2) _).setAway (fun b o e1 hne => (ho b o e1 hne).2) _
      · exact ((hP.out.bel.setCell (by simp) _).setCell (by simp) _).setCell (by simp) _

end Go.Proofs.Ytladfpljnaippaa
