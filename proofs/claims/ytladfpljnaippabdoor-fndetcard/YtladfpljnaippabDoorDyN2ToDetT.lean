/-
  The program's normal forms.
-/
import Derived.Test.YtladfpljnaippabDoorDyI5ImplNgDyI1nDyN1ImplU
import Derived.Test.YtladfpljnaippabDoorSpecFlToDrawH
import Derived.Test.YtladfpljnaippabDoorDetPGrow3FactsDetFDyI4a
import Derived.Test.YtladfpljnaippabDoorDy1
import Derived.Test.YtladfpljnaippabDoorDyI3ToDraw1
namespace Go.Proofs.YtladfpljnaippabDoor
open Go.RowKit

/-- What a function of the program answers that gives a Dyadic and a code: in new memory. -/
def OutDI (w : World) (ok : Bool) (v : Int) (e : Ending) (w' : World) : Prop :=
  ∃ (G : Bool) (Z : List Int) (E K : Int) (a : Option Addr) (c : Nat), e = .returned (.tuple #[.agg #[.bool G, .slice a Z.length c, .int .i64 E], .int .i64 K]) ∧ ResD ok v G Z E K ∧ RowNew .u32 w' w.heap.size a Z ∧ Below w.heap.size w w'

theorem nil_b1 : B1 false [] 0 := ⟨⟨Dig.nil _, rfl⟩, by simp [sg, val], fun h => by cases h⟩

set_option maxRecDepth 100000 in
set_option maxHeartbeats 4000000 in
theorem normalI_any (g : Bool) (a : Option Addr) (c : Nat) (zs : List Int) (x E : Int) (w : World) (hn : zs.length ≤ 60000) (he0 : -60000 ≤ E) (he1 : E ≤ 60000) (hz : RowAt .u32 w a zs) (h : B1 g zs x) (hcap : zs.length ≤ c ∧ c ≤ maxLen) (hT : Tab w) :
    Calls Tryd.prog 39 #[.agg #[.bool g, .slice a zs.length c, .int .i64 E]] w fun e w' => OutDI w true (atK 100000 x E) e w' := by
  have B0 : Hid (∀ t t', Bx3 w (.bool g) (.slice a zs.length c) (.int .i64 E) ((w.alloc (.cells #[.bool g, .slice a zs.length c, .int .i64 E] t)).alloc (.cells #[.bool false, .slice none 0 0, .int .i64 0] t'))) := fun t t' => Bx3.start w _ _ _ _ _
  obtain ⟨v, hv⟩ : ∃ v, v = atK 100000 x E := ⟨_, rfl⟩
  have HV : Hid (v = atK 100000 x E) := hv
  rw [← hv]
  clear hv
  by_cases hne : zs = []
  · subst hne
    have hx : x = 0 := by rw [h.num]; cases g <;> simp [sg, val]
    have HO : Hid (ResD true v false [] 0 0) := .inr ⟨rfl, 0, 0, .inl ⟨by rw [HV.out, hx]; simp [atK], rfl, rfl⟩, .inl ⟨⟨nil_b1.fits (by simp), by decide, by decide⟩, nil_b1, rfl, rfl⟩⟩
    clear h hx hz hcap hT
    go_enter Tryd.func39, Tryd.ntmps39
    go_wp2
    refine bodyPost_ret (v := .tuple #[.agg #[.bool false, .slice none 0 0, .int .i64 0], .int .i64 0]) (by simp [results, Tryd.results39, go_sem]) rfl ?_
    refine ⟨false, [], 0, 0, none, 0, rfl, HO.out, .inl rfl, ?_⟩
    exact (B0.out _ _).bel
  · have hlen : ((zs.length : Int) == 0) = false := by
      rw [beq_eq_false_iff_ne]
      have := List.length_pos_iff.2 hne
      omega
    have HB1 : Hid (B1 g zs x) := h
    have HNE : Hid (zs ≠ []) := hne
    have HT : Hid (Tab w) := hT
    clear h hne hT
    go_enter Tryd.func39, Tryd.ntmps39
    go_wp2_with fail
    refine (lowZ_any a c zs _ (by omega) (hz.later (B0.out _ _).bel) HB1.out.can HNE.out (HT.out.later (B0.out _ _).bel)).mono ?_
    rintro e W1 ⟨t, rfl, ht, htw, hb1⟩
    have F1 : Hid (Bx3 w (.bool g) (.slice a zs.length c) (.int .i64 E) W1) := (B0.out _ _).later hb1
    have HN : Hid (Norm (atK 100000 x E) (sg g (val 4294967296 zs / 2 ^ t)) (E + t)) := norm_twos HB1.out HNE.out (by omega) htw
    rw [← HV.out] at HN
    obtain ⟨e', he'⟩ : ∃ e', e' = E + t := ⟨_, rfl⟩
    have hsum : E + (t : Int) = e' := he'.symm
    rw [hsum] at HN
    clear he'
    have q2 := F1.out.q2
    have ht' : (t : Int) ≤ 1920000 := by omega
    clear hb1 htw B0
    by_cases hr : e' < -20000 ∨ 20000 < e'
    · have HO : Hid (ResD true v false [] 0 2) := .inr ⟨rfl, _, _, HN.out, .inr ⟨by omega, rfl, rfl, rfl, rfl⟩⟩
      have r1 := F1.out.r1
      have r2 := F1.out.r2
      have r3 := F1.out.r3
      have r4 := F1.out.r4
      have fin : Hid (∀ W, Below w.heap.size w W → OutDI w true v (.returned (.tuple #[.agg #[.bool false, .slice none 0 0, .int .i64 0], .int .i64 2])) W) := fun W hW => ⟨false, [], 0, 2, none, 0, rfl, HO.out, .inl rfl, hW⟩
      by_cases hr1 : e' < -20000
      · go_wp2
        refine bodyPost_ret (v := .tuple #[.agg #[.bool false, .slice none 0 0, .int .i64 0], .int .i64 2]) (by simp [results, Tryd.results39, go_sem, r1, r2, r3]) rfl ?_
        exact fin.out _ (((F1.out.bel.setCell (by simp) _).setCell (by simp) _).setCell (by simp) _)
      · have hr2 : 20000 < e' := by omega
        go_wp2
        refine bodyPost_ret (v := .tuple #[.agg #[.bool false, .slice none 0 0, .int .i64 0], .int .i64 2]) (by simp [results, Tryd.results39, go_sem, r1, r2, r3]) rfl ?_
        exact fin.out _ (((F1.out.bel.setCell (by simp) _).setCell (by simp) _).setCell (by simp) _)
    · have hr1 : ¬ e' < -20000 := by omega
      have hr2 : ¬ 20000 < e' := by omega
      have htb : (t : Int) ≤ 80000 := by omega
      clear hr
      go_wp2_with fail
      refine (downI_any a c zs (t : Int) _ (by omega) hcap.1 hcap.2 (by omega) (by omega) (hz.later F1.out.bel) HB1.out.can).mono ?_
      rintro e W2 ⟨a2, c2, fs, rfl, hf2, hm2, hcan2, hv2, hl2, hr2', hb2⟩
      have F2 : Hid (Bx3 w (.bool g) (.slice a zs.length c) (.int .i64 E) W2) := F1.out.later hb2
      have HB2 : Hid (B1 (g && decide (0 < fs.length)) fs (sg g (val 4294967296 zs / 2 ^ t))) := B1.of_signed hcan2 (by rw [hv2]; rfl)
      have HR2 : Hid (RowNew .u32 W2 W1.heap.size a2 fs) := hr2'
      have hs1 : w.heap.size + 1 + 1 ≤ W1.heap.size := F1.out.le
      have q0 := F2.out.q0
      clear hb2 hcan2 hv2 hr2' q2
      go_wp2_with fail
      refine (signed_any g a2 fs.length c2 _).mono ?_
      rintro e W3 ⟨rfl, hb3⟩
      have F3 : Hid (Bx3 w (.bool g) (.slice a zs.length c) (.int .i64 E) W3) := F2.out.later hb3
      have HR3 : Hid (RowNew .u32 W3 W1.heap.size a2 fs) := HR2.out.later hb3
      clear hb3 q0
      generalize (g && decide (0 < fs.length)) = G at *
      go_wp2_with fail
      refine (within_any G a2 c2 fs _ W1.heap.size (by omega) HR3.out).mono ?_
      rintro e W4 ⟨a4, c4, rfl, hr4, hb4⟩
      have F4 : Hid (Bx3 w (.bool g) (.slice a zs.length c) (.int .i64 E) W4) := F3.out.later hb4
      have r1 := F4.out.r1
      have r2 := F4.out.r2
      have r3 := F4.out.r3
      have r4 := F4.out.r4
      have hs4 : w.heap.size + 1 < W4.heap.size := F4.out.le
      by_cases h5 : fs.length ≤ 512
      · have HO : Hid (ResD true v G fs e' 0) := .inr ⟨rfl, _, _, HN.out, .inl ⟨⟨HB2.out.fits h5, by omega, by omega⟩, HB2.out, rfl, rfl⟩⟩
        have hlo : limOut G fs = (G, fs, 0) := by unfold limOut; rw [if_pos h5]
        rw [hlo] at hr4 ⊢
        have HR4 : Hid (RowNew .u32 W4 (w.heap.size + 1 + 1) a4 fs) := hr4.down hs1
        clear hlo hr4 hb4
        go_wp2
        refine bodyPost_ret (v := .tuple #[.agg #[.bool G, .slice a4 fs.length c4, .int .i64 e'], .int .i64 0]) (by simp [results, Tryd.results39, go_sem, r1, r2, r3, hs4]) rfl ?_
        have hbl := ((F4.out.bel.setCell (p := ⟨w.heap.size + 1, 0, none⟩) (by simp) (.bool G)).setCell (p := ⟨w.heap.size + 1, 1, none⟩) (by simp) (.slice a4 fs.length c4)).setCell (p := ⟨w.heap.size + 1, 2, none⟩) (by simp) (.int .i64 e')
        refine ⟨G, fs, e', 0, a4, c4, rfl, HO.out, ?_, hbl.alloc hbl.size _⟩
        exact ((((HR4.out.setLow (by simp) _).setLow (by simp) _).setLow (by simp) _).later (bel0 _ _)).down (by omega)
      · have HO : Hid (ResD true v false [] 0 2) := .inr ⟨rfl, _, _, HN.out, .inr ⟨fun h => h5 (HB2.out.len h.1), rfl, rfl, rfl, rfl⟩⟩
        have hlo : limOut G fs = (false, [], 2) := by unfold limOut; rw [if_neg h5]
        rw [hlo] at hr4 ⊢
        clear hlo hr4 hb4
        go_wp2
        refine bodyPost_ret (v := .tuple #[.agg #[.bool false, .slice none 0 0, .int .i64 0], .int .i64 2]) (by simp [results, Tryd.results39, go_sem, r1, r2, r3, hs4]) rfl ?_
        refine ⟨false, [], 0, 2, none, 0, rfl, HO.out, .inl rfl, ?_⟩
        have hb0 := F4.out.bel
        have hbl := ((F4.out.bel.setCell (p := ⟨w.heap.size + 1, 0, none⟩) (by simp) (.bool false)).setCell (p := ⟨w.heap.size + 1, 1, none⟩) (by simp) (.slice none 0 0)).setCell (p := ⟨w.heap.size + 1, 2, none⟩) (by simp) (.int .i64 0)
        first
          | exact hbl.alloc hbl.size _
          | exact hb0.alloc hb0.size _
          | exact hbl
          | exact hb0

end Go.Proofs.YtladfpljnaippabDoor

/-
  The determinant's region: its steps.
-/
namespace Go.Proofs.YtladfpljnaippabDoor
open Go.RowKit

theorem wpOp_plain {P : Program} {ops : Array Oper} {Q : Exit → Act → World → Prop} {i : Nat} {o : Oper} {K : Act → World → Prop} {a : Act} {w : World} (hi : ops[i]? = some o) (hg : o.guard = none) (h : o.wp P a w K Q) : wpOp P ops Q i K a w := by
  unfold wpOp
  rw [hi]
  simp only [Region.wanted, hg]
  exact .inl h

def DV.val (d : DV) : Value := .agg #[.bool d.g, .slice d.a d.zs.length d.c, .int .i64 d.E]
def DV.neg (d : DV) : DV := ⟨!d.g && decide (0 < d.zs.length), d.a, d.c, d.zs, d.E⟩

theorem three_rowD {W : World} {b : Nat} {d d' d2 : DV} (hb : b < W.heap.size) (h0 : W.cell? ⟨b, 0, none⟩ = some (.bool d.g)) (h1 : W.cell? ⟨b, 1, none⟩ = some (.slice d.a d.zs.length d.c)) (h2 : W.cell? ⟨b, 2, none⟩ = some (.int .i64 d.E)) (h3 : W.cell? ⟨b, 3, none⟩ = some (.bool d'.g)) (h4 : W.cell? ⟨b, 4, none⟩ = some (.slice d'.a d'.zs.length d'.c)) (h5 : W.cell? ⟨b, 5, none⟩ = some (.int .i64 d'.E)) (h6 : W.cell? ⟨b, 6, none⟩ = some (.bool d2.g)) (h7 : W.cell? ⟨b, 7, none⟩ = some (.slice d2.a d2.zs.length d2.c)) (h8 : W.cell? ⟨b, 8, none⟩ = some (.int .i64 d2.E))
    (hr : RowAt .u32 W d.a d.zs) (hr' : RowAt .u32 W d'.a d'.zs) (hr2 : RowAt .u32 W d2.a d2.zs) : RowD W b 0 [d, d', d2] := by
  refine ⟨hb, ?_, ?_, ?_, ?_⟩
  all_goals
    intro i hi
    have : i = 0 ∨ i = 1 ∨ i = 2 := by simp at hi; omega
    rcases this with rfl | rfl | rfl
    · simpa
    · simpa
    · simpa

theorem six_rowT {W : World} {b b0 b1 b2 b3 b4 b5 : Nat} {l0 l1 l2 l3 l4 l5 : List DV} (hb : b < W.heap.size) (g0 : l0.length = 3) (g1 : l1.length = 3) (g2 : l2.length = 3) (g3 : l3.length = 3) (g4 : l4.length = 3) (g5 : l5.length = 3)
    (h0 : W.cell? ⟨b, 0, none⟩ = some (.slice (some ⟨b0, 0, none⟩) 3 3)) (h1 : W.cell? ⟨b, 1, none⟩ = some (.slice (some ⟨b1, 0, none⟩) 3 3)) (h2 : W.cell? ⟨b, 2, none⟩ = some (.slice (some ⟨b2, 0, none⟩) 3 3)) (h3 : W.cell? ⟨b, 3, none⟩ = some (.slice (some ⟨b3, 0, none⟩) 3 3)) (h4 : W.cell? ⟨b, 4, none⟩ = some (.slice (some ⟨b4, 0, none⟩) 3 3)) (h5 : W.cell? ⟨b, 5, none⟩ = some (.slice (some ⟨b5, 0, none⟩) 3 3))
    (r0 : RowD W b0 0 l0) (r1 : RowD W b1 0 l1) (r2 : RowD W b2 0 l2) (r3 : RowD W b3 0 l3) (r4 : RowD W b4 0 l4) (r5 : RowD W b5 0 l5) :
    RowT W b 0 [⟨b0, 0, 3, l0⟩, ⟨b1, 0, 3, l1⟩, ⟨b2, 0, 3, l2⟩, ⟨b3, 0, 3, l3⟩, ⟨b4, 0, 3, l4⟩, ⟨b5, 0, 3, l5⟩] := by
  refine ⟨hb, ?_, ?_⟩
  all_goals
    intro i hi
    have : i = 0 ∨ i = 1 ∨ i = 2 ∨ i = 3 ∨ i = 4 ∨ i = 5 := by simp at hi; omega
    rcases this with rfl | rfl | rfl | rfl | rfl | rfl
    all_goals simpa [g0, g1, g2, g3, g4, g5]

section
variable {Q : Exit → Act → World → Prop} {K : Act → World → Prop} {a : Act} {w : World}

theorem step_mv (d ty : Nat) (pos : String) (aft : Array Edge) (hK : K (a.put (some d) (a.tmps.getD 0 undef)) w) :
    Oper.wp Tryd.prog ⟨some d, .move (.tmp 0), ty, pos, aft, none⟩ a w K Q := hK

set_option maxRecDepth 100000 in
set_option maxHeartbeats 2000000 in
theorem step_ng (d t ty : Nat) (pos : String) (aft : Array Edge) (e : DV) (h : a.tmps.getD t undef = e.val) (hK : ∀ w', Below w.heap.size w w' → K (a.put (some d) e.neg.val) w') :
    Oper.wp Tryd.prog ⟨some d, .call { callee := .value (.func 41), args := #[.tmp t], argTypes := #[29] }, ty, pos, aft, none⟩ a w K Q := by
  have h' : a.tmps[t]?.getD undef = e.val := by simpa using h
  unfold DV.val at h'
  go_simp
  refine (negI_any e.g e.a e.c e.zs e.E w).mono ?_
  rintro e1 w' ⟨rfl, hb⟩
  exact hK w' hb

set_option maxRecDepth 100000 in
set_option maxHeartbeats 2000000 in
theorem step_sm (HPR : ProdSays) (d t ty : Nat) (pos : String) (aft : Array Edge) (b : Nat) (ts : List TV) (hn : ts.length = 6) (hl : ∀ t, t ∈ ts → t.ds.length ≤ 3 ∧ ∀ d, d ∈ t.ds → d.fine) (hd : RowT w b 0 ts) (h : a.tmps.getD t undef = .slice (some ⟨b, 0, none⟩) 6 6)
    (hK : ∀ w' (G : Bool) (a' : Option Addr) (c' : Nat) (fs : List Int) (m e : Int), B1 G fs m → (fs.length ≤ 54258 ∧ fs.length ≤ c' ∧ c' ≤ maxLen) → (∀ K, 60000 ≤ K → atK K m e = sumK K ts) → -60000 ≤ e → e ≤ 60000 → RowAt .u32 w' a' fs → Below w.heap.size w w' → K (a.put (some d) (.agg #[.bool G, .slice a' fs.length c', .int .i64 e])) w') :
    Oper.wp Tryd.prog ⟨some d, .call { callee := .value (.func 40), args := #[.tmp t], argTypes := #[120] }, ty, pos, aft, none⟩ a w K Q := by
  have h' : a.tmps[t]?.getD undef = .slice (some ⟨b, 0, none⟩) 6 6 := by simpa using h
  have hc := sumP_any HPR b 0 6 ts w (by omega) hl hd
  rw [hn] at hc
  clear hd hl hn
  go_simp
  refine hc.mono ?_
  rintro e1 w' ⟨G, a', c', fs, m, e, rfl, h1, h2, h3, h4, h5, h6, _, h8⟩
  exact hK w' G a' c' fs m e h1 h2 h3 h4 h5 h6 h8

set_option maxRecDepth 100000 in
set_option maxHeartbeats 2000000 in
theorem step_nr (d t ty : Nat) (pos : String) (aft : Array Edge) (G : Bool) (a1 : Option Addr) (c1 : Nat) (fs : List Int) (m e : Int) (hn : fs.length ≤ 60000) (he0 : -60000 ≤ e) (he1 : e ≤ 60000) (hz : RowAt .u32 w a1 fs) (hB : B1 G fs m) (hcap : fs.length ≤ c1 ∧ c1 ≤ maxLen) (hT : Tab w) (h : a.tmps.getD t undef = .agg #[.bool G, .slice a1 fs.length c1, .int .i64 e])
    (hK : ∀ w' (G : Bool) (Z : List Int) (E K' : Int) (a' : Option Addr) (c' : Nat), ResD true (atK 100000 m e) G Z E K' → RowNew .u32 w' w.heap.size a' Z → Below w.heap.size w w' → K (a.put (some d) (.tuple #[.agg #[.bool G, .slice a' Z.length c', .int .i64 E], .int .i64 K'])) w') :
    Oper.wp Tryd.prog ⟨some d, .call { callee := .value (.func 39), args := #[.tmp t], argTypes := #[29] }, ty, pos, aft, none⟩ a w K Q := by
  have h' : a.tmps[t]?.getD undef = .agg #[.bool G, .slice a1 fs.length c1, .int .i64 e] := by simpa using h
  have hc := normalI_any G a1 c1 fs m e w hn he0 he1 hz hB hcap hT
  clear hn he0 he1 hz hB hcap hT
  go_simp
  refine hc.mono ?_
  rintro e1 w' ⟨G, Z, E, K', a', c', rfl, h1, h2, h3⟩
  exact hK w' G Z E K' a' c' h1 h2 h3

set_option maxRecDepth 100000 in
set_option maxHeartbeats 2000000 in
theorem step_ix (d t ty : Nat) (pos : String) (aft : Array Edge) (b off c k : Nat) (hk : k < 9) (h : a.tmps.getD t undef = .slice (some ⟨b, off, none⟩) 9 c)
    (hK : K (a.put (some d) (.pointer (some ⟨b, off + k * 3, none⟩))) w) :
    Oper.wp Tryd.prog ⟨some d, .indexAddr 23 (.tmp t) (.const (.int .i64 k)), ty, pos, aft, none⟩ a w K Q := by
  have h' : a.tmps[t]?.getD undef = .slice (some ⟨b, off, none⟩) 9 c := by simpa using h
  have hk' : (k : Int) < 9 := by omega
  go_simp
  exact hK

set_option maxRecDepth 100000 in
set_option maxHeartbeats 2000000 in
theorem step_ld (d t ty : Nat) (pos : String) (aft : Array Edge) (b off k : Nat) (e : DV) (h : a.tmps.getD t undef = .pointer (some ⟨b, off + k * 3, none⟩))
    (h0 : w.cell? ⟨b, off + k * 3, none⟩ = some (.bool e.g)) (h1 : w.cell? ⟨b, off + k * 3 + 1, none⟩ = some (.slice e.a e.zs.length e.c)) (h2 : w.cell? ⟨b, off + k * 3 + 2, none⟩ = some (.int .i64 e.E))
    (hK : K (a.put (some d) e.val) w) :
    Oper.wp Tryd.prog ⟨some d, .load 29 (.tmp t), ty, pos, aft, none⟩ a w K Q := by
  have h' : a.tmps[t]?.getD undef = .pointer (some ⟨b, off + k * 3, none⟩) := by simpa using h
  go_simp
  exact hK

set_option maxRecDepth 100000 in
set_option maxHeartbeats 2000000 in
theorem step_bd (d t0 t1 t2 ty : Nat) (pos : String) (aft : Array Edge) (e0 e1 e2 : DV) (h0 : a.tmps.getD t0 undef = e0.val) (h1 : a.tmps.getD t1 undef = e1.val) (h2 : a.tmps.getD t2 undef = e2.val)
    (hK : K (a.put (some d) (.slice (some ⟨w.heap.size, 0, none⟩) 3 3)) (w.alloc (.cells #[.bool e0.g, .slice e0.a e0.zs.length e0.c, .int .i64 e0.E, .bool e1.g, .slice e1.a e1.zs.length e1.c, .int .i64 e1.E, .bool e2.g, .slice e2.a e2.zs.length e2.c, .int .i64 e2.E] 29))) :
    Oper.wp Tryd.prog ⟨some d, .buildSlice 75 3 #[(0, .tmp t0), (1, .tmp t1), (2, .tmp t2)], ty, pos, aft, none⟩ a w K Q := by
  have h0' : a.tmps[t0]?.getD undef = e0.val := by simpa using h0
  have h1' : a.tmps[t1]?.getD undef = e1.val := by simpa using h1
  have h2' : a.tmps[t2]?.getD undef = e2.val := by simpa using h2
  unfold DV.val at h0' h1' h2'
  go_simp
  exact hK

set_option maxRecDepth 100000 in
set_option maxHeartbeats 2000000 in
theorem step_al (d t0 t1 t2 t3 t4 t5 ty : Nat) (pos : String) (aft : Array Edge) (b0 b1 b2 b3 b4 b5 : Nat) (h0 : a.tmps.getD t0 undef = .slice (some ⟨b0, 0, none⟩) 3 3) (h1 : a.tmps.getD t1 undef = .slice (some ⟨b1, 0, none⟩) 3 3) (h2 : a.tmps.getD t2 undef = .slice (some ⟨b2, 0, none⟩) 3 3) (h3 : a.tmps.getD t3 undef = .slice (some ⟨b3, 0, none⟩) 3 3) (h4 : a.tmps.getD t4 undef = .slice (some ⟨b4, 0, none⟩) 3 3) (h5 : a.tmps.getD t5 undef = .slice (some ⟨b5, 0, none⟩) 3 3)
    (hK : K (a.put (some d) (.slice (some ⟨w.heap.size, 0, none⟩) 6 6)) (w.alloc (.cells #[.slice (some ⟨b0, 0, none⟩) 3 3, .slice (some ⟨b1, 0, none⟩) 3 3, .slice (some ⟨b2, 0, none⟩) 3 3, .slice (some ⟨b3, 0, none⟩) 3 3, .slice (some ⟨b4, 0, none⟩) 3 3, .slice (some ⟨b5, 0, none⟩) 3 3] 75))) :
    Oper.wp Tryd.prog ⟨some d, .buildSlice 120 6 #[(0, .tmp t0), (1, .tmp t1), (2, .tmp t2), (3, .tmp t3), (4, .tmp t4), (5, .tmp t5)], ty, pos, aft, none⟩ a w K Q := by
  have h0' : a.tmps[t0]?.getD undef = .slice (some ⟨b0, 0, none⟩) 3 3 := by simpa using h0
  have h1' : a.tmps[t1]?.getD undef = .slice (some ⟨b1, 0, none⟩) 3 3 := by simpa using h1
  have h2' : a.tmps[t2]?.getD undef = .slice (some ⟨b2, 0, none⟩) 3 3 := by simpa using h2
  have h3' : a.tmps[t3]?.getD undef = .slice (some ⟨b3, 0, none⟩) 3 3 := by simpa using h3
  have h4' : a.tmps[t4]?.getD undef = .slice (some ⟨b4, 0, none⟩) 3 3 := by simpa using h4
  have h5' : a.tmps[t5]?.getD undef = .slice (some ⟨b5, 0, none⟩) 3 3 := by simpa using h5
  go_simp
  exact hK

end
end Go.Proofs.YtladfpljnaippabDoor

/-
  The program's DyDet: what each operation of its region leaves.
-/
namespace Go.Proofs.YtladfpljnaippabDoor
open Go.RowKit

/-- What an operation leaves: the list; the place of number k; number k; its negative; a list of three; the list of the six; their sum; the answer. -/
inductive Kd where
  | mv
  | ix (k : Nat)
  | ld (k : Nat)
  | ng (k : Nat)
  | bd (s : Bool) (k0 k1 k2 : Nat)
  | al
  | sm
  | nr

def kdL : List Kd := [.mv, .ix 0, .ld 0, .mv, .ix 4, .ld 4, .mv, .ix 8, .ld 8, .bd false 0 4 8, .mv, .ix 1, .ld 1, .mv, .ix 5, .ld 5, .mv, .ix 6, .ld 6, .bd false 1 5 6, .mv, .ix 2, .ld 2, .mv, .ix 3, .ld 3, .mv, .ix 7, .ld 7, .bd false 2 3 7, .mv, .ix 2, .ld 2, .ng 2, .mv, .ix 4, .ld 4, .mv, .ix 6, .ld 6, .bd true 2 4 6, .mv, .ix 0, .ld 0, .ng 0, .mv, .ix 5, .ld 5, .mv, .ix 7, .ld 7, .bd true 0 5 7, .mv, .ix 1, .ld 1, .ng 1, .mv, .ix 3, .ld 3, .mv, .ix 8, .ld 8, .bd true 1 3 8, .al, .sm, .nr]
def kd (i : Nat) : Kd := kdL.getD i .nr

def tri (ds : List DV) (s : Bool) (k0 k1 k2 : Nat) : List DV := [if s then (ds.getD k0 default).neg else ds.getD k0 default, ds.getD k1 default, ds.getD k2 default]
def sixL (ds : List DV) : List (List DV) := [tri ds false 0 4 8, tri ds false 1 5 6, tri ds false 2 3 7, tri ds true 2 4 6, tri ds true 0 5 7, tri ds true 1 3 8]
/-- The six, as the lists lie at bs. -/
def sixT (ds : List DV) (b0 b1 b2 b3 b4 b5 : Nat) : List TV := [⟨b0, 0, 3, tri ds false 0 4 8⟩, ⟨b1, 0, 3, tri ds false 1 5 6⟩, ⟨b2, 0, 3, tri ds false 2 3 7⟩, ⟨b3, 0, 3, tri ds true 2 4 6⟩, ⟨b4, 0, 3, tri ds true 0 5 7⟩, ⟨b5, 0, 3, tri ds true 1 3 8⟩]
/-- The determinant, in units of 2^-K. -/
def detK (K : Int) (ds : List DV) : Int := sumK K (sixT ds 0 0 0 0 0 0)

theorem sumK_six (K : Int) (ds : List DV) (b0 b1 b2 b3 b4 b5 : Nat) : sumK K (sixT ds b0 b1 b2 b3 b4 b5) = detK K ds := rfl

def KF (b off c B : Nat) (ds : List DV) : Kd → Value → World → Prop
  | .mv, v, _ => v = .slice (some ⟨b, off, none⟩) 9 c
  | .ix k, v, _ => v = .pointer (some ⟨b, off + k * 3, none⟩)
  | .ld k, v, _ => v = (ds.getD k default).val
  | .ng k, v, _ => v = (ds.getD k default).neg.val
  | .bd s k0 k1 k2, v, w => ∃ b', v = .slice (some ⟨b', 0, none⟩) 3 3 ∧ RowD w b' 0 (tri ds s k0 k1 k2)
  | .al, v, w => ∃ b' b0 b1 b2 b3 b4 b5, v = .slice (some ⟨b', 0, none⟩) 6 6 ∧ RowT w b' 0 (sixT ds b0 b1 b2 b3 b4 b5)
  | .sm, v, w => ∃ (G : Bool) (a : Option Addr) (c' : Nat) (fs : List Int) (m e : Int), v = .agg #[.bool G, .slice a fs.length c', .int .i64 e] ∧ B1 G fs m ∧ (fs.length ≤ 54258 ∧ fs.length ≤ c' ∧ c' ≤ maxLen) ∧ (∀ K, 60000 ≤ K → atK K m e = detK K ds) ∧ -60000 ≤ e ∧ e ≤ 60000 ∧ RowAt .u32 w a fs
  | .nr, v, w => ∃ (G : Bool) (Z : List Int) (E K : Int) (a : Option Addr) (c' : Nat), v = .tuple #[.agg #[.bool G, .slice a Z.length c', .int .i64 E], .int .i64 K] ∧ ResD true (detK 100000 ds) G Z E K ∧ RowNew .u32 w B a Z

theorem KF.later {b off c B : Nat} {ds : List DV} : ∀ (k : Kd) (v : Value) (w w' : World), Below w.heap.size w w' → KF b off c B ds k v w → KF b off c B ds k v w'
  | .mv, _, _, _, _, h => h
  | .ix _, _, _, _, _, h => h
  | .ld _, _, _, _, _, h => h
  | .ng _, _, _, _, _, h => h
  | .bd _ _ _ _, _, _, _, hb, ⟨b', h1, h2⟩ => ⟨b', h1, h2.later hb⟩
  | .al, _, _, _, hb, ⟨b', b0, b1, b2, b3, b4, b5, h1, h2⟩ => ⟨b', b0, b1, b2, b3, b4, b5, h1, h2.later hb⟩
  | .sm, _, _, _, hb, ⟨G, a, c', fs, m, e, h1, h2, h3, h4, h5, h6, h7⟩ => ⟨G, a, c', fs, m, e, h1, h2, h3, h4, h5, h6, h7.later hb⟩
  | .nr, _, _, _, hb, ⟨G, Z, E, K, a, c', h1, h2, h3⟩ => ⟨G, Z, E, K, a, c', h1, h2, h3.later hb⟩

/-- The operation waits for number j, which leaves its answer in t. -/
def Dep (aft : Array Edge) (j t : Nat) : Prop := ∃ (q : Nat) (e : Edge) (o' : Oper), aft[q]? = some e ∧ Region.binds .any e = true ∧ e.on = j ∧ detOps[j]? = some o' ∧ o'.dst = some t

inductive Form : Kd → Oper → Prop
  | mv (d ty : Nat) (pos : String) (aft : Array Edge) : Form .mv ⟨some d, .move (.tmp 0), ty, pos, aft, none⟩
  | ix (d ty : Nat) (pos : String) (aft : Array Edge) (t k j : Nat) : k < 9 → Dep aft j t → kd j = .mv → Form (.ix k) ⟨some d, .indexAddr 23 (.tmp t) (.const (.int .i64 k)), ty, pos, aft, none⟩
  | ld (d ty : Nat) (pos : String) (aft : Array Edge) (t k j : Nat) : k < 9 → Dep aft j t → kd j = .ix k → Form (.ld k) ⟨some d, .load 29 (.tmp t), ty, pos, aft, none⟩
  | ng (d ty : Nat) (pos : String) (aft : Array Edge) (t k j : Nat) : Dep aft j t → kd j = .ld k → Form (.ng k) ⟨some d, .call { callee := .value (.func 41), args := #[.tmp t], argTypes := #[29] }, ty, pos, aft, none⟩
  | bdp (d ty : Nat) (pos : String) (aft : Array Edge) (t0 t1 t2 k0 k1 k2 j0 j1 j2 : Nat) : (k0 < 9 ∧ k1 < 9 ∧ k2 < 9) → Dep aft j0 t0 → Dep aft j1 t1 → Dep aft j2 t2 → kd j0 = .ld k0 → kd j1 = .ld k1 → kd j2 = .ld k2 → Form (.bd false k0 k1 k2) ⟨some d, .buildSlice 75 3 #[(0, .tmp t0), (1, .tmp t1), (2, .tmp t2)], ty, pos, aft, none⟩
  | bdn (d ty : Nat) (pos : String) (aft : Array Edge) (t0 t1 t2 k0 k1 k2 j0 j1 j2 : Nat) : (k0 < 9 ∧ k1 < 9 ∧ k2 < 9) → Dep aft j0 t0 → Dep aft j1 t1 → Dep aft j2 t2 → kd j0 = .ng k0 → kd j1 = .ld k1 → kd j2 = .ld k2 → Form (.bd true k0 k1 k2) ⟨some d, .buildSlice 75 3 #[(0, .tmp t0), (1, .tmp t1), (2, .tmp t2)], ty, pos, aft, none⟩
  | al (d ty : Nat) (pos : String) (aft : Array Edge) (t0 t1 t2 t3 t4 t5 j0 j1 j2 j3 j4 j5 : Nat) : Dep aft j0 t0 → Dep aft j1 t1 → Dep aft j2 t2 → Dep aft j3 t3 → Dep aft j4 t4 → Dep aft j5 t5 → kd j0 = .bd false 0 4 8 → kd j1 = .bd false 1 5 6 → kd j2 = .bd false 2 3 7 → kd j3 = .bd true 2 4 6 → kd j4 = .bd true 0 5 7 → kd j5 = .bd true 1 3 8 → Form .al ⟨some d, .buildSlice 120 6 #[(0, .tmp t0), (1, .tmp t1), (2, .tmp t2), (3, .tmp t3), (4, .tmp t4), (5, .tmp t5)], ty, pos, aft, none⟩
  | sm (d ty : Nat) (pos : String) (aft : Array Edge) (t j : Nat) : Dep aft j t → kd j = .al → Form .sm ⟨some d, .call { callee := .value (.func 40), args := #[.tmp t], argTypes := #[120] }, ty, pos, aft, none⟩
  | nr (d ty : Nat) (pos : String) (aft : Array Edge) (t j : Nat) : Dep aft j t → kd j = .sm → Form .nr ⟨some d, .call { callee := .value (.func 39), args := #[.tmp t], argTypes := #[29] }, ty, pos, aft, none⟩

theorem form_of {i : Nat} {o1 o : Oper} {k : Kd} (h1 : detOps[i]? = some o1) (hd : o1.dst = some (13 + i)) (hf : Form k o1) (h : detOps[i]? = some o) : Form k o ∧ o.dst = some (13 + i) := by
  rw [h1] at h
  cases h
  exact ⟨hf, hd⟩

set_option maxRecDepth 100000 in
set_option maxHeartbeats 4000000 in
theorem det_form : ∀ i o, i < 66 → detOps[i]? = some o → Form (kd i) o ∧ o.dst = some (13 + i)
  | 0, _, _, h => form_of (k := .mv) rfl rfl (.mv _ _ _ _) h
  | 1, _, _, h => form_of (k := .ix 0) rfl rfl (.ix _ _ _ _ _ 0 0 (by decide) ⟨0, _, _, rfl, rfl, rfl, rfl, rfl⟩ rfl) h
  | 2, _, _, h => form_of (k := .ld 0) rfl rfl (.ld _ _ _ _ _ 0 1 (by decide) ⟨0, _, _, rfl, rfl, rfl, rfl, rfl⟩ rfl) h
  | 3, _, _, h => form_of (k := .mv) rfl rfl (.mv _ _ _ _) h
  | 4, _, _, h => form_of (k := .ix 4) rfl rfl (.ix _ _ _ _ _ 4 3 (by decide) ⟨0, _, _, rfl, rfl, rfl, rfl, rfl⟩ rfl) h
  | 5, _, _, h => form_of (k := .ld 4) rfl rfl (.ld _ _ _ _ _ 4 4 (by decide) ⟨0, _, _, rfl, rfl, rfl, rfl, rfl⟩ rfl) h
  | 6, _, _, h => form_of (k := .mv) rfl rfl (.mv _ _ _ _) h
  | 7, _, _, h => form_of (k := .ix 8) rfl rfl (.ix _ _ _ _ _ 8 6 (by decide) ⟨0, _, _, rfl, rfl, rfl, rfl, rfl⟩ rfl) h
  | 8, _, _, h => form_of (k := .ld 8) rfl rfl (.ld _ _ _ _ _ 8 7 (by decide) ⟨0, _, _, rfl, rfl, rfl, rfl, rfl⟩ rfl) h
  | 9, _, _, h => form_of (k := .bd false 0 4 8) rfl rfl (.bdp _ _ _ _ _ _ _ 0 4 8 2 5 8 (by decide) ⟨0, _, _, rfl, rfl, rfl, rfl, rfl⟩ ⟨1, _, _, rfl, rfl, rfl, rfl, rfl⟩ ⟨2, _, _, rfl, rfl, rfl, rfl, rfl⟩ rfl rfl rfl) h
  | 10, _, _, h => form_of (k := .mv) rfl rfl (.mv _ _ _ _) h
  | 11, _, _, h => form_of (k := .ix 1) rfl rfl (.ix _ _ _ _ _ 1 10 (by decide) ⟨0, _, _, rfl, rfl, rfl, rfl, rfl⟩ rfl) h
  | 12, _, _, h => form_of (k := .ld 1) rfl rfl (.ld _ _ _ _ _ 1 11 (by decide) ⟨0, _, _, rfl, rfl, rfl, rfl, rfl⟩ rfl) h
  | 13, _, _, h => form_of (k := .mv) rfl rfl (.mv _ _ _ _) h
  | 14, _, _, h => form_of (k := .ix 5) rfl rfl (.ix _ _ _ _ _ 5 13 (by decide) ⟨0, _, _, rfl, rfl, rfl, rfl, rfl⟩ rfl) h
  | 15, _, _, h => form_of (k := .ld 5) rfl rfl (.ld _ _ _ _ _ 5 14 (by decide) ⟨0, _, _, rfl, rfl, rfl, rfl, rfl⟩ rfl) h
  | 16, _, _, h => form_of (k := .mv) rfl rfl (.mv _ _ _ _) h
  | 17, _, _, h => form_of (k := .ix 6) rfl rfl (.ix _ _ _ _ _ 6 16 (by decide) ⟨0, _, _, rfl, rfl, rfl, rfl, rfl⟩ rfl) h
  | 18, _, _, h => form_of (k := .ld 6) rfl rfl (.ld _ _ _ _ _ 6 17 (by decide) ⟨0, _, _, rfl, rfl, rfl, rfl, rfl⟩ rfl) h
  | 19, _, _, h => form_of (k := .bd false 1 5 6) rfl rfl (.bdp _ _ _ _ _ _ _ 1 5 6 12 15 18 (by decide) ⟨0, _, _, rfl, rfl, rfl, rfl, rfl⟩ ⟨1, _, _, rfl, rfl, rfl, rfl, rfl⟩ ⟨2, _, _, rfl, rfl, rfl, rfl, rfl⟩ rfl rfl rfl) h
  | 20, _, _, h => form_of (k := .mv) rfl rfl (.mv _ _ _ _) h
  | 21, _, _, h => form_of (k := .ix 2) rfl rfl (.ix _ _ _ _ _ 2 20 (by decide) ⟨0, _, _, rfl, rfl, rfl, rfl, rfl⟩ rfl) h
  | 22, _, _, h => form_of (k := .ld 2) rfl rfl (.ld _ _ _ _ _ 2 21 (by decide) ⟨0, _, _, rfl, rfl, rfl, rfl, rfl⟩ rfl) h
  | 23, _, _, h => form_of (k := .mv) rfl rfl (.mv _ _ _ _) h
  | 24, _, _, h => form_of (k := .ix 3) rfl rfl (.ix _ _ _ _ _ 3 23 (by decide) ⟨0, _, _, rfl, rfl, rfl, rfl, rfl⟩ rfl) h
  | 25, _, _, h => form_of (k := .ld 3) rfl rfl (.ld _ _ _ _ _ 3 24 (by decide) ⟨0, _, _, rfl, rfl, rfl, rfl, rfl⟩ rfl) h
  | 26, _, _, h => form_of (k := .mv) rfl rfl (.mv _ _ _ _) h
  | 27, _, _, h => form_of (k := .ix 7) rfl rfl (.ix _ _ _ _ _ 7 26 (by decide) ⟨0, _, _, rfl, rfl, rfl, rfl, rfl⟩ rfl) h
  | 28, _, _, h => form_of (k := .ld 7) rfl rfl (.ld _ _ _ _ _ 7 27 (by decide) ⟨0, _, _, rfl, rfl, rfl, rfl, rfl⟩ rfl) h
  | 29, _, _, h => form_of (k := .bd false 2 3 7) rfl rfl (.bdp _ _ _ _ _ _ _ 2 3 7 22 25 28 (by decide) ⟨0, _, _, rfl, rfl, rfl, rfl, rfl⟩ ⟨1, _, _, rfl, rfl, rfl, rfl, rfl⟩ ⟨2, _, _, rfl, rfl, rfl, rfl, rfl⟩ rfl rfl rfl) h
  | 30, _, _, h => form_of (k := .mv) rfl rfl (.mv _ _ _ _) h
  | 31, _, _, h => form_of (k := .ix 2) rfl rfl (.ix _ _ _ _ _ 2 30 (by decide) ⟨0, _, _, rfl, rfl, rfl, rfl, rfl⟩ rfl) h
  | 32, _, _, h => form_of (k := .ld 2) rfl rfl (.ld _ _ _ _ _ 2 31 (by decide) ⟨0, _, _, rfl, rfl, rfl, rfl, rfl⟩ rfl) h
  | 33, _, _, h => form_of (k := .ng 2) rfl rfl (.ng _ _ _ _ _ 2 32 ⟨0, _, _, rfl, rfl, rfl, rfl, rfl⟩ rfl) h
  | 34, _, _, h => form_of (k := .mv) rfl rfl (.mv _ _ _ _) h
  | 35, _, _, h => form_of (k := .ix 4) rfl rfl (.ix _ _ _ _ _ 4 34 (by decide) ⟨0, _, _, rfl, rfl, rfl, rfl, rfl⟩ rfl) h
  | 36, _, _, h => form_of (k := .ld 4) rfl rfl (.ld _ _ _ _ _ 4 35 (by decide) ⟨0, _, _, rfl, rfl, rfl, rfl, rfl⟩ rfl) h
  | 37, _, _, h => form_of (k := .mv) rfl rfl (.mv _ _ _ _) h
  | 38, _, _, h => form_of (k := .ix 6) rfl rfl (.ix _ _ _ _ _ 6 37 (by decide) ⟨0, _, _, rfl, rfl, rfl, rfl, rfl⟩ rfl) h
  | 39, _, _, h => form_of (k := .ld 6) rfl rfl (.ld _ _ _ _ _ 6 38 (by decide) ⟨0, _, _, rfl, rfl, rfl, rfl, rfl⟩ rfl) h
  | 40, _, _, h => form_of (k := .bd true 2 4 6) rfl rfl (.bdn _ _ _ _ _ _ _ 2 4 6 33 36 39 (by decide) ⟨0, _, _, rfl, rfl, rfl, rfl, rfl⟩ ⟨1, _, _, rfl, rfl, rfl, rfl, rfl⟩ ⟨2, _, _, rfl, rfl, rfl, rfl, rfl⟩ rfl rfl rfl) h
  | 41, _, _, h => form_of (k := .mv) rfl rfl (.mv _ _ _ _) h
  | 42, _, _, h => form_of (k := .ix 0) rfl rfl (.ix _ _ _ _ _ 0 41 (by decide) ⟨0, _, _, rfl, rfl, rfl, rfl, rfl⟩ rfl) h
  | 43, _, _, h => form_of (k := .ld 0) rfl rfl (.ld _ _ _ _ _ 0 42 (by decide) ⟨0, _, _, rfl, rfl, rfl, rfl, rfl⟩ rfl) h
  | 44, _, _, h => form_of (k := .ng 0) rfl rfl (.ng _ _ _ _ _ 0 43 ⟨0, _, _, rfl, rfl, rfl, rfl, rfl⟩ rfl) h
  | 45, _, _, h => form_of (k := .mv) rfl rfl (.mv _ _ _ _) h
  | 46, _, _, h => form_of (k := .ix 5) rfl rfl (.ix _ _ _ _ _ 5 45 (by decide) ⟨0, _, _, rfl, rfl, rfl, rfl, rfl⟩ rfl) h
  | 47, _, _, h => form_of (k := .ld 5) rfl rfl (.ld _ _ _ _ _ 5 46 (by decide) ⟨0, _, _, rfl, rfl, rfl, rfl, rfl⟩ rfl) h
  | 48, _, _, h => form_of (k := .mv) rfl rfl (.mv _ _ _ _) h
  | 49, _, _, h => form_of (k := .ix 7) rfl rfl (.ix _ _ _ _ _ 7 48 (by decide) ⟨0, _, _, rfl, rfl, rfl, rfl, rfl⟩ rfl) h
  | 50, _, _, h => form_of (k := .ld 7) rfl rfl (.ld _ _ _ _ _ 7 49 (by decide) ⟨0, _, _, rfl, rfl, rfl, rfl, rfl⟩ rfl) h
  | 51, _, _, h => form_of (k := .bd true 0 5 7) rfl rfl (.bdn _ _ _ _ _ _ _ 0 5 7 44 47 50 (by decide) ⟨0, _, _, rfl, rfl, rfl, rfl, rfl⟩ ⟨1, _, _, rfl, rfl, rfl, rfl, rfl⟩ ⟨2, _, _, rfl, rfl, rfl, rfl, rfl⟩ rfl rfl rfl) h
  | 52, _, _, h => form_of (k := .mv) rfl rfl (.mv _ _ _ _) h
  | 53, _, _, h => form_of (k := .ix 1) rfl rfl (.ix _ _ _ _ _ 1 52 (by decide) ⟨0, _, _, rfl, rfl, rfl, rfl, rfl⟩ rfl) h
  | 54, _, _, h => form_of (k := .ld 1) rfl rfl (.ld _ _ _ _ _ 1 53 (by decide) ⟨0, _, _, rfl, rfl, rfl, rfl, rfl⟩ rfl) h
  | 55, _, _, h => form_of (k := .ng 1) rfl rfl (.ng _ _ _ _ _ 1 54 ⟨0, _, _, rfl, rfl, rfl, rfl, rfl⟩ rfl) h
  | 56, _, _, h => form_of (k := .mv) rfl rfl (.mv _ _ _ _) h
  | 57, _, _, h => form_of (k := .ix 3) rfl rfl (.ix _ _ _ _ _ 3 56 (by decide) ⟨0, _, _, rfl, rfl, rfl, rfl, rfl⟩ rfl) h
  | 58, _, _, h => form_of (k := .ld 3) rfl rfl (.ld _ _ _ _ _ 3 57 (by decide) ⟨0, _, _, rfl, rfl, rfl, rfl, rfl⟩ rfl) h
  | 59, _, _, h => form_of (k := .mv) rfl rfl (.mv _ _ _ _) h
  | 60, _, _, h => form_of (k := .ix 8) rfl rfl (.ix _ _ _ _ _ 8 59 (by decide) ⟨0, _, _, rfl, rfl, rfl, rfl, rfl⟩ rfl) h
  | 61, _, _, h => form_of (k := .ld 8) rfl rfl (.ld _ _ _ _ _ 8 60 (by decide) ⟨0, _, _, rfl, rfl, rfl, rfl, rfl⟩ rfl) h
  | 62, _, _, h => form_of (k := .bd true 1 3 8) rfl rfl (.bdn _ _ _ _ _ _ _ 1 3 8 55 58 61 (by decide) ⟨0, _, _, rfl, rfl, rfl, rfl, rfl⟩ ⟨1, _, _, rfl, rfl, rfl, rfl, rfl⟩ ⟨2, _, _, rfl, rfl, rfl, rfl, rfl⟩ rfl rfl rfl) h
  | 63, _, _, h => form_of (k := .al) rfl rfl (.al _ _ _ _ _ _ _ _ _ _ 9 19 29 40 51 62 ⟨0, _, _, rfl, rfl, rfl, rfl, rfl⟩ ⟨1, _, _, rfl, rfl, rfl, rfl, rfl⟩ ⟨2, _, _, rfl, rfl, rfl, rfl, rfl⟩ ⟨3, _, _, rfl, rfl, rfl, rfl, rfl⟩ ⟨4, _, _, rfl, rfl, rfl, rfl, rfl⟩ ⟨5, _, _, rfl, rfl, rfl, rfl, rfl⟩ rfl rfl rfl rfl rfl rfl) h
  | 64, _, _, h => form_of (k := .sm) rfl rfl (.sm _ _ _ _ _ 63 ⟨0, _, _, rfl, rfl, rfl, rfl, rfl⟩ rfl) h
  | 65, _, _, h => form_of (k := .nr) rfl rfl (.nr _ _ _ _ _ 64 ⟨0, _, _, rfl, rfl, rfl, rfl, rfl⟩ rfl) h
  | n + 66, _, h, _ => absurd h (by omega)

end Go.Proofs.YtladfpljnaippabDoor

/-
  The model's determinant is the program's: plain mathematics.
-/
namespace Go.Proofs.YtladfpljnaippabDoor
open Go.RowKit

theorem norm3_at {K x0 E0 m0 e0 x1 E1 m1 e1 x2 E2 m2 e2 : Int} {T0 T1 T2 : Nat} (h0 : NormOf x0 E0 m0 e0 T0) (h1 : NormOf x1 E1 m1 e1 T1) (h2 : NormOf x2 E2 m2 e2 T2) (hK : 0 ≤ E0 + E1 + E2 + K) :
    atK K (m0 * m1 * m2) (e0 + e1 + e2) = atK K (x0 * x1 * x2) (E0 + E1 + E2) := by
  unfold atK
  rcases h0 with ⟨a1, a2, _⟩ | ⟨_, t0, a2, a3, _⟩
  · rw [a1, a2]; simp
  · rcases h1 with ⟨b1, b2, _⟩ | ⟨_, t1, b2, b3, _⟩
    · rw [b1, b2]; simp
    · rcases h2 with ⟨c1, c2, _⟩ | ⟨_, t2, c2, c3, _⟩
      · rw [c1, c2]; simp
      · rw [a2, b2, c2, a3, b3, c3, show (E0 + ↑t0 + (E1 + ↑t1) + (E2 + ↑t2) + K).toNat = t0 + (t1 + (t2 + (E0 + E1 + E2 + K).toNat)) by omega, Int.pow_add, Int.pow_add, Int.pow_add]
        simp only [Int.mul_assoc, Int.mul_left_comm]

theorem dv_neg_num (d : DV) : sg d.neg.g (val 4294967296 d.neg.zs) = - sg d.g (val 4294967296 d.zs) := by
  unfold DV.neg
  cases hz : d.zs with
  | nil => cases d.g <;> simp [sg, val]
  | cons z zs => cases d.g <;> simp [sg]

/-- ls holds the numbers of ds in their normal form. -/
def NormsOf (ds : List DV) (ls : List LV) (n : Nat) : Prop := ∀ i, i < n → ∃ T, NormOf (sg (ds.getD i default).g (val 4294967296 (ds.getD i default).zs)) (ds.getD i default).E (ls.getD i default).m (ls.getD i default).e T

theorem tri_pos {ds : List DV} {k0 k1 k2 : Nat} : prodM (tri ds false k0 k1 k2) = sg (ds.getD k0 default).g (val 4294967296 (ds.getD k0 default).zs) * sg (ds.getD k1 default).g (val 4294967296 (ds.getD k1 default).zs) * sg (ds.getD k2 default).g (val 4294967296 (ds.getD k2 default).zs) ∧ sumE (tri ds false k0 k1 k2) = (ds.getD k0 default).E + (ds.getD k1 default).E + (ds.getD k2 default).E := by
  refine ⟨?_, ?_⟩
  · simp only [prodM, tri, List.map_cons, List.map_nil, List.foldl_cons, List.foldl_nil, Int.one_mul]
    rfl
  · simp only [sumE, tri, List.map_cons, List.map_nil, List.foldl_cons, List.foldl_nil, Int.zero_add]
    rfl

theorem tri_neg {ds : List DV} {k0 k1 k2 : Nat} : prodM (tri ds true k0 k1 k2) = -(sg (ds.getD k0 default).g (val 4294967296 (ds.getD k0 default).zs) * sg (ds.getD k1 default).g (val 4294967296 (ds.getD k1 default).zs) * sg (ds.getD k2 default).g (val 4294967296 (ds.getD k2 default).zs)) ∧ sumE (tri ds true k0 k1 k2) = (ds.getD k0 default).E + (ds.getD k1 default).E + (ds.getD k2 default).E := by
  refine ⟨?_, ?_⟩
  · simp only [prodM, tri, List.map_cons, List.map_nil, List.foldl_cons, List.foldl_nil, Int.one_mul, if_true, dv_neg_num, Int.neg_mul]
  · simp only [sumE, tri, List.map_cons, List.map_nil, List.foldl_cons, List.foldl_nil, Int.zero_add, if_true]
    rfl

theorem det_same {ds : List DV} {ls : List LV} (hn : NormsOf ds ls 9) (hE : ∀ i, i < 9 → -20000 ≤ (ds.getD i default).E) : detV 100000 ls 6 = detK 100000 ds := by
  have key : ∀ k0 k1 k2, k0 < 9 → k1 < 9 → k2 < 9 →
      atK 100000 ((ls.getD k0 default).m * (ls.getD k1 default).m * (ls.getD k2 default).m) ((ls.getD k0 default).e + (ls.getD k1 default).e + (ls.getD k2 default).e)
      = atK 100000 (sg (ds.getD k0 default).g (val 4294967296 (ds.getD k0 default).zs) * sg (ds.getD k1 default).g (val 4294967296 (ds.getD k1 default).zs) * sg (ds.getD k2 default).g (val 4294967296 (ds.getD k2 default).zs)) ((ds.getD k0 default).E + (ds.getD k1 default).E + (ds.getD k2 default).E) := by
    intro k0 k1 k2 l0 l1 l2
    obtain ⟨T0, h0⟩ := hn k0 l0
    obtain ⟨T1, h1⟩ := hn k1 l1
    obtain ⟨T2, h2⟩ := hn k2 l2
    have q0 := hE k0 l0
    have q1 := hE k1 l1
    have q2 := hE k2 l2
    exact norm3_at h0 h1 h2 (by omega)
  have w0 : wayV 100000 ls 0 = atK 100000 (prodM (tri ds false 0 4 8)) (sumE (tri ds false 0 4 8)) := by
    rw [tri_pos.1, tri_pos.2, ← key 0 4 8 (by decide) (by decide) (by decide)]
    exact Int.one_mul _
  have w1 : wayV 100000 ls 1 = atK 100000 (prodM (tri ds false 1 5 6)) (sumE (tri ds false 1 5 6)) := by
    rw [tri_pos.1, tri_pos.2, ← key 1 5 6 (by decide) (by decide) (by decide)]
    exact Int.one_mul _
  have w2 : wayV 100000 ls 2 = atK 100000 (prodM (tri ds false 2 3 7)) (sumE (tri ds false 2 3 7)) := by
    rw [tri_pos.1, tri_pos.2, ← key 2 3 7 (by decide) (by decide) (by decide)]
    exact Int.one_mul _
  have w3 : wayV 100000 ls 3 = atK 100000 (prodM (tri ds true 2 4 6)) (sumE (tri ds true 2 4 6)) := by
    rw [tri_neg.1, tri_neg.2, atK_neg, ← key 2 4 6 (by decide) (by decide) (by decide)]
    exact Int.neg_one_mul _
  have w4 : wayV 100000 ls 4 = atK 100000 (prodM (tri ds true 1 3 8)) (sumE (tri ds true 1 3 8)) := by
    rw [tri_neg.1, tri_neg.2, atK_neg, ← key 1 3 8 (by decide) (by decide) (by decide)]
    exact Int.neg_one_mul _
  have w5 : wayV 100000 ls 5 = atK 100000 (prodM (tri ds true 0 5 7)) (sumE (tri ds true 0 5 7)) := by
    rw [tri_neg.1, tri_neg.2, atK_neg, ← key 0 5 7 (by decide) (by decide) (by decide)]
    exact Int.neg_one_mul _
  show 0 + wayV 100000 ls 0 + wayV 100000 ls 1 + wayV 100000 ls 2 + wayV 100000 ls 3 + wayV 100000 ls 4 + wayV 100000 ls 5 = _
  rw [w0, w1, w2, w3, w4, w5]
  simp only [detK, sumK, sixT, List.map_cons, List.map_nil, List.foldl_cons, List.foldl_nil]
  omega

end Go.Proofs.YtladfpljnaippabDoor

/-
  Plain mathematics: what a function of Dyadics answers with CodeOK.
-/
namespace Go.Proofs.YtladfpljnaippabDoor

/-- What a function answers with CodeOK. -/
theorem ResD.good {ok : Bool} {v : Int} {G : Bool} {Z : List Int} {E : Int} (h : ResD ok v G Z E 0) : ok = true ∧ validD G Z E = true ∧ atK 100000 (sg G (val 4294967296 Z)) E = v ∧ -20000 ≤ E := by
  rcases h with ⟨_, _, _, _, h⟩ | ⟨h0, m, e, hN, hc⟩
  · cases h
  · rcases hc with ⟨⟨h1, h2, h3⟩, hB, hE, _⟩ | ⟨_, _, _, _, h⟩
    · subst hE
      refine ⟨h0, ?_, ?_, h2⟩
      · unfold validD
        rw [hB.valid (hB.len h1)]
        simp
        omega
      · rw [hB.sg]
        unfold atK
        rcases hN with ⟨n1, n2, _⟩ | ⟨_, _, _, n4⟩
        · rw [n1, n2]; simp
        · exact n4.symm
    · cases h

end Go.Proofs.YtladfpljnaippabDoor

/-
  Plain mathematics: determinants with rows exchanged, rows as columns, a row multiplied.
-/
namespace Go.Proofs.YtladfpljnaippabDoor

/-- The number of a Dyadic, without its exponent. -/
def numD (d : DV) : Int := sg d.g (val 4294967296 d.zs)
/-- The product of three, in units of 2^-K. -/
def t3 (K : Int) (a b c : DV) : Int := atK K (numD a * numD b * numD c) (a.E + b.E + c.E)

theorem t3_swap (K : Int) (a b c : DV) : t3 K b a c = t3 K a b c := by
  unfold t3
  rw [Int.mul_comm (numD b), Int.add_comm b.E]
theorem t3_last (K : Int) (a b c : DV) : t3 K a c b = t3 K a b c := by
  unfold t3
  rw [Int.mul_assoc, Int.mul_comm (numD c), ← Int.mul_assoc, Int.add_assoc, Int.add_comm c.E, ← Int.add_assoc]

theorem detK_nine (K : Int) (a b c d e f g h i : DV) : detK K [a, b, c, d, e, f, g, h, i] = t3 K a e i + t3 K b f g + t3 K c d h - t3 K c e g - t3 K a f h - t3 K b d i := by
  unfold detK sumK sixT
  simp only [List.map_cons, List.map_nil, List.foldl_cons, List.foldl_nil, tri_pos.1, tri_pos.2, tri_neg.1, tri_neg.2, atK_neg]
  unfold t3 numD
  simp only [List.getD_cons_zero, List.getD_cons_succ]
  omega

theorem detK_swap (K : Int) (a b c d e f g h i : DV) : detK K [d, e, f, a, b, c, g, h, i] = - detK K [a, b, c, d, e, f, g, h, i] := by
  rw [detK_nine, detK_nine, t3_swap K b d i, t3_swap K c e g, t3_swap K a f h, t3_swap K b f g, t3_swap K c d h, t3_swap K a e i]
  omega

theorem detK_turn (K : Int) (a b c d e f g h i : DV) : detK K [a, d, g, b, e, h, c, f, i] = detK K [a, b, c, d, e, f, g, h, i] := by
  rw [detK_nine, detK_nine]
  have e1 : t3 K d h c = t3 K c d h := by rw [t3_last K d c h, t3_swap K c d h]
  have e2 : t3 K g b f = t3 K b f g := by rw [t3_swap K b g f, t3_last K b f g]
  have e3 : t3 K g e c = t3 K c e g := by rw [t3_swap K e g c, t3_last K e c g, t3_swap K c e g]
  have e4 : t3 K a h f = t3 K a f h := t3_last K a f h
  have e5 : t3 K d b i = t3 K b d i := t3_swap K b d i
  rw [e1, e2, e3, e4, e5]
  omega

theorem atK_up {K m e : Int} (n : Nat) (h : 0 ≤ e + K) : atK (K + n) m e = atK K m e * 2 ^ n := by
  unfold atK
  rw [show (e + (K + (n : Int))).toNat = (e + K).toNat + n by omega, Int.pow_add, Int.mul_assoc]

/-- The value of a Dyadic in units of 2^-20000. -/
def vD (d : DV) : Int := atK 20000 (numD d) d.E

theorem atK_mul {K K' m e m' e' : Int} (h : 0 ≤ e + K) (h' : 0 ≤ e' + K') : atK (K + K') (m * m') (e + e') = atK K m e * atK K' m' e' := by
  unfold atK
  rw [show (e + e' + (K + K')).toNat = (e + K).toNat + (e' + K').toNat by omega, Int.pow_add]
  simp only [Int.mul_assoc, Int.mul_left_comm]

def LowE (d : DV) : Prop := -20000 ≤ d.E

theorem t3_val {a b c : DV} (ha : LowE a) (hb : LowE b) (hc : LowE c) {p : Nat} (hp : p = 40000) : t3 100000 a b c = vD a * vD b * vD c * 2 ^ p := by
  unfold LowE at ha hb hc
  have h1 : t3 60000 a b c = vD a * vD b * vD c := by
    unfold t3 vD
    rw [show (60000 : Int) = 40000 + 20000 from rfl, atK_mul (by omega) (by omega), show (40000 : Int) = 20000 + 20000 from rfl, atK_mul (by omega) (by omega)]
  have h2 : t3 (60000 + (p : Int)) a b c = t3 60000 a b c * 2 ^ p := by
    unfold t3
    exact atK_up p (by omega)
  rw [← h1, ← h2, hp]
  rfl

/-- The first row is multiplied by k (place by place, in units): so is the determinant. -/
theorem detK_scale {a b c d e f g h i x y z k : DV} {q : Nat} (la : LowE a) (lb : LowE b) (lc : LowE c) (ld : LowE d) (le : LowE e) (lf : LowE f) (lg : LowE g) (lh : LowE h) (li : LowE i) (lx : LowE x) (ly : LowE y) (lz : LowE z)
    (hx : vD x * 2 ^ q = vD a * vD k) (hy : vD y * 2 ^ q = vD b * vD k) (hz : vD z * 2 ^ q = vD c * vD k) :
    detK 100000 [x, y, z, d, e, f, g, h, i] * 2 ^ q = detK 100000 [a, b, c, d, e, f, g, h, i] * vD k := by
  obtain ⟨p, hp⟩ : ∃ p : Nat, p = 40000 := ⟨_, rfl⟩
  have sc : ∀ {u v s t : DV}, vD u * 2 ^ q = vD v * vD k → vD u * vD s * vD t * 2 ^ p * 2 ^ q = vD v * vD s * vD t * 2 ^ p * vD k := by
    intro u v s t h
    have e1 : vD u * vD s * vD t * 2 ^ p * 2 ^ q = (vD u * 2 ^ q) * (vD s * vD t * 2 ^ p) := by simp only [Int.mul_assoc, Int.mul_left_comm, Int.mul_comm]
    have e2 : vD v * vD s * vD t * 2 ^ p * vD k = (vD v * vD k) * (vD s * vD t * 2 ^ p) := by simp only [Int.mul_assoc, Int.mul_left_comm, Int.mul_comm]
    rw [e1, e2, h]
  rw [detK_nine, detK_nine, t3_val lx le li hp, t3_val ly lf lg hp, t3_val lz ld lh hp, t3_val lz le lg hp, t3_val lx lf lh hp, t3_val ly ld li hp, t3_val la le li hp, t3_val lb lf lg hp, t3_val lc ld lh hp, t3_val lc le lg hp, t3_val la lf lh hp, t3_val lb ld li hp]
  simp only [Int.add_mul, Int.sub_mul]
  rw [sc hx, sc hy, sc hz, sc hz, sc hx, sc hy]

theorem Norm.neg {v m e : Int} (h : Norm v m e) : Norm (-v) (-m) e := by
  rcases h with ⟨h1, h2, h3⟩ | ⟨h0, h1, h2, h3⟩
  · exact .inl ⟨by omega, by omega, h3⟩
  · exact .inr ⟨by omega, by omega, h2, by rw [h3, Int.neg_mul]⟩

/-- The negative number: the same digits, the other sign. -/
theorem ResD.turn {v : Int} {G G' : Bool} {Z Z' : List Int} {E E' K' : Int} (h : ResD true v G Z E 0) (h' : ResD true (-v) G' Z' E' K') : K' = 0 ∧ E' = E ∧ Z' = Z ∧ (Z ≠ [] → G' = !G) := by
  rcases h with ⟨_, _, _, _, h⟩ | ⟨_, m, e, hN, hc⟩
  · cases h
  · rcases hc with ⟨hf, hB, hE, _⟩ | ⟨_, _, _, _, h⟩
    · have hBn : B1 (!G && decide (0 < Z.length)) Z (-m) := by
        have h5 := hB.neg
        exact h5
      have hR : ResD true (-v) (!G && decide (0 < Z.length)) Z E 0 := .inr ⟨rfl, -m, e, hN.neg, .inl ⟨⟨⟨by have := hf.1.2; omega, by have := hf.1.1; omega⟩, hf.2⟩, hBn, hE, rfl⟩⟩
      obtain ⟨e1, e2, e3, e4⟩ := h'.inj hR
      refine ⟨e4, e3, e2, fun hz => ?_⟩
      rw [e1]
      have : 0 < Z.length := List.length_pos_iff.2 hz
      simp [this]
    · cases h

theorem pow2_ne (n : Nat) : (2 : Int) ^ n ≠ 0 := Int.ne_of_gt (Int.pow_pos (by decide))

theorem vD_up {d : DV} (h : LowE d) {p q : Nat} (hp : p = 60000) (hq : q = 20000) : atK 100000 (numD d) d.E = vD d * 2 ^ q * 2 ^ p := by
  unfold LowE at h
  have h1 := atK_up (K := 20000) (m := numD d) (e := d.E) (q + p) (by omega)
  rw [Int.pow_add, ← Int.mul_assoc] at h1
  unfold vD
  rw [← h1, hp, hq]
  rfl

theorem vD_prod {a k : DV} (ha : LowE a) (hk : LowE k) {p : Nat} (hp : p = 60000) : atK 100000 (numD a * numD k) (a.E + k.E) = vD a * vD k * 2 ^ p := by
  unfold LowE at ha hk
  have h1 := atK_mul (K := 20000) (K' := 20000) (m := numD a) (e := a.E) (m' := numD k) (e' := k.E) (by omega) (by omega)
  have h2 := atK_up (K := 20000 + 20000) (m := numD a * numD k) (e := a.E + k.E) p (by omega)
  rw [h1] at h2
  unfold vD
  rw [← h2, hp]
  rfl

/-- A product that was answered. -/
theorem prod_val {a k x : DV} (ha : LowE a) (hk : LowE k) (hx : LowE x) {q : Nat} (hq : q = 20000) (h : atK 100000 (numD x) x.E = atK 100000 (numD a * numD k) (a.E + k.E)) : vD x * 2 ^ q = vD a * vD k := by
  obtain ⟨p, hp⟩ : ∃ p : Nat, p = 60000 := ⟨_, rfl⟩
  rw [vD_up hx hp hq, vD_prod ha hk hp] at h
  exact Int.eq_of_mul_eq_mul_right (pow2_ne p) h

/-- The determinant of the list with its first row multiplied is the product. -/
theorem det_prod {W k : DV} {D C : Int} (hW : LowE W) (hk : LowE k) {q : Nat} (hq : q = 20000) (h1 : atK 100000 (numD W) W.E = D) (h2 : C * 2 ^ q = D * vD k) : atK 100000 (numD W * numD k) (W.E + k.E) = C := by
  obtain ⟨p, hp⟩ : ∃ p : Nat, p = 60000 := ⟨_, rfl⟩
  rw [vD_prod hW hk hp]
  rw [vD_up hW hp hq] at h1
  rw [← h1] at h2
  apply Int.eq_of_mul_eq_mul_right (pow2_ne q)
  rw [h2]
  simp only [Int.mul_assoc, Int.mul_left_comm, Int.mul_comm]

end Go.Proofs.YtladfpljnaippabDoor
