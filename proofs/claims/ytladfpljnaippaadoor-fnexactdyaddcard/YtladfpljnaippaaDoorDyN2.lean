/-
  The program's normal forms.
-/
import Derived.Test.YtladfpljnaippaaDoorImplOneDyI4DyI8pDyN1
import Derived.Test.YtladfpljnaippaaDoorNumNDyO
import Derived.Test.YtladfpljnaippaaDoorImplU
namespace Go.Proofs.YtladfpljnaippaaDoor
open Go.RowKit

/-- What a function of the program answers that gives a Dyadic and a code: in new memory. -/
def OutDI (w : World) (ok : Bool) (v : Int) (e : Ending) (w' : World) : Prop :=
  ∃ (G : Bool) (Z : List Int) (E K : Int) (a : Option Addr) (c : Nat), e = .returned (.tuple #[.agg #[.bool G, .slice a Z.length c, .int .i64 E], .int .i64 K]) ∧ ResD ok v G Z E K ∧ RowNew .u32 w' w.heap.size a Z ∧ Below w.heap.size w w'

theorem nil_b1 : B1 false [] 0 := ⟨⟨Dig.nil _, rfl⟩, by simp [sg, val], fun h => by cases h⟩

set_option maxRecDepth 100000 in
set_option maxHeartbeats 4000000 in
theorem normalI_any (g : Bool) (a : Option Addr) (c : Nat) (zs : List Int) (x E : Int) (w : World) (hn : zs.length ≤ 60000) (he0 : -60000 ≤ E) (he1 : E ≤ 60000) (hz : RowAt .u32 w a zs) (h : B1 g zs x) (hcap : zs.length ≤ c ∧ c ≤ maxLen) (hT : Tab w) :
    Calls Tryd.prog 27 #[.agg #[.bool g, .slice a zs.length c, .int .i64 E]] w fun e w' => OutDI w true (atK 100000 x E) e w' := by
  have B0 : Hid (∀ t t', Bx3 w (.bool g) (.slice a zs.length c) (.int .i64 E) ((w.alloc (.cells #[.bool g, .slice a zs.length c, .int .i64 E] t)).alloc (.cells #[.bool false, .slice none 0 0, .int .i64 0] t'))) := fun t t' => Bx3.start w _ _ _ _ _
  obtain ⟨v, hv⟩ : ∃ v, v = atK 100000 x E := ⟨_, rfl⟩
  have HV : Hid (v = atK 100000 x E) := hv
  rw [← hv]
  clear hv
  by_cases hne : zs = []
  · subst hne
    have hx : x = 0 := by rw [h.num]; cases g <;> simp [sg, val]
    have HO : Hid (ResD true v false [] 0 0) := .inr ⟨rfl, 0, 0, .inl ⟨by rw [HV.out, hx]; simp [atK], rfl, rfl⟩, .inl ⟨⟨nil_b1.fits (by simp), by decide, by decide⟩, nil_b1, rfl, rfl⟩⟩
    clear h hx hz hcap hT
    go_enter Tryd.func27, Tryd.ntmps27
    go_wp2
    refine bodyPost_ret (v := .tuple #[.agg #[.bool false, .slice none 0 0, .int .i64 0], .int .i64 0]) (by simp [results, Tryd.results27, go_sem]) rfl ?_
    refine ⟨false, [], 0, 0, none, 0, rfl, HO.out, .inl rfl, ?_⟩
    exact (B0.out _ _).bel
  · have hlen : ((zs.length : Int) == 0) = false := by
      rw [beq_eq_false_iff_ne]
      have := List.length_pos_iff.2 hne
      omega
    have HB1 : Hid (B1 g zs x) := h
    have HNE : Hid (zs ≠ []) := hne
    have HT : Hid (Tab w) := hT
    clear h hne hT
    go_enter Tryd.func27, Tryd.ntmps27
    go_wp2_with fail
    refine (lowZ_any a c zs _ (by omega) (hz.later (B0.out _ _).bel) HB1.out.can HNE.out (HT.out.later (B0.out _ _).bel)).mono ?_
    rintro e W1 ⟨t, rfl, ht, htw, hb1⟩
    have F1 : Hid (Bx3 w (.bool g) (.slice a zs.length c) (.int .i64 E) W1) := (B0.out _ _).later hb1
    have HN : Hid (Norm (atK 100000 x E) (sg g (val 4294967296 zs / 2 ^ t)) (E + t)) := norm_twos HB1.out HNE.out (by omega) htw
    rw [← HV.out] at HN
    obtain ⟨e', he'⟩ : ∃ e', e' = E + t := ⟨_, rfl⟩
    have hsum : E + (t : Int) = e' := he'.symm
    rw [hsum] at HN
    clear he'
    have q2 := F1.out.q2
    have ht' : (t : Int) ≤ 1920000 := by omega
    clear hb1 htw B0
    by_cases hr : e' < -20000 ∨ 20000 < e'
    · have HO : Hid (ResD true v false [] 0 2) := .inr ⟨rfl, _, _, HN.out, .inr ⟨by omega, rfl, rfl, rfl, rfl⟩⟩
      have r1 := F1.out.r1
      have r2 := F1.out.r2
      have r3 := F1.out.r3
      have r4 := F1.out.r4
      have fin : Hid (∀ W, Below w.heap.size w W → OutDI w true v (.returned (.tuple #[.agg #[.bool false, .slice none 0 0, .int .i64 0], .int .i64 2])) W) := fun W hW => ⟨false, [], 0, 2, none, 0, rfl, HO.out, .inl rfl, hW⟩
      by_cases hr1 : e' < -20000
      · go_wp2
        refine bodyPost_ret (v := .tuple #[.agg #[.bool false, .slice none 0 0, .int .i64 0], .int .i64 2]) (by simp [results, Tryd.results27, go_sem, r1, r2, r3]) rfl ?_
        exact fin.out _ (((F1.out.bel.setCell (by simp) _).setCell (by simp) _).setCell (by simp) _)
      · have hr2 : 20000 < e' := by omega
        go_wp2
        refine bodyPost_ret (v := .tuple #[.agg #[.bool false, .slice none 0 0, .int .i64 0], .int .i64 2]) (by simp [results, Tryd.results27, go_sem, r1, r2, r3]) rfl ?_
        exact fin.out _ (((F1.out.bel.setCell (by simp) _).setCell (by simp) _).setCell (by simp) _)
    · have hr1 : ¬ e' < -20000 := by omega
      have hr2 : ¬ 20000 < e' := by omega
      have htb : (t : Int) ≤ 80000 := by omega
      clear hr
      go_wp2_with fail
      refine (downI_any a c zs (t : Int) _ (by omega) hcap.1 hcap.2 (by omega) (by omega) (hz.later F1.out.bel) HB1.out.can).mono ?_
      rintro e W2 ⟨a2, c2, fs, rfl, hf2, hm2, hcan2, hv2, hl2, hr2', hb2⟩
      have F2 : Hid (Bx3 w (.bool g) (.slice a zs.length c) (.int .i64 E) W2) := F1.out.later hb2
      have HB2 : Hid (B1 (g && decide (0 < fs.length)) fs (sg g (val 4294967296 zs / 2 ^ t))) := B1.of_signed hcan2 (by rw [hv2]; rfl)
      have HR2 : Hid (RowNew .u32 W2 W1.heap.size a2 fs) := hr2'
      have hs1 : w.heap.size + 1 + 1 ≤ W1.heap.size := F1.out.le
      have q0 := F2.out.q0
      clear hb2 hcan2 hv2 hr2' q2
      go_wp2_with fail
      refine (signed_any g a2 fs.length c2 _).mono ?_
      rintro e W3 ⟨rfl, hb3⟩
      have F3 : Hid (Bx3 w (.bool g) (.slice a zs.length c) (.int .i64 E) W3) := F2.out.later hb3
      have HR3 : Hid (RowNew .u32 W3 W1.heap.size a2 fs) := HR2.out.later hb3
      clear hb3 q0
      generalize (g && decide (0 < fs.length)) = G at *
      go_wp2_with fail
      refine (within_any G a2 c2 fs _ W1.heap.size (by omega) HR3.out).mono ?_
      rintro e W4 ⟨a4, c4, rfl, hr4, hb4⟩
      have F4 : Hid (Bx3 w (.bool g) (.slice a zs.length c) (.int .i64 E) W4) := F3.out.later hb4
      have r1 := F4.out.r1
      have r2 := F4.out.r2
      have r3 := F4.out.r3
      have r4 := F4.out.r4
      have hs4 : w.heap.size + 1 < W4.heap.size := F4.out.le
      by_cases h5 : fs.length ≤ 512
      · have HO : Hid (ResD true v G fs e' 0) := .inr ⟨rfl, _, _, HN.out, .inl ⟨⟨HB2.out.fits h5, by omega, by omega⟩, HB2.out, rfl, rfl⟩⟩
        have hlo : limOut G fs = (G, fs, 0) := by unfold limOut; rw [if_pos h5]
        rw [hlo] at hr4 ⊢
        have HR4 : Hid (RowNew .u32 W4 (w.heap.size + 1 + 1) a4 fs) := hr4.down hs1
        clear hlo hr4 hb4
        go_wp2
        refine bodyPost_ret (v := .tuple #[.agg #[.bool G, .slice a4 fs.length c4, .int .i64 e'], .int .i64 0]) (by simp [results, Tryd.results27, go_sem, r1, r2, r3, hs4]) rfl ?_
        have hbl := ((F4.out.bel.setCell (p := ⟨w.heap.size + 1, 0, none⟩) (by simp) (.bool G)).setCell (p := ⟨w.heap.size + 1, 1, none⟩) (by simp) (.slice a4 fs.length c4)).setCell (p := ⟨w.heap.size + 1, 2, none⟩) (by simp) (.int .i64 e')
        refine ⟨G, fs, e', 0, a4, c4, rfl, HO.out, ?_, hbl.alloc hbl.size _⟩
        exact ((((HR4.out.setLow (by simp) _).setLow (by simp) _).setLow (by simp) _).later (bel0 _ _)).down (by omega)
      · have HO : Hid (ResD true v false [] 0 2) := .inr ⟨rfl, _, _, HN.out, .inr ⟨fun h => h5 (HB2.out.len h.1), rfl, rfl, rfl, rfl⟩⟩
        have hlo : limOut G fs = (false, [], 2) := by unfold limOut; rw [if_neg h5]
        rw [hlo] at hr4 ⊢
        clear hlo hr4 hb4
        go_wp2
        refine bodyPost_ret (v := .tuple #[.agg #[.bool false, .slice none 0 0, .int .i64 0], .int .i64 2]) (by simp [results, Tryd.results27, go_sem, r1, r2, r3, hs4]) rfl ?_
        refine ⟨false, [], 0, 2, none, 0, rfl, HO.out, .inl rfl, ?_⟩
        have hb0 := F4.out.bel
        have hbl := ((F4.out.bel.setCell (p := ⟨w.heap.size + 1, 0, none⟩) (by simp) (.bool false)).setCell (p := ⟨w.heap.size + 1, 1, none⟩) (by simp) (.slice none 0 0)).setCell (p := ⟨w.heap.size + 1, 2, none⟩) (by simp) (.int .i64 0)
        first
          | exact hbl.alloc hbl.size _
          | exact hb0.alloc hb0.size _
          | exact hbl
          | exact hb0

end Go.Proofs.YtladfpljnaippaaDoor
