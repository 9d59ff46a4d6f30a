/-
  The program's DyDet: its region, in whatever order.
-/
import Derived.Test.YtladfpljnaippabDoorDyN2DetGDetH
import Derived.Test.YtladfpljnaippabDoorImplC0
import Derived.Test.YtladfpljnaippabDoorNumWToNumM
import Derived.Test.YtladfpljnaippabDoorRes
namespace Go.Proofs.YtladfpljnaippabDoor
open Go.RowKit

theorem DV.fine.neg {d : DV} (h : d.fine) : d.neg.fine := by
  obtain ⟨h1, h2, h3, h4⟩ := h
  refine ⟨h1, h2, h3, ?_⟩
  have h5 := h4.neg
  have h6 := h5.num
  rw [h6] at h5
  exact h5

set_option maxRecDepth 100000 in
set_option maxHeartbeats 1000000 in
theorem det_step (HPR : ProdSays) {b off c : Nat} {ds : List DV} {a0 : Act} {w0 : World} {Q : Exit → Act → World → Prop} (h0 : a0.tmps.getD 0 undef = .slice (some ⟨b, off, none⟩) 9 c) (hd : RowD w0 b off ds) (hlen : ds.length = 9) (hfi : ∀ d, d ∈ ds → d.fine) (hT : Tab w0) :
    ∀ i o, i < 66 → detOps[i]? = some o → ∀ a w, (∀ t, (∀ i o, i < 66 → detOps[i]? = some o → o.dst ≠ some t) → a.tmps.getD t undef = a0.tmps.getD t undef) → Below w0.heap.size w0 w →
      (∀ e ∈ o.after, Region.binds .any e = true → ∀ o' t, detOps[e.on]? = some o' → o'.dst = some t → KF b off c w0.heap.size ds (kd e.on) (a.tmps.getD t undef) w) →
      wpOp Tryd.prog detOps Q i (fun a' w' => Below w.heap.size w w' ∧ ∃ v, a' = a.put o.dst v ∧ KF b off c w0.heap.size ds (kd i) v w') a w := by
  intro i o hi ho a w hold hb hdep
  obtain ⟨hf1, hdst⟩ := det_form i o hi ho
  have ht0 : a.tmps.getD 0 undef = .slice (some ⟨b, off, none⟩) 9 c := by
    rw [hold 0 (fun j o' hj ho' => by
      rw [(det_form j o' hj ho').2]
      intro h
      have := Option.some.inj h
      omega)]
    exact h0
  have got : ∀ j t, Dep o.after j t → KF b off c w0.heap.size ds (kd j) (a.tmps.getD t undef) w := fun j t ⟨q, e, o', h1, h2, h3, h4, h5⟩ => by
    subst h3
    exact hdep e (Array.mem_of_getElem? h1) h2 o' t h4 h5
  have hdl := hd.later hb
  have fin : ∀ k, k < 9 → (ds.getD k default).fine := fun k hk => hfi _ (by rw [List.getD_eq_getElem?_getD, List.getElem?_eq_getElem (by omega)]; exact List.getElem_mem (by omega))
  generalize hk : kd i = k at hf1 ⊢
  cases hf1 with
  | mv d ty pos aft => exact wpOp_plain ho rfl (step_mv d ty pos aft ⟨Below.refl _ _, _, rfl, ht0⟩)
  | ix d ty pos aft t k j h1 h2 h3 =>
    have g := got j t h2
    rw [h3] at g
    exact wpOp_plain ho rfl (step_ix d t ty pos aft b off c k h1 g ⟨Below.refl _ _, _, rfl, rfl⟩)
  | ld d ty pos aft t k j h1 h2 h3 =>
    have g := got j t h2
    rw [h3] at g
    exact wpOp_plain ho rfl (step_ld d t ty pos aft b off k (ds.getD k default) g (hdl.c0 k (by omega)) (hdl.c1 k (by omega)) (hdl.c2 k (by omega)) ⟨Below.refl _ _, _, rfl, rfl⟩)
  | ng d ty pos aft t k j h2 h3 =>
    have g := got j t h2
    rw [h3] at g
    exact wpOp_plain ho rfl (step_ng d t ty pos aft (ds.getD k default) g (fun w' hb' => ⟨hb', _, rfl, rfl⟩))
  | bdp d ty pos aft t0 t1 t2 k0 k1 k2 j0 j1 j2 hk d0 d1 d2 e0 e1 e2 =>
    have g0 := got j0 t0 d0
    have g1 := got j1 t1 d1
    have g2 := got j2 t2 d2
    rw [e0] at g0
    rw [e1] at g1
    rw [e2] at g2
    refine wpOp_plain ho rfl (step_bd d t0 t1 t2 ty pos aft (ds.getD k0 default) (ds.getD k1 default) (ds.getD k2 default) g0 g1 g2 ⟨bel0 _ _, _, rfl, w.heap.size, rfl, ?_⟩)
    exact three_rowD (by simp) (by simp [go_sem]) (by simp [go_sem]) (by simp [go_sem]) (by simp [go_sem]) (by simp [go_sem]) (by simp [go_sem]) (by simp [go_sem]) (by simp [go_sem]) (by simp [go_sem]) ((hdl.row k0 (by omega)).later (bel0 _ _)) ((hdl.row k1 (by omega)).later (bel0 _ _)) ((hdl.row k2 (by omega)).later (bel0 _ _))
  | bdn d ty pos aft t0 t1 t2 k0 k1 k2 j0 j1 j2 hk d0 d1 d2 e0 e1 e2 =>
    have g0 := got j0 t0 d0
    have g1 := got j1 t1 d1
    have g2 := got j2 t2 d2
    rw [e0] at g0
    rw [e1] at g1
    rw [e2] at g2
    refine wpOp_plain ho rfl (step_bd d t0 t1 t2 ty pos aft (ds.getD k0 default).neg (ds.getD k1 default) (ds.getD k2 default) g0 g1 g2 ⟨bel0 _ _, _, rfl, w.heap.size, rfl, ?_⟩)
    exact three_rowD (d := (ds.getD k0 default).neg) (by simp) (by simp [go_sem]) (by simp [go_sem]) (by simp [go_sem]) (by simp [go_sem]) (by simp [go_sem]) (by simp [go_sem]) (by simp [go_sem]) (by simp [go_sem]) (by simp [go_sem]) ((hdl.row k0 (by omega)).later (bel0 _ _)) ((hdl.row k1 (by omega)).later (bel0 _ _)) ((hdl.row k2 (by omega)).later (bel0 _ _))
  | al d ty pos aft t0 t1 t2 t3 t4 t5 j0 j1 j2 j3 j4 j5 d0 d1 d2 d3 d4 d5 e0 e1 e2 e3 e4 e5 =>
    have g0 := got j0 t0 d0
    have g1 := got j1 t1 d1
    have g2 := got j2 t2 d2
    have g3 := got j3 t3 d3
    have g4 := got j4 t4 d4
    have g5 := got j5 t5 d5
    rw [e0] at g0
    rw [e1] at g1
    rw [e2] at g2
    rw [e3] at g3
    rw [e4] at g4
    rw [e5] at g5
    obtain ⟨b0, v0, r0⟩ := g0
    obtain ⟨b1, v1, r1⟩ := g1
    obtain ⟨b2, v2, r2⟩ := g2
    obtain ⟨b3, v3, r3⟩ := g3
    obtain ⟨b4, v4, r4⟩ := g4
    obtain ⟨b5, v5, r5⟩ := g5
    refine wpOp_plain ho rfl (step_al d t0 t1 t2 t3 t4 t5 ty pos aft b0 b1 b2 b3 b4 b5 v0 v1 v2 v3 v4 v5 ⟨bel0 _ _, _, rfl, w.heap.size, b0, b1, b2, b3, b4, b5, rfl, ?_⟩)
    exact six_rowT (by simp) rfl rfl rfl rfl rfl rfl (by simp [go_sem]) (by simp [go_sem]) (by simp [go_sem]) (by simp [go_sem]) (by simp [go_sem]) (by simp [go_sem]) (r0.later (bel0 _ _)) (r1.later (bel0 _ _)) (r2.later (bel0 _ _)) (r3.later (bel0 _ _)) (r4.later (bel0 _ _)) (r5.later (bel0 _ _))
  | sm d ty pos aft t j h2 h3 =>
    have g := got j t h2
    rw [h3] at g
    obtain ⟨b', b0, b1, b2, b3, b4, b5, ev, hr⟩ := g
    refine wpOp_plain ho rfl (step_sm HPR d t ty pos aft b' (sixT ds b0 b1 b2 b3 b4 b5) rfl ?_ hr ev (fun w' G a' c' fs m e h1 h2 h3 h4 h5 h6 h8 => ⟨h8, _, rfl, G, a', c', fs, m, e, rfl, h1, h2, (fun K hK => (h3 K hK).trans (sumK_six K ds b0 b1 b2 b3 b4 b5)), h4, h5, h6⟩))
    have one : ∀ s k0 k1 k2, k0 < 9 → k1 < 9 → k2 < 9 → (tri ds s k0 k1 k2).length ≤ 3 ∧ ∀ d, d ∈ tri ds s k0 k1 k2 → d.fine := by
      intro s k0 k1 k2 l0 l1 l2
      refine ⟨by simp [tri], fun d hd => ?_⟩
      unfold tri at hd
      rcases List.mem_cons.1 hd with rfl | hd
      · cases s
        · exact fin k0 l0
        · exact (fin k0 l0).neg
      rcases List.mem_cons.1 hd with rfl | hd
      · exact fin k1 l1
      rcases List.mem_cons.1 hd with rfl | hd
      · exact fin k2 l2
      · cases hd
    intro t ht
    unfold sixT at ht
    rcases List.mem_cons.1 ht with rfl | ht
    · exact one _ _ _ _ (by decide) (by decide) (by decide)
    rcases List.mem_cons.1 ht with rfl | ht
    · exact one _ _ _ _ (by decide) (by decide) (by decide)
    rcases List.mem_cons.1 ht with rfl | ht
    · exact one _ _ _ _ (by decide) (by decide) (by decide)
    rcases List.mem_cons.1 ht with rfl | ht
    · exact one _ _ _ _ (by decide) (by decide) (by decide)
    rcases List.mem_cons.1 ht with rfl | ht
    · exact one _ _ _ _ (by decide) (by decide) (by decide)
    rcases List.mem_cons.1 ht with rfl | ht
    · exact one _ _ _ _ (by decide) (by decide) (by decide)
    · cases ht
  | nr d ty pos aft t j h2 h3 =>
    have g := got j t h2
    rw [h3] at g
    obtain ⟨G, a1, c1, fs, m, e, ev, h1, hl, hK, h4, h5, h6⟩ := g
    refine wpOp_plain ho rfl (step_nr d t ty pos aft G a1 c1 fs m e (by omega) h4 h5 h6 h1 hl.2 (hT.later hb) ev (fun w' G Z E K' a' c' r1 r2 r3 => ⟨r3, _, rfl, G, Z, E, K', a', c', rfl, ?_, r2.down hb.size⟩))
    rw [← hK 100000 (by decide)]
    exact r1

section
variable {Q : Exit → Act → World → Prop} {K : Act → World → Prop} {a : Act} {w : World}

set_option maxRecDepth 100000 in
set_option maxHeartbeats 2000000 in
theorem step_st (t ty : Nat) (pos : String) (aft : Array Edge) (R : Nat) (G : Bool) (s : Value) (E : Int) (a5 : Option Addr) (n c5 : Nat) (hs : s = .slice a5 n c5) (h : a.tmps.getD 2 undef = .pointer (some ⟨R, 0, none⟩)) (h1 : a.tmps.getD t undef = .agg #[.bool G, s, .int .i64 E]) (x0 x1 x2 : Value)
    (r1 : w.cell? ⟨R, 0, none⟩ = some x0) (r2 : w.cell? ⟨R, 1, none⟩ = some x1) (r3 : w.cell? ⟨R, 2, none⟩ = some x2) (r4 : ∀ j, w.frozen? ⟨R, j, none⟩ = false)
    (hK : K a (((w.setCell ⟨R, 0, none⟩ (.bool G)).setCell ⟨R, 1, none⟩ s).setCell ⟨R, 2, none⟩ (.int .i64 E))) :
    Oper.wp Tryd.prog ⟨none, .store 29 (.tmp 2) (.tmp t), ty, pos, aft, none⟩ a w K Q := by
  subst hs
  have h' : a.tmps[2]?.getD undef = .pointer (some ⟨R, 0, none⟩) := by simpa using h
  have h1' : a.tmps[t]?.getD undef = .agg #[.bool G, .slice a5 n c5, .int .i64 E] := by simpa using h1
  go_simp
  exact hK

end
end Go.Proofs.YtladfpljnaippabDoor

/-
  The program's DyDet.
-/
namespace Go.Proofs.YtladfpljnaippabDoor
open Go.RowKit

theorem listed_is {l : Array Bool} {n m : Nat} (hm : m ≤ n) (hs : l.size = n) (h1 : ∀ i, i < m → l.getD i false = true) (h2 : ∀ i, m ≤ i → i < n → l.getD i true = false) : l = ((List.replicate m true) ++ (List.replicate (n - m) false)).toArray := by
  apply Array.ext'
  show l.toList = _
  apply List.ext_getElem
  · simp [hs]
    omega
  · intro i g1 g2
    have hi : i < l.size := by simpa using g1
    by_cases him : i < m
    · have := h1 i him
      simp only [List.getElem_append_left (show i < (List.replicate m true).length by simpa using him)]
      simpa [hi] using this
    · have := h2 i (by omega) (by omega)
      simp only [List.getElem_append_right (show (List.replicate m true).length ≤ i by simp; omega)]
      simpa [hi] using this

section
variable {Q : Exit → Act → World → Prop}

set_option maxRecDepth 100000 in
set_option maxHeartbeats 2000000 in
theorem det_end {b off c R B : Nat} {ds : List DV} {a0 : Act} {w0 : World} (hQ : ∀ ch (a : Act) d v w, Q (.panic ch) (a.put d v) w → Q (.panic ch) a w) (h2 : a0.tmps.getD 2 undef = .pointer (some ⟨R, 0, none⟩)) (hsz : a0.tmps.size = 81)
    (hR : R < w0.heap.size) (x0 x1 x2 : Value) (r1 : w0.cell? ⟨R, 0, none⟩ = some x0) (r2 : w0.cell? ⟨R, 1, none⟩ = some x1) (r3 : w0.cell? ⟨R, 2, none⟩ = some x2) (r4 : ∀ j, w0.frozen? ⟨R, j, none⟩ = false)
    (hfin : ∀ (a : Act) (W : World) (G : Bool) (Z : List Int) (E K : Int) (a5 : Option Addr) (c5 : Nat), a.tmps.getD 2 undef = .pointer (some ⟨R, 0, none⟩) → a.tmps.getD 3 undef = .int .i64 K → a.tmps.size = 81 → a.defers = a0.defers → ResD true (detK 100000 ds) G Z E K → RowNew .u32 W B a5 Z → Below w0.heap.size w0 W →
      Q .normal a (((W.setCell ⟨R, 0, none⟩ (.bool G)).setCell ⟨R, 1, none⟩ (.slice a5 Z.length c5)).setCell ⟨R, 2, none⟩ (.int .i64 E)))
    (listed : Array Bool) (a : Act) (w : World) (hall : ∀ i, i < 66 → listed.getD i false = true) (hI : Fd .any detOps 66 (fun i => KF b off c B ds (kd i)) a0 w0 listed a w) :
    wpAny Tryd.prog .any detOps Q (detOps.size - 66) listed a w := by
  have hs70 : detOps.size = 70 := by kernel_rfl
  have hl := listed_is (l := listed) (m := 66) (n := 70) (by decide) (by rw [hI.ls, hs70]) hall (fun i g1 g2 => hI.new i g1 (by rw [hs70]; exact g2))
  have hf : detOps.size - 66 = 4 := by rw [hs70]
  rw [hf]
  have g65 := hI.got 65 _ 78 (by decide) rfl rfl (hall 65 (by decide))
  obtain ⟨G, Z, E, K, a5, c5, ev, hres, hrow⟩ := g65
  have t2 : a.tmps.getD 2 undef = .pointer (some ⟨R, 0, none⟩) := by
    rw [hI.old 2 (fun j o' hj ho' => by
      rw [(det_form j o' hj ho').2]
      intro h
      have := Option.some.inj h
      omega)]
    exact h2
  have hsa : a.tmps.size = 81 := by rw [hI.sz, hsz]
  have hdf := hI.df
  have hbel := hI.bel
  clear hI hall hf
  subst hl
  have ev' : a.tmps[78]?.getD undef = .tuple #[.agg #[.bool G, .slice a5 Z.length c5, .int .i64 E], .int .i64 K] := by simpa using ev
  refine wpAny_take (i := 66) (v := .agg #[.bool G, .slice a5 Z.length c5, .int .i64 E]) (oi := detOps[66]) rfl (by kernel_rfl) (by kernel_rfl) (by kernel_rfl) (fun ch a w => hQ ch a _ _ w) (Or.inl ⟨rfl, fun w => ?_⟩) ?_
  · show (execOp a.eval ⟨some 79, .extract (.tmp 78) 0, 29, _, _, none⟩).run Tryd.prog w = _
    simp [go_sem, ev']
  obtain ⟨A1, hA1⟩ : ∃ A1, A1 = a.put (some 79) (.agg #[.bool G, .slice a5 Z.length c5, .int .i64 E]) := ⟨_, rfl⟩
  have q78 : A1.tmps.getD 78 undef = .tuple #[.agg #[.bool G, .slice a5 Z.length c5, .int .i64 E], .int .i64 K] := by rw [hA1, put_getD (by rw [hsa]; decide), if_neg (by decide)]; exact ev
  have q79 : A1.tmps.getD 79 undef = .agg #[.bool G, .slice a5 Z.length c5, .int .i64 E] := by rw [hA1, put_getD (by rw [hsa]; decide), if_pos rfl]
  have q2 : A1.tmps.getD 2 undef = .pointer (some ⟨R, 0, none⟩) := by rw [hA1, put_getD (by rw [hsa]; decide), if_neg (by decide)]; exact t2
  have qs : A1.tmps.size = 81 := by rw [hA1]; simp [Act.put, hsa]
  have qd : A1.defers = a0.defers := by rw [hA1]; exact hdf
  have q78' : A1.tmps[78]?.getD undef = .tuple #[.agg #[.bool G, .slice a5 Z.length c5, .int .i64 E], .int .i64 K] := by simpa using q78
  show wpAny Tryd.prog .any detOps Q 3 _ (a.put (some 79) _) w
  rw [← hA1]
  refine wpAny_take (i := 67) (v := .int .i64 K) (oi := detOps[67]) rfl (by kernel_rfl) (by kernel_rfl) (by kernel_rfl) (fun ch a w => hQ ch a _ _ w) (Or.inl ⟨rfl, fun w => ?_⟩) ?_
  · show (execOp A1.eval ⟨some 80, .extract (.tmp 78) 1, _, _, _, none⟩).run Tryd.prog w = _
    simp [go_sem, q78']
  obtain ⟨A2, hA2⟩ : ∃ A2, A2 = A1.put (some 80) (.int .i64 K) := ⟨_, rfl⟩
  have p80 : A2.tmps.getD 80 undef = .int .i64 K := by rw [hA2, put_getD (by rw [qs]; decide), if_pos rfl]
  have p79 : A2.tmps.getD 79 undef = .agg #[.bool G, .slice a5 Z.length c5, .int .i64 E] := by rw [hA2, put_getD (by rw [qs]; decide), if_neg (by decide)]; exact q79
  have p2 : A2.tmps.getD 2 undef = .pointer (some ⟨R, 0, none⟩) := by rw [hA2, put_getD (by rw [qs]; decide), if_neg (by decide)]; exact q2
  have ps : A2.tmps.size = 81 := by rw [hA2]; simp [Act.put, qs]
  have pd : A2.defers = a0.defers := by rw [hA2]; exact qd
  show wpAny Tryd.prog .any detOps Q 2 _ (A1.put (some 80) _) w
  rw [← hA2]
  refine wpAny_all (rs := [68]) (by kernel_rfl) (by simp) ?_
  intro i hi
  have hi' : i = 68 := by simpa using hi
  subst hi'
  refine wpOp_plain (o := detOps[68]) rfl rfl ?_
  refine step_st 79 _ _ _ R G _ E a5 Z.length c5 rfl p2 p79 x0 x1 x2 ?_ ?_ ?_ ?_ ?_
  · exact (hbel.cell (p := ⟨R, 0, none⟩) hR).trans r1
  · exact (hbel.cell (p := ⟨R, 1, none⟩) hR).trans r2
  · exact (hbel.cell (p := ⟨R, 2, none⟩) hR).trans r3
  · intro j
    exact (hbel.frozen (p := ⟨R, j, none⟩) hR).trans (r4 j)
  refine wpAny_all (rs := [69]) (by kernel_rfl) (by simp) ?_
  intro i hi
  have hi' : i = 69 := by simpa using hi
  subst hi'
  refine wpOp_plain (o := detOps[69]) rfl rfl ?_
  show wpAny Tryd.prog .any detOps Q 0 _ (A2.put (some 3) (A2.tmps.getD 80 undef)) _
  rw [p80]
  refine wpAny_done (by kernel_rfl) ?_ 0
  refine hfin _ _ G Z E K a5 c5 ?_ ?_ ?_ pd hres hrow hbel
  · rw [put_getD (by rw [ps]; decide), if_neg (by decide)]
    exact p2
  · rw [put_getD (by rw [ps]; decide), if_pos rfl]
  · simp [Act.put, ps]

end
end Go.Proofs.YtladfpljnaippabDoor

/-
  The program's products.
-/
namespace Go.Proofs.YtladfpljnaippabDoor
open Go.RowKit

set_option maxHeartbeats 4000000 in
theorem times_any (a a' : Option Addr) (p p' : Nat) (zs ys : List Int) (w : World) (hn : zs.length ≤ 100000) (hn' : ys.length ≤ 100000) (hz : RowAt .u32 w a zs) (hy : RowAt .u32 w a' ys) (hdz : Dig 4294967296 zs) (hdy : Dig 4294967296 ys) :
    Calls Tryd.prog 119 #[.slice a zs.length p, .slice a' ys.length p'] w fun e w' => MagOut w (val 4294967296 zs * val 4294967296 ys) (zs.length + ys.length) e w' := by
  have hmk := run_make_row' (P := Tryd.prog) 86 33 (.int .u32 0) 4 Tryd.underlying86 Tryd.info33 rfl .i64 .i64 (zs.length + ys.length) (by omega) (by omega)
  rw [show ((zs.length + ys.length : Nat) : Int) = (zs.length : Int) + (ys.length : Int) by omega] at hmk
  go_enter Tryd.func119, Tryd.ntmps119
  go_wp2
  go_loopw [19] (fun t wr => ∃ (i : Nat) (P : List Int), i ≤ zs.length ∧ t = .int .i64 i ∧ Hid (Prod 4294967296 zs ys (zs.length + ys.length) i P) ∧ Own .u32 wr w.heap.size 0 P ∧ Below w.heap.size w wr) (fun t _ => zs.length - (intOf t).toNat)
  case atStart => exact ⟨0, List.replicate (zs.length + ys.length) 0, Nat.zero_le _, rfl, prod_start _ (by decide) _ _ _, Own.made w (zs.length + ys.length) _, bel0 _ _⟩
  case round =>
    obtain ⟨i, P, hi, rfl, hP, hown, hnx⟩ := hrel
    by_cases hlt : i < zs.length
    · have hb1 := hdz.at (by decide) i
      obtain ⟨b, off, rfl, g1⟩ := row_cell hz hnx hlt
      obtain ⟨x, hx⟩ : ∃ x, x = zs.getD i 0 := ⟨_, rfl⟩
      rw [← hx] at hb1 g1
      obtain ⟨hb10, hb11⟩ := hb1
      have HX : Hid (x = zs.getD i 0) := hx
      have hPl : P.length = zs.length + ys.length := hP.out.len
      have HPl : Hid (P.length = zs.length + ys.length) := hPl
      have HO : Hid (Own .u32 wr w.heap.size 0 P) := hown
      have HN : Hid (Below w.heap.size w wr) := hnx
      clear hx hPl hown hnx
      go_wp2
      go_loopw [8, 26] (fun cc t wq => ∃ (j : Nat) (c : Int) (D : List Int), j ≤ ys.length ∧ D.length = j ∧ t = .int .i64 j ∧ cc = .int .u64 c ∧ 0 ≤ c ∧ c ≤ 4294967295 ∧ Hid (carryD 4294967296 (mulsL x ys (P.drop i)) 0 = D ++ carryD 4294967296 (mulsL x (ys.drop j) ((P.drop i).drop j)) c) ∧ Hid (carryO 4294967296 (mulsL x ys (P.drop i)) 0 = carryO 4294967296 (mulsL x (ys.drop j) ((P.drop i).drop j)) c) ∧
          Own .u32 wq w.heap.size 0 (P.take i ++ (D ++ P.drop (i + j))) ∧ Below w.heap.size w wq) (fun _ t _ => ys.length - (intOf t).toNat)
      case atStart => exact ⟨0, 0, [], Nat.zero_le _, rfl, rfl, rfl, by decide, by decide, rfl, rfl, by simpa using HO.out, HN.out⟩
      case round =>
        obtain ⟨j, c, D, hj, hDl, rfl, rfl, hc0, hc1, hD, hO, hown, hnx⟩ := hrel
        by_cases hlt2 : j < ys.length
        · have hb2 := hdy.at (by decide) j
          obtain ⟨b', off', rfl, g2⟩ := row_cell hy hnx hlt2
          obtain ⟨y, hyy⟩ : ∃ y, y = ys.getD j 0 := ⟨_, rfl⟩
          rw [← hyy] at hb2 g2
          obtain ⟨hb20, hb21⟩ := hb2
          have hij : i + j < P.length := by rw [HPl.out]; omega
          have hbm := hP.out.dig.at (by decide) (i + j)
          have g3 := hown.cell (i + j) (by rw [mid_length hDl (by omega)]; exact hij)
          have g4 := hown.free (i + j) (by rw [mid_length hDl (by omega)]; exact hij)
          rw [Nat.zero_add] at g3 g4
          rw [mid_get (Nat.le_refl _) hDl (by omega)] at g3
          obtain ⟨m, hm⟩ : ∃ m, m = P.getD (i + j) 0 := ⟨_, rfl⟩
          rw [← hm] at hbm g3
          obtain ⟨hbm0, hbm1⟩ := hbm
          obtain ⟨hxy0, hxy1⟩ := mul_bound hb10 hb11 hb20 hb21
          simp only [Int.reduceSub, Int.reduceMul] at hxy1
          have hcb := carry_bound (B := 4294967296) (s := c + (x * y + m)) (by decide) (by omega) (by simp only [Int.reduceSub, Int.reduceMul]; omega)
          have hst := mul_step (B := 4294967296) (x := x) (c := c) (s := c + (x * y + m)) (ms := P.drop i) hlt2 (by rw [← hyy, List.getD_eq_getElem?_getD, List.getElem?_drop, ← List.getD_eq_getElem?_getD, ← hm]; omega)
          have HD : Hid (carryD 4294967296 (mulsL x ys (P.drop i)) 0 = (D ++ [(c + (x * y + m)) % 4294967296]) ++ carryD 4294967296 (mulsL x (ys.drop (j + 1)) ((P.drop i).drop (j + 1))) ((c + (x * y + m)) / 4294967296)) := by unfold Hid; rw [hD.out, hst.1]; simp
          have HQ : Hid (carryO 4294967296 (mulsL x ys (P.drop i)) 0 = carryO 4294967296 (mulsL x (ys.drop (j + 1)) ((P.drop i).drop (j + 1))) ((c + (x * y + m)) / 4294967296)) := by unfold Hid; rw [hO.out, hst.2]
          have hs := hown.set (i + j) ((c + (x * y + m)) % 4294967296) (by rw [mid_length hDl (by omega)]; exact hij)
          rw [Nat.zero_add, mid_set hDl hij] at hs
          have HS : Hid (Own .u32 (wr.setCell ⟨w.heap.size, i + j, none⟩ (.int .u32 ((c + (x * y + m)) % 4294967296))) w.heap.size 0 (P.take i ++ ((D ++ [(c + (x * y + m)) % 4294967296]) ++ P.drop (i + j + 1)))) := hs
          have HB : Hid (Below w.heap.size w (wr.setCell ⟨w.heap.size, i + j, none⟩ (.int .u32 ((c + (x * y + m)) % 4294967296)))) := hnx.setCell (Nat.le_refl _) _
          obtain ⟨hcb0, hcb1⟩ := hcb
          have HCB : Hid (0 ≤ (c + (x * y + m)) / 4294967296 ∧ (c + (x * y + m)) / 4294967296 ≤ 4294967295) := ⟨hcb0, by omega⟩
          have HJ : Hid (i + j < zs.length + ys.length) := by unfold Hid; omega
          have hji : (i : Int) + (j : Int) < (zs.length : Int) + (ys.length : Int) := by omega
          clear hcb0 hcb1 hst hs hyy hm hD hO hown hnx hij HN HO
          go_wp2
          go_roundw
          case rel => exact ⟨j + 1, (c + (x * y + m)) / 4294967296, D ++ [(c + (x * y + m)) % 4294967296], by omega, by simp; omega, by go_num, rfl, HCB.out.1, HCB.out.2, HD, HQ, HS.out, HB.out⟩
          case measure => simp [intOf]; omega
        · have hjn : j = ys.length := by omega
          subst hjn
          have hin : i + ys.length < P.length := by rw [HPl.out]; omega
          have hDD : D = carryD 4294967296 (mulsL x ys (P.drop i)) 0 := by
            rw [hD.out, List.drop_eq_nil_of_le (Nat.le_refl _)]; simp [mulsL, carryD]
          have hCC : c = carryO 4294967296 (mulsL x ys (P.drop i)) 0 := by
            rw [hO.out, List.drop_eq_nil_of_le (Nat.le_refl _)]; simp [mulsL, carryO]
          have HP2 : Hid (Prod 4294967296 zs ys (zs.length + ys.length) (i + 1) (P.take i ++ ((D ++ [c]) ++ P.drop (i + ys.length + 1)))) := prod_step (by decide) hP.out hlt (by omega) HX.out hDD hCC hc0 (by omega)
          have g3 := hown.cell (i + ys.length) (by rw [mid_length hDl (by omega)]; exact hin)
          have g4 := hown.free (i + ys.length) (by rw [mid_length hDl (by omega)]; exact hin)
          rw [Nat.zero_add] at g3 g4
          have hs := hown.set (i + ys.length) c (by rw [mid_length hDl (by omega)]; exact hin)
          rw [Nat.zero_add, mid_set hDl hin] at hs
          have HS : Hid (Own .u32 (wr.setCell ⟨w.heap.size, i + ys.length, none⟩ (.int .u32 c)) w.heap.size 0 (P.take i ++ ((D ++ [c]) ++ P.drop (i + ys.length + 1)))) := hs
          have HB : Hid (Below w.heap.size w (wr.setCell ⟨w.heap.size, i + ys.length, none⟩ (.int .u32 c))) := hnx.setCell (Nat.le_refl _) _
          have hji : (i : Int) + (ys.length : Int) < (zs.length : Int) + (ys.length : Int) := by omega
          clear hs hDD hCC hD hO hown hnx hin HN HO hP
          go_wp2
          go_roundw
          case rel => exact ⟨i + 1, P.take i ++ ((D ++ [c]) ++ P.drop (i + ys.length + 1)), by omega, by go_num, HP2, HS.out, HB.out⟩
          case measure => simp [intOf]; omega
    · have hin : i = zs.length := by omega
      subst hin
      have hPl : P.length = zs.length + ys.length := hP.out.len
      have hV : val 4294967296 P = val 4294967296 zs * val 4294967296 ys := by rw [hP.out.eq, List.take_length]
      have HV : Hid (val 4294967296 P = val 4294967296 zs * val 4294967296 ys) := hV
      have HG : Hid (Dig 4294967296 P) := hP.out.dig
      have HL : Hid (P.length = zs.length + ys.length) := hPl
      have HS : Hid (Own .u32 wr w.heap.size 0 P) := hown
      have HB : Hid (Below w.heap.size w wr) := hnx
      clear hV hPl hP hown hnx hz hy hdz hdy
      go_wp2_with fail
      have e1 : zs.length + ys.length = P.length := HL.out.symm
      rw [e1]
      refine (trimmed_any _ _ P _ w.heap.size (by omega) (by unfold maxLen; omega) (Nat.le_refl _) (fun h => by cases h) (HS.out.new (Nat.le_refl _))).mono ?_
      rintro e w1 ⟨a2, c2, rfl, hf2, hm2, hr2, hw⟩
      subst hw
      have HM : Hid (MagOut w (val 4294967296 zs * val 4294967296 ys) (zs.length + ys.length) (.returned (.slice a2 (trimL P).length c2)) w1) := by
        refine ⟨a2, c2, trimL P, rfl, hf2, hm2, canon_trim HG.out, by rw [val_trim, HV.out], ?_, hr2, HB.out⟩
        have := trim_le P
        omega
      clear hf2 hm2 hr2 HG HV HB HS e1
      go_wp2
      go_ret
      exact HM.out

theorem sg_mul (g g' : Bool) (u v : Int) : sg (g != g') (u * v) = sg g u * sg g' v := by
  cases g <;> cases g' <;> simp [sg, Int.neg_mul, Int.mul_neg]

set_option maxHeartbeats 4000000 in
theorem productOf_any (g g' : Bool) (a a' : Option Addr) (c c' : Nat) (zs ys : List Int) (x y : Int) (w : World) (hn : zs.length ≤ 100000) (hn' : ys.length ≤ 100000) (hz : RowAt .u32 w a zs) (hy : RowAt .u32 w a' ys) (h : B1 g zs x) (h' : B1 g' ys y) :
    Calls Tryd.prog 111 #[.agg #[.bool g, .slice a zs.length c], .agg #[.bool g', .slice a' ys.length c']] w fun e w' => BigOut w (x * y) (zs.length + ys.length + 1) e w' := by
  have HX : Hid (sg (g != g') (val 4294967296 zs * val 4294967296 ys) = x * y) := by
    unfold Hid
    rw [sg_mul, h.num, h'.num]
  have hdz := h.can.1
  have hdy := h'.can.1
  clear h h'
  go_enter Tryd.func111, Tryd.ntmps111
  go_wp2
  obtain ⟨W0, hW0⟩ : ∃ W0, W0 = (((w.alloc (.cells #[.bool g, .slice a zs.length c] 27)).alloc (.cells #[.bool g', .slice a' ys.length c'] 27)).alloc (.cells #[.bool false, .slice none 0 0] 27)) := ⟨_, rfl⟩
  rw [← hW0]
  have F : Hid (AddF w g g' (.slice a zs.length c) (.slice a' ys.length c') (.slice none 0 0) W0) := by rw [hW0]; exact AddF.start w g g' _ _ _ _ _ _
  clear hW0
  go_region_held3 (fun w' => w'.cell? ⟨w.heap.size, 0, none⟩ = some (.bool g) ∧ w'.cell? ⟨w.heap.size, 1, none⟩ = some (.slice a zs.length c) ∧ w'.cell? ⟨w.heap.size + 1, 0, none⟩ = some (.bool g') ∧ w'.cell? ⟨w.heap.size + 1, 1, none⟩ = some (.slice a' ys.length c') ∧ Below (w.heap.size + 1 + 1) W0 w')
    (first | exact addS_of F.out.s (Below.refl _ _).drew | exact addS_of F.out.s (by assumption) | exact addS_of F.out.s (Below.setCell (Below.setCell (by assumption) (by simp) _) (by simp) _))
    (first
      | (go_at_call 119; refine (times_any a a' c c' zs ys _ hn hn' (hz.later F.out.bel.drew) (hy.later F.out.bel.drew) hdz hdy).mono ?_; rintro e w1 ⟨a2, c2, fs, rfl, hf2, hm2, hcan, hval, hlen, hrn1, hb1⟩; have hB1 : Below W0.heap.size W0 w1 := (Below.refl _ _).drew.trans hb1; have hB1' : Below (w.heap.size + 1 + 1) W0 w1 := hB1.mono (by have := F.out.le; omega))
      | (go_at_call 50; refine (signed_any _ a2 fs.length c2 _).mono ?_; rintro e w2 ⟨rfl, hb2⟩; have hB2 : Below W0.heap.size W0 w2 := hB1.trans (hb2.mono hB1.size); have hB2' : Below (w.heap.size + 1 + 1) W0 w2 := hB2.mono (by have := F.out.le; omega); have hrn2 : RowNew .u32 w2 W0.heap.size a2 fs := RowNew.later hrn1 hb2; have F2 : Hid (AddF w g g' (.slice a zs.length c) (.slice a' ys.length c') (.slice none 0 0) w2) := F.out.later hB2; have r1 := F2.out.r1; have r2 := F2.out.r2; have r3 := F2.out.r3))
  have HR : Hid (RowNew .u32 w2 W0.heap.size a2 fs) := hrn2
  have HB : Hid (B1 (!(g == g') && decide (0 < fs.length)) fs (x * y)) := by unfold Hid; rw [← HX.out]; exact B1.of_signed (g := (g != g')) hcan hval
  clear hrn1 hrn2 hB1 hB1' hB2 hB2' hb1 hb2 hcan hval
  generalize (!(g == g') && decide (0 < fs.length)) = g2 at *
  go_wp2
  refine bodyPost_ret (v := .agg #[.bool g2, .slice a2 fs.length c2]) (by simp [results, Tryd.results111, go_sem, r1, r2]) rfl ?_
  have hle := F.out.le
  refine ⟨g2, a2, c2, fs, rfl, HB.out, by omega, ?_, ?_⟩
  · exact ((HR.out.setLow (by simp; omega) _).setLow (by simp; omega) _).down (by omega)
  · exact (F2.out.bel.setCell (by simp; omega) _).setCell (by simp; omega) _

end Go.Proofs.YtladfpljnaippabDoor
