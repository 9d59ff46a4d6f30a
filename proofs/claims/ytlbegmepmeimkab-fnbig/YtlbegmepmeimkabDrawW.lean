/-
  Two drawn Bigs.
-/
import Derived.Test.YtlbegmepmeimkabAppEDrawW0
namespace Go.Proofs.Ytlbegmepmeimkab
open Go.RowKit

set_option maxRecDepth 100000 in
set_option maxHeartbeats 8000000 in
theorem drawTwo_any (P : Nat) (w : World) (h : Rd P w) :
    Calls Try.prog 65 #[.pointer (some ⟨P, 0, none⟩)] w fun e w' => TwoOut w P e w' := by
  have hl := h.lt
  go_enter Try.func65, Try.ntmps65
  go_wp2_with fail
  refine (next_any P _ (h.later (bel2 _ _ _))).mono ?_
  rintro e w1 ⟨kk, rfl, hk0, hk1, hr1, ha1⟩
  have hs1 := ha1.size
  simp at hs1
  have HR1 : Hid (Rd P w1) := hr1
  have HA1 : Hid (∀ j, w1.cell? ⟨w.heap.size, j, none⟩ = #[Value.bool false, .slice none 0 0][j]? ∧ w1.cell? ⟨w.heap.size + 1, j, none⟩ = #[Value.bool false, .slice none 0 0][j]? ∧ w1.frozen? ⟨w.heap.size, j, none⟩ = false ∧ w1.frozen? ⟨w.heap.size + 1, j, none⟩ = false) := by
    intro j
    refine ⟨?_, ?_, ?_, ?_⟩
    · rw [ha1.cell (by simp; omega) (by simp; omega)]; simp [go_sem]
    · rw [ha1.cell (by simp) (by simp; omega)]; simp [go_sem]
    · rw [ha1.frozen (by simp; omega) (by simp; omega)]; simp [go_sem]
    · rw [ha1.frozen (by simp) (by simp; omega)]; simp [go_sem]
  have HS1 : Hid (Aside P w w1) := (Aside.of (bel2 _ _ _)).trans ha1
  have hq0 : 0 ≤ kk % 8 := by omega
  clear hr1 ha1
  go_wp2_with fail
  refine (drawAny_any P _ HR1.out).mono ?_
  rintro e w2 ⟨G, a, c, zs, rfl, hn2, hu2, hown2, hr2, ha2⟩
  obtain ⟨a2, c2, e2, hcm, hsl, hrn⟩ := own_row hown2
  injection e2 with e3 e4 e5
  subst e3 e5
  have T2 : Hid (∀ t, Tw w P w2.heap.size G a c zs (w2.alloc (.cells #[.bool G, .slice a zs.length c] t))) := by
    intro t
    have hs2 := ha2.size
    have hc : ∀ j, w2.cell? ⟨w.heap.size, j, none⟩ = #[Value.bool false, .slice none 0 0][j]? ∧ w2.cell? ⟨w.heap.size + 1, j, none⟩ = #[Value.bool false, .slice none 0 0][j]? ∧ w2.frozen? ⟨w.heap.size, j, none⟩ = false ∧ w2.frozen? ⟨w.heap.size + 1, j, none⟩ = false := fun j =>
      ⟨(ha2.cell (by simp; omega) (by simp; omega)).trans (HA1.out j).1, (ha2.cell (by simp; omega) (by simp; omega)).trans (HA1.out j).2.1, (ha2.frozen (by simp; omega) (by simp; omega)).trans (HA1.out j).2.2.1, (ha2.frozen (by simp; omega) (by simp; omega)).trans (HA1.out j).2.2.2⟩
    have b0 : Below w2.heap.size w2 (w2.alloc (.cells #[.bool G, .slice a zs.length c] t)) := bel0 _ _
    refine ⟨(b0.cell (by simp; omega)).trans (hc 0).1, (b0.cell (by simp; omega)).trans (hc 1).1, (b0.cell (by simp; omega)).trans (hc 0).2.1, (b0.cell (by simp; omega)).trans (hc 1).2.1, fun j => (b0.frozen (by simp; omega)).trans (hc j).2.2.1, fun j => (b0.frozen (by simp; omega)).trans (hc j).2.2.2, by simp [go_sem], by simp [go_sem], hsl.later b0, ?_, (HS1.out.trans ha2).trans (Aside.of b0), hl, by omega, by simp⟩
    intro b o e1 hne
    have hfar := (hrn.far (Nat.le_refl _) (Nat.le_refl _)).away (p := ⟨b, 0, none⟩)
    by_cases hb : b < w1.heap.size
    · exact absurd rfl (hfar hb b o e1 hne)
    · omega
  have HR2 : Hid (∀ t, Rd P (w2.alloc (.cells #[.bool G, .slice a zs.length c] t))) := fun t => hr2.later (bel0 _ _)
  clear hown2 hr2 ha2 hsl hrn HR1 HA1 HS1 e4
  by_cases hz : kk % 8 = 0
  · have hz' : (kk % 8 == 0) = true := by rw [beq_iff_eq]; exact hz
    have TT := T2.out 26
    have q0 := TT.q0
    have q1 := TT.q1
    have hA2 : w.heap.size + 1 < w2.heap.size := TT.ord.2.1
    clear TT
    have HZ : Hid (∀ t, RowAt .u32 (w2.alloc (.cells #[.bool G, .slice a zs.length c] t)) a zs) := fun t => (T2.out t).sl.row
    have hnil : a = none → c = 0 := (T2.out 0).sl.nil
    have hfit : zs.length ≤ c := (T2.out 0).sl.fits
    go_wp2
    go_cut [6] from 15 to 21 (fun s6 wx => ∃ (T : Nat) (a1 : Option Addr) (c1 : Nat), s6 = .pointer (some ⟨T, 0, none⟩) ∧ Hid (Tw w P w2.heap.size G a c zs wx) ∧ Hid (Tb w P T G a1 c1 zs wx))
    case first =>
      go_region_law
        (refine appEs rfl (.tmp 17) (.tmp 19) 22 rfl 46 Try.underlying22 Try.info46 (by decide) a c zs _ (by (first | exact heapAt (by simp) | exact heapPast (by simp) (heapAt (by simp)))) rfl rfl (by omega) hnil hfit (by (repeat first | exact HZ.out _ | refine RowAt.later ?_ (bel0 _ _) | refine RowAt.later ?_ (Below.refl _ _).drew)) ?_
         intro a1 c1 w3 hown3 has3
         have hB3 : Below (w2.heap.size + 1) (w2.alloc (.cells #[.bool G, .slice a zs.length c] 26)) w3 := Below.trans (by (repeat first | exact Below.refl _ _ | refine Below.drew ?_ | refine Below.alloc ?_ (by simp) _)) (has3.below (by omega) (by simp))
         (first | have hh : Has (w2.heap.size + 1 + 1) w3 := Has.asideB (Has.later (Has.at 26 (by simp)) (Below.refl _ (World.alloc _ (.cells #[.bool false, .slice none 0 0] 26))).drew) has3 (by omega) | have hh : Has (w2.heap.size + 1) w3 := Has.asideB (Has.later (Has.later (Has.at 26 (by simp)) (bel0 (World.alloc _ (.cells #[.bool false, .slice none 0 0] 26)) (.cells #[] 46))) (Below.refl _ _).drew) has3 (by omega) | have hh : True := trivial)
         have z0 : w3.cell? ⟨w2.heap.size, 0, none⟩ = some (.bool G) := (hB3.cell (p := ⟨w2.heap.size, 0, none⟩) (by simp)).trans (T2.out _).q0
         have z9 : w2.heap.size < w3.heap.size := by have := hB3.size; simp at this; omega
         (try have y1 := hh.r1); (try have y2 := hh.r2); (try have y3 := hh.r3))
      all_goals
        go_wp2_with fail
        go_meet
        case rel =>
          refine ⟨_, a1, c1, rfl, ?_, ?_⟩
          · first
              | exact (T2.out _).later (by simpa using (hB3.alloc (by omega) _).drew)
              | exact (T2.out _).later (by simpa using hB3.alloc (by omega) _)
              | exact (T2.out _).later (by simpa using (hB3.setCell (by simp) _).setCell (by simp) _)
          · first
              | exact Tb.start rfl hl (by omega) (by omega) hown3
              | exact Tb.set hl (by omega) (by omega) hh hown3
    case rest =>
      obtain ⟨T, a1, c1, rfl, hTw, hTb⟩ := hcut
      have q0 := hTw.out.q0
      have q1 := hTw.out.q1
      have b0 := hTb.out.q0
      have b1 := hTb.out.q1
      have r0 := hTw.out.r0
      have r1 := hTw.out.r1
      have r2 := hTw.out.r2
      have r3 := hTw.out.r3
      have rf := hTw.out.rf
      have rg := hTw.out.rg
      have oT : w.heap.size + 1 < T := hTb.out.ord.1
      go_wp2
      go_region_with (fail)
      all_goals
        go_wp2
        refine bodyPost_ret (v := .tuple #[.agg #[.bool G, .slice a zs.length c], .agg #[.bool G, .slice a1 zs.length c1]]) (by simp [results, Try.results65, go_sem, r0, r1, r2, r3]) rfl ?_
        first | exact (two_fin hTw.out hTb.out hn2 hn2 hu2 hu2 (.inl rfl)).drew | exact (two_fin hTw.out hTb.out hn2 hn2 hu2 hu2 (.inr rfl)).drew | exact two_fin hTw.out hTb.out hn2 hn2 hu2 hu2 (.inl rfl) | exact two_fin hTw.out hTb.out hn2 hn2 hu2 hu2 (.inr rfl)
  · have hz' : (kk % 8 == 0) = false := by rw [beq_eq_false_iff_ne]; exact hz
    have TT := T2.out 26
    have q0 := TT.q0
    have q1 := TT.q1
    have hA2 : w.heap.size + 1 < w2.heap.size := TT.ord.2.1
    clear TT
    go_wp2_with fail
    refine (drawAny_any P _ (HR2.out _)).mono ?_
    rintro e w4 ⟨G4, a4, c4, ys, rfl, hn4, hu4, hown4, hr4, ha4⟩
    have hs4 := ha4.size
    simp at hs4
    have T4 : Hid (∀ t, Tw w P w2.heap.size G a c zs (w4.alloc (.cells #[.bool G4, .slice a4 ys.length c4] t))) := fun t => ((T2.out _).aside ha4).later (bel0 _ _)
    have B4 : Hid (∀ t, Tb w P w4.heap.size G4 a4 c4 ys (w4.alloc (.cells #[.bool G4, .slice a4 ys.length c4] t))) := fun t => Tb.start rfl hl (by simp; omega) (by omega) hown4
    have x0 := ((T2.out 26).aside ha4).q0
    have x1 := ((T2.out 26).aside ha4).q1
    have x9 : w2.heap.size < w4.heap.size := by omega
    have T40 : Hid (Tw w P w2.heap.size G a c zs w4) := (T2.out _).aside ha4
    clear hown4 hr4 ha4 q0 q1
    have q0 := (T4.out 26).q0
    have q1 := (T4.out 26).q1
    by_cases hk : kk % 8 = 1
    · have hk' : (kk % 8 == 1) = true := by rw [beq_iff_eq]; exact hk
      by_cases hz0 : (0 : Int) < zs.length
      · by_cases hz20 : (zs.length : Int) < 20
        · have HZ : Hid (∀ t, RowAt .u32 (w4.alloc (.cells #[.bool G4, .slice a4 ys.length c4] t)) a zs) := fun t => (T4.out t).sl.row
          have hnil : a = none → c = 0 := (T2.out 0).sl.nil
          have hfit : zs.length ≤ c := (T2.out 0).sl.fits
          have d0 := (B4.out 26).q0
          have d1 := (B4.out 26).q1
          go_wp2
          go_cut [40] from 41 to 46 (fun _ wx => ∃ (a1 : Option Addr) (c1 : Nat), w4.heap.size < wx.heap.size ∧ Hid (Below w4.heap.size w4 wx) ∧ Hid (wx.cell? ⟨w4.heap.size, 0, none⟩ = some (.bool G) ∧ wx.cell? ⟨w4.heap.size, 1, none⟩ = some (.slice a1 zs.length c1) ∧ ∀ j, wx.frozen? ⟨w4.heap.size, j, none⟩ = false) ∧ Hid (RowNew .u32 wx (w4.heap.size + 1) a1 zs))
          case first =>
            go_region_law
              (refine appEs rfl (.tmp 42) (.tmp 44) 22 rfl 46 Try.underlying22 Try.info46 (by decide) a c zs _ (by (first | exact heapAt (by simp) | exact heapPast (by simp) (heapAt (by simp)))) rfl rfl (by omega) hnil hfit (by (repeat first | exact HZ.out _ | refine RowAt.later ?_ (bel0 _ _) | refine RowAt.later ?_ (Below.refl _ _).drew)) ?_
               intro a1 c1 w5 hown5 has5
               have hB5 : Below (w4.heap.size + 1) (w4.alloc (.cells #[.bool G4, .slice a4 ys.length c4] 26)) w5 := Below.trans (by (repeat first | exact Below.refl _ _ | refine Below.drew ?_ | refine Below.alloc ?_ (by simp) _)) (has5.below (by omega) (by simp))
               have z0 : w5.cell? ⟨w2.heap.size, 0, none⟩ = some (.bool G) := (hB5.cell (p := ⟨w2.heap.size, 0, none⟩) (by simp; omega)).trans q0
               have z9 : w4.heap.size < w5.heap.size := by have := hB5.size; simp at this; omega
               have y1 : w5.cell? ⟨w4.heap.size, 0, none⟩ = some (.bool G4) := (hB5.cell (p := ⟨w4.heap.size, 0, none⟩) (by simp)).trans d0
               have y2 : w5.cell? ⟨w4.heap.size, 1, none⟩ = some (.slice a4 ys.length c4) := (hB5.cell (p := ⟨w4.heap.size, 1, none⟩) (by simp)).trans d1
               have y3 : ∀ j, w5.frozen? ⟨w4.heap.size, j, none⟩ = false := fun j => (hB5.frozen (p := ⟨w4.heap.size, j, none⟩) (by simp)).trans (by simp [go_sem]))

            all_goals
              go_wp2_with fail
              go_meet
              case rel =>
                obtain ⟨a7, c7, e7, _, _, hrn7⟩ := own_row hown5
                injection e7 with e8 e9 e10
                subst e8 e10
                have hB6 : Below w4.heap.size w4 w5 := (bel0 _ _).trans (hB5.mono (by omega))
                refine ⟨a1, c1, by simpa using z9, (hB6.setCell (by simp) _).setCell (by simp) _, ⟨?_, ?_, ?_⟩, (hrn7.setLow (by simp) _).setLow (by simp) _⟩
                · rw [World.cell?_setCell_other _ _ _ _ (by simp)]
                  exact World.cell?_setCell_same _ _ _ y1
                · refine World.cell?_setCell_same _ _ _ (u := .slice a4 ys.length c4) ?_
                  rw [World.cell?_setCell_other _ _ _ _ (by simp)]
                  exact y2
                · intro j
                  rw [World.frozen?_setCell, World.frozen?_setCell]
                  exact y3 j
          case rest =>
            obtain ⟨a1, c1, hlt, hBc, hbox, hrow⟩ := hcut
            have c0 := hbox.out.1
            have c1' := hbox.out.2.1
            have c2 := hbox.out.2.2
            rcases hrow.out with hnl | ⟨b, off, rfl, hb0, hb1, hcl, hfz⟩
            · exact absurd (by rw [hnl]; rfl : zs.length = 0) (by omega)
            have f0 : wc.cell? ⟨b, off, none⟩ = some (.int .u32 (zs.getD 0 0)) := by simpa using hcl 0 (by omega)
            have f1 : wc.frozen? ⟨b, off, none⟩ = false := by simpa using hfz 0 (by omega)
            obtain ⟨zz, hzz⟩ : ∃ zz, zz = zs.getD 0 0 := ⟨_, rfl⟩
            rw [← hzz] at f0
            go_wp2_with fail
            generalize hvv : bits BinOp.xor IntKind.u32 _ 1 = v
            have hvr : 0 ≤ v ∧ v < 4294967296 := by rw [← hvv]; exact bits_range _ _ _
            obtain ⟨xs, hxl, hxr, hxu⟩ : ∃ xs : List Int, xs.length = zs.length ∧ RowAt .u32 (wc.setCell ⟨b, off, none⟩ (.int .u32 v)) (some ⟨b, off, none⟩) xs ∧ U32 xs := by
              refine ⟨zs.set 0 v, by simp, .inr ⟨b, off, rfl, by simpa using hb1, ?_⟩, ?_⟩
              · intro j hj
                simp at hj
                by_cases e : j = 0
                · subst e
                  have : (zs.set 0 v).getD 0 0 = v := by simp [List.getD_eq_getElem?_getD, hj]
                  rw [this]
                  exact World.cell?_setCell_same _ _ _ f0
                · have : (zs.set 0 v).getD j 0 = zs.getD j 0 := by simp [List.getD_eq_getElem?_getD, Ne.symm e]
                  rw [this, World.cell?_setCell_other _ _ _ _ (by first | (simp; done) | (simp; omega))]
                  exact hcl j hj
              · intro z hz
                rcases List.mem_or_eq_of_mem_set hz with h | h
                · exact hu2 z h
                · subst h; exact hvr
            have SP := spAddC_any false G none (some ⟨b, off, none⟩) 0 c1 [] xs _ (by simp) (by omega) (.inl rfl) hxr (fun z hz => by cases hz) hxu
            rw [hxl] at SP
            refine SP.mono ?_
            rintro e W10 ⟨G6, Z, K6, a6, c6, rfl, hRes, hsl6, hF6, hb6⟩
            have hsz := hb6.size
            simp at hsz
            have hne7 : ∀ j : Nat, (⟨b, off, none⟩ : Addr) ≠ ⟨w4.heap.size, j, none⟩ := by intro j hh; have := congrArg Addr.block hh; simp at this; omega
            have e0 : W10.cell? ⟨w4.heap.size, 0, none⟩ = some (.bool G) := (hb6.cell (by simp; omega)).trans ((World.cell?_setCell_other _ _ _ _ (hne7 0)).trans c0)
            have e1 : W10.cell? ⟨w4.heap.size, 1, none⟩ = some (.slice (some ⟨b, off, none⟩) zs.length c1) := (hb6.cell (by simp; omega)).trans ((World.cell?_setCell_other _ _ _ _ (hne7 1)).trans c1')
            have e2 : ∀ j, W10.frozen? ⟨w4.heap.size, j, none⟩ = false := fun j => (hb6.frozen (by simp; omega)).trans ((World.frozen?_setCell _ _ _ _).trans (c2 j))
            have hBf : Below w4.heap.size w4 W10 := (hBc.out.setCell (by simp; omega) _).trans (hb6.mono (by simp; omega))
            have ho := T40.out.ord
            have hTw : Hid (Tw w P w2.heap.size G a c zs ((W10.setCell ⟨w4.heap.size, 0, none⟩ (.bool G6)).setCell ⟨w4.heap.size, 1, none⟩ (.slice a6 Z.length c6))) := T40.out.later ((hBf.setCell (by simp) _).setCell (by simp) _)
            have hTb : Hid (Tb w P w4.heap.size G6 a6 c6 Z ((W10.setCell ⟨w4.heap.size, 0, none⟩ (.bool G6)).setCell ⟨w4.heap.size, 1, none⟩ (.slice a6 Z.length c6))) := by
              refine ⟨?_, ?_, ⟨hsl6.fits, hsl6.nil, (hsl6.row.setAway (hF6.away (by simp; omega)) _).setAway (hF6.away (by simp; omega)) _⟩, ?_, by omega, by simp; omega⟩
              · rw [World.cell?_setCell_other _ _ _ _ (by simp)]
                exact World.cell?_setCell_same _ _ _ e0
              · refine World.cell?_setCell_same _ _ _ (u := .slice (some ⟨b, off, none⟩) zs.length c1) ?_
                rw [World.cell?_setCell_other _ _ _ _ (by simp)]
                exact e1
              · intro b' o' h1 hne
                have hfar := hF6.away (p := ⟨b', 0, none⟩)
                by_cases hb : b' < wc.heap.size
                · exact absurd rfl (hfar (by simpa using hb) b' o' h1 hne)
                · omega
            have hZ : Z.length ≤ 513 := by have := hRes.len; omega
            have hUZ : U32 Z := by
              rcases hRes with ⟨_, _, h, _⟩ | ⟨_, g0, Z0, hB0, ⟨_, _, h, _⟩ | ⟨_, _, h, _⟩⟩
              · rw [h]; intro z hz; cases hz
              · rw [h]; exact hB0.can.1
              · rw [h]; intro z hz; cases hz
            clear hF6 hb6 hsl6 hRes SP hBf c0 c1' c2 f0 f1 q0 q1 d0 d1
            go_wp2
            obtain ⟨wd, hwd⟩ : ∃ wd, wd = (W10.setCell ⟨w4.heap.size, 0, none⟩ (.bool G6)).setCell ⟨w4.heap.size, 1, none⟩ (.slice a6 Z.length c6) := ⟨_, rfl⟩
            rw [← hwd] at hTw hTb ⊢
            clear hwd e0 e1 e2
            have q0 := hTw.out.q0
            have q1 := hTw.out.q1
            have b0 := hTb.out.q0
            have b1 := hTb.out.q1
            have r0 := hTw.out.r0
            have r1 := hTw.out.r1
            have r2 := hTw.out.r2
            have r3 := hTw.out.r3
            have rf := hTw.out.rf
            have rg := hTw.out.rg
            go_region_with (fail)
            all_goals
              go_wp2
              refine bodyPost_ret (v := .tuple #[.agg #[.bool G, .slice a zs.length c], .agg #[.bool G6, .slice a6 Z.length c6]]) (by simp [results, Try.results65, go_sem, r0, r1, r2, r3]) rfl ?_
              first | exact (two_fin hTw.out hTb.out hn2 hZ hu2 hUZ (.inl rfl)).drew | exact (two_fin hTw.out hTb.out hn2 hZ hu2 hUZ (.inr rfl)).drew | exact two_fin hTw.out hTb.out hn2 hZ hu2 hUZ (.inl rfl) | exact two_fin hTw.out hTb.out hn2 hZ hu2 hUZ (.inr rfl)
        · have hTw : Hid (Tw w P w2.heap.size G a c zs (w4.alloc (.cells #[.bool G4, .slice a4 ys.length c4] 26))) := T4.out _
          have hTb : Hid (Tb w P w4.heap.size G4 a4 c4 ys (w4.alloc (.cells #[.bool G4, .slice a4 ys.length c4] 26))) := B4.out _
          go_wp2
          obtain ⟨wc, hwc⟩ : ∃ wc, wc = w4.alloc (.cells #[.bool G4, .slice a4 ys.length c4] 26) := ⟨_, rfl⟩
          rw [← hwc] at hTw hTb ⊢
          clear hwc T4 B4 T2 q0 q1
          have q0 := hTw.out.q0
          have q1 := hTw.out.q1
          have b0 := hTb.out.q0
          have b1 := hTb.out.q1
          have r0 := hTw.out.r0
          have r1 := hTw.out.r1
          have r2 := hTw.out.r2
          have r3 := hTw.out.r3
          have rf := hTw.out.rf
          have rg := hTw.out.rg
          go_region_with (fail)
          all_goals
            go_wp2
            refine bodyPost_ret (v := .tuple #[.agg #[.bool G, .slice a zs.length c], .agg #[.bool G4, .slice a4 ys.length c4]]) (by simp [results, Try.results65, go_sem, r0, r1, r2, r3]) rfl ?_
            first | exact (two_fin hTw.out hTb.out hn2 hn4 hu2 hu4 (.inl rfl)).drew | exact (two_fin hTw.out hTb.out hn2 hn4 hu2 hu4 (.inr rfl)).drew | exact two_fin hTw.out hTb.out hn2 hn4 hu2 hu4 (.inl rfl) | exact two_fin hTw.out hTb.out hn2 hn4 hu2 hu4 (.inr rfl)
      · have hTw : Hid (Tw w P w2.heap.size G a c zs (w4.alloc (.cells #[.bool G4, .slice a4 ys.length c4] 26))) := T4.out _
        have hTb : Hid (Tb w P w4.heap.size G4 a4 c4 ys (w4.alloc (.cells #[.bool G4, .slice a4 ys.length c4] 26))) := B4.out _
        go_wp2
        obtain ⟨wc, hwc⟩ : ∃ wc, wc = w4.alloc (.cells #[.bool G4, .slice a4 ys.length c4] 26) := ⟨_, rfl⟩
        rw [← hwc] at hTw hTb ⊢
        clear hwc T4 B4 T2 q0 q1
        have q0 := hTw.out.q0
        have q1 := hTw.out.q1
        have b0 := hTb.out.q0
        have b1 := hTb.out.q1
        have r0 := hTw.out.r0
        have r1 := hTw.out.r1
        have r2 := hTw.out.r2
        have r3 := hTw.out.r3
        have rf := hTw.out.rf
        have rg := hTw.out.rg
        go_region_with (fail)
        all_goals
          go_wp2
          refine bodyPost_ret (v := .tuple #[.agg #[.bool G, .slice a zs.length c], .agg #[.bool G4, .slice a4 ys.length c4]]) (by simp [results, Try.results65, go_sem, r0, r1, r2, r3]) rfl ?_
          first | exact (two_fin hTw.out hTb.out hn2 hn4 hu2 hu4 (.inl rfl)).drew | exact (two_fin hTw.out hTb.out hn2 hn4 hu2 hu4 (.inr rfl)).drew | exact two_fin hTw.out hTb.out hn2 hn4 hu2 hu4 (.inl rfl) | exact two_fin hTw.out hTb.out hn2 hn4 hu2 hu4 (.inr rfl)
    · have hk' : (kk % 8 == 1) = false := by rw [beq_eq_false_iff_ne]; exact hk
      have hTw : Hid (Tw w P w2.heap.size G a c zs (w4.alloc (.cells #[.bool G4, .slice a4 ys.length c4] 26))) := T4.out _
      have hTb : Hid (Tb w P w4.heap.size G4 a4 c4 ys (w4.alloc (.cells #[.bool G4, .slice a4 ys.length c4] 26))) := B4.out _
      go_wp2
      obtain ⟨wc, hwc⟩ : ∃ wc, wc = w4.alloc (.cells #[.bool G4, .slice a4 ys.length c4] 26) := ⟨_, rfl⟩
      rw [← hwc] at hTw hTb ⊢
      clear hwc T4 B4 T2 q0 q1
      have q0 := hTw.out.q0
      have q1 := hTw.out.q1
      have b0 := hTb.out.q0
      have b1 := hTb.out.q1
      have r0 := hTw.out.r0
      have r1 := hTw.out.r1
      have r2 := hTw.out.r2
      have r3 := hTw.out.r3
      have rf := hTw.out.rf
      have rg := hTw.out.rg
      go_region_with (fail)
      all_goals
        go_wp2
        refine bodyPost_ret (v := .tuple #[.agg #[.bool G, .slice a zs.length c], .agg #[.bool G4, .slice a4 ys.length c4]]) (by simp [results, Try.results65, go_sem, r0, r1, r2, r3]) rfl ?_
        first | exact (two_fin hTw.out hTb.out hn2 hn4 hu2 hu4 (.inl rfl)).drew | exact (two_fin hTw.out hTb.out hn2 hn4 hu2 hu4 (.inr rfl)).drew | exact two_fin hTw.out hTb.out hn2 hn4 hu2 hu4 (.inl rfl) | exact two_fin hTw.out hTb.out hn2 hn4 hu2 hu4 (.inr rfl)

end Go.Proofs.Ytlbegmepmeimkab
