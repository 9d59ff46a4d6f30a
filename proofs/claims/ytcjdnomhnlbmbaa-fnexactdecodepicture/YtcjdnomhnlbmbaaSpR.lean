/-
  The model's DecodePicture.
-/
import Derived.Test.YtcjdnomhnlbmbaaIdGPcRPcSPcT
import Derived.Test.YtcjdnomhnlbmbaaSpD3
namespace Go.Proofs.Ytcjdnomhnlbmbaa
open Go.RowKit


theorem no_pic {bs : List Int} (h : ∀ n1 n3 g L h, IsPic bs n1 n3 g L h → False) : ∀ n1 n3 g L h, ¬ IsPic bs n1 n3 g L h := fun a b c d e p => h a b c d e p

/-- 'append(s, x)' of one bool to a slice of the call's own. -/
theorem app1b {X : Bool} {w0 : World} {ops : Array Oper} {rest : List Oper} {o : Oper} {a : Act} {Q : Exit → Act → World → Prop} (hgd : o.guard = none) (s x : Operand)
    (ho : o.op = .call { callee := .builtin .append, args := #[s, x], argTypes := #[24, 24] })
    (base : Nat) (sv : Value) (xs : List Value) (n : Nat) (hs : a.eval s = sv) (hx : a.eval x = .slice (some ⟨w0.heap.size, 0, none⟩) 1 1) (hown : w0.ownsRow base 4 1 sv n xs) (hn : n ≤ 8388608) (hbase : base ≤ w0.heap.size)
    (h : ∀ a' n' c' w', w'.ownsRow base 4 1 (.slice a' n' c') (n + 1) (xs ++ [.bool X]) → Below base w0 w' → w0.heap.size < w'.heap.size → wpList Try.prog ops Q rest (a.put o.dst (.slice a' n' c')) w') :
    wpList Try.prog ops Q (o :: rest) a (w0.alloc (.cells #[.bool X] 4)) := by
  obtain ⟨i0, hi, hz0, hz1, hz2⟩ := info_parts info_Bool
  refine wpList_append_own _ hgd s x 24 ho base 4 i0 (.bool false) 1 1 Try.underlying24 hi hz0 hz1 hz2 rfl (by decide) sv n xs hs (hown.alloc _) ⟨w0.heap.size, 0, none⟩ 1 1 [.bool X] hx rfl ?_ ?_ ?_ ?_ ?_ ?_
  · intro j u hj
    match j, hj with
    | 0, hj => simp at hj; subst hj; simp [Addr.add]
  · intro u hu; simp at hu; subst hu; rfl
  · unfold maxLen; omega
  · omega
  · simp; omega
  · intro v' w' hown' hgrow _
    obtain ⟨a', n', c', rfl⟩ : ∃ a' n' c', v' = .slice a' n' c' := by
      rcases hown'.2 with ⟨h1, _⟩ | ⟨g, cap, cur, h1, _⟩
      · exact ⟨_, _, _, h1⟩
      · exact ⟨_, _, _, h1⟩
    refine h a' n' c' w' hown' ?_ ?_
    · have hb0 : Below base w0 (w0.alloc (.cells #[.bool X] 4)) := (Below.refl _ _).alloc hbase _
      refine hb0.grown hgrow (by simp; omega) ?_
      intro kk hk
      rcases hown.2 with ⟨h1, _⟩ | ⟨g, cap, cur, h1, h2, _⟩
      · rw [h1] at hk; simp [Value.ownBlock] at hk
      · rw [h1] at hk; simp [Value.ownBlock] at hk; omega
    · have := hgrow.size
      simp at this
      omega

theorem own_rowF {w : World} {base : Nat} {e : TypeId} {v : Value} {n : Nat} {xs : List Value} (h : w.ownsRow base e 1 v n xs) {f : Nat → Value} (hf : ∀ j, j < n → xs[j]? = some (f j)) : ∃ a c, v = .slice a n c ∧ RowFIn w base w.heap.size a n f := by
  rcases h.2 with ⟨h1, h2⟩ | ⟨g, cap, cur, h1, h2, h3, h4, h5, h6, h7⟩
  · subst h2
    exact ⟨none, 0, h1, .inl rfl⟩
  · have hg : g < w.heap.size := by
      by_cases hp : g < w.heap.size
      · exact hp
      · rw [Array.getElem?_eq_none (by omega)] at h3; cases h3
    refine ⟨some ⟨g, 0, none⟩, cap, h1, .inr ⟨g, 0, rfl, h2, hg, hg, fun j hj => ?_, fun j hj => by simp [World.frozen?, h3]⟩⟩
    have : (cur.toList.take (n * 1))[j]? = xs[j]? := by rw [h7]
    rw [List.getElem?_take, if_pos (by omega), hf j hj] at this
    simp only [World.cell?, h3]
    simpa using this

theorem RowFIn.keepX {w uu : World} {lo hi base X : Nat} {a : Option Addr} {n : Nat} {f : Nat → Value} (h : RowFIn w lo hi a n f) (hb : Below base w uu) (hhi : hi ≤ base) (hlo : X < lo) (j : Nat) (v : Value) : RowFIn (uu.setCell ⟨X, j, none⟩ v) lo hi a n f := by
  have h1 : RowFIn uu lo hi a n f := by
    rcases h with h | ⟨b, off, q1, q0, q00, q2, q3, q4⟩
    · exact .inl h
    · exact .inr ⟨b, off, q1, q0, q00, Nat.lt_of_lt_of_le q2 hb.size, fun j hj => (hb.cell (p := ⟨b, off + j, none⟩) (by simp; omega)).trans (q3 j hj), fun j hj => (hb.frozen (p := ⟨b, off + j, none⟩) (by simp; omega)).trans (q4 j hj)⟩
  exact h1.apart (within_set _ _ _) (.inr (by simp; omega))

theorem RowFIn.keep {w uu : World} {lo hi base : Nat} {a : Option Addr} {n : Nat} {f : Nat → Value} (h : RowFIn w lo hi a n f) (hb : Below base w uu) (hhi : hi ≤ base) : RowFIn uu lo hi a n f := by
  rcases h with h | ⟨b, off, q1, q0, q00, q2, q3, q4⟩
  · exact .inl h
  · exact .inr ⟨b, off, q1, q0, q00, Nat.lt_of_lt_of_le q2 hb.size, fun j hj => (hb.cell (p := ⟨b, off + j, none⟩) (by simp; omega)).trans (q3 j hj), fun j hj => (hb.frozen (p := ⟨b, off + j, none⟩) (by simp; omega)).trans (q4 j hj)⟩
theorem RowFIn.set {w : World} {lo hi X : Nat} {a : Option Addr} {n : Nat} {f : Nat → Value} (h : RowFIn w lo hi a n f) (hlo : X < lo) (j : Nat) (v : Value) : RowFIn (w.setCell ⟨X, j, none⟩ v) lo hi a n f := h.keepX (Below.refl hi w) (Nat.le_refl _) hlo j v
/-- The picture that is handed back. -/
theorem goodP {w W : World} {bs : List Int} {N M Lt X b5 br cI cB : Nat} {aI aB : Option Addr} (hp : IsPic bs N M (idv bs) Lt (bitv bs N)) (h1 : RowFIn W (X + 1) b5 aI N (intF (idv bs))) (h3 : RowFIn W b5 br aB M (boolF (bitv bs N))) (k1 : w.heap.size < X + 1) (k2 : w.heap.size < b5) (k3 : b5 ≤ br) (k4 : br ≤ W.heap.size) (hb : Below w.heap.size w W) {e0 e1 e2 : Value} :
    DecPOut w bs (.returned (.tuple #[.agg #[.slice aI N cI, .int .i64 Lt, .slice aB M cB], .int .i64 0])) (((W.setCell ⟨w.heap.size, 0, none⟩ e0).setCell ⟨w.heap.size, 1, none⟩ e1).setCell ⟨w.heap.size, 2, none⟩ e2) := by
  refine ⟨aI, aB, cI, cB, N, M, idv bs, Lt, bitv bs N, 0, X + 1, b5, b5, br, rfl, .inl ⟨rfl, hp⟩, ⟨⟨by omega, ?_⟩, ⟨by omega, ?_⟩, .inl (Nat.le_refl _), Nat.le_refl _, ?_, ?_⟩, ?_⟩
  · simp; omega
  · simp; omega
  · exact ((h1.set k1 0 _).set k1 1 _).set k1 2 _
  · exact ((h3.set k2 0 _).set k2 1 _).set k2 2 _
  · exact ((hb.setCell (by simp) _).setCell (by simp) _).setCell (by simp) _

/-- Where there is no picture: the zero picture and CodeBad. -/
theorem badP {w W : World} {bs : List Int} (hno : ∀ n1 n3 g L h, ¬ IsPic bs n1 n3 g L h) (hb : Below w.heap.size w W) {e : Ending} (he : e = .returned (.tuple #[.agg #[.slice none 0 0, .int .i64 0, .slice none 0 0], .int .i64 1])) : DecPOut w bs e W :=
  ⟨none, none, 0, 0, 0, 0, fun _ => 0, 0, fun _ => false, 1, w.heap.size, w.heap.size, w.heap.size, w.heap.size, he, .inr ⟨rfl, rfl, rfl, rfl, hno⟩, ⟨⟨Nat.le_refl _, hb.size⟩, ⟨Nat.le_refl _, hb.size⟩, .inl (Nat.le_refl _), Nat.le_refl _, .inl rfl, .inl rfl⟩, hb⟩

set_option maxRecDepth 100000 in
set_option maxHeartbeats 16000000 in
theorem decP_any (a : Option Addr) (c : Nat) (bs : List Int) (w : World) (hl : bs.length ≤ 1048576) (hu : U8 bs) (hz : RowAt .u8 w a bs) :
    Calls Try.prog 8 #[.slice a bs.length c] w fun e w' => DecPOut w bs e w' := by
  have HZ : Hid (RowAt .u8 w a bs) := hz
  have HU : Hid (U8 bs) := hu
  clear hz hu
  obtain ⟨X, hX⟩ : ∃ X, X = w.heap.size + 1 := ⟨_, rfl⟩
  obtain ⟨V0, hV0⟩ : ∃ V0, V0 = (w.alloc (.cells #[.slice none 0 0, .int .i64 0, .slice none 0 0] 26)).alloc (.cells #[.slice none 0 0, .int .i64 0, .slice none 0 0] 26) := ⟨_, rfl⟩
  have D0 : Hid (DecS V0 X (.slice none 0 0) (.int .i64 0) (.slice none 0 0) V0) := by
    unfold Hid
    rw [hV0, hX]
    exact ⟨Below.refl _ _, by simp, by simp [go_sem], by simp [go_sem], by simp [go_sem], fun j => by simp [go_sem]⟩
  have BV : Hid (Below w.heap.size w V0) := by unfold Hid; rw [hV0]; exact bel2 _ _ _
  have R0 : Hid (V0.cell? ⟨w.heap.size, 0, none⟩ = some (.slice none 0 0) ∧ V0.cell? ⟨w.heap.size, 1, none⟩ = some (.int .i64 0) ∧ V0.cell? ⟨w.heap.size, 2, none⟩ = some (.slice none 0 0) ∧ ∀ j, V0.frozen? ⟨w.heap.size, j, none⟩ = false) := by
    unfold Hid
    rw [hV0]
    exact ⟨by simp [go_sem], by simp [go_sem], by simp [go_sem], fun j => by simp [go_sem]⟩
  have HSX : Hid (w.heap.size < X) := by unfold Hid; omega
  have HLOW : Hid (∀ W, Below X V0 W → W.cell? ⟨w.heap.size, 0, none⟩ = some (.slice none 0 0) ∧ W.cell? ⟨w.heap.size, 1, none⟩ = some (.int .i64 0) ∧ W.cell? ⟨w.heap.size, 2, none⟩ = some (.slice none 0 0) ∧ (∀ j, W.frozen? ⟨w.heap.size, j, none⟩ = false) ∧ Below w.heap.size w W) := by
    intro W hb
    exact ⟨(hb.cell (p := ⟨w.heap.size, 0, none⟩) HSX.out).trans R0.out.1, (hb.cell (p := ⟨w.heap.size, 1, none⟩) HSX.out).trans R0.out.2.1, (hb.cell (p := ⟨w.heap.size, 2, none⟩) HSX.out).trans R0.out.2.2.1, fun j => (hb.frozen (p := ⟨w.heap.size, j, none⟩) HSX.out).trans (R0.out.2.2.2 j), BV.out.trans (hb.mono (Nat.le_of_lt HSX.out))⟩
  have rN := numB_range HU.out 4 2 (by decide)
  have rL := numB_range HU.out 6 1 (by decide)
  go_enter Try.func8, Try.ntmps8
  go_wp2_with fail
  rw [← hV0, ← hX]
  have HX : Hid (X = w.heap.size + 1) := hX
  clear hV0 hX
  refine (num6_any a c bs 4 2 _ hl (by decide) (by decide) HU.out (HZ.out.later BV.out)).mono ?_
  rintro e V1 ⟨rfl, rfl⟩
  go_wp2_with fail
  refine (num6_any a c bs 6 1 _ hl (by decide) (by decide) HU.out (HZ.out.later BV.out)).mono ?_
  rintro e V2 ⟨rfl, rfl⟩
  obtain ⟨nv, hnv⟩ : ∃ v, v = numB bs 4 2 := ⟨_, rfl⟩
  obtain ⟨lv, hlv⟩ : ∃ v, v = numB bs 6 1 := ⟨_, rfl⟩
  have HNV : Hid (nv = numB bs 4 2 ∧ lv = numB bs 6 1) := ⟨hnv, hlv⟩
  rw [← hnv] at rN ⊢
  rw [← hlv] at rL ⊢
  have D1 : Hid (DecS V2 X (.slice none 0 0) (.int .i64 lv) (.slice none 0 0) (V2.setCell ⟨X, 1, none⟩ (.int .i64 lv))) := D0.out.set1 _
  have x1 := D0.out.c1
  have xf := D0.out.fr 1
  obtain ⟨r0, r1, r2, r3, HW1⟩ := HLOW.out _ D1.out.bel
  have BW1 : Hid (Below w.heap.size w (V2.setCell ⟨X, 1, none⟩ (.int .i64 lv))) := HW1
  clear hnv hlv HW1
  by_cases h1 : nv < 0
  · have HNO : Hid (∀ n1 n3 g L h, ¬ IsPic bs n1 n3 g L h) := by
      intro n1 n3 g L h p
      have c1 := p.count
      have c2 := p.lights
      have c3 := p.bounds
      have c4 := HNV.out
      rw [c1, c2] at c4
      omega
    go_wp2
    refine bodyPost_ret (v := .tuple #[.agg #[.slice none 0 0, .int .i64 0, .slice none 0 0], .int .i64 1]) (by simp [results, Try.results8, go_sem, r0, r1, r2]) rfl ?_
    exact badP HNO.out (((BW1.out.setCell (by simp) _).setCell (by simp) _).setCell (by simp) _) rfl
  · by_cases h2 : 40 < nv
    · have HNO : Hid (∀ n1 n3 g L h, ¬ IsPic bs n1 n3 g L h) := by
        intro n1 n3 g L h p
        have c1 := p.count
        have c2 := p.lights
        have c3 := p.bounds
        have c4 := HNV.out
        rw [c1, c2] at c4
        omega
      go_wp2
      refine bodyPost_ret (v := .tuple #[.agg #[.slice none 0 0, .int .i64 0, .slice none 0 0], .int .i64 1]) (by simp [results, Try.results8, go_sem, r0, r1, r2]) rfl ?_
      exact badP HNO.out (((BW1.out.setCell (by simp) _).setCell (by simp) _).setCell (by simp) _) rfl
    · by_cases h3 : lv < 0
      · have HNO : Hid (∀ n1 n3 g L h, ¬ IsPic bs n1 n3 g L h) := by
          intro n1 n3 g L h p
          have c1 := p.count
          have c2 := p.lights
          have c3 := p.bounds
          have c4 := HNV.out
          rw [c1, c2] at c4
          omega
        go_wp2
        refine bodyPost_ret (v := .tuple #[.agg #[.slice none 0 0, .int .i64 0, .slice none 0 0], .int .i64 1]) (by simp [results, Try.results8, go_sem, r0, r1, r2]) rfl ?_
        exact badP HNO.out (((BW1.out.setCell (by simp) _).setCell (by simp) _).setCell (by simp) _) rfl
      · by_cases h4 : 4 < lv
        · have HNO : Hid (∀ n1 n3 g L h, ¬ IsPic bs n1 n3 g L h) := by
            intro n1 n3 g L h p
            have c1 := p.count
            have c2 := p.lights
            have c3 := p.bounds
            have c4 := HNV.out
            rw [c1, c2] at c4
            omega
          go_wp2
          refine bodyPost_ret (v := .tuple #[.agg #[.slice none 0 0, .int .i64 0, .slice none 0 0], .int .i64 1]) (by simp [results, Try.results8, go_sem, r0, r1, r2]) rfl ?_
          exact badP HNO.out (((BW1.out.setCell (by simp) _).setCell (by simp) _).setCell (by simp) _) rfl
        · obtain ⟨N, hN⟩ : ∃ N : Nat, nv = N := ⟨nv.toNat, by omega⟩
          obtain ⟨Lt, hLt⟩ : ∃ L : Nat, lv = L := ⟨lv.toNat, by omega⟩
          subst hN hLt
          obtain ⟨M, hM⟩ : ∃ M, M = N * Lt := ⟨_, rfl⟩
          have hM1 : (N : Int) * (Lt : Int) = M := by rw [hM, Int.natCast_mul]
          have hN4 : N ≤ 40 := by omega
          have hL4 : Lt ≤ 4 := by omega
          have hM4 : M ≤ 160 := by rw [hM]; exact Nat.mul_le_mul hN4 hL4
          have HM : Hid (M = N * Lt) := hM
          have h1' : ¬ (N : Int) < 0 := by omega
          have h2' : ¬ (40 : Int) < N := by omega
          have h3' : ¬ (Lt : Int) < 0 := by omega
          have h4' : ¬ (4 : Int) < Lt := by omega
          have HB0 : Hid (X + 1 ≤ (V2.setCell ⟨X, 1, none⟩ (.int .i64 Lt)).heap.size) := D1.out.lt
          clear hM h1 h2 h3 h4 rN rL
          go_wp2
          clear r0 r1 r2 r3 x1 xf
          go_loopw [6] (fun si wr => ∃ (i : Nat) (vI : Value), i ≤ N ∧ si = .int .i64 i ∧ Hid (DecS V2 X vI (.int .i64 Lt) (.slice none 0 0) wr) ∧ Hid (wr.ownsRow (X + 1) 3 1 vI ((List.range i).map (idv bs)).length (vals .i64 ((List.range i).map (idv bs)))) ∧ Hid (X + 1 ≤ wr.heap.size) ∧ Hid (∀ j, j < i → 0 ≤ numB bs (7 + 4 * j) 4)) (fun si _ => N - (intOf si).toNat)
          case atStart => exact ⟨0, _, Nat.zero_le _, rfl, D1, own_nil _ _ _ _, HB0, fun j hj => absurd hj (by omega)⟩
          case round =>
            obtain ⟨i, vI, hi, rfl, hD, hO, HBX, hOK⟩ := hrel
            have c0 := hD.out.c0
            have c1 := hD.out.c1
            have f0 := hD.out.fr 0
            have HZR : Hid (RowAt .u8 wr a bs) := HZ.out.later (BV.out.trans (hD.out.bel.mono (Nat.le_of_lt HSX.out)))
            by_cases hlt : i < N
            · obtain ⟨t, ht⟩ : ∃ t, t = 7 + 4 * i := ⟨_, rfl⟩
              have ht1 : (7 : Int) + 4 * (i : Int) = t := by omega
              have ht2 : t ≤ 10000 := by omega
              have HT : Hid (t = 7 + 4 * i) := ht
              have rv := numB_range HU.out t 4 (by decide)
              have hib : (i : Int) < N := by omega
              have hown := hO.out
              have hlo : ((List.range i).map (idv bs)).length ≤ 8388608 := by simp; omega
              clear ht
              go_wp2_with fail
              refine (num6_any a c bs t 4 _ hl (by omega) (by decide) HU.out HZR.out).mono ?_
              rintro e u0 ⟨rfl, rfl⟩
              obtain ⟨v, hv⟩ : ∃ v, v = numB bs t 4 := ⟨_, rfl⟩
              rw [← hv] at rv ⊢
              have HV : Hid (v = numB bs (7 + 4 * i) 4) := by unfold Hid; rw [hv, HT.out]
              clear hv
              by_cases hv1 : v = 4294967295
              · have HLS : Hid ((List.range (i + 1)).map (idv bs) = (List.range i).map (idv bs) ++ [-1]) := by
                  unfold Hid
                  rw [List.range_succ, List.map_append]
                  congr 1
                  simp only [List.map_cons, List.map_nil, idv]
                  rw [← HV.out, if_pos hv1]
                have HOK2 : Hid (∀ j, j < i + 1 → 0 ≤ numB bs (7 + 4 * j) 4) := by
                  intro j hj
                  by_cases e : j < i
                  · exact hOK.out j e
                  · have : j = i := by omega
                    subst this
                    rw [← HV.out]
                    omega
                subst hv1
                go_wp2_with (at_builtin; refine app1 rfl (.tmp 48) (.tmp 50) 23 rfl (X + 1) 3 Try.underlying23 Try.info3 (by decide) _ _ rfl rfl hown hlo HBX.out ?_; intro a1 n1 c1 u1 hown1 hb1 hs1; have k0 := (hb1.cell (p := ⟨X, 0, none⟩) (by simp)).trans c0; have k1 := (hb1.frozen (p := ⟨X, 0, none⟩) (by simp)).trans f0)
                have HD2 : Hid (DecS V2 X (.slice a1 n1 c1) (.int .i64 Lt) (.slice none 0 0) (u1.setCell ⟨X, 0, none⟩ (.slice a1 n1 c1))) := (hD.out.mid hb1).set0 _
                have HO2 : Hid ((u1.setCell ⟨X, 0, none⟩ (.slice a1 n1 c1)).ownsRow (X + 1) 3 1 (.slice a1 n1 c1) ((List.range (i + 1)).map (idv bs)).length (vals .i64 ((List.range (i + 1)).map (idv bs)))) := by
                  unfold Hid
                  rw [HLS.out]
                  exact own_low hown1 (p := ⟨X, 0, none⟩) (by simp) (.slice a1 n1 c1)
                have HB2 : Hid (X + 1 ≤ (u1.setCell ⟨X, 0, none⟩ (.slice a1 n1 c1)).heap.size) := by unfold Hid; have := HBX.out; simp; omega
                clear hown1 hb1 hs1 k0 k1 hown
                go_roundw
                case rel => exact ⟨i + 1, _, by omega, by go_num, HD2, HO2, HB2, HOK2⟩
                case measure => simp [intOf]; omega
              · by_cases hv2 : v < 0
                · have HNO : Hid (∀ n1 n3 g L h, ¬ IsPic bs n1 n3 g L h) := by
                    intro n1 n3 g L h p
                    have c1 := p.count
                    have c2 := p.lights
                    have c3 := p.bounds
                    have c4 := HNV.out
                    rw [c1, c2] at c4
                    have c5 := p.id (i := i) (by omega)
                    have c6 := HV.out
                    rw [c5] at c6
                    split at c6 <;> omega
                  obtain ⟨r0, r1, r2, r3, HWx⟩ := HLOW.out _ hD.out.bel
                  have BWx : Hid (Below w.heap.size w u0) := HWx
                  clear HWx
                  go_wp2
                  refine bodyPost_ret (v := .tuple #[.agg #[.slice none 0 0, .int .i64 0, .slice none 0 0], .int .i64 1]) (by simp [results, Try.results8, go_sem, r0, r1, r2]) rfl ?_
                  exact badP HNO.out (((BWx.out.setCell (by simp) _).setCell (by simp) _).setCell (by simp) _) rfl
                · have HLS : Hid ((List.range (i + 1)).map (idv bs) = (List.range i).map (idv bs) ++ [v]) := by
                    unfold Hid
                    rw [List.range_succ, List.map_append]
                    congr 1
                    simp only [List.map_cons, List.map_nil, idv]
                    rw [← HV.out, if_neg hv1]
                  have HOK2 : Hid (∀ j, j < i + 1 → 0 ≤ numB bs (7 + 4 * j) 4) := by
                    intro j hj
                    by_cases e : j < i
                    · exact hOK.out j e
                    · have : j = i := by omega
                      subst this
                      rw [← HV.out]
                      omega
                  have hv3 : (v == 4294967295) = false := by simp [hv1]
                  go_wp2_with (at_builtin; refine app1 rfl (.tmp 48) (.tmp 50) 23 rfl (X + 1) 3 Try.underlying23 Try.info3 (by decide) _ _ rfl rfl hown hlo HBX.out ?_; intro a1 n1 c1 u1 hown1 hb1 hs1; have k0 := (hb1.cell (p := ⟨X, 0, none⟩) (by simp)).trans c0; have k1 := (hb1.frozen (p := ⟨X, 0, none⟩) (by simp)).trans f0)
                  have HD2 : Hid (DecS V2 X (.slice a1 n1 c1) (.int .i64 Lt) (.slice none 0 0) (u1.setCell ⟨X, 0, none⟩ (.slice a1 n1 c1))) := (hD.out.mid hb1).set0 _
                  have HO2 : Hid ((u1.setCell ⟨X, 0, none⟩ (.slice a1 n1 c1)).ownsRow (X + 1) 3 1 (.slice a1 n1 c1) ((List.range (i + 1)).map (idv bs)).length (vals .i64 ((List.range (i + 1)).map (idv bs)))) := by
                    unfold Hid
                    rw [HLS.out]
                    exact own_low hown1 (p := ⟨X, 0, none⟩) (by simp) (.slice a1 n1 c1)
                  have HB2 : Hid (X + 1 ≤ (u1.setCell ⟨X, 0, none⟩ (.slice a1 n1 c1)).heap.size) := by unfold Hid; have := HBX.out; simp; omega
                  clear hown1 hb1 hs1 k0 k1 hown
                  go_roundw
                  case rel => exact ⟨i + 1, _, by omega, by go_num, HD2, HO2, HB2, HOK2⟩
                  case measure => simp [intOf]; omega
            · have hie : N = i := by omega
              subst hie
              have hlen : ((List.range N).map (idv bs)).length = N := by simp
              have hO2 := hO.out
              rw [hlen] at hO2
              obtain ⟨aI, cI, rfl, hrI⟩ := own_rowF hO2 (f := intF (idv bs)) (by intro j hj; simp [vals, intF, hj])
              obtain ⟨W5, hW5⟩ : ∃ W5, W5 = wr := ⟨_, rfl⟩
              subst hW5
              have DI : Hid (DecS V2 X (.slice aI N cI) (.int .i64 Lt) (.slice none 0 0) W5) := hD
              have RI : Hid (RowFIn W5 (X + 1) W5.heap.size aI N (intF (idv bs))) := hrI
              have HB5 : Hid (X + 1 ≤ W5.heap.size) := HBX
              have HOKI : Hid (∀ j, j < N → 0 ≤ numB bs (7 + 4 * j) 4) := hOK
              clear hO hO2 hlen hrI hD HBX hOK HZR f0
              go_wp2
              clear c0 c1
              go_loopw [8] (fun si wr => ∃ (i : Nat) (vL : Value), i ≤ M ∧ si = .int .i64 i ∧ Hid (DecS V2 X (.slice aI N cI) (.int .i64 Lt) vL wr) ∧ Hid (wr.ownsRow W5.heap.size 4 1 vL i ((List.range i).map fun j => .bool (bitv bs N j))) ∧ Hid (W5.heap.size ≤ wr.heap.size) ∧ Hid (RowFIn wr (X + 1) W5.heap.size aI N (intF (idv bs))) ∧ Hid (∀ j, j < i → 0 ≤ numB bs (7 + 4 * N + j / 8) 1)) (fun si _ => M - (intOf si).toNat)
              case atStart => exact ⟨0, _, Nat.zero_le _, rfl, DI, World.ownsRow_nil _ _ _ _, Nat.le_refl _, RI, fun j hj => absurd hj (by omega)⟩
              case round =>
                obtain ⟨i, vL, hi, rfl, hD, hO, HBX, hRI, hOK⟩ := hrel
                have c1 := hD.out.c1
                have c2 := hD.out.c2
                have f2 := hD.out.fr 2
                have HZR : Hid (RowAt .u8 wr a bs) := HZ.out.later (BV.out.trans (hD.out.bel.mono (Nat.le_of_lt HSX.out)))
                by_cases hlt : i < M
                · obtain ⟨q, hq⟩ : ∃ q, q = i / 8 := ⟨_, rfl⟩
                  obtain ⟨r, hr⟩ : ∃ r, r = i % 8 := ⟨_, rfl⟩
                  obtain ⟨t, ht⟩ : ∃ t, t = 7 + 4 * N + q := ⟨_, rfl⟩
                  have hq1 : (i : Int).tdiv 8 = q := by rw [Int.tdiv_eq_ediv_of_nonneg (by omega)]; omega
                  have hr1 : (i : Int).tmod 8 = r := by rw [Int.tmod_eq_emod_of_nonneg (by omega)]; omega
                  have hr8 : r < 8 := by omega
                  have ht1 : (7 : Int) + 4 * (N : Int) + (q : Int) = t := by omega
                  have ht2 : t ≤ 10000 := by omega
                  have HT : Hid (t = 7 + 4 * N + i / 8 ∧ r = i % 8) := by unfold Hid; omega
                  have rv := numB_range HU.out t 1 (by decide)
                  have hib : (i : Int) < M := by omega
                  have hown := hO.out
                  have hilo : i ≤ 8388608 := by omega
                  clear ht hq hr
                  go_wp2_with fail
                  refine (num6_any a c bs t 1 _ hl (by omega) (by decide) HU.out HZR.out).mono ?_
                  rintro e u0 ⟨rfl, rfl⟩
                  obtain ⟨v, hv⟩ : ∃ v, v = numB bs t 1 := ⟨_, rfl⟩
                  rw [← hv] at rv ⊢
                  have HV : Hid (v = numB bs (7 + 4 * N + i / 8) 1) := by unfold Hid; rw [hv, HT.out.1]
                  clear hv
                  by_cases hv2 : v < 0
                  · have HNO : Hid (∀ n1 n3 g L h, ¬ IsPic bs n1 n3 g L h) := by
                      intro n1 n3 g L h p
                      have c1 := p.count
                      have c2 := p.lights
                      have c3 := p.bounds
                      have c4 := HNV.out
                      rw [c1, c2] at c4
                      have hn1 : n1 = N := by omega
                      subst hn1
                      have hLe : L = (Lt : Int) := c4.2.symm
                      have c7 := c3.2.2.2.1
                      rw [hLe, hM1] at c7
                      have c5 := p.byte (j := i) (by omega)
                      have c6 := HV.out
                      rw [c5] at c6
                      have := (bitsF_small n3 h (8 * (i / 8)) 8 (by decide)).1
                      omega
                    obtain ⟨r0, r1, r2, r3, HWx⟩ := HLOW.out _ hD.out.bel
                    have BWx : Hid (Below w.heap.size w u0) := HWx
                    clear HWx
                    go_wp2
                    refine bodyPost_ret (v := .tuple #[.agg #[.slice none 0 0, .int .i64 0, .slice none 0 0], .int .i64 1]) (by simp [results, Try.results8, go_sem, r0, r1, r2]) rfl ?_
                    exact badP HNO.out (((BWx.out.setCell (by simp) _).setCell (by simp) _).setCell (by simp) _) rfl
                  · obtain ⟨y, hy⟩ : ∃ y, y = v / 2 ^ r := ⟨_, rfl⟩
                    have hy0 : 0 ≤ y := by rw [hy]; exact Int.ediv_nonneg (by omega) (Int.pow_nonneg (by decide))
                    have hy1 : y ≤ v := by rw [hy]; exact Int.ediv_le_self _ (by omega)
                    have hy2 : v / 2 ^ r = y := hy.symm
                    have hy3 : y.tmod 2 = y % 2 := Int.tmod_eq_emod_of_nonneg hy0
                    have HY : Hid (bitv bs N i = (y % 2 == 1)) := by unfold Hid bitv; rw [← HV.out, ← HT.out.2, hy2]
                    have HLS : Hid (((List.range (i + 1)).map fun j => Value.bool (bitv bs N j)) = ((List.range i).map fun j => Value.bool (bitv bs N j)) ++ [.bool (y % 2 == 1)]) := by
                      unfold Hid
                      rw [List.range_succ, List.map_append, ← HY.out]
                      rfl
                    have HOK2 : Hid (∀ j, j < i + 1 → 0 ≤ numB bs (7 + 4 * N + j / 8) 1) := by
                      intro j hj
                      by_cases e : j < i
                      · exact hOK.out j e
                      · have : j = i := by omega
                        subst this
                        rw [← HV.out]
                        omega
                    clear hy
                    go_wp2_with (at_builtin; refine app1b rfl (.tmp 73) (.tmp 81) rfl W5.heap.size _ _ i rfl rfl hown hilo HBX.out ?_; intro a1 n1 c1' u1 hown1 hb1 hs1; have k0 := (hb1.cell (p := ⟨X, 2, none⟩) (by have := HB5.out; simp; omega)).trans c2; have k1 := (hb1.frozen (p := ⟨X, 2, none⟩) (by have := HB5.out; simp; omega)).trans f2)
                    have HD2 : Hid (DecS V2 X (.slice aI N cI) (.int .i64 Lt) (.slice a1 n1 c1') (u1.setCell ⟨X, 2, none⟩ (.slice a1 n1 c1'))) := (hD.out.mid (hb1.mono HB5.out)).set2 _
                    have HO2 : Hid ((u1.setCell ⟨X, 2, none⟩ (.slice a1 n1 c1')).ownsRow W5.heap.size 4 1 (.slice a1 n1 c1') (i + 1) ((List.range (i + 1)).map fun j => .bool (bitv bs N j))) := by
                      unfold Hid
                      rw [HLS.out]
                      exact own_low hown1 (p := ⟨X, 2, none⟩) (by show X < W5.heap.size; exact HB5.out) (.slice a1 n1 c1')
                    have HRI2 : Hid (RowFIn (u1.setCell ⟨X, 2, none⟩ (.slice a1 n1 c1')) (X + 1) W5.heap.size aI N (intF (idv bs))) := hRI.out.keepX hb1 (Nat.le_refl _) (Nat.lt_succ_self _) 2 _
                    have HB2 : Hid (W5.heap.size ≤ (u1.setCell ⟨X, 2, none⟩ (.slice a1 n1 c1')).heap.size) := by unfold Hid; have := HBX.out; simp; omega
                    clear hown1 hb1 hs1 k0 k1 hown
                    go_roundw
                    case rel => exact ⟨i + 1, _, by omega, by go_num, HD2, HO2, HB2, HRI2, HOK2⟩
                    case measure => simp [intOf]; omega
                · have hie : M = i := by omega
                  subst hie
                  obtain ⟨aB, cB, rfl, hrB⟩ := own_rowF hO.out (f := boolF (bitv bs N)) (by intro j hj; simp [boolF, hj])
                  have HPC : Hid (PcAt wr aI aB N M (idv bs) (bitv bs N)) := ⟨hRI.out.row, hrB.row⟩
                  have HRB : Hid (RowFIn wr W5.heap.size wr.heap.size aB M (boolF (bitv bs N))) := hrB
                  have HCS : Hid (∀ W, Below wr.heap.size wr W → W.cell? ⟨X, 0, none⟩ = some (.slice aI N cI) ∧ W.cell? ⟨X, 1, none⟩ = some (.int .i64 Lt) ∧ W.cell? ⟨X, 2, none⟩ = some (.slice aB M cB)) := by
                    intro W hb
                    have h0 := hD.out.mid (hb.mono (Nat.le_trans HB5.out HBX.out))
                    exact ⟨h0.c0, h0.c1, h0.c2⟩
                  have HCV : Hid (∀ W, Below wr.heap.size wr W → (convert 22 9 (.slice a bs.length c)).run Try.prog W = .ok (.string (strOfNums bs)) W) := fun W hb => conv_str (HZR.out.later hb) (bs_ne HNV.out.1) c
                  have hNM : N + M ≤ 1048576 := by omega
                  clear hrB hO f2 c2
                  go_wp2_with fail
                  clear c1
                  obtain ⟨z0, z1, z2⟩ := HCS.out _ (Below.refl _ wr).drew
                  have z3 := HCV.out _ (Below.refl _ wr).drew
                  have HV6 : Hid (∀ W, Below wr.heap.size wr W → Calls Try.prog 33 #[.agg #[.slice aI N cI, .int .i64 Lt, .slice aB M cB]] W fun e w' => e = .returned (.bool (validPc N M (idv bs) Lt)) ∧ Below W.heap.size W w') := fun W hb => validP_any aI aB N M cI cB Lt (idv bs) (bitv bs N) W hNM (HPC.out.later hb)
                  have HBW : Hid (∀ W, Below wr.heap.size wr W → Below X V2 W) := fun W hb => (hD.out.mid (hb.mono (Nat.le_trans HB5.out HBX.out))).bel
                  obtain ⟨E, hE⟩ : ∃ E, E = encPc N M (idv bs) Lt (bitv bs N) := ⟨_, rfl⟩
                  have HG : Hid (∀ i, i < N → idv bs i ≤ 4294967295) := by
                    intro i _
                    have := numB_range HU.out (7 + 4 * i) 4 (by decide)
                    unfold idv
                    split <;> omega
                  have HP6 : Hid (∀ W, Below wr.heap.size wr W → Calls Try.prog 34 #[.agg #[.slice aI N cI, .int .i64 Lt, .slice aB M cB]] W fun e w' => NewY W E e w') := by
                    intro W hb
                    rw [hE]
                    exact picture6_any aI aB N M cI cB Lt (idv bs) (bitv bs N) W (by omega) (by omega) (by omega) (by omega) HG.out (HPC.out.later hb)
                  have HE : Hid (E = encPc N M (idv bs) Lt (bitv bs N) ∧ U8 E ∧ E ≠ []) := by unfold Hid; rw [hE]; exact ⟨rfl, encPc_u8 _ _ _ _ _, encPc_ne _ _ _ _ _⟩
                  have hs1 := str_same HE.out.2.1 HU.out
                  clear hE
                  by_cases hp : IsPic bs N M (idv bs) Lt (bitv bs N)
                  · have hv := hp.ok
                    have HP : Hid (IsPic bs N M (idv bs) Lt (bitv bs N)) := hp
                    rw [decide_eq_true (HE.out.1.trans hp.enc)] at hs1
                    have hs2 : ((strOfNums E).toList == (strOfNums bs).toList) = true := (str_list _ _).trans hs1
                    clear hs1
                    rw [hv] at HV6
                    clear hp hv
                    first
                    | go_region_law (first | (have hBB := hBw; clear hBB; go_simp; refine (HP6.out _ hBw.out).mono ?_; rintro e w2 ⟨v2, rfl, ho2, hB2⟩; obtain ⟨a2, c2, rfl, hr2⟩ := ho2.row; have hBx : Hid (Below wr.heap.size wr w2) := hBw.out.trans (hB2.mono hBw.out.size); have y3 := HCV.out _ hBx.out; have y4 := conv_str hr2.row HE.out.2.2 c2; clear ho2 hB2 hr2) | (go_simp; refine (HV6.out _ (Below.refl _ wr).drew).mono ?_; rintro e w1 ⟨rfl, hB1⟩; have hBw : Hid (Below wr.heap.size wr w1) := (Below.refl _ wr).drew.trans hB1; obtain ⟨x0, x1, x2⟩ := HCS.out _ hBw.out; have x3 := HCV.out _ hBw.out; clear hB1))
                    | fail "no"
                    all_goals
                      obtain ⟨r0, r1, r2, r3, HWx⟩ := HLOW.out _ (HBW.out _ hBx.out)
                      obtain ⟨x0', x1', x2'⟩ := HCS.out _ hBx.out
                      have BWx : Hid (Below w.heap.size w w2) := HWx
                      have HR1 : Hid (RowFIn w2 (X + 1) W5.heap.size aI N (intF (idv bs))) := hRI.out.keep hBx.out HBX.out
                      have HR3 : Hid (RowFIn w2 W5.heap.size wr.heap.size aB M (boolF (bitv bs N))) := HRB.out.keep hBx.out (Nat.le_refl _)
                      have HSZ : Hid (wr.heap.size ≤ w2.heap.size) := hBx.out.size
                      clear HWx z0 z1 z2 z3 x0 x1 x2 x3 y3 y4 hBw hBx
                      go_wp2
                      refine bodyPost_ret (v := .tuple #[.agg #[.slice aI N cI, .int .i64 Lt, .slice aB M cB], .int .i64 0]) (by simp [results, Try.results8, go_sem, r0, r1, r2]) rfl ?_
                      exact goodP HP.out HR1.out HR3.out (by have := HSX.out; omega) (by have := HSX.out; have := HB5.out; omega) HBX.out HSZ.out BWx.out
                  · have HNO : Hid (∀ n1 n3 g L h, ¬ IsPic bs n1 n3 g L h) := fun n1 n3 g L h p => hp (p.read HNV.out hM1)
                    by_cases hv : validPc N M (idv bs) Lt = true
                    · have hne : ¬ E = bs := fun e => hp ⟨hv, HE.out.1.symm.trans e⟩
                      rw [decide_eq_false hne] at hs1
                      have hs2 : ((strOfNums E).toList == (strOfNums bs).toList) = false := (str_list _ _).trans hs1
                      clear hs1
                      rw [hv] at HV6
                      clear hp hv hne
                      first
                      | go_region_law (first | (have hBB := hBw; clear hBB; go_simp; refine (HP6.out _ hBw.out).mono ?_; rintro e w2 ⟨v2, rfl, ho2, hB2⟩; obtain ⟨a2, c2, rfl, hr2⟩ := ho2.row; have hBx : Hid (Below wr.heap.size wr w2) := hBw.out.trans (hB2.mono hBw.out.size); have y3 := HCV.out _ hBx.out; have y4 := conv_str hr2.row HE.out.2.2 c2; clear ho2 hB2 hr2) | (go_simp; refine (HV6.out _ (Below.refl _ wr).drew).mono ?_; rintro e w1 ⟨rfl, hB1⟩; have hBw : Hid (Below wr.heap.size wr w1) := (Below.refl _ wr).drew.trans hB1; obtain ⟨x0, x1, x2⟩ := HCS.out _ hBw.out; have x3 := HCV.out _ hBw.out; clear hB1))
                      | fail "no"
                      all_goals
                        obtain ⟨r0, r1, r2, r3, HWx⟩ := HLOW.out _ (HBW.out _ hBx.out)
                        have BWx : Hid (Below w.heap.size w w2) := HWx
                        clear HWx z0 z1 z2 z3 x0 x1 x2 x3 y3 y4
                        go_wp2
                        refine bodyPost_ret (v := .tuple #[.agg #[.slice none 0 0, .int .i64 0, .slice none 0 0], .int .i64 1]) (by simp [results, Try.results8, go_sem, r0, r1, r2]) rfl ?_
                        exact badP HNO.out (((BWx.out.setCell (by simp) _).setCell (by simp) _).setCell (by simp) _) rfl
                    · clear hp
                      rw [Bool.not_eq_true] at hv
                      rw [hv] at HV6
                      first
                      | go_region_law (go_simp; refine (HV6.out _ (Below.refl _ wr).drew).mono ?_; rintro e w1 ⟨rfl, hB1⟩; have hBw : Hid (Below wr.heap.size wr w1) := (Below.refl _ wr).drew.trans hB1)
                      | fail "no"
                      all_goals
                        obtain ⟨r0, r1, r2, r3, HWx⟩ := HLOW.out _ (HBW.out _ hBw.out)
                        have BWx : Hid (Below w.heap.size w w1) := HWx
                        clear HWx hB1 z0 z1 z2 z3
                        go_wp2
                        refine bodyPost_ret (v := .tuple #[.agg #[.slice none 0 0, .int .i64 0, .slice none 0 0], .int .i64 1]) (by simp [results, Try.results8, go_sem, r0, r1, r2]) rfl ?_
                        exact badP HNO.out (((BWx.out.setCell (by simp) _).setCell (by simp) _).setCell (by simp) _) rfl

end Go.Proofs.Ytcjdnomhnlbmbaa
