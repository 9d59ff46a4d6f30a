/-
  The program's EncodePicture.
-/
import Derived.Test.YtcjdnomhnlbmbaaLawEpIpB
import Derived.Test.YtcjdnomhnlbmbaaIqDIeN
import Derived.Test.YtcjdnomhnlbmbaaLawDp
namespace Go.Proofs.Ytcjdnomhnlbmbaa
open Go.RowKit

theorem idB_neg : leB 4294967295 4 = [255, 255, 255, 255] := by decide

set_option maxRecDepth 100000 in
set_option maxHeartbeats 4000000 in
theorem encPN_any (a1 a3 : Option Addr) (n1 n3 c1 c3 : Nat) (L : Int) (g : Nat → Int) (h : Nat → Bool) (w : World) (hn : n1 + n3 ≤ 1048576) (hs : PcAt w a1 a3 n1 n3 g h) :
    Calls Try.prog 19 #[.agg #[.slice a1 n1 c1, .int .i64 L, .slice a3 n3 c3]] w fun e w' => NewY w (encPV n1 n3 g L h) e w' := by
  have HSC : Hid (PcAt w a1 a3 n1 n3 g h) := hs
  obtain ⟨W0, hW0⟩ : ∃ W0, W0 = w.alloc (.cells #[.slice a1 n1 c1, .int .i64 L, .slice a3 n3 c3] 26) := ⟨_, rfl⟩
  have L0 : Hid (LwP w a1 a3 n1 n3 c1 c3 L g h W0) := by unfold Hid; rw [hW0]; exact LwP.start hs _
  have S0 : W0.heap.size = w.heap.size + 1 := by rw [hW0]; simp
  have HQ : Hid (∀ w', Below (w.heap.size + 1) W0 w' → w'.cell? ⟨w.heap.size, 0, none⟩ = some (.slice a1 n1 c1) ∧ w'.cell? ⟨w.heap.size, 1, none⟩ = some (.int .i64 L) ∧ w'.cell? ⟨w.heap.size, 2, none⟩ = some (.slice a3 n3 c3)) := by
    intro w' hb
    exact ⟨(hb.cell (p := ⟨w.heap.size, 0, none⟩) (by simp)).trans L0.out.bx.q0, (hb.cell (p := ⟨w.heap.size, 1, none⟩) (by simp)).trans L0.out.bx.q1, (hb.cell (p := ⟨w.heap.size, 2, none⟩) (by simp)).trans L0.out.bx.q2⟩
  clear hs
  go_enter Try.func19, Try.ntmps19
  go_wp2_with fail
  rw [← hW0]
  refine (validPI_any a1 a3 n1 n3 c1 c3 L g h _ hn L0.out.pc).mono ?_
  rintro e V ⟨rfl, hb1⟩
  have B1 : Hid (Below (w.heap.size + 1) W0 V) := by unfold Hid; rw [← S0]; exact hb1
  have Z1 : w.heap.size + 1 ≤ V.heap.size := by have := hb1.size; omega
  clear hb1 hW0
  cases hv : validPc n1 n3 g L
  · go_wp2
    go_ret
    exact ⟨_, rfl, by rw [encPV_bad hv]; exact OwnY.nil _ _, L0.out.bel.trans (B1.out.mono (Nat.le_succ _))⟩
  · have hb3 : n1 ≤ 40 ∧ 0 ≤ L ∧ L ≤ 4 ∧ (n3 : Int) ≤ 160 ∧ Hid (∀ i, i < n1 → -1 ≤ g i ∧ g i < 40) := by
      unfold validPc at hv
      simp only [Bool.and_eq_true, decide_eq_true_eq] at hv
      obtain ⟨⟨⟨⟨q1, q2⟩, q3⟩, q4⟩, q5⟩ := hv
      have e1 : (n1 : Int) * L ≤ 40 * L := Int.mul_le_mul_of_nonneg_right (by omega) q2
      refine ⟨q1, q2, q3, by omega, fun i hi => ?_⟩
      rw [List.all_eq_true] at q5
      have := q5 i (List.mem_range.2 hi)
      unfold idOK at this
      simp at this
      exact this
    obtain ⟨h1, h2, h3, h4, HI⟩ := hb3
    have HV : Hid (encPV n1 n3 g L h = encPc n1 n3 g L h) := encPV_ok hv
    have p0 : (V.alloc (.cells #[.int .u8 80, .int .u8 73, .int .u8 67, .int .u8 84] 5 (4, 5))).cell? ⟨w.heap.size, 0, none⟩ = some (.slice a1 n1 c1) := (HQ.out _ (B1.out.alloc Z1 _)).1
    have hcv := Go.Joins.run_convert_bytes_const_at (P := Try.prog) V 22 5 #[.int .u8 80, .int .u8 73, .int .u8 67, .int .u8 84] 4 4 V.heap.size rfl Try.underlying22 Try.underlying5
    have R0 : Hid (∀ t fr, RowAt .u8 (V.alloc (.cells #[.int .u8 80, .int .u8 73, .int .u8 67, .int .u8 84] t fr)) (some ⟨V.heap.size, 0, none⟩) [80, 73, 67, 84]) := fun t fr => row_pict V t fr rfl
    go_wp2_with fail
    refine (appNum_any (w.heap.size + 1) _ [80, 73, 67, 84] n1 2 _ (by omega) (by omega) (by decide) (by decide) (by decide) (.inr ⟨_, rfl, R0.out _ _, by decide⟩) (by simp; omega)).mono ?_
    rintro e w1 ⟨g1, m1, k1, rfl, hk⟩
    have E1 : Hid (EncS W0 (w.heap.size + 1) (.slice (some ⟨g1, 0, none⟩) m1 k1) ([80, 73, 67, 84] ++ leB n1 2) w1) := EncS.first (B1.out.alloc Z1 _) (by simp; omega) (fun k hk => by simp [Value.ownBlock] at hk; omega) hk
    have G1 := hk.lt.1
    clear p0
    obtain ⟨p0, p1, p2⟩ := HQ.out w1 E1.out.bel
    clear hk B1 R0 hcv
    go_wp2_with fail
    refine (appNum_any (w.heap.size + 1) (.slice (some ⟨g1, 0, none⟩) m1 k1) ([80, 73, 67, 84] ++ leB n1 2) L 1 _ (by omega) (by omega) (by decide) (by decide) (by simp [leB_length]) (.inl E1.out.own) E1.out.le).mono ?_
    rintro e w2 ⟨g2, m2, k2, rfl, hk⟩
    have E2 : Hid (EncS W0 (w.heap.size + 1) (.slice (some ⟨g2, 0, none⟩) m2 k2) (headP n1 L) w2) := E1.out.grew (Below.refl _ _) G1 hk
    obtain ⟨p0, p1, p2⟩ := HQ.out w2 E2.out.bel
    clear hk E1 G1
    go_wp2
    go_loopw [3, 5, 25] (fun so _ si wr => ∃ (i : Nat), i ≤ n1 ∧ si = .int .i64 i ∧ Hid (EncS W0 (w.heap.size + 1) so (headP n1 L ++ idsB g i) wr)) (fun _ _ si _ => n1 - (intOf si).toNat)
    case atStart => exact ⟨0, Nat.zero_le _, rfl, EncS.re E2.out (by simp [idsB])⟩
    case round =>
      obtain ⟨i, hi, rfl, hE⟩ := hrel
      obtain ⟨p0, p1, p2⟩ := HQ.out wr hE.out.bel
      have hyl : (headP n1 L ++ idsB g i).length ≤ 400000 := by
        simp only [List.length_append, headP_length, idsB_length]
        omega
      have hy0 : 0 < (headP n1 L ++ idsB g i).length := by
        simp only [List.length_append, headP_length]
        omega
      obtain ⟨gi, ni, ci, rfl, hg0, hg1⟩ := hE.out.form hy0
      by_cases hlt : i < n1
      · obtain ⟨b, off, rfl, hbl, hc⟩ := L0.out.pc.r1.resolve_left (by omega)
        have q : wr.cell? ⟨b, off + i, none⟩ = some (.int .i64 (g i)) := (hE.out.bel.cell (p := ⟨b, off + i, none⟩) (by simp; omega)).trans (hc i hlt)
        have hib : (i : Int) < n1 := by omega
        have hx := HI.out i hlt
        have HF : Hid (headP n1 L ++ idsB g (i + 1) = (headP n1 L ++ idsB g i) ++ idB (g i)) := by unfold Hid; rw [idsB, List.append_assoc]
        obtain ⟨x, hxx⟩ : ∃ x, x = g i := ⟨_, rfl⟩
        rw [← hxx] at q hx HF
        obtain ⟨Y, hY⟩ : ∃ Y, Y = headP n1 L ++ idsB g i := ⟨_, rfl⟩
        rw [← hY] at hyl hy0 HF hE
        have hles := hE.out.le
        clear hc hbl hxx hY hy0
        by_cases hneg : x < 0
        · have hx1 : x = -1 := by omega
          subst hx1
          go_wp2_with fail
          refine (appNum_any (w.heap.size + 1) (.slice (some ⟨gi, 0, none⟩) ni ci) Y 4294967295 4 _ (by decide) (by decide) (by decide) (by decide) (by omega) (.inl hE.out.own) hles).mono ?_
          rintro e u ⟨g3, m3, k3, rfl, hk⟩
          have EN : Hid (EncS W0 (w.heap.size + 1) (.slice (some ⟨g3, 0, none⟩) m3 k3) (headP n1 L ++ idsB g (i + 1)) u) := by unfold Hid; rw [HF.out, show idB (-1) = leB 4294967295 4 by rw [idB_neg]; rfl]; exact hE.out.grew (Below.refl _ _) hg0 hk
          clear hk hE p0 p1 p2 hg0 hg1 hles q hx HF
          go_wp2
          go_roundw
          case rel => exact ⟨i + 1, by omega, by go_num, EN⟩
          case measure => simp [intOf]; omega
        · have hx0 : 0 ≤ x := by omega
          have hx4 : x < 40 := by omega
          clear hx hneg
          go_wp2_with fail
          refine (appNum_any (w.heap.size + 1) (.slice (some ⟨gi, 0, none⟩) ni ci) Y x 4 _ hx0 (by omega) (by decide) (by decide) (by omega) (.inl hE.out.own) hles).mono ?_
          rintro e u ⟨g3, m3, k3, rfl, hk⟩
          have EN : Hid (EncS W0 (w.heap.size + 1) (.slice (some ⟨g3, 0, none⟩) m3 k3) (headP n1 L ++ idsB g (i + 1)) u) := by unfold Hid; rw [HF.out, show idB x = leB x 4 by unfold idB; rw [if_neg (by omega)]]; exact hE.out.grew (Below.refl _ _) hg0 hk
          clear hk hE p0 p1 p2 hg0 hg1 hles q hx0 hx4 HF
          go_wp2
          go_roundw
          case rel => exact ⟨i + 1, by omega, by go_num, EN⟩
          case measure => simp [intOf]; omega
      · have hie : n1 = i := by omega
        subst hie
        have HR3 : Hid (RowF wr a3 n3 (boolF h)) := L0.out.pc.r3.later (by rw [S0]; exact hE.out.bel)
        have HG3 : Hid (∀ b off, a3 = some ⟨b, off, none⟩ → n3 ≠ 0 → gi ≠ b) := by
          intro b off e1 e2
          obtain ⟨b', off', e3, e4, _⟩ := HSC.out.r3.resolve_left e2
          rw [e1] at e3
          cases e3
          omega
        clear hy0
        go_wp2_with fail
        refine (appBits_any (w.heap.size + 1) gi ni ci (headP n1 L ++ idsB g n1) a3 n3 c3 h _ (by omega) HR3.out HG3.out (by omega) hE.out.own hE.out.le).mono ?_
        rintro e u ⟨g4, m4, k4, rfl, hk⟩
        have EF : Hid (EncS W0 (w.heap.size + 1) (.slice (some ⟨g4, 0, none⟩) m4 k4) (headP n1 L ++ idsB g n1 ++ litB n3 h ((n3 + 7) / 8)) u) := hE.out.grew (Below.refl _ _) hg0 hk
        clear hk hE p0 p1 p2 hg0 hg1 hyl
        go_wp2
        go_ret
        exact ⟨_, rfl, by rw [HV.out]; exact EF.out.own.up (Nat.le_succ _), L0.out.bel.trans (EF.out.bel.mono (Nat.le_succ _))⟩

theorem encPI_any : EncPSays 19 := fun a1 a3 n1 n3 c1 c3 L g h w hn hs => (encPN_any a1 a3 n1 n3 c1 c3 L g h w hn hs).mono (fun _ _ h => h.out)

end Go.Proofs.Ytcjdnomhnlbmbaa

/-
  The program's DecodePicture.
-/
namespace Go.Proofs.Ytcjdnomhnlbmbaa
open Go.RowKit

theorem conv_none (w : World) : (convert 22 9 (.slice none 0 0)).run Try.prog w = .ok (.string (strOfNums [])) w := by
  kernel_rfl
theorem conv_own {w : World} {base : Nat} {v : Value} {ys : List Int} (h : OwnY w base v ys) : (convert 22 9 v).run Try.prog w = .ok (.string (strOfNums ys)) w := by
  by_cases hy : ys = []
  · subst hy
    rcases h.2 with ⟨h1, _⟩ | ⟨g, cap, cur, h1, _⟩
    · rw [h1]; exact conv_none w
    · rw [h1]
      exact run_convert_bytes_arg w 22 5 Try.underlying22 Try.underlying5 g 0 0 cap [] rfl (fun j hj => by simp at hj) 9 Try.underlying9
  · obtain ⟨a, c, rfl, hr⟩ := h.row
    exact conv_str hr.row hy c

theorem equal_any (v1 v2 : Value) (xs ys : List Int) (w : World) (h1 : (convert 22 9 v1).run Try.prog w = .ok (.string (strOfNums xs)) w) (h2 : (convert 22 9 v2).run Try.prog w = .ok (.string (strOfNums ys)) w) (hx : U8 xs) (hy : U8 ys) :
    Calls Try.prog 37 #[v1, v2] w fun e w' => e = .returned (.bool (decide (xs = ys))) ∧ w' = w := by
  have HE : Hid ((strOfNums xs == strOfNums ys) = decide (xs = ys)) := str_same hx hy
  have hl := str_list (strOfNums xs) (strOfNums ys)
  rw [HE.out] at hl
  obtain ⟨t, ht⟩ : ∃ t, t = decide (xs = ys) := ⟨_, rfl⟩
  rw [← ht] at hl ⊢
  clear HE ht hx hy
  go_enter Try.func37, Try.ntmps37
  go_wp2
  go_ret
  exact ⟨by first | rfl | rw [hl], rfl⟩

theorem encPV_u8 (n1 n3 : Nat) (g : Nat → Int) (L : Int) (h : Nat → Bool) : U8 (encPV n1 n3 g L h) := by
  cases hv : validPc n1 n3 g L
  · rw [encPV_bad hv]; intro z hz; simp at hz
  · rw [encPV_ok hv]; exact encPc_u8 _ _ _ _ _

theorem IsPic.other {bs : List Int} {n1 n3 : Nat} {g g' : Nat → Int} {L : Int} {h : Nat → Bool} (p : IsPic bs n1 n3 g L h) (e : ∀ i, i < n1 → g i = g' i) : IsPic bs n1 n3 g' L h := by
  refine ⟨?_, ?_⟩
  · have h1 := p.ok
    unfold validPc at h1 ⊢
    have h2 : (List.range n1).all (idOK g') = (List.range n1).all (idOK g) := by
      rw [Bool.eq_iff_iff, List.all_eq_true, List.all_eq_true]
      constructor
      · intro hq i hi
        have := hq i hi
        unfold idOK at this ⊢
        rw [e i (List.mem_range.1 hi)]
        exact this
      · intro hq i hi
        have := hq i hi
        unfold idOK at this ⊢
        rw [← e i (List.mem_range.1 hi)]
        exact this
    rw [h2]
    exact h1
  · have h1 := p.enc
    unfold encPc at h1 ⊢
    rw [← idsB_congr n1 e]
    exact h1

/-- If there is a picture, it is what was read. -/
theorem PicR.found {bs : List Int} {N Lt M : Nat} (q : PicR bs N Lt M) {n1 n3 : Nat} {g : Nat → Int} {L : Int} {h : Nat → Bool} (p : IsPic bs n1 n3 g L h) : IsPic bs N M (idr bs) Lt (bitv bs N) := by
  have hr : IsPic bs N M (idv bs) Lt (bitv bs N) := p.read ⟨q.n, q.l⟩ (by rw [q.m]; push_cast; rfl)
  refine hr.other (fun i hi => ?_)
  have hb := hr.bounds.2.2.2.2 i hi
  unfold idv at hb ⊢
  unfold idr sgn32
  by_cases h1 : numB bs (7 + 4 * i) 4 = 4294967295
  · rw [if_pos h1, if_neg (by omega), h1]
    rfl
  · rw [if_neg h1] at hb ⊢
    rw [if_pos (by omega)]
theorem PicR.made {bs : List Int} {N Lt M : Nat} (hne : bs ≠ []) (he : encPV N M (idr bs) Lt (bitv bs N) = bs) : IsPic bs N M (idr bs) Lt (bitv bs N) := by
  cases hv : validPc N M (idr bs) Lt
  · rw [encPV_bad hv] at he
    exact absurd he.symm hne
  · rw [encPV_ok hv] at he
    exact ⟨hv, he⟩

theorem picture_all (R : Nat) (a : Option Addr) (c : Nat) (bs : List Int) (w : World) (hl : bs.length ≤ 1048576) (hc : bs.length ≤ c) (hu : U8 bs) (hz : RowAt .u8 w a bs) (hR : R < w.heap.size) (hap : ∀ b off, a = some ⟨b, off, none⟩ → bs ≠ [] → b ≠ R) (c0 : w.cell? ⟨R, 0, none⟩ = some (.slice a bs.length c)) (c1 : w.cell? ⟨R, 1, none⟩ = some (.int .i64 0)) (fr : w.frozen? ⟨R, 1, none⟩ = false) :
    Calls Try.prog 36 #[.pointer (some ⟨R, 0, none⟩)] w fun e w' => PctOut w R bs e w' := by
  by_cases hb : bs = []
  · subst hb
    refine (picture_none R a c w c0 c1 hR).mono ?_
    intro e w' h
    exact .inr ⟨(5, 0), by decide, fun n1 n3 g L h p => by have := p.len; simp at this; omega, h⟩
  · obtain ⟨b, off, rfl, h2, h3⟩ := hz.resolve_left hb
    exact picture_any R b off c bs w hu h2 ⟨c0, c1, fr, hR, .inr ⟨b, off, rfl, h2, h3⟩, hap b off rfl hb, Nat.zero_le _, hc, hl⟩

set_option maxRecDepth 100000 in
set_option maxHeartbeats 1000000 in
theorem decPI_any : DecPSays 10 := by
  intro a c bs w hl hc hu hz
  have HU : Hid (U8 bs) := hu
  have HZ : Hid (RowAt .u8 w a bs) := hz
  have hmf : ∀ (fn : Fn) (first cap : Array Value) (w : World), (Instr.makeFunc fn first cap).run Try.prog w = .ok (.func fn first cap) w := fun _ _ _ _ => rfl
  have HAP : Hid (∀ b off, a = some ⟨b, off, none⟩ → bs ≠ [] → b ≠ w.heap.size + 1) := by
    intro b off e1 e2
    obtain ⟨b', off', e3, e4, _⟩ := hz.resolve_left e2
    rw [e1] at e3
    cases e3
    omega
  clear hu hz
  go_enter Try.func10, Try.ntmps10
  go_wp2_with fail
  refine (caughtP_any (w.heap.size + 1) bs _ (by simp) ?_).mono ?_
  · refine picture_all (w.heap.size + 1) a c bs _ hl hc HU.out (HZ.out.later ?_) (by simp <;> omega) HAP.out (by simp [go_sem]) (by simp [go_sem]) (by simp [go_sem])
    exact ((bel2 _ _ _).alloc (by simp; omega) _).alloc (by simp; omega) _
  rintro e V (⟨N, Lt, M, aI, aB, cI, cB, l1, h1, l3, h3, hp, rfl, hs, has⟩ | ⟨x, hnz, hno, rfl, has⟩)
  · have hsz := has.size
    simp at hsz
    obtain ⟨W, hW⟩ : ∃ W, W = (V.alloc (.cells #[.slice aI N cI, .int .i64 Lt, .slice aB M cB] 26)).alloc (.cells #[.int .i64 0, .int .i64 0] 65) := ⟨_, rfl⟩
    have hbW : Below V.heap.size V W := by rw [hW]; exact bel2 _ _ _
    have hbV : Below w.heap.size w V := (bel2 _ _ _).trans (has.below (Nat.le_succ _) (by simp; omega))
    have key : ∀ j, W.cell? ⟨w.heap.size, j, none⟩ = (w.alloc (.cells #[.slice none 0 0, .int .i64 0, .slice none 0 0] 26)).cell? ⟨w.heap.size, j, none⟩ ∧ W.frozen? ⟨w.heap.size, j, none⟩ = (w.alloc (.cells #[.slice none 0 0, .int .i64 0, .slice none 0 0] 26)).frozen? ⟨w.heap.size, j, none⟩ := by
      intro j
      exact ⟨(((bcell hbW).1 _ _ (by omega)).trans (has.cell (p := ⟨w.heap.size, j, none⟩) (by simp; omega) (by simp))).trans ((bcell (bel0 _ _)).1 _ _ (by simp)), (((bcell hbW).2 _ _ (by omega)).trans (has.frozen (p := ⟨w.heap.size, j, none⟩) (by simp; omega) (by simp))).trans ((bcell (bel0 _ _)).2 _ _ (by simp))⟩
    have q0 : W.cell? ⟨w.heap.size, 0, none⟩ = some (.slice none 0 0) := by rw [(key 0).1]; simp [go_sem]
    have q1 : W.cell? ⟨w.heap.size, 1, none⟩ = some (.int .i64 0) := by rw [(key 1).1]; simp [go_sem]
    have q2 : W.cell? ⟨w.heap.size, 2, none⟩ = some (.slice none 0 0) := by rw [(key 2).1]; simp [go_sem]
    have f0 : W.frozen? ⟨w.heap.size, 0, none⟩ = false := by rw [(key 0).2]; simp [go_sem]
    have f1 : W.frozen? ⟨w.heap.size, 1, none⟩ = false := by rw [(key 1).2]; simp [go_sem]
    have f2 : W.frozen? ⟨w.heap.size, 2, none⟩ = false := by rw [(key 2).2]; simp [go_sem]
    have p0 : W.cell? ⟨V.heap.size, 0, none⟩ = some (.slice aI N cI) := by rw [hW]; simp [go_sem]
    have p1 : W.cell? ⟨V.heap.size, 1, none⟩ = some (.int .i64 Lt) := by rw [hW]; simp [go_sem]
    have p2 : W.cell? ⟨V.heap.size, 2, none⟩ = some (.slice aB M cB) := by rw [hW]; simp [go_sem]
    have hzW : W.heap.size = V.heap.size + 2 := by rw [hW]; simp
    have HPR : Hid (PicR bs N Lt M) := hp
    have hne : bs ≠ [] := bs_ne hp.n
    have HPA : Hid (PcAt W aI aB N M (idr bs) (bitv bs N)) := hs.at.later hbW
    have hNM : N + M ≤ 1048576 := by
      have h1 := hp.n40
      have h2 := hp.l4
      have h3 : M ≤ 40 * 4 := by rw [hp.m]; exact Nat.mul_le_mul h1 h2
      omega
    have HSV : Hid (∀ U, Aside w.heap.size W U → PcDj U w.heap.size U.heap.size aI aB N M (idr bs) (bitv bs N) l1 h1 l3 h3 ∧ Below w.heap.size w U) := by
      intro U hU
      have hUz := hU.size
      have g1 := hs.i1
      have g3 := hs.i3
      simp at g1 g3
      refine ⟨⟨⟨by omega, by omega⟩, ⟨by omega, by omega⟩, hs.d13, Nat.le_refl _, rowF_aside (hs.r1.later hbW) hU (by omega), rowF_aside (hs.r3.later hbW) hU (by omega)⟩, ?_⟩
      exact (hbV.trans (hbW.mono (by omega))).trans (hU.below (Nat.le_refl _) (by omega))
    have HZV : Hid (RowAt .u8 W a bs) := HZ.out.later (hbV.trans (hbW.mono (by omega)))
    clear hs has key hbW hbV hp
    go_wp2_with fail
    rw [← hW]
    clear hW
    refine (encPN_any aI aB N M cI cB Lt (idr bs) (bitv bs N) W hNM HPA.out).mono ?_
    rintro e W2 ⟨v, rfl, ho, hb2⟩
    have hcv := conv_own ho
    have hcb := conv_str (HZV.out.later hb2) hne c
    have A2 : Hid (Aside w.heap.size W W2) := Aside.of hb2
    have r0 := ((bcell hb2).1 w.heap.size 0 (by omega)).trans q0
    have r1 := ((bcell hb2).1 w.heap.size 1 (by omega)).trans q1
    have r2 := ((bcell hb2).1 w.heap.size 2 (by omega)).trans q2
    have s0 := ((bcell hb2).2 w.heap.size 0 (by omega)).trans f0
    have s1 := ((bcell hb2).2 w.heap.size 1 (by omega)).trans f1
    have s2 := ((bcell hb2).2 w.heap.size 2 (by omega)).trans f2
    have t0 := ((bcell hb2).1 V.heap.size 0 (by omega)).trans p0
    have t1 := ((bcell hb2).1 V.heap.size 1 (by omega)).trans p1
    have t2 := ((bcell hb2).1 V.heap.size 2 (by omega)).trans p2
    have HC : Hid ((convert 22 9 v).run Try.prog W2 = .ok (.string (strOfNums (encPV N M (idr bs) Lt (bitv bs N)))) W2 ∧ (convert 22 9 (.slice a bs.length c)).run Try.prog W2 = .ok (.string (strOfNums bs)) W2) := ⟨hcv, hcb⟩
    clear ho hb2 hcv hcb q0 q1 q2 f0 f1 f2 p0 p1 p2 HZV
    go_wp2_with fail
    refine (equal_any v (.slice a bs.length c) _ bs W2 HC.out.1 HC.out.2 (encPV_u8 _ _ _ _ _) HU.out).mono ?_
    rintro e W3 ⟨rfl, rfl⟩
    by_cases heq : encPV N M (idr bs) Lt (bitv bs N) = bs
    · have HPic : Hid (IsPic bs N M (idr bs) Lt (bitv bs N)) := PicR.made hne heq
      rw [decide_eq_true heq]
      clear heq HC
      go_wp2
      refine bodyPost_ret (v := .tuple #[.agg #[.slice aI N cI, .int .i64 Lt, .slice aB M cB], .int .i64 0]) (by simp [results, Try.results10, go_sem, r0, r1, r2]) rfl ?_
      have hU := HSV.out _ (((A2.out.set 0 (.slice aI N cI)).set 1 (.int .i64 Lt)).set 2 (.slice aB M cB))
      exact ⟨aI, aB, cI, cB, N, M, idr bs, Lt, bitv bs N, 0, l1, h1, l3, h3, rfl, .inl ⟨rfl, HPic.out⟩, hU.1, hU.2⟩
    · have HNo : Hid (∀ n1 n3 g L h, ¬ IsPic bs n1 n3 g L h) := fun n1 n3 g L h p => heq (by
        have q := HPR.out.found p
        rw [encPV_ok q.ok]
        exact q.enc)
      rw [decide_eq_false heq]
      clear heq HC
      go_wp2
      refine bodyPost_ret (v := .tuple #[.agg #[.slice none 0 0, .int .i64 0, .slice none 0 0], .int .i64 1]) (by simp [results, Try.results10, go_sem, r0, r1, r2]) rfl ?_
      have hU := HSV.out _ (((A2.out.set 0 (.slice none 0 0)).set 1 (.int .i64 0)).set 2 (.slice none 0 0))
      exact badP HNo.out hU.2 rfl
  · have hsz := has.size
    simp at hsz
    obtain ⟨W, hW⟩ : ∃ W, W = (V.alloc (.cells #[.slice none 0 0, .int .i64 0, .slice none 0 0] 26)).alloc (.cells #[.int .i64 x.1, .int .i64 x.2] 65) := ⟨_, rfl⟩
    have hbW : Below V.heap.size V W := by rw [hW]; exact bel2 _ _ _
    have hbV : Below w.heap.size w V := (bel2 _ _ _).trans (has.below (Nat.le_succ _) (by simp; omega))
    have key : ∀ j, W.cell? ⟨w.heap.size, j, none⟩ = (w.alloc (.cells #[.slice none 0 0, .int .i64 0, .slice none 0 0] 26)).cell? ⟨w.heap.size, j, none⟩ ∧ W.frozen? ⟨w.heap.size, j, none⟩ = (w.alloc (.cells #[.slice none 0 0, .int .i64 0, .slice none 0 0] 26)).frozen? ⟨w.heap.size, j, none⟩ := by
      intro j
      exact ⟨(((bcell hbW).1 _ _ (by omega)).trans (has.cell (p := ⟨w.heap.size, j, none⟩) (by simp; omega) (by simp))).trans ((bcell (bel0 _ _)).1 _ _ (by simp)), (((bcell hbW).2 _ _ (by omega)).trans (has.frozen (p := ⟨w.heap.size, j, none⟩) (by simp; omega) (by simp))).trans ((bcell (bel0 _ _)).2 _ _ (by simp))⟩
    have q0 : W.cell? ⟨w.heap.size, 0, none⟩ = some (.slice none 0 0) := by rw [(key 0).1]; simp [go_sem]
    have q1 : W.cell? ⟨w.heap.size, 1, none⟩ = some (.int .i64 0) := by rw [(key 1).1]; simp [go_sem]
    have q2 : W.cell? ⟨w.heap.size, 2, none⟩ = some (.slice none 0 0) := by rw [(key 2).1]; simp [go_sem]
    have f0 : W.frozen? ⟨w.heap.size, 0, none⟩ = false := by rw [(key 0).2]; simp [go_sem]
    have f1 : W.frozen? ⟨w.heap.size, 1, none⟩ = false := by rw [(key 1).2]; simp [go_sem]
    have f2 : W.frozen? ⟨w.heap.size, 2, none⟩ = false := by rw [(key 2).2]; simp [go_sem]
    have p3 : W.cell? ⟨V.heap.size + 1, 0, none⟩ = some (.int .i64 x.1) := by rw [hW]; simp [go_sem]
    have HNo : Hid (∀ n1 n3 g L h, ¬ IsPic bs n1 n3 g L h) := hno
    have hnx : (x.1 != 0) = true := by simpa using hnz
    have HB : Hid (∀ U, Aside w.heap.size W U → Below w.heap.size w U) := fun U hU => (hbV.trans (hbW.mono (by omega))).trans (hU.below (Nat.le_refl _) (by have := hbW.size; omega))
    clear has key hbW hbV hno hnz
    subst hW
    go_wp2
    refine bodyPost_ret (v := .tuple #[.agg #[.slice none 0 0, .int .i64 0, .slice none 0 0], .int .i64 1]) (by simp [results, Try.results10, go_sem, q0, q1, q2]) rfl ?_
    exact badP HNo.out (HB.out _ ((((Aside.refl w.heap.size _).set 0 (.slice none 0 0)).set 1 (.int .i64 0)).set 2 (.slice none 0 0))) rfl

end Go.Proofs.Ytcjdnomhnlbmbaa
