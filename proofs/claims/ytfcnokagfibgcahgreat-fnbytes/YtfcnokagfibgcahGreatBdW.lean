/-
  The law of bytes.
-/
import Derived.Test.YtfcnokagfibgcahGreatBdSBdTBdU
import Derived.Test.YtfcnokagfibgcahGreatBdVRdTRdU
import Derived.Test.YtfcnokagfibgcahGreatBdVRdTRdU
import Derived.Test.YtfcnokagfibgcahGreatBytesToSpF
import Derived.Test.YtfcnokagfibgcahGreatIeNIvSLawEsIeS
import Derived.Test.YtfcnokagfibgcahGreatIpALawEpIpBIpC
import Derived.Test.YtfcnokagfibgcahGreatIdIIdJIdK
import Derived.Test.YtfcnokagfibgcahGreatIqAIqBIqCIqDIqE
namespace Go.Proofs.YtfcnokagfibgcahGreat
open Go.RowKit

theorem bxF_later {w w' : World} {X : Nat} {v0 v1 v2 : Value} (h : BxF w X v0 v1 v2) (hb : Below w.heap.size w w') : BxF w' X v0 v1 v2 := h.aside (Aside.of (P := X + 1) hb) (by omega)

/-- A valid scene's bytes, read. -/
theorem dec_enc {n1 n2 n3 : Nat} {z1 z2 z3 : List Int} (hv : validSc n1 n2 n3 z1 z2 z3 = true) (l1 : z1.length = n1 * 9) (l2 : z2.length = n2 * 6) (l3 : z3.length = n3 * 3) (u1 : U32 z1) (u2 : U32 z2) (u3 : U32 z3) (b1 : n1 ≤ 41) (b2 : n2 ≤ 41) (b3 : n3 ≤ 5) (v : Value) (w : World) (base : Nat) (ho : OwnY w base v (encV n1 n2 n3 z1 z2 z3)) :
    Calls Tryz.prog 19 #[v] w fun e w' => ∃ a1 a2 a3 c1 c2 c3, e = .returned (.tuple #[.agg #[.slice a1 n1 c1, .slice a2 n2 c2, .slice a3 n3 c3], .int .i64 0, .int .i64 0]) ∧ ScAt w' a1 a2 a3 n1 n2 n3 z1 z2 z3 ∧ Below w.heap.size w w' := by
  rw [encV_ok hv] at ho
  obtain ⟨a, c, rfl, hr⟩ := ho.row
  obtain ⟨_, hc, _⟩ := ownY_out ho
  have hl : (encSc n1 n2 n3 z1 z2 z3).length ≤ 1048576 := by rw [encSc_len l1 l2 l3]; omega
  refine (decI_any a c (encSc n1 n2 n3 z1 z2 z3) w hl hc (encSc_u8 n1 n2 n3 z1 z2 z3) hr.row).mono ?_
  rintro e w' ⟨a1, a2, a3, c1, c2, c3, _, _, _, _, _, _, rfl, hj, hb⟩
  obtain ⟨e0, e1, e2, e3, e4, e5⟩ := enc_back hv l1 l2 l3 u1 u2 u3
  have hf := enc_fault hv l1 l2 l3 u1 u2 u3
  have hs := hj.at
  rw [e0, e1, e2, e3, e4, e5] at hs
  refine ⟨a1, a2, a3, c1, c2, c3, ?_, hs, hb⟩
  rw [e0, e1, e2, hf]

/-- A valid picture's bytes, read. -/
theorem dec_pic {N M : Nat} {g : Nat → Int} {L : Int} {h : Nat → Bool} {ps : List Int} (hp : IsPic ps N M g L h) (hl : ps.length ≤ 1048576) (hu : U8 ps) (a : Option Addr) (c : Nat) (w : World) (hc : ps.length ≤ c) (hr : RowAt .u8 w a ps) :
    Calls Tryz.prog 28 #[.slice a ps.length c] w fun e w' => ∃ a1 a3 c1 c3 g' h', e = .returned (.tuple #[.agg #[.slice a1 N c1, .int .i64 L, .slice a3 M c3], .int .i64 0]) ∧ PcAt w' a1 a3 N M g' h' ∧ (∀ i, i < N → g i = g' i) ∧ (∀ i, i < M → h i = h' i) ∧ Below w.heap.size w w' := by
  refine (decPI_any a c ps w hl hc hu hr).mono ?_
  rintro e w' ⟨a1, a3, c1, c3, n1, n3, g', L', h', K, _, _, _, _, rfl, hd, hj, hb⟩
  rcases hd with ⟨rfl, hq⟩ | ⟨_, _, _, _, hno⟩
  · obtain ⟨rfl, rfl, rfl, e1, e2⟩ := hp.unique hq
    exact ⟨a1, a3, c1, c3, g', h', rfl, hj.at, e1, e2, hb⟩
  · exact absurd hp (hno _ _ _ _ _)

set_option maxRecDepth 100000 in
set_option maxHeartbeats 16000000 in
theorem lawBytes_any (a : Option Addr) (c : Nat) (bs : List Int) (w : World) (h : CodeAt w a c bs) :
    Calls Tryz.prog 4 #[.slice a bs.length c] w fun e w' => e = .returned (.bool true) ∧ Below w.heap.size w w' := by
  obtain ⟨n1, n2, n3, z1, z2, z3, r1, hA⟩ := sceneD (bs.take 500)
  obtain ⟨m1, m2, m3, y1, y2, y3, r2, hB⟩ := sceneD (bs.take 500).tail
  obtain ⟨ids, L, lits, r3, hC⟩ := picD (bs.take 500)
  obtain ⟨ids2, L2, lits2, r4, hD⟩ := picD (bs.take 500).tail
  have HA : Hid (SceneD (bs.take 500) n1 n2 n3 z1 z2 z3 r1) := hA
  have HB : Hid (SceneD (bs.take 500).tail m1 m2 m3 y1 y2 y3 r2) := hB
  have HC : Hid (PicD (bs.take 500) ids L lits r3) := hC
  have HD : Hid (PicD (bs.take 500).tail ids2 L2 lits2 r4) := hD
  have H0 : Hid (CodeAt w a c bs) := h
  obtain ⟨ys, hys⟩ : ∃ ys, ys = decY bs (encSc m1 m2 m3 y1 y2 y3) r2 := ⟨_, rfl⟩
  have HDS : Hid (∀ W, CodeAt W a c bs → Calls Tryz.prog 22 #[.slice a bs.length c] W fun e w' => SpoilOut W.heap.size W.heap.size ys W e w') := fun W hW => by rw [hys]; exact drawDS bs hB a c W hW
  have HYL : Hid (ys.length ≤ 1048576) := by
    unfold Hid
    have h1 : ys.length ≤ (encSc m1 m2 m3 y1 y2 y3).length + 1 := by
      rw [hys]
      unfold decY
      split
      · exact spoilY_length _ _
      · omega
    rw [encSc_len hB.l1 hB.l2 hB.l3] at h1
    have := hB.b1; have := hB.b2; have := hB.b3
    omega
  obtain ⟨us, hus⟩ : ∃ ys, ys = decPY bs (encPc ids2.length lits2.length (gets ids2) L2 (getb lits2)) r4 := ⟨_, rfl⟩
  have HDP : Hid (∀ W, CodeAt W a c bs → Calls Tryz.prog 30 #[.slice a bs.length c] W fun e w' => SpoilOut W.heap.size W.heap.size us W e w') := fun W hW => by rw [hus]; exact drawDP bs hD a c W hW
  have HUL : Hid (us.length ≤ 1048576) := by
    unfold Hid
    have h1 : us.length ≤ (encPc ids2.length lits2.length (gets ids2) L2 (getb lits2)).length + 1 := by
      rw [hus]
      unfold decPY
      split
      · exact spoilY_length _ _
      · omega
    have h2 := encPc_len (g := gets ids2) (L := L2) (h := getb lits2) hD.n1 hD.n3
    omega
  obtain ⟨ps, hps⟩ : ∃ ps, ps = encPV ids.length lits.length (gets ids) L (getb lits) := ⟨_, rfl⟩
  have HPS : Hid (encPV ids.length lits.length (gets ids) L (getb lits) = ps) := hps.symm
  have HPL : Hid (ps.length ≤ 1048576) := by
    unfold Hid
    have h2 := encPV_length ids.length lits.length (gets ids) L (getb lits)
    rw [hps]
    omega
  clear hps
  obtain ⟨ff1, hff1⟩ : ∃ f, f = (faultF ys).1 := ⟨_, rfl⟩
  obtain ⟨ff2, hff2⟩ : ∃ f, f = (faultF ys).2 := ⟨_, rfl⟩
  have HF : Hid ((faultF ys).1 = ff1 ∧ (faultF ys).2 = ff2) := ⟨hff1.symm, hff2.symm⟩
  clear hys hus hff1 hff2
  have hlen := h.n
  clear hA hB hC hD h
  go_enter Tryz.func4, Tryz.ntmps4
  go_wp2_with fail
  refine (drawES bs HA.out a c _ H0.out).mono ?_
  rintro e w1 ⟨a1, a2, a3, c1, c2, c3, l1, h1, l2, h2, l3, h3, rfl, hj, hb⟩
  have B1 : Hid (Below w.heap.size w w1) := hb
  have S1 : Hid (ScAt w1 a1 a2 a3 n1 n2 n3 z1 z2 z3) := hj.at
  clear hj hb
  obtain ⟨W1, hW1⟩ : ∃ W, W = w1.alloc (.cells #[.slice a1 n1 c1, .slice a2 n2 c2, .slice a3 n3 c3] 47) := ⟨_, rfl⟩
  have X1 : Hid (BxF W1 w1.heap.size (.slice a1 n1 c1) (.slice a2 n2 c2) (.slice a3 n3 c3)) := by unfold Hid; rw [hW1]; exact BxF.new _ _ _ _ _
  have bW1 : Below w1.heap.size w1 W1 := by rw [hW1]; exact bel0 _ _
  have S1b : Hid (ScAt W1 a1 a2 a3 n1 n2 n3 z1 z2 z3) := S1.out.later bW1
  have B1b : Hid (Below w.heap.size w W1) := B1.out.trans (bW1.mono B1.out.size)
  clear bW1 S1 B1
  have hnn : n1 + n2 + n3 ≤ 1048576 := by have := HA.out.b1; have := HA.out.b2; have := HA.out.b3; omega
  go_wp2_with fail
  rw [← hW1]
  clear hW1
  refine (validV_any a1 a2 a3 n1 n2 n3 c1 c2 c3 z1 z2 z3 _ hnn S1b.out HA.out.u1 HA.out.u2 HA.out.u3).mono ?_
  rintro e w2 ⟨rfl, hb2⟩
  have S2 : Hid (ScAt w2 a1 a2 a3 n1 n2 n3 z1 z2 z3) := S1b.out.later hb2
  have B2 : Hid (Below w.heap.size w w2) := B1b.out.trans (hb2.mono B1b.out.size)
  have X2 : Hid (BxF w2 w1.heap.size (.slice a1 n1 c1) (.slice a2 n2 c2) (.slice a3 n3 c3)) := bxF_later X1.out hb2
  clear hb2 S1b B1b X1
  cases hv : validSc n1 n2 n3 z1 z2 z3
  · have B6 : Hid (Below w.heap.size w w2) := B2
    obtain ⟨w6, hw6⟩ : ∃ u, u = w2 := ⟨_, rfl⟩
    rw [← hw6] at B6
    go_wp2_with fail
    rw [← hw6]
    clear hw6 S2 B2 X2
    refine (HDS.out _ (H0.out.later B6.out)).mono ?_
    rintro e w7 ⟨⟨a7, c7, rfl, hc7, hr7, hb⟩, hdg⟩
    have U7 : Hid (U8 ys) := hdg
    have R7 : Hid (RowAt .u8 w7 a7 ys) := hr7.row
    have B7 : Hid (Below w.heap.size w w7) := B6.out.trans (hb.mono B6.out.size)
    clear hdg hr7 hb B6
    go_wp2_with fail
    refine (decS_any a7 c7 ys _ HYL.out U7.out R7.out).mono ?_
    rintro e w8 ⟨_, _, _, _, _, _, _, _, _, _, _, _, rfl, _, hb⟩
    rw [HF.out.1, HF.out.2]
    have R8 : Hid (RowAt .u8 w8 a7 ys) := R7.out.later hb
    have B8 : Hid (Below w.heap.size w w8) := B7.out.trans (hb.mono B7.out.size)
    clear hb R7 B7
    go_wp2_with fail
    refine (HDS.out _ (H0.out.later (B8.out.trans ((bel0 _ _).mono B8.out.size)))).mono ?_
    rintro e w9 ⟨⟨a9, c9, rfl, hc9, hr9, hb⟩, _⟩
    have R9 : Hid (RowAt .u8 w9 a7 ys) := (R8.out.later (bel0 _ _)).later hb
    have R9b : Hid (RowAt .u8 w9 a9 ys) := hr9.row
    have B9 : Hid (Below w.heap.size w w9) := (B8.out.trans ((bel0 _ _).mono B8.out.size)).trans (hb.mono (by have := B8.out.size; simp; omega))
    clear hr9 hb R8 B8
    go_wp2_with fail
    refine (decI_any a9 c9 ys _ HYL.out hc9 U7.out R9b.out).mono ?_
    rintro e w10 ⟨g1, g2, g3, p1, p2, p3, _, _, _, _, _, _, rfl, hj, hb⟩
    rw [HF.out.1, HF.out.2]
    have S10 : Hid (ScAt w10 g1 g2 g3 (decN ys 0) (decN ys 1) (decN ys 2) (decZ1 ys) (decZ2 ys) (decZ3 ys)) := hj.at
    have R10 : Hid (RowAt .u8 w10 a7 ys) := R9.out.later hb
    have B10 : Hid (Below w.heap.size w w10) := B9.out.trans (hb.mono B9.out.size)
    clear hj hb R9 R9b B9
    obtain ⟨W10, hW10⟩ : ∃ W, W = w10.alloc (.cells #[.slice g1 (decN ys 0) p1, .slice g2 (decN ys 1) p2, .slice g3 (decN ys 2) p3] 47) := ⟨_, rfl⟩
    have bW10 : Below w10.heap.size w10 W10 := by rw [hW10]; exact bel0 _ _
    have S10b : Hid (ScAt W10 g1 g2 g3 (decN ys 0) (decN ys 1) (decN ys 2) (decZ1 ys) (decZ2 ys) (decZ3 ys)) := S10.out.later bW10
    have R10b : Hid (RowAt .u8 W10 a7 ys) := R10.out.later bW10
    have B10b : Hid (Below w.heap.size w W10) := B10.out.trans (bW10.mono B10.out.size)
    clear bW10 S10 R10 B10
    by_cases hz0 : ff1 = 0
    · subst hz0
      have hv10 := dec_valid U7.out HF.out.1
      have he10 := enc_of U7.out HF.out.1
      have HV10 : Hid (encV (decN ys 0) (decN ys 1) (decN ys 2) (decZ1 ys) (decZ2 ys) (decZ3 ys) = ys) := by unfold Hid; rw [encV_ok hv10, he10]
      have hn10 : decN ys 0 + decN ys 1 + decN ys 2 ≤ 1048576 := by
        obtain ⟨q1, q2, q3, _⟩ := valid_parts hv10
        omega
      clear hv10 he10
      go_wp2_with fail
      rw [← hW10]
      clear hW10
      refine (encIN_any g1 g2 g3 (decN ys 0) (decN ys 1) (decN ys 2) p1 p2 p3 (decZ1 ys) (decZ2 ys) (decZ3 ys) _ hn10 S10b.out (nums_u32 U7.out _ _) (nums_u32 U7.out _ _) (nums_u32 U7.out _ _)).mono ?_
      rintro e w11 ⟨v11, rfl, ho11, hb⟩
      rw [HV10.out] at ho11
      obtain ⟨a11, c11, rfl, hr11⟩ := ho11.row
      have R11 : Hid (RowAt .u8 w11 a11 ys) := hr11.row
      have R11b : Hid (RowAt .u8 w11 a7 ys) := R10b.out.later hb
      have B11 : Hid (Below w.heap.size w w11) := B10b.out.trans (hb.mono B10b.out.size)
      clear ho11 hr11 hb S10b R10b B10b
      go_wp2_with fail
      refine (sameB_same a11 a7 c11 c7 ys _ HYL.out R11.out R11b.out).mono ?_
      rintro e w12 ⟨rfl, hb⟩
      have B12 : Hid (Below w.heap.size w w12) := B11.out.trans (hb.mono B11.out.size)
      clear hb R11 R11b B11
      go_wp2_with fail
      refine (drawEP bs HC.out a c _ (H0.out.later B12.out)).mono ?_
      rintro e w13 ⟨a13, b13, c13, d13, _, _, _, _, rfl, hj, hb⟩
      have P13 : Hid (PcAt w13 a13 b13 ids.length lits.length (gets ids) (getb lits)) := hj.at
      have B13 : Hid (Below w.heap.size w w13) := B12.out.trans (hb.mono B12.out.size)
      clear hj hb B12
      obtain ⟨W13, hW13⟩ : ∃ W, W = w13.alloc (.cells #[.slice a13 ids.length c13, .int .i64 L, .slice b13 lits.length d13] 57) := ⟨_, rfl⟩
      have X13 : Hid (BxF W13 w13.heap.size (.slice a13 ids.length c13) (.int .i64 L) (.slice b13 lits.length d13)) := by unfold Hid; rw [hW13]; exact BxF.new _ _ _ _ _
      have bW13 : Below w13.heap.size w13 W13 := by rw [hW13]; exact bel0 _ _
      have P13b : Hid (PcAt W13 a13 b13 ids.length lits.length (gets ids) (getb lits)) := P13.out.later bW13
      have B13b : Hid (Below w.heap.size w W13) := B13.out.trans (bW13.mono B13.out.size)
      have hil : ids.length + lits.length ≤ 1048576 := by have := HC.out.n1; have := HC.out.n3; omega
      clear bW13 P13 B13
      go_wp2_with fail
      rw [← hW13]
      clear hW13
      refine (encP_any a13 b13 ids.length lits.length c13 d13 L (gets ids) (getb lits) _ hil P13b.out).mono ?_
      rintro e w14 ⟨v14, rfl, ho14, hb⟩
      rw [HPS.out] at ho14
      obtain ⟨a14, c14, rfl, hr14⟩ := ho14.row
      have R14 : Hid (RowAt .u8 w14 a14 ps) := hr14.row
      have P14 : Hid (PcAt w14 a13 b13 ids.length lits.length (gets ids) (getb lits)) := P13b.out.later hb
      have X14 : Hid (BxF w14 w13.heap.size (.slice a13 ids.length c13) (.int .i64 L) (.slice b13 lits.length d13)) := bxF_later X13.out hb
      have B14 : Hid (Below w.heap.size w w14) := B13b.out.trans (hb.mono B13b.out.size)
      clear ho14 hr14 hb P13b X13 B13b
      go_wp2_with fail
      refine (drawEP bs HC.out a c _ (H0.out.later B14.out)).mono ?_
      rintro e w15 ⟨a15, b15, c15, d15, _, _, _, _, rfl, hj, hb⟩
      have P15 : Hid (PcAt w15 a15 b15 ids.length lits.length (gets ids) (getb lits)) := hj.at
      have P15a : Hid (PcAt w15 a13 b13 ids.length lits.length (gets ids) (getb lits)) := P14.out.later hb
      have R15 : Hid (RowAt .u8 w15 a14 ps) := R14.out.later hb
      have X15 : Hid (BxF w15 w13.heap.size (.slice a13 ids.length c13) (.int .i64 L) (.slice b13 lits.length d13)) := bxF_later X14.out hb
      have B15 : Hid (Below w.heap.size w w15) := B14.out.trans (hb.mono B14.out.size)
      clear hj hb P14 R14 X14 B14
      go_wp2_with fail
      refine (encPN_any a15 b15 ids.length lits.length c15 d15 L (gets ids) (getb lits) _ hil P15.out).mono ?_
      rintro e w16 ⟨v16, rfl, ho16, hb⟩
      rw [HPS.out] at ho16
      obtain ⟨a16, c16, rfl, hr16⟩ := ho16.row
      obtain ⟨_, hc16, _⟩ := ownY_out ho16
      have R16 : Hid (RowAt .u8 w16 a14 ps) := R15.out.later hb
      have R16b : Hid (RowAt .u8 w16 a16 ps) := hr16.row
      have P16 : Hid (PcAt w16 a13 b13 ids.length lits.length (gets ids) (getb lits)) := P15a.out.later hb
      have X16 : Hid (BxF w16 w13.heap.size (.slice a13 ids.length c13) (.int .i64 L) (.slice b13 lits.length d13)) := bxF_later X15.out hb
      have B16 : Hid (Below w.heap.size w w16) := B15.out.trans (hb.mono B15.out.size)
      clear ho16 hr16 hb P15 P15a R15 X15 B15
      go_wp2_with fail
      refine (sameB_same a14 a16 c14 c16 ps _ HPL.out R16.out R16b.out).mono ?_
      rintro e w17 ⟨rfl, hb⟩
      have R17 : Hid (RowAt .u8 w17 a16 ps) := R16b.out.later hb
      have P17 : Hid (PcAt w17 a13 b13 ids.length lits.length (gets ids) (getb lits)) := P16.out.later hb
      have X17 : Hid (BxF w17 w13.heap.size (.slice a13 ids.length c13) (.int .i64 L) (.slice b13 lits.length d13)) := bxF_later X16.out hb
      have B17 : Hid (Below w.heap.size w w17) := B16.out.trans (hb.mono B16.out.size)
      clear hb P16 R16 R16b X16 B16
      cases hvp : validPc ids.length lits.length (gets ids) L
      · have h0 : ps.length = 0 := by rw [← HPS.out, encPV_bad hvp]; rfl
        have B18 : Hid (Below w.heap.size w w17) := B17
        obtain ⟨w18, hw18⟩ : ∃ u, u = w17 := ⟨_, rfl⟩
        rw [← hw18] at B18
        go_wp2_with fail
        rw [← hw18]
        clear hw18 R17 P17 X17 B17
        refine (HDP.out _ (H0.out.later B18.out)).mono ?_
        rintro e w20 ⟨⟨a20, c20, rfl, hc20, hr20, hb⟩, hdg⟩
        have U20 : Hid (U8 us) := hdg
        have R20 : Hid (RowAt .u8 w20 a20 us) := hr20.row
        have B20 : Hid (Below w.heap.size w w20) := B18.out.trans (hb.mono B18.out.size)
        clear hdg hr20 hb B18
        go_wp2_with fail
        refine (decP_any a20 c20 us _ HUL.out U20.out R20.out).mono ?_
        rintro e w21 ⟨a21, b21, c21, d21, n21, m21, g21, L21, h21, K21, _, _, _, _, rfl, hd21, _, hb⟩
        have R21 : Hid (RowAt .u8 w21 a20 us) := R20.out.later hb
        have B21 : Hid (Below w.heap.size w w21) := B20.out.trans (hb.mono B20.out.size)
        have HD21 : Hid (DecP us n21 m21 g21 L21 h21 K21) := hd21
        clear hd21 hb R20 B20
        go_wp2_with fail
        refine (HDP.out _ (H0.out.later (B21.out.trans ((bel0 _ _).mono B21.out.size)))).mono ?_
        rintro e w22 ⟨⟨a22, c22, rfl, hc22, hr22, hb⟩, _⟩
        have R22 : Hid (RowAt .u8 w22 a20 us) := (R21.out.later (bel0 _ _)).later hb
        have R22b : Hid (RowAt .u8 w22 a22 us) := hr22.row
        have B22 : Hid (Below w.heap.size w w22) := (B21.out.trans ((bel0 _ _).mono B21.out.size)).trans (hb.mono (by have := B21.out.size; simp; omega))
        clear hr22 hb R21 B21
        go_wp2_with fail
        refine (decPI_any a22 c22 us _ HUL.out hc22 U20.out R22b.out).mono ?_
        rintro e w23 ⟨a23, b23, c23, d23, n23, m23, g23, L23, h23, K23, _, _, _, _, rfl, hd23, hj, hb⟩
        have P23 : Hid (PcAt w23 a23 b23 n23 m23 g23 h23) := hj.at
        have R23 : Hid (RowAt .u8 w23 a20 us) := R22.out.later hb
        have B23 : Hid (Below w.heap.size w w23) := B22.out.trans (hb.mono B22.out.size)
        clear hj hb R22 R22b B22
        rcases HD21.out with ⟨rfl, hq21⟩ | ⟨rfl, _, _, _, hno⟩
        · rcases hd23 with ⟨rfl, hq23⟩ | ⟨_, _, _, _, hno⟩
          · have HV23 : Hid (encPV n23 m23 g23 L23 h23 = us) := by unfold Hid; rw [encPV_ok hq23.ok]; exact hq23.enc
            have hn23 : n23 + m23 ≤ 1048576 := by
              obtain ⟨q1, q2, q3, q4, _⟩ := hq23.bounds
              have : (n23 : Int) * L23 ≤ 40 * 4 := Int.mul_le_mul (by omega) q3 q2 (by decide)
              omega
            clear hq21 hq23 HD21
            go_wp2_with fail
            refine (encPN_any a23 b23 n23 m23 c23 d23 L23 g23 h23 _ hn23 (P23.out.later (bel0 _ _))).mono ?_
            rintro e w24 ⟨v24, rfl, ho24, hb⟩
            rw [HV23.out] at ho24
            obtain ⟨a24, c24, rfl, hr24⟩ := ho24.row
            have R24 : Hid (RowAt .u8 w24 a20 us) := (R23.out.later (bel0 _ _)).later hb
            have R24b : Hid (RowAt .u8 w24 a24 us) := hr24.row
            have B24 : Hid (Below w.heap.size w w24) := (B23.out.trans ((bel0 _ _).mono B23.out.size)).trans (hb.mono (by have := B23.out.size; simp; omega))
            clear ho24 hr24 hb P23 R23 B23
            go_wp2_with fail
            refine (sameB_same a24 a20 c24 c20 us _ HUL.out R24b.out R24.out).mono ?_
            rintro e w25 ⟨rfl, hb⟩
            have B25 : Hid (Below w.heap.size w w25) := B24.out.trans (hb.mono B24.out.size)
            clear hb R24 R24b B24
            go_wp2
            go_ret
            exact ⟨rfl, B25.out⟩
          · exact absurd hq21 (hno _ _ _ _ _)
        · rcases hd23 with ⟨rfl, hq23⟩ | ⟨rfl, _, _, _, _⟩
          · exact absurd hq23 (hno _ _ _ _ _)
          · clear hno HD21
            go_wp2
            go_ret
            exact ⟨rfl, B23.out.trans ((bel0 _ _).mono B23.out.size)⟩
      · have hpic : IsPic ps ids.length lits.length (gets ids) L (getb lits) := ⟨hvp, by rw [← HPS.out, encPV_ok hvp]⟩
        have hup : U8 ps := by rw [← hpic.enc]; exact encPc_u8 _ _ _ _ _
        have hne : ps ≠ [] := by rw [← hpic.enc]; exact encPc_ne _ _ _ _ _
        have h0 : (0 : Int) < ps.length := by
          have : 0 < ps.length := List.length_pos_iff.2 hne
          omega
        have HPIC : Hid (IsPic ps ids.length lits.length (gets ids) L (getb lits) ∧ U8 ps) := ⟨hpic, hup⟩
        clear hpic hup hne
        go_wp2_with fail
        refine (dec_pic HPIC.out.1 HPL.out HPIC.out.2 a16 c16 _ hc16 R17.out).mono ?_
        rintro e w18 ⟨a18, b18, c18, d18, g18, h18, rfl, hp18, hg18, hh18, hb⟩
        have P18 : Hid (PcAt w18 a18 b18 ids.length lits.length g18 h18) := hp18
        have P18a : Hid (PcAt w18 a13 b13 ids.length lits.length (gets ids) (getb lits)) := P17.out.later hb
        have HG18 : Hid ((∀ i, i < ids.length → gets ids i = g18 i) ∧ ∀ i, i < lits.length → getb lits i = h18 i) := ⟨hg18, hh18⟩
        have X18 : Hid (BxF w18 w13.heap.size (.slice a13 ids.length c13) (.int .i64 L) (.slice b13 lits.length d13)) := bxF_later X17.out hb
        have B17b : Hid (Below w.heap.size w w18) := B17.out.trans (hb.mono B17.out.size)
        clear hp18 hg18 hh18 hb P17 R17 X17 B17
        have x0 := X18.out.q0
        have x1 := X18.out.q1
        have x2 := X18.out.q2
        have xl := X18.out.lt
        go_wp2_with fail -- HERE1
        refine (samePicture_same a18 b18 a13 b13 ids.length lits.length c18 d18 c13 d13 L g18 (gets ids) h18 (getb lits) _ (by omega) (by omega) (P18.out.later (bel0 _ _)) (P18a.out.later (bel0 _ _)) HG18.out.1 HG18.out.2).mono ?_
        rintro e w19 ⟨rfl, hb⟩
        have B18 : Hid (Below w.heap.size w w19) := (B17b.out.trans ((bel0 _ _).mono B17b.out.size)).trans (hb.mono (by have := B17b.out.size; simp; omega))
        clear hb P18 P18a HG18 X18 B17b x0 x1 x2 xl
        go_wp2_with fail
        refine (HDP.out _ (H0.out.later B18.out)).mono ?_
        rintro e w20 ⟨⟨a20, c20, rfl, hc20, hr20, hb⟩, hdg⟩
        have U20 : Hid (U8 us) := hdg
        have R20 : Hid (RowAt .u8 w20 a20 us) := hr20.row
        have B20 : Hid (Below w.heap.size w w20) := B18.out.trans (hb.mono B18.out.size)
        clear hdg hr20 hb B18
        go_wp2_with fail
        refine (decP_any a20 c20 us _ HUL.out U20.out R20.out).mono ?_
        rintro e w21 ⟨a21, b21, c21, d21, n21, m21, g21, L21, h21, K21, _, _, _, _, rfl, hd21, _, hb⟩
        have R21 : Hid (RowAt .u8 w21 a20 us) := R20.out.later hb
        have B21 : Hid (Below w.heap.size w w21) := B20.out.trans (hb.mono B20.out.size)
        have HD21 : Hid (DecP us n21 m21 g21 L21 h21 K21) := hd21
        clear hd21 hb R20 B20
        go_wp2_with fail
        refine (HDP.out _ (H0.out.later (B21.out.trans ((bel0 _ _).mono B21.out.size)))).mono ?_
        rintro e w22 ⟨⟨a22, c22, rfl, hc22, hr22, hb⟩, _⟩
        have R22 : Hid (RowAt .u8 w22 a20 us) := (R21.out.later (bel0 _ _)).later hb
        have R22b : Hid (RowAt .u8 w22 a22 us) := hr22.row
        have B22 : Hid (Below w.heap.size w w22) := (B21.out.trans ((bel0 _ _).mono B21.out.size)).trans (hb.mono (by have := B21.out.size; simp; omega))
        clear hr22 hb R21 B21
        go_wp2_with fail
        refine (decPI_any a22 c22 us _ HUL.out hc22 U20.out R22b.out).mono ?_
        rintro e w23 ⟨a23, b23, c23, d23, n23, m23, g23, L23, h23, K23, _, _, _, _, rfl, hd23, hj, hb⟩
        have P23 : Hid (PcAt w23 a23 b23 n23 m23 g23 h23) := hj.at
        have R23 : Hid (RowAt .u8 w23 a20 us) := R22.out.later hb
        have B23 : Hid (Below w.heap.size w w23) := B22.out.trans (hb.mono B22.out.size)
        clear hj hb R22 R22b B22
        rcases HD21.out with ⟨rfl, hq21⟩ | ⟨rfl, _, _, _, hno⟩
        · rcases hd23 with ⟨rfl, hq23⟩ | ⟨_, _, _, _, hno⟩
          · have HV23 : Hid (encPV n23 m23 g23 L23 h23 = us) := by unfold Hid; rw [encPV_ok hq23.ok]; exact hq23.enc
            have hn23 : n23 + m23 ≤ 1048576 := by
              obtain ⟨q1, q2, q3, q4, _⟩ := hq23.bounds
              have : (n23 : Int) * L23 ≤ 40 * 4 := Int.mul_le_mul (by omega) q3 q2 (by decide)
              omega
            clear hq21 hq23 HD21
            go_wp2_with fail
            refine (encPN_any a23 b23 n23 m23 c23 d23 L23 g23 h23 _ hn23 (P23.out.later (bel0 _ _))).mono ?_
            rintro e w24 ⟨v24, rfl, ho24, hb⟩
            rw [HV23.out] at ho24
            obtain ⟨a24, c24, rfl, hr24⟩ := ho24.row
            have R24 : Hid (RowAt .u8 w24 a20 us) := (R23.out.later (bel0 _ _)).later hb
            have R24b : Hid (RowAt .u8 w24 a24 us) := hr24.row
            have B24 : Hid (Below w.heap.size w w24) := (B23.out.trans ((bel0 _ _).mono B23.out.size)).trans (hb.mono (by have := B23.out.size; simp; omega))
            clear ho24 hr24 hb P23 R23 B23
            go_wp2_with fail
            refine (sameB_same a24 a20 c24 c20 us _ HUL.out R24b.out R24.out).mono ?_
            rintro e w25 ⟨rfl, hb⟩
            have B25 : Hid (Below w.heap.size w w25) := B24.out.trans (hb.mono B24.out.size)
            clear hb R24 R24b B24
            go_wp2
            go_ret
            exact ⟨rfl, B25.out⟩
          · exact absurd hq21 (hno _ _ _ _ _)
        · rcases hd23 with ⟨rfl, hq23⟩ | ⟨rfl, _, _, _, _⟩
          · exact absurd hq23 (hno _ _ _ _ _)
          · clear hno HD21
            go_wp2
            go_ret
            exact ⟨rfl, B23.out.trans ((bel0 _ _).mono B23.out.size)⟩
    · have hz1 : (ff1 == 0) = false := by rw [beq_eq_false_iff_ne]; exact hz0
      clear hz0
      obtain ⟨w12, hw12⟩ : ∃ u, u = W10 := ⟨_, rfl⟩
      have B12 : Hid (Below w.heap.size w w12) := by unfold Hid; rw [hw12]; exact B10b.out
      go_wp2_with fail
      rw [← hW10, ← hw12]
      clear hW10 hw12 S10b R10b B10b
      refine (drawEP bs HC.out a c _ (H0.out.later B12.out)).mono ?_
      rintro e w13 ⟨a13, b13, c13, d13, _, _, _, _, rfl, hj, hb⟩
      have P13 : Hid (PcAt w13 a13 b13 ids.length lits.length (gets ids) (getb lits)) := hj.at
      have B13 : Hid (Below w.heap.size w w13) := B12.out.trans (hb.mono B12.out.size)
      clear hj hb B12
      obtain ⟨W13, hW13⟩ : ∃ W, W = w13.alloc (.cells #[.slice a13 ids.length c13, .int .i64 L, .slice b13 lits.length d13] 57) := ⟨_, rfl⟩
      have X13 : Hid (BxF W13 w13.heap.size (.slice a13 ids.length c13) (.int .i64 L) (.slice b13 lits.length d13)) := by unfold Hid; rw [hW13]; exact BxF.new _ _ _ _ _
      have bW13 : Below w13.heap.size w13 W13 := by rw [hW13]; exact bel0 _ _
      have P13b : Hid (PcAt W13 a13 b13 ids.length lits.length (gets ids) (getb lits)) := P13.out.later bW13
      have B13b : Hid (Below w.heap.size w W13) := B13.out.trans (bW13.mono B13.out.size)
      have hil : ids.length + lits.length ≤ 1048576 := by have := HC.out.n1; have := HC.out.n3; omega
      clear bW13 P13 B13
      go_wp2_with fail
      rw [← hW13]
      clear hW13
      refine (encP_any a13 b13 ids.length lits.length c13 d13 L (gets ids) (getb lits) _ hil P13b.out).mono ?_
      rintro e w14 ⟨v14, rfl, ho14, hb⟩
      rw [HPS.out] at ho14
      obtain ⟨a14, c14, rfl, hr14⟩ := ho14.row
      have R14 : Hid (RowAt .u8 w14 a14 ps) := hr14.row
      have P14 : Hid (PcAt w14 a13 b13 ids.length lits.length (gets ids) (getb lits)) := P13b.out.later hb
      have X14 : Hid (BxF w14 w13.heap.size (.slice a13 ids.length c13) (.int .i64 L) (.slice b13 lits.length d13)) := bxF_later X13.out hb
      have B14 : Hid (Below w.heap.size w w14) := B13b.out.trans (hb.mono B13b.out.size)
      clear ho14 hr14 hb P13b X13 B13b
      go_wp2_with fail
      refine (drawEP bs HC.out a c _ (H0.out.later B14.out)).mono ?_
      rintro e w15 ⟨a15, b15, c15, d15, _, _, _, _, rfl, hj, hb⟩
      have P15 : Hid (PcAt w15 a15 b15 ids.length lits.length (gets ids) (getb lits)) := hj.at
      have P15a : Hid (PcAt w15 a13 b13 ids.length lits.length (gets ids) (getb lits)) := P14.out.later hb
      have R15 : Hid (RowAt .u8 w15 a14 ps) := R14.out.later hb
      have X15 : Hid (BxF w15 w13.heap.size (.slice a13 ids.length c13) (.int .i64 L) (.slice b13 lits.length d13)) := bxF_later X14.out hb
      have B15 : Hid (Below w.heap.size w w15) := B14.out.trans (hb.mono B14.out.size)
      clear hj hb P14 R14 X14 B14
      go_wp2_with fail
      refine (encPN_any a15 b15 ids.length lits.length c15 d15 L (gets ids) (getb lits) _ hil P15.out).mono ?_
      rintro e w16 ⟨v16, rfl, ho16, hb⟩
      rw [HPS.out] at ho16
      obtain ⟨a16, c16, rfl, hr16⟩ := ho16.row
      obtain ⟨_, hc16, _⟩ := ownY_out ho16
      have R16 : Hid (RowAt .u8 w16 a14 ps) := R15.out.later hb
      have R16b : Hid (RowAt .u8 w16 a16 ps) := hr16.row
      have P16 : Hid (PcAt w16 a13 b13 ids.length lits.length (gets ids) (getb lits)) := P15a.out.later hb
      have X16 : Hid (BxF w16 w13.heap.size (.slice a13 ids.length c13) (.int .i64 L) (.slice b13 lits.length d13)) := bxF_later X15.out hb
      have B16 : Hid (Below w.heap.size w w16) := B15.out.trans (hb.mono B15.out.size)
      clear ho16 hr16 hb P15 P15a R15 X15 B15
      go_wp2_with fail
      refine (sameB_same a14 a16 c14 c16 ps _ HPL.out R16.out R16b.out).mono ?_
      rintro e w17 ⟨rfl, hb⟩
      have R17 : Hid (RowAt .u8 w17 a16 ps) := R16b.out.later hb
      have P17 : Hid (PcAt w17 a13 b13 ids.length lits.length (gets ids) (getb lits)) := P16.out.later hb
      have X17 : Hid (BxF w17 w13.heap.size (.slice a13 ids.length c13) (.int .i64 L) (.slice b13 lits.length d13)) := bxF_later X16.out hb
      have B17 : Hid (Below w.heap.size w w17) := B16.out.trans (hb.mono B16.out.size)
      clear hb P16 R16 R16b X16 B16
      cases hvp : validPc ids.length lits.length (gets ids) L
      · have h0 : ps.length = 0 := by rw [← HPS.out, encPV_bad hvp]; rfl
        have B18 : Hid (Below w.heap.size w w17) := B17
        obtain ⟨w18, hw18⟩ : ∃ u, u = w17 := ⟨_, rfl⟩
        rw [← hw18] at B18
        go_wp2_with fail
        rw [← hw18]
        clear hw18 R17 P17 X17 B17
        refine (HDP.out _ (H0.out.later B18.out)).mono ?_
        rintro e w20 ⟨⟨a20, c20, rfl, hc20, hr20, hb⟩, hdg⟩
        have U20 : Hid (U8 us) := hdg
        have R20 : Hid (RowAt .u8 w20 a20 us) := hr20.row
        have B20 : Hid (Below w.heap.size w w20) := B18.out.trans (hb.mono B18.out.size)
        clear hdg hr20 hb B18
        go_wp2_with fail
        refine (decP_any a20 c20 us _ HUL.out U20.out R20.out).mono ?_
        rintro e w21 ⟨a21, b21, c21, d21, n21, m21, g21, L21, h21, K21, _, _, _, _, rfl, hd21, _, hb⟩
        have R21 : Hid (RowAt .u8 w21 a20 us) := R20.out.later hb
        have B21 : Hid (Below w.heap.size w w21) := B20.out.trans (hb.mono B20.out.size)
        have HD21 : Hid (DecP us n21 m21 g21 L21 h21 K21) := hd21
        clear hd21 hb R20 B20
        go_wp2_with fail
        refine (HDP.out _ (H0.out.later (B21.out.trans ((bel0 _ _).mono B21.out.size)))).mono ?_
        rintro e w22 ⟨⟨a22, c22, rfl, hc22, hr22, hb⟩, _⟩
        have R22 : Hid (RowAt .u8 w22 a20 us) := (R21.out.later (bel0 _ _)).later hb
        have R22b : Hid (RowAt .u8 w22 a22 us) := hr22.row
        have B22 : Hid (Below w.heap.size w w22) := (B21.out.trans ((bel0 _ _).mono B21.out.size)).trans (hb.mono (by have := B21.out.size; simp; omega))
        clear hr22 hb R21 B21
        go_wp2_with fail
        refine (decPI_any a22 c22 us _ HUL.out hc22 U20.out R22b.out).mono ?_
        rintro e w23 ⟨a23, b23, c23, d23, n23, m23, g23, L23, h23, K23, _, _, _, _, rfl, hd23, hj, hb⟩
        have P23 : Hid (PcAt w23 a23 b23 n23 m23 g23 h23) := hj.at
        have R23 : Hid (RowAt .u8 w23 a20 us) := R22.out.later hb
        have B23 : Hid (Below w.heap.size w w23) := B22.out.trans (hb.mono B22.out.size)
        clear hj hb R22 R22b B22
        rcases HD21.out with ⟨rfl, hq21⟩ | ⟨rfl, _, _, _, hno⟩
        · rcases hd23 with ⟨rfl, hq23⟩ | ⟨_, _, _, _, hno⟩
          · have HV23 : Hid (encPV n23 m23 g23 L23 h23 = us) := by unfold Hid; rw [encPV_ok hq23.ok]; exact hq23.enc
            have hn23 : n23 + m23 ≤ 1048576 := by
              obtain ⟨q1, q2, q3, q4, _⟩ := hq23.bounds
              have : (n23 : Int) * L23 ≤ 40 * 4 := Int.mul_le_mul (by omega) q3 q2 (by decide)
              omega
            clear hq21 hq23 HD21
            go_wp2_with fail
            refine (encPN_any a23 b23 n23 m23 c23 d23 L23 g23 h23 _ hn23 (P23.out.later (bel0 _ _))).mono ?_
            rintro e w24 ⟨v24, rfl, ho24, hb⟩
            rw [HV23.out] at ho24
            obtain ⟨a24, c24, rfl, hr24⟩ := ho24.row
            have R24 : Hid (RowAt .u8 w24 a20 us) := (R23.out.later (bel0 _ _)).later hb
            have R24b : Hid (RowAt .u8 w24 a24 us) := hr24.row
            have B24 : Hid (Below w.heap.size w w24) := (B23.out.trans ((bel0 _ _).mono B23.out.size)).trans (hb.mono (by have := B23.out.size; simp; omega))
            clear ho24 hr24 hb P23 R23 B23
            go_wp2_with fail
            refine (sameB_same a24 a20 c24 c20 us _ HUL.out R24b.out R24.out).mono ?_
            rintro e w25 ⟨rfl, hb⟩
            have B25 : Hid (Below w.heap.size w w25) := B24.out.trans (hb.mono B24.out.size)
            clear hb R24 R24b B24
            go_wp2
            go_ret
            exact ⟨rfl, B25.out⟩
          · exact absurd hq21 (hno _ _ _ _ _)
        · rcases hd23 with ⟨rfl, hq23⟩ | ⟨rfl, _, _, _, _⟩
          · exact absurd hq23 (hno _ _ _ _ _)
          · clear hno HD21
            go_wp2
            go_ret
            exact ⟨rfl, B23.out.trans ((bel0 _ _).mono B23.out.size)⟩
      · have hpic : IsPic ps ids.length lits.length (gets ids) L (getb lits) := ⟨hvp, by rw [← HPS.out, encPV_ok hvp]⟩
        have hup : U8 ps := by rw [← hpic.enc]; exact encPc_u8 _ _ _ _ _
        have hne : ps ≠ [] := by rw [← hpic.enc]; exact encPc_ne _ _ _ _ _
        have h0 : (0 : Int) < ps.length := by
          have : 0 < ps.length := List.length_pos_iff.2 hne
          omega
        have HPIC : Hid (IsPic ps ids.length lits.length (gets ids) L (getb lits) ∧ U8 ps) := ⟨hpic, hup⟩
        clear hpic hup hne
        go_wp2_with fail
        refine (dec_pic HPIC.out.1 HPL.out HPIC.out.2 a16 c16 _ hc16 R17.out).mono ?_
        rintro e w18 ⟨a18, b18, c18, d18, g18, h18, rfl, hp18, hg18, hh18, hb⟩
        have P18 : Hid (PcAt w18 a18 b18 ids.length lits.length g18 h18) := hp18
        have P18a : Hid (PcAt w18 a13 b13 ids.length lits.length (gets ids) (getb lits)) := P17.out.later hb
        have HG18 : Hid ((∀ i, i < ids.length → gets ids i = g18 i) ∧ ∀ i, i < lits.length → getb lits i = h18 i) := ⟨hg18, hh18⟩
        have X18 : Hid (BxF w18 w13.heap.size (.slice a13 ids.length c13) (.int .i64 L) (.slice b13 lits.length d13)) := bxF_later X17.out hb
        have B17b : Hid (Below w.heap.size w w18) := B17.out.trans (hb.mono B17.out.size)
        clear hp18 hg18 hh18 hb P17 R17 X17 B17
        have x0 := X18.out.q0
        have x1 := X18.out.q1
        have x2 := X18.out.q2
        have xl := X18.out.lt
        go_wp2_with fail -- HERE1
        refine (samePicture_same a18 b18 a13 b13 ids.length lits.length c18 d18 c13 d13 L g18 (gets ids) h18 (getb lits) _ (by omega) (by omega) (P18.out.later (bel0 _ _)) (P18a.out.later (bel0 _ _)) HG18.out.1 HG18.out.2).mono ?_
        rintro e w19 ⟨rfl, hb⟩
        have B18 : Hid (Below w.heap.size w w19) := (B17b.out.trans ((bel0 _ _).mono B17b.out.size)).trans (hb.mono (by have := B17b.out.size; simp; omega))
        clear hb P18 P18a HG18 X18 B17b x0 x1 x2 xl
        go_wp2_with fail
        refine (HDP.out _ (H0.out.later B18.out)).mono ?_
        rintro e w20 ⟨⟨a20, c20, rfl, hc20, hr20, hb⟩, hdg⟩
        have U20 : Hid (U8 us) := hdg
        have R20 : Hid (RowAt .u8 w20 a20 us) := hr20.row
        have B20 : Hid (Below w.heap.size w w20) := B18.out.trans (hb.mono B18.out.size)
        clear hdg hr20 hb B18
        go_wp2_with fail
        refine (decP_any a20 c20 us _ HUL.out U20.out R20.out).mono ?_
        rintro e w21 ⟨a21, b21, c21, d21, n21, m21, g21, L21, h21, K21, _, _, _, _, rfl, hd21, _, hb⟩
        have R21 : Hid (RowAt .u8 w21 a20 us) := R20.out.later hb
        have B21 : Hid (Below w.heap.size w w21) := B20.out.trans (hb.mono B20.out.size)
        have HD21 : Hid (DecP us n21 m21 g21 L21 h21 K21) := hd21
        clear hd21 hb R20 B20
        go_wp2_with fail
        refine (HDP.out _ (H0.out.later (B21.out.trans ((bel0 _ _).mono B21.out.size)))).mono ?_
        rintro e w22 ⟨⟨a22, c22, rfl, hc22, hr22, hb⟩, _⟩
        have R22 : Hid (RowAt .u8 w22 a20 us) := (R21.out.later (bel0 _ _)).later hb
        have R22b : Hid (RowAt .u8 w22 a22 us) := hr22.row
        have B22 : Hid (Below w.heap.size w w22) := (B21.out.trans ((bel0 _ _).mono B21.out.size)).trans (hb.mono (by have := B21.out.size; simp; omega))
        clear hr22 hb R21 B21
        go_wp2_with fail
        refine (decPI_any a22 c22 us _ HUL.out hc22 U20.out R22b.out).mono ?_
        rintro e w23 ⟨a23, b23, c23, d23, n23, m23, g23, L23, h23, K23, _, _, _, _, rfl, hd23, hj, hb⟩
        have P23 : Hid (PcAt w23 a23 b23 n23 m23 g23 h23) := hj.at
        have R23 : Hid (RowAt .u8 w23 a20 us) := R22.out.later hb
        have B23 : Hid (Below w.heap.size w w23) := B22.out.trans (hb.mono B22.out.size)
        clear hj hb R22 R22b B22
        rcases HD21.out with ⟨rfl, hq21⟩ | ⟨rfl, _, _, _, hno⟩
        · rcases hd23 with ⟨rfl, hq23⟩ | ⟨_, _, _, _, hno⟩
          · have HV23 : Hid (encPV n23 m23 g23 L23 h23 = us) := by unfold Hid; rw [encPV_ok hq23.ok]; exact hq23.enc
            have hn23 : n23 + m23 ≤ 1048576 := by
              obtain ⟨q1, q2, q3, q4, _⟩ := hq23.bounds
              have : (n23 : Int) * L23 ≤ 40 * 4 := Int.mul_le_mul (by omega) q3 q2 (by decide)
              omega
            clear hq21 hq23 HD21
            go_wp2_with fail
            refine (encPN_any a23 b23 n23 m23 c23 d23 L23 g23 h23 _ hn23 (P23.out.later (bel0 _ _))).mono ?_
            rintro e w24 ⟨v24, rfl, ho24, hb⟩
            rw [HV23.out] at ho24
            obtain ⟨a24, c24, rfl, hr24⟩ := ho24.row
            have R24 : Hid (RowAt .u8 w24 a20 us) := (R23.out.later (bel0 _ _)).later hb
            have R24b : Hid (RowAt .u8 w24 a24 us) := hr24.row
            have B24 : Hid (Below w.heap.size w w24) := (B23.out.trans ((bel0 _ _).mono B23.out.size)).trans (hb.mono (by have := B23.out.size; simp; omega))
            clear ho24 hr24 hb P23 R23 B23
            go_wp2_with fail
            refine (sameB_same a24 a20 c24 c20 us _ HUL.out R24b.out R24.out).mono ?_
            rintro e w25 ⟨rfl, hb⟩
            have B25 : Hid (Below w.heap.size w w25) := B24.out.trans (hb.mono B24.out.size)
            clear hb R24 R24b B24
            go_wp2
            go_ret
            exact ⟨rfl, B25.out⟩
          · exact absurd hq21 (hno _ _ _ _ _)
        · rcases hd23 with ⟨rfl, hq23⟩ | ⟨rfl, _, _, _, _⟩
          · exact absurd hq23 (hno _ _ _ _ _)
          · clear hno HD21
            go_wp2
            go_ret
            exact ⟨rfl, B23.out.trans ((bel0 _ _).mono B23.out.size)⟩
  · go_wp2_with fail
    refine (drawES bs HA.out a c _ (H0.out.later B2.out)).mono ?_
    rintro e w3 ⟨d1, d2, d3, e1, e2, e3, l1', h1', l2', h2', l3', h3', rfl, hj, hb⟩
    have S3 : Hid (ScAt w3 d1 d2 d3 n1 n2 n3 z1 z2 z3) := hj.at
    have S3a : Hid (ScAt w3 a1 a2 a3 n1 n2 n3 z1 z2 z3) := S2.out.later hb
    have B3 : Hid (Below w.heap.size w w3) := B2.out.trans (hb.mono B2.out.size)
    have X3 : Hid (BxF w3 w1.heap.size (.slice a1 n1 c1) (.slice a2 n2 c2) (.slice a3 n3 c3)) := bxF_later X2.out hb
    clear hj hb S2 B2 X2
    go_wp2_with fail
    refine (encIN_any d1 d2 d3 n1 n2 n3 e1 e2 e3 z1 z2 z3 _ hnn S3.out HA.out.u1 HA.out.u2 HA.out.u3).mono ?_
    rintro e w4 ⟨v4, rfl, ho4, hb⟩
    have O4 : Hid (OwnY w4 w3.heap.size v4 (encV n1 n2 n3 z1 z2 z3)) := ho4
    have S4 : Hid (ScAt w4 a1 a2 a3 n1 n2 n3 z1 z2 z3) := S3a.out.later hb
    have B4 : Hid (Below w.heap.size w w4) := B3.out.trans (hb.mono B3.out.size)
    have X4 : Hid (BxF w4 w1.heap.size (.slice a1 n1 c1) (.slice a2 n2 c2) (.slice a3 n3 c3)) := bxF_later X3.out hb
    clear ho4 hb S3 S3a B3 X3
    go_wp2_with fail
    refine (dec_enc hv HA.out.l1 HA.out.l2 HA.out.l3 HA.out.u1 HA.out.u2 HA.out.u3 HA.out.b1 HA.out.b2 HA.out.b3 v4 _ _ O4.out).mono ?_
    rintro e w5 ⟨f1, f2, f3, k1, k2, k3, rfl, hs5, hb⟩
    have S5 : Hid (ScAt w5 f1 f2 f3 n1 n2 n3 z1 z2 z3) := hs5
    have S5a : Hid (ScAt w5 a1 a2 a3 n1 n2 n3 z1 z2 z3) := S4.out.later hb
    have B5 : Hid (Below w.heap.size w w5) := B4.out.trans (hb.mono B4.out.size)
    have X5 : Hid (BxF w5 w1.heap.size (.slice a1 n1 c1) (.slice a2 n2 c2) (.slice a3 n3 c3)) := bxF_later X4.out hb
    clear hs5 hb S4 B4 X4 O4
    have x0 := X5.out.q0
    have x1 := X5.out.q1
    have x2 := X5.out.q2
    have xl := X5.out.lt
    go_wp2_with fail
    refine (sameScene_same f1 f2 f3 a1 a2 a3 n1 n2 n3 k1 k2 k3 c1 c2 c3 z1 z2 z3 _ (by omega) (by omega) (by omega) (S5.out.later (bel0 _ _)) (S5a.out.later (bel0 _ _))).mono ?_
    rintro e w6 ⟨rfl, hb⟩
    have B6 : Hid (Below w.heap.size w w6) := (B5.out.trans ((bel0 _ _).mono B5.out.size)).trans (hb.mono (by have := B5.out.size; simp; omega))
    clear hb S5 S5a B5 X5 x0 x1 x2 xl
    go_wp2_with fail
    refine (HDS.out _ (H0.out.later B6.out)).mono ?_
    rintro e w7 ⟨⟨a7, c7, rfl, hc7, hr7, hb⟩, hdg⟩
    have U7 : Hid (U8 ys) := hdg
    have R7 : Hid (RowAt .u8 w7 a7 ys) := hr7.row
    have B7 : Hid (Below w.heap.size w w7) := B6.out.trans (hb.mono B6.out.size)
    clear hdg hr7 hb B6
    go_wp2_with fail
    refine (decS_any a7 c7 ys _ HYL.out U7.out R7.out).mono ?_
    rintro e w8 ⟨_, _, _, _, _, _, _, _, _, _, _, _, rfl, _, hb⟩
    rw [HF.out.1, HF.out.2]
    have R8 : Hid (RowAt .u8 w8 a7 ys) := R7.out.later hb
    have B8 : Hid (Below w.heap.size w w8) := B7.out.trans (hb.mono B7.out.size)
    clear hb R7 B7
    go_wp2_with fail
    refine (HDS.out _ (H0.out.later (B8.out.trans ((bel0 _ _).mono B8.out.size)))).mono ?_
    rintro e w9 ⟨⟨a9, c9, rfl, hc9, hr9, hb⟩, _⟩
    have R9 : Hid (RowAt .u8 w9 a7 ys) := (R8.out.later (bel0 _ _)).later hb
    have R9b : Hid (RowAt .u8 w9 a9 ys) := hr9.row
    have B9 : Hid (Below w.heap.size w w9) := (B8.out.trans ((bel0 _ _).mono B8.out.size)).trans (hb.mono (by have := B8.out.size; simp; omega))
    clear hr9 hb R8 B8
    go_wp2_with fail
    refine (decI_any a9 c9 ys _ HYL.out hc9 U7.out R9b.out).mono ?_
    rintro e w10 ⟨g1, g2, g3, p1, p2, p3, _, _, _, _, _, _, rfl, hj, hb⟩
    rw [HF.out.1, HF.out.2]
    have S10 : Hid (ScAt w10 g1 g2 g3 (decN ys 0) (decN ys 1) (decN ys 2) (decZ1 ys) (decZ2 ys) (decZ3 ys)) := hj.at
    have R10 : Hid (RowAt .u8 w10 a7 ys) := R9.out.later hb
    have B10 : Hid (Below w.heap.size w w10) := B9.out.trans (hb.mono B9.out.size)
    clear hj hb R9 R9b B9
    obtain ⟨W10, hW10⟩ : ∃ W, W = w10.alloc (.cells #[.slice g1 (decN ys 0) p1, .slice g2 (decN ys 1) p2, .slice g3 (decN ys 2) p3] 47) := ⟨_, rfl⟩
    have bW10 : Below w10.heap.size w10 W10 := by rw [hW10]; exact bel0 _ _
    have S10b : Hid (ScAt W10 g1 g2 g3 (decN ys 0) (decN ys 1) (decN ys 2) (decZ1 ys) (decZ2 ys) (decZ3 ys)) := S10.out.later bW10
    have R10b : Hid (RowAt .u8 W10 a7 ys) := R10.out.later bW10
    have B10b : Hid (Below w.heap.size w W10) := B10.out.trans (bW10.mono B10.out.size)
    clear bW10 S10 R10 B10
    by_cases hz0 : ff1 = 0
    · subst hz0
      have hv10 := dec_valid U7.out HF.out.1
      have he10 := enc_of U7.out HF.out.1
      have HV10 : Hid (encV (decN ys 0) (decN ys 1) (decN ys 2) (decZ1 ys) (decZ2 ys) (decZ3 ys) = ys) := by unfold Hid; rw [encV_ok hv10, he10]
      have hn10 : decN ys 0 + decN ys 1 + decN ys 2 ≤ 1048576 := by
        obtain ⟨q1, q2, q3, _⟩ := valid_parts hv10
        omega
      clear hv10 he10
      go_wp2_with fail
      rw [← hW10]
      clear hW10
      refine (encIN_any g1 g2 g3 (decN ys 0) (decN ys 1) (decN ys 2) p1 p2 p3 (decZ1 ys) (decZ2 ys) (decZ3 ys) _ hn10 S10b.out (nums_u32 U7.out _ _) (nums_u32 U7.out _ _) (nums_u32 U7.out _ _)).mono ?_
      rintro e w11 ⟨v11, rfl, ho11, hb⟩
      rw [HV10.out] at ho11
      obtain ⟨a11, c11, rfl, hr11⟩ := ho11.row
      have R11 : Hid (RowAt .u8 w11 a11 ys) := hr11.row
      have R11b : Hid (RowAt .u8 w11 a7 ys) := R10b.out.later hb
      have B11 : Hid (Below w.heap.size w w11) := B10b.out.trans (hb.mono B10b.out.size)
      clear ho11 hr11 hb S10b R10b B10b
      go_wp2_with fail
      refine (sameB_same a11 a7 c11 c7 ys _ HYL.out R11.out R11b.out).mono ?_
      rintro e w12 ⟨rfl, hb⟩
      have B12 : Hid (Below w.heap.size w w12) := B11.out.trans (hb.mono B11.out.size)
      clear hb R11 R11b B11
      go_wp2_with fail
      refine (drawEP bs HC.out a c _ (H0.out.later B12.out)).mono ?_
      rintro e w13 ⟨a13, b13, c13, d13, _, _, _, _, rfl, hj, hb⟩
      have P13 : Hid (PcAt w13 a13 b13 ids.length lits.length (gets ids) (getb lits)) := hj.at
      have B13 : Hid (Below w.heap.size w w13) := B12.out.trans (hb.mono B12.out.size)
      clear hj hb B12
      obtain ⟨W13, hW13⟩ : ∃ W, W = w13.alloc (.cells #[.slice a13 ids.length c13, .int .i64 L, .slice b13 lits.length d13] 57) := ⟨_, rfl⟩
      have X13 : Hid (BxF W13 w13.heap.size (.slice a13 ids.length c13) (.int .i64 L) (.slice b13 lits.length d13)) := by unfold Hid; rw [hW13]; exact BxF.new _ _ _ _ _
      have bW13 : Below w13.heap.size w13 W13 := by rw [hW13]; exact bel0 _ _
      have P13b : Hid (PcAt W13 a13 b13 ids.length lits.length (gets ids) (getb lits)) := P13.out.later bW13
      have B13b : Hid (Below w.heap.size w W13) := B13.out.trans (bW13.mono B13.out.size)
      have hil : ids.length + lits.length ≤ 1048576 := by have := HC.out.n1; have := HC.out.n3; omega
      clear bW13 P13 B13
      go_wp2_with fail
      rw [← hW13]
      clear hW13
      refine (encP_any a13 b13 ids.length lits.length c13 d13 L (gets ids) (getb lits) _ hil P13b.out).mono ?_
      rintro e w14 ⟨v14, rfl, ho14, hb⟩
      rw [HPS.out] at ho14
      obtain ⟨a14, c14, rfl, hr14⟩ := ho14.row
      have R14 : Hid (RowAt .u8 w14 a14 ps) := hr14.row
      have P14 : Hid (PcAt w14 a13 b13 ids.length lits.length (gets ids) (getb lits)) := P13b.out.later hb
      have X14 : Hid (BxF w14 w13.heap.size (.slice a13 ids.length c13) (.int .i64 L) (.slice b13 lits.length d13)) := bxF_later X13.out hb
      have B14 : Hid (Below w.heap.size w w14) := B13b.out.trans (hb.mono B13b.out.size)
      clear ho14 hr14 hb P13b X13 B13b
      go_wp2_with fail
      refine (drawEP bs HC.out a c _ (H0.out.later B14.out)).mono ?_
      rintro e w15 ⟨a15, b15, c15, d15, _, _, _, _, rfl, hj, hb⟩
      have P15 : Hid (PcAt w15 a15 b15 ids.length lits.length (gets ids) (getb lits)) := hj.at
      have P15a : Hid (PcAt w15 a13 b13 ids.length lits.length (gets ids) (getb lits)) := P14.out.later hb
      have R15 : Hid (RowAt .u8 w15 a14 ps) := R14.out.later hb
      have X15 : Hid (BxF w15 w13.heap.size (.slice a13 ids.length c13) (.int .i64 L) (.slice b13 lits.length d13)) := bxF_later X14.out hb
      have B15 : Hid (Below w.heap.size w w15) := B14.out.trans (hb.mono B14.out.size)
      clear hj hb P14 R14 X14 B14
      go_wp2_with fail
      refine (encPN_any a15 b15 ids.length lits.length c15 d15 L (gets ids) (getb lits) _ hil P15.out).mono ?_
      rintro e w16 ⟨v16, rfl, ho16, hb⟩
      rw [HPS.out] at ho16
      obtain ⟨a16, c16, rfl, hr16⟩ := ho16.row
      obtain ⟨_, hc16, _⟩ := ownY_out ho16
      have R16 : Hid (RowAt .u8 w16 a14 ps) := R15.out.later hb
      have R16b : Hid (RowAt .u8 w16 a16 ps) := hr16.row
      have P16 : Hid (PcAt w16 a13 b13 ids.length lits.length (gets ids) (getb lits)) := P15a.out.later hb
      have X16 : Hid (BxF w16 w13.heap.size (.slice a13 ids.length c13) (.int .i64 L) (.slice b13 lits.length d13)) := bxF_later X15.out hb
      have B16 : Hid (Below w.heap.size w w16) := B15.out.trans (hb.mono B15.out.size)
      clear ho16 hr16 hb P15 P15a R15 X15 B15
      go_wp2_with fail
      refine (sameB_same a14 a16 c14 c16 ps _ HPL.out R16.out R16b.out).mono ?_
      rintro e w17 ⟨rfl, hb⟩
      have R17 : Hid (RowAt .u8 w17 a16 ps) := R16b.out.later hb
      have P17 : Hid (PcAt w17 a13 b13 ids.length lits.length (gets ids) (getb lits)) := P16.out.later hb
      have X17 : Hid (BxF w17 w13.heap.size (.slice a13 ids.length c13) (.int .i64 L) (.slice b13 lits.length d13)) := bxF_later X16.out hb
      have B17 : Hid (Below w.heap.size w w17) := B16.out.trans (hb.mono B16.out.size)
      clear hb P16 R16 R16b X16 B16
      cases hvp : validPc ids.length lits.length (gets ids) L
      · have h0 : ps.length = 0 := by rw [← HPS.out, encPV_bad hvp]; rfl
        have B18 : Hid (Below w.heap.size w w17) := B17
        obtain ⟨w18, hw18⟩ : ∃ u, u = w17 := ⟨_, rfl⟩
        rw [← hw18] at B18
        go_wp2_with fail
        rw [← hw18]
        clear hw18 R17 P17 X17 B17
        refine (HDP.out _ (H0.out.later B18.out)).mono ?_
        rintro e w20 ⟨⟨a20, c20, rfl, hc20, hr20, hb⟩, hdg⟩
        have U20 : Hid (U8 us) := hdg
        have R20 : Hid (RowAt .u8 w20 a20 us) := hr20.row
        have B20 : Hid (Below w.heap.size w w20) := B18.out.trans (hb.mono B18.out.size)
        clear hdg hr20 hb B18
        go_wp2_with fail
        refine (decP_any a20 c20 us _ HUL.out U20.out R20.out).mono ?_
        rintro e w21 ⟨a21, b21, c21, d21, n21, m21, g21, L21, h21, K21, _, _, _, _, rfl, hd21, _, hb⟩
        have R21 : Hid (RowAt .u8 w21 a20 us) := R20.out.later hb
        have B21 : Hid (Below w.heap.size w w21) := B20.out.trans (hb.mono B20.out.size)
        have HD21 : Hid (DecP us n21 m21 g21 L21 h21 K21) := hd21
        clear hd21 hb R20 B20
        go_wp2_with fail
        refine (HDP.out _ (H0.out.later (B21.out.trans ((bel0 _ _).mono B21.out.size)))).mono ?_
        rintro e w22 ⟨⟨a22, c22, rfl, hc22, hr22, hb⟩, _⟩
        have R22 : Hid (RowAt .u8 w22 a20 us) := (R21.out.later (bel0 _ _)).later hb
        have R22b : Hid (RowAt .u8 w22 a22 us) := hr22.row
        have B22 : Hid (Below w.heap.size w w22) := (B21.out.trans ((bel0 _ _).mono B21.out.size)).trans (hb.mono (by have := B21.out.size; simp; omega))
        clear hr22 hb R21 B21
        go_wp2_with fail
        refine (decPI_any a22 c22 us _ HUL.out hc22 U20.out R22b.out).mono ?_
        rintro e w23 ⟨a23, b23, c23, d23, n23, m23, g23, L23, h23, K23, _, _, _, _, rfl, hd23, hj, hb⟩
        have P23 : Hid (PcAt w23 a23 b23 n23 m23 g23 h23) := hj.at
        have R23 : Hid (RowAt .u8 w23 a20 us) := R22.out.later hb
        have B23 : Hid (Below w.heap.size w w23) := B22.out.trans (hb.mono B22.out.size)
        clear hj hb R22 R22b B22
        rcases HD21.out with ⟨rfl, hq21⟩ | ⟨rfl, _, _, _, hno⟩
        · rcases hd23 with ⟨rfl, hq23⟩ | ⟨_, _, _, _, hno⟩
          · have HV23 : Hid (encPV n23 m23 g23 L23 h23 = us) := by unfold Hid; rw [encPV_ok hq23.ok]; exact hq23.enc
            have hn23 : n23 + m23 ≤ 1048576 := by
              obtain ⟨q1, q2, q3, q4, _⟩ := hq23.bounds
              have : (n23 : Int) * L23 ≤ 40 * 4 := Int.mul_le_mul (by omega) q3 q2 (by decide)
              omega
            clear hq21 hq23 HD21
            go_wp2_with fail
            refine (encPN_any a23 b23 n23 m23 c23 d23 L23 g23 h23 _ hn23 (P23.out.later (bel0 _ _))).mono ?_
            rintro e w24 ⟨v24, rfl, ho24, hb⟩
            rw [HV23.out] at ho24
            obtain ⟨a24, c24, rfl, hr24⟩ := ho24.row
            have R24 : Hid (RowAt .u8 w24 a20 us) := (R23.out.later (bel0 _ _)).later hb
            have R24b : Hid (RowAt .u8 w24 a24 us) := hr24.row
            have B24 : Hid (Below w.heap.size w w24) := (B23.out.trans ((bel0 _ _).mono B23.out.size)).trans (hb.mono (by have := B23.out.size; simp; omega))
            clear ho24 hr24 hb P23 R23 B23
            go_wp2_with fail
            refine (sameB_same a24 a20 c24 c20 us _ HUL.out R24b.out R24.out).mono ?_
            rintro e w25 ⟨rfl, hb⟩
            have B25 : Hid (Below w.heap.size w w25) := B24.out.trans (hb.mono B24.out.size)
            clear hb R24 R24b B24
            go_wp2
            go_ret
            exact ⟨rfl, B25.out⟩
          · exact absurd hq21 (hno _ _ _ _ _)
        · rcases hd23 with ⟨rfl, hq23⟩ | ⟨rfl, _, _, _, _⟩
          · exact absurd hq23 (hno _ _ _ _ _)
          · clear hno HD21
            go_wp2
            go_ret
            exact ⟨rfl, B23.out.trans ((bel0 _ _).mono B23.out.size)⟩
      · have hpic : IsPic ps ids.length lits.length (gets ids) L (getb lits) := ⟨hvp, by rw [← HPS.out, encPV_ok hvp]⟩
        have hup : U8 ps := by rw [← hpic.enc]; exact encPc_u8 _ _ _ _ _
        have hne : ps ≠ [] := by rw [← hpic.enc]; exact encPc_ne _ _ _ _ _
        have h0 : (0 : Int) < ps.length := by
          have : 0 < ps.length := List.length_pos_iff.2 hne
          omega
        have HPIC : Hid (IsPic ps ids.length lits.length (gets ids) L (getb lits) ∧ U8 ps) := ⟨hpic, hup⟩
        clear hpic hup hne
        go_wp2_with fail
        refine (dec_pic HPIC.out.1 HPL.out HPIC.out.2 a16 c16 _ hc16 R17.out).mono ?_
        rintro e w18 ⟨a18, b18, c18, d18, g18, h18, rfl, hp18, hg18, hh18, hb⟩
        have P18 : Hid (PcAt w18 a18 b18 ids.length lits.length g18 h18) := hp18
        have P18a : Hid (PcAt w18 a13 b13 ids.length lits.length (gets ids) (getb lits)) := P17.out.later hb
        have HG18 : Hid ((∀ i, i < ids.length → gets ids i = g18 i) ∧ ∀ i, i < lits.length → getb lits i = h18 i) := ⟨hg18, hh18⟩
        have X18 : Hid (BxF w18 w13.heap.size (.slice a13 ids.length c13) (.int .i64 L) (.slice b13 lits.length d13)) := bxF_later X17.out hb
        have B17b : Hid (Below w.heap.size w w18) := B17.out.trans (hb.mono B17.out.size)
        clear hp18 hg18 hh18 hb P17 R17 X17 B17
        have x0 := X18.out.q0
        have x1 := X18.out.q1
        have x2 := X18.out.q2
        have xl := X18.out.lt
        go_wp2_with fail -- HERE1
        refine (samePicture_same a18 b18 a13 b13 ids.length lits.length c18 d18 c13 d13 L g18 (gets ids) h18 (getb lits) _ (by omega) (by omega) (P18.out.later (bel0 _ _)) (P18a.out.later (bel0 _ _)) HG18.out.1 HG18.out.2).mono ?_
        rintro e w19 ⟨rfl, hb⟩
        have B18 : Hid (Below w.heap.size w w19) := (B17b.out.trans ((bel0 _ _).mono B17b.out.size)).trans (hb.mono (by have := B17b.out.size; simp; omega))
        clear hb P18 P18a HG18 X18 B17b x0 x1 x2 xl
        go_wp2_with fail
        refine (HDP.out _ (H0.out.later B18.out)).mono ?_
        rintro e w20 ⟨⟨a20, c20, rfl, hc20, hr20, hb⟩, hdg⟩
        have U20 : Hid (U8 us) := hdg
        have R20 : Hid (RowAt .u8 w20 a20 us) := hr20.row
        have B20 : Hid (Below w.heap.size w w20) := B18.out.trans (hb.mono B18.out.size)
        clear hdg hr20 hb B18
        go_wp2_with fail
        refine (decP_any a20 c20 us _ HUL.out U20.out R20.out).mono ?_
        rintro e w21 ⟨a21, b21, c21, d21, n21, m21, g21, L21, h21, K21, _, _, _, _, rfl, hd21, _, hb⟩
        have R21 : Hid (RowAt .u8 w21 a20 us) := R20.out.later hb
        have B21 : Hid (Below w.heap.size w w21) := B20.out.trans (hb.mono B20.out.size)
        have HD21 : Hid (DecP us n21 m21 g21 L21 h21 K21) := hd21
        clear hd21 hb R20 B20
        go_wp2_with fail
        refine (HDP.out _ (H0.out.later (B21.out.trans ((bel0 _ _).mono B21.out.size)))).mono ?_
        rintro e w22 ⟨⟨a22, c22, rfl, hc22, hr22, hb⟩, _⟩
        have R22 : Hid (RowAt .u8 w22 a20 us) := (R21.out.later (bel0 _ _)).later hb
        have R22b : Hid (RowAt .u8 w22 a22 us) := hr22.row
        have B22 : Hid (Below w.heap.size w w22) := (B21.out.trans ((bel0 _ _).mono B21.out.size)).trans (hb.mono (by have := B21.out.size; simp; omega))
        clear hr22 hb R21 B21
        go_wp2_with fail
        refine (decPI_any a22 c22 us _ HUL.out hc22 U20.out R22b.out).mono ?_
        rintro e w23 ⟨a23, b23, c23, d23, n23, m23, g23, L23, h23, K23, _, _, _, _, rfl, hd23, hj, hb⟩
        have P23 : Hid (PcAt w23 a23 b23 n23 m23 g23 h23) := hj.at
        have R23 : Hid (RowAt .u8 w23 a20 us) := R22.out.later hb
        have B23 : Hid (Below w.heap.size w w23) := B22.out.trans (hb.mono B22.out.size)
        clear hj hb R22 R22b B22
        rcases HD21.out with ⟨rfl, hq21⟩ | ⟨rfl, _, _, _, hno⟩
        · rcases hd23 with ⟨rfl, hq23⟩ | ⟨_, _, _, _, hno⟩
          · have HV23 : Hid (encPV n23 m23 g23 L23 h23 = us) := by unfold Hid; rw [encPV_ok hq23.ok]; exact hq23.enc
            have hn23 : n23 + m23 ≤ 1048576 := by
              obtain ⟨q1, q2, q3, q4, _⟩ := hq23.bounds
              have : (n23 : Int) * L23 ≤ 40 * 4 := Int.mul_le_mul (by omega) q3 q2 (by decide)
              omega
            clear hq21 hq23 HD21
            go_wp2_with fail
            refine (encPN_any a23 b23 n23 m23 c23 d23 L23 g23 h23 _ hn23 (P23.out.later (bel0 _ _))).mono ?_
            rintro e w24 ⟨v24, rfl, ho24, hb⟩
            rw [HV23.out] at ho24
            obtain ⟨a24, c24, rfl, hr24⟩ := ho24.row
            have R24 : Hid (RowAt .u8 w24 a20 us) := (R23.out.later (bel0 _ _)).later hb
            have R24b : Hid (RowAt .u8 w24 a24 us) := hr24.row
            have B24 : Hid (Below w.heap.size w w24) := (B23.out.trans ((bel0 _ _).mono B23.out.size)).trans (hb.mono (by have := B23.out.size; simp; omega))
            clear ho24 hr24 hb P23 R23 B23
            go_wp2_with fail
            refine (sameB_same a24 a20 c24 c20 us _ HUL.out R24b.out R24.out).mono ?_
            rintro e w25 ⟨rfl, hb⟩
            have B25 : Hid (Below w.heap.size w w25) := B24.out.trans (hb.mono B24.out.size)
            clear hb R24 R24b B24
            go_wp2
            go_ret
            exact ⟨rfl, B25.out⟩
          · exact absurd hq21 (hno _ _ _ _ _)
        · rcases hd23 with ⟨rfl, hq23⟩ | ⟨rfl, _, _, _, _⟩
          · exact absurd hq23 (hno _ _ _ _ _)
          · clear hno HD21
            go_wp2
            go_ret
            exact ⟨rfl, B23.out.trans ((bel0 _ _).mono B23.out.size)⟩
    · have hz1 : (ff1 == 0) = false := by rw [beq_eq_false_iff_ne]; exact hz0
      clear hz0
      obtain ⟨w12, hw12⟩ : ∃ u, u = W10 := ⟨_, rfl⟩
      have B12 : Hid (Below w.heap.size w w12) := by unfold Hid; rw [hw12]; exact B10b.out
      go_wp2_with fail
      rw [← hW10, ← hw12]
      clear hW10 hw12 S10b R10b B10b
      refine (drawEP bs HC.out a c _ (H0.out.later B12.out)).mono ?_
      rintro e w13 ⟨a13, b13, c13, d13, _, _, _, _, rfl, hj, hb⟩
      have P13 : Hid (PcAt w13 a13 b13 ids.length lits.length (gets ids) (getb lits)) := hj.at
      have B13 : Hid (Below w.heap.size w w13) := B12.out.trans (hb.mono B12.out.size)
      clear hj hb B12
      obtain ⟨W13, hW13⟩ : ∃ W, W = w13.alloc (.cells #[.slice a13 ids.length c13, .int .i64 L, .slice b13 lits.length d13] 57) := ⟨_, rfl⟩
      have X13 : Hid (BxF W13 w13.heap.size (.slice a13 ids.length c13) (.int .i64 L) (.slice b13 lits.length d13)) := by unfold Hid; rw [hW13]; exact BxF.new _ _ _ _ _
      have bW13 : Below w13.heap.size w13 W13 := by rw [hW13]; exact bel0 _ _
      have P13b : Hid (PcAt W13 a13 b13 ids.length lits.length (gets ids) (getb lits)) := P13.out.later bW13
      have B13b : Hid (Below w.heap.size w W13) := B13.out.trans (bW13.mono B13.out.size)
      have hil : ids.length + lits.length ≤ 1048576 := by have := HC.out.n1; have := HC.out.n3; omega
      clear bW13 P13 B13
      go_wp2_with fail
      rw [← hW13]
      clear hW13
      refine (encP_any a13 b13 ids.length lits.length c13 d13 L (gets ids) (getb lits) _ hil P13b.out).mono ?_
      rintro e w14 ⟨v14, rfl, ho14, hb⟩
      rw [HPS.out] at ho14
      obtain ⟨a14, c14, rfl, hr14⟩ := ho14.row
      have R14 : Hid (RowAt .u8 w14 a14 ps) := hr14.row
      have P14 : Hid (PcAt w14 a13 b13 ids.length lits.length (gets ids) (getb lits)) := P13b.out.later hb
      have X14 : Hid (BxF w14 w13.heap.size (.slice a13 ids.length c13) (.int .i64 L) (.slice b13 lits.length d13)) := bxF_later X13.out hb
      have B14 : Hid (Below w.heap.size w w14) := B13b.out.trans (hb.mono B13b.out.size)
      clear ho14 hr14 hb P13b X13 B13b
      go_wp2_with fail
      refine (drawEP bs HC.out a c _ (H0.out.later B14.out)).mono ?_
      rintro e w15 ⟨a15, b15, c15, d15, _, _, _, _, rfl, hj, hb⟩
      have P15 : Hid (PcAt w15 a15 b15 ids.length lits.length (gets ids) (getb lits)) := hj.at
      have P15a : Hid (PcAt w15 a13 b13 ids.length lits.length (gets ids) (getb lits)) := P14.out.later hb
      have R15 : Hid (RowAt .u8 w15 a14 ps) := R14.out.later hb
      have X15 : Hid (BxF w15 w13.heap.size (.slice a13 ids.length c13) (.int .i64 L) (.slice b13 lits.length d13)) := bxF_later X14.out hb
      have B15 : Hid (Below w.heap.size w w15) := B14.out.trans (hb.mono B14.out.size)
      clear hj hb P14 R14 X14 B14
      go_wp2_with fail
      refine (encPN_any a15 b15 ids.length lits.length c15 d15 L (gets ids) (getb lits) _ hil P15.out).mono ?_
      rintro e w16 ⟨v16, rfl, ho16, hb⟩
      rw [HPS.out] at ho16
      obtain ⟨a16, c16, rfl, hr16⟩ := ho16.row
      obtain ⟨_, hc16, _⟩ := ownY_out ho16
      have R16 : Hid (RowAt .u8 w16 a14 ps) := R15.out.later hb
      have R16b : Hid (RowAt .u8 w16 a16 ps) := hr16.row
      have P16 : Hid (PcAt w16 a13 b13 ids.length lits.length (gets ids) (getb lits)) := P15a.out.later hb
      have X16 : Hid (BxF w16 w13.heap.size (.slice a13 ids.length c13) (.int .i64 L) (.slice b13 lits.length d13)) := bxF_later X15.out hb
      have B16 : Hid (Below w.heap.size w w16) := B15.out.trans (hb.mono B15.out.size)
      clear ho16 hr16 hb P15 P15a R15 X15 B15
      go_wp2_with fail
      refine (sameB_same a14 a16 c14 c16 ps _ HPL.out R16.out R16b.out).mono ?_
      rintro e w17 ⟨rfl, hb⟩
      have R17 : Hid (RowAt .u8 w17 a16 ps) := R16b.out.later hb
      have P17 : Hid (PcAt w17 a13 b13 ids.length lits.length (gets ids) (getb lits)) := P16.out.later hb
      have X17 : Hid (BxF w17 w13.heap.size (.slice a13 ids.length c13) (.int .i64 L) (.slice b13 lits.length d13)) := bxF_later X16.out hb
      have B17 : Hid (Below w.heap.size w w17) := B16.out.trans (hb.mono B16.out.size)
      clear hb P16 R16 R16b X16 B16
      cases hvp : validPc ids.length lits.length (gets ids) L
      · have h0 : ps.length = 0 := by rw [← HPS.out, encPV_bad hvp]; rfl
        have B18 : Hid (Below w.heap.size w w17) := B17
        obtain ⟨w18, hw18⟩ : ∃ u, u = w17 := ⟨_, rfl⟩
        rw [← hw18] at B18
        go_wp2_with fail
        rw [← hw18]
        clear hw18 R17 P17 X17 B17
        refine (HDP.out _ (H0.out.later B18.out)).mono ?_
        rintro e w20 ⟨⟨a20, c20, rfl, hc20, hr20, hb⟩, hdg⟩
        have U20 : Hid (U8 us) := hdg
        have R20 : Hid (RowAt .u8 w20 a20 us) := hr20.row
        have B20 : Hid (Below w.heap.size w w20) := B18.out.trans (hb.mono B18.out.size)
        clear hdg hr20 hb B18
        go_wp2_with fail
        refine (decP_any a20 c20 us _ HUL.out U20.out R20.out).mono ?_
        rintro e w21 ⟨a21, b21, c21, d21, n21, m21, g21, L21, h21, K21, _, _, _, _, rfl, hd21, _, hb⟩
        have R21 : Hid (RowAt .u8 w21 a20 us) := R20.out.later hb
        have B21 : Hid (Below w.heap.size w w21) := B20.out.trans (hb.mono B20.out.size)
        have HD21 : Hid (DecP us n21 m21 g21 L21 h21 K21) := hd21
        clear hd21 hb R20 B20
        go_wp2_with fail
        refine (HDP.out _ (H0.out.later (B21.out.trans ((bel0 _ _).mono B21.out.size)))).mono ?_
        rintro e w22 ⟨⟨a22, c22, rfl, hc22, hr22, hb⟩, _⟩
        have R22 : Hid (RowAt .u8 w22 a20 us) := (R21.out.later (bel0 _ _)).later hb
        have R22b : Hid (RowAt .u8 w22 a22 us) := hr22.row
        have B22 : Hid (Below w.heap.size w w22) := (B21.out.trans ((bel0 _ _).mono B21.out.size)).trans (hb.mono (by have := B21.out.size; simp; omega))
        clear hr22 hb R21 B21
        go_wp2_with fail
        refine (decPI_any a22 c22 us _ HUL.out hc22 U20.out R22b.out).mono ?_
        rintro e w23 ⟨a23, b23, c23, d23, n23, m23, g23, L23, h23, K23, _, _, _, _, rfl, hd23, hj, hb⟩
        have P23 : Hid (PcAt w23 a23 b23 n23 m23 g23 h23) := hj.at
        have R23 : Hid (RowAt .u8 w23 a20 us) := R22.out.later hb
        have B23 : Hid (Below w.heap.size w w23) := B22.out.trans (hb.mono B22.out.size)
        clear hj hb R22 R22b B22
        rcases HD21.out with ⟨rfl, hq21⟩ | ⟨rfl, _, _, _, hno⟩
        · rcases hd23 with ⟨rfl, hq23⟩ | ⟨_, _, _, _, hno⟩
          · have HV23 : Hid (encPV n23 m23 g23 L23 h23 = us) := by unfold Hid; rw [encPV_ok hq23.ok]; exact hq23.enc
            have hn23 : n23 + m23 ≤ 1048576 := by
              obtain ⟨q1, q2, q3, q4, _⟩ := hq23.bounds
              have : (n23 : Int) * L23 ≤ 40 * 4 := Int.mul_le_mul (by omega) q3 q2 (by decide)
              omega
            clear hq21 hq23 HD21
            go_wp2_with fail
            refine (encPN_any a23 b23 n23 m23 c23 d23 L23 g23 h23 _ hn23 (P23.out.later (bel0 _ _))).mono ?_
            rintro e w24 ⟨v24, rfl, ho24, hb⟩
            rw [HV23.out] at ho24
            obtain ⟨a24, c24, rfl, hr24⟩ := ho24.row
            have R24 : Hid (RowAt .u8 w24 a20 us) := (R23.out.later (bel0 _ _)).later hb
            have R24b : Hid (RowAt .u8 w24 a24 us) := hr24.row
            have B24 : Hid (Below w.heap.size w w24) := (B23.out.trans ((bel0 _ _).mono B23.out.size)).trans (hb.mono (by have := B23.out.size; simp; omega))
            clear ho24 hr24 hb P23 R23 B23
            go_wp2_with fail
            refine (sameB_same a24 a20 c24 c20 us _ HUL.out R24b.out R24.out).mono ?_
            rintro e w25 ⟨rfl, hb⟩
            have B25 : Hid (Below w.heap.size w w25) := B24.out.trans (hb.mono B24.out.size)
            clear hb R24 R24b B24
            go_wp2
            go_ret
            exact ⟨rfl, B25.out⟩
          · exact absurd hq21 (hno _ _ _ _ _)
        · rcases hd23 with ⟨rfl, hq23⟩ | ⟨rfl, _, _, _, _⟩
          · exact absurd hq23 (hno _ _ _ _ _)
          · clear hno HD21
            go_wp2
            go_ret
            exact ⟨rfl, B23.out.trans ((bel0 _ _).mono B23.out.size)⟩
      · have hpic : IsPic ps ids.length lits.length (gets ids) L (getb lits) := ⟨hvp, by rw [← HPS.out, encPV_ok hvp]⟩
        have hup : U8 ps := by rw [← hpic.enc]; exact encPc_u8 _ _ _ _ _
        have hne : ps ≠ [] := by rw [← hpic.enc]; exact encPc_ne _ _ _ _ _
        have h0 : (0 : Int) < ps.length := by
          have : 0 < ps.length := List.length_pos_iff.2 hne
          omega
        have HPIC : Hid (IsPic ps ids.length lits.length (gets ids) L (getb lits) ∧ U8 ps) := ⟨hpic, hup⟩
        clear hpic hup hne
        go_wp2_with fail
        refine (dec_pic HPIC.out.1 HPL.out HPIC.out.2 a16 c16 _ hc16 R17.out).mono ?_
        rintro e w18 ⟨a18, b18, c18, d18, g18, h18, rfl, hp18, hg18, hh18, hb⟩
        have P18 : Hid (PcAt w18 a18 b18 ids.length lits.length g18 h18) := hp18
        have P18a : Hid (PcAt w18 a13 b13 ids.length lits.length (gets ids) (getb lits)) := P17.out.later hb
        have HG18 : Hid ((∀ i, i < ids.length → gets ids i = g18 i) ∧ ∀ i, i < lits.length → getb lits i = h18 i) := ⟨hg18, hh18⟩
        have X18 : Hid (BxF w18 w13.heap.size (.slice a13 ids.length c13) (.int .i64 L) (.slice b13 lits.length d13)) := bxF_later X17.out hb
        have B17b : Hid (Below w.heap.size w w18) := B17.out.trans (hb.mono B17.out.size)
        clear hp18 hg18 hh18 hb P17 R17 X17 B17
        have x0 := X18.out.q0
        have x1 := X18.out.q1
        have x2 := X18.out.q2
        have xl := X18.out.lt
        go_wp2_with fail -- HERE1
        refine (samePicture_same a18 b18 a13 b13 ids.length lits.length c18 d18 c13 d13 L g18 (gets ids) h18 (getb lits) _ (by omega) (by omega) (P18.out.later (bel0 _ _)) (P18a.out.later (bel0 _ _)) HG18.out.1 HG18.out.2).mono ?_
        rintro e w19 ⟨rfl, hb⟩
        have B18 : Hid (Below w.heap.size w w19) := (B17b.out.trans ((bel0 _ _).mono B17b.out.size)).trans (hb.mono (by have := B17b.out.size; simp; omega))
        clear hb P18 P18a HG18 X18 B17b x0 x1 x2 xl
        go_wp2_with fail
        refine (HDP.out _ (H0.out.later B18.out)).mono ?_
        rintro e w20 ⟨⟨a20, c20, rfl, hc20, hr20, hb⟩, hdg⟩
        have U20 : Hid (U8 us) := hdg
        have R20 : Hid (RowAt .u8 w20 a20 us) := hr20.row
        have B20 : Hid (Below w.heap.size w w20) := B18.out.trans (hb.mono B18.out.size)
        clear hdg hr20 hb B18
        go_wp2_with fail
        refine (decP_any a20 c20 us _ HUL.out U20.out R20.out).mono ?_
        rintro e w21 ⟨a21, b21, c21, d21, n21, m21, g21, L21, h21, K21, _, _, _, _, rfl, hd21, _, hb⟩
        have R21 : Hid (RowAt .u8 w21 a20 us) := R20.out.later hb
        have B21 : Hid (Below w.heap.size w w21) := B20.out.trans (hb.mono B20.out.size)
        have HD21 : Hid (DecP us n21 m21 g21 L21 h21 K21) := hd21
        clear hd21 hb R20 B20
        go_wp2_with fail
        refine (HDP.out _ (H0.out.later (B21.out.trans ((bel0 _ _).mono B21.out.size)))).mono ?_
        rintro e w22 ⟨⟨a22, c22, rfl, hc22, hr22, hb⟩, _⟩
        have R22 : Hid (RowAt .u8 w22 a20 us) := (R21.out.later (bel0 _ _)).later hb
        have R22b : Hid (RowAt .u8 w22 a22 us) := hr22.row
        have B22 : Hid (Below w.heap.size w w22) := (B21.out.trans ((bel0 _ _).mono B21.out.size)).trans (hb.mono (by have := B21.out.size; simp; omega))
        clear hr22 hb R21 B21
        go_wp2_with fail
        refine (decPI_any a22 c22 us _ HUL.out hc22 U20.out R22b.out).mono ?_
        rintro e w23 ⟨a23, b23, c23, d23, n23, m23, g23, L23, h23, K23, _, _, _, _, rfl, hd23, hj, hb⟩
        have P23 : Hid (PcAt w23 a23 b23 n23 m23 g23 h23) := hj.at
        have R23 : Hid (RowAt .u8 w23 a20 us) := R22.out.later hb
        have B23 : Hid (Below w.heap.size w w23) := B22.out.trans (hb.mono B22.out.size)
        clear hj hb R22 R22b B22
        rcases HD21.out with ⟨rfl, hq21⟩ | ⟨rfl, _, _, _, hno⟩
        · rcases hd23 with ⟨rfl, hq23⟩ | ⟨_, _, _, _, hno⟩
          · have HV23 : Hid (encPV n23 m23 g23 L23 h23 = us) := by unfold Hid; rw [encPV_ok hq23.ok]; exact hq23.enc
            have hn23 : n23 + m23 ≤ 1048576 := by
              obtain ⟨q1, q2, q3, q4, _⟩ := hq23.bounds
              have : (n23 : Int) * L23 ≤ 40 * 4 := Int.mul_le_mul (by omega) q3 q2 (by decide)
              omega
            clear hq21 hq23 HD21
            go_wp2_with fail
            refine (encPN_any a23 b23 n23 m23 c23 d23 L23 g23 h23 _ hn23 (P23.out.later (bel0 _ _))).mono ?_
            rintro e w24 ⟨v24, rfl, ho24, hb⟩
            rw [HV23.out] at ho24
            obtain ⟨a24, c24, rfl, hr24⟩ := ho24.row
            have R24 : Hid (RowAt .u8 w24 a20 us) := (R23.out.later (bel0 _ _)).later hb
            have R24b : Hid (RowAt .u8 w24 a24 us) := hr24.row
            have B24 : Hid (Below w.heap.size w w24) := (B23.out.trans ((bel0 _ _).mono B23.out.size)).trans (hb.mono (by have := B23.out.size; simp; omega))
            clear ho24 hr24 hb P23 R23 B23
            go_wp2_with fail
            refine (sameB_same a24 a20 c24 c20 us _ HUL.out R24b.out R24.out).mono ?_
            rintro e w25 ⟨rfl, hb⟩
            have B25 : Hid (Below w.heap.size w w25) := B24.out.trans (hb.mono B24.out.size)
            clear hb R24 R24b B24
            go_wp2
            go_ret
            exact ⟨rfl, B25.out⟩
          · exact absurd hq21 (hno _ _ _ _ _)
        · rcases hd23 with ⟨rfl, hq23⟩ | ⟨rfl, _, _, _, _⟩
          · exact absurd hq23 (hno _ _ _ _ _)
          · clear hno HD21
            go_wp2
            go_ret
            exact ⟨rfl, B23.out.trans ((bel0 _ _).mono B23.out.size)⟩

end Go.Proofs.YtfcnokagfibgcahGreat
