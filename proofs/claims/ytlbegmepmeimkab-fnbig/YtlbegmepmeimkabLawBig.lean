/-
  The law of sums and products, walked.
-/
import Derived.Test.YtlbegmepmeimkabLawS0
import Derived.Test.YtlbegmepmeimkabDrawXDrawTSpecAdd
import Derived.Test.YtlbegmepmeimkabDrawXDrawTSpecAdd
import Derived.Test.YtlbegmepmeimkabDrawXDrawTSpecAdd
import Derived.Test.YtlbegmepmeimkabSpecMulSpecFnSpecI
import Derived.Test.YtlbegmepmeimkabSpecSubImplC0
import Derived.Test.YtlbegmepmeimkabImplAddImplNgImplN
import Derived.Test.YtlbegmepmeimkabImplSub
import Derived.Test.YtlbegmepmeimkabImplMulImplO
import Derived.Test.YtlbegmepmeimkabCmpI
import Derived.Deep.CutRange
import Derived.Deep.Light
namespace Go.Proofs.Ytlbegmepmeimkab
open Go.RowKit

set_option maxRecDepth 100000 in
set_option maxHeartbeats 1000000 in
theorem lawBig_far (a a' : Option Addr) (c c' : Nat) (bs cs : List Int) (w : World) (hn : bs.length ≤ maxLen) (hn' : cs.length ≤ maxLen) (hl : (1048576 : Int) < bs.length ∨ (1048576 : Int) < cs.length) :
    Calls Try.prog 7 #[.slice a bs.length c, .slice a' cs.length c'] w fun e w' => e = .returned (.bool true) ∧ Below w.heap.size w w' := by
  unfold maxLen at hn hn'
  by_cases h1 : (1048576 : Int) < bs.length
  · go_enter Try.func7, Try.ntmps7
    go_wp2
    go_ret
    exact ⟨rfl, Below.refl _ _⟩
  · have h2 : (1048576 : Int) < cs.length := by omega
    go_enter Try.func7, Try.ntmps7
    go_wp2
    go_ret
    exact ⟨rfl, Below.refl _ _⟩

theorem b1_sign {g : Bool} {zs : List Int} {x : Int} (h : B1 g zs x) : (zs = [] ∧ x = 0 ∧ sgn x = 0) ∨ (0 < zs.length ∧ g = true ∧ sgn x = -1) ∨ (0 < zs.length ∧ g = false ∧ sgn x = 1) := by
  by_cases e : zs = []
  · have hx : x = 0 := by rw [h.num, e]; cases g <;> simp [sg, val]
    exact .inl ⟨e, hx, by rw [hx]; rfl⟩
  · have hp := val_pos (B := 4294967296) (by decide) h.can e
    have hl : 0 < zs.length := List.length_pos_iff.2 e
    have hn := h.num
    cases g
    · refine .inr (.inr ⟨hl, rfl, ?_⟩)
      simp [sg] at hn
      unfold sgn
      rw [if_neg (by omega), if_neg (by omega)]
    · refine .inr (.inl ⟨hl, rfl, ?_⟩)
      simp [sg] at hn
      unfold sgn
      rw [if_pos (by omega)]

set_option maxRecDepth 100000 in
set_option maxHeartbeats 64000000 in
theorem lawBig_near (a a' : Option Addr) (c c' : Nat) (bs cs : List Int) (w : World) (hcb : bs.length ≤ c) (hcm : c ≤ maxLen) (hnil : Nil0 a c) (hr : RowAt .u8 w a bs) (hb : Dig 256 bs) (hcb' : cs.length ≤ c') (hcm' : c' ≤ maxLen) (hnil' : Nil0 a' c') (hr' : RowAt .u8 w a' cs) (hb' : Dig 256 cs)
    (hl : ¬ (1048576 : Int) < bs.length) (hl' : ¬ (1048576 : Int) < cs.length) :
    Calls Try.prog 7 #[.slice a bs.length c, .slice a' cs.length c'] w fun e w' => e = .returned (.bool true) ∧ Below w.heap.size w w' := by
  go_enter Try.func7, Try.ntmps7
  go_wp2_with fail
  refine (drawAdd_any a c bs w (by omega) hcb hcm hnil hr hb).mono ?_
  rintro e W1 ⟨GA, aA, cA, zA, GB, aB, cB, zB, rfl, hlA, hlB, huA, huB, hsA, hsB, hb1⟩
  have hfitA : zA.length ≤ cA := hsA.fits
  have hnilA : Nil0 aA cA := hsA.nil
  have hfitB : zB.length ≤ cB := hsB.fits
  have hnilB : Nil0 aB cB := hsB.nil
  have XA : Hid (BigIn W1.heap.size GA aA cA zA ((W1.alloc (.cells #[.bool GA, .slice aA zA.length cA] 26)).alloc (.cells #[.bool GB, .slice aB zB.length cB] 26))) := (BigIn.start _ hsA.row).later (bel0 _ _)
  have XB : Hid (BigIn (W1.heap.size + 1) GB aB cB zB ((W1.alloc (.cells #[.bool GA, .slice aA zA.length cA] 26)).alloc (.cells #[.bool GB, .slice aB zB.length cB] 26))) := by
    have h := BigIn.start (W := (W1.alloc (.cells #[.bool GA, .slice aA zA.length cA] 26))) (G := GB) (c := cB) 26 (hsB.row.later (bel0 _ _))
    have e1 : (W1.alloc (.cells #[.bool GA, .slice aA zA.length cA] 26)).heap.size = W1.heap.size + 1 := by simp
    rw [e1] at h
    exact h
  have HB : Hid (Below w.heap.size w ((W1.alloc (.cells #[.bool GA, .slice aA zA.length cA] 26)).alloc (.cells #[.bool GB, .slice aB zB.length cB] 26))) := hb1.trans ((bel2 _ _ _).mono hb1.size)
  clear hb1 hsA hsB
  go_wp2_with fail
  refine (drawText_any a' c' cs _ (by omega) hcb' hcm' hnil' (hr'.later HB.out) hb').mono ?_
  rintro e W3 ⟨GC, aC, cC, zC, rfl, hlC, huC, hown, hb3, _⟩
  obtain ⟨a2, c2, e2, hcm2, hsC, hrnC⟩ := own_row hown
  injection e2 with e3 e4 e5
  subst e3 e5
  have hfitC : zC.length ≤ cC := hsC.fits
  have hnilC : Nil0 aC cC := hsC.nil
  have HBX : Hid (Below ((W1.alloc (.cells #[.bool GA, .slice aA zA.length cA] 26)).alloc (.cells #[.bool GB, .slice aB zB.length cB] 26)).heap.size ((W1.alloc (.cells #[.bool GA, .slice aA zA.length cA] 26)).alloc (.cells #[.bool GB, .slice aB zB.length cB] 26)) (W3.alloc (.cells #[.bool GC, .slice aC zC.length cC] 26))) := hb3.alloc hb3.size _
  have XC : Hid (BigIn W3.heap.size GC aC cC zC (W3.alloc (.cells #[.bool GC, .slice aC zC.length cC] 26))) := BigIn.start _ hsC.row
  have HBn : Hid (Below w.heap.size w (W3.alloc (.cells #[.bool GC, .slice aC zC.length cC] 26))) := HB.out.trans (HBX.out.mono HB.out.size)
  have XAn : Hid (BigIn W1.heap.size GA aA cA zA (W3.alloc (.cells #[.bool GC, .slice aC zC.length cC] 26))) := XA.out.later HBX.out
  have XBn : Hid (BigIn (W1.heap.size + 1) GB aB cB zB (W3.alloc (.cells #[.bool GC, .slice aC zC.length cC] 26))) := XB.out.later HBX.out
  clear XA
  have XA := XAn
  clear XAn
  clear XB
  have XB := XBn
  clear XBn
  clear HB HBX hb3 hown hsC hrnC
  have HB := HBn
  clear HBn
  have s0 := XA.out.q0
  have s1 := XA.out.q1
  go_wp2_with fail
  refine (validS_any GA aA cA zA _ (by unfold maxLen; omega) XA.out.row).mono ?_
  rintro e VA ⟨rfl, hbV⟩
  have HBn : Hid (Below w.heap.size w VA) := HB.out.trans (hbV.mono HB.out.size)
  have XAn : Hid (BigIn W1.heap.size GA aA cA zA VA) := XA.out.later hbV
  have XBn : Hid (BigIn (W1.heap.size + 1) GB aB cB zB VA) := XB.out.later hbV
  have XCn : Hid (BigIn W3.heap.size GC aC cC zC VA) := XC.out.later hbV
  clear XA
  have XA := XAn
  clear XAn
  clear XB
  have XB := XBn
  clear XBn
  clear XC
  have XC := XCn
  clear XCn
  clear HB hbV s0 s1
  have HB := HBn
  clear HBn
  cases hvalA : validB GA zA
  · go_wp2
    go_ret
    exact ⟨rfl, HB.out⟩
  · skip
    have s0 := XB.out.q0
    have s1 := XB.out.q1
    go_wp2_with fail
    refine (validS_any GB aB cB zB _ (by unfold maxLen; omega) XB.out.row).mono ?_
    rintro e VB ⟨rfl, hbV⟩
    have HBn : Hid (Below w.heap.size w VB) := HB.out.trans (hbV.mono HB.out.size)
    have XAn : Hid (BigIn W1.heap.size GA aA cA zA VB) := XA.out.later hbV
    have XBn : Hid (BigIn (W1.heap.size + 1) GB aB cB zB VB) := XB.out.later hbV
    have XCn : Hid (BigIn W3.heap.size GC aC cC zC VB) := XC.out.later hbV
    clear XA
    have XA := XAn
    clear XAn
    clear XB
    have XB := XBn
    clear XBn
    clear XC
    have XC := XCn
    clear XCn
    clear HB hbV s0 s1
    have HB := HBn
    clear HBn
    cases hvalB : validB GB zB
    · go_wp2
      go_ret
      exact ⟨rfl, HB.out⟩
    · skip
      have s0 := XC.out.q0
      have s1 := XC.out.q1
      go_wp2_with fail
      refine (validS_any GC aC cC zC _ (by unfold maxLen; omega) XC.out.row).mono ?_
      rintro e VC ⟨rfl, hbV⟩
      have HBn : Hid (Below w.heap.size w VC) := HB.out.trans (hbV.mono HB.out.size)
      have XAn : Hid (BigIn W1.heap.size GA aA cA zA VC) := XA.out.later hbV
      have XBn : Hid (BigIn (W1.heap.size + 1) GB aB cB zB VC) := XB.out.later hbV
      have XCn : Hid (BigIn W3.heap.size GC aC cC zC VC) := XC.out.later hbV
      clear XA
      have XA := XAn
      clear XAn
      clear XB
      have XB := XBn
      clear XBn
      clear XC
      have XC := XCn
      clear XCn
      clear HB hbV s0 s1
      have HB := HBn
      clear HBn
      cases hvalC : validB GC zC
      · go_wp2
        go_ret
        exact ⟨rfl, HB.out⟩
      · skip
        obtain ⟨x, hx⟩ : ∃ v, v = sg GA (val 4294967296 zA) := ⟨_, rfl⟩
        have BA : Hid (B1 GA zA x) := by unfold Hid; rw [hx]; exact B1.of_valid huA hvalA
        have hl5A : zA.length ≤ 512 := (valid_canon huA hvalA).2.1
        clear hx
        obtain ⟨y, hy⟩ : ∃ v, v = sg GB (val 4294967296 zB) := ⟨_, rfl⟩
        have BB : Hid (B1 GB zB y) := by unfold Hid; rw [hy]; exact B1.of_valid huB hvalB
        have hl5B : zB.length ≤ 512 := (valid_canon huB hvalB).2.1
        clear hy
        obtain ⟨z, hz⟩ : ∃ v, v = sg GC (val 4294967296 zC) := ⟨_, rfl⟩
        have BC : Hid (B1 GC zC z) := by unfold Hid; rw [hz]; exact B1.of_valid huC hvalC
        have hl5C : zC.length ≤ 512 := (valid_canon huC hvalC).2.1
        clear hz
        have s0 := XB.out.q0
        have s1 := XB.out.q1
        have s2 := XC.out.q0
        have s3 := XC.out.q1
        go_wp2_with fail
        refine (spAdd_any GB GC aB aC cB cC zB zC _ (by omega) (by omega) XB.out.row XC.out.row huB huC).mono ?_
        rintro e YP ⟨GP, zP, KP, aP, cP, rfl, hresP, hrP, _, hbP⟩
        rw [hvalB, hvalC, BB.out.sg, BC.out.sg] at hresP
        have RP : Hid (Res true (y + z) GP zP KP) := hresP
        clear s0 s1 s2 s3
        have HBX : Hid (Below VC.heap.size VC (YP.alloc (.cells #[.bool GP, .slice aP zP.length cP] 26))) := (hbP.alloc hbP.size _)
        have XP : Hid (BigIn YP.heap.size GP aP cP zP (YP.alloc (.cells #[.bool GP, .slice aP zP.length cP] 26))) := BigIn.start _ hrP
        have HBn : Hid (Below w.heap.size w (YP.alloc (.cells #[.bool GP, .slice aP zP.length cP] 26))) := HB.out.trans (HBX.out.mono HB.out.size)
        have XAn : Hid (BigIn W1.heap.size GA aA cA zA (YP.alloc (.cells #[.bool GP, .slice aP zP.length cP] 26))) := XA.out.later HBX.out
        have XBn : Hid (BigIn (W1.heap.size + 1) GB aB cB zB (YP.alloc (.cells #[.bool GP, .slice aP zP.length cP] 26))) := XB.out.later HBX.out
        have XCn : Hid (BigIn W3.heap.size GC aC cC zC (YP.alloc (.cells #[.bool GP, .slice aP zP.length cP] 26))) := XC.out.later HBX.out
        clear XA
        have XA := XAn
        clear XAn
        clear XB
        have XB := XBn
        clear XBn
        clear XC
        have XC := XCn
        clear XCn
        clear HB hbP hrP hresP HBX
        have HB := HBn
        clear HBn
        by_cases hKP : KP = 0
        · skip
          obtain ⟨hBP, hlP, hFP⟩ := RP.out.of_ok hKP
          have BP : Hid (B1 GP zP (y + z)) := hBP
          have FP : Hid (Fits (y + z)) := hFP
          subst hKP
          have huP : U32 zP := BP.out.u32
          have hvalP : validB GP zP = true := BP.out.valid hlP
          clear hBP hFP RP
          have s0 := XA.out.q0
          have s1 := XA.out.q1
          have s2 := XP.out.q0
          have s3 := XP.out.q1
          go_wp2_with fail
          refine (spMul_any GA GP aA aP cA cP zA zP _ (by omega) (by omega) XA.out.row XP.out.row huA huP).mono ?_
          rintro e YW ⟨GW, zW, KW, aW, cW, rfl, hresW, hrW, _, hbW⟩
          rw [hvalA, hvalP, BA.out.sg, BP.out.sg] at hresW
          have RW : Hid (Res true (x * (y + z)) GW zW KW) := hresW
          clear s0 s1 s2 s3
          have HBX : Hid (Below (YP.alloc (.cells #[.bool GP, .slice aP zP.length cP] 26)).heap.size (YP.alloc (.cells #[.bool GP, .slice aP zP.length cP] 26)) (YW.alloc (.cells #[.bool GW, .slice aW zW.length cW] 26))) := (hbW.alloc hbW.size _)
          have XW : Hid (BigIn YW.heap.size GW aW cW zW (YW.alloc (.cells #[.bool GW, .slice aW zW.length cW] 26))) := BigIn.start _ hrW
          have HBn : Hid (Below w.heap.size w (YW.alloc (.cells #[.bool GW, .slice aW zW.length cW] 26))) := HB.out.trans (HBX.out.mono HB.out.size)
          have XAn : Hid (BigIn W1.heap.size GA aA cA zA (YW.alloc (.cells #[.bool GW, .slice aW zW.length cW] 26))) := XA.out.later HBX.out
          have XBn : Hid (BigIn (W1.heap.size + 1) GB aB cB zB (YW.alloc (.cells #[.bool GW, .slice aW zW.length cW] 26))) := XB.out.later HBX.out
          have XCn : Hid (BigIn W3.heap.size GC aC cC zC (YW.alloc (.cells #[.bool GW, .slice aW zW.length cW] 26))) := XC.out.later HBX.out
          have XPn : Hid (BigIn YP.heap.size GP aP cP zP (YW.alloc (.cells #[.bool GW, .slice aW zW.length cW] 26))) := XP.out.later HBX.out
          clear XA
          have XA := XAn
          clear XAn
          clear XB
          have XB := XBn
          clear XBn
          clear XC
          have XC := XCn
          clear XCn
          clear XP
          have XP := XPn
          clear XPn
          clear HB hbW hrW hresW HBX
          have HB := HBn
          clear HBn
          have s0 := XA.out.q0
          have s1 := XA.out.q1
          have s2 := XB.out.q0
          have s3 := XB.out.q1
          go_wp2_with fail
          refine (spMul_any GA GB aA aB cA cB zA zB _ (by omega) (by omega) XA.out.row XB.out.row huA huB).mono ?_
          rintro e YM ⟨GM, zM, KM, aM, cM, rfl, hresM, hrM, _, hbM⟩
          rw [hvalA, hvalB, BA.out.sg, BB.out.sg] at hresM
          have RM : Hid (Res true (x * y) GM zM KM) := hresM
          clear s0 s1 s2 s3
          have HBX : Hid (Below (YW.alloc (.cells #[.bool GW, .slice aW zW.length cW] 26)).heap.size (YW.alloc (.cells #[.bool GW, .slice aW zW.length cW] 26)) (YM.alloc (.cells #[.bool GM, .slice aM zM.length cM] 26))) := (hbM.alloc hbM.size _)
          have XM : Hid (BigIn YM.heap.size GM aM cM zM (YM.alloc (.cells #[.bool GM, .slice aM zM.length cM] 26))) := BigIn.start _ hrM
          have HBn : Hid (Below w.heap.size w (YM.alloc (.cells #[.bool GM, .slice aM zM.length cM] 26))) := HB.out.trans (HBX.out.mono HB.out.size)
          have XAn : Hid (BigIn W1.heap.size GA aA cA zA (YM.alloc (.cells #[.bool GM, .slice aM zM.length cM] 26))) := XA.out.later HBX.out
          have XBn : Hid (BigIn (W1.heap.size + 1) GB aB cB zB (YM.alloc (.cells #[.bool GM, .slice aM zM.length cM] 26))) := XB.out.later HBX.out
          have XCn : Hid (BigIn W3.heap.size GC aC cC zC (YM.alloc (.cells #[.bool GM, .slice aM zM.length cM] 26))) := XC.out.later HBX.out
          have XPn : Hid (BigIn YP.heap.size GP aP cP zP (YM.alloc (.cells #[.bool GM, .slice aM zM.length cM] 26))) := XP.out.later HBX.out
          have XWn : Hid (BigIn YW.heap.size GW aW cW zW (YM.alloc (.cells #[.bool GM, .slice aM zM.length cM] 26))) := XW.out.later HBX.out
          clear XA
          have XA := XAn
          clear XAn
          clear XB
          have XB := XBn
          clear XBn
          clear XC
          have XC := XCn
          clear XCn
          clear XP
          have XP := XPn
          clear XPn
          clear XW
          have XW := XWn
          clear XWn
          clear HB hbM hrM hresM HBX
          have HB := HBn
          clear HBn
          have s0 := XA.out.q0
          have s1 := XA.out.q1
          have s2 := XC.out.q0
          have s3 := XC.out.q1
          go_wp2_with fail
          refine (spMul_any GA GC aA aC cA cC zA zC _ (by omega) (by omega) XA.out.row XC.out.row huA huC).mono ?_
          rintro e YN ⟨GN, zN, KN, aN, cN, rfl, hresN, hrN, _, hbN⟩
          rw [hvalA, hvalC, BA.out.sg, BC.out.sg] at hresN
          have RN : Hid (Res true (x * z) GN zN KN) := hresN
          clear s0 s1 s2 s3
          have HBX : Hid (Below (YM.alloc (.cells #[.bool GM, .slice aM zM.length cM] 26)).heap.size (YM.alloc (.cells #[.bool GM, .slice aM zM.length cM] 26)) (YN.alloc (.cells #[.bool GN, .slice aN zN.length cN] 26))) := (hbN.alloc hbN.size _)
          have XN : Hid (BigIn YN.heap.size GN aN cN zN (YN.alloc (.cells #[.bool GN, .slice aN zN.length cN] 26))) := BigIn.start _ hrN
          have HBn : Hid (Below w.heap.size w (YN.alloc (.cells #[.bool GN, .slice aN zN.length cN] 26))) := HB.out.trans (HBX.out.mono HB.out.size)
          have XAn : Hid (BigIn W1.heap.size GA aA cA zA (YN.alloc (.cells #[.bool GN, .slice aN zN.length cN] 26))) := XA.out.later HBX.out
          have XBn : Hid (BigIn (W1.heap.size + 1) GB aB cB zB (YN.alloc (.cells #[.bool GN, .slice aN zN.length cN] 26))) := XB.out.later HBX.out
          have XCn : Hid (BigIn W3.heap.size GC aC cC zC (YN.alloc (.cells #[.bool GN, .slice aN zN.length cN] 26))) := XC.out.later HBX.out
          have XPn : Hid (BigIn YP.heap.size GP aP cP zP (YN.alloc (.cells #[.bool GN, .slice aN zN.length cN] 26))) := XP.out.later HBX.out
          have XWn : Hid (BigIn YW.heap.size GW aW cW zW (YN.alloc (.cells #[.bool GN, .slice aN zN.length cN] 26))) := XW.out.later HBX.out
          have XMn : Hid (BigIn YM.heap.size GM aM cM zM (YN.alloc (.cells #[.bool GN, .slice aN zN.length cN] 26))) := XM.out.later HBX.out
          clear XA
          have XA := XAn
          clear XAn
          clear XB
          have XB := XBn
          clear XBn
          clear XC
          have XC := XCn
          clear XCn
          clear XP
          have XP := XPn
          clear XPn
          clear XW
          have XW := XWn
          clear XWn
          clear XM
          have XM := XMn
          clear XMn
          clear HB hbN hrN hresN HBX
          have HB := HBn
          clear HBn
          have s0 := XA.out.q0
          have s1 := XA.out.q1
          have s2 := XB.out.q0
          have s3 := XB.out.q1
          go_wp2_with fail
          refine (spAdd_any GA GB aA aB cA cB zA zB _ (by omega) (by omega) XA.out.row XB.out.row huA huB).mono ?_
          rintro e YO ⟨GO, zO, KO, aO, cO, rfl, hresO, hrO, _, hbO⟩
          rw [hvalA, hvalB, BA.out.sg, BB.out.sg] at hresO
          have RO : Hid (Res true (x + y) GO zO KO) := hresO
          clear s0 s1 s2 s3
          have HBX : Hid (Below (YN.alloc (.cells #[.bool GN, .slice aN zN.length cN] 26)).heap.size (YN.alloc (.cells #[.bool GN, .slice aN zN.length cN] 26)) (YO.alloc (.cells #[.bool GO, .slice aO zO.length cO] 26))) := (hbO.alloc hbO.size _)
          have XO : Hid (BigIn YO.heap.size GO aO cO zO (YO.alloc (.cells #[.bool GO, .slice aO zO.length cO] 26))) := BigIn.start _ hrO
          have HBn : Hid (Below w.heap.size w (YO.alloc (.cells #[.bool GO, .slice aO zO.length cO] 26))) := HB.out.trans (HBX.out.mono HB.out.size)
          have XAn : Hid (BigIn W1.heap.size GA aA cA zA (YO.alloc (.cells #[.bool GO, .slice aO zO.length cO] 26))) := XA.out.later HBX.out
          have XBn : Hid (BigIn (W1.heap.size + 1) GB aB cB zB (YO.alloc (.cells #[.bool GO, .slice aO zO.length cO] 26))) := XB.out.later HBX.out
          have XCn : Hid (BigIn W3.heap.size GC aC cC zC (YO.alloc (.cells #[.bool GO, .slice aO zO.length cO] 26))) := XC.out.later HBX.out
          have XPn : Hid (BigIn YP.heap.size GP aP cP zP (YO.alloc (.cells #[.bool GO, .slice aO zO.length cO] 26))) := XP.out.later HBX.out
          have XWn : Hid (BigIn YW.heap.size GW aW cW zW (YO.alloc (.cells #[.bool GO, .slice aO zO.length cO] 26))) := XW.out.later HBX.out
          have XMn : Hid (BigIn YM.heap.size GM aM cM zM (YO.alloc (.cells #[.bool GO, .slice aO zO.length cO] 26))) := XM.out.later HBX.out
          have XNn : Hid (BigIn YN.heap.size GN aN cN zN (YO.alloc (.cells #[.bool GO, .slice aO zO.length cO] 26))) := XN.out.later HBX.out
          clear XA
          have XA := XAn
          clear XAn
          clear XB
          have XB := XBn
          clear XBn
          clear XC
          have XC := XCn
          clear XCn
          clear XP
          have XP := XPn
          clear XPn
          clear XW
          have XW := XWn
          clear XWn
          clear XM
          have XM := XMn
          clear XMn
          clear XN
          have XN := XNn
          clear XNn
          clear HB hbO hrO hresO HBX
          have HB := HBn
          clear HBn
          have s0 := XA.out.q0
          have s1 := XA.out.q1
          have s2 := XB.out.q0
          have s3 := XB.out.q1
          go_wp2_with fail
          refine (spSub_any GA GB aA aB cA cB zA zB _ (by omega) (by omega) XA.out.row XB.out.row huA huB).mono ?_
          rintro e YQ ⟨GQ, zQ, KQ, aQ, cQ, rfl, hresQ, hrQ, _, hbQ⟩
          rw [hvalA, hvalB, BA.out.sg, BB.out.sg] at hresQ
          have RQ : Hid (Res true (x - y) GQ zQ KQ) := hresQ
          clear s0 s1 s2 s3
          have HBX : Hid (Below (YO.alloc (.cells #[.bool GO, .slice aO zO.length cO] 26)).heap.size (YO.alloc (.cells #[.bool GO, .slice aO zO.length cO] 26)) (YQ.alloc (.cells #[.bool GQ, .slice aQ zQ.length cQ] 26))) := (hbQ.alloc hbQ.size _)
          have XQ : Hid (BigIn YQ.heap.size GQ aQ cQ zQ (YQ.alloc (.cells #[.bool GQ, .slice aQ zQ.length cQ] 26))) := BigIn.start _ hrQ
          have HBn : Hid (Below w.heap.size w (YQ.alloc (.cells #[.bool GQ, .slice aQ zQ.length cQ] 26))) := HB.out.trans (HBX.out.mono HB.out.size)
          have XAn : Hid (BigIn W1.heap.size GA aA cA zA (YQ.alloc (.cells #[.bool GQ, .slice aQ zQ.length cQ] 26))) := XA.out.later HBX.out
          have XBn : Hid (BigIn (W1.heap.size + 1) GB aB cB zB (YQ.alloc (.cells #[.bool GQ, .slice aQ zQ.length cQ] 26))) := XB.out.later HBX.out
          have XCn : Hid (BigIn W3.heap.size GC aC cC zC (YQ.alloc (.cells #[.bool GQ, .slice aQ zQ.length cQ] 26))) := XC.out.later HBX.out
          have XPn : Hid (BigIn YP.heap.size GP aP cP zP (YQ.alloc (.cells #[.bool GQ, .slice aQ zQ.length cQ] 26))) := XP.out.later HBX.out
          have XWn : Hid (BigIn YW.heap.size GW aW cW zW (YQ.alloc (.cells #[.bool GQ, .slice aQ zQ.length cQ] 26))) := XW.out.later HBX.out
          have XMn : Hid (BigIn YM.heap.size GM aM cM zM (YQ.alloc (.cells #[.bool GQ, .slice aQ zQ.length cQ] 26))) := XM.out.later HBX.out
          have XNn : Hid (BigIn YN.heap.size GN aN cN zN (YQ.alloc (.cells #[.bool GQ, .slice aQ zQ.length cQ] 26))) := XN.out.later HBX.out
          have XOn : Hid (BigIn YO.heap.size GO aO cO zO (YQ.alloc (.cells #[.bool GQ, .slice aQ zQ.length cQ] 26))) := XO.out.later HBX.out
          clear XA
          have XA := XAn
          clear XAn
          clear XB
          have XB := XBn
          clear XBn
          clear XC
          have XC := XCn
          clear XCn
          clear XP
          have XP := XPn
          clear XPn
          clear XW
          have XW := XWn
          clear XWn
          clear XM
          have XM := XMn
          clear XMn
          clear XN
          have XN := XNn
          clear XNn
          clear XO
          have XO := XOn
          clear XOn
          clear HB hbQ hrQ hresQ HBX
          have HB := HBn
          clear HBn
          clear XP
          clear XM
          clear XN
          clear XO
          clear XQ
          obtain ⟨X0, hX0⟩ : ∃ X, X = (YQ.alloc (.cells #[.bool GQ, .slice aQ zQ.length cQ] 26)) := ⟨_, rfl⟩
          rw [← hX0] at XA XB XC XW HB
          by_cases hKW : KW = 0
          · skip
            by_cases hKM : KM = 0
            · skip
              by_cases hKN : KN = 0
              · skip
                by_cases hKO : KO = 0
                · skip
                  by_cases hKQ : KQ = 0
                  · skip
                    subst hKW hKM hKN hKO hKQ
                    obtain ⟨hBW, hlW, hFW⟩ := RW.out.of_ok rfl
                    obtain ⟨_, _, hFM⟩ := RM.out.of_ok rfl
                    obtain ⟨_, _, hFN⟩ := RN.out.of_ok rfl
                    obtain ⟨_, _, hFO⟩ := RO.out.of_ok rfl
                    obtain ⟨_, _, hFQ⟩ := RQ.out.of_ok rfl
                    have BW : Hid (B1 GW zW (x * (y + z))) := hBW
                    have FW : Hid (Fits (x * (y + z))) := hFW
                    have FM : Hid (Fits (x * y)) := hFM
                    have FN : Hid (Fits (x * z)) := hFN
                    have FO : Hid (Fits (x + y)) := hFO
                    have FQ : Hid (Fits (x - y)) := hFQ
                    have FA : Hid (Fits x) := BA.out.fits hl5A
                    have BkEQ : Hid (x + y - y = x) := by unfold Hid; omega
                    have RtEQ : Hid (x * y + x * z = x * (y + z)) := by unfold Hid; rw [Int.mul_add]
                    have ZzEQ : Hid (y * x = x * y) := by unfold Hid; rw [Int.mul_comm]
                    clear hBW hFW hFM hFN hFO hFQ RW RM RN RO RQ
                    go_wp2
                    rw [← hX0]
                    clear hX0
                    have KS : Hid (∀ w', Below X0.heap.size X0 w' → w'.cell? ⟨W1.heap.size, 0, none⟩ = some (.bool GA) ∧ w'.cell? ⟨W1.heap.size, 1, none⟩ = some (.slice aA zA.length cA) ∧ w'.cell? ⟨(W1.heap.size + 1), 0, none⟩ = some (.bool GB) ∧ w'.cell? ⟨(W1.heap.size + 1), 1, none⟩ = some (.slice aB zB.length cB) ∧ Below X0.heap.size X0 w') := by
                      intro w' hw
                      exact ⟨(XA.out.later hw).q0, (XA.out.later hw).q1, (XB.out.later hw).q0, (XB.out.later hw).q1, hw⟩
                    go_cut [20, 21] from 40 to 276 (fun s1 s2 wx => ∃ (TR : Nat) (GR : Bool) (ZR : List Int) (aR : Option Addr) (cR : Nat), s1 = .pointer (some ⟨TR, 0, none⟩) ∧ s2 = .int .i64 0 ∧ Hid (BigIn TR GR aR cR ZR wx) ∧ Hid (B1 GR ZR (x + y)) ∧ ZR.length ≤ 512 ∧ Hid (Below X0.heap.size X0 wx))
                    case first =>
                      as_aux_lemma =>
                        go_region_held3 (fun w' => w'.cell? ⟨W1.heap.size, 0, none⟩ = some (.bool GA) ∧ w'.cell? ⟨W1.heap.size, 1, none⟩ = some (.slice aA zA.length cA) ∧ w'.cell? ⟨(W1.heap.size + 1), 0, none⟩ = some (.bool GB) ∧ w'.cell? ⟨(W1.heap.size + 1), 1, none⟩ = some (.slice aB zB.length cB) ∧ Below X0.heap.size X0 w')
                          (first | exact KS.out _ (Below.refl _ _).drew | exact KS.out _ (by assumption) | exact KS.out _ (Below.alloc (by assumption) (Below.size (by assumption)) _) | exact KS.out _ (Below.alloc (held_last (by assumption)) (Below.size (held_last (by assumption))) _) | exact KS.out _ (Below.setCell (Below.setCell (by assumption) (by first | (simp; done) | (simp; omega)) _) (by first | (simp; done) | (simp; omega)) _))
                          (first
                            | (go_at_call_of 18 aA; refine (copy_any GA aA cA zA _ (by omega) hnilA hfitA (XA.out.later (held_last (by assumption))).row).mono ?_; rintro e u0 ⟨p0, q0, rfl, hc0, hm0, hn0, hr0, hb0⟩; have hB0 : Below X0.heap.size X0 u0 := Below.trans (held_last (by assumption)) (Below.mono hb0 (Below.size (held_last (by assumption)))); have hs0 := hB0.size)
                            | (go_at_call_of 18 aB; refine (copy_any GB aB cB zB _ (by omega) hnilB hfitB (XB.out.later (held_last (by assumption))).row).mono ?_; rintro e u1 ⟨p1, q1, rfl, hc1, hm1, hn1, hr1, hb1⟩; have hB1 : Below X0.heap.size X0 u1 := Below.trans (held_last (by assumption)) (Below.mono hb1 (Below.size (held_last (by assumption)))); have hs1 := hB1.size; have hq0_1 := (by first | exact hr0.row.later hb1 | exact (hr0.row.later (bel0 _ _)).later hb1 : RowAt .u32 u1 p0 zA))
                            | (go_at_call 33; refine (imAdd_any GA GB p0 p1 q0 q1 zA zB _ (by omega) (by omega) ?_ ?_ huA huB).mono ?_; (first | exact hq0_1 | exact hq0_1.later (bel0 _ _)); (first | exact hr1.row | exact hr1.row.later (bel0 _ _)); rintro e w9 ⟨GR, ZR, KR, aR, cR, rfl, hresR, hrR, hb9⟩; have hB9 : Below X0.heap.size X0 w9 := Below.trans (held_last (by assumption)) (Below.mono hb9 (Below.size (held_last (by assumption)))); (rw [hvalA, hvalB, BA.out.sg, BB.out.sg] at hresR); obtain ⟨hKR, hBR, hlR⟩ := hresR.ok FO.out; subst hKR; (first | (have hhc := ((((Has.new X0 26).later (Below.refl _ _).drew).later hb0).later hb1); have hh := hhc.later hb9) | (have hhc := ((Has.new u0 26).later hb1); have hh := hhc.later hb9) | (have hhc := (Has.new u1 26); have hh := hhc.later hb9) | have hh : True := trivial); (try have r1 := hh.r1); (try have r2 := hh.r2); (try have r3 := hh.r3)))
                        all_goals
                          go_wp2_with fail
                          go_meet
                          case rel =>
                            refine ⟨_, GR, ZR, aR, cR, rfl, rfl, ?_, hBR, hlR, ?_⟩
                            · first
                                | exact BigIn.start _ hrR.row
                                | exact BigIn.set hrR hhc.lt hh
                            · first
                                | exact hB9.alloc hB9.size _
                                | exact (hB9.setCell (by first | exact Nat.le_refl _ | exact hs0 | exact hs1) _).setCell (by first | exact Nat.le_refl _ | exact hs0 | exact hs1) _
                    case rest =>
                      as_aux_lemma =>
                        obtain ⟨TSu, GSu, zSu, aSu, cSu, rfl, rfl, XSu, BSu, hlSu, HBX⟩ := hcut
                        obtain ⟨XSuw, hXw⟩ : ∃ X, X = wc := ⟨_, rfl⟩
                        subst hXw
                        have XAn : Hid (BigIn W1.heap.size GA aA cA zA XSuw) := XA.out.later HBX.out
                        have XBn : Hid (BigIn (W1.heap.size + 1) GB aB cB zB XSuw) := XB.out.later HBX.out
                        have XCn : Hid (BigIn W3.heap.size GC aC cC zC XSuw) := XC.out.later HBX.out
                        have XWn : Hid (BigIn YW.heap.size GW aW cW zW XSuw) := XW.out.later HBX.out
                        clear XA
                        have XA := XAn
                        clear XAn
                        clear XB
                        have XB := XBn
                        clear XBn
                        clear XC
                        have XC := XCn
                        clear XCn
                        clear XW
                        have XW := XWn
                        clear XWn
                        have HBn : Hid (Below w.heap.size w XSuw) := HB.out.trans (HBX.out.mono HB.out.size)
                        clear HB KS HBX
                        have HB := HBn
                        clear HBn
                        have huSu : U32 zSu := BSu.out.u32
                        have hvalSu : validB GSu zSu = true := BSu.out.valid hlSu
                        go_wp2
                        have KS : Hid (∀ w', Below XSuw.heap.size XSuw w' → w'.cell? ⟨TSu, 0, none⟩ = some (.bool GSu) ∧ w'.cell? ⟨TSu, 1, none⟩ = some (.slice aSu zSu.length cSu) ∧ w'.cell? ⟨(W1.heap.size + 1), 0, none⟩ = some (.bool GB) ∧ w'.cell? ⟨(W1.heap.size + 1), 1, none⟩ = some (.slice aB zB.length cB) ∧ Below XSuw.heap.size XSuw w') := by
                          intro w' hw
                          exact ⟨(XSu.out.later hw).q0, (XSu.out.later hw).q1, (XB.out.later hw).q0, (XB.out.later hw).q1, hw⟩
                        go_cut [22, 23] from 40 to 276 (fun s1 s2 wx => ∃ (TR : Nat) (GR : Bool) (ZR : List Int) (aR : Option Addr) (cR : Nat), s1 = .pointer (some ⟨TR, 0, none⟩) ∧ s2 = .int .i64 0 ∧ Hid (BigIn TR GR aR cR ZR wx) ∧ Hid (B1 GR ZR (x)) ∧ ZR.length ≤ 512 ∧ Hid (Below XSuw.heap.size XSuw wx))
                        case first =>
                          as_aux_lemma =>
                            go_region_held3 (fun w' => w'.cell? ⟨TSu, 0, none⟩ = some (.bool GSu) ∧ w'.cell? ⟨TSu, 1, none⟩ = some (.slice aSu zSu.length cSu) ∧ w'.cell? ⟨(W1.heap.size + 1), 0, none⟩ = some (.bool GB) ∧ w'.cell? ⟨(W1.heap.size + 1), 1, none⟩ = some (.slice aB zB.length cB) ∧ Below XSuw.heap.size XSuw w')
                              (first | exact KS.out _ (Below.refl _ _).drew | exact KS.out _ (by assumption) | exact KS.out _ (Below.alloc (by assumption) (Below.size (by assumption)) _) | exact KS.out _ (Below.alloc (held_last (by assumption)) (Below.size (held_last (by assumption))) _) | exact KS.out _ (Below.setCell (Below.setCell (by assumption) (by first | (simp; done) | (simp; omega)) _) (by first | (simp; done) | (simp; omega)) _))
                              (first
                                | (go_at_call_of 18 aB; refine (copy_any GB aB cB zB _ (by omega) hnilB hfitB (XB.out.later (held_last (by assumption))).row).mono ?_; rintro e u0 ⟨p0, q0, rfl, hc0, hm0, hn0, hr0, hb0⟩; have hB0 : Below XSuw.heap.size XSuw u0 := Below.trans (held_last (by assumption)) (Below.mono hb0 (Below.size (held_last (by assumption)))); have hs0 := hB0.size)
                                | (go_at_call 11; refine (imSub_any GSu GB aSu p0 cSu q0 zSu zB _ (by omega) (by omega) ?_ ?_ huSu huB).mono ?_; (exact (XSu.out.later (held_last (by assumption))).row); (first | exact hr0.row | exact hr0.row.later (bel0 _ _)); rintro e w9 ⟨GR, ZR, KR, aR, cR, rfl, hresR, hrR, hb9⟩; have hB9 : Below XSuw.heap.size XSuw w9 := Below.trans (held_last (by assumption)) (Below.mono hb9 (Below.size (held_last (by assumption)))); (rw [hvalSu, hvalB, BSu.out.sg, BB.out.sg, show x + y - y = x from BkEQ.out] at hresR); obtain ⟨hKR, hBR, hlR⟩ := hresR.ok FA.out; subst hKR; (first | (have hhc := (((Has.new XSuw 26).later (Below.refl _ _).drew).later hb0); have hh := hhc.later hb9) | (have hhc := (Has.new u0 26); have hh := hhc.later hb9) | have hh : True := trivial); (try have r1 := hh.r1); (try have r2 := hh.r2); (try have r3 := hh.r3)))
                            all_goals
                              go_wp2_with fail
                              go_meet
                              case rel =>
                                refine ⟨_, GR, ZR, aR, cR, rfl, rfl, ?_, hBR, hlR, ?_⟩
                                · first
                                    | exact BigIn.start _ hrR.row
                                    | exact BigIn.set hrR hhc.lt hh
                                · first
                                    | exact hB9.alloc hB9.size _
                                    | exact (hB9.setCell (by first | exact Nat.le_refl _ | exact hs0) _).setCell (by first | exact Nat.le_refl _ | exact hs0) _
                        case rest =>
                          as_aux_lemma =>
                            obtain ⟨TBk, GBk, zBk, aBk, cBk, rfl, rfl, XBk, BBk, hlBk, HBX⟩ := hcut
                            obtain ⟨XBkw, hXw⟩ : ∃ X, X = wc := ⟨_, rfl⟩
                            subst hXw
                            have XAn : Hid (BigIn W1.heap.size GA aA cA zA XBkw) := XA.out.later HBX.out
                            have XBn : Hid (BigIn (W1.heap.size + 1) GB aB cB zB XBkw) := XB.out.later HBX.out
                            have XCn : Hid (BigIn W3.heap.size GC aC cC zC XBkw) := XC.out.later HBX.out
                            have XWn : Hid (BigIn YW.heap.size GW aW cW zW XBkw) := XW.out.later HBX.out
                            have XSun : Hid (BigIn TSu GSu aSu cSu zSu XBkw) := XSu.out.later HBX.out
                            clear XA
                            have XA := XAn
                            clear XAn
                            clear XB
                            have XB := XBn
                            clear XBn
                            clear XC
                            have XC := XCn
                            clear XCn
                            clear XW
                            have XW := XWn
                            clear XWn
                            clear XSu
                            have XSu := XSun
                            clear XSun
                            have HBn : Hid (Below w.heap.size w XBkw) := HB.out.trans (HBX.out.mono HB.out.size)
                            clear HB KS HBX
                            have HB := HBn
                            clear HBn
                            have huBk : U32 zBk := BBk.out.u32
                            have hvalBk : validB GBk zBk = true := BBk.out.valid hlBk
                            have eG := (BA.out.inj BBk.out).1
                            have eZ := (BA.out.inj BBk.out).2
                            subst eG eZ
                            have s0 := XBk.out.q0
                            have s1 := XBk.out.q1
                            have s2 := XA.out.q0
                            have s3 := XA.out.q1
                            go_wp2_with fail
                            refine (same_any GA aBk aA cBk cA zA _ (by unfold maxLen; omega) XBk.out.row XA.out.row).mono ?_
                            rintro e WS1 ⟨rfl, hbS⟩
                            have HBn : Hid (Below w.heap.size w WS1) := HB.out.trans (hbS.mono HB.out.size)
                            have XAn : Hid (BigIn W1.heap.size GA aA cA zA WS1) := XA.out.later hbS
                            have XBn : Hid (BigIn (W1.heap.size + 1) GB aB cB zB WS1) := XB.out.later hbS
                            have XCn : Hid (BigIn W3.heap.size GC aC cC zC WS1) := XC.out.later hbS
                            have XWn : Hid (BigIn YW.heap.size GW aW cW zW WS1) := XW.out.later hbS
                            have XSun : Hid (BigIn TSu GSu aSu cSu zSu WS1) := XSu.out.later hbS
                            have XBkn : Hid (BigIn TBk GA aBk cBk zA WS1) := XBk.out.later hbS
                            clear XA
                            have XA := XAn
                            clear XAn
                            clear XB
                            have XB := XBn
                            clear XBn
                            clear XC
                            have XC := XCn
                            clear XCn
                            clear XW
                            have XW := XWn
                            clear XWn
                            clear XSu
                            have XSu := XSun
                            clear XSun
                            clear XBk
                            have XBk := XBkn
                            clear XBkn
                            clear HB hbS s0 s1 s2 s3
                            have HB := HBn
                            clear HBn
                            clear XSu
                            clear XBk
                            go_wp2
                            have KS : Hid (∀ w', Below WS1.heap.size WS1 w' → w'.cell? ⟨(W1.heap.size + 1), 0, none⟩ = some (.bool GB) ∧ w'.cell? ⟨(W1.heap.size + 1), 1, none⟩ = some (.slice aB zB.length cB) ∧ w'.cell? ⟨W3.heap.size, 0, none⟩ = some (.bool GC) ∧ w'.cell? ⟨W3.heap.size, 1, none⟩ = some (.slice aC zC.length cC) ∧ Below WS1.heap.size WS1 w') := by
                              intro w' hw
                              exact ⟨(XB.out.later hw).q0, (XB.out.later hw).q1, (XC.out.later hw).q0, (XC.out.later hw).q1, hw⟩
                            go_cut [24, 25] from 40 to 276 (fun s1 s2 wx => ∃ (TR : Nat) (GR : Bool) (ZR : List Int) (aR : Option Addr) (cR : Nat), s1 = .pointer (some ⟨TR, 0, none⟩) ∧ s2 = .int .i64 0 ∧ Hid (BigIn TR GR aR cR ZR wx) ∧ Hid (B1 GR ZR (y + z)) ∧ ZR.length ≤ 512 ∧ Hid (Below WS1.heap.size WS1 wx))
                            case first =>
                              as_aux_lemma =>
                                go_region_held3 (fun w' => w'.cell? ⟨(W1.heap.size + 1), 0, none⟩ = some (.bool GB) ∧ w'.cell? ⟨(W1.heap.size + 1), 1, none⟩ = some (.slice aB zB.length cB) ∧ w'.cell? ⟨W3.heap.size, 0, none⟩ = some (.bool GC) ∧ w'.cell? ⟨W3.heap.size, 1, none⟩ = some (.slice aC zC.length cC) ∧ Below WS1.heap.size WS1 w')
                                  (first | exact KS.out _ (Below.refl _ _).drew | exact KS.out _ (by assumption) | exact KS.out _ (Below.alloc (by assumption) (Below.size (by assumption)) _) | exact KS.out _ (Below.alloc (held_last (by assumption)) (Below.size (held_last (by assumption))) _) | exact KS.out _ (Below.setCell (Below.setCell (by assumption) (by first | (simp; done) | (simp; omega)) _) (by first | (simp; done) | (simp; omega)) _))
                                  (first
                                    | (go_at_call_of 18 aB; refine (copy_any GB aB cB zB _ (by omega) hnilB hfitB (XB.out.later (held_last (by assumption))).row).mono ?_; rintro e u0 ⟨p0, q0, rfl, hc0, hm0, hn0, hr0, hb0⟩; have hB0 : Below WS1.heap.size WS1 u0 := Below.trans (held_last (by assumption)) (Below.mono hb0 (Below.size (held_last (by assumption)))); have hs0 := hB0.size)
                                    | (go_at_call_of 18 aC; refine (copy_any GC aC cC zC _ (by omega) hnilC hfitC (XC.out.later (held_last (by assumption))).row).mono ?_; rintro e u1 ⟨p1, q1, rfl, hc1, hm1, hn1, hr1, hb1⟩; have hB1 : Below WS1.heap.size WS1 u1 := Below.trans (held_last (by assumption)) (Below.mono hb1 (Below.size (held_last (by assumption)))); have hs1 := hB1.size; have hq0_1 := (by first | exact hr0.row.later hb1 | exact (hr0.row.later (bel0 _ _)).later hb1 : RowAt .u32 u1 p0 zB))
                                    | (go_at_call 33; refine (imAdd_any GB GC p0 p1 q0 q1 zB zC _ (by omega) (by omega) ?_ ?_ huB huC).mono ?_; (first | exact hq0_1 | exact hq0_1.later (bel0 _ _)); (first | exact hr1.row | exact hr1.row.later (bel0 _ _)); rintro e w9 ⟨GR, ZR, KR, aR, cR, rfl, hresR, hrR, hb9⟩; have hB9 : Below WS1.heap.size WS1 w9 := Below.trans (held_last (by assumption)) (Below.mono hb9 (Below.size (held_last (by assumption)))); (rw [hvalB, hvalC, BB.out.sg, BC.out.sg] at hresR); obtain ⟨hKR, hBR, hlR⟩ := hresR.ok FP.out; subst hKR; (first | (have hhc := ((((Has.new WS1 26).later (Below.refl _ _).drew).later hb0).later hb1); have hh := hhc.later hb9) | (have hhc := ((Has.new u0 26).later hb1); have hh := hhc.later hb9) | (have hhc := (Has.new u1 26); have hh := hhc.later hb9) | have hh : True := trivial); (try have r1 := hh.r1); (try have r2 := hh.r2); (try have r3 := hh.r3)))
                                all_goals
                                  go_wp2_with fail
                                  go_meet
                                  case rel =>
                                    refine ⟨_, GR, ZR, aR, cR, rfl, rfl, ?_, hBR, hlR, ?_⟩
                                    · first
                                        | exact BigIn.start _ hrR.row
                                        | exact BigIn.set hrR hhc.lt hh
                                    · first
                                        | exact hB9.alloc hB9.size _
                                        | exact (hB9.setCell (by first | exact Nat.le_refl _ | exact hs0 | exact hs1) _).setCell (by first | exact Nat.le_refl _ | exact hs0 | exact hs1) _
                            case rest =>
                              as_aux_lemma =>
                                obtain ⟨TIn, GIn, zIn, aIn, cIn, rfl, rfl, XIn, BIn, hlIn, HBX⟩ := hcut
                                obtain ⟨XInw, hXw⟩ : ∃ X, X = wc := ⟨_, rfl⟩
                                subst hXw
                                have XAn : Hid (BigIn W1.heap.size GA aA cA zA XInw) := XA.out.later HBX.out
                                have XBn : Hid (BigIn (W1.heap.size + 1) GB aB cB zB XInw) := XB.out.later HBX.out
                                have XCn : Hid (BigIn W3.heap.size GC aC cC zC XInw) := XC.out.later HBX.out
                                have XWn : Hid (BigIn YW.heap.size GW aW cW zW XInw) := XW.out.later HBX.out
                                clear XA
                                have XA := XAn
                                clear XAn
                                clear XB
                                have XB := XBn
                                clear XBn
                                clear XC
                                have XC := XCn
                                clear XCn
                                clear XW
                                have XW := XWn
                                clear XWn
                                have HBn : Hid (Below w.heap.size w XInw) := HB.out.trans (HBX.out.mono HB.out.size)
                                clear HB KS HBX
                                have HB := HBn
                                clear HBn
                                have huIn : U32 zIn := BIn.out.u32
                                have hvalIn : validB GIn zIn = true := BIn.out.valid hlIn
                                go_wp2
                                have KS : Hid (∀ w', Below XInw.heap.size XInw w' → w'.cell? ⟨W1.heap.size, 0, none⟩ = some (.bool GA) ∧ w'.cell? ⟨W1.heap.size, 1, none⟩ = some (.slice aA zA.length cA) ∧ w'.cell? ⟨TIn, 0, none⟩ = some (.bool GIn) ∧ w'.cell? ⟨TIn, 1, none⟩ = some (.slice aIn zIn.length cIn) ∧ Below XInw.heap.size XInw w') := by
                                  intro w' hw
                                  exact ⟨(XA.out.later hw).q0, (XA.out.later hw).q1, (XIn.out.later hw).q0, (XIn.out.later hw).q1, hw⟩
                                go_cut [26, 27] from 40 to 276 (fun s1 s2 wx => ∃ (TR : Nat) (GR : Bool) (ZR : List Int) (aR : Option Addr) (cR : Nat), s1 = .pointer (some ⟨TR, 0, none⟩) ∧ s2 = .int .i64 0 ∧ Hid (BigIn TR GR aR cR ZR wx) ∧ Hid (B1 GR ZR (x * (y + z))) ∧ ZR.length ≤ 512 ∧ Hid (Below XInw.heap.size XInw wx))
                                case first =>
                                  as_aux_lemma =>
                                    go_region_held3 (fun w' => w'.cell? ⟨W1.heap.size, 0, none⟩ = some (.bool GA) ∧ w'.cell? ⟨W1.heap.size, 1, none⟩ = some (.slice aA zA.length cA) ∧ w'.cell? ⟨TIn, 0, none⟩ = some (.bool GIn) ∧ w'.cell? ⟨TIn, 1, none⟩ = some (.slice aIn zIn.length cIn) ∧ Below XInw.heap.size XInw w')
                                      (first | exact KS.out _ (Below.refl _ _).drew | exact KS.out _ (by assumption) | exact KS.out _ (Below.alloc (by assumption) (Below.size (by assumption)) _) | exact KS.out _ (Below.alloc (held_last (by assumption)) (Below.size (held_last (by assumption))) _) | exact KS.out _ (Below.setCell (Below.setCell (by assumption) (by first | (simp; done) | (simp; omega)) _) (by first | (simp; done) | (simp; omega)) _))
                                      (first
                                        | (go_at_call_of 18 aA; refine (copy_any GA aA cA zA _ (by omega) hnilA hfitA (XA.out.later (held_last (by assumption))).row).mono ?_; rintro e u0 ⟨p0, q0, rfl, hc0, hm0, hn0, hr0, hb0⟩; have hB0 : Below XInw.heap.size XInw u0 := Below.trans (held_last (by assumption)) (Below.mono hb0 (Below.size (held_last (by assumption)))); have hs0 := hB0.size)
                                        | (go_at_call 28; refine (imMul_any GA GIn p0 aIn q0 cIn zA zIn _ (by omega) (by omega) ?_ ?_ huA huIn).mono ?_; (first | exact hr0.row | exact hr0.row.later (bel0 _ _)); (exact (XIn.out.later (held_last (by assumption))).row); rintro e w9 ⟨GR, ZR, KR, aR, cR, rfl, hresR, hrR, hb9⟩; have hB9 : Below XInw.heap.size XInw w9 := Below.trans (held_last (by assumption)) (Below.mono hb9 (Below.size (held_last (by assumption)))); (rw [hvalA, hvalIn, BA.out.sg, BIn.out.sg] at hresR); obtain ⟨hKR, hBR, hlR⟩ := hresR.ok FW.out; subst hKR; (first | (have hhc := (((Has.new XInw 26).later (Below.refl _ _).drew).later hb0); have hh := hhc.later hb9) | (have hhc := (Has.new u0 26); have hh := hhc.later hb9) | have hh : True := trivial); (try have r1 := hh.r1); (try have r2 := hh.r2); (try have r3 := hh.r3)))
                                    all_goals
                                      go_wp2_with fail
                                      go_meet
                                      case rel =>
                                        refine ⟨_, GR, ZR, aR, cR, rfl, rfl, ?_, hBR, hlR, ?_⟩
                                        · first
                                            | exact BigIn.start _ hrR.row
                                            | exact BigIn.set hrR hhc.lt hh
                                        · first
                                            | exact hB9.alloc hB9.size _
                                            | exact (hB9.setCell (by first | exact Nat.le_refl _ | exact hs0) _).setCell (by first | exact Nat.le_refl _ | exact hs0) _
                                case rest =>
                                  as_aux_lemma =>
                                    obtain ⟨TLe, GLe, zLe, aLe, cLe, rfl, rfl, XLe, BLe, hlLe, HBX⟩ := hcut
                                    obtain ⟨XLew, hXw⟩ : ∃ X, X = wc := ⟨_, rfl⟩
                                    subst hXw
                                    have XAn : Hid (BigIn W1.heap.size GA aA cA zA XLew) := XA.out.later HBX.out
                                    have XBn : Hid (BigIn (W1.heap.size + 1) GB aB cB zB XLew) := XB.out.later HBX.out
                                    have XCn : Hid (BigIn W3.heap.size GC aC cC zC XLew) := XC.out.later HBX.out
                                    have XWn : Hid (BigIn YW.heap.size GW aW cW zW XLew) := XW.out.later HBX.out
                                    have XInn : Hid (BigIn TIn GIn aIn cIn zIn XLew) := XIn.out.later HBX.out
                                    clear XA
                                    have XA := XAn
                                    clear XAn
                                    clear XB
                                    have XB := XBn
                                    clear XBn
                                    clear XC
                                    have XC := XCn
                                    clear XCn
                                    clear XW
                                    have XW := XWn
                                    clear XWn
                                    clear XIn
                                    have XIn := XInn
                                    clear XInn
                                    have HBn : Hid (Below w.heap.size w XLew) := HB.out.trans (HBX.out.mono HB.out.size)
                                    clear HB KS HBX
                                    have HB := HBn
                                    clear HBn
                                    have huLe : U32 zLe := BLe.out.u32
                                    have hvalLe : validB GLe zLe = true := BLe.out.valid hlLe
                                    go_wp2
                                    have KS : Hid (∀ w', Below XLew.heap.size XLew w' → w'.cell? ⟨W1.heap.size, 0, none⟩ = some (.bool GA) ∧ w'.cell? ⟨W1.heap.size, 1, none⟩ = some (.slice aA zA.length cA) ∧ w'.cell? ⟨(W1.heap.size + 1), 0, none⟩ = some (.bool GB) ∧ w'.cell? ⟨(W1.heap.size + 1), 1, none⟩ = some (.slice aB zB.length cB) ∧ Below XLew.heap.size XLew w') := by
                                      intro w' hw
                                      exact ⟨(XA.out.later hw).q0, (XA.out.later hw).q1, (XB.out.later hw).q0, (XB.out.later hw).q1, hw⟩
                                    go_cut [28, 29] from 40 to 276 (fun s1 s2 wx => ∃ (TR : Nat) (GR : Bool) (ZR : List Int) (aR : Option Addr) (cR : Nat), s1 = .pointer (some ⟨TR, 0, none⟩) ∧ s2 = .int .i64 0 ∧ Hid (BigIn TR GR aR cR ZR wx) ∧ Hid (B1 GR ZR (x * y)) ∧ ZR.length ≤ 512 ∧ Hid (Below XLew.heap.size XLew wx))
                                    case first =>
                                      as_aux_lemma =>
                                        go_region_held3 (fun w' => w'.cell? ⟨W1.heap.size, 0, none⟩ = some (.bool GA) ∧ w'.cell? ⟨W1.heap.size, 1, none⟩ = some (.slice aA zA.length cA) ∧ w'.cell? ⟨(W1.heap.size + 1), 0, none⟩ = some (.bool GB) ∧ w'.cell? ⟨(W1.heap.size + 1), 1, none⟩ = some (.slice aB zB.length cB) ∧ Below XLew.heap.size XLew w')
                                          (first | exact KS.out _ (Below.refl _ _).drew | exact KS.out _ (by assumption) | exact KS.out _ (Below.alloc (by assumption) (Below.size (by assumption)) _) | exact KS.out _ (Below.alloc (held_last (by assumption)) (Below.size (held_last (by assumption))) _) | exact KS.out _ (Below.setCell (Below.setCell (by assumption) (by first | (simp; done) | (simp; omega)) _) (by first | (simp; done) | (simp; omega)) _))
                                          (first
                                            | (go_at_call_of 18 aA; refine (copy_any GA aA cA zA _ (by omega) hnilA hfitA (XA.out.later (held_last (by assumption))).row).mono ?_; rintro e u0 ⟨p0, q0, rfl, hc0, hm0, hn0, hr0, hb0⟩; have hB0 : Below XLew.heap.size XLew u0 := Below.trans (held_last (by assumption)) (Below.mono hb0 (Below.size (held_last (by assumption)))); have hs0 := hB0.size)
                                            | (go_at_call_of 18 aB; refine (copy_any GB aB cB zB _ (by omega) hnilB hfitB (XB.out.later (held_last (by assumption))).row).mono ?_; rintro e u1 ⟨p1, q1, rfl, hc1, hm1, hn1, hr1, hb1⟩; have hB1 : Below XLew.heap.size XLew u1 := Below.trans (held_last (by assumption)) (Below.mono hb1 (Below.size (held_last (by assumption)))); have hs1 := hB1.size; have hq0_1 := (by first | exact hr0.row.later hb1 | exact (hr0.row.later (bel0 _ _)).later hb1 : RowAt .u32 u1 p0 zA))
                                            | (go_at_call 28; refine (imMul_any GA GB p0 p1 q0 q1 zA zB _ (by omega) (by omega) ?_ ?_ huA huB).mono ?_; (first | exact hq0_1 | exact hq0_1.later (bel0 _ _)); (first | exact hr1.row | exact hr1.row.later (bel0 _ _)); rintro e w9 ⟨GR, ZR, KR, aR, cR, rfl, hresR, hrR, hb9⟩; have hB9 : Below XLew.heap.size XLew w9 := Below.trans (held_last (by assumption)) (Below.mono hb9 (Below.size (held_last (by assumption)))); (rw [hvalA, hvalB, BA.out.sg, BB.out.sg] at hresR); obtain ⟨hKR, hBR, hlR⟩ := hresR.ok FM.out; subst hKR; (first | (have hhc := ((((Has.new XLew 26).later (Below.refl _ _).drew).later hb0).later hb1); have hh := hhc.later hb9) | (have hhc := ((Has.new u0 26).later hb1); have hh := hhc.later hb9) | (have hhc := (Has.new u1 26); have hh := hhc.later hb9) | have hh : True := trivial); (try have r1 := hh.r1); (try have r2 := hh.r2); (try have r3 := hh.r3)))
                                        all_goals
                                          go_wp2_with fail
                                          go_meet
                                          case rel =>
                                            refine ⟨_, GR, ZR, aR, cR, rfl, rfl, ?_, hBR, hlR, ?_⟩
                                            · first
                                                | exact BigIn.start _ hrR.row
                                                | exact BigIn.set hrR hhc.lt hh
                                            · first
                                                | exact hB9.alloc hB9.size _
                                                | exact (hB9.setCell (by first | exact Nat.le_refl _ | exact hs0 | exact hs1) _).setCell (by first | exact Nat.le_refl _ | exact hs0 | exact hs1) _
                                    case rest =>
                                      as_aux_lemma =>
                                        obtain ⟨TXx, GXx, zXx, aXx, cXx, rfl, rfl, XXx, BXx, hlXx, HBX⟩ := hcut
                                        obtain ⟨XXxw, hXw⟩ : ∃ X, X = wc := ⟨_, rfl⟩
                                        subst hXw
                                        have XAn : Hid (BigIn W1.heap.size GA aA cA zA XXxw) := XA.out.later HBX.out
                                        have XBn : Hid (BigIn (W1.heap.size + 1) GB aB cB zB XXxw) := XB.out.later HBX.out
                                        have XCn : Hid (BigIn W3.heap.size GC aC cC zC XXxw) := XC.out.later HBX.out
                                        have XWn : Hid (BigIn YW.heap.size GW aW cW zW XXxw) := XW.out.later HBX.out
                                        have XInn : Hid (BigIn TIn GIn aIn cIn zIn XXxw) := XIn.out.later HBX.out
                                        have XLen : Hid (BigIn TLe GLe aLe cLe zLe XXxw) := XLe.out.later HBX.out
                                        clear XA
                                        have XA := XAn
                                        clear XAn
                                        clear XB
                                        have XB := XBn
                                        clear XBn
                                        clear XC
                                        have XC := XCn
                                        clear XCn
                                        clear XW
                                        have XW := XWn
                                        clear XWn
                                        clear XIn
                                        have XIn := XInn
                                        clear XInn
                                        clear XLe
                                        have XLe := XLen
                                        clear XLen
                                        have HBn : Hid (Below w.heap.size w XXxw) := HB.out.trans (HBX.out.mono HB.out.size)
                                        clear HB KS HBX
                                        have HB := HBn
                                        clear HBn
                                        have huXx : U32 zXx := BXx.out.u32
                                        have hvalXx : validB GXx zXx = true := BXx.out.valid hlXx
                                        go_wp2
                                        have KS : Hid (∀ w', Below XXxw.heap.size XXxw w' → w'.cell? ⟨W1.heap.size, 0, none⟩ = some (.bool GA) ∧ w'.cell? ⟨W1.heap.size, 1, none⟩ = some (.slice aA zA.length cA) ∧ w'.cell? ⟨W3.heap.size, 0, none⟩ = some (.bool GC) ∧ w'.cell? ⟨W3.heap.size, 1, none⟩ = some (.slice aC zC.length cC) ∧ Below XXxw.heap.size XXxw w') := by
                                          intro w' hw
                                          exact ⟨(XA.out.later hw).q0, (XA.out.later hw).q1, (XC.out.later hw).q0, (XC.out.later hw).q1, hw⟩
                                        go_cut [30, 31] from 40 to 276 (fun s1 s2 wx => ∃ (TR : Nat) (GR : Bool) (ZR : List Int) (aR : Option Addr) (cR : Nat), s1 = .pointer (some ⟨TR, 0, none⟩) ∧ s2 = .int .i64 0 ∧ Hid (BigIn TR GR aR cR ZR wx) ∧ Hid (B1 GR ZR (x * z)) ∧ ZR.length ≤ 512 ∧ Hid (Below XXxw.heap.size XXxw wx))
                                        case first =>
                                          as_aux_lemma =>
                                            go_region_held3 (fun w' => w'.cell? ⟨W1.heap.size, 0, none⟩ = some (.bool GA) ∧ w'.cell? ⟨W1.heap.size, 1, none⟩ = some (.slice aA zA.length cA) ∧ w'.cell? ⟨W3.heap.size, 0, none⟩ = some (.bool GC) ∧ w'.cell? ⟨W3.heap.size, 1, none⟩ = some (.slice aC zC.length cC) ∧ Below XXxw.heap.size XXxw w')
                                              (first | exact KS.out _ (Below.refl _ _).drew | exact KS.out _ (by assumption) | exact KS.out _ (Below.alloc (by assumption) (Below.size (by assumption)) _) | exact KS.out _ (Below.alloc (held_last (by assumption)) (Below.size (held_last (by assumption))) _) | exact KS.out _ (Below.setCell (Below.setCell (by assumption) (by first | (simp; done) | (simp; omega)) _) (by first | (simp; done) | (simp; omega)) _))
                                              (first
                                                | (go_at_call_of 18 aA; refine (copy_any GA aA cA zA _ (by omega) hnilA hfitA (XA.out.later (held_last (by assumption))).row).mono ?_; rintro e u0 ⟨p0, q0, rfl, hc0, hm0, hn0, hr0, hb0⟩; have hB0 : Below XXxw.heap.size XXxw u0 := Below.trans (held_last (by assumption)) (Below.mono hb0 (Below.size (held_last (by assumption)))); have hs0 := hB0.size)
                                                | (go_at_call_of 18 aC; refine (copy_any GC aC cC zC _ (by omega) hnilC hfitC (XC.out.later (held_last (by assumption))).row).mono ?_; rintro e u1 ⟨p1, q1, rfl, hc1, hm1, hn1, hr1, hb1⟩; have hB1 : Below XXxw.heap.size XXxw u1 := Below.trans (held_last (by assumption)) (Below.mono hb1 (Below.size (held_last (by assumption)))); have hs1 := hB1.size; have hq0_1 := (by first | exact hr0.row.later hb1 | exact (hr0.row.later (bel0 _ _)).later hb1 : RowAt .u32 u1 p0 zA))
                                                | (go_at_call 28; refine (imMul_any GA GC p0 p1 q0 q1 zA zC _ (by omega) (by omega) ?_ ?_ huA huC).mono ?_; (first | exact hq0_1 | exact hq0_1.later (bel0 _ _)); (first | exact hr1.row | exact hr1.row.later (bel0 _ _)); rintro e w9 ⟨GR, ZR, KR, aR, cR, rfl, hresR, hrR, hb9⟩; have hB9 : Below XXxw.heap.size XXxw w9 := Below.trans (held_last (by assumption)) (Below.mono hb9 (Below.size (held_last (by assumption)))); (rw [hvalA, hvalC, BA.out.sg, BC.out.sg] at hresR); obtain ⟨hKR, hBR, hlR⟩ := hresR.ok FN.out; subst hKR; (first | (have hhc := ((((Has.new XXxw 26).later (Below.refl _ _).drew).later hb0).later hb1); have hh := hhc.later hb9) | (have hhc := ((Has.new u0 26).later hb1); have hh := hhc.later hb9) | (have hhc := (Has.new u1 26); have hh := hhc.later hb9) | have hh : True := trivial); (try have r1 := hh.r1); (try have r2 := hh.r2); (try have r3 := hh.r3)))
                                            all_goals
                                              go_wp2_with fail
                                              go_meet
                                              case rel =>
                                                refine ⟨_, GR, ZR, aR, cR, rfl, rfl, ?_, hBR, hlR, ?_⟩
                                                · first
                                                    | exact BigIn.start _ hrR.row
                                                    | exact BigIn.set hrR hhc.lt hh
                                                · first
                                                    | exact hB9.alloc hB9.size _
                                                    | exact (hB9.setCell (by first | exact Nat.le_refl _ | exact hs0 | exact hs1) _).setCell (by first | exact Nat.le_refl _ | exact hs0 | exact hs1) _
                                        case rest =>
                                          as_aux_lemma =>
                                            obtain ⟨TYy, GYy, zYy, aYy, cYy, rfl, rfl, XYy, BYy, hlYy, HBX⟩ := hcut
                                            obtain ⟨XYyw, hXw⟩ : ∃ X, X = wc := ⟨_, rfl⟩
                                            subst hXw
                                            have XAn : Hid (BigIn W1.heap.size GA aA cA zA XYyw) := XA.out.later HBX.out
                                            have XBn : Hid (BigIn (W1.heap.size + 1) GB aB cB zB XYyw) := XB.out.later HBX.out
                                            have XCn : Hid (BigIn W3.heap.size GC aC cC zC XYyw) := XC.out.later HBX.out
                                            have XWn : Hid (BigIn YW.heap.size GW aW cW zW XYyw) := XW.out.later HBX.out
                                            have XInn : Hid (BigIn TIn GIn aIn cIn zIn XYyw) := XIn.out.later HBX.out
                                            have XLen : Hid (BigIn TLe GLe aLe cLe zLe XYyw) := XLe.out.later HBX.out
                                            have XXxn : Hid (BigIn TXx GXx aXx cXx zXx XYyw) := XXx.out.later HBX.out
                                            clear XA
                                            have XA := XAn
                                            clear XAn
                                            clear XB
                                            have XB := XBn
                                            clear XBn
                                            clear XC
                                            have XC := XCn
                                            clear XCn
                                            clear XW
                                            have XW := XWn
                                            clear XWn
                                            clear XIn
                                            have XIn := XInn
                                            clear XInn
                                            clear XLe
                                            have XLe := XLen
                                            clear XLen
                                            clear XXx
                                            have XXx := XXxn
                                            clear XXxn
                                            have HBn : Hid (Below w.heap.size w XYyw) := HB.out.trans (HBX.out.mono HB.out.size)
                                            clear HB KS HBX
                                            have HB := HBn
                                            clear HBn
                                            have huYy : U32 zYy := BYy.out.u32
                                            have hvalYy : validB GYy zYy = true := BYy.out.valid hlYy
                                            have s0 := XXx.out.q0
                                            have s1 := XXx.out.q1
                                            have s2 := XYy.out.q0
                                            have s3 := XYy.out.q1
                                            go_wp2_with fail
                                            refine (imAdd_any GXx GYy aXx aYy cXx cYy zXx zYy _ (by omega) (by omega) XXx.out.row XYy.out.row huXx huYy).mono ?_
                                            rintro e YRt ⟨GRt, zRt, KRt, aRt, cRt, rfl, hresRt, hrRt, hbRt⟩
                                            rw [hvalXx, hvalYy, BXx.out.sg, BYy.out.sg, show x * y + x * z = x * (y + z) from RtEQ.out] at hresRt
                                            obtain ⟨hKRt, hBRt, hlRt⟩ := hresRt.ok FW.out
                                            subst hKRt
                                            have BRt : Hid (B1 GRt zRt (x * (y + z))) := hBRt
                                            have huRt : U32 zRt := BRt.out.u32
                                            have hvalRt : validB GRt zRt = true := BRt.out.valid hlRt
                                            clear s0 s1 s2 s3
                                            have HBX : Hid (Below XYyw.heap.size XYyw (YRt.alloc (.cells #[.bool GRt, .slice aRt zRt.length cRt] 26))) := (hbRt.alloc hbRt.size _)
                                            have XRt : Hid (BigIn YRt.heap.size GRt aRt cRt zRt (YRt.alloc (.cells #[.bool GRt, .slice aRt zRt.length cRt] 26))) := BigIn.start _ hrRt.row
                                            have HBn : Hid (Below w.heap.size w (YRt.alloc (.cells #[.bool GRt, .slice aRt zRt.length cRt] 26))) := HB.out.trans (HBX.out.mono HB.out.size)
                                            have XAn : Hid (BigIn W1.heap.size GA aA cA zA (YRt.alloc (.cells #[.bool GRt, .slice aRt zRt.length cRt] 26))) := XA.out.later HBX.out
                                            have XBn : Hid (BigIn (W1.heap.size + 1) GB aB cB zB (YRt.alloc (.cells #[.bool GRt, .slice aRt zRt.length cRt] 26))) := XB.out.later HBX.out
                                            have XCn : Hid (BigIn W3.heap.size GC aC cC zC (YRt.alloc (.cells #[.bool GRt, .slice aRt zRt.length cRt] 26))) := XC.out.later HBX.out
                                            have XWn : Hid (BigIn YW.heap.size GW aW cW zW (YRt.alloc (.cells #[.bool GRt, .slice aRt zRt.length cRt] 26))) := XW.out.later HBX.out
                                            have XInn : Hid (BigIn TIn GIn aIn cIn zIn (YRt.alloc (.cells #[.bool GRt, .slice aRt zRt.length cRt] 26))) := XIn.out.later HBX.out
                                            have XLen : Hid (BigIn TLe GLe aLe cLe zLe (YRt.alloc (.cells #[.bool GRt, .slice aRt zRt.length cRt] 26))) := XLe.out.later HBX.out
                                            have XXxn : Hid (BigIn TXx GXx aXx cXx zXx (YRt.alloc (.cells #[.bool GRt, .slice aRt zRt.length cRt] 26))) := XXx.out.later HBX.out
                                            have XYyn : Hid (BigIn TYy GYy aYy cYy zYy (YRt.alloc (.cells #[.bool GRt, .slice aRt zRt.length cRt] 26))) := XYy.out.later HBX.out
                                            clear XA
                                            have XA := XAn
                                            clear XAn
                                            clear XB
                                            have XB := XBn
                                            clear XBn
                                            clear XC
                                            have XC := XCn
                                            clear XCn
                                            clear XW
                                            have XW := XWn
                                            clear XWn
                                            clear XIn
                                            have XIn := XInn
                                            clear XInn
                                            clear XLe
                                            have XLe := XLen
                                            clear XLen
                                            clear XXx
                                            have XXx := XXxn
                                            clear XXxn
                                            clear XYy
                                            have XYy := XYyn
                                            clear XYyn
                                            clear HB hbRt hrRt hresRt HBX hBRt
                                            have HB := HBn
                                            clear HBn
                                            clear XIn
                                            clear XYy
                                            go_wp2
                                            obtain ⟨X5, hX5⟩ : ∃ X, X = (YRt.alloc (.cells #[.bool GRt, .slice aRt zRt.length cRt] 26)) := ⟨_, rfl⟩
                                            rw [← hX5] at XA XB XC XW XLe XXx XRt HB ⊢
                                            clear hX5
                                            have KS : Hid (∀ w', Below X5.heap.size X5 w' → w'.cell? ⟨(W1.heap.size + 1), 0, none⟩ = some (.bool GB) ∧ w'.cell? ⟨(W1.heap.size + 1), 1, none⟩ = some (.slice aB zB.length cB) ∧ w'.cell? ⟨W1.heap.size, 0, none⟩ = some (.bool GA) ∧ w'.cell? ⟨W1.heap.size, 1, none⟩ = some (.slice aA zA.length cA) ∧ Below X5.heap.size X5 w') := by
                                              intro w' hw
                                              exact ⟨(XB.out.later hw).q0, (XB.out.later hw).q1, (XA.out.later hw).q0, (XA.out.later hw).q1, hw⟩
                                            go_cut [34, 35] from 40 to 276 (fun s1 s2 wx => ∃ (TR : Nat) (GR : Bool) (ZR : List Int) (aR : Option Addr) (cR : Nat), s1 = .pointer (some ⟨TR, 0, none⟩) ∧ s2 = .int .i64 0 ∧ Hid (BigIn TR GR aR cR ZR wx) ∧ Hid (B1 GR ZR (x * y)) ∧ ZR.length ≤ 512 ∧ Hid (Below X5.heap.size X5 wx))
                                            case first =>
                                              as_aux_lemma =>
                                                go_region_held3 (fun w' => w'.cell? ⟨(W1.heap.size + 1), 0, none⟩ = some (.bool GB) ∧ w'.cell? ⟨(W1.heap.size + 1), 1, none⟩ = some (.slice aB zB.length cB) ∧ w'.cell? ⟨W1.heap.size, 0, none⟩ = some (.bool GA) ∧ w'.cell? ⟨W1.heap.size, 1, none⟩ = some (.slice aA zA.length cA) ∧ Below X5.heap.size X5 w')
                                                  (first | exact KS.out _ (Below.refl _ _).drew | exact KS.out _ (by assumption) | exact KS.out _ (Below.alloc (by assumption) (Below.size (by assumption)) _) | exact KS.out _ (Below.alloc (held_last (by assumption)) (Below.size (held_last (by assumption))) _) | exact KS.out _ (Below.setCell (Below.setCell (by assumption) (by first | (simp; done) | (simp; omega)) _) (by first | (simp; done) | (simp; omega)) _))
                                                  (first
                                                    | (go_at_call_of 18 aB; refine (copy_any GB aB cB zB _ (by omega) hnilB hfitB (XB.out.later (held_last (by assumption))).row).mono ?_; rintro e u0 ⟨p0, q0, rfl, hc0, hm0, hn0, hr0, hb0⟩; have hB0 : Below X5.heap.size X5 u0 := Below.trans (held_last (by assumption)) (Below.mono hb0 (Below.size (held_last (by assumption)))); have hs0 := hB0.size)
                                                    | (go_at_call_of 18 aA; refine (copy_any GA aA cA zA _ (by omega) hnilA hfitA (XA.out.later (held_last (by assumption))).row).mono ?_; rintro e u1 ⟨p1, q1, rfl, hc1, hm1, hn1, hr1, hb1⟩; have hB1 : Below X5.heap.size X5 u1 := Below.trans (held_last (by assumption)) (Below.mono hb1 (Below.size (held_last (by assumption)))); have hs1 := hB1.size; have hq0_1 := (by first | exact hr0.row.later hb1 | exact (hr0.row.later (bel0 _ _)).later hb1 : RowAt .u32 u1 p0 zB))
                                                    | (go_at_call 28; refine (imMul_any GB GA p0 p1 q0 q1 zB zA _ (by omega) (by omega) ?_ ?_ huB huA).mono ?_; (first | exact hq0_1 | exact hq0_1.later (bel0 _ _)); (first | exact hr1.row | exact hr1.row.later (bel0 _ _)); rintro e w9 ⟨GR, ZR, KR, aR, cR, rfl, hresR, hrR, hb9⟩; have hB9 : Below X5.heap.size X5 w9 := Below.trans (held_last (by assumption)) (Below.mono hb9 (Below.size (held_last (by assumption)))); (rw [hvalB, hvalA, BB.out.sg, BA.out.sg, show y * x = x * y from ZzEQ.out] at hresR); obtain ⟨hKR, hBR, hlR⟩ := hresR.ok FM.out; subst hKR; (first | (have hhc := ((((Has.new X5 26).later (Below.refl _ _).drew).later hb0).later hb1); have hh := hhc.later hb9) | (have hhc := ((Has.new u0 26).later hb1); have hh := hhc.later hb9) | (have hhc := (Has.new u1 26); have hh := hhc.later hb9) | have hh : True := trivial); (try have r1 := hh.r1); (try have r2 := hh.r2); (try have r3 := hh.r3)))
                                                all_goals
                                                  go_wp2_with fail
                                                  go_meet
                                                  case rel =>
                                                    refine ⟨_, GR, ZR, aR, cR, rfl, rfl, ?_, hBR, hlR, ?_⟩
                                                    · first
                                                        | exact BigIn.start _ hrR.row
                                                        | exact BigIn.set hrR hhc.lt hh
                                                    · first
                                                        | exact hB9.alloc hB9.size _
                                                        | exact (hB9.setCell (by first | exact Nat.le_refl _ | exact hs0 | exact hs1) _).setCell (by first | exact Nat.le_refl _ | exact hs0 | exact hs1) _
                                            case rest =>
                                              as_aux_lemma =>
                                                obtain ⟨TZz, GZz, zZz, aZz, cZz, rfl, rfl, XZz, BZz, hlZz, HBX⟩ := hcut
                                                obtain ⟨XZzw, hXw⟩ : ∃ X, X = wc := ⟨_, rfl⟩
                                                subst hXw
                                                have XAn : Hid (BigIn W1.heap.size GA aA cA zA XZzw) := XA.out.later HBX.out
                                                have XBn : Hid (BigIn (W1.heap.size + 1) GB aB cB zB XZzw) := XB.out.later HBX.out
                                                have XCn : Hid (BigIn W3.heap.size GC aC cC zC XZzw) := XC.out.later HBX.out
                                                have XWn : Hid (BigIn YW.heap.size GW aW cW zW XZzw) := XW.out.later HBX.out
                                                have XLen : Hid (BigIn TLe GLe aLe cLe zLe XZzw) := XLe.out.later HBX.out
                                                have XXxn : Hid (BigIn TXx GXx aXx cXx zXx XZzw) := XXx.out.later HBX.out
                                                have XRtn : Hid (BigIn YRt.heap.size GRt aRt cRt zRt XZzw) := XRt.out.later HBX.out
                                                clear XA
                                                have XA := XAn
                                                clear XAn
                                                clear XB
                                                have XB := XBn
                                                clear XBn
                                                clear XC
                                                have XC := XCn
                                                clear XCn
                                                clear XW
                                                have XW := XWn
                                                clear XWn
                                                clear XLe
                                                have XLe := XLen
                                                clear XLen
                                                clear XXx
                                                have XXx := XXxn
                                                clear XXxn
                                                clear XRt
                                                have XRt := XRtn
                                                clear XRtn
                                                have HBn : Hid (Below w.heap.size w XZzw) := HB.out.trans (HBX.out.mono HB.out.size)
                                                clear HB KS HBX
                                                have HB := HBn
                                                clear HBn
                                                have huZz : U32 zZz := BZz.out.u32
                                                have hvalZz : validB GZz zZz = true := BZz.out.valid hlZz
                                                have eG := (BLe.out.inj BRt.out).1
                                                have eZ := (BLe.out.inj BRt.out).2
                                                subst eG eZ
                                                have eG := (BLe.out.inj BW.out).1
                                                have eZ := (BLe.out.inj BW.out).2
                                                subst eG eZ
                                                have eG := (BXx.out.inj BZz.out).1
                                                have eZ := (BXx.out.inj BZz.out).2
                                                subst eG eZ
                                                have s0 := XLe.out.q0
                                                have s1 := XLe.out.q1
                                                have s2 := XRt.out.q0
                                                have s3 := XRt.out.q1
                                                go_wp2_with fail
                                                refine (same_any GLe aLe aRt cLe cRt zLe _ (by unfold maxLen; omega) XLe.out.row XRt.out.row).mono ?_
                                                rintro e WT1 ⟨rfl, hbS⟩
                                                have HBn : Hid (Below w.heap.size w WT1) := HB.out.trans (hbS.mono HB.out.size)
                                                have XAn : Hid (BigIn W1.heap.size GA aA cA zA WT1) := XA.out.later hbS
                                                have XBn : Hid (BigIn (W1.heap.size + 1) GB aB cB zB WT1) := XB.out.later hbS
                                                have XCn : Hid (BigIn W3.heap.size GC aC cC zC WT1) := XC.out.later hbS
                                                have XWn : Hid (BigIn YW.heap.size GLe aW cW zLe WT1) := XW.out.later hbS
                                                have XLen : Hid (BigIn TLe GLe aLe cLe zLe WT1) := XLe.out.later hbS
                                                have XXxn : Hid (BigIn TXx GXx aXx cXx zXx WT1) := XXx.out.later hbS
                                                have XRtn : Hid (BigIn YRt.heap.size GLe aRt cRt zLe WT1) := XRt.out.later hbS
                                                have XZzn : Hid (BigIn TZz GXx aZz cZz zXx WT1) := XZz.out.later hbS
                                                clear XA
                                                have XA := XAn
                                                clear XAn
                                                clear XB
                                                have XB := XBn
                                                clear XBn
                                                clear XC
                                                have XC := XCn
                                                clear XCn
                                                clear XW
                                                have XW := XWn
                                                clear XWn
                                                clear XLe
                                                have XLe := XLen
                                                clear XLen
                                                clear XXx
                                                have XXx := XXxn
                                                clear XXxn
                                                clear XRt
                                                have XRt := XRtn
                                                clear XRtn
                                                clear XZz
                                                have XZz := XZzn
                                                clear XZzn
                                                clear HB hbS s0 s1 s2 s3
                                                have HB := HBn
                                                clear HBn
                                                have s0 := XLe.out.q0
                                                have s1 := XLe.out.q1
                                                have s2 := XW.out.q0
                                                have s3 := XW.out.q1
                                                go_wp2_with fail
                                                refine (same_any GLe aLe aW cLe cW zLe _ (by unfold maxLen; omega) XLe.out.row XW.out.row).mono ?_
                                                rintro e WT2 ⟨rfl, hbS⟩
                                                have HBn : Hid (Below w.heap.size w WT2) := HB.out.trans (hbS.mono HB.out.size)
                                                have XAn : Hid (BigIn W1.heap.size GA aA cA zA WT2) := XA.out.later hbS
                                                have XBn : Hid (BigIn (W1.heap.size + 1) GB aB cB zB WT2) := XB.out.later hbS
                                                have XCn : Hid (BigIn W3.heap.size GC aC cC zC WT2) := XC.out.later hbS
                                                have XWn : Hid (BigIn YW.heap.size GLe aW cW zLe WT2) := XW.out.later hbS
                                                have XLen : Hid (BigIn TLe GLe aLe cLe zLe WT2) := XLe.out.later hbS
                                                have XXxn : Hid (BigIn TXx GXx aXx cXx zXx WT2) := XXx.out.later hbS
                                                have XRtn : Hid (BigIn YRt.heap.size GLe aRt cRt zLe WT2) := XRt.out.later hbS
                                                have XZzn : Hid (BigIn TZz GXx aZz cZz zXx WT2) := XZz.out.later hbS
                                                clear XA
                                                have XA := XAn
                                                clear XAn
                                                clear XB
                                                have XB := XBn
                                                clear XBn
                                                clear XC
                                                have XC := XCn
                                                clear XCn
                                                clear XW
                                                have XW := XWn
                                                clear XWn
                                                clear XLe
                                                have XLe := XLen
                                                clear XLen
                                                clear XXx
                                                have XXx := XXxn
                                                clear XXxn
                                                clear XRt
                                                have XRt := XRtn
                                                clear XRtn
                                                clear XZz
                                                have XZz := XZzn
                                                clear XZzn
                                                clear HB hbS s0 s1 s2 s3
                                                have HB := HBn
                                                clear HBn
                                                have s0 := XXx.out.q0
                                                have s1 := XXx.out.q1
                                                have s2 := XZz.out.q0
                                                have s3 := XZz.out.q1
                                                go_wp2_with fail
                                                refine (same_any GXx aXx aZz cXx cZz zXx _ (by unfold maxLen; omega) XXx.out.row XZz.out.row).mono ?_
                                                rintro e WT3 ⟨rfl, hbS⟩
                                                have HBn : Hid (Below w.heap.size w WT3) := HB.out.trans (hbS.mono HB.out.size)
                                                have XAn : Hid (BigIn W1.heap.size GA aA cA zA WT3) := XA.out.later hbS
                                                have XBn : Hid (BigIn (W1.heap.size + 1) GB aB cB zB WT3) := XB.out.later hbS
                                                have XCn : Hid (BigIn W3.heap.size GC aC cC zC WT3) := XC.out.later hbS
                                                have XWn : Hid (BigIn YW.heap.size GLe aW cW zLe WT3) := XW.out.later hbS
                                                have XLen : Hid (BigIn TLe GLe aLe cLe zLe WT3) := XLe.out.later hbS
                                                have XXxn : Hid (BigIn TXx GXx aXx cXx zXx WT3) := XXx.out.later hbS
                                                have XRtn : Hid (BigIn YRt.heap.size GLe aRt cRt zLe WT3) := XRt.out.later hbS
                                                have XZzn : Hid (BigIn TZz GXx aZz cZz zXx WT3) := XZz.out.later hbS
                                                clear XA
                                                have XA := XAn
                                                clear XAn
                                                clear XB
                                                have XB := XBn
                                                clear XBn
                                                clear XC
                                                have XC := XCn
                                                clear XCn
                                                clear XW
                                                have XW := XWn
                                                clear XWn
                                                clear XLe
                                                have XLe := XLen
                                                clear XLen
                                                clear XXx
                                                have XXx := XXxn
                                                clear XXxn
                                                clear XRt
                                                have XRt := XRtn
                                                clear XRtn
                                                clear XZz
                                                have XZz := XZzn
                                                clear XZzn
                                                clear HB hbS s0 s1 s2 s3
                                                have HB := HBn
                                                clear HBn
                                                have s0 := XLe.out.q0
                                                have s1 := XLe.out.q1
                                                go_wp2_with fail
                                                refine (validI_any GLe aLe cLe zLe _ (by unfold maxLen; omega) XLe.out.row).mono ?_
                                                rintro e WT4 ⟨rfl, hbV⟩
                                                rw [hvalLe]
                                                have HBn : Hid (Below w.heap.size w WT4) := HB.out.trans (hbV.mono HB.out.size)
                                                have XAn : Hid (BigIn W1.heap.size GA aA cA zA WT4) := XA.out.later hbV
                                                have XBn : Hid (BigIn (W1.heap.size + 1) GB aB cB zB WT4) := XB.out.later hbV
                                                have XCn : Hid (BigIn W3.heap.size GC aC cC zC WT4) := XC.out.later hbV
                                                have XWn : Hid (BigIn YW.heap.size GLe aW cW zLe WT4) := XW.out.later hbV
                                                have XLen : Hid (BigIn TLe GLe aLe cLe zLe WT4) := XLe.out.later hbV
                                                have XXxn : Hid (BigIn TXx GXx aXx cXx zXx WT4) := XXx.out.later hbV
                                                have XRtn : Hid (BigIn YRt.heap.size GLe aRt cRt zLe WT4) := XRt.out.later hbV
                                                have XZzn : Hid (BigIn TZz GXx aZz cZz zXx WT4) := XZz.out.later hbV
                                                clear XA
                                                have XA := XAn
                                                clear XAn
                                                clear XB
                                                have XB := XBn
                                                clear XBn
                                                clear XC
                                                have XC := XCn
                                                clear XCn
                                                clear XW
                                                have XW := XWn
                                                clear XWn
                                                clear XLe
                                                have XLe := XLen
                                                clear XLen
                                                clear XXx
                                                have XXx := XXxn
                                                clear XXxn
                                                clear XRt
                                                have XRt := XRtn
                                                clear XRtn
                                                clear XZz
                                                have XZz := XZzn
                                                clear XZzn
                                                clear HB hbV s0 s1
                                                have HB := HBn
                                                clear HBn
                                                clear XRt
                                                clear XW
                                                clear XXx
                                                clear XZz
                                                clear XLe
                                                clear XC
                                                go_wp2
                                                have KS : Hid (∀ w', Below WT4.heap.size WT4 w' → w'.cell? ⟨W1.heap.size, 0, none⟩ = some (.bool GA) ∧ w'.cell? ⟨W1.heap.size, 1, none⟩ = some (.slice aA zA.length cA) ∧ w'.cell? ⟨(W1.heap.size + 1), 0, none⟩ = some (.bool GB) ∧ w'.cell? ⟨(W1.heap.size + 1), 1, none⟩ = some (.slice aB zB.length cB) ∧ Below WT4.heap.size WT4 w') := by
                                                  intro w' hw
                                                  exact ⟨(XA.out.later hw).q0, (XA.out.later hw).q1, (XB.out.later hw).q0, (XB.out.later hw).q1, hw⟩
                                                go_cut [36, 37] from 40 to 276 (fun s1 s2 wx => ∃ (TR : Nat) (GR : Bool) (ZR : List Int) (aR : Option Addr) (cR : Nat), s1 = .pointer (some ⟨TR, 0, none⟩) ∧ s2 = .int .i64 0 ∧ Hid (BigIn TR GR aR cR ZR wx) ∧ Hid (B1 GR ZR (x - y)) ∧ ZR.length ≤ 512 ∧ Hid (Below WT4.heap.size WT4 wx))
                                                case first =>
                                                  as_aux_lemma =>
                                                    go_region_held3 (fun w' => w'.cell? ⟨W1.heap.size, 0, none⟩ = some (.bool GA) ∧ w'.cell? ⟨W1.heap.size, 1, none⟩ = some (.slice aA zA.length cA) ∧ w'.cell? ⟨(W1.heap.size + 1), 0, none⟩ = some (.bool GB) ∧ w'.cell? ⟨(W1.heap.size + 1), 1, none⟩ = some (.slice aB zB.length cB) ∧ Below WT4.heap.size WT4 w')
                                                      (first | exact KS.out _ (Below.refl _ _).drew | exact KS.out _ (by assumption) | exact KS.out _ (Below.alloc (by assumption) (Below.size (by assumption)) _) | exact KS.out _ (Below.alloc (held_last (by assumption)) (Below.size (held_last (by assumption))) _) | exact KS.out _ (Below.setCell (Below.setCell (by assumption) (by first | (simp; done) | (simp; omega)) _) (by first | (simp; done) | (simp; omega)) _))
                                                      (first
                                                        | (go_at_call_of 18 aA; refine (copy_any GA aA cA zA _ (by omega) hnilA hfitA (XA.out.later (held_last (by assumption))).row).mono ?_; rintro e u0 ⟨p0, q0, rfl, hc0, hm0, hn0, hr0, hb0⟩; have hB0 : Below WT4.heap.size WT4 u0 := Below.trans (held_last (by assumption)) (Below.mono hb0 (Below.size (held_last (by assumption)))); have hs0 := hB0.size)
                                                        | (go_at_call_of 18 aB; refine (copy_any GB aB cB zB _ (by omega) hnilB hfitB (XB.out.later (held_last (by assumption))).row).mono ?_; rintro e u1 ⟨p1, q1, rfl, hc1, hm1, hn1, hr1, hb1⟩; have hB1 : Below WT4.heap.size WT4 u1 := Below.trans (held_last (by assumption)) (Below.mono hb1 (Below.size (held_last (by assumption)))); have hs1 := hB1.size; have hq0_1 := (by first | exact hr0.row.later hb1 | exact (hr0.row.later (bel0 _ _)).later hb1 : RowAt .u32 u1 p0 zA))
                                                        | (go_at_call 11; refine (imSub_any GA GB p0 p1 q0 q1 zA zB _ (by omega) (by omega) ?_ ?_ huA huB).mono ?_; (first | exact hq0_1 | exact hq0_1.later (bel0 _ _)); (first | exact hr1.row | exact hr1.row.later (bel0 _ _)); rintro e w9 ⟨GR, ZR, KR, aR, cR, rfl, hresR, hrR, hb9⟩; have hB9 : Below WT4.heap.size WT4 w9 := Below.trans (held_last (by assumption)) (Below.mono hb9 (Below.size (held_last (by assumption)))); (rw [hvalA, hvalB, BA.out.sg, BB.out.sg] at hresR); obtain ⟨hKR, hBR, hlR⟩ := hresR.ok FQ.out; subst hKR; (first | (have hhc := ((((Has.new WT4 26).later (Below.refl _ _).drew).later hb0).later hb1); have hh := hhc.later hb9) | (have hhc := ((Has.new u0 26).later hb1); have hh := hhc.later hb9) | (have hhc := (Has.new u1 26); have hh := hhc.later hb9) | have hh : True := trivial); (try have r1 := hh.r1); (try have r2 := hh.r2); (try have r3 := hh.r3)))
                                                    all_goals
                                                      go_wp2_with fail
                                                      go_meet
                                                      case rel =>
                                                        refine ⟨_, GR, ZR, aR, cR, rfl, rfl, ?_, hBR, hlR, ?_⟩
                                                        · first
                                                            | exact BigIn.start _ hrR.row
                                                            | exact BigIn.set hrR hhc.lt hh
                                                        · first
                                                            | exact hB9.alloc hB9.size _
                                                            | exact (hB9.setCell (by first | exact Nat.le_refl _ | exact hs0 | exact hs1) _).setCell (by first | exact Nat.le_refl _ | exact hs0 | exact hs1) _
                                                case rest =>
                                                  as_aux_lemma =>
                                                    obtain ⟨TDd, GDd, zDd, aDd, cDd, rfl, rfl, XDd, BDd, hlDd, HBX⟩ := hcut
                                                    obtain ⟨XDdw, hXw⟩ : ∃ X, X = wc := ⟨_, rfl⟩
                                                    subst hXw
                                                    have XAn : Hid (BigIn W1.heap.size GA aA cA zA XDdw) := XA.out.later HBX.out
                                                    have XBn : Hid (BigIn (W1.heap.size + 1) GB aB cB zB XDdw) := XB.out.later HBX.out
                                                    clear XA
                                                    have XA := XAn
                                                    clear XAn
                                                    clear XB
                                                    have XB := XBn
                                                    clear XBn
                                                    have HBn : Hid (Below w.heap.size w XDdw) := HB.out.trans (HBX.out.mono HB.out.size)
                                                    clear HB KS HBX
                                                    have HB := HBn
                                                    clear HBn
                                                    have huDd : U32 zDd := BDd.out.u32
                                                    have hvalDd : validB GDd zDd = true := BDd.out.valid hlDd
                                                    go_wp2
                                                    obtain ⟨r, hr9⟩ : ∃ r, r = sgn (x - y) := ⟨_, rfl⟩
                                                    have HCR : Hid (cmpR GA GB zA zB = r) := by
                                                      unfold Hid cmpR
                                                      rw [if_pos ⟨hvalA, hvalB⟩, BA.out.sg, BB.out.sg, hr9]
                                                    have HCK : Hid (cmpK GA GB zA zB = 0) := by
                                                      unfold Hid cmpK
                                                      rw [if_pos ⟨hvalA, hvalB⟩]
                                                    have HS9 : Hid (r = sgn (x - y)) := hr9
                                                    clear hr9
                                                    have KS : Hid (∀ w', Below XDdw.heap.size XDdw w' → w'.cell? ⟨W1.heap.size, 0, none⟩ = some (.bool GA) ∧ w'.cell? ⟨W1.heap.size, 1, none⟩ = some (.slice aA zA.length cA) ∧ w'.cell? ⟨(W1.heap.size + 1), 0, none⟩ = some (.bool GB) ∧ w'.cell? ⟨(W1.heap.size + 1), 1, none⟩ = some (.slice aB zB.length cB) ∧ Below XDdw.heap.size XDdw w') := by
                                                      intro w' hw
                                                      exact ⟨(XA.out.later hw).q0, (XA.out.later hw).q1, (XB.out.later hw).q0, (XB.out.later hw).q1, hw⟩
                                                    go_cut [38, 39] from 40 to 276 (fun s1 s2 wx => s1 = .int .i64 r ∧ s2 = .int .i64 0 ∧ Hid (Below XDdw.heap.size XDdw wx))
                                                    case first =>
                                                      as_aux_lemma =>
                                                        go_region_held3 (fun w' => w'.cell? ⟨W1.heap.size, 0, none⟩ = some (.bool GA) ∧ w'.cell? ⟨W1.heap.size, 1, none⟩ = some (.slice aA zA.length cA) ∧ w'.cell? ⟨(W1.heap.size + 1), 0, none⟩ = some (.bool GB) ∧ w'.cell? ⟨(W1.heap.size + 1), 1, none⟩ = some (.slice aB zB.length cB) ∧ Below XDdw.heap.size XDdw w')
                                                          (first | exact KS.out _ (Below.refl _ _).drew | exact KS.out _ (by assumption) | exact KS.out _ (Below.alloc (by assumption) (Below.size (by assumption)) _) | exact KS.out _ (Below.alloc (held_last (by assumption)) (Below.size (held_last (by assumption))) _) | exact KS.out _ (Below.setCell (Below.setCell (by assumption) (by first | (simp; done) | (simp; omega)) _) (by first | (simp; done) | (simp; omega)) _))
                                                          (first
                                                            | (go_at_call_of 18 aA; refine (copy_any GA aA cA zA _ (by omega) hnilA hfitA (XA.out.later (held_last (by assumption))).row).mono ?_; rintro e u0 ⟨p0, q0, rfl, hc0, hm0, hn0, hr0, hb0⟩; have hB0 : Below XDdw.heap.size XDdw u0 := Below.trans (held_last (by assumption)) (Below.mono hb0 (Below.size (held_last (by assumption)))); have hs0 := hB0.size)
                                                            | (go_at_call_of 18 aB; refine (copy_any GB aB cB zB _ (by omega) hnilB hfitB (XB.out.later (held_last (by assumption))).row).mono ?_; rintro e u1 ⟨p1, q1, rfl, hc1, hm1, hn1, hr1, hb1⟩; have hB1 : Below XDdw.heap.size XDdw u1 := Below.trans (held_last (by assumption)) (Below.mono hb1 (Below.size (held_last (by assumption)))); have hs1 := hB1.size; have hq0_1 : RowAt .u32 u1 p0 zA := hr0.row.later hb1)
                                                            | (go_at_call 29; refine (cmpBI_any GA GB p0 p1 q0 q1 zA zB _ (by omega) (by omega) hq0_1 hr1.row huA huB).mono ?_; rintro e w9 ⟨rfl, hb9⟩; (rw [HCR.out, HCK.out]); have hB9 : Below XDdw.heap.size XDdw w9 := Below.trans (held_last (by assumption)) (Below.mono hb9 (Below.size (held_last (by assumption))))))
                                                        all_goals
                                                          go_wp2_with fail
                                                          go_meet
                                                          case rel =>
                                                            exact ⟨rfl, rfl, hB9⟩
                                                    case rest =>
                                                      as_aux_lemma =>
                                                        obtain ⟨rfl, rfl, HBX⟩ := hcut
                                                        have XD : Hid (BigIn TDd GDd aDd cDd zDd wc) := XDd.out.later HBX.out
                                                        have HBn : Hid (Below w.heap.size w wc) := HB.out.trans (HBX.out.mono HB.out.size)
                                                        have s0 := XD.out.q0
                                                        have s1 := XD.out.q1
                                                        rcases b1_sign BDd.out with ⟨h1, _, h3⟩ | ⟨h1, h2, h3⟩ | ⟨h1, h2, h3⟩
                                                        · have hr : r = 0 := HS9.out.trans h3
                                                          subst hr
                                                          rw [h1] at s1
                                                          go_wp2
                                                          go_ret
                                                          exact ⟨rfl, HBn.out⟩
                                                        · have hr : r = -1 := HS9.out.trans h3
                                                          subst hr
                                                          rw [h2] at s0
                                                          have hne : ¬ (zDd.length : Int) = 0 := by omega
                                                          go_wp2
                                                          go_ret
                                                          exact ⟨rfl, HBn.out⟩
                                                        · have hr : r = 1 := HS9.out.trans h3
                                                          subst hr
                                                          rw [h2] at s0
                                                          have hne : ¬ (zDd.length : Int) = 0 := by omega
                                                          go_wp2
                                                          go_ret
                                                          exact ⟨rfl, HBn.out⟩
                  · have hK' : (KQ != 0) = true := by rw [bne_iff_ne]; exact hKQ
                    rw [hX0] at HB
                    go_wp2
                    go_ret
                    exact ⟨rfl, HB.out⟩
                · have hK' : (KO != 0) = true := by rw [bne_iff_ne]; exact hKO
                  rw [hX0] at HB
                  go_wp2
                  go_ret
                  exact ⟨rfl, HB.out⟩
              · have hK' : (KN != 0) = true := by rw [bne_iff_ne]; exact hKN
                rw [hX0] at HB
                go_wp2
                go_ret
                exact ⟨rfl, HB.out⟩
            · have hK' : (KM != 0) = true := by rw [bne_iff_ne]; exact hKM
              rw [hX0] at HB
              go_wp2
              go_ret
              exact ⟨rfl, HB.out⟩
          · have hK' : (KW != 0) = true := by rw [bne_iff_ne]; exact hKW
            rw [hX0] at HB
            go_wp2
            go_ret
            exact ⟨rfl, HB.out⟩
        · have hK' : (KP != 0) = true := by rw [bne_iff_ne]; exact hKP
          go_wp2
          go_ret
          exact ⟨rfl, HB.out⟩

theorem lawBig_any (a a' : Option Addr) (c c' : Nat) (bs cs : List Int) (w : World) (hcb : bs.length ≤ c) (hcm : c ≤ maxLen) (hnil : Nil0 a c) (hr : RowAt .u8 w a bs) (hb : Dig 256 bs) (hcb' : cs.length ≤ c') (hcm' : c' ≤ maxLen) (hnil' : Nil0 a' c') (hr' : RowAt .u8 w a' cs) (hb' : Dig 256 cs) :
    Calls Try.prog 7 #[.slice a bs.length c, .slice a' cs.length c'] w fun e w' => e = .returned (.bool true) ∧ Below w.heap.size w w' := by
  by_cases h : (1048576 : Int) < bs.length ∨ (1048576 : Int) < cs.length
  · exact lawBig_far a a' c c' bs cs w (by omega) (by omega) h
  · exact lawBig_near a a' c c' bs cs w hcb hcm hnil hr hb hcb' hcm' hnil' hr' hb' (by omega) (by omega)

end Go.Proofs.Ytlbegmepmeimkab
