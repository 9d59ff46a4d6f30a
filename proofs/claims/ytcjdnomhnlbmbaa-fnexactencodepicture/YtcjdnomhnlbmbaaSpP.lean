/-
  What a picture must be to be valid, its bytes, and the model's l6validPicture.
-/
import Derived.Test.YtcjdnomhnlbmbaaPcP
import Derived.Test.YtcjdnomhnlbmbaaSpF
namespace Go.Proofs.Ytcjdnomhnlbmbaa
open Go.RowKit

def idOK (g : Nat → Int) (i : Nat) : Bool := decide (-1 ≤ g i) && decide (g i < 40)
def validPc (n1 n3 : Nat) (g : Nat → Int) (L : Int) : Bool :=
  decide (n1 ≤ 40) && decide (0 ≤ L) && decide (L ≤ 4) && decide ((n3 : Int) = n1 * L) && (List.range n1).all (idOK g)

/-- A box that holds a picture. -/
structure LwP (w : World) (a1 a3 : Option Addr) (n1 n3 c1 c3 : Nat) (L : Int) (g : Nat → Int) (h : Nat → Bool) (W : World) : Prop where
  bx : BxS W w.heap.size (.slice a1 n1 c1) (.int .i64 L) (.slice a3 n3 c3)
  pc : PcAt W a1 a3 n1 n3 g h
  bel : Below w.heap.size w W
theorem LwP.later {w W W' : World} {a1 a3 : Option Addr} {n1 n3 c1 c3 : Nat} {L : Int} {g : Nat → Int} {h : Nat → Bool} (p : LwP w a1 a3 n1 n3 c1 c3 L g h W) (hb : Below W.heap.size W W') : LwP w a1 a3 n1 n3 c1 c3 L g h W' :=
  ⟨p.bx.later hb, p.pc.later hb, p.bel.trans (hb.mono p.bel.size)⟩
theorem LwP.start {w : World} {a1 a3 : Option Addr} {n1 n3 c1 c3 : Nat} {L : Int} {g : Nat → Int} {h : Nat → Bool} (hs : PcAt w a1 a3 n1 n3 g h) (t : TypeId) : LwP w a1 a3 n1 n3 c1 c3 L g h (w.alloc (.cells #[.slice a1 n1 c1, .int .i64 L, .slice a3 n3 c3] t)) :=
  ⟨BxS.new _ _ _ _ _, hs.later (bel0 _ _), bel0 _ _⟩
theorem LwP.within {w W W' : World} {a1 a3 : Option Addr} {n1 n3 c1 c3 lo hi : Nat} {L : Int} {g : Nat → Int} {h : Nat → Bool} (p : LwP w a1 a3 n1 n3 c1 c3 L g h W) (hs : PcAt w a1 a3 n1 n3 g h) (hw : Within lo hi W W') (hl : w.heap.size < lo) : LwP w a1 a3 n1 n3 c1 c3 L g h W' := by
  have hb : Below w.heap.size w W' := p.bel.trans (hw.below.mono (by omega))
  exact ⟨⟨by rw [hw.size]; exact p.bx.lt, (hw.cell (p := ⟨w.heap.size, 0, none⟩) (.inl hl)).trans p.bx.q0, (hw.cell (p := ⟨w.heap.size, 1, none⟩) (.inl hl)).trans p.bx.q1, (hw.cell (p := ⟨w.heap.size, 2, none⟩) (.inl hl)).trans p.bx.q2⟩, hs.later hb, hb⟩

set_option maxRecDepth 100000 in
set_option maxHeartbeats 4000000 in
theorem validP_any (a1 a3 : Option Addr) (n1 n3 c1 c3 : Nat) (L : Int) (g : Nat → Int) (h : Nat → Bool) (w : World) (hn : n1 + n3 ≤ 1048576) (hs : PcAt w a1 a3 n1 n3 g h) :
    Calls Try.prog 33 #[.agg #[.slice a1 n1 c1, .int .i64 L, .slice a3 n3 c3]] w fun e w' => e = .returned (.bool (validPc n1 n3 g L)) ∧ Below w.heap.size w w' := by
  have HSC : Hid (PcAt w a1 a3 n1 n3 g h) := hs
  clear hs
  by_cases h1 : n1 ≤ 40
  · have h1' : ¬ (40 : Int) < n1 := by omega
    by_cases h2 : 0 ≤ L
    · have h2' : ¬ L < 0 := by omega
      by_cases h3 : L ≤ 4
      · have h3' : ¬ 4 < L := by omega
        have hmb : (n1 : Int) * L ≤ 160 := by
          have e1 : (n1 : Int) * L ≤ 40 * L := Int.mul_le_mul_of_nonneg_right (by omega) h2
          omega
        have hmc : 0 ≤ (n1 : Int) * L := Int.mul_nonneg (by omega) h2
        obtain ⟨m, hm⟩ : ∃ m, m = (n1 : Int) * L := ⟨_, rfl⟩
        by_cases h4 : (n3 : Int) = n1 * L
        · have h4' : ((n3 : Int) != n1 * L) = false := by simp [h4]
          have HV : Hid (∀ b, (List.range n1).all (idOK g) = b → validPc n1 n3 g L = b) := by
            intro b hb
            unfold validPc
            rw [decide_eq_true h1, decide_eq_true h2, decide_eq_true h3, decide_eq_true h4, hb]
            rfl
          rw [← hm] at hmb hmc h4'
          have hm' := hm.symm
          clear h4 hm
          go_enter Try.func33, Try.ntmps33
          go_wp2
          go_loopw [3] (fun si wr => ∃ (i : Nat), i ≤ n1 ∧ si = .int .i64 i ∧ Hid ((List.range i).all (idOK g) = true) ∧ Hid (LwP w a1 a3 n1 n3 c1 c3 L g h wr)) (fun si _ => n1 - (intOf si).toNat)
          case atStart => exact ⟨0, Nat.zero_le _, rfl, rfl, LwP.start HSC.out _⟩
          case round =>
            obtain ⟨i, hi, rfl, hA, hF⟩ := hrel
            have q0 := hF.out.bx.q0
            have q1 := hF.out.bx.q1
            have q2 := hF.out.bx.q2
            by_cases hlt : i < n1
            · obtain ⟨b, off, rfl, hbl, hc⟩ := hF.out.pc.r1.resolve_left (by omega)
              have g1 : wr.cell? ⟨b, off + i, none⟩ = some (.int .i64 (g i)) := hc i hlt
              have HO : Hid (idOK g i = (decide (-1 ≤ g i) && decide (g i < 40))) := rfl
              obtain ⟨x, hx⟩ : ∃ x, x = g i := ⟨_, rfl⟩
              rw [← hx] at g1 HO
              have hib : (i : Int) < n1 := by omega
              clear hc hx
              by_cases x1 : x < -1
              · have HF : Hid (validPc n1 n3 g L = false) := HV.out _ (all_range_false hlt (by rw [HO.out]; simp; omega))
                go_wp2
                go_ret
                exact ⟨by rw [HF.out]; rfl, hF.out.bel⟩
              · by_cases x2 : 40 ≤ x
                · have HF : Hid (validPc n1 n3 g L = false) := HV.out _ (all_range_false hlt (by rw [HO.out]; simp; omega))
                  go_wp2
                  go_ret
                  exact ⟨by rw [HF.out]; rfl, hF.out.bel⟩
                · have HOK : Hid (idOK g i = true) := by unfold Hid; rw [HO.out]; simp; omega
                  go_wp2
                  go_roundw
                  case rel => exact ⟨i + 1, by omega, by go_num, by unfold Hid; rw [all_range_succ, hA.out, HOK.out]; rfl, hF⟩
                  case measure => simp [intOf]; omega
            · have hie : n1 = i := by omega
              subst hie
              have HF : Hid (validPc n1 n3 g L = true) := HV.out _ hA.out
              go_wp2
              go_ret
              exact ⟨by rw [HF.out]; rfl, hF.out.bel⟩
        · have h4' : ((n3 : Int) != n1 * L) = true := by simp [h4]
          have HV : Hid (validPc n1 n3 g L = false) := by unfold Hid validPc; rw [decide_eq_false h4]; simp
          rw [← hm] at hmb hmc h4'
          have hm' := hm.symm
          rw [HV.out]
          clear h4 hm
          go_enter Try.func33, Try.ntmps33
          go_wp2
          go_ret
          exact ⟨rfl, bel0 _ _⟩
      · have h3' : 4 < L := by omega
        have HV : Hid (validPc n1 n3 g L = false) := by unfold Hid validPc; rw [decide_eq_false h3]; simp
        rw [HV.out]
        go_enter Try.func33, Try.ntmps33
        go_wp2
        go_ret
        exact ⟨rfl, bel0 _ _⟩
    · have h2' : L < 0 := by omega
      have HV : Hid (validPc n1 n3 g L = false) := by unfold Hid validPc; rw [decide_eq_false h2]; simp
      rw [HV.out]
      go_enter Try.func33, Try.ntmps33
      go_wp2
      go_ret
      exact ⟨rfl, bel0 _ _⟩
  · have h1' : (40 : Int) < n1 := by omega
    have HV : Hid (validPc n1 n3 g L = false) := by unfold Hid validPc; rw [decide_eq_false h1]; simp
    rw [HV.out]
    go_enter Try.func33, Try.ntmps33
    go_wp2
    go_ret
    exact ⟨rfl, bel0 _ _⟩

end Go.Proofs.Ytcjdnomhnlbmbaa
