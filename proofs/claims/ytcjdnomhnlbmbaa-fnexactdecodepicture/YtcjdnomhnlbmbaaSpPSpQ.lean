/-
  What a picture must be to be valid, its bytes, and the model's l6validPicture.
-/
import Derived.Test.YtcjdnomhnlbmbaaPcPBytes
import Derived.Test.YtcjdnomhnlbmbaaSpF
namespace Go.Proofs.Ytcjdnomhnlbmbaa
open Go.RowKit

def idOK (g : Nat → Int) (i : Nat) : Bool := decide (-1 ≤ g i) && decide (g i < 40)
def validPc (n1 n3 : Nat) (g : Nat → Int) (L : Int) : Bool :=
  decide (n1 ≤ 40) && decide (0 ≤ L) && decide (L ≤ 4) && decide ((n3 : Int) = n1 * L) && (List.range n1).all (idOK g)

/-- A box that holds a picture. -/
structure LwP (w : World) (a1 a3 : Option Addr) (n1 n3 c1 c3 : Nat) (L : Int) (g : Nat → Int) (h : Nat → Bool) (W : World) : Prop where
  bx : BxS W w.heap.size (.slice a1 n1 c1) (.int .i64 L) (.slice a3 n3 c3)
  pc : PcAt W a1 a3 n1 n3 g h
  bel : Below w.heap.size w W
theorem LwP.later {w W W' : World} {a1 a3 : Option Addr} {n1 n3 c1 c3 : Nat} {L : Int} {g : Nat → Int} {h : Nat → Bool} (p : LwP w a1 a3 n1 n3 c1 c3 L g h W) (hb : Below W.heap.size W W') : LwP w a1 a3 n1 n3 c1 c3 L g h W' :=
  ⟨p.bx.later hb, p.pc.later hb, p.bel.trans (hb.mono p.bel.size)⟩
theorem LwP.start {w : World} {a1 a3 : Option Addr} {n1 n3 c1 c3 : Nat} {L : Int} {g : Nat → Int} {h : Nat → Bool} (hs : PcAt w a1 a3 n1 n3 g h) (t : TypeId) : LwP w a1 a3 n1 n3 c1 c3 L g h (w.alloc (.cells #[.slice a1 n1 c1, .int .i64 L, .slice a3 n3 c3] t)) :=
  ⟨BxS.new _ _ _ _ _, hs.later (bel0 _ _), bel0 _ _⟩
theorem LwP.within {w W W' : World} {a1 a3 : Option Addr} {n1 n3 c1 c3 lo hi : Nat} {L : Int} {g : Nat → Int} {h : Nat → Bool} (p : LwP w a1 a3 n1 n3 c1 c3 L g h W) (hs : PcAt w a1 a3 n1 n3 g h) (hw : Within lo hi W W') (hl : w.heap.size < lo) : LwP w a1 a3 n1 n3 c1 c3 L g h W' := by
  have hb : Below w.heap.size w W' := p.bel.trans (hw.below.mono (by omega))
  exact ⟨⟨by rw [hw.size]; exact p.bx.lt, (hw.cell (p := ⟨w.heap.size, 0, none⟩) (.inl hl)).trans p.bx.q0, (hw.cell (p := ⟨w.heap.size, 1, none⟩) (.inl hl)).trans p.bx.q1, (hw.cell (p := ⟨w.heap.size, 2, none⟩) (.inl hl)).trans p.bx.q2⟩, hs.later hb, hb⟩

set_option maxRecDepth 100000 in
set_option maxHeartbeats 4000000 in
theorem validP_any (a1 a3 : Option Addr) (n1 n3 c1 c3 : Nat) (L : Int) (g : Nat → Int) (h : Nat → Bool) (w : World) (hn : n1 + n3 ≤ 1048576) (hs : PcAt w a1 a3 n1 n3 g h) :
    Calls Try.prog 33 #[.agg #[.slice a1 n1 c1, .int .i64 L, .slice a3 n3 c3]] w fun e w' => e = .returned (.bool (validPc n1 n3 g L)) ∧ Below w.heap.size w w' := by
  have HSC : Hid (PcAt w a1 a3 n1 n3 g h) := hs
  clear hs
  by_cases h1 : n1 ≤ 40
  · have h1' : ¬ (40 : Int) < n1 := by omega
    by_cases h2 : 0 ≤ L
    · have h2' : ¬ L < 0 := by omega
      by_cases h3 : L ≤ 4
      · have h3' : ¬ 4 < L := by omega
        have hmb : (n1 : Int) * L ≤ 160 := by
          have e1 : (n1 : Int) * L ≤ 40 * L := Int.mul_le_mul_of_nonneg_right (by omega) h2
          omega
        have hmc : 0 ≤ (n1 : Int) * L := Int.mul_nonneg (by omega) h2
        obtain ⟨m, hm⟩ : ∃ m, m = (n1 : Int) * L := ⟨_, rfl⟩
        by_cases h4 : (n3 : Int) = n1 * L
        · have h4' : ((n3 : Int) != n1 * L) = false := by simp [h4]
          have HV : Hid (∀ b, (List.range n1).all (idOK g) = b → validPc n1 n3 g L = b) := by
            intro b hb
            unfold validPc
            rw [decide_eq_true h1, decide_eq_true h2, decide_eq_true h3, decide_eq_true h4, hb]
            rfl
          rw [← hm] at hmb hmc h4'
          have hm' := hm.symm
          clear h4 hm
          go_enter Try.func33, Try.ntmps33
          go_wp2
          go_loopw [3] (fun si wr => ∃ (i : Nat), i ≤ n1 ∧ si = .int .i64 i ∧ Hid ((List.range i).all (idOK g) = true) ∧ Hid (LwP w a1 a3 n1 n3 c1 c3 L g h wr)) (fun si _ => n1 - (intOf si).toNat)
          case atStart => exact ⟨0, Nat.zero_le _, rfl, rfl, LwP.start HSC.out _⟩
          case round =>
            obtain ⟨i, hi, rfl, hA, hF⟩ := hrel
            have q0 := hF.out.bx.q0
            have q1 := hF.out.bx.q1
            have q2 := hF.out.bx.q2
            by_cases hlt : i < n1
            · obtain ⟨b, off, rfl, hbl, hc⟩ := hF.out.pc.r1.resolve_left (by omega)
              have g1 : wr.cell? ⟨b, off + i, none⟩ = some (.int .i64 (g i)) := hc i hlt
              have HO : Hid (idOK g i = (decide (-1 ≤ g i) && decide (g i < 40))) := rfl
              obtain ⟨x, hx⟩ : ∃ x, x = g i := ⟨_, rfl⟩
              rw [← hx] at g1 HO
              have hib : (i : Int) < n1 := by omega
              clear hc hx
              by_cases x1 : x < -1
              · have HF : Hid (validPc n1 n3 g L = false) := HV.out _ (all_range_false hlt (by rw [HO.out]; simp; omega))
                go_wp2
                go_ret
                exact ⟨by rw [HF.out]; rfl, hF.out.bel⟩
              · by_cases x2 : 40 ≤ x
                · have HF : Hid (validPc n1 n3 g L = false) := HV.out _ (all_range_false hlt (by rw [HO.out]; simp; omega))
                  go_wp2
                  go_ret
                  exact ⟨by rw [HF.out]; rfl, hF.out.bel⟩
                · have HOK : Hid (idOK g i = true) := by unfold Hid; rw [HO.out]; simp; omega
                  go_wp2
                  go_roundw
                  case rel => exact ⟨i + 1, by omega, by go_num, by unfold Hid; rw [all_range_succ, hA.out, HOK.out]; rfl, hF⟩
                  case measure => simp [intOf]; omega
            · have hie : n1 = i := by omega
              subst hie
              have HF : Hid (validPc n1 n3 g L = true) := HV.out _ hA.out
              go_wp2
              go_ret
              exact ⟨by rw [HF.out]; rfl, hF.out.bel⟩
        · have h4' : ((n3 : Int) != n1 * L) = true := by simp [h4]
          have HV : Hid (validPc n1 n3 g L = false) := by unfold Hid validPc; rw [decide_eq_false h4]; simp
          rw [← hm] at hmb hmc h4'
          have hm' := hm.symm
          rw [HV.out]
          clear h4 hm
          go_enter Try.func33, Try.ntmps33
          go_wp2
          go_ret
          exact ⟨rfl, bel0 _ _⟩
      · have h3' : 4 < L := by omega
        have HV : Hid (validPc n1 n3 g L = false) := by unfold Hid validPc; rw [decide_eq_false h3]; simp
        rw [HV.out]
        go_enter Try.func33, Try.ntmps33
        go_wp2
        go_ret
        exact ⟨rfl, bel0 _ _⟩
    · have h2' : L < 0 := by omega
      have HV : Hid (validPc n1 n3 g L = false) := by unfold Hid validPc; rw [decide_eq_false h2]; simp
      rw [HV.out]
      go_enter Try.func33, Try.ntmps33
      go_wp2
      go_ret
      exact ⟨rfl, bel0 _ _⟩
  · have h1' : (40 : Int) < n1 := by omega
    have HV : Hid (validPc n1 n3 g L = false) := by unfold Hid validPc; rw [decide_eq_false h1]; simp
    rw [HV.out]
    go_enter Try.func33, Try.ntmps33
    go_wp2
    go_ret
    exact ⟨rfl, bel0 _ _⟩

end Go.Proofs.Ytcjdnomhnlbmbaa

/-
  The model's l6picture and EncodePicture.
-/
namespace Go.Proofs.Ytcjdnomhnlbmbaa
open Go.RowKit

def idB (z : Int) : List Int := if z < 0 then [255, 255, 255, 255] else leB z 4
def idsB (g : Nat → Int) : Nat → List Int
  | 0 => []
  | i + 1 => idsB g i ++ idB (g i)
def bitF (n3 : Nat) (h : Nat → Bool) (j : Nat) : Int := if j < n3 ∧ h j = true then 1 else 0
/-- The bits i + 7, i + 6, .. : t of them. -/
def bitsF (n3 : Nat) (h : Nat → Bool) (i : Nat) : Nat → Int
  | 0 => 0
  | t + 1 => bitsF n3 h i t * 2 + bitF n3 h (i + (7 - t))
def litB (n3 : Nat) (h : Nat → Bool) : Nat → List Int
  | 0 => []
  | m + 1 => litB n3 h m ++ [bitsF n3 h (8 * m) 8]
def headP (n1 : Nat) (L : Int) : List Int := [80, 73, 67, 84] ++ leB n1 2 ++ leB L 1
/-- A picture as bytes. -/
def encPc (n1 n3 : Nat) (g : Nat → Int) (L : Int) (h : Nat → Bool) : List Int := headP n1 L ++ idsB g n1 ++ litB n3 h ((n3 + 7) / 8)
/-- What EncodePicture answers. -/
def encPV (n1 n3 : Nat) (g : Nat → Int) (L : Int) (h : Nat → Bool) : List Int := if validPc n1 n3 g L = true then encPc n1 n3 g L h else []
theorem encPV_ok {n1 n3 : Nat} {g : Nat → Int} {L : Int} {h : Nat → Bool} (hv : validPc n1 n3 g L = true) : encPV n1 n3 g L h = encPc n1 n3 g L h := by unfold encPV; rw [if_pos hv]
theorem encPV_bad {n1 n3 : Nat} {g : Nat → Int} {L : Int} {h : Nat → Bool} (hv : validPc n1 n3 g L = false) : encPV n1 n3 g L h = [] := by unfold encPV; rw [if_neg (by rw [hv]; decide)]

theorem idB_length (z : Int) : (idB z).length = 4 := by unfold idB; split <;> simp [leB_length]
theorem idsB_length (g : Nat → Int) : ∀ i, (idsB g i).length = i * 4
  | 0 => rfl
  | i + 1 => by rw [idsB, List.length_append, idsB_length g i, idB_length]; omega
theorem litB_length (n3 : Nat) (h : Nat → Bool) : ∀ m, (litB n3 h m).length = m
  | 0 => rfl
  | m + 1 => by rw [litB, List.length_append, litB_length n3 h m]; rfl
theorem headP_length (n1 : Nat) (L : Int) : (headP n1 L).length = 7 := by simp [headP, leB_length]
theorem bitF_range (n3 : Nat) (h : Nat → Bool) (j : Nat) : 0 ≤ bitF n3 h j ∧ bitF n3 h j ≤ 1 := by unfold bitF; split <;> decide
theorem bitsF_bounds (n3 : Nat) (h : Nat → Bool) (i : Nat) : ∀ t, 0 ≤ bitsF n3 h i t ∧ bitsF n3 h i t < 2 ^ t
  | 0 => by simp [bitsF]
  | t + 1 => by
    have h1 := bitsF_bounds n3 h i t
    have h2 := bitF_range n3 h (i + (7 - t))
    simp only [bitsF, Int.pow_succ]
    omega
theorem bitsF_small (n3 : Nat) (h : Nat → Bool) (i t : Nat) (ht : t ≤ 8) : 0 ≤ bitsF n3 h i t ∧ bitsF n3 h i t < 256 := by
  have h1 := bitsF_bounds n3 h i t
  refine ⟨h1.1, Int.lt_of_lt_of_le h1.2 ?_⟩
  match t, ht with
  | 0, _ => decide
  | 1, _ => decide
  | 2, _ => decide
  | 3, _ => decide
  | 4, _ => decide
  | 5, _ => decide
  | 6, _ => decide
  | 7, _ => decide
  | 8, _ => decide

theorem row_pict (W : World) (t : TypeId) (fr : Nat × Nat) {X : Nat} (hX : X = W.heap.size) : RowAt .u8 (W.alloc (.cells #[.int .u8 80, .int .u8 73, .int .u8 67, .int .u8 84] t fr)) (some ⟨X, 0, none⟩) [80, 73, 67, 84] := by
  refine .inr ⟨X, 0, rfl, by simp; omega, fun j hj => ?_⟩
  rw [Nat.zero_add, Go.Joins.cell_alloc_mark_at _ _ _ _ _ _ hX]
  match j, hj with
  | 0, _ => rfl
  | 1, _ => rfl
  | 2, _ => rfl
  | 3, _ => rfl
theorem row_255 (W : World) (t : TypeId) (fr : Nat × Nat) {X : Nat} (hX : X = W.heap.size) : RowAt .u8 (W.alloc (.cells #[.int .u8 255, .int .u8 255, .int .u8 255, .int .u8 255] t fr)) (some ⟨X, 0, none⟩) [255, 255, 255, 255] := by
  refine .inr ⟨X, 0, rfl, by simp; omega, fun j hj => ?_⟩
  rw [Nat.zero_add, Go.Joins.cell_alloc_mark_at _ _ _ _ _ _ hX]
  match j, hj with
  | 0, _ => rfl
  | 1, _ => rfl
  | 2, _ => rfl
  | 3, _ => rfl

set_option maxRecDepth 100000 in
set_option maxHeartbeats 16000000 in
theorem picture6_any (a1 a3 : Option Addr) (n1 n3 c1 c3 : Nat) (L : Int) (g : Nat → Int) (h : Nat → Bool) (w : World) (h1 : n1 ≤ 10000) (h3 : n3 ≤ 100000) (hL0 : 0 ≤ L) (hL1 : L ≤ 255) (hg : ∀ i, i < n1 → g i ≤ 4294967295) (hs : PcAt w a1 a3 n1 n3 g h) :
    Calls Try.prog 34 #[.agg #[.slice a1 n1 c1, .int .i64 L, .slice a3 n3 c3]] w fun e w' => NewY w (encPc n1 n3 g L h) e w' := by
  have HG : Hid (∀ i, i < n1 → g i ≤ 4294967295) := hg
  obtain ⟨W0, hW0⟩ : ∃ W0, W0 = w.alloc (.cells #[.slice a1 n1 c1, .int .i64 L, .slice a3 n3 c3] 26) := ⟨_, rfl⟩
  have L0 : Hid (LwP w a1 a3 n1 n3 c1 c3 L g h W0) := by unfold Hid; rw [hW0]; exact LwP.start hs _
  have S0 : W0.heap.size = w.heap.size + 1 := by rw [hW0]; simp
  have R0 : Hid (∀ t fr, RowAt .u8 (W0.alloc (.cells #[.int .u8 80, .int .u8 73, .int .u8 67, .int .u8 84] t fr)) (some ⟨w.heap.size + 1, 0, none⟩) [80, 73, 67, 84]) := fun t fr => row_pict W0 t fr S0.symm
  have HQ : Hid (∀ w', Below (w.heap.size + 1) W0 w' → w'.cell? ⟨w.heap.size, 0, none⟩ = some (.slice a1 n1 c1) ∧ w'.cell? ⟨w.heap.size, 1, none⟩ = some (.int .i64 L) ∧ w'.cell? ⟨w.heap.size, 2, none⟩ = some (.slice a3 n3 c3)) := by
    intro w' hb
    exact ⟨(hb.cell (p := ⟨w.heap.size, 0, none⟩) (by simp)).trans L0.out.bx.q0, (hb.cell (p := ⟨w.heap.size, 1, none⟩) (by simp)).trans L0.out.bx.q1, (hb.cell (p := ⟨w.heap.size, 2, none⟩) (by simp)).trans L0.out.bx.q2⟩
  have hcv := Go.Joins.run_convert_bytes_const_at (P := Try.prog) W0 22 5 #[.int .u8 80, .int .u8 73, .int .u8 67, .int .u8 84] 4 4 (w.heap.size + 1) S0.symm Try.underlying22 Try.underlying5
  rw [hW0] at hcv
  clear hs hg
  go_enter Try.func34, Try.ntmps34
  go_wp2_with fail
  rw [← hW0]
  refine (little_any n1 2 _ (by omega) (by omega) (by decide)).mono ?_
  rintro e w1 ⟨v1, rfl, ho1, hb1⟩
  obtain ⟨b1, o1, k1, rfl, hr1⟩ := ho1.spot (leB_ne _ _ (by decide))
  have G1 : Hid (RowAt .u8 w1 (some ⟨w.heap.size + 1, 0, none⟩) [80, 73, 67, 84]) := (R0.out _ _).later hb1
  have B1 : Hid (Below (w.heap.size + 1) W0 w1) := ((Below.refl _ _).alloc (by omega) _).trans (hb1.mono (by simp <;> omega))
  have Z1 : w.heap.size + 1 ≤ w1.heap.size := by have := B1.out.size; omega
  have R1 : Hid (RowAt .u8 w1 (some ⟨b1, o1, none⟩) (leB n1 2)) := hr1.row
  clear ho1 hb1 hr1 R0 hW0 hcv
  go_wp2_with (at_builtin; refine appF rfl (.tmp 10) (.tmp 14) rfl ⟨w.heap.size + 1, 0, none⟩ 4 [80, 73, 67, 84] ⟨b1, o1, none⟩ _ k1 (leB n1 2) rfl rfl G1.out (by decide) rfl rfl (by rw [leB_length]; omega) (by decide) (leB_ne _ _ (by decide)) R1.out ?_; intro e2 m2 k2 w2 ho2 hb2; obtain ⟨p0, p1, p2⟩ := HQ.out w2 (B1.out.trans (hb2.mono Z1)))
  have E2 : Hid (EncS W0 (w.heap.size + 1) (.slice e2 m2 k2) ([80, 73, 67, 84] ++ leB n1 2) w2) := ⟨ho2.up Z1, B1.out.trans (hb2.mono Z1), Nat.le_trans Z1 hb2.size⟩
  clear ho2 hb2 G1 B1 R1 Z1
  refine (little_any L 1 _ hL0 (by omega) (by decide)).mono ?_
  rintro e w3 ⟨v3, rfl, ho, hb⟩
  obtain ⟨b3, o3, k3, rfl, hr⟩ := ho.spot (leB_ne _ _ (by decide))
  have E3 : Hid (EncS W0 (w.heap.size + 1) (.slice e2 m2 k2) ([80, 73, 67, 84] ++ leB n1 2) w3) := E2.out.call hb
  have R3 : Hid (RowAt .u8 w3 (some ⟨b3, o3, none⟩) (leB L 1)) := hr.row
  clear ho hb hr E2 p0 p1 p2
  go_wp2_with (at_builtin; refine appB rfl (.tmp 16) (.tmp 19) rfl (w.heap.size + 1) _ ([80, 73, 67, 84] ++ leB n1 2) ⟨b3, o3, none⟩ _ k3 (leB L 1) rfl E3.out.own rfl rfl (by rw [leB_length]; omega) (by simp [leB_length]) (leB_ne _ _ (by decide)) R3.out E3.out.le ?_; intro e4 m4 k4 w4 ho4 hb4; obtain ⟨p0, p1, p2⟩ := HQ.out w4 (E3.out.bel.trans hb4))
  have EH : Hid (EncS W0 (w.heap.size + 1) (.slice e4 m4 k4) (headP n1 L) w4) := E3.out.app ho4 hb4
  clear ho4 hb4 E3 R3 p0 p1 p2
  go_loopw [3, 4] (fun so si wr => ∃ (i : Nat), i ≤ n1 ∧ si = .int .i64 i ∧ Hid (EncS W0 (w.heap.size + 1) so (headP n1 L ++ idsB g i) wr)) (fun _ si _ => n1 - (intOf si).toNat)
  case atStart => exact ⟨0, Nat.zero_le _, rfl, EncS.re EH.out (by simp [idsB])⟩
  case round =>
    obtain ⟨i, hi, rfl, hE⟩ := hrel
    obtain ⟨p0, p1, p2⟩ := HQ.out wr hE.out.bel
    by_cases hlt : i < n1
    · obtain ⟨b, off, rfl, hbl, hc⟩ := L0.out.pc.r1.resolve_left (by omega)
      have HP : Hid (∀ w', Below (w.heap.size + 1) W0 w' → w'.cell? ⟨b, off + i, none⟩ = some (.int .i64 (g i))) := by
        intro w' hb
        exact (hb.cell (p := ⟨b, off + i, none⟩) (by simp; omega)).trans (hc i hlt)
      have q := HP.out wr hE.out.bel
      have hgi := HG.out i hlt
      have HI : Hid (headP n1 L ++ idsB g (i + 1) = (headP n1 L ++ idsB g i) ++ idB (g i)) := by unfold Hid; rw [idsB, List.append_assoc]
      have hyl : (headP n1 L ++ idsB g i).length ≤ 1000000 := by rw [List.length_append, headP_length, idsB_length]; omega
      obtain ⟨ys, hys⟩ : ∃ ys, ys = headP n1 L ++ idsB g i := ⟨_, rfl⟩
      rw [← hys] at hyl HI hE
      obtain ⟨x, hx⟩ : ∃ x, x = g i := ⟨_, rfl⟩
      rw [← hx] at q hgi HI HP
      have hib : (i : Int) < n1 := by omega
      clear hc hys hx
      by_cases hx0 : x < 0
      · have HID : Hid (idB x = [255, 255, 255, 255]) := by unfold Hid idB; rw [if_pos hx0]
        have ELA : Hid (∀ t, EncS W0 (w.heap.size + 1) _ ys (wr.alloc (.cells #[.int .u8 255, .int .u8 255, .int .u8 255, .int .u8 255] t))) := fun t => hE.out.call (bel0 _ _)
        have HRA : Hid (∀ t, RowAt .u8 (wr.alloc (.cells #[.int .u8 255, .int .u8 255, .int .u8 255, .int .u8 255] t)) (some ⟨wr.heap.size, 0, none⟩) [255, 255, 255, 255]) := fun t => row_255 wr t _ rfl
        go_wp2_with (at_builtin; refine appB rfl (.tmp 34) (.tmp 35) rfl (w.heap.size + 1) _ ys ⟨wr.heap.size, 0, none⟩ 4 4 [255, 255, 255, 255] rfl (ELA.out _).own rfl rfl (by decide) (by omega) (by decide) (HRA.out _) (ELA.out 5).le ?_; intro e5 m5 k5 w5 ho5 hb5; obtain ⟨p0, p1, p2⟩ := HQ.out w5 ((ELA.out _).bel.trans hb5))
        have E5 : Hid (EncS W0 (w.heap.size + 1) (.slice e5 m5 k5) (headP n1 L ++ idsB g (i + 1)) w5) := by unfold Hid; rw [HI.out, HID.out]; exact (ELA.out _).app ho5 hb5
        clear ho5 hb5 ELA
        go_roundw
        case rel => exact ⟨i + 1, by omega, by go_num, E5⟩
        case measure => simp [intOf]; omega
      · have HID : Hid (idB x = leB x 4) := by unfold Hid idB; rw [if_neg hx0]
        go_wp2_with fail
        refine (little_any x 4 _ (by omega) hgi (by decide)).mono ?_
        rintro e u ⟨v, rfl, ho, hb⟩
        obtain ⟨bb, oo, kk, rfl, hr⟩ := ho.spot (leB_ne _ _ (by decide))
        have F0 := hE.out.call hb
        have EC : Hid (EncS W0 (w.heap.size + 1) _ ys u) := F0
        have R : Hid (RowAt .u8 u (some ⟨bb, oo, none⟩) (leB x 4)) := hr.row
        clear ho hb hr F0 hE p0 p1 p2 q
        go_wp2_with (at_builtin; refine appB rfl (.tmp 37) (.tmp 43) rfl (w.heap.size + 1) _ ys ⟨bb, oo, none⟩ _ kk (leB x 4) rfl EC.out.own rfl rfl (by rw [leB_length]; omega) (by omega) (leB_ne _ _ (by decide)) R.out EC.out.le ?_; intro e5 m5 k5 w5 ho5 hb5)
        have E5 : Hid (EncS W0 (w.heap.size + 1) (.slice e5 m5 k5) (headP n1 L ++ idsB g (i + 1)) w5) := by unfold Hid; rw [HI.out, HID.out]; exact EC.out.app ho5 hb5
        clear ho5 hb5 EC R
        go_roundw
        case rel => exact ⟨i + 1, by omega, by go_num, E5⟩
        case measure => simp [intOf]; omega
    · have hie : n1 = i := by omega
      subst hie
      have EN : Hid (EncS W0 (w.heap.size + 1) _ (headP n1 L ++ idsB g n1) wr) := hE
      clear hE
      go_wp2
      go_loopw [3, 5] (fun so si wr => ∃ (m I : Nat), m ≤ (n3 + 7) / 8 ∧ Hid (I = 8 * m) ∧ si = .int .i64 I ∧ Hid (EncS W0 (w.heap.size + 1) so (headP n1 L ++ idsB g n1 ++ litB n3 h m) wr)) (fun _ si _ => n3 + 8 - (intOf si).toNat)
      case atStart => exact ⟨0, 0, Nat.zero_le _, rfl, rfl, EncS.re EN.out (by simp [litB])⟩
      case round =>
        obtain ⟨m, I, hm, hI, rfl, hE⟩ := hrel
        obtain ⟨p0, p1, p2⟩ := HQ.out wr hE.out.bel
        have hI8 : I ≤ 110000 := by have := hI.out; omega
        by_cases hlt : I < n3
        · have hib : (I : Int) < n3 := by omega
          go_wp2
          go_loop [6, 7] (fun sv sk => ∃ r : Nat, r ≤ 8 ∧ sk = .int .i64 ((r : Int) - 1) ∧ sv = .int .i64 (bitsF n3 h I (8 - r))) (fun _ sk => (intOf sk + 1).toNat)
          case atStart => exact ⟨8, Nat.le_refl _, by simp, by simp [bitsF]⟩
          case round =>
            obtain ⟨r, hr, hk, rfl⟩ := hrel
            rcases r with _ | s
            · subst hk
              have hb8 := bitsF_small n3 h I 8 (by decide)
              have HLT : Hid (litB n3 h (m + 1) = litB n3 h m ++ [bitsF n3 h I 8]) := by unfold Hid; rw [litB, hI.out]
              simp only [Nat.sub_zero]
              obtain ⟨v, hv⟩ : ∃ v, v = bitsF n3 h I 8 := ⟨_, rfl⟩
              rw [← hv] at hb8 HLT ⊢
              obtain ⟨v0, v1⟩ := hb8
              have hown := hE.out.own
              have hsz := hE.out.le
              have hyl : (headP n1 L ++ idsB g n1 ++ litB n3 h m).length ≤ 8388608 := by simp only [List.length_append, headP_length, idsB_length, litB_length]; omega
              clear hv
              go_wp2_with (at_builtin; refine app1 rfl (.tmp 76) (.tmp 79) 22 rfl (w.heap.size + 1) 5 Try.underlying22 infoB (by decide) _ _ rfl rfl hown hyl hsz ?_; intro e5 m5 k5 w5 ho5 hb5 hs5)
              have E5 : Hid (EncS W0 (w.heap.size + 1) (.slice e5 m5 k5) (headP n1 L ++ idsB g n1 ++ litB n3 h (m + 1)) w5) := by
                unfold Hid
                rw [HLT.out, ← List.append_assoc]
                exact hE.out.app ho5 hb5
              have HM1 : Hid (m + 1 ≤ (n3 + 7) / 8) := by have := hI.out; unfold Hid; omega
              have HI2 : Hid (I + 8 = 8 * (m + 1)) := by have := hI.out; unfold Hid; omega
              clear ho5 hb5 hown
              go_roundw
              case rel => exact ⟨m + 1, I + 8, HM1.out, HI2, by go_num, E5⟩
              case measure => simp [intOf]; omega
            · have e : (((s + 1 : Nat) : Int)) - 1 = (s : Int) := by omega
              rw [e] at hk
              subst hk
              have hbt := bitsF_small n3 h I (8 - (s + 1)) (by omega)
              have HST : Hid (bitsF n3 h I (8 - s) = bitsF n3 h I (8 - (s + 1)) * 2 + bitF n3 h (I + s)) := by
                unfold Hid
                rw [show 8 - s = (8 - (s + 1)) + 1 by omega, bitsF, show 7 - (8 - (s + 1)) = s by omega]
              obtain ⟨v, hv⟩ : ∃ v, v = bitsF n3 h I (8 - (s + 1)) := ⟨_, rfl⟩
              rw [← hv] at hbt HST ⊢
              obtain ⟨J, hJ⟩ : ∃ J, J = I + s := ⟨_, rfl⟩
              have hJ1 : (I : Int) + (s : Int) = J := by omega
              have hJ2 : J ≤ 120000 := by omega
              rw [← hJ] at HST
              obtain ⟨v0, v1⟩ := hbt
              clear hv hJ
              by_cases hj : J < n3
              · obtain ⟨b, off, rfl, hbl, hc⟩ := L0.out.pc.r3.resolve_left (by omega)
                have q : wr.cell? ⟨b, off + J, none⟩ = some (.bool (h J)) := (hE.out.bel.cell (p := ⟨b, off + J, none⟩) (by simp; omega)).trans (hc J hj)
                have hj' : (J : Int) < n3 := by omega
                clear hc
                cases hbj : h J
                · have HB : Hid (bitF n3 h J = 0) := by unfold Hid bitF; rw [if_neg (by rw [hbj]; simp)]
                  rw [hbj] at q
                  go_wp2
                  go_round
                  case rel => exact ⟨s, by omega, by go_num, by rw [HST.out, HB.out]; simp⟩
                  case measure => simp [intOf] <;> omega
                · have HB : Hid (bitF n3 h J = 1) := by unfold Hid bitF; rw [if_pos ⟨hj, hbj⟩]
                  rw [hbj] at q
                  go_wp2
                  go_round
                  case rel => exact ⟨s, by omega, by go_num, by rw [HST.out, HB.out]⟩
                  case measure => simp [intOf] <;> omega
              · have HB : Hid (bitF n3 h J = 0) := by unfold Hid bitF; rw [if_neg (fun hh => hj hh.1)]
                have hj' : ¬ (J : Int) < n3 := by omega
                go_wp2
                go_round
                case rel => exact ⟨s, by omega, by go_num, by rw [HST.out, HB.out]; simp⟩
                case measure => simp [intOf] <;> omega
        · have hib : ¬ (I : Int) < n3 := by omega
          have hmm : m = (n3 + 7) / 8 := by have := hI.out; omega
          have EN2 : Hid (EncS W0 (w.heap.size + 1) _ (encPc n1 n3 g L h) wr) := hE.out.re (by unfold encPc; rw [hmm])
          clear hE hmm
          go_wp2
          go_ret
          exact ⟨_, rfl, EN2.out.own.up (Nat.le_succ _), L0.out.bel.trans (EN2.out.bel.mono (Nat.le_succ _))⟩

set_option maxRecDepth 100000 in
set_option maxHeartbeats 4000000 in
theorem encP_any (a1 a3 : Option Addr) (n1 n3 c1 c3 : Nat) (L : Int) (g : Nat → Int) (h : Nat → Bool) (w : World) (hn : n1 + n3 ≤ 1048576) (hs : PcAt w a1 a3 n1 n3 g h) :
    Calls Try.prog 17 #[.agg #[.slice a1 n1 c1, .int .i64 L, .slice a3 n3 c3]] w fun e w' => NewY w (encPV n1 n3 g L h) e w' := by
  have HSC : Hid (PcAt w a1 a3 n1 n3 g h) := hs
  clear hs
  go_enter Try.func17, Try.ntmps17
  go_wp2_with fail
  refine (validP_any a1 a3 n1 n3 c1 c3 L g h _ hn (HSC.out.later (bel0 _ _))).mono ?_
  rintro e w1 ⟨rfl, hb1⟩
  have F1 : Hid (LwP w a1 a3 n1 n3 c1 c3 L g h w1) := (LwP.start HSC.out _).later hb1
  clear hb1
  cases hv : validPc n1 n3 g L
  · go_wp2
    go_ret
    exact ⟨_, rfl, by rw [encPV_bad hv]; exact OwnY.nil _ _, F1.out.bel⟩
  · have hv2 := hv
    unfold validPc at hv2
    simp only [Bool.and_eq_true, decide_eq_true_eq] at hv2
    obtain ⟨⟨⟨⟨q1, q2⟩, q3⟩, q4⟩, q5⟩ := hv2
    have HG : Hid (∀ i, i < n1 → g i ≤ 4294967295) := by
      intro i hi
      have := List.all_eq_true.1 q5 i (List.mem_range.2 hi)
      unfold idOK at this
      simp at this
      omega
    have hn3 : n3 ≤ 100000 := by
      have e1 : (n1 : Int) * L ≤ 40 * L := Int.mul_le_mul_of_nonneg_right (by omega) q2
      omega
    have p0 := F1.out.bx.q0
    have p1 := F1.out.bx.q1
    have p2 := F1.out.bx.q2
    clear q4 q5
    go_wp2_with fail
    refine (picture6_any a1 a3 n1 n3 c1 c3 L g h _ (by omega) hn3 q2 (by omega) HG.out F1.out.pc).mono ?_
    rintro e w2 ⟨v2, rfl, ho2, hb2⟩
    have HO : Hid (OwnY w2 w.heap.size v2 (encPV n1 n3 g L h)) := by unfold Hid; rw [encPV_ok hv]; exact ho2.up F1.out.bel.size
    have HB : Hid (Below w.heap.size w w2) := F1.out.bel.trans (hb2.mono F1.out.bel.size)
    clear ho2 hb2 p0 p1 p2
    go_wp2
    go_ret
    exact ⟨_, rfl, HO.out, HB.out⟩

end Go.Proofs.Ytcjdnomhnlbmbaa
