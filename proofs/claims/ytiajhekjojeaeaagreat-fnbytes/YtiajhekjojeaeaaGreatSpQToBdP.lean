/-
  The model's l6picture and EncodePicture.
-/
import Derived.Test.YtiajhekjojeaeaaGreatBdKToSpP
import Derived.Test.YtiajhekjojeaeaaGreatSpD0ToImV
import Derived.Test.YtiajhekjojeaeaaGreatSpD2ScMScJBytes2LawDs
import Derived.Laws.BytesArg
import Derived.Laws.Strings
import Derived.Test.YtiajhekjojeaeaaGreatBytesToSpF
namespace Go.Proofs.YtiajhekjojeaeaaGreat
open Go.RowKit

def idB (z : Int) : List Int := if z < 0 then [255, 255, 255, 255] else leB z 4
def idsB (g : Nat → Int) : Nat → List Int
  | 0 => []
  | i + 1 => idsB g i ++ idB (g i)
def bitF (n3 : Nat) (h : Nat → Bool) (j : Nat) : Int := if j < n3 ∧ h j = true then 1 else 0
/-- The bits i + 7, i + 6, .. : t of them. -/
def bitsF (n3 : Nat) (h : Nat → Bool) (i : Nat) : Nat → Int
  | 0 => 0
  | t + 1 => bitsF n3 h i t * 2 + bitF n3 h (i + (7 - t))
def litB (n3 : Nat) (h : Nat → Bool) : Nat → List Int
  | 0 => []
  | m + 1 => litB n3 h m ++ [bitsF n3 h (8 * m) 8]
def headP (n1 : Nat) (L : Int) : List Int := [80, 73, 67, 84] ++ leB n1 2 ++ leB L 1
/-- A picture as bytes. -/
def encPc (n1 n3 : Nat) (g : Nat → Int) (L : Int) (h : Nat → Bool) : List Int := headP n1 L ++ idsB g n1 ++ litB n3 h ((n3 + 7) / 8)
/-- What EncodePicture answers. -/
def encPV (n1 n3 : Nat) (g : Nat → Int) (L : Int) (h : Nat → Bool) : List Int := if validPc n1 n3 g L = true then encPc n1 n3 g L h else []
theorem encPV_ok {n1 n3 : Nat} {g : Nat → Int} {L : Int} {h : Nat → Bool} (hv : validPc n1 n3 g L = true) : encPV n1 n3 g L h = encPc n1 n3 g L h := by unfold encPV; rw [if_pos hv]
theorem encPV_bad {n1 n3 : Nat} {g : Nat → Int} {L : Int} {h : Nat → Bool} (hv : validPc n1 n3 g L = false) : encPV n1 n3 g L h = [] := by unfold encPV; rw [if_neg (by rw [hv]; decide)]

theorem idB_length (z : Int) : (idB z).length = 4 := by unfold idB; split <;> simp [leB_length]
theorem idsB_length (g : Nat → Int) : ∀ i, (idsB g i).length = i * 4
  | 0 => rfl
  | i + 1 => by rw [idsB, List.length_append, idsB_length g i, idB_length]; omega
theorem litB_length (n3 : Nat) (h : Nat → Bool) : ∀ m, (litB n3 h m).length = m
  | 0 => rfl
  | m + 1 => by rw [litB, List.length_append, litB_length n3 h m]; rfl
theorem headP_length (n1 : Nat) (L : Int) : (headP n1 L).length = 7 := by simp [headP, leB_length]
theorem bitF_range (n3 : Nat) (h : Nat → Bool) (j : Nat) : 0 ≤ bitF n3 h j ∧ bitF n3 h j ≤ 1 := by unfold bitF; split <;> decide
theorem bitsF_bounds (n3 : Nat) (h : Nat → Bool) (i : Nat) : ∀ t, 0 ≤ bitsF n3 h i t ∧ bitsF n3 h i t < 2 ^ t
  | 0 => by simp [bitsF]
  | t + 1 => by
    have h1 := bitsF_bounds n3 h i t
    have h2 := bitF_range n3 h (i + (7 - t))
    simp only [bitsF, Int.pow_succ]
    omega
theorem bitsF_small (n3 : Nat) (h : Nat → Bool) (i t : Nat) (ht : t ≤ 8) : 0 ≤ bitsF n3 h i t ∧ bitsF n3 h i t < 256 := by
  have h1 := bitsF_bounds n3 h i t
  refine ⟨h1.1, Int.lt_of_lt_of_le h1.2 ?_⟩
  match t, ht with
  | 0, _ => decide
  | 1, _ => decide
  | 2, _ => decide
  | 3, _ => decide
  | 4, _ => decide
  | 5, _ => decide
  | 6, _ => decide
  | 7, _ => decide
  | 8, _ => decide

theorem row_pict (W : World) (t : TypeId) (fr : Nat × Nat) {X : Nat} (hX : X = W.heap.size) : RowAt .u8 (W.alloc (.cells #[.int .u8 80, .int .u8 73, .int .u8 67, .int .u8 84] t fr)) (some ⟨X, 0, none⟩) [80, 73, 67, 84] := by
  refine .inr ⟨X, 0, rfl, by simp; omega, fun j hj => ?_⟩
  rw [Nat.zero_add, Go.Joins.cell_alloc_mark_at _ _ _ _ _ _ hX]
  match j, hj with
  | 0, _ => rfl
  | 1, _ => rfl
  | 2, _ => rfl
  | 3, _ => rfl
theorem row_255 (W : World) (t : TypeId) (fr : Nat × Nat) {X : Nat} (hX : X = W.heap.size) : RowAt .u8 (W.alloc (.cells #[.int .u8 255, .int .u8 255, .int .u8 255, .int .u8 255] t fr)) (some ⟨X, 0, none⟩) [255, 255, 255, 255] := by
  refine .inr ⟨X, 0, rfl, by simp; omega, fun j hj => ?_⟩
  rw [Nat.zero_add, Go.Joins.cell_alloc_mark_at _ _ _ _ _ _ hX]
  match j, hj with
  | 0, _ => rfl
  | 1, _ => rfl
  | 2, _ => rfl
  | 3, _ => rfl

set_option maxRecDepth 100000 in
set_option maxHeartbeats 16000000 in
theorem picture6_any (a1 a3 : Option Addr) (n1 n3 c1 c3 : Nat) (L : Int) (g : Nat → Int) (h : Nat → Bool) (w : World) (h1 : n1 ≤ 10000) (h3 : n3 ≤ 100000) (hL0 : 0 ≤ L) (hL1 : L ≤ 255) (hg : ∀ i, i < n1 → g i ≤ 4294967295) (hs : PcAt w a1 a3 n1 n3 g h) :
    Calls Tryz.prog 38 #[.agg #[.slice a1 n1 c1, .int .i64 L, .slice a3 n3 c3]] w fun e w' => NewY w (encPc n1 n3 g L h) e w' := by
  have HG : Hid (∀ i, i < n1 → g i ≤ 4294967295) := hg
  obtain ⟨W0, hW0⟩ : ∃ W0, W0 = w.alloc (.cells #[.slice a1 n1 c1, .int .i64 L, .slice a3 n3 c3] 39) := ⟨_, rfl⟩
  have L0 : Hid (LwP w a1 a3 n1 n3 c1 c3 L g h W0) := by unfold Hid; rw [hW0]; exact LwP.start hs _
  have S0 : W0.heap.size = w.heap.size + 1 := by rw [hW0]; simp
  have R0 : Hid (∀ t fr, RowAt .u8 (W0.alloc (.cells #[.int .u8 80, .int .u8 73, .int .u8 67, .int .u8 84] t fr)) (some ⟨w.heap.size + 1, 0, none⟩) [80, 73, 67, 84]) := fun t fr => row_pict W0 t fr S0.symm
  have HQ : Hid (∀ w', Below (w.heap.size + 1) W0 w' → w'.cell? ⟨w.heap.size, 0, none⟩ = some (.slice a1 n1 c1) ∧ w'.cell? ⟨w.heap.size, 1, none⟩ = some (.int .i64 L) ∧ w'.cell? ⟨w.heap.size, 2, none⟩ = some (.slice a3 n3 c3)) := by
    intro w' hb
    exact ⟨(hb.cell (p := ⟨w.heap.size, 0, none⟩) (by simp)).trans L0.out.bx.q0, (hb.cell (p := ⟨w.heap.size, 1, none⟩) (by simp)).trans L0.out.bx.q1, (hb.cell (p := ⟨w.heap.size, 2, none⟩) (by simp)).trans L0.out.bx.q2⟩
  have hcv := Go.Joins.run_convert_bytes_const_at (P := Tryz.prog) W0 22 5 #[.int .u8 80, .int .u8 73, .int .u8 67, .int .u8 84] 4 4 (w.heap.size + 1) S0.symm Tryz.underlying22 Tryz.underlying5
  rw [hW0] at hcv
  clear hs hg
  go_enter Tryz.func38, Tryz.ntmps38
  go_wp2_with fail
  rw [← hW0]
  refine (little_any n1 2 _ (by omega) (by omega) (by decide)).mono ?_
  rintro e w1 ⟨v1, rfl, ho1, hb1⟩
  obtain ⟨b1, o1, k1, rfl, hr1⟩ := ho1.spot (leB_ne _ _ (by decide))
  have G1 : Hid (RowAt .u8 w1 (some ⟨w.heap.size + 1, 0, none⟩) [80, 73, 67, 84]) := (R0.out _ _).later hb1
  have B1 : Hid (Below (w.heap.size + 1) W0 w1) := ((Below.refl _ _).alloc (by omega) _).trans (hb1.mono (by simp <;> omega))
  have Z1 : w.heap.size + 1 ≤ w1.heap.size := by have := B1.out.size; omega
  have R1 : Hid (RowAt .u8 w1 (some ⟨b1, o1, none⟩) (leB n1 2)) := hr1.row
  clear ho1 hb1 hr1 R0 hW0 hcv
  go_wp2_with (at_builtin; refine appF rfl (.tmp 10) (.tmp 14) rfl ⟨w.heap.size + 1, 0, none⟩ 4 [80, 73, 67, 84] ⟨b1, o1, none⟩ _ k1 (leB n1 2) rfl rfl G1.out (by decide) rfl rfl (by rw [leB_length]; omega) (by decide) (leB_ne _ _ (by decide)) R1.out ?_; intro e2 m2 k2 w2 ho2 hb2; obtain ⟨p0, p1, p2⟩ := HQ.out w2 (B1.out.trans (hb2.mono Z1)))
  have E2 : Hid (EncS W0 (w.heap.size + 1) (.slice e2 m2 k2) ([80, 73, 67, 84] ++ leB n1 2) w2) := ⟨ho2.up Z1, B1.out.trans (hb2.mono Z1), Nat.le_trans Z1 hb2.size⟩
  clear ho2 hb2 G1 B1 R1 Z1
  refine (little_any L 1 _ hL0 (by omega) (by decide)).mono ?_
  rintro e w3 ⟨v3, rfl, ho, hb⟩
  obtain ⟨b3, o3, k3, rfl, hr⟩ := ho.spot (leB_ne _ _ (by decide))
  have E3 : Hid (EncS W0 (w.heap.size + 1) (.slice e2 m2 k2) ([80, 73, 67, 84] ++ leB n1 2) w3) := E2.out.call hb
  have R3 : Hid (RowAt .u8 w3 (some ⟨b3, o3, none⟩) (leB L 1)) := hr.row
  clear ho hb hr E2 p0 p1 p2
  go_wp2_with (at_builtin; refine appB rfl (.tmp 16) (.tmp 19) rfl (w.heap.size + 1) _ ([80, 73, 67, 84] ++ leB n1 2) ⟨b3, o3, none⟩ _ k3 (leB L 1) rfl E3.out.own rfl rfl (by rw [leB_length]; omega) (by simp [leB_length]) (leB_ne _ _ (by decide)) R3.out E3.out.le ?_; intro e4 m4 k4 w4 ho4 hb4; obtain ⟨p0, p1, p2⟩ := HQ.out w4 (E3.out.bel.trans hb4))
  have EH : Hid (EncS W0 (w.heap.size + 1) (.slice e4 m4 k4) (headP n1 L) w4) := E3.out.app ho4 hb4
  clear ho4 hb4 E3 R3 p0 p1 p2
  go_loopw [3, 4] (fun so si wr => ∃ (i : Nat), i ≤ n1 ∧ si = .int .i64 i ∧ Hid (EncS W0 (w.heap.size + 1) so (headP n1 L ++ idsB g i) wr)) (fun _ si _ => n1 - (intOf si).toNat)
  case atStart => exact ⟨0, Nat.zero_le _, rfl, EncS.re EH.out (by simp [idsB])⟩
  case round =>
    obtain ⟨i, hi, rfl, hE⟩ := hrel
    obtain ⟨p0, p1, p2⟩ := HQ.out wr hE.out.bel
    by_cases hlt : i < n1
    · obtain ⟨b, off, rfl, hbl, hc⟩ := L0.out.pc.r1.resolve_left (by omega)
      have HP : Hid (∀ w', Below (w.heap.size + 1) W0 w' → w'.cell? ⟨b, off + i, none⟩ = some (.int .i64 (g i))) := by
        intro w' hb
        exact (hb.cell (p := ⟨b, off + i, none⟩) (by simp; omega)).trans (hc i hlt)
      have q := HP.out wr hE.out.bel
      have hgi := HG.out i hlt
      have HI : Hid (headP n1 L ++ idsB g (i + 1) = (headP n1 L ++ idsB g i) ++ idB (g i)) := by unfold Hid; rw [idsB, List.append_assoc]
      have hyl : (headP n1 L ++ idsB g i).length ≤ 1000000 := by rw [List.length_append, headP_length, idsB_length]; omega
      obtain ⟨ys, hys⟩ : ∃ ys, ys = headP n1 L ++ idsB g i := ⟨_, rfl⟩
      rw [← hys] at hyl HI hE
      obtain ⟨x, hx⟩ : ∃ x, x = g i := ⟨_, rfl⟩
      rw [← hx] at q hgi HI HP
      have hib : (i : Int) < n1 := by omega
      clear hc hys hx
      by_cases hx0 : x < 0
      · have HID : Hid (idB x = [255, 255, 255, 255]) := by unfold Hid idB; rw [if_pos hx0]
        have ELA : Hid (∀ t, EncS W0 (w.heap.size + 1) _ ys (wr.alloc (.cells #[.int .u8 255, .int .u8 255, .int .u8 255, .int .u8 255] t))) := fun t => hE.out.call (bel0 _ _)
        have HRA : Hid (∀ t, RowAt .u8 (wr.alloc (.cells #[.int .u8 255, .int .u8 255, .int .u8 255, .int .u8 255] t)) (some ⟨wr.heap.size, 0, none⟩) [255, 255, 255, 255]) := fun t => row_255 wr t _ rfl
        go_wp2_with (at_builtin; refine appB rfl (.tmp 34) (.tmp 35) rfl (w.heap.size + 1) _ ys ⟨wr.heap.size, 0, none⟩ 4 4 [255, 255, 255, 255] rfl (ELA.out _).own rfl rfl (by decide) (by omega) (by decide) (HRA.out _) (ELA.out 5).le ?_; intro e5 m5 k5 w5 ho5 hb5; obtain ⟨p0, p1, p2⟩ := HQ.out w5 ((ELA.out _).bel.trans hb5))
        have E5 : Hid (EncS W0 (w.heap.size + 1) (.slice e5 m5 k5) (headP n1 L ++ idsB g (i + 1)) w5) := by unfold Hid; rw [HI.out, HID.out]; exact (ELA.out _).app ho5 hb5
        clear ho5 hb5 ELA
        go_roundw
        case rel => exact ⟨i + 1, by omega, by go_num, E5⟩
        case measure => simp [intOf]; omega
      · have HID : Hid (idB x = leB x 4) := by unfold Hid idB; rw [if_neg hx0]
        go_wp2_with fail
        refine (little_any x 4 _ (by omega) hgi (by decide)).mono ?_
        rintro e u ⟨v, rfl, ho, hb⟩
        obtain ⟨bb, oo, kk, rfl, hr⟩ := ho.spot (leB_ne _ _ (by decide))
        have F0 := hE.out.call hb
        have EC : Hid (EncS W0 (w.heap.size + 1) _ ys u) := F0
        have R : Hid (RowAt .u8 u (some ⟨bb, oo, none⟩) (leB x 4)) := hr.row
        clear ho hb hr F0 hE p0 p1 p2 q
        go_wp2_with (at_builtin; refine appB rfl (.tmp 37) (.tmp 43) rfl (w.heap.size + 1) _ ys ⟨bb, oo, none⟩ _ kk (leB x 4) rfl EC.out.own rfl rfl (by rw [leB_length]; omega) (by omega) (leB_ne _ _ (by decide)) R.out EC.out.le ?_; intro e5 m5 k5 w5 ho5 hb5)
        have E5 : Hid (EncS W0 (w.heap.size + 1) (.slice e5 m5 k5) (headP n1 L ++ idsB g (i + 1)) w5) := by unfold Hid; rw [HI.out, HID.out]; exact EC.out.app ho5 hb5
        clear ho5 hb5 EC R
        go_roundw
        case rel => exact ⟨i + 1, by omega, by go_num, E5⟩
        case measure => simp [intOf]; omega
    · have hie : n1 = i := by omega
      subst hie
      have EN : Hid (EncS W0 (w.heap.size + 1) _ (headP n1 L ++ idsB g n1) wr) := hE
      clear hE
      go_wp2
      go_loopw [3, 5] (fun so si wr => ∃ (m I : Nat), m ≤ (n3 + 7) / 8 ∧ Hid (I = 8 * m) ∧ si = .int .i64 I ∧ Hid (EncS W0 (w.heap.size + 1) so (headP n1 L ++ idsB g n1 ++ litB n3 h m) wr)) (fun _ si _ => n3 + 8 - (intOf si).toNat)
      case atStart => exact ⟨0, 0, Nat.zero_le _, rfl, rfl, EncS.re EN.out (by simp [litB])⟩
      case round =>
        obtain ⟨m, I, hm, hI, rfl, hE⟩ := hrel
        obtain ⟨p0, p1, p2⟩ := HQ.out wr hE.out.bel
        have hI8 : I ≤ 110000 := by have := hI.out; omega
        by_cases hlt : I < n3
        · have hib : (I : Int) < n3 := by omega
          go_wp2
          go_loop [6, 7] (fun sv sk => ∃ r : Nat, r ≤ 8 ∧ sk = .int .i64 ((r : Int) - 1) ∧ sv = .int .i64 (bitsF n3 h I (8 - r))) (fun _ sk => (intOf sk + 1).toNat)
          case atStart => exact ⟨8, Nat.le_refl _, by simp, by simp [bitsF]⟩
          case round =>
            obtain ⟨r, hr, hk, rfl⟩ := hrel
            rcases r with _ | s
            · subst hk
              have hb8 := bitsF_small n3 h I 8 (by decide)
              have HLT : Hid (litB n3 h (m + 1) = litB n3 h m ++ [bitsF n3 h I 8]) := by unfold Hid; rw [litB, hI.out]
              simp only [Nat.sub_zero]
              obtain ⟨v, hv⟩ : ∃ v, v = bitsF n3 h I 8 := ⟨_, rfl⟩
              rw [← hv] at hb8 HLT ⊢
              obtain ⟨v0, v1⟩ := hb8
              have hown := hE.out.own
              have hsz := hE.out.le
              have hyl : (headP n1 L ++ idsB g n1 ++ litB n3 h m).length ≤ 8388608 := by simp only [List.length_append, headP_length, idsB_length, litB_length]; omega
              clear hv
              go_wp2_with (at_builtin; refine app1 rfl (.tmp 76) (.tmp 79) 22 rfl (w.heap.size + 1) 5 Tryz.underlying22 infoB (by decide) _ _ rfl rfl hown hyl hsz ?_; intro e5 m5 k5 w5 ho5 hb5 hs5)
              have E5 : Hid (EncS W0 (w.heap.size + 1) (.slice e5 m5 k5) (headP n1 L ++ idsB g n1 ++ litB n3 h (m + 1)) w5) := by
                unfold Hid
                rw [HLT.out, ← List.append_assoc]
                exact hE.out.app ho5 hb5
              have HM1 : Hid (m + 1 ≤ (n3 + 7) / 8) := by have := hI.out; unfold Hid; omega
              have HI2 : Hid (I + 8 = 8 * (m + 1)) := by have := hI.out; unfold Hid; omega
              clear ho5 hb5 hown
              go_roundw
              case rel => exact ⟨m + 1, I + 8, HM1.out, HI2, by go_num, E5⟩
              case measure => simp [intOf]; omega
            · have e : (((s + 1 : Nat) : Int)) - 1 = (s : Int) := by omega
              rw [e] at hk
              subst hk
              have hbt := bitsF_small n3 h I (8 - (s + 1)) (by omega)
              have HST : Hid (bitsF n3 h I (8 - s) = bitsF n3 h I (8 - (s + 1)) * 2 + bitF n3 h (I + s)) := by
                unfold Hid
                rw [show 8 - s = (8 - (s + 1)) + 1 by omega, bitsF, show 7 - (8 - (s + 1)) = s by omega]
              obtain ⟨v, hv⟩ : ∃ v, v = bitsF n3 h I (8 - (s + 1)) := ⟨_, rfl⟩
              rw [← hv] at hbt HST ⊢
              obtain ⟨J, hJ⟩ : ∃ J, J = I + s := ⟨_, rfl⟩
              have hJ1 : (I : Int) + (s : Int) = J := by omega
              have hJ2 : J ≤ 120000 := by omega
              rw [← hJ] at HST
              obtain ⟨v0, v1⟩ := hbt
              clear hv hJ
              by_cases hj : J < n3
              · obtain ⟨b, off, rfl, hbl, hc⟩ := L0.out.pc.r3.resolve_left (by omega)
                have q : wr.cell? ⟨b, off + J, none⟩ = some (.bool (h J)) := (hE.out.bel.cell (p := ⟨b, off + J, none⟩) (by simp; omega)).trans (hc J hj)
                have hj' : (J : Int) < n3 := by omega
                clear hc
                cases hbj : h J
                · have HB : Hid (bitF n3 h J = 0) := by unfold Hid bitF; rw [if_neg (by rw [hbj]; simp)]
                  rw [hbj] at q
                  go_wp2
                  go_round
                  case rel => exact ⟨s, by omega, by go_num, by rw [HST.out, HB.out]; simp⟩
                  case measure => simp [intOf] <;> omega
                · have HB : Hid (bitF n3 h J = 1) := by unfold Hid bitF; rw [if_pos ⟨hj, hbj⟩]
                  rw [hbj] at q
                  go_wp2
                  go_round
                  case rel => exact ⟨s, by omega, by go_num, by rw [HST.out, HB.out]⟩
                  case measure => simp [intOf] <;> omega
              · have HB : Hid (bitF n3 h J = 0) := by unfold Hid bitF; rw [if_neg (fun hh => hj hh.1)]
                have hj' : ¬ (J : Int) < n3 := by omega
                go_wp2
                go_round
                case rel => exact ⟨s, by omega, by go_num, by rw [HST.out, HB.out]; simp⟩
                case measure => simp [intOf] <;> omega
        · have hib : ¬ (I : Int) < n3 := by omega
          have hmm : m = (n3 + 7) / 8 := by have := hI.out; omega
          have EN2 : Hid (EncS W0 (w.heap.size + 1) _ (encPc n1 n3 g L h) wr) := hE.out.re (by unfold encPc; rw [hmm])
          clear hE hmm
          go_wp2
          go_ret
          exact ⟨_, rfl, EN2.out.own.up (Nat.le_succ _), L0.out.bel.trans (EN2.out.bel.mono (Nat.le_succ _))⟩

set_option maxRecDepth 100000 in
set_option maxHeartbeats 4000000 in
theorem encP_any (a1 a3 : Option Addr) (n1 n3 c1 c3 : Nat) (L : Int) (g : Nat → Int) (h : Nat → Bool) (w : World) (hn : n1 + n3 ≤ 1048576) (hs : PcAt w a1 a3 n1 n3 g h) :
    Calls Tryz.prog 13 #[.agg #[.slice a1 n1 c1, .int .i64 L, .slice a3 n3 c3]] w fun e w' => NewY w (encPV n1 n3 g L h) e w' := by
  have HSC : Hid (PcAt w a1 a3 n1 n3 g h) := hs
  clear hs
  go_enter Tryz.func13, Tryz.ntmps13
  go_wp2_with fail
  refine (validP_any a1 a3 n1 n3 c1 c3 L g h _ hn (HSC.out.later (bel0 _ _))).mono ?_
  rintro e w1 ⟨rfl, hb1⟩
  have F1 : Hid (LwP w a1 a3 n1 n3 c1 c3 L g h w1) := (LwP.start HSC.out _).later hb1
  clear hb1
  cases hv : validPc n1 n3 g L
  · go_wp2
    go_ret
    exact ⟨_, rfl, by rw [encPV_bad hv]; exact OwnY.nil _ _, F1.out.bel⟩
  · have hv2 := hv
    unfold validPc at hv2
    simp only [Bool.and_eq_true, decide_eq_true_eq] at hv2
    obtain ⟨⟨⟨⟨q1, q2⟩, q3⟩, q4⟩, q5⟩ := hv2
    have HG : Hid (∀ i, i < n1 → g i ≤ 4294967295) := by
      intro i hi
      have := List.all_eq_true.1 q5 i (List.mem_range.2 hi)
      unfold idOK at this
      simp at this
      omega
    have hn3 : n3 ≤ 100000 := by
      have e1 : (n1 : Int) * L ≤ 40 * L := Int.mul_le_mul_of_nonneg_right (by omega) q2
      omega
    have p0 := F1.out.bx.q0
    have p1 := F1.out.bx.q1
    have p2 := F1.out.bx.q2
    clear q4 q5
    go_wp2_with fail
    refine (picture6_any a1 a3 n1 n3 c1 c3 L g h _ (by omega) hn3 q2 (by omega) HG.out F1.out.pc).mono ?_
    rintro e w2 ⟨v2, rfl, ho2, hb2⟩
    have HO : Hid (OwnY w2 w.heap.size v2 (encPV n1 n3 g L h)) := by unfold Hid; rw [encPV_ok hv]; exact ho2.up F1.out.bel.size
    have HB : Hid (Below w.heap.size w w2) := F1.out.bel.trans (hb2.mono F1.out.bel.size)
    clear ho2 hb2 p0 p1 p2
    go_wp2
    go_ret
    exact ⟨_, rfl, HO.out, HB.out⟩

end Go.Proofs.YtiajhekjojeaeaaGreat

/-
  The law of DecodePicture, for any model and any program that answer the picture in new memory, or that there is none.
-/
namespace Go.Proofs.YtiajhekjojeaeaaGreat
open Go.RowKit

/-- Pictures whose two lists lie in blocks apart from one another. -/
structure PcDj (w : World) (lo hi : Nat) (a1 a3 : Option Addr) (n1 n3 : Nat) (g : Nat → Int) (h : Nat → Bool) (l1 h1 l3 h3 : Nat) : Prop where
  i1 : lo ≤ l1 ∧ h1 ≤ hi
  i3 : lo ≤ l3 ∧ h3 ≤ hi
  d13 : Dj l1 h1 l3 h3
  top : hi ≤ w.heap.size
  r1 : RowFIn w l1 h1 a1 n1 (intF g)
  r3 : RowFIn w l3 h3 a3 n3 (boolF h)
theorem PcDj.at {w : World} {lo hi : Nat} {a1 a3 : Option Addr} {n1 n3 : Nat} {g : Nat → Int} {h : Nat → Bool} {l1 h1 l3 h3 : Nat} (p : PcDj w lo hi a1 a3 n1 n3 g h l1 h1 l3 h3) : PcAt w a1 a3 n1 n3 g h := ⟨p.r1.row, p.r3.row⟩
theorem PcDj.later {w w' : World} {lo hi : Nat} {a1 a3 : Option Addr} {n1 n3 : Nat} {g : Nat → Int} {h : Nat → Bool} {l1 h1 l3 h3 : Nat} (p : PcDj w lo hi a1 a3 n1 n3 g h l1 h1 l3 h3) (hb : Below w.heap.size w w') : PcDj w' lo hi a1 a3 n1 n3 g h l1 h1 l3 h3 :=
  ⟨p.i1, p.i3, p.d13, Nat.le_trans p.top hb.size, p.r1.later hb, p.r3.later hb⟩
theorem PcDj.apart {w w' : World} {lo hi lo' hi' : Nat} {a1 a3 : Option Addr} {n1 n3 : Nat} {g : Nat → Int} {h : Nat → Bool} {l1 h1 l3 h3 : Nat} (p : PcDj w lo hi a1 a3 n1 n3 g h l1 h1 l3 h3) (hw : Within lo' hi' w w') (hd : hi ≤ lo' ∨ hi' ≤ lo) : PcDj w' lo hi a1 a3 n1 n3 g h l1 h1 l3 h3 :=
  ⟨p.i1, p.i3, p.d13, by rw [hw.size]; exact p.top, p.r1.apart hw (by have := p.i1; omega), p.r3.apart hw (by have := p.i3; omega)⟩

/-- A valid picture whose bytes these are. -/
structure IsPic (bs : List Int) (n1 n3 : Nat) (g : Nat → Int) (L : Int) (h : Nat → Bool) : Prop where
  ok : validPc n1 n3 g L = true
  enc : encPc n1 n3 g L h = bs

/-- What DecodePicture answers: the picture whose bytes these are, or none. -/
def DecP (bs : List Int) (n1 n3 : Nat) (g : Nat → Int) (L : Int) (h : Nat → Bool) (K : Int) : Prop :=
  (K = 0 ∧ IsPic bs n1 n3 g L h) ∨ (K = 1 ∧ n1 = 0 ∧ n3 = 0 ∧ L = 0 ∧ ∀ n1 n3 g L h, ¬ IsPic bs n1 n3 g L h)
def DecPOut (w : World) (bs : List Int) (e : Ending) (w' : World) : Prop :=
  ∃ a1 a3 c1 c3 n1 n3 g L h K l1 h1 l3 h3, e = .returned (.tuple #[.agg #[.slice a1 n1 c1, .int .i64 L, .slice a3 n3 c3], .int .i64 K]) ∧ DecP bs n1 n3 g L h K ∧ PcDj w' w.heap.size w'.heap.size a1 a3 n1 n3 g h l1 h1 l3 h3 ∧ Below w.heap.size w w'
def DecPSays (f : FuncId) : Prop := ∀ (a : Option Addr) (c : Nat) (bs : List Int) (w : World), bs.length ≤ 1048576 → bs.length ≤ c → U8 bs → RowAt .u8 w a bs → Calls Tryz.prog f #[.slice a bs.length c] w fun e w' => DecPOut w bs e w'

theorem leB_two {a b : Nat} (ha : a ≤ 255) (hb : b ≤ 255) (h : leB (a : Int) 2 = leB (b : Int) 2) : a = b := by
  simp [leB, divB] at h
  omega
theorem leB_one {a b : Int} (ha : 0 ≤ a ∧ a ≤ 4) (hb : 0 ≤ b ∧ b ≤ 4) (h : leB a 1 = leB b 1) : a = b := by
  simp [leB, divB] at h
  omega
theorem idB_inj {a b : Int} (ha : -1 ≤ a ∧ a < 40) (hb : -1 ≤ b ∧ b < 40) (h : idB a = idB b) : a = b := by
  unfold idB at h
  by_cases h1 : a < 0
  · by_cases h2 : b < 0
    · omega
    · rw [if_pos h1, if_neg h2] at h
      simp [leB, divB] at h
      omega
  · by_cases h2 : b < 0
    · rw [if_neg h1, if_pos h2] at h
      simp [leB, divB] at h
      omega
    · rw [if_neg h1, if_neg h2] at h
      simp [leB, divB] at h
      omega
theorem app_inj {a b c d : List Int} (hl : a.length = c.length) (h : a ++ b = c ++ d) : a = c ∧ b = d := List.append_inj h hl
theorem idsB_inj {g g' : Nat → Int} : ∀ n, (∀ i, i < n → -1 ≤ g i ∧ g i < 40) → (∀ i, i < n → -1 ≤ g' i ∧ g' i < 40) → idsB g n = idsB g' n → ∀ i, i < n → g i = g' i
  | 0, _, _, _, i, hi => absurd hi (by omega)
  | n + 1, h1, h2, h, i, hi => by
    simp only [idsB] at h
    obtain ⟨q1, q2⟩ := app_inj (by rw [idsB_length, idsB_length]) h
    by_cases e : i < n
    · exact idsB_inj n (fun j hj => h1 j (by omega)) (fun j hj => h2 j (by omega)) q1 i e
    · have e1 : i = n := by omega
      subst e1
      exact idB_inj (h1 i (by omega)) (h2 i (by omega)) q2
theorem bitsF_inj {n3 : Nat} {h h' : Nat → Bool} {i : Nat} : ∀ t, bitsF n3 h i t = bitsF n3 h' i t → ∀ s, s < t → bitF n3 h (i + (7 - s)) = bitF n3 h' (i + (7 - s))
  | 0, _, s, hs => absurd hs (by omega)
  | t + 1, hb, s, hs => by
    simp only [bitsF] at hb
    have b1 := bitF_range n3 h (i + (7 - t))
    have b2 := bitF_range n3 h' (i + (7 - t))
    have e1 : bitsF n3 h i t = bitsF n3 h' i t := by omega
    have e2 : bitF n3 h (i + (7 - t)) = bitF n3 h' (i + (7 - t)) := by omega
    by_cases e : s < t
    · exact bitsF_inj t e1 s e
    · have : s = t := by omega
      subst this
      exact e2
theorem litB_inj {n3 : Nat} {h h' : Nat → Bool} : ∀ m, litB n3 h m = litB n3 h' m → ∀ j, j < 8 * m → bitF n3 h j = bitF n3 h' j
  | 0, _, j, hj => absurd hj (by omega)
  | m + 1, hb, j, hj => by
    simp only [litB] at hb
    obtain ⟨q1, q2⟩ := app_inj (by rw [litB_length, litB_length]) hb
    by_cases e : j < 8 * m
    · exact litB_inj m q1 j e
    · have q3 : bitsF n3 h (8 * m) 8 = bitsF n3 h' (8 * m) 8 := by simpa using q2
      have := bitsF_inj 8 q3 (7 - (j - 8 * m)) (by omega)
      rwa [show 8 * m + (7 - (7 - (j - 8 * m))) = j by omega] at this
theorem bit_eq {n3 : Nat} {h h' : Nat → Bool} {j : Nat} (hj : j < n3) (e : bitF n3 h j = bitF n3 h' j) : h j = h' j := by
  unfold bitF at e
  cases q1 : h j <;> cases q2 : h' j <;> simp [hj, q1, q2] at e ⊢

/-- One list of bytes has one picture. -/
theorem IsPic.unique {bs : List Int} {n1 n3 m1 m3 : Nat} {g g' : Nat → Int} {L L' : Int} {h h' : Nat → Bool} (p : IsPic bs n1 n3 g L h) (q : IsPic bs m1 m3 g' L' h') :
    n1 = m1 ∧ n3 = m3 ∧ L = L' ∧ (∀ i, i < n1 → g i = g' i) ∧ ∀ j, j < n3 → h j = h' j := by
  have p1 := p.ok
  have q1 := q.ok
  unfold validPc at p1 q1
  simp only [Bool.and_eq_true, decide_eq_true_eq] at p1 q1
  obtain ⟨⟨⟨⟨a1, a2⟩, a3⟩, a4⟩, a5⟩ := p1
  obtain ⟨⟨⟨⟨b1, b2⟩, b3⟩, b4⟩, b5⟩ := q1
  have e := p.enc.trans q.enc.symm
  unfold encPc headP at e
  simp only [List.append_assoc, List.cons_append, List.nil_append, List.cons.injEq, true_and] at e
  obtain ⟨e1, ea⟩ := app_inj (by rw [leB_length, leB_length]) e
  obtain ⟨e2, eb⟩ := app_inj (by rw [leB_length, leB_length]) ea
  clear e ea
  have k1 := leB_two (by omega) (by omega) e1
  have k2 := leB_one ⟨a2, a3⟩ ⟨b2, b3⟩ e2
  subst k1 k2
  have k3 : n3 = m3 := by omega
  subst k3
  obtain ⟨e3, e4⟩ := app_inj (by rw [idsB_length, idsB_length]) eb
  have ra : ∀ i, i < n1 → -1 ≤ g i ∧ g i < 40 := by
    intro i hi
    have := List.all_eq_true.1 a5 i (List.mem_range.2 hi)
    unfold idOK at this
    simpa using this
  have rb : ∀ i, i < n1 → -1 ≤ g' i ∧ g' i < 40 := by
    intro i hi
    have := List.all_eq_true.1 b5 i (List.mem_range.2 hi)
    unfold idOK at this
    simpa using this
  refine ⟨rfl, rfl, rfl, idsB_inj n1 ra rb e3, fun j hj => bit_eq hj (litB_inj ((n3 + 7) / 8) e4 j (by clear a4 b4; omega))⟩

/-- The answers of two functions that decode are one. -/
theorem DecP.unique {bs : List Int} {n1 n3 m1 m3 : Nat} {g g' : Nat → Int} {L L' K K' : Int} {h h' : Nat → Bool} (p : DecP bs n1 n3 g L h K) (q : DecP bs m1 m3 g' L' h' K') :
    n1 = m1 ∧ n3 = m3 ∧ L = L' ∧ K = K' ∧ (∀ i, i < n1 → g' i = g i) ∧ ∀ j, j < n3 → h' j = h j := by
  rcases p with ⟨rfl, p⟩ | ⟨rfl, rfl, rfl, rfl, p⟩
  · rcases q with ⟨rfl, q⟩ | ⟨_, _, _, _, q⟩
    · obtain ⟨h1, h2, h3, h4, h5⟩ := p.unique q
      exact ⟨h1, h2, h3, rfl, fun i hi => (h4 i hi).symm, fun j hj => (h5 j hj).symm⟩
    · exact absurd p (q _ _ _ _ _)
  · rcases q with ⟨_, q⟩ | ⟨rfl, rfl, rfl, rfl, _⟩
    · exact absurd q (p _ _ _ _ _)
    · exact ⟨rfl, rfl, rfl, rfl, fun i hi => absurd hi (by omega), fun j hj => absurd hj (by omega)⟩
theorem DecP.small {bs : List Int} {n1 n3 : Nat} {g : Nat → Int} {L K : Int} {h : Nat → Bool} (p : DecP bs n1 n3 g L h K) : n1 + n3 ≤ 1048576 := by
  rcases p with ⟨_, p⟩ | ⟨_, rfl, rfl, _⟩
  · have p1 := p.ok
    unfold validPc at p1
    simp only [Bool.and_eq_true, decide_eq_true_eq] at p1
    obtain ⟨⟨⟨⟨a1, a2⟩, a3⟩, a4⟩, a5⟩ := p1
    have e1 : (n1 : Int) * L ≤ 40 * L := Int.mul_le_mul_of_nonneg_right (by omega) a2
    omega
  · decide

theorem RowFIn.congr {w : World} {lo hi : Nat} {a : Option Addr} {n : Nat} {f f' : Nat → Value} (h : RowFIn w lo hi a n f) (e : ∀ i, i < n → f i = f' i) : RowFIn w lo hi a n f' := by
  rcases h with h | ⟨b, off, h1, h2, h3, h4, h5, h6⟩
  · exact .inl h
  · exact .inr ⟨b, off, h1, h2, h3, h4, fun j hj => by rw [h5 j hj, e j hj], h6⟩
theorem PcDj.congr {w : World} {lo hi : Nat} {a1 a3 : Option Addr} {n1 n3 : Nat} {g g' : Nat → Int} {h h' : Nat → Bool} {l1 h1 l3 h3 : Nat} (p : PcDj w lo hi a1 a3 n1 n3 g h l1 h1 l3 h3) (e1 : ∀ i, i < n1 → g i = g' i) (e3 : ∀ j, j < n3 → h j = h' j) : PcDj w lo hi a1 a3 n1 n3 g' h' l1 h1 l3 h3 :=
  ⟨p.i1, p.i3, p.d13, p.top, p.r1.congr fun i hi => by unfold intF; rw [e1 i hi], p.r3.congr fun i hi => by unfold boolF; rw [e3 i hi]⟩

end Go.Proofs.YtiajhekjojeaeaaGreat

/-
  What is read out of a picture's bytes: its counts, its ids, its bits.
-/
namespace Go.Proofs.YtiajhekjojeaeaaGreat
open Go.RowKit

theorem leV_one {v : Int} (h0 : 0 ≤ v) (h1 : v < 256) : leV (leB v 1) = v := by simp [leB, divB, leV]; omega
theorem leV_two {v : Int} (h0 : 0 ≤ v) (h1 : v < 65536) : leV (leB v 2) = v := by simp [leB, divB, leV]; omega
theorem leV_four {v : Int} (h0 : 0 ≤ v) (h1 : v < 4294967296) : leV (leB v 4) = v := by simp [leB, divB, leV]; omega

theorem numB_at {A B C : List Int} {p n : Nat} (hp : p = A.length) (hn : n = B.length) : numB (A ++ (B ++ C)) p n = leV B := by
  subst hp hn
  unfold numB
  rw [if_neg (by simp), List.drop_left, List.take_left]

theorem idsB_split (g : Nat → Int) : ∀ n i, i < n → ∃ T, idsB g n = idsB g i ++ (idB (g i) ++ T)
  | 0, i, hi => absurd hi (by omega)
  | n + 1, i, hi => by
    by_cases e : i < n
    · obtain ⟨T, hT⟩ := idsB_split g n i e
      exact ⟨T ++ idB (g n), by rw [idsB, hT]; simp⟩
    · have : i = n := by omega
      subst this
      exact ⟨[], by rw [idsB]; simp⟩
theorem litB_split (n3 : Nat) (h : Nat → Bool) : ∀ m q, q < m → ∃ T, litB n3 h m = litB n3 h q ++ ([bitsF n3 h (8 * q) 8] ++ T)
  | 0, q, hq => absurd hq (by omega)
  | m + 1, q, hq => by
    by_cases e : q < m
    · obtain ⟨T, hT⟩ := litB_split n3 h m q e
      exact ⟨T ++ [bitsF n3 h (8 * m) 8], by rw [litB, hT]; simp⟩
    · have : q = m := by omega
      subst this
      exact ⟨[], by rw [litB]; simp⟩

theorem bitsF_half (n3 : Nat) (h : Nat → Bool) (i t : Nat) : bitsF n3 h i (t + 1) / 2 = bitsF n3 h i t := by
  have := bitF_range n3 h (i + (7 - t))
  simp only [bitsF]
  omega
theorem bitsF_low (n3 : Nat) (h : Nat → Bool) (i t : Nat) : bitsF n3 h i (t + 1) % 2 = bitF n3 h (i + (7 - t)) := by
  have := bitF_range n3 h (i + (7 - t))
  simp only [bitsF]
  omega
theorem bitsF_div (n3 : Nat) (h : Nat → Bool) (i : Nat) : ∀ k t, k ≤ t → bitsF n3 h i t / 2 ^ k = bitsF n3 h i (t - k)
  | 0, t, _ => by simp
  | k + 1, t, hk => by
    rw [Int.pow_succ, ← Int.ediv_ediv_of_nonneg (Int.pow_nonneg (by decide)), bitsF_div n3 h i k t (by omega), show t - k = (t - (k + 1)) + 1 by omega, bitsF_half]
/-- The bit at a place of a byte of the picture. -/
theorem bit_at (n3 : Nat) (h : Nat → Bool) (i k : Nat) (hk : k < 8) : bitsF n3 h i 8 / 2 ^ k % 2 = bitF n3 h (i + k) := by
  rw [bitsF_div n3 h i k 8 (by omega), show 8 - k = (7 - k) + 1 by omega, bitsF_low, show 7 - (7 - k) = k by omega]

theorem IsPic.bounds {bs : List Int} {n1 n3 : Nat} {g : Nat → Int} {L : Int} {h : Nat → Bool} (p : IsPic bs n1 n3 g L h) : n1 ≤ 40 ∧ 0 ≤ L ∧ L ≤ 4 ∧ (n3 : Int) = n1 * L ∧ ∀ i, i < n1 → -1 ≤ g i ∧ g i < 40 := by
  have p1 := p.ok
  unfold validPc at p1
  simp only [Bool.and_eq_true, decide_eq_true_eq] at p1
  obtain ⟨⟨⟨⟨a1, a2⟩, a3⟩, a4⟩, a5⟩ := p1
  refine ⟨a1, a2, a3, a4, fun i hi => ?_⟩
  have := List.all_eq_true.1 a5 i (List.mem_range.2 hi)
  unfold idOK at this
  simpa using this

theorem IsPic.count {bs : List Int} {n1 n3 : Nat} {g : Nat → Int} {L : Int} {h : Nat → Bool} (p : IsPic bs n1 n3 g L h) : numB bs 4 2 = n1 := by
  rw [← p.enc]
  unfold encPc headP
  rw [show [80, 73, 67, 84] ++ leB (n1 : Int) 2 ++ leB L 1 ++ idsB g n1 ++ litB n3 h ((n3 + 7) / 8) = [80, 73, 67, 84] ++ (leB (n1 : Int) 2 ++ (leB L 1 ++ (idsB g n1 ++ litB n3 h ((n3 + 7) / 8)))) by simp only [List.append_assoc]]
  rw [numB_at (A := [80, 73, 67, 84]) (p := 4) rfl (by rw [leB_length]), leV_two (by omega) (by have := p.bounds.1; omega)]
theorem IsPic.lights {bs : List Int} {n1 n3 : Nat} {g : Nat → Int} {L : Int} {h : Nat → Bool} (p : IsPic bs n1 n3 g L h) : numB bs 6 1 = L := by
  rw [← p.enc]
  unfold encPc headP
  rw [show [80, 73, 67, 84] ++ leB (n1 : Int) 2 ++ leB L 1 ++ idsB g n1 ++ litB n3 h ((n3 + 7) / 8) = ([80, 73, 67, 84] ++ leB (n1 : Int) 2) ++ (leB L 1 ++ (idsB g n1 ++ litB n3 h ((n3 + 7) / 8))) by simp only [List.append_assoc]]
  rw [numB_at (by simp [leB_length]) (by rw [leB_length]), leV_one p.bounds.2.1 (by have := p.bounds.2.2.1; omega)]
theorem IsPic.id {bs : List Int} {n1 n3 : Nat} {g : Nat → Int} {L : Int} {h : Nat → Bool} (p : IsPic bs n1 n3 g L h) {i : Nat} (hi : i < n1) : numB bs (7 + 4 * i) 4 = if g i < 0 then 4294967295 else g i := by
  rw [← p.enc]
  obtain ⟨T, hT⟩ := idsB_split g n1 i hi
  unfold encPc
  rw [hT, show headP n1 L ++ (idsB g i ++ (idB (g i) ++ T)) ++ litB n3 h ((n3 + 7) / 8) = (headP n1 L ++ idsB g i) ++ (idB (g i) ++ (T ++ litB n3 h ((n3 + 7) / 8))) by simp only [List.append_assoc]]
  rw [numB_at (by rw [List.length_append, headP_length, idsB_length]; omega) (by rw [idB_length])]
  have hb := p.bounds.2.2.2.2 i hi
  unfold idB
  by_cases hg : g i < 0
  · rw [if_pos hg, if_pos hg]; rfl
  · rw [if_neg hg, if_neg hg, leV_four (by omega) (by omega)]
theorem IsPic.byte {bs : List Int} {n1 n3 : Nat} {g : Nat → Int} {L : Int} {h : Nat → Bool} (p : IsPic bs n1 n3 g L h) {j : Nat} (hj : j < n3) : numB bs (7 + 4 * n1 + j / 8) 1 = bitsF n3 h (8 * (j / 8)) 8 := by
  rw [← p.enc]
  obtain ⟨T, hT⟩ := litB_split n3 h ((n3 + 7) / 8) (j / 8) (by omega)
  unfold encPc
  rw [hT, ← List.append_assoc]
  rw [numB_at (by rw [List.length_append, List.length_append, headP_length, idsB_length, litB_length]; omega) (n := 1) (B := [bitsF n3 h (8 * (j / 8)) 8]) rfl]
  simp [leV]
/-- The bit that is read is the bit that was written. -/
theorem IsPic.bit {bs : List Int} {n1 n3 : Nat} {g : Nat → Int} {L : Int} {h : Nat → Bool} (p : IsPic bs n1 n3 g L h) {j : Nat} (hj : j < n3) : (numB bs (7 + 4 * n1 + j / 8) 1 / 2 ^ (j % 8) % 2 == 1) = h j := by
  rw [p.byte hj, bit_at n3 h _ _ (by omega), show 8 * (j / 8) + j % 8 = j by omega]
  unfold bitF
  cases h j <;> simp [hj]

end Go.Proofs.YtiajhekjojeaeaaGreat

/-
  A valid scene's bytes have no fault, and what is read out of them is the scene.
-/
namespace Go.Proofs.YtiajhekjojeaeaaGreat
open Go.RowKit

theorem flatB_append (a b : List Int) : flatB (a ++ b) = flatB a ++ flatB b := by simp [flatB]
theorem flatB_split {zs : List Int} {i : Nat} (h : i < zs.length) : flatB zs = flatB (zs.take i) ++ (leB (zs.getD i 0) 4 ++ flatB (zs.drop (i + 1))) := by
  have e : zs = zs.take i ++ (zs.getD i 0 :: zs.drop (i + 1)) := by
    rw [List.getD_eq_getElem?_getD, List.getElem?_eq_getElem h]
    simp
  conv => lhs; rw [e]
  rw [flatB_append]
  congr 1
theorem encSc_flat (n1 n2 n3 : Nat) (z1 z2 z3 : List Int) : encSc n1 n2 n3 z1 z2 z3 = headB n1 n2 n3 ++ flatB (z1 ++ z2 ++ z3) := by
  unfold encSc
  rw [flatB_append, flatB_append]
  simp only [List.append_assoc]

theorem num_flat {n1 n2 n3 : Nat} {zz : List Int} (hu : U32 zz) {i : Nat} (h : i < zz.length) : numB (headB n1 n2 n3 ++ flatB zz) (9 + 4 * i) 4 = zz.getD i 0 := by
  rw [flatB_split h, ← List.append_assoc]
  rw [numB_at (by rw [List.length_append, headB_length, flatB_length, List.length_take]; omega) (by rw [leB_length]), leV_four (hu.at i).1 (hu.at i).2]
theorem flt_flat {n1 n2 n3 : Nat} {zz : List Int} (hu : U32 zz) {i : Nat} (h : i < zz.length) : fltB (headB n1 n2 n3 ++ flatB zz) (9 + 4 * i) = zz.getD i 0 := by
  have h1 := num_flat (n1 := n1) (n2 := n2) (n3 := n3) hu h
  have hl : ¬ (headB n1 n2 n3 ++ flatB zz).length < 9 + 4 * i + 4 := by rw [List.length_append, headB_length, flatB_length]; omega
  unfold numB at h1
  rw [if_neg hl] at h1
  unfold fltB
  rw [if_neg hl]
  exact h1

theorem cnt_flat0 {n1 n2 n3 : Nat} {F : List Int} (h : n1 ≤ 40) : cntB (headB n1 n2 n3 ++ F) 0 = n1 := by
  show numB _ 4 2 = _
  unfold headB
  rw [show [83, 67, 69, 78] ++ leB (n1 : Int) 2 ++ leB (n2 : Int) 2 ++ leB (n3 : Int) 1 ++ F = [83, 67, 69, 78] ++ (leB (n1 : Int) 2 ++ (leB (n2 : Int) 2 ++ leB (n3 : Int) 1 ++ F)) by simp only [List.append_assoc]]
  rw [numB_at (A := [83, 67, 69, 78]) (p := 4) rfl (by rw [leB_length]), leV_two (by omega) (by omega)]
theorem cnt_flat1 {n1 n2 n3 : Nat} {F : List Int} (h : n2 ≤ 40) : cntB (headB n1 n2 n3 ++ F) 1 = n2 := by
  show numB _ 6 2 = _
  unfold headB
  rw [show [83, 67, 69, 78] ++ leB (n1 : Int) 2 ++ leB (n2 : Int) 2 ++ leB (n3 : Int) 1 ++ F = ([83, 67, 69, 78] ++ leB (n1 : Int) 2) ++ (leB (n2 : Int) 2 ++ (leB (n3 : Int) 1 ++ F)) by simp only [List.append_assoc]]
  rw [numB_at (by simp [leB_length]) (by rw [leB_length]), leV_two (by omega) (by omega)]
theorem cnt_flat2 {n1 n2 n3 : Nat} {F : List Int} (h : n3 ≤ 4) : cntB (headB n1 n2 n3 ++ F) 2 = n3 := by
  show numB _ 8 1 = _
  unfold headB
  rw [show [83, 67, 69, 78] ++ leB (n1 : Int) 2 ++ leB (n2 : Int) 2 ++ leB (n3 : Int) 1 ++ F = ([83, 67, 69, 78] ++ leB (n1 : Int) 2 ++ leB (n2 : Int) 2) ++ (leB (n3 : Int) 1 ++ F) by simp only [List.append_assoc]]
  rw [numB_at (by simp [leB_length]) (by rw [leB_length]), leV_one (by omega) (by omega)]

theorem magic_flat (n1 n2 n3 : Nat) (F : List Int) : firstF (magicAt (headB n1 n2 n3 ++ F)) 4 = none := by
  have hl : 9 ≤ (headB n1 n2 n3 ++ F).length := by rw [List.length_append, headB_length]; omega
  have key : ∀ i, i < 4 → magicAt (headB n1 n2 n3 ++ F) i = none := by
    intro i hi
    unfold magicAt
    rw [if_neg (by omega), if_pos]
    rw [List.getD_eq_getElem?_getD, List.getElem?_append_left (by rw [headB_length]; omega)]
    unfold headB
    simp only [List.append_assoc]
    rw [List.getElem?_append_left (by simpa using hi), ← List.getD_eq_getElem?_getD]
  exact firstF_succ (firstF_succ (firstF_succ (firstF_succ rfl (key 0 (by decide))) (key 1 (by decide))) (key 2 (by decide))) (key 3 (by decide))

theorem firstF_all {α : Type} {f : Nat → Option α} : ∀ n, (∀ i, i < n → f i = none) → firstF f n = none
  | 0, _ => rfl
  | n + 1, h => firstF_succ (firstF_all n fun i hi => h i (by omega)) (h n (by omega))

end Go.Proofs.YtiajhekjojeaeaaGreat

/-
  Bytes as strings, held against one another.
-/
namespace Go.Proofs.YtiajhekjojeaeaaGreat
open Go.RowKit

theorem ofNat_inj8 {a b : Int} (ha : 0 ≤ a ∧ a < 256) (hb : 0 ≤ b ∧ b < 256) (h : UInt8.ofNat a.toNat = UInt8.ofNat b.toNat) : a = b := by
  have h1 := congrArg UInt8.toNat h
  rw [UInt8.toNat_ofNat', UInt8.toNat_ofNat', Nat.mod_eq_of_lt (by omega), Nat.mod_eq_of_lt (by omega)] at h1
  omega
theorem map_inj8 : ∀ {xs ys : List Int}, U8 xs → U8 ys → (xs.map fun n => UInt8.ofNat n.toNat) = (ys.map fun n => UInt8.ofNat n.toNat) → xs = ys
  | [], [], _, _, _ => rfl
  | [], y :: ys, _, _, h => by simp at h
  | x :: xs, [], _, _, h => by simp at h
  | x :: xs, y :: ys, hx, hy, h => by
    simp only [List.map_cons, List.cons.injEq] at h
    rw [ofNat_inj8 (hx x (by simp)) (hy y (by simp)) h.1, map_inj8 (fun z hz => hx z (by simp [hz])) (fun z hz => hy z (by simp [hz])) h.2]

theorem ba_beq (a b : ByteArray) : (a == b) = (a.data == b.data) := by
  cases a
  cases b
  rfl

/-- Two lists of bytes are one string if they are one list. -/
theorem str_same {xs ys : List Int} (hx : U8 xs) (hy : U8 ys) : (strOfNums xs == strOfNums ys) = decide (xs = ys) := by
  rw [ba_beq]
  by_cases h : xs = ys
  · subst h
    simp
  · rw [decide_eq_false h, beq_eq_false_iff_ne]
    intro e
    apply h
    have e1 := congrArg Array.toList e
    exact map_inj8 hx hy e1

theorem conv_str {w : World} {a : Option Addr} {bs : List Int} (h : RowAt .u8 w a bs) (hne : bs ≠ []) (c : Nat) : (convert 22 9 (.slice a bs.length c)).run Tryz.prog w = .ok (.string (strOfNums bs)) w := by
  obtain ⟨b, off, rfl, _, hc⟩ := h.resolve_left hne
  exact run_convert_bytes_arg w 22 5 Tryz.underlying22 Tryz.underlying5 b off bs.length c bs rfl hc 9 Tryz.underlying9

end Go.Proofs.YtiajhekjojeaeaaGreat

/-
  The picture that is read from bytes.
-/
namespace Go.Proofs.YtiajhekjojeaeaaGreat
open Go.RowKit

def idv (bs : List Int) (i : Nat) : Int := if numB bs (7 + 4 * i) 4 = 4294967295 then -1 else numB bs (7 + 4 * i) 4
def bitv (bs : List Int) (N j : Nat) : Bool := numB bs (7 + 4 * N + j / 8) 1 / 2 ^ (j % 8) % 2 == 1

theorem U8.app {xs ys : List Int} (hx : U8 xs) (hy : U8 ys) : U8 (xs ++ ys) := fun z hz => (List.mem_append.1 hz).elim (hx z) (hy z)
theorem leB_u8 (v : Int) : ∀ n, U8 (leB v n)
  | 0 => fun z hz => by simp [leB] at hz
  | n + 1 => (leB_u8 v n).app fun z hz => by
    have : z = divB v n % 256 := by simpa using hz
    omega
theorem idB_u8 (z : Int) : U8 (idB z) := by
  unfold idB
  split
  · intro y hy; simp at hy; omega
  · exact leB_u8 _ _
theorem idsB_u8 (g : Nat → Int) : ∀ n, U8 (idsB g n)
  | 0 => fun z hz => by simp [idsB] at hz
  | n + 1 => (idsB_u8 g n).app (idB_u8 _)
theorem litB_u8 (n3 : Nat) (h : Nat → Bool) : ∀ m, U8 (litB n3 h m)
  | 0 => fun z hz => by simp [litB] at hz
  | m + 1 => (litB_u8 n3 h m).app fun z hz => by
    have e : z = bitsF n3 h (8 * m) 8 := by simpa using hz
    have := bitsF_small n3 h (8 * m) 8 (by decide)
    omega
theorem encPc_u8 (n1 n3 : Nat) (g : Nat → Int) (L : Int) (h : Nat → Bool) : U8 (encPc n1 n3 g L h) := by
  refine (U8.app (U8.app (U8.app ?_ (leB_u8 _ _)) (leB_u8 _ _)) (idsB_u8 _ _)).app (litB_u8 _ _ _)
  intro z hz
  simp at hz
  omega
theorem encPc_ne (n1 n3 : Nat) (g : Nat → Int) (L : Int) (h : Nat → Bool) : encPc n1 n3 g L h ≠ [] := by
  intro e
  have := congrArg List.length e
  simp [encPc, headP_length] at this

theorem idsB_congr {g g' : Nat → Int} : ∀ n, (∀ i, i < n → g i = g' i) → idsB g n = idsB g' n
  | 0, _ => rfl
  | n + 1, e => by rw [idsB, idsB, idsB_congr n fun i hi => e i (by omega), e n (by omega)]
theorem bitF_congr {n3 : Nat} {h h' : Nat → Bool} (e : ∀ j, j < n3 → h j = h' j) (j : Nat) : bitF n3 h j = bitF n3 h' j := by
  unfold bitF
  by_cases hj : j < n3
  · rw [e j hj]
  · rw [if_neg (fun x => hj x.1), if_neg (fun x => hj x.1)]
theorem bitsF_congr {n3 : Nat} {h h' : Nat → Bool} (e : ∀ j, j < n3 → h j = h' j) (i : Nat) : ∀ t, bitsF n3 h i t = bitsF n3 h' i t
  | 0 => rfl
  | t + 1 => by rw [bitsF, bitsF, bitsF_congr e i t, bitF_congr e]
theorem litB_congr {n3 : Nat} {h h' : Nat → Bool} (e : ∀ j, j < n3 → h j = h' j) : ∀ m, litB n3 h m = litB n3 h' m
  | 0 => rfl
  | m + 1 => by rw [litB, litB, litB_congr e m, bitsF_congr e]

/-- Where there is a picture, it is the one that is read. -/
theorem IsPic.read {bs : List Int} {n1 n3 : Nat} {g : Nat → Int} {L : Int} {h : Nat → Bool} (p : IsPic bs n1 n3 g L h) {N M Lt : Nat} (hN : (N : Int) = numB bs 4 2 ∧ (Lt : Int) = numB bs 6 1) (hM : (N : Int) * Lt = M) : IsPic bs N M (idv bs) Lt (bitv bs N) := by
  obtain ⟨b1, b2, b3, b4, b5⟩ := p.bounds
  rw [p.count, p.lights] at hN
  obtain ⟨e1, e2⟩ := hN
  have e1 : N = n1 := by omega
  subst e1
  subst e2
  have e3 : n3 = M := by omega
  subst e3
  have eg : ∀ i, i < N → g i = idv bs i := by
    intro i hi
    unfold idv
    rw [p.id hi]
    have := b5 i hi
    split <;> split <;> omega
  have eh : ∀ j, j < n3 → h j = bitv bs N j := fun j hj => (p.bit hj).symm
  refine ⟨?_, ?_⟩
  · have q := p.ok
    unfold validPc at q ⊢
    simp only [Bool.and_eq_true, List.all_eq_true, List.mem_range] at q ⊢
    refine ⟨q.1, fun i hi => ?_⟩
    have := q.2 i hi
    unfold idOK at this ⊢
    rw [← eg i hi]
    exact this
  · have q := p.enc
    unfold encPc at q ⊢
    rw [← idsB_congr N eg, ← litB_congr eh]
    exact q

theorem bs_ne {bs : List Int} {N : Nat} (h : (N : Int) = numB bs 4 2) : bs ≠ [] := by
  intro e
  subst e
  rw [numB_short (by simp)] at h
  omega

theorem str_list (x y : ByteArray) : (x.toList == y.toList) = (x == y) := by
  rw [ba_beq, ByteArray.toList_eq, ByteArray.toList_eq]
  by_cases h : x.data = y.data
  · rw [h]
    simp
  · rw [beq_eq_false_iff_ne.2 h, beq_eq_false_iff_ne.2 fun e => h (Array.toList_inj.1 e)]

end Go.Proofs.YtiajhekjojeaeaaGreat

/-
  DrawEncodeScene and DrawDecodeScene told by the code's bytes.
-/
namespace Go.Proofs.YtiajhekjojeaeaaGreat
open Go.RowKit

/-- The code: a slice of bytes that is held. -/
structure CodeAt (w : World) (a : Option Addr) (c : Nat) (bs : List Int) : Prop where
  n : bs.length ≤ 1048576
  c1 : bs.length ≤ c
  c2 : c ≤ maxLen
  nil : a = none → c = 0
  row : RowAt .u8 w a bs
  dig : Dig 256 bs
theorem CodeAt.later {w w' : World} {a : Option Addr} {c : Nat} {bs : List Int} (h : CodeAt w a c bs) (hb : Below w.heap.size w w') : CodeAt w' a c bs := ⟨h.n, h.c1, h.c2, h.nil, h.row.later hb, h.dig⟩
theorem CodeAt.open_ {w : World} {a : Option Addr} {c : Nat} {bs : List Int} (h : CodeAt w a c bs) : Calls Tryz.prog 19 #[.slice a bs.length c] w fun e w' => OpenF w bs e w' := openF_any a c bs w h.n h.c1 h.c2 h.nil h.row h.dig

/-- A new scene is handed back. -/
def DscOut (n1 n2 n3 : Nat) (z1 z2 z3 : List Int) (w : World) (e : Ending) (w' : World) : Prop :=
  ∃ a1 a2 a3 c1 c2 c3 l1 h1 l2 h2 l3 h3, e = .returned (.agg #[.slice a1 n1 c1, .slice a2 n2 c2, .slice a3 n3 c3]) ∧ ScDj w' w.heap.size w'.heap.size a1 a2 a3 n1 n2 n3 z1 z2 z3 l1 h1 l2 h2 l3 h3 ∧ Below w.heap.size w w'

theorem ScDj.low {w : World} {lo hi : Nat} {a1 a2 a3 : Option Addr} {n1 n2 n3 : Nat} {z1 z2 z3 : List Int} {l1 h1 l2 h2 l3 h3 : Nat} (h : ScDj w lo hi a1 a2 a3 n1 n2 n3 z1 z2 z3 l1 h1 l2 h2 l3 h3) {X : Nat} (hX : X < lo) (j : Nat) (v : Value) : ScDj (w.setCell ⟨X, j, none⟩ v) lo hi a1 a2 a3 n1 n2 n3 z1 z2 z3 l1 h1 l2 h2 l3 h3 :=
  ⟨h.e1, h.e2, h.e3, h.i1, h.i2, h.i3, h.d12, h.d13, h.d23, by simpa using h.top, rowIn_aside h.r1 ((Aside.refl X _).set j v) (Nat.lt_of_lt_of_le hX h.i1.1), rowIn_aside h.r2 ((Aside.refl X _).set j v) (Nat.lt_of_lt_of_le hX h.i2.1), rowIn_aside h.r3 ((Aside.refl X _).set j v) (Nat.lt_of_lt_of_le hX h.i3.1)⟩
theorem ScDj.down {w : World} {lo hi lo' hi' : Nat} {a1 a2 a3 : Option Addr} {n1 n2 n3 : Nat} {z1 z2 z3 : List Int} {l1 h1 l2 h2 l3 h3 : Nat} (h : ScDj w lo hi a1 a2 a3 n1 n2 n3 z1 z2 z3 l1 h1 l2 h2 l3 h3) (hl : lo' ≤ lo) (hh : hi ≤ hi') (ht : hi' ≤ w.heap.size) : ScDj w lo' hi' a1 a2 a3 n1 n2 n3 z1 z2 z3 l1 h1 l2 h2 l3 h3 :=
  ⟨h.e1, h.e2, h.e3, ⟨Nat.le_trans hl h.i1.1, Nat.le_trans h.i1.2 hh⟩, ⟨Nat.le_trans hl h.i2.1, Nat.le_trans h.i2.2 hh⟩, ⟨Nat.le_trans hl h.i3.1, Nat.le_trans h.i3.2 hh⟩, h.d12, h.d13, h.d23, ht, h.r1, h.r2, h.r3⟩

set_option maxRecDepth 100000 in
set_option maxHeartbeats 4000000 in
theorem drawES (bs : List Int) {n1 n2 n3 : Nat} {z1 z2 z3 rs' : List Int} (hd : SceneD (bs.take 500) n1 n2 n3 z1 z2 z3 rs') (a : Option Addr) (c : Nat) (w : World) (h : CodeAt w a c bs) :
    Calls Tryz.prog 4 #[.slice a bs.length c] w fun e w' => DscOut n1 n2 n3 z1 z2 z3 w e w' := by
  have HD : Hid (SceneD (bs.take 500) n1 n2 n3 z1 z2 z3 rs') := hd
  obtain ⟨W0, hW0⟩ : ∃ W0, W0 = w.alloc (.cells #[.slice none 0 0, .slice none 0 0, .slice none 0 0] 27) := ⟨_, rfl⟩
  have X0 : Hid (BxF W0 w.heap.size (.slice none 0 0) (.slice none 0 0) (.slice none 0 0)) := by unfold Hid; rw [hW0]; exact BxF.new _ _ _ _ _
  have bW0 : Below w.heap.size w W0 := by rw [hW0]; exact bel0 _ _
  have HC : Hid (CodeAt W0 a c bs) := h.later bW0
  clear hd h
  go_enter Tryz.func4, Tryz.ntmps4
  go_wp2_with fail
  rw [← hW0]
  clear hW0
  refine HC.out.open_.mono ?_
  rintro e w1 ⟨rfl, hr, hb, hs⟩
  have HR : Hid (Rs W0.heap.size (bs.take 500) w1) := hr
  have B1 : Hid (Below W0.heap.size W0 w1) := hb
  have y0 : w.heap.size < W0.heap.size := X0.out.lt
  clear hr hb HC
  go_wp2_with fail
  refine (HD.out.tells W0.heap.size _ HR.out).mono ?_
  rintro e w2 ⟨a1, a2, a3, c1, c2, c3, l1, h1, l2, h2, l3, h3, rfl, hj, _, ha⟩
  have B2 : Hid (Below W0.heap.size W0 w2) := B1.out.trans (ha.below (Nat.le_refl _) (by omega))
  have X2 := X0.out.aside (Aside.of (P := W0.heap.size) B2.out) (by omega)
  have HJ : Hid (ScDj w2 w1.heap.size w2.heap.size a1 a2 a3 n1 n2 n3 z1 z2 z3 l1 h1 l2 h2 l3 h3) := hj
  have x0 := X2.q0
  have x1 := X2.q1
  have x2 := X2.q2
  have f0 := X2.fr 0
  have f1 := X2.fr 1
  have f2 := X2.fr 2
  clear hj ha HR B1 HD X2 X0
  go_wp2
  refine bodyPost_ret (v := .agg #[.slice a1 n1 c1, .slice a2 n2 c2, .slice a3 n3 c3]) (by simp [results, Tryz.results4, go_sem, x0, x1, x2]) rfl ?_
  have hl : w.heap.size < w1.heap.size := by omega
  refine ⟨a1, a2, a3, c1, c2, c3, l1, h1, l2, h2, l3, h3, rfl, (((HJ.out.low hl 0 _).low hl 1 _).low hl 2 _).down (Nat.le_of_lt hl) (by simp) (Nat.le_refl _), ?_⟩
  exact (((bW0.trans (B2.out.mono (Nat.le_of_lt y0))).setCell (p := ⟨w.heap.size, 0, none⟩) (Nat.le_refl _) _).setCell (p := ⟨w.heap.size, 1, none⟩) (Nat.le_refl _) _).setCell (p := ⟨w.heap.size, 2, none⟩) (Nat.le_refl _) _

theorem encSc_u8 (n1 n2 n3 : Nat) (z1 z2 z3 : List Int) : U8 (encSc n1 n2 n3 z1 z2 z3) := by
  have hf : ∀ zs : List Int, U8 (flatB zs) := by
    intro zs z hz
    simp only [flatB, List.mem_flatMap] at hz
    obtain ⟨y, _, hy⟩ := hz
    exact leB_u8 _ _ z hy
  intro z hz
  rw [encSc_flat] at hz
  rcases List.mem_append.1 hz with h | h
  · simp only [headB, List.mem_append] at h
    rcases h with ((h | h) | h) | h
    · simp at h; omega
    · exact leB_u8 _ _ z h
    · exact leB_u8 _ _ z h
    · exact leB_u8 _ _ z h
  · exact hf _ z h

/-- What DrawDecodeScene draws. -/
def decY (bs : List Int) (ys rs' : List Int) : List Int := if (bs.take 500).headD 0 % 3 > 0 then spoilY rs' ys else ys

theorem encSc_len {n1 n2 n3 : Nat} {z1 z2 z3 : List Int} (h1 : z1.length = n1 * 9) (h2 : z2.length = n2 * 6) (h3 : z3.length = n3 * 3) : (encSc n1 n2 n3 z1 z2 z3).length = 9 + 4 * (n1 * 9 + n2 * 6 + n3 * 3) := by
  simp [encSc, headB_length, flatB_length, h1, h2, h3]
  omega

set_option maxRecDepth 100000 in
set_option maxHeartbeats 4000000 in
theorem drawDS (bs : List Int) {n1 n2 n3 : Nat} {z1 z2 z3 rs' : List Int} (hd : SceneD (bs.take 500).tail n1 n2 n3 z1 z2 z3 rs') (a : Option Addr) (c : Nat) (w : World) (h : CodeAt w a c bs) :
    Calls Tryz.prog 9 #[.slice a bs.length c] w fun e w' => SpoilOut w.heap.size w.heap.size (decY bs (encSc n1 n2 n3 z1 z2 z3) rs') w e w' := by
  have HD : Hid (SceneD (bs.take 500).tail n1 n2 n3 z1 z2 z3 rs') := hd
  have HC : Hid (CodeAt w a c bs) := h
  obtain ⟨ys, hys⟩ : ∃ ys, ys = encSc n1 n2 n3 z1 z2 z3 := ⟨_, rfl⟩
  have hyl : ys.length ≤ 4000 := by
    rw [hys, encSc_len hd.l1 hd.l2 hd.l3]
    have := hd.b1; have := hd.b2; have := hd.b3
    omega
  have hb1 : n1 ≤ 10000 := Nat.le_trans hd.b1 (by decide)
  have hb2 : n2 ≤ 10000 := Nat.le_trans hd.b2 (by decide)
  have hb3 : n3 ≤ 10000 := Nat.le_trans hd.b3 (by decide)
  obtain ⟨kk, hkk⟩ : ∃ k, k = (bs.take 500).headD 0 := ⟨_, rfl⟩
  have HK : Hid ((bs.take 500).headD 0 = kk) := hkk.symm
  have HY : Hid (decY bs (encSc n1 n2 n3 z1 z2 z3) rs' = if kk % 3 > 0 then spoilY rs' ys else ys) := by unfold Hid decY; rw [← hys, hkk]
  have HYS : Hid (encSc n1 n2 n3 z1 z2 z3 = ys) := hys.symm
  have HDY : Hid (Dig 256 ys) := by unfold Hid; rw [hys]; exact encSc_u8 _ _ _ _ _ _
  clear hd h hys hkk
  go_enter Tryz.func9, Tryz.ntmps9
  go_wp2_with fail
  refine HC.out.open_.mono ?_
  rintro e w1 ⟨rfl, hr, hb, hs⟩
  have HR : Hid (Rs w.heap.size (bs.take 500) w1) := hr
  have B1 : Hid (Below w.heap.size w w1) := hb
  clear hr hb HC
  go_wp2_with fail
  refine (nextF_any w.heap.size (bs.take 500) _ HR.out).mono ?_
  rintro e w2 ⟨rfl, c0, c1, hr, ha⟩
  rw [HK.out] at c0 c1 ⊢
  have HR2 : Hid (Rs w.heap.size (bs.take 500).tail w2) := hr
  have B2 : Hid (Below w.heap.size w w2) := B1.out.trans (ha.below (Nat.le_refl _) (by omega))
  have y2 : w.heap.size < w2.heap.size := hr.lt
  clear hr ha HR B1
  go_wp2_with fail
  refine (HD.out.tells w.heap.size _ HR2.out).mono ?_
  rintro e w3 ⟨a1, a2, a3, k1, k2, k3, l1, h1, l2, h2, l3, h3, rfl, hj, hr, ha⟩
  have HR3 : Hid (Rs w.heap.size rs' w3) := hr
  have B3 : Hid (Below w.heap.size w w3) := B2.out.trans (ha.below (Nat.le_refl _) (by omega))
  have HJ : Hid (ScAt w3 a1 a2 a3 n1 n2 n3 z1 z2 z3) := hj.at
  have y3 : w.heap.size < w3.heap.size := hr.lt
  clear hr ha hj HR2 B2
  go_wp2_with fail
  refine (scene6_any a1 a2 a3 n1 n2 n3 k1 k2 k3 z1 z2 z3 _ hb1 hb2 hb3 HJ.out HD.out.u1 HD.out.u2 HD.out.u3).mono ?_
  rintro e w4 ⟨v, rfl, ho, hb⟩
  rw [HYS.out] at ho
  have HO : Hid (OwnY w4 w3.heap.size v ys) := ho
  have HR4 : Hid (Rs w.heap.size rs' w4) := HR3.out.later hb
  have B4 : Hid (Below w.heap.size w w4) := B3.out.trans (hb.mono (Nat.le_of_lt y3))
  have y4 : w3.heap.size ≤ w4.heap.size := hb.size
  have hm3 : kk.tmod 3 = kk % 3 := Int.tmod_eq_emod_of_nonneg c0
  clear ho hb HR3 B3 HJ HD
  by_cases k3 : kk % 3 > 0
  · have k3' : kk % 3 = 1 ∨ kk % 3 = 2 := by omega
    have hE : Hid (decY bs (encSc n1 n2 n3 z1 z2 z3) rs' = spoilY rs' ys) := by unfold Hid; rw [HY.out, if_pos k3]
    clear HY
    rcases k3' with k3' | k3' <;> (
      rw [k3'] at hm3
      clear k3 k3'
      go_wp2_with fail
      refine (spoil_any rs' ys hyl HDY.out w.heap.size w3.heap.size y3 _ _ HR4.out HO.out y4).mono ?_
      rintro e w5 ⟨⟨a5, c5, rfl, hc5, hr5, hb5⟩, hd5⟩
      go_wp2
      go_ret
      rw [hE.out]
      exact ⟨⟨a5, c5, rfl, hc5, hr5.down (Nat.le_of_lt y3), B4.out.trans hb5⟩, hd5⟩)
  · have hE : Hid (decY bs (encSc n1 n2 n3 z1 z2 z3) rs' = ys) := by unfold Hid; rw [HY.out, if_neg k3]
    have k3' : kk % 3 = 0 := by omega
    rw [k3'] at hm3
    clear k3 k3' HY
    obtain ⟨a5, c5, rfl, hr5⟩ := HO.out.row
    obtain ⟨_, hc5, _⟩ := ownY_out HO.out
    go_wp2
    go_ret
    rw [hE.out]
    exact ⟨⟨a5, c5, rfl, hc5, hr5.down (Nat.le_of_lt y3), B4.out⟩, HDY.out⟩

end Go.Proofs.YtiajhekjojeaeaaGreat
