/-
  The model's dyadic numbers: valid ones, normal forms.
-/
import Derived.Test.YtladfpljnaippaaDoorDy1h
import Derived.Test.YtladfpljnaippaaDoorRes
import Derived.Test.YtladfpljnaippaaDoorNum
namespace Go.Proofs.YtladfpljnaippaaDoor
open Go.RowKit

/-- Is the Dyadic valid? -/
def validD (g : Bool) (zs : List Int) (E : Int) : Bool := validB g zs && (decide (-20000 ≤ E) && decide (E ≤ 20000))

set_option maxHeartbeats 1000000 in
theorem valid2S_any (g : Bool) (a : Option Addr) (c : Nat) (zs : List Int) (E : Int) (w : World) (hn : zs.length ≤ 1048576) (hz : RowAt .u32 w a zs) :
    Calls Tryd.prog 34 #[.agg #[.bool g, .slice a zs.length c, .int .i64 E]] w fun e w' => e = .returned (.bool (validD g zs E)) ∧ Below w.heap.size w w' := by
  unfold validD
  cases hv : validB g zs
  · go_enter Tryd.func34, Tryd.ntmps34
    go_wp2_with fail
    refine (validS_any g a c zs _ (by unfold maxLen; omega) (hz.later (bel0 _ _))).mono ?_
    rintro e w1 ⟨rfl, hb1⟩
    rw [hv]
    have HB : Hid (Below w.heap.size w w1) := (bel0 _ _).trans (hb1.mono (by simp))
    clear hb1
    go_wp2
    go_ret
    exact ⟨rfl, HB.out⟩
  · by_cases h1 : -20000 ≤ E
    · by_cases h2 : E ≤ 20000
      · have HR : Hid ((true && (decide (-20000 ≤ E) && decide (E ≤ 20000))) = true) := by unfold Hid; simp [h1, h2]
        rw [HR.out]
        go_enter Tryd.func34, Tryd.ntmps34
        go_wp2_with fail
        refine (validS_any g a c zs _ (by unfold maxLen; omega) (hz.later (bel0 _ _))).mono ?_
        rintro e w1 ⟨rfl, hb1⟩
        rw [hv]
        have HB : Hid (Below w.heap.size w w1) := (bel0 _ _).trans (hb1.mono (by simp))
        have q2 : w1.cell? ⟨w.heap.size, 2, none⟩ = some (.int .i64 E) := by rw [(bcell hb1).1 _ _ (by simp)]; simp [go_sem]
        clear hb1
        go_wp2
        go_ret
        exact ⟨ret_bool (by simp), HB.out⟩
      · have HR : Hid ((true && (decide (-20000 ≤ E) && decide (E ≤ 20000))) = false) := by unfold Hid; simp; omega
        rw [HR.out]
        go_enter Tryd.func34, Tryd.ntmps34
        go_wp2_with fail
        refine (validS_any g a c zs _ (by unfold maxLen; omega) (hz.later (bel0 _ _))).mono ?_
        rintro e w1 ⟨rfl, hb1⟩
        rw [hv]
        have HB : Hid (Below w.heap.size w w1) := (bel0 _ _).trans (hb1.mono (by simp))
        have q2 : w1.cell? ⟨w.heap.size, 2, none⟩ = some (.int .i64 E) := by rw [(bcell hb1).1 _ _ (by simp)]; simp [go_sem]
        clear hb1
        go_wp2
        go_ret
        exact ⟨ret_bool (by simp; omega), HB.out⟩
    · have HR : Hid ((true && (decide (-20000 ≤ E) && decide (E ≤ 20000))) = false) := by unfold Hid; simp; omega
      rw [HR.out]
      go_enter Tryd.func34, Tryd.ntmps34
      go_wp2_with fail
      refine (validS_any g a c zs _ (by unfold maxLen; omega) (hz.later (bel0 _ _))).mono ?_
      rintro e w1 ⟨rfl, hb1⟩
      rw [hv]
      have HB : Hid (Below w.heap.size w w1) := (bel0 _ _).trans (hb1.mono (by simp))
      have q2 : w1.cell? ⟨w.heap.size, 2, none⟩ = some (.int .i64 E) := by rw [(bcell hb1).1 _ _ (by simp)]; simp [go_sem]
      clear hb1
      go_wp2
      go_ret
      exact ⟨rfl, HB.out⟩

set_option maxHeartbeats 4000000 in
theorem of2_any (g : Bool) (a : Option Addr) (c : Nat) (zs : List Int) (E : Int) (w : World) (hn : zs.length ≤ 20000) (he0 : -1000000 ≤ E) (he1 : E ≤ 1000000) (hz : RowAt .u32 w a zs) (hu : U32 zs) :
    Calls Tryd.prog 36 #[.agg #[.bool g, .slice a zs.length c, .int .i64 E]] w fun e w' => NormOut w (2 * zs.length) (sg g (val 4294967296 zs)) E (32 * zs.length) e w' := by
  have B0 : Hid (∀ t t', Bx3 w (.bool g) (.slice a zs.length c) (.int .i64 E) ((w.alloc (.cells #[.bool g, .slice a zs.length c, .int .i64 E] t)).alloc (.cells #[.bool false, .slice none 0 0, .int .i64 0] t'))) := fun t t' => Bx3.start w _ _ _ _ _
  go_enter Tryd.func36, Tryd.ntmps36
  go_wp2
  obtain ⟨W0, hW0⟩ : ∃ W0, W0 = ((w.alloc (.cells #[.bool g, .slice a zs.length c, .int .i64 E] 27)).alloc (.cells #[.bool false, .slice none 0 0, .int .i64 0] 45)) := ⟨_, rfl⟩
  have F : Hid (Bx3 w (.bool g) (.slice a zs.length c) (.int .i64 E) W0) := by unfold Hid; rw [hW0]; exact B0.out _ _
  rw [← hW0]
  clear hW0 B0
  have zz : w.heap.size + 1 < W0.heap.size := F.out.le
  go_region_held3 (fun w' => w'.cell? ⟨w.heap.size, 0, none⟩ = some (.bool g) ∧ w'.cell? ⟨w.heap.size, 1, none⟩ = some (.slice a zs.length c) ∧ w'.cell? ⟨w.heap.size, 2, none⟩ = some (.int .i64 E) ∧ Below (w.heap.size + 1) W0 w')
    (first | exact F.out.held (Below.refl _ _).drew | exact F.out.held (by assumption) | exact F.out.held (Below.setCell (Below.setCell (Below.setCell (by assumption) (by simp) _) (by simp) _) (by simp) _))
    (first
      | (go_at_call 59; refine (of_any g a c zs _ (by omega) (hz.later F.out.bel.drew) hu).mono ?_; rintro e w1 ⟨g1, a1, c1, ds, rfl, hl1, hL1, hb1⟩; have hB1 : Below W0.heap.size W0 w1 := (Below.refl _ _).drew.trans hb1; have hB1' : Below (w.heap.size + 1) W0 w1 := hB1.mono (by omega))
      | (go_at_call 41; refine (norm_any g1 a1 c1 ds _ E _ (by omega) he0 he1 hL1).mono ?_; rintro e w2 ⟨m, e', hnf, g2, a2, c2, fs, rfl, hl2, hL2, hF2, hb2⟩; have hB2 : Below W0.heap.size W0 w2 := hB1.trans (hb2.mono hB1.size); have hB2' : Below (w.heap.size + 1) W0 w2 := hB2.mono (by omega); have F2 : Hid (Bx3 w (.bool g) (.slice a zs.length c) (.int .i64 E) w2) := F.out.later hB2; have r1 := F2.out.r1; have r2 := F2.out.r2; have r3 := F2.out.r3; have r4 := F2.out.r4))
  have HL2 : Hid (L1 w2 g2 a2 c2 fs m) := hL2
  have HF2 : Hid (Far (w.heap.size + 1 + 1) a2 fs) := hF2.down (by have := hB1.size; omega)
  have HN : Hid (NormOf (sg g (val 4294967296 zs)) E m e' (32 * zs.length)) := by
    rcases hnf with h | ⟨h1, t, h2, h3, h4, h5⟩
    · exact .inl h
    · exact .inr ⟨h1, t, h2, h3, h4, by omega⟩
  clear hL2 hF2 hB1 hB1' hB2 hB2' hb1 hb2 hL1 hnf
  go_wp2
  refine bodyPost_ret (v := .agg #[.bool g2, .slice a2 fs.length c2, .int .i64 e']) (by simp [results, Tryd.results36, go_sem, r1, r2, r3]) rfl ?_
  refine ⟨m, e', HN.out, g2, a2, c2, fs, rfl, by omega, ?_, HF2.out.down (by omega), ?_⟩
  · exact ((HL2.out.setFar HF2.out (by simp) _).setFar HF2.out (by simp) _).setFar HF2.out (by simp) _
  · exact ((F2.out.bel.setCell (by simp) _).setCell (by simp) _).setCell (by simp) _

end Go.Proofs.YtladfpljnaippaaDoor

/-
  Plain mathematics: products, digit by digit.
-/
namespace Go.Proofs.YtladfpljnaippaaDoor

/-- x times the digits ys, added to the digits ms. -/
def mulsL (x : Int) : List Int → List Int → List Int
  | [], _ => []
  | y :: ys, [] => (x * y) :: mulsL x ys []
  | y :: ys, m :: ms => (x * y + m) :: mulsL x ys ms

theorem muls_length (x : Int) : ∀ ys ms : List Int, (mulsL x ys ms).length = ys.length
  | [], _ => rfl
  | y :: ys, [] => by simp only [mulsL, List.length_cons, muls_length x ys []]
  | y :: ys, m :: ms => by simp only [mulsL, List.length_cons, muls_length x ys ms]

theorem val_muls (B x : Int) : ∀ ys ms : List Int, val B (mulsL x ys ms) = x * val B ys + val B (ms.take ys.length)
  | [], _ => by simp [mulsL, val]
  | y :: ys, [] => by
    have ih := val_muls B x ys []
    simp only [mulsL, val, ih, List.take_nil, Int.add_zero, Int.mul_add]
    rw [Int.mul_left_comm]
  | y :: ys, m :: ms => by
    have ih := val_muls B x ys ms
    simp only [mulsL, val, ih, List.length_cons, List.take_succ_cons, Int.mul_add]
    rw [Int.mul_left_comm x B]
    omega

theorem muls_drop (x : Int) {ys ms : List Int} {j : Nat} (h : j < ys.length) : mulsL x (ys.drop j) (ms.drop j) = (x * ys.getD j 0 + ms.getD j 0) :: mulsL x (ys.drop (j + 1)) (ms.drop (j + 1)) := by
  rw [List.drop_eq_getElem_cons h]
  by_cases h2 : j < ms.length
  · rw [List.drop_eq_getElem_cons h2]
    simp [mulsL, List.getD_eq_getElem?_getD, h, h2]
  · rw [List.drop_eq_nil_of_le (show ms.length ≤ j by omega), List.drop_eq_nil_of_le (show ms.length ≤ j + 1 by omega)]
    rw [List.getD_eq_getElem?_getD, List.getD_eq_getElem?_getD, List.getElem?_eq_none (show ms.length ≤ j by omega), List.getElem?_eq_getElem h]
    simp [mulsL]

theorem mul_step {B x c s : Int} {ys ms : List Int} {j : Nat} (h : j < ys.length) (hs : s = x * ys.getD j 0 + ms.getD j 0 + c) :
    carryD B (mulsL x (ys.drop j) (ms.drop j)) c = s % B :: carryD B (mulsL x (ys.drop (j + 1)) (ms.drop (j + 1))) (s / B) ∧ carryO B (mulsL x (ys.drop j) (ms.drop j)) c = carryO B (mulsL x (ys.drop (j + 1)) (ms.drop (j + 1))) (s / B) := by
  rw [muls_drop x h, hs]
  exact ⟨rfl, rfl⟩

theorem mul_bound {B x y : Int} (h0 : 0 ≤ x) (h1 : x < B) (h2 : 0 ≤ y) (h3 : y < B) : 0 ≤ x * y ∧ x * y ≤ (B - 1) * (B - 1) :=
  ⟨Int.mul_nonneg h0 h2, Int.mul_le_mul (by omega) (by omega) h2 (by omega)⟩

theorem carry_bound {B s : Int} (hB : 0 < B) (h0 : 0 ≤ s) (h1 : s ≤ (B - 1) * (B - 1) + (B - 1) + (B - 1)) : 0 ≤ s / B ∧ s / B ≤ B - 1 := by
  refine ⟨Int.ediv_nonneg h0 (by omega), ?_⟩
  have : s / B < B := by
    refine Int.ediv_lt_of_lt_mul hB ?_
    have e : (B - 1) * (B - 1) = B * B - B - B + 1 := by
      rw [Int.sub_mul, Int.mul_sub]
      omega
    omega
  omega

/-- One row of a product: the digits i .. of P gain x times ys. -/
theorem row_step {B x : Int} {P ys : List Int} {i : Nat} {D : List Int} {c : Int} (hl : i + ys.length < P.length) (hD : D = carryD B (mulsL x ys (P.drop i)) 0) (hc : c = carryO B (mulsL x ys (P.drop i)) 0) (h0 : P.getD (i + ys.length) 0 = 0) :
    val B (P.take i ++ ((D ++ [c]) ++ P.drop (i + ys.length + 1))) = val B P + B ^ i * (x * val B ys) := by
  have hti : (P.take i).length = i := by rw [List.length_take]; omega
  have hDl : (D ++ [c]).length = ys.length + 1 := by rw [hD, List.length_append, carryD_length, muls_length]; rfl
  have e1 : val B (D ++ [c]) = x * val B ys + val B ((P.drop i).take ys.length) := by rw [hD, hc, val_carryDO, val_muls]; omega
  have e2 : val B P = val B (P.take i) + B ^ i * (val B ((P.drop i).take ys.length) + B ^ ys.length * val B (P.drop (i + ys.length))) := by
    have a1 := val_append B (P.drop i) (P.take i)
    rw [List.take_append_drop, hti] at a1
    have a2 := val_append B ((P.drop i).drop ys.length) ((P.drop i).take ys.length)
    rw [List.take_append_drop] at a2
    have hl2 : ((P.drop i).take ys.length).length = ys.length := by rw [List.length_take, List.length_drop]; omega
    rw [hl2, List.drop_drop] at a2
    rw [a1, a2]
  have e3 : val B (P.drop (i + ys.length)) = B * val B (P.drop (i + ys.length + 1)) := by
    rw [List.drop_eq_getElem_cons hl]
    have : P[i + ys.length] = 0 := by simpa [List.getD_eq_getElem?_getD, hl] using h0
    rw [this]
    simp [val]
  rw [val_append, hti, val_append, hDl, e1, e2, e3, Int.pow_succ]
  simp only [Int.mul_add]
  rw [Int.mul_assoc (B ^ ys.length) B]
  omega

theorem val_take_succ {B : Int} {zs : List Int} {i : Nat} (h : i < zs.length) : val B (zs.take (i + 1)) = val B (zs.take i) + B ^ i * zs.getD i 0 := by
  rw [List.take_succ_eq_append_getElem h, val_append]
  have hti : (zs.take i).length = i := by rw [List.length_take]; omega
  rw [hti]
  simp [val, List.getD_eq_getElem?_getD, h]

/-- What the rows so far have made of the product. -/
structure Prod (B : Int) (zs ys : List Int) (L i : Nat) (P : List Int) : Prop where
  dig : Dig B P
  len : P.length = L
  eq : val B P = val B (zs.take i) * val B ys
  up : ∀ j, i + ys.length ≤ j → P.getD j 0 = 0

theorem prod_start (B : Int) (hB : 0 < B) (zs ys : List Int) (L : Nat) : Prod B zs ys L 0 (List.replicate L 0) := by
  refine ⟨fun z hz => ?_, by simp, ?_, fun j _ => ?_⟩
  · rw [List.eq_of_mem_replicate hz]; exact ⟨Int.le_refl 0, hB⟩
  · have : ∀ n : Nat, val B (List.replicate n 0) = 0 := by
      intro n
      induction n with
      | zero => rfl
      | succ n ih => simp [List.replicate_succ, val, ih]
    rw [this]
    simp [val]
  · by_cases hj : j < L
    · simp [List.getD_eq_getElem?_getD, hj]
    · simp [List.getD_eq_getElem?_getD, hj]

theorem prod_step {B x c : Int} (hB : 1 < B) {zs ys P D : List Int} {L i : Nat} (h : Prod B zs ys L i P) (hi : i < zs.length) (hL : i + ys.length < L) (hx : x = zs.getD i 0) (hD : D = carryD B (mulsL x ys (P.drop i)) 0) (hc : c = carryO B (mulsL x ys (P.drop i)) 0) (hc0 : 0 ≤ c) (hc1 : c < B) :
    Prod B zs ys L (i + 1) (P.take i ++ ((D ++ [c]) ++ P.drop (i + ys.length + 1))) := by
  have hl : i + ys.length < P.length := by rw [h.len]; exact hL
  have hti : (P.take i).length = i := by rw [List.length_take]; omega
  have hDl : (D ++ [c]).length = ys.length + 1 := by rw [hD, List.length_append, carryD_length, muls_length]; rfl
  refine ⟨?_, ?_, ?_, ?_⟩
  · exact (h.dig.take i).append (((by rw [hD]; exact dig_carryD (by omega) _ _ : Dig B D).append (Dig.cons hc0 hc1 (Dig.nil B))).append (h.dig.drop _))
  · rw [List.length_append, List.length_append, hti, hDl, List.length_drop, h.len]; omega
  · rw [row_step hl hD hc (h.up _ (Nat.le_refl _)), h.eq, val_take_succ hi, Int.add_mul, hx, Int.mul_assoc]
  · intro j hj
    rw [List.getD_eq_getElem?_getD, List.getElem?_append_right (by rw [hti]; omega), List.getElem?_append_right (by rw [hti, hDl]; omega), hti, hDl, List.getElem?_drop, ← List.getD_eq_getElem?_getD]
    exact h.up _ (by omega)

/-- The product's own row while a row of digits is being added. -/
theorem mid_get {P D : List Int} {i j k : Nat} (hi : i + j ≤ k) (hD : D.length = j) (hP : i ≤ P.length) : (P.take i ++ (D ++ P.drop (i + j))).getD k 0 = P.getD k 0 := by
  have hti : (P.take i).length = i := by rw [List.length_take]; omega
  rw [List.getD_eq_getElem?_getD, List.getElem?_append_right (by omega), List.getElem?_append_right (by omega), hti, hD, List.getElem?_drop, List.getD_eq_getElem?_getD]
  congr 2
  omega

theorem mid_set {P D : List Int} {i j : Nat} {d : Int} (hD : D.length = j) (hP : i + j < P.length) : (P.take i ++ (D ++ P.drop (i + j))).set (i + j) d = P.take i ++ ((D ++ [d]) ++ P.drop (i + j + 1)) := by
  have hti : (P.take i).length = i := by rw [List.length_take]; omega
  have e := List.drop_eq_getElem_cons hP
  rw [List.set_append_right _ _ (by omega), hti, show i + j - i = j by omega, List.set_append_right _ _ (by omega), hD, Nat.sub_self, e, List.set_cons_zero, List.append_assoc D [d]]
  rfl

theorem mid_length {P D : List Int} {i j : Nat} (hD : D.length = j) (hP : i + j ≤ P.length) : (P.take i ++ (D ++ P.drop (i + j))).length = P.length := by
  rw [List.length_append, List.length_append, List.length_take, List.length_drop]; omega

end Go.Proofs.YtladfpljnaippaaDoor
