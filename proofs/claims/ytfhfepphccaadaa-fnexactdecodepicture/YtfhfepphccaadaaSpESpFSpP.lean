/-
  The model's l6point.
-/
import Derived.Test.YtfhfepphccaadaaNumUOffAppB
import Derived.Test.YtfhfepphccaadaaSpVSpWLawVsScMPcA
import Derived.ArgAppend
import Derived.Lib.SmallJoins
import Derived.Test.YtfhfepphccaadaaPcIPcBPcP
namespace Go.Proofs.Ytfhfepphccaadaa
open Go.RowKit

theorem OwnY.up {w : World} {base base' : Nat} {v : Value} {ys : List Int} (h : OwnY w base v ys) (hb : base' ≤ base) : OwnY w base' v ys := by
  refine ⟨h.1, ?_⟩
  rcases h.2 with h1 | ⟨g, cap, cur, h1, h2, h3⟩
  · exact .inl h1
  · exact .inr ⟨g, cap, cur, h1, Nat.le_trans hb h2, h3⟩

theorem leB_ne (v : Int) (n : Nat) (h : n ≠ 0) : leB v n ≠ [] := by
  intro e
  have := leB_length v n
  rw [e] at this
  simp at this
  omega

end Go.Proofs.Ytfhfepphccaadaa

/-
  The model's l6scene and EncodeScene.
-/
namespace Go.Proofs.Ytfhfepphccaadaa
open Go.RowKit

/-- Numbers of four bytes each. -/
def flatB (zs : List Int) : List Int := zs.flatMap (leB · 4)
def headB (n1 n2 n3 : Nat) : List Int := [83, 67, 69, 78] ++ leB n1 2 ++ leB n2 2 ++ leB n3 1
/-- A scene as bytes. -/
def encSc (n1 n2 n3 : Nat) (z1 z2 z3 : List Int) : List Int := headB n1 n2 n3 ++ flatB z1 ++ flatB z2 ++ flatB z3

/-- What EncodeScene answers. -/
def encV (n1 n2 n3 : Nat) (z1 z2 z3 : List Int) : List Int := if validSc n1 n2 n3 z1 z2 z3 = true then encSc n1 n2 n3 z1 z2 z3 else []
theorem encV_ok {n1 n2 n3 : Nat} {z1 z2 z3 : List Int} (h : validSc n1 n2 n3 z1 z2 z3 = true) : encV n1 n2 n3 z1 z2 z3 = encSc n1 n2 n3 z1 z2 z3 := by unfold encV; rw [if_pos h]
theorem encV_bad {n1 n2 n3 : Nat} {z1 z2 z3 : List Int} (h : validSc n1 n2 n3 z1 z2 z3 = false) : encV n1 n2 n3 z1 z2 z3 = [] := by unfold encV; rw [if_neg (by rw [h]; decide)]

/-- 'append(s, x...)' of bytes behind a row that has no room left. -/
theorem appF {w0 : World} {ops : Array Oper} {rest : List Oper} {o : Oper} {ac : Act} {Q : Exit → Act → World → Prop} (hgd : o.guard = none) (s x : Operand)
    (ho : o.op = .call { callee := .builtin .append, args := #[s, x], argTypes := #[35, 35] })
    (ad0 : Addr) (n0 : Nat) (ys : List Int) (ad : Addr) (n c : Nat) (zs : List Int) (hs : ac.eval s = .slice (some ad0) n0 n0) (hn0 : n0 = ys.length) (hr0 : RowAt .u8 w0 (some ad0) ys) (hne0 : ys ≠ []) (hx : ac.eval x = .slice (some ad) n c) (hnz : n = zs.length) (hn : zs.length ≤ 2000000) (hny : ys.length ≤ 2000000) (hne : zs ≠ []) (hr : RowAt .u8 w0 (some ad) zs)
    (h : ∀ a' n' c' w', OwnY w' w0.heap.size (.slice a' n' c') (ys ++ zs) → Below w0.heap.size w0 w' → wpList Try.prog ops Q rest (ac.put o.dst (.slice a' n' c')) w') :
    wpList Try.prog ops Q (o :: rest) ac w0 := by
  subst hnz hn0
  obtain ⟨i0, hi, hz0, hz1, hz2⟩ := info_parts infoB
  have key : ∀ (xs : List Int) (p : Addr), xs ≠ [] → RowAt .u8 w0 (some p) xs → ∀ j u, (vals .u8 xs)[j]? = some u → w0.cell? (p.add j) = some u := by
    intro xs p hxs hrow j u hj
    have hjl : j < xs.length := by
      by_cases hp : j < xs.length
      · exact hp
      · rw [List.getElem?_eq_none (by rw [vals_length]; omega)] at hj; cases hj
    obtain ⟨b, off, h1, h2, h3⟩ := hrow.resolve_left hxs
    have e1 := Option.some.inj h1
    subst e1
    have hu : u = .int .u8 (xs.getD j 0) := by
      simp [vals, hjl] at hj
      rw [← hj, List.getD_eq_getElem?_getD, List.getElem?_eq_getElem hjl]
      rfl
    rw [hu, Addr.add_lit]
    exact h3 j hjl
  have hzl : 0 < zs.length := List.length_pos_iff.2 hne
  refine wpList_append_grows w0 hgd s x 35 ho 5 i0 (.int .u8 0) 1 1 Try.underlying35 hi hz0 hz1 hz2 rfl (by decide) (some ad0) ys.length ys.length (vals .u8 ys) hs (fun e => by cases e) (by simp [vals]) (fun b e => by cases e; exact key ys ad0 hne0 hr0) ad zs.length c (vals .u8 zs) hx (by simp [vals]) (key zs ad hne hr) ?_ (by omega) ?_ ?_ ?_
  · intro u hu
    simp [vals] at hu
    obtain ⟨z, _, rfl⟩ := hu
    rfl
  · unfold maxLen; omega
  · omega
  · intro v' w' hown' hgrow
    have hown2 : w'.ownsRow w0.heap.size 5 1 v' (ys ++ zs).length (vals .u8 (ys ++ zs)) := by
      rw [List.length_append]
      simpa [vals] using hown'
    obtain ⟨a', c', rfl, -, -, -⟩ := own_row hown2
    exact h a' _ c' w' hown2 ((Below.refl _ _).grown hgrow (Nat.le_refl _) (fun k hk => by cases hk))

theorem flatB_length : ∀ zs : List Int, (flatB zs).length = zs.length * 4
  | [] => rfl
  | z :: zs => by
    have := flatB_length zs
    unfold flatB at this ⊢
    rw [List.flatMap_cons, List.length_append, this, leB_length, List.length_cons]
    omega
theorem headB_length (n1 n2 n3 : Nat) : (headB n1 n2 n3).length = 9 := by simp [headB, leB_length]
theorem flatB_snoc (zs : List Int) (z : Int) : flatB (zs ++ [z]) = flatB zs ++ leB z 4 := by simp [flatB]
theorem take_snoc {zs : List Int} {m : Nat} (h : m < zs.length) : zs.take (m + 1) = zs.take m ++ [zs.getD m 0] := by
  rw [List.take_succ_eq_append_getElem h, List.getD_eq_getElem?_getD, List.getElem?_eq_getElem h]
  rfl
theorem flat3 {zs : List Int} {m : Nat} (h : m + 3 ≤ zs.length) {m1 : Nat} (e : m1 = m + 3) : flatB (zs.take m1) = flatB (zs.take m) ++ ptB (zs.getD m 0) (zs.getD (m + 1) 0) (zs.getD (m + 2) 0) := by
  subst e
  rw [take_snoc (m := m + 2) (by omega), flatB_snoc, take_snoc (m := m + 1) (by omega), flatB_snoc, take_snoc (m := m) (by omega), flatB_snoc]
  simp [ptB]
theorem ptB_ne (x y z : Int) : ptB x y z ≠ [] := by
  intro e
  have := ptB_length x y z
  rw [e] at this
  simp at this

/-- A list of bytes that is being made, from block base on. -/
structure EncS (W0 : World) (base : Nat) (v : Value) (ys : List Int) (wr : World) : Prop where
  own : OwnY wr base v ys
  bel : Below base W0 wr
  le : base ≤ wr.heap.size
theorem EncS.call {W0 wr w' : World} {base : Nat} {v : Value} {ys : List Int} (h : EncS W0 base v ys wr) (hb : Below wr.heap.size wr w') : EncS W0 base v ys w' :=
  ⟨h.own.later hb, h.bel.trans (hb.mono h.le), Nat.le_trans h.le hb.size⟩
theorem EncS.app {W0 wr w' : World} {base : Nat} {v v' : Value} {ys ys' : List Int} (h : EncS W0 base v ys wr) (ho : OwnY w' base v' ys') (hb : Below base wr w') : EncS W0 base v' ys' w' :=
  ⟨ho, h.bel.trans hb, Nat.le_trans h.le hb.size⟩
theorem EncS.re {W0 wr : World} {base : Nat} {v : Value} {ys ys' : List Int} (h : EncS W0 base v ys wr) (e : ys = ys') : EncS W0 base v ys' wr := e ▸ h

theorem row_scen (W : World) (t : TypeId) (fr : Nat × Nat) {X : Nat} (hX : X = W.heap.size) : RowAt .u8 (W.alloc (.cells #[.int .u8 83, .int .u8 67, .int .u8 69, .int .u8 78] t fr)) (some ⟨X, 0, none⟩) [83, 67, 69, 78] := by
  refine .inr ⟨X, 0, rfl, by simp; omega, fun j hj => ?_⟩
  rw [Nat.zero_add, Go.Joins.cell_alloc_mark_at _ _ _ _ _ _ hX]
  match j, hj with
  | 0, _ => rfl
  | 1, _ => rfl
  | 2, _ => rfl
  | 3, _ => rfl

end Go.Proofs.Ytfhfepphccaadaa

/-
  What a picture must be to be valid, its bytes, and the model's l6validPicture.
-/
namespace Go.Proofs.Ytfhfepphccaadaa
open Go.RowKit

def idOK (g : Nat → Int) (i : Nat) : Bool := decide (-1 ≤ g i) && decide (g i < 40)
def validPc (n1 n3 : Nat) (g : Nat → Int) (L : Int) : Bool :=
  decide (n1 ≤ 40) && decide (0 ≤ L) && decide (L ≤ 4) && decide ((n3 : Int) = n1 * L) && (List.range n1).all (idOK g)

/-- A box that holds a picture. -/
structure LwP (w : World) (a1 a3 : Option Addr) (n1 n3 c1 c3 : Nat) (L : Int) (g : Nat → Int) (h : Nat → Bool) (W : World) : Prop where
  bx : BxS W w.heap.size (.slice a1 n1 c1) (.int .i64 L) (.slice a3 n3 c3)
  pc : PcAt W a1 a3 n1 n3 g h
  bel : Below w.heap.size w W
theorem LwP.later {w W W' : World} {a1 a3 : Option Addr} {n1 n3 c1 c3 : Nat} {L : Int} {g : Nat → Int} {h : Nat → Bool} (p : LwP w a1 a3 n1 n3 c1 c3 L g h W) (hb : Below W.heap.size W W') : LwP w a1 a3 n1 n3 c1 c3 L g h W' :=
  ⟨p.bx.later hb, p.pc.later hb, p.bel.trans (hb.mono p.bel.size)⟩
theorem LwP.start {w : World} {a1 a3 : Option Addr} {n1 n3 c1 c3 : Nat} {L : Int} {g : Nat → Int} {h : Nat → Bool} (hs : PcAt w a1 a3 n1 n3 g h) (t : TypeId) : LwP w a1 a3 n1 n3 c1 c3 L g h (w.alloc (.cells #[.slice a1 n1 c1, .int .i64 L, .slice a3 n3 c3] t)) :=
  ⟨BxS.new _ _ _ _ _, hs.later (bel0 _ _), bel0 _ _⟩
theorem LwP.within {w W W' : World} {a1 a3 : Option Addr} {n1 n3 c1 c3 lo hi : Nat} {L : Int} {g : Nat → Int} {h : Nat → Bool} (p : LwP w a1 a3 n1 n3 c1 c3 L g h W) (hs : PcAt w a1 a3 n1 n3 g h) (hw : Within lo hi W W') (hl : w.heap.size < lo) : LwP w a1 a3 n1 n3 c1 c3 L g h W' := by
  have hb : Below w.heap.size w W' := p.bel.trans (hw.below.mono (by omega))
  exact ⟨⟨by rw [hw.size]; exact p.bx.lt, (hw.cell (p := ⟨w.heap.size, 0, none⟩) (.inl hl)).trans p.bx.q0, (hw.cell (p := ⟨w.heap.size, 1, none⟩) (.inl hl)).trans p.bx.q1, (hw.cell (p := ⟨w.heap.size, 2, none⟩) (.inl hl)).trans p.bx.q2⟩, hs.later hb, hb⟩

set_option maxRecDepth 100000 in
set_option maxHeartbeats 4000000 in
theorem validP_any (a1 a3 : Option Addr) (n1 n3 c1 c3 : Nat) (L : Int) (g : Nat → Int) (h : Nat → Bool) (w : World) (hn : n1 + n3 ≤ 1048576) (hs : PcAt w a1 a3 n1 n3 g h) :
    Calls Try.prog 47 #[.agg #[.slice a1 n1 c1, .int .i64 L, .slice a3 n3 c3]] w fun e w' => e = .returned (.bool (validPc n1 n3 g L)) ∧ Below w.heap.size w w' := by
  have HSC : Hid (PcAt w a1 a3 n1 n3 g h) := hs
  clear hs
  by_cases h1 : n1 ≤ 40
  · have h1' : ¬ (40 : Int) < n1 := by omega
    by_cases h2 : 0 ≤ L
    · have h2' : ¬ L < 0 := by omega
      by_cases h3 : L ≤ 4
      · have h3' : ¬ 4 < L := by omega
        have hmb : (n1 : Int) * L ≤ 160 := by
          have e1 : (n1 : Int) * L ≤ 40 * L := Int.mul_le_mul_of_nonneg_right (by omega) h2
          omega
        have hmc : 0 ≤ (n1 : Int) * L := Int.mul_nonneg (by omega) h2
        obtain ⟨m, hm⟩ : ∃ m, m = (n1 : Int) * L := ⟨_, rfl⟩
        by_cases h4 : (n3 : Int) = n1 * L
        · have h4' : ((n3 : Int) != n1 * L) = false := by simp [h4]
          have HV : Hid (∀ b, (List.range n1).all (idOK g) = b → validPc n1 n3 g L = b) := by
            intro b hb
            unfold validPc
            rw [decide_eq_true h1, decide_eq_true h2, decide_eq_true h3, decide_eq_true h4, hb]
            rfl
          rw [← hm] at hmb hmc h4'
          have hm' := hm.symm
          clear h4 hm
          go_enter Try.func47, Try.ntmps47
          go_wp2
          go_loopw [3] (fun si wr => ∃ (i : Nat), i ≤ n1 ∧ si = .int .i64 i ∧ Hid ((List.range i).all (idOK g) = true) ∧ Hid (LwP w a1 a3 n1 n3 c1 c3 L g h wr)) (fun si _ => n1 - (intOf si).toNat)
          case atStart => exact ⟨0, Nat.zero_le _, rfl, rfl, LwP.start HSC.out _⟩
          case round =>
            obtain ⟨i, hi, rfl, hA, hF⟩ := hrel
            have q0 := hF.out.bx.q0
            have q1 := hF.out.bx.q1
            have q2 := hF.out.bx.q2
            by_cases hlt : i < n1
            · obtain ⟨b, off, rfl, hbl, hc⟩ := hF.out.pc.r1.resolve_left (by omega)
              have g1 : wr.cell? ⟨b, off + i, none⟩ = some (.int .i64 (g i)) := hc i hlt
              have HO : Hid (idOK g i = (decide (-1 ≤ g i) && decide (g i < 40))) := rfl
              obtain ⟨x, hx⟩ : ∃ x, x = g i := ⟨_, rfl⟩
              rw [← hx] at g1 HO
              have hib : (i : Int) < n1 := by omega
              clear hc hx
              by_cases x1 : x < -1
              · have HF : Hid (validPc n1 n3 g L = false) := HV.out _ (all_range_false hlt (by rw [HO.out]; simp; omega))
                go_wp2
                go_ret
                exact ⟨by rw [HF.out]; rfl, hF.out.bel⟩
              · by_cases x2 : 40 ≤ x
                · have HF : Hid (validPc n1 n3 g L = false) := HV.out _ (all_range_false hlt (by rw [HO.out]; simp; omega))
                  go_wp2
                  go_ret
                  exact ⟨by rw [HF.out]; rfl, hF.out.bel⟩
                · have HOK : Hid (idOK g i = true) := by unfold Hid; rw [HO.out]; simp; omega
                  go_wp2
                  go_roundw
                  case rel => exact ⟨i + 1, by omega, by go_num, by unfold Hid; rw [all_range_succ, hA.out, HOK.out]; rfl, hF⟩
                  case measure => simp [intOf]; omega
            · have hie : n1 = i := by omega
              subst hie
              have HF : Hid (validPc n1 n3 g L = true) := HV.out _ hA.out
              go_wp2
              go_ret
              exact ⟨by rw [HF.out]; rfl, hF.out.bel⟩
        · have h4' : ((n3 : Int) != n1 * L) = true := by simp [h4]
          have HV : Hid (validPc n1 n3 g L = false) := by unfold Hid validPc; rw [decide_eq_false h4]; simp
          rw [← hm] at hmb hmc h4'
          have hm' := hm.symm
          rw [HV.out]
          clear h4 hm
          go_enter Try.func47, Try.ntmps47
          go_wp2
          go_ret
          exact ⟨rfl, bel0 _ _⟩
      · have h3' : 4 < L := by omega
        have HV : Hid (validPc n1 n3 g L = false) := by unfold Hid validPc; rw [decide_eq_false h3]; simp
        rw [HV.out]
        go_enter Try.func47, Try.ntmps47
        go_wp2
        go_ret
        exact ⟨rfl, bel0 _ _⟩
    · have h2' : L < 0 := by omega
      have HV : Hid (validPc n1 n3 g L = false) := by unfold Hid validPc; rw [decide_eq_false h2]; simp
      rw [HV.out]
      go_enter Try.func47, Try.ntmps47
      go_wp2
      go_ret
      exact ⟨rfl, bel0 _ _⟩
  · have h1' : (40 : Int) < n1 := by omega
    have HV : Hid (validPc n1 n3 g L = false) := by unfold Hid validPc; rw [decide_eq_false h1]; simp
    rw [HV.out]
    go_enter Try.func47, Try.ntmps47
    go_wp2
    go_ret
    exact ⟨rfl, bel0 _ _⟩

end Go.Proofs.Ytfhfepphccaadaa
