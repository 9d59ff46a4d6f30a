/-
  The law of ValidScene, for any program whose ValidScene answers whether the scene is valid.
-/
import Derived.Test.YtfhfepphccaadacSpW
import Derived.Test.YtfhfepphccaadacAppB
import Derived.ArgAppend
import Derived.Lib.SmallJoins
namespace Go.Proofs.Ytfhfepphccaadac
open Go.RowKit

/-- The function answers whether a scene is valid. -/
def VldSays (f : FuncId) : Prop := ∀ (a1 a2 a3 : Option Addr) (n1 n2 n3 c1 c2 c3 : Nat) (z1 z2 z3 : List Int) (w : World), n1 + n2 + n3 ≤ 1048576 → ScAt w a1 a2 a3 n1 n2 n3 z1 z2 z3 → U32 z1 → U32 z2 → U32 z3 →
  Calls Try.prog f #[.agg #[.slice a1 n1 c1, .slice a2 n2 c2, .slice a3 n3 c3]] w fun e w' => e = .returned (.bool (validSc n1 n2 n3 z1 z2 z3)) ∧ Below w.heap.size w w'

/-- A box that holds a scene's three slices. -/
structure BxS (w : World) (X : Nat) (v1 v2 v3 : Value) : Prop where
  lt : X < w.heap.size
  q0 : w.cell? ⟨X, 0, none⟩ = some v1
  q1 : w.cell? ⟨X, 1, none⟩ = some v2
  q2 : w.cell? ⟨X, 2, none⟩ = some v3
theorem BxS.later {w w' : World} {X : Nat} {v1 v2 v3 : Value} (h : BxS w X v1 v2 v3) (hb : Below w.heap.size w w') : BxS w' X v1 v2 v3 :=
  ⟨Nat.lt_of_lt_of_le h.lt hb.size, ((bcell hb).1 _ _ h.lt).trans h.q0, ((bcell hb).1 _ _ h.lt).trans h.q1, ((bcell hb).1 _ _ h.lt).trans h.q2⟩
theorem BxS.new (w : World) (v1 v2 v3 : Value) (t : TypeId) : BxS (w.alloc (.cells #[v1, v2, v3] t)) w.heap.size v1 v2 v3 :=
  ⟨by simp, by simp [go_sem], by simp [go_sem], by simp [go_sem]⟩

/-- Memory while a law over a scene runs: the box of the argument, the argument's lists. -/
structure LwS (w : World) (a1 a2 a3 : Option Addr) (n1 n2 n3 c1 c2 c3 : Nat) (z1 z2 z3 : List Int) (W : World) : Prop where
  bx : BxS W w.heap.size (.slice a1 n1 c1) (.slice a2 n2 c2) (.slice a3 n3 c3)
  sc : ScAt W a1 a2 a3 n1 n2 n3 z1 z2 z3
  bel : Below w.heap.size w W
theorem LwS.later {w W W' : World} {a1 a2 a3 : Option Addr} {n1 n2 n3 c1 c2 c3 : Nat} {z1 z2 z3 : List Int} (h : LwS w a1 a2 a3 n1 n2 n3 c1 c2 c3 z1 z2 z3 W) (hb : Below W.heap.size W W') : LwS w a1 a2 a3 n1 n2 n3 c1 c2 c3 z1 z2 z3 W' :=
  ⟨h.bx.later hb, h.sc.later hb, h.bel.trans (hb.mono h.bel.size)⟩
theorem LwS.start {w : World} {a1 a2 a3 : Option Addr} {n1 n2 n3 c1 c2 c3 : Nat} {z1 z2 z3 : List Int} (hs : ScAt w a1 a2 a3 n1 n2 n3 z1 z2 z3) (t : TypeId) : LwS w a1 a2 a3 n1 n2 n3 c1 c2 c3 z1 z2 z3 (w.alloc (.cells #[.slice a1 n1 c1, .slice a2 n2 c2, .slice a3 n3 c3] t)) :=
  ⟨BxS.new _ _ _ _ _, hs.later (bel0 _ _), bel0 _ _⟩

theorem last7 {p0 p1 p2 p3 p4 p5 q : Prop} (h : p0 ∧ p1 ∧ p2 ∧ p3 ∧ p4 ∧ p5 ∧ q) : q := h.2.2.2.2.2.2

set_option maxRecDepth 100000 in
set_option maxHeartbeats 16000000 in
theorem lawValidScene_any (hI : VldSays 27) (a1 a2 a3 : Option Addr) (n1 n2 n3 c1 c2 c3 : Nat) (z1 z2 z3 : List Int) (w : World) (h1 : n1 ≤ maxLen) (h2 : n2 ≤ maxLen) (h3 : n3 ≤ maxLen) (hu1 : U32 z1) (hu2 : U32 z2) (hu3 : U32 z3) (hs : ScAt w a1 a2 a3 n1 n2 n3 z1 z2 z3) :
    Calls Try.prog 5 #[.agg #[.slice a1 n1 c1, .slice a2 n2 c2, .slice a3 n3 c3]] w fun e w' => e = .returned (.bool true) ∧ Below w.heap.size w w' := by
  have HSC : Hid (ScAt w a1 a2 a3 n1 n2 n3 z1 z2 z3) := hs
  have HU : Hid (U32 z1 ∧ U32 z2 ∧ U32 z3) := ⟨hu1, hu2, hu3⟩
  have HI : Hid (VldSays 27) := hI
  clear hs hu1 hu2 hu3 hI
  go_enter Try.func5, Try.ntmps5
  go_wp2_with fail
  refine (szScene_any a1 a2 a3 n1 n2 n3 c1 c2 c3 _ h1 h2 h3).mono ?_
  rintro e W0 ⟨r, rfl, hr, hb⟩
  have F0 : Hid (LwS w a1 a2 a3 n1 n2 n3 c1 c2 c3 z1 z2 z3 W0) := (LwS.start HSC.out _).later hb
  clear hb
  rcases hr with hr | ⟨hr, hn⟩
  · go_wp2
    go_ret
    exact ⟨rfl, F0.out.bel⟩
  · have HN : Hid (n1 + n2 + n3 ≤ 1048576) := hn
    have hrn : ¬ r < 0 := by omega
    have q0 := F0.out.bx.q0
    have q1 := F0.out.bx.q1
    have q2 := F0.out.bx.q2
    clear hn
    go_wp2_with fail
    refine (toScene_any a1 a2 a3 n1 n2 n3 c1 c2 c3 z1 z2 z3 _ HN.out F0.out.sc).mono ?_
    rintro e W1 ⟨b1, b2, b3, m1, m2, rfl, hi1, hb1⟩
    have F1 : Hid (LwS w a1 a2 a3 n1 n2 n3 c1 c2 c3 z1 z2 z3 W1) := F0.out.later hb1
    have I1 : Hid (ScAt W1 b1 b2 b3 n1 n2 n3 z1 z2 z3) := hi1.at
    clear hb1 hi1 q0 q1 q2 F0
    go_wp2_with fail
    refine (validV_any b1 b2 b3 n1 n2 n3 n1 n2 n3 z1 z2 z3 _ HN.out I1.out HU.out.1 HU.out.2.1 HU.out.2.2).mono ?_
    rintro e W2 ⟨rfl, hb2⟩
    have F2 : Hid (LwS w a1 a2 a3 n1 n2 n3 c1 c2 c3 z1 z2 z3 W2) := F1.out.later hb2
    have q0 := F2.out.bx.q0
    have q1 := F2.out.bx.q1
    have q2 := F2.out.bx.q2
    obtain ⟨V, hV⟩ : ∃ V, V = validSc n1 n2 n3 z1 z2 z3 := ⟨_, rfl⟩
    rw [← hV]
    have HV : Hid (V = validSc n1 n2 n3 z1 z2 z3) := hV
    clear hb2 F1 I1 hV
    go_wp2_with fail
    refine (toScene_any a1 a2 a3 n1 n2 n3 c1 c2 c3 z1 z2 z3 _ HN.out F2.out.sc).mono ?_
    rintro e W3 ⟨d1, d2, d3, k1, k2, rfl, hi3, hb3⟩
    have F3 : Hid (∀ t, LwS w a1 a2 a3 n1 n2 n3 c1 c2 c3 z1 z2 z3 (W3.alloc (.cells #[.slice d1 n1 n1, .slice d2 n2 n2, .slice d3 n3 n3] t))) := fun t => (F2.out.later hb3).later (bel0 _ _)
    have X3 : Hid (∀ t, BxS (W3.alloc (.cells #[.slice d1 n1 n1, .slice d2 n2 n2, .slice d3 n3 n3] t)) W3.heap.size (.slice d1 n1 n1) (.slice d2 n2 n2) (.slice d3 n3 n3)) := fun t => BxS.new _ _ _ _ _
    have I3 : Hid (∀ t, ScAt (W3.alloc (.cells #[.slice d1 n1 n1, .slice d2 n2 n2, .slice d3 n3 n3] t)) d1 d2 d3 n1 n2 n3 z1 z2 z3) := fun t => hi3.at.later (bel0 _ _)
    clear hb3 hi3 q0 q1 q2 F2
    go_wp2_with fail
    refine (HI.out d1 d2 d3 n1 n2 n3 n1 n2 n3 z1 z2 z3 _ HN.out (I3.out _) HU.out.1 HU.out.2.1 HU.out.2.2).mono ?_
    rintro e W4 ⟨rfl, hb4⟩
    have F4 : Hid (LwS w a1 a2 a3 n1 n2 n3 c1 c2 c3 z1 z2 z3 W4) := (F3.out _).later hb4
    have X4 : Hid (BxS W4 W3.heap.size (.slice d1 n1 n1) (.slice d2 n2 n2) (.slice d3 n3 n3)) := (X3.out _).later hb4
    have I4 : Hid (ScAt W4 d1 d2 d3 n1 n2 n3 z1 z2 z3) := (I3.out _).later hb4
    rw [← HV.out]
    have hne : (V != V) = false := by simp
    have HH : Hid (∀ w', Below W4.heap.size W4 w' → w'.cell? ⟨w.heap.size, 0, none⟩ = some (.slice a1 n1 c1) ∧ w'.cell? ⟨w.heap.size, 1, none⟩ = some (.slice a2 n2 c2) ∧ w'.cell? ⟨w.heap.size, 2, none⟩ = some (.slice a3 n3 c3) ∧ w'.cell? ⟨W3.heap.size, 0, none⟩ = some (.slice d1 n1 n1) ∧ w'.cell? ⟨W3.heap.size, 1, none⟩ = some (.slice d2 n2 n2) ∧ w'.cell? ⟨W3.heap.size, 2, none⟩ = some (.slice d3 n3 n3) ∧ Below W4.heap.size W4 w') := by
      intro w' hw
      have e1 := F4.out.bx.later hw
      have e2 := X4.out.later hw
      exact ⟨e1.q0, e1.q1, e1.q2, e2.q0, e2.q1, e2.q2, hw⟩
    clear hb4 F3 X3 I3 HI HV
    go_wp2
    go_region_held3 (fun w' => w'.cell? ⟨w.heap.size, 0, none⟩ = some (.slice a1 n1 c1) ∧ w'.cell? ⟨w.heap.size, 1, none⟩ = some (.slice a2 n2 c2) ∧ w'.cell? ⟨w.heap.size, 2, none⟩ = some (.slice a3 n3 c3) ∧ w'.cell? ⟨W3.heap.size, 0, none⟩ = some (.slice d1 n1 n1) ∧ w'.cell? ⟨W3.heap.size, 1, none⟩ = some (.slice d2 n2 n2) ∧ w'.cell? ⟨W3.heap.size, 2, none⟩ = some (.slice d3 n3 n3) ∧ Below W4.heap.size W4 w')
      (first | exact HH.out _ (Below.refl _ _).drew | exact HH.out _ (by assumption))
      (first
        | (go_at_call 26; refine (toScene_any a1 a2 a3 n1 n2 n3 c1 c2 c3 z1 z2 z3 _ HN.out (F4.out.sc.later (Below.refl _ _).drew)).mono ?_; rintro e W5 ⟨g1, g2, g3, j1, j2, rfl, hi5, hb5⟩; have hB5 : Below W4.heap.size W4 W5 := (Below.refl _ _).drew.trans hb5)
        | (go_at_call 28; refine (eqScene_same d1 d2 d3 g1 g2 g3 n1 n2 n3 _ _ _ _ _ _ z1 z2 z3 _ HN.out (I4.out.later hB5) hi5.at).mono ?_; rintro e W6 ⟨rfl, hb6⟩; have hB6 : Below W4.heap.size W4 W6 := hB5.trans (hb6.mono hB5.size)))
    have F6 : Hid (LwS w a1 a2 a3 n1 n2 n3 c1 c2 c3 z1 z2 z3 W6) := F4.out.later hB6
    clear hb5 hb6 hB5 hB6 hi5 F4
    go_wp2
    go_ret
    exact ⟨rfl, F6.out.bel⟩

end Go.Proofs.Ytfhfepphccaadac

/-
  The model's l6point.
-/
namespace Go.Proofs.Ytfhfepphccaadac
open Go.RowKit

theorem OwnY.up {w : World} {base base' : Nat} {v : Value} {ys : List Int} (h : OwnY w base v ys) (hb : base' ≤ base) : OwnY w base' v ys := by
  refine ⟨h.1, ?_⟩
  rcases h.2 with h1 | ⟨g, cap, cur, h1, h2, h3⟩
  · exact .inl h1
  · exact .inr ⟨g, cap, cur, h1, Nat.le_trans hb h2, h3⟩

theorem leB_ne (v : Int) (n : Nat) (h : n ≠ 0) : leB v n ≠ [] := by
  intro e
  have := leB_length v n
  rw [e] at this
  simp at this
  omega

end Go.Proofs.Ytfhfepphccaadac

/-
  The model's l6scene and EncodeScene.
-/
namespace Go.Proofs.Ytfhfepphccaadac
open Go.RowKit

/-- Numbers of four bytes each. -/
def flatB (zs : List Int) : List Int := zs.flatMap (leB · 4)
def headB (n1 n2 n3 : Nat) : List Int := [83, 67, 69, 78] ++ leB n1 2 ++ leB n2 2 ++ leB n3 1
/-- A scene as bytes. -/
def encSc (n1 n2 n3 : Nat) (z1 z2 z3 : List Int) : List Int := headB n1 n2 n3 ++ flatB z1 ++ flatB z2 ++ flatB z3

/-- What EncodeScene answers. -/
def encV (n1 n2 n3 : Nat) (z1 z2 z3 : List Int) : List Int := if validSc n1 n2 n3 z1 z2 z3 = true then encSc n1 n2 n3 z1 z2 z3 else []
theorem encV_ok {n1 n2 n3 : Nat} {z1 z2 z3 : List Int} (h : validSc n1 n2 n3 z1 z2 z3 = true) : encV n1 n2 n3 z1 z2 z3 = encSc n1 n2 n3 z1 z2 z3 := by unfold encV; rw [if_pos h]
theorem encV_bad {n1 n2 n3 : Nat} {z1 z2 z3 : List Int} (h : validSc n1 n2 n3 z1 z2 z3 = false) : encV n1 n2 n3 z1 z2 z3 = [] := by unfold encV; rw [if_neg (by rw [h]; decide)]

/-- 'append(s, x...)' of bytes behind a row that has no room left. -/
theorem appF {w0 : World} {ops : Array Oper} {rest : List Oper} {o : Oper} {ac : Act} {Q : Exit → Act → World → Prop} (hgd : o.guard = none) (s x : Operand)
    (ho : o.op = .call { callee := .builtin .append, args := #[s, x], argTypes := #[22, 22] })
    (ad0 : Addr) (n0 : Nat) (ys : List Int) (ad : Addr) (n c : Nat) (zs : List Int) (hs : ac.eval s = .slice (some ad0) n0 n0) (hn0 : n0 = ys.length) (hr0 : RowAt .u8 w0 (some ad0) ys) (hne0 : ys ≠ []) (hx : ac.eval x = .slice (some ad) n c) (hnz : n = zs.length) (hn : zs.length ≤ 2000000) (hny : ys.length ≤ 2000000) (hne : zs ≠ []) (hr : RowAt .u8 w0 (some ad) zs)
    (h : ∀ a' n' c' w', OwnY w' w0.heap.size (.slice a' n' c') (ys ++ zs) → Below w0.heap.size w0 w' → wpList Try.prog ops Q rest (ac.put o.dst (.slice a' n' c')) w') :
    wpList Try.prog ops Q (o :: rest) ac w0 := by
  subst hnz hn0
  obtain ⟨i0, hi, hz0, hz1, hz2⟩ := info_parts infoB
  have key : ∀ (xs : List Int) (p : Addr), xs ≠ [] → RowAt .u8 w0 (some p) xs → ∀ j u, (vals .u8 xs)[j]? = some u → w0.cell? (p.add j) = some u := by
    intro xs p hxs hrow j u hj
    have hjl : j < xs.length := by
      by_cases hp : j < xs.length
      · exact hp
      · rw [List.getElem?_eq_none (by rw [vals_length]; omega)] at hj; cases hj
    obtain ⟨b, off, h1, h2, h3⟩ := hrow.resolve_left hxs
    have e1 := Option.some.inj h1
    subst e1
    have hu : u = .int .u8 (xs.getD j 0) := by
      simp [vals, hjl] at hj
      rw [← hj, List.getD_eq_getElem?_getD, List.getElem?_eq_getElem hjl]
      rfl
    rw [hu, Addr.add_lit]
    exact h3 j hjl
  have hzl : 0 < zs.length := List.length_pos_iff.2 hne
  refine wpList_append_grows w0 hgd s x 22 ho 5 i0 (.int .u8 0) 1 1 Try.underlying22 hi hz0 hz1 hz2 rfl (by decide) (some ad0) ys.length ys.length (vals .u8 ys) hs (fun e => by cases e) (by simp [vals]) (fun b e => by cases e; exact key ys ad0 hne0 hr0) ad zs.length c (vals .u8 zs) hx (by simp [vals]) (key zs ad hne hr) ?_ (by omega) ?_ ?_ ?_
  · intro u hu
    simp [vals] at hu
    obtain ⟨z, _, rfl⟩ := hu
    rfl
  · unfold maxLen; omega
  · omega
  · intro v' w' hown' hgrow
    have hown2 : w'.ownsRow w0.heap.size 5 1 v' (ys ++ zs).length (vals .u8 (ys ++ zs)) := by
      rw [List.length_append]
      simpa [vals] using hown'
    obtain ⟨a', c', rfl, -, -, -⟩ := own_row hown2
    exact h a' _ c' w' hown2 ((Below.refl _ _).grown hgrow (Nat.le_refl _) (fun k hk => by cases hk))

theorem flatB_length : ∀ zs : List Int, (flatB zs).length = zs.length * 4
  | [] => rfl
  | z :: zs => by
    have := flatB_length zs
    unfold flatB at this ⊢
    rw [List.flatMap_cons, List.length_append, this, leB_length, List.length_cons]
    omega
theorem headB_length (n1 n2 n3 : Nat) : (headB n1 n2 n3).length = 9 := by simp [headB, leB_length]
theorem flatB_snoc (zs : List Int) (z : Int) : flatB (zs ++ [z]) = flatB zs ++ leB z 4 := by simp [flatB]
theorem take_snoc {zs : List Int} {m : Nat} (h : m < zs.length) : zs.take (m + 1) = zs.take m ++ [zs.getD m 0] := by
  rw [List.take_succ_eq_append_getElem h, List.getD_eq_getElem?_getD, List.getElem?_eq_getElem h]
  rfl
theorem flat3 {zs : List Int} {m : Nat} (h : m + 3 ≤ zs.length) {m1 : Nat} (e : m1 = m + 3) : flatB (zs.take m1) = flatB (zs.take m) ++ ptB (zs.getD m 0) (zs.getD (m + 1) 0) (zs.getD (m + 2) 0) := by
  subst e
  rw [take_snoc (m := m + 2) (by omega), flatB_snoc, take_snoc (m := m + 1) (by omega), flatB_snoc, take_snoc (m := m) (by omega), flatB_snoc]
  simp [ptB]
theorem ptB_ne (x y z : Int) : ptB x y z ≠ [] := by
  intro e
  have := ptB_length x y z
  rw [e] at this
  simp at this

/-- A list of bytes that is being made, from block base on. -/
structure EncS (W0 : World) (base : Nat) (v : Value) (ys : List Int) (wr : World) : Prop where
  own : OwnY wr base v ys
  bel : Below base W0 wr
  le : base ≤ wr.heap.size
theorem EncS.call {W0 wr w' : World} {base : Nat} {v : Value} {ys : List Int} (h : EncS W0 base v ys wr) (hb : Below wr.heap.size wr w') : EncS W0 base v ys w' :=
  ⟨h.own.later hb, h.bel.trans (hb.mono h.le), Nat.le_trans h.le hb.size⟩
theorem EncS.app {W0 wr w' : World} {base : Nat} {v v' : Value} {ys ys' : List Int} (h : EncS W0 base v ys wr) (ho : OwnY w' base v' ys') (hb : Below base wr w') : EncS W0 base v' ys' w' :=
  ⟨ho, h.bel.trans hb, Nat.le_trans h.le hb.size⟩
theorem EncS.re {W0 wr : World} {base : Nat} {v : Value} {ys ys' : List Int} (h : EncS W0 base v ys wr) (e : ys = ys') : EncS W0 base v ys' wr := e ▸ h

theorem row_scen (W : World) (t : TypeId) (fr : Nat × Nat) {X : Nat} (hX : X = W.heap.size) : RowAt .u8 (W.alloc (.cells #[.int .u8 83, .int .u8 67, .int .u8 69, .int .u8 78] t fr)) (some ⟨X, 0, none⟩) [83, 67, 69, 78] := by
  refine .inr ⟨X, 0, rfl, by simp; omega, fun j hj => ?_⟩
  rw [Nat.zero_add, Go.Joins.cell_alloc_mark_at _ _ _ _ _ _ hX]
  match j, hj with
  | 0, _ => rfl
  | 1, _ => rfl
  | 2, _ => rfl
  | 3, _ => rfl

end Go.Proofs.Ytfhfepphccaadac
