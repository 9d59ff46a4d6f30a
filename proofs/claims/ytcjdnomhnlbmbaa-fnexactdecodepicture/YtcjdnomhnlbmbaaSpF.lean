/-
  The model's l6scene and EncodeScene.
-/
import Derived.Test.YtcjdnomhnlbmbaaGrow2ToSpE
import Derived.ArgAppend
import Derived.Lib.SmallJoins
namespace Go.Proofs.Ytcjdnomhnlbmbaa
open Go.RowKit

/-- Numbers of four bytes each. -/
def flatB (zs : List Int) : List Int := zs.flatMap (leB · 4)
def headB (n1 n2 n3 : Nat) : List Int := [83, 67, 69, 78] ++ leB n1 2 ++ leB n2 2 ++ leB n3 1
/-- A scene as bytes. -/
def encSc (n1 n2 n3 : Nat) (z1 z2 z3 : List Int) : List Int := headB n1 n2 n3 ++ flatB z1 ++ flatB z2 ++ flatB z3

/-- What EncodeScene answers. -/
def encV (n1 n2 n3 : Nat) (z1 z2 z3 : List Int) : List Int := if validSc n1 n2 n3 z1 z2 z3 = true then encSc n1 n2 n3 z1 z2 z3 else []
theorem encV_ok {n1 n2 n3 : Nat} {z1 z2 z3 : List Int} (h : validSc n1 n2 n3 z1 z2 z3 = true) : encV n1 n2 n3 z1 z2 z3 = encSc n1 n2 n3 z1 z2 z3 := by unfold encV; rw [if_pos h]
theorem encV_bad {n1 n2 n3 : Nat} {z1 z2 z3 : List Int} (h : validSc n1 n2 n3 z1 z2 z3 = false) : encV n1 n2 n3 z1 z2 z3 = [] := by unfold encV; rw [if_neg (by rw [h]; decide)]

/-- 'append(s, x...)' of bytes behind a row that has no room left. -/
theorem appF {w0 : World} {ops : Array Oper} {rest : List Oper} {o : Oper} {ac : Act} {Q : Exit → Act → World → Prop} (hgd : o.guard = none) (s x : Operand)
    (ho : o.op = .call { callee := .builtin .append, args := #[s, x], argTypes := #[22, 22] })
    (ad0 : Addr) (n0 : Nat) (ys : List Int) (ad : Addr) (n c : Nat) (zs : List Int) (hs : ac.eval s = .slice (some ad0) n0 n0) (hn0 : n0 = ys.length) (hr0 : RowAt .u8 w0 (some ad0) ys) (hne0 : ys ≠ []) (hx : ac.eval x = .slice (some ad) n c) (hnz : n = zs.length) (hn : zs.length ≤ 2000000) (hny : ys.length ≤ 2000000) (hne : zs ≠ []) (hr : RowAt .u8 w0 (some ad) zs)
    (h : ∀ a' n' c' w', OwnY w' w0.heap.size (.slice a' n' c') (ys ++ zs) → Below w0.heap.size w0 w' → wpList Try.prog ops Q rest (ac.put o.dst (.slice a' n' c')) w') :
    wpList Try.prog ops Q (o :: rest) ac w0 := by
  subst hnz hn0
  obtain ⟨i0, hi, hz0, hz1, hz2⟩ := info_parts infoB
  have key : ∀ (xs : List Int) (p : Addr), xs ≠ [] → RowAt .u8 w0 (some p) xs → ∀ j u, (vals .u8 xs)[j]? = some u → w0.cell? (p.add j) = some u := by
    intro xs p hxs hrow j u hj
    have hjl : j < xs.length := by
      by_cases hp : j < xs.length
      · exact hp
      · rw [List.getElem?_eq_none (by rw [vals_length]; omega)] at hj; cases hj
    obtain ⟨b, off, h1, h2, h3⟩ := hrow.resolve_left hxs
    have e1 := Option.some.inj h1
    subst e1
    have hu : u = .int .u8 (xs.getD j 0) := by
      simp [vals, hjl] at hj
      rw [← hj, List.getD_eq_getElem?_getD, List.getElem?_eq_getElem hjl]
      rfl
    rw [hu, Addr.add_lit]
    exact h3 j hjl
  have hzl : 0 < zs.length := List.length_pos_iff.2 hne
  refine wpList_append_grows w0 hgd s x 22 ho 5 i0 (.int .u8 0) 1 1 Try.underlying22 hi hz0 hz1 hz2 rfl (by decide) (some ad0) ys.length ys.length (vals .u8 ys) hs (fun e => by cases e) (by simp [vals]) (fun b e => by cases e; exact key ys ad0 hne0 hr0) ad zs.length c (vals .u8 zs) hx (by simp [vals]) (key zs ad hne hr) ?_ (by omega) ?_ ?_ ?_
  · intro u hu
    simp [vals] at hu
    obtain ⟨z, _, rfl⟩ := hu
    rfl
  · unfold maxLen; omega
  · omega
  · intro v' w' hown' hgrow
    have hown2 : w'.ownsRow w0.heap.size 5 1 v' (ys ++ zs).length (vals .u8 (ys ++ zs)) := by
      rw [List.length_append]
      simpa [vals] using hown'
    obtain ⟨a', c', rfl, -, -, -⟩ := own_row hown2
    exact h a' _ c' w' hown2 ((Below.refl _ _).grown hgrow (Nat.le_refl _) (fun k hk => by cases hk))

theorem flatB_length : ∀ zs : List Int, (flatB zs).length = zs.length * 4
  | [] => rfl
  | z :: zs => by
    have := flatB_length zs
    unfold flatB at this ⊢
    rw [List.flatMap_cons, List.length_append, this, leB_length, List.length_cons]
    omega
theorem headB_length (n1 n2 n3 : Nat) : (headB n1 n2 n3).length = 9 := by simp [headB, leB_length]
theorem flatB_snoc (zs : List Int) (z : Int) : flatB (zs ++ [z]) = flatB zs ++ leB z 4 := by simp [flatB]
theorem take_snoc {zs : List Int} {m : Nat} (h : m < zs.length) : zs.take (m + 1) = zs.take m ++ [zs.getD m 0] := by
  rw [List.take_succ_eq_append_getElem h, List.getD_eq_getElem?_getD, List.getElem?_eq_getElem h]
  rfl
theorem flat3 {zs : List Int} {m : Nat} (h : m + 3 ≤ zs.length) {m1 : Nat} (e : m1 = m + 3) : flatB (zs.take m1) = flatB (zs.take m) ++ ptB (zs.getD m 0) (zs.getD (m + 1) 0) (zs.getD (m + 2) 0) := by
  subst e
  rw [take_snoc (m := m + 2) (by omega), flatB_snoc, take_snoc (m := m + 1) (by omega), flatB_snoc, take_snoc (m := m) (by omega), flatB_snoc]
  simp [ptB]
theorem ptB_ne (x y z : Int) : ptB x y z ≠ [] := by
  intro e
  have := ptB_length x y z
  rw [e] at this
  simp at this

/-- A list of bytes that is being made, from block base on. -/
structure EncS (W0 : World) (base : Nat) (v : Value) (ys : List Int) (wr : World) : Prop where
  own : OwnY wr base v ys
  bel : Below base W0 wr
  le : base ≤ wr.heap.size
theorem EncS.call {W0 wr w' : World} {base : Nat} {v : Value} {ys : List Int} (h : EncS W0 base v ys wr) (hb : Below wr.heap.size wr w') : EncS W0 base v ys w' :=
  ⟨h.own.later hb, h.bel.trans (hb.mono h.le), Nat.le_trans h.le hb.size⟩
theorem EncS.app {W0 wr w' : World} {base : Nat} {v v' : Value} {ys ys' : List Int} (h : EncS W0 base v ys wr) (ho : OwnY w' base v' ys') (hb : Below base wr w') : EncS W0 base v' ys' w' :=
  ⟨ho, h.bel.trans hb, Nat.le_trans h.le hb.size⟩
theorem EncS.re {W0 wr : World} {base : Nat} {v : Value} {ys ys' : List Int} (h : EncS W0 base v ys wr) (e : ys = ys') : EncS W0 base v ys' wr := e ▸ h

theorem row_scen (W : World) (t : TypeId) (fr : Nat × Nat) {X : Nat} (hX : X = W.heap.size) : RowAt .u8 (W.alloc (.cells #[.int .u8 83, .int .u8 67, .int .u8 69, .int .u8 78] t fr)) (some ⟨X, 0, none⟩) [83, 67, 69, 78] := by
  refine .inr ⟨X, 0, rfl, by simp; omega, fun j hj => ?_⟩
  rw [Nat.zero_add, Go.Joins.cell_alloc_mark_at _ _ _ _ _ _ hX]
  match j, hj with
  | 0, _ => rfl
  | 1, _ => rfl
  | 2, _ => rfl
  | 3, _ => rfl

set_option maxRecDepth 100000 in
set_option maxHeartbeats 16000000 in
theorem scene6_any (a1 a2 a3 : Option Addr) (n1 n2 n3 c1 c2 c3 : Nat) (z1 z2 z3 : List Int) (w : World) (h1 : n1 ≤ 10000) (h2 : n2 ≤ 10000) (h3 : n3 ≤ 10000) (hs : ScAt w a1 a2 a3 n1 n2 n3 z1 z2 z3) (hu1 : U32 z1) (hu2 : U32 z2) (hu3 : U32 z3) :
    Calls Try.prog 76 #[.agg #[.slice a1 n1 c1, .slice a2 n2 c2, .slice a3 n3 c3]] w fun e w' => NewY w (encSc n1 n2 n3 z1 z2 z3) e w' := by
  have HU1 : Hid (U32 z1) := hu1
  have HU2 : Hid (U32 z2) := hu2
  have HU3 : Hid (U32 z3) := hu3
  obtain ⟨W0, hW0⟩ : ∃ W0, W0 = w.alloc (.cells #[.slice a1 n1 c1, .slice a2 n2 c2, .slice a3 n3 c3] 51) := ⟨_, rfl⟩
  have L0 : Hid (LwS w a1 a2 a3 n1 n2 n3 c1 c2 c3 z1 z2 z3 W0) := by unfold Hid; rw [hW0]; exact LwS.start hs _
  have S0 : W0.heap.size = w.heap.size + 1 := by rw [hW0]; simp
  have R0 : Hid (∀ t fr, RowAt .u8 (W0.alloc (.cells #[.int .u8 83, .int .u8 67, .int .u8 69, .int .u8 78] t fr)) (some ⟨w.heap.size + 1, 0, none⟩) [83, 67, 69, 78]) := fun t fr => row_scen W0 t fr S0.symm
  have HQ : Hid (∀ w', Below (w.heap.size + 1) W0 w' → w'.cell? ⟨w.heap.size, 0, none⟩ = some (.slice a1 n1 c1) ∧ w'.cell? ⟨w.heap.size, 1, none⟩ = some (.slice a2 n2 c2) ∧ w'.cell? ⟨w.heap.size, 2, none⟩ = some (.slice a3 n3 c3)) := by
    intro w' hb
    exact ⟨(hb.cell (p := ⟨w.heap.size, 0, none⟩) (by simp)).trans L0.out.bx.q0, (hb.cell (p := ⟨w.heap.size, 1, none⟩) (by simp)).trans L0.out.bx.q1, (hb.cell (p := ⟨w.heap.size, 2, none⟩) (by simp)).trans L0.out.bx.q2⟩
  have hcv := Go.Joins.run_convert_bytes_const_at (P := Try.prog) W0 22 5 #[.int .u8 83, .int .u8 67, .int .u8 69, .int .u8 78] 4 4 (w.heap.size + 1) S0.symm Try.underlying22 Try.underlying5
  rw [hW0] at hcv
  clear hs hu1 hu2 hu3
  go_enter Try.func76, Try.ntmps76
  go_wp2_with fail
  rw [← hW0]
  refine (little_any n1 2 _ (by omega) (by omega) (by decide)).mono ?_
  rintro e w1 ⟨v1, rfl, ho1, hb1⟩
  obtain ⟨b1, o1, k1, rfl, hr1⟩ := ho1.spot (leB_ne _ _ (by decide))
  have G1 : Hid (RowAt .u8 w1 (some ⟨w.heap.size + 1, 0, none⟩) [83, 67, 69, 78]) := (R0.out _ _).later hb1
  have B1 : Hid (Below (w.heap.size + 1) W0 w1) := ((Below.refl _ _).alloc (by omega) _).trans (hb1.mono (by simp <;> omega))
  have Z1 : w.heap.size + 1 ≤ w1.heap.size := by have := B1.out.size; omega
  have R1 : Hid (RowAt .u8 w1 (some ⟨b1, o1, none⟩) (leB n1 2)) := hr1.row
  clear ho1 hb1 hr1 R0 hW0 hcv
  go_wp2_with (at_builtin; refine appF rfl (.tmp 9) (.tmp 13) rfl ⟨w.heap.size + 1, 0, none⟩ 4 [83, 67, 69, 78] ⟨b1, o1, none⟩ _ k1 (leB n1 2) rfl rfl G1.out (by decide) rfl rfl (by rw [leB_length]; omega) (by decide) (leB_ne _ _ (by decide)) R1.out ?_; intro e2 m2 k2 w2 ho2 hb2; obtain ⟨p0, p1, p2⟩ := HQ.out w2 (B1.out.trans (hb2.mono Z1)))
  have E2 : Hid (EncS W0 (w.heap.size + 1) (.slice e2 m2 k2) ([83, 67, 69, 78] ++ leB n1 2) w2) := ⟨ho2.up Z1, B1.out.trans (hb2.mono Z1), Nat.le_trans Z1 hb2.size⟩
  clear ho2 hb2 G1 B1 R1 Z1
  refine (little_any n2 2 _ (by omega) (by omega) (by decide)).mono ?_
  rintro e w3 ⟨v3, rfl, ho, hb⟩
  obtain ⟨b3, o3, k3, rfl, hr⟩ := ho.spot (leB_ne _ _ (by decide))
  have E3 : Hid (EncS W0 (w.heap.size + 1) (.slice e2 m2 k2) ([83, 67, 69, 78] ++ leB n1 2) w3) := E2.out.call hb
  have R3 : Hid (RowAt .u8 w3 (some ⟨b3, o3, none⟩) (leB n2 2)) := hr.row
  clear ho hb hr E2 p0 p1 p2
  go_wp2_with (at_builtin; refine appB rfl (.tmp 15) (.tmp 19) rfl (w.heap.size + 1) _ ([83, 67, 69, 78] ++ leB n1 2) ⟨b3, o3, none⟩ _ k3 (leB n2 2) rfl E3.out.own rfl rfl (by rw [leB_length]; omega) (by simp [leB_length]) (leB_ne _ _ (by decide)) R3.out E3.out.le ?_; intro e2 m2 k2 w4 ho2 hb2; obtain ⟨p0, p1, p2⟩ := HQ.out w4 (E3.out.bel.trans hb2))
  have E4 : Hid (EncS W0 (w.heap.size + 1) (.slice e2 m2 k2) ([83, 67, 69, 78] ++ leB n1 2 ++ leB n2 2) w4) := E3.out.app ho2 hb2
  clear ho2 hb2 E3 R3
  refine (little_any n3 1 _ (by omega) (by omega) (by decide)).mono ?_
  rintro e w5 ⟨v5, rfl, ho, hb⟩
  obtain ⟨b5, o5, k5, rfl, hr⟩ := ho.spot (leB_ne _ _ (by decide))
  have E5 : Hid (EncS W0 (w.heap.size + 1) (.slice e2 m2 k2) ([83, 67, 69, 78] ++ leB n1 2 ++ leB n2 2) w5) := E4.out.call hb
  have R5 : Hid (RowAt .u8 w5 (some ⟨b5, o5, none⟩) (leB n3 1)) := hr.row
  clear ho hb hr E4 p0 p1 p2
  go_wp2_with (at_builtin; refine appB rfl (.tmp 21) (.tmp 25) rfl (w.heap.size + 1) _ ([83, 67, 69, 78] ++ leB n1 2 ++ leB n2 2) ⟨b5, o5, none⟩ _ k5 (leB n3 1) rfl E5.out.own rfl rfl (by rw [leB_length]; omega) (by simp [leB_length]) (leB_ne _ _ (by decide)) R5.out E5.out.le ?_; intro e2 m2 k2 w6 ho2 hb2; obtain ⟨p0, p1, p2⟩ := HQ.out w6 (E5.out.bel.trans hb2))
  have E6 : Hid (EncS W0 (w.heap.size + 1) (.slice e2 m2 k2) ([83, 67, 69, 78] ++ leB n1 2 ++ leB n2 2 ++ leB n3 1) w6) := E5.out.app ho2 hb2
  clear ho2 hb2 E5 R5
  have EH : Hid (EncS W0 (w.heap.size + 1) (.slice e2 m2 k2) (headB n1 n2 n3) w6) := E6
  clear E6 p0 p1 p2
  go_wp2
  go_loopw [3, 4] (fun so si wr => ∃ (i : Nat), i ≤ n1 ∧ si = .int .i64 i ∧ Hid (EncS W0 (w.heap.size + 1) so (headB n1 n2 n3 ++ flatB (z1.take (i * 9))) wr)) (fun _ si _ => n1 - (intOf si).toNat)
  case atStart => exact ⟨0, Nat.zero_le _, rfl, EncS.re EH.out (by simp [flatB])⟩
  case round =>
    obtain ⟨i, hi, rfl, hE⟩ := hrel
    obtain ⟨p0, p1, p2⟩ := HQ.out wr hE.out.bel
    by_cases hlt : i < n1
    · have hll := L0.out.sc.l1
      have hle : ∀ j, j < 9 → i * 9 + j < z1.length := by intro j hj; rw [hll]; omega
      obtain ⟨b, off, rfl, hbl, hc⟩ := L0.out.sc.r1.resolve_left (by intro h; have := hle 0 (by omega); rw [h] at this; simp at this)
      obtain ⟨x0, hx0⟩ : ∃ x, x = z1.getD (i * 9) 0 := ⟨_, rfl⟩
      have x0a : 0 ≤ x0 := by rw [hx0]; exact (HU1.out.at _).1
      have x0b : x0 < 4294967296 := by rw [hx0]; exact (HU1.out.at _).2
      obtain ⟨x1, hx1⟩ : ∃ x, x = z1.getD (i * 9 + 1) 0 := ⟨_, rfl⟩
      have x1a : 0 ≤ x1 := by rw [hx1]; exact (HU1.out.at _).1
      have x1b : x1 < 4294967296 := by rw [hx1]; exact (HU1.out.at _).2
      obtain ⟨x2, hx2⟩ : ∃ x, x = z1.getD (i * 9 + 2) 0 := ⟨_, rfl⟩
      have x2a : 0 ≤ x2 := by rw [hx2]; exact (HU1.out.at _).1
      have x2b : x2 < 4294967296 := by rw [hx2]; exact (HU1.out.at _).2
      obtain ⟨x3, hx3⟩ : ∃ x, x = z1.getD (i * 9 + 3) 0 := ⟨_, rfl⟩
      have x3a : 0 ≤ x3 := by rw [hx3]; exact (HU1.out.at _).1
      have x3b : x3 < 4294967296 := by rw [hx3]; exact (HU1.out.at _).2
      obtain ⟨x4, hx4⟩ : ∃ x, x = z1.getD (i * 9 + 4) 0 := ⟨_, rfl⟩
      have x4a : 0 ≤ x4 := by rw [hx4]; exact (HU1.out.at _).1
      have x4b : x4 < 4294967296 := by rw [hx4]; exact (HU1.out.at _).2
      obtain ⟨x5, hx5⟩ : ∃ x, x = z1.getD (i * 9 + 5) 0 := ⟨_, rfl⟩
      have x5a : 0 ≤ x5 := by rw [hx5]; exact (HU1.out.at _).1
      have x5b : x5 < 4294967296 := by rw [hx5]; exact (HU1.out.at _).2
      obtain ⟨x6, hx6⟩ : ∃ x, x = z1.getD (i * 9 + 6) 0 := ⟨_, rfl⟩
      have x6a : 0 ≤ x6 := by rw [hx6]; exact (HU1.out.at _).1
      have x6b : x6 < 4294967296 := by rw [hx6]; exact (HU1.out.at _).2
      obtain ⟨x7, hx7⟩ : ∃ x, x = z1.getD (i * 9 + 7) 0 := ⟨_, rfl⟩
      have x7a : 0 ≤ x7 := by rw [hx7]; exact (HU1.out.at _).1
      have x7b : x7 < 4294967296 := by rw [hx7]; exact (HU1.out.at _).2
      obtain ⟨x8, hx8⟩ : ∃ x, x = z1.getD (i * 9 + 8) 0 := ⟨_, rfl⟩
      have x8a : 0 ≤ x8 := by rw [hx8]; exact (HU1.out.at _).1
      have x8b : x8 < 4294967296 := by rw [hx8]; exact (HU1.out.at _).2
      have HP : Hid (∀ w', Below (w.heap.size + 1) W0 w' → w'.cell? ⟨b, off + i * 9, none⟩ = some (.int .u32 x0) ∧ w'.cell? ⟨b, off + i * 9 + 1, none⟩ = some (.int .u32 x1) ∧ w'.cell? ⟨b, off + i * 9 + 2, none⟩ = some (.int .u32 x2) ∧ w'.cell? ⟨b, off + i * 9 + 3, none⟩ = some (.int .u32 x3) ∧ w'.cell? ⟨b, off + i * 9 + 4, none⟩ = some (.int .u32 x4) ∧ w'.cell? ⟨b, off + i * 9 + 5, none⟩ = some (.int .u32 x5) ∧ w'.cell? ⟨b, off + i * 9 + 6, none⟩ = some (.int .u32 x6) ∧ w'.cell? ⟨b, off + i * 9 + 7, none⟩ = some (.int .u32 x7) ∧ w'.cell? ⟨b, off + i * 9 + 8, none⟩ = some (.int .u32 x8)) := by
        intro w' hb
        refine ⟨?_, ?_, ?_, ?_, ?_, ?_, ?_, ?_, ?_⟩
        · have := (hb.cell (p := ⟨b, off + (i * 9 + 0), none⟩) (by simp; omega)).trans (hc (i * 9 + 0) (hle 0 (by omega)))
          rw [hx0]
          simpa [Nat.add_assoc] using this
        · have := (hb.cell (p := ⟨b, off + (i * 9 + 1), none⟩) (by simp; omega)).trans (hc (i * 9 + 1) (hle 1 (by omega)))
          rw [hx1]
          simpa [Nat.add_assoc] using this
        · have := (hb.cell (p := ⟨b, off + (i * 9 + 2), none⟩) (by simp; omega)).trans (hc (i * 9 + 2) (hle 2 (by omega)))
          rw [hx2]
          simpa [Nat.add_assoc] using this
        · have := (hb.cell (p := ⟨b, off + (i * 9 + 3), none⟩) (by simp; omega)).trans (hc (i * 9 + 3) (hle 3 (by omega)))
          rw [hx3]
          simpa [Nat.add_assoc] using this
        · have := (hb.cell (p := ⟨b, off + (i * 9 + 4), none⟩) (by simp; omega)).trans (hc (i * 9 + 4) (hle 4 (by omega)))
          rw [hx4]
          simpa [Nat.add_assoc] using this
        · have := (hb.cell (p := ⟨b, off + (i * 9 + 5), none⟩) (by simp; omega)).trans (hc (i * 9 + 5) (hle 5 (by omega)))
          rw [hx5]
          simpa [Nat.add_assoc] using this
        · have := (hb.cell (p := ⟨b, off + (i * 9 + 6), none⟩) (by simp; omega)).trans (hc (i * 9 + 6) (hle 6 (by omega)))
          rw [hx6]
          simpa [Nat.add_assoc] using this
        · have := (hb.cell (p := ⟨b, off + (i * 9 + 7), none⟩) (by simp; omega)).trans (hc (i * 9 + 7) (hle 7 (by omega)))
          rw [hx7]
          simpa [Nat.add_assoc] using this
        · have := (hb.cell (p := ⟨b, off + (i * 9 + 8), none⟩) (by simp; omega)).trans (hc (i * 9 + 8) (hle 8 (by omega)))
          rw [hx8]
          simpa [Nat.add_assoc] using this
      have HF : Hid (headB n1 n2 n3 ++ flatB (z1.take ((i + 1) * 9)) = (((headB n1 n2 n3 ++ flatB (z1.take (i * 9))) ++ ptB x0 x1 x2) ++ ptB x3 x4 x5) ++ ptB x6 x7 x8) := by
        unfold Hid
        rw [hx0, hx1, hx2, hx3, hx4, hx5, hx6, hx7, hx8]
        rw [flat3 (m := i * 9 + 6) (by have := hle 8 (by omega); omega) (m1 := (i + 1) * 9) (by omega), flat3 (m := i * 9 + 3) (by have := hle 8 (by omega); omega) (m1 := i * 9 + 6) (by omega), flat3 (m := i * 9) (by have := hle 8 (by omega); omega) (m1 := i * 9 + 3) (by omega)]
        simp only [List.append_assoc]
      have hyl : (headB n1 n2 n3 ++ flatB (z1.take (i * 9))).length ≤ 1000000 := by
        have q1 := L0.out.sc.l1
        have q2 := L0.out.sc.l2
        have q3 := L0.out.sc.l3
        simp only [List.length_append, flatB_length, headB_length, List.length_take]
        omega
      obtain ⟨ys, hys⟩ : ∃ ys, ys = headB n1 n2 n3 ++ flatB (z1.take (i * 9)) := ⟨_, rfl⟩
      rw [← hys] at hyl HF hE
      have hib : (i : Int) < n1 := by omega
      obtain ⟨q0, q1, q2, q3, q4, q5, q6, q7, q8⟩ := HP.out wr hE.out.bel
      clear hc hle hbl hll hys hx0 hx1 hx2 hx3 hx4 hx5 hx6 hx7 hx8
      go_wp2_with fail
      refine (point6_any x0 x1 x2 _ x0a x0b x1a x1b x2a x2b).mono ?_
      rintro e u0 ⟨v, rfl, ho, hb⟩
      obtain ⟨bb, oo, kk, rfl, hr⟩ := ho.spot (ptB_ne _ _ _)
      have F0 := hE.out.call hb
      have EC0 : Hid (EncS W0 (w.heap.size + 1) _ (ys) u0) := F0
      have R0 : Hid (RowAt .u8 u0 (some ⟨bb, oo, none⟩) (ptB x0 x1 x2)) := hr.row
      clear ho hb hr F0 hE p0 p1 p2 q0 q1 q2 q3 q4 q5 q6 q7 q8
      go_wp2_with (at_builtin; refine appB rfl (.tmp 34) (.tmp 41) rfl (w.heap.size + 1) _ (ys) ⟨bb, oo, none⟩ _ kk (ptB x0 x1 x2) rfl EC0.out.own rfl rfl (by rw [ptB_length]; omega) (by omega) (ptB_ne _ _ _) R0.out EC0.out.le ?_; intro e2 m2 k2 y0 ho2 hb2; obtain ⟨p0, p1, p2⟩ := HQ.out y0 (EC0.out.bel.trans hb2); obtain ⟨q0, q1, q2, q3, q4, q5, q6, q7, q8⟩ := HP.out y0 (EC0.out.bel.trans hb2))
      have ED0 : Hid (EncS W0 (w.heap.size + 1) (.slice e2 m2 k2) (ys ++ ptB x0 x1 x2) y0) := EC0.out.app ho2 hb2
      clear ho2 hb2 EC0 R0
      refine (point6_any x3 x4 x5 _ x3a x3b x4a x4b x5a x5b).mono ?_
      rintro e u1 ⟨v, rfl, ho, hb⟩
      obtain ⟨bb, oo, kk, rfl, hr⟩ := ho.spot (ptB_ne _ _ _)
      have F1 := ED0.out.call hb
      have EC1 : Hid (EncS W0 (w.heap.size + 1) _ (ys ++ ptB x0 x1 x2) u1) := F1
      have R1 : Hid (RowAt .u8 u1 (some ⟨bb, oo, none⟩) (ptB x3 x4 x5)) := hr.row
      clear ho hb hr F1 ED0 p0 p1 p2 q0 q1 q2 q3 q4 q5 q6 q7 q8
      go_wp2_with (at_builtin; refine appB rfl (.tmp 43) (.tmp 50) rfl (w.heap.size + 1) _ (ys ++ ptB x0 x1 x2) ⟨bb, oo, none⟩ _ kk (ptB x3 x4 x5) rfl EC1.out.own rfl rfl (by rw [ptB_length]; omega) (by simp [ptB_length]; omega) (ptB_ne _ _ _) R1.out EC1.out.le ?_; intro e2 m2 k2 y1 ho2 hb2; obtain ⟨p0, p1, p2⟩ := HQ.out y1 (EC1.out.bel.trans hb2); obtain ⟨q0, q1, q2, q3, q4, q5, q6, q7, q8⟩ := HP.out y1 (EC1.out.bel.trans hb2))
      have ED1 : Hid (EncS W0 (w.heap.size + 1) (.slice e2 m2 k2) ((ys ++ ptB x0 x1 x2) ++ ptB x3 x4 x5) y1) := EC1.out.app ho2 hb2
      clear ho2 hb2 EC1 R1
      refine (point6_any x6 x7 x8 _ x6a x6b x7a x7b x8a x8b).mono ?_
      rintro e u2 ⟨v, rfl, ho, hb⟩
      obtain ⟨bb, oo, kk, rfl, hr⟩ := ho.spot (ptB_ne _ _ _)
      have F2 := ED1.out.call hb
      have EC2 : Hid (EncS W0 (w.heap.size + 1) _ ((ys ++ ptB x0 x1 x2) ++ ptB x3 x4 x5) u2) := F2
      have R2 : Hid (RowAt .u8 u2 (some ⟨bb, oo, none⟩) (ptB x6 x7 x8)) := hr.row
      clear ho hb hr F2 ED1 p0 p1 p2 q0 q1 q2 q3 q4 q5 q6 q7 q8
      go_wp2_with (at_builtin; refine appB rfl (.tmp 52) (.tmp 59) rfl (w.heap.size + 1) _ ((ys ++ ptB x0 x1 x2) ++ ptB x3 x4 x5) ⟨bb, oo, none⟩ _ kk (ptB x6 x7 x8) rfl EC2.out.own rfl rfl (by rw [ptB_length]; omega) (by simp [ptB_length]; omega) (ptB_ne _ _ _) R2.out EC2.out.le ?_; intro e2 m2 k2 y2 ho2 hb2; obtain ⟨p0, p1, p2⟩ := HQ.out y2 (EC2.out.bel.trans hb2); obtain ⟨q0, q1, q2, q3, q4, q5, q6, q7, q8⟩ := HP.out y2 (EC2.out.bel.trans hb2))
      have ED2 : Hid (EncS W0 (w.heap.size + 1) (.slice e2 m2 k2) (((ys ++ ptB x0 x1 x2) ++ ptB x3 x4 x5) ++ ptB x6 x7 x8) y2) := EC2.out.app ho2 hb2
      clear ho2 hb2 EC2 R2
      clear p0 p1 p2 q0 q1 q2 q3 q4 q5 q6 q7 q8
      go_roundw
      case rel => exact ⟨i + 1, by omega, by go_num, by unfold Hid; rw [HF.out]; exact ED2⟩
      case measure => simp [intOf]; omega
    · have hie : n1 = i := by omega
      subst hie
      have hE1 := hE.out
      rw [List.take_of_length_le (by have := L0.out.sc.l1; omega)] at hE1
      have EN : Hid (EncS W0 (w.heap.size + 1) _ (headB n1 n2 n3 ++ flatB z1) wr) := hE1
      clear hE hE1
      go_wp2
      go_loopw [3, 5] (fun so si wr => ∃ (i : Nat), i ≤ n2 ∧ si = .int .i64 i ∧ Hid (EncS W0 (w.heap.size + 1) so (headB n1 n2 n3 ++ flatB z1 ++ flatB (z2.take (i * 6))) wr)) (fun _ si _ => n2 - (intOf si).toNat)
      case atStart => exact ⟨0, Nat.zero_le _, rfl, EncS.re EN.out (by simp [flatB])⟩
      case round =>
        obtain ⟨i, hi, rfl, hE⟩ := hrel
        obtain ⟨p0, p1, p2⟩ := HQ.out wr hE.out.bel
        by_cases hlt : i < n2
        · have hll := L0.out.sc.l2
          have hle : ∀ j, j < 6 → i * 6 + j < z2.length := by intro j hj; rw [hll]; omega
          obtain ⟨b, off, rfl, hbl, hc⟩ := L0.out.sc.r2.resolve_left (by intro h; have := hle 0 (by omega); rw [h] at this; simp at this)
          obtain ⟨x0, hx0⟩ : ∃ x, x = z2.getD (i * 6) 0 := ⟨_, rfl⟩
          have x0a : 0 ≤ x0 := by rw [hx0]; exact (HU2.out.at _).1
          have x0b : x0 < 4294967296 := by rw [hx0]; exact (HU2.out.at _).2
          obtain ⟨x1, hx1⟩ : ∃ x, x = z2.getD (i * 6 + 1) 0 := ⟨_, rfl⟩
          have x1a : 0 ≤ x1 := by rw [hx1]; exact (HU2.out.at _).1
          have x1b : x1 < 4294967296 := by rw [hx1]; exact (HU2.out.at _).2
          obtain ⟨x2, hx2⟩ : ∃ x, x = z2.getD (i * 6 + 2) 0 := ⟨_, rfl⟩
          have x2a : 0 ≤ x2 := by rw [hx2]; exact (HU2.out.at _).1
          have x2b : x2 < 4294967296 := by rw [hx2]; exact (HU2.out.at _).2
          obtain ⟨x3, hx3⟩ : ∃ x, x = z2.getD (i * 6 + 3) 0 := ⟨_, rfl⟩
          have x3a : 0 ≤ x3 := by rw [hx3]; exact (HU2.out.at _).1
          have x3b : x3 < 4294967296 := by rw [hx3]; exact (HU2.out.at _).2
          obtain ⟨x4, hx4⟩ : ∃ x, x = z2.getD (i * 6 + 4) 0 := ⟨_, rfl⟩
          have x4a : 0 ≤ x4 := by rw [hx4]; exact (HU2.out.at _).1
          have x4b : x4 < 4294967296 := by rw [hx4]; exact (HU2.out.at _).2
          obtain ⟨x5, hx5⟩ : ∃ x, x = z2.getD (i * 6 + 5) 0 := ⟨_, rfl⟩
          have x5a : 0 ≤ x5 := by rw [hx5]; exact (HU2.out.at _).1
          have x5b : x5 < 4294967296 := by rw [hx5]; exact (HU2.out.at _).2
          have HP : Hid (∀ w', Below (w.heap.size + 1) W0 w' → w'.cell? ⟨b, off + i * 6, none⟩ = some (.int .u32 x0) ∧ w'.cell? ⟨b, off + i * 6 + 1, none⟩ = some (.int .u32 x1) ∧ w'.cell? ⟨b, off + i * 6 + 2, none⟩ = some (.int .u32 x2) ∧ w'.cell? ⟨b, off + i * 6 + 3, none⟩ = some (.int .u32 x3) ∧ w'.cell? ⟨b, off + i * 6 + 4, none⟩ = some (.int .u32 x4) ∧ w'.cell? ⟨b, off + i * 6 + 5, none⟩ = some (.int .u32 x5)) := by
            intro w' hb
            refine ⟨?_, ?_, ?_, ?_, ?_, ?_⟩
            · have := (hb.cell (p := ⟨b, off + (i * 6 + 0), none⟩) (by simp; omega)).trans (hc (i * 6 + 0) (hle 0 (by omega)))
              rw [hx0]
              simpa [Nat.add_assoc] using this
            · have := (hb.cell (p := ⟨b, off + (i * 6 + 1), none⟩) (by simp; omega)).trans (hc (i * 6 + 1) (hle 1 (by omega)))
              rw [hx1]
              simpa [Nat.add_assoc] using this
            · have := (hb.cell (p := ⟨b, off + (i * 6 + 2), none⟩) (by simp; omega)).trans (hc (i * 6 + 2) (hle 2 (by omega)))
              rw [hx2]
              simpa [Nat.add_assoc] using this
            · have := (hb.cell (p := ⟨b, off + (i * 6 + 3), none⟩) (by simp; omega)).trans (hc (i * 6 + 3) (hle 3 (by omega)))
              rw [hx3]
              simpa [Nat.add_assoc] using this
            · have := (hb.cell (p := ⟨b, off + (i * 6 + 4), none⟩) (by simp; omega)).trans (hc (i * 6 + 4) (hle 4 (by omega)))
              rw [hx4]
              simpa [Nat.add_assoc] using this
            · have := (hb.cell (p := ⟨b, off + (i * 6 + 5), none⟩) (by simp; omega)).trans (hc (i * 6 + 5) (hle 5 (by omega)))
              rw [hx5]
              simpa [Nat.add_assoc] using this
          have HF : Hid (headB n1 n2 n3 ++ flatB z1 ++ flatB (z2.take ((i + 1) * 6)) = ((headB n1 n2 n3 ++ flatB z1 ++ flatB (z2.take (i * 6))) ++ ptB x0 x1 x2) ++ ptB x3 x4 x5) := by
            unfold Hid
            rw [hx0, hx1, hx2, hx3, hx4, hx5]
            rw [flat3 (m := i * 6 + 3) (by have := hle 5 (by omega); omega) (m1 := (i + 1) * 6) (by omega), flat3 (m := i * 6) (by have := hle 5 (by omega); omega) (m1 := i * 6 + 3) (by omega)]
            simp only [List.append_assoc]
          have hyl : (headB n1 n2 n3 ++ flatB z1 ++ flatB (z2.take (i * 6))).length ≤ 1000000 := by
            have q1 := L0.out.sc.l1
            have q2 := L0.out.sc.l2
            have q3 := L0.out.sc.l3
            simp only [List.length_append, flatB_length, headB_length, List.length_take]
            omega
          obtain ⟨ys, hys⟩ : ∃ ys, ys = headB n1 n2 n3 ++ flatB z1 ++ flatB (z2.take (i * 6)) := ⟨_, rfl⟩
          rw [← hys] at hyl HF hE
          have hib : (i : Int) < n2 := by omega
          obtain ⟨q0, q1, q2, q3, q4, q5⟩ := HP.out wr hE.out.bel
          clear hc hle hbl hll hys hx0 hx1 hx2 hx3 hx4 hx5
          go_wp2_with fail
          refine (point6_any x0 x1 x2 _ x0a x0b x1a x1b x2a x2b).mono ?_
          rintro e u0 ⟨v, rfl, ho, hb⟩
          obtain ⟨bb, oo, kk, rfl, hr⟩ := ho.spot (ptB_ne _ _ _)
          have F0 := hE.out.call hb
          have EC0 : Hid (EncS W0 (w.heap.size + 1) _ (ys) u0) := F0
          have R0 : Hid (RowAt .u8 u0 (some ⟨bb, oo, none⟩) (ptB x0 x1 x2)) := hr.row
          clear ho hb hr F0 hE p0 p1 p2 q0 q1 q2 q3 q4 q5
          go_wp2_with (at_builtin; refine appB rfl (.tmp 68) (.tmp 75) rfl (w.heap.size + 1) _ (ys) ⟨bb, oo, none⟩ _ kk (ptB x0 x1 x2) rfl EC0.out.own rfl rfl (by rw [ptB_length]; omega) (by omega) (ptB_ne _ _ _) R0.out EC0.out.le ?_; intro e2 m2 k2 y0 ho2 hb2; obtain ⟨p0, p1, p2⟩ := HQ.out y0 (EC0.out.bel.trans hb2); obtain ⟨q0, q1, q2, q3, q4, q5⟩ := HP.out y0 (EC0.out.bel.trans hb2))
          have ED0 : Hid (EncS W0 (w.heap.size + 1) (.slice e2 m2 k2) (ys ++ ptB x0 x1 x2) y0) := EC0.out.app ho2 hb2
          clear ho2 hb2 EC0 R0
          refine (point6_any x3 x4 x5 _ x3a x3b x4a x4b x5a x5b).mono ?_
          rintro e u1 ⟨v, rfl, ho, hb⟩
          obtain ⟨bb, oo, kk, rfl, hr⟩ := ho.spot (ptB_ne _ _ _)
          have F1 := ED0.out.call hb
          have EC1 : Hid (EncS W0 (w.heap.size + 1) _ (ys ++ ptB x0 x1 x2) u1) := F1
          have R1 : Hid (RowAt .u8 u1 (some ⟨bb, oo, none⟩) (ptB x3 x4 x5)) := hr.row
          clear ho hb hr F1 ED0 p0 p1 p2 q0 q1 q2 q3 q4 q5
          go_wp2_with (at_builtin; refine appB rfl (.tmp 77) (.tmp 84) rfl (w.heap.size + 1) _ (ys ++ ptB x0 x1 x2) ⟨bb, oo, none⟩ _ kk (ptB x3 x4 x5) rfl EC1.out.own rfl rfl (by rw [ptB_length]; omega) (by simp [ptB_length]; omega) (ptB_ne _ _ _) R1.out EC1.out.le ?_; intro e2 m2 k2 y1 ho2 hb2; obtain ⟨p0, p1, p2⟩ := HQ.out y1 (EC1.out.bel.trans hb2); obtain ⟨q0, q1, q2, q3, q4, q5⟩ := HP.out y1 (EC1.out.bel.trans hb2))
          have ED1 : Hid (EncS W0 (w.heap.size + 1) (.slice e2 m2 k2) ((ys ++ ptB x0 x1 x2) ++ ptB x3 x4 x5) y1) := EC1.out.app ho2 hb2
          clear ho2 hb2 EC1 R1
          clear p0 p1 p2 q0 q1 q2 q3 q4 q5
          go_roundw
          case rel => exact ⟨i + 1, by omega, by go_num, by unfold Hid; rw [HF.out]; exact ED1⟩
          case measure => simp [intOf]; omega
        · have hie : n2 = i := by omega
          subst hie
          have hE1 := hE.out
          rw [List.take_of_length_le (by have := L0.out.sc.l2; omega)] at hE1
          have EN : Hid (EncS W0 (w.heap.size + 1) _ (headB n1 n2 n3 ++ flatB z1 ++ flatB z2) wr) := hE1
          clear hE hE1
          go_wp2
          go_loopw [3, 6] (fun so si wr => ∃ (i : Nat), i ≤ n3 ∧ si = .int .i64 i ∧ Hid (EncS W0 (w.heap.size + 1) so (headB n1 n2 n3 ++ flatB z1 ++ flatB z2 ++ flatB (z3.take (i * 3))) wr)) (fun _ si _ => n3 - (intOf si).toNat)
          case atStart => exact ⟨0, Nat.zero_le _, rfl, EncS.re EN.out (by simp [flatB])⟩
          case round =>
            obtain ⟨i, hi, rfl, hE⟩ := hrel
            obtain ⟨p0, p1, p2⟩ := HQ.out wr hE.out.bel
            by_cases hlt : i < n3
            · have hll := L0.out.sc.l3
              have hle : ∀ j, j < 3 → i * 3 + j < z3.length := by intro j hj; rw [hll]; omega
              obtain ⟨b, off, rfl, hbl, hc⟩ := L0.out.sc.r3.resolve_left (by intro h; have := hle 0 (by omega); rw [h] at this; simp at this)
              obtain ⟨x0, hx0⟩ : ∃ x, x = z3.getD (i * 3) 0 := ⟨_, rfl⟩
              have x0a : 0 ≤ x0 := by rw [hx0]; exact (HU3.out.at _).1
              have x0b : x0 < 4294967296 := by rw [hx0]; exact (HU3.out.at _).2
              obtain ⟨x1, hx1⟩ : ∃ x, x = z3.getD (i * 3 + 1) 0 := ⟨_, rfl⟩
              have x1a : 0 ≤ x1 := by rw [hx1]; exact (HU3.out.at _).1
              have x1b : x1 < 4294967296 := by rw [hx1]; exact (HU3.out.at _).2
              obtain ⟨x2, hx2⟩ : ∃ x, x = z3.getD (i * 3 + 2) 0 := ⟨_, rfl⟩
              have x2a : 0 ≤ x2 := by rw [hx2]; exact (HU3.out.at _).1
              have x2b : x2 < 4294967296 := by rw [hx2]; exact (HU3.out.at _).2
              have HP : Hid (∀ w', Below (w.heap.size + 1) W0 w' → w'.cell? ⟨b, off + i * 3, none⟩ = some (.int .u32 x0) ∧ w'.cell? ⟨b, off + i * 3 + 1, none⟩ = some (.int .u32 x1) ∧ w'.cell? ⟨b, off + i * 3 + 2, none⟩ = some (.int .u32 x2)) := by
                intro w' hb
                refine ⟨?_, ?_, ?_⟩
                · have := (hb.cell (p := ⟨b, off + (i * 3 + 0), none⟩) (by simp; omega)).trans (hc (i * 3 + 0) (hle 0 (by omega)))
                  rw [hx0]
                  simpa [Nat.add_assoc] using this
                · have := (hb.cell (p := ⟨b, off + (i * 3 + 1), none⟩) (by simp; omega)).trans (hc (i * 3 + 1) (hle 1 (by omega)))
                  rw [hx1]
                  simpa [Nat.add_assoc] using this
                · have := (hb.cell (p := ⟨b, off + (i * 3 + 2), none⟩) (by simp; omega)).trans (hc (i * 3 + 2) (hle 2 (by omega)))
                  rw [hx2]
                  simpa [Nat.add_assoc] using this
              have HF : Hid (headB n1 n2 n3 ++ flatB z1 ++ flatB z2 ++ flatB (z3.take ((i + 1) * 3)) = (headB n1 n2 n3 ++ flatB z1 ++ flatB z2 ++ flatB (z3.take (i * 3))) ++ ptB x0 x1 x2) := by
                unfold Hid
                rw [hx0, hx1, hx2]
                rw [flat3 (m := i * 3) (by have := hle 2 (by omega); omega) (m1 := (i + 1) * 3) (by omega)]
                simp only [List.append_assoc]
              have hyl : (headB n1 n2 n3 ++ flatB z1 ++ flatB z2 ++ flatB (z3.take (i * 3))).length ≤ 1000000 := by
                have q1 := L0.out.sc.l1
                have q2 := L0.out.sc.l2
                have q3 := L0.out.sc.l3
                simp only [List.length_append, flatB_length, headB_length, List.length_take]
                omega
              obtain ⟨ys, hys⟩ : ∃ ys, ys = headB n1 n2 n3 ++ flatB z1 ++ flatB z2 ++ flatB (z3.take (i * 3)) := ⟨_, rfl⟩
              rw [← hys] at hyl HF hE
              have hib : (i : Int) < n3 := by omega
              obtain ⟨q0, q1, q2⟩ := HP.out wr hE.out.bel
              clear hc hle hbl hll hys hx0 hx1 hx2
              go_wp2_with fail
              refine (point6_any x0 x1 x2 _ x0a x0b x1a x1b x2a x2b).mono ?_
              rintro e u0 ⟨v, rfl, ho, hb⟩
              obtain ⟨bb, oo, kk, rfl, hr⟩ := ho.spot (ptB_ne _ _ _)
              have F0 := hE.out.call hb
              have EC0 : Hid (EncS W0 (w.heap.size + 1) _ (ys) u0) := F0
              have R0 : Hid (RowAt .u8 u0 (some ⟨bb, oo, none⟩) (ptB x0 x1 x2)) := hr.row
              clear ho hb hr F0 hE p0 p1 p2 q0 q1 q2
              go_wp2_with (at_builtin; refine appB rfl (.tmp 93) (.tmp 99) rfl (w.heap.size + 1) _ (ys) ⟨bb, oo, none⟩ _ kk (ptB x0 x1 x2) rfl EC0.out.own rfl rfl (by rw [ptB_length]; omega) (by omega) (ptB_ne _ _ _) R0.out EC0.out.le ?_; intro e2 m2 k2 y0 ho2 hb2; obtain ⟨p0, p1, p2⟩ := HQ.out y0 (EC0.out.bel.trans hb2); obtain ⟨q0, q1, q2⟩ := HP.out y0 (EC0.out.bel.trans hb2))
              have ED0 : Hid (EncS W0 (w.heap.size + 1) (.slice e2 m2 k2) (ys ++ ptB x0 x1 x2) y0) := EC0.out.app ho2 hb2
              clear ho2 hb2 EC0 R0
              clear p0 p1 p2 q0 q1 q2
              go_roundw
              case rel => exact ⟨i + 1, by omega, by go_num, by unfold Hid; rw [HF.out]; exact ED0⟩
              case measure => simp [intOf]; omega
            · have hie : n3 = i := by omega
              subst hie
              have hE1 := hE.out
              rw [List.take_of_length_le (by have := L0.out.sc.l3; omega)] at hE1
              have EN : Hid (EncS W0 (w.heap.size + 1) _ (headB n1 n2 n3 ++ flatB z1 ++ flatB z2 ++ flatB z3) wr) := hE1
              clear hE hE1
              go_wp2
              go_ret
              exact ⟨_, rfl, EN.out.own.up (Nat.le_succ _), L0.out.bel.trans (EN.out.bel.mono (Nat.le_succ _))⟩

set_option maxRecDepth 100000 in
set_option maxHeartbeats 4000000 in
theorem encS_any (a1 a2 a3 : Option Addr) (n1 n2 n3 c1 c2 c3 : Nat) (z1 z2 z3 : List Int) (w : World) (hn : n1 + n2 + n3 ≤ 1048576) (hs : ScAt w a1 a2 a3 n1 n2 n3 z1 z2 z3) (hu1 : U32 z1) (hu2 : U32 z2) (hu3 : U32 z3) :
    Calls Try.prog 30 #[.agg #[.slice a1 n1 c1, .slice a2 n2 c2, .slice a3 n3 c3]] w fun e w' => NewY w (encV n1 n2 n3 z1 z2 z3) e w' := by
  have HSC : Hid (ScAt w a1 a2 a3 n1 n2 n3 z1 z2 z3) := hs
  have HU : Hid (U32 z1 ∧ U32 z2 ∧ U32 z3) := ⟨hu1, hu2, hu3⟩
  clear hs hu1 hu2 hu3
  go_enter Try.func30, Try.ntmps30
  go_wp2_with fail
  refine (validV_any a1 a2 a3 n1 n2 n3 c1 c2 c3 z1 z2 z3 _ hn (HSC.out.later (bel0 _ _)) HU.out.1 HU.out.2.1 HU.out.2.2).mono ?_
  rintro e w1 ⟨rfl, hb1⟩
  have F1 : Hid (LwS w a1 a2 a3 n1 n2 n3 c1 c2 c3 z1 z2 z3 w1) := (LwS.start HSC.out _).later hb1
  clear hb1
  cases hv : validSc n1 n2 n3 z1 z2 z3
  · go_wp2
    go_ret
    exact ⟨_, rfl, by rw [encV_bad hv]; exact OwnY.nil _ _, F1.out.bel⟩
  · have hb3 : n1 ≤ 40 ∧ n2 ≤ 40 ∧ n3 ≤ 4 := by
      unfold validSc at hv
      simp only [Bool.and_eq_true, decide_eq_true_eq] at hv
      exact ⟨hv.1.1.1.1.1, hv.1.1.1.2, hv.1.1.2⟩
    have p0 := F1.out.bx.q0
    have p1 := F1.out.bx.q1
    have p2 := F1.out.bx.q2
    go_wp2_with fail
    refine (scene6_any a1 a2 a3 n1 n2 n3 c1 c2 c3 z1 z2 z3 _ (by omega) (by omega) (by omega) F1.out.sc HU.out.1 HU.out.2.1 HU.out.2.2).mono ?_
    rintro e w2 ⟨v2, rfl, ho2, hb2⟩
    have HO : Hid (OwnY w2 w.heap.size v2 (encV n1 n2 n3 z1 z2 z3)) := by unfold Hid; rw [encV_ok hv]; exact ho2.up F1.out.bel.size
    have HB : Hid (Below w.heap.size w w2) := F1.out.bel.trans (hb2.mono F1.out.bel.size)
    clear ho2 hb2 p0 p1 p2
    go_wp2
    go_ret
    exact ⟨_, rfl, HO.out, HB.out⟩

end Go.Proofs.Ytcjdnomhnlbmbaa
