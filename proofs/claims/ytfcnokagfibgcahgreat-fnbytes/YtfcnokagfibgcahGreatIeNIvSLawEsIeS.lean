/-
  The program's appendNumber: a number's bytes behind bytes.
-/
import Derived.Test.YtfcnokagfibgcahGreatBytesToSpF
import Derived.Deep.AppendLies
import Derived.Test.YtfcnokagfibgcahGreatSpD0ToImV
import Derived.Test.YtfcnokagfibgcahGreatSpD2ScMScJBytes2LawDs
namespace Go.Proofs.YtfcnokagfibgcahGreat
open Go.RowKit

theorem gb_refl (w : World) (r : Option Nat) : w.grownBy w r := ⟨rfl, rfl, rfl, Nat.le_refl _, fun _ _ _ => rfl⟩
theorem gb_trans {a b c : World} {r1 r2 : Option Nat} (h : a.grownBy b r1) (k : b.grownBy c r2) (hr : ∀ j, r2 = some j → r1 = some j ∨ a.heap.size ≤ j) : a.grownBy c r1 :=
  ⟨k.os.trans h.os, k.tape.trans h.tape, k.output.trans h.output, Nat.le_trans h.size k.size, fun i hi hn => (k.block i (Nat.lt_of_lt_of_le hi h.size) (fun e => by
    rcases hr i e.symm with h1 | h1
    · exact hn h1.symm
    · omega)).trans (h.block i hi hn)⟩
theorem gb_of {w w' : World} (h : Below w.heap.size w w') (r : Option Nat) : w.grownBy w' r := ⟨h.os, h.tape, h.output, h.size, fun k hk _ => h.block k hk⟩
theorem gb_any {w w' : World} (h : w.grownBy w' none) (r : Option Nat) : w.grownBy w' r := ⟨h.os, h.tape, h.output, h.size, fun k hk _ => h.block k hk (fun e => by cases e)⟩
theorem gb_below {w w' : World} {r : Option Nat} {base : Nat} (h : w.grownBy w' r) (hb : base ≤ w.heap.size) (hr : ∀ k, r = some k → base ≤ k) : Below base w w' := (Below.refl _ _).grown h hb hr
theorem gb_row {k : IntKind} {w w' : World} {r : Option Nat} {a : Option Addr} {zs : List Int} (h : w.grownBy w' r) (hr : RowAt k w a zs) (hn : ∀ b off, a = some ⟨b, off, none⟩ → zs ≠ [] → r ≠ some b) : RowAt k w' a zs := by
  by_cases e : zs = []
  · exact .inl e
  · rcases hr with hr | ⟨b, off, h1, h2, h3⟩
    · exact .inl hr
    · exact .inr ⟨b, off, h1, Nat.lt_of_lt_of_le h2 h.size, fun j hj => (h.cell_far ⟨b, off + j, none⟩ h2 (fun q => hn b off h1 e q.symm)).trans (h3 j hj)⟩

/-- Bytes of the call's own, or a row of bytes that has no room left. -/
def StartY (w : World) (base : Nat) (v : Value) (ys : List Int) : Prop :=
  OwnY w base v ys ∨ ∃ ad, v = .slice (some ad) ys.length ys.length ∧ RowAt .u8 w (some ad) ys ∧ ys ≠ []
theorem StartY.later {w w' : World} {base : Nat} {v : Value} {ys : List Int} (h : StartY w base v ys) (hb : Below w.heap.size w w') : StartY w' base v ys := by
  rcases h with h | ⟨ad, h1, h2, h3⟩
  · exact .inl (h.later hb)
  · exact .inr ⟨ad, h1, h2.later hb, h3⟩
theorem StartY.re {w : World} {base : Nat} {v : Value} {ys ys' : List Int} (h : StartY w base v ys) (e : ys = ys') : StartY w base v ys' := e ▸ h
theorem OwnY.tail {w : World} {base : Nat} {v : Value} {ys : List Int} {x y : Int} (h : OwnY w base v (ys ++ [x])) (e : x = y) : OwnY w base v (ys ++ [y]) := e ▸ h
theorem OwnY.re {w : World} {base : Nat} {v : Value} {ys ys' : List Int} (h : OwnY w base v ys) (e : ys = ys') : OwnY w base v ys' := e ▸ h
theorem OwnY.blk {w : World} {base : Nat} {v : Value} {ys : List Int} (h : OwnY w base v ys) {k : Nat} (e : v.ownBlock = some k) : base ≤ k ∧ k < w.heap.size := by
  rcases h.2 with ⟨h1, _⟩ | ⟨g, cap, cur, h1, h2, h3, _⟩
  · rw [h1] at e; simp [Value.ownBlock] at e
  · rw [h1] at e
    simp [Value.ownBlock] at e
    subst e
    refine ⟨h2, ?_⟩
    by_cases hg : g < w.heap.size
    · exact hg
    · rw [Array.getElem?_eq_none (by omega)] at h3; cases h3

/-- What turns in memory while bytes are appended to a row whose block is r: that block, and new ones; the new row's block is g. -/
structure GrewY (w : World) (base : Nat) (r : Option Nat) (g : Nat) (ys : List Int) (n c : Nat) (w' : World) : Prop where
  own : OwnY w' base (.slice (some ⟨g, 0, none⟩) n c) ys
  grown : w.grownBy w' r
  at_ : r = some g ∨ w.heap.size ≤ g

/-- 'append(s, x)' of one byte behind such bytes. -/
theorem app1Y {X : Int} {w0 : World} {ops : Array Oper} {rest : List Oper} {o : Oper} {ac : Act} {Q : Exit → Act → World → Prop} (hgd : o.guard = none) (s x : Operand)
    (ho : o.op = .call { callee := .builtin .append, args := #[s, x], argTypes := #[22, 22] })
    (base : Nat) (sv : Value) (ys : List Int) (hs : ac.eval s = sv) (hx : ac.eval x = .slice (some ⟨w0.heap.size, 0, none⟩) 1 1) (hst : StartY w0 base sv ys) (hn : ys.length ≤ 1500000) (hbase : base ≤ w0.heap.size)
    (h : ∀ g n' c' w', GrewY w0 base sv.ownBlock g (ys ++ [X]) n' c' w' → wpList Tryz.prog ops Q rest (ac.put o.dst (.slice (some ⟨g, 0, none⟩) n' c')) w') :
    wpList Tryz.prog ops Q (o :: rest) ac (w0.alloc (.cells #[.int .u8 X] 5)) := by
  obtain ⟨i0, hi, hz0, hz1, hz2⟩ := info_parts infoB
  rcases hst with hst | ⟨ad, h1, h2, h3⟩
  · refine wpList_append_lies _ hgd s x 22 ho base 5 i0 (.int .u8 0) 1 1 Tryz.underlying22 hi hz0 hz1 hz2 rfl (by decide) sv ys.length (vals .u8 ys) hs (World.ownsRow.alloc hst _) ⟨w0.heap.size, 0, none⟩ 1 1 [.int .u8 X] hx rfl ?_ ?_ (by decide) ?_ ?_ ?_ _ rfl ?_
    · intro j u hj
      match j, hj with
      | 0, hj => simp at hj; subst hj; simp [Addr.add]
    · intro u hu; simp at hu; subst hu; rfl
    · unfold maxLen; omega
    · omega
    · simp; omega
    · intro g cap w' hown hgrow hat _
      refine h g _ cap w' ⟨?_, gb_trans (gb_of (bel0 _ _) _) hgrow (fun j hj => .inl hj), ?_⟩
      · rw [vals_snoc] at hown
        show w'.ownsRow base 5 1 _ (ys ++ [X]).length (vals .u8 (ys ++ [X]))
        simpa using hown
      · rcases hat with h1 | h1
        · exact .inl h1
        · right; simp at h1; omega
  · subst h1
    have hr : RowAt .u8 (w0.alloc (.cells #[.int .u8 X] 5)) (some ⟨w0.heap.size, 0, none⟩) [X] := by
      refine .inr ⟨w0.heap.size, 0, rfl, by simp, fun j hj => ?_⟩
      match j, hj with
      | 0, _ => simp
    have hr0 : RowAt .u8 (w0.alloc (.cells #[.int .u8 X] 5)) (some ad) ys := h2.later (bel0 _ _)
    have key : ∀ j u, (vals .u8 ys)[j]? = some u → (w0.alloc (.cells #[.int .u8 X] 5)).cell? (ad.add j) = some u := by
      intro j u hj
      have hjl : j < ys.length := by
        by_cases hp : j < ys.length
        · exact hp
        · rw [List.getElem?_eq_none (by rw [vals_length]; omega)] at hj; cases hj
      obtain ⟨b, off, h1, h2, h3⟩ := hr0.resolve_left h3
      have e1 := Option.some.inj h1
      subst e1
      have hu : u = .int .u8 (ys.getD j 0) := by
        simp [vals, hjl] at hj
        rw [← hj, List.getD_eq_getElem?_getD, List.getElem?_eq_getElem hjl]
        rfl
      rw [hu, Addr.add_lit]
      exact h3 j hjl
    refine wpList_append_grows _ hgd s x 22 ho 5 i0 (.int .u8 0) 1 1 Tryz.underlying22 hi hz0 hz1 hz2 rfl (by decide) (some ad) ys.length ys.length (vals .u8 ys) hs (fun e => by cases e) (by simp [vals]) (fun b e => by cases e; exact key) ⟨w0.heap.size, 0, none⟩ 1 1 [.int .u8 X] hx rfl ?_ ?_ (by omega) ?_ ?_ ?_
    · intro j u hj
      match j, hj with
      | 0, hj => simp at hj; subst hj; simp [Addr.add]
    · intro u hu; simp at hu; subst hu; rfl
    · unfold maxLen; omega
    · omega
    · intro v' w' hown' hgrow
      obtain ⟨g, cap, rfl, hg1, _⟩ := hown'.form (by omega)
      refine h g _ cap w' ⟨OwnY.up (base := (w0.alloc (.cells #[.int .u8 X] 5)).heap.size) ?_ (by simp; omega), gb_trans (gb_of (bel0 _ _) _) (gb_any hgrow none) (fun j hj => by cases hj), ?_⟩
      · rw [vals_snoc] at hown'
        show w'.ownsRow _ 5 1 _ (ys ++ [X]).length (vals .u8 (ys ++ [X]))
        simpa using hown'
      · right; simp at hg1; omega

/-- What a function answers that goes on with a list of bytes. -/
def MoreY (w : World) (base : Nat) (r : Option Nat) (ys : List Int) (e : Ending) (w' : World) : Prop := ∃ g n c, e = .returned (.slice (some ⟨g, 0, none⟩) n c) ∧ GrewY w base r g ys n c w'

theorem GrewY.next {w u w' : World} {base : Nat} {r : Option Nat} {g g' n c n' c' : Nat} {ys ys' : List Int} (h : GrewY w base r g ys n c u) (k : GrewY u base (some g) g' ys' n' c' w') : GrewY w base r g' ys' n' c' w' := by
  refine ⟨k.own, gb_trans h.grown k.grown (fun j hj => ?_), ?_⟩
  · cases hj; exact h.at_
  · rcases k.at_ with h1 | h1
    · cases h1; exact h.at_
    · exact .inr (Nat.le_trans h.grown.size h1)
theorem GrewY.call {w u w' : World} {base : Nat} {r : Option Nat} {g n c : Nat} {ys : List Int} (h : GrewY w base r g ys n c u) (hb : Below u.heap.size u w') : GrewY w base r g ys n c w' :=
  ⟨h.own.later hb, gb_trans h.grown (gb_of hb none) (fun j hj => by cases hj), h.at_⟩
theorem GrewY.re {w w' : World} {base : Nat} {r : Option Nat} {g n c : Nat} {ys ys' : List Int} (h : GrewY w base r g ys n c w') (e : ys = ys') : GrewY w base r g ys' n c w' := e ▸ h
theorem GrewY.begin {w : World} {base g n c : Nat} {ys : List Int} (h : OwnY w base (.slice (some ⟨g, 0, none⟩) n c) ys) : GrewY w base (some g) g ys n c w := ⟨h, gb_refl _ _, .inl rfl⟩
theorem GrewY.lt {w w' : World} {base : Nat} {r : Option Nat} {g n c : Nat} {ys : List Int} (h : GrewY w base r g ys n c w') : base ≤ g ∧ g < w'.heap.size := h.own.blk (by simp [Value.ownBlock])

/-- While a number's bytes are appended: nothing yet, or some. -/
def WhileY (w : World) (base : Nat) (v : Value) (ys : List Int) (i : Nat) (zs : List Int) (so : Value) (wr : World) : Prop :=
  (i = 0 ∧ so = v ∧ Below w.heap.size w wr) ∨ ∃ g n c, so = .slice (some ⟨g, 0, none⟩) n c ∧ GrewY w base v.ownBlock g (ys ++ zs) n c wr

theorem WhileY.start {w : World} {base : Nat} {v : Value} {ys zs : List Int} {i : Nat} {so : Value} {wr : World} (h : WhileY w base v ys i zs so wr) (hst : StartY w base v ys) (hz : i = 0 → zs = []) : StartY wr base so (ys ++ zs) := by
  rcases h with ⟨h1, h2, h3⟩ | ⟨g, n, c, h1, h2⟩
  · subst h2; rw [hz h1, List.append_nil]; exact hst.later h3
  · subst h1; exact .inl h2.own
theorem WhileY.size {w : World} {base : Nat} {v : Value} {ys zs : List Int} {i : Nat} {so : Value} {wr : World} (h : WhileY w base v ys i zs so wr) : w.heap.size ≤ wr.heap.size := by
  rcases h with ⟨_, _, h3⟩ | ⟨g, n, c, _, h2⟩
  · exact h3.size
  · exact h2.grown.size
theorem WhileY.app {w : World} {base : Nat} {v : Value} {ys zs zs' : List Int} {i j : Nat} {so : Value} {wr : World} (h : WhileY w base v ys i zs so wr) {g n c : Nat} {w' : World} (k : GrewY wr base so.ownBlock g (ys ++ zs') n c w') : WhileY w base v ys j zs' (.slice (some ⟨g, 0, none⟩) n c) w' := by
  rcases h with ⟨h1, h2, h3⟩ | ⟨g0, n0, c0, h1, h2⟩
  · subst h2
    refine .inr ⟨g, n, c, rfl, k.own, gb_trans (gb_of h3 _) k.grown (fun j hj => .inl hj), ?_⟩
    rcases k.at_ with h4 | h4
    · exact .inl h4
    · exact .inr (Nat.le_trans h3.size h4)
  · subst h1
    exact .inr ⟨g, n, c, rfl, h2.next k⟩

set_option maxRecDepth 100000 in
set_option maxHeartbeats 4000000 in
theorem appNum_any (base : Nat) (v : Value) (ys : List Int) (n : Int) (size : Nat) (w : World) (h0 : 0 ≤ n) (h1 : n < 4294967296) (hs1 : 0 < size) (hs4 : size ≤ 4) (hy : ys.length ≤ 1000000) (hst : StartY w base v ys) (hb : base ≤ w.heap.size) :
    Calls Tryz.prog 73 #[v, .int .u32 n, .int .i64 size] w fun e w' => MoreY w base v.ownBlock (ys ++ leB n size) e w' := by
  have HST : Hid (StartY w base v ys) := hst
  clear hst
  go_enter Tryz.func73, Tryz.ntmps73
  go_wp2
  go_loopw [0, 7, 9] (fun so _ si wr => ∃ (i : Nat), i ≤ size ∧ si = .int .i64 i ∧ Hid (WhileY w base v ys i (leB n i) so wr)) (fun _ _ si _ => size - (intOf si).toNat)
  case atStart => exact ⟨0, Nat.zero_le _, rfl, .inl ⟨rfl, rfl, Below.refl _ _⟩⟩
  case round =>
    obtain ⟨i, hi, rfl, hO⟩ := hrel
    by_cases hlt : i < size
    · have hib : (i : Int) < size := by omega
      have hsz := hO.out.size
      have hll : (ys ++ leB n i).length ≤ 1500000 := by rw [List.length_append, leB_length]; omega
      have hi4 : i = 0 ∨ i = 1 ∨ i = 2 ∨ i = 3 := by omega
      have HE : Hid (leB n (i + 1) = leB n i ++ [divB n i % 256]) := rfl
      rcases hi4 with rfl | rfl | rfl | rfl
      · go_wp2_with (at_builtin; refine app1Y rfl (.tmp 12) (.tmp 18) rfl base _ _ rfl rfl (hO.out.start HST.out (fun _ => rfl)) hll (Nat.le_trans hb hsz) ?_; intro g1 n1 c1 w1 hk1)
        have HO1 : Hid (WhileY w base v ys (0 + 1) (leB n (0 + 1)) (.slice (some ⟨g1, 0, none⟩) n1 c1) w1) := hO.out.app (hk1.re (by rw [HE.out, ← List.append_assoc]; congr 2 <;> simp only [divB] <;> omega))
        clear hk1 hO HE
        go_roundw
        case rel => exact ⟨0 + 1, by omega, by go_num, HO1⟩
        case measure => simp [intOf]; omega
      · go_wp2_with (at_builtin; refine app1Y rfl (.tmp 12) (.tmp 18) rfl base _ _ rfl rfl (hO.out.start HST.out (fun h => by cases h)) hll (Nat.le_trans hb hsz) ?_; intro g1 n1 c1 w1 hk1)
        have HO1 : Hid (WhileY w base v ys (1 + 1) (leB n (1 + 1)) (.slice (some ⟨g1, 0, none⟩) n1 c1) w1) := hO.out.app (hk1.re (by rw [HE.out, ← List.append_assoc]; congr 2 <;> simp only [divB] <;> omega))
        clear hk1 hO HE
        go_roundw
        case rel => exact ⟨1 + 1, by omega, by go_num, HO1⟩
        case measure => simp [intOf]; omega
      · go_wp2_with (at_builtin; refine app1Y rfl (.tmp 12) (.tmp 18) rfl base _ _ rfl rfl (hO.out.start HST.out (fun h => by cases h)) hll (Nat.le_trans hb hsz) ?_; intro g1 n1 c1 w1 hk1)
        have HO1 : Hid (WhileY w base v ys (2 + 1) (leB n (2 + 1)) (.slice (some ⟨g1, 0, none⟩) n1 c1) w1) := hO.out.app (hk1.re (by rw [HE.out, ← List.append_assoc]; congr 2 <;> simp only [divB] <;> omega))
        clear hk1 hO HE
        go_roundw
        case rel => exact ⟨2 + 1, by omega, by go_num, HO1⟩
        case measure => simp [intOf]; omega
      · go_wp2_with (at_builtin; refine app1Y rfl (.tmp 12) (.tmp 18) rfl base _ _ rfl rfl (hO.out.start HST.out (fun h => by cases h)) hll (Nat.le_trans hb hsz) ?_; intro g1 n1 c1 w1 hk1)
        have HO1 : Hid (WhileY w base v ys (3 + 1) (leB n (3 + 1)) (.slice (some ⟨g1, 0, none⟩) n1 c1) w1) := hO.out.app (hk1.re (by rw [HE.out, ← List.append_assoc]; congr 2 <;> simp only [divB] <;> omega))
        clear hk1 hO HE
        go_roundw
        case rel => exact ⟨3 + 1, by omega, by go_num, HO1⟩
        case measure => simp [intOf]; omega
    · have hie : i = size := by omega
      subst hie
      obtain ⟨g, n1, c1, rfl, hk⟩ := hO.out.resolve_left (by rintro ⟨h, _⟩; omega)
      have HK : Hid (GrewY w base v.ownBlock g (ys ++ leB n i) n1 c1 wr) := hk
      clear hO hk
      go_wp2
      go_ret
      exact ⟨_, _, _, rfl, HK.out⟩

end Go.Proofs.YtfcnokagfibgcahGreat

/-
  The program's ValidScene.
-/
namespace Go.Proofs.YtfcnokagfibgcahGreat
open Go.RowKit

set_option maxRecDepth 100000 in
set_option maxHeartbeats 8000000 in
theorem vldI_any : VldSays 72 := by
  intro a1 a2 a3 n1 n2 n3 c1 c2 c3 z1 z2 z3 w hn hs hu1 hu2 hu3
  have HSC : Hid (ScAt w a1 a2 a3 n1 n2 n3 z1 z2 z3) := hs
  have HU1 : Hid (U32 z1) := hu1
  have HU2 : Hid (U32 z2) := hu2
  have HU3 : Hid (U32 z3) := hu3
  clear hs hu1 hu2 hu3
  go_enter Tryz.func72, Tryz.ntmps72
  go_wp2_with fail
  refine (fewAndFinite_any a1 n1 c1 z1 _ (by omega) HSC.out.l1 HU1.out (HSC.out.r1.later (bel0 _ _))).mono ?_
  rintro e W ⟨rfl, hb1⟩
  have P1 : Hid (W.cell? ⟨w.heap.size, 1, none⟩ = some (.slice a2 n2 c2)) := by unfold Hid; rw [(bcell hb1).1 _ _ (by simp)]; simp [go_sem]
  have P2 : Hid (W.cell? ⟨w.heap.size, 2, none⟩ = some (.slice a3 n3 c3)) := by unfold Hid; rw [(bcell hb1).1 _ _ (by simp)]; simp [go_sem]
  have HW0 : Hid (Below w.heap.size w W) := (bel0 _ _).trans (hb1.mono (by simp))
  have SW : Hid (w.heap.size < W.heap.size) := by unfold Hid; have := hb1.size; simp at this; omega
  have p1 := P1.out
  have p2 := P2.out
  clear hb1
  cases hT1 : (decide (n1 ≤ 40) && (List.range n1).all (triAt z1))
  · go_wp2
    go_ret
    exact ⟨ret_bool (by unfold validSc; rw [hT1]; rfl), HW0.out⟩
  · by_cases hn2 : n2 ≤ 40
    · have hng2 : ¬ (40 : Int) < n2 := by omega
      by_cases hn3 : n3 ≤ 4
      · have hng3 : ¬ (4 : Int) < n3 := by omega
        go_wp2
        clear p1 p2
        go_loopw [4, 24] (fun _ si wr => ∃ (i : Nat), i ≤ n2 ∧ si = .int .i64 i ∧ Hid ((List.range i).all (rayAt z2) = true) ∧ Hid (Below W.heap.size W wr)) (fun _ si _ => n2 - (intOf si).toNat)
        case atStart => exact ⟨0, Nat.zero_le _, rfl, rfl, Below.refl _ _⟩
        case round =>
          obtain ⟨i, hi, rfl, hA, hb⟩ := hrel
          have HZ : Hid (RowAt .u32 wr a2 z2) := (HSC.out.r2.later HW0.out).later hb.out
          by_cases hlt : i < n2
          · have hle : ∀ j, j < 6 → i * 6 + j < z2.length := by intro j hj; rw [HSC.out.l2]; omega
            obtain ⟨b, off, rfl, hbl, hc⟩ := HZ.out.resolve_left (by intro h; have := hle 0 (by omega); rw [h] at this; simp at this)
            obtain ⟨x0, hx0⟩ : ∃ x, x = z2.getD (i * 6) 0 := ⟨_, rfl⟩
            have q0 : wr.cell? ⟨b, off + i * 6, none⟩ = some (.int .u32 x0) := by
              have := hc (i * 6 + 0) (hle 0 (by omega))
              rw [hx0]
              simpa [Nat.add_assoc] using this
            have x0a : 0 ≤ x0 := by rw [hx0]; exact (HU2.out.at _).1
            have x0b : x0 < 4294967296 := by rw [hx0]; exact (HU2.out.at _).2
            obtain ⟨x1, hx1⟩ : ∃ x, x = z2.getD (i * 6 + 1) 0 := ⟨_, rfl⟩
            have q1 : wr.cell? ⟨b, off + i * 6 + 1, none⟩ = some (.int .u32 x1) := by
              have := hc (i * 6 + 1) (hle 1 (by omega))
              rw [hx1]
              simpa [Nat.add_assoc] using this
            have x1a : 0 ≤ x1 := by rw [hx1]; exact (HU2.out.at _).1
            have x1b : x1 < 4294967296 := by rw [hx1]; exact (HU2.out.at _).2
            obtain ⟨x2, hx2⟩ : ∃ x, x = z2.getD (i * 6 + 2) 0 := ⟨_, rfl⟩
            have q2 : wr.cell? ⟨b, off + i * 6 + 2, none⟩ = some (.int .u32 x2) := by
              have := hc (i * 6 + 2) (hle 2 (by omega))
              rw [hx2]
              simpa [Nat.add_assoc] using this
            have x2a : 0 ≤ x2 := by rw [hx2]; exact (HU2.out.at _).1
            have x2b : x2 < 4294967296 := by rw [hx2]; exact (HU2.out.at _).2
            obtain ⟨x3, hx3⟩ : ∃ x, x = z2.getD (i * 6 + 3) 0 := ⟨_, rfl⟩
            have q3 : wr.cell? ⟨b, off + i * 6 + 3, none⟩ = some (.int .u32 x3) := by
              have := hc (i * 6 + 3) (hle 3 (by omega))
              rw [hx3]
              simpa [Nat.add_assoc] using this
            have x3a : 0 ≤ x3 := by rw [hx3]; exact (HU2.out.at _).1
            have x3b : x3 < 4294967296 := by rw [hx3]; exact (HU2.out.at _).2
            obtain ⟨x4, hx4⟩ : ∃ x, x = z2.getD (i * 6 + 4) 0 := ⟨_, rfl⟩
            have q4 : wr.cell? ⟨b, off + i * 6 + 4, none⟩ = some (.int .u32 x4) := by
              have := hc (i * 6 + 4) (hle 4 (by omega))
              rw [hx4]
              simpa [Nat.add_assoc] using this
            have x4a : 0 ≤ x4 := by rw [hx4]; exact (HU2.out.at _).1
            have x4b : x4 < 4294967296 := by rw [hx4]; exact (HU2.out.at _).2
            obtain ⟨x5, hx5⟩ : ∃ x, x = z2.getD (i * 6 + 5) 0 := ⟨_, rfl⟩
            have q5 : wr.cell? ⟨b, off + i * 6 + 5, none⟩ = some (.int .u32 x5) := by
              have := hc (i * 6 + 5) (hle 5 (by omega))
              rw [hx5]
              simpa [Nat.add_assoc] using this
            have x5a : 0 ≤ x5 := by rw [hx5]; exact (HU2.out.at _).1
            have x5b : x5 < 4294967296 := by rw [hx5]; exact (HU2.out.at _).2
            have HX : Hid (rayAt z2 i = (pointB x0 x1 x2 && pointB x3 x4 x5 && !(noWayB x3 x4 x5))) := by unfold Hid; rw [hx0, hx1, hx2, hx3, hx4, hx5]; rfl
            have hib : (i : Int) < n2 := by omega
            clear hc hle HZ hx0 hx1 hx2 hx3 hx4 hx5
            go_wp2_with fail
            refine (proper_any x0 x1 x2 x3 x4 x5 _ x0a x0b x1a x1b x2a x2b x3a x3b x4a x4b x5a x5b).mono ?_
            rintro e w2 ⟨rfl, hb2⟩
            have HB2 : Hid (Below W.heap.size W w2) := hb.out.trans ((bel0 _ _).trans (hb2.mono (by simp)) |>.mono hb.out.size)
            clear hb2 hb q0 x0a x0b q1 x1a x1b q2 x2a x2b q3 x3a x3b q4 x4a x4b q5 x5a x5b
            rw [← HX.out]
            cases hT : rayAt z2 i
            · go_wp2
              go_ret
              exact ⟨ret_bool (by unfold validSc; rw [all_range_false hlt hT]; simp), HW0.out.trans (HB2.out.mono HW0.out.size)⟩
            · go_wp2
              go_roundw
              case rel => exact ⟨i + 1, by omega, by go_num, by unfold Hid; rw [all_range_succ, hA.out, hT]; rfl, HB2⟩
              case measure => simp [intOf]; omega
          · have hie : i = n2 := by omega
            subst hie
            have HR : Hid ((List.range i).all (rayAt z2) = true) := hA
            have HV : Hid (Below w.heap.size w wr) := HW0.out.trans (hb.out.mono HW0.out.size)
            have p2 : wr.cell? ⟨w.heap.size, 2, none⟩ = some (.slice a3 n3 c3) := ((bcell hb.out).1 _ _ SW.out).trans P2.out
            clear hA HZ hb
            go_wp2_with fail
            refine (pointsFinite_any a3 n3 c3 z3 _ (by omega) HSC.out.l3 HU3.out (HSC.out.r3.later HV.out)).mono ?_
            rintro e w3 ⟨rfl, hb3⟩
            have HB3 : Hid (Below w.heap.size w w3) := HV.out.trans (hb3.mono HV.out.size)
            clear hb3 p2
            go_wp2
            go_ret
            exact ⟨ret_bool (by unfold validSc; rw [hT1, HR.out]; simp [hn2, hn3]), HB3.out⟩
      · have hng3 : (4 : Int) < n3 := by omega
        go_wp2
        go_ret
        exact ⟨ret_bool (by unfold validSc; simp [hn3]), HW0.out⟩
    · have hng2 : (40 : Int) < n2 := by omega
      go_wp2
      go_ret
      exact ⟨ret_bool (by unfold validSc; simp [hn2]), HW0.out⟩

end Go.Proofs.YtfcnokagfibgcahGreat

/-
  The law of EncodeScene, for any program whose EncodeScene answers the bytes in new memory.
-/
namespace Go.Proofs.YtfcnokagfibgcahGreat
open Go.RowKit

/-- A function that answers a list of bytes in new memory. -/
def RowOut (w : World) (ys : List Int) (e : Ending) (w' : World) : Prop := ∃ a c, e = .returned (.slice a ys.length c) ∧ RowNew .u8 w' w.heap.size a ys ∧ Below w.heap.size w w'

theorem NewY.out {w w' : World} {ys : List Int} {e : Ending} (h : NewY w ys e w') : RowOut w ys e w' := by
  obtain ⟨v, rfl, ho, hb⟩ := h
  obtain ⟨a, c, rfl, hr⟩ := ho.row
  exact ⟨a, c, rfl, hr, hb⟩

theorem RowIn.both {k : IntKind} {w u w' : World} {lo hi lo' hi' : Nat} {a : Option Addr} {zs : List Int} (h : RowIn k w lo hi a zs) (hb : Below w.heap.size w u) (hw : Within lo' hi' u w') (hd : hi ≤ lo' ∨ hi' ≤ lo) : RowIn k w' lo hi a zs := (h.later hb).apart hw hd

end Go.Proofs.YtfcnokagfibgcahGreat

/-
  The program's appendPoints and EncodeScene.
-/
namespace Go.Proofs.YtfcnokagfibgcahGreat
open Go.RowKit

set_option maxRecDepth 100000 in
set_option maxHeartbeats 8000000 in
theorem appPts_any (base g n0 c0 : Nat) (ys : List Int) (a : Option Addr) (n c : Nat) (zs : List Int) (w : World) (hn : n ≤ 20000) (hl : zs.length = n * 3) (hu : U32 zs) (hz : RowAt .u32 w a zs) (hap : ∀ b off, a = some ⟨b, off, none⟩ → zs ≠ [] → g ≠ b) (hy : ys.length ≤ 500000) (ho : OwnY w base (.slice (some ⟨g, 0, none⟩) n0 c0) ys) (hb : base ≤ w.heap.size) :
    Calls Tryz.prog 74 #[.slice (some ⟨g, 0, none⟩) n0 c0, .slice a n c] w fun e w' => MoreY w base (some g) (ys ++ flatB zs) e w' := by
  have HL : Hid (zs.length = n * 3) := hl
  have HZ : Hid (RowAt .u32 w a zs) := hz
  have HU : Hid (U32 zs) := hu
  have HA : Hid (∀ b off, a = some ⟨b, off, none⟩ → zs ≠ [] → g ≠ b) := hap
  have HO : Hid (OwnY w base (.slice (some ⟨g, 0, none⟩) n0 c0) ys) := ho
  clear hl hz hu hap ho
  go_enter Tryz.func74, Tryz.ntmps74
  go_wp2
  go_loopw [0, 6, 9] (fun so _ si wr => ∃ (i : Nat) (gi ni ci : Nat), i ≤ n ∧ si = .int .i64 i ∧ so = .slice (some ⟨gi, 0, none⟩) ni ci ∧ Hid (GrewY w base (some g) gi (ys ++ flatB (zs.take (i * 3))) ni ci wr)) (fun _ _ si _ => n - (intOf si).toNat)
  case atStart => exact ⟨0, g, n0, c0, Nat.zero_le _, rfl, rfl, (GrewY.begin HO.out).re (by simp [flatB])⟩
  case round =>
    obtain ⟨i, gi, ni, ci, hi, rfl, rfl, hG⟩ := hrel
    by_cases hlt : i < n
    · have hle : ∀ j, j < 3 → i * 3 + j < zs.length := by intro j hj; rw [HL.out]; omega
      have hz1 : RowAt .u32 wr a zs := gb_row hG.out.grown HZ.out (fun b off e1 e2 e3 => HA.out b off e1 e2 (Option.some.inj e3))
      obtain ⟨b, off, rfl, hbl, hc⟩ := hz1.resolve_left (by intro h; have := hle 0 (by omega); rw [h] at this; simp at this)
      obtain ⟨x0, hx0⟩ : ∃ x, x = zs.getD (i * 3) 0 := ⟨_, rfl⟩
      have q0 : wr.cell? ⟨b, off + i * 3, none⟩ = some (.int .u32 x0) := by
        have := hc (i * 3 + 0) (hle 0 (by omega))
        rw [hx0]
        simpa [Nat.add_assoc] using this
      have x0a : 0 ≤ x0 := by rw [hx0]; exact (HU.out.at _).1
      have x0b : x0 < 4294967296 := by rw [hx0]; exact (HU.out.at _).2
      obtain ⟨x1, hx1⟩ : ∃ x, x = zs.getD (i * 3 + 1) 0 := ⟨_, rfl⟩
      have q1 : wr.cell? ⟨b, off + i * 3 + 1, none⟩ = some (.int .u32 x1) := by
        have := hc (i * 3 + 1) (hle 1 (by omega))
        rw [hx1]
        simpa [Nat.add_assoc] using this
      have x1a : 0 ≤ x1 := by rw [hx1]; exact (HU.out.at _).1
      have x1b : x1 < 4294967296 := by rw [hx1]; exact (HU.out.at _).2
      obtain ⟨x2, hx2⟩ : ∃ x, x = zs.getD (i * 3 + 2) 0 := ⟨_, rfl⟩
      have q2 : wr.cell? ⟨b, off + i * 3 + 2, none⟩ = some (.int .u32 x2) := by
        have := hc (i * 3 + 2) (hle 2 (by omega))
        rw [hx2]
        simpa [Nat.add_assoc] using this
      have x2a : 0 ≤ x2 := by rw [hx2]; exact (HU.out.at _).1
      have x2b : x2 < 4294967296 := by rw [hx2]; exact (HU.out.at _).2
      have HF : Hid (ys ++ flatB (zs.take ((i + 1) * 3)) = (((ys ++ flatB (zs.take (i * 3))) ++ leB x0 4) ++ leB x1 4) ++ leB x2 4) := by
        unfold Hid
        rw [hx0, hx1, hx2, flat3 (m := i * 3) (by have := hle 2 (by omega); omega) (m1 := (i + 1) * 3) (by omega)]
        simp only [ptB, List.append_assoc]
      have hyl : (ys ++ flatB (zs.take (i * 3))).length ≤ 900000 := by
        rw [List.length_append, flatB_length, List.length_take, HL.out]
        omega
      obtain ⟨Y, hY⟩ : ∃ Y, Y = ys ++ flatB (zs.take (i * 3)) := ⟨_, rfl⟩
      rw [← hY] at hyl HF hG
      have hib : (i : Int) < n := by omega
      have hgl := hG.out.lt
      have hsz := hG.out.grown.size
      have G0 := hG.out.call (bel0 wr (.cells #[.int .u32 x0, .int .u32 x1, .int .u32 x2] 26))
      have HG0 : Hid (GrewY w base (some g) gi Y ni ci (wr.alloc (.cells #[.int .u32 x0, .int .u32 x1, .int .u32 x2] 26))) := G0
      clear hc hle hbl hY hx0 hx1 hx2 hz1 hG G0
      go_wp2_with fail
      refine (appNum_any base (.slice (some ⟨gi, 0, none⟩) ni ci) Y x0 4 _ x0a x0b (by decide) (by decide) (by omega) (.inl HG0.out.own) (by simp; omega)).mono ?_
      rintro e w1 ⟨g1, n1, c1, rfl, k1⟩
      have L1 : g1 ≠ wr.heap.size ∧ wr.heap.size + 1 ≤ w1.heap.size := by
        have h1 := k1.grown.size
        simp at h1
        refine ⟨?_, h1⟩
        rcases k1.at_ with h2 | h2
        · have := Option.some.inj h2
          simp at this
          omega
        · simp at h2
          omega
      have c1' : w1.cell? ⟨wr.heap.size, 1, none⟩ = some (.int .u32 x1) := by rw [k1.grown.cell_far ⟨wr.heap.size, 1, none⟩ (by simp) (by simp [Value.ownBlock]; omega)]; simp [go_sem]
      have c2' : w1.cell? ⟨wr.heap.size, 2, none⟩ = some (.int .u32 x2) := by rw [k1.grown.cell_far ⟨wr.heap.size, 2, none⟩ (by simp) (by simp [Value.ownBlock]; omega)]; simp [go_sem]
      have HG1 : Hid (GrewY w base (some g) g1 (Y ++ leB x0 4) n1 c1 w1) := HG0.out.next k1
      clear k1 HG0 q0 q1 q2
      go_wp2_with fail
      refine (appNum_any base (.slice (some ⟨g1, 0, none⟩) n1 c1) (Y ++ leB x0 4) x1 4 _ x1a x1b (by decide) (by decide) (by rw [List.length_append, leB_length]; omega) (.inl HG1.out.own) (by omega)).mono ?_
      rintro e w2 ⟨g2, n2, c2, rfl, k2⟩
      have L2 : g2 ≠ wr.heap.size ∧ wr.heap.size + 1 ≤ w2.heap.size := by
        have h1 := k2.grown.size
        refine ⟨?_, by omega⟩
        rcases k2.at_ with h2 | h2
        · have := Option.some.inj h2
          simp at this
          omega
        · omega
      replace c2' : w2.cell? ⟨wr.heap.size, 2, none⟩ = some (.int .u32 x2) := by rw [k2.grown.cell_far ⟨wr.heap.size, 2, none⟩ (by simp; omega) (by simp [Value.ownBlock]; omega)]; exact c2'
      have HG2 : Hid (GrewY w base (some g) g2 ((Y ++ leB x0 4) ++ leB x1 4) n2 c2 w2) := HG1.out.next k2
      clear k2 HG1 c1'
      go_wp2_with fail
      refine (appNum_any base (.slice (some ⟨g2, 0, none⟩) n2 c2) ((Y ++ leB x0 4) ++ leB x1 4) x2 4 _ x2a x2b (by decide) (by decide) (by rw [List.length_append, leB_length, List.length_append, leB_length]; omega) (.inl HG2.out.own) (by omega)).mono ?_
      rintro e w3 ⟨g3, n3, c3, rfl, k3⟩
      have HG3 : Hid (GrewY w base (some g) g3 (((Y ++ leB x0 4) ++ leB x1 4) ++ leB x2 4) n3 c3 w3) := HG2.out.next k3
      clear k3 HG2 c2' hgl L1 L2
      go_wp2
      go_roundw
      case rel => exact ⟨i + 1, g3, n3, c3, by omega, by go_num, rfl, HG3.out.re HF.out.symm⟩
      case measure => simp [intOf]; omega
    · have hie : n = i := by omega
      subst hie
      have hG1 := hG.out
      rw [List.take_of_length_le (by rw [HL.out]; omega)] at hG1
      have HG1 : Hid (GrewY w base (some g) gi (ys ++ flatB zs) ni ci wr) := hG1
      clear hG hG1
      go_wp2
      go_ret
      exact ⟨_, _, _, rfl, HG1.out⟩

theorem EncS.form {W0 wr : World} {base : Nat} {v : Value} {ys : List Int} (h : EncS W0 base v ys wr) (hn : 0 < ys.length) : ∃ g n c, v = .slice (some ⟨g, 0, none⟩) n c ∧ base ≤ g ∧ g < wr.heap.size := by
  obtain ⟨g, c, h1, h2, h3⟩ := World.ownsRow.form h.own hn
  exact ⟨g, _, c, h1, h2, h3⟩
theorem EncS.grew {W0 wr u w' : World} {base : Nat} {v : Value} {g g' n' c' : Nat} {ys ys' : List Int} (h : EncS W0 base v ys wr) (hb : Below wr.heap.size wr u) (hg : base ≤ g) (k : GrewY u base (some g) g' ys' n' c' w') : EncS W0 base (.slice (some ⟨g', 0, none⟩) n' c') ys' w' :=
  ⟨k.own, (h.bel.trans (hb.mono h.le)).trans (gb_below k.grown (Nat.le_trans h.le hb.size) (fun j hj => by cases hj; exact hg)), Nat.le_trans (Nat.le_trans h.le hb.size) k.grown.size⟩

theorem EncS.first {W0 u w' : World} {base : Nat} {v : Value} {g' n' c' : Nat} {ys' : List Int} (hb : Below base W0 u) (hl : base ≤ u.heap.size) (hv : ∀ k, v.ownBlock = some k → base ≤ k) (k : GrewY u base v.ownBlock g' ys' n' c' w') : EncS W0 base (.slice (some ⟨g', 0, none⟩) n' c') ys' w' :=
  ⟨k.own, hb.trans (gb_below k.grown hl hv), Nat.le_trans hl k.grown.size⟩

set_option maxRecDepth 100000 in
set_option maxHeartbeats 16000000 in
theorem encIN_any (a1 a2 a3 : Option Addr) (n1 n2 n3 c1 c2 c3 : Nat) (z1 z2 z3 : List Int) (w : World) (hn : n1 + n2 + n3 ≤ 1048576) (hs : ScAt w a1 a2 a3 n1 n2 n3 z1 z2 z3) (hu1 : U32 z1) (hu2 : U32 z2) (hu3 : U32 z3) :
    Calls Tryz.prog 20 #[.agg #[.slice a1 n1 c1, .slice a2 n2 c2, .slice a3 n3 c3]] w fun e w' => NewY w (encV n1 n2 n3 z1 z2 z3) e w' := by
  have HSC : Hid (ScAt w a1 a2 a3 n1 n2 n3 z1 z2 z3) := hs
  have HU1 : Hid (U32 z1) := hu1
  have HU2 : Hid (U32 z2) := hu2
  have HU3 : Hid (U32 z3) := hu3
  obtain ⟨W0, hW0⟩ : ∃ W0, W0 = w.alloc (.cells #[.slice a1 n1 c1, .slice a2 n2 c2, .slice a3 n3 c3] 47) := ⟨_, rfl⟩
  have L0 : Hid (LwS w a1 a2 a3 n1 n2 n3 c1 c2 c3 z1 z2 z3 W0) := by unfold Hid; rw [hW0]; exact LwS.start hs _
  have S0 : W0.heap.size = w.heap.size + 1 := by rw [hW0]; simp
  have HQ : Hid (∀ w', Below (w.heap.size + 1) W0 w' → w'.cell? ⟨w.heap.size, 0, none⟩ = some (.slice a1 n1 c1) ∧ w'.cell? ⟨w.heap.size, 1, none⟩ = some (.slice a2 n2 c2) ∧ w'.cell? ⟨w.heap.size, 2, none⟩ = some (.slice a3 n3 c3)) := by
    intro w' hb
    exact ⟨(hb.cell (p := ⟨w.heap.size, 0, none⟩) (by simp)).trans L0.out.bx.q0, (hb.cell (p := ⟨w.heap.size, 1, none⟩) (by simp)).trans L0.out.bx.q1, (hb.cell (p := ⟨w.heap.size, 2, none⟩) (by simp)).trans L0.out.bx.q2⟩
  clear hs hu1 hu2 hu3
  go_enter Tryz.func20, Tryz.ntmps20
  go_wp2_with fail
  rw [← hW0]
  refine (vldI_any a1 a2 a3 n1 n2 n3 c1 c2 c3 z1 z2 z3 _ hn L0.out.sc HU1.out HU2.out HU3.out).mono ?_
  rintro e V ⟨rfl, hb1⟩
  have B1 : Hid (Below (w.heap.size + 1) W0 V) := by unfold Hid; rw [← S0]; exact hb1
  have Z1 : w.heap.size + 1 ≤ V.heap.size := by have := hb1.size; omega
  clear hb1 hW0
  cases hv : validSc n1 n2 n3 z1 z2 z3
  · go_wp2
    go_ret
    exact ⟨_, rfl, by rw [encV_bad hv]; exact OwnY.nil _ _, L0.out.bel.trans (B1.out.mono (Nat.le_succ _))⟩
  · have hb3 : n1 ≤ 40 ∧ n2 ≤ 40 ∧ n3 ≤ 4 := by
      unfold validSc at hv
      simp only [Bool.and_eq_true, decide_eq_true_eq] at hv
      exact ⟨hv.1.1.1.1.1, hv.1.1.1.2, hv.1.1.2⟩
    obtain ⟨h1, h2, h3⟩ := hb3
    have p0 : (V.alloc (.cells #[.int .u8 83, .int .u8 67, .int .u8 69, .int .u8 78] 5 (4, 5))).cell? ⟨w.heap.size, 0, none⟩ = some (.slice a1 n1 c1) := (HQ.out _ (B1.out.alloc Z1 _)).1
    have hcv := Go.Joins.run_convert_bytes_const_at (P := Tryz.prog) V 22 5 #[.int .u8 83, .int .u8 67, .int .u8 69, .int .u8 78] 4 4 V.heap.size rfl Tryz.underlying22 Tryz.underlying5
    have R0 : Hid (∀ t fr, RowAt .u8 (V.alloc (.cells #[.int .u8 83, .int .u8 67, .int .u8 69, .int .u8 78] t fr)) (some ⟨V.heap.size, 0, none⟩) [83, 67, 69, 78]) := fun t fr => row_scen V t fr rfl
    have HV : Hid (encV n1 n2 n3 z1 z2 z3 = encSc n1 n2 n3 z1 z2 z3) := encV_ok hv
    go_wp2_with fail
    refine (appNum_any (w.heap.size + 1) _ [83, 67, 69, 78] n1 2 _ (by omega) (by omega) (by decide) (by decide) (by decide) (.inr ⟨_, rfl, R0.out _ _, by decide⟩) (by simp; omega)).mono ?_
    rintro e w1 ⟨g1, m1, k1, rfl, hk⟩
    have E1 : Hid (EncS W0 (w.heap.size + 1) (.slice (some ⟨g1, 0, none⟩) m1 k1) ([83, 67, 69, 78] ++ leB n1 2) w1) := EncS.first (B1.out.alloc Z1 _) (by simp; omega) (fun k hk => by simp [Value.ownBlock] at hk; omega) hk
    have G1 := hk.lt.1
    clear p0
    obtain ⟨p0, p1, p2⟩ := HQ.out w1 E1.out.bel
    clear hk B1 R0 hcv
    go_wp2_with fail
    refine (appNum_any (w.heap.size + 1) (.slice (some ⟨g1, 0, none⟩) m1 k1) ([83, 67, 69, 78] ++ leB n1 2) n2 2 _ (by omega) (by omega) (by decide) (by decide) (by simp [leB_length]) (.inl E1.out.own) E1.out.le).mono ?_
    rintro e w2 ⟨g2, m2, k2, rfl, hk⟩
    have E2 : Hid (EncS W0 (w.heap.size + 1) (.slice (some ⟨g2, 0, none⟩) m2 k2) ([83, 67, 69, 78] ++ leB n1 2 ++ leB n2 2) w2) := E1.out.grew (Below.refl _ _) G1 hk
    have G2 := hk.lt.1
    obtain ⟨p0, p1, p2⟩ := HQ.out w2 E2.out.bel
    clear hk E1
    go_wp2_with fail
    refine (appNum_any (w.heap.size + 1) (.slice (some ⟨g2, 0, none⟩) m2 k2) ([83, 67, 69, 78] ++ leB n1 2 ++ leB n2 2) n3 1 _ (by omega) (by omega) (by decide) (by decide) (by simp [leB_length]) (.inl E2.out.own) E2.out.le).mono ?_
    rintro e w3 ⟨g3, m3, k3, rfl, hk⟩
    have E3 : Hid (EncS W0 (w.heap.size + 1) (.slice (some ⟨g3, 0, none⟩) m3 k3) (headB n1 n2 n3) w3) := E2.out.grew (Below.refl _ _) G2 hk
    obtain ⟨p0, p1, p2⟩ := HQ.out w3 E3.out.bel
    clear hk E2 G1 G2
    go_wp2
    go_loopw [3, 5, 34] (fun so _ si wr => ∃ (i : Nat), i ≤ n1 ∧ si = .int .i64 i ∧ Hid (EncS W0 (w.heap.size + 1) so (headB n1 n2 n3 ++ flatB (z1.take (i * 9))) wr)) (fun _ _ si _ => n1 - (intOf si).toNat)
    case atStart => exact ⟨0, Nat.zero_le _, rfl, EncS.re E3.out (by simp [flatB])⟩
    case round =>
      obtain ⟨i, hi, rfl, hE⟩ := hrel
      obtain ⟨p0, p1, p2⟩ := HQ.out wr hE.out.bel
      by_cases hlt : i < n1
      · have hll := L0.out.sc.l1
        have hle : ∀ j, j < 9 → i * 9 + j < z1.length := by intro j hj; rw [hll]; omega
        obtain ⟨b, off, rfl, hbl, hc⟩ := L0.out.sc.r1.resolve_left (by intro h; have := hle 0 (by omega); rw [h] at this; simp at this)
        obtain ⟨x0, hx0⟩ : ∃ x, x = z1.getD (i * 9) 0 := ⟨_, rfl⟩
        have x0a : 0 ≤ x0 := by rw [hx0]; exact (HU1.out.at _).1
        have x0b : x0 < 4294967296 := by rw [hx0]; exact (HU1.out.at _).2
        have q0 : wr.cell? ⟨b, off + i * 9, none⟩ = some (.int .u32 x0) := by
          have := (hE.out.bel.cell (p := ⟨b, off + (i * 9 + 0), none⟩) (by simp; omega)).trans (hc (i * 9 + 0) (hle 0 (by omega)))
          rw [hx0]
          simpa [Nat.add_assoc] using this
        obtain ⟨x1, hx1⟩ : ∃ x, x = z1.getD (i * 9 + 1) 0 := ⟨_, rfl⟩
        have x1a : 0 ≤ x1 := by rw [hx1]; exact (HU1.out.at _).1
        have x1b : x1 < 4294967296 := by rw [hx1]; exact (HU1.out.at _).2
        have q1 : wr.cell? ⟨b, off + i * 9 + 1, none⟩ = some (.int .u32 x1) := by
          have := (hE.out.bel.cell (p := ⟨b, off + (i * 9 + 1), none⟩) (by simp; omega)).trans (hc (i * 9 + 1) (hle 1 (by omega)))
          rw [hx1]
          simpa [Nat.add_assoc] using this
        obtain ⟨x2, hx2⟩ : ∃ x, x = z1.getD (i * 9 + 2) 0 := ⟨_, rfl⟩
        have x2a : 0 ≤ x2 := by rw [hx2]; exact (HU1.out.at _).1
        have x2b : x2 < 4294967296 := by rw [hx2]; exact (HU1.out.at _).2
        have q2 : wr.cell? ⟨b, off + i * 9 + 2, none⟩ = some (.int .u32 x2) := by
          have := (hE.out.bel.cell (p := ⟨b, off + (i * 9 + 2), none⟩) (by simp; omega)).trans (hc (i * 9 + 2) (hle 2 (by omega)))
          rw [hx2]
          simpa [Nat.add_assoc] using this
        obtain ⟨x3, hx3⟩ : ∃ x, x = z1.getD (i * 9 + 3) 0 := ⟨_, rfl⟩
        have x3a : 0 ≤ x3 := by rw [hx3]; exact (HU1.out.at _).1
        have x3b : x3 < 4294967296 := by rw [hx3]; exact (HU1.out.at _).2
        have q3 : wr.cell? ⟨b, off + i * 9 + 3, none⟩ = some (.int .u32 x3) := by
          have := (hE.out.bel.cell (p := ⟨b, off + (i * 9 + 3), none⟩) (by simp; omega)).trans (hc (i * 9 + 3) (hle 3 (by omega)))
          rw [hx3]
          simpa [Nat.add_assoc] using this
        obtain ⟨x4, hx4⟩ : ∃ x, x = z1.getD (i * 9 + 4) 0 := ⟨_, rfl⟩
        have x4a : 0 ≤ x4 := by rw [hx4]; exact (HU1.out.at _).1
        have x4b : x4 < 4294967296 := by rw [hx4]; exact (HU1.out.at _).2
        have q4 : wr.cell? ⟨b, off + i * 9 + 4, none⟩ = some (.int .u32 x4) := by
          have := (hE.out.bel.cell (p := ⟨b, off + (i * 9 + 4), none⟩) (by simp; omega)).trans (hc (i * 9 + 4) (hle 4 (by omega)))
          rw [hx4]
          simpa [Nat.add_assoc] using this
        obtain ⟨x5, hx5⟩ : ∃ x, x = z1.getD (i * 9 + 5) 0 := ⟨_, rfl⟩
        have x5a : 0 ≤ x5 := by rw [hx5]; exact (HU1.out.at _).1
        have x5b : x5 < 4294967296 := by rw [hx5]; exact (HU1.out.at _).2
        have q5 : wr.cell? ⟨b, off + i * 9 + 5, none⟩ = some (.int .u32 x5) := by
          have := (hE.out.bel.cell (p := ⟨b, off + (i * 9 + 5), none⟩) (by simp; omega)).trans (hc (i * 9 + 5) (hle 5 (by omega)))
          rw [hx5]
          simpa [Nat.add_assoc] using this
        obtain ⟨x6, hx6⟩ : ∃ x, x = z1.getD (i * 9 + 6) 0 := ⟨_, rfl⟩
        have x6a : 0 ≤ x6 := by rw [hx6]; exact (HU1.out.at _).1
        have x6b : x6 < 4294967296 := by rw [hx6]; exact (HU1.out.at _).2
        have q6 : wr.cell? ⟨b, off + i * 9 + 6, none⟩ = some (.int .u32 x6) := by
          have := (hE.out.bel.cell (p := ⟨b, off + (i * 9 + 6), none⟩) (by simp; omega)).trans (hc (i * 9 + 6) (hle 6 (by omega)))
          rw [hx6]
          simpa [Nat.add_assoc] using this
        obtain ⟨x7, hx7⟩ : ∃ x, x = z1.getD (i * 9 + 7) 0 := ⟨_, rfl⟩
        have x7a : 0 ≤ x7 := by rw [hx7]; exact (HU1.out.at _).1
        have x7b : x7 < 4294967296 := by rw [hx7]; exact (HU1.out.at _).2
        have q7 : wr.cell? ⟨b, off + i * 9 + 7, none⟩ = some (.int .u32 x7) := by
          have := (hE.out.bel.cell (p := ⟨b, off + (i * 9 + 7), none⟩) (by simp; omega)).trans (hc (i * 9 + 7) (hle 7 (by omega)))
          rw [hx7]
          simpa [Nat.add_assoc] using this
        obtain ⟨x8, hx8⟩ : ∃ x, x = z1.getD (i * 9 + 8) 0 := ⟨_, rfl⟩
        have x8a : 0 ≤ x8 := by rw [hx8]; exact (HU1.out.at _).1
        have x8b : x8 < 4294967296 := by rw [hx8]; exact (HU1.out.at _).2
        have q8 : wr.cell? ⟨b, off + i * 9 + 8, none⟩ = some (.int .u32 x8) := by
          have := (hE.out.bel.cell (p := ⟨b, off + (i * 9 + 8), none⟩) (by simp; omega)).trans (hc (i * 9 + 8) (hle 8 (by omega)))
          rw [hx8]
          simpa [Nat.add_assoc] using this
        have HF : Hid (headB n1 n2 n3 ++ flatB (z1.take ((i + 1) * 9)) = (headB n1 n2 n3 ++ flatB (z1.take (i * 9))) ++ flatB [x0, x1, x2, x3, x4, x5, x6, x7, x8]) := by
          unfold Hid
          rw [hx0, hx1, hx2, hx3, hx4, hx5, hx6, hx7, hx8]
          rw [flat3 (m := i * 9 + 6) (by have := hle 8 (by omega); omega) (m1 := (i + 1) * 9) (by omega), flat3 (m := i * 9 + 3) (by have := hle 8 (by omega); omega) (m1 := i * 9 + 6) (by omega), flat3 (m := i * 9) (by have := hle 8 (by omega); omega) (m1 := i * 9 + 3) (by omega)]
          simp [flatB, ptB]
        have hyl : (headB n1 n2 n3 ++ flatB (z1.take (i * 9))).length ≤ 400000 := by
          have q1 := L0.out.sc.l1
          have q2 := L0.out.sc.l2
          simp only [List.length_append, flatB_length, headB_length, List.length_take]
          omega
        have hy0 : 0 < (headB n1 n2 n3 ++ flatB (z1.take (i * 9))).length := by
          simp only [List.length_append, headB_length]
          omega
        obtain ⟨Y, hY⟩ : ∃ Y, Y = headB n1 n2 n3 ++ flatB (z1.take (i * 9)) := ⟨_, rfl⟩
        rw [← hY] at hyl hy0 HF hE
        obtain ⟨gi, ni, ci, rfl, hg0, hg1⟩ := hE.out.form hy0
        have hib : (i : Int) < n1 := by omega
        have hUx : Hid (U32 [x0, x1, x2, x3, x4, x5, x6, x7, x8]) := by intro x hx; simp at hx; rcases hx with rfl | rfl | rfl | rfl | rfl | rfl | rfl | rfl | rfl <;> (constructor <;> assumption)
        have hles := hE.out.le
        clear hc hle hbl hll hY hy0 hx0 hx1 hx2 hx3 hx4 hx5 hx6 hx7 hx8
        go_wp2_with fail
        refine (appPts_any (w.heap.size + 1) gi ni ci Y (some ⟨wr.heap.size + 1, 0, none⟩) 3 3 [x0, x1, x2, x3, x4, x5, x6, x7, x8] _ (by decide) rfl hUx.out (row_at _ [x0, x1, x2, x3, x4, x5, x6, x7, x8] _ (by simp)) (fun b off e _ => by cases e; omega) (by omega) (hE.out.own.later (bel2 _ _ _)) (by simp; omega)).mono ?_
        rintro e u ⟨g, m, c, rfl, hk⟩
        have EN : Hid (EncS W0 (w.heap.size + 1) (.slice (some ⟨g, 0, none⟩) m c) (Y ++ flatB [x0, x1, x2, x3, x4, x5, x6, x7, x8]) u) := hE.out.grew (bel2 _ _ _) hg0 hk
        clear hk hE p0 p1 p2 hg0 hg1 hUx hles q0 x0a x0b q1 x1a x1b q2 x2a x2b q3 x3a x3b q4 x4a x4b q5 x5a x5b q6 x6a x6b q7 x7a x7b q8 x8a x8b
        go_wp2
        go_roundw
        case rel => exact ⟨i + 1, by omega, by go_num, EN.out.re HF.out.symm⟩
        case measure => simp [intOf]; omega
      · have hie : n1 = i := by omega
        subst hie
        have hE1 := hE.out
        rw [List.take_of_length_le (by have := L0.out.sc.l1; omega)] at hE1
        have EN : Hid (EncS W0 (w.heap.size + 1) _ (headB n1 n2 n3 ++ flatB z1) wr) := hE1
        clear hE hE1
        go_wp2
        go_loopw [3, 7, 51] (fun so _ si wr => ∃ (i : Nat), i ≤ n2 ∧ si = .int .i64 i ∧ Hid (EncS W0 (w.heap.size + 1) so (headB n1 n2 n3 ++ flatB z1 ++ flatB (z2.take (i * 6))) wr)) (fun _ _ si _ => n2 - (intOf si).toNat)
        case atStart => exact ⟨0, Nat.zero_le _, rfl, EncS.re EN.out (by simp [flatB])⟩
        case round =>
          obtain ⟨i, hi, rfl, hE⟩ := hrel
          obtain ⟨p0, p1, p2⟩ := HQ.out wr hE.out.bel
          by_cases hlt : i < n2
          · have hll := L0.out.sc.l2
            have hle : ∀ j, j < 6 → i * 6 + j < z2.length := by intro j hj; rw [hll]; omega
            obtain ⟨b, off, rfl, hbl, hc⟩ := L0.out.sc.r2.resolve_left (by intro h; have := hle 0 (by omega); rw [h] at this; simp at this)
            obtain ⟨x0, hx0⟩ : ∃ x, x = z2.getD (i * 6) 0 := ⟨_, rfl⟩
            have x0a : 0 ≤ x0 := by rw [hx0]; exact (HU2.out.at _).1
            have x0b : x0 < 4294967296 := by rw [hx0]; exact (HU2.out.at _).2
            have q0 : wr.cell? ⟨b, off + i * 6, none⟩ = some (.int .u32 x0) := by
              have := (hE.out.bel.cell (p := ⟨b, off + (i * 6 + 0), none⟩) (by simp; omega)).trans (hc (i * 6 + 0) (hle 0 (by omega)))
              rw [hx0]
              simpa [Nat.add_assoc] using this
            obtain ⟨x1, hx1⟩ : ∃ x, x = z2.getD (i * 6 + 1) 0 := ⟨_, rfl⟩
            have x1a : 0 ≤ x1 := by rw [hx1]; exact (HU2.out.at _).1
            have x1b : x1 < 4294967296 := by rw [hx1]; exact (HU2.out.at _).2
            have q1 : wr.cell? ⟨b, off + i * 6 + 1, none⟩ = some (.int .u32 x1) := by
              have := (hE.out.bel.cell (p := ⟨b, off + (i * 6 + 1), none⟩) (by simp; omega)).trans (hc (i * 6 + 1) (hle 1 (by omega)))
              rw [hx1]
              simpa [Nat.add_assoc] using this
            obtain ⟨x2, hx2⟩ : ∃ x, x = z2.getD (i * 6 + 2) 0 := ⟨_, rfl⟩
            have x2a : 0 ≤ x2 := by rw [hx2]; exact (HU2.out.at _).1
            have x2b : x2 < 4294967296 := by rw [hx2]; exact (HU2.out.at _).2
            have q2 : wr.cell? ⟨b, off + i * 6 + 2, none⟩ = some (.int .u32 x2) := by
              have := (hE.out.bel.cell (p := ⟨b, off + (i * 6 + 2), none⟩) (by simp; omega)).trans (hc (i * 6 + 2) (hle 2 (by omega)))
              rw [hx2]
              simpa [Nat.add_assoc] using this
            obtain ⟨x3, hx3⟩ : ∃ x, x = z2.getD (i * 6 + 3) 0 := ⟨_, rfl⟩
            have x3a : 0 ≤ x3 := by rw [hx3]; exact (HU2.out.at _).1
            have x3b : x3 < 4294967296 := by rw [hx3]; exact (HU2.out.at _).2
            have q3 : wr.cell? ⟨b, off + i * 6 + 3, none⟩ = some (.int .u32 x3) := by
              have := (hE.out.bel.cell (p := ⟨b, off + (i * 6 + 3), none⟩) (by simp; omega)).trans (hc (i * 6 + 3) (hle 3 (by omega)))
              rw [hx3]
              simpa [Nat.add_assoc] using this
            obtain ⟨x4, hx4⟩ : ∃ x, x = z2.getD (i * 6 + 4) 0 := ⟨_, rfl⟩
            have x4a : 0 ≤ x4 := by rw [hx4]; exact (HU2.out.at _).1
            have x4b : x4 < 4294967296 := by rw [hx4]; exact (HU2.out.at _).2
            have q4 : wr.cell? ⟨b, off + i * 6 + 4, none⟩ = some (.int .u32 x4) := by
              have := (hE.out.bel.cell (p := ⟨b, off + (i * 6 + 4), none⟩) (by simp; omega)).trans (hc (i * 6 + 4) (hle 4 (by omega)))
              rw [hx4]
              simpa [Nat.add_assoc] using this
            obtain ⟨x5, hx5⟩ : ∃ x, x = z2.getD (i * 6 + 5) 0 := ⟨_, rfl⟩
            have x5a : 0 ≤ x5 := by rw [hx5]; exact (HU2.out.at _).1
            have x5b : x5 < 4294967296 := by rw [hx5]; exact (HU2.out.at _).2
            have q5 : wr.cell? ⟨b, off + i * 6 + 5, none⟩ = some (.int .u32 x5) := by
              have := (hE.out.bel.cell (p := ⟨b, off + (i * 6 + 5), none⟩) (by simp; omega)).trans (hc (i * 6 + 5) (hle 5 (by omega)))
              rw [hx5]
              simpa [Nat.add_assoc] using this
            have HF : Hid (headB n1 n2 n3 ++ flatB z1 ++ flatB (z2.take ((i + 1) * 6)) = (headB n1 n2 n3 ++ flatB z1 ++ flatB (z2.take (i * 6))) ++ flatB [x0, x1, x2, x3, x4, x5]) := by
              unfold Hid
              rw [hx0, hx1, hx2, hx3, hx4, hx5]
              rw [flat3 (m := i * 6 + 3) (by have := hle 5 (by omega); omega) (m1 := (i + 1) * 6) (by omega), flat3 (m := i * 6) (by have := hle 5 (by omega); omega) (m1 := i * 6 + 3) (by omega)]
              simp [flatB, ptB]
            have hyl : (headB n1 n2 n3 ++ flatB z1 ++ flatB (z2.take (i * 6))).length ≤ 400000 := by
              have q1 := L0.out.sc.l1
              have q2 := L0.out.sc.l2
              simp only [List.length_append, flatB_length, headB_length, List.length_take]
              omega
            have hy0 : 0 < (headB n1 n2 n3 ++ flatB z1 ++ flatB (z2.take (i * 6))).length := by
              simp only [List.length_append, headB_length]
              omega
            obtain ⟨Y, hY⟩ : ∃ Y, Y = headB n1 n2 n3 ++ flatB z1 ++ flatB (z2.take (i * 6)) := ⟨_, rfl⟩
            rw [← hY] at hyl hy0 HF hE
            obtain ⟨gi, ni, ci, rfl, hg0, hg1⟩ := hE.out.form hy0
            have hib : (i : Int) < n2 := by omega
            have hUx : Hid (U32 [x0, x1, x2, x3, x4, x5]) := by intro x hx; simp at hx; rcases hx with rfl | rfl | rfl | rfl | rfl | rfl <;> (constructor <;> assumption)
            have hles := hE.out.le
            clear hc hle hbl hll hY hy0 hx0 hx1 hx2 hx3 hx4 hx5
            go_wp2_with fail
            refine (appPts_any (w.heap.size + 1) gi ni ci Y (some ⟨wr.heap.size + 1, 0, none⟩) 2 2 [x0, x1, x2, x3, x4, x5] _ (by decide) rfl hUx.out (row_at _ [x0, x1, x2, x3, x4, x5] _ (by simp)) (fun b off e _ => by cases e; omega) (by omega) (hE.out.own.later (bel2 _ _ _)) (by simp; omega)).mono ?_
            rintro e u ⟨g, m, c, rfl, hk⟩
            have EN : Hid (EncS W0 (w.heap.size + 1) (.slice (some ⟨g, 0, none⟩) m c) (Y ++ flatB [x0, x1, x2, x3, x4, x5]) u) := hE.out.grew (bel2 _ _ _) hg0 hk
            clear hk hE p0 p1 p2 hg0 hg1 hUx hles q0 x0a x0b q1 x1a x1b q2 x2a x2b q3 x3a x3b q4 x4a x4b q5 x5a x5b
            go_wp2
            go_roundw
            case rel => exact ⟨i + 1, by omega, by go_num, EN.out.re HF.out.symm⟩
            case measure => simp [intOf]; omega
          · have hie : n2 = i := by omega
            subst hie
            have hE1 := hE.out
            rw [List.take_of_length_le (by have := L0.out.sc.l2; omega)] at hE1
            have EN : Hid (EncS W0 (w.heap.size + 1) _ (headB n1 n2 n3 ++ flatB z1 ++ flatB z2) wr) := hE1
            clear hE hE1
            have hy0 : 0 < (headB n1 n2 n3 ++ flatB z1 ++ flatB z2).length := by
              simp only [List.length_append, headB_length]
              omega
            have hyl : (headB n1 n2 n3 ++ flatB z1 ++ flatB z2).length ≤ 400000 := by
              have q1 := L0.out.sc.l1
              have q2 := L0.out.sc.l2
              simp only [List.length_append, flatB_length, headB_length]
              omega
            obtain ⟨gi, ni, ci, rfl, hg0, hg1⟩ := EN.out.form hy0
            have HR3 : Hid (RowAt .u32 wr a3 z3) := L0.out.sc.r3.later (by rw [S0]; exact EN.out.bel)
            have HG3 : Hid (∀ b off, a3 = some ⟨b, off, none⟩ → z3 ≠ [] → gi ≠ b) := by
              intro b off e1 e2
              obtain ⟨b', off', e3, e4, _⟩ := HSC.out.r3.resolve_left e2
              rw [e1] at e3
              cases e3
              omega
            have hl3 : Hid (z3.length = n3 * 3) := L0.out.sc.l3
            clear hy0
            go_wp2_with fail
            refine (appPts_any (w.heap.size + 1) gi ni ci (headB n1 n2 n3 ++ flatB z1 ++ flatB z2) a3 n3 c3 z3 _ (by omega) hl3.out HU3.out HR3.out HG3.out (by omega) EN.out.own EN.out.le).mono ?_
            rintro e u ⟨g, m, c, rfl, hk⟩
            have EF : Hid (EncS W0 (w.heap.size + 1) (.slice (some ⟨g, 0, none⟩) m c) (headB n1 n2 n3 ++ flatB z1 ++ flatB z2 ++ flatB z3) u) := EN.out.grew (Below.refl _ _) hg0 hk
            clear hk EN p0 p1 p2 hg0 hg1 hyl
            go_wp2
            go_ret
            exact ⟨_, rfl, by rw [HV.out]; exact EF.out.own.up (Nat.le_succ _), L0.out.bel.trans (EF.out.bel.mono (Nat.le_succ _))⟩

end Go.Proofs.YtfcnokagfibgcahGreat
