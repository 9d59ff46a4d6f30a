/-
  Drawn pictures: what is drawn, and memory while it is.
-/
import Derived.Test.YtfcnokagfibgcahGreatIdEIdMIdHBdI
import Derived.Test.YtfcnokagfibgcahGreatSpR
namespace Go.Proofs.YtfcnokagfibgcahGreat
open Go.RowKit

def idsS (rs : List Int) : Nat → List Int × List Int
  | 0 => ([], rs)
  | j + 1 => ((idsS rs j).1 ++ [(idsS rs j).2.headD 0 % 40 - 1], (idsS rs j).2.tail)
def litS (rs : List Int) : Nat → List Bool × List Int
  | 0 => ([], rs)
  | j + 1 => ((litS rs j).1 ++ [(litS rs j).2.headD 0 % 2 == 1], (litS rs j).2.tail)
theorem idsS_length (rs : List Int) : ∀ j, (idsS rs j).1.length = j
  | 0 => rfl
  | j + 1 => by rw [idsS]; simp [idsS_length rs j]
theorem litS_length (rs : List Int) : ∀ j, (litS rs j).1.length = j
  | 0 => rfl
  | j + 1 => by rw [litS]; simp [litS_length rs j]
theorem idsS_good (rs : List Int) : ∀ j z, z ∈ (idsS rs j).1 → -2 ≤ z ∧ z ≤ 40
  | 0, z, hz => by simp [idsS] at hz
  | j + 1, z, hz => by
    rw [idsS] at hz
    rcases List.mem_append.1 hz with h | h
    · exact idsS_good rs j z h
    · simp at h; omega

def gets (zs : List Int) : Nat → Int := fun i => zs.getD i 0
def getb (bs : List Bool) : Nat → Bool := fun i => bs.getD i false

/-- Memory while a picture is drawn: the answer's box X, the picture's box Y. -/
structure PnS (w0 : World) (P X Y : Nat) (v0 v1 v2 : Value) (rs : List Int) (W : World) : Prop where
  rs : Rs P rs W
  bx : BxF W X (.slice none 0 0) (.int .i64 0) (.slice none 0 0)
  by_ : BxF W Y v0 v1 v2
  asd : Aside P w0 W
  hX : X = w0.heap.size
  hXY : X < Y
  hP : P < X
theorem PnS.call {w0 W W' : World} {P X Y : Nat} {v0 v1 v2 : Value} {rs rs' : List Int} (h : PnS w0 P X Y v0 v1 v2 rs W) (hr : Rs P rs' W') (ha : Aside P W W') : PnS w0 P X Y v0 v1 v2 rs' W' :=
  ⟨hr, h.bx.aside ha (by have := h.hP; omega), h.by_.aside ha (by have := h.hP; have := h.hXY; omega), h.asd.trans ha, h.hX, h.hXY, h.hP⟩
theorem PnS.later {w0 W W' : World} {P X Y : Nat} {v0 v1 v2 : Value} {rs : List Int} (h : PnS w0 P X Y v0 v1 v2 rs W) (hb : Below W.heap.size W W') : PnS w0 P X Y v0 v1 v2 rs W' :=
  h.call (h.rs.later hb) (Aside.of hb)
/-- What turns above the picture's box alone. -/
theorem PnS.above {w0 W W' : World} {P X Y B : Nat} {v0 v1 v2 : Value} {rs : List Int} (h : PnS w0 P X Y v0 v1 v2 rs W) (hb : Below B W W') (hB : Y < B) : PnS w0 P X Y v0 v1 v2 rs W' := by
  have h1 := h.hXY
  have h2 := h.hP
  have h3 := h.hX
  have cell : ∀ k j, k ≤ Y → W'.cell? ⟨k, j, none⟩ = W.cell? ⟨k, j, none⟩ := fun k j hk => hb.cell (p := ⟨k, j, none⟩) (by show k < B; omega)
  have froz : ∀ k j, k ≤ Y → W'.frozen? ⟨k, j, none⟩ = W.frozen? ⟨k, j, none⟩ := fun k j hk => hb.frozen (p := ⟨k, j, none⟩) (by show k < B; omega)
  exact ⟨h.rs.above hb (by omega), ⟨Nat.lt_of_lt_of_le h.bx.lt hb.size, (cell X 0 (by omega)).trans h.bx.q0, (cell X 1 (by omega)).trans h.bx.q1, (cell X 2 (by omega)).trans h.bx.q2, fun j => (froz X j (by omega)).trans (h.bx.fr j)⟩, ⟨Nat.lt_of_lt_of_le h.by_.lt hb.size, (cell Y 0 (by omega)).trans h.by_.q0, (cell Y 1 (by omega)).trans h.by_.q1, (cell Y 2 (by omega)).trans h.by_.q2, fun j => (froz Y j (by omega)).trans (h.by_.fr j)⟩, h.asd.high hb (by omega), h3, h1, h2⟩
theorem PnS.put {w0 W : World} {P X Y : Nat} {v0 v1 v2 u0 u1 u2 : Value} {rs : List Int} (h : PnS w0 P X Y v0 v1 v2 rs W) (j : Nat) (v : Value) (hy : BxF (W.setCell ⟨Y, j, none⟩ v) Y u0 u1 u2) : PnS w0 P X Y u0 u1 u2 rs (W.setCell ⟨Y, j, none⟩ v) := by
  have h1 := h.hX
  have h2 := h.hXY
  have h3 := h.hP
  exact ⟨h.rs.set (by omega) _ _, h.bx.other (by omega) _ _, hy, h.asd.setHigh (p := ⟨Y, j, none⟩) (by show w0.heap.size ≤ Y; omega) _, h1, h2, h3⟩


theorem rowFq_aside {w w' : World} {lo hi n R : Nat} {a : Option Addr} {f : Nat → Value} (h : RowFIn w lo hi a n f) (ha : Aside R w w') (hR : R < lo) : RowFIn w' lo hi a n f := by
  rcases h with h | ⟨b, off, q1, q0, q00, q2, q3, q4⟩
  · exact .inl h
  · exact .inr ⟨b, off, q1, q0, q00, Nat.lt_of_lt_of_le q2 ha.size, fun j hj => (ha.cell (p := ⟨b, off + j, none⟩) q2 (by simp; omega)).trans (q3 j hj), fun j hj => (ha.frozen (p := ⟨b, off + j, none⟩) q2 (by simp; omega)).trans (q4 j hj)⟩
/-- The first number of a list of one's own is written. -/
theorem rowF_first {w : World} {lo hi b off : Nat} {zs : List Int} (h : RowFIn w lo hi (some ⟨b, off, none⟩) zs.length (intF (gets zs))) (hn : zs ≠ []) (x : Int) : RowFIn (w.setCell ⟨b, off, none⟩ (.int .i64 x)) lo hi (some ⟨b, off, none⟩) (zs.set 0 x).length (intF (gets (zs.set 0 x))) ∧ lo ≤ b ∧ b < hi ∧ w.cell? ⟨b, off, none⟩ = some (.int .i64 (gets zs 0)) ∧ w.frozen? ⟨b, off, none⟩ = false := by
  have hl : 0 < zs.length := by rcases zs with _ | _; exact absurd rfl hn; simp
  rcases h with h | ⟨b', off', q1, q0, q00, q2, q3, q4⟩
  · omega
  · obtain ⟨rfl, rfl⟩ : b = b' ∧ off = off' := by
      have := Option.some.inj q1
      exact ⟨congrArg Addr.block this, congrArg Addr.off this⟩
    refine ⟨.inr ⟨b, off, rfl, q0, q00, by simpa using q2, ?_, ?_⟩, q0, q00, q3 0 hl, q4 0 hl⟩
    · intro i hi
      rw [List.length_set] at hi
      by_cases e : i = 0
      · subst e
        have q5 : w.cell? ⟨b, off, none⟩ = some (intF (gets zs) 0) := q3 0 hl
        rw [Nat.add_zero, World.cell?_setCell_same _ _ _ q5]
        simp [intF, gets, List.getD_eq_getElem?_getD, hl]
      · rw [World.cell?_setCell_other _ _ _ _ (fun h => e (by have := congrArg Addr.off h; simp at this; omega)), q3 i hi]
        simp [intF, gets, List.getD_eq_getElem?_getD, Ne.symm e]
    · intro i hi
      rw [List.length_set] at hi
      rw [World.frozen?_setCell]
      exact q4 i hi
theorem vals_gets (zs : List Int) : ∀ j, j < zs.length → (vals .i64 zs)[j]? = some (intF (gets zs) j) := by
  intro j hj
  simp [vals, intF, gets, List.getD_eq_getElem?_getD, hj]
theorem bools_gets (bs : List Bool) : ∀ j, j < bs.length → (bs.map Value.bool)[j]? = some (boolF (getb bs) j) := by
  intro j hj
  simp [boolF, getb, List.getD_eq_getElem?_getD, hj]

theorem step1i {ops : Array Oper} {o : Oper} {ac : Act} {K : Act → World → Prop} {Q : Exit → Act → World → Prop} {E : Prop} (hgd : o.guard = none) (s x : Operand)
    (ho : o.op = .call { callee := .builtin .append, args := #[s, x], argTypes := #[31, 31] })
    (base : Nat) (v : Value) (n : Nat) (zs : List Int) (x0 : Int) (w0 : World) (hs : ac.eval s = v) (hx : ac.eval x = .slice (some ⟨w0.heap.size, 0, none⟩) 1 1) (hown : w0.ownsRow base 3 1 v n (vals .i64 zs)) (hn : n ≤ 100000) (hbase : base ≤ w0.heap.size)
    (h : ∀ g cap w', w'.ownsRow base 3 1 (.slice (some ⟨g, 0, none⟩) (n + 1) cap) (n + 1) (vals .i64 (zs ++ [x0])) → Below base w0 w' → K (ac.put o.dst (.slice (some ⟨g, 0, none⟩) (n + 1) cap)) w') :
    if Region.wanted o (yielded ops ac.tmps) = true then Oper.wp Tryz.prog o ac (w0.alloc (.cells #[.int .i64 x0] 3)) K Q else E := by
  obtain ⟨i0, hi, hz0, hz1, hz2⟩ := info_parts Tryz.info3
  refine step_append_lies (P := Tryz.prog) (w0.alloc (.cells #[.int .i64 x0] 3)) hgd s x 31 ho base 3 i0 _ 1 8 Tryz.underlying31 hi hz0 hz1 hz2 rfl (by decide) v n (vals .i64 zs) hs (hown.alloc _) ⟨w0.heap.size, 0, none⟩ 1 1 (vals .i64 [x0]) hx rfl ?_ ?_ (by decide) (by unfold maxLen; omega) (by omega) (by simp; omega) _ rfl ?_
  · exact World.news_of_block (cs := #[.int .i64 x0]) (by first | exact heap_alloc_new _ _ | exact Go.heap_alloc_new _ _)
  · intro u hu
    simp [vals] at hu
    rw [hu]; rfl
  · intro g cap w' hown' hgrow _ _
    refine h g cap w' ?_ ?_
    · simpa [vals] using hown'
    · refine ((bel0 w0 _).mono hbase |>.grown hgrow (by simp; omega) ?_)
      intro k hk
      rcases hown.2 with ⟨h1, _⟩ | ⟨g0, cap0, cur, h1, h2, _⟩
      · rw [h1] at hk; simp [Value.ownBlock] at hk
      · rw [h1] at hk; simp [Value.ownBlock] at hk; omega

theorem step1b {ops : Array Oper} {o : Oper} {ac : Act} {K : Act → World → Prop} {Q : Exit → Act → World → Prop} {E : Prop} (hgd : o.guard = none) (s x : Operand)
    (ho : o.op = .call { callee := .builtin .append, args := #[s, x], argTypes := #[55, 55] })
    (base : Nat) (v : Value) (n : Nat) (zs : List Bool) (x0 : Bool) (w0 : World) (hs : ac.eval s = v) (hx : ac.eval x = .slice (some ⟨w0.heap.size, 0, none⟩) 1 1) (hown : w0.ownsRow base 4 1 v n (zs.map Value.bool)) (hn : n ≤ 100000) (hbase : base ≤ w0.heap.size)
    (h : ∀ g cap w', w'.ownsRow base 4 1 (.slice (some ⟨g, 0, none⟩) (n + 1) cap) (n + 1) ((zs ++ [x0]).map Value.bool) → Below base w0 w' → K (ac.put o.dst (.slice (some ⟨g, 0, none⟩) (n + 1) cap)) w') :
    if Region.wanted o (yielded ops ac.tmps) = true then Oper.wp Tryz.prog o ac (w0.alloc (.cells #[.bool x0] 4)) K Q else E := by
  obtain ⟨i0, hi, hz0, hz1, hz2⟩ := info_parts info_Bool
  refine step_append_lies (P := Tryz.prog) (w0.alloc (.cells #[.bool x0] 4)) hgd s x 55 ho base 4 i0 _ 1 1 Tryz.underlying55 hi hz0 hz1 hz2 rfl (by decide) v n (zs.map Value.bool) hs (hown.alloc _) ⟨w0.heap.size, 0, none⟩ 1 1 [.bool x0] hx rfl ?_ ?_ (by decide) (by unfold maxLen; omega) (by omega) (by simp; omega) _ rfl ?_
  · exact World.news_of_block (cs := #[.bool x0]) (by first | exact heap_alloc_new _ _ | exact Go.heap_alloc_new _ _)
  · intro u hu
    simp at hu
    rw [hu]; rfl
  · intro g cap w' hown' hgrow _ _
    refine h g cap w' ?_ ?_
    · simpa using hown'
    · refine ((bel0 w0 _).mono hbase |>.grown hgrow (by simp; omega) ?_)
      intro k hk
      rcases hown.2 with ⟨h1, _⟩ | ⟨g0, cap0, cur, h1, h2, _⟩
      · rw [h1] at hk; simp [Value.ownBlock] at hk
      · rw [h1] at hk; simp [Value.ownBlock] at hk; omega

theorem wrapQ {n : Int} (h0 : -9223372036854775808 ≤ n) (h1 : n ≤ 9223372036854775807) : IntKind.i64.wrap n = n := by
  simp [IntKind.wrap, IntKind.bits, IntKind.signed]
  omega

/-- What a drawn picture is. -/
def PicOutD (P : Nat) (ids : List Int) (L : Int) (lits : List Bool) (rs' : List Int) (w : World) (e : Ending) (w' : World) : Prop :=
  ∃ a1 a3 c1 c3 l1 h1 l3 h3, e = .returned (.agg #[.slice a1 ids.length c1, .int .i64 L, .slice a3 lits.length c3]) ∧ PcDj w' w.heap.size w'.heap.size a1 a3 ids.length lits.length (gets ids) (getb lits) l1 h1 l3 h3 ∧ Rs P rs' w' ∧ Aside P w w'
structure PicD (rs : List Int) (ids : List Int) (L : Int) (lits : List Bool) (rs' : List Int) : Prop where
  n1 : ids.length ≤ 41
  n3 : lits.length ≤ 300
  l0 : 0 ≤ L
  l1 : L ≤ 5
  g : ∀ z, z ∈ ids → -2 ≤ z ∧ z ≤ 40
  tells : ∀ P w, Rs P rs w → Calls Tryz.prog 81 #[.pointer (some ⟨P, 0, none⟩)] w fun e w' => PicOutD P ids L lits rs' w e w'

end Go.Proofs.YtfcnokagfibgcahGreat

/-
  Drawn pictures: the common way.
-/
namespace Go.Proofs.YtfcnokagfibgcahGreat
open Go.RowKit

def fIds (kk : Int) (ids : List Int) : List Int := if kk = 10 then ids.set 0 40 else if kk = 11 then ids.set 0 (-2) else ids
def fL (kk l : Int) : Int := if kk = 8 then 5 else l
def fLit (kk : Int) (lits : List Bool) : List Bool := if kk = 9 then lits ++ [true] else lits
theorem fIds_length (kk : Int) (ids : List Int) : (fIds kk ids).length = ids.length := by
  unfold fIds
  repeat' split
  all_goals simp
theorem fIds_good {ids : List Int} (h : ∀ z, z ∈ ids → -2 ≤ z ∧ z ≤ 40) (kk : Int) : ∀ z, z ∈ fIds kk ids → -2 ≤ z ∧ z ≤ 40 := by
  intro z hz
  unfold fIds at hz
  repeat' split at hz
  · rcases List.mem_or_eq_of_mem_set hz with h' | rfl
    · exact h z h'
    · omega
  · rcases List.mem_or_eq_of_mem_set hz with h' | rfl
    · exact h z h'
    · omega
  · exact h z hz
theorem fLit_length (kk : Int) (lits : List Bool) : (fLit kk lits).length ≤ lits.length + 1 := by
  unfold fLit
  split
  all_goals simp

/-- The picture that is handed back. -/
theorem picEnd {w W : World} {P : Nat} {rs' : List Int} {a1 a3 : Option Addr} {n m c1 c3 l1 h1 l3 h3 : Nat} {ids : List Int} {lits : List Bool} {L : Int} (hr : Rs P rs' W) (ha : Aside P w W) (hP : P < w.heap.size) (q1 : RowFIn W l1 h1 a1 n (intF (gets ids))) (q3 : RowFIn W l3 h3 a3 m (boolF (getb lits))) (e1 : ids.length = n) (e3 : lits.length = m) (k1 : w.heap.size < l1) (k2 : w.heap.size < l3) (k3 : h1 ≤ l3) (k4 : h3 ≤ W.heap.size) (k5 : h1 ≤ W.heap.size) (u0 u1 u2 : Value) :
    PicOutD P ids L lits rs' w (.returned (.agg #[.slice a1 n c1, .int .i64 L, .slice a3 m c3])) (((W.setCell ⟨w.heap.size, 0, none⟩ u0).setCell ⟨w.heap.size, 1, none⟩ u1).setCell ⟨w.heap.size, 2, none⟩ u2) := by
  subst e1 e3
  refine ⟨a1, a3, c1, c3, l1, h1, l3, h3, rfl, ⟨⟨by omega, by simp; omega⟩, ⟨by omega, by simp; omega⟩, .inl k3, Nat.le_refl _, ?_, ?_⟩, ?_, ?_⟩
  · exact ((q1.set k1 0 _).set k1 1 _).set k1 2 _
  · exact ((q3.set k2 0 _).set k2 1 _).set k2 2 _
  · exact ((hr.set hP 0 _).set hP 1 _).set hP 2 _
  · exact ((ha.setHigh (p := ⟨w.heap.size, 0, none⟩) (Nat.le_refl _) _).setHigh (p := ⟨w.heap.size, 1, none⟩) (Nat.le_refl _) _).setHigh (p := ⟨w.heap.size, 2, none⟩) (Nat.le_refl _) _

set_option maxRecDepth 100000 in
set_option maxHeartbeats 8000000 in
theorem picM (rs : List Int) (kk : Int) (HK : Hid (rs.tail.headD 0 = kk)) (hk7 : kk ≠ 7) : ∃ ids L lits rs', PicD rs ids L lits rs' := by
  obtain ⟨n0, hn0⟩ : ∃ k, k = rs.headD 0 := ⟨_, rfl⟩
  have HN : Hid (rs.headD 0 = n0) := hn0.symm
  obtain ⟨n, hn⟩ : ∃ n : Nat, n = (n0 % 9).toNat := ⟨_, rfl⟩
  have HNN : Hid (n0 % 9 = n) := show n0 % 9 = (n : Int) by omega
  have hn8 : n ≤ 8 := by omega
  obtain ⟨l5, hl5⟩ : ∃ n : Nat, n = (kk % 5).toNat := ⟨_, rfl⟩
  have HL5 : Hid (kk % 5 = l5) := show kk % 5 = (l5 : Int) by omega
  have hl4 : l5 ≤ 4 := by omega
  clear hn0 hn hl5
  obtain ⟨rs1, hrs1⟩ : ∃ r, r = rs.tail.tail := ⟨_, rfl⟩
  have HRS1 : Hid (rs.tail.tail = rs1) := hrs1.symm
  have HNE : Hid ((n : Int) = (n : Int)) := rfl
  refine ⟨fIds kk (idsS rs1 n).1, fL kk l5, fLit kk (litS (idsS rs1 n).2 (n * l5)).1, (litS (idsS rs1 n).2 (n * l5)).2, ?_, ?_, ?_, ?_, fIds_good (idsS_good rs1 n) kk, ?_⟩
  · rw [fIds_length, idsS_length]; omega
  · have h1 := fLit_length kk (litS (idsS rs1 n).2 (n * l5)).1
    rw [litS_length] at h1
    have h2 := Nat.mul_le_mul hn8 hl4
    omega
  · unfold fL; split <;> omega
  · unfold fL; split <;> omega
  clear hrs1
  intro P w h
  have hP := h.lt
  have HS : Hid (Rs P rs w) := h
  clear h
  have k7 : (kk == 7) = false := by rw [beq_eq_false_iff_ne]; exact hk7
  obtain ⟨W0, hW0⟩ : ∃ W0, W0 = w.alloc (.cells #[.slice none 0 0, .int .i64 0, .slice none 0 0] 57) := ⟨_, rfl⟩
  have X0 : Hid (BxF W0 w.heap.size (.slice none 0 0) (.int .i64 0) (.slice none 0 0)) := by unfold Hid; rw [hW0]; exact BxF.new _ _ _ _ _
  have H0 : Hid (Rs P rs W0 ∧ Aside P w W0) := by unfold Hid; rw [hW0]; exact ⟨HS.out.later (bel0 _ _), Aside.of (bel0 _ _)⟩
  go_enter Tryz.func81, Tryz.ntmps81
  go_wp2_with fail
  rw [← hW0]
  clear hW0
  refine (nextF_any P rs _ H0.out.1).mono ?_
  rintro e w1 ⟨rfl, c0, c1, hr, ha⟩
  rw [HN.out] at c0 c1 ⊢
  have hm9 : n0.tmod 9 = n := by rw [Int.tmod_eq_emod_of_nonneg c0]; exact HNN.out
  have X1 : Hid (BxF w1 w.heap.size (.slice none 0 0) (.int .i64 0) (.slice none 0 0)) := X0.out.aside ha (show w.heap.size ≠ P by omega)
  have H1 : Hid (Rs P rs.tail w1 ∧ Aside P w w1) := ⟨hr, H0.out.2.trans ha⟩
  clear hr ha X0 H0
  go_wp2_with fail
  refine (nextF_any P rs.tail _ H1.out.1).mono ?_
  rintro e w2 ⟨rfl, d0, d1, hr, ha⟩
  rw [HK.out] at d0 d1 ⊢
  have hm5 : kk.tmod 5 = l5 := by rw [Int.tmod_eq_emod_of_nonneg d0]; exact HL5.out
  have X2 := X1.out.aside ha (show w.heap.size ≠ P by omega)
  have hwl : w.heap.size < w2.heap.size := X2.lt
  obtain ⟨W2, hW2⟩ : ∃ W, W = w2.alloc (.cells #[.slice none 0 0, .int .i64 l5, .slice none 0 0] 57) := ⟨_, rfl⟩
  rw [HRS1.out] at hr
  have S2 : Hid (PnS w P w.heap.size w2.heap.size (.slice none 0 0) (.int .i64 l5) (.slice none 0 0) rs1 W2) := by
    unfold Hid
    rw [hW2]
    exact ⟨hr.later (bel0 _ _), X2.aside (Aside.of (P := P) (bel0 _ _)) (by omega), BxF.new _ _ _ _ _, (H1.out.2.trans ha).trans (Aside.of (bel0 _ _)), rfl, hwl, hP⟩
  clear hr ha X1 H1 X2
  have yW : w2.heap.size < W2.heap.size := S2.out.by_.lt
  go_wp2
  rw [← hW2]
  clear hW2 hm9 hm5
  go_loopw [6] (fun si wr => ∃ (j : Nat) (v : Value), j ≤ n ∧ si = .int .i64 j ∧ Hid (PnS w P w.heap.size w2.heap.size v (.int .i64 (l5 : Int)) (.slice none 0 0) (idsS rs1 j).2 wr) ∧ Hid (wr.ownsRow W2.heap.size 3 1 v j (vals .i64 (idsS rs1 j).1)) ∧ W2.heap.size ≤ wr.heap.size) (fun si _ => n - (intOf si).toNat)
  case atStart => exact ⟨0, _, Nat.zero_le _, rfl, S2, ⟨by simp [vals, idsS], .inl ⟨rfl, rfl⟩⟩, Nat.le_refl _⟩
  case round =>
    obtain ⟨j, v, hj, rfl, hS, hO, hz⟩ := hrel
    by_cases hc : j < n
    · have hin : (j : Int) < (n : Int) := by have := HNE.out; omega
      obtain ⟨xx, hxx⟩ : ∃ x, x = (idsS rs1 j).2.headD 0 := ⟨_, rfl⟩
      have HX : Hid ((idsS rs1 j).2.headD 0 = xx) := hxx.symm
      have HE : Hid ((idsS rs1 (j + 1)).1 = (idsS rs1 j).1 ++ [xx % 40 - 1] ∧ (idsS rs1 (j + 1)).2 = (idsS rs1 j).2.tail) := ⟨by rw [idsS, HX.out], rfl⟩
      clear hxx
      go_wp2
      have HC0 : Hid (∀ w', Aside P wr w' → w'.cell? ⟨w2.heap.size, 0, none⟩ = some v) := fun w' hw => (hS.out.by_.aside hw (by omega)).q0
      have HFZ : Hid (∀ w' w'', Aside P wr w' → Below W2.heap.size w' w'' → w''.cell? ⟨w2.heap.size, 0, none⟩ = some v ∧ w''.frozen? ⟨w2.heap.size, 0, none⟩ = false) := fun w' w'' h1 h2 => ⟨(h2.cell (p := ⟨w2.heap.size, 0, none⟩) yW).trans (hS.out.by_.aside h1 (by omega)).q0, (h2.frozen (p := ⟨w2.heap.size, 0, none⟩) yW).trans ((hS.out.by_.aside h1 (by omega)).fr 0)⟩
      have z0 := hS.out.by_.q0
      have z9 := hS.out.by_.fr 0
      go_region_law
        (first
          | (have hBB := hA1; clear hBB; refine step1i rfl (.tmp 28) (.tmp 33) rfl W2.heap.size v j (idsS rs1 j).1 (xx % 40 - 1) u1 (by simp [Act.eval]) (by simp [Act.eval]) (aside_ownk hA1 hO.out (by omega)) (by omega) (Nat.le_trans hz hA1.size) ?_; intro gg cp uu hown4 hb4; have k4 := (HFZ.out u1 uu hA1 hb4).1; have f4 := (HFZ.out u1 uu hA1 hb4).2)
          | (go_simp; refine (nextF_any P _ _ (hS.out.rs.above (B := P + 1) (Below.refl _ _).drew (Nat.lt_succ_self _))).mono ?_; rintro e u1 ⟨rfl, x0, x1, hr1, ha1⟩; rw [HX.out] at x0 x1 ⊢; have hm40 : xx.tmod 40 = xx % 40 := Int.tmod_eq_emod_of_nonneg x0; have hw40 : IntKind.i64.wrap (xx % 40 - 1) = xx % 40 - 1 := wrapQ (by omega) (by omega); have hA1 : Aside P wr u1 := (Aside.of (Below.refl _ _).drew).trans ha1; have c1 := HC0.out u1 hA1; have c1a : ∀ o, (u1.alloc o).cell? ⟨w2.heap.size, 0, none⟩ = some v := fun o => HC0.out _ (hA1.trans (Aside.of (bel0 _ _)))))
      all_goals
        have S8 := (hS.out.call hr1 hA1).above hb4 yW
        have HS8 : Hid (PnS w P w.heap.size w2.heap.size (.slice (some ⟨gg, 0, none⟩) (j + 1) cp) (.int .i64 (l5 : Int)) (.slice none 0 0) (idsS rs1 (j + 1)).2 (uu.setCell ⟨w2.heap.size, 0, none⟩ (.slice (some ⟨gg, 0, none⟩) (j + 1) cp))) := by unfold Hid; rw [HE.out.2]; exact S8.put 0 _ (S8.by_.set0 _)
        have HO8 : Hid ((uu.setCell ⟨w2.heap.size, 0, none⟩ (.slice (some ⟨gg, 0, none⟩) (j + 1) cp)).ownsRow W2.heap.size 3 1 (.slice (some ⟨gg, 0, none⟩) (j + 1) cp) (j + 1) (vals .i64 (idsS rs1 (j + 1)).1)) := by unfold Hid; rw [HE.out.1]; exact own_low hown4 (p := ⟨w2.heap.size, 0, none⟩) yW _
        have HZ8 : W2.heap.size ≤ (uu.setCell ⟨w2.heap.size, 0, none⟩ (.slice (some ⟨gg, 0, none⟩) (j + 1) cp)).heap.size := by have := hA1.size; have := hb4.size; simp; omega
        clear hown4 hb4 hA1 ha1 hr1 c1 c1a k4 f4 S8
        go_wp2
        go_roundw
        case rel => exact ⟨j + 1, _, by omega, by go_num, HS8, HO8, HZ8⟩
        case measure => simp [intOf]; omega
    · have hje : n = j := by omega
      subst hje
      have hin : ¬ (n : Int) < (n : Int) := by have := HNE.out; omega
      obtain ⟨a1, k1, rfl, hr1⟩ := own_rowF hO.out (f := intF (gets (idsS rs1 n).1)) (fun i hi => vals_gets _ i (by rw [idsS_length]; exact hi))
      have Q1 : Hid (RowFIn wr W2.heap.size wr.heap.size a1 n (intF (gets (idsS rs1 n).1))) := hr1
      clear hr1 hO
      obtain ⟨m3, hm3⟩ : ∃ m : Nat, m = n * l5 := ⟨_, rfl⟩
      have HM3 : Hid ((m3 : Int) = (n : Int) * (l5 : Int)) := show (m3 : Int) = (n : Int) * (l5 : Int) by rw [hm3]; simp
      have hm4 : m3 ≤ 100 := by rw [hm3]; exact Nat.le_trans (Nat.mul_le_mul hn8 hl4) (by decide)
      have hml0 : 0 ≤ (n : Int) * (l5 : Int) := by have := HM3.out; omega
      have hml1 : (n : Int) * (l5 : Int) ≤ 100 := by have := HM3.out; omega
      clear hin
      obtain ⟨rs2, hrs2⟩ : ∃ r, r = (idsS rs1 n).2 := ⟨_, rfl⟩
      obtain ⟨ids, hids⟩ : ∃ r, r = (idsS rs1 n).1 := ⟨_, rfl⟩
      have HM3e : Hid (m3 = n * l5) := hm3
      have HRS2 : Hid (rs2 = (idsS rs1 n).2 ∧ ids = (idsS rs1 n).1) := ⟨hrs2, hids⟩
      have hidl : Hid (ids.length = n) := by unfold Hid; rw [hids]; exact idsS_length rs1 n
      rw [← hrs2] at hS
      rw [← hids] at Q1
      clear hids hrs2 hm3
      obtain ⟨w5, hw5⟩ : ∃ w5, w5 = wr := ⟨_, rfl⟩
      rw [← hw5] at hS Q1 hz
      go_wp2
      rw [← hw5]
      clear hw5
      have yW5 : w2.heap.size < w5.heap.size := by omega
      have S5 : Hid (PnS w P w.heap.size w2.heap.size (.slice a1 n k1) (.int .i64 (l5 : Int)) (.slice none 0 0) rs2 w5) := hS
      clear hS
      go_loopw [7] (fun si wr => ∃ (j : Nat) (v : Value), j ≤ m3 ∧ si = .int .i64 j ∧ Hid (PnS w P w.heap.size w2.heap.size (.slice a1 n k1) (.int .i64 (l5 : Int)) v (litS rs2 j).2 wr) ∧ Hid (wr.ownsRow w5.heap.size 4 1 v j ((litS rs2 j).1.map Value.bool)) ∧ Hid (RowFIn wr W2.heap.size w5.heap.size a1 n (intF (gets ids))) ∧ w5.heap.size ≤ wr.heap.size) (fun si _ => m3 - (intOf si).toNat)
      case atStart => exact ⟨0, _, Nat.zero_le _, rfl, S5, ⟨by simp [litS], .inl ⟨rfl, rfl⟩⟩, Q1, Nat.le_refl _⟩
      case round =>
        obtain ⟨j, v, hj, rfl, hS, hO, hQ, hz5⟩ := hrel
        have z1 := hS.out.by_.q1
        by_cases hc : j < m3
        · have hin : (j : Int) < (n : Int) * (l5 : Int) := by have := HM3.out; omega
          obtain ⟨xx, hxx⟩ : ∃ x, x = (litS rs2 j).2.headD 0 := ⟨_, rfl⟩
          have HX : Hid ((litS rs2 j).2.headD 0 = xx) := hxx.symm
          have HE : Hid ((litS rs2 (j + 1)).1 = (litS rs2 j).1 ++ [xx % 2 == 1] ∧ (litS rs2 (j + 1)).2 = (litS rs2 j).2.tail) := ⟨by rw [litS, HX.out], rfl⟩
          clear hxx
          go_wp2
          have HC0 : Hid (∀ w', Aside P wr w' → w'.cell? ⟨w2.heap.size, 2, none⟩ = some v) := fun w' hw => (hS.out.by_.aside hw (by omega)).q2
          have HFZ : Hid (∀ w' w'', Aside P wr w' → Below w5.heap.size w' w'' → w''.cell? ⟨w2.heap.size, 2, none⟩ = some v ∧ w''.frozen? ⟨w2.heap.size, 2, none⟩ = false) := fun w' w'' h1 h2 => ⟨(h2.cell (p := ⟨w2.heap.size, 2, none⟩) yW5).trans (hS.out.by_.aside h1 (by omega)).q2, (h2.frozen (p := ⟨w2.heap.size, 2, none⟩) yW5).trans ((hS.out.by_.aside h1 (by omega)).fr 2)⟩
          have z0 := hS.out.by_.q2
          have z9 := hS.out.by_.fr 2
          go_region_law
            (first
              | (have hBB := hA1; clear hBB; refine step1b rfl (.tmp 45) (.tmp 50) rfl w5.heap.size v j (litS rs2 j).1 (xx % 2 == 1) u1 (by simp [Act.eval]) (by simp [Act.eval]) (aside_ownk hA1 hO.out (by omega)) (by omega) (Nat.le_trans hz5 hA1.size) ?_; intro gg cp uu hown4 hb4; have k4 := (HFZ.out u1 uu hA1 hb4).1; have f4 := (HFZ.out u1 uu hA1 hb4).2)
              | (go_simp; refine (nextF_any P _ _ (hS.out.rs.above (B := P + 1) (Below.refl _ _).drew (Nat.lt_succ_self _))).mono ?_; rintro e u1 ⟨rfl, x0, x1, hr1, ha1⟩; rw [HX.out] at x0 x1 ⊢; have hm40 : xx.tmod 2 = xx % 2 := Int.tmod_eq_emod_of_nonneg x0; have hA1 : Aside P wr u1 := (Aside.of (Below.refl _ _).drew).trans ha1; have c1 := HC0.out u1 hA1; have c1a : ∀ o, (u1.alloc o).cell? ⟨w2.heap.size, 2, none⟩ = some v := fun o => HC0.out _ (hA1.trans (Aside.of (bel0 _ _)))))
          all_goals
            have S8 := (hS.out.call hr1 hA1).above hb4 yW5
            have HS8 : Hid (PnS w P w.heap.size w2.heap.size (.slice a1 n k1) (.int .i64 (l5 : Int)) (.slice (some ⟨gg, 0, none⟩) (j + 1) cp) (litS rs2 (j + 1)).2 (uu.setCell ⟨w2.heap.size, 2, none⟩ (.slice (some ⟨gg, 0, none⟩) (j + 1) cp))) := by unfold Hid; rw [HE.out.2]; exact S8.put 2 _ (S8.by_.set2 _)
            have HO8 : Hid ((uu.setCell ⟨w2.heap.size, 2, none⟩ (.slice (some ⟨gg, 0, none⟩) (j + 1) cp)).ownsRow w5.heap.size 4 1 (.slice (some ⟨gg, 0, none⟩) (j + 1) cp) (j + 1) ((litS rs2 (j + 1)).1.map Value.bool)) := by unfold Hid; rw [HE.out.1]; exact own_low hown4 (p := ⟨w2.heap.size, 2, none⟩) yW5 _
            have HQ8 : Hid (RowFIn (uu.setCell ⟨w2.heap.size, 2, none⟩ (.slice (some ⟨gg, 0, none⟩) (j + 1) cp)) W2.heap.size w5.heap.size a1 n (intF (gets ids))) := ((rowFq_aside hQ.out hA1 (by omega)).keep hb4 (Nat.le_refl _)).set yW 2 _
            have HZ8 : w5.heap.size ≤ (uu.setCell ⟨w2.heap.size, 2, none⟩ (.slice (some ⟨gg, 0, none⟩) (j + 1) cp)).heap.size := by have := hA1.size; have := hb4.size; simp; omega
            clear hown4 hb4 hA1 ha1 hr1 c1 c1a k4 f4 S8
            go_wp2
            go_roundw
            case rel => exact ⟨j + 1, _, by omega, by go_num, HS8, HO8, HQ8, HZ8⟩
            case measure => simp [intOf]; omega
        · have hje : m3 = j := by omega
          subst hje
          have hin : ¬ (m3 : Int) < (n : Int) * (l5 : Int) := by have := HM3.out; omega
          have HOL : Hid (wr.ownsRow w5.heap.size 4 1 v m3 ((litS rs2 m3).1.map Value.bool)) := hO
          obtain ⟨a2, k2, rfl, hr2⟩ := own_rowF hO.out (f := boolF (getb (litS rs2 m3).1)) (fun i hi => bools_gets _ i (by rw [litS_length]; exact hi))
          have Q2 : Hid (RowFIn wr w5.heap.size wr.heap.size a2 m3 (boolF (getb (litS rs2 m3).1))) := hr2
          obtain ⟨lits, hlits⟩ : ∃ r, r = (litS rs2 m3).1 := ⟨_, rfl⟩
          have hlil : Hid (lits.length = m3) := by unfold Hid; rw [hlits]; exact litS_length rs2 m3
          obtain ⟨rs3, hrs3⟩ : ∃ r, r = (litS rs2 m3).2 := ⟨_, rfl⟩
          rw [← hlits] at Q2 HOL
          rw [← hrs3] at hS
          have HRS3 : Hid (rs3 = (litS rs2 m3).2 ∧ lits = (litS rs2 m3).1) := ⟨hrs3, hlits⟩
          clear hrs3 hlits hin
          have hin : ¬ (m3 : Int) < (n : Int) * (l5 : Int) := by have := HM3.out; omega
          clear hr2 hO
          have x0 := hS.out.bx.q0
          have x1 := hS.out.bx.q1
          have x2 := hS.out.bx.q2
          have f0 := hS.out.bx.fr 0
          have f1 := hS.out.bx.fr 1
          have f2 := hS.out.bx.fr 2
          have v0 := hS.out.by_.q0
          have v1 := hS.out.by_.q1
          have v2 := hS.out.by_.q2
          have g0 := hS.out.by_.fr 0
          have g1 := hS.out.by_.fr 1
          have g2 := hS.out.by_.fr 2
          by_cases hk8 : kk = 8
          · subst hk8
            have S8 := hS.out.put 1 (.int .i64 5) (hS.out.by_.set1 _)
            have y0 := S8.bx.q0
            have y1 := S8.bx.q1
            have y2 := S8.bx.q2
            have y3 := S8.bx.fr 0
            have y4 := S8.bx.fr 1
            have y5 := S8.bx.fr 2
            have t0 := S8.by_.q0
            have t1 := S8.by_.q1
            have t2 := S8.by_.q2
            have Q8 : Hid (RowFIn (wr.setCell ⟨w2.heap.size, 1, none⟩ (.int .i64 5)) W2.heap.size w5.heap.size a1 n (intF (gets ids))) := hQ.out.set yW 1 _
            have P8 : Hid (RowFIn (wr.setCell ⟨w2.heap.size, 1, none⟩ (.int .i64 5)) w5.heap.size wr.heap.size a2 m3 (boolF (getb lits))) := Q2.out.set yW5 1 _
            have HS8 : Hid (Rs P rs3 (wr.setCell ⟨w2.heap.size, 1, none⟩ (.int .i64 5)) ∧ Aside P w (wr.setCell ⟨w2.heap.size, 1, none⟩ (.int .i64 5))) := ⟨S8.rs, S8.asd⟩
            clear S8
            go_wp2
            refine bodyPost_ret (v := .agg #[.slice a1 n k1, .int .i64 5, .slice a2 m3 k2]) (by simp [results, Tryz.results81, go_sem, y0, y1, y2]) rfl ?_
            rw [← HRS2.out.2, ← HRS2.out.1, ← HM3e.out, ← HRS3.out.2, ← HRS3.out.1]
            exact picEnd HS8.out.1 HS8.out.2 hP Q8.out P8.out hidl.out hlil.out (by omega) (by omega) (Nat.le_refl _) (by simp) (by simpa using hz5) _ _ _
          · by_cases hk9 : kk = 9
            · subst hk9
              have z0 := hS.out.by_.q2
              have z9 := hS.out.by_.fr 2
              go_wp2_with (at_builtin; refine app1b rfl (.tmp 59) (.tmp 60) rfl w5.heap.size _ (lits.map Value.bool) m3 rfl rfl HOL.out (by omega) hz5 ?_; intro e2 m2 k3 w4 ho2 hb2 hs2; obtain ⟨a5, k5, he5, hr5⟩ := own_rowF ho2 (f := boolF (getb (lits ++ [true]))) (fun i hi => by have := bools_gets (lits ++ [true]) i (by simp [hlil.out]; omega); simpa using this); simp at he5; obtain ⟨rfl, rfl, rfl⟩ := he5; have S4 := hS.out.above hb2 yW5; have c4 := S4.by_.q2; have c5 := S4.by_.fr 2; have S8 := S4.put 2 (.slice e2 (m3 + 1) k3) (S4.by_.set2 _); have y0 := S8.bx.q0; have y1 := S8.bx.q1; have y2 := S8.bx.q2; have y3 := S8.bx.fr 0; have y4 := S8.bx.fr 1; have y5 := S8.bx.fr 2; have t0 := S8.by_.q0; have t1 := S8.by_.q1; have t2 := S8.by_.q2; have HS8 : Hid (Rs P rs3 (w4.setCell ⟨w2.heap.size, 2, none⟩ (.slice e2 (m3 + 1) k3)) ∧ Aside P w (w4.setCell ⟨w2.heap.size, 2, none⟩ (.slice e2 (m3 + 1) k3))) := ⟨S8.rs, S8.asd⟩; have Q8 : Hid (RowFIn (w4.setCell ⟨w2.heap.size, 2, none⟩ (.slice e2 (m3 + 1) k3)) W2.heap.size w5.heap.size a1 n (intF (gets ids))) := (hQ.out.keep hb2 (Nat.le_refl _)).set yW 2 _; have P8 : Hid (RowFIn (w4.setCell ⟨w2.heap.size, 2, none⟩ (.slice e2 (m3 + 1) k3)) w5.heap.size w4.heap.size e2 (m3 + 1) (boolF (getb (lits ++ [true])))) := hr5.set yW5 2 _; clear S8 S4 hr5 ho2 hb2)
              refine bodyPost_ret (v := .agg #[.slice a1 n k1, .int .i64 (l5 : Int), .slice e2 (m3 + 1) k3]) (by simp [results, Tryz.results81, go_sem, y0, y1, y2]) rfl ?_
              rw [← HRS2.out.2, ← HRS2.out.1, ← HM3e.out, ← HRS3.out.2, ← HRS3.out.1]
              exact picEnd HS8.out.1 HS8.out.2 hP Q8.out P8.out hidl.out (by show (lits ++ [true]).length = m3 + 1; rw [List.length_append, hlil.out]; rfl) (by omega) (by omega) (Nat.le_refl _) (by simp) (by simp; omega) _ _ _
            · by_cases hk10 : kk = 10
              · subst hk10
                by_cases hn0 : n = 0
                · have hnp : ¬ (0 : Int) < n := by omega
                  have hF : Hid (fIds 10 ids = ids) := by
                    unfold Hid
                    rw [List.length_eq_zero_iff.1 (hidl.out.trans hn0)]
                    rfl
                  clear hn0
                  go_wp2
                  refine bodyPost_ret (v := .agg #[.slice a1 n k1, .int .i64 (l5 : Int), .slice a2 m3 k2]) (by simp [results, Tryz.results81, go_sem, x0, x1, x2]) rfl ?_
                  rw [← HRS2.out.2, ← HRS2.out.1, ← HM3e.out, ← HRS3.out.2, ← HRS3.out.1]
                  rw [hF.out]
                  exact picEnd hS.out.rs hS.out.asd hP hQ.out Q2.out hidl.out hlil.out (by omega) (by omega) (Nat.le_refl _) (Nat.le_refl _) hz5 _ _ _
                · have hnp : (0 : Int) < n := by omega
                  have hne : ids ≠ [] := fun h => hn0 (by rw [← hidl.out, h]; rfl)
                  obtain ⟨b, off, rfl⟩ : ∃ b off, a1 = some ⟨b, off, none⟩ := by
                    rcases hQ.out with h | ⟨b, off, h, _⟩
                    · exact absurd h hn0
                    · exact ⟨b, off, h⟩
                  have hQ' := hQ.out
                  rw [← hidl.out] at hQ'
                  obtain ⟨q1, q2, q3, q4, q5⟩ := rowF_first hQ' hne (40)
                  have bB : Below W2.heap.size wr (wr.setCell ⟨b, off, none⟩ (.int .i64 (40))) := (Below.refl _ _).setCell (p := ⟨b, off, none⟩) q2 _
                  have S8 := hS.out.above bB yW
                  have y0 := S8.bx.q0
                  have y1 := S8.bx.q1
                  have y2 := S8.bx.q2
                  have y3 := S8.bx.fr 0
                  have y4 := S8.bx.fr 1
                  have y5 := S8.bx.fr 2
                  have t0 := S8.by_.q0
                  have t1 := S8.by_.q1
                  have t2 := S8.by_.q2
                  have Q8 : Hid (RowFIn (wr.setCell ⟨b, off, none⟩ (.int .i64 (40))) W2.heap.size w5.heap.size (some ⟨b, off, none⟩) n (intF (gets (ids.set 0 (40))))) := by
                    unfold Hid
                    rw [show (ids.set 0 (40)).length = n by rw [List.length_set]; exact hidl.out] at q1
                    exact q1
                  have P8 : Hid (RowFIn (wr.setCell ⟨b, off, none⟩ (.int .i64 (40))) w5.heap.size wr.heap.size a2 m3 (boolF (getb lits))) := Q2.out.set q3 off _
                  have HS8 : Hid (Rs P rs3 (wr.setCell ⟨b, off, none⟩ (.int .i64 (40))) ∧ Aside P w (wr.setCell ⟨b, off, none⟩ (.int .i64 (40)))) := ⟨S8.rs, S8.asd⟩
                  have hidl2 : Hid ((ids.set 0 (40)).length = n) := by unfold Hid; rw [List.length_set]; exact hidl.out
                  clear S8 hQ' q1 hn0
                  go_wp2
                  refine bodyPost_ret (v := .agg #[.slice (some ⟨b, off, none⟩) n k1, .int .i64 (l5 : Int), .slice a2 m3 k2]) (by simp [results, Tryz.results81, go_sem, y0, y1, y2]) rfl ?_
                  rw [← HRS2.out.2, ← HRS2.out.1, ← HM3e.out, ← HRS3.out.2, ← HRS3.out.1]
                  exact picEnd HS8.out.1 HS8.out.2 hP Q8.out P8.out hidl2.out hlil.out (by omega) (by omega) (Nat.le_refl _) (by simp) (by simpa using hz5) _ _ _
              · by_cases hk11 : kk = 11
                · subst hk11
                  by_cases hn0 : n = 0
                  · have hnp : ¬ (0 : Int) < n := by omega
                    have hF : Hid (fIds 11 ids = ids) := by
                      unfold Hid
                      rw [List.length_eq_zero_iff.1 (hidl.out.trans hn0)]
                      rfl
                    clear hn0
                    go_wp2
                    refine bodyPost_ret (v := .agg #[.slice a1 n k1, .int .i64 (l5 : Int), .slice a2 m3 k2]) (by simp [results, Tryz.results81, go_sem, x0, x1, x2]) rfl ?_
                    rw [← HRS2.out.2, ← HRS2.out.1, ← HM3e.out, ← HRS3.out.2, ← HRS3.out.1]
                    rw [hF.out]
                    exact picEnd hS.out.rs hS.out.asd hP hQ.out Q2.out hidl.out hlil.out (by omega) (by omega) (Nat.le_refl _) (Nat.le_refl _) hz5 _ _ _
                  · have hnp : (0 : Int) < n := by omega
                    have hne : ids ≠ [] := fun h => hn0 (by rw [← hidl.out, h]; rfl)
                    obtain ⟨b, off, rfl⟩ : ∃ b off, a1 = some ⟨b, off, none⟩ := by
                      rcases hQ.out with h | ⟨b, off, h, _⟩
                      · exact absurd h hn0
                      · exact ⟨b, off, h⟩
                    have hQ' := hQ.out
                    rw [← hidl.out] at hQ'
                    obtain ⟨q1, q2, q3, q4, q5⟩ := rowF_first hQ' hne (-2)
                    have bB : Below W2.heap.size wr (wr.setCell ⟨b, off, none⟩ (.int .i64 (-2))) := (Below.refl _ _).setCell (p := ⟨b, off, none⟩) q2 _
                    have S8 := hS.out.above bB yW
                    have y0 := S8.bx.q0
                    have y1 := S8.bx.q1
                    have y2 := S8.bx.q2
                    have y3 := S8.bx.fr 0
                    have y4 := S8.bx.fr 1
                    have y5 := S8.bx.fr 2
                    have t0 := S8.by_.q0
                    have t1 := S8.by_.q1
                    have t2 := S8.by_.q2
                    have Q8 : Hid (RowFIn (wr.setCell ⟨b, off, none⟩ (.int .i64 (-2))) W2.heap.size w5.heap.size (some ⟨b, off, none⟩) n (intF (gets (ids.set 0 (-2))))) := by
                      unfold Hid
                      rw [show (ids.set 0 (-2)).length = n by rw [List.length_set]; exact hidl.out] at q1
                      exact q1
                    have P8 : Hid (RowFIn (wr.setCell ⟨b, off, none⟩ (.int .i64 (-2))) w5.heap.size wr.heap.size a2 m3 (boolF (getb lits))) := Q2.out.set q3 off _
                    have HS8 : Hid (Rs P rs3 (wr.setCell ⟨b, off, none⟩ (.int .i64 (-2))) ∧ Aside P w (wr.setCell ⟨b, off, none⟩ (.int .i64 (-2)))) := ⟨S8.rs, S8.asd⟩
                    have hidl2 : Hid ((ids.set 0 (-2)).length = n) := by unfold Hid; rw [List.length_set]; exact hidl.out
                    clear S8 hQ' q1 hn0
                    go_wp2
                    refine bodyPost_ret (v := .agg #[.slice (some ⟨b, off, none⟩) n k1, .int .i64 (l5 : Int), .slice a2 m3 k2]) (by simp [results, Tryz.results81, go_sem, y0, y1, y2]) rfl ?_
                    rw [← HRS2.out.2, ← HRS2.out.1, ← HM3e.out, ← HRS3.out.2, ← HRS3.out.1]
                    exact picEnd HS8.out.1 HS8.out.2 hP Q8.out P8.out hidl2.out hlil.out (by omega) (by omega) (Nat.le_refl _) (by simp) (by simpa using hz5) _ _ _
                · have k8 : (kk == 8) = false := by rw [beq_eq_false_iff_ne]; exact hk8
                  have k9 : (kk == 9) = false := by rw [beq_eq_false_iff_ne]; exact hk9
                  have k10 : (kk == 10) = false := by rw [beq_eq_false_iff_ne]; exact hk10
                  have k11 : (kk == 11) = false := by rw [beq_eq_false_iff_ne]; exact hk11
                  have hF : Hid (fIds kk ids = ids ∧ fL kk l5 = l5 ∧ fLit kk lits = lits) := ⟨by rw [fIds, if_neg hk10, if_neg hk11], by rw [fL, if_neg hk8], by rw [fLit, if_neg hk9]⟩
                  clear hk8 hk9 hk10 hk11
                  go_wp2
                  refine bodyPost_ret (v := .agg #[.slice a1 n k1, .int .i64 (l5 : Int), .slice a2 m3 k2]) (by simp [results, Tryz.results81, go_sem, x0, x1, x2]) rfl ?_
                  rw [← HRS2.out.2, ← HRS2.out.1, ← HM3e.out, ← HRS3.out.2, ← HRS3.out.1]
                  rw [hF.out.1, hF.out.2.1, hF.out.2.2]
                  exact picEnd hS.out.rs hS.out.asd hP hQ.out Q2.out hidl.out hlil.out (by omega) (by omega) (Nat.le_refl _) (Nat.le_refl _) hz5 _ _ _

end Go.Proofs.YtfcnokagfibgcahGreat
