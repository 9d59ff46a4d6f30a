/-
  The model's drawn Bigs.
-/
import Derived.Test.YtladfpljnaippabDoorDyI3ToDraw1
import Derived.Deep.RegionHeld3
import Derived.Deep.RegionLaw
namespace Go.Proofs.YtladfpljnaippabDoor
open Go.RowKit

theorem DS.start {w W : World} {P : Nat} {e t t' : TypeId} (hp : P < w.heap.size) (hr : Rd P W) (ha : Aside P (w.alloc (.cells #[.bool false, .slice none 0 0] t)) W) : DS w P w.heap.size W.heap.size (W.heap.size + 1) e false (.slice none 0 0) [] (W.alloc (.cells #[.bool false, .slice none 0 0] t')) := by
  have hs := ha.size
  simp at hs
  have a1 : Aside P w W := (Aside.of (bel0 w _)).trans ha
  have b1 := bel0 W (.cells #[.bool false, .slice none 0 0] t')
  refine ⟨?_, ?_, ?_, by simp [go_sem], by simp [go_sem], by intro j; simp [go_sem], own_nil _ _ _ _, (fun z hz => by cases hz), hr.later b1, a1.trans (Aside.of b1), Nat.le_refl _, hp, by omega, by omega, by simp⟩
  · rw [b1.cell (by simp; omega), ha.cell (by simp) (by simp; omega)]; simp [go_sem]
  · rw [b1.cell (by simp; omega), ha.cell (by simp) (by simp; omega)]; simp [go_sem]
  · intro j; rw [b1.frozen (by simp; omega), ha.frozen (by simp) (by simp; omega)]; simp [go_sem]

/-- Something more is laid, ahead of the first limb. -/
theorem DS.rebase {w : World} {P R O B : Nat} {e : TypeId} {G : Bool} {W : World} (h : DS w P R O B e G (.slice none 0 0) [] W) (o : Obj) (hB : W.heap.size = B) : DS w P R O (B + 1) e G (.slice none 0 0) [] (W.alloc o) := by
  have h2 := h.later (bel0 W o)
  exact ⟨h2.r1, h2.r2, h2.r3, h2.o0, h2.o1, h2.o2, own_nil _ _ _ _, h2.u, h2.rd, h2.asd, h2.ordR, h2.ordP, h2.ordO, Nat.lt_succ_of_lt h2.ordB, by simp; omega⟩

/-- The odd limbs. -/
def oddT : List Int := [0, 1, 4294967295, 2147483648, 2147483647, 2, 10, 1000000000]

theorem oddT_row (w : World) (t : TypeId) (o : Obj) : RowAt .u32 ((w.alloc o).alloc (.cells #[.int .u32 0, .int .u32 1, .int .u32 4294967295, .int .u32 2147483648, .int .u32 2147483647, .int .u32 2, .int .u32 10, .int .u32 1000000000] t)) (some ⟨w.heap.size + 1, 0, none⟩) oddT := by
  refine .inr ⟨w.heap.size + 1, 0, rfl, by simp, fun j hj => ?_⟩
  rw [Nat.zero_add, World.cell?_alloc_at _ _ _ _ (by simp)]
  have : j < 8 := hj
  match j, this with
  | 0, _ => rfl
  | 1, _ => rfl
  | 2, _ => rfl
  | 3, _ => rfl
  | 4, _ => rfl
  | 5, _ => rfl
  | 6, _ => rfl
  | 7, _ => rfl

theorem oddT_cell {W : World} {T j : Nat} (h : RowAt .u32 W (some ⟨T, 0, none⟩) oddT) (hj : j < 8) : ∃ y, W.cell? ⟨T, j, none⟩ = some (.int .u32 y) ∧ 0 ≤ y ∧ y < 4294967296 := by
  rcases h with h | ⟨b, off, h1, _, h3⟩
  · cases h
  · have h4 := Option.some.inj h1
    have e1 : b = T := (congrArg Addr.block h4).symm
    have e2 : off = 0 := (congrArg Addr.off h4).symm
    subst e1 e2
    have := h3 j hj
    rw [Nat.zero_add] at this
    refine ⟨_, this, ?_⟩
    have hu : ∀ k, k < 8 → 0 ≤ oddT.getD k 0 ∧ oddT.getD k 0 < 4294967296 := by decide
    exact hu j hj

theorem oddT_stay {W W' : World} {T O B : Nat} {v : Value} (h : RowAt .u32 W (some ⟨T, 0, none⟩) oddT) (hb : Below B W W') (hT : T < B) (hO : O ≠ T) : RowAt .u32 (W'.setCell ⟨O, 1, none⟩ v) (some ⟨T, 0, none⟩) oddT := by
  rcases h with h | ⟨b, off, h1, h2, h3⟩
  · cases h
  · have h4 := Option.some.inj h1
    have e1 : b = T := (congrArg Addr.block h4).symm
    subst e1
    refine .inr ⟨b, off, h1, by have := hb.size; simp; omega, fun j hj => ?_⟩
    rw [World.cell?_setCell_other _ _ _ _ (by first | (simp; done) | (simp; omega) | (intro e; exact hO (congrArg Addr.block e)))]
    exact (hb.cell (p := ⟨b, off + j, none⟩) hT).trans (h3 j hj)

theorem own_drew {X : World} {base : Nat} {e : TypeId} {v : Value} {n : Nat} {xs : List Value} (h : X.ownsRow base e 1 v n xs) : X.drew.ownsRow base e 1 v n xs := h

theorem bits_range (op : BinOp) (a b : Int) : 0 ≤ bits op .u32 a b ∧ bits op .u32 a b < 4294967296 := by
  unfold bits
  simp only [IntKind.wrap, IntKind.bits, IntKind.signed]
  simp
  omega

/-- 'append(s, x)' of one number to a slice of the call's own, as a step of a region that draws. -/
theorem app1s {k : IntKind} {X : Int} {bytes : Nat} {w0 : World} {ops : Array Oper} {o : Oper} {a : Act} {K : Act → World → Prop} {Q : Exit → Act → World → Prop} {E : Prop} (hgd : o.guard = none) (s x : Operand) (t : TypeId)
    (ho : o.op = .call { callee := .builtin .append, args := #[s, x], argTypes := #[t, t] })
    (base : Nat) (e : TypeId) (ht : Tryd.prog.underlying t = some (.slice e)) (hinfo : (Tryd.prog.info? e).map (fun i => (i.zero, i.size, i.bytes)) = some (some (.int k 0), 1, bytes)) (hby : bytes ≤ 8)
    (sv : Value) (ys : List Int) (bl : Nat) (hbl : w0.heap.size = bl) (hs : a.eval s = sv) (hx : a.eval x = .slice (some ⟨bl, 0, none⟩) 1 1) (hown : w0.ownsRow base e 1 sv ys.length (vals k ys)) (hn : ys.length ≤ 8388608) (hbase : base ≤ w0.heap.size)
    (h : ∀ a' n' c' w', w'.ownsRow base e 1 (.slice a' n' c') (ys ++ [X]).length (vals k (ys ++ [X])) → Below base w0 w' → w0.heap.size < w'.heap.size → K (a.put o.dst (.slice a' n' c')) w') :
    if Region.wanted o (yielded ops a.tmps) = true then Oper.wp Tryd.prog o a (w0.alloc (.cells #[.int k X] e)) K Q else E := by
  subst hbl
  have hw : Region.wanted o (yielded ops a.tmps) = true := by simp [Region.wanted, hgd]
  rw [if_pos hw]
  obtain ⟨i0, hi, hz0, hz1, hz2⟩ := info_parts hinfo
  have hb1 : (ys.length + 1) * bytes ≤ (ys.length + 1) * 8 := Nat.mul_le_mul_left _ hby
  refine wp_append_own _ s x t ho base e i0 (.int k 0) 1 bytes ht hi hz0 hz1 hz2 rfl (by decide) sv ys.length (vals k ys) hs (hown.alloc _) ⟨w0.heap.size, 0, none⟩ 1 1 [.int k X] hx rfl ?_ ?_ ?_ ?_ ?_ ?_
  · intro j u hj
    match j, hj with
    | 0, hj => simp at hj; subst hj; simp [Addr.add]
  · intro u hu; simp at hu; subst hu; rfl
  · unfold maxLen; omega
  · omega
  · simp; omega
  · intro v' w' hown' hgrow _
    obtain ⟨a', n', c', rfl⟩ : ∃ a' n' c', v' = .slice a' n' c' := by
      rcases hown'.2 with ⟨h1, _⟩ | ⟨g, cap, cur, h1, _⟩
      · exact ⟨_, _, _, h1⟩
      · exact ⟨_, _, _, h1⟩
    refine h a' n' c' w' ?_ ?_ ?_
    · rw [vals_snoc] at hown'
      simpa using hown'
    · have hb0 : Below base w0 (w0.alloc (.cells #[.int k X] e)) := (Below.refl _ _).alloc hbase _
      refine hb0.grown hgrow (by simp; omega) ?_
      intro kk hk
      rcases hown.2 with ⟨h1, _⟩ | ⟨g, cap, cur, h1, h2, _⟩
      · rw [h1] at hk; simp [Value.ownBlock] at hk
      · rw [h1] at hk; simp [Value.ownBlock] at hk; omega
    · have := hgrow.size
      simp at this
      omega

/-- How long the slice in a box is. -/
def boxLen (O : Nat) (W : World) : Nat := match W.cell? ⟨O, 1, none⟩ with
  | some (.slice _ n _) => n
  | _ => 0

theorem boxLen_of {O n c : Nat} {a : Option Addr} {W : World} (h : W.cell? ⟨O, 1, none⟩ = some (.slice a n c)) : boxLen O W = n := by unfold boxLen; rw [h]

/-- Shorter by a limb: the box behind the store. -/
theorem DS.short {w : World} {P R O B : Nat} {e : TypeId} {G : Bool} {a : Option Addr} {c m : Nat} {ys : List Int} {W : World} (h : DS w P R O B e G (.slice a ys.length c) ys W) (hm : ys.length = m + 1) : DS w P R O B e G (.slice a m c) (ys.take m) (W.setCell ⟨O, 1, none⟩ (.slice a m c)) :=
  h.grow (Below.refl _ _) (own_short h.own hm) (h.u.take m)

set_option maxRecDepth 100000 in
set_option maxHeartbeats 8000000 in
theorem drawBig_any (P : Nat) (w : World) (h : Rd P w) :
    Calls Tryd.prog 104 #[.pointer (some ⟨P, 0, none⟩)] w fun e w' => DrawOut P 33 w 512 e w' := by
  have hl := h.lt
  go_enter Tryd.func104, Tryd.ntmps104
  go_wp2_with fail
  refine (next_any P _ (h.later (bel0 _ _))).mono ?_
  rintro e w1 ⟨kk, rfl, hk0, hk1, hr1, ha1⟩
  have D0 : Hid (∀ t', DS w P w.heap.size w1.heap.size (w1.heap.size + 1) 33 false (.slice none 0 0) [] (w1.alloc (.cells #[.bool false, .slice none 0 0] t'))) := fun t' => DS.start hl hr1 ha1
  clear hr1 ha1
  by_cases h7 : kk = 7
  · subst h7
    go_wp2_with fail
    refine (next_any P _ (D0.out _).rd).mono ?_
    rintro e w2 ⟨jj, rfl, hj0, hj1, hr2, ha2⟩
    have D2 : Hid (DS w P w.heap.size w1.heap.size (w1.heap.size + 1) 33 false (.slice none 0 0) [] w2) := (D0.out _).aside ha2 hr2
    have hm0 : 0 ≤ jj % 2 := by omega
    have hm1 : jj % 2 ≤ 1 := by omega
    clear hr2 ha2 D0
    go_wp2
    go_loopw [6] (fun si wr => ∃ (i : Nat) (v : Value) (ys : List Int), (i : Int) ≤ 511 + jj % 2 ∧ si = .int .i64 i ∧ ys.length = i ∧ Hid (DS w P w.heap.size w1.heap.size (w1.heap.size + 1) 33 false v ys wr)) (fun si _ => 513 - (intOf si).toNat)
    case atStart => exact ⟨0, _, [], by omega, rfl, rfl, D2⟩
    case round =>
      obtain ⟨i, v, ys, hi, rfl, rfl, hD⟩ := hrel
      clear D2
      have s1 := hD.out.o1
      have s2 := hD.out.o2
      have hown := hD.out.own
      have hle := hD.out.ordW
      obtain ⟨va, vc, rfl⟩ := own_slice hown
      by_cases hlt : (ys.length : Int) < 511 + jj % 2
      · have hlo : ys.length ≤ 8388608 := by omega
        go_wp2_with (at_builtin; refine app1 rfl (.tmp 27) (.tmp 28) 25 rfl (w1.heap.size + 1) 33 Tryd.underlying25 Tryd.info33 (by decide) _ _ rfl rfl hown hlo hle ?_; intro a1 n1 c1 w3 hown1 hb1 hs1; have z3 := (hb1.frozen (p := ⟨w1.heap.size, 1, none⟩) (by simp)).trans (s2 1); have z4 := (hb1.cell (p := ⟨w1.heap.size, 1, none⟩) (by simp)).trans s1)
        have HN : Hid (DS w P w.heap.size w1.heap.size (w1.heap.size + 1) 33 false (.slice a1 n1 c1) (ys ++ [4294967295]) (w3.setCell ⟨w1.heap.size, 1, none⟩ (.slice a1 n1 c1))) := hD.out.grow hb1 hown1 (hD.out.u.snoc (by decide) (by decide))
        go_roundw
        case rel => exact ⟨ys.length + 1, _, ys ++ [4294967295], by omega, by go_num, by simp, HN⟩
        case measure => simp [intOf]; omega
      · clear s1 s2 hown hle
        go_wp2
        go_loopw [] (fun wq => ∃ (va : Option Addr) (vc : Nat) (ys : List Int), ys.length ≤ 512 ∧ Hid (DS w P w.heap.size w1.heap.size (w1.heap.size + 1) 33 false (.slice va ys.length vc) ys wq)) (fun wq => boxLen w1.heap.size wq)
        case atStart => exact ⟨va, vc, ys, by omega, hD⟩
        case round =>
          clear hD
          obtain ⟨va, vc, ys, hy5, hD⟩ := hrel
          have s0 := hD.out.o0
          have s1 := hD.out.o1
          have s2 := hD.out.o2
          have HFIN : Hid (∀ G' wx, DS w P w.heap.size w1.heap.size (w1.heap.size + 1) 33 G' (.slice va ys.length vc) ys wx → DrawOut P 33 w 512 (.returned (.agg #[.bool G', .slice va ys.length vc])) ((wx.setCell ⟨w.heap.size, 0, none⟩ (.bool G')).setCell ⟨w.heap.size, 1, none⟩ (.slice va ys.length vc))) := fun G' wx hx => hx.out hy5
          have oo1 : w.heap.size < w1.heap.size := hD.out.ordO
          have r1 := hD.out.r1
          have r2 := hD.out.r2
          have r3 := hD.out.r3
          by_cases hz : ys.length = 0
          · have hye : ys = [] := List.length_eq_zero_iff.1 hz
            subst hye
            have HE : Hid (DrawOut P 33 w 512 (.returned (.agg #[.bool false, .slice va ([] : List Int).length vc])) (((wr.setCell ⟨w1.heap.size, 0, none⟩ (.bool false)).setCell ⟨w.heap.size, 0, none⟩ (.bool false)).setCell ⟨w.heap.size, 1, none⟩ (.slice va ([] : List Int).length vc))) := HFIN.out _ _ (hD.out.sign false)
            clear HFIN hD
            go_wp2
            refine bodyPost_ret (v := .agg #[.bool false, .slice va 0 vc]) (by simp [results, Tryd.results104, go_sem, r1, r2]) rfl ?_
            exact HE.out
          · obtain ⟨m, hm⟩ : ∃ m, ys.length = m + 1 := ⟨ys.length - 1, by omega⟩
            obtain ⟨_, _, _, hcm, hsl, hrn⟩ := own_row hD.out.own
            have hrow : RowAt .u32 wr va ys := by
              obtain ⟨a2, c2, e2, _, hs2, _⟩ := own_row hD.out.own
              injection e2 with e3 e4 e5
              subst e3
              exact hs2.row
            obtain ⟨b, off, rfl, g1⟩ := row_cell hrow (Below.refl _ _) (show m < ys.length by omega)
            obtain ⟨y, hy⟩ : ∃ y, y = ys.getD m 0 := ⟨_, rfl⟩
            rw [← hy] at g1
            have hcap : ys.length ≤ vc := by
              obtain ⟨a2, c2, e2, _, hs2, _⟩ := own_row hD.out.own
              injection e2 with e3 e4 e5
              subst e5
              exact hs2.fits
            have hcm2 : vc ≤ maxLen := by
              obtain ⟨a2, c2, e2, h2, _, _⟩ := own_row hD.out.own
              injection e2 with e3 e4 e5
              subst e5
              exact h2
            unfold maxLen at hcm2
            by_cases hy0 : y = 0
            · have HS : Hid (DS w P w.heap.size w1.heap.size (w1.heap.size + 1) 33 false (.slice (some ⟨b, off, none⟩) m vc) (ys.take m) (wr.setCell ⟨w1.heap.size, 1, none⟩ (.slice (some ⟨b, off, none⟩) m vc))) := hD.out.short hm
              have HL : Hid (boxLen w1.heap.size wr = m + 1) := by unfold Hid; rw [boxLen_of s1, hm]
              have HT : Hid ((ys.take m).length = m) := by unfold Hid; rw [List.length_take]; omega
              have hml : (ys.length : Int) - 1 = m := by omega
              have hyl : (0 : Int) < ys.length := by omega
              subst hy0
              clear HFIN hD hrow hsl hrn hy r1 r2 r3 s0
              go_wp2
              go_roundw
              case rel => exact ⟨some ⟨b, off, none⟩, vc, ys.take m, by rw [HT.out]; omega, by rw [HT.out]; exact HS⟩
              case measure => rw [HL.out, boxLen_of (World.cell?_setCell_same _ _ _ s1)]; omega
            · have HE : Hid (DrawOut P 33 w 512 (.returned (.agg #[.bool (true), .slice (some ⟨b, off, none⟩) ys.length vc])) (((wr.setCell ⟨w1.heap.size, 0, none⟩ (.bool (true))).setCell ⟨w.heap.size, 0, none⟩ (.bool (true))).setCell ⟨w.heap.size, 1, none⟩ (.slice (some ⟨b, off, none⟩) ys.length vc))) := HFIN.out _ _ (hD.out.sign _)
              have hml : (ys.length : Int) - 1 = m := by omega
              have hyl : (0 : Int) < ys.length := by omega
              have hy1 : (y == 0) = false := by rw [beq_eq_false_iff_ne]; exact hy0
              clear HFIN hD hrow hsl hrn hy hm
              go_wp2
              refine bodyPost_ret (v := .agg #[.bool (true), .slice (some ⟨b, off, none⟩) ys.length vc]) (by simp [results, Tryd.results104, go_sem, r1, r2]) rfl ?_
              exact HE.out
  · have h7' : (kk == 7) = false := by rw [beq_eq_false_iff_ne]; exact h7
    have hm0 : 0 ≤ kk % 6 := by omega
    have hm1 : kk % 6 ≤ 5 := by omega
    have DT : Hid (DS w P w.heap.size w1.heap.size (w1.heap.size + 1 + 1) 33 false (.slice none 0 0) [] ((w1.alloc (.cells #[.bool false, .slice none 0 0] 27)).alloc (.cells #[.int .u32 0, .int .u32 1, .int .u32 4294967295, .int .u32 2147483648, .int .u32 2147483647, .int .u32 2, .int .u32 10, .int .u32 1000000000] 33))) := by
      unfold Hid
      have := (D0.out 27).rebase (.cells #[.int .u32 0, .int .u32 1, .int .u32 4294967295, .int .u32 2147483648, .int .u32 2147483647, .int .u32 2, .int .u32 10, .int .u32 1000000000] 33) (by simp)
      simpa using this
    have TT : Hid (RowAt .u32 ((w1.alloc (.cells #[.bool false, .slice none 0 0] 27)).alloc (.cells #[.int .u32 0, .int .u32 1, .int .u32 4294967295, .int .u32 2147483648, .int .u32 2147483647, .int .u32 2, .int .u32 10, .int .u32 1000000000] 33)) (some ⟨w1.heap.size + 1, 0, none⟩) oddT) := oddT_row w1 _ _
    clear D0
    go_wp2
    go_loopw [8, 9, 10] (fun si _ _ wr => ∃ (i : Nat) (v : Value) (ys : List Int), (i : Int) ≤ kk % 6 ∧ si = .int .i64 i ∧ ys.length = i ∧ Hid (DS w P w.heap.size w1.heap.size (w1.heap.size + 1 + 1) 33 false v ys wr) ∧ Hid (RowAt .u32 wr (some ⟨w1.heap.size + 1, 0, none⟩) oddT)) (fun si _ _ _ => 6 - (intOf si).toNat)
    case atStart => exact ⟨0, _, [], by omega, rfl, rfl, DT, TT⟩
    case round =>
      obtain ⟨i, v, ys, hi, rfl, rfl, hD, hT⟩ := hrel
      clear DT TT
      obtain ⟨va, vc, rfl⟩ := own_slice hD.out.own
      by_cases hlt : (ys.length : Int) < kk % 6
      · go_wp2_with fail
        refine (next_any P _ hD.out.rd).mono ?_
        rintro e w3 ⟨vv, rfl, hv0, hv1, hr3, ha3⟩
        have oP : P < w1.heap.size := by have := hD.out.ordP; have := hD.out.ordR; have := hD.out.ordO; omega
        have D3 : Hid (DS w P w.heap.size w1.heap.size (w1.heap.size + 1 + 1) 33 false (.slice va ys.length vc) ys w3) := hD.out.aside ha3 hr3
        have T3 : Hid (RowAt .u32 w3 (some ⟨w1.heap.size + 1, 0, none⟩) oddT) := ha3.row hT.out (fun b off e _ => by have := congrArg Addr.block (Option.some.inj e); simp at this; omega)
        clear hr3 ha3 hD hT
        by_cases h160 : vv < 160
        · obtain ⟨y, gy, hy0, hy1⟩ := oddT_cell T3.out (show (vv % 8).toNat < 8 by omega)
          have hj0 : 0 ≤ vv % 8 := by omega
          have hj8 : vv % 8 < 8 := by omega
          have hj9 : 0 ≤ vv % 8 ∧ vv % 8 < 8 := ⟨hj0, hj8⟩
          have hjt : vv.tmod 8 = vv % 8 := Int.tmod_eq_emod_of_nonneg hv0
          have hjc : ¬ (vv % 8 < 0) := by omega
          have hjd : ¬ ((8 : Int) ≤ vv % 8) := by omega
          have zz3 : w1.heap.size < w3.heap.size := by have := D3.out.ordW; omega
          have zz4 : w1.heap.size + 1 < w3.heap.size := by have := D3.out.ordW; omega
          have s1 := D3.out.o1
          have s2 := D3.out.o2
          have hown := D3.out.own
          have hle := D3.out.ordW
          go_wp2
          go_region_law (refine app1s (w0 := w3.drew) rfl (.tmp 42) (.tmp 48) 25 rfl (w1.heap.size + 1 + 1) 33 Tryd.underlying25 Tryd.info33 (by decide) (.slice va ys.length vc) ys w3.heap.size rfl (by simp [Act.eval]) (by simp [Act.eval]) (own_drew hown) (by omega) hle ?_; intro a1 n1 c1 w4 hown1 hb1 hs1; have z3 := (hb1.frozen (p := ⟨w1.heap.size, 1, none⟩) (by simp; omega)).trans (s2 1); have z4 := (hb1.cell (p := ⟨w1.heap.size, 1, none⟩) (by simp; omega)).trans s1)
          all_goals
            have hb2 : Below (w1.heap.size + 1 + 1) w3 w4 := (Below.refl _ _).drew.trans hb1
            have HN : Hid (DS w P w.heap.size w1.heap.size (w1.heap.size + 1 + 1) 33 false (.slice a1 n1 c1) (ys ++ [y]) (w4.setCell ⟨w1.heap.size, 1, none⟩ (.slice a1 n1 c1))) := D3.out.grow hb2 hown1 (D3.out.u.snoc hy0 hy1)
            have HT : Hid (RowAt .u32 (w4.setCell ⟨w1.heap.size, 1, none⟩ (.slice a1 n1 c1)) (some ⟨w1.heap.size + 1, 0, none⟩) oddT) := oddT_stay T3.out hb2 (by omega) (by omega)
            clear s1 s2 hown hle D3 T3 hb1 hb2
            go_wp2
            go_roundw
            case rel => exact ⟨ys.length + 1, _, ys ++ [y], by omega, by go_num, by simp, HN, HT⟩
            case measure => simp [intOf]; omega
        · go_wp2_with fail
          refine (next_any P _ D3.out.rd).mono ?_
          rintro e w5 ⟨vw, rfl, hw0, hw1, hr5, ha5⟩
          have D5 : Hid (DS w P w.heap.size w1.heap.size (w1.heap.size + 1 + 1) 33 false (.slice va ys.length vc) ys w5) := D3.out.aside ha5 hr5
          have T5 : Hid (RowAt .u32 w5 (some ⟨w1.heap.size + 1, 0, none⟩) oddT) := ha5.row T3.out (fun b off e _ => by have := congrArg Addr.block (Option.some.inj e); simp at this; omega)
          have s1 := D5.out.o1
          have s2 := D5.out.o2
          have hown := D5.out.own
          have hle := D5.out.ordW
          clear D3 T3 hr5 ha5
          go_wp2_with (at_builtin; refine app1 rfl (.tmp 54) (.tmp 62) 25 rfl (w1.heap.size + 1 + 1) 33 Tryd.underlying25 Tryd.info33 (by decide) _ _ rfl rfl hown (by omega) hle ?_; intro a1 n1 c1 w4 hown1 hb1 hs1; have z3 := (hb1.frozen (p := ⟨w1.heap.size, 1, none⟩) (by simp; omega)).trans (s2 1); have z4 := (hb1.cell (p := ⟨w1.heap.size, 1, none⟩) (by simp; omega)).trans s1)
          have HN := D5.out.grow hb1 hown1 (D5.out.u.snoc (bits_range _ _ _).1 (bits_range _ _ _).2)
          have HT : Hid (RowAt .u32 (w4.setCell ⟨w1.heap.size, 1, none⟩ (.slice a1 n1 c1)) (some ⟨w1.heap.size + 1, 0, none⟩) oddT) := oddT_stay T5.out hb1 (by omega) (by omega)
          go_roundw
          case rel => exact ⟨ys.length + 1, _, _, by omega, by go_num, by simp, HN, HT⟩
          case measure => simp [intOf]; omega
      · clear hT
        go_wp2
        go_loopw [] (fun wq => ∃ (va : Option Addr) (vc : Nat) (ys : List Int), ys.length ≤ 512 ∧ Hid (DS w P w.heap.size w1.heap.size (w1.heap.size + 1 + 1) 33 false (.slice va ys.length vc) ys wq)) (fun wq => boxLen w1.heap.size wq)
        case atStart => exact ⟨va, vc, ys, by omega, hD⟩
        case round =>
          clear hD
          obtain ⟨va, vc, ys, hy5, hD⟩ := hrel
          have s0 := hD.out.o0
          have s1 := hD.out.o1
          have s2 := hD.out.o2
          have HFIN : Hid (∀ G' wx, DS w P w.heap.size w1.heap.size (w1.heap.size + 1 + 1) 33 G' (.slice va ys.length vc) ys wx → DrawOut P 33 w 512 (.returned (.agg #[.bool G', .slice va ys.length vc])) ((wx.setCell ⟨w.heap.size, 0, none⟩ (.bool G')).setCell ⟨w.heap.size, 1, none⟩ (.slice va ys.length vc))) := fun G' wx hx => hx.out hy5
          have oo1 : w.heap.size < w1.heap.size := hD.out.ordO
          have r1 := hD.out.r1
          have r2 := hD.out.r2
          have r3 := hD.out.r3
          by_cases hz : ys.length = 0
          · have hye : ys = [] := List.length_eq_zero_iff.1 hz
            subst hye
            have HE : Hid (DrawOut P 33 w 512 (.returned (.agg #[.bool false, .slice va ([] : List Int).length vc])) (((wr.setCell ⟨w1.heap.size, 0, none⟩ (.bool false)).setCell ⟨w.heap.size, 0, none⟩ (.bool false)).setCell ⟨w.heap.size, 1, none⟩ (.slice va ([] : List Int).length vc))) := HFIN.out _ _ (hD.out.sign false)
            clear HFIN hD
            go_wp2
            refine bodyPost_ret (v := .agg #[.bool false, .slice va 0 vc]) (by simp [results, Tryd.results104, go_sem, r1, r2]) rfl ?_
            exact HE.out
          · obtain ⟨m, hm⟩ : ∃ m, ys.length = m + 1 := ⟨ys.length - 1, by omega⟩
            obtain ⟨_, _, _, hcm, hsl, hrn⟩ := own_row hD.out.own
            have hrow : RowAt .u32 wr va ys := by
              obtain ⟨a2, c2, e2, _, hs2, _⟩ := own_row hD.out.own
              injection e2 with e3 e4 e5
              subst e3
              exact hs2.row
            obtain ⟨b, off, rfl, g1⟩ := row_cell hrow (Below.refl _ _) (show m < ys.length by omega)
            obtain ⟨y, hy⟩ : ∃ y, y = ys.getD m 0 := ⟨_, rfl⟩
            rw [← hy] at g1
            have hcap : ys.length ≤ vc := by
              obtain ⟨a2, c2, e2, _, hs2, _⟩ := own_row hD.out.own
              injection e2 with e3 e4 e5
              subst e5
              exact hs2.fits
            have hcm2 : vc ≤ maxLen := by
              obtain ⟨a2, c2, e2, h2, _, _⟩ := own_row hD.out.own
              injection e2 with e3 e4 e5
              subst e5
              exact h2
            unfold maxLen at hcm2
            by_cases hy0 : y = 0
            · have HS : Hid (DS w P w.heap.size w1.heap.size (w1.heap.size + 1 + 1) 33 false (.slice (some ⟨b, off, none⟩) m vc) (ys.take m) (wr.setCell ⟨w1.heap.size, 1, none⟩ (.slice (some ⟨b, off, none⟩) m vc))) := hD.out.short hm
              have HL : Hid (boxLen w1.heap.size wr = m + 1) := by unfold Hid; rw [boxLen_of s1, hm]
              have HT : Hid ((ys.take m).length = m) := by unfold Hid; rw [List.length_take]; omega
              have hml : (ys.length : Int) - 1 = m := by omega
              have hyl : (0 : Int) < ys.length := by omega
              subst hy0
              clear HFIN hD hrow hsl hrn hy r1 r2 r3 s0
              go_wp2
              go_roundw
              case rel => exact ⟨some ⟨b, off, none⟩, vc, ys.take m, by rw [HT.out]; omega, by rw [HT.out]; exact HS⟩
              case measure => rw [HL.out, boxLen_of (World.cell?_setCell_same _ _ _ s1)]; omega
            · have HE : Hid (DrawOut P 33 w 512 (.returned (.agg #[.bool (kk / 6 % 2 == 1), .slice (some ⟨b, off, none⟩) ys.length vc])) (((wr.setCell ⟨w1.heap.size, 0, none⟩ (.bool (kk / 6 % 2 == 1))).setCell ⟨w.heap.size, 0, none⟩ (.bool (kk / 6 % 2 == 1))).setCell ⟨w.heap.size, 1, none⟩ (.slice (some ⟨b, off, none⟩) ys.length vc))) := HFIN.out _ _ (hD.out.sign _)
              have hml : (ys.length : Int) - 1 = m := by omega
              have hyl : (0 : Int) < ys.length := by omega
              have hy1 : (y == 0) = false := by rw [beq_eq_false_iff_ne]; exact hy0
              clear HFIN hD hrow hsl hrn hy hm
              go_wp2
              refine bodyPost_ret (v := .agg #[.bool (kk / 6 % 2 == 1), .slice (some ⟨b, off, none⟩) ys.length vc]) (by simp [results, Tryd.results104, go_sem, r1, r2]) rfl ?_
              exact HE.out

end Go.Proofs.YtladfpljnaippabDoor
