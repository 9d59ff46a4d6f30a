/-
  What the law of texts calls beside the two sides: bytes held against one another, appended; a drawn Big.
-/
import Derived.Test.YtlbegmepmeimkabBytes
import Derived.Test.YtlbegmepmeimkabDraw5
import Derived.Test.YtlbegmepmeimkabCopy
import Derived.Test.YtlbegmepmeimkabImplH
namespace Go.Proofs.Ytlbegmepmeimkab
open Go.RowKit

set_option maxHeartbeats 400000 in
theorem sameY_any (a a' : Option Addr) (c c' : Nat) (zs ys : List Int) (w : World) (hn : zs.length ≤ maxLen) (hn' : ys.length ≤ maxLen) (hz : RowAt .u8 w a zs) (hy : RowAt .u8 w a' ys) :
    Calls Try.prog 21 #[.slice a zs.length c, .slice a' ys.length c'] w fun e w' => e = .returned (.bool (decide (zs = ys))) ∧ Below w.heap.size w w' := by
  unfold maxLen at hn hn'
  by_cases hl : zs.length = ys.length
  · rcases hz with hz | ⟨b, off, rfl, hb, hc⟩
    · subst hz
      have : ys = [] := List.length_eq_zero_iff.1 hl.symm
      subst this
      go_enter Try.func21, Try.ntmps21
      go_wp2
      go_loop [5] (fun i => i = .int .i64 0) (fun _ => 0)
      case atStart => rfl
      case round =>
        subst hrel
        go_wp2
        go_ret
        exact ⟨by simp, Below.refl _ _⟩
    · rcases hy with hy | ⟨b', off', rfl, hb', hc'⟩
      · subst hy
        have : zs = [] := List.length_eq_zero_iff.1 hl
        subst this
        go_enter Try.func21, Try.ntmps21
        go_wp2
        go_loop [5] (fun i => i = .int .i64 0) (fun _ => 0)
        case atStart => rfl
        case round =>
          subst hrel
          go_wp2
          go_ret
          exact ⟨by simp, Below.refl _ _⟩
      · have hne : ((zs.length : Int) != (ys.length : Int)) = false := by simp; omega
        have HL : Hid (zs.length = ys.length) := hl
        clear hl
        go_enter Try.func21, Try.ntmps21
        go_wp2
        go_loopw [5] (fun i wr => ∃ k : Nat, k ≤ zs.length ∧ i = .int .i64 k ∧ Hid (∀ j, j < k → zs.getD j 0 = ys.getD j 0) ∧ Below w.heap.size w wr) (fun i _ => zs.length - (intOf i).toNat)
        case atStart => exact ⟨0, Nat.zero_le _, rfl, fun j hj => absurd hj (by omega), Below.refl _ _⟩
        case round =>
          obtain ⟨k, hk, rfl, hsame, hnx⟩ := hrel
          by_cases hlt : k < zs.length
          · have hlt' : k < ys.length := by have := HL.out; omega
            have g1 : wr.cell? ⟨b, off + k, none⟩ = some (.int .u8 (zs.getD k 0)) := (hnx.cell (p := ⟨b, off + k, none⟩) hb).trans (hc k hlt)
            have g2 : wr.cell? ⟨b', off' + k, none⟩ = some (.int .u8 (ys.getD k 0)) := (hnx.cell (p := ⟨b', off' + k, none⟩) hb').trans (hc' k hlt')
            clear hc hc'
            go_wp2
            go_quiet (fail)
            go_wp2
            · go_ret
              exact ⟨ret_bool (neq_of hlt hlt' ‹_›).symm, below_drewN hnx _⟩
            · go_roundw
              case rel => exact ⟨k + 1, by omega, by go_num, same_succ hsame.out hlt hlt' ‹_›, below_drewN hnx _⟩
              case measure => simp [intOf]; omega
          · go_wp2
            go_ret
            exact ⟨ret_bool (same_all HL.out (by intro j hj; exact hsame.out j (by omega))).symm, hnx⟩
  · have hne : ((zs.length : Int) != (ys.length : Int)) = true := by simp; omega
    go_enter Try.func21, Try.ntmps21
    go_wp2
    go_ret
    exact ⟨by simp; intro h; exact hl (by rw [h]), Below.refl _ _⟩

/-- 'append(s, x...)' of bytes behind a row of the call's own. -/
theorem appRow {w0 : World} {ops : Array Oper} {rest : List Oper} {o : Oper} {ac : Act} {Q : Exit → Act → World → Prop} (hgd : o.guard = none) (s x : Operand) (t : TypeId)
    (ho : o.op = .call { callee := .builtin .append, args := #[s, x], argTypes := #[t, t] })
    (e : TypeId) (ht : Try.prog.underlying t = some (.slice e)) (hinfo : (Try.prog.info? e).map (fun i => (i.zero, i.size, i.bytes)) = some (some (.int .u8 0), 1, 1))
    (base : Nat) (sv : Value) (ys : List Int) (ad : Addr) (n c : Nat) (zs : List Int) (hs : ac.eval s = sv) (hown : w0.ownsRow base e 1 sv ys.length (vals .u8 ys)) (hx : ac.eval x = .slice (some ad) n c) (hnz : n = zs.length) (hn : zs.length ≤ 10000) (hny : ys.length ≤ 10000) (hne : zs ≠ []) (hr : RowAt .u8 w0 (some ad) zs) (hb : base ≤ w0.heap.size)
    (h : ∀ a' c' w', w'.ownsRow base e 1 (.slice a' (ys ++ zs).length c') (ys ++ zs).length (vals .u8 (ys ++ zs)) → Below base w0 w' → wpList Try.prog ops Q rest (ac.put o.dst (.slice a' (ys ++ zs).length c')) w') :
    wpList Try.prog ops Q (o :: rest) ac w0 := by
  subst hnz
  obtain ⟨i0, hi, hz0, hz1, hz2⟩ := info_parts hinfo
  refine wpList_append_own w0 hgd s x t ho base e i0 (.int .u8 0) 1 1 ht hi hz0 hz1 hz2 rfl (by decide) sv ys.length (vals .u8 ys) hs hown ad zs.length c (vals .u8 zs) hx (by simp [vals]) ?_ ?_ ?_ ?_ hb ?_
  · intro j u hj
    have hjl : j < zs.length := by
      by_cases hp : j < zs.length
      · exact hp
      · rw [List.getElem?_eq_none (by rw [vals_length]; omega)] at hj; cases hj
    obtain ⟨b, off, h1, h2, h3⟩ := hr.resolve_left hne
    have e1 := Option.some.inj h1
    subst e1
    have hu : u = .int .u8 (zs.getD j 0) := by
      simp [vals, hjl] at hj
      rw [← hj, List.getD_eq_getElem?_getD, List.getElem?_eq_getElem hjl]
      rfl
    rw [hu, Addr.add_lit]
    exact h3 j hjl
  · intro u hu
    simp [vals] at hu
    obtain ⟨z, _, rfl⟩ := hu
    rfl
  · unfold maxLen; omega
  · omega
  · intro v' w' hown' hgrow _
    have hown2 : w'.ownsRow base e 1 v' (ys ++ zs).length (vals .u8 (ys ++ zs)) := by
      rw [List.length_append]
      simpa [vals] using hown'
    obtain ⟨a', c', rfl, -, -, -⟩ := own_row hown2
    refine h a' c' w' hown2 ?_
    refine (Below.refl _ _).grown hgrow hb (fun k hk => ?_)
    rcases hown.2 with ⟨h1, _⟩ | ⟨g, cap, cur, h1, h2, _⟩
    · rw [h1] at hk; simp [Value.ownBlock] at hk
    · rw [h1] at hk; simp [Value.ownBlock] at hk; omega

/-- A drawn Big: what DrawBigText hands back. -/
def DrawTOut (w : World) (e : Ending) (w' : World) : Prop :=
  ∃ (G : Bool) (a : Option Addr) (c : Nat) (zs : List Int), e = .returned (.agg #[.bool G, .slice a zs.length c]) ∧ NewBig w 513 G a c zs w'

set_option maxRecDepth 100000 in
set_option maxHeartbeats 4000000 in
theorem drawT_any (a : Option Addr) (c : Nat) (bs : List Int) (w : World) (hn : bs.length ≤ 1048576) (hc : bs.length ≤ c) (hcm : c ≤ maxLen) (hnil : a = none → c = 0) (hr : RowAt .u8 w a bs) (hb : Dig 256 bs) :
    Calls Try.prog 15 #[.slice a bs.length c] w fun e w' => DrawTOut w e w' := by
  go_enter Try.func15, Try.ntmps15
  go_wp2_with fail
  refine (open_any a c bs _ hn hc hcm hnil (hr.later (bel0 _ _)) hb).mono ?_
  rintro e w1 ho
  have Y1 : Hid (Ry w w.heap.size (w.heap.size + 1) w1) := Ry.start ho
  obtain ⟨rfl, _, _, _⟩ := ho
  have e1 : (w.alloc (.cells #[.bool false, .slice none 0 0] 26)).heap.size = w.heap.size + 1 := by simp
  rw [e1]
  clear e1
  go_wp2_with fail
  refine (drawAny_any _ _ Y1.out.rd).mono ?_
  rintro e w4 ⟨G, a4, c4, zs, rfl, hn4, hu4, hown4, hr4, ha4⟩
  have Y4 : Hid (Ry w w.heap.size (w.heap.size + 1) w4) := Y1.out.aside ha4 hr4
  have HN : Hid (NewBig w 513 G a4 c4 zs ((w4.setCell ⟨w.heap.size, 0, none⟩ (.bool G)).setCell ⟨w.heap.size, 1, none⟩ (.slice a4 zs.length c4))) := Y1.out.out ha4 hown4 hu4 hn4
  have r1 := Y4.out.r1
  have r2 := Y4.out.r2
  have r3 := Y4.out.r3
  have zz : w.heap.size < w4.heap.size := by have := Y4.out.ord; omega
  clear hown4 hr4 ha4 Y1 hu4
  go_wp2
  refine bodyPost_ret (v := .agg #[.bool G, .slice a4 zs.length c4]) (by simp [results, Try.results15, go_sem, r1, r2]) rfl ?_
  exact ⟨G, a4, c4, zs, rfl, HN.out⟩

end Go.Proofs.Ytlbegmepmeimkab
