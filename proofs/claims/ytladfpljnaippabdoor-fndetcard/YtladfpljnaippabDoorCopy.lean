/-
  The laws' own helpers: a copy of a Big, whether two are the same, a byte of a code.
-/
import Derived.Test.YtladfpljnaippabDoorBigs
import Derived.Test.YtladfpljnaippabDoorBox
import Derived.Test.YtladfpljnaippabDoorBox1
import Derived.Laws.AppendOwnNone
namespace Go.Proofs.YtladfpljnaippabDoor
open Go.RowKit

/-- A slice that is nil, or not. -/
def Nil0 (a : Option Addr) (c : Nat) : Prop := a = none → c = 0

theorem own_nil0 {X : World} {base : Nat} {e : TypeId} {a : Option Addr} {n c : Nat} {xs : List Value} (h : X.ownsRow base e 1 (.slice a n c) n xs) : Nil0 a c := by
  intro ha
  rcases h.2 with ⟨h1, _⟩ | ⟨g, cap, cur, h1, _⟩
  · injection h1
  · injection h1 with e1
    rw [ha] at e1
    cases e1

/-- 'append(nil, s...)' of a slice of numbers. -/
theorem appNil {k : IntKind} {bytes : Nat} {w0 : World} {ops : Array Oper} {rest : List Oper} {o : Oper} {ac : Act} {Q : Exit → Act → World → Prop} (hgd : o.guard = none) (s x : Operand) (t : TypeId)
    (ho : o.op = .call { callee := .builtin .append, args := #[s, x], argTypes := #[t, t] })
    (e : TypeId) (ht : Tryd.prog.underlying t = some (.slice e)) (hinfo : (Tryd.prog.info? e).map (fun i => (i.zero, i.size, i.bytes)) = some (some (.int k 0), 1, bytes)) (hby : bytes ≤ 8)
    (a : Option Addr) (c : Nat) (zs : List Int) (hs : ac.eval s = .slice none 0 0) (hx : ac.eval x = .slice a zs.length c) (hn : zs.length ≤ 8388608) (hnil : Nil0 a c) (hc : zs.length ≤ c) (hr : RowAt k w0 a zs)
    (h : ∀ a' c' w', w'.ownsRow w0.heap.size e 1 (.slice a' zs.length c') zs.length (vals k zs) → Below w0.heap.size w0 w' → wpList Tryd.prog ops Q rest (ac.put o.dst (.slice a' zs.length c')) w') :
    wpList Tryd.prog ops Q (o :: rest) ac w0 := by
  obtain ⟨i0, hi, hz0, hz1, hz2⟩ := info_parts hinfo
  cases a with
  | none =>
    have h0 := hnil rfl
    subst h0
    have hz : zs = [] := List.length_eq_zero_iff.1 (by omega)
    subst hz
    exact wpList_append_own_none (w := w0) hgd s x t ho w0.heap.size e i0 1 ht hi (.slice none 0 0) 0 [] hs (own_nil w0 w0.heap.size e k) hx (h none 0 w0 (own_nil _ _ _ _) (Below.refl _ _))
  | some ad =>
    have hb1 : zs.length * bytes ≤ zs.length * 8 := Nat.mul_le_mul_left _ hby
    refine wpList_append_own w0 hgd s x t ho w0.heap.size e i0 (.int k 0) 1 bytes ht hi hz0 hz1 hz2 rfl (by decide) (.slice none 0 0) 0 [] hs (own_nil w0 w0.heap.size e k) ad zs.length c (vals k zs) hx (by simp [vals]) ?_ ?_ ?_ ?_ (Nat.le_refl _) ?_
    · intro j u hj
      have hjl : j < zs.length := by
        by_cases hp : j < zs.length
        · exact hp
        · rw [List.getElem?_eq_none (by rw [vals_length]; omega)] at hj; cases hj
      rcases hr with hr | ⟨b, off, h1, h2, h3⟩
      · rw [hr] at hjl; simp at hjl
      · have e1 := Option.some.inj h1
        subst e1
        have hu : u = .int k (zs.getD j 0) := by
          simp [vals, hjl] at hj
          rw [← hj, List.getD_eq_getElem?_getD, List.getElem?_eq_getElem hjl]
          rfl
        rw [hu]
        have h4 := h3 j hjl
        by_cases e : j = 0
        · subst e; simpa [Addr.add] using h4
        · simpa [Addr.add, e] using h4
    · intro u hu
      simp [vals] at hu
      obtain ⟨z, _, rfl⟩ := hu
      rfl
    · unfold maxLen; omega
    · rw [Nat.zero_add]; omega
    · intro v' w' hown hgrow _
      rw [Nat.zero_add, List.nil_append] at hown
      obtain ⟨a', c', rfl⟩ : ∃ a' c', v' = .slice a' zs.length c' := by
        rcases hown.2 with ⟨h1, h2⟩ | ⟨g, cap, cur, h1, _⟩
        · rw [h2]; exact ⟨_, _, h1⟩
        · exact ⟨_, _, h1⟩
      refine h a' c' w' hown ?_
      exact ⟨hgrow.os, hgrow.tape, hgrow.output, hgrow.size, fun k hk => hgrow.block k hk (by simp [Value.ownBlock])⟩

/-- What copyBig hands back. -/
def CopyOut (w : World) (g : Bool) (zs : List Int) (e : Ending) (w' : World) : Prop :=
  ∃ (a : Option Addr) (c : Nat), e = .returned (.agg #[.bool g, .slice a zs.length c]) ∧ zs.length ≤ c ∧ c ≤ maxLen ∧ Nil0 a c ∧ RowNew .u32 w' w.heap.size a zs ∧ Below w.heap.size w w'

set_option maxHeartbeats 2000000 in
theorem copy_any (g : Bool) (a : Option Addr) (c : Nat) (zs : List Int) (w : World) (hn : zs.length ≤ 1000000) (hnil : Nil0 a c) (hc : zs.length ≤ c) (hz : RowAt .u32 w a zs) :
    Calls Tryd.prog 14 #[.agg #[.bool g, .slice a zs.length c]] w fun e w' => CopyOut w g zs e w' := by
  have B0 : Hid (∀ t t', Bx1 w (.bool g) (.slice a zs.length c) ((w.alloc (.cells #[.bool g, .slice a zs.length c] t)).alloc (.cells #[.bool false, .slice none 0 0] t'))) := fun t t' => Bx1.start w _ _ _ _
  have HZ : Hid (∀ t t', RowAt .u32 ((w.alloc (.cells #[.bool g, .slice a zs.length c] t)).alloc (.cells #[.bool false, .slice none 0 0] t')) a zs) := fun t t' => hz.later (bel2 _ _ _)
  go_enter Tryd.func14, Tryd.ntmps14
  go_wp2_with (at_builtin; refine appNil rfl (.tmp 4) (.tmp 6) 25 rfl 33 Tryd.underlying25 Tryd.info33 (by decide) a c zs rfl rfl (by omega) hnil hc (HZ.out _ _) ?_; intro a1 c1 w1 hown1 hb1; have F1 := (B0.out _ _).later hb1; have s0 := F1.q0; have r1 := F1.r1; have r2 := F1.r2; have r3 := F1.r3)
  obtain ⟨a2, c2, e2, hcm, hsl, hrn⟩ := own_row hown1
  injection e2 with e3 e4 e5
  subst e3 e5
  refine bodyPost_ret (v := .agg #[.bool g, .slice a1 zs.length c1]) (by simp [results, Tryd.results14, go_sem, r1, r2]) rfl ?_
  simp at hrn
  refine ⟨a1, c1, rfl, hsl.fits, hcm, hsl.nil, ?_, ?_⟩
  · exact ((hrn.setLow (by simp) _).setLow (by simp) _).down (by omega)
  · exact (F1.bel.setCell (by simp) _).setCell (by simp) _

set_option maxHeartbeats 1000000 in
theorem same_any (g : Bool) (a a' : Option Addr) (c c' : Nat) (zs : List Int) (w : World) (hn : zs.length ≤ maxLen) (hz : RowAt .u32 w a zs) (hy : RowAt .u32 w a' zs) :
    Calls Tryd.prog 11 #[.agg #[.bool g, .slice a zs.length c], .agg #[.bool g, .slice a' zs.length c']] w fun e w' => e = .returned (.bool true) ∧ Below w.heap.size w w' := by
  unfold maxLen at hn
  have hgg : (g != g) = false := by simp
  have hll : ((zs.length : Int) != zs.length) = false := by simp
  have B0 : Hid (∀ t t', Bx2 w (.bool g) (.slice a zs.length c) (.bool g) (.slice a' zs.length c') ((w.alloc (.cells #[.bool g, .slice a zs.length c] t)).alloc (.cells #[.bool g, .slice a' zs.length c'] t'))) := fun t t' => Bx2.start w _ _ _ _ _ _
  go_enter Tryd.func11, Tryd.ntmps11
  go_wp2
  obtain ⟨W0, hW0⟩ : ∃ W0, W0 = ((w.alloc (.cells #[.bool g, .slice a zs.length c] 27)).alloc (.cells #[.bool g, .slice a' zs.length c'] 27)) := ⟨_, rfl⟩
  have F : Hid (Bx2 w (.bool g) (.slice a zs.length c) (.bool g) (.slice a' zs.length c') W0) := by unfold Hid; rw [hW0]; exact B0.out _ _
  rw [← hW0]
  clear hW0 B0
  go_loopw [5] (fun i wr => ∃ k : Nat, k ≤ zs.length ∧ i = .int .i64 k ∧ Below W0.heap.size W0 wr) (fun i _ => zs.length - (intOf i).toNat)
  case atStart => exact ⟨0, Nat.zero_le _, rfl, Below.refl _ _⟩
  case round =>
    obtain ⟨k, hk, rfl, hnx⟩ := hrel
    have F1 : Hid (Bx2 w (.bool g) (.slice a zs.length c) (.bool g) (.slice a' zs.length c') wr) := F.out.later hnx
    have s1 := F1.out.q1
    have s3 := F1.out.q3
    have HN : Hid (Below W0.heap.size W0 wr) := hnx
    by_cases hlt : k < zs.length
    · obtain ⟨b, off, rfl, g1⟩ := row_cell hz F1.out.bel hlt
      obtain ⟨b', off', rfl, g2⟩ := row_cell hy F1.out.bel hlt
      obtain ⟨x, hx⟩ : ∃ x, x = zs.getD k 0 := ⟨_, rfl⟩
      rw [← hx] at g1 g2
      have hxx : (x != x) = false := by simp
      have hki : (k : Int) < zs.length := by omega
      clear hz hy hx F F1 hnx
      go_wp2
      go_quiet (fail)
      go_wp2
      go_roundw
      case rel => exact ⟨k + 1, by omega, by go_num, below_drewN HN.out _⟩
      case measure => simp [intOf]; omega
    · have hkn : k = zs.length := by omega
      subst hkn
      have HB : Hid (Below w.heap.size w wr) := F1.out.bel
      clear hz hy F F1 hnx
      go_wp2
      go_ret
      exact ⟨rfl, HB.out⟩

end Go.Proofs.YtladfpljnaippabDoor
