/-
  Bytes behind bytes: appending, numbers with their lowest byte first; the model's l6little and l6point.
-/
import Derived.Test.YtcjdnomhnlbmbaaBytes
import Derived.Test.YtcjdnomhnlbmbaaGrow
import Derived.Test.YtcjdnomhnlbmbaaOff
namespace Go.Proofs.Ytcjdnomhnlbmbaa
open Go.RowKit

/-- v without its lowest i bytes. -/
def divB (v : Int) : Nat → Int
  | 0 => v
  | i + 1 => divB v i / 256
/-- The lowest i bytes of v, the lowest first. -/
def leB (v : Int) : Nat → List Int
  | 0 => []
  | i + 1 => leB v i ++ [divB v i % 256]
def ptB (x y z : Int) : List Int := leB x 4 ++ leB y 4 ++ leB z 4

theorem leB_length (v : Int) : ∀ n, (leB v n).length = n
  | 0 => rfl
  | n + 1 => by simp [leB, leB_length v n]
theorem divB_nonneg {v : Int} (h : 0 ≤ v) : ∀ n, 0 ≤ divB v n
  | 0 => h
  | n + 1 => Int.ediv_nonneg (divB_nonneg h n) (by decide)
theorem divB_le {v : Int} (h : 0 ≤ v) : ∀ n, divB v n ≤ v
  | 0 => Int.le_refl _
  | n + 1 => Int.le_trans (Int.ediv_le_self _ (divB_nonneg h n)) (divB_le h n)
theorem ptB_length (x y z : Int) : (ptB x y z).length = 12 := by simp [ptB, leB_length]

/-- A slice of bytes of the call's own. -/
def OwnY (w : World) (base : Nat) (v : Value) (ys : List Int) : Prop := w.ownsRow base 5 1 v ys.length (vals .u8 ys)

theorem OwnY.later {w w' : World} {base : Nat} {v : Value} {ys : List Int} (h : OwnY w base v ys) (hb : Below w.heap.size w w') : OwnY w' base v ys := own_later h hb

theorem OwnY.nil (w : World) (base : Nat) : OwnY w base (.slice none 0 0) [] := own_nil _ _ _ _

theorem OwnY.row {w : World} {base : Nat} {v : Value} {ys : List Int} (h : OwnY w base v ys) : ∃ a c, v = .slice a ys.length c ∧ RowNew .u8 w base a ys := by
  obtain ⟨a, c, h1, _, _, h2⟩ := own_row h
  exact ⟨a, c, h1, h2⟩

theorem OwnY.spot {w : World} {base : Nat} {v : Value} {ys : List Int} (h : OwnY w base v ys) (hne : ys ≠ []) : ∃ b off c, v = .slice (some ⟨b, off, none⟩) ys.length c ∧ RowNew .u8 w base (some ⟨b, off, none⟩) ys := by
  obtain ⟨a, c, h1, h2⟩ := h.row
  rcases h2 with h2 | ⟨b, off, rfl, h3⟩
  · exact absurd h2 hne
  · exact ⟨b, off, c, h1, .inr ⟨b, off, rfl, h3⟩⟩

theorem infoB : (Try.prog.info? 5).map (fun i => (i.zero, i.size, i.bytes)) = some (some (.int .u8 0), 1, 1) := by kernel_rfl

/-- 'append(s, x...)' of bytes behind a row of the call's own. -/
theorem appB {w0 : World} {ops : Array Oper} {rest : List Oper} {o : Oper} {ac : Act} {Q : Exit → Act → World → Prop} (hgd : o.guard = none) (s x : Operand)
    (ho : o.op = .call { callee := .builtin .append, args := #[s, x], argTypes := #[22, 22] })
    (base : Nat) (sv : Value) (ys : List Int) (ad : Addr) (n c : Nat) (zs : List Int) (hs : ac.eval s = sv) (hown : OwnY w0 base sv ys) (hx : ac.eval x = .slice (some ad) n c) (hnz : n = zs.length) (hn : zs.length ≤ 2000000) (hny : ys.length ≤ 2000000) (hne : zs ≠ []) (hr : RowAt .u8 w0 (some ad) zs) (hb : base ≤ w0.heap.size)
    (h : ∀ a' n' c' w', OwnY w' base (.slice a' n' c') (ys ++ zs) → Below base w0 w' → wpList Try.prog ops Q rest (ac.put o.dst (.slice a' n' c')) w') :
    wpList Try.prog ops Q (o :: rest) ac w0 := by
  subst hnz
  obtain ⟨i0, hi, hz0, hz1, hz2⟩ := info_parts infoB
  refine wpList_append_own w0 hgd s x 22 ho base 5 i0 (.int .u8 0) 1 1 Try.underlying22 hi hz0 hz1 hz2 rfl (by decide) sv ys.length (vals .u8 ys) hs hown ad zs.length c (vals .u8 zs) hx (by simp [vals]) ?_ ?_ ?_ ?_ hb ?_
  · intro j u hj
    have hjl : j < zs.length := by
      by_cases hp : j < zs.length
      · exact hp
      · rw [List.getElem?_eq_none (by rw [vals_length]; omega)] at hj; cases hj
    obtain ⟨b, off, h1, h2, h3⟩ := hr.resolve_left hne
    have e1 := Option.some.inj h1
    subst e1
    have hu : u = .int .u8 (zs.getD j 0) := by
      simp [vals, hjl] at hj
      rw [← hj, List.getD_eq_getElem?_getD, List.getElem?_eq_getElem hjl]
      rfl
    rw [hu, Addr.add_lit]
    exact h3 j hjl
  · intro u hu
    simp [vals] at hu
    obtain ⟨z, _, rfl⟩ := hu
    rfl
  · unfold maxLen; omega
  · omega
  · intro v' w' hown' hgrow _
    have hown2 : w'.ownsRow base 5 1 v' (ys ++ zs).length (vals .u8 (ys ++ zs)) := by
      rw [List.length_append]
      simpa [vals] using hown'
    obtain ⟨a', c', rfl, -, -, -⟩ := own_row hown2
    refine h a' _ c' w' hown2 ?_
    refine (Below.refl _ _).grown hgrow hb (fun k hk => ?_)
    rcases hown.2 with ⟨h1, _⟩ | ⟨g, cap, cur, h1, h2, _⟩
    · rw [h1] at hk; simp [Value.ownBlock] at hk
    · rw [h1] at hk; simp [Value.ownBlock] at hk; omega

/-- What a function answers that makes a list of bytes. -/
def NewY (w : World) (ys : List Int) (e : Ending) (w' : World) : Prop := ∃ v, e = .returned v ∧ OwnY w' w.heap.size v ys ∧ Below w.heap.size w w'

set_option maxRecDepth 100000 in
set_option maxHeartbeats 2000000 in
theorem little_any (v : Int) (n : Nat) (w : World) (h0 : 0 ≤ v) (h1 : v ≤ 4294967295) (hn : n ≤ 8) :
    Calls Try.prog 78 #[.int .i64 v, .int .i64 n] w fun e w' => NewY w (leB v n) e w' := by
  go_enter Try.func78, Try.ntmps78
  go_wp2
  go_loopw [0, 5, 6] (fun sv so si wr => ∃ (i : Nat), i ≤ n ∧ si = .int .i64 i ∧ sv = .int .i64 (divB v i) ∧ Hid (OwnY wr w.heap.size so (leB v i)) ∧ Hid (Below w.heap.size w wr)) (fun _ _ si _ => n - (intOf si).toNat)
  case atStart => exact ⟨0, Nat.zero_le _, rfl, rfl, OwnY.nil _ _, Below.refl _ _⟩
  case round =>
    obtain ⟨i, hi, rfl, rfl, hO, hb⟩ := hrel
    by_cases hlt : i < n
    · have hib : (i : Int) < n := by omega
      have d0 := divB_nonneg h0 i
      have d1 := divB_le h0 i
      have hown := hO.out
      have hsz := hb.out.size
      have HD : Hid (divB v (i + 1) = divB v i / 256) := rfl
      have HE : Hid (leB v (i + 1) = leB v i ++ [divB v i % 256]) := rfl
      have hll : (leB v i).length ≤ 8388608 := by rw [leB_length]; omega
      obtain ⟨d, hd⟩ : ∃ d, d = divB v i := ⟨_, rfl⟩
      rw [← hd] at d0 d1 HD HE ⊢
      have ht : d.tmod 256 = d % 256 := Int.tmod_eq_emod_of_nonneg d0
      have hq : d.tdiv 256 = d / 256 := Int.tdiv_eq_ediv_of_nonneg d0
      have hm0 : 0 ≤ d % 256 := by omega
      have hm1 : d % 256 < 256 := by omega
      obtain ⟨m, hm⟩ : ∃ m, m = d % 256 := ⟨_, rfl⟩
      rw [← hm] at hm0 hm1 ht HE
      clear hO hd hm
      go_wp2_with (at_builtin; refine app1 rfl (.tmp 12) (.tmp 16) 22 rfl w.heap.size 5 Try.underlying22 infoB (by decide) _ _ rfl rfl hown hll hsz ?_; intro a1 n1 c1 w1 hown1 hb1 hs1)
      have HO1 : Hid (OwnY w1 w.heap.size (.slice a1 n1 c1) (leB v (i + 1))) := by unfold Hid; rw [HE.out]; exact hown1
      have HB1 : Hid (Below w.heap.size w w1) := hb.out.trans hb1
      clear hown1 hb1 hb hown
      go_roundw
      case rel => exact ⟨i + 1, by omega, by go_num, by rw [HD.out], HO1, HB1⟩
      case measure => simp [intOf]; omega
    · have hie : i = n := by omega
      subst hie
      go_wp2
      go_ret
      exact ⟨_, rfl, hO.out, hb.out⟩

end Go.Proofs.Ytcjdnomhnlbmbaa
