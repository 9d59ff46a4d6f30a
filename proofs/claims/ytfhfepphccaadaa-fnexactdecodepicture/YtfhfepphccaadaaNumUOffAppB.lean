/-
  Plain mathematics: the decimal digits of a number, all of them; the text of a number.
-/
import Derived.Test.YtfhfepphccaadaaBytesGrow2NumT
import Derived.Test.YtfhfepphccaadaaGrow
namespace Go.Proofs.Ytfhfepphccaadaa

/-- The decimal digits of n as bytes, the lowest first. -/
def decs (n : Int) : List Int := decF n.toNat n

theorem lt_ten (n : Int) : n < (10 ^ n.toNat : Nat) := by
  have h : n.toNat < 10 ^ n.toNat := Nat.lt_pow_self (by decide)
  omega

theorem decs_eq {f : Nat} {n : Int} (h : n < (10 ^ f : Nat)) : decs n = decF f n := decF_more _ _ _ (lt_ten n) h

theorem decs_none {n : Int} (h : n ≤ 0) : decs n = [] := by
  rw [decs_eq (f := 0) (by simp; omega)]; rfl

theorem decs_step {n : Int} (h : 0 < n) : decs n = (48 + n % 10) :: decs (n / 10) := by
  have h1 : n < (10 ^ (n.toNat + 1) : Nat) := by
    have := lt_ten n
    have h2 : 10 ^ n.toNat ≤ 10 ^ (n.toNat + 1) := Nat.pow_le_pow_right (by decide) (by omega)
    omega
  have h3 : n / 10 < (10 ^ n.toNat : Nat) := by
    have := lt_ten n
    omega
  rw [decs_eq h1, decs_eq h3]
  simp only [decF]
  rw [if_neg (by omega)]

theorem decF_length : ∀ (f : Nat) (n : Int), (decF f n).length ≤ f
  | 0, _ => Nat.le_refl 0
  | f + 1, n => by
    have := decF_length f (n / 10)
    simp only [decF]
    split
    · simp
    · simp; omega

theorem decs_length {f : Nat} {n : Int} (h : n < (10 ^ f : Nat)) : (decs n).length ≤ f := by
  rw [decs_eq h]; exact decF_length f n

/-- The text of a number with the sign g and the magnitude n. -/
def textL (g : Bool) (n : Int) : List Int := if n = 0 then [48] else (decs n ++ if g then [45] else []).reverse

/-- f digits of n, also where they are zeros. -/
def padF : Nat → Int → List Int
  | 0, _ => []
  | f + 1, n => (48 + n % 10) :: padF f (n / 10)

theorem padF_length : ∀ (f : Nat) (n : Int), (padF f n).length = f
  | 0, _ => rfl
  | f + 1, n => by simp [padF, padF_length f]

theorem padF_snoc : ∀ (f : Nat) (n : Int), padF (f + 1) n = padF f n ++ [48 + n / (10 ^ f : Nat) % 10]
  | 0, n => by simp [padF]
  | f + 1, n => by
    rw [padF, padF_snoc f (n / 10), padF, List.cons_append]
    rw [Int.ediv_ediv_of_nonneg (by decide), Nat.pow_succ, Nat.mul_comm]
    rfl

theorem padF_add : ∀ (f g : Nat) (n : Int), padF (f + g) n = padF f n ++ padF g (n / (10 ^ f : Nat))
  | 0, g, n => by simp [padF]
  | f + 1, g, n => by
    rw [show f + 1 + g = f + g + 1 by omega, padF, padF_add f g (n / 10), padF, List.cons_append, Int.ediv_ediv_of_nonneg (by decide), Nat.pow_succ, Nat.mul_comm (10 ^ f) 10]
    rfl

/-- Without the zeros behind. -/
def strip : List Int → List Int
  | [] => []
  | t :: ts => if strip ts = [] ∧ t = 48 then [] else t :: strip ts

theorem decF_nil {f : Nat} {n : Int} (h : n < (10 ^ f : Nat)) : decF f n = [] ↔ n ≤ 0 := by
  cases f with
  | zero => simp [decF]; simp at h; omega
  | succ f =>
    simp only [decF]
    split
    · simp; omega
    · simp; omega

theorem strip_decF : ∀ (f : Nat) (n : Int), 0 ≤ n → n < (10 ^ f : Nat) → strip (padF f n) = decF f n
  | 0, _, _, _ => rfl
  | f + 1, n, h0, h1 => by
    have h2 : n / 10 < (10 ^ f : Nat) := by rw [Nat.pow_succ] at h1; omega
    simp only [padF, strip, decF]
    rw [strip_decF f (n / 10) (by omega) h2]
    have h3 := decF_nil h2
    by_cases e : n ≤ 0
    · rw [if_pos ⟨h3.2 (by omega), by omega⟩, if_pos e]
    · rw [if_neg (fun h => by have := h3.1 h.1; have := h.2; omega), if_neg e]

theorem strip_decs {f : Nat} {n : Int} (h0 : 0 ≤ n) (h1 : n < (10 ^ f : Nat)) : strip (padF f n) = decs n := by
  rw [strip_decF f n h0 h1, decs_eq h1]

theorem strip_snoc (t : Int) : ∀ ts : List Int, strip (ts ++ [t]) = if t = 48 then strip ts else ts ++ [t]
  | [] => by simp [strip]
  | u :: ts => by
    simp only [List.cons_append, strip, strip_snoc t ts]
    by_cases e : t = 48
    · simp [e]
    · simp [e]

end Go.Proofs.Ytfhfepphccaadaa

/-
  Rows that lie beside a slice that grows.
-/
namespace Go.Proofs.Ytfhfepphccaadaa
open Go.RowKit

/-- The row lies in another block than the slice v. -/
def Off (v : Value) (a : Option Addr) (zs : List Int) : Prop := zs = [] ∨ ∀ p, a = some p → v.ownBlock ≠ some p.block

theorem own_later {w w' : World} {base : Nat} {e : TypeId} {v : Value} {n : Nat} {xs : List Value} (h : w.ownsRow base e 1 v n xs) (hb : Below w.heap.size w w') : w'.ownsRow base e 1 v n xs := by
  refine ⟨h.1, ?_⟩
  rcases h.2 with h1 | ⟨g, cap, cur, h1, h2, h3, h4⟩
  · exact .inl h1
  · have hg : g < w.heap.size := by
      by_cases hp : g < w.heap.size
      · exact hp
      · rw [Array.getElem?_eq_none (by omega)] at h3; cases h3
    exact .inr ⟨g, cap, cur, h1, h2, (hb.block g hg).trans h3, h4⟩

theorem own_block {w : World} {base : Nat} {e : TypeId} {v : Value} {n : Nat} {xs : List Value} (h : w.ownsRow base e 1 v n xs) {j : Nat} (hj : v.ownBlock = some j) : j < w.heap.size := by
  rcases h.2 with ⟨h1, _⟩ | ⟨g, cap, cur, h1, h2, h3, h4⟩
  · rw [h1] at hj; simp [Value.ownBlock] at hj
  · rw [h1] at hj
    simp [Value.ownBlock] at hj
    subst hj
    by_cases hp : g < w.heap.size
    · exact hp
    · rw [Array.getElem?_eq_none (by omega)] at h3; cases h3

theorem Off.new {k : IntKind} {w w' : World} {base : Nat} {e : TypeId} {v : Value} {n : Nat} {xs : List Value} {a : Option Addr} {zs : List Int} (h : w.ownsRow base e 1 v n xs) (hr : RowNew k w' w.heap.size a zs) : Off v a zs := by
  rcases hr with hr | ⟨b, off, rfl, hB, _⟩
  · exact .inl hr
  · refine .inr fun p hp hv => ?_
    injection hp with hp
    subst hp
    have := own_block h hv
    simp at this
    omega

theorem Off.stay {k : IntKind} {w w' : World} {v v' : Value} {a : Option Addr} {zs : List Int} (h : Off v a zs) (hr : RowAt k w a zs) (hs : w.heap.size ≤ w'.heap.size) (hk : ∀ j, j < w.heap.size → v.ownBlock ≠ some j → w'.heap[j]? = w.heap[j]?) (hv : v'.ownBlock = v.ownBlock ∨ ∃ j, v'.ownBlock = some j ∧ w.heap.size ≤ j) : RowAt k w' a zs ∧ Off v' a zs := by
  rcases hr with hr | ⟨b, off, rfl, hb, hc⟩
  · exact ⟨.inl hr, .inl hr⟩
  · rcases h with h | h
    · exact ⟨.inl h, .inl h⟩
    · have hne := h _ rfl
      simp at hne
      refine ⟨.inr ⟨b, off, rfl, by omega, fun j hj => ?_⟩, .inr fun p hp hv' => ?_⟩
      · rw [World.cell?_of_block (w := w) (hk b hb hne)]; exact hc j hj
      · injection hp with hp
        subst hp
        simp at hv'
        rcases hv with hv | ⟨j, hj, hle⟩
        · rw [hv] at hv'; exact hne hv'
        · rw [hj] at hv'; injection hv' with hv'; omega

theorem Off.none (a : Option Addr) (zs : List Int) (n c : Nat) : Off (.slice none n c) a zs := .inr fun p _ h => by simp [Value.ownBlock] at h

/-- Numbers with a sign that are one number. -/
theorem sg_inj {g g' : Bool} {n m : Int} (h : (if g then -n else n) = (if g' then -m else m)) (hn : 0 ≤ n) (hm : 0 ≤ m) : n = m := by
  cases g <;> cases g' <;> simp at h <;> omega

theorem val_fitsK {zs : List Int} {K M : Nat} (h : Dig 4294967296 zs) (hn : zs.length ≤ K) (hK : 4294967296 ^ K ≤ M) : val 4294967296 zs < (M : Nat) := by
  have h1 := val_lt_pow (by decide) h
  have e : (4294967296 : Int) = ((4294967296 : Nat) : Int) := rfl
  have h2 : (4294967296 : Nat) ^ zs.length ≤ M := Nat.le_trans (Nat.pow_le_pow_right (by decide) hn) hK
  rw [e, ← Int.natCast_pow] at h1
  exact Int.lt_of_lt_of_le h1 (Int.ofNat_le.2 h2)

theorem val_fits {zs : List Int} (h : Dig 4294967296 zs) (hn : zs.length ≤ 512) : val 4294967296 zs < (10 ^ 5000 : Nat) := val_fitsK h hn (by decide +kernel)

theorem one_new {k : IntKind} (w : World) (x : Int) (t : TypeId) {B : Nat} (hB : B ≤ w.heap.size) : RowNew k (w.alloc (.cells #[.int k x] t)) B (some ⟨w.heap.size, 0, none⟩) [x] := by
  refine .inr ⟨_, 0, rfl, hB, by simp, fun j hj => ?_, fun j hj => ?_⟩
  · have : j = 0 := by simpa using hj
    subst this
    simp [go_sem]
  · have : j = 0 := by simpa using hj
    subst this
    simp [go_sem]

end Go.Proofs.Ytfhfepphccaadaa

/-
  Bytes behind bytes: appending, numbers with their lowest byte first; the model's l6little and l6point.
-/
namespace Go.Proofs.Ytfhfepphccaadaa
open Go.RowKit

/-- v without its lowest i bytes. -/
def divB (v : Int) : Nat → Int
  | 0 => v
  | i + 1 => divB v i / 256
/-- The lowest i bytes of v, the lowest first. -/
def leB (v : Int) : Nat → List Int
  | 0 => []
  | i + 1 => leB v i ++ [divB v i % 256]
def ptB (x y z : Int) : List Int := leB x 4 ++ leB y 4 ++ leB z 4

theorem leB_length (v : Int) : ∀ n, (leB v n).length = n
  | 0 => rfl
  | n + 1 => by simp [leB, leB_length v n]
theorem divB_nonneg {v : Int} (h : 0 ≤ v) : ∀ n, 0 ≤ divB v n
  | 0 => h
  | n + 1 => Int.ediv_nonneg (divB_nonneg h n) (by decide)
theorem divB_le {v : Int} (h : 0 ≤ v) : ∀ n, divB v n ≤ v
  | 0 => Int.le_refl _
  | n + 1 => Int.le_trans (Int.ediv_le_self _ (divB_nonneg h n)) (divB_le h n)
theorem ptB_length (x y z : Int) : (ptB x y z).length = 12 := by simp [ptB, leB_length]

/-- A slice of bytes of the call's own. -/
def OwnY (w : World) (base : Nat) (v : Value) (ys : List Int) : Prop := w.ownsRow base 5 1 v ys.length (vals .u8 ys)

theorem OwnY.later {w w' : World} {base : Nat} {v : Value} {ys : List Int} (h : OwnY w base v ys) (hb : Below w.heap.size w w') : OwnY w' base v ys := own_later h hb

theorem OwnY.nil (w : World) (base : Nat) : OwnY w base (.slice none 0 0) [] := own_nil _ _ _ _

theorem OwnY.row {w : World} {base : Nat} {v : Value} {ys : List Int} (h : OwnY w base v ys) : ∃ a c, v = .slice a ys.length c ∧ RowNew .u8 w base a ys := by
  obtain ⟨a, c, h1, _, _, h2⟩ := own_row h
  exact ⟨a, c, h1, h2⟩

theorem OwnY.spot {w : World} {base : Nat} {v : Value} {ys : List Int} (h : OwnY w base v ys) (hne : ys ≠ []) : ∃ b off c, v = .slice (some ⟨b, off, none⟩) ys.length c ∧ RowNew .u8 w base (some ⟨b, off, none⟩) ys := by
  obtain ⟨a, c, h1, h2⟩ := h.row
  rcases h2 with h2 | ⟨b, off, rfl, h3⟩
  · exact absurd h2 hne
  · exact ⟨b, off, c, h1, .inr ⟨b, off, rfl, h3⟩⟩

theorem infoB : (Try.prog.info? 5).map (fun i => (i.zero, i.size, i.bytes)) = some (some (.int .u8 0), 1, 1) := by kernel_rfl

/-- 'append(s, x...)' of bytes behind a row of the call's own. -/
theorem appB {w0 : World} {ops : Array Oper} {rest : List Oper} {o : Oper} {ac : Act} {Q : Exit → Act → World → Prop} (hgd : o.guard = none) (s x : Operand)
    (ho : o.op = .call { callee := .builtin .append, args := #[s, x], argTypes := #[35, 35] })
    (base : Nat) (sv : Value) (ys : List Int) (ad : Addr) (n c : Nat) (zs : List Int) (hs : ac.eval s = sv) (hown : OwnY w0 base sv ys) (hx : ac.eval x = .slice (some ad) n c) (hnz : n = zs.length) (hn : zs.length ≤ 2000000) (hny : ys.length ≤ 2000000) (hne : zs ≠ []) (hr : RowAt .u8 w0 (some ad) zs) (hb : base ≤ w0.heap.size)
    (h : ∀ a' n' c' w', OwnY w' base (.slice a' n' c') (ys ++ zs) → Below base w0 w' → wpList Try.prog ops Q rest (ac.put o.dst (.slice a' n' c')) w') :
    wpList Try.prog ops Q (o :: rest) ac w0 := by
  subst hnz
  obtain ⟨i0, hi, hz0, hz1, hz2⟩ := info_parts infoB
  refine wpList_append_own w0 hgd s x 35 ho base 5 i0 (.int .u8 0) 1 1 Try.underlying35 hi hz0 hz1 hz2 rfl (by decide) sv ys.length (vals .u8 ys) hs hown ad zs.length c (vals .u8 zs) hx (by simp [vals]) ?_ ?_ ?_ ?_ hb ?_
  · intro j u hj
    have hjl : j < zs.length := by
      by_cases hp : j < zs.length
      · exact hp
      · rw [List.getElem?_eq_none (by rw [vals_length]; omega)] at hj; cases hj
    obtain ⟨b, off, h1, h2, h3⟩ := hr.resolve_left hne
    have e1 := Option.some.inj h1
    subst e1
    have hu : u = .int .u8 (zs.getD j 0) := by
      simp [vals, hjl] at hj
      rw [← hj, List.getD_eq_getElem?_getD, List.getElem?_eq_getElem hjl]
      rfl
    rw [hu, Addr.add_lit]
    exact h3 j hjl
  · intro u hu
    simp [vals] at hu
    obtain ⟨z, _, rfl⟩ := hu
    rfl
  · unfold maxLen; omega
  · omega
  · intro v' w' hown' hgrow _
    have hown2 : w'.ownsRow base 5 1 v' (ys ++ zs).length (vals .u8 (ys ++ zs)) := by
      rw [List.length_append]
      simpa [vals] using hown'
    obtain ⟨a', c', rfl, -, -, -⟩ := own_row hown2
    refine h a' _ c' w' hown2 ?_
    refine (Below.refl _ _).grown hgrow hb (fun k hk => ?_)
    rcases hown.2 with ⟨h1, _⟩ | ⟨g, cap, cur, h1, h2, _⟩
    · rw [h1] at hk; simp [Value.ownBlock] at hk
    · rw [h1] at hk; simp [Value.ownBlock] at hk; omega

/-- What a function answers that makes a list of bytes. -/
def NewY (w : World) (ys : List Int) (e : Ending) (w' : World) : Prop := ∃ v, e = .returned v ∧ OwnY w' w.heap.size v ys ∧ Below w.heap.size w w'

set_option maxRecDepth 100000 in
set_option maxHeartbeats 2000000 in
theorem little_any (v : Int) (n : Nat) (w : World) (h0 : 0 ≤ v) (h1 : v ≤ 4294967295) (hn : n ≤ 8) :
    Calls Try.prog 70 #[.int .i64 v, .int .i64 n] w fun e w' => NewY w (leB v n) e w' := by
  go_enter Try.func70, Try.ntmps70
  go_wp2
  go_loopw [0, 5, 6] (fun sv so si wr => ∃ (i : Nat), i ≤ n ∧ si = .int .i64 i ∧ sv = .int .i64 (divB v i) ∧ Hid (OwnY wr w.heap.size so (leB v i)) ∧ Hid (Below w.heap.size w wr)) (fun _ _ si _ => n - (intOf si).toNat)
  case atStart => exact ⟨0, Nat.zero_le _, rfl, rfl, OwnY.nil _ _, Below.refl _ _⟩
  case round =>
    obtain ⟨i, hi, rfl, rfl, hO, hb⟩ := hrel
    by_cases hlt : i < n
    · have hib : (i : Int) < n := by omega
      have d0 := divB_nonneg h0 i
      have d1 := divB_le h0 i
      have hown := hO.out
      have hsz := hb.out.size
      have HD : Hid (divB v (i + 1) = divB v i / 256) := rfl
      have HE : Hid (leB v (i + 1) = leB v i ++ [divB v i % 256]) := rfl
      have hll : (leB v i).length ≤ 8388608 := by rw [leB_length]; omega
      obtain ⟨d, hd⟩ : ∃ d, d = divB v i := ⟨_, rfl⟩
      rw [← hd] at d0 d1 HD HE ⊢
      have ht : d.tmod 256 = d % 256 := Int.tmod_eq_emod_of_nonneg d0
      have hq : d.tdiv 256 = d / 256 := Int.tdiv_eq_ediv_of_nonneg d0
      have hm0 : 0 ≤ d % 256 := by omega
      have hm1 : d % 256 < 256 := by omega
      obtain ⟨m, hm⟩ : ∃ m, m = d % 256 := ⟨_, rfl⟩
      rw [← hm] at hm0 hm1 ht HE
      clear hO hd hm
      go_wp2_with (at_builtin; refine app1 rfl (.tmp 12) (.tmp 16) 35 rfl w.heap.size 5 Try.underlying35 infoB (by decide) _ _ rfl rfl hown hll hsz ?_; intro a1 n1 c1 w1 hown1 hb1 hs1)
      have HO1 : Hid (OwnY w1 w.heap.size (.slice a1 n1 c1) (leB v (i + 1))) := by unfold Hid; rw [HE.out]; exact hown1
      have HB1 : Hid (Below w.heap.size w w1) := hb.out.trans hb1
      clear hown1 hb1 hb hown
      go_roundw
      case rel => exact ⟨i + 1, by omega, by go_num, by rw [HD.out], HO1, HB1⟩
      case measure => simp [intOf]; omega
    · have hie : i = n := by omega
      subst hie
      go_wp2
      go_ret
      exact ⟨_, rfl, hO.out, hb.out⟩

end Go.Proofs.Ytfhfepphccaadaa
