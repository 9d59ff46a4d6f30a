/-
  Appending one number to a slice of the call's own, with what stays beside it.
-/
import Derived.Test.YtcjdnomhnlbmbaaGrow
import Derived.Maps.AppendAt
import Derived.Test.YtcjdnomhnlbmbaaNum
import Derived.Test.YtcjdnomhnlbmbaaPcPBytes
import Derived.Test.YtcjdnomhnlbmbaaLawVsScMPcAPcIPcB
namespace Go.Proofs.Ytcjdnomhnlbmbaa
open Go.RowKit

/-- 'append(s, x)' of one number: every block but the slice's own stays, and the slice's block is the old one or a new one. -/
theorem app2 {k : IntKind} {X : Int} {bytes : Nat} {w0 : World} {ops : Array Oper} {rest : List Oper} {o : Oper} {a : Act} {Q : Exit → Act → World → Prop} (hgd : o.guard = none) (s x : Operand) (t : TypeId)
    (ho : o.op = .call { callee := .builtin .append, args := #[s, x], argTypes := #[t, t] })
    (base : Nat) (e : TypeId) (ht : Try.prog.underlying t = some (.slice e)) (hinfo : (Try.prog.info? e).map (fun i => (i.zero, i.size, i.bytes)) = some (some (.int k 0), 1, bytes)) (hby : bytes ≤ 8)
    (sv : Value) (ys : List Int) (hs : a.eval s = sv) (hx : a.eval x = .slice (some ⟨w0.heap.size, 0, none⟩) 1 1) (hown : w0.ownsRow base e 1 sv ys.length (vals k ys)) (hn : ys.length ≤ 8388608) (hbase : base ≤ w0.heap.size)
    (h : ∀ a' n' c' w', w'.ownsRow base e 1 (.slice a' n' c') (ys ++ [X]).length (vals k (ys ++ [X])) → Below base w0 w' → w0.heap.size < w'.heap.size → (∀ j, j < w0.heap.size → sv.ownBlock ≠ some j → w'.heap[j]? = w0.heap[j]?) → ((Value.slice a' n' c').ownBlock = sv.ownBlock ∨ ∃ j, (Value.slice a' n' c').ownBlock = some j ∧ w0.heap.size ≤ j) → wpList Try.prog ops Q rest (a.put o.dst (.slice a' n' c')) w') :
    wpList Try.prog ops Q (o :: rest) a (w0.alloc (.cells #[.int k X] e)) := by
  obtain ⟨i0, hi, hz0, hz1, hz2⟩ := info_parts hinfo
  have hb1 : (ys.length + 1) * bytes ≤ (ys.length + 1) * 8 := Nat.mul_le_mul_left _ hby
  refine wpList_append_own_at _ hgd s x t ho base e i0 (.int k 0) 1 bytes ht hi hz0 hz1 hz2 rfl (by decide) sv ys.length (vals k ys) hs (hown.alloc _) ⟨w0.heap.size, 0, none⟩ 1 1 [.int k X] hx rfl ?_ ?_ ?_ ?_ ?_ ?_
  · intro j u hj
    match j, hj with
    | 0, hj => simp at hj; subst hj; simp [Addr.add]
  · intro u hu; simp at hu; subst hu; rfl
  · unfold maxLen; omega
  · omega
  · simp; omega
  · intro v' w' hown' hgrow _ hwhere
    obtain ⟨a', n', c', rfl⟩ : ∃ a' n' c', v' = .slice a' n' c' := by
      rcases hown'.2 with ⟨h1, _⟩ | ⟨g, cap, cur, h1, _⟩
      · exact ⟨_, _, _, h1⟩
      · exact ⟨_, _, _, h1⟩
    have hB : Below base w0 w' := by
      have hb0 : Below base w0 (w0.alloc (.cells #[.int k X] e)) := (Below.refl _ _).alloc hbase _
      refine hb0.grown hgrow (by simp; omega) ?_
      intro kk hk
      rcases hown.2 with ⟨h1, _⟩ | ⟨g, cap, cur, h1, h2, _⟩
      · rw [h1] at hk; simp [Value.ownBlock] at hk
      · rw [h1] at hk; simp [Value.ownBlock] at hk; omega
    have hS : w0.heap.size < w'.heap.size := by
      have := hgrow.size
      simp at this
      omega
    refine h a' n' c' w' ?_ hB hS ?_ ?_
    · rw [vals_snoc] at hown'
      simpa using hown'
    · intro j hj hne
      rw [hgrow.block j (by simp; omega) (fun e => hne e.symm)]
      exact (bel0 w0 (.cells #[.int k X] e)).block j hj
    · rcases hwhere with hw | hw
      · exact .inl hw
      · exact .inr ⟨_, hw, by simp⟩

end Go.Proofs.Ytcjdnomhnlbmbaa

/-
  Plain mathematics: digits divided by a small number; the decimal digits of a number.
-/
namespace Go.Proofs.Ytcjdnomhnlbmbaa

/-- Digits to the base B divided by q: the quotient's digits, and what is left. -/
def divL (B q : Int) : List Int → List Int × Int
  | [] => ([], 0)
  | d :: ds => (((divL B q ds).2 * B + d) / q :: (divL B q ds).1, ((divL B q ds).2 * B + d) % q)

theorem divL_length (B q : Int) : ∀ ds : List Int, (divL B q ds).1.length = ds.length
  | [] => rfl
  | d :: ds => by simp [divL, divL_length B q ds]

theorem divL_rest {B q : Int} (hq : 0 < q) : ∀ ds : List Int, 0 ≤ (divL B q ds).2 ∧ (divL B q ds).2 < q
  | [] => ⟨Int.le_refl 0, hq⟩
  | _ :: _ => ⟨Int.emod_nonneg _ (by omega), Int.emod_lt_of_pos _ hq⟩

theorem divL_val {B q : Int} : ∀ ds : List Int, val B (divL B q ds).1 * q + (divL B q ds).2 = val B ds
  | [] => by simp [divL, val]
  | d :: ds => by
    have h := divL_val (B := B) (q := q) ds
    have e := Int.emod_add_mul_ediv ((divL B q ds).2 * B + d) q
    simp only [divL, val]
    rw [← h, Int.add_mul, Int.mul_add, Int.mul_comm (_ / q) q, Int.mul_assoc, Int.mul_comm B (divL B q ds).2]
    omega

theorem divL_dig {B q : Int} (hB : 0 < B) (hq : 0 < q) : ∀ {ds : List Int}, Dig B ds → Dig B (divL B q ds).1
  | [], _ => Dig.nil B
  | d :: ds, h => by
    have hd := h.head
    have hr := divL_rest (B := B) hq ds
    have h0 : 0 ≤ (divL B q ds).2 * B := Int.mul_nonneg hr.1 (Int.le_of_lt hB)
    have h1 : (divL B q ds).2 * B ≤ (q - 1) * B := Int.mul_le_mul_of_nonneg_right (by omega) (Int.le_of_lt hB)
    rw [Int.sub_mul, Int.one_mul] at h1
    refine Dig.cons (Int.ediv_nonneg (by omega) (Int.le_of_lt hq)) ?_ (divL_dig hB hq h.tail)
    refine Int.ediv_lt_of_lt_mul hq ?_
    rw [Int.mul_comm B q]
    omega

theorem divL_ediv {B q : Int} (hq : 0 < q) (ds : List Int) : val B (divL B q ds).1 = val B ds / q ∧ (divL B q ds).2 = val B ds % q := by
  have h := divL_val (B := B) (q := q) ds
  have hr := divL_rest (B := B) hq ds
  rw [← h]
  constructor
  · rw [Int.add_comm, Int.add_mul_ediv_right _ _ (by omega), Int.ediv_eq_zero_of_lt hr.1 hr.2]; omega
  · rw [Int.add_comm, Int.add_mul_emod_self_right, Int.emod_eq_of_lt hr.1 hr.2]

theorem drop_pred {ds : List Int} {k : Nat} (h : k < ds.length) : ds.drop k = ds.getD k 0 :: ds.drop (k + 1) := by
  rw [List.drop_eq_getElem_cons h, List.getD_eq_getElem?_getD, List.getElem?_eq_getElem h]; rfl

theorem divL_step {B q : Int} {ds : List Int} {k : Nat} (h : k < ds.length) : divL B q (ds.drop k) = (((divL B q (ds.drop (k + 1))).2 * B + ds.getD k 0) / q :: (divL B q (ds.drop (k + 1))).1, ((divL B q (ds.drop (k + 1))).2 * B + ds.getD k 0) % q) := by
  rw [drop_pred h]; rfl

/-- One digit more of a row that is filled from its upper end. -/
theorem set_down {xs qs : List Int} {k : Nat} (h : xs.length = k + 1) (x : Int) : (xs ++ qs).set k x = xs.take k ++ x :: qs := by
  rw [List.set_append_left _ _ (by omega), List.set_eq_take_append_cons_drop, if_pos (by omega), List.drop_eq_nil_of_le (by omega)]
  simp

/-- The decimal digits of n as bytes, the lowest first, f of them at most. -/
def decF : Nat → Int → List Int
  | 0, _ => []
  | f + 1, n => if n ≤ 0 then [] else (48 + n % 10) :: decF f (n / 10)

/-- Enough is enough. -/
theorem decF_more : ∀ (f f' : Nat) (n : Int), n < (10 ^ f : Nat) → n < (10 ^ f' : Nat) → decF f n = decF f' n
  | 0, 0, _, _, _ => rfl
  | 0, f' + 1, n, h, _ => by
    have : n ≤ 0 := by simp at h; omega
    simp [decF, this]
  | f + 1, 0, n, _, h => by
    have : n ≤ 0 := by simp at h; omega
    simp [decF, this]
  | f + 1, f' + 1, n, h, h' => by
    by_cases h0 : n ≤ 0
    · simp [decF, h0]
    · simp only [decF, h0, if_false]
      rw [decF_more f f' (n / 10) (by rw [Nat.pow_succ] at h; push_cast at h ⊢; omega) (by rw [Nat.pow_succ] at h'; push_cast at h' ⊢; omega)]

end Go.Proofs.Ytcjdnomhnlbmbaa

/-
  Plain mathematics: the decimal digits of a number, all of them; the text of a number.
-/
namespace Go.Proofs.Ytcjdnomhnlbmbaa

/-- The decimal digits of n as bytes, the lowest first. -/
def decs (n : Int) : List Int := decF n.toNat n

theorem lt_ten (n : Int) : n < (10 ^ n.toNat : Nat) := by
  have h : n.toNat < 10 ^ n.toNat := Nat.lt_pow_self (by decide)
  omega

theorem decs_eq {f : Nat} {n : Int} (h : n < (10 ^ f : Nat)) : decs n = decF f n := decF_more _ _ _ (lt_ten n) h

theorem decs_none {n : Int} (h : n ≤ 0) : decs n = [] := by
  rw [decs_eq (f := 0) (by simp; omega)]; rfl

theorem decs_step {n : Int} (h : 0 < n) : decs n = (48 + n % 10) :: decs (n / 10) := by
  have h1 : n < (10 ^ (n.toNat + 1) : Nat) := by
    have := lt_ten n
    have h2 : 10 ^ n.toNat ≤ 10 ^ (n.toNat + 1) := Nat.pow_le_pow_right (by decide) (by omega)
    omega
  have h3 : n / 10 < (10 ^ n.toNat : Nat) := by
    have := lt_ten n
    omega
  rw [decs_eq h1, decs_eq h3]
  simp only [decF]
  rw [if_neg (by omega)]

theorem decF_length : ∀ (f : Nat) (n : Int), (decF f n).length ≤ f
  | 0, _ => Nat.le_refl 0
  | f + 1, n => by
    have := decF_length f (n / 10)
    simp only [decF]
    split
    · simp
    · simp; omega

theorem decs_length {f : Nat} {n : Int} (h : n < (10 ^ f : Nat)) : (decs n).length ≤ f := by
  rw [decs_eq h]; exact decF_length f n

/-- The text of a number with the sign g and the magnitude n. -/
def textL (g : Bool) (n : Int) : List Int := if n = 0 then [48] else (decs n ++ if g then [45] else []).reverse

/-- f digits of n, also where they are zeros. -/
def padF : Nat → Int → List Int
  | 0, _ => []
  | f + 1, n => (48 + n % 10) :: padF f (n / 10)

theorem padF_length : ∀ (f : Nat) (n : Int), (padF f n).length = f
  | 0, _ => rfl
  | f + 1, n => by simp [padF, padF_length f]

theorem padF_snoc : ∀ (f : Nat) (n : Int), padF (f + 1) n = padF f n ++ [48 + n / (10 ^ f : Nat) % 10]
  | 0, n => by simp [padF]
  | f + 1, n => by
    rw [padF, padF_snoc f (n / 10), padF, List.cons_append]
    rw [Int.ediv_ediv_of_nonneg (by decide), Nat.pow_succ, Nat.mul_comm]
    rfl

theorem padF_add : ∀ (f g : Nat) (n : Int), padF (f + g) n = padF f n ++ padF g (n / (10 ^ f : Nat))
  | 0, g, n => by simp [padF]
  | f + 1, g, n => by
    rw [show f + 1 + g = f + g + 1 by omega, padF, padF_add f g (n / 10), padF, List.cons_append, Int.ediv_ediv_of_nonneg (by decide), Nat.pow_succ, Nat.mul_comm (10 ^ f) 10]
    rfl

/-- Without the zeros behind. -/
def strip : List Int → List Int
  | [] => []
  | t :: ts => if strip ts = [] ∧ t = 48 then [] else t :: strip ts

theorem decF_nil {f : Nat} {n : Int} (h : n < (10 ^ f : Nat)) : decF f n = [] ↔ n ≤ 0 := by
  cases f with
  | zero => simp [decF]; simp at h; omega
  | succ f =>
    simp only [decF]
    split
    · simp; omega
    · simp; omega

theorem strip_decF : ∀ (f : Nat) (n : Int), 0 ≤ n → n < (10 ^ f : Nat) → strip (padF f n) = decF f n
  | 0, _, _, _ => rfl
  | f + 1, n, h0, h1 => by
    have h2 : n / 10 < (10 ^ f : Nat) := by rw [Nat.pow_succ] at h1; omega
    simp only [padF, strip, decF]
    rw [strip_decF f (n / 10) (by omega) h2]
    have h3 := decF_nil h2
    by_cases e : n ≤ 0
    · rw [if_pos ⟨h3.2 (by omega), by omega⟩, if_pos e]
    · rw [if_neg (fun h => by have := h3.1 h.1; have := h.2; omega), if_neg e]

theorem strip_decs {f : Nat} {n : Int} (h0 : 0 ≤ n) (h1 : n < (10 ^ f : Nat)) : strip (padF f n) = decs n := by
  rw [strip_decF f n h0 h1, decs_eq h1]

theorem strip_snoc (t : Int) : ∀ ts : List Int, strip (ts ++ [t]) = if t = 48 then strip ts else ts ++ [t]
  | [] => by simp [strip]
  | u :: ts => by
    simp only [List.cons_append, strip, strip_snoc t ts]
    by_cases e : t = 48
    · simp [e]
    · simp [e]

end Go.Proofs.Ytcjdnomhnlbmbaa

/-
  Rows that lie beside a slice that grows.
-/
namespace Go.Proofs.Ytcjdnomhnlbmbaa
open Go.RowKit

/-- The row lies in another block than the slice v. -/
def Off (v : Value) (a : Option Addr) (zs : List Int) : Prop := zs = [] ∨ ∀ p, a = some p → v.ownBlock ≠ some p.block

theorem own_later {w w' : World} {base : Nat} {e : TypeId} {v : Value} {n : Nat} {xs : List Value} (h : w.ownsRow base e 1 v n xs) (hb : Below w.heap.size w w') : w'.ownsRow base e 1 v n xs := by
  refine ⟨h.1, ?_⟩
  rcases h.2 with h1 | ⟨g, cap, cur, h1, h2, h3, h4⟩
  · exact .inl h1
  · have hg : g < w.heap.size := by
      by_cases hp : g < w.heap.size
      · exact hp
      · rw [Array.getElem?_eq_none (by omega)] at h3; cases h3
    exact .inr ⟨g, cap, cur, h1, h2, (hb.block g hg).trans h3, h4⟩

theorem own_block {w : World} {base : Nat} {e : TypeId} {v : Value} {n : Nat} {xs : List Value} (h : w.ownsRow base e 1 v n xs) {j : Nat} (hj : v.ownBlock = some j) : j < w.heap.size := by
  rcases h.2 with ⟨h1, _⟩ | ⟨g, cap, cur, h1, h2, h3, h4⟩
  · rw [h1] at hj; simp [Value.ownBlock] at hj
  · rw [h1] at hj
    simp [Value.ownBlock] at hj
    subst hj
    by_cases hp : g < w.heap.size
    · exact hp
    · rw [Array.getElem?_eq_none (by omega)] at h3; cases h3

theorem Off.new {k : IntKind} {w w' : World} {base : Nat} {e : TypeId} {v : Value} {n : Nat} {xs : List Value} {a : Option Addr} {zs : List Int} (h : w.ownsRow base e 1 v n xs) (hr : RowNew k w' w.heap.size a zs) : Off v a zs := by
  rcases hr with hr | ⟨b, off, rfl, hB, _⟩
  · exact .inl hr
  · refine .inr fun p hp hv => ?_
    injection hp with hp
    subst hp
    have := own_block h hv
    simp at this
    omega

theorem Off.stay {k : IntKind} {w w' : World} {v v' : Value} {a : Option Addr} {zs : List Int} (h : Off v a zs) (hr : RowAt k w a zs) (hs : w.heap.size ≤ w'.heap.size) (hk : ∀ j, j < w.heap.size → v.ownBlock ≠ some j → w'.heap[j]? = w.heap[j]?) (hv : v'.ownBlock = v.ownBlock ∨ ∃ j, v'.ownBlock = some j ∧ w.heap.size ≤ j) : RowAt k w' a zs ∧ Off v' a zs := by
  rcases hr with hr | ⟨b, off, rfl, hb, hc⟩
  · exact ⟨.inl hr, .inl hr⟩
  · rcases h with h | h
    · exact ⟨.inl h, .inl h⟩
    · have hne := h _ rfl
      simp at hne
      refine ⟨.inr ⟨b, off, rfl, by omega, fun j hj => ?_⟩, .inr fun p hp hv' => ?_⟩
      · rw [World.cell?_of_block (w := w) (hk b hb hne)]; exact hc j hj
      · injection hp with hp
        subst hp
        simp at hv'
        rcases hv with hv | ⟨j, hj, hle⟩
        · rw [hv] at hv'; exact hne hv'
        · rw [hj] at hv'; injection hv' with hv'; omega

theorem Off.none (a : Option Addr) (zs : List Int) (n c : Nat) : Off (.slice none n c) a zs := .inr fun p _ h => by simp [Value.ownBlock] at h

/-- Numbers with a sign that are one number. -/
theorem sg_inj {g g' : Bool} {n m : Int} (h : (if g then -n else n) = (if g' then -m else m)) (hn : 0 ≤ n) (hm : 0 ≤ m) : n = m := by
  cases g <;> cases g' <;> simp at h <;> omega

theorem val_fitsK {zs : List Int} {K M : Nat} (h : Dig 4294967296 zs) (hn : zs.length ≤ K) (hK : 4294967296 ^ K ≤ M) : val 4294967296 zs < (M : Nat) := by
  have h1 := val_lt_pow (by decide) h
  have e : (4294967296 : Int) = ((4294967296 : Nat) : Int) := rfl
  have h2 : (4294967296 : Nat) ^ zs.length ≤ M := Nat.le_trans (Nat.pow_le_pow_right (by decide) hn) hK
  rw [e, ← Int.natCast_pow] at h1
  exact Int.lt_of_lt_of_le h1 (Int.ofNat_le.2 h2)

theorem val_fits {zs : List Int} (h : Dig 4294967296 zs) (hn : zs.length ≤ 512) : val 4294967296 zs < (10 ^ 5000 : Nat) := val_fitsK h hn (by decide +kernel)

theorem one_new {k : IntKind} (w : World) (x : Int) (t : TypeId) {B : Nat} (hB : B ≤ w.heap.size) : RowNew k (w.alloc (.cells #[.int k x] t)) B (some ⟨w.heap.size, 0, none⟩) [x] := by
  refine .inr ⟨_, 0, rfl, hB, by simp, fun j hj => ?_, fun j hj => ?_⟩
  · have : j = 0 := by simpa using hj
    subst this
    simp [go_sem]
  · have : j = 0 := by simpa using hj
    subst this
    simp [go_sem]

end Go.Proofs.Ytcjdnomhnlbmbaa

/-
  Bytes behind bytes: appending, numbers with their lowest byte first; the model's l6little and l6point.
-/
namespace Go.Proofs.Ytcjdnomhnlbmbaa
open Go.RowKit

/-- v without its lowest i bytes. -/
def divB (v : Int) : Nat → Int
  | 0 => v
  | i + 1 => divB v i / 256
/-- The lowest i bytes of v, the lowest first. -/
def leB (v : Int) : Nat → List Int
  | 0 => []
  | i + 1 => leB v i ++ [divB v i % 256]
def ptB (x y z : Int) : List Int := leB x 4 ++ leB y 4 ++ leB z 4

theorem leB_length (v : Int) : ∀ n, (leB v n).length = n
  | 0 => rfl
  | n + 1 => by simp [leB, leB_length v n]
theorem divB_nonneg {v : Int} (h : 0 ≤ v) : ∀ n, 0 ≤ divB v n
  | 0 => h
  | n + 1 => Int.ediv_nonneg (divB_nonneg h n) (by decide)
theorem divB_le {v : Int} (h : 0 ≤ v) : ∀ n, divB v n ≤ v
  | 0 => Int.le_refl _
  | n + 1 => Int.le_trans (Int.ediv_le_self _ (divB_nonneg h n)) (divB_le h n)
theorem ptB_length (x y z : Int) : (ptB x y z).length = 12 := by simp [ptB, leB_length]

/-- A slice of bytes of the call's own. -/
def OwnY (w : World) (base : Nat) (v : Value) (ys : List Int) : Prop := w.ownsRow base 5 1 v ys.length (vals .u8 ys)

theorem OwnY.later {w w' : World} {base : Nat} {v : Value} {ys : List Int} (h : OwnY w base v ys) (hb : Below w.heap.size w w') : OwnY w' base v ys := own_later h hb

theorem OwnY.nil (w : World) (base : Nat) : OwnY w base (.slice none 0 0) [] := own_nil _ _ _ _

theorem OwnY.row {w : World} {base : Nat} {v : Value} {ys : List Int} (h : OwnY w base v ys) : ∃ a c, v = .slice a ys.length c ∧ RowNew .u8 w base a ys := by
  obtain ⟨a, c, h1, _, _, h2⟩ := own_row h
  exact ⟨a, c, h1, h2⟩

theorem OwnY.spot {w : World} {base : Nat} {v : Value} {ys : List Int} (h : OwnY w base v ys) (hne : ys ≠ []) : ∃ b off c, v = .slice (some ⟨b, off, none⟩) ys.length c ∧ RowNew .u8 w base (some ⟨b, off, none⟩) ys := by
  obtain ⟨a, c, h1, h2⟩ := h.row
  rcases h2 with h2 | ⟨b, off, rfl, h3⟩
  · exact absurd h2 hne
  · exact ⟨b, off, c, h1, .inr ⟨b, off, rfl, h3⟩⟩

theorem infoB : (Try.prog.info? 5).map (fun i => (i.zero, i.size, i.bytes)) = some (some (.int .u8 0), 1, 1) := by kernel_rfl

/-- 'append(s, x...)' of bytes behind a row of the call's own. -/
theorem appB {w0 : World} {ops : Array Oper} {rest : List Oper} {o : Oper} {ac : Act} {Q : Exit → Act → World → Prop} (hgd : o.guard = none) (s x : Operand)
    (ho : o.op = .call { callee := .builtin .append, args := #[s, x], argTypes := #[22, 22] })
    (base : Nat) (sv : Value) (ys : List Int) (ad : Addr) (n c : Nat) (zs : List Int) (hs : ac.eval s = sv) (hown : OwnY w0 base sv ys) (hx : ac.eval x = .slice (some ad) n c) (hnz : n = zs.length) (hn : zs.length ≤ 2000000) (hny : ys.length ≤ 2000000) (hne : zs ≠ []) (hr : RowAt .u8 w0 (some ad) zs) (hb : base ≤ w0.heap.size)
    (h : ∀ a' n' c' w', OwnY w' base (.slice a' n' c') (ys ++ zs) → Below base w0 w' → wpList Try.prog ops Q rest (ac.put o.dst (.slice a' n' c')) w') :
    wpList Try.prog ops Q (o :: rest) ac w0 := by
  subst hnz
  obtain ⟨i0, hi, hz0, hz1, hz2⟩ := info_parts infoB
  refine wpList_append_own w0 hgd s x 22 ho base 5 i0 (.int .u8 0) 1 1 Try.underlying22 hi hz0 hz1 hz2 rfl (by decide) sv ys.length (vals .u8 ys) hs hown ad zs.length c (vals .u8 zs) hx (by simp [vals]) ?_ ?_ ?_ ?_ hb ?_
  · intro j u hj
    have hjl : j < zs.length := by
      by_cases hp : j < zs.length
      · exact hp
      · rw [List.getElem?_eq_none (by rw [vals_length]; omega)] at hj; cases hj
    obtain ⟨b, off, h1, h2, h3⟩ := hr.resolve_left hne
    have e1 := Option.some.inj h1
    subst e1
    have hu : u = .int .u8 (zs.getD j 0) := by
      simp [vals, hjl] at hj
      rw [← hj, List.getD_eq_getElem?_getD, List.getElem?_eq_getElem hjl]
      rfl
    rw [hu, Addr.add_lit]
    exact h3 j hjl
  · intro u hu
    simp [vals] at hu
    obtain ⟨z, _, rfl⟩ := hu
    rfl
  · unfold maxLen; omega
  · omega
  · intro v' w' hown' hgrow _
    have hown2 : w'.ownsRow base 5 1 v' (ys ++ zs).length (vals .u8 (ys ++ zs)) := by
      rw [List.length_append]
      simpa [vals] using hown'
    obtain ⟨a', c', rfl, -, -, -⟩ := own_row hown2
    refine h a' _ c' w' hown2 ?_
    refine (Below.refl _ _).grown hgrow hb (fun k hk => ?_)
    rcases hown.2 with ⟨h1, _⟩ | ⟨g, cap, cur, h1, h2, _⟩
    · rw [h1] at hk; simp [Value.ownBlock] at hk
    · rw [h1] at hk; simp [Value.ownBlock] at hk; omega

/-- What a function answers that makes a list of bytes. -/
def NewY (w : World) (ys : List Int) (e : Ending) (w' : World) : Prop := ∃ v, e = .returned v ∧ OwnY w' w.heap.size v ys ∧ Below w.heap.size w w'

set_option maxRecDepth 100000 in
set_option maxHeartbeats 2000000 in
theorem little_any (v : Int) (n : Nat) (w : World) (h0 : 0 ≤ v) (h1 : v ≤ 4294967295) (hn : n ≤ 8) :
    Calls Try.prog 78 #[.int .i64 v, .int .i64 n] w fun e w' => NewY w (leB v n) e w' := by
  go_enter Try.func78, Try.ntmps78
  go_wp2
  go_loopw [0, 5, 6] (fun sv so si wr => ∃ (i : Nat), i ≤ n ∧ si = .int .i64 i ∧ sv = .int .i64 (divB v i) ∧ Hid (OwnY wr w.heap.size so (leB v i)) ∧ Hid (Below w.heap.size w wr)) (fun _ _ si _ => n - (intOf si).toNat)
  case atStart => exact ⟨0, Nat.zero_le _, rfl, rfl, OwnY.nil _ _, Below.refl _ _⟩
  case round =>
    obtain ⟨i, hi, rfl, rfl, hO, hb⟩ := hrel
    by_cases hlt : i < n
    · have hib : (i : Int) < n := by omega
      have d0 := divB_nonneg h0 i
      have d1 := divB_le h0 i
      have hown := hO.out
      have hsz := hb.out.size
      have HD : Hid (divB v (i + 1) = divB v i / 256) := rfl
      have HE : Hid (leB v (i + 1) = leB v i ++ [divB v i % 256]) := rfl
      have hll : (leB v i).length ≤ 8388608 := by rw [leB_length]; omega
      obtain ⟨d, hd⟩ : ∃ d, d = divB v i := ⟨_, rfl⟩
      rw [← hd] at d0 d1 HD HE ⊢
      have ht : d.tmod 256 = d % 256 := Int.tmod_eq_emod_of_nonneg d0
      have hq : d.tdiv 256 = d / 256 := Int.tdiv_eq_ediv_of_nonneg d0
      have hm0 : 0 ≤ d % 256 := by omega
      have hm1 : d % 256 < 256 := by omega
      obtain ⟨m, hm⟩ : ∃ m, m = d % 256 := ⟨_, rfl⟩
      rw [← hm] at hm0 hm1 ht HE
      clear hO hd hm
      go_wp2_with (at_builtin; refine app1 rfl (.tmp 12) (.tmp 16) 22 rfl w.heap.size 5 Try.underlying22 infoB (by decide) _ _ rfl rfl hown hll hsz ?_; intro a1 n1 c1 w1 hown1 hb1 hs1)
      have HO1 : Hid (OwnY w1 w.heap.size (.slice a1 n1 c1) (leB v (i + 1))) := by unfold Hid; rw [HE.out]; exact hown1
      have HB1 : Hid (Below w.heap.size w w1) := hb.out.trans hb1
      clear hown1 hb1 hb hown
      go_roundw
      case rel => exact ⟨i + 1, by omega, by go_num, by rw [HD.out], HO1, HB1⟩
      case measure => simp [intOf]; omega
    · have hie : i = n := by omega
      subst hie
      go_wp2
      go_ret
      exact ⟨_, rfl, hO.out, hb.out⟩

end Go.Proofs.Ytcjdnomhnlbmbaa

/-
  The model's l6point.
-/
namespace Go.Proofs.Ytcjdnomhnlbmbaa
open Go.RowKit

theorem OwnY.up {w : World} {base base' : Nat} {v : Value} {ys : List Int} (h : OwnY w base v ys) (hb : base' ≤ base) : OwnY w base' v ys := by
  refine ⟨h.1, ?_⟩
  rcases h.2 with h1 | ⟨g, cap, cur, h1, h2, h3⟩
  · exact .inl h1
  · exact .inr ⟨g, cap, cur, h1, Nat.le_trans hb h2, h3⟩

theorem leB_ne (v : Int) (n : Nat) (h : n ≠ 0) : leB v n ≠ [] := by
  intro e
  have := leB_length v n
  rw [e] at this
  simp at this
  omega

set_option maxRecDepth 100000 in
set_option maxHeartbeats 4000000 in
theorem point6_any (x y z : Int) (w : World) (xa : 0 ≤ x) (xb : x < 4294967296) (ya : 0 ≤ y) (yb : y < 4294967296) (za : 0 ≤ z) (zb : z < 4294967296) :
    Calls Try.prog 105 #[.agg #[.int .u32 x, .int .u32 y, .int .u32 z]] w fun e w' => NewY w (ptB x y z) e w' := by
  go_enter Try.func105, Try.ntmps105
  go_wp2_with fail
  refine (little_any x 4 _ xa (by omega) (by decide)).mono ?_
  rintro e w1 ⟨v1, rfl, ho1, hb1⟩
  have c1 : w1.cell? ⟨w.heap.size, 1, none⟩ = some (.int .u32 y) := by rw [(bcell hb1).1 _ _ (by simp)]; simp [go_sem]
  have c2 : w1.cell? ⟨w.heap.size, 2, none⟩ = some (.int .u32 z) := by rw [(bcell hb1).1 _ _ (by simp)]; simp [go_sem]
  have S1 : w.heap.size + 1 ≤ w1.heap.size := by have := hb1.size; simpa using this
  have HB1 : Hid (Below (w.heap.size + 1) (w.alloc (.cells #[.int .u32 x, .int .u32 y, .int .u32 z] 84)) w1) := by unfold Hid; simpa using hb1
  have HO1 : Hid (OwnY w1 (w.heap.size + 1) v1 (leB x 4)) := by unfold Hid; simpa using ho1
  clear hb1 ho1
  go_wp2_with fail
  refine (little_any y 4 _ ya (by omega) (by decide)).mono ?_
  rintro e w2 ⟨v2, rfl, ho2, hb2⟩
  replace c2 := ((bcell hb2).1 _ _ (by omega)).trans c2
  obtain ⟨b2, o2, k2, rfl, hr2⟩ := ho2.spot (leB_ne _ _ (by decide))
  have HO1b : Hid (OwnY w2 (w.heap.size + 1) v1 (leB x 4)) := HO1.out.later hb2
  have HB2 : Hid (Below (w.heap.size + 1) (w.alloc (.cells #[.int .u32 x, .int .u32 y, .int .u32 z] 84)) w2) := HB1.out.trans (hb2.mono S1)
  have S2 : w.heap.size + 1 ≤ w2.heap.size := Nat.le_trans S1 hb2.size
  have HR2 : Hid (RowAt .u8 w2 (some ⟨b2, o2, none⟩) (leB y 4)) := hr2.row
  clear hb2 ho2 hr2 HO1 HB1
  go_wp2_with (first | (at_builtin; refine appB rfl (.tmp 8) (.tmp 12) rfl (w.heap.size + 1) v1 (leB x 4) ⟨b2, o2, none⟩ _ k2 (leB y 4) rfl HO1b.out rfl rfl (by rw [leB_length]; omega) (by rw [leB_length]; omega) (leB_ne _ _ (by decide)) HR2.out S2 ?_; intro a3 m3 k3 w3 ho3 hb3; replace c2 := (hb3.cell (p := ⟨w.heap.size, 2, none⟩) (by simp)).trans c2) | fail)
  have S3 : w.heap.size + 1 ≤ w3.heap.size := Nat.le_trans S2 hb3.size
  have HO3 : Hid (OwnY w3 (w.heap.size + 1) (.slice a3 m3 k3) (leB x 4 ++ leB y 4)) := ho3
  have HB3 : Hid (Below (w.heap.size + 1) (w.alloc (.cells #[.int .u32 x, .int .u32 y, .int .u32 z] 84)) w3) := HB2.out.trans hb3
  clear ho3 hb3 HO1b HR2 HB2
  refine (little_any z 4 _ za (by omega) (by decide)).mono ?_
  rintro e w4 ⟨v4, rfl, ho4, hb4⟩
  obtain ⟨b4, o4, k4, rfl, hr4⟩ := ho4.spot (leB_ne _ _ (by decide))
  have HO3b : Hid (OwnY w4 (w.heap.size + 1) (.slice a3 m3 k3) (leB x 4 ++ leB y 4)) := HO3.out.later hb4
  have HB4 : Hid (Below (w.heap.size + 1) (w.alloc (.cells #[.int .u32 x, .int .u32 y, .int .u32 z] 84)) w4) := HB3.out.trans (hb4.mono S3)
  have S4 : w.heap.size + 1 ≤ w4.heap.size := Nat.le_trans S3 hb4.size
  have HR4 : Hid (RowAt .u8 w4 (some ⟨b4, o4, none⟩) (leB z 4)) := hr4.row
  clear hb4 ho4 hr4 HO3 HB3
  go_wp2_with (at_builtin; refine appB rfl (.tmp 14) (.tmp 18) rfl (w.heap.size + 1) _ (leB x 4 ++ leB y 4) ⟨b4, o4, none⟩ _ k4 (leB z 4) rfl HO3b.out rfl rfl (by rw [leB_length]; omega) (by rw [List.length_append, leB_length, leB_length]; omega) (leB_ne _ _ (by decide)) HR4.out S4 ?_; intro a5 m5 k5 w5 ho5 hb5)
  have HO5 : Hid (OwnY w5 w.heap.size (.slice a5 m5 k5) (leB x 4 ++ leB y 4 ++ leB z 4)) := ho5.up (Nat.le_succ _)
  have HB5 : Hid (Below w.heap.size w w5) := (bel0 _ _).trans ((HB4.out.trans hb5).mono (Nat.le_succ _))
  clear ho5 hb5 HO3b HR4 HB4
  go_wp2
  go_ret
  exact ⟨_, rfl, HO5.out, HB5.out⟩

end Go.Proofs.Ytcjdnomhnlbmbaa
