/-
  The program's reader: several triangles, rays, points.
-/
import Derived.Test.YtcjdnomhnlbmbaaIdD
import Derived.Test.YtcjdnomhnlbmbaaSpD3
import Derived.Test.YtcjdnomhnlbmbaaLawDp
import Derived.Test.YtcjdnomhnlbmbaaSpD0ScJBytes2
import Derived.Laws.BytesArg
import Derived.Laws.Strings
namespace Go.Proofs.Ytcjdnomhnlbmbaa
open Go.RowKit

theorem aside_ownk {R : Nat} {w w' : World} {base k : Nat} {e : TypeId} {v : Value} {n : Nat} {xs : List Value} (h : Aside R w w') (ho : w.ownsRow base e k v n xs) (hp : R < base) : w'.ownsRow base e k v n xs := by
  refine ⟨ho.1, ?_⟩
  rcases ho.2 with h1 | ⟨g, cap, cur, h1, h2, h3, h4⟩
  · exact .inl h1
  · refine .inr ⟨g, cap, cur, h1, h2, ?_, h4⟩
    have hg : g < w.heap.size := by
      by_cases hp : g < w.heap.size
      · exact hp
      · rw [Array.getElem?_eq_none (by omega)] at h3; cases h3
    rw [h.block g hg (by omega)]
    exact h3
theorem RdB.low {w w' : World} {R b off c i base : Nat} {bs : List Int} (h : RdB w R b off c bs i) (hb : Below base w w') (h1 : R < base) (h2 : b < base) : RdB w' R b off c bs i :=
  ⟨(hb.cell (p := ⟨R, 0, none⟩) h1).trans h.c0, (hb.cell (p := ⟨R, 1, none⟩) h1).trans h.c1, (hb.frozen (p := ⟨R, 1, none⟩) h1).trans h.fr, Nat.lt_of_lt_of_le h.lt hb.size, by
    rcases h.row with hr | ⟨b', off', e1, e2, e3⟩
    · exact .inl hr
    · cases e1
      exact .inr ⟨b, off, rfl, Nat.lt_of_lt_of_le e2 hb.size, fun j hj => (hb.cell (p := ⟨b, off + j, none⟩) h2).trans (e3 j hj)⟩, h.ap, h.le, h.cap, h.sm⟩

theorem flt_num {bs : List Int} {q : Nat} (h : q + 4 ≤ bs.length) : fltB bs q = numB bs q 4 := by
  unfold fltB numB
  rw [if_neg (by omega), if_neg (by omega)]

theorem ptF_len {bs : List Int} {i : Nat} (h : ptF bs i = none) : i + 12 ≤ bs.length := by
  obtain ⟨_, h'⟩ := orF_none h
  obtain ⟨_, h2⟩ := orF_none h'
  have := (fltF_ok h2).1
  omega
theorem triF_len {bs : List Int} {i : Nat} (h : triF bs i = none) : i + 36 ≤ bs.length := by
  obtain ⟨_, h'⟩ := orF_none h
  obtain ⟨_, h2⟩ := orF_none h'
  have := ptF_len h2
  omega
theorem rayF_len {bs : List Int} {i : Nat} (h : rayF bs i = none) : i + 24 ≤ bs.length := by
  obtain ⟨_, h'⟩ := orF_none h
  obtain ⟨h2, _⟩ := orF_none h'
  have := ptF_len h2
  omega

/-- What has been read when several are read. -/
structure SevS (w : World) (R b off c : Nat) (bs : List Int) (i0 : Nat) (t : TypeId) (k j : Nat) (so : Value) (wr : World) : Prop where
  own : wr.ownsRow w.heap.size t k so j (vals .u32 (numsB bs i0 (j * k)))
  rd : RdB wr R b off c bs (i0 + 4 * k * j)
  asd : Aside R w wr
def SevOut (w : World) (R b off c : Nat) (bs : List Int) (i0 : Nat) (t : TypeId) (k n : Nat) (F : Nat → Option (Int × Int)) (e : Ending) (w' : World) : Prop :=
  (firstF F n = none ∧ ∃ v, e = .returned v ∧ SevS w R b off c bs i0 t k n v w') ∨ ∃ x, firstF F n = some x ∧ ThrowOut w R x e w'

theorem SevS.next {w : World} {R b off c : Nat} {bs : List Int} {i0 : Nat} {t : TypeId} {k j : Nat} {so : Value} {wr V w' : World} (h : SevS w R b off c bs i0 t k j so wr) (hR : R < w.heap.size) (hb : b < w.heap.size) (hr : RdB V R b off c bs (i0 + 4 * k * (j + 1))) (ha : Aside R wr V) {v' : Value} (ho : w'.ownsRow w.heap.size t k v' (j + 1) (vals .u32 (numsB bs i0 ((j + 1) * k)))) (hl : Below w.heap.size V w') : SevS w R b off c bs i0 t k (j + 1) v' w' :=
  ⟨ho, hr.low hl hR hb, (h.asd.trans ha).high hl (Nat.le_refl _)⟩

theorem nums9 {bs : List Int} {p j I : Nat} (hI : I = p + 36 * j) (hl : I + 36 ≤ bs.length) : numsB bs p ((j + 1) * 9) = numsB bs p (j * 9) ++ [numB bs I 4, numB bs (I + 4) 4, numB bs (I + 8) 4, numB bs (I + 12) 4, numB bs (I + 12 + 4) 4, numB bs (I + 12 + 8) 4, numB bs (I + 24) 4, numB bs (I + 24 + 4) 4, numB bs (I + 24 + 8) 4] := by
  rw [show (j + 1) * 9 = j * 9 + 1 + 1 + 1 + 1 + 1 + 1 + 1 + 1 + 1 by omega]
  have e0 : fltB bs (p + 4 * (j * 9)) = numB bs I 4 := by rw [flt_num (by omega), show p + 4 * (j * 9) = I by omega]
  have e1 : fltB bs (p + 4 * (j * 9 + 1)) = numB bs (I + 4) 4 := by rw [flt_num (by omega), show p + 4 * (j * 9 + 1) = I + 4 by omega]
  have e2 : fltB bs (p + 4 * (j * 9 + 1 + 1)) = numB bs (I + 8) 4 := by rw [flt_num (by omega), show p + 4 * (j * 9 + 1 + 1) = I + 8 by omega]
  have e3 : fltB bs (p + 4 * (j * 9 + 1 + 1 + 1)) = numB bs (I + 12) 4 := by rw [flt_num (by omega), show p + 4 * (j * 9 + 1 + 1 + 1) = I + 12 by omega]
  have e4 : fltB bs (p + 4 * (j * 9 + 1 + 1 + 1 + 1)) = numB bs (I + 12 + 4) 4 := by rw [flt_num (by omega), show p + 4 * (j * 9 + 1 + 1 + 1 + 1) = I + 12 + 4 by omega]
  have e5 : fltB bs (p + 4 * (j * 9 + 1 + 1 + 1 + 1 + 1)) = numB bs (I + 12 + 8) 4 := by rw [flt_num (by omega), show p + 4 * (j * 9 + 1 + 1 + 1 + 1 + 1) = I + 12 + 8 by omega]
  have e6 : fltB bs (p + 4 * (j * 9 + 1 + 1 + 1 + 1 + 1 + 1)) = numB bs (I + 24) 4 := by rw [flt_num (by omega), show p + 4 * (j * 9 + 1 + 1 + 1 + 1 + 1 + 1) = I + 24 by omega]
  have e7 : fltB bs (p + 4 * (j * 9 + 1 + 1 + 1 + 1 + 1 + 1 + 1)) = numB bs (I + 24 + 4) 4 := by rw [flt_num (by omega), show p + 4 * (j * 9 + 1 + 1 + 1 + 1 + 1 + 1 + 1) = I + 24 + 4 by omega]
  have e8 : fltB bs (p + 4 * (j * 9 + 1 + 1 + 1 + 1 + 1 + 1 + 1 + 1)) = numB bs (I + 24 + 8) 4 := by rw [flt_num (by omega), show p + 4 * (j * 9 + 1 + 1 + 1 + 1 + 1 + 1 + 1 + 1) = I + 24 + 8 by omega]
  rw [nums_succ, nums_succ, nums_succ, nums_succ, nums_succ, nums_succ, nums_succ, nums_succ, nums_succ, e0, e1, e2, e3, e4, e5, e6, e7, e8]
  simp only [List.append_assoc, List.cons_append, List.nil_append]

theorem app9w {ops : Array Oper} {rest : List Oper} {o : Oper} {ac : Act} {Q : Exit → Act → World → Prop} (hgd : o.guard = none) (s x : Operand)
    (ho : o.op = .call { callee := .builtin .append, args := #[s, x], argTypes := #[47, 47] })
    (base : Nat) (v : Value) (n : Nat) (zs : List Int) (x0 x1 x2 x3 x4 x5 x6 x7 x8 : Int) (w0 : World) (hs : ac.eval s = v) (hx : ac.eval x = .slice (some ⟨w0.heap.size, 0, none⟩) 1 1) (hown : w0.ownsRow base 99 9 v n (vals .u32 zs)) (hn : n ≤ 100000) (hbase : base ≤ w0.heap.size)
    (h : ∀ g cap w', w'.ownsRow base 99 9 (.slice (some ⟨g, 0, none⟩) (n + 1) cap) (n + 1) (vals .u32 (zs ++ [x0, x1, x2, x3, x4, x5, x6, x7, x8])) → Below base w0 w' → wpList Try.prog ops Q rest (ac.put o.dst (.slice (some ⟨g, 0, none⟩) (n + 1) cap)) w') :
    wpList Try.prog ops Q (o :: rest) ac (w0.alloc (.cells #[.int .u32 x0, .int .u32 x1, .int .u32 x2, .int .u32 x3, .int .u32 x4, .int .u32 x5, .int .u32 x6, .int .u32 x7, .int .u32 x8] 99)) := by
  obtain ⟨i0, hi, hz0, hz1, hz2⟩ := info_parts info_Tri
  refine wpList_append_lies (P := Try.prog) (w0.alloc (.cells #[.int .u32 x0, .int .u32 x1, .int .u32 x2, .int .u32 x3, .int .u32 x4, .int .u32 x5, .int .u32 x6, .int .u32 x7, .int .u32 x8] 99)) hgd s x 47 ho base 99 i0 _ 9 36 Try.underlying47 hi hz0 hz1 hz2 rfl (by decide) v n (vals .u32 zs) hs (hown.alloc _) ⟨w0.heap.size, 0, none⟩ 1 1 (vals .u32 [x0, x1, x2, x3, x4, x5, x6, x7, x8]) hx rfl ?_ ?_ (by decide) (by unfold maxLen; omega) (by omega) (by simp; omega) _ rfl ?_
  · exact World.news_of_block (cs := #[.int .u32 x0, .int .u32 x1, .int .u32 x2, .int .u32 x3, .int .u32 x4, .int .u32 x5, .int .u32 x6, .int .u32 x7, .int .u32 x8]) (by first | exact heap_alloc_new _ _ | exact Go.heap_alloc_new _ _)
  · intro u hu
    simp [vals] at hu
    rcases hu with rfl | rfl | rfl | rfl | rfl | rfl | rfl | rfl | rfl <;> rfl
  · intro g cap w' hown' hgrow _ _
    refine h g cap w' ?_ ?_
    · simpa [vals] using hown'
    · refine ((bel0 w0 _).mono hbase |>.grown hgrow (by simp; omega) ?_)
      intro k hk
      rcases hown.2 with ⟨h1, _⟩ | ⟨g0, cap0, cur, h1, h2, _⟩
      · rw [h1] at hk; simp [Value.ownBlock] at hk
      · rw [h1] at hk; simp [Value.ownBlock] at hk; omega

set_option maxRecDepth 100000 in
set_option maxHeartbeats 1000000 in
theorem several_tri (R b off c : Nat) (bs : List Int) (i0 n : Nat) (w : World) (hu : U8 bs) (hn : n ≤ 1000) (hb : b < w.heap.size) (h : RdB w R b off c bs i0) :
    Calls Try.prog 99 #[.int .i64 n, .func (Fn.func 100) #[.pointer (some ⟨R, 0, none⟩)] #[]] w fun e w' => SevOut w R b off c bs i0 99 9 n (fun j => triF bs (i0 + 4 * 9 * j)) e w' := by
  have HU : Hid (U8 bs) := hu
  have HH : Hid (RdB w R b off c bs i0) := h
  have HR : Hid (R < w.heap.size) := h.lt
  have HB : Hid (b < w.heap.size) := hb
  clear hu h hb
  go_enter Try.func99, Try.ntmps99
  go_wp2
  go_loopw [5, 7] (fun so si wr => ∃ (j : Nat), j ≤ n ∧ si = .int .i64 j ∧ Hid (firstF (fun j => triF bs (i0 + 4 * 9 * j)) j = none) ∧ Hid (SevS w R b off c bs i0 99 9 j so wr)) (fun _ si _ => n - (intOf si).toNat)
  case atStart => exact ⟨0, Nat.zero_le _, rfl, rfl, ⟨⟨by simp [vals, numsB], .inl ⟨rfl, rfl⟩⟩, HH.out, Aside.refl _ _⟩⟩
  case round =>
    obtain ⟨j, hj, rfl, hA, hS⟩ := hrel
    by_cases hlt : j < n
    · have hib : (j : Int) < n := by omega
      cases hF : triF bs (i0 + 4 * 9 * j) with
      | none =>
        have HN : Hid (firstF (fun j => triF bs (i0 + 4 * 9 * j)) (j + 1) = none) := firstF_succ hA.out hF
        have HF : Hid (triF bs (i0 + 4 * 9 * j) = none) := hF
        have HE : Hid (∀ I, I = i0 + 4 * 9 * j → numsB bs i0 ((j + 1) * 9) = numsB bs i0 (j * 9) ++ [numB bs I 4, numB bs (I + 4) 4, numB bs (I + 8) 4, numB bs (I + 12) 4, numB bs (I + 12 + 4) 4, numB bs (I + 12 + 8) 4, numB bs (I + 24) 4, numB bs (I + 24 + 4) 4, numB bs (I + 24 + 8) 4]) := by
          intro I hI
          exact nums9 (by omega) (by have := triF_len hF; omega)
        have hbl : b < wr.heap.size := Nat.lt_of_lt_of_le HB.out hS.out.asd.size
        obtain ⟨I, hI⟩ : ∃ I, I = i0 + 4 * 9 * j := ⟨_, rfl⟩
        have HI : Hid (I = i0 + 4 * 9 * j) := hI
        rw [← hI] at HF
        clear hF hI
        go_wp2_with fail
        refine (tri_ok R b off c bs I _ HU.out hbl HF.out (by rw [HI.out]; exact hS.out.rd)).mono ?_
        rintro e V ⟨rfl, hrd, has⟩
        have HV : Hid (RdB V R b off c bs (i0 + 4 * 9 * (j + 1)) ∧ Aside R wr V) := ⟨by rw [show i0 + 4 * 9 * (j + 1) = I + 36 by rw [HI.out]; omega]; exact hrd, has⟩
        have HO : Hid (V.ownsRow w.heap.size 99 9 u5 j (vals .u32 (numsB bs i0 (j * 9)))) := aside_ownk has hS.out.own HR.out
        have hsz : w.heap.size ≤ V.heap.size := Nat.le_trans hS.out.asd.size has.size
        clear hrd has HF
        go_wp2_with (at_builtin; refine app9w rfl (.tmp 9) (.tmp 12) rfl w.heap.size _ j _ _ _ _ _ _ _ _ _ _ V rfl rfl HO.out (by omega) hsz ?_; intro g1 k1 w1 ho1 hb1)
        have HS : Hid (SevS w R b off c bs i0 99 9 (j + 1) (.slice (some ⟨g1, 0, none⟩) (j + 1) k1) w1) := hS.out.next HR.out HB.out HV.out.1 HV.out.2 (by rw [HE.out I HI.out]; exact ho1) hb1
        clear ho1 hb1 HO HV hS hsz
        go_roundw
        case rel => exact ⟨j + 1, by omega, by go_num, HN, HS⟩
        case measure => simp [intOf]; omega
      | some x =>
        have HX : Hid (firstF (fun j => triF bs (i0 + 4 * 9 * j)) n = some x) := firstF_hit hlt hA.out hF
        have HF : Hid (triF bs (i0 + 4 * 9 * j) = some x) := hF
        have hbl : b < wr.heap.size := Nat.lt_of_lt_of_le HB.out hS.out.asd.size
        clear hF
        go_wp2_with fail
        refine (tri_bad R b off c bs (i0 + 4 * 9 * j) x _ HU.out hbl HF.out hS.out.rd).mono ?_
        rintro e V ⟨rfl, has⟩
        exact ⟨rfl, .inr ⟨x, HX.out, rfl, hS.out.asd.trans has⟩⟩
    · have hje : n = j := by omega
      subst hje
      go_wp2
      go_ret
      exact .inl ⟨hA.out, _, rfl, hS.out⟩

theorem nums6 {bs : List Int} {p j I : Nat} (hI : I = p + 24 * j) (hl : I + 24 ≤ bs.length) : numsB bs p ((j + 1) * 6) = numsB bs p (j * 6) ++ [numB bs I 4, numB bs (I + 4) 4, numB bs (I + 8) 4, numB bs (I + 12) 4, numB bs (I + 12 + 4) 4, numB bs (I + 12 + 8) 4] := by
  rw [show (j + 1) * 6 = j * 6 + 1 + 1 + 1 + 1 + 1 + 1 by omega]
  have e0 : fltB bs (p + 4 * (j * 6)) = numB bs I 4 := by rw [flt_num (by omega), show p + 4 * (j * 6) = I by omega]
  have e1 : fltB bs (p + 4 * (j * 6 + 1)) = numB bs (I + 4) 4 := by rw [flt_num (by omega), show p + 4 * (j * 6 + 1) = I + 4 by omega]
  have e2 : fltB bs (p + 4 * (j * 6 + 1 + 1)) = numB bs (I + 8) 4 := by rw [flt_num (by omega), show p + 4 * (j * 6 + 1 + 1) = I + 8 by omega]
  have e3 : fltB bs (p + 4 * (j * 6 + 1 + 1 + 1)) = numB bs (I + 12) 4 := by rw [flt_num (by omega), show p + 4 * (j * 6 + 1 + 1 + 1) = I + 12 by omega]
  have e4 : fltB bs (p + 4 * (j * 6 + 1 + 1 + 1 + 1)) = numB bs (I + 12 + 4) 4 := by rw [flt_num (by omega), show p + 4 * (j * 6 + 1 + 1 + 1 + 1) = I + 12 + 4 by omega]
  have e5 : fltB bs (p + 4 * (j * 6 + 1 + 1 + 1 + 1 + 1)) = numB bs (I + 12 + 8) 4 := by rw [flt_num (by omega), show p + 4 * (j * 6 + 1 + 1 + 1 + 1 + 1) = I + 12 + 8 by omega]
  rw [nums_succ, nums_succ, nums_succ, nums_succ, nums_succ, nums_succ, e0, e1, e2, e3, e4, e5]
  simp only [List.append_assoc, List.cons_append, List.nil_append]

theorem app6w {ops : Array Oper} {rest : List Oper} {o : Oper} {ac : Act} {Q : Exit → Act → World → Prop} (hgd : o.guard = none) (s x : Operand)
    (ho : o.op = .call { callee := .builtin .append, args := #[s, x], argTypes := #[48, 48] })
    (base : Nat) (v : Value) (n : Nat) (zs : List Int) (x0 x1 x2 x3 x4 x5 : Int) (w0 : World) (hs : ac.eval s = v) (hx : ac.eval x = .slice (some ⟨w0.heap.size, 0, none⟩) 1 1) (hown : w0.ownsRow base 86 6 v n (vals .u32 zs)) (hn : n ≤ 100000) (hbase : base ≤ w0.heap.size)
    (h : ∀ g cap w', w'.ownsRow base 86 6 (.slice (some ⟨g, 0, none⟩) (n + 1) cap) (n + 1) (vals .u32 (zs ++ [x0, x1, x2, x3, x4, x5])) → Below base w0 w' → wpList Try.prog ops Q rest (ac.put o.dst (.slice (some ⟨g, 0, none⟩) (n + 1) cap)) w') :
    wpList Try.prog ops Q (o :: rest) ac (w0.alloc (.cells #[.int .u32 x0, .int .u32 x1, .int .u32 x2, .int .u32 x3, .int .u32 x4, .int .u32 x5] 86)) := by
  obtain ⟨i0, hi, hz0, hz1, hz2⟩ := info_parts info_Ray
  refine wpList_append_lies (P := Try.prog) (w0.alloc (.cells #[.int .u32 x0, .int .u32 x1, .int .u32 x2, .int .u32 x3, .int .u32 x4, .int .u32 x5] 86)) hgd s x 48 ho base 86 i0 _ 6 24 Try.underlying48 hi hz0 hz1 hz2 rfl (by decide) v n (vals .u32 zs) hs (hown.alloc _) ⟨w0.heap.size, 0, none⟩ 1 1 (vals .u32 [x0, x1, x2, x3, x4, x5]) hx rfl ?_ ?_ (by decide) (by unfold maxLen; omega) (by omega) (by simp; omega) _ rfl ?_
  · exact World.news_of_block (cs := #[.int .u32 x0, .int .u32 x1, .int .u32 x2, .int .u32 x3, .int .u32 x4, .int .u32 x5]) (by first | exact heap_alloc_new _ _ | exact Go.heap_alloc_new _ _)
  · intro u hu
    simp [vals] at hu
    rcases hu with rfl | rfl | rfl | rfl | rfl | rfl <;> rfl
  · intro g cap w' hown' hgrow _ _
    refine h g cap w' ?_ ?_
    · simpa [vals] using hown'
    · refine ((bel0 w0 _).mono hbase |>.grown hgrow (by simp; omega) ?_)
      intro k hk
      rcases hown.2 with ⟨h1, _⟩ | ⟨g0, cap0, cur, h1, h2, _⟩
      · rw [h1] at hk; simp [Value.ownBlock] at hk
      · rw [h1] at hk; simp [Value.ownBlock] at hk; omega

set_option maxRecDepth 100000 in
set_option maxHeartbeats 1000000 in
theorem several_ray (R b off c : Nat) (bs : List Int) (i0 n : Nat) (w : World) (hu : U8 bs) (hn : n ≤ 1000) (hb : b < w.heap.size) (h : RdB w R b off c bs i0) :
    Calls Try.prog 101 #[.int .i64 n, .func (Fn.func 102) #[.pointer (some ⟨R, 0, none⟩)] #[]] w fun e w' => SevOut w R b off c bs i0 86 6 n (fun j => rayF bs (i0 + 4 * 6 * j)) e w' := by
  have HU : Hid (U8 bs) := hu
  have HH : Hid (RdB w R b off c bs i0) := h
  have HR : Hid (R < w.heap.size) := h.lt
  have HB : Hid (b < w.heap.size) := hb
  clear hu h hb
  go_enter Try.func101, Try.ntmps101
  go_wp2
  go_loopw [5, 7] (fun so si wr => ∃ (j : Nat), j ≤ n ∧ si = .int .i64 j ∧ Hid (firstF (fun j => rayF bs (i0 + 4 * 6 * j)) j = none) ∧ Hid (SevS w R b off c bs i0 86 6 j so wr)) (fun _ si _ => n - (intOf si).toNat)
  case atStart => exact ⟨0, Nat.zero_le _, rfl, rfl, ⟨⟨by simp [vals, numsB], .inl ⟨rfl, rfl⟩⟩, HH.out, Aside.refl _ _⟩⟩
  case round =>
    obtain ⟨j, hj, rfl, hA, hS⟩ := hrel
    by_cases hlt : j < n
    · have hib : (j : Int) < n := by omega
      cases hF : rayF bs (i0 + 4 * 6 * j) with
      | none =>
        have HN : Hid (firstF (fun j => rayF bs (i0 + 4 * 6 * j)) (j + 1) = none) := firstF_succ hA.out hF
        have HF : Hid (rayF bs (i0 + 4 * 6 * j) = none) := hF
        have HE : Hid (∀ I, I = i0 + 4 * 6 * j → numsB bs i0 ((j + 1) * 6) = numsB bs i0 (j * 6) ++ [numB bs I 4, numB bs (I + 4) 4, numB bs (I + 8) 4, numB bs (I + 12) 4, numB bs (I + 12 + 4) 4, numB bs (I + 12 + 8) 4]) := by
          intro I hI
          exact nums6 (by omega) (by have := rayF_len hF; omega)
        have hbl : b < wr.heap.size := Nat.lt_of_lt_of_le HB.out hS.out.asd.size
        obtain ⟨I, hI⟩ : ∃ I, I = i0 + 4 * 6 * j := ⟨_, rfl⟩
        have HI : Hid (I = i0 + 4 * 6 * j) := hI
        rw [← hI] at HF
        clear hF hI
        go_wp2_with fail
        refine (ray_ok R b off c bs I _ HU.out hbl HF.out (by rw [HI.out]; exact hS.out.rd)).mono ?_
        rintro e V ⟨rfl, hrd, has⟩
        have HV : Hid (RdB V R b off c bs (i0 + 4 * 6 * (j + 1)) ∧ Aside R wr V) := ⟨by rw [show i0 + 4 * 6 * (j + 1) = I + 24 by rw [HI.out]; omega]; exact hrd, has⟩
        have HO : Hid (V.ownsRow w.heap.size 86 6 u5 j (vals .u32 (numsB bs i0 (j * 6)))) := aside_ownk has hS.out.own HR.out
        have hsz : w.heap.size ≤ V.heap.size := Nat.le_trans hS.out.asd.size has.size
        clear hrd has HF
        go_wp2_with (at_builtin; refine app6w rfl (.tmp 9) (.tmp 12) rfl w.heap.size _ j _ _ _ _ _ _ _ V rfl rfl HO.out (by omega) hsz ?_; intro g1 k1 w1 ho1 hb1)
        have HS : Hid (SevS w R b off c bs i0 86 6 (j + 1) (.slice (some ⟨g1, 0, none⟩) (j + 1) k1) w1) := hS.out.next HR.out HB.out HV.out.1 HV.out.2 (by rw [HE.out I HI.out]; exact ho1) hb1
        clear ho1 hb1 HO HV hS hsz
        go_roundw
        case rel => exact ⟨j + 1, by omega, by go_num, HN, HS⟩
        case measure => simp [intOf]; omega
      | some x =>
        have HX : Hid (firstF (fun j => rayF bs (i0 + 4 * 6 * j)) n = some x) := firstF_hit hlt hA.out hF
        have HF : Hid (rayF bs (i0 + 4 * 6 * j) = some x) := hF
        have hbl : b < wr.heap.size := Nat.lt_of_lt_of_le HB.out hS.out.asd.size
        clear hF
        go_wp2_with fail
        refine (ray_bad R b off c bs (i0 + 4 * 6 * j) x _ HU.out hbl HF.out hS.out.rd).mono ?_
        rintro e V ⟨rfl, has⟩
        exact ⟨rfl, .inr ⟨x, HX.out, rfl, hS.out.asd.trans has⟩⟩
    · have hje : n = j := by omega
      subst hje
      go_wp2
      go_ret
      exact .inl ⟨hA.out, _, rfl, hS.out⟩

theorem nums3 {bs : List Int} {p j I : Nat} (hI : I = p + 12 * j) (hl : I + 12 ≤ bs.length) : numsB bs p ((j + 1) * 3) = numsB bs p (j * 3) ++ [numB bs I 4, numB bs (I + 4) 4, numB bs (I + 8) 4] := by
  rw [show (j + 1) * 3 = j * 3 + 1 + 1 + 1 by omega]
  have e0 : fltB bs (p + 4 * (j * 3)) = numB bs I 4 := by rw [flt_num (by omega), show p + 4 * (j * 3) = I by omega]
  have e1 : fltB bs (p + 4 * (j * 3 + 1)) = numB bs (I + 4) 4 := by rw [flt_num (by omega), show p + 4 * (j * 3 + 1) = I + 4 by omega]
  have e2 : fltB bs (p + 4 * (j * 3 + 1 + 1)) = numB bs (I + 8) 4 := by rw [flt_num (by omega), show p + 4 * (j * 3 + 1 + 1) = I + 8 by omega]
  rw [nums_succ, nums_succ, nums_succ, e0, e1, e2]
  simp only [List.append_assoc, List.cons_append, List.nil_append]

theorem app3w {ops : Array Oper} {rest : List Oper} {o : Oper} {ac : Act} {Q : Exit → Act → World → Prop} (hgd : o.guard = none) (s x : Operand)
    (ho : o.op = .call { callee := .builtin .append, args := #[s, x], argTypes := #[49, 49] })
    (base : Nat) (v : Value) (n : Nat) (zs : List Int) (x0 x1 x2 : Int) (w0 : World) (hs : ac.eval s = v) (hx : ac.eval x = .slice (some ⟨w0.heap.size, 0, none⟩) 1 1) (hown : w0.ownsRow base 84 3 v n (vals .u32 zs)) (hn : n ≤ 100000) (hbase : base ≤ w0.heap.size)
    (h : ∀ g cap w', w'.ownsRow base 84 3 (.slice (some ⟨g, 0, none⟩) (n + 1) cap) (n + 1) (vals .u32 (zs ++ [x0, x1, x2])) → Below base w0 w' → wpList Try.prog ops Q rest (ac.put o.dst (.slice (some ⟨g, 0, none⟩) (n + 1) cap)) w') :
    wpList Try.prog ops Q (o :: rest) ac (w0.alloc (.cells #[.int .u32 x0, .int .u32 x1, .int .u32 x2] 84)) := by
  obtain ⟨i0, hi, hz0, hz1, hz2⟩ := info_parts info_Point
  refine wpList_append_lies (P := Try.prog) (w0.alloc (.cells #[.int .u32 x0, .int .u32 x1, .int .u32 x2] 84)) hgd s x 49 ho base 84 i0 _ 3 12 Try.underlying49 hi hz0 hz1 hz2 rfl (by decide) v n (vals .u32 zs) hs (hown.alloc _) ⟨w0.heap.size, 0, none⟩ 1 1 (vals .u32 [x0, x1, x2]) hx rfl ?_ ?_ (by decide) (by unfold maxLen; omega) (by omega) (by simp; omega) _ rfl ?_
  · exact World.news_of_block (cs := #[.int .u32 x0, .int .u32 x1, .int .u32 x2]) (by first | exact heap_alloc_new _ _ | exact Go.heap_alloc_new _ _)
  · intro u hu
    simp [vals] at hu
    rcases hu with rfl | rfl | rfl <;> rfl
  · intro g cap w' hown' hgrow _ _
    refine h g cap w' ?_ ?_
    · simpa [vals] using hown'
    · refine ((bel0 w0 _).mono hbase |>.grown hgrow (by simp; omega) ?_)
      intro k hk
      rcases hown.2 with ⟨h1, _⟩ | ⟨g0, cap0, cur, h1, h2, _⟩
      · rw [h1] at hk; simp [Value.ownBlock] at hk
      · rw [h1] at hk; simp [Value.ownBlock] at hk; omega

set_option maxRecDepth 100000 in
set_option maxHeartbeats 1000000 in
theorem several_point (R b off c : Nat) (bs : List Int) (i0 n : Nat) (w : World) (hu : U8 bs) (hn : n ≤ 1000) (hb : b < w.heap.size) (h : RdB w R b off c bs i0) :
    Calls Try.prog 103 #[.int .i64 n, .func (Fn.func 104) #[.pointer (some ⟨R, 0, none⟩)] #[]] w fun e w' => SevOut w R b off c bs i0 84 3 n (fun j => ptF bs (i0 + 4 * 3 * j)) e w' := by
  have HU : Hid (U8 bs) := hu
  have HH : Hid (RdB w R b off c bs i0) := h
  have HR : Hid (R < w.heap.size) := h.lt
  have HB : Hid (b < w.heap.size) := hb
  clear hu h hb
  go_enter Try.func103, Try.ntmps103
  go_wp2
  go_loopw [5, 7] (fun so si wr => ∃ (j : Nat), j ≤ n ∧ si = .int .i64 j ∧ Hid (firstF (fun j => ptF bs (i0 + 4 * 3 * j)) j = none) ∧ Hid (SevS w R b off c bs i0 84 3 j so wr)) (fun _ si _ => n - (intOf si).toNat)
  case atStart => exact ⟨0, Nat.zero_le _, rfl, rfl, ⟨⟨by simp [vals, numsB], .inl ⟨rfl, rfl⟩⟩, HH.out, Aside.refl _ _⟩⟩
  case round =>
    obtain ⟨j, hj, rfl, hA, hS⟩ := hrel
    by_cases hlt : j < n
    · have hib : (j : Int) < n := by omega
      cases hF : ptF bs (i0 + 4 * 3 * j) with
      | none =>
        have HN : Hid (firstF (fun j => ptF bs (i0 + 4 * 3 * j)) (j + 1) = none) := firstF_succ hA.out hF
        have HF : Hid (ptF bs (i0 + 4 * 3 * j) = none) := hF
        have HE : Hid (∀ I, I = i0 + 4 * 3 * j → numsB bs i0 ((j + 1) * 3) = numsB bs i0 (j * 3) ++ [numB bs I 4, numB bs (I + 4) 4, numB bs (I + 8) 4]) := by
          intro I hI
          exact nums3 (by omega) (by have := ptF_len hF; omega)
        have hbl : b < wr.heap.size := Nat.lt_of_lt_of_le HB.out hS.out.asd.size
        obtain ⟨I, hI⟩ : ∃ I, I = i0 + 4 * 3 * j := ⟨_, rfl⟩
        have HI : Hid (I = i0 + 4 * 3 * j) := hI
        rw [← hI] at HF
        clear hF hI
        go_wp2_with fail
        refine (point_ok R b off c bs I _ HU.out hbl HF.out (by rw [HI.out]; exact hS.out.rd)).mono ?_
        rintro e V ⟨rfl, hrd, has⟩
        have HV : Hid (RdB V R b off c bs (i0 + 4 * 3 * (j + 1)) ∧ Aside R wr V) := ⟨by rw [show i0 + 4 * 3 * (j + 1) = I + 12 by rw [HI.out]; omega]; exact hrd, has⟩
        have HO : Hid (V.ownsRow w.heap.size 84 3 u5 j (vals .u32 (numsB bs i0 (j * 3)))) := aside_ownk has hS.out.own HR.out
        have hsz : w.heap.size ≤ V.heap.size := Nat.le_trans hS.out.asd.size has.size
        clear hrd has HF
        go_wp2_with (at_builtin; refine app3w rfl (.tmp 9) (.tmp 12) rfl w.heap.size _ j _ _ _ _ V rfl rfl HO.out (by omega) hsz ?_; intro g1 k1 w1 ho1 hb1)
        have HS : Hid (SevS w R b off c bs i0 84 3 (j + 1) (.slice (some ⟨g1, 0, none⟩) (j + 1) k1) w1) := hS.out.next HR.out HB.out HV.out.1 HV.out.2 (by rw [HE.out I HI.out]; exact ho1) hb1
        clear ho1 hb1 HO HV hS hsz
        go_roundw
        case rel => exact ⟨j + 1, by omega, by go_num, HN, HS⟩
        case measure => simp [intOf]; omega
      | some x =>
        have HX : Hid (firstF (fun j => ptF bs (i0 + 4 * 3 * j)) n = some x) := firstF_hit hlt hA.out hF
        have HF : Hid (ptF bs (i0 + 4 * 3 * j) = some x) := hF
        have hbl : b < wr.heap.size := Nat.lt_of_lt_of_le HB.out hS.out.asd.size
        clear hF
        go_wp2_with fail
        refine (point_bad R b off c bs (i0 + 4 * 3 * j) x _ HU.out hbl HF.out hS.out.rd).mono ?_
        rintro e V ⟨rfl, has⟩
        exact ⟨rfl, .inr ⟨x, HX.out, rfl, hS.out.asd.trans has⟩⟩
    · have hje : n = j := by omega
      subst hje
      go_wp2
      go_ret
      exact .inl ⟨hA.out, _, rfl, hS.out⟩

end Go.Proofs.Ytcjdnomhnlbmbaa

/-
  What is read out of a picture's bytes: its counts, its ids, its bits.
-/
namespace Go.Proofs.Ytcjdnomhnlbmbaa
open Go.RowKit

theorem leV_one {v : Int} (h0 : 0 ≤ v) (h1 : v < 256) : leV (leB v 1) = v := by simp [leB, divB, leV]; omega
theorem leV_two {v : Int} (h0 : 0 ≤ v) (h1 : v < 65536) : leV (leB v 2) = v := by simp [leB, divB, leV]; omega
theorem leV_four {v : Int} (h0 : 0 ≤ v) (h1 : v < 4294967296) : leV (leB v 4) = v := by simp [leB, divB, leV]; omega

theorem numB_at {A B C : List Int} {p n : Nat} (hp : p = A.length) (hn : n = B.length) : numB (A ++ (B ++ C)) p n = leV B := by
  subst hp hn
  unfold numB
  rw [if_neg (by simp), List.drop_left, List.take_left]

theorem idsB_split (g : Nat → Int) : ∀ n i, i < n → ∃ T, idsB g n = idsB g i ++ (idB (g i) ++ T)
  | 0, i, hi => absurd hi (by omega)
  | n + 1, i, hi => by
    by_cases e : i < n
    · obtain ⟨T, hT⟩ := idsB_split g n i e
      exact ⟨T ++ idB (g n), by rw [idsB, hT]; simp⟩
    · have : i = n := by omega
      subst this
      exact ⟨[], by rw [idsB]; simp⟩
theorem litB_split (n3 : Nat) (h : Nat → Bool) : ∀ m q, q < m → ∃ T, litB n3 h m = litB n3 h q ++ ([bitsF n3 h (8 * q) 8] ++ T)
  | 0, q, hq => absurd hq (by omega)
  | m + 1, q, hq => by
    by_cases e : q < m
    · obtain ⟨T, hT⟩ := litB_split n3 h m q e
      exact ⟨T ++ [bitsF n3 h (8 * m) 8], by rw [litB, hT]; simp⟩
    · have : q = m := by omega
      subst this
      exact ⟨[], by rw [litB]; simp⟩

theorem bitsF_half (n3 : Nat) (h : Nat → Bool) (i t : Nat) : bitsF n3 h i (t + 1) / 2 = bitsF n3 h i t := by
  have := bitF_range n3 h (i + (7 - t))
  simp only [bitsF]
  omega
theorem bitsF_low (n3 : Nat) (h : Nat → Bool) (i t : Nat) : bitsF n3 h i (t + 1) % 2 = bitF n3 h (i + (7 - t)) := by
  have := bitF_range n3 h (i + (7 - t))
  simp only [bitsF]
  omega
theorem bitsF_div (n3 : Nat) (h : Nat → Bool) (i : Nat) : ∀ k t, k ≤ t → bitsF n3 h i t / 2 ^ k = bitsF n3 h i (t - k)
  | 0, t, _ => by simp
  | k + 1, t, hk => by
    rw [Int.pow_succ, ← Int.ediv_ediv_of_nonneg (Int.pow_nonneg (by decide)), bitsF_div n3 h i k t (by omega), show t - k = (t - (k + 1)) + 1 by omega, bitsF_half]
/-- The bit at a place of a byte of the picture. -/
theorem bit_at (n3 : Nat) (h : Nat → Bool) (i k : Nat) (hk : k < 8) : bitsF n3 h i 8 / 2 ^ k % 2 = bitF n3 h (i + k) := by
  rw [bitsF_div n3 h i k 8 (by omega), show 8 - k = (7 - k) + 1 by omega, bitsF_low, show 7 - (7 - k) = k by omega]

theorem IsPic.bounds {bs : List Int} {n1 n3 : Nat} {g : Nat → Int} {L : Int} {h : Nat → Bool} (p : IsPic bs n1 n3 g L h) : n1 ≤ 40 ∧ 0 ≤ L ∧ L ≤ 4 ∧ (n3 : Int) = n1 * L ∧ ∀ i, i < n1 → -1 ≤ g i ∧ g i < 40 := by
  have p1 := p.ok
  unfold validPc at p1
  simp only [Bool.and_eq_true, decide_eq_true_eq] at p1
  obtain ⟨⟨⟨⟨a1, a2⟩, a3⟩, a4⟩, a5⟩ := p1
  refine ⟨a1, a2, a3, a4, fun i hi => ?_⟩
  have := List.all_eq_true.1 a5 i (List.mem_range.2 hi)
  unfold idOK at this
  simpa using this

theorem IsPic.count {bs : List Int} {n1 n3 : Nat} {g : Nat → Int} {L : Int} {h : Nat → Bool} (p : IsPic bs n1 n3 g L h) : numB bs 4 2 = n1 := by
  rw [← p.enc]
  unfold encPc headP
  rw [show [80, 73, 67, 84] ++ leB (n1 : Int) 2 ++ leB L 1 ++ idsB g n1 ++ litB n3 h ((n3 + 7) / 8) = [80, 73, 67, 84] ++ (leB (n1 : Int) 2 ++ (leB L 1 ++ (idsB g n1 ++ litB n3 h ((n3 + 7) / 8)))) by simp only [List.append_assoc]]
  rw [numB_at (A := [80, 73, 67, 84]) (p := 4) rfl (by rw [leB_length]), leV_two (by omega) (by have := p.bounds.1; omega)]
theorem IsPic.lights {bs : List Int} {n1 n3 : Nat} {g : Nat → Int} {L : Int} {h : Nat → Bool} (p : IsPic bs n1 n3 g L h) : numB bs 6 1 = L := by
  rw [← p.enc]
  unfold encPc headP
  rw [show [80, 73, 67, 84] ++ leB (n1 : Int) 2 ++ leB L 1 ++ idsB g n1 ++ litB n3 h ((n3 + 7) / 8) = ([80, 73, 67, 84] ++ leB (n1 : Int) 2) ++ (leB L 1 ++ (idsB g n1 ++ litB n3 h ((n3 + 7) / 8))) by simp only [List.append_assoc]]
  rw [numB_at (by simp [leB_length]) (by rw [leB_length]), leV_one p.bounds.2.1 (by have := p.bounds.2.2.1; omega)]
theorem IsPic.id {bs : List Int} {n1 n3 : Nat} {g : Nat → Int} {L : Int} {h : Nat → Bool} (p : IsPic bs n1 n3 g L h) {i : Nat} (hi : i < n1) : numB bs (7 + 4 * i) 4 = if g i < 0 then 4294967295 else g i := by
  rw [← p.enc]
  obtain ⟨T, hT⟩ := idsB_split g n1 i hi
  unfold encPc
  rw [hT, show headP n1 L ++ (idsB g i ++ (idB (g i) ++ T)) ++ litB n3 h ((n3 + 7) / 8) = (headP n1 L ++ idsB g i) ++ (idB (g i) ++ (T ++ litB n3 h ((n3 + 7) / 8))) by simp only [List.append_assoc]]
  rw [numB_at (by rw [List.length_append, headP_length, idsB_length]; omega) (by rw [idB_length])]
  have hb := p.bounds.2.2.2.2 i hi
  unfold idB
  by_cases hg : g i < 0
  · rw [if_pos hg, if_pos hg]; rfl
  · rw [if_neg hg, if_neg hg, leV_four (by omega) (by omega)]
theorem IsPic.byte {bs : List Int} {n1 n3 : Nat} {g : Nat → Int} {L : Int} {h : Nat → Bool} (p : IsPic bs n1 n3 g L h) {j : Nat} (hj : j < n3) : numB bs (7 + 4 * n1 + j / 8) 1 = bitsF n3 h (8 * (j / 8)) 8 := by
  rw [← p.enc]
  obtain ⟨T, hT⟩ := litB_split n3 h ((n3 + 7) / 8) (j / 8) (by omega)
  unfold encPc
  rw [hT, ← List.append_assoc]
  rw [numB_at (by rw [List.length_append, List.length_append, headP_length, idsB_length, litB_length]; omega) (n := 1) (B := [bitsF n3 h (8 * (j / 8)) 8]) rfl]
  simp [leV]
/-- The bit that is read is the bit that was written. -/
theorem IsPic.bit {bs : List Int} {n1 n3 : Nat} {g : Nat → Int} {L : Int} {h : Nat → Bool} (p : IsPic bs n1 n3 g L h) {j : Nat} (hj : j < n3) : (numB bs (7 + 4 * n1 + j / 8) 1 / 2 ^ (j % 8) % 2 == 1) = h j := by
  rw [p.byte hj, bit_at n3 h _ _ (by omega), show 8 * (j / 8) + j % 8 = j by omega]
  unfold bitF
  cases h j <;> simp [hj]

end Go.Proofs.Ytcjdnomhnlbmbaa

/-
  Bytes as strings, held against one another.
-/
namespace Go.Proofs.Ytcjdnomhnlbmbaa
open Go.RowKit

theorem ofNat_inj8 {a b : Int} (ha : 0 ≤ a ∧ a < 256) (hb : 0 ≤ b ∧ b < 256) (h : UInt8.ofNat a.toNat = UInt8.ofNat b.toNat) : a = b := by
  have h1 := congrArg UInt8.toNat h
  rw [UInt8.toNat_ofNat', UInt8.toNat_ofNat', Nat.mod_eq_of_lt (by omega), Nat.mod_eq_of_lt (by omega)] at h1
  omega
theorem map_inj8 : ∀ {xs ys : List Int}, U8 xs → U8 ys → (xs.map fun n => UInt8.ofNat n.toNat) = (ys.map fun n => UInt8.ofNat n.toNat) → xs = ys
  | [], [], _, _, _ => rfl
  | [], y :: ys, _, _, h => by simp at h
  | x :: xs, [], _, _, h => by simp at h
  | x :: xs, y :: ys, hx, hy, h => by
    simp only [List.map_cons, List.cons.injEq] at h
    rw [ofNat_inj8 (hx x (by simp)) (hy y (by simp)) h.1, map_inj8 (fun z hz => hx z (by simp [hz])) (fun z hz => hy z (by simp [hz])) h.2]

theorem ba_beq (a b : ByteArray) : (a == b) = (a.data == b.data) := by
  cases a
  cases b
  rfl

/-- Two lists of bytes are one string if they are one list. -/
theorem str_same {xs ys : List Int} (hx : U8 xs) (hy : U8 ys) : (strOfNums xs == strOfNums ys) = decide (xs = ys) := by
  rw [ba_beq]
  by_cases h : xs = ys
  · subst h
    simp
  · rw [decide_eq_false h, beq_eq_false_iff_ne]
    intro e
    apply h
    have e1 := congrArg Array.toList e
    exact map_inj8 hx hy e1

theorem conv_str {w : World} {a : Option Addr} {bs : List Int} (h : RowAt .u8 w a bs) (hne : bs ≠ []) (c : Nat) : (convert 22 9 (.slice a bs.length c)).run Try.prog w = .ok (.string (strOfNums bs)) w := by
  obtain ⟨b, off, rfl, _, hc⟩ := h.resolve_left hne
  exact run_convert_bytes_arg w 22 5 Try.underlying22 Try.underlying5 b off bs.length c bs rfl hc 9 Try.underlying9

end Go.Proofs.Ytcjdnomhnlbmbaa

/-
  The picture that is read from bytes.
-/
namespace Go.Proofs.Ytcjdnomhnlbmbaa
open Go.RowKit

def idv (bs : List Int) (i : Nat) : Int := if numB bs (7 + 4 * i) 4 = 4294967295 then -1 else numB bs (7 + 4 * i) 4
def bitv (bs : List Int) (N j : Nat) : Bool := numB bs (7 + 4 * N + j / 8) 1 / 2 ^ (j % 8) % 2 == 1

theorem U8.app {xs ys : List Int} (hx : U8 xs) (hy : U8 ys) : U8 (xs ++ ys) := fun z hz => (List.mem_append.1 hz).elim (hx z) (hy z)
theorem leB_u8 (v : Int) : ∀ n, U8 (leB v n)
  | 0 => fun z hz => by simp [leB] at hz
  | n + 1 => (leB_u8 v n).app fun z hz => by
    have : z = divB v n % 256 := by simpa using hz
    omega
theorem idB_u8 (z : Int) : U8 (idB z) := by
  unfold idB
  split
  · intro y hy; simp at hy; omega
  · exact leB_u8 _ _
theorem idsB_u8 (g : Nat → Int) : ∀ n, U8 (idsB g n)
  | 0 => fun z hz => by simp [idsB] at hz
  | n + 1 => (idsB_u8 g n).app (idB_u8 _)
theorem litB_u8 (n3 : Nat) (h : Nat → Bool) : ∀ m, U8 (litB n3 h m)
  | 0 => fun z hz => by simp [litB] at hz
  | m + 1 => (litB_u8 n3 h m).app fun z hz => by
    have e : z = bitsF n3 h (8 * m) 8 := by simpa using hz
    have := bitsF_small n3 h (8 * m) 8 (by decide)
    omega
theorem encPc_u8 (n1 n3 : Nat) (g : Nat → Int) (L : Int) (h : Nat → Bool) : U8 (encPc n1 n3 g L h) := by
  refine (U8.app (U8.app (U8.app ?_ (leB_u8 _ _)) (leB_u8 _ _)) (idsB_u8 _ _)).app (litB_u8 _ _ _)
  intro z hz
  simp at hz
  omega
theorem encPc_ne (n1 n3 : Nat) (g : Nat → Int) (L : Int) (h : Nat → Bool) : encPc n1 n3 g L h ≠ [] := by
  intro e
  have := congrArg List.length e
  simp [encPc, headP_length] at this

theorem idsB_congr {g g' : Nat → Int} : ∀ n, (∀ i, i < n → g i = g' i) → idsB g n = idsB g' n
  | 0, _ => rfl
  | n + 1, e => by rw [idsB, idsB, idsB_congr n fun i hi => e i (by omega), e n (by omega)]
theorem bitF_congr {n3 : Nat} {h h' : Nat → Bool} (e : ∀ j, j < n3 → h j = h' j) (j : Nat) : bitF n3 h j = bitF n3 h' j := by
  unfold bitF
  by_cases hj : j < n3
  · rw [e j hj]
  · rw [if_neg (fun x => hj x.1), if_neg (fun x => hj x.1)]
theorem bitsF_congr {n3 : Nat} {h h' : Nat → Bool} (e : ∀ j, j < n3 → h j = h' j) (i : Nat) : ∀ t, bitsF n3 h i t = bitsF n3 h' i t
  | 0 => rfl
  | t + 1 => by rw [bitsF, bitsF, bitsF_congr e i t, bitF_congr e]
theorem litB_congr {n3 : Nat} {h h' : Nat → Bool} (e : ∀ j, j < n3 → h j = h' j) : ∀ m, litB n3 h m = litB n3 h' m
  | 0 => rfl
  | m + 1 => by rw [litB, litB, litB_congr e m, bitsF_congr e]

/-- Where there is a picture, it is the one that is read. -/
theorem IsPic.read {bs : List Int} {n1 n3 : Nat} {g : Nat → Int} {L : Int} {h : Nat → Bool} (p : IsPic bs n1 n3 g L h) {N M Lt : Nat} (hN : (N : Int) = numB bs 4 2 ∧ (Lt : Int) = numB bs 6 1) (hM : (N : Int) * Lt = M) : IsPic bs N M (idv bs) Lt (bitv bs N) := by
  obtain ⟨b1, b2, b3, b4, b5⟩ := p.bounds
  rw [p.count, p.lights] at hN
  obtain ⟨e1, e2⟩ := hN
  have e1 : N = n1 := by omega
  subst e1
  subst e2
  have e3 : n3 = M := by omega
  subst e3
  have eg : ∀ i, i < N → g i = idv bs i := by
    intro i hi
    unfold idv
    rw [p.id hi]
    have := b5 i hi
    split <;> split <;> omega
  have eh : ∀ j, j < n3 → h j = bitv bs N j := fun j hj => (p.bit hj).symm
  refine ⟨?_, ?_⟩
  · have q := p.ok
    unfold validPc at q ⊢
    simp only [Bool.and_eq_true, List.all_eq_true, List.mem_range] at q ⊢
    refine ⟨q.1, fun i hi => ?_⟩
    have := q.2 i hi
    unfold idOK at this ⊢
    rw [← eg i hi]
    exact this
  · have q := p.enc
    unfold encPc at q ⊢
    rw [← idsB_congr N eg, ← litB_congr eh]
    exact q

theorem bs_ne {bs : List Int} {N : Nat} (h : (N : Int) = numB bs 4 2) : bs ≠ [] := by
  intro e
  subst e
  rw [numB_short (by simp)] at h
  omega

theorem str_list (x y : ByteArray) : (x.toList == y.toList) = (x == y) := by
  rw [ba_beq, ByteArray.toList_eq, ByteArray.toList_eq]
  by_cases h : x.data = y.data
  · rw [h]
    simp
  · rw [beq_eq_false_iff_ne.2 h, beq_eq_false_iff_ne.2 fun e => h (Array.toList_inj.1 e)]

end Go.Proofs.Ytcjdnomhnlbmbaa
