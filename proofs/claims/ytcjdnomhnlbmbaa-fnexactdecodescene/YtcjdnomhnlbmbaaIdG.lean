/-
  The program's reader: several triangles, rays, points.
-/
import Derived.Test.YtcjdnomhnlbmbaaIdD
import Derived.Test.YtcjdnomhnlbmbaaSpD3
namespace Go.Proofs.Ytcjdnomhnlbmbaa
open Go.RowKit

theorem aside_ownk {R : Nat} {w w' : World} {base k : Nat} {e : TypeId} {v : Value} {n : Nat} {xs : List Value} (h : Aside R w w') (ho : w.ownsRow base e k v n xs) (hp : R < base) : w'.ownsRow base e k v n xs := by
  refine ⟨ho.1, ?_⟩
  rcases ho.2 with h1 | ⟨g, cap, cur, h1, h2, h3, h4⟩
  · exact .inl h1
  · refine .inr ⟨g, cap, cur, h1, h2, ?_, h4⟩
    have hg : g < w.heap.size := by
      by_cases hp : g < w.heap.size
      · exact hp
      · rw [Array.getElem?_eq_none (by omega)] at h3; cases h3
    rw [h.block g hg (by omega)]
    exact h3
theorem RdB.low {w w' : World} {R b off c i base : Nat} {bs : List Int} (h : RdB w R b off c bs i) (hb : Below base w w') (h1 : R < base) (h2 : b < base) : RdB w' R b off c bs i :=
  ⟨(hb.cell (p := ⟨R, 0, none⟩) h1).trans h.c0, (hb.cell (p := ⟨R, 1, none⟩) h1).trans h.c1, (hb.frozen (p := ⟨R, 1, none⟩) h1).trans h.fr, Nat.lt_of_lt_of_le h.lt hb.size, by
    rcases h.row with hr | ⟨b', off', e1, e2, e3⟩
    · exact .inl hr
    · cases e1
      exact .inr ⟨b, off, rfl, Nat.lt_of_lt_of_le e2 hb.size, fun j hj => (hb.cell (p := ⟨b, off + j, none⟩) h2).trans (e3 j hj)⟩, h.ap, h.le, h.cap, h.sm⟩

theorem flt_num {bs : List Int} {q : Nat} (h : q + 4 ≤ bs.length) : fltB bs q = numB bs q 4 := by
  unfold fltB numB
  rw [if_neg (by omega), if_neg (by omega)]

theorem ptF_len {bs : List Int} {i : Nat} (h : ptF bs i = none) : i + 12 ≤ bs.length := by
  obtain ⟨_, h'⟩ := orF_none h
  obtain ⟨_, h2⟩ := orF_none h'
  have := (fltF_ok h2).1
  omega
theorem triF_len {bs : List Int} {i : Nat} (h : triF bs i = none) : i + 36 ≤ bs.length := by
  obtain ⟨_, h'⟩ := orF_none h
  obtain ⟨_, h2⟩ := orF_none h'
  have := ptF_len h2
  omega
theorem rayF_len {bs : List Int} {i : Nat} (h : rayF bs i = none) : i + 24 ≤ bs.length := by
  obtain ⟨_, h'⟩ := orF_none h
  obtain ⟨h2, _⟩ := orF_none h'
  have := ptF_len h2
  omega

/-- What has been read when several are read. -/
structure SevS (w : World) (R b off c : Nat) (bs : List Int) (i0 : Nat) (t : TypeId) (k j : Nat) (so : Value) (wr : World) : Prop where
  own : wr.ownsRow w.heap.size t k so j (vals .u32 (numsB bs i0 (j * k)))
  rd : RdB wr R b off c bs (i0 + 4 * k * j)
  asd : Aside R w wr
def SevOut (w : World) (R b off c : Nat) (bs : List Int) (i0 : Nat) (t : TypeId) (k n : Nat) (F : Nat → Option (Int × Int)) (e : Ending) (w' : World) : Prop :=
  (firstF F n = none ∧ ∃ v, e = .returned v ∧ SevS w R b off c bs i0 t k n v w') ∨ ∃ x, firstF F n = some x ∧ ThrowOut w R x e w'

theorem SevS.next {w : World} {R b off c : Nat} {bs : List Int} {i0 : Nat} {t : TypeId} {k j : Nat} {so : Value} {wr V w' : World} (h : SevS w R b off c bs i0 t k j so wr) (hR : R < w.heap.size) (hb : b < w.heap.size) (hr : RdB V R b off c bs (i0 + 4 * k * (j + 1))) (ha : Aside R wr V) {v' : Value} (ho : w'.ownsRow w.heap.size t k v' (j + 1) (vals .u32 (numsB bs i0 ((j + 1) * k)))) (hl : Below w.heap.size V w') : SevS w R b off c bs i0 t k (j + 1) v' w' :=
  ⟨ho, hr.low hl hR hb, (h.asd.trans ha).high hl (Nat.le_refl _)⟩

theorem nums9 {bs : List Int} {p j I : Nat} (hI : I = p + 36 * j) (hl : I + 36 ≤ bs.length) : numsB bs p ((j + 1) * 9) = numsB bs p (j * 9) ++ [numB bs I 4, numB bs (I + 4) 4, numB bs (I + 8) 4, numB bs (I + 12) 4, numB bs (I + 12 + 4) 4, numB bs (I + 12 + 8) 4, numB bs (I + 24) 4, numB bs (I + 24 + 4) 4, numB bs (I + 24 + 8) 4] := by
  rw [show (j + 1) * 9 = j * 9 + 1 + 1 + 1 + 1 + 1 + 1 + 1 + 1 + 1 by omega]
  have e0 : fltB bs (p + 4 * (j * 9)) = numB bs I 4 := by rw [flt_num (by omega), show p + 4 * (j * 9) = I by omega]
  have e1 : fltB bs (p + 4 * (j * 9 + 1)) = numB bs (I + 4) 4 := by rw [flt_num (by omega), show p + 4 * (j * 9 + 1) = I + 4 by omega]
  have e2 : fltB bs (p + 4 * (j * 9 + 1 + 1)) = numB bs (I + 8) 4 := by rw [flt_num (by omega), show p + 4 * (j * 9 + 1 + 1) = I + 8 by omega]
  have e3 : fltB bs (p + 4 * (j * 9 + 1 + 1 + 1)) = numB bs (I + 12) 4 := by rw [flt_num (by omega), show p + 4 * (j * 9 + 1 + 1 + 1) = I + 12 by omega]
  have e4 : fltB bs (p + 4 * (j * 9 + 1 + 1 + 1 + 1)) = numB bs (I + 12 + 4) 4 := by rw [flt_num (by omega), show p + 4 * (j * 9 + 1 + 1 + 1 + 1) = I + 12 + 4 by omega]
  have e5 : fltB bs (p + 4 * (j * 9 + 1 + 1 + 1 + 1 + 1)) = numB bs (I + 12 + 8) 4 := by rw [flt_num (by omega), show p + 4 * (j * 9 + 1 + 1 + 1 + 1 + 1) = I + 12 + 8 by omega]
  have e6 : fltB bs (p + 4 * (j * 9 + 1 + 1 + 1 + 1 + 1 + 1)) = numB bs (I + 24) 4 := by rw [flt_num (by omega), show p + 4 * (j * 9 + 1 + 1 + 1 + 1 + 1 + 1) = I + 24 by omega]
  have e7 : fltB bs (p + 4 * (j * 9 + 1 + 1 + 1 + 1 + 1 + 1 + 1)) = numB bs (I + 24 + 4) 4 := by rw [flt_num (by omega), show p + 4 * (j * 9 + 1 + 1 + 1 + 1 + 1 + 1 + 1) = I + 24 + 4 by omega]
  have e8 : fltB bs (p + 4 * (j * 9 + 1 + 1 + 1 + 1 + 1 + 1 + 1 + 1)) = numB bs (I + 24 + 8) 4 := by rw [flt_num (by omega), show p + 4 * (j * 9 + 1 + 1 + 1 + 1 + 1 + 1 + 1 + 1) = I + 24 + 8 by omega]
  rw [nums_succ, nums_succ, nums_succ, nums_succ, nums_succ, nums_succ, nums_succ, nums_succ, nums_succ, e0, e1, e2, e3, e4, e5, e6, e7, e8]
  simp only [List.append_assoc, List.cons_append, List.nil_append]

theorem app9w {ops : Array Oper} {rest : List Oper} {o : Oper} {ac : Act} {Q : Exit → Act → World → Prop} (hgd : o.guard = none) (s x : Operand)
    (ho : o.op = .call { callee := .builtin .append, args := #[s, x], argTypes := #[47, 47] })
    (base : Nat) (v : Value) (n : Nat) (zs : List Int) (x0 x1 x2 x3 x4 x5 x6 x7 x8 : Int) (w0 : World) (hs : ac.eval s = v) (hx : ac.eval x = .slice (some ⟨w0.heap.size, 0, none⟩) 1 1) (hown : w0.ownsRow base 99 9 v n (vals .u32 zs)) (hn : n ≤ 100000) (hbase : base ≤ w0.heap.size)
    (h : ∀ g cap w', w'.ownsRow base 99 9 (.slice (some ⟨g, 0, none⟩) (n + 1) cap) (n + 1) (vals .u32 (zs ++ [x0, x1, x2, x3, x4, x5, x6, x7, x8])) → Below base w0 w' → wpList Try.prog ops Q rest (ac.put o.dst (.slice (some ⟨g, 0, none⟩) (n + 1) cap)) w') :
    wpList Try.prog ops Q (o :: rest) ac (w0.alloc (.cells #[.int .u32 x0, .int .u32 x1, .int .u32 x2, .int .u32 x3, .int .u32 x4, .int .u32 x5, .int .u32 x6, .int .u32 x7, .int .u32 x8] 99)) := by
  obtain ⟨i0, hi, hz0, hz1, hz2⟩ := info_parts info_Tri
  refine wpList_append_lies (P := Try.prog) (w0.alloc (.cells #[.int .u32 x0, .int .u32 x1, .int .u32 x2, .int .u32 x3, .int .u32 x4, .int .u32 x5, .int .u32 x6, .int .u32 x7, .int .u32 x8] 99)) hgd s x 47 ho base 99 i0 _ 9 36 Try.underlying47 hi hz0 hz1 hz2 rfl (by decide) v n (vals .u32 zs) hs (hown.alloc _) ⟨w0.heap.size, 0, none⟩ 1 1 (vals .u32 [x0, x1, x2, x3, x4, x5, x6, x7, x8]) hx rfl ?_ ?_ (by decide) (by unfold maxLen; omega) (by omega) (by simp; omega) _ rfl ?_
  · exact World.news_of_block (cs := #[.int .u32 x0, .int .u32 x1, .int .u32 x2, .int .u32 x3, .int .u32 x4, .int .u32 x5, .int .u32 x6, .int .u32 x7, .int .u32 x8]) (by first | exact heap_alloc_new _ _ | exact Go.heap_alloc_new _ _)
  · intro u hu
    simp [vals] at hu
    rcases hu with rfl | rfl | rfl | rfl | rfl | rfl | rfl | rfl | rfl <;> rfl
  · intro g cap w' hown' hgrow _ _
    refine h g cap w' ?_ ?_
    · simpa [vals] using hown'
    · refine ((bel0 w0 _).mono hbase |>.grown hgrow (by simp; omega) ?_)
      intro k hk
      rcases hown.2 with ⟨h1, _⟩ | ⟨g0, cap0, cur, h1, h2, _⟩
      · rw [h1] at hk; simp [Value.ownBlock] at hk
      · rw [h1] at hk; simp [Value.ownBlock] at hk; omega

set_option maxRecDepth 100000 in
set_option maxHeartbeats 1000000 in
theorem several_tri (R b off c : Nat) (bs : List Int) (i0 n : Nat) (w : World) (hu : U8 bs) (hn : n ≤ 1000) (hb : b < w.heap.size) (h : RdB w R b off c bs i0) :
    Calls Try.prog 99 #[.int .i64 n, .func (Fn.func 100) #[.pointer (some ⟨R, 0, none⟩)] #[]] w fun e w' => SevOut w R b off c bs i0 99 9 n (fun j => triF bs (i0 + 4 * 9 * j)) e w' := by
  have HU : Hid (U8 bs) := hu
  have HH : Hid (RdB w R b off c bs i0) := h
  have HR : Hid (R < w.heap.size) := h.lt
  have HB : Hid (b < w.heap.size) := hb
  clear hu h hb
  go_enter Try.func99, Try.ntmps99
  go_wp2
  go_loopw [5, 7] (fun so si wr => ∃ (j : Nat), j ≤ n ∧ si = .int .i64 j ∧ Hid (firstF (fun j => triF bs (i0 + 4 * 9 * j)) j = none) ∧ Hid (SevS w R b off c bs i0 99 9 j so wr)) (fun _ si _ => n - (intOf si).toNat)
  case atStart => exact ⟨0, Nat.zero_le _, rfl, rfl, ⟨⟨by simp [vals, numsB], .inl ⟨rfl, rfl⟩⟩, HH.out, Aside.refl _ _⟩⟩
  case round =>
    obtain ⟨j, hj, rfl, hA, hS⟩ := hrel
    by_cases hlt : j < n
    · have hib : (j : Int) < n := by omega
      cases hF : triF bs (i0 + 4 * 9 * j) with
      | none =>
        have HN : Hid (firstF (fun j => triF bs (i0 + 4 * 9 * j)) (j + 1) = none) := firstF_succ hA.out hF
        have HF : Hid (triF bs (i0 + 4 * 9 * j) = none) := hF
        have HE : Hid (∀ I, I = i0 + 4 * 9 * j → numsB bs i0 ((j + 1) * 9) = numsB bs i0 (j * 9) ++ [numB bs I 4, numB bs (I + 4) 4, numB bs (I + 8) 4, numB bs (I + 12) 4, numB bs (I + 12 + 4) 4, numB bs (I + 12 + 8) 4, numB bs (I + 24) 4, numB bs (I + 24 + 4) 4, numB bs (I + 24 + 8) 4]) := by
          intro I hI
          exact nums9 (by omega) (by have := triF_len hF; omega)
        have hbl : b < wr.heap.size := Nat.lt_of_lt_of_le HB.out hS.out.asd.size
        obtain ⟨I, hI⟩ : ∃ I, I = i0 + 4 * 9 * j := ⟨_, rfl⟩
        have HI : Hid (I = i0 + 4 * 9 * j) := hI
        rw [← hI] at HF
        clear hF hI
        go_wp2_with fail
        refine (tri_ok R b off c bs I _ HU.out hbl HF.out (by rw [HI.out]; exact hS.out.rd)).mono ?_
        rintro e V ⟨rfl, hrd, has⟩
        have HV : Hid (RdB V R b off c bs (i0 + 4 * 9 * (j + 1)) ∧ Aside R wr V) := ⟨by rw [show i0 + 4 * 9 * (j + 1) = I + 36 by rw [HI.out]; omega]; exact hrd, has⟩
        have HO : Hid (V.ownsRow w.heap.size 99 9 u5 j (vals .u32 (numsB bs i0 (j * 9)))) := aside_ownk has hS.out.own HR.out
        have hsz : w.heap.size ≤ V.heap.size := Nat.le_trans hS.out.asd.size has.size
        clear hrd has HF
        go_wp2_with (at_builtin; refine app9w rfl (.tmp 9) (.tmp 12) rfl w.heap.size _ j _ _ _ _ _ _ _ _ _ _ V rfl rfl HO.out (by omega) hsz ?_; intro g1 k1 w1 ho1 hb1)
        have HS : Hid (SevS w R b off c bs i0 99 9 (j + 1) (.slice (some ⟨g1, 0, none⟩) (j + 1) k1) w1) := hS.out.next HR.out HB.out HV.out.1 HV.out.2 (by rw [HE.out I HI.out]; exact ho1) hb1
        clear ho1 hb1 HO HV hS hsz
        go_roundw
        case rel => exact ⟨j + 1, by omega, by go_num, HN, HS⟩
        case measure => simp [intOf]; omega
      | some x =>
        have HX : Hid (firstF (fun j => triF bs (i0 + 4 * 9 * j)) n = some x) := firstF_hit hlt hA.out hF
        have HF : Hid (triF bs (i0 + 4 * 9 * j) = some x) := hF
        have hbl : b < wr.heap.size := Nat.lt_of_lt_of_le HB.out hS.out.asd.size
        clear hF
        go_wp2_with fail
        refine (tri_bad R b off c bs (i0 + 4 * 9 * j) x _ HU.out hbl HF.out hS.out.rd).mono ?_
        rintro e V ⟨rfl, has⟩
        exact ⟨rfl, .inr ⟨x, HX.out, rfl, hS.out.asd.trans has⟩⟩
    · have hje : n = j := by omega
      subst hje
      go_wp2
      go_ret
      exact .inl ⟨hA.out, _, rfl, hS.out⟩

theorem nums6 {bs : List Int} {p j I : Nat} (hI : I = p + 24 * j) (hl : I + 24 ≤ bs.length) : numsB bs p ((j + 1) * 6) = numsB bs p (j * 6) ++ [numB bs I 4, numB bs (I + 4) 4, numB bs (I + 8) 4, numB bs (I + 12) 4, numB bs (I + 12 + 4) 4, numB bs (I + 12 + 8) 4] := by
  rw [show (j + 1) * 6 = j * 6 + 1 + 1 + 1 + 1 + 1 + 1 by omega]
  have e0 : fltB bs (p + 4 * (j * 6)) = numB bs I 4 := by rw [flt_num (by omega), show p + 4 * (j * 6) = I by omega]
  have e1 : fltB bs (p + 4 * (j * 6 + 1)) = numB bs (I + 4) 4 := by rw [flt_num (by omega), show p + 4 * (j * 6 + 1) = I + 4 by omega]
  have e2 : fltB bs (p + 4 * (j * 6 + 1 + 1)) = numB bs (I + 8) 4 := by rw [flt_num (by omega), show p + 4 * (j * 6 + 1 + 1) = I + 8 by omega]
  have e3 : fltB bs (p + 4 * (j * 6 + 1 + 1 + 1)) = numB bs (I + 12) 4 := by rw [flt_num (by omega), show p + 4 * (j * 6 + 1 + 1 + 1) = I + 12 by omega]
  have e4 : fltB bs (p + 4 * (j * 6 + 1 + 1 + 1 + 1)) = numB bs (I + 12 + 4) 4 := by rw [flt_num (by omega), show p + 4 * (j * 6 + 1 + 1 + 1 + 1) = I + 12 + 4 by omega]
  have e5 : fltB bs (p + 4 * (j * 6 + 1 + 1 + 1 + 1 + 1)) = numB bs (I + 12 + 8) 4 := by rw [flt_num (by omega), show p + 4 * (j * 6 + 1 + 1 + 1 + 1 + 1) = I + 12 + 8 by omega]
  rw [nums_succ, nums_succ, nums_succ, nums_succ, nums_succ, nums_succ, e0, e1, e2, e3, e4, e5]
  simp only [List.append_assoc, List.cons_append, List.nil_append]

theorem app6w {ops : Array Oper} {rest : List Oper} {o : Oper} {ac : Act} {Q : Exit → Act → World → Prop} (hgd : o.guard = none) (s x : Operand)
    (ho : o.op = .call { callee := .builtin .append, args := #[s, x], argTypes := #[48, 48] })
    (base : Nat) (v : Value) (n : Nat) (zs : List Int) (x0 x1 x2 x3 x4 x5 : Int) (w0 : World) (hs : ac.eval s = v) (hx : ac.eval x = .slice (some ⟨w0.heap.size, 0, none⟩) 1 1) (hown : w0.ownsRow base 86 6 v n (vals .u32 zs)) (hn : n ≤ 100000) (hbase : base ≤ w0.heap.size)
    (h : ∀ g cap w', w'.ownsRow base 86 6 (.slice (some ⟨g, 0, none⟩) (n + 1) cap) (n + 1) (vals .u32 (zs ++ [x0, x1, x2, x3, x4, x5])) → Below base w0 w' → wpList Try.prog ops Q rest (ac.put o.dst (.slice (some ⟨g, 0, none⟩) (n + 1) cap)) w') :
    wpList Try.prog ops Q (o :: rest) ac (w0.alloc (.cells #[.int .u32 x0, .int .u32 x1, .int .u32 x2, .int .u32 x3, .int .u32 x4, .int .u32 x5] 86)) := by
  obtain ⟨i0, hi, hz0, hz1, hz2⟩ := info_parts info_Ray
  refine wpList_append_lies (P := Try.prog) (w0.alloc (.cells #[.int .u32 x0, .int .u32 x1, .int .u32 x2, .int .u32 x3, .int .u32 x4, .int .u32 x5] 86)) hgd s x 48 ho base 86 i0 _ 6 24 Try.underlying48 hi hz0 hz1 hz2 rfl (by decide) v n (vals .u32 zs) hs (hown.alloc _) ⟨w0.heap.size, 0, none⟩ 1 1 (vals .u32 [x0, x1, x2, x3, x4, x5]) hx rfl ?_ ?_ (by decide) (by unfold maxLen; omega) (by omega) (by simp; omega) _ rfl ?_
  · exact World.news_of_block (cs := #[.int .u32 x0, .int .u32 x1, .int .u32 x2, .int .u32 x3, .int .u32 x4, .int .u32 x5]) (by first | exact heap_alloc_new _ _ | exact Go.heap_alloc_new _ _)
  · intro u hu
    simp [vals] at hu
    rcases hu with rfl | rfl | rfl | rfl | rfl | rfl <;> rfl
  · intro g cap w' hown' hgrow _ _
    refine h g cap w' ?_ ?_
    · simpa [vals] using hown'
    · refine ((bel0 w0 _).mono hbase |>.grown hgrow (by simp; omega) ?_)
      intro k hk
      rcases hown.2 with ⟨h1, _⟩ | ⟨g0, cap0, cur, h1, h2, _⟩
      · rw [h1] at hk; simp [Value.ownBlock] at hk
      · rw [h1] at hk; simp [Value.ownBlock] at hk; omega

set_option maxRecDepth 100000 in
set_option maxHeartbeats 1000000 in
theorem several_ray (R b off c : Nat) (bs : List Int) (i0 n : Nat) (w : World) (hu : U8 bs) (hn : n ≤ 1000) (hb : b < w.heap.size) (h : RdB w R b off c bs i0) :
    Calls Try.prog 101 #[.int .i64 n, .func (Fn.func 102) #[.pointer (some ⟨R, 0, none⟩)] #[]] w fun e w' => SevOut w R b off c bs i0 86 6 n (fun j => rayF bs (i0 + 4 * 6 * j)) e w' := by
  have HU : Hid (U8 bs) := hu
  have HH : Hid (RdB w R b off c bs i0) := h
  have HR : Hid (R < w.heap.size) := h.lt
  have HB : Hid (b < w.heap.size) := hb
  clear hu h hb
  go_enter Try.func101, Try.ntmps101
  go_wp2
  go_loopw [5, 7] (fun so si wr => ∃ (j : Nat), j ≤ n ∧ si = .int .i64 j ∧ Hid (firstF (fun j => rayF bs (i0 + 4 * 6 * j)) j = none) ∧ Hid (SevS w R b off c bs i0 86 6 j so wr)) (fun _ si _ => n - (intOf si).toNat)
  case atStart => exact ⟨0, Nat.zero_le _, rfl, rfl, ⟨⟨by simp [vals, numsB], .inl ⟨rfl, rfl⟩⟩, HH.out, Aside.refl _ _⟩⟩
  case round =>
    obtain ⟨j, hj, rfl, hA, hS⟩ := hrel
    by_cases hlt : j < n
    · have hib : (j : Int) < n := by omega
      cases hF : rayF bs (i0 + 4 * 6 * j) with
      | none =>
        have HN : Hid (firstF (fun j => rayF bs (i0 + 4 * 6 * j)) (j + 1) = none) := firstF_succ hA.out hF
        have HF : Hid (rayF bs (i0 + 4 * 6 * j) = none) := hF
        have HE : Hid (∀ I, I = i0 + 4 * 6 * j → numsB bs i0 ((j + 1) * 6) = numsB bs i0 (j * 6) ++ [numB bs I 4, numB bs (I + 4) 4, numB bs (I + 8) 4, numB bs (I + 12) 4, numB bs (I + 12 + 4) 4, numB bs (I + 12 + 8) 4]) := by
          intro I hI
          exact nums6 (by omega) (by have := rayF_len hF; omega)
        have hbl : b < wr.heap.size := Nat.lt_of_lt_of_le HB.out hS.out.asd.size
        obtain ⟨I, hI⟩ : ∃ I, I = i0 + 4 * 6 * j := ⟨_, rfl⟩
        have HI : Hid (I = i0 + 4 * 6 * j) := hI
        rw [← hI] at HF
        clear hF hI
        go_wp2_with fail
        refine (ray_ok R b off c bs I _ HU.out hbl HF.out (by rw [HI.out]; exact hS.out.rd)).mono ?_
        rintro e V ⟨rfl, hrd, has⟩
        have HV : Hid (RdB V R b off c bs (i0 + 4 * 6 * (j + 1)) ∧ Aside R wr V) := ⟨by rw [show i0 + 4 * 6 * (j + 1) = I + 24 by rw [HI.out]; omega]; exact hrd, has⟩
        have HO : Hid (V.ownsRow w.heap.size 86 6 u5 j (vals .u32 (numsB bs i0 (j * 6)))) := aside_ownk has hS.out.own HR.out
        have hsz : w.heap.size ≤ V.heap.size := Nat.le_trans hS.out.asd.size has.size
        clear hrd has HF
        go_wp2_with (at_builtin; refine app6w rfl (.tmp 9) (.tmp 12) rfl w.heap.size _ j _ _ _ _ _ _ _ V rfl rfl HO.out (by omega) hsz ?_; intro g1 k1 w1 ho1 hb1)
        have HS : Hid (SevS w R b off c bs i0 86 6 (j + 1) (.slice (some ⟨g1, 0, none⟩) (j + 1) k1) w1) := hS.out.next HR.out HB.out HV.out.1 HV.out.2 (by rw [HE.out I HI.out]; exact ho1) hb1
        clear ho1 hb1 HO HV hS hsz
        go_roundw
        case rel => exact ⟨j + 1, by omega, by go_num, HN, HS⟩
        case measure => simp [intOf]; omega
      | some x =>
        have HX : Hid (firstF (fun j => rayF bs (i0 + 4 * 6 * j)) n = some x) := firstF_hit hlt hA.out hF
        have HF : Hid (rayF bs (i0 + 4 * 6 * j) = some x) := hF
        have hbl : b < wr.heap.size := Nat.lt_of_lt_of_le HB.out hS.out.asd.size
        clear hF
        go_wp2_with fail
        refine (ray_bad R b off c bs (i0 + 4 * 6 * j) x _ HU.out hbl HF.out hS.out.rd).mono ?_
        rintro e V ⟨rfl, has⟩
        exact ⟨rfl, .inr ⟨x, HX.out, rfl, hS.out.asd.trans has⟩⟩
    · have hje : n = j := by omega
      subst hje
      go_wp2
      go_ret
      exact .inl ⟨hA.out, _, rfl, hS.out⟩

theorem nums3 {bs : List Int} {p j I : Nat} (hI : I = p + 12 * j) (hl : I + 12 ≤ bs.length) : numsB bs p ((j + 1) * 3) = numsB bs p (j * 3) ++ [numB bs I 4, numB bs (I + 4) 4, numB bs (I + 8) 4] := by
  rw [show (j + 1) * 3 = j * 3 + 1 + 1 + 1 by omega]
  have e0 : fltB bs (p + 4 * (j * 3)) = numB bs I 4 := by rw [flt_num (by omega), show p + 4 * (j * 3) = I by omega]
  have e1 : fltB bs (p + 4 * (j * 3 + 1)) = numB bs (I + 4) 4 := by rw [flt_num (by omega), show p + 4 * (j * 3 + 1) = I + 4 by omega]
  have e2 : fltB bs (p + 4 * (j * 3 + 1 + 1)) = numB bs (I + 8) 4 := by rw [flt_num (by omega), show p + 4 * (j * 3 + 1 + 1) = I + 8 by omega]
  rw [nums_succ, nums_succ, nums_succ, e0, e1, e2]
  simp only [List.append_assoc, List.cons_append, List.nil_append]

theorem app3w {ops : Array Oper} {rest : List Oper} {o : Oper} {ac : Act} {Q : Exit → Act → World → Prop} (hgd : o.guard = none) (s x : Operand)
    (ho : o.op = .call { callee := .builtin .append, args := #[s, x], argTypes := #[49, 49] })
    (base : Nat) (v : Value) (n : Nat) (zs : List Int) (x0 x1 x2 : Int) (w0 : World) (hs : ac.eval s = v) (hx : ac.eval x = .slice (some ⟨w0.heap.size, 0, none⟩) 1 1) (hown : w0.ownsRow base 84 3 v n (vals .u32 zs)) (hn : n ≤ 100000) (hbase : base ≤ w0.heap.size)
    (h : ∀ g cap w', w'.ownsRow base 84 3 (.slice (some ⟨g, 0, none⟩) (n + 1) cap) (n + 1) (vals .u32 (zs ++ [x0, x1, x2])) → Below base w0 w' → wpList Try.prog ops Q rest (ac.put o.dst (.slice (some ⟨g, 0, none⟩) (n + 1) cap)) w') :
    wpList Try.prog ops Q (o :: rest) ac (w0.alloc (.cells #[.int .u32 x0, .int .u32 x1, .int .u32 x2] 84)) := by
  obtain ⟨i0, hi, hz0, hz1, hz2⟩ := info_parts info_Point
  refine wpList_append_lies (P := Try.prog) (w0.alloc (.cells #[.int .u32 x0, .int .u32 x1, .int .u32 x2] 84)) hgd s x 49 ho base 84 i0 _ 3 12 Try.underlying49 hi hz0 hz1 hz2 rfl (by decide) v n (vals .u32 zs) hs (hown.alloc _) ⟨w0.heap.size, 0, none⟩ 1 1 (vals .u32 [x0, x1, x2]) hx rfl ?_ ?_ (by decide) (by unfold maxLen; omega) (by omega) (by simp; omega) _ rfl ?_
  · exact World.news_of_block (cs := #[.int .u32 x0, .int .u32 x1, .int .u32 x2]) (by first | exact heap_alloc_new _ _ | exact Go.heap_alloc_new _ _)
  · intro u hu
    simp [vals] at hu
    rcases hu with rfl | rfl | rfl <;> rfl
  · intro g cap w' hown' hgrow _ _
    refine h g cap w' ?_ ?_
    · simpa [vals] using hown'
    · refine ((bel0 w0 _).mono hbase |>.grown hgrow (by simp; omega) ?_)
      intro k hk
      rcases hown.2 with ⟨h1, _⟩ | ⟨g0, cap0, cur, h1, h2, _⟩
      · rw [h1] at hk; simp [Value.ownBlock] at hk
      · rw [h1] at hk; simp [Value.ownBlock] at hk; omega

set_option maxRecDepth 100000 in
set_option maxHeartbeats 1000000 in
theorem several_point (R b off c : Nat) (bs : List Int) (i0 n : Nat) (w : World) (hu : U8 bs) (hn : n ≤ 1000) (hb : b < w.heap.size) (h : RdB w R b off c bs i0) :
    Calls Try.prog 103 #[.int .i64 n, .func (Fn.func 104) #[.pointer (some ⟨R, 0, none⟩)] #[]] w fun e w' => SevOut w R b off c bs i0 84 3 n (fun j => ptF bs (i0 + 4 * 3 * j)) e w' := by
  have HU : Hid (U8 bs) := hu
  have HH : Hid (RdB w R b off c bs i0) := h
  have HR : Hid (R < w.heap.size) := h.lt
  have HB : Hid (b < w.heap.size) := hb
  clear hu h hb
  go_enter Try.func103, Try.ntmps103
  go_wp2
  go_loopw [5, 7] (fun so si wr => ∃ (j : Nat), j ≤ n ∧ si = .int .i64 j ∧ Hid (firstF (fun j => ptF bs (i0 + 4 * 3 * j)) j = none) ∧ Hid (SevS w R b off c bs i0 84 3 j so wr)) (fun _ si _ => n - (intOf si).toNat)
  case atStart => exact ⟨0, Nat.zero_le _, rfl, rfl, ⟨⟨by simp [vals, numsB], .inl ⟨rfl, rfl⟩⟩, HH.out, Aside.refl _ _⟩⟩
  case round =>
    obtain ⟨j, hj, rfl, hA, hS⟩ := hrel
    by_cases hlt : j < n
    · have hib : (j : Int) < n := by omega
      cases hF : ptF bs (i0 + 4 * 3 * j) with
      | none =>
        have HN : Hid (firstF (fun j => ptF bs (i0 + 4 * 3 * j)) (j + 1) = none) := firstF_succ hA.out hF
        have HF : Hid (ptF bs (i0 + 4 * 3 * j) = none) := hF
        have HE : Hid (∀ I, I = i0 + 4 * 3 * j → numsB bs i0 ((j + 1) * 3) = numsB bs i0 (j * 3) ++ [numB bs I 4, numB bs (I + 4) 4, numB bs (I + 8) 4]) := by
          intro I hI
          exact nums3 (by omega) (by have := ptF_len hF; omega)
        have hbl : b < wr.heap.size := Nat.lt_of_lt_of_le HB.out hS.out.asd.size
        obtain ⟨I, hI⟩ : ∃ I, I = i0 + 4 * 3 * j := ⟨_, rfl⟩
        have HI : Hid (I = i0 + 4 * 3 * j) := hI
        rw [← hI] at HF
        clear hF hI
        go_wp2_with fail
        refine (point_ok R b off c bs I _ HU.out hbl HF.out (by rw [HI.out]; exact hS.out.rd)).mono ?_
        rintro e V ⟨rfl, hrd, has⟩
        have HV : Hid (RdB V R b off c bs (i0 + 4 * 3 * (j + 1)) ∧ Aside R wr V) := ⟨by rw [show i0 + 4 * 3 * (j + 1) = I + 12 by rw [HI.out]; omega]; exact hrd, has⟩
        have HO : Hid (V.ownsRow w.heap.size 84 3 u5 j (vals .u32 (numsB bs i0 (j * 3)))) := aside_ownk has hS.out.own HR.out
        have hsz : w.heap.size ≤ V.heap.size := Nat.le_trans hS.out.asd.size has.size
        clear hrd has HF
        go_wp2_with (at_builtin; refine app3w rfl (.tmp 9) (.tmp 12) rfl w.heap.size _ j _ _ _ _ V rfl rfl HO.out (by omega) hsz ?_; intro g1 k1 w1 ho1 hb1)
        have HS : Hid (SevS w R b off c bs i0 84 3 (j + 1) (.slice (some ⟨g1, 0, none⟩) (j + 1) k1) w1) := hS.out.next HR.out HB.out HV.out.1 HV.out.2 (by rw [HE.out I HI.out]; exact ho1) hb1
        clear ho1 hb1 HO HV hS hsz
        go_roundw
        case rel => exact ⟨j + 1, by omega, by go_num, HN, HS⟩
        case measure => simp [intOf]; omega
      | some x =>
        have HX : Hid (firstF (fun j => ptF bs (i0 + 4 * 3 * j)) n = some x) := firstF_hit hlt hA.out hF
        have HF : Hid (ptF bs (i0 + 4 * 3 * j) = some x) := hF
        have hbl : b < wr.heap.size := Nat.lt_of_lt_of_le HB.out hS.out.asd.size
        clear hF
        go_wp2_with fail
        refine (point_bad R b off c bs (i0 + 4 * 3 * j) x _ HU.out hbl HF.out hS.out.rd).mono ?_
        rintro e V ⟨rfl, has⟩
        exact ⟨rfl, .inr ⟨x, HX.out, rfl, hS.out.asd.trans has⟩⟩
    · have hje : n = j := by omega
      subst hje
      go_wp2
      go_ret
      exact .inl ⟨hA.out, _, rfl, hS.out⟩

end Go.Proofs.Ytcjdnomhnlbmbaa
