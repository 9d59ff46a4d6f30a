/-
  The program's reader: several triangles, rays, points.
-/
import Derived.Test.YtfcnokagfibgcahGreatIdCIdD
import Derived.Test.YtfcnokagfibgcahGreatSpD3
import Derived.Test.YtfcnokagfibgcahGreatBdE
import Derived.Test.YtfcnokagfibgcahGreatBdF
namespace Go.Proofs.YtfcnokagfibgcahGreat
open Go.RowKit

theorem aside_ownk {R : Nat} {w w' : World} {base k : Nat} {e : TypeId} {v : Value} {n : Nat} {xs : List Value} (h : Aside R w w') (ho : w.ownsRow base e k v n xs) (hp : R < base) : w'.ownsRow base e k v n xs := by
  refine ⟨ho.1, ?_⟩
  rcases ho.2 with h1 | ⟨g, cap, cur, h1, h2, h3, h4⟩
  · exact .inl h1
  · refine .inr ⟨g, cap, cur, h1, h2, ?_, h4⟩
    have hg : g < w.heap.size := by
      by_cases hp : g < w.heap.size
      · exact hp
      · rw [Array.getElem?_eq_none (by omega)] at h3; cases h3
    rw [h.block g hg (by omega)]
    exact h3
theorem RdB.low {w w' : World} {R b off c i base : Nat} {bs : List Int} (h : RdB w R b off c bs i) (hb : Below base w w') (h1 : R < base) (h2 : b < base) : RdB w' R b off c bs i :=
  ⟨(hb.cell (p := ⟨R, 0, none⟩) h1).trans h.c0, (hb.cell (p := ⟨R, 1, none⟩) h1).trans h.c1, (hb.frozen (p := ⟨R, 1, none⟩) h1).trans h.fr, Nat.lt_of_lt_of_le h.lt hb.size, by
    rcases h.row with hr | ⟨b', off', e1, e2, e3⟩
    · exact .inl hr
    · cases e1
      exact .inr ⟨b, off, rfl, Nat.lt_of_lt_of_le e2 hb.size, fun j hj => (hb.cell (p := ⟨b, off + j, none⟩) h2).trans (e3 j hj)⟩, h.ap, h.le, h.cap, h.sm⟩

theorem flt_num {bs : List Int} {q : Nat} (h : q + 4 ≤ bs.length) : fltB bs q = numB bs q 4 := by
  unfold fltB numB
  rw [if_neg (by omega), if_neg (by omega)]

theorem ptF_len {bs : List Int} {i : Nat} (h : ptF bs i = none) : i + 12 ≤ bs.length := by
  obtain ⟨_, h'⟩ := orF_none h
  obtain ⟨_, h2⟩ := orF_none h'
  have := (fltF_ok h2).1
  omega
theorem triF_len {bs : List Int} {i : Nat} (h : triF bs i = none) : i + 36 ≤ bs.length := by
  obtain ⟨_, h'⟩ := orF_none h
  obtain ⟨_, h2⟩ := orF_none h'
  have := ptF_len h2
  omega
theorem rayF_len {bs : List Int} {i : Nat} (h : rayF bs i = none) : i + 24 ≤ bs.length := by
  obtain ⟨_, h'⟩ := orF_none h
  obtain ⟨h2, _⟩ := orF_none h'
  have := ptF_len h2
  omega

/-- What has been read when several are read. -/
structure SevS (w : World) (R b off c : Nat) (bs : List Int) (i0 : Nat) (t : TypeId) (k j : Nat) (so : Value) (wr : World) : Prop where
  own : wr.ownsRow w.heap.size t k so j (vals .u32 (numsB bs i0 (j * k)))
  rd : RdB wr R b off c bs (i0 + 4 * k * j)
  asd : Aside R w wr
def SevOut (w : World) (R b off c : Nat) (bs : List Int) (i0 : Nat) (t : TypeId) (k n : Nat) (F : Nat → Option (Int × Int)) (e : Ending) (w' : World) : Prop :=
  (firstF F n = none ∧ ∃ v, e = .returned v ∧ SevS w R b off c bs i0 t k n v w') ∨ ∃ x, firstF F n = some x ∧ ThrowOut w R x e w'

theorem SevS.next {w : World} {R b off c : Nat} {bs : List Int} {i0 : Nat} {t : TypeId} {k j : Nat} {so : Value} {wr V w' : World} (h : SevS w R b off c bs i0 t k j so wr) (hR : R < w.heap.size) (hb : b < w.heap.size) (hr : RdB V R b off c bs (i0 + 4 * k * (j + 1))) (ha : Aside R wr V) {v' : Value} (ho : w'.ownsRow w.heap.size t k v' (j + 1) (vals .u32 (numsB bs i0 ((j + 1) * k)))) (hl : Below w.heap.size V w') : SevS w R b off c bs i0 t k (j + 1) v' w' :=
  ⟨ho, hr.low hl hR hb, (h.asd.trans ha).high hl (Nat.le_refl _)⟩

theorem nums9 {bs : List Int} {p j I : Nat} (hI : I = p + 36 * j) (hl : I + 36 ≤ bs.length) : numsB bs p ((j + 1) * 9) = numsB bs p (j * 9) ++ [numB bs I 4, numB bs (I + 4) 4, numB bs (I + 8) 4, numB bs (I + 12) 4, numB bs (I + 12 + 4) 4, numB bs (I + 12 + 8) 4, numB bs (I + 24) 4, numB bs (I + 24 + 4) 4, numB bs (I + 24 + 8) 4] := by
  rw [show (j + 1) * 9 = j * 9 + 1 + 1 + 1 + 1 + 1 + 1 + 1 + 1 + 1 by omega]
  have e0 : fltB bs (p + 4 * (j * 9)) = numB bs I 4 := by rw [flt_num (by omega), show p + 4 * (j * 9) = I by omega]
  have e1 : fltB bs (p + 4 * (j * 9 + 1)) = numB bs (I + 4) 4 := by rw [flt_num (by omega), show p + 4 * (j * 9 + 1) = I + 4 by omega]
  have e2 : fltB bs (p + 4 * (j * 9 + 1 + 1)) = numB bs (I + 8) 4 := by rw [flt_num (by omega), show p + 4 * (j * 9 + 1 + 1) = I + 8 by omega]
  have e3 : fltB bs (p + 4 * (j * 9 + 1 + 1 + 1)) = numB bs (I + 12) 4 := by rw [flt_num (by omega), show p + 4 * (j * 9 + 1 + 1 + 1) = I + 12 by omega]
  have e4 : fltB bs (p + 4 * (j * 9 + 1 + 1 + 1 + 1)) = numB bs (I + 12 + 4) 4 := by rw [flt_num (by omega), show p + 4 * (j * 9 + 1 + 1 + 1 + 1) = I + 12 + 4 by omega]
  have e5 : fltB bs (p + 4 * (j * 9 + 1 + 1 + 1 + 1 + 1)) = numB bs (I + 12 + 8) 4 := by rw [flt_num (by omega), show p + 4 * (j * 9 + 1 + 1 + 1 + 1 + 1) = I + 12 + 8 by omega]
  have e6 : fltB bs (p + 4 * (j * 9 + 1 + 1 + 1 + 1 + 1 + 1)) = numB bs (I + 24) 4 := by rw [flt_num (by omega), show p + 4 * (j * 9 + 1 + 1 + 1 + 1 + 1 + 1) = I + 24 by omega]
  have e7 : fltB bs (p + 4 * (j * 9 + 1 + 1 + 1 + 1 + 1 + 1 + 1)) = numB bs (I + 24 + 4) 4 := by rw [flt_num (by omega), show p + 4 * (j * 9 + 1 + 1 + 1 + 1 + 1 + 1 + 1) = I + 24 + 4 by omega]
  have e8 : fltB bs (p + 4 * (j * 9 + 1 + 1 + 1 + 1 + 1 + 1 + 1 + 1)) = numB bs (I + 24 + 8) 4 := by rw [flt_num (by omega), show p + 4 * (j * 9 + 1 + 1 + 1 + 1 + 1 + 1 + 1 + 1) = I + 24 + 8 by omega]
  rw [nums_succ, nums_succ, nums_succ, nums_succ, nums_succ, nums_succ, nums_succ, nums_succ, nums_succ, e0, e1, e2, e3, e4, e5, e6, e7, e8]
  simp only [List.append_assoc, List.cons_append, List.nil_append]

theorem app9w {ops : Array Oper} {rest : List Oper} {o : Oper} {ac : Act} {Q : Exit → Act → World → Prop} (hgd : o.guard = none) (s x : Operand)
    (ho : o.op = .call { callee := .builtin .append, args := #[s, x], argTypes := #[23, 23] })
    (base : Nat) (v : Value) (n : Nat) (zs : List Int) (x0 x1 x2 x3 x4 x5 x6 x7 x8 : Int) (w0 : World) (hs : ac.eval s = v) (hx : ac.eval x = .slice (some ⟨w0.heap.size, 0, none⟩) 1 1) (hown : w0.ownsRow base 41 9 v n (vals .u32 zs)) (hn : n ≤ 100000) (hbase : base ≤ w0.heap.size)
    (h : ∀ g cap w', w'.ownsRow base 41 9 (.slice (some ⟨g, 0, none⟩) (n + 1) cap) (n + 1) (vals .u32 (zs ++ [x0, x1, x2, x3, x4, x5, x6, x7, x8])) → Below base w0 w' → wpList Tryz.prog ops Q rest (ac.put o.dst (.slice (some ⟨g, 0, none⟩) (n + 1) cap)) w') :
    wpList Tryz.prog ops Q (o :: rest) ac (w0.alloc (.cells #[.int .u32 x0, .int .u32 x1, .int .u32 x2, .int .u32 x3, .int .u32 x4, .int .u32 x5, .int .u32 x6, .int .u32 x7, .int .u32 x8] 41)) := by
  obtain ⟨i0, hi, hz0, hz1, hz2⟩ := info_parts info_Tri
  refine wpList_append_lies (P := Tryz.prog) (w0.alloc (.cells #[.int .u32 x0, .int .u32 x1, .int .u32 x2, .int .u32 x3, .int .u32 x4, .int .u32 x5, .int .u32 x6, .int .u32 x7, .int .u32 x8] 41)) hgd s x 23 ho base 41 i0 _ 9 36 Tryz.underlying23 hi hz0 hz1 hz2 rfl (by decide) v n (vals .u32 zs) hs (hown.alloc _) ⟨w0.heap.size, 0, none⟩ 1 1 (vals .u32 [x0, x1, x2, x3, x4, x5, x6, x7, x8]) hx rfl ?_ ?_ (by decide) (by unfold maxLen; omega) (by omega) (by simp; omega) _ rfl ?_
  · exact World.news_of_block (cs := #[.int .u32 x0, .int .u32 x1, .int .u32 x2, .int .u32 x3, .int .u32 x4, .int .u32 x5, .int .u32 x6, .int .u32 x7, .int .u32 x8]) (by first | exact heap_alloc_new _ _ | exact Go.heap_alloc_new _ _)
  · intro u hu
    simp [vals] at hu
    rcases hu with rfl | rfl | rfl | rfl | rfl | rfl | rfl | rfl | rfl <;> rfl
  · intro g cap w' hown' hgrow _ _
    refine h g cap w' ?_ ?_
    · simpa [vals] using hown'
    · refine ((bel0 w0 _).mono hbase |>.grown hgrow (by simp; omega) ?_)
      intro k hk
      rcases hown.2 with ⟨h1, _⟩ | ⟨g0, cap0, cur, h1, h2, _⟩
      · rw [h1] at hk; simp [Value.ownBlock] at hk
      · rw [h1] at hk; simp [Value.ownBlock] at hk; omega

set_option maxRecDepth 100000 in
set_option maxHeartbeats 1000000 in
theorem several_tri (R b off c : Nat) (bs : List Int) (i0 n : Nat) (w : World) (hu : U8 bs) (hn : n ≤ 1000) (hb : b < w.heap.size) (h : RdB w R b off c bs i0) :
    Calls Tryz.prog 160 #[.int .i64 n, .func (Fn.func 161) #[.pointer (some ⟨R, 0, none⟩)] #[]] w fun e w' => SevOut w R b off c bs i0 41 9 n (fun j => triF bs (i0 + 4 * 9 * j)) e w' := by
  have HU : Hid (U8 bs) := hu
  have HH : Hid (RdB w R b off c bs i0) := h
  have HR : Hid (R < w.heap.size) := h.lt
  have HB : Hid (b < w.heap.size) := hb
  clear hu h hb
  go_enter Tryz.func160, Tryz.ntmps160
  go_wp2
  go_loopw [5, 7] (fun so si wr => ∃ (j : Nat), j ≤ n ∧ si = .int .i64 j ∧ Hid (firstF (fun j => triF bs (i0 + 4 * 9 * j)) j = none) ∧ Hid (SevS w R b off c bs i0 41 9 j so wr)) (fun _ si _ => n - (intOf si).toNat)
  case atStart => exact ⟨0, Nat.zero_le _, rfl, rfl, ⟨⟨by simp [vals, numsB], .inl ⟨rfl, rfl⟩⟩, HH.out, Aside.refl _ _⟩⟩
  case round =>
    obtain ⟨j, hj, rfl, hA, hS⟩ := hrel
    by_cases hlt : j < n
    · have hib : (j : Int) < n := by omega
      cases hF : triF bs (i0 + 4 * 9 * j) with
      | none =>
        have HN : Hid (firstF (fun j => triF bs (i0 + 4 * 9 * j)) (j + 1) = none) := firstF_succ hA.out hF
        have HF : Hid (triF bs (i0 + 4 * 9 * j) = none) := hF
        have HE : Hid (∀ I, I = i0 + 4 * 9 * j → numsB bs i0 ((j + 1) * 9) = numsB bs i0 (j * 9) ++ [numB bs I 4, numB bs (I + 4) 4, numB bs (I + 8) 4, numB bs (I + 12) 4, numB bs (I + 12 + 4) 4, numB bs (I + 12 + 8) 4, numB bs (I + 24) 4, numB bs (I + 24 + 4) 4, numB bs (I + 24 + 8) 4]) := by
          intro I hI
          exact nums9 (by omega) (by have := triF_len hF; omega)
        have hbl : b < wr.heap.size := Nat.lt_of_lt_of_le HB.out hS.out.asd.size
        obtain ⟨I, hI⟩ : ∃ I, I = i0 + 4 * 9 * j := ⟨_, rfl⟩
        have HI : Hid (I = i0 + 4 * 9 * j) := hI
        rw [← hI] at HF
        clear hF hI
        go_wp2_with fail
        refine (tri_ok R b off c bs I _ HU.out hbl HF.out (by rw [HI.out]; exact hS.out.rd)).mono ?_
        rintro e V ⟨rfl, hrd, has⟩
        have HV : Hid (RdB V R b off c bs (i0 + 4 * 9 * (j + 1)) ∧ Aside R wr V) := ⟨by rw [show i0 + 4 * 9 * (j + 1) = I + 36 by rw [HI.out]; omega]; exact hrd, has⟩
        have HO : Hid (V.ownsRow w.heap.size 41 9 u5 j (vals .u32 (numsB bs i0 (j * 9)))) := aside_ownk has hS.out.own HR.out
        have hsz : w.heap.size ≤ V.heap.size := Nat.le_trans hS.out.asd.size has.size
        clear hrd has HF
        go_wp2_with (at_builtin; refine app9w rfl (.tmp 9) (.tmp 12) rfl w.heap.size _ j _ _ _ _ _ _ _ _ _ _ V rfl rfl HO.out (by omega) hsz ?_; intro g1 k1 w1 ho1 hb1)
        have HS : Hid (SevS w R b off c bs i0 41 9 (j + 1) (.slice (some ⟨g1, 0, none⟩) (j + 1) k1) w1) := hS.out.next HR.out HB.out HV.out.1 HV.out.2 (by rw [HE.out I HI.out]; exact ho1) hb1
        clear ho1 hb1 HO HV hS hsz
        go_roundw
        case rel => exact ⟨j + 1, by omega, by go_num, HN, HS⟩
        case measure => simp [intOf]; omega
      | some x =>
        have HX : Hid (firstF (fun j => triF bs (i0 + 4 * 9 * j)) n = some x) := firstF_hit hlt hA.out hF
        have HF : Hid (triF bs (i0 + 4 * 9 * j) = some x) := hF
        have hbl : b < wr.heap.size := Nat.lt_of_lt_of_le HB.out hS.out.asd.size
        clear hF
        go_wp2_with fail
        refine (tri_bad R b off c bs (i0 + 4 * 9 * j) x _ HU.out hbl HF.out hS.out.rd).mono ?_
        rintro e V ⟨rfl, has⟩
        exact ⟨rfl, .inr ⟨x, HX.out, rfl, hS.out.asd.trans has⟩⟩
    · have hje : n = j := by omega
      subst hje
      go_wp2
      go_ret
      exact .inl ⟨hA.out, _, rfl, hS.out⟩

theorem nums6 {bs : List Int} {p j I : Nat} (hI : I = p + 24 * j) (hl : I + 24 ≤ bs.length) : numsB bs p ((j + 1) * 6) = numsB bs p (j * 6) ++ [numB bs I 4, numB bs (I + 4) 4, numB bs (I + 8) 4, numB bs (I + 12) 4, numB bs (I + 12 + 4) 4, numB bs (I + 12 + 8) 4] := by
  rw [show (j + 1) * 6 = j * 6 + 1 + 1 + 1 + 1 + 1 + 1 by omega]
  have e0 : fltB bs (p + 4 * (j * 6)) = numB bs I 4 := by rw [flt_num (by omega), show p + 4 * (j * 6) = I by omega]
  have e1 : fltB bs (p + 4 * (j * 6 + 1)) = numB bs (I + 4) 4 := by rw [flt_num (by omega), show p + 4 * (j * 6 + 1) = I + 4 by omega]
  have e2 : fltB bs (p + 4 * (j * 6 + 1 + 1)) = numB bs (I + 8) 4 := by rw [flt_num (by omega), show p + 4 * (j * 6 + 1 + 1) = I + 8 by omega]
  have e3 : fltB bs (p + 4 * (j * 6 + 1 + 1 + 1)) = numB bs (I + 12) 4 := by rw [flt_num (by omega), show p + 4 * (j * 6 + 1 + 1 + 1) = I + 12 by omega]
  have e4 : fltB bs (p + 4 * (j * 6 + 1 + 1 + 1 + 1)) = numB bs (I + 12 + 4) 4 := by rw [flt_num (by omega), show p + 4 * (j * 6 + 1 + 1 + 1 + 1) = I + 12 + 4 by omega]
  have e5 : fltB bs (p + 4 * (j * 6 + 1 + 1 + 1 + 1 + 1)) = numB bs (I + 12 + 8) 4 := by rw [flt_num (by omega), show p + 4 * (j * 6 + 1 + 1 + 1 + 1 + 1) = I + 12 + 8 by omega]
  rw [nums_succ, nums_succ, nums_succ, nums_succ, nums_succ, nums_succ, e0, e1, e2, e3, e4, e5]
  simp only [List.append_assoc, List.cons_append, List.nil_append]

theorem app6w {ops : Array Oper} {rest : List Oper} {o : Oper} {ac : Act} {Q : Exit → Act → World → Prop} (hgd : o.guard = none) (s x : Operand)
    (ho : o.op = .call { callee := .builtin .append, args := #[s, x], argTypes := #[44, 44] })
    (base : Nat) (v : Value) (n : Nat) (zs : List Int) (x0 x1 x2 x3 x4 x5 : Int) (w0 : World) (hs : ac.eval s = v) (hx : ac.eval x = .slice (some ⟨w0.heap.size, 0, none⟩) 1 1) (hown : w0.ownsRow base 28 6 v n (vals .u32 zs)) (hn : n ≤ 100000) (hbase : base ≤ w0.heap.size)
    (h : ∀ g cap w', w'.ownsRow base 28 6 (.slice (some ⟨g, 0, none⟩) (n + 1) cap) (n + 1) (vals .u32 (zs ++ [x0, x1, x2, x3, x4, x5])) → Below base w0 w' → wpList Tryz.prog ops Q rest (ac.put o.dst (.slice (some ⟨g, 0, none⟩) (n + 1) cap)) w') :
    wpList Tryz.prog ops Q (o :: rest) ac (w0.alloc (.cells #[.int .u32 x0, .int .u32 x1, .int .u32 x2, .int .u32 x3, .int .u32 x4, .int .u32 x5] 28)) := by
  obtain ⟨i0, hi, hz0, hz1, hz2⟩ := info_parts info_Ray
  refine wpList_append_lies (P := Tryz.prog) (w0.alloc (.cells #[.int .u32 x0, .int .u32 x1, .int .u32 x2, .int .u32 x3, .int .u32 x4, .int .u32 x5] 28)) hgd s x 44 ho base 28 i0 _ 6 24 Tryz.underlying44 hi hz0 hz1 hz2 rfl (by decide) v n (vals .u32 zs) hs (hown.alloc _) ⟨w0.heap.size, 0, none⟩ 1 1 (vals .u32 [x0, x1, x2, x3, x4, x5]) hx rfl ?_ ?_ (by decide) (by unfold maxLen; omega) (by omega) (by simp; omega) _ rfl ?_
  · exact World.news_of_block (cs := #[.int .u32 x0, .int .u32 x1, .int .u32 x2, .int .u32 x3, .int .u32 x4, .int .u32 x5]) (by first | exact heap_alloc_new _ _ | exact Go.heap_alloc_new _ _)
  · intro u hu
    simp [vals] at hu
    rcases hu with rfl | rfl | rfl | rfl | rfl | rfl <;> rfl
  · intro g cap w' hown' hgrow _ _
    refine h g cap w' ?_ ?_
    · simpa [vals] using hown'
    · refine ((bel0 w0 _).mono hbase |>.grown hgrow (by simp; omega) ?_)
      intro k hk
      rcases hown.2 with ⟨h1, _⟩ | ⟨g0, cap0, cur, h1, h2, _⟩
      · rw [h1] at hk; simp [Value.ownBlock] at hk
      · rw [h1] at hk; simp [Value.ownBlock] at hk; omega

set_option maxRecDepth 100000 in
set_option maxHeartbeats 1000000 in
theorem several_ray (R b off c : Nat) (bs : List Int) (i0 n : Nat) (w : World) (hu : U8 bs) (hn : n ≤ 1000) (hb : b < w.heap.size) (h : RdB w R b off c bs i0) :
    Calls Tryz.prog 162 #[.int .i64 n, .func (Fn.func 163) #[.pointer (some ⟨R, 0, none⟩)] #[]] w fun e w' => SevOut w R b off c bs i0 28 6 n (fun j => rayF bs (i0 + 4 * 6 * j)) e w' := by
  have HU : Hid (U8 bs) := hu
  have HH : Hid (RdB w R b off c bs i0) := h
  have HR : Hid (R < w.heap.size) := h.lt
  have HB : Hid (b < w.heap.size) := hb
  clear hu h hb
  go_enter Tryz.func162, Tryz.ntmps162
  go_wp2
  go_loopw [5, 7] (fun so si wr => ∃ (j : Nat), j ≤ n ∧ si = .int .i64 j ∧ Hid (firstF (fun j => rayF bs (i0 + 4 * 6 * j)) j = none) ∧ Hid (SevS w R b off c bs i0 28 6 j so wr)) (fun _ si _ => n - (intOf si).toNat)
  case atStart => exact ⟨0, Nat.zero_le _, rfl, rfl, ⟨⟨by simp [vals, numsB], .inl ⟨rfl, rfl⟩⟩, HH.out, Aside.refl _ _⟩⟩
  case round =>
    obtain ⟨j, hj, rfl, hA, hS⟩ := hrel
    by_cases hlt : j < n
    · have hib : (j : Int) < n := by omega
      cases hF : rayF bs (i0 + 4 * 6 * j) with
      | none =>
        have HN : Hid (firstF (fun j => rayF bs (i0 + 4 * 6 * j)) (j + 1) = none) := firstF_succ hA.out hF
        have HF : Hid (rayF bs (i0 + 4 * 6 * j) = none) := hF
        have HE : Hid (∀ I, I = i0 + 4 * 6 * j → numsB bs i0 ((j + 1) * 6) = numsB bs i0 (j * 6) ++ [numB bs I 4, numB bs (I + 4) 4, numB bs (I + 8) 4, numB bs (I + 12) 4, numB bs (I + 12 + 4) 4, numB bs (I + 12 + 8) 4]) := by
          intro I hI
          exact nums6 (by omega) (by have := rayF_len hF; omega)
        have hbl : b < wr.heap.size := Nat.lt_of_lt_of_le HB.out hS.out.asd.size
        obtain ⟨I, hI⟩ : ∃ I, I = i0 + 4 * 6 * j := ⟨_, rfl⟩
        have HI : Hid (I = i0 + 4 * 6 * j) := hI
        rw [← hI] at HF
        clear hF hI
        go_wp2_with fail
        refine (ray_ok R b off c bs I _ HU.out hbl HF.out (by rw [HI.out]; exact hS.out.rd)).mono ?_
        rintro e V ⟨rfl, hrd, has⟩
        have HV : Hid (RdB V R b off c bs (i0 + 4 * 6 * (j + 1)) ∧ Aside R wr V) := ⟨by rw [show i0 + 4 * 6 * (j + 1) = I + 24 by rw [HI.out]; omega]; exact hrd, has⟩
        have HO : Hid (V.ownsRow w.heap.size 28 6 u5 j (vals .u32 (numsB bs i0 (j * 6)))) := aside_ownk has hS.out.own HR.out
        have hsz : w.heap.size ≤ V.heap.size := Nat.le_trans hS.out.asd.size has.size
        clear hrd has HF
        go_wp2_with (at_builtin; refine app6w rfl (.tmp 9) (.tmp 12) rfl w.heap.size _ j _ _ _ _ _ _ _ V rfl rfl HO.out (by omega) hsz ?_; intro g1 k1 w1 ho1 hb1)
        have HS : Hid (SevS w R b off c bs i0 28 6 (j + 1) (.slice (some ⟨g1, 0, none⟩) (j + 1) k1) w1) := hS.out.next HR.out HB.out HV.out.1 HV.out.2 (by rw [HE.out I HI.out]; exact ho1) hb1
        clear ho1 hb1 HO HV hS hsz
        go_roundw
        case rel => exact ⟨j + 1, by omega, by go_num, HN, HS⟩
        case measure => simp [intOf]; omega
      | some x =>
        have HX : Hid (firstF (fun j => rayF bs (i0 + 4 * 6 * j)) n = some x) := firstF_hit hlt hA.out hF
        have HF : Hid (rayF bs (i0 + 4 * 6 * j) = some x) := hF
        have hbl : b < wr.heap.size := Nat.lt_of_lt_of_le HB.out hS.out.asd.size
        clear hF
        go_wp2_with fail
        refine (ray_bad R b off c bs (i0 + 4 * 6 * j) x _ HU.out hbl HF.out hS.out.rd).mono ?_
        rintro e V ⟨rfl, has⟩
        exact ⟨rfl, .inr ⟨x, HX.out, rfl, hS.out.asd.trans has⟩⟩
    · have hje : n = j := by omega
      subst hje
      go_wp2
      go_ret
      exact .inl ⟨hA.out, _, rfl, hS.out⟩

theorem nums3 {bs : List Int} {p j I : Nat} (hI : I = p + 12 * j) (hl : I + 12 ≤ bs.length) : numsB bs p ((j + 1) * 3) = numsB bs p (j * 3) ++ [numB bs I 4, numB bs (I + 4) 4, numB bs (I + 8) 4] := by
  rw [show (j + 1) * 3 = j * 3 + 1 + 1 + 1 by omega]
  have e0 : fltB bs (p + 4 * (j * 3)) = numB bs I 4 := by rw [flt_num (by omega), show p + 4 * (j * 3) = I by omega]
  have e1 : fltB bs (p + 4 * (j * 3 + 1)) = numB bs (I + 4) 4 := by rw [flt_num (by omega), show p + 4 * (j * 3 + 1) = I + 4 by omega]
  have e2 : fltB bs (p + 4 * (j * 3 + 1 + 1)) = numB bs (I + 8) 4 := by rw [flt_num (by omega), show p + 4 * (j * 3 + 1 + 1) = I + 8 by omega]
  rw [nums_succ, nums_succ, nums_succ, e0, e1, e2]
  simp only [List.append_assoc, List.cons_append, List.nil_append]

theorem app3w {ops : Array Oper} {rest : List Oper} {o : Oper} {ac : Act} {Q : Exit → Act → World → Prop} (hgd : o.guard = none) (s x : Operand)
    (ho : o.op = .call { callee := .builtin .append, args := #[s, x], argTypes := #[45, 45] })
    (base : Nat) (v : Value) (n : Nat) (zs : List Int) (x0 x1 x2 : Int) (w0 : World) (hs : ac.eval s = v) (hx : ac.eval x = .slice (some ⟨w0.heap.size, 0, none⟩) 1 1) (hown : w0.ownsRow base 26 3 v n (vals .u32 zs)) (hn : n ≤ 100000) (hbase : base ≤ w0.heap.size)
    (h : ∀ g cap w', w'.ownsRow base 26 3 (.slice (some ⟨g, 0, none⟩) (n + 1) cap) (n + 1) (vals .u32 (zs ++ [x0, x1, x2])) → Below base w0 w' → wpList Tryz.prog ops Q rest (ac.put o.dst (.slice (some ⟨g, 0, none⟩) (n + 1) cap)) w') :
    wpList Tryz.prog ops Q (o :: rest) ac (w0.alloc (.cells #[.int .u32 x0, .int .u32 x1, .int .u32 x2] 26)) := by
  obtain ⟨i0, hi, hz0, hz1, hz2⟩ := info_parts info_Point
  refine wpList_append_lies (P := Tryz.prog) (w0.alloc (.cells #[.int .u32 x0, .int .u32 x1, .int .u32 x2] 26)) hgd s x 45 ho base 26 i0 _ 3 12 Tryz.underlying45 hi hz0 hz1 hz2 rfl (by decide) v n (vals .u32 zs) hs (hown.alloc _) ⟨w0.heap.size, 0, none⟩ 1 1 (vals .u32 [x0, x1, x2]) hx rfl ?_ ?_ (by decide) (by unfold maxLen; omega) (by omega) (by simp; omega) _ rfl ?_
  · exact World.news_of_block (cs := #[.int .u32 x0, .int .u32 x1, .int .u32 x2]) (by first | exact heap_alloc_new _ _ | exact Go.heap_alloc_new _ _)
  · intro u hu
    simp [vals] at hu
    rcases hu with rfl | rfl | rfl <;> rfl
  · intro g cap w' hown' hgrow _ _
    refine h g cap w' ?_ ?_
    · simpa [vals] using hown'
    · refine ((bel0 w0 _).mono hbase |>.grown hgrow (by simp; omega) ?_)
      intro k hk
      rcases hown.2 with ⟨h1, _⟩ | ⟨g0, cap0, cur, h1, h2, _⟩
      · rw [h1] at hk; simp [Value.ownBlock] at hk
      · rw [h1] at hk; simp [Value.ownBlock] at hk; omega

set_option maxRecDepth 100000 in
set_option maxHeartbeats 1000000 in
theorem several_point (R b off c : Nat) (bs : List Int) (i0 n : Nat) (w : World) (hu : U8 bs) (hn : n ≤ 1000) (hb : b < w.heap.size) (h : RdB w R b off c bs i0) :
    Calls Tryz.prog 164 #[.int .i64 n, .func (Fn.func 165) #[.pointer (some ⟨R, 0, none⟩)] #[]] w fun e w' => SevOut w R b off c bs i0 26 3 n (fun j => ptF bs (i0 + 4 * 3 * j)) e w' := by
  have HU : Hid (U8 bs) := hu
  have HH : Hid (RdB w R b off c bs i0) := h
  have HR : Hid (R < w.heap.size) := h.lt
  have HB : Hid (b < w.heap.size) := hb
  clear hu h hb
  go_enter Tryz.func164, Tryz.ntmps164
  go_wp2
  go_loopw [5, 7] (fun so si wr => ∃ (j : Nat), j ≤ n ∧ si = .int .i64 j ∧ Hid (firstF (fun j => ptF bs (i0 + 4 * 3 * j)) j = none) ∧ Hid (SevS w R b off c bs i0 26 3 j so wr)) (fun _ si _ => n - (intOf si).toNat)
  case atStart => exact ⟨0, Nat.zero_le _, rfl, rfl, ⟨⟨by simp [vals, numsB], .inl ⟨rfl, rfl⟩⟩, HH.out, Aside.refl _ _⟩⟩
  case round =>
    obtain ⟨j, hj, rfl, hA, hS⟩ := hrel
    by_cases hlt : j < n
    · have hib : (j : Int) < n := by omega
      cases hF : ptF bs (i0 + 4 * 3 * j) with
      | none =>
        have HN : Hid (firstF (fun j => ptF bs (i0 + 4 * 3 * j)) (j + 1) = none) := firstF_succ hA.out hF
        have HF : Hid (ptF bs (i0 + 4 * 3 * j) = none) := hF
        have HE : Hid (∀ I, I = i0 + 4 * 3 * j → numsB bs i0 ((j + 1) * 3) = numsB bs i0 (j * 3) ++ [numB bs I 4, numB bs (I + 4) 4, numB bs (I + 8) 4]) := by
          intro I hI
          exact nums3 (by omega) (by have := ptF_len hF; omega)
        have hbl : b < wr.heap.size := Nat.lt_of_lt_of_le HB.out hS.out.asd.size
        obtain ⟨I, hI⟩ : ∃ I, I = i0 + 4 * 3 * j := ⟨_, rfl⟩
        have HI : Hid (I = i0 + 4 * 3 * j) := hI
        rw [← hI] at HF
        clear hF hI
        go_wp2_with fail
        refine (point_ok R b off c bs I _ HU.out hbl HF.out (by rw [HI.out]; exact hS.out.rd)).mono ?_
        rintro e V ⟨rfl, hrd, has⟩
        have HV : Hid (RdB V R b off c bs (i0 + 4 * 3 * (j + 1)) ∧ Aside R wr V) := ⟨by rw [show i0 + 4 * 3 * (j + 1) = I + 12 by rw [HI.out]; omega]; exact hrd, has⟩
        have HO : Hid (V.ownsRow w.heap.size 26 3 u5 j (vals .u32 (numsB bs i0 (j * 3)))) := aside_ownk has hS.out.own HR.out
        have hsz : w.heap.size ≤ V.heap.size := Nat.le_trans hS.out.asd.size has.size
        clear hrd has HF
        go_wp2_with (at_builtin; refine app3w rfl (.tmp 9) (.tmp 12) rfl w.heap.size _ j _ _ _ _ V rfl rfl HO.out (by omega) hsz ?_; intro g1 k1 w1 ho1 hb1)
        have HS : Hid (SevS w R b off c bs i0 26 3 (j + 1) (.slice (some ⟨g1, 0, none⟩) (j + 1) k1) w1) := hS.out.next HR.out HB.out HV.out.1 HV.out.2 (by rw [HE.out I HI.out]; exact ho1) hb1
        clear ho1 hb1 HO HV hS hsz
        go_roundw
        case rel => exact ⟨j + 1, by omega, by go_num, HN, HS⟩
        case measure => simp [intOf]; omega
      | some x =>
        have HX : Hid (firstF (fun j => ptF bs (i0 + 4 * 3 * j)) n = some x) := firstF_hit hlt hA.out hF
        have HF : Hid (ptF bs (i0 + 4 * 3 * j) = some x) := hF
        have hbl : b < wr.heap.size := Nat.lt_of_lt_of_le HB.out hS.out.asd.size
        clear hF
        go_wp2_with fail
        refine (point_bad R b off c bs (i0 + 4 * 3 * j) x _ HU.out hbl HF.out hS.out.rd).mono ?_
        rintro e V ⟨rfl, has⟩
        exact ⟨rfl, .inr ⟨x, HX.out, rfl, hS.out.asd.trans has⟩⟩
    · have hje : n = j := by omega
      subst hje
      go_wp2
      go_ret
      exact .inl ⟨hA.out, _, rfl, hS.out⟩

end Go.Proofs.YtfcnokagfibgcahGreat

/-
  Any drawn pair; many triangles along an axis; how many bytes the reader has left.
-/
namespace Go.Proofs.YtfcnokagfibgcahGreat
open Go.RowKit

theorem pairD (wild : Bool) (rs : List Int) : ∃ x0 x1 x2 x3 x4 x5 x6 x7 x8 y0 y1 y2 y3 y4 y5 rs', PairD wild rs x0 x1 x2 x3 x4 x5 x6 x7 x8 y0 y1 y2 y3 y4 y5 rs' := by
  obtain ⟨t0, t1, t2, t3, t4, t5, t6, t7, t8, rs1, hA⟩ := triD wild rs.tail
  obtain ⟨r0, r1, r2, r3, r4, r5, rs2, hB⟩ := rayD wild rs1
  by_cases h0 : rs.headD 0 % 8 = 0
  · exact pairD0 wild rs rs1 rs2 t0 t1 t2 t3 t4 t5 t6 t7 t8 r0 r1 r2 r3 r4 r5 (rs.headD 0) hA hB rfl h0
  · by_cases h1 : rs.headD 0 % 8 = 1
    · exact pairD1 wild rs rs1 rs2 t0 t1 t2 t3 t4 t5 t6 t7 t8 r0 r1 r2 r3 r4 r5 (rs.headD 0) hA hB rfl h1
    · by_cases h2 : rs.headD 0 % 8 = 2
      · exact pairD2 wild rs rs1 rs2 t0 t1 t2 t3 t4 t5 t6 t7 t8 r0 r1 r2 r3 r4 r5 (rs.headD 0) hA hB rfl h2
      · by_cases h3 : rs.headD 0 % 8 = 3
        · exact pairD3 wild rs rs1 rs2 t0 t1 t2 t3 t4 t5 t6 t7 t8 r0 r1 r2 r3 r4 r5 (rs.headD 0) hA hB rfl h3
        · exact pairD4 wild rs rs1 rs2 t0 t1 t2 t3 t4 t5 t6 t7 t8 r0 r1 r2 r3 r4 r5 (rs.headD 0) hA hB rfl ⟨h0, h1, h2, h3⟩

/-- Many triangles along an axis. -/
def manyX (i : Nat) : Int := 1065353216 + ((i % 7 : Nat) : Int) * 1048576
def manyZ : Nat → List Int
  | 0 => []
  | i + 1 => manyZ i ++ [manyX i, 0, 0, manyX i, 1065353216, 0, manyX i, 0, 1073741824]
theorem manyX_range (i : Nat) : 0 ≤ manyX i ∧ manyX i < 4294967296 := by
  unfold manyX
  have : i % 7 < 7 := Nat.mod_lt _ (by decide)
  omega
theorem manyZ_length : ∀ n, (manyZ n).length = n * 9
  | 0 => rfl
  | n + 1 => by rw [manyZ, List.length_append, manyZ_length n]; simp; omega
theorem manyZ_u32 : ∀ n, U32 (manyZ n)
  | 0 => fun z hz => by simp [manyZ] at hz
  | n + 1 => by
    intro z hz
    rcases List.mem_append.1 hz with h | h
    · exact manyZ_u32 n z h
    · have := manyX_range n
      simp at h
      omega

/-- A list of k numbers an element that a call has made. -/
structure MadeL (w : World) (t : TypeId) (k n : Nat) (zs : List Int) (v : Value) (w' : World) : Prop where
  own : w'.ownsRow w.heap.size t k v n (vals .u32 zs)
  bel : Below w.heap.size w w'

set_option maxRecDepth 100000 in
set_option maxHeartbeats 1000000 in
theorem many_any (n : Nat) (w : World) (hn : n ≤ 1000) :
    Calls Tryz.prog 52 #[.int .i64 n] w fun e w' => ∃ v, e = .returned v ∧ MadeL w 41 9 n (manyZ n) v w' := by
  go_enter Tryz.func52, Tryz.ntmps52
  go_wp2
  go_loopw [3, 4, 5] (fun so si _ wr => ∃ (i : Nat), i ≤ n ∧ si = .int .i64 i ∧ Hid (MadeL w 41 9 i (manyZ i) so wr)) (fun _ si _ _ => n - (intOf si).toNat)
  case atStart => exact ⟨0, Nat.zero_le _, rfl, ⟨by simp [vals, manyZ], .inl ⟨rfl, rfl⟩⟩, Below.refl _ _⟩
  case round =>
    obtain ⟨i, hi, rfl, hM⟩ := hrel
    by_cases hlt : i < n
    · have hib : (i : Int) < n := by omega
      have hm : (i : Int).tmod 7 = ((i % 7 : Nat) : Int) := by rw [Int.tmod_eq_emod_of_nonneg (by omega)]; omega
      have hx := manyX_range i
      have HX : Hid (1065353216 + ((i % 7 : Nat) : Int) * 1048576 = manyX i) := rfl
      have h7 : i % 7 < 7 := Nat.mod_lt _ (by decide)
      obtain ⟨q, hq⟩ : ∃ q, q = i % 7 := ⟨_, rfl⟩
      rw [← hq] at hm h7 HX
      clear hq
      have hown := hM.out.own
      have hsz := hM.out.bel.size
      go_wp2_with (at_builtin; refine app9w rfl (.tmp 16) (.tmp 24) rfl w.heap.size _ i _ _ _ _ _ _ _ _ _ _ wr rfl rfl hown (by omega) hsz ?_; intro g1 k1 w1 ho1 hb1)
      have HM : Hid (MadeL w 41 9 (i + 1) (manyZ (i + 1)) (.slice (some ⟨g1, 0, none⟩) (i + 1) k1) w1) := ⟨by rw [manyZ, ← HX.out]; exact ho1, hM.out.bel.trans hb1⟩
      clear ho1 hb1 hown hsz hM hm hx HX
      go_roundw
      case rel => exact ⟨i + 1, by omega, by go_num, HM⟩
      case measure => simp [intOf]; omega
    · have hie : n = i := by omega
      subst hie
      go_wp2
      go_ret
      exact ⟨_, rfl, hM.out⟩

theorem leftF_any (P : Nat) (rs : List Int) (w : World) (h : Rs P rs w) :
    Calls Tryz.prog 130 #[.pointer (some ⟨P, 0, none⟩)] w fun e w' => e = .returned (.int .i64 rs.length) ∧ Below w.heap.size w w' := by
  obtain ⟨⟨a, c, bs, i, h1, h2, h3, h4, h5, h6, h7, h8⟩, hf, hl⟩ := h
  have hlen : Hid ((rs.length : Int) = (bs.length : Int) - i) := by unfold Hid; rw [h8, List.length_drop]; omega
  clear h5 h6 h7 h8 hf hl
  go_enter Tryz.func130, Tryz.ntmps130
  go_wp2
  go_quiet (fail)
  go_wp2
  go_ret
  exact ⟨by rw [hlen.out]; rfl, below_drewN (Below.refl _ _) _⟩

/-- The numbers of the element at place p, turned. -/
def turnT (zs : List Int) (p : Nat) : List Int := [zs.getD (p * 9 + 3) 0, zs.getD (p * 9 + 4) 0, zs.getD (p * 9 + 5) 0, zs.getD (p * 9 + 6) 0, zs.getD (p * 9 + 7) 0, zs.getD (p * 9 + 8) 0, zs.getD (p * 9) 0, zs.getD (p * 9 + 1) 0, zs.getD (p * 9 + 2) 0]

/-- What one round of l5drawTris appends to j triangles zs, and the bytes that are left. -/
def RoundT (wild : Bool) (j : Nat) (zs rs xs rs' : List Int) : Prop :=
  (rs.headD 0 % 5 = 0 ∧ 0 < j ∧ xs = turnT zs (rs.headD 0 / 5 % j).toNat ∧ rs' = rs.tail) ∨
  (¬ (rs.headD 0 % 5 = 0 ∧ 0 < j) ∧ ∃ x0 x1 x2 x3 x4 x5 x6 x7 x8 y0 y1 y2 y3 y4 y5, xs = [x0, x1, x2, x3, x4, x5, x6, x7, x8] ∧ PairD wild rs.tail x0 x1 x2 x3 x4 x5 x6 x7 x8 y0 y1 y2 y3 y4 y5 rs')
theorem roundT (wild : Bool) (j : Nat) (zs rs : List Int) : ∃ xs rs', RoundT wild j zs rs xs rs' := by
  by_cases h : rs.headD 0 % 5 = 0 ∧ 0 < j
  · exact ⟨_, _, .inl ⟨h.1, h.2, rfl, rfl⟩⟩
  · obtain ⟨x0, x1, x2, x3, x4, x5, x6, x7, x8, y0, y1, y2, y3, y4, y5, rs', hp⟩ := pairD wild rs.tail
    exact ⟨_, _, .inr ⟨h, x0, x1, x2, x3, x4, x5, x6, x7, x8, y0, y1, y2, y3, y4, y5, rfl, hp⟩⟩
noncomputable def stepX (wild : Bool) (j : Nat) (zs rs : List Int) : List Int := Classical.choose (roundT wild j zs rs)
noncomputable def stepR (wild : Bool) (j : Nat) (zs rs : List Int) : List Int := Classical.choose (Classical.choose_spec (roundT wild j zs rs))
theorem step_spec (wild : Bool) (j : Nat) (zs rs : List Int) : RoundT wild j zs rs (stepX wild j zs rs) (stepR wild j zs rs) := Classical.choose_spec (Classical.choose_spec (roundT wild j zs rs))
/-- The triangles after j rounds, and the bytes that are left. -/
noncomputable def trisS (wild : Bool) (rs : List Int) : Nat → List Int × List Int
  | 0 => ([], rs)
  | j + 1 => ((trisS wild rs j).1 ++ stepX wild j (trisS wild rs j).1 (trisS wild rs j).2, stepR wild j (trisS wild rs j).1 (trisS wild rs j).2)

theorem turnT_u32 {zs : List Int} (h : U32 zs) (p : Nat) : U32 (turnT zs p) := u32_9 (h.at _) (h.at _) (h.at _) (h.at _) (h.at _) (h.at _) (h.at _) (h.at _) (h.at _)
theorem RoundT.good {wild : Bool} {j : Nat} {zs rs xs rs' : List Int} (h : RoundT wild j zs rs xs rs') (hz : U32 zs) : xs.length = 9 ∧ U32 xs := by
  rcases h with ⟨_, _, rfl, _⟩ | ⟨_, x0, x1, x2, x3, x4, x5, x6, x7, x8, y0, y1, y2, y3, y4, y5, rfl, hp⟩
  · exact ⟨rfl, turnT_u32 hz _⟩
  · exact ⟨rfl, hp.r⟩
theorem trisS_good (wild : Bool) (rs : List Int) : ∀ j, (trisS wild rs j).1.length = j * 9 ∧ U32 (trisS wild rs j).1
  | 0 => ⟨rfl, fun z hz => by simp [trisS] at hz⟩
  | j + 1 => by
    have h := trisS_good wild rs j
    have g := (step_spec wild j (trisS wild rs j).1 (trisS wild rs j).2).good h.2
    refine ⟨?_, fun z hz => ?_⟩
    · rw [trisS, List.length_append, h.1, g.1]; omega
    · rcases List.mem_append.1 hz with h1 | h1
      · exact h.2 z h1
      · exact g.2 z h1

/-- There is a first place at which f does not hold, at n at the latest. -/
theorem first_stop_le (f : Nat → Prop) : ∀ (j n : Nat), j ≤ n → ¬ f j → ∃ m, m ≤ n ∧ (∀ i, i < m → f i) ∧ ¬ f m := by
  intro j
  induction j using Nat.strongRecOn with
  | _ j ih =>
    intro n hj hf
    by_cases h : ∃ i, i < j ∧ ¬ f i
    · obtain ⟨i, hi, hfi⟩ := h
      exact ih i hi n (by omega) hfi
    · refine ⟨j, hj, fun i hi => ?_, hf⟩
      by_cases hfi : f i
      · exact hfi
      · exact absurd ⟨i, hi, hfi⟩ h

end Go.Proofs.YtfcnokagfibgcahGreat

/-
  Drawn lists of triangles: what is drawn is told by the reader's bytes alone.
-/
namespace Go.Proofs.YtfcnokagfibgcahGreat
open Go.RowKit

/-- Memory after j rounds. -/
structure TriS (w : World) (P : Nat) (j : Nat) (zs rs : List Int) (so : Value) (wr : World) : Prop where
  own : wr.ownsRow w.heap.size 41 9 so j (vals .u32 zs)
  rs : Rs P rs wr
  asd : Aside P w wr
def condT (wild : Bool) (n : Nat) (rs : List Int) (j : Nat) : Prop := j < n ∧ (j < 2 ∨ 0 < (trisS wild rs j).2.length)

structure TrisD (wild : Bool) (rs : List Int) (n : Nat) (zs rs' : List Int) : Prop where
  n6 : n ≤ 6
  len : zs.length = n * 9
  r : U32 zs
  tells : ∀ P w, Rs P rs w → Calls Tryz.prog 53 #[.pointer (some ⟨P, 0, none⟩), .bool wild] w fun e w' => ∃ v, e = .returned v ∧ TriS w P n zs rs' v w'

theorem TriS.call {w wr w' : World} {P j : Nat} {zs rs rs' : List Int} {so : Value} (h : TriS w P j zs rs so wr) (hP : P < w.heap.size) (hr : Rs P rs' w') (ha : Aside P wr w') : TriS w P j zs rs' so w' :=
  ⟨aside_ownk ha h.own hP, hr, h.asd.trans ha⟩
theorem TriS.later {w wr w' : World} {P j : Nat} {zs rs : List Int} {so : Value} (h : TriS w P j zs rs so wr) (hP : P < w.heap.size) (hb : Below wr.heap.size wr w') : TriS w P j zs rs so w' :=
  h.call hP (h.rs.later hb) (Aside.of hb)
theorem TriS.app {w wr w' : World} {P j : Nat} {zs xs rs : List Int} {so v : Value} (h : TriS w P j zs rs so wr) (hP : P < w.heap.size) (ho : w'.ownsRow w.heap.size 41 9 v (j + 1) (vals .u32 (zs ++ xs))) (hb : Below w.heap.size wr w') : TriS w P (j + 1) (zs ++ xs) rs v w' :=
  ⟨ho, h.rs.above hb hP, h.asd.high hb (Nat.le_refl _)⟩

set_option maxRecDepth 100000 in
set_option maxHeartbeats 4000000 in
theorem trisD (wild : Bool) (rs : List Int) : ∃ n zs rs', TrisD wild rs n zs rs' := by
  obtain ⟨kk, hkk⟩ : ∃ k, k = rs.headD 0 := ⟨_, rfl⟩
  have HK : Hid (rs.headD 0 = kk) := hkk.symm
  clear hkk
  obtain ⟨n, hn⟩ : ∃ n : Nat, n = (kk % 7).toNat := ⟨_, rfl⟩
  have hn6 : n ≤ 6 := by omega
  have hnk : (kk % 7 : Int) = n := by omega
  clear hn
  obtain ⟨m, hm1, hm2, hm3⟩ := first_stop_le (condT wild n rs.tail) n n (Nat.le_refl _) (fun h => Nat.lt_irrefl _ h.1)
  have hg := trisS_good wild rs.tail m
  refine ⟨m, (trisS wild rs.tail m).1, (trisS wild rs.tail m).2, by omega, hg.1, hg.2, ?_⟩
  clear hg
  intro P w h
  have hP := h.lt
  have HS : Hid (Rs P rs w) := h
  have HM2 : Hid (∀ j, j < m → condT wild n rs.tail j) := hm2
  have HM3 : Hid (¬ condT wild n rs.tail m) := hm3
  clear h hm2 hm3
  go_enter Tryz.func53, Tryz.ntmps53
  go_wp2_with fail
  refine (nextF_any P rs _ HS.out).mono ?_
  rintro e w1 ⟨rfl, hk0, hk1, hr, ha⟩
  rw [HK.out] at hk0 hk1 ⊢
  have hm7 : kk.tmod 7 = n := by rw [Int.tmod_eq_emod_of_nonneg hk0]; exact hnk
  have T0 : Hid (TriS w P 0 [] rs.tail (.slice none 0 0) w1) := ⟨⟨by simp [vals], .inl ⟨rfl, rfl⟩⟩, hr, ha⟩
  clear hr ha hnk
  go_wp2
  clear hm7
  go_loopw [6, 7, 8, 9, 10, 11] (fun so si _ _ _ _ wr => ∃ (j : Nat), j ≤ m ∧ si = .int .i64 j ∧ Hid (TriS w P j (trisS wild rs.tail j).1 (trisS wild rs.tail j).2 so wr)) (fun _ si _ _ _ _ _ => m - (intOf si).toNat)
  case atStart => exact ⟨0, Nat.zero_le _, rfl, T0⟩
  case round =>
    obtain ⟨j, hj, rfl, hT⟩ := hrel
    by_cases hc : j < m
    · obtain ⟨hjn, hj2⟩ := HM2.out j hc
      have hin : (j : Int) < n := by omega
      have HST := step_spec wild j (trisS wild rs.tail j).1 (trisS wild rs.tail j).2
      have hgood := trisS_good wild rs.tail j
      have HE : Hid ((trisS wild rs.tail (j + 1)).1 = (trisS wild rs.tail j).1 ++ stepX wild j (trisS wild rs.tail j).1 (trisS wild rs.tail j).2 ∧ (trisS wild rs.tail (j + 1)).2 = stepR wild j (trisS wild rs.tail j).1 (trisS wild rs.tail j).2) := ⟨rfl, rfl⟩
      obtain ⟨zs, hzs⟩ : ∃ zs, zs = (trisS wild rs.tail j).1 := ⟨_, rfl⟩
      obtain ⟨us, hus⟩ : ∃ us, us = (trisS wild rs.tail j).2 := ⟨_, rfl⟩
      rw [← hzs, ← hus] at HST HE hT
      rw [← hzs] at hgood
      rw [← hus] at hj2
      obtain ⟨xs, hxs⟩ : ∃ xs, xs = stepX wild j zs us := ⟨_, rfl⟩
      obtain ⟨vs, hvs⟩ : ∃ vs, vs = stepR wild j zs us := ⟨_, rfl⟩
      rw [← hxs, ← hvs] at HST HE
      clear hzs hus hxs hvs
      have HL : Hid (zs.length = j * 9 ∧ U32 zs) := hgood
      have hj7 : j < 7 := by omega
      clear hgood
      by_cases h2 : j < 2
      · have hi2 : (j : Int) < 2 := by omega
        clear hj2
        go_wp2_with fail
        refine (nextF_any P us _ hT.out.rs).mono ?_
        rintro e w2 ⟨rfl, b0, b1', hr, ha⟩
        have hT2 : Hid (TriS w P j zs us.tail u6 w2) := hT.out.call hP hr ha
        clear hr ha hT
        obtain ⟨kq, hkq⟩ : ∃ k, k = us.headD 0 := ⟨_, rfl⟩
        have HKQ : Hid (us.headD 0 = kq) := hkq.symm
        rw [← hkq] at b0 b1' ⊢
        clear hkq
        have hm5 : kq.tmod 5 = kq % 5 := Int.tmod_eq_emod_of_nonneg b0
        have hsz : w.heap.size ≤ w2.heap.size := hT2.out.asd.size
        rcases HST with ⟨c5, c0, rfl, rfl⟩ | ⟨hno, x0, x1, x2, x3, x4, x5, x6, x7, x8, y0, y1, y2, y3, y4, y5, rfl, hp⟩
        · rw [HKQ.out] at c5 HE
          have e5 : (kq % 5 == 0) = true := by rw [beq_iff_eq]; exact c5
          have j0 : (0 : Int) < j := by omega
          have hq5 : kq.tdiv 5 = kq / 5 := Int.tdiv_eq_ediv_of_nonneg b0
          have hq6 : 0 ≤ kq / 5 := by omega
          obtain ⟨p, hp⟩ : ∃ p : Nat, p = (kq / 5 % (j : Int)).toNat := ⟨_, rfl⟩
          have hpi : kq / 5 % (j : Int) = p := by rw [hp]; exact (Int.toNat_of_nonneg (Int.emod_nonneg _ (by omega))).symm
          have hpj : p < j := by have := Int.emod_lt_of_pos (kq / 5) j0; omega
          have hrm : (kq / 5).tmod (j : Int) = p := by rw [Int.tmod_eq_emod_of_nonneg hq6]; exact hpi
          rw [← hp] at HE
          clear hp hpi c5
          obtain ⟨a, c, rfl, hrow⟩ := own_flat hT2.out.own HL.out.1
          obtain ⟨b1, off, rfl, _, _, hlt1, hcell, _⟩ := hrow.resolve_left (by intro h; have := HL.out.1; rw [h] at this; simp at this; omega)
          have hpl : p * 9 + 9 ≤ zs.length := by rw [HL.out.1]; have := Nat.mul_le_mul_right 9 (show p + 1 ≤ j by omega); omega
          have q0 : w2.cell? ⟨b1, off + p * 9, none⟩ = some (.int .u32 (zs.getD (p * 9) 0)) := by
            have := hcell (p * 9 + 0) (by omega)
            simpa [Nat.add_assoc] using this
          have q1 : w2.cell? ⟨b1, off + p * 9 + 1, none⟩ = some (.int .u32 (zs.getD (p * 9 + 1) 0)) := by
            have := hcell (p * 9 + 1) (by omega)
            simpa [Nat.add_assoc] using this
          have q2 : w2.cell? ⟨b1, off + p * 9 + 2, none⟩ = some (.int .u32 (zs.getD (p * 9 + 2) 0)) := by
            have := hcell (p * 9 + 2) (by omega)
            simpa [Nat.add_assoc] using this
          have q3 : w2.cell? ⟨b1, off + p * 9 + 3, none⟩ = some (.int .u32 (zs.getD (p * 9 + 3) 0)) := by
            have := hcell (p * 9 + 3) (by omega)
            simpa [Nat.add_assoc] using this
          have q4 : w2.cell? ⟨b1, off + p * 9 + 4, none⟩ = some (.int .u32 (zs.getD (p * 9 + 4) 0)) := by
            have := hcell (p * 9 + 4) (by omega)
            simpa [Nat.add_assoc] using this
          have q5 : w2.cell? ⟨b1, off + p * 9 + 5, none⟩ = some (.int .u32 (zs.getD (p * 9 + 5) 0)) := by
            have := hcell (p * 9 + 5) (by omega)
            simpa [Nat.add_assoc] using this
          have q6 : w2.cell? ⟨b1, off + p * 9 + 6, none⟩ = some (.int .u32 (zs.getD (p * 9 + 6) 0)) := by
            have := hcell (p * 9 + 6) (by omega)
            simpa [Nat.add_assoc] using this
          have q7 : w2.cell? ⟨b1, off + p * 9 + 7, none⟩ = some (.int .u32 (zs.getD (p * 9 + 7) 0)) := by
            have := hcell (p * 9 + 7) (by omega)
            simpa [Nat.add_assoc] using this
          have q8 : w2.cell? ⟨b1, off + p * 9 + 8, none⟩ = some (.int .u32 (zs.getD (p * 9 + 8) 0)) := by
            have := hcell (p * 9 + 8) (by omega)
            simpa [Nat.add_assoc] using this
          have HTU : Hid (turnT zs p = [zs.getD (p * 9 + 3) 0, zs.getD (p * 9 + 4) 0, zs.getD (p * 9 + 5) 0, zs.getD (p * 9 + 6) 0, zs.getD (p * 9 + 7) 0, zs.getD (p * 9 + 8) 0, zs.getD (p * 9) 0, zs.getD (p * 9 + 1) 0, zs.getD (p * 9 + 2) 0]) := rfl
          obtain ⟨y0, hy0⟩ : ∃ y, y = zs.getD (p * 9) 0 := ⟨_, rfl⟩
          obtain ⟨y1, hy1⟩ : ∃ y, y = zs.getD (p * 9 + 1) 0 := ⟨_, rfl⟩
          obtain ⟨y2, hy2⟩ : ∃ y, y = zs.getD (p * 9 + 2) 0 := ⟨_, rfl⟩
          obtain ⟨y3, hy3⟩ : ∃ y, y = zs.getD (p * 9 + 3) 0 := ⟨_, rfl⟩
          obtain ⟨y4, hy4⟩ : ∃ y, y = zs.getD (p * 9 + 4) 0 := ⟨_, rfl⟩
          obtain ⟨y5, hy5⟩ : ∃ y, y = zs.getD (p * 9 + 5) 0 := ⟨_, rfl⟩
          obtain ⟨y6, hy6⟩ : ∃ y, y = zs.getD (p * 9 + 6) 0 := ⟨_, rfl⟩
          obtain ⟨y7, hy7⟩ : ∃ y, y = zs.getD (p * 9 + 7) 0 := ⟨_, rfl⟩
          obtain ⟨y8, hy8⟩ : ∃ y, y = zs.getD (p * 9 + 8) 0 := ⟨_, rfl⟩
          rw [← hy3, ← hy4, ← hy5, ← hy6, ← hy7, ← hy8, ← hy0, ← hy1, ← hy2] at HTU
          rw [← hy0] at q0
          rw [← hy1] at q1
          rw [← hy2] at q2
          rw [← hy3] at q3
          rw [← hy4] at q4
          rw [← hy5] at q5
          rw [← hy6] at q6
          rw [← hy7] at q7
          rw [← hy8] at q8
          have hpi : (p : Int) < j := by omega
          have hT3 : Hid (∀ o, TriS w P j zs us.tail (.slice (some ⟨b1, off, none⟩) j c) (w2.alloc o)) := fun o => hT2.out.later hP (bel0 _ _)
          clear hrow hcell hlt1 hpl hy0 hy1 hy2 hy3 hy4 hy5 hy6 hy7 hy8 hT2
          go_wp2_with (at_builtin; refine app9w rfl (.tmp 47) (.tmp 55) rfl w.heap.size _ j zs _ _ _ _ _ _ _ _ _ _ rfl (by simp; rfl) (hT3.out _).own (by omega) (by simp; omega) ?_; intro g1 k1 w4 ho1 hb1)
          have hT4 : Hid (TriS w P (j + 1) (trisS wild rs.tail (j + 1)).1 (trisS wild rs.tail (j + 1)).2 (.slice (some ⟨g1, 0, none⟩) (j + 1) k1) w4) := by
            unfold Hid
            rw [HE.out.1, HE.out.2, HTU.out]
            exact (hT3.out _).app hP ho1 hb1
          clear ho1 hb1 hT3 HE HTU q0 q1 q2 q3 q4 q5 q6 q7 q8
          go_roundw
          case rel => exact ⟨j + 1, by omega, by go_num, hT4⟩
          case measure => simp [intOf]; omega
        · rw [HKQ.out] at hno
          have HP : Hid (PairD wild us.tail x0 x1 x2 x3 x4 x5 x6 x7 x8 y0 y1 y2 y3 y4 y5 vs) := hp
          obtain ⟨a, c, hu6⟩ : ∃ a c, u6 = .slice a j c := by
            obtain ⟨a, c, h1, _⟩ := own_flat hT2.out.own HL.out.1
            exact ⟨a, c, h1⟩
          subst hu6
          have hT3 : Hid (∀ V o1 o2, Rs P vs V → Aside P w2 V → TriS w P j zs vs (.slice a j c) ((V.alloc o1).alloc o2)) := fun V o1 o2 h1 h2 => (hT2.out.call hP h1 h2).later hP (bel2 _ _ _)
          have HR2 : Hid (Rs P us.tail w2) := hT2.out.rs
          clear hp hT2
          have HCC : Hid (Calls Tryz.prog 51 #[.pointer (some ⟨P, 0, none⟩), .bool wild] w2 fun e w' => Drew P (.tuple #[.agg #[.int .u32 x0, .int .u32 x1, .int .u32 x2, .int .u32 x3, .int .u32 x4, .int .u32 x5, .int .u32 x6, .int .u32 x7, .int .u32 x8], .agg #[.int .u32 y0, .int .u32 y1, .int .u32 y2, .int .u32 y3, .int .u32 y4, .int .u32 y5]]) vs w2 e w') := HP.out.tells P w2 HR2.out
          by_cases h5 : kq % 5 = 0
          · have e5 : (kq % 5 == 0) = true := by rw [beq_iff_eq]; exact h5
            have j0 : j = 0 := by
              by_cases h : 0 < j
              · exact absurd ⟨h5, h⟩ hno
              · omega
            subst j0
            clear hno h5
            go_wp2_with fail
            refine HCC.out.mono ?_
            rintro e V ⟨rfl, hr, ha⟩
            have hV : w.heap.size ≤ V.heap.size := Nat.le_trans hsz ha.size
            have hT4 : Hid (∀ o1 o2, TriS w P 0 zs vs (.slice a 0 c) ((V.alloc o1).alloc o2)) := fun o1 o2 => hT3.out V o1 o2 hr ha
            clear hr ha hT3 HCC
            go_wp2_with (at_builtin; refine app9w rfl (.tmp 63) (.tmp 65) rfl w.heap.size _ 0 zs _ _ _ _ _ _ _ _ _ _ rfl (by simp; rfl) (hT4.out _ _).own (by omega) (by simp; omega) ?_; intro g1 k1 w4 ho1 hb1)
            have hT5 : Hid (TriS w P (0 + 1) (trisS wild rs.tail (0 + 1)).1 (trisS wild rs.tail (0 + 1)).2 (.slice (some ⟨g1, 0, none⟩) (0 + 1) k1) w4) := by
              unfold Hid
              rw [HE.out.1, HE.out.2]
              exact (hT4.out _ _).app hP ho1 hb1
            clear ho1 hb1 hT4 HE
            go_roundw
            case rel => exact ⟨0 + 1, by omega, by go_num, hT5⟩
            case measure => simp [intOf]; omega
          · have e5 : (kq % 5 == 0) = false := by rw [beq_eq_false_iff_ne]; exact h5
            clear hno h5
            go_wp2_with fail
            refine HCC.out.mono ?_
            rintro e V ⟨rfl, hr, ha⟩
            have hV : w.heap.size ≤ V.heap.size := Nat.le_trans hsz ha.size
            have hT4 : Hid (∀ o1 o2, TriS w P j zs vs (.slice a j c) ((V.alloc o1).alloc o2)) := fun o1 o2 => hT3.out V o1 o2 hr ha
            clear hr ha hT3 HCC
            go_wp2_with (at_builtin; refine app9w rfl (.tmp 63) (.tmp 65) rfl w.heap.size _ j zs _ _ _ _ _ _ _ _ _ _ rfl (by simp; rfl) (hT4.out _ _).own (by omega) (by simp; omega) ?_; intro g1 k1 w4 ho1 hb1)
            have hT5 : Hid (TriS w P (j + 1) (trisS wild rs.tail (j + 1)).1 (trisS wild rs.tail (j + 1)).2 (.slice (some ⟨g1, 0, none⟩) (j + 1) k1) w4) := by
              unfold Hid
              rw [HE.out.1, HE.out.2]
              exact (hT4.out _ _).app hP ho1 hb1
            clear ho1 hb1 hT4 HE
            go_roundw
            case rel => exact ⟨j + 1, by omega, by go_num, hT5⟩
            case measure => simp [intOf]; omega
      · have hi2 : ¬ (j : Int) < 2 := by omega
        have hl0 : (0 : Int) < us.length := by have := hj2.resolve_left h2; omega
        clear hj2
        go_wp2_with fail
        refine (leftF_any P us _ hT.out.rs).mono ?_
        rintro e u1 ⟨rfl, hb⟩
        have hT' : Hid (TriS w P j zs us u6 u1) := hT.out.later hP hb
        clear hT hb
        have hT := hT'
        clear hT'
        go_wp2_with fail
        refine (nextF_any P us _ hT.out.rs).mono ?_
        rintro e w2 ⟨rfl, b0, b1', hr, ha⟩
        have hT2 : Hid (TriS w P j zs us.tail u6 w2) := hT.out.call hP hr ha
        clear hr ha hT
        obtain ⟨kq, hkq⟩ : ∃ k, k = us.headD 0 := ⟨_, rfl⟩
        have HKQ : Hid (us.headD 0 = kq) := hkq.symm
        rw [← hkq] at b0 b1' ⊢
        clear hkq
        have hm5 : kq.tmod 5 = kq % 5 := Int.tmod_eq_emod_of_nonneg b0
        have hsz : w.heap.size ≤ w2.heap.size := hT2.out.asd.size
        rcases HST with ⟨c5, c0, rfl, rfl⟩ | ⟨hno, x0, x1, x2, x3, x4, x5, x6, x7, x8, y0, y1, y2, y3, y4, y5, rfl, hp⟩
        · rw [HKQ.out] at c5 HE
          have e5 : (kq % 5 == 0) = true := by rw [beq_iff_eq]; exact c5
          have j0 : (0 : Int) < j := by omega
          have hq5 : kq.tdiv 5 = kq / 5 := Int.tdiv_eq_ediv_of_nonneg b0
          have hq6 : 0 ≤ kq / 5 := by omega
          obtain ⟨p, hp⟩ : ∃ p : Nat, p = (kq / 5 % (j : Int)).toNat := ⟨_, rfl⟩
          have hpi : kq / 5 % (j : Int) = p := by rw [hp]; exact (Int.toNat_of_nonneg (Int.emod_nonneg _ (by omega))).symm
          have hpj : p < j := by have := Int.emod_lt_of_pos (kq / 5) j0; omega
          have hrm : (kq / 5).tmod (j : Int) = p := by rw [Int.tmod_eq_emod_of_nonneg hq6]; exact hpi
          rw [← hp] at HE
          clear hp hpi c5
          obtain ⟨a, c, rfl, hrow⟩ := own_flat hT2.out.own HL.out.1
          obtain ⟨b1, off, rfl, _, _, hlt1, hcell, _⟩ := hrow.resolve_left (by intro h; have := HL.out.1; rw [h] at this; simp at this; omega)
          have hpl : p * 9 + 9 ≤ zs.length := by rw [HL.out.1]; have := Nat.mul_le_mul_right 9 (show p + 1 ≤ j by omega); omega
          have q0 : w2.cell? ⟨b1, off + p * 9, none⟩ = some (.int .u32 (zs.getD (p * 9) 0)) := by
            have := hcell (p * 9 + 0) (by omega)
            simpa [Nat.add_assoc] using this
          have q1 : w2.cell? ⟨b1, off + p * 9 + 1, none⟩ = some (.int .u32 (zs.getD (p * 9 + 1) 0)) := by
            have := hcell (p * 9 + 1) (by omega)
            simpa [Nat.add_assoc] using this
          have q2 : w2.cell? ⟨b1, off + p * 9 + 2, none⟩ = some (.int .u32 (zs.getD (p * 9 + 2) 0)) := by
            have := hcell (p * 9 + 2) (by omega)
            simpa [Nat.add_assoc] using this
          have q3 : w2.cell? ⟨b1, off + p * 9 + 3, none⟩ = some (.int .u32 (zs.getD (p * 9 + 3) 0)) := by
            have := hcell (p * 9 + 3) (by omega)
            simpa [Nat.add_assoc] using this
          have q4 : w2.cell? ⟨b1, off + p * 9 + 4, none⟩ = some (.int .u32 (zs.getD (p * 9 + 4) 0)) := by
            have := hcell (p * 9 + 4) (by omega)
            simpa [Nat.add_assoc] using this
          have q5 : w2.cell? ⟨b1, off + p * 9 + 5, none⟩ = some (.int .u32 (zs.getD (p * 9 + 5) 0)) := by
            have := hcell (p * 9 + 5) (by omega)
            simpa [Nat.add_assoc] using this
          have q6 : w2.cell? ⟨b1, off + p * 9 + 6, none⟩ = some (.int .u32 (zs.getD (p * 9 + 6) 0)) := by
            have := hcell (p * 9 + 6) (by omega)
            simpa [Nat.add_assoc] using this
          have q7 : w2.cell? ⟨b1, off + p * 9 + 7, none⟩ = some (.int .u32 (zs.getD (p * 9 + 7) 0)) := by
            have := hcell (p * 9 + 7) (by omega)
            simpa [Nat.add_assoc] using this
          have q8 : w2.cell? ⟨b1, off + p * 9 + 8, none⟩ = some (.int .u32 (zs.getD (p * 9 + 8) 0)) := by
            have := hcell (p * 9 + 8) (by omega)
            simpa [Nat.add_assoc] using this
          have HTU : Hid (turnT zs p = [zs.getD (p * 9 + 3) 0, zs.getD (p * 9 + 4) 0, zs.getD (p * 9 + 5) 0, zs.getD (p * 9 + 6) 0, zs.getD (p * 9 + 7) 0, zs.getD (p * 9 + 8) 0, zs.getD (p * 9) 0, zs.getD (p * 9 + 1) 0, zs.getD (p * 9 + 2) 0]) := rfl
          obtain ⟨y0, hy0⟩ : ∃ y, y = zs.getD (p * 9) 0 := ⟨_, rfl⟩
          obtain ⟨y1, hy1⟩ : ∃ y, y = zs.getD (p * 9 + 1) 0 := ⟨_, rfl⟩
          obtain ⟨y2, hy2⟩ : ∃ y, y = zs.getD (p * 9 + 2) 0 := ⟨_, rfl⟩
          obtain ⟨y3, hy3⟩ : ∃ y, y = zs.getD (p * 9 + 3) 0 := ⟨_, rfl⟩
          obtain ⟨y4, hy4⟩ : ∃ y, y = zs.getD (p * 9 + 4) 0 := ⟨_, rfl⟩
          obtain ⟨y5, hy5⟩ : ∃ y, y = zs.getD (p * 9 + 5) 0 := ⟨_, rfl⟩
          obtain ⟨y6, hy6⟩ : ∃ y, y = zs.getD (p * 9 + 6) 0 := ⟨_, rfl⟩
          obtain ⟨y7, hy7⟩ : ∃ y, y = zs.getD (p * 9 + 7) 0 := ⟨_, rfl⟩
          obtain ⟨y8, hy8⟩ : ∃ y, y = zs.getD (p * 9 + 8) 0 := ⟨_, rfl⟩
          rw [← hy3, ← hy4, ← hy5, ← hy6, ← hy7, ← hy8, ← hy0, ← hy1, ← hy2] at HTU
          rw [← hy0] at q0
          rw [← hy1] at q1
          rw [← hy2] at q2
          rw [← hy3] at q3
          rw [← hy4] at q4
          rw [← hy5] at q5
          rw [← hy6] at q6
          rw [← hy7] at q7
          rw [← hy8] at q8
          have hpi : (p : Int) < j := by omega
          have hT3 : Hid (∀ o, TriS w P j zs us.tail (.slice (some ⟨b1, off, none⟩) j c) (w2.alloc o)) := fun o => hT2.out.later hP (bel0 _ _)
          clear hrow hcell hlt1 hpl hy0 hy1 hy2 hy3 hy4 hy5 hy6 hy7 hy8 hT2
          go_wp2_with (at_builtin; refine app9w rfl (.tmp 47) (.tmp 55) rfl w.heap.size _ j zs _ _ _ _ _ _ _ _ _ _ rfl (by simp; rfl) (hT3.out _).own (by omega) (by simp; omega) ?_; intro g1 k1 w4 ho1 hb1)
          have hT4 : Hid (TriS w P (j + 1) (trisS wild rs.tail (j + 1)).1 (trisS wild rs.tail (j + 1)).2 (.slice (some ⟨g1, 0, none⟩) (j + 1) k1) w4) := by
            unfold Hid
            rw [HE.out.1, HE.out.2, HTU.out]
            exact (hT3.out _).app hP ho1 hb1
          clear ho1 hb1 hT3 HE HTU q0 q1 q2 q3 q4 q5 q6 q7 q8
          go_roundw
          case rel => exact ⟨j + 1, by omega, by go_num, hT4⟩
          case measure => simp [intOf]; omega
        · rw [HKQ.out] at hno
          have HP : Hid (PairD wild us.tail x0 x1 x2 x3 x4 x5 x6 x7 x8 y0 y1 y2 y3 y4 y5 vs) := hp
          obtain ⟨a, c, hu6⟩ : ∃ a c, u6 = .slice a j c := by
            obtain ⟨a, c, h1, _⟩ := own_flat hT2.out.own HL.out.1
            exact ⟨a, c, h1⟩
          subst hu6
          have hT3 : Hid (∀ V o1 o2, Rs P vs V → Aside P w2 V → TriS w P j zs vs (.slice a j c) ((V.alloc o1).alloc o2)) := fun V o1 o2 h1 h2 => (hT2.out.call hP h1 h2).later hP (bel2 _ _ _)
          have HR2 : Hid (Rs P us.tail w2) := hT2.out.rs
          clear hp hT2
          have HCC : Hid (Calls Tryz.prog 51 #[.pointer (some ⟨P, 0, none⟩), .bool wild] w2 fun e w' => Drew P (.tuple #[.agg #[.int .u32 x0, .int .u32 x1, .int .u32 x2, .int .u32 x3, .int .u32 x4, .int .u32 x5, .int .u32 x6, .int .u32 x7, .int .u32 x8], .agg #[.int .u32 y0, .int .u32 y1, .int .u32 y2, .int .u32 y3, .int .u32 y4, .int .u32 y5]]) vs w2 e w') := HP.out.tells P w2 HR2.out
          by_cases h5 : kq % 5 = 0
          · have e5 : (kq % 5 == 0) = true := by rw [beq_iff_eq]; exact h5
            have j0 : j = 0 := by
              by_cases h : 0 < j
              · exact absurd ⟨h5, h⟩ hno
              · omega
            exfalso
            omega
          · have e5 : (kq % 5 == 0) = false := by rw [beq_eq_false_iff_ne]; exact h5
            clear hno h5
            go_wp2_with fail
            refine HCC.out.mono ?_
            rintro e V ⟨rfl, hr, ha⟩
            have hV : w.heap.size ≤ V.heap.size := Nat.le_trans hsz ha.size
            have hT4 : Hid (∀ o1 o2, TriS w P j zs vs (.slice a j c) ((V.alloc o1).alloc o2)) := fun o1 o2 => hT3.out V o1 o2 hr ha
            clear hr ha hT3 HCC
            go_wp2_with (at_builtin; refine app9w rfl (.tmp 63) (.tmp 65) rfl w.heap.size _ j zs _ _ _ _ _ _ _ _ _ _ rfl (by simp; rfl) (hT4.out _ _).own (by omega) (by simp; omega) ?_; intro g1 k1 w4 ho1 hb1)
            have hT5 : Hid (TriS w P (j + 1) (trisS wild rs.tail (j + 1)).1 (trisS wild rs.tail (j + 1)).2 (.slice (some ⟨g1, 0, none⟩) (j + 1) k1) w4) := by
              unfold Hid
              rw [HE.out.1, HE.out.2]
              exact (hT4.out _ _).app hP ho1 hb1
            clear ho1 hb1 hT4 HE
            go_roundw
            case rel => exact ⟨j + 1, by omega, by go_num, hT5⟩
            case measure => simp [intOf]; omega
    · have hje : m = j := by omega
      subst hje
      have HN := HM3.out
      by_cases hin : m < n
      · have hin' : (m : Int) < n := by omega
        have h2 : ¬ m < 2 := fun h => HN ⟨hin, .inl h⟩
        have hi2 : ¬ (m : Int) < 2 := by omega
        have hl0 : (trisS wild rs.tail m).2.length = 0 := by
          by_cases h0 : 0 < (trisS wild rs.tail m).2.length
          · exact absurd ⟨hin, .inr h0⟩ HN
          · omega
        have hl1 : (((trisS wild rs.tail m).2.length : Nat) : Int) = 0 := by omega
        clear HN hl0
        go_wp2_with fail
        refine (leftF_any P (trisS wild rs.tail m).2 _ hT.out.rs).mono ?_
        rintro e u1 ⟨rfl, hb⟩
        rw [hl1]
        have hT' : Hid (TriS w P m (trisS wild rs.tail m).1 (trisS wild rs.tail m).2 u6 u1) := hT.out.later hP hb
        clear hT hb hl1
        go_wp2
        go_ret
        exact ⟨_, rfl, hT'.out⟩
      · have hin' : ¬ (m : Int) < n := by omega
        clear HN
        go_wp2
        go_ret
        exact ⟨_, rfl, hT.out⟩

end Go.Proofs.YtfcnokagfibgcahGreat
