/-
  DrawBigAdd: two drawn Bigs.
-/
import Derived.Test.YtfgpknglgbpebadDrawW
import Derived.Test.YtfgpknglgbpebadDrawR
namespace Go.Proofs.Ytfgpknglgbpebad
open Go.RowKit

/-- What DrawBigAdd answers. -/
def DrawXOut (w : World) (e : Ending) (w' : World) : Prop :=
  ∃ (G : Bool) (a : Option Addr) (c : Nat) (zs : List Int) (G' : Bool) (a' : Option Addr) (c' : Nat) (ys : List Int), e = .returned (.tuple #[.agg #[.bool G, .slice a zs.length c], .agg #[.bool G', .slice a' ys.length c']]) ∧ zs.length ≤ 513 ∧ ys.length ≤ 513 ∧ U32 zs ∧ U32 ys ∧ Sl .u32 w' a c zs ∧ Sl .u32 w' a' c' ys ∧ Below w.heap.size w w'

/-- The two answers' boxes and the reader behind them. -/
structure Ry2 (w W : World) : Prop where
  h0 : Has w.heap.size W
  h1 : Has (w.heap.size + 1) W
  rd : Rd (w.heap.size + 1 + 1) W
  bel : Below w.heap.size w W

theorem Ry2.start {w W : World} {t : TypeId} {e : Ending} (h : OpenOut ((w.alloc (.cells #[.bool false, .slice none 0 0] t)).alloc (.cells #[.bool false, .slice none 0 0] t)) e W) : Ry2 w W := by
  obtain ⟨_, h2, h3, h4⟩ := h
  simp at h2 h4
  refine ⟨((Has.new w t).later (bel0 _ _)).later h3, ?_, h2, (bel2 _ _ _).trans (h3.mono (by simp; omega))⟩
  have h5 := (Has.new (w.alloc (.cells #[.bool false, .slice none 0 0] t)) t).later h3
  simpa using h5

theorem far_ne {B b j : Nat} {a : Option Addr} {zs : List Int} (h : Far B a zs) (hb : b < B) : ∀ b' o, a = some ⟨b', o, none⟩ → zs ≠ [] → b' ≠ (⟨b, j, none⟩ : Addr).block := h.away (p := ⟨b, j, none⟩) (by simpa using hb)

theorem row_two {w W : World} {B : Nat} {G G' : Bool} {v v' : Value} {a : Option Addr} {zs : List Int} (hr : RowAt .u32 W a zs) (hf : Far B a zs) (hB : w.heap.size + 1 < B) :
    RowAt .u32 ((((W.setCell ⟨w.heap.size, 0, none⟩ (.bool G)).setCell ⟨w.heap.size, 1, none⟩ v).setCell ⟨w.heap.size + 1, 0, none⟩ (.bool G')).setCell ⟨w.heap.size + 1, 1, none⟩ v') a zs :=
  (((hr.setAway (far_ne hf (by omega)) _).setAway (far_ne hf (by omega)) _).setAway (far_ne hf hB) _).setAway (far_ne hf hB) _

theorem row_two' {w W : World} {B : Nat} {G G' : Bool} {v v' : Value} {a : Option Addr} {zs : List Int} (hr : RowAt .u32 W a zs) (hf : Far B a zs) (hB : w.heap.size + 1 < B) :
    RowAt .u32 ((((W.setCell ⟨w.heap.size + 1, 0, none⟩ (.bool G')).setCell ⟨w.heap.size + 1, 1, none⟩ v').setCell ⟨w.heap.size, 0, none⟩ (.bool G)).setCell ⟨w.heap.size, 1, none⟩ v) a zs :=
  (((hr.setAway (far_ne hf hB) _).setAway (far_ne hf hB) _).setAway (far_ne hf (by omega)) _).setAway (far_ne hf (by omega)) _

set_option maxRecDepth 100000 in
set_option maxHeartbeats 2000000 in
theorem drawAdd_any (a : Option Addr) (c : Nat) (bs : List Int) (w : World) (hn : bs.length ≤ 1048576) (hc : bs.length ≤ c) (hcm : c ≤ maxLen) (hnil : a = none → c = 0) (hr : RowAt .u8 w a bs) (hb : Dig 256 bs) :
    Calls Try.prog 13 #[.slice a bs.length c] w fun e w' => DrawXOut w e w' := by
  go_enter Try.func13, Try.ntmps13
  go_wp2_with fail
  refine (open_any a c bs _ hn hc hcm hnil (hr.later (bel2 _ _ _)) hb).mono ?_
  rintro e w1 ho
  have Y1 : Hid (Ry2 w w1) := Ry2.start ho
  obtain ⟨rfl, _, _, _⟩ := ho
  have e1 : ((w.alloc (.cells #[.bool false, .slice none 0 0] 31)).alloc (.cells #[.bool false, .slice none 0 0] 31)).heap.size = w.heap.size + 1 + 1 := by simp
  rw [e1]
  clear e1
  go_wp2_with fail
  refine (drawTwo_any _ _ Y1.out.rd).mono ?_
  rintro e w4 ⟨G, a4, c4, zs, G', a5, c5, ys, rfl, hn4, hn5, hu4, hu5, hs4, hs5, ⟨hf4, hf5⟩, ha4⟩
  have hlt := Y1.out.rd.lt
  have hk0 := Y1.out.h0.asideB ha4 (by omega)
  have hk1 := Y1.out.h1.asideB ha4 (by omega)
  have r0 := hk0.r1
  have r1 := hk0.r2
  have r2 := hk0.r3
  have s0 := hk1.r1
  have s1 := hk1.r2
  have s2 := hk1.r3
  have HB : Hid (Below w.heap.size w w4) := Y1.out.bel.trans (ha4.below (by omega) Y1.out.bel.size)
  have HS4 : Hid (Sl .u32 w4 a4 c4 zs) := hs4
  have HS5 : Hid (Sl .u32 w4 a5 c5 ys) := hs5
  have HF4 : Hid (Far w1.heap.size a4 zs) := hf4
  have HF5 : Hid (Far w1.heap.size a5 ys) := hf5
  have HLT : Hid (w.heap.size + 1 < w1.heap.size) := by unfold Hid; omega
  clear hs4 hs5 hf4 hf5 ha4 hk0 hk1 hlt
  go_wp2
  refine bodyPost_ret (v := .tuple #[.agg #[.bool G, .slice a4 zs.length c4], .agg #[.bool G', .slice a5 ys.length c5]]) (by simp [results, Try.results13, go_sem, r0, r1, s0, s1]) rfl ?_
  exact ⟨G, a4, c4, zs, G', a5, c5, ys, rfl, hn4, hn5, hu4, hu5, ⟨HS4.out.fits, HS4.out.nil, row_two HS4.out.row HF4.out HLT.out⟩, ⟨HS5.out.fits, HS5.out.nil, row_two HS5.out.row HF5.out HLT.out⟩, (((HB.out.setCell (by simp) _).setCell (by simp) _).setCell (by simp) _).setCell (by simp) _⟩

end Go.Proofs.Ytfgpknglgbpebad

/-
  A drawn Big.
-/
namespace Go.Proofs.Ytfgpknglgbpebad
open Go.RowKit

def DrawTOut (w : World) (e : Ending) (w' : World) : Prop :=
  ∃ (G : Bool) (a : Option Addr) (c : Nat) (zs : List Int), e = .returned (.agg #[.bool G, .slice a zs.length c]) ∧ NewBig w 513 G a c zs w'

set_option maxRecDepth 100000 in
theorem drawText_any (a : Option Addr) (c : Nat) (bs : List Int) (w : World) (hn : bs.length ≤ 1048576) (hc : bs.length ≤ c) (hcm : c ≤ maxLen) (hnil : a = none → c = 0) (hr : RowAt .u8 w a bs) (hb : Dig 256 bs) :
    Calls Try.prog 14 #[.slice a bs.length c] w fun e w' => DrawTOut w e w' := by
  go_enter Try.func14, Try.ntmps14
  go_wp2_with fail
  refine (open_any a c bs _ hn hc hcm hnil (hr.later (bel0 _ _)) hb).mono ?_
  rintro e w1 ho
  have Y1 : Hid (Ry w w.heap.size (w.heap.size + 1) w1) := Ry.start ho
  obtain ⟨rfl, _, _, _⟩ := ho
  have e1 : (w.alloc (.cells #[.bool false, .slice none 0 0] 31)).heap.size = w.heap.size + 1 := by simp
  rw [e1]
  clear e1
  go_wp2_with fail
  refine (drawAny_any _ _ Y1.out.rd).mono ?_
  rintro e w4 ⟨G, a4, c4, zs, rfl, hn4, hu4, hown4, hr4, ha4⟩
  have Y4 : Hid (Ry w w.heap.size (w.heap.size + 1) w4) := Y1.out.aside ha4 hr4
  have r1 := Y4.out.r1
  have r2 := Y4.out.r2
  have r3 := Y4.out.r3
  have KEY : Hid (NewBig w 513 G a4 c4 zs ((w4.setCell ⟨w.heap.size, 0, none⟩ (.bool G)).setCell ⟨w.heap.size, 1, none⟩ (.slice a4 zs.length c4))) := Y1.out.out ha4 hown4 hu4 hn4
  clear hown4 hr4 ha4 hu4
  go_wp2
  refine bodyPost_ret (v := .agg #[.bool G, .slice a4 zs.length c4]) (by simp [results, Try.results14, go_sem, r1, r2]) rfl ?_
  exact ⟨G, a4, c4, zs, rfl, KEY.out⟩

end Go.Proofs.Ytfgpknglgbpebad
