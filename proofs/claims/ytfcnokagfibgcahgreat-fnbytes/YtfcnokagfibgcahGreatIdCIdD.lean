/-
  The program's reader: count, float, point.
-/
import Derived.Test.YtfcnokagfibgcahGreatSpD0ToImV
namespace Go.Proofs.YtfcnokagfibgcahGreat
open Go.RowKit

def orF {α : Type} (x y : Option α) : Option α := match x with
  | some x => some x
  | none => y
/-- What is wrong with a number that is to be at most limit. -/
def cntF (bs : List Int) (i size : Nat) (limit : Int) : Option (Int × Int) :=
  if bs.length < i + size then some (5, bs.length) else if limit < numB bs i size then some (2, i) else none
/-- What is wrong with a float. -/
def fltF (bs : List Int) (i : Nat) : Option (Int × Int) :=
  if bs.length < i + 4 then some (5, bs.length) else if fFin (numB bs i 4) = false then some (6, i) else none
/-- .. with a point. -/
def ptF (bs : List Int) (i : Nat) : Option (Int × Int) := orF (fltF bs i) (orF (fltF bs (i + 4)) (fltF bs (i + 8)))

theorem fltF_ok {bs : List Int} {i : Nat} (h : fltF bs i = none) : i + 4 ≤ bs.length ∧ fFin (numB bs i 4) = true := by
  unfold fltF at h
  by_cases h1 : bs.length < i + 4
  · rw [if_pos h1] at h; cases h
  · rw [if_neg h1] at h
    refine ⟨by omega, ?_⟩
    cases h2 : fFin (numB bs i 4)
    · rw [h2, if_pos rfl] at h; cases h
    · rfl
theorem cntF_ok {bs : List Int} {i size : Nat} {limit : Int} (h : cntF bs i size limit = none) : i + size ≤ bs.length ∧ numB bs i size ≤ limit := by
  unfold cntF at h
  by_cases h1 : bs.length < i + size
  · rw [if_pos h1] at h; cases h
  · rw [if_neg h1] at h
    refine ⟨by omega, ?_⟩
    by_cases h2 : limit < numB bs i size
    · rw [if_pos h2] at h; cases h
    · omega

/-- What a method of the reader does: it answers u, having read up to j; or it throws. -/
def ReadOut (w : World) (R b off c : Nat) (bs : List Int) (j : Nat) (u : Value) (e : Ending) (w' : World) : Prop := e = .returned u ∧ RdB w' R b off c bs j ∧ Aside R w w'
def ThrowOut (w : World) (R : Nat) (x : Int × Int) (e : Ending) (w' : World) : Prop := e = thrown x ∧ Aside R w w'

set_option maxHeartbeats 400000 in
theorem count_ok (R b off c : Nat) (bs : List Int) (i size : Nat) (limit : Nat) (w : World) (hu : U8 bs) (hs4 : size ≤ 4) (hx : cntF bs i size limit = none) (h : RdB w R b off c bs i) :
    Calls Tryz.prog 159 #[.pointer (some ⟨R, 0, none⟩), .int .i64 size, .int .i64 limit] w fun e w' => ReadOut w R b off c bs (i + size) (.int .i64 (numB bs i size)) e w' := by
  obtain ⟨hs, hl⟩ := cntF_ok hx
  have HH : Hid (RdB w R b off c bs i) := h
  have c1 := h.c1
  have hsm := h.sm
  have HR := numB_range hu i size hs4
  have h0 := numB_full hu hs4 hs
  have HU : Hid (U8 bs) := hu
  clear h hx hu
  have hgt : ¬ ((limit : Int) < numB bs i size) := by omega
  go_enter Tryz.func159, Tryz.ntmps159
  go_wp2_with fail
  refine (number_ok R b off c bs i size _ HU.out hs4 hs HH.out).mono ?_
  rintro e V ⟨rfl, hrd, has⟩
  have HD : Hid (RdB V R b off c bs (i + size) ∧ Aside R w V) := ⟨hrd, has⟩
  clear hrd has c1
  obtain ⟨N, hN⟩ : ∃ N, N = numB bs i size := ⟨_, rfl⟩
  rw [← hN] at HR h0 hgt hl ⊢
  have HN : Hid (N = numB bs i size) := hN
  clear hN
  go_wp2
  go_ret
  exact ⟨by rw [← HN.out]; rfl, HD.out.1, HD.out.2⟩

set_option maxHeartbeats 400000 in
theorem count_bad (R b off c : Nat) (bs : List Int) (i size : Nat) (limit : Nat) (x : Int × Int) (w : World) (hu : U8 bs) (hs4 : size ≤ 4) (hx : cntF bs i size limit = some x) (h : RdB w R b off c bs i) :
    Calls Tryz.prog 159 #[.pointer (some ⟨R, 0, none⟩), .int .i64 size, .int .i64 limit] w fun e w' => ThrowOut w R x e w' := by
  have HH : Hid (RdB w R b off c bs i) := h
  have c1 := h.c1
  have hsm := h.sm
  have HU : Hid (U8 bs) := hu
  unfold cntF at hx
  by_cases hs : bs.length < i + size
  · rw [if_pos hs] at hx
    cases hx
    clear h hu
    go_enter Tryz.func159, Tryz.ntmps159
    go_wp2_with fail
    refine (number_short R b off c bs i size _ hs HH.out).mono ?_
    rintro e V ⟨rfl, has⟩
    exact ⟨rfl, rfl, has⟩
  · rw [if_neg hs] at hx
    by_cases hl : (limit : Int) < numB bs i size
    · rw [if_pos hl] at hx
      cases hx
      have hs' : i + size ≤ bs.length := by omega
      have HR := numB_range hu i size hs4
      have h0 := numB_full hu hs4 hs'
      clear h hu
      go_enter Tryz.func159, Tryz.ntmps159
      go_wp2_with fail
      refine (number_ok R b off c bs i size _ HU.out hs4 hs' HH.out).mono ?_
      rintro e V ⟨rfl, hrd, has⟩
      have HD : Hid (Aside R w V) := has
      clear hrd has c1
      obtain ⟨N, hN⟩ : ∃ N, N = numB bs i size := ⟨_, rfl⟩
      rw [← hN] at HR h0 hl ⊢
      clear hN
      go_wp2
      exact ⟨rfl, rfl, HD.out⟩
    · rw [if_neg hl] at hx; cases hx

set_option maxHeartbeats 400000 in
theorem float_ok (R b off c : Nat) (bs : List Int) (i : Nat) (w : World) (hu : U8 bs) (hx : fltF bs i = none) (h : RdB w R b off c bs i) :
    Calls Tryz.prog 259 #[.pointer (some ⟨R, 0, none⟩)] w fun e w' => ReadOut w R b off c bs (i + 4) (.int .u32 (numB bs i 4)) e w' := by
  obtain ⟨hs, hf⟩ := fltF_ok hx
  have HH : Hid (RdB w R b off c bs i) := h
  have c1 := h.c1
  have HR := numB_range hu i 4 (by decide)
  have h0 := numB_full hu (by decide) hs
  have HU : Hid (U8 bs) := hu
  clear h hx hu
  go_enter Tryz.func259, Tryz.ntmps259
  go_wp2_with fail
  refine (number_ok R b off c bs i 4 _ HU.out (by decide) hs HH.out).mono ?_
  rintro e V ⟨rfl, hrd, has⟩
  have HD : Hid (RdB V R b off c bs (i + 4) ∧ Aside R w V) := ⟨hrd, has⟩
  clear hrd has c1
  obtain ⟨N, hN⟩ : ∃ N, N = numB bs i 4 := ⟨_, rfl⟩
  rw [← hN] at HR h0 hf ⊢
  have HN : Hid (N = numB bs i 4) := hN
  clear hN
  go_wp2_with fail
  refine (floatsFin_any (some ⟨V.heap.size, 0, none⟩) 1 [N] _ (by simp) (row_at _ [N] _ rfl) (by intro x hx; simp at hx; subst hx; omega)).mono ?_
  rintro e V2 ⟨rfl, hb2⟩
  have hb3 : Below V.heap.size V V2 := (bel0 _ _).trans (hb2.mono (by simp))
  have HD2 : Hid (RdB V2 R b off c bs (i + 4) ∧ Aside R w V2) := ⟨HD.out.1.later hb3, HD.out.2.trans (Aside.of hb3)⟩
  have hall : [N].all fFin = true := by simp [hf]
  rw [hall]
  clear hb2 hb3 HD hall
  go_wp2
  go_ret
  exact ⟨by rw [← HN.out]; rfl, HD2.out.1, HD2.out.2⟩

set_option maxHeartbeats 400000 in
theorem float_bad (R b off c : Nat) (bs : List Int) (i : Nat) (x : Int × Int) (w : World) (hu : U8 bs) (hx : fltF bs i = some x) (h : RdB w R b off c bs i) :
    Calls Tryz.prog 259 #[.pointer (some ⟨R, 0, none⟩)] w fun e w' => ThrowOut w R x e w' := by
  have HH : Hid (RdB w R b off c bs i) := h
  have c1 := h.c1
  have HU : Hid (U8 bs) := hu
  unfold fltF at hx
  by_cases hs : bs.length < i + 4
  · rw [if_pos hs] at hx
    cases hx
    clear h hu
    go_enter Tryz.func259, Tryz.ntmps259
    go_wp2_with fail
    refine (number_short R b off c bs i 4 _ hs HH.out).mono ?_
    rintro e V ⟨rfl, has⟩
    exact ⟨rfl, rfl, has⟩
  · rw [if_neg hs] at hx
    by_cases hf : fFin (numB bs i 4) = false
    · rw [if_pos hf] at hx
      cases hx
      have hs' : i + 4 ≤ bs.length := by omega
      have HR := numB_range hu i 4 (by decide)
      have h0 := numB_full hu (by decide) hs'
      clear h hu
      go_enter Tryz.func259, Tryz.ntmps259
      go_wp2_with fail
      refine (number_ok R b off c bs i 4 _ HU.out (by decide) hs' HH.out).mono ?_
      rintro e V ⟨rfl, hrd, has⟩
      have HD : Hid (Aside R w V) := has
      clear hrd has c1
      obtain ⟨N, hN⟩ : ∃ N, N = numB bs i 4 := ⟨_, rfl⟩
      rw [← hN] at HR h0 hf ⊢
      clear hN
      go_wp2_with fail
      refine (floatsFin_any (some ⟨V.heap.size, 0, none⟩) 1 [N] _ (by simp) (row_at _ [N] _ rfl) (by intro x hx; simp at hx; subst hx; omega)).mono ?_
      rintro e V2 ⟨rfl, hb2⟩
      have hb3 : Below V.heap.size V V2 := (bel0 _ _).trans (hb2.mono (by simp))
      have HD2 : Hid (Aside R w V2) := HD.out.trans (Aside.of hb3)
      have hall : [N].all fFin = false := by simp [hf]
      rw [hall]
      clear hb2 hb3 HD hall
      go_wp2
      exact ⟨rfl, rfl, HD2.out⟩
    · rw [if_neg hf] at hx; cases hx

theorem own_aside {k : IntKind} {w w' : World} {b off R : Nat} {ys : List Int} (h : Own k w b off ys) (ha : Aside R w w') (hR : b ≠ R) : Own k w' b off ys :=
  ⟨Nat.lt_of_lt_of_le h.lt ha.size, fun j hj => (ha.cell (p := ⟨b, off + j, none⟩) h.lt hR).trans (h.cell j hj), fun j hj => (ha.frozen (p := ⟨b, off + j, none⟩) h.lt hR).trans (h.free j hj)⟩
theorem own_other {k : IntKind} {w : World} {b off : Nat} {ys : List Int} (h : Own k w b off ys) {p : Addr} (hp : p.block ≠ b) (v : Value) : Own k (w.setCell p v) b off ys :=
  ⟨by simpa using h.lt, fun j hj => by rw [World.cell?_setCell_other _ _ _ _ (by intro e; exact hp (congrArg Addr.block e))]; exact h.cell j hj, fun j hj => by rw [World.frozen?_setCell]; exact h.free j hj⟩
theorem RdB.other {w : World} {R b off c i : Nat} {bs : List Int} (h : RdB w R b off c bs i) {k : Nat} (hp : k ≠ R) (hb : k ≠ b) (j : Nat) (v : Value) : RdB (w.setCell ⟨k, j, none⟩ v) R b off c bs i := by
  refine ⟨by rw [World.cell?_setCell_other _ _ _ _ (by intro e; exact hp (congrArg Addr.block e))]; exact h.c0, by rw [World.cell?_setCell_other _ _ _ _ (by intro e; exact hp (congrArg Addr.block e))]; exact h.c1, by rw [World.frozen?_setCell]; exact h.fr, by rw [World.size_setCell]; exact h.lt, ?_, h.ap, h.le, h.cap, h.sm⟩
  exact ((Aside.refl k w).set j v).row h.row (fun b' off' e _ => by cases e; exact fun e => hb e.symm)
theorem RdB.blt {w : World} {R b off c i : Nat} {bs : List Int} (h : RdB w R b off c bs i) (hne : bs ≠ []) : b < w.heap.size := by
  obtain ⟨b', off', e1, e2, _⟩ := h.row.resolve_left hne
  cases e1
  exact e2

/-- Memory while a struct of numbers is read: the box of the answer, the box that is being filled. -/
structure FillS (w0 : World) (R b off c : Nat) (bs : List Int) (i X n : Nat) (ys : List Int) (w : World) : Prop where
  rd : RdB w R b off c bs i
  o1 : Own .u32 w X 0 (List.replicate n 0)
  o2 : Own .u32 w (X + 1) 0 ys
  asd : Aside R w0 w
  hX : X = w0.heap.size
  hR : R < X
  hb : b < X
theorem FillS.call {w0 w w' : World} {R b off c i i' X n : Nat} {bs ys : List Int} (h : FillS w0 R b off c bs i X n ys w) (hr : RdB w' R b off c bs i') (ha : Aside R w w') : FillS w0 R b off c bs i' X n ys w' :=
  ⟨hr, own_aside h.o1 ha (by have := h.hR; omega), own_aside h.o2 ha (by have := h.hR; omega), h.asd.trans ha, h.hX, h.hR, h.hb⟩
theorem FillS.put {w0 w : World} {R b off c i X n : Nat} {bs ys : List Int} (h : FillS w0 R b off c bs i X n ys w) {j : Nat} (hj : j < ys.length) (v : Int) : FillS w0 R b off c bs i X n (ys.set j v) (w.setCell ⟨X + 1, j, none⟩ (.int .u32 v)) := by
  have hX := h.hX
  have hR := h.hR
  have hb := h.hb
  refine ⟨h.rd.other (by omega) (by omega) _ _, own_other h.o1 (by simp) _, ?_, h.asd.setHigh (by simp; omega) _, hX, hR, hb⟩
  have := h.o2.set j v hj
  rw [Nat.zero_add] at this
  exact this
/-- What is left when the answer is being written. -/
theorem FillS.done {w0 w : World} {R b off c i X n : Nat} {bs ys : List Int} (h : FillS w0 R b off c bs i X n ys w) : RdB w R b off c bs i ∧ Aside R w0 w ∧ w0.heap.size ≤ X ∧ R < X ∧ b < X := ⟨h.rd, h.asd, by have := h.hX; omega, h.hR, h.hb⟩
theorem done_set {w0 w : World} {R b off c i X : Nat} {bs : List Int} (h : RdB w R b off c bs i ∧ Aside R w0 w ∧ w0.heap.size ≤ X ∧ R < X ∧ b < X) (j : Nat) (v : Value) : RdB (w.setCell ⟨X, j, none⟩ v) R b off c bs i ∧ Aside R w0 (w.setCell ⟨X, j, none⟩ v) ∧ w0.heap.size ≤ X ∧ R < X ∧ b < X := by
  obtain ⟨h1, h2, h3, h4, h5⟩ := h
  exact ⟨h1.other (by omega) (by omega) _ _, h2.setHigh (by simpa using h3) _, h3, h4, h5⟩
theorem FillS.new {w : World} {R b off c i : Nat} {bs : List Int} (h : RdB w R b off c bs i) (hb : b < w.heap.size) (n : Nat) (t : TypeId) (cs : Array Value) (hc : cs = ((List.replicate n (0 : Int)).map (Value.int .u32 ·)).toArray) : FillS w R b off c bs i w.heap.size n (List.replicate n 0) ((w.alloc (.cells cs t)).alloc (.cells cs t)) := by
  subst hc
  have key : ∀ (v : World), Own .u32 (v.alloc (.cells ((List.replicate n (0 : Int)).map (Value.int .u32 ·)).toArray t)) v.heap.size 0 (List.replicate n 0) := by
    intro v
    refine ⟨by simp, fun j hj => ?_, fun j hj => by simp [go_sem]⟩
    simp at hj
    simp [List.getD_eq_getElem?_getD, hj]
  refine ⟨h.later (bel2 _ _ _), (key w).later (bel0 _ _), ?_, Aside.of (bel2 _ _ _), rfl, h.lt, hb⟩
  have := key (w.alloc (.cells ((List.replicate n (0 : Int)).map (Value.int .u32 ·)).toArray t))
  simpa using this

theorem orF_none {α : Type} {x y : Option α} (h : orF x y = none) : x = none ∧ y = none := by
  cases x with
  | none => exact ⟨rfl, h⟩
  | some x => cases h
theorem orF_some {α : Type} {x y : Option α} {z : α} (h : orF x y = some z) : x = some z ∨ (x = none ∧ y = some z) := by
  cases x with
  | none => exact .inr ⟨rfl, h⟩
  | some x => exact .inl h

set_option maxRecDepth 100000 in
set_option maxHeartbeats 1000000 in
theorem point_ok (R b off c : Nat) (bs : List Int) (i : Nat) (w : World) (hu : U8 bs) (hb : b < w.heap.size) (hx : ptF bs i = none) (h : RdB w R b off c bs i) :
    Calls Tryz.prog 165 #[.pointer (some ⟨R, 0, none⟩)] w fun e w' => ReadOut w R b off c bs (i + 12) (.agg #[.int .u32 (numB bs i 4), .int .u32 (numB bs (i + 4) 4), .int .u32 (numB bs (i + 8) 4)]) e w' := by
  obtain ⟨hx0, hx'⟩ := orF_none hx
  obtain ⟨hx1, hx2⟩ := orF_none hx'
  clear hx hx'
  have HU : Hid (U8 bs) := hu
  have F0 : Hid (FillS w R b off c bs i w.heap.size 3 [0, 0, 0] ((w.alloc (.cells #[.int .u32 0, .int .u32 0, .int .u32 0] 26)).alloc (.cells #[.int .u32 0, .int .u32 0, .int .u32 0] 26))) := FillS.new h hb 3 26 _ rfl
  clear h hu hb
  go_enter Tryz.func165, Tryz.ntmps165
  go_wp2_with fail
  refine (float_ok R b off c bs (i) _ HU.out hx0 F0.out.rd).mono ?_
  rintro e w1 ⟨rfl, hrd, has⟩
  have G := F0.out.call hrd has
  have F1 : Hid (FillS w R b off c bs (i + 4) w.heap.size 3 [(numB bs i 4), 0, 0] (w1.setCell ⟨w.heap.size + 1, 0, none⟩ (.int .u32 (numB bs i 4)))) := G.put (j := 0) (by simp) _
  have q : w1.cell? ⟨w.heap.size + 1, 0, none⟩ = some (.int .u32 0) := G.o2.cell 0 (by simp)
  have q' : w1.frozen? ⟨w.heap.size + 1, 0, none⟩ = false := G.o2.free 0 (by simp)
  clear hrd has G
  go_wp2_with fail
  clear q q'
  refine (float_ok R b off c bs (i + 4) _ HU.out hx1 F1.out.rd).mono ?_
  rintro e w2 ⟨rfl, hrd, has⟩
  have G := F1.out.call hrd has
  have F2 : Hid (FillS w R b off c bs (i + 8) w.heap.size 3 [(numB bs i 4), (numB bs (i + 4) 4), 0] (w2.setCell ⟨w.heap.size + 1, 1, none⟩ (.int .u32 (numB bs (i + 4) 4)))) := G.put (j := 1) (by simp) _
  have q : w2.cell? ⟨w.heap.size + 1, 1, none⟩ = some (.int .u32 0) := G.o2.cell 1 (by simp)
  have q' : w2.frozen? ⟨w.heap.size + 1, 1, none⟩ = false := G.o2.free 1 (by simp)
  clear hrd has G
  go_wp2_with fail
  clear q q'
  refine (float_ok R b off c bs (i + 8) _ HU.out hx2 F2.out.rd).mono ?_
  rintro e w3 ⟨rfl, hrd, has⟩
  have G := F2.out.call hrd has
  have F3 : Hid (FillS w R b off c bs (i + 12) w.heap.size 3 [(numB bs i 4), (numB bs (i + 4) 4), (numB bs (i + 8) 4)] (w3.setCell ⟨w.heap.size + 1, 2, none⟩ (.int .u32 (numB bs (i + 8) 4)))) := G.put (j := 2) (by simp) _
  have q : w3.cell? ⟨w.heap.size + 1, 2, none⟩ = some (.int .u32 0) := G.o2.cell 2 (by simp)
  have q' : w3.frozen? ⟨w.heap.size + 1, 2, none⟩ = false := G.o2.free 2 (by simp)
  clear hrd has
  have o0 : w3.cell? ⟨w.heap.size + 1, 0, none⟩ = some (.int .u32 (numB bs i 4)) := G.o2.cell 0 (by simp)
  have o1 : w3.cell? ⟨w.heap.size + 1, 1, none⟩ = some (.int .u32 (numB bs (i + 4) 4)) := G.o2.cell 1 (by simp)
  have r0 : w3.cell? ⟨w.heap.size, 0, none⟩ = some (.int .u32 0) := G.o1.cell 0 (by simp)
  have r1 : w3.cell? ⟨w.heap.size, 1, none⟩ = some (.int .u32 0) := G.o1.cell 1 (by simp)
  have r2 : w3.cell? ⟨w.heap.size, 2, none⟩ = some (.int .u32 0) := G.o1.cell 2 (by simp)
  have s0 : w3.frozen? ⟨w.heap.size, 0, none⟩ = false := G.o1.free 0 (by simp)
  have s1 : w3.frozen? ⟨w.heap.size, 1, none⟩ = false := G.o1.free 1 (by simp)
  have s2 : w3.frozen? ⟨w.heap.size, 2, none⟩ = false := G.o1.free 2 (by simp)
  clear G F1 F2
  go_wp2
  refine bodyPost_ret (v := .agg #[.int .u32 (numB bs i 4), .int .u32 (numB bs (i + 4) 4), .int .u32 (numB bs (i + 8) 4)]) (by simp [results, Tryz.results165, go_sem, r0, r1, r2]) rfl ?_
  have hd := done_set (done_set (done_set F3.out.done 0 (.int .u32 (numB bs i 4))) 1 (.int .u32 (numB bs (i + 4) 4))) 2 (.int .u32 (numB bs (i + 8) 4))
  exact ⟨rfl, hd.1, hd.2.1⟩

set_option maxRecDepth 100000 in
set_option maxHeartbeats 1000000 in
theorem point_bad (R b off c : Nat) (bs : List Int) (i : Nat) (x : Int × Int) (w : World) (hu : U8 bs) (hb : b < w.heap.size) (hx : ptF bs i = some x) (h : RdB w R b off c bs i) :
    Calls Tryz.prog 165 #[.pointer (some ⟨R, 0, none⟩)] w fun e w' => ThrowOut w R x e w' := by
  rcases orF_some hx with hx0 | ⟨hx0, hx'⟩
  · clear hx
    have HU : Hid (U8 bs) := hu
    have F0 : Hid (FillS w R b off c bs i w.heap.size 3 [0, 0, 0] ((w.alloc (.cells #[.int .u32 0, .int .u32 0, .int .u32 0] 26)).alloc (.cells #[.int .u32 0, .int .u32 0, .int .u32 0] 26))) := FillS.new h hb 3 26 _ rfl
    clear h hu hb
    go_enter Tryz.func165, Tryz.ntmps165
    go_wp2_with fail
    refine (float_bad R b off c bs i x _ HU.out hx0 F0.out.rd).mono ?_
    rintro e w1 ⟨rfl, has⟩
    exact ⟨rfl, rfl, F0.out.asd.trans has⟩
  · clear hx
    rcases orF_some hx' with hx1 | ⟨hx1, hx2⟩
    · clear hx'
      have HU : Hid (U8 bs) := hu
      have F0 : Hid (FillS w R b off c bs i w.heap.size 3 [0, 0, 0] ((w.alloc (.cells #[.int .u32 0, .int .u32 0, .int .u32 0] 26)).alloc (.cells #[.int .u32 0, .int .u32 0, .int .u32 0] 26))) := FillS.new h hb 3 26 _ rfl
      clear h hu hb
      go_enter Tryz.func165, Tryz.ntmps165
      go_wp2_with fail
      refine (float_ok R b off c bs (i) _ HU.out hx0 F0.out.rd).mono ?_
      rintro e w1 ⟨rfl, hrd, has⟩
      have G := F0.out.call hrd has
      have F1 : Hid (FillS w R b off c bs (i + 4) w.heap.size 3 [(numB bs i 4), 0, 0] (w1.setCell ⟨w.heap.size + 1, 0, none⟩ (.int .u32 (numB bs i 4)))) := G.put (j := 0) (by simp) _
      have q : w1.cell? ⟨w.heap.size + 1, 0, none⟩ = some (.int .u32 0) := G.o2.cell 0 (by simp)
      have q' : w1.frozen? ⟨w.heap.size + 1, 0, none⟩ = false := G.o2.free 0 (by simp)
      clear hrd has G
      go_wp2_with fail
      clear q q'
      refine (float_bad R b off c bs (i + 4) x _ HU.out hx1 F1.out.rd).mono ?_
      rintro e w2 ⟨rfl, has⟩
      exact ⟨rfl, rfl, F1.out.asd.trans has⟩
    · clear hx'
      have HU : Hid (U8 bs) := hu
      have F0 : Hid (FillS w R b off c bs i w.heap.size 3 [0, 0, 0] ((w.alloc (.cells #[.int .u32 0, .int .u32 0, .int .u32 0] 26)).alloc (.cells #[.int .u32 0, .int .u32 0, .int .u32 0] 26))) := FillS.new h hb 3 26 _ rfl
      clear h hu hb
      go_enter Tryz.func165, Tryz.ntmps165
      go_wp2_with fail
      refine (float_ok R b off c bs (i) _ HU.out hx0 F0.out.rd).mono ?_
      rintro e w1 ⟨rfl, hrd, has⟩
      have G := F0.out.call hrd has
      have F1 : Hid (FillS w R b off c bs (i + 4) w.heap.size 3 [(numB bs i 4), 0, 0] (w1.setCell ⟨w.heap.size + 1, 0, none⟩ (.int .u32 (numB bs i 4)))) := G.put (j := 0) (by simp) _
      have q : w1.cell? ⟨w.heap.size + 1, 0, none⟩ = some (.int .u32 0) := G.o2.cell 0 (by simp)
      have q' : w1.frozen? ⟨w.heap.size + 1, 0, none⟩ = false := G.o2.free 0 (by simp)
      clear hrd has G
      go_wp2_with fail
      clear q q'
      refine (float_ok R b off c bs (i + 4) _ HU.out hx1 F1.out.rd).mono ?_
      rintro e w2 ⟨rfl, hrd, has⟩
      have G := F1.out.call hrd has
      have F2 : Hid (FillS w R b off c bs (i + 8) w.heap.size 3 [(numB bs i 4), (numB bs (i + 4) 4), 0] (w2.setCell ⟨w.heap.size + 1, 1, none⟩ (.int .u32 (numB bs (i + 4) 4)))) := G.put (j := 1) (by simp) _
      have q : w2.cell? ⟨w.heap.size + 1, 1, none⟩ = some (.int .u32 0) := G.o2.cell 1 (by simp)
      have q' : w2.frozen? ⟨w.heap.size + 1, 1, none⟩ = false := G.o2.free 1 (by simp)
      clear hrd has G
      go_wp2_with fail
      clear q q'
      refine (float_bad R b off c bs (i + 8) x _ HU.out hx2 F2.out.rd).mono ?_
      rintro e w3 ⟨rfl, has⟩
      exact ⟨rfl, rfl, F2.out.asd.trans has⟩

end Go.Proofs.YtfcnokagfibgcahGreat

/-
  The program's reader: tri, ray, mark.
-/
namespace Go.Proofs.YtfcnokagfibgcahGreat
open Go.RowKit

/-- What is wrong with a triangle. -/
def triF (bs : List Int) (i : Nat) : Option (Int × Int) := orF (ptF bs i) (orF (ptF bs (i + 12)) (ptF bs (i + 24)))
/-- .. with a ray. -/
def rayF (bs : List Int) (i : Nat) : Option (Int × Int) := orF (ptF bs i) (orF (ptF bs (i + 12)) (if noWayB (numB bs (i + 12) 4) (numB bs (i + 12 + 4) 4) (numB bs (i + 12 + 8) 4) = true then some (7, ((i + 12 : Nat) : Int)) else none))

theorem FillS.later {w0 w w' : World} {R b off c i X n : Nat} {bs ys : List Int} (h : FillS w0 R b off c bs i X n ys w) (hb : Below w.heap.size w w') : FillS w0 R b off c bs i X n ys w' :=
  h.call (h.rd.later hb) (Aside.of hb)
theorem FillS.blt {w0 w : World} {R b off c i X n : Nat} {bs ys : List Int} (h : FillS w0 R b off c bs i X n ys w) : b < w.heap.size := by
  have h1 := h.hb
  have h2 := h.o1.lt
  omega

theorem fin_bounds {bs : List Int} (hu : U8 bs) {i : Nat} (h : ptF bs i = none) : (0 ≤ numB bs i 4 ∧ numB bs i 4 < 4294967296) ∧ (0 ≤ numB bs (i + 4) 4 ∧ numB bs (i + 4) 4 < 4294967296) ∧ (0 ≤ numB bs (i + 8) 4 ∧ numB bs (i + 8) 4 < 4294967296) ∧ pointB (numB bs i 4) (numB bs (i + 4) 4) (numB bs (i + 8) 4) = true := by
  obtain ⟨h0, h'⟩ := orF_none h
  obtain ⟨h1, h2⟩ := orF_none h'
  have k0 := fltF_ok h0
  have k1 := fltF_ok h1
  have k2 := fltF_ok h2
  refine ⟨⟨numB_full hu (by decide) k0.1, (numB_range hu _ 4 (by decide)).2⟩, ⟨numB_full hu (by decide) k1.1, (numB_range hu _ 4 (by decide)).2⟩, ⟨numB_full hu (by decide) k2.1, (numB_range hu _ 4 (by decide)).2⟩, ?_⟩
  unfold pointB
  rw [k0.2, k1.2, k2.2]
  rfl

set_option maxRecDepth 100000 in
set_option maxHeartbeats 2000000 in
theorem tri_ok (R b off c : Nat) (bs : List Int) (i : Nat) (w : World) (hu : U8 bs) (hb : b < w.heap.size) (hx : triF bs i = none) (h : RdB w R b off c bs i) :
    Calls Tryz.prog 161 #[.pointer (some ⟨R, 0, none⟩)] w fun e w' => ReadOut w R b off c bs (i + 36) (.agg #[.int .u32 (numB bs i 4), .int .u32 (numB bs (i + 4) 4), .int .u32 (numB bs (i + 8) 4), .int .u32 (numB bs (i + 12) 4), .int .u32 (numB bs (i + 12 + 4) 4), .int .u32 (numB bs (i + 12 + 8) 4), .int .u32 (numB bs (i + 24) 4), .int .u32 (numB bs (i + 24 + 4) 4), .int .u32 (numB bs (i + 24 + 8) 4)]) e w' := by
  obtain ⟨hx0, hx'⟩ := orF_none hx
  obtain ⟨hx1, hx2⟩ := orF_none hx'
  clear hx hx'
  have HU : Hid (U8 bs) := hu
  have F0 : Hid (FillS w R b off c bs i w.heap.size 9 [0, 0, 0, 0, 0, 0, 0, 0, 0] ((w.alloc (.cells #[.int .u32 0, .int .u32 0, .int .u32 0, .int .u32 0, .int .u32 0, .int .u32 0, .int .u32 0, .int .u32 0, .int .u32 0] 41)).alloc (.cells #[.int .u32 0, .int .u32 0, .int .u32 0, .int .u32 0, .int .u32 0, .int .u32 0, .int .u32 0, .int .u32 0, .int .u32 0] 41))) := FillS.new h hb 9 41 _ rfl
  clear h hu hb
  go_enter Tryz.func161, Tryz.ntmps161
  go_wp2_with fail
  refine (point_ok R b off c bs (i) _ HU.out F0.out.blt hx0 F0.out.rd).mono ?_
  rintro e w1 ⟨rfl, hrd, has⟩
  have G := F0.out.call hrd has
  have F1 : Hid (FillS w R b off c bs (i + 12) w.heap.size 9 [(numB bs i 4), (numB bs (i + 4) 4), (numB bs (i + 8) 4), 0, 0, 0, 0, 0, 0] (((w1.setCell ⟨w.heap.size + 1, 0, none⟩ (.int .u32 (numB bs i 4))).setCell ⟨w.heap.size + 1, 1, none⟩ (.int .u32 (numB bs (i + 4) 4))).setCell ⟨w.heap.size + 1, 2, none⟩ (.int .u32 (numB bs (i + 8) 4)))) := ((G.put (j := 0) (by simp) _).put (j := 1) (by simp) _).put (j := 2) (by simp) _
  have q0 : w1.cell? ⟨w.heap.size + 1, 0, none⟩ = some (.int .u32 0) := G.o2.cell 0 (by simp)
  have q0' : w1.frozen? ⟨w.heap.size + 1, 0, none⟩ = false := G.o2.free 0 (by simp)
  have q1 : w1.cell? ⟨w.heap.size + 1, 1, none⟩ = some (.int .u32 0) := G.o2.cell 1 (by simp)
  have q1' : w1.frozen? ⟨w.heap.size + 1, 1, none⟩ = false := G.o2.free 1 (by simp)
  have q2 : w1.cell? ⟨w.heap.size + 1, 2, none⟩ = some (.int .u32 0) := G.o2.cell 2 (by simp)
  have q2' : w1.frozen? ⟨w.heap.size + 1, 2, none⟩ = false := G.o2.free 2 (by simp)
  clear hrd has G
  go_wp2_with fail
  clear q0 q1 q2 q0' q1' q2'
  refine (point_ok R b off c bs (i + 12) _ HU.out F1.out.blt hx1 F1.out.rd).mono ?_
  rintro e w2 ⟨rfl, hrd, has⟩
  have G := F1.out.call hrd has
  have F2 : Hid (FillS w R b off c bs (i + 24) w.heap.size 9 [(numB bs i 4), (numB bs (i + 4) 4), (numB bs (i + 8) 4), (numB bs (i + 12) 4), (numB bs (i + 12 + 4) 4), (numB bs (i + 12 + 8) 4), 0, 0, 0] (((w2.setCell ⟨w.heap.size + 1, 3, none⟩ (.int .u32 (numB bs (i + 12) 4))).setCell ⟨w.heap.size + 1, 4, none⟩ (.int .u32 (numB bs (i + 12 + 4) 4))).setCell ⟨w.heap.size + 1, 5, none⟩ (.int .u32 (numB bs (i + 12 + 8) 4)))) := ((G.put (j := 3) (by simp) _).put (j := 4) (by simp) _).put (j := 5) (by simp) _
  have q0 : w2.cell? ⟨w.heap.size + 1, 3, none⟩ = some (.int .u32 0) := G.o2.cell 3 (by simp)
  have q0' : w2.frozen? ⟨w.heap.size + 1, 3, none⟩ = false := G.o2.free 3 (by simp)
  have q1 : w2.cell? ⟨w.heap.size + 1, 4, none⟩ = some (.int .u32 0) := G.o2.cell 4 (by simp)
  have q1' : w2.frozen? ⟨w.heap.size + 1, 4, none⟩ = false := G.o2.free 4 (by simp)
  have q2 : w2.cell? ⟨w.heap.size + 1, 5, none⟩ = some (.int .u32 0) := G.o2.cell 5 (by simp)
  have q2' : w2.frozen? ⟨w.heap.size + 1, 5, none⟩ = false := G.o2.free 5 (by simp)
  clear hrd has G
  go_wp2_with fail
  clear q0 q1 q2 q0' q1' q2'
  refine (point_ok R b off c bs (i + 24) _ HU.out F2.out.blt hx2 F2.out.rd).mono ?_
  rintro e w3 ⟨rfl, hrd, has⟩
  have G := F2.out.call hrd has
  have F3 : Hid (FillS w R b off c bs (i + 36) w.heap.size 9 [(numB bs i 4), (numB bs (i + 4) 4), (numB bs (i + 8) 4), (numB bs (i + 12) 4), (numB bs (i + 12 + 4) 4), (numB bs (i + 12 + 8) 4), (numB bs (i + 24) 4), (numB bs (i + 24 + 4) 4), (numB bs (i + 24 + 8) 4)] (((w3.setCell ⟨w.heap.size + 1, 6, none⟩ (.int .u32 (numB bs (i + 24) 4))).setCell ⟨w.heap.size + 1, 7, none⟩ (.int .u32 (numB bs (i + 24 + 4) 4))).setCell ⟨w.heap.size + 1, 8, none⟩ (.int .u32 (numB bs (i + 24 + 8) 4)))) := ((G.put (j := 6) (by simp) _).put (j := 7) (by simp) _).put (j := 8) (by simp) _
  have q0 : w3.cell? ⟨w.heap.size + 1, 6, none⟩ = some (.int .u32 0) := G.o2.cell 6 (by simp)
  have q0' : w3.frozen? ⟨w.heap.size + 1, 6, none⟩ = false := G.o2.free 6 (by simp)
  have q1 : w3.cell? ⟨w.heap.size + 1, 7, none⟩ = some (.int .u32 0) := G.o2.cell 7 (by simp)
  have q1' : w3.frozen? ⟨w.heap.size + 1, 7, none⟩ = false := G.o2.free 7 (by simp)
  have q2 : w3.cell? ⟨w.heap.size + 1, 8, none⟩ = some (.int .u32 0) := G.o2.cell 8 (by simp)
  have q2' : w3.frozen? ⟨w.heap.size + 1, 8, none⟩ = false := G.o2.free 8 (by simp)
  clear hrd has
  have o0 : w3.cell? ⟨w.heap.size + 1, 0, none⟩ = some (.int .u32 (numB bs i 4)) := G.o2.cell 0 (by simp)
  have o1 : w3.cell? ⟨w.heap.size + 1, 1, none⟩ = some (.int .u32 (numB bs (i + 4) 4)) := G.o2.cell 1 (by simp)
  have o2 : w3.cell? ⟨w.heap.size + 1, 2, none⟩ = some (.int .u32 (numB bs (i + 8) 4)) := G.o2.cell 2 (by simp)
  have o3 : w3.cell? ⟨w.heap.size + 1, 3, none⟩ = some (.int .u32 (numB bs (i + 12) 4)) := G.o2.cell 3 (by simp)
  have o4 : w3.cell? ⟨w.heap.size + 1, 4, none⟩ = some (.int .u32 (numB bs (i + 12 + 4) 4)) := G.o2.cell 4 (by simp)
  have o5 : w3.cell? ⟨w.heap.size + 1, 5, none⟩ = some (.int .u32 (numB bs (i + 12 + 8) 4)) := G.o2.cell 5 (by simp)
  have r0 : w3.cell? ⟨w.heap.size, 0, none⟩ = some (.int .u32 0) := G.o1.cell 0 (by simp)
  have s0 : w3.frozen? ⟨w.heap.size, 0, none⟩ = false := G.o1.free 0 (by simp)
  have r1 : w3.cell? ⟨w.heap.size, 1, none⟩ = some (.int .u32 0) := G.o1.cell 1 (by simp)
  have s1 : w3.frozen? ⟨w.heap.size, 1, none⟩ = false := G.o1.free 1 (by simp)
  have r2 : w3.cell? ⟨w.heap.size, 2, none⟩ = some (.int .u32 0) := G.o1.cell 2 (by simp)
  have s2 : w3.frozen? ⟨w.heap.size, 2, none⟩ = false := G.o1.free 2 (by simp)
  have r3 : w3.cell? ⟨w.heap.size, 3, none⟩ = some (.int .u32 0) := G.o1.cell 3 (by simp)
  have s3 : w3.frozen? ⟨w.heap.size, 3, none⟩ = false := G.o1.free 3 (by simp)
  have r4 : w3.cell? ⟨w.heap.size, 4, none⟩ = some (.int .u32 0) := G.o1.cell 4 (by simp)
  have s4 : w3.frozen? ⟨w.heap.size, 4, none⟩ = false := G.o1.free 4 (by simp)
  have r5 : w3.cell? ⟨w.heap.size, 5, none⟩ = some (.int .u32 0) := G.o1.cell 5 (by simp)
  have s5 : w3.frozen? ⟨w.heap.size, 5, none⟩ = false := G.o1.free 5 (by simp)
  have r6 : w3.cell? ⟨w.heap.size, 6, none⟩ = some (.int .u32 0) := G.o1.cell 6 (by simp)
  have s6 : w3.frozen? ⟨w.heap.size, 6, none⟩ = false := G.o1.free 6 (by simp)
  have r7 : w3.cell? ⟨w.heap.size, 7, none⟩ = some (.int .u32 0) := G.o1.cell 7 (by simp)
  have s7 : w3.frozen? ⟨w.heap.size, 7, none⟩ = false := G.o1.free 7 (by simp)
  have r8 : w3.cell? ⟨w.heap.size, 8, none⟩ = some (.int .u32 0) := G.o1.cell 8 (by simp)
  have s8 : w3.frozen? ⟨w.heap.size, 8, none⟩ = false := G.o1.free 8 (by simp)
  clear G F0 F1 F2
  go_wp2
  refine bodyPost_ret (v := .agg #[.int .u32 (numB bs i 4), .int .u32 (numB bs (i + 4) 4), .int .u32 (numB bs (i + 8) 4), .int .u32 (numB bs (i + 12) 4), .int .u32 (numB bs (i + 12 + 4) 4), .int .u32 (numB bs (i + 12 + 8) 4), .int .u32 (numB bs (i + 24) 4), .int .u32 (numB bs (i + 24 + 4) 4), .int .u32 (numB bs (i + 24 + 8) 4)]) (by simp [results, Tryz.results161, go_sem, r0, r1, r2, r3, r4, r5, r6, r7, r8]) rfl ?_
  have hd := (done_set (done_set (done_set (done_set (done_set (done_set (done_set (done_set (done_set F3.out.done 0 (.int .u32 (numB bs i 4))) 1 (.int .u32 (numB bs (i + 4) 4))) 2 (.int .u32 (numB bs (i + 8) 4))) 3 (.int .u32 (numB bs (i + 12) 4))) 4 (.int .u32 (numB bs (i + 12 + 4) 4))) 5 (.int .u32 (numB bs (i + 12 + 8) 4))) 6 (.int .u32 (numB bs (i + 24) 4))) 7 (.int .u32 (numB bs (i + 24 + 4) 4))) 8 (.int .u32 (numB bs (i + 24 + 8) 4)))
  exact ⟨rfl, hd.1, hd.2.1⟩

set_option maxRecDepth 100000 in
set_option maxHeartbeats 2000000 in
theorem tri_bad (R b off c : Nat) (bs : List Int) (i : Nat) (x : Int × Int) (w : World) (hu : U8 bs) (hb : b < w.heap.size) (hx : triF bs i = some x) (h : RdB w R b off c bs i) :
    Calls Tryz.prog 161 #[.pointer (some ⟨R, 0, none⟩)] w fun e w' => ThrowOut w R x e w' := by
  rcases orF_some hx with hx0 | ⟨hx0, hx'⟩
  · clear hx
    have HU : Hid (U8 bs) := hu
    have F0 : Hid (FillS w R b off c bs i w.heap.size 9 [0, 0, 0, 0, 0, 0, 0, 0, 0] ((w.alloc (.cells #[.int .u32 0, .int .u32 0, .int .u32 0, .int .u32 0, .int .u32 0, .int .u32 0, .int .u32 0, .int .u32 0, .int .u32 0] 41)).alloc (.cells #[.int .u32 0, .int .u32 0, .int .u32 0, .int .u32 0, .int .u32 0, .int .u32 0, .int .u32 0, .int .u32 0, .int .u32 0] 41))) := FillS.new h hb 9 41 _ rfl
    clear h hu hb
    go_enter Tryz.func161, Tryz.ntmps161
    go_wp2_with fail
    refine (point_bad R b off c bs (i) x _ HU.out F0.out.blt hx0 F0.out.rd).mono ?_
    rintro e w9 ⟨rfl, has⟩
    exact ⟨rfl, rfl, F0.out.asd.trans has⟩
  · clear hx
    rcases orF_some hx' with hx1 | ⟨hx1, hx2⟩
    · clear hx'
      have HU : Hid (U8 bs) := hu
      have F0 : Hid (FillS w R b off c bs i w.heap.size 9 [0, 0, 0, 0, 0, 0, 0, 0, 0] ((w.alloc (.cells #[.int .u32 0, .int .u32 0, .int .u32 0, .int .u32 0, .int .u32 0, .int .u32 0, .int .u32 0, .int .u32 0, .int .u32 0] 41)).alloc (.cells #[.int .u32 0, .int .u32 0, .int .u32 0, .int .u32 0, .int .u32 0, .int .u32 0, .int .u32 0, .int .u32 0, .int .u32 0] 41))) := FillS.new h hb 9 41 _ rfl
      clear h hu hb
      go_enter Tryz.func161, Tryz.ntmps161
      go_wp2_with fail
      refine (point_ok R b off c bs (i) _ HU.out F0.out.blt hx0 F0.out.rd).mono ?_
      rintro e w1 ⟨rfl, hrd, has⟩
      have G := F0.out.call hrd has
      have F1 : Hid (FillS w R b off c bs (i + 12) w.heap.size 9 [(numB bs i 4), (numB bs (i + 4) 4), (numB bs (i + 8) 4), 0, 0, 0, 0, 0, 0] (((w1.setCell ⟨w.heap.size + 1, 0, none⟩ (.int .u32 (numB bs i 4))).setCell ⟨w.heap.size + 1, 1, none⟩ (.int .u32 (numB bs (i + 4) 4))).setCell ⟨w.heap.size + 1, 2, none⟩ (.int .u32 (numB bs (i + 8) 4)))) := ((G.put (j := 0) (by simp) _).put (j := 1) (by simp) _).put (j := 2) (by simp) _
      have q0 : w1.cell? ⟨w.heap.size + 1, 0, none⟩ = some (.int .u32 0) := G.o2.cell 0 (by simp)
      have q0' : w1.frozen? ⟨w.heap.size + 1, 0, none⟩ = false := G.o2.free 0 (by simp)
      have q1 : w1.cell? ⟨w.heap.size + 1, 1, none⟩ = some (.int .u32 0) := G.o2.cell 1 (by simp)
      have q1' : w1.frozen? ⟨w.heap.size + 1, 1, none⟩ = false := G.o2.free 1 (by simp)
      have q2 : w1.cell? ⟨w.heap.size + 1, 2, none⟩ = some (.int .u32 0) := G.o2.cell 2 (by simp)
      have q2' : w1.frozen? ⟨w.heap.size + 1, 2, none⟩ = false := G.o2.free 2 (by simp)
      clear hrd has G
      go_wp2_with fail
      clear q0 q1 q2 q0' q1' q2'
      refine (point_bad R b off c bs (i + 12) x _ HU.out F1.out.blt hx1 F1.out.rd).mono ?_
      rintro e w9 ⟨rfl, has⟩
      exact ⟨rfl, rfl, F1.out.asd.trans has⟩
    · clear hx'
      have HU : Hid (U8 bs) := hu
      have F0 : Hid (FillS w R b off c bs i w.heap.size 9 [0, 0, 0, 0, 0, 0, 0, 0, 0] ((w.alloc (.cells #[.int .u32 0, .int .u32 0, .int .u32 0, .int .u32 0, .int .u32 0, .int .u32 0, .int .u32 0, .int .u32 0, .int .u32 0] 41)).alloc (.cells #[.int .u32 0, .int .u32 0, .int .u32 0, .int .u32 0, .int .u32 0, .int .u32 0, .int .u32 0, .int .u32 0, .int .u32 0] 41))) := FillS.new h hb 9 41 _ rfl
      clear h hu hb
      go_enter Tryz.func161, Tryz.ntmps161
      go_wp2_with fail
      refine (point_ok R b off c bs (i) _ HU.out F0.out.blt hx0 F0.out.rd).mono ?_
      rintro e w1 ⟨rfl, hrd, has⟩
      have G := F0.out.call hrd has
      have F1 : Hid (FillS w R b off c bs (i + 12) w.heap.size 9 [(numB bs i 4), (numB bs (i + 4) 4), (numB bs (i + 8) 4), 0, 0, 0, 0, 0, 0] (((w1.setCell ⟨w.heap.size + 1, 0, none⟩ (.int .u32 (numB bs i 4))).setCell ⟨w.heap.size + 1, 1, none⟩ (.int .u32 (numB bs (i + 4) 4))).setCell ⟨w.heap.size + 1, 2, none⟩ (.int .u32 (numB bs (i + 8) 4)))) := ((G.put (j := 0) (by simp) _).put (j := 1) (by simp) _).put (j := 2) (by simp) _
      have q0 : w1.cell? ⟨w.heap.size + 1, 0, none⟩ = some (.int .u32 0) := G.o2.cell 0 (by simp)
      have q0' : w1.frozen? ⟨w.heap.size + 1, 0, none⟩ = false := G.o2.free 0 (by simp)
      have q1 : w1.cell? ⟨w.heap.size + 1, 1, none⟩ = some (.int .u32 0) := G.o2.cell 1 (by simp)
      have q1' : w1.frozen? ⟨w.heap.size + 1, 1, none⟩ = false := G.o2.free 1 (by simp)
      have q2 : w1.cell? ⟨w.heap.size + 1, 2, none⟩ = some (.int .u32 0) := G.o2.cell 2 (by simp)
      have q2' : w1.frozen? ⟨w.heap.size + 1, 2, none⟩ = false := G.o2.free 2 (by simp)
      clear hrd has G
      go_wp2_with fail
      clear q0 q1 q2 q0' q1' q2'
      refine (point_ok R b off c bs (i + 12) _ HU.out F1.out.blt hx1 F1.out.rd).mono ?_
      rintro e w2 ⟨rfl, hrd, has⟩
      have G := F1.out.call hrd has
      have F2 : Hid (FillS w R b off c bs (i + 24) w.heap.size 9 [(numB bs i 4), (numB bs (i + 4) 4), (numB bs (i + 8) 4), (numB bs (i + 12) 4), (numB bs (i + 12 + 4) 4), (numB bs (i + 12 + 8) 4), 0, 0, 0] (((w2.setCell ⟨w.heap.size + 1, 3, none⟩ (.int .u32 (numB bs (i + 12) 4))).setCell ⟨w.heap.size + 1, 4, none⟩ (.int .u32 (numB bs (i + 12 + 4) 4))).setCell ⟨w.heap.size + 1, 5, none⟩ (.int .u32 (numB bs (i + 12 + 8) 4)))) := ((G.put (j := 3) (by simp) _).put (j := 4) (by simp) _).put (j := 5) (by simp) _
      have q0 : w2.cell? ⟨w.heap.size + 1, 3, none⟩ = some (.int .u32 0) := G.o2.cell 3 (by simp)
      have q0' : w2.frozen? ⟨w.heap.size + 1, 3, none⟩ = false := G.o2.free 3 (by simp)
      have q1 : w2.cell? ⟨w.heap.size + 1, 4, none⟩ = some (.int .u32 0) := G.o2.cell 4 (by simp)
      have q1' : w2.frozen? ⟨w.heap.size + 1, 4, none⟩ = false := G.o2.free 4 (by simp)
      have q2 : w2.cell? ⟨w.heap.size + 1, 5, none⟩ = some (.int .u32 0) := G.o2.cell 5 (by simp)
      have q2' : w2.frozen? ⟨w.heap.size + 1, 5, none⟩ = false := G.o2.free 5 (by simp)
      clear hrd has G
      go_wp2_with fail
      clear q0 q1 q2 q0' q1' q2'
      refine (point_bad R b off c bs (i + 24) x _ HU.out F2.out.blt hx2 F2.out.rd).mono ?_
      rintro e w9 ⟨rfl, has⟩
      exact ⟨rfl, rfl, F2.out.asd.trans has⟩

set_option maxRecDepth 100000 in
set_option maxHeartbeats 2000000 in
theorem ray_ok (R b off c : Nat) (bs : List Int) (i : Nat) (w : World) (hu : U8 bs) (hb : b < w.heap.size) (hx : rayF bs i = none) (h : RdB w R b off c bs i) :
    Calls Tryz.prog 163 #[.pointer (some ⟨R, 0, none⟩)] w fun e w' => ReadOut w R b off c bs (i + 24) (.agg #[.int .u32 (numB bs i 4), .int .u32 (numB bs (i + 4) 4), .int .u32 (numB bs (i + 8) 4), .int .u32 (numB bs (i + 12) 4), .int .u32 (numB bs (i + 12 + 4) 4), .int .u32 (numB bs (i + 12 + 8) 4)]) e w' := by
  obtain ⟨hx0, hx'⟩ := orF_none hx
  obtain ⟨hx1, hx2⟩ := orF_none hx'
  clear hx hx'
  have HU : Hid (U8 bs) := hu
  have F0 : Hid (FillS w R b off c bs i w.heap.size 6 [0, 0, 0, 0, 0, 0] ((w.alloc (.cells #[.int .u32 0, .int .u32 0, .int .u32 0, .int .u32 0, .int .u32 0, .int .u32 0] 28)).alloc (.cells #[.int .u32 0, .int .u32 0, .int .u32 0, .int .u32 0, .int .u32 0, .int .u32 0] 28))) := FillS.new h hb 6 28 _ rfl
  clear h hu hb
  go_enter Tryz.func163, Tryz.ntmps163
  go_wp2_with fail
  refine (point_ok R b off c bs (i) _ HU.out F0.out.blt hx0 F0.out.rd).mono ?_
  rintro e w1 ⟨rfl, hrd, has⟩
  have G := F0.out.call hrd has
  have F1 : Hid (FillS w R b off c bs (i + 12) w.heap.size 6 [(numB bs i 4), (numB bs (i + 4) 4), (numB bs (i + 8) 4), 0, 0, 0] (((w1.setCell ⟨w.heap.size + 1, 0, none⟩ (.int .u32 (numB bs i 4))).setCell ⟨w.heap.size + 1, 1, none⟩ (.int .u32 (numB bs (i + 4) 4))).setCell ⟨w.heap.size + 1, 2, none⟩ (.int .u32 (numB bs (i + 8) 4)))) := ((G.put (j := 0) (by simp) _).put (j := 1) (by simp) _).put (j := 2) (by simp) _
  have q0 : w1.cell? ⟨w.heap.size + 1, 0, none⟩ = some (.int .u32 0) := G.o2.cell 0 (by simp)
  have q0' : w1.frozen? ⟨w.heap.size + 1, 0, none⟩ = false := G.o2.free 0 (by simp)
  have q1 : w1.cell? ⟨w.heap.size + 1, 1, none⟩ = some (.int .u32 0) := G.o2.cell 1 (by simp)
  have q1' : w1.frozen? ⟨w.heap.size + 1, 1, none⟩ = false := G.o2.free 1 (by simp)
  have q2 : w1.cell? ⟨w.heap.size + 1, 2, none⟩ = some (.int .u32 0) := G.o2.cell 2 (by simp)
  have q2' : w1.frozen? ⟨w.heap.size + 1, 2, none⟩ = false := G.o2.free 2 (by simp)
  have qa : (((w1.setCell ⟨w.heap.size + 1, 0, none⟩ (.int .u32 (numB bs i 4))).setCell ⟨w.heap.size + 1, 1, none⟩ (.int .u32 (numB bs (i + 4) 4))).setCell ⟨w.heap.size + 1, 2, none⟩ (.int .u32 (numB bs (i + 8) 4))).cell? ⟨R, 1, none⟩ = some (.int .i64 ((i + 12 : Nat) : Int)) := F1.out.rd.c1
  clear hrd has G
  go_wp2_with fail
  clear q0 q1 q2 q0' q1' q2'
  clear qa
  refine (point_ok R b off c bs (i + 12) _ HU.out F1.out.blt hx1 F1.out.rd).mono ?_
  rintro e w2 ⟨rfl, hrd, has⟩
  have G := F1.out.call hrd has
  have F2 : Hid (FillS w R b off c bs (i + 24) w.heap.size 6 [(numB bs i 4), (numB bs (i + 4) 4), (numB bs (i + 8) 4), (numB bs (i + 12) 4), (numB bs (i + 12 + 4) 4), (numB bs (i + 12 + 8) 4)] (((w2.setCell ⟨w.heap.size + 1, 3, none⟩ (.int .u32 (numB bs (i + 12) 4))).setCell ⟨w.heap.size + 1, 4, none⟩ (.int .u32 (numB bs (i + 12 + 4) 4))).setCell ⟨w.heap.size + 1, 5, none⟩ (.int .u32 (numB bs (i + 12 + 8) 4)))) := ((G.put (j := 3) (by simp) _).put (j := 4) (by simp) _).put (j := 5) (by simp) _
  have q0 : w2.cell? ⟨w.heap.size + 1, 3, none⟩ = some (.int .u32 0) := G.o2.cell 3 (by simp)
  have q0' : w2.frozen? ⟨w.heap.size + 1, 3, none⟩ = false := G.o2.free 3 (by simp)
  have q1 : w2.cell? ⟨w.heap.size + 1, 4, none⟩ = some (.int .u32 0) := G.o2.cell 4 (by simp)
  have q1' : w2.frozen? ⟨w.heap.size + 1, 4, none⟩ = false := G.o2.free 4 (by simp)
  have q2 : w2.cell? ⟨w.heap.size + 1, 5, none⟩ = some (.int .u32 0) := G.o2.cell 5 (by simp)
  have q2' : w2.frozen? ⟨w.heap.size + 1, 5, none⟩ = false := G.o2.free 5 (by simp)
  clear hrd has
  have b0 := fin_bounds HU.out hx0
  have b1 := fin_bounds HU.out hx1
  have o0 : w2.cell? ⟨w.heap.size + 1, 0, none⟩ = some (.int .u32 (numB bs i 4)) := G.o2.cell 0 (by simp)
  have o1 : w2.cell? ⟨w.heap.size + 1, 1, none⟩ = some (.int .u32 (numB bs (i + 4) 4)) := G.o2.cell 1 (by simp)
  have o2 : w2.cell? ⟨w.heap.size + 1, 2, none⟩ = some (.int .u32 (numB bs (i + 8) 4)) := G.o2.cell 2 (by simp)
  have r0 : w2.cell? ⟨w.heap.size, 0, none⟩ = some (.int .u32 0) := G.o1.cell 0 (by simp)
  have s0 : w2.frozen? ⟨w.heap.size, 0, none⟩ = false := G.o1.free 0 (by simp)
  have r1 : w2.cell? ⟨w.heap.size, 1, none⟩ = some (.int .u32 0) := G.o1.cell 1 (by simp)
  have s1 : w2.frozen? ⟨w.heap.size, 1, none⟩ = false := G.o1.free 1 (by simp)
  have r2 : w2.cell? ⟨w.heap.size, 2, none⟩ = some (.int .u32 0) := G.o1.cell 2 (by simp)
  have s2 : w2.frozen? ⟨w.heap.size, 2, none⟩ = false := G.o1.free 2 (by simp)
  have r3 : w2.cell? ⟨w.heap.size, 3, none⟩ = some (.int .u32 0) := G.o1.cell 3 (by simp)
  have s3 : w2.frozen? ⟨w.heap.size, 3, none⟩ = false := G.o1.free 3 (by simp)
  have r4 : w2.cell? ⟨w.heap.size, 4, none⟩ = some (.int .u32 0) := G.o1.cell 4 (by simp)
  have s4 : w2.frozen? ⟨w.heap.size, 4, none⟩ = false := G.o1.free 4 (by simp)
  have r5 : w2.cell? ⟨w.heap.size, 5, none⟩ = some (.int .u32 0) := G.o1.cell 5 (by simp)
  have s5 : w2.frozen? ⟨w.heap.size, 5, none⟩ = false := G.o1.free 5 (by simp)
  clear G F0 F1
  go_wp2_with fail
  refine (proper_any (numB bs i 4) (numB bs (i + 4) 4) (numB bs (i + 8) 4) (numB bs (i + 12) 4) (numB bs (i + 12 + 4) 4) (numB bs (i + 12 + 8) 4) _ b0.1.1 b0.1.2 b0.2.1.1 b0.2.1.2 b0.2.2.1.1 b0.2.2.1.2 b1.1.1 b1.1.2 b1.2.1.1 b1.2.1.2 b1.2.2.1.1 b1.2.2.1.2).mono ?_
  rintro e V ⟨rfl, hb2⟩
  have G := F2.out.later hb2
  have HG : Hid (FillS w R b off c bs (i + 24) w.heap.size 6 [(numB bs i 4), (numB bs (i + 4) 4), (numB bs (i + 8) 4), (numB bs (i + 12) 4), (numB bs (i + 12 + 4) 4), (numB bs (i + 12 + 8) 4)] V) := G
  rw [b0.2.2.2, b1.2.2.2]
  have hnw : noWayB (numB bs (i + 12) 4) (numB bs (i + 12 + 4) 4) (numB bs (i + 12 + 8) 4) = false := by
    cases hq : noWayB (numB bs (i + 12) 4) (numB bs (i + 12 + 4) 4) (numB bs (i + 12 + 8) 4)
    · rfl
    · rw [hq, if_pos rfl] at hx2; cases hx2
  rw [hnw]
  clear hnw hx2 hb2 o0 o1 o2 r0 s0 r1 s1 r2 s2 r3 s3 r4 s4 r5 s5 q0 q1 q2 q0' q1' q2'
  have o0 : V.cell? ⟨w.heap.size + 1, 0, none⟩ = some (.int .u32 (numB bs i 4)) := G.o2.cell 0 (by simp)
  have o1 : V.cell? ⟨w.heap.size + 1, 1, none⟩ = some (.int .u32 (numB bs (i + 4) 4)) := G.o2.cell 1 (by simp)
  have o2 : V.cell? ⟨w.heap.size + 1, 2, none⟩ = some (.int .u32 (numB bs (i + 8) 4)) := G.o2.cell 2 (by simp)
  have o3 : V.cell? ⟨w.heap.size + 1, 3, none⟩ = some (.int .u32 (numB bs (i + 12) 4)) := G.o2.cell 3 (by simp)
  have o4 : V.cell? ⟨w.heap.size + 1, 4, none⟩ = some (.int .u32 (numB bs (i + 12 + 4) 4)) := G.o2.cell 4 (by simp)
  have o5 : V.cell? ⟨w.heap.size + 1, 5, none⟩ = some (.int .u32 (numB bs (i + 12 + 8) 4)) := G.o2.cell 5 (by simp)
  have r0 : V.cell? ⟨w.heap.size, 0, none⟩ = some (.int .u32 0) := G.o1.cell 0 (by simp)
  have s0 : V.frozen? ⟨w.heap.size, 0, none⟩ = false := G.o1.free 0 (by simp)
  have r1 : V.cell? ⟨w.heap.size, 1, none⟩ = some (.int .u32 0) := G.o1.cell 1 (by simp)
  have s1 : V.frozen? ⟨w.heap.size, 1, none⟩ = false := G.o1.free 1 (by simp)
  have r2 : V.cell? ⟨w.heap.size, 2, none⟩ = some (.int .u32 0) := G.o1.cell 2 (by simp)
  have s2 : V.frozen? ⟨w.heap.size, 2, none⟩ = false := G.o1.free 2 (by simp)
  have r3 : V.cell? ⟨w.heap.size, 3, none⟩ = some (.int .u32 0) := G.o1.cell 3 (by simp)
  have s3 : V.frozen? ⟨w.heap.size, 3, none⟩ = false := G.o1.free 3 (by simp)
  have r4 : V.cell? ⟨w.heap.size, 4, none⟩ = some (.int .u32 0) := G.o1.cell 4 (by simp)
  have s4 : V.frozen? ⟨w.heap.size, 4, none⟩ = false := G.o1.free 4 (by simp)
  have r5 : V.cell? ⟨w.heap.size, 5, none⟩ = some (.int .u32 0) := G.o1.cell 5 (by simp)
  have s5 : V.frozen? ⟨w.heap.size, 5, none⟩ = false := G.o1.free 5 (by simp)
  clear G F2 b0 b1
  go_wp2
  refine bodyPost_ret (v := .agg #[.int .u32 (numB bs i 4), .int .u32 (numB bs (i + 4) 4), .int .u32 (numB bs (i + 8) 4), .int .u32 (numB bs (i + 12) 4), .int .u32 (numB bs (i + 12 + 4) 4), .int .u32 (numB bs (i + 12 + 8) 4)]) (by simp [results, Tryz.results163, go_sem, r0, r1, r2, r3, r4, r5]) rfl ?_
  have hd := (done_set (done_set (done_set (done_set (done_set (done_set HG.out.done 0 (.int .u32 (numB bs i 4))) 1 (.int .u32 (numB bs (i + 4) 4))) 2 (.int .u32 (numB bs (i + 8) 4))) 3 (.int .u32 (numB bs (i + 12) 4))) 4 (.int .u32 (numB bs (i + 12 + 4) 4))) 5 (.int .u32 (numB bs (i + 12 + 8) 4)))
  exact ⟨rfl, hd.1, hd.2.1⟩

set_option maxRecDepth 100000 in
set_option maxHeartbeats 2000000 in
theorem ray_bad (R b off c : Nat) (bs : List Int) (i : Nat) (x : Int × Int) (w : World) (hu : U8 bs) (hb : b < w.heap.size) (hx : rayF bs i = some x) (h : RdB w R b off c bs i) :
    Calls Tryz.prog 163 #[.pointer (some ⟨R, 0, none⟩)] w fun e w' => ThrowOut w R x e w' := by
  rcases orF_some hx with hx0 | ⟨hx0, hx'⟩
  · clear hx
    have HU : Hid (U8 bs) := hu
    have F0 : Hid (FillS w R b off c bs i w.heap.size 6 [0, 0, 0, 0, 0, 0] ((w.alloc (.cells #[.int .u32 0, .int .u32 0, .int .u32 0, .int .u32 0, .int .u32 0, .int .u32 0] 28)).alloc (.cells #[.int .u32 0, .int .u32 0, .int .u32 0, .int .u32 0, .int .u32 0, .int .u32 0] 28))) := FillS.new h hb 6 28 _ rfl
    clear h hu hb
    go_enter Tryz.func163, Tryz.ntmps163
    go_wp2_with fail
    refine (point_bad R b off c bs (i) x _ HU.out F0.out.blt hx0 F0.out.rd).mono ?_
    rintro e w9 ⟨rfl, has⟩
    exact ⟨rfl, rfl, F0.out.asd.trans has⟩
  · clear hx
    rcases orF_some hx' with hx1 | ⟨hx1, hx2⟩
    · clear hx'
      have HU : Hid (U8 bs) := hu
      have F0 : Hid (FillS w R b off c bs i w.heap.size 6 [0, 0, 0, 0, 0, 0] ((w.alloc (.cells #[.int .u32 0, .int .u32 0, .int .u32 0, .int .u32 0, .int .u32 0, .int .u32 0] 28)).alloc (.cells #[.int .u32 0, .int .u32 0, .int .u32 0, .int .u32 0, .int .u32 0, .int .u32 0] 28))) := FillS.new h hb 6 28 _ rfl
      clear h hu hb
      go_enter Tryz.func163, Tryz.ntmps163
      go_wp2_with fail
      refine (point_ok R b off c bs (i) _ HU.out F0.out.blt hx0 F0.out.rd).mono ?_
      rintro e w1 ⟨rfl, hrd, has⟩
      have G := F0.out.call hrd has
      have F1 : Hid (FillS w R b off c bs (i + 12) w.heap.size 6 [(numB bs i 4), (numB bs (i + 4) 4), (numB bs (i + 8) 4), 0, 0, 0] (((w1.setCell ⟨w.heap.size + 1, 0, none⟩ (.int .u32 (numB bs i 4))).setCell ⟨w.heap.size + 1, 1, none⟩ (.int .u32 (numB bs (i + 4) 4))).setCell ⟨w.heap.size + 1, 2, none⟩ (.int .u32 (numB bs (i + 8) 4)))) := ((G.put (j := 0) (by simp) _).put (j := 1) (by simp) _).put (j := 2) (by simp) _
      have q0 : w1.cell? ⟨w.heap.size + 1, 0, none⟩ = some (.int .u32 0) := G.o2.cell 0 (by simp)
      have q0' : w1.frozen? ⟨w.heap.size + 1, 0, none⟩ = false := G.o2.free 0 (by simp)
      have q1 : w1.cell? ⟨w.heap.size + 1, 1, none⟩ = some (.int .u32 0) := G.o2.cell 1 (by simp)
      have q1' : w1.frozen? ⟨w.heap.size + 1, 1, none⟩ = false := G.o2.free 1 (by simp)
      have q2 : w1.cell? ⟨w.heap.size + 1, 2, none⟩ = some (.int .u32 0) := G.o2.cell 2 (by simp)
      have q2' : w1.frozen? ⟨w.heap.size + 1, 2, none⟩ = false := G.o2.free 2 (by simp)
      have qa : (((w1.setCell ⟨w.heap.size + 1, 0, none⟩ (.int .u32 (numB bs i 4))).setCell ⟨w.heap.size + 1, 1, none⟩ (.int .u32 (numB bs (i + 4) 4))).setCell ⟨w.heap.size + 1, 2, none⟩ (.int .u32 (numB bs (i + 8) 4))).cell? ⟨R, 1, none⟩ = some (.int .i64 ((i + 12 : Nat) : Int)) := F1.out.rd.c1
      clear hrd has G
      go_wp2_with fail
      clear q0 q1 q2 q0' q1' q2'
      clear qa
      refine (point_bad R b off c bs (i + 12) x _ HU.out F1.out.blt hx1 F1.out.rd).mono ?_
      rintro e w9 ⟨rfl, has⟩
      exact ⟨rfl, rfl, F1.out.asd.trans has⟩
    · clear hx'
      have hnw : noWayB (numB bs (i + 12) 4) (numB bs (i + 12 + 4) 4) (numB bs (i + 12 + 8) 4) = true := by
        cases hq : noWayB (numB bs (i + 12) 4) (numB bs (i + 12 + 4) 4) (numB bs (i + 12 + 8) 4)
        · rw [hq, if_neg (by decide)] at hx2; cases hx2
        · rfl
      rw [hnw, if_pos rfl] at hx2
      cases hx2
      have HU : Hid (U8 bs) := hu
      have F0 : Hid (FillS w R b off c bs i w.heap.size 6 [0, 0, 0, 0, 0, 0] ((w.alloc (.cells #[.int .u32 0, .int .u32 0, .int .u32 0, .int .u32 0, .int .u32 0, .int .u32 0] 28)).alloc (.cells #[.int .u32 0, .int .u32 0, .int .u32 0, .int .u32 0, .int .u32 0, .int .u32 0] 28))) := FillS.new h hb 6 28 _ rfl
      clear h hu hb
      go_enter Tryz.func163, Tryz.ntmps163
      go_wp2_with fail
      refine (point_ok R b off c bs (i) _ HU.out F0.out.blt hx0 F0.out.rd).mono ?_
      rintro e w1 ⟨rfl, hrd, has⟩
      have G := F0.out.call hrd has
      have F1 : Hid (FillS w R b off c bs (i + 12) w.heap.size 6 [(numB bs i 4), (numB bs (i + 4) 4), (numB bs (i + 8) 4), 0, 0, 0] (((w1.setCell ⟨w.heap.size + 1, 0, none⟩ (.int .u32 (numB bs i 4))).setCell ⟨w.heap.size + 1, 1, none⟩ (.int .u32 (numB bs (i + 4) 4))).setCell ⟨w.heap.size + 1, 2, none⟩ (.int .u32 (numB bs (i + 8) 4)))) := ((G.put (j := 0) (by simp) _).put (j := 1) (by simp) _).put (j := 2) (by simp) _
      have q0 : w1.cell? ⟨w.heap.size + 1, 0, none⟩ = some (.int .u32 0) := G.o2.cell 0 (by simp)
      have q0' : w1.frozen? ⟨w.heap.size + 1, 0, none⟩ = false := G.o2.free 0 (by simp)
      have q1 : w1.cell? ⟨w.heap.size + 1, 1, none⟩ = some (.int .u32 0) := G.o2.cell 1 (by simp)
      have q1' : w1.frozen? ⟨w.heap.size + 1, 1, none⟩ = false := G.o2.free 1 (by simp)
      have q2 : w1.cell? ⟨w.heap.size + 1, 2, none⟩ = some (.int .u32 0) := G.o2.cell 2 (by simp)
      have q2' : w1.frozen? ⟨w.heap.size + 1, 2, none⟩ = false := G.o2.free 2 (by simp)
      have qa : (((w1.setCell ⟨w.heap.size + 1, 0, none⟩ (.int .u32 (numB bs i 4))).setCell ⟨w.heap.size + 1, 1, none⟩ (.int .u32 (numB bs (i + 4) 4))).setCell ⟨w.heap.size + 1, 2, none⟩ (.int .u32 (numB bs (i + 8) 4))).cell? ⟨R, 1, none⟩ = some (.int .i64 ((i + 12 : Nat) : Int)) := F1.out.rd.c1
      clear hrd has G
      go_wp2_with fail
      clear q0 q1 q2 q0' q1' q2'
      clear qa
      refine (point_ok R b off c bs (i + 12) _ HU.out F1.out.blt hx1 F1.out.rd).mono ?_
      rintro e w2 ⟨rfl, hrd, has⟩
      have G := F1.out.call hrd has
      have F2 : Hid (FillS w R b off c bs (i + 24) w.heap.size 6 [(numB bs i 4), (numB bs (i + 4) 4), (numB bs (i + 8) 4), (numB bs (i + 12) 4), (numB bs (i + 12 + 4) 4), (numB bs (i + 12 + 8) 4)] (((w2.setCell ⟨w.heap.size + 1, 3, none⟩ (.int .u32 (numB bs (i + 12) 4))).setCell ⟨w.heap.size + 1, 4, none⟩ (.int .u32 (numB bs (i + 12 + 4) 4))).setCell ⟨w.heap.size + 1, 5, none⟩ (.int .u32 (numB bs (i + 12 + 8) 4)))) := ((G.put (j := 3) (by simp) _).put (j := 4) (by simp) _).put (j := 5) (by simp) _
      have q0 : w2.cell? ⟨w.heap.size + 1, 3, none⟩ = some (.int .u32 0) := G.o2.cell 3 (by simp)
      have q0' : w2.frozen? ⟨w.heap.size + 1, 3, none⟩ = false := G.o2.free 3 (by simp)
      have q1 : w2.cell? ⟨w.heap.size + 1, 4, none⟩ = some (.int .u32 0) := G.o2.cell 4 (by simp)
      have q1' : w2.frozen? ⟨w.heap.size + 1, 4, none⟩ = false := G.o2.free 4 (by simp)
      have q2 : w2.cell? ⟨w.heap.size + 1, 5, none⟩ = some (.int .u32 0) := G.o2.cell 5 (by simp)
      have q2' : w2.frozen? ⟨w.heap.size + 1, 5, none⟩ = false := G.o2.free 5 (by simp)
      clear hrd has
      have b0 := fin_bounds HU.out hx0
      have b1 := fin_bounds HU.out hx1
      have o0 : w2.cell? ⟨w.heap.size + 1, 0, none⟩ = some (.int .u32 (numB bs i 4)) := G.o2.cell 0 (by simp)
      have o1 : w2.cell? ⟨w.heap.size + 1, 1, none⟩ = some (.int .u32 (numB bs (i + 4) 4)) := G.o2.cell 1 (by simp)
      have o2 : w2.cell? ⟨w.heap.size + 1, 2, none⟩ = some (.int .u32 (numB bs (i + 8) 4)) := G.o2.cell 2 (by simp)
      have r0 : w2.cell? ⟨w.heap.size, 0, none⟩ = some (.int .u32 0) := G.o1.cell 0 (by simp)
      have s0 : w2.frozen? ⟨w.heap.size, 0, none⟩ = false := G.o1.free 0 (by simp)
      have r1 : w2.cell? ⟨w.heap.size, 1, none⟩ = some (.int .u32 0) := G.o1.cell 1 (by simp)
      have s1 : w2.frozen? ⟨w.heap.size, 1, none⟩ = false := G.o1.free 1 (by simp)
      have r2 : w2.cell? ⟨w.heap.size, 2, none⟩ = some (.int .u32 0) := G.o1.cell 2 (by simp)
      have s2 : w2.frozen? ⟨w.heap.size, 2, none⟩ = false := G.o1.free 2 (by simp)
      have r3 : w2.cell? ⟨w.heap.size, 3, none⟩ = some (.int .u32 0) := G.o1.cell 3 (by simp)
      have s3 : w2.frozen? ⟨w.heap.size, 3, none⟩ = false := G.o1.free 3 (by simp)
      have r4 : w2.cell? ⟨w.heap.size, 4, none⟩ = some (.int .u32 0) := G.o1.cell 4 (by simp)
      have s4 : w2.frozen? ⟨w.heap.size, 4, none⟩ = false := G.o1.free 4 (by simp)
      have r5 : w2.cell? ⟨w.heap.size, 5, none⟩ = some (.int .u32 0) := G.o1.cell 5 (by simp)
      have s5 : w2.frozen? ⟨w.heap.size, 5, none⟩ = false := G.o1.free 5 (by simp)
      clear G F0 F1
      go_wp2_with fail
      refine (proper_any (numB bs i 4) (numB bs (i + 4) 4) (numB bs (i + 8) 4) (numB bs (i + 12) 4) (numB bs (i + 12 + 4) 4) (numB bs (i + 12 + 8) 4) _ b0.1.1 b0.1.2 b0.2.1.1 b0.2.1.2 b0.2.2.1.1 b0.2.2.1.2 b1.1.1 b1.1.2 b1.2.1.1 b1.2.1.2 b1.2.2.1.1 b1.2.2.1.2).mono ?_
      rintro e V ⟨rfl, hb2⟩
      have G := F2.out.later hb2
      have HG : Hid (FillS w R b off c bs (i + 24) w.heap.size 6 [(numB bs i 4), (numB bs (i + 4) 4), (numB bs (i + 8) 4), (numB bs (i + 12) 4), (numB bs (i + 12 + 4) 4), (numB bs (i + 12 + 8) 4)] V) := G
      rw [b0.2.2.2, b1.2.2.2, hnw]
      clear hnw hb2 G o0 o1 o2 r0 s0 r1 s1 r2 s2 r3 s3 r4 s4 r5 s5 q0 q1 q2 q0' q1' q2' F2 b0 b1
      go_wp2
      exact ⟨rfl, rfl, HG.out.asd⟩

end Go.Proofs.YtfcnokagfibgcahGreat
