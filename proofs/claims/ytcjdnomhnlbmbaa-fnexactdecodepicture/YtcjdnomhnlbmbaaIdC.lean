/-
  The program's reader: count, float, point.
-/
import Derived.Test.YtcjdnomhnlbmbaaIdBFoFImV
import Derived.Test.YtcjdnomhnlbmbaaIdBFoFImV
namespace Go.Proofs.Ytcjdnomhnlbmbaa
open Go.RowKit

def orF {α : Type} (x y : Option α) : Option α := match x with
  | some x => some x
  | none => y
/-- What is wrong with a number that is to be at most limit. -/
def cntF (bs : List Int) (i size : Nat) (limit : Int) : Option (Int × Int) :=
  if bs.length < i + size then some (5, bs.length) else if limit < numB bs i size then some (2, i) else none
/-- What is wrong with a float. -/
def fltF (bs : List Int) (i : Nat) : Option (Int × Int) :=
  if bs.length < i + 4 then some (5, bs.length) else if fFin (numB bs i 4) = false then some (6, i) else none
/-- .. with a point. -/
def ptF (bs : List Int) (i : Nat) : Option (Int × Int) := orF (fltF bs i) (orF (fltF bs (i + 4)) (fltF bs (i + 8)))

theorem fltF_ok {bs : List Int} {i : Nat} (h : fltF bs i = none) : i + 4 ≤ bs.length ∧ fFin (numB bs i 4) = true := by
  unfold fltF at h
  by_cases h1 : bs.length < i + 4
  · rw [if_pos h1] at h; cases h
  · rw [if_neg h1] at h
    refine ⟨by omega, ?_⟩
    cases h2 : fFin (numB bs i 4)
    · rw [h2, if_pos rfl] at h; cases h
    · rfl
theorem cntF_ok {bs : List Int} {i size : Nat} {limit : Int} (h : cntF bs i size limit = none) : i + size ≤ bs.length ∧ numB bs i size ≤ limit := by
  unfold cntF at h
  by_cases h1 : bs.length < i + size
  · rw [if_pos h1] at h; cases h
  · rw [if_neg h1] at h
    refine ⟨by omega, ?_⟩
    by_cases h2 : limit < numB bs i size
    · rw [if_pos h2] at h; cases h
    · omega

/-- What a method of the reader does: it answers u, having read up to j; or it throws. -/
def ReadOut (w : World) (R b off c : Nat) (bs : List Int) (j : Nat) (u : Value) (e : Ending) (w' : World) : Prop := e = .returned u ∧ RdB w' R b off c bs j ∧ Aside R w w'
def ThrowOut (w : World) (R : Nat) (x : Int × Int) (e : Ending) (w' : World) : Prop := e = thrown x ∧ Aside R w w'

set_option maxHeartbeats 400000 in
theorem count_ok (R b off c : Nat) (bs : List Int) (i size : Nat) (limit : Nat) (w : World) (hu : U8 bs) (hs4 : size ≤ 4) (hx : cntF bs i size limit = none) (h : RdB w R b off c bs i) :
    Calls Try.prog 81 #[.pointer (some ⟨R, 0, none⟩), .int .i64 size, .int .i64 limit] w fun e w' => ReadOut w R b off c bs (i + size) (.int .i64 (numB bs i size)) e w' := by
  obtain ⟨hs, hl⟩ := cntF_ok hx
  have HH : Hid (RdB w R b off c bs i) := h
  have c1 := h.c1
  have hsm := h.sm
  have HR := numB_range hu i size hs4
  have h0 := numB_full hu hs4 hs
  have HU : Hid (U8 bs) := hu
  clear h hx hu
  have hgt : ¬ ((limit : Int) < numB bs i size) := by omega
  go_enter Try.func81, Try.ntmps81
  go_wp2_with fail
  refine (number_ok R b off c bs i size _ HU.out hs4 hs HH.out).mono ?_
  rintro e V ⟨rfl, hrd, has⟩
  have HD : Hid (RdB V R b off c bs (i + size) ∧ Aside R w V) := ⟨hrd, has⟩
  clear hrd has c1
  obtain ⟨N, hN⟩ : ∃ N, N = numB bs i size := ⟨_, rfl⟩
  rw [← hN] at HR h0 hgt hl ⊢
  have HN : Hid (N = numB bs i size) := hN
  clear hN
  go_wp2
  go_ret
  exact ⟨by rw [← HN.out]; rfl, HD.out.1, HD.out.2⟩

set_option maxHeartbeats 400000 in
theorem count_bad (R b off c : Nat) (bs : List Int) (i size : Nat) (limit : Nat) (x : Int × Int) (w : World) (hu : U8 bs) (hs4 : size ≤ 4) (hx : cntF bs i size limit = some x) (h : RdB w R b off c bs i) :
    Calls Try.prog 81 #[.pointer (some ⟨R, 0, none⟩), .int .i64 size, .int .i64 limit] w fun e w' => ThrowOut w R x e w' := by
  have HH : Hid (RdB w R b off c bs i) := h
  have c1 := h.c1
  have hsm := h.sm
  have HU : Hid (U8 bs) := hu
  unfold cntF at hx
  by_cases hs : bs.length < i + size
  · rw [if_pos hs] at hx
    cases hx
    clear h hu
    go_enter Try.func81, Try.ntmps81
    go_wp2_with fail
    refine (number_short R b off c bs i size _ hs HH.out).mono ?_
    rintro e V ⟨rfl, has⟩
    exact ⟨rfl, rfl, has⟩
  · rw [if_neg hs] at hx
    by_cases hl : (limit : Int) < numB bs i size
    · rw [if_pos hl] at hx
      cases hx
      have hs' : i + size ≤ bs.length := by omega
      have HR := numB_range hu i size hs4
      have h0 := numB_full hu hs4 hs'
      clear h hu
      go_enter Try.func81, Try.ntmps81
      go_wp2_with fail
      refine (number_ok R b off c bs i size _ HU.out hs4 hs' HH.out).mono ?_
      rintro e V ⟨rfl, hrd, has⟩
      have HD : Hid (Aside R w V) := has
      clear hrd has c1
      obtain ⟨N, hN⟩ : ∃ N, N = numB bs i size := ⟨_, rfl⟩
      rw [← hN] at HR h0 hl ⊢
      clear hN
      go_wp2
      exact ⟨rfl, rfl, HD.out⟩
    · rw [if_neg hl] at hx; cases hx

set_option maxHeartbeats 400000 in
theorem float_ok (R b off c : Nat) (bs : List Int) (i : Nat) (w : World) (hu : U8 bs) (hx : fltF bs i = none) (h : RdB w R b off c bs i) :
    Calls Try.prog 109 #[.pointer (some ⟨R, 0, none⟩)] w fun e w' => ReadOut w R b off c bs (i + 4) (.int .u32 (numB bs i 4)) e w' := by
  obtain ⟨hs, hf⟩ := fltF_ok hx
  have HH : Hid (RdB w R b off c bs i) := h
  have c1 := h.c1
  have HR := numB_range hu i 4 (by decide)
  have h0 := numB_full hu (by decide) hs
  have HU : Hid (U8 bs) := hu
  clear h hx hu
  go_enter Try.func109, Try.ntmps109
  go_wp2_with fail
  refine (number_ok R b off c bs i 4 _ HU.out (by decide) hs HH.out).mono ?_
  rintro e V ⟨rfl, hrd, has⟩
  have HD : Hid (RdB V R b off c bs (i + 4) ∧ Aside R w V) := ⟨hrd, has⟩
  clear hrd has c1
  obtain ⟨N, hN⟩ : ∃ N, N = numB bs i 4 := ⟨_, rfl⟩
  rw [← hN] at HR h0 hf ⊢
  have HN : Hid (N = numB bs i 4) := hN
  clear hN
  go_wp2_with fail
  refine (floatsFin_any (some ⟨V.heap.size, 0, none⟩) 1 [N] _ (by simp) (row_at _ [N] _ rfl) (by intro x hx; simp at hx; subst hx; omega)).mono ?_
  rintro e V2 ⟨rfl, hb2⟩
  have hb3 : Below V.heap.size V V2 := (bel0 _ _).trans (hb2.mono (by simp))
  have HD2 : Hid (RdB V2 R b off c bs (i + 4) ∧ Aside R w V2) := ⟨HD.out.1.later hb3, HD.out.2.trans (Aside.of hb3)⟩
  have hall : [N].all fFin = true := by simp [hf]
  rw [hall]
  clear hb2 hb3 HD hall
  go_wp2
  go_ret
  exact ⟨by rw [← HN.out]; rfl, HD2.out.1, HD2.out.2⟩

set_option maxHeartbeats 400000 in
theorem float_bad (R b off c : Nat) (bs : List Int) (i : Nat) (x : Int × Int) (w : World) (hu : U8 bs) (hx : fltF bs i = some x) (h : RdB w R b off c bs i) :
    Calls Try.prog 109 #[.pointer (some ⟨R, 0, none⟩)] w fun e w' => ThrowOut w R x e w' := by
  have HH : Hid (RdB w R b off c bs i) := h
  have c1 := h.c1
  have HU : Hid (U8 bs) := hu
  unfold fltF at hx
  by_cases hs : bs.length < i + 4
  · rw [if_pos hs] at hx
    cases hx
    clear h hu
    go_enter Try.func109, Try.ntmps109
    go_wp2_with fail
    refine (number_short R b off c bs i 4 _ hs HH.out).mono ?_
    rintro e V ⟨rfl, has⟩
    exact ⟨rfl, rfl, has⟩
  · rw [if_neg hs] at hx
    by_cases hf : fFin (numB bs i 4) = false
    · rw [if_pos hf] at hx
      cases hx
      have hs' : i + 4 ≤ bs.length := by omega
      have HR := numB_range hu i 4 (by decide)
      have h0 := numB_full hu (by decide) hs'
      clear h hu
      go_enter Try.func109, Try.ntmps109
      go_wp2_with fail
      refine (number_ok R b off c bs i 4 _ HU.out (by decide) hs' HH.out).mono ?_
      rintro e V ⟨rfl, hrd, has⟩
      have HD : Hid (Aside R w V) := has
      clear hrd has c1
      obtain ⟨N, hN⟩ : ∃ N, N = numB bs i 4 := ⟨_, rfl⟩
      rw [← hN] at HR h0 hf ⊢
      clear hN
      go_wp2_with fail
      refine (floatsFin_any (some ⟨V.heap.size, 0, none⟩) 1 [N] _ (by simp) (row_at _ [N] _ rfl) (by intro x hx; simp at hx; subst hx; omega)).mono ?_
      rintro e V2 ⟨rfl, hb2⟩
      have hb3 : Below V.heap.size V V2 := (bel0 _ _).trans (hb2.mono (by simp))
      have HD2 : Hid (Aside R w V2) := HD.out.trans (Aside.of hb3)
      have hall : [N].all fFin = false := by simp [hf]
      rw [hall]
      clear hb2 hb3 HD hall
      go_wp2
      exact ⟨rfl, rfl, HD2.out⟩
    · rw [if_neg hf] at hx; cases hx

theorem own_aside {k : IntKind} {w w' : World} {b off R : Nat} {ys : List Int} (h : Own k w b off ys) (ha : Aside R w w') (hR : b ≠ R) : Own k w' b off ys :=
  ⟨Nat.lt_of_lt_of_le h.lt ha.size, fun j hj => (ha.cell (p := ⟨b, off + j, none⟩) h.lt hR).trans (h.cell j hj), fun j hj => (ha.frozen (p := ⟨b, off + j, none⟩) h.lt hR).trans (h.free j hj)⟩
theorem own_other {k : IntKind} {w : World} {b off : Nat} {ys : List Int} (h : Own k w b off ys) {p : Addr} (hp : p.block ≠ b) (v : Value) : Own k (w.setCell p v) b off ys :=
  ⟨by simpa using h.lt, fun j hj => by rw [World.cell?_setCell_other _ _ _ _ (by intro e; exact hp (congrArg Addr.block e))]; exact h.cell j hj, fun j hj => by rw [World.frozen?_setCell]; exact h.free j hj⟩
theorem RdB.other {w : World} {R b off c i : Nat} {bs : List Int} (h : RdB w R b off c bs i) {k : Nat} (hp : k ≠ R) (hb : k ≠ b) (j : Nat) (v : Value) : RdB (w.setCell ⟨k, j, none⟩ v) R b off c bs i := by
  refine ⟨by rw [World.cell?_setCell_other _ _ _ _ (by intro e; exact hp (congrArg Addr.block e))]; exact h.c0, by rw [World.cell?_setCell_other _ _ _ _ (by intro e; exact hp (congrArg Addr.block e))]; exact h.c1, by rw [World.frozen?_setCell]; exact h.fr, by rw [World.size_setCell]; exact h.lt, ?_, h.ap, h.le, h.cap, h.sm⟩
  exact ((Aside.refl k w).set j v).row h.row (fun b' off' e _ => by cases e; exact fun e => hb e.symm)
theorem RdB.blt {w : World} {R b off c i : Nat} {bs : List Int} (h : RdB w R b off c bs i) (hne : bs ≠ []) : b < w.heap.size := by
  obtain ⟨b', off', e1, e2, _⟩ := h.row.resolve_left hne
  cases e1
  exact e2

/-- Memory while a struct of numbers is read: the box of the answer, the box that is being filled. -/
structure FillS (w0 : World) (R b off c : Nat) (bs : List Int) (i X n : Nat) (ys : List Int) (w : World) : Prop where
  rd : RdB w R b off c bs i
  o1 : Own .u32 w X 0 (List.replicate n 0)
  o2 : Own .u32 w (X + 1) 0 ys
  asd : Aside R w0 w
  hX : X = w0.heap.size
  hR : R < X
  hb : b < X
theorem FillS.call {w0 w w' : World} {R b off c i i' X n : Nat} {bs ys : List Int} (h : FillS w0 R b off c bs i X n ys w) (hr : RdB w' R b off c bs i') (ha : Aside R w w') : FillS w0 R b off c bs i' X n ys w' :=
  ⟨hr, own_aside h.o1 ha (by have := h.hR; omega), own_aside h.o2 ha (by have := h.hR; omega), h.asd.trans ha, h.hX, h.hR, h.hb⟩
theorem FillS.put {w0 w : World} {R b off c i X n : Nat} {bs ys : List Int} (h : FillS w0 R b off c bs i X n ys w) {j : Nat} (hj : j < ys.length) (v : Int) : FillS w0 R b off c bs i X n (ys.set j v) (w.setCell ⟨X + 1, j, none⟩ (.int .u32 v)) := by
  have hX := h.hX
  have hR := h.hR
  have hb := h.hb
  refine ⟨h.rd.other (by omega) (by omega) _ _, own_other h.o1 (by simp) _, ?_, h.asd.setHigh (by simp; omega) _, hX, hR, hb⟩
  have := h.o2.set j v hj
  rw [Nat.zero_add] at this
  exact this
/-- What is left when the answer is being written. -/
theorem FillS.done {w0 w : World} {R b off c i X n : Nat} {bs ys : List Int} (h : FillS w0 R b off c bs i X n ys w) : RdB w R b off c bs i ∧ Aside R w0 w ∧ w0.heap.size ≤ X ∧ R < X ∧ b < X := ⟨h.rd, h.asd, by have := h.hX; omega, h.hR, h.hb⟩
theorem done_set {w0 w : World} {R b off c i X : Nat} {bs : List Int} (h : RdB w R b off c bs i ∧ Aside R w0 w ∧ w0.heap.size ≤ X ∧ R < X ∧ b < X) (j : Nat) (v : Value) : RdB (w.setCell ⟨X, j, none⟩ v) R b off c bs i ∧ Aside R w0 (w.setCell ⟨X, j, none⟩ v) ∧ w0.heap.size ≤ X ∧ R < X ∧ b < X := by
  obtain ⟨h1, h2, h3, h4, h5⟩ := h
  exact ⟨h1.other (by omega) (by omega) _ _, h2.setHigh (by simpa using h3) _, h3, h4, h5⟩
theorem FillS.new {w : World} {R b off c i : Nat} {bs : List Int} (h : RdB w R b off c bs i) (hb : b < w.heap.size) (n : Nat) (t : TypeId) (cs : Array Value) (hc : cs = ((List.replicate n (0 : Int)).map (Value.int .u32 ·)).toArray) : FillS w R b off c bs i w.heap.size n (List.replicate n 0) ((w.alloc (.cells cs t)).alloc (.cells cs t)) := by
  subst hc
  have key : ∀ (v : World), Own .u32 (v.alloc (.cells ((List.replicate n (0 : Int)).map (Value.int .u32 ·)).toArray t)) v.heap.size 0 (List.replicate n 0) := by
    intro v
    refine ⟨by simp, fun j hj => ?_, fun j hj => by simp [go_sem]⟩
    simp at hj
    simp [List.getD_eq_getElem?_getD, hj]
  refine ⟨h.later (bel2 _ _ _), (key w).later (bel0 _ _), ?_, Aside.of (bel2 _ _ _), rfl, h.lt, hb⟩
  have := key (w.alloc (.cells ((List.replicate n (0 : Int)).map (Value.int .u32 ·)).toArray t))
  simpa using this

theorem orF_none {α : Type} {x y : Option α} (h : orF x y = none) : x = none ∧ y = none := by
  cases x with
  | none => exact ⟨rfl, h⟩
  | some x => cases h
theorem orF_some {α : Type} {x y : Option α} {z : α} (h : orF x y = some z) : x = some z ∨ (x = none ∧ y = some z) := by
  cases x with
  | none => exact .inr ⟨rfl, h⟩
  | some x => exact .inl h

set_option maxRecDepth 100000 in
set_option maxHeartbeats 1000000 in
theorem point_ok (R b off c : Nat) (bs : List Int) (i : Nat) (w : World) (hu : U8 bs) (hb : b < w.heap.size) (hx : ptF bs i = none) (h : RdB w R b off c bs i) :
    Calls Try.prog 104 #[.pointer (some ⟨R, 0, none⟩)] w fun e w' => ReadOut w R b off c bs (i + 12) (.agg #[.int .u32 (numB bs i 4), .int .u32 (numB bs (i + 4) 4), .int .u32 (numB bs (i + 8) 4)]) e w' := by
  obtain ⟨hx0, hx'⟩ := orF_none hx
  obtain ⟨hx1, hx2⟩ := orF_none hx'
  clear hx hx'
  have HU : Hid (U8 bs) := hu
  have F0 : Hid (FillS w R b off c bs i w.heap.size 3 [0, 0, 0] ((w.alloc (.cells #[.int .u32 0, .int .u32 0, .int .u32 0] 84)).alloc (.cells #[.int .u32 0, .int .u32 0, .int .u32 0] 84))) := FillS.new h hb 3 84 _ rfl
  clear h hu hb
  go_enter Try.func104, Try.ntmps104
  go_wp2_with fail
  refine (float_ok R b off c bs (i) _ HU.out hx0 F0.out.rd).mono ?_
  rintro e w1 ⟨rfl, hrd, has⟩
  have G := F0.out.call hrd has
  have F1 : Hid (FillS w R b off c bs (i + 4) w.heap.size 3 [(numB bs i 4), 0, 0] (w1.setCell ⟨w.heap.size + 1, 0, none⟩ (.int .u32 (numB bs i 4)))) := G.put (j := 0) (by simp) _
  have q : w1.cell? ⟨w.heap.size + 1, 0, none⟩ = some (.int .u32 0) := G.o2.cell 0 (by simp)
  have q' : w1.frozen? ⟨w.heap.size + 1, 0, none⟩ = false := G.o2.free 0 (by simp)
  clear hrd has G
  go_wp2_with fail
  clear q q'
  refine (float_ok R b off c bs (i + 4) _ HU.out hx1 F1.out.rd).mono ?_
  rintro e w2 ⟨rfl, hrd, has⟩
  have G := F1.out.call hrd has
  have F2 : Hid (FillS w R b off c bs (i + 8) w.heap.size 3 [(numB bs i 4), (numB bs (i + 4) 4), 0] (w2.setCell ⟨w.heap.size + 1, 1, none⟩ (.int .u32 (numB bs (i + 4) 4)))) := G.put (j := 1) (by simp) _
  have q : w2.cell? ⟨w.heap.size + 1, 1, none⟩ = some (.int .u32 0) := G.o2.cell 1 (by simp)
  have q' : w2.frozen? ⟨w.heap.size + 1, 1, none⟩ = false := G.o2.free 1 (by simp)
  clear hrd has G
  go_wp2_with fail
  clear q q'
  refine (float_ok R b off c bs (i + 8) _ HU.out hx2 F2.out.rd).mono ?_
  rintro e w3 ⟨rfl, hrd, has⟩
  have G := F2.out.call hrd has
  have F3 : Hid (FillS w R b off c bs (i + 12) w.heap.size 3 [(numB bs i 4), (numB bs (i + 4) 4), (numB bs (i + 8) 4)] (w3.setCell ⟨w.heap.size + 1, 2, none⟩ (.int .u32 (numB bs (i + 8) 4)))) := G.put (j := 2) (by simp) _
  have q : w3.cell? ⟨w.heap.size + 1, 2, none⟩ = some (.int .u32 0) := G.o2.cell 2 (by simp)
  have q' : w3.frozen? ⟨w.heap.size + 1, 2, none⟩ = false := G.o2.free 2 (by simp)
  clear hrd has
  have o0 : w3.cell? ⟨w.heap.size + 1, 0, none⟩ = some (.int .u32 (numB bs i 4)) := G.o2.cell 0 (by simp)
  have o1 : w3.cell? ⟨w.heap.size + 1, 1, none⟩ = some (.int .u32 (numB bs (i + 4) 4)) := G.o2.cell 1 (by simp)
  have r0 : w3.cell? ⟨w.heap.size, 0, none⟩ = some (.int .u32 0) := G.o1.cell 0 (by simp)
  have r1 : w3.cell? ⟨w.heap.size, 1, none⟩ = some (.int .u32 0) := G.o1.cell 1 (by simp)
  have r2 : w3.cell? ⟨w.heap.size, 2, none⟩ = some (.int .u32 0) := G.o1.cell 2 (by simp)
  have s0 : w3.frozen? ⟨w.heap.size, 0, none⟩ = false := G.o1.free 0 (by simp)
  have s1 : w3.frozen? ⟨w.heap.size, 1, none⟩ = false := G.o1.free 1 (by simp)
  have s2 : w3.frozen? ⟨w.heap.size, 2, none⟩ = false := G.o1.free 2 (by simp)
  clear G F1 F2
  go_wp2
  refine bodyPost_ret (v := .agg #[.int .u32 (numB bs i 4), .int .u32 (numB bs (i + 4) 4), .int .u32 (numB bs (i + 8) 4)]) (by simp [results, Try.results104, go_sem, r0, r1, r2]) rfl ?_
  have hd := done_set (done_set (done_set F3.out.done 0 (.int .u32 (numB bs i 4))) 1 (.int .u32 (numB bs (i + 4) 4))) 2 (.int .u32 (numB bs (i + 8) 4))
  exact ⟨rfl, hd.1, hd.2.1⟩

set_option maxRecDepth 100000 in
set_option maxHeartbeats 1000000 in
theorem point_bad (R b off c : Nat) (bs : List Int) (i : Nat) (x : Int × Int) (w : World) (hu : U8 bs) (hb : b < w.heap.size) (hx : ptF bs i = some x) (h : RdB w R b off c bs i) :
    Calls Try.prog 104 #[.pointer (some ⟨R, 0, none⟩)] w fun e w' => ThrowOut w R x e w' := by
  rcases orF_some hx with hx0 | ⟨hx0, hx'⟩
  · clear hx
    have HU : Hid (U8 bs) := hu
    have F0 : Hid (FillS w R b off c bs i w.heap.size 3 [0, 0, 0] ((w.alloc (.cells #[.int .u32 0, .int .u32 0, .int .u32 0] 84)).alloc (.cells #[.int .u32 0, .int .u32 0, .int .u32 0] 84))) := FillS.new h hb 3 84 _ rfl
    clear h hu hb
    go_enter Try.func104, Try.ntmps104
    go_wp2_with fail
    refine (float_bad R b off c bs i x _ HU.out hx0 F0.out.rd).mono ?_
    rintro e w1 ⟨rfl, has⟩
    exact ⟨rfl, rfl, F0.out.asd.trans has⟩
  · clear hx
    rcases orF_some hx' with hx1 | ⟨hx1, hx2⟩
    · clear hx'
      have HU : Hid (U8 bs) := hu
      have F0 : Hid (FillS w R b off c bs i w.heap.size 3 [0, 0, 0] ((w.alloc (.cells #[.int .u32 0, .int .u32 0, .int .u32 0] 84)).alloc (.cells #[.int .u32 0, .int .u32 0, .int .u32 0] 84))) := FillS.new h hb 3 84 _ rfl
      clear h hu hb
      go_enter Try.func104, Try.ntmps104
      go_wp2_with fail
      refine (float_ok R b off c bs (i) _ HU.out hx0 F0.out.rd).mono ?_
      rintro e w1 ⟨rfl, hrd, has⟩
      have G := F0.out.call hrd has
      have F1 : Hid (FillS w R b off c bs (i + 4) w.heap.size 3 [(numB bs i 4), 0, 0] (w1.setCell ⟨w.heap.size + 1, 0, none⟩ (.int .u32 (numB bs i 4)))) := G.put (j := 0) (by simp) _
      have q : w1.cell? ⟨w.heap.size + 1, 0, none⟩ = some (.int .u32 0) := G.o2.cell 0 (by simp)
      have q' : w1.frozen? ⟨w.heap.size + 1, 0, none⟩ = false := G.o2.free 0 (by simp)
      clear hrd has G
      go_wp2_with fail
      clear q q'
      refine (float_bad R b off c bs (i + 4) x _ HU.out hx1 F1.out.rd).mono ?_
      rintro e w2 ⟨rfl, has⟩
      exact ⟨rfl, rfl, F1.out.asd.trans has⟩
    · clear hx'
      have HU : Hid (U8 bs) := hu
      have F0 : Hid (FillS w R b off c bs i w.heap.size 3 [0, 0, 0] ((w.alloc (.cells #[.int .u32 0, .int .u32 0, .int .u32 0] 84)).alloc (.cells #[.int .u32 0, .int .u32 0, .int .u32 0] 84))) := FillS.new h hb 3 84 _ rfl
      clear h hu hb
      go_enter Try.func104, Try.ntmps104
      go_wp2_with fail
      refine (float_ok R b off c bs (i) _ HU.out hx0 F0.out.rd).mono ?_
      rintro e w1 ⟨rfl, hrd, has⟩
      have G := F0.out.call hrd has
      have F1 : Hid (FillS w R b off c bs (i + 4) w.heap.size 3 [(numB bs i 4), 0, 0] (w1.setCell ⟨w.heap.size + 1, 0, none⟩ (.int .u32 (numB bs i 4)))) := G.put (j := 0) (by simp) _
      have q : w1.cell? ⟨w.heap.size + 1, 0, none⟩ = some (.int .u32 0) := G.o2.cell 0 (by simp)
      have q' : w1.frozen? ⟨w.heap.size + 1, 0, none⟩ = false := G.o2.free 0 (by simp)
      clear hrd has G
      go_wp2_with fail
      clear q q'
      refine (float_ok R b off c bs (i + 4) _ HU.out hx1 F1.out.rd).mono ?_
      rintro e w2 ⟨rfl, hrd, has⟩
      have G := F1.out.call hrd has
      have F2 : Hid (FillS w R b off c bs (i + 8) w.heap.size 3 [(numB bs i 4), (numB bs (i + 4) 4), 0] (w2.setCell ⟨w.heap.size + 1, 1, none⟩ (.int .u32 (numB bs (i + 4) 4)))) := G.put (j := 1) (by simp) _
      have q : w2.cell? ⟨w.heap.size + 1, 1, none⟩ = some (.int .u32 0) := G.o2.cell 1 (by simp)
      have q' : w2.frozen? ⟨w.heap.size + 1, 1, none⟩ = false := G.o2.free 1 (by simp)
      clear hrd has G
      go_wp2_with fail
      clear q q'
      refine (float_bad R b off c bs (i + 8) x _ HU.out hx2 F2.out.rd).mono ?_
      rintro e w3 ⟨rfl, has⟩
      exact ⟨rfl, rfl, F2.out.asd.trans has⟩

end Go.Proofs.Ytcjdnomhnlbmbaa
