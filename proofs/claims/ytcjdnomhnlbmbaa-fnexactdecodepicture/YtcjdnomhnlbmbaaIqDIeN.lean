/-
  The program's caught, of a picture.
-/
import Derived.Test.YtcjdnomhnlbmbaaIdIIqC
import Derived.Defers
import Derived.Recover
import Derived.Test.YtcjdnomhnlbmbaaSpF
import Derived.Deep.AppendLies
namespace Go.Proofs.Ytcjdnomhnlbmbaa
open Go.RowKit

set_option maxRecDepth 100000 in
theorem catchP_panicking (p : Nat) (x1 x2 y1 y2 : Int) (older : List PanicEntry) (w : World) (hp : p < w.heap.size) (hc0 : w.cell? ⟨p, 0, none⟩ = some (.int .i64 y1)) (hc1 : w.cell? ⟨p, 1, none⟩ = some (.int .i64 y2)) (hz0 : w.frozen? ⟨p, 0, none⟩ = false) (hz1 : w.frozen? ⟨p, 1, none⟩ = false) :
    CallsD Try.prog 79 #[.pointer (some ⟨p, 0, none⟩)] (.panicking ({ v := .iface 65 (.agg #[.int .i64 x1, .int .i64 x2]), recovered := false } :: older)) w fun e u' w' =>
      e = .returned (.tuple #[]) ∧ u' = .panicking ({ v := .iface 65 (.agg #[.int .i64 x1, .int .i64 x2]), recovered := true } :: older) ∧ w' = ((w.alloc (.cells #[.int .i64 x1, .int .i64 x2] 65)).setCell ⟨p, 0, none⟩ (.int .i64 x1)).setCell ⟨p, 1, none⟩ (.int .i64 x2) := by
  have hta : ∀ w : World, (Instr.typeAssert (.iface 65 (.agg #[.int .i64 x1, .int .i64 x2])) 20 65 true).run Try.prog w = .ok (.tuple #[.agg #[.int .i64 x1, .int .i64 x2], .bool true]) w := fun _ => by kernel_rfl
  have k0 : ∀ o, (w.alloc o).cell? ⟨p, 0, none⟩ = some (.int .i64 y1) := fun o => ((bcell (bel0 w o)).1 _ _ hp).trans hc0
  have k1 : ∀ o, (w.alloc o).cell? ⟨p, 1, none⟩ = some (.int .i64 y2) := fun o => ((bcell (bel0 w o)).1 _ _ hp).trans hc1
  have k2 : ∀ o, (w.alloc o).frozen? ⟨p, 0, none⟩ = false := fun o => ((bcell (bel0 w o)).2 _ _ hp).trans hz0
  have k3 : ∀ o, (w.alloc o).frozen? ⟨p, 1, none⟩ = false := fun o => ((bcell (bel0 w o)).2 _ _ hp).trans hz1
  refine callsD_of_wpS Try.func79 rfl fun c₀ cs hu => ?_
  apply wpS_seq
  apply wpS_region
  simp [wpOpsS, go_sem, recoverD, hu, hta, Try.ntmps79, Exit.thenS]
  apply wpS_seq
  apply wpS_region
  simp [wpOpsS, go_sem, Exit.thenS, Array.replicate]
  refine wpS_cond (t := true) (by simp [Act.eval]) ?_
  simp only [if_true]
  apply wpS_region
  simp [wpOpsS, go_sem, k0, k1, k2, k3, bodyPostS, results, Try.results79]

set_option maxRecDepth 100000 in
theorem catchP_idle (p : Nat) (w : World) :
    CallsD Try.prog 79 #[.pointer (some ⟨p, 0, none⟩)] .returning w fun e u' w' => e = .returned (.tuple #[]) ∧ u' = .returning ∧ w' = w.alloc (.cells #[.int .i64 0, .int .i64 0] 65) := by
  have hta : ∀ w : World, (Instr.typeAssert .nilIface 20 65 true).run Try.prog w = .ok (.tuple #[.agg #[.int .i64 0, .int .i64 0], .bool false]) w := fun _ => by kernel_rfl
  refine callsD_of_wpS Try.func79 rfl fun c₀ cs hu => ?_
  apply wpS_seq
  apply wpS_region
  simp [wpOpsS, go_sem, recoverD, hu, hta, Try.ntmps79, Exit.thenS]
  apply wpS_seq
  apply wpS_region
  simp [wpOpsS, go_sem, Exit.thenS, Array.replicate]
  refine wpS_cond (t := false) (by simp [Act.eval]) ?_
  simp only [Bool.false_eq_true, if_false]
  refine wpS_of_wp (wp_skip ?_)
  cases c₀
  simp_all [bodyPostS, results, Try.results79]

/-- What caught answers of a picture. -/
def CgpOut (w : World) (R : Nat) (bs : List Int) (e : Ending) (w' : World) : Prop :=
  (∃ N Lt M aI aB cI cB l1 h1 l3 h3, PicR bs N Lt M ∧ e = .returned (.tuple #[.agg #[.slice aI N cI, .int .i64 Lt, .slice aB M cB], .agg #[.int .i64 0, .int .i64 0]]) ∧ PcDj w' w.heap.size w'.heap.size aI aB N M (idr bs) (bitv bs N) l1 h1 l3 h3 ∧ Aside R w w') ∨
  ∃ x : Int × Int, x.1 ≠ 0 ∧ (∀ n1 n3 g L h, ¬ IsPic bs n1 n3 g L h) ∧ e = .returned (.tuple #[.agg #[.slice none 0 0, .int .i64 0, .slice none 0 0], .agg #[.int .i64 x.1, .int .i64 x.2]]) ∧ Aside R w w'

set_option maxRecDepth 100000 in
set_option maxHeartbeats 1000000 in
theorem caughtP_any (R : Nat) (bs : List Int) (w : World) (hlt : R < w.heap.size)
    (hread : Calls Try.prog 36 #[.pointer (some ⟨R, 0, none⟩)] ((w.alloc (.cells #[.slice none 0 0, .int .i64 0, .slice none 0 0] 26)).alloc (.cells #[.int .i64 0, .int .i64 0] 65)) fun e w' => PctOut ((w.alloc (.cells #[.slice none 0 0, .int .i64 0, .slice none 0 0] 26)).alloc (.cells #[.int .i64 0, .int .i64 0] 65)) R bs e w') :
    Calls Try.prog 35 #[.func (Fn.func 36) #[.pointer (some ⟨R, 0, none⟩)] #[]] w fun e w' => CgpOut w R bs e w' := by
  have HH := hread
  have hmf : ∀ (fn : Fn) (first cap : Array Value) (w : World), (Instr.makeFunc fn first cap).run Try.prog w = .ok (.func fn first cap) w := fun _ _ _ _ => rfl
  have FX : Hid (∀ V, Aside R ((w.alloc (.cells #[.slice none 0 0, .int .i64 0, .slice none 0 0] 26)).alloc (.cells #[.int .i64 0, .int .i64 0] 65)) V → V.cell? ⟨w.heap.size, 0, none⟩ = some (.slice none 0 0) ∧ V.cell? ⟨w.heap.size, 1, none⟩ = some (.int .i64 0) ∧ V.cell? ⟨w.heap.size, 2, none⟩ = some (.slice none 0 0) ∧ V.cell? ⟨w.heap.size + 1, 0, none⟩ = some (.int .i64 0) ∧ V.cell? ⟨w.heap.size + 1, 1, none⟩ = some (.int .i64 0) ∧ V.frozen? ⟨w.heap.size, 0, none⟩ = false ∧ V.frozen? ⟨w.heap.size, 1, none⟩ = false ∧ V.frozen? ⟨w.heap.size, 2, none⟩ = false ∧ V.frozen? ⟨w.heap.size + 1, 0, none⟩ = false ∧ V.frozen? ⟨w.heap.size + 1, 1, none⟩ = false ∧ w.heap.size + 2 ≤ V.heap.size) := by
    intro V ha
    have hs := ha.size
    simp at hs
    have hne : ∀ k, w.heap.size ≤ k → k ≠ R := by intro k hk; omega
    refine ⟨?_, ?_, ?_, ?_, ?_, ?_, ?_, ?_, ?_, ?_, by omega⟩
    · rw [ha.cell (p := ⟨w.heap.size, 0, none⟩) (by simp; omega) (hne _ (Nat.le_refl _))]; simp [go_sem]
    · rw [ha.cell (p := ⟨w.heap.size, 1, none⟩) (by simp; omega) (hne _ (Nat.le_refl _))]; simp [go_sem]
    · rw [ha.cell (p := ⟨w.heap.size, 2, none⟩) (by simp; omega) (hne _ (Nat.le_refl _))]; simp [go_sem]
    · rw [ha.cell (p := ⟨w.heap.size + 1, 0, none⟩) (by simp) (hne _ (Nat.le_succ _))]; simp [go_sem]
    · rw [ha.cell (p := ⟨w.heap.size + 1, 1, none⟩) (by simp) (hne _ (Nat.le_succ _))]; simp [go_sem]
    · rw [ha.frozen (p := ⟨w.heap.size, 0, none⟩) (by simp; omega) (hne _ (Nat.le_refl _))]; simp [go_sem]
    · rw [ha.frozen (p := ⟨w.heap.size, 1, none⟩) (by simp; omega) (hne _ (Nat.le_refl _))]; simp [go_sem]
    · rw [ha.frozen (p := ⟨w.heap.size, 2, none⟩) (by simp; omega) (hne _ (Nat.le_refl _))]; simp [go_sem]
    · rw [ha.frozen (p := ⟨w.heap.size + 1, 0, none⟩) (by simp) (hne _ (Nat.le_succ _))]; simp [go_sem]
    · rw [ha.frozen (p := ⟨w.heap.size + 1, 1, none⟩) (by simp) (hne _ (Nat.le_succ _))]; simp [go_sem]
  clear hread
  go_enter_defers Try.func35, Try.ntmps35
  go_wp2_with fail
  refine HH.mono ?_
  clear HH
  rintro e V (⟨N, Lt, M, aI, aB, cI, cB, l1, h1, l3, h3, hp, rfl, hs, has⟩ | ⟨x, hnz, hno, rfl, has⟩)
  · have B1 := FX.out V has
    obtain ⟨x0, x1, x2, y0, y1, f0, f1, f2, f3, f4, hz⟩ := B1
    have HP : Hid (PicR bs N Lt M) := hp
    clear hp
    go_wp2
    refine leaves_cons (f := 79) (args := #[.pointer (some ⟨w.heap.size + 1, 0, none⟩)]) (by simp) (by simp [go_sem]) ?_
    refine (catchP_idle (w.heap.size + 1) _).mono ?_
    rintro e u' w'' ⟨rfl, rfl, rfl⟩
    obtain ⟨U, hU⟩ : ∃ U, U = ((((V.setCell ⟨w.heap.size, 0, none⟩ (.slice aI N cI)).setCell ⟨w.heap.size, 1, none⟩ (.int .i64 Lt)).setCell ⟨w.heap.size, 2, none⟩ (.slice aB M cB)).setCell ⟨w.heap.size + 1, 0, none⟩ (.int .i64 0)).setCell ⟨w.heap.size + 1, 1, none⟩ (.int .i64 0) := ⟨_, rfl⟩
    rw [← hU]
    have hUz : U.heap.size = V.heap.size := by rw [hU]; simp
    have key : ∀ j k, k < V.heap.size → ∀ o, (U.alloc o).cell? ⟨k, j, none⟩ = U.cell? ⟨k, j, none⟩ := fun j k hk o => (bcell (bel0 U o)).1 _ _ (by omega)
    have u0 : U.cell? ⟨w.heap.size, 0, none⟩ = some (.slice aI N cI) := by rw [hU]; simp [go_sem, x0]
    have u1 : U.cell? ⟨w.heap.size, 1, none⟩ = some (.int .i64 Lt) := by rw [hU]; simp [go_sem, x1]
    have u2 : U.cell? ⟨w.heap.size, 2, none⟩ = some (.slice aB M cB) := by rw [hU]; simp [go_sem, x2]
    have u3 : U.cell? ⟨w.heap.size + 1, 0, none⟩ = some (.int .i64 0) := by rw [hU]; simp [go_sem, y0]
    have u4 : U.cell? ⟨w.heap.size + 1, 1, none⟩ = some (.int .i64 0) := by rw [hU]; simp [go_sem, y1]
    have k0 := fun o => (key 0 w.heap.size (by omega) o).trans u0
    have k1 := fun o => (key 1 w.heap.size (by omega) o).trans u1
    have k2 := fun o => (key 2 w.heap.size (by omega) o).trans u2
    have k3 := fun o => (key 0 (w.heap.size + 1) (by omega) o).trans u3
    have k4 := fun o => (key 1 (w.heap.size + 1) (by omega) o).trans u4
    refine ⟨.tuple #[.agg #[.slice aI N cI, .int .i64 Lt, .slice aB M cB], .agg #[.int .i64 0, .int .i64 0]], by simp [results, Try.results35, go_sem, k0, k1, k2, k3, k4], ?_⟩
    have row : ∀ {lo hi : Nat} {a : Option Addr} {n : Nat} {f : Nat → Value}, RowFIn V lo hi a n f → w.heap.size + 1 < lo → RowFIn U lo hi a n f := by
      intro lo hi a n f hr hl
      rw [hU]
      exact rowF_aside (rowF_aside (rowF_aside (rowF_aside (rowF_aside hr ((Aside.refl w.heap.size _).set 0 _) (by omega)) ((Aside.refl w.heap.size _).set 1 _) (by omega)) ((Aside.refl w.heap.size _).set 2 _) (by omega)) ((Aside.refl (w.heap.size + 1) _).set 0 _) hl) ((Aside.refl (w.heap.size + 1) _).set 1 _) hl
    have asU : Aside R w U := by
      rw [hU]
      exact (((((Aside.of (bel2 _ _ _)).trans has).setHigh (p := ⟨w.heap.size, 0, none⟩) (Nat.le_refl _) _).setHigh (p := ⟨w.heap.size, 1, none⟩) (Nat.le_refl _) _).setHigh (p := ⟨w.heap.size, 2, none⟩) (Nat.le_refl _) _).setHigh (p := ⟨w.heap.size + 1, 0, none⟩) (Nat.le_succ _) _ |>.setHigh (p := ⟨w.heap.size + 1, 1, none⟩) (Nat.le_succ _) _
    have g1 := hs.i1
    have g3 := hs.i3
    simp at g1 g3
    refine .inl ⟨N, Lt, M, aI, aB, cI, cB, l1, h1, l3, h3, HP.out, rfl, ?_, asU.trans (Aside.of (bel0 _ _))⟩
    exact ⟨⟨by omega, by simp; omega⟩, ⟨by omega, by simp; omega⟩, hs.d13, Nat.le_refl _, (row hs.r1 (by omega)).later (bel0 _ _), (row hs.r3 (by omega)).later (bel0 _ _)⟩
  · have B1 := FX.out V has
    obtain ⟨x0, x1, x2, y0, y1, f0, f1, f2, f3, f4, hz⟩ := B1
    refine leaves_cons (f := 79) (args := #[.pointer (some ⟨w.heap.size + 1, 0, none⟩)]) (by simp) (by simp [go_sem]) ?_
    refine (catchP_panicking (w.heap.size + 1) _ _ 0 0 [] V (by omega) y0 y1 f3 f4).mono ?_
    rintro e u' w'' ⟨rfl, rfl, rfl⟩
    have q0 := fun o => ((bcell (bel0 V o)).1 w.heap.size 0 (by omega)).trans x0
    have q1 := fun o => ((bcell (bel0 V o)).1 w.heap.size 1 (by omega)).trans x1
    have q2 := fun o => ((bcell (bel0 V o)).1 w.heap.size 2 (by omega)).trans x2
    have q3 := fun o => ((bcell (bel0 V o)).1 (w.heap.size + 1) 0 (by omega)).trans y0
    have q4 := fun o => ((bcell (bel0 V o)).1 (w.heap.size + 1) 1 (by omega)).trans y1
    refine ⟨.tuple #[.agg #[.slice none 0 0, .int .i64 0, .slice none 0 0], .agg #[.int .i64 x.1, .int .i64 x.2]], by simp [results, Try.results35, go_sem, q0, q1, q2, q3, q4], ?_⟩
    exact .inr ⟨x, hnz, hno, rfl, (((Aside.of (bel2 _ _ _)).trans has).trans (Aside.of (bel0 _ _)) |>.setHigh (p := ⟨w.heap.size + 1, 0, none⟩) (Nat.le_succ _) _).setHigh (p := ⟨w.heap.size + 1, 1, none⟩) (Nat.le_succ _) _⟩

end Go.Proofs.Ytcjdnomhnlbmbaa

/-
  The program's appendNumber: a number's bytes behind bytes.
-/
namespace Go.Proofs.Ytcjdnomhnlbmbaa
open Go.RowKit

theorem gb_refl (w : World) (r : Option Nat) : w.grownBy w r := ⟨rfl, rfl, rfl, Nat.le_refl _, fun _ _ _ => rfl⟩
theorem gb_trans {a b c : World} {r1 r2 : Option Nat} (h : a.grownBy b r1) (k : b.grownBy c r2) (hr : ∀ j, r2 = some j → r1 = some j ∨ a.heap.size ≤ j) : a.grownBy c r1 :=
  ⟨k.os.trans h.os, k.tape.trans h.tape, k.output.trans h.output, Nat.le_trans h.size k.size, fun i hi hn => (k.block i (Nat.lt_of_lt_of_le hi h.size) (fun e => by
    rcases hr i e.symm with h1 | h1
    · exact hn h1.symm
    · omega)).trans (h.block i hi hn)⟩
theorem gb_of {w w' : World} (h : Below w.heap.size w w') (r : Option Nat) : w.grownBy w' r := ⟨h.os, h.tape, h.output, h.size, fun k hk _ => h.block k hk⟩
theorem gb_any {w w' : World} (h : w.grownBy w' none) (r : Option Nat) : w.grownBy w' r := ⟨h.os, h.tape, h.output, h.size, fun k hk _ => h.block k hk (fun e => by cases e)⟩
theorem gb_below {w w' : World} {r : Option Nat} {base : Nat} (h : w.grownBy w' r) (hb : base ≤ w.heap.size) (hr : ∀ k, r = some k → base ≤ k) : Below base w w' := (Below.refl _ _).grown h hb hr
theorem gb_row {k : IntKind} {w w' : World} {r : Option Nat} {a : Option Addr} {zs : List Int} (h : w.grownBy w' r) (hr : RowAt k w a zs) (hn : ∀ b off, a = some ⟨b, off, none⟩ → zs ≠ [] → r ≠ some b) : RowAt k w' a zs := by
  by_cases e : zs = []
  · exact .inl e
  · rcases hr with hr | ⟨b, off, h1, h2, h3⟩
    · exact .inl hr
    · exact .inr ⟨b, off, h1, Nat.lt_of_lt_of_le h2 h.size, fun j hj => (h.cell_far ⟨b, off + j, none⟩ h2 (fun q => hn b off h1 e q.symm)).trans (h3 j hj)⟩

/-- Bytes of the call's own, or a row of bytes that has no room left. -/
def StartY (w : World) (base : Nat) (v : Value) (ys : List Int) : Prop :=
  OwnY w base v ys ∨ ∃ ad, v = .slice (some ad) ys.length ys.length ∧ RowAt .u8 w (some ad) ys ∧ ys ≠ []
theorem StartY.later {w w' : World} {base : Nat} {v : Value} {ys : List Int} (h : StartY w base v ys) (hb : Below w.heap.size w w') : StartY w' base v ys := by
  rcases h with h | ⟨ad, h1, h2, h3⟩
  · exact .inl (h.later hb)
  · exact .inr ⟨ad, h1, h2.later hb, h3⟩
theorem StartY.re {w : World} {base : Nat} {v : Value} {ys ys' : List Int} (h : StartY w base v ys) (e : ys = ys') : StartY w base v ys' := e ▸ h
theorem OwnY.tail {w : World} {base : Nat} {v : Value} {ys : List Int} {x y : Int} (h : OwnY w base v (ys ++ [x])) (e : x = y) : OwnY w base v (ys ++ [y]) := e ▸ h
theorem OwnY.re {w : World} {base : Nat} {v : Value} {ys ys' : List Int} (h : OwnY w base v ys) (e : ys = ys') : OwnY w base v ys' := e ▸ h
theorem OwnY.blk {w : World} {base : Nat} {v : Value} {ys : List Int} (h : OwnY w base v ys) {k : Nat} (e : v.ownBlock = some k) : base ≤ k ∧ k < w.heap.size := by
  rcases h.2 with ⟨h1, _⟩ | ⟨g, cap, cur, h1, h2, h3, _⟩
  · rw [h1] at e; simp [Value.ownBlock] at e
  · rw [h1] at e
    simp [Value.ownBlock] at e
    subst e
    refine ⟨h2, ?_⟩
    by_cases hg : g < w.heap.size
    · exact hg
    · rw [Array.getElem?_eq_none (by omega)] at h3; cases h3

/-- What turns in memory while bytes are appended to a row whose block is r: that block, and new ones; the new row's block is g. -/
structure GrewY (w : World) (base : Nat) (r : Option Nat) (g : Nat) (ys : List Int) (n c : Nat) (w' : World) : Prop where
  own : OwnY w' base (.slice (some ⟨g, 0, none⟩) n c) ys
  grown : w.grownBy w' r
  at_ : r = some g ∨ w.heap.size ≤ g

/-- 'append(s, x)' of one byte behind such bytes. -/
theorem app1Y {X : Int} {w0 : World} {ops : Array Oper} {rest : List Oper} {o : Oper} {ac : Act} {Q : Exit → Act → World → Prop} (hgd : o.guard = none) (s x : Operand)
    (ho : o.op = .call { callee := .builtin .append, args := #[s, x], argTypes := #[22, 22] })
    (base : Nat) (sv : Value) (ys : List Int) (hs : ac.eval s = sv) (hx : ac.eval x = .slice (some ⟨w0.heap.size, 0, none⟩) 1 1) (hst : StartY w0 base sv ys) (hn : ys.length ≤ 1500000) (hbase : base ≤ w0.heap.size)
    (h : ∀ g n' c' w', GrewY w0 base sv.ownBlock g (ys ++ [X]) n' c' w' → wpList Try.prog ops Q rest (ac.put o.dst (.slice (some ⟨g, 0, none⟩) n' c')) w') :
    wpList Try.prog ops Q (o :: rest) ac (w0.alloc (.cells #[.int .u8 X] 5)) := by
  obtain ⟨i0, hi, hz0, hz1, hz2⟩ := info_parts infoB
  rcases hst with hst | ⟨ad, h1, h2, h3⟩
  · refine wpList_append_lies _ hgd s x 22 ho base 5 i0 (.int .u8 0) 1 1 Try.underlying22 hi hz0 hz1 hz2 rfl (by decide) sv ys.length (vals .u8 ys) hs (World.ownsRow.alloc hst _) ⟨w0.heap.size, 0, none⟩ 1 1 [.int .u8 X] hx rfl ?_ ?_ (by decide) ?_ ?_ ?_ _ rfl ?_
    · intro j u hj
      match j, hj with
      | 0, hj => simp at hj; subst hj; simp [Addr.add]
    · intro u hu; simp at hu; subst hu; rfl
    · unfold maxLen; omega
    · omega
    · simp; omega
    · intro g cap w' hown hgrow hat _
      refine h g _ cap w' ⟨?_, gb_trans (gb_of (bel0 _ _) _) hgrow (fun j hj => .inl hj), ?_⟩
      · rw [vals_snoc] at hown
        show w'.ownsRow base 5 1 _ (ys ++ [X]).length (vals .u8 (ys ++ [X]))
        simpa using hown
      · rcases hat with h1 | h1
        · exact .inl h1
        · right; simp at h1; omega
  · subst h1
    have hr : RowAt .u8 (w0.alloc (.cells #[.int .u8 X] 5)) (some ⟨w0.heap.size, 0, none⟩) [X] := by
      refine .inr ⟨w0.heap.size, 0, rfl, by simp, fun j hj => ?_⟩
      match j, hj with
      | 0, _ => simp
    have hr0 : RowAt .u8 (w0.alloc (.cells #[.int .u8 X] 5)) (some ad) ys := h2.later (bel0 _ _)
    have key : ∀ j u, (vals .u8 ys)[j]? = some u → (w0.alloc (.cells #[.int .u8 X] 5)).cell? (ad.add j) = some u := by
      intro j u hj
      have hjl : j < ys.length := by
        by_cases hp : j < ys.length
        · exact hp
        · rw [List.getElem?_eq_none (by rw [vals_length]; omega)] at hj; cases hj
      obtain ⟨b, off, h1, h2, h3⟩ := hr0.resolve_left h3
      have e1 := Option.some.inj h1
      subst e1
      have hu : u = .int .u8 (ys.getD j 0) := by
        simp [vals, hjl] at hj
        rw [← hj, List.getD_eq_getElem?_getD, List.getElem?_eq_getElem hjl]
        rfl
      rw [hu, Addr.add_lit]
      exact h3 j hjl
    refine wpList_append_grows _ hgd s x 22 ho 5 i0 (.int .u8 0) 1 1 Try.underlying22 hi hz0 hz1 hz2 rfl (by decide) (some ad) ys.length ys.length (vals .u8 ys) hs (fun e => by cases e) (by simp [vals]) (fun b e => by cases e; exact key) ⟨w0.heap.size, 0, none⟩ 1 1 [.int .u8 X] hx rfl ?_ ?_ (by omega) ?_ ?_ ?_
    · intro j u hj
      match j, hj with
      | 0, hj => simp at hj; subst hj; simp [Addr.add]
    · intro u hu; simp at hu; subst hu; rfl
    · unfold maxLen; omega
    · omega
    · intro v' w' hown' hgrow
      obtain ⟨g, cap, rfl, hg1, _⟩ := hown'.form (by omega)
      refine h g _ cap w' ⟨OwnY.up (base := (w0.alloc (.cells #[.int .u8 X] 5)).heap.size) ?_ (by simp; omega), gb_trans (gb_of (bel0 _ _) _) (gb_any hgrow none) (fun j hj => by cases hj), ?_⟩
      · rw [vals_snoc] at hown'
        show w'.ownsRow _ 5 1 _ (ys ++ [X]).length (vals .u8 (ys ++ [X]))
        simpa using hown'
      · right; simp at hg1; omega

/-- What a function answers that goes on with a list of bytes. -/
def MoreY (w : World) (base : Nat) (r : Option Nat) (ys : List Int) (e : Ending) (w' : World) : Prop := ∃ g n c, e = .returned (.slice (some ⟨g, 0, none⟩) n c) ∧ GrewY w base r g ys n c w'

theorem GrewY.next {w u w' : World} {base : Nat} {r : Option Nat} {g g' n c n' c' : Nat} {ys ys' : List Int} (h : GrewY w base r g ys n c u) (k : GrewY u base (some g) g' ys' n' c' w') : GrewY w base r g' ys' n' c' w' := by
  refine ⟨k.own, gb_trans h.grown k.grown (fun j hj => ?_), ?_⟩
  · cases hj; exact h.at_
  · rcases k.at_ with h1 | h1
    · cases h1; exact h.at_
    · exact .inr (Nat.le_trans h.grown.size h1)
theorem GrewY.call {w u w' : World} {base : Nat} {r : Option Nat} {g n c : Nat} {ys : List Int} (h : GrewY w base r g ys n c u) (hb : Below u.heap.size u w') : GrewY w base r g ys n c w' :=
  ⟨h.own.later hb, gb_trans h.grown (gb_of hb none) (fun j hj => by cases hj), h.at_⟩
theorem GrewY.re {w w' : World} {base : Nat} {r : Option Nat} {g n c : Nat} {ys ys' : List Int} (h : GrewY w base r g ys n c w') (e : ys = ys') : GrewY w base r g ys' n c w' := e ▸ h
theorem GrewY.begin {w : World} {base g n c : Nat} {ys : List Int} (h : OwnY w base (.slice (some ⟨g, 0, none⟩) n c) ys) : GrewY w base (some g) g ys n c w := ⟨h, gb_refl _ _, .inl rfl⟩
theorem GrewY.lt {w w' : World} {base : Nat} {r : Option Nat} {g n c : Nat} {ys : List Int} (h : GrewY w base r g ys n c w') : base ≤ g ∧ g < w'.heap.size := h.own.blk (by simp [Value.ownBlock])

/-- While a number's bytes are appended: nothing yet, or some. -/
def WhileY (w : World) (base : Nat) (v : Value) (ys : List Int) (i : Nat) (zs : List Int) (so : Value) (wr : World) : Prop :=
  (i = 0 ∧ so = v ∧ Below w.heap.size w wr) ∨ ∃ g n c, so = .slice (some ⟨g, 0, none⟩) n c ∧ GrewY w base v.ownBlock g (ys ++ zs) n c wr

theorem WhileY.start {w : World} {base : Nat} {v : Value} {ys zs : List Int} {i : Nat} {so : Value} {wr : World} (h : WhileY w base v ys i zs so wr) (hst : StartY w base v ys) (hz : i = 0 → zs = []) : StartY wr base so (ys ++ zs) := by
  rcases h with ⟨h1, h2, h3⟩ | ⟨g, n, c, h1, h2⟩
  · subst h2; rw [hz h1, List.append_nil]; exact hst.later h3
  · subst h1; exact .inl h2.own
theorem WhileY.size {w : World} {base : Nat} {v : Value} {ys zs : List Int} {i : Nat} {so : Value} {wr : World} (h : WhileY w base v ys i zs so wr) : w.heap.size ≤ wr.heap.size := by
  rcases h with ⟨_, _, h3⟩ | ⟨g, n, c, _, h2⟩
  · exact h3.size
  · exact h2.grown.size
theorem WhileY.app {w : World} {base : Nat} {v : Value} {ys zs zs' : List Int} {i j : Nat} {so : Value} {wr : World} (h : WhileY w base v ys i zs so wr) {g n c : Nat} {w' : World} (k : GrewY wr base so.ownBlock g (ys ++ zs') n c w') : WhileY w base v ys j zs' (.slice (some ⟨g, 0, none⟩) n c) w' := by
  rcases h with ⟨h1, h2, h3⟩ | ⟨g0, n0, c0, h1, h2⟩
  · subst h2
    refine .inr ⟨g, n, c, rfl, k.own, gb_trans (gb_of h3 _) k.grown (fun j hj => .inl hj), ?_⟩
    rcases k.at_ with h4 | h4
    · exact .inl h4
    · exact .inr (Nat.le_trans h3.size h4)
  · subst h1
    exact .inr ⟨g, n, c, rfl, h2.next k⟩

set_option maxRecDepth 100000 in
set_option maxHeartbeats 4000000 in
theorem appNum_any (base : Nat) (v : Value) (ys : List Int) (n : Int) (size : Nat) (w : World) (h0 : 0 ≤ n) (h1 : n < 4294967296) (hs1 : 0 < size) (hs4 : size ≤ 4) (hy : ys.length ≤ 1000000) (hst : StartY w base v ys) (hb : base ≤ w.heap.size) :
    Calls Try.prog 49 #[v, .int .u32 n, .int .i64 size] w fun e w' => MoreY w base v.ownBlock (ys ++ leB n size) e w' := by
  have HST : Hid (StartY w base v ys) := hst
  clear hst
  go_enter Try.func49, Try.ntmps49
  go_wp2
  go_loopw [0, 7, 9] (fun so _ si wr => ∃ (i : Nat), i ≤ size ∧ si = .int .i64 i ∧ Hid (WhileY w base v ys i (leB n i) so wr)) (fun _ _ si _ => size - (intOf si).toNat)
  case atStart => exact ⟨0, Nat.zero_le _, rfl, .inl ⟨rfl, rfl, Below.refl _ _⟩⟩
  case round =>
    obtain ⟨i, hi, rfl, hO⟩ := hrel
    by_cases hlt : i < size
    · have hib : (i : Int) < size := by omega
      have hsz := hO.out.size
      have hll : (ys ++ leB n i).length ≤ 1500000 := by rw [List.length_append, leB_length]; omega
      have hi4 : i = 0 ∨ i = 1 ∨ i = 2 ∨ i = 3 := by omega
      have HE : Hid (leB n (i + 1) = leB n i ++ [divB n i % 256]) := rfl
      rcases hi4 with rfl | rfl | rfl | rfl
      · go_wp2_with (at_builtin; refine app1Y rfl (.tmp 12) (.tmp 18) rfl base _ _ rfl rfl (hO.out.start HST.out (fun _ => rfl)) hll (Nat.le_trans hb hsz) ?_; intro g1 n1 c1 w1 hk1)
        have HO1 : Hid (WhileY w base v ys (0 + 1) (leB n (0 + 1)) (.slice (some ⟨g1, 0, none⟩) n1 c1) w1) := hO.out.app (hk1.re (by rw [HE.out, ← List.append_assoc]; congr 2 <;> simp only [divB] <;> omega))
        clear hk1 hO HE
        go_roundw
        case rel => exact ⟨0 + 1, by omega, by go_num, HO1⟩
        case measure => simp [intOf]; omega
      · go_wp2_with (at_builtin; refine app1Y rfl (.tmp 12) (.tmp 18) rfl base _ _ rfl rfl (hO.out.start HST.out (fun h => by cases h)) hll (Nat.le_trans hb hsz) ?_; intro g1 n1 c1 w1 hk1)
        have HO1 : Hid (WhileY w base v ys (1 + 1) (leB n (1 + 1)) (.slice (some ⟨g1, 0, none⟩) n1 c1) w1) := hO.out.app (hk1.re (by rw [HE.out, ← List.append_assoc]; congr 2 <;> simp only [divB] <;> omega))
        clear hk1 hO HE
        go_roundw
        case rel => exact ⟨1 + 1, by omega, by go_num, HO1⟩
        case measure => simp [intOf]; omega
      · go_wp2_with (at_builtin; refine app1Y rfl (.tmp 12) (.tmp 18) rfl base _ _ rfl rfl (hO.out.start HST.out (fun h => by cases h)) hll (Nat.le_trans hb hsz) ?_; intro g1 n1 c1 w1 hk1)
        have HO1 : Hid (WhileY w base v ys (2 + 1) (leB n (2 + 1)) (.slice (some ⟨g1, 0, none⟩) n1 c1) w1) := hO.out.app (hk1.re (by rw [HE.out, ← List.append_assoc]; congr 2 <;> simp only [divB] <;> omega))
        clear hk1 hO HE
        go_roundw
        case rel => exact ⟨2 + 1, by omega, by go_num, HO1⟩
        case measure => simp [intOf]; omega
      · go_wp2_with (at_builtin; refine app1Y rfl (.tmp 12) (.tmp 18) rfl base _ _ rfl rfl (hO.out.start HST.out (fun h => by cases h)) hll (Nat.le_trans hb hsz) ?_; intro g1 n1 c1 w1 hk1)
        have HO1 : Hid (WhileY w base v ys (3 + 1) (leB n (3 + 1)) (.slice (some ⟨g1, 0, none⟩) n1 c1) w1) := hO.out.app (hk1.re (by rw [HE.out, ← List.append_assoc]; congr 2 <;> simp only [divB] <;> omega))
        clear hk1 hO HE
        go_roundw
        case rel => exact ⟨3 + 1, by omega, by go_num, HO1⟩
        case measure => simp [intOf]; omega
    · have hie : i = size := by omega
      subst hie
      obtain ⟨g, n1, c1, rfl, hk⟩ := hO.out.resolve_left (by rintro ⟨h, _⟩; omega)
      have HK : Hid (GrewY w base v.ownBlock g (ys ++ leB n i) n1 c1 wr) := hk
      clear hO hk
      go_wp2
      go_ret
      exact ⟨_, _, _, rfl, HK.out⟩

end Go.Proofs.Ytcjdnomhnlbmbaa
