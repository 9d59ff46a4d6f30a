/-
  The program's caught, of a picture.
-/
import Derived.Test.YtfhfepphccaadaaIqC
import Derived.Defers
import Derived.Recover
namespace Go.Proofs.Ytfhfepphccaadaa
open Go.RowKit

set_option maxRecDepth 100000 in
theorem catchP_panicking (p : Nat) (x1 x2 y1 y2 : Int) (older : List PanicEntry) (w : World) (hp : p < w.heap.size) (hc0 : w.cell? ⟨p, 0, none⟩ = some (.int .i64 y1)) (hc1 : w.cell? ⟨p, 1, none⟩ = some (.int .i64 y2)) (hz0 : w.frozen? ⟨p, 0, none⟩ = false) (hz1 : w.frozen? ⟨p, 1, none⟩ = false) :
    CallsD Try.prog 71 #[.pointer (some ⟨p, 0, none⟩)] (.panicking ({ v := .iface 75 (.agg #[.int .i64 x1, .int .i64 x2]), recovered := false } :: older)) w fun e u' w' =>
      e = .returned (.tuple #[]) ∧ u' = .panicking ({ v := .iface 75 (.agg #[.int .i64 x1, .int .i64 x2]), recovered := true } :: older) ∧ w' = ((w.alloc (.cells #[.int .i64 x1, .int .i64 x2] 75)).setCell ⟨p, 0, none⟩ (.int .i64 x1)).setCell ⟨p, 1, none⟩ (.int .i64 x2) := by
  have hta : ∀ w : World, (Instr.typeAssert (.iface 75 (.agg #[.int .i64 x1, .int .i64 x2])) 20 75 true).run Try.prog w = .ok (.tuple #[.agg #[.int .i64 x1, .int .i64 x2], .bool true]) w := fun _ => by kernel_rfl
  have k0 : ∀ o, (w.alloc o).cell? ⟨p, 0, none⟩ = some (.int .i64 y1) := fun o => ((bcell (bel0 w o)).1 _ _ hp).trans hc0
  have k1 : ∀ o, (w.alloc o).cell? ⟨p, 1, none⟩ = some (.int .i64 y2) := fun o => ((bcell (bel0 w o)).1 _ _ hp).trans hc1
  have k2 : ∀ o, (w.alloc o).frozen? ⟨p, 0, none⟩ = false := fun o => ((bcell (bel0 w o)).2 _ _ hp).trans hz0
  have k3 : ∀ o, (w.alloc o).frozen? ⟨p, 1, none⟩ = false := fun o => ((bcell (bel0 w o)).2 _ _ hp).trans hz1
  refine callsD_of_wpS Try.func71 rfl fun c₀ cs hu => ?_
  apply wpS_seq
  apply wpS_region
  simp [wpOpsS, go_sem, recoverD, hu, hta, Try.ntmps71, Exit.thenS]
  apply wpS_seq
  apply wpS_region
  simp [wpOpsS, go_sem, Exit.thenS, Array.replicate]
  refine wpS_cond (t := true) (by simp [Act.eval]) ?_
  simp only [if_true]
  apply wpS_region
  simp [wpOpsS, go_sem, k0, k1, k2, k3, bodyPostS, results, Try.results71]

set_option maxRecDepth 100000 in
theorem catchP_idle (p : Nat) (w : World) :
    CallsD Try.prog 71 #[.pointer (some ⟨p, 0, none⟩)] .returning w fun e u' w' => e = .returned (.tuple #[]) ∧ u' = .returning ∧ w' = w.alloc (.cells #[.int .i64 0, .int .i64 0] 75) := by
  have hta : ∀ w : World, (Instr.typeAssert .nilIface 20 75 true).run Try.prog w = .ok (.tuple #[.agg #[.int .i64 0, .int .i64 0], .bool false]) w := fun _ => by kernel_rfl
  refine callsD_of_wpS Try.func71 rfl fun c₀ cs hu => ?_
  apply wpS_seq
  apply wpS_region
  simp [wpOpsS, go_sem, recoverD, hu, hta, Try.ntmps71, Exit.thenS]
  apply wpS_seq
  apply wpS_region
  simp [wpOpsS, go_sem, Exit.thenS, Array.replicate]
  refine wpS_cond (t := false) (by simp [Act.eval]) ?_
  simp only [Bool.false_eq_true, if_false]
  refine wpS_of_wp (wp_skip ?_)
  cases c₀
  simp_all [bodyPostS, results, Try.results71]

/-- What caught answers of a picture. -/
def CgpOut (w : World) (R : Nat) (bs : List Int) (e : Ending) (w' : World) : Prop :=
  (∃ N Lt M aI aB cI cB l1 h1 l3 h3, PicR bs N Lt M ∧ e = .returned (.tuple #[.agg #[.slice aI N cI, .int .i64 Lt, .slice aB M cB], .agg #[.int .i64 0, .int .i64 0]]) ∧ PcDj w' w.heap.size w'.heap.size aI aB N M (idr bs) (bitv bs N) l1 h1 l3 h3 ∧ Aside R w w') ∨
  ∃ x : Int × Int, x.1 ≠ 0 ∧ (∀ n1 n3 g L h, ¬ IsPic bs n1 n3 g L h) ∧ e = .returned (.tuple #[.agg #[.slice none 0 0, .int .i64 0, .slice none 0 0], .agg #[.int .i64 x.1, .int .i64 x.2]]) ∧ Aside R w w'

set_option maxRecDepth 100000 in
set_option maxHeartbeats 1000000 in
theorem caughtP_any (R : Nat) (bs : List Int) (w : World) (hlt : R < w.heap.size)
    (hread : Calls Try.prog 50 #[.pointer (some ⟨R, 0, none⟩)] ((w.alloc (.cells #[.slice none 0 0, .int .i64 0, .slice none 0 0] 43)).alloc (.cells #[.int .i64 0, .int .i64 0] 75)) fun e w' => PctOut ((w.alloc (.cells #[.slice none 0 0, .int .i64 0, .slice none 0 0] 43)).alloc (.cells #[.int .i64 0, .int .i64 0] 75)) R bs e w') :
    Calls Try.prog 49 #[.func (Fn.func 50) #[.pointer (some ⟨R, 0, none⟩)] #[]] w fun e w' => CgpOut w R bs e w' := by
  have HH := hread
  have hmf : ∀ (fn : Fn) (first cap : Array Value) (w : World), (Instr.makeFunc fn first cap).run Try.prog w = .ok (.func fn first cap) w := fun _ _ _ _ => rfl
  have FX : Hid (∀ V, Aside R ((w.alloc (.cells #[.slice none 0 0, .int .i64 0, .slice none 0 0] 43)).alloc (.cells #[.int .i64 0, .int .i64 0] 75)) V → V.cell? ⟨w.heap.size, 0, none⟩ = some (.slice none 0 0) ∧ V.cell? ⟨w.heap.size, 1, none⟩ = some (.int .i64 0) ∧ V.cell? ⟨w.heap.size, 2, none⟩ = some (.slice none 0 0) ∧ V.cell? ⟨w.heap.size + 1, 0, none⟩ = some (.int .i64 0) ∧ V.cell? ⟨w.heap.size + 1, 1, none⟩ = some (.int .i64 0) ∧ V.frozen? ⟨w.heap.size, 0, none⟩ = false ∧ V.frozen? ⟨w.heap.size, 1, none⟩ = false ∧ V.frozen? ⟨w.heap.size, 2, none⟩ = false ∧ V.frozen? ⟨w.heap.size + 1, 0, none⟩ = false ∧ V.frozen? ⟨w.heap.size + 1, 1, none⟩ = false ∧ w.heap.size + 2 ≤ V.heap.size) := by
    intro V ha
    have hs := ha.size
    simp at hs
    have hne : ∀ k, w.heap.size ≤ k → k ≠ R := by intro k hk; omega
    refine ⟨?_, ?_, ?_, ?_, ?_, ?_, ?_, ?_, ?_, ?_, by omega⟩
    · rw [ha.cell (p := ⟨w.heap.size, 0, none⟩) (by simp; omega) (hne _ (Nat.le_refl _))]; simp [go_sem]
    · rw [ha.cell (p := ⟨w.heap.size, 1, none⟩) (by simp; omega) (hne _ (Nat.le_refl _))]; simp [go_sem]
    · rw [ha.cell (p := ⟨w.heap.size, 2, none⟩) (by simp; omega) (hne _ (Nat.le_refl _))]; simp [go_sem]
    · rw [ha.cell (p := ⟨w.heap.size + 1, 0, none⟩) (by simp) (hne _ (Nat.le_succ _))]; simp [go_sem]
    · rw [ha.cell (p := ⟨w.heap.size + 1, 1, none⟩) (by simp) (hne _ (Nat.le_succ _))]; simp [go_sem]
    · rw [ha.frozen (p := ⟨w.heap.size, 0, none⟩) (by simp; omega) (hne _ (Nat.le_refl _))]; simp [go_sem]
    · rw [ha.frozen (p := ⟨w.heap.size, 1, none⟩) (by simp; omega) (hne _ (Nat.le_refl _))]; simp [go_sem]
    · rw [ha.frozen (p := ⟨w.heap.size, 2, none⟩) (by simp; omega) (hne _ (Nat.le_refl _))]; simp [go_sem]
    · rw [ha.frozen (p := ⟨w.heap.size + 1, 0, none⟩) (by simp) (hne _ (Nat.le_succ _))]; simp [go_sem]
    · rw [ha.frozen (p := ⟨w.heap.size + 1, 1, none⟩) (by simp) (hne _ (Nat.le_succ _))]; simp [go_sem]
  clear hread
  go_enter_defers Try.func49, Try.ntmps49
  go_wp2_with fail
  refine HH.mono ?_
  clear HH
  rintro e V (⟨N, Lt, M, aI, aB, cI, cB, l1, h1, l3, h3, hp, rfl, hs, has⟩ | ⟨x, hnz, hno, rfl, has⟩)
  · have B1 := FX.out V has
    obtain ⟨x0, x1, x2, y0, y1, f0, f1, f2, f3, f4, hz⟩ := B1
    have HP : Hid (PicR bs N Lt M) := hp
    clear hp
    go_wp2
    refine leaves_cons (f := 71) (args := #[.pointer (some ⟨w.heap.size + 1, 0, none⟩)]) (by simp) (by simp [go_sem]) ?_
    refine (catchP_idle (w.heap.size + 1) _).mono ?_
    rintro e u' w'' ⟨rfl, rfl, rfl⟩
    obtain ⟨U, hU⟩ : ∃ U, U = ((((V.setCell ⟨w.heap.size, 0, none⟩ (.slice aI N cI)).setCell ⟨w.heap.size, 1, none⟩ (.int .i64 Lt)).setCell ⟨w.heap.size, 2, none⟩ (.slice aB M cB)).setCell ⟨w.heap.size + 1, 0, none⟩ (.int .i64 0)).setCell ⟨w.heap.size + 1, 1, none⟩ (.int .i64 0) := ⟨_, rfl⟩
    rw [← hU]
    have hUz : U.heap.size = V.heap.size := by rw [hU]; simp
    have key : ∀ j k, k < V.heap.size → ∀ o, (U.alloc o).cell? ⟨k, j, none⟩ = U.cell? ⟨k, j, none⟩ := fun j k hk o => (bcell (bel0 U o)).1 _ _ (by omega)
    have u0 : U.cell? ⟨w.heap.size, 0, none⟩ = some (.slice aI N cI) := by rw [hU]; simp [go_sem, x0]
    have u1 : U.cell? ⟨w.heap.size, 1, none⟩ = some (.int .i64 Lt) := by rw [hU]; simp [go_sem, x1]
    have u2 : U.cell? ⟨w.heap.size, 2, none⟩ = some (.slice aB M cB) := by rw [hU]; simp [go_sem, x2]
    have u3 : U.cell? ⟨w.heap.size + 1, 0, none⟩ = some (.int .i64 0) := by rw [hU]; simp [go_sem, y0]
    have u4 : U.cell? ⟨w.heap.size + 1, 1, none⟩ = some (.int .i64 0) := by rw [hU]; simp [go_sem, y1]
    have k0 := fun o => (key 0 w.heap.size (by omega) o).trans u0
    have k1 := fun o => (key 1 w.heap.size (by omega) o).trans u1
    have k2 := fun o => (key 2 w.heap.size (by omega) o).trans u2
    have k3 := fun o => (key 0 (w.heap.size + 1) (by omega) o).trans u3
    have k4 := fun o => (key 1 (w.heap.size + 1) (by omega) o).trans u4
    refine ⟨.tuple #[.agg #[.slice aI N cI, .int .i64 Lt, .slice aB M cB], .agg #[.int .i64 0, .int .i64 0]], by simp [results, Try.results49, go_sem, k0, k1, k2, k3, k4], ?_⟩
    have row : ∀ {lo hi : Nat} {a : Option Addr} {n : Nat} {f : Nat → Value}, RowFIn V lo hi a n f → w.heap.size + 1 < lo → RowFIn U lo hi a n f := by
      intro lo hi a n f hr hl
      rw [hU]
      exact rowF_aside (rowF_aside (rowF_aside (rowF_aside (rowF_aside hr ((Aside.refl w.heap.size _).set 0 _) (by omega)) ((Aside.refl w.heap.size _).set 1 _) (by omega)) ((Aside.refl w.heap.size _).set 2 _) (by omega)) ((Aside.refl (w.heap.size + 1) _).set 0 _) hl) ((Aside.refl (w.heap.size + 1) _).set 1 _) hl
    have asU : Aside R w U := by
      rw [hU]
      exact (((((Aside.of (bel2 _ _ _)).trans has).setHigh (p := ⟨w.heap.size, 0, none⟩) (Nat.le_refl _) _).setHigh (p := ⟨w.heap.size, 1, none⟩) (Nat.le_refl _) _).setHigh (p := ⟨w.heap.size, 2, none⟩) (Nat.le_refl _) _).setHigh (p := ⟨w.heap.size + 1, 0, none⟩) (Nat.le_succ _) _ |>.setHigh (p := ⟨w.heap.size + 1, 1, none⟩) (Nat.le_succ _) _
    have g1 := hs.i1
    have g3 := hs.i3
    simp at g1 g3
    refine .inl ⟨N, Lt, M, aI, aB, cI, cB, l1, h1, l3, h3, HP.out, rfl, ?_, asU.trans (Aside.of (bel0 _ _))⟩
    exact ⟨⟨by omega, by simp; omega⟩, ⟨by omega, by simp; omega⟩, hs.d13, Nat.le_refl _, (row hs.r1 (by omega)).later (bel0 _ _), (row hs.r3 (by omega)).later (bel0 _ _)⟩
  · have B1 := FX.out V has
    obtain ⟨x0, x1, x2, y0, y1, f0, f1, f2, f3, f4, hz⟩ := B1
    refine leaves_cons (f := 71) (args := #[.pointer (some ⟨w.heap.size + 1, 0, none⟩)]) (by simp) (by simp [go_sem]) ?_
    refine (catchP_panicking (w.heap.size + 1) _ _ 0 0 [] V (by omega) y0 y1 f3 f4).mono ?_
    rintro e u' w'' ⟨rfl, rfl, rfl⟩
    have q0 := fun o => ((bcell (bel0 V o)).1 w.heap.size 0 (by omega)).trans x0
    have q1 := fun o => ((bcell (bel0 V o)).1 w.heap.size 1 (by omega)).trans x1
    have q2 := fun o => ((bcell (bel0 V o)).1 w.heap.size 2 (by omega)).trans x2
    have q3 := fun o => ((bcell (bel0 V o)).1 (w.heap.size + 1) 0 (by omega)).trans y0
    have q4 := fun o => ((bcell (bel0 V o)).1 (w.heap.size + 1) 1 (by omega)).trans y1
    refine ⟨.tuple #[.agg #[.slice none 0 0, .int .i64 0, .slice none 0 0], .agg #[.int .i64 x.1, .int .i64 x.2]], by simp [results, Try.results49, go_sem, q0, q1, q2, q3, q4], ?_⟩
    exact .inr ⟨x, hnz, hno, rfl, (((Aside.of (bel2 _ _ _)).trans has).trans (Aside.of (bel0 _ _)) |>.setHigh (p := ⟨w.heap.size + 1, 0, none⟩) (Nat.le_succ _) _).setHigh (p := ⟨w.heap.size + 1, 1, none⟩) (Nat.le_succ _) _⟩

end Go.Proofs.Ytfhfepphccaadaa
