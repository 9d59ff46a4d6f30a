/-
  The program's caught: what a reader throws is caught.
-/
import Derived.Test.YtcjdnomhnlbmbaaIdI
import Derived.Defers
import Derived.Recover
namespace Go.Proofs.Ytcjdnomhnlbmbaa
open Go.RowKit

set_option maxRecDepth 100000 in
theorem catchS_panicking (p : Nat) (x1 x2 y1 y2 : Int) (older : List PanicEntry) (w : World) (hp : p < w.heap.size) (hc0 : w.cell? ⟨p, 0, none⟩ = some (.int .i64 y1)) (hc1 : w.cell? ⟨p, 1, none⟩ = some (.int .i64 y2)) (hz0 : w.frozen? ⟨p, 0, none⟩ = false) (hz1 : w.frozen? ⟨p, 1, none⟩ = false) :
    CallsD Try.prog 98 #[.pointer (some ⟨p, 0, none⟩)] (.panicking ({ v := .iface 65 (.agg #[.int .i64 x1, .int .i64 x2]), recovered := false } :: older)) w fun e u' w' =>
      e = .returned (.tuple #[]) ∧ u' = .panicking ({ v := .iface 65 (.agg #[.int .i64 x1, .int .i64 x2]), recovered := true } :: older) ∧ w' = ((w.alloc (.cells #[.int .i64 x1, .int .i64 x2] 65)).setCell ⟨p, 0, none⟩ (.int .i64 x1)).setCell ⟨p, 1, none⟩ (.int .i64 x2) := by
  have hta : ∀ w : World, (Instr.typeAssert (.iface 65 (.agg #[.int .i64 x1, .int .i64 x2])) 20 65 true).run Try.prog w = .ok (.tuple #[.agg #[.int .i64 x1, .int .i64 x2], .bool true]) w := fun _ => by kernel_rfl
  have k0 : ∀ o, (w.alloc o).cell? ⟨p, 0, none⟩ = some (.int .i64 y1) := fun o => ((bcell (bel0 w o)).1 _ _ hp).trans hc0
  have k1 : ∀ o, (w.alloc o).cell? ⟨p, 1, none⟩ = some (.int .i64 y2) := fun o => ((bcell (bel0 w o)).1 _ _ hp).trans hc1
  have k2 : ∀ o, (w.alloc o).frozen? ⟨p, 0, none⟩ = false := fun o => ((bcell (bel0 w o)).2 _ _ hp).trans hz0
  have k3 : ∀ o, (w.alloc o).frozen? ⟨p, 1, none⟩ = false := fun o => ((bcell (bel0 w o)).2 _ _ hp).trans hz1
  refine callsD_of_wpS Try.func98 rfl fun c₀ cs hu => ?_
  apply wpS_seq
  apply wpS_region
  simp [wpOpsS, go_sem, recoverD, hu, hta, Try.ntmps98, Exit.thenS]
  apply wpS_seq
  apply wpS_region
  simp [wpOpsS, go_sem, Exit.thenS, Array.replicate]
  refine wpS_cond (t := true) (by simp [Act.eval]) ?_
  simp only [if_true]
  apply wpS_region
  simp [wpOpsS, go_sem, k0, k1, k2, k3, bodyPostS, results, Try.results98]

set_option maxRecDepth 100000 in
theorem catchS_idle (p : Nat) (w : World) :
    CallsD Try.prog 98 #[.pointer (some ⟨p, 0, none⟩)] .returning w fun e u' w' => e = .returned (.tuple #[]) ∧ u' = .returning ∧ w' = w.alloc (.cells #[.int .i64 0, .int .i64 0] 65) := by
  have hta : ∀ w : World, (Instr.typeAssert .nilIface 20 65 true).run Try.prog w = .ok (.tuple #[.agg #[.int .i64 0, .int .i64 0], .bool false]) w := fun _ => by kernel_rfl
  refine callsD_of_wpS Try.func98 rfl fun c₀ cs hu => ?_
  apply wpS_seq
  apply wpS_region
  simp [wpOpsS, go_sem, recoverD, hu, hta, Try.ntmps98, Exit.thenS]
  apply wpS_seq
  apply wpS_region
  simp [wpOpsS, go_sem, Exit.thenS, Array.replicate]
  refine wpS_cond (t := false) (by simp [Act.eval]) ?_
  simp only [Bool.false_eq_true, if_false]
  refine wpS_of_wp (wp_skip ?_)
  cases c₀
  simp_all [bodyPostS, results, Try.results98]

/-- What caught answers of a scene. -/
def CgtOut (w : World) (R : Nat) (bs : List Int) (e : Ending) (w' : World) : Prop :=
  ∃ a1 a2 a3 c1 c2 c3 l1 h1 l2 h2 l3 h3, e = .returned (.tuple #[.agg #[.slice a1 (decN bs 0) c1, .slice a2 (decN bs 1) c2, .slice a3 (decN bs 2) c3], .agg #[.int .i64 (faultF bs).1, .int .i64 (faultF bs).2]]) ∧
    ScDj w' w.heap.size w'.heap.size a1 a2 a3 (decN bs 0) (decN bs 1) (decN bs 2) (decZ1 bs) (decZ2 bs) (decZ3 bs) l1 h1 l2 h2 l3 h3 ∧ Aside R w w'

set_option maxRecDepth 100000 in
set_option maxHeartbeats 1000000 in
theorem caughtS_any (R : Nat) (bs : List Int) (w : World) (hlt : R < w.heap.size)
    (hread : Calls Try.prog 69 #[.pointer (some ⟨R, 0, none⟩)] ((w.alloc (.cells #[.slice none 0 0, .slice none 0 0, .slice none 0 0] 51)).alloc (.cells #[.int .i64 0, .int .i64 0] 65)) fun e w' => ScnOut ((w.alloc (.cells #[.slice none 0 0, .slice none 0 0, .slice none 0 0] 51)).alloc (.cells #[.int .i64 0, .int .i64 0] 65)) R bs e w') :
    Calls Try.prog 68 #[.func (Fn.func 69) #[.pointer (some ⟨R, 0, none⟩)] #[]] w fun e w' => CgtOut w R bs e w' := by
  have HH := hread
  have hmf : ∀ (fn : Fn) (first cap : Array Value) (w : World), (Instr.makeFunc fn first cap).run Try.prog w = .ok (.func fn first cap) w := fun _ _ _ _ => rfl
  have FX : Hid (∀ V, Aside R ((w.alloc (.cells #[.slice none 0 0, .slice none 0 0, .slice none 0 0] 51)).alloc (.cells #[.int .i64 0, .int .i64 0] 65)) V → V.cell? ⟨w.heap.size, 0, none⟩ = some (.slice none 0 0) ∧ V.cell? ⟨w.heap.size, 1, none⟩ = some (.slice none 0 0) ∧ V.cell? ⟨w.heap.size, 2, none⟩ = some (.slice none 0 0) ∧ V.cell? ⟨w.heap.size + 1, 0, none⟩ = some (.int .i64 0) ∧ V.cell? ⟨w.heap.size + 1, 1, none⟩ = some (.int .i64 0) ∧ V.frozen? ⟨w.heap.size, 0, none⟩ = false ∧ V.frozen? ⟨w.heap.size, 1, none⟩ = false ∧ V.frozen? ⟨w.heap.size, 2, none⟩ = false ∧ V.frozen? ⟨w.heap.size + 1, 0, none⟩ = false ∧ V.frozen? ⟨w.heap.size + 1, 1, none⟩ = false ∧ w.heap.size + 2 ≤ V.heap.size) := by
    intro V ha
    have hs := ha.size
    simp at hs
    have hne : ∀ k, w.heap.size ≤ k → k ≠ R := by intro k hk; omega
    refine ⟨?_, ?_, ?_, ?_, ?_, ?_, ?_, ?_, ?_, ?_, by omega⟩
    · rw [ha.cell (p := ⟨w.heap.size, 0, none⟩) (by simp; omega) (hne _ (Nat.le_refl _))]; simp [go_sem]
    · rw [ha.cell (p := ⟨w.heap.size, 1, none⟩) (by simp; omega) (hne _ (Nat.le_refl _))]; simp [go_sem]
    · rw [ha.cell (p := ⟨w.heap.size, 2, none⟩) (by simp; omega) (hne _ (Nat.le_refl _))]; simp [go_sem]
    · rw [ha.cell (p := ⟨w.heap.size + 1, 0, none⟩) (by simp) (hne _ (Nat.le_succ _))]; simp [go_sem]
    · rw [ha.cell (p := ⟨w.heap.size + 1, 1, none⟩) (by simp) (hne _ (Nat.le_succ _))]; simp [go_sem]
    · rw [ha.frozen (p := ⟨w.heap.size, 0, none⟩) (by simp; omega) (hne _ (Nat.le_refl _))]; simp [go_sem]
    · rw [ha.frozen (p := ⟨w.heap.size, 1, none⟩) (by simp; omega) (hne _ (Nat.le_refl _))]; simp [go_sem]
    · rw [ha.frozen (p := ⟨w.heap.size, 2, none⟩) (by simp; omega) (hne _ (Nat.le_refl _))]; simp [go_sem]
    · rw [ha.frozen (p := ⟨w.heap.size + 1, 0, none⟩) (by simp) (hne _ (Nat.le_succ _))]; simp [go_sem]
    · rw [ha.frozen (p := ⟨w.heap.size + 1, 1, none⟩) (by simp) (hne _ (Nat.le_succ _))]; simp [go_sem]
  clear hread
  go_enter_defers Try.func68, Try.ntmps68
  go_wp2_with fail
  refine HH.mono ?_
  clear HH
  rintro e V (⟨hf, a1, a2, a3, c1, c2, c3, l1, h1, l2, h2, l3, h3, rfl, hs, has⟩ | ⟨hf, rfl, has⟩)
  · have B1 := FX.out V has
    obtain ⟨x0, x1, x2, y0, y1, f0, f1, f2, f3, f4, hz⟩ := B1
    go_wp2
    refine leaves_cons (f := 98) (args := #[.pointer (some ⟨w.heap.size + 1, 0, none⟩)]) (by simp) (by simp [go_sem]) ?_
    refine (catchS_idle (w.heap.size + 1) _).mono ?_
    rintro e u' w'' ⟨rfl, rfl, rfl⟩
    obtain ⟨U, hU⟩ : ∃ U, U = ((((V.setCell ⟨w.heap.size, 0, none⟩ (.slice a1 (decN bs 0) c1)).setCell ⟨w.heap.size, 1, none⟩ (.slice a2 (decN bs 1) c2)).setCell ⟨w.heap.size, 2, none⟩ (.slice a3 (decN bs 2) c3)).setCell ⟨w.heap.size + 1, 0, none⟩ (.int .i64 0)).setCell ⟨w.heap.size + 1, 1, none⟩ (.int .i64 0) := ⟨_, rfl⟩
    rw [← hU]
    have hUz : U.heap.size = V.heap.size := by rw [hU]; simp
    have key : ∀ j k, k < V.heap.size → ∀ o, (U.alloc o).cell? ⟨k, j, none⟩ = U.cell? ⟨k, j, none⟩ := fun j k hk o => (bcell (bel0 U o)).1 _ _ (by omega)
    have u0 : U.cell? ⟨w.heap.size, 0, none⟩ = some (.slice a1 (decN bs 0) c1) := by rw [hU]; simp [go_sem, x0]
    have u1 : U.cell? ⟨w.heap.size, 1, none⟩ = some (.slice a2 (decN bs 1) c2) := by rw [hU]; simp [go_sem, x1]
    have u2 : U.cell? ⟨w.heap.size, 2, none⟩ = some (.slice a3 (decN bs 2) c3) := by rw [hU]; simp [go_sem, x2]
    have u3 : U.cell? ⟨w.heap.size + 1, 0, none⟩ = some (.int .i64 0) := by rw [hU]; simp [go_sem, y0]
    have u4 : U.cell? ⟨w.heap.size + 1, 1, none⟩ = some (.int .i64 0) := by rw [hU]; simp [go_sem, y1]
    have k0 := fun o => (key 0 w.heap.size (by omega) o).trans u0
    have k1 := fun o => (key 1 w.heap.size (by omega) o).trans u1
    have k2 := fun o => (key 2 w.heap.size (by omega) o).trans u2
    have k3 := fun o => (key 0 (w.heap.size + 1) (by omega) o).trans u3
    have k4 := fun o => (key 1 (w.heap.size + 1) (by omega) o).trans u4
    refine ⟨.tuple #[.agg #[.slice a1 (decN bs 0) c1, .slice a2 (decN bs 1) c2, .slice a3 (decN bs 2) c3], .agg #[.int .i64 0, .int .i64 0]], by simp [results, Try.results68, go_sem, k0, k1, k2, k3, k4], ?_⟩
    have row : ∀ {lo hi : Nat} {a : Option Addr} {zs : List Int}, RowIn .u32 V lo hi a zs → w.heap.size + 1 < lo → RowIn .u32 U lo hi a zs := by
      intro lo hi a zs hr hl
      rw [hU]
      exact rowIn_aside (rowIn_aside (rowIn_aside (rowIn_aside (rowIn_aside hr ((Aside.refl w.heap.size _).set 0 _) (by omega)) ((Aside.refl w.heap.size _).set 1 _) (by omega)) ((Aside.refl w.heap.size _).set 2 _) (by omega)) ((Aside.refl (w.heap.size + 1) _).set 0 _) hl) ((Aside.refl (w.heap.size + 1) _).set 1 _) hl
    have asU : Aside R w U := by
      rw [hU]
      exact (((((Aside.of (bel2 _ _ _)).trans has).setHigh (p := ⟨w.heap.size, 0, none⟩) (Nat.le_refl _) _).setHigh (p := ⟨w.heap.size, 1, none⟩) (Nat.le_refl _) _).setHigh (p := ⟨w.heap.size, 2, none⟩) (Nat.le_refl _) _).setHigh (p := ⟨w.heap.size + 1, 0, none⟩) (Nat.le_succ _) _ |>.setHigh (p := ⟨w.heap.size + 1, 1, none⟩) (Nat.le_succ _) _
    have g1 := hs.i1
    have g2 := hs.i2
    have g3 := hs.i3
    simp at g1 g2 g3
    have hsU : ScDj U w.heap.size U.heap.size a1 a2 a3 (decN bs 0) (decN bs 1) (decN bs 2) (decZ1 bs) (decZ2 bs) (decZ3 bs) l1 h1 l2 h2 l3 h3 :=
      ⟨hs.e1, hs.e2, hs.e3, ⟨by omega, by omega⟩, ⟨by omega, by omega⟩, ⟨by omega, by omega⟩, hs.d12, hs.d13, hs.d23, Nat.le_refl _, row hs.r1 (by omega), row hs.r2 (by omega), row hs.r3 (by omega)⟩
    have hf2 := fault_zero hf
    refine ⟨a1, a2, a3, c1, c2, c3, l1, h1, l2, h2, l3, h3, by rw [hf, hf2], ?_, asU.trans (Aside.of (bel0 _ _))⟩
    have hL := hsU.later (bel0 U (.cells #[.int .i64 0, .int .i64 0] 65))
    exact ⟨hL.e1, hL.e2, hL.e3, ⟨hL.i1.1, by simp; have := hL.i1.2; omega⟩, ⟨hL.i2.1, by simp; have := hL.i2.2; omega⟩, ⟨hL.i3.1, by simp; have := hL.i3.2; omega⟩, hL.d12, hL.d13, hL.d23, Nat.le_refl _, hL.r1, hL.r2, hL.r3⟩
  · have B1 := FX.out V has
    obtain ⟨x0, x1, x2, y0, y1, f0, f1, f2, f3, f4, hz⟩ := B1
    refine leaves_cons (f := 98) (args := #[.pointer (some ⟨w.heap.size + 1, 0, none⟩)]) (by simp) (by simp [go_sem]) ?_
    refine (catchS_panicking (w.heap.size + 1) _ _ 0 0 [] V (by omega) y0 y1 f3 f4).mono ?_
    rintro e u' w'' ⟨rfl, rfl, rfl⟩
    have q0 := fun o => ((bcell (bel0 V o)).1 w.heap.size 0 (by omega)).trans x0
    have q1 := fun o => ((bcell (bel0 V o)).1 w.heap.size 1 (by omega)).trans x1
    have q2 := fun o => ((bcell (bel0 V o)).1 w.heap.size 2 (by omega)).trans x2
    have q3 := fun o => ((bcell (bel0 V o)).1 (w.heap.size + 1) 0 (by omega)).trans y0
    have q4 := fun o => ((bcell (bel0 V o)).1 (w.heap.size + 1) 1 (by omega)).trans y1
    refine ⟨.tuple #[.agg #[.slice none 0 0, .slice none 0 0, .slice none 0 0], .agg #[.int .i64 (faultF bs).1, .int .i64 (faultF bs).2]], by simp [results, Try.results68, go_sem, q0, q1, q2, q3, q4], ?_⟩
    have d0 : ∀ k, decN bs k = 0 := fun k => by unfold decN; rw [if_neg hf]
    have z1 : decZ1 bs = [] := by unfold decZ1; rw [d0]; rfl
    have z2 : decZ2 bs = [] := by unfold decZ2; rw [d0, d0]; rfl
    have z3 : decZ3 bs = [] := by unfold decZ3; rw [d0, d0, d0]; rfl
    refine ⟨none, none, none, 0, 0, 0, w.heap.size, w.heap.size, w.heap.size, w.heap.size, w.heap.size, w.heap.size, by rw [d0, d0, d0], ?_, ?_⟩
    · rw [d0, d0, d0, z1, z2, z3]
      exact ⟨rfl, rfl, rfl, ⟨Nat.le_refl _, by simp; omega⟩, ⟨Nat.le_refl _, by simp; omega⟩, ⟨Nat.le_refl _, by simp; omega⟩, .inl (Nat.le_refl _), .inl (Nat.le_refl _), .inl (Nat.le_refl _), Nat.le_refl _, .inl rfl, .inl rfl, .inl rfl⟩
    · exact (((Aside.of (bel2 _ _ _)).trans has).trans (Aside.of (bel0 _ _)) |>.setHigh (p := ⟨w.heap.size + 1, 0, none⟩) (Nat.le_succ _) _).setHigh (p := ⟨w.heap.size + 1, 1, none⟩) (Nat.le_succ _) _

end Go.Proofs.Ytcjdnomhnlbmbaa

/-
  The program's DecodeScene.
-/
namespace Go.Proofs.Ytcjdnomhnlbmbaa
open Go.RowKit

theorem fault_nil : faultF [] = (5, 0) := rfl

/-- What scene answers or throws, whatever the bytes. -/
theorem scene_all (R : Nat) (a : Option Addr) (c : Nat) (bs : List Int) (w : World) (hl : bs.length ≤ 1048576) (hc : bs.length ≤ c) (hu : U8 bs) (hz : RowAt .u8 w a bs) (hR : R < w.heap.size) (hap : ∀ b off, a = some ⟨b, off, none⟩ → bs ≠ [] → b ≠ R) (c0 : w.cell? ⟨R, 0, none⟩ = some (.slice a bs.length c)) (c1 : w.cell? ⟨R, 1, none⟩ = some (.int .i64 0)) (fr : w.frozen? ⟨R, 1, none⟩ = false) :
    Calls Try.prog 69 #[.pointer (some ⟨R, 0, none⟩)] w fun e w' => ScnOut w R bs e w' := by
  by_cases hb : bs = []
  · subst hb
    refine (scene_none R a c w c0 c1 hR).mono ?_
    intro e w' h
    exact .inr ⟨by rw [fault_nil]; decide, h⟩
  · obtain ⟨b, off, rfl, h2, h3⟩ := hz.resolve_left hb
    exact scene_any R b off c bs w hu h2 ⟨c0, c1, fr, hR, .inr ⟨b, off, rfl, h2, h3⟩, hap b off rfl hb, Nat.zero_le _, hc, hl⟩

set_option maxRecDepth 100000 in
set_option maxHeartbeats 1000000 in
theorem decI_any : DecSays 27 := by
  intro a c bs w hl hc hu hz
  have HU : Hid (U8 bs) := hu
  have HZ : Hid (RowAt .u8 w a bs) := hz
  have hmf : ∀ (fn : Fn) (first cap : Array Value) (w : World), (Instr.makeFunc fn first cap).run Try.prog w = .ok (.func fn first cap) w := fun _ _ _ _ => rfl
  have HAP : Hid (∀ b off, a = some ⟨b, off, none⟩ → bs ≠ [] → b ≠ w.heap.size + 1) := by
    intro b off e1 e2
    obtain ⟨b', off', e3, e4, _⟩ := hz.resolve_left e2
    rw [e1] at e3
    cases e3
    omega
  clear hu hz
  go_enter Try.func27, Try.ntmps27
  go_wp2_with fail
  refine (caughtS_any (w.heap.size + 1) bs _ (by simp) ?_).mono ?_
  · refine scene_all (w.heap.size + 1) a c bs _ hl hc HU.out (HZ.out.later ?_) (by simp <;> omega) HAP.out (by simp [go_sem]) (by simp [go_sem]) (by simp [go_sem])
    exact ((bel2 _ _ _).alloc (by simp; omega) _).alloc (by simp; omega) _
  rintro e V ⟨a1, a2, a3, c1, c2, c3, l1, h1, l2, h2, l3, h3, rfl, hs, has⟩
  have hsz := has.size
  simp at hsz
  obtain ⟨W, hW⟩ : ∃ W, W = (V.alloc (.cells #[.slice a1 (decN bs 0) c1, .slice a2 (decN bs 1) c2, .slice a3 (decN bs 2) c3] 51)).alloc (.cells #[.int .i64 (faultF bs).1, .int .i64 (faultF bs).2] 65) := ⟨_, rfl⟩
  have hbW : Below V.heap.size V W := by rw [hW]; exact bel2 _ _ _
  have key : ∀ j, W.cell? ⟨w.heap.size, j, none⟩ = (w.alloc (.cells #[.slice none 0 0, .slice none 0 0, .slice none 0 0] 51)).cell? ⟨w.heap.size, j, none⟩ ∧ W.frozen? ⟨w.heap.size, j, none⟩ = (w.alloc (.cells #[.slice none 0 0, .slice none 0 0, .slice none 0 0] 51)).frozen? ⟨w.heap.size, j, none⟩ := by
    intro j
    exact ⟨(((bcell hbW).1 _ _ (by omega)).trans (has.cell (p := ⟨w.heap.size, j, none⟩) (by simp; omega) (by simp))).trans ((bcell (bel0 _ _)).1 _ _ (by simp)), (((bcell hbW).2 _ _ (by omega)).trans (has.frozen (p := ⟨w.heap.size, j, none⟩) (by simp; omega) (by simp))).trans ((bcell (bel0 _ _)).2 _ _ (by simp))⟩
  have q0 : W.cell? ⟨w.heap.size, 0, none⟩ = some (.slice none 0 0) := by rw [(key 0).1]; simp [go_sem]
  have q1 : W.cell? ⟨w.heap.size, 1, none⟩ = some (.slice none 0 0) := by rw [(key 1).1]; simp [go_sem]
  have q2 : W.cell? ⟨w.heap.size, 2, none⟩ = some (.slice none 0 0) := by rw [(key 2).1]; simp [go_sem]
  have f0 : W.frozen? ⟨w.heap.size, 0, none⟩ = false := by rw [(key 0).2]; simp [go_sem]
  have f1 : W.frozen? ⟨w.heap.size, 1, none⟩ = false := by rw [(key 1).2]; simp [go_sem]
  have f2 : W.frozen? ⟨w.heap.size, 2, none⟩ = false := by rw [(key 2).2]; simp [go_sem]
  have p0 : W.cell? ⟨V.heap.size, 0, none⟩ = some (.slice a1 (decN bs 0) c1) := by rw [hW]; simp [go_sem]
  have p1 : W.cell? ⟨V.heap.size, 1, none⟩ = some (.slice a2 (decN bs 1) c2) := by rw [hW]; simp [go_sem]
  have p2 : W.cell? ⟨V.heap.size, 2, none⟩ = some (.slice a3 (decN bs 2) c3) := by rw [hW]; simp [go_sem]
  have p3 : W.cell? ⟨V.heap.size + 1, 0, none⟩ = some (.int .i64 (faultF bs).1) := by rw [hW]; simp [go_sem]
  have p4 : W.cell? ⟨V.heap.size + 1, 1, none⟩ = some (.int .i64 (faultF bs).2) := by rw [hW]; simp [go_sem]
  have hzW : W.heap.size = V.heap.size + 2 := by rw [hW]; simp
  have HWs : Hid (∀ U, Aside w.heap.size W U → U.heap.size = W.heap.size → DecOut w bs (.returned (.tuple #[.agg #[.slice a1 (decN bs 0) c1, .slice a2 (decN bs 1) c2, .slice a3 (decN bs 2) c3], .int .i64 (faultF bs).1, .int .i64 (faultF bs).2])) U) := by
    intro U hU hUz
    have g1 := hs.i1
    have g2 := hs.i2
    have g3 := hs.i3
    simp at g1 g2 g3
    refine ⟨a1, a2, a3, c1, c2, c3, l1, h1, l2, h2, l3, h3, rfl, ?_, ?_⟩
    · exact ⟨hs.e1, hs.e2, hs.e3, ⟨by omega, by omega⟩, ⟨by omega, by omega⟩, ⟨by omega, by omega⟩, hs.d12, hs.d13, hs.d23, Nat.le_refl _, rowIn_aside (hs.r1.later hbW) hU (by omega), rowIn_aside (hs.r2.later hbW) hU (by omega), rowIn_aside (hs.r3.later hbW) hU (by omega)⟩
    · have hb1 : Below w.heap.size w V := (bel2 _ _ _).trans (has.below (Nat.le_succ _) (by simp; omega))
      exact (hb1.trans (hbW.mono (by omega))).trans (hU.below (Nat.le_refl _) (by omega))
  clear hs has key hbW
  go_wp2
  rw [← hW]
  clear hW
  go_region
  all_goals go_wp2
  all_goals refine bodyPost_ret (v := .tuple #[.agg #[.slice a1 (decN bs 0) c1, .slice a2 (decN bs 1) c2, .slice a3 (decN bs 2) c3], .int .i64 (faultF bs).1, .int .i64 (faultF bs).2]) (by simp [results, Try.results27, go_sem, q0, q1, q2]) rfl ?_
  all_goals exact HWs.out _ (((((Aside.refl w.heap.size W).set 0 _).set 1 _).set 2 _).high (Below.drew (Below.refl W.heap.size _)) (Nat.le_refl _)) (by simp)

end Go.Proofs.Ytcjdnomhnlbmbaa
