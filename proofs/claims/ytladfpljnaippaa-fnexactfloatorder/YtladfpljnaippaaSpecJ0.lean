/-
  The model's signs.
-/
import Derived.Test.YtladfpljnaippaaSpecI
namespace Go.Proofs.Ytladfpljnaippaa
open Go.RowKit

theorem L1.sgn {w : World} {g : Bool} {a : Option Addr} {c : Nat} {ds : List Int} {x : Int} (h : L1 w g a c ds x) : (ds.length = 0 → x = 0) ∧ (ds.length ≠ 0 → g = true → x < 0) ∧ (ds.length ≠ 0 → g = false → 0 < x) := by
  refine ⟨fun h0 => ?_, fun h0 hg => ?_, fun h0 hg => ?_⟩
  · have : ds = [] := List.length_eq_zero_iff.1 h0
    rw [h.num, this]
    cases g <;> simp [sg, val]
  · have := val_pos (B := 65536) (by decide) h.can (fun e => h0 (by simp [e]))
    rw [h.num, hg]
    simp [sg]
    omega
  · have := val_pos (B := 65536) (by decide) h.can (fun e => h0 (by simp [e]))
    rw [h.num, hg]
    simpa [sg] using this

set_option maxHeartbeats 1000000 in
theorem sign_any (g : Bool) (a : Option Addr) (c : Nat) (ds : List Int) (x : Int) (w : World) (_hn : ds.length ≤ 1048576) (h : L1 w g a c ds x) :
    Calls Try.prog 40 #[.agg #[.bool g, .slice a ds.length c]] w fun e w' => e = .returned (.int .i64 (sgn x)) ∧ Below w.heap.size w w' := by
  obtain ⟨s1, s2, s3⟩ := h.sgn
  by_cases h0 : ds.length = 0
  · have HS : Hid (sgn x = 0) := by unfold Hid; rw [s1 h0]; rfl
    have e0 : ((ds.length : Int) == 0) = true := by rw [beq_iff_eq]; omega
    clear s1 s2 s3 h
    go_enter Try.func40, Try.ntmps40
    go_wp2
    go_ret
    exact ⟨ret_int HS.out.symm, bel0 _ _⟩
  · have e0 : ((ds.length : Int) == 0) = false := len_ne h0
    cases g with
    | true =>
      have HS : Hid (sgn x = -1) := by unfold Hid Go.Proofs.Ytladfpljnaippaa.sgn; rw [if_pos (s2 h0 rfl)]
      clear s1 s2 s3 h
      go_enter Try.func40, Try.ntmps40
      go_wp2
      go_ret
      exact ⟨ret_int HS.out.symm, bel0 _ _⟩
    | false =>
      have HS : Hid (sgn x = 1) := by
        have := s3 h0 rfl
        unfold Hid Go.Proofs.Ytladfpljnaippaa.sgn
        rw [if_neg (by omega), if_neg (by omega)]
      clear s1 s2 s3 h
      go_enter Try.func40, Try.ntmps40
      go_wp2
      go_ret
      exact ⟨ret_int HS.out.symm, bel0 _ _⟩

end Go.Proofs.Ytladfpljnaippaa
