/-
  The model's BigParse, whole.
-/
import Derived.Test.YtlbegmepmeimkaaSpecPa
import Derived.Test.YtlbegmepmeimkaaSpecPb
namespace Go.Proofs.Ytlbegmepmeimkaa
open Go.RowKit

set_option maxHeartbeats 2000000 in
theorem parseS_none (a : Option Addr) (c : Nat) (w : World) :
    Calls Try.prog 25 #[.slice a 0 c] w fun e w' => OutQ w [] e w' := by
  have HRP : Hid (ResP [] false [] 3) := .inl ⟨rfl, rfl, rfl, rfl⟩
  go_enter Try.func25, Try.ntmps25
  go_wp2
  go_loop [6] (fun i => i = .int .i64 0) (fun _ => 0)
  case atStart => rfl
  case round =>
    subst hrel
    go_wp2
    refine bodyPost_ret (v := .tuple #[.agg #[.bool false, .slice none 0 0], .int .i64 3]) (by simp [results, Try.results25, go_sem]) rfl ?_
    exact ⟨false, [], 3, none, 0, rfl, HRP.out, .inl rfl, .inl rfl, bel0 _ _⟩

set_option maxHeartbeats 2000000 in
theorem parseS_sign (b off : Nat) (t0 : Int) (w : World) (hb : b < w.heap.size) (g0 : w.cell? ⟨b, off, none⟩ = some (.int .u8 t0)) (e45 : (t0 == 45) = true) :
    Calls Try.prog 25 #[.slice (some ⟨b, off, none⟩) 1 1] w fun e w' => OutQ w [t0] e w' := by
  have HRP : Hid (ResP [t0] false [] 3) := by
    have h45 : t0 = 45 := by simpa using e45
    subst h45
    exact .inl ⟨rfl, rfl, rfl, rfl⟩
  go_enter Try.func25, Try.ntmps25
  go_wp2
  go_loop [6] (fun i => i = .int .i64 0) (fun _ => 0)
  case atStart => rfl
  case round =>
    subst hrel
    go_wp2
    refine bodyPost_ret (v := .tuple #[.agg #[.bool false, .slice none 0 0], .int .i64 3]) (by simp [results, Try.results25, go_sem]) rfl ?_
    exact ⟨false, [], 3, none, 0, rfl, HRP.out, .inl rfl, .inl rfl, bel0 _ _⟩

theorem parseS_any (a : Option Addr) (c : Nat) (ts : List Int) (w : World) (hn : ts.length ≤ 1048576) (_hc : c ≤ maxLen) (hfit : ts.length ≤ c) (hz : RowAt .u8 w a ts) :
    Calls Try.prog 25 #[.slice a ts.length c] w fun e w' => OutQ w ts e w' := by
  by_cases h0 : ts.length = 0
  · have : ts = [] := List.length_eq_zero_iff.1 h0
    subst this
    exact parseS_none a c w
  · have hpos : 0 < ts.length := by omega
    obtain ⟨b, off, rfl, hb, hcell⟩ := hz.resolve_left (by intro e; subst e; simp at h0)
    have g0 := hcell 0 hpos
    rw [Nat.add_zero] at g0
    have hng : negB ts = (ts.getD 0 0 == 45) := by unfold negB; simp [hpos]
    cases e45 : (ts.getD 0 0 == 45)
    · exact parseS_plus b off c ts w hn hcell hpos hb _ g0 e45 (by rw [hng, e45])
    · by_cases hc1 : c = 1
      · have h1 : ts.length = 1 := by omega
        obtain ⟨t0, ht0⟩ := List.length_eq_one_iff.1 h1
        subst ht0 hc1
        exact parseS_sign b off t0 w hb (by simpa using g0) (by simpa using e45)
      · exact parseS_minus b off c ts w hn hfit hz hpos hc1 hb _ g0 e45 (by rw [hng, e45])

end Go.Proofs.Ytlbegmepmeimkaa
