/-
  The model's signs and order.
-/
import Derived.Test.YtlbegmepmeimkaaSpecJ0
namespace Go.Proofs.Ytlbegmepmeimkaa
open Go.RowKit


set_option maxHeartbeats 1000000 in
theorem cmpS_any (g g' : Bool) (a a' : Option Addr) (c c' : Nat) (ds es : List Int) (x y : Int) (w : World) (hn : ds.length ≤ 100000) (hn' : es.length ≤ 100000) (h : L1 w g a c ds x) (h' : L1 w g' a' c' es y) :
    Calls Try.prog 43 #[.agg #[.bool g, .slice a ds.length c], .agg #[.bool g', .slice a' es.length c']] w fun e w' => e = .returned (.int .i64 (sgn (x - y))) ∧ Below w.heap.size w w' := by
  go_enter Try.func43, Try.ntmps43
  go_wp2_with fail
  refine (sub_any g g' a a' c c' ds es x y _ hn hn' (h.later (bel2 _ _ _)) (h'.later (bel2 _ _ _))).mono ?_
  rintro e w1 ⟨g2, a2, c2, fs, rfl, hfl, hL, _, hb1⟩
  have HB : Hid (Below w.heap.size w w1) := (bel2 _ _ _).trans (hb1.mono (by simp; omega))
  clear hb1
  go_wp2_with fail
  refine (sign_any g2 a2 c2 fs (x - y) _ (by omega) hL).mono ?_
  rintro e w2 ⟨rfl, hb2⟩
  have HB2 : Hid (Below w.heap.size w w2) := HB.out.trans (hb2.mono HB.out.size)
  clear hb2 hL
  go_wp2
  go_ret
  exact ⟨rfl, HB2.out⟩

end Go.Proofs.Ytlbegmepmeimkaa
