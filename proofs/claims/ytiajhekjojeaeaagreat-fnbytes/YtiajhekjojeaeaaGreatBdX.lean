/-
  The law of bytes, whatever the length.
-/
import Derived.Test.YtiajhekjojeaeaaGreatBdW
namespace Go.Proofs.YtiajhekjojeaeaaGreat
open Go.RowKit

set_option maxRecDepth 100000 in
theorem lawBytes_all (a : Option Addr) (c : Nat) (bs : List Int) (w : World) (hc : bs.length ≤ c) (hm : c ≤ maxLen) (hnil : a = none → c = 0) (hr : RowAt .u8 w a bs) (hd : Dig 256 bs) :
    Calls Tryz.prog 3 #[.slice a bs.length c] w fun e w' => e = .returned (.bool true) ∧ Below w.heap.size w w' := by
  by_cases hn : bs.length ≤ 1048576
  · exact lawBytes_any a c bs w ⟨hn, hc, hm, hnil, hr, hd⟩
  · have h1 : (1048576 : Int) < bs.length := by omega
    go_enter Tryz.func3, Tryz.ntmps3
    go_wp2
    go_ret
    exact ⟨rfl, Below.refl _ _⟩

end Go.Proofs.YtiajhekjojeaeaaGreat
