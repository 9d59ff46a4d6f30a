/-
  Memory that the law itself marks: a frame for writes within known blocks; the laws' markers.
-/
import Derived.Test.YtladfpljnaippaaDoorBigs
import Derived.Test.YtladfpljnaippaaDoorWithin
namespace Go.Proofs.YtladfpljnaippaaDoor
open Go.RowKit

theorem ret_intM {k : IntKind} {a b : Int} (h : a = b) : Ending.returned (.int k a) = .returned (.int k b) := by rw [h]

/-- k, k + 1, .. : n numbers. -/
def marksL (k : Int) : Nat → List Int
  | 0 => []
  | n + 1 => k :: marksL (k + 1) n
theorem marks_length : ∀ (n : Nat) (k : Int), (marksL k n).length = n
  | 0, _ => rfl
  | n + 1, k => by simp [marksL, marks_length n]
theorem marks_get : ∀ (n : Nat) (k : Int) (j : Nat), j < n → (marksL k n).getD j 0 = k + j
  | 0, _, _, h => absurd h (by omega)
  | n + 1, k, 0, _ => by simp [marksL]
  | n + 1, k, j + 1, h => by
    have := marks_get n (k + 1) j (by omega)
    simp only [marksL, List.getD_cons_succ, this]
    omega

set_option maxHeartbeats 1000000 in
theorem markU_any (a : Option Addr) (c : Nat) (zs : List Int) (k0 : Int) (w : World) (lo hi : Nat) (hn : zs.length ≤ 1048576) (h0 : 1 ≤ k0) (h1 : k0 ≤ 2097152) (hz : RowIn .u32 w lo hi a zs) :
    Calls Tryd.prog 54 #[.slice a zs.length c, .int .i64 k0] w fun e w' => e = .returned (.int .i64 (k0 + zs.length)) ∧ RowIn .u32 w' lo hi a (marksL k0 zs.length) ∧ Within lo hi w w' := by
  rcases hz with hz | ⟨b, off, rfl, hlo, hhi, hb, hc, hf⟩
  · subst hz
    go_enter Tryd.func54, Tryd.ntmps54
    go_wp2
    go_loop [1, 5] (fun k i => k = .int .i64 k0 ∧ i = .int .i64 0) (fun _ _ => 0)
    case atStart => exact ⟨rfl, rfl⟩
    case round =>
      obtain ⟨rfl, rfl⟩ := hrel
      go_wp2
      go_ret
      exact ⟨ret_intM (by simp), .inl rfl, Within.refl _ _ _⟩
  · go_enter Tryd.func54, Tryd.ntmps54
    go_wp2
    go_loopw [1, 5] (fun k i wr => ∃ n : Nat, n ≤ zs.length ∧ i = .int .i64 n ∧ k = .int .i64 (k0 + n) ∧ (∀ j, j < n → wr.cell? ⟨b, off + j, none⟩ = some (.int .u32 (k0 + j))) ∧ (∀ j, j < zs.length → ∃ v, wr.cell? ⟨b, off + j, none⟩ = some v) ∧ (∀ j, j < zs.length → wr.frozen? ⟨b, off + j, none⟩ = false) ∧ Within lo hi w wr) (fun _ i _ => zs.length - (intOf i).toNat)
    case atStart => exact ⟨0, Nat.zero_le _, rfl, by simp, fun j hj => absurd hj (by omega), fun j hj => ⟨_, hc j hj⟩, hf, Within.refl _ _ _⟩
    case round =>
      obtain ⟨n, hn', rfl, rfl, hdone, hall, hfz, hwi⟩ := hrel
      by_cases hlt : n < zs.length
      · obtain ⟨v, hv⟩ := hall n hlt
        have hv2 := hfz n hlt
        have HD := hdone
        have HS : Hid ((∀ j, j < n + 1 → (wr.setCell ⟨b, off + n, none⟩ (.int .u32 (k0 + n))).cell? ⟨b, off + j, none⟩ = some (.int .u32 (k0 + j))) ∧ (∀ j, j < zs.length → ∃ v, (wr.setCell ⟨b, off + n, none⟩ (.int .u32 (k0 + n))).cell? ⟨b, off + j, none⟩ = some v) ∧ (∀ j, j < zs.length → (wr.setCell ⟨b, off + n, none⟩ (.int .u32 (k0 + n))).frozen? ⟨b, off + j, none⟩ = false) ∧ Within lo hi w (wr.setCell ⟨b, off + n, none⟩ (.int .u32 (k0 + n)))) := by
          refine ⟨fun j hj => ?_, fun j hj => ?_, fun j hj => ?_, hwi.setCell hlo hhi _⟩
          · by_cases e : j = n
            · subst e; exact World.cell?_setCell_same _ _ _ hv
            · rw [World.cell?_setCell_other _ _ _ _ (by intro hh; apply e; have := congrArg Addr.off hh; simp at this; omega)]; exact hdone j (by omega)
          · by_cases e : j = n
            · subst e; exact ⟨_, World.cell?_setCell_same _ _ _ hv⟩
            · rw [World.cell?_setCell_other _ _ _ _ (by intro hh; apply e; have := congrArg Addr.off hh; simp at this; omega)]; exact hall j hj
          · rw [World.frozen?_setCell]; exact hfz j hj
        clear hdone hall hfz hwi HD hc hf
        go_wp2
        go_roundw
        case rel => exact ⟨n + 1, by omega, by go_num, by go_num, HS.out.1, HS.out.2⟩
        case measure => simp [intOf]; omega
      · have hnn : n = zs.length := by omega
        subst hnn
        have HR : Hid (RowIn .u32 wr lo hi (some ⟨b, off, none⟩) (marksL k0 zs.length)) := by
          refine .inr ⟨b, off, rfl, hlo, hhi, by rw [hwi.size]; exact hb, fun j hj => ?_, fun j hj => ?_⟩
          · rw [marks_length] at hj
            rw [marks_get _ _ _ hj]; exact hdone j hj
          · rw [marks_length] at hj; exact hfz j hj
        have HW : Hid (Within lo hi w wr) := hwi
        clear hdone hall hfz hc hf hwi
        go_wp2
        go_ret
        exact ⟨rfl, HR.out, HW.out⟩

set_option maxHeartbeats 1000000 in
theorem heldU_any (a : Option Addr) (c : Nat) (n : Nat) (k0 : Int) (w : World) (hn : n ≤ 1048576) (h0 : 1 ≤ k0) (h1 : k0 ≤ 2097152) (hz : RowAt .u32 w a (marksL k0 n)) :
    Calls Tryd.prog 55 #[.slice a n c, .int .i64 k0] w fun e w' => e = .returned (.int .i64 (k0 + n)) ∧ w' = w := by
  rcases hz with hz | ⟨b, off, rfl, hb, hc⟩
  · have : n = 0 := by rw [← marks_length n k0, hz]; rfl
    subst this
    go_enter Tryd.func55, Tryd.ntmps55
    go_wp2
    go_loop [1, 5] (fun k i => k = .int .i64 k0 ∧ i = .int .i64 0) (fun _ _ => 0)
    case atStart => exact ⟨rfl, rfl⟩
    case round =>
      obtain ⟨rfl, rfl⟩ := hrel
      go_wp2
      go_ret
      exact ⟨ret_intM (by simp), rfl⟩
  · go_enter Tryd.func55, Tryd.ntmps55
    go_wp2
    go_loop [1, 5] (fun k i => ∃ m : Nat, m ≤ n ∧ i = .int .i64 m ∧ k = .int .i64 (k0 + m)) (fun _ i => n - (intOf i).toNat)
    case atStart => exact ⟨0, Nat.zero_le _, rfl, by simp⟩
    case round =>
      obtain ⟨m, hm, rfl, rfl⟩ := hrel
      by_cases hlt : m < n
      · have g1 : w.cell? ⟨b, off + m, none⟩ = some (.int .u32 (k0 + m)) := by rw [hc m (by rw [marks_length]; exact hlt), marks_get _ _ _ hlt]
        have hne : (k0 + (m : Int) != k0 + (m : Int)) = false := by simp
        clear hc
        go_wp2
        go_round
        case rel => exact ⟨m + 1, by omega, by go_num, by go_num⟩
        case measure => simp [intOf]; omega
      · have hmn : m = n := by omega
        subst hmn
        go_wp2
        go_ret
        exact ⟨rfl, rfl⟩

set_option maxHeartbeats 1000000 in
theorem markB_any (g : Bool) (a : Option Addr) (c : Nat) (zs : List Int) (k0 : Int) (w : World) (lo hi : Nat) (hn : zs.length ≤ 1048576) (h0 : 1 ≤ k0) (h1 : k0 ≤ 2097152) (hz : RowIn .u32 w lo hi a zs) :
    Calls Tryd.prog 31 #[.agg #[.bool g, .slice a zs.length c], .int .i64 k0] w fun e w' => e = .returned (.int .i64 (k0 + zs.length)) ∧ RowIn .u32 w' lo hi a (marksL k0 zs.length) ∧ ∃ w1, Below w.heap.size w w1 ∧ Within lo hi w1 w' := by
  go_enter Tryd.func31, Tryd.ntmps31
  go_wp2_with fail
  refine (markU_any a c zs k0 _ lo hi hn h0 h1 (hz.later (bel0 _ _))).mono ?_
  rintro e w1 ⟨rfl, hr, hw⟩
  have HR : Hid (RowIn .u32 w1 lo hi a (marksL k0 zs.length)) := hr
  have HW : Hid (∃ w2, Below w.heap.size w w2 ∧ Within lo hi w2 w1) := ⟨_, bel0 _ _, hw⟩
  clear hr hw hz
  go_wp2
  go_ret
  exact ⟨rfl, HR.out, HW.out⟩

set_option maxHeartbeats 1000000 in
theorem heldB_any (g : Bool) (a : Option Addr) (c : Nat) (n : Nat) (k0 : Int) (w : World) (hn : n ≤ 1048576) (h0 : 1 ≤ k0) (h1 : k0 ≤ 2097152) (hz : RowAt .u32 w a (marksL k0 n)) :
    Calls Tryd.prog 32 #[.agg #[.bool g, .slice a n c], .int .i64 k0] w fun e w' => e = .returned (.int .i64 (k0 + n)) ∧ Below w.heap.size w w' := by
  have hnn : ¬ k0 + (n : Int) < 0 := by omega
  go_enter Tryd.func32, Tryd.ntmps32
  go_wp2_with fail
  refine (heldU_any a c n k0 _ hn h0 h1 (hz.later (bel0 _ _))).mono ?_
  rintro e w1 ⟨rfl, hw⟩
  subst hw
  clear hz
  go_wp2
  go_ret
  exact ⟨rfl, bel0 _ _⟩

end Go.Proofs.YtladfpljnaippaaDoor
