/-
  Marks in bytes.
-/
import Derived.Test.YtfhfepphccaadabOpenQBytes
import Derived.Test.YtfhfepphccaadabSpESpF
import Derived.Test.YtfhfepphccaadabSpVSpWLawVsScM
namespace Go.Proofs.Ytfhfepphccaadab
open Go.RowKit

def marksY (k : Int) (n : Nat) : List Int := (marksL k n).map (· % 256)
theorem marksY_length (n : Nat) (k : Int) : (marksY k n).length = n := by rw [marksY, List.length_map, marks_length]
theorem marksY_get (n : Nat) (k : Int) (j : Nat) (h : j < n) : (marksY k n).getD j 0 = (k + j) % 256 := by
  have := marks_get n k j h
  rw [List.getD_eq_getElem?_getD, List.getElem?_eq_getElem (by rw [marks_length]; exact h)] at this
  rw [marksY, List.getD_eq_getElem?_getD, List.getElem?_map, List.getElem?_eq_getElem (by rw [marks_length]; exact h)]
  simp at this ⊢
  rw [this]

set_option maxHeartbeats 1000000 in
theorem markY2_any (a : Option Addr) (c : Nat) (zs : List Int) (k0 : Int) (w : World) (lo hi : Nat) (hn : zs.length ≤ 1048576) (h0 : 1 ≤ k0) (h1 : k0 ≤ 2097152) (hz : RowIn .u8 w lo hi a zs) :
    Calls Try.prog 17 #[.slice a zs.length c, .int .i64 k0] w fun e w' => e = .returned (.int .i64 (k0 + zs.length)) ∧ RowIn .u8 w' lo hi a (marksY k0 zs.length) ∧ Within lo hi w w' := by
  rcases hz with hz | ⟨b, off, rfl, hlo, hhi, hb, hc, hf⟩
  · subst hz
    go_enter Try.func17, Try.ntmps17
    go_wp2
    go_loop [1, 5] (fun k i => k = .int .i64 k0 ∧ i = .int .i64 0) (fun _ _ => 0)
    case atStart => exact ⟨rfl, rfl⟩
    case round =>
      obtain ⟨rfl, rfl⟩ := hrel
      go_wp2
      go_ret
      exact ⟨ret_intM (by simp), .inl rfl, Within.refl _ _ _⟩
  · go_enter Try.func17, Try.ntmps17
    go_wp2
    go_loopw [1, 5] (fun k i wr => ∃ n : Nat, n ≤ zs.length ∧ i = .int .i64 n ∧ k = .int .i64 (k0 + n) ∧ (∀ j, j < n → wr.cell? ⟨b, off + j, none⟩ = some (.int .u8 ((k0 + j) % 256))) ∧ (∀ j, j < zs.length → ∃ v, wr.cell? ⟨b, off + j, none⟩ = some v) ∧ (∀ j, j < zs.length → wr.frozen? ⟨b, off + j, none⟩ = false) ∧ Within lo hi w wr) (fun _ i _ => zs.length - (intOf i).toNat)
    case atStart => exact ⟨0, Nat.zero_le _, rfl, by simp, fun j hj => absurd hj (by omega), fun j hj => ⟨_, hc j hj⟩, hf, Within.refl _ _ _⟩
    case round =>
      obtain ⟨n, hn', rfl, rfl, hdone, hall, hfz, hwi⟩ := hrel
      by_cases hlt : n < zs.length
      · obtain ⟨v, hv⟩ := hall n hlt
        have hv2 := hfz n hlt
        have HD := hdone
        have HS : Hid ((∀ j, j < n + 1 → (wr.setCell ⟨b, off + n, none⟩ (.int .u8 ((k0 + n) % 256))).cell? ⟨b, off + j, none⟩ = some (.int .u8 ((k0 + j) % 256))) ∧ (∀ j, j < zs.length → ∃ v, (wr.setCell ⟨b, off + n, none⟩ (.int .u8 ((k0 + n) % 256))).cell? ⟨b, off + j, none⟩ = some v) ∧ (∀ j, j < zs.length → (wr.setCell ⟨b, off + n, none⟩ (.int .u8 ((k0 + n) % 256))).frozen? ⟨b, off + j, none⟩ = false) ∧ Within lo hi w (wr.setCell ⟨b, off + n, none⟩ (.int .u8 ((k0 + n) % 256)))) := by
          refine ⟨fun j hj => ?_, fun j hj => ?_, fun j hj => ?_, hwi.setCell hlo hhi _⟩
          · by_cases e : j = n
            · subst e; exact World.cell?_setCell_same _ _ _ hv
            · rw [World.cell?_setCell_other _ _ _ _ (by intro hh; apply e; have := congrArg Addr.off hh; simp at this; omega)]; exact hdone j (by omega)
          · by_cases e : j = n
            · subst e; exact ⟨_, World.cell?_setCell_same _ _ _ hv⟩
            · rw [World.cell?_setCell_other _ _ _ _ (by intro hh; apply e; have := congrArg Addr.off hh; simp at this; omega)]; exact hall j hj
          · rw [World.frozen?_setCell]; exact hfz j hj
        clear hdone hall hfz hwi HD hc hf
        go_wp2
        go_roundw
        case rel => exact ⟨n + 1, by omega, by go_num, by go_num, HS.out.1, HS.out.2⟩
        case measure => simp [intOf]; omega
      · have hnn : n = zs.length := by omega
        subst hnn
        have HR : Hid (RowIn .u8 wr lo hi (some ⟨b, off, none⟩) (marksY k0 zs.length)) := by
          refine .inr ⟨b, off, rfl, hlo, hhi, by rw [hwi.size]; exact hb, fun j hj => ?_, fun j hj => ?_⟩
          · rw [marksY_length] at hj
            rw [marksY_get _ _ _ hj]; exact hdone j hj
          · rw [marksY_length] at hj; exact hfz j hj
        have HW : Hid (Within lo hi w wr) := hwi
        clear hdone hall hfz hc hf hwi
        go_wp2
        go_ret
        exact ⟨rfl, HR.out, HW.out⟩

set_option maxHeartbeats 1000000 in
theorem heldY_any (a : Option Addr) (c : Nat) (n : Nat) (k0 : Int) (w : World) (hn : n ≤ 1048576) (h0 : 1 ≤ k0) (h1 : k0 ≤ 2097152) (hz : RowAt .u8 w a (marksY k0 n)) :
    Calls Try.prog 18 #[.slice a n c, .int .i64 k0] w fun e w' => e = .returned (.int .i64 (k0 + n)) ∧ w' = w := by
  rcases hz with hz | ⟨b, off, rfl, hb, hc⟩
  · have : n = 0 := by rw [← marksY_length n k0, hz]; rfl
    subst this
    go_enter Try.func18, Try.ntmps18
    go_wp2
    go_loop [1, 5] (fun k i => k = .int .i64 k0 ∧ i = .int .i64 0) (fun _ _ => 0)
    case atStart => exact ⟨rfl, rfl⟩
    case round =>
      obtain ⟨rfl, rfl⟩ := hrel
      go_wp2
      go_ret
      exact ⟨ret_intM (by simp), rfl⟩
  · go_enter Try.func18, Try.ntmps18
    go_wp2
    go_loop [1, 5] (fun k i => ∃ m : Nat, m ≤ n ∧ i = .int .i64 m ∧ k = .int .i64 (k0 + m)) (fun _ i => n - (intOf i).toNat)
    case atStart => exact ⟨0, Nat.zero_le _, rfl, by simp⟩
    case round =>
      obtain ⟨m, hm, rfl, rfl⟩ := hrel
      by_cases hlt : m < n
      · have g1 : w.cell? ⟨b, off + m, none⟩ = some (.int .u8 ((k0 + m) % 256)) := by rw [hc m (by rw [marksY_length]; exact hlt), marksY_get _ _ _ hlt]
        have hne : ((k0 + (m : Int)) % 256 != (k0 + (m : Int)) % 256) = false := by simp
        clear hc
        go_wp2
        go_round
        case rel => exact ⟨m + 1, by omega, by go_num, by go_num⟩
        case measure => simp [intOf]; omega
      · have hmn : m = n := by omega
        subst hmn
        go_wp2
        go_ret
        exact ⟨rfl, rfl⟩

end Go.Proofs.Ytfhfepphccaadab

/-
  The law of EncodeScene, for any program whose EncodeScene answers the bytes in new memory.
-/
namespace Go.Proofs.Ytfhfepphccaadab
open Go.RowKit

/-- A function that answers a list of bytes in new memory. -/
def RowOut (w : World) (ys : List Int) (e : Ending) (w' : World) : Prop := ∃ a c, e = .returned (.slice a ys.length c) ∧ RowNew .u8 w' w.heap.size a ys ∧ Below w.heap.size w w'

theorem NewY.out {w w' : World} {ys : List Int} {e : Ending} (h : NewY w ys e w') : RowOut w ys e w' := by
  obtain ⟨v, rfl, ho, hb⟩ := h
  obtain ⟨a, c, rfl, hr⟩ := ho.row
  exact ⟨a, c, rfl, hr, hb⟩

/-- The function answers a scene's bytes. -/
def EncSays (f : FuncId) : Prop := ∀ (a1 a2 a3 : Option Addr) (n1 n2 n3 c1 c2 c3 : Nat) (z1 z2 z3 : List Int) (w : World), n1 + n2 + n3 ≤ 1048576 → ScAt w a1 a2 a3 n1 n2 n3 z1 z2 z3 → U32 z1 → U32 z2 → U32 z3 →
  Calls Try.prog f #[.agg #[.slice a1 n1 c1, .slice a2 n2 c2, .slice a3 n3 c3]] w fun e w' => RowOut w (encV n1 n2 n3 z1 z2 z3) e w'

theorem encV_length (n1 n2 n3 : Nat) (z1 z2 z3 : List Int) (h1 : z1.length = n1 * 9) (h2 : z2.length = n2 * 6) (h3 : z3.length = n3 * 3) : (encV n1 n2 n3 z1 z2 z3).length ≤ 10000 := by
  cases hv : validSc n1 n2 n3 z1 z2 z3
  · rw [encV_bad hv]; simp
  · rw [encV_ok hv]
    unfold validSc at hv
    simp only [Bool.and_eq_true, decide_eq_true_eq] at hv
    have q1 := hv.1.1.1.1.1
    have q2 := hv.1.1.1.2
    have q3 := hv.1.1.2
    unfold encSc
    simp only [List.length_append, flatB_length, headB_length]
    omega

theorem RowIn.both {k : IntKind} {w u w' : World} {lo hi lo' hi' : Nat} {a : Option Addr} {zs : List Int} (h : RowIn k w lo hi a zs) (hb : Below w.heap.size w u) (hw : Within lo' hi' u w') (hd : hi ≤ lo' ∨ hi' ≤ lo) : RowIn k w' lo hi a zs := (h.later hb).apart hw hd

end Go.Proofs.Ytfhfepphccaadab
