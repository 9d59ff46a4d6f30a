/-
  Scenes whose three lists lie in blocks apart from one another, in whatever order: marked and asked again.
-/
import Derived.Test.YtcjdnomhnlbmbaaSpD1ScM
import Derived.Test.YtcjdnomhnlbmbaaBytes
namespace Go.Proofs.Ytcjdnomhnlbmbaa
open Go.RowKit

/-- Two ranges of blocks have none in common. -/
def Dj (l1 h1 l2 h2 : Nat) : Prop := h1 ≤ l2 ∨ h2 ≤ l1

structure ScDj (w : World) (lo hi : Nat) (a1 a2 a3 : Option Addr) (n1 n2 n3 : Nat) (z1 z2 z3 : List Int) (l1 h1 l2 h2 l3 h3 : Nat) : Prop where
  e1 : z1.length = n1 * 9
  e2 : z2.length = n2 * 6
  e3 : z3.length = n3 * 3
  i1 : lo ≤ l1 ∧ h1 ≤ hi
  i2 : lo ≤ l2 ∧ h2 ≤ hi
  i3 : lo ≤ l3 ∧ h3 ≤ hi
  d12 : Dj l1 h1 l2 h2
  d13 : Dj l1 h1 l3 h3
  d23 : Dj l2 h2 l3 h3
  top : hi ≤ w.heap.size
  r1 : RowIn .u32 w l1 h1 a1 z1
  r2 : RowIn .u32 w l2 h2 a2 z2
  r3 : RowIn .u32 w l3 h3 a3 z3

theorem ScDj.at {w : World} {lo hi : Nat} {a1 a2 a3 : Option Addr} {n1 n2 n3 : Nat} {z1 z2 z3 : List Int} {l1 h1 l2 h2 l3 h3 : Nat} (h : ScDj w lo hi a1 a2 a3 n1 n2 n3 z1 z2 z3 l1 h1 l2 h2 l3 h3) : ScAt w a1 a2 a3 n1 n2 n3 z1 z2 z3 :=
  ⟨h.e1, h.e2, h.e3, h.r1.row, h.r2.row, h.r3.row⟩
theorem ScDj.later {w w' : World} {lo hi : Nat} {a1 a2 a3 : Option Addr} {n1 n2 n3 : Nat} {z1 z2 z3 : List Int} {l1 h1 l2 h2 l3 h3 : Nat} (h : ScDj w lo hi a1 a2 a3 n1 n2 n3 z1 z2 z3 l1 h1 l2 h2 l3 h3) (hb : Below w.heap.size w w') : ScDj w' lo hi a1 a2 a3 n1 n2 n3 z1 z2 z3 l1 h1 l2 h2 l3 h3 :=
  ⟨h.e1, h.e2, h.e3, h.i1, h.i2, h.i3, h.d12, h.d13, h.d23, Nat.le_trans h.top hb.size, h.r1.later hb, h.r2.later hb, h.r3.later hb⟩
theorem ScDj.apart {w w' : World} {lo hi lo' hi' : Nat} {a1 a2 a3 : Option Addr} {n1 n2 n3 : Nat} {z1 z2 z3 : List Int} {l1 h1 l2 h2 l3 h3 : Nat} (h : ScDj w lo hi a1 a2 a3 n1 n2 n3 z1 z2 z3 l1 h1 l2 h2 l3 h3) (hw : Within lo' hi' w w') (hd : hi ≤ lo' ∨ hi' ≤ lo) : ScDj w' lo hi a1 a2 a3 n1 n2 n3 z1 z2 z3 l1 h1 l2 h2 l3 h3 :=
  ⟨h.e1, h.e2, h.e3, h.i1, h.i2, h.i3, h.d12, h.d13, h.d23, by rw [hw.size]; exact h.top,
    h.r1.apart hw (by have := h.i1; omega), h.r2.apart hw (by have := h.i2; omega), h.r3.apart hw (by have := h.i3; omega)⟩

/-- What markScene answers of such a scene. -/
def MkDj (w : World) (lo hi : Nat) (a1 a2 a3 : Option Addr) (n1 n2 n3 : Nat) (z1 z2 z3 : List Int) (l1 h1 l2 h2 l3 h3 : Nat) (k0 : Int) (e : Ending) (w' : World) : Prop :=
  e = .returned (.int .i64 (k0 + z1.length + z2.length + z3.length)) ∧ ScDj w' lo hi a1 a2 a3 n1 n2 n3 (marksL k0 z1.length) (marksL (k0 + z1.length) z2.length) (marksL (k0 + z1.length + z2.length) z3.length) l1 h1 l2 h2 l3 h3 ∧ ∃ u, Below w.heap.size w u ∧ Within lo hi u w'

set_option maxRecDepth 100000 in
set_option maxHeartbeats 4000000 in
theorem markDj_any (a1 a2 a3 : Option Addr) (n1 n2 n3 c1 c2 c3 : Nat) (z1 z2 z3 : List Int) (l1 h1 l2 h2 l3 h3 lo hi : Nat) (k0 : Int) (w : World) (hn : n1 + n2 + n3 ≤ 1048576) (hk0 : 1 ≤ k0) (hk1 : k0 ≤ 1048576) (hs : ScDj w lo hi a1 a2 a3 n1 n2 n3 z1 z2 z3 l1 h1 l2 h2 l3 h3) :
    Calls Try.prog 28 #[.agg #[.slice a1 n1 c1, .slice a2 n2 c2, .slice a3 n3 c3], .int .i64 k0] w fun e w' => MkDj w lo hi a1 a2 a3 n1 n2 n3 z1 z2 z3 l1 h1 l2 h2 l3 h3 k0 e w' := by
  have HSC : Hid (ScDj w lo hi a1 a2 a3 n1 n2 n3 z1 z2 z3 l1 h1 l2 h2 l3 h3) := hs
  have HT : Hid (hi ≤ w.heap.size) := hs.top
  have HL : Hid (z1.length = n1 * 9 ∧ z2.length = n2 * 6 ∧ z3.length = n3 * 3) := ⟨hs.e1, hs.e2, hs.e3⟩
  clear hs
  go_enter Try.func28, Try.ntmps28
  go_wp2_with fail
  have I0 : Hid (ScDj (w.alloc (.cells #[.slice a1 n1 c1, .slice a2 n2 c2, .slice a3 n3 c3] 51)) lo hi a1 a2 a3 n1 n2 n3 z1 z2 z3 l1 h1 l2 h2 l3 h3) := HSC.out.later (bel0 _ _)
  refine (markTriS_any a1 n1 c1 z1 k0 _ l1 h1 (by omega) hk0 (by omega) HL.out.1 I0.out.r1).mono ?_
  rintro e w1 ⟨rfl, hr1, hw1⟩
  have p1 : w1.cell? ⟨w.heap.size, 1, none⟩ = some (.slice a2 n2 c2) := by rw [hw1.cell (p := ⟨w.heap.size, 1, none⟩) (.inr (by have := I0.out.i1; have := HT.out; show h1 ≤ w.heap.size; omega))]; simp [go_sem]
  have p2 : w1.cell? ⟨w.heap.size, 2, none⟩ = some (.slice a3 n3 c3) := by rw [hw1.cell (p := ⟨w.heap.size, 2, none⟩) (.inr (by have := I0.out.i1; have := HT.out; show h1 ≤ w.heap.size; omega))]; simp [go_sem]
  have HR1 : Hid (RowIn .u32 w1 l1 h1 a1 (marksL k0 z1.length)) := hr1
  have HR2 : Hid (RowIn .u32 w1 l2 h2 a2 z2) := I0.out.r2.apart hw1 (by have := I0.out.d12; unfold Dj at this; omega)
  have HR3 : Hid (RowIn .u32 w1 l3 h3 a3 z3) := I0.out.r3.apart hw1 (by have := I0.out.d13; unfold Dj at this; omega)
  have HW1 : Hid (Within lo hi (w.alloc (.cells #[.slice a1 n1 c1, .slice a2 n2 c2, .slice a3 n3 c3] 51)) w1) := hw1.wide I0.out.i1.1 I0.out.i1.2
  clear hr1 hw1
  go_wp2_with fail
  refine (markRayS_any a2 n2 c2 z2 (k0 + z1.length) _ l2 h2 (by omega) (by omega) (by have := HL.out; omega) HL.out.2.1 HR2.out).mono ?_
  rintro e w2 ⟨rfl, hr2, hw2⟩
  replace p2 := (hw2.cell (p := ⟨w.heap.size, 2, none⟩) (.inr (by have := I0.out.i2; have := HT.out; show h2 ≤ w.heap.size; omega))).trans p2
  have HQ1 : Hid (RowIn .u32 w2 l1 h1 a1 (marksL k0 z1.length)) := HR1.out.apart hw2 (by have := I0.out.d12; unfold Dj at this; omega)
  have HQ2 : Hid (RowIn .u32 w2 l2 h2 a2 (marksL (k0 + z1.length) z2.length)) := hr2
  have HQ3 : Hid (RowIn .u32 w2 l3 h3 a3 z3) := HR3.out.apart hw2 (by have := I0.out.d23; unfold Dj at this; omega)
  have HW2 : Hid (Within lo hi (w.alloc (.cells #[.slice a1 n1 c1, .slice a2 n2 c2, .slice a3 n3 c3] 51)) w2) := HW1.out.tr (hw2.wide I0.out.i2.1 I0.out.i2.2)
  clear hr2 hw2 HR1 HR2 HR3 HW1 p1
  go_wp2_with fail
  refine (markPointS_any a3 n3 c3 z3 (k0 + z1.length + z2.length) _ l3 h3 (by omega) (by omega) (by have := HL.out; omega) HL.out.2.2 HQ3.out).mono ?_
  rintro e w3 ⟨rfl, hr3, hw3⟩
  have HW3 : Hid (Within lo hi (w.alloc (.cells #[.slice a1 n1 c1, .slice a2 n2 c2, .slice a3 n3 c3] 51)) w3) := HW2.out.tr (hw3.wide I0.out.i3.1 I0.out.i3.2)
  have HI : Hid (ScDj w3 lo hi a1 a2 a3 n1 n2 n3 (marksL k0 z1.length) (marksL (k0 + z1.length) z2.length) (marksL (k0 + z1.length + z2.length) z3.length) l1 h1 l2 h2 l3 h3) := by
    refine ⟨by rw [marks_length]; exact HL.out.1, by rw [marks_length]; exact HL.out.2.1, by rw [marks_length]; exact HL.out.2.2, I0.out.i1, I0.out.i2, I0.out.i3, I0.out.d12, I0.out.d13, I0.out.d23, ?_, HQ1.out.apart hw3 (by have := I0.out.d13; unfold Dj at this; omega), HQ2.out.apart hw3 (by have := I0.out.d23; unfold Dj at this; omega), hr3⟩
    rw [HW3.out.size]
    exact I0.out.top
  clear hr3 hw3 HQ1 HQ2 HQ3 HW2 p2 I0
  go_wp2
  go_ret
  exact ⟨ret_intM rfl, HI.out, _, bel0 _ _, HW3.out⟩

theorem BxS.within {w w' : World} {X lo hi : Nat} {v1 v2 v3 : Value} (h : BxS w X v1 v2 v3) (hw : Within lo hi w w') (hd : X < lo ∨ hi ≤ X) : BxS w' X v1 v2 v3 :=
  ⟨by rw [hw.size]; exact h.lt, (hw.cell (p := ⟨X, 0, none⟩) hd).trans h.q0, (hw.cell (p := ⟨X, 1, none⟩) hd).trans h.q1, (hw.cell (p := ⟨X, 2, none⟩) hd).trans h.q2⟩

end Go.Proofs.Ytcjdnomhnlbmbaa

/-
  Marks in bytes.
-/
namespace Go.Proofs.Ytcjdnomhnlbmbaa
open Go.RowKit

def marksY (k : Int) (n : Nat) : List Int := (marksL k n).map (· % 256)
theorem marksY_length (n : Nat) (k : Int) : (marksY k n).length = n := by rw [marksY, List.length_map, marks_length]
theorem marksY_get (n : Nat) (k : Int) (j : Nat) (h : j < n) : (marksY k n).getD j 0 = (k + j) % 256 := by
  have := marks_get n k j h
  rw [List.getD_eq_getElem?_getD, List.getElem?_eq_getElem (by rw [marks_length]; exact h)] at this
  rw [marksY, List.getD_eq_getElem?_getD, List.getElem?_map, List.getElem?_eq_getElem (by rw [marks_length]; exact h)]
  simp at this ⊢
  rw [this]

set_option maxHeartbeats 1000000 in
theorem markY2_any (a : Option Addr) (c : Nat) (zs : List Int) (k0 : Int) (w : World) (lo hi : Nat) (hn : zs.length ≤ 1048576) (h0 : 1 ≤ k0) (h1 : k0 ≤ 2097152) (hz : RowIn .u8 w lo hi a zs) :
    Calls Try.prog 13 #[.slice a zs.length c, .int .i64 k0] w fun e w' => e = .returned (.int .i64 (k0 + zs.length)) ∧ RowIn .u8 w' lo hi a (marksY k0 zs.length) ∧ Within lo hi w w' := by
  rcases hz with hz | ⟨b, off, rfl, hlo, hhi, hb, hc, hf⟩
  · subst hz
    go_enter Try.func13, Try.ntmps13
    go_wp2
    go_loop [1, 5] (fun k i => k = .int .i64 k0 ∧ i = .int .i64 0) (fun _ _ => 0)
    case atStart => exact ⟨rfl, rfl⟩
    case round =>
      obtain ⟨rfl, rfl⟩ := hrel
      go_wp2
      go_ret
      exact ⟨ret_intM (by simp), .inl rfl, Within.refl _ _ _⟩
  · go_enter Try.func13, Try.ntmps13
    go_wp2
    go_loopw [1, 5] (fun k i wr => ∃ n : Nat, n ≤ zs.length ∧ i = .int .i64 n ∧ k = .int .i64 (k0 + n) ∧ (∀ j, j < n → wr.cell? ⟨b, off + j, none⟩ = some (.int .u8 ((k0 + j) % 256))) ∧ (∀ j, j < zs.length → ∃ v, wr.cell? ⟨b, off + j, none⟩ = some v) ∧ (∀ j, j < zs.length → wr.frozen? ⟨b, off + j, none⟩ = false) ∧ Within lo hi w wr) (fun _ i _ => zs.length - (intOf i).toNat)
    case atStart => exact ⟨0, Nat.zero_le _, rfl, by simp, fun j hj => absurd hj (by omega), fun j hj => ⟨_, hc j hj⟩, hf, Within.refl _ _ _⟩
    case round =>
      obtain ⟨n, hn', rfl, rfl, hdone, hall, hfz, hwi⟩ := hrel
      by_cases hlt : n < zs.length
      · obtain ⟨v, hv⟩ := hall n hlt
        have hv2 := hfz n hlt
        have HD := hdone
        have HS : Hid ((∀ j, j < n + 1 → (wr.setCell ⟨b, off + n, none⟩ (.int .u8 ((k0 + n) % 256))).cell? ⟨b, off + j, none⟩ = some (.int .u8 ((k0 + j) % 256))) ∧ (∀ j, j < zs.length → ∃ v, (wr.setCell ⟨b, off + n, none⟩ (.int .u8 ((k0 + n) % 256))).cell? ⟨b, off + j, none⟩ = some v) ∧ (∀ j, j < zs.length → (wr.setCell ⟨b, off + n, none⟩ (.int .u8 ((k0 + n) % 256))).frozen? ⟨b, off + j, none⟩ = false) ∧ Within lo hi w (wr.setCell ⟨b, off + n, none⟩ (.int .u8 ((k0 + n) % 256)))) := by
          refine ⟨fun j hj => ?_, fun j hj => ?_, fun j hj => ?_, hwi.setCell hlo hhi _⟩
          · by_cases e : j = n
            · subst e; exact World.cell?_setCell_same _ _ _ hv
            · rw [World.cell?_setCell_other _ _ _ _ (by intro hh; apply e; have := congrArg Addr.off hh; simp at this; omega)]; exact hdone j (by omega)
          · by_cases e : j = n
            · subst e; exact ⟨_, World.cell?_setCell_same _ _ _ hv⟩
            · rw [World.cell?_setCell_other _ _ _ _ (by intro hh; apply e; have := congrArg Addr.off hh; simp at this; omega)]; exact hall j hj
          · rw [World.frozen?_setCell]; exact hfz j hj
        clear hdone hall hfz hwi HD hc hf
        go_wp2
        go_roundw
        case rel => exact ⟨n + 1, by omega, by go_num, by go_num, HS.out.1, HS.out.2⟩
        case measure => simp [intOf]; omega
      · have hnn : n = zs.length := by omega
        subst hnn
        have HR : Hid (RowIn .u8 wr lo hi (some ⟨b, off, none⟩) (marksY k0 zs.length)) := by
          refine .inr ⟨b, off, rfl, hlo, hhi, by rw [hwi.size]; exact hb, fun j hj => ?_, fun j hj => ?_⟩
          · rw [marksY_length] at hj
            rw [marksY_get _ _ _ hj]; exact hdone j hj
          · rw [marksY_length] at hj; exact hfz j hj
        have HW : Hid (Within lo hi w wr) := hwi
        clear hdone hall hfz hc hf hwi
        go_wp2
        go_ret
        exact ⟨rfl, HR.out, HW.out⟩

set_option maxHeartbeats 1000000 in
theorem heldY_any (a : Option Addr) (c : Nat) (n : Nat) (k0 : Int) (w : World) (hn : n ≤ 1048576) (h0 : 1 ≤ k0) (h1 : k0 ≤ 2097152) (hz : RowAt .u8 w a (marksY k0 n)) :
    Calls Try.prog 20 #[.slice a n c, .int .i64 k0] w fun e w' => e = .returned (.int .i64 (k0 + n)) ∧ w' = w := by
  rcases hz with hz | ⟨b, off, rfl, hb, hc⟩
  · have : n = 0 := by rw [← marksY_length n k0, hz]; rfl
    subst this
    go_enter Try.func20, Try.ntmps20
    go_wp2
    go_loop [1, 5] (fun k i => k = .int .i64 k0 ∧ i = .int .i64 0) (fun _ _ => 0)
    case atStart => exact ⟨rfl, rfl⟩
    case round =>
      obtain ⟨rfl, rfl⟩ := hrel
      go_wp2
      go_ret
      exact ⟨ret_intM (by simp), rfl⟩
  · go_enter Try.func20, Try.ntmps20
    go_wp2
    go_loop [1, 5] (fun k i => ∃ m : Nat, m ≤ n ∧ i = .int .i64 m ∧ k = .int .i64 (k0 + m)) (fun _ i => n - (intOf i).toNat)
    case atStart => exact ⟨0, Nat.zero_le _, rfl, by simp⟩
    case round =>
      obtain ⟨m, hm, rfl, rfl⟩ := hrel
      by_cases hlt : m < n
      · have g1 : w.cell? ⟨b, off + m, none⟩ = some (.int .u8 ((k0 + m) % 256)) := by rw [hc m (by rw [marksY_length]; exact hlt), marksY_get _ _ _ hlt]
        have hne : ((k0 + (m : Int)) % 256 != (k0 + (m : Int)) % 256) = false := by simp
        clear hc
        go_wp2
        go_round
        case rel => exact ⟨m + 1, by omega, by go_num, by go_num⟩
        case measure => simp [intOf]; omega
      · have hmn : m = n := by omega
        subst hmn
        go_wp2
        go_ret
        exact ⟨rfl, rfl⟩

end Go.Proofs.Ytcjdnomhnlbmbaa
