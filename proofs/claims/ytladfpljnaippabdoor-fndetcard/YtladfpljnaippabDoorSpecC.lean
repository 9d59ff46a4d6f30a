/-
  The model's way from digits back to limbs.
-/
import Derived.Test.YtladfpljnaippabDoorSpecB
namespace Go.Proofs.YtladfpljnaippabDoor
open Go.RowKit

/-- What l1big answers: the number's Big, or the zero Big with code 2. -/
def bigOut (g : Bool) (ds : List Int) : Bool × List Int × Int := if (joinL ds).length ≤ 512 then (g, joinL ds, 0) else (false, [], 2)

/-- The loop's own memory behind one round. -/
theorem big_step {S : Nat} {w0 wr w1 : World} {e : TypeId} {v v' : Value} {n : Nat} {xs : List Value} (hown1 : w1.ownsRow (S + 1 + 1 + 1) e 1 v' n xs) (hb1 : Below (S + 1 + 1 + 1) wr w1) (p0 : wr.cell? ⟨S + 1 + 1, 0, none⟩ = some (.bool false)) (p1 : wr.cell? ⟨S + 1 + 1, 1, none⟩ = some v)
    (p2 : ∀ j, wr.frozen? ⟨S + 1 + 1, j, none⟩ = false) (hnx : Below (S + 1 + 1) w0 wr) (hs : S + 1 + 1 + 1 ≤ wr.heap.size) :
    (w1.setCell ⟨S + 1 + 1, 1, none⟩ v').ownsRow (S + 1 + 1 + 1) e 1 v' n xs ∧ (w1.setCell ⟨S + 1 + 1, 1, none⟩ v').cell? ⟨S + 1 + 1, 0, none⟩ = some (.bool false) ∧ (w1.setCell ⟨S + 1 + 1, 1, none⟩ v').cell? ⟨S + 1 + 1, 1, none⟩ = some v' ∧
      (∀ j, (w1.setCell ⟨S + 1 + 1, 1, none⟩ v').frozen? ⟨S + 1 + 1, j, none⟩ = false) ∧ Below (S + 1 + 1) w0 (w1.setCell ⟨S + 1 + 1, 1, none⟩ v') ∧ S + 1 + 1 + 1 ≤ (w1.setCell ⟨S + 1 + 1, 1, none⟩ v').heap.size := by
  refine ⟨ownsRow_setCell_below hown1 (by simp) _, ?_, ?_, ?_, ?_, ?_⟩
  · rw [World.cell?_setCell_other _ _ _ _ (by intro hh; have := congrArg Addr.off hh; simp at this)]
    exact (hb1.cell (by simp)).trans p0
  · exact World.cell?_setCell_same _ _ _ ((hb1.cell (by simp)).trans p1)
  · intro j
    rw [World.frozen?_setCell]
    exact (hb1.frozen (by simp)).trans (p2 j)
  · exact (hnx.trans (hb1.mono (by omega))).setCell (by simp) _
  · have := hb1.size
    simp
    omega

set_option maxHeartbeats 2000000 in
theorem big_any (g : Bool) (a : Option Addr) (c : Nat) (ds : List Int) (w : World) (hn : ds.length ≤ 200000) (hz : RowAt .i64 w a ds) (hu : Dig 65536 ds) :
    Calls Tryd.prog 77 #[.agg #[.bool g, .slice a ds.length c]] w fun e w' => ∃ a' c', e = .returned (.tuple #[.agg #[.bool (bigOut g ds).1, .slice a' (bigOut g ds).2.1.length c'], .int .i64 (bigOut g ds).2.2]) ∧ RowAt .u32 w' a' (bigOut g ds).2.1 ∧ Far w.heap.size a' (bigOut g ds).2.1 ∧ Below w.heap.size w w' := by
  go_enter Tryd.func77, Tryd.ntmps77
  go_wp2
  go_loopw [5, 6] (fun i _ wr => ∃ (k : Nat) (ys : List Int) (v : Value), 2 * k ≤ ds.length + 1 ∧ ys.length ≤ k ∧ i = .int .i64 (2 * k : Nat) ∧ Hid (joinL ds = ys ++ joinL (ds.drop (2 * k))) ∧ wr.ownsRow (w.heap.size + 1 + 1 + 1) 33 1 v ys.length (vals .u32 ys) ∧
      wr.cell? ⟨w.heap.size + 1 + 1, 0, none⟩ = some (.bool false) ∧ wr.cell? ⟨w.heap.size + 1 + 1, 1, none⟩ = some v ∧ (∀ j, wr.frozen? ⟨w.heap.size + 1 + 1, j, none⟩ = false) ∧
      Below (w.heap.size + 1 + 1) (((w.alloc (.cells #[.bool g, .slice a ds.length c] 64)).alloc (.cells #[.bool false, .slice none 0 0] 27)).alloc (.cells #[.bool false, .slice none 0 0] 27)) wr ∧ w.heap.size + 1 + 1 + 1 ≤ wr.heap.size) (fun i _ _ => ds.length + 1 - (intOf i).toNat)
  case atStart => exact ⟨0, [], .slice none 0 0, by omega, by simp, rfl, rfl, own_nil _ _ _ _, by simp [go_sem], by simp [go_sem], by intro j; simp [go_sem], Below.refl _ _, by simp⟩
  case round =>
    obtain ⟨k, ys, v, hk, hyl, rfl, hjoin, hown, p0, p1, p2, hnx, hsz⟩ := hrel
    have q1 : wr.cell? ⟨w.heap.size, 0, none⟩ = some (.bool g) := by rw [hnx.cell (by simp; omega)]; simp [go_sem]
    have q2 : wr.cell? ⟨w.heap.size, 1, none⟩ = some (.slice a ds.length c) := by rw [hnx.cell (by simp; omega)]; simp [go_sem]
    by_cases hlt : 2 * k < ds.length
    · obtain ⟨b, off, rfl, hb, hc⟩ := hz.resolve_left (by intro h; subst h; simp at hlt)
      have hw0 : Below w.heap.size w wr := (bel3 _ _ _ _).trans (hnx.mono (by omega))
      have g1 : wr.cell? ⟨b, off + 2 * k, none⟩ = some (.int .i64 (ds.getD (2 * k) 0)) := (hw0.cell (p := ⟨b, off + 2 * k, none⟩) hb).trans (hc (2 * k) hlt)
      have gb := hu.at (by decide) (2 * k)
      by_cases hlt2 : 2 * k + 1 < ds.length
      · have g2 : wr.cell? ⟨b, off + (2 * k + 1), none⟩ = some (.int .i64 (ds.getD (2 * k + 1) 0)) := (hw0.cell (p := ⟨b, off + (2 * k + 1), none⟩) hb).trans (hc (2 * k + 1) hlt2)
        have gb2 := hu.at (by decide) (2 * k + 1)
        have hst := join_two hlt2
        obtain ⟨d, hdk⟩ : ∃ z, z = ds.getD (2 * k) 0 := ⟨_, rfl⟩
        obtain ⟨d', hdk'⟩ : ∃ z, z = ds.getD (2 * k + 1) 0 := ⟨_, rfl⟩
        rw [← hdk] at g1 gb hst
        rw [← hdk'] at g2 gb2 hst
        have gb0 := gb.1
        have gb1 := gb.2
        have gb20 := gb2.1
        have gb21 := gb2.2
        have HJ : Hid (joinL ds = (ys ++ [d + d' * 65536]) ++ joinL (ds.drop (2 * (k + 1)))) := by unfold Hid; rw [hjoin.out, hst]; simp
        clear hc hw0 hst gb gb2 hdk hdk' hjoin
        go_wp2_with (first | (at_builtin; refine app1 rfl (.tmp 37) (.tmp 39) 25 rfl (w.heap.size + 1 + 1 + 1) 33 Tryd.underlying25 Tryd.info33 (by decide) _ _ rfl rfl hown (by omega) hsz ?_; intro a1 n1 c1 w1 hown1 hb1 hs1; have q3 : w1.cell? ⟨w.heap.size + 1 + 1, 1, none⟩ = some v := (hb1.cell (by simp)).trans p1; have g3 : w1.frozen? ⟨w.heap.size + 1 + 1, 1, none⟩ = false := (hb1.frozen (by simp)).trans (p2 1)))
        have R := big_step hown1 hb1 p0 p1 p2 hnx hsz
        clear hown1 hb1 p0 p1 p2 hnx hown q1 q2 q3 g1 g2 g3
        go_roundw
        case rel => exact ⟨k + 1, ys ++ [d + d' * 65536], _, by omega, by simp; omega, by go_num, HJ, R⟩
        case measure => simp [intOf]; omega
      · have hst := join_one (k := k) (ds := ds) (by omega)
        obtain ⟨d, hdk⟩ : ∃ z, z = ds.getD (2 * k) 0 := ⟨_, rfl⟩
        rw [← hdk] at g1 gb hst
        have gb0 := gb.1
        have gb1 := gb.2
        have HJ : Hid (joinL ds = (ys ++ [d]) ++ joinL (ds.drop (2 * (k + 1)))) := by unfold Hid; rw [hjoin.out, hst]; simp
        clear hc hw0 hst gb hdk hjoin
        go_wp2_with (first | (at_builtin; refine app1 rfl (.tmp 37) (.tmp 39) 25 rfl (w.heap.size + 1 + 1 + 1) 33 Tryd.underlying25 Tryd.info33 (by decide) _ _ rfl rfl hown (by omega) hsz ?_; intro a1 n1 c1 w1 hown1 hb1 hs1; have q3 : w1.cell? ⟨w.heap.size + 1 + 1, 1, none⟩ = some v := (hb1.cell (by simp)).trans p1; have g3 : w1.frozen? ⟨w.heap.size + 1 + 1, 1, none⟩ = false := (hb1.frozen (by simp)).trans (p2 1)))
        have R := big_step hown1 hb1 p0 p1 p2 hnx hsz
        clear hown1 hb1 p0 p1 p2 hnx hown q1 q2 q3 g1 g3
        go_roundw
        case rel => exact ⟨k + 1, ys ++ [d], _, by omega, by simp; omega, by go_num, HJ, R⟩
        case measure => simp [intOf]; omega
    · have hj : joinL ds = ys := by rw [hjoin.out, List.drop_eq_nil_of_le (by omega)]; simp [joinL]
      obtain ⟨a', c', rfl, hcm, hsl, hrn⟩ := own_row hown
      have r1 : wr.cell? ⟨w.heap.size + 1, 0, none⟩ = some (.bool false) := by rw [hnx.cell (by simp)]; simp [go_sem]
      have r2 : wr.cell? ⟨w.heap.size + 1, 1, none⟩ = some (.slice none 0 0) := by rw [hnx.cell (by simp)]; simp [go_sem]
      have r3 : ∀ j, wr.frozen? ⟨w.heap.size + 1, j, none⟩ = false := by intro j; rw [hnx.frozen (by simp)]; simp [go_sem]
      have HB : Hid (Below w.heap.size w wr) := (bel3 _ _ _ _).trans (hnx.mono (by omega))
      have HN : Hid (RowNew .u32 wr (w.heap.size + 1 + 1 + 1) a' ys) := hrn
      have HJ : Hid (joinL ds = ys) := hj
      clear hown hnx hsl hrn hjoin hj hz
      by_cases h5 : ys.length ≤ 512
      · have HBO : Hid (bigOut g ds = (g, ys, 0)) := by unfold Hid bigOut; rw [HJ.out, if_pos h5]
        go_wp2
        refine bodyPost_ret (v := .tuple #[.agg #[.bool g, .slice a' ys.length c'], .int .i64 0]) (by simp [results, Tryd.results77, go_sem, r1, r2]) rfl ?_
        rw [HBO.out]
        refine ⟨a', c', rfl, ?_, HN.out.far (Nat.le_refl _) (by omega), ?_⟩
        · exact (((HN.out.setLow (by simp) _).setLow (by simp) _).setLow (by simp) _).row
        · exact ((HB.out.setCell (by simp; omega) _).setCell (by simp) _).setCell (by simp) _
      · have HBO : Hid (bigOut g ds = (false, [], 2)) := by unfold Hid bigOut; rw [HJ.out, if_neg h5]
        go_wp2
        refine bodyPost_ret (v := .tuple #[.agg #[.bool false, .slice none 0 0], .int .i64 2]) (by simp [results, Tryd.results77, go_sem, r1, r2]) rfl ?_
        rw [HBO.out]
        refine ⟨none, 0, rfl, .inl rfl, .inl rfl, ?_⟩
        exact (HB.out.setCell (by simp) _).setCell (by simp) _

end Go.Proofs.YtladfpljnaippabDoor
