/-
  The model's l6point.
-/
import Derived.Test.YtcjdnomhnlbmbaaAppB
import Derived.Test.YtcjdnomhnlbmbaaLawVs
namespace Go.Proofs.Ytcjdnomhnlbmbaa
open Go.RowKit

theorem OwnY.up {w : World} {base base' : Nat} {v : Value} {ys : List Int} (h : OwnY w base v ys) (hb : base' ≤ base) : OwnY w base' v ys := by
  refine ⟨h.1, ?_⟩
  rcases h.2 with h1 | ⟨g, cap, cur, h1, h2, h3⟩
  · exact .inl h1
  · exact .inr ⟨g, cap, cur, h1, Nat.le_trans hb h2, h3⟩

theorem leB_ne (v : Int) (n : Nat) (h : n ≠ 0) : leB v n ≠ [] := by
  intro e
  have := leB_length v n
  rw [e] at this
  simp at this
  omega

set_option maxRecDepth 100000 in
set_option maxHeartbeats 4000000 in
theorem point6_any (x y z : Int) (w : World) (xa : 0 ≤ x) (xb : x < 4294967296) (ya : 0 ≤ y) (yb : y < 4294967296) (za : 0 ≤ z) (zb : z < 4294967296) :
    Calls Try.prog 105 #[.agg #[.int .u32 x, .int .u32 y, .int .u32 z]] w fun e w' => NewY w (ptB x y z) e w' := by
  go_enter Try.func105, Try.ntmps105
  go_wp2_with fail
  refine (little_any x 4 _ xa (by omega) (by decide)).mono ?_
  rintro e w1 ⟨v1, rfl, ho1, hb1⟩
  have c1 : w1.cell? ⟨w.heap.size, 1, none⟩ = some (.int .u32 y) := by rw [(bcell hb1).1 _ _ (by simp)]; simp [go_sem]
  have c2 : w1.cell? ⟨w.heap.size, 2, none⟩ = some (.int .u32 z) := by rw [(bcell hb1).1 _ _ (by simp)]; simp [go_sem]
  have S1 : w.heap.size + 1 ≤ w1.heap.size := by have := hb1.size; simpa using this
  have HB1 : Hid (Below (w.heap.size + 1) (w.alloc (.cells #[.int .u32 x, .int .u32 y, .int .u32 z] 84)) w1) := by unfold Hid; simpa using hb1
  have HO1 : Hid (OwnY w1 (w.heap.size + 1) v1 (leB x 4)) := by unfold Hid; simpa using ho1
  clear hb1 ho1
  go_wp2_with fail
  refine (little_any y 4 _ ya (by omega) (by decide)).mono ?_
  rintro e w2 ⟨v2, rfl, ho2, hb2⟩
  replace c2 := ((bcell hb2).1 _ _ (by omega)).trans c2
  obtain ⟨b2, o2, k2, rfl, hr2⟩ := ho2.spot (leB_ne _ _ (by decide))
  have HO1b : Hid (OwnY w2 (w.heap.size + 1) v1 (leB x 4)) := HO1.out.later hb2
  have HB2 : Hid (Below (w.heap.size + 1) (w.alloc (.cells #[.int .u32 x, .int .u32 y, .int .u32 z] 84)) w2) := HB1.out.trans (hb2.mono S1)
  have S2 : w.heap.size + 1 ≤ w2.heap.size := Nat.le_trans S1 hb2.size
  have HR2 : Hid (RowAt .u8 w2 (some ⟨b2, o2, none⟩) (leB y 4)) := hr2.row
  clear hb2 ho2 hr2 HO1 HB1
  go_wp2_with (first | (at_builtin; refine appB rfl (.tmp 8) (.tmp 12) rfl (w.heap.size + 1) v1 (leB x 4) ⟨b2, o2, none⟩ _ k2 (leB y 4) rfl HO1b.out rfl rfl (by rw [leB_length]; omega) (by rw [leB_length]; omega) (leB_ne _ _ (by decide)) HR2.out S2 ?_; intro a3 m3 k3 w3 ho3 hb3; replace c2 := (hb3.cell (p := ⟨w.heap.size, 2, none⟩) (by simp)).trans c2) | fail)
  have S3 : w.heap.size + 1 ≤ w3.heap.size := Nat.le_trans S2 hb3.size
  have HO3 : Hid (OwnY w3 (w.heap.size + 1) (.slice a3 m3 k3) (leB x 4 ++ leB y 4)) := ho3
  have HB3 : Hid (Below (w.heap.size + 1) (w.alloc (.cells #[.int .u32 x, .int .u32 y, .int .u32 z] 84)) w3) := HB2.out.trans hb3
  clear ho3 hb3 HO1b HR2 HB2
  refine (little_any z 4 _ za (by omega) (by decide)).mono ?_
  rintro e w4 ⟨v4, rfl, ho4, hb4⟩
  obtain ⟨b4, o4, k4, rfl, hr4⟩ := ho4.spot (leB_ne _ _ (by decide))
  have HO3b : Hid (OwnY w4 (w.heap.size + 1) (.slice a3 m3 k3) (leB x 4 ++ leB y 4)) := HO3.out.later hb4
  have HB4 : Hid (Below (w.heap.size + 1) (w.alloc (.cells #[.int .u32 x, .int .u32 y, .int .u32 z] 84)) w4) := HB3.out.trans (hb4.mono S3)
  have S4 : w.heap.size + 1 ≤ w4.heap.size := Nat.le_trans S3 hb4.size
  have HR4 : Hid (RowAt .u8 w4 (some ⟨b4, o4, none⟩) (leB z 4)) := hr4.row
  clear hb4 ho4 hr4 HO3 HB3
  go_wp2_with (at_builtin; refine appB rfl (.tmp 14) (.tmp 18) rfl (w.heap.size + 1) _ (leB x 4 ++ leB y 4) ⟨b4, o4, none⟩ _ k4 (leB z 4) rfl HO3b.out rfl rfl (by rw [leB_length]; omega) (by rw [List.length_append, leB_length, leB_length]; omega) (leB_ne _ _ (by decide)) HR4.out S4 ?_; intro a5 m5 k5 w5 ho5 hb5)
  have HO5 : Hid (OwnY w5 w.heap.size (.slice a5 m5 k5) (leB x 4 ++ leB y 4 ++ leB z 4)) := ho5.up (Nat.le_succ _)
  have HB5 : Hid (Below w.heap.size w w5) := (bel0 _ _).trans ((HB4.out.trans hb5).mono (Nat.le_succ _))
  clear ho5 hb5 HO3b HR4 HB4
  go_wp2
  go_ret
  exact ⟨_, rfl, HO5.out, HB5.out⟩

end Go.Proofs.Ytcjdnomhnlbmbaa
