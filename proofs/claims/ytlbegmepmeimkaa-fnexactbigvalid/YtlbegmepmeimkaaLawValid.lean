/-
  The law of BigValid, walked.
-/
import Derived.Test.YtlbegmepmeimkaaBigs
import Derived.Deep.RegionHeld3
namespace Go.Proofs.Ytlbegmepmeimkaa
open Go.RowKit

set_option maxHeartbeats 400000 in
theorem lawValid_any (g : Bool) (a : Option Addr) (c : Nat) (zs : List Int) (w : World) (hn : zs.length ≤ maxLen) (hz : RowAt .u32 w a zs) :
    Calls Try.prog 3 #[.agg #[.bool g, .slice a zs.length c]] w fun e w' => e = .returned (.bool true) ∧ Below w.heap.size w w' := by
  by_cases hl : (1048576 : Int) < zs.length
  · go_enter Try.func3, Try.ntmps3
    go_wp2_with fail
    refine (szB_any _ _ _ _ _ _ hn (by omega) (by omega)).mono ?_
    rintro e w1 ⟨rfl, hb⟩
    rw [if_pos (by omega)]
    have HB : Hid (Below w.heap.size w w1) := (bel0 _ _).trans (hb.mono (by simp))
    clear hb
    go_wp2
    go_ret
    exact ⟨rfl, HB.out⟩
  · have hn' : zs.length ≤ 1048576 := by omega
    have hm : 0 ≤ 1048576 - (zs.length : Int) := by omega
    go_enter Try.func3, Try.ntmps3
    go_wp2_with fail
    refine (szB_any _ _ _ _ _ _ hn (by omega) (by omega)).mono ?_
    rintro e w1 ⟨rfl, hb⟩
    rw [if_neg (by omega)]
    have q1 : w1.cell? ⟨w.heap.size, 0, none⟩ = some (.bool g) := by rw [(bcell hb).1 _ _ (by simp)]; simp [go_sem]
    have q2 : w1.cell? ⟨w.heap.size, 1, none⟩ = some (.slice a zs.length c) := by rw [(bcell hb).1 _ _ (by simp)]; simp [go_sem]
    have z1 : w.heap.size < w1.heap.size := by have := hb.size; simp at this; omega
    have HB : Hid (Below w.heap.size w w1) := (bel0 _ _).trans (hb.mono (by simp))
    clear hb
    go_wp2_with fail
    refine (toB_any _ _ _ _ _ hn' (hz.later HB.out)).mono ?_
    rintro e w2 ⟨a2, rfl, hr2, hb2⟩
    go_wp2_with fail
    refine (validS_any _ _ _ _ _ hn hr2.row).mono ?_
    rintro e w3 ⟨rfl, hb3⟩
    have hb13 : Below w1.heap.size w1 w3 := hb2.trans (hb3.mono hb2.size)
    have q3 : w3.cell? ⟨w.heap.size, 0, none⟩ = some (.bool g) := by rw [(bcell hb13).1 _ _ z1]; exact q1
    have q4 : w3.cell? ⟨w.heap.size, 1, none⟩ = some (.slice a zs.length c) := by rw [(bcell hb13).1 _ _ z1]; exact q2
    have z3 : w.heap.size < w3.heap.size := by have := hb13.size; omega
    have HB3 : Hid (Below w.heap.size w w3) := HB.out.trans (hb13.mono (by omega))
    clear hb13 hb2 hb3 hr2 q1 q2 HB
    go_wp2_with fail
    refine (toB_any _ _ _ _ _ hn' (hz.later HB3.out)).mono ?_
    rintro e w4 ⟨a4, rfl, hr4, hb4⟩
    have q5 : w4.cell? ⟨w.heap.size, 0, none⟩ = some (.bool g) := by rw [(bcell hb4).1 _ _ z3]; exact q3
    have q6 : w4.cell? ⟨w.heap.size, 1, none⟩ = some (.slice a zs.length c) := by rw [(bcell hb4).1 _ _ z3]; exact q4
    have z4 : w.heap.size < w4.heap.size := by have := hb4.size; omega
    have HB4 : Hid (Below w.heap.size w w4) := HB3.out.trans (hb4.mono (by omega))
    have HR4 : Hid (RowNew .u32 w4 w3.heap.size a4 zs) := hr4
    clear hb4 hr4 q3 q4 z3 HB3
    go_wp2_with fail
    refine (validI_any _ _ _ _ _ hn (HR4.out.row.later (bel0 _ _))).mono ?_
    rintro e w5 ⟨rfl, hb5⟩
    have q7 : w5.cell? ⟨w.heap.size, 0, none⟩ = some (.bool g) := by rw [(bcell hb5).1 _ _ (by simp; omega), World.cell?_alloc_past _ _ _ z4]; exact q5
    have q8 : w5.cell? ⟨w.heap.size, 1, none⟩ = some (.slice a zs.length c) := by rw [(bcell hb5).1 _ _ (by simp; omega), World.cell?_alloc_past _ _ _ z4]; exact q6
    have q9 : w5.cell? ⟨w4.heap.size, 0, none⟩ = some (.bool g) := by rw [(bcell hb5).1 _ _ (by simp)]; simp [go_sem]
    have q10 : w5.cell? ⟨w4.heap.size, 1, none⟩ = some (.slice a4 zs.length zs.length) := by rw [(bcell hb5).1 _ _ (by simp)]; simp [go_sem]
    have hb45 : Below w4.heap.size w4 w5 := (bel0 _ _).trans (hb5.mono (by simp))
    have z5 : w4.heap.size < w5.heap.size := by have := hb5.size; simp at this; omega
    have HB5 : Hid (Below w.heap.size w w5) := HB4.out.trans (hb45.mono (by omega))
    have HR5 : Hid (RowNew .u32 w5 w3.heap.size a4 zs) := HR4.out.later hb45
    have hvv : (validB g zs != validB g zs) = false := by simp
    have KS : Hid (∀ w', Below w5.heap.size w5 w' → w'.cell? ⟨w.heap.size, 0, none⟩ = some (.bool g) ∧ w'.cell? ⟨w.heap.size, 1, none⟩ = some (.slice a zs.length c) ∧
        w'.cell? ⟨w4.heap.size, 0, none⟩ = some (.bool g) ∧ w'.cell? ⟨w4.heap.size, 1, none⟩ = some (.slice a4 zs.length zs.length) ∧ Below w5.heap.size w5 w') := by
      intro w' hb'
      exact ⟨by rw [(bcell hb').1 _ _ (by omega)]; exact q7, by rw [(bcell hb').1 _ _ (by omega)]; exact q8, by rw [(bcell hb').1 _ _ (by omega)]; exact q9, by rw [(bcell hb').1 _ _ (by omega)]; exact q10, hb'⟩
    clear hb45 hb5 HR4 HB4 q5 q6 q7 q8 q9 q10
    go_wp2
    go_region_held3 (fun w' => w'.cell? ⟨w.heap.size, 0, none⟩ = some (.bool g) ∧ w'.cell? ⟨w.heap.size, 1, none⟩ = some (.slice a zs.length c) ∧
        w'.cell? ⟨w4.heap.size, 0, none⟩ = some (.bool g) ∧ w'.cell? ⟨w4.heap.size, 1, none⟩ = some (.slice a4 zs.length zs.length) ∧ Below w5.heap.size w5 w')
      (first | exact KS.out _ (Below.refl _ _).drew | exact KS.out _ (by assumption))
      (first
        | (go_at_call 11; refine (toB_any _ _ _ _ _ hn' (hz.later HB5.out.drew)).mono ?_; rintro e w6 ⟨a6, rfl, hr6, hb6⟩; have hb56 : Below w5.heap.size w5 w6 := (Below.refl _ _).drew.trans hb6)
        | (go_at_call 13; refine (eqB_any _ _ _ _ _ _ _ _ _ hn hn (HR5.out.later hb56).row hr6.row).mono ?_; rintro e w7 ⟨rfl, hb7⟩; rw [show decide (g = g ∧ zs = zs) = true from by simp]; have hb57 : Below w5.heap.size w5 w7 := hb56.trans (hb7.mono hb56.size)))
    go_wp2
    go_ret
    exact ⟨rfl, HB5.out.trans (hb57.mono (by omega))⟩

end Go.Proofs.Ytlbegmepmeimkaa
