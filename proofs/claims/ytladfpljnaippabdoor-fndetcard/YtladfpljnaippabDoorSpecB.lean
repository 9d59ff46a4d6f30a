/-
  The model's way from limbs to digits and back.
-/
import Derived.Test.YtladfpljnaippabDoorGrow
import Derived.Test.YtladfpljnaippabDoorBigs
namespace Go.Proofs.YtladfpljnaippabDoor
open Go.RowKit

theorem split_take {zs : List Int} {k : Nat} (h : k < zs.length) : splitL (zs.take (k + 1)) = (splitL (zs.take k) ++ [zs.getD k 0 % 65536]) ++ [zs.getD k 0 / 65536] := by
  rw [List.take_succ_eq_append_getElem h, split_snoc]
  simp [List.getD_eq_getElem?_getD, h]

set_option maxHeartbeats 1000000 in
theorem of_any (g : Bool) (a : Option Addr) (c : Nat) (zs : List Int) (w : World) (hn : zs.length ≤ 100000) (hz : RowAt .u32 w a zs) (hu : Dig 4294967296 zs) :
    Calls Tryd.prog 76 #[.agg #[.bool g, .slice a zs.length c]] w fun e w' => ∃ g' a' c' ds', e = .returned (.agg #[.bool g', .slice a' ds'.length c']) ∧ ds'.length ≤ 2 * zs.length ∧ L1 w' g' a' c' ds' (sg g (val 4294967296 zs)) ∧ Below w.heap.size w w' := by
  go_enter Tryd.func76, Tryd.ntmps76
  go_wp2
  go_loopw [3, 4] (fun v i wr => ∃ k : Nat, k ≤ zs.length ∧ i = .int .i64 k ∧ wr.ownsRow (w.heap.size + 2) 3 1 v (splitL (zs.take k)).length (vals .i64 (splitL (zs.take k))) ∧ Below (w.heap.size + 2) ((w.alloc (.cells #[.bool g, .slice a zs.length c] 27)).alloc (.cells #[.bool false, .slice none 0 0] 64)) wr ∧ w.heap.size + 2 ≤ wr.heap.size) (fun _ i _ => zs.length - (intOf i).toNat)
  case atStart => exact ⟨0, Nat.zero_le _, rfl, own_nil _ _ _ _, Below.refl _ _, by simp⟩
  case round =>
    obtain ⟨k, hk, rfl, hown, hnx, hsz⟩ := hrel
    have q2 : wr.cell? ⟨w.heap.size, 1, none⟩ = some (.slice a zs.length c) := by rw [hnx.cell (by simp)]; simp [go_sem]
    by_cases hlt : k < zs.length
    · obtain ⟨b, off, rfl, hb, hc⟩ := hz.resolve_left (by intro h; subst h; simp at hlt)
      have hw0 : Below w.heap.size w wr := (bel2 _ _ _).trans (hnx.mono (by omega))
      have g1 : wr.cell? ⟨b, off + k, none⟩ = some (.int .u32 (zs.getD k 0)) := (hw0.cell (p := ⟨b, off + k, none⟩) hb).trans (hc k hlt)
      have gb := hu.at (by decide) k
      have hst := split_take hlt
      have hlen : (splitL (zs.take k)).length ≤ 200000 := by rw [split_length, List.length_take]; omega
      obtain ⟨z, hzk⟩ : ∃ z, z = zs.getD k 0 := ⟨_, rfl⟩
      rw [← hzk] at g1 gb hst
      have gb0 := gb.1
      have gb1 := gb.2
      have HST : Hid (splitL (zs.take (k + 1)) = (splitL (zs.take k) ++ [z % 65536]) ++ [z / 65536]) := hst
      clear hc hw0 hst gb hzk
      go_wp2_with (first | (at_builtin; refine app1 rfl (.tmp 12) (.tmp 20) 62 rfl (w.heap.size + 2) 3 Tryd.underlying62 Tryd.info3 (by decide) _ _ rfl rfl hown (by omega) hsz ?_; intro a1 n1 c1 w1 hown1 hb1 hs1; have q3 : w1.cell? ⟨w.heap.size, 1, none⟩ = some (.slice (some ⟨b, off, none⟩) zs.length c) := (hb1.cell (by simp)).trans q2; have g3 : w1.cell? ⟨b, off + k, none⟩ = some (.int .u32 z) := (hb1.cell (by simp; omega)).trans g1) | (at_builtin; refine app1 rfl (.tmp 22) (.tmp 30) 62 rfl (w.heap.size + 2) 3 Tryd.underlying62 Tryd.info3 (by decide) _ _ rfl rfl hown1 (by simp; omega) (by omega) ?_; intro a2 n2 c2 w2 hown2 hb2 hs2))
      rw [← HST.out] at hown2
      have hnx2 := (hnx.trans hb1).trans hb2
      clear hnx hb1 hb2 hown hown1 q2 q3 g1 g3
      go_wp2
      go_roundw
      case rel => exact ⟨k + 1, by omega, by go_num, hown2, hnx2, by omega⟩
      case measure => simp [intOf]; omega
    · have hkn : k = zs.length := by omega
      subst hkn
      rw [List.take_length] at hown
      obtain ⟨a', c', rfl, hcm, hsl, hrn⟩ := own_row hown
      have hlen : (splitL zs).length ≤ 1048576 := by rw [split_length]; omega
      have q1 : wr.cell? ⟨w.heap.size, 0, none⟩ = some (.bool g) := by rw [hnx.cell (by simp)]; simp [go_sem]
      clear hown
      go_wp2_with fail
      refine (make_any g a' c' (splitL zs) _ hlen hcm hsl (dig_split hu)).mono ?_
      rintro e w1 ⟨g', ds', rfl, hle, hL, hb1⟩
      rw [val_split] at hL
      have hle2 : ds'.length ≤ 2 * zs.length := by rw [← split_length]; exact hle
      have hb2 : Below (w.heap.size + 2) _ w1 := hnx.trans (hb1.mono hsz)
      have r1 : w1.cell? ⟨w.heap.size + 1, 0, none⟩ = some (.bool false) := by rw [hb2.cell (by simp)]; simp [go_sem]
      have r2 : w1.cell? ⟨w.heap.size + 1, 1, none⟩ = some (.slice none 0 0) := by rw [hb2.cell (by simp)]; simp [go_sem]
      have r3 : ∀ j, w1.frozen? ⟨w.heap.size + 1, j, none⟩ = false := by intro j; rw [hb2.frozen (by simp)]; simp [go_sem]
      have HB : Hid (Below w.heap.size w w1) := (bel2 _ _ _).trans (hb2.mono (by omega))
      have HR : Hid (L1 w1 g' a' c' ds' (sg g (val 4294967296 zs))) := hL
      have HN : Hid (RowNew .i64 wr (w.heap.size + 2) a' (splitL zs)) := hrn
      clear hL hb1 hb2 hnx hsl hrn q1 q2 hz
      go_wp2
      refine bodyPost_ret (v := .agg #[.bool g', .slice a' ds'.length c']) (by simp [results, Tryd.results76, go_sem, r1, r2]) rfl ⟨g', a', c', ds', rfl, hle2, ?_, ?_⟩
      · exact (HR.out.setLow HN.out hle (by simp) _).setLow HN.out hle (by simp) _
      · exact (HB.out.setCell (by simp) _).setCell (by simp) _

end Go.Proofs.YtladfpljnaippabDoor
