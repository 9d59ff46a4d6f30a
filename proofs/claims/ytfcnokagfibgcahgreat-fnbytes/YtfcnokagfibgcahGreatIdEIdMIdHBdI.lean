/-
  The program's reader: mark.
-/
import Derived.Test.YtfcnokagfibgcahGreatIdCIdD
import Derived.RegionCalls
import Derived.Test.YtfcnokagfibgcahGreatIdGBdGBdH
namespace Go.Proofs.YtfcnokagfibgcahGreat
open Go.RowKit

/-- What is wrong with one of the first bytes. -/
def mkF (ts bs : List Int) (i : Nat) : Option (Int × Int) :=
  if bs.length ≤ i then some (5, bs.length) else if bs.getD i 0 = ts.getD i 0 then none else some (4, i)

def MarkOut (w : World) (R b off c : Nat) (ts bs : List Int) (e : Ending) (w' : World) : Prop :=
  (firstF (mkF ts bs) 4 = none ∧ ReadOut w R b off c bs 4 (.tuple #[]) e w') ∨ ∃ x, firstF (mkF ts bs) 4 = some x ∧ ThrowOut w R x e w'

theorem take_none (R : Nat) (a : Option Addr) (c : Nat) (w : World) (c0 : w.cell? ⟨R, 0, none⟩ = some (.slice a 0 c)) (c1 : w.cell? ⟨R, 1, none⟩ = some (.int .i64 0)) :
    Calls Tryz.prog 257 #[.pointer (some ⟨R, 0, none⟩), .int .i64 1] w fun e w' => e = thrown (5, 0) ∧ Aside R w w' := by
  go_enter Tryz.func257, Tryz.ntmps257
  go_wp2
  go_quiet (fail)
  go_wp2
  exact ⟨rfl, rfl, Aside.of (below_drewN (Below.refl _ _) _)⟩

set_option maxRecDepth 100000 in
set_option maxHeartbeats 1000000 in
theorem mark_scen (R b off c : Nat) (bs : List Int) (w : World) (hu : U8 bs) (h : RdB w R b off c bs 0) :
    Calls Tryz.prog 158 #[.pointer (some ⟨R, 0, none⟩), .string { data := #[83, 67, 69, 78] }] w fun e w' => MarkOut w R b off c [83, 67, 69, 78] bs e w' := by
  have HU : Hid (U8 bs) := hu
  have HH : Hid (RdB w R b off c bs 0) := h
  clear hu h
  go_enter Tryz.func158, Tryz.ntmps158
  go_wp2
  go_loopw [4, 7] (fun _ si wr => ∃ (j : Nat), j ≤ 4 ∧ si = .int .i64 j ∧ Hid (firstF (mkF [83, 67, 69, 78] bs) j = none) ∧ Hid (RdB wr R b off c bs j ∧ Aside R w wr)) (fun _ si _ => 4 - (intOf si).toNat)
  case atStart => exact ⟨0, by decide, rfl, rfl, HH.out, Aside.refl _ _⟩
  case round =>
    obtain ⟨j, hj, rfl, hA, hR⟩ := hrel
    by_cases hlt : j < 4
    · have hj4 : j = 0 ∨ j = 1 ∨ j = 2 ∨ j = 3 := by omega
      by_cases hs : bs.length < j + 1
      · have HX : Hid (firstF (mkF [83, 67, 69, 78] bs) 4 = some (5, (bs.length : Int))) := firstF_hit hlt hA.out (by unfold mkF; rw [if_pos (by omega)])
        rcases hj4 with rfl | rfl | rfl | rfl
        · go_wp2
          refine wp_region_any (by kernel_rfl) ?_
          refine wpAny_take (i := 0) (v := .pointer (some ⟨R, 0, none⟩)) rfl (by kernel_rfl) (by kernel_rfl) (by kernel_rfl) (fun _ _ _ h => h) (Or.inl ⟨by rfl, by intro w; go_simp⟩) ?_
          refine wpAny_take (i := 4) (v := .string { data := #[83, 67, 69, 78] }) rfl (by kernel_rfl) (by kernel_rfl) (by kernel_rfl) (fun _ _ _ h => h) (Or.inl ⟨by rfl, by intro w; go_simp⟩) ?_
          refine wpAny_take (i := 5) (v := .int .i64 0) rfl (by kernel_rfl) (by kernel_rfl) (by kernel_rfl) (fun _ _ _ h => h) (Or.inl ⟨by rfl, by intro w; go_simp⟩) ?_
          refine wpAny_take (i := 6) (v := .int .u8 83) rfl (by kernel_rfl) (by kernel_rfl) (by kernel_rfl) (fun _ _ _ h => h) (Or.inl ⟨by rfl, by intro w; go_simp; rfl⟩) ?_
          refine wpAny_ready (rs := [1]) (by kernel_rfl) (by simp) (AllReady.cons rfl (fun K hK => ?_) AllReady.nil)
          go_simp
          refine (take_short R b off c bs 0 1 _ hs (hR.out.1.later (Below.drew (Below.refl _ _)))).mono ?_
          rintro e V ⟨rfl, has⟩
          exact ⟨rfl, .inr ⟨_, HX.out, rfl, hR.out.2.trans ((Aside.of (Below.drew (Below.refl _ _))).trans has)⟩⟩
        · go_wp2
          refine wp_region_any (by kernel_rfl) ?_
          refine wpAny_take (i := 0) (v := .pointer (some ⟨R, 0, none⟩)) rfl (by kernel_rfl) (by kernel_rfl) (by kernel_rfl) (fun _ _ _ h => h) (Or.inl ⟨by rfl, by intro w; go_simp⟩) ?_
          refine wpAny_take (i := 4) (v := .string { data := #[83, 67, 69, 78] }) rfl (by kernel_rfl) (by kernel_rfl) (by kernel_rfl) (fun _ _ _ h => h) (Or.inl ⟨by rfl, by intro w; go_simp⟩) ?_
          refine wpAny_take (i := 5) (v := .int .i64 1) rfl (by kernel_rfl) (by kernel_rfl) (by kernel_rfl) (fun _ _ _ h => h) (Or.inl ⟨by rfl, by intro w; go_simp⟩) ?_
          refine wpAny_take (i := 6) (v := .int .u8 67) rfl (by kernel_rfl) (by kernel_rfl) (by kernel_rfl) (fun _ _ _ h => h) (Or.inl ⟨by rfl, by intro w; go_simp; rfl⟩) ?_
          refine wpAny_ready (rs := [1]) (by kernel_rfl) (by simp) (AllReady.cons rfl (fun K hK => ?_) AllReady.nil)
          go_simp
          refine (take_short R b off c bs 1 1 _ hs (hR.out.1.later (Below.drew (Below.refl _ _)))).mono ?_
          rintro e V ⟨rfl, has⟩
          exact ⟨rfl, .inr ⟨_, HX.out, rfl, hR.out.2.trans ((Aside.of (Below.drew (Below.refl _ _))).trans has)⟩⟩
        · go_wp2
          refine wp_region_any (by kernel_rfl) ?_
          refine wpAny_take (i := 0) (v := .pointer (some ⟨R, 0, none⟩)) rfl (by kernel_rfl) (by kernel_rfl) (by kernel_rfl) (fun _ _ _ h => h) (Or.inl ⟨by rfl, by intro w; go_simp⟩) ?_
          refine wpAny_take (i := 4) (v := .string { data := #[83, 67, 69, 78] }) rfl (by kernel_rfl) (by kernel_rfl) (by kernel_rfl) (fun _ _ _ h => h) (Or.inl ⟨by rfl, by intro w; go_simp⟩) ?_
          refine wpAny_take (i := 5) (v := .int .i64 2) rfl (by kernel_rfl) (by kernel_rfl) (by kernel_rfl) (fun _ _ _ h => h) (Or.inl ⟨by rfl, by intro w; go_simp⟩) ?_
          refine wpAny_take (i := 6) (v := .int .u8 69) rfl (by kernel_rfl) (by kernel_rfl) (by kernel_rfl) (fun _ _ _ h => h) (Or.inl ⟨by rfl, by intro w; go_simp; rfl⟩) ?_
          refine wpAny_ready (rs := [1]) (by kernel_rfl) (by simp) (AllReady.cons rfl (fun K hK => ?_) AllReady.nil)
          go_simp
          refine (take_short R b off c bs 2 1 _ hs (hR.out.1.later (Below.drew (Below.refl _ _)))).mono ?_
          rintro e V ⟨rfl, has⟩
          exact ⟨rfl, .inr ⟨_, HX.out, rfl, hR.out.2.trans ((Aside.of (Below.drew (Below.refl _ _))).trans has)⟩⟩
        · go_wp2
          refine wp_region_any (by kernel_rfl) ?_
          refine wpAny_take (i := 0) (v := .pointer (some ⟨R, 0, none⟩)) rfl (by kernel_rfl) (by kernel_rfl) (by kernel_rfl) (fun _ _ _ h => h) (Or.inl ⟨by rfl, by intro w; go_simp⟩) ?_
          refine wpAny_take (i := 4) (v := .string { data := #[83, 67, 69, 78] }) rfl (by kernel_rfl) (by kernel_rfl) (by kernel_rfl) (fun _ _ _ h => h) (Or.inl ⟨by rfl, by intro w; go_simp⟩) ?_
          refine wpAny_take (i := 5) (v := .int .i64 3) rfl (by kernel_rfl) (by kernel_rfl) (by kernel_rfl) (fun _ _ _ h => h) (Or.inl ⟨by rfl, by intro w; go_simp⟩) ?_
          refine wpAny_take (i := 6) (v := .int .u8 78) rfl (by kernel_rfl) (by kernel_rfl) (by kernel_rfl) (fun _ _ _ h => h) (Or.inl ⟨by rfl, by intro w; go_simp; rfl⟩) ?_
          refine wpAny_ready (rs := [1]) (by kernel_rfl) (by simp) (AllReady.cons rfl (fun K hK => ?_) AllReady.nil)
          go_simp
          refine (take_short R b off c bs 3 1 _ hs (hR.out.1.later (Below.drew (Below.refl _ _)))).mono ?_
          rintro e V ⟨rfl, has⟩
          exact ⟨rfl, .inr ⟨_, HX.out, rfl, hR.out.2.trans ((Aside.of (Below.drew (Below.refl _ _))).trans has)⟩⟩
      · have hs' : j + 1 ≤ bs.length := by omega
        rcases hj4 with rfl | rfl | rfl | rfl
        · obtain ⟨y, hy0⟩ : ∃ y, y = bs.getD 0 0 := ⟨_, rfl⟩
          have HY : Hid (bs.getD 0 0 = y) := hy0.symm
          clear hy0
          by_cases hy : y = 83
          · have HN : Hid (firstF (mkF [83, 67, 69, 78] bs) (0 + 1) = none) := firstF_succ hA.out (by unfold mkF; rw [if_neg (by omega), if_pos (show bs.getD 0 0 = ([83, 67, 69, 78] : List Int).getD 0 0 by rw [HY.out]; exact hy)])
            have hne : (y != 83) = false := by rw [hy]; rfl
            clear hy
            go_wp2
            refine wp_region_any (by kernel_rfl) ?_
            refine wpAny_take (i := 0) (v := .pointer (some ⟨R, 0, none⟩)) rfl (by kernel_rfl) (by kernel_rfl) (by kernel_rfl) (fun _ _ _ h => h) (Or.inl ⟨by rfl, by intro w; go_simp⟩) ?_
            refine wpAny_take (i := 4) (v := .string { data := #[83, 67, 69, 78] }) rfl (by kernel_rfl) (by kernel_rfl) (by kernel_rfl) (fun _ _ _ h => h) (Or.inl ⟨by rfl, by intro w; go_simp⟩) ?_
            refine wpAny_take (i := 5) (v := .int .i64 0) rfl (by kernel_rfl) (by kernel_rfl) (by kernel_rfl) (fun _ _ _ h => h) (Or.inl ⟨by rfl, by intro w; go_simp⟩) ?_
            refine wpAny_take (i := 6) (v := .int .u8 83) rfl (by kernel_rfl) (by kernel_rfl) (by kernel_rfl) (fun _ _ _ h => h) (Or.inl ⟨by rfl, by intro w; go_simp; rfl⟩) ?_
            refine wpAny_ready (rs := [1]) (by kernel_rfl) (by simp) (AllReady.cons rfl (fun K hK => ?_) AllReady.nil)
            go_simp
            refine (take_ok R b off c bs 0 1 _ hs' (hR.out.1.later (Below.drew (Below.refl _ _)))).mono ?_
            rintro e V ⟨p, k, rfl, hrow, hpb, hrd, has⟩
            obtain ⟨b1, o1, rfl, _, hc⟩ := hrow.resolve_left (by intro e; have := congrArg List.length e; rw [partB_length hs'] at this; simp at this)
            have q : V.cell? ⟨b1, o1, none⟩ = some (.int .u8 y) := by
              have := hc 0 (by rw [partB_length hs']; decide)
              rw [partB_get (by decide)] at this
              exact this.trans (by rw [HY.out])
            have HD : Hid (RdB V R b off c bs (0 + 1) ∧ Aside R w V) := ⟨hrd, hR.out.2.trans ((Aside.of (Below.drew (Below.refl _ _))).trans has)⟩
            clear hrd has hpb hc hR hrow
            refine hK _ _ ?_
            clear hK K
            refine wpAny_take (i := 2) (v := .pointer (some ⟨b1, o1, none⟩)) rfl (by kernel_rfl) (by kernel_rfl) (by kernel_rfl) (fun _ _ _ h => h) (Or.inl ⟨by rfl, by intro w; go_simp⟩) ?_
            refine wpAny_ready (rs := [3]) (by kernel_rfl) (by simp) (AllReady.cons rfl (fun K hK => ?_) AllReady.nil)
            go_simp
            refine hK _ _ ?_
            clear hK K q
            refine wpAny_take (i := 7) (v := .bool false) rfl (by kernel_rfl) (by kernel_rfl) (by kernel_rfl) (fun _ _ _ h => h) (Or.inl ⟨by rfl, by intro w; go_simp⟩) ?_
            refine wpAny_done (by kernel_rfl) ?_ _
            go_wp2
            go_roundw
            case rel => exact ⟨0 + 1, by decide, by go_num, HN, HD⟩
            case measure => simp [intOf]
          · have HX : Hid (firstF (mkF [83, 67, 69, 78] bs) 4 = some (4, (0 : Int))) := firstF_hit (by decide) hA.out (by unfold mkF; rw [if_neg (by omega), if_neg (show ¬ bs.getD 0 0 = ([83, 67, 69, 78] : List Int).getD 0 0 by rw [HY.out]; exact hy)]; rfl)
            have hne : (y != 83) = true := by simpa using hy
            clear hy
            go_wp2
            refine wp_region_any (by kernel_rfl) ?_
            refine wpAny_take (i := 0) (v := .pointer (some ⟨R, 0, none⟩)) rfl (by kernel_rfl) (by kernel_rfl) (by kernel_rfl) (fun _ _ _ h => h) (Or.inl ⟨by rfl, by intro w; go_simp⟩) ?_
            refine wpAny_take (i := 4) (v := .string { data := #[83, 67, 69, 78] }) rfl (by kernel_rfl) (by kernel_rfl) (by kernel_rfl) (fun _ _ _ h => h) (Or.inl ⟨by rfl, by intro w; go_simp⟩) ?_
            refine wpAny_take (i := 5) (v := .int .i64 0) rfl (by kernel_rfl) (by kernel_rfl) (by kernel_rfl) (fun _ _ _ h => h) (Or.inl ⟨by rfl, by intro w; go_simp⟩) ?_
            refine wpAny_take (i := 6) (v := .int .u8 83) rfl (by kernel_rfl) (by kernel_rfl) (by kernel_rfl) (fun _ _ _ h => h) (Or.inl ⟨by rfl, by intro w; go_simp; rfl⟩) ?_
            refine wpAny_ready (rs := [1]) (by kernel_rfl) (by simp) (AllReady.cons rfl (fun K hK => ?_) AllReady.nil)
            go_simp
            refine (take_ok R b off c bs 0 1 _ hs' (hR.out.1.later (Below.drew (Below.refl _ _)))).mono ?_
            rintro e V ⟨p, k, rfl, hrow, hpb, hrd, has⟩
            obtain ⟨b1, o1, rfl, _, hc⟩ := hrow.resolve_left (by intro e; have := congrArg List.length e; rw [partB_length hs'] at this; simp at this)
            have q : V.cell? ⟨b1, o1, none⟩ = some (.int .u8 y) := by
              have := hc 0 (by rw [partB_length hs']; decide)
              rw [partB_get (by decide)] at this
              exact this.trans (by rw [HY.out])
            have HD : Hid (RdB V R b off c bs (0 + 1) ∧ Aside R w V) := ⟨hrd, hR.out.2.trans ((Aside.of (Below.drew (Below.refl _ _))).trans has)⟩
            clear hrd has hpb hc hR hrow
            refine hK _ _ ?_
            clear hK K
            refine wpAny_take (i := 2) (v := .pointer (some ⟨b1, o1, none⟩)) rfl (by kernel_rfl) (by kernel_rfl) (by kernel_rfl) (fun _ _ _ h => h) (Or.inl ⟨by rfl, by intro w; go_simp⟩) ?_
            refine wpAny_ready (rs := [3]) (by kernel_rfl) (by simp) (AllReady.cons rfl (fun K hK => ?_) AllReady.nil)
            go_simp
            refine hK _ _ ?_
            clear hK K q
            refine wpAny_take (i := 7) (v := .bool true) rfl (by kernel_rfl) (by kernel_rfl) (by kernel_rfl) (fun _ _ _ h => h) (Or.inl ⟨by rfl, by intro w; go_simp⟩) ?_
            refine wpAny_done (by kernel_rfl) ?_ _
            go_wp2
            exact ⟨rfl, .inr ⟨_, HX.out, rfl, HD.out.2⟩⟩
        · obtain ⟨y, hy0⟩ : ∃ y, y = bs.getD 1 0 := ⟨_, rfl⟩
          have HY : Hid (bs.getD 1 0 = y) := hy0.symm
          clear hy0
          by_cases hy : y = 67
          · have HN : Hid (firstF (mkF [83, 67, 69, 78] bs) (1 + 1) = none) := firstF_succ hA.out (by unfold mkF; rw [if_neg (by omega), if_pos (show bs.getD 1 0 = ([83, 67, 69, 78] : List Int).getD 1 0 by rw [HY.out]; exact hy)])
            have hne : (y != 67) = false := by rw [hy]; rfl
            clear hy
            go_wp2
            refine wp_region_any (by kernel_rfl) ?_
            refine wpAny_take (i := 0) (v := .pointer (some ⟨R, 0, none⟩)) rfl (by kernel_rfl) (by kernel_rfl) (by kernel_rfl) (fun _ _ _ h => h) (Or.inl ⟨by rfl, by intro w; go_simp⟩) ?_
            refine wpAny_take (i := 4) (v := .string { data := #[83, 67, 69, 78] }) rfl (by kernel_rfl) (by kernel_rfl) (by kernel_rfl) (fun _ _ _ h => h) (Or.inl ⟨by rfl, by intro w; go_simp⟩) ?_
            refine wpAny_take (i := 5) (v := .int .i64 1) rfl (by kernel_rfl) (by kernel_rfl) (by kernel_rfl) (fun _ _ _ h => h) (Or.inl ⟨by rfl, by intro w; go_simp⟩) ?_
            refine wpAny_take (i := 6) (v := .int .u8 67) rfl (by kernel_rfl) (by kernel_rfl) (by kernel_rfl) (fun _ _ _ h => h) (Or.inl ⟨by rfl, by intro w; go_simp; rfl⟩) ?_
            refine wpAny_ready (rs := [1]) (by kernel_rfl) (by simp) (AllReady.cons rfl (fun K hK => ?_) AllReady.nil)
            go_simp
            refine (take_ok R b off c bs 1 1 _ hs' (hR.out.1.later (Below.drew (Below.refl _ _)))).mono ?_
            rintro e V ⟨p, k, rfl, hrow, hpb, hrd, has⟩
            obtain ⟨b1, o1, rfl, _, hc⟩ := hrow.resolve_left (by intro e; have := congrArg List.length e; rw [partB_length hs'] at this; simp at this)
            have q : V.cell? ⟨b1, o1, none⟩ = some (.int .u8 y) := by
              have := hc 0 (by rw [partB_length hs']; decide)
              rw [partB_get (by decide)] at this
              exact this.trans (by rw [HY.out])
            have HD : Hid (RdB V R b off c bs (1 + 1) ∧ Aside R w V) := ⟨hrd, hR.out.2.trans ((Aside.of (Below.drew (Below.refl _ _))).trans has)⟩
            clear hrd has hpb hc hR hrow
            refine hK _ _ ?_
            clear hK K
            refine wpAny_take (i := 2) (v := .pointer (some ⟨b1, o1, none⟩)) rfl (by kernel_rfl) (by kernel_rfl) (by kernel_rfl) (fun _ _ _ h => h) (Or.inl ⟨by rfl, by intro w; go_simp⟩) ?_
            refine wpAny_ready (rs := [3]) (by kernel_rfl) (by simp) (AllReady.cons rfl (fun K hK => ?_) AllReady.nil)
            go_simp
            refine hK _ _ ?_
            clear hK K q
            refine wpAny_take (i := 7) (v := .bool false) rfl (by kernel_rfl) (by kernel_rfl) (by kernel_rfl) (fun _ _ _ h => h) (Or.inl ⟨by rfl, by intro w; go_simp⟩) ?_
            refine wpAny_done (by kernel_rfl) ?_ _
            go_wp2
            go_roundw
            case rel => exact ⟨1 + 1, by decide, by go_num, HN, HD⟩
            case measure => simp [intOf]
          · have HX : Hid (firstF (mkF [83, 67, 69, 78] bs) 4 = some (4, (1 : Int))) := firstF_hit (by decide) hA.out (by unfold mkF; rw [if_neg (by omega), if_neg (show ¬ bs.getD 1 0 = ([83, 67, 69, 78] : List Int).getD 1 0 by rw [HY.out]; exact hy)]; rfl)
            have hne : (y != 67) = true := by simpa using hy
            clear hy
            go_wp2
            refine wp_region_any (by kernel_rfl) ?_
            refine wpAny_take (i := 0) (v := .pointer (some ⟨R, 0, none⟩)) rfl (by kernel_rfl) (by kernel_rfl) (by kernel_rfl) (fun _ _ _ h => h) (Or.inl ⟨by rfl, by intro w; go_simp⟩) ?_
            refine wpAny_take (i := 4) (v := .string { data := #[83, 67, 69, 78] }) rfl (by kernel_rfl) (by kernel_rfl) (by kernel_rfl) (fun _ _ _ h => h) (Or.inl ⟨by rfl, by intro w; go_simp⟩) ?_
            refine wpAny_take (i := 5) (v := .int .i64 1) rfl (by kernel_rfl) (by kernel_rfl) (by kernel_rfl) (fun _ _ _ h => h) (Or.inl ⟨by rfl, by intro w; go_simp⟩) ?_
            refine wpAny_take (i := 6) (v := .int .u8 67) rfl (by kernel_rfl) (by kernel_rfl) (by kernel_rfl) (fun _ _ _ h => h) (Or.inl ⟨by rfl, by intro w; go_simp; rfl⟩) ?_
            refine wpAny_ready (rs := [1]) (by kernel_rfl) (by simp) (AllReady.cons rfl (fun K hK => ?_) AllReady.nil)
            go_simp
            refine (take_ok R b off c bs 1 1 _ hs' (hR.out.1.later (Below.drew (Below.refl _ _)))).mono ?_
            rintro e V ⟨p, k, rfl, hrow, hpb, hrd, has⟩
            obtain ⟨b1, o1, rfl, _, hc⟩ := hrow.resolve_left (by intro e; have := congrArg List.length e; rw [partB_length hs'] at this; simp at this)
            have q : V.cell? ⟨b1, o1, none⟩ = some (.int .u8 y) := by
              have := hc 0 (by rw [partB_length hs']; decide)
              rw [partB_get (by decide)] at this
              exact this.trans (by rw [HY.out])
            have HD : Hid (RdB V R b off c bs (1 + 1) ∧ Aside R w V) := ⟨hrd, hR.out.2.trans ((Aside.of (Below.drew (Below.refl _ _))).trans has)⟩
            clear hrd has hpb hc hR hrow
            refine hK _ _ ?_
            clear hK K
            refine wpAny_take (i := 2) (v := .pointer (some ⟨b1, o1, none⟩)) rfl (by kernel_rfl) (by kernel_rfl) (by kernel_rfl) (fun _ _ _ h => h) (Or.inl ⟨by rfl, by intro w; go_simp⟩) ?_
            refine wpAny_ready (rs := [3]) (by kernel_rfl) (by simp) (AllReady.cons rfl (fun K hK => ?_) AllReady.nil)
            go_simp
            refine hK _ _ ?_
            clear hK K q
            refine wpAny_take (i := 7) (v := .bool true) rfl (by kernel_rfl) (by kernel_rfl) (by kernel_rfl) (fun _ _ _ h => h) (Or.inl ⟨by rfl, by intro w; go_simp⟩) ?_
            refine wpAny_done (by kernel_rfl) ?_ _
            go_wp2
            exact ⟨rfl, .inr ⟨_, HX.out, rfl, HD.out.2⟩⟩
        · obtain ⟨y, hy0⟩ : ∃ y, y = bs.getD 2 0 := ⟨_, rfl⟩
          have HY : Hid (bs.getD 2 0 = y) := hy0.symm
          clear hy0
          by_cases hy : y = 69
          · have HN : Hid (firstF (mkF [83, 67, 69, 78] bs) (2 + 1) = none) := firstF_succ hA.out (by unfold mkF; rw [if_neg (by omega), if_pos (show bs.getD 2 0 = ([83, 67, 69, 78] : List Int).getD 2 0 by rw [HY.out]; exact hy)])
            have hne : (y != 69) = false := by rw [hy]; rfl
            clear hy
            go_wp2
            refine wp_region_any (by kernel_rfl) ?_
            refine wpAny_take (i := 0) (v := .pointer (some ⟨R, 0, none⟩)) rfl (by kernel_rfl) (by kernel_rfl) (by kernel_rfl) (fun _ _ _ h => h) (Or.inl ⟨by rfl, by intro w; go_simp⟩) ?_
            refine wpAny_take (i := 4) (v := .string { data := #[83, 67, 69, 78] }) rfl (by kernel_rfl) (by kernel_rfl) (by kernel_rfl) (fun _ _ _ h => h) (Or.inl ⟨by rfl, by intro w; go_simp⟩) ?_
            refine wpAny_take (i := 5) (v := .int .i64 2) rfl (by kernel_rfl) (by kernel_rfl) (by kernel_rfl) (fun _ _ _ h => h) (Or.inl ⟨by rfl, by intro w; go_simp⟩) ?_
            refine wpAny_take (i := 6) (v := .int .u8 69) rfl (by kernel_rfl) (by kernel_rfl) (by kernel_rfl) (fun _ _ _ h => h) (Or.inl ⟨by rfl, by intro w; go_simp; rfl⟩) ?_
            refine wpAny_ready (rs := [1]) (by kernel_rfl) (by simp) (AllReady.cons rfl (fun K hK => ?_) AllReady.nil)
            go_simp
            refine (take_ok R b off c bs 2 1 _ hs' (hR.out.1.later (Below.drew (Below.refl _ _)))).mono ?_
            rintro e V ⟨p, k, rfl, hrow, hpb, hrd, has⟩
            obtain ⟨b1, o1, rfl, _, hc⟩ := hrow.resolve_left (by intro e; have := congrArg List.length e; rw [partB_length hs'] at this; simp at this)
            have q : V.cell? ⟨b1, o1, none⟩ = some (.int .u8 y) := by
              have := hc 0 (by rw [partB_length hs']; decide)
              rw [partB_get (by decide)] at this
              exact this.trans (by rw [HY.out])
            have HD : Hid (RdB V R b off c bs (2 + 1) ∧ Aside R w V) := ⟨hrd, hR.out.2.trans ((Aside.of (Below.drew (Below.refl _ _))).trans has)⟩
            clear hrd has hpb hc hR hrow
            refine hK _ _ ?_
            clear hK K
            refine wpAny_take (i := 2) (v := .pointer (some ⟨b1, o1, none⟩)) rfl (by kernel_rfl) (by kernel_rfl) (by kernel_rfl) (fun _ _ _ h => h) (Or.inl ⟨by rfl, by intro w; go_simp⟩) ?_
            refine wpAny_ready (rs := [3]) (by kernel_rfl) (by simp) (AllReady.cons rfl (fun K hK => ?_) AllReady.nil)
            go_simp
            refine hK _ _ ?_
            clear hK K q
            refine wpAny_take (i := 7) (v := .bool false) rfl (by kernel_rfl) (by kernel_rfl) (by kernel_rfl) (fun _ _ _ h => h) (Or.inl ⟨by rfl, by intro w; go_simp⟩) ?_
            refine wpAny_done (by kernel_rfl) ?_ _
            go_wp2
            go_roundw
            case rel => exact ⟨2 + 1, by decide, by go_num, HN, HD⟩
            case measure => simp [intOf]
          · have HX : Hid (firstF (mkF [83, 67, 69, 78] bs) 4 = some (4, (2 : Int))) := firstF_hit (by decide) hA.out (by unfold mkF; rw [if_neg (by omega), if_neg (show ¬ bs.getD 2 0 = ([83, 67, 69, 78] : List Int).getD 2 0 by rw [HY.out]; exact hy)]; rfl)
            have hne : (y != 69) = true := by simpa using hy
            clear hy
            go_wp2
            refine wp_region_any (by kernel_rfl) ?_
            refine wpAny_take (i := 0) (v := .pointer (some ⟨R, 0, none⟩)) rfl (by kernel_rfl) (by kernel_rfl) (by kernel_rfl) (fun _ _ _ h => h) (Or.inl ⟨by rfl, by intro w; go_simp⟩) ?_
            refine wpAny_take (i := 4) (v := .string { data := #[83, 67, 69, 78] }) rfl (by kernel_rfl) (by kernel_rfl) (by kernel_rfl) (fun _ _ _ h => h) (Or.inl ⟨by rfl, by intro w; go_simp⟩) ?_
            refine wpAny_take (i := 5) (v := .int .i64 2) rfl (by kernel_rfl) (by kernel_rfl) (by kernel_rfl) (fun _ _ _ h => h) (Or.inl ⟨by rfl, by intro w; go_simp⟩) ?_
            refine wpAny_take (i := 6) (v := .int .u8 69) rfl (by kernel_rfl) (by kernel_rfl) (by kernel_rfl) (fun _ _ _ h => h) (Or.inl ⟨by rfl, by intro w; go_simp; rfl⟩) ?_
            refine wpAny_ready (rs := [1]) (by kernel_rfl) (by simp) (AllReady.cons rfl (fun K hK => ?_) AllReady.nil)
            go_simp
            refine (take_ok R b off c bs 2 1 _ hs' (hR.out.1.later (Below.drew (Below.refl _ _)))).mono ?_
            rintro e V ⟨p, k, rfl, hrow, hpb, hrd, has⟩
            obtain ⟨b1, o1, rfl, _, hc⟩ := hrow.resolve_left (by intro e; have := congrArg List.length e; rw [partB_length hs'] at this; simp at this)
            have q : V.cell? ⟨b1, o1, none⟩ = some (.int .u8 y) := by
              have := hc 0 (by rw [partB_length hs']; decide)
              rw [partB_get (by decide)] at this
              exact this.trans (by rw [HY.out])
            have HD : Hid (RdB V R b off c bs (2 + 1) ∧ Aside R w V) := ⟨hrd, hR.out.2.trans ((Aside.of (Below.drew (Below.refl _ _))).trans has)⟩
            clear hrd has hpb hc hR hrow
            refine hK _ _ ?_
            clear hK K
            refine wpAny_take (i := 2) (v := .pointer (some ⟨b1, o1, none⟩)) rfl (by kernel_rfl) (by kernel_rfl) (by kernel_rfl) (fun _ _ _ h => h) (Or.inl ⟨by rfl, by intro w; go_simp⟩) ?_
            refine wpAny_ready (rs := [3]) (by kernel_rfl) (by simp) (AllReady.cons rfl (fun K hK => ?_) AllReady.nil)
            go_simp
            refine hK _ _ ?_
            clear hK K q
            refine wpAny_take (i := 7) (v := .bool true) rfl (by kernel_rfl) (by kernel_rfl) (by kernel_rfl) (fun _ _ _ h => h) (Or.inl ⟨by rfl, by intro w; go_simp⟩) ?_
            refine wpAny_done (by kernel_rfl) ?_ _
            go_wp2
            exact ⟨rfl, .inr ⟨_, HX.out, rfl, HD.out.2⟩⟩
        · obtain ⟨y, hy0⟩ : ∃ y, y = bs.getD 3 0 := ⟨_, rfl⟩
          have HY : Hid (bs.getD 3 0 = y) := hy0.symm
          clear hy0
          by_cases hy : y = 78
          · have HN : Hid (firstF (mkF [83, 67, 69, 78] bs) (3 + 1) = none) := firstF_succ hA.out (by unfold mkF; rw [if_neg (by omega), if_pos (show bs.getD 3 0 = ([83, 67, 69, 78] : List Int).getD 3 0 by rw [HY.out]; exact hy)])
            have hne : (y != 78) = false := by rw [hy]; rfl
            clear hy
            go_wp2
            refine wp_region_any (by kernel_rfl) ?_
            refine wpAny_take (i := 0) (v := .pointer (some ⟨R, 0, none⟩)) rfl (by kernel_rfl) (by kernel_rfl) (by kernel_rfl) (fun _ _ _ h => h) (Or.inl ⟨by rfl, by intro w; go_simp⟩) ?_
            refine wpAny_take (i := 4) (v := .string { data := #[83, 67, 69, 78] }) rfl (by kernel_rfl) (by kernel_rfl) (by kernel_rfl) (fun _ _ _ h => h) (Or.inl ⟨by rfl, by intro w; go_simp⟩) ?_
            refine wpAny_take (i := 5) (v := .int .i64 3) rfl (by kernel_rfl) (by kernel_rfl) (by kernel_rfl) (fun _ _ _ h => h) (Or.inl ⟨by rfl, by intro w; go_simp⟩) ?_
            refine wpAny_take (i := 6) (v := .int .u8 78) rfl (by kernel_rfl) (by kernel_rfl) (by kernel_rfl) (fun _ _ _ h => h) (Or.inl ⟨by rfl, by intro w; go_simp; rfl⟩) ?_
            refine wpAny_ready (rs := [1]) (by kernel_rfl) (by simp) (AllReady.cons rfl (fun K hK => ?_) AllReady.nil)
            go_simp
            refine (take_ok R b off c bs 3 1 _ hs' (hR.out.1.later (Below.drew (Below.refl _ _)))).mono ?_
            rintro e V ⟨p, k, rfl, hrow, hpb, hrd, has⟩
            obtain ⟨b1, o1, rfl, _, hc⟩ := hrow.resolve_left (by intro e; have := congrArg List.length e; rw [partB_length hs'] at this; simp at this)
            have q : V.cell? ⟨b1, o1, none⟩ = some (.int .u8 y) := by
              have := hc 0 (by rw [partB_length hs']; decide)
              rw [partB_get (by decide)] at this
              exact this.trans (by rw [HY.out])
            have HD : Hid (RdB V R b off c bs (3 + 1) ∧ Aside R w V) := ⟨hrd, hR.out.2.trans ((Aside.of (Below.drew (Below.refl _ _))).trans has)⟩
            clear hrd has hpb hc hR hrow
            refine hK _ _ ?_
            clear hK K
            refine wpAny_take (i := 2) (v := .pointer (some ⟨b1, o1, none⟩)) rfl (by kernel_rfl) (by kernel_rfl) (by kernel_rfl) (fun _ _ _ h => h) (Or.inl ⟨by rfl, by intro w; go_simp⟩) ?_
            refine wpAny_ready (rs := [3]) (by kernel_rfl) (by simp) (AllReady.cons rfl (fun K hK => ?_) AllReady.nil)
            go_simp
            refine hK _ _ ?_
            clear hK K q
            refine wpAny_take (i := 7) (v := .bool false) rfl (by kernel_rfl) (by kernel_rfl) (by kernel_rfl) (fun _ _ _ h => h) (Or.inl ⟨by rfl, by intro w; go_simp⟩) ?_
            refine wpAny_done (by kernel_rfl) ?_ _
            go_wp2
            go_roundw
            case rel => exact ⟨3 + 1, by decide, by go_num, HN, HD⟩
            case measure => simp [intOf]
          · have HX : Hid (firstF (mkF [83, 67, 69, 78] bs) 4 = some (4, (3 : Int))) := firstF_hit (by decide) hA.out (by unfold mkF; rw [if_neg (by omega), if_neg (show ¬ bs.getD 3 0 = ([83, 67, 69, 78] : List Int).getD 3 0 by rw [HY.out]; exact hy)]; rfl)
            have hne : (y != 78) = true := by simpa using hy
            clear hy
            go_wp2
            refine wp_region_any (by kernel_rfl) ?_
            refine wpAny_take (i := 0) (v := .pointer (some ⟨R, 0, none⟩)) rfl (by kernel_rfl) (by kernel_rfl) (by kernel_rfl) (fun _ _ _ h => h) (Or.inl ⟨by rfl, by intro w; go_simp⟩) ?_
            refine wpAny_take (i := 4) (v := .string { data := #[83, 67, 69, 78] }) rfl (by kernel_rfl) (by kernel_rfl) (by kernel_rfl) (fun _ _ _ h => h) (Or.inl ⟨by rfl, by intro w; go_simp⟩) ?_
            refine wpAny_take (i := 5) (v := .int .i64 3) rfl (by kernel_rfl) (by kernel_rfl) (by kernel_rfl) (fun _ _ _ h => h) (Or.inl ⟨by rfl, by intro w; go_simp⟩) ?_
            refine wpAny_take (i := 6) (v := .int .u8 78) rfl (by kernel_rfl) (by kernel_rfl) (by kernel_rfl) (fun _ _ _ h => h) (Or.inl ⟨by rfl, by intro w; go_simp; rfl⟩) ?_
            refine wpAny_ready (rs := [1]) (by kernel_rfl) (by simp) (AllReady.cons rfl (fun K hK => ?_) AllReady.nil)
            go_simp
            refine (take_ok R b off c bs 3 1 _ hs' (hR.out.1.later (Below.drew (Below.refl _ _)))).mono ?_
            rintro e V ⟨p, k, rfl, hrow, hpb, hrd, has⟩
            obtain ⟨b1, o1, rfl, _, hc⟩ := hrow.resolve_left (by intro e; have := congrArg List.length e; rw [partB_length hs'] at this; simp at this)
            have q : V.cell? ⟨b1, o1, none⟩ = some (.int .u8 y) := by
              have := hc 0 (by rw [partB_length hs']; decide)
              rw [partB_get (by decide)] at this
              exact this.trans (by rw [HY.out])
            have HD : Hid (RdB V R b off c bs (3 + 1) ∧ Aside R w V) := ⟨hrd, hR.out.2.trans ((Aside.of (Below.drew (Below.refl _ _))).trans has)⟩
            clear hrd has hpb hc hR hrow
            refine hK _ _ ?_
            clear hK K
            refine wpAny_take (i := 2) (v := .pointer (some ⟨b1, o1, none⟩)) rfl (by kernel_rfl) (by kernel_rfl) (by kernel_rfl) (fun _ _ _ h => h) (Or.inl ⟨by rfl, by intro w; go_simp⟩) ?_
            refine wpAny_ready (rs := [3]) (by kernel_rfl) (by simp) (AllReady.cons rfl (fun K hK => ?_) AllReady.nil)
            go_simp
            refine hK _ _ ?_
            clear hK K q
            refine wpAny_take (i := 7) (v := .bool true) rfl (by kernel_rfl) (by kernel_rfl) (by kernel_rfl) (fun _ _ _ h => h) (Or.inl ⟨by rfl, by intro w; go_simp⟩) ?_
            refine wpAny_done (by kernel_rfl) ?_ _
            go_wp2
            exact ⟨rfl, .inr ⟨_, HX.out, rfl, HD.out.2⟩⟩
    · have hje : j = 4 := by omega
      subst hje
      go_wp2
      go_end0
      exact .inl ⟨hA.out, rfl, hR.out.1, hR.out.2⟩

set_option maxHeartbeats 400000 in
theorem mark_scen_none (R : Nat) (a : Option Addr) (c : Nat) (w : World) (c0 : w.cell? ⟨R, 0, none⟩ = some (.slice a 0 c)) (c1 : w.cell? ⟨R, 1, none⟩ = some (.int .i64 0)) :
    Calls Tryz.prog 158 #[.pointer (some ⟨R, 0, none⟩), .string { data := #[83, 67, 69, 78] }] w fun e w' => ThrowOut w R (5, 0) e w' := by
  go_enter Tryz.func158, Tryz.ntmps158
  go_wp2
  go_loopw [4, 7] (fun _ si wr => si = .int .i64 0 ∧ wr = w) (fun _ si _ => 4 - (intOf si).toNat)
  case atStart => exact ⟨rfl, rfl⟩
  case round =>
    obtain ⟨rfl, rfl⟩ := hrel
    go_wp2
    refine wp_region_any (by kernel_rfl) ?_
    refine wpAny_take (i := 0) (v := .pointer (some ⟨R, 0, none⟩)) rfl (by kernel_rfl) (by kernel_rfl) (by kernel_rfl) (fun _ _ _ h => h) (Or.inl ⟨by rfl, by intro w; go_simp⟩) ?_
    refine wpAny_take (i := 4) (v := .string { data := #[83, 67, 69, 78] }) rfl (by kernel_rfl) (by kernel_rfl) (by kernel_rfl) (fun _ _ _ h => h) (Or.inl ⟨by rfl, by intro w; go_simp⟩) ?_
    refine wpAny_take (i := 5) (v := .int .i64 0) rfl (by kernel_rfl) (by kernel_rfl) (by kernel_rfl) (fun _ _ _ h => h) (Or.inl ⟨by rfl, by intro w; go_simp⟩) ?_
    refine wpAny_take (i := 6) (v := .int .u8 83) rfl (by kernel_rfl) (by kernel_rfl) (by kernel_rfl) (fun _ _ _ h => h) (Or.inl ⟨by rfl, by intro w; go_simp; rfl⟩) ?_
    refine wpAny_ready (rs := [1]) (by kernel_rfl) (by simp) (AllReady.cons rfl (fun K hK => ?_) AllReady.nil)
    go_simp
    refine (take_none R a c wr.drew c0 c1).mono ?_
    rintro e V ⟨rfl, has⟩
    exact ⟨rfl, rfl, (Aside.of (Below.drew (Below.refl _ _))).trans has⟩

end Go.Proofs.YtfcnokagfibgcahGreat

/-
  The first fault of a scene's bytes, piece by piece, as the program's reader comes to it.
-/
namespace Go.Proofs.YtfcnokagfibgcahGreat
open Go.RowKit

theorem orF_assoc {α : Type} (x y z : Option α) : orF (orF x y) z = orF x (orF y z) := by
  cases x with
  | none => rfl
  | some x => rfl
theorem orF_nil {α : Type} (x : Option α) : orF x none = x := by
  cases x with
  | none => rfl
  | some x => rfl
theorem firstF_orF {α : Type} (f : Nat → Option α) (n : Nat) : firstF f (n + 1) = orF (firstF f n) (f n) := by
  show (match firstF f n with
    | some x => some x
    | none => f n) = _
  cases firstF f n with
  | none => rfl
  | some x => rfl
theorem firstF_congr {α : Type} {f g : Nat → Option α} : ∀ {n : Nat}, (∀ j, j < n → f j = g j) → firstF f n = firstF g n
  | 0, _ => rfl
  | n + 1, h => by rw [firstF_orF, firstF_orF, firstF_congr (fun j hj => h j (Nat.lt_succ_of_lt hj)), h n (Nat.lt_succ_self _)]
theorem firstF_add {α : Type} (f : Nat → Option α) (a : Nat) : ∀ b, firstF f (a + b) = orF (firstF f a) (firstF (fun j => f (a + j)) b)
  | 0 => by rw [Nat.add_zero]; exact (orF_nil _).symm
  | b + 1 => by rw [← Nat.add_assoc, firstF_orF, firstF_add f a b, firstF_orF, orF_assoc]
theorem firstF_mul {α : Type} (f : Nat → Option α) (m : Nat) : ∀ n, firstF f (m * n) = firstF (fun k => firstF (fun j => f (m * k + j)) m) n
  | 0 => rfl
  | n + 1 => by rw [Nat.mul_succ, firstF_add, firstF_mul f m n, firstF_orF]

theorem mkF_scen (bs : List Int) : mkF [83, 67, 69, 78] bs = magicAt bs := rfl

theorem cnt_eq {bs : List Int} (hu : U8 bs) (k : Nat) : cntF bs (cntPl k) (cntSz k) (cntMo k) = cntAt bs k := by
  have hsz : cntSz k ≤ 4 := by unfold cntSz; split <;> decide
  unfold cntF cntAt cntB
  by_cases h : bs.length < cntPl k + cntSz k
  · rw [if_pos h, if_pos ((numB_neg hu hsz).2 h)]
  · rw [if_neg h, if_neg (fun q => h ((numB_neg hu hsz).1 q))]

theorem flt_eq {bs : List Int} (hu : U8 bs) {c0 c1 i : Nat} (hd : dirAt bs c0 c1 i = false) : fltAt bs c0 c1 i = fltF bs (9 + 4 * i) := by
  unfold fltAt fltF
  by_cases h : bs.length < 9 + 4 * i + 4
  · rw [if_pos h, if_pos ((numB_neg hu (by decide)).2 h)]
  · rw [if_neg h, if_neg (fun q => h ((numB_neg hu (by decide)).1 q)), hd]
    rfl
theorem dir_tri {bs : List Int} {c0 c1 i : Nat} (h : i < 9 * c0) : dirAt bs c0 c1 i = false := by
  unfold dirAt
  rw [decide_eq_false (by omega)]
  rfl
theorem dir_end {bs : List Int} {c0 c1 i : Nat} (h : 9 * c0 + 6 * c1 ≤ i) : dirAt bs c0 c1 i = false := by
  unfold dirAt
  rw [decide_eq_false (p := i < 9 * c0 + 6 * c1) (by omega)]
  simp
theorem dir_mid {bs : List Int} {c0 c1 i : Nat} (h : (i - 9 * c0) % 6 ≠ 5) : dirAt bs c0 c1 i = false := by
  unfold dirAt
  rw [decide_eq_false (p := (i - 9 * c0) % 6 = 5) h]
  simp

theorem fltF_at {bs : List Int} {p q : Nat} (h : p = q) : fltF bs p = fltF bs q := by rw [h]

theorem tri_block {bs : List Int} (hu : U8 bs) {c0 c1 k : Nat} (hk : k < c0) : firstF (fun j => fltAt bs c0 c1 (9 * k + j)) 9 = triF bs (9 + 4 * 9 * k) := by
  have e : ∀ j, j < 9 → fltAt bs c0 c1 (9 * k + j) = fltF bs (9 + 4 * 9 * k + 4 * j) := by
    intro j hj
    rw [flt_eq hu (dir_tri (by omega))]
    exact fltF_at (by omega)
  rw [firstF_congr e]
  simp only [firstF_orF, orF_assoc]
  unfold triF ptF
  simp only [orF_assoc]
  rfl
theorem pt_block {bs : List Int} (hu : U8 bs) {c0 c1 k : Nat} : firstF (fun j => fltAt bs c0 c1 (9 * c0 + 6 * c1 + (3 * k + j))) 3 = ptF bs (9 + 36 * c0 + 24 * c1 + 4 * 3 * k) := by
  have e : ∀ j, j < 3 → fltAt bs c0 c1 (9 * c0 + 6 * c1 + (3 * k + j)) = fltF bs (9 + 36 * c0 + 24 * c1 + 4 * 3 * k + 4 * j) := by
    intro j hj
    rw [flt_eq hu (dir_end (by omega))]
    exact fltF_at (by omega)
  rw [firstF_congr e]
  simp only [firstF_orF, orF_assoc]
  rfl

/-- The last float of a ray. -/
theorem ray_last {bs : List Int} (hu : U8 bs) {c0 c1 k P : Nat} (hk : k < c1) (hP : P = 9 + 36 * c0 + 24 * k) : fltAt bs c0 c1 (9 * c0 + (6 * k + 5)) = orF (fltF bs (P + 12 + 8)) (if noWayB (numB bs (P + 12) 4) (numB bs (P + 12 + 4) 4) (numB bs (P + 12 + 8) 4) = true then some (7, ((P + 12 : Nat) : Int)) else none) := by
  have e1 : 9 + 4 * (9 * c0 + (6 * k + 5)) = P + 12 + 8 := by omega
  have e2 : 1 + 4 * (9 * c0 + (6 * k + 5)) = P + 12 := by omega
  unfold fltAt fltF
  rw [e1, e2]
  by_cases h : bs.length < P + 12 + 8 + 4
  · rw [if_pos h, if_pos ((numB_neg hu (by decide)).2 h)]
    rfl
  · rw [if_neg h, if_neg (fun q => h ((numB_neg hu (by decide)).1 q))]
    by_cases hf : fFin (numB bs (P + 12 + 8) 4) = false
    · rw [if_pos hf, if_pos hf]
      rfl
    · rw [if_neg hf, if_neg hf]
      show _ = if _ then _ else none
      have hd : dirAt bs c0 c1 (9 * c0 + (6 * k + 5)) = noWayB (numB bs (P + 12) 4) (numB bs (P + 12 + 4) 4) (numB bs (P + 12 + 8) 4) := by
        unfold dirAt
        rw [e2, decide_eq_true (p := 9 * c0 ≤ 9 * c0 + (6 * k + 5)) (by omega), decide_eq_true (p := 9 * c0 + (6 * k + 5) < 9 * c0 + 6 * c1) (by omega), decide_eq_true (p := (9 * c0 + (6 * k + 5) - 9 * c0) % 6 = 5) (by omega), flt_num (by omega), flt_num (by omega), flt_num (by omega)]
        rfl
      rw [hd]
theorem ray_block {bs : List Int} (hu : U8 bs) {c0 c1 k : Nat} (hk : k < c1) : firstF (fun j => fltAt bs c0 c1 (9 * c0 + (6 * k + j))) 6 = rayF bs (9 + 36 * c0 + 4 * 6 * k) := by
  have e : ∀ j, j < 5 → fltAt bs c0 c1 (9 * c0 + (6 * k + j)) = fltF bs (9 + 36 * c0 + 4 * 6 * k + 4 * j) := by
    intro j hj
    rw [flt_eq hu (dir_mid (by omega))]
    exact fltF_at (by omega)
  rw [firstF_orF, firstF_congr e, ray_last hu hk (P := 9 + 36 * c0 + 4 * 6 * k) (by omega)]
  simp only [firstF_orF, orF_assoc]
  unfold rayF ptF
  simp only [orF_assoc]
  rfl

/-- Where the rays and the lights begin. -/
theorem tail_split {bs : List Int} (hu : U8 bs) (c0 c1 c2 : Nat) : firstF (fltAt bs c0 c1) (fltN c0 c1 c2) =
    orF (firstF (fun j => triF bs (9 + 4 * 9 * j)) c0) (orF (firstF (fun j => rayF bs (9 + 36 * c0 + 4 * 6 * j)) c1) (firstF (fun j => ptF bs (9 + 36 * c0 + 24 * c1 + 4 * 3 * j)) c2)) := by
  unfold fltN
  rw [firstF_add, firstF_add, firstF_mul, firstF_mul, firstF_mul, orF_assoc]
  rw [firstF_congr (fun k hk => tri_block hu hk), firstF_congr (fun k hk => ray_block hu hk), firstF_congr (fun k _ => pt_block hu)]

end Go.Proofs.YtfcnokagfibgcahGreat

/-
  The program's reader: scene.
-/
namespace Go.Proofs.YtfcnokagfibgcahGreat
open Go.RowKit

theorem rowIn_aside {k : IntKind} {w w' : World} {lo hi R : Nat} {a : Option Addr} {zs : List Int} (h : RowIn k w lo hi a zs) (ha : Aside R w w') (hR : R < lo) : RowIn k w' lo hi a zs := by
  rcases h with h | ⟨b, off, q1, q0, q00, q2, q3, q4⟩
  · exact .inl h
  · exact .inr ⟨b, off, q1, q0, q00, Nat.lt_of_lt_of_le q2 ha.size, fun j hj => (ha.cell (p := ⟨b, off + j, none⟩) q2 (by simp; omega)).trans (q3 j hj), fun j hj => (ha.frozen (p := ⟨b, off + j, none⟩) q2 (by simp; omega)).trans (q4 j hj)⟩

/-- A box of three values that may be written. -/
structure BxF (w : World) (X : Nat) (v0 v1 v2 : Value) : Prop where
  lt : X < w.heap.size
  q0 : w.cell? ⟨X, 0, none⟩ = some v0
  q1 : w.cell? ⟨X, 1, none⟩ = some v1
  q2 : w.cell? ⟨X, 2, none⟩ = some v2
  fr : ∀ j, w.frozen? ⟨X, j, none⟩ = false
theorem BxF.aside {w w' : World} {X R : Nat} {v0 v1 v2 : Value} (h : BxF w X v0 v1 v2) (ha : Aside R w w') (hR : X ≠ R) : BxF w' X v0 v1 v2 :=
  ⟨Nat.lt_of_lt_of_le h.lt ha.size, (ha.cell (p := ⟨X, 0, none⟩) h.lt hR).trans h.q0, (ha.cell (p := ⟨X, 1, none⟩) h.lt hR).trans h.q1, (ha.cell (p := ⟨X, 2, none⟩) h.lt hR).trans h.q2, fun j => (ha.frozen (p := ⟨X, j, none⟩) h.lt hR).trans (h.fr j)⟩
theorem BxF.new (w : World) (v0 v1 v2 : Value) (t : TypeId) : BxF (w.alloc (.cells #[v0, v1, v2] t)) w.heap.size v0 v1 v2 :=
  ⟨by simp, by simp [go_sem], by simp [go_sem], by simp [go_sem], fun j => by simp [go_sem]⟩
theorem BxF.other {w : World} {X k : Nat} {v0 v1 v2 : Value} (h : BxF w X v0 v1 v2) (hk : k ≠ X) (j : Nat) (v : Value) : BxF (w.setCell ⟨k, j, none⟩ v) X v0 v1 v2 :=
  h.aside ((Aside.refl k w).set j v) (fun e => hk e.symm)
theorem BxF.set0 {w : World} {X : Nat} {v0 v1 v2 : Value} (h : BxF w X v0 v1 v2) (v : Value) : BxF (w.setCell ⟨X, 0, none⟩ v) X v v1 v2 :=
  ⟨by simpa using h.lt, World.cell?_setCell_same _ _ _ h.q0, by rw [World.cell?_setCell_other _ _ _ _ (by simp)]; exact h.q1, by rw [World.cell?_setCell_other _ _ _ _ (by simp)]; exact h.q2, fun j => by rw [World.frozen?_setCell]; exact h.fr j⟩
theorem BxF.set1 {w : World} {X : Nat} {v0 v1 v2 : Value} (h : BxF w X v0 v1 v2) (v : Value) : BxF (w.setCell ⟨X, 1, none⟩ v) X v0 v v2 :=
  ⟨by simpa using h.lt, by rw [World.cell?_setCell_other _ _ _ _ (by simp)]; exact h.q0, World.cell?_setCell_same _ _ _ h.q1, by rw [World.cell?_setCell_other _ _ _ _ (by simp)]; exact h.q2, fun j => by rw [World.frozen?_setCell]; exact h.fr j⟩
theorem BxF.set2 {w : World} {X : Nat} {v0 v1 v2 : Value} (h : BxF w X v0 v1 v2) (v : Value) : BxF (w.setCell ⟨X, 2, none⟩ v) X v0 v1 v :=
  ⟨by simpa using h.lt, by rw [World.cell?_setCell_other _ _ _ _ (by simp)]; exact h.q0, by rw [World.cell?_setCell_other _ _ _ _ (by simp)]; exact h.q1, World.cell?_setCell_same _ _ _ h.q2, fun j => by rw [World.frozen?_setCell]; exact h.fr j⟩

/-- What scene answers, or throws. -/
def ScnOut (w : World) (R : Nat) (bs : List Int) (e : Ending) (w' : World) : Prop :=
  ((faultF bs).1 = 0 ∧ ∃ a1 a2 a3 c1 c2 c3 l1 h1 l2 h2 l3 h3, e = .returned (.agg #[.slice a1 (decN bs 0) c1, .slice a2 (decN bs 1) c2, .slice a3 (decN bs 2) c3]) ∧
    ScDj w' w.heap.size w'.heap.size a1 a2 a3 (decN bs 0) (decN bs 1) (decN bs 2) (decZ1 bs) (decZ2 bs) (decZ3 bs) l1 h1 l2 h2 l3 h3 ∧ Aside R w w') ∨
  ((faultF bs).1 ≠ 0 ∧ ThrowOut w R (faultF bs) e w')

end Go.Proofs.YtfcnokagfibgcahGreat

/-
  Drawn rays and lights, round by round; memory while a scene is drawn.
-/
namespace Go.Proofs.YtfcnokagfibgcahGreat
open Go.RowKit

/-- The ray of a drawn pair, and the bytes that are left. -/
def RoundR (wild : Bool) (rs ys rs' : List Int) : Prop := ∃ x0 x1 x2 x3 x4 x5 x6 x7 x8 y0 y1 y2 y3 y4 y5, ys = [y0, y1, y2, y3, y4, y5] ∧ PairD wild rs x0 x1 x2 x3 x4 x5 x6 x7 x8 y0 y1 y2 y3 y4 y5 rs'
theorem roundR (wild : Bool) (rs : List Int) : ∃ ys rs', RoundR wild rs ys rs' := by
  obtain ⟨x0, x1, x2, x3, x4, x5, x6, x7, x8, y0, y1, y2, y3, y4, y5, rs', hp⟩ := pairD wild rs
  exact ⟨_, _, x0, x1, x2, x3, x4, x5, x6, x7, x8, y0, y1, y2, y3, y4, y5, rfl, hp⟩
noncomputable def pairY (wild : Bool) (rs : List Int) : List Int := Classical.choose (roundR wild rs)
noncomputable def pairR (wild : Bool) (rs : List Int) : List Int := Classical.choose (Classical.choose_spec (roundR wild rs))
theorem pair_spec (wild : Bool) (rs : List Int) : RoundR wild rs (pairY wild rs) (pairR wild rs) := Classical.choose_spec (Classical.choose_spec (roundR wild rs))
noncomputable def raysS (wild : Bool) (rs : List Int) : Nat → List Int × List Int
  | 0 => ([], rs)
  | j + 1 => ((raysS wild rs j).1 ++ pairY wild (raysS wild rs j).2, pairR wild (raysS wild rs j).2)
theorem raysS_good (wild : Bool) (rs : List Int) : ∀ j, (raysS wild rs j).1.length = j * 6 ∧ U32 (raysS wild rs j).1
  | 0 => ⟨rfl, fun z hz => by simp [raysS] at hz⟩
  | j + 1 => by
    have h := raysS_good wild rs j
    obtain ⟨x0, x1, x2, x3, x4, x5, x6, x7, x8, y0, y1, y2, y3, y4, y5, he, hp⟩ := pair_spec wild (raysS wild rs j).2
    refine ⟨?_, fun z hz => ?_⟩
    · rw [raysS, List.length_append, h.1, he]; simp; omega
    · rcases List.mem_append.1 hz with h1 | h1
      · exact h.2 z h1
      · rw [he] at h1; exact hp.q z h1

/-- A drawn light, and the bytes that are left. -/
def RoundP (wild : Bool) (rs ys rs' : List Int) : Prop := ∃ x y z, ys = [x, y, z] ∧ PtD wild rs x y z rs'
theorem roundP (wild : Bool) (rs : List Int) : ∃ ys rs', RoundP wild rs ys rs' := by
  obtain ⟨x, y, z, rs', hp⟩ := ptD wild rs
  exact ⟨_, _, x, y, z, rfl, hp⟩
noncomputable def ptY (wild : Bool) (rs : List Int) : List Int := Classical.choose (roundP wild rs)
noncomputable def ptR (wild : Bool) (rs : List Int) : List Int := Classical.choose (Classical.choose_spec (roundP wild rs))
theorem pt_spec (wild : Bool) (rs : List Int) : RoundP wild rs (ptY wild rs) (ptR wild rs) := Classical.choose_spec (Classical.choose_spec (roundP wild rs))
noncomputable def litsS (wild : Bool) (rs : List Int) : Nat → List Int × List Int
  | 0 => ([], rs)
  | j + 1 => ((litsS wild rs j).1 ++ ptY wild (litsS wild rs j).2, ptR wild (litsS wild rs j).2)
theorem litsS_good (wild : Bool) (rs : List Int) : ∀ j, (litsS wild rs j).1.length = j * 3 ∧ U32 (litsS wild rs j).1
  | 0 => ⟨rfl, fun z hz => by simp [litsS] at hz⟩
  | j + 1 => by
    have h := litsS_good wild rs j
    obtain ⟨x, y, z, he, hp⟩ := pt_spec wild (litsS wild rs j).2
    refine ⟨?_, fun v hv => ?_⟩
    · rw [litsS, List.length_append, h.1, he]; simp; omega
    · rcases List.mem_append.1 hv with h1 | h1
      · exact h.2 v h1
      · rw [he] at h1
        simp at h1
        rcases h1 with rfl | rfl | rfl
        · exact hp.xr
        · exact hp.yr
        · exact hp.zr
def condL (wild : Bool) (n : Nat) (rs : List Int) (j : Nat) : Prop := j < n ∧ (j < 1 ∨ 0 < (litsS wild rs j).2.length)

/-- Memory while a scene is drawn: the reader, the box of the answer, the box of the scene. -/
structure SnS (w0 : World) (P X Y : Nat) (v0 v1 v2 : Value) (rs : List Int) (W : World) : Prop where
  rs : Rs P rs W
  bx : BxF W X (.slice none 0 0) (.slice none 0 0) (.slice none 0 0)
  by_ : BxF W Y v0 v1 v2
  asd : Aside P w0 W
  hX : X = w0.heap.size
  hXY : X < Y
  hP : P < X
theorem SnS.call {w0 W W' : World} {P X Y : Nat} {v0 v1 v2 : Value} {rs rs' : List Int} (h : SnS w0 P X Y v0 v1 v2 rs W) (hr : Rs P rs' W') (ha : Aside P W W') : SnS w0 P X Y v0 v1 v2 rs' W' :=
  ⟨hr, h.bx.aside ha (by have := h.hP; omega), h.by_.aside ha (by have := h.hP; have := h.hXY; omega), h.asd.trans ha, h.hX, h.hXY, h.hP⟩
theorem SnS.later {w0 W W' : World} {P X Y : Nat} {v0 v1 v2 : Value} {rs : List Int} (h : SnS w0 P X Y v0 v1 v2 rs W) (hb : Below W.heap.size W W') : SnS w0 P X Y v0 v1 v2 rs W' :=
  h.call (h.rs.later hb) (Aside.of hb)
/-- What turns above the scene's box alone. -/
theorem SnS.above {w0 W W' : World} {P X Y B : Nat} {v0 v1 v2 : Value} {rs : List Int} (h : SnS w0 P X Y v0 v1 v2 rs W) (hb : Below B W W') (hB : Y < B) : SnS w0 P X Y v0 v1 v2 rs W' := by
  have h1 := h.hXY
  have h2 := h.hP
  have h3 := h.hX
  have cell : ∀ k j, k ≤ Y → W'.cell? ⟨k, j, none⟩ = W.cell? ⟨k, j, none⟩ := fun k j hk => hb.cell (p := ⟨k, j, none⟩) (by show k < B; omega)
  have froz : ∀ k j, k ≤ Y → W'.frozen? ⟨k, j, none⟩ = W.frozen? ⟨k, j, none⟩ := fun k j hk => hb.frozen (p := ⟨k, j, none⟩) (by show k < B; omega)
  exact ⟨h.rs.above hb (by omega), ⟨Nat.lt_of_lt_of_le h.bx.lt hb.size, (cell X 0 (by omega)).trans h.bx.q0, (cell X 1 (by omega)).trans h.bx.q1, (cell X 2 (by omega)).trans h.bx.q2, fun j => (froz X j (by omega)).trans (h.bx.fr j)⟩, ⟨Nat.lt_of_lt_of_le h.by_.lt hb.size, (cell Y 0 (by omega)).trans h.by_.q0, (cell Y 1 (by omega)).trans h.by_.q1, (cell Y 2 (by omega)).trans h.by_.q2, fun j => (froz Y j (by omega)).trans (h.by_.fr j)⟩, h.asd.high hb (by omega), h3, h1, h2⟩
theorem SnS.put {w0 W : World} {P X Y : Nat} {v0 v1 v2 u0 u1 u2 : Value} {rs : List Int} (h : SnS w0 P X Y v0 v1 v2 rs W) (j : Nat) (v : Value) (hy : BxF (W.setCell ⟨Y, j, none⟩ v) Y u0 u1 u2) : SnS w0 P X Y u0 u1 u2 rs (W.setCell ⟨Y, j, none⟩ v) := by
  have h1 := h.hX
  have h2 := h.hXY
  have h3 := h.hP
  exact ⟨h.rs.set (by omega) _ _, h.bx.other (by omega) _ _, hy, h.asd.setHigh (p := ⟨Y, j, none⟩) (by show w0.heap.size ≤ Y; omega) _, h1, h2, h3⟩

/-- A list in blocks from lo to below hi stays while what turns lies elsewhere. -/
theorem rowIn_below {k : IntKind} {w w' : World} {lo hi B : Nat} {a : Option Addr} {zs : List Int} (h : RowIn k w lo hi a zs) (hb : Below B w w') (hB : hi ≤ B) : RowIn k w' lo hi a zs := by
  rcases h with h | ⟨b, off, q1, q0, q00, q2, q3, q4⟩
  · exact .inl h
  · exact .inr ⟨b, off, q1, q0, q00, Nat.lt_of_lt_of_le q2 hb.size, fun j hj => (hb.cell (p := ⟨b, off + j, none⟩) (by show b < B; omega)).trans (q3 j hj), fun j hj => (hb.frozen (p := ⟨b, off + j, none⟩) (by show b < B; omega)).trans (q4 j hj)⟩

/-- What a drawn scene is. -/
def ScnD (P n1 n2 n3 : Nat) (z1 z2 z3 rs' : List Int) (w : World) (e : Ending) (w' : World) : Prop :=
  ∃ a1 a2 a3 c1 c2 c3 l1 h1 l2 h2 l3 h3, e = .returned (.agg #[.slice a1 n1 c1, .slice a2 n2 c2, .slice a3 n3 c3]) ∧ ScDj w' w.heap.size w'.heap.size a1 a2 a3 n1 n2 n3 z1 z2 z3 l1 h1 l2 h2 l3 h3 ∧ Rs P rs' w' ∧ Aside P w w'
structure SceneD (rs : List Int) (n1 n2 n3 : Nat) (z1 z2 z3 rs' : List Int) : Prop where
  b1 : n1 ≤ 41
  b2 : n2 ≤ 41
  b3 : n3 ≤ 5
  l1 : z1.length = n1 * 9
  l2 : z2.length = n2 * 6
  l3 : z3.length = n3 * 3
  u1 : U32 z1
  u2 : U32 z2
  u3 : U32 z3
  tells : ∀ P w, Rs P rs w → Calls Tryz.prog 68 #[.pointer (some ⟨P, 0, none⟩)] w fun e w' => ScnD P n1 n2 n3 z1 z2 z3 rs' w e w'

end Go.Proofs.YtfcnokagfibgcahGreat
