/-
  The program's reader: mark.
-/
import Derived.Test.YtcjdnomhnlbmbaaIdD
import Derived.RegionCalls
namespace Go.Proofs.Ytcjdnomhnlbmbaa
open Go.RowKit

/-- What is wrong with one of the first bytes. -/
def mkF (ts bs : List Int) (i : Nat) : Option (Int × Int) :=
  if bs.length ≤ i then some (5, bs.length) else if bs.getD i 0 = ts.getD i 0 then none else some (4, i)

def MarkOut (w : World) (R b off c : Nat) (ts bs : List Int) (e : Ending) (w' : World) : Prop :=
  (firstF (mkF ts bs) 4 = none ∧ ReadOut w R b off c bs 4 (.tuple #[]) e w') ∨ ∃ x, firstF (mkF ts bs) 4 = some x ∧ ThrowOut w R x e w'

theorem take_none (R : Nat) (a : Option Addr) (c : Nat) (w : World) (c0 : w.cell? ⟨R, 0, none⟩ = some (.slice a 0 c)) (c1 : w.cell? ⟨R, 1, none⟩ = some (.int .i64 0)) :
    Calls Try.prog 106 #[.pointer (some ⟨R, 0, none⟩), .int .i64 1] w fun e w' => e = thrown (5, 0) ∧ Aside R w w' := by
  go_enter Try.func106, Try.ntmps106
  go_wp2
  go_quiet (fail)
  go_wp2
  exact ⟨rfl, rfl, Aside.of (below_drewN (Below.refl _ _) _)⟩

set_option maxRecDepth 100000 in
set_option maxHeartbeats 1000000 in
theorem mark_scen (R b off c : Nat) (bs : List Int) (w : World) (hu : U8 bs) (h : RdB w R b off c bs 0) :
    Calls Try.prog 80 #[.pointer (some ⟨R, 0, none⟩), .string { data := #[83, 67, 69, 78] }] w fun e w' => MarkOut w R b off c [83, 67, 69, 78] bs e w' := by
  have HU : Hid (U8 bs) := hu
  have HH : Hid (RdB w R b off c bs 0) := h
  clear hu h
  go_enter Try.func80, Try.ntmps80
  go_wp2
  go_loopw [4, 7] (fun _ si wr => ∃ (j : Nat), j ≤ 4 ∧ si = .int .i64 j ∧ Hid (firstF (mkF [83, 67, 69, 78] bs) j = none) ∧ Hid (RdB wr R b off c bs j ∧ Aside R w wr)) (fun _ si _ => 4 - (intOf si).toNat)
  case atStart => exact ⟨0, by decide, rfl, rfl, HH.out, Aside.refl _ _⟩
  case round =>
    obtain ⟨j, hj, rfl, hA, hR⟩ := hrel
    by_cases hlt : j < 4
    · have hj4 : j = 0 ∨ j = 1 ∨ j = 2 ∨ j = 3 := by omega
      by_cases hs : bs.length < j + 1
      · have HX : Hid (firstF (mkF [83, 67, 69, 78] bs) 4 = some (5, (bs.length : Int))) := firstF_hit hlt hA.out (by unfold mkF; rw [if_pos (by omega)])
        rcases hj4 with rfl | rfl | rfl | rfl
        · go_wp2
          refine wp_region_any (by kernel_rfl) ?_
          refine wpAny_take (i := 0) (v := .pointer (some ⟨R, 0, none⟩)) rfl (by kernel_rfl) (by kernel_rfl) (by kernel_rfl) (fun _ _ _ h => h) (Or.inl ⟨by rfl, by intro w; go_simp⟩) ?_
          refine wpAny_take (i := 4) (v := .string { data := #[83, 67, 69, 78] }) rfl (by kernel_rfl) (by kernel_rfl) (by kernel_rfl) (fun _ _ _ h => h) (Or.inl ⟨by rfl, by intro w; go_simp⟩) ?_
          refine wpAny_take (i := 5) (v := .int .i64 0) rfl (by kernel_rfl) (by kernel_rfl) (by kernel_rfl) (fun _ _ _ h => h) (Or.inl ⟨by rfl, by intro w; go_simp⟩) ?_
          refine wpAny_take (i := 6) (v := .int .u8 83) rfl (by kernel_rfl) (by kernel_rfl) (by kernel_rfl) (fun _ _ _ h => h) (Or.inl ⟨by rfl, by intro w; go_simp; rfl⟩) ?_
          refine wpAny_ready (rs := [1]) (by kernel_rfl) (by simp) (AllReady.cons rfl (fun K hK => ?_) AllReady.nil)
          go_simp
          refine (take_short R b off c bs 0 1 _ hs (hR.out.1.later (Below.drew (Below.refl _ _)))).mono ?_
          rintro e V ⟨rfl, has⟩
          exact ⟨rfl, .inr ⟨_, HX.out, rfl, hR.out.2.trans ((Aside.of (Below.drew (Below.refl _ _))).trans has)⟩⟩
        · go_wp2
          refine wp_region_any (by kernel_rfl) ?_
          refine wpAny_take (i := 0) (v := .pointer (some ⟨R, 0, none⟩)) rfl (by kernel_rfl) (by kernel_rfl) (by kernel_rfl) (fun _ _ _ h => h) (Or.inl ⟨by rfl, by intro w; go_simp⟩) ?_
          refine wpAny_take (i := 4) (v := .string { data := #[83, 67, 69, 78] }) rfl (by kernel_rfl) (by kernel_rfl) (by kernel_rfl) (fun _ _ _ h => h) (Or.inl ⟨by rfl, by intro w; go_simp⟩) ?_
          refine wpAny_take (i := 5) (v := .int .i64 1) rfl (by kernel_rfl) (by kernel_rfl) (by kernel_rfl) (fun _ _ _ h => h) (Or.inl ⟨by rfl, by intro w; go_simp⟩) ?_
          refine wpAny_take (i := 6) (v := .int .u8 67) rfl (by kernel_rfl) (by kernel_rfl) (by kernel_rfl) (fun _ _ _ h => h) (Or.inl ⟨by rfl, by intro w; go_simp; rfl⟩) ?_
          refine wpAny_ready (rs := [1]) (by kernel_rfl) (by simp) (AllReady.cons rfl (fun K hK => ?_) AllReady.nil)
          go_simp
          refine (take_short R b off c bs 1 1 _ hs (hR.out.1.later (Below.drew (Below.refl _ _)))).mono ?_
          rintro e V ⟨rfl, has⟩
          exact ⟨rfl, .inr ⟨_, HX.out, rfl, hR.out.2.trans ((Aside.of (Below.drew (Below.refl _ _))).trans has)⟩⟩
        · go_wp2
          refine wp_region_any (by kernel_rfl) ?_
          refine wpAny_take (i := 0) (v := .pointer (some ⟨R, 0, none⟩)) rfl (by kernel_rfl) (by kernel_rfl) (by kernel_rfl) (fun _ _ _ h => h) (Or.inl ⟨by rfl, by intro w; go_simp⟩) ?_
          refine wpAny_take (i := 4) (v := .string { data := #[83, 67, 69, 78] }) rfl (by kernel_rfl) (by kernel_rfl) (by kernel_rfl) (fun _ _ _ h => h) (Or.inl ⟨by rfl, by intro w; go_simp⟩) ?_
          refine wpAny_take (i := 5) (v := .int .i64 2) rfl (by kernel_rfl) (by kernel_rfl) (by kernel_rfl) (fun _ _ _ h => h) (Or.inl ⟨by rfl, by intro w; go_simp⟩) ?_
          refine wpAny_take (i := 6) (v := .int .u8 69) rfl (by kernel_rfl) (by kernel_rfl) (by kernel_rfl) (fun _ _ _ h => h) (Or.inl ⟨by rfl, by intro w; go_simp; rfl⟩) ?_
          refine wpAny_ready (rs := [1]) (by kernel_rfl) (by simp) (AllReady.cons rfl (fun K hK => ?_) AllReady.nil)
          go_simp
          refine (take_short R b off c bs 2 1 _ hs (hR.out.1.later (Below.drew (Below.refl _ _)))).mono ?_
          rintro e V ⟨rfl, has⟩
          exact ⟨rfl, .inr ⟨_, HX.out, rfl, hR.out.2.trans ((Aside.of (Below.drew (Below.refl _ _))).trans has)⟩⟩
        · go_wp2
          refine wp_region_any (by kernel_rfl) ?_
          refine wpAny_take (i := 0) (v := .pointer (some ⟨R, 0, none⟩)) rfl (by kernel_rfl) (by kernel_rfl) (by kernel_rfl) (fun _ _ _ h => h) (Or.inl ⟨by rfl, by intro w; go_simp⟩) ?_
          refine wpAny_take (i := 4) (v := .string { data := #[83, 67, 69, 78] }) rfl (by kernel_rfl) (by kernel_rfl) (by kernel_rfl) (fun _ _ _ h => h) (Or.inl ⟨by rfl, by intro w; go_simp⟩) ?_
          refine wpAny_take (i := 5) (v := .int .i64 3) rfl (by kernel_rfl) (by kernel_rfl) (by kernel_rfl) (fun _ _ _ h => h) (Or.inl ⟨by rfl, by intro w; go_simp⟩) ?_
          refine wpAny_take (i := 6) (v := .int .u8 78) rfl (by kernel_rfl) (by kernel_rfl) (by kernel_rfl) (fun _ _ _ h => h) (Or.inl ⟨by rfl, by intro w; go_simp; rfl⟩) ?_
          refine wpAny_ready (rs := [1]) (by kernel_rfl) (by simp) (AllReady.cons rfl (fun K hK => ?_) AllReady.nil)
          go_simp
          refine (take_short R b off c bs 3 1 _ hs (hR.out.1.later (Below.drew (Below.refl _ _)))).mono ?_
          rintro e V ⟨rfl, has⟩
          exact ⟨rfl, .inr ⟨_, HX.out, rfl, hR.out.2.trans ((Aside.of (Below.drew (Below.refl _ _))).trans has)⟩⟩
      · have hs' : j + 1 ≤ bs.length := by omega
        rcases hj4 with rfl | rfl | rfl | rfl
        · obtain ⟨y, hy0⟩ : ∃ y, y = bs.getD 0 0 := ⟨_, rfl⟩
          have HY : Hid (bs.getD 0 0 = y) := hy0.symm
          clear hy0
          by_cases hy : y = 83
          · have HN : Hid (firstF (mkF [83, 67, 69, 78] bs) (0 + 1) = none) := firstF_succ hA.out (by unfold mkF; rw [if_neg (by omega), if_pos (show bs.getD 0 0 = ([83, 67, 69, 78] : List Int).getD 0 0 by rw [HY.out]; exact hy)])
            have hne : (y != 83) = false := by rw [hy]; rfl
            clear hy
            go_wp2
            refine wp_region_any (by kernel_rfl) ?_
            refine wpAny_take (i := 0) (v := .pointer (some ⟨R, 0, none⟩)) rfl (by kernel_rfl) (by kernel_rfl) (by kernel_rfl) (fun _ _ _ h => h) (Or.inl ⟨by rfl, by intro w; go_simp⟩) ?_
            refine wpAny_take (i := 4) (v := .string { data := #[83, 67, 69, 78] }) rfl (by kernel_rfl) (by kernel_rfl) (by kernel_rfl) (fun _ _ _ h => h) (Or.inl ⟨by rfl, by intro w; go_simp⟩) ?_
            refine wpAny_take (i := 5) (v := .int .i64 0) rfl (by kernel_rfl) (by kernel_rfl) (by kernel_rfl) (fun _ _ _ h => h) (Or.inl ⟨by rfl, by intro w; go_simp⟩) ?_
            refine wpAny_take (i := 6) (v := .int .u8 83) rfl (by kernel_rfl) (by kernel_rfl) (by kernel_rfl) (fun _ _ _ h => h) (Or.inl ⟨by rfl, by intro w; go_simp; rfl⟩) ?_
            refine wpAny_ready (rs := [1]) (by kernel_rfl) (by simp) (AllReady.cons rfl (fun K hK => ?_) AllReady.nil)
            go_simp
            refine (take_ok R b off c bs 0 1 _ hs' (hR.out.1.later (Below.drew (Below.refl _ _)))).mono ?_
            rintro e V ⟨p, k, rfl, hrow, hpb, hrd, has⟩
            obtain ⟨b1, o1, rfl, _, hc⟩ := hrow.resolve_left (by intro e; have := congrArg List.length e; rw [partB_length hs'] at this; simp at this)
            have q : V.cell? ⟨b1, o1, none⟩ = some (.int .u8 y) := by
              have := hc 0 (by rw [partB_length hs']; decide)
              rw [partB_get (by decide)] at this
              exact this.trans (by rw [HY.out])
            have HD : Hid (RdB V R b off c bs (0 + 1) ∧ Aside R w V) := ⟨hrd, hR.out.2.trans ((Aside.of (Below.drew (Below.refl _ _))).trans has)⟩
            clear hrd has hpb hc hR hrow
            refine hK _ _ ?_
            clear hK K
            refine wpAny_take (i := 2) (v := .pointer (some ⟨b1, o1, none⟩)) rfl (by kernel_rfl) (by kernel_rfl) (by kernel_rfl) (fun _ _ _ h => h) (Or.inl ⟨by rfl, by intro w; go_simp⟩) ?_
            refine wpAny_ready (rs := [3]) (by kernel_rfl) (by simp) (AllReady.cons rfl (fun K hK => ?_) AllReady.nil)
            go_simp
            refine hK _ _ ?_
            clear hK K q
            refine wpAny_take (i := 7) (v := .bool false) rfl (by kernel_rfl) (by kernel_rfl) (by kernel_rfl) (fun _ _ _ h => h) (Or.inl ⟨by rfl, by intro w; go_simp⟩) ?_
            refine wpAny_done (by kernel_rfl) ?_ _
            go_wp2
            go_roundw
            case rel => exact ⟨0 + 1, by decide, by go_num, HN, HD⟩
            case measure => simp [intOf]
          · have HX : Hid (firstF (mkF [83, 67, 69, 78] bs) 4 = some (4, (0 : Int))) := firstF_hit (by decide) hA.out (by unfold mkF; rw [if_neg (by omega), if_neg (show ¬ bs.getD 0 0 = ([83, 67, 69, 78] : List Int).getD 0 0 by rw [HY.out]; exact hy)]; rfl)
            have hne : (y != 83) = true := by simpa using hy
            clear hy
            go_wp2
            refine wp_region_any (by kernel_rfl) ?_
            refine wpAny_take (i := 0) (v := .pointer (some ⟨R, 0, none⟩)) rfl (by kernel_rfl) (by kernel_rfl) (by kernel_rfl) (fun _ _ _ h => h) (Or.inl ⟨by rfl, by intro w; go_simp⟩) ?_
            refine wpAny_take (i := 4) (v := .string { data := #[83, 67, 69, 78] }) rfl (by kernel_rfl) (by kernel_rfl) (by kernel_rfl) (fun _ _ _ h => h) (Or.inl ⟨by rfl, by intro w; go_simp⟩) ?_
            refine wpAny_take (i := 5) (v := .int .i64 0) rfl (by kernel_rfl) (by kernel_rfl) (by kernel_rfl) (fun _ _ _ h => h) (Or.inl ⟨by rfl, by intro w; go_simp⟩) ?_
            refine wpAny_take (i := 6) (v := .int .u8 83) rfl (by kernel_rfl) (by kernel_rfl) (by kernel_rfl) (fun _ _ _ h => h) (Or.inl ⟨by rfl, by intro w; go_simp; rfl⟩) ?_
            refine wpAny_ready (rs := [1]) (by kernel_rfl) (by simp) (AllReady.cons rfl (fun K hK => ?_) AllReady.nil)
            go_simp
            refine (take_ok R b off c bs 0 1 _ hs' (hR.out.1.later (Below.drew (Below.refl _ _)))).mono ?_
            rintro e V ⟨p, k, rfl, hrow, hpb, hrd, has⟩
            obtain ⟨b1, o1, rfl, _, hc⟩ := hrow.resolve_left (by intro e; have := congrArg List.length e; rw [partB_length hs'] at this; simp at this)
            have q : V.cell? ⟨b1, o1, none⟩ = some (.int .u8 y) := by
              have := hc 0 (by rw [partB_length hs']; decide)
              rw [partB_get (by decide)] at this
              exact this.trans (by rw [HY.out])
            have HD : Hid (RdB V R b off c bs (0 + 1) ∧ Aside R w V) := ⟨hrd, hR.out.2.trans ((Aside.of (Below.drew (Below.refl _ _))).trans has)⟩
            clear hrd has hpb hc hR hrow
            refine hK _ _ ?_
            clear hK K
            refine wpAny_take (i := 2) (v := .pointer (some ⟨b1, o1, none⟩)) rfl (by kernel_rfl) (by kernel_rfl) (by kernel_rfl) (fun _ _ _ h => h) (Or.inl ⟨by rfl, by intro w; go_simp⟩) ?_
            refine wpAny_ready (rs := [3]) (by kernel_rfl) (by simp) (AllReady.cons rfl (fun K hK => ?_) AllReady.nil)
            go_simp
            refine hK _ _ ?_
            clear hK K q
            refine wpAny_take (i := 7) (v := .bool true) rfl (by kernel_rfl) (by kernel_rfl) (by kernel_rfl) (fun _ _ _ h => h) (Or.inl ⟨by rfl, by intro w; go_simp⟩) ?_
            refine wpAny_done (by kernel_rfl) ?_ _
            go_wp2
            exact ⟨rfl, .inr ⟨_, HX.out, rfl, HD.out.2⟩⟩
        · obtain ⟨y, hy0⟩ : ∃ y, y = bs.getD 1 0 := ⟨_, rfl⟩
          have HY : Hid (bs.getD 1 0 = y) := hy0.symm
          clear hy0
          by_cases hy : y = 67
          · have HN : Hid (firstF (mkF [83, 67, 69, 78] bs) (1 + 1) = none) := firstF_succ hA.out (by unfold mkF; rw [if_neg (by omega), if_pos (show bs.getD 1 0 = ([83, 67, 69, 78] : List Int).getD 1 0 by rw [HY.out]; exact hy)])
            have hne : (y != 67) = false := by rw [hy]; rfl
            clear hy
            go_wp2
            refine wp_region_any (by kernel_rfl) ?_
            refine wpAny_take (i := 0) (v := .pointer (some ⟨R, 0, none⟩)) rfl (by kernel_rfl) (by kernel_rfl) (by kernel_rfl) (fun _ _ _ h => h) (Or.inl ⟨by rfl, by intro w; go_simp⟩) ?_
            refine wpAny_take (i := 4) (v := .string { data := #[83, 67, 69, 78] }) rfl (by kernel_rfl) (by kernel_rfl) (by kernel_rfl) (fun _ _ _ h => h) (Or.inl ⟨by rfl, by intro w; go_simp⟩) ?_
            refine wpAny_take (i := 5) (v := .int .i64 1) rfl (by kernel_rfl) (by kernel_rfl) (by kernel_rfl) (fun _ _ _ h => h) (Or.inl ⟨by rfl, by intro w; go_simp⟩) ?_
            refine wpAny_take (i := 6) (v := .int .u8 67) rfl (by kernel_rfl) (by kernel_rfl) (by kernel_rfl) (fun _ _ _ h => h) (Or.inl ⟨by rfl, by intro w; go_simp; rfl⟩) ?_
            refine wpAny_ready (rs := [1]) (by kernel_rfl) (by simp) (AllReady.cons rfl (fun K hK => ?_) AllReady.nil)
            go_simp
            refine (take_ok R b off c bs 1 1 _ hs' (hR.out.1.later (Below.drew (Below.refl _ _)))).mono ?_
            rintro e V ⟨p, k, rfl, hrow, hpb, hrd, has⟩
            obtain ⟨b1, o1, rfl, _, hc⟩ := hrow.resolve_left (by intro e; have := congrArg List.length e; rw [partB_length hs'] at this; simp at this)
            have q : V.cell? ⟨b1, o1, none⟩ = some (.int .u8 y) := by
              have := hc 0 (by rw [partB_length hs']; decide)
              rw [partB_get (by decide)] at this
              exact this.trans (by rw [HY.out])
            have HD : Hid (RdB V R b off c bs (1 + 1) ∧ Aside R w V) := ⟨hrd, hR.out.2.trans ((Aside.of (Below.drew (Below.refl _ _))).trans has)⟩
            clear hrd has hpb hc hR hrow
            refine hK _ _ ?_
            clear hK K
            refine wpAny_take (i := 2) (v := .pointer (some ⟨b1, o1, none⟩)) rfl (by kernel_rfl) (by kernel_rfl) (by kernel_rfl) (fun _ _ _ h => h) (Or.inl ⟨by rfl, by intro w; go_simp⟩) ?_
            refine wpAny_ready (rs := [3]) (by kernel_rfl) (by simp) (AllReady.cons rfl (fun K hK => ?_) AllReady.nil)
            go_simp
            refine hK _ _ ?_
            clear hK K q
            refine wpAny_take (i := 7) (v := .bool false) rfl (by kernel_rfl) (by kernel_rfl) (by kernel_rfl) (fun _ _ _ h => h) (Or.inl ⟨by rfl, by intro w; go_simp⟩) ?_
            refine wpAny_done (by kernel_rfl) ?_ _
            go_wp2
            go_roundw
            case rel => exact ⟨1 + 1, by decide, by go_num, HN, HD⟩
            case measure => simp [intOf]
          · have HX : Hid (firstF (mkF [83, 67, 69, 78] bs) 4 = some (4, (1 : Int))) := firstF_hit (by decide) hA.out (by unfold mkF; rw [if_neg (by omega), if_neg (show ¬ bs.getD 1 0 = ([83, 67, 69, 78] : List Int).getD 1 0 by rw [HY.out]; exact hy)]; rfl)
            have hne : (y != 67) = true := by simpa using hy
            clear hy
            go_wp2
            refine wp_region_any (by kernel_rfl) ?_
            refine wpAny_take (i := 0) (v := .pointer (some ⟨R, 0, none⟩)) rfl (by kernel_rfl) (by kernel_rfl) (by kernel_rfl) (fun _ _ _ h => h) (Or.inl ⟨by rfl, by intro w; go_simp⟩) ?_
            refine wpAny_take (i := 4) (v := .string { data := #[83, 67, 69, 78] }) rfl (by kernel_rfl) (by kernel_rfl) (by kernel_rfl) (fun _ _ _ h => h) (Or.inl ⟨by rfl, by intro w; go_simp⟩) ?_
            refine wpAny_take (i := 5) (v := .int .i64 1) rfl (by kernel_rfl) (by kernel_rfl) (by kernel_rfl) (fun _ _ _ h => h) (Or.inl ⟨by rfl, by intro w; go_simp⟩) ?_
            refine wpAny_take (i := 6) (v := .int .u8 67) rfl (by kernel_rfl) (by kernel_rfl) (by kernel_rfl) (fun _ _ _ h => h) (Or.inl ⟨by rfl, by intro w; go_simp; rfl⟩) ?_
            refine wpAny_ready (rs := [1]) (by kernel_rfl) (by simp) (AllReady.cons rfl (fun K hK => ?_) AllReady.nil)
            go_simp
            refine (take_ok R b off c bs 1 1 _ hs' (hR.out.1.later (Below.drew (Below.refl _ _)))).mono ?_
            rintro e V ⟨p, k, rfl, hrow, hpb, hrd, has⟩
            obtain ⟨b1, o1, rfl, _, hc⟩ := hrow.resolve_left (by intro e; have := congrArg List.length e; rw [partB_length hs'] at this; simp at this)
            have q : V.cell? ⟨b1, o1, none⟩ = some (.int .u8 y) := by
              have := hc 0 (by rw [partB_length hs']; decide)
              rw [partB_get (by decide)] at this
              exact this.trans (by rw [HY.out])
            have HD : Hid (RdB V R b off c bs (1 + 1) ∧ Aside R w V) := ⟨hrd, hR.out.2.trans ((Aside.of (Below.drew (Below.refl _ _))).trans has)⟩
            clear hrd has hpb hc hR hrow
            refine hK _ _ ?_
            clear hK K
            refine wpAny_take (i := 2) (v := .pointer (some ⟨b1, o1, none⟩)) rfl (by kernel_rfl) (by kernel_rfl) (by kernel_rfl) (fun _ _ _ h => h) (Or.inl ⟨by rfl, by intro w; go_simp⟩) ?_
            refine wpAny_ready (rs := [3]) (by kernel_rfl) (by simp) (AllReady.cons rfl (fun K hK => ?_) AllReady.nil)
            go_simp
            refine hK _ _ ?_
            clear hK K q
            refine wpAny_take (i := 7) (v := .bool true) rfl (by kernel_rfl) (by kernel_rfl) (by kernel_rfl) (fun _ _ _ h => h) (Or.inl ⟨by rfl, by intro w; go_simp⟩) ?_
            refine wpAny_done (by kernel_rfl) ?_ _
            go_wp2
            exact ⟨rfl, .inr ⟨_, HX.out, rfl, HD.out.2⟩⟩
        · obtain ⟨y, hy0⟩ : ∃ y, y = bs.getD 2 0 := ⟨_, rfl⟩
          have HY : Hid (bs.getD 2 0 = y) := hy0.symm
          clear hy0
          by_cases hy : y = 69
          · have HN : Hid (firstF (mkF [83, 67, 69, 78] bs) (2 + 1) = none) := firstF_succ hA.out (by unfold mkF; rw [if_neg (by omega), if_pos (show bs.getD 2 0 = ([83, 67, 69, 78] : List Int).getD 2 0 by rw [HY.out]; exact hy)])
            have hne : (y != 69) = false := by rw [hy]; rfl
            clear hy
            go_wp2
            refine wp_region_any (by kernel_rfl) ?_
            refine wpAny_take (i := 0) (v := .pointer (some ⟨R, 0, none⟩)) rfl (by kernel_rfl) (by kernel_rfl) (by kernel_rfl) (fun _ _ _ h => h) (Or.inl ⟨by rfl, by intro w; go_simp⟩) ?_
            refine wpAny_take (i := 4) (v := .string { data := #[83, 67, 69, 78] }) rfl (by kernel_rfl) (by kernel_rfl) (by kernel_rfl) (fun _ _ _ h => h) (Or.inl ⟨by rfl, by intro w; go_simp⟩) ?_
            refine wpAny_take (i := 5) (v := .int .i64 2) rfl (by kernel_rfl) (by kernel_rfl) (by kernel_rfl) (fun _ _ _ h => h) (Or.inl ⟨by rfl, by intro w; go_simp⟩) ?_
            refine wpAny_take (i := 6) (v := .int .u8 69) rfl (by kernel_rfl) (by kernel_rfl) (by kernel_rfl) (fun _ _ _ h => h) (Or.inl ⟨by rfl, by intro w; go_simp; rfl⟩) ?_
            refine wpAny_ready (rs := [1]) (by kernel_rfl) (by simp) (AllReady.cons rfl (fun K hK => ?_) AllReady.nil)
            go_simp
            refine (take_ok R b off c bs 2 1 _ hs' (hR.out.1.later (Below.drew (Below.refl _ _)))).mono ?_
            rintro e V ⟨p, k, rfl, hrow, hpb, hrd, has⟩
            obtain ⟨b1, o1, rfl, _, hc⟩ := hrow.resolve_left (by intro e; have := congrArg List.length e; rw [partB_length hs'] at this; simp at this)
            have q : V.cell? ⟨b1, o1, none⟩ = some (.int .u8 y) := by
              have := hc 0 (by rw [partB_length hs']; decide)
              rw [partB_get (by decide)] at this
              exact this.trans (by rw [HY.out])
            have HD : Hid (RdB V R b off c bs (2 + 1) ∧ Aside R w V) := ⟨hrd, hR.out.2.trans ((Aside.of (Below.drew (Below.refl _ _))).trans has)⟩
            clear hrd has hpb hc hR hrow
            refine hK _ _ ?_
            clear hK K
            refine wpAny_take (i := 2) (v := .pointer (some ⟨b1, o1, none⟩)) rfl (by kernel_rfl) (by kernel_rfl) (by kernel_rfl) (fun _ _ _ h => h) (Or.inl ⟨by rfl, by intro w; go_simp⟩) ?_
            refine wpAny_ready (rs := [3]) (by kernel_rfl) (by simp) (AllReady.cons rfl (fun K hK => ?_) AllReady.nil)
            go_simp
            refine hK _ _ ?_
            clear hK K q
            refine wpAny_take (i := 7) (v := .bool false) rfl (by kernel_rfl) (by kernel_rfl) (by kernel_rfl) (fun _ _ _ h => h) (Or.inl ⟨by rfl, by intro w; go_simp⟩) ?_
            refine wpAny_done (by kernel_rfl) ?_ _
            go_wp2
            go_roundw
            case rel => exact ⟨2 + 1, by decide, by go_num, HN, HD⟩
            case measure => simp [intOf]
          · have HX : Hid (firstF (mkF [83, 67, 69, 78] bs) 4 = some (4, (2 : Int))) := firstF_hit (by decide) hA.out (by unfold mkF; rw [if_neg (by omega), if_neg (show ¬ bs.getD 2 0 = ([83, 67, 69, 78] : List Int).getD 2 0 by rw [HY.out]; exact hy)]; rfl)
            have hne : (y != 69) = true := by simpa using hy
            clear hy
            go_wp2
            refine wp_region_any (by kernel_rfl) ?_
            refine wpAny_take (i := 0) (v := .pointer (some ⟨R, 0, none⟩)) rfl (by kernel_rfl) (by kernel_rfl) (by kernel_rfl) (fun _ _ _ h => h) (Or.inl ⟨by rfl, by intro w; go_simp⟩) ?_
            refine wpAny_take (i := 4) (v := .string { data := #[83, 67, 69, 78] }) rfl (by kernel_rfl) (by kernel_rfl) (by kernel_rfl) (fun _ _ _ h => h) (Or.inl ⟨by rfl, by intro w; go_simp⟩) ?_
            refine wpAny_take (i := 5) (v := .int .i64 2) rfl (by kernel_rfl) (by kernel_rfl) (by kernel_rfl) (fun _ _ _ h => h) (Or.inl ⟨by rfl, by intro w; go_simp⟩) ?_
            refine wpAny_take (i := 6) (v := .int .u8 69) rfl (by kernel_rfl) (by kernel_rfl) (by kernel_rfl) (fun _ _ _ h => h) (Or.inl ⟨by rfl, by intro w; go_simp; rfl⟩) ?_
            refine wpAny_ready (rs := [1]) (by kernel_rfl) (by simp) (AllReady.cons rfl (fun K hK => ?_) AllReady.nil)
            go_simp
            refine (take_ok R b off c bs 2 1 _ hs' (hR.out.1.later (Below.drew (Below.refl _ _)))).mono ?_
            rintro e V ⟨p, k, rfl, hrow, hpb, hrd, has⟩
            obtain ⟨b1, o1, rfl, _, hc⟩ := hrow.resolve_left (by intro e; have := congrArg List.length e; rw [partB_length hs'] at this; simp at this)
            have q : V.cell? ⟨b1, o1, none⟩ = some (.int .u8 y) := by
              have := hc 0 (by rw [partB_length hs']; decide)
              rw [partB_get (by decide)] at this
              exact this.trans (by rw [HY.out])
            have HD : Hid (RdB V R b off c bs (2 + 1) ∧ Aside R w V) := ⟨hrd, hR.out.2.trans ((Aside.of (Below.drew (Below.refl _ _))).trans has)⟩
            clear hrd has hpb hc hR hrow
            refine hK _ _ ?_
            clear hK K
            refine wpAny_take (i := 2) (v := .pointer (some ⟨b1, o1, none⟩)) rfl (by kernel_rfl) (by kernel_rfl) (by kernel_rfl) (fun _ _ _ h => h) (Or.inl ⟨by rfl, by intro w; go_simp⟩) ?_
            refine wpAny_ready (rs := [3]) (by kernel_rfl) (by simp) (AllReady.cons rfl (fun K hK => ?_) AllReady.nil)
            go_simp
            refine hK _ _ ?_
            clear hK K q
            refine wpAny_take (i := 7) (v := .bool true) rfl (by kernel_rfl) (by kernel_rfl) (by kernel_rfl) (fun _ _ _ h => h) (Or.inl ⟨by rfl, by intro w; go_simp⟩) ?_
            refine wpAny_done (by kernel_rfl) ?_ _
            go_wp2
            exact ⟨rfl, .inr ⟨_, HX.out, rfl, HD.out.2⟩⟩
        · obtain ⟨y, hy0⟩ : ∃ y, y = bs.getD 3 0 := ⟨_, rfl⟩
          have HY : Hid (bs.getD 3 0 = y) := hy0.symm
          clear hy0
          by_cases hy : y = 78
          · have HN : Hid (firstF (mkF [83, 67, 69, 78] bs) (3 + 1) = none) := firstF_succ hA.out (by unfold mkF; rw [if_neg (by omega), if_pos (show bs.getD 3 0 = ([83, 67, 69, 78] : List Int).getD 3 0 by rw [HY.out]; exact hy)])
            have hne : (y != 78) = false := by rw [hy]; rfl
            clear hy
            go_wp2
            refine wp_region_any (by kernel_rfl) ?_
            refine wpAny_take (i := 0) (v := .pointer (some ⟨R, 0, none⟩)) rfl (by kernel_rfl) (by kernel_rfl) (by kernel_rfl) (fun _ _ _ h => h) (Or.inl ⟨by rfl, by intro w; go_simp⟩) ?_
            refine wpAny_take (i := 4) (v := .string { data := #[83, 67, 69, 78] }) rfl (by kernel_rfl) (by kernel_rfl) (by kernel_rfl) (fun _ _ _ h => h) (Or.inl ⟨by rfl, by intro w; go_simp⟩) ?_
            refine wpAny_take (i := 5) (v := .int .i64 3) rfl (by kernel_rfl) (by kernel_rfl) (by kernel_rfl) (fun _ _ _ h => h) (Or.inl ⟨by rfl, by intro w; go_simp⟩) ?_
            refine wpAny_take (i := 6) (v := .int .u8 78) rfl (by kernel_rfl) (by kernel_rfl) (by kernel_rfl) (fun _ _ _ h => h) (Or.inl ⟨by rfl, by intro w; go_simp; rfl⟩) ?_
            refine wpAny_ready (rs := [1]) (by kernel_rfl) (by simp) (AllReady.cons rfl (fun K hK => ?_) AllReady.nil)
            go_simp
            refine (take_ok R b off c bs 3 1 _ hs' (hR.out.1.later (Below.drew (Below.refl _ _)))).mono ?_
            rintro e V ⟨p, k, rfl, hrow, hpb, hrd, has⟩
            obtain ⟨b1, o1, rfl, _, hc⟩ := hrow.resolve_left (by intro e; have := congrArg List.length e; rw [partB_length hs'] at this; simp at this)
            have q : V.cell? ⟨b1, o1, none⟩ = some (.int .u8 y) := by
              have := hc 0 (by rw [partB_length hs']; decide)
              rw [partB_get (by decide)] at this
              exact this.trans (by rw [HY.out])
            have HD : Hid (RdB V R b off c bs (3 + 1) ∧ Aside R w V) := ⟨hrd, hR.out.2.trans ((Aside.of (Below.drew (Below.refl _ _))).trans has)⟩
            clear hrd has hpb hc hR hrow
            refine hK _ _ ?_
            clear hK K
            refine wpAny_take (i := 2) (v := .pointer (some ⟨b1, o1, none⟩)) rfl (by kernel_rfl) (by kernel_rfl) (by kernel_rfl) (fun _ _ _ h => h) (Or.inl ⟨by rfl, by intro w; go_simp⟩) ?_
            refine wpAny_ready (rs := [3]) (by kernel_rfl) (by simp) (AllReady.cons rfl (fun K hK => ?_) AllReady.nil)
            go_simp
            refine hK _ _ ?_
            clear hK K q
            refine wpAny_take (i := 7) (v := .bool false) rfl (by kernel_rfl) (by kernel_rfl) (by kernel_rfl) (fun _ _ _ h => h) (Or.inl ⟨by rfl, by intro w; go_simp⟩) ?_
            refine wpAny_done (by kernel_rfl) ?_ _
            go_wp2
            go_roundw
            case rel => exact ⟨3 + 1, by decide, by go_num, HN, HD⟩
            case measure => simp [intOf]
          · have HX : Hid (firstF (mkF [83, 67, 69, 78] bs) 4 = some (4, (3 : Int))) := firstF_hit (by decide) hA.out (by unfold mkF; rw [if_neg (by omega), if_neg (show ¬ bs.getD 3 0 = ([83, 67, 69, 78] : List Int).getD 3 0 by rw [HY.out]; exact hy)]; rfl)
            have hne : (y != 78) = true := by simpa using hy
            clear hy
            go_wp2
            refine wp_region_any (by kernel_rfl) ?_
            refine wpAny_take (i := 0) (v := .pointer (some ⟨R, 0, none⟩)) rfl (by kernel_rfl) (by kernel_rfl) (by kernel_rfl) (fun _ _ _ h => h) (Or.inl ⟨by rfl, by intro w; go_simp⟩) ?_
            refine wpAny_take (i := 4) (v := .string { data := #[83, 67, 69, 78] }) rfl (by kernel_rfl) (by kernel_rfl) (by kernel_rfl) (fun _ _ _ h => h) (Or.inl ⟨by rfl, by intro w; go_simp⟩) ?_
            refine wpAny_take (i := 5) (v := .int .i64 3) rfl (by kernel_rfl) (by kernel_rfl) (by kernel_rfl) (fun _ _ _ h => h) (Or.inl ⟨by rfl, by intro w; go_simp⟩) ?_
            refine wpAny_take (i := 6) (v := .int .u8 78) rfl (by kernel_rfl) (by kernel_rfl) (by kernel_rfl) (fun _ _ _ h => h) (Or.inl ⟨by rfl, by intro w; go_simp; rfl⟩) ?_
            refine wpAny_ready (rs := [1]) (by kernel_rfl) (by simp) (AllReady.cons rfl (fun K hK => ?_) AllReady.nil)
            go_simp
            refine (take_ok R b off c bs 3 1 _ hs' (hR.out.1.later (Below.drew (Below.refl _ _)))).mono ?_
            rintro e V ⟨p, k, rfl, hrow, hpb, hrd, has⟩
            obtain ⟨b1, o1, rfl, _, hc⟩ := hrow.resolve_left (by intro e; have := congrArg List.length e; rw [partB_length hs'] at this; simp at this)
            have q : V.cell? ⟨b1, o1, none⟩ = some (.int .u8 y) := by
              have := hc 0 (by rw [partB_length hs']; decide)
              rw [partB_get (by decide)] at this
              exact this.trans (by rw [HY.out])
            have HD : Hid (RdB V R b off c bs (3 + 1) ∧ Aside R w V) := ⟨hrd, hR.out.2.trans ((Aside.of (Below.drew (Below.refl _ _))).trans has)⟩
            clear hrd has hpb hc hR hrow
            refine hK _ _ ?_
            clear hK K
            refine wpAny_take (i := 2) (v := .pointer (some ⟨b1, o1, none⟩)) rfl (by kernel_rfl) (by kernel_rfl) (by kernel_rfl) (fun _ _ _ h => h) (Or.inl ⟨by rfl, by intro w; go_simp⟩) ?_
            refine wpAny_ready (rs := [3]) (by kernel_rfl) (by simp) (AllReady.cons rfl (fun K hK => ?_) AllReady.nil)
            go_simp
            refine hK _ _ ?_
            clear hK K q
            refine wpAny_take (i := 7) (v := .bool true) rfl (by kernel_rfl) (by kernel_rfl) (by kernel_rfl) (fun _ _ _ h => h) (Or.inl ⟨by rfl, by intro w; go_simp⟩) ?_
            refine wpAny_done (by kernel_rfl) ?_ _
            go_wp2
            exact ⟨rfl, .inr ⟨_, HX.out, rfl, HD.out.2⟩⟩
    · have hje : j = 4 := by omega
      subst hje
      go_wp2
      go_end0
      exact .inl ⟨hA.out, rfl, hR.out.1, hR.out.2⟩

set_option maxHeartbeats 400000 in
theorem mark_scen_none (R : Nat) (a : Option Addr) (c : Nat) (w : World) (c0 : w.cell? ⟨R, 0, none⟩ = some (.slice a 0 c)) (c1 : w.cell? ⟨R, 1, none⟩ = some (.int .i64 0)) :
    Calls Try.prog 80 #[.pointer (some ⟨R, 0, none⟩), .string { data := #[83, 67, 69, 78] }] w fun e w' => ThrowOut w R (5, 0) e w' := by
  go_enter Try.func80, Try.ntmps80
  go_wp2
  go_loopw [4, 7] (fun _ si wr => si = .int .i64 0 ∧ wr = w) (fun _ si _ => 4 - (intOf si).toNat)
  case atStart => exact ⟨rfl, rfl⟩
  case round =>
    obtain ⟨rfl, rfl⟩ := hrel
    go_wp2
    refine wp_region_any (by kernel_rfl) ?_
    refine wpAny_take (i := 0) (v := .pointer (some ⟨R, 0, none⟩)) rfl (by kernel_rfl) (by kernel_rfl) (by kernel_rfl) (fun _ _ _ h => h) (Or.inl ⟨by rfl, by intro w; go_simp⟩) ?_
    refine wpAny_take (i := 4) (v := .string { data := #[83, 67, 69, 78] }) rfl (by kernel_rfl) (by kernel_rfl) (by kernel_rfl) (fun _ _ _ h => h) (Or.inl ⟨by rfl, by intro w; go_simp⟩) ?_
    refine wpAny_take (i := 5) (v := .int .i64 0) rfl (by kernel_rfl) (by kernel_rfl) (by kernel_rfl) (fun _ _ _ h => h) (Or.inl ⟨by rfl, by intro w; go_simp⟩) ?_
    refine wpAny_take (i := 6) (v := .int .u8 83) rfl (by kernel_rfl) (by kernel_rfl) (by kernel_rfl) (fun _ _ _ h => h) (Or.inl ⟨by rfl, by intro w; go_simp; rfl⟩) ?_
    refine wpAny_ready (rs := [1]) (by kernel_rfl) (by simp) (AllReady.cons rfl (fun K hK => ?_) AllReady.nil)
    go_simp
    refine (take_none R a c wr.drew c0 c1).mono ?_
    rintro e V ⟨rfl, has⟩
    exact ⟨rfl, rfl, (Aside.of (Below.drew (Below.refl _ _))).trans has⟩

end Go.Proofs.Ytcjdnomhnlbmbaa
