/-
  Lists of dyadic numbers in the program: are all valid?
-/
import Derived.Test.YtladfpljnaippaaDy1
import Derived.Test.YtladfpljnaippaaDyI2
namespace Go.Proofs.Ytladfpljnaippaa
open Go.RowKit

/-- A Dyadic's parts. -/
structure DV where
  g : Bool
  a : Option Addr
  c : Nat
  zs : List Int
  E : Int

instance : Inhabited DV := ⟨⟨false, none, 0, [], 0⟩⟩

/-- Block b from off on holds the Dyadics ds. -/
structure RowD (w : World) (b off : Nat) (ds : List DV) : Prop where
  lt : b < w.heap.size
  c0 : ∀ i, i < ds.length → w.cell? ⟨b, off + i * 3, none⟩ = some (.bool (ds.getD i default).g)
  c1 : ∀ i, i < ds.length → w.cell? ⟨b, off + i * 3 + 1, none⟩ = some (.slice (ds.getD i default).a (ds.getD i default).zs.length (ds.getD i default).c)
  c2 : ∀ i, i < ds.length → w.cell? ⟨b, off + i * 3 + 2, none⟩ = some (.int .i64 (ds.getD i default).E)
  row : ∀ i, i < ds.length → RowAt .u32 w (ds.getD i default).a (ds.getD i default).zs

theorem RowD.later {w w' : World} {b off : Nat} {ds : List DV} (h : RowD w b off ds) (hb : Below w.heap.size w w') : RowD w' b off ds :=
  ⟨Nat.lt_of_lt_of_le h.lt hb.size, fun i hi => (hb.cell (p := ⟨b, off + i * 3, none⟩) h.lt).trans (h.c0 i hi), fun i hi => (hb.cell (p := ⟨b, off + i * 3 + 1, none⟩) h.lt).trans (h.c1 i hi), fun i hi => (hb.cell (p := ⟨b, off + i * 3 + 2, none⟩) h.lt).trans (h.c2 i hi), fun i hi => (h.row i hi).later hb⟩

def DV.ok (d : DV) : Bool := validD d.g d.zs d.E

set_option maxRecDepth 100000 in
set_option maxHeartbeats 4000000 in
theorem validsI_any (b off c : Nat) (ds : List DV) (w : World) (hn : ds.length ≤ 1000) (hl : ∀ d, d ∈ ds → d.zs.length ≤ 1048576) (hd : RowD w b off ds) :
    Calls Try.prog 31 #[.slice (some ⟨b, off, none⟩) ds.length c] w fun e w' => e = .returned (.bool (ds.all DV.ok)) ∧ Below w.heap.size w w' := by
  go_enter Try.func31, Try.ntmps31
  go_wp2
  go_loopw [4, 7] (fun _ si wr => ∃ i : Nat, i ≤ ds.length ∧ si = .int .i64 i ∧ Hid ((ds.take i).all DV.ok = true) ∧ Below w.heap.size w wr) (fun _ si _ => ds.length - (intOf si).toNat)
  case atStart => exact ⟨0, Nat.zero_le _, rfl, rfl, Below.refl _ _⟩
  case round =>
    obtain ⟨i, hi, rfl, hall, hnx⟩ := hrel
    have hd2 := hd.later hnx
    by_cases hlt : i < ds.length
    · have g0 := hd2.c0 i hlt
      have g1 := hd2.c1 i hlt
      have g2 := hd2.c2 i hlt
      have g3 := hd2.row i hlt
      obtain ⟨d, hdd⟩ : ∃ d, d = ds.getD i default := ⟨_, rfl⟩
      rw [← hdd] at g0 g1 g2 g3
      have hib : (i : Int) < ds.length := by omega
      have hmem : d ∈ ds := by rw [hdd, List.getD_eq_getElem?_getD, List.getElem?_eq_getElem hlt]; exact List.getElem_mem hlt
      have hdl := hl d hmem
      have HTK : Hid ((ds.take (i + 1)).all DV.ok = d.ok) := by
        unfold Hid
        rw [List.take_succ_eq_append_getElem hlt, List.all_append, hall.out, hdd]
        simp [List.getD_eq_getElem?_getD, hlt]
      have HBAD : Hid (d.ok = false → ds.all DV.ok = false) := by
        intro hf
        cases hall2 : ds.all DV.ok
        · rfl
        · have := List.all_eq_true.1 hall2 d hmem
          rw [hf] at this
          cases this
      have G3 : Hid (RowAt .u32 wr d.a d.zs) := g3
      have HN : Hid (Below w.heap.size w wr) := hnx
      clear hdd hmem g3 hd2 hall hnx
      cases hv : validB d.g d.zs
      · have hbad := HBAD.out (by unfold DV.ok validD; rw [hv]; rfl)
        have HF : Hid (ds.all DV.ok = false) := hbad
        clear hbad
        go_wp2_with fail
        refine (validI_any d.g d.a d.c d.zs _ (by unfold maxLen; omega) (G3.out.later (bel0 _ _))).mono ?_
        rintro e w2 ⟨rfl, hb2⟩
        rw [hv]
        have HB2 : Hid (Below w.heap.size w w2) := (HN.out.alloc HN.out.size _).trans (hb2.mono (by have := HN.out.size; simp; omega))
        have q2 : w2.cell? ⟨wr.heap.size, 2, none⟩ = some (.int .i64 d.E) := by rw [(bcell hb2).1 _ _ (by simp)]; simp [go_sem]
        clear hb2
        go_wp2
        go_ret
        rw [HF.out]
        exact ⟨rfl, HB2.out⟩
      · by_cases h1 : d.E < -20000
        · have hbad := HBAD.out (by unfold DV.ok validD; rw [hv]; simp; omega)
          have HF : Hid (ds.all DV.ok = false) := hbad
          clear hbad
          go_wp2_with fail
          refine (validI_any d.g d.a d.c d.zs _ (by unfold maxLen; omega) (G3.out.later (bel0 _ _))).mono ?_
          rintro e w2 ⟨rfl, hb2⟩
          rw [hv]
          have HB2 : Hid (Below w.heap.size w w2) := (HN.out.alloc HN.out.size _).trans (hb2.mono (by have := HN.out.size; simp; omega))
          have q2 : w2.cell? ⟨wr.heap.size, 2, none⟩ = some (.int .i64 d.E) := by rw [(bcell hb2).1 _ _ (by simp)]; simp [go_sem]
          clear hb2
          go_wp2
          go_ret
          rw [HF.out]
          exact ⟨rfl, HB2.out⟩
        · by_cases h2 : 20000 < d.E
          · have hbad := HBAD.out (by unfold DV.ok validD; rw [hv]; simp; omega)
            have HF : Hid (ds.all DV.ok = false) := hbad
            clear hbad
            go_wp2_with fail
            refine (validI_any d.g d.a d.c d.zs _ (by unfold maxLen; omega) (G3.out.later (bel0 _ _))).mono ?_
            rintro e w2 ⟨rfl, hb2⟩
            rw [hv]
            have HB2 : Hid (Below w.heap.size w w2) := (HN.out.alloc HN.out.size _).trans (hb2.mono (by have := HN.out.size; simp; omega))
            have q2 : w2.cell? ⟨wr.heap.size, 2, none⟩ = some (.int .i64 d.E) := by rw [(bcell hb2).1 _ _ (by simp)]; simp [go_sem]
            clear hb2
            go_wp2
            go_ret
            rw [HF.out]
            exact ⟨rfl, HB2.out⟩
          · have HG : Hid ((ds.take (i + 1)).all DV.ok = true) := by
              unfold Hid
              rw [HTK.out]
              unfold DV.ok validD
              rw [hv]
              simp
              omega
            go_wp2_with fail
            refine (validI_any d.g d.a d.c d.zs _ (by unfold maxLen; omega) (G3.out.later (bel0 _ _))).mono ?_
            rintro e w2 ⟨rfl, hb2⟩
            rw [hv]
            have HB2 : Hid (Below w.heap.size w w2) := (HN.out.alloc HN.out.size _).trans (hb2.mono (by have := HN.out.size; simp; omega))
            have q2 : w2.cell? ⟨wr.heap.size, 2, none⟩ = some (.int .i64 d.E) := by rw [(bcell hb2).1 _ _ (by simp)]; simp [go_sem]
            clear hb2
            go_wp2
            go_roundw
            case rel => exact ⟨i + 1, by omega, by go_num, HG, HB2.out⟩
            case measure => simp [intOf]; omega
    · have hin : i = ds.length := by omega
      subst hin
      have HA : Hid (ds.all DV.ok = true) := by unfold Hid; have := hall.out; rw [List.take_length] at this; exact this
      have HN : Hid (Below w.heap.size w wr) := hnx
      clear hall hnx hd2 hd
      go_wp2
      go_ret
      rw [HA.out]
      exact ⟨rfl, HN.out⟩

end Go.Proofs.Ytladfpljnaippaa
