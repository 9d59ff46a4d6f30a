/-
  Lists of dyadic numbers in the program: are all valid?
-/
import Derived.Test.YtladfpljnaippabDoorDy1
import Derived.Test.YtladfpljnaippabDoorImplCToDyI2
import Derived.Test.YtladfpljnaippabDoorBase
import Derived.Test.YtladfpljnaippabDoorBigs
import Derived.Laws.MakeOwn
import Derived.Test.YtladfpljnaippabDoorBox1
import Derived.Deep.QuietTactic
import Derived.BigQuiet
namespace Go.Proofs.YtladfpljnaippabDoor
open Go.RowKit

/-- A Dyadic's parts. -/
structure DV where
  g : Bool
  a : Option Addr
  c : Nat
  zs : List Int
  E : Int

instance : Inhabited DV := ⟨⟨false, none, 0, [], 0⟩⟩

/-- Block b from off on holds the Dyadics ds. -/
structure RowD (w : World) (b off : Nat) (ds : List DV) : Prop where
  lt : b < w.heap.size
  c0 : ∀ i, i < ds.length → w.cell? ⟨b, off + i * 3, none⟩ = some (.bool (ds.getD i default).g)
  c1 : ∀ i, i < ds.length → w.cell? ⟨b, off + i * 3 + 1, none⟩ = some (.slice (ds.getD i default).a (ds.getD i default).zs.length (ds.getD i default).c)
  c2 : ∀ i, i < ds.length → w.cell? ⟨b, off + i * 3 + 2, none⟩ = some (.int .i64 (ds.getD i default).E)
  row : ∀ i, i < ds.length → RowAt .u32 w (ds.getD i default).a (ds.getD i default).zs

theorem RowD.later {w w' : World} {b off : Nat} {ds : List DV} (h : RowD w b off ds) (hb : Below w.heap.size w w') : RowD w' b off ds :=
  ⟨Nat.lt_of_lt_of_le h.lt hb.size, fun i hi => (hb.cell (p := ⟨b, off + i * 3, none⟩) h.lt).trans (h.c0 i hi), fun i hi => (hb.cell (p := ⟨b, off + i * 3 + 1, none⟩) h.lt).trans (h.c1 i hi), fun i hi => (hb.cell (p := ⟨b, off + i * 3 + 2, none⟩) h.lt).trans (h.c2 i hi), fun i hi => (h.row i hi).later hb⟩

def DV.ok (d : DV) : Bool := validD d.g d.zs d.E

set_option maxRecDepth 100000 in
set_option maxHeartbeats 4000000 in
theorem validsI_any (b off c : Nat) (ds : List DV) (w : World) (hn : ds.length ≤ 1000) (hl : ∀ d, d ∈ ds → d.zs.length ≤ 1048576) (hd : RowD w b off ds) :
    Calls Tryd.prog 38 #[.slice (some ⟨b, off, none⟩) ds.length c] w fun e w' => e = .returned (.bool (ds.all DV.ok)) ∧ Below w.heap.size w w' := by
  go_enter Tryd.func38, Tryd.ntmps38
  go_wp2
  go_loopw [4, 7] (fun _ si wr => ∃ i : Nat, i ≤ ds.length ∧ si = .int .i64 i ∧ Hid ((ds.take i).all DV.ok = true) ∧ Below w.heap.size w wr) (fun _ si _ => ds.length - (intOf si).toNat)
  case atStart => exact ⟨0, Nat.zero_le _, rfl, rfl, Below.refl _ _⟩
  case round =>
    obtain ⟨i, hi, rfl, hall, hnx⟩ := hrel
    have hd2 := hd.later hnx
    by_cases hlt : i < ds.length
    · have g0 := hd2.c0 i hlt
      have g1 := hd2.c1 i hlt
      have g2 := hd2.c2 i hlt
      have g3 := hd2.row i hlt
      obtain ⟨d, hdd⟩ : ∃ d, d = ds.getD i default := ⟨_, rfl⟩
      rw [← hdd] at g0 g1 g2 g3
      have hib : (i : Int) < ds.length := by omega
      have hmem : d ∈ ds := by rw [hdd, List.getD_eq_getElem?_getD, List.getElem?_eq_getElem hlt]; exact List.getElem_mem hlt
      have hdl := hl d hmem
      have HTK : Hid ((ds.take (i + 1)).all DV.ok = d.ok) := by
        unfold Hid
        rw [List.take_succ_eq_append_getElem hlt, List.all_append, hall.out, hdd]
        simp [List.getD_eq_getElem?_getD, hlt]
      have HBAD : Hid (d.ok = false → ds.all DV.ok = false) := by
        intro hf
        cases hall2 : ds.all DV.ok
        · rfl
        · have := List.all_eq_true.1 hall2 d hmem
          rw [hf] at this
          cases this
      have G3 : Hid (RowAt .u32 wr d.a d.zs) := g3
      have HN : Hid (Below w.heap.size w wr) := hnx
      clear hdd hmem g3 hd2 hall hnx
      cases hv : validB d.g d.zs
      · have hbad := HBAD.out (by unfold DV.ok validD; rw [hv]; rfl)
        have HF : Hid (ds.all DV.ok = false) := hbad
        clear hbad
        go_wp2_with fail
        refine (validI_any d.g d.a d.c d.zs _ (by unfold maxLen; omega) (G3.out.later (bel0 _ _))).mono ?_
        rintro e w2 ⟨rfl, hb2⟩
        rw [hv]
        have HB2 : Hid (Below w.heap.size w w2) := (HN.out.alloc HN.out.size _).trans (hb2.mono (by have := HN.out.size; simp; omega))
        have q2 : w2.cell? ⟨wr.heap.size, 2, none⟩ = some (.int .i64 d.E) := by rw [(bcell hb2).1 _ _ (by simp)]; simp [go_sem]
        clear hb2
        go_wp2
        go_ret
        rw [HF.out]
        exact ⟨rfl, HB2.out⟩
      · by_cases h1 : d.E < -20000
        · have hbad := HBAD.out (by unfold DV.ok validD; rw [hv]; simp; omega)
          have HF : Hid (ds.all DV.ok = false) := hbad
          clear hbad
          go_wp2_with fail
          refine (validI_any d.g d.a d.c d.zs _ (by unfold maxLen; omega) (G3.out.later (bel0 _ _))).mono ?_
          rintro e w2 ⟨rfl, hb2⟩
          rw [hv]
          have HB2 : Hid (Below w.heap.size w w2) := (HN.out.alloc HN.out.size _).trans (hb2.mono (by have := HN.out.size; simp; omega))
          have q2 : w2.cell? ⟨wr.heap.size, 2, none⟩ = some (.int .i64 d.E) := by rw [(bcell hb2).1 _ _ (by simp)]; simp [go_sem]
          clear hb2
          go_wp2
          go_ret
          rw [HF.out]
          exact ⟨rfl, HB2.out⟩
        · by_cases h2 : 20000 < d.E
          · have hbad := HBAD.out (by unfold DV.ok validD; rw [hv]; simp; omega)
            have HF : Hid (ds.all DV.ok = false) := hbad
            clear hbad
            go_wp2_with fail
            refine (validI_any d.g d.a d.c d.zs _ (by unfold maxLen; omega) (G3.out.later (bel0 _ _))).mono ?_
            rintro e w2 ⟨rfl, hb2⟩
            rw [hv]
            have HB2 : Hid (Below w.heap.size w w2) := (HN.out.alloc HN.out.size _).trans (hb2.mono (by have := HN.out.size; simp; omega))
            have q2 : w2.cell? ⟨wr.heap.size, 2, none⟩ = some (.int .i64 d.E) := by rw [(bcell hb2).1 _ _ (by simp)]; simp [go_sem]
            clear hb2
            go_wp2
            go_ret
            rw [HF.out]
            exact ⟨rfl, HB2.out⟩
          · have HG : Hid ((ds.take (i + 1)).all DV.ok = true) := by
              unfold Hid
              rw [HTK.out]
              unfold DV.ok validD
              rw [hv]
              simp
              omega
            go_wp2_with fail
            refine (validI_any d.g d.a d.c d.zs _ (by unfold maxLen; omega) (G3.out.later (bel0 _ _))).mono ?_
            rintro e w2 ⟨rfl, hb2⟩
            rw [hv]
            have HB2 : Hid (Below w.heap.size w w2) := (HN.out.alloc HN.out.size _).trans (hb2.mono (by have := HN.out.size; simp; omega))
            have q2 : w2.cell? ⟨wr.heap.size, 2, none⟩ = some (.int .i64 d.E) := by rw [(bcell hb2).1 _ _ (by simp)]; simp [go_sem]
            clear hb2
            go_wp2
            go_roundw
            case rel => exact ⟨i + 1, by omega, by go_num, HG, HB2.out⟩
            case measure => simp [intOf]; omega
    · have hin : i = ds.length := by omega
      subst hin
      have HA : Hid (ds.all DV.ok = true) := by unfold Hid; have := hall.out; rw [List.take_length] at this; exact this
      have HN : Hid (Below w.heap.size w wr) := hnx
      clear hall hnx hd2 hd
      go_wp2
      go_ret
      rw [HA.out]
      exact ⟨rfl, HN.out⟩

end Go.Proofs.YtladfpljnaippabDoor

/-
  Writes within some blocks; rows that lie in some blocks.
-/
namespace Go.Proofs.YtladfpljnaippabDoor
open Go.RowKit

/-- Only blocks from lo to below hi have turned. -/
structure Within (lo hi : Nat) (w w' : World) : Prop where
  os : w'.os = w.os
  tape : w'.tape = w.tape
  output : w'.output = w.output
  size : w'.heap.size = w.heap.size
  block : ∀ k, (k < lo ∨ hi ≤ k) → w'.heap[k]? = w.heap[k]?

theorem Within.refl (lo hi : Nat) (w : World) : Within lo hi w w := ⟨rfl, rfl, rfl, rfl, fun _ _ => rfl⟩

theorem Within.below {lo hi : Nat} {w w' : World} (h : Within lo hi w w') : Below lo w w' := ⟨h.os, h.tape, h.output, by rw [h.size]; omega, fun k hk => h.block k (.inl hk)⟩

theorem Within.setCell {lo hi : Nat} {a w : World} (h : Within lo hi a w) {p : Addr} (h1 : lo ≤ p.block) (h2 : p.block < hi) (u : Value) : Within lo hi a (w.setCell p u) :=
  ⟨h.os, h.tape, h.output, by simpa using h.size, fun k hk => (Below.heap_setCell _ _ _ _ (by omega)).trans (h.block k hk)⟩

theorem Within.cell {lo hi : Nat} {w w' : World} (h : Within lo hi w w') {p : Addr} (hp : p.block < lo ∨ hi ≤ p.block) : w'.cell? p = w.cell? p := World.cell?_of_block (w := w) (h.block p.block hp)
theorem Within.frozen {lo hi : Nat} {w w' : World} (h : Within lo hi w w') {p : Addr} (hp : p.block < lo ∨ hi ≤ p.block) : w'.frozen? p = w.frozen? p := World.frozen?_of_block (w := w) (h.block p.block hp)

/-- A row of numbers that may be written, in blocks from lo to below hi. -/
def RowIn (k : IntKind) (w : World) (lo hi : Nat) (a : Option Addr) (zs : List Int) : Prop :=
  zs = [] ∨ ∃ b off, a = some ⟨b, off, none⟩ ∧ lo ≤ b ∧ b < hi ∧ b < w.heap.size ∧ (∀ j, j < zs.length → w.cell? ⟨b, off + j, none⟩ = some (.int k (zs.getD j 0))) ∧ ∀ j, j < zs.length → w.frozen? ⟨b, off + j, none⟩ = false

theorem RowIn.row {k : IntKind} {w : World} {lo hi : Nat} {a : Option Addr} {zs : List Int} (h : RowIn k w lo hi a zs) : RowAt k w a zs := by
  rcases h with h | ⟨b, off, h1, _, _, h2, h3, _⟩
  · exact .inl h
  · exact .inr ⟨b, off, h1, h2, h3⟩

theorem RowNew.rowIn {k : IntKind} {w : World} {B : Nat} {a : Option Addr} {zs : List Int} (h : RowNew k w B a zs) : RowIn k w B w.heap.size a zs := by
  rcases h with h | ⟨b, off, h1, h0, h2, h3, h4⟩
  · exact .inl h
  · exact .inr ⟨b, off, h1, h0, h2, h2, h3, h4⟩

theorem RowIn.later {k : IntKind} {w w' : World} {lo hi : Nat} {a : Option Addr} {zs : List Int} (h : RowIn k w lo hi a zs) (hb : Below w.heap.size w w') : RowIn k w' lo hi a zs := by
  rcases h with h | ⟨b, off, h1, h0, h00, h2, h3, h4⟩
  · exact .inl h
  · exact .inr ⟨b, off, h1, h0, h00, Nat.lt_of_lt_of_le h2 hb.size, fun j hj => (hb.cell (p := ⟨b, off + j, none⟩) h2).trans (h3 j hj), fun j hj => (hb.frozen (p := ⟨b, off + j, none⟩) h2).trans (h4 j hj)⟩

theorem RowIn.apart {k : IntKind} {w w' : World} {lo hi lo' hi' : Nat} {a : Option Addr} {zs : List Int} (h : RowIn k w lo hi a zs) (hb : Within lo' hi' w w') (hd : hi ≤ lo' ∨ hi' ≤ lo) : RowIn k w' lo hi a zs := by
  rcases h with h | ⟨b, off, h1, h0, h00, h2, h3, h4⟩
  · exact .inl h
  · exact .inr ⟨b, off, h1, h0, h00, by rw [hb.size]; exact h2, fun j hj => (hb.cell (p := ⟨b, off + j, none⟩) (by simp; omega)).trans (h3 j hj), fun j hj => (hb.frozen (p := ⟨b, off + j, none⟩) (by simp; omega)).trans (h4 j hj)⟩

end Go.Proofs.YtladfpljnaippabDoor

/-
  Memory that the law itself marks: a frame for writes within known blocks; the laws' markers.
-/
namespace Go.Proofs.YtladfpljnaippabDoor
open Go.RowKit

theorem ret_intM {k : IntKind} {a b : Int} (h : a = b) : Ending.returned (.int k a) = .returned (.int k b) := by rw [h]

/-- k, k + 1, .. : n numbers. -/
def marksL (k : Int) : Nat → List Int
  | 0 => []
  | n + 1 => k :: marksL (k + 1) n
theorem marks_length : ∀ (n : Nat) (k : Int), (marksL k n).length = n
  | 0, _ => rfl
  | n + 1, k => by simp [marksL, marks_length n]
theorem marks_get : ∀ (n : Nat) (k : Int) (j : Nat), j < n → (marksL k n).getD j 0 = k + j
  | 0, _, _, h => absurd h (by omega)
  | n + 1, k, 0, _ => by simp [marksL]
  | n + 1, k, j + 1, h => by
    have := marks_get n (k + 1) j (by omega)
    simp only [marksL, List.getD_cons_succ, this]
    omega

set_option maxHeartbeats 1000000 in
theorem markU_any (a : Option Addr) (c : Nat) (zs : List Int) (k0 : Int) (w : World) (lo hi : Nat) (hn : zs.length ≤ 1048576) (h0 : 1 ≤ k0) (h1 : k0 ≤ 2097152) (hz : RowIn .u32 w lo hi a zs) :
    Calls Tryd.prog 70 #[.slice a zs.length c, .int .i64 k0] w fun e w' => e = .returned (.int .i64 (k0 + zs.length)) ∧ RowIn .u32 w' lo hi a (marksL k0 zs.length) ∧ Within lo hi w w' := by
  rcases hz with hz | ⟨b, off, rfl, hlo, hhi, hb, hc, hf⟩
  · subst hz
    go_enter Tryd.func70, Tryd.ntmps70
    go_wp2
    go_loop [1, 5] (fun k i => k = .int .i64 k0 ∧ i = .int .i64 0) (fun _ _ => 0)
    case atStart => exact ⟨rfl, rfl⟩
    case round =>
      obtain ⟨rfl, rfl⟩ := hrel
      go_wp2
      go_ret
      exact ⟨ret_intM (by simp), .inl rfl, Within.refl _ _ _⟩
  · go_enter Tryd.func70, Tryd.ntmps70
    go_wp2
    go_loopw [1, 5] (fun k i wr => ∃ n : Nat, n ≤ zs.length ∧ i = .int .i64 n ∧ k = .int .i64 (k0 + n) ∧ (∀ j, j < n → wr.cell? ⟨b, off + j, none⟩ = some (.int .u32 (k0 + j))) ∧ (∀ j, j < zs.length → ∃ v, wr.cell? ⟨b, off + j, none⟩ = some v) ∧ (∀ j, j < zs.length → wr.frozen? ⟨b, off + j, none⟩ = false) ∧ Within lo hi w wr) (fun _ i _ => zs.length - (intOf i).toNat)
    case atStart => exact ⟨0, Nat.zero_le _, rfl, by simp, fun j hj => absurd hj (by omega), fun j hj => ⟨_, hc j hj⟩, hf, Within.refl _ _ _⟩
    case round =>
      obtain ⟨n, hn', rfl, rfl, hdone, hall, hfz, hwi⟩ := hrel
      by_cases hlt : n < zs.length
      · obtain ⟨v, hv⟩ := hall n hlt
        have hv2 := hfz n hlt
        have HD := hdone
        have HS : Hid ((∀ j, j < n + 1 → (wr.setCell ⟨b, off + n, none⟩ (.int .u32 (k0 + n))).cell? ⟨b, off + j, none⟩ = some (.int .u32 (k0 + j))) ∧ (∀ j, j < zs.length → ∃ v, (wr.setCell ⟨b, off + n, none⟩ (.int .u32 (k0 + n))).cell? ⟨b, off + j, none⟩ = some v) ∧ (∀ j, j < zs.length → (wr.setCell ⟨b, off + n, none⟩ (.int .u32 (k0 + n))).frozen? ⟨b, off + j, none⟩ = false) ∧ Within lo hi w (wr.setCell ⟨b, off + n, none⟩ (.int .u32 (k0 + n)))) := by
          refine ⟨fun j hj => ?_, fun j hj => ?_, fun j hj => ?_, hwi.setCell hlo hhi _⟩
          · by_cases e : j = n
            · subst e; exact World.cell?_setCell_same _ _ _ hv
            · rw [World.cell?_setCell_other _ _ _ _ (by intro hh; apply e; have := congrArg Addr.off hh; simp at this; omega)]; exact hdone j (by omega)
          · by_cases e : j = n
            · subst e; exact ⟨_, World.cell?_setCell_same _ _ _ hv⟩
            · rw [World.cell?_setCell_other _ _ _ _ (by intro hh; apply e; have := congrArg Addr.off hh; simp at this; omega)]; exact hall j hj
          · rw [World.frozen?_setCell]; exact hfz j hj
        clear hdone hall hfz hwi HD hc hf
        go_wp2
        go_roundw
        case rel => exact ⟨n + 1, by omega, by go_num, by go_num, HS.out.1, HS.out.2⟩
        case measure => simp [intOf]; omega
      · have hnn : n = zs.length := by omega
        subst hnn
        have HR : Hid (RowIn .u32 wr lo hi (some ⟨b, off, none⟩) (marksL k0 zs.length)) := by
          refine .inr ⟨b, off, rfl, hlo, hhi, by rw [hwi.size]; exact hb, fun j hj => ?_, fun j hj => ?_⟩
          · rw [marks_length] at hj
            rw [marks_get _ _ _ hj]; exact hdone j hj
          · rw [marks_length] at hj; exact hfz j hj
        have HW : Hid (Within lo hi w wr) := hwi
        clear hdone hall hfz hc hf hwi
        go_wp2
        go_ret
        exact ⟨rfl, HR.out, HW.out⟩

set_option maxHeartbeats 1000000 in
theorem heldU_any (a : Option Addr) (c : Nat) (n : Nat) (k0 : Int) (w : World) (hn : n ≤ 1048576) (h0 : 1 ≤ k0) (h1 : k0 ≤ 2097152) (hz : RowAt .u32 w a (marksL k0 n)) :
    Calls Tryd.prog 103 #[.slice a n c, .int .i64 k0] w fun e w' => e = .returned (.int .i64 (k0 + n)) ∧ w' = w := by
  rcases hz with hz | ⟨b, off, rfl, hb, hc⟩
  · have : n = 0 := by rw [← marks_length n k0, hz]; rfl
    subst this
    go_enter Tryd.func103, Tryd.ntmps103
    go_wp2
    go_loop [1, 5] (fun k i => k = .int .i64 k0 ∧ i = .int .i64 0) (fun _ _ => 0)
    case atStart => exact ⟨rfl, rfl⟩
    case round =>
      obtain ⟨rfl, rfl⟩ := hrel
      go_wp2
      go_ret
      exact ⟨ret_intM (by simp), rfl⟩
  · go_enter Tryd.func103, Tryd.ntmps103
    go_wp2
    go_loop [1, 5] (fun k i => ∃ m : Nat, m ≤ n ∧ i = .int .i64 m ∧ k = .int .i64 (k0 + m)) (fun _ i => n - (intOf i).toNat)
    case atStart => exact ⟨0, Nat.zero_le _, rfl, by simp⟩
    case round =>
      obtain ⟨m, hm, rfl, rfl⟩ := hrel
      by_cases hlt : m < n
      · have g1 : w.cell? ⟨b, off + m, none⟩ = some (.int .u32 (k0 + m)) := by rw [hc m (by rw [marks_length]; exact hlt), marks_get _ _ _ hlt]
        have hne : (k0 + (m : Int) != k0 + (m : Int)) = false := by simp
        clear hc
        go_wp2
        go_round
        case rel => exact ⟨m + 1, by omega, by go_num, by go_num⟩
        case measure => simp [intOf]; omega
      · have hmn : m = n := by omega
        subst hmn
        go_wp2
        go_ret
        exact ⟨rfl, rfl⟩

set_option maxHeartbeats 1000000 in
theorem markB_any (g : Bool) (a : Option Addr) (c : Nat) (zs : List Int) (k0 : Int) (w : World) (lo hi : Nat) (hn : zs.length ≤ 1048576) (h0 : 1 ≤ k0) (h1 : k0 ≤ 2097152) (hz : RowIn .u32 w lo hi a zs) :
    Calls Tryd.prog 71 #[.agg #[.bool g, .slice a zs.length c], .int .i64 k0] w fun e w' => e = .returned (.int .i64 (k0 + zs.length)) ∧ RowIn .u32 w' lo hi a (marksL k0 zs.length) ∧ ∃ w1, Below w.heap.size w w1 ∧ Within lo hi w1 w' := by
  go_enter Tryd.func71, Tryd.ntmps71
  go_wp2_with fail
  refine (markU_any a c zs k0 _ lo hi hn h0 h1 (hz.later (bel0 _ _))).mono ?_
  rintro e w1 ⟨rfl, hr, hw⟩
  have HR : Hid (RowIn .u32 w1 lo hi a (marksL k0 zs.length)) := hr
  have HW : Hid (∃ w2, Below w.heap.size w w2 ∧ Within lo hi w2 w1) := ⟨_, bel0 _ _, hw⟩
  clear hr hw hz
  go_wp2
  go_ret
  exact ⟨rfl, HR.out, HW.out⟩

set_option maxHeartbeats 1000000 in
theorem heldB_any (g : Bool) (a : Option Addr) (c : Nat) (n : Nat) (k0 : Int) (w : World) (hn : n ≤ 1048576) (h0 : 1 ≤ k0) (h1 : k0 ≤ 2097152) (hz : RowAt .u32 w a (marksL k0 n)) :
    Calls Tryd.prog 72 #[.agg #[.bool g, .slice a n c], .int .i64 k0] w fun e w' => e = .returned (.int .i64 (k0 + n)) ∧ Below w.heap.size w w' := by
  have hnn : ¬ k0 + (n : Int) < 0 := by omega
  go_enter Tryd.func72, Tryd.ntmps72
  go_wp2_with fail
  refine (heldU_any a c n k0 _ hn h0 h1 (hz.later (bel0 _ _))).mono ?_
  rintro e w1 ⟨rfl, hw⟩
  subst hw
  clear hz
  go_wp2
  go_ret
  exact ⟨rfl, bel0 _ _⟩

end Go.Proofs.YtladfpljnaippabDoor

/-
  Marks in Dyadics.
-/
namespace Go.Proofs.YtladfpljnaippabDoor
open Go.RowKit

set_option maxHeartbeats 1000000 in
theorem mark2_any (g : Bool) (a : Option Addr) (c : Nat) (zs : List Int) (E k0 : Int) (w : World) (lo hi : Nat) (hn : zs.length ≤ 1048576) (h0 : 1 ≤ k0) (h1 : k0 ≤ 2097152) (hz : RowIn .u32 w lo hi a zs) :
    Calls Tryd.prog 26 #[.agg #[.bool g, .slice a zs.length c, .int .i64 E], .int .i64 k0] w fun e w' => e = .returned (.int .i64 (k0 + zs.length)) ∧ RowIn .u32 w' lo hi a (marksL k0 zs.length) ∧ ∃ w1, Below w.heap.size w w1 ∧ Within lo hi w1 w' := by
  go_enter Tryd.func26, Tryd.ntmps26
  go_wp2_with fail
  refine (markB_any g a c zs k0 _ lo hi hn h0 h1 (hz.later (bel0 _ _))).mono ?_
  rintro e w1 ⟨rfl, hr, w2, hb2, hw⟩
  have HR : Hid (RowIn .u32 w1 lo hi a (marksL k0 zs.length)) := hr
  have HW : Hid (∃ w2, Below w.heap.size w w2 ∧ Within lo hi w2 w1) := ⟨w2, (bel0 _ _).trans (hb2.mono (by simp)), hw⟩
  clear hr hw hz hb2
  go_wp2
  go_ret
  exact ⟨rfl, HR.out, HW.out⟩

set_option maxHeartbeats 1000000 in
theorem held2_any (g : Bool) (a : Option Addr) (c : Nat) (n : Nat) (E k0 : Int) (w : World) (hn : n ≤ 1048576) (h0 : 1 ≤ k0) (h1 : k0 ≤ 2097152) (hz : RowAt .u32 w a (marksL k0 n)) :
    Calls Tryd.prog 27 #[.agg #[.bool g, .slice a n c, .int .i64 E], .int .i64 k0] w fun e w' => e = .returned (.int .i64 (k0 + n)) ∧ Below w.heap.size w w' := by
  have hnn : ¬ k0 + (n : Int) < 0 := by omega
  go_enter Tryd.func27, Tryd.ntmps27
  go_wp2_with fail
  refine (heldB_any g a c n k0 _ hn h0 h1 (hz.later (bel0 _ _))).mono ?_
  rintro e w1 ⟨rfl, hb⟩
  have HB : Hid (Below w.heap.size w w1) := (bel0 _ _).trans (hb.mono (by simp))
  clear hz hb
  go_wp2
  go_ret
  exact ⟨rfl, HB.out⟩

end Go.Proofs.YtladfpljnaippabDoor

/-
  Lists of Dyadics, as the laws lay them.
-/
namespace Go.Proofs.YtladfpljnaippabDoor
open Go.RowKit

/-- What a Dyadic is, wherever its digits lie. -/
def strip (d : DV) : Bool × List Int × Int := (d.g, d.zs, d.E)
def SameD (ds ds' : List DV) : Prop := ds'.map strip = ds.map strip

theorem SameD.length {ds ds' : List DV} (h : SameD ds ds') : ds'.length = ds.length := by
  have := congrArg List.length h
  simpa using this
theorem SameD.refl (ds : List DV) : SameD ds ds := rfl
theorem SameD.symm {ds ds' : List DV} (h : SameD ds ds') : SameD ds' ds := Eq.symm h
theorem SameD.trans {ds ds' ds2 : List DV} (h : SameD ds ds') (h' : SameD ds' ds2) : SameD ds ds2 := Eq.trans h' h

theorem strip_getD (ds : List DV) (i : Nat) : strip (ds.getD i default) = (ds.map strip).getD i (strip default) := by
  rw [List.getD_eq_getElem?_getD, List.getD_eq_getElem?_getD, List.getElem?_map]
  cases ds[i]? <;> rfl

theorem SameD.at {ds ds' : List DV} (h : SameD ds ds') (i : Nat) : (ds'.getD i default).g = (ds.getD i default).g ∧ (ds'.getD i default).zs = (ds.getD i default).zs ∧ (ds'.getD i default).E = (ds.getD i default).E := by
  have h1 : strip (ds'.getD i default) = strip (ds.getD i default) := by rw [strip_getD, strip_getD, h]
  unfold strip at h1
  have h2 := congrArg Prod.fst h1
  have h3 := congrArg Prod.snd h1
  exact ⟨h2, congrArg Prod.fst h3, congrArg Prod.snd h3⟩

theorem SameD.mem {ds ds' : List DV} (h : SameD ds ds') {d : DV} (hd : d ∈ ds') : ∃ d0 ∈ ds, strip d0 = strip d := by
  have h1 : strip d ∈ ds'.map strip := List.mem_map_of_mem hd
  rw [h] at h1
  obtain ⟨d0, h2, h3⟩ := List.mem_map.1 h1
  exact ⟨d0, h2, h3⟩

theorem SameD.ok {ds ds' : List DV} (h : SameD ds ds') : ds'.all DV.ok = ds.all DV.ok := by
  have h1 : ∀ l : List DV, l.all DV.ok = (l.map strip).all (fun p => validD p.1 p.2.1 p.2.2) := by
    intro l
    rw [List.all_map]
    rfl
  rw [h1, h1, h]

/-- A list of Dyadics at a. -/
def ListD (w : World) (a : Option Addr) (ds : List DV) : Prop := ds = [] ∨ ∃ b off, a = some ⟨b, off, none⟩ ∧ RowD w b off ds

theorem ListD.later {w w' : World} {a : Option Addr} {ds : List DV} (h : ListD w a ds) (hb : Below w.heap.size w w') : ListD w' a ds := by
  rcases h with h | ⟨b, off, h1, h2⟩
  · exact .inl h
  · exact .inr ⟨b, off, h1, h2.later hb⟩

/-- A list that is being filled: block X, n places. -/
structure ToL (W : World) (X n : Nat) (ds : List DV) : Prop where
  lt : X < W.heap.size
  ex : ∀ j, j < n * 3 → ∃ v, W.cell? ⟨X, j, none⟩ = some v
  fr : ∀ j, j < n * 3 → W.frozen? ⟨X, j, none⟩ = false
  le : ds.length ≤ n
  c0 : ∀ i, i < ds.length → W.cell? ⟨X, i * 3, none⟩ = some (.bool (ds.getD i default).g)
  c1 : ∀ i, i < ds.length → W.cell? ⟨X, i * 3 + 1, none⟩ = some (.slice (ds.getD i default).a (ds.getD i default).zs.length (ds.getD i default).c)
  c2 : ∀ i, i < ds.length → W.cell? ⟨X, i * 3 + 2, none⟩ = some (.int .i64 (ds.getD i default).E)
  row : ∀ i, i < ds.length → RowNew .u32 W (X + 1) (ds.getD i default).a (ds.getD i default).zs
  ne : ∀ i j, i < j → j < ds.length → ∀ b o b' o', (ds.getD i default).a = some ⟨b, o, none⟩ → (ds.getD j default).a = some ⟨b', o', none⟩ → (ds.getD i default).zs ≠ [] → (ds.getD j default).zs ≠ [] → b ≠ b'

theorem ToL.later {W W' : World} {X n : Nat} {ds : List DV} (h : ToL W X n ds) (hb : Below W.heap.size W W') : ToL W' X n ds := by
  have hl := h.lt
  have cc : ∀ j, W'.cell? ⟨X, j, none⟩ = W.cell? ⟨X, j, none⟩ := fun j => hb.cell (p := ⟨X, j, none⟩) hl
  exact ⟨Nat.lt_of_lt_of_le hl hb.size, fun j hj => by rw [cc]; exact h.ex j hj, fun j hj => (hb.frozen (p := ⟨X, j, none⟩) hl).trans (h.fr j hj), h.le, fun i hi => (cc _).trans (h.c0 i hi), fun i hi => (cc _).trans (h.c1 i hi), fun i hi => (cc _).trans (h.c2 i hi), fun i hi => (h.row i hi).later hb, h.ne⟩

theorem getD_push (ds : List DV) (d : DV) (i : Nat) (hi : i < (ds ++ [d]).length) : (i < ds.length ∧ (ds ++ [d]).getD i default = ds.getD i default) ∨ (i = ds.length ∧ (ds ++ [d]).getD i default = d) := by
  by_cases h : i < ds.length
  · exact .inl ⟨h, by simp [List.getD_eq_getElem?_getD, List.getElem?_append_left h]⟩
  · have : i = ds.length := by simp at hi; omega
    subst this
    exact .inr ⟨rfl, by simp [List.getD_eq_getElem?_getD]⟩

theorem new_block {k : IntKind} {w : World} {B : Nat} {a : Option Addr} {zs : List Int} (h : RowNew k w B a zs) (hz : zs ≠ []) {b o : Nat} (ha : a = some ⟨b, o, none⟩) : B ≤ b ∧ b < w.heap.size := by
  rcases h with h | ⟨b', o', h1, h2, h3, _⟩
  · exact absurd h hz
  · rw [ha] at h1
    injection h1 with h1
    have : b = b' := congrArg Addr.block h1
    omega

/-- One more is laid into the list. -/
theorem ToL.push {Wr W : World} {X n k : Nat} {ds : List DV} (h : ToL Wr X n ds) (hk : ds.length = k) (hlt : k < n) (hb : Below Wr.heap.size Wr W) {g : Bool} {a : Option Addr} {c : Nat} {zs : List Int} {E : Int} (hr : RowNew .u32 W Wr.heap.size a zs) :
    ToL (((W.setCell ⟨X, k * 3, none⟩ (.bool g)).setCell ⟨X, k * 3 + 1, none⟩ (.slice a zs.length c)).setCell ⟨X, k * 3 + 2, none⟩ (.int .i64 E)) X n (ds ++ [⟨g, a, c, zs, E⟩]) := by
  subst hk
  have h2 := h.later hb
  have hl := h.lt
  have hs := hb.size
  obtain ⟨v0, e0⟩ := h2.ex (ds.length * 3) (by omega)
  obtain ⟨v1, e1⟩ := h2.ex (ds.length * 3 + 1) (by omega)
  obtain ⟨v2, e2⟩ := h2.ex (ds.length * 3 + 2) (by omega)
  have old : ∀ j, j ≠ ds.length * 3 → j ≠ ds.length * 3 + 1 → j ≠ ds.length * 3 + 2 → (((W.setCell ⟨X, ds.length * 3, none⟩ (.bool g)).setCell ⟨X, ds.length * 3 + 1, none⟩ (.slice a zs.length c)).setCell ⟨X, ds.length * 3 + 2, none⟩ (.int .i64 E)).cell? ⟨X, j, none⟩ = W.cell? ⟨X, j, none⟩ := by
    intro j h0 h1 h2
    rw [World.cell?_setCell_other _ _ _ _ (by intro e; apply h2; have := congrArg Addr.off e; simpa using this.symm), World.cell?_setCell_other _ _ _ _ (by intro e; apply h1; have := congrArg Addr.off e; simpa using this.symm), World.cell?_setCell_other _ _ _ _ (by intro e; apply h0; have := congrArg Addr.off e; simpa using this.symm)]
  have n0 : (((W.setCell ⟨X, ds.length * 3, none⟩ (.bool g)).setCell ⟨X, ds.length * 3 + 1, none⟩ (.slice a zs.length c)).setCell ⟨X, ds.length * 3 + 2, none⟩ (.int .i64 E)).cell? ⟨X, ds.length * 3, none⟩ = some (.bool g) := by
    rw [World.cell?_setCell_other _ _ _ _ (by simp), World.cell?_setCell_other _ _ _ _ (by simp)]
    exact World.cell?_setCell_same _ _ _ e0
  have n1 : (((W.setCell ⟨X, ds.length * 3, none⟩ (.bool g)).setCell ⟨X, ds.length * 3 + 1, none⟩ (.slice a zs.length c)).setCell ⟨X, ds.length * 3 + 2, none⟩ (.int .i64 E)).cell? ⟨X, ds.length * 3 + 1, none⟩ = some (.slice a zs.length c) := by
    rw [World.cell?_setCell_other _ _ _ _ (by simp)]
    refine World.cell?_setCell_same _ _ _ (u := v1) ?_
    rw [World.cell?_setCell_other _ _ _ _ (by simp)]
    exact e1
  have n2 : (((W.setCell ⟨X, ds.length * 3, none⟩ (.bool g)).setCell ⟨X, ds.length * 3 + 1, none⟩ (.slice a zs.length c)).setCell ⟨X, ds.length * 3 + 2, none⟩ (.int .i64 E)).cell? ⟨X, ds.length * 3 + 2, none⟩ = some (.int .i64 E) := by
    refine World.cell?_setCell_same _ _ _ (u := v2) ?_
    rw [World.cell?_setCell_other _ _ _ _ (by simp), World.cell?_setCell_other _ _ _ _ (by simp)]
    exact e2
  refine ⟨by simpa using h2.lt, ?_, ?_, by simp; omega, ?_, ?_, ?_, ?_, ?_⟩
  · intro j hj
    by_cases q0 : j = ds.length * 3
    · subst q0; exact ⟨_, n0⟩
    · by_cases q1 : j = ds.length * 3 + 1
      · subst q1; exact ⟨_, n1⟩
      · by_cases q2 : j = ds.length * 3 + 2
        · subst q2; exact ⟨_, n2⟩
        · rw [old j q0 q1 q2]; exact h2.ex j hj
  · intro j hj
    rw [World.frozen?_setCell, World.frozen?_setCell, World.frozen?_setCell]
    exact h2.fr j hj
  · intro i hi
    rcases getD_push ds _ i hi with ⟨q1, q2⟩ | ⟨q1, q2⟩
    · rw [q2, old _ (by omega) (by omega) (by omega)]; exact h2.c0 i q1
    · rw [q2, q1]; exact n0
  · intro i hi
    rcases getD_push ds _ i hi with ⟨q1, q2⟩ | ⟨q1, q2⟩
    · rw [q2, old _ (by omega) (by omega) (by omega)]; exact h2.c1 i q1
    · rw [q2, q1]; exact n1
  · intro i hi
    rcases getD_push ds _ i hi with ⟨q1, q2⟩ | ⟨q1, q2⟩
    · rw [q2, old _ (by omega) (by omega) (by omega)]; exact h2.c2 i q1
    · rw [q2, q1]; exact n2
  · intro i hi
    rcases getD_push ds _ i hi with ⟨q1, q2⟩ | ⟨q1, q2⟩
    · rw [q2]
      exact (((h2.row i q1).setLow (show X < X + 1 by omega) _).setLow (show X < X + 1 by omega) _).setLow (show X < X + 1 by omega) _
    · rw [q2]
      exact (((hr.down (show X + 1 ≤ Wr.heap.size by omega)).setLow (show X < X + 1 by omega) _).setLow (show X < X + 1 by omega) _).setLow (show X < X + 1 by omega) _
  · intro i j hij hj b o b' o'
    rcases getD_push ds ⟨g, a, c, zs, E⟩ j hj with ⟨q1, q2⟩ | ⟨q1, q2⟩
    · rcases getD_push ds ⟨g, a, c, zs, E⟩ i (by omega) with ⟨p1, p2⟩ | ⟨p1, p2⟩
      · rw [q2, p2]; exact h2.ne i j hij q1 b o b' o'
      · omega
    · rcases getD_push ds ⟨g, a, c, zs, E⟩ i (by omega) with ⟨p1, p2⟩ | ⟨p1, p2⟩
      · rw [q2, p2]
        intro ha ha' hz hz'
        have := (new_block (h.row i p1) hz ha).2
        have := (new_block hr hz' ha').1
        omega
      · omega

theorem ToL.start (w : World) (n : Nat) (t : TypeId) : ToL (w.alloc (.cells (madeCells #[.bool false, .slice none 0 0, .int .i64 0] (n * 3)) t)) w.heap.size n [] := by
  refine ⟨by simp, ?_, ?_, by simp, (fun i hi => absurd hi (by simp)), (fun i hi => absurd hi (by simp)), (fun i hi => absurd hi (by simp)), (fun i hi => absurd hi (by simp)), (fun i j _ hj => absurd hj (by simp))⟩
  · intro j hj
    exact ⟨(#[.bool false, .slice none 0 0, .int .i64 0] : Array Value)[j % 3]!, by simp [go_sem, madeCells, hj]⟩
  · intro j hj
    simp [go_sem]

/-- A whole list in the blocks from lo to below hi. -/
structure ListN (W : World) (lo hi X : Nat) (ds : List DV) : Prop where
  xlo : lo ≤ X
  xhi : X < hi
  hsz : hi ≤ W.heap.size
  fr : ∀ j, j < ds.length * 3 → W.frozen? ⟨X, j, none⟩ = false
  c0 : ∀ i, i < ds.length → W.cell? ⟨X, i * 3, none⟩ = some (.bool (ds.getD i default).g)
  c1 : ∀ i, i < ds.length → W.cell? ⟨X, i * 3 + 1, none⟩ = some (.slice (ds.getD i default).a (ds.getD i default).zs.length (ds.getD i default).c)
  c2 : ∀ i, i < ds.length → W.cell? ⟨X, i * 3 + 2, none⟩ = some (.int .i64 (ds.getD i default).E)
  row : ∀ i, i < ds.length → RowIn .u32 W (X + 1) hi (ds.getD i default).a (ds.getD i default).zs
  ne : ∀ i j, i < j → j < ds.length → ∀ b o b' o', (ds.getD i default).a = some ⟨b, o, none⟩ → (ds.getD j default).a = some ⟨b', o', none⟩ → (ds.getD i default).zs ≠ [] → (ds.getD j default).zs ≠ [] → b ≠ b'

theorem ToL.whole {W : World} {X n : Nat} {ds : List DV} (h : ToL W X n ds) (hn : ds.length = n) {lo : Nat} (hlo : lo ≤ X) : ListN W lo W.heap.size X ds :=
  ⟨hlo, h.lt, Nat.le_refl _, fun j hj => h.fr j (by omega), h.c0, h.c1, h.c2, fun i hi => (h.row i hi).rowIn, h.ne⟩

theorem ListN.later {W W' : World} {lo hi X : Nat} {ds : List DV} (h : ListN W lo hi X ds) (hb : Below W.heap.size W W') : ListN W' lo hi X ds := by
  have hl : X < W.heap.size := Nat.lt_of_lt_of_le h.xhi h.hsz
  have cc : ∀ j, W'.cell? ⟨X, j, none⟩ = W.cell? ⟨X, j, none⟩ := fun j => hb.cell (p := ⟨X, j, none⟩) hl
  exact ⟨h.xlo, h.xhi, Nat.le_trans h.hsz hb.size, fun j hj => (hb.frozen (p := ⟨X, j, none⟩) hl).trans (h.fr j hj), fun i hi => (cc _).trans (h.c0 i hi), fun i hi => (cc _).trans (h.c1 i hi), fun i hi => (cc _).trans (h.c2 i hi), fun i hi => (h.row i hi).later hb, h.ne⟩

theorem ListN.rowD {W : World} {lo hi X : Nat} {ds : List DV} (h : ListN W lo hi X ds) : RowD W X 0 ds :=
  ⟨Nat.lt_of_lt_of_le h.xhi h.hsz, fun i hi => by rw [Nat.zero_add]; exact h.c0 i hi, fun i hi => by rw [Nat.zero_add]; exact h.c1 i hi, fun i hi => by rw [Nat.zero_add]; exact h.c2 i hi, fun i hi => (h.row i hi).row⟩

/-- How many digits the list has. -/
def tot (ds : List DV) : Nat := (ds.map fun d => d.zs.length).sum

theorem tot_take {ds : List DV} {i : Nat} (hi : i < ds.length) : tot (ds.take (i + 1)) = tot (ds.take i) + (ds.getD i default).zs.length := by
  unfold tot
  rw [List.take_succ_eq_append_getElem hi, List.map_append, List.sum_append]
  simp [List.getD_eq_getElem?_getD, hi]

theorem tot_take_le (ds : List DV) (i : Nat) : tot (ds.take i) ≤ tot ds := by
  unfold tot
  have h : ds.map (fun d => d.zs.length) = (ds.take i).map (fun d => d.zs.length) ++ (ds.drop i).map (fun d => d.zs.length) := by rw [← List.map_append, List.take_append_drop]
  rw [h, List.sum_append]
  omega

theorem tot_mem {ds : List DV} {d : DV} (hd : d ∈ ds) : d.zs.length ≤ tot ds := by
  induction ds with
  | nil => cases hd
  | cons x xs ih =>
    unfold tot at ih ⊢
    rw [List.map_cons, List.sum_cons]
    rcases List.mem_cons.1 hd with rfl | h
    · omega
    · have := ih h
      omega

theorem SameD.tot {ds ds' : List DV} (h : SameD ds ds') : Go.Proofs.YtladfpljnaippabDoor.tot ds' = Go.Proofs.YtladfpljnaippabDoor.tot ds := by
  have h1 : ∀ l : List DV, Go.Proofs.YtladfpljnaippabDoor.tot l = ((l.map strip).map fun p => p.2.1.length).sum := by
    intro l
    unfold Go.Proofs.YtladfpljnaippabDoor.tot
    rw [List.map_map]
    rfl
  rw [h1, h1, h]

end Go.Proofs.YtladfpljnaippabDoor

/-
  The reader of a code's bytes: what it holds, and what it leaves alone.
-/
namespace Go.Proofs.YtladfpljnaippabDoor
open Go.RowKit

/-- Of the memory of w nothing but block P has turned. -/
structure Aside (P : Nat) (w w' : World) : Prop where
  os : w'.os = w.os
  tape : w'.tape = w.tape
  output : w'.output = w.output
  size : w.heap.size ≤ w'.heap.size
  block : ∀ k, k < w.heap.size → k ≠ P → w'.heap[k]? = w.heap[k]?

theorem Aside.refl (P : Nat) (w : World) : Aside P w w := ⟨rfl, rfl, rfl, Nat.le_refl _, fun _ _ _ => rfl⟩

theorem Aside.trans {P : Nat} {a b c : World} (h : Aside P a b) (k : Aside P b c) : Aside P a c :=
  ⟨k.os.trans h.os, k.tape.trans h.tape, k.output.trans h.output, Nat.le_trans h.size k.size, fun i hi hp => (k.block i (Nat.lt_of_lt_of_le hi h.size) hp).trans (h.block i hi hp)⟩

theorem Aside.of {P : Nat} {w w' : World} (h : Below w.heap.size w w') : Aside P w w' := ⟨h.os, h.tape, h.output, h.size, fun k hk _ => h.block k hk⟩

theorem Aside.set {P : Nat} {w w' : World} (h : Aside P w w') (j : Nat) (v : Value) : Aside P w (w'.setCell ⟨P, j, none⟩ v) := by
  have hb : Within P (P + 1) w' (w'.setCell ⟨P, j, none⟩ v) := (Within.refl P (P + 1) w').setCell (p := ⟨P, j, none⟩) (Nat.le_refl _) (Nat.lt_succ_self _) v
  exact ⟨hb.os.trans h.os, hb.tape.trans h.tape, hb.output.trans h.output, by rw [hb.size]; exact h.size, fun k hk hp => (hb.block k (by omega)).trans (h.block k hk hp)⟩

/-- A store above all of w. -/
theorem Aside.setHigh {P : Nat} {w w' : World} (h : Aside P w w') {p : Addr} (hp : w.heap.size ≤ p.block) (v : Value) : Aside P w (w'.setCell p v) := by
  have hb : Within p.block (p.block + 1) w' (w'.setCell p v) := (Within.refl _ _ _).setCell (Nat.le_refl _) (Nat.lt_succ_self _) v
  exact ⟨hb.os.trans h.os, hb.tape.trans h.tape, hb.output.trans h.output, by rw [hb.size]; exact h.size, fun k hk hp' => (hb.block k (by omega)).trans (h.block k hk hp')⟩

/-- What turns only above all of w. -/
theorem Aside.high {P B : Nat} {w w' w'' : World} (h : Aside P w w') (hb : Below B w' w'') (hB : w.heap.size ≤ B) : Aside P w w'' :=
  ⟨hb.os.trans h.os, hb.tape.trans h.tape, hb.output.trans h.output, Nat.le_trans h.size hb.size, fun k hk hp => (hb.block k (by omega)).trans (h.block k hk hp)⟩

theorem Aside.below {P B : Nat} {w w' : World} (h : Aside P w w') (hB : B ≤ P) (hS : B ≤ w.heap.size) : Below B w w' :=
  ⟨h.os, h.tape, h.output, h.size, fun k hk => h.block k (by omega) (by omega)⟩

theorem Aside.cell {P : Nat} {w w' : World} (h : Aside P w w') {p : Addr} (hp : p.block < w.heap.size) (hq : p.block ≠ P) : w'.cell? p = w.cell? p := World.cell?_of_block (w := w) (h.block p.block hp hq)
theorem Aside.frozen {P : Nat} {w w' : World} (h : Aside P w w') {p : Addr} (hp : p.block < w.heap.size) (hq : p.block ≠ P) : w'.frozen? p = w.frozen? p := World.frozen?_of_block (w := w) (h.block p.block hp hq)

theorem Aside.row {P : Nat} {k : IntKind} {w w' : World} {a : Option Addr} {zs : List Int} (h : Aside P w w') (hr : RowAt k w a zs) (hp : ∀ b off, a = some ⟨b, off, none⟩ → zs ≠ [] → b ≠ P) : RowAt k w' a zs := by
  by_cases e : zs = []
  · exact .inl e
  · rcases hr with hr | ⟨b, off, h1, h2, h3⟩
    · exact .inl hr
    · exact .inr ⟨b, off, h1, Nat.lt_of_lt_of_le h2 h.size, fun j hj => (h.cell (p := ⟨b, off + j, none⟩) h2 (hp b off h1 e)).trans (h3 j hj)⟩

theorem Aside.own {P : Nat} {w w' : World} {base : Nat} {e : TypeId} {v : Value} {n : Nat} {xs : List Value} (h : Aside P w w') (ho : w.ownsRow base e 1 v n xs) (hp : P < base) : w'.ownsRow base e 1 v n xs := by
  refine ⟨ho.1, ?_⟩
  rcases ho.2 with h1 | ⟨g, cap, cur, h1, h2, h3, h4⟩
  · exact .inl h1
  · refine .inr ⟨g, cap, cur, h1, h2, ?_, h4⟩
    have hg : g < w.heap.size := by
      by_cases hp : g < w.heap.size
      · exact hp
      · rw [Array.getElem?_eq_none (by omega)] at h3; cases h3
    rw [h.block g hg (by omega)]
    exact h3

/-- The reader in block P: its bytes, which lie elsewhere, and its place. -/
structure Rd (P : Nat) (W : World) : Prop where
  ex : ∃ (a : Option Addr) (c : Nat) (bs : List Int) (i : Nat), W.cell? ⟨P, 0, none⟩ = some (.slice a bs.length c) ∧ W.cell? ⟨P, 1, none⟩ = some (.int .i64 i) ∧ i ≤ bs.length ∧ bs.length ≤ 500 ∧ RowAt .u8 W a bs ∧ (∀ b off, a = some ⟨b, off, none⟩ → bs ≠ [] → b < P) ∧ Dig 256 bs
  free : ∀ j, W.frozen? ⟨P, j, none⟩ = false
  lt : P < W.heap.size

theorem Rd.later {P : Nat} {W W' : World} (h : Rd P W) (hb : Below W.heap.size W W') : Rd P W' := by
  obtain ⟨⟨a, c, bs, i, h1, h2, h3, h4, h5, h6, h7⟩, hf, hl⟩ := h
  exact ⟨⟨a, c, bs, i, (hb.cell (p := ⟨P, 0, none⟩) hl).trans h1, (hb.cell (p := ⟨P, 1, none⟩) hl).trans h2, h3, h4, h5.later hb, h6, h7⟩, fun j => (hb.frozen (p := ⟨P, j, none⟩) hl).trans (hf j), Nat.lt_of_lt_of_le hl hb.size⟩

/-- What turns only above the reader. -/
theorem Rd.above {P B : Nat} {W W' : World} (h : Rd P W) (hb : Below B W W') (hB : P < B) : Rd P W' := by
  obtain ⟨⟨a, c, bs, i, h1, h2, h3, h4, h5, h6, h7⟩, hf, hl⟩ := h
  refine ⟨⟨a, c, bs, i, (hb.cell (p := ⟨P, 0, none⟩) hB).trans h1, (hb.cell (p := ⟨P, 1, none⟩) hB).trans h2, h3, h4, ?_, h6, h7⟩, fun j => (hb.frozen (p := ⟨P, j, none⟩) hB).trans (hf j), Nat.lt_of_lt_of_le hl hb.size⟩
  by_cases e : bs = []
  · exact .inl e
  · rcases h5 with h5 | ⟨b, off, g1, g2, g3⟩
    · exact .inl h5
    · have := h6 b off g1 e
      exact .inr ⟨b, off, g1, Nat.lt_of_lt_of_le g2 hb.size, fun j hj => (hb.cell (p := ⟨b, off + j, none⟩) (by simp; omega)).trans (g3 j hj)⟩

/-- What next hands back. -/
def NextOut (P : Nat) (w : World) (e : Ending) (w' : World) : Prop := ∃ v : Int, e = .returned (.int .i64 v) ∧ 0 ≤ v ∧ v ≤ 255 ∧ Rd P w' ∧ Aside P w w'

set_option maxHeartbeats 1000000 in
theorem next_any (P : Nat) (w : World) (h : Rd P w) :
    Calls Tryd.prog 29 #[.pointer (some ⟨P, 0, none⟩)] w fun e w' => NextOut P w e w' := by
  have HH : Hid (Rd P w) := h
  obtain ⟨⟨a, c, bs, i, h1, h2, h3, h4, h5, h6, h7⟩, hf, hl⟩ := h
  by_cases hi : i < bs.length
  · obtain ⟨b, off, rfl, g1⟩ := row_cell h5 (Below.refl _ _) hi
    have hb := h7.at (by decide) i
    obtain ⟨y, hy⟩ : ∃ y, y = bs.getD i 0 := ⟨_, rfl⟩
    rw [← hy] at hb g1
    obtain ⟨hb0, hb1⟩ := hb
    have hge : ¬ ((i : Int) ≥ bs.length) := by omega
    have hlt : (i : Int) < bs.length := by omega
    have HO : Hid (∀ W, Below w.heap.size w W → NextOut P w (.returned (.int .i64 y)) (W.setCell ⟨P, 1, none⟩ (.int .i64 ((i : Int) + 1)))) := by
      intro W hW
      have c1 : W.cell? ⟨P, 0, none⟩ = some (.slice (some ⟨b, off, none⟩) bs.length c) := (hW.cell (p := ⟨P, 0, none⟩) hl).trans h1
      have c2 : W.cell? ⟨P, 1, none⟩ = some (.int .i64 i) := (hW.cell (p := ⟨P, 1, none⟩) hl).trans h2
      refine ⟨y, rfl, hb0, by omega, ⟨⟨some ⟨b, off, none⟩, c, bs, i + 1, ?_, ?_, by omega, h4, ?_, h6, h7⟩, fun j => by rw [World.frozen?_setCell]; exact (hW.frozen (p := ⟨P, j, none⟩) hl).trans (hf j), by have := hW.size; simp; omega⟩, (Aside.of hW).set 1 _⟩
      · rw [World.cell?_setCell_other _ _ _ _ (by simp)]; exact c1
      · rw [World.cell?_setCell_same _ _ _ c2]; simp
      · have hbP := h6 b off rfl (by intro e; rw [e] at hi; simp at hi)
        exact ((Aside.of (P := P) hW).set 1 _).row h5 (fun b' off' e _ => by have := congrArg Addr.block (Option.some.inj e); simp at this; omega)
    clear h5 h6 h7 hy HH
    go_enter Tryd.func29, Tryd.ntmps29
    go_wp2
    go_quiet (fail)
    go_wp2
    go_quiet (fail)
    go_wp2
    go_ret
    exact HO.out _ (by first | exact below_drewN (below_drewN (Below.refl _ _) _) _ | exact below_drewN (Below.refl _ _) _)
  · have hge : (bs.length : Int) ≤ i := by omega
    have HO : Hid (∀ W, Below w.heap.size w W → NextOut P w (.returned (.int .i64 0)) W) := fun W hW => ⟨0, rfl, by decide, by decide, HH.out.later hW, Aside.of hW⟩
    clear h5 h6 h7 HH
    go_enter Tryd.func29, Tryd.ntmps29
    go_wp2
    go_quiet (fail)
    go_wp2
    go_ret
    exact HO.out _ (below_drewN (Below.refl _ _) _)

/-- What l1open hands back: a reader in a new block. -/
def OpenOut (w : World) (e : Ending) (w' : World) : Prop := e = .returned (.pointer (some ⟨w.heap.size, 0, none⟩)) ∧ Rd w.heap.size w' ∧ Below w.heap.size w w' ∧ w'.heap.size = w.heap.size + 1

theorem open_rd (w : World) (a : Option Addr) (n c : Nat) (bs : List Int) (t : TypeId) (hn : n = bs.length) (h5 : bs.length ≤ 500) (hb : Dig 256 bs) (hr : RowAt .u8 w a bs) : OpenOut w (.returned (.pointer (some ⟨w.heap.size, 0, none⟩))) (w.alloc (.cells #[.slice a n c, .int .i64 0] t)) := by
  subst hn
  refine ⟨rfl, ⟨⟨a, c, bs, 0, by simp [go_sem], by simp [go_sem], by omega, h5, hr.later (bel0 _ _), ?_, hb⟩, fun j => by simp [go_sem], by simp⟩, bel0 _ _, by simp⟩
  intro b off e hne
  rcases hr with hr | ⟨b', off', g1, g2, _⟩
  · exact absurd hr hne
  · rw [e] at g1
    have := congrArg Addr.block (Option.some.inj g1)
    simp at this
    omega

set_option maxHeartbeats 1000000 in
theorem open_any (a : Option Addr) (c : Nat) (bs : List Int) (w : World) (hn : bs.length ≤ 1048576) (hc : bs.length ≤ c) (hcm : c ≤ maxLen) (hnil : a = none → c = 0) (hr : RowAt .u8 w a bs) (hb : Dig 256 bs) :
    Calls Tryd.prog 28 #[.slice a bs.length c] w fun e w' => OpenOut w e w' := by
  unfold maxLen at hcm
  by_cases h5 : 500 < bs.length
  · have HO : Hid (∀ t, OpenOut w (.returned (.pointer (some ⟨w.heap.size, 0, none⟩))) (w.alloc (.cells #[.slice a 500 c, .int .i64 0] t))) := fun t =>
      open_rd w a 500 c (bs.take 500) t (by rw [List.length_take]; omega) (by rw [List.length_take]; omega) (hb.take 500) (hr.take 500)
    cases a with
    | none => have := hnil rfl; omega
    | some x =>
      clear hr hb
      go_enter Tryd.func28, Tryd.ntmps28
      go_wp2
      go_ret
      exact HO.out _
  · have HO : Hid (∀ t, OpenOut w (.returned (.pointer (some ⟨w.heap.size, 0, none⟩))) (w.alloc (.cells #[.slice a bs.length c, .int .i64 0] t))) := fun t =>
      open_rd w a bs.length c bs t rfl (by omega) hb hr
    cases a with
    | none =>
      have h0 := hnil rfl
      subst h0
      have hl : bs.length = 0 := by omega
      rw [hl] at HO ⊢
      clear hr hb
      go_enter Tryd.func28, Tryd.ntmps28
      go_wp2
      go_ret
      exact HO.out _
    | some x =>
      clear hr hb
      go_enter Tryd.func28, Tryd.ntmps28
      go_wp2
      go_ret
      exact HO.out _

end Go.Proofs.YtladfpljnaippabDoor

/-
  A drawn Big while it grows.
-/
namespace Go.Proofs.YtladfpljnaippabDoor
open Go.RowKit

/-- The answer's box (block R, still zero), the number's own box (block O: sign G, limbs v), the limbs in memory from B on; the reader in block P; of w nothing else has turned. -/
structure DS (w : World) (P R O B : Nat) (e : TypeId) (G : Bool) (v : Value) (ys : List Int) (W : World) : Prop where
  r1 : W.cell? ⟨R, 0, none⟩ = some (.bool false)
  r2 : W.cell? ⟨R, 1, none⟩ = some (.slice none 0 0)
  r3 : ∀ j, W.frozen? ⟨R, j, none⟩ = false
  o0 : W.cell? ⟨O, 0, none⟩ = some (.bool G)
  o1 : W.cell? ⟨O, 1, none⟩ = some v
  o2 : ∀ j, W.frozen? ⟨O, j, none⟩ = false
  own : W.ownsRow B e 1 v ys.length (vals .u32 ys)
  u : U32 ys
  rd : Rd P W
  asd : Aside P w W
  ordR : w.heap.size ≤ R
  ordP : P < w.heap.size
  ordO : R < O
  ordB : O < B
  ordW : B ≤ W.heap.size

section
variable {w : World} {P R O B : Nat} {e : TypeId} {G : Bool} {v : Value} {ys : List Int} {W W' : World}

theorem DS.aside (h : DS w P R O B e G v ys W) (ha : Aside P W W') (hr : Rd P W') : DS w P R O B e G v ys W' := by
  have o1 := h.ordR; have o2 := h.ordP; have o3 := h.ordO; have o4 := h.ordB; have o5 := h.ordW
  exact ⟨(ha.cell (by simp; omega) (by simp; omega)).trans h.r1, (ha.cell (by simp; omega) (by simp; omega)).trans h.r2, fun j => (ha.frozen (by simp; omega) (by simp; omega)).trans (h.r3 j), (ha.cell (by simp; omega) (by simp; omega)).trans h.o0, (ha.cell (by simp; omega) (by simp; omega)).trans h.o1, fun j => (ha.frozen (by simp; omega) (by simp; omega)).trans (h.o2 j),
    ha.own h.own (by omega), h.u, hr, h.asd.trans ha, h.ordR, h.ordP, h.ordO, h.ordB, Nat.le_trans h.ordW ha.size⟩

theorem DS.later (h : DS w P R O B e G v ys W) (hb : Below W.heap.size W W') : DS w P R O B e G v ys W' := h.aside (Aside.of hb) (h.rd.later hb)

/-- The limbs have grown, and lie in the box. -/
theorem DS.grow {v' : Value} {ys' : List Int} (h : DS w P R O B e G v ys W) (hb : Below B W W') (hown : W'.ownsRow B e 1 v' ys'.length (vals .u32 ys')) (hu : U32 ys') : DS w P R O B e G v' ys' (W'.setCell ⟨O, 1, none⟩ v') := by
  have o1 := h.ordR; have o2 := h.ordP; have o3 := h.ordO; have o4 := h.ordB; have o5 := h.ordW
  have c1 : W'.cell? ⟨O, 1, none⟩ = some v := (hb.cell (by simp; omega)).trans h.o1
  refine ⟨?_, ?_, ?_, ?_, ?_, ?_, ?_, hu, ?_, ?_, h.ordR, h.ordP, h.ordO, h.ordB, ?_⟩
  · rw [World.cell?_setCell_other _ _ _ _ (by first | (simp; done) | (simp; omega))]; exact (hb.cell (by simp; omega)).trans h.r1
  · rw [World.cell?_setCell_other _ _ _ _ (by first | (simp; done) | (simp; omega))]; exact (hb.cell (by simp; omega)).trans h.r2
  · intro j; rw [World.frozen?_setCell]; exact (hb.frozen (by simp; omega)).trans (h.r3 j)
  · rw [World.cell?_setCell_other _ _ _ _ (by simp)]; exact (hb.cell (by simp; omega)).trans h.o0
  · exact World.cell?_setCell_same _ _ _ c1
  · intro j; rw [World.frozen?_setCell]; exact (hb.frozen (by simp; omega)).trans (h.o2 j)
  · refine ⟨hown.1, ?_⟩
    rcases hown.2 with g1 | ⟨g, cap, cur, g1, g2, g3, g4⟩
    · exact .inl g1
    · refine .inr ⟨g, cap, cur, g1, g2, ?_, g4⟩
      have hw : Within O (O + 1) W' (W'.setCell ⟨O, 1, none⟩ v') := (Within.refl O (O + 1) W').setCell (p := ⟨O, 1, none⟩) (Nat.le_refl _) (Nat.lt_succ_self _) v'
      rw [hw.block g (by omega)]
      exact g3
  · have hw : Below (P + 1) W' (W'.setCell ⟨O, 1, none⟩ v') := (Below.refl _ _).setCell (by simp; omega) _
    exact (h.rd.above hb (by omega)).above hw (by omega)
  · exact (h.asd.high hb (by omega)).setHigh (by simp; omega) _
  · have := hb.size; simp; omega

/-- Its sign is set. -/
theorem DS.sign (h : DS w P R O B e G v ys W) (G' : Bool) : DS w P R O B e G' v ys (W.setCell ⟨O, 0, none⟩ (.bool G')) := by
  have o1 := h.ordR; have o2 := h.ordP; have o3 := h.ordO; have o4 := h.ordB; have o5 := h.ordW
  refine ⟨?_, ?_, ?_, ?_, ?_, ?_, ?_, h.u, ?_, ?_, h.ordR, h.ordP, h.ordO, h.ordB, by simpa using h.ordW⟩
  · rw [World.cell?_setCell_other _ _ _ _ (by first | (simp; done) | (simp; omega))]; exact h.r1
  · rw [World.cell?_setCell_other _ _ _ _ (by first | (simp; done) | (simp; omega))]; exact h.r2
  · intro j; rw [World.frozen?_setCell]; exact h.r3 j
  · exact World.cell?_setCell_same _ _ _ h.o0
  · rw [World.cell?_setCell_other _ _ _ _ (by simp)]; exact h.o1
  · intro j; rw [World.frozen?_setCell]; exact h.o2 j
  · refine ⟨h.own.1, ?_⟩
    rcases h.own.2 with g1 | ⟨g, cap, cur, g1, g2, g3, g4⟩
    · exact .inl g1
    · refine .inr ⟨g, cap, cur, g1, g2, ?_, g4⟩
      have hw : Within O (O + 1) W (W.setCell ⟨O, 0, none⟩ (.bool G')) := (Within.refl O (O + 1) W).setCell (p := ⟨O, 0, none⟩) (Nat.le_refl _) (Nat.lt_succ_self _) _
      rw [hw.block g (by omega)]
      exact g3
  · have hw : Below (P + 1) W (W.setCell ⟨O, 0, none⟩ (.bool G')) := (Below.refl _ _).setCell (by simp; omega) _
    exact h.rd.above hw (by omega)
  · exact h.asd.setHigh (by simp; omega) _

/-- A drawn Big: what is handed back. -/
def DrawOut (P : Nat) (e' : TypeId) (w : World) (n : Nat) (e : Ending) (w' : World) : Prop :=
  ∃ (G : Bool) (a : Option Addr) (c : Nat) (zs : List Int), e = .returned (.agg #[.bool G, .slice a zs.length c]) ∧ zs.length ≤ n ∧ U32 zs ∧ w'.ownsRow w.heap.size e' 1 (.slice a zs.length c) zs.length (vals .u32 zs) ∧ Rd P w' ∧ Aside P w w'

theorem own_set {X : World} {base : Nat} {e : TypeId} {v : Value} {n : Nat} {xs : List Value} (h : X.ownsRow base e 1 v n xs) {p : Addr} (hp : p.block < base) (u : Value) : (X.setCell p u).ownsRow base e 1 v n xs := by
  refine ⟨h.1, ?_⟩
  rcases h.2 with g1 | ⟨g, cap, cur, g1, g2, g3, g4⟩
  · exact .inl g1
  · refine .inr ⟨g, cap, cur, g1, g2, ?_, g4⟩
    have hw : Within p.block (p.block + 1) X (X.setCell p u) := (Within.refl _ _ X).setCell (p := p) (Nat.le_refl _) (Nat.lt_succ_self _) u
    rw [hw.block g (by omega)]
    exact g3

theorem own_mono {X : World} {base base' : Nat} {e : TypeId} {v : Value} {n : Nat} {xs : List Value} (h : X.ownsRow base e 1 v n xs) (hb : base' ≤ base) : X.ownsRow base' e 1 v n xs := by
  refine ⟨h.1, ?_⟩
  rcases h.2 with g1 | ⟨g, cap, cur, g1, g2, g3⟩
  · exact .inl g1
  · exact .inr ⟨g, cap, cur, g1, Nat.le_trans hb g2, g3⟩

theorem own_slice {X : World} {base : Nat} {e : TypeId} {v : Value} {n : Nat} {xs : List Value} (h : X.ownsRow base e 1 v n xs) : ∃ a c, v = .slice a n c := by
  rcases h.2 with ⟨h1, h2⟩ | ⟨g, cap, cur, h1, _⟩
  · subst h2; exact ⟨none, 0, h1⟩
  · exact ⟨some ⟨g, 0, none⟩, cap, h1⟩

/-- Shorter by its last limb. -/
theorem own_short {X : World} {base : Nat} {e : TypeId} {a : Option Addr} {c : Nat} {ys : List Int} {m : Nat} (h : X.ownsRow base e 1 (.slice a ys.length c) ys.length (vals .u32 ys)) (hm : ys.length = m + 1) : X.ownsRow base e 1 (.slice a m c) (ys.take m).length (vals .u32 (ys.take m)) := by
  have ht : (ys.take m).length = m := by rw [List.length_take]; omega
  refine ⟨by rw [vals_length, Nat.mul_one], ?_⟩
  rw [ht]
  rcases h.2 with ⟨h1, h2⟩ | ⟨g, cap, cur, h1, h2, h3, h4, h5, h6, h7⟩
  · omega
  · injection h1 with e1 e2 e3
    subst e1 e3
    refine .inr ⟨g, c, cur, rfl, h2, h3, by omega, h5, h6, ?_⟩
    have := congrArg (List.take m) h7
    rw [List.take_take, show min m (ys.length * 1) = m by omega] at this
    rw [Nat.mul_one, this]
    simp [vals, List.map_take]

theorem U32.snoc {ys : List Int} {y : Int} (h : U32 ys) (h0 : 0 ≤ y) (h1 : y < 4294967296) : U32 (ys ++ [y]) := by
  intro z hz
  rcases List.mem_append.1 hz with hz | hz
  · exact h z hz
  · have : z = y := by simpa using hz
    subst this
    exact ⟨h0, h1⟩

theorem U32.take {ys : List Int} (h : U32 ys) (m : Nat) : U32 (ys.take m) := fun z hz => h z (List.mem_of_mem_take hz)

/-- The end: the number's box is read into the answer's. -/
theorem DS.out {a : Option Addr} {c n : Nat} (h : DS w P R O B e G (.slice a ys.length c) ys W) (hn : ys.length ≤ n) : DrawOut P e w n (.returned (.agg #[.bool G, .slice a ys.length c])) ((W.setCell ⟨R, 0, none⟩ (.bool G)).setCell ⟨R, 1, none⟩ (.slice a ys.length c)) := by
  have o1 := h.ordR; have o2 := h.ordP; have o3 := h.ordO; have o4 := h.ordB; have o5 := h.ordW
  refine ⟨G, a, c, ys, rfl, hn, h.u, own_mono (own_set (own_set h.own (by simp; omega) _) (by simp; omega) _) (by omega), ?_, (h.asd.setHigh (by simp; omega) _).setHigh (by simp; omega) _⟩
  have hw : Below (P + 1) W ((W.setCell ⟨R, 0, none⟩ (.bool G)).setCell ⟨R, 1, none⟩ (.slice a ys.length c)) := ((Below.refl _ _).setCell (by simp; omega) _).setCell (by simp; omega) _
  exact h.rd.above hw (by omega)

end

end Go.Proofs.YtladfpljnaippabDoor
