/-
  The model's whole numbers: trimming, making.
-/
import Derived.Test.YtladfpljnaippabDoorUtil
import Derived.Test.YtladfpljnaippabDoorNum
namespace Go.Proofs.YtladfpljnaippabDoor
open Go.RowKit

/-- A slice value reads as the numbers zs. -/
structure Sl (k : IntKind) (w : World) (a : Option Addr) (c : Nat) (zs : List Int) : Prop where
  fits : zs.length ≤ c
  nil : a = none → c = 0
  row : RowAt k w a zs

theorem Sl.later {k : IntKind} {w w' : World} {a : Option Addr} {c : Nat} {zs : List Int} (h : Sl k w a c zs) (hb : Below w.heap.size w w') : Sl k w' a c zs := ⟨h.fits, h.nil, h.row.later hb⟩

theorem RowAt.take {k : IntKind} {w : World} {a : Option Addr} {zs : List Int} (h : RowAt k w a zs) (m : Nat) : RowAt k w a (zs.take m) := by
  rcases h with h | ⟨b, off, h1, h2, h3⟩
  · exact .inl (by rw [h]; simp)
  · refine .inr ⟨b, off, h1, h2, fun j hj => ?_⟩
    rw [List.length_take] at hj
    rw [h3 j (by omega)]
    simp [List.getD_eq_getElem?_getD, show j < m from by omega]

theorem Sl.take {k : IntKind} {w : World} {a : Option Addr} {c : Nat} {zs : List Int} (h : Sl k w a c zs) (m : Nat) : Sl k w a c (zs.take m) :=
  ⟨by have := h.fits; rw [List.length_take]; omega, h.nil, h.row.take m⟩

set_option maxHeartbeats 400000 in
theorem trim_any (a : Option Addr) (c : Nat) (ds : List Int) (w : World) (hn : ds.length ≤ 1048576) (hm : c ≤ maxLen) (hd : Sl .i64 w a c ds) :
    Calls Tryd.prog 95 #[.slice a ds.length c] w fun e w' => e = .returned (.slice a (trimL ds).length c) ∧ trimL ds = ds.take (trimL ds).length ∧ w' = w := by
  have hf := hd.fits
  unfold maxLen at hm
  suffices h : Calls Tryd.prog 95 #[.slice a ds.length c] w fun e w' => ∃ m, m ≤ ds.length ∧ e = .returned (.slice a m c) ∧ trimL ds = ds.take m ∧ w' = w by
    refine h.mono ?_
    rintro e w' ⟨m, hm, rfl, ht, rfl⟩
    have hl : (trimL ds).length = m := by rw [ht, List.length_take]; omega
    rw [hl]
    exact ⟨rfl, ht, rfl⟩
  cases a with
  | none =>
    have hc := hd.nil rfl
    subst hc
    have : ds = [] := List.length_eq_zero_iff.1 (by omega)
    subst this
    go_enter Tryd.func95, Tryd.ntmps95
    go_wp2
    go_loop [3] (fun i => i = .int .i64 0) (fun _ => 0)
    case atStart => rfl
    case round =>
      subst hrel
      go_wp2
      go_ret
      exact ⟨rfl, rfl, rfl⟩
  | some x =>
    go_enter Tryd.func95, Tryd.ntmps95
    go_wp2
    go_loop [3] (fun i => ∃ m : Nat, m ≤ ds.length ∧ i = .int .i64 m ∧ Hid (trimL ds = trimL (ds.take m))) (fun i => (intOf i).toNat)
    case atStart => exact ⟨ds.length, by omega, rfl, by unfold Hid; simp⟩
    case round =>
      obtain ⟨m, hk, rfl, ht⟩ := hrel
      by_cases h0 : m = 0
      · subst h0
        go_wp2
        go_ret
        exact ⟨0, by omega, rfl, by rw [ht.out]; simp [trimL], rfl⟩
      · obtain ⟨b, off, hx, hb, hc⟩ := hd.row.resolve_left (by intro h; subst h; simp at hk; omega)
        obtain ⟨m, rfl⟩ : ∃ m', m = m' + 1 := ⟨m - 1, by omega⟩
        injection hx with hx
        subst hx
        have g := hc m (by omega)
        clear hc
        go_wp2
        · have hz : ds.getD m 0 = 0 := by simpa using ‹(ds[m]?.getD 0 == 0) = true›
          go_round
          case rel => exact ⟨m, by omega, by go_num, by unfold Hid; rw [ht.out, trim_take_step hk hz]⟩
          case measure => simp [intOf]
        · have hz : ds.getD m 0 ≠ 0 := by simpa using ‹(ds[m]?.getD 0 == 0) = false›
          go_ret
          exact ⟨m + 1, hk, rfl, by rw [ht.out, trim_take_stop hk hz], rfl⟩

/-- A store below the memory of another reading of the same slice. -/
theorem RowAt.setLow {k k' : IntKind} {w w' : World} {B : Nat} {a : Option Addr} {zs ys : List Int} (h : RowAt k w a zs) (hf : RowNew k' w' B a ys) (hl : zs.length ≤ ys.length) {p : Addr} (hp : p.block < B) (v : Value) : RowAt k (w.setCell p v) a zs := by
  rcases h with h | ⟨b, off, h1, h2, h3⟩
  · exact .inl h
  · rcases hf with hf | ⟨b', off', h1', h2', _⟩
    · subst hf
      exact .inl (List.length_eq_zero_iff.1 (by simpa using hl))
    · rw [h1] at h1'
      injection h1' with h1'
      have hbb : b = b' := congrArg Addr.block h1'
      refine .inr ⟨b, off, h1, by simpa using h2, fun j hj => ?_⟩
      rw [World.cell?_setCell_other _ _ _ _ (by intro hh; have := congrArg Addr.block hh; simp at this; omega)]
      exact h3 j hj

/-- A store into memory that is newer than another reading of the same slice. -/
theorem RowAt.setNew {k k' : IntKind} {w w' : World} {a : Option Addr} {zs ys : List Int} (h : RowAt k w a zs) (hf : RowAt k' w' a ys) (hl : zs.length ≤ ys.length) {p : Addr} (hp : w'.heap.size ≤ p.block) (v : Value) : RowAt k (w.setCell p v) a zs := by
  rcases h with h | ⟨b, off, h1, h2, h3⟩
  · exact .inl h
  · rcases hf with hf | ⟨b', off', h1', h2', _⟩
    · subst hf
      exact .inl (List.length_eq_zero_iff.1 (by simpa using hl))
    · rw [h1] at h1'
      injection h1' with h1'
      have hbb : b = b' := congrArg Addr.block h1'
      refine .inr ⟨b, off, h1, by simpa using h2, fun j hj => ?_⟩
      rw [World.cell?_setCell_other _ _ _ _ (by intro hh; have := congrArg Addr.block hh; simp at this; omega)]
      exact h3 j hj

/-- A sign and a size. -/
def sg (g : Bool) (n : Int) : Int := if g then -n else n

/-- The parts of a value of the model's type l1int write the number x. -/
structure L1 (w : World) (g : Bool) (a : Option Addr) (c : Nat) (ds : List Int) (x : Int) : Prop where
  sl : Sl .i64 w a c ds
  can : Canon 65536 ds
  num : x = sg g (val 65536 ds)
  zero : g = true → ds ≠ []
  cap : c ≤ maxLen

theorem L1.later {w w' : World} {g : Bool} {a : Option Addr} {c : Nat} {ds : List Int} {x : Int} (h : L1 w g a c ds x) (hb : Below w.heap.size w w') : L1 w' g a c ds x :=
  ⟨h.sl.later hb, h.can, h.num, h.zero, h.cap⟩

theorem L1.setLow {k' : IntKind} {w w' : World} {B : Nat} {g : Bool} {a : Option Addr} {c : Nat} {ds ys : List Int} {x : Int} (h : L1 w g a c ds x) (hf : RowNew k' w' B a ys) (hl : ds.length ≤ ys.length) {p : Addr} (hp : p.block < B) (v : Value) : L1 (w.setCell p v) g a c ds x :=
  ⟨⟨h.sl.fits, h.sl.nil, h.sl.row.setLow hf hl hp v⟩, h.can, h.num, h.zero, h.cap⟩

theorem L1.setNew {k' : IntKind} {w w' : World} {g : Bool} {a : Option Addr} {c : Nat} {ds ys : List Int} {x : Int} (h : L1 w g a c ds x) (hf : RowAt k' w' a ys) (hl : ds.length ≤ ys.length) {p : Addr} (hp : w'.heap.size ≤ p.block) (v : Value) : L1 (w.setCell p v) g a c ds x :=
  ⟨⟨h.sl.fits, h.sl.nil, h.sl.row.setNew hf hl hp v⟩, h.can, h.num, h.zero, h.cap⟩

theorem L1.of_trim {w : World} {a : Option Addr} {c : Nat} {ds : List Int} (g : Bool) (h : Sl .i64 w a c (trimL ds)) (hd : Dig 65536 ds) (hc : c ≤ maxLen) : L1 w (g && decide (0 < (trimL ds).length)) a c (trimL ds) (sg g (val 65536 ds)) := by
  refine ⟨h, canon_trim hd, ?_, ?_, hc⟩
  · rw [val_trim]
    by_cases e : trimL ds = []
    · have : val 65536 ds = 0 := by rw [← val_trim, e]; rfl
      rw [this]
      simp [sg]
    · have : 0 < (trimL ds).length := by
        rcases Nat.eq_zero_or_pos (trimL ds).length with h | h
        · exact absurd (List.length_eq_zero_iff.1 h) e
        · exact h
      simp [this]
  · intro hg e
    rw [e] at hg
    simp at hg

set_option maxHeartbeats 400000 in
theorem make_any (g : Bool) (a : Option Addr) (c : Nat) (ds : List Int) (w : World) (hn : ds.length ≤ 1048576) (hm : c ≤ maxLen) (hd : Sl .i64 w a c ds) (hdig : Dig 65536 ds) :
    Calls Tryd.prog 60 #[.bool g, .slice a ds.length c] w fun e w' => ∃ g' ds', e = .returned (.agg #[.bool g', .slice a ds'.length c]) ∧ ds'.length ≤ ds.length ∧ L1 w' g' a c ds' (sg g (val 65536 ds)) ∧ Below w.heap.size w w' := by
  have hle : (trimL ds).length ≤ ds.length := trim_le ds
  cases g with
  | false =>
    go_enter Tryd.func60, Tryd.ntmps60
    go_wp2_with fail
    refine (trim_any a c ds _ hn hm (hd.later (bel0 _ _))).mono ?_
    rintro e w1 ⟨rfl, ht, hw⟩
    subst hw
    have HT : Hid (trimL ds = ds.take (trimL ds).length) := ht
    clear ht
    go_wp2
    refine bodyPost_ret (v := .agg #[.bool false, .slice a (trimL ds).length c]) (by simp [results, Tryd.results60, go_sem]) rfl ⟨false, trimL ds, rfl, hle, ?_, bel0 _ _⟩
    exact L1.later (by simpa using L1.of_trim false (by rw [HT.out]; exact hd.take _) hdig hm) (bel0 _ _)
  | true =>
    by_cases h0 : 0 < (trimL ds).length
    · go_enter Tryd.func60, Tryd.ntmps60
      go_wp2_with fail
      refine (trim_any a c ds _ hn hm (hd.later (bel0 _ _))).mono ?_
      rintro e w1 ⟨rfl, ht, hw⟩
      subst hw
      have HT : Hid (trimL ds = ds.take (trimL ds).length) := ht
      clear ht
      go_wp2
      refine bodyPost_ret (v := .agg #[.bool true, .slice a (trimL ds).length c]) (by simp [results, Tryd.results60, go_sem]) rfl ⟨true, trimL ds, rfl, hle, ?_, bel0 _ _⟩
      exact L1.later (by simpa [h0] using L1.of_trim true (by rw [HT.out]; exact hd.take _) hdig hm) (bel0 _ _)
    · go_enter Tryd.func60, Tryd.ntmps60
      go_wp2_with fail
      refine (trim_any a c ds _ hn hm (hd.later (bel0 _ _))).mono ?_
      rintro e w1 ⟨rfl, ht, hw⟩
      subst hw
      have HT : Hid (trimL ds = ds.take (trimL ds).length) := ht
      clear ht
      go_wp2
      refine bodyPost_ret (v := .agg #[.bool false, .slice a (trimL ds).length c]) (by simp [results, Tryd.results60, go_sem]) rfl ⟨false, trimL ds, rfl, hle, ?_, bel0 _ _⟩
      exact L1.later (by simpa [h0] using L1.of_trim true (by rw [HT.out]; exact hd.take _) hdig hm) (bel0 _ _)

/-- The slice lies in memory from block B on. -/
def Far (B : Nat) (a : Option Addr) (zs : List Int) : Prop := zs = [] ∨ ∃ b off, a = some ⟨b, off, none⟩ ∧ B ≤ b

theorem RowNew.far {k : IntKind} {w : World} {B B' : Nat} {a : Option Addr} {ys zs : List Int} (h : RowNew k w B a ys) (hl : zs.length ≤ ys.length) (hB : B' ≤ B) : Far B' a zs := by
  rcases h with h | ⟨b, off, h1, h2, _⟩
  · subst h
    exact .inl (List.length_eq_zero_iff.1 (by simpa using hl))
  · exact .inr ⟨b, off, h1, Nat.le_trans hB h2⟩

theorem L1.setFar {w : World} {B : Nat} {g : Bool} {a : Option Addr} {c : Nat} {ds : List Int} {x : Int} (h : L1 w g a c ds x) (hf : Far B a ds) {p : Addr} (hp : p.block < B) (v : Value) : L1 (w.setCell p v) g a c ds x := by
  refine ⟨⟨h.sl.fits, h.sl.nil, ?_⟩, h.can, h.num, h.zero, h.cap⟩
  rcases h.sl.row with h | ⟨b, off, h1, h2, h3⟩
  · exact .inl h
  · rcases hf with hf | ⟨b', off', h1', h2'⟩
    · exact .inl hf
    · rw [h1] at h1'
      injection h1' with h1'
      have hbb : b = b' := congrArg Addr.block h1'
      refine .inr ⟨b, off, h1, by simpa using h2, fun j hj => ?_⟩
      rw [World.cell?_setCell_other _ _ _ _ (by intro hh; have := congrArg Addr.block hh; simp at this; omega)]
      exact h3 j hj

theorem Far.down {B B' : Nat} {a : Option Addr} {zs : List Int} (h : Far B a zs) (hB : B' ≤ B) : Far B' a zs := by
  rcases h with h | ⟨b, off, h1, h2⟩
  · exact .inl h
  · exact .inr ⟨b, off, h1, Nat.le_trans hB h2⟩

end Go.Proofs.YtladfpljnaippabDoor
