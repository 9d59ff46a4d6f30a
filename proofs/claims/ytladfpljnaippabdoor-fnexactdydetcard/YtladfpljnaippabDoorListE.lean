/-
  The laws' helpers for lists of Dyadics: size, copy, equality, marks.
-/
import Derived.Test.YtladfpljnaippabDoorDyI3WithinMarksDyMkListD
import Derived.Test.YtladfpljnaippabDoorOpenLTzOpenTDy6DyI0
namespace Go.Proofs.YtladfpljnaippabDoor
open Go.RowKit

/-- What szDyadicS answers: below 0, or the list is small. -/
def SzOut (w : World) (ds : List DV) (e : Ending) (w' : World) : Prop := ∃ r : Int, e = .returned (.int .i64 r) ∧ (r < 0 ∨ (0 ≤ r ∧ ds.length + tot ds ≤ 1048576)) ∧ Below w.heap.size w w'

set_option maxRecDepth 100000 in
set_option maxHeartbeats 2000000 in
theorem szL_any (a : Option Addr) (c : Nat) (ds : List DV) (w : World) (hn : ds.length ≤ maxLen) (hm : ∀ d, d ∈ ds → d.zs.length ≤ maxLen) (hd : ListD w a ds) :
    Calls Tryd.prog 21 #[.slice a ds.length c, .int .i64 1048576] w fun e w' => SzOut w ds e w' := by
  by_cases h : (1048576 : Int) < ds.length
  · have hn' := hn
    unfold maxLen at hn'
    have hneg : (1048576 : Int) - ds.length < 0 := by omega
    go_enter Tryd.func21, Tryd.ntmps21
    go_wp2
    go_ret
    exact ⟨-1, rfl, .inl (by decide), Below.refl _ _⟩
  · have hneg : ¬ (1048576 : Int) - ds.length < 0 := by omega
    have hdl : ds.length ≤ 1048576 := by omega
    have HDL : Hid (ListD w a ds) := hd
    have HM : Hid (∀ d, d ∈ ds → d.zs.length ≤ maxLen) := hm
    clear hd hm hn
    go_enter Tryd.func21, Tryd.ntmps21
    go_wp2
    go_loopw [1, 5] (fun sl si wr => ∃ (i : Nat) (l : Int), i ≤ ds.length ∧ si = .int .i64 i ∧ sl = .int .i64 l ∧ 0 ≤ l ∧ l + tot (ds.take i) + ds.length = 1048576 ∧ Hid (Below w.heap.size w wr)) (fun _ si _ => ds.length - (intOf si).toNat)
    case atStart => exact ⟨0, 1048576 - ds.length, Nat.zero_le _, rfl, rfl, by omega, by simp [tot], Below.refl _ _⟩
    case round =>
      obtain ⟨i, l, hi, rfl, rfl, hl0, hl1, hb⟩ := hrel
      by_cases hlt : i < ds.length
      · obtain ⟨b, off, rfl, hdr0⟩ := HDL.out.resolve_left (by intro h; rw [h] at hlt; simp at hlt)
        have hdr := hdr0.later hb.out
        have q0 := hdr.c0 i hlt
        have q1 := hdr.c1 i hlt
        have q2 := hdr.c2 i hlt
        have hmem : ds.getD i default ∈ ds := by rw [List.getD_eq_getElem?_getD, List.getElem?_eq_getElem hlt]; exact List.getElem_mem _
        have hml := HM.out _ hmem
        have htk := tot_take hlt
        obtain ⟨d, hdd⟩ : ∃ d, d = ds.getD i default := ⟨_, rfl⟩
        rw [← hdd] at q0 q1 q2 hml htk
        have HTK : Hid (tot (ds.take (i + 1)) = tot (ds.take i) + d.zs.length) := htk
        obtain ⟨t, htt⟩ : ∃ t, t = tot (ds.take i) := ⟨_, rfl⟩
        rw [← htt] at hl1 HTK
        have hib : (i : Int) < ds.length := by omega
        clear hdr hdr0 hdd hmem htk htt
        go_wp2_with fail
        refine (sz2_any d.g d.a d.zs.length d.c d.E l _ hml hl0 (by omega)).mono ?_
        rintro e w1 ⟨rfl, hb1⟩
        have HB1 : Hid (Below w.heap.size w w1) := hb.out.trans (hb1.mono hb.out.size)
        clear hb1 hb q0 q1 q2
        by_cases hlz : l < d.zs.length
        · rw [if_pos hlz]
          go_wp2
          go_ret
          exact ⟨-1, rfl, .inl (by decide), HB1.out⟩
        · rw [if_neg hlz]
          have hnn : ¬ l - (d.zs.length : Int) < 0 := by omega
          go_wp2
          go_roundw
          case rel => exact ⟨i + 1, l - d.zs.length, by omega, by go_num, rfl, by omega, by rw [HTK.out]; omega, HB1⟩
          case measure => simp [intOf]; omega
      · have hie : i = ds.length := by omega
        subst hie
        rw [List.take_length] at hl1
        go_wp2
        go_ret
        exact ⟨l, rfl, .inr ⟨hl0, by omega⟩, hb.out⟩

theorem info_dy : (Tryd.prog.info? 29).map (fun i => (i.zero, i.size, i.bytes)) = some (some (.agg #[.bool false, .slice none 0 0, .int .i64 0]), 3, 40) := by kernel_rfl

/-- What toDyadicS answers: the same list in new memory. -/
def ToOut (w : World) (ds : List DV) (e : Ending) (w' : World) : Prop := ∃ (X : Nat) (ds' : List DV), e = .returned (.slice (some ⟨X, 0, none⟩) ds.length ds.length) ∧ SameD ds ds' ∧ ListN w' w.heap.size w'.heap.size X ds' ∧ Below w.heap.size w w'

theorem make_dy (n : Nat) (hn : n ≤ 1048576) (w : World) : (Instr.makeSlice 23 (.int .i64 (n : Int)) (.int .i64 (n : Int))).run Tryd.prog w = .ok (.slice (some ⟨w.heap.size, 0, none⟩) n n) (w.alloc (.cells (madeCells #[.bool false, .slice none 0 0, .int .i64 0] (n * 3)) 29)) := by
  obtain ⟨i0, hi, hz0, hz1, hz2⟩ := info_parts info_dy
  have h := run_make (P := Tryd.prog) w 23 29 i0 _ Tryd.underlying23 hi hz0 .i64 .i64 (n : Int) (n : Int) (by omega) (Int.le_refl _) (by rw [hz2]; omega) (by omega)
  rw [hz1, Int.toNat_natCast] at h
  exact h

set_option maxRecDepth 100000 in
set_option maxHeartbeats 2000000 in
theorem toL_any (a : Option Addr) (c : Nat) (ds : List DV) (w : World) (hn : ds.length + tot ds ≤ 1048576) (hd : ListD w a ds) :
    Calls Tryd.prog 22 #[.slice a ds.length c] w fun e w' => ToOut w ds e w' := by
  have hmk := make_dy ds.length (by omega)
  have hdl : ds.length ≤ 1048576 := by omega
  have HDL : Hid (ListD w a ds) := hd
  have HT : Hid (ds.length + tot ds ≤ 1048576) := hn
  have HS : Hid (ToL (w.alloc (.cells (madeCells #[.bool false, .slice none 0 0, .int .i64 0] (ds.length * 3)) 29)) w.heap.size ds.length []) := ToL.start w _ _
  clear hd hn
  go_enter Tryd.func22, Tryd.ntmps22
  go_wp2
  go_loopw [4] (fun si wr => ∃ (i : Nat) (ds' : List DV), i ≤ ds.length ∧ si = .int .i64 i ∧ Hid (SameD (ds.take i) ds') ∧ Hid (ToL wr w.heap.size ds.length ds') ∧ Hid (Below w.heap.size w wr)) (fun si _ => ds.length - (intOf si).toNat)
  case atStart => exact ⟨0, [], Nat.zero_le _, rfl, rfl, HS, bel0 _ _⟩
  case round =>
    obtain ⟨i, ds', hi, rfl, hS, hT, hb⟩ := hrel
    clear hmk HS
    by_cases hlt : i < ds.length
    · obtain ⟨b, off, rfl, hdr0⟩ := HDL.out.resolve_left (by intro h; rw [h] at hlt; simp at hlt)
      have hdr := hdr0.later hb.out
      have q0 := hdr.c0 i hlt
      have q1 := hdr.c1 i hlt
      have q2 := hdr.c2 i hlt
      have hrw := hdr.row i hlt
      have hmem : ds.getD i default ∈ ds := by rw [List.getD_eq_getElem?_getD, List.getElem?_eq_getElem hlt]; exact List.getElem_mem _
      have htk : ds.take (i + 1) = ds.take i ++ [ds.getD i default] := by
        rw [List.take_succ_eq_append_getElem hlt, List.getD_eq_getElem?_getD, List.getElem?_eq_getElem hlt]
        rfl
      obtain ⟨d, hdd⟩ : ∃ d, d = ds.getD i default := ⟨_, rfl⟩
      rw [← hdd] at q0 q1 q2 hrw htk hmem
      have hml : d.zs.length ≤ 1048576 := by have := tot_mem hmem; have := HT.out; omega
      have HTK : Hid (ds.take (i + 1) = ds.take i ++ [d]) := htk
      have HRW : Hid (RowAt .u32 wr d.a d.zs) := hrw
      have hl' : ds'.length = i := by rw [hS.out.length, List.length_take]; omega
      have HL' : Hid (ds'.length = i) := hl'
      have hib : (i : Int) < ds.length := by omega
      clear hdr hdr0 hdd hmem htk hrw hl'
      go_wp2_with fail
      refine (to2_any d.g d.a d.c d.zs d.E _ hml HRW.out).mono ?_
      rintro e w1 ⟨a1, rfl, hr1, hb1⟩
      have HB1 : Hid (Below w.heap.size w w1) := hb.out.trans (hb1.mono hb.out.size)
      have HT1 : Hid (ToL (((w1.setCell ⟨w.heap.size, i * 3, none⟩ (.bool d.g)).setCell ⟨w.heap.size, i * 3 + 1, none⟩ (.slice a1 d.zs.length d.zs.length)).setCell ⟨w.heap.size, i * 3 + 2, none⟩ (.int .i64 d.E)) w.heap.size ds.length (ds' ++ [⟨d.g, a1, d.zs.length, d.zs, d.E⟩])) := hT.out.push HL'.out hlt hb1 hr1
      have hT2 := hT.out.later hb1
      obtain ⟨x0, e0⟩ := hT2.ex (i * 3) (by omega)
      obtain ⟨x1, e1⟩ := hT2.ex (i * 3 + 1) (by omega)
      obtain ⟨x2, e2⟩ := hT2.ex (i * 3 + 2) (by omega)
      have f0 := hT2.fr (i * 3) (by omega)
      have f1 := hT2.fr (i * 3 + 1) (by omega)
      have f2 := hT2.fr (i * 3 + 2) (by omega)
      have HSn : Hid (SameD (ds.take (i + 1)) (ds' ++ [⟨d.g, a1, d.zs.length, d.zs, d.E⟩])) := by
        unfold Hid
        rw [HTK.out]
        unfold SameD
        rw [List.map_append, List.map_append, hS.out]
        rfl
      clear hT2 hr1 hb1 hb q0 q1 q2 hT hS HTK
      go_wp2
      go_roundw
      case rel => exact ⟨i + 1, _, by omega, by go_num, HSn, HT1, ((HB1.out.setCell (by simp) _).setCell (by simp) _).setCell (by simp) _⟩
      case measure => simp [intOf]; omega
    · have hie : i = ds.length := by omega
      subst hie
      go_wp2
      go_ret
      have hS' := hS.out
      rw [List.take_length] at hS'
      exact ⟨_, ds', rfl, hS', hT.out.whole hS'.length (Nat.le_refl _), hb.out⟩

set_option maxRecDepth 100000 in
set_option maxHeartbeats 2000000 in
theorem eqL_any (a a' : Option Addr) (c c' : Nat) (ds ds' : List DV) (w : World) (hs : SameD ds ds') (hn : ds.length + tot ds ≤ 1048576) (hd : ListD w a ds) (hd' : ListD w a' ds') :
    Calls Tryd.prog 24 #[.slice a ds.length c, .slice a' ds.length c'] w fun e w' => e = .returned (.bool true) ∧ Below w.heap.size w w' := by
  have hdl : ds.length ≤ 1048576 := by omega
  have HDL : Hid (ListD w a ds) := hd
  have HDL' : Hid (ListD w a' ds') := hd'
  have HT : Hid (ds.length + tot ds ≤ 1048576) := hn
  have HSM : Hid (SameD ds ds') := hs
  clear hd hd' hn hs
  go_enter Tryd.func24, Tryd.ntmps24
  go_wp2
  go_loopw [5] (fun si wr => ∃ (i : Nat), i ≤ ds.length ∧ si = .int .i64 i ∧ Hid (Below w.heap.size w wr)) (fun si _ => ds.length - (intOf si).toNat)
  case atStart => exact ⟨0, Nat.zero_le _, rfl, Below.refl _ _⟩
  case round =>
    obtain ⟨i, hi, rfl, hb⟩ := hrel
    by_cases hlt : i < ds.length
    · obtain ⟨b, off, rfl, hdr0⟩ := HDL.out.resolve_left (by intro h; rw [h] at hlt; simp at hlt)
      have hlt' : i < ds'.length := by rw [HSM.out.length]; exact hlt
      obtain ⟨b', off', rfl, hdr0'⟩ := HDL'.out.resolve_left (by intro h; rw [h] at hlt'; simp at hlt')
      have hdr := hdr0.later hb.out
      have hdr' := hdr0'.later hb.out
      have q0 := hdr.c0 i hlt
      have q1 := hdr.c1 i hlt
      have q2 := hdr.c2 i hlt
      have hrw := hdr.row i hlt
      have p0 := hdr'.c0 i hlt'
      have p1 := hdr'.c1 i hlt'
      have p2 := hdr'.c2 i hlt'
      have hrw' := hdr'.row i hlt'
      have hsame := HSM.out.at i
      have hmem : ds.getD i default ∈ ds := by rw [List.getD_eq_getElem?_getD, List.getElem?_eq_getElem hlt]; exact List.getElem_mem _
      obtain ⟨d, hdd⟩ : ∃ d, d = ds.getD i default := ⟨_, rfl⟩
      obtain ⟨d', hdd'⟩ : ∃ d', d' = ds'.getD i default := ⟨_, rfl⟩
      rw [← hdd] at q0 q1 q2 hrw hmem hsame
      rw [← hdd'] at p0 p1 p2 hrw' hsame
      obtain ⟨hg, hz, hE⟩ := hsame
      rw [hg] at p0
      rw [hz] at p1 hrw'
      rw [hE] at p2
      have hml : d.zs.length ≤ maxLen := by have := tot_mem hmem; have := HT.out; unfold maxLen; omega
      have HRW : Hid (RowAt .u32 wr d.a d.zs) := hrw
      have HRW' : Hid (RowAt .u32 wr d'.a d.zs) := hrw'
      have hbl : Hid (b < wr.heap.size) := hdr.lt
      have hbl' : Hid (b' < wr.heap.size) := hdr'.lt
      have hib : (i : Int) < ds.length := by omega
      have HH : Hid (∀ w', Below wr.heap.size wr w' → w'.cell? ⟨b, off + i * 3, none⟩ = some (.bool d.g) ∧ w'.cell? ⟨b, off + i * 3 + 1, none⟩ = some (.slice d.a d.zs.length d.c) ∧ w'.cell? ⟨b, off + i * 3 + 2, none⟩ = some (.int .i64 d.E) ∧ w'.cell? ⟨b', off' + i * 3, none⟩ = some (.bool d.g) ∧ w'.cell? ⟨b', off' + i * 3 + 1, none⟩ = some (.slice d'.a d.zs.length d'.c) ∧ w'.cell? ⟨b', off' + i * 3 + 2, none⟩ = some (.int .i64 d.E) ∧ Below wr.heap.size wr w') := by
        intro w' hw
        exact ⟨((bcell hw).1 _ _ hbl.out).trans q0, ((bcell hw).1 _ _ hbl.out).trans q1, ((bcell hw).1 _ _ hbl.out).trans q2, ((bcell hw).1 _ _ hbl'.out).trans p0, ((bcell hw).1 _ _ hbl'.out).trans p1, ((bcell hw).1 _ _ hbl'.out).trans p2, hw⟩
      clear hdr hdr0 hdr' hdr0' hdd hdd' hmem hrw hrw' hg hz hE q0 q1 q2 p0 p1 p2
      go_wp2
      go_region_held3 (fun w' => w'.cell? ⟨b, off + i * 3, none⟩ = some (.bool d.g) ∧ w'.cell? ⟨b, off + i * 3 + 1, none⟩ = some (.slice d.a d.zs.length d.c) ∧ w'.cell? ⟨b, off + i * 3 + 2, none⟩ = some (.int .i64 d.E) ∧ w'.cell? ⟨b', off' + i * 3, none⟩ = some (.bool d.g) ∧ w'.cell? ⟨b', off' + i * 3 + 1, none⟩ = some (.slice d'.a d.zs.length d'.c) ∧ w'.cell? ⟨b', off' + i * 3 + 2, none⟩ = some (.int .i64 d.E) ∧ Below wr.heap.size wr w')
        (first | exact HH.out _ (Below.refl _ _).drew | exact HH.out _ (by assumption))
        (first | (go_at_call 23; refine (eq2_any d.g d.a d'.a d.c d'.c d.zs d.E _ hml (HRW.out.later (held7 (by assumption))) (HRW'.out.later (held7 (by assumption)))).mono ?_; rintro e w1 ⟨rfl, hb1⟩; have hB1 : Below wr.heap.size wr w1 := Below.trans (held7 (by assumption)) (Below.mono hb1 (Below.size (held7 (by assumption))))))
      have HB1 : Hid (Below w.heap.size w w1) := hb.out.trans (hB1.mono hb.out.size)
      clear hb1 hB1 hb HH
      go_wp2
      go_roundw
      case rel => exact ⟨i + 1, by omega, by go_num, HB1⟩
      case measure => simp [intOf]; omega
    · go_wp2
      go_ret
      exact ⟨rfl, hb.out⟩

theorem RowIn.apart_block {k : IntKind} {w w' : World} {lo hi lo' hi' : Nat} {a : Option Addr} {zs : List Int} (h : RowIn k w lo hi a zs) (hb : Within lo' hi' w w') (hd : ∀ b o, a = some ⟨b, o, none⟩ → zs ≠ [] → b < lo' ∨ hi' ≤ b) : RowIn k w' lo hi a zs := by
  by_cases hz : zs = []
  · exact .inl hz
  · rcases h with h | ⟨b, off, h1, h0, h00, h2, h3, h4⟩
    · exact .inl h
    · have h5 := hd b off h1 hz
      exact .inr ⟨b, off, h1, h0, h00, by rw [hb.size]; exact h2, fun j hj => (hb.cell (p := ⟨b, off + j, none⟩) (by simpa using h5)).trans (h3 j hj), fun j hj => (hb.frozen (p := ⟨b, off + j, none⟩) (by simpa using h5)).trans (h4 j hj)⟩

theorem Within.trans {lo hi : Nat} {w w1 w2 : World} (h : Within lo hi w w1) (h' : Within lo hi w1 w2) : Within lo hi w w2 :=
  ⟨h'.os.trans h.os, h'.tape.trans h.tape, h'.output.trans h.output, h'.size.trans h.size, fun k hk => (h'.block k hk).trans (h.block k hk)⟩
theorem Within.wide {lo hi lo' hi' : Nat} {w w1 : World} (h : Within lo' hi' w w1) (h1 : lo ≤ lo') (h2 : hi' ≤ hi) : Within lo hi w w1 :=
  ⟨h.os, h.tape, h.output, h.size, fun k hk => h.block k (by omega)⟩

/-- A list whose first i Dyadics are marked. -/
structure MkL (w : World) (lo hi X : Nat) (ds : List DV) (i : Nat) (W : World) : Prop where
  xlo : lo ≤ X
  xhi : X < hi
  ex : ∀ j, j < ds.length * 3 → ∃ v, W.cell? ⟨X, j, none⟩ = some v
  fr : ∀ j, j < ds.length * 3 → W.frozen? ⟨X, j, none⟩ = false
  c1 : ∀ j, j < ds.length → W.cell? ⟨X, j * 3 + 1, none⟩ = some (.slice (ds.getD j default).a (ds.getD j default).zs.length (ds.getD j default).c)
  row : ∀ j, i ≤ j → j < ds.length → RowIn .u32 W (X + 1) hi (ds.getD j default).a (ds.getD j default).zs
  ne : ∀ i j, i < j → j < ds.length → ∀ b o b' o', (ds.getD i default).a = some ⟨b, o, none⟩ → (ds.getD j default).a = some ⟨b', o', none⟩ → (ds.getD i default).zs ≠ [] → (ds.getD j default).zs ≠ [] → b ≠ b'
  wi : Within lo hi w W

theorem MkL.start {w : World} {lo hi X : Nat} {ds : List DV} (h : ListN w lo hi X ds) : MkL w lo hi X ds 0 w := by
  refine ⟨h.xlo, h.xhi, ?_, h.fr, h.c1, fun j _ hj => h.row j hj, h.ne, Within.refl _ _ _⟩
  intro j hj
  have h0 : j / 3 < ds.length := by omega
  have h1 : j = j / 3 * 3 ∨ j = j / 3 * 3 + 1 ∨ j = j / 3 * 3 + 2 := by omega
  rcases h1 with h1 | h1 | h1
  · rw [h1]; exact ⟨_, h.c0 _ h0⟩
  · rw [h1]; exact ⟨_, h.c1 _ h0⟩
  · rw [h1]; exact ⟨_, h.c2 _ h0⟩

/-- A write into the list that leaves the digits' places. -/
theorem MkL.put {w W : World} {lo hi X : Nat} {ds : List DV} {i : Nat} (h : MkL w lo hi X ds i W) {p : Nat} (hp : ∀ j, p ≠ j * 3 + 1) (hl : p < ds.length * 3) (v : Value) : MkL w lo hi X ds i (W.setCell ⟨X, p, none⟩ v) := by
  have hxl := h.xlo
  have hxh := h.xhi
  have hW : Within X (X + 1) W (W.setCell ⟨X, p, none⟩ v) := (Within.refl _ _ _).setCell (by simp) (by simp) _
  obtain ⟨v0, e0⟩ := h.ex p hl
  refine ⟨hxl, hxh, ?_, ?_, ?_, ?_, h.ne, h.wi.trans (hW.wide hxl (by omega))⟩
  · intro j hj
    by_cases e : j = p
    · subst e; exact ⟨_, World.cell?_setCell_same _ _ _ e0⟩
    · rw [World.cell?_setCell_other _ _ _ _ (by intro hh; apply e; have := congrArg Addr.off hh; simpa using this.symm)]; exact h.ex j hj
  · intro j hj
    rw [World.frozen?_setCell]; exact h.fr j hj
  · intro j hj
    rw [World.cell?_setCell_other _ _ _ _ (by intro hh; apply hp j; have := congrArg Addr.off hh; simpa using this)]; exact h.c1 j hj
  · intro j h1 h2
    exact (h.row j h1 h2).apart hW (.inr (Nat.le_refl _))

/-- Row i is marked. -/
theorem MkL.mark {w W W' : World} {lo hi X : Nat} {ds : List DV} {i lo' hi' : Nat} (h : MkL w lo hi X ds i W) (hw : Within lo' hi' W W') (h1 : X + 1 ≤ lo') (h2 : hi' ≤ hi) (h3 : ∀ j, i < j → j < ds.length → ∀ b o, (ds.getD j default).a = some ⟨b, o, none⟩ → (ds.getD j default).zs ≠ [] → b < lo' ∨ hi' ≤ b) : MkL w lo hi X ds (i + 1) W' := by
  have hxl := h.xlo
  have hxh := h.xhi
  have cc : ∀ j, W'.cell? ⟨X, j, none⟩ = W.cell? ⟨X, j, none⟩ := fun j => hw.cell (p := ⟨X, j, none⟩) (.inl (by simp; omega))
  refine ⟨hxl, hxh, fun j hj => by rw [cc]; exact h.ex j hj, fun j hj => (hw.frozen (p := ⟨X, j, none⟩) (.inl (by simp; omega))).trans (h.fr j hj), fun j hj => (cc _).trans (h.c1 j hj), ?_, h.ne, h.wi.trans (hw.wide (by omega) h2)⟩
  intro j h5 h6
  exact (h.row j (by omega) h6).apart_block hw (h3 j (by omega) h6)

/-- Where row i lies, apart from those behind it. -/
theorem MkL.place {w W : World} {lo hi X : Nat} {ds : List DV} {i : Nat} (h : MkL w lo hi X ds i W) (hi' : i < ds.length) : ∃ l' h', X + 1 ≤ l' ∧ h' ≤ hi ∧ RowIn .u32 W l' h' (ds.getD i default).a (ds.getD i default).zs ∧ ∀ j, i < j → j < ds.length → ∀ b o, (ds.getD j default).a = some ⟨b, o, none⟩ → (ds.getD j default).zs ≠ [] → b < l' ∨ h' ≤ b := by
  have hr := h.row i (Nat.le_refl _) hi'
  have hxh := h.xhi
  by_cases hz : (ds.getD i default).zs = []
  · exact ⟨X + 1, X + 1, Nat.le_refl _, by omega, .inl hz, fun j _ _ b o _ _ => by omega⟩
  · rcases hr with hr | ⟨b, off, h1, h0, h00, h2, h3, h4⟩
    · exact absurd hr hz
    · refine ⟨b, b + 1, h0, by omega, .inr ⟨b, off, h1, Nat.le_refl _, by omega, h2, h3, h4⟩, ?_⟩
      intro j hij hj b' o' ha hz'
      have := h.ne i j hij hj b off b' o' h1 ha hz hz'
      omega

set_option maxRecDepth 100000 in
set_option maxHeartbeats 2000000 in
theorem markL_any (X lo hi c : Nat) (ds : List DV) (w : World) (hn : ds.length + tot ds ≤ 1048576) (hd : ListN w lo hi X ds) :
    Calls Tryd.prog 25 #[.slice (some ⟨X, 0, none⟩) ds.length c, .int .i64 1] w fun e w' => ∃ r : Int, e = .returned (.int .i64 r) ∧ 0 ≤ r ∧ Within lo hi w w' := by
  have hdl : ds.length ≤ 1048576 := by omega
  have HT : Hid (ds.length + tot ds ≤ 1048576) := hn
  have HS : Hid (MkL w lo hi X ds 0 w) := MkL.start hd
  clear hd hn
  go_enter Tryd.func25, Tryd.ntmps25
  go_wp2
  go_loopw [1, 5] (fun sk si wr => ∃ (i : Nat) (k : Int), i ≤ ds.length ∧ si = .int .i64 i ∧ sk = .int .i64 k ∧ k = 1 + 2 * i + tot (ds.take i) ∧ Hid (MkL w lo hi X ds i wr)) (fun _ si _ => ds.length - (intOf si).toNat)
  case atStart => exact ⟨0, 1, Nat.zero_le _, rfl, rfl, by simp [tot], HS⟩
  case round =>
    obtain ⟨i, k, hil, rfl, rfl, hk, hM⟩ := hrel
    clear HS
    by_cases hlt : i < ds.length
    · have hmem : ds.getD i default ∈ ds := by rw [List.getD_eq_getElem?_getD, List.getElem?_eq_getElem hlt]; exact List.getElem_mem _
      have htk := tot_take hlt
      have htle := tot_take_le ds (i + 1)
      have hml := tot_mem hmem
      have hTo := HT.out
      have e1 := hM.out.c1 i hlt
      obtain ⟨x0, e0⟩ := hM.out.ex (i * 3) (by omega)
      have f0 := hM.out.fr (i * 3) (by omega)
      obtain ⟨d, hdd⟩ : ∃ d, d = ds.getD i default := ⟨_, rfl⟩
      rw [← hdd] at e1 hml htk
      obtain ⟨t, htt⟩ : ∃ t, t = tot (ds.take i) := ⟨_, rfl⟩
      rw [← htt] at hk htk
      have HTK : Hid (tot (ds.take (i + 1)) = t + d.zs.length) := htk
      have HDD : Hid (d = ds.getD i default) := hdd
      have hib : (i : Int) < ds.length := by omega
      have hkb : 0 ≤ k ∧ k + d.zs.length ≤ 2097150 + 1048576 := by omega
      have hk0 : 0 ≤ k := by omega
      have hk1 : k + 1 ≤ 2097152 := by rw [htk] at htle; omega
      have HK : Hid (k = 1 + 2 * i + t) := hk
      clear hmem htk hdd htt htle hkb hk
      have HP : Hid (MkL w lo hi X ds i (wr.setCell ⟨X, i * 3, none⟩ (.bool (k % 3 == 0)))) := hM.out.put (by omega) (by omega) _
      obtain ⟨l', h', g1, g2, g3, g4⟩ := HP.out.place hlt
      rw [← HDD.out] at g3
      have G3 : Hid (RowIn .u32 (wr.setCell ⟨X, i * 3, none⟩ (.bool (k % 3 == 0))) l' h' d.a d.zs) := g3
      have G4 : Hid (∀ j, i < j → j < ds.length → ∀ b o, (ds.getD j default).a = some ⟨b, o, none⟩ → (ds.getD j default).zs ≠ [] → b < l' ∨ h' ≤ b) := g4
      clear g3 g4 hM
      go_wp2_with fail
      refine (markU_any d.a d.c d.zs (k + 1) _ l' h' (by omega) (by omega) hk1 G3.out).mono ?_
      rintro e w1 ⟨rfl, _, hw1⟩
      have HP1 : Hid (MkL w lo hi X ds (i + 1) w1) := HP.out.mark hw1 g1 g2 G4.out
      obtain ⟨x2, e2⟩ := HP1.out.ex (i * 3 + 2) (by omega)
      have f2 := HP1.out.fr (i * 3 + 2) (by omega)
      have HP2 : Hid (MkL w lo hi X ds (i + 1) (w1.setCell ⟨X, i * 3 + 2, none⟩ (.int .i64 (k + 1 + d.zs.length)))) := HP1.out.put (by omega) (by omega) _
      clear hw1 HP1 HP e0 e1 f0 G3 G4
      go_wp2
      go_roundw
      case rel => exact ⟨i + 1, k + 1 + d.zs.length + 1, by omega, by go_num, rfl, by rw [HTK.out]; have := HK.out; omega, HP2⟩
      case measure => simp [intOf]; omega
    · go_wp2
      go_ret
      exact ⟨k, rfl, by omega, hM.out.wi⟩

end Go.Proofs.YtladfpljnaippabDoor
