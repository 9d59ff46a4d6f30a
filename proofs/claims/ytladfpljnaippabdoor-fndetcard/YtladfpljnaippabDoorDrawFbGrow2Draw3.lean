/-
  The reader with its bytes told, and a drawn Big as a function of them.
-/
import Derived.Test.YtladfpljnaippabDoorDraw2
import Derived.Test.YtladfpljnaippabDoorGrow
import Derived.Maps.AppendAt
namespace Go.Proofs.YtladfpljnaippabDoor
open Go.RowKit

/-- The reader in block P; rs are the bytes that are left. -/
structure Rs (P : Nat) (rs : List Int) (W : World) : Prop where
  ex : ∃ (a : Option Addr) (c : Nat) (bs : List Int) (i : Nat), W.cell? ⟨P, 0, none⟩ = some (.slice a bs.length c) ∧ W.cell? ⟨P, 1, none⟩ = some (.int .i64 i) ∧ i ≤ bs.length ∧ bs.length ≤ 500 ∧ RowAt .u8 W a bs ∧ (∀ b off, a = some ⟨b, off, none⟩ → bs ≠ [] → b < P) ∧ Dig 256 bs ∧ rs = bs.drop i
  free : ∀ j, W.frozen? ⟨P, j, none⟩ = false
  lt : P < W.heap.size

theorem Rs.rd {P : Nat} {rs : List Int} {W : World} (h : Rs P rs W) : Rd P W := by
  obtain ⟨⟨a, c, bs, i, h1, h2, h3, h4, h5, h6, h7, _⟩, hf, hl⟩ := h
  exact ⟨⟨a, c, bs, i, h1, h2, h3, h4, h5, h6, h7⟩, hf, hl⟩

theorem Rs.above {P B : Nat} {rs : List Int} {W W' : World} (h : Rs P rs W) (hb : Below B W W') (hB : P < B) : Rs P rs W' := by
  obtain ⟨⟨a, c, bs, i, h1, h2, h3, h4, h5, h6, h7, h8⟩, hf, hl⟩ := h
  refine ⟨⟨a, c, bs, i, (hb.cell (p := ⟨P, 0, none⟩) hB).trans h1, (hb.cell (p := ⟨P, 1, none⟩) hB).trans h2, h3, h4, ?_, h6, h7, h8⟩, fun j => (hb.frozen (p := ⟨P, j, none⟩) hB).trans (hf j), Nat.lt_of_lt_of_le hl hb.size⟩
  by_cases e : bs = []
  · exact .inl e
  · rcases h5 with h5 | ⟨b, off, g1, g2, g3⟩
    · exact .inl h5
    · have := h6 b off g1 e
      exact .inr ⟨b, off, g1, Nat.lt_of_lt_of_le g2 hb.size, fun j hj => (hb.cell (p := ⟨b, off + j, none⟩) (by simp; omega)).trans (g3 j hj)⟩

theorem Rs.later {P : Nat} {rs : List Int} {W W' : World} (h : Rs P rs W) (hb : Below W.heap.size W W') : Rs P rs W' := h.above hb h.lt

/-- What next hands back. -/
def NextF (P : Nat) (rs : List Int) (w : World) (e : Ending) (w' : World) : Prop := e = .returned (.int .i64 (rs.headD 0)) ∧ 0 ≤ rs.headD 0 ∧ rs.headD 0 ≤ 255 ∧ Rs P rs.tail w' ∧ Aside P w w'

set_option maxHeartbeats 1000000 in
theorem nextF_any (P : Nat) (rs : List Int) (w : World) (h : Rs P rs w) :
    Calls Tryd.prog 29 #[.pointer (some ⟨P, 0, none⟩)] w fun e w' => NextF P rs w e w' := by
  have HH : Hid (Rs P rs w) := h
  obtain ⟨⟨a, c, bs, i, h1, h2, h3, h4, h5, h6, h7, h8⟩, hf, hl⟩ := h
  by_cases hi : i < bs.length
  · obtain ⟨b, off, rfl, g1⟩ := row_cell h5 (Below.refl _ _) hi
    have hb := h7.at (by decide) i
    have hrs : rs = bs.getD i 0 :: bs.drop (i + 1) := by
      rw [h8, List.drop_eq_getElem_cons hi, List.getD_eq_getElem?_getD, List.getElem?_eq_getElem hi]
      rfl
    obtain ⟨y, hy⟩ : ∃ y, y = bs.getD i 0 := ⟨_, rfl⟩
    rw [← hy] at hb g1 hrs
    obtain ⟨hb0, hb1⟩ := hb
    have hge : ¬ ((i : Int) ≥ bs.length) := by omega
    have hlt : (i : Int) < bs.length := by omega
    have HO : Hid (∀ W, Below w.heap.size w W → NextF P rs w (.returned (.int .i64 y)) (W.setCell ⟨P, 1, none⟩ (.int .i64 ((i : Int) + 1)))) := by
      intro W hW
      have c1 : W.cell? ⟨P, 0, none⟩ = some (.slice (some ⟨b, off, none⟩) bs.length c) := (hW.cell (p := ⟨P, 0, none⟩) hl).trans h1
      have c2 : W.cell? ⟨P, 1, none⟩ = some (.int .i64 i) := (hW.cell (p := ⟨P, 1, none⟩) hl).trans h2
      rw [hrs]
      refine ⟨rfl, hb0, Int.le_of_lt_add_one hb1, ⟨⟨some ⟨b, off, none⟩, c, bs, i + 1, ?_, ?_, by omega, h4, ?_, h6, h7, rfl⟩, fun j => by rw [World.frozen?_setCell]; exact (hW.frozen (p := ⟨P, j, none⟩) hl).trans (hf j), by have := hW.size; simp; omega⟩, (Aside.of hW).set 1 _⟩
      · rw [World.cell?_setCell_other _ _ _ _ (by simp)]; exact c1
      · rw [World.cell?_setCell_same _ _ _ c2]; simp
      · have hbP := h6 b off rfl (by intro e; rw [e] at hi; simp at hi)
        exact ((Aside.of (P := P) hW).set 1 _).row h5 (fun b' off' e _ => by have := congrArg Addr.block (Option.some.inj e); simp at this; omega)
    clear h5 h6 h7 hy HH hrs h8
    go_enter Tryd.func29, Tryd.ntmps29
    go_wp2
    go_quiet (fail)
    go_wp2
    go_quiet (fail)
    go_wp2
    go_ret
    exact HO.out _ (by first | exact below_drewN (below_drewN (Below.refl _ _) _) _ | exact below_drewN (Below.refl _ _) _)
  · have hge : (bs.length : Int) ≤ i := by omega
    have hrs : rs = [] := by rw [h8]; exact List.drop_eq_nil_of_le (by omega)
    have HO : Hid (∀ W, Below w.heap.size w W → NextF P rs w (.returned (.int .i64 0)) W) := fun W hW => by
      have h2 := HH.out.later hW
      rw [hrs] at h2 ⊢
      exact ⟨rfl, by decide, by decide, h2, Aside.of hW⟩
    clear h5 h6 h7 HH hrs h8
    go_enter Tryd.func29, Tryd.ntmps29
    go_wp2
    go_quiet (fail)
    go_wp2
    go_ret
    exact HO.out _ (below_drewN (Below.refl _ _) _)

/-- What l1open hands back. -/
def OpenF (w : World) (bs : List Int) (e : Ending) (w' : World) : Prop := e = .returned (.pointer (some ⟨w.heap.size, 0, none⟩)) ∧ Rs w.heap.size (bs.take 500) w' ∧ Below w.heap.size w w' ∧ w'.heap.size = w.heap.size + 1

theorem openF_rd (w : World) (a : Option Addr) (n c : Nat) (bs us : List Int) (t : TypeId) (hn : n = bs.length) (h5 : bs.length ≤ 500) (hb : Dig 256 bs) (hr : RowAt .u8 w a bs) (hu : us.take 500 = bs) : OpenF w us (.returned (.pointer (some ⟨w.heap.size, 0, none⟩))) (w.alloc (.cells #[.slice a n c, .int .i64 0] t)) := by
  subst hn
  refine ⟨rfl, ⟨⟨a, c, bs, 0, by simp [go_sem], by simp [go_sem], by omega, h5, hr.later (bel0 _ _), ?_, hb, hu⟩, fun j => by simp [go_sem], by simp⟩, bel0 _ _, by simp⟩
  intro b off e hne
  rcases hr with hr | ⟨b', off', g1, g2, _⟩
  · exact absurd hr hne
  · rw [e] at g1
    have := congrArg Addr.block (Option.some.inj g1)
    simp at this
    omega

set_option maxHeartbeats 1000000 in
theorem openF_any (a : Option Addr) (c : Nat) (bs : List Int) (w : World) (hn : bs.length ≤ 1048576) (hc : bs.length ≤ c) (hcm : c ≤ maxLen) (hnil : a = none → c = 0) (hr : RowAt .u8 w a bs) (hb : Dig 256 bs) :
    Calls Tryd.prog 28 #[.slice a bs.length c] w fun e w' => OpenF w bs e w' := by
  unfold maxLen at hcm
  by_cases h5 : 500 < bs.length
  · have HO : Hid (∀ t, OpenF w bs (.returned (.pointer (some ⟨w.heap.size, 0, none⟩))) (w.alloc (.cells #[.slice a 500 c, .int .i64 0] t))) := fun t =>
      openF_rd w a 500 c (bs.take 500) bs t (by rw [List.length_take]; omega) (by rw [List.length_take]; omega) (hb.take 500) (hr.take 500) rfl
    cases a with
    | none => have := hnil rfl; omega
    | some x =>
      clear hr hb
      go_enter Tryd.func28, Tryd.ntmps28
      go_wp2
      go_ret
      exact HO.out _
  · have HO : Hid (∀ t, OpenF w bs (.returned (.pointer (some ⟨w.heap.size, 0, none⟩))) (w.alloc (.cells #[.slice a bs.length c, .int .i64 0] t))) := fun t =>
      openF_rd w a bs.length c bs bs t rfl (by omega) hb hr (List.take_of_length_le (by omega))
    cases a with
    | none =>
      have h0 := hnil rfl
      subst h0
      have hl : bs.length = 0 := by omega
      rw [hl] at HO ⊢
      clear hr hb
      go_enter Tryd.func28, Tryd.ntmps28
      go_wp2
      go_ret
      exact HO.out _
    | some x =>
      clear hr hb
      go_enter Tryd.func28, Tryd.ntmps28
      go_wp2
      go_ret
      exact HO.out _


/-- One limb, and what is left of the bytes. -/
def limbF (rs : List Int) : Int × List Int := if rs.headD 0 < 160 then (oddT.getD (rs.headD 0 % 8).toNat 0, rs.tail) else (bits .xor .u32 (rs.headD 0 * 16843009) (rs.tail.headD 0 * 66309), rs.tail.tail)
def limbsF : Nat → List Int → List Int × List Int
  | 0, rs => ([], rs)
  | n + 1, rs => ((limbsF n rs).1 ++ [(limbF (limbsF n rs).2).1], (limbF (limbsF n rs).2).2)
/-- The limbs of a drawn Big, zeros on top and all, and what is left of the bytes; its magnitude; its sign. -/
def drawL (rs : List Int) : List Int × List Int := if rs.headD 0 = 7 then (List.replicate (511 + rs.tail.headD 0 % 2).toNat 4294967295, rs.tail.tail) else limbsF (rs.headD 0 % 6).toNat rs.tail
def drawZ (rs : List Int) : List Int := trimL (drawL rs).1
def drawG (rs : List Int) : Bool := decide (drawZ rs ≠ []) && (rs.headD 0 / 6 % 2 == 1)

/-- A drawn Big: what is handed back. -/
def DrawF (P : Nat) (rs : List Int) (w : World) (e : Ending) (w' : World) : Prop :=
  ∃ (a : Option Addr) (c : Nat), e = .returned (.agg #[.bool (drawG rs), .slice a (drawZ rs).length c]) ∧ (drawZ rs).length ≤ 512 ∧ U32 (drawZ rs) ∧ w'.ownsRow w.heap.size 33 1 (.slice a (drawZ rs).length c) (drawZ rs).length (vals .u32 (drawZ rs)) ∧ Rs P (drawL rs).2 w' ∧ Aside P w w'

theorem DS.outF {w : World} {P R O B : Nat} {G : Bool} {ys rs : List Int} {a : Option Addr} {c : Nat} {W : World} (h : DS w P R O B 33 G (.slice a ys.length c) ys W) (hn : ys.length ≤ 512) (hs : Rs P (drawL rs).2 W) (hz : ys = drawZ rs) (hG : G = drawG rs) :
    DrawF P rs w (.returned (.agg #[.bool G, .slice a ys.length c])) ((W.setCell ⟨R, 0, none⟩ (.bool G)).setCell ⟨R, 1, none⟩ (.slice a ys.length c)) := by
  have o1 := h.ordR; have o2 := h.ordP; have o3 := h.ordO; have o4 := h.ordB; have o5 := h.ordW
  subst hz hG
  refine ⟨a, c, rfl, hn, h.u, own_mono (own_set (own_set h.own (by simp; omega) _) (by simp; omega) _) (by omega), ?_, (h.asd.setHigh (by simp; omega) _).setHigh (by simp; omega) _⟩
  have hw : Below (P + 1) W ((W.setCell ⟨R, 0, none⟩ (.bool (drawG rs))).setCell ⟨R, 1, none⟩ (.slice a (drawZ rs).length c)) := ((Below.refl _ _).setCell (by simp; omega) _).setCell (by simp; omega) _
  exact hs.above hw (by omega)

theorem trim_zero {ys : List Int} {m : Nat} (hm : ys.length = m + 1) (h : ys.getD m 0 = 0) : trimL ys = trimL (ys.take m) := by
  have := trim_take_step (zs := ys) (m := m) (by omega) h
  rw [← hm, List.take_length] at this
  exact this

theorem trim_stop {ys : List Int} {m : Nat} (hm : ys.length = m + 1) (h : ys.getD m 0 ≠ 0) : trimL ys = ys := by
  have := trim_take_stop (zs := ys) (m := m) (by omega) h
  rw [← hm, List.take_length] at this
  exact this

theorem oddT_cellF {W : World} {T j : Nat} (h : RowAt .u32 W (some ⟨T, 0, none⟩) oddT) (hj : j < 8) : ∃ y, W.cell? ⟨T, j, none⟩ = some (.int .u32 y) ∧ 0 ≤ y ∧ y < 4294967296 ∧ y = oddT.getD j 0 := by
  obtain ⟨y, h1, h2, h3⟩ := oddT_cell h hj
  refine ⟨y, h1, h2, h3, ?_⟩
  rcases h with h | ⟨b, off, e, _, hc⟩
  · cases h
  · injection e with e
    injection e with e1 e2
    subst e1 e2
    have := hc j (by simpa [oddT] using hj)
    rw [Nat.zero_add, h1] at this
    simpa using this

set_option maxRecDepth 100000 in
set_option maxHeartbeats 8000000 in
theorem drawBigF_any (P : Nat) (rs : List Int) (w : World) (h : Rs P rs w) :
    Calls Tryd.prog 104 #[.pointer (some ⟨P, 0, none⟩)] w fun e w' => DrawF P rs w e w' := by
  have hl := h.lt
  go_enter Tryd.func104, Tryd.ntmps104
  go_wp2_with fail
  refine (nextF_any P rs _ (h.later (bel0 _ _))).mono ?_
  rintro e w1 ⟨rfl, hk0, hk1, hs1, ha1⟩
  obtain ⟨kk, hkk⟩ : ∃ kk, kk = rs.headD 0 := ⟨_, rfl⟩
  rw [← hkk] at hk0 hk1 ⊢
  have HKK : Hid (kk = rs.headD 0) := hkk
  have hr1 := hs1.rd
  have S0 : Hid (∀ o, Rs P rs.tail (w1.alloc o)) := fun o => hs1.later (bel0 _ _)
  have oP1 : P < w1.heap.size := hs1.lt
  clear hkk hs1
  have D0 : Hid (∀ t', DS w P w.heap.size w1.heap.size (w1.heap.size + 1) 33 false (.slice none 0 0) [] (w1.alloc (.cells #[.bool false, .slice none 0 0] t'))) := fun t' => DS.start hl hr1 ha1
  clear hr1 ha1
  by_cases h7 : kk = 7
  · subst h7
    go_wp2_with fail
    refine (nextF_any P rs.tail _ (S0.out _)).mono ?_
    rintro e w2 ⟨rfl, hj0, hj1, hs2, ha2⟩
    obtain ⟨jj, hjj⟩ : ∃ jj, jj = rs.tail.headD 0 := ⟨_, rfl⟩
    rw [← hjj] at hj0 hj1 ⊢
    have hr2 := hs2.rd
    have S2 : Hid (Rs P rs.tail.tail w2) := hs2
    have HDL : Hid (drawL rs = (List.replicate (511 + jj % 2).toNat 4294967295, rs.tail.tail)) := by
      unfold Hid drawL
      rw [if_pos HKK.out.symm, ← hjj]
    clear hjj hs2
    have D2 : Hid (DS w P w.heap.size w1.heap.size (w1.heap.size + 1) 33 false (.slice none 0 0) [] w2) := (D0.out _).aside ha2 hr2
    have hm0 : 0 ≤ jj % 2 := by omega
    have hm1 : jj % 2 ≤ 1 := by omega
    clear hr2 ha2 D0
    go_wp2
    go_loopw [6] (fun si wr => ∃ (i : Nat) (v : Value) (ys : List Int), (i : Int) ≤ 511 + jj % 2 ∧ si = .int .i64 i ∧ ys.length = i ∧ Hid (ys = List.replicate i 4294967295) ∧ Hid (Rs P rs.tail.tail wr) ∧ Hid (DS w P w.heap.size w1.heap.size (w1.heap.size + 1) 33 false v ys wr)) (fun si _ => 513 - (intOf si).toNat)
    case atStart => exact ⟨0, _, [], by omega, rfl, rfl, rfl, S2, D2⟩
    case round =>
      obtain ⟨i, v, ys, hi, rfl, rfl, hyr, hSr, hD⟩ := hrel
      clear D2 S2 S0
      have s1 := hD.out.o1
      have s2 := hD.out.o2
      have hown := hD.out.own
      have hle := hD.out.ordW
      obtain ⟨va, vc, rfl⟩ := own_slice hown
      by_cases hlt : (ys.length : Int) < 511 + jj % 2
      · have hlo : ys.length ≤ 8388608 := by omega
        go_wp2_with (at_builtin; refine app1 rfl (.tmp 27) (.tmp 28) 25 rfl (w1.heap.size + 1) 33 Tryd.underlying25 Tryd.info33 (by decide) _ _ rfl rfl hown hlo hle ?_; intro a1 n1 c1 w3 hown1 hb1 hs1; have z3 := (hb1.frozen (p := ⟨w1.heap.size, 1, none⟩) (by simp)).trans (s2 1); have z4 := (hb1.cell (p := ⟨w1.heap.size, 1, none⟩) (by simp)).trans s1)
        have HSN : Hid (Rs P rs.tail.tail (w3.setCell ⟨w1.heap.size, 1, none⟩ (.slice a1 n1 c1))) := hSr.out.above (B := w1.heap.size) ((show Below w1.heap.size wr w3 from hb1.mono (by omega)).setCell (p := ⟨w1.heap.size, 1, none⟩) (Nat.le_refl _) _) oP1
        have HN : Hid (DS w P w.heap.size w1.heap.size (w1.heap.size + 1) 33 false (.slice a1 n1 c1) (ys ++ [4294967295]) (w3.setCell ⟨w1.heap.size, 1, none⟩ (.slice a1 n1 c1))) := hD.out.grow hb1 hown1 (hD.out.u.snoc (by decide) (by decide))
        go_roundw
        case rel => exact ⟨ys.length + 1, _, ys ++ [4294967295], by omega, by go_num, by simp, by unfold Hid; rw [List.replicate_succ', ← hyr.out], HSN, HN⟩
        case measure => simp [intOf]; omega
      · clear s1 s2 hown hle
        have HY0 : Hid (ys = (drawL rs).1) := by unfold Hid; rw [HDL.out, hyr.out]; simp; omega
        have HS0 : Hid (Rs P (drawL rs).2 wr) := by unfold Hid; rw [HDL.out]; exact hSr.out
        clear hyr hSr
        go_wp2
        go_loopw [] (fun wq => ∃ (va : Option Addr) (vc : Nat) (ys : List Int), ys.length ≤ 512 ∧ Hid (trimL ys = drawZ rs) ∧ Hid (Rs P (drawL rs).2 wq) ∧ Hid (DS w P w.heap.size w1.heap.size (w1.heap.size + 1) 33 false (.slice va ys.length vc) ys wq)) (fun wq => boxLen w1.heap.size wq)
        case atStart => exact ⟨va, vc, ys, by omega, by unfold Hid drawZ; rw [← HY0.out], HS0, hD⟩
        case round =>
          clear hD
          obtain ⟨va, vc, ys, hy5, hTz, hSq, hD⟩ := hrel
          clear HY0 HS0
          have s0 := hD.out.o0
          have s1 := hD.out.o1
          have s2 := hD.out.o2
          have HFIN : Hid (∀ G' wx, DS w P w.heap.size w1.heap.size (w1.heap.size + 1) 33 G' (.slice va ys.length vc) ys wx → Rs P (drawL rs).2 wx → ys = drawZ rs → G' = drawG rs → DrawF P rs w (.returned (.agg #[.bool G', .slice va ys.length vc])) ((wx.setCell ⟨w.heap.size, 0, none⟩ (.bool G')).setCell ⟨w.heap.size, 1, none⟩ (.slice va ys.length vc))) := fun G' wx hx h1 h2 h3 => hx.outF hy5 h1 h2 h3
          have HSS : Hid (∀ G', Rs P (drawL rs).2 (wr.setCell ⟨w1.heap.size, 0, none⟩ (.bool G'))) := fun G' => hSq.out.above ((Below.refl _ _).setCell (p := ⟨w1.heap.size, 0, none⟩) (Nat.le_refl _) _) oP1
          have oo1 : w.heap.size < w1.heap.size := hD.out.ordO
          have r1 := hD.out.r1
          have r2 := hD.out.r2
          have r3 := hD.out.r3
          by_cases hz : ys.length = 0
          · have hye : ys = [] := List.length_eq_zero_iff.1 hz
            subst hye
            have HE : Hid (DrawF P rs w (.returned (.agg #[.bool false, .slice va ([] : List Int).length vc])) (((wr.setCell ⟨w1.heap.size, 0, none⟩ (.bool false)).setCell ⟨w.heap.size, 0, none⟩ (.bool false)).setCell ⟨w.heap.size, 1, none⟩ (.slice va ([] : List Int).length vc))) := HFIN.out _ _ (hD.out.sign false) (HSS.out false) (by rw [← hTz.out]; rfl) (by unfold drawG; rw [← hTz.out]; rfl)
            clear HFIN HSS hTz hSq hD
            go_wp2
            refine bodyPost_ret (v := .agg #[.bool false, .slice va 0 vc]) (by simp [results, Tryd.results104, go_sem, r1, r2]) rfl ?_
            exact HE.out
          · obtain ⟨m, hm⟩ : ∃ m, ys.length = m + 1 := ⟨ys.length - 1, by omega⟩
            obtain ⟨_, _, _, hcm, hsl, hrn⟩ := own_row hD.out.own
            have hrow : RowAt .u32 wr va ys := by
              obtain ⟨a2, c2, e2, _, hs2, _⟩ := own_row hD.out.own
              injection e2 with e3 e4 e5
              subst e3
              exact hs2.row
            obtain ⟨b, off, rfl, g1⟩ := row_cell hrow (Below.refl _ _) (show m < ys.length by omega)
            obtain ⟨y, hy⟩ : ∃ y, y = ys.getD m 0 := ⟨_, rfl⟩
            rw [← hy] at g1
            have hcap : ys.length ≤ vc := by
              obtain ⟨a2, c2, e2, _, hs2, _⟩ := own_row hD.out.own
              injection e2 with e3 e4 e5
              subst e5
              exact hs2.fits
            have hcm2 : vc ≤ maxLen := by
              obtain ⟨a2, c2, e2, h2, _, _⟩ := own_row hD.out.own
              injection e2 with e3 e4 e5
              subst e5
              exact h2
            unfold maxLen at hcm2
            by_cases hy0 : y = 0
            · have HS : Hid (DS w P w.heap.size w1.heap.size (w1.heap.size + 1) 33 false (.slice (some ⟨b, off, none⟩) m vc) (ys.take m) (wr.setCell ⟨w1.heap.size, 1, none⟩ (.slice (some ⟨b, off, none⟩) m vc))) := hD.out.short hm
              have HL : Hid (boxLen w1.heap.size wr = m + 1) := by unfold Hid; rw [boxLen_of s1, hm]
              have HT : Hid ((ys.take m).length = m) := by unfold Hid; rw [List.length_take]; omega
              have hml : (ys.length : Int) - 1 = m := by omega
              have hyl : (0 : Int) < ys.length := by omega
              have HTZ : Hid (trimL (ys.take m) = drawZ rs) := by unfold Hid; rw [← hTz.out, trim_zero hm (by rw [← hy]; exact hy0)]
              have HSZ : Hid (Rs P (drawL rs).2 (wr.setCell ⟨w1.heap.size, 1, none⟩ (.slice (some ⟨b, off, none⟩) m vc))) := hSq.out.above ((Below.refl _ _).setCell (p := ⟨w1.heap.size, 1, none⟩) (Nat.le_refl _) _) oP1
              subst hy0
              clear HFIN HSS hTz hSq hD hrow hsl hrn hy r1 r2 r3 s0
              go_wp2
              go_roundw
              case rel => exact ⟨some ⟨b, off, none⟩, vc, ys.take m, by rw [HT.out]; omega, HTZ, HSZ, by rw [HT.out]; exact HS⟩
              case measure => rw [HL.out, boxLen_of (World.cell?_setCell_same _ _ _ s1)]; omega
            · have HE : Hid (DrawF P rs w (.returned (.agg #[.bool (true), .slice (some ⟨b, off, none⟩) ys.length vc])) (((wr.setCell ⟨w1.heap.size, 0, none⟩ (.bool (true))).setCell ⟨w.heap.size, 0, none⟩ (.bool (true))).setCell ⟨w.heap.size, 1, none⟩ (.slice (some ⟨b, off, none⟩) ys.length vc))) := HFIN.out _ _ (hD.out.sign _) (HSS.out _) (by rw [← hTz.out, trim_stop hm (by rw [← hy]; exact hy0)]) (by unfold drawG; rw [← hTz.out, trim_stop hm (by rw [← hy]; exact hy0), decide_eq_true (show ys ≠ [] from fun e => by rw [e] at hm; simp at hm), ← HKK.out]; rfl)
              have hml : (ys.length : Int) - 1 = m := by omega
              have hyl : (0 : Int) < ys.length := by omega
              have hy1 : (y == 0) = false := by rw [beq_eq_false_iff_ne]; exact hy0
              clear HFIN HSS hTz hSq hD hrow hsl hrn hy hm
              go_wp2
              refine bodyPost_ret (v := .agg #[.bool (true), .slice (some ⟨b, off, none⟩) ys.length vc]) (by simp [results, Tryd.results104, go_sem, r1, r2]) rfl ?_
              exact HE.out
  · have h7' : (kk == 7) = false := by rw [beq_eq_false_iff_ne]; exact h7
    have hm0 : 0 ≤ kk % 6 := by omega
    have hm1 : kk % 6 ≤ 5 := by omega
    have DT : Hid (DS w P w.heap.size w1.heap.size (w1.heap.size + 1 + 1) 33 false (.slice none 0 0) [] ((w1.alloc (.cells #[.bool false, .slice none 0 0] 27)).alloc (.cells #[.int .u32 0, .int .u32 1, .int .u32 4294967295, .int .u32 2147483648, .int .u32 2147483647, .int .u32 2, .int .u32 10, .int .u32 1000000000] 33))) := by
      unfold Hid
      have := (D0.out 27).rebase (.cells #[.int .u32 0, .int .u32 1, .int .u32 4294967295, .int .u32 2147483648, .int .u32 2147483647, .int .u32 2, .int .u32 10, .int .u32 1000000000] 33) (by simp)
      simpa using this
    have TT : Hid (RowAt .u32 ((w1.alloc (.cells #[.bool false, .slice none 0 0] 27)).alloc (.cells #[.int .u32 0, .int .u32 1, .int .u32 4294967295, .int .u32 2147483648, .int .u32 2147483647, .int .u32 2, .int .u32 10, .int .u32 1000000000] 33)) (some ⟨w1.heap.size + 1, 0, none⟩) oddT) := oddT_row w1 _ _
    have ST : Hid (Rs P rs.tail ((w1.alloc (.cells #[.bool false, .slice none 0 0] 27)).alloc (.cells #[.int .u32 0, .int .u32 1, .int .u32 4294967295, .int .u32 2147483648, .int .u32 2147483647, .int .u32 2, .int .u32 10, .int .u32 1000000000] 33))) := (S0.out _).later (bel0 _ _)
    have HDL : Hid (drawL rs = limbsF (kk % 6).toNat rs.tail) := by
      unfold Hid drawL
      rw [if_neg (by rw [← HKK.out]; exact h7), ← HKK.out]
    clear D0 S0
    go_wp2
    go_loopw [8, 9, 10] (fun si _ _ wr => ∃ (i : Nat) (v : Value) (ys : List Int), (i : Int) ≤ kk % 6 ∧ si = .int .i64 i ∧ ys.length = i ∧ Hid (ys = (limbsF i rs.tail).1) ∧ Hid (Rs P (limbsF i rs.tail).2 wr) ∧ Hid (DS w P w.heap.size w1.heap.size (w1.heap.size + 1 + 1) 33 false v ys wr) ∧ Hid (RowAt .u32 wr (some ⟨w1.heap.size + 1, 0, none⟩) oddT)) (fun si _ _ _ => 6 - (intOf si).toNat)
    case atStart => exact ⟨0, _, [], by omega, rfl, rfl, rfl, ST, DT, TT⟩
    case round =>
      obtain ⟨i, v, ys, hi, rfl, hyi, hyr, hSr, hD, hT⟩ := hrel
      subst hyi
      clear DT TT ST
      obtain ⟨va, vc, rfl⟩ := own_slice hD.out.own
      by_cases hlt : (ys.length : Int) < kk % 6
      · go_wp2_with fail
        refine (nextF_any P _ _ hSr.out).mono ?_
        rintro e w3 ⟨rfl, hv0, hv1, hs3, ha3⟩
        obtain ⟨qs, hqs⟩ : ∃ qs, qs = (limbsF ys.length rs.tail).2 := ⟨_, rfl⟩
        rw [← hqs] at hv0 hv1 hs3 ⊢
        have HQS : Hid (qs = (limbsF ys.length rs.tail).2) := hqs
        obtain ⟨vv, hvv⟩ : ∃ vv, vv = qs.headD 0 := ⟨_, rfl⟩
        rw [← hvv] at hv0 hv1 ⊢
        have HVV : Hid (vv = qs.headD 0) := hvv
        have hr3 := hs3.rd
        have S3 : Hid (Rs P qs.tail w3) := hs3
        clear hvv hqs hs3 hSr
        have oP : P < w1.heap.size := by have := hD.out.ordP; have := hD.out.ordR; have := hD.out.ordO; omega
        have D3 : Hid (DS w P w.heap.size w1.heap.size (w1.heap.size + 1 + 1) 33 false (.slice va ys.length vc) ys w3) := hD.out.aside ha3 hr3
        have T3 : Hid (RowAt .u32 w3 (some ⟨w1.heap.size + 1, 0, none⟩) oddT) := ha3.row hT.out (fun b off e _ => by have := congrArg Addr.block (Option.some.inj e); simp at this; omega)
        clear hr3 ha3 hD hT
        by_cases h160 : vv < 160
        · have HLF : Hid (limbF (limbsF ys.length rs.tail).2 = (oddT.getD (vv % 8).toNat 0, qs.tail)) := by
            unfold Hid limbF
            rw [← HQS.out, if_pos (by rw [← HVV.out]; omega), ← HVV.out]
          obtain ⟨y, gy, hy0, hy1, hyo⟩ := oddT_cellF T3.out (show (vv % 8).toNat < 8 by omega)
          have HYO : Hid (y = oddT.getD (vv % 8).toNat 0) := hyo
          clear hyo
          have hj0 : 0 ≤ vv % 8 := by omega
          have hj8 : vv % 8 < 8 := by omega
          have hj9 : 0 ≤ vv % 8 ∧ vv % 8 < 8 := ⟨hj0, hj8⟩
          have hjt : vv.tmod 8 = vv % 8 := Int.tmod_eq_emod_of_nonneg hv0
          have hjc : ¬ (vv % 8 < 0) := by omega
          have hjd : ¬ ((8 : Int) ≤ vv % 8) := by omega
          have zz3 : w1.heap.size < w3.heap.size := by have := D3.out.ordW; omega
          have zz4 : w1.heap.size + 1 < w3.heap.size := by have := D3.out.ordW; omega
          have s1 := D3.out.o1
          have s2 := D3.out.o2
          have hown := D3.out.own
          have hle := D3.out.ordW
          go_wp2
          go_region_law (refine app1s (w0 := w3.drew) rfl (.tmp 42) (.tmp 48) 25 rfl (w1.heap.size + 1 + 1) 33 Tryd.underlying25 Tryd.info33 (by decide) (.slice va ys.length vc) ys w3.heap.size rfl (by simp [Act.eval]) (by simp [Act.eval]) (own_drew hown) (by omega) hle ?_; intro a1 n1 c1 w4 hown1 hb1 hs1; have z3 := (hb1.frozen (p := ⟨w1.heap.size, 1, none⟩) (by simp; omega)).trans (s2 1); have z4 := (hb1.cell (p := ⟨w1.heap.size, 1, none⟩) (by simp; omega)).trans s1)
          all_goals
            have hb2 : Below (w1.heap.size + 1 + 1) w3 w4 := (Below.refl _ _).drew.trans hb1
            have HN : Hid (DS w P w.heap.size w1.heap.size (w1.heap.size + 1 + 1) 33 false (.slice a1 n1 c1) (ys ++ [y]) (w4.setCell ⟨w1.heap.size, 1, none⟩ (.slice a1 n1 c1))) := D3.out.grow hb2 hown1 (D3.out.u.snoc hy0 hy1)
            have HT : Hid (RowAt .u32 (w4.setCell ⟨w1.heap.size, 1, none⟩ (.slice a1 n1 c1)) (some ⟨w1.heap.size + 1, 0, none⟩) oddT) := oddT_stay T3.out hb2 (by omega) (by omega)
            have HSN : Hid (Rs P (limbsF (ys.length + 1) rs.tail).2 (w4.setCell ⟨w1.heap.size, 1, none⟩ (.slice a1 n1 c1))) := by
              unfold Hid
              rw [show (limbsF (ys.length + 1) rs.tail).2 = (limbF (limbsF ys.length rs.tail).2).2 from rfl, HLF.out]
              exact S3.out.above (B := w1.heap.size) ((show Below w1.heap.size w3 w4 from hb2.mono (by omega)).setCell (p := ⟨w1.heap.size, 1, none⟩) (Nat.le_refl _) _) oP1
            have HYN : Hid (ys ++ [y] = (limbsF (ys.length + 1) rs.tail).1) := by
              unfold Hid
              rw [show (limbsF (ys.length + 1) rs.tail).1 = (limbsF ys.length rs.tail).1 ++ [(limbF (limbsF ys.length rs.tail).2).1] from rfl, HLF.out, ← hyr.out, HYO.out]
            clear s1 s2 hown hle D3 T3 hb1 hb2
            go_wp2
            go_roundw
            case rel => exact ⟨ys.length + 1, _, ys ++ [y], by omega, by go_num, by simp, HYN, HSN, HN, HT⟩
            case measure => simp [intOf]; omega
        · go_wp2_with fail
          refine (nextF_any P _ _ S3.out).mono ?_
          rintro e w5 ⟨rfl, hw0, hw1, hs5, ha5⟩
          obtain ⟨vw, hvw⟩ : ∃ vw, vw = qs.tail.headD 0 := ⟨_, rfl⟩
          rw [← hvw] at hw0 hw1 ⊢
          have HLF : Hid (limbF (limbsF ys.length rs.tail).2 = (bits .xor .u32 (vv * 16843009) (vw * 66309), qs.tail.tail)) := by
            unfold Hid limbF
            rw [← HQS.out, if_neg (by rw [← HVV.out]; omega), ← HVV.out, hvw]
          have hr5 := hs5.rd
          have S5 : Hid (Rs P qs.tail.tail w5) := hs5
          clear hvw hs5
          have D5 : Hid (DS w P w.heap.size w1.heap.size (w1.heap.size + 1 + 1) 33 false (.slice va ys.length vc) ys w5) := D3.out.aside ha5 hr5
          have T5 : Hid (RowAt .u32 w5 (some ⟨w1.heap.size + 1, 0, none⟩) oddT) := ha5.row T3.out (fun b off e _ => by have := congrArg Addr.block (Option.some.inj e); simp at this; omega)
          have s1 := D5.out.o1
          have s2 := D5.out.o2
          have hown := D5.out.own
          have hle := D5.out.ordW
          clear D3 T3 hr5 ha5
          go_wp2_with (at_builtin; refine app1 rfl (.tmp 54) (.tmp 62) 25 rfl (w1.heap.size + 1 + 1) 33 Tryd.underlying25 Tryd.info33 (by decide) _ _ rfl rfl hown (by omega) hle ?_; intro a1 n1 c1 w4 hown1 hb1 hs1; have z3 := (hb1.frozen (p := ⟨w1.heap.size, 1, none⟩) (by simp; omega)).trans (s2 1); have z4 := (hb1.cell (p := ⟨w1.heap.size, 1, none⟩) (by simp; omega)).trans s1)
          have HN := D5.out.grow hb1 hown1 (D5.out.u.snoc (bits_range _ _ _).1 (bits_range _ _ _).2)
          have HT : Hid (RowAt .u32 (w4.setCell ⟨w1.heap.size, 1, none⟩ (.slice a1 n1 c1)) (some ⟨w1.heap.size + 1, 0, none⟩) oddT) := oddT_stay T5.out hb1 (by omega) (by omega)
          have HSN : Hid (Rs P (limbsF (ys.length + 1) rs.tail).2 (w4.setCell ⟨w1.heap.size, 1, none⟩ (.slice a1 n1 c1))) := by
            unfold Hid
            rw [show (limbsF (ys.length + 1) rs.tail).2 = (limbF (limbsF ys.length rs.tail).2).2 from rfl, HLF.out]
            exact S5.out.above (B := w1.heap.size) ((show Below w1.heap.size w5 w4 from hb1.mono (by omega)).setCell (p := ⟨w1.heap.size, 1, none⟩) (Nat.le_refl _) _) oP1
          have HYN : Hid (ys ++ [bits .xor .u32 (vv * 16843009) (vw * 66309)] = (limbsF (ys.length + 1) rs.tail).1) := by
            unfold Hid
            rw [show (limbsF (ys.length + 1) rs.tail).1 = (limbsF ys.length rs.tail).1 ++ [(limbF (limbsF ys.length rs.tail).2).1] from rfl, HLF.out, ← hyr.out]
          go_roundw
          case rel => exact ⟨ys.length + 1, _, _, by omega, by go_num, by simp, HYN, HSN, HN, HT⟩
          case measure => simp [intOf]; omega
      · have hin : ys.length = (kk % 6).toNat := by omega
        have HY0 : Hid (ys = (drawL rs).1) := by unfold Hid; rw [HDL.out, ← hin]; exact hyr.out
        have HS0 : Hid (Rs P (drawL rs).2 wr) := by unfold Hid; rw [HDL.out, ← hin]; exact hSr.out
        clear hT hyr hSr hin
        go_wp2
        go_loopw [] (fun wq => ∃ (va : Option Addr) (vc : Nat) (ys : List Int), ys.length ≤ 512 ∧ Hid (trimL ys = drawZ rs) ∧ Hid (Rs P (drawL rs).2 wq) ∧ Hid (DS w P w.heap.size w1.heap.size (w1.heap.size + 1 + 1) 33 false (.slice va ys.length vc) ys wq)) (fun wq => boxLen w1.heap.size wq)
        case atStart => exact ⟨va, vc, ys, by omega, by unfold Hid drawZ; rw [← HY0.out], HS0, hD⟩
        case round =>
          clear hD
          obtain ⟨va, vc, ys, hy5, hTz, hSq, hD⟩ := hrel
          clear HY0 HS0
          have s0 := hD.out.o0
          have s1 := hD.out.o1
          have s2 := hD.out.o2
          have HFIN : Hid (∀ G' wx, DS w P w.heap.size w1.heap.size (w1.heap.size + 1 + 1) 33 G' (.slice va ys.length vc) ys wx → Rs P (drawL rs).2 wx → ys = drawZ rs → G' = drawG rs → DrawF P rs w (.returned (.agg #[.bool G', .slice va ys.length vc])) ((wx.setCell ⟨w.heap.size, 0, none⟩ (.bool G')).setCell ⟨w.heap.size, 1, none⟩ (.slice va ys.length vc))) := fun G' wx hx h1 h2 h3 => hx.outF hy5 h1 h2 h3
          have HSS : Hid (∀ G', Rs P (drawL rs).2 (wr.setCell ⟨w1.heap.size, 0, none⟩ (.bool G'))) := fun G' => hSq.out.above ((Below.refl _ _).setCell (p := ⟨w1.heap.size, 0, none⟩) (Nat.le_refl _) _) oP1
          have oo1 : w.heap.size < w1.heap.size := hD.out.ordO
          have r1 := hD.out.r1
          have r2 := hD.out.r2
          have r3 := hD.out.r3
          by_cases hz : ys.length = 0
          · have hye : ys = [] := List.length_eq_zero_iff.1 hz
            subst hye
            have HE : Hid (DrawF P rs w (.returned (.agg #[.bool false, .slice va ([] : List Int).length vc])) (((wr.setCell ⟨w1.heap.size, 0, none⟩ (.bool false)).setCell ⟨w.heap.size, 0, none⟩ (.bool false)).setCell ⟨w.heap.size, 1, none⟩ (.slice va ([] : List Int).length vc))) := HFIN.out _ _ (hD.out.sign false) (HSS.out false) (by rw [← hTz.out]; rfl) (by unfold drawG; rw [← hTz.out]; rfl)
            clear HFIN HSS hTz hSq hD
            go_wp2
            refine bodyPost_ret (v := .agg #[.bool false, .slice va 0 vc]) (by simp [results, Tryd.results104, go_sem, r1, r2]) rfl ?_
            exact HE.out
          · obtain ⟨m, hm⟩ : ∃ m, ys.length = m + 1 := ⟨ys.length - 1, by omega⟩
            obtain ⟨_, _, _, hcm, hsl, hrn⟩ := own_row hD.out.own
            have hrow : RowAt .u32 wr va ys := by
              obtain ⟨a2, c2, e2, _, hs2, _⟩ := own_row hD.out.own
              injection e2 with e3 e4 e5
              subst e3
              exact hs2.row
            obtain ⟨b, off, rfl, g1⟩ := row_cell hrow (Below.refl _ _) (show m < ys.length by omega)
            obtain ⟨y, hy⟩ : ∃ y, y = ys.getD m 0 := ⟨_, rfl⟩
            rw [← hy] at g1
            have hcap : ys.length ≤ vc := by
              obtain ⟨a2, c2, e2, _, hs2, _⟩ := own_row hD.out.own
              injection e2 with e3 e4 e5
              subst e5
              exact hs2.fits
            have hcm2 : vc ≤ maxLen := by
              obtain ⟨a2, c2, e2, h2, _, _⟩ := own_row hD.out.own
              injection e2 with e3 e4 e5
              subst e5
              exact h2
            unfold maxLen at hcm2
            by_cases hy0 : y = 0
            · have HS : Hid (DS w P w.heap.size w1.heap.size (w1.heap.size + 1 + 1) 33 false (.slice (some ⟨b, off, none⟩) m vc) (ys.take m) (wr.setCell ⟨w1.heap.size, 1, none⟩ (.slice (some ⟨b, off, none⟩) m vc))) := hD.out.short hm
              have HL : Hid (boxLen w1.heap.size wr = m + 1) := by unfold Hid; rw [boxLen_of s1, hm]
              have HT : Hid ((ys.take m).length = m) := by unfold Hid; rw [List.length_take]; omega
              have hml : (ys.length : Int) - 1 = m := by omega
              have hyl : (0 : Int) < ys.length := by omega
              have HTZ : Hid (trimL (ys.take m) = drawZ rs) := by unfold Hid; rw [← hTz.out, trim_zero hm (by rw [← hy]; exact hy0)]
              have HSZ : Hid (Rs P (drawL rs).2 (wr.setCell ⟨w1.heap.size, 1, none⟩ (.slice (some ⟨b, off, none⟩) m vc))) := hSq.out.above ((Below.refl _ _).setCell (p := ⟨w1.heap.size, 1, none⟩) (Nat.le_refl _) _) oP1
              subst hy0
              clear HFIN HSS hTz hSq hD hrow hsl hrn hy r1 r2 r3 s0
              go_wp2
              go_roundw
              case rel => exact ⟨some ⟨b, off, none⟩, vc, ys.take m, by rw [HT.out]; omega, HTZ, HSZ, by rw [HT.out]; exact HS⟩
              case measure => rw [HL.out, boxLen_of (World.cell?_setCell_same _ _ _ s1)]; omega
            · have HE : Hid (DrawF P rs w (.returned (.agg #[.bool (kk / 6 % 2 == 1), .slice (some ⟨b, off, none⟩) ys.length vc])) (((wr.setCell ⟨w1.heap.size, 0, none⟩ (.bool (kk / 6 % 2 == 1))).setCell ⟨w.heap.size, 0, none⟩ (.bool (kk / 6 % 2 == 1))).setCell ⟨w.heap.size, 1, none⟩ (.slice (some ⟨b, off, none⟩) ys.length vc))) := HFIN.out _ _ (hD.out.sign _) (HSS.out _) (by rw [← hTz.out, trim_stop hm (by rw [← hy]; exact hy0)]) (by unfold drawG; rw [← hTz.out, trim_stop hm (by rw [← hy]; exact hy0), decide_eq_true (show ys ≠ [] from fun e => by rw [e] at hm; simp at hm), ← HKK.out]; rfl)
              have hml : (ys.length : Int) - 1 = m := by omega
              have hyl : (0 : Int) < ys.length := by omega
              have hy1 : (y == 0) = false := by rw [beq_eq_false_iff_ne]; exact hy0
              clear HFIN HSS hTz hSq hD hrow hsl hrn hy hm
              go_wp2
              refine bodyPost_ret (v := .agg #[.bool (kk / 6 % 2 == 1), .slice (some ⟨b, off, none⟩) ys.length vc]) (by simp [results, Tryd.results104, go_sem, r1, r2]) rfl ?_
              exact HE.out

end Go.Proofs.YtladfpljnaippabDoor

/-
  Appending one number to a slice of the call's own, with what stays beside it.
-/
namespace Go.Proofs.YtladfpljnaippabDoor
open Go.RowKit

/-- 'append(s, x)' of one number: every block but the slice's own stays, and the slice's block is the old one or a new one. -/
theorem app2 {k : IntKind} {X : Int} {bytes : Nat} {w0 : World} {ops : Array Oper} {rest : List Oper} {o : Oper} {a : Act} {Q : Exit → Act → World → Prop} (hgd : o.guard = none) (s x : Operand) (t : TypeId)
    (ho : o.op = .call { callee := .builtin .append, args := #[s, x], argTypes := #[t, t] })
    (base : Nat) (e : TypeId) (ht : Tryd.prog.underlying t = some (.slice e)) (hinfo : (Tryd.prog.info? e).map (fun i => (i.zero, i.size, i.bytes)) = some (some (.int k 0), 1, bytes)) (hby : bytes ≤ 8)
    (sv : Value) (ys : List Int) (hs : a.eval s = sv) (hx : a.eval x = .slice (some ⟨w0.heap.size, 0, none⟩) 1 1) (hown : w0.ownsRow base e 1 sv ys.length (vals k ys)) (hn : ys.length ≤ 8388608) (hbase : base ≤ w0.heap.size)
    (h : ∀ a' n' c' w', w'.ownsRow base e 1 (.slice a' n' c') (ys ++ [X]).length (vals k (ys ++ [X])) → Below base w0 w' → w0.heap.size < w'.heap.size → (∀ j, j < w0.heap.size → sv.ownBlock ≠ some j → w'.heap[j]? = w0.heap[j]?) → ((Value.slice a' n' c').ownBlock = sv.ownBlock ∨ ∃ j, (Value.slice a' n' c').ownBlock = some j ∧ w0.heap.size ≤ j) → wpList Tryd.prog ops Q rest (a.put o.dst (.slice a' n' c')) w') :
    wpList Tryd.prog ops Q (o :: rest) a (w0.alloc (.cells #[.int k X] e)) := by
  obtain ⟨i0, hi, hz0, hz1, hz2⟩ := info_parts hinfo
  have hb1 : (ys.length + 1) * bytes ≤ (ys.length + 1) * 8 := Nat.mul_le_mul_left _ hby
  refine wpList_append_own_at _ hgd s x t ho base e i0 (.int k 0) 1 bytes ht hi hz0 hz1 hz2 rfl (by decide) sv ys.length (vals k ys) hs (hown.alloc _) ⟨w0.heap.size, 0, none⟩ 1 1 [.int k X] hx rfl ?_ ?_ ?_ ?_ ?_ ?_
  · intro j u hj
    match j, hj with
    | 0, hj => simp at hj; subst hj; simp [Addr.add]
  · intro u hu; simp at hu; subst hu; rfl
  · unfold maxLen; omega
  · omega
  · simp; omega
  · intro v' w' hown' hgrow _ hwhere
    obtain ⟨a', n', c', rfl⟩ : ∃ a' n' c', v' = .slice a' n' c' := by
      rcases hown'.2 with ⟨h1, _⟩ | ⟨g, cap, cur, h1, _⟩
      · exact ⟨_, _, _, h1⟩
      · exact ⟨_, _, _, h1⟩
    have hB : Below base w0 w' := by
      have hb0 : Below base w0 (w0.alloc (.cells #[.int k X] e)) := (Below.refl _ _).alloc hbase _
      refine hb0.grown hgrow (by simp; omega) ?_
      intro kk hk
      rcases hown.2 with ⟨h1, _⟩ | ⟨g, cap, cur, h1, h2, _⟩
      · rw [h1] at hk; simp [Value.ownBlock] at hk
      · rw [h1] at hk; simp [Value.ownBlock] at hk; omega
    have hS : w0.heap.size < w'.heap.size := by
      have := hgrow.size
      simp at this
      omega
    refine h a' n' c' w' ?_ hB hS ?_ ?_
    · rw [vals_snoc] at hown'
      simpa using hown'
    · intro j hj hne
      rw [hgrow.block j (by simp; omega) (fun e => hne e.symm)]
      exact (bel0 w0 (.cells #[.int k X] e)).block j hj
    · rcases hwhere with hw | hw
      · exact .inl hw
      · exact .inr ⟨_, hw, by simp⟩

end Go.Proofs.YtladfpljnaippabDoor

/-
  The model's spoilt Bigs, and any drawn one.
-/
namespace Go.Proofs.YtladfpljnaippabDoor
open Go.RowKit

/-- The number's box (O), the answer's (R); the limbs in memory of their own from w on, in neither box; the reader in block P; of w nothing else has turned. -/
structure SP (w : World) (P R O : Nat) (e : TypeId) (G : Bool) (v : Value) (ys : List Int) (W : World) : Prop where
  r1 : W.cell? ⟨R, 0, none⟩ = some (.bool false)
  r2 : W.cell? ⟨R, 1, none⟩ = some (.slice none 0 0)
  r3 : ∀ j, W.frozen? ⟨R, j, none⟩ = false
  o0 : W.cell? ⟨O, 0, none⟩ = some (.bool G)
  o1 : W.cell? ⟨O, 1, none⟩ = some v
  o2 : ∀ j, W.frozen? ⟨O, j, none⟩ = false
  own : W.ownsRow w.heap.size e 1 v ys.length (vals .u32 ys)
  u : U32 ys
  rd : Rd P W
  asd : Aside P w W
  offR : v.ownBlock ≠ some R
  offO : v.ownBlock ≠ some O
  ord : w.heap.size ≤ R ∧ w.heap.size ≤ O ∧ R ≠ O ∧ R < W.heap.size ∧ O < W.heap.size ∧ P < w.heap.size

section
variable {w : World} {P R O : Nat} {e : TypeId} {G : Bool} {v : Value} {ys : List Int} {W W' : World}

theorem SP.aside (h : SP w P R O e G v ys W) (ha : Aside P W W') (hr : Rd P W') : SP w P R O e G v ys W' := by
  obtain ⟨o1, o2, o3, o4, o5, o6⟩ := h.ord
  have hs := ha.size
  exact ⟨(ha.cell (by simp; omega) (by simp; omega)).trans h.r1, (ha.cell (by simp; omega) (by simp; omega)).trans h.r2, fun j => (ha.frozen (by simp; omega) (by simp; omega)).trans (h.r3 j), (ha.cell (by simp; omega) (by simp; omega)).trans h.o0, (ha.cell (by simp; omega) (by simp; omega)).trans h.o1, fun j => (ha.frozen (by simp; omega) (by simp; omega)).trans (h.o2 j),
    ha.own h.own (by omega), h.u, hr, h.asd.trans ha, h.offR, h.offO, o1, o2, o3, by omega, by omega, o6⟩

/-- Another row of the call's own is laid into the box. -/
theorem SP.put {v' : Value} {ys' : List Int} (h : SP w P R O e G v ys W) (hown : W.ownsRow w.heap.size e 1 v' ys'.length (vals .u32 ys')) (hu : U32 ys') (hR : v'.ownBlock ≠ some R) (hO : v'.ownBlock ≠ some O) : SP w P R O e G v' ys' (W.setCell ⟨O, 1, none⟩ v') := by
  obtain ⟨o1, o2, o3, o4, o5, o6⟩ := h.ord
  have hw : Within O (O + 1) W (W.setCell ⟨O, 1, none⟩ v') := (Within.refl O (O + 1) W).setCell (p := ⟨O, 1, none⟩) (Nat.le_refl _) (Nat.lt_succ_self _) v'
  refine ⟨?_, ?_, ?_, ?_, ?_, ?_, ?_, hu, ?_, ?_, hR, hO, o1, o2, o3, by simpa using o4, by simpa using o5, o6⟩
  · rw [hw.cell (by simp; omega)]; exact h.r1
  · rw [hw.cell (by simp; omega)]; exact h.r2
  · intro j; rw [World.frozen?_setCell]; exact h.r3 j
  · rw [World.cell?_setCell_other _ _ _ _ (by simp)]; exact h.o0
  · exact World.cell?_setCell_same _ _ _ h.o1
  · intro j; rw [World.frozen?_setCell]; exact h.o2 j
  · refine ⟨hown.1, ?_⟩
    rcases hown.2 with g1 | ⟨g, cap, cur, g1, g2, g3, g4⟩
    · exact .inl g1
    · refine .inr ⟨g, cap, cur, g1, g2, ?_, g4⟩
      have : g ≠ O := fun e => hO (by rw [g1, e]; rfl)
      rw [hw.block g (by omega)]
      exact g3
  · exact h.rd.above (B := P + 1) ((Below.refl _ _).setCell (by simp; omega) _) (by omega)
  · exact h.asd.setHigh (by simp; omega) _

/-- What an append leaves. -/
theorem SP.grown {v' : Value} {ys' : List Int} (h : SP w P R O e G v ys W) (hb : Below w.heap.size W W') (hs : W.heap.size < W'.heap.size) (hk : ∀ j, j < W.heap.size → v.ownBlock ≠ some j → W'.heap[j]? = W.heap[j]?) (hv : v'.ownBlock = v.ownBlock ∨ ∃ j, v'.ownBlock = some j ∧ W.heap.size ≤ j)
    (hown : W'.ownsRow w.heap.size e 1 v' ys'.length (vals .u32 ys')) (hu : U32 ys') : SP w P R O e G v' ys' (W'.setCell ⟨O, 1, none⟩ v') := by
  obtain ⟨o1, o2, o3, o4, o5, o6⟩ := h.ord
  have eR : W'.heap[R]? = W.heap[R]? := hk R o4 h.offR
  have eO : W'.heap[O]? = W.heap[O]? := hk O o5 h.offO
  have cR : ∀ j, W'.cell? ⟨R, j, none⟩ = W.cell? ⟨R, j, none⟩ := fun j => World.cell?_of_block (w := W) (a := ⟨R, j, none⟩) eR
  have cO : ∀ j, W'.cell? ⟨O, j, none⟩ = W.cell? ⟨O, j, none⟩ := fun j => World.cell?_of_block (w := W) (a := ⟨O, j, none⟩) eO
  have fR : ∀ j, W'.frozen? ⟨R, j, none⟩ = W.frozen? ⟨R, j, none⟩ := fun j => World.frozen?_of_block (w := W) (a := ⟨R, j, none⟩) eR
  have fO : ∀ j, W'.frozen? ⟨O, j, none⟩ = W.frozen? ⟨O, j, none⟩ := fun j => World.frozen?_of_block (w := W) (a := ⟨O, j, none⟩) eO
  have hR : v'.ownBlock ≠ some R := by
    rcases hv with hv | ⟨j, hv, hj⟩
    · rw [hv]; exact h.offR
    · rw [hv]; intro e; have := Option.some.inj e; omega
  have hO : v'.ownBlock ≠ some O := by
    rcases hv with hv | ⟨j, hv, hj⟩
    · rw [hv]; exact h.offO
    · rw [hv]; intro e; have := Option.some.inj e; omega
  have hw : Within O (O + 1) W' (W'.setCell ⟨O, 1, none⟩ v') := (Within.refl O (O + 1) W').setCell (p := ⟨O, 1, none⟩) (Nat.le_refl _) (Nat.lt_succ_self _) v'
  refine ⟨?_, ?_, ?_, ?_, ?_, ?_, ?_, hu, ?_, ?_, hR, hO, o1, o2, o3, by simp; omega, by simp; omega, o6⟩
  · rw [hw.cell (by simp; omega), cR]; exact h.r1
  · rw [hw.cell (by simp; omega), cR]; exact h.r2
  · intro j; rw [World.frozen?_setCell, fR]; exact h.r3 j
  · rw [World.cell?_setCell_other _ _ _ _ (by simp), cO]; exact h.o0
  · exact World.cell?_setCell_same _ _ _ ((cO 1).trans h.o1)
  · intro j; rw [World.frozen?_setCell, fO]; exact h.o2 j
  · refine ⟨hown.1, ?_⟩
    rcases hown.2 with g1 | ⟨g, cap, cur, g1, g2, g3, g4⟩
    · exact .inl g1
    · refine .inr ⟨g, cap, cur, g1, g2, ?_, g4⟩
      have : g ≠ O := fun e => hO (by rw [g1, e]; rfl)
      rw [hw.block g (by omega)]
      exact g3
  · exact (h.rd.above hb o6).above (B := P + 1) ((Below.refl _ _).setCell (by simp; omega) _) (by omega)
  · exact (h.asd.high hb (Nat.le_refl _)).setHigh (by simp; omega) _

/-- The boxes behind an append. -/
theorem SP.keep (h : SP w P R O e G v ys W) (hk : ∀ j, j < W.heap.size → v.ownBlock ≠ some j → W'.heap[j]? = W.heap[j]?) :
    W'.cell? ⟨O, 0, none⟩ = some (.bool G) ∧ W'.cell? ⟨O, 1, none⟩ = some v ∧ (∀ j, W'.frozen? ⟨O, j, none⟩ = false) ∧ W'.cell? ⟨R, 0, none⟩ = some (.bool false) ∧ W'.cell? ⟨R, 1, none⟩ = some (.slice none 0 0) ∧ (∀ j, W'.frozen? ⟨R, j, none⟩ = false) := by
  obtain ⟨o1, o2, o3, o4, o5, o6⟩ := h.ord
  have eR : W'.heap[R]? = W.heap[R]? := hk R o4 h.offR
  have eO : W'.heap[O]? = W.heap[O]? := hk O o5 h.offO
  exact ⟨(World.cell?_of_block (w := W) (a := ⟨O, 0, none⟩) eO).trans h.o0, (World.cell?_of_block (w := W) (a := ⟨O, 1, none⟩) eO).trans h.o1, fun j => (World.frozen?_of_block (w := W) (a := ⟨O, j, none⟩) eO).trans (h.o2 j),
    (World.cell?_of_block (w := W) (a := ⟨R, 0, none⟩) eR).trans h.r1, (World.cell?_of_block (w := W) (a := ⟨R, 1, none⟩) eR).trans h.r2, fun j => (World.frozen?_of_block (w := W) (a := ⟨R, j, none⟩) eR).trans (h.r3 j)⟩

theorem SP.sign (h : SP w P R O e G v ys W) (G' : Bool) : SP w P R O e G' v ys (W.setCell ⟨O, 0, none⟩ (.bool G')) := by
  obtain ⟨o1, o2, o3, o4, o5, o6⟩ := h.ord
  have hw : Within O (O + 1) W (W.setCell ⟨O, 0, none⟩ (.bool G')) := (Within.refl O (O + 1) W).setCell (p := ⟨O, 0, none⟩) (Nat.le_refl _) (Nat.lt_succ_self _) _
  refine ⟨?_, ?_, ?_, ?_, ?_, ?_, ?_, h.u, ?_, ?_, h.offR, h.offO, o1, o2, o3, by simpa using o4, by simpa using o5, o6⟩
  · rw [hw.cell (by simp; omega)]; exact h.r1
  · rw [hw.cell (by simp; omega)]; exact h.r2
  · intro j; rw [World.frozen?_setCell]; exact h.r3 j
  · exact World.cell?_setCell_same _ _ _ h.o0
  · rw [World.cell?_setCell_other _ _ _ _ (by simp)]; exact h.o1
  · intro j; rw [World.frozen?_setCell]; exact h.o2 j
  · refine ⟨h.own.1, ?_⟩
    rcases h.own.2 with g1 | ⟨g, cap, cur, g1, g2, g3, g4⟩
    · exact .inl g1
    · refine .inr ⟨g, cap, cur, g1, g2, ?_, g4⟩
      have : g ≠ O := fun e => h.offO (by rw [g1, e]; rfl)
      rw [hw.block g (by omega)]
      exact g3
  · exact h.rd.above (B := P + 1) ((Below.refl _ _).setCell (by simp; omega) _) (by omega)
  · exact h.asd.setHigh (by simp; omega) _

/-- The end: the number's box is read into the answer's. -/
theorem SP.out {a : Option Addr} {c n : Nat} (h : SP w P R O e G (.slice a ys.length c) ys W) (hn : ys.length ≤ n) : DrawOut P e w n (.returned (.agg #[.bool G, .slice a ys.length c])) ((W.setCell ⟨R, 0, none⟩ (.bool G)).setCell ⟨R, 1, none⟩ (.slice a ys.length c)) := by
  obtain ⟨o1, o2, o3, o4, o5, o6⟩ := h.ord
  have hw : Within R (R + 1) W ((W.setCell ⟨R, 0, none⟩ (.bool G)).setCell ⟨R, 1, none⟩ (.slice a ys.length c)) := ((Within.refl R (R + 1) W).setCell (p := ⟨R, 0, none⟩) (Nat.le_refl _) (Nat.lt_succ_self _) _).setCell (p := ⟨R, 1, none⟩) (Nat.le_refl _) (Nat.lt_succ_self _) _
  refine ⟨G, a, c, ys, rfl, hn, h.u, ?_, ?_, (h.asd.setHigh (by simp; omega) _).setHigh (by simp; omega) _⟩
  · refine ⟨h.own.1, ?_⟩
    rcases h.own.2 with g1 | ⟨g, cap, cur, g1, g2, g3, g4⟩
    · exact .inl g1
    · refine .inr ⟨g, cap, cur, g1, g2, ?_, g4⟩
      have : g ≠ R := fun e => h.offR (by rw [g1, e]; rfl)
      rw [hw.block g (by omega)]
      exact g3
  · exact h.rd.above (B := P + 1) (((Below.refl _ _).setCell (by simp; omega) _).setCell (by simp; omega) _) (by omega)

end

theorem own_len {X : World} {base : Nat} {e : TypeId} {a : Option Addr} {n c : Nat} {ys : List Int} (h : X.ownsRow base e 1 (.slice a n c) ys.length (vals .u32 ys)) : n = ys.length ∧ n ≤ maxLen := by
  rcases h.2 with ⟨h1, h2⟩ | ⟨g, cap, cur, h1, h2, h3, h4, h5, _⟩
  · injection h1 with e1 e2 e3
    exact ⟨by omega, by rw [e2]; exact Nat.zero_le _⟩
  · injection h1 with e1 e2 e3
    exact ⟨e2, by omega⟩

theorem u32_zero : U32 [0] := by
  intro z hz
  have : z = 0 := by simpa using hz
  subst this
  decide

/-- A slice of one number, written out. -/
theorem own_lit (W : World) (e : TypeId) (y : Int) {base : Nat} (hb : base ≤ W.heap.size) : (W.alloc (.cells #[.int .u32 y] e)).ownsRow base e 1 (.slice (some ⟨W.heap.size, 0, none⟩) ([y] : List Int).length 1) ([y] : List Int).length (vals .u32 [y]) := by
  refine ⟨by simp [vals], .inr ⟨W.heap.size, 1, #[.int .u32 y], rfl, hb, by (first | exact heap_alloc_new _ _ | exact Go.heap_alloc_new _ _), by simp, by unfold maxLen; omega, by simp, by simp [vals]⟩⟩

theorem SP.start {w00 w : World} {P : Nat} {e t t' : TypeId} {G : Bool} {a : Option Addr} {c : Nat} {zs : List Int} (hp : P < w00.heap.size) (hr : Rd P w) (ha : Aside P w00 w) (hown : w.ownsRow w00.heap.size e 1 (.slice a zs.length c) zs.length (vals .u32 zs)) (hu : U32 zs) :
    SP w00 P (w.heap.size + 1) w.heap.size e G (.slice a zs.length c) zs ((w.alloc (.cells #[.bool G, .slice a zs.length c] t)).alloc (.cells #[.bool false, .slice none 0 0] t')) := by
  have hs := ha.size
  have b2 : Below w.heap.size w ((w.alloc (.cells #[.bool G, .slice a zs.length c] t)).alloc (.cells #[.bool false, .slice none 0 0] t')) := bel2 _ _ _
  have hblk : ∀ j, (Value.slice a zs.length c).ownBlock = some j → j < w.heap.size := by
    intro j hj
    rcases hown.2 with ⟨g1, _⟩ | ⟨g, cap, cur, g1, g2, g3, _⟩
    · rw [g1] at hj; simp [Value.ownBlock] at hj
    · rw [g1] at hj
      have : g = j := by simpa [Value.ownBlock] using hj
      subst this
      by_cases hp : g < w.heap.size
      · exact hp
      · rw [Array.getElem?_eq_none (by omega)] at g3; cases g3
  refine ⟨by simp [go_sem], by simp [go_sem], by intro j; simp [go_sem], by simp [go_sem], by simp [go_sem], by intro j; simp [go_sem], (Aside.of (P := P) b2).own hown hp, hu, hr.later b2, ha.trans (Aside.of b2), ?_, ?_, by omega, hs, by omega, by simp, by simp; omega, hp⟩
  · intro e; have := hblk _ e; omega
  · intro e; have := hblk _ e; omega

set_option maxRecDepth 100000 in
set_option maxHeartbeats 8000000 in
theorem spoil_any (P : Nat) (w00 w : World) (G : Bool) (a : Option Addr) (c : Nat) (zs : List Int) (hp : P < w00.heap.size) (hr : Rd P w) (ha : Aside P w00 w) (hown : w.ownsRow w00.heap.size 33 1 (.slice a zs.length c) zs.length (vals .u32 zs)) (hu : U32 zs) (hn : zs.length ≤ 512) :
    Calls Tryd.prog 105 #[.agg #[.bool G, .slice a zs.length c], .pointer (some ⟨P, 0, none⟩)] w fun e w' => DrawOut P 33 w00 513 e w' := by
  have D0 : Hid (∀ t t', SP w00 P (w.heap.size + 1) w.heap.size 33 G (.slice a zs.length c) zs ((w.alloc (.cells #[.bool G, .slice a zs.length c] t)).alloc (.cells #[.bool false, .slice none 0 0] t'))) := fun t t' => SP.start hp hr ha hown hu
  clear hr ha hown hu
  go_enter Tryd.func105, Tryd.ntmps105
  go_wp2_with fail
  refine (next_any P _ (D0.out _ _).rd).mono ?_
  rintro e w1 ⟨kk, rfl, hk0, hk1, hr1, ha1⟩
  have D1 : Hid (SP w00 P (w.heap.size + 1) w.heap.size 33 G (.slice a zs.length c) zs w1) := (D0.out _ _).aside ha1 hr1
  have oR : w.heap.size + 1 < w1.heap.size := D1.out.ord.2.2.2.1
  have oB : w00.heap.size ≤ w1.heap.size := D1.out.asd.size
  have hq0 : 0 ≤ kk % 4 := by omega
  clear hr1 ha1 D0
  have s0 := D1.out.o0
  have s1 := D1.out.o1
  have s2 := D1.out.o2
  have r1 := D1.out.r1
  have r2 := D1.out.r2
  have r3 := D1.out.r3
  have hown := D1.out.own
  rcases (show kk % 4 = 0 ∨ kk % 4 = 1 ∨ kk % 4 = 2 ∨ kk % 4 = 3 by omega) with hc | hc | hc | hc
  · go_wp2_with (at_builtin; refine app2 rfl (.tmp 12) (.tmp 13) 25 rfl w00.heap.size 33 Tryd.underlying25 Tryd.info33 (by decide) _ _ rfl rfl hown (by omega) oB ?_; intro a1 n1 c1 w4 hown1 hb1 hs1 hk hv; obtain ⟨z0, z1, z2, y1, y2, y3⟩ := D1.out.keep hk)
    have D4 := D1.out.grown hb1 hs1 hk hv hown1 (D1.out.u.snoc (by decide) (by decide))
    obtain ⟨e1, e2⟩ := own_len hown1
    subst e1
    refine bodyPost_ret (v := .agg #[.bool G, .slice a1 (zs ++ [0]).length c1]) (by simp [results, Tryd.results105, go_sem, y1, y2]) rfl ?_
    exact D4.out (by simp; omega)
  · have DX := ((D1.out.put (v' := .slice none ([] : List Int).length 0) (ys' := []) (own_nil _ _ _ _) (fun z hz => by cases hz) (by simp [Value.ownBlock]) (by simp [Value.ownBlock])).sign true).out (n := 513) (by simp)
    have HX : Hid (DrawOut P 33 w00 513 (.returned (.agg #[.bool true, .slice none 0 0])) ((((w1.setCell ⟨w.heap.size, 1, none⟩ (.slice none 0 0)).setCell ⟨w.heap.size, 0, none⟩ (.bool true)).setCell ⟨w.heap.size + 1, 0, none⟩ (.bool true)).setCell ⟨w.heap.size + 1, 1, none⟩ (.slice none 0 0))) := DX
    clear DX hown
    go_wp2
    refine bodyPost_ret (v := .agg #[.bool true, .slice none 0 0]) (by simp [results, Tryd.results105, go_sem, r1, r2]) rfl ?_
    exact HX.out
  · go_wp2
    clear hc
    go_loopw [] (fun wr => ∃ (va : Option Addr) (vc : Nat) (ys : List Int), ys.length ≤ 513 ∧ Hid (SP w00 P (w.heap.size + 1) w.heap.size 33 G (.slice va ys.length vc) ys wr)) (fun wr => 513 - boxLen w.heap.size wr)
    case atStart => exact ⟨a, c, zs, by omega, D1⟩
    case round =>
      clear D1 s0 s1 s2 r1 r2 r3 hown oR oB
      obtain ⟨va, vc, ys, hy5, hD⟩ := hrel
      have s0 := hD.out.o0
      have s1 := hD.out.o1
      have s2 := hD.out.o2
      have r1 := hD.out.r1
      have r2 := hD.out.r2
      have r3 := hD.out.r3
      have hown := hD.out.own
      have oB : w00.heap.size ≤ wr.heap.size := hD.out.asd.size
      by_cases hlt : (ys.length : Int) < 513
      · go_wp2_with (at_builtin; refine app2 rfl (.tmp 27) (.tmp 28) 25 rfl w00.heap.size 33 Tryd.underlying25 Tryd.info33 (by decide) _ _ rfl rfl hown (by omega) oB ?_; intro a1 n1 c1 w4 hown1 hb1 hs1 hk hv; obtain ⟨z0, z1, z2, y1, y2, y3⟩ := hD.out.keep hk)
        obtain ⟨e1, e2⟩ := own_len hown1
        subst e1
        have D4 := hD.out.grown hb1 hs1 hk hv hown1 (hD.out.u.snoc (by decide) (by decide))
        have L1 : boxLen w.heap.size wr = ys.length := boxLen_of s1
        have L2 := boxLen_of D4.o1
        go_roundw
        case rel => exact ⟨a1, c1, ys ++ [5], by simp; omega, D4⟩
        case measure => rw [L1, L2]; simp; omega
      · have HX : Hid (DrawOut P 33 w00 513 (.returned (.agg #[.bool G, .slice va ys.length vc])) ((wr.setCell ⟨w.heap.size + 1, 0, none⟩ (.bool G)).setCell ⟨w.heap.size + 1, 1, none⟩ (.slice va ys.length vc))) := hD.out.out (by omega)
        clear hD hown
        go_wp2
        refine bodyPost_ret (v := .agg #[.bool G, .slice va ys.length vc]) (by simp [results, Tryd.results105, go_sem, r1, r2]) rfl ?_
        exact HX.out
  · have DL := D1.out.aside (W' := w1.alloc (.cells #[.int .u32 0] 33)) (Aside.of (bel0 _ _)) (D1.out.rd.later (bel0 _ _))
    have DX := (DL.put (own_lit w1 33 0 oB) u32_zero (by intro e; simp [Value.ownBlock] at e; omega) (by intro e; simp [Value.ownBlock] at e; omega)).out (n := 513) (by simp)
    have oO : w.heap.size < w1.heap.size := by omega
    have HX : Hid (DrawOut P 33 w00 513 (.returned (.agg #[.bool G, .slice (some ⟨w1.heap.size, 0, none⟩) 1 1])) ((((w1.setCell ⟨w.heap.size, 1, none⟩ (.slice (some ⟨w1.heap.size, 0, none⟩) 1 1)).setCell ⟨w.heap.size + 1, 0, none⟩ (.bool G)).setCell ⟨w.heap.size + 1, 1, none⟩ (.slice (some ⟨w1.heap.size, 0, none⟩) 1 1)).alloc (.cells #[.int .u32 0] 33))) := by
      unfold Hid
      simpa [go_sem, oO, oR] using DX
    clear DX DL hown
    go_wp2
    refine bodyPost_ret (v := .agg #[.bool G, .slice (some ⟨w1.heap.size, 0, none⟩) 1 1]) (by simp [results, Tryd.results105, go_sem, r1, r2, oR]) rfl ?_
    exact HX.out

end Go.Proofs.YtladfpljnaippabDoor
