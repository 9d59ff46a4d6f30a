/-
  DrawDyFloat as a function of the bytes.
-/
import Derived.Test.YtladfpljnaippabDoorDrawHDrawIDySAddSpecSF
import Derived.Test.YtladfpljnaippabDoorNumWToNumFlF
namespace Go.Proofs.YtladfpljnaippabDoor
open Go.RowKit

def oddF : List Int := [1, 2, 3, 5, 7, 8, 9, 15, 16, 17]
def finF (b : Int) : Int := if fFin b = true then b else 2139095039
/-- The drawn number near a float, in units of 2^-100000. -/
def nearF (k b t : Int) : Int := atK 100000 (fNum b) (fExp b - 150) + atK 100000 (if t % 2 = 1 then -(oddF.getD (k / 3 % 10).toNat 0) else oddF.getD (k / 3 % 10).toNat 0) (-154 + b / 8388608 % 256)
noncomputable def dfF (bs : List Int) : Bool × List Int × Int :=
  if 0 < (bs.take 500).headD 0 % 3 then (l2F (bs.take 500).tail).1
  else ((rD true (nearF ((bs.take 500).headD 0) (finF (bitsF true (bs.take 500).tail).1) ((bitsF true (bs.take 500).tail).2.headD 0))).1, (rD true (nearF ((bs.take 500).headD 0) (finF (bitsF true (bs.take 500).tail).1) ((bitsF true (bs.take 500).tail).2.headD 0))).2.1, (rD true (nearF ((bs.take 500).headD 0) (finF (bitsF true (bs.take 500).tail).1) ((bitsF true (bs.take 500).tail).2.headD 0))).2.2.1)

/-- A drawn Dyadic: what is handed back. -/
def DfOut (w : World) (G : Bool) (Z : List Int) (E : Int) (e : Ending) (w' : World) : Prop :=
  ∃ (a : Option Addr) (c : Nat), e = .returned (.agg #[.bool G, .slice a Z.length c, .int .i64 E]) ∧ Z.length ≤ 513 ∧ U32 Z ∧ RowAt .u32 w' a Z ∧ Below w.heap.size w w'

theorem oddF_row (w : World) (t : TypeId) : RowAt .i64 (w.alloc (.cells #[.int .i64 1, .int .i64 2, .int .i64 3, .int .i64 5, .int .i64 7, .int .i64 8, .int .i64 9, .int .i64 15, .int .i64 16, .int .i64 17] t)) (some ⟨w.heap.size, 0, none⟩) oddF := by
  refine .inr ⟨w.heap.size, 0, rfl, by simp, fun j hj => ?_⟩
  rw [Nat.zero_add, World.cell?_alloc_at _ _ _ _ (by simp)]
  have : j < 10 := hj
  match j, this with
  | 0, _ => rfl
  | 1, _ => rfl
  | 2, _ => rfl
  | 3, _ => rfl
  | 4, _ => rfl
  | 5, _ => rfl
  | 6, _ => rfl
  | 7, _ => rfl
  | 8, _ => rfl
  | 9, _ => rfl

theorem oddF_cell (w : World) (t : TypeId) {j : Nat} (hj : j < 10) : (w.alloc (.cells #[.int .i64 1, .int .i64 2, .int .i64 3, .int .i64 5, .int .i64 7, .int .i64 8, .int .i64 9, .int .i64 15, .int .i64 16, .int .i64 17] t)).cell? ⟨w.heap.size, j, none⟩ = some (.int .i64 (oddF.getD j 0)) := by
  rcases oddF_row w t with h | ⟨b, off, h1, _, h3⟩
  · cases h
  · have h4 := Option.some.inj h1
    have e1 : b = w.heap.size := (congrArg Addr.block h4).symm
    have e2 : off = 0 := (congrArg Addr.off h4).symm
    subst e1 e2
    have := h3 j hj
    rw [Nat.zero_add] at this
    exact this

theorem oddF_range : ∀ j, j < 10 → 1 ≤ oddF.getD j 0 ∧ oddF.getD j 0 ≤ 17 := by decide

/-- A box of three cells. -/
structure BoxC (T : Nat) (x y z : Value) (W : World) : Prop where
  c0 : W.cell? ⟨T, 0, none⟩ = some x
  c1 : W.cell? ⟨T, 1, none⟩ = some y
  c2 : W.cell? ⟨T, 2, none⟩ = some z
  fr : ∀ j, W.frozen? ⟨T, j, none⟩ = false
  lt : T < W.heap.size

theorem BoxC.start (W : World) (x y z : Value) (t : TypeId) : BoxC W.heap.size x y z (W.alloc (.cells #[x, y, z] t)) := ⟨by simp [go_sem], by simp [go_sem], by simp [go_sem], by intro j; simp [go_sem], by simp⟩
theorem BoxC.aside {T P : Nat} {x y z : Value} {W W' : World} (h : BoxC T x y z W) (ha : Aside P W W') (hP : T ≠ P) : BoxC T x y z W' :=
  ⟨(ha.cell (p := ⟨T, 0, none⟩) h.lt hP).trans h.c0, (ha.cell (p := ⟨T, 1, none⟩) h.lt hP).trans h.c1, (ha.cell (p := ⟨T, 2, none⟩) h.lt hP).trans h.c2, fun j => (ha.frozen (p := ⟨T, j, none⟩) h.lt hP).trans (h.fr j), Nat.lt_of_lt_of_le h.lt ha.size⟩
theorem BoxC.later {T : Nat} {x y z : Value} {W W' : World} (h : BoxC T x y z W) (hb : Below W.heap.size W W') : BoxC T x y z W' :=
  ⟨(hb.cell (p := ⟨T, 0, none⟩) h.lt).trans h.c0, (hb.cell (p := ⟨T, 1, none⟩) h.lt).trans h.c1, (hb.cell (p := ⟨T, 2, none⟩) h.lt).trans h.c2, fun j => (hb.frozen (p := ⟨T, j, none⟩) h.lt).trans (h.fr j), Nat.lt_of_lt_of_le h.lt hb.size⟩

/-- A number of the model in a box. -/
structure BoxL (T : Nat) (g : Bool) (a : Option Addr) (c : Nat) (ds : List Int) (m e : Int) (W : World) : Prop where
  c0 : W.cell? ⟨T, 0, none⟩ = some (.bool g)
  c1 : W.cell? ⟨T, 1, none⟩ = some (.slice a ds.length c)
  c2 : W.cell? ⟨T, 2, none⟩ = some (.int .i64 e)
  l1 : L1 W g a c ds m
  lt : T < W.heap.size

theorem BoxL.start {W : World} {g : Bool} {a : Option Addr} {c : Nat} {ds : List Int} {m e : Int} (h : L1 W g a c ds m) (t : TypeId) : BoxL W.heap.size g a c ds m e (W.alloc (.cells #[.bool g, .slice a ds.length c, .int .i64 e] t)) := ⟨by simp [go_sem], by simp [go_sem], by simp [go_sem], h.later (bel0 _ _), by simp⟩
theorem BoxL.later {T : Nat} {g : Bool} {a : Option Addr} {c : Nat} {ds : List Int} {m e : Int} {W W' : World} (h : BoxL T g a c ds m e W) (hb : Below W.heap.size W W') : BoxL T g a c ds m e W' :=
  ⟨(hb.cell (p := ⟨T, 0, none⟩) h.lt).trans h.c0, (hb.cell (p := ⟨T, 1, none⟩) h.lt).trans h.c1, (hb.cell (p := ⟨T, 2, none⟩) h.lt).trans h.c2, h.l1.later hb, Nat.lt_of_lt_of_le h.lt hb.size⟩

/-- The row does not lie in block P. -/
def Off8 (P : Nat) (a : Option Addr) (fs : List Int) : Prop := ∀ b o, a = some ⟨b, o, none⟩ → fs ≠ [] → b ≠ P
theorem L1.setOff8 {w : World} {P : Nat} {g : Bool} {a : Option Addr} {c : Nat} {ds : List Int} {x : Int} (h : L1 w g a c ds x) (hf : Off8 P a ds) {p : Addr} (hp : p.block = P) (v : Value) : L1 (w.setCell p v) g a c ds x := by
  refine ⟨⟨h.sl.fits, h.sl.nil, ?_⟩, h.can, h.num, h.zero, h.cap⟩
  rcases h.sl.row with h | ⟨b, off, h1, h2, h3⟩
  · exact .inl h
  · by_cases hd : ds = []
    · exact .inl hd
    · have hb := hf b off h1 hd
      refine .inr ⟨b, off, h1, by simpa using h2, fun j hj => ?_⟩
      rw [World.cell?_setCell_other _ _ _ _ (by intro hh; have := congrArg Addr.block hh; simp at this; omega)]
      exact h3 j hj

theorem DfOut.later {w : World} {G : Bool} {Z : List Int} {E : Int} {e : Ending} {W W' : World} (h : DfOut w G Z E e W) (hb : Below W.heap.size W W') : DfOut w G Z E e W' := by
  obtain ⟨a, c, h1, h2, h3, h4, h5⟩ := h
  exact ⟨a, c, h1, h2, h3, h4.later hb, h5.trans (hb.mono h5.size)⟩

theorem L1.aside {w w' : World} {P : Nat} {g : Bool} {a : Option Addr} {c : Nat} {ds : List Int} {x : Int} {B : Nat} (h : L1 w g a c ds x) (ha : Aside P w w') (hf : Far B a ds) (hP : P < B) : L1 w' g a c ds x := by
  refine ⟨⟨h.sl.fits, h.sl.nil, ?_⟩, h.can, h.num, h.zero, h.cap⟩
  rcases h.sl.row with h | ⟨b, off, h1, h2, h3⟩
  · exact .inl h
  · by_cases hd : ds = []
    · exact .inl hd
    · have hb : b ≠ P := by
        rcases hf with hf | ⟨b', o', e1, e2⟩
        · exact absurd hf hd
        · rw [h1] at e1
          injection e1 with e1
          have : b = b' := congrArg Addr.block e1
          omega
      refine .inr ⟨b, off, h1, Nat.lt_of_lt_of_le h2 ha.size, fun j hj => ?_⟩
      rw [ha.cell (p := ⟨b, off + j, none⟩) h2 hb]
      exact h3 j hj

set_option maxRecDepth 100000 in
set_option maxHeartbeats 8000000 in
theorem drawDf_any (a : Option Addr) (c : Nat) (bs : List Int) (w : World) (hn : bs.length ≤ 1048576) (hc : bs.length ≤ c) (hcm : c ≤ maxLen) (hnil : a = none → c = 0) (hr : RowAt .u8 w a bs) (hb : Dig 256 bs) :
    Calls Tryd.prog 17 #[.slice a bs.length c] w fun e w' => DfOut w (dfF bs).1 (dfF bs).2.1 (dfF bs).2.2 e w' := by
  obtain ⟨F, hF⟩ : ∃ F, F = dfF bs := ⟨_, rfl⟩
  rw [← hF]
  have HF : Hid (F = dfF bs) := hF
  clear hF
  go_enter Tryd.func17, Tryd.ntmps17
  go_wp2_with fail
  obtain ⟨W0, hW0⟩ : ∃ W0, W0 = w.alloc (.cells #[.bool false, .slice none 0 0, .int .i64 0] 29) := ⟨_, rfl⟩
  have HH0 : Hid (Has3 w.heap.size W0) := by unfold Hid; rw [hW0]; exact Has3.new w _
  have hb0 : Below w.heap.size w W0 := by rw [hW0]; exact bel0 _ _
  have hs0 : W0.heap.size = w.heap.size + 1 := by rw [hW0]; simp
  rw [← hW0]
  refine (openF_any a c bs _ hn hc hcm hnil (hr.later hb0) hb).mono ?_
  rintro e w1 ⟨rfl, hr1, hb1, hs1⟩
  have HB1 : Hid (Below w.heap.size w w1) := hb0.trans (hb1.mono (by omega))
  have HH1 : Hid (Has3 w.heap.size w1) := HH0.out.later hb1
  have HR1 : Hid (Rs W0.heap.size (bs.take 500) w1) := hr1
  obtain ⟨P, hP⟩ : ∃ P, P = W0.heap.size := ⟨_, rfl⟩
  rw [← hP] at HR1 ⊢
  have hPw : w.heap.size < P := by omega
  clear hr1 hb1 hr hb hn hc hcm hnil hW0 hb0 HH0 hs0 hs1 hP
  obtain ⟨rs, hrs⟩ : ∃ rs, rs = bs.take 500 := ⟨_, rfl⟩
  rw [← hrs] at HR1
  have HRS : Hid (rs = bs.take 500) := hrs
  clear hrs
  go_wp2_with fail
  refine (nextF_any P rs _ HR1.out).mono ?_
  rintro e w2 ⟨rfl, hk0, hk1, hr2, ha2⟩
  obtain ⟨k, hk⟩ : ∃ k, k = rs.headD 0 := ⟨_, rfl⟩
  have HK : Hid (k = rs.headD 0) := hk
  rw [← hk] at hk0 hk1 ⊢
  have aside3 : ∀ {U U' : World}, Has3 w.heap.size U → Aside P U U' → Has3 w.heap.size U' := fun h ha => ⟨(ha.cell (p := ⟨w.heap.size, 0, none⟩) h.lt (by simp; omega)).trans h.r1, (ha.cell (p := ⟨w.heap.size, 1, none⟩) h.lt (by simp; omega)).trans h.r2, (ha.cell (p := ⟨w.heap.size, 2, none⟩) h.lt (by simp; omega)).trans h.r3, fun j => (ha.frozen (p := ⟨w.heap.size, j, none⟩) h.lt (by simp; omega)).trans (h.r4 j), Nat.lt_of_lt_of_le h.lt ha.size⟩
  have HAS : Hid (∀ {U U' : World}, Has3 w.heap.size U → Aside P U U' → Has3 w.heap.size U') := fun {U U'} => aside3
  have HH2 : Hid (Has3 w.heap.size w2) := aside3 HH1.out ha2
  have HR2 : Hid (Rs P rs.tail w2) := hr2
  have HB2 : Hid (Below w.heap.size w w2) := HB1.out.trans (ha2.below (by omega) HB1.out.size)
  have hjt : k.tmod 3 = k % 3 := Int.tmod_eq_emod_of_nonneg hk0
  clear hr2 ha2 hk HH1 HR1 HB1 aside3
  by_cases hc3 : 0 < k % 3
  · have HF2 : Hid (F = (l2F rs.tail).1) := by unfold Hid; rw [HF.out]; unfold dfF; rw [← HRS.out, ← HK.out, if_pos hc3]
    have hc3' : k % 3 > 0 := hc3
    clear HF
    go_wp2_with fail
    refine (drawD_any P rs.tail _ HR2.out).mono ?_
    rintro e w3 ⟨a3, c3, rfl, hn3, hu3, hrw3, hf3, _, ha3⟩
    obtain ⟨G, hG⟩ : ∃ G, G = (l2F rs.tail).1.1 := ⟨_, rfl⟩
    obtain ⟨Z, hZ⟩ : ∃ Z, Z = (l2F rs.tail).1.2.1 := ⟨_, rfl⟩
    obtain ⟨E, hE⟩ : ∃ E, E = (l2F rs.tail).1.2.2 := ⟨_, rfl⟩
    rw [← hZ] at hn3 hu3 hrw3 hf3 ⊢
    rw [← hG, ← hE]
    have HF3 : Hid (F = (G, Z, E)) := by unfold Hid; rw [HF2.out, hG, hZ, hE]
    have HH3 : Hid (Has3 w.heap.size w3) := HAS.out HH2.out ha3
    have HX : Hid (DfOut w G Z E (.returned (.agg #[.bool G, .slice a3 Z.length c3, .int .i64 E])) (((w3.setCell ⟨w.heap.size, 0, none⟩ (.bool G)).setCell ⟨w.heap.size, 1, none⟩ (.slice a3 Z.length c3)).setCell ⟨w.heap.size, 2, none⟩ (.int .i64 E))) := by
      have hfar : Far (w.heap.size + 1) a3 Z := hf3.down (by have := HH2.out.lt; omega)
      have hB3 : Below w.heap.size w w3 := HB2.out.trans (ha3.below (by omega) HB2.out.size)
      refine ⟨a3, c3, rfl, hn3, hu3, ?_, ((hB3.setCell (by simp) _).setCell (by simp) _).setCell (by simp) _⟩
      exact ((hrw3.setAway (hfar.away (by simp)) _).setAway (hfar.away (by simp)) _).setAway (hfar.away (by simp)) _
    have r1 := HH3.out.r1
    have r2 := HH3.out.r2
    have r3 := HH3.out.r3
    have r4 := HH3.out.r4
    clear hrw3 hf3 ha3 hG hZ hE HF2 HH2 hu3
    go_wp2
    refine bodyPost_ret (v := .agg #[.bool G, .slice a3 Z.length c3, .int .i64 E]) (by simp [results, Tryd.results17, go_sem, r1, r2, r3]) rfl ?_
    rw [HF3.out]
    exact HX.out
  · have hc3n : ¬ k % 3 > 0 := hc3
    go_wp2_with fail
    refine (drawBits_any P true rs.tail _ HR2.out).mono ?_
    rintro e w3 ⟨rfl, hB0, hB1, hr3, ha3⟩
    obtain ⟨B, hB⟩ : ∃ B, B = (bitsF true rs.tail).1 := ⟨_, rfl⟩
    obtain ⟨rs2, hrs2⟩ : ∃ rs2, rs2 = (bitsF true rs.tail).2 := ⟨_, rfl⟩
    rw [← hB] at hB0 hB1 ⊢
    rw [← hrs2] at hr3
    have HF2 : Hid (F = ((rD true (nearF k (finF B) (rs2.headD 0))).1, (rD true (nearF k (finF B) (rs2.headD 0))).2.1, (rD true (nearF k (finF B) (rs2.headD 0))).2.2.1)) := by
      unfold Hid
      rw [HF.out]
      unfold dfF
      rw [← HRS.out, ← HK.out, if_neg (by omega), hB, hrs2]
    have HH3 : Hid (Has3 w.heap.size w3) := HAS.out HH2.out ha3
    have HR3 : Hid (Rs P rs2 w3) := hr3
    have HBw3 : Hid (Below w.heap.size w w3) := HB2.out.trans (ha3.below (by omega) HB2.out.size)
    clear hr3 ha3 hB hrs2 HF HH2 HR2 HB2
    go_wp2_with fail
    refine (finD_any B _ hB0 hB1).mono ?_
    rintro e w4 ⟨rfl, hb4⟩
    have HH4 : Hid (Has3 w.heap.size w4) := HH3.out.later hb4
    have HR4 : Hid (Rs P rs2 w4) := HR3.out.later hb4
    have HBw4 : Hid (Below w.heap.size w w4) := HBw3.out.trans (hb4.mono HBw3.out.size)
    clear hb4 HH3 HR3 HBw3
    cases hf : fFin B
    · obtain ⟨b, hbv⟩ : ∃ b : Int, b = 2139095039 := ⟨_, rfl⟩
      have hb0 : 0 ≤ b := by rw [hbv]; first | exact hB0 | decide
      have hb1 : b < 4294967296 := by rw [hbv]; first | exact hB1 | decide
      have hbx : b / 8388608 % 256 ≤ 255 := by omega
      have HF3 : Hid (F = ((rD true (nearF k b (rs2.headD 0))).1, (rD true (nearF k b (rs2.headD 0))).2.1, (rD true (nearF k b (rs2.headD 0))).2.2.1)) := by unfold Hid; rw [HF2.out, hbv]; unfold finF; rw [hf]; rfl
      have HBV : Hid (b = 2139095039) := hbv
      clear hbv
      go_wp2_with fail
      rw [← HBV.out]
      refine (float2_any b _ hb0 hb1).mono ?_
      rintro e W5 ⟨m5, e5, hn5, g5, a5, c5, f5, rfl, hl5, hL5, hF5, hb5⟩
      have hex := fExp_pos hb0
      have hbd5 : -150 ≤ e5 ∧ e5 ≤ 200 := by have := hn5.bound; omega
      have HN5 : Hid (NormOf (fNum b) (fExp b - 150) m5 e5 32) := hn5
      have HH5 : Hid (Has3 w.heap.size W5) := HH4.out.later hb5
      have HR5 : Hid (Rs P rs2 W5) := HR4.out.later hb5
      have HBw5 : Hid (Below w.heap.size w W5) := HBw4.out.trans (hb5.mono HBw4.out.size)
      have HFr5 : Hid (Far (P + 1) a5 f5) := hF5.down (by have := HR4.out.lt; omega)
      have HL5 : Hid (L1 W5 g5 a5 c5 f5 m5) := hL5
      have hP5 : P < W5.heap.size := HR5.out.lt
      clear hn5 hL5 hF5 hb5 HH4 HR4 HBw4
      obtain ⟨W6, hW6⟩ : ∃ W6, W6 = W5.alloc (.cells #[.bool g5, .slice a5 f5.length c5, .int .i64 e5] 66) := ⟨_, rfl⟩
      obtain ⟨W7, hW7⟩ : ∃ W7, W7 = W6.alloc (.cells #[.int .i64 1, .int .i64 2, .int .i64 3, .int .i64 5, .int .i64 7, .int .i64 8, .int .i64 9, .int .i64 15, .int .i64 16, .int .i64 17] 3) := ⟨_, rfl⟩
      have hb6 : Below W5.heap.size W5 W6 := by rw [hW6]; exact bel0 _ _
      have hs6 : W6.heap.size = W5.heap.size + 1 := by rw [hW6]; simp
      have hb7 : Below W6.heap.size W6 W7 := by rw [hW7]; exact bel0 _ _
      have HBx6 : Hid (BoxL W5.heap.size g5 a5 c5 f5 m5 e5 W6) := by unfold Hid; rw [hW6]; exact BoxL.start HL5.out _
      have hoc := oddF_cell W6 3 (show (k / 3 % 10).toNat < 10 by omega)
      obtain ⟨o1, o2⟩ := oddF_range (k / 3 % 10).toNat (by omega)
      obtain ⟨o, ho⟩ : ∃ o, o = oddF.getD (k / 3 % 10).toNat 0 := ⟨_, rfl⟩
      have HO : Hid (oddF.getD (k / 3 % 10).toNat 0 = o) := ho.symm
      rw [← ho] at hoc o1 o2
      have hoc7 : W7.cell? ⟨W6.heap.size, (k / 3 % 10).toNat, none⟩ = some (.int .i64 o) := by rw [hW7]; exact hoc
      have hq1 : k.tdiv 3 = k / 3 := Int.tdiv_eq_ediv_of_nonneg hk0
      have hq2 : (k / 3).tmod 10 = k / 3 % 10 := Int.tmod_eq_emod_of_nonneg (by omega)
      have hq3 : 0 ≤ k / 3 % 10 ∧ k / 3 % 10 < 10 := by omega
      have hq4 : 0 ≤ k / 3 % 10 := hq3.1
      have hq5 : k / 3 % 10 < 10 := hq3.2
      have HS7 : Hid (Calls Tryd.prog 56 #[.int .i64 o] W7 fun e w' => SmallOut W7 o e w') := small_any o W7 (by omega) (by omega)
      rw [hW7, hW6] at hoc7
      rw [hW7, hW6] at HS7
      have hs56 : (W5.alloc (.cells #[.bool g5, .slice a5 f5.length c5, .int .i64 e5] 66)).heap.size = W5.heap.size + 1 := by simp
      rw [hs56] at hoc7
      clear hoc ho
      go_wp2_with fail
      refine HS7.out.mono ?_
      rw [← hW6, ← hW7]
      rintro e W8 ⟨a8, c8, d8, rfl, hl8, hL8, hF8, hb8⟩
      have hs7 : W7.heap.size = W5.heap.size + 2 := by rw [hW7]; simp [hs6]
      have hs8 := hb8.size
      have HO5 : Hid (Off8 W8.heap.size a5 f5) := by
        intro bb oo e1 e2 e3
        rcases HL5.out.sl.row with h | ⟨b2, o2', h3, h4, _⟩
        · exact e2 h
        · rw [e1] at h3
          injection h3 with h3
          have : bb = b2 := congrArg Addr.block h3
          omega
      have HO8 : Hid (Off8 W8.heap.size a8 d8) := by
        intro bb oo e1 e2 e3
        rcases hL8.sl.row with h | ⟨b2, o2', h3, h4, _⟩
        · exact e2 h
        · rw [e1] at h3
          injection h3 with h3
          have : bb = b2 := congrArg Addr.block h3
          omega
      have hb58 : Below W5.heap.size W5 W8 := (hb6.trans (hb7.mono (by omega))).trans (hb8.mono (by omega))
      have HB8 : Hid (BoxL W5.heap.size g5 a5 c5 f5 m5 e5 W8) := (HBx6.out.later hb7).later hb8
      have HH8 : Hid (Has3 w.heap.size W8) := HH5.out.later hb58
      have HR8 : Hid (Rs P rs2 W8) := HR5.out.later hb58
      have HBw8 : Hid (Below w.heap.size w W8) := HBw5.out.trans (hb58.mono HBw5.out.size)
      have HFr8 : Hid (Far (P + 1) a8 d8) := hF8.down (by omega)
      have HL8 : Hid (L1 W8 false a8 c8 d8 o) := hL8
      obtain ⟨WC, hWC⟩ : ∃ WC, WC = W8.alloc (.cells #[.bool false, .slice a8 d8.length c8, .int .i64 (-154 + b / 8388608 % 256)] 66) := ⟨_, rfl⟩
      have hbC : Below W8.heap.size W8 WC := by rw [hWC]; exact bel0 _ _
      have HCC : Hid (BoxC W8.heap.size (.bool false) (.slice a8 d8.length c8) (.int .i64 (-154 + b / 8388608 % 256)) WC) := by unfold Hid; rw [hWC]; exact BoxC.start _ _ _ _ _
      clear hL8 hF8 hb8 hb6 hb7 hoc7 HS7 hW6 hW7 HBx6 HL5 HH5 HR5 HBw5 hb58 hs56
      go_wp2_with fail
      rw [← hWC]
      refine (nextF_any P rs2 _ (HR8.out.later hbC)).mono ?_
      rintro e W9 ⟨rfl, ht0, ht1, _, ha9⟩
      obtain ⟨t, htd⟩ : ∃ t, t = rs2.headD 0 := ⟨_, rfl⟩
      have HF4 : Hid (F = ((rD true (nearF k b t)).1, (rD true (nearF k b t)).2.1, (rD true (nearF k b t)).2.2.1)) := by unfold Hid; rw [HF3.out, htd]
      rw [← htd] at ht0 ht1 ⊢
      have hP8 : P < W8.heap.size := HR8.out.lt
      have HC9 : Hid (BoxC W8.heap.size (.bool false) (.slice a8 d8.length c8) (.int .i64 (-154 + b / 8388608 % 256)) W9) := HCC.out.aside ha9 (by omega)
      have hB5C := HB8.out.later hbC
      have HB9 : Hid (BoxL W5.heap.size g5 a5 c5 f5 m5 e5 W9) := ⟨(ha9.cell (p := ⟨W5.heap.size, 0, none⟩) hB5C.lt (by simp; omega)).trans hB5C.c0, (ha9.cell (p := ⟨W5.heap.size, 1, none⟩) hB5C.lt (by simp; omega)).trans hB5C.c1, (ha9.cell (p := ⟨W5.heap.size, 2, none⟩) hB5C.lt (by simp; omega)).trans hB5C.c2, hB5C.l1.aside ha9 HFr5.out (by omega), Nat.lt_of_lt_of_le hB5C.lt ha9.size⟩
      have HL9 : Hid (L1 W9 false a8 c8 d8 o) := (HL8.out.later hbC).aside ha9 HFr8.out (by omega)
      have HH9 : Hid (Has3 w.heap.size W9) := HAS.out (HH8.out.later hbC) ha9
      have HBw9 : Hid (Below w.heap.size w W9) := (HBw8.out.trans (hbC.mono HBw8.out.size)).trans (ha9.below (by omega) (by have := HBw8.out.size; have := hbC.size; omega))
      have x0 := HC9.out.c0
      have x1 := HC9.out.c1
      have x2 := HC9.out.c2
      have hjt2 : t.tmod 2 = t % 2 := Int.tmod_eq_emod_of_nonneg ht0
      obtain ⟨hbd0, hbd1⟩ := hbd5
      clear ha9 htd hB5C hbC hWC HCC HB8 HH8 HR8 HBw8 HL8 HF3
      by_cases ht : t % 2 = 1
      · have htb : (t % 2 == 1) = true := by rw [beq_iff_eq]; exact ht
        have HFn : Hid (F = ((rD true (atK 100000 (fNum b) (fExp b - 150) + atK 100000 (-o) (-154 + b / 8388608 % 256))).1, (rD true (atK 100000 (fNum b) (fExp b - 150) + atK 100000 (-o) (-154 + b / 8388608 % 256))).2.1, (rD true (atK 100000 (fNum b) (fExp b - 150) + atK 100000 (-o) (-154 + b / 8388608 % 256))).2.2.1)) := by unfold Hid; rw [HF4.out]; unfold nearF; rw [if_pos ht, HO.out]
        clear ht HF4
        go_wp2_with fail
        refine (neg2_any false a8 c8 d8 o (-154 + b / 8388608 % 256) _ (by omega) HL9.out).mono ?_
        rintro e WN ⟨gN, dN, rfl, hlN, hLN, hbN⟩
        have HB5N : Hid (BoxL W5.heap.size g5 a5 c5 f5 m5 e5 WN) := HB9.out.later hbN
        have HHN : Hid (Has3 w.heap.size WN) := HH9.out.later hbN
        have HBN : Hid (Below w.heap.size w WN) := HBw9.out.trans (hbN.mono HBw9.out.size)
        have HT8 : Hid (BoxC W8.heap.size (.bool false) (.slice a8 d8.length c8) (.int .i64 (-154 + b / 8388608 % 256)) WN) := HC9.out.later hbN
        have q0 := HT8.out.c0
        have q1 := HT8.out.c1
        have q2 := HT8.out.c2
        have q4 := HT8.out.fr
        have v0 := HB5N.out.c0
        have v1 := HB5N.out.c1
        have v2 := HB5N.out.c2
        have hne1 : ¬ W5.heap.size = W8.heap.size := by omega
        have hne2 : ¬ W8.heap.size = W5.heap.size := by omega
        obtain ⟨WX, hWX⟩ : ∃ WX, WX = ((WN.setCell ⟨W8.heap.size, 0, none⟩ (.bool gN)).setCell ⟨W8.heap.size, 1, none⟩ (.slice a8 dN.length c8)).setCell ⟨W8.heap.size, 2, none⟩ (.int .i64 (-154 + b / 8388608 % 256)) := ⟨_, rfl⟩
        have HLX : Hid (L1 WX gN a8 c8 dN (-o)) := by
          unfold Hid; rw [hWX]
          have hfarN : Off8 W8.heap.size a8 dN := fun bb oo e1 e2 => HO8.out bb oo e1 (fun h => e2 (List.length_eq_zero_iff.1 (by rw [h] at hlN; simpa using hlN)))
          exact ((hLN.setOff8 hfarN rfl _).setOff8 hfarN rfl _).setOff8 hfarN rfl _
        have hbX : Below W8.heap.size WN WX := by rw [hWX]; exact (((Below.refl _ _).setCell (by simp) _).setCell (by simp) _).setCell (by simp) _
        have HL5X : Hid (L1 WX g5 a5 c5 f5 m5) := by
          unfold Hid; rw [hWX]
          exact ((HB5N.out.l1.setOff8 HO5.out rfl _).setOff8 HO5.out rfl _).setOff8 HO5.out rfl _
        have HHX : Hid (Has3 w.heap.size WX) := ⟨(hbX.cell (p := ⟨w.heap.size, 0, none⟩) (by simp; omega)).trans HHN.out.r1, (hbX.cell (p := ⟨w.heap.size, 1, none⟩) (by simp; omega)).trans HHN.out.r2, (hbX.cell (p := ⟨w.heap.size, 2, none⟩) (by simp; omega)).trans HHN.out.r3, fun j => (hbX.frozen (p := ⟨w.heap.size, j, none⟩) (by simp; omega)).trans (HHN.out.r4 j), Nat.lt_of_lt_of_le HHN.out.lt hbX.size⟩
        have HBX : Hid (Below w.heap.size w WX) := HBN.out.trans (hbX.mono (by omega))
        have hlX : dN.length ≤ 1 := by omega
        clear hLN hbN
        go_wp2_with fail
        rw [← hWX]
        refine (add2_any g5 gN a5 a8 c5 c8 f5 dN m5 (-o) e5 (-154 + b / 8388608 % 256) _ (by omega) (by omega) (by omega) (by omega) HL5X.out HLX.out).mono ?_
        rintro e WA ⟨gA, aA, cA, fA, rfl, hlA, hLA, _, hbA⟩
        have HHA : Hid (Has3 w.heap.size WA) := HHX.out.later hbA
        have HBA : Hid (Below w.heap.size w WA) := HBX.out.trans (hbA.mono HBX.out.size)
        have HLA : Hid (L1 WA gA aA cA fA _) := hLA
        clear hLA hbA
        go_wp2_with fail
        refine (out2_any gA aA cA fA _ (min e5 (-154 + b / 8388608 % 256)) _ (by omega) (by omega) (by omega) HLA.out).mono ?_
        rintro e WB ⟨G, Z, E, K, aZ, cZ, rfl, hres, hrw, hfar, hbB⟩
        have hval : atK 100000 (sumAt m5 e5 (-o) (-154 + b / 8388608 % 256)) (min e5 (-154 + b / 8388608 % 256)) = atK 100000 (fNum b) (fExp b - 150) + atK 100000 (-o) (-154 + b / 8388608 % 256) := by
          rw [← HN5.out.at (K := 100000) (by omega)]
          exact sumAt_at (by omega) (by omega)
        rw [hval] at hres
        have HFz : Hid (F = (G, Z, E)) := by unfold Hid; rw [HFn.out, rD_is hres]
        have HHB : Hid (Has3 w.heap.size WB) := HHA.out.later hbB
        have HX : Hid (DfOut w G Z E (.returned (.agg #[.bool G, .slice aZ Z.length cZ, .int .i64 E])) (((WB.setCell ⟨w.heap.size, 0, none⟩ (.bool G)).setCell ⟨w.heap.size, 1, none⟩ (.slice aZ Z.length cZ)).setCell ⟨w.heap.size, 2, none⟩ (.int .i64 E))) := by
          have hfr : Far (w.heap.size + 1) aZ Z := hfar.down (by have := HHA.out.lt; omega)
          have hBB : Below w.heap.size w WB := HBA.out.trans (hbB.mono HBA.out.size)
          refine ⟨aZ, cZ, rfl, by have := hres.len.1; omega, hres.len.2, ?_, ((hBB.setCell (by simp) _).setCell (by simp) _).setCell (by simp) _⟩
          exact ((hrw.setAway (hfr.away (by simp)) _).setAway (hfr.away (by simp)) _).setAway (hfr.away (by simp)) _
        have oR : w.heap.size < WB.heap.size := HHB.out.lt
        have r1 := HHB.out.r1
        have r2 := HHB.out.r2
        have r3 := HHB.out.r3
        have r4 := HHB.out.r4
        clear hres hrw hfar hbB hval
        go_wp2
        refine bodyPost_ret (v := .agg #[.bool G, .slice aZ Z.length cZ, .int .i64 E]) (by simp [results, Tryd.results17, go_sem, r1, r2, r3, oR]) rfl ?_
        rw [HFz.out]
        exact HX.out.later (bel0 _ _)
      · have htb : (t % 2 == 1) = false := by rw [beq_eq_false_iff_ne]; exact ht
        have HFn : Hid (F = ((rD true (atK 100000 (fNum b) (fExp b - 150) + atK 100000 o (-154 + b / 8388608 % 256))).1, (rD true (atK 100000 (fNum b) (fExp b - 150) + atK 100000 o (-154 + b / 8388608 % 256))).2.1, (rD true (atK 100000 (fNum b) (fExp b - 150) + atK 100000 o (-154 + b / 8388608 % 256))).2.2.1)) := by unfold Hid; rw [HF4.out]; unfold nearF; rw [if_neg ht, HO.out]
        clear ht HF4
        have v0 := HB9.out.c0
        have v1 := HB9.out.c1
        have v2 := HB9.out.c2
        go_wp2_with fail
        refine (add2_any g5 false a5 a8 c5 c8 f5 d8 m5 o e5 (-154 + b / 8388608 % 256) _ (by omega) (by omega) (by omega) (by omega) HB9.out.l1 HL9.out).mono ?_
        rintro e WA ⟨gA, aA, cA, fA, rfl, hlA, hLA, _, hbA⟩
        have HHA : Hid (Has3 w.heap.size WA) := HH9.out.later hbA
        have HBA : Hid (Below w.heap.size w WA) := HBw9.out.trans (hbA.mono HBw9.out.size)
        have HLA : Hid (L1 WA gA aA cA fA _) := hLA
        clear hLA hbA
        go_wp2_with fail
        refine (out2_any gA aA cA fA _ (min e5 (-154 + b / 8388608 % 256)) _ (by omega) (by omega) (by omega) HLA.out).mono ?_
        rintro e WB ⟨G, Z, E, K, aZ, cZ, rfl, hres, hrw, hfar, hbB⟩
        have hval : atK 100000 (sumAt m5 e5 o (-154 + b / 8388608 % 256)) (min e5 (-154 + b / 8388608 % 256)) = atK 100000 (fNum b) (fExp b - 150) + atK 100000 o (-154 + b / 8388608 % 256) := by
          rw [← HN5.out.at (K := 100000) (by omega)]
          exact sumAt_at (by omega) (by omega)
        rw [hval] at hres
        have HFz : Hid (F = (G, Z, E)) := by unfold Hid; rw [HFn.out, rD_is hres]
        have HHB : Hid (Has3 w.heap.size WB) := HHA.out.later hbB
        have HX : Hid (DfOut w G Z E (.returned (.agg #[.bool G, .slice aZ Z.length cZ, .int .i64 E])) (((WB.setCell ⟨w.heap.size, 0, none⟩ (.bool G)).setCell ⟨w.heap.size, 1, none⟩ (.slice aZ Z.length cZ)).setCell ⟨w.heap.size, 2, none⟩ (.int .i64 E))) := by
          have hfr : Far (w.heap.size + 1) aZ Z := hfar.down (by have := HHA.out.lt; omega)
          have hBB : Below w.heap.size w WB := HBA.out.trans (hbB.mono HBA.out.size)
          refine ⟨aZ, cZ, rfl, by have := hres.len.1; omega, hres.len.2, ?_, ((hBB.setCell (by simp) _).setCell (by simp) _).setCell (by simp) _⟩
          exact ((hrw.setAway (hfr.away (by simp)) _).setAway (hfr.away (by simp)) _).setAway (hfr.away (by simp)) _
        have oR : w.heap.size < WB.heap.size := HHB.out.lt
        have r1 := HHB.out.r1
        have r2 := HHB.out.r2
        have r3 := HHB.out.r3
        have r4 := HHB.out.r4
        clear hres hrw hfar hbB hval
        go_wp2
        refine bodyPost_ret (v := .agg #[.bool G, .slice aZ Z.length cZ, .int .i64 E]) (by simp [results, Tryd.results17, go_sem, r1, r2, r3, oR]) rfl ?_
        rw [HFz.out]
        exact HX.out.later (bel0 _ _)
    · obtain ⟨b, hbv⟩ : ∃ b : Int, b = B := ⟨_, rfl⟩
      have hb0 : 0 ≤ b := by rw [hbv]; first | exact hB0 | decide
      have hb1 : b < 4294967296 := by rw [hbv]; first | exact hB1 | decide
      have hbx : b / 8388608 % 256 ≤ 255 := by omega
      have HF3 : Hid (F = ((rD true (nearF k b (rs2.headD 0))).1, (rD true (nearF k b (rs2.headD 0))).2.1, (rD true (nearF k b (rs2.headD 0))).2.2.1)) := by unfold Hid; rw [HF2.out, hbv]; unfold finF; rw [hf]; rfl
      have HBV : Hid (b = B) := hbv
      clear hbv
      go_wp2_with fail
      rw [← HBV.out]
      refine (float2_any b _ hb0 hb1).mono ?_
      rintro e W5 ⟨m5, e5, hn5, g5, a5, c5, f5, rfl, hl5, hL5, hF5, hb5⟩
      have hex := fExp_pos hb0
      have hbd5 : -150 ≤ e5 ∧ e5 ≤ 200 := by have := hn5.bound; omega
      have HN5 : Hid (NormOf (fNum b) (fExp b - 150) m5 e5 32) := hn5
      have HH5 : Hid (Has3 w.heap.size W5) := HH4.out.later hb5
      have HR5 : Hid (Rs P rs2 W5) := HR4.out.later hb5
      have HBw5 : Hid (Below w.heap.size w W5) := HBw4.out.trans (hb5.mono HBw4.out.size)
      have HFr5 : Hid (Far (P + 1) a5 f5) := hF5.down (by have := HR4.out.lt; omega)
      have HL5 : Hid (L1 W5 g5 a5 c5 f5 m5) := hL5
      have hP5 : P < W5.heap.size := HR5.out.lt
      clear hn5 hL5 hF5 hb5 HH4 HR4 HBw4
      obtain ⟨W6, hW6⟩ : ∃ W6, W6 = W5.alloc (.cells #[.bool g5, .slice a5 f5.length c5, .int .i64 e5] 66) := ⟨_, rfl⟩
      obtain ⟨W7, hW7⟩ : ∃ W7, W7 = W6.alloc (.cells #[.int .i64 1, .int .i64 2, .int .i64 3, .int .i64 5, .int .i64 7, .int .i64 8, .int .i64 9, .int .i64 15, .int .i64 16, .int .i64 17] 3) := ⟨_, rfl⟩
      have hb6 : Below W5.heap.size W5 W6 := by rw [hW6]; exact bel0 _ _
      have hs6 : W6.heap.size = W5.heap.size + 1 := by rw [hW6]; simp
      have hb7 : Below W6.heap.size W6 W7 := by rw [hW7]; exact bel0 _ _
      have HBx6 : Hid (BoxL W5.heap.size g5 a5 c5 f5 m5 e5 W6) := by unfold Hid; rw [hW6]; exact BoxL.start HL5.out _
      have hoc := oddF_cell W6 3 (show (k / 3 % 10).toNat < 10 by omega)
      obtain ⟨o1, o2⟩ := oddF_range (k / 3 % 10).toNat (by omega)
      obtain ⟨o, ho⟩ : ∃ o, o = oddF.getD (k / 3 % 10).toNat 0 := ⟨_, rfl⟩
      have HO : Hid (oddF.getD (k / 3 % 10).toNat 0 = o) := ho.symm
      rw [← ho] at hoc o1 o2
      have hoc7 : W7.cell? ⟨W6.heap.size, (k / 3 % 10).toNat, none⟩ = some (.int .i64 o) := by rw [hW7]; exact hoc
      have hq1 : k.tdiv 3 = k / 3 := Int.tdiv_eq_ediv_of_nonneg hk0
      have hq2 : (k / 3).tmod 10 = k / 3 % 10 := Int.tmod_eq_emod_of_nonneg (by omega)
      have hq3 : 0 ≤ k / 3 % 10 ∧ k / 3 % 10 < 10 := by omega
      have hq4 : 0 ≤ k / 3 % 10 := hq3.1
      have hq5 : k / 3 % 10 < 10 := hq3.2
      have HS7 : Hid (Calls Tryd.prog 56 #[.int .i64 o] W7 fun e w' => SmallOut W7 o e w') := small_any o W7 (by omega) (by omega)
      rw [hW7, hW6] at hoc7
      rw [hW7, hW6] at HS7
      have hs56 : (W5.alloc (.cells #[.bool g5, .slice a5 f5.length c5, .int .i64 e5] 66)).heap.size = W5.heap.size + 1 := by simp
      rw [hs56] at hoc7
      clear hoc ho
      go_wp2_with fail
      refine HS7.out.mono ?_
      rw [← hW6, ← hW7]
      rintro e W8 ⟨a8, c8, d8, rfl, hl8, hL8, hF8, hb8⟩
      have hs7 : W7.heap.size = W5.heap.size + 2 := by rw [hW7]; simp [hs6]
      have hs8 := hb8.size
      have HO5 : Hid (Off8 W8.heap.size a5 f5) := by
        intro bb oo e1 e2 e3
        rcases HL5.out.sl.row with h | ⟨b2, o2', h3, h4, _⟩
        · exact e2 h
        · rw [e1] at h3
          injection h3 with h3
          have : bb = b2 := congrArg Addr.block h3
          omega
      have HO8 : Hid (Off8 W8.heap.size a8 d8) := by
        intro bb oo e1 e2 e3
        rcases hL8.sl.row with h | ⟨b2, o2', h3, h4, _⟩
        · exact e2 h
        · rw [e1] at h3
          injection h3 with h3
          have : bb = b2 := congrArg Addr.block h3
          omega
      have hb58 : Below W5.heap.size W5 W8 := (hb6.trans (hb7.mono (by omega))).trans (hb8.mono (by omega))
      have HB8 : Hid (BoxL W5.heap.size g5 a5 c5 f5 m5 e5 W8) := (HBx6.out.later hb7).later hb8
      have HH8 : Hid (Has3 w.heap.size W8) := HH5.out.later hb58
      have HR8 : Hid (Rs P rs2 W8) := HR5.out.later hb58
      have HBw8 : Hid (Below w.heap.size w W8) := HBw5.out.trans (hb58.mono HBw5.out.size)
      have HFr8 : Hid (Far (P + 1) a8 d8) := hF8.down (by omega)
      have HL8 : Hid (L1 W8 false a8 c8 d8 o) := hL8
      obtain ⟨WC, hWC⟩ : ∃ WC, WC = W8.alloc (.cells #[.bool false, .slice a8 d8.length c8, .int .i64 (-154 + b / 8388608 % 256)] 66) := ⟨_, rfl⟩
      have hbC : Below W8.heap.size W8 WC := by rw [hWC]; exact bel0 _ _
      have HCC : Hid (BoxC W8.heap.size (.bool false) (.slice a8 d8.length c8) (.int .i64 (-154 + b / 8388608 % 256)) WC) := by unfold Hid; rw [hWC]; exact BoxC.start _ _ _ _ _
      clear hL8 hF8 hb8 hb6 hb7 hoc7 HS7 hW6 hW7 HBx6 HL5 HH5 HR5 HBw5 hb58 hs56
      go_wp2_with fail
      rw [← hWC]
      refine (nextF_any P rs2 _ (HR8.out.later hbC)).mono ?_
      rintro e W9 ⟨rfl, ht0, ht1, _, ha9⟩
      obtain ⟨t, htd⟩ : ∃ t, t = rs2.headD 0 := ⟨_, rfl⟩
      have HF4 : Hid (F = ((rD true (nearF k b t)).1, (rD true (nearF k b t)).2.1, (rD true (nearF k b t)).2.2.1)) := by unfold Hid; rw [HF3.out, htd]
      rw [← htd] at ht0 ht1 ⊢
      have hP8 : P < W8.heap.size := HR8.out.lt
      have HC9 : Hid (BoxC W8.heap.size (.bool false) (.slice a8 d8.length c8) (.int .i64 (-154 + b / 8388608 % 256)) W9) := HCC.out.aside ha9 (by omega)
      have hB5C := HB8.out.later hbC
      have HB9 : Hid (BoxL W5.heap.size g5 a5 c5 f5 m5 e5 W9) := ⟨(ha9.cell (p := ⟨W5.heap.size, 0, none⟩) hB5C.lt (by simp; omega)).trans hB5C.c0, (ha9.cell (p := ⟨W5.heap.size, 1, none⟩) hB5C.lt (by simp; omega)).trans hB5C.c1, (ha9.cell (p := ⟨W5.heap.size, 2, none⟩) hB5C.lt (by simp; omega)).trans hB5C.c2, hB5C.l1.aside ha9 HFr5.out (by omega), Nat.lt_of_lt_of_le hB5C.lt ha9.size⟩
      have HL9 : Hid (L1 W9 false a8 c8 d8 o) := (HL8.out.later hbC).aside ha9 HFr8.out (by omega)
      have HH9 : Hid (Has3 w.heap.size W9) := HAS.out (HH8.out.later hbC) ha9
      have HBw9 : Hid (Below w.heap.size w W9) := (HBw8.out.trans (hbC.mono HBw8.out.size)).trans (ha9.below (by omega) (by have := HBw8.out.size; have := hbC.size; omega))
      have x0 := HC9.out.c0
      have x1 := HC9.out.c1
      have x2 := HC9.out.c2
      have hjt2 : t.tmod 2 = t % 2 := Int.tmod_eq_emod_of_nonneg ht0
      obtain ⟨hbd0, hbd1⟩ := hbd5
      clear ha9 htd hB5C hbC hWC HCC HB8 HH8 HR8 HBw8 HL8 HF3
      by_cases ht : t % 2 = 1
      · have htb : (t % 2 == 1) = true := by rw [beq_iff_eq]; exact ht
        have HFn : Hid (F = ((rD true (atK 100000 (fNum b) (fExp b - 150) + atK 100000 (-o) (-154 + b / 8388608 % 256))).1, (rD true (atK 100000 (fNum b) (fExp b - 150) + atK 100000 (-o) (-154 + b / 8388608 % 256))).2.1, (rD true (atK 100000 (fNum b) (fExp b - 150) + atK 100000 (-o) (-154 + b / 8388608 % 256))).2.2.1)) := by unfold Hid; rw [HF4.out]; unfold nearF; rw [if_pos ht, HO.out]
        clear ht HF4
        go_wp2_with fail
        refine (neg2_any false a8 c8 d8 o (-154 + b / 8388608 % 256) _ (by omega) HL9.out).mono ?_
        rintro e WN ⟨gN, dN, rfl, hlN, hLN, hbN⟩
        have HB5N : Hid (BoxL W5.heap.size g5 a5 c5 f5 m5 e5 WN) := HB9.out.later hbN
        have HHN : Hid (Has3 w.heap.size WN) := HH9.out.later hbN
        have HBN : Hid (Below w.heap.size w WN) := HBw9.out.trans (hbN.mono HBw9.out.size)
        have HT8 : Hid (BoxC W8.heap.size (.bool false) (.slice a8 d8.length c8) (.int .i64 (-154 + b / 8388608 % 256)) WN) := HC9.out.later hbN
        have q0 := HT8.out.c0
        have q1 := HT8.out.c1
        have q2 := HT8.out.c2
        have q4 := HT8.out.fr
        have v0 := HB5N.out.c0
        have v1 := HB5N.out.c1
        have v2 := HB5N.out.c2
        have hne1 : ¬ W5.heap.size = W8.heap.size := by omega
        have hne2 : ¬ W8.heap.size = W5.heap.size := by omega
        obtain ⟨WX, hWX⟩ : ∃ WX, WX = ((WN.setCell ⟨W8.heap.size, 0, none⟩ (.bool gN)).setCell ⟨W8.heap.size, 1, none⟩ (.slice a8 dN.length c8)).setCell ⟨W8.heap.size, 2, none⟩ (.int .i64 (-154 + b / 8388608 % 256)) := ⟨_, rfl⟩
        have HLX : Hid (L1 WX gN a8 c8 dN (-o)) := by
          unfold Hid; rw [hWX]
          have hfarN : Off8 W8.heap.size a8 dN := fun bb oo e1 e2 => HO8.out bb oo e1 (fun h => e2 (List.length_eq_zero_iff.1 (by rw [h] at hlN; simpa using hlN)))
          exact ((hLN.setOff8 hfarN rfl _).setOff8 hfarN rfl _).setOff8 hfarN rfl _
        have hbX : Below W8.heap.size WN WX := by rw [hWX]; exact (((Below.refl _ _).setCell (by simp) _).setCell (by simp) _).setCell (by simp) _
        have HL5X : Hid (L1 WX g5 a5 c5 f5 m5) := by
          unfold Hid; rw [hWX]
          exact ((HB5N.out.l1.setOff8 HO5.out rfl _).setOff8 HO5.out rfl _).setOff8 HO5.out rfl _
        have HHX : Hid (Has3 w.heap.size WX) := ⟨(hbX.cell (p := ⟨w.heap.size, 0, none⟩) (by simp; omega)).trans HHN.out.r1, (hbX.cell (p := ⟨w.heap.size, 1, none⟩) (by simp; omega)).trans HHN.out.r2, (hbX.cell (p := ⟨w.heap.size, 2, none⟩) (by simp; omega)).trans HHN.out.r3, fun j => (hbX.frozen (p := ⟨w.heap.size, j, none⟩) (by simp; omega)).trans (HHN.out.r4 j), Nat.lt_of_lt_of_le HHN.out.lt hbX.size⟩
        have HBX : Hid (Below w.heap.size w WX) := HBN.out.trans (hbX.mono (by omega))
        have hlX : dN.length ≤ 1 := by omega
        clear hLN hbN
        go_wp2_with fail
        rw [← hWX]
        refine (add2_any g5 gN a5 a8 c5 c8 f5 dN m5 (-o) e5 (-154 + b / 8388608 % 256) _ (by omega) (by omega) (by omega) (by omega) HL5X.out HLX.out).mono ?_
        rintro e WA ⟨gA, aA, cA, fA, rfl, hlA, hLA, _, hbA⟩
        have HHA : Hid (Has3 w.heap.size WA) := HHX.out.later hbA
        have HBA : Hid (Below w.heap.size w WA) := HBX.out.trans (hbA.mono HBX.out.size)
        have HLA : Hid (L1 WA gA aA cA fA _) := hLA
        clear hLA hbA
        go_wp2_with fail
        refine (out2_any gA aA cA fA _ (min e5 (-154 + b / 8388608 % 256)) _ (by omega) (by omega) (by omega) HLA.out).mono ?_
        rintro e WB ⟨G, Z, E, K, aZ, cZ, rfl, hres, hrw, hfar, hbB⟩
        have hval : atK 100000 (sumAt m5 e5 (-o) (-154 + b / 8388608 % 256)) (min e5 (-154 + b / 8388608 % 256)) = atK 100000 (fNum b) (fExp b - 150) + atK 100000 (-o) (-154 + b / 8388608 % 256) := by
          rw [← HN5.out.at (K := 100000) (by omega)]
          exact sumAt_at (by omega) (by omega)
        rw [hval] at hres
        have HFz : Hid (F = (G, Z, E)) := by unfold Hid; rw [HFn.out, rD_is hres]
        have HHB : Hid (Has3 w.heap.size WB) := HHA.out.later hbB
        have HX : Hid (DfOut w G Z E (.returned (.agg #[.bool G, .slice aZ Z.length cZ, .int .i64 E])) (((WB.setCell ⟨w.heap.size, 0, none⟩ (.bool G)).setCell ⟨w.heap.size, 1, none⟩ (.slice aZ Z.length cZ)).setCell ⟨w.heap.size, 2, none⟩ (.int .i64 E))) := by
          have hfr : Far (w.heap.size + 1) aZ Z := hfar.down (by have := HHA.out.lt; omega)
          have hBB : Below w.heap.size w WB := HBA.out.trans (hbB.mono HBA.out.size)
          refine ⟨aZ, cZ, rfl, by have := hres.len.1; omega, hres.len.2, ?_, ((hBB.setCell (by simp) _).setCell (by simp) _).setCell (by simp) _⟩
          exact ((hrw.setAway (hfr.away (by simp)) _).setAway (hfr.away (by simp)) _).setAway (hfr.away (by simp)) _
        have oR : w.heap.size < WB.heap.size := HHB.out.lt
        have r1 := HHB.out.r1
        have r2 := HHB.out.r2
        have r3 := HHB.out.r3
        have r4 := HHB.out.r4
        clear hres hrw hfar hbB hval
        go_wp2
        refine bodyPost_ret (v := .agg #[.bool G, .slice aZ Z.length cZ, .int .i64 E]) (by simp [results, Tryd.results17, go_sem, r1, r2, r3, oR]) rfl ?_
        rw [HFz.out]
        exact HX.out.later (bel0 _ _)
      · have htb : (t % 2 == 1) = false := by rw [beq_eq_false_iff_ne]; exact ht
        have HFn : Hid (F = ((rD true (atK 100000 (fNum b) (fExp b - 150) + atK 100000 o (-154 + b / 8388608 % 256))).1, (rD true (atK 100000 (fNum b) (fExp b - 150) + atK 100000 o (-154 + b / 8388608 % 256))).2.1, (rD true (atK 100000 (fNum b) (fExp b - 150) + atK 100000 o (-154 + b / 8388608 % 256))).2.2.1)) := by unfold Hid; rw [HF4.out]; unfold nearF; rw [if_neg ht, HO.out]
        clear ht HF4
        have v0 := HB9.out.c0
        have v1 := HB9.out.c1
        have v2 := HB9.out.c2
        go_wp2_with fail
        refine (add2_any g5 false a5 a8 c5 c8 f5 d8 m5 o e5 (-154 + b / 8388608 % 256) _ (by omega) (by omega) (by omega) (by omega) HB9.out.l1 HL9.out).mono ?_
        rintro e WA ⟨gA, aA, cA, fA, rfl, hlA, hLA, _, hbA⟩
        have HHA : Hid (Has3 w.heap.size WA) := HH9.out.later hbA
        have HBA : Hid (Below w.heap.size w WA) := HBw9.out.trans (hbA.mono HBw9.out.size)
        have HLA : Hid (L1 WA gA aA cA fA _) := hLA
        clear hLA hbA
        go_wp2_with fail
        refine (out2_any gA aA cA fA _ (min e5 (-154 + b / 8388608 % 256)) _ (by omega) (by omega) (by omega) HLA.out).mono ?_
        rintro e WB ⟨G, Z, E, K, aZ, cZ, rfl, hres, hrw, hfar, hbB⟩
        have hval : atK 100000 (sumAt m5 e5 o (-154 + b / 8388608 % 256)) (min e5 (-154 + b / 8388608 % 256)) = atK 100000 (fNum b) (fExp b - 150) + atK 100000 o (-154 + b / 8388608 % 256) := by
          rw [← HN5.out.at (K := 100000) (by omega)]
          exact sumAt_at (by omega) (by omega)
        rw [hval] at hres
        have HFz : Hid (F = (G, Z, E)) := by unfold Hid; rw [HFn.out, rD_is hres]
        have HHB : Hid (Has3 w.heap.size WB) := HHA.out.later hbB
        have HX : Hid (DfOut w G Z E (.returned (.agg #[.bool G, .slice aZ Z.length cZ, .int .i64 E])) (((WB.setCell ⟨w.heap.size, 0, none⟩ (.bool G)).setCell ⟨w.heap.size, 1, none⟩ (.slice aZ Z.length cZ)).setCell ⟨w.heap.size, 2, none⟩ (.int .i64 E))) := by
          have hfr : Far (w.heap.size + 1) aZ Z := hfar.down (by have := HHA.out.lt; omega)
          have hBB : Below w.heap.size w WB := HBA.out.trans (hbB.mono HBA.out.size)
          refine ⟨aZ, cZ, rfl, by have := hres.len.1; omega, hres.len.2, ?_, ((hBB.setCell (by simp) _).setCell (by simp) _).setCell (by simp) _⟩
          exact ((hrw.setAway (hfr.away (by simp)) _).setAway (hfr.away (by simp)) _).setAway (hfr.away (by simp)) _
        have oR : w.heap.size < WB.heap.size := HHB.out.lt
        have r1 := HHB.out.r1
        have r2 := HHB.out.r2
        have r3 := HHB.out.r3
        have r4 := HHB.out.r4
        clear hres hrw hfar hbB hval
        go_wp2
        refine bodyPost_ret (v := .agg #[.bool G, .slice aZ Z.length cZ, .int .i64 E]) (by simp [results, Tryd.results17, go_sem, r1, r2, r3, oR]) rfl ?_
        rw [HFz.out]
        exact HX.out.later (bel0 _ _)

end Go.Proofs.YtladfpljnaippabDoor


