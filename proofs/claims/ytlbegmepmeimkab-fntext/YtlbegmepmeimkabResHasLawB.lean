/-
  What a function that answers a Big and a code must answer; that it can answer one thing only.
-/
import Derived.Test.YtlbegmepmeimkabBox
import Derived.Test.YtlbegmepmeimkabSpecFSpecGSpecH
import Derived.Test.YtlbegmepmeimkabImplB
import Derived.Test.YtlbegmepmeimkabBase
import Derived.Test.YtlbegmepmeimkabMarks
import Derived.Test.YtlbegmepmeimkabBigs
namespace Go.Proofs.Ytlbegmepmeimkab
open Go.RowKit

/-- Sign and limbs write the number x in its one form. -/
structure B1 (g : Bool) (zs : List Int) (x : Int) : Prop where
  can : Canon 4294967296 zs
  num : x = sg g (val 4294967296 zs)
  zero : g = true → zs ≠ []

/-- A Big in new memory that writes the number x with at most n limbs. -/
def BigOut (w : World) (x : Int) (n : Nat) (e : Ending) (w' : World) : Prop :=
  ∃ (g : Bool) (a : Option Addr) (c : Nat) (fs : List Int), e = .returned (.agg #[.bool g, .slice a fs.length c]) ∧ B1 g fs x ∧ (fs.length ≤ n ∧ fs.length ≤ c ∧ c ≤ maxLen) ∧ RowNew .u32 w' w.heap.size a fs ∧ Below w.heap.size w w'

theorem B1.of_signed {g : Bool} {fs : List Int} {v : Int} (hc : Canon 4294967296 fs) (hv : val 4294967296 fs = v) : B1 (g && decide (0 < fs.length)) fs (sg g v) := by
  refine ⟨hc, ?_, ?_⟩
  · by_cases e : fs = []
    · have : v = 0 := by rw [← hv, e]; rfl
      rw [this, hv, this]
      simp [sg]
    · have : 0 < fs.length := by
        rcases Nat.eq_zero_or_pos fs.length with h | h
        · exact absurd (List.length_eq_zero_iff.1 h) e
        · exact h
      simp [this, hv]
  · intro hg e
    rw [e] at hg
    simp at hg

theorem B1.inj {g g' : Bool} {zs ys : List Int} {x : Int} (h : B1 g zs x) (h' : B1 g' ys x) : g = g' ∧ zs = ys := by
  have e := h.num.symm.trans h'.num
  have p1 := val_nonneg (B := 4294967296) (by decide) h.can.1
  have p2 := val_nonneg (B := 4294967296) (by decide) h'.can.1
  cases g <;> cases g'
  · exact ⟨rfl, canon_inj (by decide) h.can h'.can (by simpa [sg] using e)⟩
  · have := val_pos (B := 4294967296) (by decide) h'.can (h'.zero rfl)
    simp [sg] at e
    omega
  · have := val_pos (B := 4294967296) (by decide) h.can (h.zero rfl)
    simp [sg] at e
    omega
  · exact ⟨rfl, canon_inj (by decide) h.can h'.can (by simp [sg] at e; omega)⟩

theorem B1.of_valid {g : Bool} {zs : List Int} (hu : U32 zs) (h : validB g zs = true) : B1 g zs (sg g (val 4294967296 zs)) :=
  ⟨(valid_canon hu h).1, rfl, (valid_canon hu h).2.2⟩

theorem B1.of_l1 {w : World} {g : Bool} {a : Option Addr} {c : Nat} {ds : List Int} {x : Int} (h : L1 w g a c ds x) : B1 g (joinL ds) x :=
  ⟨canon_join h.can, by rw [val_join]; exact h.num, fun hg e => h.zero hg (join_nil e)⟩

/-- The answers G, Z (a Big) and K (a code): ok: both arguments are valid; x: the number. -/
def Res (ok : Bool) (x : Int) (G : Bool) (Z : List Int) (K : Int) : Prop :=
  (ok = false ∧ G = false ∧ Z = [] ∧ K = 1) ∨ (ok = true ∧ ∃ g Z0, B1 g Z0 x ∧ ((Z0.length ≤ 512 ∧ G = g ∧ Z = Z0 ∧ K = 0) ∨ (512 < Z0.length ∧ G = false ∧ Z = [] ∧ K = 2)))

theorem Res.inj {ok : Bool} {x : Int} {G G' : Bool} {Z Z' : List Int} {K K' : Int} (h : Res ok x G Z K) (h' : Res ok x G' Z' K') : G = G' ∧ Z = Z' ∧ K = K' := by
  rcases h with ⟨h0, h1, h2, h3⟩ | ⟨h0, g, Z0, hb, hc⟩
  · rcases h' with ⟨_, h1', h2', h3'⟩ | ⟨h0', _⟩
    · exact ⟨by rw [h1, h1'], by rw [h2, h2'], by rw [h3, h3']⟩
    · rw [h0] at h0'; cases h0'
  · rcases h' with ⟨h0', _⟩ | ⟨_, g', Z0', hb', hc'⟩
    · rw [h0] at h0'; cases h0'
    · obtain ⟨e1, e2⟩ := hb.inj hb'
      subst e1 e2
      rcases hc with ⟨c1, c2, c3, c4⟩ | ⟨c1, c2, c3, c4⟩ <;> rcases hc' with ⟨d1, d2, d3, d4⟩ | ⟨d1, d2, d3, d4⟩
      · exact ⟨by rw [c2, d2], by rw [c3, d3], by rw [c4, d4]⟩
      · omega
      · omega
      · exact ⟨by rw [c2, d2], by rw [c3, d3], by rw [c4, d4]⟩

theorem Res.len {ok : Bool} {x : Int} {G : Bool} {Z : List Int} {K : Int} (h : Res ok x G Z K) : Z.length ≤ 512 := by
  rcases h with ⟨_, _, h2, _⟩ | ⟨_, g, Z0, _, ⟨c1, _, c3, _⟩ | ⟨_, _, c3, _⟩⟩
  · rw [h2]; simp
  · rw [c3]; exact c1
  · rw [c3]; simp

theorem res_lim {g : Bool} {zs : List Int} {x : Int} (h : B1 g zs x) : Res true x (limOut g zs).1 (limOut g zs).2.1 (limOut g zs).2.2 := by
  refine .inr ⟨rfl, g, zs, h, ?_⟩
  unfold limOut
  by_cases h5 : zs.length ≤ 512
  · rw [if_pos h5]; exact .inl ⟨h5, rfl, rfl, rfl⟩
  · rw [if_neg h5]; exact .inr ⟨by omega, rfl, rfl, rfl⟩

theorem res_big {w : World} {g : Bool} {a : Option Addr} {c : Nat} {ds : List Int} {x : Int} (h : L1 w g a c ds x) : Res true x (bigOut g ds).1 (bigOut g ds).2.1 (bigOut g ds).2.2 := by
  refine .inr ⟨rfl, g, joinL ds, B1.of_l1 h, ?_⟩
  unfold bigOut
  by_cases h5 : (joinL ds).length ≤ 512
  · rw [if_pos h5]; exact .inl ⟨h5, rfl, rfl, rfl⟩
  · rw [if_neg h5]; exact .inr ⟨by omega, rfl, rfl, rfl⟩

/-- What the model answers. -/
def OutS (w : World) (ok : Bool) (x : Int) (e : Ending) (w' : World) : Prop :=
  ∃ (G : Bool) (Z : List Int) (K : Int) (a : Option Addr) (c : Nat), e = .returned (.tuple #[.agg #[.bool G, .slice a Z.length c], .int .i64 K]) ∧ Res ok x G Z K ∧ RowAt .u32 w' a Z ∧ Far w.heap.size a Z ∧ Below w.heap.size w w'

/-- What the program answers: in new memory. -/
def OutI (w : World) (ok : Bool) (x : Int) (e : Ending) (w' : World) : Prop :=
  ∃ (G : Bool) (Z : List Int) (K : Int) (a : Option Addr) (c : Nat), e = .returned (.tuple #[.agg #[.bool G, .slice a Z.length c], .int .i64 K]) ∧ Res ok x G Z K ∧ RowNew .u32 w' w.heap.size a Z ∧ Below w.heap.size w w'

/-- A row that is read, behind a store into memory that is newer than B, the row being older; or below the row. -/
theorem RowAt.setAway {k : IntKind} {w : World} {a : Option Addr} {zs : List Int} (h : RowAt k w a zs) {p : Addr} (hp : ∀ b off, a = some ⟨b, off, none⟩ → zs ≠ [] → b ≠ p.block) (v : Value) : RowAt k (w.setCell p v) a zs := by
  rcases h with h | ⟨b, off, h1, h2, h3⟩
  · exact .inl h
  · by_cases e : zs = []
    · exact .inl e
    · refine .inr ⟨b, off, h1, by simpa using h2, fun j hj => ?_⟩
      have := hp b off h1 e
      rw [World.cell?_setCell_other _ _ _ _ (by intro hh; apply this; exact (congrArg Addr.block hh).symm)]
      exact h3 j hj

theorem Far.away {B : Nat} {a : Option Addr} {zs : List Int} (h : Far B a zs) {p : Addr} (hp : p.block < B) : ∀ b off, a = some ⟨b, off, none⟩ → zs ≠ [] → b ≠ p.block := by
  intro b off e hne
  rcases h with h | ⟨b', off', h1, h2⟩
  · exact absurd h hne
  · rw [e] at h1
    injection h1 with h1
    have := congrArg Addr.block h1
    simp at this
    omega

end Go.Proofs.Ytlbegmepmeimkab

/-
  A box that is still zero; what a region carries.
-/
namespace Go.Proofs.Ytlbegmepmeimkab
open Go.RowKit

/-- A box of a Big that is still zero. -/
structure Has (b : Nat) (W : World) : Prop where
  r1 : W.cell? ⟨b, 0, none⟩ = some (.bool false)
  r2 : W.cell? ⟨b, 1, none⟩ = some (.slice none 0 0)
  r3 : ∀ j, W.frozen? ⟨b, j, none⟩ = false
  lt : b < W.heap.size

theorem Has.new (W : World) (t : TypeId) : Has W.heap.size (W.alloc (.cells #[.bool false, .slice none 0 0] t)) := ⟨by simp [go_sem], by simp [go_sem], by intro j; simp [go_sem], by simp⟩

theorem Has.later {b : Nat} {W W' : World} (h : Has b W) (hb : Below W.heap.size W W') : Has b W' :=
  ⟨(hb.cell (p := ⟨b, 0, none⟩) h.lt).trans h.r1, (hb.cell (p := ⟨b, 1, none⟩) h.lt).trans h.r2, fun j => (hb.frozen (p := ⟨b, j, none⟩) h.lt).trans (h.r3 j), Nat.lt_of_lt_of_le h.lt hb.size⟩

/-- The last of the facts that a region carries. -/
theorem held_last {p q r s t : Prop} (h : p ∧ q ∧ r ∧ s ∧ t) : t := h.2.2.2.2

end Go.Proofs.Ytlbegmepmeimkab

/-
  What holds of memory while a law over a function of two Bigs runs.
-/
namespace Go.Proofs.Ytlbegmepmeimkab
open Go.RowKit

/-- The boxes of the law's arguments (behind w), of the model's answer (T1), of the two copies (T2, T3), of the program's answer (T4); where each row lies. -/
structure LB (w : World) (g g' : Bool) (a a' : Option Addr) (c c' : Nat) (zs ys : List Int) (G : Bool) (Z : List Int) (aw : Option Addr) (cw : Nat) (x0 x1 ag : Option Addr) (cg T1 TE T2 T3 T4 : Nat) (Wsp : World) (X0 X1 ZG : List Int) (W : World) : Prop where
  bx : Bx2 w (.bool g) (.slice a zs.length c) (.bool g') (.slice a' ys.length c') W
  w0 : W.cell? ⟨T1, 0, none⟩ = some (.bool G)
  w1 : W.cell? ⟨T1, 1, none⟩ = some (.slice aw Z.length cw)
  p0 : W.cell? ⟨T2, 0, none⟩ = some (.bool g)
  p1 : W.cell? ⟨T2, 1, none⟩ = some (.slice x0 zs.length zs.length)
  p2 : W.cell? ⟨T3, 0, none⟩ = some (.bool g')
  p3 : W.cell? ⟨T3, 1, none⟩ = some (.slice x1 ys.length ys.length)
  g0 : W.cell? ⟨T4, 0, none⟩ = some (.bool G)
  g1 : W.cell? ⟨T4, 1, none⟩ = some (.slice ag Z.length cg)
  o0 : w.heap.size + 1 < T1
  o1 : T1 < TE
  oE : TE ≤ T2
  o2 : T2 < T3
  o3 : T3 < T4
  o4 : T4 < W.heap.size
  rw : RowAt .u32 Wsp aw Z
  rwT : Wsp.heap.size = TE
  rwB : Below TE Wsp W
  r0 : RowIn .u32 W TE T2 x0 X0
  r1 : RowIn .u32 W (T2 + 1) T3 x1 X1
  rg : RowIn .u32 W (T3 + 1) T4 ag ZG

section
variable {w : World} {g g' : Bool} {a a' : Option Addr} {c c' : Nat} {zs ys : List Int} {G : Bool} {Z : List Int} {aw : Option Addr} {cw : Nat} {x0 x1 ag : Option Addr} {cg T1 TE T2 T3 T4 : Nat} {Wsp : World} {X0 X1 ZG : List Int} {W W' W1 : World}

theorem LB.wrow (h : LB w g g' a a' c c' zs ys G Z aw cw x0 x1 ag cg T1 TE T2 T3 T4 Wsp X0 X1 ZG W) : RowAt .u32 W aw Z := h.rw.later (by rw [h.rwT]; exact h.rwB)

theorem LB.later (h : LB w g g' a a' c c' zs ys G Z aw cw x0 x1 ag cg T1 TE T2 T3 T4 Wsp X0 X1 ZG W) (hb : Below W.heap.size W W') : LB w g g' a a' c c' zs ys G Z aw cw x0 x1 ag cg T1 TE T2 T3 T4 Wsp X0 X1 ZG W' := by
  have h1 := h.o1; have hE := h.oE; have h2 := h.o2; have h3 := h.o3; have h4 := h.o4
  exact ⟨h.bx.later hb, (hb.cell (by simp; omega)).trans h.w0, (hb.cell (by simp; omega)).trans h.w1, (hb.cell (by simp; omega)).trans h.p0, (hb.cell (by simp; omega)).trans h.p1, (hb.cell (by simp; omega)).trans h.p2, (hb.cell (by simp; omega)).trans h.p3,
    (hb.cell (by simp; omega)).trans h.g0, (hb.cell (by simp; omega)).trans h.g1, h.o0, h1, hE, h2, h3, Nat.lt_of_lt_of_le h4 hb.size, h.rw, h.rwT, h.rwB.trans (hb.mono (by omega)), h.r0.later hb, h.r1.later hb, h.rg.later hb⟩

/-- A write within blocks that hold none of the boxes. -/
theorem LB.turn {lo hi : Nat} (h : LB w g g' a a' c c' zs ys G Z aw cw x0 x1 ag cg T1 TE T2 T3 T4 Wsp X0 X1 ZG W) (hw : Within lo hi W W') (hT : (lo = TE ∧ hi = T2) ∨ (lo = T2 + 1 ∧ hi = T3) ∨ (lo = T3 + 1 ∧ hi = T4))
    {X0' X1' ZG' : List Int} (h0 : RowIn .u32 W' TE T2 x0 X0') (h1' : RowIn .u32 W' (T2 + 1) T3 x1 X1') (hg' : RowIn .u32 W' (T3 + 1) T4 ag ZG') : LB w g g' a a' c c' zs ys G Z aw cw x0 x1 ag cg T1 TE T2 T3 T4 Wsp X0' X1' ZG' W' := by
  have h1 := h.o1; have hE := h.oE; have h2 := h.o2; have h3 := h.o3; have h4 := h.o4; have h00 := h.o0
  have hlo : TE ≤ lo := by omega
  have hB := hw.below
  refine ⟨?_, (hw.cell (by simp; omega)).trans h.w0, (hw.cell (by simp; omega)).trans h.w1, (hw.cell (by simp; omega)).trans h.p0, (hw.cell (by simp; omega)).trans h.p1, (hw.cell (by simp; omega)).trans h.p2, (hw.cell (by simp; omega)).trans h.p3,
    (hw.cell (by simp; omega)).trans h.g0, (hw.cell (by simp; omega)).trans h.g1, h.o0, h1, hE, h2, h3, by rw [hw.size]; exact h4, h.rw, h.rwT, h.rwB.trans (hB.mono (by omega)), h0, h1', hg'⟩
  exact ⟨(hw.cell (by simp; omega)).trans h.bx.q0, (hw.cell (by simp; omega)).trans h.bx.q1, (hw.cell (by simp; omega)).trans h.bx.q2, (hw.cell (by simp; omega)).trans h.bx.q3, by rw [hw.size]; exact h.bx.le, h.bx.bel.trans (hB.mono (by omega))⟩

theorem LB.mark0 (h : LB w g g' a a' c c' zs ys G Z aw cw x0 x1 ag cg T1 TE T2 T3 T4 Wsp X0 X1 ZG W) {X0' : List Int} (hr : RowIn .u32 W' TE T2 x0 X0') (hw : ∃ W1, Below W.heap.size W W1 ∧ Within TE T2 W1 W') : LB w g g' a a' c c' zs ys G Z aw cw x0 x1 ag cg T1 TE T2 T3 T4 Wsp X0' X1 ZG W' := by
  obtain ⟨W1, hb, hwi⟩ := hw
  have h2 := h.later hb
  have o1 := h.o1; have oE := h.oE; have o2 := h.o2; have o3 := h.o3
  exact h2.turn hwi (.inl ⟨rfl, rfl⟩) hr (h2.r1.apart hwi (by omega)) (h2.rg.apart hwi (by omega))

theorem LB.mark1 (h : LB w g g' a a' c c' zs ys G Z aw cw x0 x1 ag cg T1 TE T2 T3 T4 Wsp X0 X1 ZG W) {X1' : List Int} (hr : RowIn .u32 W' (T2 + 1) T3 x1 X1') (hw : ∃ W1, Below W.heap.size W W1 ∧ Within (T2 + 1) T3 W1 W') : LB w g g' a a' c c' zs ys G Z aw cw x0 x1 ag cg T1 TE T2 T3 T4 Wsp X0 X1' ZG W' := by
  obtain ⟨W1, hb, hwi⟩ := hw
  have h2 := h.later hb
  have o1 := h.o1; have oE := h.oE; have o2 := h.o2; have o3 := h.o3
  exact h2.turn hwi (.inr (.inl ⟨rfl, rfl⟩)) (h2.r0.apart hwi (by omega)) hr (h2.rg.apart hwi (by omega))

theorem LB.markg (h : LB w g g' a a' c c' zs ys G Z aw cw x0 x1 ag cg T1 TE T2 T3 T4 Wsp X0 X1 ZG W) {ZG' : List Int} (hr : RowIn .u32 W' (T3 + 1) T4 ag ZG') (hw : ∃ W1, Below W.heap.size W W1 ∧ Within (T3 + 1) T4 W1 W') : LB w g g' a a' c c' zs ys G Z aw cw x0 x1 ag cg T1 TE T2 T3 T4 Wsp X0 X1 ZG' W' := by
  obtain ⟨W1, hb, hwi⟩ := hw
  have h2 := h.later hb
  have o1 := h.o1; have oE := h.oE; have o2 := h.o2; have o3 := h.o3
  exact h2.turn hwi (.inr (.inr ⟨rfl, rfl⟩)) (h2.r0.apart hwi (by omega)) (h2.r1.apart hwi (by omega)) hr

/-- What the regions of the law need. -/
theorem LB.held (h : LB w g g' a a' c c' zs ys G Z aw cw x0 x1 ag cg T1 TE T2 T3 T4 Wsp X0 X1 ZG W) (hb : Below W.heap.size W W') :
    W'.cell? ⟨w.heap.size, 0, none⟩ = some (.bool g) ∧ W'.cell? ⟨w.heap.size, 1, none⟩ = some (.slice a zs.length c) ∧ W'.cell? ⟨w.heap.size + 1, 0, none⟩ = some (.bool g') ∧ W'.cell? ⟨w.heap.size + 1, 1, none⟩ = some (.slice a' ys.length c') ∧
    W'.cell? ⟨T2, 0, none⟩ = some (.bool g) ∧ W'.cell? ⟨T2, 1, none⟩ = some (.slice x0 zs.length zs.length) ∧ W'.cell? ⟨T3, 0, none⟩ = some (.bool g') ∧ W'.cell? ⟨T3, 1, none⟩ = some (.slice x1 ys.length ys.length) ∧ Below W.heap.size W W' :=
  ⟨(h.later hb).bx.q0, (h.later hb).bx.q1, (h.later hb).bx.q2, (h.later hb).bx.q3, (h.later hb).p0, (h.later hb).p1, (h.later hb).p2, (h.later hb).p3, hb⟩

end

/-- The arguments' boxes and the model's answer's box. -/
structure LA (w : World) (g g' : Bool) (a a' : Option Addr) (c c' : Nat) (zs ys : List Int) (G : Bool) (Z : List Int) (aw : Option Addr) (cw T1 : Nat) (W : World) : Prop where
  bx : Bx2 w (.bool g) (.slice a zs.length c) (.bool g') (.slice a' ys.length c') W
  w0 : W.cell? ⟨T1, 0, none⟩ = some (.bool G)
  w1 : W.cell? ⟨T1, 1, none⟩ = some (.slice aw Z.length cw)
  o0 : w.heap.size + 1 < T1
  o1 : T1 < W.heap.size
  rw : RowAt .u32 W aw Z

theorem LA.later {w : World} {g g' : Bool} {a a' : Option Addr} {c c' : Nat} {zs ys : List Int} {G : Bool} {Z : List Int} {aw : Option Addr} {cw T1 : Nat} {W W' : World} (h : LA w g g' a a' c c' zs ys G Z aw cw T1 W) (hb : Below W.heap.size W W') : LA w g g' a a' c c' zs ys G Z aw cw T1 W' := by
  have h1 := h.o1
  exact ⟨h.bx.later hb, (hb.cell (by simp; omega)).trans h.w0, (hb.cell (by simp; omega)).trans h.w1, h.o0, Nat.lt_of_lt_of_le h1 hb.size, h.rw.later hb⟩

/-- The answer's box is laid behind the call. -/
theorem LA.start {w : World} {g g' : Bool} {a a' : Option Addr} {c c' : Nat} {zs ys : List Int} {G : Bool} {Z : List Int} {aw : Option Addr} {cw : Nat} {W : World} {t : TypeId} (h : Bx2 w (.bool g) (.slice a zs.length c) (.bool g') (.slice a' ys.length c') W) (hr : RowAt .u32 W aw Z) :
    LA w g g' a a' c c' zs ys G Z aw cw W.heap.size (W.alloc (.cells #[.bool G, .slice aw Z.length cw] t)) :=
  ⟨h.later (bel0 _ _), by simp [go_sem], by simp [go_sem], h.le, by simp, hr.later (bel0 _ _)⟩

/-- The answer's box was laid ahead of the call. -/
theorem LA.set {w : World} {g g' : Bool} {a a' : Option Addr} {c c' : Nat} {zs ys : List Int} {G : Bool} {Z : List Int} {aw : Option Addr} {cw b B : Nat} {W0 W : World} (h : Bx2 w (.bool g) (.slice a zs.length c) (.bool g') (.slice a' ys.length c') W) (hr : RowAt .u32 W aw Z) (hf : Far B aw Z) (hb : b < B) (hh : Has b W)
    (hlo : W0.heap.size ≤ b) (h0 : w.heap.size + 1 + 1 ≤ W0.heap.size) : LA w g g' a a' c c' zs ys G Z aw cw b ((W.setCell ⟨b, 0, none⟩ (.bool G)).setCell ⟨b, 1, none⟩ (.slice aw Z.length cw)) := by
  have hbel : Below (w.heap.size + 1 + 1) W ((W.setCell ⟨b, 0, none⟩ (.bool G)).setCell ⟨b, 1, none⟩ (.slice aw Z.length cw)) := ((Below.refl _ _).setCell (by simp; omega) _).setCell (by simp; omega) _
  refine ⟨⟨(hbel.cell (by simp; omega)).trans h.q0, (hbel.cell (by simp; omega)).trans h.q1, (hbel.cell (by simp)).trans h.q2, (hbel.cell (by simp)).trans h.q3, by simpa using h.le, h.bel.trans (hbel.mono (by omega))⟩, ?_, ?_, by omega, by simpa using hh.lt, ?_⟩
  · rw [World.cell?_setCell_other _ _ _ _ (by simp)]
    exact World.cell?_setCell_same _ _ _ hh.r1
  · refine World.cell?_setCell_same _ _ _ (u := .slice none 0 0) ?_
    rw [World.cell?_setCell_other _ _ _ _ (by simp)]
    exact hh.r2
  · exact (hr.setAway (hf.away hb) _).setAway (hf.away hb) _

/-- From the four boxes laid one behind the other. -/
theorem LB.start {w : World} {g g' : Bool} {a a' : Option Addr} {c c' : Nat} {zs ys : List Int} {G : Bool} {Z : List Int} {aw : Option Addr} {cw : Nat} {x0 x1 ag : Option Addr} {cg T1 : Nat} {W4 W5 W6 W7 W8 : World} {t t' t2 : TypeId} (h4 : LA w g g' a a' c c' zs ys G Z aw cw T1 W4) (hb5 : Below W4.heap.size W4 W5)
    (hr0 : RowNew .u32 W5 W4.heap.size x0 zs) (hb6 : Below (W5.alloc (.cells #[.bool g, .slice x0 zs.length zs.length] t)).heap.size (W5.alloc (.cells #[.bool g, .slice x0 zs.length zs.length] t)) W6) (hr1 : RowNew .u32 W6 (W5.heap.size + 1) x1 ys)
    (hb7 : Below (W6.alloc (.cells #[.bool g', .slice x1 ys.length ys.length] t')).heap.size (W6.alloc (.cells #[.bool g', .slice x1 ys.length ys.length] t')) W7) (hrg : RowNew .u32 W7 (W6.heap.size + 1) ag Z)
    (h8 : W8 = W7.alloc (.cells #[.bool G, .slice ag Z.length cg] t2)) :
    LB w g g' a a' c c' zs ys G Z aw cw x0 x1 ag cg T1 W4.heap.size W5.heap.size W6.heap.size W7.heap.size W4 zs ys Z W8 := by
  subst h8
  have z5 := hb5.size
  have z6 := hb6.size
  have z7 := hb7.size
  simp at z6 z7
  have hle := h4.bx.le
  have o1 := h4.o1
  have b67 : Below W6.heap.size W6 (W7.alloc (.cells #[.bool G, .slice ag Z.length cg] t2)) := ((bel0 _ _).trans (hb7.mono (by simp))).alloc (by omega) _
  have b56 : Below W5.heap.size W5 W6 := (bel0 _ _).trans (hb6.mono (by simp))
  have b57 : Below W5.heap.size W5 (W7.alloc (.cells #[.bool G, .slice ag Z.length cg] t2)) := b56.trans (b67.mono (by omega))
  have b47 : Below W4.heap.size W4 (W7.alloc (.cells #[.bool G, .slice ag Z.length cg] t2)) := hb5.trans (b57.mono (by omega))
  have h := h4.later b47
  have e0 : ∀ j, (W7.alloc (.cells #[.bool G, .slice ag Z.length cg] t2)).cell? ⟨W5.heap.size, j, none⟩ = #[Value.bool g, .slice x0 zs.length zs.length][j]? := by
    intro j
    rw [b67.cell (by simp; omega), hb6.cell (by simp), World.cell?_alloc_at _ _ _ _ rfl]
  have e1 : ∀ j, (W7.alloc (.cells #[.bool G, .slice ag Z.length cg] t2)).cell? ⟨W6.heap.size, j, none⟩ = #[Value.bool g', .slice x1 ys.length ys.length][j]? := by
    intro j
    rw [World.cell?_alloc_past _ _ _ (by omega), hb7.cell (by simp), World.cell?_alloc_at _ _ _ _ rfl]
  exact ⟨h.bx, h.w0, h.w1, by rw [e0]; rfl, by rw [e0]; rfl, by rw [e1]; rfl, by rw [e1]; rfl, by simp [go_sem], by simp [go_sem], h.o0, o1, z5, by omega, by omega, by simp, h4.rw, rfl, b47,
    hr0.rowIn.later b57, hr1.rowIn.later b67, hrg.rowIn.later (bel0 _ _)⟩

end Go.Proofs.Ytlbegmepmeimkab
