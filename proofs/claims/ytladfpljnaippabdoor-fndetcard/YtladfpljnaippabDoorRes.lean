/-
  What a function that answers a Big and a code must answer; that it can answer one thing only.
-/
import Derived.Test.YtladfpljnaippabDoorBox
import Derived.Test.YtladfpljnaippabDoorSpecH
import Derived.Test.YtladfpljnaippabDoorImplB
namespace Go.Proofs.YtladfpljnaippabDoor
open Go.RowKit

/-- Sign and limbs write the number x in its one form. -/
structure B1 (g : Bool) (zs : List Int) (x : Int) : Prop where
  can : Canon 4294967296 zs
  num : x = sg g (val 4294967296 zs)
  zero : g = true → zs ≠ []

/-- A Big in new memory that writes the number x with at most n limbs. -/
def BigOut (w : World) (x : Int) (n : Nat) (e : Ending) (w' : World) : Prop :=
  ∃ (g : Bool) (a : Option Addr) (c : Nat) (fs : List Int), e = .returned (.agg #[.bool g, .slice a fs.length c]) ∧ B1 g fs x ∧ (fs.length ≤ n ∧ fs.length ≤ c ∧ c ≤ maxLen) ∧ RowNew .u32 w' w.heap.size a fs ∧ Below w.heap.size w w'

theorem B1.of_signed {g : Bool} {fs : List Int} {v : Int} (hc : Canon 4294967296 fs) (hv : val 4294967296 fs = v) : B1 (g && decide (0 < fs.length)) fs (sg g v) := by
  refine ⟨hc, ?_, ?_⟩
  · by_cases e : fs = []
    · have : v = 0 := by rw [← hv, e]; rfl
      rw [this, hv, this]
      simp [sg]
    · have : 0 < fs.length := by
        rcases Nat.eq_zero_or_pos fs.length with h | h
        · exact absurd (List.length_eq_zero_iff.1 h) e
        · exact h
      simp [this, hv]
  · intro hg e
    rw [e] at hg
    simp at hg

theorem B1.inj {g g' : Bool} {zs ys : List Int} {x : Int} (h : B1 g zs x) (h' : B1 g' ys x) : g = g' ∧ zs = ys := by
  have e := h.num.symm.trans h'.num
  have p1 := val_nonneg (B := 4294967296) (by decide) h.can.1
  have p2 := val_nonneg (B := 4294967296) (by decide) h'.can.1
  cases g <;> cases g'
  · exact ⟨rfl, canon_inj (by decide) h.can h'.can (by simpa [sg] using e)⟩
  · have := val_pos (B := 4294967296) (by decide) h'.can (h'.zero rfl)
    simp [sg] at e
    omega
  · have := val_pos (B := 4294967296) (by decide) h.can (h.zero rfl)
    simp [sg] at e
    omega
  · exact ⟨rfl, canon_inj (by decide) h.can h'.can (by simp [sg] at e; omega)⟩

theorem B1.of_valid {g : Bool} {zs : List Int} (hu : U32 zs) (h : validB g zs = true) : B1 g zs (sg g (val 4294967296 zs)) :=
  ⟨(valid_canon hu h).1, rfl, (valid_canon hu h).2.2⟩

theorem B1.of_l1 {w : World} {g : Bool} {a : Option Addr} {c : Nat} {ds : List Int} {x : Int} (h : L1 w g a c ds x) : B1 g (joinL ds) x :=
  ⟨canon_join h.can, by rw [val_join]; exact h.num, fun hg e => h.zero hg (join_nil e)⟩

/-- The answers G, Z (a Big) and K (a code): ok: both arguments are valid; x: the number. -/
def Res (ok : Bool) (x : Int) (G : Bool) (Z : List Int) (K : Int) : Prop :=
  (ok = false ∧ G = false ∧ Z = [] ∧ K = 1) ∨ (ok = true ∧ ∃ g Z0, B1 g Z0 x ∧ ((Z0.length ≤ 512 ∧ G = g ∧ Z = Z0 ∧ K = 0) ∨ (512 < Z0.length ∧ G = false ∧ Z = [] ∧ K = 2)))

theorem Res.inj {ok : Bool} {x : Int} {G G' : Bool} {Z Z' : List Int} {K K' : Int} (h : Res ok x G Z K) (h' : Res ok x G' Z' K') : G = G' ∧ Z = Z' ∧ K = K' := by
  rcases h with ⟨h0, h1, h2, h3⟩ | ⟨h0, g, Z0, hb, hc⟩
  · rcases h' with ⟨_, h1', h2', h3'⟩ | ⟨h0', _⟩
    · exact ⟨by rw [h1, h1'], by rw [h2, h2'], by rw [h3, h3']⟩
    · rw [h0] at h0'; cases h0'
  · rcases h' with ⟨h0', _⟩ | ⟨_, g', Z0', hb', hc'⟩
    · rw [h0] at h0'; cases h0'
    · obtain ⟨e1, e2⟩ := hb.inj hb'
      subst e1 e2
      rcases hc with ⟨c1, c2, c3, c4⟩ | ⟨c1, c2, c3, c4⟩ <;> rcases hc' with ⟨d1, d2, d3, d4⟩ | ⟨d1, d2, d3, d4⟩
      · exact ⟨by rw [c2, d2], by rw [c3, d3], by rw [c4, d4]⟩
      · omega
      · omega
      · exact ⟨by rw [c2, d2], by rw [c3, d3], by rw [c4, d4]⟩

theorem Res.len {ok : Bool} {x : Int} {G : Bool} {Z : List Int} {K : Int} (h : Res ok x G Z K) : Z.length ≤ 512 := by
  rcases h with ⟨_, _, h2, _⟩ | ⟨_, g, Z0, _, ⟨c1, _, c3, _⟩ | ⟨_, _, c3, _⟩⟩
  · rw [h2]; simp
  · rw [c3]; exact c1
  · rw [c3]; simp

theorem res_lim {g : Bool} {zs : List Int} {x : Int} (h : B1 g zs x) : Res true x (limOut g zs).1 (limOut g zs).2.1 (limOut g zs).2.2 := by
  refine .inr ⟨rfl, g, zs, h, ?_⟩
  unfold limOut
  by_cases h5 : zs.length ≤ 512
  · rw [if_pos h5]; exact .inl ⟨h5, rfl, rfl, rfl⟩
  · rw [if_neg h5]; exact .inr ⟨by omega, rfl, rfl, rfl⟩

theorem res_big {w : World} {g : Bool} {a : Option Addr} {c : Nat} {ds : List Int} {x : Int} (h : L1 w g a c ds x) : Res true x (bigOut g ds).1 (bigOut g ds).2.1 (bigOut g ds).2.2 := by
  refine .inr ⟨rfl, g, joinL ds, B1.of_l1 h, ?_⟩
  unfold bigOut
  by_cases h5 : (joinL ds).length ≤ 512
  · rw [if_pos h5]; exact .inl ⟨h5, rfl, rfl, rfl⟩
  · rw [if_neg h5]; exact .inr ⟨by omega, rfl, rfl, rfl⟩

/-- What the model answers. -/
def OutS (w : World) (ok : Bool) (x : Int) (e : Ending) (w' : World) : Prop :=
  ∃ (G : Bool) (Z : List Int) (K : Int) (a : Option Addr) (c : Nat), e = .returned (.tuple #[.agg #[.bool G, .slice a Z.length c], .int .i64 K]) ∧ Res ok x G Z K ∧ RowAt .u32 w' a Z ∧ Far w.heap.size a Z ∧ Below w.heap.size w w'

/-- What the program answers: in new memory. -/
def OutI (w : World) (ok : Bool) (x : Int) (e : Ending) (w' : World) : Prop :=
  ∃ (G : Bool) (Z : List Int) (K : Int) (a : Option Addr) (c : Nat), e = .returned (.tuple #[.agg #[.bool G, .slice a Z.length c], .int .i64 K]) ∧ Res ok x G Z K ∧ RowNew .u32 w' w.heap.size a Z ∧ Below w.heap.size w w'

/-- A row that is read, behind a store into memory that is newer than B, the row being older; or below the row. -/
theorem RowAt.setAway {k : IntKind} {w : World} {a : Option Addr} {zs : List Int} (h : RowAt k w a zs) {p : Addr} (hp : ∀ b off, a = some ⟨b, off, none⟩ → zs ≠ [] → b ≠ p.block) (v : Value) : RowAt k (w.setCell p v) a zs := by
  rcases h with h | ⟨b, off, h1, h2, h3⟩
  · exact .inl h
  · by_cases e : zs = []
    · exact .inl e
    · refine .inr ⟨b, off, h1, by simpa using h2, fun j hj => ?_⟩
      have := hp b off h1 e
      rw [World.cell?_setCell_other _ _ _ _ (by intro hh; apply this; exact (congrArg Addr.block hh).symm)]
      exact h3 j hj

theorem Far.away {B : Nat} {a : Option Addr} {zs : List Int} (h : Far B a zs) {p : Addr} (hp : p.block < B) : ∀ b off, a = some ⟨b, off, none⟩ → zs ≠ [] → b ≠ p.block := by
  intro b off e hne
  rcases h with h | ⟨b', off', h1, h2⟩
  · exact absurd h hne
  · rw [e] at h1
    injection h1 with h1
    have := congrArg Addr.block h1
    simp at this
    omega

end Go.Proofs.YtladfpljnaippabDoor
