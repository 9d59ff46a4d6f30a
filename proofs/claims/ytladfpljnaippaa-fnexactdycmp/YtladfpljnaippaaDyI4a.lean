/-
  The program's products of dyadic numbers.
-/
import Derived.Test.YtladfpljnaippaaDyI3
namespace Go.Proofs.Ytladfpljnaippaa
open Go.RowKit

/-- The product of the first numbers, and the sum of their exponents. -/
def prodM (ds : List DV) : Int := (ds.map fun d => sg d.g (val 4294967296 d.zs)).foldl (· * ·) 1
def sumE (ds : List DV) : Int := (ds.map fun d => d.E).foldl (· + ·) 0

theorem prodM_snoc (ds : List DV) (d : DV) : prodM (ds ++ [d]) = prodM ds * sg d.g (val 4294967296 d.zs) := by simp [prodM]
theorem sumE_snoc (ds : List DV) (d : DV) : sumE (ds ++ [d]) = sumE ds + d.E := by simp [sumE]

/-- While a product grows: the answer's box (R, still zero), the product's own (A). -/
structure PD (w : World) (R A : Nat) (G : Bool) (a : Option Addr) (c : Nat) (fs : List Int) (m e : Int) (W : World) : Prop where
  r1 : W.cell? ⟨R, 0, none⟩ = some (.bool false)
  r2 : W.cell? ⟨R, 1, none⟩ = some (.slice none 0 0)
  r3 : W.cell? ⟨R, 2, none⟩ = some (.int .i64 0)
  r4 : ∀ j, W.frozen? ⟨R, j, none⟩ = false
  a1 : W.cell? ⟨A, 0, none⟩ = some (.bool G)
  a2 : W.cell? ⟨A, 1, none⟩ = some (.slice a fs.length c)
  a3 : W.cell? ⟨A, 2, none⟩ = some (.int .i64 e)
  a4 : ∀ j, W.frozen? ⟨A, j, none⟩ = false
  b1 : B1 G fs m
  row : RowAt .u32 W a fs
  off : ∀ b o, a = some ⟨b, o, none⟩ → fs ≠ [] → b ≠ A ∧ b ≠ R
  far : Far (w.heap.size + 1) a fs
  ord : w.heap.size ≤ R ∧ R < A ∧ A < W.heap.size
  bel : Below w.heap.size w W
  cap : fs.length ≤ c ∧ c ≤ maxLen

section
variable {w : World} {R A : Nat} {G : Bool} {a : Option Addr} {c : Nat} {fs : List Int} {m e : Int} {W W' : World}

theorem PD.later (h : PD w R A G a c fs m e W) (hb : Below W.heap.size W W') : PD w R A G a c fs m e W' := by
  obtain ⟨o1, o2, o3⟩ := h.ord
  have hs := hb.size
  exact ⟨(hb.cell (by simp; omega)).trans h.r1, (hb.cell (by simp; omega)).trans h.r2, (hb.cell (by simp; omega)).trans h.r3, fun j => (hb.frozen (by simp; omega)).trans (h.r4 j), (hb.cell (by simp; omega)).trans h.a1, (hb.cell (by simp; omega)).trans h.a2, (hb.cell (by simp; omega)).trans h.a3, fun j => (hb.frozen (by simp; omega)).trans (h.a4 j), h.b1, h.row.later hb, h.off, h.far, ⟨o1, o2, by omega⟩, h.bel.trans (hb.mono (by omega)), h.cap⟩

/-- Another number, its row in no box, is laid into the box. -/
theorem PD.lay {G' : Bool} {a' : Option Addr} {c' : Nat} {fs' : List Int} {m' e' : Int} (h : PD w R A G a c fs m e W) (hb : B1 G' fs' m') (hr : RowAt .u32 W a' fs') (ho : ∀ b o, a' = some ⟨b, o, none⟩ → fs' ≠ [] → b ≠ A ∧ b ≠ R) (hf : Far (w.heap.size + 1) a' fs') (hcap : fs'.length ≤ c' ∧ c' ≤ maxLen) : PD w R A G' a' c' fs' m' e' (((W.setCell ⟨A, 0, none⟩ (.bool G')).setCell ⟨A, 1, none⟩ (.slice a' fs'.length c')).setCell ⟨A, 2, none⟩ (.int .i64 e')) := by
  obtain ⟨o1, o2, o3⟩ := h.ord
  have hbel : Below A W (((W.setCell ⟨A, 0, none⟩ (.bool G')).setCell ⟨A, 1, none⟩ (.slice a' fs'.length c')).setCell ⟨A, 2, none⟩ (.int .i64 e')) := (((Below.refl _ _).setCell (by simp) _).setCell (by simp) _).setCell (by simp) _
  refine ⟨(hbel.cell (by simp; omega)).trans h.r1, (hbel.cell (by simp; omega)).trans h.r2, (hbel.cell (by simp; omega)).trans h.r3, fun j => (hbel.frozen (by simp; omega)).trans (h.r4 j), ?_, ?_, ?_, ?_, hb, ?_, ho, hf, ⟨o1, o2, by simpa using o3⟩, h.bel.trans (hbel.mono (by omega)), hcap⟩
  · rw [World.cell?_setCell_other _ _ _ _ (by simp), World.cell?_setCell_other _ _ _ _ (by simp)]
    exact World.cell?_setCell_same _ _ _ h.a1
  · rw [World.cell?_setCell_other _ _ _ _ (by simp)]
    refine World.cell?_setCell_same _ _ _ (u := .slice a fs.length c) ?_
    rw [World.cell?_setCell_other _ _ _ _ (by simp)]
    exact h.a2
  · refine World.cell?_setCell_same _ _ _ (u := .int .i64 e) ?_
    rw [World.cell?_setCell_other _ _ _ _ (by simp), World.cell?_setCell_other _ _ _ _ (by simp)]
    exact h.a3
  · intro j; rw [World.frozen?_setCell, World.frozen?_setCell, World.frozen?_setCell]; exact h.a4 j
  · exact ((hr.setAway (fun b o e1 hne => (ho b o e1 hne).1) _).setAway (fun b o e1 hne => (ho b o e1 hne).1) _).setAway (fun b o e1 hne => (ho b o e1 hne).1) _

theorem Far.offs {B : Nat} {a' : Option Addr} {fs' : List Int} (hf : Far B a' fs') (hR : R < B) (hA : A < B) : ∀ b o, a' = some ⟨b, o, none⟩ → fs' ≠ [] → b ≠ A ∧ b ≠ R := by
  intro b o e1 hne
  exact ⟨hf.away (p := ⟨A, 0, none⟩) (by simpa using hA) b o e1 hne, hf.away (p := ⟨R, 0, none⟩) (by simpa using hR) b o e1 hne⟩

/-- The next product, in memory behind, is laid into the box. -/
theorem PD.put {G' : Bool} {a' : Option Addr} {c' : Nat} {fs' : List Int} {m' e' : Int} {B : Nat} (h : PD w R A G a c fs m e W) (hb : B1 G' fs' m') (hr : RowAt .u32 W a' fs') (hf : Far B a' fs') (hB : A < B) (hcap : fs'.length ≤ c' ∧ c' ≤ maxLen) : PD w R A G' a' c' fs' m' e' (((W.setCell ⟨A, 0, none⟩ (.bool G')).setCell ⟨A, 1, none⟩ (.slice a' fs'.length c')).setCell ⟨A, 2, none⟩ (.int .i64 e')) := by
  obtain ⟨o1, o2, o3⟩ := h.ord
  exact h.lay hb hr (hf.offs (by omega) hB) (hf.down (by omega)) hcap

end

/-- What product hands back. -/
def ProdOut (w : World) (m e' : Int) (n : Nat) (e : Ending) (w' : World) : Prop :=
  ∃ (G : Bool) (a : Option Addr) (c : Nat) (fs : List Int), e = .returned (.agg #[.bool G, .slice a fs.length c, .int .i64 e']) ∧ B1 G fs m ∧ (fs.length ≤ n ∧ fs.length ≤ c ∧ c ≤ maxLen) ∧ RowAt .u32 w' a fs ∧ Far w.heap.size a fs ∧ Below w.heap.size w w'

/-- What a call of product answers. -/
def ProdSays : Prop := ∀ (b off c : Nat) (ds : List DV) (w : World), ds.length ≤ 3 → (∀ d, d ∈ ds → d.zs.length ≤ 512 ∧ -20000 ≤ d.E ∧ d.E ≤ 20000 ∧ B1 d.g d.zs (sg d.g (val 4294967296 d.zs))) → RowD w b off ds →
    Calls Try.prog 66 #[.slice (some ⟨b, off, none⟩) ds.length c] w fun e w' => ProdOut w (prodM ds) (sumE ds) (513 * ds.length + 1) e w'

end Go.Proofs.Ytladfpljnaippaa
