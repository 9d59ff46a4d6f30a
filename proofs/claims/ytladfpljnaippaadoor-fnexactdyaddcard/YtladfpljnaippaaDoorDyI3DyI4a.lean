/-
  Lists of dyadic numbers in the program: are all valid?
-/
import Derived.Test.YtladfpljnaippaaDoorDy1Dy3hDySAdd
import Derived.Test.YtladfpljnaippaaDoorDyI2
namespace Go.Proofs.YtladfpljnaippaaDoor
open Go.RowKit

/-- A Dyadic's parts. -/
structure DV where
  g : Bool
  a : Option Addr
  c : Nat
  zs : List Int
  E : Int

instance : Inhabited DV := ⟨⟨false, none, 0, [], 0⟩⟩

/-- Block b from off on holds the Dyadics ds. -/
structure RowD (w : World) (b off : Nat) (ds : List DV) : Prop where
  lt : b < w.heap.size
  c0 : ∀ i, i < ds.length → w.cell? ⟨b, off + i * 3, none⟩ = some (.bool (ds.getD i default).g)
  c1 : ∀ i, i < ds.length → w.cell? ⟨b, off + i * 3 + 1, none⟩ = some (.slice (ds.getD i default).a (ds.getD i default).zs.length (ds.getD i default).c)
  c2 : ∀ i, i < ds.length → w.cell? ⟨b, off + i * 3 + 2, none⟩ = some (.int .i64 (ds.getD i default).E)
  row : ∀ i, i < ds.length → RowAt .u32 w (ds.getD i default).a (ds.getD i default).zs

theorem RowD.later {w w' : World} {b off : Nat} {ds : List DV} (h : RowD w b off ds) (hb : Below w.heap.size w w') : RowD w' b off ds :=
  ⟨Nat.lt_of_lt_of_le h.lt hb.size, fun i hi => (hb.cell (p := ⟨b, off + i * 3, none⟩) h.lt).trans (h.c0 i hi), fun i hi => (hb.cell (p := ⟨b, off + i * 3 + 1, none⟩) h.lt).trans (h.c1 i hi), fun i hi => (hb.cell (p := ⟨b, off + i * 3 + 2, none⟩) h.lt).trans (h.c2 i hi), fun i hi => (h.row i hi).later hb⟩

def DV.ok (d : DV) : Bool := validD d.g d.zs d.E

set_option maxRecDepth 100000 in
set_option maxHeartbeats 4000000 in
theorem validsI_any (b off c : Nat) (ds : List DV) (w : World) (hn : ds.length ≤ 1000) (hl : ∀ d, d ∈ ds → d.zs.length ≤ 1048576) (hd : RowD w b off ds) :
    Calls Tryd.prog 38 #[.slice (some ⟨b, off, none⟩) ds.length c] w fun e w' => e = .returned (.bool (ds.all DV.ok)) ∧ Below w.heap.size w w' := by
  go_enter Tryd.func38, Tryd.ntmps38
  go_wp2
  go_loopw [4, 7] (fun _ si wr => ∃ i : Nat, i ≤ ds.length ∧ si = .int .i64 i ∧ Hid ((ds.take i).all DV.ok = true) ∧ Below w.heap.size w wr) (fun _ si _ => ds.length - (intOf si).toNat)
  case atStart => exact ⟨0, Nat.zero_le _, rfl, rfl, Below.refl _ _⟩
  case round =>
    obtain ⟨i, hi, rfl, hall, hnx⟩ := hrel
    have hd2 := hd.later hnx
    by_cases hlt : i < ds.length
    · have g0 := hd2.c0 i hlt
      have g1 := hd2.c1 i hlt
      have g2 := hd2.c2 i hlt
      have g3 := hd2.row i hlt
      obtain ⟨d, hdd⟩ : ∃ d, d = ds.getD i default := ⟨_, rfl⟩
      rw [← hdd] at g0 g1 g2 g3
      have hib : (i : Int) < ds.length := by omega
      have hmem : d ∈ ds := by rw [hdd, List.getD_eq_getElem?_getD, List.getElem?_eq_getElem hlt]; exact List.getElem_mem hlt
      have hdl := hl d hmem
      have HTK : Hid ((ds.take (i + 1)).all DV.ok = d.ok) := by
        unfold Hid
        rw [List.take_succ_eq_append_getElem hlt, List.all_append, hall.out, hdd]
        simp [List.getD_eq_getElem?_getD, hlt]
      have HBAD : Hid (d.ok = false → ds.all DV.ok = false) := by
        intro hf
        cases hall2 : ds.all DV.ok
        · rfl
        · have := List.all_eq_true.1 hall2 d hmem
          rw [hf] at this
          cases this
      have G3 : Hid (RowAt .u32 wr d.a d.zs) := g3
      have HN : Hid (Below w.heap.size w wr) := hnx
      clear hdd hmem g3 hd2 hall hnx
      cases hv : validB d.g d.zs
      · have hbad := HBAD.out (by unfold DV.ok validD; rw [hv]; rfl)
        have HF : Hid (ds.all DV.ok = false) := hbad
        clear hbad
        go_wp2_with fail
        refine (validI_any d.g d.a d.c d.zs _ (by unfold maxLen; omega) (G3.out.later (bel0 _ _))).mono ?_
        rintro e w2 ⟨rfl, hb2⟩
        rw [hv]
        have HB2 : Hid (Below w.heap.size w w2) := (HN.out.alloc HN.out.size _).trans (hb2.mono (by have := HN.out.size; simp; omega))
        have q2 : w2.cell? ⟨wr.heap.size, 2, none⟩ = some (.int .i64 d.E) := by rw [(bcell hb2).1 _ _ (by simp)]; simp [go_sem]
        clear hb2
        go_wp2
        go_ret
        rw [HF.out]
        exact ⟨rfl, HB2.out⟩
      · by_cases h1 : d.E < -20000
        · have hbad := HBAD.out (by unfold DV.ok validD; rw [hv]; simp; omega)
          have HF : Hid (ds.all DV.ok = false) := hbad
          clear hbad
          go_wp2_with fail
          refine (validI_any d.g d.a d.c d.zs _ (by unfold maxLen; omega) (G3.out.later (bel0 _ _))).mono ?_
          rintro e w2 ⟨rfl, hb2⟩
          rw [hv]
          have HB2 : Hid (Below w.heap.size w w2) := (HN.out.alloc HN.out.size _).trans (hb2.mono (by have := HN.out.size; simp; omega))
          have q2 : w2.cell? ⟨wr.heap.size, 2, none⟩ = some (.int .i64 d.E) := by rw [(bcell hb2).1 _ _ (by simp)]; simp [go_sem]
          clear hb2
          go_wp2
          go_ret
          rw [HF.out]
          exact ⟨rfl, HB2.out⟩
        · by_cases h2 : 20000 < d.E
          · have hbad := HBAD.out (by unfold DV.ok validD; rw [hv]; simp; omega)
            have HF : Hid (ds.all DV.ok = false) := hbad
            clear hbad
            go_wp2_with fail
            refine (validI_any d.g d.a d.c d.zs _ (by unfold maxLen; omega) (G3.out.later (bel0 _ _))).mono ?_
            rintro e w2 ⟨rfl, hb2⟩
            rw [hv]
            have HB2 : Hid (Below w.heap.size w w2) := (HN.out.alloc HN.out.size _).trans (hb2.mono (by have := HN.out.size; simp; omega))
            have q2 : w2.cell? ⟨wr.heap.size, 2, none⟩ = some (.int .i64 d.E) := by rw [(bcell hb2).1 _ _ (by simp)]; simp [go_sem]
            clear hb2
            go_wp2
            go_ret
            rw [HF.out]
            exact ⟨rfl, HB2.out⟩
          · have HG : Hid ((ds.take (i + 1)).all DV.ok = true) := by
              unfold Hid
              rw [HTK.out]
              unfold DV.ok validD
              rw [hv]
              simp
              omega
            go_wp2_with fail
            refine (validI_any d.g d.a d.c d.zs _ (by unfold maxLen; omega) (G3.out.later (bel0 _ _))).mono ?_
            rintro e w2 ⟨rfl, hb2⟩
            rw [hv]
            have HB2 : Hid (Below w.heap.size w w2) := (HN.out.alloc HN.out.size _).trans (hb2.mono (by have := HN.out.size; simp; omega))
            have q2 : w2.cell? ⟨wr.heap.size, 2, none⟩ = some (.int .i64 d.E) := by rw [(bcell hb2).1 _ _ (by simp)]; simp [go_sem]
            clear hb2
            go_wp2
            go_roundw
            case rel => exact ⟨i + 1, by omega, by go_num, HG, HB2.out⟩
            case measure => simp [intOf]; omega
    · have hin : i = ds.length := by omega
      subst hin
      have HA : Hid (ds.all DV.ok = true) := by unfold Hid; have := hall.out; rw [List.take_length] at this; exact this
      have HN : Hid (Below w.heap.size w wr) := hnx
      clear hall hnx hd2 hd
      go_wp2
      go_ret
      rw [HA.out]
      exact ⟨rfl, HN.out⟩

end Go.Proofs.YtladfpljnaippaaDoor

/-
  The program's products of dyadic numbers.
-/
namespace Go.Proofs.YtladfpljnaippaaDoor
open Go.RowKit

/-- The product of the first numbers, and the sum of their exponents. -/
def prodM (ds : List DV) : Int := (ds.map fun d => sg d.g (val 4294967296 d.zs)).foldl (· * ·) 1
def sumE (ds : List DV) : Int := (ds.map fun d => d.E).foldl (· + ·) 0

theorem prodM_snoc (ds : List DV) (d : DV) : prodM (ds ++ [d]) = prodM ds * sg d.g (val 4294967296 d.zs) := by simp [prodM]
theorem sumE_snoc (ds : List DV) (d : DV) : sumE (ds ++ [d]) = sumE ds + d.E := by simp [sumE]

/-- While a product grows: the answer's box (R, still zero), the product's own (A). -/
structure PD (w : World) (R A : Nat) (G : Bool) (a : Option Addr) (c : Nat) (fs : List Int) (m e : Int) (W : World) : Prop where
  r1 : W.cell? ⟨R, 0, none⟩ = some (.bool false)
  r2 : W.cell? ⟨R, 1, none⟩ = some (.slice none 0 0)
  r3 : W.cell? ⟨R, 2, none⟩ = some (.int .i64 0)
  r4 : ∀ j, W.frozen? ⟨R, j, none⟩ = false
  a1 : W.cell? ⟨A, 0, none⟩ = some (.bool G)
  a2 : W.cell? ⟨A, 1, none⟩ = some (.slice a fs.length c)
  a3 : W.cell? ⟨A, 2, none⟩ = some (.int .i64 e)
  a4 : ∀ j, W.frozen? ⟨A, j, none⟩ = false
  b1 : B1 G fs m
  row : RowAt .u32 W a fs
  off : ∀ b o, a = some ⟨b, o, none⟩ → fs ≠ [] → b ≠ A ∧ b ≠ R
  far : Far (w.heap.size + 1) a fs
  ord : w.heap.size ≤ R ∧ R < A ∧ A < W.heap.size
  bel : Below w.heap.size w W
  cap : fs.length ≤ c ∧ c ≤ maxLen

section
variable {w : World} {R A : Nat} {G : Bool} {a : Option Addr} {c : Nat} {fs : List Int} {m e : Int} {W W' : World}

theorem PD.later (h : PD w R A G a c fs m e W) (hb : Below W.heap.size W W') : PD w R A G a c fs m e W' := by
  obtain ⟨o1, o2, o3⟩ := h.ord
  have hs := hb.size
  exact ⟨(hb.cell (by simp; omega)).trans h.r1, (hb.cell (by simp; omega)).trans h.r2, (hb.cell (by simp; omega)).trans h.r3, fun j => (hb.frozen (by simp; omega)).trans (h.r4 j), (hb.cell (by simp; omega)).trans h.a1, (hb.cell (by simp; omega)).trans h.a2, (hb.cell (by simp; omega)).trans h.a3, fun j => (hb.frozen (by simp; omega)).trans (h.a4 j), h.b1, h.row.later hb, h.off, h.far, ⟨o1, o2, by omega⟩, h.bel.trans (hb.mono (by omega)), h.cap⟩

/-- Another number, its row in no box, is laid into the box. -/
theorem PD.lay {G' : Bool} {a' : Option Addr} {c' : Nat} {fs' : List Int} {m' e' : Int} (h : PD w R A G a c fs m e W) (hb : B1 G' fs' m') (hr : RowAt .u32 W a' fs') (ho : ∀ b o, a' = some ⟨b, o, none⟩ → fs' ≠ [] → b ≠ A ∧ b ≠ R) (hf : Far (w.heap.size + 1) a' fs') (hcap : fs'.length ≤ c' ∧ c' ≤ maxLen) : PD w R A G' a' c' fs' m' e' (((W.setCell ⟨A, 0, none⟩ (.bool G')).setCell ⟨A, 1, none⟩ (.slice a' fs'.length c')).setCell ⟨A, 2, none⟩ (.int .i64 e')) := by
  obtain ⟨o1, o2, o3⟩ := h.ord
  have hbel : Below A W (((W.setCell ⟨A, 0, none⟩ (.bool G')).setCell ⟨A, 1, none⟩ (.slice a' fs'.length c')).setCell ⟨A, 2, none⟩ (.int .i64 e')) := (((Below.refl _ _).setCell (by simp) _).setCell (by simp) _).setCell (by simp) _
  refine ⟨(hbel.cell (by simp; omega)).trans h.r1, (hbel.cell (by simp; omega)).trans h.r2, (hbel.cell (by simp; omega)).trans h.r3, fun j => (hbel.frozen (by simp; omega)).trans (h.r4 j), ?_, ?_, ?_, ?_, hb, ?_, ho, hf, ⟨o1, o2, by simpa using o3⟩, h.bel.trans (hbel.mono (by omega)), hcap⟩
  · rw [World.cell?_setCell_other _ _ _ _ (by simp), World.cell?_setCell_other _ _ _ _ (by simp)]
    exact World.cell?_setCell_same _ _ _ h.a1
  · rw [World.cell?_setCell_other _ _ _ _ (by simp)]
    refine World.cell?_setCell_same _ _ _ (u := .slice a fs.length c) ?_
    rw [World.cell?_setCell_other _ _ _ _ (by simp)]
    exact h.a2
  · refine World.cell?_setCell_same _ _ _ (u := .int .i64 e) ?_
    rw [World.cell?_setCell_other _ _ _ _ (by simp), World.cell?_setCell_other _ _ _ _ (by simp)]
    exact h.a3
  · intro j; rw [World.frozen?_setCell, World.frozen?_setCell, World.frozen?_setCell]; exact h.a4 j
  · exact ((hr.setAway (fun b o e1 hne => (ho b o e1 hne).1) _).setAway (fun b o e1 hne => (ho b o e1 hne).1) _).setAway (fun b o e1 hne => (ho b o e1 hne).1) _

theorem Far.offs {B : Nat} {a' : Option Addr} {fs' : List Int} (hf : Far B a' fs') (hR : R < B) (hA : A < B) : ∀ b o, a' = some ⟨b, o, none⟩ → fs' ≠ [] → b ≠ A ∧ b ≠ R := by
  intro b o e1 hne
  exact ⟨hf.away (p := ⟨A, 0, none⟩) (by simpa using hA) b o e1 hne, hf.away (p := ⟨R, 0, none⟩) (by simpa using hR) b o e1 hne⟩

/-- The next product, in memory behind, is laid into the box. -/
theorem PD.put {G' : Bool} {a' : Option Addr} {c' : Nat} {fs' : List Int} {m' e' : Int} {B : Nat} (h : PD w R A G a c fs m e W) (hb : B1 G' fs' m') (hr : RowAt .u32 W a' fs') (hf : Far B a' fs') (hB : A < B) (hcap : fs'.length ≤ c' ∧ c' ≤ maxLen) : PD w R A G' a' c' fs' m' e' (((W.setCell ⟨A, 0, none⟩ (.bool G')).setCell ⟨A, 1, none⟩ (.slice a' fs'.length c')).setCell ⟨A, 2, none⟩ (.int .i64 e')) := by
  obtain ⟨o1, o2, o3⟩ := h.ord
  exact h.lay hb hr (hf.offs (by omega) hB) (hf.down (by omega)) hcap

end

/-- What product hands back. -/
def ProdOut (w : World) (m e' : Int) (n : Nat) (e : Ending) (w' : World) : Prop :=
  ∃ (G : Bool) (a : Option Addr) (c : Nat) (fs : List Int), e = .returned (.agg #[.bool G, .slice a fs.length c, .int .i64 e']) ∧ B1 G fs m ∧ (fs.length ≤ n ∧ fs.length ≤ c ∧ c ≤ maxLen) ∧ RowAt .u32 w' a fs ∧ Far w.heap.size a fs ∧ Below w.heap.size w w'

/-- What a call of product answers. -/
def ProdSays : Prop := ∀ (b off c : Nat) (ds : List DV) (w : World), ds.length ≤ 3 → (∀ d, d ∈ ds → d.zs.length ≤ 512 ∧ -20000 ≤ d.E ∧ d.E ≤ 20000 ∧ B1 d.g d.zs (sg d.g (val 4294967296 d.zs))) → RowD w b off ds →
    Calls Tryd.prog 63 #[.slice (some ⟨b, off, none⟩) ds.length c] w fun e w' => ProdOut w (prodM ds) (sumE ds) (513 * ds.length + 1) e w'

end Go.Proofs.YtladfpljnaippaaDoor
