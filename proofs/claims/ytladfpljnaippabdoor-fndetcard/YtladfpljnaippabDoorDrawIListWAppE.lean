/-
  A drawn Dyadic as a function of the reader's bytes.
-/
import Derived.Test.YtladfpljnaippabDoorSpecFlToDrawH
import Derived.Test.YtladfpljnaippabDoorDyI3ToDraw1
import Derived.Test.YtladfpljnaippabDoorDraw4DrawGNumFDy6SpecS2
import Derived.Maps.AppendAt
import Derived.Test.YtladfpljnaippabDoorDraw2
import Derived.Test.YtladfpljnaippabDoorCopy
namespace Go.Proofs.YtladfpljnaippabDoor
open Go.RowKit

/-- What a function answers that gives a Dyadic and a code. -/
noncomputable def rD (ok : Bool) (v : Int) : Bool × List Int × Int × Int := Classical.epsilon fun p => ResD ok v p.1 p.2.1 p.2.2.1 p.2.2.2

theorem rD_is {ok : Bool} {v : Int} {G : Bool} {Z : List Int} {E K : Int} (h : ResD ok v G Z E K) : rD ok v = (G, Z, E, K) := by
  have h1 : ResD ok v (rD ok v).1 (rD ok v).2.1 (rD ok v).2.2.1 (rD ok v).2.2.2 := Classical.epsilon_spec (p := fun p : Bool × List Int × Int × Int => ResD ok v p.1 p.2.1 p.2.2.1 p.2.2.2) ⟨(G, Z, E, K), h⟩
  obtain ⟨h2, h3, h4, h5⟩ := h1.inj h
  rw [← h2, ← h3, ← h4, ← h5]

/-- DyOf of bits. -/
noncomputable def ofF (b : Int) : Bool × List Int × Int × Int := rD (fFin b) (atK 100000 (fNum b) (fExp b - 150))

def edgeT : List Int := [20000, -20000, 20001, -20001, 19999, 16000, -16300, 0]

/-- A drawn Dyadic, and the bytes that are left. -/
noncomputable def l2F (rs : List Int) : (Bool × List Int × Int) × List Int :=
  if rs.headD 0 < 150 then (((ofF (bitsF (rs.headD 0 % 2 == 1) rs.tail).1).1, (ofF (bitsF (rs.headD 0 % 2 == 1) rs.tail).1).2.1, (ofF (bitsF (rs.headD 0 % 2 == 1) rs.tail).1).2.2.1), (bitsF (rs.headD 0 % 2 == 1) rs.tail).2)
  else (((anyF rs.tail).1, (anyF rs.tail).2.1, if rs.headD 0 < 240 then (anyF rs.tail).2.2.headD 0 - 128 else edgeT.getD ((anyF rs.tail).2.2.headD 0 % 8).toNat 0), (anyF rs.tail).2.2.tail)

/-- A drawn Dyadic: what is handed back. -/
def DrawD (P : Nat) (G : Bool) (Z : List Int) (E : Int) (rs' : List Int) (w : World) (e : Ending) (w' : World) : Prop :=
  ∃ (a : Option Addr) (c : Nat), e = .returned (.agg #[.bool G, .slice a Z.length c, .int .i64 E]) ∧ Z.length ≤ 513 ∧ U32 Z ∧ RowAt .u32 w' a Z ∧ Far w.heap.size a Z ∧ Rs P rs' w' ∧ Aside P w w'

/-- The answer's box (R, still zero) while a Dyadic is drawn behind it. -/
structure Rz3 (w : World) (P R : Nat) (W : World) : Prop where
  r1 : W.cell? ⟨R, 0, none⟩ = some (.bool false)
  r2 : W.cell? ⟨R, 1, none⟩ = some (.slice none 0 0)
  r3 : W.cell? ⟨R, 2, none⟩ = some (.int .i64 0)
  r4 : ∀ j, W.frozen? ⟨R, j, none⟩ = false
  asd : Aside P w W
  ord : w.heap.size ≤ R ∧ R < W.heap.size ∧ P < w.heap.size

theorem Rz3.start (w : World) (P : Nat) (hp : P < w.heap.size) (t : TypeId) : Rz3 w P w.heap.size (w.alloc (.cells #[.bool false, .slice none 0 0, .int .i64 0] t)) :=
  ⟨by simp [go_sem], by simp [go_sem], by simp [go_sem], by intro j; simp [go_sem], Aside.of (bel0 _ _), Nat.le_refl _, by simp, hp⟩

theorem Rz3.aside {w : World} {P R : Nat} {W W' : World} (h : Rz3 w P R W) (ha : Aside P W W') : Rz3 w P R W' := by
  obtain ⟨o1, o2, o3⟩ := h.ord
  have hs := ha.size
  exact ⟨(ha.cell (by simp; omega) (by simp; omega)).trans h.r1, (ha.cell (by simp; omega) (by simp; omega)).trans h.r2, (ha.cell (by simp; omega) (by simp; omega)).trans h.r3, fun j => (ha.frozen (by simp; omega) (by simp; omega)).trans (h.r4 j), h.asd.trans ha, o1, by omega, o3⟩

/-- A Dyadic is laid into the answer's box. -/
theorem Rz3.out {w W : World} {P R : Nat} {G : Bool} {a : Option Addr} {c : Nat} {zs rs : List Int} {E : Int} (h : Rz3 w P R W) (hr : Rs P rs W) (hw : RowAt .u32 W a zs) (hf : Far (R + 1) a zs) (hu : U32 zs) (hn : zs.length ≤ 513) :
    DrawD P G zs E rs w (.returned (.agg #[.bool G, .slice a zs.length c, .int .i64 E])) (((W.setCell ⟨R, 0, none⟩ (.bool G)).setCell ⟨R, 1, none⟩ (.slice a zs.length c)).setCell ⟨R, 2, none⟩ (.int .i64 E)) := by
  obtain ⟨o1, o2, o3⟩ := h.ord
  refine ⟨a, c, rfl, hn, hu, ?_, hf.down (by omega), ?_, ((h.asd.setHigh (by simp; omega) _).setHigh (by simp; omega) _).setHigh (by simp; omega) _⟩
  · exact ((hw.setAway (hf.away (by simp)) _).setAway (hf.away (by simp)) _).setAway (hf.away (by simp)) _
  · exact hr.above (B := P + 1) ((((Below.refl _ _).setCell (by simp; omega) _).setCell (by simp; omega) _).setCell (by simp; omega) _) (by omega)

theorem DrawD.later {P : Nat} {G : Bool} {Z : List Int} {E : Int} {rs : List Int} {w : World} {e : Ending} {W W' : World} (h : DrawD P G Z E rs w e W) (hb : Below W.heap.size W W') : DrawD P G Z E rs w e W' := by
  obtain ⟨a, c, h1, h2, h3, h4, h5, h6, h7⟩ := h
  exact ⟨a, c, h1, h2, h3, h4.later hb, h5, h6.later hb, h7.trans (Aside.of hb)⟩

theorem edgeT_row (w : World) (t : TypeId) : RowAt .i64 (w.alloc (.cells #[.int .i64 20000, .int .i64 (-20000), .int .i64 20001, .int .i64 (-20001), .int .i64 19999, .int .i64 16000, .int .i64 (-16300), .int .i64 0] t)) (some ⟨w.heap.size, 0, none⟩) edgeT := by
  refine .inr ⟨w.heap.size, 0, rfl, by simp, fun j hj => ?_⟩
  rw [Nat.zero_add, World.cell?_alloc_at _ _ _ _ (by simp)]
  have : j < 8 := hj
  match j, this with
  | 0, _ => rfl
  | 1, _ => rfl
  | 2, _ => rfl
  | 3, _ => rfl
  | 4, _ => rfl
  | 5, _ => rfl
  | 6, _ => rfl
  | 7, _ => rfl

theorem edgeT_cell (w : World) (t : TypeId) {j : Nat} (hj : j < 8) : (w.alloc (.cells #[.int .i64 20000, .int .i64 (-20000), .int .i64 20001, .int .i64 (-20001), .int .i64 19999, .int .i64 16000, .int .i64 (-16300), .int .i64 0] t)).cell? ⟨w.heap.size, j, none⟩ = some (.int .i64 (edgeT.getD j 0)) := by
  rcases edgeT_row w t with h | ⟨b, off, h1, _, h3⟩
  · cases h
  · have h4 := Option.some.inj h1
    have e1 : b = w.heap.size := (congrArg Addr.block h4).symm
    have e2 : off = 0 := (congrArg Addr.off h4).symm
    subst e1 e2
    have := h3 j hj
    rw [Nat.zero_add] at this
    exact this

set_option maxRecDepth 100000 in
set_option maxHeartbeats 8000000 in
theorem drawD_any (P : Nat) (rs : List Int) (w : World) (h : Rs P rs w) :
    Calls Tryd.prog 30 #[.pointer (some ⟨P, 0, none⟩)] w fun e w' => DrawD P (l2F rs).1.1 (l2F rs).1.2.1 (l2F rs).1.2.2 (l2F rs).2 w e w' := by
  obtain ⟨F, hF⟩ : ∃ F, F = l2F rs := ⟨_, rfl⟩
  rw [← hF]
  have HF : Hid (F = l2F rs) := hF
  have HS : Hid (Rs P rs w) := h
  have hPl := h.lt
  have HZ : Hid (∀ t, Rz3 w P w.heap.size (w.alloc (.cells #[.bool false, .slice none 0 0, .int .i64 0] t))) := fun t => Rz3.start w P hPl t
  clear hF h
  go_enter Tryd.func30, Tryd.ntmps30
  go_wp2_with fail
  refine (nextF_any P rs _ (HS.out.later (bel0 _ _))).mono ?_
  rintro e w1 ⟨rfl, hk0, hk1, hr1, ha1⟩
  obtain ⟨k, hk⟩ : ∃ k, k = rs.headD 0 := ⟨_, rfl⟩
  have HK : Hid (k = rs.headD 0) := hk
  rw [← hk] at hk0 hk1 ⊢
  clear hk
  have HR1 : Hid (Rs P rs.tail w1) := hr1
  have HZ1 : Hid (Rz3 w P w.heap.size w1) := (HZ.out _).aside ha1
  clear hr1 ha1 HZ HS
  by_cases hc : k < 150
  · have HF2 : Hid (F = (((ofF (bitsF (k % 2 == 1) rs.tail).1).1, (ofF (bitsF (k % 2 == 1) rs.tail).1).2.1, (ofF (bitsF (k % 2 == 1) rs.tail).1).2.2.1), (bitsF (k % 2 == 1) rs.tail).2)) := by unfold Hid; rw [HF.out]; unfold l2F; rw [← HK.out, if_pos hc]
    have hjt : k.tmod 2 = k % 2 := Int.tmod_eq_emod_of_nonneg hk0
    clear HF
    go_wp2_with fail
    refine (drawBits_any P (k % 2 == 1) rs.tail _ HR1.out).mono ?_
    rintro e w2 ⟨rfl, hb0, hb1, hr2, ha2⟩
    obtain ⟨B, hB⟩ : ∃ B, B = (bitsF (k % 2 == 1) rs.tail).1 := ⟨_, rfl⟩
    obtain ⟨rs2, hrs2⟩ : ∃ rs2, rs2 = (bitsF (k % 2 == 1) rs.tail).2 := ⟨_, rfl⟩
    rw [← hB] at hb0 hb1 ⊢
    rw [← hrs2] at hr2
    have HF3 : Hid (F = (((ofF B).1, (ofF B).2.1, (ofF B).2.2.1), rs2)) := by unfold Hid; rw [HF2.out, hB, hrs2]
    have HR2 : Hid (Rs P rs2 w2) := hr2
    have HZ2 : Hid (Rz3 w P w.heap.size w2) := HZ1.out.aside ha2
    clear hr2 ha2 hB hrs2 HF2 HZ1 HR1
    go_wp2_with fail
    refine (dyOfS_any B _ hb0 hb1).mono ?_
    rintro e w3 ⟨G, Z, E, K, a3, c3, rfl, hres, hrw, hfar, hb3⟩
    have HF4 : Hid (F = ((G, Z, E), rs2)) := by
      unfold Hid
      rw [HF3.out]
      unfold ofF
      rw [rD_is hres]
    have HZ3 : Hid (Rz3 w P w.heap.size w3) := HZ2.out.aside (Aside.of hb3)
    have HX : Hid (DrawD P G Z E rs2 w (.returned (.agg #[.bool G, .slice a3 Z.length c3, .int .i64 E])) (((w3.setCell ⟨w.heap.size, 0, none⟩ (.bool G)).setCell ⟨w.heap.size, 1, none⟩ (.slice a3 Z.length c3)).setCell ⟨w.heap.size, 2, none⟩ (.int .i64 E))) := HZ3.out.out (HR2.out.later hb3) hrw (hfar.down (by have := HZ2.out.ord; omega)) hres.len.2 (by have := hres.len.1; omega)
    have oR : w.heap.size < w3.heap.size := HZ3.out.ord.2.1
    have r1 := HZ3.out.r1
    have r2 := HZ3.out.r2
    have r3 := HZ3.out.r3
    have r4 := HZ3.out.r4
    clear hres hrw hfar hb3 HF3 HZ2 HR2
    go_wp2
    refine bodyPost_ret (v := .agg #[.bool G, .slice a3 Z.length c3, .int .i64 E]) (by simp [results, Tryd.results30, go_sem, r1, r2, r3, oR]) rfl ?_
    rw [HF4.out]
    exact HX.out.later (bel0 _ _)
  · have HF2 : Hid (F = (((anyF rs.tail).1, (anyF rs.tail).2.1, if k < 240 then (anyF rs.tail).2.2.headD 0 - 128 else edgeT.getD ((anyF rs.tail).2.2.headD 0 % 8).toNat 0), (anyF rs.tail).2.2.tail)) := by unfold Hid; rw [HF.out]; unfold l2F; rw [← HK.out, if_neg hc]
    clear HF
    go_wp2_with fail
    refine (drawAnyH_any P rs.tail _ HR1.out).mono ?_
    rintro e w2 ⟨a2, c2, rfl, hn2, hu2, hown2, hr2, ha2⟩
    obtain ⟨G, hG⟩ : ∃ G, G = (anyF rs.tail).1 := ⟨_, rfl⟩
    obtain ⟨Z, hZ⟩ : ∃ Z, Z = (anyF rs.tail).2.1 := ⟨_, rfl⟩
    obtain ⟨rs2, hrs2⟩ : ∃ rs2, rs2 = (anyF rs.tail).2.2 := ⟨_, rfl⟩
    rw [← hZ] at hn2 hu2 hown2 ⊢
    rw [← hrs2] at hr2
    rw [← hG]
    have HF3 : Hid (F = ((G, Z, if k < 240 then rs2.headD 0 - 128 else edgeT.getD (rs2.headD 0 % 8).toNat 0), rs2.tail)) := by unfold Hid; rw [HF2.out, hG, hZ, hrs2]
    have hnew : RowNew .u32 w2 w1.heap.size a2 Z := by
      obtain ⟨a', c', he, _, _, hh⟩ := own_row hown2
      injection he with h1 _ _
      rw [h1]
      exact hh
    have HRW : Hid (RowAt .u32 w2 a2 Z) := hnew.row
    have HFR : Hid (Far (w.heap.size + 1) a2 Z) := hnew.far (Nat.le_refl _) (by have := HZ1.out.ord; omega)
    have HR2 : Hid (Rs P rs2 w2) := hr2
    have HZ2 : Hid (Rz3 w P w.heap.size w2) := HZ1.out.aside ha2
    have HU : Hid (U32 Z) := hu2
    clear hr2 ha2 hG hZ hrs2 HF2 HZ1 HR1 hown2 hnew hu2
    have hPl2 : P < w2.heap.size := HR2.out.lt
    have oR2 : w.heap.size < w2.heap.size := HZ2.out.ord.2.1
    obtain ⟨W3, hW3⟩ : ∃ W3, W3 = w2.alloc (.cells #[.bool G, .slice a2 Z.length c2] 27) := ⟨_, rfl⟩
    have hb3 : Below w2.heap.size w2 W3 := by rw [hW3]; exact bel0 _ _
    have hs3 : W3.heap.size = w2.heap.size + 1 := by rw [hW3]; simp
    have q0 : W3.cell? ⟨w2.heap.size, 0, none⟩ = some (.bool G) := by rw [hW3]; simp [go_sem]
    have q1 : W3.cell? ⟨w2.heap.size, 1, none⟩ = some (.slice a2 Z.length c2) := by rw [hW3]; simp [go_sem]
    go_wp2_with fail
    rw [← hW3]
    refine (nextF_any P rs2 _ (HR2.out.later hb3)).mono ?_
    rintro e w4 ⟨rfl, hv0, hv1, hr4, ha4⟩
    obtain ⟨v, hv⟩ : ∃ v, v = rs2.headD 0 := ⟨_, rfl⟩
    have HF4 : Hid (F = ((G, Z, if k < 240 then v - 128 else edgeT.getD (v % 8).toNat 0), rs2.tail)) := by unfold Hid; rw [HF3.out, hv]
    rw [← hv] at hv0 hv1 ⊢
    have HZ4 : Hid (Rz3 w P w.heap.size w4) := (HZ2.out.aside (Aside.of hb3)).aside ha4
    have HR4 : Hid (Rs P rs2.tail w4) := hr4
    have HRW4 : Hid (RowAt .u32 w4 a2 Z) := ha4.row (HRW.out.later hb3) (fun b o h1 h2 => by
      rcases HFR.out with h | ⟨b', o', h3, h4⟩
      · exact absurd h h2
      · rw [h1] at h3
        injection h3 with h3
        have : b = b' := congrArg Addr.block h3
        omega)
    have z0 : w4.cell? ⟨w2.heap.size, 0, none⟩ = some (.bool G) := (ha4.cell (by simp; omega) (by simp; omega)).trans q0
    have z1 : w4.cell? ⟨w2.heap.size, 1, none⟩ = some (.slice a2 Z.length c2) := (ha4.cell (by simp; omega) (by simp; omega)).trans q1
    have oB : w2.heap.size < w4.heap.size := by have := ha4.size; omega
    have oR : w.heap.size < w4.heap.size := HZ4.out.ord.2.1
    have r1 := HZ4.out.r1
    have r2 := HZ4.out.r2
    have r3 := HZ4.out.r3
    have r4 := HZ4.out.r4
    clear hv hr4 ha4 hW3 hb3 hs3 q0 q1 HF3 HRW HR2 HZ2
    by_cases hc2 : k < 240
    · have HF5 : Hid (F = ((G, Z, v - 128), rs2.tail)) := by unfold Hid; rw [HF4.out, if_pos hc2]
      have HX : Hid (DrawD P G Z (v - 128) rs2.tail w (.returned (.agg #[.bool G, .slice a2 Z.length c2, .int .i64 (v - 128)])) (((w4.setCell ⟨w.heap.size, 0, none⟩ (.bool G)).setCell ⟨w.heap.size, 1, none⟩ (.slice a2 Z.length c2)).setCell ⟨w.heap.size, 2, none⟩ (.int .i64 (v - 128)))) := HZ4.out.out HR4.out HRW4.out HFR.out HU.out hn2
      clear HF4
      go_wp2
      refine bodyPost_ret (v := .agg #[.bool G, .slice a2 Z.length c2, .int .i64 (v - 128)]) (by simp [results, Tryd.results30, go_sem, r1, r2, r3]) rfl ?_
      rw [HF5.out]
      exact HX.out
    · obtain ⟨E, hE⟩ : ∃ E, E = edgeT.getD (v % 8).toNat 0 := ⟨_, rfl⟩
      have HF5 : Hid (F = ((G, Z, E), rs2.tail)) := by unfold Hid; rw [HF4.out, if_neg hc2, hE]
      have gy := edgeT_cell w4 3 (show (v % 8).toNat < 8 by omega)
      rw [← hE] at gy
      have HX : Hid (∀ W, Below w4.heap.size w4 W → DrawD P G Z E rs2.tail w (.returned (.agg #[.bool G, .slice a2 Z.length c2, .int .i64 E])) (((W.setCell ⟨w.heap.size, 0, none⟩ (.bool G)).setCell ⟨w.heap.size, 1, none⟩ (.slice a2 Z.length c2)).setCell ⟨w.heap.size, 2, none⟩ (.int .i64 E))) := fun W hW => (HZ4.out.aside (Aside.of hW)).out (HR4.out.later hW) (HRW4.out.later hW) HFR.out HU.out hn2
      have hj0 : 0 ≤ v % 8 := by omega
      have hj8 : v % 8 < 8 := by omega
      have hj9 : 0 ≤ v % 8 ∧ v % 8 < 8 := ⟨hj0, hj8⟩
      have hjt : v.tmod 8 = v % 8 := Int.tmod_eq_emod_of_nonneg hv0
      clear HF4 hE
      go_wp2
      go_region_with fail
      all_goals
        go_wp2
        refine bodyPost_ret (v := .agg #[.bool G, .slice a2 Z.length c2, .int .i64 E]) (by simp [results, Tryd.results30, go_sem, r1, r2, r3, oR]) rfl ?_
        rw [HF5.out]
        exact (HX.out w4 (Below.refl _ _)).later (bel0 _ _).drew

end Go.Proofs.YtladfpljnaippabDoor

/-
  Lists of Dyadics that a draw makes: appending, writing.
-/
namespace Go.Proofs.YtladfpljnaippabDoor
open Go.RowKit

def DV.cells (d : DV) : List Value := [.bool d.g, .slice d.a d.zs.length d.c, .int .i64 d.E]
def dcells (ds : List DV) : List Value := ds.flatMap DV.cells

theorem dcells_snoc (ds : List DV) (d : DV) : dcells ds ++ d.cells = dcells (ds ++ [d]) := by simp [dcells]
theorem dcells_get : ∀ (ds : List DV) (i j : Nat), i < ds.length → j < 3 → (dcells ds)[i * 3 + j]? = (ds.getD i default).cells[j]?
  | [], i, j, h, _ => absurd h (by simp)
  | d :: ds, 0, j, _, hj => by
    simp only [dcells, List.flatMap_cons, List.getD_cons_zero, Nat.zero_mul, Nat.zero_add]
    rw [List.getElem?_append_left (by simpa [DV.cells] using hj)]
  | d :: ds, i + 1, j, h, hj => by
    have := dcells_get ds i j (by simpa using h) hj
    simp only [dcells, List.flatMap_cons, List.getD_cons_succ] at this ⊢
    rw [List.getElem?_append_right (by simp [DV.cells]; omega), ← this]
    congr 1
    simp [DV.cells]
    omega

/-- The row lies in another block than the slice v. -/
def OffW (v : Value) (a : Option Addr) (zs : List Int) : Prop := ∀ b o, a = some ⟨b, o, none⟩ → zs ≠ [] → v.ownBlock ≠ some b

theorem row_stay {k : IntKind} {w w' : World} {v : Value} {a : Option Addr} {zs : List Int} (h : RowAt k w a zs) (ho : OffW v a zs) (hs : w.heap.size ≤ w'.heap.size) (hk : ∀ j, j < w.heap.size → v.ownBlock ≠ some j → w'.heap[j]? = w.heap[j]?) : RowAt k w' a zs := by
  rcases h with h | ⟨b, off, h1, h2, h3⟩
  · exact .inl h
  · by_cases hd : zs = []
    · exact .inl hd
    · have hb := ho b off h1 hd
      refine .inr ⟨b, off, h1, by omega, fun j hj => ?_⟩
      rw [World.cell?_of_block (w := w) (hk b h2 hb)]
      exact h3 j hj

theorem ownw_block {w : World} {base : Nat} {e : TypeId} {v : Value} {n : Nat} {xs : List Value} (h : w.ownsRow base e 3 v n xs) {j : Nat} (hj : v.ownBlock = some j) : j < w.heap.size ∧ base ≤ j := by
  rcases h.2 with ⟨h1, _⟩ | ⟨g, cap, cur, h1, h2, h3, h4⟩
  · rw [h1] at hj; simp [Value.ownBlock] at hj
  · rw [h1] at hj
    simp [Value.ownBlock] at hj
    subst hj
    refine ⟨?_, h2⟩
    by_cases hp : g < w.heap.size
    · exact hp
    · rw [Array.getElem?_eq_none (by omega)] at h3; cases h3

theorem ownw_aside {P : Nat} {w w' : World} {base : Nat} {e : TypeId} {v : Value} {n : Nat} {xs : List Value} (h : w.ownsRow base e 3 v n xs) (ha : Aside P w w') (hP : P < base) : w'.ownsRow base e 3 v n xs := by
  refine ⟨h.1, ?_⟩
  rcases h.2 with h1 | ⟨g, cap, cur, h1, h2, h3, h4⟩
  · exact .inl h1
  · have hg : g < w.heap.size := by
      by_cases hp : g < w.heap.size
      · exact hp
      · rw [Array.getElem?_eq_none (by omega)] at h3; cases h3
    exact .inr ⟨g, cap, cur, h1, h2, (ha.block g hg (by omega)).trans h3, h4⟩

/-- The slice v of the call's own (from w on), the Dyadics ds in it; the reader in block P. -/
structure AllD (w : World) (P : Nat) (v : Value) (ds : List DV) (W : World) : Prop where
  own : W.ownsRow w.heap.size 29 3 v ds.length (dcells ds)
  row : ∀ i, i < ds.length → RowAt .u32 W (ds.getD i default).a (ds.getD i default).zs
  far : ∀ i, i < ds.length → Far w.heap.size (ds.getD i default).a (ds.getD i default).zs
  off : ∀ i, i < ds.length → OffW v (ds.getD i default).a (ds.getD i default).zs
  asd : Aside P w W
  lt : P < w.heap.size

theorem far_ne {B b P o : Nat} {a : Option Addr} {zs : List Int} (h : Far B a zs) (ha : a = some ⟨b, o, none⟩) (hz : zs ≠ []) (hP : P < B) : b ≠ P := by
  rcases h with h | ⟨b', o', h1, h2⟩
  · exact absurd h hz
  · rw [ha] at h1
    injection h1 with h1
    have : b = b' := congrArg Addr.block h1
    omega

theorem AllD.aside {w W W' : World} {P : Nat} {v : Value} {ds : List DV} (h : AllD w P v ds W) (ha : Aside P W W') : AllD w P v ds W' :=
  ⟨ownw_aside h.own ha h.lt, fun i hi => ha.row (h.row i hi) (fun _ _ h1 h2 => far_ne (h.far i hi) h1 h2 h.lt), h.far, h.off, h.asd.trans ha, h.lt⟩

theorem AllD.later {w W W' : World} {P : Nat} {v : Value} {ds : List DV} (h : AllD w P v ds W) (hb : Below W.heap.size W W') : AllD w P v ds W' := h.aside (Aside.of hb)

theorem AllD.start (w : World) (P : Nat) (hP : P < w.heap.size) : AllD w P (.slice none 0 0) [] w :=
  ⟨World.ownsRow_nil _ _ _ _, (fun i hi => absurd hi (by simp)), (fun i hi => absurd hi (by simp)), (fun i hi => absurd hi (by simp)), Aside.refl _ _, hP⟩

theorem info_dyW : (Tryd.prog.info? 29).map (fun i => (i.zero, i.size, i.bytes)) = some (some (.agg #[.bool false, .slice none 0 0, .int .i64 0]), 3, 40) := by kernel_rfl

/-- 'append(s, x)' of one Dyadic. -/
theorem app3D {d : DV} {P : Nat} {w w0 : World} {ops : Array Oper} {rest : List Oper} {o : Oper} {a : Act} {Q : Exit → Act → World → Prop} (hgd : o.guard = none) (s x : Operand)
    (ho : o.op = .call { callee := .builtin .append, args := #[s, x], argTypes := #[23, 23] })
    (sv : Value) (ds : List DV) (hs : a.eval s = sv) (hx : a.eval x = .slice (some ⟨w0.heap.size, 0, none⟩) 1 1) (hall : AllD w P sv ds w0) (hl : RowAt .u32 w0 d.a d.zs) (hfar : Far w.heap.size d.a d.zs) (hoff : OffW sv d.a d.zs) (hn : ds.length ≤ 1048576)
    (h : ∀ a' n' c' w', AllD w P (.slice a' n' c') (ds ++ [d]) w' → Below w.heap.size w0 w' → wpList Tryd.prog ops Q rest (a.put o.dst (.slice a' n' c')) w') :
    wpList Tryd.prog ops Q (o :: rest) a (w0.alloc (.cells #[.bool d.g, .slice d.a d.zs.length d.c, .int .i64 d.E] 29)) := by
  obtain ⟨i0, hi, hz0, hz1, hz2⟩ := info_parts info_dyW
  have hb0 := bel0 w0 (.cells #[.bool d.g, .slice d.a d.zs.length d.c, .int .i64 d.E] 29)
  have hall' := hall.later hb0
  have hge := hall'.asd.size
  have hge0 := hall.asd.size
  refine wpList_append_own_at _ hgd s x 23 ho w.heap.size 29 i0 _ 3 40 Tryd.underlying23 hi hz0 hz1 hz2 rfl (by decide) sv ds.length (dcells ds) hs hall'.own ⟨w0.heap.size, 0, none⟩ 1 1 d.cells hx rfl ?_ ?_ ?_ ?_ hge ?_
  · intro j u hj
    match j, hj with
    | 0, hj => simp [DV.cells] at hj; subst hj; simp [Addr.add]
    | 1, hj => simp [DV.cells] at hj; subst hj; simp [Addr.add]
    | 2, hj => simp [DV.cells] at hj; subst hj; simp [Addr.add]
    | k + 3, hj => simp [DV.cells] at hj
  · intro u hu
    simp [DV.cells] at hu
    rcases hu with rfl | rfl | rfl <;> rfl
  · unfold maxLen; omega
  · omega
  · intro v' w' hown' hgrow _ hwhere
    obtain ⟨a', n', c', rfl⟩ : ∃ a' n' c', v' = .slice a' n' c' := by
      rcases hown'.2 with ⟨h1, _⟩ | ⟨g, cap, cur, h1, _⟩
      · exact ⟨_, _, _, h1⟩
      · exact ⟨_, _, _, h1⟩
    have hsz : w0.heap.size < w'.heap.size := by
      have := hgrow.size
      simp at this
      omega
    have hk : ∀ j, j < w0.heap.size → sv.ownBlock ≠ some j → w'.heap[j]? = w0.heap[j]? := by
      intro j hj hne
      rw [hgrow.block j (by simp; omega) (fun e => hne e.symm)]
      exact hb0.block j hj
    have hov : ∀ (b : Nat), b < w0.heap.size → sv.ownBlock ≠ some b → (Value.slice a' n' c').ownBlock ≠ some b := by
      intro b hb hne he
      rcases hwhere with hw | hw
      · exact hne (hw ▸ he)
      · rw [hw] at he
        injection he with he
        simp at he
        omega
    have hB : Below w.heap.size w0 w' := by
      have hb1 : Below w.heap.size w0 (w0.alloc (.cells #[.bool d.g, .slice d.a d.zs.length d.c, .int .i64 d.E] 29)) := hb0.mono hge0
      refine hb1.grown hgrow hge ?_
      intro kk hkk
      have := (ownw_block hall.own hkk).2
      omega
    have lift : ∀ (a : Option Addr) (zs : List Int), RowAt .u32 w0 a zs → OffW sv a zs → RowAt .u32 w' a zs ∧ OffW (.slice a' n' c') a zs := by
      intro a zs hL hO
      refine ⟨row_stay hL hO (by omega) hk, fun b o h1 h2 => ?_⟩
      refine hov b ?_ (hO b o h1 h2)
      rcases hL with hr | ⟨b', o', h3, h4, _⟩
      · exact absurd hr h2
      · rw [h1] at h3
        injection h3 with h3
        have : b = b' := congrArg Addr.block h3
        omega
    refine h a' n' c' w' ⟨?_, ?_, ?_, ?_, hall.asd.high hB (Nat.le_refl _), hall.lt⟩ hB
    · rw [dcells_snoc] at hown'
      simpa using hown'
    · intro i hi
      rcases getD_push ds d i hi with ⟨h1, h2⟩ | ⟨_, h2⟩
      · rw [h2]; exact (lift _ _ (hall.row i h1) (hall.off i h1)).1
      · rw [h2]; exact (lift _ _ hl hoff).1
    · intro i hi
      rcases getD_push ds d i hi with ⟨h1, h2⟩ | ⟨_, h2⟩
      · rw [h2]; exact hall.far i h1
      · rw [h2]; exact hfar
    · intro i hi
      rcases getD_push ds d i hi with ⟨h1, h2⟩ | ⟨_, h2⟩
      · rw [h2]; exact (lift _ _ (hall.row i h1) (hall.off i h1)).2
      · rw [h2]; exact (lift _ _ hl hoff).2

/-- A list in block X, from B on, that may be written. -/
structure LstW (B X : Nat) (ds : List DV) (W : World) : Prop where
  xlo : B ≤ X
  lt : X < W.heap.size
  fr : ∀ j, j < ds.length * 3 → W.frozen? ⟨X, j, none⟩ = false
  c0 : ∀ i, i < ds.length → W.cell? ⟨X, i * 3, none⟩ = some (.bool (ds.getD i default).g)
  c1 : ∀ i, i < ds.length → W.cell? ⟨X, i * 3 + 1, none⟩ = some (.slice (ds.getD i default).a (ds.getD i default).zs.length (ds.getD i default).c)
  c2 : ∀ i, i < ds.length → W.cell? ⟨X, i * 3 + 2, none⟩ = some (.int .i64 (ds.getD i default).E)
  row : ∀ i, i < ds.length → RowAt .u32 W (ds.getD i default).a (ds.getD i default).zs
  far : ∀ i, i < ds.length → Far B (ds.getD i default).a (ds.getD i default).zs
  off : ∀ i, i < ds.length → ∀ b o, (ds.getD i default).a = some ⟨b, o, none⟩ → (ds.getD i default).zs ≠ [] → b ≠ X

theorem LstW.rowD {W : World} {B X : Nat} {ds : List DV} (h : LstW B X ds W) : RowD W X 0 ds :=
  ⟨h.lt, fun i hi => by rw [Nat.zero_add]; exact h.c0 i hi, fun i hi => by rw [Nat.zero_add]; exact h.c1 i hi, fun i hi => by rw [Nat.zero_add]; exact h.c2 i hi, h.row⟩

/-- Nothing of the list or its digits is written. -/
theorem LstW.later {W W' : World} {B X : Nat} {ds : List DV} (h : LstW B X ds W) (hb : Below W.heap.size W W') : LstW B X ds W' := by
  have hl := h.lt
  have cc : ∀ j, W'.cell? ⟨X, j, none⟩ = W.cell? ⟨X, j, none⟩ := fun j => hb.cell (p := ⟨X, j, none⟩) hl
  exact ⟨h.xlo, Nat.lt_of_lt_of_le hl hb.size, fun j hj => (hb.frozen (p := ⟨X, j, none⟩) hl).trans (h.fr j hj), fun i hi => (cc _).trans (h.c0 i hi), fun i hi => (cc _).trans (h.c1 i hi), fun i hi => (cc _).trans (h.c2 i hi), fun i hi => (h.row i hi).later hb, h.far, h.off⟩

/-- A block beside the list turns. -/
theorem LstW.aside {W W' : World} {B X P : Nat} {ds : List DV} (h : LstW B X ds W) (ha : Aside P W W') (hP : P < B) : LstW B X ds W' := by
  have hl := h.lt
  have hx := h.xlo
  have cc : ∀ j, W'.cell? ⟨X, j, none⟩ = W.cell? ⟨X, j, none⟩ := fun j => ha.cell (p := ⟨X, j, none⟩) hl (by simp; omega)
  exact ⟨hx, Nat.lt_of_lt_of_le hl ha.size, fun j hj => (ha.frozen (p := ⟨X, j, none⟩) hl (by simp; omega)).trans (h.fr j hj), fun i hi => (cc _).trans (h.c0 i hi), fun i hi => (cc _).trans (h.c1 i hi), fun i hi => (cc _).trans (h.c2 i hi), fun i hi => ha.row (h.row i hi) (fun _ _ h1 h2 => far_ne (h.far i hi) h1 h2 hP), h.far, h.off⟩

theorem getD_set (ds : List DV) (k : Nat) (d : DV) (hk : k < ds.length) (i : Nat) : (ds.set k d).getD i default = if i = k then d else ds.getD i default := by
  rw [List.getD_eq_getElem?_getD, List.getD_eq_getElem?_getD, List.getElem?_set]
  by_cases h : k = i
  · subst h; simp [hk]
  · simp [h, Ne.symm h]

/-- Place k is written anew. -/
theorem LstW.set {W : World} {B X : Nat} {ds : List DV} (h : LstW B X ds W) {k : Nat} (hk : k < ds.length) {d : DV} (hr : RowAt .u32 W d.a d.zs) (hf : Far B d.a d.zs) (ho : ∀ b o, d.a = some ⟨b, o, none⟩ → d.zs ≠ [] → b ≠ X) :
    LstW B X (ds.set k d) (((W.setCell ⟨X, k * 3, none⟩ (.bool d.g)).setCell ⟨X, k * 3 + 1, none⟩ (.slice d.a d.zs.length d.c)).setCell ⟨X, k * 3 + 2, none⟩ (.int .i64 d.E)) := by
  have old : ∀ j, j ≠ k * 3 → j ≠ k * 3 + 1 → j ≠ k * 3 + 2 → (((W.setCell ⟨X, k * 3, none⟩ (.bool d.g)).setCell ⟨X, k * 3 + 1, none⟩ (.slice d.a d.zs.length d.c)).setCell ⟨X, k * 3 + 2, none⟩ (.int .i64 d.E)).cell? ⟨X, j, none⟩ = W.cell? ⟨X, j, none⟩ := by
    intro j h0 h1 h2
    rw [World.cell?_setCell_other _ _ _ _ (by intro e; apply h2; have := congrArg Addr.off e; simpa using this.symm), World.cell?_setCell_other _ _ _ _ (by intro e; apply h1; have := congrArg Addr.off e; simpa using this.symm), World.cell?_setCell_other _ _ _ _ (by intro e; apply h0; have := congrArg Addr.off e; simpa using this.symm)]
  have n0 : (((W.setCell ⟨X, k * 3, none⟩ (.bool d.g)).setCell ⟨X, k * 3 + 1, none⟩ (.slice d.a d.zs.length d.c)).setCell ⟨X, k * 3 + 2, none⟩ (.int .i64 d.E)).cell? ⟨X, k * 3, none⟩ = some (.bool d.g) := by
    rw [World.cell?_setCell_other _ _ _ _ (by simp), World.cell?_setCell_other _ _ _ _ (by simp)]
    exact World.cell?_setCell_same _ _ _ (h.c0 k hk)
  have n1 : (((W.setCell ⟨X, k * 3, none⟩ (.bool d.g)).setCell ⟨X, k * 3 + 1, none⟩ (.slice d.a d.zs.length d.c)).setCell ⟨X, k * 3 + 2, none⟩ (.int .i64 d.E)).cell? ⟨X, k * 3 + 1, none⟩ = some (.slice d.a d.zs.length d.c) := by
    rw [World.cell?_setCell_other _ _ _ _ (by simp)]
    refine World.cell?_setCell_same _ _ _ (u := .slice (ds.getD k default).a (ds.getD k default).zs.length (ds.getD k default).c) ?_
    rw [World.cell?_setCell_other _ _ _ _ (by simp)]
    exact h.c1 k hk
  have n2 : (((W.setCell ⟨X, k * 3, none⟩ (.bool d.g)).setCell ⟨X, k * 3 + 1, none⟩ (.slice d.a d.zs.length d.c)).setCell ⟨X, k * 3 + 2, none⟩ (.int .i64 d.E)).cell? ⟨X, k * 3 + 2, none⟩ = some (.int .i64 d.E) := by
    refine World.cell?_setCell_same _ _ _ (u := .int .i64 (ds.getD k default).E) ?_
    rw [World.cell?_setCell_other _ _ _ _ (by simp), World.cell?_setCell_other _ _ _ _ (by simp)]
    exact h.c2 k hk
  have rowp : ∀ (a : Option Addr) (zs : List Int), RowAt .u32 W a zs → (∀ b o, a = some ⟨b, o, none⟩ → zs ≠ [] → b ≠ X) → RowAt .u32 (((W.setCell ⟨X, k * 3, none⟩ (.bool d.g)).setCell ⟨X, k * 3 + 1, none⟩ (.slice d.a d.zs.length d.c)).setCell ⟨X, k * 3 + 2, none⟩ (.int .i64 d.E)) a zs := by
    intro a zs h1 h2
    exact ((h1.setAway (fun b o e1 e2 => by simpa using h2 b o e1 e2) _).setAway (fun b o e1 e2 => by simpa using h2 b o e1 e2) _).setAway (fun b o e1 e2 => by simpa using h2 b o e1 e2) _
  refine ⟨h.xlo, by simpa using h.lt, ?_, ?_, ?_, ?_, ?_, ?_, ?_⟩
  · intro j hj
    rw [World.frozen?_setCell, World.frozen?_setCell, World.frozen?_setCell]
    exact h.fr j (by simpa using hj)
  · intro i hi
    have hi' : i < ds.length := by simpa using hi
    rw [getD_set ds k d hk]
    by_cases e : i = k
    · rw [if_pos e, e]; exact n0
    · rw [if_neg e, old _ (by omega) (by omega) (by omega)]; exact h.c0 i hi'
  · intro i hi
    have hi' : i < ds.length := by simpa using hi
    rw [getD_set ds k d hk]
    by_cases e : i = k
    · rw [if_pos e, e]; exact n1
    · rw [if_neg e, old _ (by omega) (by omega) (by omega)]; exact h.c1 i hi'
  · intro i hi
    have hi' : i < ds.length := by simpa using hi
    rw [getD_set ds k d hk]
    by_cases e : i = k
    · rw [if_pos e, e]; exact n2
    · rw [if_neg e, old _ (by omega) (by omega) (by omega)]; exact h.c2 i hi'
  · intro i hi
    have hi' : i < ds.length := by simpa using hi
    rw [getD_set ds k d hk]
    by_cases e : i = k
    · rw [if_pos e]; exact rowp _ _ hr ho
    · rw [if_neg e]; exact rowp _ _ (h.row i hi') (h.off i hi')
  · intro i hi
    have hi' : i < ds.length := by simpa using hi
    rw [getD_set ds k d hk]
    by_cases e : i = k
    · rw [if_pos e]; exact hf
    · rw [if_neg e]; exact h.far i hi'
  · intro i hi
    have hi' : i < ds.length := by simpa using hi
    rw [getD_set ds k d hk]
    by_cases e : i = k
    · rw [if_pos e]; exact ho
    · rw [if_neg e]; exact h.off i hi'

/-- The list that was built, whole. -/
theorem AllD.whole {w W : World} {P : Nat} {v : Value} {ds : List DV} (h : AllD w P v ds W) (hne : ds ≠ []) : ∃ X c, v = .slice (some ⟨X, 0, none⟩) ds.length c ∧ LstW w.heap.size X ds W := by
  rcases h.own.2 with ⟨_, h2⟩ | ⟨g, cap, cur, h1, h2, h3, h4, h5, h6, h7⟩
  · exact absurd (List.length_eq_zero_iff.1 h2) hne
  · have hg : g < W.heap.size := by
      by_cases hp : g < W.heap.size
      · exact hp
      · rw [Array.getElem?_eq_none (by omega)] at h3; cases h3
    have hc : ∀ i j, i < ds.length → j < 3 → W.cell? ⟨g, i * 3 + j, none⟩ = (ds.getD i default).cells[j]? := by
      intro i j hi hj
      have h8 : (cur.toList.take (ds.length * 3))[i * 3 + j]? = (dcells ds)[i * 3 + j]? := by rw [h7]
      rw [List.getElem?_take, if_pos (by omega), dcells_get ds i j hi hj] at h8
      simp only [World.cell?, h3]
      rw [← h8]
      simp
    refine ⟨g, cap, h1, h2, hg, ?_, fun i hi => hc i 0 hi (by decide), fun i hi => hc i 1 hi (by decide), fun i hi => hc i 2 hi (by decide), h.row, h.far, ?_⟩
    · intro j _
      simp [World.frozen?, h3]
    · intro i hi b o e1 e2 e3
      have := h.off i hi b o e1 e2
      rw [h1] at this
      exact this (by rw [e3]; rfl)

end Go.Proofs.YtladfpljnaippabDoor

/-
  'append([]T{}, s...)' as a step of a region that draws.
-/
namespace Go.Proofs.YtladfpljnaippabDoor
open Go.RowKit

theorem own_empty {W : World} {bl base : Nat} {e : TypeId} {k : IntKind} (hbl : W.heap[bl]? = some (.cells #[] e (0, 0))) (hb : base ≤ bl) : W.ownsRow base e 1 (.slice (some ⟨bl, 0, none⟩) 0 0) 0 (vals k []) := by
  refine ⟨by simp [vals], .inr ⟨bl, 0, #[], rfl, hb, hbl, Nat.le_refl _, by unfold maxLen; omega, by simp, by simp [vals]⟩⟩

theorem appEs {k : IntKind} {bytes : Nat} {w0 : World} {ops : Array Oper} {o : Oper} {ac : Act} {K : Act → World → Prop} {Q : Exit → Act → World → Prop} {E : Prop} (hgd : o.guard = none) (s x : Operand) (t : TypeId)
    (ho : o.op = .call { callee := .builtin .append, args := #[s, x], argTypes := #[t, t] })
    (e : TypeId) (ht : Tryd.prog.underlying t = some (.slice e)) (hinfo : (Tryd.prog.info? e).map (fun i => (i.zero, i.size, i.bytes)) = some (some (.int k 0), 1, bytes)) (hby : bytes ≤ 8)
    (a : Option Addr) (c : Nat) (zs : List Int) (bl : Nat) (hbl : w0.heap[bl]? = some (.cells #[] e (0, 0))) (hs : ac.eval s = .slice (some ⟨bl, 0, none⟩) 0 0) (hx : ac.eval x = .slice a zs.length c) (hn : zs.length ≤ 8388608) (hnil : a = none → c = 0) (hc : zs.length ≤ c) (hr : RowAt k w0 a zs)
    (h : ∀ a' c' w', w'.ownsRow bl e 1 (.slice a' zs.length c') zs.length (vals k zs) → Aside bl w0 w' → K (ac.put o.dst (.slice a' zs.length c')) w') :
    if Region.wanted o (yielded ops ac.tmps) = true then Oper.wp Tryd.prog o ac w0 K Q else E := by
  have hw : Region.wanted o (yielded ops ac.tmps) = true := by simp [Region.wanted, hgd]
  rw [if_pos hw]
  obtain ⟨i0, hi, hz0, hz1, hz2⟩ := info_parts hinfo
  have hlt : bl < w0.heap.size := by
    by_cases hp : bl < w0.heap.size
    · exact hp
    · rw [Array.getElem?_eq_none (by omega)] at hbl; cases hbl
  cases a with
  | none =>
    have h0 := hnil rfl
    subst h0
    have hz : zs = [] := List.length_eq_zero_iff.1 (by omega)
    subst hz
    have hrun := run_append_owned_none (P := Tryd.prog) (w := w0) bl t o.type e i0 1 ht hi (.slice (some ⟨bl, 0, none⟩) 0 0) 0 (vals k []) (own_empty hbl (Nat.le_refl _))
    unfold Oper.wp execOp
    simp only [ho, resolve, invoke, builtin, Sem.run_bind, Sem.run_pure, Result.andThen_ok, List.map_toArray, List.map_cons, List.map_nil, hs, hx, List.length_nil, hrun]
    exact h _ _ w0 (own_empty hbl (Nat.le_refl _)) (Aside.refl _ _)
  | some ad =>
    have hb1 : zs.length * bytes ≤ zs.length * 8 := Nat.mul_le_mul_left _ hby
    refine wp_append_own _ s x t ho bl e i0 (.int k 0) 1 bytes ht hi hz0 hz1 hz2 rfl (by decide) (.slice (some ⟨bl, 0, none⟩) 0 0) 0 (vals k []) hs (own_empty hbl (Nat.le_refl _)) ad zs.length c (vals k zs) hx (by simp [vals]) ?_ ?_ ?_ ?_ (by omega) ?_
    · intro j u hj
      have hjl : j < zs.length := by
        by_cases hp : j < zs.length
        · exact hp
        · rw [List.getElem?_eq_none (by rw [vals_length]; omega)] at hj; cases hj
      rcases hr with hr | ⟨b, off, h1, h2, h3⟩
      · rw [hr] at hjl; simp at hjl
      · have e1 := Option.some.inj h1
        subst e1
        have hu : u = .int k (zs.getD j 0) := by
          simp [vals, hjl] at hj
          rw [← hj, List.getD_eq_getElem?_getD, List.getElem?_eq_getElem hjl]
          rfl
        rw [hu]
        have h4 := h3 j hjl
        by_cases e : j = 0
        · subst e; simpa [Addr.add] using h4
        · simpa [Addr.add, e] using h4
    · intro u hu
      simp [vals] at hu
      obtain ⟨z, _, rfl⟩ := hu
      rfl
    · unfold maxLen; omega
    · rw [Nat.zero_add]; omega
    · intro v' w' hown hgrow _
      rw [Nat.zero_add, show vals k [] = [] from rfl, List.nil_append] at hown
      obtain ⟨a', c', rfl⟩ : ∃ a' c', v' = .slice a' zs.length c' := by
        rcases hown.2 with ⟨h1, h2⟩ | ⟨g, cap, cur, h1, _⟩
        · rw [h2]; exact ⟨_, _, h1⟩
        · exact ⟨_, _, h1⟩
      refine h a' c' w' hown ?_
      exact ⟨hgrow.os, hgrow.tape, hgrow.output, hgrow.size, fun kk hk hne => hgrow.block kk hk (by simp [Value.ownBlock]; exact fun hh => hne hh)⟩

end Go.Proofs.YtladfpljnaippabDoor
