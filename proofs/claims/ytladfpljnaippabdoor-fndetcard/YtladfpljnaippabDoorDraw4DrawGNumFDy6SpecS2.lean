/-
  Any drawn Big; a drawn shift.
-/
import Derived.Test.YtladfpljnaippabDoorDrawFbGrow2Draw3
import Derived.Test.YtladfpljnaippabDoorNumD
import Ieee.Arith
import Derived.Test.YtladfpljnaippabDoorSpecG
namespace Go.Proofs.YtladfpljnaippabDoor
open Go.RowKit

/-- The answer's box (R, still zero) while a Big is drawn behind it. -/
structure Rz (w : World) (P R : Nat) (W : World) : Prop where
  r1 : W.cell? ⟨R, 0, none⟩ = some (.bool false)
  r2 : W.cell? ⟨R, 1, none⟩ = some (.slice none 0 0)
  r3 : ∀ j, W.frozen? ⟨R, j, none⟩ = false
  asd : Aside P w W
  ord : w.heap.size ≤ R ∧ R < W.heap.size ∧ P < w.heap.size

theorem Rz.start (w : World) (P : Nat) (hp : P < w.heap.size) (t : TypeId) : Rz w P w.heap.size (w.alloc (.cells #[.bool false, .slice none 0 0] t)) :=
  ⟨by simp [go_sem], by simp [go_sem], by intro j; simp [go_sem], Aside.of (bel0 _ _), Nat.le_refl _, by simp, hp⟩

theorem Rz.aside {w : World} {P R : Nat} {W W' : World} (h : Rz w P R W) (ha : Aside P W W') : Rz w P R W' := by
  obtain ⟨o1, o2, o3⟩ := h.ord
  have hs := ha.size
  exact ⟨(ha.cell (by simp; omega) (by simp; omega)).trans h.r1, (ha.cell (by simp; omega) (by simp; omega)).trans h.r2, fun j => (ha.frozen (by simp; omega) (by simp; omega)).trans (h.r3 j), h.asd.trans ha, o1, by omega, o3⟩

/-- A drawn Big is laid into the answer's box. -/
theorem Rz.out {w W0 W : World} {P R : Nat} {e : TypeId} {G : Bool} {a : Option Addr} {c n : Nat} {zs : List Int} (h : Rz w P R W0) (ha : Aside P W0 W) (hr : Rd P W) (hown : W.ownsRow W0.heap.size e 1 (.slice a zs.length c) zs.length (vals .u32 zs)) (hu : U32 zs) (hn : zs.length ≤ n) :
    DrawOut P e w n (.returned (.agg #[.bool G, .slice a zs.length c])) ((W.setCell ⟨R, 0, none⟩ (.bool G)).setCell ⟨R, 1, none⟩ (.slice a zs.length c)) := by
  obtain ⟨o1, o2, o3⟩ := h.ord
  have hs := h.asd.size
  refine ⟨G, a, c, zs, rfl, hn, hu, own_mono (own_set (own_set hown (by simp; omega) _) (by simp; omega) _) (by omega), ?_, ((h.asd.trans ha).setHigh (by simp; omega) _).setHigh (by simp; omega) _⟩
  exact hr.above (B := P + 1) (((Below.refl _ _).setCell (by simp; omega) _).setCell (by simp; omega) _) (by omega)

set_option maxHeartbeats 4000000 in
theorem drawAny_any (P : Nat) (w : World) (h : Rd P w) :
    Calls Tryd.prog 73 #[.pointer (some ⟨P, 0, none⟩)] w fun e w' => DrawOut P 33 w 513 e w' := by
  have hl := h.lt
  go_enter Tryd.func73, Tryd.ntmps73
  go_wp2_with fail
  refine (next_any P _ (h.later (bel0 _ _))).mono ?_
  rintro e w1 ⟨kk, rfl, hk0, hk1, hr1, ha1⟩
  have R1 : Hid (Rz w P w.heap.size w1) := (Rz.start w P hl _).aside ha1
  have HR1 : Hid (Rd P w1) := hr1
  have hq0 : 0 ≤ kk % 14 := by omega
  clear hr1 ha1
  go_wp2_with fail
  refine (drawBig_any P _ HR1.out).mono ?_
  rintro e w2 ⟨G, a, c, zs, rfl, hn2, hu2, hown2, hr2, ha2⟩
  have R2 : Hid (Rz w P w.heap.size w2) := R1.out.aside ha2
  have oR : w.heap.size < w2.heap.size := R2.out.ord.2.1
  have r1 := R2.out.r1
  have r2 := R2.out.r2
  have r3 := R2.out.r3
  by_cases hz : kk % 14 = 0
  · have hz' : (kk % 14 == 0) = true := by rw [beq_iff_eq]; exact hz
    have hp1 : P < w1.heap.size := by have := R1.out.ord; omega
    have b0 : Below w2.heap.size w2 (w2.alloc (.cells #[.bool G, .slice a zs.length c] 27)) := bel0 _ _
    have S3 := spoil_any P w1 (w2.alloc (.cells #[.bool G, .slice a zs.length c] 27)) G a c zs hp1 (hr2.later b0) (ha2.trans (Aside.of b0)) ((Aside.of (P := P) b0).own hown2 hp1) hu2 hn2
    have HS3 : Hid (Calls Tryd.prog 105 #[.agg #[.bool G, .slice a zs.length c], .pointer (some ⟨P, 0, none⟩)] (w2.alloc (.cells #[.bool G, .slice a zs.length c] 27)) fun e w' => DrawOut P 33 w1 513 e w') := S3
    clear S3 hown2 hr2 ha2 b0 hu2 hz
    go_wp2_with fail
    refine HS3.out.mono ?_
    rintro e w3 ⟨G3, a3, c3, z3, rfl, hn3, hu3, hown3, hr3, ha3⟩
    have HX : Hid (DrawOut P 33 w 513 (.returned (.agg #[.bool G3, .slice a3 z3.length c3])) ((w3.setCell ⟨w.heap.size, 0, none⟩ (.bool G3)).setCell ⟨w.heap.size, 1, none⟩ (.slice a3 z3.length c3))) := R1.out.out ha3 hr3 hown3 hu3 hn3
    have R3 : Hid (Rz w P w.heap.size w3) := R1.out.aside ha3
    have y1 := R3.out.r1
    have y2 := R3.out.r2
    have y3 := R3.out.r3
    clear hown3 hr3 ha3 hu3 r1 r2 r3
    go_wp2
    refine bodyPost_ret (v := .agg #[.bool G3, .slice a3 z3.length c3]) (by simp [results, Tryd.results73, go_sem, y1, y2]) rfl ?_
    exact HX.out
  · have hz' : (kk % 14 == 0) = false := by rw [beq_eq_false_iff_ne]; exact hz
    have b0 : Below w2.heap.size w2 (w2.alloc (.cells #[.bool G, .slice a zs.length c] 27)) := bel0 _ _
    have hp1 : P < w1.heap.size := by have := R1.out.ord; omega
    have DX := R1.out.out (n := 513) (G := G) (ha2.trans (Aside.of b0)) (hr2.later b0) ((Aside.of (P := P) b0).own hown2 hp1) hu2 (by omega)
    have HX : Hid (DrawOut P 33 w 513 (.returned (.agg #[.bool G, .slice a zs.length c])) (((w2.setCell ⟨w.heap.size, 0, none⟩ (.bool G)).setCell ⟨w.heap.size, 1, none⟩ (.slice a zs.length c)).alloc (.cells #[.bool G, .slice a zs.length c] 27))) := by
      unfold Hid
      simpa [go_sem, oR] using DX
    clear DX hown2 hr2 ha2 b0 hu2 hz
    go_wp2
    refine bodyPost_ret (v := .agg #[.bool G, .slice a zs.length c]) (by simp [results, Tryd.results73, go_sem, r1, r2, oR]) rfl ?_
    exact HX.out

end Go.Proofs.YtladfpljnaippabDoor

/-
  Drawn Bigs, spoiled or not, as functions of the reader's bytes.
-/
namespace Go.Proofs.YtladfpljnaippabDoor
open Go.RowKit

/-- A drawn Big, told: what is handed back. -/
def DrawH (P : Nat) (G : Bool) (Z rs' : List Int) (w : World) (e : Ending) (w' : World) : Prop :=
  ∃ (a : Option Addr) (c : Nat), e = .returned (.agg #[.bool G, .slice a Z.length c]) ∧ Z.length ≤ 513 ∧ U32 Z ∧ w'.ownsRow w.heap.size 33 1 (.slice a Z.length c) Z.length (vals .u32 Z) ∧ Rs P rs' w' ∧ Aside P w w'

theorem SP.outH {w : World} {P R O : Nat} {G : Bool} {ys rs : List Int} {W : World} {a : Option Addr} {c : Nat} (h : SP w P R O 33 G (.slice a ys.length c) ys W) (hn : ys.length ≤ 513) (hs : Rs P rs W) : DrawH P G ys rs w (.returned (.agg #[.bool G, .slice a ys.length c])) ((W.setCell ⟨R, 0, none⟩ (.bool G)).setCell ⟨R, 1, none⟩ (.slice a ys.length c)) := by
  obtain ⟨o1, o2, o3, o4, o5, o6⟩ := h.ord
  have hw : Within R (R + 1) W ((W.setCell ⟨R, 0, none⟩ (.bool G)).setCell ⟨R, 1, none⟩ (.slice a ys.length c)) := ((Within.refl R (R + 1) W).setCell (p := ⟨R, 0, none⟩) (Nat.le_refl _) (Nat.lt_succ_self _) _).setCell (p := ⟨R, 1, none⟩) (Nat.le_refl _) (Nat.lt_succ_self _) _
  refine ⟨a, c, rfl, hn, h.u, ?_, ?_, (h.asd.setHigh (by simp; omega) _).setHigh (by simp; omega) _⟩
  · refine ⟨h.own.1, ?_⟩
    rcases h.own.2 with g1 | ⟨g, cap, cur, g1, g2, g3, g4⟩
    · exact .inl g1
    · refine .inr ⟨g, cap, cur, g1, g2, ?_, g4⟩
      have : g ≠ R := fun e => h.offR (by rw [g1, e]; rfl)
      rw [hw.block g (by omega)]
      exact g3
  · exact hs.above (B := P + 1) (((Below.refl _ _).setCell (by simp; omega) _).setCell (by simp; omega) _) (by omega)

/-- What l1spoil makes of a number. -/
def spoilF (G : Bool) (Z rs : List Int) : Bool × List Int :=
  if rs.headD 0 % 4 = 0 then (G, Z ++ [0]) else if rs.headD 0 % 4 = 1 then (true, []) else if rs.headD 0 % 4 = 2 then (G, Z ++ List.replicate (513 - Z.length) 5) else (G, [0])

set_option maxRecDepth 100000 in
set_option maxHeartbeats 8000000 in
theorem spoilH_any (P : Nat) (rs : List Int) (w00 w : World) (G : Bool) (a : Option Addr) (c : Nat) (zs : List Int) (hp : P < w00.heap.size) (hr : Rs P rs w) (ha : Aside P w00 w) (hown : w.ownsRow w00.heap.size 33 1 (.slice a zs.length c) zs.length (vals .u32 zs)) (hu : U32 zs) (hn : zs.length ≤ 512) :
    Calls Tryd.prog 105 #[.agg #[.bool G, .slice a zs.length c], .pointer (some ⟨P, 0, none⟩)] w fun e w' => DrawH P (spoilF G zs rs).1 (spoilF G zs rs).2 rs.tail w00 e w' := by
  have D0 : Hid (∀ t t', SP w00 P (w.heap.size + 1) w.heap.size 33 G (.slice a zs.length c) zs ((w.alloc (.cells #[.bool G, .slice a zs.length c] t)).alloc (.cells #[.bool false, .slice none 0 0] t'))) := fun t t' => SP.start hp hr.rd ha hown hu
  have HS : Hid (Rs P rs w) := hr
  clear hr ha hown hu
  obtain ⟨FS, hFS⟩ : ∃ FS, FS = spoilF G zs rs := ⟨_, rfl⟩
  rw [← hFS]
  have HF : Hid (FS = spoilF G zs rs) := hFS
  clear hFS
  go_enter Tryd.func105, Tryd.ntmps105
  go_wp2_with fail
  refine (nextF_any P rs _ (HS.out.later (bel2 _ _ _))).mono ?_
  rintro e w1 ⟨rfl, hk0, hk1, hr1, ha1⟩
  obtain ⟨kk, hkk⟩ : ∃ kk, kk = rs.headD 0 := ⟨_, rfl⟩
  have HF2 : Hid (FS = if kk % 4 = 0 then (G, zs ++ [0]) else if kk % 4 = 1 then (true, []) else if kk % 4 = 2 then (G, zs ++ List.replicate (513 - zs.length) 5) else (G, [0])) := by unfold Hid; rw [HF.out, hkk]; rfl
  rw [← hkk] at hk0 hk1 ⊢
  clear hkk HF
  have D1 : Hid (SP w00 P (w.heap.size + 1) w.heap.size 33 G (.slice a zs.length c) zs w1) := (D0.out _ _).aside ha1 hr1.rd
  have HS1 : Hid (Rs P rs.tail w1) := hr1
  have oR : w.heap.size + 1 < w1.heap.size := D1.out.ord.2.2.2.1
  have oB : w00.heap.size ≤ w1.heap.size := D1.out.asd.size
  have oW : w00.heap.size ≤ w.heap.size := D1.out.ord.2.1
  have hq0 : 0 ≤ kk % 4 := by omega
  clear hr1 ha1 D0 HS
  have s0 := D1.out.o0
  have s1 := D1.out.o1
  have s2 := D1.out.o2
  have r1 := D1.out.r1
  have r2 := D1.out.r2
  have r3 := D1.out.r3
  have hown := D1.out.own
  rcases (show kk % 4 = 0 ∨ kk % 4 = 1 ∨ kk % 4 = 2 ∨ kk % 4 = 3 by omega) with hc | hc | hc | hc
  · have HFS : Hid (FS = (G, zs ++ [0])) := by unfold Hid; rw [HF2.out, if_pos hc]
    clear HF2
    go_wp2_with (at_builtin; refine app2 rfl (.tmp 12) (.tmp 13) 25 rfl w00.heap.size 33 Tryd.underlying25 Tryd.info33 (by decide) _ _ rfl rfl hown (by omega) oB ?_; intro a1 n1 c1 w4 hown1 hb1 hs1 hk hv; obtain ⟨z0, z1, z2, y1, y2, y3⟩ := D1.out.keep hk)
    have D4 := D1.out.grown hb1 hs1 hk hv hown1 (D1.out.u.snoc (by decide) (by decide))
    obtain ⟨e1, e2⟩ := own_len hown1
    subst e1
    have HS4 : Hid (Rs P rs.tail (w4.setCell ⟨w.heap.size, 1, none⟩ (.slice a1 (zs ++ [0]).length c1))) := HS1.out.above (hb1.setCell (by simpa using oW) _) hp
    refine bodyPost_ret (v := .agg #[.bool G, .slice a1 (zs ++ [0]).length c1]) (by simp [results, Tryd.results105, go_sem, y1, y2]) rfl ?_
    rw [HFS.out]
    exact D4.outH (by simp; omega) HS4.out
  · have HFS : Hid (FS = (true, [])) := by unfold Hid; rw [HF2.out, if_neg (by omega), if_pos hc]
    clear HF2
    have DS1 := (D1.out.put (v' := .slice none ([] : List Int).length 0) (ys' := []) (own_nil _ _ _ _) (fun z hz => by cases hz) (by simp [Value.ownBlock]) (by simp [Value.ownBlock])).sign true
    have HS4 : Rs P rs.tail ((w1.setCell ⟨w.heap.size, 1, none⟩ (.slice none ([] : List Int).length 0)).setCell ⟨w.heap.size, 0, none⟩ (.bool true)) := HS1.out.above (B := w00.heap.size) (((Below.refl _ _).setCell (by simpa using oW) _).setCell (by simpa using oW) _) hp
    have DX := DS1.outH (by simp) HS4
    have HX : Hid (DrawH P true [] rs.tail w00 (.returned (.agg #[.bool true, .slice none 0 0])) ((((w1.setCell ⟨w.heap.size, 1, none⟩ (.slice none 0 0)).setCell ⟨w.heap.size, 0, none⟩ (.bool true)).setCell ⟨w.heap.size + 1, 0, none⟩ (.bool true)).setCell ⟨w.heap.size + 1, 1, none⟩ (.slice none 0 0))) := DX
    clear DX hown DS1 HS4
    go_wp2
    refine bodyPost_ret (v := .agg #[.bool true, .slice none 0 0]) (by simp [results, Tryd.results105, go_sem, r1, r2]) rfl ?_
    rw [HFS.out]
    exact HX.out
  · have HFS : Hid (FS = (G, zs ++ List.replicate (513 - zs.length) 5)) := by unfold Hid; rw [HF2.out, if_neg (by omega), if_neg (by omega), if_pos hc]
    clear HF2
    go_wp2
    clear hc
    go_loopw [] (fun wr => ∃ (va : Option Addr) (vc : Nat) (ys : List Int), ys.length ≤ 513 ∧ Hid (ys = zs ++ List.replicate (ys.length - zs.length) 5) ∧ zs.length ≤ ys.length ∧ Hid (Rs P rs.tail wr) ∧ Hid (SP w00 P (w.heap.size + 1) w.heap.size 33 G (.slice va ys.length vc) ys wr)) (fun wr => 513 - boxLen w.heap.size wr)
    case atStart => exact ⟨a, c, zs, by omega, (by simp : zs = zs ++ List.replicate (zs.length - zs.length) 5), Nat.le_refl _, HS1, D1⟩
    case round =>
      clear D1 s0 s1 s2 r1 r2 r3 hown oR oB HS1
      obtain ⟨va, vc, ys, hy5, hys, hzy, hRs, hD⟩ := hrel
      have s0 := hD.out.o0
      have s1 := hD.out.o1
      have s2 := hD.out.o2
      have r1 := hD.out.r1
      have r2 := hD.out.r2
      have r3 := hD.out.r3
      have hown := hD.out.own
      have oB : w00.heap.size ≤ wr.heap.size := hD.out.asd.size
      by_cases hlt : (ys.length : Int) < 513
      · go_wp2_with (at_builtin; refine app2 rfl (.tmp 27) (.tmp 28) 25 rfl w00.heap.size 33 Tryd.underlying25 Tryd.info33 (by decide) _ _ rfl rfl hown (by omega) oB ?_; intro a1 n1 c1 w4 hown1 hb1 hs1 hk hv; obtain ⟨z0, z1, z2, y1, y2, y3⟩ := hD.out.keep hk)
        obtain ⟨e1, e2⟩ := own_len hown1
        subst e1
        have D4 := hD.out.grown hb1 hs1 hk hv hown1 (hD.out.u.snoc (by decide) (by decide))
        have L1 : boxLen w.heap.size wr = ys.length := boxLen_of s1
        have L2 := boxLen_of D4.o1
        have hys2 : ys ++ [5] = zs ++ List.replicate ((ys ++ [5]).length - zs.length) 5 := by
          rw [List.length_append, List.length_singleton, show ys.length + 1 - zs.length = (ys.length - zs.length) + 1 by omega, List.replicate_succ', ← List.append_assoc]
          rw [← hys.out]
        have HS4 : Rs P rs.tail (w4.setCell ⟨w.heap.size, 1, none⟩ (.slice a1 (ys ++ [5]).length c1)) := hRs.out.above (hb1.setCell (by simpa using oW) _) hp
        go_roundw
        case rel => exact ⟨a1, c1, ys ++ [5], by simp; omega, hys2, by simp; omega, HS4, D4⟩
        case measure => rw [L1, L2]; simp; omega
      · have HX : Hid (DrawH P G ys rs.tail w00 (.returned (.agg #[.bool G, .slice va ys.length vc])) ((wr.setCell ⟨w.heap.size + 1, 0, none⟩ (.bool G)).setCell ⟨w.heap.size + 1, 1, none⟩ (.slice va ys.length vc))) := hD.out.outH (by omega) hRs.out
        have HY : Hid (ys = zs ++ List.replicate (513 - zs.length) 5) := by
          unfold Hid
          have h := hys.out
          rw [show ys.length = 513 by omega] at h
          exact h
        clear hD hown hys
        go_wp2
        refine bodyPost_ret (v := .agg #[.bool G, .slice va ys.length vc]) (by simp [results, Tryd.results105, go_sem, r1, r2]) rfl ?_
        rw [HFS.out, ← HY.out]
        exact HX.out
  · have HFS : Hid (FS = (G, [0])) := by unfold Hid; rw [HF2.out, if_neg (by omega), if_neg (by omega), if_neg (by omega)]
    clear HF2
    have DL := D1.out.aside (W' := w1.alloc (.cells #[.int .u32 0] 33)) (Aside.of (bel0 _ _)) (D1.out.rd.later (bel0 _ _))
    have DP := DL.put (own_lit w1 33 0 oB) u32_zero (by intro e; simp [Value.ownBlock] at e; omega) (by intro e; simp [Value.ownBlock] at e; omega)
    have HS4 : Rs P rs.tail ((w1.alloc (.cells #[.int .u32 0] 33)).setCell ⟨w.heap.size, 1, none⟩ (.slice (some ⟨w1.heap.size, 0, none⟩) ([0] : List Int).length 1)) := (HS1.out.later (bel0 _ _)).above (B := w00.heap.size) ((Below.refl _ _).setCell (by simpa using oW) _) hp
    have DX := DP.outH (by simp) HS4
    have oO : w.heap.size < w1.heap.size := by omega
    have HX : Hid (DrawH P G [0] rs.tail w00 (.returned (.agg #[.bool G, .slice (some ⟨w1.heap.size, 0, none⟩) 1 1])) ((((w1.setCell ⟨w.heap.size, 1, none⟩ (.slice (some ⟨w1.heap.size, 0, none⟩) 1 1)).setCell ⟨w.heap.size + 1, 0, none⟩ (.bool G)).setCell ⟨w.heap.size + 1, 1, none⟩ (.slice (some ⟨w1.heap.size, 0, none⟩) 1 1)).alloc (.cells #[.int .u32 0] 33))) := by
      unfold Hid
      simpa [go_sem, oO, oR] using DX
    clear DX DL DP HS4 hown
    go_wp2
    refine bodyPost_ret (v := .agg #[.bool G, .slice (some ⟨w1.heap.size, 0, none⟩) 1 1]) (by simp [results, Tryd.results105, go_sem, r1, r2, oR]) rfl ?_
    rw [HFS.out]
    exact HX.out

end Go.Proofs.YtladfpljnaippabDoor

/-
  Plain mathematics: the bits of a float of 32 bits, and the order of two floats.
-/
namespace Go.Proofs.YtladfpljnaippabDoor

/-- The value of the bits of a float, as a whole number of the last place of its own. -/
def fMag (b : Int) : Int := if b / 8388608 % 256 = 0 then b % 8388608 else b % 8388608 + 8388608
def fExp (b : Int) : Int := if b / 8388608 % 256 = 0 then 1 else b / 8388608 % 256
def fNum (b : Int) : Int := if 2147483648 ≤ b then -(fMag b) else fMag b
def fFin (b : Int) : Bool := b / 8388608 % 256 != 255
/-- The value in units of 2^-149. -/
def fVal (b : Int) : Int := atK 150 (fNum b) (fExp b - 150)

theorem single_read {b : Int} (h0 : 0 ≤ b) (h1 : b < 4294967296) (hf : fFin b = true) : Ieee.single.read b.toNat = .number (decide (2147483648 ≤ b)) (fMag b).toNat (fExp b - 150) := by
  have hf' : b / 8388608 % 256 ≠ 255 := by simpa [fFin] using hf
  obtain ⟨n, rfl⟩ := Int.eq_ofNat_of_zero_le h0
  have e1 : Ieee.single.signWeight = 2147483648 := by decide
  have e2 : Ieee.single.binade = 8388608 := by decide
  have e3 : Ieee.single.infRung = 2139095040 := by decide
  have e4 : Ieee.single.leastPlace = -149 := by decide
  unfold Ieee.Format.read
  simp only [e1, e2, e3, e4, Int.toNat_natCast]
  have hs : (n / 2147483648 % 2 == 1) = decide ((2147483648 : Int) ≤ (n : Int)) := by
    by_cases h : 2147483648 ≤ n
    · have : n / 2147483648 % 2 = 1 := by omega
      rw [this]
      symm
      simp
      omega
    · have : n / 2147483648 % 2 = 0 := by omega
      rw [this]
      symm
      simp
      omega
  rw [hs]
  by_cases hr : n % 2147483648 < 8388608
  · have hz : (n : Int) / 8388608 % 256 = 0 := by omega
    rw [if_pos hr]
    simp only [fMag, fExp, hz, if_true]
    congr 1
    omega
  · have hz : ¬ ((n : Int) / 8388608 % 256 = 0) := by omega
    rw [if_neg hr, if_pos (by omega)]
    simp only [fMag, fExp, hz, if_false]
    congr 1 <;> omega

theorem fMag_nn {b : Int} (_h0 : 0 ≤ b) : 0 ≤ fMag b := by
  unfold fMag
  split <;> omega

theorem fExp_pos {b : Int} (_h0 : 0 ≤ b) : 1 ≤ fExp b ∧ fExp b ≤ 255 := by
  unfold fExp
  split <;> omega

theorem signed_eq {b : Int} (h0 : 0 ≤ b) (k : Nat) : Ieee.signed (decide (2147483648 ≤ b)) (fMag b).toNat k = fNum b * 2 ^ k := by
  have hm := fMag_nn h0
  have e : (((fMag b).toNat <<< k : Nat) : Int) = fMag b * 2 ^ k := by
    rw [Nat.shiftLeft_eq]
    push_cast
    rw [Int.toNat_of_nonneg hm]
  unfold Ieee.signed fNum
  by_cases h : 2147483648 ≤ b
  · rw [if_pos (by simpa using h), if_pos h, e, Int.neg_mul]
  · rw [if_neg (by simpa using h), if_neg h, e]

theorem single_order {a b : Int} (a0 : 0 ≤ a) (a1 : a < 4294967296) (b0 : 0 ≤ b) (b1 : b < 4294967296) (fa : fFin a = true) (fb : fFin b = true) : Ieee.single.order a.toNat b.toNat = some (compare (fVal a) (fVal b)) := by
  unfold Ieee.Format.order
  rw [single_read a0 a1 fa, single_read b0 b1 fb]
  have ea := fExp_pos a0
  have eb := fExp_pos b0
  simp only [Ieee.Datum.order]
  rw [signed_eq a0, signed_eq b0]
  obtain ⟨m, hm⟩ : ∃ m, m = min (fExp a - 150) (fExp b - 150) := ⟨_, rfl⟩
  rw [← hm]
  have hp : (0 : Int) < 2 ^ (m + 150).toNat := Int.pow_pos (by decide)
  have va : fVal a = fNum a * 2 ^ (fExp a - 150 - m).toNat * 2 ^ (m + 150).toNat := by
    unfold fVal atK
    rw [Int.mul_assoc, ← Int.pow_add, show (fExp a - 150 - m).toNat + (m + 150).toNat = (fExp a - 150 + 150).toNat by omega]
  have vb : fVal b = fNum b * 2 ^ (fExp b - 150 - m).toNat * 2 ^ (m + 150).toNat := by
    unfold fVal atK
    rw [Int.mul_assoc, ← Int.pow_add, show (fExp b - 150 - m).toNat + (m + 150).toNat = (fExp b - 150 + 150).toNat by omega]
  rw [va, vb]
  generalize fNum a * 2 ^ (fExp a - 150 - m).toNat = x
  generalize fNum b * 2 ^ (fExp b - 150 - m).toNat = y
  generalize (2 : Int) ^ (m + 150).toNat = p at hp
  congr 1
  rcases Int.lt_trichotomy x y with h | h | h
  · rw [Int.compare_eq_lt.2 h, Int.compare_eq_lt.2 (Int.mul_lt_mul_of_pos_right h hp)]
  · rw [h, Int.compare_eq_eq.2 rfl, Int.compare_eq_eq.2 rfl]
  · rw [Int.compare_eq_gt.2 h, Int.compare_eq_gt.2 (Int.mul_lt_mul_of_pos_right h hp)]

theorem order_lt {a b : Int} : ((some (compare a b) : Option Ordering) == some .lt) = decide (a < b) := by
  rcases Int.lt_trichotomy a b with h | h | h
  · rw [Int.compare_eq_lt.2 h]; simp [h]
  · subst h; rw [Int.compare_eq_eq.2 rfl]; simp
  · rw [Int.compare_eq_gt.2 h]; simp; omega

theorem order_gt {a b : Int} : ((some (compare a b) : Option Ordering) == some .gt) = decide (b < a) := by
  rcases Int.lt_trichotomy a b with h | h | h
  · rw [Int.compare_eq_lt.2 h]; simp; omega
  · subst h; rw [Int.compare_eq_eq.2 rfl]; simp
  · rw [Int.compare_eq_gt.2 h]; simp [h]

theorem order_self {a : Int} : ((some (compare a a) : Option Ordering) != some .eq) = false := by
  rw [Int.compare_eq_eq.2 rfl]; rfl

end Go.Proofs.YtladfpljnaippabDoor

/-
  The boxes of two Dyadics; an l2dy in a box.
-/
namespace Go.Proofs.YtladfpljnaippabDoor
open Go.RowKit

/-- The boxes of two Dyadics behind w. -/
structure Bx6 (w : World) (u v e u' v' e' : Value) (W : World) : Prop where
  q0 : W.cell? ⟨w.heap.size, 0, none⟩ = some u
  q1 : W.cell? ⟨w.heap.size, 1, none⟩ = some v
  q2 : W.cell? ⟨w.heap.size, 2, none⟩ = some e
  p0 : W.cell? ⟨w.heap.size + 1, 0, none⟩ = some u'
  p1 : W.cell? ⟨w.heap.size + 1, 1, none⟩ = some v'
  p2 : W.cell? ⟨w.heap.size + 1, 2, none⟩ = some e'
  le : w.heap.size + 1 + 1 ≤ W.heap.size
  bel : Below w.heap.size w W

theorem Bx6.start (w : World) (u v e u' v' e' : Value) (t t' : TypeId) : Bx6 w u v e u' v' e' ((w.alloc (.cells #[u, v, e] t)).alloc (.cells #[u', v', e'] t')) := by
  refine ⟨?_, ?_, ?_, ?_, ?_, ?_, ?_, bel2 _ _ _⟩
  all_goals simp [go_sem]

theorem Bx6.later {w : World} {u v e u' v' e' : Value} {W W' : World} (h : Bx6 w u v e u' v' e' W) (hb : Below W.heap.size W W') : Bx6 w u v e u' v' e' W' := by
  have hl := h.le
  exact ⟨(hb.cell (by simp; omega)).trans h.q0, (hb.cell (by simp; omega)).trans h.q1, (hb.cell (by simp; omega)).trans h.q2, (hb.cell (by simp; omega)).trans h.p0, (hb.cell (by simp; omega)).trans h.p1, (hb.cell (by simp; omega)).trans h.p2, Nat.le_trans h.le hb.size, h.bel.trans (hb.mono (by omega))⟩

theorem Bx6.held {w : World} {u v e u' v' e' : Value} {W W' : World} (h : Bx6 w u v e u' v' e' W) (hb : Below W.heap.size W W') : W'.cell? ⟨w.heap.size, 0, none⟩ = some u ∧ W'.cell? ⟨w.heap.size, 1, none⟩ = some v ∧ W'.cell? ⟨w.heap.size, 2, none⟩ = some e ∧ W'.cell? ⟨w.heap.size + 1, 0, none⟩ = some u' ∧ W'.cell? ⟨w.heap.size + 1, 1, none⟩ = some v' ∧ W'.cell? ⟨w.heap.size + 1, 2, none⟩ = some e' ∧ Below W.heap.size W W' :=
  ⟨(h.later hb).q0, (h.later hb).q1, (h.later hb).q2, (h.later hb).p0, (h.later hb).p1, (h.later hb).p2, hb⟩

theorem held7 {p q r s t u v : Prop} (h : p ∧ q ∧ r ∧ s ∧ t ∧ u ∧ v) : v := h.2.2.2.2.2.2

/-- An l2dy in a box. -/
structure L2In (T : Nat) (g : Bool) (a : Option Addr) (c : Nat) (ds : List Int) (m e : Int) (W : World) : Prop where
  q0 : W.cell? ⟨T, 0, none⟩ = some (.bool g)
  q1 : W.cell? ⟨T, 1, none⟩ = some (.slice a ds.length c)
  l1 : L1 W g a c ds m

/-- A box of a struct of three that is still zero. -/
structure Has3 (b : Nat) (W : World) : Prop where
  r1 : W.cell? ⟨b, 0, none⟩ = some (.bool false)
  r2 : W.cell? ⟨b, 1, none⟩ = some (.slice none 0 0)
  r3 : W.cell? ⟨b, 2, none⟩ = some (.int .i64 0)
  r4 : ∀ j, W.frozen? ⟨b, j, none⟩ = false
  lt : b < W.heap.size

theorem Has3.new (W : World) (t : TypeId) : Has3 W.heap.size (W.alloc (.cells #[.bool false, .slice none 0 0, .int .i64 0] t)) := ⟨by simp [go_sem], by simp [go_sem], by simp [go_sem], by intro j; simp [go_sem], by simp⟩

theorem Has3.later {b : Nat} {W W' : World} (h : Has3 b W) (hb : Below W.heap.size W W') : Has3 b W' :=
  ⟨(hb.cell (p := ⟨b, 0, none⟩) h.lt).trans h.r1, (hb.cell (p := ⟨b, 1, none⟩) h.lt).trans h.r2, (hb.cell (p := ⟨b, 2, none⟩) h.lt).trans h.r3, fun j => (hb.frozen (p := ⟨b, j, none⟩) h.lt).trans (h.r4 j), Nat.lt_of_lt_of_le h.lt hb.size⟩

theorem L2In.start {g : Bool} {a : Option Addr} {c : Nat} {ds : List Int} {m e : Int} {W : World} (t : TypeId) (h : L1 W g a c ds m) : L2In W.heap.size g a c ds m e (W.alloc (.cells #[.bool g, .slice a ds.length c, .int .i64 e] t)) :=
  ⟨by simp [go_sem], by simp [go_sem], h.later (bel0 _ _)⟩

theorem L2In.set {b B : Nat} {g : Bool} {a : Option Addr} {c : Nat} {ds : List Int} {m e : Int} {W : World} (h : L1 W g a c ds m) (hf : Far B a ds) (hb : b < B) (hh : Has3 b W) : L2In b g a c ds m e (((W.setCell ⟨b, 0, none⟩ (.bool g)).setCell ⟨b, 1, none⟩ (.slice a ds.length c)).setCell ⟨b, 2, none⟩ (.int .i64 e)) := by
  refine ⟨?_, ?_, ((h.setFar hf (by simpa using hb) _).setFar hf (by simpa using hb) _).setFar hf (by simpa using hb) _⟩
  · rw [World.cell?_setCell_other _ _ _ _ (by simp), World.cell?_setCell_other _ _ _ _ (by simp)]
    exact World.cell?_setCell_same _ _ _ hh.r1
  · rw [World.cell?_setCell_other _ _ _ _ (by simp)]
    refine World.cell?_setCell_same _ _ _ (u := .slice none 0 0) ?_
    rw [World.cell?_setCell_other _ _ _ _ (by simp)]
    exact hh.r2

end Go.Proofs.YtladfpljnaippabDoor

/-
  The model's numbers of at most two digits, with a sign.
-/
namespace Go.Proofs.YtladfpljnaippabDoor
open Go.RowKit

/-- The digits of a number below 2^32. -/
def sdig (V : Int) : List Int := if V = 0 then [] else if V < 65536 then [V] else [V % 65536, V / 65536]

theorem l1_sdig {w : World} {g : Bool} {a : Option Addr} {c : Nat} {v V : Int} (h0 : 0 ≤ V) (h1 : V < 4294967296) (hv : v = sg g V) (hg : g = true → V ≠ 0) (hc : c ≤ maxLen) (h : Sl .i64 w a c (sdig V)) : L1 w g a c (sdig V) v := by
  by_cases hz : V = 0
  · have e : sdig V = [] := by unfold sdig; rw [if_pos hz]
    rw [e] at h ⊢
    exact ⟨h, ⟨Dig.nil _, rfl⟩, by rw [hv, hz]; rfl, fun h2 => absurd hz (hg h2), hc⟩
  · by_cases hs : V < 65536
    · have e : sdig V = [V] := by unfold sdig; rw [if_neg hz, if_pos hs]
      rw [e] at h ⊢
      exact ⟨h, ⟨Dig.cons h0 hs (Dig.nil _), by simp [trimL, hz]⟩, by rw [hv]; simp [val], by simp, hc⟩
    · have e : sdig V = [V % 65536, V / 65536] := by unfold sdig; rw [if_neg hz, if_neg hs]
      have hq : V / 65536 ≠ 0 := by omega
      rw [e] at h ⊢
      exact ⟨h, ⟨Dig.cons (by omega) (by omega) (Dig.cons (by omega) (by omega) (Dig.nil _)), by simp [trimL, hq]⟩, by rw [hv]; congr 1; simp [val]; omega, by simp, hc⟩

/-- What l1small hands back. -/
def Small2Out (w : World) (v : Int) (e : Ending) (w' : World) : Prop :=
  ∃ (g : Bool) (a : Option Addr) (c : Nat) (ds : List Int), e = .returned (.agg #[.bool g, .slice a ds.length c]) ∧ ds.length ≤ 2 ∧ L1 w' g a c ds v ∧ Far (w.heap.size + 1) a ds ∧ Below w.heap.size w w'

theorem wrap_i64 {n : Int} (h0 : 0 ≤ n) (h1 : n < 9223372036854775808) : IntKind.i64.wrap n = n := by
  simp [IntKind.wrap, IntKind.bits, IntKind.signed]
  omega

set_option maxHeartbeats 4000000 in
theorem small2_pos (v : Int) (w : World) (h0 : 0 ≤ v) (h1 : v < 4294967296) :
    Calls Tryd.prog 56 #[.int .i64 v] w fun e w' => Small2Out w v e w' := by
  obtain ⟨V, hV⟩ : ∃ V, V = v := ⟨_, rfl⟩
  have hV0 : 0 ≤ V := by omega
  have hV1 : V < 4294967296 := by omega
  have HVV : Hid (V = v) := hV
  clear hV
  go_enter Tryd.func56, Tryd.ntmps56
  go_wp2
  go_loopw [4, 5] (fun su sd wr => ∃ (u : Int) (ys : List Int), su = .int .u64 u ∧ ((u = V ∧ ys = []) ∨ (u = V / 65536 ∧ ys = [V % 65536] ∧ 0 < V) ∨ (u = 0 ∧ ys = [V % 65536, V / 65536] ∧ 65536 ≤ V)) ∧ wr.ownsRow (w.heap.size + 1) 3 1 sd ys.length (vals .i64 ys) ∧ Below (w.heap.size + 1) (w.alloc (.cells #[.bool false, .slice none 0 0] 64)) wr ∧ w.heap.size + 1 ≤ wr.heap.size) (fun su _ _ => (intOf su).toNat)
  case atStart => exact ⟨V, [], by rw [HVV.out], .inl ⟨rfl, rfl⟩, own_nil _ _ _ _, Below.refl _ _, by simp⟩
  case round =>
    obtain ⟨u, ys, rfl, hcase, hown, hnx, hsz⟩ := hrel
    have hu0 : 0 ≤ u := by omega
    have hu1 : u < 4294967296 := by omega
    by_cases hu : 0 < u
    · have E1 : Hid (IntKind.i64.wrap (u % 65536) = u % 65536) := wrap_i64 (by omega) (by omega)
      rcases hcase with ⟨hc1, hc2⟩ | ⟨hc1, hc2, hc3⟩ | ⟨hc1, _, _⟩
      · subst hc2
        have HC : Hid (_ = _) := hc1
        clear hc1
        go_wp2_with (at_builtin; refine app1 rfl (.tmp 15) (.tmp 19) 62 rfl (w.heap.size + 1) 3 Tryd.underlying62 Tryd.info3 (by decide) _ _ rfl rfl hown (by simp) hsz ?_; intro a1 n1 c1 w1 hown1 hb1 hs1)
        go_roundw
        case rel => exact ⟨u / 65536, [u % 65536], rfl, .inr (.inl ⟨by rw [HC.out], by rw [HC.out], by have := HC.out; omega⟩), hown1, hnx.trans hb1, by omega⟩
        case measure => simp only [intOf]; omega
      · subst hc2
        have HC : Hid (_ = _) := hc1
        clear hc1
        go_wp2_with (at_builtin; refine app1 rfl (.tmp 15) (.tmp 19) 62 rfl (w.heap.size + 1) 3 Tryd.underlying62 Tryd.info3 (by decide) _ _ rfl rfl hown (by simp) hsz ?_; intro a1 n1 c1 w1 hown1 hb1 hs1)
        go_roundw
        case rel => exact ⟨u / 65536, [V % 65536, u % 65536], rfl, .inr (.inr ⟨by have := HC.out; omega, by have := HC.out; have e : u % 65536 = V / 65536 := (by omega); rw [e], by have := HC.out; omega⟩), hown1, hnx.trans hb1, by omega⟩
        case measure => simp only [intOf]; omega
      · omega
    · have hu00 : u = 0 := by omega
      subst hu00
      have hys : ys = sdig V := by
        unfold sdig
        rcases hcase with ⟨hc1, hc2⟩ | ⟨hc1, hc2, hc3⟩ | ⟨hc1, hc2, hc3⟩
        · rw [hc2, if_pos hc1.symm]
        · rw [hc2, if_neg (by omega), if_pos (by omega), Int.emod_eq_of_lt (by omega) (by omega)]
        · rw [hc2, if_neg (by omega), if_neg (by omega)]
      obtain ⟨a', c', rfl, hcm, hsl, hrn⟩ := own_row hown
      have r1 : wr.cell? ⟨w.heap.size, 0, none⟩ = some (.bool false) := by rw [hnx.cell (by simp)]; simp [go_sem]
      have r2 : wr.cell? ⟨w.heap.size, 1, none⟩ = some (.slice none 0 0) := by rw [hnx.cell (by simp)]; simp [go_sem]
      have r3 : ∀ j, wr.frozen? ⟨w.heap.size, j, none⟩ = false := by intro j; rw [hnx.frozen (by simp)]; simp [go_sem]
      have HF : Hid (Far (w.heap.size + 1) a' ys) := hrn.far (Nat.le_refl _) (Nat.le_refl _)
      have HL : Hid (L1 wr false a' c' ys v) := by unfold Hid; rw [hys] at hsl ⊢; exact l1_sdig hV0 hV1 (by have := HVV.out; simp [sg]; omega) (by intro h; cases h) hcm hsl
      have HB : Hid (Below w.heap.size w wr) := (bel0 _ _).trans (hnx.mono (by omega))
      have hyl : ys.length ≤ 2 := by rw [hys]; unfold sdig; split <;> (try split) <;> simp
      clear hown hnx hsl hrn hcase hys
      go_wp2
      refine bodyPost_ret (v := .agg #[.bool false, .slice a' ys.length c']) (by simp [results, Tryd.results56, go_sem, r1, r2, h0]) rfl ?_
      refine ⟨false, a', c', ys, rfl, hyl, ?_, HF.out, ?_⟩
      · exact (HL.out.setFar HF.out (by simp) _).setFar HF.out (by simp) _
      · exact (HB.out.setCell (by simp) _).setCell (by simp) _

set_option maxHeartbeats 4000000 in
theorem small2_neg (v : Int) (w : World) (h0 : v < 0) (h1 : -4294967296 < v) :
    Calls Tryd.prog 56 #[.int .i64 v] w fun e w' => Small2Out w v e w' := by
  obtain ⟨V, hV⟩ : ∃ V, V = -v := ⟨_, rfl⟩
  have hV0 : 0 ≤ V := by omega
  have hV1 : V < 4294967296 := by omega
  have HVV : Hid (V = -v) := hV
  clear hV
  go_enter Tryd.func56, Tryd.ntmps56
  go_wp2
  go_loopw [4, 5] (fun su sd wr => ∃ (u : Int) (ys : List Int), su = .int .u64 u ∧ ((u = V ∧ ys = []) ∨ (u = V / 65536 ∧ ys = [V % 65536] ∧ 0 < V) ∨ (u = 0 ∧ ys = [V % 65536, V / 65536] ∧ 65536 ≤ V)) ∧ wr.ownsRow (w.heap.size + 1) 3 1 sd ys.length (vals .i64 ys) ∧ Below (w.heap.size + 1) (w.alloc (.cells #[.bool false, .slice none 0 0] 64)) wr ∧ w.heap.size + 1 ≤ wr.heap.size) (fun su _ _ => (intOf su).toNat)
  case atStart => exact ⟨V, [], by rw [HVV.out]; exact congrArg _ (by simp [IntKind.wrap, IntKind.bits, IntKind.signed]; omega), .inl ⟨rfl, rfl⟩, own_nil _ _ _ _, Below.refl _ _, by simp⟩
  case round =>
    obtain ⟨u, ys, rfl, hcase, hown, hnx, hsz⟩ := hrel
    have hu0 : 0 ≤ u := by omega
    have hu1 : u < 4294967296 := by omega
    by_cases hu : 0 < u
    · have E1 : Hid (IntKind.i64.wrap (u % 65536) = u % 65536) := wrap_i64 (by omega) (by omega)
      rcases hcase with ⟨hc1, hc2⟩ | ⟨hc1, hc2, hc3⟩ | ⟨hc1, _, _⟩
      · subst hc2
        have HC : Hid (_ = _) := hc1
        clear hc1
        go_wp2_with (at_builtin; refine app1 rfl (.tmp 15) (.tmp 19) 62 rfl (w.heap.size + 1) 3 Tryd.underlying62 Tryd.info3 (by decide) _ _ rfl rfl hown (by simp) hsz ?_; intro a1 n1 c1 w1 hown1 hb1 hs1)
        go_roundw
        case rel => exact ⟨u / 65536, [u % 65536], rfl, .inr (.inl ⟨by rw [HC.out], by rw [HC.out], by have := HC.out; omega⟩), hown1, hnx.trans hb1, by omega⟩
        case measure => simp only [intOf]; omega
      · subst hc2
        have HC : Hid (_ = _) := hc1
        clear hc1
        go_wp2_with (at_builtin; refine app1 rfl (.tmp 15) (.tmp 19) 62 rfl (w.heap.size + 1) 3 Tryd.underlying62 Tryd.info3 (by decide) _ _ rfl rfl hown (by simp) hsz ?_; intro a1 n1 c1 w1 hown1 hb1 hs1)
        go_roundw
        case rel => exact ⟨u / 65536, [V % 65536, u % 65536], rfl, .inr (.inr ⟨by have := HC.out; omega, by have := HC.out; have e : u % 65536 = V / 65536 := (by omega); rw [e], by have := HC.out; omega⟩), hown1, hnx.trans hb1, by omega⟩
        case measure => simp only [intOf]; omega
      · omega
    · have hu00 : u = 0 := by omega
      subst hu00
      have hys : ys = sdig V := by
        unfold sdig
        rcases hcase with ⟨hc1, hc2⟩ | ⟨hc1, hc2, hc3⟩ | ⟨hc1, hc2, hc3⟩
        · rw [hc2, if_pos hc1.symm]
        · rw [hc2, if_neg (by omega), if_pos (by omega), Int.emod_eq_of_lt (by omega) (by omega)]
        · rw [hc2, if_neg (by omega), if_neg (by omega)]
      obtain ⟨a', c', rfl, hcm, hsl, hrn⟩ := own_row hown
      have r1 : wr.cell? ⟨w.heap.size, 0, none⟩ = some (.bool false) := by rw [hnx.cell (by simp)]; simp [go_sem]
      have r2 : wr.cell? ⟨w.heap.size, 1, none⟩ = some (.slice none 0 0) := by rw [hnx.cell (by simp)]; simp [go_sem]
      have r3 : ∀ j, wr.frozen? ⟨w.heap.size, j, none⟩ = false := by intro j; rw [hnx.frozen (by simp)]; simp [go_sem]
      have HF : Hid (Far (w.heap.size + 1) a' ys) := hrn.far (Nat.le_refl _) (Nat.le_refl _)
      have HL : Hid (L1 wr true a' c' ys v) := by unfold Hid; rw [hys] at hsl ⊢; exact l1_sdig hV0 hV1 (by have := HVV.out; simp [sg]; omega) (by have := HVV.out; intro _; omega) hcm hsl
      have HB : Hid (Below w.heap.size w wr) := (bel0 _ _).trans (hnx.mono (by omega))
      have hyl : ys.length ≤ 2 := by rw [hys]; unfold sdig; split <;> (try split) <;> simp
      clear hown hnx hsl hrn hcase hys
      go_wp2
      refine bodyPost_ret (v := .agg #[.bool true, .slice a' ys.length c']) (by simp [results, Tryd.results56, go_sem, r1, r2]) rfl ?_
      refine ⟨true, a', c', ys, rfl, hyl, ?_, HF.out, ?_⟩
      · exact (HL.out.setFar HF.out (by simp) _).setFar HF.out (by simp) _
      · exact (HB.out.setCell (by simp) _).setCell (by simp) _

theorem small2_any (v : Int) (w : World) (h0 : -4294967296 < v) (h1 : v < 4294967296) :
    Calls Tryd.prog 56 #[.int .i64 v] w fun e w' => Small2Out w v e w' := by
  by_cases h : 0 ≤ v
  · exact small2_pos v w h h1
  · exact small2_neg v w (by omega) h0

end Go.Proofs.YtladfpljnaippabDoor
