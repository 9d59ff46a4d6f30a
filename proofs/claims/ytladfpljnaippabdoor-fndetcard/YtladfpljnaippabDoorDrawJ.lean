/-
  DrawDyDet as a function of the bytes.
-/
import Derived.Test.YtladfpljnaippabDoorDrawIListWAppE
import Derived.Test.YtladfpljnaippabDoorDrawIListWAppE
import Derived.Deep.CutRange
import Derived.Deep.Light
import Derived.Deep.RegionHeld3
namespace Go.Proofs.YtladfpljnaippabDoor
open Go.RowKit

theorem appEw {k : IntKind} {bytes : Nat} {w0 : World} {ops : Array Oper} {o : Oper} {ac : Act} {K : Act → World → Prop} {Q : Exit → Act → World → Prop} {E : Prop} (hgd : o.guard = none) (s x : Operand) (t : TypeId)
    (ho : o.op = .call { callee := .builtin .append, args := #[s, x], argTypes := #[t, t] })
    (e : TypeId) (ht : Tryd.prog.underlying t = some (.slice e)) (hinfo : (Tryd.prog.info? e).map (fun i => (i.zero, i.size, i.bytes)) = some (some (.int k 0), 1, bytes)) (hby : bytes ≤ 8)
    (a : Option Addr) (c : Nat) (zs : List Int) (bl : Nat) (hbl : w0.heap[bl]? = some (.cells #[] e (0, 0))) (hs : ac.eval s = .slice (some ⟨bl, 0, none⟩) 0 0) (hx : ac.eval x = .slice a zs.length c) (hn : zs.length ≤ 8388608) (hr : RowAt k w0 a zs)
    (h : ∀ a' c' w', w'.ownsRow bl e 1 (.slice a' zs.length c') zs.length (vals k zs) → Aside bl w0 w' → K (ac.put o.dst (.slice a' zs.length c')) w') :
    if Region.wanted o (yielded ops ac.tmps) = true then Oper.wp Tryd.prog o ac w0 K Q else E := by
  have hw : Region.wanted o (yielded ops ac.tmps) = true := by simp [Region.wanted, hgd]
  rw [if_pos hw]
  obtain ⟨i0, hi, hz0, hz1, hz2⟩ := info_parts hinfo
  have hlt : bl < w0.heap.size := by
    by_cases hp : bl < w0.heap.size
    · exact hp
    · rw [Array.getElem?_eq_none (by omega)] at hbl; cases hbl
  cases a with
  | none =>
    have hz : zs = [] := by
      rcases hr with h | ⟨_, _, h, _⟩
      · exact h
      · cases h
    subst hz
    have hrun : (Builtin.append_ #[t, t] o.type #[.slice (some ⟨bl, 0, none⟩) 0 0, .slice none 0 c]).run Tryd.prog w0 = .ok (.slice (some ⟨bl, 0, none⟩) 0 0) w0 := by
      simp [Builtin.append_, run_underlying ht, sizeOf, typeInfo, hi, Builtin.lenOf, Builtin.firstCells, storeCells]
    unfold Oper.wp execOp
    simp only [ho, resolve, invoke, builtin, Sem.run_bind, Sem.run_pure, Result.andThen_ok, List.map_toArray, List.map_cons, List.map_nil, hs, hx, List.length_nil, hrun]
    exact h _ _ w0 (own_empty hbl (Nat.le_refl _)) (Aside.refl _ _)
  | some ad =>
    have hb1 : zs.length * bytes ≤ zs.length * 8 := Nat.mul_le_mul_left _ hby
    refine wp_append_own _ s x t ho bl e i0 (.int k 0) 1 bytes ht hi hz0 hz1 hz2 rfl (by decide) (.slice (some ⟨bl, 0, none⟩) 0 0) 0 (vals k []) hs (own_empty hbl (Nat.le_refl _)) ad zs.length c (vals k zs) hx (by simp [vals]) ?_ ?_ ?_ ?_ (by omega) ?_
    · intro j u hj
      have hjl : j < zs.length := by
        by_cases hp : j < zs.length
        · exact hp
        · rw [List.getElem?_eq_none (by rw [vals_length]; omega)] at hj; cases hj
      rcases hr with hr | ⟨b, off, h1, h2, h3⟩
      · rw [hr] at hjl; simp at hjl
      · have e1 := Option.some.inj h1
        subst e1
        have hu : u = .int k (zs.getD j 0) := by
          simp [vals, hjl] at hj
          rw [← hj, List.getD_eq_getElem?_getD, List.getElem?_eq_getElem hjl]
          rfl
        rw [hu]
        have h4 := h3 j hjl
        by_cases e : j = 0
        · subst e; simpa [Addr.add] using h4
        · simpa [Addr.add, e] using h4
    · intro u hu
      simp [vals] at hu
      obtain ⟨z, _, rfl⟩ := hu
      rfl
    · unfold maxLen; omega
    · rw [Nat.zero_add]; omega
    · intro v' w' hown hgrow _
      rw [Nat.zero_add, show vals k [] = [] from rfl, List.nil_append] at hown
      obtain ⟨a', c', rfl⟩ : ∃ a' c', v' = .slice a' zs.length c' := by
        rcases hown.2 with ⟨h1, h2⟩ | ⟨g, cap, cur, h1, _⟩
        · rw [h2]; exact ⟨_, _, h1⟩
        · exact ⟨_, _, h1⟩
      refine h a' c' w' hown ?_
      exact ⟨hgrow.os, hgrow.tape, hgrow.output, hgrow.size, fun kk hk hne => hgrow.block kk hk (by simp [Value.ownBlock]; exact fun hh => hne hh)⟩

theorem keep6 {w3 : World} {X a b : Nat} {u0 u1 u2 : Value} (h : a + 2 < b) (hs : w3.cell? ⟨X, a, none⟩ = some u0 ∧ w3.cell? ⟨X, a + 1, none⟩ = some u1 ∧ w3.cell? ⟨X, a + 2, none⟩ = some u2 ∧ w3.frozen? ⟨X, b, none⟩ = false ∧ w3.frozen? ⟨X, b + 1, none⟩ = false ∧ w3.frozen? ⟨X, b + 2, none⟩ = false) (v0 v1 v2 : Value) :
    (((w3.setCell ⟨X, b, none⟩ v0).setCell ⟨X, b + 1, none⟩ v1).setCell ⟨X, b + 2, none⟩ v2).cell? ⟨X, a, none⟩ = some u0 ∧ (((w3.setCell ⟨X, b, none⟩ v0).setCell ⟨X, b + 1, none⟩ v1).setCell ⟨X, b + 2, none⟩ v2).cell? ⟨X, a + 1, none⟩ = some u1 ∧ (((w3.setCell ⟨X, b, none⟩ v0).setCell ⟨X, b + 1, none⟩ v1).setCell ⟨X, b + 2, none⟩ v2).cell? ⟨X, a + 2, none⟩ = some u2 ∧
    (((w3.setCell ⟨X, b, none⟩ v0).setCell ⟨X, b + 1, none⟩ v1).setCell ⟨X, b + 2, none⟩ v2).frozen? ⟨X, b, none⟩ = false ∧ (((w3.setCell ⟨X, b, none⟩ v0).setCell ⟨X, b + 1, none⟩ v1).setCell ⟨X, b + 2, none⟩ v2).frozen? ⟨X, b + 1, none⟩ = false ∧ (((w3.setCell ⟨X, b, none⟩ v0).setCell ⟨X, b + 1, none⟩ v1).setCell ⟨X, b + 2, none⟩ v2).frozen? ⟨X, b + 2, none⟩ = false := by
  have ne : ∀ i j, i < j → (⟨X, i, none⟩ : Addr) ≠ ⟨X, j, none⟩ := by
    intro i j hij e
    have := congrArg Addr.off e
    simp at this
    omega
  have old : ∀ i, i < b → (((w3.setCell ⟨X, b, none⟩ v0).setCell ⟨X, b + 1, none⟩ v1).setCell ⟨X, b + 2, none⟩ v2).cell? ⟨X, i, none⟩ = w3.cell? ⟨X, i, none⟩ := by
    intro i hi
    rw [World.cell?_setCell_other _ _ _ _ (fun e => ne i (b + 2) (by omega) e.symm), World.cell?_setCell_other _ _ _ _ (fun e => ne i (b + 1) (by omega) e.symm), World.cell?_setCell_other _ _ _ _ (fun e => ne i b (by omega) e.symm)]
  have fz : ∀ p, (((w3.setCell ⟨X, b, none⟩ v0).setCell ⟨X, b + 1, none⟩ v1).setCell ⟨X, b + 2, none⟩ v2).frozen? p = w3.frozen? p := by
    intro p
    rw [World.frozen?_setCell, World.frozen?_setCell, World.frozen?_setCell]
  rw [old a (by omega), old (a + 1) (by omega), old (a + 2) (by omega), fz, fz, fz]
  exact hs

/-- One drawn number of a determinant, and the bytes that are left. -/
noncomputable def itemF (k : Int) (rs : List Int) : (Bool × List Int × Int) × List Int :=
  if k % 5 = 0 then l2F rs else (((ofF (bitsF (k % 5 == 1) rs).1).1, (ofF (bitsF (k % 5 == 1) rs).1).2.1, (ofF (bitsF (k % 5 == 1) rs).1).2.2.1), (bitsF (k % 5 == 1) rs).2)
noncomputable def itemsF (k : Int) (rs : List Int) : Nat → List (Bool × List Int × Int) × List Int
  | 0 => ([], rs)
  | n + 1 => ((itemsF k rs n).1 ++ [(itemF k (itemsF k rs n).2).1], (itemF k (itemsF k rs n).2).2)
/-- The last row is made the first one, place by place. -/
def copyF (S : List (Bool × List Int × Int)) : Nat → List (Bool × List Int × Int)
  | 0 => S
  | n + 1 => (copyF S n).set (6 + n) ((copyF S n).getD n (false, [], 0))
def numN (k : Int) : Int := if 250 < k then k - 244 else 9
/-- The drawn list. -/
noncomputable def detF (bs : List Int) : List (Bool × List Int × Int) :=
  if (bs.take 500).headD 0 % 7 = 2 ∧ numN ((bs.take 500).headD 0) = 9 then copyF (itemsF ((bs.take 500).headD 0) (bs.take 500).tail (numN ((bs.take 500).headD 0)).toNat).1 3
  else (itemsF ((bs.take 500).headD 0) (bs.take 500).tail (numN ((bs.take 500).headD 0)).toNat).1

def Small (ds : List DV) : Prop := ∀ d, d ∈ ds → U32 d.zs ∧ d.zs.length ≤ 513

/-- A drawn list: what is handed back. -/
def DetOut (w : World) (bs : List Int) (e : Ending) (w' : World) : Prop :=
  ∃ (X c : Nat) (ds : List DV), e = .returned (.slice (some ⟨X, 0, none⟩) ds.length c) ∧ ds.map strip = detF bs ∧ LstW w.heap.size X ds w' ∧ Small ds ∧ Below w.heap.size w w'

theorem LstW.down {W : World} {B B' X : Nat} {ds : List DV} (h : LstW B X ds W) (hB : B' ≤ B) : LstW B' X ds W :=
  ⟨Nat.le_trans hB h.xlo, h.lt, h.fr, h.c0, h.c1, h.c2, h.row, fun i hi => (h.far i hi).down hB, h.off⟩

theorem Small.snoc {ds : List DV} {d : DV} (h : Small ds) (hu : U32 d.zs) (hn : d.zs.length ≤ 513) : Small (ds ++ [d]) := by
  intro x hx
  rcases List.mem_append.1 hx with h1 | h1
  · exact h x h1
  · have : x = d := by simpa using h1
    subst this
    exact ⟨hu, hn⟩

theorem Small.set {ds : List DV} {d : DV} (h : Small ds) (k : Nat) (hu : U32 d.zs) (hn : d.zs.length ≤ 513) : Small (ds.set k d) := by
  intro x hx
  rcases List.mem_or_eq_of_mem_set hx with h1 | h1
  · exact h x h1
  · subst h1
    exact ⟨hu, hn⟩

theorem offw_far {W : World} {e : TypeId} {v : Value} {n base : Nat} {xs : List Value} {a : Option Addr} {zs : List Int} (h : W.ownsRow base e 3 v n xs) (hf : Far W.heap.size a zs) : OffW v a zs := by
  intro b o h1 h2 h3
  have h4 := (ownw_block h h3).1
  exact far_ne hf h1 h2 h4 rfl

set_option maxRecDepth 100000 in
set_option maxHeartbeats 16000000 in
theorem drawDet_any (a : Option Addr) (c : Nat) (bs : List Int) (w : World) (hn : bs.length ≤ 1048576) (hc : bs.length ≤ c) (hcm : c ≤ maxLen) (hnil : a = none → c = 0) (hr : RowAt .u8 w a bs) (hb : Dig 256 bs) :
    Calls Tryd.prog 6 #[.slice a bs.length c] w fun e w' => DetOut w bs e w' := by
  go_enter Tryd.func6, Tryd.ntmps6
  go_wp2_with fail
  refine (openF_any a c bs _ hn hc hcm hnil hr hb).mono ?_
  rintro e w1 ⟨rfl, hr1, hb1, hs1⟩
  have HB1 : Hid (Below w.heap.size w w1) := hb1
  have HR1 : Hid (Rs w.heap.size (bs.take 500) w1) := hr1
  clear hr1 hb1 hr hb hn hc hcm hnil
  obtain ⟨rs, hrs⟩ : ∃ rs, rs = bs.take 500 := ⟨_, rfl⟩
  rw [← hrs] at HR1
  have HRS : Hid (rs = bs.take 500) := hrs
  clear hrs
  go_wp2_with fail
  refine (nextF_any w.heap.size rs _ HR1.out).mono ?_
  rintro e w2 ⟨rfl, hk0, hk1, hr2, ha2⟩
  obtain ⟨k, hk⟩ : ∃ k, k = rs.headD 0 := ⟨_, rfl⟩
  rw [← hk] at hk0 hk1 ⊢
  obtain ⟨n, hnn⟩ : ∃ n : Nat, (n : Int) = numN k := ⟨(numN k).toNat, by unfold numN; split <;> omega⟩
  have hn7 : 7 ≤ n ∧ n ≤ 11 := by unfold numN at hnn; split at hnn <;> omega
  obtain ⟨hn7, hn11⟩ := hn7
  have HDF : Hid (detF bs = if k % 7 = 2 ∧ (n : Int) = 9 then copyF (itemsF k rs.tail n).1 3 else (itemsF k rs.tail n).1) := by
    unfold Hid detF
    rw [← HRS.out, ← hk, ← hnn, Int.toNat_natCast]
  have HR2 : Hid (Rs w.heap.size rs.tail w2) := hr2
  have HA2 : Hid (AllD w1 w.heap.size (.slice none 0 0) [] w2) := (AllD.start w1 w.heap.size (by omega)).aside ha2
  obtain ⟨rs1, hrs1⟩ : ∃ rs1, rs1 = rs.tail := ⟨_, rfl⟩
  rw [← hrs1] at HR2 HDF
  have HNN : Hid ((n : Int) = numN k) := hnn
  clear hr2 ha2 hk HR1 hrs1 HRS hnn
  go_upto_if 16 with fail
  go_cut [6] from 15 to 18 (fun s6 wx => s6 = .int .i64 n ∧ wx = w2)
  case first =>
    by_cases hc : 250 < k
    · have e1 : (n : Int) = k - 244 := by rw [HNN.out]; unfold numN; rw [if_pos hc]
      have hc' : k > 250 := hc
      go_wp2
      go_meet
      case rel => exact ⟨by rw [e1], rfl⟩
    · have e1 : (n : Int) = 9 := by rw [HNN.out]; unfold numN; rw [if_neg hc]
      have hc' : ¬ k > 250 := hc
      go_wp2
      go_meet
      case rel => exact ⟨by rw [e1], rfl⟩
  case rest =>
    obtain ⟨rfl, rfl⟩ := hcut
    go_wp2
    go_loopw [5, 7, 8, 9] (fun sv si _ _ wr => ∃ (i : Nat) (ds : List DV), i ≤ n ∧ si = .int .i64 i ∧ Hid (AllD w1 w.heap.size sv ds wr) ∧ Hid (ds.map strip = (itemsF k rs1 i).1) ∧ Hid (Rs w.heap.size (itemsF k rs1 i).2 wr) ∧ Hid (Small ds) ∧ Hid (ds.length = i)) (fun _ si _ _ _ => n - (intOf si).toNat)
    case atStart => exact ⟨0, [], Nat.zero_le _, rfl, HA2, rfl, HR2, (fun d hd => by cases hd), rfl⟩
    case round =>
      obtain ⟨i, ds, hi, rfl, hA, hS, hR, hSm, hL⟩ := hrel
      clear HA2 HR2
      by_cases hlt : i < n
      · have hib : (i : Int) < n := by omega
        have hPr := hR.out.lt
        have hlen : ds.length ≤ 1048576 := by rw [hL.out]; omega
        by_cases h5 : k % 5 = 0
        · have h5' : (k % 5 == 0) = true := by rw [beq_iff_eq]; exact h5
          have h5t : k.tmod 5 = k % 5 := Int.tmod_eq_emod_of_nonneg hk0
          have HIT : Hid (itemF k (itemsF k rs1 i).2 = l2F (itemsF k rs1 i).2) := by unfold Hid itemF; rw [if_pos h5]
          clear h5
          go_wp2_with fail
          refine (drawD_any w.heap.size (itemsF k rs1 i).2 _ hR.out).mono ?_
          rintro e w3 ⟨a3, c3, rfl, hn3, hu3, hrw3, hf3, hr3, ha3⟩
          obtain ⟨d, hd⟩ : ∃ d : DV, d = ⟨(l2F (itemsF k rs1 i).2).1.1, a3, c3, (l2F (itemsF k rs1 i).2).1.2.1, (l2F (itemsF k rs1 i).2).1.2.2⟩ := ⟨_, rfl⟩
          have HA3 : Hid (AllD w1 w.heap.size u5 ds w3) := hA.out.aside ha3
          have HRd : Hid (RowAt .u32 w3 d.a d.zs) := by unfold Hid; rw [hd]; exact hrw3
          have HFd : Hid (Far w1.heap.size d.a d.zs) := by unfold Hid; rw [hd]; exact hf3.down hA.out.asd.size
          have HOd : Hid (OffW u5 d.a d.zs) := by unfold Hid; rw [hd]; exact offw_far hA.out.own hf3
          have HSd : Hid (strip d = (itemF k (itemsF k rs1 i).2).1) := by unfold Hid; rw [HIT.out, hd]; rfl
          have HUd : Hid (U32 d.zs ∧ d.zs.length ≤ 513) := by unfold Hid; rw [hd]; exact ⟨hu3, hn3⟩
          have HR3 : Hid (Rs w.heap.size (itemsF k rs1 (i + 1)).2 w3) := by
            unfold Hid
            show Rs w.heap.size (itemF k (itemsF k rs1 i).2).2 w3
            rw [HIT.out]
            exact hr3
          rw [show (l2F (itemsF k rs1 i).2).1.1 = d.g by rw [hd], show (l2F (itemsF k rs1 i).2).1.2.1 = d.zs by rw [hd], show (l2F (itemsF k rs1 i).2).1.2.2 = d.E by rw [hd], show a3 = d.a by rw [hd], show c3 = d.c by rw [hd]]
          clear hd hn3 hu3 hrw3 hf3 hr3 ha3 hA
          go_wp2_with (at_builtin; refine app3D rfl (.tmp 27) (.tmp 30) rfl _ ds rfl rfl HA3.out HRd.out HFd.out HOd.out hlen ?_; intro a4 n4 c4 w4 hall4 hb4)
          have HA4 : Hid (AllD w1 w.heap.size (.slice a4 n4 c4) (ds ++ [d]) w4) := hall4
          have HR4 : Hid (Rs w.heap.size (itemsF k rs1 (i + 1)).2 w4) := HR3.out.above hb4 (by omega)
          clear hall4 hb4 HA3 HR3
          go_wp2
          go_roundw
          case rel => exact ⟨i + 1, ds ++ [d], by omega, by go_num, HA4, (by unfold Hid; rw [List.map_append, hS.out]; show _ ++ [strip d] = _ ++ [_]; rw [HSd.out]), HR4, hSm.out.snoc HUd.out.1 HUd.out.2, (by unfold Hid; rw [List.length_append, hL.out]; rfl)⟩
          case measure => simp [intOf]; omega
        · have h5' : (k % 5 == 0) = false := by rw [beq_eq_false_iff_ne]; exact h5
          have h5t : k.tmod 5 = k % 5 := Int.tmod_eq_emod_of_nonneg hk0
          have HIT : Hid (itemF k (itemsF k rs1 i).2 = (((ofF (bitsF (k % 5 == 1) (itemsF k rs1 i).2).1).1, (ofF (bitsF (k % 5 == 1) (itemsF k rs1 i).2).1).2.1, (ofF (bitsF (k % 5 == 1) (itemsF k rs1 i).2).1).2.2.1), (bitsF (k % 5 == 1) (itemsF k rs1 i).2).2)) := by unfold Hid itemF; rw [if_neg h5]
          clear h5
          go_wp2_with fail
          refine (drawBits_any w.heap.size (k % 5 == 1) (itemsF k rs1 i).2 _ hR.out).mono ?_
          rintro e w3 ⟨rfl, hB0, hB1, hr3, ha3⟩
          obtain ⟨Bt, hBt⟩ : ∃ Bt, Bt = (bitsF (k % 5 == 1) (itemsF k rs1 i).2).1 := ⟨_, rfl⟩
          have HIT2 : Hid (itemF k (itemsF k rs1 i).2 = (((ofF Bt).1, (ofF Bt).2.1, (ofF Bt).2.2.1), (bitsF (k % 5 == 1) (itemsF k rs1 i).2).2)) := by unfold Hid; rw [HIT.out, hBt]
          rw [← hBt] at hB0 hB1 ⊢
          have HA3 : Hid (AllD w1 w.heap.size u5 ds w3) := hA.out.aside ha3
          have HR3 : Hid (Rs w.heap.size (itemsF k rs1 (i + 1)).2 w3) := by
            unfold Hid
            show Rs w.heap.size (itemF k (itemsF k rs1 i).2).2 w3
            rw [HIT.out]
            exact hr3
          clear hr3 ha3 hA hBt HIT
          go_wp2_with fail
          refine (dyOfS_any Bt _ hB0 hB1).mono ?_
          rintro e w4 ⟨G, Z, E, K, a3, c3, rfl, hres, hrw3, hf3, hb4⟩
          obtain ⟨d, hd⟩ : ∃ d : DV, d = ⟨G, a3, c3, Z, E⟩ := ⟨_, rfl⟩
          have HA4 : Hid (AllD w1 w.heap.size u5 ds w4) := HA3.out.later hb4
          have HRd : Hid (RowAt .u32 w4 d.a d.zs) := by unfold Hid; rw [hd]; exact hrw3
          have HFd : Hid (Far w1.heap.size d.a d.zs) := by unfold Hid; rw [hd]; exact hf3.down HA3.out.asd.size
          have HOd : Hid (OffW u5 d.a d.zs) := by unfold Hid; rw [hd]; exact offw_far HA3.out.own hf3
          have HSd : Hid (strip d = (itemF k (itemsF k rs1 i).2).1) := by
            unfold Hid
            rw [HIT2.out, hd]
            unfold ofF
            rw [rD_is hres]
            rfl
          have HUd : Hid (U32 d.zs ∧ d.zs.length ≤ 513) := by unfold Hid; rw [hd]; exact ⟨hres.len.2, by have := hres.len.1; show Z.length ≤ 513; omega⟩
          have HR4 : Hid (Rs w.heap.size (itemsF k rs1 (i + 1)).2 w4) := HR3.out.later hb4
          rw [show G = d.g by rw [hd], show Z = d.zs by rw [hd], show E = d.E by rw [hd], show a3 = d.a by rw [hd], show c3 = d.c by rw [hd]]
          clear hd hres hrw3 hf3 hb4 HA3 HR3 HIT2
          go_wp2_with (at_builtin; refine app3D rfl (.tmp 41) (.tmp 43) rfl _ ds rfl (by show Value.slice (some ⟨w4.heap.size + 1, 0, none⟩) 1 1 = _; simp) (HA4.out.later (bel0 _ _)) (HRd.out.later (bel0 _ _)) HFd.out HOd.out hlen ?_; intro a5 n5 c5 w5 hall5 hb5)
          have HA5 : Hid (AllD w1 w.heap.size (.slice a5 n5 c5) (ds ++ [d]) w5) := hall5
          have HR5 : Hid (Rs w.heap.size (itemsF k rs1 (i + 1)).2 w5) := (HR4.out.later (bel0 _ _)).above hb5 (by omega)
          clear hall5 hb5 HA4 HR4
          go_wp2
          go_roundw
          case rel => exact ⟨i + 1, ds ++ [d], by omega, by go_num, HA5, (by unfold Hid; rw [List.map_append, hS.out]; show _ ++ [strip d] = _ ++ [_]; rw [HSd.out]), HR5, hSm.out.snoc HUd.out.1 HUd.out.2, (by unfold Hid; rw [List.length_append, hL.out]; rfl)⟩
          case measure => simp [intOf]; omega
      · have hin : i = n := by omega
        subst hin
        obtain ⟨X, cx, hv, hLW⟩ := hA.out.whole (by intro h; have := hL.out; rw [h] at this; simp at this; omega)
        rw [hL.out] at hv
        subst hv
        have HBw : Hid (Below w.heap.size w wr) := HB1.out.trans (hA.out.asd.below (by omega) (by omega))
        have HLW : Hid (LstW w1.heap.size X ds wr) := hLW
        clear hLW hA hR
        have hjt : k.tmod 7 = k % 7 := Int.tmod_eq_emod_of_nonneg hk0
        by_cases hcp : k % 7 = 2 ∧ (i : Int) = 9
        · obtain ⟨h7, h9⟩ := hcp
          have h7' : (k % 7 == 2) = true := by rw [beq_iff_eq]; exact h7
          have h9' : ((i : Int) == 9) = true := by rw [beq_iff_eq]; exact h9
          have HDF2 : Hid (detF bs = copyF (itemsF k rs1 i).1 3) := by unfold Hid; rw [HDF.out, if_pos ⟨h7, h9⟩]
          obtain rfl : i = 9 := by omega
          clear HDF h7 h9
          have HX0 : Hid (w1.heap.size ≤ X) := HLW.out.xlo
          go_wp2
          go_loopw [10] (fun si wr => ∃ (i : Nat) (ds2 : List DV), i ≤ 3 ∧ si = .int .i64 i ∧ Hid (LstW w1.heap.size X ds2 wr) ∧ Hid (ds2.map strip = copyF (itemsF k rs1 9).1 i) ∧ Hid (Small ds2) ∧ Hid (ds2.length = 9) ∧ Hid (Below w.heap.size w wr)) (fun si _ => 3 - (intOf si).toNat)
          case atStart => exact ⟨0, ds, by decide, rfl, HLW, hS, hSm, hL, HBw⟩
          case round =>
            obtain ⟨i, ds2, hi2, rfl, hLw2, hS2, hSm2, hL2, hB2⟩ := hrel
            clear HLW hS hSm hL HBw
            by_cases hlt : i < 3
            · have hib : (i : Int) < 3 := by omega
              have hXl : X < wr.heap.size := hLw2.out.lt
              rcases (show i = 0 ∨ i = 1 ∨ i = 2 by omega) with rfl | rfl | rfl
              · have hmem : ds2.getD 0 default ∈ ds2 := by rw [List.getD_eq_getElem?_getD, List.getElem?_eq_getElem (by rw [hL2.out]; decide)]; exact List.getElem_mem _
                have qr := hLw2.out.row 0 (by rw [hL2.out]; decide)
                have HH0 : ∀ w', Below wr.heap.size wr w' → w'.cell? ⟨X, 0, none⟩ = some (.bool (ds2.getD 0 default).g) ∧ w'.cell? ⟨X, 1, none⟩ = some (.slice (ds2.getD 0 default).a (ds2.getD 0 default).zs.length (ds2.getD 0 default).c) ∧ w'.cell? ⟨X, 2, none⟩ = some (.int .i64 (ds2.getD 0 default).E) ∧ w'.frozen? ⟨X, 18, none⟩ = false ∧ w'.frozen? ⟨X, 19, none⟩ = false ∧ w'.frozen? ⟨X, 20, none⟩ = false := fun w' hw =>
                  have L := hLw2.out.later hw
                  ⟨L.c0 0 (by rw [hL2.out]; decide), L.c1 0 (by rw [hL2.out]; decide), L.c2 0 (by rw [hL2.out]; decide), L.fr 18 (by rw [hL2.out]; decide), L.fr 19 (by rw [hL2.out]; decide), L.fr 20 (by rw [hL2.out]; decide)⟩
                have HP0 : ∀ w', Below wr.heap.size wr w' → w'.cell? ⟨X, 18, none⟩ = some (.bool (ds2.getD 6 default).g) ∧ w'.cell? ⟨X, 19, none⟩ = some (.slice (ds2.getD 6 default).a (ds2.getD 6 default).zs.length (ds2.getD 6 default).c) ∧ w'.cell? ⟨X, 20, none⟩ = some (.int .i64 (ds2.getD 6 default).E) := fun w' hw =>
                  have L := hLw2.out.later hw
                  ⟨L.c0 6 (by rw [hL2.out]; decide), L.c1 6 (by rw [hL2.out]; decide), L.c2 6 (by rw [hL2.out]; decide)⟩
                obtain ⟨d6, hd6⟩ : ∃ d6, d6 = ds2.getD 6 default := ⟨_, rfl⟩
                obtain ⟨d, hd⟩ : ∃ d, d = ds2.getD 0 default := ⟨_, rfl⟩
                rw [← hd] at HH0 hmem qr
                rw [← hd6] at HP0
                have HH : Hid (∀ w', Below wr.heap.size wr w' → w'.cell? ⟨X, 0, none⟩ = some (.bool d.g) ∧ w'.cell? ⟨X, 1, none⟩ = some (.slice d.a d.zs.length d.c) ∧ w'.cell? ⟨X, 2, none⟩ = some (.int .i64 d.E) ∧ w'.frozen? ⟨X, 18, none⟩ = false ∧ w'.frozen? ⟨X, 19, none⟩ = false ∧ w'.frozen? ⟨X, 20, none⟩ = false) := HH0
                have HP : Hid (∀ w', Below wr.heap.size wr w' → w'.cell? ⟨X, 18, none⟩ = some (.bool d6.g) ∧ w'.cell? ⟨X, 19, none⟩ = some (.slice d6.a d6.zs.length d6.c) ∧ w'.cell? ⟨X, 20, none⟩ = some (.int .i64 d6.E)) := HP0
                have HSd : Hid (U32 d.zs ∧ d.zs.length ≤ 513) := hSm2.out d hmem
                have HDd : Hid (d = ds2.getD 0 default) := hd
                have HQr : Hid (RowAt .u32 wr d.a d.zs) := qr
                have hn5 : d.zs.length ≤ 513 := HSd.out.2
                have hw6 : IntKind.i64.wrap 6 = 6 := by decide
                clear hd hd6 hmem qr HH0 HP0
                go_wp2
                go_region_held3 (fun w' => w'.cell? ⟨X, 0, none⟩ = some (.bool d.g) ∧ w'.cell? ⟨X, 1, none⟩ = some (.slice d.a d.zs.length d.c) ∧ w'.cell? ⟨X, 2, none⟩ = some (.int .i64 d.E) ∧ w'.frozen? ⟨X, 18, none⟩ = false ∧ w'.frozen? ⟨X, 19, none⟩ = false ∧ w'.frozen? ⟨X, 20, none⟩ = false)
                  (first | exact HH.out _ (Below.refl _ _).drew | exact HH.out _ (by assumption) | exact HH.out _ (bel0 _ _).drew | exact HH.out _ (Below.alloc (Below.refl _ _).drew (by simp) _) | exact keep6 (by decide) (HH.out _ (by assumption)) _ _ _)
                  (first | (refine appEw rfl (.tmp 65) (.tmp 71) 25 rfl 33 Tryd.underlying25 Tryd.info33 (by decide) d.a d.c d.zs _ (by first | exact heap_alloc_new _ _ | exact Go.heap_alloc_new _ _) rfl rfl (by omega) (HQr.out.later (bel0 _ _).drew) ?_; intro a1 c1 w3 hown3 has3; have hB3 : Below wr.heap.size wr w3 := (bel0 wr (.cells #[] 33)).drew.trans (has3.below (Nat.le_refl _) (by simp)); obtain ⟨p0, p1, p2⟩ := HP.out _ hB3))
                all_goals
                  have HL3 : Hid (LstW w1.heap.size X ds2 w3) := hLw2.out.later hB3
                  have hnew : RowNew .u32 w3 wr.heap.size a1 d.zs := by
                    obtain ⟨a', c', he, _, _, hh⟩ := own_row hown3
                    injection he with h1 _ _
                    rw [h1]
                    exact hh
                  have HN : Hid (LstW w1.heap.size X (ds2.set 6 ⟨d.g, a1, c1, d.zs, d.E⟩) (((w3.setCell ⟨X, 18, none⟩ (.bool d.g)).setCell ⟨X, 19, none⟩ (.slice a1 d.zs.length c1)).setCell ⟨X, 20, none⟩ (.int .i64 d.E))) := HL3.out.set (k := 6) (d := ⟨d.g, a1, c1, d.zs, d.E⟩) (by rw [hL2.out]; decide) hnew.row (hnew.far (Nat.le_refl _) (by have := HX0.out; omega)) (fun b o e1 e2 => by have := (new_block hnew e2 e1).1; omega)
                  have HSt : Hid ((ds2.set 6 ⟨d.g, a1, c1, d.zs, d.E⟩).map strip = copyF (itemsF k rs1 9).1 1) := by
                    unfold Hid
                    rw [List.map_set, hS2.out]
                    show (copyF (itemsF k rs1 9).1 0).set 6 (strip ⟨d.g, a1, c1, d.zs, d.E⟩) = (copyF (itemsF k rs1 9).1 0).set (6 + 0) ((copyF (itemsF k rs1 9).1 0).getD 0 (false, [], 0))
                    rw [← hS2.out, show ((false, [], 0) : Bool × List Int × Int) = strip default from rfl, ← strip_getD, ← HDd.out]
                    rfl
                  have HBn : Hid (Below w.heap.size w (((w3.setCell ⟨X, 18, none⟩ (.bool d.g)).setCell ⟨X, 19, none⟩ (.slice a1 d.zs.length c1)).setCell ⟨X, 20, none⟩ (.int .i64 d.E))) := (((hB2.out.trans (hB3.mono hB2.out.size)).setCell (by have := HX0.out; simp; omega) _).setCell (by have := HX0.out; simp; omega) _).setCell (by have := HX0.out; simp; omega) _
                  have HSmn : Hid (Small (ds2.set 6 ⟨d.g, a1, c1, d.zs, d.E⟩)) := hSm2.out.set 6 HSd.out.1 HSd.out.2
                  have HLn : Hid ((ds2.set 6 ⟨d.g, a1, c1, d.zs, d.E⟩).length = 9) := by unfold Hid; rw [List.length_set]; exact hL2.out
                  clear p0 p1 p2 hown3 has3 hB3 HL3 hnew hLw2 hS2 hSm2 hB2 HDd HH HP hw6
                  go_wp2
                  go_roundw
                  case rel =>
                    (repeat apply Exists.intro)
                    exact ⟨⟨1, _, by decide, by go_num, HN, HSt, HSmn, HLn, HBn⟩, rfl⟩
                  case measure => simp [intOf]
              · have hmem : ds2.getD 1 default ∈ ds2 := by rw [List.getD_eq_getElem?_getD, List.getElem?_eq_getElem (by rw [hL2.out]; decide)]; exact List.getElem_mem _
                have qr := hLw2.out.row 1 (by rw [hL2.out]; decide)
                have HH0 : ∀ w', Below wr.heap.size wr w' → w'.cell? ⟨X, 3, none⟩ = some (.bool (ds2.getD 1 default).g) ∧ w'.cell? ⟨X, 4, none⟩ = some (.slice (ds2.getD 1 default).a (ds2.getD 1 default).zs.length (ds2.getD 1 default).c) ∧ w'.cell? ⟨X, 5, none⟩ = some (.int .i64 (ds2.getD 1 default).E) ∧ w'.frozen? ⟨X, 21, none⟩ = false ∧ w'.frozen? ⟨X, 22, none⟩ = false ∧ w'.frozen? ⟨X, 23, none⟩ = false := fun w' hw =>
                  have L := hLw2.out.later hw
                  ⟨L.c0 1 (by rw [hL2.out]; decide), L.c1 1 (by rw [hL2.out]; decide), L.c2 1 (by rw [hL2.out]; decide), L.fr 21 (by rw [hL2.out]; decide), L.fr 22 (by rw [hL2.out]; decide), L.fr 23 (by rw [hL2.out]; decide)⟩
                have HP0 : ∀ w', Below wr.heap.size wr w' → w'.cell? ⟨X, 21, none⟩ = some (.bool (ds2.getD 7 default).g) ∧ w'.cell? ⟨X, 22, none⟩ = some (.slice (ds2.getD 7 default).a (ds2.getD 7 default).zs.length (ds2.getD 7 default).c) ∧ w'.cell? ⟨X, 23, none⟩ = some (.int .i64 (ds2.getD 7 default).E) := fun w' hw =>
                  have L := hLw2.out.later hw
                  ⟨L.c0 7 (by rw [hL2.out]; decide), L.c1 7 (by rw [hL2.out]; decide), L.c2 7 (by rw [hL2.out]; decide)⟩
                obtain ⟨d6, hd6⟩ : ∃ d6, d6 = ds2.getD 7 default := ⟨_, rfl⟩
                obtain ⟨d, hd⟩ : ∃ d, d = ds2.getD 1 default := ⟨_, rfl⟩
                rw [← hd] at HH0 hmem qr
                rw [← hd6] at HP0
                have HH : Hid (∀ w', Below wr.heap.size wr w' → w'.cell? ⟨X, 3, none⟩ = some (.bool d.g) ∧ w'.cell? ⟨X, 4, none⟩ = some (.slice d.a d.zs.length d.c) ∧ w'.cell? ⟨X, 5, none⟩ = some (.int .i64 d.E) ∧ w'.frozen? ⟨X, 21, none⟩ = false ∧ w'.frozen? ⟨X, 22, none⟩ = false ∧ w'.frozen? ⟨X, 23, none⟩ = false) := HH0
                have HP : Hid (∀ w', Below wr.heap.size wr w' → w'.cell? ⟨X, 21, none⟩ = some (.bool d6.g) ∧ w'.cell? ⟨X, 22, none⟩ = some (.slice d6.a d6.zs.length d6.c) ∧ w'.cell? ⟨X, 23, none⟩ = some (.int .i64 d6.E)) := HP0
                have HSd : Hid (U32 d.zs ∧ d.zs.length ≤ 513) := hSm2.out d hmem
                have HDd : Hid (d = ds2.getD 1 default) := hd
                have HQr : Hid (RowAt .u32 wr d.a d.zs) := qr
                have hn5 : d.zs.length ≤ 513 := HSd.out.2
                have hw6 : IntKind.i64.wrap 7 = 7 := by decide
                clear hd hd6 hmem qr HH0 HP0
                go_wp2
                go_region_held3 (fun w' => w'.cell? ⟨X, 3, none⟩ = some (.bool d.g) ∧ w'.cell? ⟨X, 4, none⟩ = some (.slice d.a d.zs.length d.c) ∧ w'.cell? ⟨X, 5, none⟩ = some (.int .i64 d.E) ∧ w'.frozen? ⟨X, 21, none⟩ = false ∧ w'.frozen? ⟨X, 22, none⟩ = false ∧ w'.frozen? ⟨X, 23, none⟩ = false)
                  (first | exact HH.out _ (Below.refl _ _).drew | exact HH.out _ (by assumption) | exact HH.out _ (bel0 _ _).drew | exact HH.out _ (Below.alloc (Below.refl _ _).drew (by simp) _) | exact keep6 (by decide) (HH.out _ (by assumption)) _ _ _)
                  (first | (refine appEw rfl (.tmp 65) (.tmp 71) 25 rfl 33 Tryd.underlying25 Tryd.info33 (by decide) d.a d.c d.zs _ (by first | exact heap_alloc_new _ _ | exact Go.heap_alloc_new _ _) rfl rfl (by omega) (HQr.out.later (bel0 _ _).drew) ?_; intro a1 c1 w3 hown3 has3; have hB3 : Below wr.heap.size wr w3 := (bel0 wr (.cells #[] 33)).drew.trans (has3.below (Nat.le_refl _) (by simp)); obtain ⟨p0, p1, p2⟩ := HP.out _ hB3))
                all_goals
                  have HL3 : Hid (LstW w1.heap.size X ds2 w3) := hLw2.out.later hB3
                  have hnew : RowNew .u32 w3 wr.heap.size a1 d.zs := by
                    obtain ⟨a', c', he, _, _, hh⟩ := own_row hown3
                    injection he with h1 _ _
                    rw [h1]
                    exact hh
                  have HN : Hid (LstW w1.heap.size X (ds2.set 7 ⟨d.g, a1, c1, d.zs, d.E⟩) (((w3.setCell ⟨X, 21, none⟩ (.bool d.g)).setCell ⟨X, 22, none⟩ (.slice a1 d.zs.length c1)).setCell ⟨X, 23, none⟩ (.int .i64 d.E))) := HL3.out.set (k := 7) (d := ⟨d.g, a1, c1, d.zs, d.E⟩) (by rw [hL2.out]; decide) hnew.row (hnew.far (Nat.le_refl _) (by have := HX0.out; omega)) (fun b o e1 e2 => by have := (new_block hnew e2 e1).1; omega)
                  have HSt : Hid ((ds2.set 7 ⟨d.g, a1, c1, d.zs, d.E⟩).map strip = copyF (itemsF k rs1 9).1 2) := by
                    unfold Hid
                    rw [List.map_set, hS2.out]
                    show (copyF (itemsF k rs1 9).1 1).set 7 (strip ⟨d.g, a1, c1, d.zs, d.E⟩) = (copyF (itemsF k rs1 9).1 1).set (6 + 1) ((copyF (itemsF k rs1 9).1 1).getD 1 (false, [], 0))
                    rw [← hS2.out, show ((false, [], 0) : Bool × List Int × Int) = strip default from rfl, ← strip_getD, ← HDd.out]
                    rfl
                  have HBn : Hid (Below w.heap.size w (((w3.setCell ⟨X, 21, none⟩ (.bool d.g)).setCell ⟨X, 22, none⟩ (.slice a1 d.zs.length c1)).setCell ⟨X, 23, none⟩ (.int .i64 d.E))) := (((hB2.out.trans (hB3.mono hB2.out.size)).setCell (by have := HX0.out; simp; omega) _).setCell (by have := HX0.out; simp; omega) _).setCell (by have := HX0.out; simp; omega) _
                  have HSmn : Hid (Small (ds2.set 7 ⟨d.g, a1, c1, d.zs, d.E⟩)) := hSm2.out.set 7 HSd.out.1 HSd.out.2
                  have HLn : Hid ((ds2.set 7 ⟨d.g, a1, c1, d.zs, d.E⟩).length = 9) := by unfold Hid; rw [List.length_set]; exact hL2.out
                  clear p0 p1 p2 hown3 has3 hB3 HL3 hnew hLw2 hS2 hSm2 hB2 HDd HH HP hw6
                  go_wp2
                  go_roundw
                  case rel =>
                    (repeat apply Exists.intro)
                    exact ⟨⟨2, _, by decide, by go_num, HN, HSt, HSmn, HLn, HBn⟩, rfl⟩
                  case measure => simp [intOf]
              · have hmem : ds2.getD 2 default ∈ ds2 := by rw [List.getD_eq_getElem?_getD, List.getElem?_eq_getElem (by rw [hL2.out]; decide)]; exact List.getElem_mem _
                have qr := hLw2.out.row 2 (by rw [hL2.out]; decide)
                have HH0 : ∀ w', Below wr.heap.size wr w' → w'.cell? ⟨X, 6, none⟩ = some (.bool (ds2.getD 2 default).g) ∧ w'.cell? ⟨X, 7, none⟩ = some (.slice (ds2.getD 2 default).a (ds2.getD 2 default).zs.length (ds2.getD 2 default).c) ∧ w'.cell? ⟨X, 8, none⟩ = some (.int .i64 (ds2.getD 2 default).E) ∧ w'.frozen? ⟨X, 24, none⟩ = false ∧ w'.frozen? ⟨X, 25, none⟩ = false ∧ w'.frozen? ⟨X, 26, none⟩ = false := fun w' hw =>
                  have L := hLw2.out.later hw
                  ⟨L.c0 2 (by rw [hL2.out]; decide), L.c1 2 (by rw [hL2.out]; decide), L.c2 2 (by rw [hL2.out]; decide), L.fr 24 (by rw [hL2.out]; decide), L.fr 25 (by rw [hL2.out]; decide), L.fr 26 (by rw [hL2.out]; decide)⟩
                have HP0 : ∀ w', Below wr.heap.size wr w' → w'.cell? ⟨X, 24, none⟩ = some (.bool (ds2.getD 8 default).g) ∧ w'.cell? ⟨X, 25, none⟩ = some (.slice (ds2.getD 8 default).a (ds2.getD 8 default).zs.length (ds2.getD 8 default).c) ∧ w'.cell? ⟨X, 26, none⟩ = some (.int .i64 (ds2.getD 8 default).E) := fun w' hw =>
                  have L := hLw2.out.later hw
                  ⟨L.c0 8 (by rw [hL2.out]; decide), L.c1 8 (by rw [hL2.out]; decide), L.c2 8 (by rw [hL2.out]; decide)⟩
                obtain ⟨d6, hd6⟩ : ∃ d6, d6 = ds2.getD 8 default := ⟨_, rfl⟩
                obtain ⟨d, hd⟩ : ∃ d, d = ds2.getD 2 default := ⟨_, rfl⟩
                rw [← hd] at HH0 hmem qr
                rw [← hd6] at HP0
                have HH : Hid (∀ w', Below wr.heap.size wr w' → w'.cell? ⟨X, 6, none⟩ = some (.bool d.g) ∧ w'.cell? ⟨X, 7, none⟩ = some (.slice d.a d.zs.length d.c) ∧ w'.cell? ⟨X, 8, none⟩ = some (.int .i64 d.E) ∧ w'.frozen? ⟨X, 24, none⟩ = false ∧ w'.frozen? ⟨X, 25, none⟩ = false ∧ w'.frozen? ⟨X, 26, none⟩ = false) := HH0
                have HP : Hid (∀ w', Below wr.heap.size wr w' → w'.cell? ⟨X, 24, none⟩ = some (.bool d6.g) ∧ w'.cell? ⟨X, 25, none⟩ = some (.slice d6.a d6.zs.length d6.c) ∧ w'.cell? ⟨X, 26, none⟩ = some (.int .i64 d6.E)) := HP0
                have HSd : Hid (U32 d.zs ∧ d.zs.length ≤ 513) := hSm2.out d hmem
                have HDd : Hid (d = ds2.getD 2 default) := hd
                have HQr : Hid (RowAt .u32 wr d.a d.zs) := qr
                have hn5 : d.zs.length ≤ 513 := HSd.out.2
                have hw6 : IntKind.i64.wrap 8 = 8 := by decide
                clear hd hd6 hmem qr HH0 HP0
                go_wp2
                go_region_held3 (fun w' => w'.cell? ⟨X, 6, none⟩ = some (.bool d.g) ∧ w'.cell? ⟨X, 7, none⟩ = some (.slice d.a d.zs.length d.c) ∧ w'.cell? ⟨X, 8, none⟩ = some (.int .i64 d.E) ∧ w'.frozen? ⟨X, 24, none⟩ = false ∧ w'.frozen? ⟨X, 25, none⟩ = false ∧ w'.frozen? ⟨X, 26, none⟩ = false)
                  (first | exact HH.out _ (Below.refl _ _).drew | exact HH.out _ (by assumption) | exact HH.out _ (bel0 _ _).drew | exact HH.out _ (Below.alloc (Below.refl _ _).drew (by simp) _) | exact keep6 (by decide) (HH.out _ (by assumption)) _ _ _)
                  (first | (refine appEw rfl (.tmp 65) (.tmp 71) 25 rfl 33 Tryd.underlying25 Tryd.info33 (by decide) d.a d.c d.zs _ (by first | exact heap_alloc_new _ _ | exact Go.heap_alloc_new _ _) rfl rfl (by omega) (HQr.out.later (bel0 _ _).drew) ?_; intro a1 c1 w3 hown3 has3; have hB3 : Below wr.heap.size wr w3 := (bel0 wr (.cells #[] 33)).drew.trans (has3.below (Nat.le_refl _) (by simp)); obtain ⟨p0, p1, p2⟩ := HP.out _ hB3))
                all_goals
                  have HL3 : Hid (LstW w1.heap.size X ds2 w3) := hLw2.out.later hB3
                  have hnew : RowNew .u32 w3 wr.heap.size a1 d.zs := by
                    obtain ⟨a', c', he, _, _, hh⟩ := own_row hown3
                    injection he with h1 _ _
                    rw [h1]
                    exact hh
                  have HN : Hid (LstW w1.heap.size X (ds2.set 8 ⟨d.g, a1, c1, d.zs, d.E⟩) (((w3.setCell ⟨X, 24, none⟩ (.bool d.g)).setCell ⟨X, 25, none⟩ (.slice a1 d.zs.length c1)).setCell ⟨X, 26, none⟩ (.int .i64 d.E))) := HL3.out.set (k := 8) (d := ⟨d.g, a1, c1, d.zs, d.E⟩) (by rw [hL2.out]; decide) hnew.row (hnew.far (Nat.le_refl _) (by have := HX0.out; omega)) (fun b o e1 e2 => by have := (new_block hnew e2 e1).1; omega)
                  have HSt : Hid ((ds2.set 8 ⟨d.g, a1, c1, d.zs, d.E⟩).map strip = copyF (itemsF k rs1 9).1 3) := by
                    unfold Hid
                    rw [List.map_set, hS2.out]
                    show (copyF (itemsF k rs1 9).1 2).set 8 (strip ⟨d.g, a1, c1, d.zs, d.E⟩) = (copyF (itemsF k rs1 9).1 2).set (6 + 2) ((copyF (itemsF k rs1 9).1 2).getD 2 (false, [], 0))
                    rw [← hS2.out, show ((false, [], 0) : Bool × List Int × Int) = strip default from rfl, ← strip_getD, ← HDd.out]
                    rfl
                  have HBn : Hid (Below w.heap.size w (((w3.setCell ⟨X, 24, none⟩ (.bool d.g)).setCell ⟨X, 25, none⟩ (.slice a1 d.zs.length c1)).setCell ⟨X, 26, none⟩ (.int .i64 d.E))) := (((hB2.out.trans (hB3.mono hB2.out.size)).setCell (by have := HX0.out; simp; omega) _).setCell (by have := HX0.out; simp; omega) _).setCell (by have := HX0.out; simp; omega) _
                  have HSmn : Hid (Small (ds2.set 8 ⟨d.g, a1, c1, d.zs, d.E⟩)) := hSm2.out.set 8 HSd.out.1 HSd.out.2
                  have HLn : Hid ((ds2.set 8 ⟨d.g, a1, c1, d.zs, d.E⟩).length = 9) := by unfold Hid; rw [List.length_set]; exact hL2.out
                  clear p0 p1 p2 hown3 has3 hB3 HL3 hnew hLw2 hS2 hSm2 hB2 HDd HH HP hw6
                  go_wp2
                  go_roundw
                  case rel =>
                    (repeat apply Exists.intro)
                    exact ⟨⟨3, _, by decide, by go_num, HN, HSt, HSmn, HLn, HBn⟩, rfl⟩
                  case measure => simp [intOf]
            · have hi3 : i = 3 := by omega
              subst hi3
              have HO : Hid (DetOut w bs (.returned (.slice (some ⟨X, 0, none⟩) 9 cx)) wr) := ⟨X, cx, ds2, by rw [hL2.out], by rw [HDF2.out, hS2.out], hLw2.out.down (by omega), hSm2.out, hB2.out⟩
              clear hLw2 hS2 hSm2 hB2
              go_wp2
              go_ret
              exact HO.out
        · have HDF2 : Hid (detF bs = (itemsF k rs1 i).1) := by unfold Hid; rw [HDF.out, if_neg hcp]
          have HO : Hid (DetOut w bs (.returned (.slice (some ⟨X, 0, none⟩) i cx)) wr) := by
            refine ⟨X, cx, ds, by rw [hL.out], by rw [HDF2.out, hS.out], HLW.out.down (by omega), hSm.out, HBw.out⟩
          by_cases h7 : k % 7 = 2
          · have h7' : (k % 7 == 2) = true := by rw [beq_iff_eq]; exact h7
            have h9' : ((i : Int) == 9) = false := by rw [beq_eq_false_iff_ne]; exact fun h => hcp ⟨h7, h⟩
            clear HDF hcp h7
            go_wp2
            go_ret
            exact HO.out
          · have h7' : (k % 7 == 2) = false := by rw [beq_eq_false_iff_ne]; exact h7
            clear HDF hcp h7
            go_wp2
            go_ret
            exact HO.out

end Go.Proofs.YtladfpljnaippabDoor
