/-
  The program's closure that writes a picture's bits.
-/
import Derived.Test.YtfcnokagfibgcahGreatIeNIvSLawEsIeS
import Derived.Test.YtfcnokagfibgcahGreatSpQToBdP
namespace Go.Proofs.YtfcnokagfibgcahGreat
open Go.RowKit

/-- Memory while bits are written: the blocks X, X + 1, X + 2 hold the bytes, the byte that is being filled and how many of its bits are used. -/
structure BtS (W : World) (X base g0 : Nat) (f u : Int) (g n c : Nat) (ys : List Int) (wr : World) : Prop where
  hX : X = W.heap.size
  cO : wr.cell? ⟨X, 0, none⟩ = some (.slice (some ⟨g, 0, none⟩) n c)
  cF : wr.cell? ⟨X + 1, 0, none⟩ = some (.int .u8 f)
  cU : wr.cell? ⟨X + 2, 0, none⟩ = some (.int .i64 u)
  fr : ∀ k, X ≤ k → k < X + 3 → wr.frozen? ⟨k, 0, none⟩ = false
  sz : X + 3 ≤ wr.heap.size
  own : OwnY wr base (.slice (some ⟨g, 0, none⟩) n c) ys
  at_ : g = g0 ∨ X + 3 ≤ g
  grown : W.grownBy wr (some g0)
  lt0 : g0 < X
  bX : base ≤ X

theorem BtS.gne {W : World} {X base g0 : Nat} {f u : Int} {g n c : Nat} {ys : List Int} {wr : World} (h : BtS W X base g0 f u g n c ys wr) {k : Nat} (h1 : X ≤ k) (h2 : k < X + 3) : g ≠ k := by
  have := h.at_
  have := h.lt0
  omega

/-- A store into one of the three blocks. -/
theorem BtS.store {W : World} {X base g0 : Nat} {f u f' u' : Int} {g n c : Nat} {ys : List Int} {wr : World} (h : BtS W X base g0 f u g n c ys wr) {k : Nat} (h1 : X ≤ k) (h2 : k < X + 3) (v : Value)
    (eO : (wr.setCell ⟨k, 0, none⟩ v).cell? ⟨X, 0, none⟩ = some (.slice (some ⟨g, 0, none⟩) n c)) (eF : (wr.setCell ⟨k, 0, none⟩ v).cell? ⟨X + 1, 0, none⟩ = some (.int .u8 f')) (eU : (wr.setCell ⟨k, 0, none⟩ v).cell? ⟨X + 2, 0, none⟩ = some (.int .i64 u')) :
    BtS W X base g0 f' u' g n c ys (wr.setCell ⟨k, 0, none⟩ v) := by
  refine ⟨h.hX, eO, eF, eU, fun j j1 j2 => by rw [World.frozen?_setCell]; exact h.fr j j1 j2, by rw [World.size_setCell]; exact h.sz, ?_, h.at_, ?_, h.lt0, h.bX⟩
  · exact ownsRow_setCell_other h.own (by simp [Value.ownBlock]; exact h.gne h1 h2) v
  · have hb : Within k (k + 1) wr (wr.setCell ⟨k, 0, none⟩ v) := (Within.refl k (k + 1) wr).setCell (p := ⟨k, 0, none⟩) (Nat.le_refl _) (Nat.lt_succ_self _) v
    exact ⟨hb.os.trans h.grown.os, hb.tape.trans h.grown.tape, hb.output.trans h.grown.output, by rw [World.size_setCell]; exact h.grown.size, fun j hj hn => (hb.block j (by have := h.hX; omega)).trans (h.grown.block j hj hn)⟩

theorem BtS.setF {W : World} {X base g0 : Nat} {f u : Int} {g n c : Nat} {ys : List Int} {wr : World} (h : BtS W X base g0 f u g n c ys wr) (f' : Int) : BtS W X base g0 f' u g n c ys (wr.setCell ⟨X + 1, 0, none⟩ (.int .u8 f')) :=
  h.store (by omega) (by omega) _ (by rw [World.cell?_setCell_other _ _ _ _ (by simp)]; exact h.cO) (by rw [World.cell?_setCell_same _ _ _ h.cF]) (by rw [World.cell?_setCell_other _ _ _ _ (by simp)]; exact h.cU)
theorem BtS.setU {W : World} {X base g0 : Nat} {f u : Int} {g n c : Nat} {ys : List Int} {wr : World} (h : BtS W X base g0 f u g n c ys wr) (u' : Int) : BtS W X base g0 f u' g n c ys (wr.setCell ⟨X + 2, 0, none⟩ (.int .i64 u')) :=
  h.store (by omega) (by omega) _ (by rw [World.cell?_setCell_other _ _ _ _ (by simp)]; exact h.cO) (by rw [World.cell?_setCell_other _ _ _ _ (by simp)]; exact h.cF) (by rw [World.cell?_setCell_same _ _ _ h.cU])

/-- A byte is full: it goes behind the others. -/
theorem BtS.flush {W : World} {X base g0 : Nat} {f u : Int} {g n c g' n' c' : Nat} {ys ys' : List Int} {wr w2 : World} (h : BtS W X base g0 f u g n c ys wr) (k : GrewY wr base (some g) g' ys' n' c' w2) :
    BtS W X base g0 f u g' n' c' ys' (w2.setCell ⟨X, 0, none⟩ (.slice (some ⟨g', 0, none⟩) n' c')) := by
  have key : ∀ j, X ≤ j → j < X + 3 → w2.cell? ⟨j, 0, none⟩ = wr.cell? ⟨j, 0, none⟩ ∧ w2.frozen? ⟨j, 0, none⟩ = wr.frozen? ⟨j, 0, none⟩ := by
    intro j h1 h2
    have hne : some j ≠ some g := fun e => h.gne h1 h2 (Option.some.inj e).symm
    have hlt : j < wr.heap.size := by have := h.sz; omega
    exact ⟨k.grown.cell_far ⟨j, 0, none⟩ hlt hne, k.grown.frozen_far ⟨j, 0, none⟩ hlt hne⟩
  have hat : g' = g0 ∨ X + 3 ≤ g' := by
    rcases k.at_ with h1 | h1
    · have := Option.some.inj h1
      subst this
      exact h.at_
    · have := h.sz
      omega
  have hgn : g' ≠ X := by have := h.lt0; omega
  refine ⟨h.hX, ?_, ?_, ?_, fun j h1 h2 => by rw [World.frozen?_setCell, (key j h1 h2).2]; exact h.fr j h1 h2, by rw [World.size_setCell]; exact Nat.le_trans h.sz k.grown.size, ?_, hat, ?_, h.lt0, h.bX⟩
  · exact World.cell?_setCell_same _ _ _ ((key X (by omega) (by omega)).1.trans h.cO)
  · rw [World.cell?_setCell_other _ _ _ _ (by simp)]; exact (key (X + 1) (by omega) (by omega)).1.trans h.cF
  · rw [World.cell?_setCell_other _ _ _ _ (by simp)]; exact (key (X + 2) (by omega) (by omega)).1.trans h.cU
  · exact ownsRow_setCell_other k.own (by simp [Value.ownBlock]; exact hgn) _
  · have hb : Within X (X + 1) w2 (w2.setCell ⟨X, 0, none⟩ (.slice (some ⟨g', 0, none⟩) n' c')) := (Within.refl X (X + 1) w2).setCell (p := ⟨X, 0, none⟩) (Nat.le_refl _) (Nat.lt_succ_self _) _
    have hg : W.grownBy w2 (some g0) := gb_trans h.grown k.grown (fun j hj => by
      cases hj
      rcases h.at_ with h1 | h1
      · subst h1; exact .inl rfl
      · have := h.hX; omega)
    exact ⟨hb.os.trans hg.os, hb.tape.trans hg.tape, hb.output.trans hg.output, by rw [World.size_setCell]; exact hg.size, fun j hj hn => (hb.block j (by have := h.hX; omega)).trans (hg.block j hj hn)⟩

theorem BtS.drew {W : World} {X base g0 : Nat} {f u : Int} {g n c : Nat} {ys : List Int} {wr : World} (h : BtS W X base g0 f u g n c ys wr) : BtS W X base g0 f u g n c ys wr.drew :=
  ⟨h.hX, h.cO, h.cF, h.cU, h.fr, h.sz, h.own, h.at_, ⟨h.grown.os, h.grown.tape, h.grown.output, h.grown.size, h.grown.block⟩, h.lt0, h.bX⟩
theorem BtS.keep {W : World} {X base g0 : Nat} {f u : Int} {g n c g' n' c' : Nat} {ys ys' : List Int} {wr w2 : World} (h : BtS W X base g0 f u g n c ys wr) (k : GrewY wr base (some g) g' ys' n' c' w2) :
    w2.cell? ⟨X, 0, none⟩ = some (.slice (some ⟨g, 0, none⟩) n c) ∧ w2.cell? ⟨X + 1, 0, none⟩ = some (.int .u8 f) ∧ w2.cell? ⟨X + 2, 0, none⟩ = some (.int .i64 u) ∧ w2.frozen? ⟨X, 0, none⟩ = false ∧ w2.frozen? ⟨X + 1, 0, none⟩ = false ∧ w2.frozen? ⟨X + 2, 0, none⟩ = false := by
  have key : ∀ j, X ≤ j → j < X + 3 → w2.cell? ⟨j, 0, none⟩ = wr.cell? ⟨j, 0, none⟩ ∧ w2.frozen? ⟨j, 0, none⟩ = wr.frozen? ⟨j, 0, none⟩ := by
    intro j h1 h2
    have hne : some j ≠ some g := fun e => h.gne h1 h2 (Option.some.inj e).symm
    have hlt : j < wr.heap.size := by have := h.sz; omega
    exact ⟨k.grown.cell_far ⟨j, 0, none⟩ hlt hne, k.grown.frozen_far ⟨j, 0, none⟩ hlt hne⟩
  exact ⟨(key X (by omega) (by omega)).1.trans h.cO, (key (X + 1) (by omega) (by omega)).1.trans h.cF, (key (X + 2) (by omega) (by omega)).1.trans h.cU, (key X (by omega) (by omega)).2.trans (h.fr _ (by omega) (by omega)), (key (X + 1) (by omega) (by omega)).2.trans (h.fr _ (by omega) (by omega)), (key (X + 2) (by omega) (by omega)).2.trans (h.fr _ (by omega) (by omega))⟩
/-- 'append(s, x)' of one byte, behind a region that drew. -/
theorem app1Yd {x0 : Int} {w0 : World} {ops : Array Oper} {rest : List Oper} {o : Oper} {ac : Act} {Q : Exit → Act → World → Prop} (hgd : o.guard = none) (s x : Operand)
    (ho : o.op = .call { callee := .builtin .append, args := #[s, x], argTypes := #[22, 22] })
    (base : Nat) (sv : Value) (ys : List Int) (hs : ac.eval s = sv) (hx : ac.eval x = .slice (some ⟨w0.drew.heap.size, 0, none⟩) 1 1) (hst : StartY w0.drew base sv ys) (hn : ys.length ≤ 1500000) (hbase : base ≤ w0.heap.size)
    (h : ∀ g n' c' w', GrewY w0.drew base sv.ownBlock g (ys ++ [x0]) n' c' w' → wpList Tryz.prog ops Q rest (ac.put o.dst (.slice (some ⟨g, 0, none⟩) n' c')) w') :
    wpList Tryz.prog ops Q (o :: rest) ac (w0.alloc (.cells #[.int .u8 x0] 5)).drew :=
  app1Y (w0 := w0.drew) hgd s x ho base sv ys hs hx hst hn hbase h
theorem BtS.val {W : World} {X base g0 : Nat} {f u f' : Int} {g n c : Nat} {ys : List Int} {wr : World} (h : BtS W X base g0 f u g n c ys wr) (e : f = f') : BtS W X base g0 f' u g n c ys wr := e ▸ h

/-- What a bit does. -/
def PutOut (W : World) (X base g0 : Nat) (f : Int) (u : Nat) (ys : List Int) (e : Ending) (w' : World) : Prop := e = .returned (.tuple #[]) ∧ ∃ g n c, BtS W X base g0 f u g n c ys w'

theorem or_bit8 {f p : Int} (u : Nat) (hp : p = 2 ^ u) (h0 : 0 ≤ f) (h1 : f < p) (hu : u < 8) : bits .or .u8 f p = f + p := by
  subst hp
  obtain ⟨m, rfl⟩ := Int.eq_ofNat_of_zero_le h0
  have hm : m < 2 ^ u := by exact_mod_cast h1
  have hu8 : 2 ^ u ≤ 128 := Nat.pow_le_pow_right (by decide) (show u ≤ 7 by omega)
  have e1 : m ||| 2 ^ u = 2 ^ u + m := by
    have := Nat.two_pow_add_eq_or_of_lt hm 1
    rw [Nat.mul_one] at this
    rw [Nat.or_comm, this]
  have e2 : (BitVec.ofInt 8 (m : Int) ||| BitVec.ofInt 8 ((2 ^ u : Nat) : Int)).toNat = m ||| 2 ^ u := by
    rw [BitVec.toNat_or, BitVec.ofInt_natCast, BitVec.toNat_ofNat, BitVec.ofInt_natCast, BitVec.toNat_ofNat, Nat.mod_eq_of_lt (by omega), Nat.mod_eq_of_lt (by omega)]
  have e3 : ((2 : Int) ^ u) = ((2 ^ u : Nat) : Int) := by push_cast; rfl
  rw [e3]
  show IntKind.u8.wrap ((BitVec.ofInt 8 (m : Int) ||| BitVec.ofInt 8 ((2 ^ u : Nat) : Int)).toNat : Int) = _
  rw [e2, e1]
  simp only [IntKind.wrap, IntKind.bits, IntKind.signed]
  simp
  omega

set_option maxRecDepth 100000 in
set_option maxHeartbeats 1000000 in
theorem put_true0 (W : World) (X base g0 : Nat) (f : Int) (g n c : Nat) (ys : List Int) (w : World) (h0 : 0 ≤ f) (h1 : f < 1) (hs : BtS W X base g0 f 0 g n c ys w) :
    Calls Tryz.prog 169 #[.bool true, .pointer (some ⟨X + 1, 0, none⟩), .pointer (some ⟨X + 2, 0, none⟩), .pointer (some ⟨X, 0, none⟩)] w fun e w' => PutOut W X base g0 (f + 1) 1 ys e w' := by
  have HS : Hid (BtS W X base g0 f 0 g n c ys w) := hs
  have cF := hs.cF
  have f1 := hs.fr (X + 1) (by omega) (by omega)
  have cU := hs.cU
  have f2 := hs.fr (X + 2) (by omega) (by omega)
  have ho : Hid (bits .or .u8 f 1 = f + 1) := or_bit8 0 (by decide) h0 h1 (by decide)
  clear hs h1
  go_enter Tryz.func169, Tryz.ntmps169
  go_wp2
  go_region
  go_wp2
  go_end0
  refine ⟨rfl, _, _, _, ((((HS.out.setF _).setU 1).drew).val ho.out)⟩

set_option maxRecDepth 100000 in
set_option maxHeartbeats 1000000 in
theorem put_true1 (W : World) (X base g0 : Nat) (f : Int) (g n c : Nat) (ys : List Int) (w : World) (h0 : 0 ≤ f) (h1 : f < 2) (hs : BtS W X base g0 f 1 g n c ys w) :
    Calls Tryz.prog 169 #[.bool true, .pointer (some ⟨X + 1, 0, none⟩), .pointer (some ⟨X + 2, 0, none⟩), .pointer (some ⟨X, 0, none⟩)] w fun e w' => PutOut W X base g0 (f + 2) 2 ys e w' := by
  have HS : Hid (BtS W X base g0 f 1 g n c ys w) := hs
  have cF := hs.cF
  have f1 := hs.fr (X + 1) (by omega) (by omega)
  have cU := hs.cU
  have f2 := hs.fr (X + 2) (by omega) (by omega)
  have ho : Hid (bits .or .u8 f 2 = f + 2) := or_bit8 1 (by decide) h0 h1 (by decide)
  clear hs h1
  go_enter Tryz.func169, Tryz.ntmps169
  go_wp2
  go_region
  go_wp2
  go_end0
  refine ⟨rfl, _, _, _, ((((HS.out.setF _).setU 2).drew).val ho.out)⟩

set_option maxRecDepth 100000 in
set_option maxHeartbeats 1000000 in
theorem put_true2 (W : World) (X base g0 : Nat) (f : Int) (g n c : Nat) (ys : List Int) (w : World) (h0 : 0 ≤ f) (h1 : f < 4) (hs : BtS W X base g0 f 2 g n c ys w) :
    Calls Tryz.prog 169 #[.bool true, .pointer (some ⟨X + 1, 0, none⟩), .pointer (some ⟨X + 2, 0, none⟩), .pointer (some ⟨X, 0, none⟩)] w fun e w' => PutOut W X base g0 (f + 4) 3 ys e w' := by
  have HS : Hid (BtS W X base g0 f 2 g n c ys w) := hs
  have cF := hs.cF
  have f1 := hs.fr (X + 1) (by omega) (by omega)
  have cU := hs.cU
  have f2 := hs.fr (X + 2) (by omega) (by omega)
  have ho : Hid (bits .or .u8 f 4 = f + 4) := or_bit8 2 (by decide) h0 h1 (by decide)
  clear hs h1
  go_enter Tryz.func169, Tryz.ntmps169
  go_wp2
  go_region
  go_wp2
  go_end0
  refine ⟨rfl, _, _, _, ((((HS.out.setF _).setU 3).drew).val ho.out)⟩

set_option maxRecDepth 100000 in
set_option maxHeartbeats 1000000 in
theorem put_true3 (W : World) (X base g0 : Nat) (f : Int) (g n c : Nat) (ys : List Int) (w : World) (h0 : 0 ≤ f) (h1 : f < 8) (hs : BtS W X base g0 f 3 g n c ys w) :
    Calls Tryz.prog 169 #[.bool true, .pointer (some ⟨X + 1, 0, none⟩), .pointer (some ⟨X + 2, 0, none⟩), .pointer (some ⟨X, 0, none⟩)] w fun e w' => PutOut W X base g0 (f + 8) 4 ys e w' := by
  have HS : Hid (BtS W X base g0 f 3 g n c ys w) := hs
  have cF := hs.cF
  have f1 := hs.fr (X + 1) (by omega) (by omega)
  have cU := hs.cU
  have f2 := hs.fr (X + 2) (by omega) (by omega)
  have ho : Hid (bits .or .u8 f 8 = f + 8) := or_bit8 3 (by decide) h0 h1 (by decide)
  clear hs h1
  go_enter Tryz.func169, Tryz.ntmps169
  go_wp2
  go_region
  go_wp2
  go_end0
  refine ⟨rfl, _, _, _, ((((HS.out.setF _).setU 4).drew).val ho.out)⟩

set_option maxRecDepth 100000 in
set_option maxHeartbeats 1000000 in
theorem put_true4 (W : World) (X base g0 : Nat) (f : Int) (g n c : Nat) (ys : List Int) (w : World) (h0 : 0 ≤ f) (h1 : f < 16) (hs : BtS W X base g0 f 4 g n c ys w) :
    Calls Tryz.prog 169 #[.bool true, .pointer (some ⟨X + 1, 0, none⟩), .pointer (some ⟨X + 2, 0, none⟩), .pointer (some ⟨X, 0, none⟩)] w fun e w' => PutOut W X base g0 (f + 16) 5 ys e w' := by
  have HS : Hid (BtS W X base g0 f 4 g n c ys w) := hs
  have cF := hs.cF
  have f1 := hs.fr (X + 1) (by omega) (by omega)
  have cU := hs.cU
  have f2 := hs.fr (X + 2) (by omega) (by omega)
  have ho : Hid (bits .or .u8 f 16 = f + 16) := or_bit8 4 (by decide) h0 h1 (by decide)
  clear hs h1
  go_enter Tryz.func169, Tryz.ntmps169
  go_wp2
  go_region
  go_wp2
  go_end0
  refine ⟨rfl, _, _, _, ((((HS.out.setF _).setU 5).drew).val ho.out)⟩

set_option maxRecDepth 100000 in
set_option maxHeartbeats 1000000 in
theorem put_true5 (W : World) (X base g0 : Nat) (f : Int) (g n c : Nat) (ys : List Int) (w : World) (h0 : 0 ≤ f) (h1 : f < 32) (hs : BtS W X base g0 f 5 g n c ys w) :
    Calls Tryz.prog 169 #[.bool true, .pointer (some ⟨X + 1, 0, none⟩), .pointer (some ⟨X + 2, 0, none⟩), .pointer (some ⟨X, 0, none⟩)] w fun e w' => PutOut W X base g0 (f + 32) 6 ys e w' := by
  have HS : Hid (BtS W X base g0 f 5 g n c ys w) := hs
  have cF := hs.cF
  have f1 := hs.fr (X + 1) (by omega) (by omega)
  have cU := hs.cU
  have f2 := hs.fr (X + 2) (by omega) (by omega)
  have ho : Hid (bits .or .u8 f 32 = f + 32) := or_bit8 5 (by decide) h0 h1 (by decide)
  clear hs h1
  go_enter Tryz.func169, Tryz.ntmps169
  go_wp2
  go_region
  go_wp2
  go_end0
  refine ⟨rfl, _, _, _, ((((HS.out.setF _).setU 6).drew).val ho.out)⟩

set_option maxRecDepth 100000 in
set_option maxHeartbeats 1000000 in
theorem put_true6 (W : World) (X base g0 : Nat) (f : Int) (g n c : Nat) (ys : List Int) (w : World) (h0 : 0 ≤ f) (h1 : f < 64) (hs : BtS W X base g0 f 6 g n c ys w) :
    Calls Tryz.prog 169 #[.bool true, .pointer (some ⟨X + 1, 0, none⟩), .pointer (some ⟨X + 2, 0, none⟩), .pointer (some ⟨X, 0, none⟩)] w fun e w' => PutOut W X base g0 (f + 64) 7 ys e w' := by
  have HS : Hid (BtS W X base g0 f 6 g n c ys w) := hs
  have cF := hs.cF
  have f1 := hs.fr (X + 1) (by omega) (by omega)
  have cU := hs.cU
  have f2 := hs.fr (X + 2) (by omega) (by omega)
  have ho : Hid (bits .or .u8 f 64 = f + 64) := or_bit8 6 (by decide) h0 h1 (by decide)
  clear hs h1
  go_enter Tryz.func169, Tryz.ntmps169
  go_wp2
  go_region
  go_wp2
  go_end0
  refine ⟨rfl, _, _, _, ((((HS.out.setF _).setU 7).drew).val ho.out)⟩

set_option maxRecDepth 100000 in
set_option maxHeartbeats 1000000 in
theorem put_true7 (W : World) (X base g0 : Nat) (f : Int) (g n c : Nat) (ys : List Int) (w : World) (h0 : 0 ≤ f) (h1 : f < 128) (hy : ys.length ≤ 1000000) (hs : BtS W X base g0 f 7 g n c ys w) :
    Calls Tryz.prog 169 #[.bool true, .pointer (some ⟨X + 1, 0, none⟩), .pointer (some ⟨X + 2, 0, none⟩), .pointer (some ⟨X, 0, none⟩)] w fun e w' => PutOut W X base g0 0 0 (ys ++ [(f + 128)]) e w' := by
  have HS : Hid (BtS W X base g0 f 7 g n c ys w) := hs
  have cO := hs.cO
  have f0 := hs.fr X (by omega) (by omega)
  have cF := hs.cF
  have f1 := hs.fr (X + 1) (by omega) (by omega)
  have cU := hs.cU
  have f2 := hs.fr (X + 2) (by omega) (by omega)
  have ho : Hid (bits .or .u8 f 128 = f + 128) := or_bit8 7 (by decide) h0 h1 (by decide)
  clear hs h1
  go_enter Tryz.func169, Tryz.ntmps169
  go_wp2
  go_region
  have HB1 : Hid (BtS W X base g0 (bits .or .u8 f 128) 8 g n c ys ((w.setCell ⟨X + 1, 0, none⟩ (.int .u8 (bits .or .u8 f 128))).setCell ⟨X + 2, 0, none⟩ (.int .i64 8)).drew) := ((HS.out.setF (bits .or .u8 f 128)).setU 8).drew
  have hz := HB1.out.sz
  have hbx := HB1.out.bX
  go_wp2_with (at_builtin; refine app1Yd rfl (.tmp 14) (.tmp 16) rfl base _ ys rfl (by simp; rfl) (.inl HB1.out.own) (by omega) (by simp at hz ⊢; omega) ?_; intro g1 n1 c1 w1 hk1; obtain ⟨d0, d1, d2, e0, e1, e2⟩ := HB1.out.keep hk1)
  have HB2 : Hid (BtS W X base g0 0 0 g1 n1 c1 (ys ++ [f + 128]) (((w1.setCell ⟨X, 0, none⟩ (.slice (some ⟨g1, 0, none⟩) n1 c1)).setCell ⟨X + 1, 0, none⟩ (.int .u8 0)).setCell ⟨X + 2, 0, none⟩ (.int .i64 0))) := by
    have h1 := HB1.out.flush (hk1.re (by rw [ho.out]))
    exact (h1.setF 0).setU 0
  clear hk1 HB1 HS hz hbx
  go_wp2
  go_end0
  exact ⟨rfl, _, _, _, HB2.out⟩

set_option maxRecDepth 100000 in
set_option maxHeartbeats 1000000 in
theorem put_false0 (W : World) (X base g0 : Nat) (f : Int) (g n c : Nat) (ys : List Int) (w : World) (hs : BtS W X base g0 f 0 g n c ys w) :
    Calls Tryz.prog 169 #[.bool false, .pointer (some ⟨X + 1, 0, none⟩), .pointer (some ⟨X + 2, 0, none⟩), .pointer (some ⟨X, 0, none⟩)] w fun e w' => PutOut W X base g0 f 1 ys e w' := by
  have HS : Hid (BtS W X base g0 f 0 g n c ys w) := hs
  have cU := hs.cU
  have f2 := hs.fr (X + 2) (by omega) (by omega)
  clear hs
  go_enter Tryz.func169, Tryz.ntmps169
  go_wp2
  go_end0
  exact ⟨rfl, _, _, _, HS.out.setU 1⟩

set_option maxRecDepth 100000 in
set_option maxHeartbeats 1000000 in
theorem put_false1 (W : World) (X base g0 : Nat) (f : Int) (g n c : Nat) (ys : List Int) (w : World) (hs : BtS W X base g0 f 1 g n c ys w) :
    Calls Tryz.prog 169 #[.bool false, .pointer (some ⟨X + 1, 0, none⟩), .pointer (some ⟨X + 2, 0, none⟩), .pointer (some ⟨X, 0, none⟩)] w fun e w' => PutOut W X base g0 f 2 ys e w' := by
  have HS : Hid (BtS W X base g0 f 1 g n c ys w) := hs
  have cU := hs.cU
  have f2 := hs.fr (X + 2) (by omega) (by omega)
  clear hs
  go_enter Tryz.func169, Tryz.ntmps169
  go_wp2
  go_end0
  exact ⟨rfl, _, _, _, HS.out.setU 2⟩

set_option maxRecDepth 100000 in
set_option maxHeartbeats 1000000 in
theorem put_false2 (W : World) (X base g0 : Nat) (f : Int) (g n c : Nat) (ys : List Int) (w : World) (hs : BtS W X base g0 f 2 g n c ys w) :
    Calls Tryz.prog 169 #[.bool false, .pointer (some ⟨X + 1, 0, none⟩), .pointer (some ⟨X + 2, 0, none⟩), .pointer (some ⟨X, 0, none⟩)] w fun e w' => PutOut W X base g0 f 3 ys e w' := by
  have HS : Hid (BtS W X base g0 f 2 g n c ys w) := hs
  have cU := hs.cU
  have f2 := hs.fr (X + 2) (by omega) (by omega)
  clear hs
  go_enter Tryz.func169, Tryz.ntmps169
  go_wp2
  go_end0
  exact ⟨rfl, _, _, _, HS.out.setU 3⟩

set_option maxRecDepth 100000 in
set_option maxHeartbeats 1000000 in
theorem put_false3 (W : World) (X base g0 : Nat) (f : Int) (g n c : Nat) (ys : List Int) (w : World) (hs : BtS W X base g0 f 3 g n c ys w) :
    Calls Tryz.prog 169 #[.bool false, .pointer (some ⟨X + 1, 0, none⟩), .pointer (some ⟨X + 2, 0, none⟩), .pointer (some ⟨X, 0, none⟩)] w fun e w' => PutOut W X base g0 f 4 ys e w' := by
  have HS : Hid (BtS W X base g0 f 3 g n c ys w) := hs
  have cU := hs.cU
  have f2 := hs.fr (X + 2) (by omega) (by omega)
  clear hs
  go_enter Tryz.func169, Tryz.ntmps169
  go_wp2
  go_end0
  exact ⟨rfl, _, _, _, HS.out.setU 4⟩

set_option maxRecDepth 100000 in
set_option maxHeartbeats 1000000 in
theorem put_false4 (W : World) (X base g0 : Nat) (f : Int) (g n c : Nat) (ys : List Int) (w : World) (hs : BtS W X base g0 f 4 g n c ys w) :
    Calls Tryz.prog 169 #[.bool false, .pointer (some ⟨X + 1, 0, none⟩), .pointer (some ⟨X + 2, 0, none⟩), .pointer (some ⟨X, 0, none⟩)] w fun e w' => PutOut W X base g0 f 5 ys e w' := by
  have HS : Hid (BtS W X base g0 f 4 g n c ys w) := hs
  have cU := hs.cU
  have f2 := hs.fr (X + 2) (by omega) (by omega)
  clear hs
  go_enter Tryz.func169, Tryz.ntmps169
  go_wp2
  go_end0
  exact ⟨rfl, _, _, _, HS.out.setU 5⟩

set_option maxRecDepth 100000 in
set_option maxHeartbeats 1000000 in
theorem put_false5 (W : World) (X base g0 : Nat) (f : Int) (g n c : Nat) (ys : List Int) (w : World) (hs : BtS W X base g0 f 5 g n c ys w) :
    Calls Tryz.prog 169 #[.bool false, .pointer (some ⟨X + 1, 0, none⟩), .pointer (some ⟨X + 2, 0, none⟩), .pointer (some ⟨X, 0, none⟩)] w fun e w' => PutOut W X base g0 f 6 ys e w' := by
  have HS : Hid (BtS W X base g0 f 5 g n c ys w) := hs
  have cU := hs.cU
  have f2 := hs.fr (X + 2) (by omega) (by omega)
  clear hs
  go_enter Tryz.func169, Tryz.ntmps169
  go_wp2
  go_end0
  exact ⟨rfl, _, _, _, HS.out.setU 6⟩

set_option maxRecDepth 100000 in
set_option maxHeartbeats 1000000 in
theorem put_false6 (W : World) (X base g0 : Nat) (f : Int) (g n c : Nat) (ys : List Int) (w : World) (hs : BtS W X base g0 f 6 g n c ys w) :
    Calls Tryz.prog 169 #[.bool false, .pointer (some ⟨X + 1, 0, none⟩), .pointer (some ⟨X + 2, 0, none⟩), .pointer (some ⟨X, 0, none⟩)] w fun e w' => PutOut W X base g0 f 7 ys e w' := by
  have HS : Hid (BtS W X base g0 f 6 g n c ys w) := hs
  have cU := hs.cU
  have f2 := hs.fr (X + 2) (by omega) (by omega)
  clear hs
  go_enter Tryz.func169, Tryz.ntmps169
  go_wp2
  go_end0
  exact ⟨rfl, _, _, _, HS.out.setU 7⟩

set_option maxRecDepth 100000 in
set_option maxHeartbeats 1000000 in
theorem put_false7 (W : World) (X base g0 : Nat) (f : Int) (g n c : Nat) (ys : List Int) (w : World) (hy : ys.length ≤ 1000000) (hs : BtS W X base g0 f 7 g n c ys w) :
    Calls Tryz.prog 169 #[.bool false, .pointer (some ⟨X + 1, 0, none⟩), .pointer (some ⟨X + 2, 0, none⟩), .pointer (some ⟨X, 0, none⟩)] w fun e w' => PutOut W X base g0 0 0 (ys ++ [f]) e w' := by
  have HS : Hid (BtS W X base g0 f 7 g n c ys w) := hs
  have cO := hs.cO
  have f0 := hs.fr X (by omega) (by omega)
  have cF := hs.cF
  have f1 := hs.fr (X + 1) (by omega) (by omega)
  have cU := hs.cU
  have f2 := hs.fr (X + 2) (by omega) (by omega)
  clear hs
  go_enter Tryz.func169, Tryz.ntmps169
  have HB1 : Hid (BtS W X base g0 f 8 g n c ys (w.setCell ⟨X + 2, 0, none⟩ (.int .i64 8))) := HS.out.setU 8
  have hz := HB1.out.sz
  have hbx := HB1.out.bX
  go_wp2_with (at_builtin; refine app1Y rfl (.tmp 14) (.tmp 16) rfl base _ ys rfl (by simp; rfl) (.inl HB1.out.own) (by omega) (by simp at hz ⊢; omega) ?_; intro g1 n1 c1 w1 hk1; obtain ⟨d0, d1, d2, e0, e1, e2⟩ := HB1.out.keep hk1)
  have HB2 : Hid (BtS W X base g0 0 0 g1 n1 c1 (ys ++ [f]) (((w1.setCell ⟨X, 0, none⟩ (.slice (some ⟨g1, 0, none⟩) n1 c1)).setCell ⟨X + 1, 0, none⟩ (.int .u8 0)).setCell ⟨X + 2, 0, none⟩ (.int .i64 0))) := ((HB1.out.flush hk1).setF 0).setU 0
  clear hk1 HB1 HS hz hbx
  go_wp2
  go_end0
  exact ⟨rfl, _, _, _, HB2.out⟩

end Go.Proofs.YtfcnokagfibgcahGreat

/-
  The law of EncodePicture, for any program whose EncodePicture answers the bytes in new memory.
-/
namespace Go.Proofs.YtfcnokagfibgcahGreat
open Go.RowKit

theorem encPV_length (n1 n3 : Nat) (g : Nat → Int) (L : Int) (h : Nat → Bool) : (encPV n1 n3 g L h).length ≤ 10000 := by
  cases hv : validPc n1 n3 g L
  · rw [encPV_bad hv]; simp
  · rw [encPV_ok hv]
    unfold validPc at hv
    simp only [Bool.and_eq_true, decide_eq_true_eq] at hv
    obtain ⟨⟨⟨⟨q1, q2⟩, q3⟩, q4⟩, q5⟩ := hv
    have e1 : (n1 : Int) * L ≤ 40 * L := Int.mul_le_mul_of_nonneg_right (by omega) q2
    unfold encPc
    simp only [List.length_append, headP_length, idsB_length, litB_length]
    omega

end Go.Proofs.YtfcnokagfibgcahGreat

/-
  The program's validPicture, appendBits and EncodePicture.
-/
namespace Go.Proofs.YtfcnokagfibgcahGreat
open Go.RowKit

/-- The lowest t bits of the byte that begins with bit i. -/
def lowF (n3 : Nat) (h : Nat → Bool) (i : Nat) : Nat → Int
  | 0 => 0
  | t + 1 => lowF n3 h i t + bitF n3 h (i + t) * 2 ^ t

theorem lowF_bounds (n3 : Nat) (h : Nat → Bool) (i : Nat) : ∀ t, 0 ≤ lowF n3 h i t ∧ lowF n3 h i t < 2 ^ t
  | 0 => by simp [lowF]
  | t + 1 => by
    have h1 := lowF_bounds n3 h i t
    simp only [lowF, Int.pow_succ]
    unfold bitF
    split <;> omega
theorem lowF_all (n3 : Nat) (h : Nat → Bool) (i : Nat) : lowF n3 h i 8 = bitsF n3 h i 8 := by
  simp [lowF, bitsF]
  omega

/-- Memory when j bits have been written. -/
def BitsAt (W : World) (X base g0 : Nat) (ys : List Int) (n3 : Nat) (h : Nat → Bool) (j : Nat) (wr : World) : Prop :=
  ∃ g n c, BtS W X base g0 (lowF n3 h (8 * (j / 8)) (j % 8)) ((j % 8 : Nat) : Int) g n c (ys ++ litB n3 h (j / 8)) wr

theorem BitsAt.next {W : World} {X base g0 : Nat} {ys : List Int} {n3 : Nat} {h : Nat → Bool} {j : Nat} {e : Ending} {w' : World} {f : Int} {u : Nat} {zs : List Int} (hp : PutOut W X base g0 f u zs e w') (hu : u = (j + 1) % 8) (hf : f = lowF n3 h (8 * ((j + 1) / 8)) ((j + 1) % 8)) (hz : zs = ys ++ litB n3 h ((j + 1) / 8)) : e = .returned (.tuple #[]) ∧ BitsAt W X base g0 ys n3 h (j + 1) w' := by
  obtain ⟨he, g, n, c, hb⟩ := hp
  subst hu hf hz
  exact ⟨he, g, n, c, hb⟩

theorem bitF_on {n3 : Nat} {h : Nat → Bool} {j : Nat} (hb : (decide (j < n3) && h j) = true) : bitF n3 h j = 1 := by
  simp at hb
  unfold bitF
  rw [if_pos hb]
theorem bitF_off {n3 : Nat} {h : Nat → Bool} {j : Nat} (hb : (decide (j < n3) && h j) = false) : bitF n3 h j = 0 := by
  unfold bitF
  rw [if_neg]
  intro hh
  simp [hh.1, hh.2] at hb

set_option maxHeartbeats 2000000 in
theorem put_any (W : World) (X base g0 : Nat) (ys : List Int) (n3 : Nat) (h : Nat → Bool) (j : Nat) (bit : Bool) (w : World) (hb : (decide (j < n3) && h j) = bit) (hj : j ≤ 400000) (hy : ys.length ≤ 500000) (hs : BitsAt W X base g0 ys n3 h j w) :
    Calls Tryz.prog 169 #[.bool bit, .pointer (some ⟨X + 1, 0, none⟩), .pointer (some ⟨X + 2, 0, none⟩), .pointer (some ⟨X, 0, none⟩)] w fun e w' => e = .returned (.tuple #[]) ∧ BitsAt W X base g0 ys n3 h (j + 1) w' := by
  obtain ⟨g, n, c, hB⟩ := hs
  have hyl : (ys ++ litB n3 h (j / 8)).length ≤ 1000000 := by rw [List.length_append, litB_length]; omega
  obtain ⟨m, hm⟩ : ∃ m, m = j / 8 := ⟨_, rfl⟩
  have h0 := (lowF_bounds n3 h (8 * m) (j % 8)).1
  have h1 := (lowF_bounds n3 h (8 * m) (j % 8)).2
  have hj8 : j % 8 = 0 ∨ j % 8 = 1 ∨ j % 8 = 2 ∨ j % 8 = 3 ∨ j % 8 = 4 ∨ j % 8 = 5 ∨ j % 8 = 6 ∨ j % 8 = 7 := by omega
  rw [← hm] at hB hyl
  rcases hj8 with h8 | h8 | h8 | h8 | h8 | h8 | h8 | h8
  · have e1 : (j + 1) / 8 = m := by omega
    have e2 : (j + 1) % 8 = 1 := by omega
    have e3 : 8 * m + 0 = j := by omega
    rw [h8] at hB h0 h1
    cases bit
    · have hz : bitF n3 h (8 * m + 0) = 0 := by rw [e3]; exact bitF_off hb
      refine (put_false0 W X base g0 _ g n c _ w hB).mono ?_
      intro e w' hp
      refine BitsAt.next hp e2.symm ?_ (by rw [e1])
      rw [e1, e2]
      show _ = lowF n3 h (8 * m) 0 + bitF n3 h (8 * m + 0) * 2 ^ 0
      rw [hz, Int.zero_mul, Int.add_zero]
    · have hz : bitF n3 h (8 * m + 0) = 1 := by rw [e3]; exact bitF_on hb
      have h1' : lowF n3 h (8 * m) 0 < 1 := Int.lt_of_lt_of_le h1 (by decide)
      clear h1
      refine (put_true0 W X base g0 _ g n c _ w h0 h1' hB).mono ?_
      intro e w' hp
      refine BitsAt.next hp e2.symm ?_ (by rw [e1])
      rw [e1, e2]
      show _ = lowF n3 h (8 * m) 0 + bitF n3 h (8 * m + 0) * 2 ^ 0
      rw [hz, Int.one_mul, show ((2 : Int) ^ 0) = 1 from by decide]
  · have e1 : (j + 1) / 8 = m := by omega
    have e2 : (j + 1) % 8 = 2 := by omega
    have e3 : 8 * m + 1 = j := by omega
    rw [h8] at hB h0 h1
    cases bit
    · have hz : bitF n3 h (8 * m + 1) = 0 := by rw [e3]; exact bitF_off hb
      refine (put_false1 W X base g0 _ g n c _ w hB).mono ?_
      intro e w' hp
      refine BitsAt.next hp e2.symm ?_ (by rw [e1])
      rw [e1, e2]
      show _ = lowF n3 h (8 * m) 1 + bitF n3 h (8 * m + 1) * 2 ^ 1
      rw [hz, Int.zero_mul, Int.add_zero]
    · have hz : bitF n3 h (8 * m + 1) = 1 := by rw [e3]; exact bitF_on hb
      have h1' : lowF n3 h (8 * m) 1 < 2 := Int.lt_of_lt_of_le h1 (by decide)
      clear h1
      refine (put_true1 W X base g0 _ g n c _ w h0 h1' hB).mono ?_
      intro e w' hp
      refine BitsAt.next hp e2.symm ?_ (by rw [e1])
      rw [e1, e2]
      show _ = lowF n3 h (8 * m) 1 + bitF n3 h (8 * m + 1) * 2 ^ 1
      rw [hz, Int.one_mul, show ((2 : Int) ^ 1) = 2 from by decide]
  · have e1 : (j + 1) / 8 = m := by omega
    have e2 : (j + 1) % 8 = 3 := by omega
    have e3 : 8 * m + 2 = j := by omega
    rw [h8] at hB h0 h1
    cases bit
    · have hz : bitF n3 h (8 * m + 2) = 0 := by rw [e3]; exact bitF_off hb
      refine (put_false2 W X base g0 _ g n c _ w hB).mono ?_
      intro e w' hp
      refine BitsAt.next hp e2.symm ?_ (by rw [e1])
      rw [e1, e2]
      show _ = lowF n3 h (8 * m) 2 + bitF n3 h (8 * m + 2) * 2 ^ 2
      rw [hz, Int.zero_mul, Int.add_zero]
    · have hz : bitF n3 h (8 * m + 2) = 1 := by rw [e3]; exact bitF_on hb
      have h1' : lowF n3 h (8 * m) 2 < 4 := Int.lt_of_lt_of_le h1 (by decide)
      clear h1
      refine (put_true2 W X base g0 _ g n c _ w h0 h1' hB).mono ?_
      intro e w' hp
      refine BitsAt.next hp e2.symm ?_ (by rw [e1])
      rw [e1, e2]
      show _ = lowF n3 h (8 * m) 2 + bitF n3 h (8 * m + 2) * 2 ^ 2
      rw [hz, Int.one_mul, show ((2 : Int) ^ 2) = 4 from by decide]
  · have e1 : (j + 1) / 8 = m := by omega
    have e2 : (j + 1) % 8 = 4 := by omega
    have e3 : 8 * m + 3 = j := by omega
    rw [h8] at hB h0 h1
    cases bit
    · have hz : bitF n3 h (8 * m + 3) = 0 := by rw [e3]; exact bitF_off hb
      refine (put_false3 W X base g0 _ g n c _ w hB).mono ?_
      intro e w' hp
      refine BitsAt.next hp e2.symm ?_ (by rw [e1])
      rw [e1, e2]
      show _ = lowF n3 h (8 * m) 3 + bitF n3 h (8 * m + 3) * 2 ^ 3
      rw [hz, Int.zero_mul, Int.add_zero]
    · have hz : bitF n3 h (8 * m + 3) = 1 := by rw [e3]; exact bitF_on hb
      have h1' : lowF n3 h (8 * m) 3 < 8 := Int.lt_of_lt_of_le h1 (by decide)
      clear h1
      refine (put_true3 W X base g0 _ g n c _ w h0 h1' hB).mono ?_
      intro e w' hp
      refine BitsAt.next hp e2.symm ?_ (by rw [e1])
      rw [e1, e2]
      show _ = lowF n3 h (8 * m) 3 + bitF n3 h (8 * m + 3) * 2 ^ 3
      rw [hz, Int.one_mul, show ((2 : Int) ^ 3) = 8 from by decide]
  · have e1 : (j + 1) / 8 = m := by omega
    have e2 : (j + 1) % 8 = 5 := by omega
    have e3 : 8 * m + 4 = j := by omega
    rw [h8] at hB h0 h1
    cases bit
    · have hz : bitF n3 h (8 * m + 4) = 0 := by rw [e3]; exact bitF_off hb
      refine (put_false4 W X base g0 _ g n c _ w hB).mono ?_
      intro e w' hp
      refine BitsAt.next hp e2.symm ?_ (by rw [e1])
      rw [e1, e2]
      show _ = lowF n3 h (8 * m) 4 + bitF n3 h (8 * m + 4) * 2 ^ 4
      rw [hz, Int.zero_mul, Int.add_zero]
    · have hz : bitF n3 h (8 * m + 4) = 1 := by rw [e3]; exact bitF_on hb
      have h1' : lowF n3 h (8 * m) 4 < 16 := Int.lt_of_lt_of_le h1 (by decide)
      clear h1
      refine (put_true4 W X base g0 _ g n c _ w h0 h1' hB).mono ?_
      intro e w' hp
      refine BitsAt.next hp e2.symm ?_ (by rw [e1])
      rw [e1, e2]
      show _ = lowF n3 h (8 * m) 4 + bitF n3 h (8 * m + 4) * 2 ^ 4
      rw [hz, Int.one_mul, show ((2 : Int) ^ 4) = 16 from by decide]
  · have e1 : (j + 1) / 8 = m := by omega
    have e2 : (j + 1) % 8 = 6 := by omega
    have e3 : 8 * m + 5 = j := by omega
    rw [h8] at hB h0 h1
    cases bit
    · have hz : bitF n3 h (8 * m + 5) = 0 := by rw [e3]; exact bitF_off hb
      refine (put_false5 W X base g0 _ g n c _ w hB).mono ?_
      intro e w' hp
      refine BitsAt.next hp e2.symm ?_ (by rw [e1])
      rw [e1, e2]
      show _ = lowF n3 h (8 * m) 5 + bitF n3 h (8 * m + 5) * 2 ^ 5
      rw [hz, Int.zero_mul, Int.add_zero]
    · have hz : bitF n3 h (8 * m + 5) = 1 := by rw [e3]; exact bitF_on hb
      have h1' : lowF n3 h (8 * m) 5 < 32 := Int.lt_of_lt_of_le h1 (by decide)
      clear h1
      refine (put_true5 W X base g0 _ g n c _ w h0 h1' hB).mono ?_
      intro e w' hp
      refine BitsAt.next hp e2.symm ?_ (by rw [e1])
      rw [e1, e2]
      show _ = lowF n3 h (8 * m) 5 + bitF n3 h (8 * m + 5) * 2 ^ 5
      rw [hz, Int.one_mul, show ((2 : Int) ^ 5) = 32 from by decide]
  · have e1 : (j + 1) / 8 = m := by omega
    have e2 : (j + 1) % 8 = 7 := by omega
    have e3 : 8 * m + 6 = j := by omega
    rw [h8] at hB h0 h1
    cases bit
    · have hz : bitF n3 h (8 * m + 6) = 0 := by rw [e3]; exact bitF_off hb
      refine (put_false6 W X base g0 _ g n c _ w hB).mono ?_
      intro e w' hp
      refine BitsAt.next hp e2.symm ?_ (by rw [e1])
      rw [e1, e2]
      show _ = lowF n3 h (8 * m) 6 + bitF n3 h (8 * m + 6) * 2 ^ 6
      rw [hz, Int.zero_mul, Int.add_zero]
    · have hz : bitF n3 h (8 * m + 6) = 1 := by rw [e3]; exact bitF_on hb
      have h1' : lowF n3 h (8 * m) 6 < 64 := Int.lt_of_lt_of_le h1 (by decide)
      clear h1
      refine (put_true6 W X base g0 _ g n c _ w h0 h1' hB).mono ?_
      intro e w' hp
      refine BitsAt.next hp e2.symm ?_ (by rw [e1])
      rw [e1, e2]
      show _ = lowF n3 h (8 * m) 6 + bitF n3 h (8 * m + 6) * 2 ^ 6
      rw [hz, Int.one_mul, show ((2 : Int) ^ 6) = 64 from by decide]
  · have e1 : (j + 1) / 8 = m + 1 := by omega
    have e2 : (j + 1) % 8 = 0 := by omega
    have e3 : 8 * m + 7 = j := by omega
    rw [h8] at hB h0 h1
    cases bit
    · have hz : bitF n3 h (8 * m + 7) = 0 := by rw [e3]; exact bitF_off hb
      refine (put_false7 W X base g0 _ g n c _ w hyl hB).mono ?_
      intro e w' hp
      refine BitsAt.next hp e2.symm (by rw [e2]; rfl) ?_
      rw [e1, litB, ← List.append_assoc, ← lowF_all]
      show _ = _ ++ [lowF n3 h (8 * m) 7 + bitF n3 h (8 * m + 7) * 2 ^ 7]
      rw [hz, Int.zero_mul, Int.add_zero]
    · have hz : bitF n3 h (8 * m + 7) = 1 := by rw [e3]; exact bitF_on hb
      have h1' : lowF n3 h (8 * m) 7 < 128 := Int.lt_of_lt_of_le h1 (by decide)
      clear h1
      refine (put_true7 W X base g0 _ g n c _ w h0 h1' hyl hB).mono ?_
      intro e w' hp
      refine BitsAt.next hp e2.symm (by rw [e2]; rfl) ?_
      rw [e1, litB, ← List.append_assoc, ← lowF_all]
      show _ = _ ++ [lowF n3 h (8 * m) 7 + bitF n3 h (8 * m + 7) * 2 ^ 7]
      rw [hz, Int.one_mul, show ((2 : Int) ^ 7) = 128 from by decide]

theorem BtS.start {W : World} {base g0 n0 c0 : Nat} {ys : List Int} (ho : OwnY W base (.slice (some ⟨g0, 0, none⟩) n0 c0) ys) (hb : base ≤ W.heap.size) (t1 t2 t3 : TypeId) :
    BtS W W.heap.size base g0 0 0 g0 n0 c0 ys (((W.alloc (.cells #[.slice (some ⟨g0, 0, none⟩) n0 c0] t1)).alloc (.cells #[.int .u8 0] t2)).alloc (.cells #[.int .i64 0] t3)) := by
  have hl := (ho.blk (k := g0) (by simp [Value.ownBlock])).2
  refine ⟨rfl, by simp [go_sem], by simp [go_sem], by simp [go_sem], ?_, by simp, ho.later (bel3 _ _ _ _), .inl rfl, gb_of (bel3 _ _ _ _) _, hl, hb⟩
  intro k h1 h2
  have hk : k = W.heap.size ∨ k = W.heap.size + 1 ∨ k = W.heap.size + 2 := by omega
  rcases hk with rfl | rfl | rfl <;> simp [go_sem]

/-- How many bits of the byte are used. -/
def usedOf (X : Nat) (wr : World) : Nat := match wr.cell? ⟨X + 2, 0, none⟩ with
  | some (.int _ z) => z.toNat
  | _ => 0

set_option maxRecDepth 100000 in
set_option maxHeartbeats 1000000 in
theorem appBits_any (base g n0 c0 : Nat) (ys : List Int) (a : Option Addr) (n c : Nat) (h : Nat → Bool) (w : World) (hn : n ≤ 10000) (hz : RowF w a n (boolF h)) (hap : ∀ b off, a = some ⟨b, off, none⟩ → n ≠ 0 → g ≠ b) (hy : ys.length ≤ 500000) (ho : OwnY w base (.slice (some ⟨g, 0, none⟩) n0 c0) ys) (hb : base ≤ w.heap.size) :
    Calls Tryz.prog 85 #[.slice (some ⟨g, 0, none⟩) n0 c0, .slice a n c] w fun e w' => MoreY w base (some g) (ys ++ litB n h ((n + 7) / 8)) e w' := by
  have HZ : Hid (RowF w a n (boolF h)) := hz
  have HA : Hid (∀ b off, a = some ⟨b, off, none⟩ → n ≠ 0 → g ≠ b) := hap
  have HO : Hid (OwnY w base (.slice (some ⟨g, 0, none⟩) n0 c0) ys) := ho
  have hmf : ∀ (fn : Fn) (first cap : Array Value) (w : World), (Instr.makeFunc fn first cap).run Tryz.prog w = .ok (.func fn first cap) w := fun _ _ _ _ => rfl
  clear hz hap ho
  go_enter Tryz.func85, Tryz.ntmps85
  go_wp2
  go_loopw [9, 13] (fun _ si wr => ∃ (i : Nat), i ≤ n ∧ si = .int .i64 i ∧ Hid (BitsAt w w.heap.size base g ys n h i wr)) (fun _ si _ => n - (intOf si).toNat)
  case atStart => exact ⟨0, Nat.zero_le _, rfl, _, _, _, by rw [show ys ++ litB n h (0 / 8) = ys by simp [litB]]; exact BtS.start HO.out hb _ _ _⟩
  case round =>
    obtain ⟨i, hi, rfl, hB⟩ := hrel
    by_cases hlt : i < n
    · obtain ⟨b, off, rfl, hbl, hc⟩ := HZ.out.resolve_left (by omega)
      have q : wr.cell? ⟨b, off + i, none⟩ = some (.bool (h i)) := by
        obtain ⟨g1, m1, k1, hB1⟩ := hB.out
        exact (hB1.grown.cell_far ⟨b, off + i, none⟩ hbl (fun e => HA.out b off rfl (by omega) (Option.some.inj e).symm)).trans (hc i hlt)
      have hib : (i : Int) < n := by omega
      have HH : Hid ((decide (i < n) && h i) = h i) := by unfold Hid; simp [hlt]
      clear hc
      go_wp2_with fail
      refine (put_any w w.heap.size base g ys n h i (h i) wr HH.out (by omega) hy hB.out).mono ?_
      rintro e w1 ⟨rfl, hB1⟩
      have HB1 : Hid (BitsAt w w.heap.size base g ys n h (i + 1) w1) := hB1
      clear hB1 hB q HH
      go_wp2
      go_roundw
      case rel => exact ⟨i + 1, by omega, by go_num, HB1⟩
      case measure => simp [intOf]; omega
    · have hie : n = i := by omega
      subst hie
      go_wp2
      have hn8 : n ≤ 8 * ((n + 7) / 8) := by omega
      go_loopw [] (fun wr => ∃ (j : Nat), n ≤ j ∧ j ≤ 8 * ((n + 7) / 8) ∧ Hid (BitsAt w w.heap.size base g ys n h j wr)) (fun wr => (8 - usedOf w.heap.size wr) % 8)
      case atStart => exact ⟨n, Nat.le_refl _, hn8, hB⟩
      case round =>
        obtain ⟨j, hj1, hj2, hJ⟩ := hrel
        obtain ⟨g1, m1, k1, hJ1⟩ := hJ.out
        have cU := hJ1.cU
        have cO := hJ1.cO
        have HM : Hid (usedOf w.heap.size wr = j % 8) := by unfold Hid usedOf; rw [cU]; exact Int.toNat_natCast _
        have HE : Hid (GrewY w base (some g) g1 (ys ++ litB n h (j / 8)) m1 k1 wr) := ⟨hJ1.own, hJ1.grown, by
          rcases hJ1.at_ with h1 | h1
          · subst h1; exact .inl rfl
          · right; omega⟩
        clear hJ1
        obtain ⟨u, hu⟩ : ∃ u, u = j % 8 := ⟨_, rfl⟩
        rw [← hu] at cU HM
        by_cases hu0 : u = 0
        · have hud : (j / 8) = (n + 7) / 8 := by omega
          rw [hu0] at cU
          rw [hud] at HE
          clear hu hud HM hJ hB hn8 hj1 hj2
          go_wp2
          go_ret
          exact ⟨_, _, _, rfl, HE.out⟩
        · have hup : (0 : Int) < u := by omega
          have hj3 : j + 1 ≤ 8 * ((n + 7) / 8) := by omega
          have HU : Hid (u = j % 8) := hu
          clear hu HE
          go_wp2_with fail
          refine (put_any w w.heap.size base g ys n h j false wr (by simp; omega) (by omega) hy hJ.out).mono ?_
          rintro e w1 ⟨rfl, hB1⟩
          have HB1 : Hid (BitsAt w w.heap.size base g ys n h (j + 1) w1) := hB1
          have HM1 : Hid (usedOf w.heap.size w1 = (j + 1) % 8) := by
            obtain ⟨g2, m2, k2, hJ2⟩ := hB1
            have e1 := hJ2.cU
            unfold Hid usedOf
            rw [e1]
            exact Int.toNat_natCast _
          clear hB1 hJ cU cO hB
          go_wp2
          go_roundw
          case rel => exact ⟨j + 1, by omega, hj3, HB1⟩
          case measure =>
            rw [HM.out, HM1.out]
            have := HU.out
            omega

set_option maxRecDepth 100000 in
set_option maxHeartbeats 1000000 in
theorem validPI_any (a1 a3 : Option Addr) (n1 n3 c1 c3 : Nat) (L : Int) (g : Nat → Int) (h : Nat → Bool) (w : World) (hn : n1 + n3 ≤ 1048576) (hs : PcAt w a1 a3 n1 n3 g h) :
    Calls Tryz.prog 84 #[.agg #[.slice a1 n1 c1, .int .i64 L, .slice a3 n3 c3]] w fun e w' => e = .returned (.bool (validPc n1 n3 g L)) ∧ Below w.heap.size w w' := by
  have HSC : Hid (PcAt w a1 a3 n1 n3 g h) := hs
  clear hs
  by_cases h1 : n1 ≤ 40
  · have h1' : ¬ (40 : Int) < n1 := by omega
    by_cases h2 : 0 ≤ L
    · have h2' : ¬ L < 0 := by omega
      by_cases h3 : L ≤ 4
      · have h3' : ¬ 4 < L := by omega
        have hmb : (n1 : Int) * L ≤ 160 := by
          have e1 : (n1 : Int) * L ≤ 40 * L := Int.mul_le_mul_of_nonneg_right (by omega) h2
          omega
        have hmc : 0 ≤ (n1 : Int) * L := Int.mul_nonneg (by omega) h2
        obtain ⟨m, hm⟩ : ∃ m, m = (n1 : Int) * L := ⟨_, rfl⟩
        obtain ⟨t, ht⟩ : ∃ t, t = ((n3 : Int) == m) := ⟨_, rfl⟩
        have HV : Hid (∀ b, (List.range n1).all (idOK g) = b → validPc n1 n3 g L = (t && b)) := by
          intro b hb
          have e4 : decide ((n3 : Int) = n1 * L) = t := by rw [ht, hm]; by_cases h : (n3 : Int) = n1 * L <;> simp [h]
          unfold validPc
          rw [decide_eq_true h1, decide_eq_true h2, decide_eq_true h3, e4, hb]
          simp
        rw [← hm] at hmb hmc
        have hm' := hm.symm
        have ht' := ht.symm
        clear hm ht
        go_enter Tryz.func84, Tryz.ntmps84
        go_wp2
        go_loopw [4, 22] (fun _ si wr => ∃ (i : Nat), i ≤ n1 ∧ si = .int .i64 i ∧ Hid ((List.range i).all (idOK g) = true) ∧ Hid (LwP w a1 a3 n1 n3 c1 c3 L g h wr)) (fun _ si _ => n1 - (intOf si).toNat)
        case atStart => exact ⟨0, Nat.zero_le _, rfl, rfl, LwP.start HSC.out _⟩
        case round =>
          obtain ⟨i, hi, rfl, hA, hF⟩ := hrel
          have q0 := hF.out.bx.q0
          have q1 := hF.out.bx.q1
          have q2 := hF.out.bx.q2
          by_cases hlt : i < n1
          · obtain ⟨b, off, rfl, hbl, hc⟩ := hF.out.pc.r1.resolve_left (by omega)
            have g1 : wr.cell? ⟨b, off + i, none⟩ = some (.int .i64 (g i)) := hc i hlt
            have HO : Hid (idOK g i = (decide (-1 ≤ g i) && decide (g i < 40))) := rfl
            obtain ⟨x, hx⟩ : ∃ x, x = g i := ⟨_, rfl⟩
            rw [← hx] at g1 HO
            have hib : (i : Int) < n1 := by omega
            clear hc hx
            by_cases x1 : x < -1
            · have HF : Hid (validPc n1 n3 g L = false) := by unfold Hid; rw [HV.out _ (all_range_false hlt (by rw [HO.out]; simp; omega))]; simp
              clear ht'
              go_wp2
              go_ret
              exact ⟨by rw [HF.out]; rfl, hF.out.bel⟩
            · by_cases x2 : 40 ≤ x
              · have HF : Hid (validPc n1 n3 g L = false) := by unfold Hid; rw [HV.out _ (all_range_false hlt (by rw [HO.out]; simp; omega))]; simp
                clear ht'
                go_wp2
                go_ret
                exact ⟨by rw [HF.out]; rfl, hF.out.bel⟩
              · have HOK : Hid (idOK g i = true) := by unfold Hid; rw [HO.out]; simp; omega
                clear ht'
                go_wp2
                go_roundw
                case rel => exact ⟨i + 1, by omega, by go_num, by unfold Hid; rw [all_range_succ, hA.out, HOK.out]; rfl, hF⟩
                case measure => simp [intOf]; omega
          · have hie : n1 = i := by omega
            subst hie
            have HF : Hid (validPc n1 n3 g L = t) := by unfold Hid; rw [HV.out _ hA.out]; simp
            go_wp2
            go_ret
            exact ⟨by rw [HF.out]; first | rfl | rw [ht'], hF.out.bel⟩
      · have h3' : 4 < L := by omega
        have HV : Hid (validPc n1 n3 g L = false) := by unfold Hid validPc; rw [decide_eq_false h3]; simp
        rw [HV.out]
        go_enter Tryz.func84, Tryz.ntmps84
        go_wp2
        go_ret
        exact ⟨rfl, bel0 _ _⟩
    · have h2' : L < 0 := by omega
      have HV : Hid (validPc n1 n3 g L = false) := by unfold Hid validPc; rw [decide_eq_false h2]; simp
      rw [HV.out]
      go_enter Tryz.func84, Tryz.ntmps84
      go_wp2
      go_ret
      exact ⟨rfl, bel0 _ _⟩
  · have h1' : (40 : Int) < n1 := by omega
    have HV : Hid (validPc n1 n3 g L = false) := by unfold Hid validPc; rw [decide_eq_false h1]; simp
    rw [HV.out]
    go_enter Tryz.func84, Tryz.ntmps84
    go_wp2
    go_ret
    exact ⟨rfl, bel0 _ _⟩

end Go.Proofs.YtfcnokagfibgcahGreat

/-
  The program's EncodePicture.
-/
namespace Go.Proofs.YtfcnokagfibgcahGreat
open Go.RowKit

theorem idB_neg : leB 4294967295 4 = [255, 255, 255, 255] := by decide

set_option maxRecDepth 100000 in
set_option maxHeartbeats 4000000 in
theorem encPN_any (a1 a3 : Option Addr) (n1 n3 c1 c3 : Nat) (L : Int) (g : Nat → Int) (h : Nat → Bool) (w : World) (hn : n1 + n3 ≤ 1048576) (hs : PcAt w a1 a3 n1 n3 g h) :
    Calls Tryz.prog 27 #[.agg #[.slice a1 n1 c1, .int .i64 L, .slice a3 n3 c3]] w fun e w' => NewY w (encPV n1 n3 g L h) e w' := by
  have HSC : Hid (PcAt w a1 a3 n1 n3 g h) := hs
  obtain ⟨W0, hW0⟩ : ∃ W0, W0 = w.alloc (.cells #[.slice a1 n1 c1, .int .i64 L, .slice a3 n3 c3] 57) := ⟨_, rfl⟩
  have L0 : Hid (LwP w a1 a3 n1 n3 c1 c3 L g h W0) := by unfold Hid; rw [hW0]; exact LwP.start hs _
  have S0 : W0.heap.size = w.heap.size + 1 := by rw [hW0]; simp
  have HQ : Hid (∀ w', Below (w.heap.size + 1) W0 w' → w'.cell? ⟨w.heap.size, 0, none⟩ = some (.slice a1 n1 c1) ∧ w'.cell? ⟨w.heap.size, 1, none⟩ = some (.int .i64 L) ∧ w'.cell? ⟨w.heap.size, 2, none⟩ = some (.slice a3 n3 c3)) := by
    intro w' hb
    exact ⟨(hb.cell (p := ⟨w.heap.size, 0, none⟩) (by simp)).trans L0.out.bx.q0, (hb.cell (p := ⟨w.heap.size, 1, none⟩) (by simp)).trans L0.out.bx.q1, (hb.cell (p := ⟨w.heap.size, 2, none⟩) (by simp)).trans L0.out.bx.q2⟩
  clear hs
  go_enter Tryz.func27, Tryz.ntmps27
  go_wp2_with fail
  rw [← hW0]
  refine (validPI_any a1 a3 n1 n3 c1 c3 L g h _ hn L0.out.pc).mono ?_
  rintro e V ⟨rfl, hb1⟩
  have B1 : Hid (Below (w.heap.size + 1) W0 V) := by unfold Hid; rw [← S0]; exact hb1
  have Z1 : w.heap.size + 1 ≤ V.heap.size := by have := hb1.size; omega
  clear hb1 hW0
  cases hv : validPc n1 n3 g L
  · go_wp2
    go_ret
    exact ⟨_, rfl, by rw [encPV_bad hv]; exact OwnY.nil _ _, L0.out.bel.trans (B1.out.mono (Nat.le_succ _))⟩
  · have hb3 : n1 ≤ 40 ∧ 0 ≤ L ∧ L ≤ 4 ∧ (n3 : Int) ≤ 160 ∧ Hid (∀ i, i < n1 → -1 ≤ g i ∧ g i < 40) := by
      unfold validPc at hv
      simp only [Bool.and_eq_true, decide_eq_true_eq] at hv
      obtain ⟨⟨⟨⟨q1, q2⟩, q3⟩, q4⟩, q5⟩ := hv
      have e1 : (n1 : Int) * L ≤ 40 * L := Int.mul_le_mul_of_nonneg_right (by omega) q2
      refine ⟨q1, q2, q3, by omega, fun i hi => ?_⟩
      rw [List.all_eq_true] at q5
      have := q5 i (List.mem_range.2 hi)
      unfold idOK at this
      simp at this
      exact this
    obtain ⟨h1, h2, h3, h4, HI⟩ := hb3
    have HV : Hid (encPV n1 n3 g L h = encPc n1 n3 g L h) := encPV_ok hv
    have p0 : (V.alloc (.cells #[.int .u8 80, .int .u8 73, .int .u8 67, .int .u8 84] 5 (4, 5))).cell? ⟨w.heap.size, 0, none⟩ = some (.slice a1 n1 c1) := (HQ.out _ (B1.out.alloc Z1 _)).1
    have hcv := Go.Joins.run_convert_bytes_const_at (P := Tryz.prog) V 22 5 #[.int .u8 80, .int .u8 73, .int .u8 67, .int .u8 84] 4 4 V.heap.size rfl Tryz.underlying22 Tryz.underlying5
    have R0 : Hid (∀ t fr, RowAt .u8 (V.alloc (.cells #[.int .u8 80, .int .u8 73, .int .u8 67, .int .u8 84] t fr)) (some ⟨V.heap.size, 0, none⟩) [80, 73, 67, 84]) := fun t fr => row_pict V t fr rfl
    go_wp2_with fail
    refine (appNum_any (w.heap.size + 1) _ [80, 73, 67, 84] n1 2 _ (by omega) (by omega) (by decide) (by decide) (by decide) (.inr ⟨_, rfl, R0.out _ _, by decide⟩) (by simp; omega)).mono ?_
    rintro e w1 ⟨g1, m1, k1, rfl, hk⟩
    have E1 : Hid (EncS W0 (w.heap.size + 1) (.slice (some ⟨g1, 0, none⟩) m1 k1) ([80, 73, 67, 84] ++ leB n1 2) w1) := EncS.first (B1.out.alloc Z1 _) (by simp; omega) (fun k hk => by simp [Value.ownBlock] at hk; omega) hk
    have G1 := hk.lt.1
    clear p0
    obtain ⟨p0, p1, p2⟩ := HQ.out w1 E1.out.bel
    clear hk B1 R0 hcv
    go_wp2_with fail
    refine (appNum_any (w.heap.size + 1) (.slice (some ⟨g1, 0, none⟩) m1 k1) ([80, 73, 67, 84] ++ leB n1 2) L 1 _ (by omega) (by omega) (by decide) (by decide) (by simp [leB_length]) (.inl E1.out.own) E1.out.le).mono ?_
    rintro e w2 ⟨g2, m2, k2, rfl, hk⟩
    have E2 : Hid (EncS W0 (w.heap.size + 1) (.slice (some ⟨g2, 0, none⟩) m2 k2) (headP n1 L) w2) := E1.out.grew (Below.refl _ _) G1 hk
    obtain ⟨p0, p1, p2⟩ := HQ.out w2 E2.out.bel
    clear hk E1 G1
    go_wp2
    go_loopw [3, 5, 25] (fun so _ si wr => ∃ (i : Nat), i ≤ n1 ∧ si = .int .i64 i ∧ Hid (EncS W0 (w.heap.size + 1) so (headP n1 L ++ idsB g i) wr)) (fun _ _ si _ => n1 - (intOf si).toNat)
    case atStart => exact ⟨0, Nat.zero_le _, rfl, EncS.re E2.out (by simp [idsB])⟩
    case round =>
      obtain ⟨i, hi, rfl, hE⟩ := hrel
      obtain ⟨p0, p1, p2⟩ := HQ.out wr hE.out.bel
      have hyl : (headP n1 L ++ idsB g i).length ≤ 400000 := by
        simp only [List.length_append, headP_length, idsB_length]
        omega
      have hy0 : 0 < (headP n1 L ++ idsB g i).length := by
        simp only [List.length_append, headP_length]
        omega
      obtain ⟨gi, ni, ci, rfl, hg0, hg1⟩ := hE.out.form hy0
      by_cases hlt : i < n1
      · obtain ⟨b, off, rfl, hbl, hc⟩ := L0.out.pc.r1.resolve_left (by omega)
        have q : wr.cell? ⟨b, off + i, none⟩ = some (.int .i64 (g i)) := (hE.out.bel.cell (p := ⟨b, off + i, none⟩) (by simp; omega)).trans (hc i hlt)
        have hib : (i : Int) < n1 := by omega
        have hx := HI.out i hlt
        have HF : Hid (headP n1 L ++ idsB g (i + 1) = (headP n1 L ++ idsB g i) ++ idB (g i)) := by unfold Hid; rw [idsB, List.append_assoc]
        obtain ⟨x, hxx⟩ : ∃ x, x = g i := ⟨_, rfl⟩
        rw [← hxx] at q hx HF
        obtain ⟨Y, hY⟩ : ∃ Y, Y = headP n1 L ++ idsB g i := ⟨_, rfl⟩
        rw [← hY] at hyl hy0 HF hE
        have hles := hE.out.le
        clear hc hbl hxx hY hy0
        by_cases hneg : x < 0
        · have hx1 : x = -1 := by omega
          subst hx1
          go_wp2_with fail
          refine (appNum_any (w.heap.size + 1) (.slice (some ⟨gi, 0, none⟩) ni ci) Y 4294967295 4 _ (by decide) (by decide) (by decide) (by decide) (by omega) (.inl hE.out.own) hles).mono ?_
          rintro e u ⟨g3, m3, k3, rfl, hk⟩
          have EN : Hid (EncS W0 (w.heap.size + 1) (.slice (some ⟨g3, 0, none⟩) m3 k3) (headP n1 L ++ idsB g (i + 1)) u) := by unfold Hid; rw [HF.out, show idB (-1) = leB 4294967295 4 by rw [idB_neg]; rfl]; exact hE.out.grew (Below.refl _ _) hg0 hk
          clear hk hE p0 p1 p2 hg0 hg1 hles q hx HF
          go_wp2
          go_roundw
          case rel => exact ⟨i + 1, by omega, by go_num, EN⟩
          case measure => simp [intOf]; omega
        · have hx0 : 0 ≤ x := by omega
          have hx4 : x < 40 := by omega
          clear hx hneg
          go_wp2_with fail
          refine (appNum_any (w.heap.size + 1) (.slice (some ⟨gi, 0, none⟩) ni ci) Y x 4 _ hx0 (by omega) (by decide) (by decide) (by omega) (.inl hE.out.own) hles).mono ?_
          rintro e u ⟨g3, m3, k3, rfl, hk⟩
          have EN : Hid (EncS W0 (w.heap.size + 1) (.slice (some ⟨g3, 0, none⟩) m3 k3) (headP n1 L ++ idsB g (i + 1)) u) := by unfold Hid; rw [HF.out, show idB x = leB x 4 by unfold idB; rw [if_neg (by omega)]]; exact hE.out.grew (Below.refl _ _) hg0 hk
          clear hk hE p0 p1 p2 hg0 hg1 hles q hx0 hx4 HF
          go_wp2
          go_roundw
          case rel => exact ⟨i + 1, by omega, by go_num, EN⟩
          case measure => simp [intOf]; omega
      · have hie : n1 = i := by omega
        subst hie
        have HR3 : Hid (RowF wr a3 n3 (boolF h)) := L0.out.pc.r3.later (by rw [S0]; exact hE.out.bel)
        have HG3 : Hid (∀ b off, a3 = some ⟨b, off, none⟩ → n3 ≠ 0 → gi ≠ b) := by
          intro b off e1 e2
          obtain ⟨b', off', e3, e4, _⟩ := HSC.out.r3.resolve_left e2
          rw [e1] at e3
          cases e3
          omega
        clear hy0
        go_wp2_with fail
        refine (appBits_any (w.heap.size + 1) gi ni ci (headP n1 L ++ idsB g n1) a3 n3 c3 h _ (by omega) HR3.out HG3.out (by omega) hE.out.own hE.out.le).mono ?_
        rintro e u ⟨g4, m4, k4, rfl, hk⟩
        have EF : Hid (EncS W0 (w.heap.size + 1) (.slice (some ⟨g4, 0, none⟩) m4 k4) (headP n1 L ++ idsB g n1 ++ litB n3 h ((n3 + 7) / 8)) u) := hE.out.grew (Below.refl _ _) hg0 hk
        clear hk hE p0 p1 p2 hg0 hg1 hyl
        go_wp2
        go_ret
        exact ⟨_, rfl, by rw [HV.out]; exact EF.out.own.up (Nat.le_succ _), L0.out.bel.trans (EF.out.bel.mono (Nat.le_succ _))⟩

end Go.Proofs.YtfcnokagfibgcahGreat
