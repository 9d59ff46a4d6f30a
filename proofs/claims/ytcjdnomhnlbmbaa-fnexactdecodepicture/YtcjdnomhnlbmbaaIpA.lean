/-
  The program's closure that writes a picture's bits.
-/
import Derived.Test.YtcjdnomhnlbmbaaIqDIeN
import Derived.Test.YtcjdnomhnlbmbaaSpPSpQ
namespace Go.Proofs.Ytcjdnomhnlbmbaa
open Go.RowKit

/-- Memory while bits are written: the blocks X, X + 1, X + 2 hold the bytes, the byte that is being filled and how many of its bits are used. -/
structure BtS (W : World) (X base g0 : Nat) (f u : Int) (g n c : Nat) (ys : List Int) (wr : World) : Prop where
  hX : X = W.heap.size
  cO : wr.cell? ⟨X, 0, none⟩ = some (.slice (some ⟨g, 0, none⟩) n c)
  cF : wr.cell? ⟨X + 1, 0, none⟩ = some (.int .u8 f)
  cU : wr.cell? ⟨X + 2, 0, none⟩ = some (.int .i64 u)
  fr : ∀ k, X ≤ k → k < X + 3 → wr.frozen? ⟨k, 0, none⟩ = false
  sz : X + 3 ≤ wr.heap.size
  own : OwnY wr base (.slice (some ⟨g, 0, none⟩) n c) ys
  at_ : g = g0 ∨ X + 3 ≤ g
  grown : W.grownBy wr (some g0)
  lt0 : g0 < X
  bX : base ≤ X

theorem BtS.gne {W : World} {X base g0 : Nat} {f u : Int} {g n c : Nat} {ys : List Int} {wr : World} (h : BtS W X base g0 f u g n c ys wr) {k : Nat} (h1 : X ≤ k) (h2 : k < X + 3) : g ≠ k := by
  have := h.at_
  have := h.lt0
  omega

/-- A store into one of the three blocks. -/
theorem BtS.store {W : World} {X base g0 : Nat} {f u f' u' : Int} {g n c : Nat} {ys : List Int} {wr : World} (h : BtS W X base g0 f u g n c ys wr) {k : Nat} (h1 : X ≤ k) (h2 : k < X + 3) (v : Value)
    (eO : (wr.setCell ⟨k, 0, none⟩ v).cell? ⟨X, 0, none⟩ = some (.slice (some ⟨g, 0, none⟩) n c)) (eF : (wr.setCell ⟨k, 0, none⟩ v).cell? ⟨X + 1, 0, none⟩ = some (.int .u8 f')) (eU : (wr.setCell ⟨k, 0, none⟩ v).cell? ⟨X + 2, 0, none⟩ = some (.int .i64 u')) :
    BtS W X base g0 f' u' g n c ys (wr.setCell ⟨k, 0, none⟩ v) := by
  refine ⟨h.hX, eO, eF, eU, fun j j1 j2 => by rw [World.frozen?_setCell]; exact h.fr j j1 j2, by rw [World.size_setCell]; exact h.sz, ?_, h.at_, ?_, h.lt0, h.bX⟩
  · exact ownsRow_setCell_other h.own (by simp [Value.ownBlock]; exact h.gne h1 h2) v
  · have hb : Within k (k + 1) wr (wr.setCell ⟨k, 0, none⟩ v) := (Within.refl k (k + 1) wr).setCell (p := ⟨k, 0, none⟩) (Nat.le_refl _) (Nat.lt_succ_self _) v
    exact ⟨hb.os.trans h.grown.os, hb.tape.trans h.grown.tape, hb.output.trans h.grown.output, by rw [World.size_setCell]; exact h.grown.size, fun j hj hn => (hb.block j (by have := h.hX; omega)).trans (h.grown.block j hj hn)⟩

theorem BtS.setF {W : World} {X base g0 : Nat} {f u : Int} {g n c : Nat} {ys : List Int} {wr : World} (h : BtS W X base g0 f u g n c ys wr) (f' : Int) : BtS W X base g0 f' u g n c ys (wr.setCell ⟨X + 1, 0, none⟩ (.int .u8 f')) :=
  h.store (by omega) (by omega) _ (by rw [World.cell?_setCell_other _ _ _ _ (by simp)]; exact h.cO) (by rw [World.cell?_setCell_same _ _ _ h.cF]) (by rw [World.cell?_setCell_other _ _ _ _ (by simp)]; exact h.cU)
theorem BtS.setU {W : World} {X base g0 : Nat} {f u : Int} {g n c : Nat} {ys : List Int} {wr : World} (h : BtS W X base g0 f u g n c ys wr) (u' : Int) : BtS W X base g0 f u' g n c ys (wr.setCell ⟨X + 2, 0, none⟩ (.int .i64 u')) :=
  h.store (by omega) (by omega) _ (by rw [World.cell?_setCell_other _ _ _ _ (by simp)]; exact h.cO) (by rw [World.cell?_setCell_other _ _ _ _ (by simp)]; exact h.cF) (by rw [World.cell?_setCell_same _ _ _ h.cU])

/-- A byte is full: it goes behind the others. -/
theorem BtS.flush {W : World} {X base g0 : Nat} {f u : Int} {g n c g' n' c' : Nat} {ys ys' : List Int} {wr w2 : World} (h : BtS W X base g0 f u g n c ys wr) (k : GrewY wr base (some g) g' ys' n' c' w2) :
    BtS W X base g0 f u g' n' c' ys' (w2.setCell ⟨X, 0, none⟩ (.slice (some ⟨g', 0, none⟩) n' c')) := by
  have key : ∀ j, X ≤ j → j < X + 3 → w2.cell? ⟨j, 0, none⟩ = wr.cell? ⟨j, 0, none⟩ ∧ w2.frozen? ⟨j, 0, none⟩ = wr.frozen? ⟨j, 0, none⟩ := by
    intro j h1 h2
    have hne : some j ≠ some g := fun e => h.gne h1 h2 (Option.some.inj e).symm
    have hlt : j < wr.heap.size := by have := h.sz; omega
    exact ⟨k.grown.cell_far ⟨j, 0, none⟩ hlt hne, k.grown.frozen_far ⟨j, 0, none⟩ hlt hne⟩
  have hat : g' = g0 ∨ X + 3 ≤ g' := by
    rcases k.at_ with h1 | h1
    · have := Option.some.inj h1
      subst this
      exact h.at_
    · have := h.sz
      omega
  have hgn : g' ≠ X := by have := h.lt0; omega
  refine ⟨h.hX, ?_, ?_, ?_, fun j h1 h2 => by rw [World.frozen?_setCell, (key j h1 h2).2]; exact h.fr j h1 h2, by rw [World.size_setCell]; exact Nat.le_trans h.sz k.grown.size, ?_, hat, ?_, h.lt0, h.bX⟩
  · exact World.cell?_setCell_same _ _ _ ((key X (by omega) (by omega)).1.trans h.cO)
  · rw [World.cell?_setCell_other _ _ _ _ (by simp)]; exact (key (X + 1) (by omega) (by omega)).1.trans h.cF
  · rw [World.cell?_setCell_other _ _ _ _ (by simp)]; exact (key (X + 2) (by omega) (by omega)).1.trans h.cU
  · exact ownsRow_setCell_other k.own (by simp [Value.ownBlock]; exact hgn) _
  · have hb : Within X (X + 1) w2 (w2.setCell ⟨X, 0, none⟩ (.slice (some ⟨g', 0, none⟩) n' c')) := (Within.refl X (X + 1) w2).setCell (p := ⟨X, 0, none⟩) (Nat.le_refl _) (Nat.lt_succ_self _) _
    have hg : W.grownBy w2 (some g0) := gb_trans h.grown k.grown (fun j hj => by
      cases hj
      rcases h.at_ with h1 | h1
      · subst h1; exact .inl rfl
      · have := h.hX; omega)
    exact ⟨hb.os.trans hg.os, hb.tape.trans hg.tape, hb.output.trans hg.output, by rw [World.size_setCell]; exact hg.size, fun j hj hn => (hb.block j (by have := h.hX; omega)).trans (hg.block j hj hn)⟩

theorem BtS.drew {W : World} {X base g0 : Nat} {f u : Int} {g n c : Nat} {ys : List Int} {wr : World} (h : BtS W X base g0 f u g n c ys wr) : BtS W X base g0 f u g n c ys wr.drew :=
  ⟨h.hX, h.cO, h.cF, h.cU, h.fr, h.sz, h.own, h.at_, ⟨h.grown.os, h.grown.tape, h.grown.output, h.grown.size, h.grown.block⟩, h.lt0, h.bX⟩
theorem BtS.keep {W : World} {X base g0 : Nat} {f u : Int} {g n c g' n' c' : Nat} {ys ys' : List Int} {wr w2 : World} (h : BtS W X base g0 f u g n c ys wr) (k : GrewY wr base (some g) g' ys' n' c' w2) :
    w2.cell? ⟨X, 0, none⟩ = some (.slice (some ⟨g, 0, none⟩) n c) ∧ w2.cell? ⟨X + 1, 0, none⟩ = some (.int .u8 f) ∧ w2.cell? ⟨X + 2, 0, none⟩ = some (.int .i64 u) ∧ w2.frozen? ⟨X, 0, none⟩ = false ∧ w2.frozen? ⟨X + 1, 0, none⟩ = false ∧ w2.frozen? ⟨X + 2, 0, none⟩ = false := by
  have key : ∀ j, X ≤ j → j < X + 3 → w2.cell? ⟨j, 0, none⟩ = wr.cell? ⟨j, 0, none⟩ ∧ w2.frozen? ⟨j, 0, none⟩ = wr.frozen? ⟨j, 0, none⟩ := by
    intro j h1 h2
    have hne : some j ≠ some g := fun e => h.gne h1 h2 (Option.some.inj e).symm
    have hlt : j < wr.heap.size := by have := h.sz; omega
    exact ⟨k.grown.cell_far ⟨j, 0, none⟩ hlt hne, k.grown.frozen_far ⟨j, 0, none⟩ hlt hne⟩
  exact ⟨(key X (by omega) (by omega)).1.trans h.cO, (key (X + 1) (by omega) (by omega)).1.trans h.cF, (key (X + 2) (by omega) (by omega)).1.trans h.cU, (key X (by omega) (by omega)).2.trans (h.fr _ (by omega) (by omega)), (key (X + 1) (by omega) (by omega)).2.trans (h.fr _ (by omega) (by omega)), (key (X + 2) (by omega) (by omega)).2.trans (h.fr _ (by omega) (by omega))⟩
/-- 'append(s, x)' of one byte, behind a region that drew. -/
theorem app1Yd {x0 : Int} {w0 : World} {ops : Array Oper} {rest : List Oper} {o : Oper} {ac : Act} {Q : Exit → Act → World → Prop} (hgd : o.guard = none) (s x : Operand)
    (ho : o.op = .call { callee := .builtin .append, args := #[s, x], argTypes := #[22, 22] })
    (base : Nat) (sv : Value) (ys : List Int) (hs : ac.eval s = sv) (hx : ac.eval x = .slice (some ⟨w0.drew.heap.size, 0, none⟩) 1 1) (hst : StartY w0.drew base sv ys) (hn : ys.length ≤ 1500000) (hbase : base ≤ w0.heap.size)
    (h : ∀ g n' c' w', GrewY w0.drew base sv.ownBlock g (ys ++ [x0]) n' c' w' → wpList Try.prog ops Q rest (ac.put o.dst (.slice (some ⟨g, 0, none⟩) n' c')) w') :
    wpList Try.prog ops Q (o :: rest) ac (w0.alloc (.cells #[.int .u8 x0] 5)).drew :=
  app1Y (w0 := w0.drew) hgd s x ho base sv ys hs hx hst hn hbase h
theorem BtS.val {W : World} {X base g0 : Nat} {f u f' : Int} {g n c : Nat} {ys : List Int} {wr : World} (h : BtS W X base g0 f u g n c ys wr) (e : f = f') : BtS W X base g0 f' u g n c ys wr := e ▸ h

/-- What a bit does. -/
def PutOut (W : World) (X base g0 : Nat) (f : Int) (u : Nat) (ys : List Int) (e : Ending) (w' : World) : Prop := e = .returned (.tuple #[]) ∧ ∃ g n c, BtS W X base g0 f u g n c ys w'

theorem or_bit8 {f p : Int} (u : Nat) (hp : p = 2 ^ u) (h0 : 0 ≤ f) (h1 : f < p) (hu : u < 8) : bits .or .u8 f p = f + p := by
  subst hp
  obtain ⟨m, rfl⟩ := Int.eq_ofNat_of_zero_le h0
  have hm : m < 2 ^ u := by exact_mod_cast h1
  have hu8 : 2 ^ u ≤ 128 := Nat.pow_le_pow_right (by decide) (show u ≤ 7 by omega)
  have e1 : m ||| 2 ^ u = 2 ^ u + m := by
    have := Nat.two_pow_add_eq_or_of_lt hm 1
    rw [Nat.mul_one] at this
    rw [Nat.or_comm, this]
  have e2 : (BitVec.ofInt 8 (m : Int) ||| BitVec.ofInt 8 ((2 ^ u : Nat) : Int)).toNat = m ||| 2 ^ u := by
    rw [BitVec.toNat_or, BitVec.ofInt_natCast, BitVec.toNat_ofNat, BitVec.ofInt_natCast, BitVec.toNat_ofNat, Nat.mod_eq_of_lt (by omega), Nat.mod_eq_of_lt (by omega)]
  have e3 : ((2 : Int) ^ u) = ((2 ^ u : Nat) : Int) := by push_cast; rfl
  rw [e3]
  show IntKind.u8.wrap ((BitVec.ofInt 8 (m : Int) ||| BitVec.ofInt 8 ((2 ^ u : Nat) : Int)).toNat : Int) = _
  rw [e2, e1]
  simp only [IntKind.wrap, IntKind.bits, IntKind.signed]
  simp
  omega

set_option maxRecDepth 100000 in
set_option maxHeartbeats 1000000 in
theorem put_true0 (W : World) (X base g0 : Nat) (f : Int) (g n c : Nat) (ys : List Int) (w : World) (h0 : 0 ≤ f) (h1 : f < 1) (hs : BtS W X base g0 f 0 g n c ys w) :
    Calls Try.prog 85 #[.bool true, .pointer (some ⟨X + 1, 0, none⟩), .pointer (some ⟨X + 2, 0, none⟩), .pointer (some ⟨X, 0, none⟩)] w fun e w' => PutOut W X base g0 (f + 1) 1 ys e w' := by
  have HS : Hid (BtS W X base g0 f 0 g n c ys w) := hs
  have cF := hs.cF
  have f1 := hs.fr (X + 1) (by omega) (by omega)
  have cU := hs.cU
  have f2 := hs.fr (X + 2) (by omega) (by omega)
  have ho : Hid (bits .or .u8 f 1 = f + 1) := or_bit8 0 (by decide) h0 h1 (by decide)
  clear hs h1
  go_enter Try.func85, Try.ntmps85
  go_wp2
  go_region
  go_wp2
  go_end0
  refine ⟨rfl, _, _, _, ((((HS.out.setF _).setU 1).drew).val ho.out)⟩

set_option maxRecDepth 100000 in
set_option maxHeartbeats 1000000 in
theorem put_true1 (W : World) (X base g0 : Nat) (f : Int) (g n c : Nat) (ys : List Int) (w : World) (h0 : 0 ≤ f) (h1 : f < 2) (hs : BtS W X base g0 f 1 g n c ys w) :
    Calls Try.prog 85 #[.bool true, .pointer (some ⟨X + 1, 0, none⟩), .pointer (some ⟨X + 2, 0, none⟩), .pointer (some ⟨X, 0, none⟩)] w fun e w' => PutOut W X base g0 (f + 2) 2 ys e w' := by
  have HS : Hid (BtS W X base g0 f 1 g n c ys w) := hs
  have cF := hs.cF
  have f1 := hs.fr (X + 1) (by omega) (by omega)
  have cU := hs.cU
  have f2 := hs.fr (X + 2) (by omega) (by omega)
  have ho : Hid (bits .or .u8 f 2 = f + 2) := or_bit8 1 (by decide) h0 h1 (by decide)
  clear hs h1
  go_enter Try.func85, Try.ntmps85
  go_wp2
  go_region
  go_wp2
  go_end0
  refine ⟨rfl, _, _, _, ((((HS.out.setF _).setU 2).drew).val ho.out)⟩

set_option maxRecDepth 100000 in
set_option maxHeartbeats 1000000 in
theorem put_true2 (W : World) (X base g0 : Nat) (f : Int) (g n c : Nat) (ys : List Int) (w : World) (h0 : 0 ≤ f) (h1 : f < 4) (hs : BtS W X base g0 f 2 g n c ys w) :
    Calls Try.prog 85 #[.bool true, .pointer (some ⟨X + 1, 0, none⟩), .pointer (some ⟨X + 2, 0, none⟩), .pointer (some ⟨X, 0, none⟩)] w fun e w' => PutOut W X base g0 (f + 4) 3 ys e w' := by
  have HS : Hid (BtS W X base g0 f 2 g n c ys w) := hs
  have cF := hs.cF
  have f1 := hs.fr (X + 1) (by omega) (by omega)
  have cU := hs.cU
  have f2 := hs.fr (X + 2) (by omega) (by omega)
  have ho : Hid (bits .or .u8 f 4 = f + 4) := or_bit8 2 (by decide) h0 h1 (by decide)
  clear hs h1
  go_enter Try.func85, Try.ntmps85
  go_wp2
  go_region
  go_wp2
  go_end0
  refine ⟨rfl, _, _, _, ((((HS.out.setF _).setU 3).drew).val ho.out)⟩

set_option maxRecDepth 100000 in
set_option maxHeartbeats 1000000 in
theorem put_true3 (W : World) (X base g0 : Nat) (f : Int) (g n c : Nat) (ys : List Int) (w : World) (h0 : 0 ≤ f) (h1 : f < 8) (hs : BtS W X base g0 f 3 g n c ys w) :
    Calls Try.prog 85 #[.bool true, .pointer (some ⟨X + 1, 0, none⟩), .pointer (some ⟨X + 2, 0, none⟩), .pointer (some ⟨X, 0, none⟩)] w fun e w' => PutOut W X base g0 (f + 8) 4 ys e w' := by
  have HS : Hid (BtS W X base g0 f 3 g n c ys w) := hs
  have cF := hs.cF
  have f1 := hs.fr (X + 1) (by omega) (by omega)
  have cU := hs.cU
  have f2 := hs.fr (X + 2) (by omega) (by omega)
  have ho : Hid (bits .or .u8 f 8 = f + 8) := or_bit8 3 (by decide) h0 h1 (by decide)
  clear hs h1
  go_enter Try.func85, Try.ntmps85
  go_wp2
  go_region
  go_wp2
  go_end0
  refine ⟨rfl, _, _, _, ((((HS.out.setF _).setU 4).drew).val ho.out)⟩

set_option maxRecDepth 100000 in
set_option maxHeartbeats 1000000 in
theorem put_true4 (W : World) (X base g0 : Nat) (f : Int) (g n c : Nat) (ys : List Int) (w : World) (h0 : 0 ≤ f) (h1 : f < 16) (hs : BtS W X base g0 f 4 g n c ys w) :
    Calls Try.prog 85 #[.bool true, .pointer (some ⟨X + 1, 0, none⟩), .pointer (some ⟨X + 2, 0, none⟩), .pointer (some ⟨X, 0, none⟩)] w fun e w' => PutOut W X base g0 (f + 16) 5 ys e w' := by
  have HS : Hid (BtS W X base g0 f 4 g n c ys w) := hs
  have cF := hs.cF
  have f1 := hs.fr (X + 1) (by omega) (by omega)
  have cU := hs.cU
  have f2 := hs.fr (X + 2) (by omega) (by omega)
  have ho : Hid (bits .or .u8 f 16 = f + 16) := or_bit8 4 (by decide) h0 h1 (by decide)
  clear hs h1
  go_enter Try.func85, Try.ntmps85
  go_wp2
  go_region
  go_wp2
  go_end0
  refine ⟨rfl, _, _, _, ((((HS.out.setF _).setU 5).drew).val ho.out)⟩

set_option maxRecDepth 100000 in
set_option maxHeartbeats 1000000 in
theorem put_true5 (W : World) (X base g0 : Nat) (f : Int) (g n c : Nat) (ys : List Int) (w : World) (h0 : 0 ≤ f) (h1 : f < 32) (hs : BtS W X base g0 f 5 g n c ys w) :
    Calls Try.prog 85 #[.bool true, .pointer (some ⟨X + 1, 0, none⟩), .pointer (some ⟨X + 2, 0, none⟩), .pointer (some ⟨X, 0, none⟩)] w fun e w' => PutOut W X base g0 (f + 32) 6 ys e w' := by
  have HS : Hid (BtS W X base g0 f 5 g n c ys w) := hs
  have cF := hs.cF
  have f1 := hs.fr (X + 1) (by omega) (by omega)
  have cU := hs.cU
  have f2 := hs.fr (X + 2) (by omega) (by omega)
  have ho : Hid (bits .or .u8 f 32 = f + 32) := or_bit8 5 (by decide) h0 h1 (by decide)
  clear hs h1
  go_enter Try.func85, Try.ntmps85
  go_wp2
  go_region
  go_wp2
  go_end0
  refine ⟨rfl, _, _, _, ((((HS.out.setF _).setU 6).drew).val ho.out)⟩

set_option maxRecDepth 100000 in
set_option maxHeartbeats 1000000 in
theorem put_true6 (W : World) (X base g0 : Nat) (f : Int) (g n c : Nat) (ys : List Int) (w : World) (h0 : 0 ≤ f) (h1 : f < 64) (hs : BtS W X base g0 f 6 g n c ys w) :
    Calls Try.prog 85 #[.bool true, .pointer (some ⟨X + 1, 0, none⟩), .pointer (some ⟨X + 2, 0, none⟩), .pointer (some ⟨X, 0, none⟩)] w fun e w' => PutOut W X base g0 (f + 64) 7 ys e w' := by
  have HS : Hid (BtS W X base g0 f 6 g n c ys w) := hs
  have cF := hs.cF
  have f1 := hs.fr (X + 1) (by omega) (by omega)
  have cU := hs.cU
  have f2 := hs.fr (X + 2) (by omega) (by omega)
  have ho : Hid (bits .or .u8 f 64 = f + 64) := or_bit8 6 (by decide) h0 h1 (by decide)
  clear hs h1
  go_enter Try.func85, Try.ntmps85
  go_wp2
  go_region
  go_wp2
  go_end0
  refine ⟨rfl, _, _, _, ((((HS.out.setF _).setU 7).drew).val ho.out)⟩

set_option maxRecDepth 100000 in
set_option maxHeartbeats 1000000 in
theorem put_true7 (W : World) (X base g0 : Nat) (f : Int) (g n c : Nat) (ys : List Int) (w : World) (h0 : 0 ≤ f) (h1 : f < 128) (hy : ys.length ≤ 1000000) (hs : BtS W X base g0 f 7 g n c ys w) :
    Calls Try.prog 85 #[.bool true, .pointer (some ⟨X + 1, 0, none⟩), .pointer (some ⟨X + 2, 0, none⟩), .pointer (some ⟨X, 0, none⟩)] w fun e w' => PutOut W X base g0 0 0 (ys ++ [(f + 128)]) e w' := by
  have HS : Hid (BtS W X base g0 f 7 g n c ys w) := hs
  have cO := hs.cO
  have f0 := hs.fr X (by omega) (by omega)
  have cF := hs.cF
  have f1 := hs.fr (X + 1) (by omega) (by omega)
  have cU := hs.cU
  have f2 := hs.fr (X + 2) (by omega) (by omega)
  have ho : Hid (bits .or .u8 f 128 = f + 128) := or_bit8 7 (by decide) h0 h1 (by decide)
  clear hs h1
  go_enter Try.func85, Try.ntmps85
  go_wp2
  go_region
  have HB1 : Hid (BtS W X base g0 (bits .or .u8 f 128) 8 g n c ys ((w.setCell ⟨X + 1, 0, none⟩ (.int .u8 (bits .or .u8 f 128))).setCell ⟨X + 2, 0, none⟩ (.int .i64 8)).drew) := ((HS.out.setF (bits .or .u8 f 128)).setU 8).drew
  have hz := HB1.out.sz
  have hbx := HB1.out.bX
  go_wp2_with (at_builtin; refine app1Yd rfl (.tmp 14) (.tmp 16) rfl base _ ys rfl (by simp; rfl) (.inl HB1.out.own) (by omega) (by simp at hz ⊢; omega) ?_; intro g1 n1 c1 w1 hk1; obtain ⟨d0, d1, d2, e0, e1, e2⟩ := HB1.out.keep hk1)
  have HB2 : Hid (BtS W X base g0 0 0 g1 n1 c1 (ys ++ [f + 128]) (((w1.setCell ⟨X, 0, none⟩ (.slice (some ⟨g1, 0, none⟩) n1 c1)).setCell ⟨X + 1, 0, none⟩ (.int .u8 0)).setCell ⟨X + 2, 0, none⟩ (.int .i64 0))) := by
    have h1 := HB1.out.flush (hk1.re (by rw [ho.out]))
    exact (h1.setF 0).setU 0
  clear hk1 HB1 HS hz hbx
  go_wp2
  go_end0
  exact ⟨rfl, _, _, _, HB2.out⟩

set_option maxRecDepth 100000 in
set_option maxHeartbeats 1000000 in
theorem put_false0 (W : World) (X base g0 : Nat) (f : Int) (g n c : Nat) (ys : List Int) (w : World) (hs : BtS W X base g0 f 0 g n c ys w) :
    Calls Try.prog 85 #[.bool false, .pointer (some ⟨X + 1, 0, none⟩), .pointer (some ⟨X + 2, 0, none⟩), .pointer (some ⟨X, 0, none⟩)] w fun e w' => PutOut W X base g0 f 1 ys e w' := by
  have HS : Hid (BtS W X base g0 f 0 g n c ys w) := hs
  have cU := hs.cU
  have f2 := hs.fr (X + 2) (by omega) (by omega)
  clear hs
  go_enter Try.func85, Try.ntmps85
  go_wp2
  go_end0
  exact ⟨rfl, _, _, _, HS.out.setU 1⟩

set_option maxRecDepth 100000 in
set_option maxHeartbeats 1000000 in
theorem put_false1 (W : World) (X base g0 : Nat) (f : Int) (g n c : Nat) (ys : List Int) (w : World) (hs : BtS W X base g0 f 1 g n c ys w) :
    Calls Try.prog 85 #[.bool false, .pointer (some ⟨X + 1, 0, none⟩), .pointer (some ⟨X + 2, 0, none⟩), .pointer (some ⟨X, 0, none⟩)] w fun e w' => PutOut W X base g0 f 2 ys e w' := by
  have HS : Hid (BtS W X base g0 f 1 g n c ys w) := hs
  have cU := hs.cU
  have f2 := hs.fr (X + 2) (by omega) (by omega)
  clear hs
  go_enter Try.func85, Try.ntmps85
  go_wp2
  go_end0
  exact ⟨rfl, _, _, _, HS.out.setU 2⟩

set_option maxRecDepth 100000 in
set_option maxHeartbeats 1000000 in
theorem put_false2 (W : World) (X base g0 : Nat) (f : Int) (g n c : Nat) (ys : List Int) (w : World) (hs : BtS W X base g0 f 2 g n c ys w) :
    Calls Try.prog 85 #[.bool false, .pointer (some ⟨X + 1, 0, none⟩), .pointer (some ⟨X + 2, 0, none⟩), .pointer (some ⟨X, 0, none⟩)] w fun e w' => PutOut W X base g0 f 3 ys e w' := by
  have HS : Hid (BtS W X base g0 f 2 g n c ys w) := hs
  have cU := hs.cU
  have f2 := hs.fr (X + 2) (by omega) (by omega)
  clear hs
  go_enter Try.func85, Try.ntmps85
  go_wp2
  go_end0
  exact ⟨rfl, _, _, _, HS.out.setU 3⟩

set_option maxRecDepth 100000 in
set_option maxHeartbeats 1000000 in
theorem put_false3 (W : World) (X base g0 : Nat) (f : Int) (g n c : Nat) (ys : List Int) (w : World) (hs : BtS W X base g0 f 3 g n c ys w) :
    Calls Try.prog 85 #[.bool false, .pointer (some ⟨X + 1, 0, none⟩), .pointer (some ⟨X + 2, 0, none⟩), .pointer (some ⟨X, 0, none⟩)] w fun e w' => PutOut W X base g0 f 4 ys e w' := by
  have HS : Hid (BtS W X base g0 f 3 g n c ys w) := hs
  have cU := hs.cU
  have f2 := hs.fr (X + 2) (by omega) (by omega)
  clear hs
  go_enter Try.func85, Try.ntmps85
  go_wp2
  go_end0
  exact ⟨rfl, _, _, _, HS.out.setU 4⟩

set_option maxRecDepth 100000 in
set_option maxHeartbeats 1000000 in
theorem put_false4 (W : World) (X base g0 : Nat) (f : Int) (g n c : Nat) (ys : List Int) (w : World) (hs : BtS W X base g0 f 4 g n c ys w) :
    Calls Try.prog 85 #[.bool false, .pointer (some ⟨X + 1, 0, none⟩), .pointer (some ⟨X + 2, 0, none⟩), .pointer (some ⟨X, 0, none⟩)] w fun e w' => PutOut W X base g0 f 5 ys e w' := by
  have HS : Hid (BtS W X base g0 f 4 g n c ys w) := hs
  have cU := hs.cU
  have f2 := hs.fr (X + 2) (by omega) (by omega)
  clear hs
  go_enter Try.func85, Try.ntmps85
  go_wp2
  go_end0
  exact ⟨rfl, _, _, _, HS.out.setU 5⟩

set_option maxRecDepth 100000 in
set_option maxHeartbeats 1000000 in
theorem put_false5 (W : World) (X base g0 : Nat) (f : Int) (g n c : Nat) (ys : List Int) (w : World) (hs : BtS W X base g0 f 5 g n c ys w) :
    Calls Try.prog 85 #[.bool false, .pointer (some ⟨X + 1, 0, none⟩), .pointer (some ⟨X + 2, 0, none⟩), .pointer (some ⟨X, 0, none⟩)] w fun e w' => PutOut W X base g0 f 6 ys e w' := by
  have HS : Hid (BtS W X base g0 f 5 g n c ys w) := hs
  have cU := hs.cU
  have f2 := hs.fr (X + 2) (by omega) (by omega)
  clear hs
  go_enter Try.func85, Try.ntmps85
  go_wp2
  go_end0
  exact ⟨rfl, _, _, _, HS.out.setU 6⟩

set_option maxRecDepth 100000 in
set_option maxHeartbeats 1000000 in
theorem put_false6 (W : World) (X base g0 : Nat) (f : Int) (g n c : Nat) (ys : List Int) (w : World) (hs : BtS W X base g0 f 6 g n c ys w) :
    Calls Try.prog 85 #[.bool false, .pointer (some ⟨X + 1, 0, none⟩), .pointer (some ⟨X + 2, 0, none⟩), .pointer (some ⟨X, 0, none⟩)] w fun e w' => PutOut W X base g0 f 7 ys e w' := by
  have HS : Hid (BtS W X base g0 f 6 g n c ys w) := hs
  have cU := hs.cU
  have f2 := hs.fr (X + 2) (by omega) (by omega)
  clear hs
  go_enter Try.func85, Try.ntmps85
  go_wp2
  go_end0
  exact ⟨rfl, _, _, _, HS.out.setU 7⟩

set_option maxRecDepth 100000 in
set_option maxHeartbeats 1000000 in
theorem put_false7 (W : World) (X base g0 : Nat) (f : Int) (g n c : Nat) (ys : List Int) (w : World) (hy : ys.length ≤ 1000000) (hs : BtS W X base g0 f 7 g n c ys w) :
    Calls Try.prog 85 #[.bool false, .pointer (some ⟨X + 1, 0, none⟩), .pointer (some ⟨X + 2, 0, none⟩), .pointer (some ⟨X, 0, none⟩)] w fun e w' => PutOut W X base g0 0 0 (ys ++ [f]) e w' := by
  have HS : Hid (BtS W X base g0 f 7 g n c ys w) := hs
  have cO := hs.cO
  have f0 := hs.fr X (by omega) (by omega)
  have cF := hs.cF
  have f1 := hs.fr (X + 1) (by omega) (by omega)
  have cU := hs.cU
  have f2 := hs.fr (X + 2) (by omega) (by omega)
  clear hs
  go_enter Try.func85, Try.ntmps85
  have HB1 : Hid (BtS W X base g0 f 8 g n c ys (w.setCell ⟨X + 2, 0, none⟩ (.int .i64 8))) := HS.out.setU 8
  have hz := HB1.out.sz
  have hbx := HB1.out.bX
  go_wp2_with (at_builtin; refine app1Y rfl (.tmp 14) (.tmp 16) rfl base _ ys rfl (by simp; rfl) (.inl HB1.out.own) (by omega) (by simp at hz ⊢; omega) ?_; intro g1 n1 c1 w1 hk1; obtain ⟨d0, d1, d2, e0, e1, e2⟩ := HB1.out.keep hk1)
  have HB2 : Hid (BtS W X base g0 0 0 g1 n1 c1 (ys ++ [f]) (((w1.setCell ⟨X, 0, none⟩ (.slice (some ⟨g1, 0, none⟩) n1 c1)).setCell ⟨X + 1, 0, none⟩ (.int .u8 0)).setCell ⟨X + 2, 0, none⟩ (.int .i64 0))) := ((HB1.out.flush hk1).setF 0).setU 0
  clear hk1 HB1 HS hz hbx
  go_wp2
  go_end0
  exact ⟨rfl, _, _, _, HB2.out⟩

end Go.Proofs.Ytcjdnomhnlbmbaa
