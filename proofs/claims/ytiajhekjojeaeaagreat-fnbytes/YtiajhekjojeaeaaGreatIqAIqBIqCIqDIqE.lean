/-
  The program's reader: id, several ids, bits.
-/
import Derived.Test.YtiajhekjojeaeaaGreatIdF
import Derived.Test.YtiajhekjojeaeaaGreatIdGBdGBdH
import Derived.Test.YtiajhekjojeaeaaGreatSpR
import Derived.Test.YtiajhekjojeaeaaGreatIdIIdJIdK
import Derived.Defers
import Derived.Recover
import Derived.Test.YtiajhekjojeaeaaGreatIpALawEpIpBIpC
import Derived.Test.YtiajhekjojeaeaaGreatSpQToBdP
namespace Go.Proofs.YtiajhekjojeaeaaGreat
open Go.RowKit

/-- A number of 32 bits, with a sign. -/
def sgn32 (v : Int) : Int := if v < 2147483648 then v else v - 4294967296
def shF (bs : List Int) (i size : Nat) : Option (Int × Int) := if bs.length < i + size then some (5, bs.length) else none

theorem shF_ok {bs : List Int} {i size : Nat} (h : shF bs i size = none) : i + size ≤ bs.length := by
  unfold shF at h
  by_cases h1 : bs.length < i + size
  · rw [if_pos h1] at h; cases h
  · omega
theorem shF_bad {bs : List Int} {i size : Nat} {x : Int × Int} (h : shF bs i size = some x) : bs.length < i + size ∧ x = (5, (bs.length : Int)) := by
  unfold shF at h
  by_cases h1 : bs.length < i + size
  · rw [if_pos h1] at h; cases h; exact ⟨h1, rfl⟩
  · rw [if_neg h1] at h; cases h

set_option maxHeartbeats 400000 in
theorem id_ok (R b off c : Nat) (bs : List Int) (i : Nat) (w : World) (hu : U8 bs) (hx : shF bs i 4 = none) (h : RdB w R b off c bs i) :
    Calls Tryz.prog 71 #[.pointer (some ⟨R, 0, none⟩)] w fun e w' => ReadOut w R b off c bs (i + 4) (.int .i64 (sgn32 (numB bs i 4))) e w' := by
  have hs := shF_ok hx
  have HH : Hid (RdB w R b off c bs i) := h
  have HR := numB_range hu i 4 (by decide)
  have h0 := numB_full hu (by decide) hs
  have HU : Hid (U8 bs) := hu
  clear h hx hu
  go_enter Tryz.func71, Tryz.ntmps71
  go_wp2_with fail
  refine (number_ok R b off c bs i 4 _ HU.out (by decide) hs HH.out).mono ?_
  rintro e V ⟨rfl, hrd, has⟩
  have HD : Hid (RdB V R b off c bs (i + 4) ∧ Aside R w V) := ⟨hrd, has⟩
  clear hrd has
  obtain ⟨N, hN⟩ : ∃ N, N = numB bs i 4 := ⟨_, rfl⟩
  rw [← hN] at HR h0 ⊢
  have HN : Hid (N = numB bs i 4) := hN
  clear hN
  by_cases hb : N < 2147483648
  · have HV : Hid (sgn32 (numB bs i 4) = N) := by unfold Hid sgn32; rw [← HN.out, if_pos hb]
    go_wp2
    go_ret
    exact ⟨by rw [HV.out]; rfl, HD.out.1, HD.out.2⟩
  · have HV : Hid (sgn32 (numB bs i 4) = N - 4294967296) := by unfold Hid sgn32; rw [← HN.out, if_neg hb]
    go_wp2
    go_ret
    have h32 : wrap32 N = N - 4294967296 := by unfold wrap32; omega
    have h64 : wrap64 (N - 4294967296) = N - 4294967296 := by unfold wrap64; omega
    refine ⟨?_, HD.out.1, HD.out.2⟩
    rw [HV.out]
    show Ending.returned (.int .i64 (wrap64 (wrap32 N))) = _
    rw [h32, h64]

set_option maxHeartbeats 400000 in
theorem id_bad (R b off c : Nat) (bs : List Int) (i : Nat) (x : Int × Int) (w : World) (hx : shF bs i 4 = some x) (h : RdB w R b off c bs i) :
    Calls Tryz.prog 71 #[.pointer (some ⟨R, 0, none⟩)] w fun e w' => ThrowOut w R x e w' := by
  obtain ⟨hs, rfl⟩ := shF_bad hx
  go_enter Tryz.func71, Tryz.ntmps71
  go_wp2_with fail
  refine (number_short R b off c bs i 4 _ hs h).mono ?_
  rintro e V ⟨rfl, has⟩
  exact ⟨rfl, rfl, has⟩

/-- Numbers with signs, at a place. -/
def idL (bs : List Int) (i0 n : Nat) : List Int := (List.range n).map fun t => sgn32 (numB bs (i0 + 4 * t) 4)
theorem idL_succ (bs : List Int) (i0 n : Nat) : idL bs i0 (n + 1) = idL bs i0 n ++ [sgn32 (numB bs (i0 + 4 * n) 4)] := by
  unfold idL
  rw [List.range_succ, List.map_append]
  rfl
theorem idL_length (bs : List Int) (i0 n : Nat) : (idL bs i0 n).length = n := by simp [idL]

structure IntS (w : World) (R b off c : Nat) (bs : List Int) (i0 j : Nat) (so : Value) (wr : World) : Prop where
  own : wr.ownsRow w.heap.size 3 1 so (idL bs i0 j).length (vals .i64 (idL bs i0 j))
  rd : RdB wr R b off c bs (i0 + 4 * j)
  asd : Aside R w wr
def IntOut (w : World) (R b off c : Nat) (bs : List Int) (i0 n : Nat) (e : Ending) (w' : World) : Prop :=
  (firstF (fun j => shF bs (i0 + 4 * j) 4) n = none ∧ ∃ v, e = .returned v ∧ IntS w R b off c bs i0 n v w') ∨ ∃ x, firstF (fun j => shF bs (i0 + 4 * j) 4) n = some x ∧ ThrowOut w R x e w'

set_option maxRecDepth 100000 in
set_option maxHeartbeats 1000000 in
theorem several_int (R b off c : Nat) (bs : List Int) (i0 n : Nat) (w : World) (hu : U8 bs) (hn : n ≤ 1000) (hb : b < w.heap.size) (h : RdB w R b off c bs i0) :
    Calls Tryz.prog 70 #[.int .i64 n, .func (Fn.func 71) #[.pointer (some ⟨R, 0, none⟩)] #[]] w fun e w' => IntOut w R b off c bs i0 n e w' := by
  have HU : Hid (U8 bs) := hu
  have HH : Hid (RdB w R b off c bs i0) := h
  have HR : Hid (R < w.heap.size) := h.lt
  have HB : Hid (b < w.heap.size) := hb
  clear hu h hb
  go_enter Tryz.func70, Tryz.ntmps70
  go_wp2
  go_loopw [5, 7] (fun so si wr => ∃ (j : Nat), j ≤ n ∧ si = .int .i64 j ∧ Hid (firstF (fun j => shF bs (i0 + 4 * j) 4) j = none) ∧ Hid (IntS w R b off c bs i0 j so wr)) (fun _ si _ => n - (intOf si).toNat)
  case atStart => exact ⟨0, Nat.zero_le _, rfl, rfl, ⟨own_nil _ _ _ _, HH.out, Aside.refl _ _⟩⟩
  case round =>
    obtain ⟨j, hj, rfl, hA, hS⟩ := hrel
    by_cases hlt : j < n
    · have hib : (j : Int) < n := by omega
      cases hF : shF bs (i0 + 4 * j) 4 with
      | none =>
        have HN : Hid (firstF (fun j => shF bs (i0 + 4 * j) 4) (j + 1) = none) := firstF_succ hA.out hF
        have HF : Hid (shF bs (i0 + 4 * j) 4 = none) := hF
        have HE : Hid (idL bs i0 (j + 1) = idL bs i0 j ++ [sgn32 (numB bs (i0 + 4 * j) 4)]) := idL_succ bs i0 j
        have hl : (idL bs i0 j).length ≤ 8388608 := by rw [idL_length]; omega
        clear hF
        go_wp2_with fail
        refine (id_ok R b off c bs (i0 + 4 * j) _ HU.out HF.out hS.out.rd).mono ?_
        rintro e V ⟨rfl, hrd, has⟩
        have HV : Hid (RdB V R b off c bs (i0 + 4 * (j + 1)) ∧ Aside R wr V) := ⟨hrd, has⟩
        have HO : Hid (V.ownsRow w.heap.size 3 1 u5 (idL bs i0 j).length (vals .i64 (idL bs i0 j))) := aside_ownk has hS.out.own HR.out
        have hsz : w.heap.size ≤ V.heap.size := Nat.le_trans hS.out.asd.size has.size
        obtain ⟨y, hy⟩ : ∃ y, y = sgn32 (numB bs (i0 + 4 * j) 4) := ⟨_, rfl⟩
        rw [← hy] at HE ⊢
        clear hrd has HF hy
        go_wp2_with (at_builtin; refine app1 rfl (.tmp 9) (.tmp 12) 36 rfl w.heap.size 3 Tryz.underlying36 Tryz.info3 (by decide) _ _ rfl rfl HO.out hl hsz ?_; intro a1 n1 c1 w1 ho1 hb1 hs1)
        have HS : Hid (IntS w R b off c bs i0 (j + 1) (.slice a1 n1 c1) w1) := ⟨by rw [HE.out]; exact ho1, HV.out.1.low hb1 HR.out HB.out, (hS.out.asd.trans HV.out.2).high hb1 (Nat.le_refl _)⟩
        clear ho1 hb1 hs1 HO HV hS hsz hl HE
        go_roundw
        case rel => exact ⟨j + 1, by omega, by go_num, HN, HS⟩
        case measure => simp [intOf]; omega
      | some x =>
        have HX : Hid (firstF (fun j => shF bs (i0 + 4 * j) 4) n = some x) := firstF_hit hlt hA.out hF
        have HF : Hid (shF bs (i0 + 4 * j) 4 = some x) := hF
        clear hF
        go_wp2_with fail
        refine (id_bad R b off c bs (i0 + 4 * j) x _ HF.out hS.out.rd).mono ?_
        rintro e V ⟨rfl, has⟩
        exact ⟨rfl, .inr ⟨x, HX.out, rfl, hS.out.asd.trans has⟩⟩
    · have hje : n = j := by omega
      subst hje
      go_wp2
      go_ret
      exact .inl ⟨hA.out, _, rfl, hS.out⟩

end Go.Proofs.YtiajhekjojeaeaaGreat

/-
  The program's reader: bits.
-/
namespace Go.Proofs.YtiajhekjojeaeaaGreat
open Go.RowKit

/-- A bit of bytes. -/
def bitR (bs : List Int) (i0 j : Nat) : Bool := numB bs (i0 + j / 8) 1 / 2 ^ (j % 8) % 2 == 1
def bitL (bs : List Int) (i0 n : Nat) : List Value := (List.range n).map fun t => Value.bool (bitR bs i0 t)
theorem bitL_succ (bs : List Int) (i0 n : Nat) : bitL bs i0 (n + 1) = bitL bs i0 n ++ [.bool (bitR bs i0 n)] := by
  unfold bitL
  rw [List.range_succ, List.map_append]
  rfl
structure BolS (w : World) (R b off c : Nat) (bs : List Int) (i0 q j : Nat) (so : Value) (wr : World) : Prop where
  own : wr.ownsRow w.heap.size 4 1 so j (bitL bs i0 j)
  rd : RdB wr R b off c bs (i0 + q)
  asd : Aside R w wr
theorem and_one {z : Int} (h0 : 0 ≤ z) (h1 : z < 256) : bits .and .u8 z 1 = z % 2 := by
  obtain ⟨n, rfl⟩ := Int.eq_ofNat_of_zero_le h0
  have e2 : (BitVec.ofInt 8 (n : Int) &&& BitVec.ofInt 8 1).toNat = n % 2 := by
    rw [BitVec.toNat_and, BitVec.ofInt_natCast, BitVec.toNat_ofNat, Nat.mod_eq_of_lt (by omega)]
    have : (BitVec.ofInt 8 1).toNat = 2 ^ 1 - 1 := by decide
    rw [this, Nat.and_two_pow_sub_one_eq_mod]
  show IntKind.u8.wrap ((BitVec.ofInt 8 (n : Int) &&& BitVec.ofInt 8 1).toNat : Int) = _
  rw [e2]
  simp only [IntKind.wrap, IntKind.bits, IntKind.signed]
  simp
  omega
theorem numB_one {bs : List Int} {i : Nat} (h : i + 1 ≤ bs.length) : numB bs i 1 = bs.getD i 0 := by
  unfold numB
  rw [if_neg (by omega)]
  have hd : bs.drop i = bs.getD i 0 :: bs.drop (i + 1) := by
    rw [List.drop_eq_getElem_cons (by omega), List.getD_eq_getElem?_getD, List.getElem?_eq_getElem (by omega)]
    rfl
  rw [hd]
  simp [leV]

set_option maxRecDepth 100000 in
set_option maxHeartbeats 800000 in
theorem bits_ok (R b off c : Nat) (bs : List Int) (i0 n : Nat) (w : World) (hu : U8 bs) (hn : n ≤ 1000) (hb : b < w.heap.size) (hx : i0 + (n + 7) / 8 ≤ bs.length) (h : RdB w R b off c bs i0) :
    Calls Tryz.prog 72 #[.pointer (some ⟨R, 0, none⟩), .int .i64 n] w fun e w' => ∃ v, e = .returned v ∧ BolS w R b off c bs i0 ((n + 7) / 8) n v w' := by
  have HU : Hid (U8 bs) := hu
  have HH : Hid (RdB w R b off c bs i0) := h
  have HR : Hid (R < w.heap.size) := h.lt
  have HB : Hid (b < w.heap.size) := hb
  have ht : ((n : Int) + 7).tdiv 8 = (((n + 7) / 8 : Nat) : Int) := by rw [Int.tdiv_eq_ediv_of_nonneg (by omega)]; omega
  obtain ⟨q, hq⟩ : ∃ q, q = (n + 7) / 8 := ⟨_, rfl⟩
  have HQ : Hid (n ≤ 8 * q) := by unfold Hid; omega
  have hql : q ≤ 1000 := by omega
  rw [← hq] at ht hx ⊢
  clear hu h hb hq
  go_enter Tryz.func72, Tryz.ntmps72
  go_wp2_with fail
  refine (take_ok R b off c bs i0 q _ hx HH.out).mono ?_
  rintro e V ⟨p, k, rfl, hrow, hpb, hrd, has⟩
  have HP : Hid (RowAt .u8 V p (partB bs i0 q) ∧ ∀ b' o', p = some ⟨b', o', none⟩ → b' = b) := ⟨hrow, hpb⟩
  have HD : Hid (RdB V R b off c bs (i0 + q)) := hrd
  have HA : Hid (Aside R w V) := has
  clear hrow hpb hrd has ht
  go_wp2
  go_loopw [6, 7, 14] (fun so _ si wr => ∃ (j : Nat), j ≤ n ∧ si = .int .i64 j ∧ Hid (BolS w R b off c bs i0 q j so wr) ∧ Hid (Below w.heap.size V wr)) (fun _ _ si _ => n - (intOf si).toNat)
  case atStart => exact ⟨0, Nat.zero_le _, rfl, ⟨⟨by simp [bitL], .inl ⟨rfl, rfl⟩⟩, HD.out, HA.out⟩, Below.refl _ _⟩
  case round =>
    obtain ⟨j, hj, rfl, hS, hbb⟩ := hrel
    by_cases hlt : j < n
    · have hib : (j : Int) < n := by omega
      obtain ⟨m, hm⟩ : ∃ m, m = j / 8 := ⟨_, rfl⟩
      have hmq : m < q := by have := HQ.out; omega
      obtain ⟨b1, o1, rfl, hbl, hc⟩ := HP.out.1.resolve_left (by intro e; have := congrArg List.length e; rw [partB_length hx] at this; simp at this; omega)
      have hb1 := HP.out.2 b1 o1 rfl
      subst hb1
      have y0 := (HU.out.at (i0 + m)).1
      have y1 := (HU.out.at (i0 + m)).2
      have qc : wr.cell? ⟨b1, o1 + m, none⟩ = some (.int .u8 (bs.getD (i0 + m) 0)) := by
        have h1 := hc m (by rw [partB_length hx]; exact hmq)
        rw [partB_get hmq] at h1
        exact (hbb.out.cell (p := ⟨b1, o1 + m, none⟩) HB.out).trans h1
      have HY : Hid (numB bs (i0 + m) 1 = bs.getD (i0 + m) 0) := numB_one (by omega)
      obtain ⟨y, hy⟩ : ∃ y, y = bs.getD (i0 + m) 0 := ⟨_, rfl⟩
      rw [← hy] at y0 y1 qc HY
      have HE : Hid (bitL bs i0 (j + 1) = bitL bs i0 j ++ [.bool (y / 2 ^ (j % 8) % 2 == 1)]) := by unfold Hid; rw [bitL_succ, bitR, ← hm, HY.out]
      have ht : (j : Int).tdiv 8 = (m : Int) := by rw [Int.tdiv_eq_ediv_of_nonneg (by omega)]; omega
      have hmi : (m : Int) < q := by omega
      have hr : (j : Int).tmod 8 = ((j % 8 : Nat) : Int) := by rw [Int.tmod_eq_emod_of_nonneg (by omega)]; omega
      have hown := hS.out.own
      have hsz : w.heap.size ≤ wr.heap.size := hS.out.asd.size
      have hj8 : j % 8 = 0 ∨ j % 8 = 1 ∨ j % 8 = 2 ∨ j % 8 = 3 ∨ j % 8 = 4 ∨ j % 8 = 5 ∨ j % 8 = 6 ∨ j % 8 = 7 := by omega
      clear hc hm hy hbl HY
      rcases hj8 with h8 | h8 | h8 | h8 | h8 | h8 | h8 | h8
      · rw [h8] at hr HE
        have ha : bits .and .u8 y 1 = y % 2 := and_one (by omega) (by omega)
        have HE2 : Hid (bitL bs i0 (j + 1) = bitL bs i0 j ++ [.bool (y % 2 == 1)]) := by unfold Hid; rw [HE.out, show ((2 : Int) ^ 0) = 1 from by decide]; rw [Int.ediv_one]
        clear h8 HE
        go_wp2_with (at_builtin; refine app1b rfl (.tmp 17) (.tmp 28) rfl w.heap.size _ _ j rfl rfl hown (by omega) hsz ?_; intro a1 n1 c1 w1 ho1 hb1 hs1)
        have HS : Hid (BolS w R b1 off c bs i0 q (j + 1) (.slice a1 n1 c1) w1 ∧ Below w.heap.size V w1) := ⟨⟨by rw [HE2.out]; exact ho1, hS.out.rd.low hb1 HR.out HB.out, hS.out.asd.high hb1 (Nat.le_refl _)⟩, hbb.out.trans hb1⟩
        clear ho1 hb1 hs1 hS hsz hown hbb HE2 ha qc ht hr
        go_roundw
        case rel => exact ⟨j + 1, by omega, by go_num, HS.out.1, HS.out.2⟩
        case measure => simp [intOf]; omega
      · rw [h8] at hr HE
        have ha : bits .and .u8 (y / 2) 1 = y / 2 % 2 := and_one (by omega) (by omega)
        have HE2 : Hid (bitL bs i0 (j + 1) = bitL bs i0 j ++ [.bool (y / 2 % 2 == 1)]) := by unfold Hid; rw [HE.out, show ((2 : Int) ^ 1) = 2 from by decide]
        clear h8 HE
        go_wp2_with (at_builtin; refine app1b rfl (.tmp 17) (.tmp 28) rfl w.heap.size _ _ j rfl rfl hown (by omega) hsz ?_; intro a1 n1 c1 w1 ho1 hb1 hs1)
        have HS : Hid (BolS w R b1 off c bs i0 q (j + 1) (.slice a1 n1 c1) w1 ∧ Below w.heap.size V w1) := ⟨⟨by rw [HE2.out]; exact ho1, hS.out.rd.low hb1 HR.out HB.out, hS.out.asd.high hb1 (Nat.le_refl _)⟩, hbb.out.trans hb1⟩
        clear ho1 hb1 hs1 hS hsz hown hbb HE2 ha qc ht hr
        go_roundw
        case rel => exact ⟨j + 1, by omega, by go_num, HS.out.1, HS.out.2⟩
        case measure => simp [intOf]; omega
      · rw [h8] at hr HE
        have ha : bits .and .u8 (y / 4) 1 = y / 4 % 2 := and_one (by omega) (by omega)
        have HE2 : Hid (bitL bs i0 (j + 1) = bitL bs i0 j ++ [.bool (y / 4 % 2 == 1)]) := by unfold Hid; rw [HE.out, show ((2 : Int) ^ 2) = 4 from by decide]
        clear h8 HE
        go_wp2_with (at_builtin; refine app1b rfl (.tmp 17) (.tmp 28) rfl w.heap.size _ _ j rfl rfl hown (by omega) hsz ?_; intro a1 n1 c1 w1 ho1 hb1 hs1)
        have HS : Hid (BolS w R b1 off c bs i0 q (j + 1) (.slice a1 n1 c1) w1 ∧ Below w.heap.size V w1) := ⟨⟨by rw [HE2.out]; exact ho1, hS.out.rd.low hb1 HR.out HB.out, hS.out.asd.high hb1 (Nat.le_refl _)⟩, hbb.out.trans hb1⟩
        clear ho1 hb1 hs1 hS hsz hown hbb HE2 ha qc ht hr
        go_roundw
        case rel => exact ⟨j + 1, by omega, by go_num, HS.out.1, HS.out.2⟩
        case measure => simp [intOf]; omega
      · rw [h8] at hr HE
        have ha : bits .and .u8 (y / 8) 1 = y / 8 % 2 := and_one (by omega) (by omega)
        have HE2 : Hid (bitL bs i0 (j + 1) = bitL bs i0 j ++ [.bool (y / 8 % 2 == 1)]) := by unfold Hid; rw [HE.out, show ((2 : Int) ^ 3) = 8 from by decide]
        clear h8 HE
        go_wp2_with (at_builtin; refine app1b rfl (.tmp 17) (.tmp 28) rfl w.heap.size _ _ j rfl rfl hown (by omega) hsz ?_; intro a1 n1 c1 w1 ho1 hb1 hs1)
        have HS : Hid (BolS w R b1 off c bs i0 q (j + 1) (.slice a1 n1 c1) w1 ∧ Below w.heap.size V w1) := ⟨⟨by rw [HE2.out]; exact ho1, hS.out.rd.low hb1 HR.out HB.out, hS.out.asd.high hb1 (Nat.le_refl _)⟩, hbb.out.trans hb1⟩
        clear ho1 hb1 hs1 hS hsz hown hbb HE2 ha qc ht hr
        go_roundw
        case rel => exact ⟨j + 1, by omega, by go_num, HS.out.1, HS.out.2⟩
        case measure => simp [intOf]; omega
      · rw [h8] at hr HE
        have ha : bits .and .u8 (y / 16) 1 = y / 16 % 2 := and_one (by omega) (by omega)
        have HE2 : Hid (bitL bs i0 (j + 1) = bitL bs i0 j ++ [.bool (y / 16 % 2 == 1)]) := by unfold Hid; rw [HE.out, show ((2 : Int) ^ 4) = 16 from by decide]
        clear h8 HE
        go_wp2_with (at_builtin; refine app1b rfl (.tmp 17) (.tmp 28) rfl w.heap.size _ _ j rfl rfl hown (by omega) hsz ?_; intro a1 n1 c1 w1 ho1 hb1 hs1)
        have HS : Hid (BolS w R b1 off c bs i0 q (j + 1) (.slice a1 n1 c1) w1 ∧ Below w.heap.size V w1) := ⟨⟨by rw [HE2.out]; exact ho1, hS.out.rd.low hb1 HR.out HB.out, hS.out.asd.high hb1 (Nat.le_refl _)⟩, hbb.out.trans hb1⟩
        clear ho1 hb1 hs1 hS hsz hown hbb HE2 ha qc ht hr
        go_roundw
        case rel => exact ⟨j + 1, by omega, by go_num, HS.out.1, HS.out.2⟩
        case measure => simp [intOf]; omega
      · rw [h8] at hr HE
        have ha : bits .and .u8 (y / 32) 1 = y / 32 % 2 := and_one (by omega) (by omega)
        have HE2 : Hid (bitL bs i0 (j + 1) = bitL bs i0 j ++ [.bool (y / 32 % 2 == 1)]) := by unfold Hid; rw [HE.out, show ((2 : Int) ^ 5) = 32 from by decide]
        clear h8 HE
        go_wp2_with (at_builtin; refine app1b rfl (.tmp 17) (.tmp 28) rfl w.heap.size _ _ j rfl rfl hown (by omega) hsz ?_; intro a1 n1 c1 w1 ho1 hb1 hs1)
        have HS : Hid (BolS w R b1 off c bs i0 q (j + 1) (.slice a1 n1 c1) w1 ∧ Below w.heap.size V w1) := ⟨⟨by rw [HE2.out]; exact ho1, hS.out.rd.low hb1 HR.out HB.out, hS.out.asd.high hb1 (Nat.le_refl _)⟩, hbb.out.trans hb1⟩
        clear ho1 hb1 hs1 hS hsz hown hbb HE2 ha qc ht hr
        go_roundw
        case rel => exact ⟨j + 1, by omega, by go_num, HS.out.1, HS.out.2⟩
        case measure => simp [intOf]; omega
      · rw [h8] at hr HE
        have ha : bits .and .u8 (y / 64) 1 = y / 64 % 2 := and_one (by omega) (by omega)
        have HE2 : Hid (bitL bs i0 (j + 1) = bitL bs i0 j ++ [.bool (y / 64 % 2 == 1)]) := by unfold Hid; rw [HE.out, show ((2 : Int) ^ 6) = 64 from by decide]
        clear h8 HE
        go_wp2_with (at_builtin; refine app1b rfl (.tmp 17) (.tmp 28) rfl w.heap.size _ _ j rfl rfl hown (by omega) hsz ?_; intro a1 n1 c1 w1 ho1 hb1 hs1)
        have HS : Hid (BolS w R b1 off c bs i0 q (j + 1) (.slice a1 n1 c1) w1 ∧ Below w.heap.size V w1) := ⟨⟨by rw [HE2.out]; exact ho1, hS.out.rd.low hb1 HR.out HB.out, hS.out.asd.high hb1 (Nat.le_refl _)⟩, hbb.out.trans hb1⟩
        clear ho1 hb1 hs1 hS hsz hown hbb HE2 ha qc ht hr
        go_roundw
        case rel => exact ⟨j + 1, by omega, by go_num, HS.out.1, HS.out.2⟩
        case measure => simp [intOf]; omega
      · rw [h8] at hr HE
        have ha : bits .and .u8 (y / 128) 1 = y / 128 % 2 := and_one (by omega) (by omega)
        have HE2 : Hid (bitL bs i0 (j + 1) = bitL bs i0 j ++ [.bool (y / 128 % 2 == 1)]) := by unfold Hid; rw [HE.out, show ((2 : Int) ^ 7) = 128 from by decide]
        clear h8 HE
        go_wp2_with (at_builtin; refine app1b rfl (.tmp 17) (.tmp 28) rfl w.heap.size _ _ j rfl rfl hown (by omega) hsz ?_; intro a1 n1 c1 w1 ho1 hb1 hs1)
        have HS : Hid (BolS w R b1 off c bs i0 q (j + 1) (.slice a1 n1 c1) w1 ∧ Below w.heap.size V w1) := ⟨⟨by rw [HE2.out]; exact ho1, hS.out.rd.low hb1 HR.out HB.out, hS.out.asd.high hb1 (Nat.le_refl _)⟩, hbb.out.trans hb1⟩
        clear ho1 hb1 hs1 hS hsz hown hbb HE2 ha qc ht hr
        go_roundw
        case rel => exact ⟨j + 1, by omega, by go_num, HS.out.1, HS.out.2⟩
        case measure => simp [intOf]; omega
    · have hje : n = j := by omega
      subst hje
      go_wp2
      go_ret
      exact ⟨_, rfl, hS.out⟩

set_option maxHeartbeats 400000 in
theorem bits_bad (R b off c : Nat) (bs : List Int) (i0 n : Nat) (w : World) (hn : n ≤ 1000) (hx : bs.length < i0 + (n + 7) / 8) (h : RdB w R b off c bs i0) :
    Calls Tryz.prog 72 #[.pointer (some ⟨R, 0, none⟩), .int .i64 n] w fun e w' => ThrowOut w R (5, bs.length) e w' := by
  have ht : ((n : Int) + 7).tdiv 8 = (((n + 7) / 8 : Nat) : Int) := by rw [Int.tdiv_eq_ediv_of_nonneg (by omega)]; omega
  have HH : Hid (RdB w R b off c bs i0) := h
  clear h
  obtain ⟨q, hq⟩ : ∃ q, q = (n + 7) / 8 := ⟨_, rfl⟩
  have hql : q ≤ 1000 := by omega
  rw [← hq] at ht hx
  clear hq
  go_enter Tryz.func72, Tryz.ntmps72
  go_wp2_with fail
  refine (take_short R b off c bs i0 q _ hx HH.out).mono ?_
  rintro e V ⟨rfl, has⟩
  exact ⟨rfl, rfl, has⟩

end Go.Proofs.YtiajhekjojeaeaaGreat

/-
  The program's reader: picture.
-/
namespace Go.Proofs.YtiajhekjojeaeaaGreat
open Go.RowKit

theorem rowF_aside {w w' : World} {lo hi R : Nat} {a : Option Addr} {n : Nat} {f : Nat → Value} (h : RowFIn w lo hi a n f) (ha : Aside R w w') (hR : R < lo) : RowFIn w' lo hi a n f := by
  rcases h with h | ⟨b, off, q1, q0, q00, q2, q3, q4⟩
  · exact .inl h
  · exact .inr ⟨b, off, q1, q0, q00, Nat.lt_of_lt_of_le q2 ha.size, fun j hj => (ha.cell (p := ⟨b, off + j, none⟩) q2 (by simp; omega)).trans (q3 j hj), fun j hj => (ha.frozen (p := ⟨b, off + j, none⟩) q2 (by simp; omega)).trans (q4 j hj)⟩

/-- An id, as it is read. -/
def idr (bs : List Int) (i : Nat) : Int := sgn32 (numB bs (7 + 4 * i) 4)

theorem IsPic.len {bs : List Int} {n1 n3 : Nat} {g : Nat → Int} {L : Int} {h : Nat → Bool} (p : IsPic bs n1 n3 g L h) : bs.length = 7 + 4 * n1 + (n3 + 7) / 8 := by
  rw [← p.enc]
  unfold encPc
  rw [List.length_append, List.length_append, headP_length, idsB_length, litB_length]
  omega
theorem IsPic.mark {bs : List Int} {n1 n3 : Nat} {g : Nat → Int} {L : Int} {h : Nat → Bool} (p : IsPic bs n1 n3 g L h) : firstF (mkF [80, 73, 67, 84] bs) 4 = none := by
  have hl := p.len
  have key : ∀ i, i < 4 → bs.getD i 0 = ([80, 73, 67, 84] : List Int).getD i 0 := by
    intro i hi
    rw [← p.enc]
    unfold encPc headP
    rw [show [80, 73, 67, 84] ++ leB (n1 : Int) 2 ++ leB L 1 ++ idsB g n1 ++ litB n3 h ((n3 + 7) / 8) = [80, 73, 67, 84] ++ (leB (n1 : Int) 2 ++ (leB L 1 ++ (idsB g n1 ++ litB n3 h ((n3 + 7) / 8)))) by simp only [List.append_assoc]]
    rw [List.getD_eq_getElem?_getD, List.getD_eq_getElem?_getD, List.getElem?_append_left (by simpa using hi)]
  have k : ∀ i, i < 4 → mkF [80, 73, 67, 84] bs i = none := by
    intro i hi
    unfold mkF
    rw [if_neg (by omega), if_pos (key i hi)]
  exact firstF_succ (firstF_succ (firstF_succ (firstF_succ rfl (k 0 (by decide))) (k 1 (by decide))) (k 2 (by decide))) (k 3 (by decide))
theorem IsPic.cnt {bs : List Int} {n1 n3 : Nat} {g : Nat → Int} {L : Int} {h : Nat → Bool} (p : IsPic bs n1 n3 g L h) : cntF bs 4 2 ((40 : Nat) : Int) = none ∧ cntF bs 6 1 ((4 : Nat) : Int) = none := by
  have hl := p.len
  have hb := p.bounds
  constructor
  · unfold cntF
    rw [if_neg (by omega), p.count, if_neg (by omega)]
  · unfold cntF
    rw [if_neg (by omega), p.lights, if_neg (by omega)]

theorem shF_nz {bs : List Int} {i size : Nat} {x : Int × Int} (h : shF bs i size = some x) : x.1 ≠ 0 := by
  obtain ⟨_, rfl⟩ := shF_bad h
  show (5 : Int) ≠ 0
  decide

/-- A picture that is read. -/
structure PicR (bs : List Int) (N Lt M : Nat) : Prop where
  n : (N : Int) = numB bs 4 2
  l : (Lt : Int) = numB bs 6 1
  n40 : N ≤ 40
  l4 : Lt ≤ 4
  m : M = N * Lt
theorem PicR.same {bs : List Int} {N Lt M n1 n3 : Nat} {g : Nat → Int} {L : Int} {h : Nat → Bool} (q : PicR bs N Lt M) (p : IsPic bs n1 n3 g L h) : n1 = N ∧ n3 = M := by
  have h1 : n1 = N := by have h1 := p.count; have h2 := q.n; omega
  subst h1
  refine ⟨rfl, ?_⟩
  have h2 := p.bounds.2.2.2.1
  have h3 := p.lights
  have h4 := q.l
  rw [← h4] at h3
  rw [← h3] at h2
  rw [q.m]
  exact_mod_cast h2

/-- What picture answers, or throws. -/
def PctOut (w : World) (R : Nat) (bs : List Int) (e : Ending) (w' : World) : Prop :=
  (∃ N Lt M aI aB cI cB l1 h1 l3 h3, PicR bs N Lt M ∧ e = .returned (.agg #[.slice aI N cI, .int .i64 Lt, .slice aB M cB]) ∧ PcDj w' w.heap.size w'.heap.size aI aB N M (idr bs) (bitv bs N) l1 h1 l3 h3 ∧ Aside R w w') ∨
  ∃ x : Int × Int, x.1 ≠ 0 ∧ (∀ n1 n3 g L h, ¬ IsPic bs n1 n3 g L h) ∧ ThrowOut w R x e w'

/-- Memory while a picture is read. -/
structure PcnS (w0 : World) (R b off c : Nat) (bs : List Int) (i X Y : Nat) (v0 v1 v2 : Value) (W : World) : Prop where
  rd : RdB W R b off c bs i
  bx : BxF W X (.slice none 0 0) (.int .i64 0) (.slice none 0 0)
  by_ : BxF W Y v0 v1 v2
  asd : Aside R w0 W
  hX : X = w0.heap.size
  hXY : X < Y
  hR : R < X
  hb : b < X
theorem PcnS.call {w0 W W' : World} {R b off c i i' X Y : Nat} {bs : List Int} {v0 v1 v2 : Value} (h : PcnS w0 R b off c bs i X Y v0 v1 v2 W) (hr : RdB W' R b off c bs i') (ha : Aside R W W') : PcnS w0 R b off c bs i' X Y v0 v1 v2 W' :=
  ⟨hr, h.bx.aside ha (by have := h.hR; omega), h.by_.aside ha (by have := h.hR; have := h.hXY; omega), h.asd.trans ha, h.hX, h.hXY, h.hR, h.hb⟩
theorem PcnS.put {w0 W : World} {R b off c i X Y : Nat} {bs : List Int} {v0 v1 v2 u0 u1 u2 : Value} (h : PcnS w0 R b off c bs i X Y v0 v1 v2 W) (j : Nat) (v : Value) (hy : BxF (W.setCell ⟨Y, j, none⟩ v) Y u0 u1 u2) : PcnS w0 R b off c bs i X Y u0 u1 u2 (W.setCell ⟨Y, j, none⟩ v) := by
  have h1 := h.hX
  have h2 := h.hXY
  have h3 := h.hR
  have h4 := h.hb
  exact ⟨h.rd.other (by omega) (by omega) _ _, h.bx.other (by omega) _ _, hy, h.asd.setHigh (p := ⟨Y, j, none⟩) (by show w0.heap.size ≤ Y; omega) _, h1, h2, h3, h4⟩

set_option maxRecDepth 100000 in
set_option maxHeartbeats 4000000 in
theorem picture_any (R b off c : Nat) (bs : List Int) (w : World) (hu : U8 bs) (hb : b < w.heap.size) (h : RdB w R b off c bs 0) :
    Calls Tryz.prog 42 #[.pointer (some ⟨R, 0, none⟩)] w fun e w' => PctOut w R bs e w' := by
  have HU : Hid (U8 bs) := hu
  have hlt := h.lt
  have hmf : ∀ (fn : Fn) (first cap : Array Value) (w : World), (Instr.makeFunc fn first cap).run Tryz.prog w = .ok (.func fn first cap) w := fun _ _ _ _ => rfl
  obtain ⟨W0, hW0⟩ : ∃ W0, W0 = w.alloc (.cells #[.slice none 0 0, .int .i64 0, .slice none 0 0] 39) := ⟨_, rfl⟩
  have D0 : Hid (RdB W0 R b off c bs 0) := by unfold Hid; rw [hW0]; exact h.later (bel0 _ _)
  have X0 : Hid (BxF W0 w.heap.size (.slice none 0 0) (.int .i64 0) (.slice none 0 0)) := by unfold Hid; rw [hW0]; exact BxF.new _ _ _ _ _
  have A0 : Hid (Aside R w W0) := by unfold Hid; rw [hW0]; exact Aside.of (bel0 _ _)
  clear h hu
  go_enter Tryz.func42, Tryz.ntmps42
  go_wp2_with fail
  rw [← hW0]
  clear hW0
  refine (mark_pict R b off c bs W0 HU.out D0.out).mono ?_
  rintro e w1 (⟨hm, rfl, hrd, has⟩ | ⟨x, hx, rfl, has⟩)
  rotate_left
  · exact ⟨rfl, .inr ⟨x, firstF_prop (fun j x h => mkF_nz h) hx, fun n1 n3 g L h p => (by have := p.mark; rw [hx] at this; cases this), rfl, A0.out.trans has⟩⟩
  have D1 : Hid (RdB w1 R b off c bs 4) := hrd
  have X1 : Hid (BxF w1 w.heap.size (.slice none 0 0) (.int .i64 0) (.slice none 0 0)) := X0.out.aside has (by omega)
  have A1 : Hid (Aside R w w1) := A0.out.trans has
  clear hrd has hm D0 X0 A0
  cases hc0 : cntF bs 4 2 ((40 : Nat) : Int) with
  | some x =>
    go_wp2_with fail
    refine (count_bad R b off c bs 4 2 40 x _ HU.out (by decide) hc0 D1.out).mono ?_
    rintro e V ⟨rfl, has⟩
    exact ⟨rfl, .inr ⟨x, cntF_nz hc0, fun n1 n3 g L h p => (by have := p.cnt.1; rw [hc0] at this; cases this), rfl, A1.out.trans has⟩⟩
  | none =>
  have K0 := cntF_ok hc0
  obtain ⟨N, hn0⟩ : ∃ n : Nat, numB bs 4 2 = n := ⟨(numB bs 4 2).toNat, (Int.toNat_of_nonneg (numB_full HU.out (by decide) K0.1)).symm⟩
  have l0 : N ≤ 40 := by have := K0.2; rw [hn0] at this; omega
  have N0 : Hid (numB bs 4 2 = N) := hn0
  go_wp2_with fail
  refine (count_ok R b off c bs 4 2 40 _ HU.out (by decide) hc0 D1.out).mono ?_
  rintro e w2 ⟨rfl, hrd, has⟩
  rw [hn0]
  obtain ⟨W2, hW2⟩ : ∃ W2, W2 = w2.alloc (.cells #[.slice none 0 0, .int .i64 0, .slice none 0 0] 39) := ⟨_, rfl⟩
  have X2 := X1.out.aside has (show w.heap.size ≠ R by omega)
  have hwl : w.heap.size < w2.heap.size := X2.lt
  have S2 : Hid (PcnS w R b off c bs 6 w.heap.size w2.heap.size (.slice none 0 0) (.int .i64 0) (.slice none 0 0) W2) := by
    unfold Hid
    rw [hW2]
    exact ⟨RdB.later hrd (bel0 _ _), X2.aside (Aside.of (P := R) (bel0 _ _)) (by omega), BxF.new _ _ _ _ _, (A1.out.trans has).trans (Aside.of (bel0 _ _)), rfl, hwl, hlt, hb⟩
  have Z2 : Hid (W2.heap.size = w2.heap.size + 1) := by unfold Hid; rw [hW2]; simp
  clear hrd has hc0 hn0 K0 D1 X1 A1 X2
  cases hc1 : cntF bs 6 1 ((4 : Nat) : Int) with
  | some x =>
    go_wp2_with fail
    rw [← hW2]
    refine (count_bad R b off c bs 6 1 4 x _ HU.out (by decide) hc1 S2.out.rd).mono ?_
    rintro e V ⟨rfl, has⟩
    exact ⟨rfl, .inr ⟨x, cntF_nz hc1, fun n1 n3 g L h p => (by have := p.cnt.2; rw [hc1] at this; cases this), rfl, S2.out.asd.trans has⟩⟩
  | none =>
  have K1 := cntF_ok hc1
  obtain ⟨Lt, hn1⟩ : ∃ n : Nat, numB bs 6 1 = n := ⟨(numB bs 6 1).toNat, (Int.toNat_of_nonneg (numB_full HU.out (by decide) K1.1)).symm⟩
  have l1 : Lt ≤ 4 := by have := K1.2; rw [hn1] at this; omega
  obtain ⟨M, hM⟩ : ∃ M, M = N * Lt := ⟨_, rfl⟩
  have PR : Hid (PicR bs N Lt M) := ⟨N0.out.symm, hn1.symm, l0, l1, hM⟩
  have hM1 : M ≤ 160 := by rw [hM]; exact Nat.mul_le_mul l0 l1
  have hMi : (N : Int) * (Lt : Int) = (M : Int) := by rw [hM]; push_cast; rfl
  clear hM
  go_wp2_with fail
  rw [← hW2]
  clear hW2
  refine (count_ok R b off c bs 6 1 4 _ HU.out (by decide) hc1 S2.out.rd).mono ?_
  rintro e w3 ⟨rfl, hrd, has⟩
  rw [hn1]
  have G3 := S2.out.call hrd has
  have g0 := G3.by_.q1
  have g1 := G3.by_.fr 1
  have S3 : Hid (PcnS w R b off c bs 7 w.heap.size w2.heap.size (.slice none 0 0) (.int .i64 Lt) (.slice none 0 0) (w3.setCell ⟨w2.heap.size, 1, none⟩ (.int .i64 Lt))) := G3.put 1 _ (G3.by_.set1 _)
  obtain ⟨W3, hW⟩ : ∃ W, W = w3.setCell ⟨w2.heap.size, 1, none⟩ (.int .i64 (Lt : Int)) := ⟨_, rfl⟩
  rw [← hW] at S3
  have hz3 : w2.heap.size < W3.heap.size := S3.out.by_.lt
  clear hrd has hc1 hn1 K1 G3
  go_wp2_with fail
  rw [← hW]
  clear hW g0 g1
  refine (several_int R b off c bs 7 N W3 HU.out (by omega) (by have := S3.out.bx.lt; omega) S3.out.rd).mono ?_
  rintro e w4 (⟨hx, v, rfl, hv⟩ | ⟨x, hx, rfl, has⟩)
  rotate_left
  · refine ⟨rfl, .inr ⟨x, firstF_prop (P := fun x => x.1 ≠ 0) (fun j x h => shF_nz h) hx, fun n1 n3 g L h p => ?_, rfl, S3.out.asd.trans has⟩⟩
    · have e1 := (PR.out.same p).1
      have e2 := p.len
      have : firstF (fun j => shF bs (7 + 4 * j) 4) N = none := by
        have k : ∀ j, j < N → shF bs (7 + 4 * j) 4 = none := by
          intro j hj
          unfold shF
          rw [if_neg (by omega)]
        clear hx
        have gen : ∀ t, t ≤ N → firstF (fun j => shF bs (7 + 4 * j) 4) t = none := by
          intro t
          induction t with
          | zero => intro _; rfl
          | succ t ih => intro ht; exact firstF_succ (ih (by omega)) (k t (by omega))
        exact gen N (Nat.le_refl _)
      rw [hx] at this
      cases this
  have T0 : Hid (firstF (fun j => shF bs (7 + 4 * j) 4) N = none) := hx
  obtain ⟨aI, cI, rfl, hrI⟩ := own_rowF (n := (idL bs 7 N).length) (f := intF (idr bs)) hv.own (by
    intro j hj
    rw [idL_length] at hj
    simp [vals, idL, hj]
    rfl)
  rw [idL_length] at hrI ⊢
  have G4 := S3.out.call hv.rd hv.asd
  have g0 := G4.by_.q0
  have g1 := G4.by_.fr 0
  have g2 := G4.by_.q1
  have S4 : Hid (PcnS w R b off c bs (7 + 4 * N) w.heap.size w2.heap.size (.slice aI N cI) (.int .i64 Lt) (.slice none 0 0) (w4.setCell ⟨w2.heap.size, 0, none⟩ (.slice aI N cI))) := G4.put 0 _ (G4.by_.set0 _)
  have R4 : Hid (RowFIn (w4.setCell ⟨w2.heap.size, 0, none⟩ (.slice aI N cI)) W3.heap.size w4.heap.size aI N (intF (idr bs))) := rowF_aside hrI ((Aside.refl w2.heap.size _).set _ _) hz3
  have Q4 : Hid (W3.heap.size ≤ w4.heap.size) := hv.asd.size
  obtain ⟨W4, hW⟩ : ∃ W, W = w4.setCell ⟨w2.heap.size, 0, none⟩ (.slice aI N cI) := ⟨_, rfl⟩
  have Y4 : Hid (W4.heap.size = w4.heap.size) := by unfold Hid; rw [hW]; simp
  rw [← hW] at S4 R4
  clear hv hx G4 hrI
  by_cases hend : bs.length < 7 + 4 * N + (M + 7) / 8
  · go_wp2_with fail
    rw [← hW]
    refine (bits_bad R b off c bs (7 + 4 * N) M _ (by omega) hend S4.out.rd).mono ?_
    rintro e V ⟨rfl, has⟩
    refine ⟨rfl, .inr ⟨_, ?_, fun n1 n3 g L h p => ?_, rfl, S4.out.asd.trans has⟩⟩
    · show (5 : Int) ≠ 0
      decide
    · obtain ⟨e1, e3⟩ := PR.out.same p
      have e2 := p.len
      omega
  · go_wp2_with fail
    rw [← hW]
    clear hW g0 g1 g2
    refine (bits_ok R b off c bs (7 + 4 * N) M _ HU.out (by omega) (by have := S4.out.bx.lt; omega) (by omega) S4.out.rd).mono ?_
    rintro e w5 ⟨v, rfl, hv⟩
    obtain ⟨aB, cB, rfl, hrB⟩ := own_rowF (n := M) (f := boolF (bitv bs N)) hv.own (by
      intro j hj
      simp [bitL, hj]
      rfl)
    have G5 := S4.out.call hv.rd hv.asd
    have g0 := G5.by_.q2
    have g1 := G5.by_.fr 2
    have S5 : Hid (PcnS w R b off c bs (7 + 4 * N + (M + 7) / 8) w.heap.size w2.heap.size (.slice aI N cI) (.int .i64 Lt) (.slice aB M cB) (w5.setCell ⟨w2.heap.size, 2, none⟩ (.slice aB M cB))) := G5.put 2 _ (G5.by_.set2 _)
    have R5 : Hid (RowFIn (w5.setCell ⟨w2.heap.size, 2, none⟩ (.slice aB M cB)) W4.heap.size w5.heap.size aB M (boolF (bitv bs N))) := rowF_aside hrB ((Aside.refl w2.heap.size _).set _ _) (S4.out.by_.lt)
    have R4' : Hid (RowFIn (w5.setCell ⟨w2.heap.size, 2, none⟩ (.slice aB M cB)) W3.heap.size w4.heap.size aI N (intF (idr bs))) := rowF_aside (rowF_aside R4.out hv.asd (by omega)) ((Aside.refl w2.heap.size _).set _ _) hz3
    have Q5 : Hid (W4.heap.size ≤ w5.heap.size) := hv.asd.size
    obtain ⟨W5, hW⟩ : ∃ W, W = w5.setCell ⟨w2.heap.size, 2, none⟩ (.slice aB M cB) := ⟨_, rfl⟩
    have Y5 : Hid (W5.heap.size = w5.heap.size) := by unfold Hid; rw [hW]; simp
    have x0 := G5.bx.q0
    have x1 := G5.bx.q1
    have x2 := G5.bx.q2
    have f0 := G5.bx.fr 0
    have f1 := G5.bx.fr 1
    have f2 := G5.bx.fr 2
    have y0 := G5.by_.q0
    have y1 := G5.by_.q1
    have hne : w.heap.size ≠ w2.heap.size := by omega
    clear hv G5 hrB R4
    go_wp2
    rw [← hW] at S5 R5 R4' ⊢
    have x3 := S5.out.bx.q0
    have x4 := S5.out.bx.q1
    have x5 := S5.out.bx.q2
    refine bodyPost_ret (v := .agg #[.slice aI N cI, .int .i64 Lt, .slice aB M cB]) (by simp [results, Tryz.results42, go_sem, x3, x4, x5]) rfl ?_
    have hz : (((W5.setCell ⟨w.heap.size, 0, none⟩ (.slice aI N cI)).setCell ⟨w.heap.size, 1, none⟩ (.int .i64 Lt)).setCell ⟨w.heap.size, 2, none⟩ (.slice aB M cB)).heap.size = W5.heap.size := by simp
    have key : ∀ {lo hi : Nat} {a : Option Addr} {n : Nat} {f : Nat → Value}, RowFIn W5 lo hi a n f → w.heap.size < lo → RowFIn (((W5.setCell ⟨w.heap.size, 0, none⟩ (.slice aI N cI)).setCell ⟨w.heap.size, 1, none⟩ (.int .i64 Lt)).setCell ⟨w.heap.size, 2, none⟩ (.slice aB M cB)) lo hi a n f := by
      intro lo hi a n f hr hl
      exact rowF_aside (rowF_aside (rowF_aside hr ((Aside.refl w.heap.size _).set 0 _) hl) ((Aside.refl w.heap.size _).set 1 _) hl) ((Aside.refl w.heap.size _).set 2 _) hl
    have q4 := Q4.out
    have q5 := Q5.out
    have t4 := Y4.out
    have t5 := Y5.out
    refine .inl ⟨N, Lt, M, aI, aB, cI, cB, W3.heap.size, w4.heap.size, W4.heap.size, w5.heap.size, PR.out, rfl, ?_, ?_⟩
    · exact ⟨⟨by omega, by rw [hz]; omega⟩, ⟨by omega, by rw [hz]; omega⟩, .inl (by omega), Nat.le_refl _, key R4'.out (by omega), key R5.out (by omega)⟩
    · exact ((S5.out.asd.setHigh (p := ⟨w.heap.size, 0, none⟩) (Nat.le_refl _) _).setHigh (p := ⟨w.heap.size, 1, none⟩) (Nat.le_refl _) _).setHigh (p := ⟨w.heap.size, 2, none⟩) (Nat.le_refl _) _

theorem picture_none (R : Nat) (a : Option Addr) (c : Nat) (w : World) (c0 : w.cell? ⟨R, 0, none⟩ = some (.slice a 0 c)) (c1 : w.cell? ⟨R, 1, none⟩ = some (.int .i64 0)) (hR : R < w.heap.size) :
    Calls Tryz.prog 42 #[.pointer (some ⟨R, 0, none⟩)] w fun e w' => ThrowOut w R (5, 0) e w' := by
  go_enter Tryz.func42, Tryz.ntmps42
  go_wp2_with fail
  refine (mark_pict_none R a c _ (((bcell (bel0 w _)).1 _ _ hR).trans c0) (((bcell (bel0 w _)).1 _ _ hR).trans c1)).mono ?_
  rintro e V ⟨rfl, has⟩
  exact ⟨rfl, rfl, (Aside.of (bel0 _ _)).trans has⟩

end Go.Proofs.YtiajhekjojeaeaaGreat

/-
  The program's caught, of a picture.
-/
namespace Go.Proofs.YtiajhekjojeaeaaGreat
open Go.RowKit

set_option maxRecDepth 100000 in
theorem catchP_panicking (p : Nat) (x1 x2 y1 y2 : Int) (older : List PanicEntry) (w : World) (hp : p < w.heap.size) (hc0 : w.cell? ⟨p, 0, none⟩ = some (.int .i64 y1)) (hc1 : w.cell? ⟨p, 1, none⟩ = some (.int .i64 y2)) (hz0 : w.frozen? ⟨p, 0, none⟩ = false) (hz1 : w.frozen? ⟨p, 1, none⟩ = false) :
    CallsD Tryz.prog 69 #[.pointer (some ⟨p, 0, none⟩)] (.panicking ({ v := .iface 60 (.agg #[.int .i64 x1, .int .i64 x2]), recovered := false } :: older)) w fun e u' w' =>
      e = .returned (.tuple #[]) ∧ u' = .panicking ({ v := .iface 60 (.agg #[.int .i64 x1, .int .i64 x2]), recovered := true } :: older) ∧ w' = ((w.alloc (.cells #[.int .i64 x1, .int .i64 x2] 60)).setCell ⟨p, 0, none⟩ (.int .i64 x1)).setCell ⟨p, 1, none⟩ (.int .i64 x2) := by
  have hta : ∀ w : World, (Instr.typeAssert (.iface 60 (.agg #[.int .i64 x1, .int .i64 x2])) 20 60 true).run Tryz.prog w = .ok (.tuple #[.agg #[.int .i64 x1, .int .i64 x2], .bool true]) w := fun _ => by kernel_rfl
  have k0 : ∀ o, (w.alloc o).cell? ⟨p, 0, none⟩ = some (.int .i64 y1) := fun o => ((bcell (bel0 w o)).1 _ _ hp).trans hc0
  have k1 : ∀ o, (w.alloc o).cell? ⟨p, 1, none⟩ = some (.int .i64 y2) := fun o => ((bcell (bel0 w o)).1 _ _ hp).trans hc1
  have k2 : ∀ o, (w.alloc o).frozen? ⟨p, 0, none⟩ = false := fun o => ((bcell (bel0 w o)).2 _ _ hp).trans hz0
  have k3 : ∀ o, (w.alloc o).frozen? ⟨p, 1, none⟩ = false := fun o => ((bcell (bel0 w o)).2 _ _ hp).trans hz1
  refine callsD_of_wpS Tryz.func69 rfl fun c₀ cs hu => ?_
  apply wpS_seq
  apply wpS_region
  simp [wpOpsS, go_sem, recoverD, hu, hta, Tryz.ntmps69, Exit.thenS]
  apply wpS_seq
  apply wpS_region
  simp [wpOpsS, go_sem, Exit.thenS, Array.replicate]
  refine wpS_cond (t := true) (by simp [Act.eval]) ?_
  simp only [if_true]
  apply wpS_region
  simp [wpOpsS, go_sem, k0, k1, k2, k3, bodyPostS, results, Tryz.results69]

set_option maxRecDepth 100000 in
theorem catchP_idle (p : Nat) (w : World) :
    CallsD Tryz.prog 69 #[.pointer (some ⟨p, 0, none⟩)] .returning w fun e u' w' => e = .returned (.tuple #[]) ∧ u' = .returning ∧ w' = w.alloc (.cells #[.int .i64 0, .int .i64 0] 60) := by
  have hta : ∀ w : World, (Instr.typeAssert .nilIface 20 60 true).run Tryz.prog w = .ok (.tuple #[.agg #[.int .i64 0, .int .i64 0], .bool false]) w := fun _ => by kernel_rfl
  refine callsD_of_wpS Tryz.func69 rfl fun c₀ cs hu => ?_
  apply wpS_seq
  apply wpS_region
  simp [wpOpsS, go_sem, recoverD, hu, hta, Tryz.ntmps69, Exit.thenS]
  apply wpS_seq
  apply wpS_region
  simp [wpOpsS, go_sem, Exit.thenS, Array.replicate]
  refine wpS_cond (t := false) (by simp [Act.eval]) ?_
  simp only [Bool.false_eq_true, if_false]
  refine wpS_of_wp (wp_skip ?_)
  cases c₀
  simp_all [bodyPostS, results, Tryz.results69]

/-- What caught answers of a picture. -/
def CgpOut (w : World) (R : Nat) (bs : List Int) (e : Ending) (w' : World) : Prop :=
  (∃ N Lt M aI aB cI cB l1 h1 l3 h3, PicR bs N Lt M ∧ e = .returned (.tuple #[.agg #[.slice aI N cI, .int .i64 Lt, .slice aB M cB], .agg #[.int .i64 0, .int .i64 0]]) ∧ PcDj w' w.heap.size w'.heap.size aI aB N M (idr bs) (bitv bs N) l1 h1 l3 h3 ∧ Aside R w w') ∨
  ∃ x : Int × Int, x.1 ≠ 0 ∧ (∀ n1 n3 g L h, ¬ IsPic bs n1 n3 g L h) ∧ e = .returned (.tuple #[.agg #[.slice none 0 0, .int .i64 0, .slice none 0 0], .agg #[.int .i64 x.1, .int .i64 x.2]]) ∧ Aside R w w'

set_option maxRecDepth 100000 in
set_option maxHeartbeats 1000000 in
theorem caughtP_any (R : Nat) (bs : List Int) (w : World) (hlt : R < w.heap.size)
    (hread : Calls Tryz.prog 42 #[.pointer (some ⟨R, 0, none⟩)] ((w.alloc (.cells #[.slice none 0 0, .int .i64 0, .slice none 0 0] 39)).alloc (.cells #[.int .i64 0, .int .i64 0] 60)) fun e w' => PctOut ((w.alloc (.cells #[.slice none 0 0, .int .i64 0, .slice none 0 0] 39)).alloc (.cells #[.int .i64 0, .int .i64 0] 60)) R bs e w') :
    Calls Tryz.prog 41 #[.func (Fn.func 42) #[.pointer (some ⟨R, 0, none⟩)] #[]] w fun e w' => CgpOut w R bs e w' := by
  have HH := hread
  have hmf : ∀ (fn : Fn) (first cap : Array Value) (w : World), (Instr.makeFunc fn first cap).run Tryz.prog w = .ok (.func fn first cap) w := fun _ _ _ _ => rfl
  have FX : Hid (∀ V, Aside R ((w.alloc (.cells #[.slice none 0 0, .int .i64 0, .slice none 0 0] 39)).alloc (.cells #[.int .i64 0, .int .i64 0] 60)) V → V.cell? ⟨w.heap.size, 0, none⟩ = some (.slice none 0 0) ∧ V.cell? ⟨w.heap.size, 1, none⟩ = some (.int .i64 0) ∧ V.cell? ⟨w.heap.size, 2, none⟩ = some (.slice none 0 0) ∧ V.cell? ⟨w.heap.size + 1, 0, none⟩ = some (.int .i64 0) ∧ V.cell? ⟨w.heap.size + 1, 1, none⟩ = some (.int .i64 0) ∧ V.frozen? ⟨w.heap.size, 0, none⟩ = false ∧ V.frozen? ⟨w.heap.size, 1, none⟩ = false ∧ V.frozen? ⟨w.heap.size, 2, none⟩ = false ∧ V.frozen? ⟨w.heap.size + 1, 0, none⟩ = false ∧ V.frozen? ⟨w.heap.size + 1, 1, none⟩ = false ∧ w.heap.size + 2 ≤ V.heap.size) := by
    intro V ha
    have hs := ha.size
    simp at hs
    have hne : ∀ k, w.heap.size ≤ k → k ≠ R := by intro k hk; omega
    refine ⟨?_, ?_, ?_, ?_, ?_, ?_, ?_, ?_, ?_, ?_, by omega⟩
    · rw [ha.cell (p := ⟨w.heap.size, 0, none⟩) (by simp; omega) (hne _ (Nat.le_refl _))]; simp [go_sem]
    · rw [ha.cell (p := ⟨w.heap.size, 1, none⟩) (by simp; omega) (hne _ (Nat.le_refl _))]; simp [go_sem]
    · rw [ha.cell (p := ⟨w.heap.size, 2, none⟩) (by simp; omega) (hne _ (Nat.le_refl _))]; simp [go_sem]
    · rw [ha.cell (p := ⟨w.heap.size + 1, 0, none⟩) (by simp) (hne _ (Nat.le_succ _))]; simp [go_sem]
    · rw [ha.cell (p := ⟨w.heap.size + 1, 1, none⟩) (by simp) (hne _ (Nat.le_succ _))]; simp [go_sem]
    · rw [ha.frozen (p := ⟨w.heap.size, 0, none⟩) (by simp; omega) (hne _ (Nat.le_refl _))]; simp [go_sem]
    · rw [ha.frozen (p := ⟨w.heap.size, 1, none⟩) (by simp; omega) (hne _ (Nat.le_refl _))]; simp [go_sem]
    · rw [ha.frozen (p := ⟨w.heap.size, 2, none⟩) (by simp; omega) (hne _ (Nat.le_refl _))]; simp [go_sem]
    · rw [ha.frozen (p := ⟨w.heap.size + 1, 0, none⟩) (by simp) (hne _ (Nat.le_succ _))]; simp [go_sem]
    · rw [ha.frozen (p := ⟨w.heap.size + 1, 1, none⟩) (by simp) (hne _ (Nat.le_succ _))]; simp [go_sem]
  clear hread
  go_enter_defers Tryz.func41, Tryz.ntmps41
  go_wp2_with fail
  refine HH.mono ?_
  clear HH
  rintro e V (⟨N, Lt, M, aI, aB, cI, cB, l1, h1, l3, h3, hp, rfl, hs, has⟩ | ⟨x, hnz, hno, rfl, has⟩)
  · have B1 := FX.out V has
    obtain ⟨x0, x1, x2, y0, y1, f0, f1, f2, f3, f4, hz⟩ := B1
    have HP : Hid (PicR bs N Lt M) := hp
    clear hp
    go_wp2
    refine leaves_cons (f := 69) (args := #[.pointer (some ⟨w.heap.size + 1, 0, none⟩)]) (by simp) (by simp [go_sem]) ?_
    refine (catchP_idle (w.heap.size + 1) _).mono ?_
    rintro e u' w'' ⟨rfl, rfl, rfl⟩
    obtain ⟨U, hU⟩ : ∃ U, U = ((((V.setCell ⟨w.heap.size, 0, none⟩ (.slice aI N cI)).setCell ⟨w.heap.size, 1, none⟩ (.int .i64 Lt)).setCell ⟨w.heap.size, 2, none⟩ (.slice aB M cB)).setCell ⟨w.heap.size + 1, 0, none⟩ (.int .i64 0)).setCell ⟨w.heap.size + 1, 1, none⟩ (.int .i64 0) := ⟨_, rfl⟩
    rw [← hU]
    have hUz : U.heap.size = V.heap.size := by rw [hU]; simp
    have key : ∀ j k, k < V.heap.size → ∀ o, (U.alloc o).cell? ⟨k, j, none⟩ = U.cell? ⟨k, j, none⟩ := fun j k hk o => (bcell (bel0 U o)).1 _ _ (by omega)
    have u0 : U.cell? ⟨w.heap.size, 0, none⟩ = some (.slice aI N cI) := by rw [hU]; simp [go_sem, x0]
    have u1 : U.cell? ⟨w.heap.size, 1, none⟩ = some (.int .i64 Lt) := by rw [hU]; simp [go_sem, x1]
    have u2 : U.cell? ⟨w.heap.size, 2, none⟩ = some (.slice aB M cB) := by rw [hU]; simp [go_sem, x2]
    have u3 : U.cell? ⟨w.heap.size + 1, 0, none⟩ = some (.int .i64 0) := by rw [hU]; simp [go_sem, y0]
    have u4 : U.cell? ⟨w.heap.size + 1, 1, none⟩ = some (.int .i64 0) := by rw [hU]; simp [go_sem, y1]
    have k0 := fun o => (key 0 w.heap.size (by omega) o).trans u0
    have k1 := fun o => (key 1 w.heap.size (by omega) o).trans u1
    have k2 := fun o => (key 2 w.heap.size (by omega) o).trans u2
    have k3 := fun o => (key 0 (w.heap.size + 1) (by omega) o).trans u3
    have k4 := fun o => (key 1 (w.heap.size + 1) (by omega) o).trans u4
    refine ⟨.tuple #[.agg #[.slice aI N cI, .int .i64 Lt, .slice aB M cB], .agg #[.int .i64 0, .int .i64 0]], by simp [results, Tryz.results41, go_sem, k0, k1, k2, k3, k4], ?_⟩
    have row : ∀ {lo hi : Nat} {a : Option Addr} {n : Nat} {f : Nat → Value}, RowFIn V lo hi a n f → w.heap.size + 1 < lo → RowFIn U lo hi a n f := by
      intro lo hi a n f hr hl
      rw [hU]
      exact rowF_aside (rowF_aside (rowF_aside (rowF_aside (rowF_aside hr ((Aside.refl w.heap.size _).set 0 _) (by omega)) ((Aside.refl w.heap.size _).set 1 _) (by omega)) ((Aside.refl w.heap.size _).set 2 _) (by omega)) ((Aside.refl (w.heap.size + 1) _).set 0 _) hl) ((Aside.refl (w.heap.size + 1) _).set 1 _) hl
    have asU : Aside R w U := by
      rw [hU]
      exact (((((Aside.of (bel2 _ _ _)).trans has).setHigh (p := ⟨w.heap.size, 0, none⟩) (Nat.le_refl _) _).setHigh (p := ⟨w.heap.size, 1, none⟩) (Nat.le_refl _) _).setHigh (p := ⟨w.heap.size, 2, none⟩) (Nat.le_refl _) _).setHigh (p := ⟨w.heap.size + 1, 0, none⟩) (Nat.le_succ _) _ |>.setHigh (p := ⟨w.heap.size + 1, 1, none⟩) (Nat.le_succ _) _
    have g1 := hs.i1
    have g3 := hs.i3
    simp at g1 g3
    refine .inl ⟨N, Lt, M, aI, aB, cI, cB, l1, h1, l3, h3, HP.out, rfl, ?_, asU.trans (Aside.of (bel0 _ _))⟩
    exact ⟨⟨by omega, by simp; omega⟩, ⟨by omega, by simp; omega⟩, hs.d13, Nat.le_refl _, (row hs.r1 (by omega)).later (bel0 _ _), (row hs.r3 (by omega)).later (bel0 _ _)⟩
  · have B1 := FX.out V has
    obtain ⟨x0, x1, x2, y0, y1, f0, f1, f2, f3, f4, hz⟩ := B1
    refine leaves_cons (f := 69) (args := #[.pointer (some ⟨w.heap.size + 1, 0, none⟩)]) (by simp) (by simp [go_sem]) ?_
    refine (catchP_panicking (w.heap.size + 1) _ _ 0 0 [] V (by omega) y0 y1 f3 f4).mono ?_
    rintro e u' w'' ⟨rfl, rfl, rfl⟩
    have q0 := fun o => ((bcell (bel0 V o)).1 w.heap.size 0 (by omega)).trans x0
    have q1 := fun o => ((bcell (bel0 V o)).1 w.heap.size 1 (by omega)).trans x1
    have q2 := fun o => ((bcell (bel0 V o)).1 w.heap.size 2 (by omega)).trans x2
    have q3 := fun o => ((bcell (bel0 V o)).1 (w.heap.size + 1) 0 (by omega)).trans y0
    have q4 := fun o => ((bcell (bel0 V o)).1 (w.heap.size + 1) 1 (by omega)).trans y1
    refine ⟨.tuple #[.agg #[.slice none 0 0, .int .i64 0, .slice none 0 0], .agg #[.int .i64 x.1, .int .i64 x.2]], by simp [results, Tryz.results41, go_sem, q0, q1, q2, q3, q4], ?_⟩
    exact .inr ⟨x, hnz, hno, rfl, (((Aside.of (bel2 _ _ _)).trans has).trans (Aside.of (bel0 _ _)) |>.setHigh (p := ⟨w.heap.size + 1, 0, none⟩) (Nat.le_succ _) _).setHigh (p := ⟨w.heap.size + 1, 1, none⟩) (Nat.le_succ _) _⟩

end Go.Proofs.YtiajhekjojeaeaaGreat

/-
  The program's DecodePicture.
-/
namespace Go.Proofs.YtiajhekjojeaeaaGreat
open Go.RowKit

theorem conv_none (w : World) : (convert 22 9 (.slice none 0 0)).run Tryz.prog w = .ok (.string (strOfNums [])) w := by
  kernel_rfl
theorem conv_own {w : World} {base : Nat} {v : Value} {ys : List Int} (h : OwnY w base v ys) : (convert 22 9 v).run Tryz.prog w = .ok (.string (strOfNums ys)) w := by
  by_cases hy : ys = []
  · subst hy
    rcases h.2 with ⟨h1, _⟩ | ⟨g, cap, cur, h1, _⟩
    · rw [h1]; exact conv_none w
    · rw [h1]
      exact run_convert_bytes_arg w 22 5 Tryz.underlying22 Tryz.underlying5 g 0 0 cap [] rfl (fun j hj => by simp at hj) 9 Tryz.underlying9
  · obtain ⟨a, c, rfl, hr⟩ := h.row
    exact conv_str hr.row hy c

theorem equal_any (v1 v2 : Value) (xs ys : List Int) (w : World) (h1 : (convert 22 9 v1).run Tryz.prog w = .ok (.string (strOfNums xs)) w) (h2 : (convert 22 9 v2).run Tryz.prog w = .ok (.string (strOfNums ys)) w) (hx : U8 xs) (hy : U8 ys) :
    Calls Tryz.prog 43 #[v1, v2] w fun e w' => e = .returned (.bool (decide (xs = ys))) ∧ w' = w := by
  have HE : Hid ((strOfNums xs == strOfNums ys) = decide (xs = ys)) := str_same hx hy
  have hl := str_list (strOfNums xs) (strOfNums ys)
  rw [HE.out] at hl
  obtain ⟨t, ht⟩ : ∃ t, t = decide (xs = ys) := ⟨_, rfl⟩
  rw [← ht] at hl ⊢
  clear HE ht hx hy
  go_enter Tryz.func43, Tryz.ntmps43
  go_wp2
  go_ret
  exact ⟨by first | rfl | rw [hl], rfl⟩

theorem encPV_u8 (n1 n3 : Nat) (g : Nat → Int) (L : Int) (h : Nat → Bool) : U8 (encPV n1 n3 g L h) := by
  cases hv : validPc n1 n3 g L
  · rw [encPV_bad hv]; intro z hz; simp at hz
  · rw [encPV_ok hv]; exact encPc_u8 _ _ _ _ _

theorem IsPic.other {bs : List Int} {n1 n3 : Nat} {g g' : Nat → Int} {L : Int} {h : Nat → Bool} (p : IsPic bs n1 n3 g L h) (e : ∀ i, i < n1 → g i = g' i) : IsPic bs n1 n3 g' L h := by
  refine ⟨?_, ?_⟩
  · have h1 := p.ok
    unfold validPc at h1 ⊢
    have h2 : (List.range n1).all (idOK g') = (List.range n1).all (idOK g) := by
      rw [Bool.eq_iff_iff, List.all_eq_true, List.all_eq_true]
      constructor
      · intro hq i hi
        have := hq i hi
        unfold idOK at this ⊢
        rw [e i (List.mem_range.1 hi)]
        exact this
      · intro hq i hi
        have := hq i hi
        unfold idOK at this ⊢
        rw [← e i (List.mem_range.1 hi)]
        exact this
    rw [h2]
    exact h1
  · have h1 := p.enc
    unfold encPc at h1 ⊢
    rw [← idsB_congr n1 e]
    exact h1

/-- If there is a picture, it is what was read. -/
theorem PicR.found {bs : List Int} {N Lt M : Nat} (q : PicR bs N Lt M) {n1 n3 : Nat} {g : Nat → Int} {L : Int} {h : Nat → Bool} (p : IsPic bs n1 n3 g L h) : IsPic bs N M (idr bs) Lt (bitv bs N) := by
  have hr : IsPic bs N M (idv bs) Lt (bitv bs N) := p.read ⟨q.n, q.l⟩ (by rw [q.m]; push_cast; rfl)
  refine hr.other (fun i hi => ?_)
  have hb := hr.bounds.2.2.2.2 i hi
  unfold idv at hb ⊢
  unfold idr sgn32
  by_cases h1 : numB bs (7 + 4 * i) 4 = 4294967295
  · rw [if_pos h1, if_neg (by omega), h1]
    rfl
  · rw [if_neg h1] at hb ⊢
    rw [if_pos (by omega)]
theorem PicR.made {bs : List Int} {N Lt M : Nat} (hne : bs ≠ []) (he : encPV N M (idr bs) Lt (bitv bs N) = bs) : IsPic bs N M (idr bs) Lt (bitv bs N) := by
  cases hv : validPc N M (idr bs) Lt
  · rw [encPV_bad hv] at he
    exact absurd he.symm hne
  · rw [encPV_ok hv] at he
    exact ⟨hv, he⟩

theorem picture_all (R : Nat) (a : Option Addr) (c : Nat) (bs : List Int) (w : World) (hl : bs.length ≤ 1048576) (hc : bs.length ≤ c) (hu : U8 bs) (hz : RowAt .u8 w a bs) (hR : R < w.heap.size) (hap : ∀ b off, a = some ⟨b, off, none⟩ → bs ≠ [] → b ≠ R) (c0 : w.cell? ⟨R, 0, none⟩ = some (.slice a bs.length c)) (c1 : w.cell? ⟨R, 1, none⟩ = some (.int .i64 0)) (fr : w.frozen? ⟨R, 1, none⟩ = false) :
    Calls Tryz.prog 42 #[.pointer (some ⟨R, 0, none⟩)] w fun e w' => PctOut w R bs e w' := by
  by_cases hb : bs = []
  · subst hb
    refine (picture_none R a c w c0 c1 hR).mono ?_
    intro e w' h
    exact .inr ⟨(5, 0), by decide, fun n1 n3 g L h p => by have := p.len; simp at this; omega, h⟩
  · obtain ⟨b, off, rfl, h2, h3⟩ := hz.resolve_left hb
    exact picture_any R b off c bs w hu h2 ⟨c0, c1, fr, hR, .inr ⟨b, off, rfl, h2, h3⟩, hap b off rfl hb, Nat.zero_le _, hc, hl⟩

set_option maxRecDepth 100000 in
set_option maxHeartbeats 1000000 in
theorem decPI_any : DecPSays 15 := by
  intro a c bs w hl hc hu hz
  have HU : Hid (U8 bs) := hu
  have HZ : Hid (RowAt .u8 w a bs) := hz
  have hmf : ∀ (fn : Fn) (first cap : Array Value) (w : World), (Instr.makeFunc fn first cap).run Tryz.prog w = .ok (.func fn first cap) w := fun _ _ _ _ => rfl
  have HAP : Hid (∀ b off, a = some ⟨b, off, none⟩ → bs ≠ [] → b ≠ w.heap.size + 1) := by
    intro b off e1 e2
    obtain ⟨b', off', e3, e4, _⟩ := hz.resolve_left e2
    rw [e1] at e3
    cases e3
    omega
  clear hu hz
  go_enter Tryz.func15, Tryz.ntmps15
  go_wp2_with fail
  refine (caughtP_any (w.heap.size + 1) bs _ (by simp) ?_).mono ?_
  · refine picture_all (w.heap.size + 1) a c bs _ hl hc HU.out (HZ.out.later ?_) (by simp <;> omega) HAP.out (by simp [go_sem]) (by simp [go_sem]) (by simp [go_sem])
    exact ((bel2 _ _ _).alloc (by simp; omega) _).alloc (by simp; omega) _
  rintro e V (⟨N, Lt, M, aI, aB, cI, cB, l1, h1, l3, h3, hp, rfl, hs, has⟩ | ⟨x, hnz, hno, rfl, has⟩)
  · have hsz := has.size
    simp at hsz
    obtain ⟨W, hW⟩ : ∃ W, W = (V.alloc (.cells #[.slice aI N cI, .int .i64 Lt, .slice aB M cB] 39)).alloc (.cells #[.int .i64 0, .int .i64 0] 60) := ⟨_, rfl⟩
    have hbW : Below V.heap.size V W := by rw [hW]; exact bel2 _ _ _
    have hbV : Below w.heap.size w V := (bel2 _ _ _).trans (has.below (Nat.le_succ _) (by simp; omega))
    have key : ∀ j, W.cell? ⟨w.heap.size, j, none⟩ = (w.alloc (.cells #[.slice none 0 0, .int .i64 0, .slice none 0 0] 39)).cell? ⟨w.heap.size, j, none⟩ ∧ W.frozen? ⟨w.heap.size, j, none⟩ = (w.alloc (.cells #[.slice none 0 0, .int .i64 0, .slice none 0 0] 39)).frozen? ⟨w.heap.size, j, none⟩ := by
      intro j
      exact ⟨(((bcell hbW).1 _ _ (by omega)).trans (has.cell (p := ⟨w.heap.size, j, none⟩) (by simp; omega) (by simp))).trans ((bcell (bel0 _ _)).1 _ _ (by simp)), (((bcell hbW).2 _ _ (by omega)).trans (has.frozen (p := ⟨w.heap.size, j, none⟩) (by simp; omega) (by simp))).trans ((bcell (bel0 _ _)).2 _ _ (by simp))⟩
    have q0 : W.cell? ⟨w.heap.size, 0, none⟩ = some (.slice none 0 0) := by rw [(key 0).1]; simp [go_sem]
    have q1 : W.cell? ⟨w.heap.size, 1, none⟩ = some (.int .i64 0) := by rw [(key 1).1]; simp [go_sem]
    have q2 : W.cell? ⟨w.heap.size, 2, none⟩ = some (.slice none 0 0) := by rw [(key 2).1]; simp [go_sem]
    have f0 : W.frozen? ⟨w.heap.size, 0, none⟩ = false := by rw [(key 0).2]; simp [go_sem]
    have f1 : W.frozen? ⟨w.heap.size, 1, none⟩ = false := by rw [(key 1).2]; simp [go_sem]
    have f2 : W.frozen? ⟨w.heap.size, 2, none⟩ = false := by rw [(key 2).2]; simp [go_sem]
    have p0 : W.cell? ⟨V.heap.size, 0, none⟩ = some (.slice aI N cI) := by rw [hW]; simp [go_sem]
    have p1 : W.cell? ⟨V.heap.size, 1, none⟩ = some (.int .i64 Lt) := by rw [hW]; simp [go_sem]
    have p2 : W.cell? ⟨V.heap.size, 2, none⟩ = some (.slice aB M cB) := by rw [hW]; simp [go_sem]
    have hzW : W.heap.size = V.heap.size + 2 := by rw [hW]; simp
    have HPR : Hid (PicR bs N Lt M) := hp
    have hne : bs ≠ [] := bs_ne hp.n
    have HPA : Hid (PcAt W aI aB N M (idr bs) (bitv bs N)) := hs.at.later hbW
    have hNM : N + M ≤ 1048576 := by
      have h1 := hp.n40
      have h2 := hp.l4
      have h3 : M ≤ 40 * 4 := by rw [hp.m]; exact Nat.mul_le_mul h1 h2
      omega
    have HSV : Hid (∀ U, Aside w.heap.size W U → PcDj U w.heap.size U.heap.size aI aB N M (idr bs) (bitv bs N) l1 h1 l3 h3 ∧ Below w.heap.size w U) := by
      intro U hU
      have hUz := hU.size
      have g1 := hs.i1
      have g3 := hs.i3
      simp at g1 g3
      refine ⟨⟨⟨by omega, by omega⟩, ⟨by omega, by omega⟩, hs.d13, Nat.le_refl _, rowF_aside (hs.r1.later hbW) hU (by omega), rowF_aside (hs.r3.later hbW) hU (by omega)⟩, ?_⟩
      exact (hbV.trans (hbW.mono (by omega))).trans (hU.below (Nat.le_refl _) (by omega))
    have HZV : Hid (RowAt .u8 W a bs) := HZ.out.later (hbV.trans (hbW.mono (by omega)))
    clear hs has key hbW hbV hp
    go_wp2_with fail
    rw [← hW]
    clear hW
    refine (encPN_any aI aB N M cI cB Lt (idr bs) (bitv bs N) W hNM HPA.out).mono ?_
    rintro e W2 ⟨v, rfl, ho, hb2⟩
    have hcv := conv_own ho
    have hcb := conv_str (HZV.out.later hb2) hne c
    have A2 : Hid (Aside w.heap.size W W2) := Aside.of hb2
    have r0 := ((bcell hb2).1 w.heap.size 0 (by omega)).trans q0
    have r1 := ((bcell hb2).1 w.heap.size 1 (by omega)).trans q1
    have r2 := ((bcell hb2).1 w.heap.size 2 (by omega)).trans q2
    have s0 := ((bcell hb2).2 w.heap.size 0 (by omega)).trans f0
    have s1 := ((bcell hb2).2 w.heap.size 1 (by omega)).trans f1
    have s2 := ((bcell hb2).2 w.heap.size 2 (by omega)).trans f2
    have t0 := ((bcell hb2).1 V.heap.size 0 (by omega)).trans p0
    have t1 := ((bcell hb2).1 V.heap.size 1 (by omega)).trans p1
    have t2 := ((bcell hb2).1 V.heap.size 2 (by omega)).trans p2
    have HC : Hid ((convert 22 9 v).run Tryz.prog W2 = .ok (.string (strOfNums (encPV N M (idr bs) Lt (bitv bs N)))) W2 ∧ (convert 22 9 (.slice a bs.length c)).run Tryz.prog W2 = .ok (.string (strOfNums bs)) W2) := ⟨hcv, hcb⟩
    clear ho hb2 hcv hcb q0 q1 q2 f0 f1 f2 p0 p1 p2 HZV
    go_wp2_with fail
    refine (equal_any v (.slice a bs.length c) _ bs W2 HC.out.1 HC.out.2 (encPV_u8 _ _ _ _ _) HU.out).mono ?_
    rintro e W3 ⟨rfl, rfl⟩
    by_cases heq : encPV N M (idr bs) Lt (bitv bs N) = bs
    · have HPic : Hid (IsPic bs N M (idr bs) Lt (bitv bs N)) := PicR.made hne heq
      rw [decide_eq_true heq]
      clear heq HC
      go_wp2
      refine bodyPost_ret (v := .tuple #[.agg #[.slice aI N cI, .int .i64 Lt, .slice aB M cB], .int .i64 0]) (by simp [results, Tryz.results15, go_sem, r0, r1, r2]) rfl ?_
      have hU := HSV.out _ (((A2.out.set 0 (.slice aI N cI)).set 1 (.int .i64 Lt)).set 2 (.slice aB M cB))
      exact ⟨aI, aB, cI, cB, N, M, idr bs, Lt, bitv bs N, 0, l1, h1, l3, h3, rfl, .inl ⟨rfl, HPic.out⟩, hU.1, hU.2⟩
    · have HNo : Hid (∀ n1 n3 g L h, ¬ IsPic bs n1 n3 g L h) := fun n1 n3 g L h p => heq (by
        have q := HPR.out.found p
        rw [encPV_ok q.ok]
        exact q.enc)
      rw [decide_eq_false heq]
      clear heq HC
      go_wp2
      refine bodyPost_ret (v := .tuple #[.agg #[.slice none 0 0, .int .i64 0, .slice none 0 0], .int .i64 1]) (by simp [results, Tryz.results15, go_sem, r0, r1, r2]) rfl ?_
      have hU := HSV.out _ (((A2.out.set 0 (.slice none 0 0)).set 1 (.int .i64 0)).set 2 (.slice none 0 0))
      exact badP HNo.out hU.2 rfl
  · have hsz := has.size
    simp at hsz
    obtain ⟨W, hW⟩ : ∃ W, W = (V.alloc (.cells #[.slice none 0 0, .int .i64 0, .slice none 0 0] 39)).alloc (.cells #[.int .i64 x.1, .int .i64 x.2] 60) := ⟨_, rfl⟩
    have hbW : Below V.heap.size V W := by rw [hW]; exact bel2 _ _ _
    have hbV : Below w.heap.size w V := (bel2 _ _ _).trans (has.below (Nat.le_succ _) (by simp; omega))
    have key : ∀ j, W.cell? ⟨w.heap.size, j, none⟩ = (w.alloc (.cells #[.slice none 0 0, .int .i64 0, .slice none 0 0] 39)).cell? ⟨w.heap.size, j, none⟩ ∧ W.frozen? ⟨w.heap.size, j, none⟩ = (w.alloc (.cells #[.slice none 0 0, .int .i64 0, .slice none 0 0] 39)).frozen? ⟨w.heap.size, j, none⟩ := by
      intro j
      exact ⟨(((bcell hbW).1 _ _ (by omega)).trans (has.cell (p := ⟨w.heap.size, j, none⟩) (by simp; omega) (by simp))).trans ((bcell (bel0 _ _)).1 _ _ (by simp)), (((bcell hbW).2 _ _ (by omega)).trans (has.frozen (p := ⟨w.heap.size, j, none⟩) (by simp; omega) (by simp))).trans ((bcell (bel0 _ _)).2 _ _ (by simp))⟩
    have q0 : W.cell? ⟨w.heap.size, 0, none⟩ = some (.slice none 0 0) := by rw [(key 0).1]; simp [go_sem]
    have q1 : W.cell? ⟨w.heap.size, 1, none⟩ = some (.int .i64 0) := by rw [(key 1).1]; simp [go_sem]
    have q2 : W.cell? ⟨w.heap.size, 2, none⟩ = some (.slice none 0 0) := by rw [(key 2).1]; simp [go_sem]
    have f0 : W.frozen? ⟨w.heap.size, 0, none⟩ = false := by rw [(key 0).2]; simp [go_sem]
    have f1 : W.frozen? ⟨w.heap.size, 1, none⟩ = false := by rw [(key 1).2]; simp [go_sem]
    have f2 : W.frozen? ⟨w.heap.size, 2, none⟩ = false := by rw [(key 2).2]; simp [go_sem]
    have p3 : W.cell? ⟨V.heap.size + 1, 0, none⟩ = some (.int .i64 x.1) := by rw [hW]; simp [go_sem]
    have HNo : Hid (∀ n1 n3 g L h, ¬ IsPic bs n1 n3 g L h) := hno
    have hnx : (x.1 != 0) = true := by simpa using hnz
    have HB : Hid (∀ U, Aside w.heap.size W U → Below w.heap.size w U) := fun U hU => (hbV.trans (hbW.mono (by omega))).trans (hU.below (Nat.le_refl _) (by have := hbW.size; omega))
    clear has key hbW hbV hno hnz
    subst hW
    go_wp2
    refine bodyPost_ret (v := .tuple #[.agg #[.slice none 0 0, .int .i64 0, .slice none 0 0], .int .i64 1]) (by simp [results, Tryz.results15, go_sem, q0, q1, q2]) rfl ?_
    exact badP HNo.out (HB.out _ ((((Aside.refl w.heap.size _).set 0 (.slice none 0 0)).set 1 (.int .i64 0)).set 2 (.slice none 0 0))) rfl

end Go.Proofs.YtiajhekjojeaeaaGreat
