/-
  The program's reader: id, several ids, bits.
-/
import Derived.Test.YtcjdnomhnlbmbaaIdF
import Derived.Test.YtcjdnomhnlbmbaaIdGPcRPcSPcT
import Derived.Test.YtcjdnomhnlbmbaaSpR
import Derived.Test.YtcjdnomhnlbmbaaIdE
namespace Go.Proofs.Ytcjdnomhnlbmbaa
open Go.RowKit

/-- A number of 32 bits, with a sign. -/
def sgn32 (v : Int) : Int := if v < 2147483648 then v else v - 4294967296
def shF (bs : List Int) (i size : Nat) : Option (Int × Int) := if bs.length < i + size then some (5, bs.length) else none

theorem shF_ok {bs : List Int} {i size : Nat} (h : shF bs i size = none) : i + size ≤ bs.length := by
  unfold shF at h
  by_cases h1 : bs.length < i + size
  · rw [if_pos h1] at h; cases h
  · omega
theorem shF_bad {bs : List Int} {i size : Nat} {x : Int × Int} (h : shF bs i size = some x) : bs.length < i + size ∧ x = (5, (bs.length : Int)) := by
  unfold shF at h
  by_cases h1 : bs.length < i + size
  · rw [if_pos h1] at h; cases h; exact ⟨h1, rfl⟩
  · rw [if_neg h1] at h; cases h

set_option maxHeartbeats 400000 in
theorem id_ok (R b off c : Nat) (bs : List Int) (i : Nat) (w : World) (hu : U8 bs) (hx : shF bs i 4 = none) (h : RdB w R b off c bs i) :
    Calls Try.prog 83 #[.pointer (some ⟨R, 0, none⟩)] w fun e w' => ReadOut w R b off c bs (i + 4) (.int .i64 (sgn32 (numB bs i 4))) e w' := by
  have hs := shF_ok hx
  have HH : Hid (RdB w R b off c bs i) := h
  have HR := numB_range hu i 4 (by decide)
  have h0 := numB_full hu (by decide) hs
  have HU : Hid (U8 bs) := hu
  clear h hx hu
  go_enter Try.func83, Try.ntmps83
  go_wp2_with fail
  refine (number_ok R b off c bs i 4 _ HU.out (by decide) hs HH.out).mono ?_
  rintro e V ⟨rfl, hrd, has⟩
  have HD : Hid (RdB V R b off c bs (i + 4) ∧ Aside R w V) := ⟨hrd, has⟩
  clear hrd has
  obtain ⟨N, hN⟩ : ∃ N, N = numB bs i 4 := ⟨_, rfl⟩
  rw [← hN] at HR h0 ⊢
  have HN : Hid (N = numB bs i 4) := hN
  clear hN
  by_cases hb : N < 2147483648
  · have HV : Hid (sgn32 (numB bs i 4) = N) := by unfold Hid sgn32; rw [← HN.out, if_pos hb]
    go_wp2
    go_ret
    exact ⟨by rw [HV.out]; rfl, HD.out.1, HD.out.2⟩
  · have HV : Hid (sgn32 (numB bs i 4) = N - 4294967296) := by unfold Hid sgn32; rw [← HN.out, if_neg hb]
    go_wp2
    go_ret
    have h32 : wrap32 N = N - 4294967296 := by unfold wrap32; omega
    have h64 : wrap64 (N - 4294967296) = N - 4294967296 := by unfold wrap64; omega
    refine ⟨?_, HD.out.1, HD.out.2⟩
    rw [HV.out]
    show Ending.returned (.int .i64 (wrap64 (wrap32 N))) = _
    rw [h32, h64]

set_option maxHeartbeats 400000 in
theorem id_bad (R b off c : Nat) (bs : List Int) (i : Nat) (x : Int × Int) (w : World) (hx : shF bs i 4 = some x) (h : RdB w R b off c bs i) :
    Calls Try.prog 83 #[.pointer (some ⟨R, 0, none⟩)] w fun e w' => ThrowOut w R x e w' := by
  obtain ⟨hs, rfl⟩ := shF_bad hx
  go_enter Try.func83, Try.ntmps83
  go_wp2_with fail
  refine (number_short R b off c bs i 4 _ hs h).mono ?_
  rintro e V ⟨rfl, has⟩
  exact ⟨rfl, rfl, has⟩

/-- Numbers with signs, at a place. -/
def idL (bs : List Int) (i0 n : Nat) : List Int := (List.range n).map fun t => sgn32 (numB bs (i0 + 4 * t) 4)
theorem idL_succ (bs : List Int) (i0 n : Nat) : idL bs i0 (n + 1) = idL bs i0 n ++ [sgn32 (numB bs (i0 + 4 * n) 4)] := by
  unfold idL
  rw [List.range_succ, List.map_append]
  rfl
theorem idL_length (bs : List Int) (i0 n : Nat) : (idL bs i0 n).length = n := by simp [idL]

structure IntS (w : World) (R b off c : Nat) (bs : List Int) (i0 j : Nat) (so : Value) (wr : World) : Prop where
  own : wr.ownsRow w.heap.size 3 1 so (idL bs i0 j).length (vals .i64 (idL bs i0 j))
  rd : RdB wr R b off c bs (i0 + 4 * j)
  asd : Aside R w wr
def IntOut (w : World) (R b off c : Nat) (bs : List Int) (i0 n : Nat) (e : Ending) (w' : World) : Prop :=
  (firstF (fun j => shF bs (i0 + 4 * j) 4) n = none ∧ ∃ v, e = .returned v ∧ IntS w R b off c bs i0 n v w') ∨ ∃ x, firstF (fun j => shF bs (i0 + 4 * j) 4) n = some x ∧ ThrowOut w R x e w'

set_option maxRecDepth 100000 in
set_option maxHeartbeats 1000000 in
theorem several_int (R b off c : Nat) (bs : List Int) (i0 n : Nat) (w : World) (hu : U8 bs) (hn : n ≤ 1000) (hb : b < w.heap.size) (h : RdB w R b off c bs i0) :
    Calls Try.prog 82 #[.int .i64 n, .func (Fn.func 83) #[.pointer (some ⟨R, 0, none⟩)] #[]] w fun e w' => IntOut w R b off c bs i0 n e w' := by
  have HU : Hid (U8 bs) := hu
  have HH : Hid (RdB w R b off c bs i0) := h
  have HR : Hid (R < w.heap.size) := h.lt
  have HB : Hid (b < w.heap.size) := hb
  clear hu h hb
  go_enter Try.func82, Try.ntmps82
  go_wp2
  go_loopw [5, 7] (fun so si wr => ∃ (j : Nat), j ≤ n ∧ si = .int .i64 j ∧ Hid (firstF (fun j => shF bs (i0 + 4 * j) 4) j = none) ∧ Hid (IntS w R b off c bs i0 j so wr)) (fun _ si _ => n - (intOf si).toNat)
  case atStart => exact ⟨0, Nat.zero_le _, rfl, rfl, ⟨own_nil _ _ _ _, HH.out, Aside.refl _ _⟩⟩
  case round =>
    obtain ⟨j, hj, rfl, hA, hS⟩ := hrel
    by_cases hlt : j < n
    · have hib : (j : Int) < n := by omega
      cases hF : shF bs (i0 + 4 * j) 4 with
      | none =>
        have HN : Hid (firstF (fun j => shF bs (i0 + 4 * j) 4) (j + 1) = none) := firstF_succ hA.out hF
        have HF : Hid (shF bs (i0 + 4 * j) 4 = none) := hF
        have HE : Hid (idL bs i0 (j + 1) = idL bs i0 j ++ [sgn32 (numB bs (i0 + 4 * j) 4)]) := idL_succ bs i0 j
        have hl : (idL bs i0 j).length ≤ 8388608 := by rw [idL_length]; omega
        clear hF
        go_wp2_with fail
        refine (id_ok R b off c bs (i0 + 4 * j) _ HU.out HF.out hS.out.rd).mono ?_
        rintro e V ⟨rfl, hrd, has⟩
        have HV : Hid (RdB V R b off c bs (i0 + 4 * (j + 1)) ∧ Aside R wr V) := ⟨hrd, has⟩
        have HO : Hid (V.ownsRow w.heap.size 3 1 u5 (idL bs i0 j).length (vals .i64 (idL bs i0 j))) := aside_ownk has hS.out.own HR.out
        have hsz : w.heap.size ≤ V.heap.size := Nat.le_trans hS.out.asd.size has.size
        obtain ⟨y, hy⟩ : ∃ y, y = sgn32 (numB bs (i0 + 4 * j) 4) := ⟨_, rfl⟩
        rw [← hy] at HE ⊢
        clear hrd has HF hy
        go_wp2_with (at_builtin; refine app1 rfl (.tmp 9) (.tmp 12) 23 rfl w.heap.size 3 Try.underlying23 Try.info3 (by decide) _ _ rfl rfl HO.out hl hsz ?_; intro a1 n1 c1 w1 ho1 hb1 hs1)
        have HS : Hid (IntS w R b off c bs i0 (j + 1) (.slice a1 n1 c1) w1) := ⟨by rw [HE.out]; exact ho1, HV.out.1.low hb1 HR.out HB.out, (hS.out.asd.trans HV.out.2).high hb1 (Nat.le_refl _)⟩
        clear ho1 hb1 hs1 HO HV hS hsz hl HE
        go_roundw
        case rel => exact ⟨j + 1, by omega, by go_num, HN, HS⟩
        case measure => simp [intOf]; omega
      | some x =>
        have HX : Hid (firstF (fun j => shF bs (i0 + 4 * j) 4) n = some x) := firstF_hit hlt hA.out hF
        have HF : Hid (shF bs (i0 + 4 * j) 4 = some x) := hF
        clear hF
        go_wp2_with fail
        refine (id_bad R b off c bs (i0 + 4 * j) x _ HF.out hS.out.rd).mono ?_
        rintro e V ⟨rfl, has⟩
        exact ⟨rfl, .inr ⟨x, HX.out, rfl, hS.out.asd.trans has⟩⟩
    · have hje : n = j := by omega
      subst hje
      go_wp2
      go_ret
      exact .inl ⟨hA.out, _, rfl, hS.out⟩

end Go.Proofs.Ytcjdnomhnlbmbaa

/-
  The program's reader: bits.
-/
namespace Go.Proofs.Ytcjdnomhnlbmbaa
open Go.RowKit

/-- A bit of bytes. -/
def bitR (bs : List Int) (i0 j : Nat) : Bool := numB bs (i0 + j / 8) 1 / 2 ^ (j % 8) % 2 == 1
def bitL (bs : List Int) (i0 n : Nat) : List Value := (List.range n).map fun t => Value.bool (bitR bs i0 t)
theorem bitL_succ (bs : List Int) (i0 n : Nat) : bitL bs i0 (n + 1) = bitL bs i0 n ++ [.bool (bitR bs i0 n)] := by
  unfold bitL
  rw [List.range_succ, List.map_append]
  rfl
structure BolS (w : World) (R b off c : Nat) (bs : List Int) (i0 q j : Nat) (so : Value) (wr : World) : Prop where
  own : wr.ownsRow w.heap.size 4 1 so j (bitL bs i0 j)
  rd : RdB wr R b off c bs (i0 + q)
  asd : Aside R w wr
theorem and_one {z : Int} (h0 : 0 ≤ z) (h1 : z < 256) : bits .and .u8 z 1 = z % 2 := by
  obtain ⟨n, rfl⟩ := Int.eq_ofNat_of_zero_le h0
  have e2 : (BitVec.ofInt 8 (n : Int) &&& BitVec.ofInt 8 1).toNat = n % 2 := by
    rw [BitVec.toNat_and, BitVec.ofInt_natCast, BitVec.toNat_ofNat, Nat.mod_eq_of_lt (by omega)]
    have : (BitVec.ofInt 8 1).toNat = 2 ^ 1 - 1 := by decide
    rw [this, Nat.and_two_pow_sub_one_eq_mod]
  show IntKind.u8.wrap ((BitVec.ofInt 8 (n : Int) &&& BitVec.ofInt 8 1).toNat : Int) = _
  rw [e2]
  simp only [IntKind.wrap, IntKind.bits, IntKind.signed]
  simp
  omega
theorem numB_one {bs : List Int} {i : Nat} (h : i + 1 ≤ bs.length) : numB bs i 1 = bs.getD i 0 := by
  unfold numB
  rw [if_neg (by omega)]
  have hd : bs.drop i = bs.getD i 0 :: bs.drop (i + 1) := by
    rw [List.drop_eq_getElem_cons (by omega), List.getD_eq_getElem?_getD, List.getElem?_eq_getElem (by omega)]
    rfl
  rw [hd]
  simp [leV]

set_option maxRecDepth 100000 in
set_option maxHeartbeats 800000 in
theorem bits_ok (R b off c : Nat) (bs : List Int) (i0 n : Nat) (w : World) (hu : U8 bs) (hn : n ≤ 1000) (hb : b < w.heap.size) (hx : i0 + (n + 7) / 8 ≤ bs.length) (h : RdB w R b off c bs i0) :
    Calls Try.prog 84 #[.pointer (some ⟨R, 0, none⟩), .int .i64 n] w fun e w' => ∃ v, e = .returned v ∧ BolS w R b off c bs i0 ((n + 7) / 8) n v w' := by
  have HU : Hid (U8 bs) := hu
  have HH : Hid (RdB w R b off c bs i0) := h
  have HR : Hid (R < w.heap.size) := h.lt
  have HB : Hid (b < w.heap.size) := hb
  have ht : ((n : Int) + 7).tdiv 8 = (((n + 7) / 8 : Nat) : Int) := by rw [Int.tdiv_eq_ediv_of_nonneg (by omega)]; omega
  obtain ⟨q, hq⟩ : ∃ q, q = (n + 7) / 8 := ⟨_, rfl⟩
  have HQ : Hid (n ≤ 8 * q) := by unfold Hid; omega
  have hql : q ≤ 1000 := by omega
  rw [← hq] at ht hx ⊢
  clear hu h hb hq
  go_enter Try.func84, Try.ntmps84
  go_wp2_with fail
  refine (take_ok R b off c bs i0 q _ hx HH.out).mono ?_
  rintro e V ⟨p, k, rfl, hrow, hpb, hrd, has⟩
  have HP : Hid (RowAt .u8 V p (partB bs i0 q) ∧ ∀ b' o', p = some ⟨b', o', none⟩ → b' = b) := ⟨hrow, hpb⟩
  have HD : Hid (RdB V R b off c bs (i0 + q)) := hrd
  have HA : Hid (Aside R w V) := has
  clear hrow hpb hrd has ht
  go_wp2
  go_loopw [6, 7, 14] (fun so _ si wr => ∃ (j : Nat), j ≤ n ∧ si = .int .i64 j ∧ Hid (BolS w R b off c bs i0 q j so wr) ∧ Hid (Below w.heap.size V wr)) (fun _ _ si _ => n - (intOf si).toNat)
  case atStart => exact ⟨0, Nat.zero_le _, rfl, ⟨⟨by simp [bitL], .inl ⟨rfl, rfl⟩⟩, HD.out, HA.out⟩, Below.refl _ _⟩
  case round =>
    obtain ⟨j, hj, rfl, hS, hbb⟩ := hrel
    by_cases hlt : j < n
    · have hib : (j : Int) < n := by omega
      obtain ⟨m, hm⟩ : ∃ m, m = j / 8 := ⟨_, rfl⟩
      have hmq : m < q := by have := HQ.out; omega
      obtain ⟨b1, o1, rfl, hbl, hc⟩ := HP.out.1.resolve_left (by intro e; have := congrArg List.length e; rw [partB_length hx] at this; simp at this; omega)
      have hb1 := HP.out.2 b1 o1 rfl
      subst hb1
      have y0 := (HU.out.at (i0 + m)).1
      have y1 := (HU.out.at (i0 + m)).2
      have qc : wr.cell? ⟨b1, o1 + m, none⟩ = some (.int .u8 (bs.getD (i0 + m) 0)) := by
        have h1 := hc m (by rw [partB_length hx]; exact hmq)
        rw [partB_get hmq] at h1
        exact (hbb.out.cell (p := ⟨b1, o1 + m, none⟩) HB.out).trans h1
      have HY : Hid (numB bs (i0 + m) 1 = bs.getD (i0 + m) 0) := numB_one (by omega)
      obtain ⟨y, hy⟩ : ∃ y, y = bs.getD (i0 + m) 0 := ⟨_, rfl⟩
      rw [← hy] at y0 y1 qc HY
      have HE : Hid (bitL bs i0 (j + 1) = bitL bs i0 j ++ [.bool (y / 2 ^ (j % 8) % 2 == 1)]) := by unfold Hid; rw [bitL_succ, bitR, ← hm, HY.out]
      have ht : (j : Int).tdiv 8 = (m : Int) := by rw [Int.tdiv_eq_ediv_of_nonneg (by omega)]; omega
      have hmi : (m : Int) < q := by omega
      have hr : (j : Int).tmod 8 = ((j % 8 : Nat) : Int) := by rw [Int.tmod_eq_emod_of_nonneg (by omega)]; omega
      have hown := hS.out.own
      have hsz : w.heap.size ≤ wr.heap.size := hS.out.asd.size
      have hj8 : j % 8 = 0 ∨ j % 8 = 1 ∨ j % 8 = 2 ∨ j % 8 = 3 ∨ j % 8 = 4 ∨ j % 8 = 5 ∨ j % 8 = 6 ∨ j % 8 = 7 := by omega
      clear hc hm hy hbl HY
      rcases hj8 with h8 | h8 | h8 | h8 | h8 | h8 | h8 | h8
      · rw [h8] at hr HE
        have ha : bits .and .u8 y 1 = y % 2 := and_one (by omega) (by omega)
        have HE2 : Hid (bitL bs i0 (j + 1) = bitL bs i0 j ++ [.bool (y % 2 == 1)]) := by unfold Hid; rw [HE.out, show ((2 : Int) ^ 0) = 1 from by decide]; rw [Int.ediv_one]
        clear h8 HE
        go_wp2_with (at_builtin; refine app1b rfl (.tmp 17) (.tmp 28) rfl w.heap.size _ _ j rfl rfl hown (by omega) hsz ?_; intro a1 n1 c1 w1 ho1 hb1 hs1)
        have HS : Hid (BolS w R b1 off c bs i0 q (j + 1) (.slice a1 n1 c1) w1 ∧ Below w.heap.size V w1) := ⟨⟨by rw [HE2.out]; exact ho1, hS.out.rd.low hb1 HR.out HB.out, hS.out.asd.high hb1 (Nat.le_refl _)⟩, hbb.out.trans hb1⟩
        clear ho1 hb1 hs1 hS hsz hown hbb HE2 ha qc ht hr
        go_roundw
        case rel => exact ⟨j + 1, by omega, by go_num, HS.out.1, HS.out.2⟩
        case measure => simp [intOf]; omega
      · rw [h8] at hr HE
        have ha : bits .and .u8 (y / 2) 1 = y / 2 % 2 := and_one (by omega) (by omega)
        have HE2 : Hid (bitL bs i0 (j + 1) = bitL bs i0 j ++ [.bool (y / 2 % 2 == 1)]) := by unfold Hid; rw [HE.out, show ((2 : Int) ^ 1) = 2 from by decide]
        clear h8 HE
        go_wp2_with (at_builtin; refine app1b rfl (.tmp 17) (.tmp 28) rfl w.heap.size _ _ j rfl rfl hown (by omega) hsz ?_; intro a1 n1 c1 w1 ho1 hb1 hs1)
        have HS : Hid (BolS w R b1 off c bs i0 q (j + 1) (.slice a1 n1 c1) w1 ∧ Below w.heap.size V w1) := ⟨⟨by rw [HE2.out]; exact ho1, hS.out.rd.low hb1 HR.out HB.out, hS.out.asd.high hb1 (Nat.le_refl _)⟩, hbb.out.trans hb1⟩
        clear ho1 hb1 hs1 hS hsz hown hbb HE2 ha qc ht hr
        go_roundw
        case rel => exact ⟨j + 1, by omega, by go_num, HS.out.1, HS.out.2⟩
        case measure => simp [intOf]; omega
      · rw [h8] at hr HE
        have ha : bits .and .u8 (y / 4) 1 = y / 4 % 2 := and_one (by omega) (by omega)
        have HE2 : Hid (bitL bs i0 (j + 1) = bitL bs i0 j ++ [.bool (y / 4 % 2 == 1)]) := by unfold Hid; rw [HE.out, show ((2 : Int) ^ 2) = 4 from by decide]
        clear h8 HE
        go_wp2_with (at_builtin; refine app1b rfl (.tmp 17) (.tmp 28) rfl w.heap.size _ _ j rfl rfl hown (by omega) hsz ?_; intro a1 n1 c1 w1 ho1 hb1 hs1)
        have HS : Hid (BolS w R b1 off c bs i0 q (j + 1) (.slice a1 n1 c1) w1 ∧ Below w.heap.size V w1) := ⟨⟨by rw [HE2.out]; exact ho1, hS.out.rd.low hb1 HR.out HB.out, hS.out.asd.high hb1 (Nat.le_refl _)⟩, hbb.out.trans hb1⟩
        clear ho1 hb1 hs1 hS hsz hown hbb HE2 ha qc ht hr
        go_roundw
        case rel => exact ⟨j + 1, by omega, by go_num, HS.out.1, HS.out.2⟩
        case measure => simp [intOf]; omega
      · rw [h8] at hr HE
        have ha : bits .and .u8 (y / 8) 1 = y / 8 % 2 := and_one (by omega) (by omega)
        have HE2 : Hid (bitL bs i0 (j + 1) = bitL bs i0 j ++ [.bool (y / 8 % 2 == 1)]) := by unfold Hid; rw [HE.out, show ((2 : Int) ^ 3) = 8 from by decide]
        clear h8 HE
        go_wp2_with (at_builtin; refine app1b rfl (.tmp 17) (.tmp 28) rfl w.heap.size _ _ j rfl rfl hown (by omega) hsz ?_; intro a1 n1 c1 w1 ho1 hb1 hs1)
        have HS : Hid (BolS w R b1 off c bs i0 q (j + 1) (.slice a1 n1 c1) w1 ∧ Below w.heap.size V w1) := ⟨⟨by rw [HE2.out]; exact ho1, hS.out.rd.low hb1 HR.out HB.out, hS.out.asd.high hb1 (Nat.le_refl _)⟩, hbb.out.trans hb1⟩
        clear ho1 hb1 hs1 hS hsz hown hbb HE2 ha qc ht hr
        go_roundw
        case rel => exact ⟨j + 1, by omega, by go_num, HS.out.1, HS.out.2⟩
        case measure => simp [intOf]; omega
      · rw [h8] at hr HE
        have ha : bits .and .u8 (y / 16) 1 = y / 16 % 2 := and_one (by omega) (by omega)
        have HE2 : Hid (bitL bs i0 (j + 1) = bitL bs i0 j ++ [.bool (y / 16 % 2 == 1)]) := by unfold Hid; rw [HE.out, show ((2 : Int) ^ 4) = 16 from by decide]
        clear h8 HE
        go_wp2_with (at_builtin; refine app1b rfl (.tmp 17) (.tmp 28) rfl w.heap.size _ _ j rfl rfl hown (by omega) hsz ?_; intro a1 n1 c1 w1 ho1 hb1 hs1)
        have HS : Hid (BolS w R b1 off c bs i0 q (j + 1) (.slice a1 n1 c1) w1 ∧ Below w.heap.size V w1) := ⟨⟨by rw [HE2.out]; exact ho1, hS.out.rd.low hb1 HR.out HB.out, hS.out.asd.high hb1 (Nat.le_refl _)⟩, hbb.out.trans hb1⟩
        clear ho1 hb1 hs1 hS hsz hown hbb HE2 ha qc ht hr
        go_roundw
        case rel => exact ⟨j + 1, by omega, by go_num, HS.out.1, HS.out.2⟩
        case measure => simp [intOf]; omega
      · rw [h8] at hr HE
        have ha : bits .and .u8 (y / 32) 1 = y / 32 % 2 := and_one (by omega) (by omega)
        have HE2 : Hid (bitL bs i0 (j + 1) = bitL bs i0 j ++ [.bool (y / 32 % 2 == 1)]) := by unfold Hid; rw [HE.out, show ((2 : Int) ^ 5) = 32 from by decide]
        clear h8 HE
        go_wp2_with (at_builtin; refine app1b rfl (.tmp 17) (.tmp 28) rfl w.heap.size _ _ j rfl rfl hown (by omega) hsz ?_; intro a1 n1 c1 w1 ho1 hb1 hs1)
        have HS : Hid (BolS w R b1 off c bs i0 q (j + 1) (.slice a1 n1 c1) w1 ∧ Below w.heap.size V w1) := ⟨⟨by rw [HE2.out]; exact ho1, hS.out.rd.low hb1 HR.out HB.out, hS.out.asd.high hb1 (Nat.le_refl _)⟩, hbb.out.trans hb1⟩
        clear ho1 hb1 hs1 hS hsz hown hbb HE2 ha qc ht hr
        go_roundw
        case rel => exact ⟨j + 1, by omega, by go_num, HS.out.1, HS.out.2⟩
        case measure => simp [intOf]; omega
      · rw [h8] at hr HE
        have ha : bits .and .u8 (y / 64) 1 = y / 64 % 2 := and_one (by omega) (by omega)
        have HE2 : Hid (bitL bs i0 (j + 1) = bitL bs i0 j ++ [.bool (y / 64 % 2 == 1)]) := by unfold Hid; rw [HE.out, show ((2 : Int) ^ 6) = 64 from by decide]
        clear h8 HE
        go_wp2_with (at_builtin; refine app1b rfl (.tmp 17) (.tmp 28) rfl w.heap.size _ _ j rfl rfl hown (by omega) hsz ?_; intro a1 n1 c1 w1 ho1 hb1 hs1)
        have HS : Hid (BolS w R b1 off c bs i0 q (j + 1) (.slice a1 n1 c1) w1 ∧ Below w.heap.size V w1) := ⟨⟨by rw [HE2.out]; exact ho1, hS.out.rd.low hb1 HR.out HB.out, hS.out.asd.high hb1 (Nat.le_refl _)⟩, hbb.out.trans hb1⟩
        clear ho1 hb1 hs1 hS hsz hown hbb HE2 ha qc ht hr
        go_roundw
        case rel => exact ⟨j + 1, by omega, by go_num, HS.out.1, HS.out.2⟩
        case measure => simp [intOf]; omega
      · rw [h8] at hr HE
        have ha : bits .and .u8 (y / 128) 1 = y / 128 % 2 := and_one (by omega) (by omega)
        have HE2 : Hid (bitL bs i0 (j + 1) = bitL bs i0 j ++ [.bool (y / 128 % 2 == 1)]) := by unfold Hid; rw [HE.out, show ((2 : Int) ^ 7) = 128 from by decide]
        clear h8 HE
        go_wp2_with (at_builtin; refine app1b rfl (.tmp 17) (.tmp 28) rfl w.heap.size _ _ j rfl rfl hown (by omega) hsz ?_; intro a1 n1 c1 w1 ho1 hb1 hs1)
        have HS : Hid (BolS w R b1 off c bs i0 q (j + 1) (.slice a1 n1 c1) w1 ∧ Below w.heap.size V w1) := ⟨⟨by rw [HE2.out]; exact ho1, hS.out.rd.low hb1 HR.out HB.out, hS.out.asd.high hb1 (Nat.le_refl _)⟩, hbb.out.trans hb1⟩
        clear ho1 hb1 hs1 hS hsz hown hbb HE2 ha qc ht hr
        go_roundw
        case rel => exact ⟨j + 1, by omega, by go_num, HS.out.1, HS.out.2⟩
        case measure => simp [intOf]; omega
    · have hje : n = j := by omega
      subst hje
      go_wp2
      go_ret
      exact ⟨_, rfl, hS.out⟩

set_option maxHeartbeats 400000 in
theorem bits_bad (R b off c : Nat) (bs : List Int) (i0 n : Nat) (w : World) (hn : n ≤ 1000) (hx : bs.length < i0 + (n + 7) / 8) (h : RdB w R b off c bs i0) :
    Calls Try.prog 84 #[.pointer (some ⟨R, 0, none⟩), .int .i64 n] w fun e w' => ThrowOut w R (5, bs.length) e w' := by
  have ht : ((n : Int) + 7).tdiv 8 = (((n + 7) / 8 : Nat) : Int) := by rw [Int.tdiv_eq_ediv_of_nonneg (by omega)]; omega
  have HH : Hid (RdB w R b off c bs i0) := h
  clear h
  obtain ⟨q, hq⟩ : ∃ q, q = (n + 7) / 8 := ⟨_, rfl⟩
  have hql : q ≤ 1000 := by omega
  rw [← hq] at ht hx
  clear hq
  go_enter Try.func84, Try.ntmps84
  go_wp2_with fail
  refine (take_short R b off c bs i0 q _ hx HH.out).mono ?_
  rintro e V ⟨rfl, has⟩
  exact ⟨rfl, rfl, has⟩

end Go.Proofs.Ytcjdnomhnlbmbaa

/-
  The first fault of a scene's bytes, piece by piece, as the program's reader comes to it.
-/
namespace Go.Proofs.Ytcjdnomhnlbmbaa
open Go.RowKit

theorem orF_assoc {α : Type} (x y z : Option α) : orF (orF x y) z = orF x (orF y z) := by
  cases x with
  | none => rfl
  | some x => rfl
theorem orF_nil {α : Type} (x : Option α) : orF x none = x := by
  cases x with
  | none => rfl
  | some x => rfl
theorem firstF_orF {α : Type} (f : Nat → Option α) (n : Nat) : firstF f (n + 1) = orF (firstF f n) (f n) := by
  show (match firstF f n with
    | some x => some x
    | none => f n) = _
  cases firstF f n with
  | none => rfl
  | some x => rfl
theorem firstF_congr {α : Type} {f g : Nat → Option α} : ∀ {n : Nat}, (∀ j, j < n → f j = g j) → firstF f n = firstF g n
  | 0, _ => rfl
  | n + 1, h => by rw [firstF_orF, firstF_orF, firstF_congr (fun j hj => h j (Nat.lt_succ_of_lt hj)), h n (Nat.lt_succ_self _)]
theorem firstF_add {α : Type} (f : Nat → Option α) (a : Nat) : ∀ b, firstF f (a + b) = orF (firstF f a) (firstF (fun j => f (a + j)) b)
  | 0 => by rw [Nat.add_zero]; exact (orF_nil _).symm
  | b + 1 => by rw [← Nat.add_assoc, firstF_orF, firstF_add f a b, firstF_orF, orF_assoc]
theorem firstF_mul {α : Type} (f : Nat → Option α) (m : Nat) : ∀ n, firstF f (m * n) = firstF (fun k => firstF (fun j => f (m * k + j)) m) n
  | 0 => rfl
  | n + 1 => by rw [Nat.mul_succ, firstF_add, firstF_mul f m n, firstF_orF]

theorem mkF_scen (bs : List Int) : mkF [83, 67, 69, 78] bs = magicAt bs := rfl

theorem cnt_eq {bs : List Int} (hu : U8 bs) (k : Nat) : cntF bs (cntPl k) (cntSz k) (cntMo k) = cntAt bs k := by
  have hsz : cntSz k ≤ 4 := by unfold cntSz; split <;> decide
  unfold cntF cntAt cntB
  by_cases h : bs.length < cntPl k + cntSz k
  · rw [if_pos h, if_pos ((numB_neg hu hsz).2 h)]
  · rw [if_neg h, if_neg (fun q => h ((numB_neg hu hsz).1 q))]

theorem flt_eq {bs : List Int} (hu : U8 bs) {c0 c1 i : Nat} (hd : dirAt bs c0 c1 i = false) : fltAt bs c0 c1 i = fltF bs (9 + 4 * i) := by
  unfold fltAt fltF
  by_cases h : bs.length < 9 + 4 * i + 4
  · rw [if_pos h, if_pos ((numB_neg hu (by decide)).2 h)]
  · rw [if_neg h, if_neg (fun q => h ((numB_neg hu (by decide)).1 q)), hd]
    rfl
theorem dir_tri {bs : List Int} {c0 c1 i : Nat} (h : i < 9 * c0) : dirAt bs c0 c1 i = false := by
  unfold dirAt
  rw [decide_eq_false (by omega)]
  rfl
theorem dir_end {bs : List Int} {c0 c1 i : Nat} (h : 9 * c0 + 6 * c1 ≤ i) : dirAt bs c0 c1 i = false := by
  unfold dirAt
  rw [decide_eq_false (p := i < 9 * c0 + 6 * c1) (by omega)]
  simp
theorem dir_mid {bs : List Int} {c0 c1 i : Nat} (h : (i - 9 * c0) % 6 ≠ 5) : dirAt bs c0 c1 i = false := by
  unfold dirAt
  rw [decide_eq_false (p := (i - 9 * c0) % 6 = 5) h]
  simp

theorem fltF_at {bs : List Int} {p q : Nat} (h : p = q) : fltF bs p = fltF bs q := by rw [h]

theorem tri_block {bs : List Int} (hu : U8 bs) {c0 c1 k : Nat} (hk : k < c0) : firstF (fun j => fltAt bs c0 c1 (9 * k + j)) 9 = triF bs (9 + 4 * 9 * k) := by
  have e : ∀ j, j < 9 → fltAt bs c0 c1 (9 * k + j) = fltF bs (9 + 4 * 9 * k + 4 * j) := by
    intro j hj
    rw [flt_eq hu (dir_tri (by omega))]
    exact fltF_at (by omega)
  rw [firstF_congr e]
  simp only [firstF_orF, orF_assoc]
  unfold triF ptF
  simp only [orF_assoc]
  rfl
theorem pt_block {bs : List Int} (hu : U8 bs) {c0 c1 k : Nat} : firstF (fun j => fltAt bs c0 c1 (9 * c0 + 6 * c1 + (3 * k + j))) 3 = ptF bs (9 + 36 * c0 + 24 * c1 + 4 * 3 * k) := by
  have e : ∀ j, j < 3 → fltAt bs c0 c1 (9 * c0 + 6 * c1 + (3 * k + j)) = fltF bs (9 + 36 * c0 + 24 * c1 + 4 * 3 * k + 4 * j) := by
    intro j hj
    rw [flt_eq hu (dir_end (by omega))]
    exact fltF_at (by omega)
  rw [firstF_congr e]
  simp only [firstF_orF, orF_assoc]
  rfl

/-- The last float of a ray. -/
theorem ray_last {bs : List Int} (hu : U8 bs) {c0 c1 k P : Nat} (hk : k < c1) (hP : P = 9 + 36 * c0 + 24 * k) : fltAt bs c0 c1 (9 * c0 + (6 * k + 5)) = orF (fltF bs (P + 12 + 8)) (if noWayB (numB bs (P + 12) 4) (numB bs (P + 12 + 4) 4) (numB bs (P + 12 + 8) 4) = true then some (7, ((P + 12 : Nat) : Int)) else none) := by
  have e1 : 9 + 4 * (9 * c0 + (6 * k + 5)) = P + 12 + 8 := by omega
  have e2 : 1 + 4 * (9 * c0 + (6 * k + 5)) = P + 12 := by omega
  unfold fltAt fltF
  rw [e1, e2]
  by_cases h : bs.length < P + 12 + 8 + 4
  · rw [if_pos h, if_pos ((numB_neg hu (by decide)).2 h)]
    rfl
  · rw [if_neg h, if_neg (fun q => h ((numB_neg hu (by decide)).1 q))]
    by_cases hf : fFin (numB bs (P + 12 + 8) 4) = false
    · rw [if_pos hf, if_pos hf]
      rfl
    · rw [if_neg hf, if_neg hf]
      show _ = if _ then _ else none
      have hd : dirAt bs c0 c1 (9 * c0 + (6 * k + 5)) = noWayB (numB bs (P + 12) 4) (numB bs (P + 12 + 4) 4) (numB bs (P + 12 + 8) 4) := by
        unfold dirAt
        rw [e2, decide_eq_true (p := 9 * c0 ≤ 9 * c0 + (6 * k + 5)) (by omega), decide_eq_true (p := 9 * c0 + (6 * k + 5) < 9 * c0 + 6 * c1) (by omega), decide_eq_true (p := (9 * c0 + (6 * k + 5) - 9 * c0) % 6 = 5) (by omega), flt_num (by omega), flt_num (by omega), flt_num (by omega)]
        rfl
      rw [hd]
theorem ray_block {bs : List Int} (hu : U8 bs) {c0 c1 k : Nat} (hk : k < c1) : firstF (fun j => fltAt bs c0 c1 (9 * c0 + (6 * k + j))) 6 = rayF bs (9 + 36 * c0 + 4 * 6 * k) := by
  have e : ∀ j, j < 5 → fltAt bs c0 c1 (9 * c0 + (6 * k + j)) = fltF bs (9 + 36 * c0 + 4 * 6 * k + 4 * j) := by
    intro j hj
    rw [flt_eq hu (dir_mid (by omega))]
    exact fltF_at (by omega)
  rw [firstF_orF, firstF_congr e, ray_last hu hk (P := 9 + 36 * c0 + 4 * 6 * k) (by omega)]
  simp only [firstF_orF, orF_assoc]
  unfold rayF ptF
  simp only [orF_assoc]
  rfl

/-- Where the rays and the lights begin. -/
theorem tail_split {bs : List Int} (hu : U8 bs) (c0 c1 c2 : Nat) : firstF (fltAt bs c0 c1) (fltN c0 c1 c2) =
    orF (firstF (fun j => triF bs (9 + 4 * 9 * j)) c0) (orF (firstF (fun j => rayF bs (9 + 36 * c0 + 4 * 6 * j)) c1) (firstF (fun j => ptF bs (9 + 36 * c0 + 24 * c1 + 4 * 3 * j)) c2)) := by
  unfold fltN
  rw [firstF_add, firstF_add, firstF_mul, firstF_mul, firstF_mul, orF_assoc]
  rw [firstF_congr (fun k hk => tri_block hu hk), firstF_congr (fun k hk => ray_block hu hk), firstF_congr (fun k _ => pt_block hu)]

end Go.Proofs.Ytcjdnomhnlbmbaa

/-
  The program's reader: scene.
-/
namespace Go.Proofs.Ytcjdnomhnlbmbaa
open Go.RowKit

theorem rowIn_aside {k : IntKind} {w w' : World} {lo hi R : Nat} {a : Option Addr} {zs : List Int} (h : RowIn k w lo hi a zs) (ha : Aside R w w') (hR : R < lo) : RowIn k w' lo hi a zs := by
  rcases h with h | ⟨b, off, q1, q0, q00, q2, q3, q4⟩
  · exact .inl h
  · exact .inr ⟨b, off, q1, q0, q00, Nat.lt_of_lt_of_le q2 ha.size, fun j hj => (ha.cell (p := ⟨b, off + j, none⟩) q2 (by simp; omega)).trans (q3 j hj), fun j hj => (ha.frozen (p := ⟨b, off + j, none⟩) q2 (by simp; omega)).trans (q4 j hj)⟩

/-- A box of three values that may be written. -/
structure BxF (w : World) (X : Nat) (v0 v1 v2 : Value) : Prop where
  lt : X < w.heap.size
  q0 : w.cell? ⟨X, 0, none⟩ = some v0
  q1 : w.cell? ⟨X, 1, none⟩ = some v1
  q2 : w.cell? ⟨X, 2, none⟩ = some v2
  fr : ∀ j, w.frozen? ⟨X, j, none⟩ = false
theorem BxF.aside {w w' : World} {X R : Nat} {v0 v1 v2 : Value} (h : BxF w X v0 v1 v2) (ha : Aside R w w') (hR : X ≠ R) : BxF w' X v0 v1 v2 :=
  ⟨Nat.lt_of_lt_of_le h.lt ha.size, (ha.cell (p := ⟨X, 0, none⟩) h.lt hR).trans h.q0, (ha.cell (p := ⟨X, 1, none⟩) h.lt hR).trans h.q1, (ha.cell (p := ⟨X, 2, none⟩) h.lt hR).trans h.q2, fun j => (ha.frozen (p := ⟨X, j, none⟩) h.lt hR).trans (h.fr j)⟩
theorem BxF.new (w : World) (v0 v1 v2 : Value) (t : TypeId) : BxF (w.alloc (.cells #[v0, v1, v2] t)) w.heap.size v0 v1 v2 :=
  ⟨by simp, by simp [go_sem], by simp [go_sem], by simp [go_sem], fun j => by simp [go_sem]⟩
theorem BxF.other {w : World} {X k : Nat} {v0 v1 v2 : Value} (h : BxF w X v0 v1 v2) (hk : k ≠ X) (j : Nat) (v : Value) : BxF (w.setCell ⟨k, j, none⟩ v) X v0 v1 v2 :=
  h.aside ((Aside.refl k w).set j v) (fun e => hk e.symm)
theorem BxF.set0 {w : World} {X : Nat} {v0 v1 v2 : Value} (h : BxF w X v0 v1 v2) (v : Value) : BxF (w.setCell ⟨X, 0, none⟩ v) X v v1 v2 :=
  ⟨by simpa using h.lt, World.cell?_setCell_same _ _ _ h.q0, by rw [World.cell?_setCell_other _ _ _ _ (by simp)]; exact h.q1, by rw [World.cell?_setCell_other _ _ _ _ (by simp)]; exact h.q2, fun j => by rw [World.frozen?_setCell]; exact h.fr j⟩
theorem BxF.set1 {w : World} {X : Nat} {v0 v1 v2 : Value} (h : BxF w X v0 v1 v2) (v : Value) : BxF (w.setCell ⟨X, 1, none⟩ v) X v0 v v2 :=
  ⟨by simpa using h.lt, by rw [World.cell?_setCell_other _ _ _ _ (by simp)]; exact h.q0, World.cell?_setCell_same _ _ _ h.q1, by rw [World.cell?_setCell_other _ _ _ _ (by simp)]; exact h.q2, fun j => by rw [World.frozen?_setCell]; exact h.fr j⟩
theorem BxF.set2 {w : World} {X : Nat} {v0 v1 v2 : Value} (h : BxF w X v0 v1 v2) (v : Value) : BxF (w.setCell ⟨X, 2, none⟩ v) X v0 v1 v :=
  ⟨by simpa using h.lt, by rw [World.cell?_setCell_other _ _ _ _ (by simp)]; exact h.q0, by rw [World.cell?_setCell_other _ _ _ _ (by simp)]; exact h.q1, World.cell?_setCell_same _ _ _ h.q2, fun j => by rw [World.frozen?_setCell]; exact h.fr j⟩

/-- What scene answers, or throws. -/
def ScnOut (w : World) (R : Nat) (bs : List Int) (e : Ending) (w' : World) : Prop :=
  ((faultF bs).1 = 0 ∧ ∃ a1 a2 a3 c1 c2 c3 l1 h1 l2 h2 l3 h3, e = .returned (.agg #[.slice a1 (decN bs 0) c1, .slice a2 (decN bs 1) c2, .slice a3 (decN bs 2) c3]) ∧
    ScDj w' w.heap.size w'.heap.size a1 a2 a3 (decN bs 0) (decN bs 1) (decN bs 2) (decZ1 bs) (decZ2 bs) (decZ3 bs) l1 h1 l2 h2 l3 h3 ∧ Aside R w w') ∨
  ((faultF bs).1 ≠ 0 ∧ ThrowOut w R (faultF bs) e w')

end Go.Proofs.Ytcjdnomhnlbmbaa
