/-
  The model's drawn texts, as a function of the bytes.
-/
import Derived.Test.YtlbegmepmeimkabDrawFb
import Derived.Test.YtlbegmepmeimkabSpecUc
import Derived.Lib.ConvBytes
import Derived.Maps.AppendAt
import Derived.Test.YtlbegmepmeimkabImplH
namespace Go.Proofs.Ytlbegmepmeimkab
open Go.RowKit

def oddS : List (List Int) := [[], [45], [45, 48], [48, 48], [43, 49], [48, 49], [45, 48, 49], [49, 97], [32, 49], [49, 46, 48], [45, 45, 49], [48], [45, 49]]

/-- The text of a drawn number; a drawn text. -/
def txtF (g : Bool) (zs : List Int) : List Int := if validB g zs = true then textL g (val 4294967296 zs) else []
def drawPF (rs : List Int) : List Int :=
  if rs.headD 0 % 16 = 0 then oddS.getD (rs.headD 0 / 16 % 13).toNat []
  else if rs.headD 0 = 1 then List.replicate (4999 + rs.tail.headD 0 % 3).toNat 57
  else if rs.headD 0 = 2 then List.replicate (4930 + rs.tail.headD 0 % 6).toNat 49
  else if rs.headD 0 % 16 = 1 ∧ txtF (drawG rs.tail) (drawZ rs.tail) ≠ [] then
    (txtF (drawG rs.tail) (drawZ rs.tail)).set ((drawL rs.tail).2.headD 0 % (txtF (drawG rs.tail) (drawZ rs.tail)).length).toNat ((drawL rs.tail).2.tail.headD 0)
  else txtF (drawG rs.tail) (drawZ rs.tail)

theorem ResT.fn {g : Bool} {zs ts : List Int} {K : Int} (h : ResT g zs ts K) : ts = txtF g zs := by
  unfold txtF
  rcases h with ⟨h0, h1, _⟩ | ⟨h0, h1, _⟩
  · rw [if_neg (by rw [h0]; decide), h1]
  · rw [if_pos h0, h1]

/-- What DrawBigParse hands back. -/
def DrawPOut (w : World) (rs : List Int) (e : Ending) (w' : World) : Prop :=
  ∃ (a : Option Addr) (c : Nat), e = .returned (.slice a (drawPF rs).length c) ∧ ((drawPF rs).length ≤ 5001 ∧ (drawPF rs).length ≤ c ∧ c ≤ maxLen) ∧ RowAt .u8 w' a (drawPF rs) ∧ Below w.heap.size w w'

/-- A reader that was laid behind w. -/
theorem Aside.new {P : Nat} {w w1 w2 : World} (hb : Below w.heap.size w w1) (hP : w.heap.size ≤ P) (ha : Aside P w1 w2) : Below w.heap.size w w2 :=
  hb.trans (ha.below hP hb.size)

theorem conv_below (W : World) (e : TypeId) (s : ByteArray) : Below W.heap.size W (Lib.bytesWorld W e s) :=
  ⟨rfl, rfl, rfl, by rw [Lib.bytesWorld_size]; omega, fun k hk => Lib.bytesWorld_at_old W e s k hk⟩

/-- A text of the table, made bytes. -/
theorem conv_out {w W : World} {b n : Nat} {rs ts : List Int} (HB : Below w.heap.size w W) (e : TypeId) (s : ByteArray) (hb : b = W.heap.size) (hns : n = s.size) (hd : drawPF rs = ts) (hn : s.size = ts.length) (hl : ts.length ≤ 10) (hc : ∀ j, j < ts.length → ((s.data.toList.getD j 0).toNat : Int) = ts.getD j 0) :
    DrawPOut w rs (.returned (.slice (some ⟨b, 0, none⟩) n (grownCap W n 0 e))) (Lib.bytesWorld W e s) := by
  subst hb hns
  unfold DrawPOut
  rw [hd]
  have h1 := grownCap_ge W s.size 0 e
  have h2 := grownCap_le_maxLen W s.size 0 e (by unfold maxLen; omega)
  refine ⟨some ⟨W.heap.size, 0, none⟩, grownCap W s.size 0 e, by rw [hn], ⟨by omega, by omega, h2⟩, .inr ⟨W.heap.size, 0, rfl, by rw [Lib.bytesWorld_size]; omega, fun j hj => ?_⟩, HB.trans ((conv_below W e s).mono HB.size)⟩
  rw [Nat.zero_add, Lib.bytesWorld_cell W e s j (by omega), hc j hj]

set_option maxRecDepth 100000 in
set_option maxHeartbeats 8000000 in
theorem drawP_odd (a : Option Addr) (c : Nat) (bs rs : List Int) (w : World) (hrs : bs.take 500 = rs) (hh : rs.headD 0 % 16 = 0) (hn : bs.length ≤ 1048576) (hc : bs.length ≤ c) (hcm : c ≤ maxLen) (hnil : a = none → c = 0) (hr : RowAt .u8 w a bs) (hb : Dig 256 bs) :
    Calls Try.prog 22 #[.slice a bs.length c] w fun e w' => DrawPOut w rs e w' := by
  go_enter Try.func22, Try.ntmps22
  go_wp2_with fail
  refine (openF_any a c bs w hn hc hcm hnil hr hb).mono ?_
  rintro e w1 ⟨rfl, hs1, hb1, hz1⟩
  rw [hrs] at hs1
  obtain ⟨P, hP⟩ : ∃ P, P = w.heap.size := ⟨_, rfl⟩
  rw [← hP] at hs1 ⊢
  have HPw : Hid (w.heap.size ≤ P) := by unfold Hid; omega
  have HB1 : Hid (Below w.heap.size w w1) := by unfold Hid; exact hb1
  clear hb1 hz1 hrs hr hb hnil hc hcm hn hP
  go_wp2_with fail
  refine (nextF_any P rs _ hs1).mono ?_
  rintro e w2 ⟨rfl, hk0, hk1, hs2, ha2⟩
  have S2 : Hid (Rs P rs.tail w2) := hs2
  have HB2 : Hid (Below w.heap.size w w2) := Aside.new HB1.out HPw.out ha2
  obtain ⟨kk, hkk⟩ : ∃ kk, kk = rs.headD 0 := ⟨_, rfl⟩
  rw [← hkk] at hk0 hk1 ⊢
  have HKK : Hid (kk = rs.headD 0) := hkk
  clear hs1 hs2 ha2 HB1 hkk
  have h16 : kk % 16 = 0 := by rw [HKK.out]; exact hh
  have htm : kk.tmod 16 = kk % 16 := Int.tmod_eq_emod_of_nonneg hk0
  have hs2 := HB2.out.size
  have h16b : (kk % 16 == 0) = true := by rw [beq_iff_eq]; exact h16
  have hq0 : 0 ≤ kk / 16 := by omega
  obtain ⟨j, hj⟩ : ∃ j, j = kk / 16 % 13 := ⟨_, rfl⟩
  have htj : (kk / 16).tmod 13 = j := by rw [Int.tmod_eq_emod_of_nonneg hq0, hj]
  have htq : kk.tdiv 16 = kk / 16 := Int.tdiv_eq_ediv_of_nonneg hk0
  have HJ : Hid (drawPF rs = oddS.getD j.toNat []) := by
    unfold Hid drawPF
    rw [← HKK.out, if_pos h16, hj]
  have hj13 : j = 0 ∨ j = 1 ∨ j = 2 ∨ j = 3 ∨ j = 4 ∨ j = 5 ∨ j = 6 ∨ j = 7 ∨ j = 8 ∨ j = 9 ∨ j = 10 ∨ j = 11 ∨ j = 12 := by omega
  have hj2 : kk / 16 % 13 = j := hj.symm
  clear hj
  have hcv : ∀ (w : World) (s : ByteArray), (convert 9 33 (.string s)).run Try.prog w = .ok (.slice (some ⟨w.heap.size, 0, none⟩) s.size (grownCap w s.size 0 5)) (Lib.bytesWorld w 5 s) := fun w s => Lib.run_convert_string_bytes w 9 33 5 s Try.underlying9 Try.underlying33 Try.underlying5
  have HB3 : Hid (∀ o, Below w.heap.size w (w2.alloc o)) := fun o => HB2.out.alloc HB2.out.size o
  rcases hj13 with rfl | rfl | rfl | rfl | rfl | rfl | rfl | rfl | rfl | rfl | rfl | rfl | rfl
  · go_wp2
    go_ret
    exact conv_out (HB3.out _) _ ⟨#[]⟩ (by simp) rfl (ts := []) HJ.out rfl (by decide) (by decide)
  · go_wp2
    go_ret
    exact conv_out (HB3.out _) _ ⟨#[45]⟩ (by simp) rfl (ts := [45]) HJ.out rfl (by decide) (by decide)
  · go_wp2
    go_ret
    exact conv_out (HB3.out _) _ ⟨#[45, 48]⟩ (by simp) rfl (ts := [45, 48]) HJ.out rfl (by decide) (by decide)
  · go_wp2
    go_ret
    exact conv_out (HB3.out _) _ ⟨#[48, 48]⟩ (by simp) rfl (ts := [48, 48]) HJ.out rfl (by decide) (by decide)
  · go_wp2
    go_ret
    exact conv_out (HB3.out _) _ ⟨#[43, 49]⟩ (by simp) rfl (ts := [43, 49]) HJ.out rfl (by decide) (by decide)
  · go_wp2
    go_ret
    exact conv_out (HB3.out _) _ ⟨#[48, 49]⟩ (by simp) rfl (ts := [48, 49]) HJ.out rfl (by decide) (by decide)
  · go_wp2
    go_ret
    exact conv_out (HB3.out _) _ ⟨#[45, 48, 49]⟩ (by simp) rfl (ts := [45, 48, 49]) HJ.out rfl (by decide) (by decide)
  · go_wp2
    go_ret
    exact conv_out (HB3.out _) _ ⟨#[49, 97]⟩ (by simp) rfl (ts := [49, 97]) HJ.out rfl (by decide) (by decide)
  · go_wp2
    go_ret
    exact conv_out (HB3.out _) _ ⟨#[32, 49]⟩ (by simp) rfl (ts := [32, 49]) HJ.out rfl (by decide) (by decide)
  · go_wp2
    go_ret
    exact conv_out (HB3.out _) _ ⟨#[49, 46, 48]⟩ (by simp) rfl (ts := [49, 46, 48]) HJ.out rfl (by decide) (by decide)
  · go_wp2
    go_ret
    exact conv_out (HB3.out _) _ ⟨#[45, 45, 49]⟩ (by simp) rfl (ts := [45, 45, 49]) HJ.out rfl (by decide) (by decide)
  · go_wp2
    go_ret
    exact conv_out (HB3.out _) _ ⟨#[48]⟩ (by simp) rfl (ts := [48]) HJ.out rfl (by decide) (by decide)
  · go_wp2
    go_ret
    exact conv_out (HB3.out _) _ ⟨#[45, 49]⟩ (by simp) rfl (ts := [45, 49]) HJ.out rfl (by decide) (by decide)

end Go.Proofs.Ytlbegmepmeimkab

/-
  The model's drawn texts: the long ones, and those of drawn numbers.
-/
namespace Go.Proofs.Ytlbegmepmeimkab
open Go.RowKit

set_option maxRecDepth 100000 in
set_option maxHeartbeats 8000000 in
theorem drawP_nines (a : Option Addr) (c : Nat) (bs rs : List Int) (w : World) (hrs : bs.take 500 = rs) (hh : rs.headD 0 = 1) (hn : bs.length ≤ 1048576) (hc : bs.length ≤ c) (hcm : c ≤ maxLen) (hnil : a = none → c = 0) (hr : RowAt .u8 w a bs) (hb : Dig 256 bs) :
    Calls Try.prog 22 #[.slice a bs.length c] w fun e w' => DrawPOut w rs e w' := by
  go_enter Try.func22, Try.ntmps22
  go_wp2_with fail
  refine (openF_any a c bs w hn hc hcm hnil hr hb).mono ?_
  rintro e w1 ⟨rfl, hs1, hb1, hz1⟩
  rw [hrs] at hs1
  obtain ⟨P, hP⟩ : ∃ P, P = w.heap.size := ⟨_, rfl⟩
  rw [← hP] at hs1 ⊢
  have HPw : Hid (w.heap.size ≤ P) := by unfold Hid; omega
  have HB1 : Hid (Below w.heap.size w w1) := by unfold Hid; exact hb1
  clear hb1 hz1 hrs hr hb hnil hc hcm hn hP
  go_wp2_with fail
  refine (nextF_any P rs _ hs1).mono ?_
  rintro e w2 ⟨rfl, hk0, hk1, hs2, ha2⟩
  have S2 : Hid (Rs P rs.tail w2) := hs2
  have HB2 : Hid (Below w.heap.size w w2) := Aside.new HB1.out HPw.out ha2
  obtain ⟨kk, hkk⟩ : ∃ kk, kk = rs.headD 0 := ⟨_, rfl⟩
  rw [← hkk] at hk0 hk1 ⊢
  have HKK : Hid (kk = rs.headD 0) := hkk
  clear hs1 hs2 ha2 HB1 hkk
  have hkv : kk = 1 := by rw [HKK.out]; exact hh
  subst hkv
  have hs2 := HB2.out.size
  go_wp2_with fail
  refine (nextF_any P rs.tail _ S2.out).mono ?_
  rintro e w3 ⟨rfl, hj0, hj1, hs3, ha3⟩
  have HB3 : Hid (Below w.heap.size w w3) := Aside.new HB2.out HPw.out ha3
  obtain ⟨jj, hjj⟩ : ∃ jj, jj = rs.tail.headD 0 := ⟨_, rfl⟩
  rw [← hjj] at hj0 hj1 ⊢
  obtain ⟨n, hnn⟩ : ∃ n : Nat, (n : Int) = 4999 + jj % 3 := ⟨(4999 + jj % 3).toNat, by omega⟩
  have HF : Hid (drawPF rs = List.replicate n 57) := by
    unfold Hid drawPF
    rw [hh, if_neg (by decide), if_pos rfl, ← hjj, show (4999 + jj % 3).toNat = n by omega]
  have htj : jj.tmod 3 = jj % 3 := Int.tmod_eq_emod_of_nonneg hj0
  have hn5 : n ≤ 5001 := by omega
  have hsz3 : w.heap.size ≤ w3.heap.size := HB3.out.size
  clear hs3 ha3 hjj HB2 S2
  go_wp2
  go_loopw [7, 8] (fun so si wr => ∃ i : Nat, i ≤ n ∧ si = .int .i64 i ∧ Hid (wr.ownsRow w3.heap.size 5 1 so (List.replicate i (57 : Int)).length (vals .u8 (List.replicate i 57))) ∧ Hid (Below w3.heap.size w3 wr)) (fun _ si _ => n - (intOf si).toNat)
  case atStart => exact ⟨0, Nat.zero_le _, rfl, own_nil _ _ _ _, Below.refl _ _⟩
  case round =>
    obtain ⟨i, hi, rfl, hown, hbe⟩ := hrel
    have hown2 := hown.out
    have hle : w3.heap.size ≤ wr.heap.size := hbe.out.size
    obtain ⟨va, vc, hv, hcm, hsl, hrn⟩ := own_row hown2
    subst hv
    by_cases hlt : i < n
    · have hlt2 : (i : Int) < 4999 + jj % 3 := by omega
      have hil : (List.replicate i (57 : Int)).length ≤ 8388608 := by rw [List.length_replicate]; omega
      clear hcm hsl hrn
      go_wp2_with (at_builtin; refine app1 rfl (.tmp 40) (.tmp 41) 33 rfl w3.heap.size 5 Try.underlying33 infoY (by decide) _ (List.replicate i 57) rfl rfl hown2 hil hle ?_; intro a1 n1 c1 w4 hown1 hb1 hs1)
      go_roundw
      case rel => exact ⟨i + 1, by omega, by go_num, by unfold Hid; rw [List.replicate_succ']; exact hown1, hbe.out.trans hb1⟩
      case measure => simp [intOf]; omega
    · have hin : i = n := by omega
      subst hin
      have hlt2 : ¬ (i : Int) < 4999 + jj % 3 := by omega
      have HFI : Hid (DrawPOut w rs (.returned (.slice va i vc)) wr) := by
        unfold Hid DrawPOut
        rw [HF.out]
        exact ⟨va, vc, by rw [List.length_replicate], ⟨by rw [List.length_replicate]; omega, hsl.fits, hcm⟩, hrn.row, HB3.out.trans (hbe.out.mono hsz3)⟩
      clear hcm hsl hrn hown2 hown hbe
      go_wp2
      go_ret
      exact HFI.out

set_option maxRecDepth 100000 in
set_option maxHeartbeats 8000000 in
theorem drawP_ones (a : Option Addr) (c : Nat) (bs rs : List Int) (w : World) (hrs : bs.take 500 = rs) (hh : rs.headD 0 = 2) (hn : bs.length ≤ 1048576) (hc : bs.length ≤ c) (hcm : c ≤ maxLen) (hnil : a = none → c = 0) (hr : RowAt .u8 w a bs) (hb : Dig 256 bs) :
    Calls Try.prog 22 #[.slice a bs.length c] w fun e w' => DrawPOut w rs e w' := by
  go_enter Try.func22, Try.ntmps22
  go_wp2_with fail
  refine (openF_any a c bs w hn hc hcm hnil hr hb).mono ?_
  rintro e w1 ⟨rfl, hs1, hb1, hz1⟩
  rw [hrs] at hs1
  obtain ⟨P, hP⟩ : ∃ P, P = w.heap.size := ⟨_, rfl⟩
  rw [← hP] at hs1 ⊢
  have HPw : Hid (w.heap.size ≤ P) := by unfold Hid; omega
  have HB1 : Hid (Below w.heap.size w w1) := by unfold Hid; exact hb1
  clear hb1 hz1 hrs hr hb hnil hc hcm hn hP
  go_wp2_with fail
  refine (nextF_any P rs _ hs1).mono ?_
  rintro e w2 ⟨rfl, hk0, hk1, hs2, ha2⟩
  have S2 : Hid (Rs P rs.tail w2) := hs2
  have HB2 : Hid (Below w.heap.size w w2) := Aside.new HB1.out HPw.out ha2
  obtain ⟨kk, hkk⟩ : ∃ kk, kk = rs.headD 0 := ⟨_, rfl⟩
  rw [← hkk] at hk0 hk1 ⊢
  have HKK : Hid (kk = rs.headD 0) := hkk
  clear hs1 hs2 ha2 HB1 hkk
  have hkv : kk = 2 := by rw [HKK.out]; exact hh
  subst hkv
  have hs2 := HB2.out.size
  go_wp2_with fail
  refine (nextF_any P rs.tail _ S2.out).mono ?_
  rintro e w3 ⟨rfl, hj0, hj1, hs3, ha3⟩
  have HB3 : Hid (Below w.heap.size w w3) := Aside.new HB2.out HPw.out ha3
  obtain ⟨jj, hjj⟩ : ∃ jj, jj = rs.tail.headD 0 := ⟨_, rfl⟩
  rw [← hjj] at hj0 hj1 ⊢
  obtain ⟨n, hnn⟩ : ∃ n : Nat, (n : Int) = 4930 + jj % 6 := ⟨(4930 + jj % 6).toNat, by omega⟩
  have HF : Hid (drawPF rs = List.replicate n 49) := by
    unfold Hid drawPF
    rw [hh, if_neg (by decide), if_neg (by decide), if_pos rfl, ← hjj, show (4930 + jj % 6).toNat = n by omega]
  have htj : jj.tmod 6 = jj % 6 := Int.tmod_eq_emod_of_nonneg hj0
  have hn5 : n ≤ 5001 := by omega
  have hsz3 : w.heap.size ≤ w3.heap.size := HB3.out.size
  clear hs3 ha3 hjj HB2 S2
  go_wp2
  go_loopw [10, 11] (fun so si wr => ∃ i : Nat, i ≤ n ∧ si = .int .i64 i ∧ Hid (wr.ownsRow w3.heap.size 5 1 so (List.replicate i (49 : Int)).length (vals .u8 (List.replicate i 49))) ∧ Hid (Below w3.heap.size w3 wr)) (fun _ si _ => n - (intOf si).toNat)
  case atStart => exact ⟨0, Nat.zero_le _, rfl, own_nil _ _ _ _, Below.refl _ _⟩
  case round =>
    obtain ⟨i, hi, rfl, hown, hbe⟩ := hrel
    have hown2 := hown.out
    have hle : w3.heap.size ≤ wr.heap.size := hbe.out.size
    obtain ⟨va, vc, hv, hcm, hsl, hrn⟩ := own_row hown2
    subst hv
    by_cases hlt : i < n
    · have hlt2 : (i : Int) < 4930 + jj % 6 := by omega
      have hil : (List.replicate i (49 : Int)).length ≤ 8388608 := by rw [List.length_replicate]; omega
      clear hcm hsl hrn
      go_wp2_with (at_builtin; refine app1 rfl (.tmp 55) (.tmp 56) 33 rfl w3.heap.size 5 Try.underlying33 infoY (by decide) _ (List.replicate i 49) rfl rfl hown2 hil hle ?_; intro a1 n1 c1 w4 hown1 hb1 hs1)
      go_roundw
      case rel => exact ⟨i + 1, by omega, by go_num, by unfold Hid; rw [List.replicate_succ']; exact hown1, hbe.out.trans hb1⟩
      case measure => simp [intOf]; omega
    · have hin : i = n := by omega
      subst hin
      have hlt2 : ¬ (i : Int) < 4930 + jj % 6 := by omega
      have HFI : Hid (DrawPOut w rs (.returned (.slice va i vc)) wr) := by
        unfold Hid DrawPOut
        rw [HF.out]
        exact ⟨va, vc, by rw [List.length_replicate], ⟨by rw [List.length_replicate]; omega, hsl.fits, hcm⟩, hrn.row, HB3.out.trans (hbe.out.mono hsz3)⟩
      clear hcm hsl hrn hown2 hown hbe
      go_wp2
      go_ret
      exact HFI.out

end Go.Proofs.Ytlbegmepmeimkab
