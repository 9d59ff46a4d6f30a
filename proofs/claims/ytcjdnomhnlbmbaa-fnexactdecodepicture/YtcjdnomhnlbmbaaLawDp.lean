/-
  The law of DecodePicture, for any model and any program that answer the picture in new memory, or that there is none.
-/
import Derived.Test.YtcjdnomhnlbmbaaSpPSpQ
import Derived.Test.YtcjdnomhnlbmbaaSpD0ScJBytes2
import Derived.Test.YtcjdnomhnlbmbaaSpD0ScJBytes2
import Derived.Test.YtcjdnomhnlbmbaaSpD0ScJBytes2
namespace Go.Proofs.Ytcjdnomhnlbmbaa
open Go.RowKit

/-- Pictures whose two lists lie in blocks apart from one another. -/
structure PcDj (w : World) (lo hi : Nat) (a1 a3 : Option Addr) (n1 n3 : Nat) (g : Nat → Int) (h : Nat → Bool) (l1 h1 l3 h3 : Nat) : Prop where
  i1 : lo ≤ l1 ∧ h1 ≤ hi
  i3 : lo ≤ l3 ∧ h3 ≤ hi
  d13 : Dj l1 h1 l3 h3
  top : hi ≤ w.heap.size
  r1 : RowFIn w l1 h1 a1 n1 (intF g)
  r3 : RowFIn w l3 h3 a3 n3 (boolF h)
theorem PcDj.at {w : World} {lo hi : Nat} {a1 a3 : Option Addr} {n1 n3 : Nat} {g : Nat → Int} {h : Nat → Bool} {l1 h1 l3 h3 : Nat} (p : PcDj w lo hi a1 a3 n1 n3 g h l1 h1 l3 h3) : PcAt w a1 a3 n1 n3 g h := ⟨p.r1.row, p.r3.row⟩
theorem PcDj.later {w w' : World} {lo hi : Nat} {a1 a3 : Option Addr} {n1 n3 : Nat} {g : Nat → Int} {h : Nat → Bool} {l1 h1 l3 h3 : Nat} (p : PcDj w lo hi a1 a3 n1 n3 g h l1 h1 l3 h3) (hb : Below w.heap.size w w') : PcDj w' lo hi a1 a3 n1 n3 g h l1 h1 l3 h3 :=
  ⟨p.i1, p.i3, p.d13, Nat.le_trans p.top hb.size, p.r1.later hb, p.r3.later hb⟩
theorem PcDj.apart {w w' : World} {lo hi lo' hi' : Nat} {a1 a3 : Option Addr} {n1 n3 : Nat} {g : Nat → Int} {h : Nat → Bool} {l1 h1 l3 h3 : Nat} (p : PcDj w lo hi a1 a3 n1 n3 g h l1 h1 l3 h3) (hw : Within lo' hi' w w') (hd : hi ≤ lo' ∨ hi' ≤ lo) : PcDj w' lo hi a1 a3 n1 n3 g h l1 h1 l3 h3 :=
  ⟨p.i1, p.i3, p.d13, by rw [hw.size]; exact p.top, p.r1.apart hw (by have := p.i1; omega), p.r3.apart hw (by have := p.i3; omega)⟩

/-- What markPicture answers of such a picture. -/
def MkPj (w : World) (lo hi : Nat) (a1 a3 : Option Addr) (n1 n3 l1 h1 l3 h3 : Nat) (k0 : Int) (e : Ending) (w' : World) : Prop :=
  e = .returned (.int .i64 (k0 + n1 + n3)) ∧ PcDj w' lo hi a1 a3 n1 n3 (fun j => k0 + j) (fun j => (k0 + n1 + j) % 3 == 0) l1 h1 l3 h3 ∧ ∃ u, Below w.heap.size w u ∧ Within lo hi u w'

set_option maxRecDepth 100000 in
set_option maxHeartbeats 4000000 in
theorem markPj_any (a1 a3 : Option Addr) (n1 n3 c1 c3 l1 h1 l3 h3 lo hi : Nat) (L : Int) (g : Nat → Int) (h : Nat → Bool) (k0 : Int) (w : World) (hn : n1 + n3 ≤ 1048576) (hk0 : 1 ≤ k0) (hk1 : k0 ≤ 1048576) (hs : PcDj w lo hi a1 a3 n1 n3 g h l1 h1 l3 h3) :
    Calls Try.prog 14 #[.agg #[.slice a1 n1 c1, .int .i64 L, .slice a3 n3 c3], .int .i64 k0] w fun e w' => MkPj w lo hi a1 a3 n1 n3 l1 h1 l3 h3 k0 e w' := by
  have HSC : Hid (PcDj w lo hi a1 a3 n1 n3 g h l1 h1 l3 h3) := hs
  have HT : Hid (hi ≤ w.heap.size) := hs.top
  clear hs
  go_enter Try.func14, Try.ntmps14
  go_wp2_with fail
  have I0 : Hid (PcDj (w.alloc (.cells #[.slice a1 n1 c1, .int .i64 L, .slice a3 n3 c3] 26)) lo hi a1 a3 n1 n3 g h l1 h1 l3 h3) := HSC.out.later (bel0 _ _)
  refine (markIntS_any a1 n1 c1 g k0 _ l1 h1 (by omega) hk0 (by omega) I0.out.r1).mono ?_
  rintro e w1 ⟨rfl, hr1, hw1⟩
  have p2 : w1.cell? ⟨w.heap.size, 2, none⟩ = some (.slice a3 n3 c3) := by rw [hw1.cell (p := ⟨w.heap.size, 2, none⟩) (.inr (by have := I0.out.i1; have := HT.out; show h1 ≤ w.heap.size; omega))]; simp [go_sem]
  have HR1 : Hid (RowFIn w1 l1 h1 a1 n1 (intF (fun j => k0 + j))) := hr1
  have HR3 : Hid (RowFIn w1 l3 h3 a3 n3 (boolF h)) := I0.out.r3.apart hw1 (by have := I0.out.d13; unfold Dj at this; omega)
  have HW1 : Hid (Within lo hi (w.alloc (.cells #[.slice a1 n1 c1, .int .i64 L, .slice a3 n3 c3] 26)) w1) := hw1.wide I0.out.i1.1 I0.out.i1.2
  clear hr1 hw1
  go_wp2_with fail
  refine (markBoolS_any a3 n3 c3 h (k0 + n1) _ l3 h3 (by omega) (by omega) (by omega) HR3.out).mono ?_
  rintro e w3 ⟨rfl, hr3, hw3⟩
  have HW3 : Hid (Within lo hi (w.alloc (.cells #[.slice a1 n1 c1, .int .i64 L, .slice a3 n3 c3] 26)) w3) := HW1.out.tr (hw3.wide I0.out.i3.1 I0.out.i3.2)
  have HI : Hid (PcDj w3 lo hi a1 a3 n1 n3 (fun j => k0 + j) (fun j => (k0 + n1 + j) % 3 == 0) l1 h1 l3 h3) := by
    refine ⟨I0.out.i1, I0.out.i3, I0.out.d13, ?_, HR1.out.apart hw3 (by have := I0.out.d13; unfold Dj at this; omega), hr3⟩
    rw [HW3.out.size]
    exact I0.out.top
  clear hr3 hw3 HR1 HR3 HW1 p2 I0
  go_wp2
  go_ret
  exact ⟨ret_intM rfl, HI.out, _, bel0 _ _, HW3.out⟩

/-- A valid picture whose bytes these are. -/
structure IsPic (bs : List Int) (n1 n3 : Nat) (g : Nat → Int) (L : Int) (h : Nat → Bool) : Prop where
  ok : validPc n1 n3 g L = true
  enc : encPc n1 n3 g L h = bs

/-- What DecodePicture answers: the picture whose bytes these are, or none. -/
def DecP (bs : List Int) (n1 n3 : Nat) (g : Nat → Int) (L : Int) (h : Nat → Bool) (K : Int) : Prop :=
  (K = 0 ∧ IsPic bs n1 n3 g L h) ∨ (K = 1 ∧ n1 = 0 ∧ n3 = 0 ∧ L = 0 ∧ ∀ n1 n3 g L h, ¬ IsPic bs n1 n3 g L h)
def DecPOut (w : World) (bs : List Int) (e : Ending) (w' : World) : Prop :=
  ∃ a1 a3 c1 c3 n1 n3 g L h K l1 h1 l3 h3, e = .returned (.tuple #[.agg #[.slice a1 n1 c1, .int .i64 L, .slice a3 n3 c3], .int .i64 K]) ∧ DecP bs n1 n3 g L h K ∧ PcDj w' w.heap.size w'.heap.size a1 a3 n1 n3 g h l1 h1 l3 h3 ∧ Below w.heap.size w w'
def DecPSays (f : FuncId) : Prop := ∀ (a : Option Addr) (c : Nat) (bs : List Int) (w : World), bs.length ≤ 1048576 → bs.length ≤ c → U8 bs → RowAt .u8 w a bs → Calls Try.prog f #[.slice a bs.length c] w fun e w' => DecPOut w bs e w'

theorem leB_two {a b : Nat} (ha : a ≤ 255) (hb : b ≤ 255) (h : leB (a : Int) 2 = leB (b : Int) 2) : a = b := by
  simp [leB, divB] at h
  omega
theorem leB_one {a b : Int} (ha : 0 ≤ a ∧ a ≤ 4) (hb : 0 ≤ b ∧ b ≤ 4) (h : leB a 1 = leB b 1) : a = b := by
  simp [leB, divB] at h
  omega
theorem idB_inj {a b : Int} (ha : -1 ≤ a ∧ a < 40) (hb : -1 ≤ b ∧ b < 40) (h : idB a = idB b) : a = b := by
  unfold idB at h
  by_cases h1 : a < 0
  · by_cases h2 : b < 0
    · omega
    · rw [if_pos h1, if_neg h2] at h
      simp [leB, divB] at h
      omega
  · by_cases h2 : b < 0
    · rw [if_neg h1, if_pos h2] at h
      simp [leB, divB] at h
      omega
    · rw [if_neg h1, if_neg h2] at h
      simp [leB, divB] at h
      omega
theorem app_inj {a b c d : List Int} (hl : a.length = c.length) (h : a ++ b = c ++ d) : a = c ∧ b = d := List.append_inj h hl
theorem idsB_inj {g g' : Nat → Int} : ∀ n, (∀ i, i < n → -1 ≤ g i ∧ g i < 40) → (∀ i, i < n → -1 ≤ g' i ∧ g' i < 40) → idsB g n = idsB g' n → ∀ i, i < n → g i = g' i
  | 0, _, _, _, i, hi => absurd hi (by omega)
  | n + 1, h1, h2, h, i, hi => by
    simp only [idsB] at h
    obtain ⟨q1, q2⟩ := app_inj (by rw [idsB_length, idsB_length]) h
    by_cases e : i < n
    · exact idsB_inj n (fun j hj => h1 j (by omega)) (fun j hj => h2 j (by omega)) q1 i e
    · have e1 : i = n := by omega
      subst e1
      exact idB_inj (h1 i (by omega)) (h2 i (by omega)) q2
theorem bitsF_inj {n3 : Nat} {h h' : Nat → Bool} {i : Nat} : ∀ t, bitsF n3 h i t = bitsF n3 h' i t → ∀ s, s < t → bitF n3 h (i + (7 - s)) = bitF n3 h' (i + (7 - s))
  | 0, _, s, hs => absurd hs (by omega)
  | t + 1, hb, s, hs => by
    simp only [bitsF] at hb
    have b1 := bitF_range n3 h (i + (7 - t))
    have b2 := bitF_range n3 h' (i + (7 - t))
    have e1 : bitsF n3 h i t = bitsF n3 h' i t := by omega
    have e2 : bitF n3 h (i + (7 - t)) = bitF n3 h' (i + (7 - t)) := by omega
    by_cases e : s < t
    · exact bitsF_inj t e1 s e
    · have : s = t := by omega
      subst this
      exact e2
theorem litB_inj {n3 : Nat} {h h' : Nat → Bool} : ∀ m, litB n3 h m = litB n3 h' m → ∀ j, j < 8 * m → bitF n3 h j = bitF n3 h' j
  | 0, _, j, hj => absurd hj (by omega)
  | m + 1, hb, j, hj => by
    simp only [litB] at hb
    obtain ⟨q1, q2⟩ := app_inj (by rw [litB_length, litB_length]) hb
    by_cases e : j < 8 * m
    · exact litB_inj m q1 j e
    · have q3 : bitsF n3 h (8 * m) 8 = bitsF n3 h' (8 * m) 8 := by simpa using q2
      have := bitsF_inj 8 q3 (7 - (j - 8 * m)) (by omega)
      rwa [show 8 * m + (7 - (7 - (j - 8 * m))) = j by omega] at this
theorem bit_eq {n3 : Nat} {h h' : Nat → Bool} {j : Nat} (hj : j < n3) (e : bitF n3 h j = bitF n3 h' j) : h j = h' j := by
  unfold bitF at e
  cases q1 : h j <;> cases q2 : h' j <;> simp [hj, q1, q2] at e ⊢

/-- One list of bytes has one picture. -/
theorem IsPic.unique {bs : List Int} {n1 n3 m1 m3 : Nat} {g g' : Nat → Int} {L L' : Int} {h h' : Nat → Bool} (p : IsPic bs n1 n3 g L h) (q : IsPic bs m1 m3 g' L' h') :
    n1 = m1 ∧ n3 = m3 ∧ L = L' ∧ (∀ i, i < n1 → g i = g' i) ∧ ∀ j, j < n3 → h j = h' j := by
  have p1 := p.ok
  have q1 := q.ok
  unfold validPc at p1 q1
  simp only [Bool.and_eq_true, decide_eq_true_eq] at p1 q1
  obtain ⟨⟨⟨⟨a1, a2⟩, a3⟩, a4⟩, a5⟩ := p1
  obtain ⟨⟨⟨⟨b1, b2⟩, b3⟩, b4⟩, b5⟩ := q1
  have e := p.enc.trans q.enc.symm
  unfold encPc headP at e
  simp only [List.append_assoc, List.cons_append, List.nil_append, List.cons.injEq, true_and] at e
  obtain ⟨e1, ea⟩ := app_inj (by rw [leB_length, leB_length]) e
  obtain ⟨e2, eb⟩ := app_inj (by rw [leB_length, leB_length]) ea
  clear e ea
  have k1 := leB_two (by omega) (by omega) e1
  have k2 := leB_one ⟨a2, a3⟩ ⟨b2, b3⟩ e2
  subst k1 k2
  have k3 : n3 = m3 := by omega
  subst k3
  obtain ⟨e3, e4⟩ := app_inj (by rw [idsB_length, idsB_length]) eb
  have ra : ∀ i, i < n1 → -1 ≤ g i ∧ g i < 40 := by
    intro i hi
    have := List.all_eq_true.1 a5 i (List.mem_range.2 hi)
    unfold idOK at this
    simpa using this
  have rb : ∀ i, i < n1 → -1 ≤ g' i ∧ g' i < 40 := by
    intro i hi
    have := List.all_eq_true.1 b5 i (List.mem_range.2 hi)
    unfold idOK at this
    simpa using this
  refine ⟨rfl, rfl, rfl, idsB_inj n1 ra rb e3, fun j hj => bit_eq hj (litB_inj ((n3 + 7) / 8) e4 j (by clear a4 b4; omega))⟩

/-- The answers of two functions that decode are one. -/
theorem DecP.unique {bs : List Int} {n1 n3 m1 m3 : Nat} {g g' : Nat → Int} {L L' K K' : Int} {h h' : Nat → Bool} (p : DecP bs n1 n3 g L h K) (q : DecP bs m1 m3 g' L' h' K') :
    n1 = m1 ∧ n3 = m3 ∧ L = L' ∧ K = K' ∧ (∀ i, i < n1 → g' i = g i) ∧ ∀ j, j < n3 → h' j = h j := by
  rcases p with ⟨rfl, p⟩ | ⟨rfl, rfl, rfl, rfl, p⟩
  · rcases q with ⟨rfl, q⟩ | ⟨_, _, _, _, q⟩
    · obtain ⟨h1, h2, h3, h4, h5⟩ := p.unique q
      exact ⟨h1, h2, h3, rfl, fun i hi => (h4 i hi).symm, fun j hj => (h5 j hj).symm⟩
    · exact absurd p (q _ _ _ _ _)
  · rcases q with ⟨_, q⟩ | ⟨rfl, rfl, rfl, rfl, _⟩
    · exact absurd q (p _ _ _ _ _)
    · exact ⟨rfl, rfl, rfl, rfl, fun i hi => absurd hi (by omega), fun j hj => absurd hj (by omega)⟩
theorem DecP.small {bs : List Int} {n1 n3 : Nat} {g : Nat → Int} {L K : Int} {h : Nat → Bool} (p : DecP bs n1 n3 g L h K) : n1 + n3 ≤ 1048576 := by
  rcases p with ⟨_, p⟩ | ⟨_, rfl, rfl, _⟩
  · have p1 := p.ok
    unfold validPc at p1
    simp only [Bool.and_eq_true, decide_eq_true_eq] at p1
    obtain ⟨⟨⟨⟨a1, a2⟩, a3⟩, a4⟩, a5⟩ := p1
    have e1 : (n1 : Int) * L ≤ 40 * L := Int.mul_le_mul_of_nonneg_right (by omega) a2
    omega
  · decide

theorem RowFIn.congr {w : World} {lo hi : Nat} {a : Option Addr} {n : Nat} {f f' : Nat → Value} (h : RowFIn w lo hi a n f) (e : ∀ i, i < n → f i = f' i) : RowFIn w lo hi a n f' := by
  rcases h with h | ⟨b, off, h1, h2, h3, h4, h5, h6⟩
  · exact .inl h
  · exact .inr ⟨b, off, h1, h2, h3, h4, fun j hj => by rw [h5 j hj, e j hj], h6⟩
theorem PcDj.congr {w : World} {lo hi : Nat} {a1 a3 : Option Addr} {n1 n3 : Nat} {g g' : Nat → Int} {h h' : Nat → Bool} {l1 h1 l3 h3 : Nat} (p : PcDj w lo hi a1 a3 n1 n3 g h l1 h1 l3 h3) (e1 : ∀ i, i < n1 → g i = g' i) (e3 : ∀ j, j < n3 → h j = h' j) : PcDj w lo hi a1 a3 n1 n3 g' h' l1 h1 l3 h3 :=
  ⟨p.i1, p.i3, p.d13, p.top, p.r1.congr fun i hi => by unfold intF; rw [e1 i hi], p.r3.congr fun i hi => by unfold boolF; rw [e3 i hi]⟩

set_option maxRecDepth 100000 in
set_option maxHeartbeats 16000000 in
theorem lawDecodePicture_any (hS : DecPSays 8) (hI : DecPSays 10) (a : Option Addr) (c : Nat) (bs : List Int) (w : World) (hn : bs.length ≤ maxLen) (hu : U8 bs) (hz : RowAt .u8 w a bs) :
    Calls Try.prog 3 #[.slice a bs.length c] w fun e w' => e = .returned (.bool true) ∧ Below w.heap.size w w' := by
  unfold maxLen at hn
  by_cases hl : (1048576 : Int) < bs.length
  · go_enter Try.func3, Try.ntmps3
    go_wp2
    go_ret
    exact ⟨rfl, Below.refl _ _⟩
  · have hbl : bs.length ≤ 1048576 := by omega
    have HZ : Hid (RowAt .u8 w a bs) := hz
    have HU : Hid (U8 bs) := hu
    have HS : Hid (DecPSays 8) := hS
    have HI : Hid (DecPSays 10) := hI
    clear hz hu hS hI
    go_enter Try.func3, Try.ntmps3
    go_wp2_with fail
    refine (toY_any a c bs _ hbl HZ.out).mono ?_
    rintro e W1 ⟨b1, rfl, hr1, hb1⟩
    have A1 : Hid (Below w.heap.size w W1) := hb1
    have R1 : Hid (RowAt .u8 W1 b1 bs) := hr1.row
    clear hb1 hr1
    go_wp2_with fail
    refine (HS.out b1 _ bs _ hbl (Nat.le_refl _) HU.out R1.out).mono ?_
    rintro e W2 hd
    obtain ⟨s1, s3, k1, k3, n1, n3, g, L, h, K, l1, h1, l3, h3, rfl, hp2, hs2, hb2⟩ := hd
    have HP : Hid (DecP bs n1 n3 g L h K) := hp2
    have HN' : Hid (n1 + n3 ≤ 1048576) := hp2.small
    have hkk : (K != K) = false := by simp
    have hjj : (L != L) = false := by simp
    have A2 : Hid (∀ t, Below w.heap.size w (W2.alloc (.cells #[.slice s1 n1 k1, .int .i64 L, .slice s3 n3 k3] t))) := fun t => (A1.out.trans (hb2.mono A1.out.size)).trans ((bel0 _ _).mono (Nat.le_trans A1.out.size hb2.size))
    have S2 : Hid (∀ t, PcDj (W2.alloc (.cells #[.slice s1 n1 k1, .int .i64 L, .slice s3 n3 k3] t)) W1.heap.size W2.heap.size s1 s3 n1 n3 g h l1 h1 l3 h3) := fun t => hs2.later (bel0 _ _)
    have X2 : Hid (∀ t, BxS (W2.alloc (.cells #[.slice s1 n1 k1, .int .i64 L, .slice s3 n3 k3] t)) W2.heap.size (.slice s1 n1 k1) (.int .i64 L) (.slice s3 n3 k3)) := fun t => BxS.new _ _ _ _ _
    have O2 : Hid (w.heap.size ≤ W1.heap.size ∧ W1.heap.size ≤ W2.heap.size) := ⟨A1.out.size, hb2.size⟩
    clear hs2 hb2 hp2 R1 A1
    go_wp2_with fail
    refine (toY_any a c bs _ hbl (HZ.out.later (A2.out _))).mono ?_
    rintro e W3 ⟨b3, rfl, hr3, hb3⟩
    have A3 : Hid (Below w.heap.size w W3) := (A2.out _).trans (hb3.mono (A2.out _).size)
    have S3 : Hid (PcDj W3 W1.heap.size W2.heap.size s1 s3 n1 n3 g h l1 h1 l3 h3) := (S2.out _).later hb3
    have X3 : Hid (BxS W3 W2.heap.size (.slice s1 n1 k1) (.int .i64 L) (.slice s3 n3 k3)) := (X2.out _).later hb3
    have R3 : Hid (RowIn .u8 W3 (W2.heap.size + 1) W3.heap.size b3 bs) := by
      have := hr3.rowIn
      unfold Hid
      simpa using this
    have O3 : Hid (W2.heap.size + 1 ≤ W3.heap.size) := by have := hb3.size; unfold Hid; simpa using this
    clear hr3 hb3 A2 S2 X2
    go_wp2_with fail
    refine (HI.out b3 _ bs _ hbl (Nat.le_refl _) HU.out R3.out.row).mono ?_
    rintro e W4 hd
    obtain ⟨t1, t3, q1, q3, n1', n3', g', L', h', K', u1, v1, u3, v3, rfl, hp4, hs4', hb4⟩ := hd
    obtain ⟨rfl, rfl, rfl, rfl, eg4, eh4⟩ := HP.out.unique hp4
    have hs4 := hs4'.congr eg4 eh4
    have A4 : Hid (∀ t, Below w.heap.size w (W4.alloc (.cells #[.slice t1 n1 q1, .int .i64 L, .slice t3 n3 q3] t))) := fun t => (A3.out.trans (hb4.mono A3.out.size)).trans ((bel0 _ _).mono (Nat.le_trans A3.out.size hb4.size))
    have S4 : Hid (∀ t, PcDj (W4.alloc (.cells #[.slice t1 n1 q1, .int .i64 L, .slice t3 n3 q3] t)) W1.heap.size W2.heap.size s1 s3 n1 n3 g h l1 h1 l3 h3) := fun t => (S3.out.later hb4).later (bel0 _ _)
    have X4 : Hid (∀ t, BxS (W4.alloc (.cells #[.slice t1 n1 q1, .int .i64 L, .slice t3 n3 q3] t)) W2.heap.size (.slice s1 n1 k1) (.int .i64 L) (.slice s3 n3 k3)) := fun t => (X3.out.later hb4).later (bel0 _ _)
    have R4 : Hid (∀ t, RowIn .u8 (W4.alloc (.cells #[.slice t1 n1 q1, .int .i64 L, .slice t3 n3 q3] t)) (W2.heap.size + 1) W3.heap.size b3 bs) := fun t => (R3.out.later hb4).later (bel0 _ _)
    have G4 : Hid (∀ t, PcDj (W4.alloc (.cells #[.slice t1 n1 q1, .int .i64 L, .slice t3 n3 q3] t)) W3.heap.size W4.heap.size t1 t3 n1 n3 g h u1 v1 u3 v3) := fun t => hs4.later (bel0 _ _)
    have Y4 : Hid (∀ t, BxS (W4.alloc (.cells #[.slice t1 n1 q1, .int .i64 L, .slice t3 n3 q3] t)) W4.heap.size (.slice t1 n1 q1) (.int .i64 L) (.slice t3 n3 q3)) := fun t => BxS.new _ _ _ _ _
    have O4 : Hid (W3.heap.size ≤ W4.heap.size) := hb4.size
    have p0 := (X4.out 26).q0
    have p1 := (X4.out 26).q1
    have p2 := (X4.out 26).q2
    clear hs4 hs4' hp4 eg4 eh4 hb4 A3 S3 X3 R3
    go_wp2_with fail
    refine (eqPicture_same t1 t3 s1 s3 n1 n3 _ _ _ _ L g h _ HN'.out (G4.out _).at (S4.out _).at).mono ?_
    rintro e W5 ⟨rfl, hb5⟩
    have A5 : Hid (Below w.heap.size w W5) := (A4.out _).trans (hb5.mono (A4.out _).size)
    have S5 : Hid (PcDj W5 W1.heap.size W2.heap.size s1 s3 n1 n3 g h l1 h1 l3 h3) := (S4.out _).later hb5
    have X5 : Hid (BxS W5 W2.heap.size (.slice s1 n1 k1) (.int .i64 L) (.slice s3 n3 k3)) := (X4.out _).later hb5
    have R5 : Hid (RowIn .u8 W5 (W2.heap.size + 1) W3.heap.size b3 bs) := (R4.out _).later hb5
    have G5 : Hid (PcDj W5 W3.heap.size W4.heap.size t1 t3 n1 n3 g h u1 v1 u3 v3) := (G4.out _).later hb5
    have Y5 : Hid (BxS W5 W4.heap.size (.slice t1 n1 q1) (.int .i64 L) (.slice t3 n3 q3)) := (Y4.out _).later hb5
    clear hb5 A4 S4 X4 R4 G4 Y4 p0 p1 p2
    go_wp2_with fail
    refine (toY_any a c bs _ hbl (HZ.out.later A5.out)).mono ?_
    rintro e W6 ⟨b6, rfl, hr6, hb6⟩
    have A6 : Hid (Below w.heap.size w W6) := A5.out.trans (hb6.mono A5.out.size)
    have S6 : Hid (PcDj W6 W1.heap.size W2.heap.size s1 s3 n1 n3 g h l1 h1 l3 h3) := S5.out.later hb6
    have X6 : Hid (BxS W6 W2.heap.size (.slice s1 n1 k1) (.int .i64 L) (.slice s3 n3 k3)) := X5.out.later hb6
    have R6 : Hid (RowIn .u8 W6 (W2.heap.size + 1) W3.heap.size b3 bs) := R5.out.later hb6
    have G6 : Hid (PcDj W6 W3.heap.size W4.heap.size t1 t3 n1 n3 g h u1 v1 u3 v3) := G5.out.later hb6
    have Y6 : Hid (BxS W6 W4.heap.size (.slice t1 n1 q1) (.int .i64 L) (.slice t3 n3 q3)) := Y5.out.later hb6
    have T6 : Hid (RowAt .u8 W6 b6 bs) := hr6.row
    clear hb6 hr6 A5 S5 X5 R5 G5 Y5
    go_wp2_with fail
    refine (eqY_any b3 b6 _ _ bs bs _ (by unfold maxLen; omega) (by unfold maxLen; omega) R6.out.row T6.out).mono ?_
    rintro e W7 ⟨rfl, hb7⟩
    rw [decide_eq_true rfl]
    have A7 : Hid (Below w.heap.size w W7) := A6.out.trans (hb7.mono A6.out.size)
    have S7 : Hid (PcDj W7 W1.heap.size W2.heap.size s1 s3 n1 n3 g h l1 h1 l3 h3) := S6.out.later hb7
    have X7 : Hid (BxS W7 W2.heap.size (.slice s1 n1 k1) (.int .i64 L) (.slice s3 n3 k3)) := X6.out.later hb7
    have R7 : Hid (RowIn .u8 W7 (W2.heap.size + 1) W3.heap.size b3 bs) := R6.out.later hb7
    have G7 : Hid (PcDj W7 W3.heap.size W4.heap.size t1 t3 n1 n3 g h u1 v1 u3 v3) := G6.out.later hb7
    have Y7 : Hid (BxS W7 W4.heap.size (.slice t1 n1 q1) (.int .i64 L) (.slice t3 n3 q3)) := Y6.out.later hb7
    clear hb7 A6 S6 X6 R6 G6 Y6 T6
    go_wp2_with fail
    refine (markY2_any b3 _ bs 1 _ (W2.heap.size + 1) W3.heap.size hbl (by decide) (by decide) R7.out).mono ?_
    rintro e W8 ⟨rfl, _, hw8⟩
    have A8 : Hid (Below w.heap.size w W8) := A7.out.trans (hw8.below.mono (by have := O2.out; omega))
    have S8 : Hid (PcDj W8 W1.heap.size W2.heap.size s1 s3 n1 n3 g h l1 h1 l3 h3) := S7.out.apart hw8 (.inl (Nat.le_succ _))
    have X8 : Hid (BxS W8 W2.heap.size (.slice s1 n1 k1) (.int .i64 L) (.slice s3 n3 k3)) := X7.out.within hw8 (.inl (Nat.lt_succ_self _))
    have G8 : Hid (PcDj W8 W3.heap.size W4.heap.size t1 t3 n1 n3 g h u1 v1 u3 v3) := G7.out.apart hw8 (.inr (Nat.le_refl _))
    have Y8 : Hid (BxS W8 W4.heap.size (.slice t1 n1 q1) (.int .i64 L) (.slice t3 n3 q3)) := Y7.out.within hw8 (.inr O4.out)
    have hk8 : ¬ (1 : Int) + bs.length < 0 := by omega
    have p0 := X8.out.q0
    have p1 := X8.out.q1
    have p2 := X8.out.q2
    have y0 := Y8.out.q0
    have y1 := Y8.out.q1
    have y2 := Y8.out.q2
    clear hw8 A7 S7 X7 R7 G7 Y7
    go_wp2_with fail
    refine (eqPicture_same t1 t3 s1 s3 n1 n3 _ _ _ _ L g h _ HN'.out G8.out.at S8.out.at).mono ?_
    rintro e W9 ⟨rfl, hb9⟩
    have A9 : Hid (Below w.heap.size w W9) := A8.out.trans (hb9.mono A8.out.size)
    have S9 : Hid (PcDj W9 W1.heap.size W2.heap.size s1 s3 n1 n3 g h l1 h1 l3 h3) := S8.out.later hb9
    have X9 : Hid (BxS W9 W2.heap.size (.slice s1 n1 k1) (.int .i64 L) (.slice s3 n3 k3)) := X8.out.later hb9
    have G9 : Hid (PcDj W9 W3.heap.size W4.heap.size t1 t3 n1 n3 g h u1 v1 u3 v3) := G8.out.later hb9
    have Y9 : Hid (BxS W9 W4.heap.size (.slice t1 n1 q1) (.int .i64 L) (.slice t3 n3 q3)) := Y8.out.later hb9
    clear hb9 A8 S8 X8 G8 Y8 p0 p1 p2 y0 y1 y2 hk8
    have y0 := Y9.out.q0
    have y1 := Y9.out.q1
    have y2 := Y9.out.q2
    go_wp2_with fail
    refine (markPj_any t1 t3 n1 n3 _ _ u1 v1 u3 v3 W3.heap.size W4.heap.size L g h 1 _ HN'.out (by decide) (by decide) G9.out).mono ?_
    rintro e W10 ⟨rfl, hm10, u, hbu, hwu⟩
    have A10 : Hid (Below w.heap.size w W10) := (A9.out.trans (hbu.mono A9.out.size)).trans (hwu.below.mono (by have := O2.out; have := O3.out; omega))
    have S10 : Hid (PcDj W10 W1.heap.size W2.heap.size s1 s3 n1 n3 g h l1 h1 l3 h3) := (S9.out.later hbu).apart hwu (.inl (by have := O3.out; omega))
    have X10 : Hid (BxS W10 W2.heap.size (.slice s1 n1 k1) (.int .i64 L) (.slice s3 n3 k3)) := (X9.out.later hbu).within hwu (.inl (by have := O3.out; omega))
    have Y10 : Hid (BxS W10 W4.heap.size (.slice t1 n1 q1) (.int .i64 L) (.slice t3 n3 q3)) := (Y9.out.later hbu).within hwu (.inr (Nat.le_refl _))
    have M10 : Hid (PcAt W10 t1 t3 n1 n3 (fun j => (1 : Int) + (j : Int)) (fun j => ((1 : Int) + (n1 : Int) + (j : Int)) % 3 == 0)) := hm10.at
    obtain ⟨kk, hkkd⟩ : ∃ kk, kk = (1 : Int) + n1 + n3 := ⟨_, rfl⟩
    have HKK : Hid (kk = (1 : Int) + n1 + n3) := hkkd
    have hkk0 : ¬ kk < 0 := by omega
    have hkkn : (kk != kk) = false := by simp
    rw [← hkkd]
    clear hm10 hbu hwu A9 S9 X9 G9 Y9 y0 y1 y2 hkkd
    have y0 := Y10.out.q0
    have y1 := Y10.out.q1
    have y2 := Y10.out.q2
    go_wp2_with fail
    refine (heldPicture_any t1 t3 n1 n3 _ _ L 1 _ HN'.out (by decide) (by decide) M10.out).mono ?_
    rintro e W11 ⟨rfl, hb11⟩
    rw [← HKK.out]
    have A11 : Hid (Below w.heap.size w W11) := A10.out.trans (hb11.mono A10.out.size)
    have S11 : Hid (PcDj W11 W1.heap.size W2.heap.size s1 s3 n1 n3 g h l1 h1 l3 h3) := S10.out.later hb11
    have X11 : Hid (BxS W11 W2.heap.size (.slice s1 n1 k1) (.int .i64 L) (.slice s3 n3 k3)) := X10.out.later hb11
    clear hb11 A10 S10 X10 Y10 M10 y0 y1 y2
    go_wp2_with fail
    refine (toY_any a c bs _ hbl (HZ.out.later A11.out)).mono ?_
    rintro e W12 ⟨b12, rfl, hr12, hb12⟩
    have A12 : Hid (Below w.heap.size w W12) := A11.out.trans (hb12.mono A11.out.size)
    have S12 : Hid (PcDj W12 W1.heap.size W2.heap.size s1 s3 n1 n3 g h l1 h1 l3 h3) := S11.out.later hb12
    have X12 : Hid (BxS W12 W2.heap.size (.slice s1 n1 k1) (.int .i64 L) (.slice s3 n3 k3)) := X11.out.later hb12
    have R12 : Hid (RowAt .u8 W12 b12 bs) := hr12.row
    clear hb12 hr12 A11 S11 X11
    go_wp2_with fail
    refine (HI.out b12 _ bs _ hbl (Nat.le_refl _) HU.out R12.out).mono ?_
    rintro e W13 hd
    obtain ⟨x1, x3, g1, g3, n1', n3', g', L', h', K', m1, o1, m3, o3, rfl, hp13, hs13', hb13⟩ := hd
    obtain ⟨rfl, rfl, rfl, rfl, eg13, eh13⟩ := HP.out.unique hp13
    have hs13 := hs13'.congr eg13 eh13
    have A13 : Hid (∀ t, Below w.heap.size w (W13.alloc (.cells #[.slice x1 n1 g1, .int .i64 L, .slice x3 n3 g3] t))) := fun t => (A12.out.trans (hb13.mono A12.out.size)).trans ((bel0 _ _).mono (Nat.le_trans A12.out.size hb13.size))
    have S13 : Hid (∀ t, PcDj (W13.alloc (.cells #[.slice x1 n1 g1, .int .i64 L, .slice x3 n3 g3] t)) W1.heap.size W2.heap.size s1 s3 n1 n3 g h l1 h1 l3 h3) := fun t => (S12.out.later hb13).later (bel0 _ _)
    have X13 : Hid (∀ t, BxS (W13.alloc (.cells #[.slice x1 n1 g1, .int .i64 L, .slice x3 n3 g3] t)) W2.heap.size (.slice s1 n1 k1) (.int .i64 L) (.slice s3 n3 k3)) := fun t => (X12.out.later hb13).later (bel0 _ _)
    have G13 : Hid (∀ t, PcAt (W13.alloc (.cells #[.slice x1 n1 g1, .int .i64 L, .slice x3 n3 g3] t)) x1 x3 n1 n3 g h) := fun t => hs13.at.later (bel0 _ _)
    have p0 := (X13.out 26).q0
    have p1 := (X13.out 26).q1
    have p2 := (X13.out 26).q2
    clear hs13 hs13' hp13 eg13 eh13 hb13 A12 S12 X12 R12
    go_wp2_with fail
    refine (eqPicture_same x1 x3 s1 s3 n1 n3 _ _ _ _ L g h _ HN'.out (G13.out _) (S13.out _).at).mono ?_
    rintro e W14 ⟨rfl, hb14⟩
    have A14 : Hid (Below w.heap.size w W14) := (A13.out _).trans (hb14.mono (A13.out _).size)
    clear hb14 A13 S13 X13 G13 p0 p1 p2
    go_wp2
    go_ret
    exact ⟨rfl, A14.out⟩

end Go.Proofs.Ytcjdnomhnlbmbaa
