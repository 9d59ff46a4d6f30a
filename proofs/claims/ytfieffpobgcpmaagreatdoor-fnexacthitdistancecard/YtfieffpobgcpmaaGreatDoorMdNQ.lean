import Derived.Test.YtfieffpobgcpmaaGreatDoorSpecS2SpecFlSpecBtMdMMdS
import Derived.Test.YtfieffpobgcpmaaGreatDoorBgNCsAReARkACoA
import Derived.Test.YtfieffpobgcpmaaGreatDoorFwAQ
import Derived.Deep.LoopGhost
import Derived.Deep.RegionHeld3
import Derived.Deep.CutRange
set_option maxRecDepth 100000
set_option maxHeartbeats 32000000
namespace Go.Proofs.YtfieffpobgcpmaaGreatDoor
open Go.RowKit
structure GdS (w:World) (A B:List Value) (W:World):Prop where
 a:Cs W w.heap.size A
 b:Cs W (w.heap.size+1) B
 z:Cs W (w.heap.size+1+1) [false,()]
 ia:NoInt W w.heap.size
 ib:NoInt W (w.heap.size+1)
 iz:NoInt W (w.heap.size+1+1)
 bel:Below w.heap.size w W
theorem GdS.later {w:World} {A B:List Value} {W W':World} (h:GdS w A B W) (hb:Below W.heap.size W W'):GdS w A B W':=
 ⟨h.a.later hb,h.b.later hb,h.z.later hb,h.ia.later hb,h.ib.later hb,h.iz.later hb,h.bel.trans (hb.mono h.bel.size)⟩
theorem noInt2 (w:World) (g:Bool) (a:Option Addr) (k c:Nat) (t:TypeId):NoInt (w.alloc (.cells #[g,.slice a k c] t)) w.heap.size:=
 NoInt.new _ _ _ (fun i k m=>by match i with|0=>simp|1=>simp|n+2=>simp)
theorem GdS.start (w:World) (g:Bool) (a:Option Addr) (k c:Nat) (g':Bool) (a':Option Addr) (k' c':Nat) (s0 s1 s2:TypeId):GdS w [g,.slice a k c] [g',.slice a' k' c'] (((w.alloc (.cells #[g,.slice a k c] s0)).alloc (.cells #[g',.slice a' k' c'] s1)).alloc (.cells #[false,()] s2)):=by
 have h1:=Cs.new (w.alloc (.cells #[g,.slice a k c] s0)) #[g',.slice a' k' c'] s1
 have h2:=Cs.new ((w.alloc (.cells #[g,.slice a k c] s0)).alloc (.cells #[g',.slice a' k' c'] s1)) #[false,()] s2
 have n1:=noInt2 (w.alloc (.cells #[g,.slice a k c] s0)) g' a' k' c' s1
 have n2:=noInt2 ((w.alloc (.cells #[g,.slice a k c] s0)).alloc (.cells #[g',.slice a' k' c'] s1)) false none 0 0 s2
 have e1:(w.alloc (.cells #[g,.slice a k c] s0)).heap.size=w.heap.size+1:=by simp
 have e2:((w.alloc (.cells #[g,.slice a k c] s0)).alloc (.cells #[g',.slice a' k' c'] s1)).heap.size=w.heap.size+1+1:=by simp
 rw [e1] at h1 n1
 rw [e2] at h2 n2
 exact ⟨((Cs.new w _ s0).later (bel0 _ _)).later (bel0 _ _),h1.later (bel0 _ _),h2,((noInt2 w g a k c s0).later (bel0 _ _)).later (bel0 _ _),n1.later (bel0 _ _),n2,((bel0 _ _).trans ((bel0 _ _).mono (by simp<;>omega))).trans ((bel0 _ _).mono (by simp<;>omega))⟩
theorem GdS.setA {w:World} {A B:List Value} {W:World} (h:GdS w A B W) (us:List Value) (hl:A.length=us.length) (hu: ∀u∈us,NotInt u):GdS w us B (setAll W w.heap.size 0 us):=
 ⟨h.a.whole us hl,Cs.setAllO (by omega) us W 0 _ h.b,Cs.setAllO (by omega) us W 0 _ h.z,NoInt.setAllX us W 0 h.ia hu,NoInt.setAllX us W 0 h.ib hu,NoInt.setAllX us W 0 h.iz hu,below_setAll (Nat.le_refl _) us W 0 h.bel⟩
theorem GdS.setB {w:World} {A B:List Value} {W:World} (h:GdS w A B W) (us:List Value) (hl:B.length=us.length) (hu: ∀u∈us,NotInt u):GdS w A us (setAll W (w.heap.size+1) 0 us):=
 ⟨Cs.setAllO (by omega) us W 0 _ h.a,h.b.whole us hl,Cs.setAllO (by omega) us W 0 _ h.z,NoInt.setAllX us W 0 h.ia hu,NoInt.setAllX us W 0 h.ib hu,NoInt.setAllX us W 0 h.iz hu,below_setAll (by omega) us W 0 h.bel⟩
theorem gcdM_any (u v:Value) (n:Nat) (x y:Int) (w:World) (hn:n≤10000) (hu:MIs w u n x) (hv:MIs w v n y) (hx:x≠0) (hy:0<y):
 Calls Tryz.prog 33 #[u,v] w fun o w'=>MOut w n (Int.gcd x y:Int) o w':=by
 have hu':=hu
 have hv':=hv
 obtain ⟨g1,a1,c1,z1,rfl,_,_,_⟩:=hu'
 obtain ⟨g2,a2,c2,z2,rfl,_,_,_⟩:=hv'
 have HV:Hid (∀w',Below w.heap.size w w'→MIs w' (.agg #[g2,.slice a2 z2.length c2]) n y):=fun w' hb=>hv.later hb
 have HU:Hid (∀w',Below w.heap.size w w'→MIs w' (.agg #[g1,.slice a1 z1.length c1]) n x):=fun w' hb=>hu.later hb
 have HI0:Hid (∀s0 s1 s2,GdS w [g1,.slice a1 z1.length c1] [g2,.slice a2 z2.length c2] (((w.alloc (.cells #[g1,.slice a1 z1.length c1] s0)).alloc (.cells #[g2,.slice a2 z2.length c2] s1)).alloc (.cells #[false,()] s2))):=fun s0 s1 s2=>GdS.start w _ _ _ _ _ _ _ _ s0 s1 s2
 have HY:Hid (0<y∧(y.natAbs:Int)<65536^n):=⟨hy,hv.lt⟩
 have HX:Hid (x≠0):=hx
 clear hu hv hx hy
 go_enter Tryz.func33,Tryz.ntmps33
 go_wp2_with fail
 refine (makeM_any false g1 a1 z1.length c1 n x _ (by omega) (HU.out _ (HI0.out _ _ _).bel)).mono ?_
 rintro o w1 ⟨v1,rfl,hv1,hb1⟩
 have HM1:Hid (MIs w1 v1 n (sg false (x.natAbs:Int))):=hv1
 obtain ⟨g3,a3,c3,z3,rfl,_,_,_⟩:=hv1
 have HG1:Hid (GdS w [g1,.slice a1 z1.length c1] [g2,.slice a2 z2.length c2] w1):=(HI0.out _ _ _).later hb1
 clear hb1 HI0 HU
 obtain ⟨pa0,pa1⟩:=HG1.out.a.c2
 obtain ⟨pb0,pb1⟩:=HG1.out.b.c2
 obtain ⟨pz0,pz1⟩:=HG1.out.z.c2
 have fa:=HG1.out.a.2.1
 have fb:=HG1.out.b.2.1
 have fz:=HG1.out.z.2.1
 go_wp2_with fail
 clear pa0 pa1 pb0 pb1 pz0 pz1 fa fb fz
 obtain ⟨W1,hW1⟩: ∃V,V=((w1.setCell ⟨w.heap.size,0,none⟩ g3).setCell ⟨w.heap.size,1,none⟩ (.slice a3 z3.length c3)):=⟨_,rfl⟩
 rw [←hW1]
 have HG2:Hid (GdS w [g3,.slice a3 z3.length c3] [g2,.slice a2 z2.length c2] W1):=by unfold Hid;rw [hW1];exact HG1.out.setA [g3,.slice a3 z3.length c3] rfl (by simp [NotInt])
 have HM2:Hid (MIs W1 (.agg #[g3,.slice a3 z3.length c3]) n (x.natAbs:Int)):=by unfold Hid;rw [hW1];exact HM1.out.setAll [g3,.slice a3 z3.length c3] w1 0 HG1.out.ia (by simp [NotInt])
 clear hW1
 clear HG1 HM1
 refine (makeM_any false g2 a2 z2.length c2 n y _ (by omega) (HV.out _ HG2.out.bel)).mono ?_
 rintro o w2 ⟨v2,rfl,hv2,hb2⟩
 have HM3:Hid (MIs w2 v2 n (sg false (y.natAbs:Int))):=hv2
 obtain ⟨g4,a4,c4,z4,rfl,_,_,_⟩:=hv2
 have HG3:=Hid.mk (HG2.out.later hb2)
 have HM4:=Hid.mk (HM2.out.later hb2)
 clear hb2 HG2 HM2 HV
 have q1:((z3.length:Int)==0)=false:=by
  rw [beq_eq_false_iff_ne];intro e
  have:=HM4.out.zero_iff.mp (by omega)
  have:=HX.out;omega
 have q2:((z4.length:Int)==0)=false:=by
  rw [beq_eq_false_iff_ne];intro e
  have:=HM3.out.zero_iff.mp (by omega)
  have:=HY.out.1
  simp [sg] at*;omega
 obtain ⟨pa0,pa1⟩:=HG3.out.a.c2
 obtain ⟨pb0,pb1⟩:=HG3.out.b.c2
 obtain ⟨pz0,pz1⟩:=HG3.out.z.c2
 have fa:=HG3.out.a.2.1
 have fb:=HG3.out.b.2.1
 have fz:=HG3.out.z.2.1
 go_wp2_with fail
 clear pa0 pa1 pb0 pb1 pz0 pz1 fa fb fz
 clear q1 q2
 obtain ⟨W2,hW2⟩: ∃V,V=((w2.setCell ⟨w.heap.size+1,0,none⟩ g4).setCell ⟨w.heap.size+1,1,none⟩ (.slice a4 z4.length c4)):=⟨_,rfl⟩
 rw [←hW2]
 have HG4:Hid (GdS w [g3,.slice a3 z3.length c3] [g4,.slice a4 z4.length c4] W2):=by unfold Hid;rw [hW2];exact HG3.out.setB [g4,.slice a4 z4.length c4] rfl (by simp [NotInt])
 have HP4:Hid (MIs W2 (.agg #[g3,.slice a3 z3.length c3]) n (x.natAbs:Int)):=by unfold Hid;rw [hW2];exact HM4.out.setAll [g4,.slice a4 z4.length c4] w2 0 HG3.out.ib (by simp [NotInt])
 have HQ4:Hid (MIs W2 (.agg #[g4,.slice a4 z4.length c4]) n (y.natAbs:Int)):=by unfold Hid;rw [hW2];exact HM3.out.setAll [g4,.slice a4 z4.length c4] w2 0 HG3.out.ib (by simp [NotInt])
 clear hW2
 clear HG3 HM3 HM4
 refine (twosM_any (.agg #[g3,.slice a3 z3.length c3]) n (x.natAbs:Int) _ (by omega) (by have:=HX.out;omega) HP4.out).mono ?_
 rintro o w3 ⟨tx,rfl,htx,hqx,hb3⟩
 obtain ⟨px,hpx,hox⟩:=hqx
 have HPX:Hid ((x.natAbs:Int)=2^tx*px∧px%2=1):=⟨hpx,hox⟩
 have HG5:=Hid.mk (HG4.out.later hb3)
 have HP5:=Hid.mk (HP4.out.later hb3)
 have HQ5:=Hid.mk (HQ4.out.later hb3)
 clear hb3 HG4 HP4 HQ4 hpx hox
 obtain ⟨pa0,pa1⟩:=HG5.out.a.c2
 obtain ⟨pb0,pb1⟩:=HG5.out.b.c2
 obtain ⟨pz0,pz1⟩:=HG5.out.z.c2
 have fa:=HG5.out.a.2.1
 have fb:=HG5.out.b.2.1
 have fz:=HG5.out.z.2.1
 go_wp2_with fail
 clear pa0 pa1 pb0 pb1 pz0 pz1 fa fb fz
 refine (twosM_any (.agg #[g4,.slice a4 z4.length c4]) n (y.natAbs:Int) _ (by omega) (by have:=HY.out.1;omega) HQ5.out).mono ?_
 rintro o w4 ⟨ty,rfl,hty,hqy,hb4⟩
 obtain ⟨py,hpy,hoy⟩:=hqy
 have HPY:Hid ((y.natAbs:Int)=2^ty*py∧py%2=1):=⟨hpy,hoy⟩
 have HG6:=Hid.mk (HG5.out.later hb4)
 have HP6:=Hid.mk (HP5.out.later hb4)
 have HQ6:=Hid.mk (HQ5.out.later hb4)
 clear hb4 HG5 HP5 HQ5 hpy hoy
 obtain ⟨pa0,pa1⟩:=HG6.out.a.c2
 obtain ⟨pb0,pb1⟩:=HG6.out.b.c2
 obtain ⟨pz0,pz1⟩:=HG6.out.z.c2
 have fa:=HG6.out.a.2.1
 have fb:=HG6.out.b.2.1
 have fz:=HG6.out.z.2.1
 go_wp2_with fail
 clear pa0 pa1 pb0 pb1 pz0 pz1 fa fb fz
 refine (downM_any _ n (x.natAbs:Int) tx _ (by omega) (by omega) (by omega) (by omega) HP6.out).mono ?_
 rintro o w5 ⟨v5,l5,rfl,hv5,hb5⟩
 have HM5:Hid (MIs w5 v5 n px):=by
  unfold Hid
  rw [HPX.out.1,Int.toNat_natCast,Int.mul_ediv_cancel_left _ (by have:(0:Int)<2^tx:=Int.pow_pos (by decide);omega)] at hv5
  exact hv5
 clear HP6
 obtain ⟨g5,a5,c5,z5,rfl,_,_,_⟩:=hv5
 have HG7:=Hid.mk (HG6.out.later hb5)
 have HQ7:=Hid.mk (HQ6.out.later hb5)
 clear hb5 HG6 HQ6
 obtain ⟨pa0,pa1⟩:=HG7.out.a.c2
 obtain ⟨pb0,pb1⟩:=HG7.out.b.c2
 obtain ⟨pz0,pz1⟩:=HG7.out.z.c2
 have fa:=HG7.out.a.2.1
 have fb:=HG7.out.b.2.1
 have fz:=HG7.out.z.2.1
 go_wp2_with fail
 clear pa0 pa1 pb0 pb1 pz0 pz1 fa fb fz
 obtain ⟨W5,hW5⟩: ∃V,V=((w5.setCell ⟨w.heap.size,0,none⟩ g5).setCell ⟨w.heap.size,1,none⟩ (.slice a5 z5.length c5)):=⟨_,rfl⟩
 rw [←hW5]
 have HG8:Hid (GdS w [g5,.slice a5 z5.length c5] [g4,.slice a4 z4.length c4] W5):=by unfold Hid;rw [hW5];exact HG7.out.setA [g5,.slice a5 z5.length c5] rfl (by simp [NotInt])
 have HP8:Hid (MIs W5 (.agg #[g5,.slice a5 z5.length c5]) n px):=by unfold Hid;rw [hW5];exact HM5.out.setAll [g5,.slice a5 z5.length c5] w5 0 HG7.out.ia (by simp [NotInt])
 have HQ8:Hid (MIs W5 (.agg #[g4,.slice a4 z4.length c4]) n (y.natAbs:Int)):=by unfold Hid;rw [hW5];exact HQ7.out.setAll [g5,.slice a5 z5.length c5] w5 0 HG7.out.ia (by simp [NotInt])
 clear hW5
 clear HG7 HM5 HQ7
 refine (downM_any _ n (y.natAbs:Int) ty _ (by omega) (by omega) (by omega) (by omega) HQ8.out).mono ?_
 rintro o w6 ⟨v6,l6,rfl,hv6,hb6⟩
 have HM6:Hid (MIs w6 v6 n py):=by
  unfold Hid
  rw [HPY.out.1,Int.toNat_natCast,Int.mul_ediv_cancel_left _ (by have:(0:Int)<2^ty:=Int.pow_pos (by decide);omega)] at hv6
  exact hv6
 obtain ⟨g6,a6,c6,z6,rfl,_,_,_⟩:=hv6
 have HG9:=Hid.mk (HG8.out.later hb6)
 have HP9:=Hid.mk (HP8.out.later hb6)
 clear hb6 HG8 HP8 HQ8
 have HGC:Hid ((Int.gcd x y:Int)=2^(min tx ty)*(Int.gcd px py:Int)∧0<px∧0<py):=by
  obtain ⟨e1,o1⟩:=HPX.out
  obtain ⟨e2,o2⟩:=HPY.out
  have h1:(0:Int)<2^tx:=Int.pow_pos (by decide)
  have h2:(0:Int)<2^ty:=Int.pow_pos (by decide)
  refine ⟨?_,?_,?_⟩
  ·have h:=gcd_twos (i:=tx) (j:=ty) o1 o2
   rw [←e1,←e2] at h
   have h':Int.gcd x y=2^(min tx ty)*Int.gcd px py:=h
   rw [h'];push_cast;rfl
  ·have:=HX.out
   rcases Int.lt_or_le 0 px with q|q
   ·exact q
   ·have:=Int.mul_nonpos_of_nonneg_of_nonpos (Int.le_of_lt h1) q;omega
  ·have:=HY.out.1
   rcases Int.lt_or_le 0 py with q|q
   ·exact q
   ·have:=Int.mul_nonpos_of_nonneg_of_nonpos (Int.le_of_lt h2) q;omega
 obtain ⟨mm,hmm⟩: ∃mm:Nat,mm=min tx ty:=⟨_,rfl⟩
 have HMM:Hid (mm=min tx ty):=hmm
 have hm16:mm≤16*n:=by omega
 have HIF:Hid ((ty<tx∧mm=ty)∨(¬ty<tx∧mm=tx)):=by unfold Hid;omega
 clear hmm
 obtain ⟨pa0,pa1⟩:=HG9.out.a.c2
 obtain ⟨pb0,pb1⟩:=HG9.out.b.c2
 obtain ⟨pz0,pz1⟩:=HG9.out.z.c2
 have fa:=HG9.out.a.2.1
 have fb:=HG9.out.b.2.1
 have fz:=HG9.out.z.2.1
 go_upto_if 42 with fail
 clear pa0 pa1 pb0 pb1 pz0 pz1 fa fb fz
 obtain ⟨W6,hW6⟩: ∃V,V=((w6.setCell ⟨w.heap.size+1,0,none⟩ g6).setCell ⟨w.heap.size+1,1,none⟩ (.slice a6 z6.length c6)):=⟨_,rfl⟩
 rw [←hW6]
 have HGX:Hid (GdS w [g5,.slice a5 z5.length c5] [g6,.slice a6 z6.length c6] W6):=by unfold Hid;rw [hW6];exact HG9.out.setB [g6,.slice a6 z6.length c6] rfl (by simp [NotInt])
 have HPX2:Hid (MIs W6 (.agg #[g5,.slice a5 z5.length c5]) n px):=by unfold Hid;rw [hW6];exact HP9.out.setAll [g6,.slice a6 z6.length c6] w6 0 HG9.out.ib (by simp [NotInt])
 have HQX2:Hid (MIs W6 (.agg #[g6,.slice a6 z6.length c6]) n py):=by unfold Hid;rw [hW6];exact HM6.out.setAll [g6,.slice a6 z6.length c6] w6 0 HG9.out.ib (by simp [NotInt])
 clear hW6 HG9 HP9 HM6
 go_cut [5] from 8 (fun s5 wx=>s5= .int .i64 (mm:Int)∧Hid (GdS w [g5,.slice a5 z5.length c5] [g6,.slice a6 z6.length c6] wx)∧Hid (MIs wx (.agg #[g5,.slice a5 z5.length c5]) n px)∧Hid (MIs wx (.agg #[g6,.slice a6 z6.length c6]) n py))
 case first=>
  rcases HIF.out with ⟨h1,h2⟩| ⟨h1,h2⟩
  ·have h3:(ty:Int)<tx:=by omega
   clear h1
   have HE:Hid (mm=ty):=h2
   clear h2
   go_wp2_with fail
   go_meet
   case rel=>exact ⟨by rw [HE.out],HGX,HPX2,HQX2⟩
  ·have h3: ¬(ty:Int)<tx:=by omega
   clear h1
   have HE:Hid (mm=tx):=h2
   clear h2
   go_wp2_with fail
   go_meet
   case rel=>exact ⟨by rw [HE.out],HGX,HPX2,HQX2⟩
 case rest=>
  clear HGX HPX2 HQX2 HIF
  obtain ⟨rfl,HGX,HPX2,HQX2⟩:=hcut
  have HODD:Hid (px%2=1∧py%2=1):=⟨HPX.out.2,HPY.out.2⟩
  clear HPX HPY hty htx
  go_wp2_with fail
  go_loopg [7] (px+py).toNat (fun k _ wr=> ∃(g:Bool) (a:Option Addr) (c:Nat) (z:List Int) (g':Bool) (a':Option Addr) (c':Nat) (z':List Int) (p q:Int),k=(p+q).toNat∧Hid (GdS w [g,.slice a z.length c] [g',.slice a' z'.length c'] wr)∧Hid (MIs wr (.agg #[g,.slice a z.length c]) n p)∧Hid (MIs wr (.agg #[g',.slice a' z'.length c']) n q)∧Hid (0<p∧0<q∧p%2=1∧q%2=1∧Int.gcd p q=Int.gcd px py))
  case atStart=>exact ⟨g5,a5,c5,z5,g6,a6,c6,z6,px,py,rfl,HGX.out,HPX2.out,HQX2.out,HGC.out.2.1,HGC.out.2.2,HODD.out.1,HODD.out.2,rfl⟩
  case round=>
   clear HGX HPX2 HQX2 HODD
   obtain ⟨g,a,c,z,g',a',c',z',p,q,rfl,HS,HP,HQ,HO⟩:=hrel
   obtain ⟨pa0,pa1⟩:=HS.out.a.c2
   obtain ⟨pb0,pb1⟩:=HS.out.b.c2
   go_wp2_with fail
   refine (cmpMagM_any g g' a a' z.length z'.length c c' n n p q _ (by omega) (by omega) HP.out HQ.out).mono ?_
   rintro o w1 ⟨rfl,hb1⟩
   have HS1:=Hid.mk (HS.out.later hb1)
   have HP1:=Hid.mk (HP.out.later hb1)
   have HQ1:=Hid.mk (HQ.out.later hb1)
   clear hb1 HS HP HQ pa0 pa1 pb0 pb1
   rw [Int.natAbs_of_nonneg (Int.le_of_lt HO.out.1),Int.natAbs_of_nonneg (Int.le_of_lt HO.out.2.1)]
   rcases sgn_cases (p-q) with ⟨hd,hs⟩| ⟨hd,hs⟩| ⟨hd,hs⟩
   ·rw [hs]
    obtain ⟨pa0,pa1⟩:=HS1.out.a.c2
    obtain ⟨pb0,pb1⟩:=HS1.out.b.c2
    have fa:=HS1.out.a.2.1
    have fb:=HS1.out.b.2.1
    go_wp2_with fail
    clear pa0 pa1 pb0 pb1 fa fb
    refine (cmpMagM_any g g' a a' z.length z'.length c c' n n p q _ (by omega) (by omega) HP1.out HQ1.out).mono ?_
    rintro o w2 ⟨rfl,hb2⟩
    have HS2:=Hid.mk (HS1.out.later hb2)
    have HP2:=Hid.mk (HP1.out.later hb2)
    have HQ2:=Hid.mk (HQ1.out.later hb2)
    clear hb2 HS1 HP1 HQ1
    rw [Int.natAbs_of_nonneg (Int.le_of_lt HO.out.1),Int.natAbs_of_nonneg (Int.le_of_lt HO.out.2.1),hs]
    have HD:Hid (0<q-p):=by unfold Hid;omega
    clear hs hd
    have sz0:w.heap.size<w2.heap.size:=HS2.out.a.1
    have sz1:w.heap.size+1<w2.heap.size:=HS2.out.b.1
    obtain ⟨pa0,pa1⟩:=HS2.out.a.c2
    obtain ⟨pb0,pb1⟩:=HS2.out.b.c2
    have fa:=HS2.out.a.2.1
    have fb:=HS2.out.b.2.1
    go_upto_region 18 with fail
    clear pa0 pa1 pb0 pb1 fa fb
    clear sz0 sz1
    obtain ⟨WS,hWS⟩: ∃V,V=(((((w2.setCell ⟨w.heap.size,0,none⟩ g').setCell ⟨w.heap.size,1,none⟩ (.slice a' z'.length c')).setCell ⟨w.heap.size+1,0,none⟩ g).setCell ⟨w.heap.size+1,1,none⟩ (.slice a z.length c)).alloc (.cells #[g,.slice a z.length c] 72)):=⟨_,rfl⟩
    rw [←hWS]
    have HSS:Hid (GdS w [g',.slice a' z'.length c'] [g,.slice a z.length c] WS):=by unfold Hid;rw [hWS];exact ((HS2.out.setA [g',.slice a' z'.length c'] rfl (by simp [NotInt])).setB [g,.slice a z.length c] rfl (by simp [NotInt])).later (bel0 _ _)
    have HPS:Hid (MIs WS (.agg #[g',.slice a' z'.length c']) n q):=by unfold Hid;rw [hWS];exact (((HQ2.out.setAll [g',.slice a' z'.length c'] w2 0 HS2.out.ia (by simp [NotInt])).setAll [g,.slice a z.length c] _ 0 (HS2.out.setA [g',.slice a' z'.length c'] rfl (by simp [NotInt])).ib (by simp [NotInt])).later (bel0 _ _))
    have HQS:Hid (MIs WS (.agg #[g,.slice a z.length c]) n p):=by unfold Hid;rw [hWS];exact (((HP2.out.setAll [g',.slice a' z'.length c'] w2 0 HS2.out.ia (by simp [NotInt])).setAll [g,.slice a z.length c] _ 0 (HS2.out.setA [g',.slice a' z'.length c'] rfl (by simp [NotInt])).ib (by simp [NotInt])).later (bel0 _ _))
    clear hWS
    clear HS2 HP2 HQ2
    obtain ⟨pa0,pa1⟩:=HSS.out.a.c2
    obtain ⟨pb0,pb1⟩:=HSS.out.b.c2
    go_wp2_with fail
    clear pa0 pa1 pb0 pb1
    refine (subM_any _ _ n n q p _ (by omega) (by omega) HPS.out HQS.out).mono ?_
    rintro o w3 ⟨v3,rfl,hv3,hb3⟩
    have HPn3:Hid (((q).natAbs:Int)<65536^n):=HPS.out.lt
    have H3:Hid (MIs w3 v3 n (q-p)):=hv3.fit (by have:=HPn3.out;have:=HD.out;have:=HO.out.1;have:=HO.out.2.1;omega)
    obtain ⟨g7,a7,c7,z7,rfl,_,_,_⟩:=hv3
    have HS3:=Hid.mk (HSS.out.later hb3)
    have HQ3:=Hid.mk (HQS.out.later hb3)
    clear hb3 HSS HPS HQS HPn3
    obtain ⟨pa0,pa1⟩:=HS3.out.a.c2
    have fa:=HS3.out.a.2.1
    go_upto_region 19 with fail
    clear pa0 pa1 fa
    obtain ⟨W4,hW4⟩: ∃V,V=((w3.setCell ⟨w.heap.size,0,none⟩ g7).setCell ⟨w.heap.size,1,none⟩ (.slice a7 z7.length c7)):=⟨_,rfl⟩
    rw [←hW4]
    have HS4:Hid (GdS w [g7,.slice a7 z7.length c7] [g,.slice a z.length c] W4):=by unfold Hid;rw [hW4];exact HS3.out.setA [g7,.slice a7 z7.length c7] rfl (by simp [NotInt])
    have HP4:Hid (MIs W4 (.agg #[g7,.slice a7 z7.length c7]) n (q-p)):=by unfold Hid;rw [hW4];exact H3.out.setAll [g7,.slice a7 z7.length c7] w3 0 HS3.out.ia (by simp [NotInt])
    have HQ4:Hid (MIs W4 (.agg #[g,.slice a z.length c]) n p):=by unfold Hid;rw [hW4];exact HQ3.out.setAll [g7,.slice a7 z7.length c7] w3 0 HS3.out.ia (by simp [NotInt])
    clear hW4
    clear HS3 HQ3 H3
    obtain ⟨pa0,pa1⟩:=HS4.out.a.c2
    have fa:=HS4.out.a.2.1
    have hBd:Below W4.heap.size W4 W4.drew:=(Below.refl _ _).drew
    go_region_with
     (first
      |(go_at_call 69;refine (twosM_any (.agg #[g7,.slice a7 z7.length c7]) n (q-p) _ (by omega) (by have:=HD.out;omega) (HP4.out.later hBd)).mono ?_;rintro o w5 ⟨t5,rfl,ht5,hq5,hb5⟩;have hB5:Below W4.heap.size W4 w5:=hBd.trans hb5;have HS5:Hid (GdS w [g7,.slice a7 z7.length c7] [g,.slice a z.length c] w5):=HS4.out.later hB5;have qa0:=HS5.out.a.at 0 rfl;have qa1:=HS5.out.a.at 1 rfl;have ga:=HS5.out.a.2.1)
      |(go_at_call 70;refine (downM_any (.agg #[g7,.slice a7 z7.length c7]) n (q-p) t5 _ (by omega) (by omega) (by omega) (by have:=HD.out;omega) (HP4.out.later hB5)).mono ?_;rintro o w6 ⟨v6,l6,rfl,hv6,hb6⟩;have hB6:Below W4.heap.size W4 w6:=hB5.trans (hb6.mono hB5.size);have HM6:Hid (MIs w6 v6 n ((q-p)/2^(t5:Int).toNat)):=hv6;obtain ⟨g9,a9,c9,z9,rfl,_,_,_⟩:=hv6;have HS6:Hid (GdS w [g7,.slice a7 z7.length c7] [g,.slice a z.length c] w6):=HS4.out.later hB6;have ra0:=HS6.out.a.at 0 rfl;have ra1:=HS6.out.a.at 1 rfl;have ha:=HS6.out.a.2.1))
    all_goals
     obtain ⟨r5,hr5,ho5⟩:=hq5
     have HQ6:=Hid.mk (HQ4.out.later hB6)
     have HR5:Hid (q-p=2^t5*r5∧r5%2=1):=⟨hr5,ho5⟩
     have HM7:Hid (MIs w6 (.agg #[g9,.slice a9 z9.length c9]) n r5):=by
      unfold Hid
      have h:=HM6.out
      rw [HR5.out.1,Int.toNat_natCast,Int.mul_ediv_cancel_left _ (by have:(0:Int)<2^t5:=Int.pow_pos (by decide);omega)] at h
      exact h
     clear hr5 ho5 HM6 hB5 hB6 hb5 hb6 HS5 HS4 HP4 HQ4 hBd
     have HM8:Hid (0<r5∧r5≤q-p∧Int.gcd r5 p=Int.gcd px py):=by
      obtain ⟨e1,e2⟩:=HR5.out
      have h1:(1:Int)≤2^t5:=Int.pow_pos (by decide)
      have h0:0<r5:=by
       rcases Int.lt_or_le 0 r5 with c|c
       ·exact c
       ·have:=Int.mul_nonpos_of_nonneg_of_nonpos (Int.le_trans (by decide) h1) c
        have:=HD.out
        omega
      refine ⟨h0,?_,?_⟩
      ·have:=Int.mul_le_mul_of_nonneg_right h1 (Int.le_of_lt h0)
       omega
      ·rw [gcd_step (HO.out.2.2.1) e1]
       rw [Int.gcd_comm];exact HO.out.2.2.2.2
     go_wp2_with fail
     go_roundg (r5+p).toNat
     case measure=>have:=HM8.out.1;have:=HM8.out.2.1;have:=HO.out.1;have:=HO.out.2.1;have:=HD.out;omega
     case rel=>exact ⟨g9,a9,c9,z9,g,a,c,z,r5,p,rfl,HS6.out.setA [g9,.slice a9 z9.length c9] rfl (by simp [NotInt]),HM7.out.setAll [g9,.slice a9 z9.length c9] w6 0 HS6.out.ia (by simp [NotInt]),HQ6.out.setAll [g9,.slice a9 z9.length c9] w6 0 HS6.out.ia (by simp [NotInt]),HM8.out.1,HO.out.1,HR5.out.2,HO.out.2.2.1,HM8.out.2.2⟩
   ·rw [hs]
    have HD:Hid (p-q=0):=hd
    clear hs hd
    obtain ⟨pz0,pz1⟩:=HS1.out.z.c2
    have fz:=HS1.out.z.2.1
    obtain ⟨pa0,pa1⟩:=HS1.out.a.c2
    obtain ⟨pb0,pb1⟩:=HS1.out.b.c2
    have fa:=HS1.out.a.2.1
    have fb:=HS1.out.b.2.1
    go_wp2_with fail
    clear pa0 pa1 pb0 pb1 fa fb
    refine (upM_any _ n p mm _ (by omega) (by omega) (by omega) HP1.out).mono ?_
    rintro o w2 ⟨v2,rfl,hv2,hb2⟩
    have HR:Hid (MIs w2 v2 n (Int.gcd x y:Int)):=by
     unfold Hid
     have e:p*2^(mm:Int).toNat=(Int.gcd x y:Int):=by
      have hpq:p=q:=by have:=HD.out;omega
      have hg:=HO.out.2.2.2.2
      rw [←hpq,Int.gcd_self] at hg
      rw [HGC.out.1,←hg,←HMM.out,Int.toNat_natCast,Int.mul_comm,Int.natAbs_of_nonneg (Int.le_of_lt HO.out.1)]
     rw [e] at hv2
     refine hv2.fit ?_
     have h1:Int.gcd x y∣y.natAbs:=by
      have:=Int.gcd_dvd_right (a:=x) (b:=y)
      exact Int.natCast_dvd_natCast.mp (Int.dvd_trans this (Int.dvd_natAbs.mpr (Int.dvd_refl y)))
     have h2:Int.gcd x y≤y.natAbs:=Nat.le_of_dvd (by have:=HY.out.1;omega) h1
     have:=HY.out.2
     rw [Int.natAbs_natCast]
     omega
    obtain ⟨g8,a8,c8,z8,rfl,_,_,_⟩:=hv2
    have HS2:=Hid.mk (HS1.out.later hb2)
    clear hb2 HS1 HP1 HQ1 pz0 pz1 fz
    obtain ⟨pz0,pz1⟩:=HS2.out.z.c2
    have fz:=HS2.out.z.2.1
    go_wp2
    refine bodyPost_ret (v:= .agg #[g8,.slice a8 z8.length c8]) (by simp [results,Tryz.results33,go_sem,pz0,pz1]) rfl ?_
    exact ⟨_,rfl,HR.out.setAll [g8,.slice a8 z8.length c8] _ 0 HS2.out.iz (by simp [NotInt]),below_setAll (vs:=[↑g8,.slice a8 z8.length c8]) (by omega) _ 0 HS2.out.bel⟩
   ·rw [hs]
    obtain ⟨pa0,pa1⟩:=HS1.out.a.c2
    obtain ⟨pb0,pb1⟩:=HS1.out.b.c2
    have fa:=HS1.out.a.2.1
    have fb:=HS1.out.b.2.1
    go_wp2_with fail
    clear pa0 pa1 pb0 pb1 fa fb
    refine (cmpMagM_any g g' a a' z.length z'.length c c' n n p q _ (by omega) (by omega) HP1.out HQ1.out).mono ?_
    rintro o w2 ⟨rfl,hb2⟩
    have HS2:=Hid.mk (HS1.out.later hb2)
    have HP2:=Hid.mk (HP1.out.later hb2)
    have HQ2:=Hid.mk (HQ1.out.later hb2)
    clear hb2 HS1 HP1 HQ1
    rw [Int.natAbs_of_nonneg (Int.le_of_lt HO.out.1),Int.natAbs_of_nonneg (Int.le_of_lt HO.out.2.1),hs]
    have HD:Hid (0<p-q):=hd
    clear hs hd
    obtain ⟨pa0,pa1⟩:=HS2.out.a.c2
    obtain ⟨pb0,pb1⟩:=HS2.out.b.c2
    go_wp2_with fail
    clear pa0 pa1 pb0 pb1
    refine (subM_any _ _ n n p q _ (by omega) (by omega) HP2.out HQ2.out).mono ?_
    rintro o w3 ⟨v3,rfl,hv3,hb3⟩
    have HPn3:Hid (((p).natAbs:Int)<65536^n):=HP2.out.lt
    have H3:Hid (MIs w3 v3 n (p-q)):=hv3.fit (by have:=HPn3.out;have:=HD.out;have:=HO.out.1;have:=HO.out.2.1;omega)
    obtain ⟨g7,a7,c7,z7,rfl,_,_,_⟩:=hv3
    have HS3:=Hid.mk (HS2.out.later hb3)
    have HQ3:=Hid.mk (HQ2.out.later hb3)
    clear hb3 HS2 HP2 HQ2 HPn3
    obtain ⟨pa0,pa1⟩:=HS3.out.a.c2
    have fa:=HS3.out.a.2.1
    go_upto_region 19 with fail
    clear pa0 pa1 fa
    obtain ⟨W4,hW4⟩: ∃V,V=((w3.setCell ⟨w.heap.size,0,none⟩ g7).setCell ⟨w.heap.size,1,none⟩ (.slice a7 z7.length c7)):=⟨_,rfl⟩
    rw [←hW4]
    have HS4:Hid (GdS w [g7,.slice a7 z7.length c7] [g',.slice a' z'.length c'] W4):=by unfold Hid;rw [hW4];exact HS3.out.setA [g7,.slice a7 z7.length c7] rfl (by simp [NotInt])
    have HP4:Hid (MIs W4 (.agg #[g7,.slice a7 z7.length c7]) n (p-q)):=by unfold Hid;rw [hW4];exact H3.out.setAll [g7,.slice a7 z7.length c7] w3 0 HS3.out.ia (by simp [NotInt])
    have HQ4:Hid (MIs W4 (.agg #[g',.slice a' z'.length c']) n q):=by unfold Hid;rw [hW4];exact HQ3.out.setAll [g7,.slice a7 z7.length c7] w3 0 HS3.out.ia (by simp [NotInt])
    clear hW4
    clear HS3 HQ3 H3
    obtain ⟨pa0,pa1⟩:=HS4.out.a.c2
    have fa:=HS4.out.a.2.1
    have hBd:Below W4.heap.size W4 W4.drew:=(Below.refl _ _).drew
    go_region_with
     (first
      |(go_at_call 69;refine (twosM_any (.agg #[g7,.slice a7 z7.length c7]) n (p-q) _ (by omega) (by have:=HD.out;omega) (HP4.out.later hBd)).mono ?_;rintro o w5 ⟨t5,rfl,ht5,hq5,hb5⟩;have hB5:Below W4.heap.size W4 w5:=hBd.trans hb5;have HS5:Hid (GdS w [g7,.slice a7 z7.length c7] [g',.slice a' z'.length c'] w5):=HS4.out.later hB5;have qa0:=HS5.out.a.at 0 rfl;have qa1:=HS5.out.a.at 1 rfl;have ga:=HS5.out.a.2.1)
      |(go_at_call 70;refine (downM_any (.agg #[g7,.slice a7 z7.length c7]) n (p-q) t5 _ (by omega) (by omega) (by omega) (by have:=HD.out;omega) (HP4.out.later hB5)).mono ?_;rintro o w6 ⟨v6,l6,rfl,hv6,hb6⟩;have hB6:Below W4.heap.size W4 w6:=hB5.trans (hb6.mono hB5.size);have HM6:Hid (MIs w6 v6 n ((p-q)/2^(t5:Int).toNat)):=hv6;obtain ⟨g9,a9,c9,z9,rfl,_,_,_⟩:=hv6;have HS6:Hid (GdS w [g7,.slice a7 z7.length c7] [g',.slice a' z'.length c'] w6):=HS4.out.later hB6;have ra0:=HS6.out.a.at 0 rfl;have ra1:=HS6.out.a.at 1 rfl;have ha:=HS6.out.a.2.1))
    all_goals
     obtain ⟨r5,hr5,ho5⟩:=hq5
     have HQ6:=Hid.mk (HQ4.out.later hB6)
     have HR5:Hid (p-q=2^t5*r5∧r5%2=1):=⟨hr5,ho5⟩
     have HM7:Hid (MIs w6 (.agg #[g9,.slice a9 z9.length c9]) n r5):=by
      unfold Hid
      have h:=HM6.out
      rw [HR5.out.1,Int.toNat_natCast,Int.mul_ediv_cancel_left _ (by have:(0:Int)<2^t5:=Int.pow_pos (by decide);omega)] at h
      exact h
     clear hr5 ho5 HM6 hB5 hB6 hb5 hb6 HS5 HS4 HP4 HQ4 hBd
     have HM8:Hid (0<r5∧r5≤p-q∧Int.gcd r5 q=Int.gcd px py):=by
      obtain ⟨e1,e2⟩:=HR5.out
      have h1:(1:Int)≤2^t5:=Int.pow_pos (by decide)
      have h0:0<r5:=by
       rcases Int.lt_or_le 0 r5 with c|c
       ·exact c
       ·have:=Int.mul_nonpos_of_nonneg_of_nonpos (Int.le_trans (by decide) h1) c
        have:=HD.out
        omega
      refine ⟨h0,?_,?_⟩
      ·have:=Int.mul_le_mul_of_nonneg_right h1 (Int.le_of_lt h0)
       omega
      ·rw [gcd_step (HO.out.2.2.2.1) e1]
       exact HO.out.2.2.2.2
     go_wp2_with fail
     go_roundg (r5+q).toNat
     case measure=>have:=HM8.out.1;have:=HM8.out.2.1;have:=HO.out.1;have:=HO.out.2.1;have:=HD.out;omega
     case rel=>exact ⟨g9,a9,c9,z9,g',a',c',z',r5,q,rfl,HS6.out.setA [g9,.slice a9 z9.length c9] rfl (by simp [NotInt]),HM7.out.setAll [g9,.slice a9 z9.length c9] w6 0 HS6.out.ia (by simp [NotInt]),HQ6.out.setAll [g9,.slice a9 z9.length c9] w6 0 HS6.out.ia (by simp [NotInt]),HM8.out.1,HO.out.2.1,HR5.out.2,HO.out.2.2.2.1,HM8.out.2.2⟩
end Go.Proofs.YtfieffpobgcpmaaGreatDoor
