import Derived.Test.YtfieffpobgcpmaaGreatDoorMdNQ
import Derived.Test.YtfieffpobgcpmaaGreatDoorSpecS2SpecFlSpecBtMdMMdS
import Derived.Deep.CutRange
set_option maxRecDepth 100000
set_option maxHeartbeats 32000000
namespace Go.Proofs.YtfieffpobgcpmaaGreatDoor
open Go.RowKit
structure DvS (w:World) (P:Nat) (A B Q R O:List Value) (W:World):Prop where
 a:Cs W (w.heap.size) A
 b:Cs W (w.heap.size+1) B
 z:Cs W (w.heap.size+1+1) [false,()]
 q:Cs W (w.heap.size+1+1+1) Q
 r:Cs W (w.heap.size+1+1+1+1) R
 o:Cs W P O
 iz:NoInt W (w.heap.size+1+1)
 iq:NoInt W (w.heap.size+1+1+1)
 ir:NoInt W (w.heap.size+1+1+1+1)
 lt:w.heap.size+1+1+1+1<P
 bel:Below w.heap.size w W
theorem DvS.later {w:World} {P:Nat} {A B Q R O:List Value} {W W':World} (h:DvS w P A B Q R O W) (hb:Below W.heap.size W W'):DvS w P A B Q R O W':=
 ⟨h.a.later hb,h.b.later hb,h.z.later hb,h.q.later hb,h.r.later hb,h.o.later hb,h.iz.later hb,h.iq.later hb,h.ir.later hb,h.lt,h.bel.trans (hb.mono h.bel.size)⟩
theorem DvS.setQ {w:World} {P:Nat} {A B Q R O:List Value} {W:World} (h:DvS w P A B Q R O W) (us:List Value) (hl:Q.length=us.length) (hu: ∀u∈us,NotInt u):DvS w P A B us R O (setAll W (w.heap.size+1+1+1) 0 us):=
 ⟨Cs.setAllO (by omega) us W 0 _ h.a,Cs.setAllO (by omega) us W 0 _ h.b,Cs.setAllO (by omega) us W 0 _ h.z,h.q.whole us hl,Cs.setAllO (by omega) us W 0 _ h.r,Cs.setAllO (by have:=h.lt;omega) us W 0 _ h.o,NoInt.setAllX us W 0 h.iz hu,NoInt.setAllX us W 0 h.iq hu,NoInt.setAllX us W 0 h.ir hu,h.lt,below_setAll (by omega) us W 0 h.bel⟩
theorem DvS.setR {w:World} {P:Nat} {A B Q R O:List Value} {W:World} (h:DvS w P A B Q R O W) (us:List Value) (hl:R.length=us.length) (hu: ∀u∈us,NotInt u):DvS w P A B Q us O (setAll W (w.heap.size+1+1+1+1) 0 us):=
 ⟨Cs.setAllO (by omega) us W 0 _ h.a,Cs.setAllO (by omega) us W 0 _ h.b,Cs.setAllO (by omega) us W 0 _ h.z,Cs.setAllO (by omega) us W 0 _ h.q,h.r.whole us hl,Cs.setAllO (by have:=h.lt;omega) us W 0 _ h.o,NoInt.setAllX us W 0 h.iz hu,NoInt.setAllX us W 0 h.iq hu,NoInt.setAllX us W 0 h.ir hu,h.lt,below_setAll (by omega) us W 0 h.bel⟩
structure Dv5 (w:World) (A B:List Value) (W:World):Prop where
 a:Cs W (w.heap.size) A
 b:Cs W (w.heap.size+1) B
 z:Cs W (w.heap.size+1+1) [false,()]
 q:Cs W (w.heap.size+1+1+1) [false,()]
 r:Cs W (w.heap.size+1+1+1+1) [false,()]
 iz:NoInt W (w.heap.size+1+1)
 iq:NoInt W (w.heap.size+1+1+1)
 ir:NoInt W (w.heap.size+1+1+1+1)
 bel:Below w.heap.size w W
theorem Dv5.later {w:World} {A B:List Value} {W W':World} (h:Dv5 w A B W) (hb:Below W.heap.size W W'):Dv5 w A B W':=
 ⟨h.a.later hb,h.b.later hb,h.z.later hb,h.q.later hb,h.r.later hb,h.iz.later hb,h.iq.later hb,h.ir.later hb,h.bel.trans (hb.mono h.bel.size)⟩
theorem Dv5.start (w:World) (A B:Array Value) (s0 s1 s2 s3 s4:TypeId):Dv5 w A.toList B.toList (((((w.alloc (.cells A s0)).alloc (.cells B s1)).alloc (.cells #[false,()] s2)).alloc (.cells #[false,()] s3)).alloc (.cells #[false,()] s4)):=by
 obtain ⟨w1,h1⟩: ∃V,V=w.alloc (.cells A s0):=⟨_,rfl⟩
 obtain ⟨w2,h2⟩: ∃V,V=w1.alloc (.cells B s1):=⟨_,rfl⟩
 obtain ⟨w3,h3⟩: ∃V,V=w2.alloc (.cells #[false,()] s2):=⟨_,rfl⟩
 obtain ⟨w4,h4⟩: ∃V,V=w3.alloc (.cells #[false,()] s3):=⟨_,rfl⟩
 obtain ⟨w5,h5⟩: ∃V,V=w4.alloc (.cells #[false,()] s4):=⟨_,rfl⟩
 have e1:w1.heap.size=w.heap.size+1:=by rw [h1];simp
 have e2:w2.heap.size=w.heap.size+1+1:=by rw [h2];simp [e1]
 have e3:w3.heap.size=w.heap.size+1+1+1:=by rw [h3];simp [e2]
 have e4:w4.heap.size=w.heap.size+1+1+1+1:=by rw [h4];simp [e3]
 have b1:Below w.heap.size w w1:=by rw [h1];exact bel0 _ _
 have b2:Below w1.heap.size w1 w2:=by rw [h2];exact bel0 _ _
 have b3:Below w2.heap.size w2 w3:=by rw [h3];exact bel0 _ _
 have b4:Below w3.heap.size w3 w4:=by rw [h4];exact bel0 _ _
 have b5:Below w4.heap.size w4 w5:=by rw [h5];exact bel0 _ _
 have c1:Cs w1 w.heap.size A.toList:=by rw [h1];exact Cs.new _ _ _
 have c2:Cs w2 (w.heap.size+1) B.toList:=by rw [h2,←e1];exact Cs.new _ _ _
 have c3:Cs w3 (w.heap.size+1+1) [false,()]:=by rw [h3,←e2];exact Cs.new _ _ _
 have c4:Cs w4 (w.heap.size+1+1+1) [false,()]:=by rw [h4,←e3];exact Cs.new _ _ _
 have c5:Cs w5 (w.heap.size+1+1+1+1) [false,()]:=by rw [h5,←e4];exact Cs.new _ _ _
 have n3:NoInt w3 (w.heap.size+1+1):=by rw [h3,←e2];exact noInt2 _ _ _ _ _ _
 have n4:NoInt w4 (w.heap.size+1+1+1):=by rw [h4,←e3];exact noInt2 _ _ _ _ _ _
 have n5:NoInt w5 (w.heap.size+1+1+1+1):=by rw [h5,←e4];exact noInt2 _ _ _ _ _ _
 rw [←h1,←h2,←h3,←h4,←h5]
 exact ⟨(((c1.later b2).later b3).later b4).later b5,((c2.later b3).later b4).later b5,(c3.later b4).later b5,c4.later b5,c5,(n3.later b4).later b5,n4.later b5,n5,(((b1.trans (b2.mono b1.size)).trans (b3.mono (by omega))).trans (b4.mono (by omega))).trans (b5.mono (by omega))⟩
structure DvN (X y q r:Int) (i:Nat):Prop where
 e:q*y+r=X/2^i
 r0:0≤r
 r1:r<y
 q0:0≤q
theorem DvN.step0 {X y q r:Int} {i:Nat} (h:DvN X y q r (i+1)) {t:Int} (ht:t=X/2^i%2) (hlt:r*2+t<y):DvN X y (q*2) (r*2+t) i:=by
 have h1:=div_next (X:=X) i
 have h2:=h.e
 refine ⟨?_,by have:=h.r0;omega,hlt,by have:=h.q0;omega⟩
 rw [h1,←h2,←ht];grind
theorem DvN.step1 {X y q r:Int} {i:Nat} (h:DvN X y q r (i+1)) {t:Int} (ht:t=X/2^i%2) (hlt:y≤r*2+t):DvN X y (q*2+1) (r*2+t-y) i:=by
 have h1:=div_next (X:=X) i
 have h2:=h.e
 refine ⟨?_,by omega,by have:=h.r1;omega,by have:=h.q0;omega⟩
 rw [h1,←h2,←ht];grind
theorem DvN.small {X y q r:Int} {i:Nat} (h:DvN X y q r i) (hX:0≤X) (hy:0<y):q≤X:=by
 have h1:=h.e
 have h2:X/2^i≤X:=Int.ediv_le_self _ hX
 have h3:q*1≤q*y:=Int.mul_le_mul_of_nonneg_left (by omega) h.q0
 have:=h.r0
 omega
theorem DvN.done {X y q r:Int} (h:DvN X y q r 0) (hd:y∣X):q=X/y:=by
 have h1:=h.e
 have:=h.r0;have:=h.r1
 rw [Int.pow_zero,Int.ediv_one] at h1
 have h0:r=0:=by
  obtain ⟨k,hk⟩:=hd
  have:r=y*(k-q):=by rw [Int.mul_sub,←hk,←h1,Int.mul_comm y q];omega
  rcases Int.lt_trichotomy (k-q) 0 with c|c|c
  ·have:=Int.mul_neg_of_pos_of_neg (show 0<y by omega) c;omega
  ·rw [c] at this;simpa using this
  ·have:y*1≤y*(k-q):=Int.mul_le_mul_of_nonneg_left (by omega) (by omega)
   omega
 rw [←h1,h0,Int.add_zero,Int.mul_ediv_cancel _ (by omega)]
theorem divM_any (u v:Value) (n:Nat) (x y:Int) (w:World) (hn:n≤10000) (hu:MIs w u n x) (hv:MIs w v n y) (hx:x≠0) (hy:0<y) (hd:y∣(x.natAbs:Int)):
 Calls Tryz.prog 35 #[u,v] w fun o w'=>MOut w n (sg (decide (x<0)) ((x.natAbs:Int)/y)) o w':=by
 have hu':=hu
 have hv':=hv
 obtain ⟨g1,a1,c1,z1,rfl,k1,_,_⟩:=hu'
 obtain ⟨g2,a2,c2,z2,rfl,_,_,_⟩:=hv'
 have hne:z1≠[]:=by
  intro e;subst e
  exact hx (hu.zero_iff.mp rfl)
 obtain ⟨b1,o1,rfl,hb1,hc1⟩:=k1.sl.row.resolve_left hne
 have HG1:Hid (g1=decide (x<0)):=hu.neg_iff
 have HAB:Hid ((x.natAbs:Int)=val 65536 z1∧Dig 65536 z1):=⟨k1.abs,k1.can.1⟩
 have HCL:Hid (∀w',Below w.heap.size w w'→ ∀j,j<z1.length→w'.cell? ⟨b1,o1+j,none⟩=some (.int .i64 (z1.getD j 0))):=fun w' hb j hj=>(hb.cell (p:=⟨b1,o1+j,none⟩) hb1).trans (hc1 j hj)
 have HL:Hid (∀w',Below w.heap.size w w'→L1 w' g1 (some ⟨b1,o1,none⟩) c1 z1 x):=fun w' hb=>k1.later hb
 have hzn:z1.length≤n:=by obtain ⟨ds,e,_,h3⟩:=hu.inv;omega
 have HV:Hid (∀w',Below w.heap.size w w'→MIs w' (.agg #[g2,.slice a2 z2.length c2]) n y):=fun w' hb=>hv.later hb
 have HN:Hid (x≠0∧0<y∧y∣(x.natAbs:Int)∧(x.natAbs:Int)<65536^n∧(y.natAbs:Int)<65536^n):=⟨hx,hy,hd,hu.lt,hv.lt⟩
 have HNE:Hid (z1≠[]):=hne
 have HI0:Hid (∀s0 s1 s2 s3 s4,Dv5 w [g1,.slice (some ⟨b1,o1,none⟩) z1.length c1] [g2,.slice a2 z2.length c2] (((((w.alloc (.cells #[g1,.slice (some ⟨b1,o1,none⟩) z1.length c1] s0)).alloc (.cells #[g2,.slice a2 z2.length c2] s1)).alloc (.cells #[false,()] s2)).alloc (.cells #[false,()] s3)).alloc (.cells #[false,()] s4))):=fun s0 s1 s2 s3 s4=>Dv5.start w _ _ s0 s1 s2 s3 s4
 clear hu hv hx hy hd k1 hb1 hc1 hne
 go_enter Tryz.func35,Tryz.ntmps35
 go_wp2_with fail
 refine (small_any 1 _ (by decide) (by decide)).mono ?_
 rintro o w1 ⟨a5,c5,z5,rfl,hl5,hL5,_,hb1⟩
 have HO1:Hid (MIs w1 (.agg #[false,.slice a5 z5.length c5]) 1 1):=⟨false,a5,c5,z5,rfl,hL5,hl5,trivial⟩
 have HF1:Hid (Dv5 w [g1,.slice (some ⟨b1,o1,none⟩) z1.length c1] [g2,.slice a2 z2.length c2] w1):=(HI0.out _ _ _ _ _).later hb1
 clear hb1 hL5 hl5 HI0
 have y0:w.heap.size<w1.heap.size:=HF1.out.a.1
 obtain ⟨pa0,pa1⟩:=HF1.out.a.c2
 have HF2:Hid (∀t,DvS w w1.heap.size [g1,.slice (some ⟨b1,o1,none⟩) z1.length c1] [g2,.slice a2 z2.length c2] [false,()] [false,()] [false,.slice a5 z5.length c5] (w1.alloc (.cells #[false,.slice a5 z5.length c5] t))):=fun t=>⟨HF1.out.a.later (bel0 _ _),HF1.out.b.later (bel0 _ _),HF1.out.z.later (bel0 _ _),HF1.out.q.later (bel0 _ _),HF1.out.r.later (bel0 _ _),Cs.new _ _ _,HF1.out.iz.later (bel0 _ _),HF1.out.iq.later (bel0 _ _),HF1.out.ir.later (bel0 _ _),HF1.out.r.1,HF1.out.bel.trans ((bel0 _ _).mono HF1.out.bel.size)⟩
 have HO2:Hid (∀t,MIs (w1.alloc (.cells #[false,.slice a5 z5.length c5] t)) (.agg #[false,.slice a5 z5.length c5]) 1 1):=fun t=>HO1.out.later (bel0 _ _)
 go_wp2_with fail
 clear pa0 pa1 y0
 refine (bits_any g1 (some ⟨b1,o1,none⟩) c1 z1 x _ (by omega) (HL.out _ (HF2.out _).bel) HNE.out).mono ?_
 rintro o w2 ⟨T,rfl,hT,_,hXT,hb2⟩
 have HF3:Hid (DvS w w1.heap.size [g1,.slice (some ⟨b1,o1,none⟩) z1.length c1] [g2,.slice a2 z2.length c2] [false,()] [false,()] [false,.slice a5 z5.length c5] w2):=(HF2.out _).later hb2
 have HO3:Hid (MIs w2 (.agg #[false,.slice a5 z5.length c5]) 1 1):=(HO2.out _).later hb2
 have HXT:Hid ((x.natAbs:Int)<2^(T+1)):=by unfold Hid;rw [HAB.out.1];exact hXT
 clear hb2 HF2 HO2 HF1 HO1 hXT
 generalize hP:w1.heap.size=P at*
 clear hP
 have hT1:(T:Int)+1-1=T:=by omega
 go_wp2_with fail
 clear hT1
 go_loopg [8] (T+1) (fun k s8 wr=> ∃(g6:Bool) (a6:Option Addr) (c6:Nat) (z6:List Int) (g7:Bool) (a7:Option Addr) (c7:Nat) (z7:List Int) (q r:Int) (K:Nat),s8= .int .i64 ((K:Int)-1)∧K≤T+1∧Hid (k=K)∧Hid (DvS w P [g1,.slice (some ⟨b1,o1,none⟩) z1.length c1] [g2,.slice a2 z2.length c2] [g6,.slice a6 z6.length c6] [g7,.slice a7 z7.length c7] [false,.slice a5 z5.length c5] wr)∧Hid (MIs wr (.agg #[g6,.slice a6 z6.length c6]) n q)∧Hid (MIs wr (.agg #[g7,.slice a7 z7.length c7]) n r)∧Hid (MIs wr (.agg #[false,.slice a5 z5.length c5]) 1 1)∧Hid (DvN (x.natAbs:Int) y q r K))
 case atStart=>
  refine ⟨false,none,0,[],false,none,0,[],0,0,T+1,by congr 1;omega,Nat.le_refl _,rfl,HF3.out,MIs.zero _ _,MIs.zero _ _,HO3.out,⟨?_,by omega,HN.out.2.1,by omega⟩⟩
  rw [Int.ediv_eq_zero_of_lt (by omega) HXT.out];omega
 case round=>
  clear HF3 HO3 HXT
  obtain ⟨g6,a6,c6,z6,g7,a7,c7,z7,q,r,K,rfl,hk,HKK,HF,HQ,HR,HO,HD⟩:=hrel
  rcases Nat.eq_zero_or_pos K with rfl|hkp
  ·have pa0:=HF.out.a.at 0 rfl
   have pq1:=HF.out.q.at 1 rfl
   go_wp2_with fail
   refine (makeM_any g1 g6 a6 z6.length c6 n q _ (by omega) HQ.out).mono ?_
   rintro o w3 ⟨v3,rfl,hv3,hb3⟩
   have HR3:Hid (MIs w3 v3 n (sg (decide (x<0)) ((x.natAbs:Int)/y))):=by
    unfold Hid
    rw [Int.natAbs_of_nonneg HD.out.q0,HD.out.done HN.out.2.2.1,HG1.out] at hv3
    exact hv3
   obtain ⟨g8,a8,c8,z8,rfl,_,_,_⟩:=hv3
   have HF4:=Hid.mk (HF.out.later hb3)
   clear hb3 HF pa0 pq1
   obtain ⟨pz0,pz1⟩:=HF4.out.z.c2
   have fz:=HF4.out.z.2.1
   go_wp2
   refine bodyPost_ret (v:= .agg #[g8,.slice a8 z8.length c8]) (by simp [results,Tryz.results35,go_sem,pz0,pz1]) rfl ?_
   exact ⟨_,rfl,HR3.out.setAll [g8,.slice a8 z8.length c8] _ 0 HF4.out.iz (by simp [NotInt]),below_setAll (vs:=[↑g8,.slice a8 z8.length c8]) (by omega) _ 0 HF4.out.bel⟩
  ·obtain ⟨i,rfl⟩: ∃i,K=i+1:=⟨K-1,by omega⟩
   have he:(((i+1:Nat):Int)-1)=(i:Int):=by omega
   rw [he]
   clear he hkp
   obtain ⟨pr0,pr1⟩:=HF.out.r.c2
   go_wp2_with fail
   clear pr0 pr1
   refine (upM_any _ n r 1 _ (by omega) (by omega) (by omega) HR.out).mono ?_
   rintro o w3 ⟨v3,rfl,hv3,hb3⟩
   have H3:Hid (MIs w3 v3 (n+1) (r*2)):=hv3
   obtain ⟨g8,a8,c8,z8,rfl,_,_,_⟩:=hv3
   have HF4:=Hid.mk (HF.out.later hb3)
   have HQ4:=Hid.mk (HQ.out.later hb3)
   have HO4:=Hid.mk (HO.out.later hb3)
   clear hb3 HF HQ HR HO
   obtain ⟨pr0,pr1⟩:=HF4.out.r.c2
   have fr:=HF4.out.r.2.1
   go_upto_region 8 with fail
   clear pr0 pr1 fr
   obtain ⟨W3,hW3⟩: ∃V,V=((w3.setCell ⟨w.heap.size+1+1+1+1,0,none⟩ g8).setCell ⟨w.heap.size+1+1+1+1,1,none⟩ (.slice a8 z8.length c8)):=⟨_,rfl⟩
   rw [←hW3]
   have HF5:Hid (DvS w P [g1,.slice (some ⟨b1,o1,none⟩) z1.length c1] [g2,.slice a2 z2.length c2] [g6,.slice a6 z6.length c6] [g8,.slice a8 z8.length c8] [false,.slice a5 z5.length c5] W3):=by unfold Hid;rw [hW3];exact HF4.out.setR [g8,.slice a8 z8.length c8] rfl (by simp [NotInt])
   have HQ5:Hid (MIs W3 (.agg #[g6,.slice a6 z6.length c6]) n q):=by unfold Hid;rw [hW3];exact HQ4.out.setAll [g8,.slice a8 z8.length c8] w3 0 HF4.out.ir (by simp [NotInt])
   have HR5:Hid (MIs W3 (.agg #[g8,.slice a8 z8.length c8]) (n+1) (r*2)):=by unfold Hid;rw [hW3];exact H3.out.setAll [g8,.slice a8 z8.length c8] w3 0 HF4.out.ir (by simp [NotInt])
   have HO5:Hid (MIs W3 (.agg #[false,.slice a5 z5.length c5]) 1 1):=by unfold Hid;rw [hW3];exact HO4.out.setAll [g8,.slice a8 z8.length c8] w3 0 HF4.out.ir (by simp [NotInt])
   clear hW3
   clear HF4 HQ4 HO4 H3
   obtain ⟨J,hJ⟩: ∃J,J=i/16:=⟨_,rfl⟩
   obtain ⟨E,hE⟩: ∃E,E=i%16:=⟨_,rfl⟩
   have hJl:J<z1.length:=by omega
   have hBit:=bit_at HAB.out.2 (i:=i) (by omega)
   rw [←hJ,←hE,←HAB.out.1] at hBit
   have hdig:=HAB.out.2.at (by decide) J
   obtain ⟨dj,hdj⟩: ∃dj,dj=z1.getD J 0:=⟨_,rfl⟩
   have gc:=HCL.out _ HF5.out.bel J hJl
   rw [←hdj] at hBit hdig gc
   obtain ⟨hd0,hd1⟩:=hdig
   have hq0:0≤dj/2^E:=Int.ediv_nonneg hd0 (Int.le_of_lt (Int.pow_pos (by decide)))
   obtain ⟨tb,htb⟩: ∃tb,tb=dj/2^E%2:=⟨_,rfl⟩
   have HTB:Hid (tb=(x.natAbs:Int)/2^i%2):=by unfold Hid;rw [htb];exact hBit
   have hJi:(i:Int)/16=(J:Int):=by omega
   have hEi:(i:Int)%16=(E:Int):=by omega
   have hJt:(i:Int).tdiv 16=(J:Int):=by rw [Int.tdiv_eq_ediv_of_nonneg (by omega)];exact hJi
   have hEt:(i:Int).tmod 16=(E:Int):=by rw [Int.tmod_eq_emod_of_nonneg (by omega)];exact hEi
   have hE16:E<16:=by omega
   have htc:tb=0∨tb=1:=by omega
   obtain ⟨bt,hcond⟩: ∃bt,(dj/2^E%2==1)=bt:=⟨_,rfl⟩
   have HBT:Hid ((bt=false∧tb=0)∨(bt=true∧tb=1)):=by
    rw [←htb] at hcond
    rcases htc with h|h
    ·left;rw [h] at hcond;exact ⟨by rw [←hcond];rfl,h⟩
    ·right;rw [h] at hcond;exact ⟨by rw [←hcond];rfl,h⟩
   clear hBit hdj hJ hE htb
   have pa1:=HF5.out.a.at 1 rfl
   obtain ⟨pr0,pr1⟩:=HF5.out.r.c2
   obtain ⟨po0,po1⟩:=HF5.out.o.c2
   have fr:=HF5.out.r.2.1
   go_upto_if 32 with fail
   go_cut [] from 15 to 49 (fun wx=> ∃(g9:Bool) (a9:Option Addr) (c9:Nat) (z9:List Int),Hid (DvS w P [g1,.slice (some ⟨b1,o1,none⟩) z1.length c1] [g2,.slice a2 z2.length c2] [g6,.slice a6 z6.length c6] [g9,.slice a9 z9.length c9] [false,.slice a5 z5.length c5] wx)∧Hid (MIs wx (.agg #[g6,.slice a6 z6.length c6]) n q)∧Hid (MIs wx (.agg #[g9,.slice a9 z9.length c9]) (n+3) (r*2+tb))∧Hid (MIs wx (.agg #[false,.slice a5 z5.length c5]) 1 1))
   case first=>
    rcases HBT.out with ⟨rfl,h0⟩| ⟨rfl,h0⟩
    ·have H0:Hid (tb=0):=h0
     clear h0 HBT
     go_wp2_with fail
     go_meet
     case rel=>exact ⟨g8,a8,c8,z8,HF5,HQ5,by unfold Hid;rw [H0.out,Int.add_zero];exact HR5.out.up (by omega),HO5⟩
    ·have H0:Hid (tb=1):=h0
     clear h0 HBT
     go_wp2_with fail
     refine (addM_any _ _ (n+1) 1 (r*2) 1 _ (by omega) (by omega) HR5.out HO5.out).mono ?_
     rintro o w4 ⟨v4,rfl,hv4,hb4⟩
     have H4:Hid (MIs w4 v4 (n+3) (r*2+tb)):=by unfold Hid;rw [H0.out];exact hv4
     obtain ⟨g9,a9,c9,z9,rfl,_,_,_⟩:=hv4
     have HF6:=Hid.mk (HF5.out.later hb4)
     have HQ6:=Hid.mk (HQ5.out.later hb4)
     have HO6:=Hid.mk (HO5.out.later hb4)
     clear hb4 HF5 HQ5 HR5 HO5 pa1 pr0 pr1 po0 po1 fr gc
     obtain ⟨pr0,pr1⟩:=HF6.out.r.c2
     have fr:=HF6.out.r.2.1
     go_wp2_with fail
     go_meet
     case rel=>exact ⟨g9,a9,c9,z9,HF6.out.setR [g9,.slice a9 z9.length c9] rfl (by simp [NotInt]),HQ6.out.setAll [g9,.slice a9 z9.length c9] w4 0 HF6.out.ir (by simp [NotInt]),H4.out.setAll [g9,.slice a9 z9.length c9] w4 0 HF6.out.ir (by simp [NotInt]),HO6.out.setAll [g9,.slice a9 z9.length c9] w4 0 HF6.out.ir (by simp [NotInt])⟩
   case rest=>
    clear HF5 HQ5 HR5 HO5 pa1 pr0 pr1 po0 po1 fr gc hJi hEi hJt hEt hq0 hd0 hd1 hJl hE16 hcond HBT
    have HT2:Hid (tb=0∨tb=1):=htc
    clear htc
    obtain ⟨g9,a9,c9,z9,HF5,HQ5,HR5,HO5⟩:=hcut
    obtain ⟨pq0,pq1⟩:=HF5.out.q.c2
    go_wp2_with fail
    clear pq0 pq1
    refine (upM_any _ n q 1 _ (by omega) (by omega) (by omega) HQ5.out).mono ?_
    rintro o w5 ⟨v5,rfl,hv5,hb5⟩
    have H5:Hid (MIs w5 v5 (n+1) (q*2)):=hv5
    obtain ⟨g10,a10,c10,z10,rfl,_,_,_⟩:=hv5
    have HF6:=Hid.mk (HF5.out.later hb5)
    have HR6:=Hid.mk (HR5.out.later hb5)
    have HO6:=Hid.mk (HO5.out.later hb5)
    clear hb5 HF5 HQ5 HR5 HO5
    obtain ⟨pq0,pq1⟩:=HF6.out.q.c2
    have fq:=HF6.out.q.2.1
    go_upto_region 11 with fail
    clear pq0 pq1 fq
    obtain ⟨W5,hW5⟩: ∃V,V=((w5.setCell ⟨w.heap.size+1+1+1,0,none⟩ g10).setCell ⟨w.heap.size+1+1+1,1,none⟩ (.slice a10 z10.length c10)):=⟨_,rfl⟩
    rw [←hW5]
    have HF7:Hid (DvS w P [g1,.slice (some ⟨b1,o1,none⟩) z1.length c1] [g2,.slice a2 z2.length c2] [g10,.slice a10 z10.length c10] [g9,.slice a9 z9.length c9] [false,.slice a5 z5.length c5] W5):=by unfold Hid;rw [hW5];exact HF6.out.setQ [g10,.slice a10 z10.length c10] rfl (by simp [NotInt])
    have HQ7:Hid (MIs W5 (.agg #[g10,.slice a10 z10.length c10]) (n+1) (q*2)):=by unfold Hid;rw [hW5];exact H5.out.setAll [g10,.slice a10 z10.length c10] w5 0 HF6.out.iq (by simp [NotInt])
    have HR7:Hid (MIs W5 (.agg #[g9,.slice a9 z9.length c9]) (n+3) (r*2+tb)):=by unfold Hid;rw [hW5];exact HR6.out.setAll [g10,.slice a10 z10.length c10] w5 0 HF6.out.iq (by simp [NotInt])
    have HO7:Hid (MIs W5 (.agg #[false,.slice a5 z5.length c5]) 1 1):=by unfold Hid;rw [hW5];exact HO6.out.setAll [g10,.slice a10 z10.length c10] w5 0 HF6.out.iq (by simp [NotInt])
    clear hW5
    clear HF6 HR6 HO6 H5
    have pr1:=HF7.out.r.at 1 rfl
    have pb1:=HF7.out.b.at 1 rfl
    go_wp2_with fail
    clear pr1 pb1
    refine (cmpMagM_any g9 g2 a9 a2 z9.length z2.length c9 c2 (n+3) n (r*2+tb) y _ (by omega) (by omega) HR7.out (HV.out _ HF7.out.bel)).mono ?_
    rintro o w6 ⟨rfl,hb6⟩
    have HF8:=Hid.mk (HF7.out.later hb6)
    have HQ8:=Hid.mk (HQ7.out.later hb6)
    have HR8:=Hid.mk (HR7.out.later hb6)
    have HO8:=Hid.mk (HO7.out.later hb6)
    clear hb6 HF7 HQ7 HR7 HO7
    have e1:(((r*2+tb).natAbs:Int))=r*2+tb:=by have:=HD.out.r0;have:=HT2.out;omega
    have e2:((y.natAbs:Int))=y:=by have:=HN.out.2.1;omega
    rw [e1,e2]
    clear e1 e2
    obtain ⟨pq0,pq1⟩:=HF8.out.q.c2
    obtain ⟨pr0,pr1⟩:=HF8.out.r.c2
    obtain ⟨pb0,pb1⟩:=HF8.out.b.c2
    by_cases hcm:r*2+tb<y
    ·have hs:sgn (r*2+tb-y)= -1:=by rcases sgn_cases (r*2+tb-y) with ⟨_,h⟩| ⟨h,_⟩| ⟨h,_⟩<;>omega
     rw [hs]
     have HE:Hid (DvN (x.natAbs:Int) y (q*2) (r*2+tb) i):=HD.out.step0 HTB.out hcm
     clear hs hcm
     go_wp2_with fail
     go_roundg i
     case measure=>have:=HKK.out;omega
     case rel=>
      refine ⟨g10,a10,c10,z10,g9,a9,c9,z9,q*2,r*2+tb,i,rfl,by omega,rfl,HF8,HQ8.out.fit ?_,HR8.out.fit ?_,HO8,HE⟩
      ·have:=HE.out.small (by omega) HN.out.2.1;have:=HE.out.q0;have:=HN.out.2.2.2.1;omega
      ·have:=HE.out.r0;have:=HE.out.r1;have:=HN.out.2.2.2.2;omega
    ·have hs:0≤sgn (r*2+tb-y):=by rcases sgn_cases (r*2+tb-y) with ⟨_,h⟩| ⟨h,_⟩| ⟨h,_⟩<;>omega
     obtain ⟨sv,hsv⟩: ∃sv,sv=sgn (r*2+tb-y):=⟨_,rfl⟩
     rw [←hsv] at hs⊢
     have HE:Hid (DvN (x.natAbs:Int) y (q*2+1) (r*2+tb-y) i):=HD.out.step1 HTB.out (by omega)
     clear hsv hcm
     go_wp2_with fail
     clear pq0 pq1 pr0 pr1 pb0 pb1 hs
     refine (subM_any _ _ (n+3) n (r*2+tb) y _ (by omega) (by omega) HR8.out (HV.out _ HF8.out.bel)).mono ?_
     rintro o w7 ⟨v7,rfl,hv7,hb7⟩
     have H7:Hid (MIs w7 v7 n (r*2+tb-y)):=hv7.fit (by have:=HE.out.r0;have:=HE.out.r1;have:=HN.out.2.2.2.2;omega)
     obtain ⟨g11,a11,c11,z11,rfl,_,_,_⟩:=hv7
     have HF9:=Hid.mk (HF8.out.later hb7)
     have HQ9:=Hid.mk (HQ8.out.later hb7)
     have HO9:=Hid.mk (HO8.out.later hb7)
     clear hb7 HF8 HQ8 HR8 HO8
     obtain ⟨pr0,pr1⟩:=HF9.out.r.c2
     have fr:=HF9.out.r.2.1
     go_upto_region 13 with fail
     clear pr0 pr1 fr
     obtain ⟨W7,hW7⟩: ∃V,V=((w7.setCell ⟨w.heap.size+1+1+1+1,0,none⟩ g11).setCell ⟨w.heap.size+1+1+1+1,1,none⟩ (.slice a11 z11.length c11)):=⟨_,rfl⟩
     rw [←hW7]
     have HFA:Hid (DvS w P [g1,.slice (some ⟨b1,o1,none⟩) z1.length c1] [g2,.slice a2 z2.length c2] [g10,.slice a10 z10.length c10] [g11,.slice a11 z11.length c11] [false,.slice a5 z5.length c5] W7):=by unfold Hid;rw [hW7];exact HF9.out.setR [g11,.slice a11 z11.length c11] rfl (by simp [NotInt])
     have HQA:Hid (MIs W7 (.agg #[g10,.slice a10 z10.length c10]) (n+1) (q*2)):=by unfold Hid;rw [hW7];exact HQ9.out.setAll [g11,.slice a11 z11.length c11] w7 0 HF9.out.ir (by simp [NotInt])
     have HRA:Hid (MIs W7 (.agg #[g11,.slice a11 z11.length c11]) n (r*2+tb-y)):=by unfold Hid;rw [hW7];exact H7.out.setAll [g11,.slice a11 z11.length c11] w7 0 HF9.out.ir (by simp [NotInt])
     have HOA:Hid (MIs W7 (.agg #[false,.slice a5 z5.length c5]) 1 1):=by unfold Hid;rw [hW7];exact HO9.out.setAll [g11,.slice a11 z11.length c11] w7 0 HF9.out.ir (by simp [NotInt])
     clear hW7
     clear HF9 HQ9 HO9 H7
     obtain ⟨pq0,pq1⟩:=HFA.out.q.c2
     obtain ⟨po0,po1⟩:=HFA.out.o.c2
     go_wp2_with fail
     clear pq0 pq1 po0 po1
     refine (addM_any _ _ (n+1) 1 (q*2) 1 _ (by omega) (by omega) HQA.out HOA.out).mono ?_
     rintro o w8 ⟨v8,rfl,hv8,hb8⟩
     have H8:Hid (MIs w8 v8 n (q*2+1)):=hv8.fit (by have:=HE.out.small (by omega) HN.out.2.1;have:=HE.out.q0;have:=HN.out.2.2.2.1;omega)
     obtain ⟨g12,a12,c12,z12,rfl,_,_,_⟩:=hv8
     have HFB:=Hid.mk (HFA.out.later hb8)
     have HRB:=Hid.mk (HRA.out.later hb8)
     have HOB:=Hid.mk (HOA.out.later hb8)
     clear hb8 HFA HQA HRA HOA
     obtain ⟨pq0,pq1⟩:=HFB.out.q.c2
     have fq:=HFB.out.q.2.1
     go_wp2_with fail
     go_roundg i
     case measure=>have:=HKK.out;omega
     case rel=>exact ⟨g12,a12,c12,z12,g11,a11,c11,z11,q*2+1,r*2+tb-y,i,rfl,by omega,rfl,HFB.out.setQ [g12,.slice a12 z12.length c12] rfl (by simp [NotInt]),H8.out.setAll [g12,.slice a12 z12.length c12] w8 0 HFB.out.iq (by simp [NotInt]),HRB.out.setAll [g12,.slice a12 z12.length c12] w8 0 HFB.out.iq (by simp [NotInt]),HOB.out.setAll [g12,.slice a12 z12.length c12] w8 0 HFB.out.iq (by simp [NotInt]),HE⟩
theorem gcd0_any (u v:Value) (n:Nat) (x y:Int) (w:World) (hn:n≤10000) (hu:MIs w u n x) (hv:MIs w v n y) (hx:x=0) (hy:0<y):
 Calls Tryz.prog 33 #[u,v] w fun o w'=>MOut w n (Int.gcd x y:Int) o w':=by
 have hu':=hu
 have hv':=hv
 obtain ⟨g1,a1,c1,z1,rfl,_,_,_⟩:=hu'
 obtain ⟨g2,a2,c2,z2,rfl,_,_,_⟩:=hv'
 have HV:Hid (∀w',Below w.heap.size w w'→MIs w' (.agg #[g2,.slice a2 z2.length c2]) n y):=fun w' hb=>hv.later hb
 have HU:Hid (∀w',Below w.heap.size w w'→MIs w' (.agg #[g1,.slice a1 z1.length c1]) n x):=fun w' hb=>hu.later hb
 have HI0:Hid (∀s0 s1 s2,GdS w [g1,.slice a1 z1.length c1] [g2,.slice a2 z2.length c2] (((w.alloc (.cells #[g1,.slice a1 z1.length c1] s0)).alloc (.cells #[g2,.slice a2 z2.length c2] s1)).alloc (.cells #[false,()] s2))):=fun s0 s1 s2=>GdS.start w _ _ _ _ _ _ _ _ s0 s1 s2
 have HY:Hid (0<y∧(y.natAbs:Int)<65536^n):=⟨hy,hv.lt⟩
 have HX:Hid (x=0):=hx
 clear hu hv hx hy
 go_enter Tryz.func33,Tryz.ntmps33
 go_wp2_with fail
 refine (makeM_any false g1 a1 z1.length c1 n x _ (by omega) (HU.out _ (HI0.out _ _ _).bel)).mono ?_
 rintro o w1 ⟨v1,rfl,hv1,hb1⟩
 have HM1:Hid (MIs w1 v1 n (sg false (x.natAbs:Int))):=hv1
 obtain ⟨g3,a3,c3,z3,rfl,_,_,_⟩:=hv1
 have HG1:Hid (GdS w [g1,.slice a1 z1.length c1] [g2,.slice a2 z2.length c2] w1):=(HI0.out _ _ _).later hb1
 clear hb1 HI0 HU
 obtain ⟨pa0,pa1⟩:=HG1.out.a.c2
 obtain ⟨pb0,pb1⟩:=HG1.out.b.c2
 obtain ⟨pz0,pz1⟩:=HG1.out.z.c2
 have fa:=HG1.out.a.2.1
 have fb:=HG1.out.b.2.1
 have fz:=HG1.out.z.2.1
 go_wp2_with fail
 clear pa0 pa1 pb0 pb1 pz0 pz1 fa fb fz
 obtain ⟨W1,hW1⟩: ∃V,V=((w1.setCell ⟨w.heap.size,0,none⟩ g3).setCell ⟨w.heap.size,1,none⟩ (.slice a3 z3.length c3)):=⟨_,rfl⟩
 rw [←hW1]
 have HG2:Hid (GdS w [g3,.slice a3 z3.length c3] [g2,.slice a2 z2.length c2] W1):=by unfold Hid;rw [hW1];exact HG1.out.setA [g3,.slice a3 z3.length c3] rfl (by simp [NotInt])
 have HM2:Hid (MIs W1 (.agg #[g3,.slice a3 z3.length c3]) n (x.natAbs:Int)):=by unfold Hid;rw [hW1];exact HM1.out.setAll [g3,.slice a3 z3.length c3] w1 0 HG1.out.ia (by simp [NotInt])
 clear hW1
 clear HG1 HM1
 refine (makeM_any false g2 a2 z2.length c2 n y _ (by omega) (HV.out _ HG2.out.bel)).mono ?_
 rintro o w2 ⟨v2,rfl,hv2,hb2⟩
 have HM3:Hid (MIs w2 v2 n (sg false (y.natAbs:Int))):=hv2
 obtain ⟨g4,a4,c4,z4,rfl,_,_,_⟩:=hv2
 have HG3:=Hid.mk (HG2.out.later hb2)
 have HM4:=Hid.mk (HM2.out.later hb2)
 clear hb2 HG2 HM2 HV
 have q1:((z3.length:Int)==0)=true:=by
  have:=HM4.out.zero_iff.mpr (by have:=HX.out;omega)
  rw [this];rfl
 obtain ⟨pa0,pa1⟩:=HG3.out.a.c2
 obtain ⟨pb0,pb1⟩:=HG3.out.b.c2
 obtain ⟨pz0,pz1⟩:=HG3.out.z.c2
 have fa:=HG3.out.a.2.1
 have fb:=HG3.out.b.2.1
 have fz:=HG3.out.z.2.1
 go_wp2
 refine bodyPost_ret (v:= .agg #[g4,.slice a4 z4.length c4]) (by simp [results,Tryz.results33,go_sem,pz0,pz1]) rfl ?_
 have e:(sg false (y.natAbs:Int))=(Int.gcd x y:Int):=by rw [HX.out];simp [sg]
 have H5:=HM3.out
 rw [e] at H5
 have H6:=HG3.out.setB [g4,.slice a4 z4.length c4] rfl (by simp [NotInt])
 exact ⟨_,rfl,(H5.setAll [g4,.slice a4 z4.length c4] w2 0 HG3.out.ib (by simp [NotInt])).setAll [g4,.slice a4 z4.length c4] _ 0 H6.iz (by simp [NotInt]),below_setAll (vs:=[↑g4,.slice a4 z4.length c4]) (by omega) _ 0 H6.bel⟩
theorem bits0_any (g:Bool) (a:Option Addr) (c:Nat) (w:World):
 Calls Tryz.prog 75 #[.agg #[g,.slice a 0 c]] w fun o w'=>o= .returned (.int .i64 0)∧Below w.heap.size w w':=by
 go_enter Tryz.func75,Tryz.ntmps75
 go_wp2
 go_ret
 exact ⟨rfl,bel0 _ _⟩
theorem div0_any (u v:Value) (n:Nat) (w:World) (hn:n≤10000) (hu:MIs w u n 0) (hv: ∃g a k c,v= .agg #[.bool g,.slice a k c]):
 Calls Tryz.prog 35 #[u,v] w fun o w'=>MOut w n 0 o w':=by
 obtain ⟨g1,a1,c1,z1,rfl,k1,k2,_⟩:=hu
 obtain ⟨g2,a2,z2,c2,rfl⟩:=hv
 have hz:z1.length=0:=(MIs.zero_iff (n:=n) ⟨g1,a1,c1,z1,rfl,k1,k2,trivial⟩).mpr rfl
 rw [hz]
 clear k1 k2 hz
 have HI0:Hid (∀s0 s1 s2 s3 s4,Dv5 w [g1,.slice a1 0 c1] [g2,.slice a2 z2 c2] (((((w.alloc (.cells #[g1,.slice a1 0 c1] s0)).alloc (.cells #[g2,.slice a2 z2 c2] s1)).alloc (.cells #[false,()] s2)).alloc (.cells #[false,()] s3)).alloc (.cells #[false,()] s4))):=fun s0 s1 s2 s3 s4=>Dv5.start w _ _ s0 s1 s2 s3 s4
 go_enter Tryz.func35,Tryz.ntmps35
 go_wp2_with fail
 refine (small_any 1 _ (by decide) (by decide)).mono ?_
 rintro o w1 ⟨a5,c5,z5,rfl,hl5,hL5,_,hb1⟩
 have HF1:Hid (Dv5 w [g1,.slice a1 0 c1] [g2,.slice a2 z2 c2] w1):=(HI0.out _ _ _ _ _).later hb1
 clear hb1 hL5 hl5 HI0
 have y0:w.heap.size<w1.heap.size:=HF1.out.a.1
 obtain ⟨pa0,pa1⟩:=HF1.out.a.c2
 have HF2:Hid (∀t,Dv5 w [g1,.slice a1 0 c1] [g2,.slice a2 z2 c2] (w1.alloc (.cells #[false,.slice a5 z5.length c5] t))):=fun t=>HF1.out.later (bel0 _ _)
 go_wp2_with fail
 refine (bits0_any g1 a1 c1 _).mono ?_
 rintro o w2 ⟨rfl,hb2⟩
 have HF3:Hid (Dv5 w [g1,.slice a1 0 c1] [g2,.slice a2 z2 c2] w2):=(HF2.out _).later hb2
 clear hb2 HF2 HF1 pa0 pa1 y0
 go_wp2_with fail
 go_loopg [8] 0 (fun k s8 wr=>s8= .int .i64 (-1)∧Hid (Dv5 w [g1,.slice a1 0 c1] [g2,.slice a2 z2 c2] wr))
 case atStart=>exact ⟨rfl,HF3⟩
 case round=>
  clear HF3
  obtain ⟨rfl,HF⟩:=hrel
  have pa0:=HF.out.a.at 0 rfl
  have pq1:=HF.out.q.at 1 rfl
  go_wp2_with fail
  refine (makeM_any g1 false none 0 0 n 0 _ (by omega) (MIs.zero _ _)).mono ?_
  rintro o w3 ⟨v3,rfl,hv3,hb3⟩
  have HR3:Hid (MIs w3 v3 n 0):=by
   unfold Hid
   have e:sg g1 ((0:Int).natAbs:Int)=0:=by cases g1<;>rfl
   rw [e] at hv3
   exact hv3
  obtain ⟨g8,a8,c8,z8,rfl,_,_,_⟩:=hv3
  have HF4:=Hid.mk (HF.out.later hb3)
  clear hb3 HF pa0 pq1
  obtain ⟨pz0,pz1⟩:=HF4.out.z.c2
  have fz:=HF4.out.z.2.1
  go_wp2
  refine bodyPost_ret (v:= .agg #[g8,.slice a8 z8.length c8]) (by simp [results,Tryz.results35,go_sem,pz0,pz1]) rfl ?_
  exact ⟨_,rfl,HR3.out.setAll [g8,.slice a8 z8.length c8] _ 0 HF4.out.iz (by simp [NotInt]),below_setAll (vs:=[↑g8,.slice a8 z8.length c8]) (by omega) _ 0 HF4.out.bel⟩
theorem gcdU_any (u v:Value) (n:Nat) (x y:Int) (w:World) (hn:n≤10000) (hu:MIs w u n x) (hv:MIs w v n y) (hy:0<y):
 Calls Tryz.prog 33 #[u,v] w fun o w'=>MOut w n (Int.gcd x y:Int) o w':=by
 by_cases hx:x=0
 ·exact gcd0_any u v n x y w hn hu hv hx hy
 ·exact gcdM_any u v n x y w hn hu hv hx hy
theorem divU_any (u v:Value) (n:Nat) (x y:Int) (w:World) (hn:n≤10000) (hu:MIs w u n x) (hv:MIs w v n y) (hy:0<y) (hd:y∣x):
 Calls Tryz.prog 35 #[u,v] w fun o w'=>MOut w n (x/y) o w':=by
 by_cases hx:x=0
 ·subst hx
  have:(0:Int)/y=0:=by simp
  rw [this]
  refine div0_any u v n w hn hu ?_
  obtain ⟨g,a,c,ds,rfl,_⟩:=hv
  exact ⟨g,a,_,c,rfl⟩
 ·have e:sg (decide (x<0)) ((x.natAbs:Int)/y)=x/y:=by
   rcases Int.lt_or_le x 0 with h|h
   ·rw [decide_eq_true h]
    obtain ⟨k,rfl⟩:=hd
    have e1:((y*k).natAbs:Int)=y*(-k):=by rw [Int.mul_neg];omega
    rw [e1,Int.mul_ediv_cancel_left _ (by omega),Int.mul_ediv_cancel_left _ (by omega)]
    simp [sg]
   ·rw [decide_eq_false (by omega),Int.natAbs_of_nonneg h];rfl
  have h:=divM_any u v n x y w hn hu hv hx hy (Int.dvd_natAbs.mpr hd)
  rw [e] at h
  exact h
end Go.Proofs.YtfieffpobgcpmaaGreatDoor
