import Derived.Test.YtfieffpobgcpmaaGreatDoorClAMdKMdQ
import Derived.Test.YtfieffpobgcpmaaGreatDoorMdCQ
import Derived.Test.YtfieffpobgcpmaaGreatDoorMdERkBFpD
import Derived.Deep.MidRow
import Derived.Deep.CutRange
import Derived.Deep.LoopGhost
import Derived.Deep.RegionHeld3
set_option maxRecDepth 100000
set_option maxHeartbeats 32000000
namespace Go.Proofs.YtfieffpobgcpmaaGreatDoor
open Go.RowKit
structure MtF (w:World) (S A B C O D:List Value) (W:World):Prop where
 s:Cs W (w.heap.size) S
 a:Cs W (w.heap.size+1) A
 b:Cs W (w.heap.size+1+1) B
 c:Cs W (w.heap.size+1+1+1) C
 o:Cs W (w.heap.size+1+1+1+1) O
 d:Cs W (w.heap.size+1+1+1+1+1) D
 z:Cs W (w.heap.size+1+1+1+1+1+1) [false,(),false,(),false,false,(),false,(),false,false]
 i0:NoInt W (w.heap.size)
 iz:NoInt W (w.heap.size+1+1+1+1+1+1)
 bel:Below w.heap.size w W
theorem MtF.later {w:World} {S A B C O D:List Value} {W W':World} (h:MtF w S A B C O D W) (hb:Below W.heap.size W W'):MtF w S A B C O D W':=
 ⟨h.s.later hb,h.a.later hb,h.b.later hb,h.c.later hb,h.o.later hb,h.d.later hb,h.z.later hb,h.i0.later hb,h.iz.later hb,h.bel.trans (hb.mono h.bel.size)⟩
theorem MtF.setS {w:World} {S A B C O D:List Value} {W:World} (h:MtF w S A B C O D W) (us:List Value) (hl:S.length=us.length) (hu: ∀u∈us,NotInt u):MtF w us A B C O D (setAll W w.heap.size 0 us):=
 ⟨h.s.whole us hl,Cs.setAllO (by omega) us W 0 _ h.a,Cs.setAllO (by omega) us W 0 _ h.b,Cs.setAllO (by omega) us W 0 _ h.c,Cs.setAllO (by omega) us W 0 _ h.o,Cs.setAllO (by omega) us W 0 _ h.d,Cs.setAllO (by omega) us W 0 _ h.z,NoInt.setAllX us W 0 h.i0 hu,NoInt.setAllX us W 0 h.iz hu,below_setAll (Nat.le_refl _) us W 0 h.bel⟩
theorem MtF.start (w:World) (S A B C O D:Array Value) (hS: ∀(i:Nat) (k:IntKind) (m:Int),S[i]? ≠some (Value.int k m)) (sS sA sB sC sO sD sZ:TypeId):MtF w S.toList A.toList B.toList C.toList O.toList D.toList (((((((w.alloc (.cells S sS)).alloc (.cells A sA)).alloc (.cells B sB)).alloc (.cells C sC)).alloc (.cells O sO)).alloc (.cells D sD)).alloc (.cells #[false,(),false,(),false,false,(),false,(),false,false] sZ)):=by
 obtain ⟨w1,h1⟩: ∃V,V=w.alloc (.cells S sS):=⟨_,rfl⟩
 obtain ⟨w2,h2⟩: ∃V,V=w1.alloc (.cells A sA):=⟨_,rfl⟩
 obtain ⟨w3,h3⟩: ∃V,V=w2.alloc (.cells B sB):=⟨_,rfl⟩
 obtain ⟨w4,h4⟩: ∃V,V=w3.alloc (.cells C sC):=⟨_,rfl⟩
 obtain ⟨w5,h5⟩: ∃V,V=w4.alloc (.cells O sO):=⟨_,rfl⟩
 obtain ⟨w6,h6⟩: ∃V,V=w5.alloc (.cells D sD):=⟨_,rfl⟩
 obtain ⟨w7,h7⟩: ∃V,V=w6.alloc (.cells #[false,(),false,(),false,false,(),false,(),false,false] sZ):=⟨_,rfl⟩
 have e1:w1.heap.size=w.heap.size+1:=by rw [h1];simp
 have b1:Below w.heap.size w w1:=by rw [h1];exact bel0 _ _
 have c1:Cs w1 (w.heap.size) S.toList:=by rw [h1];exact Cs.new _ _ _
 have e2:w2.heap.size=w.heap.size+1+1:=by rw [h2];simp [e1]
 have b2:Below w1.heap.size w1 w2:=by rw [h2];exact bel0 _ _
 have c2:Cs w2 (w.heap.size+1) A.toList:=by rw [h2,←e1];exact Cs.new _ _ _
 have e3:w3.heap.size=w.heap.size+1+1+1:=by rw [h3];simp [e2]
 have b3:Below w2.heap.size w2 w3:=by rw [h3];exact bel0 _ _
 have c3:Cs w3 (w.heap.size+1+1) B.toList:=by rw [h3,←e2];exact Cs.new _ _ _
 have e4:w4.heap.size=w.heap.size+1+1+1+1:=by rw [h4];simp [e3]
 have b4:Below w3.heap.size w3 w4:=by rw [h4];exact bel0 _ _
 have c4:Cs w4 (w.heap.size+1+1+1) C.toList:=by rw [h4,←e3];exact Cs.new _ _ _
 have e5:w5.heap.size=w.heap.size+1+1+1+1+1:=by rw [h5];simp [e4]
 have b5:Below w4.heap.size w4 w5:=by rw [h5];exact bel0 _ _
 have c5:Cs w5 (w.heap.size+1+1+1+1) O.toList:=by rw [h5,←e4];exact Cs.new _ _ _
 have e6:w6.heap.size=w.heap.size+1+1+1+1+1+1:=by rw [h6];simp [e5]
 have b6:Below w5.heap.size w5 w6:=by rw [h6];exact bel0 _ _
 have c6:Cs w6 (w.heap.size+1+1+1+1+1) D.toList:=by rw [h6,←e5];exact Cs.new _ _ _
 have e7:w7.heap.size=w.heap.size+1+1+1+1+1+1+1:=by rw [h7];simp [e6]
 have b7:Below w6.heap.size w6 w7:=by rw [h7];exact bel0 _ _
 have c7:Cs w7 (w.heap.size+1+1+1+1+1+1) #[↑false,↑(),↑false,↑(),↑false,↑false,↑(),↑false,↑(),↑false,↑false].toList:=by rw [h7,←e6];exact Cs.new _ _ _
 have n1:NoInt w1 (w.heap.size):=by rw [h1];exact NoInt.new _ _ _ hS
 have n7:NoInt w7 (w.heap.size+1+1+1+1+1+1):=by rw [h7,←e6];exact NoInt.new _ _ _ (fun i k m=>by match i with|0=>simp|1=>simp|2=>simp|3=>simp|4=>simp|5=>simp|6=>simp|7=>simp|8=>simp|9=>simp|10=>simp|n+11=>simp)
 rw [←h1,←h2,←h3,←h4,←h5,←h6,←h7]
 exact ⟨((((((c1.later b2).later b3).later b4).later b5).later b6).later b7),(((((c2.later b3).later b4).later b5).later b6).later b7),((((c3.later b4).later b5).later b6).later b7),(((c4.later b5).later b6).later b7),((c5.later b6).later b7),(c6.later b7),c7,((((((n1.later b2).later b3).later b4).later b5).later b6).later b7),n7,((((((b1.trans (b2.mono (by omega))).trans (b3.mono (by omega))).trans (b4.mono (by omega))).trans (b5.mono (by omega))).trans (b6.mono (by omega))).trans (b7.mono (by omega)))⟩
theorem wrap_s {n:Int} (h0:0≤n) (h1:n<9223372036854775808):IntKind.i64.wrap n=n:=by
 simp [IntKind.wrap,IntKind.bits,IntKind.signed];omega
def crn (A B C:V3):Nat→V3
 |0=>A
 |1=>B
 |2=>C
 |_=>A
def runP (P:Int→Int→Prop) (A B C O D:V3):Nat→Int→Int→Prop
 |0=>Clip (Clip P ((nrm A B C).dot (O.sub A)) ((nrm A B C).dot D)) (-(nrm A B C).dot (O.sub A)) (-(nrm A B C).dot D)
 |i+1=>Clip (runP P A B C O D i) (((nrm A B C).cross ((crn A B C (i+1)).sub (crn A B C i))).dot (O.sub (crn A B C i))) (((nrm A B C).cross ((crn A B C (i+1)).sub (crn A B C i))).dot D)
theorem meets_any (P:Int→Int→Prop) (v va vb vc vo vd:Value) (k n:Nat) (A B C O D:V3) (w:World) (hn:n≤20000) (hk:66*k+65≤n) (hs:SpO w v n P) (ha:VecM w va k A.x A.y A.z) (hb:VecM w vb k B.x B.y B.z) (hc:VecM w vc k C.x C.y C.z) (ho:VecM w vo k O.x O.y O.z) (hd:VecM w vd k D.x D.y D.z):
 Calls Tryz.prog 66 #[v,va,vb,vc,vo,vd] w fun o w'=>SpOut w n (MeetP P A B C O D) o w':=by
 have HS0:Hid (∀w',Below w.heap.size w w'→SpO w' v n P):=fun w' hq=>hs.later hq
 obtain ⟨g1s,a1s,k1s,c1s,g2s,a2s,k2s,c2s,t1s,g3s,a3s,k3s,c3s,g4s,a4s,k4s,c4s,t2s,t3s,rfl⟩:=hs.shape
 have ha':=ha
 obtain ⟨ga1,aa1,ca1,za1,ga2,aa2,ca2,za2,ga3,aa3,ca3,za3,rfl,_,_,_⟩:=ha'
 have HA:Hid (∀w',Below w.heap.size w w'→VecM w' (.agg #[ga1,.slice aa1 za1.length ca1,ga2,.slice aa2 za2.length ca2,ga3,.slice aa3 za3.length ca3]) k A.x A.y A.z):=fun w' hq=>ha.later hq
 have hb':=hb
 obtain ⟨gb1,ab1,cb1,zb1,gb2,ab2,cb2,zb2,gb3,ab3,cb3,zb3,rfl,_,_,_⟩:=hb'
 have HB:Hid (∀w',Below w.heap.size w w'→VecM w' (.agg #[gb1,.slice ab1 zb1.length cb1,gb2,.slice ab2 zb2.length cb2,gb3,.slice ab3 zb3.length cb3]) k B.x B.y B.z):=fun w' hq=>hb.later hq
 have hc':=hc
 obtain ⟨gc1,ac1,cc1,zc1,gc2,ac2,cc2,zc2,gc3,ac3,cc3,zc3,rfl,_,_,_⟩:=hc'
 have HC':Hid (∀w',Below w.heap.size w w'→VecM w' (.agg #[gc1,.slice ac1 zc1.length cc1,gc2,.slice ac2 zc2.length cc2,gc3,.slice ac3 zc3.length cc3]) k C.x C.y C.z):=fun w' hq=>hc.later hq
 have ho':=ho
 obtain ⟨go1,ao1,co1,zo1,go2,ao2,co2,zo2,go3,ao3,co3,zo3,rfl,_,_,_⟩:=ho'
 have HO:Hid (∀w',Below w.heap.size w w'→VecM w' (.agg #[go1,.slice ao1 zo1.length co1,go2,.slice ao2 zo2.length co2,go3,.slice ao3 zo3.length co3]) k O.x O.y O.z):=fun w' hq=>ho.later hq
 have hd':=hd
 obtain ⟨gd1,ad1,cd1,zd1,gd2,ad2,cd2,zd2,gd3,ad3,cd3,zd3,rfl,_,_,_⟩:=hd'
 have HD:Hid (∀w',Below w.heap.size w w'→VecM w' (.agg #[gd1,.slice ad1 zd1.length cd1,gd2,.slice ad2 zd2.length cd2,gd3,.slice ad3 zd3.length cd3]) k D.x D.y D.z):=fun w' hq=>hd.later hq
 clear hs ha hb hc ho hd
 go_enter Tryz.func66,Tryz.ntmps66
 go_wp2_with fail
 obtain ⟨W0,hW0⟩: ∃V,V=(((((((w.alloc (.cells #[g1s,.slice a1s k1s c1s,g2s,.slice a2s k2s c2s,t1s,g3s,.slice a3s k3s c3s,g4s,.slice a4s k4s c4s,t2s,t3s] 124)).alloc (.cells #[ga1,.slice aa1 za1.length ca1,ga2,.slice aa2 za2.length ca2,ga3,.slice aa3 za3.length ca3] 128)).alloc (.cells #[gb1,.slice ab1 zb1.length cb1,gb2,.slice ab2 zb2.length cb2,gb3,.slice ab3 zb3.length cb3] 128)).alloc (.cells #[gc1,.slice ac1 zc1.length cc1,gc2,.slice ac2 zc2.length cc2,gc3,.slice ac3 zc3.length cc3] 128)).alloc (.cells #[go1,.slice ao1 zo1.length co1,go2,.slice ao2 zo2.length co2,go3,.slice ao3 zo3.length co3] 128)).alloc (.cells #[gd1,.slice ad1 zd1.length cd1,gd2,.slice ad2 zd2.length cd2,gd3,.slice ad3 zd3.length cd3] 128)).alloc (.cells #[false,(),false,(),false,false,(),false,(),false,false] 124)):=⟨_,rfl⟩
 rw [←hW0]
 have HF0:Hid (MtF w [g1s,.slice a1s k1s c1s,g2s,.slice a2s k2s c2s,t1s,g3s,.slice a3s k3s c3s,g4s,.slice a4s k4s c4s,t2s,t3s] [ga1,.slice aa1 za1.length ca1,ga2,.slice aa2 za2.length ca2,ga3,.slice aa3 za3.length ca3] [gb1,.slice ab1 zb1.length cb1,gb2,.slice ab2 zb2.length cb2,gb3,.slice ab3 zb3.length cb3] [gc1,.slice ac1 zc1.length cc1,gc2,.slice ac2 zc2.length cc2,gc3,.slice ac3 zc3.length cc3] [go1,.slice ao1 zo1.length co1,go2,.slice ao2 zo2.length co2,go3,.slice ao3 zo3.length co3] [gd1,.slice ad1 zd1.length cd1,gd2,.slice ad2 zd2.length cd2,gd3,.slice ad3 zd3.length cd3] W0):=by unfold Hid;rw [hW0];exact MtF.start w _ _ _ _ _ _ (fun i k m=>by match i with|0=>simp|1=>simp|2=>simp|3=>simp|4=>simp|5=>simp|6=>simp|7=>simp|8=>simp|9=>simp|10=>simp|n+11=>simp) _ _ _ _ _ _ _
 clear hW0
 have HF0z:Hid (w.heap.size+1+1+1+1+1+1<W0.heap.size):=HF0.out.z.1
 have HK:Hid (∀w',Below W0.heap.size W0 w'→(fun w'=>MtF w [g1s,.slice a1s k1s c1s,g2s,.slice a2s k2s c2s,t1s,g3s,.slice a3s k3s c3s,g4s,.slice a4s k4s c4s,t2s,t3s] [ga1,.slice aa1 za1.length ca1,ga2,.slice aa2 za2.length ca2,ga3,.slice aa3 za3.length ca3] [gb1,.slice ab1 zb1.length cb1,gb2,.slice ab2 zb2.length cb2,gb3,.slice ab3 zb3.length cb3] [gc1,.slice ac1 zc1.length cc1,gc2,.slice ac2 zc2.length cc2,gc3,.slice ac3 zc3.length cc3] [go1,.slice ao1 zo1.length co1,go2,.slice ao2 zo2.length co2,go3,.slice ao3 zo3.length co3] [gd1,.slice ad1 zd1.length cd1,gd2,.slice ad2 zd2.length cd2,gd3,.slice ad3 zd3.length cd3] w'∧Below W0.heap.size W0 w') w'):=fun w' hb=>⟨HF0.out.later hb,hb⟩
 go_cut [13] from 19 (fun s13 wx=> ∃(PN:Nat) (gn1:Bool) (an1:Option Addr) (cn1:Nat) (zn1:List Int) (gn2:Bool) (an2:Option Addr) (cn2:Nat) (zn2:List Int) (gn3:Bool) (an3:Option Addr) (cn3:Nat) (zn3:List Int),s13= .pointer (some ⟨PN,0,none⟩)∧Hid (NwV W0 PN [gn1,.slice an1 zn1.length cn1,gn2,.slice an2 zn2.length cn2,gn3,.slice an3 zn3.length cn3] ((k+k+1)+(k+k+1)+1+((k+k+1)+(k+k+1)+1)+1) (nrm A B C).x (nrm A B C).y (nrm A B C).z wx))
 case first=>
  refine AnyK.regionK HK 8 (by kernel_rfl) ?_
  obtain ⟨WD,hWD⟩: ∃V,V=W0.drew:=⟨_,rfl⟩
  rw [←hWD]
  have hBd:Below W0.heap.size W0 WD:=by rw [hWD];exact (Below.refl _ _).drew
  clear hWD
  have hS:=HK.out WD hBd
  refine AnyK.tk 0 19 _ rfl rfl (by kernel_rfl) (fun _ _ _ h=>h) rfl (yieldsIf_load_mid rfl 128 (.tmp 8) rfl (w.heap.size+1+1) 0 rfl [gb1,.slice ab1 zb1.length cb1,gb2,.slice ab2 zb2.length cb2,gb3,.slice ab3 zb3.length cb3] _ (fun w' h=>(h.1.b).range 0 6) Tryz.underlying128 rfl (by kernel_rfl)) hS ?_
  simp only [sT,sS,sZ]
  refine AnyK.tk 1 20 _ rfl rfl (by kernel_rfl) (fun _ _ _ h=>h) rfl (yieldsIf_load_mid rfl 128 (.tmp 7) rfl (w.heap.size+1) 0 rfl [ga1,.slice aa1 za1.length ca1,ga2,.slice aa2 za2.length ca2,ga3,.slice aa3 za3.length ca3] _ (fun w' h=>(h.1.a).range 0 6) Tryz.underlying128 rfl (by kernel_rfl)) hS ?_
  simp only [sT,sS,sZ]
  refine AnyK.tk 3 22 _ rfl rfl (by kernel_rfl) (fun _ _ _ h=>h) rfl (yieldsIf_load_mid rfl 128 (.tmp 9) rfl (w.heap.size+1+1+1) 0 rfl [gc1,.slice ac1 zc1.length cc1,gc2,.slice ac2 zc2.length cc2,gc3,.slice ac3 zc3.length cc3] _ (fun w' h=>(h.1.c).range 0 6) Tryz.underlying128 rfl (by kernel_rfl)) hS ?_
  simp only [sT,sS,sZ]
  refine AnyK.tk 4 23 _ rfl rfl (by kernel_rfl) (fun _ _ _ h=>h) rfl (yieldsIf_load_mid rfl 128 (.tmp 7) rfl (w.heap.size+1) 0 rfl [ga1,.slice aa1 za1.length ca1,ga2,.slice aa2 za2.length ca2,ga3,.slice aa3 za3.length ca3] _ (fun w' h=>(h.1.a).range 0 6) Tryz.underlying128 rfl (by kernel_rfl)) hS ?_
  simp only [sT,sS,sZ]
  refine AnyP.begin [2,5,6] [7] ?_
  have hBw:=hBd
  clear hBd
  repeat' first
   |refine AnyP.cb (by kernel_rfl) rfl rfl rfl rfl ?_ ?_
   |refine AnyP.c (by kernel_rfl) rfl rfl ?_
   |refine AnyP.b (by kernel_rfl) rfl rfl ?_
   |(refine Turn.go 2 ?_
     intro K HKK
     go_wp2_with fail
     refine (subV_any _ _ k k _ _ _ _ _ _ _ (by omega) (by omega) (HB.out _ (HF0.out.bel.trans (hBw.mono HF0.out.bel.size))) (HA.out _ (HF0.out.bel.trans (hBw.mono HF0.out.bel.size)))).mono ?_
     rintro o uW ⟨vV,rfl,hv,hSt⟩
     replace hBw:=hBw.trans (hSt.mono hBw.size)
     (try replace hcb:=hcb.later hSt)
     (try replace hnb:=hnb.later hSt)
     (try replace Rf:=Hid.mk (Rf.out.later hSt))
     (try replace Rn:=Hid.mk (Rn.out.later hSt))
     have Re:Hid (VecM uW vV (k+k+1) (B.sub A).x (B.sub A).y (B.sub A).z):=hv
     obtain ⟨ge1,ae1,ce1,ze1,ge2,ae2,ce2,ze2,ge3,ae3,ce3,ze3,rfl,_,_,_⟩:=hv
     refine HKK.out _ _ (fun _=>HK.out _ hBw) ?_
     clear HKK K hSt
     (try simp only [Act.put]))
   |(refine Turn.go 5 ?_
     intro K HKK
     go_wp2_with fail
     refine (subV_any _ _ k k _ _ _ _ _ _ _ (by omega) (by omega) (HC'.out _ (HF0.out.bel.trans (hBw.mono HF0.out.bel.size))) (HA.out _ (HF0.out.bel.trans (hBw.mono HF0.out.bel.size)))).mono ?_
     rintro o uW ⟨vV,rfl,hv,hSt⟩
     replace hBw:=hBw.trans (hSt.mono hBw.size)
     (try replace hcb:=hcb.later hSt)
     (try replace hnb:=hnb.later hSt)
     (try replace Re:=Hid.mk (Re.out.later hSt))
     (try replace Rn:=Hid.mk (Rn.out.later hSt))
     have Rf:Hid (VecM uW vV (k+k+1) (C.sub A).x (C.sub A).y (C.sub A).z):=hv
     obtain ⟨gf1,af1,cf1,zf1,gf2,af2,cf2,zf2,gf3,af3,cf3,zf3,rfl,_,_,_⟩:=hv
     refine HKK.out _ _ (fun _=>HK.out _ hBw) ?_
     clear HKK K hSt
     (try simp only [Act.put]))
   |(refine Turn.go 6 ?_
     intro K HKK
     go_wp2_with fail
     refine (crossV_any _ _ (k+k+1) (k+k+1) _ _ _ _ _ _ _ (by omega) (by omega) Re.out Rf.out).mono ?_
     rintro o uW ⟨vV,rfl,hv,hSt⟩
     replace hBw:=hBw.trans (hSt.mono hBw.size)
     (try replace hcb:=hcb.later hSt)
     (try replace hnb:=hnb.later hSt)
     (try replace Re:=Hid.mk (Re.out.later hSt))
     (try replace Rf:=Hid.mk (Rf.out.later hSt))
     have Rn:Hid (VecM uW vV ((k+k+1)+(k+k+1)+1+((k+k+1)+(k+k+1)+1)+1) (nrm A B C).x (nrm A B C).y (nrm A B C).z):=hv
     obtain ⟨gn1,an1,cn1,zn1,gn2,an2,cn2,zn2,gn3,an3,cn3,zn3,rfl,_,_,_⟩:=hv
     refine HKK.out _ _ (fun _=>HK.out _ hBw) ?_
     clear HKK K hSt
     (try simp only [Act.put]))
   |(refine Turn.go 7 ?_
     intro K HKK
     go_wp2_with fail
     obtain ⟨uW,hu,hSt,hcb,hnb,hBw,hPb,_⟩:=boxAny hBw #[false,(),false,(),false,()] 128 rfl
     (try replace Re:=Hid.mk (Re.out.later hSt))
     (try replace Rf:=Hid.mk (Rf.out.later hSt))
     (try replace Rn:=Hid.mk (Rn.out.later hSt))
     refine HKK.out _ _ (fun _=>by rw [hu];exact HK.out _ hBw) ?_
     rw [hu]
     clear HKK K hu hSt
     (try simp only [Act.put]))
  all_goals
   refine ⟨AnyK.one (i:=8) (by kernel_rfl) rfl rfl ?_⟩
   intro K hK
   refine wp_store_mid 128 (.tmp 13) (.tmp 25) rfl (_) 0 #[gn1,.slice an1 zn1.length cn1,gn2,.slice an2 zn2.length cn2,gn3,.slice an3 zn3.length cn3] rfl rfl (hcb.there 0 6 (by simp)) (by kernel_rfl) (all_oneCell_toArray (by simp [Value.oneCell'])) ?_
   refine hK _ _ (fun h=>absurd rfl h) ?_
   clear hK K
   refine AnyK.done (by kernel_rfl) ?_
   rw [show∀W b i,World.setCells W b i (Array.toList #[gn1,.slice an1 zn1.length cn1,gn2,.slice an2 zn2.length cn2,gn3,.slice an3 zn3.length cn3])=setAll W b i [gn1,.slice an1 zn1.length cn1,gn2,.slice an2 zn2.length cn2,gn3,.slice an3 zn3.length cn3] from fun W b i=>setCells_all _ _ _ _]
   go_wp2_with fail
   go_meet
   case rel=>exact ⟨_,gn1,an1,cn1,zn1,gn2,an2,cn2,zn2,gn3,an3,cn3,zn3,rfl,NwV.fin hcb rfl hnb (by simp [NotInt]) Rn.out hBw hPb⟩
 case rest=>
  clear HK
  obtain ⟨PN,gn1,an1,cn1,zn1,gn2,an2,cn2,zn2,gn3,an3,cn3,zn3,rfl,HN⟩:=hcut
  have HF1:=Hid.mk (HF0.out.later HN.out.bel)
  obtain ⟨W1,hW1⟩: ∃V,V=wc:=⟨_,rfl⟩
  rw [←hW1] at HF1 HN⊢
  clear hW1 HF0
  have HV1:Hid (VecM W1 (.agg #[gn1,.slice an1 zn1.length cn1,gn2,.slice an2 zn2.length cn2,gn3,.slice an3 zn3.length cn3]) ((k+k+1)+(k+k+1)+1+((k+k+1)+(k+k+1)+1)+1) (nrm A B C).x (nrm A B C).y (nrm A B C).z):=HN.out.v
  have HC1:Hid (Cs W1 PN [gn1,.slice an1 zn1.length cn1,gn2,.slice an2 zn2.length cn2,gn3,.slice an3 zn3.length cn3]):=HN.out.c
  have HL1:Hid (w.heap.size+1+1+1+1+1+1<PN):=Nat.lt_of_lt_of_le HF0z.out HN.out.le
  clear HN
  obtain ⟨n0,n1,n2,n3,n4,n5⟩:=HC1.out.c6
  go_wp2_with fail
  clear n0 n1 n2 n3 n4 n5
  refine (zeroVec_any _ ((k+k+1)+(k+k+1)+1+((k+k+1)+(k+k+1)+1)+1) (nrm A B C).x (nrm A B C).y (nrm A B C).z _ HV1.out).mono ?_
  rintro o w2 ⟨rfl,hb2⟩
  have HF2:=Hid.mk (HF1.out.later hb2)
  have HV2:=Hid.mk (HV1.out.later hb2)
  have HC2:=Hid.mk (HC1.out.later hb2)
  clear hb2 HF1 HV1 HC1
  by_cases hflat:(nrm A B C).x=0∧(nrm A B C).y=0∧(nrm A B C).z=0
  ·rw [decide_eq_true hflat]
   have HNO:Hid (NoSpan (MeetP P A B C O D)):=by
    intro p q hq hp
    exact hp.1 (by unfold V3.dot;rw [hflat.1,hflat.2.1,hflat.2.2];simp)
   clear hflat
   go_wp2_with fail
   refine (none_any _).mono ?_
   rintro o w3 ⟨rfl,hb3⟩
   have HF3:=Hid.mk (HF2.out.later hb3)
   clear hb3 HF2 HV2 HC2
   obtain ⟨z0,z1,z2,z3,z4,z5,z6,z7,z8,z9,z10⟩:=HF3.out.z.c11
   have fz:=HF3.out.z.2.1
   unfold noneM
   go_wp2
   refine bodyPost_ret (v:=noneM) (by simp [results,Tryz.results66,go_sem,noneM,z0,z1,z2,z3,z4,z5,z6,z7,z8,z9,z10]) rfl ?_
   exact ⟨_,rfl,.inr ⟨rfl,HNO.out⟩,below_setAll (vs:=[↑false,↑(),↑false,↑(),↑false,↑false,↑(),↑false,↑(),↑false,↑true]) (by omega) _ 0 HF3.out.bel⟩
  ·rw [decide_eq_false hflat]
   have HNN:Hid ((nrm A B C).dot (nrm A B C)≠0):=fun e=>hflat (dot_zero _ e)
   clear hflat
   go_wp2_with fail
   have HK:Hid (∀w',Below w2.heap.size w2 w'→(fun w'=>MtF w [g1s,.slice a1s k1s c1s,g2s,.slice a2s k2s c2s,t1s,g3s,.slice a3s k3s c3s,g4s,.slice a4s k4s c4s,t2s,t3s] [ga1,.slice aa1 za1.length ca1,ga2,.slice aa2 za2.length ca2,ga3,.slice aa3 za3.length ca3] [gb1,.slice ab1 zb1.length cb1,gb2,.slice ab2 zb2.length cb2,gb3,.slice ab3 zb3.length cb3] [gc1,.slice ac1 zc1.length cc1,gc2,.slice ac2 zc2.length cc2,gc3,.slice ac3 zc3.length cc3] [go1,.slice ao1 zo1.length co1,go2,.slice ao2 zo2.length co2,go3,.slice ao3 zo3.length co3] [gd1,.slice ad1 zd1.length cd1,gd2,.slice ad2 zd2.length cd2,gd3,.slice ad3 zd3.length cd3] w'∧Cs w' PN [gn1,.slice an1 zn1.length cn1,gn2,.slice an2 zn2.length cn2,gn3,.slice an3 zn3.length cn3]∧Below w2.heap.size w2 w') w'):=fun w' hb=>⟨HF2.out.later hb,HC2.out.later hb,hb⟩
   go_cut [14] from 29 (fun s14 wx=> ∃(PF:Nat) (gf:Bool) (af:Option Addr) (cf:Nat) (zf:List Int),s14= .pointer (some ⟨PF,0,none⟩)∧Hid (NwM w2 PF [gf,.slice af zf.length cf] (((k+k+1)+(k+k+1)+1+((k+k+1)+(k+k+1)+1)+1)+(k+k+1)+1+(((k+k+1)+(k+k+1)+1+((k+k+1)+(k+k+1)+1)+1)+(k+k+1)+1)+1+(((k+k+1)+(k+k+1)+1+((k+k+1)+(k+k+1)+1)+1)+(k+k+1)+1)+1) ((nrm A B C).dot (O.sub A)) wx))
   case first=>
    refine AnyK.regionK HK 6 (by kernel_rfl) ?_
    obtain ⟨WD,hWD⟩: ∃V,V=w2.drew:=⟨_,rfl⟩
    rw [←hWD]
    have hBd:Below w2.heap.size w2 WD:=by rw [hWD];exact (Below.refl _ _).drew
    clear hWD
    have hS:=HK.out WD hBd
    refine AnyK.tk 0 29 _ rfl rfl (by kernel_rfl) (fun _ _ _ h=>h) rfl (yieldsIf_load_mid rfl 128 (.tmp 13) rfl (PN) 0 rfl [gn1,.slice an1 zn1.length cn1,gn2,.slice an2 zn2.length cn2,gn3,.slice an3 zn3.length cn3] _ (fun w' h=>(h.2.1).range 0 6) Tryz.underlying128 rfl (by kernel_rfl)) hS ?_
    simp only [sT,sS,sZ]
    refine AnyK.tk 1 30 _ rfl rfl (by kernel_rfl) (fun _ _ _ h=>h) rfl (yieldsIf_load_mid rfl 128 (.tmp 10) rfl (w.heap.size+1+1+1+1) 0 rfl [go1,.slice ao1 zo1.length co1,go2,.slice ao2 zo2.length co2,go3,.slice ao3 zo3.length co3] _ (fun w' h=>(h.1.o).range 0 6) Tryz.underlying128 rfl (by kernel_rfl)) hS ?_
    simp only [sT,sS,sZ]
    refine AnyK.tk 2 31 _ rfl rfl (by kernel_rfl) (fun _ _ _ h=>h) rfl (yieldsIf_load_mid rfl 128 (.tmp 7) rfl (w.heap.size+1) 0 rfl [ga1,.slice aa1 za1.length ca1,ga2,.slice aa2 za2.length ca2,ga3,.slice aa3 za3.length ca3] _ (fun w' h=>(h.1.a).range 0 6) Tryz.underlying128 rfl (by kernel_rfl)) hS ?_
    simp only [sT,sS,sZ]
    refine AnyP.begin [3,4] [5] ?_
    have hBw:=hBd
    clear hBd
    repeat' first
     |refine AnyP.cb (by kernel_rfl) rfl rfl rfl rfl ?_ ?_
     |refine AnyP.c (by kernel_rfl) rfl rfl ?_
     |refine AnyP.b (by kernel_rfl) rfl rfl ?_
     |(refine Turn.go 3 ?_
       intro K HKK
       go_wp2_with fail
       refine (subV_any _ _ k k _ _ _ _ _ _ _ (by omega) (by omega) (HO.out _ (HF2.out.bel.trans (hBw.mono HF2.out.bel.size))) (HA.out _ (HF2.out.bel.trans (hBw.mono HF2.out.bel.size)))).mono ?_
       rintro o uW ⟨vV,rfl,hv,hSt⟩
       replace hBw:=hBw.trans (hSt.mono hBw.size)
       (try replace hcb:=hcb.later hSt)
       (try replace hnb:=hnb.later hSt)
       (try replace Rf:=Hid.mk (Rf.out.later hSt))
       have Re:Hid (VecM uW vV (k+k+1) (O.sub A).x (O.sub A).y (O.sub A).z):=hv
       obtain ⟨ge1,ae1,ce1,ze1,ge2,ae2,ce2,ze2,ge3,ae3,ce3,ze3,rfl,_,_,_⟩:=hv
       refine HKK.out _ _ (fun _=>HK.out _ hBw) ?_
       clear HKK K hSt
       (try simp only [Act.put]))
     |(refine Turn.go 4 ?_
       intro K HKK
       go_wp2_with fail
       refine (dotV_any _ _ ((k+k+1)+(k+k+1)+1+((k+k+1)+(k+k+1)+1)+1) (k+k+1) _ _ _ _ _ _ _ (by omega) (by omega) (HV2.out.later hBw) Re.out).mono ?_
       rintro o uW ⟨vV,rfl,hv,hSt⟩
       replace hBw:=hBw.trans (hSt.mono hBw.size)
       (try replace hcb:=hcb.later hSt)
       (try replace hnb:=hnb.later hSt)
       (try replace Re:=Hid.mk (Re.out.later hSt))
       have Rf:Hid (MIs uW vV (((k+k+1)+(k+k+1)+1+((k+k+1)+(k+k+1)+1)+1)+(k+k+1)+1+(((k+k+1)+(k+k+1)+1+((k+k+1)+(k+k+1)+1)+1)+(k+k+1)+1)+1+(((k+k+1)+(k+k+1)+1+((k+k+1)+(k+k+1)+1)+1)+(k+k+1)+1)+1) ((nrm A B C).dot (O.sub A))):=hv
       obtain ⟨gf,af,cf,zf,rfl,_,_,_⟩:=hv
       refine HKK.out _ _ (fun _=>HK.out _ hBw) ?_
       clear HKK K hSt
       (try simp only [Act.put]))
     |(refine Turn.go 5 ?_
       intro K HKK
       go_wp2_with fail
       obtain ⟨uW,hu,hSt,hcb,hnb,hBw,hPb,_⟩:=boxAny hBw #[false,()] 72 rfl
       (try replace Re:=Hid.mk (Re.out.later hSt))
       (try replace Rf:=Hid.mk (Rf.out.later hSt))
       refine HKK.out _ _ (fun _=>by rw [hu];exact HK.out _ hBw) ?_
       rw [hu]
       clear HKK K hu hSt
       (try simp only [Act.put]))
    all_goals
     refine ⟨AnyK.one (i:=6) (by kernel_rfl) rfl rfl ?_⟩
     intro K hK
     refine wp_store_mid 72 (.tmp 14) (.tmp 33) rfl (_) 0 #[gf,.slice af zf.length cf] rfl rfl (hcb.there 0 2 (by simp)) (by kernel_rfl) (all_oneCell_toArray (by simp [Value.oneCell'])) ?_
     refine hK _ _ (fun h=>absurd rfl h) ?_
     clear hK K
     refine AnyK.done (by kernel_rfl) ?_
     rw [show∀W b i,World.setCells W b i (Array.toList #[gf,.slice af zf.length cf])=setAll W b i [gf,.slice af zf.length cf] from fun W b i=>setCells_all _ _ _ _]
     go_wp2_with fail
     go_meet
     case rel=>exact ⟨_,gf,af,cf,zf,rfl,NwM.fin hcb rfl hnb (by simp [NotInt]) Rf.out hBw hPb⟩
   case rest=>
    clear HK
    obtain ⟨PF,gf,af,cf,zf,rfl,HN⟩:=hcut
    obtain ⟨W3,hW3⟩: ∃V,V=wc:=⟨_,rfl⟩
    rw [←hW3] at HN⊢
    clear hW3
    have HF3:=Hid.mk (HF2.out.later HN.out.bel)
    have HV3:=Hid.mk (HV2.out.later HN.out.bel)
    have HC3:=Hid.mk (HC2.out.later HN.out.bel)
    have HM3:Hid (MIs W3 (.agg #[gf,.slice af zf.length cf]) (((k+k+1)+(k+k+1)+1+((k+k+1)+(k+k+1)+1)+1)+(k+k+1)+1+(((k+k+1)+(k+k+1)+1+((k+k+1)+(k+k+1)+1)+1)+(k+k+1)+1)+1+(((k+k+1)+(k+k+1)+1+((k+k+1)+(k+k+1)+1)+1)+(k+k+1)+1)+1) ((nrm A B C).dot (O.sub A))):=HN.out.v
    have HG3:Hid (Cs W3 PF [gf,.slice af zf.length cf]):=HN.out.c
    have HL3:Hid (w.heap.size+1+1+1+1+1+1<PF):=Nat.lt_of_lt_of_le HF2.out.z.1 HN.out.le
    clear HN HF2 HV2 HC2
    obtain ⟨n0,n1,n2,n3,n4,n5⟩:=HC3.out.c6
    obtain ⟨d0,d1,d2,d3,d4,d5⟩:=HF3.out.d.c6
    go_wp2_with fail
    clear n0 n1 n2 n3 n4 n5 d0 d1 d2 d3 d4 d5
    refine (dotV_any _ _ ((k+k+1)+(k+k+1)+1+((k+k+1)+(k+k+1)+1)+1) k _ _ _ _ _ _ _ (by omega) (by omega) HV3.out (HD.out _ HF3.out.bel)).mono ?_
    rintro o w4 ⟨v4,rfl,hv4,hb4⟩
    have HMg4:Hid (MIs w4 v4 (((k+k+1)+(k+k+1)+1+((k+k+1)+(k+k+1)+1)+1)+k+1+(((k+k+1)+(k+k+1)+1+((k+k+1)+(k+k+1)+1)+1)+k+1)+1+(((k+k+1)+(k+k+1)+1+((k+k+1)+(k+k+1)+1)+1)+k+1)+1) ((nrm A B C).dot D)):=hv4
    obtain ⟨gg,ag,cg,zg,rfl,_,_,_⟩:=hv4
    have HF4:=Hid.mk (HF3.out.later hb4)
    have HV4:=Hid.mk (HV3.out.later hb4)
    have HC4:=Hid.mk (HC3.out.later hb4)
    have HM4:=Hid.mk (HM3.out.later hb4)
    have HG4:=Hid.mk (HG3.out.later hb4)
    clear hb4 HF3 HV3 HC3 HM3 HG3
    go_upto_region 6 with fail
    obtain ⟨W5,hW5⟩: ∃V,V=w4.alloc (.cells #[gg,.slice ag zg.length cg] 72):=⟨_,rfl⟩
    rw [←hW5]
    have HF5:Hid (MtF w [g1s,.slice a1s k1s c1s,g2s,.slice a2s k2s c2s,t1s,g3s,.slice a3s k3s c3s,g4s,.slice a4s k4s c4s,t2s,t3s] [ga1,.slice aa1 za1.length ca1,ga2,.slice aa2 za2.length ca2,ga3,.slice aa3 za3.length ca3] [gb1,.slice ab1 zb1.length cb1,gb2,.slice ab2 zb2.length cb2,gb3,.slice ab3 zb3.length cb3] [gc1,.slice ac1 zc1.length cc1,gc2,.slice ac2 zc2.length cc2,gc3,.slice ac3 zc3.length cc3] [go1,.slice ao1 zo1.length co1,go2,.slice ao2 zo2.length co2,go3,.slice ao3 zo3.length co3] [gd1,.slice ad1 zd1.length cd1,gd2,.slice ad2 zd2.length cd2,gd3,.slice ad3 zd3.length cd3] W5):=by unfold Hid;rw [hW5];exact HF4.out.later (bel0 _ _)
    have HV5:Hid (VecM W5 (.agg #[gn1,.slice an1 zn1.length cn1,gn2,.slice an2 zn2.length cn2,gn3,.slice an3 zn3.length cn3]) ((k+k+1)+(k+k+1)+1+((k+k+1)+(k+k+1)+1)+1) (nrm A B C).x (nrm A B C).y (nrm A B C).z):=by unfold Hid;rw [hW5];exact HV4.out.later (bel0 _ _)
    have HC5:Hid (Cs W5 PN [gn1,.slice an1 zn1.length cn1,gn2,.slice an2 zn2.length cn2,gn3,.slice an3 zn3.length cn3]):=by unfold Hid;rw [hW5];exact HC4.out.later (bel0 _ _)
    have HM5:Hid (MIs W5 (.agg #[gf,.slice af zf.length cf]) n ((nrm A B C).dot (O.sub A))):=by unfold Hid;rw [hW5];exact (HM4.out.later (bel0 _ _)).up (by omega)
    have HG5:Hid (Cs W5 PF [gf,.slice af zf.length cf]):=by unfold Hid;rw [hW5];exact HG4.out.later (bel0 _ _)
    have HMg5:Hid (MIs W5 (.agg #[gg,.slice ag zg.length cg]) n ((nrm A B C).dot D)):=by unfold Hid;rw [hW5];exact (HMg4.out.later (bel0 _ _)).up (by omega)
    have HGg5:Hid (Cs W5 w4.heap.size [gg,.slice ag zg.length cg]):=by unfold Hid;rw [hW5];exact Cs.new _ _ _
    have HLg:Hid (w.heap.size+1+1+1+1+1+1<w4.heap.size):=HF4.out.z.1
    clear hW5 HF4 HV4 HC4 HM4 HG4 HMg4
    generalize hPG:w4.heap.size=PG at*
    clear hPG
    obtain ⟨s0,s1,s2,s3,s4,s5,s6,s7,s8,s9,s10⟩:=HF5.out.s.c11
    obtain ⟨f0,f1⟩:=HG5.out.c2
    obtain ⟨q0,q1⟩:=HGg5.out.c2
    go_wp2_with fail
    clear s0 s1 s2 s3 s4 s5 s6 s7 s8 s9 s10 f0 f1 q0 q1
    refine (clipO_any P _ _ _ n ((nrm A B C).dot (O.sub A)) ((nrm A B C).dot D) _ (by omega) (HS0.out _ HF5.out.bel) HM5.out HMg5.out).mono ?_
    rintro o w6 ⟨v6,rfl,hv6,hb6⟩
    have HP6:Hid (SpO w6 v6 n (Clip P ((nrm A B C).dot (O.sub A)) ((nrm A B C).dot D))):=hv6
    obtain ⟨g1u,a1u,k1u,c1u,g2u,a2u,k2u,c2u,t1u,g3u,a3u,k3u,c3u,g4u,a4u,k4u,c4u,t2u,t3u,rfl⟩:=hv6.shape
    have HF6:=Hid.mk (HF5.out.later hb6)
    have HV6:=Hid.mk (HV5.out.later hb6)
    have HC6:=Hid.mk (HC5.out.later hb6)
    have HM6:=Hid.mk (HM5.out.later hb6)
    have HG6:=Hid.mk (HG5.out.later hb6)
    have HMg6:=Hid.mk (HMg5.out.later hb6)
    have HGg6:=Hid.mk (HGg5.out.later hb6)
    clear hb6 hv6 HF5 HV5 HC5 HM5 HG5 HMg5 HGg5 HS0
    obtain ⟨s0,s1,s2,s3,s4,s5,s6,s7,s8,s9,s10⟩:=HF6.out.s.c11
    have fs:=HF6.out.s.2.1
    go_wp2_with fail
    clear s0 s1 s2 s3 s4 s5 s6 s7 s8 s9 s10
    clear fs
    obtain ⟨W7,hW7⟩: ∃V,V=(((((((((((w6.setCell ⟨w.heap.size,0,none⟩ g1u).setCell ⟨w.heap.size,1,none⟩ (.slice a1u k1u c1u)).setCell ⟨w.heap.size,2,none⟩ g2u).setCell ⟨w.heap.size,3,none⟩ (.slice a2u k2u c2u)).setCell ⟨w.heap.size,4,none⟩ t1u).setCell ⟨w.heap.size,5,none⟩ g3u).setCell ⟨w.heap.size,6,none⟩ (.slice a3u k3u c3u)).setCell ⟨w.heap.size,7,none⟩ g4u).setCell ⟨w.heap.size,8,none⟩ (.slice a4u k4u c4u)).setCell ⟨w.heap.size,9,none⟩ t2u).setCell ⟨w.heap.size,10,none⟩ t3u):=⟨_,rfl⟩
    rw [←hW7]
    have HF7:Hid (MtF w [g1u,.slice a1u k1u c1u,g2u,.slice a2u k2u c2u,t1u,g3u,.slice a3u k3u c3u,g4u,.slice a4u k4u c4u,t2u,t3u] [ga1,.slice aa1 za1.length ca1,ga2,.slice aa2 za2.length ca2,ga3,.slice aa3 za3.length ca3] [gb1,.slice ab1 zb1.length cb1,gb2,.slice ab2 zb2.length cb2,gb3,.slice ab3 zb3.length cb3] [gc1,.slice ac1 zc1.length cc1,gc2,.slice ac2 zc2.length cc2,gc3,.slice ac3 zc3.length cc3] [go1,.slice ao1 zo1.length co1,go2,.slice ao2 zo2.length co2,go3,.slice ao3 zo3.length co3] [gd1,.slice ad1 zd1.length cd1,gd2,.slice ad2 zd2.length cd2,gd3,.slice ad3 zd3.length cd3] W7):=by unfold Hid;rw [hW7];exact HF6.out.setS [g1u,.slice a1u k1u c1u,g2u,.slice a2u k2u c2u,t1u,g3u,.slice a3u k3u c3u,g4u,.slice a4u k4u c4u,t2u,t3u] rfl (by simp [NotInt])
    have HP7:Hid (SpO W7 (.agg #[g1u,.slice a1u k1u c1u,g2u,.slice a2u k2u c2u,t1u,g3u,.slice a3u k3u c3u,g4u,.slice a4u k4u c4u,t2u,t3u]) n (Clip P ((nrm A B C).dot (O.sub A)) ((nrm A B C).dot D))):=by unfold Hid;rw [hW7];exact HP6.out.setAll [g1u,.slice a1u k1u c1u,g2u,.slice a2u k2u c2u,t1u,g3u,.slice a3u k3u c3u,g4u,.slice a4u k4u c4u,t2u,t3u] w6 0 HF6.out.i0 (by simp [NotInt])
    have HV7:Hid (VecM W7 (.agg #[gn1,.slice an1 zn1.length cn1,gn2,.slice an2 zn2.length cn2,gn3,.slice an3 zn3.length cn3]) ((k+k+1)+(k+k+1)+1+((k+k+1)+(k+k+1)+1)+1) (nrm A B C).x (nrm A B C).y (nrm A B C).z):=by unfold Hid;rw [hW7];exact HV6.out.setAll [g1u,.slice a1u k1u c1u,g2u,.slice a2u k2u c2u,t1u,g3u,.slice a3u k3u c3u,g4u,.slice a4u k4u c4u,t2u,t3u] w6 0 HF6.out.i0 (by simp [NotInt])
    have HC7:Hid (Cs W7 PN [gn1,.slice an1 zn1.length cn1,gn2,.slice an2 zn2.length cn2,gn3,.slice an3 zn3.length cn3]):=by unfold Hid;rw [hW7];exact Cs.setAllO (by have:=HL1.out;omega) [g1u,.slice a1u k1u c1u,g2u,.slice a2u k2u c2u,t1u,g3u,.slice a3u k3u c3u,g4u,.slice a4u k4u c4u,t2u,t3u] w6 0 _ HC6.out
    have HM7:Hid (MIs W7 (.agg #[gf,.slice af zf.length cf]) n ((nrm A B C).dot (O.sub A))):=by unfold Hid;rw [hW7];exact HM6.out.setAll [g1u,.slice a1u k1u c1u,g2u,.slice a2u k2u c2u,t1u,g3u,.slice a3u k3u c3u,g4u,.slice a4u k4u c4u,t2u,t3u] w6 0 HF6.out.i0 (by simp [NotInt])
    have HG7:Hid (Cs W7 PF [gf,.slice af zf.length cf]):=by unfold Hid;rw [hW7];exact Cs.setAllO (by have:=HL3.out;omega) [g1u,.slice a1u k1u c1u,g2u,.slice a2u k2u c2u,t1u,g3u,.slice a3u k3u c3u,g4u,.slice a4u k4u c4u,t2u,t3u] w6 0 _ HG6.out
    have HMg7:Hid (MIs W7 (.agg #[gg,.slice ag zg.length cg]) n ((nrm A B C).dot D)):=by unfold Hid;rw [hW7];exact HMg6.out.setAll [g1u,.slice a1u k1u c1u,g2u,.slice a2u k2u c2u,t1u,g3u,.slice a3u k3u c3u,g4u,.slice a4u k4u c4u,t2u,t3u] w6 0 HF6.out.i0 (by simp [NotInt])
    have HGg7:Hid (Cs W7 PG [gg,.slice ag zg.length cg]):=by unfold Hid;rw [hW7];exact Cs.setAllO (by have:=HLg.out;omega) [g1u,.slice a1u k1u c1u,g2u,.slice a2u k2u c2u,t1u,g3u,.slice a3u k3u c3u,g4u,.slice a4u k4u c4u,t2u,t3u] w6 0 _ HGg6.out
    clear hW7 HF6 HP6 HV6 HC6 HM6 HG6 HMg6 HGg6
    have HK:Hid (∀w',Below W7.heap.size W7 w'→(fun w'=>MtF w [g1u,.slice a1u k1u c1u,g2u,.slice a2u k2u c2u,t1u,g3u,.slice a3u k3u c3u,g4u,.slice a4u k4u c4u,t2u,t3u] [ga1,.slice aa1 za1.length ca1,ga2,.slice aa2 za2.length ca2,ga3,.slice aa3 za3.length ca3] [gb1,.slice ab1 zb1.length cb1,gb2,.slice ab2 zb2.length cb2,gb3,.slice ab3 zb3.length cb3] [gc1,.slice ac1 zc1.length cc1,gc2,.slice ac2 zc2.length cc2,gc3,.slice ac3 zc3.length cc3] [go1,.slice ao1 zo1.length co1,go2,.slice ao2 zo2.length co2,go3,.slice ao3 zo3.length co3] [gd1,.slice ad1 zd1.length cd1,gd2,.slice ad2 zd2.length cd2,gd3,.slice ad3 zd3.length cd3] w'∧Cs w' PF [gf,.slice af zf.length cf]∧Cs w' PG [gg,.slice ag zg.length cg]∧Below W7.heap.size W7 w') w'):=fun w' hb=>⟨HF7.out.later hb,HG7.out.later hb,HGg7.out.later hb,hb⟩
    clear HG7 HGg7
    refine AnyK.regionK HK 6 (by kernel_rfl) ?_
    obtain ⟨WD,hWD⟩: ∃V,V=W7.drew:=⟨_,rfl⟩
    rw [←hWD]
    have hBd:Below W7.heap.size W7 WD:=by rw [hWD];exact (Below.refl _ _).drew
    clear hWD
    have hS:=HK.out WD hBd
    refine AnyK.tk 0 41 _ rfl rfl (by kernel_rfl) (fun _ _ _ h=>h) rfl (yieldsIf_load_mid rfl 124 (.tmp 6) rfl (w.heap.size) 0 rfl [g1u,.slice a1u k1u c1u,g2u,.slice a2u k2u c2u,t1u,g3u,.slice a3u k3u c3u,g4u,.slice a4u k4u c4u,t2u,t3u] _ (fun w' h=>(h.1.s).range 0 11) Tryz.underlying124 rfl (by kernel_rfl)) hS ?_
    simp only [sT,sS,sZ]
    refine AnyK.tk 1 42 _ rfl rfl (by kernel_rfl) (fun _ _ _ h=>h) rfl (yieldsIf_load_mid rfl 72 (.tmp 14) rfl (PF) 0 rfl [gf,.slice af zf.length cf] _ (fun w' h=>(h.2.1).range 0 2) Tryz.underlying72 rfl (by kernel_rfl)) hS ?_
    simp only [sT,sS,sZ]
    refine AnyK.tk 3 44 _ rfl rfl (by kernel_rfl) (fun _ _ _ h=>h) rfl (yieldsIf_load_mid rfl 72 (.tmp 15) rfl (PG) 0 rfl [gg,.slice ag zg.length cg] _ (fun w' h=>(h.2.2.1).range 0 2) Tryz.underlying72 rfl (by kernel_rfl)) hS ?_
    simp only [sT,sS,sZ]
    refine AnyK.one (i:=2) (by kernel_rfl) rfl rfl ?_
    intro K hK
    have HKK:Hid _:=hK
    clear hK
    go_wp2_with fail
    refine (negM_any _ n _ _ (by omega) (HM7.out.later hBd)).mono ?_
    rintro o u1 ⟨v1,rfl,hv1,hs1⟩
    have hB1:Below W7.heap.size W7 u1:=hBd.trans (hs1.mono hBd.size)
    have Rh:Hid (MIs u1 v1 n (-((nrm A B C).dot (O.sub A)))):=hv1
    obtain ⟨gh,ah,ch,zh,rfl,_,_,_⟩:=hv1
    refine HKK.out _ _ (fun _=>HK.out _ hB1) ?_
    clear HKK K
    (try simp only [Act.put])
    refine AnyK.one (i:=4) (by kernel_rfl) rfl rfl ?_
    intro K hK
    have HKK:Hid _:=hK
    clear hK
    go_wp2_with fail
    refine (negM_any _ n _ _ (by omega) (HMg7.out.later hB1)).mono ?_
    rintro o u2 ⟨v2,rfl,hv2,hs2⟩
    have hB2:Below W7.heap.size W7 u2:=hB1.trans (hs2.mono hB1.size)
    have Rj:Hid (MIs u2 v2 n (-((nrm A B C).dot D))):=hv2
    obtain ⟨gj,aj,cj,zj,rfl,_,_,_⟩:=hv2
    refine HKK.out _ _ (fun _=>HK.out _ hB2) ?_
    clear HKK K
    (try simp only [Act.put])
    refine AnyK.one (i:=5) (by kernel_rfl) rfl rfl ?_
    intro K hK
    have HKK:Hid _:=hK
    clear hK
    go_wp2_with fail
    refine (clipO_any (Clip P ((nrm A B C).dot (O.sub A)) ((nrm A B C).dot D)) _ _ _ n _ _ _ (by omega) (HP7.out.later hB2) (Rh.out.later hs2) Rj.out).mono ?_
    rintro o u3 ⟨v3,rfl,hv3,hs3⟩
    have hB3:Below W7.heap.size W7 u3:=hB2.trans (hs3.mono hB2.size)
    have Rx:Hid (SpO u3 v3 n (Clip (Clip P ((nrm A B C).dot (O.sub A)) ((nrm A B C).dot D)) (-((nrm A B C).dot (O.sub A))) (-((nrm A B C).dot D)))):=hv3
    obtain ⟨g1x,a1x,k1x,c1x,g2x,a2x,k2x,c2x,t1x,g3x,a3x,k3x,c3x,g4x,a4x,k4x,c4x,t2x,t3x,rfl⟩:=SpO.shape hv3
    refine HKK.out _ _ (fun _=>HK.out _ hB3) ?_
    clear HKK K
    (try simp only [Act.put])
    refine AnyK.one (i:=6) (by kernel_rfl) rfl rfl ?_
    intro K hK
    refine wp_store_mid 124 (.tmp 6) (.tmp 46) rfl (w.heap.size) 0 #[g1x,.slice a1x k1x c1x,g2x,.slice a2x k2x c2x,t1x,g3x,.slice a3x k3x c3x,g4x,.slice a4x k4x c4x,t2x,t3x] rfl rfl (((HF7.out.later hB3).s).there 0 11 (by simp)) (by kernel_rfl) (all_oneCell_toArray (by simp [Value.oneCell'])) ?_
    refine hK _ _ (fun h=>absurd rfl h) ?_
    clear hK K
    refine AnyK.done (by kernel_rfl) ?_
    obtain ⟨WZ,hWZ⟩: ∃V,V=World.setCells u3 (w.heap.size) 0 (Array.toList #[g1x,.slice a1x k1x c1x,g2x,.slice a2x k2x c2x,t1x,g3x,.slice a3x k3x c3x,g4x,.slice a4x k4x c4x,t2x,t3x]):=⟨_,rfl⟩
    rw [←hWZ]
    have eWZ:WZ=setAll u3 (w.heap.size) 0 [g1x,.slice a1x k1x c1x,g2x,.slice a2x k2x c2x,t1x,g3x,.slice a3x k3x c3x,g4x,.slice a4x k4x c4x,t2x,t3x]:=by rw [hWZ];exact setCells_all _ _ _ _
    have HF8:Hid (MtF w [g1x,.slice a1x k1x c1x,g2x,.slice a2x k2x c2x,t1x,g3x,.slice a3x k3x c3x,g4x,.slice a4x k4x c4x,t2x,t3x] [ga1,.slice aa1 za1.length ca1,ga2,.slice aa2 za2.length ca2,ga3,.slice aa3 za3.length ca3] [gb1,.slice ab1 zb1.length cb1,gb2,.slice ab2 zb2.length cb2,gb3,.slice ab3 zb3.length cb3] [gc1,.slice ac1 zc1.length cc1,gc2,.slice ac2 zc2.length cc2,gc3,.slice ac3 zc3.length cc3] [go1,.slice ao1 zo1.length co1,go2,.slice ao2 zo2.length co2,go3,.slice ao3 zo3.length co3] [gd1,.slice ad1 zd1.length cd1,gd2,.slice ad2 zd2.length cd2,gd3,.slice ad3 zd3.length cd3] WZ):=by unfold Hid;rw [eWZ];exact (HF7.out.later hB3).setS [g1x,.slice a1x k1x c1x,g2x,.slice a2x k2x c2x,t1x,g3x,.slice a3x k3x c3x,g4x,.slice a4x k4x c4x,t2x,t3x] rfl (by simp [NotInt])
    have HP8:Hid (SpO WZ (.agg #[g1x,.slice a1x k1x c1x,g2x,.slice a2x k2x c2x,t1x,g3x,.slice a3x k3x c3x,g4x,.slice a4x k4x c4x,t2x,t3x]) n (Clip (Clip P ((nrm A B C).dot (O.sub A)) ((nrm A B C).dot D)) (-((nrm A B C).dot (O.sub A))) (-((nrm A B C).dot D)))):=by unfold Hid;rw [eWZ];exact Rx.out.setAll [g1x,.slice a1x k1x c1x,g2x,.slice a2x k2x c2x,t1x,g3x,.slice a3x k3x c3x,g4x,.slice a4x k4x c4x,t2x,t3x] _ 0 (HF7.out.later hB3).i0 (by simp [NotInt])
    have HV8:Hid (VecM WZ (.agg #[gn1,.slice an1 zn1.length cn1,gn2,.slice an2 zn2.length cn2,gn3,.slice an3 zn3.length cn3]) ((k+k+1)+(k+k+1)+1+((k+k+1)+(k+k+1)+1)+1) (nrm A B C).x (nrm A B C).y (nrm A B C).z):=by unfold Hid;rw [eWZ];exact (HV7.out.later hB3).setAll [g1x,.slice a1x k1x c1x,g2x,.slice a2x k2x c2x,t1x,g3x,.slice a3x k3x c3x,g4x,.slice a4x k4x c4x,t2x,t3x] _ 0 (HF7.out.later hB3).i0 (by simp [NotInt])
    have HC8:Hid (Cs WZ PN [gn1,.slice an1 zn1.length cn1,gn2,.slice an2 zn2.length cn2,gn3,.slice an3 zn3.length cn3]):=by unfold Hid;rw [eWZ];exact Cs.setAllO (by have:=HL1.out;omega) [g1x,.slice a1x k1x c1x,g2x,.slice a2x k2x c2x,t1x,g3x,.slice a3x k3x c3x,g4x,.slice a4x k4x c4x,t2x,t3x] _ 0 _ (HC7.out.later hB3)
    clear eWZ hWZ hB1 hB2 hB3 hs1 hs2 hs3 hv3 Rh Rj Rx HF7 HP7 HV7 HC7 HM7 HMg7 HK hS hBd HLg HL3
    obtain ⟨a0,a1,a2,a3,a4,a5⟩:=HF8.out.a.c6
    obtain ⟨b0,b1,b2,b3,b4,b5⟩:=HF8.out.b.c6
    obtain ⟨c0,c1,c2,c3,c4,c5⟩:=HF8.out.c.c6
    go_wp2_with fail
    clear a0 a1 a2 a3 a4 a5 b0 b1 b2 b3 b4 b5 c0 c1 c2 c3 c4 c5
    obtain ⟨W8,hW8⟩: ∃V,V=WZ.alloc (.cells #[ga1,.slice aa1 za1.length ca1,ga2,.slice aa2 za2.length ca2,ga3,.slice aa3 za3.length ca3,gb1,.slice ab1 zb1.length cb1,gb2,.slice ab2 zb2.length cb2,gb3,.slice ab3 zb3.length cb3,gc1,.slice ac1 zc1.length cc1,gc2,.slice ac2 zc2.length cc2,gc3,.slice ac3 zc3.length cc3,ga1,.slice aa1 za1.length ca1,ga2,.slice aa2 za2.length ca2,ga3,.slice aa3 za3.length ca3] 128):=⟨_,rfl⟩
    rw [←hW8]
    have HF9:Hid (MtF w [g1x,.slice a1x k1x c1x,g2x,.slice a2x k2x c2x,t1x,g3x,.slice a3x k3x c3x,g4x,.slice a4x k4x c4x,t2x,t3x] [ga1,.slice aa1 za1.length ca1,ga2,.slice aa2 za2.length ca2,ga3,.slice aa3 za3.length ca3] [gb1,.slice ab1 zb1.length cb1,gb2,.slice ab2 zb2.length cb2,gb3,.slice ab3 zb3.length cb3] [gc1,.slice ac1 zc1.length cc1,gc2,.slice ac2 zc2.length cc2,gc3,.slice ac3 zc3.length cc3] [go1,.slice ao1 zo1.length co1,go2,.slice ao2 zo2.length co2,go3,.slice ao3 zo3.length co3] [gd1,.slice ad1 zd1.length cd1,gd2,.slice ad2 zd2.length cd2,gd3,.slice ad3 zd3.length cd3] W8):=by unfold Hid;rw [hW8];exact HF8.out.later (bel0 _ _)
    have HP9:Hid (SpO W8 (.agg #[g1x,.slice a1x k1x c1x,g2x,.slice a2x k2x c2x,t1x,g3x,.slice a3x k3x c3x,g4x,.slice a4x k4x c4x,t2x,t3x]) n (Clip (Clip P ((nrm A B C).dot (O.sub A)) ((nrm A B C).dot D)) (-((nrm A B C).dot (O.sub A))) (-((nrm A B C).dot D)))):=by unfold Hid;rw [hW8];exact HP8.out.later (bel0 _ _)
    have HV9:Hid (VecM W8 (.agg #[gn1,.slice an1 zn1.length cn1,gn2,.slice an2 zn2.length cn2,gn3,.slice an3 zn3.length cn3]) ((k+k+1)+(k+k+1)+1+((k+k+1)+(k+k+1)+1)+1) (nrm A B C).x (nrm A B C).y (nrm A B C).z):=by unfold Hid;rw [hW8];exact HV8.out.later (bel0 _ _)
    have HC9:Hid (Cs W8 PN [gn1,.slice an1 zn1.length cn1,gn2,.slice an2 zn2.length cn2,gn3,.slice an3 zn3.length cn3]):=by unfold Hid;rw [hW8];exact HC8.out.later (bel0 _ _)
    have HQ9:Hid (Cs W8 WZ.heap.size [ga1,.slice aa1 za1.length ca1,ga2,.slice aa2 za2.length ca2,ga3,.slice aa3 za3.length ca3,gb1,.slice ab1 zb1.length cb1,gb2,.slice ab2 zb2.length cb2,gb3,.slice ab3 zb3.length cb3,gc1,.slice ac1 zc1.length cc1,gc2,.slice ac2 zc2.length cc2,gc3,.slice ac3 zc3.length cc3,ga1,.slice aa1 za1.length ca1,ga2,.slice aa2 za2.length ca2,ga3,.slice aa3 za3.length ca3]):=by unfold Hid;rw [hW8];exact Cs.new _ _ _
    have HLc:Hid (w.heap.size+1+1+1+1+1+1<WZ.heap.size):=HF8.out.z.1
    clear hW8 HF8 HP8 HV8 HC8
    generalize hPC:WZ.heap.size=PC at*
    clear hPC
    go_loopg [17,18] 3 (fun k' s17 _ wr=> ∃(i:Nat) (g1y:Bool) (a1y:Option Addr) (k1y c1y:Nat) (g2y:Bool) (a2y:Option Addr) (k2y c2y:Nat) (t1y:Bool) (g3y:Bool) (a3y:Option Addr) (k3y c3y:Nat) (g4y:Bool) (a4y:Option Addr) (k4y c4y:Nat) (t2y t3y:Bool),s17= .int .i64 (i:Int)∧i≤3∧Hid (k'=3-i)∧Hid (MtF w [g1y,.slice a1y k1y c1y,g2y,.slice a2y k2y c2y,t1y,g3y,.slice a3y k3y c3y,g4y,.slice a4y k4y c4y,t2y,t3y] [ga1,.slice aa1 za1.length ca1,ga2,.slice aa2 za2.length ca2,ga3,.slice aa3 za3.length ca3] [gb1,.slice ab1 zb1.length cb1,gb2,.slice ab2 zb2.length cb2,gb3,.slice ab3 zb3.length cb3] [gc1,.slice ac1 zc1.length cc1,gc2,.slice ac2 zc2.length cc2,gc3,.slice ac3 zc3.length cc3] [go1,.slice ao1 zo1.length co1,go2,.slice ao2 zo2.length co2,go3,.slice ao3 zo3.length co3] [gd1,.slice ad1 zd1.length cd1,gd2,.slice ad2 zd2.length cd2,gd3,.slice ad3 zd3.length cd3] wr)∧Hid (SpO wr (.agg #[g1y,.slice a1y k1y c1y,g2y,.slice a2y k2y c2y,t1y,g3y,.slice a3y k3y c3y,g4y,.slice a4y k4y c4y,t2y,t3y]) n (runP P A B C O D i))∧Hid (VecM wr (.agg #[gn1,.slice an1 zn1.length cn1,gn2,.slice an2 zn2.length cn2,gn3,.slice an3 zn3.length cn3]) ((k+k+1)+(k+k+1)+1+((k+k+1)+(k+k+1)+1)+1) (nrm A B C).x (nrm A B C).y (nrm A B C).z)∧Hid (Cs wr PN [gn1,.slice an1 zn1.length cn1,gn2,.slice an2 zn2.length cn2,gn3,.slice an3 zn3.length cn3])∧Hid (Cs wr PC [ga1,.slice aa1 za1.length ca1,ga2,.slice aa2 za2.length ca2,ga3,.slice aa3 za3.length ca3,gb1,.slice ab1 zb1.length cb1,gb2,.slice ab2 zb2.length cb2,gb3,.slice ab3 zb3.length cb3,gc1,.slice ac1 zc1.length cc1,gc2,.slice ac2 zc2.length cc2,gc3,.slice ac3 zc3.length cc3,ga1,.slice aa1 za1.length ca1,ga2,.slice aa2 za2.length ca2,ga3,.slice aa3 za3.length ca3]))
    case atStart=>exact ⟨0,g1x,a1x,k1x,c1x,g2x,a2x,k2x,c2x,t1x,g3x,a3x,k3x,c3x,g4x,a4x,k4x,c4x,t2x,t3x,rfl,by omega,rfl,HF9,HP9,HV9,HC9,HQ9⟩
    case round=>
     clear HF9 HP9 HV9 HC9 HQ9
     obtain ⟨i,g1y,a1y,k1y,c1y,g2y,a2y,k2y,c2y,t1y,g3y,a3y,k3y,c3y,g4y,a4y,k4y,c4y,t2y,t3y,rfl,hi3,HKI,HF,HP,HV,HC,HQ⟩:=hrel
     rcases Nat.lt_or_ge i 3 with hlt|hge
     ·have hrows: ∃(ge1:Bool) (ae1:Option Addr) (ce1:Nat) (ze1:List Int) (ge2:Bool) (ae2:Option Addr) (ce2:Nat) (ze2:List Int) (ge3:Bool) (ae3:Option Addr) (ce3:Nat) (ze3:List Int) (gq1:Bool) (aq1:Option Addr) (cq1:Nat) (zq1:List Int) (gq2:Bool) (aq2:Option Addr) (cq2:Nat) (zq2:List Int) (gq3:Bool) (aq3:Option Addr) (cq3:Nat) (zq3:List Int),(∀w',Cs w' PC [ga1,.slice aa1 za1.length ca1,ga2,.slice aa2 za2.length ca2,ga3,.slice aa3 za3.length ca3,gb1,.slice ab1 zb1.length cb1,gb2,.slice ab2 zb2.length cb2,gb3,.slice ab3 zb3.length cb3,gc1,.slice ac1 zc1.length cc1,gc2,.slice ac2 zc2.length cc2,gc3,.slice ac3 zc3.length cc3,ga1,.slice aa1 za1.length ca1,ga2,.slice aa2 za2.length ca2,ga3,.slice aa3 za3.length ca3]→w'.rangeAt PC (i*6) [ge1,.slice ae1 ze1.length ce1,ge2,.slice ae2 ze2.length ce2,ge3,.slice ae3 ze3.length ce3]∧w'.rangeAt PC ((i+1)*6) [gq1,.slice aq1 zq1.length cq1,gq2,.slice aq2 zq2.length cq2,gq3,.slice aq3 zq3.length cq3])∧(∀w',Below w.heap.size w w'→VecM w' (.agg #[ge1,.slice ae1 ze1.length ce1,ge2,.slice ae2 ze2.length ce2,ge3,.slice ae3 ze3.length ce3]) k (crn A B C i).x (crn A B C i).y (crn A B C i).z∧VecM w' (.agg #[gq1,.slice aq1 zq1.length cq1,gq2,.slice aq2 zq2.length cq2,gq3,.slice aq3 zq3.length cq3]) k (crn A B C (i+1)).x (crn A B C (i+1)).y (crn A B C (i+1)).z):=by
       rcases (show i=0∨i=1∨i=2 by omega) with rfl|rfl|rfl
       ·exact ⟨ga1,aa1,ca1,za1,ga2,aa2,ca2,za2,ga3,aa3,ca3,za3,gb1,ab1,cb1,zb1,gb2,ab2,cb2,zb2,gb3,ab3,cb3,zb3,fun w' h=>⟨h.range 0 6,h.range 6 6⟩,fun w' h=>⟨HA.out w' h,HB.out w' h⟩⟩
       ·exact ⟨gb1,ab1,cb1,zb1,gb2,ab2,cb2,zb2,gb3,ab3,cb3,zb3,gc1,ac1,cc1,zc1,gc2,ac2,cc2,zc2,gc3,ac3,cc3,zc3,fun w' h=>⟨h.range 6 6,h.range 12 6⟩,fun w' h=>⟨HB.out w' h,HC'.out w' h⟩⟩
       ·exact ⟨gc1,ac1,cc1,zc1,gc2,ac2,cc2,zc2,gc3,ac3,cc3,zc3,ga1,aa1,ca1,za1,ga2,aa2,ca2,za2,ga3,aa3,ca3,za3,fun w' h=>⟨h.range 12 6,h.range 18 6⟩,fun w' h=>⟨HC'.out w' h,HA.out w' h⟩⟩
      obtain ⟨ge1,ae1,ce1,ze1,ge2,ae2,ce2,ze2,ge3,ae3,ce3,ze3,gq1,aq1,cq1,zq1,gq2,aq2,cq2,zq2,gq3,aq3,cq3,zq3,hrw,hvv⟩:=hrows
      obtain ⟨O1,hO1⟩: ∃o,o=i*6:=⟨_,rfl⟩
      obtain ⟨O2,hO2⟩: ∃o,o=(i+1)*6:=⟨_,rfl⟩
      have HRW:Hid (∀w',Cs w' PC [ga1,.slice aa1 za1.length ca1,ga2,.slice aa2 za2.length ca2,ga3,.slice aa3 za3.length ca3,gb1,.slice ab1 zb1.length cb1,gb2,.slice ab2 zb2.length cb2,gb3,.slice ab3 zb3.length cb3,gc1,.slice ac1 zc1.length cc1,gc2,.slice ac2 zc2.length cc2,gc3,.slice ac3 zc3.length cc3,ga1,.slice aa1 za1.length ca1,ga2,.slice aa2 za2.length ca2,ga3,.slice aa3 za3.length ca3]→w'.rangeAt PC O1 [ge1,.slice ae1 ze1.length ce1,ge2,.slice ae2 ze2.length ce2,ge3,.slice ae3 ze3.length ce3]∧w'.rangeAt PC O2 [gq1,.slice aq1 zq1.length cq1,gq2,.slice aq2 zq2.length cq2,gq3,.slice aq3 zq3.length cq3]):=by unfold Hid;rw [hO1,hO2];exact hrw
      have HO1:Hid (O1=i*6):=hO1
      have HO2:Hid (O2=(i+1)*6):=hO2
      have HVV:Hid (∀w',Below w.heap.size w w'→VecM w' (.agg #[ge1,.slice ae1 ze1.length ce1,ge2,.slice ae2 ze2.length ce2,ge3,.slice ae3 ze3.length ce3]) k (crn A B C i).x (crn A B C i).y (crn A B C i).z∧VecM w' (.agg #[gq1,.slice aq1 zq1.length cq1,gq2,.slice aq2 zq2.length cq2,gq3,.slice aq3 zq3.length cq3]) k (crn A B C (i+1)).x (crn A B C (i+1)).y (crn A B C (i+1)).z):=hvv
      clear hrw hvv hO1 hO2
      go_wp2_with fail
      have HK:Hid (∀w',Below wr.heap.size wr w'→(fun w'=>MtF w [g1y,.slice a1y k1y c1y,g2y,.slice a2y k2y c2y,t1y,g3y,.slice a3y k3y c3y,g4y,.slice a4y k4y c4y,t2y,t3y] [ga1,.slice aa1 za1.length ca1,ga2,.slice aa2 za2.length ca2,ga3,.slice aa3 za3.length ca3] [gb1,.slice ab1 zb1.length cb1,gb2,.slice ab2 zb2.length cb2,gb3,.slice ab3 zb3.length cb3] [gc1,.slice ac1 zc1.length cc1,gc2,.slice ac2 zc2.length cc2,gc3,.slice ac3 zc3.length cc3] [go1,.slice ao1 zo1.length co1,go2,.slice ao2 zo2.length co2,go3,.slice ao3 zo3.length co3] [gd1,.slice ad1 zd1.length cd1,gd2,.slice ad2 zd2.length cd2,gd3,.slice ad3 zd3.length cd3] w'∧Cs w' PN [gn1,.slice an1 zn1.length cn1,gn2,.slice an2 zn2.length cn2,gn3,.slice an3 zn3.length cn3]∧Cs w' PC [ga1,.slice aa1 za1.length ca1,ga2,.slice aa2 za2.length ca2,ga3,.slice aa3 za3.length ca3,gb1,.slice ab1 zb1.length cb1,gb2,.slice ab2 zb2.length cb2,gb3,.slice ab3 zb3.length cb3,gc1,.slice ac1 zc1.length cc1,gc2,.slice ac2 zc2.length cc2,gc3,.slice ac3 zc3.length cc3,ga1,.slice aa1 za1.length ca1,ga2,.slice aa2 za2.length ca2,ga3,.slice aa3 za3.length ca3]∧Below wr.heap.size wr w') w'):=fun w' hb=>⟨HF.out.later hb,HC.out.later hb,HQ.out.later hb,hb⟩
      go_cut [18] from 52 to 80 (fun s18 wx=> ∃(PM:Nat) (gm1:Bool) (am1:Option Addr) (cm1:Nat) (zm1:List Int) (gm2:Bool) (am2:Option Addr) (cm2:Nat) (zm2:List Int) (gm3:Bool) (am3:Option Addr) (cm3:Nat) (zm3:List Int),s18= .pointer (some ⟨PM,0,none⟩)∧Hid (NwV wr PM [gm1,.slice am1 zm1.length cm1,gm2,.slice am2 zm2.length cm2,gm3,.slice am3 zm3.length cm3] (((k+k+1)+(k+k+1)+1+((k+k+1)+(k+k+1)+1)+1)+(k+k+1)+1+(((k+k+1)+(k+k+1)+1+((k+k+1)+(k+k+1)+1)+1)+(k+k+1)+1)+1) ((nrm A B C).cross ((crn A B C (i+1)).sub (crn A B C i))).x ((nrm A B C).cross ((crn A B C (i+1)).sub (crn A B C i))).y ((nrm A B C).cross ((crn A B C (i+1)).sub (crn A B C i))).z wx))
      case first=>
       refine AnyK.regionK HK 13 (by kernel_rfl) ?_
       obtain ⟨WD,hWD⟩: ∃V,V=wr.drew:=⟨_,rfl⟩
       rw [←hWD]
       have hBd:Below wr.heap.size wr WD:=by rw [hWD];exact (Below.refl _ _).drew
       clear hWD
       have hS:=HK.out WD hBd
       refine AnyK.tk 0 56 _ rfl rfl (by kernel_rfl) (fun _ _ _ h=>h) rfl (yieldsIf_load_mid rfl 128 (.tmp 13) rfl (PN) 0 rfl [gn1,.slice an1 zn1.length cn1,gn2,.slice an2 zn2.length cn2,gn3,.slice an3 zn3.length cn3] _ (fun w' h=>(h.2.1).range 0 6) Tryz.underlying128 rfl (by kernel_rfl)) hS ?_
       simp only [sT,sS,sZ]
       refine AnyK.tk 1 57 (.slice (some ⟨PC,0,none⟩) 4 4) rfl rfl (by kernel_rfl) (fun _ _ _ h=>h) rfl (Or.inl ⟨rfl,fun w' _=>by go_simp⟩) hS ?_
       simp only [sT,sS,sZ]
       refine AnyK.tk 2 58 (.int .i64 (i:Int)) rfl rfl (by kernel_rfl) (fun _ _ _ h=>h) rfl (Or.inl ⟨rfl,fun w' _=>by go_simp⟩) hS ?_
       simp only [sT,sS,sZ]
       refine AnyK.tk 3 59 (.int .i64 ((i:Int)+1)) rfl rfl (by kernel_rfl) (fun _ _ _ h=>h) rfl (Or.inl ⟨rfl,fun w' _=>by go_simp;exact wrap_s (by omega) (by omega)⟩) hS ?_
       simp only [sT,sS,sZ]
       refine AnyK.tk 4 60 (.pointer (some ⟨PC,O2,none⟩)) rfl rfl (by kernel_rfl) (fun _ _ _ h=>h) rfl (Or.inl ⟨rfl,fun w' _=>by rw [HO2.out];go_simp;intro h;first|omega|exact absurd (h (by omega)) (by omega)⟩) hS ?_
       simp only [sT,sS,sZ]
       refine AnyK.tk 5 61 _ rfl rfl (by kernel_rfl) (fun _ _ _ h=>h) rfl (yieldsIf_load_mid rfl 128 (.tmp 60) rfl (PC) (O2) rfl [gq1,.slice aq1 zq1.length cq1,gq2,.slice aq2 zq2.length cq2,gq3,.slice aq3 zq3.length cq3] _ (fun w' h=>(HRW.out _ h.2.2.1).2) Tryz.underlying128 rfl (by kernel_rfl)) hS ?_
       simp only [sT,sS,sZ]
       refine AnyK.tk 6 62 (.slice (some ⟨PC,0,none⟩) 4 4) rfl rfl (by kernel_rfl) (fun _ _ _ h=>h) rfl (Or.inl ⟨rfl,fun w' _=>by go_simp⟩) hS ?_
       simp only [sT,sS,sZ]
       refine AnyK.tk 7 63 (.int .i64 (i:Int)) rfl rfl (by kernel_rfl) (fun _ _ _ h=>h) rfl (Or.inl ⟨rfl,fun w' _=>by go_simp⟩) hS ?_
       simp only [sT,sS,sZ]
       refine AnyK.tk 8 64 (.pointer (some ⟨PC,O1,none⟩)) rfl rfl (by kernel_rfl) (fun _ _ _ h=>h) rfl (Or.inl ⟨rfl,fun w' _=>by rw [HO1.out];go_simp;intro h;first|omega|exact absurd (h (by omega)) (by omega)⟩) hS ?_
       simp only [sT,sS,sZ]
       refine AnyK.tk 9 65 _ rfl rfl (by kernel_rfl) (fun _ _ _ h=>h) rfl (yieldsIf_load_mid rfl 128 (.tmp 64) rfl (PC) (O1) rfl [ge1,.slice ae1 ze1.length ce1,ge2,.slice ae2 ze2.length ce2,ge3,.slice ae3 ze3.length ce3] _ (fun w' h=>(HRW.out _ h.2.2.1).1) Tryz.underlying128 rfl (by kernel_rfl)) hS ?_
       simp only [sT,sS,sZ]
       refine AnyP.begin [10,11] [12] ?_
       have hBw:=hBd
       clear hBd
       repeat' first
        |refine AnyP.cb (by kernel_rfl) rfl rfl rfl rfl ?_ ?_
        |refine AnyP.c (by kernel_rfl) rfl rfl ?_
        |refine AnyP.b (by kernel_rfl) rfl rfl ?_
        |(refine Turn.go 10 ?_
          intro K HKK
          go_wp2_with fail
          refine (subV_any _ _ k k _ _ _ _ _ _ _ (by omega) (by omega) (HVV.out _ (HF.out.bel.trans (hBw.mono HF.out.bel.size))).2 (HVV.out _ (HF.out.bel.trans (hBw.mono HF.out.bel.size))).1).mono ?_
          rintro o uW ⟨vV,rfl,hv,hSt⟩
          replace hBw:=hBw.trans (hSt.mono hBw.size)
          (try replace hcb:=hcb.later hSt)
          (try replace hnb:=hnb.later hSt)
          (try replace Rm:=Hid.mk (Rm.out.later hSt))
          have Rh:Hid (VecM uW vV (k+k+1) ((crn A B C (i+1)).sub (crn A B C i)).x ((crn A B C (i+1)).sub (crn A B C i)).y ((crn A B C (i+1)).sub (crn A B C i)).z):=hv
          obtain ⟨gh1,ah1,ch1,zh1,gh2,ah2,ch2,zh2,gh3,ah3,ch3,zh3,rfl,_,_,_⟩:=hv
          refine HKK.out _ _ (fun _=>HK.out _ hBw) ?_
          clear HKK K hSt
          (try simp only [Act.put]))
        |(refine Turn.go 11 ?_
          intro K HKK
          go_wp2_with fail
          refine (crossV_any _ _ ((k+k+1)+(k+k+1)+1+((k+k+1)+(k+k+1)+1)+1) (k+k+1) _ _ _ _ _ _ _ (by omega) (by omega) (HV.out.later hBw) Rh.out).mono ?_
          rintro o uW ⟨vV,rfl,hv,hSt⟩
          replace hBw:=hBw.trans (hSt.mono hBw.size)
          (try replace hcb:=hcb.later hSt)
          (try replace hnb:=hnb.later hSt)
          (try replace Rh:=Hid.mk (Rh.out.later hSt))
          have Rm:Hid (VecM uW vV (((k+k+1)+(k+k+1)+1+((k+k+1)+(k+k+1)+1)+1)+(k+k+1)+1+(((k+k+1)+(k+k+1)+1+((k+k+1)+(k+k+1)+1)+1)+(k+k+1)+1)+1) ((nrm A B C).cross ((crn A B C (i+1)).sub (crn A B C i))).x ((nrm A B C).cross ((crn A B C (i+1)).sub (crn A B C i))).y ((nrm A B C).cross ((crn A B C (i+1)).sub (crn A B C i))).z):=hv
          obtain ⟨gm1,am1,cm1,zm1,gm2,am2,cm2,zm2,gm3,am3,cm3,zm3,rfl,_,_,_⟩:=hv
          refine HKK.out _ _ (fun _=>HK.out _ hBw) ?_
          clear HKK K hSt
          (try simp only [Act.put]))
        |(refine Turn.go 12 ?_
          intro K HKK
          go_wp2_with fail
          obtain ⟨uW,hu,hSt,hcb,hnb,hBw,hPb,_⟩:=boxAny hBw #[false,(),false,(),false,()] 128 rfl
          (try replace Rh:=Hid.mk (Rh.out.later hSt))
          (try replace Rm:=Hid.mk (Rm.out.later hSt))
          refine HKK.out _ _ (fun _=>by rw [hu];exact HK.out _ hBw) ?_
          rw [hu]
          clear HKK K hu hSt
          (try simp only [Act.put]))
       all_goals
        refine ⟨AnyK.one (i:=13) (by kernel_rfl) rfl rfl ?_⟩
        intro K hK
        refine wp_store_mid 128 (.tmp 18) (.tmp 67) rfl (_) 0 #[gm1,.slice am1 zm1.length cm1,gm2,.slice am2 zm2.length cm2,gm3,.slice am3 zm3.length cm3] rfl rfl (hcb.there 0 6 (by simp)) (by kernel_rfl) (all_oneCell_toArray (by simp [Value.oneCell'])) ?_
        refine hK _ _ (fun h=>absurd rfl h) ?_
        clear hK K
        refine AnyK.done (by kernel_rfl) ?_
        rw [show∀W b i,World.setCells W b i (Array.toList #[gm1,.slice am1 zm1.length cm1,gm2,.slice am2 zm2.length cm2,gm3,.slice am3 zm3.length cm3])=setAll W b i [gm1,.slice am1 zm1.length cm1,gm2,.slice am2 zm2.length cm2,gm3,.slice am3 zm3.length cm3] from fun W b i=>setCells_all _ _ _ _]
        go_wp2_with fail
        go_meet
        case rel=>exact ⟨_,gm1,am1,cm1,zm1,gm2,am2,cm2,zm2,gm3,am3,cm3,zm3,rfl,NwV.fin hcb rfl hnb (by simp [NotInt]) Rm.out hBw hPb⟩
      case rest=>
       clear HK
       obtain ⟨PM,gm1,am1,cm1,zm1,gm2,am2,cm2,zm2,gm3,am3,cm3,zm3,rfl,HN⟩:=hcut
       obtain ⟨X0,hX0⟩: ∃V,V=wc:=⟨_,rfl⟩
       rw [←hX0] at HN⊢
       clear hX0
       have HFx:=Hid.mk (HF.out.later HN.out.bel)
       have HPx:=Hid.mk (HP.out.later HN.out.bel)
       have HVx:=Hid.mk (HV.out.later HN.out.bel)
       have HCx:=Hid.mk (HC.out.later HN.out.bel)
       have HQx:=Hid.mk (HQ.out.later HN.out.bel)
       have HMx:Hid (VecM X0 (.agg #[gm1,.slice am1 zm1.length cm1,gm2,.slice am2 zm2.length cm2,gm3,.slice am3 zm3.length cm3]) (((k+k+1)+(k+k+1)+1+((k+k+1)+(k+k+1)+1)+1)+(k+k+1)+1+(((k+k+1)+(k+k+1)+1+((k+k+1)+(k+k+1)+1)+1)+(k+k+1)+1)+1) ((nrm A B C).cross ((crn A B C (i+1)).sub (crn A B C i))).x ((nrm A B C).cross ((crn A B C (i+1)).sub (crn A B C i))).y ((nrm A B C).cross ((crn A B C (i+1)).sub (crn A B C i))).z):=HN.out.v
       have HCm:Hid (Cs X0 PM [gm1,.slice am1 zm1.length cm1,gm2,.slice am2 zm2.length cm2,gm3,.slice am3 zm3.length cm3]):=HN.out.c
       clear HN HF HP HV HC HQ
       go_wp2_with fail
       have HK:Hid (∀w',Below X0.heap.size X0 w'→(fun w'=>MtF w [g1y,.slice a1y k1y c1y,g2y,.slice a2y k2y c2y,t1y,g3y,.slice a3y k3y c3y,g4y,.slice a4y k4y c4y,t2y,t3y] [ga1,.slice aa1 za1.length ca1,ga2,.slice aa2 za2.length ca2,ga3,.slice aa3 za3.length ca3] [gb1,.slice ab1 zb1.length cb1,gb2,.slice ab2 zb2.length cb2,gb3,.slice ab3 zb3.length cb3] [gc1,.slice ac1 zc1.length cc1,gc2,.slice ac2 zc2.length cc2,gc3,.slice ac3 zc3.length cc3] [go1,.slice ao1 zo1.length co1,go2,.slice ao2 zo2.length co2,go3,.slice ao3 zo3.length co3] [gd1,.slice ad1 zd1.length cd1,gd2,.slice ad2 zd2.length cd2,gd3,.slice ad3 zd3.length cd3] w'∧Cs w' PC [ga1,.slice aa1 za1.length ca1,ga2,.slice aa2 za2.length ca2,ga3,.slice aa3 za3.length ca3,gb1,.slice ab1 zb1.length cb1,gb2,.slice ab2 zb2.length cb2,gb3,.slice ab3 zb3.length cb3,gc1,.slice ac1 zc1.length cc1,gc2,.slice ac2 zc2.length cc2,gc3,.slice ac3 zc3.length cc3,ga1,.slice aa1 za1.length ca1,ga2,.slice aa2 za2.length ca2,ga3,.slice aa3 za3.length ca3]∧Cs w' PM [gm1,.slice am1 zm1.length cm1,gm2,.slice am2 zm2.length cm2,gm3,.slice am3 zm3.length cm3]∧Below X0.heap.size X0 w') w'):=fun w' hb=>⟨HFx.out.later hb,HQx.out.later hb,HCm.out.later hb,hb⟩
       refine AnyK.regionK HK 13 (by kernel_rfl) ?_
       obtain ⟨WD,hWD⟩: ∃V,V=X0.drew:=⟨_,rfl⟩
       rw [←hWD]
       have hBd:Below X0.heap.size X0 WD:=by rw [hWD];exact (Below.refl _ _).drew
       clear hWD
       have hS:=HK.out WD hBd
       refine AnyK.tk 0 68 _ rfl rfl (by kernel_rfl) (fun _ _ _ h=>h) rfl (yieldsIf_load_mid rfl 124 (.tmp 6) rfl (w.heap.size) 0 rfl [g1y,.slice a1y k1y c1y,g2y,.slice a2y k2y c2y,t1y,g3y,.slice a3y k3y c3y,g4y,.slice a4y k4y c4y,t2y,t3y] _ (fun w' h=>(h.1.s).range 0 11) Tryz.underlying124 rfl (by kernel_rfl)) hS ?_
       simp only [sT,sS,sZ]
       refine AnyK.tk 1 69 _ rfl rfl (by kernel_rfl) (fun _ _ _ h=>h) rfl (yieldsIf_load_mid rfl 128 (.tmp 18) rfl (PM) 0 rfl [gm1,.slice am1 zm1.length cm1,gm2,.slice am2 zm2.length cm2,gm3,.slice am3 zm3.length cm3] _ (fun w' h=>(h.2.2.1).range 0 6) Tryz.underlying128 rfl (by kernel_rfl)) hS ?_
       simp only [sT,sS,sZ]
       refine AnyK.tk 2 70 _ rfl rfl (by kernel_rfl) (fun _ _ _ h=>h) rfl (yieldsIf_load_mid rfl 128 (.tmp 10) rfl (w.heap.size+1+1+1+1) 0 rfl [go1,.slice ao1 zo1.length co1,go2,.slice ao2 zo2.length co2,go3,.slice ao3 zo3.length co3] _ (fun w' h=>(h.1.o).range 0 6) Tryz.underlying128 rfl (by kernel_rfl)) hS ?_
       simp only [sT,sS,sZ]
       refine AnyK.tk 3 71 (.slice (some ⟨PC,0,none⟩) 4 4) rfl rfl (by kernel_rfl) (fun _ _ _ h=>h) rfl (Or.inl ⟨rfl,fun w' _=>by go_simp⟩) hS ?_
       simp only [sT,sS,sZ]
       refine AnyK.tk 4 72 (.int .i64 (i:Int)) rfl rfl (by kernel_rfl) (fun _ _ _ h=>h) rfl (Or.inl ⟨rfl,fun w' _=>by go_simp⟩) hS ?_
       simp only [sT,sS,sZ]
       refine AnyK.tk 5 73 (.pointer (some ⟨PC,O1,none⟩)) rfl rfl (by kernel_rfl) (fun _ _ _ h=>h) rfl (Or.inl ⟨rfl,fun w' _=>by rw [HO1.out];go_simp;intro h;first|omega|exact absurd (h (by omega)) (by omega)⟩) hS ?_
       simp only [sT,sS,sZ]
       refine AnyK.tk 6 74 _ rfl rfl (by kernel_rfl) (fun _ _ _ h=>h) rfl (yieldsIf_load_mid rfl 128 (.tmp 73) rfl (PC) (O1) rfl [ge1,.slice ae1 ze1.length ce1,ge2,.slice ae2 ze2.length ce2,ge3,.slice ae3 ze3.length ce3] _ (fun w' h=>(HRW.out _ h.2.1).1) Tryz.underlying128 rfl (by kernel_rfl)) hS ?_
       simp only [sT,sS,sZ]
       refine AnyK.tk 9 77 _ rfl rfl (by kernel_rfl) (fun _ _ _ h=>h) rfl (yieldsIf_load_mid rfl 128 (.tmp 18) rfl (PM) 0 rfl [gm1,.slice am1 zm1.length cm1,gm2,.slice am2 zm2.length cm2,gm3,.slice am3 zm3.length cm3] _ (fun w' h=>(h.2.2.1).range 0 6) Tryz.underlying128 rfl (by kernel_rfl)) hS ?_
       simp only [sT,sS,sZ]
       refine AnyK.tk 10 78 _ rfl rfl (by kernel_rfl) (fun _ _ _ h=>h) rfl (yieldsIf_load_mid rfl 128 (.tmp 11) rfl (w.heap.size+1+1+1+1+1) 0 rfl [gd1,.slice ad1 zd1.length cd1,gd2,.slice ad2 zd2.length cd2,gd3,.slice ad3 zd3.length cd3] _ (fun w' h=>(h.1.d).range 0 6) Tryz.underlying128 rfl (by kernel_rfl)) hS ?_
       simp only [sT,sS,sZ]
       refine AnyK.one (i:=7) (by kernel_rfl) rfl rfl ?_
       intro K hK
       have HKK:Hid _:=hK
       clear hK
       go_wp2_with fail
       refine (subV_any _ _ k k _ _ _ _ _ _ _ (by omega) (by omega) (HO.out _ (HFx.out.bel.trans (hBd.mono HFx.out.bel.size))) (HVV.out _ (HFx.out.bel.trans (hBd.mono HFx.out.bel.size))).1).mono ?_
       rintro o u1 ⟨v1,rfl,hv1,hs1⟩
       have hB1:Below X0.heap.size X0 u1:=hBd.trans (hs1.mono hBd.size)
       have Rh:Hid (VecM u1 v1 (k+k+1) (O.sub (crn A B C i)).x (O.sub (crn A B C i)).y (O.sub (crn A B C i)).z):=hv1
       obtain ⟨gh1,ah1,ch1,zh1,gh2,ah2,ch2,zh2,gh3,ah3,ch3,zh3,rfl,_,_,_⟩:=hv1
       refine HKK.out _ _ (fun _=>HK.out _ hB1) ?_
       clear HKK K
       (try simp only [Act.put])
       refine AnyK.one (i:=8) (by kernel_rfl) rfl rfl ?_
       intro K hK
       have HKK:Hid _:=hK
       clear hK
       go_wp2_with fail
       refine (dotV_any _ _ (((k+k+1)+(k+k+1)+1+((k+k+1)+(k+k+1)+1)+1)+(k+k+1)+1+(((k+k+1)+(k+k+1)+1+((k+k+1)+(k+k+1)+1)+1)+(k+k+1)+1)+1) (k+k+1) _ _ _ _ _ _ _ (by omega) (by omega) (HMx.out.later hB1) Rh.out).mono ?_
       rintro o u2 ⟨v2,rfl,hv2,hs2⟩
       have hB2:Below X0.heap.size X0 u2:=hB1.trans (hs2.mono hB1.size)
       have Rr:Hid (MIs u2 v2 ((((k+k+1)+(k+k+1)+1+((k+k+1)+(k+k+1)+1)+1)+(k+k+1)+1+(((k+k+1)+(k+k+1)+1+((k+k+1)+(k+k+1)+1)+1)+(k+k+1)+1)+1)+(k+k+1)+1+((((k+k+1)+(k+k+1)+1+((k+k+1)+(k+k+1)+1)+1)+(k+k+1)+1+(((k+k+1)+(k+k+1)+1+((k+k+1)+(k+k+1)+1)+1)+(k+k+1)+1)+1)+(k+k+1)+1)+1+((((k+k+1)+(k+k+1)+1+((k+k+1)+(k+k+1)+1)+1)+(k+k+1)+1+(((k+k+1)+(k+k+1)+1+((k+k+1)+(k+k+1)+1)+1)+(k+k+1)+1)+1)+(k+k+1)+1)+1) (((nrm A B C).cross ((crn A B C (i+1)).sub (crn A B C i))).dot (O.sub (crn A B C i)))):=hv2
       obtain ⟨gr,ar,cr,zr,rfl,_,_,_⟩:=hv2
       refine HKK.out _ _ (fun _=>HK.out _ hB2) ?_
       clear HKK K
       (try simp only [Act.put])
       refine AnyK.one (i:=11) (by kernel_rfl) rfl rfl ?_
       intro K hK
       have HKK:Hid _:=hK
       clear hK
       go_wp2_with fail
       refine (dotV_any _ _ (((k+k+1)+(k+k+1)+1+((k+k+1)+(k+k+1)+1)+1)+(k+k+1)+1+(((k+k+1)+(k+k+1)+1+((k+k+1)+(k+k+1)+1)+1)+(k+k+1)+1)+1) k _ _ _ _ _ _ _ (by omega) (by omega) (HMx.out.later hB2) (HD.out _ (HFx.out.bel.trans (hB2.mono HFx.out.bel.size)))).mono ?_
       rintro o u3 ⟨v3,rfl,hv3,hs3⟩
       have hB3:Below X0.heap.size X0 u3:=hB2.trans (hs3.mono hB2.size)
       have Rl:Hid (MIs u3 v3 ((((k+k+1)+(k+k+1)+1+((k+k+1)+(k+k+1)+1)+1)+(k+k+1)+1+(((k+k+1)+(k+k+1)+1+((k+k+1)+(k+k+1)+1)+1)+(k+k+1)+1)+1)+k+1+((((k+k+1)+(k+k+1)+1+((k+k+1)+(k+k+1)+1)+1)+(k+k+1)+1+(((k+k+1)+(k+k+1)+1+((k+k+1)+(k+k+1)+1)+1)+(k+k+1)+1)+1)+k+1)+1+((((k+k+1)+(k+k+1)+1+((k+k+1)+(k+k+1)+1)+1)+(k+k+1)+1+(((k+k+1)+(k+k+1)+1+((k+k+1)+(k+k+1)+1)+1)+(k+k+1)+1)+1)+k+1)+1) (((nrm A B C).cross ((crn A B C (i+1)).sub (crn A B C i))).dot D)):=hv3
       obtain ⟨gl,al,cl,zl,rfl,_,_,_⟩:=hv3
       refine HKK.out _ _ (fun _=>HK.out _ hB3) ?_
       clear HKK K
       (try simp only [Act.put])
       refine AnyK.one (i:=12) (by kernel_rfl) rfl rfl ?_
       intro K hK
       have HKK:Hid _:=hK
       clear hK
       go_wp2_with fail
       refine (clipO_any (runP P A B C O D i) _ _ _ n _ _ _ (by omega) (HPx.out.later hB3) ((Rr.out.later hs3).up (by omega)) (Rl.out.up (by omega))).mono ?_
       rintro o u4 ⟨v4,rfl,hv4,hs4⟩
       have hB4:Below X0.heap.size X0 u4:=hB3.trans (hs4.mono hB3.size)
       have Rx:Hid (SpO u4 v4 n (runP P A B C O D (i+1))):=hv4
       obtain ⟨g1x,a1x,k1x,c1x,g2x,a2x,k2x,c2x,t1x,g3x,a3x,k3x,c3x,g4x,a4x,k4x,c4x,t2x,t3x,rfl⟩:=SpO.shape hv4
       refine HKK.out _ _ (fun _=>HK.out _ hB4) ?_
       clear HKK K
       (try simp only [Act.put])
       refine AnyK.one (i:=13) (by kernel_rfl) rfl rfl ?_
       intro K hK
       refine wp_store_mid 124 (.tmp 6) (.tmp 80) rfl (w.heap.size) 0 #[g1x,.slice a1x k1x c1x,g2x,.slice a2x k2x c2x,t1x,g3x,.slice a3x k3x c3x,g4x,.slice a4x k4x c4x,t2x,t3x] rfl rfl (((HFx.out.later hB4).s).there 0 11 (by simp)) (by kernel_rfl) (all_oneCell_toArray (by simp [Value.oneCell'])) ?_
       refine hK _ _ (fun h=>absurd rfl h) ?_
       clear hK K
       refine AnyK.done (by kernel_rfl) ?_
       obtain ⟨WZ,hWZ⟩: ∃V,V=World.setCells u4 (w.heap.size) 0 (Array.toList #[g1x,.slice a1x k1x c1x,g2x,.slice a2x k2x c2x,t1x,g3x,.slice a3x k3x c3x,g4x,.slice a4x k4x c4x,t2x,t3x]):=⟨_,rfl⟩
       rw [←hWZ]
       have eWZ:WZ=setAll u4 (w.heap.size) 0 [g1x,.slice a1x k1x c1x,g2x,.slice a2x k2x c2x,t1x,g3x,.slice a3x k3x c3x,g4x,.slice a4x k4x c4x,t2x,t3x]:=by rw [hWZ];exact setCells_all _ _ _ _
       have HF8:Hid (MtF w [g1x,.slice a1x k1x c1x,g2x,.slice a2x k2x c2x,t1x,g3x,.slice a3x k3x c3x,g4x,.slice a4x k4x c4x,t2x,t3x] [ga1,.slice aa1 za1.length ca1,ga2,.slice aa2 za2.length ca2,ga3,.slice aa3 za3.length ca3] [gb1,.slice ab1 zb1.length cb1,gb2,.slice ab2 zb2.length cb2,gb3,.slice ab3 zb3.length cb3] [gc1,.slice ac1 zc1.length cc1,gc2,.slice ac2 zc2.length cc2,gc3,.slice ac3 zc3.length cc3] [go1,.slice ao1 zo1.length co1,go2,.slice ao2 zo2.length co2,go3,.slice ao3 zo3.length co3] [gd1,.slice ad1 zd1.length cd1,gd2,.slice ad2 zd2.length cd2,gd3,.slice ad3 zd3.length cd3] WZ):=by unfold Hid;rw [eWZ];exact (HFx.out.later hB4).setS [g1x,.slice a1x k1x c1x,g2x,.slice a2x k2x c2x,t1x,g3x,.slice a3x k3x c3x,g4x,.slice a4x k4x c4x,t2x,t3x] rfl (by simp [NotInt])
       have HP8:Hid (SpO WZ (.agg #[g1x,.slice a1x k1x c1x,g2x,.slice a2x k2x c2x,t1x,g3x,.slice a3x k3x c3x,g4x,.slice a4x k4x c4x,t2x,t3x]) n (runP P A B C O D (i+1))):=by unfold Hid;rw [eWZ];exact Rx.out.setAll [g1x,.slice a1x k1x c1x,g2x,.slice a2x k2x c2x,t1x,g3x,.slice a3x k3x c3x,g4x,.slice a4x k4x c4x,t2x,t3x] _ 0 (HFx.out.later hB4).i0 (by simp [NotInt])
       have HV8:Hid (VecM WZ (.agg #[gn1,.slice an1 zn1.length cn1,gn2,.slice an2 zn2.length cn2,gn3,.slice an3 zn3.length cn3]) ((k+k+1)+(k+k+1)+1+((k+k+1)+(k+k+1)+1)+1) (nrm A B C).x (nrm A B C).y (nrm A B C).z):=by unfold Hid;rw [eWZ];exact (HVx.out.later hB4).setAll [g1x,.slice a1x k1x c1x,g2x,.slice a2x k2x c2x,t1x,g3x,.slice a3x k3x c3x,g4x,.slice a4x k4x c4x,t2x,t3x] _ 0 (HFx.out.later hB4).i0 (by simp [NotInt])
       have HC8:Hid (Cs WZ PN [gn1,.slice an1 zn1.length cn1,gn2,.slice an2 zn2.length cn2,gn3,.slice an3 zn3.length cn3]):=by unfold Hid;rw [eWZ];exact Cs.setAllO (by have:=HL1.out;omega) [g1x,.slice a1x k1x c1x,g2x,.slice a2x k2x c2x,t1x,g3x,.slice a3x k3x c3x,g4x,.slice a4x k4x c4x,t2x,t3x] _ 0 _ (HCx.out.later hB4)
       have HQ8:Hid (Cs WZ PC [ga1,.slice aa1 za1.length ca1,ga2,.slice aa2 za2.length ca2,ga3,.slice aa3 za3.length ca3,gb1,.slice ab1 zb1.length cb1,gb2,.slice ab2 zb2.length cb2,gb3,.slice ab3 zb3.length cb3,gc1,.slice ac1 zc1.length cc1,gc2,.slice ac2 zc2.length cc2,gc3,.slice ac3 zc3.length cc3,ga1,.slice aa1 za1.length ca1,ga2,.slice aa2 za2.length ca2,ga3,.slice aa3 za3.length ca3]):=by unfold Hid;rw [eWZ];exact Cs.setAllO (by have:=HLc.out;omega) [g1x,.slice a1x k1x c1x,g2x,.slice a2x k2x c2x,t1x,g3x,.slice a3x k3x c3x,g4x,.slice a4x k4x c4x,t2x,t3x] _ 0 _ (HQx.out.later hB4)
       clear eWZ hWZ hB1 hB2 hB3 hB4 hs1 hs2 hs3 hs4 hv4 Rh Rr Rl Rx HFx HPx HVx HCx HQx HMx HCm HK hS hBd
       go_wp2_with fail
       go_roundg (3-(i+1))
       case measure=>have:=HKI.out;omega
       case rel=>exact ⟨i+1,g1x,a1x,k1x,c1x,g2x,a2x,k2x,c2x,t1x,g3x,a3x,k3x,c3x,g4x,a4x,k4x,c4x,t2x,t3x,by go_num,by omega,rfl,HF8,HP8,HV8,HC8,HQ8⟩
     ·have hie:i=3:=by omega
      subst hie
      obtain ⟨s0,s1,s2,s3,s4,s5,s6,s7,s8,s9,s10⟩:=HF.out.s.c11
      obtain ⟨z0,z1,z2,z3,z4,z5,z6,z7,z8,z9,z10⟩:=HF.out.z.c11
      have fz:=HF.out.z.2.1
      go_wp2
      refine bodyPost_ret (v:= .agg #[g1y,.slice a1y k1y c1y,g2y,.slice a2y k2y c2y,t1y,g3y,.slice a3y k3y c3y,g4y,.slice a4y k4y c4y,t2y,t3y]) (by simp [results,Tryz.results66,go_sem,z0,z1,z2,z3,z4,z5,z6,z7,z8,z9,z10]) rfl ?_
      exact ⟨_,rfl,(HP.out.setAll [g1y,.slice a1y k1y c1y,g2y,.slice a2y k2y c2y,t1y,g3y,.slice a3y k3y c3y,g4y,.slice a4y k4y c4y,t2y,t3y] _ 0 HF.out.iz (by simp [NotInt])).congr (fun p q _=>⟨fun h=>⟨HNN.out,h⟩,fun h=>h.2⟩),below_setAll (vs:=[↑g1y,.slice a1y k1y c1y,↑g2y,.slice a2y k2y c2y,↑t1y,↑g3y,.slice a3y k3y c3y,↑g4y,.slice a4y k4y c4y,↑t2y,↑t3y]) (by omega) _ 0 HF.out.bel⟩
end Go.Proofs.YtfieffpobgcpmaaGreatDoor
