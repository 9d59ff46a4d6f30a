import Derived.Test.YtfieffpobgcpmaaGreatDoorEsGToBgES
import Derived.Deep.RegionHeld3
import Derived.Test.YtfieffpobgcpmaaGreatDoorRoHShDShES
import Derived.Test.YtfieffpobgcpmaaGreatDoorBgNReARkACoAS
import Derived.Test.YtfieffpobgcpmaaGreatDoorBgIBgJBhACsASh0S
import Derived.Deep.MidRow
import Derived.Deep.CutRange
set_option maxRecDepth 100000
set_option maxHeartbeats 32000000
namespace Go.Proofs.YtfieffpobgcpmaaGreatDoor
open Go.RowKit Go.Proofs.Tryz
variable {w:World}
theorem ρn (u v:Value) (e:Nat) (A B C A' B' C':Int) (w:World) (he:e<=29000) (hu:ζM w u e A B C) (hv:ζM w v e A' B' C'):
 Calls prog 154 #[u,v] w fun o w'=>ψJ w (e+1) (A+A') (B+B') (C+C') o w':=by
 obtain ⟨gu1,au1,cu1,zu1,gu2,au2,cu2,zu2,gu3,au3,cu3,zu3,rfl,hu1,hu2,hu3⟩:=hu
 obtain ⟨gv1,av1,cv1,zv1,gv2,av2,cv2,zv2,gv3,av3,cv3,zv3,rfl,hv1,hv2,hv3⟩:=hv
 go_enter func154,ntmps154
 go_wp2_with fail
 obtain ⟨W0,hW0⟩: ∃V0,V0=(((w.alloc (.cells #[gu1,.slice au1 zu1 cu1,gu2,.slice au2 zu2 cu2,gu3,.slice au3 zu3 cu3] 92)).alloc (.cells #[gv1,.slice av1 zv1 cv1,gv2,.slice av2 zv2 cv2,gv3,.slice av3 zv3 cv3] 92)).alloc (.cells #[false,(),false,(),false,()] 92)):=⟨_,rfl⟩
 rw [<-hW0]
 have FR:Hid (Fbm w gu1 (.slice au1 zu1 cu1) gu2 (.slice au2 zu2 cu2) gu3 (.slice au3 zu3 cu3) gv1 (.slice av1 zv1 cv1) gv2 (.slice av2 zv2 cv2) gv3 (.slice av3 zv3 cv3) false () false () false () W0):=by rw [hW0];exact Fbm.start w _ _ _ _ _ _ _ _ _ _ _ _ _ _ _ _ _ _ _ _ _
 have HNI:Hid (ζf W0 (↑w+1+1)):=by
  have hz: ∀(i:Nat) (k:IntKind) (m:Int),(#[↑false,↑(),↑false,↑(),↑false,↑()]:Array Value)[i]? ≠some (Value.int k m):=by
   intro i k m
   match i with|0=>simp|1=>simp|2=>simp|3=>simp|4=>simp|5=>simp|n+6=>simp
  have h1:=ζf.new ((w.alloc (.cells #[gu1,.slice au1 zu1 cu1,gu2,.slice au2 zu2 cu2,gu3,.slice au3 zu3 cu3] 92)).alloc (.cells #[gv1,.slice av1 zv1 cv1,gv2,.slice av2 zv2 cv2,gv3,.slice av3 zv3 cv3] 92)) #[false,(),false,(),false,()] 92 hz
  have hs:((w.alloc (.cells #[gu1,.slice au1 zu1 cu1,gu2,.slice au2 zu2 cu2,gu3,.slice au3 zu3 cu3] 92)).alloc (.cells #[gv1,.slice av1 zv1 cv1,gv2,.slice av2 zv2 cv2,gv3,.slice av3 zv3 cv3] 92)).heap.size=w.heap.size+1+1:=by simp
  rw [hs] at h1
  unfold Hid;rw [hW0];exact h1
 clear hW0
 have hmt1: ∀(r:Value) (w:World),_:=fun r w=>(ωZ r w).2.1
 have U1_0:=(hu1.later FR.out.bel).later (w':=W0.drew) (Below.refl _ _).drew
 have U2_0:=(hu2.later FR.out.bel).later (w':=W0.drew) (Below.refl _ _).drew
 have U3_0:=(hu3.later FR.out.bel).later (w':=W0.drew) (Below.refl _ _).drew
 have V1_0:=(hv1.later FR.out.bel).later (w':=W0.drew) (Below.refl _ _).drew
 have V2_0:=(hv2.later FR.out.bel).later (w':=W0.drew) (Below.refl _ _).drew
 have V3_0:=(hv3.later FR.out.bel).later (w':=W0.drew) (Below.refl _ _).drew
 have NI_0:=HNI.out.later (w':=W0.drew) (Below.refl _ _).drew
 have F0:Fbm w gu1 (.slice au1 zu1 cu1) gu2 (.slice au2 zu2 cu2) gu3 (.slice au3 zu3 cu3) gv1 (.slice av1 zv1 cv1) gv2 (.slice av2 zv2 cv2) gv3 (.slice av3 zv3 cv3) false () false () false () W0.drew:=FR.out.later (Below.refl _ _).drew
 go_region_held3 (fun w'=>w'.cell? ⟨w,0,none⟩=some ↑gu1∧w'.cell? ⟨w,1,none⟩=some (.slice au1 zu1 cu1)∧w'.cell? ⟨w,2,none⟩=some ↑gu2∧w'.cell? ⟨w,3,none⟩=some (.slice au2 zu2 cu2)∧w'.cell? ⟨w,4,none⟩=some ↑gu3∧w'.cell? ⟨w,5,none⟩=some (.slice au3 zu3 cu3)∧w'.cell? ⟨↑w+1,0,none⟩=some ↑gv1∧w'.cell? ⟨↑w+1,1,none⟩=some (.slice av1 zv1 cv1)∧w'.cell? ⟨↑w+1,2,none⟩=some ↑gv2∧w'.cell? ⟨↑w+1,3,none⟩=some (.slice av2 zv2 cv2)∧w'.cell? ⟨↑w+1,4,none⟩=some ↑gv3∧w'.cell? ⟨↑w+1,5,none⟩=some (.slice av3 zv3 cv3))
  (first|with_reducible exact (F3.set2 _ _ _ _ _ _).s|with_reducible exact Fbm.s (by with_reducible assumption))
  (first
   |(have hBB:=hB2;clear hBB;go_at_call 200;refine (φ9 _ _ e C C' _ (by omega) U3_2 V3_2).mono ?_;rintro o w3 ⟨v3,rfl,hv3,hb3⟩;have R3_3:ζe w3 v3 (e+1) (C+C'):=hv3;obtain ⟨gr3,ar3,cr3,zr3,rfl,_,_,_⟩:=hv3;have U1_3:=U1_2.later hb3;have U2_3:=U2_2.later hb3;have U3_3:=U3_2.later hb3;have V1_3:=V1_2.later hb3;have V2_3:=V2_2.later hb3;have V3_3:=V3_2.later hb3;have NI_3:=NI_2.later hb3;have R1_3:=R1_2.later hb3;have R2_3:=R2_2.later hb3;have hB3:Below W0 W0 w3:=hB2.trans (hb3.mono hB2.size);have F3:Fbm w gu1 (.slice au1 zu1 cu1) gu2 (.slice au2 zu2 cu2) gu3 (.slice au3 zu3 cu3) gv1 (.slice av1 zv1 cv1) gv2 (.slice av2 zv2 cv2) gv3 (.slice av3 zv3 cv3) false () false () false () w3:=FR.out.later hB3;have r0:=F3.e2x0;have r1:=F3.e2x1;have r2:=F3.e2x2;have r3:=F3.e2x3;have r4:=F3.e2x4;have r5:=F3.e2x5;have rz:=F3.f2)
   |(have hBB:=hB1;clear hBB;go_at_call 200;refine (φ9 _ _ e B B' _ (by omega) U2_1 V2_1).mono ?_;rintro o w2 ⟨v2,rfl,hv2,hb2⟩;have R2_2:ζe w2 v2 (e+1) (B+B'):=hv2;obtain ⟨gr2,ar2,cr2,zr2,rfl,_,_,_⟩:=hv2;have U1_2:=U1_1.later hb2;have U2_2:=U2_1.later hb2;have U3_2:=U3_1.later hb2;have V1_2:=V1_1.later hb2;have V2_2:=V2_1.later hb2;have V3_2:=V3_1.later hb2;have NI_2:=NI_1.later hb2;have R1_2:=R1_1.later hb2;have hB2:Below W0 W0 w2:=hB1.trans (hb2.mono hB1.size);have F2:Fbm w gu1 (.slice au1 zu1 cu1) gu2 (.slice au2 zu2 cu2) gu3 (.slice au3 zu3 cu3) gv1 (.slice av1 zv1 cv1) gv2 (.slice av2 zv2 cv2) gv3 (.slice av3 zv3 cv3) false () false () false () w2:=FR.out.later hB2)
   |(go_at_call 200;refine (φ9 _ _ e A A' _ (by omega) U1_0 V1_0).mono ?_;rintro o w1 ⟨v1,rfl,hv1,hb1⟩;have R1_1:ζe w1 v1 (e+1) (A+A'):=hv1;obtain ⟨gr1,ar1,cr1,zr1,rfl,_,_,_⟩:=hv1;have U1_1:=U1_0.later hb1;have U2_1:=U2_0.later hb1;have U3_1:=U3_0.later hb1;have V1_1:=V1_0.later hb1;have V2_1:=V2_0.later hb1;have V3_1:=V3_0.later hb1;have NI_1:=NI_0.later hb1;have hB1:Below W0 W0 w1:=(Below.refl _ _).drew.trans hb1;have F1:Fbm w gu1 (.slice au1 zu1 cu1) gu2 (.slice au2 zu2 cu2) gu3 (.slice au3 zu3 cu3) gv1 (.slice av1 zv1 cv1) gv2 (.slice av2 zv2 cv2) gv3 (.slice av3 zv3 cv3) false () false () false () w1:=FR.out.later hB1))
 have HF:Hid (Fbm w gu1 (.slice au1 zu1 cu1) gu2 (.slice au2 zu2 cu2) gu3 (.slice au3 zu3 cu3) gv1 (.slice av1 zv1 cv1) gv2 (.slice av2 zv2 cv2) gv3 (.slice av3 zv3 cv3) false () false () false () w3):=F3
 have HR1:Hid (ζe w3 (.agg #[gr1,.slice ar1 zr1 cr1]) (e+1) (A+A')):=R1_3
 have HR2:Hid (ζe w3 (.agg #[gr2,.slice ar2 zr2 cr2]) (e+1) (B+B')):=R2_3
 have HR3:Hid (ζe w3 (.agg #[gr3,.slice ar3 zr3 cr3]) (e+1) (C+C')):=R3_3
 have HNN:Hid (ζf w3 (↑w+1+1)):=NI_3
 clear hB1 hb1 F1 hB2 hb2 F2 hB3 hb3 F3 U1_0 U1_1 U1_2 U1_3 U2_0 U2_1 U2_2 U2_3 U3_0 U3_1 U3_2 U3_3 V1_0 V1_1 V1_2 V1_3 V2_0 V2_1 V2_2 V2_3 V3_0 V3_1 V3_2 V3_3 NI_0 NI_1 NI_2 NI_3 R1_1 R1_2 R1_3 R2_2 R2_3 R3_3 F0
 go_wp2
 refine bodyPost_ret (v:= .agg #[gr1,.slice ar1 zr1 cr1,gr2,.slice ar2 zr2 cr2,gr3,.slice ar3 zr3 cr3]) (by simp [results,results154,go_sem,r0,r1,r2,r3,r4,r5]) rfl ?_
 refine ⟨_,rfl,⟨gr1,ar1,cr1,zr1,gr2,ar2,cr2,zr2,gr3,ar3,cr3,zr3,rfl,HR1.out.setAll [gr1,.slice ar1 zr1 cr1,gr2,.slice ar2 zr2 cr2,gr3,.slice ar3 zr3 cr3] _ 0 HNN.out (by simp [ζh]),HR2.out.setAll [gr1,.slice ar1 zr1 cr1,gr2,.slice ar2 zr2 cr2,gr3,.slice ar3 zr3 cr3] _ 0 HNN.out (by simp [ζh]),HR3.out.setAll [gr1,.slice ar1 zr1 cr1,gr2,.slice ar2 zr2 cr2,gr3,.slice ar3 zr3 cr3] _ 0 HNN.out (by simp [ζh])⟩,?_⟩
 exact (HF.out.set2 _ _ _ _ _ _).bel
theorem ζM.cast {v:Value} {e:Nat} {A B C A' B' C':Int} (h:ζM w v e A B C) (h1:A=A') (h2:B=B') (h3:C=C'):ζM w v e A' B' C':=by subst h1 h2 h3;exact h
theorem σL {v:Value} {e:Nat} {p q l0 l1 l2 s0 s1 s2 s3 s4 s5:Int} (h:ζM w v e (cor l0*q-(cor s0*q+cor s3*p)) (cor l1*q-(cor s1*q+cor s4*p)) (cor l2*q-(cor s2*q+cor s5*p))):ζM w v e ((V3.sc q (pv l0 l1 l2)).sub (pnt (pv s0 s1 s2) (pv s3 s4 s5) p q)).x ((V3.sc q (pv l0 l1 l2)).sub (pnt (pv s0 s1 s2) (pv s3 s4 s5) p q)).y ((V3.sc q (pv l0 l1 l2)).sub (pnt (pv s0 s1 s2) (pv s3 s4 s5) p q)).z:=by
 have c: ∀l a b:Int,l*q-(a*q+b*p)=q*l-(a*q+b*p):=fun l a b=>by rw [Int.mul_comm l]
 exact h.cast (c _ _ _) (c _ _ _) (c _ _ _)
theorem θZ (l0 l1 l2 s0 s1 s2 s3 s4 s5:Int) (va vd:Value) (e:Nat) (p q:Int) (w:World) (he:e<=20000) (hT:Tab w) (hva:ζe w va e p) (hvd:ζe w vd e q) (g0:Cor l0) (g1:Cor l1) (g2:Cor l2) (h0:Cor s0) (h1:Cor s1) (h2:Cor s2) (h3:Cor s3) (h4:Cor s4) (h5:Cor s5):
 Calls prog 109 #[.agg #[l0,l1,l2],.agg #[s0,s1,s2,s3,s4,s5],va,vd] w fun o w'=>ηp w (277+e+1+1) e q (pnt (pv s0 s1 s2) (pv s3 s4 s5) p q) ((V3.sc q (pv l0 l1 l2)).sub (pnt (pv s0 s1 s2) (pv s3 s4 s5) p q)) o w':=by
 have hva':=hva
 have hvd':=hvd
 obtain ⟨ga,aa,ca,za,rfl,_,_,_⟩:=hva'
 obtain ⟨gd,ad,cd,zd,rfl,_,_,_⟩:=hvd'
 have HA:Hid (∀w',Below w w w'->ζe w' (.agg #[ga,.slice aa za ca]) e p):=fun w' hb=>hva.later hb
 have HD:Hid (∀w',Below w w w'->ζe w' (.agg #[gd,.slice ad zd cd]) e q):=fun w' hb=>hvd.later hb
 have HT:Hid (∀w',Below w w w'->Tab w'):=fun w' hb=>hT.later hb
 clear hva hvd hT
 go_enter func109,ntmps109
 go_wp2_with fail
 obtain ⟨W0,hW0⟩: ∃V,V=(((((w.alloc (.cells #[l0,l1,l2] 34)).alloc (.cells #[s0,s1,s2,s3,s4,s5] 39)).alloc (.cells #[ga,.slice aa za ca] 31)).alloc (.cells #[gd,.slice ad zd cd] 31)).alloc (.cells #[false,(),false,(),false,(),false,(),false,(),false,(),false,()] 94)):=⟨_,rfl⟩
 rw [<-hW0]
 have HF0:Hid (LtF w [l0,l1,l2] [s0,s1,s2,s3,s4,s5] [ga,.slice aa za ca] [gd,.slice ad zd cd] [false,(),false,(),false,(),false,(),false,(),false,(),false,()] W0):=by unfold Hid;rw [hW0];exact LtF.start w _ _ _ _ _ (fun i k m=>by match i with|0=>simp|1=>simp|2=>simp|3=>simp|4=>simp|5=>simp|6=>simp|7=>simp|8=>simp|9=>simp|10=>simp|11=>simp|12=>simp|13=>simp|n+14=>simp) _ _ _ _ _
 clear hW0
 have HK:Hid (∀w',Below W0 W0 w'->(fun w'=>LtF w [l0,l1,l2] [s0,s1,s2,s3,s4,s5] [ga,.slice aa za ca] [gd,.slice ad zd cd] [false,(),false,(),false,(),false,(),false,(),false,(),false,()] w') w'):=fun w' hb=>HF0.out.later hb
 go_cut [9] from 10 to 20 (fun s9 wx=> ∃(PN:Nat) (gn1:Bool) (an1:Option Addr) (cn1:Nat) (zn1:List Int) (gn2:Bool) (an2:Option Addr) (cn2:Nat) (zn2:List Int) (gn3:Bool) (an3:Option Addr) (cn3:Nat) (zn3:List Int),s9= .pointer (some ⟨PN,0,none⟩)∧Hid (StN W0 PN [gn1,.slice an1 zn1 cn1,gn2,.slice an2 zn2 cn2,gn3,.slice an3 zn3 cn3] (fun W=>ζM W (.agg #[gn1,.slice an1 zn1 cn1,gn2,.slice an2 zn2 cn2,gn3,.slice an3 zn3 cn3]) (277+e+1) (cor s0*q+cor s3*p) (cor s1*q+cor s4*p) (cor s2*q+cor s5*p)) wx))
 case first=>
  refine ζb.rg HK 12 fun WD hBd hS=> ?_
  refine ζb.pu 0 10 (.pointer (some ⟨↑w+1,0,none⟩)) hS ?_
  simp only [sT,sS,sZ]
  refine ζb.ld 1 11 34 10 (↑w+1) 0 [s0,s1,s2] (fun w' h=>(h.r).range 0 3) underlying34 hS ?_
  simp only [sT,sS,sZ]
  refine ζb.ld 3 13 31 7 (↑w+1+1+1) 0 [gd,.slice ad zd cd] (fun w' h=>(h.b).range 0 2) underlying31 hS ?_
  simp only [sT,sS,sZ]
  refine ζb.pu 5 15 (.pointer (some ⟨↑w+1,3,none⟩)) hS ?_
  simp only [sT,sS,sZ]
  refine ζb.ld 6 16 34 15 (↑w+1) 3 [s3,s4,s5] (fun w' h=>(h.r).range 3 3) underlying34 hS ?_
  simp only [sT,sS,sZ]
  refine ζb.ld 8 18 31 6 (↑w+1+1) 0 [ga,.slice aa za ca] (fun w' h=>(h.a).range 0 2) underlying31 hS ?_
  simp only [sT,sS,sZ]
  refine ζ0.begin [2,4,7,9,10] [11] ?_
  have hBw:=hBd
  clear hBd
  repeat' first
   |refine ζ0.cb (by kernel_rfl) rfl rfl rfl rfl ?_ ?_
   |refine ζ0.c (by kernel_rfl) rfl rfl ?_
   |refine ζ0.b (by kernel_rfl) rfl rfl ?_
   |(refine ξa.go 2 fun K HKK=> ?_
     go_wp2_with fail
     refine (ξe s0 s1 s2 _ (HT.out _ (HF0.out.bel.trans (hBw.mono HF0.out.bel.size))) h0 h1 h2).mono ?_
     rintro o uW ⟨vV,rfl,hv,hSt⟩
     replace hBw:=hBw.trans (hSt.mono hBw.size)
     (try replace hcb:=hcb.later hSt)
     (try replace hnb:=hnb.later hSt)
     (try replace Rp:=Hid.mk (Rp.out.later hSt))
     (try replace Rx:=Hid.mk (Rx.out.later hSt))
     (try replace Rt:=Hid.mk (Rt.out.later hSt))
     (try replace Rn:=Hid.mk (Rn.out.later hSt))
     have Ro:=Hid.mk hv
     obtain ⟨go1,ao1,co1,zo1,go2,ao2,co2,zo2,go3,ao3,co3,zo3,rfl,_,_,_⟩:=hv
     refine HKK.out _ _ (fun _=>HK.out _ hBw) ?_
     clear HKK K hSt
     (try simp only [Act.put]))
   |(refine ξa.go 4 fun K HKK=> ?_
     go_wp2_with fail
     refine (ξH _ _ 277 e (cor s0) (cor s1) (cor s2) q _ (by omega) Ro.out (HD.out _ (HF0.out.bel.trans (hBw.mono HF0.out.bel.size)))).mono ?_
     rintro o uW ⟨vV,rfl,hv,hSt⟩
     replace hBw:=hBw.trans (hSt.mono hBw.size)
     (try replace hcb:=hcb.later hSt)
     (try replace hnb:=hnb.later hSt)
     (try replace Ro:=Hid.mk (Ro.out.later hSt))
     (try replace Rx:=Hid.mk (Rx.out.later hSt))
     (try replace Rt:=Hid.mk (Rt.out.later hSt))
     (try replace Rn:=Hid.mk (Rn.out.later hSt))
     have Rp:=Hid.mk hv
     obtain ⟨gp1,ap1,cp1,zp1,gp2,ap2,cp2,zp2,gp3,ap3,cp3,zp3,rfl,_,_,_⟩:=hv
     refine HKK.out _ _ (fun _=>HK.out _ hBw) ?_
     clear HKK K hSt
     (try simp only [Act.put]))
   |(refine ξa.go 7 fun K HKK=> ?_
     go_wp2_with fail
     refine (ξe s3 s4 s5 _ (HT.out _ (HF0.out.bel.trans (hBw.mono HF0.out.bel.size))) h3 h4 h5).mono ?_
     rintro o uW ⟨vV,rfl,hv,hSt⟩
     replace hBw:=hBw.trans (hSt.mono hBw.size)
     (try replace hcb:=hcb.later hSt)
     (try replace hnb:=hnb.later hSt)
     (try replace Ro:=Hid.mk (Ro.out.later hSt))
     (try replace Rp:=Hid.mk (Rp.out.later hSt))
     (try replace Rt:=Hid.mk (Rt.out.later hSt))
     (try replace Rn:=Hid.mk (Rn.out.later hSt))
     have Rx:=Hid.mk hv
     obtain ⟨gx1,ax1,cx1,zx1,gx2,ax2,cx2,zx2,gx3,ax3,cx3,zx3,rfl,_,_,_⟩:=hv
     refine HKK.out _ _ (fun _=>HK.out _ hBw) ?_
     clear HKK K hSt
     (try simp only [Act.put]))
   |(refine ξa.go 9 fun K HKK=> ?_
     go_wp2_with fail
     refine (ξH _ _ 277 e (cor s3) (cor s4) (cor s5) p _ (by omega) Rx.out (HA.out _ (HF0.out.bel.trans (hBw.mono HF0.out.bel.size)))).mono ?_
     rintro o uW ⟨vV,rfl,hv,hSt⟩
     replace hBw:=hBw.trans (hSt.mono hBw.size)
     (try replace hcb:=hcb.later hSt)
     (try replace hnb:=hnb.later hSt)
     (try replace Ro:=Hid.mk (Ro.out.later hSt))
     (try replace Rp:=Hid.mk (Rp.out.later hSt))
     (try replace Rx:=Hid.mk (Rx.out.later hSt))
     (try replace Rn:=Hid.mk (Rn.out.later hSt))
     have Rt:=Hid.mk hv
     obtain ⟨gt1,at1,ct1,zt1,gt2,at2,ct2,zt2,gt3,at3,ct3,zt3,rfl,_,_,_⟩:=hv
     refine HKK.out _ _ (fun _=>HK.out _ hBw) ?_
     clear HKK K hSt
     (try simp only [Act.put]))
   |(refine ξa.go 10 fun K HKK=> ?_
     go_wp2_with fail
     refine (ρn _ _ (277+e) _ _ _ _ _ _ _ (by omega) Rp.out Rt.out).mono ?_
     rintro o uW ⟨vV,rfl,hv,hSt⟩
     replace hBw:=hBw.trans (hSt.mono hBw.size)
     (try replace hcb:=hcb.later hSt)
     (try replace hnb:=hnb.later hSt)
     (try replace Ro:=Hid.mk (Ro.out.later hSt))
     (try replace Rp:=Hid.mk (Rp.out.later hSt))
     (try replace Rx:=Hid.mk (Rx.out.later hSt))
     (try replace Rt:=Hid.mk (Rt.out.later hSt))
     have Rn:=Hid.mk hv
     obtain ⟨gn1,an1,cn1,zn1,gn2,an2,cn2,zn2,gn3,an3,cn3,zn3,rfl,_,_,_⟩:=hv
     refine HKK.out _ _ (fun _=>HK.out _ hBw) ?_
     clear HKK K hSt
     (try simp only [Act.put]))
   |(refine ξa.go 11 fun K HKK=> ?_
     go_wp2_with fail
     obtain ⟨uW,hu,hSt,hcb,hnb,hBw,hPb,_⟩:=ξC hBw #[false,(),false,(),false,()] 92 rfl
     (try replace Ro:=Hid.mk (Ro.out.later hSt))
     (try replace Rp:=Hid.mk (Rp.out.later hSt))
     (try replace Rx:=Hid.mk (Rx.out.later hSt))
     (try replace Rt:=Hid.mk (Rt.out.later hSt))
     (try replace Rn:=Hid.mk (Rn.out.later hSt))
     refine HKK.out _ _ (fun _=>by rw [hu];exact HK.out _ hBw) ?_
     rw [hu]
     clear HKK K hu hSt
     (try simp only [Act.put]))
  all_goals
   refine ⟨ζb.on 12 fun K HKK=> ?_⟩
   refine wp_store_mid 92 (.tmp 9) (.tmp 20) rfl (_) 0 #[gn1,.slice an1 zn1 cn1,gn2,.slice an2 zn2 cn2,gn3,.slice an3 zn3 cn3] rfl rfl (hcb.there 0 6 (by simp)) (by kernel_rfl) (all_oneCell_toArray (by simp [Value.oneCell'])) ?_
   refine HKK.out _ _ (fun h=>absurd rfl h) ?_
   clear HKK K
   refine ζb.done (by kernel_rfl) ?_
   rw [show∀W b i,World.setCells W b i (Array.toList #[gn1,.slice an1 zn1 cn1,gn2,.slice an2 zn2 cn2,gn3,.slice an3 zn3 cn3])=setAll W b i [gn1,.slice an1 zn1 cn1,gn2,.slice an2 zn2 cn2,gn3,.slice an3 zn3 cn3] from fun W b i=>ζg _ _ _ _]
   go_wp2_with fail
   go_meet
   case rel=>exact ⟨_,gn1,an1,cn1,zn1,gn2,an2,cn2,zn2,gn3,an3,cn3,zn3,rfl,⟨hcb.whole [gn1,.slice an1 zn1 cn1,gn2,.slice an2 zn2 cn2,gn3,.slice an3 zn3 cn3] rfl,(Rn.out.setAll [gn1,.slice an1 zn1 cn1,gn2,.slice an2 zn2 cn2,gn3,.slice an3 zn3 cn3] _ 0 hnb (by simp [ζh])),hPb,ζd hPb [gn1,.slice an1 zn1 cn1,gn2,.slice an2 zn2 cn2,gn3,.slice an3 zn3 cn3] _ 0 hBw⟩⟩
 case rest=>
  clear HK
  obtain ⟨PN,gn1,an1,cn1,zn1,gn2,an2,cn2,zn2,gn3,an3,cn3,zn3,rfl,HN⟩:=hcut
  obtain ⟨W1,hW1⟩: ∃V,V=wc:=⟨_,rfl⟩
  rw [<-hW1] at HN⊢
  clear hW1
  have HF1:=Hid.mk (HF0.out.later HN.out.bel)
  have HC1:Hid (Cs W1 PN [gn1,.slice an1 zn1 cn1,gn2,.slice an2 zn2 cn2,gn3,.slice an3 zn3 cn3]):=HN.out.c
  have HS1:Hid (ζM W1 (.agg #[gn1,.slice an1 zn1 cn1,gn2,.slice an2 zn2 cn2,gn3,.slice an3 zn3 cn3]) (277+e+1) (cor s0*q+cor s3*p) (cor s1*q+cor s4*p) (cor s2*q+cor s5*p)):=HN.out.q
  clear HN HF0
  have HK:Hid (∀w',Below W1 W1 w'->(fun w'=>LtF w [l0,l1,l2] [s0,s1,s2,s3,s4,s5] [ga,.slice aa za ca] [gd,.slice ad zd cd] [false,(),false,(),false,(),false,(),false,(),false,(),false,()] w'∧Cs w' PN [gn1,.slice an1 zn1 cn1,gn2,.slice an2 zn2 cn2,gn3,.slice an3 zn3 cn3]) w'):=fun w' hb=>⟨HF1.out.later hb,HC1.out.later hb⟩
  go_wp2_with fail
  refine ζb.rg HK 9 fun WD hBd hS=> ?_
  refine ζb.ld 0 21 92 9 (PN) 0 [gn1,.slice an1 zn1 cn1,gn2,.slice an2 zn2 cn2,gn3,.slice an3 zn3 cn3] (fun w' h=>(h.2).range 0 6) underlying92 hS ?_
  simp only [sT,sS,sZ]
  refine ζb.ld 1 22 34 4 w 0 [l0,l1,l2] (fun w' h=>(h.1.l).range 0 3) underlying34 hS ?_
  simp only [sT,sS,sZ]
  refine ζb.ld 3 24 31 7 (↑w+1+1+1) 0 [gd,.slice ad zd cd] (fun w' h=>(h.1.b).range 0 2) underlying31 hS ?_
  simp only [sT,sS,sZ]
  refine ζb.ld 5 26 92 9 (PN) 0 [gn1,.slice an1 zn1 cn1,gn2,.slice an2 zn2 cn2,gn3,.slice an3 zn3 cn3] (fun w' h=>(h.2).range 0 6) underlying92 hS ?_
  simp only [sT,sS,sZ]
  refine ζb.ld 7 28 31 7 (↑w+1+1+1) 0 [gd,.slice ad zd cd] (fun w' h=>(h.1.b).range 0 2) underlying31 hS ?_
  simp only [sT,sS,sZ]
  refine ζb.on 2 fun K HKK=> ?_
  go_wp2_with fail
  refine (ξe l0 l1 l2 _ (HT.out _ (HF1.out.bel.trans (hBd.mono HF1.out.bel.size))) g0 g1 g2).mono ?_
  rintro o u1 ⟨v1,rfl,hv1,hs1⟩
  have hB1:Below W1 W1 u1:=hBd.trans (hs1.mono hBd.size)
  have Ro:=Hid.mk hv1
  obtain ⟨go1,ao1,co1,zo1,go2,ao2,co2,zo2,go3,ao3,co3,zo3,rfl,_,_,_⟩:=hv1
  refine HKK.out _ _ (fun _=>HK.out _ hB1) ?_
  clear HKK K
  (try simp only [Act.put])
  refine ζb.on 4 fun K HKK=> ?_
  go_wp2_with fail
  refine (ξH _ _ 277 e (cor l0) (cor l1) (cor l2) q _ (by omega) Ro.out (HD.out _ (HF1.out.bel.trans (hB1.mono HF1.out.bel.size)))).mono ?_
  rintro o u2 ⟨v2,rfl,hv2,hs2⟩
  have hB2:Below W1 W1 u2:=hB1.trans (hs2.mono hB1.size)
  have Rp:=Hid.mk hv2
  obtain ⟨gp1,ap1,cp1,zp1,gp2,ap2,cp2,zp2,gp3,ap3,cp3,zp3,rfl,_,_,_⟩:=hv2
  refine HKK.out _ _ (fun _=>HK.out _ hB2) ?_
  clear HKK K
  (try simp only [Act.put])
  refine ζb.on 6 fun K HKK=> ?_
  go_wp2_with fail
  refine (ξy _ _ (277+e+1) _ _ _ _ _ _ _ (by omega) (Rp.out.up (by omega)) (HS1.out.later hB2)).mono ?_
  rintro o u3 ⟨v3,rfl,hv3,hs3⟩
  have hB3:Below W1 W1 u3:=hB2.trans (hs3.mono hB2.size)
  have Ry:=Hid.mk hv3
  obtain ⟨gy1,ay1,cy1,zy1,gy2,ay2,cy2,zy2,gy3,ay3,cy3,zy3,rfl,_,_,_⟩:=hv3
  refine HKK.out _ _ (fun _=>HK.out _ hB3) ?_
  clear HKK K
  (try simp only [Act.put])
  have hS:=HK.out _ hB3
  refine ζb.pk 8 29 (.agg #[gn1,.slice an1 zn1 cn1,gn2,.slice an2 zn2 cn2,gn3,.slice an3 zn3 cn3,gy1,.slice ay1 zy1 cy1,gy2,.slice ay2 zy2 cy2,gy3,.slice ay3 zy3 cy3,gd,.slice ad zd cd]) hS ?_
  simp only [sT,sS,sZ]
  refine ζb.on 9 fun K HKK=> ?_
  refine wp_store_mid 94 (.tmp 8) (.tmp 29) rfl (↑w+1+1+1+1) 0 #[gn1,.slice an1 zn1 cn1,gn2,.slice an2 zn2 cn2,gn3,.slice an3 zn3 cn3,gy1,.slice ay1 zy1 cy1,gy2,.slice ay2 zy2 cy2,gy3,.slice ay3 zy3 cy3,gd,.slice ad zd cd] rfl rfl ((HK.out _ hB3).1.z.there 0 14 (by simp)) (by kernel_rfl) (all_oneCell_toArray (by simp [Value.oneCell'])) ?_
  refine HKK.out _ _ (fun h=>absurd rfl h) ?_
  clear HKK K hS
  refine ζb.done (by kernel_rfl) ?_
  obtain ⟨WZ,hWZ⟩: ∃V,V=World.setCells u3 (↑w+1+1+1+1) 0 (Array.toList #[gn1,.slice an1 zn1 cn1,gn2,.slice an2 zn2 cn2,gn3,.slice an3 zn3 cn3,gy1,.slice ay1 zy1 cy1,gy2,.slice ay2 zy2 cy2,gy3,.slice ay3 zy3 cy3,gd,.slice ad zd cd]):=⟨_,rfl⟩
  rw [<-hWZ]
  have eWZ:WZ=setAll u3 (↑w+1+1+1+1) 0 [gn1,.slice an1 zn1 cn1,gn2,.slice an2 zn2 cn2,gn3,.slice an3 zn3 cn3,gy1,.slice ay1 zy1 cy1,gy2,.slice ay2 zy2 cy2,gy3,.slice ay3 zy3 cy3,gd,.slice ad zd cd]:=by rw [hWZ];exact ζg _ _ _ _
  clear hWZ
  have HC9:Hid (Cs WZ (↑w+1+1+1+1) [gn1,.slice an1 zn1 cn1,gn2,.slice an2 zn2 cn2,gn3,.slice an3 zn3 cn3,gy1,.slice ay1 zy1 cy1,gy2,.slice ay2 zy2 cy2,gy3,.slice ay3 zy3 cy3,gd,.slice ad zd cd]):=by unfold Hid;rw [eWZ];exact (HK.out _ hB3).1.z.whole _ rfl
  have HW9:Hid (Below w w WZ):=by unfold Hid;rw [eWZ];exact ζd (by omega) _ _ 0 (HF1.out.bel.trans (hB3.mono HF1.out.bel.size))
  have HL9:Hid (ξi WZ (.agg #[gn1,.slice an1 zn1 cn1,gn2,.slice an2 zn2 cn2,gn3,.slice an3 zn3 cn3,gy1,.slice ay1 zy1 cy1,gy2,.slice ay2 zy2 cy2,gy3,.slice ay3 zy3 cy3,gd,.slice ad zd cd]) (277+e+1+1) e q (pnt (pv s0 s1 s2) (pv s3 s4 s5) p q) ((V3.sc q (pv l0 l1 l2)).sub (pnt (pv s0 s1 s2) (pv s3 s4 s5) p q))):=by
   unfold Hid;rw [eWZ]
   exact ⟨gn1,an1,cn1,zn1,gn2,an2,cn2,zn2,gn3,an3,cn3,zn3,gy1,ay1,cy1,zy1,gy2,ay2,cy2,zy2,gy3,ay3,cy3,zy3,gd,ad,cd,zd,rfl,(((HS1.out.later hB3).up (by omega)).setAll [gn1,.slice an1 zn1 cn1,gn2,.slice an2 zn2 cn2,gn3,.slice an3 zn3 cn3,gy1,.slice ay1 zy1 cy1,gy2,.slice ay2 zy2 cy2,gy3,.slice ay3 zy3 cy3,gd,.slice ad zd cd] _ 0 (HK.out _ hB3).1.iz (by simp [ζh])),σL ((Ry.out).setAll [gn1,.slice an1 zn1 cn1,gn2,.slice an2 zn2 cn2,gn3,.slice an3 zn3 cn3,gy1,.slice ay1 zy1 cy1,gy2,.slice ay2 zy2 cy2,gy3,.slice ay3 zy3 cy3,gd,.slice ad zd cd] _ 0 (HK.out _ hB3).1.iz (by simp [ζh])),((HD.out _ (HF1.out.bel.trans (hB3.mono HF1.out.bel.size)))).setAll [gn1,.slice an1 zn1 cn1,gn2,.slice an2 zn2 cn2,gn3,.slice an3 zn3 cn3,gy1,.slice ay1 zy1 cy1,gy2,.slice ay2 zy2 cy2,gy3,.slice ay3 zy3 cy3,gd,.slice ad zd cd] _ 0 (HK.out _ hB3).1.iz (by simp [ζh])⟩
  clear eWZ HK HF1 HC1 HS1
  go_wp2
  refine bodyPost_ret (v:= .agg #[gn1,.slice an1 zn1 cn1,gn2,.slice an2 zn2 cn2,gn3,.slice an3 zn3 cn3,gy1,.slice ay1 zy1 cy1,gy2,.slice ay2 zy2 cy2,gy3,.slice ay3 zy3 cy3,gd,.slice ad zd cd]) (ζy results109 rfl (HC9.out.range 0 14) underlying94 rfl (by kernel_rfl)) rfl ?_
  exact ⟨_,rfl,HL9.out,HW9.out⟩
structure CtF (w:World) (L R D Z:List Value) (W:World):Prop where
 l:Cs W w L
 r:Cs W (↑w+1) R
 d:Cs W (↑w+1+1) D
 z:Cs W (↑w+1+1+1) Z
 iz:ζf W (↑w+1+1+1)
 bel:Below w w W
theorem CtF.later {L R D Z:List Value} {W W':World} (h:CtF w L R D Z W) (hb:Below W W W'):CtF w L R D Z W':=
 ⟨h.l.later hb,h.r.later hb,h.d.later hb,h.z.later hb,h.iz.later hb,h.bel.trans (hb.mono h.bel.size)⟩
theorem CtF.start (w:World) (L R D Z:Array Value) (hZ: ∀(i:Nat) (k:IntKind) (m:Int),Z[i]? ≠some (Value.int k m)) (t0 t1 t2 t3:TypeId):CtF w L.toList R.toList D.toList Z.toList ((((w.alloc (.cells L t0)).alloc (.cells R t1)).alloc (.cells D t2)).alloc (.cells Z t3)):=by
 obtain ⟨w1,h1⟩: ∃V,V=w.alloc (.cells L t0):=⟨_,rfl⟩
 obtain ⟨w2,h2⟩: ∃V,V=w1.alloc (.cells R t1):=⟨_,rfl⟩
 obtain ⟨w3,h3⟩: ∃V,V=w2.alloc (.cells D t2):=⟨_,rfl⟩
 obtain ⟨w4,h4⟩: ∃V,V=w3.alloc (.cells Z t3):=⟨_,rfl⟩
 have e1:w1.heap.size=w.heap.size+1:=by rw [h1];simp
 have b1:Below w w w1:=by rw [h1];exact ζc _ _
 have c1:Cs w1 w L.toList:=by rw [h1];exact Cs.new _ _ _
 have e2:w2.heap.size=w.heap.size+1+1:=by rw [h2];simp [e1]
 have b2:Below w1 w1 w2:=by rw [h2];exact ζc _ _
 have c2:Cs w2 (↑w+1) R.toList:=by rw [h2,<-e1];exact Cs.new _ _ _
 have e3:w3.heap.size=w.heap.size+1+1+1:=by rw [h3];simp [e2]
 have b3:Below w2 w2 w3:=by rw [h3];exact ζc _ _
 have c3:Cs w3 (↑w+1+1) D.toList:=by rw [h3,<-e2];exact Cs.new _ _ _
 have e4:w4.heap.size=w.heap.size+1+1+1+1:=by rw [h4];simp [e3]
 have b4:Below w3 w3 w4:=by rw [h4];exact ζc _ _
 have c4:Cs w4 (↑w+1+1+1) Z.toList:=by rw [h4,<-e3];exact Cs.new _ _ _
 have n4:ζf w4 (↑w+1+1+1):=by rw [h4,<-e3];exact ζf.new _ _ _ hZ
 rw [<-h1,<-h2,<-h3,<-h4]
 exact ⟨(((c1.later b2).later b3).later b4),((c2.later b3).later b4),(c3.later b4),c4,n4,(((b1.trans (b2.mono (by omega))).trans (b3.mono (by omega))).trans (b4.mono (by omega)))⟩
theorem θj (l0 l1 l2 s0 s1 s2 s3 s4 s5:Int) (vf:Value) (e:Nat) (p q:Int) (w:World) (he:e<=20000) (hT:Tab w) (hf:ζO w vf e p q) (hp:0<=p) (hq:0<q) (j1:p<=q*2^290) (j2:p=0∨q<=p*2^850) (hB:ξD (q*2^278) (V3.sc p (pv s3 s4 s5))) (g0:Cor l0) (g1:Cor l1) (g2:Cor l2) (h0:Cor s0) (h1:Cor s1) (h2:Cor s2) (h3:Cor s3) (h4:Cor s4) (h5:Cor s5):
 Calls prog 60 #[.agg #[l0,l1,l2],.agg #[s0,s1,s2,s3,s4,s5],vf] w fun o w'=>ω4 w (277+e+1+1) e q (pnt (pv s0 s1 s2) (pv s3 s4 s5) p q) ((V3.sc q (pv l0 l1 l2)).sub (pnt (pv s0 s1 s2) (pv s3 s4 s5) p q)) o w':=by
 have hf':=hf
 obtain ⟨gx,ax,cx,zx,gz,az,cz,zz,rfl,hx,hz⟩:=hf'
 have HX:Hid (∀w',Below w w w'->ζe w' (.agg #[gx,.slice ax zx cx]) e p):=fun w' hb=>hx.later hb
 have HZ:Hid (∀w',Below w w w'->ζe w' (.agg #[gz,.slice az zz cz]) e q):=fun w' hb=>hz.later hb
 have HR:Hid (∀w',Below w w w'->ζO w' (.agg #[gx,.slice ax zx cx,gz,.slice az zz cz]) e p q):=fun w' hb=>hf.later hb
 have HT:Hid (∀w',Below w w w'->Tab w'):=fun w' hb=>hT.later hb
 have HP:Hid (0<=p∧0<q∧p<=q*2^290∧(p=0∨q<=p*2^850)):=⟨hp,hq,j1,j2⟩
 have HB:=Hid.mk hB
 clear hf hx hz hT hp hq j1 j2 hB
 go_enter func60,ntmps60
 go_wp2_with fail
 obtain ⟨W1,hW1⟩: ∃V,V=((((w.alloc (.cells #[l0,l1,l2] 34)).alloc (.cells #[s0,s1,s2,s3,s4,s5] 39)).alloc (.cells #[gx,.slice ax zx cx,gz,.slice az zz cz] 81)).alloc (.cells #[oOo,oOo,oOo,oOo,oOo,oOo,oOo,oOo,oOo,oOo,oOo,oOo,oOo,oOo,false,(),false,(),false,(),false,(),false,(),false,(),false,()] 96)):=⟨_,rfl⟩
 rw [<-hW1]
 have HF1:Hid (CtF w [l0,l1,l2] [s0,s1,s2,s3,s4,s5] [gx,.slice ax zx cx,gz,.slice az zz cz] [oOo,oOo,oOo,oOo,oOo,oOo,oOo,oOo,oOo,oOo,oOo,oOo,oOo,oOo,false,(),false,(),false,(),false,(),false,(),false,(),false,()] W1):=by unfold Hid;rw [hW1];exact CtF.start w _ _ _ _ (fun i k m=>by match i with|0=>simp|1=>simp|2=>simp|3=>simp|4=>simp|5=>simp|6=>simp|7=>simp|8=>simp|9=>simp|10=>simp|11=>simp|12=>simp|13=>simp|14=>simp|15=>simp|16=>simp|17=>simp|18=>simp|19=>simp|20=>simp|21=>simp|22=>simp|23=>simp|24=>simp|25=>simp|26=>simp|27=>simp|n+28=>simp) _ _ _ _
 clear hW1
 have HK:Hid (∀w',Below W1 W1 w'->(fun w'=>CtF w [l0,l1,l2] [s0,s1,s2,s3,s4,s5] [gx,.slice ax zx cx,gz,.slice az zz cz] [oOo,oOo,oOo,oOo,oOo,oOo,oOo,oOo,oOo,oOo,oOo,oOo,oOo,oOo,false,(),false,(),false,(),false,(),false,(),false,(),false,()] w') w'):=fun w' hb=>HF1.out.later hb
 refine ζb.rg HK 14 fun WD hBd hS=> ?_
 refine ζb.ld 0 7 34 3 w 0 [l0,l1,l2] (fun w' h=>(h.l).range 0 3) underlying34 hS ?_
 simp only [sT,sS,sZ]
 refine ζb.ld 1 8 39 4 (↑w+1) 0 [s0,s1,s2,s3,s4,s5] (fun w' h=>(h.r).range 0 6) underlying39 hS ?_
 simp only [sT,sS,sZ]
 refine ζb.ld 2 9 81 5 (↑w+1+1) 0 [gx,.slice ax zx cx,gz,.slice az zz cz] (fun w' h=>(h.d).range 0 4) underlying81 hS ?_
 simp only [sT,sS,sZ]
 refine ζb.pk 4 11 (.agg #[.float .f64 4607182418800017408,oOo]) hS ?_
 simp only [sT,sS,sZ]
 refine ζb.ld 6 13 34 3 w 0 [l0,l1,l2] (fun w' h=>(h.l).range 0 3) underlying34 hS ?_
 simp only [sT,sS,sZ]
 refine ζb.ld 7 14 39 4 (↑w+1) 0 [s0,s1,s2,s3,s4,s5] (fun w' h=>(h.r).range 0 6) underlying39 hS ?_
 simp only [sT,sS,sZ]
 refine ζb.pu 8 15 (.pointer (some ⟨↑w+1+1,0,none⟩)) hS ?_
 simp only [sT,sS,sZ]
 refine ζb.ld 9 16 31 15 (↑w+1+1) 0 [gx,.slice ax zx cx] (fun w' h=>(h.d).range 0 2) underlying31 hS ?_
 simp only [sT,sS,sZ]
 refine ζb.pu 10 17 (.pointer (some ⟨↑w+1+1,2,none⟩)) hS ?_
 simp only [sT,sS,sZ]
 refine ζb.ld 11 18 31 17 (↑w+1+1) 2 [gz,.slice az zz cz] (fun w' h=>(h.d).range 2 2) underlying31 hS ?_
 simp only [sT,sS,sZ]
 refine ζb.on 3 fun K HKK=> ?_
 go_wp2_with fail
 refine (σI _ e p q _ (by omega) (HR.out _ (HF1.out.bel.trans (hBd.mono HF1.out.bel.size))) HP.out.1 HP.out.2.1 HP.out.2.2.1 HP.out.2.2.2).mono ?_
 rintro o u1 ⟨v1,rfl,hv1,hs1⟩
 have hB1:Below W1 W1 u1:=hBd.trans (hs1.mono hBd.size)
 have Rp:=Hid.mk hv1
 obtain ⟨mp0,mp1,_,_,rfl,_,_,_,_,_⟩:=hv1
 refine HKK.out _ _ (fun _=>HK.out _ hB1) ?_
 clear HKK K
 (try simp only [Act.put])
 refine ζb.on 5 fun K HKK=> ?_
 go_wp2_with fail
 refine (θY l0 l1 l2 s0 s1 s2 s3 s4 s5 mp0 mp1 4607182418800017408 0 p q _ Rp.out σc HP.out.2.1 HB.out g0 g1 g2 h0 h1 h2 h3 h4 h5).mono ?_
 rintro o u2 ⟨v2,rfl,hv2,hs2⟩
 have hB2:Below W1 W1 u2:=hB1.trans (hs2.mono hB1.size)
 have Re:=Hid.mk hv2
 obtain ⟨me0,me1,me2,me3,me4,me5,me6,me7,me8,me9,me10,me11,me12,me13,rfl,_,_,_,_⟩:=hv2
 refine HKK.out _ _ (fun _=>HK.out _ hB2) ?_
 clear HKK K
 (try simp only [Act.put])
 refine ζb.on 12 fun K HKK=> ?_
 go_wp2_with fail
 refine (θZ l0 l1 l2 s0 s1 s2 s3 s4 s5 _ _ e p q _ (by omega) (HT.out _ (HF1.out.bel.trans (hB2.mono HF1.out.bel.size))) (HX.out _ (HF1.out.bel.trans (hB2.mono HF1.out.bel.size))) (HZ.out _ (HF1.out.bel.trans (hB2.mono HF1.out.bel.size))) g0 g1 g2 h0 h1 h2 h3 h4 h5).mono ?_
 rintro o u3 ⟨v3,rfl,hv3,hs3⟩
 have hB3:Below W1 W1 u3:=hB2.trans (hs3.mono hB2.size)
 have Rb:=Hid.mk hv3
 obtain ⟨gs1,as1,cs1,zs1,gs2,as2,cs2,zs2,gs3,as3,cs3,zs3,gt1,at1,ct1,zt1,gt2,at2,ct2,zt2,gt3,at3,ct3,zt3,gk,ak,ck,zk,rfl,_,_,_⟩:=hv3
 refine HKK.out _ _ (fun _=>HK.out _ hB3) ?_
 clear HKK K
 (try simp only [Act.put])
 have hS:=HK.out _ hB3
 refine ζb.pk 13 20 (.agg #[.float .f64 me0,.float .f64 me1,.float .f64 me2,.float .f64 me3,.float .f64 me4,.float .f64 me5,.float .f64 me6,.float .f64 me7,.float .f64 me8,.float .f64 me9,.float .f64 me10,.float .f64 me11,.float .f64 me12,.float .f64 me13,gs1,.slice as1 zs1 cs1,gs2,.slice as2 zs2 cs2,gs3,.slice as3 zs3 cs3,gt1,.slice at1 zt1 ct1,gt2,.slice at2 zt2 ct2,gt3,.slice at3 zt3 ct3,gk,.slice ak zk ck]) hS ?_
 simp only [sT,sS,sZ]
 refine ζb.on 14 fun K HKK=> ?_
 refine wp_store_mid 96 (.tmp 6) (.tmp 20) rfl (↑w+1+1+1) 0 #[.float .f64 me0,.float .f64 me1,.float .f64 me2,.float .f64 me3,.float .f64 me4,.float .f64 me5,.float .f64 me6,.float .f64 me7,.float .f64 me8,.float .f64 me9,.float .f64 me10,.float .f64 me11,.float .f64 me12,.float .f64 me13,gs1,.slice as1 zs1 cs1,gs2,.slice as2 zs2 cs2,gs3,.slice as3 zs3 cs3,gt1,.slice at1 zt1 ct1,gt2,.slice at2 zt2 ct2,gt3,.slice at3 zt3 ct3,gk,.slice ak zk ck] rfl rfl ((HK.out _ hB3).z.there 0 28 (by simp)) (by kernel_rfl) (all_oneCell_toArray (by simp [Value.oneCell'])) ?_
 refine HKK.out _ _ (fun h=>absurd rfl h) ?_
 clear HKK K hS
 refine ζb.done (by kernel_rfl) ?_
 obtain ⟨WZ,hWZ⟩: ∃V,V=World.setCells u3 (↑w+1+1+1) 0 (Array.toList #[.float .f64 me0,.float .f64 me1,.float .f64 me2,.float .f64 me3,.float .f64 me4,.float .f64 me5,.float .f64 me6,.float .f64 me7,.float .f64 me8,.float .f64 me9,.float .f64 me10,.float .f64 me11,.float .f64 me12,.float .f64 me13,gs1,.slice as1 zs1 cs1,gs2,.slice as2 zs2 cs2,gs3,.slice as3 zs3 cs3,gt1,.slice at1 zt1 ct1,gt2,.slice at2 zt2 ct2,gt3,.slice at3 zt3 ct3,gk,.slice ak zk ck]):=⟨_,rfl⟩
 rw [<-hWZ]
 have eWZ:WZ=setAll u3 (↑w+1+1+1) 0 [.float .f64 me0,.float .f64 me1,.float .f64 me2,.float .f64 me3,.float .f64 me4,.float .f64 me5,.float .f64 me6,.float .f64 me7,.float .f64 me8,.float .f64 me9,.float .f64 me10,.float .f64 me11,.float .f64 me12,.float .f64 me13,gs1,.slice as1 zs1 cs1,gs2,.slice as2 zs2 cs2,gs3,.slice as3 zs3 cs3,gt1,.slice at1 zt1 ct1,gt2,.slice at2 zt2 ct2,gt3,.slice at3 zt3 ct3,gk,.slice ak zk ck]:=by rw [hWZ];exact ζg _ _ _ _
 clear hWZ
 have HC9:Hid (Cs WZ (↑w+1+1+1) [.float .f64 me0,.float .f64 me1,.float .f64 me2,.float .f64 me3,.float .f64 me4,.float .f64 me5,.float .f64 me6,.float .f64 me7,.float .f64 me8,.float .f64 me9,.float .f64 me10,.float .f64 me11,.float .f64 me12,.float .f64 me13,gs1,.slice as1 zs1 cs1,gs2,.slice as2 zs2 cs2,gs3,.slice as3 zs3 cs3,gt1,.slice at1 zt1 ct1,gt2,.slice at2 zt2 ct2,gt3,.slice at3 zt3 ct3,gk,.slice ak zk ck]):=by unfold Hid;rw [eWZ];exact (HK.out _ hB3).z.whole _ rfl
 have HW9:Hid (Below w w WZ):=by unfold Hid;rw [eWZ];exact ζd (by omega) _ _ 0 (HF1.out.bel.trans (hB3.mono HF1.out.bel.size))
 have HL9:Hid (ξi WZ (.agg #[gs1,.slice as1 zs1 cs1,gs2,.slice as2 zs2 cs2,gs3,.slice as3 zs3 cs3,gt1,.slice at1 zt1 ct1,gt2,.slice at2 zt2 ct2,gt3,.slice at3 zt3 ct3,gk,.slice ak zk ck]) (277+e+1+1) e q (pnt (pv s0 s1 s2) (pv s3 s4 s5) p q) ((V3.sc q (pv l0 l1 l2)).sub (pnt (pv s0 s1 s2) (pv s3 s4 s5) p q))):=by unfold Hid;rw [eWZ];exact Rb.out.setAll [.float .f64 me0,.float .f64 me1,.float .f64 me2,.float .f64 me3,.float .f64 me4,.float .f64 me5,.float .f64 me6,.float .f64 me7,.float .f64 me8,.float .f64 me9,.float .f64 me10,.float .f64 me11,.float .f64 me12,.float .f64 me13,gs1,.slice as1 zs1 cs1,gs2,.slice as2 zs2 cs2,gs3,.slice as3 zs3 cs3,gt1,.slice at1 zt1 ct1,gt2,.slice at2 zt2 ct2,gt3,.slice at3 zt3 ct3,gk,.slice ak zk ck] _ 0 (HK.out _ hB3).iz (by simp [ζh])
 clear eWZ HK HF1 HX HZ HR HT HB
 go_wp2
 refine bodyPost_ret (v:= .agg #[.float .f64 me0,.float .f64 me1,.float .f64 me2,.float .f64 me3,.float .f64 me4,.float .f64 me5,.float .f64 me6,.float .f64 me7,.float .f64 me8,.float .f64 me9,.float .f64 me10,.float .f64 me11,.float .f64 me12,.float .f64 me13,gs1,.slice as1 zs1 cs1,gs2,.slice as2 zs2 cs2,gs3,.slice as3 zs3 cs3,gt1,.slice at1 zt1 ct1,gt2,.slice at2 zt2 ct2,gt3,.slice at3 zt3 ct3,gk,.slice ak zk ck]) (ζy results60 rfl (HC9.out.range 0 28) underlying96 rfl (by kernel_rfl)) rfl ?_
 exact ⟨_,rfl,⟨_,_,_,_,_,_,_,_,_,_,_,_,_,_,_,_,_,_,_,_,_,_,_,_,_,_,_,_,rfl,Re.out,HL9.out⟩,HW9.out⟩
end Go.Proofs.YtfieffpobgcpmaaGreatDoor
