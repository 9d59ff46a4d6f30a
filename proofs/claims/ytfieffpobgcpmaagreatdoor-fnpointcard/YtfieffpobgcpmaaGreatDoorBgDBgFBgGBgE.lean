import Derived.Test.YtfieffpobgcpmaaGreatDoorEsGBgCImplOneFrA
import Derived.Deep.RegionHeld3
set_option maxRecDepth 100000
set_option maxHeartbeats 32000000
namespace Go.Proofs.YtfieffpobgcpmaaGreatDoor
open Go.RowKit
structure Fbm (w:World) (m0 m1 m2 m3 m4 m5 n0 n1 n2 n3 n4 n5 p0 p1 p2 p3 p4 p5:Value) (W:World):Prop where
 e0x0:W.cell? ⟨w.heap.size,0,none⟩=some m0
 e0x1:W.cell? ⟨w.heap.size,1,none⟩=some m1
 e0x2:W.cell? ⟨w.heap.size,2,none⟩=some m2
 e0x3:W.cell? ⟨w.heap.size,3,none⟩=some m3
 e0x4:W.cell? ⟨w.heap.size,4,none⟩=some m4
 e0x5:W.cell? ⟨w.heap.size,5,none⟩=some m5
 f0: ∀j,W.frozen? ⟨w.heap.size,j,none⟩=false
 e1x0:W.cell? ⟨w.heap.size+1,0,none⟩=some n0
 e1x1:W.cell? ⟨w.heap.size+1,1,none⟩=some n1
 e1x2:W.cell? ⟨w.heap.size+1,2,none⟩=some n2
 e1x3:W.cell? ⟨w.heap.size+1,3,none⟩=some n3
 e1x4:W.cell? ⟨w.heap.size+1,4,none⟩=some n4
 e1x5:W.cell? ⟨w.heap.size+1,5,none⟩=some n5
 f1: ∀j,W.frozen? ⟨w.heap.size+1,j,none⟩=false
 e2x0:W.cell? ⟨w.heap.size+1+1,0,none⟩=some p0
 e2x1:W.cell? ⟨w.heap.size+1+1,1,none⟩=some p1
 e2x2:W.cell? ⟨w.heap.size+1+1,2,none⟩=some p2
 e2x3:W.cell? ⟨w.heap.size+1+1,3,none⟩=some p3
 e2x4:W.cell? ⟨w.heap.size+1+1,4,none⟩=some p4
 e2x5:W.cell? ⟨w.heap.size+1+1,5,none⟩=some p5
 f2: ∀j,W.frozen? ⟨w.heap.size+1+1,j,none⟩=false
 le:w.heap.size+1+1+1≤W.heap.size
 bel:Below w.heap.size w W
theorem Fbm.start (w:World) (m0 m1 m2 m3 m4 m5 n0 n1 n2 n3 n4 n5 p0 p1 p2 p3 p4 p5:Value) (t0 t1 t2:TypeId):Fbm w m0 m1 m2 m3 m4 m5 n0 n1 n2 n3 n4 n5 p0 p1 p2 p3 p4 p5 (((w.alloc (.cells #[m0,m1,m2,m3,m4,m5] t0)).alloc (.cells #[n0,n1,n2,n3,n4,n5] t1)).alloc (.cells #[p0,p1,p2,p3,p4,p5] t2)):=by
 constructor<;>first|exact (((bel0 _ _).trans ((bel0 _ _).mono (by simp<;>omega))).trans ((bel0 _ _).mono (by simp<;>omega)))|simp [go_sem]
theorem Fbm.later {w:World} {m0 m1 m2 m3 m4 m5 n0 n1 n2 n3 n4 n5 p0 p1 p2 p3 p4 p5:Value} {W W':World} (h:Fbm w m0 m1 m2 m3 m4 m5 n0 n1 n2 n3 n4 n5 p0 p1 p2 p3 p4 p5 W) (hb:Below W.heap.size W W'):Fbm w m0 m1 m2 m3 m4 m5 n0 n1 n2 n3 n4 n5 p0 p1 p2 p3 p4 p5 W':=by
 have q:=h.le
 have z:=h.bel.trans (hb.mono h.bel.size)
 cases h
 constructor<;>first|exact ((bcell hb).1 _ _ (by omega)).trans (by with_reducible assumption)|exact z|exact Nat.le_trans q hb.size| (intro j;exact ((bcell hb).2 _ _ (by omega)).trans (by apply_assumption))
theorem Fbm.set2 {w:World} {m0 m1 m2 m3 m4 m5 n0 n1 n2 n3 n4 n5 p0 p1 p2 p3 p4 p5:Value} {W:World} (h:Fbm w m0 m1 m2 m3 m4 m5 n0 n1 n2 n3 n4 n5 p0 p1 p2 p3 p4 p5 W) (v0 v1 v2 v3 v4 v5:Value):Fbm w m0 m1 m2 m3 m4 m5 n0 n1 n2 n3 n4 n5 v0 v1 v2 v3 v4 v5 ((((((W.setCell ⟨w.heap.size+1+1,0,none⟩ v0).setCell ⟨w.heap.size+1+1,1,none⟩ v1).setCell ⟨w.heap.size+1+1,2,none⟩ v2).setCell ⟨w.heap.size+1+1,3,none⟩ v3).setCell ⟨w.heap.size+1+1,4,none⟩ v4).setCell ⟨w.heap.size+1+1,5,none⟩ v5):=by
 have hle:=h.le
 constructor<;>first|exact ((((((h.bel.setCell (by simp<;>omega) _).setCell (by simp<;>omega) _).setCell (by simp<;>omega) _).setCell (by simp<;>omega) _).setCell (by simp<;>omega) _).setCell (by simp<;>omega) _)| (cases h;simp [go_sem, *])
theorem Fbm.s {w:World} {m0 m1 m2 m3 m4 m5 n0 n1 n2 n3 n4 n5 p0 p1 p2 p3 p4 p5:Value} {w':World} (h:Fbm w m0 m1 m2 m3 m4 m5 n0 n1 n2 n3 n4 n5 p0 p1 p2 p3 p4 p5 w'):w'.cell? ⟨w.heap.size,0,none⟩=some m0∧w'.cell? ⟨w.heap.size,1,none⟩=some m1∧w'.cell? ⟨w.heap.size,2,none⟩=some m2∧w'.cell? ⟨w.heap.size,3,none⟩=some m3∧w'.cell? ⟨w.heap.size,4,none⟩=some m4∧w'.cell? ⟨w.heap.size,5,none⟩=some m5∧w'.cell? ⟨w.heap.size+1,0,none⟩=some n0∧w'.cell? ⟨w.heap.size+1,1,none⟩=some n1∧w'.cell? ⟨w.heap.size+1,2,none⟩=some n2∧w'.cell? ⟨w.heap.size+1,3,none⟩=some n3∧w'.cell? ⟨w.heap.size+1,4,none⟩=some n4∧w'.cell? ⟨w.heap.size+1,5,none⟩=some n5:=⟨h.e0x0,h.e0x1,h.e0x2,h.e0x3,h.e0x4,h.e0x5,h.e1x0,h.e1x1,h.e1x2,h.e1x3,h.e1x4,h.e1x5⟩
theorem vminusG_any (u v:Value) (e:Nat) (A B C A' B' C':Int) (w:World) (he:e≤2900) (hu:VecB w u e A B C) (hv:VecB w v e A' B' C'):
 Calls Tryz.prog 135 #[u,v] w fun o w'=>VecBOut w (e+1) (A-A') (B-B') (C-C') o w':=by
 obtain ⟨gu1,au1,cu1,zu1,gu2,au2,cu2,zu2,gu3,au3,cu3,zu3,rfl,hu1,hu2,hu3⟩:=hu
 obtain ⟨gv1,av1,cv1,zv1,gv2,av2,cv2,zv2,gv3,av3,cv3,zv3,rfl,hv1,hv2,hv3⟩:=hv
 go_enter Tryz.func135,Tryz.ntmps135
 go_wp2_with fail
 obtain ⟨W0,hW0⟩: ∃V0,V0=(((w.alloc (.cells #[gu1,.slice au1 zu1.length cu1,gu2,.slice au2 zu2.length cu2,gu3,.slice au3 zu3.length cu3] 92)).alloc (.cells #[gv1,.slice av1 zv1.length cv1,gv2,.slice av2 zv2.length cv2,gv3,.slice av3 zv3.length cv3] 92)).alloc (.cells #[false,(),false,(),false,()] 92)):=⟨_,rfl⟩
 rw [←hW0]
 have FR:Hid (Fbm w gu1 (.slice au1 zu1.length cu1) gu2 (.slice au2 zu2.length cu2) gu3 (.slice au3 zu3.length cu3) gv1 (.slice av1 zv1.length cv1) gv2 (.slice av2 zv2.length cv2) gv3 (.slice av3 zv3.length cv3) false () false () false () W0):=by rw [hW0];exact Fbm.start w _ _ _ _ _ _ _ _ _ _ _ _ _ _ _ _ _ _ _ _ _
 have HNI:Hid (NoInt W0 (w.heap.size+1+1)):=by
  have hz: ∀(i:Nat) (k:IntKind) (m:Int),(#[↑false,↑(),↑false,↑(),↑false,↑()]:Array Value)[i]? ≠some (Value.int k m):=by
   intro i k m
   match i with|0=>simp|1=>simp|2=>simp|3=>simp|4=>simp|5=>simp|n+6=>simp
  have h1:=NoInt.new ((w.alloc (.cells #[gu1,.slice au1 zu1.length cu1,gu2,.slice au2 zu2.length cu2,gu3,.slice au3 zu3.length cu3] 92)).alloc (.cells #[gv1,.slice av1 zv1.length cv1,gv2,.slice av2 zv2.length cv2,gv3,.slice av3 zv3.length cv3] 92)) #[false,(),false,(),false,()] 92 hz
  have hs:((w.alloc (.cells #[gu1,.slice au1 zu1.length cu1,gu2,.slice au2 zu2.length cu2,gu3,.slice au3 zu3.length cu3] 92)).alloc (.cells #[gv1,.slice av1 zv1.length cv1,gv2,.slice av2 zv2.length cv2,gv3,.slice av3 zv3.length cv3] 92)).heap.size=w.heap.size+1+1:=by simp
  rw [hs] at h1
  unfold Hid;rw [hW0];exact h1
 clear hW0
 have hmt1: ∀(r:Value) (w:World),_:=fun r w=>(methB r w).1
 have U1_0:=(hu1.later FR.out.bel).later (w':=W0.drew) (Below.refl _ _).drew
 have U2_0:=(hu2.later FR.out.bel).later (w':=W0.drew) (Below.refl _ _).drew
 have U3_0:=(hu3.later FR.out.bel).later (w':=W0.drew) (Below.refl _ _).drew
 have V1_0:=(hv1.later FR.out.bel).later (w':=W0.drew) (Below.refl _ _).drew
 have V2_0:=(hv2.later FR.out.bel).later (w':=W0.drew) (Below.refl _ _).drew
 have V3_0:=(hv3.later FR.out.bel).later (w':=W0.drew) (Below.refl _ _).drew
 have NI_0:=HNI.out.later (w':=W0.drew) (Below.refl _ _).drew
 have F0:Fbm w gu1 (.slice au1 zu1.length cu1) gu2 (.slice au2 zu2.length cu2) gu3 (.slice au3 zu3.length cu3) gv1 (.slice av1 zv1.length cv1) gv2 (.slice av2 zv2.length cv2) gv3 (.slice av3 zv3.length cv3) false () false () false () W0.drew:=FR.out.later (Below.refl _ _).drew
 go_region_held3 (fun w'=>w'.cell? ⟨w.heap.size,0,none⟩=some ↑gu1∧w'.cell? ⟨w.heap.size,1,none⟩=some (.slice au1 zu1.length cu1)∧w'.cell? ⟨w.heap.size,2,none⟩=some ↑gu2∧w'.cell? ⟨w.heap.size,3,none⟩=some (.slice au2 zu2.length cu2)∧w'.cell? ⟨w.heap.size,4,none⟩=some ↑gu3∧w'.cell? ⟨w.heap.size,5,none⟩=some (.slice au3 zu3.length cu3)∧w'.cell? ⟨w.heap.size+1,0,none⟩=some ↑gv1∧w'.cell? ⟨w.heap.size+1,1,none⟩=some (.slice av1 zv1.length cv1)∧w'.cell? ⟨w.heap.size+1,2,none⟩=some ↑gv2∧w'.cell? ⟨w.heap.size+1,3,none⟩=some (.slice av2 zv2.length cv2)∧w'.cell? ⟨w.heap.size+1,4,none⟩=some ↑gv3∧w'.cell? ⟨w.heap.size+1,5,none⟩=some (.slice av3 zv3.length cv3))
  (first|with_reducible exact (F3.set2 _ _ _ _ _ _).s|with_reducible exact Fbm.s (by with_reducible assumption))
  (first
   |(have hBB:=hB2;clear hBB;go_at_call 199;refine (minusG_any _ _ e C C' _ (by omega) U3_2 V3_2).mono ?_;rintro o w3 ⟨v3,rfl,hv3,hb3⟩;have R3_3:BigIs w3 v3 (e+1) (C-C'):=hv3;obtain ⟨gr3,ar3,cr3,zr3,rfl,_,_,_⟩:=hv3;have U1_3:=U1_2.later hb3;have U2_3:=U2_2.later hb3;have U3_3:=U3_2.later hb3;have V1_3:=V1_2.later hb3;have V2_3:=V2_2.later hb3;have V3_3:=V3_2.later hb3;have NI_3:=NI_2.later hb3;have R1_3:=R1_2.later hb3;have R2_3:=R2_2.later hb3;have hB3:Below W0.heap.size W0 w3:=hB2.trans (hb3.mono hB2.size);have F3:Fbm w gu1 (.slice au1 zu1.length cu1) gu2 (.slice au2 zu2.length cu2) gu3 (.slice au3 zu3.length cu3) gv1 (.slice av1 zv1.length cv1) gv2 (.slice av2 zv2.length cv2) gv3 (.slice av3 zv3.length cv3) false () false () false () w3:=FR.out.later hB3;have r0:=F3.e2x0;have r1:=F3.e2x1;have r2:=F3.e2x2;have r3:=F3.e2x3;have r4:=F3.e2x4;have r5:=F3.e2x5;have rz:=F3.f2)
   |(have hBB:=hB1;clear hBB;go_at_call 199;refine (minusG_any _ _ e B B' _ (by omega) U2_1 V2_1).mono ?_;rintro o w2 ⟨v2,rfl,hv2,hb2⟩;have R2_2:BigIs w2 v2 (e+1) (B-B'):=hv2;obtain ⟨gr2,ar2,cr2,zr2,rfl,_,_,_⟩:=hv2;have U1_2:=U1_1.later hb2;have U2_2:=U2_1.later hb2;have U3_2:=U3_1.later hb2;have V1_2:=V1_1.later hb2;have V2_2:=V2_1.later hb2;have V3_2:=V3_1.later hb2;have NI_2:=NI_1.later hb2;have R1_2:=R1_1.later hb2;have hB2:Below W0.heap.size W0 w2:=hB1.trans (hb2.mono hB1.size);have F2:Fbm w gu1 (.slice au1 zu1.length cu1) gu2 (.slice au2 zu2.length cu2) gu3 (.slice au3 zu3.length cu3) gv1 (.slice av1 zv1.length cv1) gv2 (.slice av2 zv2.length cv2) gv3 (.slice av3 zv3.length cv3) false () false () false () w2:=FR.out.later hB2)
   |(go_at_call 199;refine (minusG_any _ _ e A A' _ (by omega) U1_0 V1_0).mono ?_;rintro o w1 ⟨v1,rfl,hv1,hb1⟩;have R1_1:BigIs w1 v1 (e+1) (A-A'):=hv1;obtain ⟨gr1,ar1,cr1,zr1,rfl,_,_,_⟩:=hv1;have U1_1:=U1_0.later hb1;have U2_1:=U2_0.later hb1;have U3_1:=U3_0.later hb1;have V1_1:=V1_0.later hb1;have V2_1:=V2_0.later hb1;have V3_1:=V3_0.later hb1;have NI_1:=NI_0.later hb1;have hB1:Below W0.heap.size W0 w1:=(Below.refl _ _).drew.trans hb1;have F1:Fbm w gu1 (.slice au1 zu1.length cu1) gu2 (.slice au2 zu2.length cu2) gu3 (.slice au3 zu3.length cu3) gv1 (.slice av1 zv1.length cv1) gv2 (.slice av2 zv2.length cv2) gv3 (.slice av3 zv3.length cv3) false () false () false () w1:=FR.out.later hB1))
 have HF:Hid (Fbm w gu1 (.slice au1 zu1.length cu1) gu2 (.slice au2 zu2.length cu2) gu3 (.slice au3 zu3.length cu3) gv1 (.slice av1 zv1.length cv1) gv2 (.slice av2 zv2.length cv2) gv3 (.slice av3 zv3.length cv3) false () false () false () w3):=F3
 have HR1:Hid (BigIs w3 (.agg #[gr1,.slice ar1 zr1.length cr1]) (e+1) (A-A')):=R1_3
 have HR2:Hid (BigIs w3 (.agg #[gr2,.slice ar2 zr2.length cr2]) (e+1) (B-B')):=R2_3
 have HR3:Hid (BigIs w3 (.agg #[gr3,.slice ar3 zr3.length cr3]) (e+1) (C-C')):=R3_3
 have HNN:Hid (NoInt w3 (w.heap.size+1+1)):=NI_3
 clear hB1 hb1 F1 hB2 hb2 F2 hB3 hb3 F3 U1_0 U1_1 U1_2 U1_3 U2_0 U2_1 U2_2 U2_3 U3_0 U3_1 U3_2 U3_3 V1_0 V1_1 V1_2 V1_3 V2_0 V2_1 V2_2 V2_3 V3_0 V3_1 V3_2 V3_3 NI_0 NI_1 NI_2 NI_3 R1_1 R1_2 R1_3 R2_2 R2_3 R3_3 F0
 go_wp2
 refine bodyPost_ret (v:= .agg #[gr1,.slice ar1 zr1.length cr1,gr2,.slice ar2 zr2.length cr2,gr3,.slice ar3 zr3.length cr3]) (by simp [results,Tryz.results135,go_sem,r0,r1,r2,r3,r4,r5]) rfl ?_
 refine ⟨_,rfl,⟨gr1,ar1,cr1,zr1,gr2,ar2,cr2,zr2,gr3,ar3,cr3,zr3,rfl,HR1.out.setAll [gr1,.slice ar1 zr1.length cr1,gr2,.slice ar2 zr2.length cr2,gr3,.slice ar3 zr3.length cr3] _ 0 HNN.out (by simp [NotInt]),HR2.out.setAll [gr1,.slice ar1 zr1.length cr1,gr2,.slice ar2 zr2.length cr2,gr3,.slice ar3 zr3.length cr3] _ 0 HNN.out (by simp [NotInt]),HR3.out.setAll [gr1,.slice ar1 zr1.length cr1,gr2,.slice ar2 zr2.length cr2,gr3,.slice ar3 zr3.length cr3] _ 0 HNN.out (by simp [NotInt])⟩,?_⟩
 exact (HF.out.set2 _ _ _ _ _ _).bel
structure Fbd (w:World) (m0 m1 m2 m3 m4 m5 n0 n1 n2 n3 n4 n5 p0 p1:Value) (W:World):Prop where
 e0x0:W.cell? ⟨w.heap.size,0,none⟩=some m0
 e0x1:W.cell? ⟨w.heap.size,1,none⟩=some m1
 e0x2:W.cell? ⟨w.heap.size,2,none⟩=some m2
 e0x3:W.cell? ⟨w.heap.size,3,none⟩=some m3
 e0x4:W.cell? ⟨w.heap.size,4,none⟩=some m4
 e0x5:W.cell? ⟨w.heap.size,5,none⟩=some m5
 f0: ∀j,W.frozen? ⟨w.heap.size,j,none⟩=false
 e1x0:W.cell? ⟨w.heap.size+1,0,none⟩=some n0
 e1x1:W.cell? ⟨w.heap.size+1,1,none⟩=some n1
 e1x2:W.cell? ⟨w.heap.size+1,2,none⟩=some n2
 e1x3:W.cell? ⟨w.heap.size+1,3,none⟩=some n3
 e1x4:W.cell? ⟨w.heap.size+1,4,none⟩=some n4
 e1x5:W.cell? ⟨w.heap.size+1,5,none⟩=some n5
 f1: ∀j,W.frozen? ⟨w.heap.size+1,j,none⟩=false
 e2x0:W.cell? ⟨w.heap.size+1+1,0,none⟩=some p0
 e2x1:W.cell? ⟨w.heap.size+1+1,1,none⟩=some p1
 f2: ∀j,W.frozen? ⟨w.heap.size+1+1,j,none⟩=false
 le:w.heap.size+1+1+1≤W.heap.size
 bel:Below w.heap.size w W
theorem Fbd.start (w:World) (m0 m1 m2 m3 m4 m5 n0 n1 n2 n3 n4 n5 p0 p1:Value) (t0 t1 t2:TypeId):Fbd w m0 m1 m2 m3 m4 m5 n0 n1 n2 n3 n4 n5 p0 p1 (((w.alloc (.cells #[m0,m1,m2,m3,m4,m5] t0)).alloc (.cells #[n0,n1,n2,n3,n4,n5] t1)).alloc (.cells #[p0,p1] t2)):=by
 constructor<;>first|exact (((bel0 _ _).trans ((bel0 _ _).mono (by simp<;>omega))).trans ((bel0 _ _).mono (by simp<;>omega)))|simp [go_sem]
theorem Fbd.later {w:World} {m0 m1 m2 m3 m4 m5 n0 n1 n2 n3 n4 n5 p0 p1:Value} {W W':World} (h:Fbd w m0 m1 m2 m3 m4 m5 n0 n1 n2 n3 n4 n5 p0 p1 W) (hb:Below W.heap.size W W'):Fbd w m0 m1 m2 m3 m4 m5 n0 n1 n2 n3 n4 n5 p0 p1 W':=by
 have q:=h.le
 have z:=h.bel.trans (hb.mono h.bel.size)
 cases h
 constructor<;>first|exact ((bcell hb).1 _ _ (by omega)).trans (by with_reducible assumption)|exact z|exact Nat.le_trans q hb.size| (intro j;exact ((bcell hb).2 _ _ (by omega)).trans (by apply_assumption))
theorem Fbd.set2 {w:World} {m0 m1 m2 m3 m4 m5 n0 n1 n2 n3 n4 n5 p0 p1:Value} {W:World} (h:Fbd w m0 m1 m2 m3 m4 m5 n0 n1 n2 n3 n4 n5 p0 p1 W) (v0 v1:Value):Fbd w m0 m1 m2 m3 m4 m5 n0 n1 n2 n3 n4 n5 v0 v1 ((W.setCell ⟨w.heap.size+1+1,0,none⟩ v0).setCell ⟨w.heap.size+1+1,1,none⟩ v1):=by
 have hle:=h.le
 constructor<;>first|exact ((h.bel.setCell (by simp<;>omega) _).setCell (by simp<;>omega) _)| (cases h;simp [go_sem, *])
theorem Fbd.s {w:World} {m0 m1 m2 m3 m4 m5 n0 n1 n2 n3 n4 n5 p0 p1:Value} {w':World} (h:Fbd w m0 m1 m2 m3 m4 m5 n0 n1 n2 n3 n4 n5 p0 p1 w'):w'.cell? ⟨w.heap.size,0,none⟩=some m0∧w'.cell? ⟨w.heap.size,1,none⟩=some m1∧w'.cell? ⟨w.heap.size,2,none⟩=some m2∧w'.cell? ⟨w.heap.size,3,none⟩=some m3∧w'.cell? ⟨w.heap.size,4,none⟩=some m4∧w'.cell? ⟨w.heap.size,5,none⟩=some m5∧w'.cell? ⟨w.heap.size+1,0,none⟩=some n0∧w'.cell? ⟨w.heap.size+1,1,none⟩=some n1∧w'.cell? ⟨w.heap.size+1,2,none⟩=some n2∧w'.cell? ⟨w.heap.size+1,3,none⟩=some n3∧w'.cell? ⟨w.heap.size+1,4,none⟩=some n4∧w'.cell? ⟨w.heap.size+1,5,none⟩=some n5:=⟨h.e0x0,h.e0x1,h.e0x2,h.e0x3,h.e0x4,h.e0x5,h.e1x0,h.e1x1,h.e1x2,h.e1x3,h.e1x4,h.e1x5⟩
structure Fbs (w:World) (m0 m1 m2 m3 m4 m5 n0 n1 p0 p1 p2 p3 p4 p5:Value) (W:World):Prop where
 e0x0:W.cell? ⟨w.heap.size,0,none⟩=some m0
 e0x1:W.cell? ⟨w.heap.size,1,none⟩=some m1
 e0x2:W.cell? ⟨w.heap.size,2,none⟩=some m2
 e0x3:W.cell? ⟨w.heap.size,3,none⟩=some m3
 e0x4:W.cell? ⟨w.heap.size,4,none⟩=some m4
 e0x5:W.cell? ⟨w.heap.size,5,none⟩=some m5
 f0: ∀j,W.frozen? ⟨w.heap.size,j,none⟩=false
 e1x0:W.cell? ⟨w.heap.size+1,0,none⟩=some n0
 e1x1:W.cell? ⟨w.heap.size+1,1,none⟩=some n1
 f1: ∀j,W.frozen? ⟨w.heap.size+1,j,none⟩=false
 e2x0:W.cell? ⟨w.heap.size+1+1,0,none⟩=some p0
 e2x1:W.cell? ⟨w.heap.size+1+1,1,none⟩=some p1
 e2x2:W.cell? ⟨w.heap.size+1+1,2,none⟩=some p2
 e2x3:W.cell? ⟨w.heap.size+1+1,3,none⟩=some p3
 e2x4:W.cell? ⟨w.heap.size+1+1,4,none⟩=some p4
 e2x5:W.cell? ⟨w.heap.size+1+1,5,none⟩=some p5
 f2: ∀j,W.frozen? ⟨w.heap.size+1+1,j,none⟩=false
 le:w.heap.size+1+1+1≤W.heap.size
 bel:Below w.heap.size w W
theorem Fbs.start (w:World) (m0 m1 m2 m3 m4 m5 n0 n1 p0 p1 p2 p3 p4 p5:Value) (t0 t1 t2:TypeId):Fbs w m0 m1 m2 m3 m4 m5 n0 n1 p0 p1 p2 p3 p4 p5 (((w.alloc (.cells #[m0,m1,m2,m3,m4,m5] t0)).alloc (.cells #[n0,n1] t1)).alloc (.cells #[p0,p1,p2,p3,p4,p5] t2)):=by
 constructor<;>first|exact (((bel0 _ _).trans ((bel0 _ _).mono (by simp<;>omega))).trans ((bel0 _ _).mono (by simp<;>omega)))|simp [go_sem]
theorem Fbs.later {w:World} {m0 m1 m2 m3 m4 m5 n0 n1 p0 p1 p2 p3 p4 p5:Value} {W W':World} (h:Fbs w m0 m1 m2 m3 m4 m5 n0 n1 p0 p1 p2 p3 p4 p5 W) (hb:Below W.heap.size W W'):Fbs w m0 m1 m2 m3 m4 m5 n0 n1 p0 p1 p2 p3 p4 p5 W':=by
 have q:=h.le
 have z:=h.bel.trans (hb.mono h.bel.size)
 cases h
 constructor<;>first|exact ((bcell hb).1 _ _ (by omega)).trans (by with_reducible assumption)|exact z|exact Nat.le_trans q hb.size| (intro j;exact ((bcell hb).2 _ _ (by omega)).trans (by apply_assumption))
theorem Fbs.set2 {w:World} {m0 m1 m2 m3 m4 m5 n0 n1 p0 p1 p2 p3 p4 p5:Value} {W:World} (h:Fbs w m0 m1 m2 m3 m4 m5 n0 n1 p0 p1 p2 p3 p4 p5 W) (v0 v1 v2 v3 v4 v5:Value):Fbs w m0 m1 m2 m3 m4 m5 n0 n1 v0 v1 v2 v3 v4 v5 ((((((W.setCell ⟨w.heap.size+1+1,0,none⟩ v0).setCell ⟨w.heap.size+1+1,1,none⟩ v1).setCell ⟨w.heap.size+1+1,2,none⟩ v2).setCell ⟨w.heap.size+1+1,3,none⟩ v3).setCell ⟨w.heap.size+1+1,4,none⟩ v4).setCell ⟨w.heap.size+1+1,5,none⟩ v5):=by
 have hle:=h.le
 constructor<;>first|exact ((((((h.bel.setCell (by simp<;>omega) _).setCell (by simp<;>omega) _).setCell (by simp<;>omega) _).setCell (by simp<;>omega) _).setCell (by simp<;>omega) _).setCell (by simp<;>omega) _)| (cases h;simp [go_sem, *])
theorem Fbs.s {w:World} {m0 m1 m2 m3 m4 m5 n0 n1 p0 p1 p2 p3 p4 p5:Value} {w':World} (h:Fbs w m0 m1 m2 m3 m4 m5 n0 n1 p0 p1 p2 p3 p4 p5 w'):w'.cell? ⟨w.heap.size,0,none⟩=some m0∧w'.cell? ⟨w.heap.size,1,none⟩=some m1∧w'.cell? ⟨w.heap.size,2,none⟩=some m2∧w'.cell? ⟨w.heap.size,3,none⟩=some m3∧w'.cell? ⟨w.heap.size,4,none⟩=some m4∧w'.cell? ⟨w.heap.size,5,none⟩=some m5∧w'.cell? ⟨w.heap.size+1,0,none⟩=some n0∧w'.cell? ⟨w.heap.size+1,1,none⟩=some n1:=⟨h.e0x0,h.e0x1,h.e0x2,h.e0x3,h.e0x4,h.e0x5,h.e1x0,h.e1x1⟩
theorem vscaledG_any (u v:Value) (e f:Nat) (A B C D:Int) (w:World) (he:e+f≤2900) (hu:VecB w u e A B C) (hv:BigIs w v f D):
 Calls Tryz.prog 153 #[u,v] w fun o w'=>VecBOut w (e+f) (A*D) (B*D) (C*D) o w':=by
 obtain ⟨gu1,au1,cu1,zu1,gu2,au2,cu2,zu2,gu3,au3,cu3,zu3,rfl,hu1,hu2,hu3⟩:=hu
 have hd:=hv
 obtain ⟨gd,ad,cd,zd,rfl,_,_,_⟩:=hv
 go_enter Tryz.func153,Tryz.ntmps153
 go_wp2_with fail
 obtain ⟨W0,hW0⟩: ∃V0,V0=(((w.alloc (.cells #[gu1,.slice au1 zu1.length cu1,gu2,.slice au2 zu2.length cu2,gu3,.slice au3 zu3.length cu3] 92)).alloc (.cells #[gd,.slice ad zd.length cd] 31)).alloc (.cells #[false,(),false,(),false,()] 92)):=⟨_,rfl⟩
 rw [←hW0]
 have FR:Hid (Fbs w gu1 (.slice au1 zu1.length cu1) gu2 (.slice au2 zu2.length cu2) gu3 (.slice au3 zu3.length cu3) gd (.slice ad zd.length cd) false () false () false () W0):=by rw [hW0];exact Fbs.start w _ _ _ _ _ _ _ _ _ _ _ _ _ _ _ _ _
 have HNI:Hid (NoInt W0 (w.heap.size+1+1)):=by
  have hz: ∀(i:Nat) (k:IntKind) (m:Int),(#[↑false,↑(),↑false,↑(),↑false,↑()]:Array Value)[i]? ≠some (Value.int k m):=by
   intro i k m
   match i with|0=>simp|1=>simp|2=>simp|3=>simp|4=>simp|5=>simp|n+6=>simp
  have h1:=NoInt.new ((w.alloc (.cells #[gu1,.slice au1 zu1.length cu1,gu2,.slice au2 zu2.length cu2,gu3,.slice au3 zu3.length cu3] 92)).alloc (.cells #[gd,.slice ad zd.length cd] 31)) #[false,(),false,(),false,()] 92 hz
  have hs:((w.alloc (.cells #[gu1,.slice au1 zu1.length cu1,gu2,.slice au2 zu2.length cu2,gu3,.slice au3 zu3.length cu3] 92)).alloc (.cells #[gd,.slice ad zd.length cd] 31)).heap.size=w.heap.size+1+1:=by simp
  rw [hs] at h1
  unfold Hid;rw [hW0];exact h1
 clear hW0
 have hmt2_2_1: ∀(r:Value) (w:World),_:=fun r w=>(methB r w).2.2.1
 have U1_0:=(hu1.later FR.out.bel).later (w':=W0.drew) (Below.refl _ _).drew
 have U2_0:=(hu2.later FR.out.bel).later (w':=W0.drew) (Below.refl _ _).drew
 have U3_0:=(hu3.later FR.out.bel).later (w':=W0.drew) (Below.refl _ _).drew
 have DD_0:=(hd.later FR.out.bel).later (w':=W0.drew) (Below.refl _ _).drew
 have NI_0:=HNI.out.later (w':=W0.drew) (Below.refl _ _).drew
 have F0:Fbs w gu1 (.slice au1 zu1.length cu1) gu2 (.slice au2 zu2.length cu2) gu3 (.slice au3 zu3.length cu3) gd (.slice ad zd.length cd) false () false () false () W0.drew:=FR.out.later (Below.refl _ _).drew
 go_region_held3 (fun w'=>w'.cell? ⟨w.heap.size,0,none⟩=some ↑gu1∧w'.cell? ⟨w.heap.size,1,none⟩=some (.slice au1 zu1.length cu1)∧w'.cell? ⟨w.heap.size,2,none⟩=some ↑gu2∧w'.cell? ⟨w.heap.size,3,none⟩=some (.slice au2 zu2.length cu2)∧w'.cell? ⟨w.heap.size,4,none⟩=some ↑gu3∧w'.cell? ⟨w.heap.size,5,none⟩=some (.slice au3 zu3.length cu3)∧w'.cell? ⟨w.heap.size+1,0,none⟩=some ↑gd∧w'.cell? ⟨w.heap.size+1,1,none⟩=some (.slice ad zd.length cd))
  (first|with_reducible exact (F3.set2 _ _ _ _ _ _).s|with_reducible exact Fbs.s (by with_reducible assumption))
  (first
   |(have hBB:=hB2;clear hBB;go_at_call 53;refine (timesG_any _ _ e f C D _ (by omega) U3_2 DD_2).mono ?_;rintro o w3 ⟨v3,rfl,hv3,hb3⟩;have R3_3:BigIs w3 v3 (e+f) (C*D):=hv3;obtain ⟨gr3,ar3,cr3,zr3,rfl,_,_,_⟩:=hv3;have U1_3:=U1_2.later hb3;have U2_3:=U2_2.later hb3;have U3_3:=U3_2.later hb3;have DD_3:=DD_2.later hb3;have NI_3:=NI_2.later hb3;have R1_3:=R1_2.later hb3;have R2_3:=R2_2.later hb3;have hB3:Below W0.heap.size W0 w3:=hB2.trans (hb3.mono hB2.size);have F3:Fbs w gu1 (.slice au1 zu1.length cu1) gu2 (.slice au2 zu2.length cu2) gu3 (.slice au3 zu3.length cu3) gd (.slice ad zd.length cd) false () false () false () w3:=FR.out.later hB3;have r0:=F3.e2x0;have r1:=F3.e2x1;have r2:=F3.e2x2;have r3:=F3.e2x3;have r4:=F3.e2x4;have r5:=F3.e2x5;have rz:=F3.f2)
   |(have hBB:=hB1;clear hBB;go_at_call 53;refine (timesG_any _ _ e f B D _ (by omega) U2_1 DD_1).mono ?_;rintro o w2 ⟨v2,rfl,hv2,hb2⟩;have R2_2:BigIs w2 v2 (e+f) (B*D):=hv2;obtain ⟨gr2,ar2,cr2,zr2,rfl,_,_,_⟩:=hv2;have U1_2:=U1_1.later hb2;have U2_2:=U2_1.later hb2;have U3_2:=U3_1.later hb2;have DD_2:=DD_1.later hb2;have NI_2:=NI_1.later hb2;have R1_2:=R1_1.later hb2;have hB2:Below W0.heap.size W0 w2:=hB1.trans (hb2.mono hB1.size);have F2:Fbs w gu1 (.slice au1 zu1.length cu1) gu2 (.slice au2 zu2.length cu2) gu3 (.slice au3 zu3.length cu3) gd (.slice ad zd.length cd) false () false () false () w2:=FR.out.later hB2)
   |(go_at_call 53;refine (timesG_any _ _ e f A D _ (by omega) U1_0 DD_0).mono ?_;rintro o w1 ⟨v1,rfl,hv1,hb1⟩;have R1_1:BigIs w1 v1 (e+f) (A*D):=hv1;obtain ⟨gr1,ar1,cr1,zr1,rfl,_,_,_⟩:=hv1;have U1_1:=U1_0.later hb1;have U2_1:=U2_0.later hb1;have U3_1:=U3_0.later hb1;have DD_1:=DD_0.later hb1;have NI_1:=NI_0.later hb1;have hB1:Below W0.heap.size W0 w1:=(Below.refl _ _).drew.trans hb1;have F1:Fbs w gu1 (.slice au1 zu1.length cu1) gu2 (.slice au2 zu2.length cu2) gu3 (.slice au3 zu3.length cu3) gd (.slice ad zd.length cd) false () false () false () w1:=FR.out.later hB1))
 have HF:Hid (Fbs w gu1 (.slice au1 zu1.length cu1) gu2 (.slice au2 zu2.length cu2) gu3 (.slice au3 zu3.length cu3) gd (.slice ad zd.length cd) false () false () false () w3):=F3
 have HR1:Hid (BigIs w3 (.agg #[gr1,.slice ar1 zr1.length cr1]) (e+f) (A*D)):=R1_3
 have HR2:Hid (BigIs w3 (.agg #[gr2,.slice ar2 zr2.length cr2]) (e+f) (B*D)):=R2_3
 have HR3:Hid (BigIs w3 (.agg #[gr3,.slice ar3 zr3.length cr3]) (e+f) (C*D)):=R3_3
 have HNN:Hid (NoInt w3 (w.heap.size+1+1)):=NI_3
 clear hB1 hb1 F1 hB2 hb2 F2 hB3 hb3 F3 U1_0 U1_1 U1_2 U1_3 U2_0 U2_1 U2_2 U2_3 U3_0 U3_1 U3_2 U3_3 DD_0 DD_1 DD_2 DD_3 NI_0 NI_1 NI_2 NI_3 R1_1 R1_2 R1_3 R2_2 R2_3 R3_3 F0
 go_wp2
 refine bodyPost_ret (v:= .agg #[gr1,.slice ar1 zr1.length cr1,gr2,.slice ar2 zr2.length cr2,gr3,.slice ar3 zr3.length cr3]) (by simp [results,Tryz.results153,go_sem,r0,r1,r2,r3,r4,r5]) rfl ?_
 refine ⟨_,rfl,⟨gr1,ar1,cr1,zr1,gr2,ar2,cr2,zr2,gr3,ar3,cr3,zr3,rfl,HR1.out.setAll [gr1,.slice ar1 zr1.length cr1,gr2,.slice ar2 zr2.length cr2,gr3,.slice ar3 zr3.length cr3] _ 0 HNN.out (by simp [NotInt]),HR2.out.setAll [gr1,.slice ar1 zr1.length cr1,gr2,.slice ar2 zr2.length cr2,gr3,.slice ar3 zr3.length cr3] _ 0 HNN.out (by simp [NotInt]),HR3.out.setAll [gr1,.slice ar1 zr1.length cr1,gr2,.slice ar2 zr2.length cr2,gr3,.slice ar3 zr3.length cr3] _ 0 HNN.out (by simp [NotInt])⟩,?_⟩
 exact (HF.out.set2 _ _ _ _ _ _).bel
end Go.Proofs.YtfieffpobgcpmaaGreatDoor
