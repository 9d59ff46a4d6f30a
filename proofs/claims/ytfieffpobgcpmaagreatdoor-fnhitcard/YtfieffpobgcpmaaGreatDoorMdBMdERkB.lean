import Derived.Test.YtfieffpobgcpmaaGreatDoorSpecMToMdD
import Derived.Deep.RegionHeld3
import Derived.Test.YtfieffpobgcpmaaGreatDoorBgNCsAReARkACoA
import Derived.Test.YtfieffpobgcpmaaGreatDoorFwAQ
set_option maxRecDepth 100000
set_option maxHeartbeats 32000000
namespace Go.Proofs.YtfieffpobgcpmaaGreatDoor
open Go.RowKit
def VecM (w:World) (v:Value) (n:Nat) (A B C:Int):Prop:= ∃(g1:Bool) (a1:Option Addr) (c1:Nat) (z1:List Int) (g2:Bool) (a2:Option Addr) (c2:Nat) (z2:List Int) (g3:Bool) (a3:Option Addr) (c3:Nat) (z3:List Int),v= .agg #[g1,.slice a1 z1.length c1,g2,.slice a2 z2.length c2,g3,.slice a3 z3.length c3]∧MIs w (.agg #[g1,.slice a1 z1.length c1]) n A∧MIs w (.agg #[g2,.slice a2 z2.length c2]) n B∧MIs w (.agg #[g3,.slice a3 z3.length c3]) n C
def VecMOut (w:World) (n:Nat) (A B C:Int) (o:Ending) (w':World):Prop:= ∃v,o= .returned v∧VecM w' v n A B C∧Below w.heap.size w w'
theorem VecM.later {w w':World} {v:Value} {n:Nat} {A B C:Int} (h:VecM w v n A B C) (hb:Below w.heap.size w w'):VecM w' v n A B C:=by
 obtain ⟨g1,a1,c1,z1,g2,a2,c2,z2,g3,a3,c3,z3,rfl,h1,h2,h3⟩:=h
 exact ⟨g1,a1,c1,z1,g2,a2,c2,z2,g3,a3,c3,z3,rfl,h1.later hb,h2.later hb,h3.later hb⟩
theorem VecM.setAll {v:Value} {n:Nat} {A B C:Int} {b:Nat} (us:List Value) (w:World) (i:Nat) (h:VecM w v n A B C) (hn:NoInt w b) (hu: ∀u∈us,NotInt u):VecM (Go.Proofs.YtfieffpobgcpmaaGreatDoor.setAll w b i us) v n A B C:=by
 obtain ⟨g1,a1,c1,z1,g2,a2,c2,z2,g3,a3,c3,z3,rfl,h1,h2,h3⟩:=h
 exact ⟨g1,a1,c1,z1,g2,a2,c2,z2,g3,a3,c3,z3,rfl,h1.setAll us w i hn hu,h2.setAll us w i hn hu,h3.setAll us w i hn hu⟩
structure Fms (w:World) (m0 m1 m2 m3 m4 m5 n0 n1 n2 n3 n4 n5 p0 p1 p2 p3 p4 p5:Value) (W:World):Prop where
 e0x0:W.cell? ⟨w.heap.size,0,none⟩=some m0
 e0x1:W.cell? ⟨w.heap.size,1,none⟩=some m1
 e0x2:W.cell? ⟨w.heap.size,2,none⟩=some m2
 e0x3:W.cell? ⟨w.heap.size,3,none⟩=some m3
 e0x4:W.cell? ⟨w.heap.size,4,none⟩=some m4
 e0x5:W.cell? ⟨w.heap.size,5,none⟩=some m5
 f0: ∀j,W.frozen? ⟨w.heap.size,j,none⟩=false
 e1x0:W.cell? ⟨w.heap.size+1,0,none⟩=some n0
 e1x1:W.cell? ⟨w.heap.size+1,1,none⟩=some n1
 e1x2:W.cell? ⟨w.heap.size+1,2,none⟩=some n2
 e1x3:W.cell? ⟨w.heap.size+1,3,none⟩=some n3
 e1x4:W.cell? ⟨w.heap.size+1,4,none⟩=some n4
 e1x5:W.cell? ⟨w.heap.size+1,5,none⟩=some n5
 f1: ∀j,W.frozen? ⟨w.heap.size+1,j,none⟩=false
 e2x0:W.cell? ⟨w.heap.size+1+1,0,none⟩=some p0
 e2x1:W.cell? ⟨w.heap.size+1+1,1,none⟩=some p1
 e2x2:W.cell? ⟨w.heap.size+1+1,2,none⟩=some p2
 e2x3:W.cell? ⟨w.heap.size+1+1,3,none⟩=some p3
 e2x4:W.cell? ⟨w.heap.size+1+1,4,none⟩=some p4
 e2x5:W.cell? ⟨w.heap.size+1+1,5,none⟩=some p5
 f2: ∀j,W.frozen? ⟨w.heap.size+1+1,j,none⟩=false
 le:w.heap.size+1+1+1≤W.heap.size
 bel:Below w.heap.size w W
theorem Fms.start (w:World) (m0 m1 m2 m3 m4 m5 n0 n1 n2 n3 n4 n5 p0 p1 p2 p3 p4 p5:Value) (t0 t1 t2:TypeId):Fms w m0 m1 m2 m3 m4 m5 n0 n1 n2 n3 n4 n5 p0 p1 p2 p3 p4 p5 (((w.alloc (.cells #[m0,m1,m2,m3,m4,m5] t0)).alloc (.cells #[n0,n1,n2,n3,n4,n5] t1)).alloc (.cells #[p0,p1,p2,p3,p4,p5] t2)):=by
 constructor<;>first|exact (((bel0 _ _).trans ((bel0 _ _).mono (by simp<;>omega))).trans ((bel0 _ _).mono (by simp<;>omega)))|simp [go_sem]
theorem Fms.later {w:World} {m0 m1 m2 m3 m4 m5 n0 n1 n2 n3 n4 n5 p0 p1 p2 p3 p4 p5:Value} {W W':World} (h:Fms w m0 m1 m2 m3 m4 m5 n0 n1 n2 n3 n4 n5 p0 p1 p2 p3 p4 p5 W) (hb:Below W.heap.size W W'):Fms w m0 m1 m2 m3 m4 m5 n0 n1 n2 n3 n4 n5 p0 p1 p2 p3 p4 p5 W':=by
 have q:=h.le
 have z:=h.bel.trans (hb.mono h.bel.size)
 cases h
 constructor<;>first|exact ((bcell hb).1 _ _ (by omega)).trans (by with_reducible assumption)|exact z|exact Nat.le_trans q hb.size| (intro j;exact ((bcell hb).2 _ _ (by omega)).trans (by apply_assumption))
theorem Fms.set2 {w:World} {m0 m1 m2 m3 m4 m5 n0 n1 n2 n3 n4 n5 p0 p1 p2 p3 p4 p5:Value} {W:World} (h:Fms w m0 m1 m2 m3 m4 m5 n0 n1 n2 n3 n4 n5 p0 p1 p2 p3 p4 p5 W) (v0 v1 v2 v3 v4 v5:Value):Fms w m0 m1 m2 m3 m4 m5 n0 n1 n2 n3 n4 n5 v0 v1 v2 v3 v4 v5 ((((((W.setCell ⟨w.heap.size+1+1,0,none⟩ v0).setCell ⟨w.heap.size+1+1,1,none⟩ v1).setCell ⟨w.heap.size+1+1,2,none⟩ v2).setCell ⟨w.heap.size+1+1,3,none⟩ v3).setCell ⟨w.heap.size+1+1,4,none⟩ v4).setCell ⟨w.heap.size+1+1,5,none⟩ v5):=by
 have hle:=h.le
 constructor<;>first|exact ((((((h.bel.setCell (by simp<;>omega) _).setCell (by simp<;>omega) _).setCell (by simp<;>omega) _).setCell (by simp<;>omega) _).setCell (by simp<;>omega) _).setCell (by simp<;>omega) _)| (cases h;simp [go_sem, *])
theorem Fms.s {w:World} {m0 m1 m2 m3 m4 m5 n0 n1 n2 n3 n4 n5 p0 p1 p2 p3 p4 p5:Value} {w':World} (h:Fms w m0 m1 m2 m3 m4 m5 n0 n1 n2 n3 n4 n5 p0 p1 p2 p3 p4 p5 w'):w'.cell? ⟨w.heap.size,0,none⟩=some m0∧w'.cell? ⟨w.heap.size,1,none⟩=some m1∧w'.cell? ⟨w.heap.size,2,none⟩=some m2∧w'.cell? ⟨w.heap.size,3,none⟩=some m3∧w'.cell? ⟨w.heap.size,4,none⟩=some m4∧w'.cell? ⟨w.heap.size,5,none⟩=some m5∧w'.cell? ⟨w.heap.size+1,0,none⟩=some n0∧w'.cell? ⟨w.heap.size+1,1,none⟩=some n1∧w'.cell? ⟨w.heap.size+1,2,none⟩=some n2∧w'.cell? ⟨w.heap.size+1,3,none⟩=some n3∧w'.cell? ⟨w.heap.size+1,4,none⟩=some n4∧w'.cell? ⟨w.heap.size+1,5,none⟩=some n5:=⟨h.e0x0,h.e0x1,h.e0x2,h.e0x3,h.e0x4,h.e0x5,h.e1x0,h.e1x1,h.e1x2,h.e1x3,h.e1x4,h.e1x5⟩
theorem subV_any (u v:Value) (n m:Nat) (A B C A' B' C':Int) (w:World) (hn:n≤20000) (hm:m≤20000) (hu:VecM w u n A B C) (hv:VecM w v m A' B' C'):
 Calls Tryz.prog 104 #[u,v] w fun o w'=>VecMOut w (n+m+1) (A-A') (B-B') (C-C') o w':=by
 obtain ⟨gu1,au1,cu1,zu1,gu2,au2,cu2,zu2,gu3,au3,cu3,zu3,rfl,hu1,hu2,hu3⟩:=hu
 obtain ⟨gv1,av1,cv1,zv1,gv2,av2,cv2,zv2,gv3,av3,cv3,zv3,rfl,hv1,hv2,hv3⟩:=hv
 go_enter Tryz.func104,Tryz.ntmps104
 go_wp2_with fail
 obtain ⟨W0,hW0⟩: ∃V0,V0=(((w.alloc (.cells #[gu1,.slice au1 zu1.length cu1,gu2,.slice au2 zu2.length cu2,gu3,.slice au3 zu3.length cu3] 128)).alloc (.cells #[gv1,.slice av1 zv1.length cv1,gv2,.slice av2 zv2.length cv2,gv3,.slice av3 zv3.length cv3] 128)).alloc (.cells #[false,(),false,(),false,()] 128)):=⟨_,rfl⟩
 rw [←hW0]
 have FR:Hid (Fms w gu1 (.slice au1 zu1.length cu1) gu2 (.slice au2 zu2.length cu2) gu3 (.slice au3 zu3.length cu3) gv1 (.slice av1 zv1.length cv1) gv2 (.slice av2 zv2.length cv2) gv3 (.slice av3 zv3.length cv3) false () false () false () W0):=by rw [hW0];exact Fms.start w _ _ _ _ _ _ _ _ _ _ _ _ _ _ _ _ _ _ _ _ _
 have HNI:Hid (NoInt W0 (w.heap.size+1+1)):=by
  have hz: ∀(i:Nat) (k:IntKind) (m:Int),(#[↑false,↑(),↑false,↑(),↑false,↑()]:Array Value)[i]? ≠some (Value.int k m):=by
   intro i k m
   match i with|0=>simp|1=>simp|2=>simp|3=>simp|4=>simp|5=>simp|n+6=>simp
  have h1:=NoInt.new ((w.alloc (.cells #[gu1,.slice au1 zu1.length cu1,gu2,.slice au2 zu2.length cu2,gu3,.slice au3 zu3.length cu3] 128)).alloc (.cells #[gv1,.slice av1 zv1.length cv1,gv2,.slice av2 zv2.length cv2,gv3,.slice av3 zv3.length cv3] 128)) #[false,(),false,(),false,()] 128 hz
  have hs:((w.alloc (.cells #[gu1,.slice au1 zu1.length cu1,gu2,.slice au2 zu2.length cu2,gu3,.slice au3 zu3.length cu3] 128)).alloc (.cells #[gv1,.slice av1 zv1.length cv1,gv2,.slice av2 zv2.length cv2,gv3,.slice av3 zv3.length cv3] 128)).heap.size=w.heap.size+1+1:=by simp
  rw [hs] at h1
  unfold Hid;rw [hW0];exact h1
 clear hW0
 have U1_0:=(hu1.later FR.out.bel).later (w':=W0.drew) (Below.refl _ _).drew
 have U2_0:=(hu2.later FR.out.bel).later (w':=W0.drew) (Below.refl _ _).drew
 have U3_0:=(hu3.later FR.out.bel).later (w':=W0.drew) (Below.refl _ _).drew
 have V1_0:=(hv1.later FR.out.bel).later (w':=W0.drew) (Below.refl _ _).drew
 have V2_0:=(hv2.later FR.out.bel).later (w':=W0.drew) (Below.refl _ _).drew
 have V3_0:=(hv3.later FR.out.bel).later (w':=W0.drew) (Below.refl _ _).drew
 have NI_0:=HNI.out.later (w':=W0.drew) (Below.refl _ _).drew
 have F0:Fms w gu1 (.slice au1 zu1.length cu1) gu2 (.slice au2 zu2.length cu2) gu3 (.slice au3 zu3.length cu3) gv1 (.slice av1 zv1.length cv1) gv2 (.slice av2 zv2.length cv2) gv3 (.slice av3 zv3.length cv3) false () false () false () W0.drew:=FR.out.later (Below.refl _ _).drew
 go_region_held3 (fun w'=>w'.cell? ⟨w.heap.size,0,none⟩=some ↑gu1∧w'.cell? ⟨w.heap.size,1,none⟩=some (.slice au1 zu1.length cu1)∧w'.cell? ⟨w.heap.size,2,none⟩=some ↑gu2∧w'.cell? ⟨w.heap.size,3,none⟩=some (.slice au2 zu2.length cu2)∧w'.cell? ⟨w.heap.size,4,none⟩=some ↑gu3∧w'.cell? ⟨w.heap.size,5,none⟩=some (.slice au3 zu3.length cu3)∧w'.cell? ⟨w.heap.size+1,0,none⟩=some ↑gv1∧w'.cell? ⟨w.heap.size+1,1,none⟩=some (.slice av1 zv1.length cv1)∧w'.cell? ⟨w.heap.size+1,2,none⟩=some ↑gv2∧w'.cell? ⟨w.heap.size+1,3,none⟩=some (.slice av2 zv2.length cv2)∧w'.cell? ⟨w.heap.size+1,4,none⟩=some ↑gv3∧w'.cell? ⟨w.heap.size+1,5,none⟩=some (.slice av3 zv3.length cv3))
  (first|with_reducible exact (F3.set2 _ _ _ _ _ _).s|with_reducible exact Fms.s (by with_reducible assumption))
  (first
   |(have hBB:=hB2;clear hBB;go_at_call 72;refine (subM_any _ _ n m C C' _ (by omega) (by omega) U3_2 V3_2).mono ?_;rintro o w3 ⟨v3,rfl,hv3,hb3⟩;have R3_3:MIs w3 v3 (n+m+1) (C-C'):=hv3;obtain ⟨gr3,ar3,cr3,zr3,rfl,_,_,_⟩:=hv3;have U1_3:=U1_2.later hb3;have U2_3:=U2_2.later hb3;have U3_3:=U3_2.later hb3;have V1_3:=V1_2.later hb3;have V2_3:=V2_2.later hb3;have V3_3:=V3_2.later hb3;have NI_3:=NI_2.later hb3;have R1_3:=R1_2.later hb3;have R2_3:=R2_2.later hb3;have hB3:Below W0.heap.size W0 w3:=hB2.trans (hb3.mono hB2.size);have F3:Fms w gu1 (.slice au1 zu1.length cu1) gu2 (.slice au2 zu2.length cu2) gu3 (.slice au3 zu3.length cu3) gv1 (.slice av1 zv1.length cv1) gv2 (.slice av2 zv2.length cv2) gv3 (.slice av3 zv3.length cv3) false () false () false () w3:=FR.out.later hB3;have r0:=F3.e2x0;have r1:=F3.e2x1;have r2:=F3.e2x2;have r3:=F3.e2x3;have r4:=F3.e2x4;have r5:=F3.e2x5;have rz:=F3.f2)
   |(have hBB:=hB1;clear hBB;go_at_call 72;refine (subM_any _ _ n m B B' _ (by omega) (by omega) U2_1 V2_1).mono ?_;rintro o w2 ⟨v2,rfl,hv2,hb2⟩;have R2_2:MIs w2 v2 (n+m+1) (B-B'):=hv2;obtain ⟨gr2,ar2,cr2,zr2,rfl,_,_,_⟩:=hv2;have U1_2:=U1_1.later hb2;have U2_2:=U2_1.later hb2;have U3_2:=U3_1.later hb2;have V1_2:=V1_1.later hb2;have V2_2:=V2_1.later hb2;have V3_2:=V3_1.later hb2;have NI_2:=NI_1.later hb2;have R1_2:=R1_1.later hb2;have hB2:Below W0.heap.size W0 w2:=hB1.trans (hb2.mono hB1.size);have F2:Fms w gu1 (.slice au1 zu1.length cu1) gu2 (.slice au2 zu2.length cu2) gu3 (.slice au3 zu3.length cu3) gv1 (.slice av1 zv1.length cv1) gv2 (.slice av2 zv2.length cv2) gv3 (.slice av3 zv3.length cv3) false () false () false () w2:=FR.out.later hB2)
   |(go_at_call 72;refine (subM_any _ _ n m A A' _ (by omega) (by omega) U1_0 V1_0).mono ?_;rintro o w1 ⟨v1,rfl,hv1,hb1⟩;have R1_1:MIs w1 v1 (n+m+1) (A-A'):=hv1;obtain ⟨gr1,ar1,cr1,zr1,rfl,_,_,_⟩:=hv1;have U1_1:=U1_0.later hb1;have U2_1:=U2_0.later hb1;have U3_1:=U3_0.later hb1;have V1_1:=V1_0.later hb1;have V2_1:=V2_0.later hb1;have V3_1:=V3_0.later hb1;have NI_1:=NI_0.later hb1;have hB1:Below W0.heap.size W0 w1:=(Below.refl _ _).drew.trans hb1;have F1:Fms w gu1 (.slice au1 zu1.length cu1) gu2 (.slice au2 zu2.length cu2) gu3 (.slice au3 zu3.length cu3) gv1 (.slice av1 zv1.length cv1) gv2 (.slice av2 zv2.length cv2) gv3 (.slice av3 zv3.length cv3) false () false () false () w1:=FR.out.later hB1))
 have HF:Hid (Fms w gu1 (.slice au1 zu1.length cu1) gu2 (.slice au2 zu2.length cu2) gu3 (.slice au3 zu3.length cu3) gv1 (.slice av1 zv1.length cv1) gv2 (.slice av2 zv2.length cv2) gv3 (.slice av3 zv3.length cv3) false () false () false () w3):=F3
 have HR1:Hid (MIs w3 (.agg #[gr1,.slice ar1 zr1.length cr1]) (n+m+1) (A-A')):=R1_3
 have HR2:Hid (MIs w3 (.agg #[gr2,.slice ar2 zr2.length cr2]) (n+m+1) (B-B')):=R2_3
 have HR3:Hid (MIs w3 (.agg #[gr3,.slice ar3 zr3.length cr3]) (n+m+1) (C-C')):=R3_3
 have HNN:Hid (NoInt w3 (w.heap.size+1+1)):=NI_3
 clear hB1 hb1 F1 hB2 hb2 F2 hB3 hb3 F3 U1_0 U1_1 U1_2 U1_3 U2_0 U2_1 U2_2 U2_3 U3_0 U3_1 U3_2 U3_3 V1_0 V1_1 V1_2 V1_3 V2_0 V2_1 V2_2 V2_3 V3_0 V3_1 V3_2 V3_3 NI_0 NI_1 NI_2 NI_3 R1_1 R1_2 R1_3 R2_2 R2_3 R3_3 F0
 go_wp2
 refine bodyPost_ret (v:= .agg #[gr1,.slice ar1 zr1.length cr1,gr2,.slice ar2 zr2.length cr2,gr3,.slice ar3 zr3.length cr3]) (by simp [results,Tryz.results104,go_sem,r0,r1,r2,r3,r4,r5]) rfl ?_
 refine ⟨_,rfl,⟨gr1,ar1,cr1,zr1,gr2,ar2,cr2,zr2,gr3,ar3,cr3,zr3,rfl,HR1.out.setAll [gr1,.slice ar1 zr1.length cr1,gr2,.slice ar2 zr2.length cr2,gr3,.slice ar3 zr3.length cr3] _ 0 HNN.out (by simp [NotInt]),HR2.out.setAll [gr1,.slice ar1 zr1.length cr1,gr2,.slice ar2 zr2.length cr2,gr3,.slice ar3 zr3.length cr3] _ 0 HNN.out (by simp [NotInt]),HR3.out.setAll [gr1,.slice ar1 zr1.length cr1,gr2,.slice ar2 zr2.length cr2,gr3,.slice ar3 zr3.length cr3] _ 0 HNN.out (by simp [NotInt])⟩,?_⟩
 exact (HF.out.set2 _ _ _ _ _ _).bel
structure Fmd (w:World) (m0 m1 m2 m3 m4 m5 n0 n1 n2 n3 n4 n5 p0 p1:Value) (W:World):Prop where
 e0x0:W.cell? ⟨w.heap.size,0,none⟩=some m0
 e0x1:W.cell? ⟨w.heap.size,1,none⟩=some m1
 e0x2:W.cell? ⟨w.heap.size,2,none⟩=some m2
 e0x3:W.cell? ⟨w.heap.size,3,none⟩=some m3
 e0x4:W.cell? ⟨w.heap.size,4,none⟩=some m4
 e0x5:W.cell? ⟨w.heap.size,5,none⟩=some m5
 f0: ∀j,W.frozen? ⟨w.heap.size,j,none⟩=false
 e1x0:W.cell? ⟨w.heap.size+1,0,none⟩=some n0
 e1x1:W.cell? ⟨w.heap.size+1,1,none⟩=some n1
 e1x2:W.cell? ⟨w.heap.size+1,2,none⟩=some n2
 e1x3:W.cell? ⟨w.heap.size+1,3,none⟩=some n3
 e1x4:W.cell? ⟨w.heap.size+1,4,none⟩=some n4
 e1x5:W.cell? ⟨w.heap.size+1,5,none⟩=some n5
 f1: ∀j,W.frozen? ⟨w.heap.size+1,j,none⟩=false
 e2x0:W.cell? ⟨w.heap.size+1+1,0,none⟩=some p0
 e2x1:W.cell? ⟨w.heap.size+1+1,1,none⟩=some p1
 f2: ∀j,W.frozen? ⟨w.heap.size+1+1,j,none⟩=false
 le:w.heap.size+1+1+1≤W.heap.size
 bel:Below w.heap.size w W
theorem Fmd.start (w:World) (m0 m1 m2 m3 m4 m5 n0 n1 n2 n3 n4 n5 p0 p1:Value) (t0 t1 t2:TypeId):Fmd w m0 m1 m2 m3 m4 m5 n0 n1 n2 n3 n4 n5 p0 p1 (((w.alloc (.cells #[m0,m1,m2,m3,m4,m5] t0)).alloc (.cells #[n0,n1,n2,n3,n4,n5] t1)).alloc (.cells #[p0,p1] t2)):=by
 constructor<;>first|exact (((bel0 _ _).trans ((bel0 _ _).mono (by simp<;>omega))).trans ((bel0 _ _).mono (by simp<;>omega)))|simp [go_sem]
theorem Fmd.later {w:World} {m0 m1 m2 m3 m4 m5 n0 n1 n2 n3 n4 n5 p0 p1:Value} {W W':World} (h:Fmd w m0 m1 m2 m3 m4 m5 n0 n1 n2 n3 n4 n5 p0 p1 W) (hb:Below W.heap.size W W'):Fmd w m0 m1 m2 m3 m4 m5 n0 n1 n2 n3 n4 n5 p0 p1 W':=by
 have q:=h.le
 have z:=h.bel.trans (hb.mono h.bel.size)
 cases h
 constructor<;>first|exact ((bcell hb).1 _ _ (by omega)).trans (by with_reducible assumption)|exact z|exact Nat.le_trans q hb.size| (intro j;exact ((bcell hb).2 _ _ (by omega)).trans (by apply_assumption))
theorem Fmd.set2 {w:World} {m0 m1 m2 m3 m4 m5 n0 n1 n2 n3 n4 n5 p0 p1:Value} {W:World} (h:Fmd w m0 m1 m2 m3 m4 m5 n0 n1 n2 n3 n4 n5 p0 p1 W) (v0 v1:Value):Fmd w m0 m1 m2 m3 m4 m5 n0 n1 n2 n3 n4 n5 v0 v1 ((W.setCell ⟨w.heap.size+1+1,0,none⟩ v0).setCell ⟨w.heap.size+1+1,1,none⟩ v1):=by
 have hle:=h.le
 constructor<;>first|exact ((h.bel.setCell (by simp<;>omega) _).setCell (by simp<;>omega) _)| (cases h;simp [go_sem, *])
theorem Fmd.s {w:World} {m0 m1 m2 m3 m4 m5 n0 n1 n2 n3 n4 n5 p0 p1:Value} {w':World} (h:Fmd w m0 m1 m2 m3 m4 m5 n0 n1 n2 n3 n4 n5 p0 p1 w'):w'.cell? ⟨w.heap.size,0,none⟩=some m0∧w'.cell? ⟨w.heap.size,1,none⟩=some m1∧w'.cell? ⟨w.heap.size,2,none⟩=some m2∧w'.cell? ⟨w.heap.size,3,none⟩=some m3∧w'.cell? ⟨w.heap.size,4,none⟩=some m4∧w'.cell? ⟨w.heap.size,5,none⟩=some m5∧w'.cell? ⟨w.heap.size+1,0,none⟩=some n0∧w'.cell? ⟨w.heap.size+1,1,none⟩=some n1∧w'.cell? ⟨w.heap.size+1,2,none⟩=some n2∧w'.cell? ⟨w.heap.size+1,3,none⟩=some n3∧w'.cell? ⟨w.heap.size+1,4,none⟩=some n4∧w'.cell? ⟨w.heap.size+1,5,none⟩=some n5:=⟨h.e0x0,h.e0x1,h.e0x2,h.e0x3,h.e0x4,h.e0x5,h.e1x0,h.e1x1,h.e1x2,h.e1x3,h.e1x4,h.e1x5⟩
theorem dotV_any (u v:Value) (n m:Nat) (A B C A' B' C':Int) (w:World) (hn:n≤20000) (hm:m≤20000) (hu:VecM w u n A B C) (hv:VecM w v m A' B' C'):
 Calls Tryz.prog 115 #[u,v] w fun o w'=>MOut w (n+m+1+(n+m+1)+1+(n+m+1)+1) (A*A'+B*B'+C*C') o w':=by
 obtain ⟨gu1,au1,cu1,zu1,gu2,au2,cu2,zu2,gu3,au3,cu3,zu3,rfl,hu1,hu2,hu3⟩:=hu
 obtain ⟨gv1,av1,cv1,zv1,gv2,av2,cv2,zv2,gv3,av3,cv3,zv3,rfl,hv1,hv2,hv3⟩:=hv
 go_enter Tryz.func115,Tryz.ntmps115
 go_wp2_with fail
 obtain ⟨W0,hW0⟩: ∃V0,V0=(((w.alloc (.cells #[gu1,.slice au1 zu1.length cu1,gu2,.slice au2 zu2.length cu2,gu3,.slice au3 zu3.length cu3] 128)).alloc (.cells #[gv1,.slice av1 zv1.length cv1,gv2,.slice av2 zv2.length cv2,gv3,.slice av3 zv3.length cv3] 128)).alloc (.cells #[false,()] 72)):=⟨_,rfl⟩
 rw [←hW0]
 have FR:Hid (Fmd w gu1 (.slice au1 zu1.length cu1) gu2 (.slice au2 zu2.length cu2) gu3 (.slice au3 zu3.length cu3) gv1 (.slice av1 zv1.length cv1) gv2 (.slice av2 zv2.length cv2) gv3 (.slice av3 zv3.length cv3) false () W0):=by rw [hW0];exact Fmd.start w _ _ _ _ _ _ _ _ _ _ _ _ _ _ _ _ _
 have HNI:Hid (NoInt W0 (w.heap.size+1+1)):=by
  have hz: ∀(i:Nat) (k:IntKind) (m:Int),(#[↑false,↑()]:Array Value)[i]? ≠some (Value.int k m):=by
   intro i k m
   match i with|0=>simp|1=>simp|n+2=>simp
  have h1:=NoInt.new ((w.alloc (.cells #[gu1,.slice au1 zu1.length cu1,gu2,.slice au2 zu2.length cu2,gu3,.slice au3 zu3.length cu3] 128)).alloc (.cells #[gv1,.slice av1 zv1.length cv1,gv2,.slice av2 zv2.length cv2,gv3,.slice av3 zv3.length cv3] 128)) #[false,()] 72 hz
  have hs:((w.alloc (.cells #[gu1,.slice au1 zu1.length cu1,gu2,.slice au2 zu2.length cu2,gu3,.slice au3 zu3.length cu3] 128)).alloc (.cells #[gv1,.slice av1 zv1.length cv1,gv2,.slice av2 zv2.length cv2,gv3,.slice av3 zv3.length cv3] 128)).heap.size=w.heap.size+1+1:=by simp
  rw [hs] at h1
  unfold Hid;rw [hW0];exact h1
 clear hW0
 have U1_0:=(hu1.later FR.out.bel).later (w':=W0.drew) (Below.refl _ _).drew
 have U2_0:=(hu2.later FR.out.bel).later (w':=W0.drew) (Below.refl _ _).drew
 have U3_0:=(hu3.later FR.out.bel).later (w':=W0.drew) (Below.refl _ _).drew
 have V1_0:=(hv1.later FR.out.bel).later (w':=W0.drew) (Below.refl _ _).drew
 have V2_0:=(hv2.later FR.out.bel).later (w':=W0.drew) (Below.refl _ _).drew
 have V3_0:=(hv3.later FR.out.bel).later (w':=W0.drew) (Below.refl _ _).drew
 have NI_0:=HNI.out.later (w':=W0.drew) (Below.refl _ _).drew
 have F0:Fmd w gu1 (.slice au1 zu1.length cu1) gu2 (.slice au2 zu2.length cu2) gu3 (.slice au3 zu3.length cu3) gv1 (.slice av1 zv1.length cv1) gv2 (.slice av2 zv2.length cv2) gv3 (.slice av3 zv3.length cv3) false () W0.drew:=FR.out.later (Below.refl _ _).drew
 go_region_held3 (fun w'=>w'.cell? ⟨w.heap.size,0,none⟩=some ↑gu1∧w'.cell? ⟨w.heap.size,1,none⟩=some (.slice au1 zu1.length cu1)∧w'.cell? ⟨w.heap.size,2,none⟩=some ↑gu2∧w'.cell? ⟨w.heap.size,3,none⟩=some (.slice au2 zu2.length cu2)∧w'.cell? ⟨w.heap.size,4,none⟩=some ↑gu3∧w'.cell? ⟨w.heap.size,5,none⟩=some (.slice au3 zu3.length cu3)∧w'.cell? ⟨w.heap.size+1,0,none⟩=some ↑gv1∧w'.cell? ⟨w.heap.size+1,1,none⟩=some (.slice av1 zv1.length cv1)∧w'.cell? ⟨w.heap.size+1,2,none⟩=some ↑gv2∧w'.cell? ⟨w.heap.size+1,3,none⟩=some (.slice av2 zv2.length cv2)∧w'.cell? ⟨w.heap.size+1,4,none⟩=some ↑gv3∧w'.cell? ⟨w.heap.size+1,5,none⟩=some (.slice av3 zv3.length cv3))
  (first|with_reducible exact (F5.set2 _ _).s|with_reducible exact Fmd.s (by with_reducible assumption))
  (first
   |(have hBB:=hB4;clear hBB;go_at_call 76;refine (addM_any _ _ (n+m+1+(n+m+1)+1) (n+m+1) (A*A'+B*B') (C*C') _ (by omega) (by omega) R3_4 R4_4).mono ?_;rintro o w5 ⟨v5,rfl,hv5,hb5⟩;have R5_5:MIs w5 v5 (n+m+1+(n+m+1)+1+(n+m+1)+1) (A*A'+B*B'+C*C'):=hv5;obtain ⟨gr5,ar5,cr5,zr5,rfl,_,_,_⟩:=hv5;have U1_5:=U1_4.later hb5;have U2_5:=U2_4.later hb5;have U3_5:=U3_4.later hb5;have V1_5:=V1_4.later hb5;have V2_5:=V2_4.later hb5;have V3_5:=V3_4.later hb5;have NI_5:=NI_4.later hb5;have R1_5:=R1_4.later hb5;have R2_5:=R2_4.later hb5;have R3_5:=R3_4.later hb5;have R4_5:=R4_4.later hb5;have hB5:Below W0.heap.size W0 w5:=hB4.trans (hb5.mono hB4.size);have F5:Fmd w gu1 (.slice au1 zu1.length cu1) gu2 (.slice au2 zu2.length cu2) gu3 (.slice au3 zu3.length cu3) gv1 (.slice av1 zv1.length cv1) gv2 (.slice av2 zv2.length cv2) gv3 (.slice av3 zv3.length cv3) false () w5:=FR.out.later hB5;have r0:=F5.e2x0;have r1:=F5.e2x1;have rz:=F5.f2)
   |(have hBB:=hB3;clear hBB;go_at_call 97;refine (mulM_any _ _ n m C C' _ (by omega) (by omega) U3_3 V3_3).mono ?_;rintro o w4 ⟨v4,rfl,hv4,hb4⟩;have R4_4:MIs w4 v4 (n+m+1) (C*C'):=hv4;obtain ⟨gr4,ar4,cr4,zr4,rfl,_,_,_⟩:=hv4;have U1_4:=U1_3.later hb4;have U2_4:=U2_3.later hb4;have U3_4:=U3_3.later hb4;have V1_4:=V1_3.later hb4;have V2_4:=V2_3.later hb4;have V3_4:=V3_3.later hb4;have NI_4:=NI_3.later hb4;have R1_4:=R1_3.later hb4;have R2_4:=R2_3.later hb4;have R3_4:=R3_3.later hb4;have hB4:Below W0.heap.size W0 w4:=hB3.trans (hb4.mono hB3.size);have F4:Fmd w gu1 (.slice au1 zu1.length cu1) gu2 (.slice au2 zu2.length cu2) gu3 (.slice au3 zu3.length cu3) gv1 (.slice av1 zv1.length cv1) gv2 (.slice av2 zv2.length cv2) gv3 (.slice av3 zv3.length cv3) false () w4:=FR.out.later hB4)
   |(have hBB:=hB2;clear hBB;go_at_call 76;refine (addM_any _ _ (n+m+1) (n+m+1) (A*A') (B*B') _ (by omega) (by omega) R1_2 R2_2).mono ?_;rintro o w3 ⟨v3,rfl,hv3,hb3⟩;have R3_3:MIs w3 v3 (n+m+1+(n+m+1)+1) (A*A'+B*B'):=hv3;obtain ⟨gr3,ar3,cr3,zr3,rfl,_,_,_⟩:=hv3;have U1_3:=U1_2.later hb3;have U2_3:=U2_2.later hb3;have U3_3:=U3_2.later hb3;have V1_3:=V1_2.later hb3;have V2_3:=V2_2.later hb3;have V3_3:=V3_2.later hb3;have NI_3:=NI_2.later hb3;have R1_3:=R1_2.later hb3;have R2_3:=R2_2.later hb3;have hB3:Below W0.heap.size W0 w3:=hB2.trans (hb3.mono hB2.size);have F3:Fmd w gu1 (.slice au1 zu1.length cu1) gu2 (.slice au2 zu2.length cu2) gu3 (.slice au3 zu3.length cu3) gv1 (.slice av1 zv1.length cv1) gv2 (.slice av2 zv2.length cv2) gv3 (.slice av3 zv3.length cv3) false () w3:=FR.out.later hB3)
   |(have hBB:=hB1;clear hBB;go_at_call 97;refine (mulM_any _ _ n m B B' _ (by omega) (by omega) U2_1 V2_1).mono ?_;rintro o w2 ⟨v2,rfl,hv2,hb2⟩;have R2_2:MIs w2 v2 (n+m+1) (B*B'):=hv2;obtain ⟨gr2,ar2,cr2,zr2,rfl,_,_,_⟩:=hv2;have U1_2:=U1_1.later hb2;have U2_2:=U2_1.later hb2;have U3_2:=U3_1.later hb2;have V1_2:=V1_1.later hb2;have V2_2:=V2_1.later hb2;have V3_2:=V3_1.later hb2;have NI_2:=NI_1.later hb2;have R1_2:=R1_1.later hb2;have hB2:Below W0.heap.size W0 w2:=hB1.trans (hb2.mono hB1.size);have F2:Fmd w gu1 (.slice au1 zu1.length cu1) gu2 (.slice au2 zu2.length cu2) gu3 (.slice au3 zu3.length cu3) gv1 (.slice av1 zv1.length cv1) gv2 (.slice av2 zv2.length cv2) gv3 (.slice av3 zv3.length cv3) false () w2:=FR.out.later hB2)
   |(go_at_call 97;refine (mulM_any _ _ n m A A' _ (by omega) (by omega) U1_0 V1_0).mono ?_;rintro o w1 ⟨v1,rfl,hv1,hb1⟩;have R1_1:MIs w1 v1 (n+m+1) (A*A'):=hv1;obtain ⟨gr1,ar1,cr1,zr1,rfl,_,_,_⟩:=hv1;have U1_1:=U1_0.later hb1;have U2_1:=U2_0.later hb1;have U3_1:=U3_0.later hb1;have V1_1:=V1_0.later hb1;have V2_1:=V2_0.later hb1;have V3_1:=V3_0.later hb1;have NI_1:=NI_0.later hb1;have hB1:Below W0.heap.size W0 w1:=(Below.refl _ _).drew.trans hb1;have F1:Fmd w gu1 (.slice au1 zu1.length cu1) gu2 (.slice au2 zu2.length cu2) gu3 (.slice au3 zu3.length cu3) gv1 (.slice av1 zv1.length cv1) gv2 (.slice av2 zv2.length cv2) gv3 (.slice av3 zv3.length cv3) false () w1:=FR.out.later hB1))
 have HF:Hid (Fmd w gu1 (.slice au1 zu1.length cu1) gu2 (.slice au2 zu2.length cu2) gu3 (.slice au3 zu3.length cu3) gv1 (.slice av1 zv1.length cv1) gv2 (.slice av2 zv2.length cv2) gv3 (.slice av3 zv3.length cv3) false () w5):=F5
 have HR5:Hid (MIs w5 (.agg #[gr5,.slice ar5 zr5.length cr5]) (n+m+1+(n+m+1)+1+(n+m+1)+1) (A*A'+B*B'+C*C')):=R5_5
 have HNN:Hid (NoInt w5 (w.heap.size+1+1)):=NI_5
 clear hB1 hb1 F1 hB2 hb2 F2 hB3 hb3 F3 hB4 hb4 F4 hB5 hb5 F5 U1_0 U1_1 U1_2 U1_3 U1_4 U1_5 U2_0 U2_1 U2_2 U2_3 U2_4 U2_5 U3_0 U3_1 U3_2 U3_3 U3_4 U3_5 V1_0 V1_1 V1_2 V1_3 V1_4 V1_5 V2_0 V2_1 V2_2 V2_3 V2_4 V2_5 V3_0 V3_1 V3_2 V3_3 V3_4 V3_5 NI_0 NI_1 NI_2 NI_3 NI_4 NI_5 R1_1 R1_2 R1_3 R1_4 R1_5 R2_2 R2_3 R2_4 R2_5 R3_3 R3_4 R3_5 R4_4 R4_5 R5_5 F0
 go_wp2
 refine bodyPost_ret (v:= .agg #[gr5,.slice ar5 zr5.length cr5]) (by simp [results,Tryz.results115,go_sem,r0,r1]) rfl ?_
 refine ⟨_,rfl,HR5.out.setAll [gr5,.slice ar5 zr5.length cr5] _ 0 HNN.out (by simp [NotInt]),?_⟩
 exact (HF.out.set2 _ _).bel
def noneM:Value:= .agg #[false,(),false,(),false,false,(),false,(),false,true]
def SpM (w:World) (v:Value) (n:Nat) (a b c d:Int):Prop:= ∃(g1:Bool) (a1:Option Addr) (c1:Nat) (z1:List Int) (g2:Bool) (a2:Option Addr) (c2:Nat) (z2:List Int) (g3:Bool) (a3:Option Addr) (c3:Nat) (z3:List Int) (g4:Bool) (a4:Option Addr) (c4:Nat) (z4:List Int) (t:Bool),v= .agg #[g1,.slice a1 z1.length c1,g2,.slice a2 z2.length c2,false,g3,.slice a3 z3.length c3,g4,.slice a4 z4.length c4,t,false]∧MIs w (.agg #[g1,.slice a1 z1.length c1]) n a∧MIs w (.agg #[g2,.slice a2 z2.length c2]) n b∧((t=false∧d≠0∧MIs w (.agg #[g3,.slice a3 z3.length c3]) n c∧MIs w (.agg #[g4,.slice a4 z4.length c4]) n d)∨(t=true∧d=0∧c=1))
theorem SpM.later {w w':World} {v:Value} {n:Nat} {a b c d:Int} (h:SpM w v n a b c d) (hb:Below w.heap.size w w'):SpM w' v n a b c d:=by
 obtain ⟨g1,a1,c1,z1,g2,a2,c2,z2,g3,a3,c3,z3,g4,a4,c4,z4,t,rfl,h1,h2,h3⟩:=h
 refine ⟨g1,a1,c1,z1,g2,a2,c2,z2,g3,a3,c3,z3,g4,a4,c4,z4,t,rfl,h1.later hb,h2.later hb,?_⟩
 rcases h3 with ⟨k1,k2,k3,k4⟩|h3
 ·exact .inl ⟨k1,k2,k3.later hb,k4.later hb⟩
 ·exact .inr h3
theorem none_any (w:World):Calls Tryz.prog 114 #[] w fun o w'=>o= .returned noneM∧Below w.heap.size w w':=by
 go_enter Tryz.func114,Tryz.ntmps114
 go_wp2
 refine bodyPost_ret (v:=noneM) (by simp [results,Tryz.results114,go_sem,noneM]) rfl ?_
 exact ⟨rfl,bel0 _ _⟩
theorem forward_any (n:Nat) (hn:1≤n) (w:World):Calls Tryz.prog 67 #[] w fun o w'=> ∃v,o= .returned v∧SpM w' v n 0 1 1 0∧Below w.heap.size w w':=by
 have HZ0:Hid (∀t,Cs (w.alloc (.cells #[false,(),false,(),false,false,(),false,(),false,false] t)) w.heap.size [false,(),false,(),false,false,(),false,(),false,false]):=fun t=>Cs.new _ _ _
 have HB0:Hid (∀t,Below w.heap.size w (w.alloc (.cells #[false,(),false,(),false,false,(),false,(),false,false] t))):=fun t=>bel0 _ _
 have HN0:Hid (∀t,NoInt (w.alloc (.cells #[false,(),false,(),false,false,(),false,(),false,false] t)) w.heap.size):=fun t=>NoInt.new _ _ _ (fun i k m=>by match i with|0=>simp|1=>simp|2=>simp|3=>simp|4=>simp|5=>simp|6=>simp|7=>simp|8=>simp|9=>simp|10=>simp|n+11=>simp)
 go_enter Tryz.func67,Tryz.ntmps67
 go_wp2_with fail
 refine (small_any 1 _ (by decide) (by decide)).mono ?_
 rintro o w1 ⟨a2,c2,z2,rfl,hl,hL,_,hb1⟩
 have HZ:Hid (Cs w1 w.heap.size [false,(),false,(),false,false,(),false,(),false,false]):=(HZ0.out _).later hb1
 have HB:Hid (Below w.heap.size w w1):=(HB0.out _).trans (hb1.mono (HB0.out _).size)
 have HN:Hid (NoInt w1 w.heap.size):=(HN0.out _).later hb1
 have HM:Hid (MIs w1 (.agg #[false,.slice a2 z2.length c2]) n 1):=⟨false,a2,c2,z2,rfl,hL,by omega,trivial⟩
 clear hb1 HZ0 HB0 HN0 hL hl
 obtain ⟨y0,y1,y2,y3,y4,y5,y6,y7,y8,y9,y10⟩:=HZ.out.c11
 have yf:=HZ.out.2.1
 go_wp2
 refine bodyPost_ret (v:= .agg #[false,(),false,.slice a2 z2.length c2,false,false,(),false,(),true,false]) (by simp [results,Tryz.results67,go_sem,y0,y1,y2,y3,y4,y5,y6,y7,y8,y9,y10]) rfl ?_
 exact ⟨_,rfl,⟨false,none,0,[],false,a2,c2,z2,false,none,0,[],false,none,0,[],true,rfl,MIs.zero _ _,HM.out.setAll [false,(),false,.slice a2 z2.length c2,false,false,(),false,(),true,false] w1 0 HN.out (by simp [NotInt]),.inr ⟨rfl,rfl,rfl⟩⟩,below_setAll (vs:=[↑false,↑(),↑false,.slice a2 z2.length c2,↑false,↑false,↑(),↑false,↑(),↑true,↑false]) (b:=w.heap.size) (by omega) w1 0 HB.out⟩
theorem zeroVec_any (u:Value) (n:Nat) (A B C:Int) (w:World) (hu:VecM w u n A B C):
 Calls Tryz.prog 105 #[u] w fun o w'=>o= .returned (.bool (decide (A=0∧B=0∧C=0)))∧Below w.heap.size w w':=by
 obtain ⟨gu1,au1,cu1,zu1,gu2,au2,cu2,zu2,gu3,au3,cu3,zu3,rfl,h1,h2,h3⟩:=hu
 have e1:=h1.zero_iff
 have e2:=h2.zero_iff
 have e3:=h3.zero_iff
 have HD:Hid (decide (A=0∧B=0∧C=0)=(decide (zu1.length=0) && (decide (zu2.length=0) && decide (zu3.length=0)))):=by
  unfold Hid
  simp only [e1,e2,e3]
  by_cases q1:A=0<;>by_cases q2:B=0<;>by_cases q3:C=0<;>simp [q1,q2,q3]
 clear h1 h2 h3 e1 e2 e3
 have hcs: ∀l:Nat,(((l:Int)==0)=true∧decide (l=0)=true)∨(((l:Int)==0)=false∧decide (l=0)=false):=by
  intro l
  rcases Nat.eq_zero_or_pos l with h|h
  ·left;subst h;exact ⟨rfl,rfl⟩
  ·right;exact ⟨by rw [beq_eq_false_iff_ne];omega,by simp;omega⟩
 rcases hcs zu1.length with ⟨k1,d1⟩| ⟨k1,d1⟩<;>rcases hcs zu2.length with ⟨k2,d2⟩| ⟨k2,d2⟩<;>rcases hcs zu3.length with ⟨k3,d3⟩| ⟨k3,d3⟩
 all_goals
  have HE:Hid (decide (A=0∧B=0∧C=0)=_):=HD.out.trans (by rw [d1,d2,d3])
  clear HD hcs d1 d2 d3
  go_enter Tryz.func105,Tryz.ntmps105
  go_wp2
  go_ret
  exact ⟨by rw [HE.out];rfl,bel0 _ _⟩
theorem sT (l:List Value) (i:Nat) (a:Value):l.toArray.setIfInBounds i a=(l.set i a).toArray:=List.setIfInBounds_toArray ..
theorem sS (x:Value) (l:List Value) (i:Nat) (a:Value):(x::l).set (i+1) a=x::l.set i a:=List.set_cons_succ ..
theorem sZ (x:Value) (l:List Value) (a:Value):(x::l).set 0 a=a::l:=List.set_cons_zero ..
section
variable {P : Program} {ops : Array Oper} {Q : Exit → Act → World → Prop} {md : Region.Mode} {S : World → Prop} {last : Nat}
theorem AnyK.two {i j n:Nat} {oi oj:Oper} {li:Array Bool} {a:Act} {w:World} (hr:Region.ready md ops li=[i,j]) (hi:ops[i]? =some oi) (hj:ops[j]? =some oj) (hgi:oi.guard=none) (hgj:oj.guard=none)
 (h1: ∀K:Act→World→Prop,(∀a' w',(i≠last→S w')→AnyK P md ops Q S last n (li.setIfInBounds i true) a' w'→K a' w')→oi.wp P a w K Q)
 (h2: ∀K:Act→World→Prop,(∀a' w',(j≠last→S w')→AnyK P md ops Q S last n (li.setIfInBounds j true) a' w'→K a' w')→oj.wp P a w K Q):AnyK P md ops Q S last (n+1) li a w:=by
 refine ⟨fun q=>absurd q (by rw [hr];simp),fun k hk=> ?_⟩
 rw [hr] at hk
 have:k=i∨k=j:=by simpa using hk
 rcases this with rfl|rfl
 ·unfold wpOp
  rw [hi]
  simp only [Region.wanted,hgi,if_true]
  exact .inl (h1 _ fun a' w' h1 h2=>⟨h1,h2⟩)
 ·unfold wpOp
  rw [hj]
  simp only [Region.wanted,hgj,if_true]
  exact .inl (h2 _ fun a' w' h1 h2=>⟨h1,h2⟩)
theorem AnyK.takeT {i n d:Nat} {o ol:Oper} {v:Value} {li:Array Bool} {tm:Array Value} {df:List Deferred} {w:World} (hi:ops[i]? =some o) (hol:ops[last]? =some ol)
 (hs:Region.noSelect ops=true) (hf:Region.free md ops li i=true) (hr:(Region.ready md ops li).contains i=true) (hel:(ol.after.any fun e=>Region.binds md e && e.on==i)=true) (hne:(i==last)=false)
 (hQ: ∀c a w,Q (.panic c) (a.put o.dst v) w→Q (.panic c) a w) (hd:o.dst=some d) (hy:YieldsIf P ops S o v ⟨tm,df⟩) (hw:S w)
 (h:AnyK P md ops Q S last n (li.setIfInBounds i true) ⟨tm.setIfInBounds d v,df⟩ w):AnyK P md ops Q S last (n+1) li ⟨tm,df⟩ w:=
 AnyK.take hi hol hs hf hr hel hne hQ hy hw (by unfold Act.put;rw [hd];exact h)
structure AnyP (P:Program) (md:Region.Mode) (ops:Array Oper) (Q:Exit→Act→World→Prop) (S:World→Prop) (last:Nat) (cs bs:List Nat) (n:Nat) (li:Array Bool) (a:Act) (w:World):Prop where
 out:AnyK P md ops Q S last n li a w
structure Turn (P:Program) (md:Region.Mode) (ops:Array Oper) (Q:Exit→Act→World→Prop) (S:World→Prop) (last:Nat) (cs bs:List Nat) (n:Nat) (li:Array Bool) (a:Act) (w:World) (o:Oper) (i:Nat):Prop where
 out: ∀K:Act→World→Prop,Hid (∀a' w',(i≠last→S w')→AnyP P md ops Q S last cs bs n (li.setIfInBounds i true) a' w'→K a' w')→o.wp P a w K Q
theorem Turn.go {cs bs:List Nat} {n:Nat} {li:Array Bool} {a:Act} {w:World} {o:Oper} (i:Nat) (h: ∀K:Act→World→Prop,Hid (∀a' w',(i≠last→S w')→AnyP P md ops Q S last cs bs n (li.setIfInBounds i true) a' w'→K a' w')→o.wp P a w K Q):Turn P md ops Q S last cs bs n li a w o i:=⟨h⟩
theorem Turn.k {cs bs:List Nat} {n i:Nat} {li:Array Bool} {a:Act} {w:World} {o:Oper} (h:Turn P md ops Q S last cs bs n li a w o i) (K:Act→World→Prop) (hK: ∀a' w',(i≠last→S w')→AnyK P md ops Q S last n (li.setIfInBounds i true) a' w'→K a' w'):o.wp P a w K Q:=h.out K fun a' w' s q=>hK a' w' s q.out
theorem AnyP.c {c n:Nat} {cs:List Nat} {o:Oper} {li:Array Bool} {a:Act} {w:World} (hr:Region.ready md ops li=[c]) (hi:ops[c]? =some o) (hg:o.guard=none) (h:Turn P md ops Q S last cs [] n li a w o c):AnyP P md ops Q S last (c::cs) [] (n+1) li a w:=⟨AnyK.one hr hi hg h.k⟩
theorem AnyP.b {b n:Nat} {o:Oper} {li:Array Bool} {a:Act} {w:World} (hr:Region.ready md ops li=[b]) (hi:ops[b]? =some o) (hg:o.guard=none) (h:Turn P md ops Q S last [] [] n li a w o b):AnyP P md ops Q S last [] [b] (n+1) li a w:=⟨AnyK.one hr hi hg h.k⟩
theorem AnyP.cb {c b n:Nat} {cs:List Nat} {o o':Oper} {li:Array Bool} {a:Act} {w:World} (hr:Region.ready md ops li=if c<b then [c,b] else [b,c]) (hi:ops[c]? =some o) (hj:ops[b]? =some o') (hg:o.guard=none) (hg':o'.guard=none) (h1:Turn P md ops Q S last cs [b] n li a w o c) (h2:Turn P md ops Q S last (c::cs) [] n li a w o' b):AnyP P md ops Q S last (c::cs) [b] (n+1) li a w:=by
 split at hr
 ·exact ⟨AnyK.two hr hi hj hg hg' h1.k h2.k⟩
 ·exact ⟨AnyK.two hr hj hi hg' hg h2.k h1.k⟩
theorem AnyP.begin (cs bs:List Nat) {n:Nat} {li:Array Bool} {a:Act} {w:World} (h:AnyP P md ops Q S last cs bs n li a w):AnyK P md ops Q S last n li a w:=h.out
end
theorem boxAny {W0 u:World} (hB:Below W0.heap.size W0 u) (cs:Array Value) (t:TypeId) (h:cs.toList.all nI=true): ∃V,u.alloc (.cells cs t)=V∧Below u.heap.size u V∧Cs V u.heap.size cs.toList∧NoInt V u.heap.size∧Below W0.heap.size W0 V∧W0.heap.size≤u.heap.size∧Hid (V.heap.size=u.heap.size+1):=
 ⟨_,rfl,bel0 _ _,Cs.new _ _ _,NoInt.newL _ _ _ h,hB.trans ((bel0 _ _).mono hB.size),hB.size,by unfold Hid;simp⟩
structure NwV (W0:World) (P:Nat) (us:List Value) (n:Nat) (X Y Z:Int) (W:World):Prop where
 c:Cs W P us
 v:VecM W (.agg us.toArray) n X Y Z
 le:W0.heap.size≤P
 bel:Below W0.heap.size W0 W
theorem NwV.fin {W0 W:World} {P:Nat} {zs us:List Value} {n:Nat} {X Y Z:Int} (hc:Cs W P zs) (hl:zs.length=us.length) (hn:NoInt W P) (hu: ∀u∈us,NotInt u) (h:VecM W (.agg us.toArray) n X Y Z) (hb:Below W0.heap.size W0 W) (hP:W0.heap.size≤P):NwV W0 P us n X Y Z (setAll W P 0 us):=
 ⟨hc.whole us hl,h.setAll us W 0 hn hu,hP,below_setAll hP us W 0 hb⟩
structure NwM (W0:World) (P:Nat) (us:List Value) (n:Nat) (X:Int) (W:World):Prop where
 c:Cs W P us
 v:MIs W (.agg us.toArray) n X
 le:W0.heap.size≤P
 bel:Below W0.heap.size W0 W
theorem NwM.fin {W0 W:World} {P:Nat} {zs us:List Value} {n:Nat} {X:Int} (hc:Cs W P zs) (hl:zs.length=us.length) (hn:NoInt W P) (hu: ∀u∈us,NotInt u) (h:MIs W (.agg us.toArray) n X) (hb:Below W0.heap.size W0 W) (hP:W0.heap.size≤P):NwM W0 P us n X (setAll W P 0 us):=
 ⟨hc.whole us hl,h.setAll us W 0 hn hu,hP,below_setAll hP us W 0 hb⟩
end Go.Proofs.YtfieffpobgcpmaaGreatDoor
