import Derived.Test.YtfieffpobgcpmaaGreatDoorBgDBgFBgGBgE
import Derived.Test.YtfieffpobgcpmaaGreatDoorEsKBgHEsHEsLEsI
import Derived.Test.YtfieffpobgcpmaaGreatDoorEsMEsJEsN
import Derived.Deep.RegionHeld3
import Derived.Test.YtfieffpobgcpmaaGreatDoorEsGBgCImplOneFrA
set_option maxRecDepth 100000
set_option maxHeartbeats 32000000
namespace Go.Proofs.YtfieffpobgcpmaaGreatDoor
open Go.RowKit
def LineB (w:World) (v:Value) (O D:V3):Prop:= ∃(gs1:Bool) (as1:Option Addr) (cs1:Nat) (zs1:List Int) (gs2:Bool) (as2:Option Addr) (cs2:Nat) (zs2:List Int) (gs3:Bool) (as3:Option Addr) (cs3:Nat) (zs3:List Int) (gd1:Bool) (ad1:Option Addr) (cd1:Nat) (zd1:List Int) (gd2:Bool) (ad2:Option Addr) (cd2:Nat) (zd2:List Int) (gd3:Bool) (ad3:Option Addr) (cd3:Nat) (zd3:List Int) (gk:Bool) (ak:Option Addr) (ck:Nat) (zk:List Int),v=(.agg #[gs1,.slice as1 zs1.length cs1,gs2,.slice as2 zs2.length cs2,gs3,.slice as3 zs3.length cs3,gd1,.slice ad1 zd1.length cd1,gd2,.slice ad2 zd2.length cd2,gd3,.slice ad3 zd3.length cd3,gk,.slice ak zk.length ck])∧VecB w (.agg #[gs1,.slice as1 zs1.length cs1,gs2,.slice as2 zs2.length cs2,gs3,.slice as3 zs3.length cs3]) 277 O.x O.y O.z∧VecB w (.agg #[gd1,.slice ad1 zd1.length cd1,gd2,.slice ad2 zd2.length cd2,gd3,.slice ad3 zd3.length cd3]) 277 D.x D.y D.z∧BigIs w (.agg #[gk,.slice ak zk.length ck]) 0 1
theorem LineB.later {w w':World} {v:Value} {O D:V3} (h:LineB w v O D) (hb:Below w.heap.size w w'):LineB w' v O D:=by
 obtain ⟨gs1,as1,cs1,zs1,gs2,as2,cs2,zs2,gs3,as3,cs3,zs3,gd1,ad1,cd1,zd1,gd2,ad2,cd2,zd2,gd3,ad3,cd3,zd3,gk,ak,ck,zk,rfl,h1,h2,h3⟩:=h
 exact ⟨gs1,as1,cs1,zs1,gs2,as2,cs2,zs2,gs3,as3,cs3,zs3,gd1,ad1,cd1,zd1,gd2,ad2,cd2,zd2,gd3,ad3,cd3,zd3,gk,ak,ck,zk,rfl,h1.later hb,h2.later hb,h3.later hb⟩
theorem toG_any (v:Value) (O D:V3) (p0 p1 p2:Int) (w:World) (hT:Tab w) (hl:LineB w v O D) (h0:Cor p0) (h1:Cor p1) (h2:Cor p2):
 Calls Tryz.prog 133 #[v,.agg #[p0,p1,p2]] w fun o w'=>VecBOut w 278 ((pv p0 p1 p2).sub O).x ((pv p0 p1 p2).sub O).y ((pv p0 p1 p2).sub O).z o w':=by
 obtain ⟨gs1,as1,cs1,zs1,gs2,as2,cs2,zs2,gs3,as3,cs3,zs3,gd1,ad1,cd1,zd1,gd2,ad2,cd2,zd2,gd3,ad3,cd3,zd3,gk,ak,ck,zk,rfl,hS,hD,hK⟩:=hl
 go_enter Tryz.func133,Tryz.ntmps133
 go_wp2_with fail
 obtain ⟨W0,hW0⟩: ∃V0,V0=(((w.alloc (.cells #[gs1,.slice as1 zs1.length cs1,gs2,.slice as2 zs2.length cs2,gs3,.slice as3 zs3.length cs3,gd1,.slice ad1 zd1.length cd1,gd2,.slice ad2 zd2.length cd2,gd3,.slice ad3 zd3.length cd3,gk,.slice ak zk.length ck] 94)).alloc (.cells #[p0,p1,p2] 34)).alloc (.cells #[false,(),false,(),false,()] 92)):=⟨_,rfl⟩
 rw [←hW0]
 have FR:Hid (Fto w gs1 (.slice as1 zs1.length cs1) gs2 (.slice as2 zs2.length cs2) gs3 (.slice as3 zs3.length cs3) gd1 (.slice ad1 zd1.length cd1) gd2 (.slice ad2 zd2.length cd2) gd3 (.slice ad3 zd3.length cd3) gk (.slice ak zk.length ck) p0 p1 p2 false () false () false () W0):=by rw [hW0];exact Fto.start w _ _ _ _ _ _ _ _ _ _ _ _ _ _ _ _ _ _ _ _ _ _ _ _ _ _
 have HNI:Hid (NoInt W0 (w.heap.size+1+1)):=by
  have hz: ∀(i:Nat) (k:IntKind) (m:Int),(#[↑false,↑(),↑false,↑(),↑false,↑()]:Array Value)[i]? ≠some (Value.int k m):=by
   intro i k m
   match i with|0=>simp|1=>simp|2=>simp|3=>simp|4=>simp|5=>simp|n+6=>simp
  have h1:=NoInt.new ((w.alloc (.cells #[gs1,.slice as1 zs1.length cs1,gs2,.slice as2 zs2.length cs2,gs3,.slice as3 zs3.length cs3,gd1,.slice ad1 zd1.length cd1,gd2,.slice ad2 zd2.length cd2,gd3,.slice ad3 zd3.length cd3,gk,.slice ak zk.length ck] 94)).alloc (.cells #[p0,p1,p2] 34)) #[false,(),false,(),false,()] 92 hz
  have hs:((w.alloc (.cells #[gs1,.slice as1 zs1.length cs1,gs2,.slice as2 zs2.length cs2,gs3,.slice as3 zs3.length cs3,gd1,.slice ad1 zd1.length cd1,gd2,.slice ad2 zd2.length cd2,gd3,.slice ad3 zd3.length cd3,gk,.slice ak zk.length ck] 94)).alloc (.cells #[p0,p1,p2] 34)).heap.size=w.heap.size+1+1:=by simp
  rw [hs] at h1
  unfold Hid;rw [hW0];exact h1
 clear hW0
 have TT_0:=(hT.later FR.out.bel).later (w':=W0.drew) (Below.refl _ _).drew
 have SS_0:=(hS.later FR.out.bel).later (w':=W0.drew) (Below.refl _ _).drew
 have KK_0:=(hK.later FR.out.bel).later (w':=W0.drew) (Below.refl _ _).drew
 have NI_0:=HNI.out.later (w':=W0.drew) (Below.refl _ _).drew
 have F0:Fto w gs1 (.slice as1 zs1.length cs1) gs2 (.slice as2 zs2.length cs2) gs3 (.slice as3 zs3.length cs3) gd1 (.slice ad1 zd1.length cd1) gd2 (.slice ad2 zd2.length cd2) gd3 (.slice ad3 zd3.length cd3) gk (.slice ak zk.length ck) p0 p1 p2 false () false () false () W0.drew:=FR.out.later (Below.refl _ _).drew
 go_region_held3 (fun w'=>w'.cell? ⟨w.heap.size,0,none⟩=some ↑gs1∧w'.cell? ⟨w.heap.size,1,none⟩=some (.slice as1 zs1.length cs1)∧w'.cell? ⟨w.heap.size,2,none⟩=some ↑gs2∧w'.cell? ⟨w.heap.size,3,none⟩=some (.slice as2 zs2.length cs2)∧w'.cell? ⟨w.heap.size,4,none⟩=some ↑gs3∧w'.cell? ⟨w.heap.size,5,none⟩=some (.slice as3 zs3.length cs3)∧w'.cell? ⟨w.heap.size,6,none⟩=some ↑gd1∧w'.cell? ⟨w.heap.size,7,none⟩=some (.slice ad1 zd1.length cd1)∧w'.cell? ⟨w.heap.size,8,none⟩=some ↑gd2∧w'.cell? ⟨w.heap.size,9,none⟩=some (.slice ad2 zd2.length cd2)∧w'.cell? ⟨w.heap.size,10,none⟩=some ↑gd3∧w'.cell? ⟨w.heap.size,11,none⟩=some (.slice ad3 zd3.length cd3)∧w'.cell? ⟨w.heap.size,12,none⟩=some ↑gk∧w'.cell? ⟨w.heap.size,13,none⟩=some (.slice ak zk.length ck)∧w'.cell? ⟨w.heap.size+1,0,none⟩=some ↑p0∧w'.cell? ⟨w.heap.size+1,1,none⟩=some ↑p1∧w'.cell? ⟨w.heap.size+1,2,none⟩=some ↑p2)
  (first|with_reducible exact (F3.set2 _ _ _ _ _ _).s|with_reducible exact Fto.s (by with_reducible assumption))
  (first
   |(have hBB:=hB2;clear hBB;go_at_call 135;refine (vminusG_any _ _ 277 (cor p0*1) (cor p1*1) (cor p2*1) O.x O.y O.z _ (by omega) R2_2 SS_2).mono ?_;rintro o w3 ⟨v3,rfl,hv3,hb3⟩;have R3_3:VecB w3 v3 278 (cor p0*1-O.x) (cor p1*1-O.y) (cor p2*1-O.z):=hv3;obtain ⟨gr31,ar31,cr31,zr31,gr32,ar32,cr32,zr32,gr33,ar33,cr33,zr33,rfl,_,_,_⟩:=hv3;have TT_3:=TT_2.later hb3;have SS_3:=SS_2.later hb3;have KK_3:=KK_2.later hb3;have NI_3:=NI_2.later hb3;have R1_3:=R1_2.later hb3;have R2_3:=R2_2.later hb3;have hB3:Below W0.heap.size W0 w3:=hB2.trans (hb3.mono hB2.size);have F3:Fto w gs1 (.slice as1 zs1.length cs1) gs2 (.slice as2 zs2.length cs2) gs3 (.slice as3 zs3.length cs3) gd1 (.slice ad1 zd1.length cd1) gd2 (.slice ad2 zd2.length cd2) gd3 (.slice ad3 zd3.length cd3) gk (.slice ak zk.length ck) p0 p1 p2 false () false () false () w3:=FR.out.later hB3;have r0:=F3.e2x0;have r1:=F3.e2x1;have r2:=F3.e2x2;have r3:=F3.e2x3;have r4:=F3.e2x4;have r5:=F3.e2x5;have rz:=F3.f2)
   |(have hBB:=hB1;clear hBB;go_at_call 153;refine (vscaledG_any _ _ 277 0 (cor p0) (cor p1) (cor p2) 1 _ (by omega) R1_1 KK_1).mono ?_;rintro o w2 ⟨v2,rfl,hv2,hb2⟩;have R2_2:VecB w2 v2 277 (cor p0*1) (cor p1*1) (cor p2*1):=hv2;obtain ⟨gr21,ar21,cr21,zr21,gr22,ar22,cr22,zr22,gr23,ar23,cr23,zr23,rfl,_,_,_⟩:=hv2;have TT_2:=TT_1.later hb2;have SS_2:=SS_1.later hb2;have KK_2:=KK_1.later hb2;have NI_2:=NI_1.later hb2;have R1_2:=R1_1.later hb2;have hB2:Below W0.heap.size W0 w2:=hB1.trans (hb2.mono hB1.size);have F2:Fto w gs1 (.slice as1 zs1.length cs1) gs2 (.slice as2 zs2.length cs2) gs3 (.slice as3 zs3.length cs3) gd1 (.slice ad1 zd1.length cd1) gd2 (.slice ad2 zd2.length cd2) gd3 (.slice ad3 zd3.length cd3) gk (.slice ak zk.length ck) p0 p1 p2 false () false () false () w2:=FR.out.later hB2)
   |(go_at_call 122;refine (vofG_any p0 p1 p2 _ TT_0 h0 h1 h2).mono ?_;rintro o w1 ⟨v1,rfl,hv1,hb1⟩;have R1_1:VecB w1 v1 277 (cor p0) (cor p1) (cor p2):=hv1;obtain ⟨gr11,ar11,cr11,zr11,gr12,ar12,cr12,zr12,gr13,ar13,cr13,zr13,rfl,_,_,_⟩:=hv1;have TT_1:=TT_0.later hb1;have SS_1:=SS_0.later hb1;have KK_1:=KK_0.later hb1;have NI_1:=NI_0.later hb1;have hB1:Below W0.heap.size W0 w1:=(Below.refl _ _).drew.trans hb1;have F1:Fto w gs1 (.slice as1 zs1.length cs1) gs2 (.slice as2 zs2.length cs2) gs3 (.slice as3 zs3.length cs3) gd1 (.slice ad1 zd1.length cd1) gd2 (.slice ad2 zd2.length cd2) gd3 (.slice ad3 zd3.length cd3) gk (.slice ak zk.length ck) p0 p1 p2 false () false () false () w1:=FR.out.later hB1))
 have HF:Hid (Fto w gs1 (.slice as1 zs1.length cs1) gs2 (.slice as2 zs2.length cs2) gs3 (.slice as3 zs3.length cs3) gd1 (.slice ad1 zd1.length cd1) gd2 (.slice ad2 zd2.length cd2) gd3 (.slice ad3 zd3.length cd3) gk (.slice ak zk.length ck) p0 p1 p2 false () false () false () w3):=F3
 have HR3:Hid (VecB w3 (.agg #[gr31,.slice ar31 zr31.length cr31,gr32,.slice ar32 zr32.length cr32,gr33,.slice ar33 zr33.length cr33]) 278 (cor p0*1-O.x) (cor p1*1-O.y) (cor p2*1-O.z)):=R3_3
 have HNN:Hid (NoInt w3 (w.heap.size+1+1)):=NI_3
 clear hB1 hb1 F1 hB2 hb2 F2 hB3 hb3 F3 TT_0 TT_1 TT_2 TT_3 SS_0 SS_1 SS_2 SS_3 KK_0 KK_1 KK_2 KK_3 NI_0 NI_1 NI_2 NI_3 R1_1 R1_2 R1_3 R2_2 R2_3 R3_3 F0
 go_wp2
 refine bodyPost_ret (v:= .agg #[gr31,.slice ar31 zr31.length cr31,gr32,.slice ar32 zr32.length cr32,gr33,.slice ar33 zr33.length cr33]) (by simp [results,Tryz.results133,go_sem,r0,r1,r2,r3,r4,r5]) rfl ?_
 refine ⟨_,rfl,by have hh:=(HR3.out.setAll [gr31,.slice ar31 zr31.length cr31,gr32,.slice ar32 zr32.length cr32,gr33,.slice ar33 zr33.length cr33] _ 0 HNN.out (by simp [NotInt]));simp only [Int.mul_one] at hh;exact hh,?_⟩
 exact (HF.out.set2 _ _ _ _ _ _).bel
structure Fbu (w:World) (L:Nat) (c0x0 c0x1 c0x2 c1x0 c1x1 c1x2 c2x0 c2x1 c2x2 c3x0 c3x1 c3x2 c3x3 c3x4 c3x5 q0 q1 q2 q3 q4 q5:Value) (W:World):Prop where
 f:Fnt w c0x0 c0x1 c0x2 c1x0 c1x1 c1x2 c2x0 c2x1 c2x2 c3x0 c3x1 c3x2 c3x3 c3x4 c3x5 W
 y0:W.cell? ⟨L,0,none⟩=some q0
 y1:W.cell? ⟨L,1,none⟩=some q1
 y2:W.cell? ⟨L,2,none⟩=some q2
 y3:W.cell? ⟨L,3,none⟩=some q3
 y4:W.cell? ⟨L,4,none⟩=some q4
 y5:W.cell? ⟨L,5,none⟩=some q5
 lt:L<W.heap.size
 hL:w.heap.size+1+1+1+1≤L
theorem Fbu.later {w:World} {L:Nat} {c0x0 c0x1 c0x2 c1x0 c1x1 c1x2 c2x0 c2x1 c2x2 c3x0 c3x1 c3x2 c3x3 c3x4 c3x5 q0 q1 q2 q3 q4 q5:Value} {W W':World} (h:Fbu w L c0x0 c0x1 c0x2 c1x0 c1x1 c1x2 c2x0 c2x1 c2x2 c3x0 c3x1 c3x2 c3x3 c3x4 c3x5 q0 q1 q2 q3 q4 q5 W) (hb:Below W.heap.size W W'):Fbu w L c0x0 c0x1 c0x2 c1x0 c1x1 c1x2 c2x0 c2x1 c2x2 c3x0 c3x1 c3x2 c3x3 c3x4 c3x5 q0 q1 q2 q3 q4 q5 W':=
 ⟨h.f.later hb,((bcell hb).1 _ _ h.lt).trans h.y0,((bcell hb).1 _ _ h.lt).trans h.y1,((bcell hb).1 _ _ h.lt).trans h.y2,((bcell hb).1 _ _ h.lt).trans h.y3,((bcell hb).1 _ _ h.lt).trans h.y4,((bcell hb).1 _ _ h.lt).trans h.y5,Nat.lt_of_lt_of_le h.lt hb.size,h.hL⟩
theorem Fbu.start {w:World} {c0x0 c0x1 c0x2 c1x0 c1x1 c1x2 c2x0 c2x1 c2x2 c3x0 c3x1 c3x2 c3x3 c3x4 c3x5:Value} {W:World} (h:Fnt w c0x0 c0x1 c0x2 c1x0 c1x1 c1x2 c2x0 c2x1 c2x2 c3x0 c3x1 c3x2 c3x3 c3x4 c3x5 W) (q0 q1 q2 q3 q4 q5:Value) (t:TypeId):Fbu w W.heap.size c0x0 c0x1 c0x2 c1x0 c1x1 c1x2 c2x0 c2x1 c2x2 c3x0 c3x1 c3x2 c3x3 c3x4 c3x5 q0 q1 q2 q3 q4 q5 (W.alloc (.cells #[q0,q1,q2,q3,q4,q5] t)):=by
 refine ⟨h.later (bel0 _ _),?_,?_,?_,?_,?_,?_,by simp,h.le⟩
 all_goals simp [go_sem]
theorem Fbu.set3 {w:World} {L:Nat} {c0x0 c0x1 c0x2 c1x0 c1x1 c1x2 c2x0 c2x1 c2x2 c3x0 c3x1 c3x2 c3x3 c3x4 c3x5 q0 q1 q2 q3 q4 q5:Value} {W:World} (h:Fbu w L c0x0 c0x1 c0x2 c1x0 c1x1 c1x2 c2x0 c2x1 c2x2 c3x0 c3x1 c3x2 c3x3 c3x4 c3x5 q0 q1 q2 q3 q4 q5 W) (v0 v1 v2 v3 v4 v5:Value):Fbu w L c0x0 c0x1 c0x2 c1x0 c1x1 c1x2 c2x0 c2x1 c2x2 v0 v1 v2 v3 v4 v5 q0 q1 q2 q3 q4 q5 ((((((W.setCell ⟨w.heap.size+1+1+1,0,none⟩ v0).setCell ⟨w.heap.size+1+1+1,1,none⟩ v1).setCell ⟨w.heap.size+1+1+1,2,none⟩ v2).setCell ⟨w.heap.size+1+1+1,3,none⟩ v3).setCell ⟨w.heap.size+1+1+1,4,none⟩ v4).setCell ⟨w.heap.size+1+1+1,5,none⟩ v5):=by
 have hL:=h.hL
 have ne: ∀j i,(⟨w.heap.size+1+1+1,j,none⟩:Addr)≠⟨L,i,none⟩:=fun j i e=>by have:=congrArg Addr.block e;simp at this;omega
 refine ⟨h.f.set3 v0 v1 v2 v3 v4 v5,?_,?_,?_,?_,?_,?_,by simpa using h.lt,h.hL⟩
 ·rw [World.cell?_setCell_other _ _ _ _ (ne _ _),World.cell?_setCell_other _ _ _ _ (ne _ _),World.cell?_setCell_other _ _ _ _ (ne _ _),World.cell?_setCell_other _ _ _ _ (ne _ _),World.cell?_setCell_other _ _ _ _ (ne _ _),World.cell?_setCell_other _ _ _ _ (ne _ _)];exact h.y0
 ·rw [World.cell?_setCell_other _ _ _ _ (ne _ _),World.cell?_setCell_other _ _ _ _ (ne _ _),World.cell?_setCell_other _ _ _ _ (ne _ _),World.cell?_setCell_other _ _ _ _ (ne _ _),World.cell?_setCell_other _ _ _ _ (ne _ _),World.cell?_setCell_other _ _ _ _ (ne _ _)];exact h.y1
 ·rw [World.cell?_setCell_other _ _ _ _ (ne _ _),World.cell?_setCell_other _ _ _ _ (ne _ _),World.cell?_setCell_other _ _ _ _ (ne _ _),World.cell?_setCell_other _ _ _ _ (ne _ _),World.cell?_setCell_other _ _ _ _ (ne _ _),World.cell?_setCell_other _ _ _ _ (ne _ _)];exact h.y2
 ·rw [World.cell?_setCell_other _ _ _ _ (ne _ _),World.cell?_setCell_other _ _ _ _ (ne _ _),World.cell?_setCell_other _ _ _ _ (ne _ _),World.cell?_setCell_other _ _ _ _ (ne _ _),World.cell?_setCell_other _ _ _ _ (ne _ _),World.cell?_setCell_other _ _ _ _ (ne _ _)];exact h.y3
 ·rw [World.cell?_setCell_other _ _ _ _ (ne _ _),World.cell?_setCell_other _ _ _ _ (ne _ _),World.cell?_setCell_other _ _ _ _ (ne _ _),World.cell?_setCell_other _ _ _ _ (ne _ _),World.cell?_setCell_other _ _ _ _ (ne _ _),World.cell?_setCell_other _ _ _ _ (ne _ _)];exact h.y4
 ·rw [World.cell?_setCell_other _ _ _ _ (ne _ _),World.cell?_setCell_other _ _ _ _ (ne _ _),World.cell?_setCell_other _ _ _ _ (ne _ _),World.cell?_setCell_other _ _ _ _ (ne _ _),World.cell?_setCell_other _ _ _ _ (ne _ _),World.cell?_setCell_other _ _ _ _ (ne _ _)];exact h.y5
theorem Fbu.s {w:World} {L:Nat} {c0x0 c0x1 c0x2 c1x0 c1x1 c1x2 c2x0 c2x1 c2x2 c3x0 c3x1 c3x2 c3x3 c3x4 c3x5 q0 q1 q2 q3 q4 q5:Value} {w':World} (h:Fbu w L c0x0 c0x1 c0x2 c1x0 c1x1 c1x2 c2x0 c2x1 c2x2 c3x0 c3x1 c3x2 c3x3 c3x4 c3x5 q0 q1 q2 q3 q4 q5 w'):w'.cell? ⟨w.heap.size+1,0,none⟩=some c1x0∧w'.cell? ⟨w.heap.size+1,1,none⟩=some c1x1∧w'.cell? ⟨w.heap.size+1,2,none⟩=some c1x2∧w'.cell? ⟨w.heap.size+1+1,0,none⟩=some c2x0∧w'.cell? ⟨w.heap.size+1+1,1,none⟩=some c2x1∧w'.cell? ⟨w.heap.size+1+1,2,none⟩=some c2x2∧w'.cell? ⟨L,0,none⟩=some q0∧w'.cell? ⟨L,1,none⟩=some q1∧w'.cell? ⟨L,2,none⟩=some q2∧w'.cell? ⟨L,3,none⟩=some q3∧w'.cell? ⟨L,4,none⟩=some q4∧w'.cell? ⟨L,5,none⟩=some q5:=⟨h.f.e1x0,h.f.e1x1,h.f.e1x2,h.f.e2x0,h.f.e2x1,h.f.e2x2,h.y0,h.y1,h.y2,h.y3,h.y4,h.y5⟩
def AvA (k:Nat) (a:Option Addr) (n:Nat):Prop:=n=0∨ ∀b off,a=some ⟨b,off,none⟩→b≠k
def AvV (k:Nat) (v:Value):Prop:= ∀us,v= .agg us→ ∀(i:Nat) a n c,us[i]? =some (.slice a n c)→AvA k a n
def NewV (B:Nat) (v:Value):Prop:= ∀k,k<B→AvV k v
theorem NewV.mono {B B':Nat} {v:Value} (h:NewV B v) (hB:B'≤B):NewV B' v:=fun k hk=>h k (Nat.lt_of_lt_of_le hk hB)
theorem AvV.two {k:Nat} {g:Bool} {a:Option Addr} {n c:Nat} (h:AvA k a n):AvV k (.agg #[g,.slice a n c]):=by
 intro us he i a' n' c' hi
 cases he
 match i with
 |0=>simp at hi
 |1=>simp at hi;obtain ⟨rfl,rfl,rfl⟩:=hi;exact h
 |i+2=>simp at hi
theorem AvV.get {k:Nat} {us:Array Value} (h:AvV k (.agg us)) (i:Nat) {a:Option Addr} {n c:Nat} (hi:us[i]? =some (.slice a n c)):AvA k a n:=h us rfl i a n c hi
theorem AvV.six {k:Nat} {g1 g2 g3:Bool} {a1 a2 a3:Option Addr} {n1 n2 n3 c1 c2 c3:Nat} (h1:AvA k a1 n1) (h2:AvA k a2 n2) (h3:AvA k a3 n3):AvV k (.agg #[g1,.slice a1 n1 c1,g2,.slice a2 n2 c2,g3,.slice a3 n3 c3]):=by
 intro us he i a' n' c' hi
 cases he
 match i with
 |0=>simp at hi
 |1=>simp at hi;obtain ⟨rfl,rfl,rfl⟩:=hi;exact h1
 |2=>simp at hi
 |3=>simp at hi;obtain ⟨rfl,rfl,rfl⟩:=hi;exact h2
 |4=>simp at hi
 |5=>simp at hi;obtain ⟨rfl,rfl,rfl⟩:=hi;exact h3
 |i+6=>simp at hi
theorem AvV.four {k:Nat} {g1 g2:Bool} {a1 a2:Option Addr} {n1 n2 c1 c2:Nat} (h1:AvA k a1 n1) (h2:AvA k a2 n2):AvV k (.agg #[g1,.slice a1 n1 c1,g2,.slice a2 n2 c2]):=by
 intro us he i a' n' c' hi
 cases he
 match i with
 |0=>simp at hi
 |1=>simp at hi;obtain ⟨rfl,rfl,rfl⟩:=hi;exact h1
 |2=>simp at hi
 |3=>simp at hi;obtain ⟨rfl,rfl,rfl⟩:=hi;exact h2
 |i+4=>simp at hi
theorem AvV.eight {k:Nat} {g1 g2 g3 g4:Bool} {a1 a2 a3 a4:Option Addr} {n1 n2 n3 n4 c1 c2 c3 c4:Nat} (h1:AvA k a1 n1) (h2:AvA k a2 n2) (h3:AvA k a3 n3) (h4:AvA k a4 n4):AvV k (.agg #[g1,.slice a1 n1 c1,g2,.slice a2 n2 c2,g3,.slice a3 n3 c3,g4,.slice a4 n4 c4]):=by
 intro us he i a' n' c' hi
 cases he
 match i with
 |0=>simp at hi
 |1=>simp at hi;obtain ⟨rfl,rfl,rfl⟩:=hi;exact h1
 |2=>simp at hi
 |3=>simp at hi;obtain ⟨rfl,rfl,rfl⟩:=hi;exact h2
 |4=>simp at hi
 |5=>simp at hi;obtain ⟨rfl,rfl,rfl⟩:=hi;exact h3
 |6=>simp at hi
 |7=>simp at hi;obtain ⟨rfl,rfl,rfl⟩:=hi;exact h4
 |i+8=>simp at hi
theorem NewV.six {B:Nat} {g1 g2 g3:Bool} {a1 a2 a3:Option Addr} {n1 n2 n3 c1 c2 c3:Nat} (h1:NewV B (.agg #[g1,.slice a1 n1 c1])) (h2:NewV B (.agg #[g2,.slice a2 n2 c2])) (h3:NewV B (.agg #[g3,.slice a3 n3 c3])):NewV B (.agg #[g1,.slice a1 n1 c1,g2,.slice a2 n2 c2,g3,.slice a3 n3 c3]):=
 fun k hk=>AvV.six ((h1 k hk).get 1 rfl) ((h2 k hk).get 1 rfl) ((h3 k hk).get 1 rfl)
theorem AvA.nil (k:Nat) (a:Option Addr):AvA k a 0:= .inl rfl
theorem BigIs.setAv {w:World} {v:Value} {e:Nat} {x:Int} {k i:Nat} {u:Value} (h:BigIs w v e x) (hn:AvV k v):BigIs (w.setCell ⟨k,i,none⟩ u) v e x:=by
 obtain ⟨g,a,c,zs,rfl,h1,h2,h3⟩:=h
 refine ⟨g,a,c,zs,rfl,h1,h2,?_⟩
 rcases h3 with h3| ⟨q,off,rfl,hq,hc⟩
 ·exact .inl h3
 ·rcases hn.get 1 rfl with hz|hz
  ·exact .inl (List.eq_nil_of_length_eq_zero hz)
  ·refine .inr ⟨q,off,rfl,by simpa using hq,fun j hj=> ?_⟩
   rw [World.cell?_setCell_other _ _ _ _ (by intro hh;apply hz q off rfl;have:=congrArg Addr.block hh;simp at this;exact this.symm)]
   exact hc j hj
theorem BigIs.setAllAv {v:Value} {e:Nat} {x:Int} {k:Nat} (hn:AvV k v): ∀(us:List Value) (w:World) (i:Nat),BigIs w v e x→BigIs (Go.Proofs.YtfieffpobgcpmaaGreatDoor.setAll w k i us) v e x
 | [],_,_,h=>h
 |_::us,_,i,h=>BigIs.setAllAv hn us _ (i+1) (h.setAv hn)
def BigNewOut (w:World) (e:Nat) (x:Int) (o:Ending) (w':World):Prop:= ∃v,o= .returned v∧BigIs w' v e x∧Below w.heap.size w w'∧NewV w.heap.size v
def VecNewOut (w:World) (e:Nat) (A B C:Int) (o:Ending) (w':World):Prop:= ∃v,o= .returned v∧VecB w' v e A B C∧Below w.heap.size w w'∧NewV w.heap.size v
theorem BigNewOut.of {w:World} {e n:Nat} {x:Int} {o:Ending} {w':World} (hm:Mg e x) (h:BigOut w x n o w'):BigNewOut w e x o w':=by
 obtain ⟨g,a,c,fs,rfl,h1,hc,h2,h3⟩:=h
 refine ⟨_,rfl,⟨g,a,c,fs,rfl,h1,⟨hm,hc.2⟩,h2.row⟩,h3,fun k hk=>AvV.two ?_⟩
 rcases h2 with rfl| ⟨b,off,rfl,hb,_⟩
 ·exact .inl rfl
 ·refine .inr fun b' off' he=> ?_
  have:=congrArg (fun a:Option Addr=>a.map Addr.block) he
  simp at this
  omega
theorem plusN_any (u v:Value) (e:Nat) (x y:Int) (w:World) (he:e≤3000) (hu:BigIs w u e x) (hv:BigIs w v e y):
 Calls Tryz.prog 200 #[u,v] w fun o w'=>BigNewOut w (e+1) (x+y) o w':=by
 obtain ⟨g,a,c,zs,rfl,h1,h2,h3⟩:=hu
 obtain ⟨g',a',c',ys,rfl,h1',h2',h3'⟩:=hv
 have:=limbs_le h1 h2.1 he
 have:=limbs_le h1' h2'.1 he
 exact (sumOf_any g g' a a' c c' zs ys x y w (by omega) (by omega) h3 h3' h1 h1').mono fun _ _ h=> .of (h2.1.add h2'.1) h
theorem minusN_any (u v:Value) (e:Nat) (x y:Int) (w:World) (he:e≤3000) (hu:BigIs w u e x) (hv:BigIs w v e y):
 Calls Tryz.prog 199 #[u,v] w fun o w'=>BigNewOut w (e+1) (x-y) o w':=by
 obtain ⟨g,a,c,zs,rfl,h1,h2,h3⟩:=hu
 obtain ⟨g',a',c',ys,rfl,h1',h2',h3'⟩:=hv
 have:=limbs_le h1 h2.1 he
 have:=limbs_le h1' h2'.1 he
 exact (minusB_any g g' a a' c c' zs ys x y w (by omega) (by omega) h3 h3' h1 h1').mono fun _ _ h=> .of (h2.1.sub h2'.1) h
theorem timesN_any (u v:Value) (e f:Nat) (x y:Int) (w:World) (he:e+f≤3000) (hu:BigIs w u e x) (hv:BigIs w v f y):
 Calls Tryz.prog 53 #[u,v] w fun o w'=>BigNewOut w (e+f) (x*y) o w':=by
 obtain ⟨g,a,c,zs,rfl,h1,h2,h3⟩:=hu
 obtain ⟨g',a',c',ys,rfl,h1',h2',h3'⟩:=hv
 have:=limbs_le h1 h2.1 (by omega)
 have:=limbs_le h1' h2'.1 (by omega)
 exact (productOf_any g g' a a' c c' zs ys x y w (by omega) (by omega) h3 h3' h1 h1').mono fun _ _ h=> .of (h2.1.mul h2'.1) h
theorem oneN_any (w:World):Calls Tryz.prog 79 #[] w fun o w'=>BigNewOut w 0 1 o w':=by
 refine (one_any w).mono ?_
 rintro o w' ⟨b,rfl,h1,h2,h3,hb⟩
 refine ⟨_,rfl,⟨false,some ⟨b,0,none⟩,1,[1],rfl,⟨⟨Dig.cons (by decide) (by decide) (Dig.nil _),by decide⟩,by decide,fun h=>by cases h⟩,⟨⟨by decide,by decide⟩,by simp,by unfold maxLen;omega⟩,Or.inr ⟨b,0,rfl,h2,?_⟩⟩,hb,fun k hk=>AvV.two (.inr fun b' off' he=> ?_)⟩
 ·intro j hj
  have:j=0:=by simp at hj;omega
  subst this
  exact h3
 ·have:=congrArg (fun a:Option Addr=>a.map Addr.block) he
  simp at this
  omega
end Go.Proofs.YtfieffpobgcpmaaGreatDoor
