import Derived.Test.YtfieffpobgcpmaaGreatDoorEsGToBgES
import Derived.Test.YtfieffpobgcpmaaGreatDoorEsKBgHEsHEsLEsIS
import Derived.Test.YtfieffpobgcpmaaGreatDoorEsMEsJEsNS
import Derived.Deep.RegionHeld3
import Derived.Deep.MidRow
set_option maxRecDepth 100000
set_option maxHeartbeats 32000000
namespace Go.Proofs.YtfieffpobgcpmaaGreatDoor
open Go.RowKit Go.Proofs.Tryz
variable {w w' W W':World} {v c0x0 c0x1 c0x2 c1x0 c1x1 c1x2 c2x0 c2x1 c2x2 c3x0 c3x1 c3x2 c3x3 c3x4 c3x5 q0 q1 q2 q3 q4 q5 u x0 x1 x2 x3 x4 x5 x6 x7:Value} {k L n n1 n2 n3 c1 c3 e i b b':Nat} {g1 g2 g3:Bool} {a1 a2 a3:Option Addr} {x:Int} {us T:List Value}
def ξi (w:World) (v:Value) (m k:Nat) (S:Int) (O D:V3):Prop:= ∃(gs1:Bool) (as1:Option Addr) (cs1:Nat) (zs1:List Int) (gs2:Bool) (as2:Option Addr) (cs2:Nat) (zs2:List Int) (gs3:Bool) (as3:Option Addr) (cs3:Nat) (zs3:List Int) (gd1:Bool) (ad1:Option Addr) (cd1:Nat) (zd1:List Int) (gd2:Bool) (ad2:Option Addr) (cd2:Nat) (zd2:List Int) (gd3:Bool) (ad3:Option Addr) (cd3:Nat) (zd3:List Int) (gk:Bool) (ak:Option Addr) (ck:Nat) (zk:List Int),v=(.agg #[gs1,.slice as1 zs1 cs1,gs2,.slice as2 zs2 cs2,gs3,.slice as3 zs3 cs3,gd1,.slice ad1 zd1 cd1,gd2,.slice ad2 zd2 cd2,gd3,.slice ad3 zd3 cd3,gk,.slice ak zk ck])∧ζM w (.agg #[gs1,.slice as1 zs1 cs1,gs2,.slice as2 zs2 cs2,gs3,.slice as3 zs3 cs3]) m O.x O.y O.z∧ζM w (.agg #[gd1,.slice ad1 zd1 cd1,gd2,.slice ad2 zd2 cd2,gd3,.slice ad3 zd3 cd3]) m D.x D.y D.z∧ζe w (.agg #[gk,.slice ak zk ck]) k S
theorem ξi.later {m:Nat} {S:Int} {O D:V3} (h:ξi w v m k S O D) (hb:Below w w w'):ξi w' v m k S O D:=by
 obtain ⟨gs1,as1,cs1,zs1,gs2,as2,cs2,zs2,gs3,as3,cs3,zs3,gd1,ad1,cd1,zd1,gd2,ad2,cd2,zd2,gd3,ad3,cd3,zd3,gk,ak,ck,zk,rfl,h1,h2,h3⟩:=h
 exact ⟨gs1,as1,cs1,zs1,gs2,as2,cs2,zs2,gs3,as3,cs3,zs3,gd1,ad1,cd1,zd1,gd2,ad2,cd2,zd2,gd3,ad3,cd3,zd3,gk,ak,ck,zk,rfl,h1.later hb,h2.later hb,h3.later hb⟩
theorem ωb (v:Value) (m k:Nat) (S:Int) (O D:V3) (p0 p1 p2:Int) (w:World) (hm:277<=m) (hmk:m+k<=28000) (hT:Tab w) (hl:ξi w v m k S O D) (h0:Cor p0) (h1:Cor p1) (h2:Cor p2):
 Calls prog 133 #[v,.agg #[p0,p1,p2]] w fun o w'=>ψJ w (m+k+1) ((V3.sc S (pv p0 p1 p2)).sub O).x ((V3.sc S (pv p0 p1 p2)).sub O).y ((V3.sc S (pv p0 p1 p2)).sub O).z o w':=by
 obtain ⟨gs1,as1,cs1,zs1,gs2,as2,cs2,zs2,gs3,as3,cs3,zs3,gd1,ad1,cd1,zd1,gd2,ad2,cd2,zd2,gd3,ad3,cd3,zd3,gk,ak,ck,zk,rfl,hS,hD,hK⟩:=hl
 go_enter func133,ntmps133
 go_wp2_with fail
 obtain ⟨W0,hW0⟩: ∃V0,V0=(((w.alloc (.cells #[gs1,.slice as1 zs1 cs1,gs2,.slice as2 zs2 cs2,gs3,.slice as3 zs3 cs3,gd1,.slice ad1 zd1 cd1,gd2,.slice ad2 zd2 cd2,gd3,.slice ad3 zd3 cd3,gk,.slice ak zk ck] 94)).alloc (.cells #[p0,p1,p2] 34)).alloc (.cells #[false,(),false,(),false,()] 92)):=⟨_,rfl⟩
 rw [<-hW0]
 have FR:Hid (Fto w gs1 (.slice as1 zs1 cs1) gs2 (.slice as2 zs2 cs2) gs3 (.slice as3 zs3 cs3) gd1 (.slice ad1 zd1 cd1) gd2 (.slice ad2 zd2 cd2) gd3 (.slice ad3 zd3 cd3) gk (.slice ak zk ck) p0 p1 p2 false () false () false () W0):=by rw [hW0];exact Fto.start w _ _ _ _ _ _ _ _ _ _ _ _ _ _ _ _ _ _ _ _ _ _ _ _ _ _
 have HNI:Hid (ζf W0 (↑w+1+1)):=by
  have hz: ∀(i:Nat) (k:IntKind) (m:Int),(#[↑false,↑(),↑false,↑(),↑false,↑()]:Array Value)[i]? ≠some (Value.int k m):=by
   intro i k m
   match i with|0=>simp|1=>simp|2=>simp|3=>simp|4=>simp|5=>simp|n+6=>simp
  have h1:=ζf.new ((w.alloc (.cells #[gs1,.slice as1 zs1 cs1,gs2,.slice as2 zs2 cs2,gs3,.slice as3 zs3 cs3,gd1,.slice ad1 zd1 cd1,gd2,.slice ad2 zd2 cd2,gd3,.slice ad3 zd3 cd3,gk,.slice ak zk ck] 94)).alloc (.cells #[p0,p1,p2] 34)) #[false,(),false,(),false,()] 92 hz
  have hs:((w.alloc (.cells #[gs1,.slice as1 zs1 cs1,gs2,.slice as2 zs2 cs2,gs3,.slice as3 zs3 cs3,gd1,.slice ad1 zd1 cd1,gd2,.slice ad2 zd2 cd2,gd3,.slice ad3 zd3 cd3,gk,.slice ak zk ck] 94)).alloc (.cells #[p0,p1,p2] 34)).heap.size=w.heap.size+1+1:=by simp
  rw [hs] at h1
  unfold Hid;rw [hW0];exact h1
 clear hW0
 have TT_0:=(hT.later FR.out.bel).later (w':=W0.drew) (Below.refl _ _).drew
 have SS_0:=(hS.later FR.out.bel).later (w':=W0.drew) (Below.refl _ _).drew
 have KK_0:=(hK.later FR.out.bel).later (w':=W0.drew) (Below.refl _ _).drew
 have NI_0:=HNI.out.later (w':=W0.drew) (Below.refl _ _).drew
 have F0:Fto w gs1 (.slice as1 zs1 cs1) gs2 (.slice as2 zs2 cs2) gs3 (.slice as3 zs3 cs3) gd1 (.slice ad1 zd1 cd1) gd2 (.slice ad2 zd2 cd2) gd3 (.slice ad3 zd3 cd3) gk (.slice ak zk ck) p0 p1 p2 false () false () false () W0.drew:=FR.out.later (Below.refl _ _).drew
 go_region_held3 (fun w'=>w'.cell? ⟨w,0,none⟩=some ↑gs1∧w'.cell? ⟨w,1,none⟩=some (.slice as1 zs1 cs1)∧w'.cell? ⟨w,2,none⟩=some ↑gs2∧w'.cell? ⟨w,3,none⟩=some (.slice as2 zs2 cs2)∧w'.cell? ⟨w,4,none⟩=some ↑gs3∧w'.cell? ⟨w,5,none⟩=some (.slice as3 zs3 cs3)∧w'.cell? ⟨w,6,none⟩=some ↑gd1∧w'.cell? ⟨w,7,none⟩=some (.slice ad1 zd1 cd1)∧w'.cell? ⟨w,8,none⟩=some ↑gd2∧w'.cell? ⟨w,9,none⟩=some (.slice ad2 zd2 cd2)∧w'.cell? ⟨w,10,none⟩=some ↑gd3∧w'.cell? ⟨w,11,none⟩=some (.slice ad3 zd3 cd3)∧w'.cell? ⟨w,12,none⟩=some ↑gk∧w'.cell? ⟨w,13,none⟩=some (.slice ak zk ck)∧w'.cell? ⟨↑w+1,0,none⟩=some ↑p0∧w'.cell? ⟨↑w+1,1,none⟩=some ↑p1∧w'.cell? ⟨↑w+1,2,none⟩=some ↑p2)
  (first|with_reducible exact (F3.set2 _ _ _ _ _ _).s|with_reducible exact Fto.s (by with_reducible assumption))
  (first
   |(have hBB:=hB2;clear hBB;go_at_call 135;refine (ξy _ _ (m+k) (cor p0*S) (cor p1*S) (cor p2*S) O.x O.y O.z _ (by omega) (R2_2.up (by omega)) (SS_2.up (by omega))).mono ?_;rintro o w3 ⟨v3,rfl,hv3,hb3⟩;have R3_3:ζM w3 v3 (m+k+1) (cor p0*S-O.x) (cor p1*S-O.y) (cor p2*S-O.z):=hv3;obtain ⟨gr31,ar31,cr31,zr31,gr32,ar32,cr32,zr32,gr33,ar33,cr33,zr33,rfl,_,_,_⟩:=hv3;have TT_3:=TT_2.later hb3;have SS_3:=SS_2.later hb3;have KK_3:=KK_2.later hb3;have NI_3:=NI_2.later hb3;have R1_3:=R1_2.later hb3;have R2_3:=R2_2.later hb3;have hB3:Below W0 W0 w3:=hB2.trans (hb3.mono hB2.size);have F3:Fto w gs1 (.slice as1 zs1 cs1) gs2 (.slice as2 zs2 cs2) gs3 (.slice as3 zs3 cs3) gd1 (.slice ad1 zd1 cd1) gd2 (.slice ad2 zd2 cd2) gd3 (.slice ad3 zd3 cd3) gk (.slice ak zk ck) p0 p1 p2 false () false () false () w3:=FR.out.later hB3;have r0:=F3.e2x0;have r1:=F3.e2x1;have r2:=F3.e2x2;have r3:=F3.e2x3;have r4:=F3.e2x4;have r5:=F3.e2x5;have rz:=F3.f2)
   |(have hBB:=hB1;clear hBB;go_at_call 153;refine (ξH _ _ 277 k (cor p0) (cor p1) (cor p2) S _ (by omega) R1_1 KK_1).mono ?_;rintro o w2 ⟨v2,rfl,hv2,hb2⟩;have R2_2:ζM w2 v2 (277+k) (cor p0*S) (cor p1*S) (cor p2*S):=hv2;obtain ⟨gr21,ar21,cr21,zr21,gr22,ar22,cr22,zr22,gr23,ar23,cr23,zr23,rfl,_,_,_⟩:=hv2;have TT_2:=TT_1.later hb2;have SS_2:=SS_1.later hb2;have KK_2:=KK_1.later hb2;have NI_2:=NI_1.later hb2;have R1_2:=R1_1.later hb2;have hB2:Below W0 W0 w2:=hB1.trans (hb2.mono hB1.size);have F2:Fto w gs1 (.slice as1 zs1 cs1) gs2 (.slice as2 zs2 cs2) gs3 (.slice as3 zs3 cs3) gd1 (.slice ad1 zd1 cd1) gd2 (.slice ad2 zd2 cd2) gd3 (.slice ad3 zd3 cd3) gk (.slice ak zk ck) p0 p1 p2 false () false () false () w2:=FR.out.later hB2)
   |(go_at_call 122;refine (ξe p0 p1 p2 _ TT_0 h0 h1 h2).mono ?_;rintro o w1 ⟨v1,rfl,hv1,hb1⟩;have R1_1:ζM w1 v1 277 (cor p0) (cor p1) (cor p2):=hv1;obtain ⟨gr11,ar11,cr11,zr11,gr12,ar12,cr12,zr12,gr13,ar13,cr13,zr13,rfl,_,_,_⟩:=hv1;have TT_1:=TT_0.later hb1;have SS_1:=SS_0.later hb1;have KK_1:=KK_0.later hb1;have NI_1:=NI_0.later hb1;have hB1:Below W0 W0 w1:=(Below.refl _ _).drew.trans hb1;have F1:Fto w gs1 (.slice as1 zs1 cs1) gs2 (.slice as2 zs2 cs2) gs3 (.slice as3 zs3 cs3) gd1 (.slice ad1 zd1 cd1) gd2 (.slice ad2 zd2 cd2) gd3 (.slice ad3 zd3 cd3) gk (.slice ak zk ck) p0 p1 p2 false () false () false () w1:=FR.out.later hB1))
 have HF:Hid (Fto w gs1 (.slice as1 zs1 cs1) gs2 (.slice as2 zs2 cs2) gs3 (.slice as3 zs3 cs3) gd1 (.slice ad1 zd1 cd1) gd2 (.slice ad2 zd2 cd2) gd3 (.slice ad3 zd3 cd3) gk (.slice ak zk ck) p0 p1 p2 false () false () false () w3):=F3
 have HR3:Hid (ζM w3 (.agg #[gr31,.slice ar31 zr31 cr31,gr32,.slice ar32 zr32 cr32,gr33,.slice ar33 zr33 cr33]) (m+k+1) (cor p0*S-O.x) (cor p1*S-O.y) (cor p2*S-O.z)):=R3_3
 have HNN:Hid (ζf w3 (↑w+1+1)):=NI_3
 clear hB1 hb1 F1 hB2 hb2 F2 hB3 hb3 F3 TT_0 TT_1 TT_2 TT_3 SS_0 SS_1 SS_2 SS_3 KK_0 KK_1 KK_2 KK_3 NI_0 NI_1 NI_2 NI_3 R1_1 R1_2 R1_3 R2_2 R2_3 R3_3 F0
 go_wp2
 refine bodyPost_ret (v:= .agg #[gr31,.slice ar31 zr31 cr31,gr32,.slice ar32 zr32 cr32,gr33,.slice ar33 zr33 cr33]) (by simp [results,results133,go_sem,r0,r1,r2,r3,r4,r5]) rfl ?_
 refine ⟨_,rfl,by have hh:=(HR3.out.setAll [gr31,.slice ar31 zr31 cr31,gr32,.slice ar32 zr32 cr32,gr33,.slice ar33 zr33 cr33] _ 0 HNN.out (by simp [ζh]));rw [Int.mul_comm (cor p0),Int.mul_comm (cor p1),Int.mul_comm (cor p2)] at hh;exact hh,?_⟩
 exact (HF.out.set2 _ _ _ _ _ _).bel
structure Fbu (w:World) (L:Nat) (c0x0 c0x1 c0x2 c1x0 c1x1 c1x2 c2x0 c2x1 c2x2 c3x0 c3x1 c3x2 c3x3 c3x4 c3x5 q0 q1 q2 q3 q4 q5:Value) (W:World):Prop where
 f:Fnt w c0x0 c0x1 c0x2 c1x0 c1x1 c1x2 c2x0 c2x1 c2x2 c3x0 c3x1 c3x2 c3x3 c3x4 c3x5 W
 y0:W.cell? ⟨L,0,none⟩=some q0
 y1:W.cell? ⟨L,1,none⟩=some q1
 y2:W.cell? ⟨L,2,none⟩=some q2
 y3:W.cell? ⟨L,3,none⟩=some q3
 y4:W.cell? ⟨L,4,none⟩=some q4
 y5:W.cell? ⟨L,5,none⟩=some q5
 lt:L<W.heap.size
 hL:w.heap.size+1+1+1+1<=L
theorem Fbu.later (h:Fbu w L c0x0 c0x1 c0x2 c1x0 c1x1 c1x2 c2x0 c2x1 c2x2 c3x0 c3x1 c3x2 c3x3 c3x4 c3x5 q0 q1 q2 q3 q4 q5 W) (hb:Below W W W'):Fbu w L c0x0 c0x1 c0x2 c1x0 c1x1 c1x2 c2x0 c2x1 c2x2 c3x0 c3x1 c3x2 c3x3 c3x4 c3x5 q0 q1 q2 q3 q4 q5 W':=
 ⟨h.f.later hb,((ζj hb).1 _ _ h.lt).trans h.y0,((ζj hb).1 _ _ h.lt).trans h.y1,((ζj hb).1 _ _ h.lt).trans h.y2,((ζj hb).1 _ _ h.lt).trans h.y3,((ζj hb).1 _ _ h.lt).trans h.y4,((ζj hb).1 _ _ h.lt).trans h.y5,Nat.lt_of_lt_of_le h.lt hb.size,h.hL⟩
theorem Fbu.start (h:Fnt w c0x0 c0x1 c0x2 c1x0 c1x1 c1x2 c2x0 c2x1 c2x2 c3x0 c3x1 c3x2 c3x3 c3x4 c3x5 W) (q0 q1 q2 q3 q4 q5:Value) (t:TypeId):Fbu w W c0x0 c0x1 c0x2 c1x0 c1x1 c1x2 c2x0 c2x1 c2x2 c3x0 c3x1 c3x2 c3x3 c3x4 c3x5 q0 q1 q2 q3 q4 q5 (W.alloc (.cells #[q0,q1,q2,q3,q4,q5] t)):=by
 refine ⟨h.later (ζc _ _),?_,?_,?_,?_,?_,?_,by simp,h.le⟩
 all_goals simp [go_sem]
theorem Fbu.set3 (h:Fbu w L c0x0 c0x1 c0x2 c1x0 c1x1 c1x2 c2x0 c2x1 c2x2 c3x0 c3x1 c3x2 c3x3 c3x4 c3x5 q0 q1 q2 q3 q4 q5 W) (v0 v1 v2 v3 v4 v5:Value):Fbu w L c0x0 c0x1 c0x2 c1x0 c1x1 c1x2 c2x0 c2x1 c2x2 v0 v1 v2 v3 v4 v5 q0 q1 q2 q3 q4 q5 ((((((W.setCell ⟨↑w+1+1+1,0,none⟩ v0).setCell ⟨↑w+1+1+1,1,none⟩ v1).setCell ⟨↑w+1+1+1,2,none⟩ v2).setCell ⟨↑w+1+1+1,3,none⟩ v3).setCell ⟨↑w+1+1+1,4,none⟩ v4).setCell ⟨↑w+1+1+1,5,none⟩ v5):=by
 have hL:=h.hL
 have ne: ∀j i,(⟨↑w+1+1+1,j,none⟩:Addr)≠⟨L,i,none⟩:=fun j i e=>by have:=congrArg Addr.block e;simp at this;omega
 refine ⟨h.f.set3 v0 v1 v2 v3 v4 v5,?_,?_,?_,?_,?_,?_,by simpa using h.lt,h.hL⟩
 ·rw [World.cell?_setCell_other _ _ _ _ (ne _ _),World.cell?_setCell_other _ _ _ _ (ne _ _),World.cell?_setCell_other _ _ _ _ (ne _ _),World.cell?_setCell_other _ _ _ _ (ne _ _),World.cell?_setCell_other _ _ _ _ (ne _ _),World.cell?_setCell_other _ _ _ _ (ne _ _)];exact h.y0
 ·rw [World.cell?_setCell_other _ _ _ _ (ne _ _),World.cell?_setCell_other _ _ _ _ (ne _ _),World.cell?_setCell_other _ _ _ _ (ne _ _),World.cell?_setCell_other _ _ _ _ (ne _ _),World.cell?_setCell_other _ _ _ _ (ne _ _),World.cell?_setCell_other _ _ _ _ (ne _ _)];exact h.y1
 ·rw [World.cell?_setCell_other _ _ _ _ (ne _ _),World.cell?_setCell_other _ _ _ _ (ne _ _),World.cell?_setCell_other _ _ _ _ (ne _ _),World.cell?_setCell_other _ _ _ _ (ne _ _),World.cell?_setCell_other _ _ _ _ (ne _ _),World.cell?_setCell_other _ _ _ _ (ne _ _)];exact h.y2
 ·rw [World.cell?_setCell_other _ _ _ _ (ne _ _),World.cell?_setCell_other _ _ _ _ (ne _ _),World.cell?_setCell_other _ _ _ _ (ne _ _),World.cell?_setCell_other _ _ _ _ (ne _ _),World.cell?_setCell_other _ _ _ _ (ne _ _),World.cell?_setCell_other _ _ _ _ (ne _ _)];exact h.y3
 ·rw [World.cell?_setCell_other _ _ _ _ (ne _ _),World.cell?_setCell_other _ _ _ _ (ne _ _),World.cell?_setCell_other _ _ _ _ (ne _ _),World.cell?_setCell_other _ _ _ _ (ne _ _),World.cell?_setCell_other _ _ _ _ (ne _ _),World.cell?_setCell_other _ _ _ _ (ne _ _)];exact h.y4
 ·rw [World.cell?_setCell_other _ _ _ _ (ne _ _),World.cell?_setCell_other _ _ _ _ (ne _ _),World.cell?_setCell_other _ _ _ _ (ne _ _),World.cell?_setCell_other _ _ _ _ (ne _ _),World.cell?_setCell_other _ _ _ _ (ne _ _),World.cell?_setCell_other _ _ _ _ (ne _ _)];exact h.y5
theorem Fbu.s (h:Fbu w L c0x0 c0x1 c0x2 c1x0 c1x1 c1x2 c2x0 c2x1 c2x2 c3x0 c3x1 c3x2 c3x3 c3x4 c3x5 q0 q1 q2 q3 q4 q5 w'):w'.cell? ⟨↑w+1,0,none⟩=some c1x0∧w'.cell? ⟨↑w+1,1,none⟩=some c1x1∧w'.cell? ⟨↑w+1,2,none⟩=some c1x2∧w'.cell? ⟨↑w+1+1,0,none⟩=some c2x0∧w'.cell? ⟨↑w+1+1,1,none⟩=some c2x1∧w'.cell? ⟨↑w+1+1,2,none⟩=some c2x2∧w'.cell? ⟨L,0,none⟩=some q0∧w'.cell? ⟨L,1,none⟩=some q1∧w'.cell? ⟨L,2,none⟩=some q2∧w'.cell? ⟨L,3,none⟩=some q3∧w'.cell? ⟨L,4,none⟩=some q4∧w'.cell? ⟨L,5,none⟩=some q5:=⟨h.f.e1x0,h.f.e1x1,h.f.e1x2,h.f.e2x0,h.f.e2x1,h.f.e2x2,h.y0,h.y1,h.y2,h.y3,h.y4,h.y5⟩
def AvA (k:Nat) (a:Option Addr) (n:Nat):Prop:=n=0∨ ∀b off,a=some ⟨b,off,none⟩->b≠k
def AvV (k:Nat) (v:Value):Prop:= ∀us,v= .agg us-> ∀(i:Nat) a n c,us[i]? =some (.slice a n c)->AvA k a n
def ψB (B:Nat) (v:Value):Prop:= ∀k,k<B->AvV k v
theorem ψB.mono {B B':Nat} (h:ψB B v) (hB:B'<=B):ψB B' v:=fun k hk=>h k (Nat.lt_of_lt_of_le hk hB)
theorem AvV.two {g:Bool} {a:Option Addr} {c:Nat} (h:AvA k a n):AvV k (.agg #[g,.slice a n c]):=by
 intro us he i a' n' c' hi
 cases he
 match i with
 |0=>simp at hi
 |1=>simp at hi;obtain ⟨rfl,rfl,rfl⟩:=hi;exact h
 |i+2=>simp at hi
theorem AvV.get {us:Array Value} (h:AvV k (.agg us)) (i:Nat) {a:Option Addr} {c:Nat} (hi:us[i]? =some (.slice a n c)):AvA k a n:=h us rfl i a n c hi
theorem AvV.six {c2:Nat} (h1:AvA k a1 n1) (h2:AvA k a2 n2) (h3:AvA k a3 n3):AvV k (.agg #[g1,.slice a1 n1 c1,g2,.slice a2 n2 c2,g3,.slice a3 n3 c3]):=by
 intro us he i a' n' c' hi
 cases he
 match i with
 |0=>simp at hi
 |1=>simp at hi;obtain ⟨rfl,rfl,rfl⟩:=hi;exact h1
 |2=>simp at hi
 |3=>simp at hi;obtain ⟨rfl,rfl,rfl⟩:=hi;exact h2
 |4=>simp at hi
 |5=>simp at hi;obtain ⟨rfl,rfl,rfl⟩:=hi;exact h3
 |i+6=>simp at hi
theorem AvV.four {c2:Nat} (h1:AvA k a1 n1) (h2:AvA k a2 n2):AvV k (.agg #[g1,.slice a1 n1 c1,g2,.slice a2 n2 c2]):=by
 intro us he i a' n' c' hi
 cases he
 match i with
 |0=>simp at hi
 |1=>simp at hi;obtain ⟨rfl,rfl,rfl⟩:=hi;exact h1
 |2=>simp at hi
 |3=>simp at hi;obtain ⟨rfl,rfl,rfl⟩:=hi;exact h2
 |i+4=>simp at hi
theorem AvV.eight {g4:Bool} {a4:Option Addr} {n4 c2 c4:Nat} (h1:AvA k a1 n1) (h2:AvA k a2 n2) (h3:AvA k a3 n3) (h4:AvA k a4 n4):AvV k (.agg #[g1,.slice a1 n1 c1,g2,.slice a2 n2 c2,g3,.slice a3 n3 c3,g4,.slice a4 n4 c4]):=by
 intro us he i a' n' c' hi
 cases he
 match i with
 |0=>simp at hi
 |1=>simp at hi;obtain ⟨rfl,rfl,rfl⟩:=hi;exact h1
 |2=>simp at hi
 |3=>simp at hi;obtain ⟨rfl,rfl,rfl⟩:=hi;exact h2
 |4=>simp at hi
 |5=>simp at hi;obtain ⟨rfl,rfl,rfl⟩:=hi;exact h3
 |6=>simp at hi
 |7=>simp at hi;obtain ⟨rfl,rfl,rfl⟩:=hi;exact h4
 |i+8=>simp at hi
theorem ψB.six {B:Nat} {c2:Nat} (h1:ψB B (.agg #[g1,.slice a1 n1 c1])) (h2:ψB B (.agg #[g2,.slice a2 n2 c2])) (h3:ψB B (.agg #[g3,.slice a3 n3 c3])):ψB B (.agg #[g1,.slice a1 n1 c1,g2,.slice a2 n2 c2,g3,.slice a3 n3 c3]):=
 fun k hk=>AvV.six ((h1 k hk).get 1 rfl) ((h2 k hk).get 1 rfl) ((h3 k hk).get 1 rfl)
theorem AvA.nil (k:Nat) (a:Option Addr):AvA k a 0:= .inl rfl
theorem ζe.setAv (h:ζe w v e x) (hn:AvV k v):ζe (w.setCell ⟨k,i,none⟩ u) v e x:=by
 obtain ⟨g,a,c,zs,rfl,h1,h2,h3⟩:=h
 refine ⟨g,a,c,zs,rfl,h1,h2,?_⟩
 rcases h3 with h3| ⟨q,off,rfl,hq,hc⟩
 ·exact .inl h3
 ·rcases hn.get 1 rfl with hz|hz
  ·exact .inl (List.eq_nil_of_length_eq_zero hz)
  ·refine .inr ⟨q,off,rfl,by simpa using hq,fun j hj=> ?_⟩
   rw [World.cell?_setCell_other _ _ _ _ (by intro hh;apply hz q off rfl;have:=congrArg Addr.block hh;simp at this;exact this.symm)]
   exact hc j hj
theorem ζe.setAllAv {v:Value} {e:Nat} {x:Int} {k:Nat} (hn:AvV k v): ∀(us:List Value) (w:World) (i:Nat),ζe w v e x->ζe (Go.Proofs.YtfieffpobgcpmaaGreatDoor.setAll w k i us) v e x
 | [],_,_,h=>h
 |_::us,_,i,h=>ζe.setAllAv hn us _ (i+1) (h.setAv hn)
def ξz (w:World) (e:Nat) (x:Int) (o:Ending) (w':World):Prop:= ∃v,o= .returned v∧ζe w' v e x∧Below w w w'∧ψB w v
def ω1 (w:World) (e:Nat) (A B C:Int) (o:Ending) (w':World):Prop:= ∃v,o= .returned v∧ζM w' v e A B C∧Below w w w'∧ψB w v
theorem ξz.of {o:Ending} (hm:Mg e x) (h:ψX w x n o w'):ξz w e x o w':=by
 obtain ⟨g,a,c,fs,rfl,h1,hc,h2,h3⟩:=h
 refine ⟨_,rfl,⟨g,a,c,fs,rfl,h1,⟨hm,hc.2⟩,h2.row⟩,h3,fun k hk=>AvV.two ?_⟩
 rcases h2 with rfl| ⟨b,off,rfl,hb,_⟩
 ·exact .inl rfl
 ·refine .inr fun b' off' he=> ?_
  have:=congrArg (fun a:Option Addr=>a.map Addr.block) he
  simp at this
  omega
theorem ω2 (u v:Value) (e:Nat) (x y:Int) (w:World) (he:e<=30000) (hu:ζe w u e x) (hv:ζe w v e y):
 Calls prog 200 #[u,v] w fun o w'=>ξz w (e+1) (x+y) o w':=by
 obtain ⟨g,a,c,zs,rfl,h1,h2,h3⟩:=hu
 obtain ⟨g',a',c',ys,rfl,h1',h2',h3'⟩:=hv
 have:=ζC h1 h2.1 he
 have:=ζC h1' h2'.1 he
 exact (φ6 g g' a a' c c' zs ys x y w (by omega) (by omega) h3 h3' h1 h1').mono fun _ _ h=> .of (h2.1.add h2'.1) h
theorem φh (u v:Value) (e:Nat) (x y:Int) (w:World) (he:e<=30000) (hu:ζe w u e x) (hv:ζe w v e y):
 Calls prog 199 #[u,v] w fun o w'=>ξz w (e+1) (x-y) o w':=by
 obtain ⟨g,a,c,zs,rfl,h1,h2,h3⟩:=hu
 obtain ⟨g',a',c',ys,rfl,h1',h2',h3'⟩:=hv
 have:=ζC h1 h2.1 he
 have:=ζC h1' h2'.1 he
 exact (χI g g' a a' c c' zs ys x y w (by omega) (by omega) h3 h3' h1 h1').mono fun _ _ h=> .of (h2.1.sub h2'.1) h
theorem ζ3 (u v:Value) (e f:Nat) (x y:Int) (w:World) (he:e+f<=30000) (hu:ζe w u e x) (hv:ζe w v f y):
 Calls prog 53 #[u,v] w fun o w'=>ξz w (e+f) (x*y) o w':=by
 obtain ⟨g,a,c,zs,rfl,h1,h2,h3⟩:=hu
 obtain ⟨g',a',c',ys,rfl,h1',h2',h3'⟩:=hv
 have:=ζC h1 h2.1 (by omega)
 have:=ζC h1' h2'.1 (by omega)
 exact (ψ1 g g' a a' c c' zs ys x y w (by omega) (by omega) h3 h3' h1 h1').mono fun _ _ h=> .of (h2.1.mul h2'.1) h
theorem φD (w:World):Calls prog 79 #[] w fun o w'=>ξz w 0 1 o w':=by
 refine (ρ4 w).mono ?_
 rintro o w' ⟨b,rfl,h1,h2,h3,hb⟩
 refine ⟨_,rfl,⟨false,some ⟨b,0,none⟩,1,[1],rfl,⟨⟨Dig.cons (by decide) (by decide) (Dig.nil _),by decide⟩,by decide,fun h=>by cases h⟩,⟨⟨by decide,by decide⟩,by simp,by unfold maxLen;omega⟩,Or.inr ⟨b,0,rfl,h2,?_⟩⟩,hb,fun k hk=>AvV.two (.inr fun b' off' he=> ?_)⟩
 ·intro j hj
  have:j=0:=by simp at hj;omega
  subst this
  exact h3
 ·have:=congrArg (fun a:Option Addr=>a.map Addr.block) he
  simp at this
  omega
def Cs (W:World) (b:Nat) (us:List Value):Prop:=b<W.heap.size∧(∀j,W.frozen? ⟨b,j,none⟩=false)∧ ∀j u,us[j]? =some u->W.cell? ⟨b,0+j,none⟩=some u
theorem Cs.at (h:Cs W b us) (j:Nat) (hj:us[j]? =some u):W.cell? ⟨b,j,none⟩=some u:=by
 have:=h.2.2 j u hj
 rwa [Nat.zero_add] at this
theorem Cs.c2 (h:Cs W b [x0,x1]):W.cell? ⟨b,0,none⟩=some x0∧W.cell? ⟨b,1,none⟩=some x1:=⟨h.at 0 rfl,h.at 1 rfl⟩
theorem Cs.c4 (h:Cs W b [x0,x1,x2,x3]):W.cell? ⟨b,0,none⟩=some x0∧W.cell? ⟨b,1,none⟩=some x1∧W.cell? ⟨b,2,none⟩=some x2∧W.cell? ⟨b,3,none⟩=some x3:=⟨h.at 0 rfl,h.at 1 rfl,h.at 2 rfl,h.at 3 rfl⟩
theorem Cs.c5 (h:Cs W b [x0,x1,x2,x3,x4]):W.cell? ⟨b,0,none⟩=some x0∧W.cell? ⟨b,1,none⟩=some x1∧W.cell? ⟨b,2,none⟩=some x2∧W.cell? ⟨b,3,none⟩=some x3∧W.cell? ⟨b,4,none⟩=some x4:=⟨h.at 0 rfl,h.at 1 rfl,h.at 2 rfl,h.at 3 rfl,h.at 4 rfl⟩
theorem Cs.c6 (h:Cs W b [x0,x1,x2,x3,x4,x5]):W.cell? ⟨b,0,none⟩=some x0∧W.cell? ⟨b,1,none⟩=some x1∧W.cell? ⟨b,2,none⟩=some x2∧W.cell? ⟨b,3,none⟩=some x3∧W.cell? ⟨b,4,none⟩=some x4∧W.cell? ⟨b,5,none⟩=some x5:=⟨h.at 0 rfl,h.at 1 rfl,h.at 2 rfl,h.at 3 rfl,h.at 4 rfl,h.at 5 rfl⟩
theorem Cs.c8 (h:Cs W b [x0,x1,x2,x3,x4,x5,x6,x7]):W.cell? ⟨b,0,none⟩=some x0∧W.cell? ⟨b,1,none⟩=some x1∧W.cell? ⟨b,2,none⟩=some x2∧W.cell? ⟨b,3,none⟩=some x3∧W.cell? ⟨b,4,none⟩=some x4∧W.cell? ⟨b,5,none⟩=some x5∧W.cell? ⟨b,6,none⟩=some x6∧W.cell? ⟨b,7,none⟩=some x7:=⟨h.at 0 rfl,h.at 1 rfl,h.at 2 rfl,h.at 3 rfl,h.at 4 rfl,h.at 5 rfl,h.at 6 rfl,h.at 7 rfl⟩
theorem Cs.c9 {x8:Value} (h:Cs W b [x0,x1,x2,x3,x4,x5,x6,x7,x8]):W.cell? ⟨b,0,none⟩=some x0∧W.cell? ⟨b,1,none⟩=some x1∧W.cell? ⟨b,2,none⟩=some x2∧W.cell? ⟨b,3,none⟩=some x3∧W.cell? ⟨b,4,none⟩=some x4∧W.cell? ⟨b,5,none⟩=some x5∧W.cell? ⟨b,6,none⟩=some x6∧W.cell? ⟨b,7,none⟩=some x7∧W.cell? ⟨b,8,none⟩=some x8:=⟨h.at 0 rfl,h.at 1 rfl,h.at 2 rfl,h.at 3 rfl,h.at 4 rfl,h.at 5 rfl,h.at 6 rfl,h.at 7 rfl,h.at 8 rfl⟩
theorem Cs.c11 {x8 x9 x10:Value} (h:Cs W b [x0,x1,x2,x3,x4,x5,x6,x7,x8,x9,x10]):W.cell? ⟨b,0,none⟩=some x0∧W.cell? ⟨b,1,none⟩=some x1∧W.cell? ⟨b,2,none⟩=some x2∧W.cell? ⟨b,3,none⟩=some x3∧W.cell? ⟨b,4,none⟩=some x4∧W.cell? ⟨b,5,none⟩=some x5∧W.cell? ⟨b,6,none⟩=some x6∧W.cell? ⟨b,7,none⟩=some x7∧W.cell? ⟨b,8,none⟩=some x8∧W.cell? ⟨b,9,none⟩=some x9∧W.cell? ⟨b,10,none⟩=some x10:=⟨h.at 0 rfl,h.at 1 rfl,h.at 2 rfl,h.at 3 rfl,h.at 4 rfl,h.at 5 rfl,h.at 6 rfl,h.at 7 rfl,h.at 8 rfl,h.at 9 rfl,h.at 10 rfl⟩
theorem Cs.later (h:Cs W b us) (hb:Below W W W'):Cs W' b us:=
 ⟨Nat.lt_of_lt_of_le h.1 hb.size,fun j=>((ζj hb).2 _ _ h.1).trans (h.2.1 j),fun j u hj=>((ζj hb).1 _ _ h.1).trans (h.2.2 j u hj)⟩
theorem Cs.new (W:World) (cs:Array Value) (t:TypeId):Cs (W.alloc (.cells cs t)) W cs.toList:=by
 refine ⟨by simp,fun j=>by simp [go_sem],fun j u hj=> ?_⟩
 rw [Array.getElem?_toList] at hj
 simp [go_sem,hj]
theorem Cs.set1 (h:Cs W b us) (u:Value) (hi:i<us.length):Cs (W.setCell ⟨b,i,none⟩ u) b (us.set i u):=by
 refine ⟨by simpa using h.1,fun j=>by simpa [go_sem] using h.2.1 j,fun j x hj=> ?_⟩
 rw [Nat.zero_add]
 by_cases e:i=j
 ·subst e
  rw [List.getElem?_set_self hi] at hj
  cases hj
  exact World.cell?_setCell_same _ _ _ (h.at i (List.getElem?_eq_getElem hi))
 ·rw [List.getElem?_set_ne e] at hj
  rw [World.cell?_setCell_other _ _ _ _ (by intro q;apply e;have:=congrArg Addr.off q;simpa using this)]
  exact h.at j hj
def τz:List Value->Nat->List Value->List Value
 |us,_,[]=>us
 |us,i,v::vs=>τz (us.set i v) (i+1) vs
theorem Cs.setAll {b:Nat}: ∀(vs:List Value) (W:World) (i:Nat) (us:List Value),Cs W b us->i+vs.length<=us.length->Cs (Go.Proofs.YtfieffpobgcpmaaGreatDoor.setAll W b i vs) b (τz us i vs)
 | [],_,_,_,h,_=>h
 |v::vs,W,i,us,h,hl=>Cs.setAll vs _ (i+1) _ (h.set1 v (by simp at hl;omega)) (by simp at hl⊢;omega)
theorem ηn: ∀(vs us pre:List Value),us.length=vs.length->τz (pre++us) pre.length vs=pre++vs
 | [],us,pre,h=>by
  have:us=[]:=List.eq_nil_of_length_eq_zero h
  rw [this];rfl
 |v::vs,[],pre,h=>by simp at h
 |v::vs,u::us,pre,h=>by
  have e:(pre++u::us).set pre.length v=(pre++[v])++us:=by simp
  have hl:(pre++[v]).length=pre.length+1:=by simp
  show τz ((pre++u::us).set pre.length v) (pre.length+1) vs=_
  rw [e,<-hl,ηn vs us (pre++[v]) (by simpa using h)]
  simp
theorem Cs.whole (h:Cs W b us) (vs:List Value) (hl:us.length=vs.length):Cs (Go.Proofs.YtfieffpobgcpmaaGreatDoor.setAll W b 0 vs) b vs:=by
 have h1:=Cs.setAll vs W 0 us h (by omega)
 have h2:=ηn vs us [] hl
 simp only [List.nil_append,List.length_nil] at h2
 rwa [h2] at h1
theorem Cs.setO (h:Cs W b us) (hb:b≠b'):Cs (W.setCell ⟨b',i,none⟩ u) b us:=by
 refine ⟨by simpa using h.1,fun j=>by simpa [go_sem] using h.2.1 j,fun j x hj=> ?_⟩
 rw [World.cell?_setCell_other _ _ _ _ (by intro q;apply hb;have:=congrArg Addr.block q;simp at this;exact this.symm)]
 exact h.2.2 j x hj
theorem Cs.setAllO {b b':Nat} (hb:b≠b'): ∀(vs:List Value) (W:World) (i:Nat) (us:List Value),Cs W b us->Cs (Go.Proofs.YtfieffpobgcpmaaGreatDoor.setAll W b' i vs) b us
 | [],_,_,_,h=>h
 |_::vs,_,i,us,h=>Cs.setAllO hb vs _ (i+1) us (h.setO hb)
theorem ζf.setBlock {b b':Nat} (hb:b≠b'): ∀(vs:List Value) (W:World) (i:Nat),ζf W b->ζf (Go.Proofs.YtfieffpobgcpmaaGreatDoor.setAll W b' i vs) b
 | [],_,_,h=>h
 |_::vs,_,i,h=>ζf.setBlock hb vs _ (i+1) ⟨by simpa using h.1,fun j k m hh=>by
  rw [World.cell?_setCell_other _ _ _ _ (by intro q;apply hb;have:=congrArg Addr.block q;simp at this;exact this.symm)] at hh
  exact h.2 j k m hh⟩
theorem Cs.range (h:Cs W b us) (o n:Nat):W.rangeAt b o ((us.drop o).take n):=by
 intro j v hv
 have h1:us[o+j]? =some v:=by
  rw [List.getElem?_take] at hv
  split at hv
  ·rwa [List.getElem?_drop] at hv
  ·cases hv
 exact h.at (o+j) h1
theorem ζg: ∀(vs:List Value) (W:World) (b i:Nat),W.setCells b i vs=setAll W b i vs
 | [],_,_,_=>rfl
 |_::vs,_,b,i=>ζg vs _ b (i+1)
theorem Cs.there (h:Cs W b us) (o n:Nat) (hn:o+n<=us.length):W.there b o n:=fun j hj=>by
 refine ⟨?_,h.2.1 _⟩
 rw [h.at (o+j) (List.getElem?_eq_getElem (by omega))]
 rfl
theorem ζd {k b:Nat} {w:World} (hk:k<=b): ∀(vs:List Value) (W:World) (i:Nat),Below k w W->Below k w (setAll W b i vs)
 | [],_,_,h=>h
 |_::vs,_,i,h=>ζd hk vs _ (i+1) (h.setCell (by simpa using hk) _)
theorem ζM.setAllAv {A B C:Int} (us:List Value) (w:World) (i:Nat) (h:ζM w v e A B C) (hn:AvV k v):ζM (Go.Proofs.YtfieffpobgcpmaaGreatDoor.setAll w k i us) v e A B C:=by
 obtain ⟨g1,a1,c1,z1,g2,a2,c2,z2,g3,a3,c3,z3,rfl,h1,h2,h3⟩:=h
 exact ⟨g1,a1,c1,z1,g2,a2,c2,z2,g3,a3,c3,z3,rfl,h1.setAllAv (AvV.two (hn.get 1 rfl)) us w i,h2.setAllAv (AvV.two (hn.get 3 rfl)) us w i,h3.setAllAv (AvV.two (hn.get 5 rfl)) us w i⟩
theorem ζR.setAllAv {p q r s:Int} (us:List Value) (w:World) (i:Nat) (h:ζR w v e p q r s) (hn:AvV k v):ζR (Go.Proofs.YtfieffpobgcpmaaGreatDoor.setAll w k i us) v e p q r s:=by
 obtain ⟨g1,a1,c1,z1,g2,a2,c2,z2,g3,a3,c3,z3,g4,a4,c4,z4,rfl,h1,h2,h3,h4⟩:=h
 exact ⟨g1,a1,c1,z1,g2,a2,c2,z2,g3,a3,c3,z3,g4,a4,c4,z4,rfl,h1.setAllAv (AvV.two (hn.get 1 rfl)) us w i,h2.setAllAv (AvV.two (hn.get 3 rfl)) us w i,h3.setAllAv (AvV.two (hn.get 5 rfl)) us w i,h4.setAllAv (AvV.two (hn.get 7 rfl)) us w i⟩
theorem ζR.setAll {p q r s:Int} (us:List Value) (w:World) (i:Nat) (h:ζR w v e p q r s) (hn:ζf w b) (hu: ∀u∈us,ζh u):ζR (Go.Proofs.YtfieffpobgcpmaaGreatDoor.setAll w b i us) v e p q r s:=by
 obtain ⟨g1,a1,c1,z1,g2,a2,c2,z2,g3,a3,c3,z3,g4,a4,c4,z4,rfl,h1,h2,h3,h4⟩:=h
 exact ⟨g1,a1,c1,z1,g2,a2,c2,z2,g3,a3,c3,z3,g4,a4,c4,z4,rfl,h1.setAll us w i hn hu,h2.setAll us w i hn hu,h3.setAll us w i hn hu,h4.setAll us w i hn hu⟩
structure Tw (w:World) (T S:List Value) (W:World):Prop where
 t:Cs W w T
 r:Cs W (↑w+1) S
 bel:Below w w W
theorem Tw.later {S:List Value} (h:Tw w T S W) (hb:Below W W W'):Tw w T S W':=
 ⟨h.t.later hb,h.r.later hb,h.bel.trans (hb.mono h.bel.size)⟩
theorem Tw.start (w:World) (T S:Array Value) (x y:TypeId):Tw w T.toList S.toList ((w.alloc (.cells T x)).alloc (.cells S y)):=by
 have h1:=Cs.new (w.alloc (.cells T x)) S y
 have e1:(w.alloc (.cells T x)).heap.size=w.heap.size+1:=by simp
 rw [e1] at h1
 exact ⟨(Cs.new w T x).later (ζc _ _),h1,(ζc _ _).trans ((ζc _ _).mono (by simp))⟩
structure HoS (w:World) (T U S:List Value) (W:World):Prop where
 t:Cs W w T
 u:Cs W (↑w+1) U
 r:Cs W (↑w+1+1) S
 bel:Below w w W
theorem HoS.later {U S:List Value} (h:HoS w T U S W) (hb:Below W W W'):HoS w T U S W':=
 ⟨h.t.later hb,h.u.later hb,h.r.later hb,h.bel.trans (hb.mono h.bel.size)⟩
theorem HoS.start (w:World) (T U S:Array Value) (x y z:TypeId):HoS w T.toList U.toList S.toList (((w.alloc (.cells T x)).alloc (.cells U y)).alloc (.cells S z)):=by
 have h:=Tw.start w T U x y
 have h2:=Cs.new ((w.alloc (.cells T x)).alloc (.cells U y)) S z
 have e2:((w.alloc (.cells T x)).alloc (.cells U y)).heap.size=w.heap.size+1+1:=by simp
 rw [e2] at h2
 exact ⟨h.t.later (ζc _ _),h.r.later (ζc _ _),h2,h.bel.trans ((ζc _ _).mono h.bel.size)⟩
structure Sh4 (w:World) (T R H L:List Value) (W:World):Prop where
 t:Cs W w T
 r:Cs W (↑w+1) R
 h:Cs W (↑w+1+1) H
 l:Cs W (↑w+1+1+1) L
 bel:Below w w W
theorem Sh4.later {R H L:List Value} (h:Sh4 w T R H L W) (hb:Below W W W'):Sh4 w T R H L W':=
 ⟨h.t.later hb,h.r.later hb,h.h.later hb,h.l.later hb,h.bel.trans (hb.mono h.bel.size)⟩
theorem Sh4.start (w:World) (T R H L:Array Value) (x y z u:TypeId):Sh4 w T.toList R.toList H.toList L.toList ((((w.alloc (.cells T x)).alloc (.cells R y)).alloc (.cells H z)).alloc (.cells L u)):=by
 have h:=HoS.start w T R H x y z
 have h1:=Cs.new (((w.alloc (.cells T x)).alloc (.cells R y)).alloc (.cells H z)) L u
 have e1:(((w.alloc (.cells T x)).alloc (.cells R y)).alloc (.cells H z)).heap.size=w.heap.size+1+1+1:=by simp
 rw [e1] at h1
 exact ⟨h.t.later (ζc _ _),h.u.later (ζc _ _),h.r.later (ζc _ _),h1,h.bel.trans ((ζc _ _).mono h.bel.size)⟩
def νV (w:World) (P:Prop) (o:Ending) (w':World):Prop:= ∃b:Bool,o= .returned b∧(b=true↔P)∧Below w w w'
end Go.Proofs.YtfieffpobgcpmaaGreatDoor
