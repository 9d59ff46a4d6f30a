import Derived.Test.YtfieffpobgcpmaaGreatDoorBgIBgJBhACsASh0S
import Derived.Test.YtfieffpobgcpmaaGreatDoorBhFBhGS
import Derived.Deep.RegionHeld3
import Derived.Test.YtfieffpobgcpmaaGreatDoorEsMEsJEsNS
set_option maxRecDepth 100000
set_option maxHeartbeats 32000000
namespace Go.Proofs.YtfieffpobgcpmaaGreatDoor
open Go.RowKit Go.Proofs.Tryz
theorem χe (a0 a1 a2 b0 b1 b2 c0 c1 c2:Int) (w:World) (hT:Tab w) (ha0:Cor a0) (ha1:Cor a1) (ha2:Cor a2) (hb0:Cor b0) (hb1:Cor b1) (hb2:Cor b2) (hc0:Cor c0) (hc1:Cor c1) (hc2:Cor c2):
 Calls prog 131 #[.agg #[a0,a1,a2],.agg #[b0,b1,b2],.agg #[c0,c1,c2]] w fun o w'=>ω1 w 557 ((nrm (pv a0 a1 a2) (pv b0 b1 b2) (pv c0 c1 c2))).x ((nrm (pv a0 a1 a2) (pv b0 b1 b2) (pv c0 c1 c2))).y ((nrm (pv a0 a1 a2) (pv b0 b1 b2) (pv c0 c1 c2))).z o w':=by
 obtain ⟨W0,hW0⟩: ∃V0,V0=((((w.alloc (.cells #[a0,a1,a2] 34)).alloc (.cells #[b0,b1,b2] 34)).alloc (.cells #[c0,c1,c2] 34)).alloc (.cells #[false,(),false,(),false,()] 92)):=⟨_,rfl⟩
 have HF0:Hid (Fnt w a0 a1 a2 b0 b1 b2 c0 c1 c2 false () false () false () W0):=by rw [hW0];exact Fnt.start w _ _ _ _ _ _ _ _ _ _ _ _ _ _ _ _ _ _ _
 have HNI:Hid (ζf W0 (↑w+1+1+1)):=by
  have hz: ∀(i:Nat) (k:IntKind) (m:Int),(#[↑false,↑(),↑false,↑(),↑false,↑()]:Array Value)[i]? ≠some (Value.int k m):=by
   intro i k m
   match i with|0=>simp|1=>simp|2=>simp|3=>simp|4=>simp|5=>simp|n+6=>simp
  have h1:=ζf.new (((w.alloc (.cells #[a0,a1,a2] 34)).alloc (.cells #[b0,b1,b2] 34)).alloc (.cells #[c0,c1,c2] 34)) #[false,(),false,(),false,()] 92 hz
  have hs:(((w.alloc (.cells #[a0,a1,a2] 34)).alloc (.cells #[b0,b1,b2] 34)).alloc (.cells #[c0,c1,c2] 34)).heap.size=w.heap.size+1+1+1:=by simp
  rw [hs] at h1
  unfold Hid;rw [hW0];exact h1
 go_enter func131,ntmps131
 go_wp2_with fail
 rw [<-hW0]
 clear hW0
 refine (ξe a0 a1 a2 _ (hT.later HF0.out.bel) ha0 ha1 ha2).mono ?_
 rintro o w1 ⟨v1,rfl,hv1,hb1⟩
 have R1_0:ζM w1 v1 277 (cor a0) (cor a1) (cor a2):=hv1
 obtain ⟨gr11,ar11,cr11,zr11,gr12,ar12,cr12,zr12,gr13,ar13,cr13,zr13,rfl,_,_,_⟩:=hv1
 have HF1:=Hid.mk (HF0.out.later hb1)
 have T0:Tab w1:=(hT.later HF0.out.bel).later hb1
 have NI0:ζf w1 (↑w+1+1+1):=HNI.out.later hb1
 clear hb1 HF0 HNI
 go_wp2_with fail
 obtain ⟨W1,hW1⟩: ∃V0,V0=w1.alloc (.cells #[gr11,.slice ar11 zr11 cr11,gr12,.slice ar12 zr12 cr12,gr13,.slice ar13 zr13 cr13] 92):=⟨_,rfl⟩
 rw [<-hW1]
 have hbW:Below w1 w1 W1:=by rw [hW1];exact ζc _ _
 have FR:Hid (Fbu w w1 a0 a1 a2 b0 b1 b2 c0 c1 c2 false () false () false () gr11 (.slice ar11 zr11 cr11) gr12 (.slice ar12 zr12 cr12) gr13 (.slice ar13 zr13 cr13) W1):=by rw [hW1];exact Fbu.start HF1.out _ _ _ _ _ _ _
 clear hW1 HF1
 have TT_1:=(T0.later hbW).later (w':=W1.drew) (Below.refl _ _).drew
 have R1_1:=(R1_0.later hbW).later (w':=W1.drew) (Below.refl _ _).drew
 have NI_1:=(NI0.later hbW).later (w':=W1.drew) (Below.refl _ _).drew
 clear hbW T0 R1_0 NI0
 have F1:Fbu w w1 a0 a1 a2 b0 b1 b2 c0 c1 c2 false () false () false () gr11 (.slice ar11 zr11 cr11) gr12 (.slice ar12 zr12 cr12) gr13 (.slice ar13 zr13 cr13) W1.drew:=FR.out.later (Below.refl _ _).drew
 go_region_held3 (fun w'=>w'.cell? ⟨↑w+1,0,none⟩=some ↑b0∧w'.cell? ⟨↑w+1,1,none⟩=some ↑b1∧w'.cell? ⟨↑w+1,2,none⟩=some ↑b2∧w'.cell? ⟨↑w+1+1,0,none⟩=some ↑c0∧w'.cell? ⟨↑w+1+1,1,none⟩=some ↑c1∧w'.cell? ⟨↑w+1+1,2,none⟩=some ↑c2∧w'.cell? ⟨w1,0,none⟩=some ↑gr11∧w'.cell? ⟨w1,1,none⟩=some (.slice ar11 zr11 cr11)∧w'.cell? ⟨w1,2,none⟩=some ↑gr12∧w'.cell? ⟨w1,3,none⟩=some (.slice ar12 zr12 cr12)∧w'.cell? ⟨w1,4,none⟩=some ↑gr13∧w'.cell? ⟨w1,5,none⟩=some (.slice ar13 zr13 cr13))
  (first|with_reducible exact (F6.set3 _ _ _ _ _ _).s|with_reducible exact Fbu.s (by with_reducible assumption))
  (first
   |(have hBB:=hB5;clear hBB;go_at_call 136;refine (ψL _ _ 278 278 ((pv b0 b1 b2).sub (pv a0 a1 a2)).x ((pv b0 b1 b2).sub (pv a0 a1 a2)).y ((pv b0 b1 b2).sub (pv a0 a1 a2)).z ((pv c0 c1 c2).sub (pv a0 a1 a2)).x ((pv c0 c1 c2).sub (pv a0 a1 a2)).y ((pv c0 c1 c2).sub (pv a0 a1 a2)).z _ (by omega) R3_5 R5_5).mono ?_;rintro o w6 ⟨v6,rfl,hv6,hb6,hn6⟩;have HNW6:Hid (ψB w v6):=hn6.mono F5.f.bel.size;clear hn6;have R6_6:ζM w6 v6 557 ((nrm (pv a0 a1 a2) (pv b0 b1 b2) (pv c0 c1 c2))).x ((nrm (pv a0 a1 a2) (pv b0 b1 b2) (pv c0 c1 c2))).y ((nrm (pv a0 a1 a2) (pv b0 b1 b2) (pv c0 c1 c2))).z:=hv6;obtain ⟨gr61,ar61,cr61,zr61,gr62,ar62,cr62,zr62,gr63,ar63,cr63,zr63,rfl,_,_,_⟩:=hv6;have TT_6:=TT_5.later hb6;have R1_6:=R1_5.later hb6;have NI_6:=NI_5.later hb6;have R2_6:=R2_5.later hb6;have R3_6:=R3_5.later hb6;have R4_6:=R4_5.later hb6;have R5_6:=R5_5.later hb6;have hB6:Below W1 W1 w6:=hB5.trans (hb6.mono hB5.size);have F6:Fbu w w1 a0 a1 a2 b0 b1 b2 c0 c1 c2 false () false () false () gr11 (.slice ar11 zr11 cr11) gr12 (.slice ar12 zr12 cr12) gr13 (.slice ar13 zr13 cr13) w6:=FR.out.later hB6;have r0:=F6.f.e3x0;have r1:=F6.f.e3x1;have r2:=F6.f.e3x2;have r3:=F6.f.e3x3;have r4:=F6.f.e3x4;have r5:=F6.f.e3x5;have rz:=F6.f.f3)
   |(have hBB:=hB4;clear hBB;go_at_call 135;refine (ξy _ _ 277 (cor c0) (cor c1) (cor c2) (cor a0) (cor a1) (cor a2) _ (by omega) R4_4 R1_4).mono ?_;rintro o w5 ⟨v5,rfl,hv5,hb5⟩;have R5_5:ζM w5 v5 278 ((pv c0 c1 c2).sub (pv a0 a1 a2)).x ((pv c0 c1 c2).sub (pv a0 a1 a2)).y ((pv c0 c1 c2).sub (pv a0 a1 a2)).z:=hv5;obtain ⟨gr51,ar51,cr51,zr51,gr52,ar52,cr52,zr52,gr53,ar53,cr53,zr53,rfl,_,_,_⟩:=hv5;have TT_5:=TT_4.later hb5;have R1_5:=R1_4.later hb5;have NI_5:=NI_4.later hb5;have R2_5:=R2_4.later hb5;have R3_5:=R3_4.later hb5;have R4_5:=R4_4.later hb5;have hB5:Below W1 W1 w5:=hB4.trans (hb5.mono hB4.size);have F5:Fbu w w1 a0 a1 a2 b0 b1 b2 c0 c1 c2 false () false () false () gr11 (.slice ar11 zr11 cr11) gr12 (.slice ar12 zr12 cr12) gr13 (.slice ar13 zr13 cr13) w5:=FR.out.later hB5)
   |(have hBB:=hB3;clear hBB;go_at_call 122;refine (ξe c0 c1 c2 _ TT_3 hc0 hc1 hc2).mono ?_;rintro o w4 ⟨v4,rfl,hv4,hb4⟩;have R4_4:ζM w4 v4 277 (cor c0) (cor c1) (cor c2):=hv4;obtain ⟨gr41,ar41,cr41,zr41,gr42,ar42,cr42,zr42,gr43,ar43,cr43,zr43,rfl,_,_,_⟩:=hv4;have TT_4:=TT_3.later hb4;have R1_4:=R1_3.later hb4;have NI_4:=NI_3.later hb4;have R2_4:=R2_3.later hb4;have R3_4:=R3_3.later hb4;have hB4:Below W1 W1 w4:=hB3.trans (hb4.mono hB3.size);have F4:Fbu w w1 a0 a1 a2 b0 b1 b2 c0 c1 c2 false () false () false () gr11 (.slice ar11 zr11 cr11) gr12 (.slice ar12 zr12 cr12) gr13 (.slice ar13 zr13 cr13) w4:=FR.out.later hB4)
   |(have hBB:=hB2;clear hBB;go_at_call 135;refine (ξy _ _ 277 (cor b0) (cor b1) (cor b2) (cor a0) (cor a1) (cor a2) _ (by omega) R2_2 R1_2).mono ?_;rintro o w3 ⟨v3,rfl,hv3,hb3⟩;have R3_3:ζM w3 v3 278 ((pv b0 b1 b2).sub (pv a0 a1 a2)).x ((pv b0 b1 b2).sub (pv a0 a1 a2)).y ((pv b0 b1 b2).sub (pv a0 a1 a2)).z:=hv3;obtain ⟨gr31,ar31,cr31,zr31,gr32,ar32,cr32,zr32,gr33,ar33,cr33,zr33,rfl,_,_,_⟩:=hv3;have TT_3:=TT_2.later hb3;have R1_3:=R1_2.later hb3;have NI_3:=NI_2.later hb3;have R2_3:=R2_2.later hb3;have hB3:Below W1 W1 w3:=hB2.trans (hb3.mono hB2.size);have F3:Fbu w w1 a0 a1 a2 b0 b1 b2 c0 c1 c2 false () false () false () gr11 (.slice ar11 zr11 cr11) gr12 (.slice ar12 zr12 cr12) gr13 (.slice ar13 zr13 cr13) w3:=FR.out.later hB3)
   |(go_at_call 122;refine (ξe b0 b1 b2 _ TT_1 hb0 hb1 hb2).mono ?_;rintro o w2 ⟨v2,rfl,hv2,hb2⟩;have R2_2:ζM w2 v2 277 (cor b0) (cor b1) (cor b2):=hv2;obtain ⟨gr21,ar21,cr21,zr21,gr22,ar22,cr22,zr22,gr23,ar23,cr23,zr23,rfl,_,_,_⟩:=hv2;have TT_2:=TT_1.later hb2;have R1_2:=R1_1.later hb2;have NI_2:=NI_1.later hb2;have hB2:Below W1 W1 w2:=(Below.refl _ _).drew.trans hb2;have F2:Fbu w w1 a0 a1 a2 b0 b1 b2 c0 c1 c2 false () false () false () gr11 (.slice ar11 zr11 cr11) gr12 (.slice ar12 zr12 cr12) gr13 (.slice ar13 zr13 cr13) w2:=FR.out.later hB2))
 have HF:=Hid.mk F6
 have HR6:=Hid.mk R6_6
 have HNN:=Hid.mk NI_6
 clear hB2 hb2 F2 hB3 hb3 F3 hB4 hb4 F4 hB5 hb5 F5 hB6 hb6 F6 TT_1 TT_2 TT_3 TT_4 TT_5 TT_6 R1_1 R1_2 R1_3 R1_4 R1_5 R1_6 NI_1 NI_2 NI_3 NI_4 NI_5 NI_6 R2_2 R2_3 R2_4 R2_5 R2_6 R3_3 R3_4 R3_5 R3_6 R4_4 R4_5 R4_6 R5_5 R5_6 R6_6 F1
 go_wp2
 refine bodyPost_ret (v:= .agg #[gr61,.slice ar61 zr61 cr61,gr62,.slice ar62 zr62 cr62,gr63,.slice ar63 zr63 cr63]) (by simp [results,results131,go_sem,r0,r1,r2,r3,r4,r5]) rfl ?_
 exact ⟨_,rfl,HR6.out.setAll [gr61,.slice ar61 zr61 cr61,gr62,.slice ar62 zr62 cr62,gr63,.slice ar63 zr63 cr63] _ 0 HNN.out (by simp [ζh]),(HF.out.set3 _ _ _ _ _ _).f.bel,HNW6.out⟩
theorem θI (u v:Value) (e f:Nat) (A B C A' B' C':Int) (w:World) (he:e+f<=29000) (hu:ζM w u e A B C) (hv:ζM w v f A' B' C'):
 Calls prog 136 #[u,v] w fun o w'=>ψJ w (e+f+1) (B*C'-C*B') (C*A'-A*C') (A*B'-B*A') o w':=
 (ψL u v e f A B C A' B' C' w he hu hv).mono fun _ _ ⟨v,e,h,b,_⟩=>⟨v,e,h,b⟩
theorem ψ3 (u v:Value) (e f:Nat) (A B C A' B' C':Int) (w:World) (he:e+f<=29000) (hu:ζM w u e A B C) (hv:ζM w v f A' B' C'):
 Calls prog 132 #[u,v] w fun o w'=>ζB w (e+f+1+1) (A*A'+B*B'+C*C') o w':=
 (χd u v e f A B C A' B' C' w he hu hv).mono fun _ _ ⟨v,e,h,b,_⟩=>⟨v,e,h,b⟩
theorem ψM (a0 a1 a2 b0 b1 b2 c0 c1 c2:Int) (w:World) (hT:Tab w) (ha0:Cor a0) (ha1:Cor a1) (ha2:Cor a2) (hb0:Cor b0) (hb1:Cor b1) (hb2:Cor b2) (hc0:Cor c0) (hc1:Cor c1) (hc2:Cor c2):
 Calls prog 131 #[.agg #[a0,a1,a2],.agg #[b0,b1,b2],.agg #[c0,c1,c2]] w fun o w'=>ψJ w 557 ((nrm (pv a0 a1 a2) (pv b0 b1 b2) (pv c0 c1 c2))).x ((nrm (pv a0 a1 a2) (pv b0 b1 b2) (pv c0 c1 c2))).y ((nrm (pv a0 a1 a2) (pv b0 b1 b2) (pv c0 c1 c2))).z o w':=
 (χe a0 a1 a2 b0 b1 b2 c0 c1 c2 w hT ha0 ha1 ha2 hb0 hb1 hb2 hc0 hc1 hc2).mono fun _ _ ⟨v,e,h,b,_⟩=>⟨v,e,h,b⟩
theorem χK (v:Value) (m k:Nat) (S:Int) (O D:V3) (t0 t1 t2 t3 t4 t5 t6 t7 t8:Int) (w:World) (hmk:3*m+2*k<=28000) (hT:Tab w) (hl:ξi w v m k S O D) (h0:Cor t0) (h1:Cor t1) (h2:Cor t2) (h3:Cor t3) (h4:Cor t4) (h5:Cor t5) (h6:Cor t6) (h7:Cor t7) (h8:Cor t8):
 Calls prog 85 #[v,.agg #[t0,t1,t2,t3,t4,t5,t6,t7,t8]] w fun o w'=>ζB w (557+m+1+1) ((nrm (pv t0 t1 t2) (pv t3 t4 t5) (pv t6 t7 t8)).dot D) o w':=by
 obtain ⟨gs1,as1,cs1,zs1,gs2,as2,cs2,zs2,gs3,as3,cs3,zs3,gd1,ad1,cd1,zd1,gd2,ad2,cd2,zd2,gd3,ad3,cd3,zd3,gk,ak,ck,zk,rfl,_,hD,_⟩:=hl
 go_enter func85,ntmps85
 go_wp2_with fail
 obtain ⟨W0,hW0⟩: ∃V0,V0=(((w.alloc (.cells #[gs1,.slice as1 zs1 cs1,gs2,.slice as2 zs2 cs2,gs3,.slice as3 zs3 cs3,gd1,.slice ad1 zd1 cd1,gd2,.slice ad2 zd2 cd2,gd3,.slice ad3 zd3 cd3,gk,.slice ak zk ck] 94)).alloc (.cells #[t0,t1,t2,t3,t4,t5,t6,t7,t8] 36)).alloc (.cells #[false,()] 31)):=⟨_,rfl⟩
 rw [<-hW0]
 have FR:Hid (Fcl w gs1 (.slice as1 zs1 cs1) gs2 (.slice as2 zs2 cs2) gs3 (.slice as3 zs3 cs3) gd1 (.slice ad1 zd1 cd1) gd2 (.slice ad2 zd2 cd2) gd3 (.slice ad3 zd3 cd3) gk (.slice ak zk ck) t0 t1 t2 t3 t4 t5 t6 t7 t8 false () W0):=by rw [hW0];exact Fcl.start w _ _ _ _ _ _ _ _ _ _ _ _ _ _ _ _ _ _ _ _ _ _ _ _ _ _ _ _
 have HNI:Hid (ζf W0 (↑w+1+1)):=by
  have hz: ∀(i:Nat) (k:IntKind) (m:Int),(#[↑false,↑()]:Array Value)[i]? ≠some (Value.int k m):=by
   intro i k m
   match i with|0=>simp|1=>simp|n+2=>simp
  have h1:=ζf.new ((w.alloc (.cells #[gs1,.slice as1 zs1 cs1,gs2,.slice as2 zs2 cs2,gs3,.slice as3 zs3 cs3,gd1,.slice ad1 zd1 cd1,gd2,.slice ad2 zd2 cd2,gd3,.slice ad3 zd3 cd3,gk,.slice ak zk ck] 94)).alloc (.cells #[t0,t1,t2,t3,t4,t5,t6,t7,t8] 36)) #[false,()] 31 hz
  have hs:((w.alloc (.cells #[gs1,.slice as1 zs1 cs1,gs2,.slice as2 zs2 cs2,gs3,.slice as3 zs3 cs3,gd1,.slice ad1 zd1 cd1,gd2,.slice ad2 zd2 cd2,gd3,.slice ad3 zd3 cd3,gk,.slice ak zk ck] 94)).alloc (.cells #[t0,t1,t2,t3,t4,t5,t6,t7,t8] 36)).heap.size=w.heap.size+1+1:=by simp
  rw [hs] at h1
  unfold Hid;rw [hW0];exact h1
 clear hW0
 have TT_0:=(hT.later FR.out.bel).later (w':=W0.drew) (Below.refl _ _).drew
 have DD_0:=(hD.later FR.out.bel).later (w':=W0.drew) (Below.refl _ _).drew
 have NI_0:=HNI.out.later (w':=W0.drew) (Below.refl _ _).drew
 have F0:Fcl w gs1 (.slice as1 zs1 cs1) gs2 (.slice as2 zs2 cs2) gs3 (.slice as3 zs3 cs3) gd1 (.slice ad1 zd1 cd1) gd2 (.slice ad2 zd2 cd2) gd3 (.slice ad3 zd3 cd3) gk (.slice ak zk ck) t0 t1 t2 t3 t4 t5 t6 t7 t8 false () W0.drew:=FR.out.later (Below.refl _ _).drew
 go_region_held3 (fun w'=>w'.cell? ⟨w,0,none⟩=some ↑gs1∧w'.cell? ⟨w,1,none⟩=some (.slice as1 zs1 cs1)∧w'.cell? ⟨w,2,none⟩=some ↑gs2∧w'.cell? ⟨w,3,none⟩=some (.slice as2 zs2 cs2)∧w'.cell? ⟨w,4,none⟩=some ↑gs3∧w'.cell? ⟨w,5,none⟩=some (.slice as3 zs3 cs3)∧w'.cell? ⟨w,6,none⟩=some ↑gd1∧w'.cell? ⟨w,7,none⟩=some (.slice ad1 zd1 cd1)∧w'.cell? ⟨w,8,none⟩=some ↑gd2∧w'.cell? ⟨w,9,none⟩=some (.slice ad2 zd2 cd2)∧w'.cell? ⟨w,10,none⟩=some ↑gd3∧w'.cell? ⟨w,11,none⟩=some (.slice ad3 zd3 cd3)∧w'.cell? ⟨w,12,none⟩=some ↑gk∧w'.cell? ⟨w,13,none⟩=some (.slice ak zk ck)∧w'.cell? ⟨↑w+1,0,none⟩=some ↑t0∧w'.cell? ⟨↑w+1,1,none⟩=some ↑t1∧w'.cell? ⟨↑w+1,2,none⟩=some ↑t2∧w'.cell? ⟨↑w+1,3,none⟩=some ↑t3∧w'.cell? ⟨↑w+1,4,none⟩=some ↑t4∧w'.cell? ⟨↑w+1,5,none⟩=some ↑t5∧w'.cell? ⟨↑w+1,6,none⟩=some ↑t6∧w'.cell? ⟨↑w+1,7,none⟩=some ↑t7∧w'.cell? ⟨↑w+1,8,none⟩=some ↑t8)
  (first|with_reducible exact (F2.set2 _ _).s|with_reducible exact Fcl.s (by with_reducible assumption))
  (first
   |(have hBB:=hB1;clear hBB;go_at_call 132;refine (ψ3 _ _ 557 m ((nrm (pv t0 t1 t2) (pv t3 t4 t5) (pv t6 t7 t8))).x ((nrm (pv t0 t1 t2) (pv t3 t4 t5) (pv t6 t7 t8))).y ((nrm (pv t0 t1 t2) (pv t3 t4 t5) (pv t6 t7 t8))).z D.x D.y D.z _ (by omega) R1_1 DD_1).mono ?_;rintro o w2 ⟨v2,rfl,hv2,hb2⟩;have R2_2:ζe w2 v2 (557+m+1+1) ((nrm (pv t0 t1 t2) (pv t3 t4 t5) (pv t6 t7 t8)).dot D):=hv2;obtain ⟨gr2,ar2,cr2,zr2,rfl,_,_,_⟩:=hv2;have TT_2:=TT_1.later hb2;have DD_2:=DD_1.later hb2;have NI_2:=NI_1.later hb2;have R1_2:=R1_1.later hb2;have hB2:Below W0 W0 w2:=hB1.trans (hb2.mono hB1.size);have F2:Fcl w gs1 (.slice as1 zs1 cs1) gs2 (.slice as2 zs2 cs2) gs3 (.slice as3 zs3 cs3) gd1 (.slice ad1 zd1 cd1) gd2 (.slice ad2 zd2 cd2) gd3 (.slice ad3 zd3 cd3) gk (.slice ak zk ck) t0 t1 t2 t3 t4 t5 t6 t7 t8 false () w2:=FR.out.later hB2;have r0:=F2.e2x0;have r1:=F2.e2x1;have rz:=F2.f2)
   |(go_at_call 131;refine (ψM t0 t1 t2 t3 t4 t5 t6 t7 t8 _ TT_0 h0 h1 h2 h3 h4 h5 h6 h7 h8).mono ?_;rintro o w1 ⟨v1,rfl,hv1,hb1⟩;have R1_1:ζM w1 v1 557 ((nrm (pv t0 t1 t2) (pv t3 t4 t5) (pv t6 t7 t8))).x ((nrm (pv t0 t1 t2) (pv t3 t4 t5) (pv t6 t7 t8))).y ((nrm (pv t0 t1 t2) (pv t3 t4 t5) (pv t6 t7 t8))).z:=hv1;obtain ⟨gr11,ar11,cr11,zr11,gr12,ar12,cr12,zr12,gr13,ar13,cr13,zr13,rfl,_,_,_⟩:=hv1;have TT_1:=TT_0.later hb1;have DD_1:=DD_0.later hb1;have NI_1:=NI_0.later hb1;have hB1:Below W0 W0 w1:=(Below.refl _ _).drew.trans hb1;have F1:Fcl w gs1 (.slice as1 zs1 cs1) gs2 (.slice as2 zs2 cs2) gs3 (.slice as3 zs3 cs3) gd1 (.slice ad1 zd1 cd1) gd2 (.slice ad2 zd2 cd2) gd3 (.slice ad3 zd3 cd3) gk (.slice ak zk ck) t0 t1 t2 t3 t4 t5 t6 t7 t8 false () w1:=FR.out.later hB1))
 have HF:Hid (Fcl w gs1 (.slice as1 zs1 cs1) gs2 (.slice as2 zs2 cs2) gs3 (.slice as3 zs3 cs3) gd1 (.slice ad1 zd1 cd1) gd2 (.slice ad2 zd2 cd2) gd3 (.slice ad3 zd3 cd3) gk (.slice ak zk ck) t0 t1 t2 t3 t4 t5 t6 t7 t8 false () w2):=F2
 have HR2:Hid (ζe w2 (.agg #[gr2,.slice ar2 zr2 cr2]) (557+m+1+1) ((nrm (pv t0 t1 t2) (pv t3 t4 t5) (pv t6 t7 t8)).dot D)):=R2_2
 have HNN:Hid (ζf w2 (↑w+1+1)):=NI_2
 clear hB1 hb1 F1 hB2 hb2 F2 TT_0 TT_1 TT_2 DD_0 DD_1 DD_2 NI_0 NI_1 NI_2 R1_1 R1_2 R2_2 F0
 go_wp2
 refine bodyPost_ret (v:= .agg #[gr2,.slice ar2 zr2 cr2]) (by simp [results,results85,go_sem,r0,r1]) rfl ?_
 refine ⟨_,rfl,HR2.out.setAll [gr2,.slice ar2 zr2 cr2] _ 0 HNN.out (by simp [ζh]),?_⟩
 exact (HF.out.set2 _ _).bel
theorem χf (v:Value) (m k:Nat) (S:Int) (O D:V3) (t0 t1 t2 t3 t4 t5 t6 t7 t8:Int) (w:World) (hm:277<=m) (hmk:3*m+2*k<=28000) (hT:Tab w) (hl:ξi w v m k S O D) (h0:Cor t0) (h1:Cor t1) (h2:Cor t2) (h3:Cor t3) (h4:Cor t4) (h5:Cor t5) (h6:Cor t6) (h7:Cor t7) (h8:Cor t8):
 Calls prog 84 #[v,.agg #[t0,t1,t2,t3,t4,t5,t6,t7,t8]] w fun o w'=>ζB w (557+(m+k+1)+1+1) ((nrm (pv t0 t1 t2) (pv t3 t4 t5) (pv t6 t7 t8)).dot ((V3.sc S (pv t0 t1 t2)).sub O)) o w':=by
 have hline:=hl
 obtain ⟨gs1,as1,cs1,zs1,gs2,as2,cs2,zs2,gs3,as3,cs3,zs3,gd1,ad1,cd1,zd1,gd2,ad2,cd2,zd2,gd3,ad3,cd3,zd3,gk,ak,ck,zk,rfl,_,_,_⟩:=hl
 go_enter func84,ntmps84
 go_wp2_with fail
 obtain ⟨W0,hW0⟩: ∃V0,V0=(((w.alloc (.cells #[gs1,.slice as1 zs1 cs1,gs2,.slice as2 zs2 cs2,gs3,.slice as3 zs3 cs3,gd1,.slice ad1 zd1 cd1,gd2,.slice ad2 zd2 cd2,gd3,.slice ad3 zd3 cd3,gk,.slice ak zk ck] 94)).alloc (.cells #[t0,t1,t2,t3,t4,t5,t6,t7,t8] 36)).alloc (.cells #[false,()] 31)):=⟨_,rfl⟩
 rw [<-hW0]
 have FR:Hid (Fcl w gs1 (.slice as1 zs1 cs1) gs2 (.slice as2 zs2 cs2) gs3 (.slice as3 zs3 cs3) gd1 (.slice ad1 zd1 cd1) gd2 (.slice ad2 zd2 cd2) gd3 (.slice ad3 zd3 cd3) gk (.slice ak zk ck) t0 t1 t2 t3 t4 t5 t6 t7 t8 false () W0):=by rw [hW0];exact Fcl.start w _ _ _ _ _ _ _ _ _ _ _ _ _ _ _ _ _ _ _ _ _ _ _ _ _ _ _ _
 have HNI:Hid (ζf W0 (↑w+1+1)):=by
  have hz: ∀(i:Nat) (k:IntKind) (m:Int),(#[↑false,↑()]:Array Value)[i]? ≠some (Value.int k m):=by
   intro i k m
   match i with|0=>simp|1=>simp|n+2=>simp
  have h1:=ζf.new ((w.alloc (.cells #[gs1,.slice as1 zs1 cs1,gs2,.slice as2 zs2 cs2,gs3,.slice as3 zs3 cs3,gd1,.slice ad1 zd1 cd1,gd2,.slice ad2 zd2 cd2,gd3,.slice ad3 zd3 cd3,gk,.slice ak zk ck] 94)).alloc (.cells #[t0,t1,t2,t3,t4,t5,t6,t7,t8] 36)) #[false,()] 31 hz
  have hs:((w.alloc (.cells #[gs1,.slice as1 zs1 cs1,gs2,.slice as2 zs2 cs2,gs3,.slice as3 zs3 cs3,gd1,.slice ad1 zd1 cd1,gd2,.slice ad2 zd2 cd2,gd3,.slice ad3 zd3 cd3,gk,.slice ak zk ck] 94)).alloc (.cells #[t0,t1,t2,t3,t4,t5,t6,t7,t8] 36)).heap.size=w.heap.size+1+1:=by simp
  rw [hs] at h1
  unfold Hid;rw [hW0];exact h1
 clear hW0
 have TT_0:=(hT.later FR.out.bel).later (w':=W0.drew) (Below.refl _ _).drew
 have LL_0:=(hline.later FR.out.bel).later (w':=W0.drew) (Below.refl _ _).drew
 have NI_0:=HNI.out.later (w':=W0.drew) (Below.refl _ _).drew
 have F0:Fcl w gs1 (.slice as1 zs1 cs1) gs2 (.slice as2 zs2 cs2) gs3 (.slice as3 zs3 cs3) gd1 (.slice ad1 zd1 cd1) gd2 (.slice ad2 zd2 cd2) gd3 (.slice ad3 zd3 cd3) gk (.slice ak zk ck) t0 t1 t2 t3 t4 t5 t6 t7 t8 false () W0.drew:=FR.out.later (Below.refl _ _).drew
 go_region_held3 (fun w'=>w'.cell? ⟨w,0,none⟩=some ↑gs1∧w'.cell? ⟨w,1,none⟩=some (.slice as1 zs1 cs1)∧w'.cell? ⟨w,2,none⟩=some ↑gs2∧w'.cell? ⟨w,3,none⟩=some (.slice as2 zs2 cs2)∧w'.cell? ⟨w,4,none⟩=some ↑gs3∧w'.cell? ⟨w,5,none⟩=some (.slice as3 zs3 cs3)∧w'.cell? ⟨w,6,none⟩=some ↑gd1∧w'.cell? ⟨w,7,none⟩=some (.slice ad1 zd1 cd1)∧w'.cell? ⟨w,8,none⟩=some ↑gd2∧w'.cell? ⟨w,9,none⟩=some (.slice ad2 zd2 cd2)∧w'.cell? ⟨w,10,none⟩=some ↑gd3∧w'.cell? ⟨w,11,none⟩=some (.slice ad3 zd3 cd3)∧w'.cell? ⟨w,12,none⟩=some ↑gk∧w'.cell? ⟨w,13,none⟩=some (.slice ak zk ck)∧w'.cell? ⟨↑w+1,0,none⟩=some ↑t0∧w'.cell? ⟨↑w+1,1,none⟩=some ↑t1∧w'.cell? ⟨↑w+1,2,none⟩=some ↑t2∧w'.cell? ⟨↑w+1,3,none⟩=some ↑t3∧w'.cell? ⟨↑w+1,4,none⟩=some ↑t4∧w'.cell? ⟨↑w+1,5,none⟩=some ↑t5∧w'.cell? ⟨↑w+1,6,none⟩=some ↑t6∧w'.cell? ⟨↑w+1,7,none⟩=some ↑t7∧w'.cell? ⟨↑w+1,8,none⟩=some ↑t8)
  (first|with_reducible exact (F3.set2 _ _).s|with_reducible exact Fcl.s (by with_reducible assumption))
  (first
   |(have hBB:=hB2;clear hBB;go_at_call 132;refine (ψ3 _ _ 557 (m+k+1) ((nrm (pv t0 t1 t2) (pv t3 t4 t5) (pv t6 t7 t8))).x ((nrm (pv t0 t1 t2) (pv t3 t4 t5) (pv t6 t7 t8))).y ((nrm (pv t0 t1 t2) (pv t3 t4 t5) (pv t6 t7 t8))).z ((V3.sc S (pv t0 t1 t2)).sub O).x ((V3.sc S (pv t0 t1 t2)).sub O).y ((V3.sc S (pv t0 t1 t2)).sub O).z _ (by omega) R1_2 R2_2).mono ?_;rintro o w3 ⟨v3,rfl,hv3,hb3⟩;have R3_3:ζe w3 v3 (557+(m+k+1)+1+1) ((nrm (pv t0 t1 t2) (pv t3 t4 t5) (pv t6 t7 t8)).dot ((V3.sc S (pv t0 t1 t2)).sub O)):=hv3;obtain ⟨gr3,ar3,cr3,zr3,rfl,_,_,_⟩:=hv3;have TT_3:=TT_2.later hb3;have LL_3:=LL_2.later hb3;have NI_3:=NI_2.later hb3;have R1_3:=R1_2.later hb3;have R2_3:=R2_2.later hb3;have hB3:Below W0 W0 w3:=hB2.trans (hb3.mono hB2.size);have F3:Fcl w gs1 (.slice as1 zs1 cs1) gs2 (.slice as2 zs2 cs2) gs3 (.slice as3 zs3 cs3) gd1 (.slice ad1 zd1 cd1) gd2 (.slice ad2 zd2 cd2) gd3 (.slice ad3 zd3 cd3) gk (.slice ak zk ck) t0 t1 t2 t3 t4 t5 t6 t7 t8 false () w3:=FR.out.later hB3;have r0:=F3.e2x0;have r1:=F3.e2x1;have rz:=F3.f2)
   |(have hBB:=hB1;clear hBB;go_at_call 133;refine (ωb _ m k S O D t0 t1 t2 _ hm (by omega) TT_1 LL_1 h0 h1 h2).mono ?_;rintro o w2 ⟨v2,rfl,hv2,hb2⟩;have R2_2:ζM w2 v2 (m+k+1) ((V3.sc S (pv t0 t1 t2)).sub O).x ((V3.sc S (pv t0 t1 t2)).sub O).y ((V3.sc S (pv t0 t1 t2)).sub O).z:=hv2;obtain ⟨gr21,ar21,cr21,zr21,gr22,ar22,cr22,zr22,gr23,ar23,cr23,zr23,rfl,_,_,_⟩:=hv2;have TT_2:=TT_1.later hb2;have LL_2:=LL_1.later hb2;have NI_2:=NI_1.later hb2;have R1_2:=R1_1.later hb2;have hB2:Below W0 W0 w2:=hB1.trans (hb2.mono hB1.size);have F2:Fcl w gs1 (.slice as1 zs1 cs1) gs2 (.slice as2 zs2 cs2) gs3 (.slice as3 zs3 cs3) gd1 (.slice ad1 zd1 cd1) gd2 (.slice ad2 zd2 cd2) gd3 (.slice ad3 zd3 cd3) gk (.slice ak zk ck) t0 t1 t2 t3 t4 t5 t6 t7 t8 false () w2:=FR.out.later hB2)
   |(go_at_call 131;refine (ψM t0 t1 t2 t3 t4 t5 t6 t7 t8 _ TT_0 h0 h1 h2 h3 h4 h5 h6 h7 h8).mono ?_;rintro o w1 ⟨v1,rfl,hv1,hb1⟩;have R1_1:ζM w1 v1 557 ((nrm (pv t0 t1 t2) (pv t3 t4 t5) (pv t6 t7 t8))).x ((nrm (pv t0 t1 t2) (pv t3 t4 t5) (pv t6 t7 t8))).y ((nrm (pv t0 t1 t2) (pv t3 t4 t5) (pv t6 t7 t8))).z:=hv1;obtain ⟨gr11,ar11,cr11,zr11,gr12,ar12,cr12,zr12,gr13,ar13,cr13,zr13,rfl,_,_,_⟩:=hv1;have TT_1:=TT_0.later hb1;have LL_1:=LL_0.later hb1;have NI_1:=NI_0.later hb1;have hB1:Below W0 W0 w1:=(Below.refl _ _).drew.trans hb1;have F1:Fcl w gs1 (.slice as1 zs1 cs1) gs2 (.slice as2 zs2 cs2) gs3 (.slice as3 zs3 cs3) gd1 (.slice ad1 zd1 cd1) gd2 (.slice ad2 zd2 cd2) gd3 (.slice ad3 zd3 cd3) gk (.slice ak zk ck) t0 t1 t2 t3 t4 t5 t6 t7 t8 false () w1:=FR.out.later hB1))
 have HF:Hid (Fcl w gs1 (.slice as1 zs1 cs1) gs2 (.slice as2 zs2 cs2) gs3 (.slice as3 zs3 cs3) gd1 (.slice ad1 zd1 cd1) gd2 (.slice ad2 zd2 cd2) gd3 (.slice ad3 zd3 cd3) gk (.slice ak zk ck) t0 t1 t2 t3 t4 t5 t6 t7 t8 false () w3):=F3
 have HR3:Hid (ζe w3 (.agg #[gr3,.slice ar3 zr3 cr3]) (557+(m+k+1)+1+1) ((nrm (pv t0 t1 t2) (pv t3 t4 t5) (pv t6 t7 t8)).dot ((V3.sc S (pv t0 t1 t2)).sub O))):=R3_3
 have HNN:Hid (ζf w3 (↑w+1+1)):=NI_3
 clear hB1 hb1 F1 hB2 hb2 F2 hB3 hb3 F3 TT_0 TT_1 TT_2 TT_3 LL_0 LL_1 LL_2 LL_3 NI_0 NI_1 NI_2 NI_3 R1_1 R1_2 R1_3 R2_2 R2_3 R3_3 F0
 go_wp2
 refine bodyPost_ret (v:= .agg #[gr3,.slice ar3 zr3 cr3]) (by simp [results,results84,go_sem,r0,r1]) rfl ?_
 refine ⟨_,rfl,HR3.out.setAll [gr3,.slice ar3 zr3 cr3] _ 0 HNN.out (by simp [ζh]),?_⟩
 exact (HF.out.set2 _ _).bel
open Fl (IsF Nr ζz ζE absI Est)
structure Fns (w:World) (m0 m1 m2 m3 m4 m5 m6 m7 m8 n0 n1:Value) (W:World):Prop where
 e0x0:W.cell? ⟨w,0,none⟩=some m0
 e0x1:W.cell? ⟨w,1,none⟩=some m1
 e0x2:W.cell? ⟨w,2,none⟩=some m2
 e0x3:W.cell? ⟨w,3,none⟩=some m3
 e0x4:W.cell? ⟨w,4,none⟩=some m4
 e0x5:W.cell? ⟨w,5,none⟩=some m5
 e0x6:W.cell? ⟨w,6,none⟩=some m6
 e0x7:W.cell? ⟨w,7,none⟩=some m7
 e0x8:W.cell? ⟨w,8,none⟩=some m8
 f0: ∀j,W.frozen? ⟨w,j,none⟩=false
 e1x0:W.cell? ⟨↑w+1,0,none⟩=some n0
 e1x1:W.cell? ⟨↑w+1,1,none⟩=some n1
 f1: ∀j,W.frozen? ⟨↑w+1,j,none⟩=false
 le:w.heap.size+1+1<=W.heap.size
 bel:Below w w W
theorem Fns.start (w:World) (m0 m1 m2 m3 m4 m5 m6 m7 m8 n0 n1:Value) (t0 t1:TypeId):Fns w m0 m1 m2 m3 m4 m5 m6 m7 m8 n0 n1 ((w.alloc (.cells #[m0,m1,m2,m3,m4,m5,m6,m7,m8] t0)).alloc (.cells #[n0,n1] t1)):=by
 constructor<;>first|exact ((ζc _ _).trans ((ζc _ _).mono (by simp<;>omega)))|simp [go_sem]
theorem Fns.later {w:World} {m0 m1 m2 m3 m4 m5 m6 m7 m8 n0 n1:Value} {W W':World} (h:Fns w m0 m1 m2 m3 m4 m5 m6 m7 m8 n0 n1 W) (hb:Below W W W'):Fns w m0 m1 m2 m3 m4 m5 m6 m7 m8 n0 n1 W':=by
 have q:=h.le
 have z:=h.bel.trans (hb.mono h.bel.size)
 cases h
 constructor<;>first|exact ((ζj hb).1 _ _ (by omega)).trans (by with_reducible assumption)|exact z|exact Nat.le_trans q hb.size| (intro j;exact ((ζj hb).2 _ _ (by omega)).trans (by apply_assumption))
theorem Fns.set1 {w:World} {m0 m1 m2 m3 m4 m5 m6 m7 m8 n0 n1:Value} {W:World} (h:Fns w m0 m1 m2 m3 m4 m5 m6 m7 m8 n0 n1 W) (v0 v1:Value):Fns w m0 m1 m2 m3 m4 m5 m6 m7 m8 v0 v1 ((W.setCell ⟨↑w+1,0,none⟩ v0).setCell ⟨↑w+1,1,none⟩ v1):=by
 have hle:=h.le
 constructor<;>first|exact ((h.bel.setCell (by simp<;>omega) _).setCell (by simp<;>omega) _)| (cases h;simp [go_sem, *])
theorem θJ (t0 t1 t2 t3 t4 t5 t6 t7 t8:Int) (w:World) (h0:Cor t0) (h1:Cor t1) (h2:Cor t2) (h3:Cor t3) (h4:Cor t4) (h5:Cor t5) (h6:Cor t6) (h7:Cor t7) (h8:Cor t8):
 Calls prog 163 #[.agg #[t0,t1,t2,t3,t4,t5,t6,t7,t8]] w fun o w'=>ζ4 w 4 556 1 ((nrm (pv t0 t1 t2) (pv t3 t4 t5) (pv t6 t7 t8)).dot (nrm (pv t0 t1 t2) (pv t3 t4 t5) (pv t6 t7 t8))) o w':=by
 obtain ⟨W0,hW0⟩: ∃V0,V0=((w.alloc (.cells #[t0,t1,t2,t3,t4,t5,t6,t7,t8] 36)).alloc (.cells #[oOo,oOo] 86)):=⟨_,rfl⟩
 have HF0:Hid (Fns w t0 t1 t2 t3 t4 t5 t6 t7 t8 oOo oOo W0):=by rw [hW0];exact Fns.start w _ _ _ _ _ _ _ _ _ _ _ _ _
 have hst:=ζY
 go_enter func163,ntmps163
 go_wp2_with fail
 rw [<-hW0]
 clear hW0
 refine (ψK t0 t1 t2 t3 t4 t5 t6 t7 t8 _ h0 h1 h2 h3 h4 h5 h6 h7 h8).mono ?_
 rintro o w1 ⟨v1,rfl,hv1,hb1⟩
 have HV1:Hid (ξc v1 2 272 1 (nrm (pv t0 t1 t2) (pv t3 t4 t5) (pv t6 t7 t8)).x (nrm (pv t0 t1 t2) (pv t3 t4 t5) (pv t6 t7 t8)).y (nrm (pv t0 t1 t2) (pv t3 t4 t5) (pv t6 t7 t8)).z):=hv1
 obtain ⟨m1_0,m1_1,m1_2,m1_3,m1_4,m1_5,rfl,_,_,_⟩:=hv1
 have HF1:=Hid.mk (HF0.out.later hb1)
 clear hb1 HF0
 go_wp2_with fail
 refine (ψ2 _ _ 2 2 272 272 1 1 (nrm (pv t0 t1 t2) (pv t3 t4 t5) (pv t6 t7 t8)).x (nrm (pv t0 t1 t2) (pv t3 t4 t5) (pv t6 t7 t8)).y (nrm (pv t0 t1 t2) (pv t3 t4 t5) (pv t6 t7 t8)).z (nrm (pv t0 t1 t2) (pv t3 t4 t5) (pv t6 t7 t8)).x (nrm (pv t0 t1 t2) (pv t3 t4 t5) (pv t6 t7 t8)).y (nrm (pv t0 t1 t2) (pv t3 t4 t5) (pv t6 t7 t8)).z _ (by omega) (by omega) HV1.out HV1.out).mono ?_
 rintro o w2 ⟨v2,rfl,hv2,hb2⟩
 have HV2:Hid (ζu v2 4 556 1 ((nrm (pv t0 t1 t2) (pv t3 t4 t5) (pv t6 t7 t8)).dot (nrm (pv t0 t1 t2) (pv t3 t4 t5) (pv t6 t7 t8)))):=hv2
 obtain ⟨m2,n2,_,_,rfl,_,_,_⟩:=hv2
 have HF2:Hid (Fns w t0 t1 t2 t3 t4 t5 t6 t7 t8 oOo oOo w2):=(HF1.out.later (ζc _ _)).later hb2
 clear hb2 HF1
 have r0:=HF2.out.e1x0;have r1:=HF2.out.e1x1;have rz:=HF2.out.f1
 go_wp2
 refine bodyPost_ret (v:= .agg #[.float .f64 m2,.float .f64 n2]) (by simp [results,results163,go_sem,r0,r1]) rfl ?_
 exact ⟨_,rfl,HV2.out,(HF2.out.set1 _ _).bel⟩
theorem θK (t0 t1 t2 t3 t4 t5 t6 t7 t8:Int) (w:World) (hT:Tab w) (h0:Cor t0) (h1:Cor t1) (h2:Cor t2) (h3:Cor t3) (h4:Cor t4) (h5:Cor t5) (h6:Cor t6) (h7:Cor t7) (h8:Cor t8):
 Calls prog 164 #[.agg #[t0,t1,t2,t3,t4,t5,t6,t7,t8]] w fun o w'=>ζB w 1116 ((nrm (pv t0 t1 t2) (pv t3 t4 t5) (pv t6 t7 t8)).dot (nrm (pv t0 t1 t2) (pv t3 t4 t5) (pv t6 t7 t8))) o w':=by
 obtain ⟨W0,hW0⟩: ∃V0,V0=((w.alloc (.cells #[t0,t1,t2,t3,t4,t5,t6,t7,t8] 36)).alloc (.cells #[false,()] 31)):=⟨_,rfl⟩
 have HF0:Hid (Fns w t0 t1 t2 t3 t4 t5 t6 t7 t8 false () W0):=by rw [hW0];exact Fns.start w _ _ _ _ _ _ _ _ _ _ _ _ _
 have HNI:Hid (ζf W0 (↑w+1)):=by
  have hz: ∀(i:Nat) (k:IntKind) (m:Int),(#[↑false,↑()]:Array Value)[i]? ≠some (Value.int k m):=by
   intro i k m
   match i with|0=>simp|1=>simp|n+2=>simp
  have h1:=ζf.new (w.alloc (.cells #[t0,t1,t2,t3,t4,t5,t6,t7,t8] 36)) #[false,()] 31 hz
  have hs:(w.alloc (.cells #[t0,t1,t2,t3,t4,t5,t6,t7,t8] 36)).heap.size=w.heap.size+1:=by simp
  rw [hs] at h1
  unfold Hid;rw [hW0];exact h1
 go_enter func164,ntmps164
 go_wp2_with fail
 rw [<-hW0]
 clear hW0
 refine (ψM t0 t1 t2 t3 t4 t5 t6 t7 t8 _ (hT.later HF0.out.bel) h0 h1 h2 h3 h4 h5 h6 h7 h8).mono ?_
 rintro o w1 ⟨v1,rfl,hv1,hb1⟩
 have HV1:Hid (ζM w1 v1 557 ((nrm (pv t0 t1 t2) (pv t3 t4 t5) (pv t6 t7 t8))).x ((nrm (pv t0 t1 t2) (pv t3 t4 t5) (pv t6 t7 t8))).y ((nrm (pv t0 t1 t2) (pv t3 t4 t5) (pv t6 t7 t8))).z):=hv1
 obtain ⟨gr11,ar11,cr11,zr11,gr12,ar12,cr12,zr12,gr13,ar13,cr13,zr13,rfl,_,_,_⟩:=hv1
 have HF1:=Hid.mk (HF0.out.later hb1)
 have HN1:Hid (ζf w1 (↑w+1)):=HNI.out.later hb1
 clear hb1 HF0 HNI
 go_wp2_with fail
 refine (ψ3 _ _ 557 557 ((nrm (pv t0 t1 t2) (pv t3 t4 t5) (pv t6 t7 t8))).x ((nrm (pv t0 t1 t2) (pv t3 t4 t5) (pv t6 t7 t8))).y ((nrm (pv t0 t1 t2) (pv t3 t4 t5) (pv t6 t7 t8))).z ((nrm (pv t0 t1 t2) (pv t3 t4 t5) (pv t6 t7 t8))).x ((nrm (pv t0 t1 t2) (pv t3 t4 t5) (pv t6 t7 t8))).y ((nrm (pv t0 t1 t2) (pv t3 t4 t5) (pv t6 t7 t8))).z _ (by omega) (HV1.out.later (ζc _ _)) (HV1.out.later (ζc _ _))).mono ?_
 rintro o w2 ⟨v2,rfl,hv2,hb2⟩
 have HV2:Hid (ζe w2 v2 1116 ((nrm (pv t0 t1 t2) (pv t3 t4 t5) (pv t6 t7 t8)).dot (nrm (pv t0 t1 t2) (pv t3 t4 t5) (pv t6 t7 t8)))):=hv2
 obtain ⟨gr2,ar2,cr2,zr2,rfl,_,_,_⟩:=hv2
 have HF2:Hid (Fns w t0 t1 t2 t3 t4 t5 t6 t7 t8 false () w2):=(HF1.out.later (ζc _ _)).later hb2
 have HN2:Hid (ζf w2 (↑w+1)):=(HN1.out.later (ζc _ _)).later hb2
 clear hb2 HF1 HN1
 have r0:=HF2.out.e1x0;have r1:=HF2.out.e1x1;have rz:=HF2.out.f1
 go_wp2
 refine bodyPost_ret (v:= .agg #[gr2,.slice ar2 zr2 cr2]) (by simp [results,results164,go_sem,r0,r1]) rfl ?_
 exact ⟨_,rfl,HV2.out.setAll [gr2,.slice ar2 zr2 cr2] _ 0 HN2.out (by simp [ζh]),(HF2.out.set1 _ _).bel⟩
end Go.Proofs.YtfieffpobgcpmaaGreatDoor
