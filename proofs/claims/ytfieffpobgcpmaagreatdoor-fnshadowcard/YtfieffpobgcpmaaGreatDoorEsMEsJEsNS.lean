import Derived.Test.YtfieffpobgcpmaaGreatDoorEsKBgHEsHEsLEsIS
import Derived.Deep.RegionHeld3
import Derived.Test.YtfieffpobgcpmaaGreatDoorEsGToBgES
set_option maxRecDepth 100000
set_option maxHeartbeats 32000000
namespace Go.Proofs.YtfieffpobgcpmaaGreatDoor
open Go.RowKit Go.Proofs.Tryz
variable {w W W':World} {m0 m1 m2 n0 n1 n2 p0 p1 c0x0 c0x1 c0x2 c1x0 c1x1 c1x2 c2x0 c2x1 c2x2 c3x0 c3x1 c3x2 c3x3 c3x4 c3x5 g0 g1 g2 g3 g4 g5 m3 m4 m5 m6 m7 m8 m9 m10 m11 m12 m13 n3 n4 n5 n6 n7 n8:Value} {L:Nat}
open Fl (IsF Nr ζz ζE absI Est)
structure Fnt (w:World) (m0 m1 m2 n0 n1 n2 p0 p1 p2 q0 q1 q2 q3 q4 q5:Value) (W:World):Prop where
 e0x0:W.cell? ⟨w,0,none⟩=some m0
 e0x1:W.cell? ⟨w,1,none⟩=some m1
 e0x2:W.cell? ⟨w,2,none⟩=some m2
 f0: ∀j,W.frozen? ⟨w,j,none⟩=false
 e1x0:W.cell? ⟨↑w+1,0,none⟩=some n0
 e1x1:W.cell? ⟨↑w+1,1,none⟩=some n1
 e1x2:W.cell? ⟨↑w+1,2,none⟩=some n2
 f1: ∀j,W.frozen? ⟨↑w+1,j,none⟩=false
 e2x0:W.cell? ⟨↑w+1+1,0,none⟩=some p0
 e2x1:W.cell? ⟨↑w+1+1,1,none⟩=some p1
 e2x2:W.cell? ⟨↑w+1+1,2,none⟩=some p2
 f2: ∀j,W.frozen? ⟨↑w+1+1,j,none⟩=false
 e3x0:W.cell? ⟨↑w+1+1+1,0,none⟩=some q0
 e3x1:W.cell? ⟨↑w+1+1+1,1,none⟩=some q1
 e3x2:W.cell? ⟨↑w+1+1+1,2,none⟩=some q2
 e3x3:W.cell? ⟨↑w+1+1+1,3,none⟩=some q3
 e3x4:W.cell? ⟨↑w+1+1+1,4,none⟩=some q4
 e3x5:W.cell? ⟨↑w+1+1+1,5,none⟩=some q5
 f3: ∀j,W.frozen? ⟨↑w+1+1+1,j,none⟩=false
 le:w.heap.size+1+1+1+1<=W.heap.size
 bel:Below w w W
theorem Fnt.start (w:World) (m0 m1 m2 n0 n1 n2 p0 p1 p2 q0 q1 q2 q3 q4 q5:Value) (t0 t1 t2 t3:TypeId):Fnt w m0 m1 m2 n0 n1 n2 p0 p1 p2 q0 q1 q2 q3 q4 q5 ((((w.alloc (.cells #[m0,m1,m2] t0)).alloc (.cells #[n0,n1,n2] t1)).alloc (.cells #[p0,p1,p2] t2)).alloc (.cells #[q0,q1,q2,q3,q4,q5] t3)):=by
 constructor<;>first|exact ((((ζc _ _).trans ((ζc _ _).mono (by simp<;>omega))).trans ((ζc _ _).mono (by simp<;>omega))).trans ((ζc _ _).mono (by simp<;>omega)))|simp [go_sem]
theorem Fnt.later {p2 q0 q1 q2 q3 q4 q5:Value} (h:Fnt w m0 m1 m2 n0 n1 n2 p0 p1 p2 q0 q1 q2 q3 q4 q5 W) (hb:Below W W W'):Fnt w m0 m1 m2 n0 n1 n2 p0 p1 p2 q0 q1 q2 q3 q4 q5 W':=by
 have q:=h.le
 have z:=h.bel.trans (hb.mono h.bel.size)
 cases h
 constructor<;>first|exact ((ζj hb).1 _ _ (by omega)).trans (by with_reducible assumption)|exact z|exact Nat.le_trans q hb.size| (intro j;exact ((ζj hb).2 _ _ (by omega)).trans (by apply_assumption))
theorem Fnt.set3 {p2 q0 q1 q2 q3 q4 q5:Value} (h:Fnt w m0 m1 m2 n0 n1 n2 p0 p1 p2 q0 q1 q2 q3 q4 q5 W) (v0 v1 v2 v3 v4 v5:Value):Fnt w m0 m1 m2 n0 n1 n2 p0 p1 p2 v0 v1 v2 v3 v4 v5 ((((((W.setCell ⟨↑w+1+1+1,0,none⟩ v0).setCell ⟨↑w+1+1+1,1,none⟩ v1).setCell ⟨↑w+1+1+1,2,none⟩ v2).setCell ⟨↑w+1+1+1,3,none⟩ v3).setCell ⟨↑w+1+1+1,4,none⟩ v4).setCell ⟨↑w+1+1+1,5,none⟩ v5):=by
 have hle:=h.le
 constructor<;>first|exact ((((((h.bel.setCell (by simp<;>omega) _).setCell (by simp<;>omega) _).setCell (by simp<;>omega) _).setCell (by simp<;>omega) _).setCell (by simp<;>omega) _).setCell (by simp<;>omega) _)| (cases h;simp [go_sem, *])
structure Fnu (w:World) (L:Nat) (c0x0 c0x1 c0x2 c1x0 c1x1 c1x2 c2x0 c2x1 c2x2 c3x0 c3x1 c3x2 c3x3 c3x4 c3x5 g0 g1 g2 g3 g4 g5:Value) (W:World):Prop where
 f:Fnt w c0x0 c0x1 c0x2 c1x0 c1x1 c1x2 c2x0 c2x1 c2x2 c3x0 c3x1 c3x2 c3x3 c3x4 c3x5 W
 y0:W.cell? ⟨L,0,none⟩=some g0
 y1:W.cell? ⟨L,1,none⟩=some g1
 y2:W.cell? ⟨L,2,none⟩=some g2
 y3:W.cell? ⟨L,3,none⟩=some g3
 y4:W.cell? ⟨L,4,none⟩=some g4
 y5:W.cell? ⟨L,5,none⟩=some g5
 lt:L<W.heap.size
 hL:w.heap.size+1+1+1+1<=L
theorem Fnu.later (h:Fnu w L c0x0 c0x1 c0x2 c1x0 c1x1 c1x2 c2x0 c2x1 c2x2 c3x0 c3x1 c3x2 c3x3 c3x4 c3x5 g0 g1 g2 g3 g4 g5 W) (hb:Below W W W'):Fnu w L c0x0 c0x1 c0x2 c1x0 c1x1 c1x2 c2x0 c2x1 c2x2 c3x0 c3x1 c3x2 c3x3 c3x4 c3x5 g0 g1 g2 g3 g4 g5 W':=
 ⟨h.f.later hb,((ζj hb).1 _ _ h.lt).trans h.y0,((ζj hb).1 _ _ h.lt).trans h.y1,((ζj hb).1 _ _ h.lt).trans h.y2,((ζj hb).1 _ _ h.lt).trans h.y3,((ζj hb).1 _ _ h.lt).trans h.y4,((ζj hb).1 _ _ h.lt).trans h.y5,Nat.lt_of_lt_of_le h.lt hb.size,h.hL⟩
theorem Fnu.start (h:Fnt w c0x0 c0x1 c0x2 c1x0 c1x1 c1x2 c2x0 c2x1 c2x2 c3x0 c3x1 c3x2 c3x3 c3x4 c3x5 W) (g0 g1 g2 g3 g4 g5:Value) (t:TypeId):Fnu w W c0x0 c0x1 c0x2 c1x0 c1x1 c1x2 c2x0 c2x1 c2x2 c3x0 c3x1 c3x2 c3x3 c3x4 c3x5 g0 g1 g2 g3 g4 g5 (W.alloc (.cells #[g0,g1,g2,g3,g4,g5] t)):=by
 refine ⟨h.later (ζc _ _),?_,?_,?_,?_,?_,?_,by simp,h.le⟩
 all_goals simp [go_sem]
theorem Fnu.set3 (h:Fnu w L c0x0 c0x1 c0x2 c1x0 c1x1 c1x2 c2x0 c2x1 c2x2 c3x0 c3x1 c3x2 c3x3 c3x4 c3x5 g0 g1 g2 g3 g4 g5 W) (v0 v1 v2 v3 v4 v5:Value):Fnu w L c0x0 c0x1 c0x2 c1x0 c1x1 c1x2 c2x0 c2x1 c2x2 v0 v1 v2 v3 v4 v5 g0 g1 g2 g3 g4 g5 ((((((W.setCell ⟨↑w+1+1+1,0,none⟩ v0).setCell ⟨↑w+1+1+1,1,none⟩ v1).setCell ⟨↑w+1+1+1,2,none⟩ v2).setCell ⟨↑w+1+1+1,3,none⟩ v3).setCell ⟨↑w+1+1+1,4,none⟩ v4).setCell ⟨↑w+1+1+1,5,none⟩ v5):=by
 have hL:=h.hL
 have ne: ∀j i,(⟨↑w+1+1+1,j,none⟩:Addr)≠⟨L,i,none⟩:=fun j i e=>by have:=congrArg Addr.block e;simp at this;omega
 refine ⟨h.f.set3 v0 v1 v2 v3 v4 v5,?_,?_,?_,?_,?_,?_,by simpa using h.lt,h.hL⟩
 ·rw [World.cell?_setCell_other _ _ _ _ (ne _ _),World.cell?_setCell_other _ _ _ _ (ne _ _),World.cell?_setCell_other _ _ _ _ (ne _ _),World.cell?_setCell_other _ _ _ _ (ne _ _),World.cell?_setCell_other _ _ _ _ (ne _ _),World.cell?_setCell_other _ _ _ _ (ne _ _)];exact h.y0
 ·rw [World.cell?_setCell_other _ _ _ _ (ne _ _),World.cell?_setCell_other _ _ _ _ (ne _ _),World.cell?_setCell_other _ _ _ _ (ne _ _),World.cell?_setCell_other _ _ _ _ (ne _ _),World.cell?_setCell_other _ _ _ _ (ne _ _),World.cell?_setCell_other _ _ _ _ (ne _ _)];exact h.y1
 ·rw [World.cell?_setCell_other _ _ _ _ (ne _ _),World.cell?_setCell_other _ _ _ _ (ne _ _),World.cell?_setCell_other _ _ _ _ (ne _ _),World.cell?_setCell_other _ _ _ _ (ne _ _),World.cell?_setCell_other _ _ _ _ (ne _ _),World.cell?_setCell_other _ _ _ _ (ne _ _)];exact h.y2
 ·rw [World.cell?_setCell_other _ _ _ _ (ne _ _),World.cell?_setCell_other _ _ _ _ (ne _ _),World.cell?_setCell_other _ _ _ _ (ne _ _),World.cell?_setCell_other _ _ _ _ (ne _ _),World.cell?_setCell_other _ _ _ _ (ne _ _),World.cell?_setCell_other _ _ _ _ (ne _ _)];exact h.y3
 ·rw [World.cell?_setCell_other _ _ _ _ (ne _ _),World.cell?_setCell_other _ _ _ _ (ne _ _),World.cell?_setCell_other _ _ _ _ (ne _ _),World.cell?_setCell_other _ _ _ _ (ne _ _),World.cell?_setCell_other _ _ _ _ (ne _ _),World.cell?_setCell_other _ _ _ _ (ne _ _)];exact h.y4
 ·rw [World.cell?_setCell_other _ _ _ _ (ne _ _),World.cell?_setCell_other _ _ _ _ (ne _ _),World.cell?_setCell_other _ _ _ _ (ne _ _),World.cell?_setCell_other _ _ _ _ (ne _ _),World.cell?_setCell_other _ _ _ _ (ne _ _),World.cell?_setCell_other _ _ _ _ (ne _ _)];exact h.y5
theorem Fnu.s {w':World} (h:Fnu w L c0x0 c0x1 c0x2 c1x0 c1x1 c1x2 c2x0 c2x1 c2x2 c3x0 c3x1 c3x2 c3x3 c3x4 c3x5 g0 g1 g2 g3 g4 g5 w'):w'.cell? ⟨↑w+1,0,none⟩=some c1x0∧w'.cell? ⟨↑w+1,1,none⟩=some c1x1∧w'.cell? ⟨↑w+1,2,none⟩=some c1x2∧w'.cell? ⟨↑w+1+1,0,none⟩=some c2x0∧w'.cell? ⟨↑w+1+1,1,none⟩=some c2x1∧w'.cell? ⟨↑w+1+1,2,none⟩=some c2x2∧w'.cell? ⟨L,0,none⟩=some g0∧w'.cell? ⟨L,1,none⟩=some g1∧w'.cell? ⟨L,2,none⟩=some g2∧w'.cell? ⟨L,3,none⟩=some g3∧w'.cell? ⟨L,4,none⟩=some g4∧w'.cell? ⟨L,5,none⟩=some g5:=⟨h.f.e1x0,h.f.e1x1,h.f.e1x2,h.f.e2x0,h.f.e2x1,h.f.e2x2,h.y0,h.y1,h.y2,h.y3,h.y4,h.y5⟩
theorem ψK (a0 a1 a2 b0 b1 b2 c0 c1 c2:Int) (w:World) (ha0:Cor a0) (ha1:Cor a1) (ha2:Cor a2) (hb0:Cor b0) (hb1:Cor b1) (hb2:Cor b2) (hc0:Cor c0) (hc1:Cor c1) (hc2:Cor c2):
 Calls prog 160 #[.agg #[a0,a1,a2],.agg #[b0,b1,b2],.agg #[c0,c1,c2]] w fun o w'=>ξ0 w 2 272 1 ((cor b1-cor a1)*(cor c2-cor a2)-(cor b2-cor a2)*(cor c1-cor a1)) ((cor b2-cor a2)*(cor c0-cor a0)-(cor b0-cor a0)*(cor c2-cor a2)) ((cor b0-cor a0)*(cor c1-cor a1)-(cor b1-cor a1)*(cor c0-cor a0)) o w':=by
 obtain ⟨W0,hW0⟩: ∃V0,V0=((((w.alloc (.cells #[a0,a1,a2] 34)).alloc (.cells #[b0,b1,b2] 34)).alloc (.cells #[c0,c1,c2] 34)).alloc (.cells #[oOo,oOo,oOo,oOo,oOo,oOo] 88)):=⟨_,rfl⟩
 have HF0:Hid (Fnt w a0 a1 a2 b0 b1 b2 c0 c1 c2 oOo oOo oOo oOo oOo oOo W0):=by rw [hW0];exact Fnt.start w _ _ _ _ _ _ _ _ _ _ _ _ _ _ _ _ _ _ _
 have hst:=ζY
 go_enter func160,ntmps160
 go_wp2_with fail
 rw [<-hW0]
 clear hW0
 refine (ξI a0 a1 a2 _ ha0 ha1 ha2).mono ?_
 rintro o w1 ⟨v1,rfl,hv1,hb1⟩
 have HV1:Hid (ξc v1 1 128 1 (cor a0) (cor a1) (cor a2)):=hv1
 obtain ⟨m1_0,m1_1,m1_2,m1_3,m1_4,m1_5,rfl,_,_,_⟩:=hv1
 have HF1:=Hid.mk (HF0.out.later hb1)
 clear hb1 HF0
 go_wp2_with fail
 obtain ⟨W1,hW1⟩: ∃V0,V0=w1.alloc (.cells #[.float .f64 m1_0,.float .f64 m1_1,.float .f64 m1_2,.float .f64 m1_3,.float .f64 m1_4,.float .f64 m1_5] 88):=⟨_,rfl⟩
 rw [<-hW1]
 have FR:Hid (Fnu w w1 a0 a1 a2 b0 b1 b2 c0 c1 c2 oOo oOo oOo oOo oOo oOo (.float .f64 m1_0) (.float .f64 m1_1) (.float .f64 m1_2) (.float .f64 m1_3) (.float .f64 m1_4) (.float .f64 m1_5) W1):=by rw [hW1];exact Fnu.start HF1.out _ _ _ _ _ _ _
 clear hW1 HF1
 have F1:Fnu w w1 a0 a1 a2 b0 b1 b2 c0 c1 c2 oOo oOo oOo oOo oOo oOo (.float .f64 m1_0) (.float .f64 m1_1) (.float .f64 m1_2) (.float .f64 m1_3) (.float .f64 m1_4) (.float .f64 m1_5) W1.drew:=FR.out.later (Below.refl _ _).drew
 go_region_held3 (fun w'=>w'.cell? ⟨↑w+1,0,none⟩=some ↑b0∧w'.cell? ⟨↑w+1,1,none⟩=some ↑b1∧w'.cell? ⟨↑w+1,2,none⟩=some ↑b2∧w'.cell? ⟨↑w+1+1,0,none⟩=some ↑c0∧w'.cell? ⟨↑w+1+1,1,none⟩=some ↑c1∧w'.cell? ⟨↑w+1+1,2,none⟩=some ↑c2∧w'.cell? ⟨w1,0,none⟩=some (.float .f64 m1_0)∧w'.cell? ⟨w1,1,none⟩=some (.float .f64 m1_1)∧w'.cell? ⟨w1,2,none⟩=some (.float .f64 m1_2)∧w'.cell? ⟨w1,3,none⟩=some (.float .f64 m1_3)∧w'.cell? ⟨w1,4,none⟩=some (.float .f64 m1_4)∧w'.cell? ⟨w1,5,none⟩=some (.float .f64 m1_5))
  (first|with_reducible exact (F6.set3 _ _ _ _ _ _).s|with_reducible exact Fnu.s (by with_reducible assumption))
  (first
   |(have hBB:=hB5;clear hBB;go_at_call 165;refine (χc _ _ 1 1 132 132 1 1 (cor b0-cor a0) (cor b1-cor a1) (cor b2-cor a2) (cor c0-cor a0) (cor c1-cor a1) (cor c2-cor a2) _ (by omega) (by omega) HV3.out HV5.out).mono ?_;rintro o w6 ⟨v6,rfl,hv6,hb6⟩;have HV6:Hid (ξc v6 2 272 1 ((cor b1-cor a1)*(cor c2-cor a2)-(cor b2-cor a2)*(cor c1-cor a1)) ((cor b2-cor a2)*(cor c0-cor a0)-(cor b0-cor a0)*(cor c2-cor a2)) ((cor b0-cor a0)*(cor c1-cor a1)-(cor b1-cor a1)*(cor c0-cor a0))):=hv6;obtain ⟨m6_0,m6_1,m6_2,m6_3,m6_4,m6_5,rfl,_,_,_⟩:=hv6;have hB6:Below W1 W1 w6:=hB5.trans (hb6.mono hB5.size);have F6:Fnu w w1 a0 a1 a2 b0 b1 b2 c0 c1 c2 oOo oOo oOo oOo oOo oOo (.float .f64 m1_0) (.float .f64 m1_1) (.float .f64 m1_2) (.float .f64 m1_3) (.float .f64 m1_4) (.float .f64 m1_5) w6:=FR.out.later hB6;have r0:=F6.f.e3x0;have r1:=F6.f.e3x1;have r2:=F6.f.e3x2;have r3:=F6.f.e3x3;have r4:=F6.f.e3x4;have r5:=F6.f.e3x5;have rz:=F6.f.f3)
   |(have hBB:=hB4;clear hBB;go_at_call 150;refine (ξ1 _ _ 1 128 1 (cor c0) (cor c1) (cor c2) (cor a0) (cor a1) (cor a2) _ (by omega) HV4.out HV1.out).mono ?_;rintro o w5 ⟨v5,rfl,hv5,hb5⟩;have HV5:Hid (ξc v5 1 132 1 (cor c0-cor a0) (cor c1-cor a1) (cor c2-cor a2)):=hv5;obtain ⟨m5_0,m5_1,m5_2,m5_3,m5_4,m5_5,rfl,_,_,_⟩:=hv5;have hB5:Below W1 W1 w5:=hB4.trans (hb5.mono hB4.size);have F5:Fnu w w1 a0 a1 a2 b0 b1 b2 c0 c1 c2 oOo oOo oOo oOo oOo oOo (.float .f64 m1_0) (.float .f64 m1_1) (.float .f64 m1_2) (.float .f64 m1_3) (.float .f64 m1_4) (.float .f64 m1_5) w5:=FR.out.later hB5)
   |(have hBB:=hB3;clear hBB;go_at_call 121;refine (ξI c0 c1 c2 _ hc0 hc1 hc2).mono ?_;rintro o w4 ⟨v4,rfl,hv4,hb4⟩;have HV4:Hid (ξc v4 1 128 1 (cor c0) (cor c1) (cor c2)):=hv4;obtain ⟨m4_0,m4_1,m4_2,m4_3,m4_4,m4_5,rfl,_,_,_⟩:=hv4;have hB4:Below W1 W1 w4:=hB3.trans (hb4.mono hB3.size);have F4:Fnu w w1 a0 a1 a2 b0 b1 b2 c0 c1 c2 oOo oOo oOo oOo oOo oOo (.float .f64 m1_0) (.float .f64 m1_1) (.float .f64 m1_2) (.float .f64 m1_3) (.float .f64 m1_4) (.float .f64 m1_5) w4:=FR.out.later hB4)
   |(have hBB:=hB2;clear hBB;go_at_call 150;refine (ξ1 _ _ 1 128 1 (cor b0) (cor b1) (cor b2) (cor a0) (cor a1) (cor a2) _ (by omega) HV2.out HV1.out).mono ?_;rintro o w3 ⟨v3,rfl,hv3,hb3⟩;have HV3:Hid (ξc v3 1 132 1 (cor b0-cor a0) (cor b1-cor a1) (cor b2-cor a2)):=hv3;obtain ⟨m3_0,m3_1,m3_2,m3_3,m3_4,m3_5,rfl,_,_,_⟩:=hv3;have hB3:Below W1 W1 w3:=hB2.trans (hb3.mono hB2.size);have F3:Fnu w w1 a0 a1 a2 b0 b1 b2 c0 c1 c2 oOo oOo oOo oOo oOo oOo (.float .f64 m1_0) (.float .f64 m1_1) (.float .f64 m1_2) (.float .f64 m1_3) (.float .f64 m1_4) (.float .f64 m1_5) w3:=FR.out.later hB3)
   |(go_at_call 121;refine (ξI b0 b1 b2 _ hb0 hb1 hb2).mono ?_;rintro o w2 ⟨v2,rfl,hv2,hb2⟩;have HV2:Hid (ξc v2 1 128 1 (cor b0) (cor b1) (cor b2)):=hv2;obtain ⟨m2_0,m2_1,m2_2,m2_3,m2_4,m2_5,rfl,_,_,_⟩:=hv2;have hB2:Below W1 W1 w2:=(Below.refl _ _).drew.trans hb2;have F2:Fnu w w1 a0 a1 a2 b0 b1 b2 c0 c1 c2 oOo oOo oOo oOo oOo oOo (.float .f64 m1_0) (.float .f64 m1_1) (.float .f64 m1_2) (.float .f64 m1_3) (.float .f64 m1_4) (.float .f64 m1_5) w2:=FR.out.later hB2))
 have HF:Hid (Fnu w w1 a0 a1 a2 b0 b1 b2 c0 c1 c2 oOo oOo oOo oOo oOo oOo (.float .f64 m1_0) (.float .f64 m1_1) (.float .f64 m1_2) (.float .f64 m1_3) (.float .f64 m1_4) (.float .f64 m1_5) w6):=F6
 clear hB2 hb2 F2 hB3 hb3 F3 hB4 hb4 F4 hB5 hb5 F5 hB6 hb6 F6 F1
 go_wp2
 refine bodyPost_ret (v:= .agg #[.float .f64 m6_0,.float .f64 m6_1,.float .f64 m6_2,.float .f64 m6_3,.float .f64 m6_4,.float .f64 m6_5]) (by simp [results,results160,go_sem,r0,r1,r2,r3,r4,r5]) rfl ?_
 exact ⟨_,rfl,HV6.out,(HF.out.set3 _ _ _ _ _ _).f.bel⟩
open Fl (IsF Nr ζz ζE absI Est)
theorem ψ2 (u v:Value) (k k' e e':Nat) (S S' A B C A' B' C':Int) (w:World) (hk:k+k'<=7) (he:e+e'<=880) (hu:ξc u k e S A B C) (hv:ξc v k' e' S' A' B' C'):
 Calls prog 161 #[u,v] w fun o w'=>ζ4 w (k+k') (e+e'+4+4+4) (S*S') (A*A'+B*B'+C*C') o w':=by
 obtain ⟨x1,y1,x2,y2,x3,y3,rfl,h1,h2,h3⟩:=hu
 obtain ⟨x1',y1',x2',y2',x3',y3',rfl,h1',h2',h3'⟩:=hv
 go_enter func161,ntmps161
 go_wp2
 obtain ⟨W0,hW0⟩: ∃V0,V0=(((w.alloc (.cells #[.float .f64 x1,.float .f64 y1,.float .f64 x2,.float .f64 y2,.float .f64 x3,.float .f64 y3] 88)).alloc (.cells #[.float .f64 x1',.float .f64 y1',.float .f64 x2',.float .f64 y2',.float .f64 x3',.float .f64 y3'] 88)).alloc (.cells #[oOo,oOo] 86)):=⟨_,rfl⟩
 rw [<-hW0]
 have FR:Hid (ωY w (.float .f64 x1) (.float .f64 y1) (.float .f64 x2) (.float .f64 y2) (.float .f64 x3) (.float .f64 y3) (.float .f64 x1') (.float .f64 y1') (.float .f64 x2') (.float .f64 y2') (.float .f64 x3') (.float .f64 y3') oOo oOo W0):=by rw [hW0];exact ωY.start w _ _ _ _ _ _ _ _ _ _ _ _ _ _ _ _ _
 clear hW0
 have hmt2_2_1: ∀(r:Value) (w:World),_:=fun r w=>(ωV r w).2.2.1
 have hmt2_1: ∀(r:Value) (w:World),_:=fun r w=>(ωV r w).2.1
 have hst:=ζY
 have hL0:Below (↑w+1+1) W0 W0.drew:=(Below.refl _ _).drew
 go_region_held3 (fun w'=>w'.cell? ⟨w,0,none⟩=some (.float .f64 x1)∧w'.cell? ⟨w,1,none⟩=some (.float .f64 y1)∧w'.cell? ⟨w,2,none⟩=some (.float .f64 x2)∧w'.cell? ⟨w,3,none⟩=some (.float .f64 y2)∧w'.cell? ⟨w,4,none⟩=some (.float .f64 x3)∧w'.cell? ⟨w,5,none⟩=some (.float .f64 y3)∧w'.cell? ⟨↑w+1,0,none⟩=some (.float .f64 x1')∧w'.cell? ⟨↑w+1,1,none⟩=some (.float .f64 y1')∧w'.cell? ⟨↑w+1,2,none⟩=some (.float .f64 x2')∧w'.cell? ⟨↑w+1,3,none⟩=some (.float .f64 y2')∧w'.cell? ⟨↑w+1,4,none⟩=some (.float .f64 x3')∧w'.cell? ⟨↑w+1,5,none⟩=some (.float .f64 y3')∧Below (↑w+1+1) W0 w')
  (first|with_reducible exact (FR.out.s.on hL5).set _ _|with_reducible exact FR.out.s.on (by with_reducible assumption))
  (first
   |(have hBB:=hB4;clear hBB;go_at_call 214;refine (ξP _ _ (k+k') (e+e'+4+4) (S*S') (A*A'+B*B') (C*C') _ (by omega) HV3.out (HV4.out.up (by omega))).mono ?_;rintro o w5 ⟨v5,rfl,hv5,hb5⟩;have HV5:Hid (ζu v5 (k+k') (e+e'+4+4+4) (S*S') (A*A'+B*B'+C*C')):=hv5;obtain ⟨m5,n5,_,_,rfl,_,_,_⟩:=hv5;have hB5:Below W0 W0 w5:=hB4.trans (hb5.mono hB4.size);have hL5:Below (↑w+1+1) W0 w5:=hB5.mono (by have:=FR.out.le;omega);have F3:Hid (ωY w (.float .f64 x1) (.float .f64 y1) (.float .f64 x2) (.float .f64 y2) (.float .f64 x3) (.float .f64 y3) (.float .f64 x1') (.float .f64 y1') (.float .f64 x2') (.float .f64 y2') (.float .f64 x3') (.float .f64 y3') oOo oOo w5):=FR.out.later hB5;have r0:=F3.out.r0;have r1:=F3.out.r1;have rz:=F3.out.fz)
   |(have hBB:=hB3;clear hBB;go_at_call 215;refine (ζJ _ _ k k' e e' S S' C C' _ hk (by omega) h3 h3').mono ?_;rintro o w4 ⟨v4,rfl,hv4,hb4⟩;have HV4:Hid (ζu v4 (k+k') (e+e'+4) (S*S') (C*C')):=hv4;obtain ⟨m4,n4,_,_,rfl,_,_,_⟩:=hv4;have hB4:Below W0 W0 w4:=hB3.trans (hb4.mono hB3.size);have hL4:Below (↑w+1+1) W0 w4:=hB4.mono (by have:=FR.out.le;omega))
   |(have hBB:=hB2;clear hBB;go_at_call 214;refine (ξP _ _ (k+k') (e+e'+4) (S*S') (A*A') (B*B') _ (by omega) HV1.out HV2.out).mono ?_;rintro o w3 ⟨v3,rfl,hv3,hb3⟩;have HV3:Hid (ζu v3 (k+k') (e+e'+4+4) (S*S') (A*A'+B*B')):=hv3;obtain ⟨m3,n3,_,_,rfl,_,_,_⟩:=hv3;have hB3:Below W0 W0 w3:=hB2.trans (hb3.mono hB2.size);have hL3:Below (↑w+1+1) W0 w3:=hB3.mono (by have:=FR.out.le;omega))
   |(have hBB:=hB1;clear hBB;go_at_call 215;refine (ζJ _ _ k k' e e' S S' B B' _ hk (by omega) h2 h2').mono ?_;rintro o w2 ⟨v2,rfl,hv2,hb2⟩;have HV2:Hid (ζu v2 (k+k') (e+e'+4) (S*S') (B*B')):=hv2;obtain ⟨m2,n2,_,_,rfl,_,_,_⟩:=hv2;have hB2:Below W0 W0 w2:=hB1.trans (hb2.mono hB1.size);have hL2:Below (↑w+1+1) W0 w2:=hB2.mono (by have:=FR.out.le;omega))
   |(go_at_call 215;refine (ζJ _ _ k k' e e' S S' A A' _ hk (by omega) h1 h1').mono ?_;rintro o w1 ⟨v1,rfl,hv1,hb1⟩;have HV1:Hid (ζu v1 (k+k') (e+e'+4) (S*S') (A*A')):=hv1;obtain ⟨m1,n1,_,_,rfl,_,_,_⟩:=hv1;have hB1:Below W0 W0 w1:=(Below.refl _ _).drew.trans hb1;have hL1:Below (↑w+1+1) W0 w1:=hB1.mono (by have:=FR.out.le;omega)))
 clear hB1 hL1 hb1 hB2 hL2 hb2 hB3 hL3 hb3 hB4 hL4 hb4 hB5 hL5 hb5 hmt2_2_1 hmt2_1
 go_wp2
 refine bodyPost_ret (v:= .agg #[.float .f64 m5,.float .f64 n5]) (by simp [results,results161,go_sem,r0,r1]) rfl ?_
 refine ⟨_,rfl,HV5.out,?_⟩
 exact ((F3.out.bel.setCell (by simp;omega) _).setCell (by simp;omega) _)
open Fl (IsF Nr ζz ζE absI Est)
structure V3 where
 x:Int
 y:Int
 z:Int
def V3.sub (a b:V3):V3:=⟨a.x-b.x,a.y-b.y,a.z-b.z⟩
def V3.cross (a b:V3):V3:=⟨a.y*b.z-a.z*b.y,a.z*b.x-a.x*b.z,a.x*b.y-a.y*b.x⟩
def V3.dot (a b:V3):Int:=a.x*b.x+a.y*b.y+a.z*b.z
def V3.sc (k:Int) (a:V3):V3:=⟨k*a.x,k*a.y,k*a.z⟩
def pv (a b c:Int):V3:=⟨cor a,cor b,cor c⟩
def nrm (A B C:V3):V3:=(B.sub A).cross (C.sub A)
def ω0 (v:Value) (S:Int) (O D:V3):Prop:=νU v S O.x O.y O.z D.x D.y D.z
structure Fcl (w:World) (m0 m1 m2 m3 m4 m5 m6 m7 m8 m9 m10 m11 m12 m13 n0 n1 n2 n3 n4 n5 n6 n7 n8 p0 p1:Value) (W:World):Prop where
 e0x0:W.cell? ⟨w,0,none⟩=some m0
 e0x1:W.cell? ⟨w,1,none⟩=some m1
 e0x2:W.cell? ⟨w,2,none⟩=some m2
 e0x3:W.cell? ⟨w,3,none⟩=some m3
 e0x4:W.cell? ⟨w,4,none⟩=some m4
 e0x5:W.cell? ⟨w,5,none⟩=some m5
 e0x6:W.cell? ⟨w,6,none⟩=some m6
 e0x7:W.cell? ⟨w,7,none⟩=some m7
 e0x8:W.cell? ⟨w,8,none⟩=some m8
 e0x9:W.cell? ⟨w,9,none⟩=some m9
 e0x10:W.cell? ⟨w,10,none⟩=some m10
 e0x11:W.cell? ⟨w,11,none⟩=some m11
 e0x12:W.cell? ⟨w,12,none⟩=some m12
 e0x13:W.cell? ⟨w,13,none⟩=some m13
 f0: ∀j,W.frozen? ⟨w,j,none⟩=false
 e1x0:W.cell? ⟨↑w+1,0,none⟩=some n0
 e1x1:W.cell? ⟨↑w+1,1,none⟩=some n1
 e1x2:W.cell? ⟨↑w+1,2,none⟩=some n2
 e1x3:W.cell? ⟨↑w+1,3,none⟩=some n3
 e1x4:W.cell? ⟨↑w+1,4,none⟩=some n4
 e1x5:W.cell? ⟨↑w+1,5,none⟩=some n5
 e1x6:W.cell? ⟨↑w+1,6,none⟩=some n6
 e1x7:W.cell? ⟨↑w+1,7,none⟩=some n7
 e1x8:W.cell? ⟨↑w+1,8,none⟩=some n8
 f1: ∀j,W.frozen? ⟨↑w+1,j,none⟩=false
 e2x0:W.cell? ⟨↑w+1+1,0,none⟩=some p0
 e2x1:W.cell? ⟨↑w+1+1,1,none⟩=some p1
 f2: ∀j,W.frozen? ⟨↑w+1+1,j,none⟩=false
 le:w.heap.size+1+1+1<=W.heap.size
 bel:Below w w W
theorem Fcl.start (w:World) (m0 m1 m2 m3 m4 m5 m6 m7 m8 m9 m10 m11 m12 m13 n0 n1 n2 n3 n4 n5 n6 n7 n8 p0 p1:Value) (t0 t1 t2:TypeId):Fcl w m0 m1 m2 m3 m4 m5 m6 m7 m8 m9 m10 m11 m12 m13 n0 n1 n2 n3 n4 n5 n6 n7 n8 p0 p1 (((w.alloc (.cells #[m0,m1,m2,m3,m4,m5,m6,m7,m8,m9,m10,m11,m12,m13] t0)).alloc (.cells #[n0,n1,n2,n3,n4,n5,n6,n7,n8] t1)).alloc (.cells #[p0,p1] t2)):=by
 constructor<;>first|exact (((ζc _ _).trans ((ζc _ _).mono (by simp<;>omega))).trans ((ζc _ _).mono (by simp<;>omega)))|simp [go_sem]
theorem Fcl.later (h:Fcl w m0 m1 m2 m3 m4 m5 m6 m7 m8 m9 m10 m11 m12 m13 n0 n1 n2 n3 n4 n5 n6 n7 n8 p0 p1 W) (hb:Below W W W'):Fcl w m0 m1 m2 m3 m4 m5 m6 m7 m8 m9 m10 m11 m12 m13 n0 n1 n2 n3 n4 n5 n6 n7 n8 p0 p1 W':=by
 have q:=h.le
 have z:=h.bel.trans (hb.mono h.bel.size)
 cases h
 constructor<;>first|exact ((ζj hb).1 _ _ (by omega)).trans (by with_reducible assumption)|exact z|exact Nat.le_trans q hb.size| (intro j;exact ((ζj hb).2 _ _ (by omega)).trans (by apply_assumption))
theorem Fcl.set2 (h:Fcl w m0 m1 m2 m3 m4 m5 m6 m7 m8 m9 m10 m11 m12 m13 n0 n1 n2 n3 n4 n5 n6 n7 n8 p0 p1 W) (v0 v1:Value):Fcl w m0 m1 m2 m3 m4 m5 m6 m7 m8 m9 m10 m11 m12 m13 n0 n1 n2 n3 n4 n5 n6 n7 n8 v0 v1 ((W.setCell ⟨↑w+1+1,0,none⟩ v0).setCell ⟨↑w+1+1,1,none⟩ v1):=by
 have hle:=h.le
 constructor<;>first|exact ((h.bel.setCell (by simp<;>omega) _).setCell (by simp<;>omega) _)| (cases h;simp [go_sem, *])
theorem Fcl.s {w':World} (h:Fcl w m0 m1 m2 m3 m4 m5 m6 m7 m8 m9 m10 m11 m12 m13 n0 n1 n2 n3 n4 n5 n6 n7 n8 p0 p1 w'):w'.cell? ⟨w,0,none⟩=some m0∧w'.cell? ⟨w,1,none⟩=some m1∧w'.cell? ⟨w,2,none⟩=some m2∧w'.cell? ⟨w,3,none⟩=some m3∧w'.cell? ⟨w,4,none⟩=some m4∧w'.cell? ⟨w,5,none⟩=some m5∧w'.cell? ⟨w,6,none⟩=some m6∧w'.cell? ⟨w,7,none⟩=some m7∧w'.cell? ⟨w,8,none⟩=some m8∧w'.cell? ⟨w,9,none⟩=some m9∧w'.cell? ⟨w,10,none⟩=some m10∧w'.cell? ⟨w,11,none⟩=some m11∧w'.cell? ⟨w,12,none⟩=some m12∧w'.cell? ⟨w,13,none⟩=some m13∧w'.cell? ⟨↑w+1,0,none⟩=some n0∧w'.cell? ⟨↑w+1,1,none⟩=some n1∧w'.cell? ⟨↑w+1,2,none⟩=some n2∧w'.cell? ⟨↑w+1,3,none⟩=some n3∧w'.cell? ⟨↑w+1,4,none⟩=some n4∧w'.cell? ⟨↑w+1,5,none⟩=some n5∧w'.cell? ⟨↑w+1,6,none⟩=some n6∧w'.cell? ⟨↑w+1,7,none⟩=some n7∧w'.cell? ⟨↑w+1,8,none⟩=some n8:=⟨h.e0x0,h.e0x1,h.e0x2,h.e0x3,h.e0x4,h.e0x5,h.e0x6,h.e0x7,h.e0x8,h.e0x9,h.e0x10,h.e0x11,h.e0x12,h.e0x13,h.e1x0,h.e1x1,h.e1x2,h.e1x3,h.e1x4,h.e1x5,h.e1x6,h.e1x7,h.e1x8⟩
theorem η0 (v:Value) (S:Int) (O D:V3) (t0 t1 t2 t3 t4 t5 t6 t7 t8:Int) (w:World) (hl:ω0 v S O D) (h0:Cor t0) (h1:Cor t1) (h2:Cor t2) (h3:Cor t3) (h4:Cor t4) (h5:Cor t5) (h6:Cor t6) (h7:Cor t7) (h8:Cor t8):
 Calls prog 124 #[v,.agg #[t0,t1,t2,t3,t4,t5,t6,t7,t8]] w fun o w'=>ζ4 w 3 426 (1*S) ((nrm (pv t0 t1 t2) (pv t3 t4 t5) (pv t6 t7 t8)).dot D) o w':=by
 obtain ⟨l0,l1,l2,l3,l4,l5,l6,l7,l8,l9,l10,l11,l12,l13,rfl,hS,hD,hC,hP⟩:=hl
 go_enter func124,ntmps124
 go_wp2_with fail
 obtain ⟨W0,hW0⟩: ∃V0,V0=(((w.alloc (.cells #[.float .f64 l0,.float .f64 l1,.float .f64 l2,.float .f64 l3,.float .f64 l4,.float .f64 l5,.float .f64 l6,.float .f64 l7,.float .f64 l8,.float .f64 l9,.float .f64 l10,.float .f64 l11,.float .f64 l12,.float .f64 l13] 90)).alloc (.cells #[t0,t1,t2,t3,t4,t5,t6,t7,t8] 36)).alloc (.cells #[oOo,oOo] 86)):=⟨_,rfl⟩
 rw [<-hW0]
 have FR:Hid (Fcl w (.float .f64 l0) (.float .f64 l1) (.float .f64 l2) (.float .f64 l3) (.float .f64 l4) (.float .f64 l5) (.float .f64 l6) (.float .f64 l7) (.float .f64 l8) (.float .f64 l9) (.float .f64 l10) (.float .f64 l11) (.float .f64 l12) (.float .f64 l13) t0 t1 t2 t3 t4 t5 t6 t7 t8 oOo oOo W0):=by rw [hW0];exact Fcl.start w _ _ _ _ _ _ _ _ _ _ _ _ _ _ _ _ _ _ _ _ _ _ _ _ _ _ _ _
 clear hW0
 have hst:=ζY
 have F0:Fcl w (.float .f64 l0) (.float .f64 l1) (.float .f64 l2) (.float .f64 l3) (.float .f64 l4) (.float .f64 l5) (.float .f64 l6) (.float .f64 l7) (.float .f64 l8) (.float .f64 l9) (.float .f64 l10) (.float .f64 l11) (.float .f64 l12) (.float .f64 l13) t0 t1 t2 t3 t4 t5 t6 t7 t8 oOo oOo W0.drew:=FR.out.later (Below.refl _ _).drew
 go_region_held3 (fun w'=>w'.cell? ⟨w,0,none⟩=some (.float .f64 l0)∧w'.cell? ⟨w,1,none⟩=some (.float .f64 l1)∧w'.cell? ⟨w,2,none⟩=some (.float .f64 l2)∧w'.cell? ⟨w,3,none⟩=some (.float .f64 l3)∧w'.cell? ⟨w,4,none⟩=some (.float .f64 l4)∧w'.cell? ⟨w,5,none⟩=some (.float .f64 l5)∧w'.cell? ⟨w,6,none⟩=some (.float .f64 l6)∧w'.cell? ⟨w,7,none⟩=some (.float .f64 l7)∧w'.cell? ⟨w,8,none⟩=some (.float .f64 l8)∧w'.cell? ⟨w,9,none⟩=some (.float .f64 l9)∧w'.cell? ⟨w,10,none⟩=some (.float .f64 l10)∧w'.cell? ⟨w,11,none⟩=some (.float .f64 l11)∧w'.cell? ⟨w,12,none⟩=some (.float .f64 l12)∧w'.cell? ⟨w,13,none⟩=some (.float .f64 l13)∧w'.cell? ⟨↑w+1,0,none⟩=some ↑t0∧w'.cell? ⟨↑w+1,1,none⟩=some ↑t1∧w'.cell? ⟨↑w+1,2,none⟩=some ↑t2∧w'.cell? ⟨↑w+1,3,none⟩=some ↑t3∧w'.cell? ⟨↑w+1,4,none⟩=some ↑t4∧w'.cell? ⟨↑w+1,5,none⟩=some ↑t5∧w'.cell? ⟨↑w+1,6,none⟩=some ↑t6∧w'.cell? ⟨↑w+1,7,none⟩=some ↑t7∧w'.cell? ⟨↑w+1,8,none⟩=some ↑t8)
  (first|with_reducible exact (F2.set2 _ _).s|with_reducible exact Fcl.s (by with_reducible assumption))
  (first
   |(have hBB:=hB1;clear hBB;go_at_call 161;refine (ψ2 _ _ 2 1 272 142 1 S (nrm (pv t0 t1 t2) (pv t3 t4 t5) (pv t6 t7 t8)).x (nrm (pv t0 t1 t2) (pv t3 t4 t5) (pv t6 t7 t8)).y (nrm (pv t0 t1 t2) (pv t3 t4 t5) (pv t6 t7 t8)).z D.x D.y D.z _ (by omega) (by omega) HV1.out hD).mono ?_;rintro o w2 ⟨v2,rfl,hv2,hb2⟩;have HV2:Hid (ζu v2 3 426 (1*S) ((nrm (pv t0 t1 t2) (pv t3 t4 t5) (pv t6 t7 t8)).dot D)):=hv2;obtain ⟨m2,n2,_,_,rfl,_,_,_⟩:=hv2;have hB2:Below W0 W0 w2:=hB1.trans (hb2.mono hB1.size);have F2:Fcl w (.float .f64 l0) (.float .f64 l1) (.float .f64 l2) (.float .f64 l3) (.float .f64 l4) (.float .f64 l5) (.float .f64 l6) (.float .f64 l7) (.float .f64 l8) (.float .f64 l9) (.float .f64 l10) (.float .f64 l11) (.float .f64 l12) (.float .f64 l13) t0 t1 t2 t3 t4 t5 t6 t7 t8 oOo oOo w2:=FR.out.later hB2;have r0:=F2.e2x0;have r1:=F2.e2x1;have rz:=F2.f2)
   |(go_at_call 160;refine (ψK t0 t1 t2 t3 t4 t5 t6 t7 t8 _ h0 h1 h2 h3 h4 h5 h6 h7 h8).mono ?_;rintro o w1 ⟨v1,rfl,hv1,hb1⟩;have HV1:Hid (ξc v1 2 272 1 (nrm (pv t0 t1 t2) (pv t3 t4 t5) (pv t6 t7 t8)).x (nrm (pv t0 t1 t2) (pv t3 t4 t5) (pv t6 t7 t8)).y (nrm (pv t0 t1 t2) (pv t3 t4 t5) (pv t6 t7 t8)).z):=hv1;obtain ⟨m1_0,m1_1,m1_2,m1_3,m1_4,m1_5,rfl,_,_,_⟩:=hv1;have hB1:Below W0 W0 w1:=(Below.refl _ _).drew.trans hb1;have F1:Fcl w (.float .f64 l0) (.float .f64 l1) (.float .f64 l2) (.float .f64 l3) (.float .f64 l4) (.float .f64 l5) (.float .f64 l6) (.float .f64 l7) (.float .f64 l8) (.float .f64 l9) (.float .f64 l10) (.float .f64 l11) (.float .f64 l12) (.float .f64 l13) t0 t1 t2 t3 t4 t5 t6 t7 t8 oOo oOo w1:=FR.out.later hB1))
 have HF:Hid (Fcl w (.float .f64 l0) (.float .f64 l1) (.float .f64 l2) (.float .f64 l3) (.float .f64 l4) (.float .f64 l5) (.float .f64 l6) (.float .f64 l7) (.float .f64 l8) (.float .f64 l9) (.float .f64 l10) (.float .f64 l11) (.float .f64 l12) (.float .f64 l13) t0 t1 t2 t3 t4 t5 t6 t7 t8 oOo oOo w2):=F2
 clear hB1 hb1 F1 hB2 hb2 F2 F0
 go_wp2
 refine bodyPost_ret (v:= .agg #[.float .f64 m2,.float .f64 n2]) (by simp [results,results124,go_sem,r0,r1]) rfl ?_
 refine ⟨_,rfl,HV2.out,?_⟩
 exact (HF.out.set2 _ _).bel
end Go.Proofs.YtfieffpobgcpmaaGreatDoor
