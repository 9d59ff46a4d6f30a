import Derived.Test.YtfieffpobgcpmaaGreatDoorEsGToBgES
import Derived.Deep.RegionHeld3
set_option maxRecDepth 100000
set_option maxHeartbeats 32000000
namespace Go.Proofs.YtfieffpobgcpmaaGreatDoor
open Go.RowKit Go.Proofs.Tryz
variable {w W:World} {m0 m1 m2 n0 n1 n2 n3 n4 n5 p0 p1 v m3 m4 m5 m6 m7 m8 m9 m10 m11 m12 m13 p2 p3 p4 p5:Value} {k e:Nat}
open Fl (IsF Nr ζz ζE absI Est)
structure Cor (b:Int):Prop where
 h0:0<=b
 h1:b<4294967296
 hf:ψb b=true
structure Fvo (w:World) (m0 m1 m2 n0 n1 n2 n3 n4 n5 p0 p1:Value) (W:World):Prop where
 e0x0:W.cell? ⟨w,0,none⟩=some m0
 e0x1:W.cell? ⟨w,1,none⟩=some m1
 e0x2:W.cell? ⟨w,2,none⟩=some m2
 f0: ∀j,W.frozen? ⟨w,j,none⟩=false
 e1x0:W.cell? ⟨↑w+1,0,none⟩=some n0
 e1x1:W.cell? ⟨↑w+1,1,none⟩=some n1
 e1x2:W.cell? ⟨↑w+1,2,none⟩=some n2
 e1x3:W.cell? ⟨↑w+1,3,none⟩=some n3
 e1x4:W.cell? ⟨↑w+1,4,none⟩=some n4
 e1x5:W.cell? ⟨↑w+1,5,none⟩=some n5
 f1: ∀j,W.frozen? ⟨↑w+1,j,none⟩=false
 e2x0:W.cell? ⟨↑w+1+1,0,none⟩=some p0
 e2x1:W.cell? ⟨↑w+1+1,1,none⟩=some p1
 f2: ∀j,W.frozen? ⟨↑w+1+1,j,none⟩=false
 le:w.heap.size+1+1+1<=W.heap.size
 bel:Below w w W
theorem Fvo.start (w:World) (m0 m1 m2 n0 n1 n2 n3 n4 n5 p0 p1:Value) (t0 t1 t2:TypeId):Fvo w m0 m1 m2 n0 n1 n2 n3 n4 n5 p0 p1 (((w.alloc (.cells #[m0,m1,m2] t0)).alloc (.cells #[n0,n1,n2,n3,n4,n5] t1)).alloc (.cells #[p0,p1] t2)):=by
 constructor<;>first|exact (((ζc _ _).trans ((ζc _ _).mono (by simp<;>omega))).trans ((ζc _ _).mono (by simp<;>omega)))|simp [go_sem]
theorem Fvo.later {W':World} (h:Fvo w m0 m1 m2 n0 n1 n2 n3 n4 n5 p0 p1 W) (hb:Below W W W'):Fvo w m0 m1 m2 n0 n1 n2 n3 n4 n5 p0 p1 W':=by
 have q:=h.le
 have z:=h.bel.trans (hb.mono h.bel.size)
 cases h
 constructor<;>first|exact ((ζj hb).1 _ _ (by omega)).trans (by with_reducible assumption)|exact z|exact Nat.le_trans q hb.size| (intro j;exact ((ζj hb).2 _ _ (by omega)).trans (by apply_assumption))
theorem Fvo.set1 (h:Fvo w m0 m1 m2 n0 n1 n2 n3 n4 n5 p0 p1 W) (v0 v1 v2 v3 v4 v5:Value):Fvo w m0 m1 m2 v0 v1 v2 v3 v4 v5 p0 p1 ((((((W.setCell ⟨↑w+1,0,none⟩ v0).setCell ⟨↑w+1,1,none⟩ v1).setCell ⟨↑w+1,2,none⟩ v2).setCell ⟨↑w+1,3,none⟩ v3).setCell ⟨↑w+1,4,none⟩ v4).setCell ⟨↑w+1,5,none⟩ v5):=by
 have hle:=h.le
 constructor<;>first|exact ((((((h.bel.setCell (by simp<;>omega) _).setCell (by simp<;>omega) _).setCell (by simp<;>omega) _).setCell (by simp<;>omega) _).setCell (by simp<;>omega) _).setCell (by simp<;>omega) _)| (cases h;simp [go_sem, *])
theorem Fvo.s {w':World} (h:Fvo w m0 m1 m2 n0 n1 n2 n3 n4 n5 p0 p1 w'):w'.cell? ⟨w,0,none⟩=some m0∧w'.cell? ⟨w,1,none⟩=some m1∧w'.cell? ⟨w,2,none⟩=some m2∧w'.cell? ⟨↑w+1+1,0,none⟩=some p0∧w'.cell? ⟨↑w+1+1,1,none⟩=some p1:=⟨h.e0x0,h.e0x1,h.e0x2,h.e2x0,h.e2x1⟩
theorem ηm (a b c:Int) (w:World) (ha:Cor a) (hb:Cor b) (hc:Cor c):
 Calls prog 121 #[.agg #[a,b,c]] w fun o w'=> ∃x1 x2 x3:Nat,o= .returned (.agg #[x1,oOo,x2,oOo,x3,oOo])∧ξc (.agg #[x1,oOo,x2,oOo,x3,oOo]) 1 128 1 (cor a) (cor b) (cor c)∧Below w w w':=by
 go_enter func121,ntmps121
 go_wp2
 obtain ⟨W0,hW0⟩: ∃V0,V0=(((w.alloc (.cells #[a,b,c] 34)).alloc (.cells #[oOo,oOo,oOo,oOo,oOo,oOo] 88)).alloc (.cells #[oOo,oOo] 86)):=⟨_,rfl⟩
 rw [<-hW0]
 have FR:Hid (Fvo w a b c oOo oOo oOo oOo oOo oOo oOo oOo W0):=by rw [hW0];exact Fvo.start w _ _ _ _ _ _ _ _ _ _ _ _ _ _
 clear hW0
 have hmt: ∀(r:Value) (w:World),_:=fun r w=>(ωV r w).2.2.2
 have hst:=ζY
 have F0:Fvo w a b c oOo oOo oOo oOo oOo oOo oOo oOo W0.drew:=FR.out.later (Below.refl _ _).drew
 go_region_held3 (fun w'=>w'.cell? ⟨w,0,none⟩=some ↑a∧w'.cell? ⟨w,1,none⟩=some ↑b∧w'.cell? ⟨w,2,none⟩=some ↑c∧w'.cell? ⟨↑w+1+1,0,none⟩=some ↑oOo∧w'.cell? ⟨↑w+1+1,1,none⟩=some ↑oOo)
  (first|with_reducible exact (F3.set1 _ _ _ _ _ _).s|with_reducible exact Fvo.s (by with_reducible assumption))
  (first
   |(have hBB:=hB2;clear hBB;go_at_call 212;refine (φ4 c _ hc.h0 hc.h1 hc.hf).mono ?_;rintro o w3 ⟨m3,rfl,hv3,hb3⟩;have HV3:Hid (ζu (.agg #[.float .f64 m3,oOo]) 1 128 1 (cor c)):=hv3;have hB3:Below W0 W0 w3:=hB2.trans (hb3.mono hB2.size);have F3:Fvo w a b c oOo oOo oOo oOo oOo oOo oOo oOo w3:=FR.out.later hB3;have r0:=F3.e1x0;have r1:=F3.e1x1;have r2:=F3.e1x2;have r3:=F3.e1x3;have r4:=F3.e1x4;have r5:=F3.e1x5;have rz:=F3.f1)
   |(have hBB:=hB1;clear hBB;go_at_call 212;refine (φ4 b _ hb.h0 hb.h1 hb.hf).mono ?_;rintro o w2 ⟨m2,rfl,hv2,hb2⟩;have HV2:Hid (ζu (.agg #[.float .f64 m2,oOo]) 1 128 1 (cor b)):=hv2;have hB2:Below W0 W0 w2:=hB1.trans (hb2.mono hB1.size);have F2:Fvo w a b c oOo oOo oOo oOo oOo oOo oOo oOo w2:=FR.out.later hB2)
   |(go_at_call 212;refine (φ4 a _ ha.h0 ha.h1 ha.hf).mono ?_;rintro o w1 ⟨m1,rfl,hv1,hb1⟩;have HV1:Hid (ζu (.agg #[.float .f64 m1,oOo]) 1 128 1 (cor a)):=hv1;have hB1:Below W0 W0 w1:=(Below.refl _ _).drew.trans hb1;have F1:Fvo w a b c oOo oOo oOo oOo oOo oOo oOo oOo w1:=FR.out.later hB1))
 have HF:Hid (Fvo w a b c oOo oOo oOo oOo oOo oOo oOo oOo w3):=F3
 clear hB1 hB2 hB3 hb1 hb2 hb3 hmt F0 F1 F2 F3
 go_wp2
 refine bodyPost_ret (v:= .agg #[.float .f64 m1,oOo,.float .f64 m2,oOo,.float .f64 m3,oOo]) (by simp [results,results121,go_sem,r0,r1,r2,r3,r4,r5]) rfl ?_
 refine ⟨m1,m2,m3,rfl,⟨m1,0,m2,0,m3,0,rfl,HV1.out,HV2.out,HV3.out⟩,?_⟩
 exact (HF.out.set1 _ _ _ _ _ _).bel
theorem ξI (a b c:Int) (w:World) (ha:Cor a) (hb:Cor b) (hc:Cor c):
 Calls prog 121 #[.agg #[a,b,c]] w fun o w'=>ξ0 w 1 128 1 (cor a) (cor b) (cor c) o w':=
 (ηm a b c w ha hb hc).mono fun _ _ ⟨_,_,_,e,h,hb⟩=>⟨_,e,h,hb⟩
theorem ξe (a b c:Int) (w:World) (hT:Tab w) (ha:Cor a) (hb:Cor b) (hc:Cor c):
 Calls prog 122 #[.agg #[a,b,c]] w fun o w'=>ψJ w 277 (cor a) (cor b) (cor c) o w':=by
 go_enter func122,ntmps122
 go_wp2_with fail
 obtain ⟨W0,hW0⟩: ∃V0,V0=(((w.alloc (.cells #[a,b,c] 34)).alloc (.cells #[false,(),false,(),false,()] 92)).alloc (.cells #[false,()] 31)):=⟨_,rfl⟩
 rw [<-hW0]
 have FR:Hid (Fvo w a b c false () false () false () false () W0):=by rw [hW0];exact Fvo.start w _ _ _ _ _ _ _ _ _ _ _ _ _ _
 have HNI:Hid (ζf W0 (↑w+1)):=by
  have hz: ∀(i:Nat) (k:IntKind) (m:Int),(#[↑false,↑(),↑false,↑(),↑false,↑()]:Array Value)[i]? ≠some (Value.int k m):=by
   intro i k m
   match i with|0=>simp|1=>simp|2=>simp|3=>simp|4=>simp|5=>simp|n+6=>simp
  have h1:=ζf.new (w.alloc (.cells #[a,b,c] 34)) #[false,(),false,(),false,()] 92 hz
  have hs:(w.alloc (.cells #[a,b,c] 34)).heap.size=w.heap.size+1:=by simp
  rw [hs] at h1
  unfold Hid;rw [hW0];exact h1.later (ζc _ _)
 clear hW0
 have hmt2_2_2: ∀(r:Value) (w:World),_:=fun r w=>(ωZ r w).2.2.2
 have TT_0:=(hT.later FR.out.bel).later (w':=W0.drew) (Below.refl _ _).drew
 have NI_0:=HNI.out.later (w':=W0.drew) (Below.refl _ _).drew
 have F0:Fvo w a b c false () false () false () false () W0.drew:=FR.out.later (Below.refl _ _).drew
 go_region_held3 (fun w'=>w'.cell? ⟨w,0,none⟩=some ↑a∧w'.cell? ⟨w,1,none⟩=some ↑b∧w'.cell? ⟨w,2,none⟩=some ↑c∧w'.cell? ⟨↑w+1+1,0,none⟩=some ↑false∧w'.cell? ⟨↑w+1+1,1,none⟩=some ↑())
  (first|with_reducible exact (F3.set1 _ _ _ _ _ _).s|with_reducible exact Fvo.s (by with_reducible assumption))
  (first
   |(have hBB:=hB2;clear hBB;go_at_call 198;refine (χb c _ TT_2 hc.h0 hc.h1 hc.hf).mono ?_;rintro o w3 ⟨v3,rfl,hv3,hb3⟩;have R3_3:ζe w3 v3 277 (cor c):=hv3;obtain ⟨gr3,ar3,cr3,zr3,rfl,_,_,_⟩:=hv3;have TT_3:=TT_2.later hb3;have NI_3:=NI_2.later hb3;have R1_3:=R1_2.later hb3;have R2_3:=R2_2.later hb3;have hB3:Below W0 W0 w3:=hB2.trans (hb3.mono hB2.size);have F3:Fvo w a b c false () false () false () false () w3:=FR.out.later hB3;have r0:=F3.e1x0;have r1:=F3.e1x1;have r2:=F3.e1x2;have r3:=F3.e1x3;have r4:=F3.e1x4;have r5:=F3.e1x5;have rz:=F3.f1)
   |(have hBB:=hB1;clear hBB;go_at_call 198;refine (χb b _ TT_1 hb.h0 hb.h1 hb.hf).mono ?_;rintro o w2 ⟨v2,rfl,hv2,hb2⟩;have R2_2:ζe w2 v2 277 (cor b):=hv2;obtain ⟨gr2,ar2,cr2,zr2,rfl,_,_,_⟩:=hv2;have TT_2:=TT_1.later hb2;have NI_2:=NI_1.later hb2;have R1_2:=R1_1.later hb2;have hB2:Below W0 W0 w2:=hB1.trans (hb2.mono hB1.size);have F2:Fvo w a b c false () false () false () false () w2:=FR.out.later hB2)
   |(go_at_call 198;refine (χb a _ TT_0 ha.h0 ha.h1 ha.hf).mono ?_;rintro o w1 ⟨v1,rfl,hv1,hb1⟩;have R1_1:ζe w1 v1 277 (cor a):=hv1;obtain ⟨gr1,ar1,cr1,zr1,rfl,_,_,_⟩:=hv1;have TT_1:=TT_0.later hb1;have NI_1:=NI_0.later hb1;have hB1:Below W0 W0 w1:=(Below.refl _ _).drew.trans hb1;have F1:Fvo w a b c false () false () false () false () w1:=FR.out.later hB1))
 have HF:Hid (Fvo w a b c false () false () false () false () w3):=F3
 have HR1:Hid (ζe w3 (.agg #[gr1,.slice ar1 zr1 cr1]) 277 (cor a)):=R1_3
 have HR2:Hid (ζe w3 (.agg #[gr2,.slice ar2 zr2 cr2]) 277 (cor b)):=R2_3
 have HR3:Hid (ζe w3 (.agg #[gr3,.slice ar3 zr3 cr3]) 277 (cor c)):=R3_3
 have HNN:Hid (ζf w3 (↑w+1)):=NI_3
 clear hB1 hb1 F1 hB2 hb2 F2 hB3 hb3 F3 TT_0 TT_1 TT_2 TT_3 NI_0 NI_1 NI_2 NI_3 R1_1 R1_2 R1_3 R2_2 R2_3 R3_3 F0
 go_wp2
 refine bodyPost_ret (v:= .agg #[gr1,.slice ar1 zr1 cr1,gr2,.slice ar2 zr2 cr2,gr3,.slice ar3 zr3 cr3]) (by simp [results,results122,go_sem,r0,r1,r2,r3,r4,r5]) rfl ?_
 refine ⟨_,rfl,⟨gr1,ar1,cr1,zr1,gr2,ar2,cr2,zr2,gr3,ar3,cr3,zr3,rfl,HR1.out.setAll [gr1,.slice ar1 zr1 cr1,gr2,.slice ar2 zr2 cr2,gr3,.slice ar3 zr3 cr3] _ 0 HNN.out (by simp [ζh]),HR2.out.setAll [gr1,.slice ar1 zr1 cr1,gr2,.slice ar2 zr2 cr2,gr3,.slice ar3 zr3 cr3] _ 0 HNN.out (by simp [ζh]),HR3.out.setAll [gr1,.slice ar1 zr1 cr1,gr2,.slice ar2 zr2 cr2,gr3,.slice ar3 zr3 cr3] _ 0 HNN.out (by simp [ζh])⟩,?_⟩
 exact (HF.out.set1 _ _ _ _ _ _).bel
open Fl (IsF Nr ζz ζE absI Est)
theorem φv (x1 y1 x2 y2 x3 y3 d0 d1:Nat) (k e:Nat) (S A B C:Int) (w:World)
 (h1: ∀W,Calls prog 215 #[.agg #[x1,y1],.agg #[d0,d1]] W fun o w'=>ζ4 W k e S A o w')
 (h2: ∀W,Calls prog 215 #[.agg #[x2,y2],.agg #[d0,d1]] W fun o w'=>ζ4 W k e S B o w')
 (h3: ∀W,Calls prog 215 #[.agg #[x3,y3],.agg #[d0,d1]] W fun o w'=>ζ4 W k e S C o w'):
 Calls prog 148 #[.agg #[x1,y1,x2,y2,x3,y3],.agg #[d0,d1]] w fun o w'=>ξ0 w k e S A B C o w':=by
 go_enter func148,ntmps148
 go_wp2
 obtain ⟨W0,hW0⟩: ∃V0,V0=(((w.alloc (.cells #[x1,y1,x2,y2,x3,y3] 88)).alloc (.cells #[d0,d1] 86)).alloc (.cells #[oOo,oOo,oOo,oOo,oOo,oOo] 88)):=⟨_,rfl⟩
 rw [<-hW0]
 have FR:Hid (ωW w x1 y1 x2 y2 x3 y3 d0 d1 oOo oOo oOo oOo oOo oOo W0):=by rw [hW0];exact ωW.start w _ _ _ _ _ _ _ _ _ _ _ _ _ _ _ _ _
 clear hW0
 have hmt2_2_1: ∀(r:Value) (w:World),_:=fun r w=>(ωV r w).2.2.1
 have hst:=ζY
 have hL0:Below (↑w+1+1) W0 W0.drew:=(Below.refl _ _).drew
 go_region_held3 (fun w'=>w'.cell? ⟨w,0,none⟩=some ↑x1∧w'.cell? ⟨w,1,none⟩=some ↑y1∧w'.cell? ⟨w,2,none⟩=some ↑x2∧w'.cell? ⟨w,3,none⟩=some ↑y2∧w'.cell? ⟨w,4,none⟩=some ↑x3∧w'.cell? ⟨w,5,none⟩=some ↑y3∧w'.cell? ⟨↑w+1,0,none⟩=some ↑d0∧w'.cell? ⟨↑w+1,1,none⟩=some ↑d1∧Below (↑w+1+1) W0 w')
  (first|with_reducible exact (FR.out.s.on hL3).set _ _ _ _ _ _|with_reducible exact FR.out.s.on (by with_reducible assumption))
  (first
   |(have hBB:=hB2;clear hBB;go_at_call 215;refine (h3 _).mono ?_;rintro o w3 ⟨v3,rfl,hv3,hb3⟩;have HV3:Hid (ζu v3 k e S C):=hv3;obtain ⟨m3,n3,_,_,rfl,_,_,_⟩:=hv3;have hB3:Below W0 W0 w3:=hB2.trans (hb3.mono hB2.size);have hL3:Below (↑w+1+1) W0 w3:=hB3.mono (by have:=FR.out.le;omega);have F3:Hid (ωW w x1 y1 x2 y2 x3 y3 d0 d1 oOo oOo oOo oOo oOo oOo w3):=FR.out.later hB3;have r0:=F3.out.r0;have r1:=F3.out.r1;have r2:=F3.out.r2;have r3:=F3.out.r3;have r4:=F3.out.r4;have r5:=F3.out.r5;have rz:=F3.out.fz)
   |(have hBB:=hB1;clear hBB;go_at_call 215;refine (h2 _).mono ?_;rintro o w2 ⟨v2,rfl,hv2,hb2⟩;have HV2:Hid (ζu v2 k e S B):=hv2;obtain ⟨m2,n2,_,_,rfl,_,_,_⟩:=hv2;have hB2:Below W0 W0 w2:=hB1.trans (hb2.mono hB1.size);have hL2:Below (↑w+1+1) W0 w2:=hB2.mono (by have:=FR.out.le;omega))
   |(go_at_call 215;refine (h1 _).mono ?_;rintro o w1 ⟨v1,rfl,hv1,hb1⟩;have HV1:Hid (ζu v1 k e S A):=hv1;obtain ⟨m1,n1,_,_,rfl,_,_,_⟩:=hv1;have hB1:Below W0 W0 w1:=(Below.refl _ _).drew.trans hb1;have hL1:Below (↑w+1+1) W0 w1:=hB1.mono (by have:=FR.out.le;omega)))
 clear hB1 hL1 hb1 hB2 hL2 hb2 hB3 hL3 hb3 hmt2_2_1
 go_wp2
 refine bodyPost_ret (v:= .agg #[.float .f64 m1,.float .f64 n1,.float .f64 m2,.float .f64 n2,.float .f64 m3,.float .f64 n3]) (by simp [results,results148,go_sem,r0,r1,r2,r3,r4,r5]) rfl ?_
 refine ⟨_,rfl,⟨m1,n1,m2,n2,m3,n3,rfl,HV1.out,HV2.out,HV3.out⟩,?_⟩
 exact ((((((F3.out.bel.setCell (by simp;omega) _).setCell (by simp;omega) _).setCell (by simp;omega) _).setCell (by simp;omega) _).setCell (by simp;omega) _).setCell (by simp;omega) _)
theorem ψg (u v:Value) (k k' e e':Nat) (S S' A B C D:Int) (w:World) (hk:k+k'<=7) (he:e+e'<=880) (hu:ξc u k e S A B C) (hv:ζu v k' e' S' D):
 Calls prog 148 #[u,v] w fun o w'=>ξ0 w (k+k') (e+e'+4) (S*S') (A*D) (B*D) (C*D) o w':=by
 obtain ⟨x1,y1,x2,y2,x3,y3,rfl,h1,h2,h3⟩:=hu
 have hd:=hv
 obtain ⟨d0,d1,_,_,rfl,_,_,_⟩:=hv
 exact φv x1 y1 x2 y2 x3 y3 d0 d1 (k+k') (e+e'+4) (S*S') (A*D) (B*D) (C*D) w (fun W=>ζJ _ _ k k' e e' S S' A D W hk (by omega) h1 hd) (fun W=>ζJ _ _ k k' e e' S S' B D W hk (by omega) h2 hd) (fun W=>ζJ _ _ k k' e e' S S' C D W hk (by omega) h3 hd)
open Fl (IsF Nr ζz ζE absI Est)
theorem ξc.up {e':Nat} {S A B C:Int} (h:ξc v k e S A B C) (he:e<=e'):ξc v k e' S A B C:=by
 obtain ⟨x1,y1,x2,y2,x3,y3,rfl,h1,h2,h3⟩:=h
 exact ⟨x1,y1,x2,y2,x3,y3,rfl,h1.up he,h2.up he,h3.up he⟩
theorem ζu.lift1 {A S:Int} (h:ζu v k e 1 A) (hS:0<S):ζu v k e S (S*A):=by
 obtain ⟨x,y,a,b,e,h1,h2,h3⟩:=h
 have:=h3.lift hS
 rw [Int.one_mul,Int.mul_comm A] at this
 exact ⟨x,y,a,b,e,h1,h2,this⟩
theorem ξc.lift1 {A B C S:Int} (h:ξc v k e 1 A B C) (hS:0<S):ξc v k e S (S*A) (S*B) (S*C):=by
 obtain ⟨x1,y1,x2,y2,x3,y3,e,h1,h2,h3⟩:=h
 exact ⟨x1,y1,x2,y2,x3,y3,e,h1.lift1 hS,h2.lift1 hS,h3.lift1 hS⟩
def νU (v:Value) (S O1 O2 O3 D1 D2 D3:Int):Prop:= ∃l0 l1 l2 l3 l4 l5 l6 l7 l8 l9 l10 l11 l12 l13:Nat,v=(.agg #[l0,l1,l2,l3,l4,l5,l6,l7,l8,l9,l10,l11,l12,l13])∧ξc (.agg #[l0,l1,l2,l3,l4,l5]) 1 142 S O1 O2 O3∧ξc (.agg #[l6,l7,l8,l9,l10,l11]) 1 142 S D1 D2 D3∧ζu (.agg #[l12,l13]) 0 0 1 1∧0<S
structure Fto (w:World) (m0 m1 m2 m3 m4 m5 m6 m7 m8 m9 m10 m11 m12 m13 n0 n1 n2 p0 p1 p2 p3 p4 p5:Value) (W:World):Prop where
 e0x0:W.cell? ⟨w,0,none⟩=some m0
 e0x1:W.cell? ⟨w,1,none⟩=some m1
 e0x2:W.cell? ⟨w,2,none⟩=some m2
 e0x3:W.cell? ⟨w,3,none⟩=some m3
 e0x4:W.cell? ⟨w,4,none⟩=some m4
 e0x5:W.cell? ⟨w,5,none⟩=some m5
 e0x6:W.cell? ⟨w,6,none⟩=some m6
 e0x7:W.cell? ⟨w,7,none⟩=some m7
 e0x8:W.cell? ⟨w,8,none⟩=some m8
 e0x9:W.cell? ⟨w,9,none⟩=some m9
 e0x10:W.cell? ⟨w,10,none⟩=some m10
 e0x11:W.cell? ⟨w,11,none⟩=some m11
 e0x12:W.cell? ⟨w,12,none⟩=some m12
 e0x13:W.cell? ⟨w,13,none⟩=some m13
 f0: ∀j,W.frozen? ⟨w,j,none⟩=false
 e1x0:W.cell? ⟨↑w+1,0,none⟩=some n0
 e1x1:W.cell? ⟨↑w+1,1,none⟩=some n1
 e1x2:W.cell? ⟨↑w+1,2,none⟩=some n2
 f1: ∀j,W.frozen? ⟨↑w+1,j,none⟩=false
 e2x0:W.cell? ⟨↑w+1+1,0,none⟩=some p0
 e2x1:W.cell? ⟨↑w+1+1,1,none⟩=some p1
 e2x2:W.cell? ⟨↑w+1+1,2,none⟩=some p2
 e2x3:W.cell? ⟨↑w+1+1,3,none⟩=some p3
 e2x4:W.cell? ⟨↑w+1+1,4,none⟩=some p4
 e2x5:W.cell? ⟨↑w+1+1,5,none⟩=some p5
 f2: ∀j,W.frozen? ⟨↑w+1+1,j,none⟩=false
 le:w.heap.size+1+1+1<=W.heap.size
 bel:Below w w W
theorem Fto.start (w:World) (m0 m1 m2 m3 m4 m5 m6 m7 m8 m9 m10 m11 m12 m13 n0 n1 n2 p0 p1 p2 p3 p4 p5:Value) (t0 t1 t2:TypeId):Fto w m0 m1 m2 m3 m4 m5 m6 m7 m8 m9 m10 m11 m12 m13 n0 n1 n2 p0 p1 p2 p3 p4 p5 (((w.alloc (.cells #[m0,m1,m2,m3,m4,m5,m6,m7,m8,m9,m10,m11,m12,m13] t0)).alloc (.cells #[n0,n1,n2] t1)).alloc (.cells #[p0,p1,p2,p3,p4,p5] t2)):=by
 constructor<;>first|exact (((ζc _ _).trans ((ζc _ _).mono (by simp<;>omega))).trans ((ζc _ _).mono (by simp<;>omega)))|simp [go_sem]
theorem Fto.later {W':World} (h:Fto w m0 m1 m2 m3 m4 m5 m6 m7 m8 m9 m10 m11 m12 m13 n0 n1 n2 p0 p1 p2 p3 p4 p5 W) (hb:Below W W W'):Fto w m0 m1 m2 m3 m4 m5 m6 m7 m8 m9 m10 m11 m12 m13 n0 n1 n2 p0 p1 p2 p3 p4 p5 W':=by
 have q:=h.le
 have z:=h.bel.trans (hb.mono h.bel.size)
 cases h
 constructor<;>first|exact ((ζj hb).1 _ _ (by omega)).trans (by with_reducible assumption)|exact z|exact Nat.le_trans q hb.size| (intro j;exact ((ζj hb).2 _ _ (by omega)).trans (by apply_assumption))
theorem Fto.set2 (h:Fto w m0 m1 m2 m3 m4 m5 m6 m7 m8 m9 m10 m11 m12 m13 n0 n1 n2 p0 p1 p2 p3 p4 p5 W) (v0 v1 v2 v3 v4 v5:Value):Fto w m0 m1 m2 m3 m4 m5 m6 m7 m8 m9 m10 m11 m12 m13 n0 n1 n2 v0 v1 v2 v3 v4 v5 ((((((W.setCell ⟨↑w+1+1,0,none⟩ v0).setCell ⟨↑w+1+1,1,none⟩ v1).setCell ⟨↑w+1+1,2,none⟩ v2).setCell ⟨↑w+1+1,3,none⟩ v3).setCell ⟨↑w+1+1,4,none⟩ v4).setCell ⟨↑w+1+1,5,none⟩ v5):=by
 have hle:=h.le
 constructor<;>first|exact ((((((h.bel.setCell (by simp<;>omega) _).setCell (by simp<;>omega) _).setCell (by simp<;>omega) _).setCell (by simp<;>omega) _).setCell (by simp<;>omega) _).setCell (by simp<;>omega) _)| (cases h;simp [go_sem, *])
theorem Fto.s {w':World} (h:Fto w m0 m1 m2 m3 m4 m5 m6 m7 m8 m9 m10 m11 m12 m13 n0 n1 n2 p0 p1 p2 p3 p4 p5 w'):w'.cell? ⟨w,0,none⟩=some m0∧w'.cell? ⟨w,1,none⟩=some m1∧w'.cell? ⟨w,2,none⟩=some m2∧w'.cell? ⟨w,3,none⟩=some m3∧w'.cell? ⟨w,4,none⟩=some m4∧w'.cell? ⟨w,5,none⟩=some m5∧w'.cell? ⟨w,6,none⟩=some m6∧w'.cell? ⟨w,7,none⟩=some m7∧w'.cell? ⟨w,8,none⟩=some m8∧w'.cell? ⟨w,9,none⟩=some m9∧w'.cell? ⟨w,10,none⟩=some m10∧w'.cell? ⟨w,11,none⟩=some m11∧w'.cell? ⟨w,12,none⟩=some m12∧w'.cell? ⟨w,13,none⟩=some m13∧w'.cell? ⟨↑w+1,0,none⟩=some n0∧w'.cell? ⟨↑w+1,1,none⟩=some n1∧w'.cell? ⟨↑w+1,2,none⟩=some n2:=⟨h.e0x0,h.e0x1,h.e0x2,h.e0x3,h.e0x4,h.e0x5,h.e0x6,h.e0x7,h.e0x8,h.e0x9,h.e0x10,h.e0x11,h.e0x12,h.e0x13,h.e1x0,h.e1x1,h.e1x2⟩
theorem θH (v:Value) (S O1 O2 O3 D1 D2 D3 p0 p1 p2:Int) (w:World) (hl:νU v S O1 O2 O3 D1 D2 D3) (h0:Cor p0) (h1:Cor p1) (h2:Cor p2):
 Calls prog 162 #[v,.agg #[p0,p1,p2]] w fun o w'=>ξ0 w 1 146 S (S*cor p0-O1) (S*cor p1-O2) (S*cor p2-O3) o w':=by
 obtain ⟨l0,l1,l2,l3,l4,l5,l6,l7,l8,l9,l10,l11,l12,l13,rfl,hS,hD,hC,hP⟩:=hl
 go_enter func162,ntmps162
 go_wp2_with fail
 obtain ⟨W0,hW0⟩: ∃V0,V0=(((w.alloc (.cells #[.float .f64 l0,.float .f64 l1,.float .f64 l2,.float .f64 l3,.float .f64 l4,.float .f64 l5,.float .f64 l6,.float .f64 l7,.float .f64 l8,.float .f64 l9,.float .f64 l10,.float .f64 l11,.float .f64 l12,.float .f64 l13] 90)).alloc (.cells #[p0,p1,p2] 34)).alloc (.cells #[oOo,oOo,oOo,oOo,oOo,oOo] 88)):=⟨_,rfl⟩
 rw [<-hW0]
 have FR:Hid (Fto w (.float .f64 l0) (.float .f64 l1) (.float .f64 l2) (.float .f64 l3) (.float .f64 l4) (.float .f64 l5) (.float .f64 l6) (.float .f64 l7) (.float .f64 l8) (.float .f64 l9) (.float .f64 l10) (.float .f64 l11) (.float .f64 l12) (.float .f64 l13) p0 p1 p2 oOo oOo oOo oOo oOo oOo W0):=by rw [hW0];exact Fto.start w _ _ _ _ _ _ _ _ _ _ _ _ _ _ _ _ _ _ _ _ _ _ _ _ _ _
 clear hW0
 have hst:=ζY
 have F0:Fto w (.float .f64 l0) (.float .f64 l1) (.float .f64 l2) (.float .f64 l3) (.float .f64 l4) (.float .f64 l5) (.float .f64 l6) (.float .f64 l7) (.float .f64 l8) (.float .f64 l9) (.float .f64 l10) (.float .f64 l11) (.float .f64 l12) (.float .f64 l13) p0 p1 p2 oOo oOo oOo oOo oOo oOo W0.drew:=FR.out.later (Below.refl _ _).drew
 go_region_held3 (fun w'=>w'.cell? ⟨w,0,none⟩=some (.float .f64 l0)∧w'.cell? ⟨w,1,none⟩=some (.float .f64 l1)∧w'.cell? ⟨w,2,none⟩=some (.float .f64 l2)∧w'.cell? ⟨w,3,none⟩=some (.float .f64 l3)∧w'.cell? ⟨w,4,none⟩=some (.float .f64 l4)∧w'.cell? ⟨w,5,none⟩=some (.float .f64 l5)∧w'.cell? ⟨w,6,none⟩=some (.float .f64 l6)∧w'.cell? ⟨w,7,none⟩=some (.float .f64 l7)∧w'.cell? ⟨w,8,none⟩=some (.float .f64 l8)∧w'.cell? ⟨w,9,none⟩=some (.float .f64 l9)∧w'.cell? ⟨w,10,none⟩=some (.float .f64 l10)∧w'.cell? ⟨w,11,none⟩=some (.float .f64 l11)∧w'.cell? ⟨w,12,none⟩=some (.float .f64 l12)∧w'.cell? ⟨w,13,none⟩=some (.float .f64 l13)∧w'.cell? ⟨↑w+1,0,none⟩=some ↑p0∧w'.cell? ⟨↑w+1,1,none⟩=some ↑p1∧w'.cell? ⟨↑w+1,2,none⟩=some ↑p2)
  (first|with_reducible exact (F3.set2 _ _ _ _ _ _).s|with_reducible exact Fto.s (by with_reducible assumption))
  (first
   |(have hBB:=hB2;clear hBB;go_at_call 150;refine (ξ1 _ _ 1 142 S (S*(cor p0*1)) (S*(cor p1*1)) (S*(cor p2*1)) O1 O2 O3 _ (by omega) (HV2.out.lift1 hP) hS).mono ?_;rintro o w3 ⟨v3,rfl,hv3,hb3⟩;have HV3:Hid (ξc v3 1 (142+4) S (S*(cor p0*1)-O1) (S*(cor p1*1)-O2) (S*(cor p2*1)-O3)):=hv3;obtain ⟨m3_0,m3_1,m3_2,m3_3,m3_4,m3_5,rfl,_,_,_⟩:=hv3;have hB3:Below W0 W0 w3:=hB2.trans (hb3.mono hB2.size);have F3:Fto w (.float .f64 l0) (.float .f64 l1) (.float .f64 l2) (.float .f64 l3) (.float .f64 l4) (.float .f64 l5) (.float .f64 l6) (.float .f64 l7) (.float .f64 l8) (.float .f64 l9) (.float .f64 l10) (.float .f64 l11) (.float .f64 l12) (.float .f64 l13) p0 p1 p2 oOo oOo oOo oOo oOo oOo w3:=FR.out.later hB3;have r0:=F3.e2x0;have r1:=F3.e2x1;have r2:=F3.e2x2;have r3:=F3.e2x3;have r4:=F3.e2x4;have r5:=F3.e2x5;have rz:=F3.f2)
   |(have hBB:=hB1;clear hBB;go_at_call 148;refine (ψg _ _ 1 0 128 0 1 1 (cor p0) (cor p1) (cor p2) 1 _ (by omega) (by omega) HV1.out hC).mono ?_;rintro o w2 ⟨v2,rfl,hv2,hb2⟩;have HV2:Hid (ξc v2 1 142 1 (cor p0*1) (cor p1*1) (cor p2*1)):=ξc.up (e:=132) hv2 (by decide);obtain ⟨m2_0,m2_1,m2_2,m2_3,m2_4,m2_5,rfl,_,_,_⟩:=hv2;have hB2:Below W0 W0 w2:=hB1.trans (hb2.mono hB1.size);have F2:Fto w (.float .f64 l0) (.float .f64 l1) (.float .f64 l2) (.float .f64 l3) (.float .f64 l4) (.float .f64 l5) (.float .f64 l6) (.float .f64 l7) (.float .f64 l8) (.float .f64 l9) (.float .f64 l10) (.float .f64 l11) (.float .f64 l12) (.float .f64 l13) p0 p1 p2 oOo oOo oOo oOo oOo oOo w2:=FR.out.later hB2)
   |(go_at_call 121;refine (ξI p0 p1 p2 _ h0 h1 h2).mono ?_;rintro o w1 ⟨v1,rfl,hv1,hb1⟩;have HV1:Hid (ξc v1 1 128 1 (cor p0) (cor p1) (cor p2)):=hv1;obtain ⟨m1_0,m1_1,m1_2,m1_3,m1_4,m1_5,rfl,_,_,_⟩:=hv1;have hB1:Below W0 W0 w1:=(Below.refl _ _).drew.trans hb1;have F1:Fto w (.float .f64 l0) (.float .f64 l1) (.float .f64 l2) (.float .f64 l3) (.float .f64 l4) (.float .f64 l5) (.float .f64 l6) (.float .f64 l7) (.float .f64 l8) (.float .f64 l9) (.float .f64 l10) (.float .f64 l11) (.float .f64 l12) (.float .f64 l13) p0 p1 p2 oOo oOo oOo oOo oOo oOo w1:=FR.out.later hB1))
 have HF:Hid (Fto w (.float .f64 l0) (.float .f64 l1) (.float .f64 l2) (.float .f64 l3) (.float .f64 l4) (.float .f64 l5) (.float .f64 l6) (.float .f64 l7) (.float .f64 l8) (.float .f64 l9) (.float .f64 l10) (.float .f64 l11) (.float .f64 l12) (.float .f64 l13) p0 p1 p2 oOo oOo oOo oOo oOo oOo w3):=F3
 clear hB1 hb1 F1 hB2 hb2 F2 hB3 hb3 F3 F0
 go_wp2
 refine bodyPost_ret (v:= .agg #[.float .f64 m3_0,.float .f64 m3_1,.float .f64 m3_2,.float .f64 m3_3,.float .f64 m3_4,.float .f64 m3_5]) (by simp [results,results162,go_sem,r0,r1,r2,r3,r4,r5]) rfl ?_
 refine ⟨_,rfl,by have:=HV3.out;simpa only [Int.mul_one] using this,?_⟩
 exact (HF.out.set2 _ _ _ _ _ _).bel
open Fl (IsF Nr ζz ζE absI Est)
theorem χc (u v:Value) (k k' e e':Nat) (S S' A B C A' B' C':Int) (w:World) (hk:k+k'<=7) (he:e+e'<=880) (hu:ξc u k e S A B C) (hv:ξc v k' e' S' A' B' C'):
 Calls prog 165 #[u,v] w fun o w'=>ξ0 w (k+k') (e+e'+4+4) (S*S') (B*C'-C*B') (C*A'-A*C') (A*B'-B*A') o w':=by
 obtain ⟨x1,y1,x2,y2,x3,y3,rfl,h1,h2,h3⟩:=hu
 obtain ⟨x1',y1',x2',y2',x3',y3',rfl,h1',h2',h3'⟩:=hv
 go_enter func165,ntmps165
 go_wp2
 obtain ⟨W0,hW0⟩: ∃V0,V0=(((w.alloc (.cells #[.float .f64 x1,.float .f64 y1,.float .f64 x2,.float .f64 y2,.float .f64 x3,.float .f64 y3] 88)).alloc (.cells #[.float .f64 x1',.float .f64 y1',.float .f64 x2',.float .f64 y2',.float .f64 x3',.float .f64 y3'] 88)).alloc (.cells #[oOo,oOo,oOo,oOo,oOo,oOo] 88)):=⟨_,rfl⟩
 rw [<-hW0]
 have FR:Hid (ωX w (.float .f64 x1) (.float .f64 y1) (.float .f64 x2) (.float .f64 y2) (.float .f64 x3) (.float .f64 y3) (.float .f64 x1') (.float .f64 y1') (.float .f64 x2') (.float .f64 y2') (.float .f64 x3') (.float .f64 y3') oOo oOo oOo oOo oOo oOo W0):=by rw [hW0];exact ωX.start w _ _ _ _ _ _ _ _ _ _ _ _ _ _ _ _ _ _ _ _ _
 clear hW0
 have hmt2_2_1: ∀(r:Value) (w:World),_:=fun r w=>(ωV r w).2.2.1
 have hmt1: ∀(r:Value) (w:World),_:=fun r w=>(ωV r w).1
 have hst:=ζY
 have hL0:Below (↑w+1+1) W0 W0.drew:=(Below.refl _ _).drew
 go_region_held3 (fun w'=>w'.cell? ⟨w,0,none⟩=some (.float .f64 x1)∧w'.cell? ⟨w,1,none⟩=some (.float .f64 y1)∧w'.cell? ⟨w,2,none⟩=some (.float .f64 x2)∧w'.cell? ⟨w,3,none⟩=some (.float .f64 y2)∧w'.cell? ⟨w,4,none⟩=some (.float .f64 x3)∧w'.cell? ⟨w,5,none⟩=some (.float .f64 y3)∧w'.cell? ⟨↑w+1,0,none⟩=some (.float .f64 x1')∧w'.cell? ⟨↑w+1,1,none⟩=some (.float .f64 y1')∧w'.cell? ⟨↑w+1,2,none⟩=some (.float .f64 x2')∧w'.cell? ⟨↑w+1,3,none⟩=some (.float .f64 y2')∧w'.cell? ⟨↑w+1,4,none⟩=some (.float .f64 x3')∧w'.cell? ⟨↑w+1,5,none⟩=some (.float .f64 y3')∧Below (↑w+1+1) W0 w')
  (first|with_reducible exact (FR.out.s.on hL9).set _ _ _ _ _ _|with_reducible exact FR.out.s.on (by with_reducible assumption))
  (first
   |(have hBB:=hB8;clear hBB;go_at_call 213;refine (ξs _ _ (k+k') (e+e'+4) (S*S') (A*B') (B*A') _ (by omega) HV7.out HV8.out).mono ?_;rintro o w9 ⟨v9,rfl,hv9,hb9⟩;have HV9:Hid (ζu v9 (k+k') (e+e'+4+4) (S*S') (A*B'-B*A')):=hv9;obtain ⟨m9,n9,_,_,rfl,_,_,_⟩:=hv9;have hB9:Below W0 W0 w9:=hB8.trans (hb9.mono hB8.size);have hL9:Below (↑w+1+1) W0 w9:=hB9.mono (by have:=FR.out.le;omega);have F3:Hid (ωX w (.float .f64 x1) (.float .f64 y1) (.float .f64 x2) (.float .f64 y2) (.float .f64 x3) (.float .f64 y3) (.float .f64 x1') (.float .f64 y1') (.float .f64 x2') (.float .f64 y2') (.float .f64 x3') (.float .f64 y3') oOo oOo oOo oOo oOo oOo w9):=FR.out.later hB9;have r0:=F3.out.r0;have r1:=F3.out.r1;have r2:=F3.out.r2;have r3:=F3.out.r3;have r4:=F3.out.r4;have r5:=F3.out.r5;have rz:=F3.out.fz)
   |(have hBB:=hB7;clear hBB;go_at_call 215;refine (ζJ _ _ k k' e e' S S' B A' _ hk (by omega) h2 h1').mono ?_;rintro o w8 ⟨v8,rfl,hv8,hb8⟩;have HV8:Hid (ζu v8 (k+k') (e+e'+4) (S*S') (B*A')):=hv8;obtain ⟨m8,n8,_,_,rfl,_,_,_⟩:=hv8;have hB8:Below W0 W0 w8:=hB7.trans (hb8.mono hB7.size);have hL8:Below (↑w+1+1) W0 w8:=hB8.mono (by have:=FR.out.le;omega))
   |(have hBB:=hB6;clear hBB;go_at_call 215;refine (ζJ _ _ k k' e e' S S' A B' _ hk (by omega) h1 h2').mono ?_;rintro o w7 ⟨v7,rfl,hv7,hb7⟩;have HV7:Hid (ζu v7 (k+k') (e+e'+4) (S*S') (A*B')):=hv7;obtain ⟨m7,n7,_,_,rfl,_,_,_⟩:=hv7;have hB7:Below W0 W0 w7:=hB6.trans (hb7.mono hB6.size);have hL7:Below (↑w+1+1) W0 w7:=hB7.mono (by have:=FR.out.le;omega))
   |(have hBB:=hB5;clear hBB;go_at_call 213;refine (ξs _ _ (k+k') (e+e'+4) (S*S') (C*A') (A*C') _ (by omega) HV4.out HV5.out).mono ?_;rintro o w6 ⟨v6,rfl,hv6,hb6⟩;have HV6:Hid (ζu v6 (k+k') (e+e'+4+4) (S*S') (C*A'-A*C')):=hv6;obtain ⟨m6,n6,_,_,rfl,_,_,_⟩:=hv6;have hB6:Below W0 W0 w6:=hB5.trans (hb6.mono hB5.size);have hL6:Below (↑w+1+1) W0 w6:=hB6.mono (by have:=FR.out.le;omega))
   |(have hBB:=hB4;clear hBB;go_at_call 215;refine (ζJ _ _ k k' e e' S S' A C' _ hk (by omega) h1 h3').mono ?_;rintro o w5 ⟨v5,rfl,hv5,hb5⟩;have HV5:Hid (ζu v5 (k+k') (e+e'+4) (S*S') (A*C')):=hv5;obtain ⟨m5,n5,_,_,rfl,_,_,_⟩:=hv5;have hB5:Below W0 W0 w5:=hB4.trans (hb5.mono hB4.size);have hL5:Below (↑w+1+1) W0 w5:=hB5.mono (by have:=FR.out.le;omega))
   |(have hBB:=hB3;clear hBB;go_at_call 215;refine (ζJ _ _ k k' e e' S S' C A' _ hk (by omega) h3 h1').mono ?_;rintro o w4 ⟨v4,rfl,hv4,hb4⟩;have HV4:Hid (ζu v4 (k+k') (e+e'+4) (S*S') (C*A')):=hv4;obtain ⟨m4,n4,_,_,rfl,_,_,_⟩:=hv4;have hB4:Below W0 W0 w4:=hB3.trans (hb4.mono hB3.size);have hL4:Below (↑w+1+1) W0 w4:=hB4.mono (by have:=FR.out.le;omega))
   |(have hBB:=hB2;clear hBB;go_at_call 213;refine (ξs _ _ (k+k') (e+e'+4) (S*S') (B*C') (C*B') _ (by omega) HV1.out HV2.out).mono ?_;rintro o w3 ⟨v3,rfl,hv3,hb3⟩;have HV3:Hid (ζu v3 (k+k') (e+e'+4+4) (S*S') (B*C'-C*B')):=hv3;obtain ⟨m3,n3,_,_,rfl,_,_,_⟩:=hv3;have hB3:Below W0 W0 w3:=hB2.trans (hb3.mono hB2.size);have hL3:Below (↑w+1+1) W0 w3:=hB3.mono (by have:=FR.out.le;omega))
   |(have hBB:=hB1;clear hBB;go_at_call 215;refine (ζJ _ _ k k' e e' S S' C B' _ hk (by omega) h3 h2').mono ?_;rintro o w2 ⟨v2,rfl,hv2,hb2⟩;have HV2:Hid (ζu v2 (k+k') (e+e'+4) (S*S') (C*B')):=hv2;obtain ⟨m2,n2,_,_,rfl,_,_,_⟩:=hv2;have hB2:Below W0 W0 w2:=hB1.trans (hb2.mono hB1.size);have hL2:Below (↑w+1+1) W0 w2:=hB2.mono (by have:=FR.out.le;omega))
   |(go_at_call 215;refine (ζJ _ _ k k' e e' S S' B C' _ hk (by omega) h2 h3').mono ?_;rintro o w1 ⟨v1,rfl,hv1,hb1⟩;have HV1:Hid (ζu v1 (k+k') (e+e'+4) (S*S') (B*C')):=hv1;obtain ⟨m1,n1,_,_,rfl,_,_,_⟩:=hv1;have hB1:Below W0 W0 w1:=(Below.refl _ _).drew.trans hb1;have hL1:Below (↑w+1+1) W0 w1:=hB1.mono (by have:=FR.out.le;omega)))
 clear hB1 hL1 hb1 hB2 hL2 hb2 hB3 hL3 hb3 hB4 hL4 hb4 hB5 hL5 hb5 hB6 hL6 hb6 hB7 hL7 hb7 hB8 hL8 hb8 hB9 hL9 hb9 hmt2_2_1 hmt1
 go_wp2
 refine bodyPost_ret (v:= .agg #[.float .f64 m3,.float .f64 n3,.float .f64 m6,.float .f64 n6,.float .f64 m9,.float .f64 n9]) (by simp [results,results165,go_sem,r0,r1,r2,r3,r4,r5]) rfl ?_
 refine ⟨_,rfl,⟨m3,n3,m6,n6,m9,n9,rfl,HV3.out,HV6.out,HV9.out⟩,?_⟩
 exact ((((((F3.out.bel.setCell (by simp;omega) _).setCell (by simp;omega) _).setCell (by simp;omega) _).setCell (by simp;omega) _).setCell (by simp;omega) _).setCell (by simp;omega) _)
end Go.Proofs.YtfieffpobgcpmaaGreatDoor
