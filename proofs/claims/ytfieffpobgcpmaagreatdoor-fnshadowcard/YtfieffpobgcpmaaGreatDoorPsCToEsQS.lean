import Derived.Test.YtfieffpobgcpmaaGreatDoorPsAPsBS
import Derived.Laws.EntriesVeiled
import Derived.Test.YtfieffpobgcpmaaGreatDoorEsMEsJEsNS
import Derived.Deep.RegionHeld3
import Derived.Test.YtfieffpobgcpmaaGreatDoorBhJToBgOS
set_option maxRecDepth 100000
set_option maxHeartbeats 32000000
namespace Go.Proofs.YtfieffpobgcpmaaGreatDoor
open Go.RowKit Go.Proofs.Tryz
variable {w W:World} {m0 m1 m2 m3 m4 m5 n0 p0 n1 p1 p2 p3 p4 p5 p6 p7 p8 p9 p10 p11 p12 p13:Value}
open Fl (IsF Nr ζz ζE absI Est)
structure Fcs (w:World) (m0 m1 m2 m3 m4 m5 m6 m7 m8 m9 m10 m11 m12 m13 m14 m15 m16 m17 m18 m19 m20 m21 m22 m23 m24 m25 m26 m27 n0 p0 q0 q1 q2 q3 q4 q5 q6 q7 q8 r0 r1:Value) (W:World):Prop where
 e0x0:W.cell? ⟨w.heap.size,0,none⟩=some m0
 e0x1:W.cell? ⟨w.heap.size,1,none⟩=some m1
 e0x2:W.cell? ⟨w.heap.size,2,none⟩=some m2
 e0x3:W.cell? ⟨w.heap.size,3,none⟩=some m3
 e0x4:W.cell? ⟨w.heap.size,4,none⟩=some m4
 e0x5:W.cell? ⟨w.heap.size,5,none⟩=some m5
 e0x6:W.cell? ⟨w.heap.size,6,none⟩=some m6
 e0x7:W.cell? ⟨w.heap.size,7,none⟩=some m7
 e0x8:W.cell? ⟨w.heap.size,8,none⟩=some m8
 e0x9:W.cell? ⟨w.heap.size,9,none⟩=some m9
 e0x10:W.cell? ⟨w.heap.size,10,none⟩=some m10
 e0x11:W.cell? ⟨w.heap.size,11,none⟩=some m11
 e0x12:W.cell? ⟨w.heap.size,12,none⟩=some m12
 e0x13:W.cell? ⟨w.heap.size,13,none⟩=some m13
 e0x14:W.cell? ⟨w.heap.size,14,none⟩=some m14
 e0x15:W.cell? ⟨w.heap.size,15,none⟩=some m15
 e0x16:W.cell? ⟨w.heap.size,16,none⟩=some m16
 e0x17:W.cell? ⟨w.heap.size,17,none⟩=some m17
 e0x18:W.cell? ⟨w.heap.size,18,none⟩=some m18
 e0x19:W.cell? ⟨w.heap.size,19,none⟩=some m19
 e0x20:W.cell? ⟨w.heap.size,20,none⟩=some m20
 e0x21:W.cell? ⟨w.heap.size,21,none⟩=some m21
 e0x22:W.cell? ⟨w.heap.size,22,none⟩=some m22
 e0x23:W.cell? ⟨w.heap.size,23,none⟩=some m23
 e0x24:W.cell? ⟨w.heap.size,24,none⟩=some m24
 e0x25:W.cell? ⟨w.heap.size,25,none⟩=some m25
 e0x26:W.cell? ⟨w.heap.size,26,none⟩=some m26
 e0x27:W.cell? ⟨w.heap.size,27,none⟩=some m27
 f0: ∀j,W.frozen? ⟨w.heap.size,j,none⟩=false
 e1x0:W.cell? ⟨w.heap.size+1,0,none⟩=some n0
 f1: ∀j,W.frozen? ⟨w.heap.size+1,j,none⟩=false
 e2x0:W.cell? ⟨w.heap.size+1+1,0,none⟩=some p0
 f2: ∀j,W.frozen? ⟨w.heap.size+1+1,j,none⟩=false
 e3x0:W.cell? ⟨w.heap.size+1+1+1,0,none⟩=some q0
 e3x1:W.cell? ⟨w.heap.size+1+1+1,1,none⟩=some q1
 e3x2:W.cell? ⟨w.heap.size+1+1+1,2,none⟩=some q2
 e3x3:W.cell? ⟨w.heap.size+1+1+1,3,none⟩=some q3
 e3x4:W.cell? ⟨w.heap.size+1+1+1,4,none⟩=some q4
 e3x5:W.cell? ⟨w.heap.size+1+1+1,5,none⟩=some q5
 e3x6:W.cell? ⟨w.heap.size+1+1+1,6,none⟩=some q6
 e3x7:W.cell? ⟨w.heap.size+1+1+1,7,none⟩=some q7
 e3x8:W.cell? ⟨w.heap.size+1+1+1,8,none⟩=some q8
 f3: ∀j,W.frozen? ⟨w.heap.size+1+1+1,j,none⟩=false
 e4x0:W.cell? ⟨w.heap.size+1+1+1+1,0,none⟩=some r0
 e4x1:W.cell? ⟨w.heap.size+1+1+1+1,1,none⟩=some r1
 f4: ∀j,W.frozen? ⟨w.heap.size+1+1+1+1,j,none⟩=false
 le:w.heap.size+1+1+1+1+1<=W.heap.size
 bel:Below w.heap.size w W
theorem Fcs.start (w:World) (m0 m1 m2 m3 m4 m5 m6 m7 m8 m9 m10 m11 m12 m13 m14 m15 m16 m17 m18 m19 m20 m21 m22 m23 m24 m25 m26 m27 n0 p0 q0 q1 q2 q3 q4 q5 q6 q7 q8 r0 r1:Value) (t0 t1 t2 t3 t4:TypeId):Fcs w m0 m1 m2 m3 m4 m5 m6 m7 m8 m9 m10 m11 m12 m13 m14 m15 m16 m17 m18 m19 m20 m21 m22 m23 m24 m25 m26 m27 n0 p0 q0 q1 q2 q3 q4 q5 q6 q7 q8 r0 r1 (((((w.alloc (.cells #[m0,m1,m2,m3,m4,m5,m6,m7,m8,m9,m10,m11,m12,m13,m14,m15,m16,m17,m18,m19,m20,m21,m22,m23,m24,m25,m26,m27] t0)).alloc (.cells #[n0] t1)).alloc (.cells #[p0] t2)).alloc (.cells #[q0,q1,q2,q3,q4,q5,q6,q7,q8] t3)).alloc (.cells #[r0,r1] t4)):=by
 constructor<;>first|exact (((((ζc _ _).trans ((ζc _ _).mono (by simp<;>omega))).trans ((ζc _ _).mono (by simp<;>omega))).trans ((ζc _ _).mono (by simp<;>omega))).trans ((ζc _ _).mono (by simp<;>omega)))|simp [go_sem]
theorem Fcs.later {m6 m7 m8 m9 m10 m11 m12 m13 m14 m15 m16 m17 m18 m19 m20 m21 m22 m23 m24 m25 m26 m27 q0 q1 q2 q3 q4 q5 q6 q7 q8 r0 r1:Value} {W':World} (h:Fcs w m0 m1 m2 m3 m4 m5 m6 m7 m8 m9 m10 m11 m12 m13 m14 m15 m16 m17 m18 m19 m20 m21 m22 m23 m24 m25 m26 m27 n0 p0 q0 q1 q2 q3 q4 q5 q6 q7 q8 r0 r1 W) (hb:Below W.heap.size W W'):Fcs w m0 m1 m2 m3 m4 m5 m6 m7 m8 m9 m10 m11 m12 m13 m14 m15 m16 m17 m18 m19 m20 m21 m22 m23 m24 m25 m26 m27 n0 p0 q0 q1 q2 q3 q4 q5 q6 q7 q8 r0 r1 W':=by
 have q:=h.le
 have z:=h.bel.trans (hb.mono h.bel.size)
 cases h
 constructor<;>first|exact ((ζj hb).1 _ _ (by omega)).trans (by with_reducible assumption)|exact z|exact Nat.le_trans q hb.size| (intro j;exact ((ζj hb).2 _ _ (by omega)).trans (by apply_assumption))
theorem νW (args:Array Value) (w:World):(callFunc 157 args).run prog w= .ok (.enter 157 args) w:=by kernel_rfl
theorem νX (args:Array Value) (w:World):(callFunc 158 args).run prog w= .ok (.enter 158 args) w:=by kernel_rfl
theorem χg (n m:Nat) (l0 l1 l2 l3 l4 l5 l6 l7 l8 l9 l10 l11 l12 l13 l14 l15 l16 l17 l18 l19 l20 l21 l22 l23 l24 l25 l26 l27:Value) (t0 t1 t2 t3 t4 t5 t6 t7 t8:Int) (k e f:Nat) (S A:Int) (w:World) (hf: ∀(args:Array Value) (w:World),(callFunc n args).run prog w= .ok (.enter n args) w) (hg: ∀(args:Array Value) (w:World),(callFunc m args).run prog w= .ok (.enter m args) w) (hk:f<=30000)
 (hq: ∀w',Below w.heap.size w w'->Calls prog n #[.agg #[l0,l1,l2,l3,l4,l5,l6,l7,l8,l9,l10,l11,l12,l13],.agg #[t0,t1,t2,t3,t4,t5,t6,t7,t8]] w' fun o w''=>ζ4 w' k e S A o w'') (hx: ∀w',Below w.heap.size w w'->Calls prog m #[.agg #[l14,l15,l16,l17,l18,l19,l20,l21,l22,l23,l24,l25,l26,l27],.agg #[t0,t1,t2,t3,t4,t5,t6,t7,t8]] w' fun o w''=>ζB w' f A o w''):
 Calls prog 123 #[.agg #[l0,l1,l2,l3,l4,l5,l6,l7,l8,l9,l10,l11,l12,l13,l14,l15,l16,l17,l18,l19,l20,l21,l22,l23,l24,l25,l26,l27],.func (.func n) #[] #[],.func (.func m) #[] #[],.agg #[t0,t1,t2,t3,t4,t5,t6,t7,t8]] w fun o w'=>o= .returned (.int .i64 (sgn A))∧Below w.heap.size w w':=by
 have HQ:=Hid.mk hq
 have HX:=Hid.mk hx
 clear hq hx
 have HF0:Hid (∀s0 s1 s2 s3 s4,Fcs w l0 l1 l2 l3 l4 l5 l6 l7 l8 l9 l10 l11 l12 l13 l14 l15 l16 l17 l18 l19 l20 l21 l22 l23 l24 l25 l26 l27 (.func (.func n) #[] #[]) (.func (.func m) #[] #[]) t0 t1 t2 t3 t4 t5 t6 t7 t8 (.func (.func 157) #[] #[.pointer (some ⟨w.heap.size+1,0,none⟩),.pointer (some ⟨w.heap.size,0,none⟩)]) (.func (.func 158) #[] #[.pointer (some ⟨w.heap.size+1+1,0,none⟩),.pointer (some ⟨w.heap.size,0,none⟩)]) (((((w.alloc (.cells #[l0,l1,l2,l3,l4,l5,l6,l7,l8,l9,l10,l11,l12,l13,l14,l15,l16,l17,l18,l19,l20,l21,l22,l23,l24,l25,l26,l27] s0)).alloc (.cells #[.func (.func n) #[] #[]] s1)).alloc (.cells #[.func (.func m) #[] #[]] s2)).alloc (.cells #[t0,t1,t2,t3,t4,t5,t6,t7,t8] s3)).alloc (.cells #[.func (.func 157) #[] #[.pointer (some ⟨w.heap.size+1,0,none⟩),.pointer (some ⟨w.heap.size,0,none⟩)],.func (.func 158) #[] #[.pointer (some ⟨w.heap.size+1+1,0,none⟩),.pointer (some ⟨w.heap.size,0,none⟩)]] s4))):=fun s0 s1 s2 s3 s4=>Fcs.start w _ _ _ _ _ _ _ _ _ _ _ _ _ _ _ _ _ _ _ _ _ _ _ _ _ _ _ _ _ _ _ _ _ _ _ _ _ _ _ _ _ _ _ _ _ _
 go_enter func123,ntmps123
 go_wp2_with fail
 refine (η2 157 158 (.pointer (some ⟨w.heap.size+1,0,none⟩)) (.pointer (some ⟨w.heap.size,0,none⟩)) (.pointer (some ⟨w.heap.size+1+1,0,none⟩)) (.pointer (some ⟨w.heap.size,0,none⟩)) t0 t1 t2 t3 t4 t5 t6 t7 t8 k e f S A _ νW νX hk ?_ ?_).mono ?_
 ·intro w' hw
  have G:=(HF0.out _ _ _ _ _).later hw
  have hle:=G.le
  exact κG (w.heap.size) (w.heap.size+1) n l0 l1 l2 l3 l4 l5 l6 l7 l8 l9 l10 l11 l12 l13 t0 t1 t2 t3 t4 t5 t6 t7 t8 k e S A w' hf (by omega) (by omega) G.e1x0 G.e0x0 G.e0x1 G.e0x2 G.e0x3 G.e0x4 G.e0x5 G.e0x6 G.e0x7 G.e0x8 G.e0x9 G.e0x10 G.e0x11 G.e0x12 G.e0x13 (fun w'' h=>HQ.out w'' (G.bel.trans (h.mono G.bel.size)))
 ·intro w' hw
  have G:=(HF0.out _ _ _ _ _).later hw
  have hle:=G.le
  exact κH (w.heap.size) (w.heap.size+1+1) m l14 l15 l16 l17 l18 l19 l20 l21 l22 l23 l24 l25 l26 l27 t0 t1 t2 t3 t4 t5 t6 t7 t8 f A w' hg (by omega) (by omega) G.e2x0 G.e0x14 G.e0x15 G.e0x16 G.e0x17 G.e0x18 G.e0x19 G.e0x20 G.e0x21 G.e0x22 G.e0x23 G.e0x24 G.e0x25 G.e0x26 G.e0x27 (fun w'' h=>HX.out w'' (G.bel.trans (h.mono G.bel.size)))
 rintro o w1 ⟨rfl,hb1⟩
 have HB:Hid (Below w.heap.size w w1):=((HF0.out _ _ _ _ _).later hb1).bel
 clear hb1 HF0
 go_wp2
 go_ret
 exact ⟨rfl,HB.out⟩
open Fl (IsF Nr ζz ζE absI Est)
theorem θL (v:Value) (S:Int) (O D:V3) (t0 t1 t2 t3 t4 t5 t6 t7 t8:Int) (w:World) (hl:ω0 v S O D) (h0:Cor t0) (h1:Cor t1) (h2:Cor t2) (h3:Cor t3) (h4:Cor t4) (h5:Cor t5) (h6:Cor t6) (h7:Cor t7) (h8:Cor t8):
 Calls prog 125 #[v,.agg #[t0,t1,t2,t3,t4,t5,t6,t7,t8]] w fun o w'=>ζ4 w 3 430 (1*S) ((nrm (pv t0 t1 t2) (pv t3 t4 t5) (pv t6 t7 t8)).dot ((V3.sc S (pv t0 t1 t2)).sub O)) o w':=by
 obtain ⟨l0,l1,l2,l3,l4,l5,l6,l7,l8,l9,l10,l11,l12,l13,rfl,hS,hD,hC,hP⟩:=hl
 go_enter func125,ntmps125
 go_wp2_with fail
 obtain ⟨W0,hW0⟩: ∃V0,V0=(((w.alloc (.cells #[.float .f64 l0,.float .f64 l1,.float .f64 l2,.float .f64 l3,.float .f64 l4,.float .f64 l5,.float .f64 l6,.float .f64 l7,.float .f64 l8,.float .f64 l9,.float .f64 l10,.float .f64 l11,.float .f64 l12,.float .f64 l13] 90)).alloc (.cells #[t0,t1,t2,t3,t4,t5,t6,t7,t8] 36)).alloc (.cells #[oOo,oOo] 86)):=⟨_,rfl⟩
 rw [<-hW0]
 have FR:Hid (Fcl w (.float .f64 l0) (.float .f64 l1) (.float .f64 l2) (.float .f64 l3) (.float .f64 l4) (.float .f64 l5) (.float .f64 l6) (.float .f64 l7) (.float .f64 l8) (.float .f64 l9) (.float .f64 l10) (.float .f64 l11) (.float .f64 l12) (.float .f64 l13) t0 t1 t2 t3 t4 t5 t6 t7 t8 oOo oOo W0):=by rw [hW0];exact Fcl.start w _ _ _ _ _ _ _ _ _ _ _ _ _ _ _ _ _ _ _ _ _ _ _ _ _ _ _ _
 clear hW0
 have hst:=ζY
 have F0:Fcl w (.float .f64 l0) (.float .f64 l1) (.float .f64 l2) (.float .f64 l3) (.float .f64 l4) (.float .f64 l5) (.float .f64 l6) (.float .f64 l7) (.float .f64 l8) (.float .f64 l9) (.float .f64 l10) (.float .f64 l11) (.float .f64 l12) (.float .f64 l13) t0 t1 t2 t3 t4 t5 t6 t7 t8 oOo oOo W0.drew:=FR.out.later (Below.refl _ _).drew
 go_region_held3 (fun w'=>w'.cell? ⟨w.heap.size,0,none⟩=some (.float .f64 l0)∧w'.cell? ⟨w.heap.size,1,none⟩=some (.float .f64 l1)∧w'.cell? ⟨w.heap.size,2,none⟩=some (.float .f64 l2)∧w'.cell? ⟨w.heap.size,3,none⟩=some (.float .f64 l3)∧w'.cell? ⟨w.heap.size,4,none⟩=some (.float .f64 l4)∧w'.cell? ⟨w.heap.size,5,none⟩=some (.float .f64 l5)∧w'.cell? ⟨w.heap.size,6,none⟩=some (.float .f64 l6)∧w'.cell? ⟨w.heap.size,7,none⟩=some (.float .f64 l7)∧w'.cell? ⟨w.heap.size,8,none⟩=some (.float .f64 l8)∧w'.cell? ⟨w.heap.size,9,none⟩=some (.float .f64 l9)∧w'.cell? ⟨w.heap.size,10,none⟩=some (.float .f64 l10)∧w'.cell? ⟨w.heap.size,11,none⟩=some (.float .f64 l11)∧w'.cell? ⟨w.heap.size,12,none⟩=some (.float .f64 l12)∧w'.cell? ⟨w.heap.size,13,none⟩=some (.float .f64 l13)∧w'.cell? ⟨w.heap.size+1,0,none⟩=some ↑t0∧w'.cell? ⟨w.heap.size+1,1,none⟩=some ↑t1∧w'.cell? ⟨w.heap.size+1,2,none⟩=some ↑t2∧w'.cell? ⟨w.heap.size+1,3,none⟩=some ↑t3∧w'.cell? ⟨w.heap.size+1,4,none⟩=some ↑t4∧w'.cell? ⟨w.heap.size+1,5,none⟩=some ↑t5∧w'.cell? ⟨w.heap.size+1,6,none⟩=some ↑t6∧w'.cell? ⟨w.heap.size+1,7,none⟩=some ↑t7∧w'.cell? ⟨w.heap.size+1,8,none⟩=some ↑t8)
  (first|with_reducible exact (F3.set2 _ _).s|with_reducible exact Fcl.s (by with_reducible assumption))
  (first
   |(have hBB:=hB2;clear hBB;go_at_call 161;refine (ψ2 _ _ 2 1 272 146 1 S (nrm (pv t0 t1 t2) (pv t3 t4 t5) (pv t6 t7 t8)).x (nrm (pv t0 t1 t2) (pv t3 t4 t5) (pv t6 t7 t8)).y (nrm (pv t0 t1 t2) (pv t3 t4 t5) (pv t6 t7 t8)).z ((V3.sc S (pv t0 t1 t2)).sub O).x ((V3.sc S (pv t0 t1 t2)).sub O).y ((V3.sc S (pv t0 t1 t2)).sub O).z _ (by omega) (by omega) HV1.out HV2.out).mono ?_;rintro o w3 ⟨v3,rfl,hv3,hb3⟩;have HV3:Hid (ζu v3 3 430 (1*S) ((nrm (pv t0 t1 t2) (pv t3 t4 t5) (pv t6 t7 t8)).dot ((V3.sc S (pv t0 t1 t2)).sub O))):=hv3;obtain ⟨m3,n3,_,_,rfl,_,_,_⟩:=hv3;have hB3:Below W0.heap.size W0 w3:=hB2.trans (hb3.mono hB2.size);have F3:Fcl w (.float .f64 l0) (.float .f64 l1) (.float .f64 l2) (.float .f64 l3) (.float .f64 l4) (.float .f64 l5) (.float .f64 l6) (.float .f64 l7) (.float .f64 l8) (.float .f64 l9) (.float .f64 l10) (.float .f64 l11) (.float .f64 l12) (.float .f64 l13) t0 t1 t2 t3 t4 t5 t6 t7 t8 oOo oOo w3:=FR.out.later hB3;have r0:=F3.e2x0;have r1:=F3.e2x1;have rz:=F3.f2)
   |(have hBB:=hB1;clear hBB;go_at_call 162;refine (θH _ S O.x O.y O.z D.x D.y D.z t0 t1 t2 _ ⟨l0,l1,l2,l3,l4,l5,l6,l7,l8,l9,l10,l11,l12,l13,rfl,hS,hD,hC,hP⟩ h0 h1 h2).mono ?_;rintro o w2 ⟨v2,rfl,hv2,hb2⟩;have HV2:Hid (ξc v2 1 146 S ((V3.sc S (pv t0 t1 t2)).sub O).x ((V3.sc S (pv t0 t1 t2)).sub O).y ((V3.sc S (pv t0 t1 t2)).sub O).z):=hv2;obtain ⟨m2_0,m2_1,m2_2,m2_3,m2_4,m2_5,rfl,_,_,_⟩:=hv2;have hB2:Below W0.heap.size W0 w2:=hB1.trans (hb2.mono hB1.size);have F2:Fcl w (.float .f64 l0) (.float .f64 l1) (.float .f64 l2) (.float .f64 l3) (.float .f64 l4) (.float .f64 l5) (.float .f64 l6) (.float .f64 l7) (.float .f64 l8) (.float .f64 l9) (.float .f64 l10) (.float .f64 l11) (.float .f64 l12) (.float .f64 l13) t0 t1 t2 t3 t4 t5 t6 t7 t8 oOo oOo w2:=FR.out.later hB2)
   |(go_at_call 160;refine (ψK t0 t1 t2 t3 t4 t5 t6 t7 t8 _ h0 h1 h2 h3 h4 h5 h6 h7 h8).mono ?_;rintro o w1 ⟨v1,rfl,hv1,hb1⟩;have HV1:Hid (ξc v1 2 272 1 (nrm (pv t0 t1 t2) (pv t3 t4 t5) (pv t6 t7 t8)).x (nrm (pv t0 t1 t2) (pv t3 t4 t5) (pv t6 t7 t8)).y (nrm (pv t0 t1 t2) (pv t3 t4 t5) (pv t6 t7 t8)).z):=hv1;obtain ⟨m1_0,m1_1,m1_2,m1_3,m1_4,m1_5,rfl,_,_,_⟩:=hv1;have hB1:Below W0.heap.size W0 w1:=(Below.refl _ _).drew.trans hb1;have F1:Fcl w (.float .f64 l0) (.float .f64 l1) (.float .f64 l2) (.float .f64 l3) (.float .f64 l4) (.float .f64 l5) (.float .f64 l6) (.float .f64 l7) (.float .f64 l8) (.float .f64 l9) (.float .f64 l10) (.float .f64 l11) (.float .f64 l12) (.float .f64 l13) t0 t1 t2 t3 t4 t5 t6 t7 t8 oOo oOo w1:=FR.out.later hB1))
 have HF:=Hid.mk F3
 clear hB1 hb1 F1 hB2 hb2 F2 hB3 hb3 F3 F0
 go_wp2
 refine bodyPost_ret (v:= .agg #[.float .f64 m3,.float .f64 n3]) (by simp [results,results125,go_sem,r0,r1]) rfl ?_
 refine ⟨_,rfl,HV3.out,?_⟩
 exact (HF.out.set2 _ _).bel
open Fl (IsF Nr ζz ζE absI Est)
theorem ρ6 (v:Value) (S:Int) (O D:V3) (t0 t1 t2 t3 t4 t5 t6 t7 t8:Int) (w:World) (hl:ω0 v S O D) (h0:Cor t0) (h1:Cor t1) (h2:Cor t2) (h3:Cor t3) (h4:Cor t4) (h5:Cor t5):
 Calls prog 127 #[v,.agg #[t0,t1,t2,t3,t4,t5,t6,t7,t8]] w fun o w'=>ζ4 w 3 454 (S*(S*S)) (D.dot (((V3.sc S (pv t0 t1 t2)).sub O).cross ((V3.sc S (pv t3 t4 t5)).sub O))) o w':=by
 obtain ⟨l0,l1,l2,l3,l4,l5,l6,l7,l8,l9,l10,l11,l12,l13,rfl,hS,hD,hC,hP⟩:=hl
 go_enter func127,ntmps127
 go_wp2_with fail
 obtain ⟨W0,hW0⟩: ∃V0,V0=(((w.alloc (.cells #[.float .f64 l0,.float .f64 l1,.float .f64 l2,.float .f64 l3,.float .f64 l4,.float .f64 l5,.float .f64 l6,.float .f64 l7,.float .f64 l8,.float .f64 l9,.float .f64 l10,.float .f64 l11,.float .f64 l12,.float .f64 l13] 90)).alloc (.cells #[t0,t1,t2,t3,t4,t5,t6,t7,t8] 36)).alloc (.cells #[oOo,oOo] 86)):=⟨_,rfl⟩
 rw [<-hW0]
 have FR:Hid (Fcl w (.float .f64 l0) (.float .f64 l1) (.float .f64 l2) (.float .f64 l3) (.float .f64 l4) (.float .f64 l5) (.float .f64 l6) (.float .f64 l7) (.float .f64 l8) (.float .f64 l9) (.float .f64 l10) (.float .f64 l11) (.float .f64 l12) (.float .f64 l13) t0 t1 t2 t3 t4 t5 t6 t7 t8 oOo oOo W0):=by rw [hW0];exact Fcl.start w _ _ _ _ _ _ _ _ _ _ _ _ _ _ _ _ _ _ _ _ _ _ _ _ _ _ _ _
 clear hW0
 have hst:=ζY
 have F0:Fcl w (.float .f64 l0) (.float .f64 l1) (.float .f64 l2) (.float .f64 l3) (.float .f64 l4) (.float .f64 l5) (.float .f64 l6) (.float .f64 l7) (.float .f64 l8) (.float .f64 l9) (.float .f64 l10) (.float .f64 l11) (.float .f64 l12) (.float .f64 l13) t0 t1 t2 t3 t4 t5 t6 t7 t8 oOo oOo W0.drew:=FR.out.later (Below.refl _ _).drew
 go_region_held3 (fun w'=>w'.cell? ⟨w.heap.size,0,none⟩=some (.float .f64 l0)∧w'.cell? ⟨w.heap.size,1,none⟩=some (.float .f64 l1)∧w'.cell? ⟨w.heap.size,2,none⟩=some (.float .f64 l2)∧w'.cell? ⟨w.heap.size,3,none⟩=some (.float .f64 l3)∧w'.cell? ⟨w.heap.size,4,none⟩=some (.float .f64 l4)∧w'.cell? ⟨w.heap.size,5,none⟩=some (.float .f64 l5)∧w'.cell? ⟨w.heap.size,6,none⟩=some (.float .f64 l6)∧w'.cell? ⟨w.heap.size,7,none⟩=some (.float .f64 l7)∧w'.cell? ⟨w.heap.size,8,none⟩=some (.float .f64 l8)∧w'.cell? ⟨w.heap.size,9,none⟩=some (.float .f64 l9)∧w'.cell? ⟨w.heap.size,10,none⟩=some (.float .f64 l10)∧w'.cell? ⟨w.heap.size,11,none⟩=some (.float .f64 l11)∧w'.cell? ⟨w.heap.size,12,none⟩=some (.float .f64 l12)∧w'.cell? ⟨w.heap.size,13,none⟩=some (.float .f64 l13)∧w'.cell? ⟨w.heap.size+1,0,none⟩=some ↑t0∧w'.cell? ⟨w.heap.size+1,1,none⟩=some ↑t1∧w'.cell? ⟨w.heap.size+1,2,none⟩=some ↑t2∧w'.cell? ⟨w.heap.size+1,3,none⟩=some ↑t3∧w'.cell? ⟨w.heap.size+1,4,none⟩=some ↑t4∧w'.cell? ⟨w.heap.size+1,5,none⟩=some ↑t5∧w'.cell? ⟨w.heap.size+1,6,none⟩=some ↑t6∧w'.cell? ⟨w.heap.size+1,7,none⟩=some ↑t7∧w'.cell? ⟨w.heap.size+1,8,none⟩=some ↑t8)
  (first|with_reducible exact (F4.set2 _ _).s|with_reducible exact Fcl.s (by with_reducible assumption))
  (first
   |(have hBB:=hB3;clear hBB;go_at_call 161;refine (ψ2 _ _ 1 2 142 300 S (S*S) D.x D.y D.z (((V3.sc S (pv t0 t1 t2)).sub O).cross ((V3.sc S (pv t3 t4 t5)).sub O)).x (((V3.sc S (pv t0 t1 t2)).sub O).cross ((V3.sc S (pv t3 t4 t5)).sub O)).y (((V3.sc S (pv t0 t1 t2)).sub O).cross ((V3.sc S (pv t3 t4 t5)).sub O)).z _ (by omega) (by omega) hD HV3.out).mono ?_;rintro o w4 ⟨v4,rfl,hv4,hb4⟩;have HV4:Hid (ζu v4 3 454 (S*(S*S)) (D.dot (((V3.sc S (pv t0 t1 t2)).sub O).cross ((V3.sc S (pv t3 t4 t5)).sub O)))):=hv4;obtain ⟨m4,n4,_,_,rfl,_,_,_⟩:=hv4;have hB4:Below W0.heap.size W0 w4:=hB3.trans (hb4.mono hB3.size);have F4:Fcl w (.float .f64 l0) (.float .f64 l1) (.float .f64 l2) (.float .f64 l3) (.float .f64 l4) (.float .f64 l5) (.float .f64 l6) (.float .f64 l7) (.float .f64 l8) (.float .f64 l9) (.float .f64 l10) (.float .f64 l11) (.float .f64 l12) (.float .f64 l13) t0 t1 t2 t3 t4 t5 t6 t7 t8 oOo oOo w4:=FR.out.later hB4;have r0:=F4.e2x0;have r1:=F4.e2x1;have rz:=F4.f2)
   |(have hBB:=hB2;clear hBB;go_at_call 165;refine (χc _ _ 1 1 146 146 S S ((V3.sc S (pv t0 t1 t2)).sub O).x ((V3.sc S (pv t0 t1 t2)).sub O).y ((V3.sc S (pv t0 t1 t2)).sub O).z ((V3.sc S (pv t3 t4 t5)).sub O).x ((V3.sc S (pv t3 t4 t5)).sub O).y ((V3.sc S (pv t3 t4 t5)).sub O).z _ (by omega) (by omega) HV1.out HV2.out).mono ?_;rintro o w3 ⟨v3,rfl,hv3,hb3⟩;have HV3:Hid (ξc v3 2 300 (S*S) (((V3.sc S (pv t0 t1 t2)).sub O).cross ((V3.sc S (pv t3 t4 t5)).sub O)).x (((V3.sc S (pv t0 t1 t2)).sub O).cross ((V3.sc S (pv t3 t4 t5)).sub O)).y (((V3.sc S (pv t0 t1 t2)).sub O).cross ((V3.sc S (pv t3 t4 t5)).sub O)).z):=hv3;obtain ⟨m3_0,m3_1,m3_2,m3_3,m3_4,m3_5,rfl,_,_,_⟩:=hv3;have hB3:Below W0.heap.size W0 w3:=hB2.trans (hb3.mono hB2.size);have F3:Fcl w (.float .f64 l0) (.float .f64 l1) (.float .f64 l2) (.float .f64 l3) (.float .f64 l4) (.float .f64 l5) (.float .f64 l6) (.float .f64 l7) (.float .f64 l8) (.float .f64 l9) (.float .f64 l10) (.float .f64 l11) (.float .f64 l12) (.float .f64 l13) t0 t1 t2 t3 t4 t5 t6 t7 t8 oOo oOo w3:=FR.out.later hB3)
   |(have hBB:=hB1;clear hBB;go_at_call 162;refine (θH _ S O.x O.y O.z D.x D.y D.z t3 t4 t5 _ ⟨l0,l1,l2,l3,l4,l5,l6,l7,l8,l9,l10,l11,l12,l13,rfl,hS,hD,hC,hP⟩ h3 h4 h5).mono ?_;rintro o w2 ⟨v2,rfl,hv2,hb2⟩;have HV2:Hid (ξc v2 1 146 S ((V3.sc S (pv t3 t4 t5)).sub O).x ((V3.sc S (pv t3 t4 t5)).sub O).y ((V3.sc S (pv t3 t4 t5)).sub O).z):=hv2;obtain ⟨m2_0,m2_1,m2_2,m2_3,m2_4,m2_5,rfl,_,_,_⟩:=hv2;have hB2:Below W0.heap.size W0 w2:=hB1.trans (hb2.mono hB1.size);have F2:Fcl w (.float .f64 l0) (.float .f64 l1) (.float .f64 l2) (.float .f64 l3) (.float .f64 l4) (.float .f64 l5) (.float .f64 l6) (.float .f64 l7) (.float .f64 l8) (.float .f64 l9) (.float .f64 l10) (.float .f64 l11) (.float .f64 l12) (.float .f64 l13) t0 t1 t2 t3 t4 t5 t6 t7 t8 oOo oOo w2:=FR.out.later hB2)
   |(go_at_call 162;refine (θH _ S O.x O.y O.z D.x D.y D.z t0 t1 t2 _ ⟨l0,l1,l2,l3,l4,l5,l6,l7,l8,l9,l10,l11,l12,l13,rfl,hS,hD,hC,hP⟩ h0 h1 h2).mono ?_;rintro o w1 ⟨v1,rfl,hv1,hb1⟩;have HV1:Hid (ξc v1 1 146 S ((V3.sc S (pv t0 t1 t2)).sub O).x ((V3.sc S (pv t0 t1 t2)).sub O).y ((V3.sc S (pv t0 t1 t2)).sub O).z):=hv1;obtain ⟨m1_0,m1_1,m1_2,m1_3,m1_4,m1_5,rfl,_,_,_⟩:=hv1;have hB1:Below W0.heap.size W0 w1:=(Below.refl _ _).drew.trans hb1;have F1:Fcl w (.float .f64 l0) (.float .f64 l1) (.float .f64 l2) (.float .f64 l3) (.float .f64 l4) (.float .f64 l5) (.float .f64 l6) (.float .f64 l7) (.float .f64 l8) (.float .f64 l9) (.float .f64 l10) (.float .f64 l11) (.float .f64 l12) (.float .f64 l13) t0 t1 t2 t3 t4 t5 t6 t7 t8 oOo oOo w1:=FR.out.later hB1))
 have HF:=Hid.mk F4
 clear hB1 hb1 F1 hB2 hb2 F2 hB3 hb3 F3 hB4 hb4 F4 F0
 go_wp2
 refine bodyPost_ret (v:= .agg #[.float .f64 m4,.float .f64 n4]) (by simp [results,results127,go_sem,r0,r1]) rfl ?_
 refine ⟨_,rfl,HV4.out,?_⟩
 exact (HF.out.set2 _ _).bel
theorem ρ7 (v:Value) (m k:Nat) (S:Int) (O D:V3) (t0 t1 t2 t3 t4 t5 t6 t7 t8:Int) (w:World) (hm:277<=m) (hmk:3*m+2*k<=28000) (hT:Tab w) (hl:ξi w v m k S O D) (h0:Cor t0) (h1:Cor t1) (h2:Cor t2) (h3:Cor t3) (h4:Cor t4) (h5:Cor t5):
 Calls prog 128 #[v,.agg #[t0,t1,t2,t3,t4,t5,t6,t7,t8]] w fun o w'=>ζB w (m+(m+k+1+(m+k+1)+1)+1+1) (D.dot (((V3.sc S (pv t0 t1 t2)).sub O).cross ((V3.sc S (pv t3 t4 t5)).sub O))) o w':=by
 have hline:=hl
 obtain ⟨gs1,as1,cs1,zs1,gs2,as2,cs2,zs2,gs3,as3,cs3,zs3,gd1,ad1,cd1,zd1,gd2,ad2,cd2,zd2,gd3,ad3,cd3,zd3,gk,ak,ck,zk,rfl,_,hD,_⟩:=hl
 go_enter func128,ntmps128
 go_wp2_with fail
 obtain ⟨W0,hW0⟩: ∃V0,V0=(((w.alloc (.cells #[gs1,.slice as1 zs1.length cs1,gs2,.slice as2 zs2.length cs2,gs3,.slice as3 zs3.length cs3,gd1,.slice ad1 zd1.length cd1,gd2,.slice ad2 zd2.length cd2,gd3,.slice ad3 zd3.length cd3,gk,.slice ak zk.length ck] 94)).alloc (.cells #[t0,t1,t2,t3,t4,t5,t6,t7,t8] 36)).alloc (.cells #[false,()] 31)):=⟨_,rfl⟩
 rw [<-hW0]
 have FR:Hid (Fcl w gs1 (.slice as1 zs1.length cs1) gs2 (.slice as2 zs2.length cs2) gs3 (.slice as3 zs3.length cs3) gd1 (.slice ad1 zd1.length cd1) gd2 (.slice ad2 zd2.length cd2) gd3 (.slice ad3 zd3.length cd3) gk (.slice ak zk.length ck) t0 t1 t2 t3 t4 t5 t6 t7 t8 false () W0):=by rw [hW0];exact Fcl.start w _ _ _ _ _ _ _ _ _ _ _ _ _ _ _ _ _ _ _ _ _ _ _ _ _ _ _ _
 have HNI:Hid (ζf W0 (w.heap.size+1+1)):=by
  have hz: ∀(i:Nat) (k:IntKind) (m:Int),(#[↑false,↑()]:Array Value)[i]? ≠some (Value.int k m):=by
   intro i k m
   match i with|0=>simp|1=>simp|n+2=>simp
  have h1:=ζf.new ((w.alloc (.cells #[gs1,.slice as1 zs1.length cs1,gs2,.slice as2 zs2.length cs2,gs3,.slice as3 zs3.length cs3,gd1,.slice ad1 zd1.length cd1,gd2,.slice ad2 zd2.length cd2,gd3,.slice ad3 zd3.length cd3,gk,.slice ak zk.length ck] 94)).alloc (.cells #[t0,t1,t2,t3,t4,t5,t6,t7,t8] 36)) #[false,()] 31 hz
  have hs:((w.alloc (.cells #[gs1,.slice as1 zs1.length cs1,gs2,.slice as2 zs2.length cs2,gs3,.slice as3 zs3.length cs3,gd1,.slice ad1 zd1.length cd1,gd2,.slice ad2 zd2.length cd2,gd3,.slice ad3 zd3.length cd3,gk,.slice ak zk.length ck] 94)).alloc (.cells #[t0,t1,t2,t3,t4,t5,t6,t7,t8] 36)).heap.size=w.heap.size+1+1:=by simp
  rw [hs] at h1
  unfold Hid;rw [hW0];exact h1
 clear hW0
 have TT_0:=(hT.later FR.out.bel).later (w':=W0.drew) (Below.refl _ _).drew
 have LL_0:=(hline.later FR.out.bel).later (w':=W0.drew) (Below.refl _ _).drew
 have DD_0:=(hD.later FR.out.bel).later (w':=W0.drew) (Below.refl _ _).drew
 have NI_0:=HNI.out.later (w':=W0.drew) (Below.refl _ _).drew
 have F0:Fcl w gs1 (.slice as1 zs1.length cs1) gs2 (.slice as2 zs2.length cs2) gs3 (.slice as3 zs3.length cs3) gd1 (.slice ad1 zd1.length cd1) gd2 (.slice ad2 zd2.length cd2) gd3 (.slice ad3 zd3.length cd3) gk (.slice ak zk.length ck) t0 t1 t2 t3 t4 t5 t6 t7 t8 false () W0.drew:=FR.out.later (Below.refl _ _).drew
 go_region_held3 (fun w'=>w'.cell? ⟨w.heap.size,0,none⟩=some ↑gs1∧w'.cell? ⟨w.heap.size,1,none⟩=some (.slice as1 zs1.length cs1)∧w'.cell? ⟨w.heap.size,2,none⟩=some ↑gs2∧w'.cell? ⟨w.heap.size,3,none⟩=some (.slice as2 zs2.length cs2)∧w'.cell? ⟨w.heap.size,4,none⟩=some ↑gs3∧w'.cell? ⟨w.heap.size,5,none⟩=some (.slice as3 zs3.length cs3)∧w'.cell? ⟨w.heap.size,6,none⟩=some ↑gd1∧w'.cell? ⟨w.heap.size,7,none⟩=some (.slice ad1 zd1.length cd1)∧w'.cell? ⟨w.heap.size,8,none⟩=some ↑gd2∧w'.cell? ⟨w.heap.size,9,none⟩=some (.slice ad2 zd2.length cd2)∧w'.cell? ⟨w.heap.size,10,none⟩=some ↑gd3∧w'.cell? ⟨w.heap.size,11,none⟩=some (.slice ad3 zd3.length cd3)∧w'.cell? ⟨w.heap.size,12,none⟩=some ↑gk∧w'.cell? ⟨w.heap.size,13,none⟩=some (.slice ak zk.length ck)∧w'.cell? ⟨w.heap.size+1,0,none⟩=some ↑t0∧w'.cell? ⟨w.heap.size+1,1,none⟩=some ↑t1∧w'.cell? ⟨w.heap.size+1,2,none⟩=some ↑t2∧w'.cell? ⟨w.heap.size+1,3,none⟩=some ↑t3∧w'.cell? ⟨w.heap.size+1,4,none⟩=some ↑t4∧w'.cell? ⟨w.heap.size+1,5,none⟩=some ↑t5∧w'.cell? ⟨w.heap.size+1,6,none⟩=some ↑t6∧w'.cell? ⟨w.heap.size+1,7,none⟩=some ↑t7∧w'.cell? ⟨w.heap.size+1,8,none⟩=some ↑t8)
  (first|with_reducible exact (F4.set2 _ _).s|with_reducible exact Fcl.s (by with_reducible assumption))
  (first
   |(have hBB:=hB3;clear hBB;go_at_call 132;refine (ψ3 _ _ m (m+k+1+(m+k+1)+1) D.x D.y D.z (((V3.sc S (pv t0 t1 t2)).sub O).cross ((V3.sc S (pv t3 t4 t5)).sub O)).x (((V3.sc S (pv t0 t1 t2)).sub O).cross ((V3.sc S (pv t3 t4 t5)).sub O)).y (((V3.sc S (pv t0 t1 t2)).sub O).cross ((V3.sc S (pv t3 t4 t5)).sub O)).z _ (by omega) DD_3 R3_3).mono ?_;rintro o w4 ⟨v4,rfl,hv4,hb4⟩;have R4_4:ζe w4 v4 (m+(m+k+1+(m+k+1)+1)+1+1) (D.dot (((V3.sc S (pv t0 t1 t2)).sub O).cross ((V3.sc S (pv t3 t4 t5)).sub O))):=hv4;obtain ⟨gr4,ar4,cr4,zr4,rfl,_,_,_⟩:=hv4;have TT_4:=TT_3.later hb4;have LL_4:=LL_3.later hb4;have DD_4:=DD_3.later hb4;have NI_4:=NI_3.later hb4;have R1_4:=R1_3.later hb4;have R2_4:=R2_3.later hb4;have R3_4:=R3_3.later hb4;have hB4:Below W0.heap.size W0 w4:=hB3.trans (hb4.mono hB3.size);have F4:Fcl w gs1 (.slice as1 zs1.length cs1) gs2 (.slice as2 zs2.length cs2) gs3 (.slice as3 zs3.length cs3) gd1 (.slice ad1 zd1.length cd1) gd2 (.slice ad2 zd2.length cd2) gd3 (.slice ad3 zd3.length cd3) gk (.slice ak zk.length ck) t0 t1 t2 t3 t4 t5 t6 t7 t8 false () w4:=FR.out.later hB4;have r0:=F4.e2x0;have r1:=F4.e2x1;have rz:=F4.f2)
   |(have hBB:=hB2;clear hBB;go_at_call 136;refine (θI _ _ (m+k+1) (m+k+1) ((V3.sc S (pv t0 t1 t2)).sub O).x ((V3.sc S (pv t0 t1 t2)).sub O).y ((V3.sc S (pv t0 t1 t2)).sub O).z ((V3.sc S (pv t3 t4 t5)).sub O).x ((V3.sc S (pv t3 t4 t5)).sub O).y ((V3.sc S (pv t3 t4 t5)).sub O).z _ (by omega) R1_2 R2_2).mono ?_;rintro o w3 ⟨v3,rfl,hv3,hb3⟩;have R3_3:ζM w3 v3 (m+k+1+(m+k+1)+1) (((V3.sc S (pv t0 t1 t2)).sub O).cross ((V3.sc S (pv t3 t4 t5)).sub O)).x (((V3.sc S (pv t0 t1 t2)).sub O).cross ((V3.sc S (pv t3 t4 t5)).sub O)).y (((V3.sc S (pv t0 t1 t2)).sub O).cross ((V3.sc S (pv t3 t4 t5)).sub O)).z:=hv3;obtain ⟨gr31,ar31,cr31,zr31,gr32,ar32,cr32,zr32,gr33,ar33,cr33,zr33,rfl,_,_,_⟩:=hv3;have TT_3:=TT_2.later hb3;have LL_3:=LL_2.later hb3;have DD_3:=DD_2.later hb3;have NI_3:=NI_2.later hb3;have R1_3:=R1_2.later hb3;have R2_3:=R2_2.later hb3;have hB3:Below W0.heap.size W0 w3:=hB2.trans (hb3.mono hB2.size);have F3:Fcl w gs1 (.slice as1 zs1.length cs1) gs2 (.slice as2 zs2.length cs2) gs3 (.slice as3 zs3.length cs3) gd1 (.slice ad1 zd1.length cd1) gd2 (.slice ad2 zd2.length cd2) gd3 (.slice ad3 zd3.length cd3) gk (.slice ak zk.length ck) t0 t1 t2 t3 t4 t5 t6 t7 t8 false () w3:=FR.out.later hB3)
   |(have hBB:=hB1;clear hBB;go_at_call 133;refine (ωb _ m k S O D t3 t4 t5 _ hm (by omega) TT_1 LL_1 h3 h4 h5).mono ?_;rintro o w2 ⟨v2,rfl,hv2,hb2⟩;have R2_2:ζM w2 v2 (m+k+1) ((V3.sc S (pv t3 t4 t5)).sub O).x ((V3.sc S (pv t3 t4 t5)).sub O).y ((V3.sc S (pv t3 t4 t5)).sub O).z:=hv2;obtain ⟨gr21,ar21,cr21,zr21,gr22,ar22,cr22,zr22,gr23,ar23,cr23,zr23,rfl,_,_,_⟩:=hv2;have TT_2:=TT_1.later hb2;have LL_2:=LL_1.later hb2;have DD_2:=DD_1.later hb2;have NI_2:=NI_1.later hb2;have R1_2:=R1_1.later hb2;have hB2:Below W0.heap.size W0 w2:=hB1.trans (hb2.mono hB1.size);have F2:Fcl w gs1 (.slice as1 zs1.length cs1) gs2 (.slice as2 zs2.length cs2) gs3 (.slice as3 zs3.length cs3) gd1 (.slice ad1 zd1.length cd1) gd2 (.slice ad2 zd2.length cd2) gd3 (.slice ad3 zd3.length cd3) gk (.slice ak zk.length ck) t0 t1 t2 t3 t4 t5 t6 t7 t8 false () w2:=FR.out.later hB2)
   |(go_at_call 133;refine (ωb _ m k S O D t0 t1 t2 _ hm (by omega) TT_0 LL_0 h0 h1 h2).mono ?_;rintro o w1 ⟨v1,rfl,hv1,hb1⟩;have R1_1:ζM w1 v1 (m+k+1) ((V3.sc S (pv t0 t1 t2)).sub O).x ((V3.sc S (pv t0 t1 t2)).sub O).y ((V3.sc S (pv t0 t1 t2)).sub O).z:=hv1;obtain ⟨gr11,ar11,cr11,zr11,gr12,ar12,cr12,zr12,gr13,ar13,cr13,zr13,rfl,_,_,_⟩:=hv1;have TT_1:=TT_0.later hb1;have LL_1:=LL_0.later hb1;have DD_1:=DD_0.later hb1;have NI_1:=NI_0.later hb1;have hB1:Below W0.heap.size W0 w1:=(Below.refl _ _).drew.trans hb1;have F1:Fcl w gs1 (.slice as1 zs1.length cs1) gs2 (.slice as2 zs2.length cs2) gs3 (.slice as3 zs3.length cs3) gd1 (.slice ad1 zd1.length cd1) gd2 (.slice ad2 zd2.length cd2) gd3 (.slice ad3 zd3.length cd3) gk (.slice ak zk.length ck) t0 t1 t2 t3 t4 t5 t6 t7 t8 false () w1:=FR.out.later hB1))
 have HF:Hid (Fcl w gs1 (.slice as1 zs1.length cs1) gs2 (.slice as2 zs2.length cs2) gs3 (.slice as3 zs3.length cs3) gd1 (.slice ad1 zd1.length cd1) gd2 (.slice ad2 zd2.length cd2) gd3 (.slice ad3 zd3.length cd3) gk (.slice ak zk.length ck) t0 t1 t2 t3 t4 t5 t6 t7 t8 false () w4):=F4
 have HR4:Hid (ζe w4 (.agg #[gr4,.slice ar4 zr4.length cr4]) (m+(m+k+1+(m+k+1)+1)+1+1) (D.dot (((V3.sc S (pv t0 t1 t2)).sub O).cross ((V3.sc S (pv t3 t4 t5)).sub O)))):=R4_4
 have HNN:Hid (ζf w4 (w.heap.size+1+1)):=NI_4
 clear hB1 hb1 F1 hB2 hb2 F2 hB3 hb3 F3 hB4 hb4 F4 TT_0 TT_1 TT_2 TT_3 TT_4 LL_0 LL_1 LL_2 LL_3 LL_4 DD_0 DD_1 DD_2 DD_3 DD_4 NI_0 NI_1 NI_2 NI_3 NI_4 R1_1 R1_2 R1_3 R1_4 R2_2 R2_3 R2_4 R3_3 R3_4 R4_4 F0
 go_wp2
 refine bodyPost_ret (v:= .agg #[gr4,.slice ar4 zr4.length cr4]) (by simp [results,results128,go_sem,r0,r1]) rfl ?_
 refine ⟨_,rfl,HR4.out.setAll [gr4,.slice ar4 zr4.length cr4] _ 0 HNN.out (by simp [ζh]),?_⟩
 exact (HF.out.set2 _ _).bel
def ζH (w:World) (v:Value) (m k:Nat) (S:Int) (O D:V3):Prop:= ∃l0 l1 l2 l3 l4 l5 l6 l7 l8 l9 l10 l11 l12 l13 l14 l15 l16 l17 l18 l19 l20 l21 l22 l23 l24 l25 l26 l27:Value,v= .agg #[l0,l1,l2,l3,l4,l5,l6,l7,l8,l9,l10,l11,l12,l13,l14,l15,l16,l17,l18,l19,l20,l21,l22,l23,l24,l25,l26,l27]∧ω0 (.agg #[l0,l1,l2,l3,l4,l5,l6,l7,l8,l9,l10,l11,l12,l13]) S O D∧ξi w (.agg #[l14,l15,l16,l17,l18,l19,l20,l21,l22,l23,l24,l25,l26,l27]) m k S O D
theorem ζH.later {w':World} {v:Value} {m k:Nat} {S:Int} {O D:V3} (h:ζH w v m k S O D) (hb:Below w.heap.size w w'):ζH w' v m k S O D:=by
 obtain ⟨l0,l1,l2,l3,l4,l5,l6,l7,l8,l9,l10,l11,l12,l13,l14,l15,l16,l17,l18,l19,l20,l21,l22,l23,l24,l25,l26,l27,rfl,h1,h2⟩:=h
 exact ⟨l0,l1,l2,l3,l4,l5,l6,l7,l8,l9,l10,l11,l12,l13,l14,l15,l16,l17,l18,l19,l20,l21,l22,l23,l24,l25,l26,l27,rfl,h1,h2.later hb⟩
theorem η3 (args:Array Value) (w:World):(callFunc 124 args).run prog w= .ok (.enter 124 args) w:=by kernel_rfl
theorem η4 (args:Array Value) (w:World):(callFunc 85 args).run prog w= .ok (.enter 85 args) w:=by kernel_rfl
theorem ωc (v:Value) (m k:Nat) (S:Int) (O D:V3) (t0 t1 t2 t3 t4 t5 t6 t7 t8:Int) (w:World) (hmk:3*m+2*k<=28000) (hT:Tab w) (hc:ζH w v m k S O D) (q0:Cor t0) (q1:Cor t1) (q2:Cor t2) (q3:Cor t3) (q4:Cor t4) (q5:Cor t5) (q6:Cor t6) (q7:Cor t7) (q8:Cor t8):
 Calls prog 123 #[v,.func (.func 124) #[] #[],.func (.func 85) #[] #[],.agg #[t0,t1,t2,t3,t4,t5,t6,t7,t8]] w fun o w'=>o= .returned (.int .i64 (sgn ((nrm (pv t0 t1 t2) (pv t3 t4 t5) (pv t6 t7 t8)).dot D)))∧Below w.heap.size w w':=by
 obtain ⟨l0,l1,l2,l3,l4,l5,l6,l7,l8,l9,l10,l11,l12,l13,l14,l15,l16,l17,l18,l19,l20,l21,l22,l23,l24,l25,l26,l27,rfl,h1,h2⟩:=hc
 exact χg 124 85 l0 l1 l2 l3 l4 l5 l6 l7 l8 l9 l10 l11 l12 l13 l14 l15 l16 l17 l18 l19 l20 l21 l22 l23 l24 l25 l26 l27 t0 t1 t2 t3 t4 t5 t6 t7 t8 3 426 (557+m+1+1) (1*S) ((nrm (pv t0 t1 t2) (pv t3 t4 t5) (pv t6 t7 t8)).dot D) w η3 η4 (by omega) (fun w' _=>η0 _ S O D t0 t1 t2 t3 t4 t5 t6 t7 t8 w' h1 q0 q1 q2 q3 q4 q5 q6 q7 q8) (fun w' hb=>χK _ m k S O D t0 t1 t2 t3 t4 t5 t6 t7 t8 w' hmk (hT.later hb) (h2.later hb) q0 q1 q2 q3 q4 q5 q6 q7 q8)
theorem θM (args:Array Value) (w:World):(callFunc 125 args).run prog w= .ok (.enter 125 args) w:=by kernel_rfl
theorem θN (args:Array Value) (w:World):(callFunc 84 args).run prog w= .ok (.enter 84 args) w:=by kernel_rfl
theorem χy (v:Value) (m k:Nat) (S:Int) (O D:V3) (t0 t1 t2 t3 t4 t5 t6 t7 t8:Int) (w:World) (hm:277<=m) (hmk:3*m+2*k<=28000) (hT:Tab w) (hc:ζH w v m k S O D) (q0:Cor t0) (q1:Cor t1) (q2:Cor t2) (q3:Cor t3) (q4:Cor t4) (q5:Cor t5) (q6:Cor t6) (q7:Cor t7) (q8:Cor t8):
 Calls prog 123 #[v,.func (.func 125) #[] #[],.func (.func 84) #[] #[],.agg #[t0,t1,t2,t3,t4,t5,t6,t7,t8]] w fun o w'=>o= .returned (.int .i64 (sgn ((nrm (pv t0 t1 t2) (pv t3 t4 t5) (pv t6 t7 t8)).dot ((V3.sc S (pv t0 t1 t2)).sub O))))∧Below w.heap.size w w':=by
 obtain ⟨l0,l1,l2,l3,l4,l5,l6,l7,l8,l9,l10,l11,l12,l13,l14,l15,l16,l17,l18,l19,l20,l21,l22,l23,l24,l25,l26,l27,rfl,h1,h2⟩:=hc
 exact χg 125 84 l0 l1 l2 l3 l4 l5 l6 l7 l8 l9 l10 l11 l12 l13 l14 l15 l16 l17 l18 l19 l20 l21 l22 l23 l24 l25 l26 l27 t0 t1 t2 t3 t4 t5 t6 t7 t8 3 430 (557+(m+k+1)+1+1) (1*S) ((nrm (pv t0 t1 t2) (pv t3 t4 t5) (pv t6 t7 t8)).dot ((V3.sc S (pv t0 t1 t2)).sub O)) w θM θN (by omega) (fun w' _=>θL _ S O D t0 t1 t2 t3 t4 t5 t6 t7 t8 w' h1 q0 q1 q2 q3 q4 q5 q6 q7 q8) (fun w' hb=>χf _ m k S O D t0 t1 t2 t3 t4 t5 t6 t7 t8 w' hm hmk (hT.later hb) (h2.later hb) q0 q1 q2 q3 q4 q5 q6 q7 q8)
theorem ρ8 (args:Array Value) (w:World):(callFunc 127 args).run prog w= .ok (.enter 127 args) w:=by kernel_rfl
theorem ρ9 (args:Array Value) (w:World):(callFunc 128 args).run prog w= .ok (.enter 128 args) w:=by kernel_rfl
theorem ψh (v:Value) (m k:Nat) (S:Int) (O D:V3) (t0 t1 t2 t3 t4 t5 t6 t7 t8:Int) (w:World) (hm:277<=m) (hmk:3*m+2*k<=28000) (hT:Tab w) (hc:ζH w v m k S O D) (q0:Cor t0) (q1:Cor t1) (q2:Cor t2) (q3:Cor t3) (q4:Cor t4) (q5:Cor t5):
 Calls prog 123 #[v,.func (.func 127) #[] #[],.func (.func 128) #[] #[],.agg #[t0,t1,t2,t3,t4,t5,t6,t7,t8]] w fun o w'=>o= .returned (.int .i64 (sgn (D.dot (((V3.sc S (pv t0 t1 t2)).sub O).cross ((V3.sc S (pv t3 t4 t5)).sub O)))))∧Below w.heap.size w w':=by
 obtain ⟨l0,l1,l2,l3,l4,l5,l6,l7,l8,l9,l10,l11,l12,l13,l14,l15,l16,l17,l18,l19,l20,l21,l22,l23,l24,l25,l26,l27,rfl,h1,h2⟩:=hc
 exact χg 127 128 l0 l1 l2 l3 l4 l5 l6 l7 l8 l9 l10 l11 l12 l13 l14 l15 l16 l17 l18 l19 l20 l21 l22 l23 l24 l25 l26 l27 t0 t1 t2 t3 t4 t5 t6 t7 t8 3 454 (m+(m+k+1+(m+k+1)+1)+1+1) (S*(S*S)) (D.dot (((V3.sc S (pv t0 t1 t2)).sub O).cross ((V3.sc S (pv t3 t4 t5)).sub O))) w ρ8 ρ9 (by omega) (fun w' _=>ρ6 _ S O D t0 t1 t2 t3 t4 t5 t6 t7 t8 w' h1 q0 q1 q2 q3 q4 q5) (fun w' hb=>ρ7 _ m k S O D t0 t1 t2 t3 t4 t5 t6 t7 t8 w' hm hmk (hT.later hb) (h2.later hb) q0 q1 q2 q3 q4 q5)
open Fl (IsF Nr ζz ζE absI Est)
def ηo (w:World) (S:Int) (O D:V3) (o:Ending) (w':World):Prop:= ∃v,o= .returned v∧ω0 v S O D∧Below w.heap.size w w'
structure Flo (w:World) (m0 m1 m2 m3 m4 m5 n0 n1 p0 p1 p2 p3 p4 p5 p6 p7 p8 p9 p10 p11 p12 p13:Value) (W:World):Prop where
 e0x0:W.cell? ⟨w.heap.size,0,none⟩=some m0
 e0x1:W.cell? ⟨w.heap.size,1,none⟩=some m1
 e0x2:W.cell? ⟨w.heap.size,2,none⟩=some m2
 e0x3:W.cell? ⟨w.heap.size,3,none⟩=some m3
 e0x4:W.cell? ⟨w.heap.size,4,none⟩=some m4
 e0x5:W.cell? ⟨w.heap.size,5,none⟩=some m5
 f0: ∀j,W.frozen? ⟨w.heap.size,j,none⟩=false
 e1x0:W.cell? ⟨w.heap.size+1,0,none⟩=some n0
 e1x1:W.cell? ⟨w.heap.size+1,1,none⟩=some n1
 f1: ∀j,W.frozen? ⟨w.heap.size+1,j,none⟩=false
 e2x0:W.cell? ⟨w.heap.size+1+1,0,none⟩=some p0
 e2x1:W.cell? ⟨w.heap.size+1+1,1,none⟩=some p1
 e2x2:W.cell? ⟨w.heap.size+1+1,2,none⟩=some p2
 e2x3:W.cell? ⟨w.heap.size+1+1,3,none⟩=some p3
 e2x4:W.cell? ⟨w.heap.size+1+1,4,none⟩=some p4
 e2x5:W.cell? ⟨w.heap.size+1+1,5,none⟩=some p5
 e2x6:W.cell? ⟨w.heap.size+1+1,6,none⟩=some p6
 e2x7:W.cell? ⟨w.heap.size+1+1,7,none⟩=some p7
 e2x8:W.cell? ⟨w.heap.size+1+1,8,none⟩=some p8
 e2x9:W.cell? ⟨w.heap.size+1+1,9,none⟩=some p9
 e2x10:W.cell? ⟨w.heap.size+1+1,10,none⟩=some p10
 e2x11:W.cell? ⟨w.heap.size+1+1,11,none⟩=some p11
 e2x12:W.cell? ⟨w.heap.size+1+1,12,none⟩=some p12
 e2x13:W.cell? ⟨w.heap.size+1+1,13,none⟩=some p13
 f2: ∀j,W.frozen? ⟨w.heap.size+1+1,j,none⟩=false
 le:w.heap.size+1+1+1<=W.heap.size
 bel:Below w.heap.size w W
theorem Flo.start (w:World) (m0 m1 m2 m3 m4 m5 n0 n1 p0 p1 p2 p3 p4 p5 p6 p7 p8 p9 p10 p11 p12 p13:Value) (t0 t1 t2:TypeId):Flo w m0 m1 m2 m3 m4 m5 n0 n1 p0 p1 p2 p3 p4 p5 p6 p7 p8 p9 p10 p11 p12 p13 (((w.alloc (.cells #[m0,m1,m2,m3,m4,m5] t0)).alloc (.cells #[n0,n1] t1)).alloc (.cells #[p0,p1,p2,p3,p4,p5,p6,p7,p8,p9,p10,p11,p12,p13] t2)):=by
 constructor<;>first|exact (((ζc _ _).trans ((ζc _ _).mono (by simp<;>omega))).trans ((ζc _ _).mono (by simp<;>omega)))|simp [go_sem]
theorem Flo.later {W':World} (h:Flo w m0 m1 m2 m3 m4 m5 n0 n1 p0 p1 p2 p3 p4 p5 p6 p7 p8 p9 p10 p11 p12 p13 W) (hb:Below W.heap.size W W'):Flo w m0 m1 m2 m3 m4 m5 n0 n1 p0 p1 p2 p3 p4 p5 p6 p7 p8 p9 p10 p11 p12 p13 W':=by
 have q:=h.le
 have z:=h.bel.trans (hb.mono h.bel.size)
 cases h
 constructor<;>first|exact ((ζj hb).1 _ _ (by omega)).trans (by with_reducible assumption)|exact z|exact Nat.le_trans q hb.size| (intro j;exact ((ζj hb).2 _ _ (by omega)).trans (by apply_assumption))
theorem Flo.set2 (h:Flo w m0 m1 m2 m3 m4 m5 n0 n1 p0 p1 p2 p3 p4 p5 p6 p7 p8 p9 p10 p11 p12 p13 W) (v0 v1 v2 v3 v4 v5 v6 v7 v8 v9 v10 v11 v12 v13:Value):Flo w m0 m1 m2 m3 m4 m5 n0 n1 v0 v1 v2 v3 v4 v5 v6 v7 v8 v9 v10 v11 v12 v13 ((((((((((((((W.setCell ⟨w.heap.size+1+1,0,none⟩ v0).setCell ⟨w.heap.size+1+1,1,none⟩ v1).setCell ⟨w.heap.size+1+1,2,none⟩ v2).setCell ⟨w.heap.size+1+1,3,none⟩ v3).setCell ⟨w.heap.size+1+1,4,none⟩ v4).setCell ⟨w.heap.size+1+1,5,none⟩ v5).setCell ⟨w.heap.size+1+1,6,none⟩ v6).setCell ⟨w.heap.size+1+1,7,none⟩ v7).setCell ⟨w.heap.size+1+1,8,none⟩ v8).setCell ⟨w.heap.size+1+1,9,none⟩ v9).setCell ⟨w.heap.size+1+1,10,none⟩ v10).setCell ⟨w.heap.size+1+1,11,none⟩ v11).setCell ⟨w.heap.size+1+1,12,none⟩ v12).setCell ⟨w.heap.size+1+1,13,none⟩ v13):=by
 have hle:=h.le
 constructor<;>first|exact ((((((((((((((h.bel.setCell (by simp<;>omega) _).setCell (by simp<;>omega) _).setCell (by simp<;>omega) _).setCell (by simp<;>omega) _).setCell (by simp<;>omega) _).setCell (by simp<;>omega) _).setCell (by simp<;>omega) _).setCell (by simp<;>omega) _).setCell (by simp<;>omega) _).setCell (by simp<;>omega) _).setCell (by simp<;>omega) _).setCell (by simp<;>omega) _).setCell (by simp<;>omega) _).setCell (by simp<;>omega) _)| (cases h;simp [go_sem, *])
theorem Flo.s {w':World} (h:Flo w m0 m1 m2 m3 m4 m5 n0 n1 p0 p1 p2 p3 p4 p5 p6 p7 p8 p9 p10 p11 p12 p13 w'):w'.cell? ⟨w.heap.size,0,none⟩=some m0∧w'.cell? ⟨w.heap.size,1,none⟩=some m1∧w'.cell? ⟨w.heap.size,2,none⟩=some m2∧w'.cell? ⟨w.heap.size,3,none⟩=some m3∧w'.cell? ⟨w.heap.size,4,none⟩=some m4∧w'.cell? ⟨w.heap.size,5,none⟩=some m5∧w'.cell? ⟨w.heap.size+1,0,none⟩=some n0∧w'.cell? ⟨w.heap.size+1,1,none⟩=some n1:=⟨h.e0x0,h.e0x1,h.e0x2,h.e0x3,h.e0x4,h.e0x5,h.e1x0,h.e1x1⟩
theorem σa (d0 d1:Nat) (s0 s1 s2 s3 s4 s5:Int) (w:World) (hd:ζu (.agg #[d0,d1]) 0 0 1 1) (h0:Cor s0) (h1:Cor s1) (h2:Cor s2) (h3:Cor s3) (h4:Cor s4) (h5:Cor s5):
 Calls prog 77 #[.agg #[s0,s1,s2,s3,s4,s5],.agg #[d0,d1]] w fun o w'=>ηo w 1 (pv s0 s1 s2) (pv s3 s4 s5) o w':=by
 go_enter func77,ntmps77
 go_wp2_with fail
 obtain ⟨W0,hW0⟩: ∃V0,V0=(((w.alloc (.cells #[s0,s1,s2,s3,s4,s5] 39)).alloc (.cells #[d0,d1] 86)).alloc (.cells #[oOo,oOo,oOo,oOo,oOo,oOo,oOo,oOo,oOo,oOo,oOo,oOo,oOo,oOo] 90)):=⟨_,rfl⟩
 rw [<-hW0]
 have FR:Hid (Flo w s0 s1 s2 s3 s4 s5 d0 d1 oOo oOo oOo oOo oOo oOo oOo oOo oOo oOo oOo oOo oOo oOo W0):=by rw [hW0];exact Flo.start w _ _ _ _ _ _ _ _ _ _ _ _ _ _ _ _ _ _ _ _ _ _ _ _ _
 clear hW0
 have hst:=ζY
 have F0:Flo w s0 s1 s2 s3 s4 s5 d0 d1 oOo oOo oOo oOo oOo oOo oOo oOo oOo oOo oOo oOo oOo oOo W0.drew:=FR.out.later (Below.refl _ _).drew
 go_region_held3 (fun w'=>w'.cell? ⟨w.heap.size,0,none⟩=some ↑s0∧w'.cell? ⟨w.heap.size,1,none⟩=some ↑s1∧w'.cell? ⟨w.heap.size,2,none⟩=some ↑s2∧w'.cell? ⟨w.heap.size,3,none⟩=some ↑s3∧w'.cell? ⟨w.heap.size,4,none⟩=some ↑s4∧w'.cell? ⟨w.heap.size,5,none⟩=some ↑s5∧w'.cell? ⟨w.heap.size+1,0,none⟩=some ↑d0∧w'.cell? ⟨w.heap.size+1,1,none⟩=some ↑d1)
  (first|with_reducible exact (F2.set2 _ _ _ _ _ _ _ _ _ _ _ _ _ _).s|with_reducible exact Flo.s (by with_reducible assumption))
  (first
   |(have hBB:=hB1;clear hBB;go_at_call 121;refine (ξI s3 s4 s5 _ h3 h4 h5).mono ?_;rintro o w2 ⟨v2,rfl,hv2,hb2⟩;have HV2:Hid (ξc v2 1 128 1 (cor s3) (cor s4) (cor s5)):=hv2;obtain ⟨m2_0,m2_1,m2_2,m2_3,m2_4,m2_5,rfl,_,_,_⟩:=hv2;have hB2:Below W0.heap.size W0 w2:=hB1.trans (hb2.mono hB1.size);have F2:Flo w s0 s1 s2 s3 s4 s5 d0 d1 oOo oOo oOo oOo oOo oOo oOo oOo oOo oOo oOo oOo oOo oOo w2:=FR.out.later hB2;have r0:=F2.e2x0;have r1:=F2.e2x1;have r2:=F2.e2x2;have r3:=F2.e2x3;have r4:=F2.e2x4;have r5:=F2.e2x5;have r6:=F2.e2x6;have r7:=F2.e2x7;have r8:=F2.e2x8;have r9:=F2.e2x9;have r10:=F2.e2x10;have r11:=F2.e2x11;have r12:=F2.e2x12;have r13:=F2.e2x13;have rz:=F2.f2)
   |(go_at_call 121;refine (ξI s0 s1 s2 _ h0 h1 h2).mono ?_;rintro o w1 ⟨v1,rfl,hv1,hb1⟩;have HV1:Hid (ξc v1 1 128 1 (cor s0) (cor s1) (cor s2)):=hv1;obtain ⟨m1_0,m1_1,m1_2,m1_3,m1_4,m1_5,rfl,_,_,_⟩:=hv1;have hB1:Below W0.heap.size W0 w1:=(Below.refl _ _).drew.trans hb1;have F1:Flo w s0 s1 s2 s3 s4 s5 d0 d1 oOo oOo oOo oOo oOo oOo oOo oOo oOo oOo oOo oOo oOo oOo w1:=FR.out.later hB1))
 have HF:=Hid.mk F2
 clear hB1 hb1 F1 hB2 hb2 F2 F0
 go_wp2
 refine bodyPost_ret (v:= .agg #[.float .f64 m1_0,.float .f64 m1_1,.float .f64 m1_2,.float .f64 m1_3,.float .f64 m1_4,.float .f64 m1_5,.float .f64 m2_0,.float .f64 m2_1,.float .f64 m2_2,.float .f64 m2_3,.float .f64 m2_4,.float .f64 m2_5,d0,d1]) (by simp [results,results77,go_sem,r0,r1,r2,r3,r4,r5,r6,r7,r8,r9,r10,r11,r12,r13]) rfl ?_
 refine ⟨_,rfl,⟨m1_0,m1_1,m1_2,m1_3,m1_4,m1_5,m2_0,m2_1,m2_2,m2_3,m2_4,m2_5,d0,d1,rfl,HV1.out.up (by decide),HV2.out.up (by decide),hd,by decide⟩,?_⟩
 exact (HF.out.set2 _ _ _ _ _ _ _ _ _ _ _ _ _ _).bel
end Go.Proofs.YtfieffpobgcpmaaGreatDoor
