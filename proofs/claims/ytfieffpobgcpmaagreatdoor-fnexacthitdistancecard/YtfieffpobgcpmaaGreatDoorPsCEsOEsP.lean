import Derived.Test.YtfieffpobgcpmaaGreatDoorPsAPsB
import Derived.Laws.EntriesVeiled
import Derived.Test.YtfieffpobgcpmaaGreatDoorEsMEsJEsN
import Derived.Deep.RegionHeld3
set_option maxRecDepth 100000
set_option maxHeartbeats 32000000
namespace Go.Proofs.YtfieffpobgcpmaaGreatDoor
open Go.RowKit
open Fl (IsF Nr BoundIs Summed absI Est)
structure Fcs (w:World) (m0 m1 m2 m3 m4 m5 m6 m7 m8 m9 m10 m11 m12 m13 m14 m15 m16 m17 m18 m19 m20 m21 m22 m23 m24 m25 m26 m27 n0 p0 q0 q1 q2 q3 q4 q5 q6 q7 q8 r0 r1:Value) (W:World):Prop where
 e0x0:W.cell? ⟨w.heap.size,0,none⟩=some m0
 e0x1:W.cell? ⟨w.heap.size,1,none⟩=some m1
 e0x2:W.cell? ⟨w.heap.size,2,none⟩=some m2
 e0x3:W.cell? ⟨w.heap.size,3,none⟩=some m3
 e0x4:W.cell? ⟨w.heap.size,4,none⟩=some m4
 e0x5:W.cell? ⟨w.heap.size,5,none⟩=some m5
 e0x6:W.cell? ⟨w.heap.size,6,none⟩=some m6
 e0x7:W.cell? ⟨w.heap.size,7,none⟩=some m7
 e0x8:W.cell? ⟨w.heap.size,8,none⟩=some m8
 e0x9:W.cell? ⟨w.heap.size,9,none⟩=some m9
 e0x10:W.cell? ⟨w.heap.size,10,none⟩=some m10
 e0x11:W.cell? ⟨w.heap.size,11,none⟩=some m11
 e0x12:W.cell? ⟨w.heap.size,12,none⟩=some m12
 e0x13:W.cell? ⟨w.heap.size,13,none⟩=some m13
 e0x14:W.cell? ⟨w.heap.size,14,none⟩=some m14
 e0x15:W.cell? ⟨w.heap.size,15,none⟩=some m15
 e0x16:W.cell? ⟨w.heap.size,16,none⟩=some m16
 e0x17:W.cell? ⟨w.heap.size,17,none⟩=some m17
 e0x18:W.cell? ⟨w.heap.size,18,none⟩=some m18
 e0x19:W.cell? ⟨w.heap.size,19,none⟩=some m19
 e0x20:W.cell? ⟨w.heap.size,20,none⟩=some m20
 e0x21:W.cell? ⟨w.heap.size,21,none⟩=some m21
 e0x22:W.cell? ⟨w.heap.size,22,none⟩=some m22
 e0x23:W.cell? ⟨w.heap.size,23,none⟩=some m23
 e0x24:W.cell? ⟨w.heap.size,24,none⟩=some m24
 e0x25:W.cell? ⟨w.heap.size,25,none⟩=some m25
 e0x26:W.cell? ⟨w.heap.size,26,none⟩=some m26
 e0x27:W.cell? ⟨w.heap.size,27,none⟩=some m27
 f0: ∀j,W.frozen? ⟨w.heap.size,j,none⟩=false
 e1x0:W.cell? ⟨w.heap.size+1,0,none⟩=some n0
 f1: ∀j,W.frozen? ⟨w.heap.size+1,j,none⟩=false
 e2x0:W.cell? ⟨w.heap.size+1+1,0,none⟩=some p0
 f2: ∀j,W.frozen? ⟨w.heap.size+1+1,j,none⟩=false
 e3x0:W.cell? ⟨w.heap.size+1+1+1,0,none⟩=some q0
 e3x1:W.cell? ⟨w.heap.size+1+1+1,1,none⟩=some q1
 e3x2:W.cell? ⟨w.heap.size+1+1+1,2,none⟩=some q2
 e3x3:W.cell? ⟨w.heap.size+1+1+1,3,none⟩=some q3
 e3x4:W.cell? ⟨w.heap.size+1+1+1,4,none⟩=some q4
 e3x5:W.cell? ⟨w.heap.size+1+1+1,5,none⟩=some q5
 e3x6:W.cell? ⟨w.heap.size+1+1+1,6,none⟩=some q6
 e3x7:W.cell? ⟨w.heap.size+1+1+1,7,none⟩=some q7
 e3x8:W.cell? ⟨w.heap.size+1+1+1,8,none⟩=some q8
 f3: ∀j,W.frozen? ⟨w.heap.size+1+1+1,j,none⟩=false
 e4x0:W.cell? ⟨w.heap.size+1+1+1+1,0,none⟩=some r0
 e4x1:W.cell? ⟨w.heap.size+1+1+1+1,1,none⟩=some r1
 f4: ∀j,W.frozen? ⟨w.heap.size+1+1+1+1,j,none⟩=false
 le:w.heap.size+1+1+1+1+1≤W.heap.size
 bel:Below w.heap.size w W
theorem Fcs.start (w:World) (m0 m1 m2 m3 m4 m5 m6 m7 m8 m9 m10 m11 m12 m13 m14 m15 m16 m17 m18 m19 m20 m21 m22 m23 m24 m25 m26 m27 n0 p0 q0 q1 q2 q3 q4 q5 q6 q7 q8 r0 r1:Value) (t0 t1 t2 t3 t4:TypeId):Fcs w m0 m1 m2 m3 m4 m5 m6 m7 m8 m9 m10 m11 m12 m13 m14 m15 m16 m17 m18 m19 m20 m21 m22 m23 m24 m25 m26 m27 n0 p0 q0 q1 q2 q3 q4 q5 q6 q7 q8 r0 r1 (((((w.alloc (.cells #[m0,m1,m2,m3,m4,m5,m6,m7,m8,m9,m10,m11,m12,m13,m14,m15,m16,m17,m18,m19,m20,m21,m22,m23,m24,m25,m26,m27] t0)).alloc (.cells #[n0] t1)).alloc (.cells #[p0] t2)).alloc (.cells #[q0,q1,q2,q3,q4,q5,q6,q7,q8] t3)).alloc (.cells #[r0,r1] t4)):=by
 constructor<;>first|exact (((((bel0 _ _).trans ((bel0 _ _).mono (by simp<;>omega))).trans ((bel0 _ _).mono (by simp<;>omega))).trans ((bel0 _ _).mono (by simp<;>omega))).trans ((bel0 _ _).mono (by simp<;>omega)))|simp [go_sem]
theorem Fcs.later {w:World} {m0 m1 m2 m3 m4 m5 m6 m7 m8 m9 m10 m11 m12 m13 m14 m15 m16 m17 m18 m19 m20 m21 m22 m23 m24 m25 m26 m27 n0 p0 q0 q1 q2 q3 q4 q5 q6 q7 q8 r0 r1:Value} {W W':World} (h:Fcs w m0 m1 m2 m3 m4 m5 m6 m7 m8 m9 m10 m11 m12 m13 m14 m15 m16 m17 m18 m19 m20 m21 m22 m23 m24 m25 m26 m27 n0 p0 q0 q1 q2 q3 q4 q5 q6 q7 q8 r0 r1 W) (hb:Below W.heap.size W W'):Fcs w m0 m1 m2 m3 m4 m5 m6 m7 m8 m9 m10 m11 m12 m13 m14 m15 m16 m17 m18 m19 m20 m21 m22 m23 m24 m25 m26 m27 n0 p0 q0 q1 q2 q3 q4 q5 q6 q7 q8 r0 r1 W':=by
 have q:=h.le
 have z:=h.bel.trans (hb.mono h.bel.size)
 cases h
 constructor<;>first|exact ((bcell hb).1 _ _ (by omega)).trans (by with_reducible assumption)|exact z|exact Nat.le_trans q hb.size| (intro j;exact ((bcell hb).2 _ _ (by omega)).trans (by apply_assumption))
theorem callC1 (args:Array Value) (w:World):(callFunc 157 args).run Tryz.prog w= .ok (.enter 157 args) w:=by kernel_rfl
theorem callC2 (args:Array Value) (w:World):(callFunc 158 args).run Tryz.prog w= .ok (.enter 158 args) w:=by kernel_rfl
theorem signC_any (n m:Nat) (l0 l1 l2 l3 l4 l5 l6 l7 l8 l9 l10 l11 l12 l13 l14 l15 l16 l17 l18 l19 l20 l21 l22 l23 l24 l25 l26 l27:Value) (t0 t1 t2 t3 t4 t5 t6 t7 t8:Int) (k e f:Nat) (A:Int) (w:World) (hf: ∀(args:Array Value) (w:World),(callFunc n args).run Tryz.prog w= .ok (.enter n args) w) (hg: ∀(args:Array Value) (w:World),(callFunc m args).run Tryz.prog w= .ok (.enter m args) w) (hk:f≤3000)
 (hq: ∀w',Below w.heap.size w w'→Calls Tryz.prog n #[.agg #[l0,l1,l2,l3,l4,l5,l6,l7,l8,l9,l10,l11,l12,l13],.agg #[t0,t1,t2,t3,t4,t5,t6,t7,t8]] w' fun o w''=>EstOut w' k e A o w'') (hx: ∀w',Below w.heap.size w w'→Calls Tryz.prog m #[.agg #[l14,l15,l16,l17,l18,l19,l20,l21,l22,l23,l24,l25,l26,l27],.agg #[t0,t1,t2,t3,t4,t5,t6,t7,t8]] w' fun o w''=>BigIsOut w' f A o w''):
 Calls Tryz.prog 123 #[.agg #[l0,l1,l2,l3,l4,l5,l6,l7,l8,l9,l10,l11,l12,l13,l14,l15,l16,l17,l18,l19,l20,l21,l22,l23,l24,l25,l26,l27],.func (.func n) #[] #[],.func (.func m) #[] #[],.agg #[t0,t1,t2,t3,t4,t5,t6,t7,t8]] w fun o w'=>o= .returned (.int .i64 (sgn A))∧Below w.heap.size w w':=by
 have HQ:Hid (∀w',Below w.heap.size w w'→Calls Tryz.prog n #[.agg #[l0,l1,l2,l3,l4,l5,l6,l7,l8,l9,l10,l11,l12,l13],.agg #[t0,t1,t2,t3,t4,t5,t6,t7,t8]] w' fun o w''=>EstOut w' k e A o w''):=hq
 have HX:Hid (∀w',Below w.heap.size w w'→Calls Tryz.prog m #[.agg #[l14,l15,l16,l17,l18,l19,l20,l21,l22,l23,l24,l25,l26,l27],.agg #[t0,t1,t2,t3,t4,t5,t6,t7,t8]] w' fun o w''=>BigIsOut w' f A o w''):=hx
 clear hq hx
 have HF0:Hid (∀s0 s1 s2 s3 s4,Fcs w l0 l1 l2 l3 l4 l5 l6 l7 l8 l9 l10 l11 l12 l13 l14 l15 l16 l17 l18 l19 l20 l21 l22 l23 l24 l25 l26 l27 (.func (.func n) #[] #[]) (.func (.func m) #[] #[]) t0 t1 t2 t3 t4 t5 t6 t7 t8 (.func (.func 157) #[] #[.pointer (some ⟨w.heap.size+1,0,none⟩),.pointer (some ⟨w.heap.size,0,none⟩)]) (.func (.func 158) #[] #[.pointer (some ⟨w.heap.size+1+1,0,none⟩),.pointer (some ⟨w.heap.size,0,none⟩)]) (((((w.alloc (.cells #[l0,l1,l2,l3,l4,l5,l6,l7,l8,l9,l10,l11,l12,l13,l14,l15,l16,l17,l18,l19,l20,l21,l22,l23,l24,l25,l26,l27] s0)).alloc (.cells #[.func (.func n) #[] #[]] s1)).alloc (.cells #[.func (.func m) #[] #[]] s2)).alloc (.cells #[t0,t1,t2,t3,t4,t5,t6,t7,t8] s3)).alloc (.cells #[.func (.func 157) #[] #[.pointer (some ⟨w.heap.size+1,0,none⟩),.pointer (some ⟨w.heap.size,0,none⟩)],.func (.func 158) #[] #[.pointer (some ⟨w.heap.size+1+1,0,none⟩),.pointer (some ⟨w.heap.size,0,none⟩)]] s4))):=fun s0 s1 s2 s3 s4=>Fcs.start w _ _ _ _ _ _ _ _ _ _ _ _ _ _ _ _ _ _ _ _ _ _ _ _ _ _ _ _ _ _ _ _ _ _ _ _ _ _ _ _ _ _ _ _ _ _
 go_enter Tryz.func123,Tryz.ntmps123
 go_wp2_with fail
 refine (signP2_any 157 158 (.pointer (some ⟨w.heap.size+1,0,none⟩)) (.pointer (some ⟨w.heap.size,0,none⟩)) (.pointer (some ⟨w.heap.size+1+1,0,none⟩)) (.pointer (some ⟨w.heap.size,0,none⟩)) t0 t1 t2 t3 t4 t5 t6 t7 t8 k e f A _ callC1 callC2 hk ?_ ?_).mono ?_
 ·intro w' hw
  have G:=(HF0.out _ _ _ _ _).later hw
  have hle:=G.le
  exact clo1_any (w.heap.size) (w.heap.size+1) n l0 l1 l2 l3 l4 l5 l6 l7 l8 l9 l10 l11 l12 l13 t0 t1 t2 t3 t4 t5 t6 t7 t8 k e A w' hf (by omega) (by omega) G.e1x0 G.e0x0 G.e0x1 G.e0x2 G.e0x3 G.e0x4 G.e0x5 G.e0x6 G.e0x7 G.e0x8 G.e0x9 G.e0x10 G.e0x11 G.e0x12 G.e0x13 (fun w'' h=>HQ.out w'' (G.bel.trans (h.mono G.bel.size)))
 ·intro w' hw
  have G:=(HF0.out _ _ _ _ _).later hw
  have hle:=G.le
  exact clo2_any (w.heap.size) (w.heap.size+1+1) m l14 l15 l16 l17 l18 l19 l20 l21 l22 l23 l24 l25 l26 l27 t0 t1 t2 t3 t4 t5 t6 t7 t8 f A w' hg (by omega) (by omega) G.e2x0 G.e0x14 G.e0x15 G.e0x16 G.e0x17 G.e0x18 G.e0x19 G.e0x20 G.e0x21 G.e0x22 G.e0x23 G.e0x24 G.e0x25 G.e0x26 G.e0x27 (fun w'' h=>HX.out w'' (G.bel.trans (h.mono G.bel.size)))
 rintro o w1 ⟨rfl,hb1⟩
 have HB:Hid (Below w.heap.size w w1):=((HF0.out _ _ _ _ _).later hb1).bel
 clear hb1 HF0
 go_wp2
 go_ret
 exact ⟨rfl,HB.out⟩
open Fl (IsF Nr BoundIs Summed absI Est)
theorem heightE_any (v:Value) (O D:V3) (t0 t1 t2 t3 t4 t5 t6 t7 t8:Int) (w:World) (hl:LineV v O D) (h0:Cor t0) (h1:Cor t1) (h2:Cor t2) (h3:Cor t3) (h4:Cor t4) (h5:Cor t5) (h6:Cor t6) (h7:Cor t7) (h8:Cor t8):
 Calls Tryz.prog 125 #[v,.agg #[t0,t1,t2,t3,t4,t5,t6,t7,t8]] w fun o w'=>EstOut w 3 420 ((nrm (pv t0 t1 t2) (pv t3 t4 t5) (pv t6 t7 t8)).dot ((pv t0 t1 t2).sub O)) o w':=by
 obtain ⟨l0,l1,l2,l3,l4,l5,l6,l7,l8,l9,l10,l11,l12,l13,rfl,hS,hD,hC⟩:=hl
 go_enter Tryz.func125,Tryz.ntmps125
 go_wp2_with fail
 obtain ⟨W0,hW0⟩: ∃V0,V0=(((w.alloc (.cells #[.float .f64 l0,.float .f64 l1,.float .f64 l2,.float .f64 l3,.float .f64 l4,.float .f64 l5,.float .f64 l6,.float .f64 l7,.float .f64 l8,.float .f64 l9,.float .f64 l10,.float .f64 l11,.float .f64 l12,.float .f64 l13] 90)).alloc (.cells #[t0,t1,t2,t3,t4,t5,t6,t7,t8] 36)).alloc (.cells #[oOo,oOo] 86)):=⟨_,rfl⟩
 rw [←hW0]
 have FR:Hid (Fcl w (.float .f64 l0) (.float .f64 l1) (.float .f64 l2) (.float .f64 l3) (.float .f64 l4) (.float .f64 l5) (.float .f64 l6) (.float .f64 l7) (.float .f64 l8) (.float .f64 l9) (.float .f64 l10) (.float .f64 l11) (.float .f64 l12) (.float .f64 l13) t0 t1 t2 t3 t4 t5 t6 t7 t8 oOo oOo W0):=by rw [hW0];exact Fcl.start w _ _ _ _ _ _ _ _ _ _ _ _ _ _ _ _ _ _ _ _ _ _ _ _ _ _ _ _
 clear hW0
 have hst:=storeF
 have F0:Fcl w (.float .f64 l0) (.float .f64 l1) (.float .f64 l2) (.float .f64 l3) (.float .f64 l4) (.float .f64 l5) (.float .f64 l6) (.float .f64 l7) (.float .f64 l8) (.float .f64 l9) (.float .f64 l10) (.float .f64 l11) (.float .f64 l12) (.float .f64 l13) t0 t1 t2 t3 t4 t5 t6 t7 t8 oOo oOo W0.drew:=FR.out.later (Below.refl _ _).drew
 go_region_held3 (fun w'=>w'.cell? ⟨w.heap.size,0,none⟩=some (.float .f64 l0)∧w'.cell? ⟨w.heap.size,1,none⟩=some (.float .f64 l1)∧w'.cell? ⟨w.heap.size,2,none⟩=some (.float .f64 l2)∧w'.cell? ⟨w.heap.size,3,none⟩=some (.float .f64 l3)∧w'.cell? ⟨w.heap.size,4,none⟩=some (.float .f64 l4)∧w'.cell? ⟨w.heap.size,5,none⟩=some (.float .f64 l5)∧w'.cell? ⟨w.heap.size,6,none⟩=some (.float .f64 l6)∧w'.cell? ⟨w.heap.size,7,none⟩=some (.float .f64 l7)∧w'.cell? ⟨w.heap.size,8,none⟩=some (.float .f64 l8)∧w'.cell? ⟨w.heap.size,9,none⟩=some (.float .f64 l9)∧w'.cell? ⟨w.heap.size,10,none⟩=some (.float .f64 l10)∧w'.cell? ⟨w.heap.size,11,none⟩=some (.float .f64 l11)∧w'.cell? ⟨w.heap.size,12,none⟩=some (.float .f64 l12)∧w'.cell? ⟨w.heap.size,13,none⟩=some (.float .f64 l13)∧w'.cell? ⟨w.heap.size+1,0,none⟩=some ↑t0∧w'.cell? ⟨w.heap.size+1,1,none⟩=some ↑t1∧w'.cell? ⟨w.heap.size+1,2,none⟩=some ↑t2∧w'.cell? ⟨w.heap.size+1,3,none⟩=some ↑t3∧w'.cell? ⟨w.heap.size+1,4,none⟩=some ↑t4∧w'.cell? ⟨w.heap.size+1,5,none⟩=some ↑t5∧w'.cell? ⟨w.heap.size+1,6,none⟩=some ↑t6∧w'.cell? ⟨w.heap.size+1,7,none⟩=some ↑t7∧w'.cell? ⟨w.heap.size+1,8,none⟩=some ↑t8)
  (first|with_reducible exact (F3.set2 _ _).s|with_reducible exact Fcl.s (by with_reducible assumption))
  (first
   |(have hBB:=hB2;clear hBB;go_at_call 161;refine (vdotE_any _ _ 2 1 272 136 (nrm (pv t0 t1 t2) (pv t3 t4 t5) (pv t6 t7 t8)).x (nrm (pv t0 t1 t2) (pv t3 t4 t5) (pv t6 t7 t8)).y (nrm (pv t0 t1 t2) (pv t3 t4 t5) (pv t6 t7 t8)).z ((pv t0 t1 t2).sub O).x ((pv t0 t1 t2).sub O).y ((pv t0 t1 t2).sub O).z _ (by omega) (by omega) HV1.out HV2.out).mono ?_;rintro o w3 ⟨v3,rfl,hv3,hb3⟩;have HV3:Hid (EstIs v3 3 420 ((nrm (pv t0 t1 t2) (pv t3 t4 t5) (pv t6 t7 t8)).dot ((pv t0 t1 t2).sub O))):=hv3;obtain ⟨m3,n3,_,_,rfl,_,_,_⟩:=hv3;have hB3:Below W0.heap.size W0 w3:=hB2.trans (hb3.mono hB2.size);have F3:Fcl w (.float .f64 l0) (.float .f64 l1) (.float .f64 l2) (.float .f64 l3) (.float .f64 l4) (.float .f64 l5) (.float .f64 l6) (.float .f64 l7) (.float .f64 l8) (.float .f64 l9) (.float .f64 l10) (.float .f64 l11) (.float .f64 l12) (.float .f64 l13) t0 t1 t2 t3 t4 t5 t6 t7 t8 oOo oOo w3:=FR.out.later hB3;have r0:=F3.e2x0;have r1:=F3.e2x1;have rz:=F3.f2)
   |(have hBB:=hB1;clear hBB;go_at_call 162;refine (toE_any _ O.x O.y O.z D.x D.y D.z t0 t1 t2 _ ⟨l0,l1,l2,l3,l4,l5,l6,l7,l8,l9,l10,l11,l12,l13,rfl,hS,hD,hC⟩ h0 h1 h2).mono ?_;rintro o w2 ⟨v2,rfl,hv2,hb2⟩;have HV2:Hid (VecE v2 1 136 ((pv t0 t1 t2).sub O).x ((pv t0 t1 t2).sub O).y ((pv t0 t1 t2).sub O).z):=hv2;obtain ⟨m2_0,m2_1,m2_2,m2_3,m2_4,m2_5,rfl,_,_,_⟩:=hv2;have hB2:Below W0.heap.size W0 w2:=hB1.trans (hb2.mono hB1.size);have F2:Fcl w (.float .f64 l0) (.float .f64 l1) (.float .f64 l2) (.float .f64 l3) (.float .f64 l4) (.float .f64 l5) (.float .f64 l6) (.float .f64 l7) (.float .f64 l8) (.float .f64 l9) (.float .f64 l10) (.float .f64 l11) (.float .f64 l12) (.float .f64 l13) t0 t1 t2 t3 t4 t5 t6 t7 t8 oOo oOo w2:=FR.out.later hB2)
   |(go_at_call 160;refine (normalE_any t0 t1 t2 t3 t4 t5 t6 t7 t8 _ h0 h1 h2 h3 h4 h5 h6 h7 h8).mono ?_;rintro o w1 ⟨v1,rfl,hv1,hb1⟩;have HV1:Hid (VecE v1 2 272 (nrm (pv t0 t1 t2) (pv t3 t4 t5) (pv t6 t7 t8)).x (nrm (pv t0 t1 t2) (pv t3 t4 t5) (pv t6 t7 t8)).y (nrm (pv t0 t1 t2) (pv t3 t4 t5) (pv t6 t7 t8)).z):=hv1;obtain ⟨m1_0,m1_1,m1_2,m1_3,m1_4,m1_5,rfl,_,_,_⟩:=hv1;have hB1:Below W0.heap.size W0 w1:=(Below.refl _ _).drew.trans hb1;have F1:Fcl w (.float .f64 l0) (.float .f64 l1) (.float .f64 l2) (.float .f64 l3) (.float .f64 l4) (.float .f64 l5) (.float .f64 l6) (.float .f64 l7) (.float .f64 l8) (.float .f64 l9) (.float .f64 l10) (.float .f64 l11) (.float .f64 l12) (.float .f64 l13) t0 t1 t2 t3 t4 t5 t6 t7 t8 oOo oOo w1:=FR.out.later hB1))
 have HF:Hid (Fcl w (.float .f64 l0) (.float .f64 l1) (.float .f64 l2) (.float .f64 l3) (.float .f64 l4) (.float .f64 l5) (.float .f64 l6) (.float .f64 l7) (.float .f64 l8) (.float .f64 l9) (.float .f64 l10) (.float .f64 l11) (.float .f64 l12) (.float .f64 l13) t0 t1 t2 t3 t4 t5 t6 t7 t8 oOo oOo w3):=F3
 clear hB1 hb1 F1 hB2 hb2 F2 hB3 hb3 F3 F0
 go_wp2
 refine bodyPost_ret (v:= .agg #[.float .f64 m3,.float .f64 n3]) (by simp [results,Tryz.results125,go_sem,r0,r1]) rfl ?_
 refine ⟨_,rfl,HV3.out,?_⟩
 exact (HF.out.set2 _ _).bel
open Fl (IsF Nr BoundIs Summed absI Est)
theorem turnE_any (v:Value) (O D:V3) (t0 t1 t2 t3 t4 t5 t6 t7 t8:Int) (w:World) (hl:LineV v O D) (h0:Cor t0) (h1:Cor t1) (h2:Cor t2) (h3:Cor t3) (h4:Cor t4) (h5:Cor t5):
 Calls Tryz.prog 127 #[v,.agg #[t0,t1,t2,t3,t4,t5,t6,t7,t8]] w fun o w'=>EstOut w 3 420 (D.dot (((pv t0 t1 t2).sub O).cross ((pv t3 t4 t5).sub O))) o w':=by
 obtain ⟨l0,l1,l2,l3,l4,l5,l6,l7,l8,l9,l10,l11,l12,l13,rfl,hS,hD,hC⟩:=hl
 go_enter Tryz.func127,Tryz.ntmps127
 go_wp2_with fail
 obtain ⟨W0,hW0⟩: ∃V0,V0=(((w.alloc (.cells #[.float .f64 l0,.float .f64 l1,.float .f64 l2,.float .f64 l3,.float .f64 l4,.float .f64 l5,.float .f64 l6,.float .f64 l7,.float .f64 l8,.float .f64 l9,.float .f64 l10,.float .f64 l11,.float .f64 l12,.float .f64 l13] 90)).alloc (.cells #[t0,t1,t2,t3,t4,t5,t6,t7,t8] 36)).alloc (.cells #[oOo,oOo] 86)):=⟨_,rfl⟩
 rw [←hW0]
 have FR:Hid (Fcl w (.float .f64 l0) (.float .f64 l1) (.float .f64 l2) (.float .f64 l3) (.float .f64 l4) (.float .f64 l5) (.float .f64 l6) (.float .f64 l7) (.float .f64 l8) (.float .f64 l9) (.float .f64 l10) (.float .f64 l11) (.float .f64 l12) (.float .f64 l13) t0 t1 t2 t3 t4 t5 t6 t7 t8 oOo oOo W0):=by rw [hW0];exact Fcl.start w _ _ _ _ _ _ _ _ _ _ _ _ _ _ _ _ _ _ _ _ _ _ _ _ _ _ _ _
 clear hW0
 have hst:=storeF
 have F0:Fcl w (.float .f64 l0) (.float .f64 l1) (.float .f64 l2) (.float .f64 l3) (.float .f64 l4) (.float .f64 l5) (.float .f64 l6) (.float .f64 l7) (.float .f64 l8) (.float .f64 l9) (.float .f64 l10) (.float .f64 l11) (.float .f64 l12) (.float .f64 l13) t0 t1 t2 t3 t4 t5 t6 t7 t8 oOo oOo W0.drew:=FR.out.later (Below.refl _ _).drew
 go_region_held3 (fun w'=>w'.cell? ⟨w.heap.size,0,none⟩=some (.float .f64 l0)∧w'.cell? ⟨w.heap.size,1,none⟩=some (.float .f64 l1)∧w'.cell? ⟨w.heap.size,2,none⟩=some (.float .f64 l2)∧w'.cell? ⟨w.heap.size,3,none⟩=some (.float .f64 l3)∧w'.cell? ⟨w.heap.size,4,none⟩=some (.float .f64 l4)∧w'.cell? ⟨w.heap.size,5,none⟩=some (.float .f64 l5)∧w'.cell? ⟨w.heap.size,6,none⟩=some (.float .f64 l6)∧w'.cell? ⟨w.heap.size,7,none⟩=some (.float .f64 l7)∧w'.cell? ⟨w.heap.size,8,none⟩=some (.float .f64 l8)∧w'.cell? ⟨w.heap.size,9,none⟩=some (.float .f64 l9)∧w'.cell? ⟨w.heap.size,10,none⟩=some (.float .f64 l10)∧w'.cell? ⟨w.heap.size,11,none⟩=some (.float .f64 l11)∧w'.cell? ⟨w.heap.size,12,none⟩=some (.float .f64 l12)∧w'.cell? ⟨w.heap.size,13,none⟩=some (.float .f64 l13)∧w'.cell? ⟨w.heap.size+1,0,none⟩=some ↑t0∧w'.cell? ⟨w.heap.size+1,1,none⟩=some ↑t1∧w'.cell? ⟨w.heap.size+1,2,none⟩=some ↑t2∧w'.cell? ⟨w.heap.size+1,3,none⟩=some ↑t3∧w'.cell? ⟨w.heap.size+1,4,none⟩=some ↑t4∧w'.cell? ⟨w.heap.size+1,5,none⟩=some ↑t5∧w'.cell? ⟨w.heap.size+1,6,none⟩=some ↑t6∧w'.cell? ⟨w.heap.size+1,7,none⟩=some ↑t7∧w'.cell? ⟨w.heap.size+1,8,none⟩=some ↑t8)
  (first|with_reducible exact (F4.set2 _ _).s|with_reducible exact Fcl.s (by with_reducible assumption))
  (first
   |(have hBB:=hB3;clear hBB;go_at_call 161;refine (vdotE_any _ _ 1 2 128 280 D.x D.y D.z (((pv t0 t1 t2).sub O).cross ((pv t3 t4 t5).sub O)).x (((pv t0 t1 t2).sub O).cross ((pv t3 t4 t5).sub O)).y (((pv t0 t1 t2).sub O).cross ((pv t3 t4 t5).sub O)).z _ (by omega) (by omega) hD HV3.out).mono ?_;rintro o w4 ⟨v4,rfl,hv4,hb4⟩;have HV4:Hid (EstIs v4 3 420 (D.dot (((pv t0 t1 t2).sub O).cross ((pv t3 t4 t5).sub O)))):=hv4;obtain ⟨m4,n4,_,_,rfl,_,_,_⟩:=hv4;have hB4:Below W0.heap.size W0 w4:=hB3.trans (hb4.mono hB3.size);have F4:Fcl w (.float .f64 l0) (.float .f64 l1) (.float .f64 l2) (.float .f64 l3) (.float .f64 l4) (.float .f64 l5) (.float .f64 l6) (.float .f64 l7) (.float .f64 l8) (.float .f64 l9) (.float .f64 l10) (.float .f64 l11) (.float .f64 l12) (.float .f64 l13) t0 t1 t2 t3 t4 t5 t6 t7 t8 oOo oOo w4:=FR.out.later hB4;have r0:=F4.e2x0;have r1:=F4.e2x1;have rz:=F4.f2)
   |(have hBB:=hB2;clear hBB;go_at_call 165;refine (vcrossE_any _ _ 1 1 136 136 ((pv t0 t1 t2).sub O).x ((pv t0 t1 t2).sub O).y ((pv t0 t1 t2).sub O).z ((pv t3 t4 t5).sub O).x ((pv t3 t4 t5).sub O).y ((pv t3 t4 t5).sub O).z _ (by omega) (by omega) HV1.out HV2.out).mono ?_;rintro o w3 ⟨v3,rfl,hv3,hb3⟩;have HV3:Hid (VecE v3 2 280 (((pv t0 t1 t2).sub O).cross ((pv t3 t4 t5).sub O)).x (((pv t0 t1 t2).sub O).cross ((pv t3 t4 t5).sub O)).y (((pv t0 t1 t2).sub O).cross ((pv t3 t4 t5).sub O)).z):=hv3;obtain ⟨m3_0,m3_1,m3_2,m3_3,m3_4,m3_5,rfl,_,_,_⟩:=hv3;have hB3:Below W0.heap.size W0 w3:=hB2.trans (hb3.mono hB2.size);have F3:Fcl w (.float .f64 l0) (.float .f64 l1) (.float .f64 l2) (.float .f64 l3) (.float .f64 l4) (.float .f64 l5) (.float .f64 l6) (.float .f64 l7) (.float .f64 l8) (.float .f64 l9) (.float .f64 l10) (.float .f64 l11) (.float .f64 l12) (.float .f64 l13) t0 t1 t2 t3 t4 t5 t6 t7 t8 oOo oOo w3:=FR.out.later hB3)
   |(have hBB:=hB1;clear hBB;go_at_call 162;refine (toE_any _ O.x O.y O.z D.x D.y D.z t3 t4 t5 _ ⟨l0,l1,l2,l3,l4,l5,l6,l7,l8,l9,l10,l11,l12,l13,rfl,hS,hD,hC⟩ h3 h4 h5).mono ?_;rintro o w2 ⟨v2,rfl,hv2,hb2⟩;have HV2:Hid (VecE v2 1 136 ((pv t3 t4 t5).sub O).x ((pv t3 t4 t5).sub O).y ((pv t3 t4 t5).sub O).z):=hv2;obtain ⟨m2_0,m2_1,m2_2,m2_3,m2_4,m2_5,rfl,_,_,_⟩:=hv2;have hB2:Below W0.heap.size W0 w2:=hB1.trans (hb2.mono hB1.size);have F2:Fcl w (.float .f64 l0) (.float .f64 l1) (.float .f64 l2) (.float .f64 l3) (.float .f64 l4) (.float .f64 l5) (.float .f64 l6) (.float .f64 l7) (.float .f64 l8) (.float .f64 l9) (.float .f64 l10) (.float .f64 l11) (.float .f64 l12) (.float .f64 l13) t0 t1 t2 t3 t4 t5 t6 t7 t8 oOo oOo w2:=FR.out.later hB2)
   |(go_at_call 162;refine (toE_any _ O.x O.y O.z D.x D.y D.z t0 t1 t2 _ ⟨l0,l1,l2,l3,l4,l5,l6,l7,l8,l9,l10,l11,l12,l13,rfl,hS,hD,hC⟩ h0 h1 h2).mono ?_;rintro o w1 ⟨v1,rfl,hv1,hb1⟩;have HV1:Hid (VecE v1 1 136 ((pv t0 t1 t2).sub O).x ((pv t0 t1 t2).sub O).y ((pv t0 t1 t2).sub O).z):=hv1;obtain ⟨m1_0,m1_1,m1_2,m1_3,m1_4,m1_5,rfl,_,_,_⟩:=hv1;have hB1:Below W0.heap.size W0 w1:=(Below.refl _ _).drew.trans hb1;have F1:Fcl w (.float .f64 l0) (.float .f64 l1) (.float .f64 l2) (.float .f64 l3) (.float .f64 l4) (.float .f64 l5) (.float .f64 l6) (.float .f64 l7) (.float .f64 l8) (.float .f64 l9) (.float .f64 l10) (.float .f64 l11) (.float .f64 l12) (.float .f64 l13) t0 t1 t2 t3 t4 t5 t6 t7 t8 oOo oOo w1:=FR.out.later hB1))
 have HF:Hid (Fcl w (.float .f64 l0) (.float .f64 l1) (.float .f64 l2) (.float .f64 l3) (.float .f64 l4) (.float .f64 l5) (.float .f64 l6) (.float .f64 l7) (.float .f64 l8) (.float .f64 l9) (.float .f64 l10) (.float .f64 l11) (.float .f64 l12) (.float .f64 l13) t0 t1 t2 t3 t4 t5 t6 t7 t8 oOo oOo w4):=F4
 clear hB1 hb1 F1 hB2 hb2 F2 hB3 hb3 F3 hB4 hb4 F4 F0
 go_wp2
 refine bodyPost_ret (v:= .agg #[.float .f64 m4,.float .f64 n4]) (by simp [results,Tryz.results127,go_sem,r0,r1]) rfl ?_
 refine ⟨_,rfl,HV4.out,?_⟩
 exact (HF.out.set2 _ _).bel
end Go.Proofs.YtfieffpobgcpmaaGreatDoor
