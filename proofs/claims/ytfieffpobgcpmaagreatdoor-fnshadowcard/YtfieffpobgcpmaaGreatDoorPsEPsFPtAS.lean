import Derived.Test.YtfieffpobgcpmaaGreatDoorPsCToEsQS
import Derived.Test.YtfieffpobgcpmaaGreatDoorWithinToImVS
import Derived.Laws.EntriesVeiled
import Derived.Deep.MidRow
set_option maxRecDepth 100000
set_option maxHeartbeats 32000000
namespace Go.Proofs.YtfieffpobgcpmaaGreatDoor
open Go.RowKit Go.Proofs.Tryz
variable {w W:World} {m0 m1 m2 m3 m4 m5 m6 m7 m8 m9 m10 m11 m12 m13 m14 m15 m16 m17 m18 m19 m20 m21 m22 m23 m24 m25 m26 m27 n0 n1 n2 n3 n4 n5 n6 n7 n8:Value}
theorem ωg (w:World) (t0 t1 t2 t3 t4 t5 t6 t7 t8:Int) (t:TypeId):ζk .u32 (w.alloc (.cells #[t0,t1,t2,t3,t4,t5,t6,t7,t8] t)) (some ⟨w,0,none⟩) [t0,t1,t2,t3,t4,t5,t6,t7,t8]:=by
 refine .inr ⟨w,0,rfl,by simp,?_⟩
 intro j hj
 match j,hj with
 |0,_=>simp [go_sem]
 |1,_=>simp [go_sem]
 |2,_=>simp [go_sem]
 |3,_=>simp [go_sem]
 |4,_=>simp [go_sem]
 |5,_=>simp [go_sem]
 |6,_=>simp [go_sem]
 |7,_=>simp [go_sem]
 |8,_=>simp [go_sem]
theorem νY (args:Array Value) (w:World):(callFunc 163 args).run prog w= .ok (.enter 163 args) w:=by kernel_rfl
theorem νZ (args:Array Value) (w:World):(callFunc 164 args).run prog w= .ok (.enter 164 args) w:=by kernel_rfl
theorem κM (t0 t1 t2 t3 t4 t5 t6 t7 t8:Int) (w:World) (hT:Tab w) (q0:Cor t0) (q1:Cor t1) (q2:Cor t2) (q3:Cor t3) (q4:Cor t4) (q5:Cor t5) (q6:Cor t6) (q7:Cor t7) (q8:Cor t8):
 Calls prog 126 #[.agg #[t0,t1,t2,t3,t4,t5,t6,t7,t8]] w fun o w'=>o= .returned (.tuple #[.bool (sgn ((nrm (pv t0 t1 t2) (pv t3 t4 t5) (pv t6 t7 t8)).dot (nrm (pv t0 t1 t2) (pv t3 t4 t5) (pv t6 t7 t8)))==0),.int .i64 0])∧Below w w w':=by
 have HA:Hid ((List.range 1).all (ξA [t0,t1,t2,t3,t4,t5,t6,t7,t8])=true):=by
  unfold Hid
  simp [ξA,ζa,q0.hf,q1.hf,q2.hf,q3.hf,q4.hf,q5.hf,q6.hf,q7.hf,q8.hf]
 have HU:Hid (U32 [t0,t1,t2,t3,t4,t5,t6,t7,t8]):=by
  intro z hz
  simp at hz
  rcases hz with rfl|rfl|rfl|rfl|rfl|rfl|rfl|rfl|rfl
  ·exact ⟨q0.h0,q0.h1⟩
  ·exact ⟨q1.h0,q1.h1⟩
  ·exact ⟨q2.h0,q2.h1⟩
  ·exact ⟨q3.h0,q3.h1⟩
  ·exact ⟨q4.h0,q4.h1⟩
  ·exact ⟨q5.h0,q5.h1⟩
  ·exact ⟨q6.h0,q6.h1⟩
  ·exact ⟨q7.h0,q7.h1⟩
  ·exact ⟨q8.h0,q8.h1⟩
 go_enter func126,ntmps126
 go_wp2_with fail
 refine (ζU _ 1 1 [t0,t1,t2,t3,t4,t5,t6,t7,t8] _ (by omega) rfl HU.out (by have:=ωg (w.alloc (.cells #[t0,t1,t2,t3,t4,t5,t6,t7,t8] 36)) t0 t1 t2 t3 t4 t5 t6 t7 t8 36;simpa using this)).mono ?_
 rintro o w1 ⟨rfl,hb1⟩
 rw [HA.out]
 have HB1:Hid (Below w w w1):=(ξr _ _ _).trans (hb1.mono (by simp;omega))
 have g0:=(ζj hb1).1 w.heap.size
 have hl1:w.heap.size<w1.heap.size:=by have:=hb1.size;simp at this;omega
 have y0:(w1.alloc (.cells #[.func (.func 163) #[] #[],.func (.func 164) #[] #[]] 211)).cell? ⟨w,0,none⟩=some ↑t0:=((ζj (ζc _ _)).1 _ _ hl1).trans ((g0 0 (by simp;omega)).trans (by simp [go_sem]))
 have y1:(w1.alloc (.cells #[.func (.func 163) #[] #[],.func (.func 164) #[] #[]] 211)).cell? ⟨w,1,none⟩=some ↑t1:=((ζj (ζc _ _)).1 _ _ hl1).trans ((g0 1 (by simp;omega)).trans (by simp [go_sem]))
 have y2:(w1.alloc (.cells #[.func (.func 163) #[] #[],.func (.func 164) #[] #[]] 211)).cell? ⟨w,2,none⟩=some ↑t2:=((ζj (ζc _ _)).1 _ _ hl1).trans ((g0 2 (by simp;omega)).trans (by simp [go_sem]))
 have y3:(w1.alloc (.cells #[.func (.func 163) #[] #[],.func (.func 164) #[] #[]] 211)).cell? ⟨w,3,none⟩=some ↑t3:=((ζj (ζc _ _)).1 _ _ hl1).trans ((g0 3 (by simp;omega)).trans (by simp [go_sem]))
 have y4:(w1.alloc (.cells #[.func (.func 163) #[] #[],.func (.func 164) #[] #[]] 211)).cell? ⟨w,4,none⟩=some ↑t4:=((ζj (ζc _ _)).1 _ _ hl1).trans ((g0 4 (by simp;omega)).trans (by simp [go_sem]))
 have y5:(w1.alloc (.cells #[.func (.func 163) #[] #[],.func (.func 164) #[] #[]] 211)).cell? ⟨w,5,none⟩=some ↑t5:=((ζj (ζc _ _)).1 _ _ hl1).trans ((g0 5 (by simp;omega)).trans (by simp [go_sem]))
 have y6:(w1.alloc (.cells #[.func (.func 163) #[] #[],.func (.func 164) #[] #[]] 211)).cell? ⟨w,6,none⟩=some ↑t6:=((ζj (ζc _ _)).1 _ _ hl1).trans ((g0 6 (by simp;omega)).trans (by simp [go_sem]))
 have y7:(w1.alloc (.cells #[.func (.func 163) #[] #[],.func (.func 164) #[] #[]] 211)).cell? ⟨w,7,none⟩=some ↑t7:=((ζj (ζc _ _)).1 _ _ hl1).trans ((g0 7 (by simp;omega)).trans (by simp [go_sem]))
 have y8:(w1.alloc (.cells #[.func (.func 163) #[] #[],.func (.func 164) #[] #[]] 211)).cell? ⟨w,8,none⟩=some ↑t8:=((ζj (ζc _ _)).1 _ _ hl1).trans ((g0 8 (by simp;omega)).trans (by simp [go_sem]))
 clear hb1 g0 hl1
 go_wp2_with fail
 refine (η1 163 164 t0 t1 t2 t3 t4 t5 t6 t7 t8 4 556 1116 1 ((nrm (pv t0 t1 t2) (pv t3 t4 t5) (pv t6 t7 t8)).dot (nrm (pv t0 t1 t2) (pv t3 t4 t5) (pv t6 t7 t8))) _ νY νZ (by omega) (fun w' _=>θJ t0 t1 t2 t3 t4 t5 t6 t7 t8 w' q0 q1 q2 q3 q4 q5 q6 q7 q8) (fun w' hb=>θK t0 t1 t2 t3 t4 t5 t6 t7 t8 w' (((hT.later HB1.out).later (ζc _ _)).later hb) q0 q1 q2 q3 q4 q5 q6 q7 q8)).mono ?_
 rintro o w2 ⟨rfl,hb2⟩
 have HB2:Hid (Below w w w2):=(HB1.out.trans ((ζc _ _).mono HB1.out.size)).trans (hb2.mono (by have:=HB1.out.size;simp;omega))
 clear hb2 HB1 y0 y1 y2 y3 y4 y5 y6 y7 y8
 go_wp2
 refine bodyPost_ret (v:= .tuple #[.bool (sgn ((nrm (pv t0 t1 t2) (pv t3 t4 t5) (pv t6 t7 t8)).dot (nrm (pv t0 t1 t2) (pv t3 t4 t5) (pv t6 t7 t8)))==0),.int .i64 0]) (by simp [results,results126,go_sem]) rfl ?_
 exact ⟨rfl,HB2.out⟩
structure Fme (w:World) (m0 m1 m2 m3 m4 m5 m6 m7 m8 m9 m10 m11 m12 m13 m14 m15 m16 m17 m18 m19 m20 m21 m22 m23 m24 m25 m26 m27 n0 n1 n2 n3 n4 n5 n6 n7 n8:Value) (W:World):Prop where
 e0x0:W.cell? ⟨w,0,none⟩=some m0
 e0x1:W.cell? ⟨w,1,none⟩=some m1
 e0x2:W.cell? ⟨w,2,none⟩=some m2
 e0x3:W.cell? ⟨w,3,none⟩=some m3
 e0x4:W.cell? ⟨w,4,none⟩=some m4
 e0x5:W.cell? ⟨w,5,none⟩=some m5
 e0x6:W.cell? ⟨w,6,none⟩=some m6
 e0x7:W.cell? ⟨w,7,none⟩=some m7
 e0x8:W.cell? ⟨w,8,none⟩=some m8
 e0x9:W.cell? ⟨w,9,none⟩=some m9
 e0x10:W.cell? ⟨w,10,none⟩=some m10
 e0x11:W.cell? ⟨w,11,none⟩=some m11
 e0x12:W.cell? ⟨w,12,none⟩=some m12
 e0x13:W.cell? ⟨w,13,none⟩=some m13
 e0x14:W.cell? ⟨w,14,none⟩=some m14
 e0x15:W.cell? ⟨w,15,none⟩=some m15
 e0x16:W.cell? ⟨w,16,none⟩=some m16
 e0x17:W.cell? ⟨w,17,none⟩=some m17
 e0x18:W.cell? ⟨w,18,none⟩=some m18
 e0x19:W.cell? ⟨w,19,none⟩=some m19
 e0x20:W.cell? ⟨w,20,none⟩=some m20
 e0x21:W.cell? ⟨w,21,none⟩=some m21
 e0x22:W.cell? ⟨w,22,none⟩=some m22
 e0x23:W.cell? ⟨w,23,none⟩=some m23
 e0x24:W.cell? ⟨w,24,none⟩=some m24
 e0x25:W.cell? ⟨w,25,none⟩=some m25
 e0x26:W.cell? ⟨w,26,none⟩=some m26
 e0x27:W.cell? ⟨w,27,none⟩=some m27
 f0: ∀j,W.frozen? ⟨w,j,none⟩=false
 e1x0:W.cell? ⟨↑w+1,0,none⟩=some n0
 e1x1:W.cell? ⟨↑w+1,1,none⟩=some n1
 e1x2:W.cell? ⟨↑w+1,2,none⟩=some n2
 e1x3:W.cell? ⟨↑w+1,3,none⟩=some n3
 e1x4:W.cell? ⟨↑w+1,4,none⟩=some n4
 e1x5:W.cell? ⟨↑w+1,5,none⟩=some n5
 e1x6:W.cell? ⟨↑w+1,6,none⟩=some n6
 e1x7:W.cell? ⟨↑w+1,7,none⟩=some n7
 e1x8:W.cell? ⟨↑w+1,8,none⟩=some n8
 f1: ∀j,W.frozen? ⟨↑w+1,j,none⟩=false
 le:w.heap.size+1+1<=W.heap.size
 bel:Below w w W
theorem Fme.start (w:World) (m0 m1 m2 m3 m4 m5 m6 m7 m8 m9 m10 m11 m12 m13 m14 m15 m16 m17 m18 m19 m20 m21 m22 m23 m24 m25 m26 m27 n0 n1 n2 n3 n4 n5 n6 n7 n8:Value) (t0 t1:TypeId):Fme w m0 m1 m2 m3 m4 m5 m6 m7 m8 m9 m10 m11 m12 m13 m14 m15 m16 m17 m18 m19 m20 m21 m22 m23 m24 m25 m26 m27 n0 n1 n2 n3 n4 n5 n6 n7 n8 ((w.alloc (.cells #[m0,m1,m2,m3,m4,m5,m6,m7,m8,m9,m10,m11,m12,m13,m14,m15,m16,m17,m18,m19,m20,m21,m22,m23,m24,m25,m26,m27] t0)).alloc (.cells #[n0,n1,n2,n3,n4,n5,n6,n7,n8] t1)):=by
 constructor<;>first|exact ((ζc _ _).trans ((ζc _ _).mono (by simp<;>omega)))|simp [go_sem]
theorem Fme.later {W':World} (h:Fme w m0 m1 m2 m3 m4 m5 m6 m7 m8 m9 m10 m11 m12 m13 m14 m15 m16 m17 m18 m19 m20 m21 m22 m23 m24 m25 m26 m27 n0 n1 n2 n3 n4 n5 n6 n7 n8 W) (hb:Below W W W'):Fme w m0 m1 m2 m3 m4 m5 m6 m7 m8 m9 m10 m11 m12 m13 m14 m15 m16 m17 m18 m19 m20 m21 m22 m23 m24 m25 m26 m27 n0 n1 n2 n3 n4 n5 n6 n7 n8 W':=by
 have q:=h.le
 have z:=h.bel.trans (hb.mono h.bel.size)
 cases h
 constructor<;>first|exact ((ζj hb).1 _ _ (by omega)).trans (by with_reducible assumption)|exact z|exact Nat.le_trans q hb.size| (intro j;exact ((ζj hb).2 _ _ (by omega)).trans (by apply_assumption))
theorem Fme.range (h:Fme w m0 m1 m2 m3 m4 m5 m6 m7 m8 m9 m10 m11 m12 m13 m14 m15 m16 m17 m18 m19 m20 m21 m22 m23 m24 m25 m26 m27 n0 n1 n2 n3 n4 n5 n6 n7 n8 W):W.rangeAt w 0 [m0,m1,m2,m3,m4,m5,m6,m7,m8,m9,m10,m11,m12,m13,m14,m15,m16,m17,m18,m19,m20,m21,m22,m23,m24,m25,m26,m27]:=by
 intro j u hj
 rw [Nat.zero_add]
 match j,hj with
 |0,hj=>cases hj;exact h.e0x0
 |1,hj=>cases hj;exact h.e0x1
 |2,hj=>cases hj;exact h.e0x2
 |3,hj=>cases hj;exact h.e0x3
 |4,hj=>cases hj;exact h.e0x4
 |5,hj=>cases hj;exact h.e0x5
 |6,hj=>cases hj;exact h.e0x6
 |7,hj=>cases hj;exact h.e0x7
 |8,hj=>cases hj;exact h.e0x8
 |9,hj=>cases hj;exact h.e0x9
 |10,hj=>cases hj;exact h.e0x10
 |11,hj=>cases hj;exact h.e0x11
 |12,hj=>cases hj;exact h.e0x12
 |13,hj=>cases hj;exact h.e0x13
 |14,hj=>cases hj;exact h.e0x14
 |15,hj=>cases hj;exact h.e0x15
 |16,hj=>cases hj;exact h.e0x16
 |17,hj=>cases hj;exact h.e0x17
 |18,hj=>cases hj;exact h.e0x18
 |19,hj=>cases hj;exact h.e0x19
 |20,hj=>cases hj;exact h.e0x20
 |21,hj=>cases hj;exact h.e0x21
 |22,hj=>cases hj;exact h.e0x22
 |23,hj=>cases hj;exact h.e0x23
 |24,hj=>cases hj;exact h.e0x24
 |25,hj=>cases hj;exact h.e0x25
 |26,hj=>cases hj;exact h.e0x26
 |27,hj=>cases hj;exact h.e0x27
 |_+28,hj=>simp at hj
def ω8 (up away:Int) (flat:Bool):Value:=
 if up=0 then (if flat=true∨away≠0 then .iface 151 (.agg #[]) else .iface 149 (.agg #[])) else .iface 145 (.agg #[.bool (decide (up*away<0))])
theorem κN (v:Value) (m k:Nat) (S:Int) (O D:V3) (t0 t1 t2 t3 t4 t5 t6 t7 t8:Int) (w:World) (hm:277<=m) (hmk:3*m+2*k<=28000) (hT:Tab w) (hco:ζH w v m k S O D) (q0:Cor t0) (q1:Cor t1) (q2:Cor t2) (q3:Cor t3) (q4:Cor t4) (q5:Cor t5) (q6:Cor t6) (q7:Cor t7) (q8:Cor t8):
 Calls prog 81 #[v,.agg #[t0,t1,t2,t3,t4,t5,t6,t7,t8]] w fun o w'=>o= .returned (ω8 (sgn ((nrm (pv t0 t1 t2) (pv t3 t4 t5) (pv t6 t7 t8)).dot D)) (sgn ((nrm (pv t0 t1 t2) (pv t3 t4 t5) (pv t6 t7 t8)).dot ((V3.sc S (pv t0 t1 t2)).sub O))) (sgn ((nrm (pv t0 t1 t2) (pv t3 t4 t5) (pv t6 t7 t8)).dot (nrm (pv t0 t1 t2) (pv t3 t4 t5) (pv t6 t7 t8)))==0))∧Below w w w':=by
 have hcc:=hco
 obtain ⟨l0,l1,l2,l3,l4,l5,l6,l7,l8,l9,l10,l11,l12,l13,l14,l15,l16,l17,l18,l19,l20,l21,l22,l23,l24,l25,l26,l27,rfl,_,_⟩:=hco
 have HCO:Hid (∀w',Below w w w'->ζH w' (.agg #[l0,l1,l2,l3,l4,l5,l6,l7,l8,l9,l10,l11,l12,l13,l14,l15,l16,l17,l18,l19,l20,l21,l22,l23,l24,l25,l26,l27]) m k S O D):=fun w' hb=>hcc.later hb
 clear hcc
 have HF0:Hid (∀s0 s1,Fme w l0 l1 l2 l3 l4 l5 l6 l7 l8 l9 l10 l11 l12 l13 l14 l15 l16 l17 l18 l19 l20 l21 l22 l23 l24 l25 l26 l27 t0 t1 t2 t3 t4 t5 t6 t7 t8 ((w.alloc (.cells #[l0,l1,l2,l3,l4,l5,l6,l7,l8,l9,l10,l11,l12,l13,l14,l15,l16,l17,l18,l19,l20,l21,l22,l23,l24,l25,l26,l27] s0)).alloc (.cells #[t0,t1,t2,t3,t4,t5,t6,t7,t8] s1))):=fun s0 s1=>Fme.start w _ _ _ _ _ _ _ _ _ _ _ _ _ _ _ _ _ _ _ _ _ _ _ _ _ _ _ _ _ _ _ _ _ _ _ _ _ _ _
 have hr0:=(HF0.out 96 36).range
 go_enter func81,ntmps81
 go_wp2_with (refine wpList_load_mid rfl 96 (.tmp 2) rfl w 0 rfl [l0,l1,l2,l3,l4,l5,l6,l7,l8,l9,l10,l11,l12,l13,l14,l15,l16,l17,l18,l19,l20,l21,l22,l23,l24,l25,l26,l27] _ hr0 underlying96 rfl (by kernel_rfl) ?_)
 refine (ωc _ m k S O D t0 t1 t2 t3 t4 t5 t6 t7 t8 _ hmk (hT.later (HF0.out _ _).bel) (HCO.out _ (HF0.out _ _).bel) q0 q1 q2 q3 q4 q5 q6 q7 q8).mono ?_
 rintro o w1 ⟨rfl,hb1⟩
 have HF1:Hid (Fme w l0 l1 l2 l3 l4 l5 l6 l7 l8 l9 l10 l11 l12 l13 l14 l15 l16 l17 l18 l19 l20 l21 l22 l23 l24 l25 l26 l27 t0 t1 t2 t3 t4 t5 t6 t7 t8 w1):=(HF0.out _ _).later hb1
 have hr1:=HF1.out.range
 clear hb1 HF0 hr0
 obtain ⟨UP,hUP⟩: ∃s,s=sgn ((nrm (pv t0 t1 t2) (pv t3 t4 t5) (pv t6 t7 t8)).dot D):=⟨_,rfl⟩
 rw [<-hUP]
 have HUP:=Hid.mk hUP
 clear hUP
 have z0:=HF1.out.e1x0
 have z1:=HF1.out.e1x1
 have z2:=HF1.out.e1x2
 have z3:=HF1.out.e1x3
 have z4:=HF1.out.e1x4
 have z5:=HF1.out.e1x5
 have z6:=HF1.out.e1x6
 have z7:=HF1.out.e1x7
 have z8:=HF1.out.e1x8
 go_wp2_with (refine wpList_load_mid rfl 96 (.tmp 2) rfl w 0 rfl [l0,l1,l2,l3,l4,l5,l6,l7,l8,l9,l10,l11,l12,l13,l14,l15,l16,l17,l18,l19,l20,l21,l22,l23,l24,l25,l26,l27] _ hr1 underlying96 rfl (by kernel_rfl) ?_)
 refine (χy _ m k S O D t0 t1 t2 t3 t4 t5 t6 t7 t8 _ hm hmk (hT.later HF1.out.bel) (HCO.out _ HF1.out.bel) q0 q1 q2 q3 q4 q5 q6 q7 q8).mono ?_
 rintro o w2 ⟨rfl,hb2⟩
 have HF2:=Hid.mk (HF1.out.later hb2)
 obtain ⟨AW,hAW⟩: ∃s,s=sgn ((nrm (pv t0 t1 t2) (pv t3 t4 t5) (pv t6 t7 t8)).dot ((V3.sc S (pv t0 t1 t2)).sub O)):=⟨_,rfl⟩
 rw [<-hAW]
 have HAW:=Hid.mk hAW
 clear hAW hb2 HF1 hr1 z0 z1 z2 z3 z4 z5 z6 z7 z8
 have ha3:AW= -1∨AW=0∨AW=1:=by rw [HAW.out];rcases sgn_cases ((nrm (pv t0 t1 t2) (pv t3 t4 t5) (pv t6 t7 t8)).dot ((V3.sc S (pv t0 t1 t2)).sub O)) with ⟨_,e⟩| ⟨_,e⟩| ⟨_,e⟩<;>rw [e]<;>simp
 have hu3:UP= -1∨UP=0∨UP=1:=by rw [HUP.out];rcases sgn_cases ((nrm (pv t0 t1 t2) (pv t3 t4 t5) (pv t6 t7 t8)).dot D) with ⟨_,e⟩| ⟨_,e⟩| ⟨_,e⟩<;>rw [e]<;>simp
 rcases hu3 with hu|hu|hu
 ·rcases ha3 with ha|ha|ha
  all_goals
   subst hu ha
   go_wp2
   go_ret
   exact ⟨by rw [<-HUP.out,<-HAW.out];rfl,HF2.out.bel⟩
 ·subst hu
  have z0:=HF2.out.e1x0
  have z1:=HF2.out.e1x1
  have z2:=HF2.out.e1x2
  have z3:=HF2.out.e1x3
  have z4:=HF2.out.e1x4
  have z5:=HF2.out.e1x5
  have z6:=HF2.out.e1x6
  have z7:=HF2.out.e1x7
  have z8:=HF2.out.e1x8
  go_wp2_with fail
  refine (κM t0 t1 t2 t3 t4 t5 t6 t7 t8 _ (hT.later HF2.out.bel) q0 q1 q2 q3 q4 q5 q6 q7 q8).mono ?_
  rintro o w3 ⟨rfl,hb3⟩
  have HB3:Hid (Below w w w3):=HF2.out.bel.trans (hb3.mono HF2.out.bel.size)
  clear hb3 HF2 z0 z1 z2 z3 z4 z5 z6 z7 z8
  obtain ⟨FLT,hFLT⟩: ∃s,s=(sgn ((nrm (pv t0 t1 t2) (pv t3 t4 t5) (pv t6 t7 t8)).dot (nrm (pv t0 t1 t2) (pv t3 t4 t5) (pv t6 t7 t8)))==0):=⟨_,rfl⟩
  rw [<-hFLT]
  have HFL:=Hid.mk hFLT
  clear hFLT
  cases FLT
  ·rcases ha3 with ha|ha|ha
   all_goals
    subst ha
    go_wp2
    go_ret
    exact ⟨by rw [<-HUP.out,<-HAW.out,<-HFL.out];rfl,HB3.out⟩
  ·go_wp2
   go_ret
   exact ⟨by rw [<-HUP.out,<-HFL.out];rfl,HB3.out⟩
 ·rcases ha3 with ha|ha|ha
  all_goals
   subst hu ha
   go_wp2
   go_ret
   exact ⟨by rw [<-HUP.out,<-HAW.out];rfl,HF2.out.bel⟩
theorem ψs (t0 t1 t2 t3 t4 t5 t6 t7 t8:Int) (w:World):Calls prog 129 #[.agg #[t0,t1,t2,t3,t4,t5,t6,t7,t8]] w fun o w'=>o= .returned (.agg #[t3,t4,t5,t6,t7,t8,t0,t1,t2])∧Below w w w':=by
 go_enter func129,ntmps129
 go_wp2
 refine bodyPost_ret (v:= .agg #[t3,t4,t5,t6,t7,t8,t0,t1,t2]) (by simp [results,results129,go_sem]) rfl ?_
 exact ⟨rfl,ξr _ _ _⟩
def loS (s0 s1 s2:Int):Nat->Int
 |0=>0
 |1=>min 0 s0
 |2=>min (min 0 s0) s1
 |_=>min (min (min 0 s0) s1) s2
def hiS (s0 s1 s2:Int):Nat->Int
 |0=>0
 |1=>max 0 s0
 |2=>max (max 0 s0) s1
 |_=>max (max (max 0 s0) s1) s2
def ζW (s0 s1 s2:Int):Bool:= !(decide (loS s0 s1 s2 3<0) && decide (0<hiS s0 s1 s2 3))
theorem φj {s0 s1 s2:Int} {i:Nat} (hi:i<=3) (h1:loS s0 s1 s2 i<0) (h2:0<hiS s0 s1 s2 i):ζW s0 s1 s2=false:=by
 have e1:loS s0 s1 s2 3<0:=by
  rcases (show i=0∨i=1∨i=2∨i=3 by omega) with rfl|rfl|rfl|rfl<;>simp only [loS] at h1⊢ <;>omega
 have e2:0<hiS s0 s1 s2 3:=by
  rcases (show i=0∨i=1∨i=2∨i=3 by omega) with rfl|rfl|rfl|rfl<;>simp only [hiS] at h2⊢ <;>omega
 simp [ζW,e1,e2]
theorem θO {s0 s1 s2:Int} (h: ¬(loS s0 s1 s2 3<0∧0<hiS s0 s1 s2 3)):ζW s0 s1 s2=true:=by
 unfold ζW
 by_cases e:loS s0 s1 s2 3<0
 ·have: ¬0<hiS s0 s1 s2 3:=fun q=>h ⟨e,q⟩
  simp [e,this]
 ·simp [e]
theorem Fme.b1 (h:Fme w m0 m1 m2 m3 m4 m5 m6 m7 m8 m9 m10 m11 m12 m13 m14 m15 m16 m17 m18 m19 m20 m21 m22 m23 m24 m25 m26 m27 n0 n1 n2 n3 n4 n5 n6 n7 n8 W):W.cell? ⟨↑w+1,0,none⟩=some n0∧W.cell? ⟨↑w+1,1,none⟩=some n1∧W.cell? ⟨↑w+1,2,none⟩=some n2∧W.cell? ⟨↑w+1,3,none⟩=some n3∧W.cell? ⟨↑w+1,4,none⟩=some n4∧W.cell? ⟨↑w+1,5,none⟩=some n5∧W.cell? ⟨↑w+1,6,none⟩=some n6∧W.cell? ⟨↑w+1,7,none⟩=some n7∧W.cell? ⟨↑w+1,8,none⟩=some n8:=⟨h.e1x0,h.e1x1,h.e1x2,h.e1x3,h.e1x4,h.e1x5,h.e1x6,h.e1x7,h.e1x8⟩
theorem Fme.set1 {c0x0 c0x1 c0x2 c0x3 c0x4 c0x5 c0x6 c0x7 c0x8 c0x9 c0x10 c0x11 c0x12 c0x13 c0x14 c0x15 c0x16 c0x17 c0x18 c0x19 c0x20 c0x21 c0x22 c0x23 c0x24 c0x25 c0x26 c0x27 c1x0 c1x1 c1x2 c1x3 c1x4 c1x5 c1x6 c1x7 c1x8:Value} (h:Fme w c0x0 c0x1 c0x2 c0x3 c0x4 c0x5 c0x6 c0x7 c0x8 c0x9 c0x10 c0x11 c0x12 c0x13 c0x14 c0x15 c0x16 c0x17 c0x18 c0x19 c0x20 c0x21 c0x22 c0x23 c0x24 c0x25 c0x26 c0x27 c1x0 c1x1 c1x2 c1x3 c1x4 c1x5 c1x6 c1x7 c1x8 W) (v0 v1 v2 v3 v4 v5 v6 v7 v8:Value):Fme w c0x0 c0x1 c0x2 c0x3 c0x4 c0x5 c0x6 c0x7 c0x8 c0x9 c0x10 c0x11 c0x12 c0x13 c0x14 c0x15 c0x16 c0x17 c0x18 c0x19 c0x20 c0x21 c0x22 c0x23 c0x24 c0x25 c0x26 c0x27 v0 v1 v2 v3 v4 v5 v6 v7 v8 (((((((((W.setCell ⟨↑w+1,0,none⟩ v0).setCell ⟨↑w+1,1,none⟩ v1).setCell ⟨↑w+1,2,none⟩ v2).setCell ⟨↑w+1,3,none⟩ v3).setCell ⟨↑w+1,4,none⟩ v4).setCell ⟨↑w+1,5,none⟩ v5).setCell ⟨↑w+1,6,none⟩ v6).setCell ⟨↑w+1,7,none⟩ v7).setCell ⟨↑w+1,8,none⟩ v8):=by
 have hle:=h.le
 refine ⟨?_,?_,?_,?_,?_,?_,?_,?_,?_,?_,?_,?_,?_,?_,?_,?_,?_,?_,?_,?_,?_,?_,?_,?_,?_,?_,?_,?_,fun j=> ?_,?_,?_,?_,?_,?_,?_,?_,?_,?_,fun j=> ?_,by simpa using hle,(((((((((h.bel.setCell (by simp<;>omega) _).setCell (by simp<;>omega) _).setCell (by simp<;>omega) _).setCell (by simp<;>omega) _).setCell (by simp<;>omega) _).setCell (by simp<;>omega) _).setCell (by simp<;>omega) _).setCell (by simp<;>omega) _).setCell (by simp<;>omega) _)⟩
 all_goals simp [go_sem,h.e0x0,h.e0x1,h.e0x2,h.e0x3,h.e0x4,h.e0x5,h.e0x6,h.e0x7,h.e0x8,h.e0x9,h.e0x10,h.e0x11,h.e0x12,h.e0x13,h.e0x14,h.e0x15,h.e0x16,h.e0x17,h.e0x18,h.e0x19,h.e0x20,h.e0x21,h.e0x22,h.e0x23,h.e0x24,h.e0x25,h.e0x26,h.e0x27,h.e1x0,h.e1x1,h.e1x2,h.e1x3,h.e1x4,h.e1x5,h.e1x6,h.e1x7,h.e1x8,h.f0,h.f1]
theorem ηt (v:Value) (m k:Nat) (S:Int) (O D:V3) (t0 t1 t2 t3 t4 t5 t6 t7 t8:Int) (w:World) (hm:277<=m) (hmk:3*m+2*k<=28000) (hT:Tab w) (hco:ζH w v m k S O D) (q0:Cor t0) (q1:Cor t1) (q2:Cor t2) (q3:Cor t3) (q4:Cor t4) (q5:Cor t5) (q6:Cor t6) (q7:Cor t7) (q8:Cor t8):
 Calls prog 82 #[v,.agg #[t0,t1,t2,t3,t4,t5,t6,t7,t8]] w fun o w'=>o= .returned (.bool (ζW (sgn (D.dot (((V3.sc S (pv t0 t1 t2)).sub O).cross ((V3.sc S (pv t3 t4 t5)).sub O)))) (sgn (D.dot (((V3.sc S (pv t3 t4 t5)).sub O).cross ((V3.sc S (pv t6 t7 t8)).sub O)))) (sgn (D.dot (((V3.sc S (pv t6 t7 t8)).sub O).cross ((V3.sc S (pv t0 t1 t2)).sub O))))))∧Below w w w':=by
 have hcc:=hco
 obtain ⟨l0,l1,l2,l3,l4,l5,l6,l7,l8,l9,l10,l11,l12,l13,l14,l15,l16,l17,l18,l19,l20,l21,l22,l23,l24,l25,l26,l27,rfl,_,_⟩:=hco
 have HCO:Hid (∀w',Below w w w'->ζH w' (.agg #[l0,l1,l2,l3,l4,l5,l6,l7,l8,l9,l10,l11,l12,l13,l14,l15,l16,l17,l18,l19,l20,l21,l22,l23,l24,l25,l26,l27]) m k S O D):=fun w' hb=>hcc.later hb
 clear hcc
 obtain ⟨S0,hS0⟩: ∃s,s=sgn (D.dot (((V3.sc S (pv t0 t1 t2)).sub O).cross ((V3.sc S (pv t3 t4 t5)).sub O))):=⟨_,rfl⟩
 obtain ⟨S1,hS1⟩: ∃s,s=sgn (D.dot (((V3.sc S (pv t3 t4 t5)).sub O).cross ((V3.sc S (pv t6 t7 t8)).sub O))):=⟨_,rfl⟩
 obtain ⟨S2,hS2⟩: ∃s,s=sgn (D.dot (((V3.sc S (pv t6 t7 t8)).sub O).cross ((V3.sc S (pv t0 t1 t2)).sub O))):=⟨_,rfl⟩
 rw [<-hS0,<-hS1,<-hS2]
 have HS0:=Hid.mk hS0
 have HS1:=Hid.mk hS1
 have HS2:=Hid.mk hS2
 clear hS0 hS1 hS2
 have HF0:Hid (∀s0 s1,Fme w l0 l1 l2 l3 l4 l5 l6 l7 l8 l9 l10 l11 l12 l13 l14 l15 l16 l17 l18 l19 l20 l21 l22 l23 l24 l25 l26 l27 t0 t1 t2 t3 t4 t5 t6 t7 t8 ((w.alloc (.cells #[l0,l1,l2,l3,l4,l5,l6,l7,l8,l9,l10,l11,l12,l13,l14,l15,l16,l17,l18,l19,l20,l21,l22,l23,l24,l25,l26,l27] s0)).alloc (.cells #[t0,t1,t2,t3,t4,t5,t6,t7,t8] s1))):=fun s0 s1=>Fme.start w _ _ _ _ _ _ _ _ _ _ _ _ _ _ _ _ _ _ _ _ _ _ _ _ _ _ _ _ _ _ _ _ _ _ _ _ _ _ _
 go_enter func82,ntmps82
 go_wp2_with fail
 go_loopw [5,6,7,8] (fun sl sm _ si wr=> ∃(i:Nat) (lo hi:Int),si= .int .i64 i∧sl= .int .i64 lo∧sm= .int .i64 hi∧Hid (lo=loS S0 S1 S2 i)∧Hid (hi=hiS S0 S1 S2 i)∧(lo=0∧hi=0∨lo= -1∧hi=0∨lo=0∧hi=1)∧Hid ((i=0∧Fme w l0 l1 l2 l3 l4 l5 l6 l7 l8 l9 l10 l11 l12 l13 l14 l15 l16 l17 l18 l19 l20 l21 l22 l23 l24 l25 l26 l27 t0 t1 t2 t3 t4 t5 t6 t7 t8 wr)∨(i=1∧Fme w l0 l1 l2 l3 l4 l5 l6 l7 l8 l9 l10 l11 l12 l13 l14 l15 l16 l17 l18 l19 l20 l21 l22 l23 l24 l25 l26 l27 t3 t4 t5 t6 t7 t8 t0 t1 t2 wr)∨(i=2∧Fme w l0 l1 l2 l3 l4 l5 l6 l7 l8 l9 l10 l11 l12 l13 l14 l15 l16 l17 l18 l19 l20 l21 l22 l23 l24 l25 l26 l27 t6 t7 t8 t0 t1 t2 t3 t4 t5 wr)∨(i=3∧Fme w l0 l1 l2 l3 l4 l5 l6 l7 l8 l9 l10 l11 l12 l13 l14 l15 l16 l17 l18 l19 l20 l21 l22 l23 l24 l25 l26 l27 t0 t1 t2 t3 t4 t5 t6 t7 t8 wr))) (fun _ _ _ si _=>3-(intOf si).toNat)
 case atStart=>exact ⟨0,0,0,rfl,rfl,rfl,rfl,rfl,Or.inl ⟨rfl,rfl⟩,Or.inl ⟨rfl,HF0.out _ _⟩⟩
 case round=>
  obtain ⟨i,lo,hi,rfl,rfl,rfl,HLO,HHI,hlh,hinv⟩:=hrel
  rcases hinv.out with ⟨rfl,HG0⟩| ⟨rfl,HG0⟩| ⟨rfl,HG0⟩| ⟨rfl,HG0⟩
  ·have HG:=Hid.mk HG0
   have hr:=HG0.range
   clear HG0 hinv
   have z0:=HG.out.e1x0
   have z1:=HG.out.e1x1
   have z2:=HG.out.e1x2
   have z3:=HG.out.e1x3
   have z4:=HG.out.e1x4
   have z5:=HG.out.e1x5
   have z6:=HG.out.e1x6
   have z7:=HG.out.e1x7
   have z8:=HG.out.e1x8
   go_wp2_with (refine wpList_load_mid rfl 96 (.tmp 2) rfl w 0 rfl [l0,l1,l2,l3,l4,l5,l6,l7,l8,l9,l10,l11,l12,l13,l14,l15,l16,l17,l18,l19,l20,l21,l22,l23,l24,l25,l26,l27] _ hr underlying96 rfl (by kernel_rfl) ?_)
   refine (ψh _ m k S O D t0 t1 t2 t3 t4 t5 t6 t7 t8 _ hm hmk (hT.later HG.out.bel) (HCO.out _ HG.out.bel) q0 q1 q2 q3 q4 q5).mono ?_
   rintro o w1 ⟨rfl,hb1⟩
   have HG1:=Hid.mk (HG.out.later hb1)
   clear hb1 HG hr z0 z1 z2 z3 z4 z5 z6 z7 z8
   rw [<-HS0.out]
   have hs3:S0= -1∨S0=0∨S0=1:=by rw [HS0.out];rcases sgn_cases (D.dot (((V3.sc S (pv t0 t1 t2)).sub O).cross ((V3.sc S (pv t3 t4 t5)).sub O))) with ⟨_,e⟩| ⟨_,e⟩| ⟨_,e⟩<;>rw [e]<;>simp
   have HLO2:Hid (loS S0 S1 S2 1=min lo S0):=by unfold Hid;rw [HLO.out];rfl
   have HHI2:Hid (hiS S0 S1 S2 1=max hi S0):=by unfold Hid;rw [HHI.out];rfl
   rcases hlh with ⟨hl,hh⟩| ⟨hl,hh⟩| ⟨hl,hh⟩<;>rcases hs3 with hs|hs|hs
   all_goals subst hl hh hs
   all_goals first
    |(obtain ⟨z0,z1,z2,z3,z4,z5,z6,z7,z8⟩:=HG1.out.b1
      go_wp2_with fail
      refine (ψs t0 t1 t2 t3 t4 t5 t6 t7 t8 _).mono ?_
      rintro o w2 ⟨rfl,hb2⟩
      have HG2:=Hid.mk (HG1.out.later hb2)
      clear hb2 HG1 z0 z1 z2 z3 z4 z5 z6 z7 z8
      obtain ⟨x0,x1,x2,x3,x4,x5,x6,x7,x8⟩:=HG2.out.b1
      have xf:=HG2.out.f1
      go_wp2
      refine ⟨?_,?_⟩
      ·exact ⟨1,_,_,by simp,rfl,rfl,by unfold Hid;rw [HLO2.out];decide,by unfold Hid;rw [HHI2.out];decide,by simp,Or.inr (Or.inl ⟨rfl,HG2.out.set1 _ _ _ _ _ _ _ _ _⟩)⟩
      ·simp [intOf])
    |(go_wp2
      go_ret
      exact ⟨by rw [φj (i:=1) (by omega) (by rw [HLO2.out];decide) (by rw [HHI2.out];decide)];rfl,HG1.out.bel⟩)
  ·have HG:=Hid.mk HG0
   have hr:=HG0.range
   clear HG0 hinv
   have z0:=HG.out.e1x0
   have z1:=HG.out.e1x1
   have z2:=HG.out.e1x2
   have z3:=HG.out.e1x3
   have z4:=HG.out.e1x4
   have z5:=HG.out.e1x5
   have z6:=HG.out.e1x6
   have z7:=HG.out.e1x7
   have z8:=HG.out.e1x8
   go_wp2_with (refine wpList_load_mid rfl 96 (.tmp 2) rfl w 0 rfl [l0,l1,l2,l3,l4,l5,l6,l7,l8,l9,l10,l11,l12,l13,l14,l15,l16,l17,l18,l19,l20,l21,l22,l23,l24,l25,l26,l27] _ hr underlying96 rfl (by kernel_rfl) ?_)
   refine (ψh _ m k S O D t3 t4 t5 t6 t7 t8 t0 t1 t2 _ hm hmk (hT.later HG.out.bel) (HCO.out _ HG.out.bel) q3 q4 q5 q6 q7 q8).mono ?_
   rintro o w1 ⟨rfl,hb1⟩
   have HG1:=Hid.mk (HG.out.later hb1)
   clear hb1 HG hr z0 z1 z2 z3 z4 z5 z6 z7 z8
   rw [<-HS1.out]
   have hs3:S1= -1∨S1=0∨S1=1:=by rw [HS1.out];rcases sgn_cases (D.dot (((V3.sc S (pv t3 t4 t5)).sub O).cross ((V3.sc S (pv t6 t7 t8)).sub O))) with ⟨_,e⟩| ⟨_,e⟩| ⟨_,e⟩<;>rw [e]<;>simp
   have HLO2:Hid (loS S0 S1 S2 2=min lo S1):=by unfold Hid;rw [HLO.out];rfl
   have HHI2:Hid (hiS S0 S1 S2 2=max hi S1):=by unfold Hid;rw [HHI.out];rfl
   rcases hlh with ⟨hl,hh⟩| ⟨hl,hh⟩| ⟨hl,hh⟩<;>rcases hs3 with hs|hs|hs
   all_goals subst hl hh hs
   all_goals first
    |(obtain ⟨z0,z1,z2,z3,z4,z5,z6,z7,z8⟩:=HG1.out.b1
      go_wp2_with fail
      refine (ψs t3 t4 t5 t6 t7 t8 t0 t1 t2 _).mono ?_
      rintro o w2 ⟨rfl,hb2⟩
      have HG2:=Hid.mk (HG1.out.later hb2)
      clear hb2 HG1 z0 z1 z2 z3 z4 z5 z6 z7 z8
      obtain ⟨x0,x1,x2,x3,x4,x5,x6,x7,x8⟩:=HG2.out.b1
      have xf:=HG2.out.f1
      go_wp2
      refine ⟨?_,?_⟩
      ·exact ⟨2,_,_,by simp,rfl,rfl,by unfold Hid;rw [HLO2.out];decide,by unfold Hid;rw [HHI2.out];decide,by simp,Or.inr (Or.inr (Or.inl ⟨rfl,HG2.out.set1 _ _ _ _ _ _ _ _ _⟩))⟩
      ·simp [intOf])
    |(go_wp2
      go_ret
      exact ⟨by rw [φj (i:=2) (by omega) (by rw [HLO2.out];decide) (by rw [HHI2.out];decide)];rfl,HG1.out.bel⟩)
  ·have HG:=Hid.mk HG0
   have hr:=HG0.range
   clear HG0 hinv
   have z0:=HG.out.e1x0
   have z1:=HG.out.e1x1
   have z2:=HG.out.e1x2
   have z3:=HG.out.e1x3
   have z4:=HG.out.e1x4
   have z5:=HG.out.e1x5
   have z6:=HG.out.e1x6
   have z7:=HG.out.e1x7
   have z8:=HG.out.e1x8
   go_wp2_with (refine wpList_load_mid rfl 96 (.tmp 2) rfl w 0 rfl [l0,l1,l2,l3,l4,l5,l6,l7,l8,l9,l10,l11,l12,l13,l14,l15,l16,l17,l18,l19,l20,l21,l22,l23,l24,l25,l26,l27] _ hr underlying96 rfl (by kernel_rfl) ?_)
   refine (ψh _ m k S O D t6 t7 t8 t0 t1 t2 t3 t4 t5 _ hm hmk (hT.later HG.out.bel) (HCO.out _ HG.out.bel) q6 q7 q8 q0 q1 q2).mono ?_
   rintro o w1 ⟨rfl,hb1⟩
   have HG1:=Hid.mk (HG.out.later hb1)
   clear hb1 HG hr z0 z1 z2 z3 z4 z5 z6 z7 z8
   rw [<-HS2.out]
   have hs3:S2= -1∨S2=0∨S2=1:=by rw [HS2.out];rcases sgn_cases (D.dot (((V3.sc S (pv t6 t7 t8)).sub O).cross ((V3.sc S (pv t0 t1 t2)).sub O))) with ⟨_,e⟩| ⟨_,e⟩| ⟨_,e⟩<;>rw [e]<;>simp
   have HLO2:Hid (loS S0 S1 S2 3=min lo S2):=by unfold Hid;rw [HLO.out];rfl
   have HHI2:Hid (hiS S0 S1 S2 3=max hi S2):=by unfold Hid;rw [HHI.out];rfl
   rcases hlh with ⟨hl,hh⟩| ⟨hl,hh⟩| ⟨hl,hh⟩<;>rcases hs3 with hs|hs|hs
   all_goals subst hl hh hs
   all_goals first
    |(obtain ⟨z0,z1,z2,z3,z4,z5,z6,z7,z8⟩:=HG1.out.b1
      go_wp2_with fail
      refine (ψs t6 t7 t8 t0 t1 t2 t3 t4 t5 _).mono ?_
      rintro o w2 ⟨rfl,hb2⟩
      have HG2:=Hid.mk (HG1.out.later hb2)
      clear hb2 HG1 z0 z1 z2 z3 z4 z5 z6 z7 z8
      obtain ⟨x0,x1,x2,x3,x4,x5,x6,x7,x8⟩:=HG2.out.b1
      have xf:=HG2.out.f1
      go_wp2
      refine ⟨?_,?_⟩
      ·exact ⟨3,_,_,by simp,rfl,rfl,by unfold Hid;rw [HLO2.out];decide,by unfold Hid;rw [HHI2.out];decide,by simp,Or.inr (Or.inr (Or.inr (⟨rfl,HG2.out.set1 _ _ _ _ _ _ _ _ _⟩)))⟩
      ·simp [intOf])
    |(go_wp2
      go_ret
      exact ⟨by rw [φj (i:=3) (by omega) (by rw [HLO2.out];decide) (by rw [HHI2.out];decide)];rfl,HG1.out.bel⟩)
  ·have HG:Hid _:=HG0
   have HY:Hid (ζW S0 S1 S2=true):=by
    unfold Hid
    refine θO ?_
    rw [<-HLO.out,<-HHI.out]
    omega
   clear hinv
   go_wp2
   go_ret
   exact ⟨by rw [HY.out];rfl,HG.out.bel⟩
end Go.Proofs.YtfieffpobgcpmaaGreatDoor
