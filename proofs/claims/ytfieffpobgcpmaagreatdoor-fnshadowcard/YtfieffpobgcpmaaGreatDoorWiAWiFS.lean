import Derived.Test.YtfieffpobgcpmaaGreatDoorInAQS
import Derived.Test.YtfieffpobgcpmaaGreatDoorPsEPsFPtAS
import Derived.Test.YtfieffpobgcpmaaGreatDoorBhJToBgOS
import Derived.Test.YtfieffpobgcpmaaGreatDoorBgNReARkACoAS
import Derived.Deep.CutRange
import Derived.Deep.RegionHeld3
set_option maxRecDepth 100000
set_option maxHeartbeats 32000000
namespace Go.Proofs.YtfieffpobgcpmaaGreatDoor
open Go.RowKit Go.Proofs.Tryz
variable {w W:World} {e:Nat}
structure Wi0 (w:World) (L T:List Value) (W:World):Prop where
 l:Cs W w L
 t:Cs W (↑w+1) T
 z:Cs W (↑w+1+1) [false,(),false,(),false,(),false,()]
 i0:ζf W (↑w+1+1)
 bel:Below w w W
theorem Wi0.later {L T:List Value} {W':World} (h:Wi0 w L T W) (hb:Below W W W'):Wi0 w L T W':=
 ⟨h.l.later hb,h.t.later hb,h.z.later hb,h.i0.later hb,h.bel.trans (hb.mono h.bel.size)⟩
theorem Wi0.start (w:World) (Lc Tc:Array Value) (t0 t1 t2:TypeId):Wi0 w Lc.toList Tc.toList (((w.alloc (.cells Lc t0)).alloc (.cells Tc t1)).alloc (.cells #[false,(),false,(),false,(),false,()] t2)):=by
 have h:=Ip0.start w Lc Tc t0 t1 t2
 exact ⟨h.l,h.t,h.z,h.i0,h.bel⟩
structure WiS (w:World) (B:Nat) (L T M:List Value) (W:World):Prop where
 o:Wi0 w L T W
 m:Cs W B M
 i2:ζf W B
 b:w.heap.size+1+1<B
theorem WiS.later {B:Nat} {L T M:List Value} {W':World} (h:WiS w B L T M W) (hb:Below W W W'):WiS w B L T M W':=
 ⟨h.o.later hb,h.m.later hb,h.i2.later hb,h.b⟩
theorem WiS.setM {B:Nat} {L T M:List Value} (h:WiS w B L T M W) (vs:List Value) (hl:M.length=vs.length) (hn: ∀u∈vs,ζh u):WiS w B L T vs (setAll W B 0 vs):=by
 have h1:=h.b
 exact ⟨⟨h.o.l.setAllO (by omega) vs W 0 L,h.o.t.setAllO (by omega) vs W 0 T,h.o.z.setAllO (by omega) vs W 0 _,ζf.setAllX vs W 0 h.o.i0 hn,ζd (by omega) vs W 0 h.o.bel⟩,h.m.whole vs hl,ζf.setAllX vs W 0 h.i2 hn,h1⟩
theorem ta_cc (b:Bool) (w:World):(Instr.typeAssert (.iface 145 (.agg #[b])) 142 145 true).run prog w= .ok (.tuple #[.agg #[b],true]) w:=by kernel_rfl
theorem ta_lc (w:World):(Instr.typeAssert (.iface 149 (.agg #[])) 142 145 true).run prog w= .ok (.tuple #[.agg #[false],false]) w:=by kernel_rfl
theorem ta_ll (w:World):(Instr.typeAssert (.iface 149 (.agg #[])) 142 149 true).run prog w= .ok (.tuple #[.agg #[],true]) w:=by kernel_rfl
theorem ta_mc (w:World):(Instr.typeAssert (.iface 151 (.agg #[])) 142 145 true).run prog w= .ok (.tuple #[.agg #[false],false]) w:=by kernel_rfl
theorem ta_ml (w:World):(Instr.typeAssert (.iface 151 (.agg #[])) 142 149 true).run prog w= .ok (.tuple #[.agg #[],false]) w:=by kernel_rfl
theorem ta_mm (w:World):(Instr.typeAssert (.iface 151 (.agg #[])) 142 151 true).run prog w= .ok (.tuple #[.agg #[],true]) w:=by kernel_rfl
theorem ζO.setAll {v:Value} {p q:Int} {b:Nat} (us:List Value) (w:World) (i:Nat) (h:ζO w v e p q) (hn:ζf w b) (hu: ∀u∈us,ζh u):ζO (Go.Proofs.YtfieffpobgcpmaaGreatDoor.setAll w b i us) v e p q:=by
 obtain ⟨g,a,c,z,g',a',c',z',rfl,h1,h2⟩:=h
 exact ⟨g,a,c,z,g',a',c',z',rfl,h1.setAll us w i hn hu,h2.setAll us w i hn hu⟩
structure AdS (e:Nat) (W0:World) (P:Nat) (v:Value) (us:List Value) (n m:Int) (W:World):Prop where
 c:Cs W P us
 v:ζO W v e n m
 le:W0.heap.size<=P
 bel:Below W0 W0 W
theorem AdS.new4 {W0:World} {u0 u1 u2 u3:Value} {n m:Int} (t:TypeId) (h:ζO W (.agg #[u0,u1,u2,u3]) e n m) (hb:Below W0 W0 W):AdS e W0 W (.agg #[u0,u1,u2,u3]) [u0,u1,u2,u3] n m (W.alloc (.cells #[u0,u1,u2,u3] t)):=
 ⟨Cs.new W _ t,h.later (ζc _ _),hb.size,hb.trans ((ζc _ _).mono hb.size)⟩
theorem AdS.set4 {W0:World} {P:Nat} {u0 u1 u2 u3:Value} {n m:Int} (h:ζO W (.agg #[u0,u1,u2,u3]) e n m) (hb:Below W0 W0 W) (hc:Cs W P [false,(),false,()]) (hn:ζf W P) (hv: ∀u∈[u0,u1,u2,u3],ζh u) (hP:W0.heap.size<=P):AdS e W0 P (.agg #[u0,u1,u2,u3]) [u0,u1,u2,u3] n m ((((W.setCell ⟨P,0,none⟩ u0).setCell ⟨P,1,none⟩ u1).setCell ⟨P,2,none⟩ u2).setCell ⟨P,3,none⟩ u3):=
 ⟨hc.whole [u0,u1,u2,u3] rfl,h.setAll [u0,u1,u2,u3] W 0 hn hv,hP,ζd hP [u0,u1,u2,u3] W 0 hb⟩
theorem ξT (v:Value) (m k:Nat) (S:Int) (O D:V3) (t0 t1 t2 t3 t4 t5 t6 t7 t8:Int) (w:World) (hm:277<=m) (hmk:3*m+2*k<=28000) (hT:Tab w) (hco:ζH w v m k S O D) (q0:Cor t0) (q1:Cor t1) (q2:Cor t2) (q3:Cor t3) (q4:Cor t4) (q5:Cor t5) (q6:Cor t6) (q7:Cor t7) (q8:Cor t8) (mv:Value) (R:Int×Int×Int×Int) (hmv:ω8 (sgn ((nrm (pv t0 t1 t2) (pv t3 t4 t5) (pv t6 t7 t8)).dot D)) (sgn ((nrm (pv t0 t1 t2) (pv t3 t4 t5) (pv t6 t7 t8)).dot ((V3.sc S (pv t0 t1 t2)).sub O))) (sgn ((nrm (pv t0 t1 t2) (pv t3 t4 t5) (pv t6 t7 t8)).dot (nrm (pv t0 t1 t2) (pv t3 t4 t5) (pv t6 t7 t8)))==0)=mv) (hc:((mv= .iface 151 (.agg #[])∨mv= .iface 145 (.agg #[true]))∧R=(1,0,0,1))∨(mv= .iface 145 (.agg #[false])∧(ζW (sgn (D.dot (((V3.sc S (pv t0 t1 t2)).sub O).cross ((V3.sc S (pv t3 t4 t5)).sub O)))) (sgn (D.dot (((V3.sc S (pv t3 t4 t5)).sub O).cross ((V3.sc S (pv t6 t7 t8)).sub O)))) (sgn (D.dot (((V3.sc S (pv t6 t7 t8)).sub O).cross ((V3.sc S (pv t0 t1 t2)).sub O)))))=false∧R=(1,0,0,1))∨(mv= .iface 149 (.agg #[])∧R=(inPl S (nrm (pv t0 t1 t2) (pv t3 t4 t5) (pv t6 t7 t8)) O D 3 ⟨t0,t1,t2,t3,t4,t5,t6,t7,t8⟩ (0,1,1,0)))∨(mv= .iface 145 (.agg #[false])∧(ζW (sgn (D.dot (((V3.sc S (pv t0 t1 t2)).sub O).cross ((V3.sc S (pv t3 t4 t5)).sub O)))) (sgn (D.dot (((V3.sc S (pv t3 t4 t5)).sub O).cross ((V3.sc S (pv t6 t7 t8)).sub O)))) (sgn (D.dot (((V3.sc S (pv t6 t7 t8)).sub O).cross ((V3.sc S (pv t0 t1 t2)).sub O)))))=true∧ ∃NN MM,(if ((nrm (pv t0 t1 t2) (pv t3 t4 t5) (pv t6 t7 t8)).dot D)<0 then-((nrm (pv t0 t1 t2) (pv t3 t4 t5) (pv t6 t7 t8)).dot ((V3.sc S (pv t0 t1 t2)).sub O)) else ((nrm (pv t0 t1 t2) (pv t3 t4 t5) (pv t6 t7 t8)).dot ((V3.sc S (pv t0 t1 t2)).sub O)))=NN∧(if ((nrm (pv t0 t1 t2) (pv t3 t4 t5) (pv t6 t7 t8)).dot D)<0 then-((nrm (pv t0 t1 t2) (pv t3 t4 t5) (pv t6 t7 t8)).dot D) else ((nrm (pv t0 t1 t2) (pv t3 t4 t5) (pv t6 t7 t8)).dot D))=MM∧R=(NN,MM,NN,MM))):
 Calls prog 40 #[v,.agg #[t0,t1,t2,t3,t4,t5,t6,t7,t8]] w fun o w'=>ηx w (m+k+843) R o w':=by
 have HMV:=Hid.mk hmv
 have HCC:=Hid.mk hc
 clear hmv hc
 have hcc:=hco
 obtain ⟨l0,l1,l2,l3,l4,l5,l6,l7,l8,l9,l10,l11,l12,l13,l14,l15,l16,l17,l18,l19,l20,l21,l22,l23,l24,l25,l26,l27,rfl,_,hB28⟩:=hco
 have HCO:Hid (∀w',Below w w w'->ζH w' (.agg #[l0,l1,l2,l3,l4,l5,l6,l7,l8,l9,l10,l11,l12,l13,l14,l15,l16,l17,l18,l19,l20,l21,l22,l23,l24,l25,l26,l27]) m k S O D):=fun w' hb=>hcc.later hb
 have HLB:Hid (∀w',Below w w w'->ξi w' (.agg #[l14,l15,l16,l17,l18,l19,l20,l21,l22,l23,l24,l25,l26,l27]) m k S O D):=fun w' hb=>hB28.later hb
 have HTT:Hid (∀w',Below w w w'->Tab w'):=fun w' hb=>hT.later hb
 have HI0:Hid (∀s0 s1 s2,Wi0 w [l0,l1,l2,l3,l4,l5,l6,l7,l8,l9,l10,l11,l12,l13,l14,l15,l16,l17,l18,l19,l20,l21,l22,l23,l24,l25,l26,l27] [t0,t1,t2,t3,t4,t5,t6,t7,t8] (((w.alloc (.cells #[l0,l1,l2,l3,l4,l5,l6,l7,l8,l9,l10,l11,l12,l13,l14,l15,l16,l17,l18,l19,l20,l21,l22,l23,l24,l25,l26,l27] s0)).alloc (.cells #[t0,t1,t2,t3,t4,t5,t6,t7,t8] s1)).alloc (.cells #[false,(),false,(),false,(),false,()] s2))):=fun s0 s1 s2=>Wi0.start w _ _ s0 s1 s2
 clear hcc hT hB28
 have a1:=ta_cc
 have a2:=ta_lc
 have a3:=ta_ll
 have a4:=ta_mc
 have a5:=ta_ml
 have a6:=ta_mm
 go_enter func40,ntmps40
 go_wp2_with fail
 refine (ψN (m+k+843) _).mono ?_
 rintro o w1 ⟨v1,rfl,hv1,hb1,_⟩
 have HM1:=Hid.mk hv1
 obtain ⟨g1,a1,c1,z1,g2,a2,c2,z2,g3,a3,c3,z3,g4,a4,c4,z4,rfl,_,_,_,_⟩:=hv1
 have HI1:Hid (Wi0 w [l0,l1,l2,l3,l4,l5,l6,l7,l8,l9,l10,l11,l12,l13,l14,l15,l16,l17,l18,l19,l20,l21,l22,l23,l24,l25,l26,l27] [t0,t1,t2,t3,t4,t5,t6,t7,t8] w1):=(HI0.out _ _ _).later hb1
 have HI2:Hid (∀t,WiS w w1 [l0,l1,l2,l3,l4,l5,l6,l7,l8,l9,l10,l11,l12,l13,l14,l15,l16,l17,l18,l19,l20,l21,l22,l23,l24,l25,l26,l27] [t0,t1,t2,t3,t4,t5,t6,t7,t8] [g1,.slice a1 z1 c1,g2,.slice a2 z2 c2,g3,.slice a3 z3 c3,g4,.slice a4 z4 c4] (w1.alloc (.cells #[g1,.slice a1 z1 c1,g2,.slice a2 z2 c2,g3,.slice a3 z3 c3,g4,.slice a4 z4 c4] t))):=fun t=>⟨HI1.out.later (ζc _ _),Cs.new _ _ _,ζf.new _ _ _ (fun i k m=>by match i with|0=>simp|1=>simp|2=>simp|3=>simp|4=>simp|5=>simp|6=>simp|7=>simp|n+8=>simp),HI1.out.z.1⟩
 have HM2:Hid (∀t,ζR (w1.alloc (.cells #[g1,.slice a1 z1 c1,g2,.slice a2 z2 c2,g3,.slice a3 z3 c3,g4,.slice a4 z4 c4] t)) (.agg #[g1,.slice a1 z1 c1,g2,.slice a2 z2 c2,g3,.slice a3 z3 c3,g4,.slice a4 z4 c4]) (m+k+843) 1 0 0 1):=fun t=>HM1.out.later (ζc _ _)
 have HS1:Hid (w.heap.size+1+1<w1.heap.size):=HI1.out.z.1
 clear hb1 HI0 HM1
 have y0:w.heap.size<w1.heap.size:=by have:=HS1.out;omega
 have y1:w.heap.size+1<w1.heap.size:=by have:=HS1.out;omega
 have y2:w.heap.size+1+1<w1.heap.size:=HS1.out
 have hr1:=(HI2.out 83).o.l.2.2
 obtain ⟨x0,x1,x2,x3,x4,x5,x6,x7,x8⟩:=HI1.out.t.c9
 go_wp2_with (refine wpList_load_mid rfl 96 (.tmp 2) rfl w 0 rfl [l0,l1,l2,l3,l4,l5,l6,l7,l8,l9,l10,l11,l12,l13,l14,l15,l16,l17,l18,l19,l20,l21,l22,l23,l24,l25,l26,l27] _ hr1 underlying96 rfl (by kernel_rfl) ?_)
 refine (κN _ m k S O D t0 t1 t2 t3 t4 t5 t6 t7 t8 _ hm hmk (HTT.out _ (HI2.out _).o.bel) (HCO.out _ (HI2.out _).o.bel) q0 q1 q2 q3 q4 q5 q6 q7 q8).mono ?_
 rintro o w2 ⟨rfl,hb2⟩
 rw [HMV.out]
 have HI3:Hid (WiS w w1 [l0,l1,l2,l3,l4,l5,l6,l7,l8,l9,l10,l11,l12,l13,l14,l15,l16,l17,l18,l19,l20,l21,l22,l23,l24,l25,l26,l27] [t0,t1,t2,t3,t4,t5,t6,t7,t8] [g1,.slice a1 z1 c1,g2,.slice a2 z2 c2,g3,.slice a3 z3 c3,g4,.slice a4 z4 c4] w2):=(HI2.out _).later hb2
 have HM3:Hid (ζR w2 (.agg #[g1,.slice a1 z1 c1,g2,.slice a2 z2 c2,g3,.slice a3 z3 c3,g4,.slice a4 z4 c4]) (m+k+843) 1 0 0 1):=(HM2.out _).later hb2
 clear hb2 HI2 HM2 HI1 y0 y1 y2 hr1 HS1 x0 x1 x2 x3 x4 x5 x6 x7 x8
 generalize hBB:w1.heap.size=B at*
 clear hBB
 have s0:w.heap.size<w2.heap.size:=HI3.out.o.l.1
 have s1:w.heap.size+1<w2.heap.size:=HI3.out.o.t.1
 have s2:w.heap.size+1+1<w2.heap.size:=HI3.out.o.z.1
 have s3:B<w2.heap.size:=HI3.out.m.1
 rcases HCC.out with ⟨rfl|rfl,rfl⟩| ⟨rfl,hon,rfl⟩| ⟨rfl,rfl⟩| ⟨rfl,hon,NN,MM,hfn,hfd,rfl⟩
 ·clear HCC HMV
  obtain ⟨m0,m1,m2,m3,m4,m5,m6,m7⟩:=HI3.out.m.c8
  obtain ⟨y0,y1,y2,y3,y4,y5,y6,y7⟩:=HI3.out.o.z.c8
  have zf:=HI3.out.o.z.2.1
  have HC:Hid (∀ob,Cs ((setAll w2 (↑w+1+1) 0 [g1,.slice a1 z1 c1,g2,.slice a2 z2 c2,g3,.slice a3 z3 c3,g4,.slice a4 z4 c4]).alloc ob) (↑w+1+1) [g1,.slice a1 z1 c1,g2,.slice a2 z2 c2,g3,.slice a3 z3 c3,g4,.slice a4 z4 c4]):=fun ob=>(HI3.out.o.z.whole [g1,.slice a1 z1 c1,g2,.slice a2 z2 c2,g3,.slice a3 z3 c3,g4,.slice a4 z4 c4] rfl).later (ζc _ _)
  have HW:Hid (Below w w (setAll w2 (↑w+1+1) 0 [g1,.slice a1 z1 c1,g2,.slice a2 z2 c2,g3,.slice a3 z3 c3,g4,.slice a4 z4 c4])):=ζd (by omega) _ w2 0 HI3.out.o.bel
  go_wp2
  refine bodyPost_ret (v:= .agg #[g1,.slice a1 z1 c1,g2,.slice a2 z2 c2,g3,.slice a3 z3 c3,g4,.slice a4 z4 c4]) (ζy results40 rfl ((HC.out (.cells #[] 151)).range 0 8) underlying83 rfl (by kernel_rfl)) rfl ?_
  exact ⟨_,rfl,(HM3.out.setAll [g1,.slice a1 z1 c1,g2,.slice a2 z2 c2,g3,.slice a3 z3 c3,g4,.slice a4 z4 c4] w2 0 HI3.out.o.i0 (by simp [ζh])).later (ζc _ (.cells #[] 151)),HW.out.trans ((ζc _ (.cells #[] 151)).mono HW.out.size)⟩
 ·clear HCC HMV
  obtain ⟨m0,m1,m2,m3,m4,m5,m6,m7⟩:=HI3.out.m.c8
  obtain ⟨y0,y1,y2,y3,y4,y5,y6,y7⟩:=HI3.out.o.z.c8
  have zf:=HI3.out.o.z.2.1
  have HC:Hid (∀ob,Cs ((setAll w2 (↑w+1+1) 0 [g1,.slice a1 z1 c1,g2,.slice a2 z2 c2,g3,.slice a3 z3 c3,g4,.slice a4 z4 c4]).alloc ob) (↑w+1+1) [g1,.slice a1 z1 c1,g2,.slice a2 z2 c2,g3,.slice a3 z3 c3,g4,.slice a4 z4 c4]):=fun ob=>(HI3.out.o.z.whole [g1,.slice a1 z1 c1,g2,.slice a2 z2 c2,g3,.slice a3 z3 c3,g4,.slice a4 z4 c4] rfl).later (ζc _ _)
  have HW:Hid (Below w w (setAll w2 (↑w+1+1) 0 [g1,.slice a1 z1 c1,g2,.slice a2 z2 c2,g3,.slice a3 z3 c3,g4,.slice a4 z4 c4])):=ζd (by omega) _ w2 0 HI3.out.o.bel
  go_wp2
  refine bodyPost_ret (v:= .agg #[g1,.slice a1 z1 c1,g2,.slice a2 z2 c2,g3,.slice a3 z3 c3,g4,.slice a4 z4 c4]) (ζy results40 rfl ((HC.out (.cells #[true] 145)).range 0 8) underlying83 rfl (by kernel_rfl)) rfl ?_
  exact ⟨_,rfl,(HM3.out.setAll [g1,.slice a1 z1 c1,g2,.slice a2 z2 c2,g3,.slice a3 z3 c3,g4,.slice a4 z4 c4] w2 0 HI3.out.o.i0 (by simp [ζh])).later (ζc _ (.cells #[true] 145)),HW.out.trans ((ζc _ (.cells #[true] 145)).mono HW.out.size)⟩
 ·clear HCC HMV
  have HON:=Hid.mk hon
  have hr3:=(HI3.out.later (ζc w2 (.cells #[false] 145))).o.l.2.2
  obtain ⟨x0,x1,x2,x3,x4,x5,x6,x7,x8⟩:=HI3.out.o.t.c9
  go_wp2_with (refine ξ6 rfl 96 (.tmp 2) rfl w 0 rfl [l0,l1,l2,l3,l4,l5,l6,l7,l8,l9,l10,l11,l12,l13,l14,l15,l16,l17,l18,l19,l20,l21,l22,l23,l24,l25,l26,l27] _ hr3 underlying96 rfl (by kernel_rfl) ?_)
  refine (ηt _ m k S O D t0 t1 t2 t3 t4 t5 t6 t7 t8 _ hm hmk (HTT.out _ (HI3.out.later (ζc w2 (.cells #[false] 145))).o.bel) (HCO.out _ (HI3.out.later (ζc w2 (.cells #[false] 145))).o.bel) q0 q1 q2 q3 q4 q5 q6 q7 q8).mono ?_
  rintro o w4 ⟨rfl,hb4⟩
  rw [HON.out]
  have HI4:Hid (WiS w B [l0,l1,l2,l3,l4,l5,l6,l7,l8,l9,l10,l11,l12,l13,l14,l15,l16,l17,l18,l19,l20,l21,l22,l23,l24,l25,l26,l27] [t0,t1,t2,t3,t4,t5,t6,t7,t8] [g1,.slice a1 z1 c1,g2,.slice a2 z2 c2,g3,.slice a3 z3 c3,g4,.slice a4 z4 c4] w4):=(HI3.out.later (ζc _ _)).later hb4
  have HM4:Hid (ζR w4 (.agg #[g1,.slice a1 z1 c1,g2,.slice a2 z2 c2,g3,.slice a3 z3 c3,g4,.slice a4 z4 c4]) (m+k+843) 1 0 0 1):=(HM3.out.later (ζc _ _)).later hb4
  clear hb4 HI3 HM3 hr3 x0 x1 x2 x3 x4 x5 x6 x7 x8
  obtain ⟨m0,m1,m2,m3,m4,m5,m6,m7⟩:=HI4.out.m.c8
  obtain ⟨y0,y1,y2,y3,y4,y5,y6,y7⟩:=HI4.out.o.z.c8
  have zf:=HI4.out.o.z.2.1
  go_wp2
  refine bodyPost_ret (v:= .agg #[g1,.slice a1 z1 c1,g2,.slice a2 z2 c2,g3,.slice a3 z3 c3,g4,.slice a4 z4 c4]) (by simp [results,results40,go_sem,y0,y1,y2,y3,y4,y5,y6,y7]) rfl ?_
  exact ⟨_,rfl,HM4.out.setAll [g1,.slice a1 z1 c1,g2,.slice a2 z2 c2,g3,.slice a3 z3 c3,g4,.slice a4 z4 c4] w4 0 HI4.out.o.i0 (by simp [ζh]),ζd (vs:=[↑g1,.slice a1 z1 c1,↑g2,.slice a2 z2 c2,↑g3,.slice a3 z3 c3,↑g4,.slice a4 z4 c4]) (b:=w.heap.size+1+1) (by omega) w4 0 HI4.out.o.bel⟩
 ·clear HCC HMV
  obtain ⟨x0,x1,x2,x3,x4,x5,x6,x7,x8⟩:=HI3.out.o.t.c9
  have v0:=HI3.out.o.l.at 0 rfl
  have v1:=HI3.out.o.l.at 1 rfl
  have v2:=HI3.out.o.l.at 2 rfl
  have v3:=HI3.out.o.l.at 3 rfl
  have v4:=HI3.out.o.l.at 4 rfl
  have v5:=HI3.out.o.l.at 5 rfl
  have v6:=HI3.out.o.l.at 6 rfl
  have v7:=HI3.out.o.l.at 7 rfl
  have v8:=HI3.out.o.l.at 8 rfl
  have v9:=HI3.out.o.l.at 9 rfl
  have v10:=HI3.out.o.l.at 10 rfl
  have v11:=HI3.out.o.l.at 11 rfl
  have v12:=HI3.out.o.l.at 12 rfl
  have v13:=HI3.out.o.l.at 13 rfl
  have v14:=HI3.out.o.l.at 14 rfl
  have v15:=HI3.out.o.l.at 15 rfl
  have v16:=HI3.out.o.l.at 16 rfl
  have v17:=HI3.out.o.l.at 17 rfl
  have v18:=HI3.out.o.l.at 18 rfl
  have v19:=HI3.out.o.l.at 19 rfl
  have v20:=HI3.out.o.l.at 20 rfl
  have v21:=HI3.out.o.l.at 21 rfl
  have v22:=HI3.out.o.l.at 22 rfl
  have v23:=HI3.out.o.l.at 23 rfl
  have v24:=HI3.out.o.l.at 24 rfl
  have v25:=HI3.out.o.l.at 25 rfl
  have v26:=HI3.out.o.l.at 26 rfl
  have v27:=HI3.out.o.l.at 27 rfl
  go_wp2_with fail
  refine (inPlane_any _ m k S O D t0 t1 t2 t3 t4 t5 t6 t7 t8 _ hm hmk (HTT.out _ (HI3.out.later (ζc w2 (.cells #[] 149))).o.bel) (HLB.out _ (HI3.out.later (ζc w2 (.cells #[] 149))).o.bel) q0 q1 q2 q3 q4 q5 q6 q7 q8).mono ?_
  rintro o w4 ⟨v4,rfl,hv4,hb4⟩
  have HS4:=Hid.mk hv4
  obtain ⟨g5,a5,c5,z5,g6,a6,c6,z6,g7,a7,c7,z7,g8,a8,c8,z8,rfl,_,_,_,_⟩:=hv4
  have HI4:Hid (WiS w B [l0,l1,l2,l3,l4,l5,l6,l7,l8,l9,l10,l11,l12,l13,l14,l15,l16,l17,l18,l19,l20,l21,l22,l23,l24,l25,l26,l27] [t0,t1,t2,t3,t4,t5,t6,t7,t8] [g1,.slice a1 z1 c1,g2,.slice a2 z2 c2,g3,.slice a3 z3 c3,g4,.slice a4 z4 c4] w4):=(HI3.out.later (ζc _ _)).later hb4
  clear hb4 HI3 HM3 x0 x1 x2 x3 x4 x5 x6 x7 x8 v0 v1 v2 v3 v4 v5 v6 v7 v8 v9 v10 v11 v12 v13 v14 v15 v16 v17 v18 v19 v20 v21 v22 v23 v24 v25 v26 v27
  obtain ⟨m0,m1,m2,m3,m4,m5,m6,m7⟩:=HI4.out.m.c8
  have mf:=HI4.out.m.2.1
  obtain ⟨y0,y1,y2,y3,y4,y5,y6,y7⟩:=HI4.out.o.z.c8
  have zf:=HI4.out.o.z.2.1
  have hne:w.heap.size+1+1≠B:=by have:=HI4.out.b;omega
  go_wp2
  refine bodyPost_ret (v:= .agg #[g5,.slice a5 z5 c5,g6,.slice a6 z6 c6,g7,.slice a7 z7 c7,g8,.slice a8 z8 c8]) (by simp [results,results40,go_sem,y0,y1,y2,y3,y4,y5,y6,y7]) rfl ?_
  have HI5:=HI4.out.setM [g5,.slice a5 z5 c5,g6,.slice a6 z6 c6,g7,.slice a7 z7 c7,g8,.slice a8 z8 c8] rfl (by simp [ζh])
  exact ⟨_,rfl,(HS4.out.setAll [g5,.slice a5 z5 c5,g6,.slice a6 z6 c6,g7,.slice a7 z7 c7,g8,.slice a8 z8 c8] w4 0 HI4.out.i2 (by simp [ζh])).setAll [g5,.slice a5 z5 c5,g6,.slice a6 z6 c6,g7,.slice a7 z7 c7,g8,.slice a8 z8 c8] (setAll w4 B 0 [g5,.slice a5 z5 c5,g6,.slice a6 z6 c6,g7,.slice a7 z7 c7,g8,.slice a8 z8 c8]) 0 HI5.o.i0 (by simp [ζh]),ζd (vs:=[↑g5,.slice a5 z5 c5,↑g6,.slice a6 z6 c6,↑g7,.slice a7 z7 c7,↑g8,.slice a8 z8 c8]) (b:=w.heap.size+1+1) (by omega) (setAll w4 B 0 [g5,.slice a5 z5 c5,g6,.slice a6 z6 c6,g7,.slice a7 z7 c7,g8,.slice a8 z8 c8]) 0 HI5.o.bel⟩
 ·clear HCC HMV
  have HON:=Hid.mk hon
  have HFN:=Hid.mk hfn
  have HFD:=Hid.mk hfd
  clear hfn hfd
  have hr3:=(HI3.out.later (ζc w2 (.cells #[false] 145))).o.l.2.2
  obtain ⟨x0,x1,x2,x3,x4,x5,x6,x7,x8⟩:=HI3.out.o.t.c9
  go_wp2_with (refine ξ6 rfl 96 (.tmp 2) rfl w 0 rfl [l0,l1,l2,l3,l4,l5,l6,l7,l8,l9,l10,l11,l12,l13,l14,l15,l16,l17,l18,l19,l20,l21,l22,l23,l24,l25,l26,l27] _ hr3 underlying96 rfl (by kernel_rfl) ?_)
  refine (ηt _ m k S O D t0 t1 t2 t3 t4 t5 t6 t7 t8 _ hm hmk (HTT.out _ (HI3.out.later (ζc w2 (.cells #[false] 145))).o.bel) (HCO.out _ (HI3.out.later (ζc w2 (.cells #[false] 145))).o.bel) q0 q1 q2 q3 q4 q5 q6 q7 q8).mono ?_
  rintro o w4 ⟨rfl,hb4⟩
  rw [HON.out]
  have HI4:Hid (WiS w B [l0,l1,l2,l3,l4,l5,l6,l7,l8,l9,l10,l11,l12,l13,l14,l15,l16,l17,l18,l19,l20,l21,l22,l23,l24,l25,l26,l27] [t0,t1,t2,t3,t4,t5,t6,t7,t8] [g1,.slice a1 z1 c1,g2,.slice a2 z2 c2,g3,.slice a3 z3 c3,g4,.slice a4 z4 c4] w4):=(HI3.out.later (ζc _ _)).later hb4
  have HM4:Hid (ζR w4 (.agg #[g1,.slice a1 z1 c1,g2,.slice a2 z2 c2,g3,.slice a3 z3 c3,g4,.slice a4 z4 c4]) (m+k+843) 1 0 0 1):=(HM3.out.later (ζc _ _)).later hb4
  clear hb4 HI3 HM3 hr3 x0 x1 x2 x3 x4 x5 x6 x7 x8
  have HT:Hid (∀w',Below w4 w4 w'->Tab w'):=fun w' hb=>HTT.out w' (HI4.out.o.bel.trans (hb.mono HI4.out.o.bel.size))
  have HL:Hid (∀w',Below w4 w4 w'->ξi w' (.agg #[l14,l15,l16,l17,l18,l19,l20,l21,l22,l23,l24,l25,l26,l27]) m k S O D):=fun w' hb=>HLB.out w' (HI4.out.o.bel.trans (hb.mono HI4.out.o.bel.size))
  have HK:Hid (∀w',Below w4 w4 w'->w'.cell? ⟨w,14,none⟩=some l14∧w'.cell? ⟨w,15,none⟩=some l15∧w'.cell? ⟨w,16,none⟩=some l16∧w'.cell? ⟨w,17,none⟩=some l17∧w'.cell? ⟨w,18,none⟩=some l18∧w'.cell? ⟨w,19,none⟩=some l19∧w'.cell? ⟨w,20,none⟩=some l20∧w'.cell? ⟨w,21,none⟩=some l21∧w'.cell? ⟨w,22,none⟩=some l22∧w'.cell? ⟨w,23,none⟩=some l23∧w'.cell? ⟨w,24,none⟩=some l24∧w'.cell? ⟨w,25,none⟩=some l25∧w'.cell? ⟨w,26,none⟩=some l26∧w'.cell? ⟨w,27,none⟩=some l27∧w'.cell? ⟨↑w+1,0,none⟩=some ↑t0∧w'.cell? ⟨↑w+1,1,none⟩=some ↑t1∧w'.cell? ⟨↑w+1,2,none⟩=some ↑t2∧w'.cell? ⟨↑w+1,3,none⟩=some ↑t3∧w'.cell? ⟨↑w+1,4,none⟩=some ↑t4∧w'.cell? ⟨↑w+1,5,none⟩=some ↑t5∧w'.cell? ⟨↑w+1,6,none⟩=some ↑t6∧w'.cell? ⟨↑w+1,7,none⟩=some ↑t7∧w'.cell? ⟨↑w+1,8,none⟩=some ↑t8∧Below w4 w4 w'):=fun w' hb=>⟨(HI4.out.o.l.later hb).at 14 rfl,(HI4.out.o.l.later hb).at 15 rfl,(HI4.out.o.l.later hb).at 16 rfl,(HI4.out.o.l.later hb).at 17 rfl,(HI4.out.o.l.later hb).at 18 rfl,(HI4.out.o.l.later hb).at 19 rfl,(HI4.out.o.l.later hb).at 20 rfl,(HI4.out.o.l.later hb).at 21 rfl,(HI4.out.o.l.later hb).at 22 rfl,(HI4.out.o.l.later hb).at 23 rfl,(HI4.out.o.l.later hb).at 24 rfl,(HI4.out.o.l.later hb).at 25 rfl,(HI4.out.o.l.later hb).at 26 rfl,(HI4.out.o.l.later hb).at 27 rfl,(HI4.out.o.t.later hb).at 0 rfl,(HI4.out.o.t.later hb).at 1 rfl,(HI4.out.o.t.later hb).at 2 rfl,(HI4.out.o.t.later hb).at 3 rfl,(HI4.out.o.t.later hb).at 4 rfl,(HI4.out.o.t.later hb).at 5 rfl,(HI4.out.o.t.later hb).at 6 rfl,(HI4.out.o.t.later hb).at 7 rfl,(HI4.out.o.t.later hb).at 8 rfl,hb⟩
  have hB0:Below w4 w4 w4.drew:=(Below.refl _ _).drew
  have TT0:Tab w4.drew:=HT.out _ hB0
  have LL0:=HL.out _ hB0
  have K0:=HK.out _ hB0
  go_wp2
  go_cut [7] from 10 to 47 (fun s7 wx=> ∃(P:Nat) (gp:Bool) (ap:Option Addr) (cp:Nat) (zp:List Int) (gq:Bool) (aq:Option Addr) (cq:Nat) (zq:List Int),s7= .pointer (some ⟨P,0,none⟩)∧Hid (AdS (557+(m+k+1)+1+1) w4 P (.agg #[gp,.slice ap zp cp,gq,.slice aq zq cq]) [gp,.slice ap zp cp,gq,.slice aq zq cq] NN MM wx))
  case first=>
   go_region_held3 (fun w'=>w'.cell? ⟨w,14,none⟩=some l14∧w'.cell? ⟨w,15,none⟩=some l15∧w'.cell? ⟨w,16,none⟩=some l16∧w'.cell? ⟨w,17,none⟩=some l17∧w'.cell? ⟨w,18,none⟩=some l18∧w'.cell? ⟨w,19,none⟩=some l19∧w'.cell? ⟨w,20,none⟩=some l20∧w'.cell? ⟨w,21,none⟩=some l21∧w'.cell? ⟨w,22,none⟩=some l22∧w'.cell? ⟨w,23,none⟩=some l23∧w'.cell? ⟨w,24,none⟩=some l24∧w'.cell? ⟨w,25,none⟩=some l25∧w'.cell? ⟨w,26,none⟩=some l26∧w'.cell? ⟨w,27,none⟩=some l27∧w'.cell? ⟨↑w+1,0,none⟩=some ↑t0∧w'.cell? ⟨↑w+1,1,none⟩=some ↑t1∧w'.cell? ⟨↑w+1,2,none⟩=some ↑t2∧w'.cell? ⟨↑w+1,3,none⟩=some ↑t3∧w'.cell? ⟨↑w+1,4,none⟩=some ↑t4∧w'.cell? ⟨↑w+1,5,none⟩=some ↑t5∧w'.cell? ⟨↑w+1,6,none⟩=some ↑t6∧w'.cell? ⟨↑w+1,7,none⟩=some ↑t7∧w'.cell? ⟨↑w+1,8,none⟩=some ↑t8∧Below w4 w4 w')
    (first|with_reducible assumption|with_reducible exact HK.out _ (hB3.trans ((ζc _ _).mono hB3.size))|with_reducible exact HK.out _ (hB2.trans ((ζc _ _).mono hB2.size))|with_reducible exact HK.out _ (hB1.trans ((ζc _ _).mono hB1.size))|with_reducible exact HK.out _ (hB0.trans ((ζc _ _).mono hB0.size))|with_reducible exact HK.out _ (Below.setCell (Below.setCell (Below.setCell (Below.setCell hB3 (by first|exact hp| (simp;exact hp)) _) (by first|exact hp| (simp;exact hp)) _) (by first|exact hp| (simp;exact hp)) _) (by first|exact hp| (simp;exact hp)) _)|exact HK.out _ (hB0.trans ((ζc _ _).mono hB0.size)))
    (first
     |(have hBB:=hB2;clear hBB;go_at_call 83;refine (ω5 _ _ (557+(m+k+1)+1+1) ((nrm (pv t0 t1 t2) (pv t3 t4 t5) (pv t6 t7 t8)).dot ((V3.sc S (pv t0 t1 t2)).sub O)) ((nrm (pv t0 t1 t2) (pv t3 t4 t5) (pv t6 t7 t8)).dot D) _ (by first|exact R1_2|exact R1_2.later (ζc _ _)) (by first|exact R2|exact R2.later (ζc _ _))).mono ?_;rintro o w7 ⟨v7,rfl,hv7,hb3,_⟩;have R3:ζO w7 v7 (557+(m+k+1)+1+1) NN MM:=(by have q:=hv7;rw [HFN.out,HFD.out] at q;exact q);obtain ⟨gp,ap,cp,zp,gq,aq,cq,zq,rfl,_,_⟩:=hv7;have hB3:Below w4 w4 w7:=(by first|exact hB2.trans (hb3.mono hB2.size)|exact (hB2.trans ((ζc _ _).mono hB2.size)).trans (hb3.mono (hB2.trans ((ζc _ _).mono hB2.size)).size));have TT3:Tab w7:=HT.out _ hB3;have LL3:=HL.out _ hB3;have K3:=HK.out _ hB3;(first| (have hh:Cs w7 w4 [false,(),false,()]:=(((Cs.new w4.drew #[false,(),false,()] 81).later hb1).later hb2).later hb3;have hj:ζf w7 w4.heap.size:=(((ζf.new w4.drew #[false,(),false,()] 81 (fun i k m=>by match i with|0=>simp|1=>simp|2=>simp|3=>simp|n+4=>simp)).later hb1).later hb2).later hb3;have hp:w4.heap.size<=w4.heap.size:=Nat.le_refl _)| (have hh:=((Cs.new w5 #[false,(),false,()] 81).later hb2).later hb3;have hj:=((ζf.new w5 #[false,(),false,()] 81 (fun i k m=>by match i with|0=>simp|1=>simp|2=>simp|3=>simp|n+4=>simp)).later hb2).later hb3;have hp:w4.heap.size<=w5.heap.size:=hB1.size)| (have hh:=(Cs.new w6 #[false,(),false,()] 81).later hb3;have hj:=(ζf.new w6 #[false,(),false,()] 81 (fun i k m=>by match i with|0=>simp|1=>simp|2=>simp|3=>simp|n+4=>simp)).later hb3;have hp:w4.heap.size<=w6.heap.size:=hB2.size)|have hh:True:=trivial);(try have r0:=hh.at 0 rfl);(try have r1:=hh.at 1 rfl);(try have r2:=hh.at 2 rfl);(try have r3:=hh.at 3 rfl);(try have rz:=hh.2.1))
     |(have hBB:=hB1;clear hBB;go_at_call 85;refine (χK _ m k S O D t0 t1 t2 t3 t4 t5 t6 t7 t8 _ hmk (by first|exact TT1|exact TT1.later (ζc _ _)) (by first|exact LL1|exact LL1.later (ζc _ _)) q0 q1 q2 q3 q4 q5 q6 q7 q8).mono ?_;rintro o w6 ⟨v6,rfl,hv6,hb2⟩;have R2:ζe w6 v6 (557+(m+k+1)+1+1) ((nrm (pv t0 t1 t2) (pv t3 t4 t5) (pv t6 t7 t8)).dot D):=hv6.up (by omega);obtain ⟨gy,ay,cy,zy,rfl,_,_,_⟩:=hv6;have R1_2:ζe w6 (.agg #[gx,.slice ax zx cx]) (557+(m+k+1)+1+1) ((nrm (pv t0 t1 t2) (pv t3 t4 t5) (pv t6 t7 t8)).dot ((V3.sc S (pv t0 t1 t2)).sub O)):=(by first|exact R1.later hb2|exact (R1.later (ζc _ _)).later hb2);have hB2:Below w4 w4 w6:=(by first|exact hB1.trans (hb2.mono hB1.size)|exact (hB1.trans ((ζc _ _).mono hB1.size)).trans (hb2.mono (hB1.trans ((ζc _ _).mono hB1.size)).size));have TT2:Tab w6:=HT.out _ hB2;have LL2:=HL.out _ hB2;have K2:=HK.out _ hB2)
     |(go_at_call 84;refine (χf _ m k S O D t0 t1 t2 t3 t4 t5 t6 t7 t8 _ hm hmk (by first|exact TT0|exact TT0.later (ζc _ _)) (by first|exact LL0|exact LL0.later (ζc _ _)) q0 q1 q2 q3 q4 q5 q6 q7 q8).mono ?_;rintro o w5 ⟨v5,rfl,hv5,hb1⟩;have R1:ζe w5 v5 (557+(m+k+1)+1+1) ((nrm (pv t0 t1 t2) (pv t3 t4 t5) (pv t6 t7 t8)).dot ((V3.sc S (pv t0 t1 t2)).sub O)):=hv5;obtain ⟨gx,ax,cx,zx,rfl,_,_,_⟩:=hv5;have hB1:Below w4 w4 w5:=(by first|exact hB0.trans (hb1.mono hB0.size)|exact (hB0.trans ((ζc _ _).mono hB0.size)).trans (hb1.mono (hB0.trans ((ζc _ _).mono hB0.size)).size));have TT1:Tab w5:=HT.out _ hB1;have LL1:=HL.out _ hB1;have K1:=HK.out _ hB1))
   all_goals
    go_wp2_with fail
    go_meet
    case rel=>
     refine ⟨_,gp,ap,cp,zp,gq,aq,cq,zq,rfl,?_⟩
     unfold Hid
     first
      |with_reducible exact AdS.new4 _ R3 hB3
      |with_reducible exact AdS.set4 R3 hB3 hh hj (by simp [ζh]) hp
  case rest=>
   obtain ⟨P,gp,ap,cp,zp,gq,aq,cq,zq,rfl,HE⟩:=hcut
   have HI6:=Hid.mk (HI4.out.later HE.out.bel)
   have HF6:Hid (ζR wc (.agg #[gp,.slice ap zp cp,gq,.slice aq zq cq,gp,.slice ap zp cp,gq,.slice aq zq cq]) (m+k+843) NN MM NN MM):=by
    obtain ⟨gg,aa,cc,zz,gg',aa',cc',zz',he,h1,h2⟩:=HE.out.v
    simp only [Value.agg.injEq,Array.mk.injEq,List.cons.injEq,Value.bool.injEq,Value.slice.injEq,and_true] at he
    obtain ⟨rfl,⟨rfl,hz,rfl⟩,rfl,rfl,hz',rfl⟩:=he
    rw [<-hz] at h1
    rw [<-hz'] at h2
    exact ⟨gp,ap,cp,zp,gq,aq,cq,zq,gp,ap,cp,zp,gq,aq,cq,zq,rfl,h1.up (by omega),h2.up (by omega),h1.up (by omega),h2.up (by omega)⟩
   clear HI4 HM4 HK HT HL hB0 TT0 LL0 K0
   obtain ⟨e0,e1,e2,e3⟩:=HE.out.c.c4
   obtain ⟨m0,m1,m2,m3,m4,m5,m6,m7⟩:=HI6.out.m.c8
   have mf:=HI6.out.m.2.1
   obtain ⟨y0,y1,y2,y3,y4,y5,y6,y7⟩:=HI6.out.o.z.c8
   have zf:=HI6.out.o.z.2.1
   have hne:w.heap.size+1+1≠B:=by have:=HI6.out.b;omega
   go_wp2
   refine bodyPost_ret (v:= .agg #[gp,.slice ap zp cp,gq,.slice aq zq cq,gp,.slice ap zp cp,gq,.slice aq zq cq]) (by simp [results,results40,go_sem,y0,y1,y2,y3,y4,y5,y6,y7]) rfl ?_
   have HI7:=HI6.out.setM [gp,.slice ap zp cp,gq,.slice aq zq cq,gp,.slice ap zp cp,gq,.slice aq zq cq] rfl (by simp [ζh])
   exact ⟨_,rfl,(HF6.out.setAll [gp,.slice ap zp cp,gq,.slice aq zq cq,gp,.slice ap zp cp,gq,.slice aq zq cq] wc 0 HI6.out.i2 (by simp [ζh])).setAll [gp,.slice ap zp cp,gq,.slice aq zq cq,gp,.slice ap zp cp,gq,.slice aq zq cq] (setAll wc B 0 [gp,.slice ap zp cp,gq,.slice aq zq cq,gp,.slice ap zp cp,gq,.slice aq zq cq]) 0 HI7.o.i0 (by simp [ζh]),ζd (vs:=[↑gp,.slice ap zp cp,↑gq,.slice aq zq cq,↑gp,.slice ap zp cp,↑gq,.slice aq zq cq]) (b:=w.heap.size+1+1) (by omega) (setAll wc B 0 [gp,.slice ap zp cp,gq,.slice aq zq cq,gp,.slice ap zp cp,gq,.slice aq zq cq]) 0 HI7.o.bel⟩
end Go.Proofs.YtfieffpobgcpmaaGreatDoor
