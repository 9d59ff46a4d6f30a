import Derived.Test.YtfieffpobgcpmaaGreatDoorBgIBgJBhACsASh0S
import Derived.Test.YtfieffpobgcpmaaGreatDoorHmAFrHS
import Derived.Test.YtfieffpobgcpmaaGreatDoorBhFBhGS
import Derived.Test.YtfieffpobgcpmaaGreatDoorBhJToBgOS
import Derived.Test.YtfieffpobgcpmaaGreatDoorBgNReARkACoAS
import Derived.Deep.MidRow
import Derived.Deep.CutRange
import Derived.Deep.RegionHeld3
set_option maxRecDepth 100000
set_option maxHeartbeats 32000000
namespace Go.Proofs.YtfieffpobgcpmaaGreatDoor
open Go.RowKit Go.Proofs.Tryz
variable {w W W0:World} {L T N M:List Value} {B1 B2:Nat} {A B C:Int}
structure Ip0 (w:World) (L T:List Value) (W:World):Prop where
 l:Cs W w L
 t:Cs W (↑w+1) T
 z:Cs W (↑w+1+1) [false,(),false,(),false,(),false,()]
 i0:ζf W (↑w+1+1)
 bel:Below w w W
theorem Ip0.later {W':World} (h:Ip0 w L T W) (hb:Below W W W'):Ip0 w L T W':=
 ⟨h.l.later hb,h.t.later hb,h.z.later hb,h.i0.later hb,h.bel.trans (hb.mono h.bel.size)⟩
theorem Ip0.start (w:World) (Lc Tc:Array Value) (t0 t1 t2:TypeId):Ip0 w Lc.toList Tc.toList (((w.alloc (.cells Lc t0)).alloc (.cells Tc t1)).alloc (.cells #[false,(),false,(),false,(),false,()] t2)):=by
 have h1:=Cs.new (w.alloc (.cells Lc t0)) Tc t1
 have h2:=Cs.new ((w.alloc (.cells Lc t0)).alloc (.cells Tc t1)) #[false,(),false,(),false,(),false,()] t2
 have h3:=ζf.new ((w.alloc (.cells Lc t0)).alloc (.cells Tc t1)) #[false,(),false,(),false,(),false,()] t2 (fun i k m=>by match i with|0=>simp|1=>simp|2=>simp|3=>simp|4=>simp|5=>simp|6=>simp|7=>simp|n+8=>simp)
 have e1:(w.alloc (.cells Lc t0)).heap.size=w.heap.size+1:=by simp
 have e2:((w.alloc (.cells Lc t0)).alloc (.cells Tc t1)).heap.size=w.heap.size+1+1:=by simp
 rw [e1] at h1
 rw [e2] at h2 h3
 exact ⟨((Cs.new w Lc t0).later (ζc _ _)).later (ζc _ _),h1.later (ζc _ _),h2,h3,((ζc _ _).trans ((ζc _ _).mono (by simp<;>omega))).trans ((ζc _ _).mono (by simp<;>omega))⟩
structure IpS (w:World) (B1 B2:Nat) (L T N M:List Value) (W:World):Prop where
 o:Ip0 w L T W
 n:Cs W B1 N
 m:Cs W B2 M
 i2:ζf W B2
 b1:w.heap.size+1+1<B1
 b2:B1<B2
theorem IpS.later {W':World} (h:IpS w B1 B2 L T N M W) (hb:Below W W W'):IpS w B1 B2 L T N M W':=
 ⟨h.o.later hb,h.n.later hb,h.m.later hb,h.i2.later hb,h.b1,h.b2⟩
theorem IpS.setT (h:IpS w B1 B2 L T N M W) (vs:List Value) (hl:0+vs.length<=T.length):IpS w B1 B2 L (τz T 0 vs) N M (setAll W (↑w+1) 0 vs):=by
 have h1:=h.b1
 have h2:=h.b2
 refine ⟨⟨h.o.l.setAllO (by omega) vs W 0 L,Cs.setAll vs W 0 T h.o.t hl,h.o.z.setAllO (by omega) vs W 0 _,?_,ζd (by omega) vs W 0 h.o.bel⟩,h.n.setAllO (by omega) vs W 0 N,h.m.setAllO (by omega) vs W 0 M,?_,h1,h2⟩
 ·exact ζf.setBlock (by omega) vs W 0 h.o.i0
 ·exact ζf.setBlock (by omega) vs W 0 h.i2
theorem IpS.setM (h:IpS w B1 B2 L T N M W) (vs:List Value) (hl:0+vs.length<=M.length) (hn: ∀u∈vs,ζh u):IpS w B1 B2 L T N (τz M 0 vs) (setAll W B2 0 vs):=by
 have h1:=h.b1
 have h2:=h.b2
 exact ⟨⟨h.o.l.setAllO (by omega) vs W 0 L,h.o.t.setAllO (by omega) vs W 0 T,h.o.z.setAllO (by omega) vs W 0 _,ζf.setAllX vs W 0 h.o.i0 hn,ζd (by omega) vs W 0 h.o.bel⟩,h.n.setAllO (by omega) vs W 0 N,Cs.setAll vs W 0 M h.m hl,ζf.setAllX vs W 0 h.i2 hn,h1,h2⟩
structure T9 where
 (a0 a1 a2 a3 a4 a5 a6 a7 a8:Int)
def T9.rot (t:T9):T9:=⟨t.a3,t.a4,t.a5,t.a6,t.a7,t.a8,t.a0,t.a1,t.a2⟩
def inStep (S:Int) (N O D:V3) (t:T9) (R:Int×Int×Int×Int):Int×Int×Int×Int:=
 ζS R.1 R.2.1 R.2.2.1 R.2.2.2 ((N.cross ((pv t.a3 t.a4 t.a5).sub (pv t.a0 t.a1 t.a2))).dot D) ((N.cross ((pv t.a3 t.a4 t.a5).sub (pv t.a0 t.a1 t.a2))).dot ((V3.sc S (pv t.a0 t.a1 t.a2)).sub O))
def inPl (S:Int) (N O D:V3):Nat->T9->Int×Int×Int×Int->Int×Int×Int×Int
 |0,_,R=>R
 |n+1,t,R=>inPl S N O D n t.rot (inStep S N O D t R)
structure EdS (W0:World) (P:Nat) (v:Value) (us:List Value) (A B C:Int) (W:World):Prop where
 c:Cs W P us
 v:ζM W v 278 A B C
 le:W0.heap.size<=P
 bel:Below W0 W0 W
theorem EdS.new {v:Value} {cs:Array Value} (t:TypeId) (h:ζM W v 278 A B C) (hb:Below W0 W0 W):EdS W0 W v cs.toList A B C (W.alloc (.cells cs t)):=
 ⟨Cs.new W cs t,h.later (ζc _ _),hb.size,hb.trans ((ζc _ _).mono hb.size)⟩
theorem EdS.set {P:Nat} {v:Value} {us vs:List Value} (hc:Cs W P us) (hn:ζf W P) (hl:0+vs.length<=us.length) (hv: ∀u∈vs,ζh u) (h:ζM W v 278 A B C) (hb:Below W0 W0 W) (hP:W0.heap.size<=P):EdS W0 P v (τz us 0 vs) A B C (setAll W P 0 vs):=
 ⟨Cs.setAll vs W 0 us hc hl,h.setAll vs W 0 hn hv,hP,ζd hP vs W 0 hb⟩
theorem EdS.new6 {u0 u1 u2 u3 u4 u5:Value} (t:TypeId) (h:ζM W (.agg #[u0,u1,u2,u3,u4,u5]) 278 A B C) (hb:Below W0 W0 W):EdS W0 W (.agg #[u0,u1,u2,u3,u4,u5]) [u0,u1,u2,u3,u4,u5] A B C (W.alloc (.cells #[u0,u1,u2,u3,u4,u5] t)):=EdS.new t h hb
theorem EdS.set6 {P:Nat} {u0 u1 u2 u3 u4 u5:Value} (h:ζM W (.agg #[u0,u1,u2,u3,u4,u5]) 278 A B C) (hb:Below W0 W0 W) (hc:Cs W P [false,(),false,(),false,()]) (hn:ζf W P) (hv: ∀u∈[u0,u1,u2,u3,u4,u5],ζh u) (hP:W0.heap.size<=P):EdS W0 P (.agg #[u0,u1,u2,u3,u4,u5]) [u0,u1,u2,u3,u4,u5] A B C ((((((W.setCell ⟨P,0,none⟩ u0).setCell ⟨P,1,none⟩ u1).setCell ⟨P,2,none⟩ u2).setCell ⟨P,3,none⟩ u3).setCell ⟨P,4,none⟩ u4).setCell ⟨P,5,none⟩ u5):=
 EdS.set (vs:=[u0,u1,u2,u3,u4,u5]) hc hn (by simp) hv h hb hP
def ηx (w:World) (e:Nat) (R:Int×Int×Int×Int) (o:Ending) (w':World):Prop:=νT w e R.1 R.2.1 R.2.2.1 R.2.2.2 o w'
theorem inPlane_any (v:Value) (m k:Nat) (S:Int) (O D:V3) (t0 t1 t2 t3 t4 t5 t6 t7 t8:Int) (w:World) (hm:277<=m) (hmk:3*m+2*k<=28000) (hT:Tab w) (hl:ξi w v m k S O D) (h0:Cor t0) (h1:Cor t1) (h2:Cor t2) (h3:Cor t3) (h4:Cor t4) (h5:Cor t5) (h6:Cor t6) (h7:Cor t7) (h8:Cor t8):
 Calls prog 86 #[v,.agg #[t0,t1,t2,t3,t4,t5,t6,t7,t8]] w fun o w'=>ηx w (m+k+843) (inPl S (nrm (pv t0 t1 t2) (pv t3 t4 t5) (pv t6 t7 t8)) O D 3 ⟨t0,t1,t2,t3,t4,t5,t6,t7,t8⟩ (0,1,1,0)) o w':=by
 have hll:=hl
 obtain ⟨gs1,as1,cs1,zs1,gs2,as2,cs2,zs2,gs3,as3,cs3,zs3,gd1,ad1,cd1,zd1,gd2,ad2,cd2,zd2,gd3,ad3,cd3,zd3,gk,ak,ck,zk,rfl,_,hal,_⟩:=hl
 have HAL:Hid (∀w',Below w w w'->ζM w' (.agg #[gd1,.slice ad1 zd1 cd1,gd2,.slice ad2 zd2 cd2,gd3,.slice ad3 zd3 cd3]) m D.x D.y D.z):=fun w' hb=>hal.later hb
 have HLL:Hid (∀w',Below w w w'->ξi w' (.agg #[gs1,.slice as1 zs1 cs1,gs2,.slice as2 zs2 cs2,gs3,.slice as3 zs3 cs3,gd1,.slice ad1 zd1 cd1,gd2,.slice ad2 zd2 cd2,gd3,.slice ad3 zd3 cd3,gk,.slice ak zk ck]) m k S O D):=fun w' hb=>hll.later hb
 have HTT:Hid (∀w',Below w w w'->Tab w'):=fun w' hb=>hT.later hb
 have HI0:Hid (∀s0 s1 s2,Ip0 w [gs1,.slice as1 zs1 cs1,gs2,.slice as2 zs2 cs2,gs3,.slice as3 zs3 cs3,gd1,.slice ad1 zd1 cd1,gd2,.slice ad2 zd2 cd2,gd3,.slice ad3 zd3 cd3,gk,.slice ak zk ck] [t0,t1,t2,t3,t4,t5,t6,t7,t8] (((w.alloc (.cells #[gs1,.slice as1 zs1 cs1,gs2,.slice as2 zs2 cs2,gs3,.slice as3 zs3 cs3,gd1,.slice ad1 zd1 cd1,gd2,.slice ad2 zd2 cd2,gd3,.slice ad3 zd3 cd3,gk,.slice ak zk ck] s0)).alloc (.cells #[t0,t1,t2,t3,t4,t5,t6,t7,t8] s1)).alloc (.cells #[false,(),false,(),false,(),false,()] s2))):=fun s0 s1 s2=>Ip0.start w _ _ s0 s1 s2
 clear hll hT hal
 go_enter func86,ntmps86
 go_wp2_with fail
 refine (χe t0 t1 t2 t3 t4 t5 t6 t7 t8 _ (HTT.out _ (HI0.out _ _ _).bel) h0 h1 h2 h3 h4 h5 h6 h7 h8).mono ?_
 rintro o w1 ⟨v1,rfl,hv1,hb1,hn1⟩
 have HV1:=Hid.mk hv1
 have HA1:Hid (AvV (↑w+1) v1):=hn1 _ (by simp<;>omega)
 obtain ⟨gn1,an1,cn1,zn1,gn2,an2,cn2,zn2,gn3,an3,cn3,zn3,rfl,_,_,_⟩:=hv1
 have HI1:Hid (Ip0 w [gs1,.slice as1 zs1 cs1,gs2,.slice as2 zs2 cs2,gs3,.slice as3 zs3 cs3,gd1,.slice ad1 zd1 cd1,gd2,.slice ad2 zd2 cd2,gd3,.slice ad3 zd3 cd3,gk,.slice ak zk ck] [t0,t1,t2,t3,t4,t5,t6,t7,t8] w1):=(HI0.out _ _ _).later hb1
 have HS1:Hid (w.heap.size+1+1<w1.heap.size):=HI1.out.z.1
 clear hb1 HI0 hn1
 have y0:w.heap.size<w1.heap.size:=by have:=HS1.out;omega
 have y1:w.heap.size+1<w1.heap.size:=by have:=HS1.out;omega
 have y2:w.heap.size+1+1<w1.heap.size:=HS1.out
 go_wp2_with fail
 refine (σd (m+k+843) _).mono ?_
 rintro o w2 ⟨v2,rfl,hv2,hb2,hn2⟩
 have HM2:=Hid.mk hv2
 have HA2:Hid (AvV (↑w+1) v2):=hn2 _ (by simp<;>omega)
 obtain ⟨g1,a1,c1,z1,g2,a2,c2,z2,g3,a3,c3,z3,g4,a4,c4,z4,rfl,_,_,_,_⟩:=hv2
 have HI2:Hid (Ip0 w [gs1,.slice as1 zs1 cs1,gs2,.slice as2 zs2 cs2,gs3,.slice as3 zs3 cs3,gd1,.slice ad1 zd1 cd1,gd2,.slice ad2 zd2 cd2,gd3,.slice ad3 zd3 cd3,gk,.slice ak zk ck] [t0,t1,t2,t3,t4,t5,t6,t7,t8] w2):=(HI1.out.later (ζc _ _)).later hb2
 have HN2:Hid (Cs w2 w1 [gn1,.slice an1 zn1 cn1,gn2,.slice an2 zn2 cn2,gn3,.slice an3 zn3 cn3]):=(Cs.new _ _ _).later hb2
 have HV2:Hid (ζM w2 (.agg #[gn1,.slice an1 zn1 cn1,gn2,.slice an2 zn2 cn2,gn3,.slice an3 zn3 cn3]) 557 (nrm (pv t0 t1 t2) (pv t3 t4 t5) (pv t6 t7 t8)).x (nrm (pv t0 t1 t2) (pv t3 t4 t5) (pv t6 t7 t8)).y (nrm (pv t0 t1 t2) (pv t3 t4 t5) (pv t6 t7 t8)).z):=(HV1.out.later (ζc _ _)).later hb2
 clear hb2 hn2 HI1 HV1
 clear y0 y1 y2
 generalize hB1:w1.heap.size=B1 at*
 clear hB1
 have HI3:Hid (∀t,IpS w B1 w2 [gs1,.slice as1 zs1 cs1,gs2,.slice as2 zs2 cs2,gs3,.slice as3 zs3 cs3,gd1,.slice ad1 zd1 cd1,gd2,.slice ad2 zd2 cd2,gd3,.slice ad3 zd3 cd3,gk,.slice ak zk ck] [t0,t1,t2,t3,t4,t5,t6,t7,t8] [gn1,.slice an1 zn1 cn1,gn2,.slice an2 zn2 cn2,gn3,.slice an3 zn3 cn3] [g1,.slice a1 z1 c1,g2,.slice a2 z2 c2,g3,.slice a3 z3 c3,g4,.slice a4 z4 c4] (w2.alloc (.cells #[g1,.slice a1 z1 c1,g2,.slice a2 z2 c2,g3,.slice a3 z3 c3,g4,.slice a4 z4 c4] t))):=fun t=>⟨HI2.out.later (ζc _ _),HN2.out.later (ζc _ _),Cs.new _ _ _,ζf.new _ _ _ (fun i k m=>by match i with|0=>simp|1=>simp|2=>simp|3=>simp|4=>simp|5=>simp|6=>simp|7=>simp|n+8=>simp),HS1.out,HN2.out.1⟩
 have HV3:Hid (∀t,ζM (w2.alloc (.cells #[g1,.slice a1 z1 c1,g2,.slice a2 z2 c2,g3,.slice a3 z3 c3,g4,.slice a4 z4 c4] t)) (.agg #[gn1,.slice an1 zn1 cn1,gn2,.slice an2 zn2 cn2,gn3,.slice an3 zn3 cn3]) 557 (nrm (pv t0 t1 t2) (pv t3 t4 t5) (pv t6 t7 t8)).x (nrm (pv t0 t1 t2) (pv t3 t4 t5) (pv t6 t7 t8)).y (nrm (pv t0 t1 t2) (pv t3 t4 t5) (pv t6 t7 t8)).z):=fun t=>HV2.out.later (ζc _ _)
 have HM3:Hid (∀t,ζR (w2.alloc (.cells #[g1,.slice a1 z1 c1,g2,.slice a2 z2 c2,g3,.slice a3 z3 c3,g4,.slice a4 z4 c4] t)) (.agg #[g1,.slice a1 z1 c1,g2,.slice a2 z2 c2,g3,.slice a3 z3 c3,g4,.slice a4 z4 c4]) (m+k+843) 0 1 1 0):=fun t=>HM2.out.later (ζc _ _)
 clear HI2 HN2 HV2 HM2
 go_wp2_with fail
 generalize hB2:w2.heap.size=B2 at*
 clear hB2
 go_loopw [7,8,17] (fun _ _ s17 wr=> ∃(i:Nat) (q0 q1 q2 q3 q4 q5 q6 q7 q8 p q r s:Int) (g1:Bool) (a1:Option Addr) (c1:Nat) (z1:List Int) (g2:Bool) (a2:Option Addr) (c2:Nat) (z2:List Int) (g3:Bool) (a3:Option Addr) (c3:Nat) (z3:List Int) (g4:Bool) (a4:Option Addr) (c4:Nat) (z4:List Int),s17= .int .i64 i∧i<=3∧Hid (inPl S (nrm (pv t0 t1 t2) (pv t3 t4 t5) (pv t6 t7 t8)) O D (3-i) ⟨q0,q1,q2,q3,q4,q5,q6,q7,q8⟩ (p,q,r,s)=inPl S (nrm (pv t0 t1 t2) (pv t3 t4 t5) (pv t6 t7 t8)) O D 3 ⟨t0,t1,t2,t3,t4,t5,t6,t7,t8⟩ (0,1,1,0))∧Hid (Cor q0∧Cor q1∧Cor q2∧Cor q3∧Cor q4∧Cor q5∧Cor q6∧Cor q7∧Cor q8)∧Hid (IpS w B1 B2 [gs1,.slice as1 zs1 cs1,gs2,.slice as2 zs2 cs2,gs3,.slice as3 zs3 cs3,gd1,.slice ad1 zd1 cd1,gd2,.slice ad2 zd2 cd2,gd3,.slice ad3 zd3 cd3,gk,.slice ak zk ck] [q0,q1,q2,q3,q4,q5,q6,q7,q8] [gn1,.slice an1 zn1 cn1,gn2,.slice an2 zn2 cn2,gn3,.slice an3 zn3 cn3] [g1,.slice a1 z1 c1,g2,.slice a2 z2 c2,g3,.slice a3 z3 c3,g4,.slice a4 z4 c4] wr)∧Hid (ζM wr (.agg #[gn1,.slice an1 zn1 cn1,gn2,.slice an2 zn2 cn2,gn3,.slice an3 zn3 cn3]) 557 (nrm (pv t0 t1 t2) (pv t3 t4 t5) (pv t6 t7 t8)).x (nrm (pv t0 t1 t2) (pv t3 t4 t5) (pv t6 t7 t8)).y (nrm (pv t0 t1 t2) (pv t3 t4 t5) (pv t6 t7 t8)).z)∧Hid (ζR wr (.agg #[g1,.slice a1 z1 c1,g2,.slice a2 z2 c2,g3,.slice a3 z3 c3,g4,.slice a4 z4 c4]) (m+k+843) p q r s)∧Hid (AvV (↑w+1) (.agg #[g1,.slice a1 z1 c1,g2,.slice a2 z2 c2,g3,.slice a3 z3 c3,g4,.slice a4 z4 c4]))) (fun _ _ s17 _=>3-(intOf s17).toNat)
 case atStart=>exact ⟨0,t0,t1,t2,t3,t4,t5,t6,t7,t8,0,1,1,0,g1,a1,c1,z1,g2,a2,c2,z2,g3,a3,c3,z3,g4,a4,c4,z4,rfl,by omega,rfl,⟨h0,h1,h2,h3,h4,h5,h6,h7,h8⟩,HI3.out _,HV3.out _,HM3.out _,HA2.out⟩
 case round=>
  clear HI3 HV3 HM3 HA2 h0 h1 h2 h3 h4 h5 h6 h7 h8
  obtain ⟨i,q0,q1,q2,q3,q4,q5,q6,q7,q8,p,q,r,s,g1,a1,c1,z1,g2,a2,c2,z2,g3,a3,c3,z3,g4,a4,c4,z4,rfl,hi3,HFIN,HC,HI,HV,HM,HAM⟩:=hrel
  obtain ⟨k0,k1,k2,k3,k4,k5,k6,k7,k8⟩:=HC.out
  rcases (show i<3∨i=3 by omega) with hlt|rfl
  ·have hib:(i:Int)<3:=by omega
   have HT:Hid (∀w',Below _ _ w'->Tab w'):=fun w' hb=>HTT.out w' (HI.out.o.bel.trans (hb.mono HI.out.o.bel.size))
   have HK:Hid (∀w',Below wr wr w'->w'.cell? ⟨↑w+1,0,none⟩=some ↑q0∧w'.cell? ⟨↑w+1,1,none⟩=some ↑q1∧w'.cell? ⟨↑w+1,2,none⟩=some ↑q2∧w'.cell? ⟨↑w+1,3,none⟩=some ↑q3∧w'.cell? ⟨↑w+1,4,none⟩=some ↑q4∧w'.cell? ⟨↑w+1,5,none⟩=some ↑q5∧Below wr wr w'):=fun w' hb=>⟨(HI.out.o.t.later hb).at 0 rfl,(HI.out.o.t.later hb).at 1 rfl,(HI.out.o.t.later hb).at 2 rfl,(HI.out.o.t.later hb).at 3 rfl,(HI.out.o.t.later hb).at 4 rfl,(HI.out.o.t.later hb).at 5 rfl,hb⟩
   have hB0:Below wr wr wr.drew:=(Below.refl _ _).drew
   have TT0:Tab wr.drew:=HT.out _ hB0
   have K0:=HK.out _ hB0
   go_wp2
   go_cut [7] from 18 to 43 (fun s7 wx=> ∃(P:Nat) (ge1:Bool) (ae1:Option Addr) (ce1:Nat) (ze1:List Int) (ge2:Bool) (ae2:Option Addr) (ce2:Nat) (ze2:List Int) (ge3:Bool) (ae3:Option Addr) (ce3:Nat) (ze3:List Int),s7= .pointer (some ⟨P,0,none⟩)∧Hid (EdS wr P (.agg #[ge1,.slice ae1 ze1 ce1,ge2,.slice ae2 ze2 ce2,ge3,.slice ae3 ze3 ce3]) [ge1,.slice ae1 ze1 ce1,ge2,.slice ae2 ze2 ce2,ge3,.slice ae3 ze3 ce3] (cor q3-cor q0) (cor q4-cor q1) (cor q5-cor q2) wx))
   case first=>
    go_region_held3 (fun w'=>w'.cell? ⟨↑w+1,0,none⟩=some ↑q0∧w'.cell? ⟨↑w+1,1,none⟩=some ↑q1∧w'.cell? ⟨↑w+1,2,none⟩=some ↑q2∧w'.cell? ⟨↑w+1,3,none⟩=some ↑q3∧w'.cell? ⟨↑w+1,4,none⟩=some ↑q4∧w'.cell? ⟨↑w+1,5,none⟩=some ↑q5∧Below wr wr w')
     (first|with_reducible assumption|with_reducible exact HK.out _ (hB3.trans ((ζc _ _).mono hB3.size))|with_reducible exact HK.out _ (hB2.trans ((ζc _ _).mono hB2.size))|with_reducible exact HK.out _ (hB1.trans ((ζc _ _).mono hB1.size))|with_reducible exact HK.out _ (hB0.trans ((ζc _ _).mono hB0.size))|with_reducible exact HK.out _ (Below.setCell (Below.setCell (Below.setCell (Below.setCell (Below.setCell (Below.setCell hB3 (by first|exact hp| (simp;exact hp)) _) (by first|exact hp| (simp;exact hp)) _) (by first|exact hp| (simp;exact hp)) _) (by first|exact hp| (simp;exact hp)) _) (by first|exact hp| (simp;exact hp)) _) (by first|exact hp| (simp;exact hp)) _)|exact HK.out _ (hB0.trans ((ζc _ _).mono hB0.size)))
     (first
      |(have hBB:=hB2;clear hBB;go_at_call 135;refine (ξy _ _ 277 (cor q3) (cor q4) (cor q5) (cor q0) (cor q1) (cor q2) _ (by omega) (by first|exact R1_2|exact R1_2.later (ζc _ _)) (by first|exact R2_2|exact R2_2.later (ζc _ _))).mono ?_;rintro o w3 ⟨v3,rfl,hv3,hb3⟩;have R3_3:ζM w3 v3 278 (cor q3-cor q0) (cor q4-cor q1) (cor q5-cor q2):=hv3;obtain ⟨ge1,ae1,ce1,ze1,ge2,ae2,ce2,ze2,ge3,ae3,ce3,ze3,rfl,_,_,_⟩:=hv3;have hB3:Below wr wr w3:=(by first|exact hB2.trans (hb3.mono hB2.size)|exact (hB2.trans ((ζc _ _).mono hB2.size)).trans (hb3.mono (hB2.trans ((ζc _ _).mono hB2.size)).size));have TT3:Tab w3:=HT.out _ hB3;have K3:=HK.out _ hB3;(first| (have hh:Cs w3 wr [false,(),false,(),false,()]:=(((Cs.new wr.drew #[false,(),false,(),false,()] 92).later hb1).later hb2).later hb3;have hj:ζf w3 wr.heap.size:=(((ζf.new wr.drew #[false,(),false,(),false,()] 92 (fun i k m=>by match i with|0=>simp|1=>simp|2=>simp|3=>simp|4=>simp|5=>simp|n+6=>simp)).later hb1).later hb2).later hb3;have hp:wr.heap.size<=wr.heap.size:=Nat.le_refl _)| (have hh:=((Cs.new w1 #[false,(),false,(),false,()] 92).later hb2).later hb3;have hj:=((ζf.new w1 #[false,(),false,(),false,()] 92 (fun i k m=>by match i with|0=>simp|1=>simp|2=>simp|3=>simp|4=>simp|5=>simp|n+6=>simp)).later hb2).later hb3;have hp:wr.heap.size<=w1.heap.size:=hB1.size)| (have hh:=(Cs.new w2 #[false,(),false,(),false,()] 92).later hb3;have hj:=(ζf.new w2 #[false,(),false,(),false,()] 92 (fun i k m=>by match i with|0=>simp|1=>simp|2=>simp|3=>simp|4=>simp|5=>simp|n+6=>simp)).later hb3;have hp:wr.heap.size<=w2.heap.size:=hB2.size)|have hh:True:=trivial);(try have r0:=hh.at 0 rfl);(try have r1:=hh.at 1 rfl);(try have r2:=hh.at 2 rfl);(try have r3:=hh.at 3 rfl);(try have r4:=hh.at 4 rfl);(try have r5:=hh.at 5 rfl);(try have rz:=hh.2.1))
      |(have hBB:=hB1;clear hBB;go_at_call 122;refine (ξe q0 q1 q2 _ (by first|exact TT1|exact TT1.later (ζc _ _)) k0 k1 k2).mono ?_;rintro o w2 ⟨v2,rfl,hv2,hb2⟩;have R2_2:ζM w2 v2 277 (cor q0) (cor q1) (cor q2):=hv2;obtain ⟨ga1,aa1,ca1,za1,ga2,aa2,ca2,za2,ga3,aa3,ca3,za3,rfl,_,_,_⟩:=hv2;have R1_2:ζM w2 (.agg #[gb1,.slice ab1 zb1 cb1,gb2,.slice ab2 zb2 cb2,gb3,.slice ab3 zb3 cb3]) 277 (cor q3) (cor q4) (cor q5):=(by first|exact R1_1.later hb2|exact (R1_1.later (ζc _ _)).later hb2);have hB2:Below wr wr w2:=(by first|exact hB1.trans (hb2.mono hB1.size)|exact (hB1.trans ((ζc _ _).mono hB1.size)).trans (hb2.mono (hB1.trans ((ζc _ _).mono hB1.size)).size));have TT2:Tab w2:=HT.out _ hB2;have K2:=HK.out _ hB2)
      |(go_at_call 122;refine (ξe q3 q4 q5 _ (by first|exact TT0|exact TT0.later (ζc _ _)) k3 k4 k5).mono ?_;rintro o w1 ⟨v1,rfl,hv1,hb1⟩;have R1_1:ζM w1 v1 277 (cor q3) (cor q4) (cor q5):=hv1;obtain ⟨gb1,ab1,cb1,zb1,gb2,ab2,cb2,zb2,gb3,ab3,cb3,zb3,rfl,_,_,_⟩:=hv1;have hB1:Below wr wr w1:=(by first|exact hB0.trans (hb1.mono hB0.size)|exact (hB0.trans ((ζc _ _).mono hB0.size)).trans (hb1.mono (hB0.trans ((ζc _ _).mono hB0.size)).size));have TT1:Tab w1:=HT.out _ hB1;have K1:=HK.out _ hB1))
    all_goals
     go_wp2_with fail
     go_meet
     case rel=>
      refine ⟨_,ge1,ae1,ce1,ze1,ge2,ae2,ce2,ze2,ge3,ae3,ce3,ze3,rfl,?_⟩
      unfold Hid
      first
       |with_reducible exact EdS.new6 _ R3_3 hB3
       |with_reducible exact EdS.set6 R3_3 hB3 hh hj (by simp [ζh]) hp
   case rest=>
    obtain ⟨P,ge1,ae1,ce1,ze1,ge2,ae2,ce2,ze2,ge3,ae3,ce3,ze3,rfl,HE⟩:=hcut
    have HI6:=Hid.mk (HI.out.later HE.out.bel)
    have HV6:=Hid.mk (HV.out.later HE.out.bel)
    have HM6:=Hid.mk (HM.out.later HE.out.bel)
    clear HI HV HM HK HT hB0 TT0 K0
    obtain ⟨n0,n1,n2,n3,n4,n5⟩:=HI6.out.n.c6
    obtain ⟨e0,e1,e2,e3,e4,e5⟩:=HE.out.c.c6
    go_wp2_with fail
    refine (ψL _ _ 557 278 _ _ _ _ _ _ _ (by omega) HV6.out HE.out.v).mono ?_
    rintro o w4 ⟨v4,rfl,hv4,hb4,hn4⟩
    have HW4:=Hid.mk hv4
    obtain ⟨gw1,aw1,cw1,zw1,gw2,aw2,cw2,zw2,gw3,aw3,cw3,zw3,rfl,_,_,_⟩:=hv4
    have HI7:=Hid.mk (HI6.out.later hb4)
    have HV7:=Hid.mk (HV6.out.later hb4)
    have HM7:=Hid.mk (HM6.out.later hb4)
    clear hb4 hn4 HE HI6 HV6 HM6 n0 n1 n2 n3 n4 n5 e0 e1 e2 e3 e4 e5
    go_wp2_with fail
    obtain ⟨W7,hW7⟩: ∃V,V=w4.alloc (.cells #[gw1,.slice aw1 zw1 cw1,gw2,.slice aw2 zw2 cw2,gw3,.slice aw3 zw3 cw3] 92):=⟨_,rfl⟩
    rw [<-hW7]
    have HI8:Hid (IpS w B1 B2 [gs1,.slice as1 zs1 cs1,gs2,.slice as2 zs2 cs2,gs3,.slice as3 zs3 cs3,gd1,.slice ad1 zd1 cd1,gd2,.slice ad2 zd2 cd2,gd3,.slice ad3 zd3 cd3,gk,.slice ak zk ck] [q0,q1,q2,q3,q4,q5,q6,q7,q8] [gn1,.slice an1 zn1 cn1,gn2,.slice an2 zn2 cn2,gn3,.slice an3 zn3 cn3] [g1,.slice a1 z1 c1,g2,.slice a2 z2 c2,g3,.slice a3 z3 c3,g4,.slice a4 z4 c4] W7):=by rw [hW7];exact HI7.out.later (ζc _ _)
    have HV8:Hid (ζM W7 (.agg #[gn1,.slice an1 zn1 cn1,gn2,.slice an2 zn2 cn2,gn3,.slice an3 zn3 cn3]) 557 (nrm (pv t0 t1 t2) (pv t3 t4 t5) (pv t6 t7 t8)).x (nrm (pv t0 t1 t2) (pv t3 t4 t5) (pv t6 t7 t8)).y (nrm (pv t0 t1 t2) (pv t3 t4 t5) (pv t6 t7 t8)).z):=by rw [hW7];exact HV7.out.later (ζc _ _)
    have HM8:Hid (ζR W7 (.agg #[g1,.slice a1 z1 c1,g2,.slice a2 z2 c2,g3,.slice a3 z3 c3,g4,.slice a4 z4 c4]) (m+k+843) p q r s):=by rw [hW7];exact HM7.out.later (ζc _ _)
    have HW8:Hid (ζM W7 (.agg #[gw1,.slice aw1 zw1 cw1,gw2,.slice aw2 zw2 cw2,gw3,.slice aw3 zw3 cw3]) 836 ((nrm (pv t0 t1 t2) (pv t3 t4 t5) (pv t6 t7 t8)).cross ((pv q3 q4 q5).sub (pv q0 q1 q2))).x ((nrm (pv t0 t1 t2) (pv t3 t4 t5) (pv t6 t7 t8)).cross ((pv q3 q4 q5).sub (pv q0 q1 q2))).y ((nrm (pv t0 t1 t2) (pv t3 t4 t5) (pv t6 t7 t8)).cross ((pv q3 q4 q5).sub (pv q0 q1 q2))).z):=by rw [hW7];exact HW4.out.later (ζc _ _)
    have HC8:Hid (Cs W7 w4 [gw1,.slice aw1 zw1 cw1,gw2,.slice aw2 zw2 cw2,gw3,.slice aw3 zw3 cw3]):=by rw [hW7];exact Cs.new _ _ _
    clear hW7 HI7 HV7 HM7 HW4
    generalize hPW:w4.heap.size=PW at*
    clear hPW
    have HT7:Hid (∀w',Below W7 W7 w'->Tab w'):=fun w' hb=>HTT.out w' (HI8.out.o.bel.trans (hb.mono HI8.out.o.bel.size))
    have HL7:Hid (∀w',Below W7 W7 w'->ξi w' (.agg #[gs1,.slice as1 zs1 cs1,gs2,.slice as2 zs2 cs2,gs3,.slice as3 zs3 cs3,gd1,.slice ad1 zd1 cd1,gd2,.slice ad2 zd2 cd2,gd3,.slice ad3 zd3 cd3,gk,.slice ak zk ck]) m k S O D):=fun w' hb=>HLL.out w' (HI8.out.o.bel.trans (hb.mono HI8.out.o.bel.size))
    have HK7:Hid (∀w',Below W7 W7 w'->(fun w'=>IpS w B1 B2 [gs1,.slice as1 zs1 cs1,gs2,.slice as2 zs2 cs2,gs3,.slice as3 zs3 cs3,gd1,.slice ad1 zd1 cd1,gd2,.slice ad2 zd2 cd2,gd3,.slice ad3 zd3 cd3,gk,.slice ak zk ck] [q0,q1,q2,q3,q4,q5,q6,q7,q8] [gn1,.slice an1 zn1 cn1,gn2,.slice an2 zn2 cn2,gn3,.slice an3 zn3 cn3] [g1,.slice a1 z1 c1,g2,.slice a2 z2 c2,g3,.slice a3 z3 c3,g4,.slice a4 z4 c4] w'∧Cs w' PW [gw1,.slice aw1 zw1 cw1,gw2,.slice aw2 zw2 cw2,gw3,.slice aw3 zw3 cw3]∧Below W7 W7 w') w'):=fun w' hb=>⟨HI8.out.later hb,HC8.out.later hb,hb⟩
    refine ζb.region (fun w'=>IpS w B1 B2 [gs1,.slice as1 zs1 cs1,gs2,.slice as2 zs2 cs2,gs3,.slice as3 zs3 cs3,gd1,.slice ad1 zd1 cd1,gd2,.slice ad2 zd2 cd2,gd3,.slice ad3 zd3 cd3,gk,.slice ak zk ck] [q0,q1,q2,q3,q4,q5,q6,q7,q8] [gn1,.slice an1 zn1 cn1,gn2,.slice an2 zn2 cn2,gn3,.slice an3 zn3 cn3] [g1,.slice a1 z1 c1,g2,.slice a2 z2 c2,g3,.slice a3 z3 c3,g4,.slice a4 z4 c4] w'∧Cs w' PW [gw1,.slice aw1 zw1 cw1,gw2,.slice aw2 zw2 cw2,gw3,.slice aw3 zw3 cw3]∧Below W7 W7 w') 12 (by kernel_rfl) ?_
    have hS:=HK7.out W7.drew (Below.refl _ _).drew
    refine ζb.take (i:=0) rfl rfl (by kernel_rfl) (by kernel_rfl) (by kernel_rfl) (by kernel_rfl) rfl (fun _ _ _ h=>h) (yieldsIf_load_mid rfl 83 (.tmp 6) rfl B2 0 rfl [g1,.slice a1 z1 c1,g2,.slice a2 z2 c2,g3,.slice a3 z3 c3,g4,.slice a4 z4 c4] _ (fun w' h=>(h.1.m).range 0 8) underlying83 rfl (by kernel_rfl)) hS ?_
    (try simp only [Act.put])
    refine ζb.take (i:=1) rfl rfl (by kernel_rfl) (by kernel_rfl) (by kernel_rfl) (by kernel_rfl) rfl (fun _ _ _ h=>h) (yieldsIf_load_mid rfl 92 (.tmp 8) rfl PW 0 rfl [gw1,.slice aw1 zw1 cw1,gw2,.slice aw2 zw2 cw2,gw3,.slice aw3 zw3 cw3] _ (fun w' h=>(h.2.1).range 0 6) underlying92 rfl (by kernel_rfl)) hS ?_
    (try simp only [Act.put])
    refine ζb.take (i:=2) (v:= .pointer (some ⟨w,6,none⟩)) rfl rfl (by kernel_rfl) (by kernel_rfl) (by kernel_rfl) (by kernel_rfl) rfl (fun _ _ _ h=>h) (Or.inl ⟨rfl,fun w' _=>by go_simp⟩) hS ?_
    (try simp only [Act.put])
    refine ζb.take (i:=3) rfl rfl (by kernel_rfl) (by kernel_rfl) (by kernel_rfl) (by kernel_rfl) rfl (fun _ _ _ h=>h) (yieldsIf_load_mid rfl 92 (.tmp 31) rfl w 6 rfl [gd1,.slice ad1 zd1 cd1,gd2,.slice ad2 zd2 cd2,gd3,.slice ad3 zd3 cd3] _ (fun w' h=>(h.1.o.l).range 6 6) underlying92 rfl (by kernel_rfl)) hS ?_
    (try simp only [Act.put])
    refine ζb.take (i:=5) rfl rfl (by kernel_rfl) (by kernel_rfl) (by kernel_rfl) (by kernel_rfl) rfl (fun _ _ _ h=>h) (yieldsIf_load_mid rfl 92 (.tmp 8) rfl PW 0 rfl [gw1,.slice aw1 zw1 cw1,gw2,.slice aw2 zw2 cw2,gw3,.slice aw3 zw3 cw3] _ (fun w' h=>(h.2.1).range 0 6) underlying92 rfl (by kernel_rfl)) hS ?_
    (try simp only [Act.put])
    refine ζb.take (i:=6) rfl rfl (by kernel_rfl) (by kernel_rfl) (by kernel_rfl) (by kernel_rfl) rfl (fun _ _ _ h=>h) (yieldsIf_load_mid rfl 94 (.tmp 2) rfl w 0 rfl [gs1,.slice as1 zs1 cs1,gs2,.slice as2 zs2 cs2,gs3,.slice as3 zs3 cs3,gd1,.slice ad1 zd1 cd1,gd2,.slice ad2 zd2 cd2,gd3,.slice ad3 zd3 cd3,gk,.slice ak zk ck] _ (fun w' h=>(h.1.o.l).range 0 14) underlying94 rfl (by kernel_rfl)) hS ?_
    (try simp only [Act.put])
    refine ζb.take (i:=7) (v:= .pointer (some ⟨↑w+1,0,none⟩)) rfl rfl (by kernel_rfl) (by kernel_rfl) (by kernel_rfl) (by kernel_rfl) rfl (fun _ _ _ h=>h) (Or.inl ⟨rfl,fun w' _=>by go_simp⟩) hS ?_
    (try simp only [Act.put])
    refine ζb.take (i:=8) rfl rfl (by kernel_rfl) (by kernel_rfl) (by kernel_rfl) (by kernel_rfl) rfl (fun _ _ _ h=>h) (yieldsIf_load_mid rfl 34 (.tmp 36) rfl (↑w+1) 0 rfl [q0,q1,q2] _ (fun w' h=>(h.1.o.t).range 0 3) underlying34 rfl (by kernel_rfl)) hS ?_
    (try simp only [Act.put])
    have hBd:Below W7 W7 W7.drew:=(Below.refl _ _).drew
    have HAV:Hid (w.heap.size+1<W7.heap.size):=HI8.out.o.t.1
    refine ζb.one (i:=4) (by kernel_rfl) rfl rfl ?_
    intro K hK
    have HKK:Hid _:=hK
    clear hK
    go_wp2_with fail
    refine (χd _ _ 836 m _ _ _ _ _ _ _ (by omega) (HW8.out.later hBd) (HAL.out _ (HI8.out.o.bel.trans (hBd.mono HI8.out.o.bel.size)))).mono ?_
    rintro o w5 ⟨v5,rfl,hv5,hb5,hn5⟩
    have hB5:Below W7 W7 w5:=hBd.trans hb5
    have HD5:=Hid.mk hv5
    have HN5:Hid (AvV (↑w+1) v5):=hn5 _ HAV.out
    obtain ⟨gx,ax,cx,zx,rfl,_,_,_⟩:=hv5
    clear hn5 hS
    refine HKK.out _ _ (fun _=>HK7.out _ hB5) ?_
    have hS:=HK7.out _ hB5
    clear HKK K
    (try simp only [Act.put])
    refine ζb.one (i:=9) (by kernel_rfl) rfl rfl ?_
    intro K hK
    have HKK:Hid _:=hK
    clear hK
    go_wp2_with fail
    refine (ωb _ m k S O D q0 q1 q2 _ hm (by omega) (HT7.out _ hB5) (HL7.out _ hB5) k0 k1 k2).mono ?_
    rintro o w6 ⟨v6,rfl,hv6,hb6⟩
    have hB6:Below W7 W7 w6:=hB5.trans (hb6.mono hB5.size)
    have HD6:=Hid.mk (HD5.out.later hb6)
    have HT6:=Hid.mk hv6
    obtain ⟨go1,ao1,co1,zo1,go2,ao2,co2,zo2,go3,ao3,co3,zo3,rfl,_,_,_⟩:=hv6
    clear hS HD5
    refine HKK.out _ _ (fun _=>HK7.out _ hB6) ?_
    have hS:=HK7.out _ hB6
    clear HKK K
    (try simp only [Act.put])
    refine ζb.one (i:=10) (by kernel_rfl) rfl rfl ?_
    intro K hK
    have HKK:Hid _:=hK
    clear hK
    go_wp2_with fail
    refine (χd _ _ 836 (m+k+1) _ _ _ _ _ _ _ (by omega) (HW8.out.later hB6) HT6.out).mono ?_
    rintro o w8 ⟨v8,rfl,hv8,hb8,hn8⟩
    have hB8:Below W7 W7 w8:=hB6.trans (hb8.mono hB6.size)
    have HD8:=Hid.mk (HD6.out.later hb8)
    have HE8:=Hid.mk hv8
    have HN8:Hid (AvV (↑w+1) v8):=hn8 _ (Nat.lt_of_lt_of_le HAV.out hB6.size)
    obtain ⟨gy,ay,cy,zy,rfl,_,_,_⟩:=hv8
    clear hn8 hS HD6 HT6
    refine HKK.out _ _ (fun _=>HK7.out _ hB8) ?_
    have hS:=HK7.out _ hB8
    clear HKK K
    (try simp only [Act.put])
    refine ζb.one (i:=11) (by kernel_rfl) rfl rfl ?_
    intro K hK
    have HKK:Hid _:=hK
    clear hK
    go_wp2_with fail
    refine (σf _ _ _ (m+k+843) p q r s _ _ _ (by omega) (HM8.out.later hB8) (HD8.out.up (by omega)) (HE8.out.up (by omega))).mono ?_
    rintro o w9 ⟨v9,rfl,hv9,hb9,hn9⟩
    have hB9:Below W7 W7 w9:=hB8.trans (hb9.mono hB8.size)
    have HS9:=Hid.mk hv9
    have HN9:Hid (AvV (↑w+1) v9):=hn9 _ (Nat.lt_of_lt_of_le HAV.out hB8.size) HAM.out HN5.out HN8.out
    obtain ⟨g5,a5,c5,z5,g6,a6,c6,z6,g7,a7,c7,z7,g8,a8,c8,z8,rfl,_,_,_,_⟩:=hv9
    clear hn9 hS HD8 HE8
    refine HKK.out _ _ (fun _=>HK7.out _ hB9) ?_
    have hS:=HK7.out _ hB9
    clear HKK K
    (try simp only [Act.put])
    refine ζb.one (i:=12) (by kernel_rfl) rfl rfl ?_
    intro K hK
    refine wp_store_mid 83 (.tmp 6) (.tmp 40) rfl B2 0 #[g5,.slice a5 z5 c5,g6,.slice a6 z6 c6,g7,.slice a7 z7 c7,g8,.slice a8 z8 c8] rfl rfl ((HI8.out.later hB9).m.there 0 8 (by simp)) (by kernel_rfl) (all_oneCell_toArray (by simp [Value.oneCell'])) ?_
    refine hK _ _ (fun h=>absurd rfl h) ?_
    clear hK K hS
    refine ζb.done (by kernel_rfl) ?_
    obtain ⟨W10,hW10⟩: ∃V,V=World.setCells w9 B2 0 (Array.toList #[g5,.slice a5 z5 c5,g6,.slice a6 z6 c6,g7,.slice a7 z7 c7,g8,.slice a8 z8 c8]):=⟨_,rfl⟩
    rw [<-hW10]
    have e10:W10=setAll w9 B2 0 [g5,.slice a5 z5 c5,g6,.slice a6 z6 c6,g7,.slice a7 z7 c7,g8,.slice a8 z8 c8]:=by rw [hW10];exact ζg _ _ _ _
    have HI10:Hid (IpS w B1 B2 [gs1,.slice as1 zs1 cs1,gs2,.slice as2 zs2 cs2,gs3,.slice as3 zs3 cs3,gd1,.slice ad1 zd1 cd1,gd2,.slice ad2 zd2 cd2,gd3,.slice ad3 zd3 cd3,gk,.slice ak zk ck] [q0,q1,q2,q3,q4,q5,q6,q7,q8] [gn1,.slice an1 zn1 cn1,gn2,.slice an2 zn2 cn2,gn3,.slice an3 zn3 cn3] [g5,.slice a5 z5 c5,g6,.slice a6 z6 c6,g7,.slice a7 z7 c7,g8,.slice a8 z8 c8] W10):=by rw [e10];exact (HI8.out.later hB9).setM [g5,.slice a5 z5 c5,g6,.slice a6 z6 c6,g7,.slice a7 z7 c7,g8,.slice a8 z8 c8] (by simp) (by simp [ζh])
    have HV10:Hid (ζM W10 (.agg #[gn1,.slice an1 zn1 cn1,gn2,.slice an2 zn2 cn2,gn3,.slice an3 zn3 cn3]) 557 (nrm (pv t0 t1 t2) (pv t3 t4 t5) (pv t6 t7 t8)).x (nrm (pv t0 t1 t2) (pv t3 t4 t5) (pv t6 t7 t8)).y (nrm (pv t0 t1 t2) (pv t3 t4 t5) (pv t6 t7 t8)).z):=by rw [e10];exact (HV8.out.later hB9).setAll [g5,.slice a5 z5 c5,g6,.slice a6 z6 c6,g7,.slice a7 z7 c7,g8,.slice a8 z8 c8] w9 0 (HI8.out.later hB9).i2 (by simp [ζh])
    have HM10:Hid (ζR W10 (.agg #[g5,.slice a5 z5 c5,g6,.slice a6 z6 c6,g7,.slice a7 z7 c7,g8,.slice a8 z8 c8]) (m+k+843) (ζS p q r s (((nrm (pv t0 t1 t2) (pv t3 t4 t5) (pv t6 t7 t8)).cross ((pv q3 q4 q5).sub (pv q0 q1 q2))).dot D) (((nrm (pv t0 t1 t2) (pv t3 t4 t5) (pv t6 t7 t8)).cross ((pv q3 q4 q5).sub (pv q0 q1 q2))).dot ((V3.sc S (pv q0 q1 q2)).sub O))).1 (ζS p q r s (((nrm (pv t0 t1 t2) (pv t3 t4 t5) (pv t6 t7 t8)).cross ((pv q3 q4 q5).sub (pv q0 q1 q2))).dot D) (((nrm (pv t0 t1 t2) (pv t3 t4 t5) (pv t6 t7 t8)).cross ((pv q3 q4 q5).sub (pv q0 q1 q2))).dot ((V3.sc S (pv q0 q1 q2)).sub O))).2.1 (ζS p q r s (((nrm (pv t0 t1 t2) (pv t3 t4 t5) (pv t6 t7 t8)).cross ((pv q3 q4 q5).sub (pv q0 q1 q2))).dot D) (((nrm (pv t0 t1 t2) (pv t3 t4 t5) (pv t6 t7 t8)).cross ((pv q3 q4 q5).sub (pv q0 q1 q2))).dot ((V3.sc S (pv q0 q1 q2)).sub O))).2.2.1 (ζS p q r s (((nrm (pv t0 t1 t2) (pv t3 t4 t5) (pv t6 t7 t8)).cross ((pv q3 q4 q5).sub (pv q0 q1 q2))).dot D) (((nrm (pv t0 t1 t2) (pv t3 t4 t5) (pv t6 t7 t8)).cross ((pv q3 q4 q5).sub (pv q0 q1 q2))).dot ((V3.sc S (pv q0 q1 q2)).sub O))).2.2.2):=by rw [e10];exact HS9.out.setAll [g5,.slice a5 z5 c5,g6,.slice a6 z6 c6,g7,.slice a7 z7 c7,g8,.slice a8 z8 c8] w9 0 (HI8.out.later hB9).i2 (by simp [ζh])
    clear e10 hW10 hB5 hB6 hB8 hB9 hb5 hb6 hb8 hb9 hBd HI8 HV8 HM8 HW8 HC8 HT7 HL7 HK7 HS9
    obtain ⟨x0,x1,x2,x3,x4,x5,x6,x7,x8⟩:=HI10.out.o.t.c9
    go_wp2_with fail
    refine (ψs q0 q1 q2 q3 q4 q5 q6 q7 q8 _).mono ?_
    rintro o w11 ⟨rfl,hb11⟩
    have HI11:=Hid.mk (HI10.out.later hb11)
    have HV11:=Hid.mk (HV10.out.later hb11)
    have HM11:=Hid.mk (HM10.out.later hb11)
    clear hb11 HI10 HV10 HM10 x0 x1 x2 x3 x4 x5 x6 x7 x8
    obtain ⟨x0,x1,x2,x3,x4,x5,x6,x7,x8⟩:=HI11.out.o.t.c9
    have xf:=HI11.out.o.t.2.1
    go_wp2
    refine ⟨?_,?_⟩
    ·refine ⟨i+1,q3,q4,q5,q6,q7,q8,q0,q1,q2,(ζS p q r s (((nrm (pv t0 t1 t2) (pv t3 t4 t5) (pv t6 t7 t8)).cross ((pv q3 q4 q5).sub (pv q0 q1 q2))).dot D) (((nrm (pv t0 t1 t2) (pv t3 t4 t5) (pv t6 t7 t8)).cross ((pv q3 q4 q5).sub (pv q0 q1 q2))).dot ((V3.sc S (pv q0 q1 q2)).sub O))).1,(ζS p q r s (((nrm (pv t0 t1 t2) (pv t3 t4 t5) (pv t6 t7 t8)).cross ((pv q3 q4 q5).sub (pv q0 q1 q2))).dot D) (((nrm (pv t0 t1 t2) (pv t3 t4 t5) (pv t6 t7 t8)).cross ((pv q3 q4 q5).sub (pv q0 q1 q2))).dot ((V3.sc S (pv q0 q1 q2)).sub O))).2.1,(ζS p q r s (((nrm (pv t0 t1 t2) (pv t3 t4 t5) (pv t6 t7 t8)).cross ((pv q3 q4 q5).sub (pv q0 q1 q2))).dot D) (((nrm (pv t0 t1 t2) (pv t3 t4 t5) (pv t6 t7 t8)).cross ((pv q3 q4 q5).sub (pv q0 q1 q2))).dot ((V3.sc S (pv q0 q1 q2)).sub O))).2.2.1,(ζS p q r s (((nrm (pv t0 t1 t2) (pv t3 t4 t5) (pv t6 t7 t8)).cross ((pv q3 q4 q5).sub (pv q0 q1 q2))).dot D) (((nrm (pv t0 t1 t2) (pv t3 t4 t5) (pv t6 t7 t8)).cross ((pv q3 q4 q5).sub (pv q0 q1 q2))).dot ((V3.sc S (pv q0 q1 q2)).sub O))).2.2.2,g5,a5,c5,z5,g6,a6,c6,z6,g7,a7,c7,z7,g8,a8,c8,z8,by simp,by omega,?_,⟨k3,k4,k5,k6,k7,k8,k0,k1,k2⟩,HI11.out.setT [q3,q4,q5,q6,q7,q8,q0,q1,q2] (by simp),HV11.out.setAllAv [q3,q4,q5,q6,q7,q8,q0,q1,q2] w11 0 HA1.out,HM11.out.setAllAv [q3,q4,q5,q6,q7,q8,q0,q1,q2] w11 0 HN9.out,HN9.out⟩
     have e3:3-i=(3-(i+1))+1:=by omega
     have hf:=HFIN.out
     rw [e3] at hf
     exact hf
    ·simp [intOf]
     omega
  ·have m0:=HI.out.m.at 0 rfl
   have m1:=HI.out.m.at 1 rfl
   have m2:=HI.out.m.at 2 rfl
   have m3:=HI.out.m.at 3 rfl
   have m4:=HI.out.m.at 4 rfl
   have m5:=HI.out.m.at 5 rfl
   have m6:=HI.out.m.at 6 rfl
   have m7:=HI.out.m.at 7 rfl
   obtain ⟨y0,y1,y2,y3,y4,y5,y6,y7⟩:=HI.out.o.z.c8
   have zf:=HI.out.o.z.2.1
   go_wp2
   refine bodyPost_ret (v:= .agg #[g1,.slice a1 z1 c1,g2,.slice a2 z2 c2,g3,.slice a3 z3 c3,g4,.slice a4 z4 c4]) (by simp [results,results86,go_sem,y0,y1,y2,y3,y4,y5,y6,y7]) rfl ?_
   unfold ηx
   rw [<-HFIN.out]
   exact ⟨_,rfl,HM.out.setAll [g1,.slice a1 z1 c1,g2,.slice a2 z2 c2,g3,.slice a3 z3 c3,g4,.slice a4 z4 c4] _ 0 HI.out.o.i0 (by simp [ζh]),ζd (vs:=[↑g1,.slice a1 z1 c1,↑g2,.slice a2 z2 c2,↑g3,.slice a3 z3 c3,↑g4,.slice a4 z4 c4]) (by omega) _ 0 HI.out.o.bel⟩
end Go.Proofs.YtfieffpobgcpmaaGreatDoor
