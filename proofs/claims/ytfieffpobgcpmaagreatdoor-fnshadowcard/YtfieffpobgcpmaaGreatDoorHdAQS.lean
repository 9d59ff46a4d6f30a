import Derived.Test.YtfieffpobgcpmaaGreatDoorWiGToMdAS
import Derived.Test.YtfieffpobgcpmaaGreatDoorLwELwFS
import Derived.Test.YtfieffpobgcpmaaGreatDoorWithinToImVS
import Derived.Deep.CutRange
import Derived.Deep.RegionHeld3
set_option maxRecDepth 100000
set_option maxHeartbeats 32000000
namespace Go.Proofs.YtfieffpobgcpmaaGreatDoor
open Go.RowKit Go.Proofs.Tryz
structure HdS (w:World) (T S:List Value) (W:World):Prop where
 t:Cs W w T
 r:Cs W (↑w+1) S
 z1:Cs W (↑w+1+1) [false,()]
 z2:Cs W (↑w+1+1+1) [false,()]
 bel:Below w w W
theorem HdS.later {w:World} {T S:List Value} {W W':World} (h:HdS w T S W) (hb:Below W W W'):HdS w T S W':=
 ⟨h.t.later hb,h.r.later hb,h.z1.later hb,h.z2.later hb,h.bel.trans (hb.mono h.bel.size)⟩
theorem HdS.start (w:World) (T S:Array Value) (s'0 s'1 s'2 s'3:TypeId):HdS w T.toList S.toList ((((w.alloc (.cells T s'0)).alloc (.cells S s'1)).alloc (.cells #[false,()] s'2)).alloc (.cells #[false,()] s'3)):=by
 have h1:=Cs.new (w.alloc (.cells T s'0)) S s'1
 have h2:=Cs.new ((w.alloc (.cells T s'0)).alloc (.cells S s'1)) #[false,()] s'2
 have h3:=Cs.new (((w.alloc (.cells T s'0)).alloc (.cells S s'1)).alloc (.cells #[false,()] s'2)) #[false,()] s'3
 have e1:(w.alloc (.cells T s'0)).heap.size=w.heap.size+1:=by simp
 have e2:((w.alloc (.cells T s'0)).alloc (.cells S s'1)).heap.size=w.heap.size+1+1:=by simp
 have e3:(((w.alloc (.cells T s'0)).alloc (.cells S s'1)).alloc (.cells #[false,()] s'2)).heap.size=w.heap.size+1+1+1:=by simp
 rw [e1] at h1
 rw [e2] at h2
 rw [e3] at h3
 exact ⟨(((Cs.new w T s'0).later (ζc _ _)).later (ζc _ _)).later (ζc _ _),(h1.later (ζc _ _)).later (ζc _ _),h2.later (ζc _ _),h3,(((ζc _ _).trans ((ζc _ _).mono (by simp<;>omega))).trans ((ζc _ _).mono (by simp<;>omega))).trans ((ζc _ _).mono (by simp<;>omega))⟩
def ν2 (w:World) (P:Int->Int->Prop) (o:Ending) (w':World):Prop:=
 ∃R:Int×Int×Int×Int,Met P R∧Below w w w'∧((R.2.1=0∧o= .returned (.tuple #[.agg #[false,()],.agg #[false,()],.int .i64 0]))∨
  (R.2.1≠0∧ ∃(u v:Int) (g:Bool) (a:Option Addr) (c:Nat) (zs:List Int) (g':Bool) (a':Option Addr) (c':Nat) (ys:List Int) (K:Nat),o= .returned (.tuple #[.agg #[g,.slice a zs c],.agg #[g',.slice a' ys c'],.int .i64 0])∧Low R.1 R.2.1 u v∧B1 g zs u∧B1 g' ys v∧(zs.length<=100∧zs.length<=c∧c<=maxLen)∧(ys.length<=100∧ys.length<=c'∧c'<=maxLen)∧w.heap.size<=K∧σq K a zs∧ζl .u32 w' w a zs∧ζl .u32 w' K a' ys))
structure MtS (W0:World) (P:Nat) (Pr:Int->Int->Prop) (v:Value) (us:List Value) (R:Int×Int×Int×Int) (W:World):Prop where
 c:Cs W P us
 v:ζR W v 1120 R.1 R.2.1 R.2.2.1 R.2.2.2
 m:Met Pr R
 le:W0.heap.size<=P
 bel:Below W0 W0 W
theorem MtS.new8 {W0 W:World} {Pr:Int->Int->Prop} {u0 u1 u2 u3 u4 u5 u6 u7:Value} {R:Int×Int×Int×Int} (t:TypeId) (h:ζR W (.agg #[u0,u1,u2,u3,u4,u5,u6,u7]) 1120 R.1 R.2.1 R.2.2.1 R.2.2.2) (hm:Met Pr R) (hb:Below W0 W0 W):MtS W0 W Pr (.agg #[u0,u1,u2,u3,u4,u5,u6,u7]) [u0,u1,u2,u3,u4,u5,u6,u7] R (W.alloc (.cells #[u0,u1,u2,u3,u4,u5,u6,u7] t)):=
 ⟨Cs.new W _ t,h.later (ζc _ _),hm,hb.size,hb.trans ((ζc _ _).mono hb.size)⟩
theorem MtS.set8 {W0 W:World} {P:Nat} {Pr:Int->Int->Prop} {u0 u1 u2 u3 u4 u5 u6 u7:Value} {R:Int×Int×Int×Int} (h:ζR W (.agg #[u0,u1,u2,u3,u4,u5,u6,u7]) 1120 R.1 R.2.1 R.2.2.1 R.2.2.2) (hm:Met Pr R) (hb:Below W0 W0 W) (hc:Cs W P [false,(),false,(),false,(),false,()]) (hn:ζf W P) (hv: ∀u∈[u0,u1,u2,u3,u4,u5,u6,u7],ζh u) (hP:W0.heap.size<=P):MtS W0 P Pr (.agg #[u0,u1,u2,u3,u4,u5,u6,u7]) [u0,u1,u2,u3,u4,u5,u6,u7] R ((((((((W.setCell ⟨P,0,none⟩ u0).setCell ⟨P,1,none⟩ u1).setCell ⟨P,2,none⟩ u2).setCell ⟨P,3,none⟩ u3).setCell ⟨P,4,none⟩ u4).setCell ⟨P,5,none⟩ u5).setCell ⟨P,6,none⟩ u6).setCell ⟨P,7,none⟩ u7):=
 ⟨hc.whole [u0,u1,u2,u3,u4,u5,u6,u7] rfl,h.setAll [u0,u1,u2,u3,u4,u5,u6,u7] W 0 hn hv,hm,hP,ζd hP [u0,u1,u2,u3,u4,u5,u6,u7] W 0 hb⟩
theorem θV (f:Value) (e:Nat) (p q:Int) (w:World) (he:e<=1200) (hT:Tab w) (hf:ζO w f e p q) (hq:0<q):
 Calls prog 42 #[f] w fun o w'=>θe w p q o w':=by
 by_cases hp:p=0
 ·subst hp;exact θU f e q w he hf hq
 ·exact ρb f e p q w he hT hf hq hp
theorem κZ (t0 t1 t2 t3 t4 t5 t6 t7 t8 s0 s1 s2 s3 s4 s5:Int) (w:World) (hT:Tab w) (q0:Cor t0) (q1:Cor t1) (q2:Cor t2) (q3:Cor t3) (q4:Cor t4) (q5:Cor t5) (q6:Cor t6) (q7:Cor t7) (q8:Cor t8) (r0:Cor s0) (r1:Cor s1) (r2:Cor s2) (r3:Cor s3) (r4:Cor s4) (r5:Cor s5) (hw:ζD s3 s4 s5=false):
 Calls prog 10 #[.agg #[t0,t1,t2,t3,t4,t5,t6,t7,t8],.agg #[s0,s1,s2,s3,s4,s5]] w fun o w'=>ν2 w (ζs (pv t0 t1 t2) (pv t3 t4 t5) (pv t6 t7 t8) (pv s0 s1 s2) (pv s3 s4 s5)) o w':=by
 have HA:Hid ((List.range 1).all (ξA [t0,t1,t2,t3,t4,t5,t6,t7,t8])=true):=by
  unfold Hid
  simp [ξA,ζa,q0.hf,q1.hf,q2.hf,q3.hf,q4.hf,q5.hf,q6.hf,q7.hf,q8.hf]
 have HU:Hid (U32 [t0,t1,t2,t3,t4,t5,t6,t7,t8]):=by
  intro z hz
  simp at hz
  rcases hz with rfl|rfl|rfl|rfl|rfl|rfl|rfl|rfl|rfl
  ·exact ⟨q0.h0,q0.h1⟩
  ·exact ⟨q1.h0,q1.h1⟩
  ·exact ⟨q2.h0,q2.h1⟩
  ·exact ⟨q3.h0,q3.h1⟩
  ·exact ⟨q4.h0,q4.h1⟩
  ·exact ⟨q5.h0,q5.h1⟩
  ·exact ⟨q6.h0,q6.h1⟩
  ·exact ⟨q7.h0,q7.h1⟩
  ·exact ⟨q8.h0,q8.h1⟩
 have HP:Hid ((ζa s0 s1 s2 && ζa s3 s4 s5 && !(ζD s3 s4 s5))=true):=by
  unfold Hid
  simp [ζa,hw,r0.hf,r1.hf,r2.hf,r3.hf,r4.hf,r5.hf]
 have HT:Hid (∀w',Below w w w'->Tab w'):=fun w' hb=>hT.later hb
 have HD0:Hid (∀s'0 s'1 s'2 s'3,HdS w [t0,t1,t2,t3,t4,t5,t6,t7,t8] [s0,s1,s2,s3,s4,s5] ((((w.alloc (.cells #[t0,t1,t2,t3,t4,t5,t6,t7,t8] s'0)).alloc (.cells #[s0,s1,s2,s3,s4,s5] s'1)).alloc (.cells #[false,()] s'2)).alloc (.cells #[false,()] s'3))):=fun s'0 s'1 s'2 s'3=>HdS.start w _ _ s'0 s'1 s'2 s'3
 clear hT hw
 go_enter func10,ntmps10
 go_wp2_with fail
 refine (ζU _ 1 1 [t0,t1,t2,t3,t4,t5,t6,t7,t8] _ (by omega) rfl HU.out (by have:=ωg ((((w.alloc (.cells #[t0,t1,t2,t3,t4,t5,t6,t7,t8] 36)).alloc (.cells #[s0,s1,s2,s3,s4,s5] 39)).alloc (.cells #[false,()] 31)).alloc (.cells #[false,()] 31)) t0 t1 t2 t3 t4 t5 t6 t7 t8 36;simpa using this)).mono ?_
 rintro o w1 ⟨rfl,hb1⟩
 rw [HA.out]
 have HD1:Hid (HdS w [t0,t1,t2,t3,t4,t5,t6,t7,t8] [s0,s1,s2,s3,s4,s5] w1):=((HD0.out _ _ _ _).later (ζc _ _)).later hb1
 clear hb1 HD0
 obtain ⟨x0,x1,x2,x3,x4,x5⟩:=HD1.out.r.c6
 go_wp2_with fail
 refine (ψr s0 s1 s2 s3 s4 s5 _ r0.h0 r0.h1 r1.h0 r1.h1 r2.h0 r2.h1 r3.h0 r3.h1 r4.h0 r4.h1 r5.h0 r5.h1).mono ?_
 rintro o w2 ⟨rfl,hb2⟩
 rw [HP.out]
 have HD2:=Hid.mk (HD1.out.later hb2)
 clear hb2 HD1 x0 x1 x2 x3 x4 x5
 have HTT:Hid (∀w',Below w2 w2 w'->Tab w'):=fun w' hb=>HT.out w' (HD2.out.bel.trans (hb.mono HD2.out.bel.size))
 have HK:Hid (∀w',Below w2 w2 w'->w'.cell? ⟨w,0,none⟩=some ↑t0∧w'.cell? ⟨w,1,none⟩=some ↑t1∧w'.cell? ⟨w,2,none⟩=some ↑t2∧w'.cell? ⟨w,3,none⟩=some ↑t3∧w'.cell? ⟨w,4,none⟩=some ↑t4∧w'.cell? ⟨w,5,none⟩=some ↑t5∧w'.cell? ⟨w,6,none⟩=some ↑t6∧w'.cell? ⟨w,7,none⟩=some ↑t7∧w'.cell? ⟨w,8,none⟩=some ↑t8∧w'.cell? ⟨↑w+1,0,none⟩=some ↑s0∧w'.cell? ⟨↑w+1,1,none⟩=some ↑s1∧w'.cell? ⟨↑w+1,2,none⟩=some ↑s2∧w'.cell? ⟨↑w+1,3,none⟩=some ↑s3∧w'.cell? ⟨↑w+1,4,none⟩=some ↑s4∧w'.cell? ⟨↑w+1,5,none⟩=some ↑s5∧Below w2 w2 w'):=fun w' hb=>⟨(HD2.out.t.later hb).at 0 rfl,(HD2.out.t.later hb).at 1 rfl,(HD2.out.t.later hb).at 2 rfl,(HD2.out.t.later hb).at 3 rfl,(HD2.out.t.later hb).at 4 rfl,(HD2.out.t.later hb).at 5 rfl,(HD2.out.t.later hb).at 6 rfl,(HD2.out.t.later hb).at 7 rfl,(HD2.out.t.later hb).at 8 rfl,(HD2.out.r.later hb).at 0 rfl,(HD2.out.r.later hb).at 1 rfl,(HD2.out.r.later hb).at 2 rfl,(HD2.out.r.later hb).at 3 rfl,(HD2.out.r.later hb).at 4 rfl,(HD2.out.r.later hb).at 5 rfl,hb⟩
 have hB0:Below w2 w2 w2.drew:=(Below.refl _ _).drew
 have TT0:Tab w2.drew:=HTT.out _ hB0
 have K0:=HK.out _ hB0
 go_wp2
 go_cut [7] from 9 to 35 (fun s7 wx=> ∃(P:Nat) (R:Int×Int×Int×Int) (g1:Bool) (a1:Option Addr) (c1:Nat) (z1:List Int) (g2:Bool) (a2:Option Addr) (c2:Nat) (z2:List Int) (g3:Bool) (a3:Option Addr) (c3:Nat) (z3:List Int) (g4:Bool) (a4:Option Addr) (c4:Nat) (z4:List Int),s7= .pointer (some ⟨P,0,none⟩)∧Hid (MtS w2 P (ζs (pv t0 t1 t2) (pv t3 t4 t5) (pv t6 t7 t8) (pv s0 s1 s2) (pv s3 s4 s5)) (.agg #[g1,.slice a1 z1 c1,g2,.slice a2 z2 c2,g3,.slice a3 z3 c3,g4,.slice a4 z4 c4]) [g1,.slice a1 z1 c1,g2,.slice a2 z2 c2,g3,.slice a3 z3 c3,g4,.slice a4 z4 c4] R wx))
 case first=>
  go_region_held3 (fun w'=>w'.cell? ⟨w,0,none⟩=some ↑t0∧w'.cell? ⟨w,1,none⟩=some ↑t1∧w'.cell? ⟨w,2,none⟩=some ↑t2∧w'.cell? ⟨w,3,none⟩=some ↑t3∧w'.cell? ⟨w,4,none⟩=some ↑t4∧w'.cell? ⟨w,5,none⟩=some ↑t5∧w'.cell? ⟨w,6,none⟩=some ↑t6∧w'.cell? ⟨w,7,none⟩=some ↑t7∧w'.cell? ⟨w,8,none⟩=some ↑t8∧w'.cell? ⟨↑w+1,0,none⟩=some ↑s0∧w'.cell? ⟨↑w+1,1,none⟩=some ↑s1∧w'.cell? ⟨↑w+1,2,none⟩=some ↑s2∧w'.cell? ⟨↑w+1,3,none⟩=some ↑s3∧w'.cell? ⟨↑w+1,4,none⟩=some ↑s4∧w'.cell? ⟨↑w+1,5,none⟩=some ↑s5∧Below w2 w2 w')
   (first|with_reducible assumption|with_reducible exact HK.out _ (hB2.trans ((ζc _ _).mono hB2.size))|with_reducible exact HK.out _ (hB1.trans ((ζc _ _).mono hB1.size))|with_reducible exact HK.out _ (hB0.trans ((ζc _ _).mono hB0.size))|with_reducible exact HK.out _ (Below.setCell (Below.setCell (Below.setCell (Below.setCell (Below.setCell (Below.setCell (Below.setCell (Below.setCell hB2 (by first|exact hp| (simp;exact hp)) _) (by first|exact hp| (simp;exact hp)) _) (by first|exact hp| (simp;exact hp)) _) (by first|exact hp| (simp;exact hp)) _) (by first|exact hp| (simp;exact hp)) _) (by first|exact hp| (simp;exact hp)) _) (by first|exact hp| (simp;exact hp)) _) (by first|exact hp| (simp;exact hp)) _)|exact HK.out _ (hB0.trans ((ζc _ _).mono hB0.size)))
   (first
    |(have hBB:=hB1;clear hBB;go_at_call 40;refine (ξ2 v3 (pv s0 s1 s2) (pv s3 s4 s5) t0 t1 t2 t3 t4 t5 t6 t7 t8 _ (by first|exact TT1|exact TT1.later (ζc _ _)) (by first|exact hc3|exact hc3.later (ζc _ _)) q0 q1 q2 q3 q4 q5 q6 q7 q8).mono ?_;rintro o w4 ⟨R,hM,v4,rfl,hv4,hb2⟩;have HMR:Hid (Met (ζs (pv t0 t1 t2) (pv t3 t4 t5) (pv t6 t7 t8) (pv s0 s1 s2) (pv s3 s4 s5)) R):=hM;have R2:ζR w4 v4 1120 R.1 R.2.1 R.2.2.1 R.2.2.2:=hv4;obtain ⟨g1,a1,c1,z1,g2,a2,c2,z2,g3,a3,c3,z3,g4,a4,c4,z4,rfl,_,_,_,_⟩:=hv4;have hB2:Below w2 w2 w4:=(by first|exact hB1.trans (hb2.mono hB1.size)|exact (hB1.trans ((ζc _ _).mono hB1.size)).trans (hb2.mono (hB1.trans ((ζc _ _).mono hB1.size)).size));have TT2:Tab w4:=HTT.out _ hB2;have K2:=HK.out _ hB2;(first| (have hh:Cs w4 w2 [false,(),false,(),false,(),false,()]:=((Cs.new w2.drew #[false,(),false,(),false,(),false,()] 83).later hb1).later hb2;have hj:ζf w4 w2.heap.size:=((ζf.new w2.drew #[false,(),false,(),false,(),false,()] 83 (fun i k m=>by match i with|0=>simp|1=>simp|2=>simp|3=>simp|4=>simp|5=>simp|6=>simp|7=>simp|n+8=>simp)).later hb1).later hb2;have hp:w2.heap.size<=w2.heap.size:=Nat.le_refl _)| (have hh:=(Cs.new w3 #[false,(),false,(),false,(),false,()] 83).later hb2;have hj:=(ζf.new w3 #[false,(),false,(),false,(),false,()] 83 (fun i k m=>by match i with|0=>simp|1=>simp|2=>simp|3=>simp|4=>simp|5=>simp|6=>simp|7=>simp|n+8=>simp)).later hb2;have hp:w2.heap.size<=w3.heap.size:=hB1.size)|have hh:True:=trivial);(try have e0:=hh.at 0 rfl);(try have e1:=hh.at 1 rfl);(try have e2:=hh.at 2 rfl);(try have e3:=hh.at 3 rfl);(try have e4:=hh.at 4 rfl);(try have e5:=hh.at 5 rfl);(try have e6:=hh.at 6 rfl);(try have e7:=hh.at 7 rfl);(try have ez:=hh.2.1))
    |(go_at_call 39;refine (ψi s0 s1 s2 s3 s4 s5 _ (by first|exact TT0|exact TT0.later (ζc _ _)) r0 r1 r2 r3 r4 r5).mono ?_;rintro o w3 ⟨v3,rfl,hc3,hb1⟩;have hB1:Below w2 w2 w3:=(by first|exact hB0.trans (hb1.mono hB0.size)|exact (hB0.trans ((ζc _ _).mono hB0.size)).trans (hb1.mono (hB0.trans ((ζc _ _).mono hB0.size)).size));have TT1:Tab w3:=HTT.out _ hB1;have K1:=HK.out _ hB1))
  all_goals
   go_wp2_with fail
   go_meet
   case rel=>
    refine ⟨_,R,g1,a1,c1,z1,g2,a2,c2,z2,g3,a3,c3,z3,g4,a4,c4,z4,rfl,?_⟩
    unfold Hid
    first
     |with_reducible exact MtS.new8 _ R2 HMR.out hB2
     |with_reducible exact MtS.set8 R2 HMR.out hB2 hh hj (by simp [ζh]) hp
 case rest=>
 obtain ⟨B,R,g1,a1,c1,z1,g2,a2,c2,z2,g3,a3,c3,z3,g4,a4,c4,z4,rfl,HE⟩:=hcut
 have HM:Hid (Met (ζs (pv t0 t1 t2) (pv t3 t4 t5) (pv t6 t7 t8) (pv s0 s1 s2) (pv s3 s4 s5)) R):=HE.out.m
 have HD4:=Hid.mk (HD2.out.later HE.out.bel)
 have HQ4:Hid (Cs wc B [g1,.slice a1 z1 c1,g2,.slice a2 z2 c2,g3,.slice a3 z3 c3,g4,.slice a4 z4 c4]):=HE.out.c
 have HS4:Hid (ζR wc (.agg #[g1,.slice a1 z1 c1,g2,.slice a2 z2 c2,g3,.slice a3 z3 c3,g4,.slice a4 z4 c4]) 1120 R.1 R.2.1 R.2.2.1 R.2.2.2):=HE.out.v
 clear HE HD2 HTT HK hB0 TT0 K0
 obtain ⟨m0,m1,m2,m3,m4,m5,m6,m7⟩:=HQ4.out.c8
 go_wp2_with fail
 refine (χM _ 1120 R.1 R.2.1 R.2.2.1 R.2.2.2 _ (by omega) HS4.out).mono ?_
 rintro o w5 ⟨rfl,hb5⟩
 have HD5:=Hid.mk (HD4.out.later hb5)
 have HQ5:=Hid.mk (HQ4.out.later hb5)
 have HS5:=Hid.mk (HS4.out.later hb5)
 clear hb5 HD4 HQ4 HS4 m0 m1 m2 m3 m4 m5 m6 m7
 by_cases h0:R.2.1=0
 ·have HH0:Hid (R.2.1=0):=h0
  rw [decide_eq_false (fun e=>e h0)]
  clear h0
  obtain ⟨y0,y1⟩:=HD5.out.z1.c2
  obtain ⟨w0,w1⟩:=HD5.out.z2.c2
  have yf:=HD5.out.z1.2.1
  have wf:=HD5.out.z2.2.1
  have HB9:Hid (Below w w ((((w5.setCell ⟨↑w+1+1,0,none⟩ false).setCell ⟨↑w+1+1,1,none⟩ ()).setCell ⟨↑w+1+1+1,0,none⟩ false).setCell ⟨↑w+1+1+1,1,none⟩ ())):=(((HD5.out.bel.setCell (by simp<;>omega) _).setCell (by simp<;>omega) _).setCell (by simp<;>omega) _).setCell (by simp<;>omega) _
  go_wp2
  refine bodyPost_ret (v:= .tuple #[.agg #[false,()],.agg #[false,()],.int .i64 0]) (by simp [results,results10,go_sem,y0,y1,w0,w1]) rfl ?_
  exact ⟨R,HM.out,HB9.out,.inl ⟨HH0.out,rfl⟩⟩
 ·have HH0:Hid (R.2.1≠0):=h0
  rw [decide_eq_true h0]
  clear h0
  have HF5:Hid (ζO w5 (.agg #[g1,.slice a1 z1 c1,g2,.slice a2 z2 c2]) 1120 R.1 R.2.1):=by
   obtain ⟨g5,a5,c5,z5,g6,a6,c6,z6,g7,a7,c7,z7,g8,a8,c8,z8,he,k1,k2,_,_⟩:=HS5.out
   simp only [Value.agg.injEq,Array.mk.injEq,List.cons.injEq,Value.bool.injEq,Value.slice.injEq,and_true] at he
   obtain ⟨rfl,⟨rfl,e1,rfl⟩,rfl,⟨rfl,e2,rfl⟩,_⟩:=he
   rw [<-e1] at k1
   rw [<-e2] at k2
   exact ⟨g1,a1,c1,z1,g2,a2,c2,z2,rfl,k1,k2⟩
  have HQP:Hid (0<R.2.1):=by
   rcases HM.out with h| ⟨_,e⟩
   ·exact h.hb
   ·exact absurd (by rw [e]) HH0.out
  obtain ⟨m0,m1,m2,m3,m4,m5,m6,m7⟩:=HQ5.out.c8
  go_wp2_with fail
  refine (θV _ 1120 R.1 R.2.1 _ (by omega) (HT.out _ HD5.out.bel) HF5.out HQP.out).mono ?_
  rintro o w6 ⟨u,v,gl,al,cl,zl,gm,am,cm,zm,K,rfl,hLow,hB1,hB2,hl1,hl2,hK,hUn,hN1,hN2,hb6⟩
  have HD6:=Hid.mk (HD5.out.later hb6)
  have HL:Hid (Low R.1 R.2.1 u v∧B1 gl zl u∧B1 gm zm v∧(zl.length<=100∧zl.length<=cl∧cl<=maxLen)∧(zm.length<=100∧zm.length<=cm∧cm<=maxLen)∧w.heap.size<=K∧σq K al zl):=⟨hLow,hB1,hB2,hl1,hl2,Nat.le_trans HD5.out.bel.size hK,hUn⟩
  have HB5:Hid (w.heap.size<=w5.heap.size):=HD5.out.bel.size
  have n2:w.heap.size+1+1<w5.heap.size:=HD5.out.z1.1
  have n3:w.heap.size+1+1+1<w5.heap.size:=HD5.out.z2.1
  have HD7:Hid (HdS w [t0,t1,t2,t3,t4,t5,t6,t7,t8] [s0,s1,s2,s3,s4,s5] (w6.alloc (.cells #[gl,.slice al zl cl,gm,.slice am zm cm] 81))):=HD6.out.later (ζc _ _)
  have HR7:Hid (ζl .u32 (w6.alloc (.cells #[gl,.slice al zl cl,gm,.slice am zm cm] 81)) w5 al zl∧ζl .u32 (w6.alloc (.cells #[gl,.slice al zl cl,gm,.slice am zm cm] 81)) K am zm∧w5.heap.size<=K):=⟨hN1.later (ζc _ _),hN2.later (ζc _ _),hK⟩
  have HL7:Hid (Cs (w6.alloc (.cells #[gl,.slice al zl cl,gm,.slice am zm cm] 81)) w6 [gl,.slice al zl cl,gm,.slice am zm cm]):=Cs.new _ _ _
  have l2:Hid (w.heap.size+1+1<w6.heap.size∧w.heap.size+1+1+1<w6.heap.size):=⟨HD6.out.z1.1,HD6.out.z2.1⟩
  clear hLow hB1 hB2 hl1 hl2 hK hUn hN1 hN2 hb6 m0 m1 m2 m3 m4 m5 m6 m7 HD5 HD6
  go_wp2_with fail
  obtain ⟨W7,hW7⟩: ∃V,V=w6.alloc (.cells #[gl,.slice al zl cl,gm,.slice am zm cm] 81):=⟨_,rfl⟩
  rw [<-hW7] at HD7 HR7 HL7⊢
  generalize hLB:w6.heap.size=L at*
  clear hW7 hLB
  have hd7:Below W7 W7 W7.drew:=(Below.refl _ _).drew
  have HL8:=Hid.mk (HL7.out.later hd7)
  have HK1:Hid (∀v0 v1,(fun w'=>w'.cell? ⟨L,0,none⟩=some ↑gl∧w'.cell? ⟨L,1,none⟩=some (.slice al zl cl)∧w'.cell? ⟨L,2,none⟩=some ↑gm∧w'.cell? ⟨L,3,none⟩=some (.slice am zm cm)) (((W7.setCell ⟨↑w+1+1,0,none⟩ (v0)).setCell ⟨↑w+1+1,1,none⟩ (v1)).drew)):=fun v0 v1=>by
   have q1:=HL7.out.setAllO (b':=w.heap.size+1+1) (by have:=l2.out;omega) [v0,v1] W7 0
   have q:=q1.later (Below.refl _ _).drew
   exact ⟨q.at 0 rfl,q.at 1 rfl,q.at 2 rfl,q.at 3 rfl⟩
  have HK2:Hid (∀v0 v1 v2 v3,(fun w'=>w'.cell? ⟨L,0,none⟩=some ↑gl∧w'.cell? ⟨L,1,none⟩=some (.slice al zl cl)∧w'.cell? ⟨L,2,none⟩=some ↑gm∧w'.cell? ⟨L,3,none⟩=some (.slice am zm cm)) (((((W7.setCell ⟨↑w+1+1,0,none⟩ (v0)).setCell ⟨↑w+1+1,1,none⟩ (v1)).setCell ⟨↑w+1+1+1,0,none⟩ (v2)).setCell ⟨↑w+1+1+1,1,none⟩ (v3)).drew)):=fun v0 v1 v2 v3=>by
   have q0:=HL7.out.setAllO (b':=w.heap.size+1+1) (by have:=l2.out;omega) [v0,v1] W7 0
   have q1:=q0.setAllO (b':=w.heap.size+1+1+1) (by have:=l2.out;omega) [v2,v3] _ 0
   have q:=q1.later (Below.refl _ _).drew
   exact ⟨q.at 0 rfl,q.at 1 rfl,q.at 2 rfl,q.at 3 rfl⟩
  have HN:Hid (ζl .u32 (((((W7.setCell ⟨↑w+1+1,0,none⟩ gl).setCell ⟨↑w+1+1,1,none⟩ (.slice al zl cl)).setCell ⟨↑w+1+1+1,0,none⟩ gm).setCell ⟨↑w+1+1+1,1,none⟩ (.slice am zm cm)).drew) w al zl∧ζl .u32 (((((W7.setCell ⟨↑w+1+1,0,none⟩ gl).setCell ⟨↑w+1+1,1,none⟩ (.slice al zl cl)).setCell ⟨↑w+1+1+1,0,none⟩ gm).setCell ⟨↑w+1+1+1,1,none⟩ (.slice am zm cm)).drew) K am zm∧Below w w (((((W7.setCell ⟨↑w+1+1,0,none⟩ gl).setCell ⟨↑w+1+1,1,none⟩ (.slice al zl cl)).setCell ⟨↑w+1+1+1,0,none⟩ gm).setCell ⟨↑w+1+1+1,1,none⟩ (.slice am zm cm)).drew)):=by
   have hb:=(((HD7.out.bel.setCell (p:=⟨↑w+1+1,0,none⟩) (by simp<;>omega) gl).setCell (p:=⟨↑w+1+1,1,none⟩) (by simp<;>omega) (.slice al zl cl)).setCell (p:=⟨↑w+1+1+1,0,none⟩) (by simp<;>omega) gm).setCell (p:=⟨↑w+1+1+1,1,none⟩) (by simp<;>omega) (.slice am zm cm)
   have hk:=HR7.out.2.2
   exact ⟨(((((HR7.out.1.setLow (by simp;omega) _).setLow (by simp;omega) _).setLow (by simp;omega) _).setLow (by simp;omega) _).later (Below.refl _ _).drew).down HB5.out,((((HR7.out.2.1.setLow (by simp;omega) _).setLow (by simp;omega) _).setLow (by simp;omega) _).setLow (by simp;omega) _).later (Below.refl _ _).drew,hb.drew⟩
  have K0:(fun w'=>w'.cell? ⟨L,0,none⟩=some ↑gl∧w'.cell? ⟨L,1,none⟩=some (.slice al zl cl)∧w'.cell? ⟨L,2,none⟩=some ↑gm∧w'.cell? ⟨L,3,none⟩=some (.slice am zm cm)) W7.drew:=⟨HL8.out.at 0 rfl,HL8.out.at 1 rfl,HL8.out.at 2 rfl,HL8.out.at 3 rfl⟩
  have K0':W7.drew.cell? ⟨L,0,none⟩=some ↑gl∧W7.drew.cell? ⟨L,1,none⟩=some (.slice al zl cl)∧W7.drew.cell? ⟨L,2,none⟩=some ↑gm∧W7.drew.cell? ⟨L,3,none⟩=some (.slice am zm cm):=K0
  obtain ⟨py0,py1⟩:=HD7.out.z1.c2
  obtain ⟨pw0,pw1⟩:=HD7.out.z2.c2
  have pyf:=HD7.out.z1.2.1
  have pwf:=HD7.out.z2.2.1
  clear HD7 HR7 HL7 hd7 K0
  go_region_held3 (fun w'=>w'.cell? ⟨L,0,none⟩=some ↑gl∧w'.cell? ⟨L,1,none⟩=some (.slice al zl cl)∧w'.cell? ⟨L,2,none⟩=some ↑gm∧w'.cell? ⟨L,3,none⟩=some (.slice am zm cm))
   (first|with_reducible assumption|with_reducible exact HK2.out _ _ _ _|with_reducible exact HK1.out _ _)
   (fail)
  clear K0'
  go_wp2
  refine bodyPost_ret (v:= .tuple #[.agg #[gl,.slice al zl cl],.agg #[gm,.slice am zm cm],.int .i64 0]) (by simp [results,results10,go_sem,py0,py1,pw0,pw1]) rfl ?_
  exact ⟨R,HM.out,HN.out.2.2,.inr ⟨HH0.out,u,v,gl,al,cl,zl,gm,am,cm,zm,K,rfl,HL.out.1,HL.out.2.1,HL.out.2.2.1,HL.out.2.2.2.1,HL.out.2.2.2.2.1,HL.out.2.2.2.2.2.1,HL.out.2.2.2.2.2.2,HN.out.1,HN.out.2.1⟩⟩
end Go.Proofs.YtfieffpobgcpmaaGreatDoor
