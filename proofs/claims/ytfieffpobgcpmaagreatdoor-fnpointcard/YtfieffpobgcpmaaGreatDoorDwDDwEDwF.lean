import Derived.Test.YtfieffpobgcpmaaGreatDoorDwADwBDwCDy3aSpecFo
import Derived.Deep.CutRange
import Derived.Test.YtfieffpobgcpmaaGreatDoorMdERkBFpD
set_option maxRecDepth 100000
set_option maxHeartbeats 32000000
namespace Go.Proofs.YtfieffpobgcpmaaGreatDoor
open Go.RowKit
theorem Rd.drewW {P:Nat} {W:World} (h:Rd P W):Rd P W.drew:=h.above (B:=P+1) (Below.drew (Below.refl _ _)) (Nat.lt_succ_self _)
theorem Aside.drewW {P:Nat} {w W:World} (h:Aside P w W):Aside P w W.drew:=h.trans (Aside.of (Below.drew (Below.refl _ _)))
def PairW (P:Nat) (w:World) (e:Ending) (w':World):Prop:= ∃x0 x1 x2 x3 x4 x5 x6 x7 x8 y0 y1 y2 y3 y4 y5:Int,U32 [x0,x1,x2,x3,x4,x5,x6,x7,x8]∧U32 [y0,y1,y2,y3,y4,y5]∧e= .returned (.tuple #[.agg #[.int .u32 x0,.int .u32 x1,.int .u32 x2,.int .u32 x3,.int .u32 x4,.int .u32 x5,.int .u32 x6,.int .u32 x7,.int .u32 x8],.agg #[.int .u32 y0,.int .u32 y1,.int .u32 y2,.int .u32 y3,.int .u32 y4,.int .u32 y5]])∧Rd P w'∧Aside P w w'
theorem pairW_any (P:Nat) (wild:Bool) (w:World) (h:Rd P w):
 Calls Tryz.prog 48 #[.pointer (some ⟨P,0,none⟩),.bool wild] w fun e w'=>PairW P w e w':=by
 have hP:=h.lt
 have H0:Hid (Rd P w):=h
 clear h
 go_enter Tryz.func48,Tryz.ntmps48
 go_wp2_with fail
 refine (next_any P _ ((H0.out.later (bel0 _ _)).later (bel0 _ _))).mono ?_
 rintro e w1 ⟨k,rfl,hk0,hk1,hr,ha⟩
 have hR2:Cs ((w.alloc (.cells #[.int .u32 0,.int .u32 0,.int .u32 0,.int .u32 0,.int .u32 0,.int .u32 0,.int .u32 0,.int .u32 0,.int .u32 0] 36)).alloc (.cells #[.int .u32 0,.int .u32 0,.int .u32 0,.int .u32 0,.int .u32 0,.int .u32 0] 39)) (w.heap.size+1) [.int .u32 0,.int .u32 0,.int .u32 0,.int .u32 0,.int .u32 0,.int .u32 0]:=by
  have:=Cs.new (w.alloc (.cells #[.int .u32 0,.int .u32 0,.int .u32 0,.int .u32 0,.int .u32 0,.int .u32 0,.int .u32 0,.int .u32 0,.int .u32 0] 36)) #[.int .u32 0,.int .u32 0,.int .u32 0,.int .u32 0,.int .u32 0,.int .u32 0] 39
  simpa using this
 have X1:Hid (Cs w1 w.heap.size [.int .u32 0,.int .u32 0,.int .u32 0,.int .u32 0,.int .u32 0,.int .u32 0,.int .u32 0,.int .u32 0,.int .u32 0]∧Cs w1 (w.heap.size+1) [.int .u32 0,.int .u32 0,.int .u32 0,.int .u32 0,.int .u32 0,.int .u32 0]∧True):=⟨((Cs.new w _ _).later (bel0 _ _)).aside ha hP,hR2.aside ha (by omega),trivial⟩
 have H1:Hid (Rd P w1∧Aside P w w1):=⟨hr,((Aside.of (bel0 _ _)).trans (Aside.of (bel0 _ _))).trans ha⟩
 have z1:w.heap.size+1<w1.heap.size:=X1.out.2.1.1
 clear hr ha H0 hR2
 go_wp2_with fail
 refine (triW_any P wild _ H1.out.1).mono ?_
 rintro e w2 ⟨a0,a1,a2,a3,a4,a5,a6,a7,a8,ua,rfl,hr,ha⟩
 obtain ⟨V2,hW⟩: ∃V,(w2.alloc (.cells #[.int .u32 a0,.int .u32 a1,.int .u32 a2,.int .u32 a3,.int .u32 a4,.int .u32 a5,.int .u32 a6,.int .u32 a7,.int .u32 a8] 36))=V:=⟨_,rfl⟩
 have bW:Below w2.heap.size w2 V2:=by rw [←hW];exact bel0 _ _
 have X2:Hid (Cs V2 w.heap.size [.int .u32 0,.int .u32 0,.int .u32 0,.int .u32 0,.int .u32 0,.int .u32 0,.int .u32 0,.int .u32 0,.int .u32 0]∧Cs V2 (w.heap.size+1) [.int .u32 0,.int .u32 0,.int .u32 0,.int .u32 0,.int .u32 0,.int .u32 0]∧Cs V2 w2.heap.size [.int .u32 a0,.int .u32 a1,.int .u32 a2,.int .u32 a3,.int .u32 a4,.int .u32 a5,.int .u32 a6,.int .u32 a7,.int .u32 a8]∧True):=⟨(X1.out.1.aside ha (by omega)).later bW,(X1.out.2.1.aside ha (by omega)).later bW,by rw [←hW];exact Cs.new _ _ _,trivial⟩
 have H2:Hid (Rd P V2∧Aside P w V2):=⟨hr.later bW,(H1.out.2.trans ha).trans (Aside.of bW)⟩
 have z2:w1.heap.size≤w2.heap.size:=by have:=ha.size;omega
 have hV2:=hW
 clear hr ha bW hW X1 H1
 go_wp2_with fail
 clear hV2
 refine (rayW_any P wild _ H2.out.1).mono ?_
 rintro e w3 ⟨b0,b1,b2,b3,b4,b5,ub,rfl,hr,ha⟩
 obtain ⟨V3,hW⟩: ∃V,(w3.alloc (.cells #[.int .u32 b0,.int .u32 b1,.int .u32 b2,.int .u32 b3,.int .u32 b4,.int .u32 b5] 39))=V:=⟨_,rfl⟩
 have bW:Below w3.heap.size w3 V3:=by rw [←hW];exact bel0 _ _
 have X3:Hid (Cs V3 w.heap.size [.int .u32 0,.int .u32 0,.int .u32 0,.int .u32 0,.int .u32 0,.int .u32 0,.int .u32 0,.int .u32 0,.int .u32 0]∧Cs V3 (w.heap.size+1) [.int .u32 0,.int .u32 0,.int .u32 0,.int .u32 0,.int .u32 0,.int .u32 0]∧Cs V3 w2.heap.size [.int .u32 a0,.int .u32 a1,.int .u32 a2,.int .u32 a3,.int .u32 a4,.int .u32 a5,.int .u32 a6,.int .u32 a7,.int .u32 a8]∧Cs V3 w3.heap.size [.int .u32 b0,.int .u32 b1,.int .u32 b2,.int .u32 b3,.int .u32 b4,.int .u32 b5]∧True):=⟨(X2.out.1.aside ha (by omega)).later bW,(X2.out.2.1.aside ha (by omega)).later bW,(X2.out.2.2.1.aside ha (by omega)).later bW,by rw [←hW];exact Cs.new _ _ _,trivial⟩
 have H3:Hid (Rd P V3∧Aside P w V3):=⟨hr.later bW,(H2.out.2.trans ha).trans (Aside.of bW)⟩
 have z3:w2.heap.size<w3.heap.size:=by have:=ha.size;have:=X2.out.2.2.1.1;omega
 have hV3:=hW
 clear hr ha bW hW X2 H2
 have m8:k.tmod 8=k%8:=Int.tmod_eq_emod_of_nonneg hk0
 obtain ⟨b0x0,b0x1,b0x2,b0x3,b0x4,b0x5,b0x6,b0x7,b0x8⟩:=X3.out.1.c9
 have b0f:=X3.out.1.2.1
 obtain ⟨b1x0,b1x1,b1x2,b1x3,b1x4,b1x5⟩:=X3.out.2.1.c6
 have b1f:=X3.out.2.1.2.1
 obtain ⟨b2x0,b2x1,b2x2,b2x3,b2x4,b2x5,b2x6,b2x7,b2x8⟩:=X3.out.2.2.1.c9
 have b2f:=X3.out.2.2.1.2.1
 obtain ⟨b3x0,b3x1,b3x2,b3x3,b3x4,b3x5⟩:=X3.out.2.2.2.1.c6
 have b3f:=X3.out.2.2.2.1.2.1
 go_upto_if 19 with fail
 go_cut [] from 17 to 95 (fun wx=> ∃p0 p1 p2 p3 p4 p5 p6 p7 p8 e0 e1 e2 e3 e4 e5:Int,Hid (U32 [p0,p1,p2,p3,p4,p5,p6,p7,p8]∧U32 [e0,e1,e2,e3,e4,e5]∧(Rd P wx∧Aside P w wx)∧Cs wx w.heap.size [.int .u32 0,.int .u32 0,.int .u32 0,.int .u32 0,.int .u32 0,.int .u32 0,.int .u32 0,.int .u32 0,.int .u32 0]∧Cs wx (w.heap.size+1) [.int .u32 0,.int .u32 0,.int .u32 0,.int .u32 0,.int .u32 0,.int .u32 0]∧Cs wx w2.heap.size [.int .u32 p0,.int .u32 p1,.int .u32 p2,.int .u32 p3,.int .u32 p4,.int .u32 p5,.int .u32 p6,.int .u32 p7,.int .u32 p8]∧Cs wx w3.heap.size [.int .u32 e0,.int .u32 e1,.int .u32 e2,.int .u32 e3,.int .u32 e4,.int .u32 e5]∧True))
 case first=>
  by_cases hc:k%8=0
  ·go_wp2_with fail
   refine (l3order_any b2 a2 _ (ub _ (by simp)).1 (ub _ (by simp)).2 (ua _ (by simp)).1 (ua _ (by simp)).2).mono ?_
   rintro e w5 ⟨rfl,hb5⟩
   have X5:Hid (Cs w5 w.heap.size [.int .u32 0,.int .u32 0,.int .u32 0,.int .u32 0,.int .u32 0,.int .u32 0,.int .u32 0,.int .u32 0,.int .u32 0]∧Cs w5 (w.heap.size+1) [.int .u32 0,.int .u32 0,.int .u32 0,.int .u32 0,.int .u32 0,.int .u32 0]∧Cs w5 w2.heap.size [.int .u32 a0,.int .u32 a1,.int .u32 a2,.int .u32 a3,.int .u32 a4,.int .u32 a2,.int .u32 a6,.int .u32 a7,.int .u32 a2]∧Cs w5 w3.heap.size [.int .u32 a0,.int .u32 a1,.int .u32 b2,.int .u32 0,.int .u32 0,.int .u32 1065353216]∧True):=⟨(((((((X3.out.1.setO (by omega)).setO (by omega)).setO (by omega)).setO (by omega)).setO (by omega)).setO (by omega)).setO (by omega)).later hb5,(((((((X3.out.2.1.setO (by omega)).setO (by omega)).setO (by omega)).setO (by omega)).setO (by omega)).setO (by omega)).setO (by omega)).later hb5,(((((((X3.out.2.2.1.set1 (i:=5) _ (by simp)).set1 (i:=8) _ (by simp)).setO (by omega)).setO (by omega)).setO (by omega)).setO (by omega)).setO (by omega)).later hb5,(((((((X3.out.2.2.2.1.setO (by omega)).setO (by omega)).set1 (i:=0) _ (by simp)).set1 (i:=1) _ (by simp)).set1 (i:=3) _ (by simp)).set1 (i:=4) _ (by simp)).set1 (i:=5) _ (by simp)).later hb5,trivial⟩
   have H5:Hid (Rd P w5∧Aside P w w5):=by
    refine ⟨Rd.later ?_ hb5,Aside.trans ?_ (Aside.of hb5)⟩
    ·(repeat (with_reducible refine Rd.setW ?_ (by omega) _ _));exact H3.out.1
    ·(repeat (with_reducible refine Aside.setHigh ?_ (by simp<;>omega) _));exact H3.out.2
   clear hb5 b0x0 b0x1 b0x2 b0x3 b0x4 b0x5 b0x6 b0x7 b0x8 b0f b1x0 b1x1 b1x2 b1x3 b1x4 b1x5 b1f b2x0 b2x1 b2x2 b2x3 b2x4 b2x5 b2x6 b2x7 b2x8 b2f b3x0 b3x1 b3x2 b3x3 b3x4 b3x5 b3f
   obtain ⟨b0x0,b0x1,b0x2,b0x3,b0x4,b0x5,b0x6,b0x7,b0x8⟩:=X5.out.1.c9
   have b0f:=X5.out.1.2.1
   obtain ⟨b1x0,b1x1,b1x2,b1x3,b1x4,b1x5⟩:=X5.out.2.1.c6
   have b1f:=X5.out.2.1.2.1
   obtain ⟨b2x0,b2x1,b2x2,b2x3,b2x4,b2x5,b2x6,b2x7,b2x8⟩:=X5.out.2.2.1.c9
   have b2f:=X5.out.2.2.1.2.1
   obtain ⟨b3x0,b3x1,b3x2,b3x3,b3x4,b3x5⟩:=X5.out.2.2.2.1.c6
   have b3f:=X5.out.2.2.2.1.2.1
   by_cases hg:0<sgn (fVal b2-fVal a2)
   ·go_wp2
    go_meet
    case rel=>exact ⟨a0,a1,a2,a3,a4,a2,a6,a7,a2,a0,a1,b2,0,0,3212836864,U32.cons (ua _ (by simp)) (U32.cons (ua _ (by simp)) (U32.cons (ua _ (by simp)) (U32.cons (ua _ (by simp)) (U32.cons (ua _ (by simp)) (U32.cons (ua _ (by simp)) (U32.cons (ua _ (by simp)) (U32.cons (ua _ (by simp)) (U32.cons (ua _ (by simp)) (U32.nil))))))))),U32.cons (ua _ (by simp)) (U32.cons (ua _ (by simp)) (U32.cons (ub _ (by simp)) (U32.cons ⟨by omega,by omega⟩ (U32.cons ⟨by omega,by omega⟩ (U32.cons ⟨by omega,by omega⟩ (U32.nil)))))),⟨by (repeat (with_reducible refine Rd.setW ?_ (by omega) _ _));exact H5.out.1,by (repeat (with_reducible refine Aside.setHigh ?_ (by simp<;>omega) _));exact H5.out.2⟩,(X5.out.1.setO (by omega)),(X5.out.2.1.setO (by omega)),(X5.out.2.2.1.setO (by omega)),(X5.out.2.2.2.1.set1 (i:=5) _ (by simp)),trivial⟩
   ·go_wp2
    go_meet
    case rel=>exact ⟨a0,a1,a2,a3,a4,a2,a6,a7,a2,a0,a1,b2,0,0,1065353216,U32.cons (ua _ (by simp)) (U32.cons (ua _ (by simp)) (U32.cons (ua _ (by simp)) (U32.cons (ua _ (by simp)) (U32.cons (ua _ (by simp)) (U32.cons (ua _ (by simp)) (U32.cons (ua _ (by simp)) (U32.cons (ua _ (by simp)) (U32.cons (ua _ (by simp)) (U32.nil))))))))),U32.cons (ua _ (by simp)) (U32.cons (ua _ (by simp)) (U32.cons (ub _ (by simp)) (U32.cons ⟨by omega,by omega⟩ (U32.cons ⟨by omega,by omega⟩ (U32.cons ⟨by omega,by omega⟩ (U32.nil)))))),H5.out,X5.out⟩
  ·go_wp2
   go_meet
   case rel=>exact ⟨a0,a1,a2,a3,a4,a5,a6,a7,a8,b0,b1,b2,b3,b4,b5,U32.cons (ua _ (by simp)) (U32.cons (ua _ (by simp)) (U32.cons (ua _ (by simp)) (U32.cons (ua _ (by simp)) (U32.cons (ua _ (by simp)) (U32.cons (ua _ (by simp)) (U32.cons (ua _ (by simp)) (U32.cons (ua _ (by simp)) (U32.cons (ua _ (by simp)) (U32.nil))))))))),U32.cons (ub _ (by simp)) (U32.cons (ub _ (by simp)) (U32.cons (ub _ (by simp)) (U32.cons (ub _ (by simp)) (U32.cons (ub _ (by simp)) (U32.cons (ub _ (by simp)) (U32.nil)))))),H3.out,X3.out⟩
 case rest=>
 obtain ⟨p0,p1,p2,p3,p4,p5,p6,p7,p8,e0,e1,e2,e3,e4,e5,HC⟩:=hcut
 have up:=HC.out.1
 have ue:=HC.out.2.1
 have HH0:=Hid.mk HC.out.2.2.1
 have XX0:=Hid.mk HC.out.2.2.2
 clear HC X3 H3 b0x0 b0x1 b0x2 b0x3 b0x4 b0x5 b0x6 b0x7 b0x8 b0f b1x0 b1x1 b1x2 b1x3 b1x4 b1x5 b1f b2x0 b2x1 b2x2 b2x3 b2x4 b2x5 b2x6 b2x7 b2x8 b2f b3x0 b3x1 b3x2 b3x3 b3x4 b3x5 b3f hV3
 obtain ⟨b0x0,b0x1,b0x2,b0x3,b0x4,b0x5,b0x6,b0x7,b0x8⟩:=XX0.out.1.c9
 have b0f:=XX0.out.1.2.1
 obtain ⟨b1x0,b1x1,b1x2,b1x3,b1x4,b1x5⟩:=XX0.out.2.1.c6
 have b1f:=XX0.out.2.1.2.1
 obtain ⟨b2x0,b2x1,b2x2,b2x3,b2x4,b2x5,b2x6,b2x7,b2x8⟩:=XX0.out.2.2.1.c9
 have b2f:=XX0.out.2.2.1.2.1
 obtain ⟨b3x0,b3x1,b3x2,b3x3,b3x4,b3x5⟩:=XX0.out.2.2.2.1.c6
 have b3f:=XX0.out.2.2.2.1.2.1
 go_upto_if 54 with fail
 go_cut [] from 52 to 95 (fun wx=> ∃q0 q1 q2 q3 q4 q5 q6 q7 q8 f0 f1 f2 f3 f4 f5:Int,Hid (U32 [q0,q1,q2,q3,q4,q5,q6,q7,q8]∧U32 [f0,f1,f2,f3,f4,f5]∧(Rd P wx∧Aside P w wx)∧Cs wx w.heap.size [.int .u32 0,.int .u32 0,.int .u32 0,.int .u32 0,.int .u32 0,.int .u32 0,.int .u32 0,.int .u32 0,.int .u32 0]∧Cs wx (w.heap.size+1) [.int .u32 0,.int .u32 0,.int .u32 0,.int .u32 0,.int .u32 0,.int .u32 0]∧Cs wx w2.heap.size [.int .u32 q0,.int .u32 q1,.int .u32 q2,.int .u32 q3,.int .u32 q4,.int .u32 q5,.int .u32 q6,.int .u32 q7,.int .u32 q8]∧Cs wx w3.heap.size [.int .u32 f0,.int .u32 f1,.int .u32 f2,.int .u32 f3,.int .u32 f4,.int .u32 f5]∧True))
 case first=>
  by_cases hc:k%8=1
  ·go_wp2_with fail
   refine (noWayV_any e3 e4 0 _ (ue _ (by simp)).1 (ue _ (by simp)).2 (ue _ (by simp)).1 (ue _ (by simp)).2 (by omega) (by omega)).mono ?_
   rintro e w5 ⟨rfl,hb5⟩
   have X5:Hid (Cs w5 w.heap.size [.int .u32 0,.int .u32 0,.int .u32 0,.int .u32 0,.int .u32 0,.int .u32 0,.int .u32 0,.int .u32 0,.int .u32 0]∧Cs w5 (w.heap.size+1) [.int .u32 0,.int .u32 0,.int .u32 0,.int .u32 0,.int .u32 0,.int .u32 0]∧Cs w5 w2.heap.size [.int .u32 p0,.int .u32 p1,.int .u32 p2,.int .u32 p3,.int .u32 p4,.int .u32 p2,.int .u32 p6,.int .u32 p7,.int .u32 p2]∧Cs w5 w3.heap.size [.int .u32 e0,.int .u32 e1,.int .u32 p2,.int .u32 e3,.int .u32 e4,.int .u32 0]∧True):=⟨((((XX0.out.1.setO (by omega)).setO (by omega)).setO (by omega)).setO (by omega)).later hb5,((((XX0.out.2.1.setO (by omega)).setO (by omega)).setO (by omega)).setO (by omega)).later hb5,((((XX0.out.2.2.1.set1 (i:=5) _ (by simp)).set1 (i:=8) _ (by simp)).setO (by omega)).setO (by omega)).later hb5,((((XX0.out.2.2.2.1.setO (by omega)).setO (by omega)).set1 (i:=2) _ (by simp)).set1 (i:=5) _ (by simp)).later hb5,trivial⟩
   have H5:Hid (Rd P w5∧Aside P w w5):=by
    refine ⟨Rd.later ?_ hb5,Aside.trans ?_ (Aside.of hb5)⟩
    ·(repeat (with_reducible refine Rd.setW ?_ (by omega) _ _));exact HH0.out.1
    ·(repeat (with_reducible refine Aside.setHigh ?_ (by simp<;>omega) _));exact HH0.out.2
   clear hb5 b0x0 b0x1 b0x2 b0x3 b0x4 b0x5 b0x6 b0x7 b0x8 b0f b1x0 b1x1 b1x2 b1x3 b1x4 b1x5 b1f b2x0 b2x1 b2x2 b2x3 b2x4 b2x5 b2x6 b2x7 b2x8 b2f b3x0 b3x1 b3x2 b3x3 b3x4 b3x5 b3f
   obtain ⟨b0x0,b0x1,b0x2,b0x3,b0x4,b0x5,b0x6,b0x7,b0x8⟩:=X5.out.1.c9
   have b0f:=X5.out.1.2.1
   obtain ⟨b1x0,b1x1,b1x2,b1x3,b1x4,b1x5⟩:=X5.out.2.1.c6
   have b1f:=X5.out.2.1.2.1
   obtain ⟨b2x0,b2x1,b2x2,b2x3,b2x4,b2x5,b2x6,b2x7,b2x8⟩:=X5.out.2.2.1.c9
   have b2f:=X5.out.2.2.1.2.1
   obtain ⟨b3x0,b3x1,b3x2,b3x3,b3x4,b3x5⟩:=X5.out.2.2.2.1.c6
   have b3f:=X5.out.2.2.2.1.2.1
   cases hg:noWayB e3 e4 0
   ·go_wp2
    go_meet
    case rel=>exact ⟨p0,p1,p2,p3,p4,p2,p6,p7,p2,e0,e1,p2,e3,e4,0,U32.cons (up _ (by simp)) (U32.cons (up _ (by simp)) (U32.cons (up _ (by simp)) (U32.cons (up _ (by simp)) (U32.cons (up _ (by simp)) (U32.cons (up _ (by simp)) (U32.cons (up _ (by simp)) (U32.cons (up _ (by simp)) (U32.cons (up _ (by simp)) (U32.nil))))))))),U32.cons (ue _ (by simp)) (U32.cons (ue _ (by simp)) (U32.cons (up _ (by simp)) (U32.cons (ue _ (by simp)) (U32.cons (ue _ (by simp)) (U32.cons ⟨by omega,by omega⟩ (U32.nil)))))),H5.out,X5.out⟩
   ·go_wp2
    go_meet
    case rel=>exact ⟨p0,p1,p2,p3,p4,p2,p6,p7,p2,e0,e1,p2,1065353216,e4,0,U32.cons (up _ (by simp)) (U32.cons (up _ (by simp)) (U32.cons (up _ (by simp)) (U32.cons (up _ (by simp)) (U32.cons (up _ (by simp)) (U32.cons (up _ (by simp)) (U32.cons (up _ (by simp)) (U32.cons (up _ (by simp)) (U32.cons (up _ (by simp)) (U32.nil))))))))),U32.cons (ue _ (by simp)) (U32.cons (ue _ (by simp)) (U32.cons (up _ (by simp)) (U32.cons ⟨by omega,by omega⟩ (U32.cons (ue _ (by simp)) (U32.cons ⟨by omega,by omega⟩ (U32.nil)))))),⟨by (repeat (with_reducible refine Rd.setW ?_ (by omega) _ _));exact H5.out.1,by (repeat (with_reducible refine Aside.setHigh ?_ (by simp<;>omega) _));exact H5.out.2⟩,(X5.out.1.setO (by omega)),(X5.out.2.1.setO (by omega)),(X5.out.2.2.1.setO (by omega)),(X5.out.2.2.2.1.set1 (i:=3) _ (by simp)),trivial⟩
  ·go_wp2
   go_meet
   case rel=>exact ⟨p0,p1,p2,p3,p4,p5,p6,p7,p8,e0,e1,e2,e3,e4,e5,U32.cons (up _ (by simp)) (U32.cons (up _ (by simp)) (U32.cons (up _ (by simp)) (U32.cons (up _ (by simp)) (U32.cons (up _ (by simp)) (U32.cons (up _ (by simp)) (U32.cons (up _ (by simp)) (U32.cons (up _ (by simp)) (U32.cons (up _ (by simp)) (U32.nil))))))))),U32.cons (ue _ (by simp)) (U32.cons (ue _ (by simp)) (U32.cons (ue _ (by simp)) (U32.cons (ue _ (by simp)) (U32.cons (ue _ (by simp)) (U32.cons (ue _ (by simp)) (U32.nil)))))),HH0.out,XX0.out⟩
 case rest=>
 obtain ⟨q0,q1,q2,q3,q4,q5,q6,q7,q8,f0,f1,f2,f3,f4,f5,HC⟩:=hcut
 have uq:=HC.out.1
 have uf:=HC.out.2.1
 have HH1:=Hid.mk HC.out.2.2.1
 have XX1:=Hid.mk HC.out.2.2.2
 clear HC XX0 HH0 b0x0 b0x1 b0x2 b0x3 b0x4 b0x5 b0x6 b0x7 b0x8 b0f b1x0 b1x1 b1x2 b1x3 b1x4 b1x5 b1f b2x0 b2x1 b2x2 b2x3 b2x4 b2x5 b2x6 b2x7 b2x8 b2f b3x0 b3x1 b3x2 b3x3 b3x4 b3x5 b3f
 obtain ⟨b0x0,b0x1,b0x2,b0x3,b0x4,b0x5,b0x6,b0x7,b0x8⟩:=XX1.out.1.c9
 have b0f:=XX1.out.1.2.1
 obtain ⟨b1x0,b1x1,b1x2,b1x3,b1x4,b1x5⟩:=XX1.out.2.1.c6
 have b1f:=XX1.out.2.1.2.1
 obtain ⟨b2x0,b2x1,b2x2,b2x3,b2x4,b2x5,b2x6,b2x7,b2x8⟩:=XX1.out.2.2.1.c9
 have b2f:=XX1.out.2.2.1.2.1
 obtain ⟨b3x0,b3x1,b3x2,b3x3,b3x4,b3x5⟩:=XX1.out.2.2.2.1.c6
 have b3f:=XX1.out.2.2.2.1.2.1
 go_upto_if 79 with fail
 go_cut [] from 77 to 95 (fun wx=> ∃m0 m1 m2 m3 m4 m5 m6 m7 m8 g0 g1 g2 g3 g4 g5:Int,Hid (U32 [m0,m1,m2,m3,m4,m5,m6,m7,m8]∧U32 [g0,g1,g2,g3,g4,g5]∧(Rd P wx∧Aside P w wx)∧Cs wx w.heap.size [.int .u32 0,.int .u32 0,.int .u32 0,.int .u32 0,.int .u32 0,.int .u32 0,.int .u32 0,.int .u32 0,.int .u32 0]∧Cs wx (w.heap.size+1) [.int .u32 0,.int .u32 0,.int .u32 0,.int .u32 0,.int .u32 0,.int .u32 0]∧Cs wx w2.heap.size [.int .u32 m0,.int .u32 m1,.int .u32 m2,.int .u32 m3,.int .u32 m4,.int .u32 m5,.int .u32 m6,.int .u32 m7,.int .u32 m8]∧Cs wx w3.heap.size [.int .u32 g0,.int .u32 g1,.int .u32 g2,.int .u32 g3,.int .u32 g4,.int .u32 g5]∧True))
 case first=>
  by_cases hc:k%8=2
  ·go_wp2
   go_meet
   case rel=>exact ⟨3229614080,3229614080,0,1086324736,3229614080,0,3229614080,1086324736,0,f0,f1,1077936128,f3,f4,3212836864,U32.cons ⟨by omega,by omega⟩ (U32.cons ⟨by omega,by omega⟩ (U32.cons ⟨by omega,by omega⟩ (U32.cons ⟨by omega,by omega⟩ (U32.cons ⟨by omega,by omega⟩ (U32.cons ⟨by omega,by omega⟩ (U32.cons ⟨by omega,by omega⟩ (U32.cons ⟨by omega,by omega⟩ (U32.cons ⟨by omega,by omega⟩ (U32.nil))))))))),U32.cons (uf _ (by simp)) (U32.cons (uf _ (by simp)) (U32.cons ⟨by omega,by omega⟩ (U32.cons (uf _ (by simp)) (U32.cons (uf _ (by simp)) (U32.cons ⟨by omega,by omega⟩ (U32.nil)))))),⟨by (repeat (with_reducible refine Rd.setW ?_ (by omega) _ _));exact HH1.out.1,by (repeat (with_reducible refine Aside.setHigh ?_ (by simp<;>omega) _));exact HH1.out.2⟩,(((((((((((XX1.out.1.setO (by omega)).setO (by omega)).setO (by omega)).setO (by omega)).setO (by omega)).setO (by omega)).setO (by omega)).setO (by omega)).setO (by omega)).setO (by omega)).setO (by omega)),(((((((((((XX1.out.2.1.setO (by omega)).setO (by omega)).setO (by omega)).setO (by omega)).setO (by omega)).setO (by omega)).setO (by omega)).setO (by omega)).setO (by omega)).setO (by omega)).setO (by omega)),(((((((((((XX1.out.2.2.1.set1 (i:=0) _ (by simp)).set1 (i:=1) _ (by simp)).set1 (i:=2) _ (by simp)).set1 (i:=3) _ (by simp)).set1 (i:=4) _ (by simp)).set1 (i:=5) _ (by simp)).set1 (i:=6) _ (by simp)).set1 (i:=7) _ (by simp)).set1 (i:=8) _ (by simp)).setO (by omega)).setO (by omega)),(((((((((((XX1.out.2.2.2.1.setO (by omega)).setO (by omega)).setO (by omega)).setO (by omega)).setO (by omega)).setO (by omega)).setO (by omega)).setO (by omega)).setO (by omega)).set1 (i:=2) _ (by simp)).set1 (i:=5) _ (by simp)),trivial⟩
  ·go_wp2
   go_meet
   case rel=>exact ⟨q0,q1,q2,q3,q4,q5,q6,q7,q8,f0,f1,f2,f3,f4,f5,U32.cons (uq _ (by simp)) (U32.cons (uq _ (by simp)) (U32.cons (uq _ (by simp)) (U32.cons (uq _ (by simp)) (U32.cons (uq _ (by simp)) (U32.cons (uq _ (by simp)) (U32.cons (uq _ (by simp)) (U32.cons (uq _ (by simp)) (U32.cons (uq _ (by simp)) (U32.nil))))))))),U32.cons (uf _ (by simp)) (U32.cons (uf _ (by simp)) (U32.cons (uf _ (by simp)) (U32.cons (uf _ (by simp)) (U32.cons (uf _ (by simp)) (U32.cons (uf _ (by simp)) (U32.nil)))))),HH1.out,XX1.out⟩
 case rest=>
 obtain ⟨m0,m1,m2,m3,m4,m5,m6,m7,m8,g0,g1,g2,g3,g4,g5,HC⟩:=hcut
 have um:=HC.out.1
 have ug:=HC.out.2.1
 have HH2:=Hid.mk HC.out.2.2.1
 have XX2:=Hid.mk HC.out.2.2.2
 clear HC XX1 HH1 b0x0 b0x1 b0x2 b0x3 b0x4 b0x5 b0x6 b0x7 b0x8 b0f b1x0 b1x1 b1x2 b1x3 b1x4 b1x5 b1f b2x0 b2x1 b2x2 b2x3 b2x4 b2x5 b2x6 b2x7 b2x8 b2f b3x0 b3x1 b3x2 b3x3 b3x4 b3x5 b3f
 obtain ⟨b0x0,b0x1,b0x2,b0x3,b0x4,b0x5,b0x6,b0x7,b0x8⟩:=XX2.out.1.c9
 have b0f:=XX2.out.1.2.1
 obtain ⟨b1x0,b1x1,b1x2,b1x3,b1x4,b1x5⟩:=XX2.out.2.1.c6
 have b1f:=XX2.out.2.1.2.1
 obtain ⟨b2x0,b2x1,b2x2,b2x3,b2x4,b2x5,b2x6,b2x7,b2x8⟩:=XX2.out.2.2.1.c9
 have b2f:=XX2.out.2.2.1.2.1
 obtain ⟨b3x0,b3x1,b3x2,b3x3,b3x4,b3x5⟩:=XX2.out.2.2.2.1.c6
 have b3f:=XX2.out.2.2.2.1.2.1
 go_upto_if 90 with fail
 go_cut [] from 88 to 95 (fun wx=> ∃n0 n1 n2 n3 n4 n5 n6 n7 n8 h0 h1 h2 h3 h4 h5:Int,Hid (U32 [n0,n1,n2,n3,n4,n5,n6,n7,n8]∧U32 [h0,h1,h2,h3,h4,h5]∧(Rd P wx∧Aside P w wx)∧Cs wx w.heap.size [.int .u32 0,.int .u32 0,.int .u32 0,.int .u32 0,.int .u32 0,.int .u32 0,.int .u32 0,.int .u32 0,.int .u32 0]∧Cs wx (w.heap.size+1) [.int .u32 0,.int .u32 0,.int .u32 0,.int .u32 0,.int .u32 0,.int .u32 0]∧Cs wx w2.heap.size [.int .u32 n0,.int .u32 n1,.int .u32 n2,.int .u32 n3,.int .u32 n4,.int .u32 n5,.int .u32 n6,.int .u32 n7,.int .u32 n8]∧Cs wx w3.heap.size [.int .u32 h0,.int .u32 h1,.int .u32 h2,.int .u32 h3,.int .u32 h4,.int .u32 h5]∧True))
 case first=>
  by_cases hc:k%8=3
  ·go_wp2
   go_meet
   case rel=>exact ⟨m0,m1,m2,m3,m4,m5,m6,m7,m8,m3,m4,m5,g3,g4,g5,U32.cons (um _ (by simp)) (U32.cons (um _ (by simp)) (U32.cons (um _ (by simp)) (U32.cons (um _ (by simp)) (U32.cons (um _ (by simp)) (U32.cons (um _ (by simp)) (U32.cons (um _ (by simp)) (U32.cons (um _ (by simp)) (U32.cons (um _ (by simp)) (U32.nil))))))))),U32.cons (um _ (by simp)) (U32.cons (um _ (by simp)) (U32.cons (um _ (by simp)) (U32.cons (ug _ (by simp)) (U32.cons (ug _ (by simp)) (U32.cons (ug _ (by simp)) (U32.nil)))))),⟨by (repeat (with_reducible refine Rd.setW ?_ (by omega) _ _));exact HH2.out.1,by (repeat (with_reducible refine Aside.setHigh ?_ (by simp<;>omega) _));exact HH2.out.2⟩,(((XX2.out.1.setO (by omega)).setO (by omega)).setO (by omega)),(((XX2.out.2.1.setO (by omega)).setO (by omega)).setO (by omega)),(((XX2.out.2.2.1.setO (by omega)).setO (by omega)).setO (by omega)),(((XX2.out.2.2.2.1.set1 (i:=0) _ (by simp)).set1 (i:=1) _ (by simp)).set1 (i:=2) _ (by simp)),trivial⟩
  ·go_wp2
   go_meet
   case rel=>exact ⟨m0,m1,m2,m3,m4,m5,m6,m7,m8,g0,g1,g2,g3,g4,g5,U32.cons (um _ (by simp)) (U32.cons (um _ (by simp)) (U32.cons (um _ (by simp)) (U32.cons (um _ (by simp)) (U32.cons (um _ (by simp)) (U32.cons (um _ (by simp)) (U32.cons (um _ (by simp)) (U32.cons (um _ (by simp)) (U32.cons (um _ (by simp)) (U32.nil))))))))),U32.cons (ug _ (by simp)) (U32.cons (ug _ (by simp)) (U32.cons (ug _ (by simp)) (U32.cons (ug _ (by simp)) (U32.cons (ug _ (by simp)) (U32.cons (ug _ (by simp)) (U32.nil)))))),HH2.out,XX2.out⟩
 case rest=>
 obtain ⟨n0,n1,n2,n3,n4,n5,n6,n7,n8,h0,h1,h2,h3,h4,h5,HC⟩:=hcut
 have un:=HC.out.1
 have uh:=HC.out.2.1
 have HH3:=Hid.mk HC.out.2.2.1
 have XX3:=Hid.mk HC.out.2.2.2
 clear HC XX2 HH2 b0x0 b0x1 b0x2 b0x3 b0x4 b0x5 b0x6 b0x7 b0x8 b0f b1x0 b1x1 b1x2 b1x3 b1x4 b1x5 b1f b2x0 b2x1 b2x2 b2x3 b2x4 b2x5 b2x6 b2x7 b2x8 b2f b3x0 b3x1 b3x2 b3x3 b3x4 b3x5 b3f
 obtain ⟨b0x0,b0x1,b0x2,b0x3,b0x4,b0x5,b0x6,b0x7,b0x8⟩:=XX3.out.1.c9
 have b0f:=XX3.out.1.2.1
 obtain ⟨b1x0,b1x1,b1x2,b1x3,b1x4,b1x5⟩:=XX3.out.2.1.c6
 have b1f:=XX3.out.2.1.2.1
 obtain ⟨b2x0,b2x1,b2x2,b2x3,b2x4,b2x5,b2x6,b2x7,b2x8⟩:=XX3.out.2.2.1.c9
 have b2f:=XX3.out.2.2.1.2.1
 obtain ⟨b3x0,b3x1,b3x2,b3x3,b3x4,b3x5⟩:=XX3.out.2.2.2.1.c6
 have b3f:=XX3.out.2.2.2.1.2.1
 clear XX3
 go_wp2
 go_region
 all_goals go_wp2
 all_goals refine bodyPost_ret (v:= .tuple #[.agg #[.int .u32 n0,.int .u32 n1,.int .u32 n2,.int .u32 n3,.int .u32 n4,.int .u32 n5,.int .u32 n6,.int .u32 n7,.int .u32 n8],.agg #[.int .u32 h0,.int .u32 h1,.int .u32 h2,.int .u32 h3,.int .u32 h4,.int .u32 h5]]) (by simp [results,Tryz.results48,go_sem,b0x0,b0x1,b0x2,b0x3,b0x4,b0x5,b0x6,b0x7,b0x8,b1x0,b1x1,b1x2,b1x3,b1x4,b1x5]) rfl ?_
 all_goals exact ⟨n0,n1,n2,n3,n4,n5,n6,n7,n8,h0,h1,h2,h3,h4,h5,un,uh,rfl,by (repeat (first|with_reducible refine Rd.drewW ?_|with_reducible refine Rd.setW ?_ (by omega) _ _));exact HH3.out.1,by (repeat (first|with_reducible refine Aside.drewW ?_|with_reducible refine Aside.setHigh ?_ (by simp<;>omega) _));exact HH3.out.2⟩
theorem Cs.asideN {P:Nat} {W W':World} {b:Nat} {us:List Value} (h:Cs W b us) (ha:Aside P W W') (hP:b≠P):Cs W' b us:=
 ⟨Nat.lt_of_lt_of_le h.1 ha.size,fun j=>(ha.frozen (p:=⟨b,j,none⟩) h.1 hP).trans (h.2.1 j),fun j u hj=>(ha.cell (p:=⟨b,0+j,none⟩) h.1 hP).trans (h.2.2 j u hj)⟩
theorem wholeP_any (a b c:Int) (w:World) (hu:U32 [a,b,c]):
 Calls Tryz.prog 62 #[.agg #[.int .u32 a,.int .u32 b,.int .u32 c]] w fun e w'=> ∃x y z:Int,U32 [x,y,z]∧e= .returned (.agg #[.int .u32 x,.int .u32 y,.int .u32 z])∧Below w.heap.size w w':=by
 have H0:Hid (U32 [a,b,c]∧Cs (((w.alloc (.cells #[.int .u32 a,.int .u32 b,.int .u32 c] 34)).alloc (.cells #[.int .u32 0,.int .u32 0,.int .u32 0] 34)).alloc (.cells #[.int .u32 a,.int .u32 b,.int .u32 c] 22)) (w.heap.size+1) [.int .u32 0,.int .u32 0,.int .u32 0]∧Cs (((w.alloc (.cells #[.int .u32 a,.int .u32 b,.int .u32 c] 34)).alloc (.cells #[.int .u32 0,.int .u32 0,.int .u32 0] 34)).alloc (.cells #[.int .u32 a,.int .u32 b,.int .u32 c] 22)) (w.heap.size+1+1) [.int .u32 a,.int .u32 b,.int .u32 c]∧Below w.heap.size w (((w.alloc (.cells #[.int .u32 a,.int .u32 b,.int .u32 c] 34)).alloc (.cells #[.int .u32 0,.int .u32 0,.int .u32 0] 34)).alloc (.cells #[.int .u32 a,.int .u32 b,.int .u32 c] 22))):=by
  have h1:=Cs.new (w.alloc (.cells #[.int .u32 a,.int .u32 b,.int .u32 c] 34)) #[.int .u32 0,.int .u32 0,.int .u32 0] 34
  have h2:=Cs.new ((w.alloc (.cells #[.int .u32 a,.int .u32 b,.int .u32 c] 34)).alloc (.cells #[.int .u32 0,.int .u32 0,.int .u32 0] 34)) #[.int .u32 a,.int .u32 b,.int .u32 c] 22
  exact ⟨hu,by simpa using h1.later (bel0 _ _),by simpa using h2,((bel0 _ _).trans ((bel0 _ _).mono (by simp))).trans ((bel0 _ _).mono (by simp<;>omega))⟩
 clear hu
 go_enter Tryz.func62,Tryz.ntmps62
 go_wp2
 obtain ⟨W,hW⟩: ∃W,W=(((w.alloc (.cells #[.int .u32 a,.int .u32 b,.int .u32 c] 34)).alloc (.cells #[.int .u32 0,.int .u32 0,.int .u32 0] 34)).alloc (.cells #[.int .u32 a,.int .u32 b,.int .u32 c] 22)):=⟨_,rfl⟩
 rw [←hW] at H0⊢
 clear hW
 go_loopw [4] (fun s wr=> ∃(i:Nat) (x y z:Int),i≤3∧s= .int .i64 i∧Hid (U32 [x,y,z]∧Cs wr (w.heap.size+1) [.int .u32 0,.int .u32 0,.int .u32 0]∧Cs wr (w.heap.size+1+1) [.int .u32 x,.int .u32 y,.int .u32 z]∧Below w.heap.size w wr)) (fun s _=>3-(intOf s).toNat)
 case atStart=>exact ⟨0,a,b,c,by omega,rfl,H0.out⟩
 case round=>
  obtain ⟨i,x,y,z,hi,rfl,H⟩:=hrel
  clear H0
  have c0:=H.out.2.2.1.at 0 rfl
  have c1:=H.out.2.2.1.at 1 rfl
  have c2:=H.out.2.2.1.at 2 rfl
  have cf:=H.out.2.2.1.2.1
  have d0:=H.out.2.1.at 0 rfl
  have d1:=H.out.2.1.at 1 rfl
  have d2:=H.out.2.1.at 2 rfl
  have df:=H.out.2.1.2.1
  rcases (by omega:i=0∨i=1∨i=2∨i=3) with rfl|rfl|rfl|rfl
  ·by_cases h1:x=1056964608
   ·subst h1
    go_wp2
    go_roundw
    case rel=>exact ⟨1,1065353216,y,z,by omega,by go_num,U32.cons (by omega) (U32.cons (H.out.1 _ (by simp)) (U32.cons (H.out.1 _ (by simp)) U32.nil)),Cs.setO H.out.2.1 (by omega),Cs.set1 (i:=0) H.out.2.2.1 _ (by simp),Below.setCell H.out.2.2.2 (by simp<;>omega) _⟩
    case measure=>simp [intOf]
   ·have h1':(x==1056964608)=false:=by rw [beq_eq_false_iff_ne];exact h1
    by_cases h2:x=2147483648
    ·subst h2
     go_wp2
     go_roundw
     case rel=>exact ⟨1,0,y,z,by omega,by go_num,U32.cons (by omega) (U32.cons (H.out.1 _ (by simp)) (U32.cons (H.out.1 _ (by simp)) U32.nil)),Cs.setO H.out.2.1 (by omega),Cs.set1 (i:=0) H.out.2.2.1 _ (by simp),Below.setCell H.out.2.2.2 (by simp<;>omega) _⟩
     case measure=>simp [intOf]
    ·have h2':(x==2147483648)=false:=by rw [beq_eq_false_iff_ne];exact h2
     go_wp2
     go_roundw
     case rel=>exact ⟨1,x,y,z,by omega,by go_num,U32.cons (H.out.1 _ (by simp)) (U32.cons (H.out.1 _ (by simp)) (U32.cons (H.out.1 _ (by simp)) U32.nil)),H.out.2.1,H.out.2.2.1,H.out.2.2.2⟩
     case measure=>simp [intOf]
  ·by_cases h1:y=1056964608
   ·subst h1
    go_wp2
    go_roundw
    case rel=>exact ⟨2,x,1065353216,z,by omega,by go_num,U32.cons (H.out.1 _ (by simp)) (U32.cons (by omega) (U32.cons (H.out.1 _ (by simp)) U32.nil)),Cs.setO H.out.2.1 (by omega),Cs.set1 (i:=1) H.out.2.2.1 _ (by simp),Below.setCell H.out.2.2.2 (by simp<;>omega) _⟩
    case measure=>simp [intOf]
   ·have h1':(y==1056964608)=false:=by rw [beq_eq_false_iff_ne];exact h1
    by_cases h2:y=2147483648
    ·subst h2
     go_wp2
     go_roundw
     case rel=>exact ⟨2,x,0,z,by omega,by go_num,U32.cons (H.out.1 _ (by simp)) (U32.cons (by omega) (U32.cons (H.out.1 _ (by simp)) U32.nil)),Cs.setO H.out.2.1 (by omega),Cs.set1 (i:=1) H.out.2.2.1 _ (by simp),Below.setCell H.out.2.2.2 (by simp<;>omega) _⟩
     case measure=>simp [intOf]
    ·have h2':(y==2147483648)=false:=by rw [beq_eq_false_iff_ne];exact h2
     go_wp2
     go_roundw
     case rel=>exact ⟨2,x,y,z,by omega,by go_num,U32.cons (H.out.1 _ (by simp)) (U32.cons (H.out.1 _ (by simp)) (U32.cons (H.out.1 _ (by simp)) U32.nil)),H.out.2.1,H.out.2.2.1,H.out.2.2.2⟩
     case measure=>simp [intOf]
  ·by_cases h1:z=1056964608
   ·subst h1
    go_wp2
    go_roundw
    case rel=>exact ⟨3,x,y,1065353216,by omega,by go_num,U32.cons (H.out.1 _ (by simp)) (U32.cons (H.out.1 _ (by simp)) (U32.cons (by omega) U32.nil)),Cs.setO H.out.2.1 (by omega),Cs.set1 (i:=2) H.out.2.2.1 _ (by simp),Below.setCell H.out.2.2.2 (by simp<;>omega) _⟩
    case measure=>simp [intOf]
   ·have h1':(z==1056964608)=false:=by rw [beq_eq_false_iff_ne];exact h1
    by_cases h2:z=2147483648
    ·subst h2
     go_wp2
     go_roundw
     case rel=>exact ⟨3,x,y,0,by omega,by go_num,U32.cons (H.out.1 _ (by simp)) (U32.cons (H.out.1 _ (by simp)) (U32.cons (by omega) U32.nil)),Cs.setO H.out.2.1 (by omega),Cs.set1 (i:=2) H.out.2.2.1 _ (by simp),Below.setCell H.out.2.2.2 (by simp<;>omega) _⟩
     case measure=>simp [intOf]
    ·have h2':(z==2147483648)=false:=by rw [beq_eq_false_iff_ne];exact h2
     go_wp2
     go_roundw
     case rel=>exact ⟨3,x,y,z,by omega,by go_num,U32.cons (H.out.1 _ (by simp)) (U32.cons (H.out.1 _ (by simp)) (U32.cons (H.out.1 _ (by simp)) U32.nil)),H.out.2.1,H.out.2.2.1,H.out.2.2.2⟩
     case measure=>simp [intOf]
  ·go_wp2
   go_region
   all_goals go_wp2
   all_goals refine bodyPost_ret (v:= .agg #[.int .u32 x,.int .u32 y,.int .u32 z]) (by simp [results,Tryz.results62,go_sem,d0,d1,d2]) rfl ?_
   all_goals exact ⟨x,y,z,H.out.1,rfl,by (repeat (first|with_reducible refine Below.drew ?_|with_reducible refine Below.setCell ?_ (by simp<;>omega) _));exact H.out.2.2.2⟩
end Go.Proofs.YtfieffpobgcpmaaGreatDoor
