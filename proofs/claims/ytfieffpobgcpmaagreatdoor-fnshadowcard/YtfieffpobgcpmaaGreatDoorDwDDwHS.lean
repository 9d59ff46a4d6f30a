import Derived.Test.YtfieffpobgcpmaaGreatDoorShRToSpecFoS
import Derived.Deep.CutRange
import Derived.Test.YtfieffpobgcpmaaGreatDoorBgIBgJBhACsASh0S
set_option maxRecDepth 100000
set_option maxHeartbeats 32000000
namespace Go.Proofs.YtfieffpobgcpmaaGreatDoor
open Go.RowKit Go.Proofs.Tryz
variable {P:Nat}
theorem Rd.drewW {W:World} (h:Rd P W):Rd P W.drew:=h.above (B:=P+1) (Below.drew (Below.refl _ _)) (Nat.lt_succ_self _)
theorem ζm.drewW {w W:World} (h:ζm P w W):ζm P w W.drew:=h.trans (ζm.of (Below.drew (Below.refl _ _)))
def PairW (P:Nat) (w:World) (e:Ending) (w':World):Prop:= ∃x0 x1 x2 x3 x4 x5 x6 x7 x8 y0 y1 y2 y3 y4 y5:Int,U32 [x0,x1,x2,x3,x4,x5,x6,x7,x8]∧U32 [y0,y1,y2,y3,y4,y5]∧e= .returned (.tuple #[.agg #[x0,x1,x2,x3,x4,x5,x6,x7,x8],.agg #[y0,y1,y2,y3,y4,y5]])∧Rd P w'∧ζm P w w'
theorem σ0 (P:Nat) (wild:Bool) (w:World) (h:Rd P w):
 Calls prog 48 #[.pointer (some ⟨P,0,none⟩),wild] w fun e w'=>PairW P w e w':=by
 have hP:=h.lt
 have H0:Hid (Rd P w):=h
 clear h
 go_enter func48,ntmps48
 go_wp2_with fail
 refine (ξJ P _ ((H0.out.later (ζc _ _)).later (ζc _ _))).mono ?_
 rintro e w1 ⟨k,rfl,hk0,hk1,hr,ha⟩
 have hR2:Cs ((w.alloc (.cells #[.int .u32 0,.int .u32 0,.int .u32 0,.int .u32 0,.int .u32 0,.int .u32 0,.int .u32 0,.int .u32 0,.int .u32 0] 36)).alloc (.cells #[.int .u32 0,.int .u32 0,.int .u32 0,.int .u32 0,.int .u32 0,.int .u32 0] 39)) (w.heap.size+1) (zR 6):=by
  have:=Cs.new (w.alloc (.cells #[.int .u32 0,.int .u32 0,.int .u32 0,.int .u32 0,.int .u32 0,.int .u32 0,.int .u32 0,.int .u32 0,.int .u32 0] 36)) #[.int .u32 0,.int .u32 0,.int .u32 0,.int .u32 0,.int .u32 0,.int .u32 0] 39
  simpa [zR] using this
 have X1:Hid (Cs w1 w.heap.size (zR 9)∧Cs w1 (w.heap.size+1) (zR 6)∧True):=⟨((Cs.new w _ _).later (ζc _ _)).aside ha hP,hR2.aside ha (by omega),trivial⟩
 have H1:Hid (Rd P w1∧ζm P w w1):=⟨hr,((ζm.of (ζc _ _)).trans (ζm.of (ζc _ _))).trans ha⟩
 have z1:w.heap.size+1<w1.heap.size:=X1.out.2.1.1
 clear hr ha H0 hR2
 go_wp2_with fail
 refine (ηM P wild _ H1.out.1).mono ?_
 rintro e w2 ⟨a0,a1,a2,a3,a4,a5,a6,a7,a8,ua,rfl,hr,ha⟩
 obtain ⟨V2,hW⟩: ∃V,(w2.alloc (.cells #[a0,a1,a2,a3,a4,a5,a6,a7,a8] 36))=V:=⟨_,rfl⟩
 have bW:Below w2.heap.size w2 V2:=by rw [<-hW];exact ζc _ _
 have X2:Hid (Cs V2 w.heap.size (zR 9)∧Cs V2 (w.heap.size+1) (zR 6)∧Cs V2 w2.heap.size [a0,a1,a2,a3,a4,a5,a6,a7,a8]∧True):=⟨(X1.out.1.aside ha (by omega)).later bW,(X1.out.2.1.aside ha (by omega)).later bW,by rw [<-hW];exact Cs.new _ _ _,trivial⟩
 have H2:Hid (Rd P V2∧ζm P w V2):=⟨hr.later bW,(H1.out.2.trans ha).trans (ζm.of bW)⟩
 have z2:w1.heap.size<=w2.heap.size:=by have:=ha.size;omega
 have hV2:=hW
 clear hr ha bW hW X1 H1
 go_wp2_with fail
 clear hV2
 refine (τq P wild _ H2.out.1).mono ?_
 rintro e w3 ⟨b0,b1,b2,b3,b4,b5,ub,rfl,hr,ha⟩
 obtain ⟨V3,hW⟩: ∃V,(w3.alloc (.cells #[b0,b1,b2,b3,b4,b5] 39))=V:=⟨_,rfl⟩
 have bW:Below w3.heap.size w3 V3:=by rw [<-hW];exact ζc _ _
 have X3:Hid (Cs V3 w.heap.size (zR 9)∧Cs V3 (w.heap.size+1) (zR 6)∧Cs V3 w2.heap.size [a0,a1,a2,a3,a4,a5,a6,a7,a8]∧Cs V3 w3.heap.size [b0,b1,b2,b3,b4,b5]∧True):=⟨(X2.out.1.aside ha (by omega)).later bW,(X2.out.2.1.aside ha (by omega)).later bW,(X2.out.2.2.1.aside ha (by omega)).later bW,by rw [<-hW];exact Cs.new _ _ _,trivial⟩
 have H3:Hid (Rd P V3∧ζm P w V3):=⟨hr.later bW,(H2.out.2.trans ha).trans (ζm.of bW)⟩
 have z3:w2.heap.size<w3.heap.size:=by have:=ha.size;have:=X2.out.2.2.1.1;omega
 have hV3:=hW
 clear hr ha bW hW X2 H2
 have m8:k.tmod 8=k%8:=Int.tmod_eq_emod_of_nonneg hk0
 obtain ⟨b0x0,b0x1,b0x2,b0x3,b0x4,b0x5,b0x6,b0x7,b0x8⟩:=X3.out.1.c9
 have b0f:=X3.out.1.2.1
 obtain ⟨b1x0,b1x1,b1x2,b1x3,b1x4,b1x5⟩:=X3.out.2.1.c6
 have b1f:=X3.out.2.1.2.1
 obtain ⟨b2x0,b2x1,b2x2,b2x3,b2x4,b2x5,b2x6,b2x7,b2x8⟩:=X3.out.2.2.1.c9
 have b2f:=X3.out.2.2.1.2.1
 obtain ⟨b3x0,b3x1,b3x2,b3x3,b3x4,b3x5⟩:=X3.out.2.2.2.1.c6
 have b3f:=X3.out.2.2.2.1.2.1
 go_upto_if 19 with fail
 go_cut [] from 17 to 95 (fun wx=> ∃p0 p1 p2 p3 p4 p5 p6 p7 p8 e0 e1 e2 e3 e4 e5:Int,Hid (U32 [p0,p1,p2,p3,p4,p5,p6,p7,p8]∧U32 [e0,e1,e2,e3,e4,e5]∧(Rd P wx∧ζm P w wx)∧Cs wx w.heap.size (zR 9)∧Cs wx (w.heap.size+1) (zR 6)∧Cs wx w2.heap.size [p0,p1,p2,p3,p4,p5,p6,p7,p8]∧Cs wx w3.heap.size [e0,e1,e2,e3,e4,e5]∧True))
 case first=>
  by_cases hc:k%8=0
  ·go_wp2_with fail
   refine (θ5 b2 a2 _ (ub _ (by simp)).1 (ub _ (by simp)).2 (ua _ (by simp)).1 (ua _ (by simp)).2).mono ?_
   rintro e w5 ⟨rfl,hb5⟩
   have X5:Hid (Cs w5 w.heap.size (zR 9)∧Cs w5 (w.heap.size+1) (zR 6)∧Cs w5 w2.heap.size [a0,a1,a2,a3,a4,a2,a6,a7,a2]∧Cs w5 w3.heap.size [a0,a1,b2,.int .u32 0,.int .u32 0,.int .u32 1065353216]∧True):=⟨(((((((X3.out.1.setO (by omega)).setO (by omega)).setO (by omega)).setO (by omega)).setO (by omega)).setO (by omega)).setO (by omega)).later hb5,(((((((X3.out.2.1.setO (by omega)).setO (by omega)).setO (by omega)).setO (by omega)).setO (by omega)).setO (by omega)).setO (by omega)).later hb5,(((((((X3.out.2.2.1.set1 (i:=5) _ (by simp)).set1 (i:=8) _ (by simp)).setO (by omega)).setO (by omega)).setO (by omega)).setO (by omega)).setO (by omega)).later hb5,(((((((X3.out.2.2.2.1.setO (by omega)).setO (by omega)).set1 (i:=0) _ (by simp)).set1 (i:=1) _ (by simp)).set1 (i:=3) _ (by simp)).set1 (i:=4) _ (by simp)).set1 (i:=5) _ (by simp)).later hb5,trivial⟩
   have H5:Hid (Rd P w5∧ζm P w w5):=by
    refine ⟨Rd.later ?_ hb5,ζm.trans ?_ (ζm.of hb5)⟩
    ·(repeat (with_reducible refine Rd.setW ?_ (by omega) _ _));exact H3.out.1
    ·(repeat (with_reducible refine ζm.setHigh ?_ (by simp<;>omega) _));exact H3.out.2
   clear hb5 b0x0 b0x1 b0x2 b0x3 b0x4 b0x5 b0x6 b0x7 b0x8 b0f b1x0 b1x1 b1x2 b1x3 b1x4 b1x5 b1f b2x0 b2x1 b2x2 b2x3 b2x4 b2x5 b2x6 b2x7 b2x8 b2f b3x0 b3x1 b3x2 b3x3 b3x4 b3x5 b3f
   obtain ⟨b0x0,b0x1,b0x2,b0x3,b0x4,b0x5,b0x6,b0x7,b0x8⟩:=X5.out.1.c9
   have b0f:=X5.out.1.2.1
   obtain ⟨b1x0,b1x1,b1x2,b1x3,b1x4,b1x5⟩:=X5.out.2.1.c6
   have b1f:=X5.out.2.1.2.1
   obtain ⟨b2x0,b2x1,b2x2,b2x3,b2x4,b2x5,b2x6,b2x7,b2x8⟩:=X5.out.2.2.1.c9
   have b2f:=X5.out.2.2.1.2.1
   obtain ⟨b3x0,b3x1,b3x2,b3x3,b3x4,b3x5⟩:=X5.out.2.2.2.1.c6
   have b3f:=X5.out.2.2.2.1.2.1
   by_cases hg:0<sgn (ρJ b2-ρJ a2)
   ·go_wp2
    go_meet
    case rel=>exact ⟨a0,a1,a2,a3,a4,a2,a6,a7,a2,a0,a1,b2,0,0,3212836864,U32.cons (ua _ (by simp)) (U32.cons (ua _ (by simp)) (U32.cons (ua _ (by simp)) (U32.cons (ua _ (by simp)) (U32.cons (ua _ (by simp)) (U32.cons (ua _ (by simp)) (U32.cons (ua _ (by simp)) (U32.cons (ua _ (by simp)) (U32.cons (ua _ (by simp)) (U32.nil))))))))),U32.cons (ua _ (by simp)) (U32.cons (ua _ (by simp)) (U32.cons (ub _ (by simp)) (U32.cons ⟨by omega,by omega⟩ (U32.cons ⟨by omega,by omega⟩ (U32.cons ⟨by omega,by omega⟩ (U32.nil)))))),⟨by (repeat (with_reducible refine Rd.setW ?_ (by omega) _ _));exact H5.out.1,by (repeat (with_reducible refine ζm.setHigh ?_ (by simp<;>omega) _));exact H5.out.2⟩,(X5.out.1.setO (by omega)),(X5.out.2.1.setO (by omega)),(X5.out.2.2.1.setO (by omega)),(X5.out.2.2.2.1.set1 (i:=5) _ (by simp)),trivial⟩
   ·go_wp2
    go_meet
    case rel=>exact ⟨a0,a1,a2,a3,a4,a2,a6,a7,a2,a0,a1,b2,0,0,1065353216,U32.cons (ua _ (by simp)) (U32.cons (ua _ (by simp)) (U32.cons (ua _ (by simp)) (U32.cons (ua _ (by simp)) (U32.cons (ua _ (by simp)) (U32.cons (ua _ (by simp)) (U32.cons (ua _ (by simp)) (U32.cons (ua _ (by simp)) (U32.cons (ua _ (by simp)) (U32.nil))))))))),U32.cons (ua _ (by simp)) (U32.cons (ua _ (by simp)) (U32.cons (ub _ (by simp)) (U32.cons ⟨by omega,by omega⟩ (U32.cons ⟨by omega,by omega⟩ (U32.cons ⟨by omega,by omega⟩ (U32.nil)))))),H5.out,X5.out⟩
  ·go_wp2
   go_meet
   case rel=>exact ⟨a0,a1,a2,a3,a4,a5,a6,a7,a8,b0,b1,b2,b3,b4,b5,U32.cons (ua _ (by simp)) (U32.cons (ua _ (by simp)) (U32.cons (ua _ (by simp)) (U32.cons (ua _ (by simp)) (U32.cons (ua _ (by simp)) (U32.cons (ua _ (by simp)) (U32.cons (ua _ (by simp)) (U32.cons (ua _ (by simp)) (U32.cons (ua _ (by simp)) (U32.nil))))))))),U32.cons (ub _ (by simp)) (U32.cons (ub _ (by simp)) (U32.cons (ub _ (by simp)) (U32.cons (ub _ (by simp)) (U32.cons (ub _ (by simp)) (U32.cons (ub _ (by simp)) (U32.nil)))))),H3.out,X3.out⟩
 case rest=>
 obtain ⟨p0,p1,p2,p3,p4,p5,p6,p7,p8,e0,e1,e2,e3,e4,e5,HC⟩:=hcut
 have up:=HC.out.1
 have ue:=HC.out.2.1
 have HH0:=Hid.mk HC.out.2.2.1
 have XX0:=Hid.mk HC.out.2.2.2
 clear HC X3 H3 b0x0 b0x1 b0x2 b0x3 b0x4 b0x5 b0x6 b0x7 b0x8 b0f b1x0 b1x1 b1x2 b1x3 b1x4 b1x5 b1f b2x0 b2x1 b2x2 b2x3 b2x4 b2x5 b2x6 b2x7 b2x8 b2f b3x0 b3x1 b3x2 b3x3 b3x4 b3x5 b3f hV3
 obtain ⟨b0x0,b0x1,b0x2,b0x3,b0x4,b0x5,b0x6,b0x7,b0x8⟩:=XX0.out.1.c9
 have b0f:=XX0.out.1.2.1
 obtain ⟨b1x0,b1x1,b1x2,b1x3,b1x4,b1x5⟩:=XX0.out.2.1.c6
 have b1f:=XX0.out.2.1.2.1
 obtain ⟨b2x0,b2x1,b2x2,b2x3,b2x4,b2x5,b2x6,b2x7,b2x8⟩:=XX0.out.2.2.1.c9
 have b2f:=XX0.out.2.2.1.2.1
 obtain ⟨b3x0,b3x1,b3x2,b3x3,b3x4,b3x5⟩:=XX0.out.2.2.2.1.c6
 have b3f:=XX0.out.2.2.2.1.2.1
 go_upto_if 54 with fail
 go_cut [] from 52 to 95 (fun wx=> ∃q0 q1 q2 q3 q4 q5 q6 q7 q8 f0 f1 f2 f3 f4 f5:Int,Hid (U32 [q0,q1,q2,q3,q4,q5,q6,q7,q8]∧U32 [f0,f1,f2,f3,f4,f5]∧(Rd P wx∧ζm P w wx)∧Cs wx w.heap.size (zR 9)∧Cs wx (w.heap.size+1) (zR 6)∧Cs wx w2.heap.size [q0,q1,q2,q3,q4,q5,q6,q7,q8]∧Cs wx w3.heap.size [f0,f1,f2,f3,f4,f5]∧True))
 case first=>
  by_cases hc:k%8=1
  ·go_wp2_with fail
   refine (φi e3 e4 0 _ (ue _ (by simp)).1 (ue _ (by simp)).2 (ue _ (by simp)).1 (ue _ (by simp)).2 (by omega) (by omega)).mono ?_
   rintro e w5 ⟨rfl,hb5⟩
   have X5:Hid (Cs w5 w.heap.size (zR 9)∧Cs w5 (w.heap.size+1) (zR 6)∧Cs w5 w2.heap.size [p0,p1,p2,p3,p4,p2,p6,p7,p2]∧Cs w5 w3.heap.size [e0,e1,p2,e3,e4,.int .u32 0]∧True):=⟨((((XX0.out.1.setO (by omega)).setO (by omega)).setO (by omega)).setO (by omega)).later hb5,((((XX0.out.2.1.setO (by omega)).setO (by omega)).setO (by omega)).setO (by omega)).later hb5,((((XX0.out.2.2.1.set1 (i:=5) _ (by simp)).set1 (i:=8) _ (by simp)).setO (by omega)).setO (by omega)).later hb5,((((XX0.out.2.2.2.1.setO (by omega)).setO (by omega)).set1 (i:=2) _ (by simp)).set1 (i:=5) _ (by simp)).later hb5,trivial⟩
   have H5:Hid (Rd P w5∧ζm P w w5):=by
    refine ⟨Rd.later ?_ hb5,ζm.trans ?_ (ζm.of hb5)⟩
    ·(repeat (with_reducible refine Rd.setW ?_ (by omega) _ _));exact HH0.out.1
    ·(repeat (with_reducible refine ζm.setHigh ?_ (by simp<;>omega) _));exact HH0.out.2
   clear hb5 b0x0 b0x1 b0x2 b0x3 b0x4 b0x5 b0x6 b0x7 b0x8 b0f b1x0 b1x1 b1x2 b1x3 b1x4 b1x5 b1f b2x0 b2x1 b2x2 b2x3 b2x4 b2x5 b2x6 b2x7 b2x8 b2f b3x0 b3x1 b3x2 b3x3 b3x4 b3x5 b3f
   obtain ⟨b0x0,b0x1,b0x2,b0x3,b0x4,b0x5,b0x6,b0x7,b0x8⟩:=X5.out.1.c9
   have b0f:=X5.out.1.2.1
   obtain ⟨b1x0,b1x1,b1x2,b1x3,b1x4,b1x5⟩:=X5.out.2.1.c6
   have b1f:=X5.out.2.1.2.1
   obtain ⟨b2x0,b2x1,b2x2,b2x3,b2x4,b2x5,b2x6,b2x7,b2x8⟩:=X5.out.2.2.1.c9
   have b2f:=X5.out.2.2.1.2.1
   obtain ⟨b3x0,b3x1,b3x2,b3x3,b3x4,b3x5⟩:=X5.out.2.2.2.1.c6
   have b3f:=X5.out.2.2.2.1.2.1
   cases hg:ζD e3 e4 0
   ·go_wp2
    go_meet
    case rel=>exact ⟨p0,p1,p2,p3,p4,p2,p6,p7,p2,e0,e1,p2,e3,e4,0,U32.cons (up _ (by simp)) (U32.cons (up _ (by simp)) (U32.cons (up _ (by simp)) (U32.cons (up _ (by simp)) (U32.cons (up _ (by simp)) (U32.cons (up _ (by simp)) (U32.cons (up _ (by simp)) (U32.cons (up _ (by simp)) (U32.cons (up _ (by simp)) (U32.nil))))))))),U32.cons (ue _ (by simp)) (U32.cons (ue _ (by simp)) (U32.cons (up _ (by simp)) (U32.cons (ue _ (by simp)) (U32.cons (ue _ (by simp)) (U32.cons ⟨by omega,by omega⟩ (U32.nil)))))),H5.out,X5.out⟩
   ·go_wp2
    go_meet
    case rel=>exact ⟨p0,p1,p2,p3,p4,p2,p6,p7,p2,e0,e1,p2,1065353216,e4,0,U32.cons (up _ (by simp)) (U32.cons (up _ (by simp)) (U32.cons (up _ (by simp)) (U32.cons (up _ (by simp)) (U32.cons (up _ (by simp)) (U32.cons (up _ (by simp)) (U32.cons (up _ (by simp)) (U32.cons (up _ (by simp)) (U32.cons (up _ (by simp)) (U32.nil))))))))),U32.cons (ue _ (by simp)) (U32.cons (ue _ (by simp)) (U32.cons (up _ (by simp)) (U32.cons ⟨by omega,by omega⟩ (U32.cons (ue _ (by simp)) (U32.cons ⟨by omega,by omega⟩ (U32.nil)))))),⟨by (repeat (with_reducible refine Rd.setW ?_ (by omega) _ _));exact H5.out.1,by (repeat (with_reducible refine ζm.setHigh ?_ (by simp<;>omega) _));exact H5.out.2⟩,(X5.out.1.setO (by omega)),(X5.out.2.1.setO (by omega)),(X5.out.2.2.1.setO (by omega)),(X5.out.2.2.2.1.set1 (i:=3) _ (by simp)),trivial⟩
  ·go_wp2
   go_meet
   case rel=>exact ⟨p0,p1,p2,p3,p4,p5,p6,p7,p8,e0,e1,e2,e3,e4,e5,U32.cons (up _ (by simp)) (U32.cons (up _ (by simp)) (U32.cons (up _ (by simp)) (U32.cons (up _ (by simp)) (U32.cons (up _ (by simp)) (U32.cons (up _ (by simp)) (U32.cons (up _ (by simp)) (U32.cons (up _ (by simp)) (U32.cons (up _ (by simp)) (U32.nil))))))))),U32.cons (ue _ (by simp)) (U32.cons (ue _ (by simp)) (U32.cons (ue _ (by simp)) (U32.cons (ue _ (by simp)) (U32.cons (ue _ (by simp)) (U32.cons (ue _ (by simp)) (U32.nil)))))),HH0.out,XX0.out⟩
 case rest=>
 obtain ⟨q0,q1,q2,q3,q4,q5,q6,q7,q8,f0,f1,f2,f3,f4,f5,HC⟩:=hcut
 have uq:=HC.out.1
 have uf:=HC.out.2.1
 have HH1:=Hid.mk HC.out.2.2.1
 have XX1:=Hid.mk HC.out.2.2.2
 clear HC XX0 HH0 b0x0 b0x1 b0x2 b0x3 b0x4 b0x5 b0x6 b0x7 b0x8 b0f b1x0 b1x1 b1x2 b1x3 b1x4 b1x5 b1f b2x0 b2x1 b2x2 b2x3 b2x4 b2x5 b2x6 b2x7 b2x8 b2f b3x0 b3x1 b3x2 b3x3 b3x4 b3x5 b3f
 obtain ⟨b0x0,b0x1,b0x2,b0x3,b0x4,b0x5,b0x6,b0x7,b0x8⟩:=XX1.out.1.c9
 have b0f:=XX1.out.1.2.1
 obtain ⟨b1x0,b1x1,b1x2,b1x3,b1x4,b1x5⟩:=XX1.out.2.1.c6
 have b1f:=XX1.out.2.1.2.1
 obtain ⟨b2x0,b2x1,b2x2,b2x3,b2x4,b2x5,b2x6,b2x7,b2x8⟩:=XX1.out.2.2.1.c9
 have b2f:=XX1.out.2.2.1.2.1
 obtain ⟨b3x0,b3x1,b3x2,b3x3,b3x4,b3x5⟩:=XX1.out.2.2.2.1.c6
 have b3f:=XX1.out.2.2.2.1.2.1
 go_upto_if 79 with fail
 go_cut [] from 77 to 95 (fun wx=> ∃m0 m1 m2 m3 m4 m5 m6 m7 m8 g0 g1 g2 g3 g4 g5:Int,Hid (U32 [m0,m1,m2,m3,m4,m5,m6,m7,m8]∧U32 [g0,g1,g2,g3,g4,g5]∧(Rd P wx∧ζm P w wx)∧Cs wx w.heap.size (zR 9)∧Cs wx (w.heap.size+1) (zR 6)∧Cs wx w2.heap.size [m0,m1,m2,m3,m4,m5,m6,m7,m8]∧Cs wx w3.heap.size [g0,g1,g2,g3,g4,g5]∧True))
 case first=>
  by_cases hc:k%8=2
  ·go_wp2
   go_meet
   case rel=>exact ⟨3229614080,3229614080,0,1086324736,3229614080,0,3229614080,1086324736,0,f0,f1,1077936128,f3,f4,3212836864,U32.cons ⟨by omega,by omega⟩ (U32.cons ⟨by omega,by omega⟩ (U32.cons ⟨by omega,by omega⟩ (U32.cons ⟨by omega,by omega⟩ (U32.cons ⟨by omega,by omega⟩ (U32.cons ⟨by omega,by omega⟩ (U32.cons ⟨by omega,by omega⟩ (U32.cons ⟨by omega,by omega⟩ (U32.cons ⟨by omega,by omega⟩ (U32.nil))))))))),U32.cons (uf _ (by simp)) (U32.cons (uf _ (by simp)) (U32.cons ⟨by omega,by omega⟩ (U32.cons (uf _ (by simp)) (U32.cons (uf _ (by simp)) (U32.cons ⟨by omega,by omega⟩ (U32.nil)))))),⟨by (repeat (with_reducible refine Rd.setW ?_ (by omega) _ _));exact HH1.out.1,by (repeat (with_reducible refine ζm.setHigh ?_ (by simp<;>omega) _));exact HH1.out.2⟩,(((((((((((XX1.out.1.setO (by omega)).setO (by omega)).setO (by omega)).setO (by omega)).setO (by omega)).setO (by omega)).setO (by omega)).setO (by omega)).setO (by omega)).setO (by omega)).setO (by omega)),(((((((((((XX1.out.2.1.setO (by omega)).setO (by omega)).setO (by omega)).setO (by omega)).setO (by omega)).setO (by omega)).setO (by omega)).setO (by omega)).setO (by omega)).setO (by omega)).setO (by omega)),(((((((((((XX1.out.2.2.1.set1 (i:=0) _ (by simp)).set1 (i:=1) _ (by simp)).set1 (i:=2) _ (by simp)).set1 (i:=3) _ (by simp)).set1 (i:=4) _ (by simp)).set1 (i:=5) _ (by simp)).set1 (i:=6) _ (by simp)).set1 (i:=7) _ (by simp)).set1 (i:=8) _ (by simp)).setO (by omega)).setO (by omega)),(((((((((((XX1.out.2.2.2.1.setO (by omega)).setO (by omega)).setO (by omega)).setO (by omega)).setO (by omega)).setO (by omega)).setO (by omega)).setO (by omega)).setO (by omega)).set1 (i:=2) _ (by simp)).set1 (i:=5) _ (by simp)),trivial⟩
  ·go_wp2
   go_meet
   case rel=>exact ⟨q0,q1,q2,q3,q4,q5,q6,q7,q8,f0,f1,f2,f3,f4,f5,U32.cons (uq _ (by simp)) (U32.cons (uq _ (by simp)) (U32.cons (uq _ (by simp)) (U32.cons (uq _ (by simp)) (U32.cons (uq _ (by simp)) (U32.cons (uq _ (by simp)) (U32.cons (uq _ (by simp)) (U32.cons (uq _ (by simp)) (U32.cons (uq _ (by simp)) (U32.nil))))))))),U32.cons (uf _ (by simp)) (U32.cons (uf _ (by simp)) (U32.cons (uf _ (by simp)) (U32.cons (uf _ (by simp)) (U32.cons (uf _ (by simp)) (U32.cons (uf _ (by simp)) (U32.nil)))))),HH1.out,XX1.out⟩
 case rest=>
 obtain ⟨m0,m1,m2,m3,m4,m5,m6,m7,m8,g0,g1,g2,g3,g4,g5,HC⟩:=hcut
 have um:=HC.out.1
 have ug:=HC.out.2.1
 have HH2:=Hid.mk HC.out.2.2.1
 have XX2:=Hid.mk HC.out.2.2.2
 clear HC XX1 HH1 b0x0 b0x1 b0x2 b0x3 b0x4 b0x5 b0x6 b0x7 b0x8 b0f b1x0 b1x1 b1x2 b1x3 b1x4 b1x5 b1f b2x0 b2x1 b2x2 b2x3 b2x4 b2x5 b2x6 b2x7 b2x8 b2f b3x0 b3x1 b3x2 b3x3 b3x4 b3x5 b3f
 obtain ⟨b0x0,b0x1,b0x2,b0x3,b0x4,b0x5,b0x6,b0x7,b0x8⟩:=XX2.out.1.c9
 have b0f:=XX2.out.1.2.1
 obtain ⟨b1x0,b1x1,b1x2,b1x3,b1x4,b1x5⟩:=XX2.out.2.1.c6
 have b1f:=XX2.out.2.1.2.1
 obtain ⟨b2x0,b2x1,b2x2,b2x3,b2x4,b2x5,b2x6,b2x7,b2x8⟩:=XX2.out.2.2.1.c9
 have b2f:=XX2.out.2.2.1.2.1
 obtain ⟨b3x0,b3x1,b3x2,b3x3,b3x4,b3x5⟩:=XX2.out.2.2.2.1.c6
 have b3f:=XX2.out.2.2.2.1.2.1
 go_upto_if 90 with fail
 go_cut [] from 88 to 95 (fun wx=> ∃n0 n1 n2 n3 n4 n5 n6 n7 n8 h0 h1 h2 h3 h4 h5:Int,Hid (U32 [n0,n1,n2,n3,n4,n5,n6,n7,n8]∧U32 [h0,h1,h2,h3,h4,h5]∧(Rd P wx∧ζm P w wx)∧Cs wx w.heap.size (zR 9)∧Cs wx (w.heap.size+1) (zR 6)∧Cs wx w2.heap.size [n0,n1,n2,n3,n4,n5,n6,n7,n8]∧Cs wx w3.heap.size [h0,h1,h2,h3,h4,h5]∧True))
 case first=>
  by_cases hc:k%8=3
  ·go_wp2
   go_meet
   case rel=>exact ⟨m0,m1,m2,m3,m4,m5,m6,m7,m8,m3,m4,m5,g3,g4,g5,U32.cons (um _ (by simp)) (U32.cons (um _ (by simp)) (U32.cons (um _ (by simp)) (U32.cons (um _ (by simp)) (U32.cons (um _ (by simp)) (U32.cons (um _ (by simp)) (U32.cons (um _ (by simp)) (U32.cons (um _ (by simp)) (U32.cons (um _ (by simp)) (U32.nil))))))))),U32.cons (um _ (by simp)) (U32.cons (um _ (by simp)) (U32.cons (um _ (by simp)) (U32.cons (ug _ (by simp)) (U32.cons (ug _ (by simp)) (U32.cons (ug _ (by simp)) (U32.nil)))))),⟨by (repeat (with_reducible refine Rd.setW ?_ (by omega) _ _));exact HH2.out.1,by (repeat (with_reducible refine ζm.setHigh ?_ (by simp<;>omega) _));exact HH2.out.2⟩,(((XX2.out.1.setO (by omega)).setO (by omega)).setO (by omega)),(((XX2.out.2.1.setO (by omega)).setO (by omega)).setO (by omega)),(((XX2.out.2.2.1.setO (by omega)).setO (by omega)).setO (by omega)),(((XX2.out.2.2.2.1.set1 (i:=0) _ (by simp)).set1 (i:=1) _ (by simp)).set1 (i:=2) _ (by simp)),trivial⟩
  ·go_wp2
   go_meet
   case rel=>exact ⟨m0,m1,m2,m3,m4,m5,m6,m7,m8,g0,g1,g2,g3,g4,g5,U32.cons (um _ (by simp)) (U32.cons (um _ (by simp)) (U32.cons (um _ (by simp)) (U32.cons (um _ (by simp)) (U32.cons (um _ (by simp)) (U32.cons (um _ (by simp)) (U32.cons (um _ (by simp)) (U32.cons (um _ (by simp)) (U32.cons (um _ (by simp)) (U32.nil))))))))),U32.cons (ug _ (by simp)) (U32.cons (ug _ (by simp)) (U32.cons (ug _ (by simp)) (U32.cons (ug _ (by simp)) (U32.cons (ug _ (by simp)) (U32.cons (ug _ (by simp)) (U32.nil)))))),HH2.out,XX2.out⟩
 case rest=>
 obtain ⟨n0,n1,n2,n3,n4,n5,n6,n7,n8,h0,h1,h2,h3,h4,h5,HC⟩:=hcut
 have un:=HC.out.1
 have uh:=HC.out.2.1
 have HH3:=Hid.mk HC.out.2.2.1
 have XX3:=Hid.mk HC.out.2.2.2
 clear HC XX2 HH2 b0x0 b0x1 b0x2 b0x3 b0x4 b0x5 b0x6 b0x7 b0x8 b0f b1x0 b1x1 b1x2 b1x3 b1x4 b1x5 b1f b2x0 b2x1 b2x2 b2x3 b2x4 b2x5 b2x6 b2x7 b2x8 b2f b3x0 b3x1 b3x2 b3x3 b3x4 b3x5 b3f
 obtain ⟨b0x0,b0x1,b0x2,b0x3,b0x4,b0x5,b0x6,b0x7,b0x8⟩:=XX3.out.1.c9
 have b0f:=XX3.out.1.2.1
 obtain ⟨b1x0,b1x1,b1x2,b1x3,b1x4,b1x5⟩:=XX3.out.2.1.c6
 have b1f:=XX3.out.2.1.2.1
 obtain ⟨b2x0,b2x1,b2x2,b2x3,b2x4,b2x5,b2x6,b2x7,b2x8⟩:=XX3.out.2.2.1.c9
 have b2f:=XX3.out.2.2.1.2.1
 obtain ⟨b3x0,b3x1,b3x2,b3x3,b3x4,b3x5⟩:=XX3.out.2.2.2.1.c6
 have b3f:=XX3.out.2.2.2.1.2.1
 clear XX3
 go_wp2
 go_region
 all_goals go_wp2
 all_goals refine bodyPost_ret (v:= .tuple #[.agg #[n0,n1,n2,n3,n4,n5,n6,n7,n8],.agg #[h0,h1,h2,h3,h4,h5]]) (by simp [results,results48,go_sem,b0x0,b0x1,b0x2,b0x3,b0x4,b0x5,b0x6,b0x7,b0x8,b1x0,b1x1,b1x2,b1x3,b1x4,b1x5]) rfl ?_
 all_goals exact ⟨n0,n1,n2,n3,n4,n5,n6,n7,n8,h0,h1,h2,h3,h4,h5,un,uh,rfl,by (repeat (first|with_reducible refine Rd.drewW ?_|with_reducible refine Rd.setW ?_ (by omega) _ _));exact HH3.out.1,by (repeat (first|with_reducible refine ζm.drewW ?_|with_reducible refine ζm.setHigh ?_ (by simp<;>omega) _));exact HH3.out.2⟩
theorem Cs.asideN {W W':World} {b:Nat} {us:List Value} (h:Cs W b us) (ha:ζm P W W') (hP:b≠P):Cs W' b us:=
 ⟨Nat.lt_of_lt_of_le h.1 ha.size,fun j=>(ha.frozen (p:=⟨b,j,none⟩) h.1 hP).trans (h.2.1 j),fun j u hj=>(ha.cell (p:=⟨b,0+j,none⟩) h.1 hP).trans (h.2.2 j u hj)⟩
def DrawS (w:World) (e:Ending) (w':World):Prop:= ∃x0 x1 x2 x3 x4 x5 x6 x7 x8 s0 s1 s2 s3 s4 s5 y0 y1 y2 y3 y4 y5 y6 y7 y8 l0 l1 l2:Int,U32 [x0,x1,x2,x3,x4,x5,x6,x7,x8]∧U32 [s0,s1,s2,s3,s4,s5]∧U32 [y0,y1,y2,y3,y4,y5,y6,y7,y8]∧U32 [l0,l1,l2]∧e= .returned (.tuple #[.agg #[x0,x1,x2,x3,x4,x5,x6,x7,x8],.agg #[s0,s1,s2,s3,s4,s5],.agg #[y0,y1,y2,y3,y4,y5,y6,y7,y8],.agg #[l0,l1,l2]])∧Below w.heap.size w w'
theorem σ1 (a:Option Addr) (c:Nat) (bs:List Int) (w:World) (hn:bs.length<=1048576) (hc:bs.length<=c) (hcm:c<=maxLen) (hnil:a=none->c=0) (hr:ζk .u8 w a bs) (hb8:Dig 256 bs):
 Calls prog 21 #[.slice a bs.length c] w fun e w'=>DrawS w e w':=by
 have hO: ∀W,Below w.heap.size w W->ζk .u8 W a bs:=fun W hb=>hr.later hb
 have HO:=Hid.mk (fun W hb=>τo a c bs W hn hc hcm hnil (hO W hb) hb8)
 have HN:Hid (Sh4 w (zR 9) (zR 6) (zR 9) (zR 3) ((((w.alloc (.cells #[.int .u32 0,.int .u32 0,.int .u32 0,.int .u32 0,.int .u32 0,.int .u32 0,.int .u32 0,.int .u32 0,.int .u32 0] 36)).alloc (.cells #[.int .u32 0,.int .u32 0,.int .u32 0,.int .u32 0,.int .u32 0,.int .u32 0] 39)).alloc (.cells #[.int .u32 0,.int .u32 0,.int .u32 0,.int .u32 0,.int .u32 0,.int .u32 0,.int .u32 0,.int .u32 0,.int .u32 0] 36)).alloc (.cells #[.int .u32 0,.int .u32 0,.int .u32 0] 34))):=Sh4.start w _ _ _ _ _ _ _ _
 have hs4:((((w.alloc (.cells #[.int .u32 0,.int .u32 0,.int .u32 0,.int .u32 0,.int .u32 0,.int .u32 0,.int .u32 0,.int .u32 0,.int .u32 0] 36)).alloc (.cells #[.int .u32 0,.int .u32 0,.int .u32 0,.int .u32 0,.int .u32 0,.int .u32 0] 39)).alloc (.cells #[.int .u32 0,.int .u32 0,.int .u32 0,.int .u32 0,.int .u32 0,.int .u32 0,.int .u32 0,.int .u32 0,.int .u32 0] 36)).alloc (.cells #[.int .u32 0,.int .u32 0,.int .u32 0] 34)).heap.size=w.heap.size+1+1+1+1:=by simp
 have HS4:=Hid.mk hs4
 clear hO hs4 hr hb8 hnil
 go_enter func21,ntmps21
 go_wp2_with fail
 refine (HO.out _ HN.out.bel).mono ?_
 rintro e w1 ⟨rfl,hr1,hb1,_⟩
 rw [HS4.out] at hr1 hb1⊢
 obtain ⟨P,hP⟩: ∃P,P=w.heap.size+1+1+1+1:=⟨_,rfl⟩
 rw [<-hP] at hr1⊢
 have H1:Hid (Rd P w1∧Below w.heap.size w w1):=⟨hr1,HN.out.bel.trans (hb1.mono (by omega))⟩
 have X1:Hid (Cs w1 w.heap.size (zR 9)∧Cs w1 (w.heap.size+1) (zR 6)∧Cs w1 (w.heap.size+1+1) (zR 9)∧Cs w1 (w.heap.size+1+1+1) (zR 3)∧True):=by
  have hb:=hb1
  rw [<-HS4.out] at hb
  exact ⟨HN.out.t.later hb,HN.out.r.later hb,HN.out.h.later hb,HN.out.l.later hb,trivial⟩
 have hPl:w.heap.size+3<P:=by omega
 clear hr1 hb1 HN HS4 HO hP
 go_wp2_with fail
 refine (ξJ P _ H1.out.1).mono ?_
 rintro e w2 ⟨k0,rfl,hj0,hj1,hr2,ha⟩
 have X2:Hid (Cs w2 w.heap.size (zR 9)∧Cs w2 (w.heap.size+1) (zR 6)∧Cs w2 (w.heap.size+1+1) (zR 9)∧Cs w2 (w.heap.size+1+1+1) (zR 3)∧True):=⟨X1.out.1.asideN ha (by omega),X1.out.2.1.asideN ha (by omega),X1.out.2.2.1.asideN ha (by omega),X1.out.2.2.2.1.asideN ha (by omega),trivial⟩
 have H2:Hid (Rd P w2∧Below w.heap.size w w2):=⟨hr2,H1.out.2.trans (ha.below (by omega) H1.out.2.size)⟩
 have m4:k0.tmod 4=k0%4:=Int.tmod_eq_emod_of_nonneg hj0
 clear hr2 ha X1 H1
 go_wp2_with fail
 refine (ξJ P _ H2.out.1).mono ?_
 rintro e w3 ⟨k,rfl,hk0,hk1,hr2,ha⟩
 have X3:Hid (Cs w3 w.heap.size (zR 9)∧Cs w3 (w.heap.size+1) (zR 6)∧Cs w3 (w.heap.size+1+1) (zR 9)∧Cs w3 (w.heap.size+1+1+1) (zR 3)∧True):=⟨X2.out.1.asideN ha (by omega),X2.out.2.1.asideN ha (by omega),X2.out.2.2.1.asideN ha (by omega),X2.out.2.2.2.1.asideN ha (by omega),trivial⟩
 have H3:Hid (Rd P w3∧Below w.heap.size w w3):=⟨hr2,H2.out.2.trans (ha.below (by omega) H2.out.2.size)⟩
 have zP:P<w3.heap.size:=hr2.lt
 clear hr2 ha X2 H2
 go_wp2_with fail
 refine (σ0 P _ _ H3.out.1).mono ?_
 rintro e w4 ⟨c0,c1,c2,c3,c4,c5,c6,c7,c8,d0,d1,d2,d3,d4,d5,uc,ud,rfl,hr,ha⟩
 obtain ⟨V4,hW⟩: ∃V,((w4.alloc (.cells #[c0,c1,c2,c3,c4,c5,c6,c7,c8] 36)).alloc (.cells #[d0,d1,d2,d3,d4,d5] 39))=V:=⟨_,rfl⟩
 have bW:Below w4.heap.size w4 V4:=by rw [<-hW];exact ξr _ _ _
 have N0:Cs V4 w4.heap.size [c0,c1,c2,c3,c4,c5,c6,c7,c8]:=by rw [<-hW];exact (Cs.new _ _ _).later (ζc _ _)
 have N1:Cs V4 (w4.heap.size+1) [d0,d1,d2,d3,d4,d5]:=by
  have:=Cs.new (w4.alloc (.cells #[c0,c1,c2,c3,c4,c5,c6,c7,c8] 36)) #[d0,d1,d2,d3,d4,d5] 39
  rw [<-hW];simpa using this
 have z4:w3.heap.size<=w4.heap.size:=ha.size
 have zv4:V4.heap.size=w4.heap.size+2:=by rw [<-hW];simp
 have HB:Hid (Below w.heap.size w V4):=(H3.out.2.trans (ha.below (by omega) H3.out.2.size)).trans (bW.mono (by have:=H3.out.2.size;omega))
 have X4:Hid (Cs V4 w.heap.size (zR 9)∧Cs V4 (w.heap.size+1) (zR 6)∧Cs V4 (w.heap.size+1+1) (zR 9)∧Cs V4 (w.heap.size+1+1+1) (zR 3)∧Cs V4 w4.heap.size [c0,c1,c2,c3,c4,c5,c6,c7,c8]∧Cs V4 (w4.heap.size+1) [d0,d1,d2,d3,d4,d5]∧True):=⟨(X3.out.1.asideN ha (by omega)).later bW,(X3.out.2.1.asideN ha (by omega)).later bW,(X3.out.2.2.1.asideN ha (by omega)).later bW,(X3.out.2.2.2.1.asideN ha (by omega)).later bW,N0,N1,trivial⟩
 have H4:Hid (Rd P V4∧Below w.heap.size w V4):=⟨hr.later bW,HB.out⟩
 have hV4:=hW
 clear hr ha bW hW N0 N1 HB X3 H3
 go_wp2_with fail
 clear hV4
 refine (ηM P _ _ H4.out.1).mono ?_
 rintro e w5 ⟨a0,a1,a2,a3,a4,a5,a6,a7,a8,ua,rfl,hr,ha⟩
 obtain ⟨V5,hV5⟩: ∃V,(w5.alloc (.cells #[a0,a1,a2,a3,a4,a5,a6,a7,a8] 36))=V:=⟨_,rfl⟩
 have bW:Below w5.heap.size w5 V5:=by rw [<-hV5];exact ζc _ _
 have N0:Cs V5 w5.heap.size [a0,a1,a2,a3,a4,a5,a6,a7,a8]:=by rw [<-hV5];exact Cs.new _ _ _
 have z5:V4.heap.size<=w5.heap.size:=ha.size
 have zv5:V5.heap.size=w5.heap.size+1:=by rw [<-hV5];simp
 have HB:Hid (Below w.heap.size w V5):=(H4.out.2.trans (ha.below (by omega) H4.out.2.size)).trans (bW.mono (by have:=H4.out.2.size;omega))
 have X5:Hid (Cs V5 w.heap.size (zR 9)∧Cs V5 (w.heap.size+1) (zR 6)∧Cs V5 (w.heap.size+1+1) (zR 9)∧Cs V5 (w.heap.size+1+1+1) (zR 3)∧Cs V5 w4.heap.size [c0,c1,c2,c3,c4,c5,c6,c7,c8]∧Cs V5 (w4.heap.size+1) [d0,d1,d2,d3,d4,d5]∧Cs V5 w5.heap.size [a0,a1,a2,a3,a4,a5,a6,a7,a8]∧True):=⟨(X4.out.1.asideN ha (by omega)).later bW,(X4.out.2.1.asideN ha (by omega)).later bW,(X4.out.2.2.1.asideN ha (by omega)).later bW,(X4.out.2.2.2.1.asideN ha (by omega)).later bW,(X4.out.2.2.2.2.1.asideN ha (by omega)).later bW,(X4.out.2.2.2.2.2.1.asideN ha (by omega)).later bW,N0,trivial⟩
 have H5:Hid (Rd P V5∧Below w.heap.size w V5):=⟨hr.later bW,HB.out⟩
 clear hr ha bW N0 HB X4 H4
 go_wp2_with fail
 clear hV5
 refine (φq P _ _ H5.out.1).mono ?_
 rintro e w6 ⟨p0,p1,p2,up,rfl,hr,ha⟩
 obtain ⟨V6,hV6⟩: ∃V,(w6.alloc (.cells #[p0,p1,p2] 34))=V:=⟨_,rfl⟩
 have bW:Below w6.heap.size w6 V6:=by rw [<-hV6];exact ζc _ _
 have N0:Cs V6 w6.heap.size [p0,p1,p2]:=by rw [<-hV6];exact Cs.new _ _ _
 have z6:V5.heap.size<=w6.heap.size:=ha.size
 have zv6:V6.heap.size=w6.heap.size+1:=by rw [<-hV6];simp
 have HB:Hid (Below w.heap.size w V6):=(H5.out.2.trans (ha.below (by omega) H5.out.2.size)).trans (bW.mono (by have:=H5.out.2.size;omega))
 have X6:Hid (Cs V6 w.heap.size (zR 9)∧Cs V6 (w.heap.size+1) (zR 6)∧Cs V6 (w.heap.size+1+1) (zR 9)∧Cs V6 (w.heap.size+1+1+1) (zR 3)∧Cs V6 w4.heap.size [c0,c1,c2,c3,c4,c5,c6,c7,c8]∧Cs V6 (w4.heap.size+1) [d0,d1,d2,d3,d4,d5]∧Cs V6 w5.heap.size [a0,a1,a2,a3,a4,a5,a6,a7,a8]∧Cs V6 w6.heap.size [p0,p1,p2]∧True):=⟨(X5.out.1.asideN ha (by omega)).later bW,(X5.out.2.1.asideN ha (by omega)).later bW,(X5.out.2.2.1.asideN ha (by omega)).later bW,(X5.out.2.2.2.1.asideN ha (by omega)).later bW,(X5.out.2.2.2.2.1.asideN ha (by omega)).later bW,(X5.out.2.2.2.2.2.1.asideN ha (by omega)).later bW,(X5.out.2.2.2.2.2.2.1.asideN ha (by omega)).later bW,N0,trivial⟩
 have H6:Hid (Rd P V6∧Below w.heap.size w V6):=⟨hr.later bW,HB.out⟩
 clear hr ha bW N0 HB X5 H5
 have m4:k.tmod 4=k%4:=Int.tmod_eq_emod_of_nonneg hk0
 have m8:k.tmod 8=k%8:=Int.tmod_eq_emod_of_nonneg hk0
 obtain ⟨b0x0,b0x1,b0x2,b0x3,b0x4,b0x5,b0x6,b0x7,b0x8⟩:=X6.out.1.c9
 have b0f:=X6.out.1.2.1
 obtain ⟨b1x0,b1x1,b1x2,b1x3,b1x4,b1x5⟩:=X6.out.2.1.c6
 have b1f:=X6.out.2.1.2.1
 obtain ⟨b2x0,b2x1,b2x2,b2x3,b2x4,b2x5,b2x6,b2x7,b2x8⟩:=X6.out.2.2.1.c9
 have b2f:=X6.out.2.2.1.2.1
 have b3x0:=X6.out.2.2.2.1.at 0 rfl
 have b3x1:=X6.out.2.2.2.1.at 1 rfl
 have b3x2:=X6.out.2.2.2.1.at 2 rfl
 have b3f:=X6.out.2.2.2.1.2.1
 obtain ⟨b4x0,b4x1,b4x2,b4x3,b4x4,b4x5,b4x6,b4x7,b4x8⟩:=X6.out.2.2.2.2.1.c9
 have b4f:=X6.out.2.2.2.2.1.2.1
 obtain ⟨b5x0,b5x1,b5x2,b5x3,b5x4,b5x5⟩:=X6.out.2.2.2.2.2.1.c6
 have b5f:=X6.out.2.2.2.2.2.1.2.1
 obtain ⟨b6x0,b6x1,b6x2,b6x3,b6x4,b6x5,b6x6,b6x7,b6x8⟩:=X6.out.2.2.2.2.2.2.1.c9
 have b6f:=X6.out.2.2.2.2.2.2.1.2.1
 have b7x0:=X6.out.2.2.2.2.2.2.2.1.at 0 rfl
 have b7x1:=X6.out.2.2.2.2.2.2.2.1.at 1 rfl
 have b7x2:=X6.out.2.2.2.2.2.2.2.1.at 2 rfl
 have b7f:=X6.out.2.2.2.2.2.2.2.1.2.1
 go_upto_if 35 with fail
 go_cut [] from 33 to 68 (fun wx=> ∃e0 e1 e2 e3 e4 e5 e6 e7 e8 f0 f1 f2:Int,Hid (U32 [e0,e1,e2,e3,e4,e5,e6,e7,e8]∧U32 [f0,f1,f2]∧Below w.heap.size w wx∧Cs wx w.heap.size (zR 9)∧Cs wx (w.heap.size+1) (zR 6)∧Cs wx (w.heap.size+1+1) (zR 9)∧Cs wx (w.heap.size+1+1+1) (zR 3)∧Cs wx w4.heap.size [c0,c1,c2,c3,c4,c5,c6,c7,c8]∧Cs wx (w4.heap.size+1) [d0,d1,d2,d3,d4,d5]∧Cs wx w5.heap.size [e0,e1,e2,e3,e4,e5,e6,e7,e8]∧Cs wx w6.heap.size [f0,f1,f2]∧True))
 case first=>
  by_cases hc:k%4=0
  ·go_wp2
   go_meet
   case rel=>exact ⟨a0,a1,c2,a3,a4,c2,a6,a7,c2,p0,p1,c2,U32.cons (ua _ (by simp)) (U32.cons (ua _ (by simp)) (U32.cons (uc _ (by simp)) (U32.cons (ua _ (by simp)) (U32.cons (ua _ (by simp)) (U32.cons (uc _ (by simp)) (U32.cons (ua _ (by simp)) (U32.cons (ua _ (by simp)) (U32.cons (uc _ (by simp)) (U32.nil))))))))),U32.cons (up _ (by simp)) (U32.cons (up _ (by simp)) (U32.cons (uc _ (by simp)) (U32.nil))),by (repeat (with_reducible refine Below.setCell ?_ (by simp<;>omega) _));exact H6.out.2,((((X6.out.1.setO (by omega)).setO (by omega)).setO (by omega)).setO (by omega)),((((X6.out.2.1.setO (by omega)).setO (by omega)).setO (by omega)).setO (by omega)),((((X6.out.2.2.1.setO (by omega)).setO (by omega)).setO (by omega)).setO (by omega)),((((X6.out.2.2.2.1.setO (by omega)).setO (by omega)).setO (by omega)).setO (by omega)),((((X6.out.2.2.2.2.1.setO (by omega)).setO (by omega)).setO (by omega)).setO (by omega)),((((X6.out.2.2.2.2.2.1.setO (by omega)).setO (by omega)).setO (by omega)).setO (by omega)),((((X6.out.2.2.2.2.2.2.1.set1 (i:=2) _ (by simp)).set1 (i:=5) _ (by simp)).set1 (i:=8) _ (by simp)).setO (by omega)),((((X6.out.2.2.2.2.2.2.2.1.setO (by omega)).setO (by omega)).setO (by omega)).set1 (i:=2) _ (by simp)),trivial⟩
  ·go_wp2
   go_meet
   case rel=>exact ⟨a0,a1,a2,a3,a4,a5,a6,a7,a8,p0,p1,p2,ua,up,H6.out.2,X6.out⟩
 case rest=>
 obtain ⟨e0,e1,e2,e3,e4,e5,e6,e7,e8,f0,f1,f2,HC⟩:=hcut
 have ue:=HC.out.1
 have uf:=HC.out.2.1
 have H7:=Hid.mk HC.out.2.2.1
 have X7:=Hid.mk HC.out.2.2.2
 clear HC X6 H6 hV6 b0x0 b0x1 b0x2 b0x3 b0x4 b0x5 b0x6 b0x7 b0x8 b0f b1x0 b1x1 b1x2 b1x3 b1x4 b1x5 b1f b2x0 b2x1 b2x2 b2x3 b2x4 b2x5 b2x6 b2x7 b2x8 b2f b3x0 b3x1 b3x2 b3f b4x0 b4x1 b4x2 b4x3 b4x4 b4x5 b4x6 b4x7 b4x8 b4f b5x0 b5x1 b5x2 b5x3 b5x4 b5x5 b5f b6x0 b6x1 b6x2 b6x3 b6x4 b6x5 b6x6 b6x7 b6x8 b6f b7x0 b7x1 b7x2 b7f
 obtain ⟨b0x0,b0x1,b0x2,b0x3,b0x4,b0x5,b0x6,b0x7,b0x8⟩:=X7.out.1.c9
 have b0f:=X7.out.1.2.1
 obtain ⟨b1x0,b1x1,b1x2,b1x3,b1x4,b1x5⟩:=X7.out.2.1.c6
 have b1f:=X7.out.2.1.2.1
 obtain ⟨b2x0,b2x1,b2x2,b2x3,b2x4,b2x5,b2x6,b2x7,b2x8⟩:=X7.out.2.2.1.c9
 have b2f:=X7.out.2.2.1.2.1
 have b3x0:=X7.out.2.2.2.1.at 0 rfl
 have b3x1:=X7.out.2.2.2.1.at 1 rfl
 have b3x2:=X7.out.2.2.2.1.at 2 rfl
 have b3f:=X7.out.2.2.2.1.2.1
 obtain ⟨b4x0,b4x1,b4x2,b4x3,b4x4,b4x5,b4x6,b4x7,b4x8⟩:=X7.out.2.2.2.2.1.c9
 have b4f:=X7.out.2.2.2.2.1.2.1
 obtain ⟨b5x0,b5x1,b5x2,b5x3,b5x4,b5x5⟩:=X7.out.2.2.2.2.2.1.c6
 have b5f:=X7.out.2.2.2.2.2.1.2.1
 obtain ⟨b6x0,b6x1,b6x2,b6x3,b6x4,b6x5,b6x6,b6x7,b6x8⟩:=X7.out.2.2.2.2.2.2.1.c9
 have b6f:=X7.out.2.2.2.2.2.2.1.2.1
 have b7x0:=X7.out.2.2.2.2.2.2.2.1.at 0 rfl
 have b7x1:=X7.out.2.2.2.2.2.2.2.1.at 1 rfl
 have b7x2:=X7.out.2.2.2.2.2.2.2.1.at 2 rfl
 have b7f:=X7.out.2.2.2.2.2.2.2.1.2.1
 go_upto_if 57 with fail
 go_cut [] from 55 to 68 (fun wx=> ∃g0 g1 g2:Int,Hid (U32 [g0,g1,g2]∧Below w.heap.size w wx∧Cs wx w.heap.size (zR 9)∧Cs wx (w.heap.size+1) (zR 6)∧Cs wx (w.heap.size+1+1) (zR 9)∧Cs wx (w.heap.size+1+1+1) (zR 3)∧Cs wx w4.heap.size [c0,c1,c2,c3,c4,c5,c6,c7,c8]∧Cs wx (w4.heap.size+1) [d0,d1,d2,d3,d4,d5]∧Cs wx w5.heap.size [e0,e1,e2,e3,e4,e5,e6,e7,e8]∧Cs wx w6.heap.size [g0,g1,g2]∧True))
 case first=>
  by_cases hc:k%4=1
  ·go_wp2
   go_meet
   case rel=>exact ⟨d0,d1,d2,U32.cons (ud _ (by simp)) (U32.cons (ud _ (by simp)) (U32.cons (ud _ (by simp)) (U32.nil))),by (repeat (with_reducible refine Below.setCell ?_ (by simp<;>omega) _));exact H7.out,(((X7.out.1.setO (by omega)).setO (by omega)).setO (by omega)),(((X7.out.2.1.setO (by omega)).setO (by omega)).setO (by omega)),(((X7.out.2.2.1.setO (by omega)).setO (by omega)).setO (by omega)),(((X7.out.2.2.2.1.setO (by omega)).setO (by omega)).setO (by omega)),(((X7.out.2.2.2.2.1.setO (by omega)).setO (by omega)).setO (by omega)),(((X7.out.2.2.2.2.2.1.setO (by omega)).setO (by omega)).setO (by omega)),(((X7.out.2.2.2.2.2.2.1.setO (by omega)).setO (by omega)).setO (by omega)),(((X7.out.2.2.2.2.2.2.2.1.set1 (i:=0) _ (by simp)).set1 (i:=1) _ (by simp)).set1 (i:=2) _ (by simp)),trivial⟩
  ·go_wp2
   go_meet
   case rel=>exact ⟨f0,f1,f2,uf,H7.out,X7.out⟩
 case rest=>
 obtain ⟨g0,g1,g2,HC⟩:=hcut
 have ug:=HC.out.1
 have H8:=Hid.mk HC.out.2.1
 have X8:=Hid.mk HC.out.2.2
 clear HC X7 H7 b0x0 b0x1 b0x2 b0x3 b0x4 b0x5 b0x6 b0x7 b0x8 b0f b1x0 b1x1 b1x2 b1x3 b1x4 b1x5 b1f b2x0 b2x1 b2x2 b2x3 b2x4 b2x5 b2x6 b2x7 b2x8 b2f b3x0 b3x1 b3x2 b3f b4x0 b4x1 b4x2 b4x3 b4x4 b4x5 b4x6 b4x7 b4x8 b4f b5x0 b5x1 b5x2 b5x3 b5x4 b5x5 b5f b6x0 b6x1 b6x2 b6x3 b6x4 b6x5 b6x6 b6x7 b6x8 b6f b7x0 b7x1 b7x2 b7f
 obtain ⟨b0x0,b0x1,b0x2,b0x3,b0x4,b0x5,b0x6,b0x7,b0x8⟩:=X8.out.1.c9
 have b0f:=X8.out.1.2.1
 obtain ⟨b1x0,b1x1,b1x2,b1x3,b1x4,b1x5⟩:=X8.out.2.1.c6
 have b1f:=X8.out.2.1.2.1
 obtain ⟨b2x0,b2x1,b2x2,b2x3,b2x4,b2x5,b2x6,b2x7,b2x8⟩:=X8.out.2.2.1.c9
 have b2f:=X8.out.2.2.1.2.1
 have b3x0:=X8.out.2.2.2.1.at 0 rfl
 have b3x1:=X8.out.2.2.2.1.at 1 rfl
 have b3x2:=X8.out.2.2.2.1.at 2 rfl
 have b3f:=X8.out.2.2.2.1.2.1
 obtain ⟨b4x0,b4x1,b4x2,b4x3,b4x4,b4x5,b4x6,b4x7,b4x8⟩:=X8.out.2.2.2.2.1.c9
 have b4f:=X8.out.2.2.2.2.1.2.1
 obtain ⟨b5x0,b5x1,b5x2,b5x3,b5x4,b5x5⟩:=X8.out.2.2.2.2.2.1.c6
 have b5f:=X8.out.2.2.2.2.2.1.2.1
 obtain ⟨b6x0,b6x1,b6x2,b6x3,b6x4,b6x5,b6x6,b6x7,b6x8⟩:=X8.out.2.2.2.2.2.2.1.c9
 have b6f:=X8.out.2.2.2.2.2.2.1.2.1
 have b7x0:=X8.out.2.2.2.2.2.2.2.1.at 0 rfl
 have b7x1:=X8.out.2.2.2.2.2.2.2.1.at 1 rfl
 have b7x2:=X8.out.2.2.2.2.2.2.2.1.at 2 rfl
 have b7f:=X8.out.2.2.2.2.2.2.2.1.2.1
 go_upto_if 62 with fail
 go_cut [] from 60 to 68 (fun wx=> ∃h0 h1 h2:Int,Hid (U32 [h0,h1,h2]∧Below w.heap.size w wx∧Cs wx w.heap.size (zR 9)∧Cs wx (w.heap.size+1) (zR 6)∧Cs wx (w.heap.size+1+1) (zR 9)∧Cs wx (w.heap.size+1+1+1) (zR 3)∧Cs wx w4.heap.size [c0,c1,c2,c3,c4,c5,c6,c7,c8]∧Cs wx (w4.heap.size+1) [d0,d1,d2,d3,d4,d5]∧Cs wx w5.heap.size [e0,e1,e2,e3,e4,e5,e6,e7,e8]∧Cs wx w6.heap.size [h0,h1,h2]∧True))
 case first=>
  by_cases hc:k%8=2
  ·go_wp2
   go_meet
   case rel=>exact ⟨c0,c1,c2,U32.cons (uc _ (by simp)) (U32.cons (uc _ (by simp)) (U32.cons (uc _ (by simp)) (U32.nil))),by (repeat (with_reducible refine Below.setCell ?_ (by simp<;>omega) _));exact H8.out,(((X8.out.1.setO (by omega)).setO (by omega)).setO (by omega)),(((X8.out.2.1.setO (by omega)).setO (by omega)).setO (by omega)),(((X8.out.2.2.1.setO (by omega)).setO (by omega)).setO (by omega)),(((X8.out.2.2.2.1.setO (by omega)).setO (by omega)).setO (by omega)),(((X8.out.2.2.2.2.1.setO (by omega)).setO (by omega)).setO (by omega)),(((X8.out.2.2.2.2.2.1.setO (by omega)).setO (by omega)).setO (by omega)),(((X8.out.2.2.2.2.2.2.1.setO (by omega)).setO (by omega)).setO (by omega)),(((X8.out.2.2.2.2.2.2.2.1.set1 (i:=0) _ (by simp)).set1 (i:=1) _ (by simp)).set1 (i:=2) _ (by simp)),trivial⟩
  ·go_wp2
   go_meet
   case rel=>exact ⟨g0,g1,g2,ug,H8.out,X8.out⟩
 case rest=>
 obtain ⟨h0,h1,h2,HC⟩:=hcut
 have uh:=HC.out.1
 have H9:=Hid.mk HC.out.2.1
 have X9:=Hid.mk HC.out.2.2
 clear HC X8 H8 b0x0 b0x1 b0x2 b0x3 b0x4 b0x5 b0x6 b0x7 b0x8 b0f b1x0 b1x1 b1x2 b1x3 b1x4 b1x5 b1f b2x0 b2x1 b2x2 b2x3 b2x4 b2x5 b2x6 b2x7 b2x8 b2f b3x0 b3x1 b3x2 b3f b4x0 b4x1 b4x2 b4x3 b4x4 b4x5 b4x6 b4x7 b4x8 b4f b5x0 b5x1 b5x2 b5x3 b5x4 b5x5 b5f b6x0 b6x1 b6x2 b6x3 b6x4 b6x5 b6x6 b6x7 b6x8 b6f b7x0 b7x1 b7x2 b7f
 obtain ⟨b0x0,b0x1,b0x2,b0x3,b0x4,b0x5,b0x6,b0x7,b0x8⟩:=X9.out.1.c9
 have b0f:=X9.out.1.2.1
 obtain ⟨b1x0,b1x1,b1x2,b1x3,b1x4,b1x5⟩:=X9.out.2.1.c6
 have b1f:=X9.out.2.1.2.1
 obtain ⟨b2x0,b2x1,b2x2,b2x3,b2x4,b2x5,b2x6,b2x7,b2x8⟩:=X9.out.2.2.1.c9
 have b2f:=X9.out.2.2.1.2.1
 have b3x0:=X9.out.2.2.2.1.at 0 rfl
 have b3x1:=X9.out.2.2.2.1.at 1 rfl
 have b3x2:=X9.out.2.2.2.1.at 2 rfl
 have b3f:=X9.out.2.2.2.1.2.1
 obtain ⟨b4x0,b4x1,b4x2,b4x3,b4x4,b4x5,b4x6,b4x7,b4x8⟩:=X9.out.2.2.2.2.1.c9
 have b4f:=X9.out.2.2.2.2.1.2.1
 obtain ⟨b5x0,b5x1,b5x2,b5x3,b5x4,b5x5⟩:=X9.out.2.2.2.2.2.1.c6
 have b5f:=X9.out.2.2.2.2.2.1.2.1
 obtain ⟨b6x0,b6x1,b6x2,b6x3,b6x4,b6x5,b6x6,b6x7,b6x8⟩:=X9.out.2.2.2.2.2.2.1.c9
 have b6f:=X9.out.2.2.2.2.2.2.1.2.1
 have b7x0:=X9.out.2.2.2.2.2.2.2.1.at 0 rfl
 have b7x1:=X9.out.2.2.2.2.2.2.2.1.at 1 rfl
 have b7x2:=X9.out.2.2.2.2.2.2.2.1.at 2 rfl
 have b7f:=X9.out.2.2.2.2.2.2.2.1.2.1
 clear X9
 go_wp2
 go_region
 all_goals go_wp2
 all_goals refine bodyPost_ret (v:= .tuple #[.agg #[e0,e1,e2,e3,e4,e5,e6,e7,e8],.agg #[d0,d1,d2,d3,d4,d5],.agg #[c0,c1,c2,c3,c4,c5,c6,c7,c8],.agg #[h0,h1,h2]]) (by simp [results,results21,go_sem,b0x0,b0x1,b0x2,b0x3,b0x4,b0x5,b0x6,b0x7,b0x8,b1x0,b1x1,b1x2,b1x3,b1x4,b1x5,b2x0,b2x1,b2x2,b2x3,b2x4,b2x5,b2x6,b2x7,b2x8,b3x0,b3x1,b3x2]) rfl ?_
 all_goals exact ⟨e0,e1,e2,e3,e4,e5,e6,e7,e8,d0,d1,d2,d3,d4,d5,c0,c1,c2,c3,c4,c5,c6,c7,c8,h0,h1,h2,ue,ud,uc,uh,rfl,by (repeat (first|with_reducible refine Below.drew ?_|with_reducible refine Below.setCell ?_ (by simp<;>omega) _));exact H9.out⟩
end Go.Proofs.YtfieffpobgcpmaaGreatDoor
