import Derived.Test.YtfieffpobgcpmaaGreatDoorBgIBgJBhACsASh0S
import Derived.Test.YtfieffpobgcpmaaGreatDoorWiGToMdAS
import Derived.Test.YtfieffpobgcpmaaGreatDoorWithinToImVS
import Derived.Test.YtfieffpobgcpmaaGreatDoorFrBFrCFrDFwAS
import Derived.Deep.MidRow
import Derived.Test.YtfieffpobgcpmaaGreatDoorDy1ToRkBS
import Derived.Test.YtfieffpobgcpmaaGreatDoorBaseToNumS
import Derived.Test.YtfieffpobgcpmaaGreatDoorNumWToNumNS
import Derived.Test.YtfieffpobgcpmaaGreatDoorImplUQS
import Derived.Test.YtfieffpobgcpmaaGreatDoorImplBToImplDS
import Derived.Test.YtfieffpobgcpmaaGreatDoorEsBToImplOS
import Derived.Deep.LoopGhost
set_option maxRecDepth 100000
set_option maxHeartbeats 32000000
namespace Go.Proofs.YtfieffpobgcpmaaGreatDoor
open Go.RowKit Go.Proofs.Tryz
variable {o q B G:Int} {ys zs:List Int} {w W:World} {n c c':Nat} {a a':Option Addr}
def HitO (w:World) (ok:Bool) (P Q:Int->Int->Prop) (o:Ending) (w':World):Prop:=
 Below w w w'∧((ok=false∧o= .returned (.tuple #[.int .i64 0,.int .i64 1]))∨(ok=true∧ ∃R S:Int×Int×Int×Int,Met P R∧Met Q S∧o= .returned (.tuple #[.int .i64 (sgn (R.1*S.2.1-S.1*R.2.1)),.int .i64 0])))
theorem θS (w:World) (zs:List Int) (t:TypeId):ζk .u32 (w.alloc (.cells (zs.map (Value.int .u32)).toArray t)) (some ⟨w,0,none⟩) zs:=by
 refine .inr ⟨w,0,rfl,by simp,?_⟩
 intro j hj
 have h:=(Cs.new w (zs.map (Value.int .u32)).toArray t).at j (u:= .int .u32 (zs.getD j 0)) (by simp [hj])
 simpa using h
theorem ηz (x0 x1 x2 x3 x4 x5 x6 x7:Value) (w:World):(Instr.field 83 (.agg #[x0,x1,x2,x3,x4,x5,x6,x7]) 0).run prog w= .ok (.agg #[x0,x1,x2,x3]) w:=by
 unfold Instr.field
 simp [go_sem,asAgg]
theorem ωm {t0 t1 t2 t3 t4 t5 t6 t7 t8 u0 u1 u2 u3 u4 u5 u6 u7 u8:Int}:(List.range 2).all (ξA [t0,t1,t2,t3,t4,t5,t6,t7,t8,u0,u1,u2,u3,u4,u5,u6,u7,u8])=((ζa t0 t1 t2 && ζa t3 t4 t5 && ζa t6 t7 t8) && (ζa u0 u1 u2 && ζa u3 u4 u5 && ζa u6 u7 u8)):=by
 simp [ξA,List.range,List.range.loop]
theorem κV (t0 t1 t2 t3 t4 t5 t6 t7 t8 u0 u1 u2 u3 u4 u5 u6 u7 u8 s0 s1 s2 s3 s4 s5:Int) (w:World) (hT:Tab w) (ht:U32 [t0,t1,t2,t3,t4,t5,t6,t7,t8,u0,u1,u2,u3,u4,u5,u6,u7,u8]) (hs:U32 [s0,s1,s2,s3,s4,s5]) (ok:Bool) (hok:ok=((ζa t0 t1 t2 && ζa t3 t4 t5 && ζa t6 t7 t8) && (ζa u0 u1 u2 && ζa u3 u4 u5 && ζa u6 u7 u8) && (ζa s0 s1 s2 && ζa s3 s4 s5 && !(ζD s3 s4 s5)))):
 Calls prog 16 #[.agg #[t0,t1,t2,t3,t4,t5,t6,t7,t8],.agg #[u0,u1,u2,u3,u4,u5,u6,u7,u8],.agg #[s0,s1,s2,s3,s4,s5]] w fun o w'=>HitO w ok (ζs (pv t0 t1 t2) (pv t3 t4 t5) (pv t6 t7 t8) (pv s0 s1 s2) (pv s3 s4 s5)) (ζs (pv u0 u1 u2) (pv u3 u4 u5) (pv u6 u7 u8) (pv s0 s1 s2) (pv s3 s4 s5)) o w':=by
 have HU:=Hid.mk ht
 have HR:=Hid.mk hs
 have HT:Hid (∀w',Below w w w'->Tab w'):=fun w' hb=>hT.later hb
 have HD0:Hid (HoS w [t0,t1,t2,t3,t4,t5,t6,t7,t8] [u0,u1,u2,u3,u4,u5,u6,u7,u8] [s0,s1,s2,s3,s4,s5] (((w.alloc (.cells #[t0,t1,t2,t3,t4,t5,t6,t7,t8] 36)).alloc (.cells #[u0,u1,u2,u3,u4,u5,u6,u7,u8] 36)).alloc (.cells #[s0,s1,s2,s3,s4,s5] 39))):=HoS.start w _ _ _ _ _ _
 have HO:Hid (ok=((List.range 2).all (ξA [t0,t1,t2,t3,t4,t5,t6,t7,t8,u0,u1,u2,u3,u4,u5,u6,u7,u8]) && (ζa s0 s1 s2 && ζa s3 s4 s5 && !(ζD s3 s4 s5)))):=by unfold Hid;rw [ωm,hok]
 have HC:Hid ((List.range 2).all (ξA [t0,t1,t2,t3,t4,t5,t6,t7,t8,u0,u1,u2,u3,u4,u5,u6,u7,u8])=true->(Cor t0∧Cor t1∧Cor t2∧Cor t3∧Cor t4∧Cor t5∧Cor t6∧Cor t7∧Cor t8)∧Cor u0∧Cor u1∧Cor u2∧Cor u3∧Cor u4∧Cor u5∧Cor u6∧Cor u7∧Cor u8):=by
  unfold Hid;rw [ωm];simp only [ζa,Bool.and_eq_true];rintro ⟨⟨⟨⟨⟨q0,q1⟩,q2⟩,⟨q3,q4⟩,q5⟩,⟨q6,q7⟩,q8⟩,⟨⟨⟨p0,p1⟩,p2⟩,⟨p3,p4⟩,p5⟩,⟨p6,p7⟩,p8⟩
  exact ⟨⟨⟨(ht t0 (by simp)).1,(ht t0 (by simp)).2,q0⟩,⟨(ht t1 (by simp)).1,(ht t1 (by simp)).2,q1⟩,⟨(ht t2 (by simp)).1,(ht t2 (by simp)).2,q2⟩,⟨(ht t3 (by simp)).1,(ht t3 (by simp)).2,q3⟩,⟨(ht t4 (by simp)).1,(ht t4 (by simp)).2,q4⟩,⟨(ht t5 (by simp)).1,(ht t5 (by simp)).2,q5⟩,⟨(ht t6 (by simp)).1,(ht t6 (by simp)).2,q6⟩,⟨(ht t7 (by simp)).1,(ht t7 (by simp)).2,q7⟩,⟨(ht t8 (by simp)).1,(ht t8 (by simp)).2,q8⟩⟩,⟨(ht u0 (by simp)).1,(ht u0 (by simp)).2,p0⟩,⟨(ht u1 (by simp)).1,(ht u1 (by simp)).2,p1⟩,⟨(ht u2 (by simp)).1,(ht u2 (by simp)).2,p2⟩,⟨(ht u3 (by simp)).1,(ht u3 (by simp)).2,p3⟩,⟨(ht u4 (by simp)).1,(ht u4 (by simp)).2,p4⟩,⟨(ht u5 (by simp)).1,(ht u5 (by simp)).2,p5⟩,⟨(ht u6 (by simp)).1,(ht u6 (by simp)).2,p6⟩,⟨(ht u7 (by simp)).1,(ht u7 (by simp)).2,p7⟩,⟨(ht u8 (by simp)).1,(ht u8 (by simp)).2,p8⟩⟩
 have HE:Hid ((ζa s0 s1 s2 && ζa s3 s4 s5 && !(ζD s3 s4 s5))=true->Cor s0∧Cor s1∧Cor s2∧Cor s3∧Cor s4∧Cor s5):=by
  unfold Hid;simp only [ζa,Bool.and_eq_true];rintro ⟨⟨⟨⟨r0,r1⟩,r2⟩,⟨r3,r4⟩,r5⟩,_⟩
  exact ⟨⟨(hs s0 (by simp)).1,(hs s0 (by simp)).2,r0⟩,⟨(hs s1 (by simp)).1,(hs s1 (by simp)).2,r1⟩,⟨(hs s2 (by simp)).1,(hs s2 (by simp)).2,r2⟩,⟨(hs s3 (by simp)).1,(hs s3 (by simp)).2,r3⟩,⟨(hs s4 (by simp)).1,(hs s4 (by simp)).2,r4⟩,⟨(hs s5 (by simp)).1,(hs s5 (by simp)).2,r5⟩⟩
 clear hT ht hs hok
 go_enter func16,ntmps16
 go_wp2_with fail
 refine (ζU _ 2 2 [t0,t1,t2,t3,t4,t5,t6,t7,t8,u0,u1,u2,u3,u4,u5,u6,u7,u8] _ (by omega) rfl HU.out (by have:=θS (((w.alloc (.cells #[t0,t1,t2,t3,t4,t5,t6,t7,t8] 36)).alloc (.cells #[u0,u1,u2,u3,u4,u5,u6,u7,u8] 36)).alloc (.cells #[s0,s1,s2,s3,s4,s5] 39)) [t0,t1,t2,t3,t4,t5,t6,t7,t8,u0,u1,u2,u3,u4,u5,u6,u7,u8] 36;simpa using this)).mono ?_
 rintro o w1 ⟨rfl,hb1⟩
 have HD1:Hid (HoS w [t0,t1,t2,t3,t4,t5,t6,t7,t8] [u0,u1,u2,u3,u4,u5,u6,u7,u8] [s0,s1,s2,s3,s4,s5] w1):=(HD0.out.later (ζc _ _)).later hb1
 clear hb1 HD0
 cases hA:(List.range 2).all (ξA [t0,t1,t2,t3,t4,t5,t6,t7,t8,u0,u1,u2,u3,u4,u5,u6,u7,u8])
 ·rw [hA] at HO
  clear HC HE hA
  go_wp2
  refine bodyPost_ret (v:= .tuple #[.int .i64 0,.int .i64 1]) (by simp [results,results16,go_sem]) rfl ?_
  exact ⟨HD1.out.bel,.inl ⟨HO.out,rfl⟩⟩
 obtain ⟨⟨q0,q1,q2,q3,q4,q5,q6,q7,q8⟩,p0,p1,p2,p3,p4,p5,p6,p7,p8⟩:=HC.out hA
 rw [hA] at HO
 clear HC hA
 obtain ⟨x0,x1,x2,x3,x4,x5⟩:=HD1.out.r.c6
 go_wp2_with fail
 refine (ψr s0 s1 s2 s3 s4 s5 _ (HR.out s0 (by simp)).1 (HR.out s0 (by simp)).2 (HR.out s1 (by simp)).1 (HR.out s1 (by simp)).2 (HR.out s2 (by simp)).1 (HR.out s2 (by simp)).2 (HR.out s3 (by simp)).1 (HR.out s3 (by simp)).2 (HR.out s4 (by simp)).1 (HR.out s4 (by simp)).2 (HR.out s5 (by simp)).1 (HR.out s5 (by simp)).2).mono ?_
 rintro o w2 ⟨rfl,hb2⟩
 have HD2:=Hid.mk (HD1.out.later hb2)
 clear hb2 HD1 x0 x1 x2 x3 x4 x5
 cases hA:(ζa s0 s1 s2 && ζa s3 s4 s5 && !(ζD s3 s4 s5))
 ·rw [hA] at HO
  clear HE hA
  go_wp2
  refine bodyPost_ret (v:= .tuple #[.int .i64 0,.int .i64 1]) (by simp [results,results16,go_sem]) rfl ?_
  exact ⟨HD2.out.bel,.inl ⟨HO.out,rfl⟩⟩
 obtain ⟨r0,r1,r2,r3,r4,r5⟩:=HE.out hA
 rw [hA] at HO
 clear HE hA
 have TT:=HT.out _ HD2.out.bel
 obtain ⟨x0,x1,x2,x3,x4,x5⟩:=HD2.out.r.c6
 go_wp2_with fail
 refine (ψi s0 s1 s2 s3 s4 s5 _ TT r0 r1 r2 r3 r4 r5).mono ?_
 rintro o w3 ⟨v3,rfl,hc3,hb3⟩
 have HC3:=Hid.mk hc3
 obtain ⟨l0,l1,l2,l3,l4,l5,l6,l7,l8,l9,l10,l11,l12,l13,l14,l15,l16,l17,l18,l19,l20,l21,l22,l23,l24,l25,l26,l27,rfl,hl,hB⟩:=hc3
 obtain ⟨f0,f1,f2,f3,f4,f5,f6,f7,f8,f9,f10,f11,f12,f13,e1,_⟩:=hl
 obtain ⟨g0,a0,c0,z0,g1,a1,c1,z1,g2,a2,c2,z2,g3,a3,c3,z3,g4,a4,c4,z4,g5,a5,c5,z5,g6,a6,c6,z6,e2,_⟩:=hB
 simp at e1 e2
 obtain ⟨rfl,rfl,rfl,rfl,rfl,rfl,rfl,rfl,rfl,rfl,rfl,rfl,rfl,rfl⟩:=e1
 obtain ⟨rfl,rfl,rfl,rfl,rfl,rfl,rfl,rfl,rfl,rfl,rfl,rfl,rfl,rfl⟩:=e2
 have HD3:=Hid.mk (HD2.out.later hb3)
 have HN:Hid (∃w4,World.setCells (w3.alloc (.cells #[oOo,oOo,oOo,oOo,oOo,oOo,oOo,oOo,oOo,oOo,oOo,oOo,oOo,oOo,false,(),false,(),false,(),false,(),false,(),false,(),false,()] 96)) w3 0 (Array.toList #[.float .f64 f0,.float .f64 f1,.float .f64 f2,.float .f64 f3,.float .f64 f4,.float .f64 f5,.float .f64 f6,.float .f64 f7,.float .f64 f8,.float .f64 f9,.float .f64 f10,.float .f64 f11,.float .f64 f12,.float .f64 f13,g0,.slice a0 z0 c0,g1,.slice a1 z1 c1,g2,.slice a2 z2 c2,g3,.slice a3 z3 c3,g4,.slice a4 z4 c4,g5,.slice a5 z5 c5,g6,.slice a6 z6 c6])=w4∧Below w3 w3 w4∧Cs w4 w3 [.float .f64 f0,.float .f64 f1,.float .f64 f2,.float .f64 f3,.float .f64 f4,.float .f64 f5,.float .f64 f6,.float .f64 f7,.float .f64 f8,.float .f64 f9,.float .f64 f10,.float .f64 f11,.float .f64 f12,.float .f64 f13,g0,.slice a0 z0 c0,g1,.slice a1 z1 c1,g2,.slice a2 z2 c2,g3,.slice a3 z3 c3,g4,.slice a4 z4 c4,g5,.slice a5 z5 c5,g6,.slice a6 z6 c6]):=by
  refine ⟨_,rfl,?_⟩
  rw [show World.setCells (w3.alloc (.cells #[oOo,oOo,oOo,oOo,oOo,oOo,oOo,oOo,oOo,oOo,oOo,oOo,oOo,oOo,false,(),false,(),false,(),false,(),false,(),false,(),false,()] 96)) w3 0 (Array.toList #[.float .f64 f0,.float .f64 f1,.float .f64 f2,.float .f64 f3,.float .f64 f4,.float .f64 f5,.float .f64 f6,.float .f64 f7,.float .f64 f8,.float .f64 f9,.float .f64 f10,.float .f64 f11,.float .f64 f12,.float .f64 f13,g0,.slice a0 z0 c0,g1,.slice a1 z1 c1,g2,.slice a2 z2 c2,g3,.slice a3 z3 c3,g4,.slice a4 z4 c4,g5,.slice a5 z5 c5,g6,.slice a6 z6 c6])=setAll (w3.alloc (.cells #[oOo,oOo,oOo,oOo,oOo,oOo,oOo,oOo,oOo,oOo,oOo,oOo,oOo,oOo,false,(),false,(),false,(),false,(),false,(),false,(),false,()] 96)) w3 0 [.float .f64 f0,.float .f64 f1,.float .f64 f2,.float .f64 f3,.float .f64 f4,.float .f64 f5,.float .f64 f6,.float .f64 f7,.float .f64 f8,.float .f64 f9,.float .f64 f10,.float .f64 f11,.float .f64 f12,.float .f64 f13,g0,.slice a0 z0 c0,g1,.slice a1 z1 c1,g2,.slice a2 z2 c2,g3,.slice a3 z3 c3,g4,.slice a4 z4 c4,g5,.slice a5 z5 c5,g6,.slice a6 z6 c6] from ζg _ _ _ _]
  exact ⟨ζd (Nat.le_refl _) [.float .f64 f0,.float .f64 f1,.float .f64 f2,.float .f64 f3,.float .f64 f4,.float .f64 f5,.float .f64 f6,.float .f64 f7,.float .f64 f8,.float .f64 f9,.float .f64 f10,.float .f64 f11,.float .f64 f12,.float .f64 f13,g0,.slice a0 z0 c0,g1,.slice a1 z1 c1,g2,.slice a2 z2 c2,g3,.slice a3 z3 c3,g4,.slice a4 z4 c4,g5,.slice a5 z5 c5,g6,.slice a6 z6 c6] _ 0 (ζc _ _),(Cs.new w3 #[oOo,oOo,oOo,oOo,oOo,oOo,oOo,oOo,oOo,oOo,oOo,oOo,oOo,oOo,false,(),false,(),false,(),false,(),false,(),false,(),false,()] 96).whole [.float .f64 f0,.float .f64 f1,.float .f64 f2,.float .f64 f3,.float .f64 f4,.float .f64 f5,.float .f64 f6,.float .f64 f7,.float .f64 f8,.float .f64 f9,.float .f64 f10,.float .f64 f11,.float .f64 f12,.float .f64 f13,g0,.slice a0 z0 c0,g1,.slice a1 z1 c1,g2,.slice a2 z2 c2,g3,.slice a3 z3 c3,g4,.slice a4 z4 c4,g5,.slice a5 z5 c5,g6,.slice a6 z6 c6] rfl⟩
 have HZ:Hid (Cs (w3.alloc (.cells #[oOo,oOo,oOo,oOo,oOo,oOo,oOo,oOo,oOo,oOo,oOo,oOo,oOo,oOo,false,(),false,(),false,(),false,(),false,(),false,(),false,()] 96)) w3 [oOo,oOo,oOo,oOo,oOo,oOo,oOo,oOo,oOo,oOo,oOo,oOo,oOo,oOo,false,(),false,(),false,(),false,(),false,(),false,(),false,()]):=Cs.new _ _ _
 obtain ⟨w4,e4,b4,hq⟩:=HN.out
 have HE4:=Hid.mk e4
 have HD4:=Hid.mk (HD3.out.later b4)
 have HQ:=Hid.mk hq
 have HC:Hid (∀w',Below w4 w4 w'->ζH w' (.agg #[.float .f64 f0,.float .f64 f1,.float .f64 f2,.float .f64 f3,.float .f64 f4,.float .f64 f5,.float .f64 f6,.float .f64 f7,.float .f64 f8,.float .f64 f9,.float .f64 f10,.float .f64 f11,.float .f64 f12,.float .f64 f13,g0,.slice a0 z0 c0,g1,.slice a1 z1 c1,g2,.slice a2 z2 c2,g3,.slice a3 z3 c3,g4,.slice a4 z4 c4,g5,.slice a5 z5 c5,g6,.slice a6 z6 c6]) 277 0 1 (pv s0 s1 s2) (pv s3 s4 s5)):=fun w' hb=>(HC3.out.later b4).later hb
 have HTT:Hid (∀w',Below w4 w4 w'->Tab w'):=fun w' hb=>HT.out w' (HD4.out.bel.trans (hb.mono HD4.out.bel.size))
 have HK:Hid (∀w',Below w4 w4 w'->Cs w' w [t0,t1,t2,t3,t4,t5,t6,t7,t8]∧Cs w' (↑w+1) [u0,u1,u2,u3,u4,u5,u6,u7,u8]∧Cs w' w3 [.float .f64 f0,.float .f64 f1,.float .f64 f2,.float .f64 f3,.float .f64 f4,.float .f64 f5,.float .f64 f6,.float .f64 f7,.float .f64 f8,.float .f64 f9,.float .f64 f10,.float .f64 f11,.float .f64 f12,.float .f64 f13,g0,.slice a0 z0 c0,g1,.slice a1 z1 c1,g2,.slice a2 z2 c2,g3,.slice a3 z3 c3,g4,.slice a4 z4 c4,g5,.slice a5 z5 c5,g6,.slice a6 z6 c6]):=fun w' hb=>⟨HD4.out.t.later hb,HD4.out.u.later hb,HQ.out.later hb⟩
 clear HD3 HN HC3 hb3 HD2 b4 e4 hq TT x0 x1 x2 x3 x4 x5
 go_wp2_with (refine wpList_store_mid rfl 96 (.tmp 8) (.tmp 20) rfl w3 0 #[.float .f64 f0,.float .f64 f1,.float .f64 f2,.float .f64 f3,.float .f64 f4,.float .f64 f5,.float .f64 f6,.float .f64 f7,.float .f64 f8,.float .f64 f9,.float .f64 f10,.float .f64 f11,.float .f64 f12,.float .f64 f13,g0,.slice a0 z0 c0,g1,.slice a1 z1 c1,g2,.slice a2 z2 c2,g3,.slice a3 z3 c3,g4,.slice a4 z4 c4,g5,.slice a5 z5 c5,g6,.slice a6 z6 c6] rfl rfl (HZ.out.there 0 28 (by simp)) (by kernel_rfl) (all_oneCell_toArray (by simp [Value.oneCell'])) ?_;rw [HE4.out])
 refine ζb.rg HK 9 fun WD hBd hS=> ?_
 refine ζb.ld 0 21 96 8 w3 0 [.float .f64 f0,.float .f64 f1,.float .f64 f2,.float .f64 f3,.float .f64 f4,.float .f64 f5,.float .f64 f6,.float .f64 f7,.float .f64 f8,.float .f64 f9,.float .f64 f10,.float .f64 f11,.float .f64 f12,.float .f64 f13,g0,.slice a0 z0 c0,g1,.slice a1 z1 c1,g2,.slice a2 z2 c2,g3,.slice a3 z3 c3,g4,.slice a4 z4 c4,g5,.slice a5 z5 c5,g6,.slice a6 z6 c6] (fun w' h=>(h.2.2).range 0 28) underlying96 hS ?_
 simp only [sT,sS,sZ]
 refine ζb.ld 1 22 36 3 w 0 [t0,t1,t2,t3,t4,t5,t6,t7,t8] (fun w' h=>(h.1).range 0 9) underlying36 hS ?_
 simp only [sT,sS,sZ]
 refine ζb.ld 4 25 96 8 w3 0 [.float .f64 f0,.float .f64 f1,.float .f64 f2,.float .f64 f3,.float .f64 f4,.float .f64 f5,.float .f64 f6,.float .f64 f7,.float .f64 f8,.float .f64 f9,.float .f64 f10,.float .f64 f11,.float .f64 f12,.float .f64 f13,g0,.slice a0 z0 c0,g1,.slice a1 z1 c1,g2,.slice a2 z2 c2,g3,.slice a3 z3 c3,g4,.slice a4 z4 c4,g5,.slice a5 z5 c5,g6,.slice a6 z6 c6] (fun w' h=>(h.2.2).range 0 28) underlying96 hS ?_
 simp only [sT,sS,sZ]
 refine ζb.ld 5 26 36 4 (↑w+1) 0 [u0,u1,u2,u3,u4,u5,u6,u7,u8] (fun w' h=>(h.2.1).range 0 9) underlying36 hS ?_
 simp only [sT,sS,sZ]
 refine ζb.on 2 fun K HKK=> ?_
 go_wp2_with fail
 refine (ξ2 _ (pv s0 s1 s2) (pv s3 s4 s5) t0 t1 t2 t3 t4 t5 t6 t7 t8 _ (HTT.out _ hBd) (HC.out _ hBd) q0 q1 q2 q3 q4 q5 q6 q7 q8).mono ?_
 rintro o w5 ⟨R,hMt,vt,rfl,hvt,hb1⟩
 have HMt:=Hid.mk hMt
 obtain ⟨gt1,at1,ct1,zt1,gt2,at2,ct2,zt2,gt3,at3,ct3,zt3,gt4,at4,ct4,zt4,rfl,hvt1,hvt2,_,_⟩:=hvt
 have HFt:Hid (ζO w5 (.agg #[gt1,.slice at1 zt1 ct1,gt2,.slice at2 zt2 ct2]) 1120 R.1 R.2.1):=⟨gt1,at1,ct1,zt1,gt2,at2,ct2,zt2,rfl,hvt1,hvt2⟩
 clear hMt hvt1 hvt2
 have hB1:Below w4 w4 w5:=hBd.trans (hb1.mono hBd.size)
 clear hS
 refine HKK.out _ _ (fun _=>HK.out _ hB1) ?_
 have hS:=HK.out _ hB1
 clear HKK K
 (try simp only [Act.put])
 refine ζb.pu 3 24 (.agg #[gt1,.slice at1 zt1 ct1,gt2,.slice at2 zt2 ct2]) hS ?_ (hy:= .inl ⟨rfl,fun w' _=>by have hfr:=ηz;go_simp⟩)
 simp only [sT,sS,sZ]
 refine ζb.on 6 fun K HKK=> ?_
 go_wp2_with fail
 refine (ξ2 _ (pv s0 s1 s2) (pv s3 s4 s5) u0 u1 u2 u3 u4 u5 u6 u7 u8 _ (HTT.out _ hB1) (HC.out _ hB1) p0 p1 p2 p3 p4 p5 p6 p7 p8).mono ?_
 rintro o w6 ⟨S,hMu,vu,rfl,hvu,hb2⟩
 have HMu:=Hid.mk hMu
 obtain ⟨gu1,au1,cu1,zu1,gu2,au2,cu2,zu2,gu3,au3,cu3,zu3,gu4,au4,cu4,zu4,rfl,hvu1,hvu2,_,_⟩:=hvu
 have HFu:Hid (ζO w6 (.agg #[gu1,.slice au1 zu1 cu1,gu2,.slice au2 zu2 cu2]) 1120 S.1 S.2.1):=⟨gu1,au1,cu1,zu1,gu2,au2,cu2,zu2,rfl,hvu1,hvu2⟩
 clear hMu hvu1 hvu2
 have hB2:Below w4 w4 w6:=hB1.trans (hb2.mono hB1.size)
 clear hS
 refine HKK.out _ _ (fun _=>HK.out _ hB2) ?_
 have hS:=HK.out _ hB2
 clear HKK K
 (try simp only [Act.put])
 refine ζb.pu 7 28 (.agg #[gu1,.slice au1 zu1 cu1,gu2,.slice au2 zu2 cu2]) hS ?_ (hy:= .inl ⟨rfl,fun w' _=>by have hfr:=ηz;go_simp⟩)
 simp only [sT,sS,sZ]
 refine ζb.on 8 fun K HKK=> ?_
 go_wp2_with fail
 refine (ψ4 _ _ 1120 R.1 R.2.1 S.1 S.2.1 _ (by omega) (HFt.out.later hb2) HFu.out).mono ?_
 rintro o w7 ⟨rfl,hb3⟩
 have hB3:Below w4 w4 w7:=hB2.trans (hb3.mono hB2.size)
 clear hS
 refine HKK.out _ _ (fun _=>HK.out _ hB3) ?_
 have hS:=HK.out _ hB3
 clear HKK K
 (try simp only [Act.put])
 refine ζb.on 9 fun K HKK=> ?_
 go_wp2_with fail
 refine HKK.out _ _ (fun _=>hS) ?_
 clear HKK K
 (try simp only [Act.put])
 refine ζb.on 10 fun K HKK=> ?_
 go_wp2_with fail
 refine HKK.out _ _ (fun _=>hS) ?_
 clear HKK K
 (try simp only [Act.put])
 refine ζb.done (by kernel_rfl) ?_
 go_wp2_with fail
 refine bodyPost_ret (v:= .tuple #[.int .i64 (sgn (R.1*S.2.1-S.1*R.2.1)),.int .i64 0]) (by simp [results,results16,go_sem]) rfl ?_
 exact ⟨HD4.out.bel.trans (hB3.mono HD4.out.bel.size),.inr ⟨HO.out,R,S,HMt.out,HMu.out,rfl⟩⟩
theorem νc (h:o%2=1) (t:Nat):Nat.Coprime (2^t) o.natAbs:=by
 refine Nat.Coprime.pow_left t ?_
 have:o.natAbs%2=1:=by omega
 rw [Nat.coprime_iff_gcd_eq_one,Nat.gcd_rec,this]
 rfl
theorem θT (h:o%2=1) (t:Nat):Int.gcd (2^t*q) o=Int.gcd q o:=by
 unfold Int.gcd
 rw [Int.natAbs_mul,Int.natAbs_pow]
 exact Nat.Coprime.gcd_mul_left_cancel _ (νc h t)
theorem κW {m:Int} {t:Nat} (ho:o%2=1) (hq:m-o=2^t*q):Int.gcd q o=Int.gcd m o:=by
 rw [<-θT ho t,<-hq]
 have:m=(m-o)+o:=by omega
 rw [show Int.gcd m o=Int.gcd ((m-o)+o) o by rw [<-this]]
 simp
theorem inv_start {a:Int} (h:a%2=1): ∃k,a*a=1+8*k:=by
 have h1:a%8=1∨a%8=3∨a%8=5∨a%8=7:=by omega
 have h2:a=8*(a/8)+a%8:=by omega
 rcases h1 with e|e|e|e<;>rw [e] at h2
 ·exact ⟨8*(a/8)*(a/8)+2*(a/8),by rw [show a*a=(8*(a/8)+1)*(8*(a/8)+1) by rw [<-h2]];grind⟩
 ·exact ⟨8*(a/8)*(a/8)+6*(a/8)+1,by rw [show a*a=(8*(a/8)+3)*(8*(a/8)+3) by rw [<-h2]];grind⟩
 ·exact ⟨8*(a/8)*(a/8)+10*(a/8)+3,by rw [show a*a=(8*(a/8)+5)*(8*(a/8)+5) by rw [<-h2]];grind⟩
 ·exact ⟨8*(a/8)*(a/8)+14*(a/8)+6,by rw [show a*a=(8*(a/8)+7)*(8*(a/8)+7) by rw [<-h2]];grind⟩
theorem νd {d i Q k:Int} (hd:d*i=1+B*k):(d*Q*i)%B=Q%B:=by
 have e:d*Q*i=Q+B*(k*Q):=by
  have:d*Q*i=(d*i)*Q:=by grind
  rw [this,hd];grind
 rw [e,Int.add_mul_emod_self_left]
theorem σn {d Q:Int}:d*Q-(Q%B)*d=(d*(Q/B))*B:=by
 have h:Q=B*(Q/B)+Q%B:=(Int.mul_ediv_add_emod Q B).symm
 have e:d*Q-(Q%B)*d=d*(Q-Q%B):=by grind
 rw [e]
 have:Q-Q%B=B*(Q/B):=by omega
 rw [this];grind
theorem τC {p:Int} {i j:Nat} {a b g x y:Int} (hp:p=2^i*a) (hq:q=2^j*b) (ha:a%2=1) (hb:b%2=1) (hb0:0<b) (hg:g=(Int.gcd a b:Int)) (hx:a=g*x) (hy:b=g*y):
 ∃u v,u=2^(i-min i j)*x∧v=2^(j-min i j)*y∧(∃k,0<k∧p=k*u∧q=k*v)∧Int.gcd u v=1∧0<v:=by
 have hg0:0<g:=by
  rw [hg]
  have:Int.gcd a b≠0:=fun e=>by rw [Int.gcd_eq_zero_iff] at e;omega
  omega
 have hy0:0<y:=by
  rcases Int.lt_or_le 0 y with h|h
  ·exact h
  ·have:=Int.mul_nonpos_of_nonneg_of_nonpos (Int.le_of_lt hg0) h;omega
 have hpw: ∀n:Nat,(0:Int)<2^n:=fun n=>Int.pow_pos (by omega)
 have hxo:x%2=1:=by
  rcases Int.emod_two_eq x with h|h
  ·exfalso
   have:x=2*(x/2):=by omega
   rw [this] at hx
   have:a=2*(g*(x/2)):=by rw [hx];grind
   omega
  ·exact h
 have hyo:y%2=1:=by
  rcases Int.emod_two_eq y with h|h
  ·exfalso
   have:y=2*(y/2):=by omega
   rw [this] at hy
   have:b=2*(g*(y/2)):=by rw [hy];grind
   omega
  ·exact h
 have hco:Int.gcd x y=1:=by
  have h1:Int.gcd a b=g.natAbs*Int.gcd x y:=by rw [hx,hy];exact Int.gcd_mul_left ..
  have h2:g.natAbs=Int.gcd a b:=by rw [hg];simp
  rw [h2] at h1
  have h3:0<Int.gcd a b:=by omega
  exact Nat.eq_of_mul_eq_mul_left h3 (by omega)
 have hs: ∀n m:Nat,m<=n->(2:Int)^n=2^m*2^(n-m):=fun n m h=>by rw [<-Int.pow_add];congr 1;omega
 refine ⟨_,_,rfl,rfl,⟨2^(min i j)*g,Int.mul_pos (hpw _) hg0,?_,?_⟩,?_,Int.mul_pos (hpw _) hy0⟩
 ·rw [hp,hs i (min i j) (by omega),hx];grind
 ·rw [hq,hs j (min i j) (by omega),hy];grind
 ·rcases Nat.le_total i j with h|h
  ·have e1:i-min i j=0:=by omega
   rw [e1,Int.pow_zero,Int.one_mul,Int.gcd_comm,θT hxo,Int.gcd_comm]
   exact hco
  ·have e1:j-min i j=0:=by omega
   rw [e1,Int.pow_zero,Int.one_mul,θT hyo]
   exact hco
def τD (w:World) (v:Int) (n:Nat) (e:Ending) (w':World):Prop:= ∃(t:Nat) (q:Int),v=2^t*q∧q%2=1∧ξx w q n e w'
theorem φE (a:Option Addr) (c:Nat) (zs:List Int) (w:World) (hn:zs.length<=30000) (hp:zs.length<=c) (hpm:c<=maxLen) (hz:ζk .u32 w a zs) (hcz:ζv 4294967296 zs) (hne:zs≠[]) (hT:Tab w):
 Calls prog 89 #[.slice a zs c] w fun e w'=>τD w (val 4294967296 zs) zs.length e w':=by
 go_enter func89,ntmps89
 go_wp2_with fail
 refine (φC a c zs _ (by omega) hz hcz hne hT).mono ?_
 rintro e w1 ⟨t,rfl,ht,⟨q,hq,hq1⟩,hb1⟩
 have HB1:=Hid.mk hb1
 have HQ:Hid (val 4294967296 zs=2^t*q∧q%2=1):=⟨hq,hq1⟩
 have HR:Hid (ζk .u32 w1 a zs):=hz.later hb1
 have HC:=Hid.mk hcz
 have HT1:=Hid.mk ht
 clear hb1 hq hq1 hz hcz ht hT hne
 go_wp2_with fail
 refine (ξQ a c zs t _ (by omega) hp hpm (by omega) (by have:=HT1.out;omega) HR.out HC.out).mono ?_
 rintro e w2 ⟨a2,c2,fs,rfl,h1,h2,h3,h4,h5,h6,hb2⟩
 have HO:Hid (τD w (val 4294967296 zs) zs.length (.returned (.slice a2 fs c2)) w2):=by
  refine ⟨t,q,HQ.out.1,HQ.out.2,a2,c2,fs,rfl,h1,h2,h3,?_,h5,h6.down HB1.out.size,HB1.out.trans (hb2.mono HB1.out.size)⟩
  rw [h4,HQ.out.1,Int.toNat_natCast]
  have hp2:(0:Int)<2^t:=Int.pow_pos (by decide)
  exact Int.mul_ediv_cancel_left _ (by omega)
 clear h1 h2 h3 h4 h5 h6 hb2 HB1 HQ HR HC HT1
 go_wp2
 go_ret
 exact HO.out
theorem ξ3 (hB:0<B) {xs:List Int} (hx:ζv B xs) (hy:ζv B ys) (h:val B xs<=val B ys):xs.length<=ys.length:=by
 rcases Nat.lt_or_ge ys.length xs.length with q|q
 ·have:=ζ7 hB hy.1 hx q
  omega
 ·exact q
structure FS (w:World) (n:Nat) (G:Int) (a:Option Addr) (c:Nat) (zs:List Int) (a':Option Addr) (c':Nat) (ys:List Int) (W:World):Prop where
 r1:ζk .u32 W a zs
 r2:ζk .u32 W a' ys
 k1:ζv 4294967296 zs
 k2:ζv 4294967296 ys
 p1:zs.length<=c∧c<=maxLen
 p2:ys.length<=c'∧c'<=maxLen
 o1:val 4294967296 zs%2=1
 o2:val 4294967296 ys%2=1
 g:(Int.gcd (val 4294967296 zs) (val 4294967296 ys):Int)=G
 n1:zs.length<=n
 n2:ys.length<=n
 bel:Below w w W
theorem FS.later {W':World} (h:FS w n G a c zs a' c' ys W) (hb:Below W W W'):FS w n G a c zs a' c' ys W':=
 ⟨h.r1.later hb,h.r2.later hb,h.k1,h.k2,h.p1,h.p2,h.o1,h.o2,h.g,h.n1,h.n2,h.bel.trans (hb.mono h.bel.size)⟩
theorem FS.swap (h:FS w n G a c zs a' c' ys W):FS w n G a' c' ys a c zs W:=
 ⟨h.r2,h.r1,h.k2,h.k1,h.p2,h.p1,h.o2,h.o1,by rw [Int.gcd_comm];exact h.g,h.n2,h.n1,h.bel⟩
theorem FS.step {a2:Option Addr} {c2:Nat} {fs:List Int} {t:Nat} (h:FS w n G a c zs a' c' ys W) (hf:val 4294967296 zs-val 4294967296 ys=2^t*q) (hq:q%2=1)
 (hv:val 4294967296 fs=q) (hk:ζv 4294967296 fs) (hp:fs.length<=c2∧c2<=maxLen) (hn:fs.length<=n) (hr:ζk .u32 W a2 fs):FS w n G a2 c2 fs a' c' ys W:=
 ⟨hr,h.r2,hk,h.k2,hp,h.p2,by rw [hv];exact hq,h.o2,by rw [hv,κW h.o2 hf];exact h.g,hn,h.n2,h.bel⟩
def τE (w:World) (n:Nat) (G:Int) (e:Ending) (w':World):Prop:=
 ∃(a:Option Addr) (c:Nat) (fs:List Int),e= .returned (.slice a fs c)∧fs.length<=c∧c<=maxLen∧ζv 4294967296 fs∧val 4294967296 fs=G∧fs.length<=n∧ζk .u32 w' a fs∧Below w w w'
theorem η8 (a a':Option Addr) (c c':Nat) (zs ys:List Int) (w:World) (n:Nat) (G:Int) (hn:n<=30000) (hT:Tab w) (hFS:FS w n G a c zs a' c' ys w):
 Calls prog 90 #[.slice a zs c,.slice a' ys c'] w fun e w'=>τE w n G e w':=by
 have HTT:Hid (∀w',Below w w w'->Tab w'):=fun w' hb=>hT.later hb
 have HF:=Hid.mk hFS
 clear hT hFS
 go_enter func90,ntmps90
 go_wp2_with fail
 go_loopg [0,1] (val 4294967296 zs+val 4294967296 ys).toNat (fun k sm so wr=> ∃(a:Option Addr) (c:Nat) (zs:List Int) (a':Option Addr) (c':Nat) (ys:List Int),sm= .slice a zs c∧so= .slice a' ys c'∧k=(val 4294967296 zs+val 4294967296 ys).toNat∧Hid (FS w n G a c zs a' c' ys wr))
 case atStart=>exact ⟨_,_,_,_,_,_,rfl,rfl,rfl,HF.out⟩
 case round=>
  clear HF a a' c c' zs ys
  obtain ⟨a,c,zs,a',c',ys,rfl,rfl,rfl,HW0⟩:=hrel
  go_wp2_with fail
  refine (ψd a a' c c' zs ys _ (by have:=HW0.out.n1;omega) (by have:=HW0.out.n2;omega) HW0.out.r1 HW0.out.r2).mono ?_
  rintro e w1 ⟨rfl,hb1⟩
  have HW:Hid (FS w n G a c zs a' c' ys w1):=HW0.out.later hb1
  have hcm:=ψR (B:=4294967296) (by decide) HW0.out.k1 HW0.out.k2
  clear hb1 HW0
  rcases sgn_cases (val 4294967296 zs-val 4294967296 ys) with ⟨hd,hs⟩| ⟨hd,hs⟩| ⟨hd,hs⟩
  ·rw [hcm,hs]
   clear hcm hs
   have hlt:val 4294967296 zs<val 4294967296 ys:=by omega
   have hle:zs.length<=ys.length:=ξ3 (by decide) HW.out.swap.k2 HW.out.swap.k1 (by omega)
   go_wp2_with fail
   refine (ψe a' a c' c ys zs _ (by have:=HW.out.swap.n1;omega) HW.out.swap.r1 HW.out.swap.r2 HW.out.swap.k1.1 HW.out.swap.k2.1 hle (by omega)).mono ?_
   rintro e w2 ⟨a2,c2,fs,rfl,f1,f2,f3,f4,f5,f6,hb2⟩
   have HW2:Hid (FS w n G a' c' ys a c zs w2):=HW.out.swap.later hb2
   have HFs:Hid (fs.length<=c2∧c2<=maxLen∧ζv 4294967296 fs∧val 4294967296 fs=val 4294967296 ys-val 4294967296 zs∧fs.length<=ys.length∧ζk .u32 w2 a2 fs):=⟨f1,f2,f3,f4,f5,f6.row⟩
   clear f1 f2 f3 f4 f5 f6 hb2 HW
   have hne:fs≠[]:=by
    intro e
    have h4:=HFs.out.2.2.2.1
    rw [e] at h4
    simp [val] at h4
    omega
   go_wp2_with fail
   refine (φE a2 c2 fs _ (by have:=HFs.out.2.2.2.2.1;have:=HW2.out.n1;omega) HFs.out.1 HFs.out.2.1 HFs.out.2.2.2.2.2 HFs.out.2.2.1 hne (HTT.out _ HW2.out.bel)).mono ?_
   rintro e w3 ⟨t,q,hq,hq1,a3,c3,hs,rfl,g1,g2,g3,g4,g5,g6,hb3⟩
   have HW3:Hid (FS w n G a3 c3 hs a c zs w3):=(HW2.out.later hb3).step (by rw [<-HFs.out.2.2.2.1];exact hq) hq1 g4 g3 ⟨g1,g2⟩ (by have:=HFs.out.2.2.2.2.1;have:=HW2.out.n1;omega) g6.row
   have HM:Hid ((val 4294967296 hs+val 4294967296 zs).toNat<(val 4294967296 zs+val 4294967296 ys).toNat):=by
    unfold Hid
    have e1:=HFs.out.2.2.2.1
    rw [hq] at e1
    have hp2:(1:Int)<=2^t:=Int.pow_pos (by decide)
    have hq0:0<=val 4294967296 hs:=ζo (by decide) g3.1
    have hy1:=ζo (B:=4294967296) (by decide) HW2.out.k2.1
    have hy2:=HW2.out.o2
    rw [g4] at hq0⊢
    have:q<=2^t*q:=by
     have:=Int.mul_le_mul_of_nonneg_right hp2 hq0
     omega
    omega
   clear hb3 HW2 HFs hq hq1 g1 g2 g3 g4 g5 g6
   go_wp2_with fail
   go_roundg (val 4294967296 hs+val 4294967296 zs).toNat
   case measure=>exact HM.out
   case rel=>exact ⟨_,_,_,_,_,_,rfl,rfl,rfl,HW3.out⟩
  ·rw [hcm,hs]
   have HO:Hid (τE w n G (.returned (.slice a zs c)) w1):=by
    have hg:=HW.out.g
    have hv0:=ζo (B:=4294967296) (by decide) HW.out.k1.1
    refine ⟨a,c,zs,rfl,HW.out.p1.1,HW.out.p1.2,HW.out.k1,?_,HW.out.n1,HW.out.r1,HW.out.bel⟩
    rw [<-hg,show val 4294967296 ys=val 4294967296 zs by omega,Int.gcd_self]
    omega
   clear hcm hs hd HW
   go_wp2
   go_ret
   exact HO.out
  ·rw [hcm,hs]
   clear hcm hs
   have hlt:val 4294967296 ys<val 4294967296 zs:=by omega
   have hle:ys.length<=zs.length:=ξ3 (by decide) HW.out.k2 HW.out.k1 (by omega)
   go_wp2_with fail
   refine (ψe a a' c c' zs ys _ (by have:=HW.out.n1;omega) HW.out.r1 HW.out.r2 HW.out.k1.1 HW.out.k2.1 hle (by omega)).mono ?_
   rintro e w2 ⟨a2,c2,fs,rfl,f1,f2,f3,f4,f5,f6,hb2⟩
   have HW2:Hid (FS w n G a c zs a' c' ys w2):=HW.out.later hb2
   have HFs:Hid (fs.length<=c2∧c2<=maxLen∧ζv 4294967296 fs∧val 4294967296 fs=val 4294967296 zs-val 4294967296 ys∧fs.length<=zs.length∧ζk .u32 w2 a2 fs):=⟨f1,f2,f3,f4,f5,f6.row⟩
   clear f1 f2 f3 f4 f5 f6 hb2 HW
   have hne:fs≠[]:=by
    intro e
    have h4:=HFs.out.2.2.2.1
    rw [e] at h4
    simp [val] at h4
    omega
   go_wp2_with fail
   refine (φE a2 c2 fs _ (by have:=HFs.out.2.2.2.2.1;have:=HW2.out.n1;omega) HFs.out.1 HFs.out.2.1 HFs.out.2.2.2.2.2 HFs.out.2.2.1 hne (HTT.out _ HW2.out.bel)).mono ?_
   rintro e w3 ⟨t,q,hq,hq1,a3,c3,hs,rfl,g1,g2,g3,g4,g5,g6,hb3⟩
   have HW3:Hid (FS w n G a3 c3 hs a' c' ys w3):=(HW2.out.later hb3).step (by rw [<-HFs.out.2.2.2.1];exact hq) hq1 g4 g3 ⟨g1,g2⟩ (by have:=HFs.out.2.2.2.2.1;have:=HW2.out.n1;omega) g6.row
   have HM:Hid ((val 4294967296 hs+val 4294967296 ys).toNat<(val 4294967296 zs+val 4294967296 ys).toNat):=by
    unfold Hid
    have e1:=HFs.out.2.2.2.1
    rw [hq] at e1
    have hp2:(1:Int)<=2^t:=Int.pow_pos (by decide)
    have hq0:0<=val 4294967296 hs:=ζo (by decide) g3.1
    have hy1:=ζo (B:=4294967296) (by decide) HW2.out.k2.1
    have hy2:=HW2.out.o2
    rw [g4] at hq0⊢
    have:q<=2^t*q:=by
     have:=Int.mul_le_mul_of_nonneg_right hp2 hq0
     omega
    omega
   clear hb3 HW2 HFs hq hq1 g1 g2 g3 g4 g5 g6
   go_wp2_with fail
   go_roundg (val 4294967296 hs+val 4294967296 ys).toNat
   case measure=>exact HM.out
   case rel=>exact ⟨_,_,_,_,_,_,rfl,rfl,rfl,HW3.out⟩
end Go.Proofs.YtfieffpobgcpmaaGreatDoor
