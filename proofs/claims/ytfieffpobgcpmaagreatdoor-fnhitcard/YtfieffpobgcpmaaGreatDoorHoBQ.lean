import Derived.Test.YtfieffpobgcpmaaGreatDoorHdBHdCHoASpecFnSpecI
import Derived.Test.YtfieffpobgcpmaaGreatDoorMdBMdERkB
set_option maxRecDepth 100000
set_option maxHeartbeats 32000000
namespace Go.Proofs.YtfieffpobgcpmaaGreatDoor
open Go.RowKit
structure HoS (w:World) (T U S:List Value) (W:World):Prop where
 t:Cs W w.heap.size T
 u:Cs W (w.heap.size+1) U
 r:Cs W (w.heap.size+1+1) S
 bel:Below w.heap.size w W
theorem HoS.later {w:World} {T U S:List Value} {W W':World} (h:HoS w T U S W) (hb:Below W.heap.size W W'):HoS w T U S W':=
 ⟨h.t.later hb,h.u.later hb,h.r.later hb,h.bel.trans (hb.mono h.bel.size)⟩
theorem HoS.start (w:World) (T U S:Array Value) (x y z:TypeId):HoS w T.toList U.toList S.toList (((w.alloc (.cells T x)).alloc (.cells U y)).alloc (.cells S z)):=by
 have h1:=Cs.new (w.alloc (.cells T x)) U y
 have h2:=Cs.new ((w.alloc (.cells T x)).alloc (.cells U y)) S z
 have e1:(w.alloc (.cells T x)).heap.size=w.heap.size+1:=by simp
 have e2:((w.alloc (.cells T x)).alloc (.cells U y)).heap.size=w.heap.size+1+1:=by simp
 rw [e1] at h1
 rw [e2] at h2
 exact ⟨((Cs.new w T x).later (bel0 _ _)).later (bel0 _ _),h1.later (bel0 _ _),h2,((bel0 _ _).trans ((bel0 _ _).mono (by simp))).trans ((bel0 _ _).mono (by simp<;>omega))⟩
def HitO (w:World) (ok:Bool) (P Q:Int→Int→Prop) (o:Ending) (w':World):Prop:=
 Below w.heap.size w w'∧((ok=false∧o= .returned (.tuple #[.int .i64 0,.int .i64 1]))∨(ok=true∧ ∃R S:Int×Int×Int×Int,Met P R∧Met Q S∧o= .returned (.tuple #[.int .i64 (sgn (R.1*S.2.1-S.1*R.2.1)),.int .i64 0])))
theorem rowO_of (w:World) (zs:List Int) (t:TypeId):RowAt .u32 (w.alloc (.cells (zs.map (Value.int .u32)).toArray t)) (some ⟨w.heap.size,0,none⟩) zs:=by
 refine .inr ⟨w.heap.size,0,rfl,by simp,?_⟩
 intro j hj
 have h:=(Cs.new w (zs.map (Value.int .u32)).toArray t).at j (u:= .int .u32 (zs.getD j 0)) (by simp [hj])
 simpa using h
theorem from_run (x0 x1 x2 x3 x4 x5 x6 x7:Value) (w:World):(Instr.field 83 (.agg #[x0,x1,x2,x3,x4,x5,x6,x7]) 0).run Tryz.prog w= .ok (.agg #[x0,x1,x2,x3]) w:=by
 unfold Instr.field
 simp [go_sem,asAgg]
theorem ok_tri2 {t0 t1 t2 t3 t4 t5 t6 t7 t8 u0 u1 u2 u3 u4 u5 u6 u7 u8:Int}:(List.range 2).all (triAt [t0,t1,t2,t3,t4,t5,t6,t7,t8,u0,u1,u2,u3,u4,u5,u6,u7,u8])=((pointB t0 t1 t2 && pointB t3 t4 t5 && pointB t6 t7 t8) && (pointB u0 u1 u2 && pointB u3 u4 u5 && pointB u6 u7 u8)):=by
 simp [triAt,List.range,List.range.loop]
theorem hitO_all (t0 t1 t2 t3 t4 t5 t6 t7 t8 u0 u1 u2 u3 u4 u5 u6 u7 u8 s0 s1 s2 s3 s4 s5:Int) (w:World) (hT:Tab w) (ht:U32 [t0,t1,t2,t3,t4,t5,t6,t7,t8,u0,u1,u2,u3,u4,u5,u6,u7,u8]) (hs:U32 [s0,s1,s2,s3,s4,s5]) (ok:Bool) (hok:ok=((pointB t0 t1 t2 && pointB t3 t4 t5 && pointB t6 t7 t8) && (pointB u0 u1 u2 && pointB u3 u4 u5 && pointB u6 u7 u8) && (pointB s0 s1 s2 && pointB s3 s4 s5 && !(noWayB s3 s4 s5)))):
 Calls Tryz.prog 16 #[.agg #[.int .u32 t0,.int .u32 t1,.int .u32 t2,.int .u32 t3,.int .u32 t4,.int .u32 t5,.int .u32 t6,.int .u32 t7,.int .u32 t8],.agg #[.int .u32 u0,.int .u32 u1,.int .u32 u2,.int .u32 u3,.int .u32 u4,.int .u32 u5,.int .u32 u6,.int .u32 u7,.int .u32 u8],.agg #[.int .u32 s0,.int .u32 s1,.int .u32 s2,.int .u32 s3,.int .u32 s4,.int .u32 s5]] w fun o w'=>HitO w ok (Meets (pv t0 t1 t2) (pv t3 t4 t5) (pv t6 t7 t8) (pv s0 s1 s2) (pv s3 s4 s5)) (Meets (pv u0 u1 u2) (pv u3 u4 u5) (pv u6 u7 u8) (pv s0 s1 s2) (pv s3 s4 s5)) o w':=by
 have HU:Hid (U32 [t0,t1,t2,t3,t4,t5,t6,t7,t8,u0,u1,u2,u3,u4,u5,u6,u7,u8]):=ht
 have HR:Hid (U32 [s0,s1,s2,s3,s4,s5]):=hs
 have HT:Hid (∀w',Below w.heap.size w w'→Tab w'):=fun w' hb=>hT.later hb
 have HD0:Hid (HoS w [.int .u32 t0,.int .u32 t1,.int .u32 t2,.int .u32 t3,.int .u32 t4,.int .u32 t5,.int .u32 t6,.int .u32 t7,.int .u32 t8] [.int .u32 u0,.int .u32 u1,.int .u32 u2,.int .u32 u3,.int .u32 u4,.int .u32 u5,.int .u32 u6,.int .u32 u7,.int .u32 u8] [.int .u32 s0,.int .u32 s1,.int .u32 s2,.int .u32 s3,.int .u32 s4,.int .u32 s5] (((w.alloc (.cells #[.int .u32 t0,.int .u32 t1,.int .u32 t2,.int .u32 t3,.int .u32 t4,.int .u32 t5,.int .u32 t6,.int .u32 t7,.int .u32 t8] 36)).alloc (.cells #[.int .u32 u0,.int .u32 u1,.int .u32 u2,.int .u32 u3,.int .u32 u4,.int .u32 u5,.int .u32 u6,.int .u32 u7,.int .u32 u8] 36)).alloc (.cells #[.int .u32 s0,.int .u32 s1,.int .u32 s2,.int .u32 s3,.int .u32 s4,.int .u32 s5] 39))):=HoS.start w _ _ _ _ _ _
 have HO:Hid (ok=((List.range 2).all (triAt [t0,t1,t2,t3,t4,t5,t6,t7,t8,u0,u1,u2,u3,u4,u5,u6,u7,u8]) && (pointB s0 s1 s2 && pointB s3 s4 s5 && !(noWayB s3 s4 s5)))):=by unfold Hid;rw [ok_tri2,hok]
 have HC:Hid ((List.range 2).all (triAt [t0,t1,t2,t3,t4,t5,t6,t7,t8,u0,u1,u2,u3,u4,u5,u6,u7,u8])=true→(Cor t0∧Cor t1∧Cor t2∧Cor t3∧Cor t4∧Cor t5∧Cor t6∧Cor t7∧Cor t8)∧Cor u0∧Cor u1∧Cor u2∧Cor u3∧Cor u4∧Cor u5∧Cor u6∧Cor u7∧Cor u8):=by
  unfold Hid;rw [ok_tri2];simp only [pointB,Bool.and_eq_true];rintro ⟨⟨⟨⟨⟨q0,q1⟩,q2⟩,⟨q3,q4⟩,q5⟩,⟨q6,q7⟩,q8⟩,⟨⟨⟨p0,p1⟩,p2⟩,⟨p3,p4⟩,p5⟩,⟨p6,p7⟩,p8⟩
  exact ⟨⟨⟨(ht t0 (by simp)).1,(ht t0 (by simp)).2,q0⟩,⟨(ht t1 (by simp)).1,(ht t1 (by simp)).2,q1⟩,⟨(ht t2 (by simp)).1,(ht t2 (by simp)).2,q2⟩,⟨(ht t3 (by simp)).1,(ht t3 (by simp)).2,q3⟩,⟨(ht t4 (by simp)).1,(ht t4 (by simp)).2,q4⟩,⟨(ht t5 (by simp)).1,(ht t5 (by simp)).2,q5⟩,⟨(ht t6 (by simp)).1,(ht t6 (by simp)).2,q6⟩,⟨(ht t7 (by simp)).1,(ht t7 (by simp)).2,q7⟩,⟨(ht t8 (by simp)).1,(ht t8 (by simp)).2,q8⟩⟩,⟨(ht u0 (by simp)).1,(ht u0 (by simp)).2,p0⟩,⟨(ht u1 (by simp)).1,(ht u1 (by simp)).2,p1⟩,⟨(ht u2 (by simp)).1,(ht u2 (by simp)).2,p2⟩,⟨(ht u3 (by simp)).1,(ht u3 (by simp)).2,p3⟩,⟨(ht u4 (by simp)).1,(ht u4 (by simp)).2,p4⟩,⟨(ht u5 (by simp)).1,(ht u5 (by simp)).2,p5⟩,⟨(ht u6 (by simp)).1,(ht u6 (by simp)).2,p6⟩,⟨(ht u7 (by simp)).1,(ht u7 (by simp)).2,p7⟩,⟨(ht u8 (by simp)).1,(ht u8 (by simp)).2,p8⟩⟩
 have HE:Hid ((pointB s0 s1 s2 && pointB s3 s4 s5 && !(noWayB s3 s4 s5))=true→Cor s0∧Cor s1∧Cor s2∧Cor s3∧Cor s4∧Cor s5):=by
  unfold Hid;simp only [pointB,Bool.and_eq_true];rintro ⟨⟨⟨⟨r0,r1⟩,r2⟩,⟨r3,r4⟩,r5⟩,_⟩
  exact ⟨⟨(hs s0 (by simp)).1,(hs s0 (by simp)).2,r0⟩,⟨(hs s1 (by simp)).1,(hs s1 (by simp)).2,r1⟩,⟨(hs s2 (by simp)).1,(hs s2 (by simp)).2,r2⟩,⟨(hs s3 (by simp)).1,(hs s3 (by simp)).2,r3⟩,⟨(hs s4 (by simp)).1,(hs s4 (by simp)).2,r4⟩,⟨(hs s5 (by simp)).1,(hs s5 (by simp)).2,r5⟩⟩
 clear hT ht hs hok
 go_enter Tryz.func16,Tryz.ntmps16
 go_wp2_with fail
 refine (trisFinite_any _ 2 2 [t0,t1,t2,t3,t4,t5,t6,t7,t8,u0,u1,u2,u3,u4,u5,u6,u7,u8] _ (by omega) rfl HU.out (by have:=rowO_of (((w.alloc (.cells #[.int .u32 t0,.int .u32 t1,.int .u32 t2,.int .u32 t3,.int .u32 t4,.int .u32 t5,.int .u32 t6,.int .u32 t7,.int .u32 t8] 36)).alloc (.cells #[.int .u32 u0,.int .u32 u1,.int .u32 u2,.int .u32 u3,.int .u32 u4,.int .u32 u5,.int .u32 u6,.int .u32 u7,.int .u32 u8] 36)).alloc (.cells #[.int .u32 s0,.int .u32 s1,.int .u32 s2,.int .u32 s3,.int .u32 s4,.int .u32 s5] 39)) [t0,t1,t2,t3,t4,t5,t6,t7,t8,u0,u1,u2,u3,u4,u5,u6,u7,u8] 36;simpa using this)).mono ?_
 rintro o w1 ⟨rfl,hb1⟩
 have HD1:Hid (HoS w [.int .u32 t0,.int .u32 t1,.int .u32 t2,.int .u32 t3,.int .u32 t4,.int .u32 t5,.int .u32 t6,.int .u32 t7,.int .u32 t8] [.int .u32 u0,.int .u32 u1,.int .u32 u2,.int .u32 u3,.int .u32 u4,.int .u32 u5,.int .u32 u6,.int .u32 u7,.int .u32 u8] [.int .u32 s0,.int .u32 s1,.int .u32 s2,.int .u32 s3,.int .u32 s4,.int .u32 s5] w1):=(HD0.out.later (bel0 _ _)).later hb1
 clear hb1 HD0
 cases hA:(List.range 2).all (triAt [t0,t1,t2,t3,t4,t5,t6,t7,t8,u0,u1,u2,u3,u4,u5,u6,u7,u8])
 ·rw [hA] at HO
  clear HC HE hA
  go_wp2
  refine bodyPost_ret (v:= .tuple #[.int .i64 0,.int .i64 1]) (by simp [results,Tryz.results16,go_sem]) rfl ?_
  exact ⟨HD1.out.bel,.inl ⟨HO.out,rfl⟩⟩
 obtain ⟨⟨q0,q1,q2,q3,q4,q5,q6,q7,q8⟩,p0,p1,p2,p3,p4,p5,p6,p7,p8⟩:=HC.out hA
 rw [hA] at HO
 clear HC hA
 have x0:=HD1.out.r.at 0 rfl
 have x1:=HD1.out.r.at 1 rfl
 have x2:=HD1.out.r.at 2 rfl
 have x3:=HD1.out.r.at 3 rfl
 have x4:=HD1.out.r.at 4 rfl
 have x5:=HD1.out.r.at 5 rfl
 go_wp2_with fail
 refine (proper_any s0 s1 s2 s3 s4 s5 _ (HR.out s0 (by simp)).1 (HR.out s0 (by simp)).2 (HR.out s1 (by simp)).1 (HR.out s1 (by simp)).2 (HR.out s2 (by simp)).1 (HR.out s2 (by simp)).2 (HR.out s3 (by simp)).1 (HR.out s3 (by simp)).2 (HR.out s4 (by simp)).1 (HR.out s4 (by simp)).2 (HR.out s5 (by simp)).1 (HR.out s5 (by simp)).2).mono ?_
 rintro o w2 ⟨rfl,hb2⟩
 have HD2:Hid (HoS w [.int .u32 t0,.int .u32 t1,.int .u32 t2,.int .u32 t3,.int .u32 t4,.int .u32 t5,.int .u32 t6,.int .u32 t7,.int .u32 t8] [.int .u32 u0,.int .u32 u1,.int .u32 u2,.int .u32 u3,.int .u32 u4,.int .u32 u5,.int .u32 u6,.int .u32 u7,.int .u32 u8] [.int .u32 s0,.int .u32 s1,.int .u32 s2,.int .u32 s3,.int .u32 s4,.int .u32 s5] w2):=HD1.out.later hb2
 clear hb2 HD1 x0 x1 x2 x3 x4 x5
 cases hA:(pointB s0 s1 s2 && pointB s3 s4 s5 && !(noWayB s3 s4 s5))
 ·rw [hA] at HO
  clear HE hA
  go_wp2
  refine bodyPost_ret (v:= .tuple #[.int .i64 0,.int .i64 1]) (by simp [results,Tryz.results16,go_sem]) rfl ?_
  exact ⟨HD2.out.bel,.inl ⟨HO.out,rfl⟩⟩
 obtain ⟨r0,r1,r2,r3,r4,r5⟩:=HE.out hA
 rw [hA] at HO
 clear HE hA
 have TT:=HT.out _ HD2.out.bel
 have x0:=HD2.out.r.at 0 rfl
 have x1:=HD2.out.r.at 1 rfl
 have x2:=HD2.out.r.at 2 rfl
 have x3:=HD2.out.r.at 3 rfl
 have x4:=HD2.out.r.at 4 rfl
 have x5:=HD2.out.r.at 5 rfl
 go_wp2_with fail
 refine (courseOf_any s0 s1 s2 s3 s4 s5 _ TT r0 r1 r2 r3 r4 r5).mono ?_
 rintro o w3 ⟨v3,rfl,hc3,hb3⟩
 have HC3:=Hid.mk hc3
 obtain ⟨l0,l1,l2,l3,l4,l5,l6,l7,l8,l9,l10,l11,l12,l13,l14,l15,l16,l17,l18,l19,l20,l21,l22,l23,l24,l25,l26,l27,rfl,hl,hB⟩:=hc3
 obtain ⟨f0,f1,f2,f3,f4,f5,f6,f7,f8,f9,f10,f11,f12,f13,e1,_⟩:=hl
 obtain ⟨g0,a0,c0,z0,g1,a1,c1,z1,g2,a2,c2,z2,g3,a3,c3,z3,g4,a4,c4,z4,g5,a5,c5,z5,g6,a6,c6,z6,e2,_⟩:=hB
 simp at e1 e2
 obtain ⟨rfl,rfl,rfl,rfl,rfl,rfl,rfl,rfl,rfl,rfl,rfl,rfl,rfl,rfl⟩:=e1
 obtain ⟨rfl,rfl,rfl,rfl,rfl,rfl,rfl,rfl,rfl,rfl,rfl,rfl,rfl,rfl⟩:=e2
 have HD3:Hid (HoS w [.int .u32 t0,.int .u32 t1,.int .u32 t2,.int .u32 t3,.int .u32 t4,.int .u32 t5,.int .u32 t6,.int .u32 t7,.int .u32 t8] [.int .u32 u0,.int .u32 u1,.int .u32 u2,.int .u32 u3,.int .u32 u4,.int .u32 u5,.int .u32 u6,.int .u32 u7,.int .u32 u8] [.int .u32 s0,.int .u32 s1,.int .u32 s2,.int .u32 s3,.int .u32 s4,.int .u32 s5] w3):=HD2.out.later hb3
 have HN:Hid (∃w4,World.setCells (w3.alloc (.cells #[.float .f64 0,.float .f64 0,.float .f64 0,.float .f64 0,.float .f64 0,.float .f64 0,.float .f64 0,.float .f64 0,.float .f64 0,.float .f64 0,.float .f64 0,.float .f64 0,.float .f64 0,.float .f64 0,.bool false,.slice none 0 0,.bool false,.slice none 0 0,.bool false,.slice none 0 0,.bool false,.slice none 0 0,.bool false,.slice none 0 0,.bool false,.slice none 0 0,.bool false,.slice none 0 0] 96)) w3.heap.size 0 (Array.toList #[.float .f64 f0,.float .f64 f1,.float .f64 f2,.float .f64 f3,.float .f64 f4,.float .f64 f5,.float .f64 f6,.float .f64 f7,.float .f64 f8,.float .f64 f9,.float .f64 f10,.float .f64 f11,.float .f64 f12,.float .f64 f13,.bool g0,.slice a0 z0.length c0,.bool g1,.slice a1 z1.length c1,.bool g2,.slice a2 z2.length c2,.bool g3,.slice a3 z3.length c3,.bool g4,.slice a4 z4.length c4,.bool g5,.slice a5 z5.length c5,.bool g6,.slice a6 z6.length c6])=w4∧Below w3.heap.size w3 w4∧Cs w4 w3.heap.size [.float .f64 f0,.float .f64 f1,.float .f64 f2,.float .f64 f3,.float .f64 f4,.float .f64 f5,.float .f64 f6,.float .f64 f7,.float .f64 f8,.float .f64 f9,.float .f64 f10,.float .f64 f11,.float .f64 f12,.float .f64 f13,.bool g0,.slice a0 z0.length c0,.bool g1,.slice a1 z1.length c1,.bool g2,.slice a2 z2.length c2,.bool g3,.slice a3 z3.length c3,.bool g4,.slice a4 z4.length c4,.bool g5,.slice a5 z5.length c5,.bool g6,.slice a6 z6.length c6]):=by
  refine ⟨_,rfl,?_⟩
  rw [show World.setCells (w3.alloc (.cells #[.float .f64 0,.float .f64 0,.float .f64 0,.float .f64 0,.float .f64 0,.float .f64 0,.float .f64 0,.float .f64 0,.float .f64 0,.float .f64 0,.float .f64 0,.float .f64 0,.float .f64 0,.float .f64 0,.bool false,.slice none 0 0,.bool false,.slice none 0 0,.bool false,.slice none 0 0,.bool false,.slice none 0 0,.bool false,.slice none 0 0,.bool false,.slice none 0 0,.bool false,.slice none 0 0] 96)) w3.heap.size 0 (Array.toList #[.float .f64 f0,.float .f64 f1,.float .f64 f2,.float .f64 f3,.float .f64 f4,.float .f64 f5,.float .f64 f6,.float .f64 f7,.float .f64 f8,.float .f64 f9,.float .f64 f10,.float .f64 f11,.float .f64 f12,.float .f64 f13,.bool g0,.slice a0 z0.length c0,.bool g1,.slice a1 z1.length c1,.bool g2,.slice a2 z2.length c2,.bool g3,.slice a3 z3.length c3,.bool g4,.slice a4 z4.length c4,.bool g5,.slice a5 z5.length c5,.bool g6,.slice a6 z6.length c6])=setAll (w3.alloc (.cells #[.float .f64 0,.float .f64 0,.float .f64 0,.float .f64 0,.float .f64 0,.float .f64 0,.float .f64 0,.float .f64 0,.float .f64 0,.float .f64 0,.float .f64 0,.float .f64 0,.float .f64 0,.float .f64 0,.bool false,.slice none 0 0,.bool false,.slice none 0 0,.bool false,.slice none 0 0,.bool false,.slice none 0 0,.bool false,.slice none 0 0,.bool false,.slice none 0 0,.bool false,.slice none 0 0] 96)) w3.heap.size 0 [.float .f64 f0,.float .f64 f1,.float .f64 f2,.float .f64 f3,.float .f64 f4,.float .f64 f5,.float .f64 f6,.float .f64 f7,.float .f64 f8,.float .f64 f9,.float .f64 f10,.float .f64 f11,.float .f64 f12,.float .f64 f13,.bool g0,.slice a0 z0.length c0,.bool g1,.slice a1 z1.length c1,.bool g2,.slice a2 z2.length c2,.bool g3,.slice a3 z3.length c3,.bool g4,.slice a4 z4.length c4,.bool g5,.slice a5 z5.length c5,.bool g6,.slice a6 z6.length c6] from setCells_all _ _ _ _]
  exact ⟨below_setAll (Nat.le_refl _) [.float .f64 f0,.float .f64 f1,.float .f64 f2,.float .f64 f3,.float .f64 f4,.float .f64 f5,.float .f64 f6,.float .f64 f7,.float .f64 f8,.float .f64 f9,.float .f64 f10,.float .f64 f11,.float .f64 f12,.float .f64 f13,.bool g0,.slice a0 z0.length c0,.bool g1,.slice a1 z1.length c1,.bool g2,.slice a2 z2.length c2,.bool g3,.slice a3 z3.length c3,.bool g4,.slice a4 z4.length c4,.bool g5,.slice a5 z5.length c5,.bool g6,.slice a6 z6.length c6] _ 0 (bel0 _ _),(Cs.new w3 #[.float .f64 0,.float .f64 0,.float .f64 0,.float .f64 0,.float .f64 0,.float .f64 0,.float .f64 0,.float .f64 0,.float .f64 0,.float .f64 0,.float .f64 0,.float .f64 0,.float .f64 0,.float .f64 0,.bool false,.slice none 0 0,.bool false,.slice none 0 0,.bool false,.slice none 0 0,.bool false,.slice none 0 0,.bool false,.slice none 0 0,.bool false,.slice none 0 0,.bool false,.slice none 0 0] 96).whole [.float .f64 f0,.float .f64 f1,.float .f64 f2,.float .f64 f3,.float .f64 f4,.float .f64 f5,.float .f64 f6,.float .f64 f7,.float .f64 f8,.float .f64 f9,.float .f64 f10,.float .f64 f11,.float .f64 f12,.float .f64 f13,.bool g0,.slice a0 z0.length c0,.bool g1,.slice a1 z1.length c1,.bool g2,.slice a2 z2.length c2,.bool g3,.slice a3 z3.length c3,.bool g4,.slice a4 z4.length c4,.bool g5,.slice a5 z5.length c5,.bool g6,.slice a6 z6.length c6] rfl⟩
 have HZ:Hid (Cs (w3.alloc (.cells #[.float .f64 0,.float .f64 0,.float .f64 0,.float .f64 0,.float .f64 0,.float .f64 0,.float .f64 0,.float .f64 0,.float .f64 0,.float .f64 0,.float .f64 0,.float .f64 0,.float .f64 0,.float .f64 0,.bool false,.slice none 0 0,.bool false,.slice none 0 0,.bool false,.slice none 0 0,.bool false,.slice none 0 0,.bool false,.slice none 0 0,.bool false,.slice none 0 0,.bool false,.slice none 0 0] 96)) w3.heap.size [.float .f64 0,.float .f64 0,.float .f64 0,.float .f64 0,.float .f64 0,.float .f64 0,.float .f64 0,.float .f64 0,.float .f64 0,.float .f64 0,.float .f64 0,.float .f64 0,.float .f64 0,.float .f64 0,.bool false,.slice none 0 0,.bool false,.slice none 0 0,.bool false,.slice none 0 0,.bool false,.slice none 0 0,.bool false,.slice none 0 0,.bool false,.slice none 0 0,.bool false,.slice none 0 0]):=Cs.new _ _ _
 obtain ⟨w4,e4,b4,hq⟩:=HN.out
 have HE4:=Hid.mk e4
 have HD4:Hid (HoS w [.int .u32 t0,.int .u32 t1,.int .u32 t2,.int .u32 t3,.int .u32 t4,.int .u32 t5,.int .u32 t6,.int .u32 t7,.int .u32 t8] [.int .u32 u0,.int .u32 u1,.int .u32 u2,.int .u32 u3,.int .u32 u4,.int .u32 u5,.int .u32 u6,.int .u32 u7,.int .u32 u8] [.int .u32 s0,.int .u32 s1,.int .u32 s2,.int .u32 s3,.int .u32 s4,.int .u32 s5] w4):=HD3.out.later b4
 have HQ:Hid (Cs w4 w3.heap.size [.float .f64 f0,.float .f64 f1,.float .f64 f2,.float .f64 f3,.float .f64 f4,.float .f64 f5,.float .f64 f6,.float .f64 f7,.float .f64 f8,.float .f64 f9,.float .f64 f10,.float .f64 f11,.float .f64 f12,.float .f64 f13,.bool g0,.slice a0 z0.length c0,.bool g1,.slice a1 z1.length c1,.bool g2,.slice a2 z2.length c2,.bool g3,.slice a3 z3.length c3,.bool g4,.slice a4 z4.length c4,.bool g5,.slice a5 z5.length c5,.bool g6,.slice a6 z6.length c6]):=hq
 have HC:Hid (∀w',Below w4.heap.size w4 w'→CourseIs w' (.agg #[.float .f64 f0,.float .f64 f1,.float .f64 f2,.float .f64 f3,.float .f64 f4,.float .f64 f5,.float .f64 f6,.float .f64 f7,.float .f64 f8,.float .f64 f9,.float .f64 f10,.float .f64 f11,.float .f64 f12,.float .f64 f13,.bool g0,.slice a0 z0.length c0,.bool g1,.slice a1 z1.length c1,.bool g2,.slice a2 z2.length c2,.bool g3,.slice a3 z3.length c3,.bool g4,.slice a4 z4.length c4,.bool g5,.slice a5 z5.length c5,.bool g6,.slice a6 z6.length c6]) (pv s0 s1 s2) (pv s3 s4 s5)):=fun w' hb=>(HC3.out.later b4).later hb
 have HTT:Hid (∀w',Below w4.heap.size w4 w'→Tab w'):=fun w' hb=>HT.out w' (HD4.out.bel.trans (hb.mono HD4.out.bel.size))
 have HK:Hid (∀w',Below w4.heap.size w4 w'→Cs w' w.heap.size [.int .u32 t0,.int .u32 t1,.int .u32 t2,.int .u32 t3,.int .u32 t4,.int .u32 t5,.int .u32 t6,.int .u32 t7,.int .u32 t8]∧Cs w' (w.heap.size+1) [.int .u32 u0,.int .u32 u1,.int .u32 u2,.int .u32 u3,.int .u32 u4,.int .u32 u5,.int .u32 u6,.int .u32 u7,.int .u32 u8]∧Cs w' w3.heap.size [.float .f64 f0,.float .f64 f1,.float .f64 f2,.float .f64 f3,.float .f64 f4,.float .f64 f5,.float .f64 f6,.float .f64 f7,.float .f64 f8,.float .f64 f9,.float .f64 f10,.float .f64 f11,.float .f64 f12,.float .f64 f13,.bool g0,.slice a0 z0.length c0,.bool g1,.slice a1 z1.length c1,.bool g2,.slice a2 z2.length c2,.bool g3,.slice a3 z3.length c3,.bool g4,.slice a4 z4.length c4,.bool g5,.slice a5 z5.length c5,.bool g6,.slice a6 z6.length c6]):=fun w' hb=>⟨HD4.out.t.later hb,HD4.out.u.later hb,HQ.out.later hb⟩
 clear HD3 HN HC3 hb3 HD2 b4 e4 hq TT x0 x1 x2 x3 x4 x5
 go_wp2_with (refine wpList_store_mid rfl 96 (.tmp 8) (.tmp 20) rfl w3.heap.size 0 #[.float .f64 f0,.float .f64 f1,.float .f64 f2,.float .f64 f3,.float .f64 f4,.float .f64 f5,.float .f64 f6,.float .f64 f7,.float .f64 f8,.float .f64 f9,.float .f64 f10,.float .f64 f11,.float .f64 f12,.float .f64 f13,.bool g0,.slice a0 z0.length c0,.bool g1,.slice a1 z1.length c1,.bool g2,.slice a2 z2.length c2,.bool g3,.slice a3 z3.length c3,.bool g4,.slice a4 z4.length c4,.bool g5,.slice a5 z5.length c5,.bool g6,.slice a6 z6.length c6] rfl rfl (HZ.out.there 0 28 (by simp)) (by kernel_rfl) (all_oneCell_toArray (by simp [Value.oneCell'])) ?_;rw [HE4.out])
 refine AnyK.regionK HK 9 (by kernel_rfl) ?_
 obtain ⟨WD,hWD⟩: ∃V,V=w4.drew:=⟨_,rfl⟩
 rw [←hWD]
 have hBd:Below w4.heap.size w4 WD:=by rw [hWD];exact (Below.refl _ _).drew
 clear hWD
 have hS:=HK.out WD hBd
 refine AnyK.takeT (i:=0) (d:=21) rfl rfl (by kernel_rfl) (by kernel_rfl) (by kernel_rfl) (by kernel_rfl) rfl (fun _ _ _ h=>h) rfl (yieldsIf_load_mid rfl 96 (.tmp 8) rfl (w3.heap.size) 0 rfl [.float .f64 f0,.float .f64 f1,.float .f64 f2,.float .f64 f3,.float .f64 f4,.float .f64 f5,.float .f64 f6,.float .f64 f7,.float .f64 f8,.float .f64 f9,.float .f64 f10,.float .f64 f11,.float .f64 f12,.float .f64 f13,.bool g0,.slice a0 z0.length c0,.bool g1,.slice a1 z1.length c1,.bool g2,.slice a2 z2.length c2,.bool g3,.slice a3 z3.length c3,.bool g4,.slice a4 z4.length c4,.bool g5,.slice a5 z5.length c5,.bool g6,.slice a6 z6.length c6] _ (fun w' h=>(h.2.2).range 0 28) Tryz.underlying96 rfl (by kernel_rfl)) hS ?_
 simp only [sT,sS,sZ]
 refine AnyK.takeT (i:=1) (d:=22) rfl rfl (by kernel_rfl) (by kernel_rfl) (by kernel_rfl) (by kernel_rfl) rfl (fun _ _ _ h=>h) rfl (yieldsIf_load_mid rfl 36 (.tmp 3) rfl (w.heap.size) 0 rfl [.int .u32 t0,.int .u32 t1,.int .u32 t2,.int .u32 t3,.int .u32 t4,.int .u32 t5,.int .u32 t6,.int .u32 t7,.int .u32 t8] _ (fun w' h=>(h.1).range 0 9) Tryz.underlying36 rfl (by kernel_rfl)) hS ?_
 simp only [sT,sS,sZ]
 refine AnyK.takeT (i:=4) (d:=25) rfl rfl (by kernel_rfl) (by kernel_rfl) (by kernel_rfl) (by kernel_rfl) rfl (fun _ _ _ h=>h) rfl (yieldsIf_load_mid rfl 96 (.tmp 8) rfl (w3.heap.size) 0 rfl [.float .f64 f0,.float .f64 f1,.float .f64 f2,.float .f64 f3,.float .f64 f4,.float .f64 f5,.float .f64 f6,.float .f64 f7,.float .f64 f8,.float .f64 f9,.float .f64 f10,.float .f64 f11,.float .f64 f12,.float .f64 f13,.bool g0,.slice a0 z0.length c0,.bool g1,.slice a1 z1.length c1,.bool g2,.slice a2 z2.length c2,.bool g3,.slice a3 z3.length c3,.bool g4,.slice a4 z4.length c4,.bool g5,.slice a5 z5.length c5,.bool g6,.slice a6 z6.length c6] _ (fun w' h=>(h.2.2).range 0 28) Tryz.underlying96 rfl (by kernel_rfl)) hS ?_
 simp only [sT,sS,sZ]
 refine AnyK.takeT (i:=5) (d:=26) rfl rfl (by kernel_rfl) (by kernel_rfl) (by kernel_rfl) (by kernel_rfl) rfl (fun _ _ _ h=>h) rfl (yieldsIf_load_mid rfl 36 (.tmp 4) rfl (w.heap.size+1) 0 rfl [.int .u32 u0,.int .u32 u1,.int .u32 u2,.int .u32 u3,.int .u32 u4,.int .u32 u5,.int .u32 u6,.int .u32 u7,.int .u32 u8] _ (fun w' h=>(h.2.1).range 0 9) Tryz.underlying36 rfl (by kernel_rfl)) hS ?_
 simp only [sT,sS,sZ]
 refine AnyK.one (i:=2) (by kernel_rfl) rfl rfl ?_
 intro K hK
 have HKK:Hid _:=hK
 clear hK
 go_wp2_with fail
 refine (withinC_any (.agg #[.float .f64 f0,.float .f64 f1,.float .f64 f2,.float .f64 f3,.float .f64 f4,.float .f64 f5,.float .f64 f6,.float .f64 f7,.float .f64 f8,.float .f64 f9,.float .f64 f10,.float .f64 f11,.float .f64 f12,.float .f64 f13,.bool g0,.slice a0 z0.length c0,.bool g1,.slice a1 z1.length c1,.bool g2,.slice a2 z2.length c2,.bool g3,.slice a3 z3.length c3,.bool g4,.slice a4 z4.length c4,.bool g5,.slice a5 z5.length c5,.bool g6,.slice a6 z6.length c6]) (pv s0 s1 s2) (pv s3 s4 s5) t0 t1 t2 t3 t4 t5 t6 t7 t8 _ (HTT.out _ hBd) (HC.out _ hBd) q0 q1 q2 q3 q4 q5 q6 q7 q8).mono ?_
 rintro o w5 ⟨R,hMt,vt,rfl,hvt,hb1⟩
 have HMt:Hid (Met (Meets (pv t0 t1 t2) (pv t3 t4 t5) (pv t6 t7 t8) (pv s0 s1 s2) (pv s3 s4 s5)) R):=hMt
 obtain ⟨gt1,at1,ct1,zt1,gt2,at2,ct2,zt2,gt3,at3,ct3,zt3,gt4,at4,ct4,zt4,rfl,hvt1,hvt2,_,_⟩:=hvt
 have HFt:Hid (FracIs w5 (.agg #[.bool gt1,.slice at1 zt1.length ct1,.bool gt2,.slice at2 zt2.length ct2]) 1120 R.1 R.2.1):=⟨gt1,at1,ct1,zt1,gt2,at2,ct2,zt2,rfl,hvt1,hvt2⟩
 clear hMt hvt1 hvt2
 have hB1:Below w4.heap.size w4 w5:=hBd.trans (hb1.mono hBd.size)
 clear hS
 refine HKK.out _ _ (fun _=>HK.out _ hB1) ?_
 have hS:=HK.out _ hB1
 clear HKK K
 (try simp only [Act.put])
 refine AnyK.takeT (i:=3) (d:=24) (v:= .agg #[.bool gt1,.slice at1 zt1.length ct1,.bool gt2,.slice at2 zt2.length ct2]) rfl rfl (by kernel_rfl) (by kernel_rfl) (by kernel_rfl) (by kernel_rfl) rfl (fun _ _ _ h=>h) rfl (Or.inl ⟨rfl,fun w' _=>by have hfr:=from_run;go_simp⟩) hS ?_
 simp only [sT,sS,sZ]
 refine AnyK.one (i:=6) (by kernel_rfl) rfl rfl ?_
 intro K hK
 have HKK:Hid _:=hK
 clear hK
 go_wp2_with fail
 refine (withinC_any (.agg #[.float .f64 f0,.float .f64 f1,.float .f64 f2,.float .f64 f3,.float .f64 f4,.float .f64 f5,.float .f64 f6,.float .f64 f7,.float .f64 f8,.float .f64 f9,.float .f64 f10,.float .f64 f11,.float .f64 f12,.float .f64 f13,.bool g0,.slice a0 z0.length c0,.bool g1,.slice a1 z1.length c1,.bool g2,.slice a2 z2.length c2,.bool g3,.slice a3 z3.length c3,.bool g4,.slice a4 z4.length c4,.bool g5,.slice a5 z5.length c5,.bool g6,.slice a6 z6.length c6]) (pv s0 s1 s2) (pv s3 s4 s5) u0 u1 u2 u3 u4 u5 u6 u7 u8 _ (HTT.out _ hB1) (HC.out _ hB1) p0 p1 p2 p3 p4 p5 p6 p7 p8).mono ?_
 rintro o w6 ⟨S,hMu,vu,rfl,hvu,hb2⟩
 have HMu:Hid (Met (Meets (pv u0 u1 u2) (pv u3 u4 u5) (pv u6 u7 u8) (pv s0 s1 s2) (pv s3 s4 s5)) S):=hMu
 obtain ⟨gu1,au1,cu1,zu1,gu2,au2,cu2,zu2,gu3,au3,cu3,zu3,gu4,au4,cu4,zu4,rfl,hvu1,hvu2,_,_⟩:=hvu
 have HFu:Hid (FracIs w6 (.agg #[.bool gu1,.slice au1 zu1.length cu1,.bool gu2,.slice au2 zu2.length cu2]) 1120 S.1 S.2.1):=⟨gu1,au1,cu1,zu1,gu2,au2,cu2,zu2,rfl,hvu1,hvu2⟩
 clear hMu hvu1 hvu2
 have hB2:Below w4.heap.size w4 w6:=hB1.trans (hb2.mono hB1.size)
 clear hS
 refine HKK.out _ _ (fun _=>HK.out _ hB2) ?_
 have hS:=HK.out _ hB2
 clear HKK K
 (try simp only [Act.put])
 refine AnyK.takeT (i:=7) (d:=28) (v:= .agg #[.bool gu1,.slice au1 zu1.length cu1,.bool gu2,.slice au2 zu2.length cu2]) rfl rfl (by kernel_rfl) (by kernel_rfl) (by kernel_rfl) (by kernel_rfl) rfl (fun _ _ _ h=>h) rfl (Or.inl ⟨rfl,fun w' _=>by have hfr:=from_run;go_simp⟩) hS ?_
 simp only [sT,sS,sZ]
 refine AnyK.one (i:=8) (by kernel_rfl) rfl rfl ?_
 intro K hK
 have HKK:Hid _:=hK
 clear hK
 go_wp2_with fail
 refine (ordF_any (.agg #[.bool gt1,.slice at1 zt1.length ct1,.bool gt2,.slice at2 zt2.length ct2]) (.agg #[.bool gu1,.slice au1 zu1.length cu1,.bool gu2,.slice au2 zu2.length cu2]) 1120 R.1 R.2.1 S.1 S.2.1 _ (by omega) (HFt.out.later hb2) HFu.out).mono ?_
 rintro o w7 ⟨rfl,hb3⟩
 have hB3:Below w4.heap.size w4 w7:=hB2.trans (hb3.mono hB2.size)
 clear hS
 refine HKK.out _ _ (fun _=>HK.out _ hB3) ?_
 have hS:=HK.out _ hB3
 clear HKK K
 (try simp only [Act.put])
 refine AnyK.one (i:=9) (by kernel_rfl) rfl rfl ?_
 intro K hK
 go_wp2_with fail
 refine hK _ _ (fun _=>hS) ?_
 clear hK
 (try simp only [Act.put])
 refine AnyK.one (i:=10) (by kernel_rfl) rfl rfl ?_
 intro K hK
 go_wp2_with fail
 refine hK _ _ (fun _=>hS) ?_
 clear hK
 (try simp only [Act.put])
 refine AnyK.done (by kernel_rfl) ?_
 go_wp2_with fail
 refine bodyPost_ret (v:= .tuple #[.int .i64 (sgn (R.1*S.2.1-S.1*R.2.1)),.int .i64 0]) (by simp [results,Tryz.results16,go_sem]) rfl ?_
 exact ⟨HD4.out.bel.trans (hB3.mono HD4.out.bel.size),.inr ⟨HO.out,R,S,HMt.out,HMu.out,rfl⟩⟩
end Go.Proofs.YtfieffpobgcpmaaGreatDoor
