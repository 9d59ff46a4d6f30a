import Derived.Test.YtfieffpobgcpmaaGreatDoorBhJToBgOS
import Derived.Laws.EntriesVeiled
set_option maxRecDepth 100000
set_option maxHeartbeats 32000000
namespace Go.Proofs.YtfieffpobgcpmaaGreatDoor
open Go.RowKit Go.Proofs.Tryz
variable {w W W':World} {m0 m1 n0 n1 m2 m3 m4 m5 m6 m7 m8:Value}
open Fl (IsF Nr ζz ζE absI Est)
theorem ρ5 {k e:Nat} {S A a b:Int} (h:Est k e S A a b) (hc:b=0∨b<absI a):sgn A=sgn a:=by
 obtain ⟨h1,h2⟩:=h.sign hc
 unfold sgn
 by_cases p:A<0
 ·rw [if_pos p,if_pos (h2.1 p)]
 ·rw [if_neg p,if_neg (fun q=>p (h2.2 q))]
  by_cases z:A=0
  ·rw [if_pos z,if_pos]
   rcases Int.lt_trichotomy a 0 with q|q|q
   ·exact absurd (h2.2 q) p
   ·exact q
   ·have:=h1.2 q;omega
  ·rw [if_neg z,if_neg]
   intro q
   have:=h1.1 (by omega)
   omega
structure Fps (w:World) (m0 m1 n0 n1 n2 n3 n4 n5 n6 n7 n8:Value) (W:World):Prop where
 e0x0:W.cell? ⟨w,0,none⟩=some m0
 e0x1:W.cell? ⟨w,1,none⟩=some m1
 f0: ∀j,W.frozen? ⟨w,j,none⟩=false
 e1x0:W.cell? ⟨↑w+1,0,none⟩=some n0
 e1x1:W.cell? ⟨↑w+1,1,none⟩=some n1
 e1x2:W.cell? ⟨↑w+1,2,none⟩=some n2
 e1x3:W.cell? ⟨↑w+1,3,none⟩=some n3
 e1x4:W.cell? ⟨↑w+1,4,none⟩=some n4
 e1x5:W.cell? ⟨↑w+1,5,none⟩=some n5
 e1x6:W.cell? ⟨↑w+1,6,none⟩=some n6
 e1x7:W.cell? ⟨↑w+1,7,none⟩=some n7
 e1x8:W.cell? ⟨↑w+1,8,none⟩=some n8
 f1: ∀j,W.frozen? ⟨↑w+1,j,none⟩=false
 le:w.heap.size+1+1<=W.heap.size
 bel:Below w w W
theorem Fps.start (w:World) (m0 m1 n0 n1 n2 n3 n4 n5 n6 n7 n8:Value) (t0 t1:TypeId):Fps w m0 m1 n0 n1 n2 n3 n4 n5 n6 n7 n8 ((w.alloc (.cells #[m0,m1] t0)).alloc (.cells #[n0,n1,n2,n3,n4,n5,n6,n7,n8] t1)):=by
 constructor<;>first|exact ((ζc _ _).trans ((ζc _ _).mono (by simp<;>omega)))|simp [go_sem]
theorem Fps.later {n2 n3 n4 n5 n6 n7 n8:Value} (h:Fps w m0 m1 n0 n1 n2 n3 n4 n5 n6 n7 n8 W) (hb:Below W W W'):Fps w m0 m1 n0 n1 n2 n3 n4 n5 n6 n7 n8 W':=by
 have q:=h.le
 have z:=h.bel.trans (hb.mono h.bel.size)
 cases h
 constructor<;>first|exact ((ζj hb).1 _ _ (by omega)).trans (by with_reducible assumption)|exact z|exact Nat.le_trans q hb.size| (intro j;exact ((ζj hb).2 _ _ (by omega)).trans (by apply_assumption))
theorem η1 (fn gn:Nat) (t0 t1 t2 t3 t4 t5 t6 t7 t8:Int) (k e f:Nat) (S A:Int) (w:World) (hf: ∀(args:Array Value) (w:World),(callFunc fn args).run prog w= .ok (.enter fn args) w) (hg: ∀(args:Array Value) (w:World),(callFunc gn args).run prog w= .ok (.enter gn args) w) (hk:f<=30000)
 (hq: ∀w',Below w w w'->Calls prog fn #[.agg #[t0,t1,t2,t3,t4,t5,t6,t7,t8]] w' fun o w''=>ζ4 w' k e S A o w'') (hx: ∀w',Below w w w'->Calls prog gn #[.agg #[t0,t1,t2,t3,t4,t5,t6,t7,t8]] w' fun o w''=>ζB w' f A o w''):
 Calls prog 159 #[.agg #[.func (.func fn) #[] #[],.func (.func gn) #[] #[]],.agg #[t0,t1,t2,t3,t4,t5,t6,t7,t8]] w fun o w'=>o= .returned (.int .i64 (sgn A))∧Below w w w':=by
 have HQ:=Hid.mk hq
 have HX:=Hid.mk hx
 clear hq hx
 have hst:=ζY
 obtain ⟨W0,hW0⟩: ∃V0,V0=((w.alloc (.cells #[.func (.func fn) #[] #[],.func (.func gn) #[] #[]] 211)).alloc (.cells #[t0,t1,t2,t3,t4,t5,t6,t7,t8] 36)):=⟨_,rfl⟩
 have HF0:Hid (Fps w (.func (.func fn) #[] #[]) (.func (.func gn) #[] #[]) t0 t1 t2 t3 t4 t5 t6 t7 t8 W0):=by rw [hW0];exact Fps.start w _ _ _ _ _ _ _ _ _ _ _ _ _
 go_enter func159,ntmps159
 go_wp2_with fail
 rw [<-hW0]
 clear hW0
 refine (HQ.out _ HF0.out.bel).mono ?_
 rintro o w1 ⟨v1,rfl,hv1,hb1⟩
 have HV1:=Hid.mk hv1
 obtain ⟨m1,n1,_,_,rfl,_,_,_⟩:=hv1
 have HF1:=Hid.mk (HF0.out.later hb1)
 clear hb1 HF0
 go_wp2_with fail
 refine (ωQ _ k e S A _ HV1.out).mono ?_
 rintro o w2 ⟨x,y,a,b,c,hxy,hxa,hE,rfl,hc,hb2⟩
 have hx1:m1=x:=by have:=hxy;simp at this;exact this.1
 subst hx1
 have HF2:Hid (Fps w (.func (.func fn) #[] #[]) (.func (.func gn) #[] #[]) t0 t1 t2 t3 t4 t5 t6 t7 t8 w2):=(HF1.out.later (ζc _ _)).later hb2
 have HC:=Hid.mk hc
 have HE:Hid (Est k e S A a b∧IsF m1 a):=⟨hE,hxa⟩
 have gy:=(ζj hb2).1 w1 0 (by simp)
 have gz:=(ζj hb2).1 w1 1 (by simp)
 have gy0:w2.cell? ⟨w1,0,none⟩=some (.float .f64 m1):=gy.trans (by simp [go_sem])
 have gz0:w2.cell? ⟨w1,1,none⟩=some (.float .f64 n1):=gz.trans (by simp [go_sem])
 clear hb2 hc hE hxa hxy gy gz HF1
 cases c
 ·have q0:=HF2.out.e0x0;have q1:=HF2.out.e0x1
  have q2:=HF2.out.e1x0;have q3:=HF2.out.e1x1;have q4:=HF2.out.e1x2;have q5:=HF2.out.e1x3;have q6:=HF2.out.e1x4;have q7:=HF2.out.e1x5;have q8:=HF2.out.e1x6;have q9:=HF2.out.e1x7;have q10:=HF2.out.e1x8
  go_wp2_with fail
  refine (HX.out _ HF2.out.bel).mono ?_
  rintro o w3 ⟨v3,rfl,hv3,hb3⟩
  have HB3:Hid (Below w w w3):=HF2.out.bel.trans (hb3.mono HF2.out.bel.size)
  have HV3:=Hid.mk hv3
  obtain ⟨g3,a3,c3,z3,rfl,_,_,_⟩:=hv3
  clear hb3 q0 q1 q2 q3 q4 q5 q6 q7 q8 q9 q10 gy0 gz0
  go_wp2_with fail
  refine (ζA _ f A _ hk HV3.out).mono ?_
  rintro o w4 ⟨rfl,hb4⟩
  have HB4:Hid (Below w w w4):=HB3.out.trans (hb4.mono HB3.out.size)
  clear hb4 HB3
  go_wp2
  go_ret
  exact ⟨rfl,HB4.out⟩
 ·have hs:=ρ5 HE.out.1 (HC.out rfl)
  have HS:Hid (sgn A=sgn a):=hs
  clear hs
  go_wp2_with fail
  refine (ωU m1 0 a 0 (sgn a) _ (Fl.order_isF HE.out.2 HE.out.2) (Fl.order_isF isF_zero isF_zero) (Fl.order_isF HE.out.2 isF_zero) (by rw [Int.sub_zero])).mono ?_
  rintro o w3 ⟨rfl,hb3⟩
  have HB3:Hid (Below w w w3):=HF2.out.bel.trans (hb3.mono HF2.out.bel.size)
  clear hb3
  go_wp2
  go_ret
  exact ⟨by rw [HS.out];rfl,HB3.out⟩
theorem η2 (fn gn:Nat) (c0 c1 d0 d1:Value) (t0 t1 t2 t3 t4 t5 t6 t7 t8:Int) (k e f:Nat) (S A:Int) (w:World) (hf: ∀(args:Array Value) (w:World),(callFunc fn args).run prog w= .ok (.enter fn args) w) (hg: ∀(args:Array Value) (w:World),(callFunc gn args).run prog w= .ok (.enter gn args) w) (hk:f<=30000)
 (hq: ∀w',Below w w w'->Calls prog fn #[.agg #[t0,t1,t2,t3,t4,t5,t6,t7,t8],c0,c1] w' fun o w''=>ζ4 w' k e S A o w'') (hx: ∀w',Below w w w'->Calls prog gn #[.agg #[t0,t1,t2,t3,t4,t5,t6,t7,t8],d0,d1] w' fun o w''=>ζB w' f A o w''):
 Calls prog 159 #[.agg #[.func (.func fn) #[] #[c0,c1],.func (.func gn) #[] #[d0,d1]],.agg #[t0,t1,t2,t3,t4,t5,t6,t7,t8]] w fun o w'=>o= .returned (.int .i64 (sgn A))∧Below w w w':=by
 have HQ:=Hid.mk hq
 have HX:=Hid.mk hx
 clear hq hx
 have hst:=ζY
 obtain ⟨W0,hW0⟩: ∃V0,V0=((w.alloc (.cells #[.func (.func fn) #[] #[c0,c1],.func (.func gn) #[] #[d0,d1]] 211)).alloc (.cells #[t0,t1,t2,t3,t4,t5,t6,t7,t8] 36)):=⟨_,rfl⟩
 have HF0:Hid (Fps w (.func (.func fn) #[] #[c0,c1]) (.func (.func gn) #[] #[d0,d1]) t0 t1 t2 t3 t4 t5 t6 t7 t8 W0):=by rw [hW0];exact Fps.start w _ _ _ _ _ _ _ _ _ _ _ _ _
 go_enter func159,ntmps159
 go_wp2_with fail
 rw [<-hW0]
 clear hW0
 refine (HQ.out _ HF0.out.bel).mono ?_
 rintro o w1 ⟨v1,rfl,hv1,hb1⟩
 have HV1:=Hid.mk hv1
 obtain ⟨m1,n1,_,_,rfl,_,_,_⟩:=hv1
 have HF1:=Hid.mk (HF0.out.later hb1)
 clear hb1 HF0
 go_wp2_with fail
 refine (ωQ _ k e S A _ HV1.out).mono ?_
 rintro o w2 ⟨x,y,a,b,c,hxy,hxa,hE,rfl,hc,hb2⟩
 have hx1:m1=x:=by have:=hxy;simp at this;exact this.1
 subst hx1
 have HF2:Hid (Fps w (.func (.func fn) #[] #[c0,c1]) (.func (.func gn) #[] #[d0,d1]) t0 t1 t2 t3 t4 t5 t6 t7 t8 w2):=(HF1.out.later (ζc _ _)).later hb2
 have HC:=Hid.mk hc
 have HE:Hid (Est k e S A a b∧IsF m1 a):=⟨hE,hxa⟩
 have gy:=(ζj hb2).1 w1 0 (by simp)
 have gz:=(ζj hb2).1 w1 1 (by simp)
 have gy0:w2.cell? ⟨w1,0,none⟩=some (.float .f64 m1):=gy.trans (by simp [go_sem])
 have gz0:w2.cell? ⟨w1,1,none⟩=some (.float .f64 n1):=gz.trans (by simp [go_sem])
 clear hb2 hc hE hxa hxy gy gz HF1
 cases c
 ·have q0:=HF2.out.e0x0;have q1:=HF2.out.e0x1
  have q2:=HF2.out.e1x0;have q3:=HF2.out.e1x1;have q4:=HF2.out.e1x2;have q5:=HF2.out.e1x3;have q6:=HF2.out.e1x4;have q7:=HF2.out.e1x5;have q8:=HF2.out.e1x6;have q9:=HF2.out.e1x7;have q10:=HF2.out.e1x8
  go_wp2_with fail
  refine (HX.out _ HF2.out.bel).mono ?_
  rintro o w3 ⟨v3,rfl,hv3,hb3⟩
  have HB3:Hid (Below w w w3):=HF2.out.bel.trans (hb3.mono HF2.out.bel.size)
  have HV3:=Hid.mk hv3
  obtain ⟨g3,a3,c3,z3,rfl,_,_,_⟩:=hv3
  clear hb3 q0 q1 q2 q3 q4 q5 q6 q7 q8 q9 q10 gy0 gz0
  go_wp2_with fail
  refine (ζA _ f A _ hk HV3.out).mono ?_
  rintro o w4 ⟨rfl,hb4⟩
  have HB4:Hid (Below w w w4):=HB3.out.trans (hb4.mono HB3.out.size)
  clear hb4 HB3
  go_wp2
  go_ret
  exact ⟨rfl,HB4.out⟩
 ·have hs:=ρ5 HE.out.1 (HC.out rfl)
  have HS:Hid (sgn A=sgn a):=hs
  clear hs
  go_wp2_with fail
  refine (ωU m1 0 a 0 (sgn a) _ (Fl.order_isF HE.out.2 HE.out.2) (Fl.order_isF isF_zero isF_zero) (Fl.order_isF HE.out.2 isF_zero) (by rw [Int.sub_zero])).mono ?_
  rintro o w3 ⟨rfl,hb3⟩
  have HB3:Hid (Below w w w3):=HF2.out.bel.trans (hb3.mono HF2.out.bel.size)
  clear hb3
  go_wp2
  go_ret
  exact ⟨by rw [HS.out];rfl,HB3.out⟩
open Fl (IsF Nr ζz ζE absI Est)
structure Fk1 (w:World) (m0 m1 m2 m3 m4 m5 m6 m7 m8 n0 n1:Value) (W:World):Prop where
 e0x0:W.cell? ⟨w,0,none⟩=some m0
 e0x1:W.cell? ⟨w,1,none⟩=some m1
 e0x2:W.cell? ⟨w,2,none⟩=some m2
 e0x3:W.cell? ⟨w,3,none⟩=some m3
 e0x4:W.cell? ⟨w,4,none⟩=some m4
 e0x5:W.cell? ⟨w,5,none⟩=some m5
 e0x6:W.cell? ⟨w,6,none⟩=some m6
 e0x7:W.cell? ⟨w,7,none⟩=some m7
 e0x8:W.cell? ⟨w,8,none⟩=some m8
 f0: ∀j,W.frozen? ⟨w,j,none⟩=false
 e1x0:W.cell? ⟨↑w+1,0,none⟩=some n0
 e1x1:W.cell? ⟨↑w+1,1,none⟩=some n1
 f1: ∀j,W.frozen? ⟨↑w+1,j,none⟩=false
 le:w.heap.size+1+1<=W.heap.size
 bel:Below w w W
theorem Fk1.start (w:World) (m0 m1 m2 m3 m4 m5 m6 m7 m8 n0 n1:Value) (t0 t1:TypeId):Fk1 w m0 m1 m2 m3 m4 m5 m6 m7 m8 n0 n1 ((w.alloc (.cells #[m0,m1,m2,m3,m4,m5,m6,m7,m8] t0)).alloc (.cells #[n0,n1] t1)):=by
 constructor<;>first|exact ((ζc _ _).trans ((ζc _ _).mono (by simp<;>omega)))|simp [go_sem]
theorem Fk1.later (h:Fk1 w m0 m1 m2 m3 m4 m5 m6 m7 m8 n0 n1 W) (hb:Below W W W'):Fk1 w m0 m1 m2 m3 m4 m5 m6 m7 m8 n0 n1 W':=by
 have q:=h.le
 have z:=h.bel.trans (hb.mono h.bel.size)
 cases h
 constructor<;>first|exact ((ζj hb).1 _ _ (by omega)).trans (by with_reducible assumption)|exact z|exact Nat.le_trans q hb.size| (intro j;exact ((ζj hb).2 _ _ (by omega)).trans (by apply_assumption))
theorem Fk1.set1 (h:Fk1 w m0 m1 m2 m3 m4 m5 m6 m7 m8 n0 n1 W) (v0 v1:Value):Fk1 w m0 m1 m2 m3 m4 m5 m6 m7 m8 v0 v1 ((W.setCell ⟨↑w+1,0,none⟩ v0).setCell ⟨↑w+1,1,none⟩ v1):=by
 have hle:=h.le
 constructor<;>first|exact ((h.bel.setCell (by simp<;>omega) _).setCell (by simp<;>omega) _)| (cases h;simp [go_sem, *])
theorem κG (b d n:Nat) (l0 l1 l2 l3 l4 l5 l6 l7 l8 l9 l10 l11 l12 l13:Value) (t0 t1 t2 t3 t4 t5 t6 t7 t8:Int) (k e:Nat) (S A:Int) (w:World) (hf: ∀(args:Array Value) (w:World),(callFunc n args).run prog w= .ok (.enter n args) w) (hb:b<w.heap.size) (hdl:d<w.heap.size) (hd:w.cell? ⟨d,0,none⟩=some (.func (.func n) #[] #[])) (x0:w.cell? ⟨b,0,none⟩=some l0) (x1:w.cell? ⟨b,1,none⟩=some l1) (x2:w.cell? ⟨b,2,none⟩=some l2) (x3:w.cell? ⟨b,3,none⟩=some l3) (x4:w.cell? ⟨b,4,none⟩=some l4) (x5:w.cell? ⟨b,5,none⟩=some l5) (x6:w.cell? ⟨b,6,none⟩=some l6) (x7:w.cell? ⟨b,7,none⟩=some l7) (x8:w.cell? ⟨b,8,none⟩=some l8) (x9:w.cell? ⟨b,9,none⟩=some l9) (x10:w.cell? ⟨b,10,none⟩=some l10) (x11:w.cell? ⟨b,11,none⟩=some l11) (x12:w.cell? ⟨b,12,none⟩=some l12) (x13:w.cell? ⟨b,13,none⟩=some l13)
 (hq: ∀w',Below w w w'->Calls prog n #[.agg #[l0,l1,l2,l3,l4,l5,l6,l7,l8,l9,l10,l11,l12,l13],.agg #[t0,t1,t2,t3,t4,t5,t6,t7,t8]] w' fun o w''=>ζ4 w' k e S A o w''):
 Calls prog 157 #[.agg #[t0,t1,t2,t3,t4,t5,t6,t7,t8],.pointer (some ⟨d,0,none⟩),.pointer (some ⟨b,0,none⟩)] w fun o w'=>ζ4 w k e S A o w':=by
 have HQ:=Hid.mk hq
 clear hq
 have HB0:Below w w ((w.alloc (.cells #[t0,t1,t2,t3,t4,t5,t6,t7,t8] 36)).alloc (.cells #[oOo,oOo] 86)):=ξr _ _ _
 have yd:((w.alloc (.cells #[t0,t1,t2,t3,t4,t5,t6,t7,t8] 36)).alloc (.cells #[oOo,oOo] 86)).cell? ⟨d,0,none⟩=some (.func (.func n) #[] #[]):=((ζj HB0).1 _ _ hdl).trans hd
 have y0:((w.alloc (.cells #[t0,t1,t2,t3,t4,t5,t6,t7,t8] 36)).alloc (.cells #[oOo,oOo] 86)).cell? ⟨b,0,none⟩=some l0:=((ζj HB0).1 _ _ hb).trans x0
 have y1:((w.alloc (.cells #[t0,t1,t2,t3,t4,t5,t6,t7,t8] 36)).alloc (.cells #[oOo,oOo] 86)).cell? ⟨b,1,none⟩=some l1:=((ζj HB0).1 _ _ hb).trans x1
 have y2:((w.alloc (.cells #[t0,t1,t2,t3,t4,t5,t6,t7,t8] 36)).alloc (.cells #[oOo,oOo] 86)).cell? ⟨b,2,none⟩=some l2:=((ζj HB0).1 _ _ hb).trans x2
 have y3:((w.alloc (.cells #[t0,t1,t2,t3,t4,t5,t6,t7,t8] 36)).alloc (.cells #[oOo,oOo] 86)).cell? ⟨b,3,none⟩=some l3:=((ζj HB0).1 _ _ hb).trans x3
 have y4:((w.alloc (.cells #[t0,t1,t2,t3,t4,t5,t6,t7,t8] 36)).alloc (.cells #[oOo,oOo] 86)).cell? ⟨b,4,none⟩=some l4:=((ζj HB0).1 _ _ hb).trans x4
 have y5:((w.alloc (.cells #[t0,t1,t2,t3,t4,t5,t6,t7,t8] 36)).alloc (.cells #[oOo,oOo] 86)).cell? ⟨b,5,none⟩=some l5:=((ζj HB0).1 _ _ hb).trans x5
 have y6:((w.alloc (.cells #[t0,t1,t2,t3,t4,t5,t6,t7,t8] 36)).alloc (.cells #[oOo,oOo] 86)).cell? ⟨b,6,none⟩=some l6:=((ζj HB0).1 _ _ hb).trans x6
 have y7:((w.alloc (.cells #[t0,t1,t2,t3,t4,t5,t6,t7,t8] 36)).alloc (.cells #[oOo,oOo] 86)).cell? ⟨b,7,none⟩=some l7:=((ζj HB0).1 _ _ hb).trans x7
 have y8:((w.alloc (.cells #[t0,t1,t2,t3,t4,t5,t6,t7,t8] 36)).alloc (.cells #[oOo,oOo] 86)).cell? ⟨b,8,none⟩=some l8:=((ζj HB0).1 _ _ hb).trans x8
 have y9:((w.alloc (.cells #[t0,t1,t2,t3,t4,t5,t6,t7,t8] 36)).alloc (.cells #[oOo,oOo] 86)).cell? ⟨b,9,none⟩=some l9:=((ζj HB0).1 _ _ hb).trans x9
 have y10:((w.alloc (.cells #[t0,t1,t2,t3,t4,t5,t6,t7,t8] 36)).alloc (.cells #[oOo,oOo] 86)).cell? ⟨b,10,none⟩=some l10:=((ζj HB0).1 _ _ hb).trans x10
 have y11:((w.alloc (.cells #[t0,t1,t2,t3,t4,t5,t6,t7,t8] 36)).alloc (.cells #[oOo,oOo] 86)).cell? ⟨b,11,none⟩=some l11:=((ζj HB0).1 _ _ hb).trans x11
 have y12:((w.alloc (.cells #[t0,t1,t2,t3,t4,t5,t6,t7,t8] 36)).alloc (.cells #[oOo,oOo] 86)).cell? ⟨b,12,none⟩=some l12:=((ζj HB0).1 _ _ hb).trans x12
 have y13:((w.alloc (.cells #[t0,t1,t2,t3,t4,t5,t6,t7,t8] 36)).alloc (.cells #[oOo,oOo] 86)).cell? ⟨b,13,none⟩=some l13:=((ζj HB0).1 _ _ hb).trans x13
 have HF0:Hid (Fk1 w t0 t1 t2 t3 t4 t5 t6 t7 t8 oOo oOo ((w.alloc (.cells #[t0,t1,t2,t3,t4,t5,t6,t7,t8] 36)).alloc (.cells #[oOo,oOo] 86))):=Fk1.start w _ _ _ _ _ _ _ _ _ _ _ _ _
 have HB:=Hid.mk HB0
 clear HB0 hd x0 x1 x2 x3 x4 x5 x6 x7 x8 x9 x10 x11 x12 x13
 have hst:=ζY
 go_enter func157,ntmps157
 go_wp2_with fail
 refine (HQ.out _ HB.out).mono ?_
 rintro o w1 ⟨v1,rfl,hv1,hb1⟩
 have HV1:=Hid.mk hv1
 obtain ⟨m1,n1,_,_,rfl,_,_,_⟩:=hv1
 have HF1:=Hid.mk (HF0.out.later hb1)
 clear hb1 HF0 HB yd y0 y1 y2 y3 y4 y5 y6 y7 y8 y9 y10 y11 y12 y13
 have r0:=HF1.out.e1x0;have r1:=HF1.out.e1x1;have rz:=HF1.out.f1
 go_wp2
 refine bodyPost_ret (v:= .agg #[.float .f64 m1,.float .f64 n1]) (by simp [results,results157,go_sem,r0,r1]) rfl ?_
 exact ⟨_,rfl,HV1.out,(HF1.out.set1 _ _).bel⟩
structure Fk2 (w:World) (m0 m1 m2 m3 m4 m5 m6 m7 m8 n0 n1:Value) (W:World):Prop where
 e0x0:W.cell? ⟨w,0,none⟩=some m0
 e0x1:W.cell? ⟨w,1,none⟩=some m1
 e0x2:W.cell? ⟨w,2,none⟩=some m2
 e0x3:W.cell? ⟨w,3,none⟩=some m3
 e0x4:W.cell? ⟨w,4,none⟩=some m4
 e0x5:W.cell? ⟨w,5,none⟩=some m5
 e0x6:W.cell? ⟨w,6,none⟩=some m6
 e0x7:W.cell? ⟨w,7,none⟩=some m7
 e0x8:W.cell? ⟨w,8,none⟩=some m8
 f0: ∀j,W.frozen? ⟨w,j,none⟩=false
 e1x0:W.cell? ⟨↑w+1,0,none⟩=some n0
 e1x1:W.cell? ⟨↑w+1,1,none⟩=some n1
 f1: ∀j,W.frozen? ⟨↑w+1,j,none⟩=false
 le:w.heap.size+1+1<=W.heap.size
 bel:Below w w W
theorem Fk2.start (w:World) (m0 m1 m2 m3 m4 m5 m6 m7 m8 n0 n1:Value) (t0 t1:TypeId):Fk2 w m0 m1 m2 m3 m4 m5 m6 m7 m8 n0 n1 ((w.alloc (.cells #[m0,m1,m2,m3,m4,m5,m6,m7,m8] t0)).alloc (.cells #[n0,n1] t1)):=by
 constructor<;>first|exact ((ζc _ _).trans ((ζc _ _).mono (by simp<;>omega)))|simp [go_sem]
theorem Fk2.later (h:Fk2 w m0 m1 m2 m3 m4 m5 m6 m7 m8 n0 n1 W) (hb:Below W W W'):Fk2 w m0 m1 m2 m3 m4 m5 m6 m7 m8 n0 n1 W':=by
 have q:=h.le
 have z:=h.bel.trans (hb.mono h.bel.size)
 cases h
 constructor<;>first|exact ((ζj hb).1 _ _ (by omega)).trans (by with_reducible assumption)|exact z|exact Nat.le_trans q hb.size| (intro j;exact ((ζj hb).2 _ _ (by omega)).trans (by apply_assumption))
theorem Fk2.set1 (h:Fk2 w m0 m1 m2 m3 m4 m5 m6 m7 m8 n0 n1 W) (v0 v1:Value):Fk2 w m0 m1 m2 m3 m4 m5 m6 m7 m8 v0 v1 ((W.setCell ⟨↑w+1,0,none⟩ v0).setCell ⟨↑w+1,1,none⟩ v1):=by
 have hle:=h.le
 constructor<;>first|exact ((h.bel.setCell (by simp<;>omega) _).setCell (by simp<;>omega) _)| (cases h;simp [go_sem, *])
theorem κH (b d n:Nat) (l14 l15 l16 l17 l18 l19 l20 l21 l22 l23 l24 l25 l26 l27:Value) (t0 t1 t2 t3 t4 t5 t6 t7 t8:Int) (f:Nat) (A:Int) (w:World) (hf: ∀(args:Array Value) (w:World),(callFunc n args).run prog w= .ok (.enter n args) w) (hb:b<w.heap.size) (hdl:d<w.heap.size) (hd:w.cell? ⟨d,0,none⟩=some (.func (.func n) #[] #[])) (x14:w.cell? ⟨b,14,none⟩=some l14) (x15:w.cell? ⟨b,15,none⟩=some l15) (x16:w.cell? ⟨b,16,none⟩=some l16) (x17:w.cell? ⟨b,17,none⟩=some l17) (x18:w.cell? ⟨b,18,none⟩=some l18) (x19:w.cell? ⟨b,19,none⟩=some l19) (x20:w.cell? ⟨b,20,none⟩=some l20) (x21:w.cell? ⟨b,21,none⟩=some l21) (x22:w.cell? ⟨b,22,none⟩=some l22) (x23:w.cell? ⟨b,23,none⟩=some l23) (x24:w.cell? ⟨b,24,none⟩=some l24) (x25:w.cell? ⟨b,25,none⟩=some l25) (x26:w.cell? ⟨b,26,none⟩=some l26) (x27:w.cell? ⟨b,27,none⟩=some l27)
 (hq: ∀w',Below w w w'->Calls prog n #[.agg #[l14,l15,l16,l17,l18,l19,l20,l21,l22,l23,l24,l25,l26,l27],.agg #[t0,t1,t2,t3,t4,t5,t6,t7,t8]] w' fun o w''=>ζB w' f A o w''):
 Calls prog 158 #[.agg #[t0,t1,t2,t3,t4,t5,t6,t7,t8],.pointer (some ⟨d,0,none⟩),.pointer (some ⟨b,0,none⟩)] w fun o w'=>ζB w f A o w':=by
 have HQ:=Hid.mk hq
 clear hq
 have HB0:Below w w ((w.alloc (.cells #[t0,t1,t2,t3,t4,t5,t6,t7,t8] 36)).alloc (.cells #[false,()] 31)):=ξr _ _ _
 have yd:((w.alloc (.cells #[t0,t1,t2,t3,t4,t5,t6,t7,t8] 36)).alloc (.cells #[false,()] 31)).cell? ⟨d,0,none⟩=some (.func (.func n) #[] #[]):=((ζj HB0).1 _ _ hdl).trans hd
 have y14:((w.alloc (.cells #[t0,t1,t2,t3,t4,t5,t6,t7,t8] 36)).alloc (.cells #[false,()] 31)).cell? ⟨b,14,none⟩=some l14:=((ζj HB0).1 _ _ hb).trans x14
 have y15:((w.alloc (.cells #[t0,t1,t2,t3,t4,t5,t6,t7,t8] 36)).alloc (.cells #[false,()] 31)).cell? ⟨b,15,none⟩=some l15:=((ζj HB0).1 _ _ hb).trans x15
 have y16:((w.alloc (.cells #[t0,t1,t2,t3,t4,t5,t6,t7,t8] 36)).alloc (.cells #[false,()] 31)).cell? ⟨b,16,none⟩=some l16:=((ζj HB0).1 _ _ hb).trans x16
 have y17:((w.alloc (.cells #[t0,t1,t2,t3,t4,t5,t6,t7,t8] 36)).alloc (.cells #[false,()] 31)).cell? ⟨b,17,none⟩=some l17:=((ζj HB0).1 _ _ hb).trans x17
 have y18:((w.alloc (.cells #[t0,t1,t2,t3,t4,t5,t6,t7,t8] 36)).alloc (.cells #[false,()] 31)).cell? ⟨b,18,none⟩=some l18:=((ζj HB0).1 _ _ hb).trans x18
 have y19:((w.alloc (.cells #[t0,t1,t2,t3,t4,t5,t6,t7,t8] 36)).alloc (.cells #[false,()] 31)).cell? ⟨b,19,none⟩=some l19:=((ζj HB0).1 _ _ hb).trans x19
 have y20:((w.alloc (.cells #[t0,t1,t2,t3,t4,t5,t6,t7,t8] 36)).alloc (.cells #[false,()] 31)).cell? ⟨b,20,none⟩=some l20:=((ζj HB0).1 _ _ hb).trans x20
 have y21:((w.alloc (.cells #[t0,t1,t2,t3,t4,t5,t6,t7,t8] 36)).alloc (.cells #[false,()] 31)).cell? ⟨b,21,none⟩=some l21:=((ζj HB0).1 _ _ hb).trans x21
 have y22:((w.alloc (.cells #[t0,t1,t2,t3,t4,t5,t6,t7,t8] 36)).alloc (.cells #[false,()] 31)).cell? ⟨b,22,none⟩=some l22:=((ζj HB0).1 _ _ hb).trans x22
 have y23:((w.alloc (.cells #[t0,t1,t2,t3,t4,t5,t6,t7,t8] 36)).alloc (.cells #[false,()] 31)).cell? ⟨b,23,none⟩=some l23:=((ζj HB0).1 _ _ hb).trans x23
 have y24:((w.alloc (.cells #[t0,t1,t2,t3,t4,t5,t6,t7,t8] 36)).alloc (.cells #[false,()] 31)).cell? ⟨b,24,none⟩=some l24:=((ζj HB0).1 _ _ hb).trans x24
 have y25:((w.alloc (.cells #[t0,t1,t2,t3,t4,t5,t6,t7,t8] 36)).alloc (.cells #[false,()] 31)).cell? ⟨b,25,none⟩=some l25:=((ζj HB0).1 _ _ hb).trans x25
 have y26:((w.alloc (.cells #[t0,t1,t2,t3,t4,t5,t6,t7,t8] 36)).alloc (.cells #[false,()] 31)).cell? ⟨b,26,none⟩=some l26:=((ζj HB0).1 _ _ hb).trans x26
 have y27:((w.alloc (.cells #[t0,t1,t2,t3,t4,t5,t6,t7,t8] 36)).alloc (.cells #[false,()] 31)).cell? ⟨b,27,none⟩=some l27:=((ζj HB0).1 _ _ hb).trans x27
 have HNI:Hid (ζf ((w.alloc (.cells #[t0,t1,t2,t3,t4,t5,t6,t7,t8] 36)).alloc (.cells #[false,()] 31)) (↑w+1)):=by
  have hz: ∀(i:Nat) (k:IntKind) (m:Int),(#[↑false,↑()]:Array Value)[i]? ≠some (Value.int k m):=by
   intro i k m
   match i with|0=>simp|1=>simp|n+2=>simp
  have h1:=ζf.new (w.alloc (.cells #[t0,t1,t2,t3,t4,t5,t6,t7,t8] 36)) #[false,()] 31 hz
  have hs:(w.alloc (.cells #[t0,t1,t2,t3,t4,t5,t6,t7,t8] 36)).heap.size=w.heap.size+1:=by simp
  rw [hs] at h1
  exact h1
 have HF0:Hid (Fk2 w t0 t1 t2 t3 t4 t5 t6 t7 t8 false () ((w.alloc (.cells #[t0,t1,t2,t3,t4,t5,t6,t7,t8] 36)).alloc (.cells #[false,()] 31))):=Fk2.start w _ _ _ _ _ _ _ _ _ _ _ _ _
 have HB:=Hid.mk HB0
 clear HB0 hd x14 x15 x16 x17 x18 x19 x20 x21 x22 x23 x24 x25 x26 x27
 have hst:=ζY
 go_enter func158,ntmps158
 go_wp2_with fail
 refine (HQ.out _ HB.out).mono ?_
 rintro o w1 ⟨v1,rfl,hv1,hb1⟩
 have HV1:=Hid.mk hv1
 obtain ⟨g1,a1,c1,z1,rfl,_,_,_⟩:=hv1
 have HN1:Hid (ζf w1 (↑w+1)):=HNI.out.later hb1
 have HF1:=Hid.mk (HF0.out.later hb1)
 clear hb1 HF0 HB yd y14 y15 y16 y17 y18 y19 y20 y21 y22 y23 y24 y25 y26 y27 HNI
 have r0:=HF1.out.e1x0;have r1:=HF1.out.e1x1;have rz:=HF1.out.f1
 go_wp2
 refine bodyPost_ret (v:= .agg #[g1,.slice a1 z1 c1]) (by simp [results,results158,go_sem,r0,r1]) rfl ?_
 exact ⟨_,rfl,HV1.out.setAll [g1,.slice a1 z1 c1] _ 0 HN1.out (by simp [ζh]),(HF1.out.set1 _ _).bel⟩
end Go.Proofs.YtfieffpobgcpmaaGreatDoor
