import Derived.Test.YtfieffpobgcpmaaGreatDoorFrBFrCFrD
import Derived.Test.YtfieffpobgcpmaaGreatDoorBgNCsAReARkACoA
import Derived.Deep.CutBlock
import Derived.Deep.CutRange
set_option maxRecDepth 100000
set_option maxHeartbeats 32000000
namespace Go.Proofs.YtfieffpobgcpmaaGreatDoor
open Go.RowKit
theorem NoInt.setX {w:World} {b b' i:Nat} {u:Value} (h:NoInt w b) (hu:NotInt u):NoInt (w.setCell ⟨b',i,none⟩ u) b:=by
 by_cases e:b'=b
 ·subst e;exact h.set hu
 ·refine ⟨by simpa using h.1,fun j k m hh=> ?_⟩
  rw [World.cell?_setCell_other _ _ _ _ (by intro q;apply e;have:=congrArg Addr.block q;simpa using this)] at hh
  exact h.2 j k m hh
theorem NoInt.setAllX {b b':Nat}: ∀(us:List Value) (w:World) (i:Nat),NoInt w b→(∀u∈us,NotInt u)→NoInt (setAll w b' i us) b
 | [],_,_,h,_=>h
 |u::us,_,i,h,hu=>NoInt.setAllX us _ (i+1) (h.setX (hu u (List.mem_cons_self ..))) (fun z hz=>hu z (List.mem_cons_of_mem _ hz))
def nI:Value→Bool
 | .int _ _=>false
 |_=>true
theorem nI_not {us:List Value} (h:us.all nI=true): ∀u∈us,NotInt u:=by
 intro u hu k m e
 have:=List.all_eq_true.1 h u hu
 rw [e] at this
 cases this
theorem NoInt.newL (w:World) (cs:Array Value) (t:TypeId) (h:cs.toList.all nI=true):NoInt (w.alloc (.cells cs t)) w.heap.size:=
 NoInt.new w cs t fun i k m e=>nI_not h _ (List.mem_of_getElem? (by rw [Array.getElem?_toList];exact e)) k m rfl
structure Bx4 (w:World) (A F G Z:List Value) (W:World):Prop where
 a:Cs W w.heap.size A
 f:Cs W (w.heap.size+1) F
 g:Cs W (w.heap.size+1+1) G
 z:Cs W (w.heap.size+1+1+1) Z
 i0:NoInt W w.heap.size
 i3:NoInt W (w.heap.size+1+1+1)
 bel:Below w.heap.size w W
theorem Bx4.later {w:World} {A F G Z:List Value} {W W':World} (h:Bx4 w A F G Z W) (hb:Below W.heap.size W W'):Bx4 w A F G Z W':=
 ⟨h.a.later hb,h.f.later hb,h.g.later hb,h.z.later hb,h.i0.later hb,h.i3.later hb,h.bel.trans (hb.mono h.bel.size)⟩
theorem Bx4.start (w:World) (A F G Z:Array Value) (hA:A.toList.all nI=true) (hZ:Z.toList.all nI=true) (t0 t1 t2 t3:TypeId):Bx4 w A.toList F.toList G.toList Z.toList ((((w.alloc (.cells A t0)).alloc (.cells F t1)).alloc (.cells G t2)).alloc (.cells Z t3)):=by
 have h1:=Cs.new (w.alloc (.cells A t0)) F t1
 have h2:=Cs.new ((w.alloc (.cells A t0)).alloc (.cells F t1)) G t2
 have h3:=Cs.new (((w.alloc (.cells A t0)).alloc (.cells F t1)).alloc (.cells G t2)) Z t3
 have h4:=NoInt.newL (((w.alloc (.cells A t0)).alloc (.cells F t1)).alloc (.cells G t2)) Z t3 hZ
 have e1:(w.alloc (.cells A t0)).heap.size=w.heap.size+1:=by simp
 have e2:((w.alloc (.cells A t0)).alloc (.cells F t1)).heap.size=w.heap.size+1+1:=by simp
 have e3:(((w.alloc (.cells A t0)).alloc (.cells F t1)).alloc (.cells G t2)).heap.size=w.heap.size+1+1+1:=by simp
 rw [e1] at h1
 rw [e2] at h2
 rw [e3] at h3 h4
 exact ⟨(((Cs.new w A t0).later (bel0 _ _)).later (bel0 _ _)).later (bel0 _ _),(h1.later (bel0 _ _)).later (bel0 _ _),h2.later (bel0 _ _),h3,(((NoInt.newL w A t0 hA).later (bel0 _ _)).later (bel0 _ _)).later (bel0 _ _),h4,(((bel0 _ _).trans ((bel0 _ _).mono (by simp<;>omega))).trans ((bel0 _ _).mono (by simp<;>omega))).trans ((bel0 _ _).mono (by simp<;>omega))⟩
theorem Bx4.set {w:World} {A F G Z:List Value} {W:World} (h:Bx4 w A F G Z W) (i:Nat) (vs:List Value) (hl:i+vs.length≤A.length) (hn:vs.all nI=true):Bx4 w (setL A i vs) F G Z (setAll W w.heap.size i vs):=
 ⟨Cs.setAll vs W i A h.a hl,Cs.setAllO (by omega) vs W i _ h.f,Cs.setAllO (by omega) vs W i _ h.g,Cs.setAllO (by omega) vs W i _ h.z,NoInt.setAllX vs W i h.i0 (nI_not hn),NoInt.setAllX vs W i h.i3 (nI_not hn),below_setAll (Nat.le_refl _) vs W i h.bel⟩
theorem Bx4.end {w:World} {A F G Z:List Value} {W:World} (h:Bx4 w A F G Z W) (vs:List Value):Below w.heap.size w (setAll W (w.heap.size+1+1+1) 0 vs):=below_setAll (by omega) vs W 0 h.bel
def whereF (a b c d x y:Int):Int×Int×Int×Int:=
 if x=0∧0<y then (1,0,0,1) else
 if 0<x∧0<y*b-a*x then (if 0<y*d-c*x then (1,0,0,1) else (y,x,c,d)) else
 if x<0∧ -y*d-c* -x<0 then (if 0<a* -x- -y*b then (1,0,0,1) else (a,b,-y,-x)) else
 if 0<a*d-c*b then (1,0,0,1) else (a,b,c,d)
def StrOutA (w:World) (e:Nat) (p q r s:Int) (v sl bd:Value) (o:Ending) (w':World):Prop:= ∃u,o= .returned u∧StrIs w' u e p q r s∧Below w.heap.size w w'∧ ∀k,k<w.heap.size→AvV k v→AvV k sl→AvV k bd→AvV k u
def StrOut4 (w:World) (e:Nat) (R:Int×Int×Int×Int) (v sl bd:Value) (o:Ending) (w':World):Prop:=StrOutA w e R.1 R.2.1 R.2.2.1 R.2.2.2 v sl bd o w'
theorem FracIs.of {w:World} {g1 g2:Bool} {a1 a2:Option Addr} {n1 n2 c1 c2 e:Nat} {p q:Int} (h1:BigIs w (.agg #[g1,.slice a1 n1 c1]) e p) (h2:BigIs w (.agg #[g2,.slice a2 n2 c2]) e q):FracIs w (.agg #[g1,.slice a1 n1 c1,g2,.slice a2 n2 c2]) e p q:=by
 obtain ⟨z1,rfl,_⟩:=h1.inv
 obtain ⟨z2,rfl,_⟩:=h2.inv
 exact ⟨_,_,_,_,_,_,_,_,rfl,h1,h2⟩
theorem StrIs.of {w:World} {g1 g2 g3 g4:Bool} {a1 a2 a3 a4:Option Addr} {n1 n2 n3 n4 c1 c2 c3 c4 e:Nat} {p q r s:Int} (h1:BigIs w (.agg #[g1,.slice a1 n1 c1]) e p) (h2:BigIs w (.agg #[g2,.slice a2 n2 c2]) e q) (h3:BigIs w (.agg #[g3,.slice a3 n3 c3]) e r) (h4:BigIs w (.agg #[g4,.slice a4 n4 c4]) e s):StrIs w (.agg #[g1,.slice a1 n1 c1,g2,.slice a2 n2 c2,g3,.slice a3 n3 c3,g4,.slice a4 n4 c4]) e p q r s:=by
 obtain ⟨z1,rfl,_⟩:=h1.inv
 obtain ⟨z2,rfl,_⟩:=h2.inv
 obtain ⟨z3,rfl,_⟩:=h3.inv
 obtain ⟨z4,rfl,_⟩:=h4.inv
 exact ⟨_,_,_,_,_,_,_,_,_,_,_,_,_,_,_,_,rfl,h1,h2,h3,h4⟩
structure WhS (w:World) (e:Nat) (u0 u1 u2 u3 u4 u5 u6 u7 x0 x1 y0 y1:Value) (p q r s x y:Int) (W:World):Prop where
 f:Bx4 w [u0,u1,u2,u3,u4,u5,u6,u7] [x0,x1] [y0,y1] [false,(),false,(),false,(),false,()] W
 b1:BigIs W (.agg #[u0,u1]) e p
 b2:BigIs W (.agg #[u2,u3]) e q
 b3:BigIs W (.agg #[u4,u5]) e r
 b4:BigIs W (.agg #[u6,u7]) e s
 bx:BigIs W (.agg #[x0,x1]) e x
 by':BigIs W (.agg #[y0,y1]) e y
theorem WhS.later {w:World} {e:Nat} {u0 u1 u2 u3 u4 u5 u6 u7 x0 x1 y0 y1:Value} {p q r s x y:Int} {W W':World} (h:WhS w e u0 u1 u2 u3 u4 u5 u6 u7 x0 x1 y0 y1 p q r s x y W) (hb:Below W.heap.size W W'):WhS w e u0 u1 u2 u3 u4 u5 u6 u7 x0 x1 y0 y1 p q r s x y W':=
 ⟨h.f.later hb,h.b1.later hb,h.b2.later hb,h.b3.later hb,h.b4.later hb,h.bx.later hb,h.by'.later hb⟩
theorem WhS.half0 {w:World} {e:Nat} {u0 u1 u2 u3 u4 u5 u6 u7 x0 x1 y0 y1 v0 v1 v2 v3:Value} {p q r s x y n m:Int} {W:World} (h:WhS w e u0 u1 u2 u3 u4 u5 u6 u7 x0 x1 y0 y1 p q r s x y W) (hn:[v0,v1,v2,v3].all nI=true) (h1:BigIs W (.agg #[v0,v1]) e n) (h2:BigIs W (.agg #[v2,v3]) e m):WhS w e v0 v1 v2 v3 u4 u5 u6 u7 x0 x1 y0 y1 n m r s x y (setAll W w.heap.size 0 [v0,v1,v2,v3]):=
 have i:=h.f.i0
 have j:=nI_not hn
 ⟨h.f.set 0 _ (by simp) hn,h1.setAll _ _ _ i j,h2.setAll _ _ _ i j,h.b3.setAll _ _ _ i j,h.b4.setAll _ _ _ i j,h.bx.setAll _ _ _ i j,h.by'.setAll _ _ _ i j⟩
theorem WhS.half4 {w:World} {e:Nat} {u0 u1 u2 u3 u4 u5 u6 u7 x0 x1 y0 y1 v0 v1 v2 v3:Value} {p q r s x y n m:Int} {W:World} (h:WhS w e u0 u1 u2 u3 u4 u5 u6 u7 x0 x1 y0 y1 p q r s x y W) (hn:[v0,v1,v2,v3].all nI=true) (h1:BigIs W (.agg #[v0,v1]) e n) (h2:BigIs W (.agg #[v2,v3]) e m):WhS w e u0 u1 u2 u3 v0 v1 v2 v3 x0 x1 y0 y1 p q n m x y (setAll W w.heap.size 4 [v0,v1,v2,v3]):=
 have i:=h.f.i0
 have j:=nI_not hn
 ⟨h.f.set 4 _ (by simp) hn,h.b1.setAll _ _ _ i j,h.b2.setAll _ _ _ i j,h1.setAll _ _ _ i j,h2.setAll _ _ _ i j,h.bx.setAll _ _ _ i j,h.by'.setAll _ _ _ i j⟩
structure AtS (B e:Nat) (t1 t2 t3 t4:Value) (n m:Int) (W:World):Prop where
 c:Cs W B [t1,t2,t3,t4]
 b1:BigIs W (.agg #[t1,t2]) e n
 b2:BigIs W (.agg #[t3,t4]) e m
theorem AtS.later {B e:Nat} {t1 t2 t3 t4:Value} {n m:Int} {W W':World} (h:AtS B e t1 t2 t3 t4 n m W) (hb:Below W.heap.size W W'):AtS B e t1 t2 t3 t4 n m W':=
 ⟨h.c.later hb,h.b1.later hb,h.b2.later hb⟩
def AvS (v sl bd u:Value):Prop:= ∀k,AvV k v→AvV k sl→AvV k bd→AvV k u
theorem where_any (v sl bd:Value) (e:Nat) (a b c d x y:Int) (w:World) (he:e+e≤3000) (hs:StrIs w v e a b c d) (hx0:BigIs w sl e x) (hy0:BigIs w bd e y):
 Calls Tryz.prog 137 #[v,sl,bd] w fun o w'=>StrOut4 w e (whereF a b c d x y) v sl bd o w':=by
 unfold StrOut4
 obtain ⟨R,hR⟩: ∃R,whereF a b c d x y=R:=⟨_,rfl⟩
 rw [hR]
 have HR:Hid (whereF a b c d x y=R):=hR
 obtain ⟨N,hN⟩: ∃N,(if x<0 then-y else y)=N:=⟨_,rfl⟩
 obtain ⟨M,hM⟩: ∃M,(if x<0 then-x else x)=M:=⟨_,rfl⟩
 have HN:Hid ((if x<0 then-y else y)=N):=hN
 have HM:Hid ((if x<0 then-x else x)=M):=hM
 obtain ⟨g1,a1,c1,z1,g2,a2,c2,z2,g3,a3,c3,z3,g4,a4,c4,z4,rfl,h1,h2,h3,h4⟩:=hs
 have hk:=hx0
 have hl:=hy0
 obtain ⟨gx,ax,cx,zx,rfl,_,_,_⟩:=hx0
 obtain ⟨gy,ay,cy,zy,rfl,_,_,_⟩:=hy0
 have HS0:Hid (∀t0 t1 t2 t3,WhS w e g1 (.slice a1 z1.length c1) g2 (.slice a2 z2.length c2) g3 (.slice a3 z3.length c3) g4 (.slice a4 z4.length c4) gx (.slice ax zx.length cx) gy (.slice ay zy.length cy) a b c d x y ((((w.alloc (.cells #[g1,.slice a1 z1.length c1,g2,.slice a2 z2.length c2,g3,.slice a3 z3.length c3,g4,.slice a4 z4.length c4] t0)).alloc (.cells #[gx,.slice ax zx.length cx] t1)).alloc (.cells #[gy,.slice ay zy.length cy] t2)).alloc (.cells #[false,(),false,(),false,(),false,()] t3))):=by
  intro t0 t1 t2 t3
  have hF:=Bx4.start w #[g1,.slice a1 z1.length c1,g2,.slice a2 z2.length c2,g3,.slice a3 z3.length c3,g4,.slice a4 z4.length c4] #[gx,.slice ax zx.length cx] #[gy,.slice ay zy.length cy] #[false,(),false,(),false,(),false,()] rfl rfl t0 t1 t2 t3
  exact ⟨hF,h1.later hF.bel,h2.later hF.bel,h3.later hF.bel,h4.later hF.bel,hk.later hF.bel,hl.later hF.bel⟩
 go_enter Tryz.func137,Tryz.ntmps137
 go_wp2_with fail
 refine (ratio_any _ _ e y x _ (HS0.out _ _ _ _).by' (HS0.out _ _ _ _).bx).mono ?_
 rintro o w1 ⟨v1,rfl,hv1,hb1,hav1⟩
 rw [hN,hM] at hv1
 have HAV:Hid (∀k,AvV k (.agg #[gy,.slice ay zy.length cy])→AvV k (.agg #[gx,.slice ax zx.length cx])→AvV k v1):=hav1
 obtain ⟨gp,ap,cp,zp,gq,aq,cq,zq,rfl,k1,k2⟩:=hv1
 have HS1:Hid _:=(HS0.out _ _ _ _).later hb1
 have HB:Hid (Below w1.heap.size w1 (w1.alloc (.cells #[gp,.slice ap zp.length cp,gq,.slice aq zq.length cq] 81))):=bel0 _ _
 have HA1:Hid (AtS w1.heap.size e gp (.slice ap zp.length cp) gq (.slice aq zq.length cq) N M (w1.alloc (.cells #[gp,.slice ap zp.length cp,gq,.slice aq zq.length cq] 81))):=⟨Cs.new w1 #[gp,.slice ap zp.length cp,gq,.slice aq zq.length cq] _,k1.later HB.out,k2.later HB.out⟩
 have HS2:Hid _:=HS1.out.later HB.out
 clear hav1 hb1 HS0 k1 k2 hk hl h1 h2 h3 h4 hR hN hM HB
 have HS:=HS1
 obtain ⟨z0,z1',z2',z3',z4',z5,z6,z7⟩:=HS.out.f.a.c8
 obtain ⟨x0,x1⟩:=HS.out.f.f.c2
 obtain ⟨y0,y1⟩:=HS.out.f.g.c2
 clear HS
 have q0:w.heap.size<w1.heap.size:=HS1.out.f.a.1
 have q1:w.heap.size+1<w1.heap.size:=HS1.out.f.f.1
 have q2:w.heap.size+1+1<w1.heap.size:=HS1.out.f.g.1
 have q3:w.heap.size+1+1+1<w1.heap.size:=HS1.out.f.z.1
 go_upto_block 0 with fail
 generalize hB:w1.heap.size=B at*
 obtain ⟨WA,hWA⟩: ∃V,V=w1.alloc (.cells #[gp,.slice ap zp.length cp,gq,.slice aq zq.length cq] 81):=⟨_,rfl⟩
 rw [←hWA] at HS2 HA1⊢
 clear hB hWA HS1 q0 q1 q2 q3 z0 z1' z2' z3' z4' z5 z6 z7 x0 x1 y0 y1
 have HS:=HS2
 have HA:=HA1
 clear HS2 HA1
 go_cut [] from 8 to 54 (fun wx=> ∃(g5:Bool) (a5:Option Addr) (n5 c5:Nat) (g6:Bool) (a6:Option Addr) (n6 c6:Nat) (g7:Bool) (a7:Option Addr) (n7 c7:Nat) (g8:Bool) (a8:Option Addr) (n8 c8:Nat) (p q r s:Int),Hid (WhS w e g5 (.slice a5 n5 c5) g6 (.slice a6 n6 c6) g7 (.slice a7 n7 c7) g8 (.slice a8 n8 c8) gx (.slice ax zx.length cx) gy (.slice ay zy.length cy) p q r s x y wx)∧Hid (AvS (.agg #[g1,.slice a1 z1.length c1,g2,.slice a2 z2.length c2,g3,.slice a3 z3.length c3,g4,.slice a4 z4.length c4]) (.agg #[gx,.slice ax zx.length cx]) (.agg #[gy,.slice ay zy.length cy]) (.agg #[g5,.slice a5 n5 c5,g6,.slice a6 n6 c6,g7,.slice a7 n7 c7,g8,.slice a8 n8 c8]))∧Hid (R=if 0<p*s-r*q then (1,0,0,1) else (p,q,r,s)))
 case first=>
  obtain ⟨z0,z1',z2',z3',z4',z5,z6,z7⟩:=HS.out.f.a.c8
  obtain ⟨x0,x1⟩:=HS.out.f.f.c2
  obtain ⟨y0,y1⟩:=HS.out.f.g.c2
  obtain ⟨t1,t2,t3,t4⟩:=HA.out.c.c4
  go_wp2_with fail
  refine (signG_any _ e x _ (by omega) HS.out.bx).mono ?_
  rintro o u ⟨rfl,hb⟩
  replace HS:Hid _:=HS.out.later hb
  replace HA:Hid _:=HA.out.later hb
  clear hb z0 z1' z2' z3' z4' z5 z6 z7 x0 x1 y0 y1 t1 t2 t3 t4
  rcases sgn_cases x with ⟨hx,ex⟩| ⟨hx,ex⟩| ⟨hx,ex⟩
  ·have HX:Hid (sgn x= -1):=ex
   have hN: -y=N:=by have:=HN.out;rwa [if_pos hx] at this
   have hM: -x=M:=by have:=HM.out;rwa [if_pos hx] at this
   subst hN hM
   rw [ex]
   clear ex HN HM
   obtain ⟨z0,z1',z2',z3',z4',z5,z6,z7⟩:=HS.out.f.a.c8
   obtain ⟨x0,x1⟩:=HS.out.f.f.c2
   obtain ⟨y0,y1⟩:=HS.out.f.g.c2
   obtain ⟨t1,t2,t3,t4⟩:=HA.out.c.c4
   go_wp2_with fail
   refine (signG_any _ e x _ (by omega) HS.out.bx).mono ?_
   rintro o u ⟨rfl,hb⟩
   replace HS:Hid _:=HS.out.later hb
   replace HA:Hid _:=HA.out.later hb
   clear hb z0 z1' z2' z3' z4' z5 z6 z7 x0 x1 y0 y1 t1 t2 t3 t4
   rw [HX.out]
   obtain ⟨z0,z1',z2',z3',z4',z5,z6,z7⟩:=HS.out.f.a.c8
   obtain ⟨x0,x1⟩:=HS.out.f.f.c2
   obtain ⟨y0,y1⟩:=HS.out.f.g.c2
   obtain ⟨t1,t2,t3,t4⟩:=HA.out.c.c4
   go_wp2_with fail
   refine (signG_any _ e x _ (by omega) HS.out.bx).mono ?_
   rintro o u ⟨rfl,hb⟩
   replace HS:Hid _:=HS.out.later hb
   replace HA:Hid _:=HA.out.later hb
   clear hb z0 z1' z2' z3' z4' z5 z6 z7 x0 x1 y0 y1 t1 t2 t3 t4
   rw [HX.out]
   obtain ⟨z0,z1',z2',z3',z4',z5,z6,z7⟩:=HS.out.f.a.c8
   obtain ⟨x0,x1⟩:=HS.out.f.f.c2
   obtain ⟨y0,y1⟩:=HS.out.f.g.c2
   obtain ⟨t1,t2,t3,t4⟩:=HA.out.c.c4
   go_wp2_with fail
   refine (ordF_any _ _ e (-y) (-x) c d _ he (.of HA.out.b1 HA.out.b2) (.of HS.out.b3 HS.out.b4)).mono ?_
   rintro o u ⟨rfl,hb⟩
   replace HS:Hid _:=HS.out.later hb
   replace HA:Hid _:=HA.out.later hb
   clear hb z0 z1' z2' z3' z4' z5 z6 z7 x0 x1 y0 y1 t1 t2 t3 t4
   rcases sgn_cases (-y*d-c* -x) with ⟨ho,eo⟩| ⟨ho,eo⟩| ⟨ho,eo⟩
   ·rw [eo]
    have HT:Hid _:=HS.out.half4 rfl HA.out.b1 HA.out.b2
    obtain ⟨z0,z1',z2',z3',z4',z5,z6,z7⟩:=HS.out.f.a.c8
    obtain ⟨x0,x1⟩:=HS.out.f.f.c2
    obtain ⟨y0,y1⟩:=HS.out.f.g.c2
    obtain ⟨t1,t2,t3,t4⟩:=HA.out.c.c4
    have zf:=HS.out.f.a.2.1
    go_wp2_with fail
    go_meet
    case rel=>exact ⟨_,_,_,_,_,_,_,_,_,_,_,_,_,_,_,_,_,_,_,_,HT,fun k h1 h2 h3=>AvV.eight (h1.get 1 rfl) (h1.get 3 rfl) ((HAV.out k h3 h2).get 1 rfl) ((HAV.out k h3 h2).get 3 rfl),by unfold Hid;rw [←HR.out];unfold whereF;rw [if_neg (by omega),if_neg (by omega),if_pos ⟨hx,ho⟩]⟩
   all_goals
    rw [eo]
    go_wp2_with fail
    go_meet
    case rel=>exact ⟨_,_,_,_,_,_,_,_,_,_,_,_,_,_,_,_,_,_,_,_,HS,fun k h _ _=>h,by unfold Hid;rw [←HR.out];unfold whereF;rw [if_neg (by omega),if_neg (by omega),if_neg (by omega)]⟩
  ·have HX:Hid (sgn x=0):=ex
   rw [ex]
   clear ex HN HM
   obtain ⟨z0,z1',z2',z3',z4',z5,z6,z7⟩:=HS.out.f.a.c8
   obtain ⟨x0,x1⟩:=HS.out.f.f.c2
   obtain ⟨y0,y1⟩:=HS.out.f.g.c2
   obtain ⟨t1,t2,t3,t4⟩:=HA.out.c.c4
   go_wp2_with fail
   refine (signG_any _ e y _ (by omega) HS.out.by').mono ?_
   rintro o u ⟨rfl,hb⟩
   replace HS:Hid _:=HS.out.later hb
   replace HA:Hid _:=HA.out.later hb
   clear hb z0 z1' z2' z3' z4' z5 z6 z7 x0 x1 y0 y1 t1 t2 t3 t4
   rcases sgn_cases y with ⟨hy,ey⟩| ⟨hy,ey⟩| ⟨hy,ey⟩
   case inr.inr=>
    rw [ey]
    have hRR:R=(1,0,0,1):=by rw [←HR.out];unfold whereF;rw [if_pos ⟨hx,hy⟩]
    subst hRR
    clear ey
    go_wp2_with fail
    refine (nowhere_any e _).mono ?_
    rintro o u ⟨v9,rfl,hv,hb,hn⟩
    have HNV:Hid (NewV w.heap.size v9):=hn.mono HS.out.f.bel.size
    clear hn
    replace HS:Hid _:=HS.out.later hb
    obtain ⟨gi,ai,ci,zi,gj,aj,cj,zj,gk,ak,ck,zk,gl,al,cl,zl,rfl,k1,k2,k3,k4⟩:=hv
    have HV:Hid (StrIs u (.agg #[gi,.slice ai zi.length ci,gj,.slice aj zj.length cj,gk,.slice ak zk.length ck,gl,.slice al zl.length cl]) e 1 0 0 1):= .of k1 k2 k3 k4
    clear k1 k2 k3 k4 hb
    obtain ⟨y0,y1,y2,y3,y4,y5,y6,y7⟩:=HS.out.f.z.c8
    have zz:=HS.out.f.z.2.1
    go_wp2
    refine bodyPost_ret (v:= .agg #[gi,.slice ai zi.length ci,gj,.slice aj zj.length cj,gk,.slice ak zk.length ck,gl,.slice al zl.length cl]) (by simp [results,Tryz.results137,go_sem,y0,y1,y2,y3,y4,y5,y6,y7]) rfl ?_
    exact ⟨_,rfl,HV.out.setAll [gi,.slice ai zi.length ci,gj,.slice aj zj.length cj,gk,.slice ak zk.length ck,gl,.slice al zl.length cl] _ 0 HS.out.f.i3 (nI_not rfl),HS.out.f.end [gi,.slice ai zi.length ci,gj,.slice aj zj.length cj,gk,.slice ak zk.length ck,gl,.slice al zl.length cl],fun k hk _ _ _=>HNV.out k hk⟩
   all_goals
    rw [ey]
    clear ey
    obtain ⟨z0,z1',z2',z3',z4',z5,z6,z7⟩:=HS.out.f.a.c8
    obtain ⟨x0,x1⟩:=HS.out.f.f.c2
    obtain ⟨y0,y1⟩:=HS.out.f.g.c2
    obtain ⟨t1,t2,t3,t4⟩:=HA.out.c.c4
    go_wp2_with fail
    refine (signG_any _ e x _ (by omega) HS.out.bx).mono ?_
    rintro o u ⟨rfl,hb⟩
    replace HS:Hid _:=HS.out.later hb
    replace HA:Hid _:=HA.out.later hb
    clear hb z0 z1' z2' z3' z4' z5 z6 z7 x0 x1 y0 y1 t1 t2 t3 t4
    rw [HX.out]
    obtain ⟨z0,z1',z2',z3',z4',z5,z6,z7⟩:=HS.out.f.a.c8
    obtain ⟨x0,x1⟩:=HS.out.f.f.c2
    obtain ⟨y0,y1⟩:=HS.out.f.g.c2
    obtain ⟨t1,t2,t3,t4⟩:=HA.out.c.c4
    go_wp2_with fail
    refine (signG_any _ e x _ (by omega) HS.out.bx).mono ?_
    rintro o u ⟨rfl,hb⟩
    replace HS:Hid _:=HS.out.later hb
    replace HA:Hid _:=HA.out.later hb
    clear hb z0 z1' z2' z3' z4' z5 z6 z7 x0 x1 y0 y1 t1 t2 t3 t4
    rw [HX.out]
    go_wp2_with fail
    go_meet
    case rel=>exact ⟨_,_,_,_,_,_,_,_,_,_,_,_,_,_,_,_,_,_,_,_,HS,fun k h _ _=>h,by unfold Hid;rw [←HR.out];unfold whereF;rw [if_neg (by omega),if_neg (by omega),if_neg (by omega)]⟩
  ·have HX:Hid (sgn x=1):=ex
   have hN:y=N:=by have:=HN.out;rwa [if_neg (by omega)] at this
   have hM:x=M:=by have:=HM.out;rwa [if_neg (by omega)] at this
   subst hN
   rw [ex]
   clear ex HN HM
   obtain ⟨z0,z1',z2',z3',z4',z5,z6,z7⟩:=HS.out.f.a.c8
   obtain ⟨x0,x1⟩:=HS.out.f.f.c2
   obtain ⟨y0,y1⟩:=HS.out.f.g.c2
   obtain ⟨t1,t2,t3,t4⟩:=HA.out.c.c4
   go_wp2_with fail
   refine (signG_any _ e x _ (by omega) HS.out.bx).mono ?_
   rintro o u ⟨rfl,hb⟩
   replace HS:Hid _:=HS.out.later hb
   replace HA:Hid _:=HA.out.later hb
   clear hb z0 z1' z2' z3' z4' z5 z6 z7 x0 x1 y0 y1 t1 t2 t3 t4
   rw [HX.out]
   obtain ⟨z0,z1',z2',z3',z4',z5,z6,z7⟩:=HS.out.f.a.c8
   obtain ⟨x0,x1⟩:=HS.out.f.f.c2
   obtain ⟨y0,y1⟩:=HS.out.f.g.c2
   obtain ⟨t1,t2,t3,t4⟩:=HA.out.c.c4
   go_wp2_with fail
   refine (ordF_any _ _ e y M a b _ he (.of HA.out.b1 HA.out.b2) (.of HS.out.b1 HS.out.b2)).mono ?_
   rintro o u ⟨rfl,hb⟩
   replace HS:Hid _:=HS.out.later hb
   replace HA:Hid _:=HA.out.later hb
   clear hb z0 z1' z2' z3' z4' z5 z6 z7 x0 x1 y0 y1 t1 t2 t3 t4
   rcases sgn_cases (y*b-a*M) with ⟨ho,eo⟩| ⟨ho,eo⟩| ⟨ho,eo⟩
   case inr.inr=>
    rw [eo]
    have HT:Hid _:=HS.out.half0 rfl HA.out.b1 HA.out.b2
    obtain ⟨z0,z1',z2',z3',z4',z5,z6,z7⟩:=HS.out.f.a.c8
    obtain ⟨x0,x1⟩:=HS.out.f.f.c2
    obtain ⟨y0,y1⟩:=HS.out.f.g.c2
    obtain ⟨t1,t2,t3,t4⟩:=HA.out.c.c4
    have zf:=HS.out.f.a.2.1
    go_wp2_with fail
    go_meet
    case rel=>exact ⟨_,_,_,_,_,_,_,_,_,_,_,_,_,_,_,_,_,_,_,_,HT,fun k h1 h2 h3=>AvV.eight ((HAV.out k h3 h2).get 1 rfl) ((HAV.out k h3 h2).get 3 rfl) (h1.get 5 rfl) (h1.get 7 rfl),by unfold Hid;rw [←HR.out];unfold whereF;rw [if_neg (by omega),if_pos ⟨hx,by rw [hM];exact ho⟩,hM]⟩
   all_goals
    rw [eo]
    clear eo
    obtain ⟨z0,z1',z2',z3',z4',z5,z6,z7⟩:=HS.out.f.a.c8
    obtain ⟨x0,x1⟩:=HS.out.f.f.c2
    obtain ⟨y0,y1⟩:=HS.out.f.g.c2
    obtain ⟨t1,t2,t3,t4⟩:=HA.out.c.c4
    go_wp2_with fail
    refine (signG_any _ e x _ (by omega) HS.out.bx).mono ?_
    rintro o u ⟨rfl,hb⟩
    replace HS:Hid _:=HS.out.later hb
    replace HA:Hid _:=HA.out.later hb
    clear hb z0 z1' z2' z3' z4' z5 z6 z7 x0 x1 y0 y1 t1 t2 t3 t4
    rw [HX.out]
    go_wp2_with fail
    go_meet
    case rel=>exact ⟨_,_,_,_,_,_,_,_,_,_,_,_,_,_,_,_,_,_,_,_,HS,fun k h _ _=>h,by unfold Hid;rw [←HR.out];unfold whereF;rw [if_neg (by omega),if_neg (by rw [hM];omega),if_neg (by omega)]⟩
 case rest=>
 obtain ⟨g5,a5,n5,c5,g6,a6,n6,c6,g7,a7,n7,c7,g8,a8,n8,c8,p,q,r,s,HS,HAv,hR⟩:=hcut
 generalize hwq:wc=W1 at*
 clear hwq HA HAV HR HN HM
 have HRR:Hid (R=if 0<p*s-r*q then (1,0,0,1) else (p,q,r,s)):=hR
 clear hR
 obtain ⟨z0,z1',z2',z3',z4',z5,z6,z7⟩:=HS.out.f.a.c8
 obtain ⟨x0,x1⟩:=HS.out.f.f.c2
 obtain ⟨y0,y1⟩:=HS.out.f.g.c2
 go_wp2_with fail
 refine (ordF_any _ _ e p q r s _ he (.of HS.out.b1 HS.out.b2) (.of HS.out.b3 HS.out.b4)).mono ?_
 rintro o u ⟨rfl,hb⟩
 replace HS:Hid _:=HS.out.later hb
 clear hb z0 z1' z2' z3' z4' z5 z6 z7 x0 x1 y0 y1
 rcases sgn_cases (p*s-r*q) with ⟨ho,eo⟩| ⟨ho,eo⟩| ⟨ho,eo⟩
 case inr.inr=>
  rw [eo]
  have hRR:R=(1,0,0,1):=by rw [HRR.out,if_pos ho]
  subst hRR
  clear eo HRR
  go_wp2_with fail
  refine (nowhere_any e _).mono ?_
  rintro o u ⟨v9,rfl,hv,hb,hn⟩
  have HNV:Hid (NewV w.heap.size v9):=hn.mono HS.out.f.bel.size
  clear hn
  replace HS:Hid _:=HS.out.later hb
  obtain ⟨gi,ai,ci,zi,gj,aj,cj,zj,gk,ak,ck,zk,gl,al,cl,zl,rfl,k1,k2,k3,k4⟩:=hv
  have HV:Hid (StrIs u (.agg #[gi,.slice ai zi.length ci,gj,.slice aj zj.length cj,gk,.slice ak zk.length ck,gl,.slice al zl.length cl]) e 1 0 0 1):= .of k1 k2 k3 k4
  clear k1 k2 k3 k4 hb
  obtain ⟨y0,y1,y2,y3,y4,y5,y6,y7⟩:=HS.out.f.z.c8
  have zz:=HS.out.f.z.2.1
  go_wp2
  refine bodyPost_ret (v:= .agg #[gi,.slice ai zi.length ci,gj,.slice aj zj.length cj,gk,.slice ak zk.length ck,gl,.slice al zl.length cl]) (by simp [results,Tryz.results137,go_sem,y0,y1,y2,y3,y4,y5,y6,y7]) rfl ?_
  exact ⟨_,rfl,HV.out.setAll [gi,.slice ai zi.length ci,gj,.slice aj zj.length cj,gk,.slice ak zk.length ck,gl,.slice al zl.length cl] _ 0 HS.out.f.i3 (nI_not rfl),HS.out.f.end [gi,.slice ai zi.length ci,gj,.slice aj zj.length cj,gk,.slice ak zk.length ck,gl,.slice al zl.length cl],fun k hk _ _ _=>HNV.out k hk⟩
 all_goals
  rw [eo]
  have hRR:R=(p,q,r,s):=by rw [HRR.out,if_neg (by omega)]
  subst hRR
  clear eo HRR
  obtain ⟨z0,z1',z2',z3',z4',z5,z6,z7⟩:=HS.out.f.a.c8
  obtain ⟨x0,x1⟩:=HS.out.f.f.c2
  obtain ⟨y0x,y1x⟩:=HS.out.f.g.c2
  obtain ⟨y0,y1,y2,y3,y4,y5,y6,y7⟩:=HS.out.f.z.c8
  have zz:=HS.out.f.z.2.1
  go_wp2
  refine bodyPost_ret (v:= .agg #[g5,.slice a5 n5 c5,g6,.slice a6 n6 c6,g7,.slice a7 n7 c7,g8,.slice a8 n8 c8]) (by simp [results,Tryz.results137,go_sem,y0,y1,y2,y3,y4,y5,y6,y7]) rfl ?_
  exact ⟨_,rfl,(StrIs.of HS.out.b1 HS.out.b2 HS.out.b3 HS.out.b4).setAll [g5,.slice a5 n5 c5,g6,.slice a6 n6 c6,g7,.slice a7 n7 c7,g8,.slice a8 n8 c8] _ 0 HS.out.f.i3 (nI_not rfl),HS.out.f.end [g5,.slice a5 n5 c5,g6,.slice a6 n6 c6,g7,.slice a7 n7 c7,g8,.slice a8 n8 c8],fun k _ h1 h2 h3=>HAv.out k h1 h2 h3⟩
end Go.Proofs.YtfieffpobgcpmaaGreatDoor
