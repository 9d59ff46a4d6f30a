import Derived.Test.YtfieffpobgcpmaaGreatDoorBgJBhAFrB
import Derived.Test.YtfieffpobgcpmaaGreatDoorFrCFrDCsA
import Derived.Deep.CutBlock
import Derived.Deep.CutRange
import Derived.Test.YtfieffpobgcpmaaGreatDoorEsMEsJEsNBgI
import Derived.Deep.RegionHeld3
set_option maxRecDepth 100000
set_option maxHeartbeats 32000000
namespace Go.Proofs.YtfieffpobgcpmaaGreatDoor
open Go.RowKit
theorem NoInt.setX {w:World} {b b' i:Nat} {u:Value} (h:NoInt w b) (hu:NotInt u):NoInt (w.setCell ⟨b',i,none⟩ u) b:=by
 by_cases e:b'=b
 ·subst e;exact h.set hu
 ·refine ⟨by simpa using h.1,fun j k m hh=> ?_⟩
  rw [World.cell?_setCell_other _ _ _ _ (by intro q;apply e;have:=congrArg Addr.block q;simpa using this)] at hh
  exact h.2 j k m hh
theorem NoInt.setAllX {b b':Nat}: ∀(us:List Value) (w:World) (i:Nat),NoInt w b→(∀u∈us,NotInt u)→NoInt (setAll w b' i us) b
 | [],_,_,h,_=>h
 |u::us,_,i,h,hu=>NoInt.setAllX us _ (i+1) (h.setX (hu u (List.mem_cons_self ..))) (fun z hz=>hu z (List.mem_cons_of_mem _ hz))
def nI:Value→Bool
 | .int _ _=>false
 |_=>true
theorem nI_not {us:List Value} (h:us.all nI=true): ∀u∈us,NotInt u:=by
 intro u hu k m e
 have:=List.all_eq_true.1 h u hu
 rw [e] at this
 cases this
theorem NoInt.newL (w:World) (cs:Array Value) (t:TypeId) (h:cs.toList.all nI=true):NoInt (w.alloc (.cells cs t)) w.heap.size:=
 NoInt.new w cs t fun i k m e=>nI_not h _ (List.mem_of_getElem? (by rw [Array.getElem?_toList];exact e)) k m rfl
structure Bx4 (w:World) (A F G Z:List Value) (W:World):Prop where
 a:Cs W w.heap.size A
 f:Cs W (w.heap.size+1) F
 g:Cs W (w.heap.size+1+1) G
 z:Cs W (w.heap.size+1+1+1) Z
 i0:NoInt W w.heap.size
 i3:NoInt W (w.heap.size+1+1+1)
 bel:Below w.heap.size w W
theorem Bx4.later {w:World} {A F G Z:List Value} {W W':World} (h:Bx4 w A F G Z W) (hb:Below W.heap.size W W'):Bx4 w A F G Z W':=
 ⟨h.a.later hb,h.f.later hb,h.g.later hb,h.z.later hb,h.i0.later hb,h.i3.later hb,h.bel.trans (hb.mono h.bel.size)⟩
theorem Bx4.start (w:World) (A F G Z:Array Value) (hA:A.toList.all nI=true) (hZ:Z.toList.all nI=true) (t0 t1 t2 t3:TypeId):Bx4 w A.toList F.toList G.toList Z.toList ((((w.alloc (.cells A t0)).alloc (.cells F t1)).alloc (.cells G t2)).alloc (.cells Z t3)):=by
 have h1:=Cs.new (w.alloc (.cells A t0)) F t1
 have h2:=Cs.new ((w.alloc (.cells A t0)).alloc (.cells F t1)) G t2
 have h3:=Cs.new (((w.alloc (.cells A t0)).alloc (.cells F t1)).alloc (.cells G t2)) Z t3
 have h4:=NoInt.newL (((w.alloc (.cells A t0)).alloc (.cells F t1)).alloc (.cells G t2)) Z t3 hZ
 have e1:(w.alloc (.cells A t0)).heap.size=w.heap.size+1:=by simp
 have e2:((w.alloc (.cells A t0)).alloc (.cells F t1)).heap.size=w.heap.size+1+1:=by simp
 have e3:(((w.alloc (.cells A t0)).alloc (.cells F t1)).alloc (.cells G t2)).heap.size=w.heap.size+1+1+1:=by simp
 rw [e1] at h1
 rw [e2] at h2
 rw [e3] at h3 h4
 exact ⟨(((Cs.new w A t0).later (bel0 _ _)).later (bel0 _ _)).later (bel0 _ _),(h1.later (bel0 _ _)).later (bel0 _ _),h2.later (bel0 _ _),h3,(((NoInt.newL w A t0 hA).later (bel0 _ _)).later (bel0 _ _)).later (bel0 _ _),h4,(((bel0 _ _).trans ((bel0 _ _).mono (by simp<;>omega))).trans ((bel0 _ _).mono (by simp<;>omega))).trans ((bel0 _ _).mono (by simp<;>omega))⟩
theorem Bx4.set {w:World} {A F G Z:List Value} {W:World} (h:Bx4 w A F G Z W) (i:Nat) (vs:List Value) (hl:i+vs.length≤A.length) (hn:vs.all nI=true):Bx4 w (setL A i vs) F G Z (setAll W w.heap.size i vs):=
 ⟨Cs.setAll vs W i A h.a hl,Cs.setAllO (by omega) vs W i _ h.f,Cs.setAllO (by omega) vs W i _ h.g,Cs.setAllO (by omega) vs W i _ h.z,NoInt.setAllX vs W i h.i0 (nI_not hn),NoInt.setAllX vs W i h.i3 (nI_not hn),below_setAll (Nat.le_refl _) vs W i h.bel⟩
theorem Bx4.end {w:World} {A F G Z:List Value} {W:World} (h:Bx4 w A F G Z W) (vs:List Value):Below w.heap.size w (setAll W (w.heap.size+1+1+1) 0 vs):=below_setAll (by omega) vs W 0 h.bel
def whereF (a b c d x y:Int):Int×Int×Int×Int:=
 if x=0∧0<y then (1,0,0,1) else
 if 0<x∧0<y*b-a*x then (if 0<y*d-c*x then (1,0,0,1) else (y,x,c,d)) else
 if x<0∧ -y*d-c* -x<0 then (if 0<a* -x- -y*b then (1,0,0,1) else (a,b,-y,-x)) else
 if 0<a*d-c*b then (1,0,0,1) else (a,b,c,d)
def StrOutA (w:World) (e:Nat) (p q r s:Int) (v sl bd:Value) (o:Ending) (w':World):Prop:= ∃u,o= .returned u∧StrIs w' u e p q r s∧Below w.heap.size w w'∧ ∀k,k<w.heap.size→AvV k v→AvV k sl→AvV k bd→AvV k u
def StrOut4 (w:World) (e:Nat) (R:Int×Int×Int×Int) (v sl bd:Value) (o:Ending) (w':World):Prop:=StrOutA w e R.1 R.2.1 R.2.2.1 R.2.2.2 v sl bd o w'
theorem FracIs.of {w:World} {g1 g2:Bool} {a1 a2:Option Addr} {n1 n2 c1 c2 e:Nat} {p q:Int} (h1:BigIs w (.agg #[g1,.slice a1 n1 c1]) e p) (h2:BigIs w (.agg #[g2,.slice a2 n2 c2]) e q):FracIs w (.agg #[g1,.slice a1 n1 c1,g2,.slice a2 n2 c2]) e p q:=by
 obtain ⟨z1,rfl,_⟩:=h1.inv
 obtain ⟨z2,rfl,_⟩:=h2.inv
 exact ⟨_,_,_,_,_,_,_,_,rfl,h1,h2⟩
theorem StrIs.of {w:World} {g1 g2 g3 g4:Bool} {a1 a2 a3 a4:Option Addr} {n1 n2 n3 n4 c1 c2 c3 c4 e:Nat} {p q r s:Int} (h1:BigIs w (.agg #[g1,.slice a1 n1 c1]) e p) (h2:BigIs w (.agg #[g2,.slice a2 n2 c2]) e q) (h3:BigIs w (.agg #[g3,.slice a3 n3 c3]) e r) (h4:BigIs w (.agg #[g4,.slice a4 n4 c4]) e s):StrIs w (.agg #[g1,.slice a1 n1 c1,g2,.slice a2 n2 c2,g3,.slice a3 n3 c3,g4,.slice a4 n4 c4]) e p q r s:=by
 obtain ⟨z1,rfl,_⟩:=h1.inv
 obtain ⟨z2,rfl,_⟩:=h2.inv
 obtain ⟨z3,rfl,_⟩:=h3.inv
 obtain ⟨z4,rfl,_⟩:=h4.inv
 exact ⟨_,_,_,_,_,_,_,_,_,_,_,_,_,_,_,_,rfl,h1,h2,h3,h4⟩
structure WhS (w:World) (e:Nat) (u0 u1 u2 u3 u4 u5 u6 u7 x0 x1 y0 y1:Value) (p q r s x y:Int) (W:World):Prop where
 f:Bx4 w [u0,u1,u2,u3,u4,u5,u6,u7] [x0,x1] [y0,y1] [false,(),false,(),false,(),false,()] W
 b1:BigIs W (.agg #[u0,u1]) e p
 b2:BigIs W (.agg #[u2,u3]) e q
 b3:BigIs W (.agg #[u4,u5]) e r
 b4:BigIs W (.agg #[u6,u7]) e s
 bx:BigIs W (.agg #[x0,x1]) e x
 by':BigIs W (.agg #[y0,y1]) e y
theorem WhS.later {w:World} {e:Nat} {u0 u1 u2 u3 u4 u5 u6 u7 x0 x1 y0 y1:Value} {p q r s x y:Int} {W W':World} (h:WhS w e u0 u1 u2 u3 u4 u5 u6 u7 x0 x1 y0 y1 p q r s x y W) (hb:Below W.heap.size W W'):WhS w e u0 u1 u2 u3 u4 u5 u6 u7 x0 x1 y0 y1 p q r s x y W':=
 ⟨h.f.later hb,h.b1.later hb,h.b2.later hb,h.b3.later hb,h.b4.later hb,h.bx.later hb,h.by'.later hb⟩
theorem WhS.half0 {w:World} {e:Nat} {u0 u1 u2 u3 u4 u5 u6 u7 x0 x1 y0 y1 v0 v1 v2 v3:Value} {p q r s x y n m:Int} {W:World} (h:WhS w e u0 u1 u2 u3 u4 u5 u6 u7 x0 x1 y0 y1 p q r s x y W) (hn:[v0,v1,v2,v3].all nI=true) (h1:BigIs W (.agg #[v0,v1]) e n) (h2:BigIs W (.agg #[v2,v3]) e m):WhS w e v0 v1 v2 v3 u4 u5 u6 u7 x0 x1 y0 y1 n m r s x y (setAll W w.heap.size 0 [v0,v1,v2,v3]):=
 have i:=h.f.i0
 have j:=nI_not hn
 ⟨h.f.set 0 _ (by simp) hn,h1.setAll _ _ _ i j,h2.setAll _ _ _ i j,h.b3.setAll _ _ _ i j,h.b4.setAll _ _ _ i j,h.bx.setAll _ _ _ i j,h.by'.setAll _ _ _ i j⟩
theorem WhS.half4 {w:World} {e:Nat} {u0 u1 u2 u3 u4 u5 u6 u7 x0 x1 y0 y1 v0 v1 v2 v3:Value} {p q r s x y n m:Int} {W:World} (h:WhS w e u0 u1 u2 u3 u4 u5 u6 u7 x0 x1 y0 y1 p q r s x y W) (hn:[v0,v1,v2,v3].all nI=true) (h1:BigIs W (.agg #[v0,v1]) e n) (h2:BigIs W (.agg #[v2,v3]) e m):WhS w e u0 u1 u2 u3 v0 v1 v2 v3 x0 x1 y0 y1 p q n m x y (setAll W w.heap.size 4 [v0,v1,v2,v3]):=
 have i:=h.f.i0
 have j:=nI_not hn
 ⟨h.f.set 4 _ (by simp) hn,h.b1.setAll _ _ _ i j,h.b2.setAll _ _ _ i j,h1.setAll _ _ _ i j,h2.setAll _ _ _ i j,h.bx.setAll _ _ _ i j,h.by'.setAll _ _ _ i j⟩
structure AtS (B e:Nat) (t1 t2 t3 t4:Value) (n m:Int) (W:World):Prop where
 c:Cs W B [t1,t2,t3,t4]
 b1:BigIs W (.agg #[t1,t2]) e n
 b2:BigIs W (.agg #[t3,t4]) e m
theorem AtS.later {B e:Nat} {t1 t2 t3 t4:Value} {n m:Int} {W W':World} (h:AtS B e t1 t2 t3 t4 n m W) (hb:Below W.heap.size W W'):AtS B e t1 t2 t3 t4 n m W':=
 ⟨h.c.later hb,h.b1.later hb,h.b2.later hb⟩
def AvS (v sl bd u:Value):Prop:= ∀k,AvV k v→AvV k sl→AvV k bd→AvV k u
theorem where_any (v sl bd:Value) (e:Nat) (a b c d x y:Int) (w:World) (he:e+e≤3000) (hs:StrIs w v e a b c d) (hx0:BigIs w sl e x) (hy0:BigIs w bd e y):
 Calls Tryz.prog 137 #[v,sl,bd] w fun o w'=>StrOut4 w e (whereF a b c d x y) v sl bd o w':=by
 unfold StrOut4
 obtain ⟨R,hR⟩: ∃R,whereF a b c d x y=R:=⟨_,rfl⟩
 rw [hR]
 have HR:Hid (whereF a b c d x y=R):=hR
 obtain ⟨N,hN⟩: ∃N,(if x<0 then-y else y)=N:=⟨_,rfl⟩
 obtain ⟨M,hM⟩: ∃M,(if x<0 then-x else x)=M:=⟨_,rfl⟩
 have HN:Hid ((if x<0 then-y else y)=N):=hN
 have HM:Hid ((if x<0 then-x else x)=M):=hM
 obtain ⟨g1,a1,c1,z1,g2,a2,c2,z2,g3,a3,c3,z3,g4,a4,c4,z4,rfl,h1,h2,h3,h4⟩:=hs
 have hk:=hx0
 have hl:=hy0
 obtain ⟨gx,ax,cx,zx,rfl,_,_,_⟩:=hx0
 obtain ⟨gy,ay,cy,zy,rfl,_,_,_⟩:=hy0
 have HS0:Hid (∀t0 t1 t2 t3,WhS w e g1 (.slice a1 z1.length c1) g2 (.slice a2 z2.length c2) g3 (.slice a3 z3.length c3) g4 (.slice a4 z4.length c4) gx (.slice ax zx.length cx) gy (.slice ay zy.length cy) a b c d x y ((((w.alloc (.cells #[g1,.slice a1 z1.length c1,g2,.slice a2 z2.length c2,g3,.slice a3 z3.length c3,g4,.slice a4 z4.length c4] t0)).alloc (.cells #[gx,.slice ax zx.length cx] t1)).alloc (.cells #[gy,.slice ay zy.length cy] t2)).alloc (.cells #[false,(),false,(),false,(),false,()] t3))):=by
  intro t0 t1 t2 t3
  have hF:=Bx4.start w #[g1,.slice a1 z1.length c1,g2,.slice a2 z2.length c2,g3,.slice a3 z3.length c3,g4,.slice a4 z4.length c4] #[gx,.slice ax zx.length cx] #[gy,.slice ay zy.length cy] #[false,(),false,(),false,(),false,()] rfl rfl t0 t1 t2 t3
  exact ⟨hF,h1.later hF.bel,h2.later hF.bel,h3.later hF.bel,h4.later hF.bel,hk.later hF.bel,hl.later hF.bel⟩
 go_enter Tryz.func137,Tryz.ntmps137
 go_wp2_with fail
 refine (ratio_any _ _ e y x _ (HS0.out _ _ _ _).by' (HS0.out _ _ _ _).bx).mono ?_
 rintro o w1 ⟨v1,rfl,hv1,hb1,hav1⟩
 rw [hN,hM] at hv1
 have HAV:Hid (∀k,AvV k (.agg #[gy,.slice ay zy.length cy])→AvV k (.agg #[gx,.slice ax zx.length cx])→AvV k v1):=hav1
 obtain ⟨gp,ap,cp,zp,gq,aq,cq,zq,rfl,k1,k2⟩:=hv1
 have HS1:Hid _:=(HS0.out _ _ _ _).later hb1
 have HB:Hid (Below w1.heap.size w1 (w1.alloc (.cells #[gp,.slice ap zp.length cp,gq,.slice aq zq.length cq] 81))):=bel0 _ _
 have HA1:Hid (AtS w1.heap.size e gp (.slice ap zp.length cp) gq (.slice aq zq.length cq) N M (w1.alloc (.cells #[gp,.slice ap zp.length cp,gq,.slice aq zq.length cq] 81))):=⟨Cs.new w1 #[gp,.slice ap zp.length cp,gq,.slice aq zq.length cq] _,k1.later HB.out,k2.later HB.out⟩
 have HS2:Hid _:=HS1.out.later HB.out
 clear hav1 hb1 HS0 k1 k2 hk hl h1 h2 h3 h4 hR hN hM HB
 have HS:=HS1
 obtain ⟨z0,z1',z2',z3',z4',z5,z6,z7⟩:=HS.out.f.a.c8
 obtain ⟨x0,x1⟩:=HS.out.f.f.c2
 obtain ⟨y0,y1⟩:=HS.out.f.g.c2
 clear HS
 have q0:w.heap.size<w1.heap.size:=HS1.out.f.a.1
 have q1:w.heap.size+1<w1.heap.size:=HS1.out.f.f.1
 have q2:w.heap.size+1+1<w1.heap.size:=HS1.out.f.g.1
 have q3:w.heap.size+1+1+1<w1.heap.size:=HS1.out.f.z.1
 go_upto_block 0 with fail
 generalize hB:w1.heap.size=B at*
 obtain ⟨WA,hWA⟩: ∃V,V=w1.alloc (.cells #[gp,.slice ap zp.length cp,gq,.slice aq zq.length cq] 81):=⟨_,rfl⟩
 rw [←hWA] at HS2 HA1⊢
 clear hB hWA HS1 q0 q1 q2 q3 z0 z1' z2' z3' z4' z5 z6 z7 x0 x1 y0 y1
 have HS:=HS2
 have HA:=HA1
 clear HS2 HA1
 go_cut [] from 8 to 54 (fun wx=> ∃(g5:Bool) (a5:Option Addr) (n5 c5:Nat) (g6:Bool) (a6:Option Addr) (n6 c6:Nat) (g7:Bool) (a7:Option Addr) (n7 c7:Nat) (g8:Bool) (a8:Option Addr) (n8 c8:Nat) (p q r s:Int),Hid (WhS w e g5 (.slice a5 n5 c5) g6 (.slice a6 n6 c6) g7 (.slice a7 n7 c7) g8 (.slice a8 n8 c8) gx (.slice ax zx.length cx) gy (.slice ay zy.length cy) p q r s x y wx)∧Hid (AvS (.agg #[g1,.slice a1 z1.length c1,g2,.slice a2 z2.length c2,g3,.slice a3 z3.length c3,g4,.slice a4 z4.length c4]) (.agg #[gx,.slice ax zx.length cx]) (.agg #[gy,.slice ay zy.length cy]) (.agg #[g5,.slice a5 n5 c5,g6,.slice a6 n6 c6,g7,.slice a7 n7 c7,g8,.slice a8 n8 c8]))∧Hid (R=if 0<p*s-r*q then (1,0,0,1) else (p,q,r,s)))
 case first=>
  obtain ⟨z0,z1',z2',z3',z4',z5,z6,z7⟩:=HS.out.f.a.c8
  obtain ⟨x0,x1⟩:=HS.out.f.f.c2
  obtain ⟨y0,y1⟩:=HS.out.f.g.c2
  obtain ⟨t1,t2,t3,t4⟩:=HA.out.c.c4
  go_wp2_with fail
  refine (signG_any _ e x _ (by omega) HS.out.bx).mono ?_
  rintro o u ⟨rfl,hb⟩
  replace HS:Hid _:=HS.out.later hb
  replace HA:Hid _:=HA.out.later hb
  clear hb z0 z1' z2' z3' z4' z5 z6 z7 x0 x1 y0 y1 t1 t2 t3 t4
  rcases sgn_cases x with ⟨hx,ex⟩| ⟨hx,ex⟩| ⟨hx,ex⟩
  ·have HX:Hid (sgn x= -1):=ex
   have hN: -y=N:=by have:=HN.out;rwa [if_pos hx] at this
   have hM: -x=M:=by have:=HM.out;rwa [if_pos hx] at this
   subst hN hM
   rw [ex]
   clear ex HN HM
   obtain ⟨z0,z1',z2',z3',z4',z5,z6,z7⟩:=HS.out.f.a.c8
   obtain ⟨x0,x1⟩:=HS.out.f.f.c2
   obtain ⟨y0,y1⟩:=HS.out.f.g.c2
   obtain ⟨t1,t2,t3,t4⟩:=HA.out.c.c4
   go_wp2_with fail
   refine (signG_any _ e x _ (by omega) HS.out.bx).mono ?_
   rintro o u ⟨rfl,hb⟩
   replace HS:Hid _:=HS.out.later hb
   replace HA:Hid _:=HA.out.later hb
   clear hb z0 z1' z2' z3' z4' z5 z6 z7 x0 x1 y0 y1 t1 t2 t3 t4
   rw [HX.out]
   obtain ⟨z0,z1',z2',z3',z4',z5,z6,z7⟩:=HS.out.f.a.c8
   obtain ⟨x0,x1⟩:=HS.out.f.f.c2
   obtain ⟨y0,y1⟩:=HS.out.f.g.c2
   obtain ⟨t1,t2,t3,t4⟩:=HA.out.c.c4
   go_wp2_with fail
   refine (signG_any _ e x _ (by omega) HS.out.bx).mono ?_
   rintro o u ⟨rfl,hb⟩
   replace HS:Hid _:=HS.out.later hb
   replace HA:Hid _:=HA.out.later hb
   clear hb z0 z1' z2' z3' z4' z5 z6 z7 x0 x1 y0 y1 t1 t2 t3 t4
   rw [HX.out]
   obtain ⟨z0,z1',z2',z3',z4',z5,z6,z7⟩:=HS.out.f.a.c8
   obtain ⟨x0,x1⟩:=HS.out.f.f.c2
   obtain ⟨y0,y1⟩:=HS.out.f.g.c2
   obtain ⟨t1,t2,t3,t4⟩:=HA.out.c.c4
   go_wp2_with fail
   refine (ordF_any _ _ e (-y) (-x) c d _ he (.of HA.out.b1 HA.out.b2) (.of HS.out.b3 HS.out.b4)).mono ?_
   rintro o u ⟨rfl,hb⟩
   replace HS:Hid _:=HS.out.later hb
   replace HA:Hid _:=HA.out.later hb
   clear hb z0 z1' z2' z3' z4' z5 z6 z7 x0 x1 y0 y1 t1 t2 t3 t4
   rcases sgn_cases (-y*d-c* -x) with ⟨ho,eo⟩| ⟨ho,eo⟩| ⟨ho,eo⟩
   ·rw [eo]
    have HT:Hid _:=HS.out.half4 rfl HA.out.b1 HA.out.b2
    obtain ⟨z0,z1',z2',z3',z4',z5,z6,z7⟩:=HS.out.f.a.c8
    obtain ⟨x0,x1⟩:=HS.out.f.f.c2
    obtain ⟨y0,y1⟩:=HS.out.f.g.c2
    obtain ⟨t1,t2,t3,t4⟩:=HA.out.c.c4
    have zf:=HS.out.f.a.2.1
    go_wp2_with fail
    go_meet
    case rel=>exact ⟨_,_,_,_,_,_,_,_,_,_,_,_,_,_,_,_,_,_,_,_,HT,fun k h1 h2 h3=>AvV.eight (h1.get 1 rfl) (h1.get 3 rfl) ((HAV.out k h3 h2).get 1 rfl) ((HAV.out k h3 h2).get 3 rfl),by unfold Hid;rw [←HR.out];unfold whereF;rw [if_neg (by omega),if_neg (by omega),if_pos ⟨hx,ho⟩]⟩
   all_goals
    rw [eo]
    go_wp2_with fail
    go_meet
    case rel=>exact ⟨_,_,_,_,_,_,_,_,_,_,_,_,_,_,_,_,_,_,_,_,HS,fun k h _ _=>h,by unfold Hid;rw [←HR.out];unfold whereF;rw [if_neg (by omega),if_neg (by omega),if_neg (by omega)]⟩
  ·have HX:Hid (sgn x=0):=ex
   rw [ex]
   clear ex HN HM
   obtain ⟨z0,z1',z2',z3',z4',z5,z6,z7⟩:=HS.out.f.a.c8
   obtain ⟨x0,x1⟩:=HS.out.f.f.c2
   obtain ⟨y0,y1⟩:=HS.out.f.g.c2
   obtain ⟨t1,t2,t3,t4⟩:=HA.out.c.c4
   go_wp2_with fail
   refine (signG_any _ e y _ (by omega) HS.out.by').mono ?_
   rintro o u ⟨rfl,hb⟩
   replace HS:Hid _:=HS.out.later hb
   replace HA:Hid _:=HA.out.later hb
   clear hb z0 z1' z2' z3' z4' z5 z6 z7 x0 x1 y0 y1 t1 t2 t3 t4
   rcases sgn_cases y with ⟨hy,ey⟩| ⟨hy,ey⟩| ⟨hy,ey⟩
   case inr.inr=>
    rw [ey]
    have hRR:R=(1,0,0,1):=by rw [←HR.out];unfold whereF;rw [if_pos ⟨hx,hy⟩]
    subst hRR
    clear ey
    go_wp2_with fail
    refine (nowhere_any e _).mono ?_
    rintro o u ⟨v9,rfl,hv,hb,hn⟩
    have HNV:Hid (NewV w.heap.size v9):=hn.mono HS.out.f.bel.size
    clear hn
    replace HS:Hid _:=HS.out.later hb
    obtain ⟨gi,ai,ci,zi,gj,aj,cj,zj,gk,ak,ck,zk,gl,al,cl,zl,rfl,k1,k2,k3,k4⟩:=hv
    have HV:Hid (StrIs u (.agg #[gi,.slice ai zi.length ci,gj,.slice aj zj.length cj,gk,.slice ak zk.length ck,gl,.slice al zl.length cl]) e 1 0 0 1):= .of k1 k2 k3 k4
    clear k1 k2 k3 k4 hb
    obtain ⟨y0,y1,y2,y3,y4,y5,y6,y7⟩:=HS.out.f.z.c8
    have zz:=HS.out.f.z.2.1
    go_wp2
    refine bodyPost_ret (v:= .agg #[gi,.slice ai zi.length ci,gj,.slice aj zj.length cj,gk,.slice ak zk.length ck,gl,.slice al zl.length cl]) (by simp [results,Tryz.results137,go_sem,y0,y1,y2,y3,y4,y5,y6,y7]) rfl ?_
    exact ⟨_,rfl,HV.out.setAll [gi,.slice ai zi.length ci,gj,.slice aj zj.length cj,gk,.slice ak zk.length ck,gl,.slice al zl.length cl] _ 0 HS.out.f.i3 (nI_not rfl),HS.out.f.end [gi,.slice ai zi.length ci,gj,.slice aj zj.length cj,gk,.slice ak zk.length ck,gl,.slice al zl.length cl],fun k hk _ _ _=>HNV.out k hk⟩
   all_goals
    rw [ey]
    clear ey
    obtain ⟨z0,z1',z2',z3',z4',z5,z6,z7⟩:=HS.out.f.a.c8
    obtain ⟨x0,x1⟩:=HS.out.f.f.c2
    obtain ⟨y0,y1⟩:=HS.out.f.g.c2
    obtain ⟨t1,t2,t3,t4⟩:=HA.out.c.c4
    go_wp2_with fail
    refine (signG_any _ e x _ (by omega) HS.out.bx).mono ?_
    rintro o u ⟨rfl,hb⟩
    replace HS:Hid _:=HS.out.later hb
    replace HA:Hid _:=HA.out.later hb
    clear hb z0 z1' z2' z3' z4' z5 z6 z7 x0 x1 y0 y1 t1 t2 t3 t4
    rw [HX.out]
    obtain ⟨z0,z1',z2',z3',z4',z5,z6,z7⟩:=HS.out.f.a.c8
    obtain ⟨x0,x1⟩:=HS.out.f.f.c2
    obtain ⟨y0,y1⟩:=HS.out.f.g.c2
    obtain ⟨t1,t2,t3,t4⟩:=HA.out.c.c4
    go_wp2_with fail
    refine (signG_any _ e x _ (by omega) HS.out.bx).mono ?_
    rintro o u ⟨rfl,hb⟩
    replace HS:Hid _:=HS.out.later hb
    replace HA:Hid _:=HA.out.later hb
    clear hb z0 z1' z2' z3' z4' z5 z6 z7 x0 x1 y0 y1 t1 t2 t3 t4
    rw [HX.out]
    go_wp2_with fail
    go_meet
    case rel=>exact ⟨_,_,_,_,_,_,_,_,_,_,_,_,_,_,_,_,_,_,_,_,HS,fun k h _ _=>h,by unfold Hid;rw [←HR.out];unfold whereF;rw [if_neg (by omega),if_neg (by omega),if_neg (by omega)]⟩
  ·have HX:Hid (sgn x=1):=ex
   have hN:y=N:=by have:=HN.out;rwa [if_neg (by omega)] at this
   have hM:x=M:=by have:=HM.out;rwa [if_neg (by omega)] at this
   subst hN
   rw [ex]
   clear ex HN HM
   obtain ⟨z0,z1',z2',z3',z4',z5,z6,z7⟩:=HS.out.f.a.c8
   obtain ⟨x0,x1⟩:=HS.out.f.f.c2
   obtain ⟨y0,y1⟩:=HS.out.f.g.c2
   obtain ⟨t1,t2,t3,t4⟩:=HA.out.c.c4
   go_wp2_with fail
   refine (signG_any _ e x _ (by omega) HS.out.bx).mono ?_
   rintro o u ⟨rfl,hb⟩
   replace HS:Hid _:=HS.out.later hb
   replace HA:Hid _:=HA.out.later hb
   clear hb z0 z1' z2' z3' z4' z5 z6 z7 x0 x1 y0 y1 t1 t2 t3 t4
   rw [HX.out]
   obtain ⟨z0,z1',z2',z3',z4',z5,z6,z7⟩:=HS.out.f.a.c8
   obtain ⟨x0,x1⟩:=HS.out.f.f.c2
   obtain ⟨y0,y1⟩:=HS.out.f.g.c2
   obtain ⟨t1,t2,t3,t4⟩:=HA.out.c.c4
   go_wp2_with fail
   refine (ordF_any _ _ e y M a b _ he (.of HA.out.b1 HA.out.b2) (.of HS.out.b1 HS.out.b2)).mono ?_
   rintro o u ⟨rfl,hb⟩
   replace HS:Hid _:=HS.out.later hb
   replace HA:Hid _:=HA.out.later hb
   clear hb z0 z1' z2' z3' z4' z5 z6 z7 x0 x1 y0 y1 t1 t2 t3 t4
   rcases sgn_cases (y*b-a*M) with ⟨ho,eo⟩| ⟨ho,eo⟩| ⟨ho,eo⟩
   case inr.inr=>
    rw [eo]
    have HT:Hid _:=HS.out.half0 rfl HA.out.b1 HA.out.b2
    obtain ⟨z0,z1',z2',z3',z4',z5,z6,z7⟩:=HS.out.f.a.c8
    obtain ⟨x0,x1⟩:=HS.out.f.f.c2
    obtain ⟨y0,y1⟩:=HS.out.f.g.c2
    obtain ⟨t1,t2,t3,t4⟩:=HA.out.c.c4
    have zf:=HS.out.f.a.2.1
    go_wp2_with fail
    go_meet
    case rel=>exact ⟨_,_,_,_,_,_,_,_,_,_,_,_,_,_,_,_,_,_,_,_,HT,fun k h1 h2 h3=>AvV.eight ((HAV.out k h3 h2).get 1 rfl) ((HAV.out k h3 h2).get 3 rfl) (h1.get 5 rfl) (h1.get 7 rfl),by unfold Hid;rw [←HR.out];unfold whereF;rw [if_neg (by omega),if_pos ⟨hx,by rw [hM];exact ho⟩,hM]⟩
   all_goals
    rw [eo]
    clear eo
    obtain ⟨z0,z1',z2',z3',z4',z5,z6,z7⟩:=HS.out.f.a.c8
    obtain ⟨x0,x1⟩:=HS.out.f.f.c2
    obtain ⟨y0,y1⟩:=HS.out.f.g.c2
    obtain ⟨t1,t2,t3,t4⟩:=HA.out.c.c4
    go_wp2_with fail
    refine (signG_any _ e x _ (by omega) HS.out.bx).mono ?_
    rintro o u ⟨rfl,hb⟩
    replace HS:Hid _:=HS.out.later hb
    replace HA:Hid _:=HA.out.later hb
    clear hb z0 z1' z2' z3' z4' z5 z6 z7 x0 x1 y0 y1 t1 t2 t3 t4
    rw [HX.out]
    go_wp2_with fail
    go_meet
    case rel=>exact ⟨_,_,_,_,_,_,_,_,_,_,_,_,_,_,_,_,_,_,_,_,HS,fun k h _ _=>h,by unfold Hid;rw [←HR.out];unfold whereF;rw [if_neg (by omega),if_neg (by rw [hM];omega),if_neg (by omega)]⟩
 case rest=>
 obtain ⟨g5,a5,n5,c5,g6,a6,n6,c6,g7,a7,n7,c7,g8,a8,n8,c8,p,q,r,s,HS,HAv,hR⟩:=hcut
 generalize hwq:wc=W1 at*
 clear hwq HA HAV HR HN HM
 have HRR:Hid (R=if 0<p*s-r*q then (1,0,0,1) else (p,q,r,s)):=hR
 clear hR
 obtain ⟨z0,z1',z2',z3',z4',z5,z6,z7⟩:=HS.out.f.a.c8
 obtain ⟨x0,x1⟩:=HS.out.f.f.c2
 obtain ⟨y0,y1⟩:=HS.out.f.g.c2
 go_wp2_with fail
 refine (ordF_any _ _ e p q r s _ he (.of HS.out.b1 HS.out.b2) (.of HS.out.b3 HS.out.b4)).mono ?_
 rintro o u ⟨rfl,hb⟩
 replace HS:Hid _:=HS.out.later hb
 clear hb z0 z1' z2' z3' z4' z5 z6 z7 x0 x1 y0 y1
 rcases sgn_cases (p*s-r*q) with ⟨ho,eo⟩| ⟨ho,eo⟩| ⟨ho,eo⟩
 case inr.inr=>
  rw [eo]
  have hRR:R=(1,0,0,1):=by rw [HRR.out,if_pos ho]
  subst hRR
  clear eo HRR
  go_wp2_with fail
  refine (nowhere_any e _).mono ?_
  rintro o u ⟨v9,rfl,hv,hb,hn⟩
  have HNV:Hid (NewV w.heap.size v9):=hn.mono HS.out.f.bel.size
  clear hn
  replace HS:Hid _:=HS.out.later hb
  obtain ⟨gi,ai,ci,zi,gj,aj,cj,zj,gk,ak,ck,zk,gl,al,cl,zl,rfl,k1,k2,k3,k4⟩:=hv
  have HV:Hid (StrIs u (.agg #[gi,.slice ai zi.length ci,gj,.slice aj zj.length cj,gk,.slice ak zk.length ck,gl,.slice al zl.length cl]) e 1 0 0 1):= .of k1 k2 k3 k4
  clear k1 k2 k3 k4 hb
  obtain ⟨y0,y1,y2,y3,y4,y5,y6,y7⟩:=HS.out.f.z.c8
  have zz:=HS.out.f.z.2.1
  go_wp2
  refine bodyPost_ret (v:= .agg #[gi,.slice ai zi.length ci,gj,.slice aj zj.length cj,gk,.slice ak zk.length ck,gl,.slice al zl.length cl]) (by simp [results,Tryz.results137,go_sem,y0,y1,y2,y3,y4,y5,y6,y7]) rfl ?_
  exact ⟨_,rfl,HV.out.setAll [gi,.slice ai zi.length ci,gj,.slice aj zj.length cj,gk,.slice ak zk.length ck,gl,.slice al zl.length cl] _ 0 HS.out.f.i3 (nI_not rfl),HS.out.f.end [gi,.slice ai zi.length ci,gj,.slice aj zj.length cj,gk,.slice ak zk.length ck,gl,.slice al zl.length cl],fun k hk _ _ _=>HNV.out k hk⟩
 all_goals
  rw [eo]
  have hRR:R=(p,q,r,s):=by rw [HRR.out,if_neg (by omega)]
  subst hRR
  clear eo HRR
  obtain ⟨z0,z1',z2',z3',z4',z5,z6,z7⟩:=HS.out.f.a.c8
  obtain ⟨x0,x1⟩:=HS.out.f.f.c2
  obtain ⟨y0x,y1x⟩:=HS.out.f.g.c2
  obtain ⟨y0,y1,y2,y3,y4,y5,y6,y7⟩:=HS.out.f.z.c8
  have zz:=HS.out.f.z.2.1
  go_wp2
  refine bodyPost_ret (v:= .agg #[g5,.slice a5 n5 c5,g6,.slice a6 n6 c6,g7,.slice a7 n7 c7,g8,.slice a8 n8 c8]) (by simp [results,Tryz.results137,go_sem,y0,y1,y2,y3,y4,y5,y6,y7]) rfl ?_
  exact ⟨_,rfl,(StrIs.of HS.out.b1 HS.out.b2 HS.out.b3 HS.out.b4).setAll [g5,.slice a5 n5 c5,g6,.slice a6 n6 c6,g7,.slice a7 n7 c7,g8,.slice a8 n8 c8] _ 0 HS.out.f.i3 (nI_not rfl),HS.out.f.end [g5,.slice a5 n5 c5,g6,.slice a6 n6 c6,g7,.slice a7 n7 c7,g8,.slice a8 n8 c8],fun k _ h1 h2 h3=>HAv.out k h1 h2 h3⟩
open Fl (IsF Nr BoundIs Summed absI Est)
structure Fns (w:World) (m0 m1 m2 m3 m4 m5 m6 m7 m8 n0 n1:Value) (W:World):Prop where
 e0x0:W.cell? ⟨w.heap.size,0,none⟩=some m0
 e0x1:W.cell? ⟨w.heap.size,1,none⟩=some m1
 e0x2:W.cell? ⟨w.heap.size,2,none⟩=some m2
 e0x3:W.cell? ⟨w.heap.size,3,none⟩=some m3
 e0x4:W.cell? ⟨w.heap.size,4,none⟩=some m4
 e0x5:W.cell? ⟨w.heap.size,5,none⟩=some m5
 e0x6:W.cell? ⟨w.heap.size,6,none⟩=some m6
 e0x7:W.cell? ⟨w.heap.size,7,none⟩=some m7
 e0x8:W.cell? ⟨w.heap.size,8,none⟩=some m8
 f0: ∀j,W.frozen? ⟨w.heap.size,j,none⟩=false
 e1x0:W.cell? ⟨w.heap.size+1,0,none⟩=some n0
 e1x1:W.cell? ⟨w.heap.size+1,1,none⟩=some n1
 f1: ∀j,W.frozen? ⟨w.heap.size+1,j,none⟩=false
 le:w.heap.size+1+1≤W.heap.size
 bel:Below w.heap.size w W
theorem Fns.start (w:World) (m0 m1 m2 m3 m4 m5 m6 m7 m8 n0 n1:Value) (t0 t1:TypeId):Fns w m0 m1 m2 m3 m4 m5 m6 m7 m8 n0 n1 ((w.alloc (.cells #[m0,m1,m2,m3,m4,m5,m6,m7,m8] t0)).alloc (.cells #[n0,n1] t1)):=by
 constructor<;>first|exact ((bel0 _ _).trans ((bel0 _ _).mono (by simp<;>omega)))|simp [go_sem]
theorem Fns.later {w:World} {m0 m1 m2 m3 m4 m5 m6 m7 m8 n0 n1:Value} {W W':World} (h:Fns w m0 m1 m2 m3 m4 m5 m6 m7 m8 n0 n1 W) (hb:Below W.heap.size W W'):Fns w m0 m1 m2 m3 m4 m5 m6 m7 m8 n0 n1 W':=by
 have q:=h.le
 have z:=h.bel.trans (hb.mono h.bel.size)
 cases h
 constructor<;>first|exact ((bcell hb).1 _ _ (by omega)).trans (by with_reducible assumption)|exact z|exact Nat.le_trans q hb.size| (intro j;exact ((bcell hb).2 _ _ (by omega)).trans (by apply_assumption))
theorem Fns.set1 {w:World} {m0 m1 m2 m3 m4 m5 m6 m7 m8 n0 n1:Value} {W:World} (h:Fns w m0 m1 m2 m3 m4 m5 m6 m7 m8 n0 n1 W) (v0 v1:Value):Fns w m0 m1 m2 m3 m4 m5 m6 m7 m8 v0 v1 ((W.setCell ⟨w.heap.size+1,0,none⟩ v0).setCell ⟨w.heap.size+1,1,none⟩ v1):=by
 have hle:=h.le
 constructor<;>first|exact ((h.bel.setCell (by simp<;>omega) _).setCell (by simp<;>omega) _)| (cases h;simp [go_sem, *])
theorem normSqE_any (t0 t1 t2 t3 t4 t5 t6 t7 t8:Int) (w:World) (h0:Cor t0) (h1:Cor t1) (h2:Cor t2) (h3:Cor t3) (h4:Cor t4) (h5:Cor t5) (h6:Cor t6) (h7:Cor t7) (h8:Cor t8):
 Calls Tryz.prog 163 #[.agg #[t0,t1,t2,t3,t4,t5,t6,t7,t8]] w fun o w'=>EstOut w 4 556 ((nrm (pv t0 t1 t2) (pv t3 t4 t5) (pv t6 t7 t8)).dot (nrm (pv t0 t1 t2) (pv t3 t4 t5) (pv t6 t7 t8))) o w':=by
 obtain ⟨W0,hW0⟩: ∃V0,V0=((w.alloc (.cells #[t0,t1,t2,t3,t4,t5,t6,t7,t8] 36)).alloc (.cells #[oOo,oOo] 86)):=⟨_,rfl⟩
 have HF0:Hid (Fns w t0 t1 t2 t3 t4 t5 t6 t7 t8 oOo oOo W0):=by rw [hW0];exact Fns.start w _ _ _ _ _ _ _ _ _ _ _ _ _
 have hst:=storeF
 go_enter Tryz.func163,Tryz.ntmps163
 go_wp2_with fail
 rw [←hW0]
 clear hW0
 refine (normalE_any t0 t1 t2 t3 t4 t5 t6 t7 t8 _ h0 h1 h2 h3 h4 h5 h6 h7 h8).mono ?_
 rintro o w1 ⟨v1,rfl,hv1,hb1⟩
 have HV1:Hid (VecE v1 2 272 (nrm (pv t0 t1 t2) (pv t3 t4 t5) (pv t6 t7 t8)).x (nrm (pv t0 t1 t2) (pv t3 t4 t5) (pv t6 t7 t8)).y (nrm (pv t0 t1 t2) (pv t3 t4 t5) (pv t6 t7 t8)).z):=hv1
 obtain ⟨m1_0,m1_1,m1_2,m1_3,m1_4,m1_5,rfl,_,_,_⟩:=hv1
 have HF1:=Hid.mk (HF0.out.later hb1)
 clear hb1 HF0
 go_wp2_with fail
 refine (vdotE_any _ _ 2 2 272 272 (nrm (pv t0 t1 t2) (pv t3 t4 t5) (pv t6 t7 t8)).x (nrm (pv t0 t1 t2) (pv t3 t4 t5) (pv t6 t7 t8)).y (nrm (pv t0 t1 t2) (pv t3 t4 t5) (pv t6 t7 t8)).z (nrm (pv t0 t1 t2) (pv t3 t4 t5) (pv t6 t7 t8)).x (nrm (pv t0 t1 t2) (pv t3 t4 t5) (pv t6 t7 t8)).y (nrm (pv t0 t1 t2) (pv t3 t4 t5) (pv t6 t7 t8)).z _ (by omega) (by omega) HV1.out HV1.out).mono ?_
 rintro o w2 ⟨v2,rfl,hv2,hb2⟩
 have HV2:Hid (EstIs v2 4 556 ((nrm (pv t0 t1 t2) (pv t3 t4 t5) (pv t6 t7 t8)).dot (nrm (pv t0 t1 t2) (pv t3 t4 t5) (pv t6 t7 t8)))):=hv2
 obtain ⟨m2,n2,_,_,rfl,_,_,_⟩:=hv2
 have HF2:Hid (Fns w t0 t1 t2 t3 t4 t5 t6 t7 t8 oOo oOo w2):=(HF1.out.later (bel0 _ _)).later hb2
 clear hb2 HF1
 have r0:=HF2.out.e1x0;have r1:=HF2.out.e1x1;have rz:=HF2.out.f1
 go_wp2
 refine bodyPost_ret (v:= .agg #[.float .f64 m2,.float .f64 n2]) (by simp [results,Tryz.results163,go_sem,r0,r1]) rfl ?_
 exact ⟨_,rfl,HV2.out,(HF2.out.set1 _ _).bel⟩
theorem vcrossN_any (u v:Value) (e f:Nat) (A B C A' B' C':Int) (w:World) (he:e+f≤2900) (hu:VecB w u e A B C) (hv:VecB w v f A' B' C'):
 Calls Tryz.prog 136 #[u,v] w fun o w'=>VecNewOut w (e+f+1) (B*C'-C*B') (C*A'-A*C') (A*B'-B*A') o w':=by
 obtain ⟨gu1,au1,cu1,zu1,gu2,au2,cu2,zu2,gu3,au3,cu3,zu3,rfl,hu1,hu2,hu3⟩:=hu
 obtain ⟨gv1,av1,cv1,zv1,gv2,av2,cv2,zv2,gv3,av3,cv3,zv3,rfl,hv1,hv2,hv3⟩:=hv
 go_enter Tryz.func136,Tryz.ntmps136
 go_wp2_with fail
 obtain ⟨W0,hW0⟩: ∃V0,V0=(((w.alloc (.cells #[gu1,.slice au1 zu1.length cu1,gu2,.slice au2 zu2.length cu2,gu3,.slice au3 zu3.length cu3] 92)).alloc (.cells #[gv1,.slice av1 zv1.length cv1,gv2,.slice av2 zv2.length cv2,gv3,.slice av3 zv3.length cv3] 92)).alloc (.cells #[false,(),false,(),false,()] 92)):=⟨_,rfl⟩
 rw [←hW0]
 have FR:Hid (Fbm w gu1 (.slice au1 zu1.length cu1) gu2 (.slice au2 zu2.length cu2) gu3 (.slice au3 zu3.length cu3) gv1 (.slice av1 zv1.length cv1) gv2 (.slice av2 zv2.length cv2) gv3 (.slice av3 zv3.length cv3) false () false () false () W0):=by rw [hW0];exact Fbm.start w _ _ _ _ _ _ _ _ _ _ _ _ _ _ _ _ _ _ _ _ _
 have HNI:Hid (NoInt W0 (w.heap.size+1+1)):=by
  have hz: ∀(i:Nat) (k:IntKind) (m:Int),(#[↑false,↑(),↑false,↑(),↑false,↑()]:Array Value)[i]? ≠some (Value.int k m):=by
   intro i k m
   match i with|0=>simp|1=>simp|2=>simp|3=>simp|4=>simp|5=>simp|n+6=>simp
  have h1:=NoInt.new ((w.alloc (.cells #[gu1,.slice au1 zu1.length cu1,gu2,.slice au2 zu2.length cu2,gu3,.slice au3 zu3.length cu3] 92)).alloc (.cells #[gv1,.slice av1 zv1.length cv1,gv2,.slice av2 zv2.length cv2,gv3,.slice av3 zv3.length cv3] 92)) #[false,(),false,(),false,()] 92 hz
  have hs:((w.alloc (.cells #[gu1,.slice au1 zu1.length cu1,gu2,.slice au2 zu2.length cu2,gu3,.slice au3 zu3.length cu3] 92)).alloc (.cells #[gv1,.slice av1 zv1.length cv1,gv2,.slice av2 zv2.length cv2,gv3,.slice av3 zv3.length cv3] 92)).heap.size=w.heap.size+1+1:=by simp
  rw [hs] at h1
  unfold Hid;rw [hW0];exact h1
 clear hW0
 have hmt2_2_1: ∀(r:Value) (w:World),_:=fun r w=>(methB r w).2.2.1
 have hmt1: ∀(r:Value) (w:World),_:=fun r w=>(methB r w).1
 have U1_0:=(hu1.later FR.out.bel).later (w':=W0.drew) (Below.refl _ _).drew
 have U2_0:=(hu2.later FR.out.bel).later (w':=W0.drew) (Below.refl _ _).drew
 have U3_0:=(hu3.later FR.out.bel).later (w':=W0.drew) (Below.refl _ _).drew
 have V1_0:=(hv1.later FR.out.bel).later (w':=W0.drew) (Below.refl _ _).drew
 have V2_0:=(hv2.later FR.out.bel).later (w':=W0.drew) (Below.refl _ _).drew
 have V3_0:=(hv3.later FR.out.bel).later (w':=W0.drew) (Below.refl _ _).drew
 have NI_0:=HNI.out.later (w':=W0.drew) (Below.refl _ _).drew
 have F0:Fbm w gu1 (.slice au1 zu1.length cu1) gu2 (.slice au2 zu2.length cu2) gu3 (.slice au3 zu3.length cu3) gv1 (.slice av1 zv1.length cv1) gv2 (.slice av2 zv2.length cv2) gv3 (.slice av3 zv3.length cv3) false () false () false () W0.drew:=FR.out.later (Below.refl _ _).drew
 go_region_held3 (fun w'=>w'.cell? ⟨w.heap.size,0,none⟩=some ↑gu1∧w'.cell? ⟨w.heap.size,1,none⟩=some (.slice au1 zu1.length cu1)∧w'.cell? ⟨w.heap.size,2,none⟩=some ↑gu2∧w'.cell? ⟨w.heap.size,3,none⟩=some (.slice au2 zu2.length cu2)∧w'.cell? ⟨w.heap.size,4,none⟩=some ↑gu3∧w'.cell? ⟨w.heap.size,5,none⟩=some (.slice au3 zu3.length cu3)∧w'.cell? ⟨w.heap.size+1,0,none⟩=some ↑gv1∧w'.cell? ⟨w.heap.size+1,1,none⟩=some (.slice av1 zv1.length cv1)∧w'.cell? ⟨w.heap.size+1,2,none⟩=some ↑gv2∧w'.cell? ⟨w.heap.size+1,3,none⟩=some (.slice av2 zv2.length cv2)∧w'.cell? ⟨w.heap.size+1,4,none⟩=some ↑gv3∧w'.cell? ⟨w.heap.size+1,5,none⟩=some (.slice av3 zv3.length cv3))
  (first|with_reducible exact (F9.set2 _ _ _ _ _ _).s|with_reducible exact Fbm.s (by with_reducible assumption))
  (first
   |(have hBB:=hB8;clear hBB;go_at_call 199;refine (minusN_any _ _ (e+f) (A*B') (B*A') _ (by omega) R7_8 R8_8).mono ?_;rintro o w9 ⟨v9,rfl,hv9,hb9,hn9⟩;have HNW9:Hid (NewV w.heap.size v9):=hn9.mono F8.bel.size;clear hn9;have R9_9:BigIs w9 v9 (e+f+1) (A*B'-B*A'):=hv9;obtain ⟨gr9,ar9,cr9,zr9,rfl,_,_,_⟩:=hv9;have U1_9:=U1_8.later hb9;have U2_9:=U2_8.later hb9;have U3_9:=U3_8.later hb9;have V1_9:=V1_8.later hb9;have V2_9:=V2_8.later hb9;have V3_9:=V3_8.later hb9;have NI_9:=NI_8.later hb9;have R1_9:=R1_8.later hb9;have R2_9:=R2_8.later hb9;have R3_9:=R3_8.later hb9;have R4_9:=R4_8.later hb9;have R5_9:=R5_8.later hb9;have R6_9:=R6_8.later hb9;have R7_9:=R7_8.later hb9;have R8_9:=R8_8.later hb9;have hB9:Below W0.heap.size W0 w9:=hB8.trans (hb9.mono hB8.size);have F9:Fbm w gu1 (.slice au1 zu1.length cu1) gu2 (.slice au2 zu2.length cu2) gu3 (.slice au3 zu3.length cu3) gv1 (.slice av1 zv1.length cv1) gv2 (.slice av2 zv2.length cv2) gv3 (.slice av3 zv3.length cv3) false () false () false () w9:=FR.out.later hB9;have r0:=F9.e2x0;have r1:=F9.e2x1;have r2:=F9.e2x2;have r3:=F9.e2x3;have r4:=F9.e2x4;have r5:=F9.e2x5;have rz:=F9.f2)
   |(have hBB:=hB7;clear hBB;go_at_call 53;refine (timesN_any _ _ e f B A' _ (by omega) U2_7 V1_7).mono ?_;rintro o w8 ⟨v8,rfl,hv8,hb8,hn8⟩;have HNW8:Hid (NewV w.heap.size v8):=hn8.mono F7.bel.size;clear hn8;have R8_8:BigIs w8 v8 (e+f) (B*A'):=hv8;obtain ⟨gr8,ar8,cr8,zr8,rfl,_,_,_⟩:=hv8;have U1_8:=U1_7.later hb8;have U2_8:=U2_7.later hb8;have U3_8:=U3_7.later hb8;have V1_8:=V1_7.later hb8;have V2_8:=V2_7.later hb8;have V3_8:=V3_7.later hb8;have NI_8:=NI_7.later hb8;have R1_8:=R1_7.later hb8;have R2_8:=R2_7.later hb8;have R3_8:=R3_7.later hb8;have R4_8:=R4_7.later hb8;have R5_8:=R5_7.later hb8;have R6_8:=R6_7.later hb8;have R7_8:=R7_7.later hb8;have hB8:Below W0.heap.size W0 w8:=hB7.trans (hb8.mono hB7.size);have F8:Fbm w gu1 (.slice au1 zu1.length cu1) gu2 (.slice au2 zu2.length cu2) gu3 (.slice au3 zu3.length cu3) gv1 (.slice av1 zv1.length cv1) gv2 (.slice av2 zv2.length cv2) gv3 (.slice av3 zv3.length cv3) false () false () false () w8:=FR.out.later hB8)
   |(have hBB:=hB6;clear hBB;go_at_call 53;refine (timesN_any _ _ e f A B' _ (by omega) U1_6 V2_6).mono ?_;rintro o w7 ⟨v7,rfl,hv7,hb7,hn7⟩;have HNW7:Hid (NewV w.heap.size v7):=hn7.mono F6.bel.size;clear hn7;have R7_7:BigIs w7 v7 (e+f) (A*B'):=hv7;obtain ⟨gr7,ar7,cr7,zr7,rfl,_,_,_⟩:=hv7;have U1_7:=U1_6.later hb7;have U2_7:=U2_6.later hb7;have U3_7:=U3_6.later hb7;have V1_7:=V1_6.later hb7;have V2_7:=V2_6.later hb7;have V3_7:=V3_6.later hb7;have NI_7:=NI_6.later hb7;have R1_7:=R1_6.later hb7;have R2_7:=R2_6.later hb7;have R3_7:=R3_6.later hb7;have R4_7:=R4_6.later hb7;have R5_7:=R5_6.later hb7;have R6_7:=R6_6.later hb7;have hB7:Below W0.heap.size W0 w7:=hB6.trans (hb7.mono hB6.size);have F7:Fbm w gu1 (.slice au1 zu1.length cu1) gu2 (.slice au2 zu2.length cu2) gu3 (.slice au3 zu3.length cu3) gv1 (.slice av1 zv1.length cv1) gv2 (.slice av2 zv2.length cv2) gv3 (.slice av3 zv3.length cv3) false () false () false () w7:=FR.out.later hB7)
   |(have hBB:=hB5;clear hBB;go_at_call 199;refine (minusN_any _ _ (e+f) (C*A') (A*C') _ (by omega) R4_5 R5_5).mono ?_;rintro o w6 ⟨v6,rfl,hv6,hb6,hn6⟩;have HNW6:Hid (NewV w.heap.size v6):=hn6.mono F5.bel.size;clear hn6;have R6_6:BigIs w6 v6 (e+f+1) (C*A'-A*C'):=hv6;obtain ⟨gr6,ar6,cr6,zr6,rfl,_,_,_⟩:=hv6;have U1_6:=U1_5.later hb6;have U2_6:=U2_5.later hb6;have U3_6:=U3_5.later hb6;have V1_6:=V1_5.later hb6;have V2_6:=V2_5.later hb6;have V3_6:=V3_5.later hb6;have NI_6:=NI_5.later hb6;have R1_6:=R1_5.later hb6;have R2_6:=R2_5.later hb6;have R3_6:=R3_5.later hb6;have R4_6:=R4_5.later hb6;have R5_6:=R5_5.later hb6;have hB6:Below W0.heap.size W0 w6:=hB5.trans (hb6.mono hB5.size);have F6:Fbm w gu1 (.slice au1 zu1.length cu1) gu2 (.slice au2 zu2.length cu2) gu3 (.slice au3 zu3.length cu3) gv1 (.slice av1 zv1.length cv1) gv2 (.slice av2 zv2.length cv2) gv3 (.slice av3 zv3.length cv3) false () false () false () w6:=FR.out.later hB6)
   |(have hBB:=hB4;clear hBB;go_at_call 53;refine (timesN_any _ _ e f A C' _ (by omega) U1_4 V3_4).mono ?_;rintro o w5 ⟨v5,rfl,hv5,hb5,hn5⟩;have HNW5:Hid (NewV w.heap.size v5):=hn5.mono F4.bel.size;clear hn5;have R5_5:BigIs w5 v5 (e+f) (A*C'):=hv5;obtain ⟨gr5,ar5,cr5,zr5,rfl,_,_,_⟩:=hv5;have U1_5:=U1_4.later hb5;have U2_5:=U2_4.later hb5;have U3_5:=U3_4.later hb5;have V1_5:=V1_4.later hb5;have V2_5:=V2_4.later hb5;have V3_5:=V3_4.later hb5;have NI_5:=NI_4.later hb5;have R1_5:=R1_4.later hb5;have R2_5:=R2_4.later hb5;have R3_5:=R3_4.later hb5;have R4_5:=R4_4.later hb5;have hB5:Below W0.heap.size W0 w5:=hB4.trans (hb5.mono hB4.size);have F5:Fbm w gu1 (.slice au1 zu1.length cu1) gu2 (.slice au2 zu2.length cu2) gu3 (.slice au3 zu3.length cu3) gv1 (.slice av1 zv1.length cv1) gv2 (.slice av2 zv2.length cv2) gv3 (.slice av3 zv3.length cv3) false () false () false () w5:=FR.out.later hB5)
   |(have hBB:=hB3;clear hBB;go_at_call 53;refine (timesN_any _ _ e f C A' _ (by omega) U3_3 V1_3).mono ?_;rintro o w4 ⟨v4,rfl,hv4,hb4,hn4⟩;have HNW4:Hid (NewV w.heap.size v4):=hn4.mono F3.bel.size;clear hn4;have R4_4:BigIs w4 v4 (e+f) (C*A'):=hv4;obtain ⟨gr4,ar4,cr4,zr4,rfl,_,_,_⟩:=hv4;have U1_4:=U1_3.later hb4;have U2_4:=U2_3.later hb4;have U3_4:=U3_3.later hb4;have V1_4:=V1_3.later hb4;have V2_4:=V2_3.later hb4;have V3_4:=V3_3.later hb4;have NI_4:=NI_3.later hb4;have R1_4:=R1_3.later hb4;have R2_4:=R2_3.later hb4;have R3_4:=R3_3.later hb4;have hB4:Below W0.heap.size W0 w4:=hB3.trans (hb4.mono hB3.size);have F4:Fbm w gu1 (.slice au1 zu1.length cu1) gu2 (.slice au2 zu2.length cu2) gu3 (.slice au3 zu3.length cu3) gv1 (.slice av1 zv1.length cv1) gv2 (.slice av2 zv2.length cv2) gv3 (.slice av3 zv3.length cv3) false () false () false () w4:=FR.out.later hB4)
   |(have hBB:=hB2;clear hBB;go_at_call 199;refine (minusN_any _ _ (e+f) (B*C') (C*B') _ (by omega) R1_2 R2_2).mono ?_;rintro o w3 ⟨v3,rfl,hv3,hb3,hn3⟩;have HNW3:Hid (NewV w.heap.size v3):=hn3.mono F2.bel.size;clear hn3;have R3_3:BigIs w3 v3 (e+f+1) (B*C'-C*B'):=hv3;obtain ⟨gr3,ar3,cr3,zr3,rfl,_,_,_⟩:=hv3;have U1_3:=U1_2.later hb3;have U2_3:=U2_2.later hb3;have U3_3:=U3_2.later hb3;have V1_3:=V1_2.later hb3;have V2_3:=V2_2.later hb3;have V3_3:=V3_2.later hb3;have NI_3:=NI_2.later hb3;have R1_3:=R1_2.later hb3;have R2_3:=R2_2.later hb3;have hB3:Below W0.heap.size W0 w3:=hB2.trans (hb3.mono hB2.size);have F3:Fbm w gu1 (.slice au1 zu1.length cu1) gu2 (.slice au2 zu2.length cu2) gu3 (.slice au3 zu3.length cu3) gv1 (.slice av1 zv1.length cv1) gv2 (.slice av2 zv2.length cv2) gv3 (.slice av3 zv3.length cv3) false () false () false () w3:=FR.out.later hB3)
   |(have hBB:=hB1;clear hBB;go_at_call 53;refine (timesN_any _ _ e f C B' _ (by omega) U3_1 V2_1).mono ?_;rintro o w2 ⟨v2,rfl,hv2,hb2,hn2⟩;have HNW2:Hid (NewV w.heap.size v2):=hn2.mono F1.bel.size;clear hn2;have R2_2:BigIs w2 v2 (e+f) (C*B'):=hv2;obtain ⟨gr2,ar2,cr2,zr2,rfl,_,_,_⟩:=hv2;have U1_2:=U1_1.later hb2;have U2_2:=U2_1.later hb2;have U3_2:=U3_1.later hb2;have V1_2:=V1_1.later hb2;have V2_2:=V2_1.later hb2;have V3_2:=V3_1.later hb2;have NI_2:=NI_1.later hb2;have R1_2:=R1_1.later hb2;have hB2:Below W0.heap.size W0 w2:=hB1.trans (hb2.mono hB1.size);have F2:Fbm w gu1 (.slice au1 zu1.length cu1) gu2 (.slice au2 zu2.length cu2) gu3 (.slice au3 zu3.length cu3) gv1 (.slice av1 zv1.length cv1) gv2 (.slice av2 zv2.length cv2) gv3 (.slice av3 zv3.length cv3) false () false () false () w2:=FR.out.later hB2)
   |(go_at_call 53;refine (timesN_any _ _ e f B C' _ (by omega) U2_0 V3_0).mono ?_;rintro o w1 ⟨v1,rfl,hv1,hb1,hn1⟩;have HNW1:Hid (NewV w.heap.size v1):=hn1.mono F0.bel.size;clear hn1;have R1_1:BigIs w1 v1 (e+f) (B*C'):=hv1;obtain ⟨gr1,ar1,cr1,zr1,rfl,_,_,_⟩:=hv1;have U1_1:=U1_0.later hb1;have U2_1:=U2_0.later hb1;have U3_1:=U3_0.later hb1;have V1_1:=V1_0.later hb1;have V2_1:=V2_0.later hb1;have V3_1:=V3_0.later hb1;have NI_1:=NI_0.later hb1;have hB1:Below W0.heap.size W0 w1:=(Below.refl _ _).drew.trans hb1;have F1:Fbm w gu1 (.slice au1 zu1.length cu1) gu2 (.slice au2 zu2.length cu2) gu3 (.slice au3 zu3.length cu3) gv1 (.slice av1 zv1.length cv1) gv2 (.slice av2 zv2.length cv2) gv3 (.slice av3 zv3.length cv3) false () false () false () w1:=FR.out.later hB1))
 have HF:Hid (Fbm w gu1 (.slice au1 zu1.length cu1) gu2 (.slice au2 zu2.length cu2) gu3 (.slice au3 zu3.length cu3) gv1 (.slice av1 zv1.length cv1) gv2 (.slice av2 zv2.length cv2) gv3 (.slice av3 zv3.length cv3) false () false () false () w9):=F9
 have HR3:Hid (BigIs w9 (.agg #[gr3,.slice ar3 zr3.length cr3]) (e+f+1) (B*C'-C*B')):=R3_9
 have HR6:Hid (BigIs w9 (.agg #[gr6,.slice ar6 zr6.length cr6]) (e+f+1) (C*A'-A*C')):=R6_9
 have HR9:Hid (BigIs w9 (.agg #[gr9,.slice ar9 zr9.length cr9]) (e+f+1) (A*B'-B*A')):=R9_9
 have HNN:Hid (NoInt w9 (w.heap.size+1+1)):=NI_9
 clear hB1 hb1 F1 hB2 hb2 F2 hB3 hb3 F3 hB4 hb4 F4 hB5 hb5 F5 hB6 hb6 F6 hB7 hb7 F7 hB8 hb8 F8 hB9 hb9 F9 U1_0 U1_1 U1_2 U1_3 U1_4 U1_5 U1_6 U1_7 U1_8 U1_9 U2_0 U2_1 U2_2 U2_3 U2_4 U2_5 U2_6 U2_7 U2_8 U2_9 U3_0 U3_1 U3_2 U3_3 U3_4 U3_5 U3_6 U3_7 U3_8 U3_9 V1_0 V1_1 V1_2 V1_3 V1_4 V1_5 V1_6 V1_7 V1_8 V1_9 V2_0 V2_1 V2_2 V2_3 V2_4 V2_5 V2_6 V2_7 V2_8 V2_9 V3_0 V3_1 V3_2 V3_3 V3_4 V3_5 V3_6 V3_7 V3_8 V3_9 NI_0 NI_1 NI_2 NI_3 NI_4 NI_5 NI_6 NI_7 NI_8 NI_9 R1_1 R1_2 R1_3 R1_4 R1_5 R1_6 R1_7 R1_8 R1_9 R2_2 R2_3 R2_4 R2_5 R2_6 R2_7 R2_8 R2_9 R3_3 R3_4 R3_5 R3_6 R3_7 R3_8 R3_9 R4_4 R4_5 R4_6 R4_7 R4_8 R4_9 R5_5 R5_6 R5_7 R5_8 R5_9 R6_6 R6_7 R6_8 R6_9 R7_7 R7_8 R7_9 R8_8 R8_9 R9_9 F0
 go_wp2
 refine bodyPost_ret (v:= .agg #[gr3,.slice ar3 zr3.length cr3,gr6,.slice ar6 zr6.length cr6,gr9,.slice ar9 zr9.length cr9]) (by simp [results,Tryz.results136,go_sem,r0,r1,r2,r3,r4,r5]) rfl ?_
 refine ⟨_,rfl,⟨gr3,ar3,cr3,zr3,gr6,ar6,cr6,zr6,gr9,ar9,cr9,zr9,rfl,HR3.out.setAll [gr3,.slice ar3 zr3.length cr3,gr6,.slice ar6 zr6.length cr6,gr9,.slice ar9 zr9.length cr9] _ 0 HNN.out (by simp [NotInt]),HR6.out.setAll [gr3,.slice ar3 zr3.length cr3,gr6,.slice ar6 zr6.length cr6,gr9,.slice ar9 zr9.length cr9] _ 0 HNN.out (by simp [NotInt]),HR9.out.setAll [gr3,.slice ar3 zr3.length cr3,gr6,.slice ar6 zr6.length cr6,gr9,.slice ar9 zr9.length cr9] _ 0 HNN.out (by simp [NotInt])⟩,(HF.out.set2 _ _ _ _ _ _).bel,NewV.six HNW3.out HNW6.out HNW9.out⟩
end Go.Proofs.YtfieffpobgcpmaaGreatDoor
