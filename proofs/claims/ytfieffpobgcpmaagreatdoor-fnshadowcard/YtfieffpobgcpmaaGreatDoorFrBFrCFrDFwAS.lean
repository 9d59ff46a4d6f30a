import Derived.Test.YtfieffpobgcpmaaGreatDoorBgIBgJBhACsASh0S
import Derived.Deep.RegionHeld3
import Derived.Test.YtfieffpobgcpmaaGreatDoorEsGToBgES
import Derived.Deep.CutBlock
import Derived.Deep.CutRange
set_option maxRecDepth 100000
set_option maxHeartbeats 32000000
namespace Go.Proofs.YtfieffpobgcpmaaGreatDoor
open Go.RowKit Go.Proofs.Tryz
variable {w W W':World} {m0 m1 n0 n1 p0 p1 p2 p3 m2 m3 u0 u1 u2 u3 u4 u5 u6 u7 x0 x1 y0 y1:Value} {A F G Z:List Value} {e:Nat} {p q r x y n m:Int}
theorem ηq (u:Value) (e:Nat) (x:Int) (w:World) (hu:ζe w u e x):
 Calls prog 130 #[u] w fun o w'=> ∃v,o= .returned v∧ζe w' v e (-x)∧Below w w w'∧ ∀k,AvV k u->AvV k v:=by
 obtain ⟨g,a,c,zs,rfl,h1,h2,h3⟩:=hu
 refine (ηi g a zs.length c w).mono ?_
 rintro o w' ⟨rfl,hb⟩
 exact ⟨_,rfl,⟨_,a,c,zs,rfl,h1.neg,⟨h2.1.neg,h2.2⟩,h3.later hb⟩,hb,fun k h=>AvV.two (h.get 1 rfl)⟩
def ωd (w:World) (e:Nat) (p q:Int) (u v:Value) (o:Ending) (w':World):Prop:= ∃f,o= .returned f∧ζO w' f e p q∧Below w w w'∧ ∀k,AvV k u->AvV k v->AvV k f
structure Frt (w:World) (m0 m1 n0 n1 p0 p1 p2 p3:Value) (W:World):Prop where
 e0x0:W.cell? ⟨w,0,none⟩=some m0
 e0x1:W.cell? ⟨w,1,none⟩=some m1
 f0: ∀j,W.frozen? ⟨w,j,none⟩=false
 e1x0:W.cell? ⟨↑w+1,0,none⟩=some n0
 e1x1:W.cell? ⟨↑w+1,1,none⟩=some n1
 f1: ∀j,W.frozen? ⟨↑w+1,j,none⟩=false
 e2x0:W.cell? ⟨↑w+1+1,0,none⟩=some p0
 e2x1:W.cell? ⟨↑w+1+1,1,none⟩=some p1
 e2x2:W.cell? ⟨↑w+1+1,2,none⟩=some p2
 e2x3:W.cell? ⟨↑w+1+1,3,none⟩=some p3
 f2: ∀j,W.frozen? ⟨↑w+1+1,j,none⟩=false
 le:w.heap.size+1+1+1<=W.heap.size
 bel:Below w w W
theorem Frt.start (w:World) (m0 m1 n0 n1 p0 p1 p2 p3:Value) (t0 t1 t2:TypeId):Frt w m0 m1 n0 n1 p0 p1 p2 p3 (((w.alloc (.cells #[m0,m1] t0)).alloc (.cells #[n0,n1] t1)).alloc (.cells #[p0,p1,p2,p3] t2)):=by
 constructor<;>first|exact (((ζc _ _).trans ((ζc _ _).mono (by simp<;>omega))).trans ((ζc _ _).mono (by simp<;>omega)))|simp [go_sem]
theorem Frt.later (h:Frt w m0 m1 n0 n1 p0 p1 p2 p3 W) (hb:Below W W W'):Frt w m0 m1 n0 n1 p0 p1 p2 p3 W':=by
 have q:=h.le
 have z:=h.bel.trans (hb.mono h.bel.size)
 cases h
 constructor<;>first|exact ((ζj hb).1 _ _ (by omega)).trans (by with_reducible assumption)|exact z|exact Nat.le_trans q hb.size| (intro j;exact ((ζj hb).2 _ _ (by omega)).trans (by apply_assumption))
theorem Frt.set2 (h:Frt w m0 m1 n0 n1 p0 p1 p2 p3 W) (v0 v1 v2 v3:Value):Frt w m0 m1 n0 n1 v0 v1 v2 v3 ((((W.setCell ⟨↑w+1+1,0,none⟩ v0).setCell ⟨↑w+1+1,1,none⟩ v1).setCell ⟨↑w+1+1,2,none⟩ v2).setCell ⟨↑w+1+1,3,none⟩ v3):=by
 have hle:=h.le
 constructor<;>first|exact ((((h.bel.setCell (by simp<;>omega) _).setCell (by simp<;>omega) _).setCell (by simp<;>omega) _).setCell (by simp<;>omega) _)| (cases h;simp [go_sem, *])
theorem Frt.s {w':World} (h:Frt w m0 m1 n0 n1 p0 p1 p2 p3 w'):w'.cell? ⟨w,0,none⟩=some m0∧w'.cell? ⟨w,1,none⟩=some m1∧w'.cell? ⟨↑w+1,0,none⟩=some n0∧w'.cell? ⟨↑w+1,1,none⟩=some n1:=⟨h.e0x0,h.e0x1,h.e1x0,h.e1x1⟩
theorem χL (u v:Value) (e:Nat) (x y:Int) (w:World) (hu:ζe w u e x) (hv:ζe w v e y) (hy:0<=y):
 Calls prog 83 #[u,v] w fun o w'=>ωd w e x y u v o w':=by
 have hk:=hu
 have hl:=hv
 obtain ⟨gu,au,cu,zu,rfl,_,_,_⟩:=hu
 obtain ⟨gv,av,cv,zv,rfl,_,_,_⟩:=hv
 have hg:=hl.neg_iff
 rw [decide_eq_false (by omega)] at hg
 subst hg
 go_enter func83,ntmps83
 go_wp2
 refine bodyPost_ret (v:= .agg #[gu,.slice au zu cu,false,.slice av zv cv]) (by simp [results,results83,go_sem]) rfl ?_
 refine ⟨_,rfl,⟨gu,au,cu,zu,false,av,cv,zv,rfl,hk.later ?_,hl.later ?_⟩,?_,fun k h1 h2=>AvV.four (h1.get 1 rfl) (h2.get 1 rfl)⟩
 all_goals exact (Frt.start w _ _ _ _ _ _ _ _ _ _ _).bel
theorem η5 (u v:Value) (e:Nat) (x y:Int) (w:World) (hu:ζe w u e x) (hv:ζe w v e y) (hy:y<0):
 Calls prog 83 #[u,v] w fun o w'=>ωd w e (-x) (-y) u v o w':=by
 have hk:=hu
 have hl:=hv
 obtain ⟨gu,au,cu,zu,rfl,_,_,_⟩:=hu
 obtain ⟨gv,av,cv,zv,rfl,_,_,_⟩:=hv
 have hg:=hl.neg_iff
 rw [decide_eq_true hy] at hg
 subst hg
 go_enter func83,ntmps83
 go_wp2_with fail
 obtain ⟨W0,hW0⟩: ∃V0,V0=(((w.alloc (.cells #[gu,.slice au zu cu] 31)).alloc (.cells #[true,.slice av zv cv] 31)).alloc (.cells #[false,(),false,()] 81)):=⟨_,rfl⟩
 rw [<-hW0]
 have FR:Hid (Frt w gu (.slice au zu cu) true (.slice av zv cv) false () false () W0):=by rw [hW0];exact Frt.start w _ _ _ _ _ _ _ _ _ _ _
 have HNI:Hid (ζf W0 (↑w+1+1)):=by
  have hz: ∀(i:Nat) (k:IntKind) (m:Int),(#[↑false,↑(),↑false,↑()]:Array Value)[i]? ≠some (Value.int k m):=by
   intro i k m
   match i with|0=>simp|1=>simp|2=>simp|3=>simp|n+4=>simp
  have h1:=ζf.new ((w.alloc (.cells #[gu,.slice au zu cu] 31)).alloc (.cells #[true,.slice av zv cv] 31)) #[false,(),false,()] 81 hz
  have hs:((w.alloc (.cells #[gu,.slice au zu cu] 31)).alloc (.cells #[true,.slice av zv cv] 31)).heap.size=w.heap.size+1+1:=by simp
  rw [hs] at h1
  unfold Hid;rw [hW0];exact h1
 clear hW0
 have RU_0:=(hk.later FR.out.bel).later (w':=W0.drew) (Below.refl _ _).drew
 have RV_0:=(hl.later FR.out.bel).later (w':=W0.drew) (Below.refl _ _).drew
 have NI_0:=HNI.out.later (w':=W0.drew) (Below.refl _ _).drew
 have F0:Frt w gu (.slice au zu cu) true (.slice av zv cv) false () false () W0.drew:=FR.out.later (Below.refl _ _).drew
 go_region_held3 (fun w'=>w'.cell? ⟨w,0,none⟩=some ↑gu∧w'.cell? ⟨w,1,none⟩=some (.slice au zu cu)∧w'.cell? ⟨↑w+1,0,none⟩=some ↑true∧w'.cell? ⟨↑w+1,1,none⟩=some (.slice av zv cv))
  (first|with_reducible exact (F2.set2 _ _ _ _).s|with_reducible exact Frt.s (by with_reducible assumption))
  (first
   |(have hBB:=hB1;clear hBB;go_at_call 130;refine (ηq _ e y _ RV_1).mono ?_;rintro o w2 ⟨v2,rfl,hv2,hb2,hn2⟩;have HNW2:Hid (∀k,AvV k _->AvV k v2):=hn2;clear hn2;have R2_2:ζe w2 v2 e (-y):=hv2;obtain ⟨gr2,ar2,cr2,zr2,rfl,_,_,_⟩:=hv2;have RU_2:=RU_1.later hb2;have RV_2:=RV_1.later hb2;have NI_2:=NI_1.later hb2;have R1_2:=R1_1.later hb2;have hB2:Below W0 W0 w2:=hB1.trans (hb2.mono hB1.size);have F2:Frt w gu (.slice au zu cu) true (.slice av zv cv) false () false () w2:=FR.out.later hB2;have r0:=F2.e2x0;have r1:=F2.e2x1;have r2:=F2.e2x2;have r3:=F2.e2x3;have rz:=F2.f2)
   |(go_at_call 130;refine (ηq _ e x _ RU_0).mono ?_;rintro o w1 ⟨v1,rfl,hv1,hb1,hn1⟩;have HNW1:Hid (∀k,AvV k _->AvV k v1):=hn1;clear hn1;have R1_1:ζe w1 v1 e (-x):=hv1;obtain ⟨gr1,ar1,cr1,zr1,rfl,_,_,_⟩:=hv1;have RU_1:=RU_0.later hb1;have RV_1:=RV_0.later hb1;have NI_1:=NI_0.later hb1;have hB1:Below W0 W0 w1:=(Below.refl _ _).drew.trans hb1;have F1:Frt w gu (.slice au zu cu) true (.slice av zv cv) false () false () w1:=FR.out.later hB1))
 have HF:=Hid.mk F2
 have HR1:=Hid.mk R1_2
 have HR2:=Hid.mk R2_2
 have HNN:=Hid.mk NI_2
 clear hB1 hb1 F1 hB2 hb2 F2 RU_0 RU_1 RU_2 RV_0 RV_1 RV_2 NI_0 NI_1 NI_2 R1_1 R1_2 R2_2 F0
 go_wp2
 refine bodyPost_ret (v:= .agg #[gr1,.slice ar1 zr1 cr1,gr2,.slice ar2 zr2 cr2]) (by simp [results,results83,go_sem,r0,r1,r2,r3]) rfl ?_
 refine ⟨_,rfl,⟨gr1,ar1,cr1,zr1,gr2,ar2,cr2,zr2,rfl,HR1.out.setAll [gr1,.slice ar1 zr1 cr1,gr2,.slice ar2 zr2 cr2] _ 0 HNN.out (by simp [ζh]),HR2.out.setAll [gr1,.slice ar1 zr1 cr1,gr2,.slice ar2 zr2 cr2] _ 0 HNN.out (by simp [ζh])⟩,(HF.out.set2 _ _ _ _).bel,fun k h1 h2=>AvV.four ((HNW1.out k h1).get 1 rfl) ((HNW2.out k h2).get 1 rfl)⟩
theorem ω5 (u v:Value) (e:Nat) (x y:Int) (w:World) (hu:ζe w u e x) (hv:ζe w v e y):
 Calls prog 83 #[u,v] w fun o w'=>ωd w e (if y<0 then-x else x) (if y<0 then-y else y) u v o w':=by
 by_cases hy:y<0
 ·rw [if_pos hy,if_pos hy];exact η5 u v e x y w hu hv hy
 ·rw [if_neg hy,if_neg hy];exact χL u v e x y w hu hv (by omega)
structure Ffo (w:World) (m0 m1 m2 m3 n0 n1 n2 n3:Value) (W:World):Prop where
 e0x0:W.cell? ⟨w,0,none⟩=some m0
 e0x1:W.cell? ⟨w,1,none⟩=some m1
 e0x2:W.cell? ⟨w,2,none⟩=some m2
 e0x3:W.cell? ⟨w,3,none⟩=some m3
 f0: ∀j,W.frozen? ⟨w,j,none⟩=false
 e1x0:W.cell? ⟨↑w+1,0,none⟩=some n0
 e1x1:W.cell? ⟨↑w+1,1,none⟩=some n1
 e1x2:W.cell? ⟨↑w+1,2,none⟩=some n2
 e1x3:W.cell? ⟨↑w+1,3,none⟩=some n3
 f1: ∀j,W.frozen? ⟨↑w+1,j,none⟩=false
 le:w.heap.size+1+1<=W.heap.size
 bel:Below w w W
theorem Ffo.start (w:World) (m0 m1 m2 m3 n0 n1 n2 n3:Value) (t0 t1:TypeId):Ffo w m0 m1 m2 m3 n0 n1 n2 n3 ((w.alloc (.cells #[m0,m1,m2,m3] t0)).alloc (.cells #[n0,n1,n2,n3] t1)):=by
 constructor<;>first|exact ((ζc _ _).trans ((ζc _ _).mono (by simp<;>omega)))|simp [go_sem]
theorem Ffo.later {n2 n3:Value} (h:Ffo w m0 m1 m2 m3 n0 n1 n2 n3 W) (hb:Below W W W'):Ffo w m0 m1 m2 m3 n0 n1 n2 n3 W':=by
 have q:=h.le
 have z:=h.bel.trans (hb.mono h.bel.size)
 cases h
 constructor<;>first|exact ((ζj hb).1 _ _ (by omega)).trans (by with_reducible assumption)|exact z|exact Nat.le_trans q hb.size| (intro j;exact ((ζj hb).2 _ _ (by omega)).trans (by apply_assumption))
theorem Ffo.s {n2 n3:Value} {w':World} (h:Ffo w m0 m1 m2 m3 n0 n1 n2 n3 w'):w'.cell? ⟨w,0,none⟩=some m0∧w'.cell? ⟨w,1,none⟩=some m1∧w'.cell? ⟨w,2,none⟩=some m2∧w'.cell? ⟨w,3,none⟩=some m3∧w'.cell? ⟨↑w+1,0,none⟩=some n0∧w'.cell? ⟨↑w+1,1,none⟩=some n1∧w'.cell? ⟨↑w+1,2,none⟩=some n2∧w'.cell? ⟨↑w+1,3,none⟩=some n3:=⟨h.e0x0,h.e0x1,h.e0x2,h.e0x3,h.e1x0,h.e1x1,h.e1x2,h.e1x3⟩
theorem ψ4 (f g:Value) (e:Nat) (p q r s:Int) (w:World) (he:e+e<=30000) (h1:ζO w f e p q) (h2:ζO w g e r s):
 Calls prog 50 #[f,g] w fun o w'=>o= .returned (.int .i64 (sgn (p*s-r*q)))∧Below w w w':=by
 obtain ⟨gu,au,cu,zu,gv,av,cv,zv,rfl,hu,hv⟩:=h1
 obtain ⟨gx,ax,cx,zx,gy,ay,cy,zy,rfl,hx,hy⟩:=h2
 go_enter func50,ntmps50
 go_wp2_with fail
 obtain ⟨W0,hW0⟩: ∃V0,V0=((w.alloc (.cells #[gu,.slice au zu cu,gv,.slice av zv cv] 81)).alloc (.cells #[gx,.slice ax zx cx,gy,.slice ay zy cy] 81)):=⟨_,rfl⟩
 rw [<-hW0]
 have FR:Hid (Ffo w gu (.slice au zu cu) gv (.slice av zv cv) gx (.slice ax zx cx) gy (.slice ay zy cy) W0):=by rw [hW0];exact Ffo.start w _ _ _ _ _ _ _ _ _ _
 clear hW0
 have RU_0:=(hu.later FR.out.bel).later (w':=W0.drew) (Below.refl _ _).drew
 have RV_0:=(hv.later FR.out.bel).later (w':=W0.drew) (Below.refl _ _).drew
 have RX_0:=(hx.later FR.out.bel).later (w':=W0.drew) (Below.refl _ _).drew
 have RY_0:=(hy.later FR.out.bel).later (w':=W0.drew) (Below.refl _ _).drew
 have F0:Ffo w gu (.slice au zu cu) gv (.slice av zv cv) gx (.slice ax zx cx) gy (.slice ay zy cy) W0.drew:=FR.out.later (Below.refl _ _).drew
 go_region_held3 (fun w'=>w'.cell? ⟨w,0,none⟩=some ↑gu∧w'.cell? ⟨w,1,none⟩=some (.slice au zu cu)∧w'.cell? ⟨w,2,none⟩=some ↑gv∧w'.cell? ⟨w,3,none⟩=some (.slice av zv cv)∧w'.cell? ⟨↑w+1,0,none⟩=some ↑gx∧w'.cell? ⟨↑w+1,1,none⟩=some (.slice ax zx cx)∧w'.cell? ⟨↑w+1,2,none⟩=some ↑gy∧w'.cell? ⟨↑w+1,3,none⟩=some (.slice ay zy cy))
  (with_reducible exact Ffo.s (by with_reducible assumption))
  (first
   |(have hBB:=hB2;clear hBB;go_at_call 54;refine (κF _ _ (e+e) (e+e) (p*s) (r*q) _ he he R1_2 R2_2).mono ?_;rintro o w3 ⟨rfl,hb3⟩;have RU_3:=RU_2.later hb3;have RV_3:=RV_2.later hb3;have RX_3:=RX_2.later hb3;have RY_3:=RY_2.later hb3;have R1_3:=R1_2.later hb3;have R2_3:=R2_2.later hb3;have hB3:Below W0 W0 w3:=hB2.trans (hb3.mono hB2.size);have F3:Ffo w gu (.slice au zu cu) gv (.slice av zv cv) gx (.slice ax zx cx) gy (.slice ay zy cy) w3:=FR.out.later hB3)
   |(have hBB:=hB1;clear hBB;go_at_call 53;refine (ξR _ _ e e r q _ he RX_1 RV_1).mono ?_;rintro o w2 ⟨v2,rfl,hv2,hb2⟩;have R2_2:ζe w2 v2 (e+e) (r*q):=hv2;obtain ⟨gr2,ar2,cr2,zr2,rfl,_,_,_⟩:=hv2;have RU_2:=RU_1.later hb2;have RV_2:=RV_1.later hb2;have RX_2:=RX_1.later hb2;have RY_2:=RY_1.later hb2;have R1_2:=R1_1.later hb2;have hB2:Below W0 W0 w2:=hB1.trans (hb2.mono hB1.size);have F2:Ffo w gu (.slice au zu cu) gv (.slice av zv cv) gx (.slice ax zx cx) gy (.slice ay zy cy) w2:=FR.out.later hB2)
   |(go_at_call 53;refine (ξR _ _ e e p s _ he RU_0 RY_0).mono ?_;rintro o w1 ⟨v1,rfl,hv1,hb1⟩;have R1_1:ζe w1 v1 (e+e) (p*s):=hv1;obtain ⟨gr1,ar1,cr1,zr1,rfl,_,_,_⟩:=hv1;have RU_1:=RU_0.later hb1;have RV_1:=RV_0.later hb1;have RX_1:=RX_0.later hb1;have RY_1:=RY_0.later hb1;have hB1:Below W0 W0 w1:=(Below.refl _ _).drew.trans hb1;have F1:Ffo w gu (.slice au zu cu) gv (.slice av zv cv) gx (.slice ax zx cx) gy (.slice ay zy cy) w1:=FR.out.later hB1))
 have HF:=Hid.mk F3
 clear hB1 hb1 F1 hB2 hb2 F2 hB3 hb3 F3 F0
 go_wp2
 go_ret
 exact ⟨rfl,HF.out.bel⟩
def ω6 (w:World) (e:Nat) (p q r s:Int) (o:Ending) (w':World):Prop:= ∃v,o= .returned v∧ζR w' v e p q r s∧Below w w w'∧ψB w v
theorem χM (v:Value) (e:Nat) (p q r s:Int) (w:World) (he:e<=30000) (h:ζR w v e p q r s):
 Calls prog 41 #[v] w fun o w'=>o= .returned (.bool (decide (q≠0)))∧Below w w w':=by
 obtain ⟨g1,a1,c1,z1,g2,a2,c2,z2,g3,a3,c3,z3,g4,a4,c4,z4,rfl,h1,h2,h3,h4⟩:=h
 have HB0:Hid (∀t,Below w w (w.alloc (.cells #[g1,.slice a1 z1 c1,g2,.slice a2 z2 c2,g3,.slice a3 z3 c3,g4,.slice a4 z4 c4] t))):=fun t=>ζc _ _
 go_enter func41,ntmps41
 go_wp2_with fail
 refine (ζA _ e q _ he (h2.later (HB0.out _))).mono ?_
 rintro o w1 ⟨rfl,hb1⟩
 have HB:Hid (Below w w w1):=(HB0.out _).trans (hb1.mono (HB0.out _).size)
 clear hb1 HB0 h1 h2 h3 h4
 rcases sgn_cases q with ⟨hq,hs⟩| ⟨hq,hs⟩| ⟨hq,hs⟩
 ·have HD:Hid (decide (q≠0)=true):=by unfold Hid;simp;omega
  rw [hs]
  clear hs hq
  go_wp2
  go_ret
  exact ⟨by rw [HD.out];rfl,HB.out⟩
 ·have HD:Hid (decide (q≠0)=false):=by unfold Hid;simp;omega
  rw [hs]
  clear hs hq
  go_wp2
  go_ret
  exact ⟨by rw [HD.out];rfl,HB.out⟩
 ·have HD:Hid (decide (q≠0)=true):=by unfold Hid;simp;omega
  rw [hs]
  clear hs hq
  go_wp2
  go_ret
  exact ⟨by rw [HD.out];rfl,HB.out⟩
structure Fnw (w:World) (m0 m1 m2 m3 m4 m5 m6 m7:Value) (W:World):Prop where
 e0x0:W.cell? ⟨w,0,none⟩=some m0
 e0x1:W.cell? ⟨w,1,none⟩=some m1
 e0x2:W.cell? ⟨w,2,none⟩=some m2
 e0x3:W.cell? ⟨w,3,none⟩=some m3
 e0x4:W.cell? ⟨w,4,none⟩=some m4
 e0x5:W.cell? ⟨w,5,none⟩=some m5
 e0x6:W.cell? ⟨w,6,none⟩=some m6
 e0x7:W.cell? ⟨w,7,none⟩=some m7
 f0: ∀j,W.frozen? ⟨w,j,none⟩=false
 le:w.heap.size+1<=W.heap.size
 bel:Below w w W
theorem Fnw.start (w:World) (m0 m1 m2 m3 m4 m5 m6 m7:Value) (t0:TypeId):Fnw w m0 m1 m2 m3 m4 m5 m6 m7 (w.alloc (.cells #[m0,m1,m2,m3,m4,m5,m6,m7] t0)):=by
 constructor<;>first|exact (ζc _ _)|simp [go_sem]
theorem Fnw.later {m4 m5 m6 m7:Value} (h:Fnw w m0 m1 m2 m3 m4 m5 m6 m7 W) (hb:Below W W W'):Fnw w m0 m1 m2 m3 m4 m5 m6 m7 W':=by
 have q:=h.le
 have z:=h.bel.trans (hb.mono h.bel.size)
 cases h
 constructor<;>first|exact ((ζj hb).1 _ _ (by omega)).trans (by with_reducible assumption)|exact z|exact Nat.le_trans q hb.size| (intro j;exact ((ζj hb).2 _ _ (by omega)).trans (by apply_assumption))
theorem Fnw.set0 {m4 m5 m6 m7:Value} (h:Fnw w m0 m1 m2 m3 m4 m5 m6 m7 W) (v0 v1 v2 v3 v4 v5 v6 v7:Value):Fnw w v0 v1 v2 v3 v4 v5 v6 v7 ((((((((W.setCell ⟨w,0,none⟩ v0).setCell ⟨w,1,none⟩ v1).setCell ⟨w,2,none⟩ v2).setCell ⟨w,3,none⟩ v3).setCell ⟨w,4,none⟩ v4).setCell ⟨w,5,none⟩ v5).setCell ⟨w,6,none⟩ v6).setCell ⟨w,7,none⟩ v7):=by
 have hle:=h.le
 constructor<;>first|exact ((((((((h.bel.setCell (by simp<;>omega) _).setCell (by simp<;>omega) _).setCell (by simp<;>omega) _).setCell (by simp<;>omega) _).setCell (by simp<;>omega) _).setCell (by simp<;>omega) _).setCell (by simp<;>omega) _).setCell (by simp<;>omega) _)| (cases h;simp [go_sem, *])
theorem ψN (e:Nat) (w:World):
 Calls prog 80 #[] w fun o w'=>ω6 w e 1 0 0 1 o w':=by
 have HF0:Hid (∀t,Fnw w false () false () false () false () (w.alloc (.cells #[false,(),false,(),false,(),false,()] t))):=fun t=>Fnw.start w _ _ _ _ _ _ _ _ t
 have HN0:Hid (∀t,ζf (w.alloc (.cells #[false,(),false,(),false,(),false,()] t)) w):=fun t=>ζf.new w _ t (fun i k m=>by match i with|0=>simp|1=>simp|2=>simp|3=>simp|4=>simp|5=>simp|6=>simp|7=>simp|n+8=>simp)
 go_enter func80,ntmps80
 go_wp2_with fail
 refine (φD _).mono ?_
 rintro o w1 ⟨v1,rfl,hv1,hb1,hn1⟩
 have HA1:Hid (ψB w v1):=hn1.mono (HF0.out _).bel.size
 clear hn1
 have R1_1:=Hid.mk hv1
 obtain ⟨gr1,ar1,cr1,zr1,rfl,_,_,_⟩:=hv1
 have HF1:Hid (Fnw w false () false () false () false () w1):=(HF0.out _).later hb1
 have HN1:Hid (ζf w1 w):=(HN0.out _).later hb1
 clear hb1 HF0 HN0
 go_wp2_with fail
 refine (φD _).mono ?_
 rintro o w2 ⟨v2,rfl,hv2,hb2,hn2⟩
 have HA2:Hid (ψB w v2):=hn2.mono HF1.out.bel.size
 clear hn2
 have HR1:=Hid.mk (R1_1.out.later hb2)
 have HR2:=Hid.mk hv2
 obtain ⟨gr2,ar2,cr2,zr2,rfl,_,_,_⟩:=hv2
 have HF:=Hid.mk (HF1.out.later hb2)
 have HN:Hid (ζf w2 w):=HN1.out.later hb2
 clear hb2 HF1 HN1 R1_1
 have r0:=HF.out.e0x0
 have r1:=HF.out.e0x1
 have r2:=HF.out.e0x2
 have r3:=HF.out.e0x3
 have r4:=HF.out.e0x4
 have r5:=HF.out.e0x5
 have r6:=HF.out.e0x6
 have r7:=HF.out.e0x7
 have rz:=HF.out.f0
 go_wp2
 refine bodyPost_ret (v:= .agg #[gr1,.slice ar1 zr1 cr1,false,(),false,(),gr2,.slice ar2 zr2 cr2]) (by simp [results,results80,go_sem,r0,r1,r2,r3,r4,r5,r6,r7]) rfl ?_
 refine ⟨_,rfl,⟨gr1,ar1,cr1,zr1,false,none,0,[],false,none,0,[],gr2,ar2,cr2,zr2,rfl,(HR1.out.setAll [gr1,.slice ar1 zr1 cr1,false,(),false,(),gr2,.slice ar2 zr2 cr2] _ 0 HN.out (by simp [ζh])).up (Nat.zero_le _),ζe.zero _ _,ζe.zero _ _,(HR2.out.setAll [gr1,.slice ar1 zr1 cr1,false,(),false,(),gr2,.slice ar2 zr2 cr2] _ 0 HN.out (by simp [ζh])).up (Nat.zero_le _)⟩,(HF.out.set0 _ _ _ _ _ _ _ _).bel,fun k hk=>AvV.eight ((HA1.out k hk).get 1 rfl) (AvA.nil _ _) (AvA.nil _ _) ((HA2.out k hk).get 1 rfl)⟩
theorem σd (e:Nat) (w:World):
 Calls prog 134 #[] w fun o w'=>ω6 w e 0 1 1 0 o w':=by
 have HF0:Hid (∀t,Fnw w false () false () false () false () (w.alloc (.cells #[false,(),false,(),false,(),false,()] t))):=fun t=>Fnw.start w _ _ _ _ _ _ _ _ t
 have HN0:Hid (∀t,ζf (w.alloc (.cells #[false,(),false,(),false,(),false,()] t)) w):=fun t=>ζf.new w _ t (fun i k m=>by match i with|0=>simp|1=>simp|2=>simp|3=>simp|4=>simp|5=>simp|6=>simp|7=>simp|n+8=>simp)
 go_enter func134,ntmps134
 go_wp2_with fail
 refine (φD _).mono ?_
 rintro o w1 ⟨v1,rfl,hv1,hb1,hn1⟩
 have HA1:Hid (ψB w v1):=hn1.mono (HF0.out _).bel.size
 clear hn1
 have R1_1:=Hid.mk hv1
 obtain ⟨gr1,ar1,cr1,zr1,rfl,_,_,_⟩:=hv1
 have HF1:Hid (Fnw w false () false () false () false () w1):=(HF0.out _).later hb1
 have HN1:Hid (ζf w1 w):=(HN0.out _).later hb1
 clear hb1 HF0 HN0
 go_wp2_with fail
 refine (φD _).mono ?_
 rintro o w2 ⟨v2,rfl,hv2,hb2,hn2⟩
 have HA2:Hid (ψB w v2):=hn2.mono HF1.out.bel.size
 clear hn2
 have HR1:=Hid.mk (R1_1.out.later hb2)
 have HR2:=Hid.mk hv2
 obtain ⟨gr2,ar2,cr2,zr2,rfl,_,_,_⟩:=hv2
 have HF:=Hid.mk (HF1.out.later hb2)
 have HN:Hid (ζf w2 w):=HN1.out.later hb2
 clear hb2 HF1 HN1 R1_1
 have r0:=HF.out.e0x0
 have r1:=HF.out.e0x1
 have r2:=HF.out.e0x2
 have r3:=HF.out.e0x3
 have r4:=HF.out.e0x4
 have r5:=HF.out.e0x5
 have r6:=HF.out.e0x6
 have r7:=HF.out.e0x7
 have rz:=HF.out.f0
 go_wp2
 refine bodyPost_ret (v:= .agg #[false,(),gr1,.slice ar1 zr1 cr1,gr2,.slice ar2 zr2 cr2,false,()]) (by simp [results,results134,go_sem,r0,r1,r2,r3,r4,r5,r6,r7]) rfl ?_
 refine ⟨_,rfl,⟨false,none,0,[],gr1,ar1,cr1,zr1,gr2,ar2,cr2,zr2,false,none,0,[],rfl,ζe.zero _ _,(HR1.out.setAll [false,(),gr1,.slice ar1 zr1 cr1,gr2,.slice ar2 zr2 cr2,false,()] _ 0 HN.out (by simp [ζh])).up (Nat.zero_le _),(HR2.out.setAll [false,(),gr1,.slice ar1 zr1 cr1,gr2,.slice ar2 zr2 cr2,false,()] _ 0 HN.out (by simp [ζh])).up (Nat.zero_le _),ζe.zero _ _⟩,(HF.out.set0 _ _ _ _ _ _ _ _).bel,fun k hk=>AvV.eight (AvA.nil _ _) ((HA1.out k hk).get 1 rfl) ((HA2.out k hk).get 1 rfl) (AvA.nil _ _)⟩
theorem ζf.setX {b b' i:Nat} {u:Value} (h:ζf w b) (hu:ζh u):ζf (w.setCell ⟨b',i,none⟩ u) b:=by
 by_cases e:b'=b
 ·subst e;exact h.set hu
 ·refine ⟨by simpa using h.1,fun j k m hh=> ?_⟩
  rw [World.cell?_setCell_other _ _ _ _ (by intro q;apply e;have:=congrArg Addr.block q;simpa using this)] at hh
  exact h.2 j k m hh
theorem ζf.setAllX {b b':Nat}: ∀(us:List Value) (w:World) (i:Nat),ζf w b->(∀u∈us,ζh u)->ζf (setAll w b' i us) b
 | [],_,_,h,_=>h
 |u::us,_,i,h,hu=>ζf.setAllX us _ (i+1) (h.setX (hu u (List.mem_cons_self ..))) (fun z hz=>hu z (List.mem_cons_of_mem _ hz))
def nI:Value->Bool
 | .int _ _=>false
 |_=>true
theorem ξS {us:List Value} (h:us.all nI=true): ∀u∈us,ζh u:=by
 intro u hu k m e
 have:=List.all_eq_true.1 h u hu
 rw [e] at this
 cases this
theorem ζf.newL (w:World) (cs:Array Value) (t:TypeId) (h:cs.toList.all nI=true):ζf (w.alloc (.cells cs t)) w.heap.size:=
 ζf.new w cs t fun i k m e=>ξS h _ (List.mem_of_getElem? (by rw [Array.getElem?_toList];exact e)) k m rfl
structure Bx4 (w:World) (A F G Z:List Value) (W:World):Prop where
 a:Cs W w A
 f:Cs W (↑w+1) F
 g:Cs W (↑w+1+1) G
 z:Cs W (↑w+1+1+1) Z
 i0:ζf W w.heap.size
 i3:ζf W (↑w+1+1+1)
 bel:Below w w W
theorem Bx4.later (h:Bx4 w A F G Z W) (hb:Below W W W'):Bx4 w A F G Z W':=
 ⟨h.a.later hb,h.f.later hb,h.g.later hb,h.z.later hb,h.i0.later hb,h.i3.later hb,h.bel.trans (hb.mono h.bel.size)⟩
theorem Bx4.start (w:World) (A F G Z:Array Value) (hA:A.toList.all nI=true) (hZ:Z.toList.all nI=true) (t0 t1 t2 t3:TypeId):Bx4 w A.toList F.toList G.toList Z.toList ((((w.alloc (.cells A t0)).alloc (.cells F t1)).alloc (.cells G t2)).alloc (.cells Z t3)):=by
 have h1:=Cs.new (w.alloc (.cells A t0)) F t1
 have h2:=Cs.new ((w.alloc (.cells A t0)).alloc (.cells F t1)) G t2
 have h3:=Cs.new (((w.alloc (.cells A t0)).alloc (.cells F t1)).alloc (.cells G t2)) Z t3
 have h4:=ζf.newL (((w.alloc (.cells A t0)).alloc (.cells F t1)).alloc (.cells G t2)) Z t3 hZ
 have e1:(w.alloc (.cells A t0)).heap.size=w.heap.size+1:=by simp
 have e2:((w.alloc (.cells A t0)).alloc (.cells F t1)).heap.size=w.heap.size+1+1:=by simp
 have e3:(((w.alloc (.cells A t0)).alloc (.cells F t1)).alloc (.cells G t2)).heap.size=w.heap.size+1+1+1:=by simp
 rw [e1] at h1
 rw [e2] at h2
 rw [e3] at h3 h4
 exact ⟨(((Cs.new w A t0).later (ζc _ _)).later (ζc _ _)).later (ζc _ _),(h1.later (ζc _ _)).later (ζc _ _),h2.later (ζc _ _),h3,(((ζf.newL w A t0 hA).later (ζc _ _)).later (ζc _ _)).later (ζc _ _),h4,(((ζc _ _).trans ((ζc _ _).mono (by simp<;>omega))).trans ((ζc _ _).mono (by simp<;>omega))).trans ((ζc _ _).mono (by simp<;>omega))⟩
theorem Bx4.set (h:Bx4 w A F G Z W) (i:Nat) (vs:List Value) (hl:i+vs.length<=A.length) (hn:vs.all nI=true):Bx4 w (τz A i vs) F G Z (setAll W w i vs):=
 ⟨Cs.setAll vs W i A h.a hl,Cs.setAllO (by omega) vs W i _ h.f,Cs.setAllO (by omega) vs W i _ h.g,Cs.setAllO (by omega) vs W i _ h.z,ζf.setAllX vs W i h.i0 (ξS hn),ζf.setAllX vs W i h.i3 (ξS hn),ζd (Nat.le_refl _) vs W i h.bel⟩
theorem Bx4.end (h:Bx4 w A F G Z W) (vs:List Value):Below w w (setAll W (↑w+1+1+1) 0 vs):=ζd (by omega) vs W 0 h.bel
def ζS (a b c d x y:Int):Int×Int×Int×Int:=
 if x=0∧0<y then (1,0,0,1) else
 if 0<x∧0<y*b-a*x then (if 0<y*d-c*x then (1,0,0,1) else (y,x,c,d)) else
 if x<0∧ -y*d-c* -x<0 then (if 0<a* -x- -y*b then (1,0,0,1) else (a,b,-y,-x)) else
 if 0<a*d-c*b then (1,0,0,1) else (a,b,c,d)
def τ5 (w:World) (e:Nat) (p q r s:Int) (v sl bd:Value) (o:Ending) (w':World):Prop:= ∃u,o= .returned u∧ζR w' u e p q r s∧Below w w w'∧ ∀k,k<w.heap.size->AvV k v->AvV k sl->AvV k bd->AvV k u
def σe (w:World) (e:Nat) (R:Int×Int×Int×Int) (v sl bd:Value) (o:Ending) (w':World):Prop:=τ5 w e R.1 R.2.1 R.2.2.1 R.2.2.2 v sl bd o w'
theorem ζO.of {g1 g2:Bool} {a1 a2:Option Addr} {n1 n2 c1 c2:Nat} (h1:ζe w (.agg #[g1,.slice a1 n1 c1]) e p) (h2:ζe w (.agg #[g2,.slice a2 n2 c2]) e q):ζO w (.agg #[g1,.slice a1 n1 c1,g2,.slice a2 n2 c2]) e p q:=by
 obtain ⟨z1,rfl,_⟩:=h1.inv
 obtain ⟨z2,rfl,_⟩:=h2.inv
 exact ⟨_,_,_,_,_,_,_,_,rfl,h1,h2⟩
theorem ζR.of {g1 g2 g3 g4:Bool} {a1 a2 a3 a4:Option Addr} {n1 n2 n3 n4 c1 c2 c3 c4:Nat} {s:Int} (h1:ζe w (.agg #[g1,.slice a1 n1 c1]) e p) (h2:ζe w (.agg #[g2,.slice a2 n2 c2]) e q) (h3:ζe w (.agg #[g3,.slice a3 n3 c3]) e r) (h4:ζe w (.agg #[g4,.slice a4 n4 c4]) e s):ζR w (.agg #[g1,.slice a1 n1 c1,g2,.slice a2 n2 c2,g3,.slice a3 n3 c3,g4,.slice a4 n4 c4]) e p q r s:=by
 obtain ⟨z1,rfl,_⟩:=h1.inv
 obtain ⟨z2,rfl,_⟩:=h2.inv
 obtain ⟨z3,rfl,_⟩:=h3.inv
 obtain ⟨z4,rfl,_⟩:=h4.inv
 exact ⟨_,_,_,_,_,_,_,_,_,_,_,_,_,_,_,_,rfl,h1,h2,h3,h4⟩
structure WhS (w:World) (e:Nat) (u0 u1 u2 u3 u4 u5 u6 u7 x0 x1 y0 y1:Value) (p q r s x y:Int) (W:World):Prop where
 f:Bx4 w [u0,u1,u2,u3,u4,u5,u6,u7] [x0,x1] [y0,y1] [false,(),false,(),false,(),false,()] W
 b1:ζe W (.agg #[u0,u1]) e p
 b2:ζe W (.agg #[u2,u3]) e q
 b3:ζe W (.agg #[u4,u5]) e r
 b4:ζe W (.agg #[u6,u7]) e s
 bx:ζe W (.agg #[x0,x1]) e x
 by':ζe W (.agg #[y0,y1]) e y
theorem WhS.later {s:Int} (h:WhS w e u0 u1 u2 u3 u4 u5 u6 u7 x0 x1 y0 y1 p q r s x y W) (hb:Below W W W'):WhS w e u0 u1 u2 u3 u4 u5 u6 u7 x0 x1 y0 y1 p q r s x y W':=
 ⟨h.f.later hb,h.b1.later hb,h.b2.later hb,h.b3.later hb,h.b4.later hb,h.bx.later hb,h.by'.later hb⟩
theorem WhS.half0 {v0 v1 v2 v3:Value} {s:Int} (h:WhS w e u0 u1 u2 u3 u4 u5 u6 u7 x0 x1 y0 y1 p q r s x y W) (hn:[v0,v1,v2,v3].all nI=true) (h1:ζe W (.agg #[v0,v1]) e n) (h2:ζe W (.agg #[v2,v3]) e m):WhS w e v0 v1 v2 v3 u4 u5 u6 u7 x0 x1 y0 y1 n m r s x y (setAll W w 0 [v0,v1,v2,v3]):=
 have i:=h.f.i0
 have j:=ξS hn
 ⟨h.f.set 0 _ (by simp) hn,h1.setAll _ _ _ i j,h2.setAll _ _ _ i j,h.b3.setAll _ _ _ i j,h.b4.setAll _ _ _ i j,h.bx.setAll _ _ _ i j,h.by'.setAll _ _ _ i j⟩
theorem WhS.half4 {v0 v1 v2 v3:Value} {s:Int} (h:WhS w e u0 u1 u2 u3 u4 u5 u6 u7 x0 x1 y0 y1 p q r s x y W) (hn:[v0,v1,v2,v3].all nI=true) (h1:ζe W (.agg #[v0,v1]) e n) (h2:ζe W (.agg #[v2,v3]) e m):WhS w e u0 u1 u2 u3 v0 v1 v2 v3 x0 x1 y0 y1 p q n m x y (setAll W w 4 [v0,v1,v2,v3]):=
 have i:=h.f.i0
 have j:=ξS hn
 ⟨h.f.set 4 _ (by simp) hn,h.b1.setAll _ _ _ i j,h.b2.setAll _ _ _ i j,h1.setAll _ _ _ i j,h2.setAll _ _ _ i j,h.bx.setAll _ _ _ i j,h.by'.setAll _ _ _ i j⟩
structure AtS (B e:Nat) (t1 t2 t3 t4:Value) (n m:Int) (W:World):Prop where
 c:Cs W B [t1,t2,t3,t4]
 b1:ζe W (.agg #[t1,t2]) e n
 b2:ζe W (.agg #[t3,t4]) e m
theorem AtS.later {B:Nat} {t1 t2 t3 t4:Value} (h:AtS B e t1 t2 t3 t4 n m W) (hb:Below W W W'):AtS B e t1 t2 t3 t4 n m W':=
 ⟨h.c.later hb,h.b1.later hb,h.b2.later hb⟩
def AvS (v sl bd u:Value):Prop:= ∀k,AvV k v->AvV k sl->AvV k bd->AvV k u
theorem σf (v sl bd:Value) (e:Nat) (a b c d x y:Int) (w:World) (he:e+e<=30000) (hs:ζR w v e a b c d) (hx0:ζe w sl e x) (hy0:ζe w bd e y):
 Calls prog 137 #[v,sl,bd] w fun o w'=>σe w e (ζS a b c d x y) v sl bd o w':=by
 unfold σe
 obtain ⟨R,hR⟩: ∃R,ζS a b c d x y=R:=⟨_,rfl⟩
 rw [hR]
 have HR:=Hid.mk hR
 obtain ⟨N,hN⟩: ∃N,(if x<0 then-y else y)=N:=⟨_,rfl⟩
 obtain ⟨M,hM⟩: ∃M,(if x<0 then-x else x)=M:=⟨_,rfl⟩
 have HN:=Hid.mk hN
 have HM:=Hid.mk hM
 obtain ⟨g1,a1,c1,z1,g2,a2,c2,z2,g3,a3,c3,z3,g4,a4,c4,z4,rfl,h1,h2,h3,h4⟩:=hs
 have hk:=hx0
 have hl:=hy0
 obtain ⟨gx,ax,cx,zx,rfl,_,_,_⟩:=hx0
 obtain ⟨gy,ay,cy,zy,rfl,_,_,_⟩:=hy0
 have HS0:Hid (∀t0 t1 t2 t3,WhS w e g1 (.slice a1 z1 c1) g2 (.slice a2 z2 c2) g3 (.slice a3 z3 c3) g4 (.slice a4 z4 c4) gx (.slice ax zx cx) gy (.slice ay zy cy) a b c d x y ((((w.alloc (.cells #[g1,.slice a1 z1 c1,g2,.slice a2 z2 c2,g3,.slice a3 z3 c3,g4,.slice a4 z4 c4] t0)).alloc (.cells #[gx,.slice ax zx cx] t1)).alloc (.cells #[gy,.slice ay zy cy] t2)).alloc (.cells #[false,(),false,(),false,(),false,()] t3))):=by
  intro t0 t1 t2 t3
  have hF:=Bx4.start w #[g1,.slice a1 z1 c1,g2,.slice a2 z2 c2,g3,.slice a3 z3 c3,g4,.slice a4 z4 c4] #[gx,.slice ax zx cx] #[gy,.slice ay zy cy] #[false,(),false,(),false,(),false,()] rfl rfl t0 t1 t2 t3
  exact ⟨hF,h1.later hF.bel,h2.later hF.bel,h3.later hF.bel,h4.later hF.bel,hk.later hF.bel,hl.later hF.bel⟩
 go_enter func137,ntmps137
 go_wp2_with fail
 refine (ω5 _ _ e y x _ (HS0.out _ _ _ _).by' (HS0.out _ _ _ _).bx).mono ?_
 rintro o w1 ⟨v1,rfl,hv1,hb1,hav1⟩
 rw [hN,hM] at hv1
 have HAV:=Hid.mk hav1
 obtain ⟨gp,ap,cp,zp,gq,aq,cq,zq,rfl,k1,k2⟩:=hv1
 have HS1:Hid _:=(HS0.out _ _ _ _).later hb1
 have HB:Hid (Below w1 w1 (w1.alloc (.cells #[gp,.slice ap zp cp,gq,.slice aq zq cq] 81))):=ζc _ _
 have HA1:Hid (AtS w1 e gp (.slice ap zp cp) gq (.slice aq zq cq) N M (w1.alloc (.cells #[gp,.slice ap zp cp,gq,.slice aq zq cq] 81))):=⟨Cs.new w1 #[gp,.slice ap zp cp,gq,.slice aq zq cq] _,k1.later HB.out,k2.later HB.out⟩
 have HS2:Hid _:=HS1.out.later HB.out
 clear hav1 hb1 HS0 k1 k2 hk hl h1 h2 h3 h4 hR hN hM HB
 have HS:=HS1
 obtain ⟨z0,z1',z2',z3',z4',z5,z6,z7⟩:=HS.out.f.a.c8
 obtain ⟨x0,x1⟩:=HS.out.f.f.c2
 obtain ⟨y0,y1⟩:=HS.out.f.g.c2
 clear HS
 have q0:w.heap.size<w1.heap.size:=HS1.out.f.a.1
 have q1:w.heap.size+1<w1.heap.size:=HS1.out.f.f.1
 have q2:w.heap.size+1+1<w1.heap.size:=HS1.out.f.g.1
 have q3:w.heap.size+1+1+1<w1.heap.size:=HS1.out.f.z.1
 go_upto_block 0 with fail
 generalize hB:w1.heap.size=B at*
 obtain ⟨WA,hWA⟩: ∃V,V=w1.alloc (.cells #[gp,.slice ap zp cp,gq,.slice aq zq cq] 81):=⟨_,rfl⟩
 rw [<-hWA] at HS2 HA1⊢
 clear hB hWA HS1 q0 q1 q2 q3 z0 z1' z2' z3' z4' z5 z6 z7 x0 x1 y0 y1
 have HS:=HS2
 have HA:=HA1
 clear HS2 HA1
 go_cut [] from 8 to 54 (fun wx=> ∃(g5:Bool) (a5:Option Addr) (n5 c5:Nat) (g6:Bool) (a6:Option Addr) (n6 c6:Nat) (g7:Bool) (a7:Option Addr) (n7 c7:Nat) (g8:Bool) (a8:Option Addr) (n8 c8:Nat) (p q r s:Int),Hid (WhS w e g5 (.slice a5 n5 c5) g6 (.slice a6 n6 c6) g7 (.slice a7 n7 c7) g8 (.slice a8 n8 c8) gx (.slice ax zx cx) gy (.slice ay zy cy) p q r s x y wx)∧Hid (AvS (.agg #[g1,.slice a1 z1 c1,g2,.slice a2 z2 c2,g3,.slice a3 z3 c3,g4,.slice a4 z4 c4]) (.agg #[gx,.slice ax zx cx]) (.agg #[gy,.slice ay zy cy]) (.agg #[g5,.slice a5 n5 c5,g6,.slice a6 n6 c6,g7,.slice a7 n7 c7,g8,.slice a8 n8 c8]))∧Hid (R=if 0<p*s-r*q then (1,0,0,1) else (p,q,r,s)))
 case first=>
  obtain ⟨z0,z1',z2',z3',z4',z5,z6,z7⟩:=HS.out.f.a.c8
  obtain ⟨x0,x1⟩:=HS.out.f.f.c2
  obtain ⟨y0,y1⟩:=HS.out.f.g.c2
  obtain ⟨t1,t2,t3,t4⟩:=HA.out.c.c4
  go_wp2_with fail
  refine (ζA _ e x _ (by omega) HS.out.bx).mono ?_
  rintro o u ⟨rfl,hb⟩
  replace HS:Hid _:=HS.out.later hb
  replace HA:Hid _:=HA.out.later hb
  clear hb z0 z1' z2' z3' z4' z5 z6 z7 x0 x1 y0 y1 t1 t2 t3 t4
  rcases sgn_cases x with ⟨hx,ex⟩| ⟨hx,ex⟩| ⟨hx,ex⟩
  ·have HX:Hid (sgn x= -1):=ex
   have hN: -y=N:=by have:=HN.out;rwa [if_pos hx] at this
   have hM: -x=M:=by have:=HM.out;rwa [if_pos hx] at this
   subst hN hM
   rw [ex]
   clear ex HN HM
   obtain ⟨z0,z1',z2',z3',z4',z5,z6,z7⟩:=HS.out.f.a.c8
   obtain ⟨x0,x1⟩:=HS.out.f.f.c2
   obtain ⟨y0,y1⟩:=HS.out.f.g.c2
   obtain ⟨t1,t2,t3,t4⟩:=HA.out.c.c4
   go_wp2_with fail
   refine (ζA _ e x _ (by omega) HS.out.bx).mono ?_
   rintro o u ⟨rfl,hb⟩
   replace HS:Hid _:=HS.out.later hb
   replace HA:Hid _:=HA.out.later hb
   clear hb z0 z1' z2' z3' z4' z5 z6 z7 x0 x1 y0 y1 t1 t2 t3 t4
   rw [HX.out]
   obtain ⟨z0,z1',z2',z3',z4',z5,z6,z7⟩:=HS.out.f.a.c8
   obtain ⟨x0,x1⟩:=HS.out.f.f.c2
   obtain ⟨y0,y1⟩:=HS.out.f.g.c2
   obtain ⟨t1,t2,t3,t4⟩:=HA.out.c.c4
   go_wp2_with fail
   refine (ζA _ e x _ (by omega) HS.out.bx).mono ?_
   rintro o u ⟨rfl,hb⟩
   replace HS:Hid _:=HS.out.later hb
   replace HA:Hid _:=HA.out.later hb
   clear hb z0 z1' z2' z3' z4' z5 z6 z7 x0 x1 y0 y1 t1 t2 t3 t4
   rw [HX.out]
   obtain ⟨z0,z1',z2',z3',z4',z5,z6,z7⟩:=HS.out.f.a.c8
   obtain ⟨x0,x1⟩:=HS.out.f.f.c2
   obtain ⟨y0,y1⟩:=HS.out.f.g.c2
   obtain ⟨t1,t2,t3,t4⟩:=HA.out.c.c4
   go_wp2_with fail
   refine (ψ4 _ _ e (-y) (-x) c d _ he (.of HA.out.b1 HA.out.b2) (.of HS.out.b3 HS.out.b4)).mono ?_
   rintro o u ⟨rfl,hb⟩
   replace HS:Hid _:=HS.out.later hb
   replace HA:Hid _:=HA.out.later hb
   clear hb z0 z1' z2' z3' z4' z5 z6 z7 x0 x1 y0 y1 t1 t2 t3 t4
   rcases sgn_cases (-y*d-c* -x) with ⟨ho,eo⟩| ⟨ho,eo⟩| ⟨ho,eo⟩
   ·rw [eo]
    have HT:Hid _:=HS.out.half4 rfl HA.out.b1 HA.out.b2
    obtain ⟨z0,z1',z2',z3',z4',z5,z6,z7⟩:=HS.out.f.a.c8
    obtain ⟨x0,x1⟩:=HS.out.f.f.c2
    obtain ⟨y0,y1⟩:=HS.out.f.g.c2
    obtain ⟨t1,t2,t3,t4⟩:=HA.out.c.c4
    have zf:=HS.out.f.a.2.1
    go_wp2_with fail
    go_meet
    case rel=>exact ⟨_,_,_,_,_,_,_,_,_,_,_,_,_,_,_,_,_,_,_,_,HT,fun k h1 h2 h3=>AvV.eight (h1.get 1 rfl) (h1.get 3 rfl) ((HAV.out k h3 h2).get 1 rfl) ((HAV.out k h3 h2).get 3 rfl),by unfold Hid;rw [<-HR.out];unfold ζS;rw [if_neg (by omega),if_neg (by omega),if_pos ⟨hx,ho⟩]⟩
   all_goals
    rw [eo]
    go_wp2_with fail
    go_meet
    case rel=>exact ⟨_,_,_,_,_,_,_,_,_,_,_,_,_,_,_,_,_,_,_,_,HS,fun k h _ _=>h,by unfold Hid;rw [<-HR.out];unfold ζS;rw [if_neg (by omega),if_neg (by omega),if_neg (by omega)]⟩
  ·have HX:Hid (sgn x=0):=ex
   rw [ex]
   clear ex HN HM
   obtain ⟨z0,z1',z2',z3',z4',z5,z6,z7⟩:=HS.out.f.a.c8
   obtain ⟨x0,x1⟩:=HS.out.f.f.c2
   obtain ⟨y0,y1⟩:=HS.out.f.g.c2
   obtain ⟨t1,t2,t3,t4⟩:=HA.out.c.c4
   go_wp2_with fail
   refine (ζA _ e y _ (by omega) HS.out.by').mono ?_
   rintro o u ⟨rfl,hb⟩
   replace HS:Hid _:=HS.out.later hb
   replace HA:Hid _:=HA.out.later hb
   clear hb z0 z1' z2' z3' z4' z5 z6 z7 x0 x1 y0 y1 t1 t2 t3 t4
   rcases sgn_cases y with ⟨hy,ey⟩| ⟨hy,ey⟩| ⟨hy,ey⟩
   case inr.inr=>
    rw [ey]
    have hRR:R=(1,0,0,1):=by rw [<-HR.out];unfold ζS;rw [if_pos ⟨hx,hy⟩]
    subst hRR
    clear ey
    go_wp2_with fail
    refine (ψN e _).mono ?_
    rintro o u ⟨v9,rfl,hv,hb,hn⟩
    have HNV:Hid (ψB w v9):=hn.mono HS.out.f.bel.size
    clear hn
    replace HS:Hid _:=HS.out.later hb
    obtain ⟨gi,ai,ci,zi,gj,aj,cj,zj,gk,ak,ck,zk,gl,al,cl,zl,rfl,k1,k2,k3,k4⟩:=hv
    have HV:Hid (ζR u (.agg #[gi,.slice ai zi ci,gj,.slice aj zj cj,gk,.slice ak zk ck,gl,.slice al zl cl]) e 1 0 0 1):= .of k1 k2 k3 k4
    clear k1 k2 k3 k4 hb
    obtain ⟨y0,y1,y2,y3,y4,y5,y6,y7⟩:=HS.out.f.z.c8
    have zz:=HS.out.f.z.2.1
    go_wp2
    refine bodyPost_ret (v:= .agg #[gi,.slice ai zi ci,gj,.slice aj zj cj,gk,.slice ak zk ck,gl,.slice al zl cl]) (by simp [results,results137,go_sem,y0,y1,y2,y3,y4,y5,y6,y7]) rfl ?_
    exact ⟨_,rfl,HV.out.setAll [gi,.slice ai zi ci,gj,.slice aj zj cj,gk,.slice ak zk ck,gl,.slice al zl cl] _ 0 HS.out.f.i3 (ξS rfl),HS.out.f.end [gi,.slice ai zi ci,gj,.slice aj zj cj,gk,.slice ak zk ck,gl,.slice al zl cl],fun k hk _ _ _=>HNV.out k hk⟩
   all_goals
    rw [ey]
    clear ey
    obtain ⟨z0,z1',z2',z3',z4',z5,z6,z7⟩:=HS.out.f.a.c8
    obtain ⟨x0,x1⟩:=HS.out.f.f.c2
    obtain ⟨y0,y1⟩:=HS.out.f.g.c2
    obtain ⟨t1,t2,t3,t4⟩:=HA.out.c.c4
    go_wp2_with fail
    refine (ζA _ e x _ (by omega) HS.out.bx).mono ?_
    rintro o u ⟨rfl,hb⟩
    replace HS:Hid _:=HS.out.later hb
    replace HA:Hid _:=HA.out.later hb
    clear hb z0 z1' z2' z3' z4' z5 z6 z7 x0 x1 y0 y1 t1 t2 t3 t4
    rw [HX.out]
    obtain ⟨z0,z1',z2',z3',z4',z5,z6,z7⟩:=HS.out.f.a.c8
    obtain ⟨x0,x1⟩:=HS.out.f.f.c2
    obtain ⟨y0,y1⟩:=HS.out.f.g.c2
    obtain ⟨t1,t2,t3,t4⟩:=HA.out.c.c4
    go_wp2_with fail
    refine (ζA _ e x _ (by omega) HS.out.bx).mono ?_
    rintro o u ⟨rfl,hb⟩
    replace HS:Hid _:=HS.out.later hb
    replace HA:Hid _:=HA.out.later hb
    clear hb z0 z1' z2' z3' z4' z5 z6 z7 x0 x1 y0 y1 t1 t2 t3 t4
    rw [HX.out]
    go_wp2_with fail
    go_meet
    case rel=>exact ⟨_,_,_,_,_,_,_,_,_,_,_,_,_,_,_,_,_,_,_,_,HS,fun k h _ _=>h,by unfold Hid;rw [<-HR.out];unfold ζS;rw [if_neg (by omega),if_neg (by omega),if_neg (by omega)]⟩
  ·have HX:Hid (sgn x=1):=ex
   have hN:y=N:=by have:=HN.out;rwa [if_neg (by omega)] at this
   have hM:x=M:=by have:=HM.out;rwa [if_neg (by omega)] at this
   subst hN
   rw [ex]
   clear ex HN HM
   obtain ⟨z0,z1',z2',z3',z4',z5,z6,z7⟩:=HS.out.f.a.c8
   obtain ⟨x0,x1⟩:=HS.out.f.f.c2
   obtain ⟨y0,y1⟩:=HS.out.f.g.c2
   obtain ⟨t1,t2,t3,t4⟩:=HA.out.c.c4
   go_wp2_with fail
   refine (ζA _ e x _ (by omega) HS.out.bx).mono ?_
   rintro o u ⟨rfl,hb⟩
   replace HS:Hid _:=HS.out.later hb
   replace HA:Hid _:=HA.out.later hb
   clear hb z0 z1' z2' z3' z4' z5 z6 z7 x0 x1 y0 y1 t1 t2 t3 t4
   rw [HX.out]
   obtain ⟨z0,z1',z2',z3',z4',z5,z6,z7⟩:=HS.out.f.a.c8
   obtain ⟨x0,x1⟩:=HS.out.f.f.c2
   obtain ⟨y0,y1⟩:=HS.out.f.g.c2
   obtain ⟨t1,t2,t3,t4⟩:=HA.out.c.c4
   go_wp2_with fail
   refine (ψ4 _ _ e y M a b _ he (.of HA.out.b1 HA.out.b2) (.of HS.out.b1 HS.out.b2)).mono ?_
   rintro o u ⟨rfl,hb⟩
   replace HS:Hid _:=HS.out.later hb
   replace HA:Hid _:=HA.out.later hb
   clear hb z0 z1' z2' z3' z4' z5 z6 z7 x0 x1 y0 y1 t1 t2 t3 t4
   rcases sgn_cases (y*b-a*M) with ⟨ho,eo⟩| ⟨ho,eo⟩| ⟨ho,eo⟩
   case inr.inr=>
    rw [eo]
    have HT:Hid _:=HS.out.half0 rfl HA.out.b1 HA.out.b2
    obtain ⟨z0,z1',z2',z3',z4',z5,z6,z7⟩:=HS.out.f.a.c8
    obtain ⟨x0,x1⟩:=HS.out.f.f.c2
    obtain ⟨y0,y1⟩:=HS.out.f.g.c2
    obtain ⟨t1,t2,t3,t4⟩:=HA.out.c.c4
    have zf:=HS.out.f.a.2.1
    go_wp2_with fail
    go_meet
    case rel=>exact ⟨_,_,_,_,_,_,_,_,_,_,_,_,_,_,_,_,_,_,_,_,HT,fun k h1 h2 h3=>AvV.eight ((HAV.out k h3 h2).get 1 rfl) ((HAV.out k h3 h2).get 3 rfl) (h1.get 5 rfl) (h1.get 7 rfl),by unfold Hid;rw [<-HR.out];unfold ζS;rw [if_neg (by omega),if_pos ⟨hx,by rw [hM];exact ho⟩,hM]⟩
   all_goals
    rw [eo]
    clear eo
    obtain ⟨z0,z1',z2',z3',z4',z5,z6,z7⟩:=HS.out.f.a.c8
    obtain ⟨x0,x1⟩:=HS.out.f.f.c2
    obtain ⟨y0,y1⟩:=HS.out.f.g.c2
    obtain ⟨t1,t2,t3,t4⟩:=HA.out.c.c4
    go_wp2_with fail
    refine (ζA _ e x _ (by omega) HS.out.bx).mono ?_
    rintro o u ⟨rfl,hb⟩
    replace HS:Hid _:=HS.out.later hb
    replace HA:Hid _:=HA.out.later hb
    clear hb z0 z1' z2' z3' z4' z5 z6 z7 x0 x1 y0 y1 t1 t2 t3 t4
    rw [HX.out]
    go_wp2_with fail
    go_meet
    case rel=>exact ⟨_,_,_,_,_,_,_,_,_,_,_,_,_,_,_,_,_,_,_,_,HS,fun k h _ _=>h,by unfold Hid;rw [<-HR.out];unfold ζS;rw [if_neg (by omega),if_neg (by rw [hM];omega),if_neg (by omega)]⟩
 case rest=>
 obtain ⟨g5,a5,n5,c5,g6,a6,n6,c6,g7,a7,n7,c7,g8,a8,n8,c8,p,q,r,s,HS,HAv,hR⟩:=hcut
 generalize hwq:wc=W1 at*
 clear hwq HA HAV HR HN HM
 have HRR:=Hid.mk hR
 clear hR
 obtain ⟨z0,z1',z2',z3',z4',z5,z6,z7⟩:=HS.out.f.a.c8
 obtain ⟨x0,x1⟩:=HS.out.f.f.c2
 obtain ⟨y0,y1⟩:=HS.out.f.g.c2
 go_wp2_with fail
 refine (ψ4 _ _ e p q r s _ he (.of HS.out.b1 HS.out.b2) (.of HS.out.b3 HS.out.b4)).mono ?_
 rintro o u ⟨rfl,hb⟩
 replace HS:Hid _:=HS.out.later hb
 clear hb z0 z1' z2' z3' z4' z5 z6 z7 x0 x1 y0 y1
 rcases sgn_cases (p*s-r*q) with ⟨ho,eo⟩| ⟨ho,eo⟩| ⟨ho,eo⟩
 case inr.inr=>
  rw [eo]
  have hRR:R=(1,0,0,1):=by rw [HRR.out,if_pos ho]
  subst hRR
  clear eo HRR
  go_wp2_with fail
  refine (ψN e _).mono ?_
  rintro o u ⟨v9,rfl,hv,hb,hn⟩
  have HNV:Hid (ψB w v9):=hn.mono HS.out.f.bel.size
  clear hn
  replace HS:Hid _:=HS.out.later hb
  obtain ⟨gi,ai,ci,zi,gj,aj,cj,zj,gk,ak,ck,zk,gl,al,cl,zl,rfl,k1,k2,k3,k4⟩:=hv
  have HV:Hid (ζR u (.agg #[gi,.slice ai zi ci,gj,.slice aj zj cj,gk,.slice ak zk ck,gl,.slice al zl cl]) e 1 0 0 1):= .of k1 k2 k3 k4
  clear k1 k2 k3 k4 hb
  obtain ⟨y0,y1,y2,y3,y4,y5,y6,y7⟩:=HS.out.f.z.c8
  have zz:=HS.out.f.z.2.1
  go_wp2
  refine bodyPost_ret (v:= .agg #[gi,.slice ai zi ci,gj,.slice aj zj cj,gk,.slice ak zk ck,gl,.slice al zl cl]) (by simp [results,results137,go_sem,y0,y1,y2,y3,y4,y5,y6,y7]) rfl ?_
  exact ⟨_,rfl,HV.out.setAll [gi,.slice ai zi ci,gj,.slice aj zj cj,gk,.slice ak zk ck,gl,.slice al zl cl] _ 0 HS.out.f.i3 (ξS rfl),HS.out.f.end [gi,.slice ai zi ci,gj,.slice aj zj cj,gk,.slice ak zk ck,gl,.slice al zl cl],fun k hk _ _ _=>HNV.out k hk⟩
 all_goals
  rw [eo]
  have hRR:R=(p,q,r,s):=by rw [HRR.out,if_neg (by omega)]
  subst hRR
  clear eo HRR
  obtain ⟨z0,z1',z2',z3',z4',z5,z6,z7⟩:=HS.out.f.a.c8
  obtain ⟨x0,x1⟩:=HS.out.f.f.c2
  obtain ⟨y0x,y1x⟩:=HS.out.f.g.c2
  obtain ⟨y0,y1,y2,y3,y4,y5,y6,y7⟩:=HS.out.f.z.c8
  have zz:=HS.out.f.z.2.1
  go_wp2
  refine bodyPost_ret (v:= .agg #[g5,.slice a5 n5 c5,g6,.slice a6 n6 c6,g7,.slice a7 n7 c7,g8,.slice a8 n8 c8]) (by simp [results,results137,go_sem,y0,y1,y2,y3,y4,y5,y6,y7]) rfl ?_
  exact ⟨_,rfl,(ζR.of HS.out.b1 HS.out.b2 HS.out.b3 HS.out.b4).setAll [g5,.slice a5 n5 c5,g6,.slice a6 n6 c6,g7,.slice a7 n7 c7,g8,.slice a8 n8 c8] _ 0 HS.out.f.i3 (ξS rfl),HS.out.f.end [g5,.slice a5 n5 c5,g6,.slice a6 n6 c6,g7,.slice a7 n7 c7,g8,.slice a8 n8 c8],fun k _ h1 h2 h3=>HAv.out k h1 h2 h3⟩
end Go.Proofs.YtfieffpobgcpmaaGreatDoor
