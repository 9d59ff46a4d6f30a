import Derived.Test.YtfieffpobgcpmaaGreatDoorBgIBgJBhA
import Derived.Deep.RegionHeld3
import Derived.Test.YtfieffpobgcpmaaGreatDoorEsGBgCImplOneFrA
set_option maxRecDepth 100000
set_option maxHeartbeats 32000000
namespace Go.Proofs.YtfieffpobgcpmaaGreatDoor
open Go.RowKit
theorem negA_any (u:Value) (e:Nat) (x:Int) (w:World) (hu:BigIs w u e x):
 Calls Tryz.prog 130 #[u] w fun o w'=> ∃v,o= .returned v∧BigIs w' v e (-x)∧Below w.heap.size w w'∧ ∀k,AvV k u→AvV k v:=by
 obtain ⟨g,a,c,zs,rfl,h1,h2,h3⟩:=hu
 refine (negB_any g a zs.length c w).mono ?_
 rintro o w' ⟨rfl,hb⟩
 exact ⟨_,rfl,⟨_,a,c,zs,rfl,h1.neg,⟨h2.1.neg,h2.2⟩,h3.later hb⟩,hb,fun k h=>AvV.two (h.get 1 rfl)⟩
def FracOutA (w:World) (e:Nat) (p q:Int) (u v:Value) (o:Ending) (w':World):Prop:= ∃f,o= .returned f∧FracIs w' f e p q∧Below w.heap.size w w'∧ ∀k,AvV k u→AvV k v→AvV k f
structure Frt (w:World) (m0 m1 n0 n1 p0 p1 p2 p3:Value) (W:World):Prop where
 e0x0:W.cell? ⟨w.heap.size,0,none⟩=some m0
 e0x1:W.cell? ⟨w.heap.size,1,none⟩=some m1
 f0: ∀j,W.frozen? ⟨w.heap.size,j,none⟩=false
 e1x0:W.cell? ⟨w.heap.size+1,0,none⟩=some n0
 e1x1:W.cell? ⟨w.heap.size+1,1,none⟩=some n1
 f1: ∀j,W.frozen? ⟨w.heap.size+1,j,none⟩=false
 e2x0:W.cell? ⟨w.heap.size+1+1,0,none⟩=some p0
 e2x1:W.cell? ⟨w.heap.size+1+1,1,none⟩=some p1
 e2x2:W.cell? ⟨w.heap.size+1+1,2,none⟩=some p2
 e2x3:W.cell? ⟨w.heap.size+1+1,3,none⟩=some p3
 f2: ∀j,W.frozen? ⟨w.heap.size+1+1,j,none⟩=false
 le:w.heap.size+1+1+1≤W.heap.size
 bel:Below w.heap.size w W
theorem Frt.start (w:World) (m0 m1 n0 n1 p0 p1 p2 p3:Value) (t0 t1 t2:TypeId):Frt w m0 m1 n0 n1 p0 p1 p2 p3 (((w.alloc (.cells #[m0,m1] t0)).alloc (.cells #[n0,n1] t1)).alloc (.cells #[p0,p1,p2,p3] t2)):=by
 constructor<;>first|exact (((bel0 _ _).trans ((bel0 _ _).mono (by simp<;>omega))).trans ((bel0 _ _).mono (by simp<;>omega)))|simp [go_sem]
theorem Frt.later {w:World} {m0 m1 n0 n1 p0 p1 p2 p3:Value} {W W':World} (h:Frt w m0 m1 n0 n1 p0 p1 p2 p3 W) (hb:Below W.heap.size W W'):Frt w m0 m1 n0 n1 p0 p1 p2 p3 W':=by
 have q:=h.le
 have z:=h.bel.trans (hb.mono h.bel.size)
 cases h
 constructor<;>first|exact ((bcell hb).1 _ _ (by omega)).trans (by with_reducible assumption)|exact z|exact Nat.le_trans q hb.size| (intro j;exact ((bcell hb).2 _ _ (by omega)).trans (by apply_assumption))
theorem Frt.set2 {w:World} {m0 m1 n0 n1 p0 p1 p2 p3:Value} {W:World} (h:Frt w m0 m1 n0 n1 p0 p1 p2 p3 W) (v0 v1 v2 v3:Value):Frt w m0 m1 n0 n1 v0 v1 v2 v3 ((((W.setCell ⟨w.heap.size+1+1,0,none⟩ v0).setCell ⟨w.heap.size+1+1,1,none⟩ v1).setCell ⟨w.heap.size+1+1,2,none⟩ v2).setCell ⟨w.heap.size+1+1,3,none⟩ v3):=by
 have hle:=h.le
 constructor<;>first|exact ((((h.bel.setCell (by simp<;>omega) _).setCell (by simp<;>omega) _).setCell (by simp<;>omega) _).setCell (by simp<;>omega) _)| (cases h;simp [go_sem, *])
theorem Frt.s {w:World} {m0 m1 n0 n1 p0 p1 p2 p3:Value} {w':World} (h:Frt w m0 m1 n0 n1 p0 p1 p2 p3 w'):w'.cell? ⟨w.heap.size,0,none⟩=some m0∧w'.cell? ⟨w.heap.size,1,none⟩=some m1∧w'.cell? ⟨w.heap.size+1,0,none⟩=some n0∧w'.cell? ⟨w.heap.size+1,1,none⟩=some n1:=⟨h.e0x0,h.e0x1,h.e1x0,h.e1x1⟩
theorem ratioP_any (u v:Value) (e:Nat) (x y:Int) (w:World) (hu:BigIs w u e x) (hv:BigIs w v e y) (hy:0≤y):
 Calls Tryz.prog 83 #[u,v] w fun o w'=>FracOutA w e x y u v o w':=by
 have hk:=hu
 have hl:=hv
 obtain ⟨gu,au,cu,zu,rfl,_,_,_⟩:=hu
 obtain ⟨gv,av,cv,zv,rfl,_,_,_⟩:=hv
 have hg:=hl.neg_iff
 rw [decide_eq_false (by omega)] at hg
 subst hg
 go_enter Tryz.func83,Tryz.ntmps83
 go_wp2
 refine bodyPost_ret (v:= .agg #[gu,.slice au zu.length cu,false,.slice av zv.length cv]) (by simp [results,Tryz.results83,go_sem]) rfl ?_
 refine ⟨_,rfl,⟨gu,au,cu,zu,false,av,cv,zv,rfl,hk.later ?_,hl.later ?_⟩,?_,fun k h1 h2=>AvV.four (h1.get 1 rfl) (h2.get 1 rfl)⟩
 all_goals exact (Frt.start w _ _ _ _ _ _ _ _ _ _ _).bel
theorem ratioN_any (u v:Value) (e:Nat) (x y:Int) (w:World) (hu:BigIs w u e x) (hv:BigIs w v e y) (hy:y<0):
 Calls Tryz.prog 83 #[u,v] w fun o w'=>FracOutA w e (-x) (-y) u v o w':=by
 have hk:=hu
 have hl:=hv
 obtain ⟨gu,au,cu,zu,rfl,_,_,_⟩:=hu
 obtain ⟨gv,av,cv,zv,rfl,_,_,_⟩:=hv
 have hg:=hl.neg_iff
 rw [decide_eq_true hy] at hg
 subst hg
 go_enter Tryz.func83,Tryz.ntmps83
 go_wp2_with fail
 obtain ⟨W0,hW0⟩: ∃V0,V0=(((w.alloc (.cells #[gu,.slice au zu.length cu] 31)).alloc (.cells #[true,.slice av zv.length cv] 31)).alloc (.cells #[false,(),false,()] 81)):=⟨_,rfl⟩
 rw [←hW0]
 have FR:Hid (Frt w gu (.slice au zu.length cu) true (.slice av zv.length cv) false () false () W0):=by rw [hW0];exact Frt.start w _ _ _ _ _ _ _ _ _ _ _
 have HNI:Hid (NoInt W0 (w.heap.size+1+1)):=by
  have hz: ∀(i:Nat) (k:IntKind) (m:Int),(#[↑false,↑(),↑false,↑()]:Array Value)[i]? ≠some (Value.int k m):=by
   intro i k m
   match i with|0=>simp|1=>simp|2=>simp|3=>simp|n+4=>simp
  have h1:=NoInt.new ((w.alloc (.cells #[gu,.slice au zu.length cu] 31)).alloc (.cells #[true,.slice av zv.length cv] 31)) #[false,(),false,()] 81 hz
  have hs:((w.alloc (.cells #[gu,.slice au zu.length cu] 31)).alloc (.cells #[true,.slice av zv.length cv] 31)).heap.size=w.heap.size+1+1:=by simp
  rw [hs] at h1
  unfold Hid;rw [hW0];exact h1
 clear hW0
 have RU_0:=(hk.later FR.out.bel).later (w':=W0.drew) (Below.refl _ _).drew
 have RV_0:=(hl.later FR.out.bel).later (w':=W0.drew) (Below.refl _ _).drew
 have NI_0:=HNI.out.later (w':=W0.drew) (Below.refl _ _).drew
 have F0:Frt w gu (.slice au zu.length cu) true (.slice av zv.length cv) false () false () W0.drew:=FR.out.later (Below.refl _ _).drew
 go_region_held3 (fun w'=>w'.cell? ⟨w.heap.size,0,none⟩=some ↑gu∧w'.cell? ⟨w.heap.size,1,none⟩=some (.slice au zu.length cu)∧w'.cell? ⟨w.heap.size+1,0,none⟩=some ↑true∧w'.cell? ⟨w.heap.size+1,1,none⟩=some (.slice av zv.length cv))
  (first|with_reducible exact (F2.set2 _ _ _ _).s|with_reducible exact Frt.s (by with_reducible assumption))
  (first
   |(have hBB:=hB1;clear hBB;go_at_call 130;refine (negA_any _ e y _ RV_1).mono ?_;rintro o w2 ⟨v2,rfl,hv2,hb2,hn2⟩;have HNW2:Hid (∀k,AvV k _→AvV k v2):=hn2;clear hn2;have R2_2:BigIs w2 v2 e (-y):=hv2;obtain ⟨gr2,ar2,cr2,zr2,rfl,_,_,_⟩:=hv2;have RU_2:=RU_1.later hb2;have RV_2:=RV_1.later hb2;have NI_2:=NI_1.later hb2;have R1_2:=R1_1.later hb2;have hB2:Below W0.heap.size W0 w2:=hB1.trans (hb2.mono hB1.size);have F2:Frt w gu (.slice au zu.length cu) true (.slice av zv.length cv) false () false () w2:=FR.out.later hB2;have r0:=F2.e2x0;have r1:=F2.e2x1;have r2:=F2.e2x2;have r3:=F2.e2x3;have rz:=F2.f2)
   |(go_at_call 130;refine (negA_any _ e x _ RU_0).mono ?_;rintro o w1 ⟨v1,rfl,hv1,hb1,hn1⟩;have HNW1:Hid (∀k,AvV k _→AvV k v1):=hn1;clear hn1;have R1_1:BigIs w1 v1 e (-x):=hv1;obtain ⟨gr1,ar1,cr1,zr1,rfl,_,_,_⟩:=hv1;have RU_1:=RU_0.later hb1;have RV_1:=RV_0.later hb1;have NI_1:=NI_0.later hb1;have hB1:Below W0.heap.size W0 w1:=(Below.refl _ _).drew.trans hb1;have F1:Frt w gu (.slice au zu.length cu) true (.slice av zv.length cv) false () false () w1:=FR.out.later hB1))
 have HF:Hid (Frt w gu (.slice au zu.length cu) true (.slice av zv.length cv) false () false () w2):=F2
 have HR1:Hid (BigIs w2 (.agg #[gr1,.slice ar1 zr1.length cr1]) e (-x)):=R1_2
 have HR2:Hid (BigIs w2 (.agg #[gr2,.slice ar2 zr2.length cr2]) e (-y)):=R2_2
 have HNN:Hid (NoInt w2 (w.heap.size+1+1)):=NI_2
 clear hB1 hb1 F1 hB2 hb2 F2 RU_0 RU_1 RU_2 RV_0 RV_1 RV_2 NI_0 NI_1 NI_2 R1_1 R1_2 R2_2 F0
 go_wp2
 refine bodyPost_ret (v:= .agg #[gr1,.slice ar1 zr1.length cr1,gr2,.slice ar2 zr2.length cr2]) (by simp [results,Tryz.results83,go_sem,r0,r1,r2,r3]) rfl ?_
 refine ⟨_,rfl,⟨gr1,ar1,cr1,zr1,gr2,ar2,cr2,zr2,rfl,HR1.out.setAll [gr1,.slice ar1 zr1.length cr1,gr2,.slice ar2 zr2.length cr2] _ 0 HNN.out (by simp [NotInt]),HR2.out.setAll [gr1,.slice ar1 zr1.length cr1,gr2,.slice ar2 zr2.length cr2] _ 0 HNN.out (by simp [NotInt])⟩,(HF.out.set2 _ _ _ _).bel,fun k h1 h2=>AvV.four ((HNW1.out k h1).get 1 rfl) ((HNW2.out k h2).get 1 rfl)⟩
theorem ratio_any (u v:Value) (e:Nat) (x y:Int) (w:World) (hu:BigIs w u e x) (hv:BigIs w v e y):
 Calls Tryz.prog 83 #[u,v] w fun o w'=>FracOutA w e (if y<0 then-x else x) (if y<0 then-y else y) u v o w':=by
 by_cases hy:y<0
 ·rw [if_pos hy,if_pos hy];exact ratioN_any u v e x y w hu hv hy
 ·rw [if_neg hy,if_neg hy];exact ratioP_any u v e x y w hu hv (by omega)
structure Ffo (w:World) (m0 m1 m2 m3 n0 n1 n2 n3:Value) (W:World):Prop where
 e0x0:W.cell? ⟨w.heap.size,0,none⟩=some m0
 e0x1:W.cell? ⟨w.heap.size,1,none⟩=some m1
 e0x2:W.cell? ⟨w.heap.size,2,none⟩=some m2
 e0x3:W.cell? ⟨w.heap.size,3,none⟩=some m3
 f0: ∀j,W.frozen? ⟨w.heap.size,j,none⟩=false
 e1x0:W.cell? ⟨w.heap.size+1,0,none⟩=some n0
 e1x1:W.cell? ⟨w.heap.size+1,1,none⟩=some n1
 e1x2:W.cell? ⟨w.heap.size+1,2,none⟩=some n2
 e1x3:W.cell? ⟨w.heap.size+1,3,none⟩=some n3
 f1: ∀j,W.frozen? ⟨w.heap.size+1,j,none⟩=false
 le:w.heap.size+1+1≤W.heap.size
 bel:Below w.heap.size w W
theorem Ffo.start (w:World) (m0 m1 m2 m3 n0 n1 n2 n3:Value) (t0 t1:TypeId):Ffo w m0 m1 m2 m3 n0 n1 n2 n3 ((w.alloc (.cells #[m0,m1,m2,m3] t0)).alloc (.cells #[n0,n1,n2,n3] t1)):=by
 constructor<;>first|exact ((bel0 _ _).trans ((bel0 _ _).mono (by simp<;>omega)))|simp [go_sem]
theorem Ffo.later {w:World} {m0 m1 m2 m3 n0 n1 n2 n3:Value} {W W':World} (h:Ffo w m0 m1 m2 m3 n0 n1 n2 n3 W) (hb:Below W.heap.size W W'):Ffo w m0 m1 m2 m3 n0 n1 n2 n3 W':=by
 have q:=h.le
 have z:=h.bel.trans (hb.mono h.bel.size)
 cases h
 constructor<;>first|exact ((bcell hb).1 _ _ (by omega)).trans (by with_reducible assumption)|exact z|exact Nat.le_trans q hb.size| (intro j;exact ((bcell hb).2 _ _ (by omega)).trans (by apply_assumption))
theorem Ffo.s {w:World} {m0 m1 m2 m3 n0 n1 n2 n3:Value} {w':World} (h:Ffo w m0 m1 m2 m3 n0 n1 n2 n3 w'):w'.cell? ⟨w.heap.size,0,none⟩=some m0∧w'.cell? ⟨w.heap.size,1,none⟩=some m1∧w'.cell? ⟨w.heap.size,2,none⟩=some m2∧w'.cell? ⟨w.heap.size,3,none⟩=some m3∧w'.cell? ⟨w.heap.size+1,0,none⟩=some n0∧w'.cell? ⟨w.heap.size+1,1,none⟩=some n1∧w'.cell? ⟨w.heap.size+1,2,none⟩=some n2∧w'.cell? ⟨w.heap.size+1,3,none⟩=some n3:=⟨h.e0x0,h.e0x1,h.e0x2,h.e0x3,h.e1x0,h.e1x1,h.e1x2,h.e1x3⟩
theorem ordF_any (f g:Value) (e:Nat) (p q r s:Int) (w:World) (he:e+e≤3000) (h1:FracIs w f e p q) (h2:FracIs w g e r s):
 Calls Tryz.prog 50 #[f,g] w fun o w'=>o= .returned (.int .i64 (sgn (p*s-r*q)))∧Below w.heap.size w w':=by
 obtain ⟨gu,au,cu,zu,gv,av,cv,zv,rfl,hu,hv⟩:=h1
 obtain ⟨gx,ax,cx,zx,gy,ay,cy,zy,rfl,hx,hy⟩:=h2
 go_enter Tryz.func50,Tryz.ntmps50
 go_wp2_with fail
 obtain ⟨W0,hW0⟩: ∃V0,V0=((w.alloc (.cells #[gu,.slice au zu.length cu,gv,.slice av zv.length cv] 81)).alloc (.cells #[gx,.slice ax zx.length cx,gy,.slice ay zy.length cy] 81)):=⟨_,rfl⟩
 rw [←hW0]
 have FR:Hid (Ffo w gu (.slice au zu.length cu) gv (.slice av zv.length cv) gx (.slice ax zx.length cx) gy (.slice ay zy.length cy) W0):=by rw [hW0];exact Ffo.start w _ _ _ _ _ _ _ _ _ _
 clear hW0
 have RU_0:=(hu.later FR.out.bel).later (w':=W0.drew) (Below.refl _ _).drew
 have RV_0:=(hv.later FR.out.bel).later (w':=W0.drew) (Below.refl _ _).drew
 have RX_0:=(hx.later FR.out.bel).later (w':=W0.drew) (Below.refl _ _).drew
 have RY_0:=(hy.later FR.out.bel).later (w':=W0.drew) (Below.refl _ _).drew
 have F0:Ffo w gu (.slice au zu.length cu) gv (.slice av zv.length cv) gx (.slice ax zx.length cx) gy (.slice ay zy.length cy) W0.drew:=FR.out.later (Below.refl _ _).drew
 go_region_held3 (fun w'=>w'.cell? ⟨w.heap.size,0,none⟩=some ↑gu∧w'.cell? ⟨w.heap.size,1,none⟩=some (.slice au zu.length cu)∧w'.cell? ⟨w.heap.size,2,none⟩=some ↑gv∧w'.cell? ⟨w.heap.size,3,none⟩=some (.slice av zv.length cv)∧w'.cell? ⟨w.heap.size+1,0,none⟩=some ↑gx∧w'.cell? ⟨w.heap.size+1,1,none⟩=some (.slice ax zx.length cx)∧w'.cell? ⟨w.heap.size+1,2,none⟩=some ↑gy∧w'.cell? ⟨w.heap.size+1,3,none⟩=some (.slice ay zy.length cy))
  (with_reducible exact Ffo.s (by with_reducible assumption))
  (first
   |(have hBB:=hB2;clear hBB;go_at_call 54;refine (ordG_any _ _ (e+e) (e+e) (p*s) (r*q) _ he he R1_2 R2_2).mono ?_;rintro o w3 ⟨rfl,hb3⟩;have RU_3:=RU_2.later hb3;have RV_3:=RV_2.later hb3;have RX_3:=RX_2.later hb3;have RY_3:=RY_2.later hb3;have R1_3:=R1_2.later hb3;have R2_3:=R2_2.later hb3;have hB3:Below W0.heap.size W0 w3:=hB2.trans (hb3.mono hB2.size);have F3:Ffo w gu (.slice au zu.length cu) gv (.slice av zv.length cv) gx (.slice ax zx.length cx) gy (.slice ay zy.length cy) w3:=FR.out.later hB3)
   |(have hBB:=hB1;clear hBB;go_at_call 53;refine (timesG_any _ _ e e r q _ he RX_1 RV_1).mono ?_;rintro o w2 ⟨v2,rfl,hv2,hb2⟩;have R2_2:BigIs w2 v2 (e+e) (r*q):=hv2;obtain ⟨gr2,ar2,cr2,zr2,rfl,_,_,_⟩:=hv2;have RU_2:=RU_1.later hb2;have RV_2:=RV_1.later hb2;have RX_2:=RX_1.later hb2;have RY_2:=RY_1.later hb2;have R1_2:=R1_1.later hb2;have hB2:Below W0.heap.size W0 w2:=hB1.trans (hb2.mono hB1.size);have F2:Ffo w gu (.slice au zu.length cu) gv (.slice av zv.length cv) gx (.slice ax zx.length cx) gy (.slice ay zy.length cy) w2:=FR.out.later hB2)
   |(go_at_call 53;refine (timesG_any _ _ e e p s _ he RU_0 RY_0).mono ?_;rintro o w1 ⟨v1,rfl,hv1,hb1⟩;have R1_1:BigIs w1 v1 (e+e) (p*s):=hv1;obtain ⟨gr1,ar1,cr1,zr1,rfl,_,_,_⟩:=hv1;have RU_1:=RU_0.later hb1;have RV_1:=RV_0.later hb1;have RX_1:=RX_0.later hb1;have RY_1:=RY_0.later hb1;have hB1:Below W0.heap.size W0 w1:=(Below.refl _ _).drew.trans hb1;have F1:Ffo w gu (.slice au zu.length cu) gv (.slice av zv.length cv) gx (.slice ax zx.length cx) gy (.slice ay zy.length cy) w1:=FR.out.later hB1))
 have HF:Hid (Ffo w gu (.slice au zu.length cu) gv (.slice av zv.length cv) gx (.slice ax zx.length cx) gy (.slice ay zy.length cy) w3):=F3
 clear hB1 hb1 F1 hB2 hb2 F2 hB3 hb3 F3 F0
 go_wp2
 go_ret
 exact ⟨rfl,HF.out.bel⟩
def StrNewOut (w:World) (e:Nat) (p q r s:Int) (o:Ending) (w':World):Prop:= ∃v,o= .returned v∧StrIs w' v e p q r s∧Below w.heap.size w w'∧NewV w.heap.size v
theorem exists_any (v:Value) (e:Nat) (p q r s:Int) (w:World) (he:e≤3000) (h:StrIs w v e p q r s):
 Calls Tryz.prog 41 #[v] w fun o w'=>o= .returned (.bool (decide (q≠0)))∧Below w.heap.size w w':=by
 obtain ⟨g1,a1,c1,z1,g2,a2,c2,z2,g3,a3,c3,z3,g4,a4,c4,z4,rfl,h1,h2,h3,h4⟩:=h
 have HB0:Hid (∀t,Below w.heap.size w (w.alloc (.cells #[g1,.slice a1 z1.length c1,g2,.slice a2 z2.length c2,g3,.slice a3 z3.length c3,g4,.slice a4 z4.length c4] t))):=fun t=>bel0 _ _
 go_enter Tryz.func41,Tryz.ntmps41
 go_wp2_with fail
 refine (signG_any _ e q _ he (h2.later (HB0.out _))).mono ?_
 rintro o w1 ⟨rfl,hb1⟩
 have HB:Hid (Below w.heap.size w w1):=(HB0.out _).trans (hb1.mono (HB0.out _).size)
 clear hb1 HB0 h1 h2 h3 h4
 rcases sgn_cases q with ⟨hq,hs⟩| ⟨hq,hs⟩| ⟨hq,hs⟩
 ·have HD:Hid (decide (q≠0)=true):=by unfold Hid;simp;omega
  rw [hs]
  clear hs hq
  go_wp2
  go_ret
  exact ⟨by rw [HD.out];rfl,HB.out⟩
 ·have HD:Hid (decide (q≠0)=false):=by unfold Hid;simp;omega
  rw [hs]
  clear hs hq
  go_wp2
  go_ret
  exact ⟨by rw [HD.out];rfl,HB.out⟩
 ·have HD:Hid (decide (q≠0)=true):=by unfold Hid;simp;omega
  rw [hs]
  clear hs hq
  go_wp2
  go_ret
  exact ⟨by rw [HD.out];rfl,HB.out⟩
structure Fnw (w:World) (m0 m1 m2 m3 m4 m5 m6 m7:Value) (W:World):Prop where
 e0x0:W.cell? ⟨w.heap.size,0,none⟩=some m0
 e0x1:W.cell? ⟨w.heap.size,1,none⟩=some m1
 e0x2:W.cell? ⟨w.heap.size,2,none⟩=some m2
 e0x3:W.cell? ⟨w.heap.size,3,none⟩=some m3
 e0x4:W.cell? ⟨w.heap.size,4,none⟩=some m4
 e0x5:W.cell? ⟨w.heap.size,5,none⟩=some m5
 e0x6:W.cell? ⟨w.heap.size,6,none⟩=some m6
 e0x7:W.cell? ⟨w.heap.size,7,none⟩=some m7
 f0: ∀j,W.frozen? ⟨w.heap.size,j,none⟩=false
 le:w.heap.size+1≤W.heap.size
 bel:Below w.heap.size w W
theorem Fnw.start (w:World) (m0 m1 m2 m3 m4 m5 m6 m7:Value) (t0:TypeId):Fnw w m0 m1 m2 m3 m4 m5 m6 m7 (w.alloc (.cells #[m0,m1,m2,m3,m4,m5,m6,m7] t0)):=by
 constructor<;>first|exact (bel0 _ _)|simp [go_sem]
theorem Fnw.later {w:World} {m0 m1 m2 m3 m4 m5 m6 m7:Value} {W W':World} (h:Fnw w m0 m1 m2 m3 m4 m5 m6 m7 W) (hb:Below W.heap.size W W'):Fnw w m0 m1 m2 m3 m4 m5 m6 m7 W':=by
 have q:=h.le
 have z:=h.bel.trans (hb.mono h.bel.size)
 cases h
 constructor<;>first|exact ((bcell hb).1 _ _ (by omega)).trans (by with_reducible assumption)|exact z|exact Nat.le_trans q hb.size| (intro j;exact ((bcell hb).2 _ _ (by omega)).trans (by apply_assumption))
theorem Fnw.set0 {w:World} {m0 m1 m2 m3 m4 m5 m6 m7:Value} {W:World} (h:Fnw w m0 m1 m2 m3 m4 m5 m6 m7 W) (v0 v1 v2 v3 v4 v5 v6 v7:Value):Fnw w v0 v1 v2 v3 v4 v5 v6 v7 ((((((((W.setCell ⟨w.heap.size,0,none⟩ v0).setCell ⟨w.heap.size,1,none⟩ v1).setCell ⟨w.heap.size,2,none⟩ v2).setCell ⟨w.heap.size,3,none⟩ v3).setCell ⟨w.heap.size,4,none⟩ v4).setCell ⟨w.heap.size,5,none⟩ v5).setCell ⟨w.heap.size,6,none⟩ v6).setCell ⟨w.heap.size,7,none⟩ v7):=by
 have hle:=h.le
 constructor<;>first|exact ((((((((h.bel.setCell (by simp<;>omega) _).setCell (by simp<;>omega) _).setCell (by simp<;>omega) _).setCell (by simp<;>omega) _).setCell (by simp<;>omega) _).setCell (by simp<;>omega) _).setCell (by simp<;>omega) _).setCell (by simp<;>omega) _)| (cases h;simp [go_sem, *])
theorem nowhere_any (e:Nat) (w:World):
 Calls Tryz.prog 80 #[] w fun o w'=>StrNewOut w e 1 0 0 1 o w':=by
 have HF0:Hid (∀t,Fnw w false () false () false () false () (w.alloc (.cells #[false,(),false,(),false,(),false,()] t))):=fun t=>Fnw.start w _ _ _ _ _ _ _ _ t
 have HN0:Hid (∀t,NoInt (w.alloc (.cells #[false,(),false,(),false,(),false,()] t)) w.heap.size):=fun t=>NoInt.new w _ t (fun i k m=>by match i with|0=>simp|1=>simp|2=>simp|3=>simp|4=>simp|5=>simp|6=>simp|7=>simp|n+8=>simp)
 go_enter Tryz.func80,Tryz.ntmps80
 go_wp2_with fail
 refine (oneN_any _).mono ?_
 rintro o w1 ⟨v1,rfl,hv1,hb1,hn1⟩
 have HA1:Hid (NewV w.heap.size v1):=hn1.mono (HF0.out _).bel.size
 clear hn1
 have R1_1:Hid (BigIs w1 v1 0 1):=hv1
 obtain ⟨gr1,ar1,cr1,zr1,rfl,_,_,_⟩:=hv1
 have HF1:Hid (Fnw w false () false () false () false () w1):=(HF0.out _).later hb1
 have HN1:Hid (NoInt w1 w.heap.size):=(HN0.out _).later hb1
 clear hb1 HF0 HN0
 go_wp2_with fail
 refine (oneN_any _).mono ?_
 rintro o w2 ⟨v2,rfl,hv2,hb2,hn2⟩
 have HA2:Hid (NewV w.heap.size v2):=hn2.mono HF1.out.bel.size
 clear hn2
 have HR1:=Hid.mk (R1_1.out.later hb2)
 have HR2:Hid (BigIs w2 v2 0 1):=hv2
 obtain ⟨gr2,ar2,cr2,zr2,rfl,_,_,_⟩:=hv2
 have HF:=Hid.mk (HF1.out.later hb2)
 have HN:Hid (NoInt w2 w.heap.size):=HN1.out.later hb2
 clear hb2 HF1 HN1 R1_1
 have r0:=HF.out.e0x0
 have r1:=HF.out.e0x1
 have r2:=HF.out.e0x2
 have r3:=HF.out.e0x3
 have r4:=HF.out.e0x4
 have r5:=HF.out.e0x5
 have r6:=HF.out.e0x6
 have r7:=HF.out.e0x7
 have rz:=HF.out.f0
 go_wp2
 refine bodyPost_ret (v:= .agg #[gr1,.slice ar1 zr1.length cr1,false,(),false,(),gr2,.slice ar2 zr2.length cr2]) (by simp [results,Tryz.results80,go_sem,r0,r1,r2,r3,r4,r5,r6,r7]) rfl ?_
 refine ⟨_,rfl,⟨gr1,ar1,cr1,zr1,false,none,0,[],false,none,0,[],gr2,ar2,cr2,zr2,rfl,(HR1.out.setAll [gr1,.slice ar1 zr1.length cr1,false,(),false,(),gr2,.slice ar2 zr2.length cr2] _ 0 HN.out (by simp [NotInt])).up (Nat.zero_le _),BigIs.zero _ _,BigIs.zero _ _,(HR2.out.setAll [gr1,.slice ar1 zr1.length cr1,false,(),false,(),gr2,.slice ar2 zr2.length cr2] _ 0 HN.out (by simp [NotInt])).up (Nat.zero_le _)⟩,(HF.out.set0 _ _ _ _ _ _ _ _).bel,fun k hk=>AvV.eight ((HA1.out k hk).get 1 rfl) (AvA.nil _ _) (AvA.nil _ _) ((HA2.out k hk).get 1 rfl)⟩
theorem ahead_any (e:Nat) (w:World):
 Calls Tryz.prog 134 #[] w fun o w'=>StrNewOut w e 0 1 1 0 o w':=by
 have HF0:Hid (∀t,Fnw w false () false () false () false () (w.alloc (.cells #[false,(),false,(),false,(),false,()] t))):=fun t=>Fnw.start w _ _ _ _ _ _ _ _ t
 have HN0:Hid (∀t,NoInt (w.alloc (.cells #[false,(),false,(),false,(),false,()] t)) w.heap.size):=fun t=>NoInt.new w _ t (fun i k m=>by match i with|0=>simp|1=>simp|2=>simp|3=>simp|4=>simp|5=>simp|6=>simp|7=>simp|n+8=>simp)
 go_enter Tryz.func134,Tryz.ntmps134
 go_wp2_with fail
 refine (oneN_any _).mono ?_
 rintro o w1 ⟨v1,rfl,hv1,hb1,hn1⟩
 have HA1:Hid (NewV w.heap.size v1):=hn1.mono (HF0.out _).bel.size
 clear hn1
 have R1_1:Hid (BigIs w1 v1 0 1):=hv1
 obtain ⟨gr1,ar1,cr1,zr1,rfl,_,_,_⟩:=hv1
 have HF1:Hid (Fnw w false () false () false () false () w1):=(HF0.out _).later hb1
 have HN1:Hid (NoInt w1 w.heap.size):=(HN0.out _).later hb1
 clear hb1 HF0 HN0
 go_wp2_with fail
 refine (oneN_any _).mono ?_
 rintro o w2 ⟨v2,rfl,hv2,hb2,hn2⟩
 have HA2:Hid (NewV w.heap.size v2):=hn2.mono HF1.out.bel.size
 clear hn2
 have HR1:=Hid.mk (R1_1.out.later hb2)
 have HR2:Hid (BigIs w2 v2 0 1):=hv2
 obtain ⟨gr2,ar2,cr2,zr2,rfl,_,_,_⟩:=hv2
 have HF:=Hid.mk (HF1.out.later hb2)
 have HN:Hid (NoInt w2 w.heap.size):=HN1.out.later hb2
 clear hb2 HF1 HN1 R1_1
 have r0:=HF.out.e0x0
 have r1:=HF.out.e0x1
 have r2:=HF.out.e0x2
 have r3:=HF.out.e0x3
 have r4:=HF.out.e0x4
 have r5:=HF.out.e0x5
 have r6:=HF.out.e0x6
 have r7:=HF.out.e0x7
 have rz:=HF.out.f0
 go_wp2
 refine bodyPost_ret (v:= .agg #[false,(),gr1,.slice ar1 zr1.length cr1,gr2,.slice ar2 zr2.length cr2,false,()]) (by simp [results,Tryz.results134,go_sem,r0,r1,r2,r3,r4,r5,r6,r7]) rfl ?_
 refine ⟨_,rfl,⟨false,none,0,[],gr1,ar1,cr1,zr1,gr2,ar2,cr2,zr2,false,none,0,[],rfl,BigIs.zero _ _,(HR1.out.setAll [false,(),gr1,.slice ar1 zr1.length cr1,gr2,.slice ar2 zr2.length cr2,false,()] _ 0 HN.out (by simp [NotInt])).up (Nat.zero_le _),(HR2.out.setAll [false,(),gr1,.slice ar1 zr1.length cr1,gr2,.slice ar2 zr2.length cr2,false,()] _ 0 HN.out (by simp [NotInt])).up (Nat.zero_le _),BigIs.zero _ _⟩,(HF.out.set0 _ _ _ _ _ _ _ _).bel,fun k hk=>AvV.eight (AvA.nil _ _) ((HA1.out k hk).get 1 rfl) ((HA2.out k hk).get 1 rfl) (AvA.nil _ _)⟩
end Go.Proofs.YtfieffpobgcpmaaGreatDoor
