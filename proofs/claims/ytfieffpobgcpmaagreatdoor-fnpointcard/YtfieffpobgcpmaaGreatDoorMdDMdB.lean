import Derived.Test.YtfieffpobgcpmaaGreatDoorSpecMSpecJ0SpecJSpecSMdA
import Derived.Test.YtfieffpobgcpmaaGreatDoorFwAEsRBhF
import Derived.Deep.RegionHeld3
set_option maxRecDepth 100000
set_option maxHeartbeats 32000000
namespace Go.Proofs.YtfieffpobgcpmaaGreatDoor
open Go.RowKit
def FrM (w:World) (v:Value) (n:Nat) (p q:Int):Prop:= ∃(g:Bool) (a:Option Addr) (c:Nat) (z:List Int) (g':Bool) (a':Option Addr) (c':Nat) (z':List Int),v= .agg #[g,.slice a z.length c,g',.slice a' z'.length c',false]∧MIs w (.agg #[g,.slice a z.length c]) n p∧MIs w (.agg #[g',.slice a' z'.length c']) n q
def FrMOut (w:World) (n:Nat) (p q:Int) (o:Ending) (w':World):Prop:= ∃v,o= .returned v∧FrM w' v n p q∧Below w.heap.size w w'
theorem FrM.later {w w':World} {v:Value} {n:Nat} {p q:Int} (h:FrM w v n p q) (hb:Below w.heap.size w w'):FrM w' v n p q:=by
 obtain ⟨g,a,c,z,g',a',c',z',rfl,h1,h2⟩:=h
 exact ⟨g,a,c,z,g',a',c',z',rfl,h1.later hb,h2.later hb⟩
structure Fmk (w:World) (m0 m1 n0 n1 p0 p1 p2 p3 p4:Value) (W:World):Prop where
 e0x0:W.cell? ⟨w.heap.size,0,none⟩=some m0
 e0x1:W.cell? ⟨w.heap.size,1,none⟩=some m1
 f0: ∀j,W.frozen? ⟨w.heap.size,j,none⟩=false
 e1x0:W.cell? ⟨w.heap.size+1,0,none⟩=some n0
 e1x1:W.cell? ⟨w.heap.size+1,1,none⟩=some n1
 f1: ∀j,W.frozen? ⟨w.heap.size+1,j,none⟩=false
 e2x0:W.cell? ⟨w.heap.size+1+1,0,none⟩=some p0
 e2x1:W.cell? ⟨w.heap.size+1+1,1,none⟩=some p1
 e2x2:W.cell? ⟨w.heap.size+1+1,2,none⟩=some p2
 e2x3:W.cell? ⟨w.heap.size+1+1,3,none⟩=some p3
 e2x4:W.cell? ⟨w.heap.size+1+1,4,none⟩=some p4
 f2: ∀j,W.frozen? ⟨w.heap.size+1+1,j,none⟩=false
 le:w.heap.size+1+1+1≤W.heap.size
 bel:Below w.heap.size w W
theorem Fmk.start (w:World) (m0 m1 n0 n1 p0 p1 p2 p3 p4:Value) (t0 t1 t2:TypeId):Fmk w m0 m1 n0 n1 p0 p1 p2 p3 p4 (((w.alloc (.cells #[m0,m1] t0)).alloc (.cells #[n0,n1] t1)).alloc (.cells #[p0,p1,p2,p3,p4] t2)):=by
 constructor<;>first|exact (((bel0 _ _).trans ((bel0 _ _).mono (by simp<;>omega))).trans ((bel0 _ _).mono (by simp<;>omega)))|simp [go_sem]
theorem Fmk.later {w:World} {m0 m1 n0 n1 p0 p1 p2 p3 p4:Value} {W W':World} (h:Fmk w m0 m1 n0 n1 p0 p1 p2 p3 p4 W) (hb:Below W.heap.size W W'):Fmk w m0 m1 n0 n1 p0 p1 p2 p3 p4 W':=by
 have q:=h.le
 have z:=h.bel.trans (hb.mono h.bel.size)
 cases h
 constructor<;>first|exact ((bcell hb).1 _ _ (by omega)).trans (by with_reducible assumption)|exact z|exact Nat.le_trans q hb.size| (intro j;exact ((bcell hb).2 _ _ (by omega)).trans (by apply_assumption))
theorem Fmk.set2 {w:World} {m0 m1 n0 n1 p0 p1 p2 p3 p4:Value} {W:World} (h:Fmk w m0 m1 n0 n1 p0 p1 p2 p3 p4 W) (v0 v1 v2 v3 v4:Value):Fmk w m0 m1 n0 n1 v0 v1 v2 v3 v4 (((((W.setCell ⟨w.heap.size+1+1,0,none⟩ v0).setCell ⟨w.heap.size+1+1,1,none⟩ v1).setCell ⟨w.heap.size+1+1,2,none⟩ v2).setCell ⟨w.heap.size+1+1,3,none⟩ v3).setCell ⟨w.heap.size+1+1,4,none⟩ v4):=by
 have hle:=h.le
 constructor<;>first|exact (((((h.bel.setCell (by simp<;>omega) _).setCell (by simp<;>omega) _).setCell (by simp<;>omega) _).setCell (by simp<;>omega) _).setCell (by simp<;>omega) _)| (cases h;simp [go_sem, *])
theorem Fmk.s {w:World} {m0 m1 n0 n1 p0 p1 p2 p3 p4:Value} {w':World} (h:Fmk w m0 m1 n0 n1 p0 p1 p2 p3 p4 w'):w'.cell? ⟨w.heap.size,0,none⟩=some m0∧w'.cell? ⟨w.heap.size,1,none⟩=some m1∧w'.cell? ⟨w.heap.size+1,0,none⟩=some n0∧w'.cell? ⟨w.heap.size+1,1,none⟩=some n1:=⟨h.e0x0,h.e0x1,h.e1x0,h.e1x1⟩
theorem makeN_any (u v:Value) (n:Nat) (x y:Int) (w:World) (hn:n≤20000) (hu:MIs w u n x) (hv:MIs w v n y) (hy:y<0):
 Calls Tryz.prog 156 #[u,v] w fun o w'=>FrMOut w n (-x) (-y) o w':=by
 have hk:=hu
 have hl:=hv
 obtain ⟨gu,au,cu,zu,rfl,_,_,_⟩:=hu
 obtain ⟨gv,av,cv,zv,rfl,_,_,_⟩:=hv
 have hg:=hl.neg_iff
 rw [decide_eq_true hy] at hg
 subst hg
 go_enter Tryz.func156,Tryz.ntmps156
 go_wp2_with fail
 obtain ⟨W0,hW0⟩: ∃V0,V0=(((w.alloc (.cells #[gu,.slice au zu.length cu] 72)).alloc (.cells #[true,.slice av zv.length cv] 72)).alloc (.cells #[false,(),false,(),false] 74)):=⟨_,rfl⟩
 rw [←hW0]
 have FR:Hid (Fmk w gu (.slice au zu.length cu) true (.slice av zv.length cv) false () false () false W0):=by rw [hW0];exact Fmk.start w _ _ _ _ _ _ _ _ _ _ _ _
 have HNI:Hid (NoInt W0 (w.heap.size+1+1)):=by
  have hz: ∀(i:Nat) (k:IntKind) (m:Int),(#[↑false,↑(),↑false,↑(),↑false]:Array Value)[i]? ≠some (Value.int k m):=by
   intro i k m
   match i with|0=>simp|1=>simp|2=>simp|3=>simp|4=>simp|n+5=>simp
  have h1:=NoInt.new ((w.alloc (.cells #[gu,.slice au zu.length cu] 72)).alloc (.cells #[true,.slice av zv.length cv] 72)) #[false,(),false,(),false] 74 hz
  have hs:((w.alloc (.cells #[gu,.slice au zu.length cu] 72)).alloc (.cells #[true,.slice av zv.length cv] 72)).heap.size=w.heap.size+1+1:=by simp
  rw [hs] at h1
  unfold Hid;rw [hW0];exact h1
 clear hW0
 have RU_0:=(hk.later FR.out.bel).later (w':=W0.drew) (Below.refl _ _).drew
 have RV_0:=(hl.later FR.out.bel).later (w':=W0.drew) (Below.refl _ _).drew
 have NI_0:=HNI.out.later (w':=W0.drew) (Below.refl _ _).drew
 have F0:Fmk w gu (.slice au zu.length cu) true (.slice av zv.length cv) false () false () false W0.drew:=FR.out.later (Below.refl _ _).drew
 go_region_held3 (fun w'=>w'.cell? ⟨w.heap.size,0,none⟩=some ↑gu∧w'.cell? ⟨w.heap.size,1,none⟩=some (.slice au zu.length cu)∧w'.cell? ⟨w.heap.size+1,0,none⟩=some ↑true∧w'.cell? ⟨w.heap.size+1,1,none⟩=some (.slice av zv.length cv))
  (first|with_reducible exact (F2.set2 _ _ _ _ _).s|with_reducible exact Fmk.s (by with_reducible assumption))
  (first
   |(have hBB:=hB1;clear hBB;go_at_call 117;refine (negM_any _ n y _ (by omega) RV_1).mono ?_;rintro o w2 ⟨v2,rfl,hv2,hb2⟩;have R2_2:MIs w2 v2 n (-y):=hv2;obtain ⟨gr2,ar2,cr2,zr2,rfl,_,_,_⟩:=hv2;have RU_2:=RU_1.later hb2;have RV_2:=RV_1.later hb2;have NI_2:=NI_1.later hb2;have R1_2:=R1_1.later hb2;have hB2:Below W0.heap.size W0 w2:=hB1.trans (hb2.mono hB1.size);have F2:Fmk w gu (.slice au zu.length cu) true (.slice av zv.length cv) false () false () false w2:=FR.out.later hB2;have r0:=F2.e2x0;have r1:=F2.e2x1;have r2:=F2.e2x2;have r3:=F2.e2x3;have r4:=F2.e2x4;have rz:=F2.f2)
   |(go_at_call 117;refine (negM_any _ n x _ (by omega) RU_0).mono ?_;rintro o w1 ⟨v1,rfl,hv1,hb1⟩;have R1_1:MIs w1 v1 n (-x):=hv1;obtain ⟨gr1,ar1,cr1,zr1,rfl,_,_,_⟩:=hv1;have RU_1:=RU_0.later hb1;have RV_1:=RV_0.later hb1;have NI_1:=NI_0.later hb1;have hB1:Below W0.heap.size W0 w1:=(Below.refl _ _).drew.trans hb1;have F1:Fmk w gu (.slice au zu.length cu) true (.slice av zv.length cv) false () false () false w1:=FR.out.later hB1))
 have HF:Hid (Fmk w gu (.slice au zu.length cu) true (.slice av zv.length cv) false () false () false w2):=F2
 have HR1:Hid (MIs w2 (.agg #[gr1,.slice ar1 zr1.length cr1]) n (-x)):=R1_2
 have HR2:Hid (MIs w2 (.agg #[gr2,.slice ar2 zr2.length cr2]) n (-y)):=R2_2
 have HNN:Hid (NoInt w2 (w.heap.size+1+1)):=NI_2
 clear hB1 hb1 F1 hB2 hb2 F2 RU_0 RU_1 RU_2 RV_0 RV_1 RV_2 NI_0 NI_1 NI_2 R1_1 R1_2 R2_2 F0
 go_wp2
 refine bodyPost_ret (v:= .agg #[gr1,.slice ar1 zr1.length cr1,gr2,.slice ar2 zr2.length cr2,false]) (by simp [results,Tryz.results156,go_sem,r0,r1,r2,r3,r4]) rfl ?_
 refine ⟨_,rfl,⟨gr1,ar1,cr1,zr1,gr2,ar2,cr2,zr2,rfl,HR1.out.setAll [gr1,.slice ar1 zr1.length cr1,gr2,.slice ar2 zr2.length cr2,false] _ 0 HNN.out (by simp [NotInt]),HR2.out.setAll [gr1,.slice ar1 zr1.length cr1,gr2,.slice ar2 zr2.length cr2,false] _ 0 HNN.out (by simp [NotInt])⟩,?_⟩
 exact (HF.out.set2 _ _ _ _ _).bel
theorem makeP_any (u v:Value) (n:Nat) (x y:Int) (w:World) (hu:MIs w u n x) (hv:MIs w v n y) (hy:0≤y):
 Calls Tryz.prog 156 #[u,v] w fun o w'=>FrMOut w n x y o w':=by
 have hk:=hu
 have hl:=hv
 obtain ⟨gu,au,cu,zu,rfl,_,_,_⟩:=hu
 obtain ⟨gv,av,cv,zv,rfl,_,_,_⟩:=hv
 have hg:=hl.neg_iff
 rw [decide_eq_false (by omega)] at hg
 subst hg
 go_enter Tryz.func156,Tryz.ntmps156
 go_wp2
 refine bodyPost_ret (v:= .agg #[gu,.slice au zu.length cu,false,.slice av zv.length cv,false]) (by simp [results,Tryz.results156,go_sem]) rfl ?_
 refine ⟨_,rfl,⟨gu,au,cu,zu,false,av,cv,zv,rfl,hk.later ?_,hl.later ?_⟩,?_⟩
 all_goals exact (Fmk.start w _ _ _ _ _ _ _ _ _ _ _ _).bel
theorem makeF_any (u v:Value) (n:Nat) (x y:Int) (w:World) (hn:n≤20000) (hu:MIs w u n x) (hv:MIs w v n y):
 Calls Tryz.prog 156 #[u,v] w fun o w'=>FrMOut w n (if y<0 then-x else x) (if y<0 then-y else y) o w':=by
 by_cases hy:y<0
 ·rw [if_pos hy,if_pos hy];exact makeN_any u v n x y w hn hu hv hy
 ·rw [if_neg hy,if_neg hy];exact makeP_any u v n x y w hu hv (by omega)
structure Fmo (w:World) (m0 m1 m2 m3 m4 n0 n1 n2 n3 n4:Value) (W:World):Prop where
 e0x0:W.cell? ⟨w.heap.size,0,none⟩=some m0
 e0x1:W.cell? ⟨w.heap.size,1,none⟩=some m1
 e0x2:W.cell? ⟨w.heap.size,2,none⟩=some m2
 e0x3:W.cell? ⟨w.heap.size,3,none⟩=some m3
 e0x4:W.cell? ⟨w.heap.size,4,none⟩=some m4
 f0: ∀j,W.frozen? ⟨w.heap.size,j,none⟩=false
 e1x0:W.cell? ⟨w.heap.size+1,0,none⟩=some n0
 e1x1:W.cell? ⟨w.heap.size+1,1,none⟩=some n1
 e1x2:W.cell? ⟨w.heap.size+1,2,none⟩=some n2
 e1x3:W.cell? ⟨w.heap.size+1,3,none⟩=some n3
 e1x4:W.cell? ⟨w.heap.size+1,4,none⟩=some n4
 f1: ∀j,W.frozen? ⟨w.heap.size+1,j,none⟩=false
 le:w.heap.size+1+1≤W.heap.size
 bel:Below w.heap.size w W
theorem Fmo.start (w:World) (m0 m1 m2 m3 m4 n0 n1 n2 n3 n4:Value) (t0 t1:TypeId):Fmo w m0 m1 m2 m3 m4 n0 n1 n2 n3 n4 ((w.alloc (.cells #[m0,m1,m2,m3,m4] t0)).alloc (.cells #[n0,n1,n2,n3,n4] t1)):=by
 constructor<;>first|exact ((bel0 _ _).trans ((bel0 _ _).mono (by simp<;>omega)))|simp [go_sem]
theorem Fmo.later {w:World} {m0 m1 m2 m3 m4 n0 n1 n2 n3 n4:Value} {W W':World} (h:Fmo w m0 m1 m2 m3 m4 n0 n1 n2 n3 n4 W) (hb:Below W.heap.size W W'):Fmo w m0 m1 m2 m3 m4 n0 n1 n2 n3 n4 W':=by
 have q:=h.le
 have z:=h.bel.trans (hb.mono h.bel.size)
 cases h
 constructor<;>first|exact ((bcell hb).1 _ _ (by omega)).trans (by with_reducible assumption)|exact z|exact Nat.le_trans q hb.size| (intro j;exact ((bcell hb).2 _ _ (by omega)).trans (by apply_assumption))
theorem Fmo.s {w:World} {m0 m1 m2 m3 m4 n0 n1 n2 n3 n4:Value} {w':World} (h:Fmo w m0 m1 m2 m3 m4 n0 n1 n2 n3 n4 w'):w'.cell? ⟨w.heap.size,0,none⟩=some m0∧w'.cell? ⟨w.heap.size,1,none⟩=some m1∧w'.cell? ⟨w.heap.size,2,none⟩=some m2∧w'.cell? ⟨w.heap.size,3,none⟩=some m3∧w'.cell? ⟨w.heap.size,4,none⟩=some m4∧w'.cell? ⟨w.heap.size+1,0,none⟩=some n0∧w'.cell? ⟨w.heap.size+1,1,none⟩=some n1∧w'.cell? ⟨w.heap.size+1,2,none⟩=some n2∧w'.cell? ⟨w.heap.size+1,3,none⟩=some n3∧w'.cell? ⟨w.heap.size+1,4,none⟩=some n4:=⟨h.e0x0,h.e0x1,h.e0x2,h.e0x3,h.e0x4,h.e1x0,h.e1x1,h.e1x2,h.e1x3,h.e1x4⟩
theorem cmpF_any (f g:Value) (n:Nat) (p q r s:Int) (w:World) (hn:n≤20000) (h1:FrM w f n p q) (h2:FrM w g n r s):
 Calls Tryz.prog 49 #[f,g] w fun o w'=>o= .returned (.int .i64 (sgn (p*s-r*q)))∧Below w.heap.size w w':=by
 obtain ⟨gu,au,cu,zu,gv,av,cv,zv,rfl,hu,hv⟩:=h1
 obtain ⟨gx,ax,cx,zx,gy,ay,cy,zy,rfl,hx,hy⟩:=h2
 go_enter Tryz.func49,Tryz.ntmps49
 go_wp2_with fail
 obtain ⟨W0,hW0⟩: ∃V0,V0=((w.alloc (.cells #[gu,.slice au zu.length cu,gv,.slice av zv.length cv,false] 74)).alloc (.cells #[gx,.slice ax zx.length cx,gy,.slice ay zy.length cy,false] 74)):=⟨_,rfl⟩
 rw [←hW0]
 have FR:Hid (Fmo w gu (.slice au zu.length cu) gv (.slice av zv.length cv) false gx (.slice ax zx.length cx) gy (.slice ay zy.length cy) false W0):=by rw [hW0];exact Fmo.start w _ _ _ _ _ _ _ _ _ _ _ _
 clear hW0
 have RU_0:=(hu.later FR.out.bel).later (w':=W0.drew) (Below.refl _ _).drew
 have RV_0:=(hv.later FR.out.bel).later (w':=W0.drew) (Below.refl _ _).drew
 have RX_0:=(hx.later FR.out.bel).later (w':=W0.drew) (Below.refl _ _).drew
 have RY_0:=(hy.later FR.out.bel).later (w':=W0.drew) (Below.refl _ _).drew
 have F0:Fmo w gu (.slice au zu.length cu) gv (.slice av zv.length cv) false gx (.slice ax zx.length cx) gy (.slice ay zy.length cy) false W0.drew:=FR.out.later (Below.refl _ _).drew
 go_region_held3 (fun w'=>w'.cell? ⟨w.heap.size,0,none⟩=some ↑gu∧w'.cell? ⟨w.heap.size,1,none⟩=some (.slice au zu.length cu)∧w'.cell? ⟨w.heap.size,2,none⟩=some ↑gv∧w'.cell? ⟨w.heap.size,3,none⟩=some (.slice av zv.length cv)∧w'.cell? ⟨w.heap.size,4,none⟩=some ↑false∧w'.cell? ⟨w.heap.size+1,0,none⟩=some ↑gx∧w'.cell? ⟨w.heap.size+1,1,none⟩=some (.slice ax zx.length cx)∧w'.cell? ⟨w.heap.size+1,2,none⟩=some ↑gy∧w'.cell? ⟨w.heap.size+1,3,none⟩=some (.slice ay zy.length cy)∧w'.cell? ⟨w.heap.size+1,4,none⟩=some ↑false)
  (with_reducible exact Fmo.s (by with_reducible assumption))
  (first
   |(have hBB:=hB2;clear hBB;go_at_call 96;refine (cmpM_any _ _ (n+n+1) (n+n+1) (p*s) (r*q) _ (by omega) (by omega) R1_2 R2_2).mono ?_;rintro o w3 ⟨rfl,hb3⟩;have RU_3:=RU_2.later hb3;have RV_3:=RV_2.later hb3;have RX_3:=RX_2.later hb3;have RY_3:=RY_2.later hb3;have R1_3:=R1_2.later hb3;have R2_3:=R2_2.later hb3;have hB3:Below W0.heap.size W0 w3:=hB2.trans (hb3.mono hB2.size);have F3:Fmo w gu (.slice au zu.length cu) gv (.slice av zv.length cv) false gx (.slice ax zx.length cx) gy (.slice ay zy.length cy) false w3:=FR.out.later hB3)
   |(have hBB:=hB1;clear hBB;go_at_call 97;refine (mulM_any _ _ n n r q _ (by omega) (by omega) RX_1 RV_1).mono ?_;rintro o w2 ⟨v2,rfl,hv2,hb2⟩;have R2_2:MIs w2 v2 (n+n+1) (r*q):=hv2;obtain ⟨gr2,ar2,cr2,zr2,rfl,_,_,_⟩:=hv2;have RU_2:=RU_1.later hb2;have RV_2:=RV_1.later hb2;have RX_2:=RX_1.later hb2;have RY_2:=RY_1.later hb2;have R1_2:=R1_1.later hb2;have hB2:Below W0.heap.size W0 w2:=hB1.trans (hb2.mono hB1.size);have F2:Fmo w gu (.slice au zu.length cu) gv (.slice av zv.length cv) false gx (.slice ax zx.length cx) gy (.slice ay zy.length cy) false w2:=FR.out.later hB2)
   |(go_at_call 97;refine (mulM_any _ _ n n p s _ (by omega) (by omega) RU_0 RY_0).mono ?_;rintro o w1 ⟨v1,rfl,hv1,hb1⟩;have R1_1:MIs w1 v1 (n+n+1) (p*s):=hv1;obtain ⟨gr1,ar1,cr1,zr1,rfl,_,_,_⟩:=hv1;have RU_1:=RU_0.later hb1;have RV_1:=RV_0.later hb1;have RX_1:=RX_0.later hb1;have RY_1:=RY_0.later hb1;have hB1:Below W0.heap.size W0 w1:=(Below.refl _ _).drew.trans hb1;have F1:Fmo w gu (.slice au zu.length cu) gv (.slice av zv.length cv) false gx (.slice ax zx.length cx) gy (.slice ay zy.length cy) false w1:=FR.out.later hB1))
 have HF:Hid (Fmo w gu (.slice au zu.length cu) gv (.slice av zv.length cv) false gx (.slice ax zx.length cx) gy (.slice ay zy.length cy) false w3):=F3
 clear hB1 hb1 F1 hB2 hb2 F2 hB3 hb3 F3 F0
 go_wp2
 go_ret
 exact ⟨rfl,HF.out.bel⟩
theorem cmpFN_any (f:Value) (n:Nat) (p q:Int) (x0 x1 x2 x3:Value) (w:World) (h1:FrM w f n p q):
 Calls Tryz.prog 49 #[f,.agg #[x0,x1,x2,x3,true]] w fun o w'=>o= .returned (.int .i64 (-1))∧Below w.heap.size w w':=by
 obtain ⟨gu,au,cu,zu,gv,av,cv,zv,rfl,_,_⟩:=h1
 go_enter Tryz.func49,Tryz.ntmps49
 go_wp2
 go_ret
 exact ⟨rfl,bel2 _ _ _⟩
def VecM (w:World) (v:Value) (n:Nat) (A B C:Int):Prop:= ∃(g1:Bool) (a1:Option Addr) (c1:Nat) (z1:List Int) (g2:Bool) (a2:Option Addr) (c2:Nat) (z2:List Int) (g3:Bool) (a3:Option Addr) (c3:Nat) (z3:List Int),v= .agg #[g1,.slice a1 z1.length c1,g2,.slice a2 z2.length c2,g3,.slice a3 z3.length c3]∧MIs w (.agg #[g1,.slice a1 z1.length c1]) n A∧MIs w (.agg #[g2,.slice a2 z2.length c2]) n B∧MIs w (.agg #[g3,.slice a3 z3.length c3]) n C
def VecMOut (w:World) (n:Nat) (A B C:Int) (o:Ending) (w':World):Prop:= ∃v,o= .returned v∧VecM w' v n A B C∧Below w.heap.size w w'
theorem VecM.later {w w':World} {v:Value} {n:Nat} {A B C:Int} (h:VecM w v n A B C) (hb:Below w.heap.size w w'):VecM w' v n A B C:=by
 obtain ⟨g1,a1,c1,z1,g2,a2,c2,z2,g3,a3,c3,z3,rfl,h1,h2,h3⟩:=h
 exact ⟨g1,a1,c1,z1,g2,a2,c2,z2,g3,a3,c3,z3,rfl,h1.later hb,h2.later hb,h3.later hb⟩
theorem VecM.setAll {v:Value} {n:Nat} {A B C:Int} {b:Nat} (us:List Value) (w:World) (i:Nat) (h:VecM w v n A B C) (hn:NoInt w b) (hu: ∀u∈us,NotInt u):VecM (Go.Proofs.YtfieffpobgcpmaaGreatDoor.setAll w b i us) v n A B C:=by
 obtain ⟨g1,a1,c1,z1,g2,a2,c2,z2,g3,a3,c3,z3,rfl,h1,h2,h3⟩:=h
 exact ⟨g1,a1,c1,z1,g2,a2,c2,z2,g3,a3,c3,z3,rfl,h1.setAll us w i hn hu,h2.setAll us w i hn hu,h3.setAll us w i hn hu⟩
structure Fms (w:World) (m0 m1 m2 m3 m4 m5 n0 n1 n2 n3 n4 n5 p0 p1 p2 p3 p4 p5:Value) (W:World):Prop where
 e0x0:W.cell? ⟨w.heap.size,0,none⟩=some m0
 e0x1:W.cell? ⟨w.heap.size,1,none⟩=some m1
 e0x2:W.cell? ⟨w.heap.size,2,none⟩=some m2
 e0x3:W.cell? ⟨w.heap.size,3,none⟩=some m3
 e0x4:W.cell? ⟨w.heap.size,4,none⟩=some m4
 e0x5:W.cell? ⟨w.heap.size,5,none⟩=some m5
 f0: ∀j,W.frozen? ⟨w.heap.size,j,none⟩=false
 e1x0:W.cell? ⟨w.heap.size+1,0,none⟩=some n0
 e1x1:W.cell? ⟨w.heap.size+1,1,none⟩=some n1
 e1x2:W.cell? ⟨w.heap.size+1,2,none⟩=some n2
 e1x3:W.cell? ⟨w.heap.size+1,3,none⟩=some n3
 e1x4:W.cell? ⟨w.heap.size+1,4,none⟩=some n4
 e1x5:W.cell? ⟨w.heap.size+1,5,none⟩=some n5
 f1: ∀j,W.frozen? ⟨w.heap.size+1,j,none⟩=false
 e2x0:W.cell? ⟨w.heap.size+1+1,0,none⟩=some p0
 e2x1:W.cell? ⟨w.heap.size+1+1,1,none⟩=some p1
 e2x2:W.cell? ⟨w.heap.size+1+1,2,none⟩=some p2
 e2x3:W.cell? ⟨w.heap.size+1+1,3,none⟩=some p3
 e2x4:W.cell? ⟨w.heap.size+1+1,4,none⟩=some p4
 e2x5:W.cell? ⟨w.heap.size+1+1,5,none⟩=some p5
 f2: ∀j,W.frozen? ⟨w.heap.size+1+1,j,none⟩=false
 le:w.heap.size+1+1+1≤W.heap.size
 bel:Below w.heap.size w W
theorem Fms.start (w:World) (m0 m1 m2 m3 m4 m5 n0 n1 n2 n3 n4 n5 p0 p1 p2 p3 p4 p5:Value) (t0 t1 t2:TypeId):Fms w m0 m1 m2 m3 m4 m5 n0 n1 n2 n3 n4 n5 p0 p1 p2 p3 p4 p5 (((w.alloc (.cells #[m0,m1,m2,m3,m4,m5] t0)).alloc (.cells #[n0,n1,n2,n3,n4,n5] t1)).alloc (.cells #[p0,p1,p2,p3,p4,p5] t2)):=by
 constructor<;>first|exact (((bel0 _ _).trans ((bel0 _ _).mono (by simp<;>omega))).trans ((bel0 _ _).mono (by simp<;>omega)))|simp [go_sem]
theorem Fms.later {w:World} {m0 m1 m2 m3 m4 m5 n0 n1 n2 n3 n4 n5 p0 p1 p2 p3 p4 p5:Value} {W W':World} (h:Fms w m0 m1 m2 m3 m4 m5 n0 n1 n2 n3 n4 n5 p0 p1 p2 p3 p4 p5 W) (hb:Below W.heap.size W W'):Fms w m0 m1 m2 m3 m4 m5 n0 n1 n2 n3 n4 n5 p0 p1 p2 p3 p4 p5 W':=by
 have q:=h.le
 have z:=h.bel.trans (hb.mono h.bel.size)
 cases h
 constructor<;>first|exact ((bcell hb).1 _ _ (by omega)).trans (by with_reducible assumption)|exact z|exact Nat.le_trans q hb.size| (intro j;exact ((bcell hb).2 _ _ (by omega)).trans (by apply_assumption))
theorem Fms.set2 {w:World} {m0 m1 m2 m3 m4 m5 n0 n1 n2 n3 n4 n5 p0 p1 p2 p3 p4 p5:Value} {W:World} (h:Fms w m0 m1 m2 m3 m4 m5 n0 n1 n2 n3 n4 n5 p0 p1 p2 p3 p4 p5 W) (v0 v1 v2 v3 v4 v5:Value):Fms w m0 m1 m2 m3 m4 m5 n0 n1 n2 n3 n4 n5 v0 v1 v2 v3 v4 v5 ((((((W.setCell ⟨w.heap.size+1+1,0,none⟩ v0).setCell ⟨w.heap.size+1+1,1,none⟩ v1).setCell ⟨w.heap.size+1+1,2,none⟩ v2).setCell ⟨w.heap.size+1+1,3,none⟩ v3).setCell ⟨w.heap.size+1+1,4,none⟩ v4).setCell ⟨w.heap.size+1+1,5,none⟩ v5):=by
 have hle:=h.le
 constructor<;>first|exact ((((((h.bel.setCell (by simp<;>omega) _).setCell (by simp<;>omega) _).setCell (by simp<;>omega) _).setCell (by simp<;>omega) _).setCell (by simp<;>omega) _).setCell (by simp<;>omega) _)| (cases h;simp [go_sem, *])
theorem Fms.s {w:World} {m0 m1 m2 m3 m4 m5 n0 n1 n2 n3 n4 n5 p0 p1 p2 p3 p4 p5:Value} {w':World} (h:Fms w m0 m1 m2 m3 m4 m5 n0 n1 n2 n3 n4 n5 p0 p1 p2 p3 p4 p5 w'):w'.cell? ⟨w.heap.size,0,none⟩=some m0∧w'.cell? ⟨w.heap.size,1,none⟩=some m1∧w'.cell? ⟨w.heap.size,2,none⟩=some m2∧w'.cell? ⟨w.heap.size,3,none⟩=some m3∧w'.cell? ⟨w.heap.size,4,none⟩=some m4∧w'.cell? ⟨w.heap.size,5,none⟩=some m5∧w'.cell? ⟨w.heap.size+1,0,none⟩=some n0∧w'.cell? ⟨w.heap.size+1,1,none⟩=some n1∧w'.cell? ⟨w.heap.size+1,2,none⟩=some n2∧w'.cell? ⟨w.heap.size+1,3,none⟩=some n3∧w'.cell? ⟨w.heap.size+1,4,none⟩=some n4∧w'.cell? ⟨w.heap.size+1,5,none⟩=some n5:=⟨h.e0x0,h.e0x1,h.e0x2,h.e0x3,h.e0x4,h.e0x5,h.e1x0,h.e1x1,h.e1x2,h.e1x3,h.e1x4,h.e1x5⟩
theorem subV_any (u v:Value) (n m:Nat) (A B C A' B' C':Int) (w:World) (hn:n≤20000) (hm:m≤20000) (hu:VecM w u n A B C) (hv:VecM w v m A' B' C'):
 Calls Tryz.prog 104 #[u,v] w fun o w'=>VecMOut w (n+m+1) (A-A') (B-B') (C-C') o w':=by
 obtain ⟨gu1,au1,cu1,zu1,gu2,au2,cu2,zu2,gu3,au3,cu3,zu3,rfl,hu1,hu2,hu3⟩:=hu
 obtain ⟨gv1,av1,cv1,zv1,gv2,av2,cv2,zv2,gv3,av3,cv3,zv3,rfl,hv1,hv2,hv3⟩:=hv
 go_enter Tryz.func104,Tryz.ntmps104
 go_wp2_with fail
 obtain ⟨W0,hW0⟩: ∃V0,V0=(((w.alloc (.cells #[gu1,.slice au1 zu1.length cu1,gu2,.slice au2 zu2.length cu2,gu3,.slice au3 zu3.length cu3] 128)).alloc (.cells #[gv1,.slice av1 zv1.length cv1,gv2,.slice av2 zv2.length cv2,gv3,.slice av3 zv3.length cv3] 128)).alloc (.cells #[false,(),false,(),false,()] 128)):=⟨_,rfl⟩
 rw [←hW0]
 have FR:Hid (Fms w gu1 (.slice au1 zu1.length cu1) gu2 (.slice au2 zu2.length cu2) gu3 (.slice au3 zu3.length cu3) gv1 (.slice av1 zv1.length cv1) gv2 (.slice av2 zv2.length cv2) gv3 (.slice av3 zv3.length cv3) false () false () false () W0):=by rw [hW0];exact Fms.start w _ _ _ _ _ _ _ _ _ _ _ _ _ _ _ _ _ _ _ _ _
 have HNI:Hid (NoInt W0 (w.heap.size+1+1)):=by
  have hz: ∀(i:Nat) (k:IntKind) (m:Int),(#[↑false,↑(),↑false,↑(),↑false,↑()]:Array Value)[i]? ≠some (Value.int k m):=by
   intro i k m
   match i with|0=>simp|1=>simp|2=>simp|3=>simp|4=>simp|5=>simp|n+6=>simp
  have h1:=NoInt.new ((w.alloc (.cells #[gu1,.slice au1 zu1.length cu1,gu2,.slice au2 zu2.length cu2,gu3,.slice au3 zu3.length cu3] 128)).alloc (.cells #[gv1,.slice av1 zv1.length cv1,gv2,.slice av2 zv2.length cv2,gv3,.slice av3 zv3.length cv3] 128)) #[false,(),false,(),false,()] 128 hz
  have hs:((w.alloc (.cells #[gu1,.slice au1 zu1.length cu1,gu2,.slice au2 zu2.length cu2,gu3,.slice au3 zu3.length cu3] 128)).alloc (.cells #[gv1,.slice av1 zv1.length cv1,gv2,.slice av2 zv2.length cv2,gv3,.slice av3 zv3.length cv3] 128)).heap.size=w.heap.size+1+1:=by simp
  rw [hs] at h1
  unfold Hid;rw [hW0];exact h1
 clear hW0
 have U1_0:=(hu1.later FR.out.bel).later (w':=W0.drew) (Below.refl _ _).drew
 have U2_0:=(hu2.later FR.out.bel).later (w':=W0.drew) (Below.refl _ _).drew
 have U3_0:=(hu3.later FR.out.bel).later (w':=W0.drew) (Below.refl _ _).drew
 have V1_0:=(hv1.later FR.out.bel).later (w':=W0.drew) (Below.refl _ _).drew
 have V2_0:=(hv2.later FR.out.bel).later (w':=W0.drew) (Below.refl _ _).drew
 have V3_0:=(hv3.later FR.out.bel).later (w':=W0.drew) (Below.refl _ _).drew
 have NI_0:=HNI.out.later (w':=W0.drew) (Below.refl _ _).drew
 have F0:Fms w gu1 (.slice au1 zu1.length cu1) gu2 (.slice au2 zu2.length cu2) gu3 (.slice au3 zu3.length cu3) gv1 (.slice av1 zv1.length cv1) gv2 (.slice av2 zv2.length cv2) gv3 (.slice av3 zv3.length cv3) false () false () false () W0.drew:=FR.out.later (Below.refl _ _).drew
 go_region_held3 (fun w'=>w'.cell? ⟨w.heap.size,0,none⟩=some ↑gu1∧w'.cell? ⟨w.heap.size,1,none⟩=some (.slice au1 zu1.length cu1)∧w'.cell? ⟨w.heap.size,2,none⟩=some ↑gu2∧w'.cell? ⟨w.heap.size,3,none⟩=some (.slice au2 zu2.length cu2)∧w'.cell? ⟨w.heap.size,4,none⟩=some ↑gu3∧w'.cell? ⟨w.heap.size,5,none⟩=some (.slice au3 zu3.length cu3)∧w'.cell? ⟨w.heap.size+1,0,none⟩=some ↑gv1∧w'.cell? ⟨w.heap.size+1,1,none⟩=some (.slice av1 zv1.length cv1)∧w'.cell? ⟨w.heap.size+1,2,none⟩=some ↑gv2∧w'.cell? ⟨w.heap.size+1,3,none⟩=some (.slice av2 zv2.length cv2)∧w'.cell? ⟨w.heap.size+1,4,none⟩=some ↑gv3∧w'.cell? ⟨w.heap.size+1,5,none⟩=some (.slice av3 zv3.length cv3))
  (first|with_reducible exact (F3.set2 _ _ _ _ _ _).s|with_reducible exact Fms.s (by with_reducible assumption))
  (first
   |(have hBB:=hB2;clear hBB;go_at_call 72;refine (subM_any _ _ n m C C' _ (by omega) (by omega) U3_2 V3_2).mono ?_;rintro o w3 ⟨v3,rfl,hv3,hb3⟩;have R3_3:MIs w3 v3 (n+m+1) (C-C'):=hv3;obtain ⟨gr3,ar3,cr3,zr3,rfl,_,_,_⟩:=hv3;have U1_3:=U1_2.later hb3;have U2_3:=U2_2.later hb3;have U3_3:=U3_2.later hb3;have V1_3:=V1_2.later hb3;have V2_3:=V2_2.later hb3;have V3_3:=V3_2.later hb3;have NI_3:=NI_2.later hb3;have R1_3:=R1_2.later hb3;have R2_3:=R2_2.later hb3;have hB3:Below W0.heap.size W0 w3:=hB2.trans (hb3.mono hB2.size);have F3:Fms w gu1 (.slice au1 zu1.length cu1) gu2 (.slice au2 zu2.length cu2) gu3 (.slice au3 zu3.length cu3) gv1 (.slice av1 zv1.length cv1) gv2 (.slice av2 zv2.length cv2) gv3 (.slice av3 zv3.length cv3) false () false () false () w3:=FR.out.later hB3;have r0:=F3.e2x0;have r1:=F3.e2x1;have r2:=F3.e2x2;have r3:=F3.e2x3;have r4:=F3.e2x4;have r5:=F3.e2x5;have rz:=F3.f2)
   |(have hBB:=hB1;clear hBB;go_at_call 72;refine (subM_any _ _ n m B B' _ (by omega) (by omega) U2_1 V2_1).mono ?_;rintro o w2 ⟨v2,rfl,hv2,hb2⟩;have R2_2:MIs w2 v2 (n+m+1) (B-B'):=hv2;obtain ⟨gr2,ar2,cr2,zr2,rfl,_,_,_⟩:=hv2;have U1_2:=U1_1.later hb2;have U2_2:=U2_1.later hb2;have U3_2:=U3_1.later hb2;have V1_2:=V1_1.later hb2;have V2_2:=V2_1.later hb2;have V3_2:=V3_1.later hb2;have NI_2:=NI_1.later hb2;have R1_2:=R1_1.later hb2;have hB2:Below W0.heap.size W0 w2:=hB1.trans (hb2.mono hB1.size);have F2:Fms w gu1 (.slice au1 zu1.length cu1) gu2 (.slice au2 zu2.length cu2) gu3 (.slice au3 zu3.length cu3) gv1 (.slice av1 zv1.length cv1) gv2 (.slice av2 zv2.length cv2) gv3 (.slice av3 zv3.length cv3) false () false () false () w2:=FR.out.later hB2)
   |(go_at_call 72;refine (subM_any _ _ n m A A' _ (by omega) (by omega) U1_0 V1_0).mono ?_;rintro o w1 ⟨v1,rfl,hv1,hb1⟩;have R1_1:MIs w1 v1 (n+m+1) (A-A'):=hv1;obtain ⟨gr1,ar1,cr1,zr1,rfl,_,_,_⟩:=hv1;have U1_1:=U1_0.later hb1;have U2_1:=U2_0.later hb1;have U3_1:=U3_0.later hb1;have V1_1:=V1_0.later hb1;have V2_1:=V2_0.later hb1;have V3_1:=V3_0.later hb1;have NI_1:=NI_0.later hb1;have hB1:Below W0.heap.size W0 w1:=(Below.refl _ _).drew.trans hb1;have F1:Fms w gu1 (.slice au1 zu1.length cu1) gu2 (.slice au2 zu2.length cu2) gu3 (.slice au3 zu3.length cu3) gv1 (.slice av1 zv1.length cv1) gv2 (.slice av2 zv2.length cv2) gv3 (.slice av3 zv3.length cv3) false () false () false () w1:=FR.out.later hB1))
 have HF:Hid (Fms w gu1 (.slice au1 zu1.length cu1) gu2 (.slice au2 zu2.length cu2) gu3 (.slice au3 zu3.length cu3) gv1 (.slice av1 zv1.length cv1) gv2 (.slice av2 zv2.length cv2) gv3 (.slice av3 zv3.length cv3) false () false () false () w3):=F3
 have HR1:Hid (MIs w3 (.agg #[gr1,.slice ar1 zr1.length cr1]) (n+m+1) (A-A')):=R1_3
 have HR2:Hid (MIs w3 (.agg #[gr2,.slice ar2 zr2.length cr2]) (n+m+1) (B-B')):=R2_3
 have HR3:Hid (MIs w3 (.agg #[gr3,.slice ar3 zr3.length cr3]) (n+m+1) (C-C')):=R3_3
 have HNN:Hid (NoInt w3 (w.heap.size+1+1)):=NI_3
 clear hB1 hb1 F1 hB2 hb2 F2 hB3 hb3 F3 U1_0 U1_1 U1_2 U1_3 U2_0 U2_1 U2_2 U2_3 U3_0 U3_1 U3_2 U3_3 V1_0 V1_1 V1_2 V1_3 V2_0 V2_1 V2_2 V2_3 V3_0 V3_1 V3_2 V3_3 NI_0 NI_1 NI_2 NI_3 R1_1 R1_2 R1_3 R2_2 R2_3 R3_3 F0
 go_wp2
 refine bodyPost_ret (v:= .agg #[gr1,.slice ar1 zr1.length cr1,gr2,.slice ar2 zr2.length cr2,gr3,.slice ar3 zr3.length cr3]) (by simp [results,Tryz.results104,go_sem,r0,r1,r2,r3,r4,r5]) rfl ?_
 refine ⟨_,rfl,⟨gr1,ar1,cr1,zr1,gr2,ar2,cr2,zr2,gr3,ar3,cr3,zr3,rfl,HR1.out.setAll [gr1,.slice ar1 zr1.length cr1,gr2,.slice ar2 zr2.length cr2,gr3,.slice ar3 zr3.length cr3] _ 0 HNN.out (by simp [NotInt]),HR2.out.setAll [gr1,.slice ar1 zr1.length cr1,gr2,.slice ar2 zr2.length cr2,gr3,.slice ar3 zr3.length cr3] _ 0 HNN.out (by simp [NotInt]),HR3.out.setAll [gr1,.slice ar1 zr1.length cr1,gr2,.slice ar2 zr2.length cr2,gr3,.slice ar3 zr3.length cr3] _ 0 HNN.out (by simp [NotInt])⟩,?_⟩
 exact (HF.out.set2 _ _ _ _ _ _).bel
structure Fmd (w:World) (m0 m1 m2 m3 m4 m5 n0 n1 n2 n3 n4 n5 p0 p1:Value) (W:World):Prop where
 e0x0:W.cell? ⟨w.heap.size,0,none⟩=some m0
 e0x1:W.cell? ⟨w.heap.size,1,none⟩=some m1
 e0x2:W.cell? ⟨w.heap.size,2,none⟩=some m2
 e0x3:W.cell? ⟨w.heap.size,3,none⟩=some m3
 e0x4:W.cell? ⟨w.heap.size,4,none⟩=some m4
 e0x5:W.cell? ⟨w.heap.size,5,none⟩=some m5
 f0: ∀j,W.frozen? ⟨w.heap.size,j,none⟩=false
 e1x0:W.cell? ⟨w.heap.size+1,0,none⟩=some n0
 e1x1:W.cell? ⟨w.heap.size+1,1,none⟩=some n1
 e1x2:W.cell? ⟨w.heap.size+1,2,none⟩=some n2
 e1x3:W.cell? ⟨w.heap.size+1,3,none⟩=some n3
 e1x4:W.cell? ⟨w.heap.size+1,4,none⟩=some n4
 e1x5:W.cell? ⟨w.heap.size+1,5,none⟩=some n5
 f1: ∀j,W.frozen? ⟨w.heap.size+1,j,none⟩=false
 e2x0:W.cell? ⟨w.heap.size+1+1,0,none⟩=some p0
 e2x1:W.cell? ⟨w.heap.size+1+1,1,none⟩=some p1
 f2: ∀j,W.frozen? ⟨w.heap.size+1+1,j,none⟩=false
 le:w.heap.size+1+1+1≤W.heap.size
 bel:Below w.heap.size w W
theorem Fmd.start (w:World) (m0 m1 m2 m3 m4 m5 n0 n1 n2 n3 n4 n5 p0 p1:Value) (t0 t1 t2:TypeId):Fmd w m0 m1 m2 m3 m4 m5 n0 n1 n2 n3 n4 n5 p0 p1 (((w.alloc (.cells #[m0,m1,m2,m3,m4,m5] t0)).alloc (.cells #[n0,n1,n2,n3,n4,n5] t1)).alloc (.cells #[p0,p1] t2)):=by
 constructor<;>first|exact (((bel0 _ _).trans ((bel0 _ _).mono (by simp<;>omega))).trans ((bel0 _ _).mono (by simp<;>omega)))|simp [go_sem]
theorem Fmd.later {w:World} {m0 m1 m2 m3 m4 m5 n0 n1 n2 n3 n4 n5 p0 p1:Value} {W W':World} (h:Fmd w m0 m1 m2 m3 m4 m5 n0 n1 n2 n3 n4 n5 p0 p1 W) (hb:Below W.heap.size W W'):Fmd w m0 m1 m2 m3 m4 m5 n0 n1 n2 n3 n4 n5 p0 p1 W':=by
 have q:=h.le
 have z:=h.bel.trans (hb.mono h.bel.size)
 cases h
 constructor<;>first|exact ((bcell hb).1 _ _ (by omega)).trans (by with_reducible assumption)|exact z|exact Nat.le_trans q hb.size| (intro j;exact ((bcell hb).2 _ _ (by omega)).trans (by apply_assumption))
theorem Fmd.set2 {w:World} {m0 m1 m2 m3 m4 m5 n0 n1 n2 n3 n4 n5 p0 p1:Value} {W:World} (h:Fmd w m0 m1 m2 m3 m4 m5 n0 n1 n2 n3 n4 n5 p0 p1 W) (v0 v1:Value):Fmd w m0 m1 m2 m3 m4 m5 n0 n1 n2 n3 n4 n5 v0 v1 ((W.setCell ⟨w.heap.size+1+1,0,none⟩ v0).setCell ⟨w.heap.size+1+1,1,none⟩ v1):=by
 have hle:=h.le
 constructor<;>first|exact ((h.bel.setCell (by simp<;>omega) _).setCell (by simp<;>omega) _)| (cases h;simp [go_sem, *])
theorem Fmd.s {w:World} {m0 m1 m2 m3 m4 m5 n0 n1 n2 n3 n4 n5 p0 p1:Value} {w':World} (h:Fmd w m0 m1 m2 m3 m4 m5 n0 n1 n2 n3 n4 n5 p0 p1 w'):w'.cell? ⟨w.heap.size,0,none⟩=some m0∧w'.cell? ⟨w.heap.size,1,none⟩=some m1∧w'.cell? ⟨w.heap.size,2,none⟩=some m2∧w'.cell? ⟨w.heap.size,3,none⟩=some m3∧w'.cell? ⟨w.heap.size,4,none⟩=some m4∧w'.cell? ⟨w.heap.size,5,none⟩=some m5∧w'.cell? ⟨w.heap.size+1,0,none⟩=some n0∧w'.cell? ⟨w.heap.size+1,1,none⟩=some n1∧w'.cell? ⟨w.heap.size+1,2,none⟩=some n2∧w'.cell? ⟨w.heap.size+1,3,none⟩=some n3∧w'.cell? ⟨w.heap.size+1,4,none⟩=some n4∧w'.cell? ⟨w.heap.size+1,5,none⟩=some n5:=⟨h.e0x0,h.e0x1,h.e0x2,h.e0x3,h.e0x4,h.e0x5,h.e1x0,h.e1x1,h.e1x2,h.e1x3,h.e1x4,h.e1x5⟩
theorem dotV_any (u v:Value) (n m:Nat) (A B C A' B' C':Int) (w:World) (hn:n≤20000) (hm:m≤20000) (hu:VecM w u n A B C) (hv:VecM w v m A' B' C'):
 Calls Tryz.prog 115 #[u,v] w fun o w'=>MOut w (n+m+1+(n+m+1)+1+(n+m+1)+1) (A*A'+B*B'+C*C') o w':=by
 obtain ⟨gu1,au1,cu1,zu1,gu2,au2,cu2,zu2,gu3,au3,cu3,zu3,rfl,hu1,hu2,hu3⟩:=hu
 obtain ⟨gv1,av1,cv1,zv1,gv2,av2,cv2,zv2,gv3,av3,cv3,zv3,rfl,hv1,hv2,hv3⟩:=hv
 go_enter Tryz.func115,Tryz.ntmps115
 go_wp2_with fail
 obtain ⟨W0,hW0⟩: ∃V0,V0=(((w.alloc (.cells #[gu1,.slice au1 zu1.length cu1,gu2,.slice au2 zu2.length cu2,gu3,.slice au3 zu3.length cu3] 128)).alloc (.cells #[gv1,.slice av1 zv1.length cv1,gv2,.slice av2 zv2.length cv2,gv3,.slice av3 zv3.length cv3] 128)).alloc (.cells #[false,()] 72)):=⟨_,rfl⟩
 rw [←hW0]
 have FR:Hid (Fmd w gu1 (.slice au1 zu1.length cu1) gu2 (.slice au2 zu2.length cu2) gu3 (.slice au3 zu3.length cu3) gv1 (.slice av1 zv1.length cv1) gv2 (.slice av2 zv2.length cv2) gv3 (.slice av3 zv3.length cv3) false () W0):=by rw [hW0];exact Fmd.start w _ _ _ _ _ _ _ _ _ _ _ _ _ _ _ _ _
 have HNI:Hid (NoInt W0 (w.heap.size+1+1)):=by
  have hz: ∀(i:Nat) (k:IntKind) (m:Int),(#[↑false,↑()]:Array Value)[i]? ≠some (Value.int k m):=by
   intro i k m
   match i with|0=>simp|1=>simp|n+2=>simp
  have h1:=NoInt.new ((w.alloc (.cells #[gu1,.slice au1 zu1.length cu1,gu2,.slice au2 zu2.length cu2,gu3,.slice au3 zu3.length cu3] 128)).alloc (.cells #[gv1,.slice av1 zv1.length cv1,gv2,.slice av2 zv2.length cv2,gv3,.slice av3 zv3.length cv3] 128)) #[false,()] 72 hz
  have hs:((w.alloc (.cells #[gu1,.slice au1 zu1.length cu1,gu2,.slice au2 zu2.length cu2,gu3,.slice au3 zu3.length cu3] 128)).alloc (.cells #[gv1,.slice av1 zv1.length cv1,gv2,.slice av2 zv2.length cv2,gv3,.slice av3 zv3.length cv3] 128)).heap.size=w.heap.size+1+1:=by simp
  rw [hs] at h1
  unfold Hid;rw [hW0];exact h1
 clear hW0
 have U1_0:=(hu1.later FR.out.bel).later (w':=W0.drew) (Below.refl _ _).drew
 have U2_0:=(hu2.later FR.out.bel).later (w':=W0.drew) (Below.refl _ _).drew
 have U3_0:=(hu3.later FR.out.bel).later (w':=W0.drew) (Below.refl _ _).drew
 have V1_0:=(hv1.later FR.out.bel).later (w':=W0.drew) (Below.refl _ _).drew
 have V2_0:=(hv2.later FR.out.bel).later (w':=W0.drew) (Below.refl _ _).drew
 have V3_0:=(hv3.later FR.out.bel).later (w':=W0.drew) (Below.refl _ _).drew
 have NI_0:=HNI.out.later (w':=W0.drew) (Below.refl _ _).drew
 have F0:Fmd w gu1 (.slice au1 zu1.length cu1) gu2 (.slice au2 zu2.length cu2) gu3 (.slice au3 zu3.length cu3) gv1 (.slice av1 zv1.length cv1) gv2 (.slice av2 zv2.length cv2) gv3 (.slice av3 zv3.length cv3) false () W0.drew:=FR.out.later (Below.refl _ _).drew
 go_region_held3 (fun w'=>w'.cell? ⟨w.heap.size,0,none⟩=some ↑gu1∧w'.cell? ⟨w.heap.size,1,none⟩=some (.slice au1 zu1.length cu1)∧w'.cell? ⟨w.heap.size,2,none⟩=some ↑gu2∧w'.cell? ⟨w.heap.size,3,none⟩=some (.slice au2 zu2.length cu2)∧w'.cell? ⟨w.heap.size,4,none⟩=some ↑gu3∧w'.cell? ⟨w.heap.size,5,none⟩=some (.slice au3 zu3.length cu3)∧w'.cell? ⟨w.heap.size+1,0,none⟩=some ↑gv1∧w'.cell? ⟨w.heap.size+1,1,none⟩=some (.slice av1 zv1.length cv1)∧w'.cell? ⟨w.heap.size+1,2,none⟩=some ↑gv2∧w'.cell? ⟨w.heap.size+1,3,none⟩=some (.slice av2 zv2.length cv2)∧w'.cell? ⟨w.heap.size+1,4,none⟩=some ↑gv3∧w'.cell? ⟨w.heap.size+1,5,none⟩=some (.slice av3 zv3.length cv3))
  (first|with_reducible exact (F5.set2 _ _).s|with_reducible exact Fmd.s (by with_reducible assumption))
  (first
   |(have hBB:=hB4;clear hBB;go_at_call 76;refine (addM_any _ _ (n+m+1+(n+m+1)+1) (n+m+1) (A*A'+B*B') (C*C') _ (by omega) (by omega) R3_4 R4_4).mono ?_;rintro o w5 ⟨v5,rfl,hv5,hb5⟩;have R5_5:MIs w5 v5 (n+m+1+(n+m+1)+1+(n+m+1)+1) (A*A'+B*B'+C*C'):=hv5;obtain ⟨gr5,ar5,cr5,zr5,rfl,_,_,_⟩:=hv5;have U1_5:=U1_4.later hb5;have U2_5:=U2_4.later hb5;have U3_5:=U3_4.later hb5;have V1_5:=V1_4.later hb5;have V2_5:=V2_4.later hb5;have V3_5:=V3_4.later hb5;have NI_5:=NI_4.later hb5;have R1_5:=R1_4.later hb5;have R2_5:=R2_4.later hb5;have R3_5:=R3_4.later hb5;have R4_5:=R4_4.later hb5;have hB5:Below W0.heap.size W0 w5:=hB4.trans (hb5.mono hB4.size);have F5:Fmd w gu1 (.slice au1 zu1.length cu1) gu2 (.slice au2 zu2.length cu2) gu3 (.slice au3 zu3.length cu3) gv1 (.slice av1 zv1.length cv1) gv2 (.slice av2 zv2.length cv2) gv3 (.slice av3 zv3.length cv3) false () w5:=FR.out.later hB5;have r0:=F5.e2x0;have r1:=F5.e2x1;have rz:=F5.f2)
   |(have hBB:=hB3;clear hBB;go_at_call 97;refine (mulM_any _ _ n m C C' _ (by omega) (by omega) U3_3 V3_3).mono ?_;rintro o w4 ⟨v4,rfl,hv4,hb4⟩;have R4_4:MIs w4 v4 (n+m+1) (C*C'):=hv4;obtain ⟨gr4,ar4,cr4,zr4,rfl,_,_,_⟩:=hv4;have U1_4:=U1_3.later hb4;have U2_4:=U2_3.later hb4;have U3_4:=U3_3.later hb4;have V1_4:=V1_3.later hb4;have V2_4:=V2_3.later hb4;have V3_4:=V3_3.later hb4;have NI_4:=NI_3.later hb4;have R1_4:=R1_3.later hb4;have R2_4:=R2_3.later hb4;have R3_4:=R3_3.later hb4;have hB4:Below W0.heap.size W0 w4:=hB3.trans (hb4.mono hB3.size);have F4:Fmd w gu1 (.slice au1 zu1.length cu1) gu2 (.slice au2 zu2.length cu2) gu3 (.slice au3 zu3.length cu3) gv1 (.slice av1 zv1.length cv1) gv2 (.slice av2 zv2.length cv2) gv3 (.slice av3 zv3.length cv3) false () w4:=FR.out.later hB4)
   |(have hBB:=hB2;clear hBB;go_at_call 76;refine (addM_any _ _ (n+m+1) (n+m+1) (A*A') (B*B') _ (by omega) (by omega) R1_2 R2_2).mono ?_;rintro o w3 ⟨v3,rfl,hv3,hb3⟩;have R3_3:MIs w3 v3 (n+m+1+(n+m+1)+1) (A*A'+B*B'):=hv3;obtain ⟨gr3,ar3,cr3,zr3,rfl,_,_,_⟩:=hv3;have U1_3:=U1_2.later hb3;have U2_3:=U2_2.later hb3;have U3_3:=U3_2.later hb3;have V1_3:=V1_2.later hb3;have V2_3:=V2_2.later hb3;have V3_3:=V3_2.later hb3;have NI_3:=NI_2.later hb3;have R1_3:=R1_2.later hb3;have R2_3:=R2_2.later hb3;have hB3:Below W0.heap.size W0 w3:=hB2.trans (hb3.mono hB2.size);have F3:Fmd w gu1 (.slice au1 zu1.length cu1) gu2 (.slice au2 zu2.length cu2) gu3 (.slice au3 zu3.length cu3) gv1 (.slice av1 zv1.length cv1) gv2 (.slice av2 zv2.length cv2) gv3 (.slice av3 zv3.length cv3) false () w3:=FR.out.later hB3)
   |(have hBB:=hB1;clear hBB;go_at_call 97;refine (mulM_any _ _ n m B B' _ (by omega) (by omega) U2_1 V2_1).mono ?_;rintro o w2 ⟨v2,rfl,hv2,hb2⟩;have R2_2:MIs w2 v2 (n+m+1) (B*B'):=hv2;obtain ⟨gr2,ar2,cr2,zr2,rfl,_,_,_⟩:=hv2;have U1_2:=U1_1.later hb2;have U2_2:=U2_1.later hb2;have U3_2:=U3_1.later hb2;have V1_2:=V1_1.later hb2;have V2_2:=V2_1.later hb2;have V3_2:=V3_1.later hb2;have NI_2:=NI_1.later hb2;have R1_2:=R1_1.later hb2;have hB2:Below W0.heap.size W0 w2:=hB1.trans (hb2.mono hB1.size);have F2:Fmd w gu1 (.slice au1 zu1.length cu1) gu2 (.slice au2 zu2.length cu2) gu3 (.slice au3 zu3.length cu3) gv1 (.slice av1 zv1.length cv1) gv2 (.slice av2 zv2.length cv2) gv3 (.slice av3 zv3.length cv3) false () w2:=FR.out.later hB2)
   |(go_at_call 97;refine (mulM_any _ _ n m A A' _ (by omega) (by omega) U1_0 V1_0).mono ?_;rintro o w1 ⟨v1,rfl,hv1,hb1⟩;have R1_1:MIs w1 v1 (n+m+1) (A*A'):=hv1;obtain ⟨gr1,ar1,cr1,zr1,rfl,_,_,_⟩:=hv1;have U1_1:=U1_0.later hb1;have U2_1:=U2_0.later hb1;have U3_1:=U3_0.later hb1;have V1_1:=V1_0.later hb1;have V2_1:=V2_0.later hb1;have V3_1:=V3_0.later hb1;have NI_1:=NI_0.later hb1;have hB1:Below W0.heap.size W0 w1:=(Below.refl _ _).drew.trans hb1;have F1:Fmd w gu1 (.slice au1 zu1.length cu1) gu2 (.slice au2 zu2.length cu2) gu3 (.slice au3 zu3.length cu3) gv1 (.slice av1 zv1.length cv1) gv2 (.slice av2 zv2.length cv2) gv3 (.slice av3 zv3.length cv3) false () w1:=FR.out.later hB1))
 have HF:Hid (Fmd w gu1 (.slice au1 zu1.length cu1) gu2 (.slice au2 zu2.length cu2) gu3 (.slice au3 zu3.length cu3) gv1 (.slice av1 zv1.length cv1) gv2 (.slice av2 zv2.length cv2) gv3 (.slice av3 zv3.length cv3) false () w5):=F5
 have HR5:Hid (MIs w5 (.agg #[gr5,.slice ar5 zr5.length cr5]) (n+m+1+(n+m+1)+1+(n+m+1)+1) (A*A'+B*B'+C*C')):=R5_5
 have HNN:Hid (NoInt w5 (w.heap.size+1+1)):=NI_5
 clear hB1 hb1 F1 hB2 hb2 F2 hB3 hb3 F3 hB4 hb4 F4 hB5 hb5 F5 U1_0 U1_1 U1_2 U1_3 U1_4 U1_5 U2_0 U2_1 U2_2 U2_3 U2_4 U2_5 U3_0 U3_1 U3_2 U3_3 U3_4 U3_5 V1_0 V1_1 V1_2 V1_3 V1_4 V1_5 V2_0 V2_1 V2_2 V2_3 V2_4 V2_5 V3_0 V3_1 V3_2 V3_3 V3_4 V3_5 NI_0 NI_1 NI_2 NI_3 NI_4 NI_5 R1_1 R1_2 R1_3 R1_4 R1_5 R2_2 R2_3 R2_4 R2_5 R3_3 R3_4 R3_5 R4_4 R4_5 R5_5 F0
 go_wp2
 refine bodyPost_ret (v:= .agg #[gr5,.slice ar5 zr5.length cr5]) (by simp [results,Tryz.results115,go_sem,r0,r1]) rfl ?_
 refine ⟨_,rfl,HR5.out.setAll [gr5,.slice ar5 zr5.length cr5] _ 0 HNN.out (by simp [NotInt]),?_⟩
 exact (HF.out.set2 _ _).bel
end Go.Proofs.YtfieffpobgcpmaaGreatDoor
