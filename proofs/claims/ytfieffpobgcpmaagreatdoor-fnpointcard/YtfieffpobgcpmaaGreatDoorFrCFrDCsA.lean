import Derived.Test.YtfieffpobgcpmaaGreatDoorEsGBgCImplOneFrA
import Derived.Deep.RegionHeld3
import Derived.Test.YtfieffpobgcpmaaGreatDoorBgJBhAFrB
import Derived.Deep.MidRow
set_option maxRecDepth 100000
set_option maxHeartbeats 32000000
namespace Go.Proofs.YtfieffpobgcpmaaGreatDoor
open Go.RowKit
structure Ffo (w:World) (m0 m1 m2 m3 n0 n1 n2 n3:Value) (W:World):Prop where
 e0x0:W.cell? ⟨w.heap.size,0,none⟩=some m0
 e0x1:W.cell? ⟨w.heap.size,1,none⟩=some m1
 e0x2:W.cell? ⟨w.heap.size,2,none⟩=some m2
 e0x3:W.cell? ⟨w.heap.size,3,none⟩=some m3
 f0: ∀j,W.frozen? ⟨w.heap.size,j,none⟩=false
 e1x0:W.cell? ⟨w.heap.size+1,0,none⟩=some n0
 e1x1:W.cell? ⟨w.heap.size+1,1,none⟩=some n1
 e1x2:W.cell? ⟨w.heap.size+1,2,none⟩=some n2
 e1x3:W.cell? ⟨w.heap.size+1,3,none⟩=some n3
 f1: ∀j,W.frozen? ⟨w.heap.size+1,j,none⟩=false
 le:w.heap.size+1+1≤W.heap.size
 bel:Below w.heap.size w W
theorem Ffo.start (w:World) (m0 m1 m2 m3 n0 n1 n2 n3:Value) (t0 t1:TypeId):Ffo w m0 m1 m2 m3 n0 n1 n2 n3 ((w.alloc (.cells #[m0,m1,m2,m3] t0)).alloc (.cells #[n0,n1,n2,n3] t1)):=by
 constructor<;>first|exact ((bel0 _ _).trans ((bel0 _ _).mono (by simp<;>omega)))|simp [go_sem]
theorem Ffo.later {w:World} {m0 m1 m2 m3 n0 n1 n2 n3:Value} {W W':World} (h:Ffo w m0 m1 m2 m3 n0 n1 n2 n3 W) (hb:Below W.heap.size W W'):Ffo w m0 m1 m2 m3 n0 n1 n2 n3 W':=by
 have q:=h.le
 have z:=h.bel.trans (hb.mono h.bel.size)
 cases h
 constructor<;>first|exact ((bcell hb).1 _ _ (by omega)).trans (by with_reducible assumption)|exact z|exact Nat.le_trans q hb.size| (intro j;exact ((bcell hb).2 _ _ (by omega)).trans (by apply_assumption))
theorem Ffo.s {w:World} {m0 m1 m2 m3 n0 n1 n2 n3:Value} {w':World} (h:Ffo w m0 m1 m2 m3 n0 n1 n2 n3 w'):w'.cell? ⟨w.heap.size,0,none⟩=some m0∧w'.cell? ⟨w.heap.size,1,none⟩=some m1∧w'.cell? ⟨w.heap.size,2,none⟩=some m2∧w'.cell? ⟨w.heap.size,3,none⟩=some m3∧w'.cell? ⟨w.heap.size+1,0,none⟩=some n0∧w'.cell? ⟨w.heap.size+1,1,none⟩=some n1∧w'.cell? ⟨w.heap.size+1,2,none⟩=some n2∧w'.cell? ⟨w.heap.size+1,3,none⟩=some n3:=⟨h.e0x0,h.e0x1,h.e0x2,h.e0x3,h.e1x0,h.e1x1,h.e1x2,h.e1x3⟩
theorem ordF_any (f g:Value) (e:Nat) (p q r s:Int) (w:World) (he:e+e≤3000) (h1:FracIs w f e p q) (h2:FracIs w g e r s):
 Calls Tryz.prog 50 #[f,g] w fun o w'=>o= .returned (.int .i64 (sgn (p*s-r*q)))∧Below w.heap.size w w':=by
 obtain ⟨gu,au,cu,zu,gv,av,cv,zv,rfl,hu,hv⟩:=h1
 obtain ⟨gx,ax,cx,zx,gy,ay,cy,zy,rfl,hx,hy⟩:=h2
 go_enter Tryz.func50,Tryz.ntmps50
 go_wp2_with fail
 obtain ⟨W0,hW0⟩: ∃V0,V0=((w.alloc (.cells #[gu,.slice au zu.length cu,gv,.slice av zv.length cv] 81)).alloc (.cells #[gx,.slice ax zx.length cx,gy,.slice ay zy.length cy] 81)):=⟨_,rfl⟩
 rw [←hW0]
 have FR:Hid (Ffo w gu (.slice au zu.length cu) gv (.slice av zv.length cv) gx (.slice ax zx.length cx) gy (.slice ay zy.length cy) W0):=by rw [hW0];exact Ffo.start w _ _ _ _ _ _ _ _ _ _
 clear hW0
 have RU_0:=(hu.later FR.out.bel).later (w':=W0.drew) (Below.refl _ _).drew
 have RV_0:=(hv.later FR.out.bel).later (w':=W0.drew) (Below.refl _ _).drew
 have RX_0:=(hx.later FR.out.bel).later (w':=W0.drew) (Below.refl _ _).drew
 have RY_0:=(hy.later FR.out.bel).later (w':=W0.drew) (Below.refl _ _).drew
 have F0:Ffo w gu (.slice au zu.length cu) gv (.slice av zv.length cv) gx (.slice ax zx.length cx) gy (.slice ay zy.length cy) W0.drew:=FR.out.later (Below.refl _ _).drew
 go_region_held3 (fun w'=>w'.cell? ⟨w.heap.size,0,none⟩=some ↑gu∧w'.cell? ⟨w.heap.size,1,none⟩=some (.slice au zu.length cu)∧w'.cell? ⟨w.heap.size,2,none⟩=some ↑gv∧w'.cell? ⟨w.heap.size,3,none⟩=some (.slice av zv.length cv)∧w'.cell? ⟨w.heap.size+1,0,none⟩=some ↑gx∧w'.cell? ⟨w.heap.size+1,1,none⟩=some (.slice ax zx.length cx)∧w'.cell? ⟨w.heap.size+1,2,none⟩=some ↑gy∧w'.cell? ⟨w.heap.size+1,3,none⟩=some (.slice ay zy.length cy))
  (with_reducible exact Ffo.s (by with_reducible assumption))
  (first
   |(have hBB:=hB2;clear hBB;go_at_call 54;refine (ordG_any _ _ (e+e) (e+e) (p*s) (r*q) _ he he R1_2 R2_2).mono ?_;rintro o w3 ⟨rfl,hb3⟩;have RU_3:=RU_2.later hb3;have RV_3:=RV_2.later hb3;have RX_3:=RX_2.later hb3;have RY_3:=RY_2.later hb3;have R1_3:=R1_2.later hb3;have R2_3:=R2_2.later hb3;have hB3:Below W0.heap.size W0 w3:=hB2.trans (hb3.mono hB2.size);have F3:Ffo w gu (.slice au zu.length cu) gv (.slice av zv.length cv) gx (.slice ax zx.length cx) gy (.slice ay zy.length cy) w3:=FR.out.later hB3)
   |(have hBB:=hB1;clear hBB;go_at_call 53;refine (timesG_any _ _ e e r q _ he RX_1 RV_1).mono ?_;rintro o w2 ⟨v2,rfl,hv2,hb2⟩;have R2_2:BigIs w2 v2 (e+e) (r*q):=hv2;obtain ⟨gr2,ar2,cr2,zr2,rfl,_,_,_⟩:=hv2;have RU_2:=RU_1.later hb2;have RV_2:=RV_1.later hb2;have RX_2:=RX_1.later hb2;have RY_2:=RY_1.later hb2;have R1_2:=R1_1.later hb2;have hB2:Below W0.heap.size W0 w2:=hB1.trans (hb2.mono hB1.size);have F2:Ffo w gu (.slice au zu.length cu) gv (.slice av zv.length cv) gx (.slice ax zx.length cx) gy (.slice ay zy.length cy) w2:=FR.out.later hB2)
   |(go_at_call 53;refine (timesG_any _ _ e e p s _ he RU_0 RY_0).mono ?_;rintro o w1 ⟨v1,rfl,hv1,hb1⟩;have R1_1:BigIs w1 v1 (e+e) (p*s):=hv1;obtain ⟨gr1,ar1,cr1,zr1,rfl,_,_,_⟩:=hv1;have RU_1:=RU_0.later hb1;have RV_1:=RV_0.later hb1;have RX_1:=RX_0.later hb1;have RY_1:=RY_0.later hb1;have hB1:Below W0.heap.size W0 w1:=(Below.refl _ _).drew.trans hb1;have F1:Ffo w gu (.slice au zu.length cu) gv (.slice av zv.length cv) gx (.slice ax zx.length cx) gy (.slice ay zy.length cy) w1:=FR.out.later hB1))
 have HF:Hid (Ffo w gu (.slice au zu.length cu) gv (.slice av zv.length cv) gx (.slice ax zx.length cx) gy (.slice ay zy.length cy) w3):=F3
 clear hB1 hb1 F1 hB2 hb2 F2 hB3 hb3 F3 F0
 go_wp2
 go_ret
 exact ⟨rfl,HF.out.bel⟩
def StrNewOut (w:World) (e:Nat) (p q r s:Int) (o:Ending) (w':World):Prop:= ∃v,o= .returned v∧StrIs w' v e p q r s∧Below w.heap.size w w'∧NewV w.heap.size v
theorem exists_any (v:Value) (e:Nat) (p q r s:Int) (w:World) (he:e≤3000) (h:StrIs w v e p q r s):
 Calls Tryz.prog 41 #[v] w fun o w'=>o= .returned (.bool (decide (q≠0)))∧Below w.heap.size w w':=by
 obtain ⟨g1,a1,c1,z1,g2,a2,c2,z2,g3,a3,c3,z3,g4,a4,c4,z4,rfl,h1,h2,h3,h4⟩:=h
 have HB0:Hid (∀t,Below w.heap.size w (w.alloc (.cells #[g1,.slice a1 z1.length c1,g2,.slice a2 z2.length c2,g3,.slice a3 z3.length c3,g4,.slice a4 z4.length c4] t))):=fun t=>bel0 _ _
 go_enter Tryz.func41,Tryz.ntmps41
 go_wp2_with fail
 refine (signG_any _ e q _ he (h2.later (HB0.out _))).mono ?_
 rintro o w1 ⟨rfl,hb1⟩
 have HB:Hid (Below w.heap.size w w1):=(HB0.out _).trans (hb1.mono (HB0.out _).size)
 clear hb1 HB0 h1 h2 h3 h4
 rcases sgn_cases q with ⟨hq,hs⟩| ⟨hq,hs⟩| ⟨hq,hs⟩
 ·have HD:Hid (decide (q≠0)=true):=by unfold Hid;simp;omega
  rw [hs]
  clear hs hq
  go_wp2
  go_ret
  exact ⟨by rw [HD.out];rfl,HB.out⟩
 ·have HD:Hid (decide (q≠0)=false):=by unfold Hid;simp;omega
  rw [hs]
  clear hs hq
  go_wp2
  go_ret
  exact ⟨by rw [HD.out];rfl,HB.out⟩
 ·have HD:Hid (decide (q≠0)=true):=by unfold Hid;simp;omega
  rw [hs]
  clear hs hq
  go_wp2
  go_ret
  exact ⟨by rw [HD.out];rfl,HB.out⟩
structure Fnw (w:World) (m0 m1 m2 m3 m4 m5 m6 m7:Value) (W:World):Prop where
 e0x0:W.cell? ⟨w.heap.size,0,none⟩=some m0
 e0x1:W.cell? ⟨w.heap.size,1,none⟩=some m1
 e0x2:W.cell? ⟨w.heap.size,2,none⟩=some m2
 e0x3:W.cell? ⟨w.heap.size,3,none⟩=some m3
 e0x4:W.cell? ⟨w.heap.size,4,none⟩=some m4
 e0x5:W.cell? ⟨w.heap.size,5,none⟩=some m5
 e0x6:W.cell? ⟨w.heap.size,6,none⟩=some m6
 e0x7:W.cell? ⟨w.heap.size,7,none⟩=some m7
 f0: ∀j,W.frozen? ⟨w.heap.size,j,none⟩=false
 le:w.heap.size+1≤W.heap.size
 bel:Below w.heap.size w W
theorem Fnw.start (w:World) (m0 m1 m2 m3 m4 m5 m6 m7:Value) (t0:TypeId):Fnw w m0 m1 m2 m3 m4 m5 m6 m7 (w.alloc (.cells #[m0,m1,m2,m3,m4,m5,m6,m7] t0)):=by
 constructor<;>first|exact (bel0 _ _)|simp [go_sem]
theorem Fnw.later {w:World} {m0 m1 m2 m3 m4 m5 m6 m7:Value} {W W':World} (h:Fnw w m0 m1 m2 m3 m4 m5 m6 m7 W) (hb:Below W.heap.size W W'):Fnw w m0 m1 m2 m3 m4 m5 m6 m7 W':=by
 have q:=h.le
 have z:=h.bel.trans (hb.mono h.bel.size)
 cases h
 constructor<;>first|exact ((bcell hb).1 _ _ (by omega)).trans (by with_reducible assumption)|exact z|exact Nat.le_trans q hb.size| (intro j;exact ((bcell hb).2 _ _ (by omega)).trans (by apply_assumption))
theorem Fnw.set0 {w:World} {m0 m1 m2 m3 m4 m5 m6 m7:Value} {W:World} (h:Fnw w m0 m1 m2 m3 m4 m5 m6 m7 W) (v0 v1 v2 v3 v4 v5 v6 v7:Value):Fnw w v0 v1 v2 v3 v4 v5 v6 v7 ((((((((W.setCell ⟨w.heap.size,0,none⟩ v0).setCell ⟨w.heap.size,1,none⟩ v1).setCell ⟨w.heap.size,2,none⟩ v2).setCell ⟨w.heap.size,3,none⟩ v3).setCell ⟨w.heap.size,4,none⟩ v4).setCell ⟨w.heap.size,5,none⟩ v5).setCell ⟨w.heap.size,6,none⟩ v6).setCell ⟨w.heap.size,7,none⟩ v7):=by
 have hle:=h.le
 constructor<;>first|exact ((((((((h.bel.setCell (by simp<;>omega) _).setCell (by simp<;>omega) _).setCell (by simp<;>omega) _).setCell (by simp<;>omega) _).setCell (by simp<;>omega) _).setCell (by simp<;>omega) _).setCell (by simp<;>omega) _).setCell (by simp<;>omega) _)| (cases h;simp [go_sem, *])
theorem nowhere_any (e:Nat) (w:World):
 Calls Tryz.prog 80 #[] w fun o w'=>StrNewOut w e 1 0 0 1 o w':=by
 have HF0:Hid (∀t,Fnw w false () false () false () false () (w.alloc (.cells #[false,(),false,(),false,(),false,()] t))):=fun t=>Fnw.start w _ _ _ _ _ _ _ _ t
 have HN0:Hid (∀t,NoInt (w.alloc (.cells #[false,(),false,(),false,(),false,()] t)) w.heap.size):=fun t=>NoInt.new w _ t (fun i k m=>by match i with|0=>simp|1=>simp|2=>simp|3=>simp|4=>simp|5=>simp|6=>simp|7=>simp|n+8=>simp)
 go_enter Tryz.func80,Tryz.ntmps80
 go_wp2_with fail
 refine (oneN_any _).mono ?_
 rintro o w1 ⟨v1,rfl,hv1,hb1,hn1⟩
 have HA1:Hid (NewV w.heap.size v1):=hn1.mono (HF0.out _).bel.size
 clear hn1
 have R1_1:Hid (BigIs w1 v1 0 1):=hv1
 obtain ⟨gr1,ar1,cr1,zr1,rfl,_,_,_⟩:=hv1
 have HF1:Hid (Fnw w false () false () false () false () w1):=(HF0.out _).later hb1
 have HN1:Hid (NoInt w1 w.heap.size):=(HN0.out _).later hb1
 clear hb1 HF0 HN0
 go_wp2_with fail
 refine (oneN_any _).mono ?_
 rintro o w2 ⟨v2,rfl,hv2,hb2,hn2⟩
 have HA2:Hid (NewV w.heap.size v2):=hn2.mono HF1.out.bel.size
 clear hn2
 have HR1:=Hid.mk (R1_1.out.later hb2)
 have HR2:Hid (BigIs w2 v2 0 1):=hv2
 obtain ⟨gr2,ar2,cr2,zr2,rfl,_,_,_⟩:=hv2
 have HF:=Hid.mk (HF1.out.later hb2)
 have HN:Hid (NoInt w2 w.heap.size):=HN1.out.later hb2
 clear hb2 HF1 HN1 R1_1
 have r0:=HF.out.e0x0
 have r1:=HF.out.e0x1
 have r2:=HF.out.e0x2
 have r3:=HF.out.e0x3
 have r4:=HF.out.e0x4
 have r5:=HF.out.e0x5
 have r6:=HF.out.e0x6
 have r7:=HF.out.e0x7
 have rz:=HF.out.f0
 go_wp2
 refine bodyPost_ret (v:= .agg #[gr1,.slice ar1 zr1.length cr1,false,(),false,(),gr2,.slice ar2 zr2.length cr2]) (by simp [results,Tryz.results80,go_sem,r0,r1,r2,r3,r4,r5,r6,r7]) rfl ?_
 refine ⟨_,rfl,⟨gr1,ar1,cr1,zr1,false,none,0,[],false,none,0,[],gr2,ar2,cr2,zr2,rfl,(HR1.out.setAll [gr1,.slice ar1 zr1.length cr1,false,(),false,(),gr2,.slice ar2 zr2.length cr2] _ 0 HN.out (by simp [NotInt])).up (Nat.zero_le _),BigIs.zero _ _,BigIs.zero _ _,(HR2.out.setAll [gr1,.slice ar1 zr1.length cr1,false,(),false,(),gr2,.slice ar2 zr2.length cr2] _ 0 HN.out (by simp [NotInt])).up (Nat.zero_le _)⟩,(HF.out.set0 _ _ _ _ _ _ _ _).bel,fun k hk=>AvV.eight ((HA1.out k hk).get 1 rfl) (AvA.nil _ _) (AvA.nil _ _) ((HA2.out k hk).get 1 rfl)⟩
theorem ahead_any (e:Nat) (w:World):
 Calls Tryz.prog 134 #[] w fun o w'=>StrNewOut w e 0 1 1 0 o w':=by
 have HF0:Hid (∀t,Fnw w false () false () false () false () (w.alloc (.cells #[false,(),false,(),false,(),false,()] t))):=fun t=>Fnw.start w _ _ _ _ _ _ _ _ t
 have HN0:Hid (∀t,NoInt (w.alloc (.cells #[false,(),false,(),false,(),false,()] t)) w.heap.size):=fun t=>NoInt.new w _ t (fun i k m=>by match i with|0=>simp|1=>simp|2=>simp|3=>simp|4=>simp|5=>simp|6=>simp|7=>simp|n+8=>simp)
 go_enter Tryz.func134,Tryz.ntmps134
 go_wp2_with fail
 refine (oneN_any _).mono ?_
 rintro o w1 ⟨v1,rfl,hv1,hb1,hn1⟩
 have HA1:Hid (NewV w.heap.size v1):=hn1.mono (HF0.out _).bel.size
 clear hn1
 have R1_1:Hid (BigIs w1 v1 0 1):=hv1
 obtain ⟨gr1,ar1,cr1,zr1,rfl,_,_,_⟩:=hv1
 have HF1:Hid (Fnw w false () false () false () false () w1):=(HF0.out _).later hb1
 have HN1:Hid (NoInt w1 w.heap.size):=(HN0.out _).later hb1
 clear hb1 HF0 HN0
 go_wp2_with fail
 refine (oneN_any _).mono ?_
 rintro o w2 ⟨v2,rfl,hv2,hb2,hn2⟩
 have HA2:Hid (NewV w.heap.size v2):=hn2.mono HF1.out.bel.size
 clear hn2
 have HR1:=Hid.mk (R1_1.out.later hb2)
 have HR2:Hid (BigIs w2 v2 0 1):=hv2
 obtain ⟨gr2,ar2,cr2,zr2,rfl,_,_,_⟩:=hv2
 have HF:=Hid.mk (HF1.out.later hb2)
 have HN:Hid (NoInt w2 w.heap.size):=HN1.out.later hb2
 clear hb2 HF1 HN1 R1_1
 have r0:=HF.out.e0x0
 have r1:=HF.out.e0x1
 have r2:=HF.out.e0x2
 have r3:=HF.out.e0x3
 have r4:=HF.out.e0x4
 have r5:=HF.out.e0x5
 have r6:=HF.out.e0x6
 have r7:=HF.out.e0x7
 have rz:=HF.out.f0
 go_wp2
 refine bodyPost_ret (v:= .agg #[false,(),gr1,.slice ar1 zr1.length cr1,gr2,.slice ar2 zr2.length cr2,false,()]) (by simp [results,Tryz.results134,go_sem,r0,r1,r2,r3,r4,r5,r6,r7]) rfl ?_
 refine ⟨_,rfl,⟨false,none,0,[],gr1,ar1,cr1,zr1,gr2,ar2,cr2,zr2,false,none,0,[],rfl,BigIs.zero _ _,(HR1.out.setAll [false,(),gr1,.slice ar1 zr1.length cr1,gr2,.slice ar2 zr2.length cr2,false,()] _ 0 HN.out (by simp [NotInt])).up (Nat.zero_le _),(HR2.out.setAll [false,(),gr1,.slice ar1 zr1.length cr1,gr2,.slice ar2 zr2.length cr2,false,()] _ 0 HN.out (by simp [NotInt])).up (Nat.zero_le _),BigIs.zero _ _⟩,(HF.out.set0 _ _ _ _ _ _ _ _).bel,fun k hk=>AvV.eight (AvA.nil _ _) ((HA1.out k hk).get 1 rfl) ((HA2.out k hk).get 1 rfl) (AvA.nil _ _)⟩
def Cs (W:World) (b:Nat) (us:List Value):Prop:=b<W.heap.size∧(∀j,W.frozen? ⟨b,j,none⟩=false)∧ ∀j u,us[j]? =some u→W.cell? ⟨b,0+j,none⟩=some u
theorem Cs.at {W:World} {b:Nat} {us:List Value} (h:Cs W b us) (j:Nat) {u:Value} (hj:us[j]? =some u):W.cell? ⟨b,j,none⟩=some u:=by
 have:=h.2.2 j u hj
 rwa [Nat.zero_add] at this
theorem Cs.c2 {W:World} {b:Nat} {x0 x1:Value} (h:Cs W b [x0,x1]):W.cell? ⟨b,0,none⟩=some x0∧W.cell? ⟨b,1,none⟩=some x1:=⟨h.at 0 rfl,h.at 1 rfl⟩
theorem Cs.c4 {W:World} {b:Nat} {x0 x1 x2 x3:Value} (h:Cs W b [x0,x1,x2,x3]):W.cell? ⟨b,0,none⟩=some x0∧W.cell? ⟨b,1,none⟩=some x1∧W.cell? ⟨b,2,none⟩=some x2∧W.cell? ⟨b,3,none⟩=some x3:=⟨h.at 0 rfl,h.at 1 rfl,h.at 2 rfl,h.at 3 rfl⟩
theorem Cs.c5 {W:World} {b:Nat} {x0 x1 x2 x3 x4:Value} (h:Cs W b [x0,x1,x2,x3,x4]):W.cell? ⟨b,0,none⟩=some x0∧W.cell? ⟨b,1,none⟩=some x1∧W.cell? ⟨b,2,none⟩=some x2∧W.cell? ⟨b,3,none⟩=some x3∧W.cell? ⟨b,4,none⟩=some x4:=⟨h.at 0 rfl,h.at 1 rfl,h.at 2 rfl,h.at 3 rfl,h.at 4 rfl⟩
theorem Cs.c6 {W:World} {b:Nat} {x0 x1 x2 x3 x4 x5:Value} (h:Cs W b [x0,x1,x2,x3,x4,x5]):W.cell? ⟨b,0,none⟩=some x0∧W.cell? ⟨b,1,none⟩=some x1∧W.cell? ⟨b,2,none⟩=some x2∧W.cell? ⟨b,3,none⟩=some x3∧W.cell? ⟨b,4,none⟩=some x4∧W.cell? ⟨b,5,none⟩=some x5:=⟨h.at 0 rfl,h.at 1 rfl,h.at 2 rfl,h.at 3 rfl,h.at 4 rfl,h.at 5 rfl⟩
theorem Cs.c8 {W:World} {b:Nat} {x0 x1 x2 x3 x4 x5 x6 x7:Value} (h:Cs W b [x0,x1,x2,x3,x4,x5,x6,x7]):W.cell? ⟨b,0,none⟩=some x0∧W.cell? ⟨b,1,none⟩=some x1∧W.cell? ⟨b,2,none⟩=some x2∧W.cell? ⟨b,3,none⟩=some x3∧W.cell? ⟨b,4,none⟩=some x4∧W.cell? ⟨b,5,none⟩=some x5∧W.cell? ⟨b,6,none⟩=some x6∧W.cell? ⟨b,7,none⟩=some x7:=⟨h.at 0 rfl,h.at 1 rfl,h.at 2 rfl,h.at 3 rfl,h.at 4 rfl,h.at 5 rfl,h.at 6 rfl,h.at 7 rfl⟩
theorem Cs.c9 {W:World} {b:Nat} {x0 x1 x2 x3 x4 x5 x6 x7 x8:Value} (h:Cs W b [x0,x1,x2,x3,x4,x5,x6,x7,x8]):W.cell? ⟨b,0,none⟩=some x0∧W.cell? ⟨b,1,none⟩=some x1∧W.cell? ⟨b,2,none⟩=some x2∧W.cell? ⟨b,3,none⟩=some x3∧W.cell? ⟨b,4,none⟩=some x4∧W.cell? ⟨b,5,none⟩=some x5∧W.cell? ⟨b,6,none⟩=some x6∧W.cell? ⟨b,7,none⟩=some x7∧W.cell? ⟨b,8,none⟩=some x8:=⟨h.at 0 rfl,h.at 1 rfl,h.at 2 rfl,h.at 3 rfl,h.at 4 rfl,h.at 5 rfl,h.at 6 rfl,h.at 7 rfl,h.at 8 rfl⟩
theorem Cs.c11 {W:World} {b:Nat} {x0 x1 x2 x3 x4 x5 x6 x7 x8 x9 x10:Value} (h:Cs W b [x0,x1,x2,x3,x4,x5,x6,x7,x8,x9,x10]):W.cell? ⟨b,0,none⟩=some x0∧W.cell? ⟨b,1,none⟩=some x1∧W.cell? ⟨b,2,none⟩=some x2∧W.cell? ⟨b,3,none⟩=some x3∧W.cell? ⟨b,4,none⟩=some x4∧W.cell? ⟨b,5,none⟩=some x5∧W.cell? ⟨b,6,none⟩=some x6∧W.cell? ⟨b,7,none⟩=some x7∧W.cell? ⟨b,8,none⟩=some x8∧W.cell? ⟨b,9,none⟩=some x9∧W.cell? ⟨b,10,none⟩=some x10:=⟨h.at 0 rfl,h.at 1 rfl,h.at 2 rfl,h.at 3 rfl,h.at 4 rfl,h.at 5 rfl,h.at 6 rfl,h.at 7 rfl,h.at 8 rfl,h.at 9 rfl,h.at 10 rfl⟩
theorem Cs.later {W W':World} {b:Nat} {us:List Value} (h:Cs W b us) (hb:Below W.heap.size W W'):Cs W' b us:=
 ⟨Nat.lt_of_lt_of_le h.1 hb.size,fun j=>((bcell hb).2 _ _ h.1).trans (h.2.1 j),fun j u hj=>((bcell hb).1 _ _ h.1).trans (h.2.2 j u hj)⟩
theorem Cs.new (W:World) (cs:Array Value) (t:TypeId):Cs (W.alloc (.cells cs t)) W.heap.size cs.toList:=by
 refine ⟨by simp,fun j=>by simp [go_sem],fun j u hj=> ?_⟩
 rw [Array.getElem?_toList] at hj
 simp [go_sem,hj]
theorem Cs.set1 {W:World} {b i:Nat} {us:List Value} (h:Cs W b us) (u:Value) (hi:i<us.length):Cs (W.setCell ⟨b,i,none⟩ u) b (us.set i u):=by
 refine ⟨by simpa using h.1,fun j=>by simpa [go_sem] using h.2.1 j,fun j x hj=> ?_⟩
 rw [Nat.zero_add]
 by_cases e:i=j
 ·subst e
  rw [List.getElem?_set_self hi] at hj
  cases hj
  exact World.cell?_setCell_same _ _ _ (h.at i (List.getElem?_eq_getElem hi))
 ·rw [List.getElem?_set_ne e] at hj
  rw [World.cell?_setCell_other _ _ _ _ (by intro q;apply e;have:=congrArg Addr.off q;simpa using this)]
  exact h.at j hj
def setL:List Value→Nat→List Value→List Value
 |us,_,[]=>us
 |us,i,v::vs=>setL (us.set i v) (i+1) vs
theorem Cs.setAll {b:Nat}: ∀(vs:List Value) (W:World) (i:Nat) (us:List Value),Cs W b us→i+vs.length≤us.length→Cs (Go.Proofs.YtfieffpobgcpmaaGreatDoor.setAll W b i vs) b (setL us i vs)
 | [],_,_,_,h,_=>h
 |v::vs,W,i,us,h,hl=>Cs.setAll vs _ (i+1) _ (h.set1 v (by simp at hl;omega)) (by simp at hl⊢;omega)
theorem setL_all: ∀(vs us pre:List Value),us.length=vs.length→setL (pre++us) pre.length vs=pre++vs
 | [],us,pre,h=>by
  have:us=[]:=List.eq_nil_of_length_eq_zero h
  rw [this];rfl
 |v::vs,[],pre,h=>by simp at h
 |v::vs,u::us,pre,h=>by
  have e:(pre++u::us).set pre.length v=(pre++[v])++us:=by simp
  have hl:(pre++[v]).length=pre.length+1:=by simp
  show setL ((pre++u::us).set pre.length v) (pre.length+1) vs=_
  rw [e,←hl,setL_all vs us (pre++[v]) (by simpa using h)]
  simp
theorem Cs.whole {W:World} {b:Nat} {us:List Value} (h:Cs W b us) (vs:List Value) (hl:us.length=vs.length):Cs (Go.Proofs.YtfieffpobgcpmaaGreatDoor.setAll W b 0 vs) b vs:=by
 have h1:=Cs.setAll vs W 0 us h (by omega)
 have h2:=setL_all vs us [] hl
 simp only [List.nil_append,List.length_nil] at h2
 rwa [h2] at h1
theorem Cs.setO {W:World} {b b' i:Nat} {us:List Value} {u:Value} (h:Cs W b us) (hb:b≠b'):Cs (W.setCell ⟨b',i,none⟩ u) b us:=by
 refine ⟨by simpa using h.1,fun j=>by simpa [go_sem] using h.2.1 j,fun j x hj=> ?_⟩
 rw [World.cell?_setCell_other _ _ _ _ (by intro q;apply hb;have:=congrArg Addr.block q;simp at this;exact this.symm)]
 exact h.2.2 j x hj
theorem Cs.setAllO {b b':Nat} (hb:b≠b'): ∀(vs:List Value) (W:World) (i:Nat) (us:List Value),Cs W b us→Cs (Go.Proofs.YtfieffpobgcpmaaGreatDoor.setAll W b' i vs) b us
 | [],_,_,_,h=>h
 |_::vs,_,i,us,h=>Cs.setAllO hb vs _ (i+1) us (h.setO hb)
theorem NoInt.setBlock {b b':Nat} (hb:b≠b'): ∀(vs:List Value) (W:World) (i:Nat),NoInt W b→NoInt (Go.Proofs.YtfieffpobgcpmaaGreatDoor.setAll W b' i vs) b
 | [],_,_,h=>h
 |_::vs,_,i,h=>NoInt.setBlock hb vs _ (i+1) ⟨by simpa using h.1,fun j k m hh=>by
  rw [World.cell?_setCell_other _ _ _ _ (by intro q;apply hb;have:=congrArg Addr.block q;simp at this;exact this.symm)] at hh
  exact h.2 j k m hh⟩
theorem Cs.range {W:World} {b:Nat} {us:List Value} (h:Cs W b us) (o n:Nat):W.rangeAt b o ((us.drop o).take n):=by
 intro j v hv
 have h1:us[o+j]? =some v:=by
  rw [List.getElem?_take] at hv
  split at hv
  ·rwa [List.getElem?_drop] at hv
  ·cases hv
 exact h.at (o+j) h1
theorem setCells_all: ∀(vs:List Value) (W:World) (b i:Nat),W.setCells b i vs=setAll W b i vs
 | [],_,_,_=>rfl
 |_::vs,_,b,i=>setCells_all vs _ b (i+1)
theorem Cs.there {W:World} {b:Nat} {us:List Value} (h:Cs W b us) (o n:Nat) (hn:o+n≤us.length):W.there b o n:=fun j hj=>by
 refine ⟨?_,h.2.1 _⟩
 rw [h.at (o+j) (List.getElem?_eq_getElem (by omega))]
 rfl
theorem below_setAll {k b:Nat} {w:World} (hk:k≤b): ∀(vs:List Value) (W:World) (i:Nat),Below k w W→Below k w (setAll W b i vs)
 | [],_,_,h=>h
 |_::vs,_,i,h=>below_setAll hk vs _ (i+1) (h.setCell (by simpa using hk) _)
theorem VecB.setAllAv {v:Value} {e:Nat} {A B C:Int} {k:Nat} (us:List Value) (w:World) (i:Nat) (h:VecB w v e A B C) (hn:AvV k v):VecB (Go.Proofs.YtfieffpobgcpmaaGreatDoor.setAll w k i us) v e A B C:=by
 obtain ⟨g1,a1,c1,z1,g2,a2,c2,z2,g3,a3,c3,z3,rfl,h1,h2,h3⟩:=h
 exact ⟨g1,a1,c1,z1,g2,a2,c2,z2,g3,a3,c3,z3,rfl,h1.setAllAv (AvV.two (hn.get 1 rfl)) us w i,h2.setAllAv (AvV.two (hn.get 3 rfl)) us w i,h3.setAllAv (AvV.two (hn.get 5 rfl)) us w i⟩
theorem StrIs.setAllAv {v:Value} {e:Nat} {p q r s:Int} {k:Nat} (us:List Value) (w:World) (i:Nat) (h:StrIs w v e p q r s) (hn:AvV k v):StrIs (Go.Proofs.YtfieffpobgcpmaaGreatDoor.setAll w k i us) v e p q r s:=by
 obtain ⟨g1,a1,c1,z1,g2,a2,c2,z2,g3,a3,c3,z3,g4,a4,c4,z4,rfl,h1,h2,h3,h4⟩:=h
 exact ⟨g1,a1,c1,z1,g2,a2,c2,z2,g3,a3,c3,z3,g4,a4,c4,z4,rfl,h1.setAllAv (AvV.two (hn.get 1 rfl)) us w i,h2.setAllAv (AvV.two (hn.get 3 rfl)) us w i,h3.setAllAv (AvV.two (hn.get 5 rfl)) us w i,h4.setAllAv (AvV.two (hn.get 7 rfl)) us w i⟩
theorem StrIs.setAll {v:Value} {e:Nat} {p q r s:Int} {b:Nat} (us:List Value) (w:World) (i:Nat) (h:StrIs w v e p q r s) (hn:NoInt w b) (hu: ∀u∈us,NotInt u):StrIs (Go.Proofs.YtfieffpobgcpmaaGreatDoor.setAll w b i us) v e p q r s:=by
 obtain ⟨g1,a1,c1,z1,g2,a2,c2,z2,g3,a3,c3,z3,g4,a4,c4,z4,rfl,h1,h2,h3,h4⟩:=h
 exact ⟨g1,a1,c1,z1,g2,a2,c2,z2,g3,a3,c3,z3,g4,a4,c4,z4,rfl,h1.setAll us w i hn hu,h2.setAll us w i hn hu,h3.setAll us w i hn hu,h4.setAll us w i hn hu⟩
end Go.Proofs.YtfieffpobgcpmaaGreatDoor
