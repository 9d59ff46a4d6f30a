import Derived.Test.YtfieffpobgcpmaaGreatDoorEsMEsJEsNBgI
import Derived.Deep.RegionHeld3
import Derived.Test.YtfieffpobgcpmaaGreatDoorFrCFrDCsA
import Derived.Test.YtfieffpobgcpmaaGreatDoorBgKToScS
import Derived.Test.YtfieffpobgcpmaaGreatDoorEsGBgCImplOneFrA
import Derived.Test.YtfieffpobgcpmaaGreatDoorFrHToSpecI
set_option maxRecDepth 100000
set_option maxHeartbeats 32000000
namespace Go.Proofs.YtfieffpobgcpmaaGreatDoor
open Go.RowKit
open Fl (IsF Nr BoundIs Summed absI Est)
def LineEOut (w:World) (O D:V3) (o:Ending) (w':World):Prop:= ∃v,o= .returned v∧LineV v O D∧Below w.heap.size w w'
structure Flo (w:World) (m0 m1 m2 m3 m4 m5 n0 n1 p0 p1 p2 p3 p4 p5 p6 p7 p8 p9 p10 p11 p12 p13:Value) (W:World):Prop where
 e0x0:W.cell? ⟨w.heap.size,0,none⟩=some m0
 e0x1:W.cell? ⟨w.heap.size,1,none⟩=some m1
 e0x2:W.cell? ⟨w.heap.size,2,none⟩=some m2
 e0x3:W.cell? ⟨w.heap.size,3,none⟩=some m3
 e0x4:W.cell? ⟨w.heap.size,4,none⟩=some m4
 e0x5:W.cell? ⟨w.heap.size,5,none⟩=some m5
 f0: ∀j,W.frozen? ⟨w.heap.size,j,none⟩=false
 e1x0:W.cell? ⟨w.heap.size+1,0,none⟩=some n0
 e1x1:W.cell? ⟨w.heap.size+1,1,none⟩=some n1
 f1: ∀j,W.frozen? ⟨w.heap.size+1,j,none⟩=false
 e2x0:W.cell? ⟨w.heap.size+1+1,0,none⟩=some p0
 e2x1:W.cell? ⟨w.heap.size+1+1,1,none⟩=some p1
 e2x2:W.cell? ⟨w.heap.size+1+1,2,none⟩=some p2
 e2x3:W.cell? ⟨w.heap.size+1+1,3,none⟩=some p3
 e2x4:W.cell? ⟨w.heap.size+1+1,4,none⟩=some p4
 e2x5:W.cell? ⟨w.heap.size+1+1,5,none⟩=some p5
 e2x6:W.cell? ⟨w.heap.size+1+1,6,none⟩=some p6
 e2x7:W.cell? ⟨w.heap.size+1+1,7,none⟩=some p7
 e2x8:W.cell? ⟨w.heap.size+1+1,8,none⟩=some p8
 e2x9:W.cell? ⟨w.heap.size+1+1,9,none⟩=some p9
 e2x10:W.cell? ⟨w.heap.size+1+1,10,none⟩=some p10
 e2x11:W.cell? ⟨w.heap.size+1+1,11,none⟩=some p11
 e2x12:W.cell? ⟨w.heap.size+1+1,12,none⟩=some p12
 e2x13:W.cell? ⟨w.heap.size+1+1,13,none⟩=some p13
 f2: ∀j,W.frozen? ⟨w.heap.size+1+1,j,none⟩=false
 le:w.heap.size+1+1+1≤W.heap.size
 bel:Below w.heap.size w W
theorem Flo.start (w:World) (m0 m1 m2 m3 m4 m5 n0 n1 p0 p1 p2 p3 p4 p5 p6 p7 p8 p9 p10 p11 p12 p13:Value) (t0 t1 t2:TypeId):Flo w m0 m1 m2 m3 m4 m5 n0 n1 p0 p1 p2 p3 p4 p5 p6 p7 p8 p9 p10 p11 p12 p13 (((w.alloc (.cells #[m0,m1,m2,m3,m4,m5] t0)).alloc (.cells #[n0,n1] t1)).alloc (.cells #[p0,p1,p2,p3,p4,p5,p6,p7,p8,p9,p10,p11,p12,p13] t2)):=by
 constructor<;>first|exact (((bel0 _ _).trans ((bel0 _ _).mono (by simp<;>omega))).trans ((bel0 _ _).mono (by simp<;>omega)))|simp [go_sem]
theorem Flo.later {w:World} {m0 m1 m2 m3 m4 m5 n0 n1 p0 p1 p2 p3 p4 p5 p6 p7 p8 p9 p10 p11 p12 p13:Value} {W W':World} (h:Flo w m0 m1 m2 m3 m4 m5 n0 n1 p0 p1 p2 p3 p4 p5 p6 p7 p8 p9 p10 p11 p12 p13 W) (hb:Below W.heap.size W W'):Flo w m0 m1 m2 m3 m4 m5 n0 n1 p0 p1 p2 p3 p4 p5 p6 p7 p8 p9 p10 p11 p12 p13 W':=by
 have q:=h.le
 have z:=h.bel.trans (hb.mono h.bel.size)
 cases h
 constructor<;>first|exact ((bcell hb).1 _ _ (by omega)).trans (by with_reducible assumption)|exact z|exact Nat.le_trans q hb.size| (intro j;exact ((bcell hb).2 _ _ (by omega)).trans (by apply_assumption))
theorem Flo.set2 {w:World} {m0 m1 m2 m3 m4 m5 n0 n1 p0 p1 p2 p3 p4 p5 p6 p7 p8 p9 p10 p11 p12 p13:Value} {W:World} (h:Flo w m0 m1 m2 m3 m4 m5 n0 n1 p0 p1 p2 p3 p4 p5 p6 p7 p8 p9 p10 p11 p12 p13 W) (v0 v1 v2 v3 v4 v5 v6 v7 v8 v9 v10 v11 v12 v13:Value):Flo w m0 m1 m2 m3 m4 m5 n0 n1 v0 v1 v2 v3 v4 v5 v6 v7 v8 v9 v10 v11 v12 v13 ((((((((((((((W.setCell ⟨w.heap.size+1+1,0,none⟩ v0).setCell ⟨w.heap.size+1+1,1,none⟩ v1).setCell ⟨w.heap.size+1+1,2,none⟩ v2).setCell ⟨w.heap.size+1+1,3,none⟩ v3).setCell ⟨w.heap.size+1+1,4,none⟩ v4).setCell ⟨w.heap.size+1+1,5,none⟩ v5).setCell ⟨w.heap.size+1+1,6,none⟩ v6).setCell ⟨w.heap.size+1+1,7,none⟩ v7).setCell ⟨w.heap.size+1+1,8,none⟩ v8).setCell ⟨w.heap.size+1+1,9,none⟩ v9).setCell ⟨w.heap.size+1+1,10,none⟩ v10).setCell ⟨w.heap.size+1+1,11,none⟩ v11).setCell ⟨w.heap.size+1+1,12,none⟩ v12).setCell ⟨w.heap.size+1+1,13,none⟩ v13):=by
 have hle:=h.le
 constructor<;>first|exact ((((((((((((((h.bel.setCell (by simp<;>omega) _).setCell (by simp<;>omega) _).setCell (by simp<;>omega) _).setCell (by simp<;>omega) _).setCell (by simp<;>omega) _).setCell (by simp<;>omega) _).setCell (by simp<;>omega) _).setCell (by simp<;>omega) _).setCell (by simp<;>omega) _).setCell (by simp<;>omega) _).setCell (by simp<;>omega) _).setCell (by simp<;>omega) _).setCell (by simp<;>omega) _).setCell (by simp<;>omega) _)| (cases h;simp [go_sem, *])
theorem Flo.s {w:World} {m0 m1 m2 m3 m4 m5 n0 n1 p0 p1 p2 p3 p4 p5 p6 p7 p8 p9 p10 p11 p12 p13:Value} {w':World} (h:Flo w m0 m1 m2 m3 m4 m5 n0 n1 p0 p1 p2 p3 p4 p5 p6 p7 p8 p9 p10 p11 p12 p13 w'):w'.cell? ⟨w.heap.size,0,none⟩=some m0∧w'.cell? ⟨w.heap.size,1,none⟩=some m1∧w'.cell? ⟨w.heap.size,2,none⟩=some m2∧w'.cell? ⟨w.heap.size,3,none⟩=some m3∧w'.cell? ⟨w.heap.size,4,none⟩=some m4∧w'.cell? ⟨w.heap.size,5,none⟩=some m5∧w'.cell? ⟨w.heap.size+1,0,none⟩=some n0∧w'.cell? ⟨w.heap.size+1,1,none⟩=some n1:=⟨h.e0x0,h.e0x1,h.e0x2,h.e0x3,h.e0x4,h.e0x5,h.e1x0,h.e1x1⟩
theorem lineE_any (d0 d1:Nat) (s0 s1 s2 s3 s4 s5:Int) (w:World) (hd:EstIs (.agg #[d0,d1]) 0 0 1) (h0:Cor s0) (h1:Cor s1) (h2:Cor s2) (h3:Cor s3) (h4:Cor s4) (h5:Cor s5):
 Calls Tryz.prog 77 #[.agg #[s0,s1,s2,s3,s4,s5],.agg #[d0,d1]] w fun o w'=>LineEOut w (pv s0 s1 s2) (pv s3 s4 s5) o w':=by
 go_enter Tryz.func77,Tryz.ntmps77
 go_wp2_with fail
 obtain ⟨W0,hW0⟩: ∃V0,V0=(((w.alloc (.cells #[s0,s1,s2,s3,s4,s5] 39)).alloc (.cells #[d0,d1] 86)).alloc (.cells #[oOo,oOo,oOo,oOo,oOo,oOo,oOo,oOo,oOo,oOo,oOo,oOo,oOo,oOo] 90)):=⟨_,rfl⟩
 rw [←hW0]
 have FR:Hid (Flo w s0 s1 s2 s3 s4 s5 d0 d1 oOo oOo oOo oOo oOo oOo oOo oOo oOo oOo oOo oOo oOo oOo W0):=by rw [hW0];exact Flo.start w _ _ _ _ _ _ _ _ _ _ _ _ _ _ _ _ _ _ _ _ _ _ _ _ _
 clear hW0
 have hst:=storeF
 have F0:Flo w s0 s1 s2 s3 s4 s5 d0 d1 oOo oOo oOo oOo oOo oOo oOo oOo oOo oOo oOo oOo oOo oOo W0.drew:=FR.out.later (Below.refl _ _).drew
 go_region_held3 (fun w'=>w'.cell? ⟨w.heap.size,0,none⟩=some ↑s0∧w'.cell? ⟨w.heap.size,1,none⟩=some ↑s1∧w'.cell? ⟨w.heap.size,2,none⟩=some ↑s2∧w'.cell? ⟨w.heap.size,3,none⟩=some ↑s3∧w'.cell? ⟨w.heap.size,4,none⟩=some ↑s4∧w'.cell? ⟨w.heap.size,5,none⟩=some ↑s5∧w'.cell? ⟨w.heap.size+1,0,none⟩=some ↑d0∧w'.cell? ⟨w.heap.size+1,1,none⟩=some ↑d1)
  (first|with_reducible exact (F2.set2 _ _ _ _ _ _ _ _ _ _ _ _ _ _).s|with_reducible exact Flo.s (by with_reducible assumption))
  (first
   |(have hBB:=hB1;clear hBB;go_at_call 121;refine (vofE_any s3 s4 s5 _ h3 h4 h5).mono ?_;rintro o w2 ⟨v2,rfl,hv2,hb2⟩;have HV2:Hid (VecE v2 1 128 (cor s3) (cor s4) (cor s5)):=hv2;obtain ⟨m2_0,m2_1,m2_2,m2_3,m2_4,m2_5,rfl,_,_,_⟩:=hv2;have hB2:Below W0.heap.size W0 w2:=hB1.trans (hb2.mono hB1.size);have F2:Flo w s0 s1 s2 s3 s4 s5 d0 d1 oOo oOo oOo oOo oOo oOo oOo oOo oOo oOo oOo oOo oOo oOo w2:=FR.out.later hB2;have r0:=F2.e2x0;have r1:=F2.e2x1;have r2:=F2.e2x2;have r3:=F2.e2x3;have r4:=F2.e2x4;have r5:=F2.e2x5;have r6:=F2.e2x6;have r7:=F2.e2x7;have r8:=F2.e2x8;have r9:=F2.e2x9;have r10:=F2.e2x10;have r11:=F2.e2x11;have r12:=F2.e2x12;have r13:=F2.e2x13;have rz:=F2.f2)
   |(go_at_call 121;refine (vofE_any s0 s1 s2 _ h0 h1 h2).mono ?_;rintro o w1 ⟨v1,rfl,hv1,hb1⟩;have HV1:Hid (VecE v1 1 128 (cor s0) (cor s1) (cor s2)):=hv1;obtain ⟨m1_0,m1_1,m1_2,m1_3,m1_4,m1_5,rfl,_,_,_⟩:=hv1;have hB1:Below W0.heap.size W0 w1:=(Below.refl _ _).drew.trans hb1;have F1:Flo w s0 s1 s2 s3 s4 s5 d0 d1 oOo oOo oOo oOo oOo oOo oOo oOo oOo oOo oOo oOo oOo oOo w1:=FR.out.later hB1))
 have HF:Hid (Flo w s0 s1 s2 s3 s4 s5 d0 d1 oOo oOo oOo oOo oOo oOo oOo oOo oOo oOo oOo oOo oOo oOo w2):=F2
 clear hB1 hb1 F1 hB2 hb2 F2 F0
 go_wp2
 refine bodyPost_ret (v:= .agg #[.float .f64 m1_0,.float .f64 m1_1,.float .f64 m1_2,.float .f64 m1_3,.float .f64 m1_4,.float .f64 m1_5,.float .f64 m2_0,.float .f64 m2_1,.float .f64 m2_2,.float .f64 m2_3,.float .f64 m2_4,.float .f64 m2_5,d0,d1]) (by simp [results,Tryz.results77,go_sem,r0,r1,r2,r3,r4,r5,r6,r7,r8,r9,r10,r11,r12,r13]) rfl ?_
 refine ⟨_,rfl,⟨m1_0,m1_1,m1_2,m1_3,m1_4,m1_5,m2_0,m2_1,m2_2,m2_3,m2_4,m2_5,d0,d1,rfl,HV1.out,HV2.out,hd⟩,?_⟩
 exact (HF.out.set2 _ _ _ _ _ _ _ _ _ _ _ _ _ _).bel
def LineBOut (w:World) (O D:V3) (o:Ending) (w':World):Prop:= ∃v,o= .returned v∧LineB w' v O D∧Below w.heap.size w w'
theorem lineG_any (u:Value) (s0 s1 s2 s3 s4 s5:Int) (w:World) (hT:Tab w) (hu:BigIs w u 0 1) (h0:Cor s0) (h1:Cor s1) (h2:Cor s2) (h3:Cor s3) (h4:Cor s4) (h5:Cor s5):
 Calls Tryz.prog 78 #[.agg #[s0,s1,s2,s3,s4,s5],u] w fun o w'=>LineBOut w (pv s0 s1 s2) (pv s3 s4 s5) o w':=by
 have hk:=hu
 obtain ⟨gk,ak,ck,zk,rfl,_,_,_⟩:=hu
 go_enter Tryz.func78,Tryz.ntmps78
 go_wp2_with fail
 obtain ⟨W0,hW0⟩: ∃V0,V0=(((w.alloc (.cells #[s0,s1,s2,s3,s4,s5] 39)).alloc (.cells #[gk,.slice ak zk.length ck] 31)).alloc (.cells #[false,(),false,(),false,(),false,(),false,(),false,(),false,()] 94)):=⟨_,rfl⟩
 rw [←hW0]
 have FR:Hid (Flo w s0 s1 s2 s3 s4 s5 gk (.slice ak zk.length ck) false () false () false () false () false () false () false () W0):=by rw [hW0];exact Flo.start w _ _ _ _ _ _ _ _ _ _ _ _ _ _ _ _ _ _ _ _ _ _ _ _ _
 have HNI:Hid (NoInt W0 (w.heap.size+1+1)):=by
  have hz: ∀(i:Nat) (k:IntKind) (m:Int),(#[↑false,↑(),↑false,↑(),↑false,↑(),↑false,↑(),↑false,↑(),↑false,↑(),↑false,↑()]:Array Value)[i]? ≠some (Value.int k m):=by
   intro i k m
   match i with|0=>simp|1=>simp|2=>simp|3=>simp|4=>simp|5=>simp|6=>simp|7=>simp|8=>simp|9=>simp|10=>simp|11=>simp|12=>simp|13=>simp|n+14=>simp
  have h1:=NoInt.new ((w.alloc (.cells #[s0,s1,s2,s3,s4,s5] 39)).alloc (.cells #[gk,.slice ak zk.length ck] 31)) #[false,(),false,(),false,(),false,(),false,(),false,(),false,()] 94 hz
  have hs:((w.alloc (.cells #[s0,s1,s2,s3,s4,s5] 39)).alloc (.cells #[gk,.slice ak zk.length ck] 31)).heap.size=w.heap.size+1+1:=by simp
  rw [hs] at h1
  unfold Hid;rw [hW0];exact h1
 clear hW0
 have TT_0:=(hT.later FR.out.bel).later (w':=W0.drew) (Below.refl _ _).drew
 have R9_0:=(hk.later FR.out.bel).later (w':=W0.drew) (Below.refl _ _).drew
 have NI_0:=HNI.out.later (w':=W0.drew) (Below.refl _ _).drew
 have F0:Flo w s0 s1 s2 s3 s4 s5 gk (.slice ak zk.length ck) false () false () false () false () false () false () false () W0.drew:=FR.out.later (Below.refl _ _).drew
 go_region_held3 (fun w'=>w'.cell? ⟨w.heap.size,0,none⟩=some ↑s0∧w'.cell? ⟨w.heap.size,1,none⟩=some ↑s1∧w'.cell? ⟨w.heap.size,2,none⟩=some ↑s2∧w'.cell? ⟨w.heap.size,3,none⟩=some ↑s3∧w'.cell? ⟨w.heap.size,4,none⟩=some ↑s4∧w'.cell? ⟨w.heap.size,5,none⟩=some ↑s5∧w'.cell? ⟨w.heap.size+1,0,none⟩=some ↑gk∧w'.cell? ⟨w.heap.size+1,1,none⟩=some (.slice ak zk.length ck))
  (first|with_reducible exact (F2.set2 _ _ _ _ _ _ _ _ _ _ _ _ _ _).s|with_reducible exact Flo.s (by with_reducible assumption))
  (first
   |(have hBB:=hB1;clear hBB;go_at_call 122;refine (vofG_any s3 s4 s5 _ TT_1 h3 h4 h5).mono ?_;rintro o w2 ⟨v2,rfl,hv2,hb2⟩;have R2_2:VecB w2 v2 277 (cor s3) (cor s4) (cor s5):=hv2;obtain ⟨gr21,ar21,cr21,zr21,gr22,ar22,cr22,zr22,gr23,ar23,cr23,zr23,rfl,_,_,_⟩:=hv2;have TT_2:=TT_1.later hb2;have R9_2:=R9_1.later hb2;have NI_2:=NI_1.later hb2;have R1_2:=R1_1.later hb2;have hB2:Below W0.heap.size W0 w2:=hB1.trans (hb2.mono hB1.size);have F2:Flo w s0 s1 s2 s3 s4 s5 gk (.slice ak zk.length ck) false () false () false () false () false () false () false () w2:=FR.out.later hB2;have r0:=F2.e2x0;have r1:=F2.e2x1;have r2:=F2.e2x2;have r3:=F2.e2x3;have r4:=F2.e2x4;have r5:=F2.e2x5;have r6:=F2.e2x6;have r7:=F2.e2x7;have r8:=F2.e2x8;have r9:=F2.e2x9;have r10:=F2.e2x10;have r11:=F2.e2x11;have r12:=F2.e2x12;have r13:=F2.e2x13;have rz:=F2.f2)
   |(go_at_call 122;refine (vofG_any s0 s1 s2 _ TT_0 h0 h1 h2).mono ?_;rintro o w1 ⟨v1,rfl,hv1,hb1⟩;have R1_1:VecB w1 v1 277 (cor s0) (cor s1) (cor s2):=hv1;obtain ⟨gr11,ar11,cr11,zr11,gr12,ar12,cr12,zr12,gr13,ar13,cr13,zr13,rfl,_,_,_⟩:=hv1;have TT_1:=TT_0.later hb1;have R9_1:=R9_0.later hb1;have NI_1:=NI_0.later hb1;have hB1:Below W0.heap.size W0 w1:=(Below.refl _ _).drew.trans hb1;have F1:Flo w s0 s1 s2 s3 s4 s5 gk (.slice ak zk.length ck) false () false () false () false () false () false () false () w1:=FR.out.later hB1))
 have HF:Hid (Flo w s0 s1 s2 s3 s4 s5 gk (.slice ak zk.length ck) false () false () false () false () false () false () false () w2):=F2
 have HR1:Hid (VecB w2 (.agg #[gr11,.slice ar11 zr11.length cr11,gr12,.slice ar12 zr12.length cr12,gr13,.slice ar13 zr13.length cr13]) 277 (cor s0) (cor s1) (cor s2)):=R1_2
 have HR2:Hid (VecB w2 (.agg #[gr21,.slice ar21 zr21.length cr21,gr22,.slice ar22 zr22.length cr22,gr23,.slice ar23 zr23.length cr23]) 277 (cor s3) (cor s4) (cor s5)):=R2_2
 have HK:Hid (BigIs w2 (.agg #[gk,.slice ak zk.length ck]) 0 1):=R9_2
 have HNN:Hid (NoInt w2 (w.heap.size+1+1)):=NI_2
 clear hB1 hb1 F1 hB2 hb2 F2 TT_0 TT_1 TT_2 R9_0 R9_1 R9_2 NI_0 NI_1 NI_2 R1_1 R1_2 R2_2 F0
 go_wp2
 refine bodyPost_ret (v:= .agg #[gr11,.slice ar11 zr11.length cr11,gr12,.slice ar12 zr12.length cr12,gr13,.slice ar13 zr13.length cr13,gr21,.slice ar21 zr21.length cr21,gr22,.slice ar22 zr22.length cr22,gr23,.slice ar23 zr23.length cr23,gk,.slice ak zk.length ck]) (by simp [results,Tryz.results78,go_sem,r0,r1,r2,r3,r4,r5,r6,r7,r8,r9,r10,r11,r12,r13]) rfl ?_
 refine ⟨_,rfl,⟨gr11,ar11,cr11,zr11,gr12,ar12,cr12,zr12,gr13,ar13,cr13,zr13,gr21,ar21,cr21,zr21,gr22,ar22,cr22,zr22,gr23,ar23,cr23,zr23,gk,ak,ck,zk,rfl,HR1.out.setAll [gr11,.slice ar11 zr11.length cr11,gr12,.slice ar12 zr12.length cr12,gr13,.slice ar13 zr13.length cr13,gr21,.slice ar21 zr21.length cr21,gr22,.slice ar22 zr22.length cr22,gr23,.slice ar23 zr23.length cr23,gk,.slice ak zk.length ck] _ 0 HNN.out (by simp [NotInt]),HR2.out.setAll [gr11,.slice ar11 zr11.length cr11,gr12,.slice ar12 zr12.length cr12,gr13,.slice ar13 zr13.length cr13,gr21,.slice ar21 zr21.length cr21,gr22,.slice ar22 zr22.length cr22,gr23,.slice ar23 zr23.length cr23,gk,.slice ak zk.length ck] _ 0 HNN.out (by simp [NotInt]),HK.out.setAll [gr11,.slice ar11 zr11.length cr11,gr12,.slice ar12 zr12.length cr12,gr13,.slice ar13 zr13.length cr13,gr21,.slice ar21 zr21.length cr21,gr22,.slice ar22 zr22.length cr22,gr23,.slice ar23 zr23.length cr23,gk,.slice ak zk.length ck] _ 0 HNN.out (by simp [NotInt])⟩,?_⟩
 exact (HF.out.set2 _ _ _ _ _ _ _ _ _ _ _ _ _ _).bel
theorem results_cell {P:Program} {fn:Func} {tmps:Array Value} {w:World} {a:Nat} {t:TypeId} {b:Nat} {cs:List Value} {d:TypeDesc} (hf:fn.results=#[.cell a t]) (ha:tmps.getD a undef= .pointer (some ⟨b,0,none⟩)) (hc:w.rangeAt b 0 cs)
 (hu:P.underlying t=some d) (hd:d.isRow=true) (hi:(P.info? t).map (·.size)=some cs.length):(results fn tmps).run P w= .ok (.agg cs.toArray) w:=by
 have hl:=run_loadVar_mid w b 0 t cs d hc hu hd hi
 have ha':tmps[a]?.getD undef= .pointer (some ⟨b,0,none⟩):=by simpa using ha
 unfold results
 rw [hf]
 simp [ha',hl,asAddr]
theorem est_one:EstIs (.agg #[.float .f64 4607182418800017408,oOo]) 0 0 1:=by
 refine ⟨4607182418800017408,0,2^1074,0,rfl,⟨false,4607182418800017408,by omega,by decide+kernel,by decide+kernel⟩,⟨false,0,by omega,by decide+kernel,by decide+kernel⟩,?_⟩
 exact ⟨Fl.Fl.pow 1074,Fl.Fl.zero,by decide,by decide+kernel,by decide+kernel,⟨1,by decide+kernel⟩,by decide+kernel,by decide+kernel,by decide+kernel⟩
theorem LineB.setAll {v:Value} {O D:V3} {b:Nat} (us:List Value) (w:World) (i:Nat) (h:LineB w v O D) (hn:NoInt w b) (hu: ∀u∈us,NotInt u):LineB (Go.Proofs.YtfieffpobgcpmaaGreatDoor.setAll w b i us) v O D:=by
 obtain ⟨gs1,as1,cs1,zs1,gs2,as2,cs2,zs2,gs3,as3,cs3,zs3,gd1,ad1,cd1,zd1,gd2,ad2,cd2,zd2,gd3,ad3,cd3,zd3,gk,ak,ck,zk,rfl,h1,h2,h3⟩:=h
 exact ⟨gs1,as1,cs1,zs1,gs2,as2,cs2,zs2,gs3,as3,cs3,zs3,gd1,ad1,cd1,zd1,gd2,ad2,cd2,zd2,gd3,ad3,cd3,zd3,gk,ak,ck,zk,rfl,h1.setAll us w i hn hu,h2.setAll us w i hn hu,h3.setAll us w i hn hu⟩
def CourseOut (w:World) (O D:V3) (o:Ending) (w':World):Prop:= ∃v,o= .returned v∧CourseIs w' v O D∧Below w.heap.size w w'
theorem LineB.setAllC {v:Value} {O D:V3} {b:Nat} (us:List Value) (w:World) (i:Nat) (h:LineB w v O D) (hn:NoInt w b) (hu: ∀u∈us,NotInt u):LineB (w.setCells b i us) v O D:=by
 rw [setCells_all];exact h.setAll us w i hn hu
theorem courseOf_any (s0 s1 s2 s3 s4 s5:Int) (w:World) (hT:Tab w) (h0:Cor s0) (h1:Cor s1) (h2:Cor s2) (h3:Cor s3) (h4:Cor s4) (h5:Cor s5):
 Calls Tryz.prog 39 #[.agg #[s0,s1,s2,s3,s4,s5]] w fun o w'=>CourseOut w (pv s0 s1 s2) (pv s3 s4 s5) o w':=by
 have HR0:Hid (∀t0 t1,Cs ((w.alloc (.cells #[s0,s1,s2,s3,s4,s5] t0)).alloc (.cells #[oOo,oOo,oOo,oOo,oOo,oOo,oOo,oOo,oOo,oOo,oOo,oOo,oOo,oOo,false,(),false,(),false,(),false,(),false,(),false,(),false,()] t1)) w.heap.size [s0,s1,s2,s3,s4,s5]):=fun t0 t1=>(Cs.new w _ t0).later (bel0 _ _)
 have HZ0:Hid (∀t0 t1,Cs ((w.alloc (.cells #[s0,s1,s2,s3,s4,s5] t0)).alloc (.cells #[oOo,oOo,oOo,oOo,oOo,oOo,oOo,oOo,oOo,oOo,oOo,oOo,oOo,oOo,false,(),false,(),false,(),false,(),false,(),false,(),false,()] t1)) (w.heap.size+1) [oOo,oOo,oOo,oOo,oOo,oOo,oOo,oOo,oOo,oOo,oOo,oOo,oOo,oOo,false,(),false,(),false,(),false,(),false,(),false,(),false,()]):=fun t0 t1=>by
  have h:=Cs.new (w.alloc (.cells #[s0,s1,s2,s3,s4,s5] t0)) #[oOo,oOo,oOo,oOo,oOo,oOo,oOo,oOo,oOo,oOo,oOo,oOo,oOo,oOo,false,(),false,(),false,(),false,(),false,(),false,(),false,()] t1
  have e:(w.alloc (.cells #[s0,s1,s2,s3,s4,s5] t0)).heap.size=w.heap.size+1:=by simp
  rw [e] at h
  exact h
 have HN0:Hid (∀t0 t1,NoInt ((w.alloc (.cells #[s0,s1,s2,s3,s4,s5] t0)).alloc (.cells #[oOo,oOo,oOo,oOo,oOo,oOo,oOo,oOo,oOo,oOo,oOo,oOo,oOo,oOo,false,(),false,(),false,(),false,(),false,(),false,(),false,()] t1)) (w.heap.size+1)):=fun t0 t1=>by
  have h:=NoInt.new (w.alloc (.cells #[s0,s1,s2,s3,s4,s5] t0)) #[oOo,oOo,oOo,oOo,oOo,oOo,oOo,oOo,oOo,oOo,oOo,oOo,oOo,oOo,false,(),false,(),false,(),false,(),false,(),false,(),false,()] t1 (fun i k m=>by match i with|0=>simp|1=>simp|2=>simp|3=>simp|4=>simp|5=>simp|6=>simp|7=>simp|8=>simp|9=>simp|10=>simp|11=>simp|12=>simp|13=>simp|14=>simp|15=>simp|16=>simp|17=>simp|18=>simp|19=>simp|20=>simp|21=>simp|22=>simp|23=>simp|24=>simp|25=>simp|26=>simp|27=>simp|n+28=>simp)
  have e:(w.alloc (.cells #[s0,s1,s2,s3,s4,s5] t0)).heap.size=w.heap.size+1:=by simp
  rw [e] at h
  exact h
 have HB0:Hid (∀t0 t1,Below w.heap.size w ((w.alloc (.cells #[s0,s1,s2,s3,s4,s5] t0)).alloc (.cells #[oOo,oOo,oOo,oOo,oOo,oOo,oOo,oOo,oOo,oOo,oOo,oOo,oOo,oOo,false,(),false,(),false,(),false,(),false,(),false,(),false,()] t1))):=fun t0 t1=>(bel0 _ _).trans ((bel0 _ _).mono (by simp<;>omega))
 go_enter Tryz.func39,Tryz.ntmps39
 go_wp2_with fail
 obtain ⟨W0,hW0⟩: ∃V0,V0=((w.alloc (.cells #[s0,s1,s2,s3,s4,s5] 39)).alloc (.cells #[oOo,oOo,oOo,oOo,oOo,oOo,oOo,oOo,oOo,oOo,oOo,oOo,oOo,oOo,false,(),false,(),false,(),false,(),false,(),false,(),false,()] 96)):=⟨_,rfl⟩
 rw [←hW0]
 have HR:Hid (Cs W0 w.heap.size [s0,s1,s2,s3,s4,s5]):=by rw [hW0];exact HR0.out _ _
 have HZ:Hid (Cs W0 (w.heap.size+1) [oOo,oOo,oOo,oOo,oOo,oOo,oOo,oOo,oOo,oOo,oOo,oOo,oOo,oOo,false,(),false,(),false,(),false,(),false,(),false,(),false,()]):=by rw [hW0];exact HZ0.out _ _
 have HN:Hid (NoInt W0 (w.heap.size+1)):=by rw [hW0];exact HN0.out _ _
 have HB:Hid (Below w.heap.size w W0):=by rw [hW0];exact HB0.out _ _
 clear hW0 HR0 HZ0 HN0 HB0
 have HT:Hid (∀w',Below W0.heap.size W0 w'→Tab w'):=fun w' hb=>hT.later (HB.out.trans (hb.mono HB.out.size))
 clear hT
 have HK0:Hid (∀w',Below W0.heap.size W0 w'→(fun w'=>Cs w' w.heap.size [s0,s1,s2,s3,s4,s5]) w'):=fun w' hb=>HR.out.later hb
 refine AnyK.region (fun w'=>Cs w' w.heap.size [s0,s1,s2,s3,s4,s5]) 7 (by kernel_rfl) ?_
 have hB0:Below W0.heap.size W0 W0.drew:=(Below.refl _ _).drew
 have hS:=HK0.out _ hB0
 refine AnyK.take (i:=0) rfl rfl (by kernel_rfl) (by kernel_rfl) (by kernel_rfl) (by kernel_rfl) rfl (fun _ _ _ h=>h) (yieldsIf_load_mid rfl 39 (.tmp 1) rfl w.heap.size 0 rfl [s0,s1,s2,s3,s4,s5] _ (fun w' h=>h.range 0 6) Tryz.underlying39 rfl (by kernel_rfl)) hS ?_
 (try simp only [Act.put])
 refine AnyK.take (i:=1) (v:=(.agg #[.float .f64 4607182418800017408,oOo])) rfl rfl (by kernel_rfl) (by kernel_rfl) (by kernel_rfl) (by kernel_rfl) rfl (fun _ _ _ h=>h) (Or.inl ⟨rfl,fun w' _=>by first|kernel_rfl|go_simp⟩) hS ?_
 (try simp only [Act.put])
 refine AnyK.take (i:=3) rfl rfl (by kernel_rfl) (by kernel_rfl) (by kernel_rfl) (by kernel_rfl) rfl (fun _ _ _ h=>h) (yieldsIf_load_mid rfl 39 (.tmp 1) rfl w.heap.size 0 rfl [s0,s1,s2,s3,s4,s5] _ (fun w' h=>h.range 0 6) Tryz.underlying39 rfl (by kernel_rfl)) hS ?_
 (try simp only [Act.put])
 refine AnyK.one (i:=2) (by kernel_rfl) rfl rfl ?_
 intro K hK
 have HKK:Hid _:=hK
 clear hK
 go_wp2_with fail
 refine (lineE_any 4607182418800017408 0 s0 s1 s2 s3 s4 s5 _ est_one h0 h1 h2 h3 h4 h5).mono ?_
 rintro o w1 ⟨vE,rfl,hE,hb1⟩
 have HE:Hid (LineV vE (pv s0 s1 s2) (pv s3 s4 s5)):=hE
 obtain ⟨m0,m1,m2,m3,m4,m5,m6,m7,m8,m9,m10,m11,m12,m13,rfl,_,_,_⟩:=hE
 have hB1:Below W0.heap.size W0 w1:=hB0.trans hb1
 clear hS
 refine HKK.out _ _ (fun _=>HK0.out _ hB1) ?_
 have hS:=HK0.out _ hB1
 clear HKK K
 (try simp only [Act.put])
 refine AnyK.one (i:=4) (by kernel_rfl) rfl rfl ?_
 intro K hK
 have HKK:Hid _:=hK
 clear hK
 go_wp2_with fail
 refine (oneG_any _).mono ?_
 rintro o w2 ⟨vO,rfl,hO,hb2⟩
 have HO:Hid (BigIs w2 vO 0 1):=hO
 obtain ⟨go,ao,co,zo,rfl,_,_,_⟩:=hO
 have hB2:Below W0.heap.size W0 w2:=hB1.trans (hb2.mono hB1.size)
 clear hS
 refine HKK.out _ _ (fun _=>HK0.out _ hB2) ?_
 have hS:=HK0.out _ hB2
 clear HKK K
 (try simp only [Act.put])
 refine AnyK.one (i:=5) (by kernel_rfl) rfl rfl ?_
 intro K hK
 have HKK:Hid _:=hK
 clear hK
 go_wp2_with fail
 refine (lineG_any _ s0 s1 s2 s3 s4 s5 _ (HT.out _ hB2) HO.out h0 h1 h2 h3 h4 h5).mono ?_
 rintro o w3 ⟨vB,rfl,hBB,hb3⟩
 have HLB:Hid (LineB w3 vB (pv s0 s1 s2) (pv s3 s4 s5)):=hBB
 obtain ⟨gs1,as1,cs1,zs1,gs2,as2,cs2,zs2,gs3,as3,cs3,zs3,gd1,ad1,cd1,zd1,gd2,ad2,cd2,zd2,gd3,ad3,cd3,zd3,gk,ak,ck,zk,rfl,_,_,_⟩:=hBB
 have hB3:Below W0.heap.size W0 w3:=hB2.trans (hb3.mono hB2.size)
 clear hS
 refine HKK.out _ _ (fun _=>HK0.out _ hB3) ?_
 have hS:=HK0.out _ hB3
 clear HKK K
 (try simp only [Act.put])
 refine AnyK.take (i:=6) (v:= .agg #[.float .f64 m0,.float .f64 m1,.float .f64 m2,.float .f64 m3,.float .f64 m4,.float .f64 m5,.float .f64 m6,.float .f64 m7,.float .f64 m8,.float .f64 m9,.float .f64 m10,.float .f64 m11,.float .f64 m12,.float .f64 m13,gs1,.slice as1 zs1.length cs1,gs2,.slice as2 zs2.length cs2,gs3,.slice as3 zs3.length cs3,gd1,.slice ad1 zd1.length cd1,gd2,.slice ad2 zd2.length cd2,gd3,.slice ad3 zd3.length cd3,gk,.slice ak zk.length ck]) rfl rfl (by kernel_rfl) (by kernel_rfl) (by kernel_rfl) (by kernel_rfl) rfl (fun _ _ _ h=>h) (Or.inl ⟨rfl,fun w' _=>by first|kernel_rfl|go_simp⟩) hS ?_
 (try simp only [Act.put])
 refine AnyK.one (i:=7) (by kernel_rfl) rfl rfl ?_
 intro K hK
 refine wp_store_mid 96 (.tmp 2) (.tmp 9) rfl (w.heap.size+1) 0 #[.float .f64 m0,.float .f64 m1,.float .f64 m2,.float .f64 m3,.float .f64 m4,.float .f64 m5,.float .f64 m6,.float .f64 m7,.float .f64 m8,.float .f64 m9,.float .f64 m10,.float .f64 m11,.float .f64 m12,.float .f64 m13,gs1,.slice as1 zs1.length cs1,gs2,.slice as2 zs2.length cs2,gs3,.slice as3 zs3.length cs3,gd1,.slice ad1 zd1.length cd1,gd2,.slice ad2 zd2.length cd2,gd3,.slice ad3 zd3.length cd3,gk,.slice ak zk.length ck] rfl rfl ((HZ.out.later hB3).there 0 28 (by simp)) (by kernel_rfl) (all_oneCell_toArray (by simp [Value.oneCell'])) ?_
 refine hK _ _ (fun h=>absurd rfl h) ?_
 clear hK K hS
 refine AnyK.done (by kernel_rfl) ?_
 have HC9:Hid (Cs (World.setCells w3 (w.heap.size+1) 0 (Array.toList #[.float .f64 m0,.float .f64 m1,.float .f64 m2,.float .f64 m3,.float .f64 m4,.float .f64 m5,.float .f64 m6,.float .f64 m7,.float .f64 m8,.float .f64 m9,.float .f64 m10,.float .f64 m11,.float .f64 m12,.float .f64 m13,gs1,.slice as1 zs1.length cs1,gs2,.slice as2 zs2.length cs2,gs3,.slice as3 zs3.length cs3,gd1,.slice ad1 zd1.length cd1,gd2,.slice ad2 zd2.length cd2,gd3,.slice ad3 zd3.length cd3,gk,.slice ak zk.length ck])) (w.heap.size+1) [.float .f64 m0,.float .f64 m1,.float .f64 m2,.float .f64 m3,.float .f64 m4,.float .f64 m5,.float .f64 m6,.float .f64 m7,.float .f64 m8,.float .f64 m9,.float .f64 m10,.float .f64 m11,.float .f64 m12,.float .f64 m13,gs1,.slice as1 zs1.length cs1,gs2,.slice as2 zs2.length cs2,gs3,.slice as3 zs3.length cs3,gd1,.slice ad1 zd1.length cd1,gd2,.slice ad2 zd2.length cd2,gd3,.slice ad3 zd3.length cd3,gk,.slice ak zk.length ck]):=by unfold Hid;rw [setCells_all];exact (HZ.out.later hB3).whole _ rfl
 have HB9:Hid (LineB (World.setCells w3 (w.heap.size+1) 0 (Array.toList #[.float .f64 m0,.float .f64 m1,.float .f64 m2,.float .f64 m3,.float .f64 m4,.float .f64 m5,.float .f64 m6,.float .f64 m7,.float .f64 m8,.float .f64 m9,.float .f64 m10,.float .f64 m11,.float .f64 m12,.float .f64 m13,gs1,.slice as1 zs1.length cs1,gs2,.slice as2 zs2.length cs2,gs3,.slice as3 zs3.length cs3,gd1,.slice ad1 zd1.length cd1,gd2,.slice ad2 zd2.length cd2,gd3,.slice ad3 zd3.length cd3,gk,.slice ak zk.length ck])) (.agg #[gs1,.slice as1 zs1.length cs1,gs2,.slice as2 zs2.length cs2,gs3,.slice as3 zs3.length cs3,gd1,.slice ad1 zd1.length cd1,gd2,.slice ad2 zd2.length cd2,gd3,.slice ad3 zd3.length cd3,gk,.slice ak zk.length ck]) (pv s0 s1 s2) (pv s3 s4 s5)):=HLB.out.setAllC _ w3 0 (HN.out.later hB3) (by simp [NotInt])
 have HW9:Hid (Below w.heap.size w (World.setCells w3 (w.heap.size+1) 0 (Array.toList #[.float .f64 m0,.float .f64 m1,.float .f64 m2,.float .f64 m3,.float .f64 m4,.float .f64 m5,.float .f64 m6,.float .f64 m7,.float .f64 m8,.float .f64 m9,.float .f64 m10,.float .f64 m11,.float .f64 m12,.float .f64 m13,gs1,.slice as1 zs1.length cs1,gs2,.slice as2 zs2.length cs2,gs3,.slice as3 zs3.length cs3,gd1,.slice ad1 zd1.length cd1,gd2,.slice ad2 zd2.length cd2,gd3,.slice ad3 zd3.length cd3,gk,.slice ak zk.length ck]))):=by unfold Hid;rw [setCells_all];exact below_setAll (by omega) _ w3 0 (HB.out.trans (hB3.mono HB.out.size))
 obtain ⟨W9,hW9⟩: ∃V,V=World.setCells w3 (w.heap.size+1) 0 (Array.toList #[.float .f64 m0,.float .f64 m1,.float .f64 m2,.float .f64 m3,.float .f64 m4,.float .f64 m5,.float .f64 m6,.float .f64 m7,.float .f64 m8,.float .f64 m9,.float .f64 m10,.float .f64 m11,.float .f64 m12,.float .f64 m13,gs1,.slice as1 zs1.length cs1,gs2,.slice as2 zs2.length cs2,gs3,.slice as3 zs3.length cs3,gd1,.slice ad1 zd1.length cd1,gd2,.slice ad2 zd2.length cd2,gd3,.slice ad3 zd3.length cd3,gk,.slice ak zk.length ck]):=⟨_,rfl⟩
 rw [←hW9] at HC9 HB9 HW9⊢
 change Exit.then _ _ Exit.normal {tmps:=#[.agg #[s0,s1,s2,s3,s4,s5],.pointer (some ⟨w.heap.size,0,none⟩),.pointer (some ⟨w.heap.size+1,0,none⟩),.agg #[s0,s1,s2,s3,s4,s5],.agg #[.float .f64 4607182418800017408,oOo],.agg #[.float .f64 m0,.float .f64 m1,.float .f64 m2,.float .f64 m3,.float .f64 m4,.float .f64 m5,.float .f64 m6,.float .f64 m7,.float .f64 m8,.float .f64 m9,.float .f64 m10,.float .f64 m11,.float .f64 m12,.float .f64 m13],.agg #[s0,s1,s2,s3,s4,s5],.agg #[go,.slice ao zo.length co],.agg #[gs1,.slice as1 zs1.length cs1,gs2,.slice as2 zs2.length cs2,gs3,.slice as3 zs3.length cs3,gd1,.slice ad1 zd1.length cd1,gd2,.slice ad2 zd2.length cd2,gd3,.slice ad3 zd3.length cd3,gk,.slice ak zk.length ck],.agg #[.float .f64 m0,.float .f64 m1,.float .f64 m2,.float .f64 m3,.float .f64 m4,.float .f64 m5,.float .f64 m6,.float .f64 m7,.float .f64 m8,.float .f64 m9,.float .f64 m10,.float .f64 m11,.float .f64 m12,.float .f64 m13,gs1,.slice as1 zs1.length cs1,gs2,.slice as2 zs2.length cs2,gs3,.slice as3 zs3.length cs3,gd1,.slice ad1 zd1.length cd1,gd2,.slice ad2 zd2.length cd2,gd3,.slice ad3 zd3.length cd3,gk,.slice ak zk.length ck]],defers:=[]} W9
 clear hW9 hB0 hB1 hB2 hB3 hb1 hb2 hb3 HO HLB HZ HN HR HT HK0
 go_wp2
 refine bodyPost_ret (v:= .agg #[.float .f64 m0,.float .f64 m1,.float .f64 m2,.float .f64 m3,.float .f64 m4,.float .f64 m5,.float .f64 m6,.float .f64 m7,.float .f64 m8,.float .f64 m9,.float .f64 m10,.float .f64 m11,.float .f64 m12,.float .f64 m13,gs1,.slice as1 zs1.length cs1,gs2,.slice as2 zs2.length cs2,gs3,.slice as3 zs3.length cs3,gd1,.slice ad1 zd1.length cd1,gd2,.slice ad2 zd2.length cd2,gd3,.slice ad3 zd3.length cd3,gk,.slice ak zk.length ck]) (results_cell Tryz.results39 rfl (HC9.out.range 0 28) Tryz.underlying96 rfl (by kernel_rfl)) rfl ?_
 exact ⟨_,rfl,⟨_,_,_,_,_,_,_,_,_,_,_,_,_,_,_,_,_,_,_,_,_,_,_,_,_,_,_,_,rfl,HE.out,HB9.out⟩,HW9.out⟩
end Go.Proofs.YtfieffpobgcpmaaGreatDoor
