import Derived.Test.YtfieffpobgcpmaaGreatDoorMdDMdB
import Derived.Test.YtfieffpobgcpmaaGreatDoorFrCFrDCsA
import Derived.Test.YtfieffpobgcpmaaGreatDoorFwAEsRBhF
import Derived.Deep.CutRange
import Derived.Deep.RegionHeld3
set_option maxRecDepth 100000
set_option maxHeartbeats 32000000
namespace Go.Proofs.YtfieffpobgcpmaaGreatDoor
open Go.RowKit
structure Mc0 (w:World) (U V:List Value) (W:World):Prop where
 l:Cs W w.heap.size U
 t:Cs W (w.heap.size+1) V
 z:Cs W (w.heap.size+1+1) [false,(),false,(),false,()]
 i0:NoInt W (w.heap.size+1+1)
 bel:Below w.heap.size w W
theorem Mc0.later {w:World} {U V:List Value} {W W':World} (h:Mc0 w U V W) (hb:Below W.heap.size W W'):Mc0 w U V W':=
 ⟨h.l.later hb,h.t.later hb,h.z.later hb,h.i0.later hb,h.bel.trans (hb.mono h.bel.size)⟩
theorem Mc0.start (w:World) (Uc Vc:Array Value) (t0 t1 t2:TypeId):Mc0 w Uc.toList Vc.toList (((w.alloc (.cells Uc t0)).alloc (.cells Vc t1)).alloc (.cells #[false,(),false,(),false,()] t2)):=by
 have h1:=Cs.new (w.alloc (.cells Uc t0)) Vc t1
 have h2:=Cs.new ((w.alloc (.cells Uc t0)).alloc (.cells Vc t1)) #[false,(),false,(),false,()] t2
 have h3:=NoInt.new ((w.alloc (.cells Uc t0)).alloc (.cells Vc t1)) #[false,(),false,(),false,()] t2 (fun i k m=>by match i with|0=>simp|1=>simp|2=>simp|3=>simp|4=>simp|5=>simp|n+6=>simp)
 have e1:(w.alloc (.cells Uc t0)).heap.size=w.heap.size+1:=by simp
 have e2:((w.alloc (.cells Uc t0)).alloc (.cells Vc t1)).heap.size=w.heap.size+1+1:=by simp
 rw [e1] at h1
 rw [e2] at h2 h3
 exact ⟨((Cs.new w Uc t0).later (bel0 _ _)).later (bel0 _ _),h1.later (bel0 _ _),h2,h3,((bel0 _ _).trans ((bel0 _ _).mono (by simp<;>omega))).trans ((bel0 _ _).mono (by simp<;>omega))⟩
structure MxS (W0:World) (P:Nat) (v:Value) (us:List Value) (n:Nat) (x:Int) (W:World):Prop where
 c:Cs W P us
 v:MIs W v n x
 le:W0.heap.size≤P
 bel:Below W0.heap.size W0 W
theorem MxS.new2 {W0 W:World} {u0 u1:Value} {n:Nat} {x:Int} (t:TypeId) (h:MIs W (.agg #[u0,u1]) n x) (hb:Below W0.heap.size W0 W):MxS W0 W.heap.size (.agg #[u0,u1]) [u0,u1] n x (W.alloc (.cells #[u0,u1] t)):=
 ⟨Cs.new W _ t,h.later (bel0 _ _),hb.size,hb.trans ((bel0 _ _).mono hb.size)⟩
theorem MxS.set2 {W0 W:World} {P:Nat} {u0 u1:Value} {n:Nat} {x:Int} (h:MIs W (.agg #[u0,u1]) n x) (hb:Below W0.heap.size W0 W) (hc:Cs W P [false,()]) (hn:NoInt W P) (hv: ∀u∈[u0,u1],NotInt u) (hP:W0.heap.size≤P):MxS W0 P (.agg #[u0,u1]) [u0,u1] n x ((W.setCell ⟨P,0,none⟩ u0).setCell ⟨P,1,none⟩ u1):=
 ⟨hc.whole [u0,u1] rfl,h.setAll [u0,u1] W 0 hn hv,hP,below_setAll hP [u0,u1] W 0 hb⟩
theorem crossV_any (u v:Value) (n m:Nat) (A B C A' B' C':Int) (w:World) (hn:n≤20000) (hm:m≤20000) (hu:VecM w u n A B C) (hv:VecM w v m A' B' C'):
 Calls Tryz.prog 113 #[u,v] w fun o w'=>VecMOut w (n+m+1+(n+m+1)+1) (B*C'-C*B') (C*A'-A*C') (A*B'-B*A') o w':=by
 obtain ⟨gu1,au1,cu1,zu1,gu2,au2,cu2,zu2,gu3,au3,cu3,zu3,rfl,hu1,hu2,hu3⟩:=hu
 obtain ⟨gv1,av1,cv1,zv1,gv2,av2,cv2,zv2,gv3,av3,cv3,zv3,rfl,hv1,hv2,hv3⟩:=hv
 have HBu1:Hid (∀w',Below w.heap.size w w'→MIs w' (.agg #[gu1,.slice au1 zu1.length cu1]) n A):=fun w' hb=>hu1.later hb
 have HBu2:Hid (∀w',Below w.heap.size w w'→MIs w' (.agg #[gu2,.slice au2 zu2.length cu2]) n B):=fun w' hb=>hu2.later hb
 have HBu3:Hid (∀w',Below w.heap.size w w'→MIs w' (.agg #[gu3,.slice au3 zu3.length cu3]) n C):=fun w' hb=>hu3.later hb
 have HBv1:Hid (∀w',Below w.heap.size w w'→MIs w' (.agg #[gv1,.slice av1 zv1.length cv1]) m A'):=fun w' hb=>hv1.later hb
 have HBv2:Hid (∀w',Below w.heap.size w w'→MIs w' (.agg #[gv2,.slice av2 zv2.length cv2]) m B'):=fun w' hb=>hv2.later hb
 have HBv3:Hid (∀w',Below w.heap.size w w'→MIs w' (.agg #[gv3,.slice av3 zv3.length cv3]) m C'):=fun w' hb=>hv3.later hb
 have HI0:Hid (∀s0 s1 s2,Mc0 w [gu1,.slice au1 zu1.length cu1,gu2,.slice au2 zu2.length cu2,gu3,.slice au3 zu3.length cu3] [gv1,.slice av1 zv1.length cv1,gv2,.slice av2 zv2.length cv2,gv3,.slice av3 zv3.length cv3] (((w.alloc (.cells #[gu1,.slice au1 zu1.length cu1,gu2,.slice au2 zu2.length cu2,gu3,.slice au3 zu3.length cu3] s0)).alloc (.cells #[gv1,.slice av1 zv1.length cv1,gv2,.slice av2 zv2.length cv2,gv3,.slice av3 zv3.length cv3] s1)).alloc (.cells #[false,(),false,(),false,()] s2))):=fun s0 s1 s2=>Mc0.start w _ _ s0 s1 s2
 clear hu1 hu2 hu3 hv1 hv2 hv3
 go_enter Tryz.func113,Tryz.ntmps113
 go_wp2_with fail
 obtain ⟨W0,hW0⟩: ∃V0,V0=(((w.alloc (.cells #[gu1,.slice au1 zu1.length cu1,gu2,.slice au2 zu2.length cu2,gu3,.slice au3 zu3.length cu3] 128)).alloc (.cells #[gv1,.slice av1 zv1.length cv1,gv2,.slice av2 zv2.length cv2,gv3,.slice av3 zv3.length cv3] 128)).alloc (.cells #[false,(),false,(),false,()] 128)):=⟨_,rfl⟩
 rw [←hW0]
 have HC0:Hid (Mc0 w [gu1,.slice au1 zu1.length cu1,gu2,.slice au2 zu2.length cu2,gu3,.slice au3 zu3.length cu3] [gv1,.slice av1 zv1.length cv1,gv2,.slice av2 zv2.length cv2,gv3,.slice av3 zv3.length cv3] W0):=by rw [hW0];exact HI0.out _ _ _
 clear hW0 HI0
 have HMu1:Hid (∀w',Below W0.heap.size W0 w'→MIs w' (.agg #[gu1,.slice au1 zu1.length cu1]) n A):=fun w' hb=>HBu1.out w' (HC0.out.bel.trans (hb.mono HC0.out.bel.size))
 have HMu2:Hid (∀w',Below W0.heap.size W0 w'→MIs w' (.agg #[gu2,.slice au2 zu2.length cu2]) n B):=fun w' hb=>HBu2.out w' (HC0.out.bel.trans (hb.mono HC0.out.bel.size))
 have HMu3:Hid (∀w',Below W0.heap.size W0 w'→MIs w' (.agg #[gu3,.slice au3 zu3.length cu3]) n C):=fun w' hb=>HBu3.out w' (HC0.out.bel.trans (hb.mono HC0.out.bel.size))
 have HMv1:Hid (∀w',Below W0.heap.size W0 w'→MIs w' (.agg #[gv1,.slice av1 zv1.length cv1]) m A'):=fun w' hb=>HBv1.out w' (HC0.out.bel.trans (hb.mono HC0.out.bel.size))
 have HMv2:Hid (∀w',Below W0.heap.size W0 w'→MIs w' (.agg #[gv2,.slice av2 zv2.length cv2]) m B'):=fun w' hb=>HBv2.out w' (HC0.out.bel.trans (hb.mono HC0.out.bel.size))
 have HMv3:Hid (∀w',Below W0.heap.size W0 w'→MIs w' (.agg #[gv3,.slice av3 zv3.length cv3]) m C'):=fun w' hb=>HBv3.out w' (HC0.out.bel.trans (hb.mono HC0.out.bel.size))
 have HK:Hid (∀w',Below W0.heap.size W0 w'→w'.cell? ⟨w.heap.size,0,none⟩=some ↑gu1∧w'.cell? ⟨w.heap.size,1,none⟩=some (.slice au1 zu1.length cu1)∧w'.cell? ⟨w.heap.size,2,none⟩=some ↑gu2∧w'.cell? ⟨w.heap.size,3,none⟩=some (.slice au2 zu2.length cu2)∧w'.cell? ⟨w.heap.size,4,none⟩=some ↑gu3∧w'.cell? ⟨w.heap.size,5,none⟩=some (.slice au3 zu3.length cu3)∧w'.cell? ⟨w.heap.size+1,0,none⟩=some ↑gv1∧w'.cell? ⟨w.heap.size+1,1,none⟩=some (.slice av1 zv1.length cv1)∧w'.cell? ⟨w.heap.size+1,2,none⟩=some ↑gv2∧w'.cell? ⟨w.heap.size+1,3,none⟩=some (.slice av2 zv2.length cv2)∧w'.cell? ⟨w.heap.size+1,4,none⟩=some ↑gv3∧w'.cell? ⟨w.heap.size+1,5,none⟩=some (.slice av3 zv3.length cv3)∧Below W0.heap.size W0 w'):=fun w' hb=>⟨(HC0.out.l.later hb).at 0 rfl,(HC0.out.l.later hb).at 1 rfl,(HC0.out.l.later hb).at 2 rfl,(HC0.out.l.later hb).at 3 rfl,(HC0.out.l.later hb).at 4 rfl,(HC0.out.l.later hb).at 5 rfl,(HC0.out.t.later hb).at 0 rfl,(HC0.out.t.later hb).at 1 rfl,(HC0.out.t.later hb).at 2 rfl,(HC0.out.t.later hb).at 3 rfl,(HC0.out.t.later hb).at 4 rfl,(HC0.out.t.later hb).at 5 rfl,hb⟩
 have hB0:Below W0.heap.size W0 W0.drew:=(Below.refl _ _).drew
 have K0:=HK.out _ hB0
 go_wp2
 go_cut [5] from 8 to 55 (fun sx wx=> ∃(P:Nat) (gx:Bool) (ax:Option Addr) (cx:Nat) (zx:List Int),sx= .pointer (some ⟨P,0,none⟩)∧Hid (MxS W0 P (.agg #[gx,.slice ax zx.length cx]) [gx,.slice ax zx.length cx] (n+m+1+(n+m+1)+1) (B*C'-C*B') wx))
 case first=>
  go_region_held3 (fun w'=>w'.cell? ⟨w.heap.size,0,none⟩=some ↑gu1∧w'.cell? ⟨w.heap.size,1,none⟩=some (.slice au1 zu1.length cu1)∧w'.cell? ⟨w.heap.size,2,none⟩=some ↑gu2∧w'.cell? ⟨w.heap.size,3,none⟩=some (.slice au2 zu2.length cu2)∧w'.cell? ⟨w.heap.size,4,none⟩=some ↑gu3∧w'.cell? ⟨w.heap.size,5,none⟩=some (.slice au3 zu3.length cu3)∧w'.cell? ⟨w.heap.size+1,0,none⟩=some ↑gv1∧w'.cell? ⟨w.heap.size+1,1,none⟩=some (.slice av1 zv1.length cv1)∧w'.cell? ⟨w.heap.size+1,2,none⟩=some ↑gv2∧w'.cell? ⟨w.heap.size+1,3,none⟩=some (.slice av2 zv2.length cv2)∧w'.cell? ⟨w.heap.size+1,4,none⟩=some ↑gv3∧w'.cell? ⟨w.heap.size+1,5,none⟩=some (.slice av3 zv3.length cv3)∧Below W0.heap.size W0 w')
   (first|with_reducible assumption|with_reducible exact HK.out _ (hB3.trans ((bel0 _ _).mono hB3.size))|with_reducible exact HK.out _ (hB2.trans ((bel0 _ _).mono hB2.size))|with_reducible exact HK.out _ (hB1.trans ((bel0 _ _).mono hB1.size))|with_reducible exact HK.out _ (hB0.trans ((bel0 _ _).mono hB0.size))|with_reducible exact HK.out _ (Below.setCell (Below.setCell hB3 (by first|exact hp| (simp;exact hp)) _) (by first|exact hp| (simp;exact hp)) _)|exact HK.out _ (hB0.trans ((bel0 _ _).mono hB0.size)))
   (first
    |(have hBB:=hB2;clear hBB;go_at_call 72;refine (subM_any _ _ (n+m+1) (n+m+1) (B*C') (C*B') _ (by omega) (by omega) (by first|exact R1_2|exact R1_2.later (bel0 _ _)) (by first|exact R2|exact R2.later (bel0 _ _))).mono ?_;rintro o x3 ⟨vv3,rfl,hv3,hb3⟩;have R3:MIs x3 vv3 (n+m+1+(n+m+1)+1) (B*C'-C*B'):=hv3;obtain ⟨gx,ax,cx,zx,rfl,_,_,_⟩:=hv3;have hB3:Below W0.heap.size W0 x3:=(by first|exact hB2.trans (hb3.mono hB2.size)|exact (hB2.trans ((bel0 _ _).mono hB2.size)).trans (hb3.mono (hB2.trans ((bel0 _ _).mono hB2.size)).size));have K3:=HK.out _ hB3;(first| (have hh:Cs x3 W0.heap.size [false,()]:=(((Cs.new W0.drew #[false,()] 72).later hb1).later hb2).later hb3;have hj:NoInt x3 W0.heap.size:=(((NoInt.new W0.drew #[false,()] 72 (fun i k m=>by match i with|0=>simp|1=>simp|n+2=>simp)).later hb1).later hb2).later hb3;have hp:W0.heap.size≤W0.heap.size:=Nat.le_refl _)| (have hh:=((Cs.new x1 #[false,()] 72).later hb2).later hb3;have hj:=((NoInt.new x1 #[false,()] 72 (fun i k m=>by match i with|0=>simp|1=>simp|n+2=>simp)).later hb2).later hb3;have hp:W0.heap.size≤x1.heap.size:=hB1.size)| (have hh:=(Cs.new x2 #[false,()] 72).later hb3;have hj:=(NoInt.new x2 #[false,()] 72 (fun i k m=>by match i with|0=>simp|1=>simp|n+2=>simp)).later hb3;have hp:W0.heap.size≤x2.heap.size:=hB2.size)|have hh:True:=trivial);(try have e0:=hh.at 0 rfl);(try have e1:=hh.at 1 rfl);(try have ez:=hh.2.1))
    |(have hBB:=hB1;clear hBB;go_at_call 97;refine (mulM_any _ _ n m C B' _ (by omega) (by omega) (by first|exact HMu3.out _ hB1|exact HMu3.out _ (hB1.trans ((bel0 _ _).mono hB1.size))) (by first|exact HMv2.out _ hB1|exact HMv2.out _ (hB1.trans ((bel0 _ _).mono hB1.size)))).mono ?_;rintro o x2 ⟨vv2,rfl,hv2,hb2⟩;have R2:MIs x2 vv2 (n+m+1) (C*B'):=hv2;obtain ⟨gr2,ar2,cr2,zr2,rfl,_,_,_⟩:=hv2;have R1_2:MIs x2 (.agg #[gr1,.slice ar1 zr1.length cr1]) (n+m+1) (B*C'):=(by first|exact R1.later hb2|exact (R1.later (bel0 _ _)).later hb2);have hB2:Below W0.heap.size W0 x2:=(by first|exact hB1.trans (hb2.mono hB1.size)|exact (hB1.trans ((bel0 _ _).mono hB1.size)).trans (hb2.mono (hB1.trans ((bel0 _ _).mono hB1.size)).size));have K2:=HK.out _ hB2)
    |(go_at_call 97;refine (mulM_any _ _ n m B C' _ (by omega) (by omega) (by first|exact HMu2.out _ hB0|exact HMu2.out _ (hB0.trans ((bel0 _ _).mono hB0.size))) (by first|exact HMv3.out _ hB0|exact HMv3.out _ (hB0.trans ((bel0 _ _).mono hB0.size)))).mono ?_;rintro o x1 ⟨vv1,rfl,hv1,hb1⟩;have R1:MIs x1 vv1 (n+m+1) (B*C'):=hv1;obtain ⟨gr1,ar1,cr1,zr1,rfl,_,_,_⟩:=hv1;have hB1:Below W0.heap.size W0 x1:=(by first|exact hB0.trans (hb1.mono hB0.size)|exact (hB0.trans ((bel0 _ _).mono hB0.size)).trans (hb1.mono (hB0.trans ((bel0 _ _).mono hB0.size)).size));have K1:=HK.out _ hB1))
  all_goals
   go_wp2_with fail
   go_meet
   case rel=>
    refine ⟨_,gx,ax,cx,zx,rfl,?_⟩
    unfold Hid
    first
     |with_reducible exact MxS.new2 _ R3 hB3
     |with_reducible exact MxS.set2 R3 hB3 hh hj (by simp [NotInt]) hp
 case rest=>
  obtain ⟨P1,gx,ax,cx,zx,rfl,HE1⟩:=hcut
  generalize hwq:wc=wq1 at*
  clear hwq
  have HC1:=Hid.mk (HC0.out.later HE1.out.bel)
  have HX1:Hid (Cs wq1 P1 [gx,.slice ax zx.length cx]∧MIs wq1 (.agg #[gx,.slice ax zx.length cx]) (n+m+1+(n+m+1)+1) (B*C'-C*B')):=⟨HE1.out.c,HE1.out.v⟩
  clear HE1 HC0 HK hB0 K0
  have HMu1:Hid (∀w',Below wq1.heap.size wq1 w'→MIs w' (.agg #[gu1,.slice au1 zu1.length cu1]) n A):=fun w' hb=>HBu1.out w' (HC1.out.bel.trans (hb.mono HC1.out.bel.size))
  have HMu2:Hid (∀w',Below wq1.heap.size wq1 w'→MIs w' (.agg #[gu2,.slice au2 zu2.length cu2]) n B):=fun w' hb=>HBu2.out w' (HC1.out.bel.trans (hb.mono HC1.out.bel.size))
  have HMu3:Hid (∀w',Below wq1.heap.size wq1 w'→MIs w' (.agg #[gu3,.slice au3 zu3.length cu3]) n C):=fun w' hb=>HBu3.out w' (HC1.out.bel.trans (hb.mono HC1.out.bel.size))
  have HMv1:Hid (∀w',Below wq1.heap.size wq1 w'→MIs w' (.agg #[gv1,.slice av1 zv1.length cv1]) m A'):=fun w' hb=>HBv1.out w' (HC1.out.bel.trans (hb.mono HC1.out.bel.size))
  have HMv2:Hid (∀w',Below wq1.heap.size wq1 w'→MIs w' (.agg #[gv2,.slice av2 zv2.length cv2]) m B'):=fun w' hb=>HBv2.out w' (HC1.out.bel.trans (hb.mono HC1.out.bel.size))
  have HMv3:Hid (∀w',Below wq1.heap.size wq1 w'→MIs w' (.agg #[gv3,.slice av3 zv3.length cv3]) m C'):=fun w' hb=>HBv3.out w' (HC1.out.bel.trans (hb.mono HC1.out.bel.size))
  have HK:Hid (∀w',Below wq1.heap.size wq1 w'→w'.cell? ⟨w.heap.size,0,none⟩=some ↑gu1∧w'.cell? ⟨w.heap.size,1,none⟩=some (.slice au1 zu1.length cu1)∧w'.cell? ⟨w.heap.size,2,none⟩=some ↑gu2∧w'.cell? ⟨w.heap.size,3,none⟩=some (.slice au2 zu2.length cu2)∧w'.cell? ⟨w.heap.size,4,none⟩=some ↑gu3∧w'.cell? ⟨w.heap.size,5,none⟩=some (.slice au3 zu3.length cu3)∧w'.cell? ⟨w.heap.size+1,0,none⟩=some ↑gv1∧w'.cell? ⟨w.heap.size+1,1,none⟩=some (.slice av1 zv1.length cv1)∧w'.cell? ⟨w.heap.size+1,2,none⟩=some ↑gv2∧w'.cell? ⟨w.heap.size+1,3,none⟩=some (.slice av2 zv2.length cv2)∧w'.cell? ⟨w.heap.size+1,4,none⟩=some ↑gv3∧w'.cell? ⟨w.heap.size+1,5,none⟩=some (.slice av3 zv3.length cv3)∧Below wq1.heap.size wq1 w'):=fun w' hb=>⟨(HC1.out.l.later hb).at 0 rfl,(HC1.out.l.later hb).at 1 rfl,(HC1.out.l.later hb).at 2 rfl,(HC1.out.l.later hb).at 3 rfl,(HC1.out.l.later hb).at 4 rfl,(HC1.out.l.later hb).at 5 rfl,(HC1.out.t.later hb).at 0 rfl,(HC1.out.t.later hb).at 1 rfl,(HC1.out.t.later hb).at 2 rfl,(HC1.out.t.later hb).at 3 rfl,(HC1.out.t.later hb).at 4 rfl,(HC1.out.t.later hb).at 5 rfl,hb⟩
  have hB0:Below wq1.heap.size wq1 wq1.drew:=(Below.refl _ _).drew
  have K0:=HK.out _ hB0
  go_wp2
  go_cut [6] from 8 to 55 (fun sx wx=> ∃(P:Nat) (gy:Bool) (ay:Option Addr) (cy:Nat) (zy:List Int),sx= .pointer (some ⟨P,0,none⟩)∧Hid (MxS wq1 P (.agg #[gy,.slice ay zy.length cy]) [gy,.slice ay zy.length cy] (n+m+1+(n+m+1)+1) (C*A'-A*C') wx))
  case first=>
   go_region_held3 (fun w'=>w'.cell? ⟨w.heap.size,0,none⟩=some ↑gu1∧w'.cell? ⟨w.heap.size,1,none⟩=some (.slice au1 zu1.length cu1)∧w'.cell? ⟨w.heap.size,2,none⟩=some ↑gu2∧w'.cell? ⟨w.heap.size,3,none⟩=some (.slice au2 zu2.length cu2)∧w'.cell? ⟨w.heap.size,4,none⟩=some ↑gu3∧w'.cell? ⟨w.heap.size,5,none⟩=some (.slice au3 zu3.length cu3)∧w'.cell? ⟨w.heap.size+1,0,none⟩=some ↑gv1∧w'.cell? ⟨w.heap.size+1,1,none⟩=some (.slice av1 zv1.length cv1)∧w'.cell? ⟨w.heap.size+1,2,none⟩=some ↑gv2∧w'.cell? ⟨w.heap.size+1,3,none⟩=some (.slice av2 zv2.length cv2)∧w'.cell? ⟨w.heap.size+1,4,none⟩=some ↑gv3∧w'.cell? ⟨w.heap.size+1,5,none⟩=some (.slice av3 zv3.length cv3)∧Below wq1.heap.size wq1 w')
    (first|with_reducible assumption|with_reducible exact HK.out _ (hB3.trans ((bel0 _ _).mono hB3.size))|with_reducible exact HK.out _ (hB2.trans ((bel0 _ _).mono hB2.size))|with_reducible exact HK.out _ (hB1.trans ((bel0 _ _).mono hB1.size))|with_reducible exact HK.out _ (hB0.trans ((bel0 _ _).mono hB0.size))|with_reducible exact HK.out _ (Below.setCell (Below.setCell hB3 (by first|exact hp| (simp;exact hp)) _) (by first|exact hp| (simp;exact hp)) _)|exact HK.out _ (hB0.trans ((bel0 _ _).mono hB0.size)))
    (first
     |(have hBB:=hB2;clear hBB;go_at_call 72;refine (subM_any _ _ (n+m+1) (n+m+1) (C*A') (A*C') _ (by omega) (by omega) (by first|exact R1_2|exact R1_2.later (bel0 _ _)) (by first|exact R2|exact R2.later (bel0 _ _))).mono ?_;rintro o y3 ⟨vv3,rfl,hv3,hb3⟩;have R3:MIs y3 vv3 (n+m+1+(n+m+1)+1) (C*A'-A*C'):=hv3;obtain ⟨gy,ay,cy,zy,rfl,_,_,_⟩:=hv3;have hB3:Below wq1.heap.size wq1 y3:=(by first|exact hB2.trans (hb3.mono hB2.size)|exact (hB2.trans ((bel0 _ _).mono hB2.size)).trans (hb3.mono (hB2.trans ((bel0 _ _).mono hB2.size)).size));have K3:=HK.out _ hB3;(first| (have hh:Cs y3 wq1.heap.size [false,()]:=(((Cs.new wq1.drew #[false,()] 72).later hb1).later hb2).later hb3;have hj:NoInt y3 wq1.heap.size:=(((NoInt.new wq1.drew #[false,()] 72 (fun i k m=>by match i with|0=>simp|1=>simp|n+2=>simp)).later hb1).later hb2).later hb3;have hp:wq1.heap.size≤wq1.heap.size:=Nat.le_refl _)| (have hh:=((Cs.new y1 #[false,()] 72).later hb2).later hb3;have hj:=((NoInt.new y1 #[false,()] 72 (fun i k m=>by match i with|0=>simp|1=>simp|n+2=>simp)).later hb2).later hb3;have hp:wq1.heap.size≤y1.heap.size:=hB1.size)| (have hh:=(Cs.new y2 #[false,()] 72).later hb3;have hj:=(NoInt.new y2 #[false,()] 72 (fun i k m=>by match i with|0=>simp|1=>simp|n+2=>simp)).later hb3;have hp:wq1.heap.size≤y2.heap.size:=hB2.size)|have hh:True:=trivial);(try have e0:=hh.at 0 rfl);(try have e1:=hh.at 1 rfl);(try have ez:=hh.2.1))
     |(have hBB:=hB1;clear hBB;go_at_call 97;refine (mulM_any _ _ n m A C' _ (by omega) (by omega) (by first|exact HMu1.out _ hB1|exact HMu1.out _ (hB1.trans ((bel0 _ _).mono hB1.size))) (by first|exact HMv3.out _ hB1|exact HMv3.out _ (hB1.trans ((bel0 _ _).mono hB1.size)))).mono ?_;rintro o y2 ⟨vv2,rfl,hv2,hb2⟩;have R2:MIs y2 vv2 (n+m+1) (A*C'):=hv2;obtain ⟨gr2,ar2,cr2,zr2,rfl,_,_,_⟩:=hv2;have R1_2:MIs y2 (.agg #[gr1,.slice ar1 zr1.length cr1]) (n+m+1) (C*A'):=(by first|exact R1.later hb2|exact (R1.later (bel0 _ _)).later hb2);have hB2:Below wq1.heap.size wq1 y2:=(by first|exact hB1.trans (hb2.mono hB1.size)|exact (hB1.trans ((bel0 _ _).mono hB1.size)).trans (hb2.mono (hB1.trans ((bel0 _ _).mono hB1.size)).size));have K2:=HK.out _ hB2)
     |(go_at_call 97;refine (mulM_any _ _ n m C A' _ (by omega) (by omega) (by first|exact HMu3.out _ hB0|exact HMu3.out _ (hB0.trans ((bel0 _ _).mono hB0.size))) (by first|exact HMv1.out _ hB0|exact HMv1.out _ (hB0.trans ((bel0 _ _).mono hB0.size)))).mono ?_;rintro o y1 ⟨vv1,rfl,hv1,hb1⟩;have R1:MIs y1 vv1 (n+m+1) (C*A'):=hv1;obtain ⟨gr1,ar1,cr1,zr1,rfl,_,_,_⟩:=hv1;have hB1:Below wq1.heap.size wq1 y1:=(by first|exact hB0.trans (hb1.mono hB0.size)|exact (hB0.trans ((bel0 _ _).mono hB0.size)).trans (hb1.mono (hB0.trans ((bel0 _ _).mono hB0.size)).size));have K1:=HK.out _ hB1))
   all_goals
    go_wp2_with fail
    go_meet
    case rel=>
     refine ⟨_,gy,ay,cy,zy,rfl,?_⟩
     unfold Hid
     first
      |with_reducible exact MxS.new2 _ R3 hB3
      |with_reducible exact MxS.set2 R3 hB3 hh hj (by simp [NotInt]) hp
  case rest=>
   obtain ⟨P2,gy,ay,cy,zy,rfl,HE2⟩:=hcut
   generalize hwq:wc=wq2 at*
   clear hwq
   have HC2:=Hid.mk (HC1.out.later HE2.out.bel)
   have HX2:Hid (Cs wq2 P1 [gx,.slice ax zx.length cx]∧MIs wq2 (.agg #[gx,.slice ax zx.length cx]) (n+m+1+(n+m+1)+1) (B*C'-C*B')):=⟨HX1.out.1.later HE2.out.bel,HX1.out.2.later HE2.out.bel⟩
   have HY2:Hid (Cs wq2 P2 [gy,.slice ay zy.length cy]∧MIs wq2 (.agg #[gy,.slice ay zy.length cy]) (n+m+1+(n+m+1)+1) (C*A'-A*C')):=⟨HE2.out.c,HE2.out.v⟩
   clear HE2 HX1 HC1 HK hB0 K0
   have HMu1:Hid (∀w',Below wq2.heap.size wq2 w'→MIs w' (.agg #[gu1,.slice au1 zu1.length cu1]) n A):=fun w' hb=>HBu1.out w' (HC2.out.bel.trans (hb.mono HC2.out.bel.size))
   have HMu2:Hid (∀w',Below wq2.heap.size wq2 w'→MIs w' (.agg #[gu2,.slice au2 zu2.length cu2]) n B):=fun w' hb=>HBu2.out w' (HC2.out.bel.trans (hb.mono HC2.out.bel.size))
   have HMu3:Hid (∀w',Below wq2.heap.size wq2 w'→MIs w' (.agg #[gu3,.slice au3 zu3.length cu3]) n C):=fun w' hb=>HBu3.out w' (HC2.out.bel.trans (hb.mono HC2.out.bel.size))
   have HMv1:Hid (∀w',Below wq2.heap.size wq2 w'→MIs w' (.agg #[gv1,.slice av1 zv1.length cv1]) m A'):=fun w' hb=>HBv1.out w' (HC2.out.bel.trans (hb.mono HC2.out.bel.size))
   have HMv2:Hid (∀w',Below wq2.heap.size wq2 w'→MIs w' (.agg #[gv2,.slice av2 zv2.length cv2]) m B'):=fun w' hb=>HBv2.out w' (HC2.out.bel.trans (hb.mono HC2.out.bel.size))
   have HMv3:Hid (∀w',Below wq2.heap.size wq2 w'→MIs w' (.agg #[gv3,.slice av3 zv3.length cv3]) m C'):=fun w' hb=>HBv3.out w' (HC2.out.bel.trans (hb.mono HC2.out.bel.size))
   have HK:Hid (∀w',Below wq2.heap.size wq2 w'→w'.cell? ⟨w.heap.size,0,none⟩=some ↑gu1∧w'.cell? ⟨w.heap.size,1,none⟩=some (.slice au1 zu1.length cu1)∧w'.cell? ⟨w.heap.size,2,none⟩=some ↑gu2∧w'.cell? ⟨w.heap.size,3,none⟩=some (.slice au2 zu2.length cu2)∧w'.cell? ⟨w.heap.size,4,none⟩=some ↑gu3∧w'.cell? ⟨w.heap.size,5,none⟩=some (.slice au3 zu3.length cu3)∧w'.cell? ⟨w.heap.size+1,0,none⟩=some ↑gv1∧w'.cell? ⟨w.heap.size+1,1,none⟩=some (.slice av1 zv1.length cv1)∧w'.cell? ⟨w.heap.size+1,2,none⟩=some ↑gv2∧w'.cell? ⟨w.heap.size+1,3,none⟩=some (.slice av2 zv2.length cv2)∧w'.cell? ⟨w.heap.size+1,4,none⟩=some ↑gv3∧w'.cell? ⟨w.heap.size+1,5,none⟩=some (.slice av3 zv3.length cv3)∧Below wq2.heap.size wq2 w'):=fun w' hb=>⟨(HC2.out.l.later hb).at 0 rfl,(HC2.out.l.later hb).at 1 rfl,(HC2.out.l.later hb).at 2 rfl,(HC2.out.l.later hb).at 3 rfl,(HC2.out.l.later hb).at 4 rfl,(HC2.out.l.later hb).at 5 rfl,(HC2.out.t.later hb).at 0 rfl,(HC2.out.t.later hb).at 1 rfl,(HC2.out.t.later hb).at 2 rfl,(HC2.out.t.later hb).at 3 rfl,(HC2.out.t.later hb).at 4 rfl,(HC2.out.t.later hb).at 5 rfl,hb⟩
   have hB0:Below wq2.heap.size wq2 wq2.drew:=(Below.refl _ _).drew
   have K0:=HK.out _ hB0
   go_wp2
   go_cut [7] from 8 to 55 (fun sx wx=> ∃(P:Nat) (gz:Bool) (az:Option Addr) (cz:Nat) (zz:List Int),sx= .pointer (some ⟨P,0,none⟩)∧Hid (MxS wq2 P (.agg #[gz,.slice az zz.length cz]) [gz,.slice az zz.length cz] (n+m+1+(n+m+1)+1) (A*B'-B*A') wx))
   case first=>
    go_region_held3 (fun w'=>w'.cell? ⟨w.heap.size,0,none⟩=some ↑gu1∧w'.cell? ⟨w.heap.size,1,none⟩=some (.slice au1 zu1.length cu1)∧w'.cell? ⟨w.heap.size,2,none⟩=some ↑gu2∧w'.cell? ⟨w.heap.size,3,none⟩=some (.slice au2 zu2.length cu2)∧w'.cell? ⟨w.heap.size,4,none⟩=some ↑gu3∧w'.cell? ⟨w.heap.size,5,none⟩=some (.slice au3 zu3.length cu3)∧w'.cell? ⟨w.heap.size+1,0,none⟩=some ↑gv1∧w'.cell? ⟨w.heap.size+1,1,none⟩=some (.slice av1 zv1.length cv1)∧w'.cell? ⟨w.heap.size+1,2,none⟩=some ↑gv2∧w'.cell? ⟨w.heap.size+1,3,none⟩=some (.slice av2 zv2.length cv2)∧w'.cell? ⟨w.heap.size+1,4,none⟩=some ↑gv3∧w'.cell? ⟨w.heap.size+1,5,none⟩=some (.slice av3 zv3.length cv3)∧Below wq2.heap.size wq2 w')
     (first|with_reducible assumption|with_reducible exact HK.out _ (hB3.trans ((bel0 _ _).mono hB3.size))|with_reducible exact HK.out _ (hB2.trans ((bel0 _ _).mono hB2.size))|with_reducible exact HK.out _ (hB1.trans ((bel0 _ _).mono hB1.size))|with_reducible exact HK.out _ (hB0.trans ((bel0 _ _).mono hB0.size))|with_reducible exact HK.out _ (Below.setCell (Below.setCell hB3 (by first|exact hp| (simp;exact hp)) _) (by first|exact hp| (simp;exact hp)) _)|exact HK.out _ (hB0.trans ((bel0 _ _).mono hB0.size)))
     (first
      |(have hBB:=hB2;clear hBB;go_at_call 72;refine (subM_any _ _ (n+m+1) (n+m+1) (A*B') (B*A') _ (by omega) (by omega) (by first|exact R1_2|exact R1_2.later (bel0 _ _)) (by first|exact R2|exact R2.later (bel0 _ _))).mono ?_;rintro o z3 ⟨vv3,rfl,hv3,hb3⟩;have R3:MIs z3 vv3 (n+m+1+(n+m+1)+1) (A*B'-B*A'):=hv3;obtain ⟨gz,az,cz,zz,rfl,_,_,_⟩:=hv3;have hB3:Below wq2.heap.size wq2 z3:=(by first|exact hB2.trans (hb3.mono hB2.size)|exact (hB2.trans ((bel0 _ _).mono hB2.size)).trans (hb3.mono (hB2.trans ((bel0 _ _).mono hB2.size)).size));have K3:=HK.out _ hB3;(first| (have hh:Cs z3 wq2.heap.size [false,()]:=(((Cs.new wq2.drew #[false,()] 72).later hb1).later hb2).later hb3;have hj:NoInt z3 wq2.heap.size:=(((NoInt.new wq2.drew #[false,()] 72 (fun i k m=>by match i with|0=>simp|1=>simp|n+2=>simp)).later hb1).later hb2).later hb3;have hp:wq2.heap.size≤wq2.heap.size:=Nat.le_refl _)| (have hh:=((Cs.new z1 #[false,()] 72).later hb2).later hb3;have hj:=((NoInt.new z1 #[false,()] 72 (fun i k m=>by match i with|0=>simp|1=>simp|n+2=>simp)).later hb2).later hb3;have hp:wq2.heap.size≤z1.heap.size:=hB1.size)| (have hh:=(Cs.new z2 #[false,()] 72).later hb3;have hj:=(NoInt.new z2 #[false,()] 72 (fun i k m=>by match i with|0=>simp|1=>simp|n+2=>simp)).later hb3;have hp:wq2.heap.size≤z2.heap.size:=hB2.size)|have hh:True:=trivial);(try have e0:=hh.at 0 rfl);(try have e1:=hh.at 1 rfl);(try have ez:=hh.2.1))
      |(have hBB:=hB1;clear hBB;go_at_call 97;refine (mulM_any _ _ n m B A' _ (by omega) (by omega) (by first|exact HMu2.out _ hB1|exact HMu2.out _ (hB1.trans ((bel0 _ _).mono hB1.size))) (by first|exact HMv1.out _ hB1|exact HMv1.out _ (hB1.trans ((bel0 _ _).mono hB1.size)))).mono ?_;rintro o z2 ⟨vv2,rfl,hv2,hb2⟩;have R2:MIs z2 vv2 (n+m+1) (B*A'):=hv2;obtain ⟨gr2,ar2,cr2,zr2,rfl,_,_,_⟩:=hv2;have R1_2:MIs z2 (.agg #[gr1,.slice ar1 zr1.length cr1]) (n+m+1) (A*B'):=(by first|exact R1.later hb2|exact (R1.later (bel0 _ _)).later hb2);have hB2:Below wq2.heap.size wq2 z2:=(by first|exact hB1.trans (hb2.mono hB1.size)|exact (hB1.trans ((bel0 _ _).mono hB1.size)).trans (hb2.mono (hB1.trans ((bel0 _ _).mono hB1.size)).size));have K2:=HK.out _ hB2)
      |(go_at_call 97;refine (mulM_any _ _ n m A B' _ (by omega) (by omega) (by first|exact HMu1.out _ hB0|exact HMu1.out _ (hB0.trans ((bel0 _ _).mono hB0.size))) (by first|exact HMv2.out _ hB0|exact HMv2.out _ (hB0.trans ((bel0 _ _).mono hB0.size)))).mono ?_;rintro o z1 ⟨vv1,rfl,hv1,hb1⟩;have R1:MIs z1 vv1 (n+m+1) (A*B'):=hv1;obtain ⟨gr1,ar1,cr1,zr1,rfl,_,_,_⟩:=hv1;have hB1:Below wq2.heap.size wq2 z1:=(by first|exact hB0.trans (hb1.mono hB0.size)|exact (hB0.trans ((bel0 _ _).mono hB0.size)).trans (hb1.mono (hB0.trans ((bel0 _ _).mono hB0.size)).size));have K1:=HK.out _ hB1))
    all_goals
     go_wp2_with fail
     go_meet
     case rel=>
      refine ⟨_,gz,az,cz,zz,rfl,?_⟩
      unfold Hid
      first
       |with_reducible exact MxS.new2 _ R3 hB3
       |with_reducible exact MxS.set2 R3 hB3 hh hj (by simp [NotInt]) hp
   case rest=>
    obtain ⟨P3,gz,az,cz,zz,rfl,HE3⟩:=hcut
    have HC3:=Hid.mk (HC2.out.later HE3.out.bel)
    have HX3:Hid (Cs wc P1 [gx,.slice ax zx.length cx]∧MIs wc (.agg #[gx,.slice ax zx.length cx]) (n+m+1+(n+m+1)+1) (B*C'-C*B')):=⟨HX2.out.1.later HE3.out.bel,HX2.out.2.later HE3.out.bel⟩
    have HY3:Hid (Cs wc P2 [gy,.slice ay zy.length cy]∧MIs wc (.agg #[gy,.slice ay zy.length cy]) (n+m+1+(n+m+1)+1) (C*A'-A*C')):=⟨HY2.out.1.later HE3.out.bel,HY2.out.2.later HE3.out.bel⟩
    obtain ⟨d0,d1⟩:=HX3.out.1.c2
    obtain ⟨d2,d3⟩:=HY3.out.1.c2
    obtain ⟨d4,d5⟩:=HE3.out.c.c2
    obtain ⟨y0,y1,y2,y3,y4,y5⟩:=HC3.out.z.c6
    have yf:=HC3.out.z.2.1
    clear hB0 K0 HK
    go_wp2
    refine bodyPost_ret (v:= .agg #[gx,.slice ax zx.length cx,gy,.slice ay zy.length cy,gz,.slice az zz.length cz]) (by simp [results,Tryz.results113,go_sem,y0,y1,y2,y3,y4,y5]) rfl ?_
    exact ⟨_,rfl,⟨gx,ax,cx,zx,gy,ay,cy,zy,gz,az,cz,zz,rfl,HX3.out.2.setAll [gx,.slice ax zx.length cx,gy,.slice ay zy.length cy,gz,.slice az zz.length cz] wc 0 HC3.out.i0 (by simp [NotInt]),HY3.out.2.setAll [gx,.slice ax zx.length cx,gy,.slice ay zy.length cy,gz,.slice az zz.length cz] wc 0 HC3.out.i0 (by simp [NotInt]),HE3.out.v.setAll [gx,.slice ax zx.length cx,gy,.slice ay zy.length cy,gz,.slice az zz.length cz] wc 0 HC3.out.i0 (by simp [NotInt])⟩,below_setAll (vs:=[↑gx,.slice ax zx.length cx,↑gy,.slice ay zy.length cy,↑gz,.slice az zz.length cz]) (b:=w.heap.size+1+1) (by omega) wc 0 HC3.out.bel⟩
end Go.Proofs.YtfieffpobgcpmaaGreatDoor
