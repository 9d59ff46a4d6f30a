import Derived.Test.YtfieffpobgcpmaaGreatDoorEsMEsJEsNBgI
import Derived.Test.YtfieffpobgcpmaaGreatDoorBgDBgFBgGBgE
import Derived.Deep.RegionHeld3
import Derived.Test.YtfieffpobgcpmaaGreatDoorEsGBgCImplOneFrA
set_option maxRecDepth 100000
set_option maxHeartbeats 32000000
namespace Go.Proofs.YtfieffpobgcpmaaGreatDoor
open Go.RowKit
structure Fbu (w:World) (L:Nat) (c0x0 c0x1 c0x2 c1x0 c1x1 c1x2 c2x0 c2x1 c2x2 c3x0 c3x1 c3x2 c3x3 c3x4 c3x5 q0 q1 q2 q3 q4 q5:Value) (W:World):Prop where
 f:Fnt w c0x0 c0x1 c0x2 c1x0 c1x1 c1x2 c2x0 c2x1 c2x2 c3x0 c3x1 c3x2 c3x3 c3x4 c3x5 W
 y0:W.cell? ⟨L,0,none⟩=some q0
 y1:W.cell? ⟨L,1,none⟩=some q1
 y2:W.cell? ⟨L,2,none⟩=some q2
 y3:W.cell? ⟨L,3,none⟩=some q3
 y4:W.cell? ⟨L,4,none⟩=some q4
 y5:W.cell? ⟨L,5,none⟩=some q5
 lt:L<W.heap.size
 hL:w.heap.size+1+1+1+1≤L
theorem Fbu.later {w:World} {L:Nat} {c0x0 c0x1 c0x2 c1x0 c1x1 c1x2 c2x0 c2x1 c2x2 c3x0 c3x1 c3x2 c3x3 c3x4 c3x5 q0 q1 q2 q3 q4 q5:Value} {W W':World} (h:Fbu w L c0x0 c0x1 c0x2 c1x0 c1x1 c1x2 c2x0 c2x1 c2x2 c3x0 c3x1 c3x2 c3x3 c3x4 c3x5 q0 q1 q2 q3 q4 q5 W) (hb:Below W.heap.size W W'):Fbu w L c0x0 c0x1 c0x2 c1x0 c1x1 c1x2 c2x0 c2x1 c2x2 c3x0 c3x1 c3x2 c3x3 c3x4 c3x5 q0 q1 q2 q3 q4 q5 W':=
 ⟨h.f.later hb,((bcell hb).1 _ _ h.lt).trans h.y0,((bcell hb).1 _ _ h.lt).trans h.y1,((bcell hb).1 _ _ h.lt).trans h.y2,((bcell hb).1 _ _ h.lt).trans h.y3,((bcell hb).1 _ _ h.lt).trans h.y4,((bcell hb).1 _ _ h.lt).trans h.y5,Nat.lt_of_lt_of_le h.lt hb.size,h.hL⟩
theorem Fbu.start {w:World} {c0x0 c0x1 c0x2 c1x0 c1x1 c1x2 c2x0 c2x1 c2x2 c3x0 c3x1 c3x2 c3x3 c3x4 c3x5:Value} {W:World} (h:Fnt w c0x0 c0x1 c0x2 c1x0 c1x1 c1x2 c2x0 c2x1 c2x2 c3x0 c3x1 c3x2 c3x3 c3x4 c3x5 W) (q0 q1 q2 q3 q4 q5:Value) (t:TypeId):Fbu w W.heap.size c0x0 c0x1 c0x2 c1x0 c1x1 c1x2 c2x0 c2x1 c2x2 c3x0 c3x1 c3x2 c3x3 c3x4 c3x5 q0 q1 q2 q3 q4 q5 (W.alloc (.cells #[q0,q1,q2,q3,q4,q5] t)):=by
 refine ⟨h.later (bel0 _ _),?_,?_,?_,?_,?_,?_,by simp,h.le⟩
 all_goals simp [go_sem]
theorem Fbu.set3 {w:World} {L:Nat} {c0x0 c0x1 c0x2 c1x0 c1x1 c1x2 c2x0 c2x1 c2x2 c3x0 c3x1 c3x2 c3x3 c3x4 c3x5 q0 q1 q2 q3 q4 q5:Value} {W:World} (h:Fbu w L c0x0 c0x1 c0x2 c1x0 c1x1 c1x2 c2x0 c2x1 c2x2 c3x0 c3x1 c3x2 c3x3 c3x4 c3x5 q0 q1 q2 q3 q4 q5 W) (v0 v1 v2 v3 v4 v5:Value):Fbu w L c0x0 c0x1 c0x2 c1x0 c1x1 c1x2 c2x0 c2x1 c2x2 v0 v1 v2 v3 v4 v5 q0 q1 q2 q3 q4 q5 ((((((W.setCell ⟨w.heap.size+1+1+1,0,none⟩ v0).setCell ⟨w.heap.size+1+1+1,1,none⟩ v1).setCell ⟨w.heap.size+1+1+1,2,none⟩ v2).setCell ⟨w.heap.size+1+1+1,3,none⟩ v3).setCell ⟨w.heap.size+1+1+1,4,none⟩ v4).setCell ⟨w.heap.size+1+1+1,5,none⟩ v5):=by
 have hL:=h.hL
 have ne: ∀j i,(⟨w.heap.size+1+1+1,j,none⟩:Addr)≠⟨L,i,none⟩:=fun j i e=>by have:=congrArg Addr.block e;simp at this;omega
 refine ⟨h.f.set3 v0 v1 v2 v3 v4 v5,?_,?_,?_,?_,?_,?_,by simpa using h.lt,h.hL⟩
 ·rw [World.cell?_setCell_other _ _ _ _ (ne _ _),World.cell?_setCell_other _ _ _ _ (ne _ _),World.cell?_setCell_other _ _ _ _ (ne _ _),World.cell?_setCell_other _ _ _ _ (ne _ _),World.cell?_setCell_other _ _ _ _ (ne _ _),World.cell?_setCell_other _ _ _ _ (ne _ _)];exact h.y0
 ·rw [World.cell?_setCell_other _ _ _ _ (ne _ _),World.cell?_setCell_other _ _ _ _ (ne _ _),World.cell?_setCell_other _ _ _ _ (ne _ _),World.cell?_setCell_other _ _ _ _ (ne _ _),World.cell?_setCell_other _ _ _ _ (ne _ _),World.cell?_setCell_other _ _ _ _ (ne _ _)];exact h.y1
 ·rw [World.cell?_setCell_other _ _ _ _ (ne _ _),World.cell?_setCell_other _ _ _ _ (ne _ _),World.cell?_setCell_other _ _ _ _ (ne _ _),World.cell?_setCell_other _ _ _ _ (ne _ _),World.cell?_setCell_other _ _ _ _ (ne _ _),World.cell?_setCell_other _ _ _ _ (ne _ _)];exact h.y2
 ·rw [World.cell?_setCell_other _ _ _ _ (ne _ _),World.cell?_setCell_other _ _ _ _ (ne _ _),World.cell?_setCell_other _ _ _ _ (ne _ _),World.cell?_setCell_other _ _ _ _ (ne _ _),World.cell?_setCell_other _ _ _ _ (ne _ _),World.cell?_setCell_other _ _ _ _ (ne _ _)];exact h.y3
 ·rw [World.cell?_setCell_other _ _ _ _ (ne _ _),World.cell?_setCell_other _ _ _ _ (ne _ _),World.cell?_setCell_other _ _ _ _ (ne _ _),World.cell?_setCell_other _ _ _ _ (ne _ _),World.cell?_setCell_other _ _ _ _ (ne _ _),World.cell?_setCell_other _ _ _ _ (ne _ _)];exact h.y4
 ·rw [World.cell?_setCell_other _ _ _ _ (ne _ _),World.cell?_setCell_other _ _ _ _ (ne _ _),World.cell?_setCell_other _ _ _ _ (ne _ _),World.cell?_setCell_other _ _ _ _ (ne _ _),World.cell?_setCell_other _ _ _ _ (ne _ _),World.cell?_setCell_other _ _ _ _ (ne _ _)];exact h.y5
theorem Fbu.s {w:World} {L:Nat} {c0x0 c0x1 c0x2 c1x0 c1x1 c1x2 c2x0 c2x1 c2x2 c3x0 c3x1 c3x2 c3x3 c3x4 c3x5 q0 q1 q2 q3 q4 q5:Value} {w':World} (h:Fbu w L c0x0 c0x1 c0x2 c1x0 c1x1 c1x2 c2x0 c2x1 c2x2 c3x0 c3x1 c3x2 c3x3 c3x4 c3x5 q0 q1 q2 q3 q4 q5 w'):w'.cell? ⟨w.heap.size+1,0,none⟩=some c1x0∧w'.cell? ⟨w.heap.size+1,1,none⟩=some c1x1∧w'.cell? ⟨w.heap.size+1,2,none⟩=some c1x2∧w'.cell? ⟨w.heap.size+1+1,0,none⟩=some c2x0∧w'.cell? ⟨w.heap.size+1+1,1,none⟩=some c2x1∧w'.cell? ⟨w.heap.size+1+1,2,none⟩=some c2x2∧w'.cell? ⟨L,0,none⟩=some q0∧w'.cell? ⟨L,1,none⟩=some q1∧w'.cell? ⟨L,2,none⟩=some q2∧w'.cell? ⟨L,3,none⟩=some q3∧w'.cell? ⟨L,4,none⟩=some q4∧w'.cell? ⟨L,5,none⟩=some q5:=⟨h.f.e1x0,h.f.e1x1,h.f.e1x2,h.f.e2x0,h.f.e2x1,h.f.e2x2,h.y0,h.y1,h.y2,h.y3,h.y4,h.y5⟩
def AvA (k:Nat) (a:Option Addr) (n:Nat):Prop:=n=0∨ ∀b off,a=some ⟨b,off,none⟩→b≠k
def AvV (k:Nat) (v:Value):Prop:= ∀us,v= .agg us→ ∀(i:Nat) a n c,us[i]? =some (.slice a n c)→AvA k a n
def NewV (B:Nat) (v:Value):Prop:= ∀k,k<B→AvV k v
theorem NewV.mono {B B':Nat} {v:Value} (h:NewV B v) (hB:B'≤B):NewV B' v:=fun k hk=>h k (Nat.lt_of_lt_of_le hk hB)
theorem AvV.two {k:Nat} {g:Bool} {a:Option Addr} {n c:Nat} (h:AvA k a n):AvV k (.agg #[g,.slice a n c]):=by
 intro us he i a' n' c' hi
 cases he
 match i with
 |0=>simp at hi
 |1=>simp at hi;obtain ⟨rfl,rfl,rfl⟩:=hi;exact h
 |i+2=>simp at hi
theorem AvV.get {k:Nat} {us:Array Value} (h:AvV k (.agg us)) (i:Nat) {a:Option Addr} {n c:Nat} (hi:us[i]? =some (.slice a n c)):AvA k a n:=h us rfl i a n c hi
theorem AvV.six {k:Nat} {g1 g2 g3:Bool} {a1 a2 a3:Option Addr} {n1 n2 n3 c1 c2 c3:Nat} (h1:AvA k a1 n1) (h2:AvA k a2 n2) (h3:AvA k a3 n3):AvV k (.agg #[g1,.slice a1 n1 c1,g2,.slice a2 n2 c2,g3,.slice a3 n3 c3]):=by
 intro us he i a' n' c' hi
 cases he
 match i with
 |0=>simp at hi
 |1=>simp at hi;obtain ⟨rfl,rfl,rfl⟩:=hi;exact h1
 |2=>simp at hi
 |3=>simp at hi;obtain ⟨rfl,rfl,rfl⟩:=hi;exact h2
 |4=>simp at hi
 |5=>simp at hi;obtain ⟨rfl,rfl,rfl⟩:=hi;exact h3
 |i+6=>simp at hi
theorem AvV.four {k:Nat} {g1 g2:Bool} {a1 a2:Option Addr} {n1 n2 c1 c2:Nat} (h1:AvA k a1 n1) (h2:AvA k a2 n2):AvV k (.agg #[g1,.slice a1 n1 c1,g2,.slice a2 n2 c2]):=by
 intro us he i a' n' c' hi
 cases he
 match i with
 |0=>simp at hi
 |1=>simp at hi;obtain ⟨rfl,rfl,rfl⟩:=hi;exact h1
 |2=>simp at hi
 |3=>simp at hi;obtain ⟨rfl,rfl,rfl⟩:=hi;exact h2
 |i+4=>simp at hi
theorem AvV.eight {k:Nat} {g1 g2 g3 g4:Bool} {a1 a2 a3 a4:Option Addr} {n1 n2 n3 n4 c1 c2 c3 c4:Nat} (h1:AvA k a1 n1) (h2:AvA k a2 n2) (h3:AvA k a3 n3) (h4:AvA k a4 n4):AvV k (.agg #[g1,.slice a1 n1 c1,g2,.slice a2 n2 c2,g3,.slice a3 n3 c3,g4,.slice a4 n4 c4]):=by
 intro us he i a' n' c' hi
 cases he
 match i with
 |0=>simp at hi
 |1=>simp at hi;obtain ⟨rfl,rfl,rfl⟩:=hi;exact h1
 |2=>simp at hi
 |3=>simp at hi;obtain ⟨rfl,rfl,rfl⟩:=hi;exact h2
 |4=>simp at hi
 |5=>simp at hi;obtain ⟨rfl,rfl,rfl⟩:=hi;exact h3
 |6=>simp at hi
 |7=>simp at hi;obtain ⟨rfl,rfl,rfl⟩:=hi;exact h4
 |i+8=>simp at hi
theorem NewV.six {B:Nat} {g1 g2 g3:Bool} {a1 a2 a3:Option Addr} {n1 n2 n3 c1 c2 c3:Nat} (h1:NewV B (.agg #[g1,.slice a1 n1 c1])) (h2:NewV B (.agg #[g2,.slice a2 n2 c2])) (h3:NewV B (.agg #[g3,.slice a3 n3 c3])):NewV B (.agg #[g1,.slice a1 n1 c1,g2,.slice a2 n2 c2,g3,.slice a3 n3 c3]):=
 fun k hk=>AvV.six ((h1 k hk).get 1 rfl) ((h2 k hk).get 1 rfl) ((h3 k hk).get 1 rfl)
theorem AvA.nil (k:Nat) (a:Option Addr):AvA k a 0:= .inl rfl
theorem BigIs.setAv {w:World} {v:Value} {e:Nat} {x:Int} {k i:Nat} {u:Value} (h:BigIs w v e x) (hn:AvV k v):BigIs (w.setCell ⟨k,i,none⟩ u) v e x:=by
 obtain ⟨g,a,c,zs,rfl,h1,h2,h3⟩:=h
 refine ⟨g,a,c,zs,rfl,h1,h2,?_⟩
 rcases h3 with h3| ⟨q,off,rfl,hq,hc⟩
 ·exact .inl h3
 ·rcases hn.get 1 rfl with hz|hz
  ·exact .inl (List.eq_nil_of_length_eq_zero hz)
  ·refine .inr ⟨q,off,rfl,by simpa using hq,fun j hj=> ?_⟩
   rw [World.cell?_setCell_other _ _ _ _ (by intro hh;apply hz q off rfl;have:=congrArg Addr.block hh;simp at this;exact this.symm)]
   exact hc j hj
theorem BigIs.setAllAv {v:Value} {e:Nat} {x:Int} {k:Nat} (hn:AvV k v): ∀(us:List Value) (w:World) (i:Nat),BigIs w v e x→BigIs (Go.Proofs.YtfieffpobgcpmaaGreatDoor.setAll w k i us) v e x
 | [],_,_,h=>h
 |_::us,_,i,h=>BigIs.setAllAv hn us _ (i+1) (h.setAv hn)
def BigNewOut (w:World) (e:Nat) (x:Int) (o:Ending) (w':World):Prop:= ∃v,o= .returned v∧BigIs w' v e x∧Below w.heap.size w w'∧NewV w.heap.size v
def VecNewOut (w:World) (e:Nat) (A B C:Int) (o:Ending) (w':World):Prop:= ∃v,o= .returned v∧VecB w' v e A B C∧Below w.heap.size w w'∧NewV w.heap.size v
theorem BigNewOut.of {w:World} {e n:Nat} {x:Int} {o:Ending} {w':World} (hm:Mg e x) (h:BigOut w x n o w'):BigNewOut w e x o w':=by
 obtain ⟨g,a,c,fs,rfl,h1,hc,h2,h3⟩:=h
 refine ⟨_,rfl,⟨g,a,c,fs,rfl,h1,⟨hm,hc.2⟩,h2.row⟩,h3,fun k hk=>AvV.two ?_⟩
 rcases h2 with rfl| ⟨b,off,rfl,hb,_⟩
 ·exact .inl rfl
 ·refine .inr fun b' off' he=> ?_
  have:=congrArg (fun a:Option Addr=>a.map Addr.block) he
  simp at this
  omega
theorem plusN_any (u v:Value) (e:Nat) (x y:Int) (w:World) (he:e≤3000) (hu:BigIs w u e x) (hv:BigIs w v e y):
 Calls Tryz.prog 200 #[u,v] w fun o w'=>BigNewOut w (e+1) (x+y) o w':=by
 obtain ⟨g,a,c,zs,rfl,h1,h2,h3⟩:=hu
 obtain ⟨g',a',c',ys,rfl,h1',h2',h3'⟩:=hv
 have:=limbs_le h1 h2.1 he
 have:=limbs_le h1' h2'.1 he
 exact (sumOf_any g g' a a' c c' zs ys x y w (by omega) (by omega) h3 h3' h1 h1').mono fun _ _ h=> .of (h2.1.add h2'.1) h
theorem minusN_any (u v:Value) (e:Nat) (x y:Int) (w:World) (he:e≤3000) (hu:BigIs w u e x) (hv:BigIs w v e y):
 Calls Tryz.prog 199 #[u,v] w fun o w'=>BigNewOut w (e+1) (x-y) o w':=by
 obtain ⟨g,a,c,zs,rfl,h1,h2,h3⟩:=hu
 obtain ⟨g',a',c',ys,rfl,h1',h2',h3'⟩:=hv
 have:=limbs_le h1 h2.1 he
 have:=limbs_le h1' h2'.1 he
 exact (minusB_any g g' a a' c c' zs ys x y w (by omega) (by omega) h3 h3' h1 h1').mono fun _ _ h=> .of (h2.1.sub h2'.1) h
theorem timesN_any (u v:Value) (e f:Nat) (x y:Int) (w:World) (he:e+f≤3000) (hu:BigIs w u e x) (hv:BigIs w v f y):
 Calls Tryz.prog 53 #[u,v] w fun o w'=>BigNewOut w (e+f) (x*y) o w':=by
 obtain ⟨g,a,c,zs,rfl,h1,h2,h3⟩:=hu
 obtain ⟨g',a',c',ys,rfl,h1',h2',h3'⟩:=hv
 have:=limbs_le h1 h2.1 (by omega)
 have:=limbs_le h1' h2'.1 (by omega)
 exact (productOf_any g g' a a' c c' zs ys x y w (by omega) (by omega) h3 h3' h1 h1').mono fun _ _ h=> .of (h2.1.mul h2'.1) h
theorem oneN_any (w:World):Calls Tryz.prog 79 #[] w fun o w'=>BigNewOut w 0 1 o w':=by
 refine (one_any w).mono ?_
 rintro o w' ⟨b,rfl,h1,h2,h3,hb⟩
 refine ⟨_,rfl,⟨false,some ⟨b,0,none⟩,1,[1],rfl,⟨⟨Dig.cons (by decide) (by decide) (Dig.nil _),by decide⟩,by decide,fun h=>by cases h⟩,⟨⟨by decide,by decide⟩,by simp,by unfold maxLen;omega⟩,Or.inr ⟨b,0,rfl,h2,?_⟩⟩,hb,fun k hk=>AvV.two (.inr fun b' off' he=> ?_)⟩
 ·intro j hj
  have:j=0:=by simp at hj;omega
  subst this
  exact h3
 ·have:=congrArg (fun a:Option Addr=>a.map Addr.block) he
  simp at this
  omega
theorem negA_any (u:Value) (e:Nat) (x:Int) (w:World) (hu:BigIs w u e x):
 Calls Tryz.prog 130 #[u] w fun o w'=> ∃v,o= .returned v∧BigIs w' v e (-x)∧Below w.heap.size w w'∧ ∀k,AvV k u→AvV k v:=by
 obtain ⟨g,a,c,zs,rfl,h1,h2,h3⟩:=hu
 refine (negB_any g a zs.length c w).mono ?_
 rintro o w' ⟨rfl,hb⟩
 exact ⟨_,rfl,⟨_,a,c,zs,rfl,h1.neg,⟨h2.1.neg,h2.2⟩,h3.later hb⟩,hb,fun k h=>AvV.two (h.get 1 rfl)⟩
def FracOutA (w:World) (e:Nat) (p q:Int) (u v:Value) (o:Ending) (w':World):Prop:= ∃f,o= .returned f∧FracIs w' f e p q∧Below w.heap.size w w'∧ ∀k,AvV k u→AvV k v→AvV k f
structure Frt (w:World) (m0 m1 n0 n1 p0 p1 p2 p3:Value) (W:World):Prop where
 e0x0:W.cell? ⟨w.heap.size,0,none⟩=some m0
 e0x1:W.cell? ⟨w.heap.size,1,none⟩=some m1
 f0: ∀j,W.frozen? ⟨w.heap.size,j,none⟩=false
 e1x0:W.cell? ⟨w.heap.size+1,0,none⟩=some n0
 e1x1:W.cell? ⟨w.heap.size+1,1,none⟩=some n1
 f1: ∀j,W.frozen? ⟨w.heap.size+1,j,none⟩=false
 e2x0:W.cell? ⟨w.heap.size+1+1,0,none⟩=some p0
 e2x1:W.cell? ⟨w.heap.size+1+1,1,none⟩=some p1
 e2x2:W.cell? ⟨w.heap.size+1+1,2,none⟩=some p2
 e2x3:W.cell? ⟨w.heap.size+1+1,3,none⟩=some p3
 f2: ∀j,W.frozen? ⟨w.heap.size+1+1,j,none⟩=false
 le:w.heap.size+1+1+1≤W.heap.size
 bel:Below w.heap.size w W
theorem Frt.start (w:World) (m0 m1 n0 n1 p0 p1 p2 p3:Value) (t0 t1 t2:TypeId):Frt w m0 m1 n0 n1 p0 p1 p2 p3 (((w.alloc (.cells #[m0,m1] t0)).alloc (.cells #[n0,n1] t1)).alloc (.cells #[p0,p1,p2,p3] t2)):=by
 constructor<;>first|exact (((bel0 _ _).trans ((bel0 _ _).mono (by simp<;>omega))).trans ((bel0 _ _).mono (by simp<;>omega)))|simp [go_sem]
theorem Frt.later {w:World} {m0 m1 n0 n1 p0 p1 p2 p3:Value} {W W':World} (h:Frt w m0 m1 n0 n1 p0 p1 p2 p3 W) (hb:Below W.heap.size W W'):Frt w m0 m1 n0 n1 p0 p1 p2 p3 W':=by
 have q:=h.le
 have z:=h.bel.trans (hb.mono h.bel.size)
 cases h
 constructor<;>first|exact ((bcell hb).1 _ _ (by omega)).trans (by with_reducible assumption)|exact z|exact Nat.le_trans q hb.size| (intro j;exact ((bcell hb).2 _ _ (by omega)).trans (by apply_assumption))
theorem Frt.set2 {w:World} {m0 m1 n0 n1 p0 p1 p2 p3:Value} {W:World} (h:Frt w m0 m1 n0 n1 p0 p1 p2 p3 W) (v0 v1 v2 v3:Value):Frt w m0 m1 n0 n1 v0 v1 v2 v3 ((((W.setCell ⟨w.heap.size+1+1,0,none⟩ v0).setCell ⟨w.heap.size+1+1,1,none⟩ v1).setCell ⟨w.heap.size+1+1,2,none⟩ v2).setCell ⟨w.heap.size+1+1,3,none⟩ v3):=by
 have hle:=h.le
 constructor<;>first|exact ((((h.bel.setCell (by simp<;>omega) _).setCell (by simp<;>omega) _).setCell (by simp<;>omega) _).setCell (by simp<;>omega) _)| (cases h;simp [go_sem, *])
theorem Frt.s {w:World} {m0 m1 n0 n1 p0 p1 p2 p3:Value} {w':World} (h:Frt w m0 m1 n0 n1 p0 p1 p2 p3 w'):w'.cell? ⟨w.heap.size,0,none⟩=some m0∧w'.cell? ⟨w.heap.size,1,none⟩=some m1∧w'.cell? ⟨w.heap.size+1,0,none⟩=some n0∧w'.cell? ⟨w.heap.size+1,1,none⟩=some n1:=⟨h.e0x0,h.e0x1,h.e1x0,h.e1x1⟩
theorem ratioP_any (u v:Value) (e:Nat) (x y:Int) (w:World) (hu:BigIs w u e x) (hv:BigIs w v e y) (hy:0≤y):
 Calls Tryz.prog 83 #[u,v] w fun o w'=>FracOutA w e x y u v o w':=by
 have hk:=hu
 have hl:=hv
 obtain ⟨gu,au,cu,zu,rfl,_,_,_⟩:=hu
 obtain ⟨gv,av,cv,zv,rfl,_,_,_⟩:=hv
 have hg:=hl.neg_iff
 rw [decide_eq_false (by omega)] at hg
 subst hg
 go_enter Tryz.func83,Tryz.ntmps83
 go_wp2
 refine bodyPost_ret (v:= .agg #[gu,.slice au zu.length cu,false,.slice av zv.length cv]) (by simp [results,Tryz.results83,go_sem]) rfl ?_
 refine ⟨_,rfl,⟨gu,au,cu,zu,false,av,cv,zv,rfl,hk.later ?_,hl.later ?_⟩,?_,fun k h1 h2=>AvV.four (h1.get 1 rfl) (h2.get 1 rfl)⟩
 all_goals exact (Frt.start w _ _ _ _ _ _ _ _ _ _ _).bel
theorem ratioN_any (u v:Value) (e:Nat) (x y:Int) (w:World) (hu:BigIs w u e x) (hv:BigIs w v e y) (hy:y<0):
 Calls Tryz.prog 83 #[u,v] w fun o w'=>FracOutA w e (-x) (-y) u v o w':=by
 have hk:=hu
 have hl:=hv
 obtain ⟨gu,au,cu,zu,rfl,_,_,_⟩:=hu
 obtain ⟨gv,av,cv,zv,rfl,_,_,_⟩:=hv
 have hg:=hl.neg_iff
 rw [decide_eq_true hy] at hg
 subst hg
 go_enter Tryz.func83,Tryz.ntmps83
 go_wp2_with fail
 obtain ⟨W0,hW0⟩: ∃V0,V0=(((w.alloc (.cells #[gu,.slice au zu.length cu] 31)).alloc (.cells #[true,.slice av zv.length cv] 31)).alloc (.cells #[false,(),false,()] 81)):=⟨_,rfl⟩
 rw [←hW0]
 have FR:Hid (Frt w gu (.slice au zu.length cu) true (.slice av zv.length cv) false () false () W0):=by rw [hW0];exact Frt.start w _ _ _ _ _ _ _ _ _ _ _
 have HNI:Hid (NoInt W0 (w.heap.size+1+1)):=by
  have hz: ∀(i:Nat) (k:IntKind) (m:Int),(#[↑false,↑(),↑false,↑()]:Array Value)[i]? ≠some (Value.int k m):=by
   intro i k m
   match i with|0=>simp|1=>simp|2=>simp|3=>simp|n+4=>simp
  have h1:=NoInt.new ((w.alloc (.cells #[gu,.slice au zu.length cu] 31)).alloc (.cells #[true,.slice av zv.length cv] 31)) #[false,(),false,()] 81 hz
  have hs:((w.alloc (.cells #[gu,.slice au zu.length cu] 31)).alloc (.cells #[true,.slice av zv.length cv] 31)).heap.size=w.heap.size+1+1:=by simp
  rw [hs] at h1
  unfold Hid;rw [hW0];exact h1
 clear hW0
 have RU_0:=(hk.later FR.out.bel).later (w':=W0.drew) (Below.refl _ _).drew
 have RV_0:=(hl.later FR.out.bel).later (w':=W0.drew) (Below.refl _ _).drew
 have NI_0:=HNI.out.later (w':=W0.drew) (Below.refl _ _).drew
 have F0:Frt w gu (.slice au zu.length cu) true (.slice av zv.length cv) false () false () W0.drew:=FR.out.later (Below.refl _ _).drew
 go_region_held3 (fun w'=>w'.cell? ⟨w.heap.size,0,none⟩=some ↑gu∧w'.cell? ⟨w.heap.size,1,none⟩=some (.slice au zu.length cu)∧w'.cell? ⟨w.heap.size+1,0,none⟩=some ↑true∧w'.cell? ⟨w.heap.size+1,1,none⟩=some (.slice av zv.length cv))
  (first|with_reducible exact (F2.set2 _ _ _ _).s|with_reducible exact Frt.s (by with_reducible assumption))
  (first
   |(have hBB:=hB1;clear hBB;go_at_call 130;refine (negA_any _ e y _ RV_1).mono ?_;rintro o w2 ⟨v2,rfl,hv2,hb2,hn2⟩;have HNW2:Hid (∀k,AvV k _→AvV k v2):=hn2;clear hn2;have R2_2:BigIs w2 v2 e (-y):=hv2;obtain ⟨gr2,ar2,cr2,zr2,rfl,_,_,_⟩:=hv2;have RU_2:=RU_1.later hb2;have RV_2:=RV_1.later hb2;have NI_2:=NI_1.later hb2;have R1_2:=R1_1.later hb2;have hB2:Below W0.heap.size W0 w2:=hB1.trans (hb2.mono hB1.size);have F2:Frt w gu (.slice au zu.length cu) true (.slice av zv.length cv) false () false () w2:=FR.out.later hB2;have r0:=F2.e2x0;have r1:=F2.e2x1;have r2:=F2.e2x2;have r3:=F2.e2x3;have rz:=F2.f2)
   |(go_at_call 130;refine (negA_any _ e x _ RU_0).mono ?_;rintro o w1 ⟨v1,rfl,hv1,hb1,hn1⟩;have HNW1:Hid (∀k,AvV k _→AvV k v1):=hn1;clear hn1;have R1_1:BigIs w1 v1 e (-x):=hv1;obtain ⟨gr1,ar1,cr1,zr1,rfl,_,_,_⟩:=hv1;have RU_1:=RU_0.later hb1;have RV_1:=RV_0.later hb1;have NI_1:=NI_0.later hb1;have hB1:Below W0.heap.size W0 w1:=(Below.refl _ _).drew.trans hb1;have F1:Frt w gu (.slice au zu.length cu) true (.slice av zv.length cv) false () false () w1:=FR.out.later hB1))
 have HF:Hid (Frt w gu (.slice au zu.length cu) true (.slice av zv.length cv) false () false () w2):=F2
 have HR1:Hid (BigIs w2 (.agg #[gr1,.slice ar1 zr1.length cr1]) e (-x)):=R1_2
 have HR2:Hid (BigIs w2 (.agg #[gr2,.slice ar2 zr2.length cr2]) e (-y)):=R2_2
 have HNN:Hid (NoInt w2 (w.heap.size+1+1)):=NI_2
 clear hB1 hb1 F1 hB2 hb2 F2 RU_0 RU_1 RU_2 RV_0 RV_1 RV_2 NI_0 NI_1 NI_2 R1_1 R1_2 R2_2 F0
 go_wp2
 refine bodyPost_ret (v:= .agg #[gr1,.slice ar1 zr1.length cr1,gr2,.slice ar2 zr2.length cr2]) (by simp [results,Tryz.results83,go_sem,r0,r1,r2,r3]) rfl ?_
 refine ⟨_,rfl,⟨gr1,ar1,cr1,zr1,gr2,ar2,cr2,zr2,rfl,HR1.out.setAll [gr1,.slice ar1 zr1.length cr1,gr2,.slice ar2 zr2.length cr2] _ 0 HNN.out (by simp [NotInt]),HR2.out.setAll [gr1,.slice ar1 zr1.length cr1,gr2,.slice ar2 zr2.length cr2] _ 0 HNN.out (by simp [NotInt])⟩,(HF.out.set2 _ _ _ _).bel,fun k h1 h2=>AvV.four ((HNW1.out k h1).get 1 rfl) ((HNW2.out k h2).get 1 rfl)⟩
theorem ratio_any (u v:Value) (e:Nat) (x y:Int) (w:World) (hu:BigIs w u e x) (hv:BigIs w v e y):
 Calls Tryz.prog 83 #[u,v] w fun o w'=>FracOutA w e (if y<0 then-x else x) (if y<0 then-y else y) u v o w':=by
 by_cases hy:y<0
 ·rw [if_pos hy,if_pos hy];exact ratioN_any u v e x y w hu hv hy
 ·rw [if_neg hy,if_neg hy];exact ratioP_any u v e x y w hu hv (by omega)
end Go.Proofs.YtfieffpobgcpmaaGreatDoor
