import Derived.Test.YtfieffpobgcpmaaGreatDoorDyN2ToEsF
import Derived.Deep.RegionHeld3
import Derived.Test.YtfieffpobgcpmaaGreatDoorEsEToImplC0
import Derived.Test.YtfieffpobgcpmaaGreatDoorImplNgImplNNumMImplM
set_option maxRecDepth 100000
set_option maxHeartbeats 32000000
namespace Go.Proofs.YtfieffpobgcpmaaGreatDoor
open Go.RowKit
open Fl (IsF Nr BoundIs Summed absI Est)
theorem EstIs.up {v:Value} {k e e':Nat} {A:Int} (h:EstIs v k e A) (he:e≤e'):EstIs v k e' A:=by
 obtain ⟨x,y,a,b,rfl,hx,hy,hE⟩:=h
 exact ⟨x,y,a,b,rfl,hx,hy,hE.up he⟩
abbrev VS626 (w:World) (p0 p1 p2 p3 p4 p5 q0 q1:Value) (W w':World):Prop:=w'.cell? ⟨w.heap.size,0,none⟩=some p0∧w'.cell? ⟨w.heap.size,1,none⟩=some p1∧w'.cell? ⟨w.heap.size,2,none⟩=some p2∧w'.cell? ⟨w.heap.size,3,none⟩=some p3∧w'.cell? ⟨w.heap.size,4,none⟩=some p4∧w'.cell? ⟨w.heap.size,5,none⟩=some p5∧w'.cell? ⟨w.heap.size+1,0,none⟩=some q0∧w'.cell? ⟨w.heap.size+1,1,none⟩=some q1∧Below (w.heap.size+1+1) W w'
theorem VS626.on {w W W' w':World} {p0 p1 p2 p3 p4 p5 q0 q1:Value} (h:VS626 w p0 p1 p2 p3 p4 p5 q0 q1 W W') (hb:Below (w.heap.size+1+1) W' w'):VS626 w p0 p1 p2 p3 p4 p5 q0 q1 W w':=by
 obtain ⟨a0,a1,a2,a3,a4,a5,b0,b1,hB⟩:=h
 exact ⟨(hb.cell (by simp;omega)).trans a0,(hb.cell (by simp;omega)).trans a1,(hb.cell (by simp;omega)).trans a2,(hb.cell (by simp;omega)).trans a3,(hb.cell (by simp;omega)).trans a4,(hb.cell (by simp;omega)).trans a5,(hb.cell (by simp)).trans b0,(hb.cell (by simp)).trans b1,hB.trans hb⟩
theorem VS626.set {w W w':World} {p0 p1 p2 p3 p4 p5 q0 q1:Value} (h:VS626 w p0 p1 p2 p3 p4 p5 q0 q1 W w') (v0 v1 v2 v3 v4 v5:Value):VS626 w p0 p1 p2 p3 p4 p5 q0 q1 W ((((((w'.setCell ⟨w.heap.size+1+1,0,none⟩ v0).setCell ⟨w.heap.size+1+1,1,none⟩ v1).setCell ⟨w.heap.size+1+1,2,none⟩ v2).setCell ⟨w.heap.size+1+1,3,none⟩ v3).setCell ⟨w.heap.size+1+1,4,none⟩ v4).setCell ⟨w.heap.size+1+1,5,none⟩ v5):=
 h.on (((((((Below.refl _ _).setCell (by simp) _).setCell (by simp) _).setCell (by simp) _).setCell (by simp) _).setCell (by simp) _).setCell (by simp) _)
structure VF626 (w:World) (p0 p1 p2 p3 p4 p5 q0 q1 z0 z1 z2 z3 z4 z5:Value) (W:World):Prop where
 s:VS626 w p0 p1 p2 p3 p4 p5 q0 q1 W W
 r0:W.cell? ⟨w.heap.size+1+1,0,none⟩=some z0
 r1:W.cell? ⟨w.heap.size+1+1,1,none⟩=some z1
 r2:W.cell? ⟨w.heap.size+1+1,2,none⟩=some z2
 r3:W.cell? ⟨w.heap.size+1+1,3,none⟩=some z3
 r4:W.cell? ⟨w.heap.size+1+1,4,none⟩=some z4
 r5:W.cell? ⟨w.heap.size+1+1,5,none⟩=some z5
 fz: ∀j,W.frozen? ⟨w.heap.size+1+1,j,none⟩=false
 le:w.heap.size+1+1+1≤W.heap.size
 bel:Below w.heap.size w W
theorem VF626.start (w:World) (p0 p1 p2 p3 p4 p5 q0 q1 z0 z1 z2 z3 z4 z5:Value) (t t' t2:TypeId):VF626 w p0 p1 p2 p3 p4 p5 q0 q1 z0 z1 z2 z3 z4 z5 (((w.alloc (.cells #[p0,p1,p2,p3,p4,p5] t)).alloc (.cells #[q0,q1] t')).alloc (.cells #[z0,z1,z2,z3,z4,z5] t2)):=by
 refine ⟨⟨?_,?_,?_,?_,?_,?_,?_,?_,Below.refl _ _⟩,?_,?_,?_,?_,?_,?_,fun j=> ?_,?_,(bel2 _ _ _).trans ((bel0 _ _).mono (by simp;omega))⟩
 all_goals simp [go_sem]
theorem VF626.later {w:World} {p0 p1 p2 p3 p4 p5 q0 q1 z0 z1 z2 z3 z4 z5:Value} {W W':World} (h:VF626 w p0 p1 p2 p3 p4 p5 q0 q1 z0 z1 z2 z3 z4 z5 W) (hb:Below W.heap.size W W'):VF626 w p0 p1 p2 p3 p4 p5 q0 q1 z0 z1 z2 z3 z4 z5 W':=by
 have hle:=h.le
 obtain ⟨a0,a1,a2,a3,a4,a5,b0,b1,_⟩:=h.s.on (hb.mono (by omega))
 exact ⟨⟨a0,a1,a2,a3,a4,a5,b0,b1,Below.refl _ _⟩,(hb.cell (by simp;omega)).trans h.r0,(hb.cell (by simp;omega)).trans h.r1,(hb.cell (by simp;omega)).trans h.r2,(hb.cell (by simp;omega)).trans h.r3,(hb.cell (by simp;omega)).trans h.r4,(hb.cell (by simp;omega)).trans h.r5,fun j=>(hb.frozen (by simp;omega)).trans (h.fz j),Nat.le_trans h.le hb.size,h.bel.trans (hb.mono (by omega))⟩
abbrev VS666 (w:World) (p0 p1 p2 p3 p4 p5 q0 q1 q2 q3 q4 q5:Value) (W w':World):Prop:=w'.cell? ⟨w.heap.size,0,none⟩=some p0∧w'.cell? ⟨w.heap.size,1,none⟩=some p1∧w'.cell? ⟨w.heap.size,2,none⟩=some p2∧w'.cell? ⟨w.heap.size,3,none⟩=some p3∧w'.cell? ⟨w.heap.size,4,none⟩=some p4∧w'.cell? ⟨w.heap.size,5,none⟩=some p5∧w'.cell? ⟨w.heap.size+1,0,none⟩=some q0∧w'.cell? ⟨w.heap.size+1,1,none⟩=some q1∧w'.cell? ⟨w.heap.size+1,2,none⟩=some q2∧w'.cell? ⟨w.heap.size+1,3,none⟩=some q3∧w'.cell? ⟨w.heap.size+1,4,none⟩=some q4∧w'.cell? ⟨w.heap.size+1,5,none⟩=some q5∧Below (w.heap.size+1+1) W w'
theorem VS666.on {w W W' w':World} {p0 p1 p2 p3 p4 p5 q0 q1 q2 q3 q4 q5:Value} (h:VS666 w p0 p1 p2 p3 p4 p5 q0 q1 q2 q3 q4 q5 W W') (hb:Below (w.heap.size+1+1) W' w'):VS666 w p0 p1 p2 p3 p4 p5 q0 q1 q2 q3 q4 q5 W w':=by
 obtain ⟨a0,a1,a2,a3,a4,a5,b0,b1,b2,b3,b4,b5,hB⟩:=h
 exact ⟨(hb.cell (by simp;omega)).trans a0,(hb.cell (by simp;omega)).trans a1,(hb.cell (by simp;omega)).trans a2,(hb.cell (by simp;omega)).trans a3,(hb.cell (by simp;omega)).trans a4,(hb.cell (by simp;omega)).trans a5,(hb.cell (by simp)).trans b0,(hb.cell (by simp)).trans b1,(hb.cell (by simp)).trans b2,(hb.cell (by simp)).trans b3,(hb.cell (by simp)).trans b4,(hb.cell (by simp)).trans b5,hB.trans hb⟩
theorem VS666.set {w W w':World} {p0 p1 p2 p3 p4 p5 q0 q1 q2 q3 q4 q5:Value} (h:VS666 w p0 p1 p2 p3 p4 p5 q0 q1 q2 q3 q4 q5 W w') (v0 v1 v2 v3 v4 v5:Value):VS666 w p0 p1 p2 p3 p4 p5 q0 q1 q2 q3 q4 q5 W ((((((w'.setCell ⟨w.heap.size+1+1,0,none⟩ v0).setCell ⟨w.heap.size+1+1,1,none⟩ v1).setCell ⟨w.heap.size+1+1,2,none⟩ v2).setCell ⟨w.heap.size+1+1,3,none⟩ v3).setCell ⟨w.heap.size+1+1,4,none⟩ v4).setCell ⟨w.heap.size+1+1,5,none⟩ v5):=
 h.on (((((((Below.refl _ _).setCell (by simp) _).setCell (by simp) _).setCell (by simp) _).setCell (by simp) _).setCell (by simp) _).setCell (by simp) _)
structure VF666 (w:World) (p0 p1 p2 p3 p4 p5 q0 q1 q2 q3 q4 q5 z0 z1 z2 z3 z4 z5:Value) (W:World):Prop where
 s:VS666 w p0 p1 p2 p3 p4 p5 q0 q1 q2 q3 q4 q5 W W
 r0:W.cell? ⟨w.heap.size+1+1,0,none⟩=some z0
 r1:W.cell? ⟨w.heap.size+1+1,1,none⟩=some z1
 r2:W.cell? ⟨w.heap.size+1+1,2,none⟩=some z2
 r3:W.cell? ⟨w.heap.size+1+1,3,none⟩=some z3
 r4:W.cell? ⟨w.heap.size+1+1,4,none⟩=some z4
 r5:W.cell? ⟨w.heap.size+1+1,5,none⟩=some z5
 fz: ∀j,W.frozen? ⟨w.heap.size+1+1,j,none⟩=false
 le:w.heap.size+1+1+1≤W.heap.size
 bel:Below w.heap.size w W
theorem VF666.start (w:World) (p0 p1 p2 p3 p4 p5 q0 q1 q2 q3 q4 q5 z0 z1 z2 z3 z4 z5:Value) (t t' t2:TypeId):VF666 w p0 p1 p2 p3 p4 p5 q0 q1 q2 q3 q4 q5 z0 z1 z2 z3 z4 z5 (((w.alloc (.cells #[p0,p1,p2,p3,p4,p5] t)).alloc (.cells #[q0,q1,q2,q3,q4,q5] t')).alloc (.cells #[z0,z1,z2,z3,z4,z5] t2)):=by
 refine ⟨⟨?_,?_,?_,?_,?_,?_,?_,?_,?_,?_,?_,?_,Below.refl _ _⟩,?_,?_,?_,?_,?_,?_,fun j=> ?_,?_,(bel2 _ _ _).trans ((bel0 _ _).mono (by simp;omega))⟩
 all_goals simp [go_sem]
theorem VF666.later {w:World} {p0 p1 p2 p3 p4 p5 q0 q1 q2 q3 q4 q5 z0 z1 z2 z3 z4 z5:Value} {W W':World} (h:VF666 w p0 p1 p2 p3 p4 p5 q0 q1 q2 q3 q4 q5 z0 z1 z2 z3 z4 z5 W) (hb:Below W.heap.size W W'):VF666 w p0 p1 p2 p3 p4 p5 q0 q1 q2 q3 q4 q5 z0 z1 z2 z3 z4 z5 W':=by
 have hle:=h.le
 obtain ⟨a0,a1,a2,a3,a4,a5,b0,b1,b2,b3,b4,b5,_⟩:=h.s.on (hb.mono (by omega))
 exact ⟨⟨a0,a1,a2,a3,a4,a5,b0,b1,b2,b3,b4,b5,Below.refl _ _⟩,(hb.cell (by simp;omega)).trans h.r0,(hb.cell (by simp;omega)).trans h.r1,(hb.cell (by simp;omega)).trans h.r2,(hb.cell (by simp;omega)).trans h.r3,(hb.cell (by simp;omega)).trans h.r4,(hb.cell (by simp;omega)).trans h.r5,fun j=>(hb.frozen (by simp;omega)).trans (h.fz j),Nat.le_trans h.le hb.size,h.bel.trans (hb.mono (by omega))⟩
abbrev VS662 (w:World) (p0 p1 p2 p3 p4 p5 q0 q1 q2 q3 q4 q5:Value) (W w':World):Prop:=w'.cell? ⟨w.heap.size,0,none⟩=some p0∧w'.cell? ⟨w.heap.size,1,none⟩=some p1∧w'.cell? ⟨w.heap.size,2,none⟩=some p2∧w'.cell? ⟨w.heap.size,3,none⟩=some p3∧w'.cell? ⟨w.heap.size,4,none⟩=some p4∧w'.cell? ⟨w.heap.size,5,none⟩=some p5∧w'.cell? ⟨w.heap.size+1,0,none⟩=some q0∧w'.cell? ⟨w.heap.size+1,1,none⟩=some q1∧w'.cell? ⟨w.heap.size+1,2,none⟩=some q2∧w'.cell? ⟨w.heap.size+1,3,none⟩=some q3∧w'.cell? ⟨w.heap.size+1,4,none⟩=some q4∧w'.cell? ⟨w.heap.size+1,5,none⟩=some q5∧Below (w.heap.size+1+1) W w'
theorem VS662.on {w W W' w':World} {p0 p1 p2 p3 p4 p5 q0 q1 q2 q3 q4 q5:Value} (h:VS662 w p0 p1 p2 p3 p4 p5 q0 q1 q2 q3 q4 q5 W W') (hb:Below (w.heap.size+1+1) W' w'):VS662 w p0 p1 p2 p3 p4 p5 q0 q1 q2 q3 q4 q5 W w':=by
 obtain ⟨a0,a1,a2,a3,a4,a5,b0,b1,b2,b3,b4,b5,hB⟩:=h
 exact ⟨(hb.cell (by simp;omega)).trans a0,(hb.cell (by simp;omega)).trans a1,(hb.cell (by simp;omega)).trans a2,(hb.cell (by simp;omega)).trans a3,(hb.cell (by simp;omega)).trans a4,(hb.cell (by simp;omega)).trans a5,(hb.cell (by simp)).trans b0,(hb.cell (by simp)).trans b1,(hb.cell (by simp)).trans b2,(hb.cell (by simp)).trans b3,(hb.cell (by simp)).trans b4,(hb.cell (by simp)).trans b5,hB.trans hb⟩
theorem VS662.set {w W w':World} {p0 p1 p2 p3 p4 p5 q0 q1 q2 q3 q4 q5:Value} (h:VS662 w p0 p1 p2 p3 p4 p5 q0 q1 q2 q3 q4 q5 W w') (v0 v1:Value):VS662 w p0 p1 p2 p3 p4 p5 q0 q1 q2 q3 q4 q5 W ((w'.setCell ⟨w.heap.size+1+1,0,none⟩ v0).setCell ⟨w.heap.size+1+1,1,none⟩ v1):=
 h.on (((Below.refl _ _).setCell (by simp) _).setCell (by simp) _)
structure VF662 (w:World) (p0 p1 p2 p3 p4 p5 q0 q1 q2 q3 q4 q5 z0 z1:Value) (W:World):Prop where
 s:VS662 w p0 p1 p2 p3 p4 p5 q0 q1 q2 q3 q4 q5 W W
 r0:W.cell? ⟨w.heap.size+1+1,0,none⟩=some z0
 r1:W.cell? ⟨w.heap.size+1+1,1,none⟩=some z1
 fz: ∀j,W.frozen? ⟨w.heap.size+1+1,j,none⟩=false
 le:w.heap.size+1+1+1≤W.heap.size
 bel:Below w.heap.size w W
theorem VF662.start (w:World) (p0 p1 p2 p3 p4 p5 q0 q1 q2 q3 q4 q5 z0 z1:Value) (t t' t2:TypeId):VF662 w p0 p1 p2 p3 p4 p5 q0 q1 q2 q3 q4 q5 z0 z1 (((w.alloc (.cells #[p0,p1,p2,p3,p4,p5] t)).alloc (.cells #[q0,q1,q2,q3,q4,q5] t')).alloc (.cells #[z0,z1] t2)):=by
 refine ⟨⟨?_,?_,?_,?_,?_,?_,?_,?_,?_,?_,?_,?_,Below.refl _ _⟩,?_,?_,fun j=> ?_,?_,(bel2 _ _ _).trans ((bel0 _ _).mono (by simp;omega))⟩
 all_goals simp [go_sem]
theorem VF662.later {w:World} {p0 p1 p2 p3 p4 p5 q0 q1 q2 q3 q4 q5 z0 z1:Value} {W W':World} (h:VF662 w p0 p1 p2 p3 p4 p5 q0 q1 q2 q3 q4 q5 z0 z1 W) (hb:Below W.heap.size W W'):VF662 w p0 p1 p2 p3 p4 p5 q0 q1 q2 q3 q4 q5 z0 z1 W':=by
 have hle:=h.le
 obtain ⟨a0,a1,a2,a3,a4,a5,b0,b1,b2,b3,b4,b5,_⟩:=h.s.on (hb.mono (by omega))
 exact ⟨⟨a0,a1,a2,a3,a4,a5,b0,b1,b2,b3,b4,b5,Below.refl _ _⟩,(hb.cell (by simp;omega)).trans h.r0,(hb.cell (by simp;omega)).trans h.r1,fun j=>(hb.frozen (by simp;omega)).trans (h.fz j),Nat.le_trans h.le hb.size,h.bel.trans (hb.mono (by omega))⟩
theorem methB (r:Value) (w:World):(method 357 31 r "loop.example/s01121/impl.minus").run Tryz.prog w= .ok (199,r) w∧(method 357 31 r "loop.example/s01121/impl.plus").run Tryz.prog w= .ok (200,r) w∧(method 357 31 r "loop.example/s01121/impl.times").run Tryz.prog w= .ok (53,r) w∧(method 357 31 r "loop.example/s01121/impl.fromFloat").run Tryz.prog w= .ok (198,r) w:=⟨by kernel_rfl,by kernel_rfl,by kernel_rfl,by kernel_rfl⟩
def VecB (w:World) (v:Value) (e:Nat) (A B C:Int):Prop:= ∃(g1:Bool) (a1:Option Addr) (c1:Nat) (z1:List Int) (g2:Bool) (a2:Option Addr) (c2:Nat) (z2:List Int) (g3:Bool) (a3:Option Addr) (c3:Nat) (z3:List Int),v=(.agg #[g1,.slice a1 z1.length c1,g2,.slice a2 z2.length c2,g3,.slice a3 z3.length c3])∧BigIs w (.agg #[g1,.slice a1 z1.length c1]) e A∧BigIs w (.agg #[g2,.slice a2 z2.length c2]) e B∧BigIs w (.agg #[g3,.slice a3 z3.length c3]) e C
def VecBOut (w:World) (e:Nat) (A B C:Int) (o:Ending) (w':World):Prop:= ∃v,o= .returned v∧VecB w' v e A B C∧Below w.heap.size w w'
theorem VecB.later {w w':World} {v:Value} {e:Nat} {A B C:Int} (h:VecB w v e A B C) (hb:Below w.heap.size w w'):VecB w' v e A B C:=by
 obtain ⟨g1,a1,c1,z1,g2,a2,c2,z2,g3,a3,c3,z3,rfl,h1,h2,h3⟩:=h
 exact ⟨g1,a1,c1,z1,g2,a2,c2,z2,g3,a3,c3,z3,rfl,h1.later hb,h2.later hb,h3.later hb⟩
def NoInt (w:World) (b:Nat):Prop:=b<w.heap.size∧ ∀i k m,w.cell? ⟨b,i,none⟩≠some (.int k m)
theorem NoInt.later {w w':World} {b:Nat} (h:NoInt w b) (hb:Below w.heap.size w w'):NoInt w' b:=
 ⟨Nat.lt_of_lt_of_le h.1 hb.size,fun i k m=>by rw [(bcell hb).1 _ _ h.1];exact h.2 i k m⟩
def NotInt (u:Value):Prop:= ∀k m,u≠ .int k m
theorem NoInt.set {w:World} {b i:Nat} {u:Value} (h:NoInt w b) (hu:NotInt u):NoInt (w.setCell ⟨b,i,none⟩ u) b:=by
 refine ⟨by simpa using h.1,fun j k m hh=> ?_⟩
 by_cases e:i=j
 ·subst e
  cases hc:w.cell? ⟨b,i,none⟩ with
  |none=>
   exfalso
   simp only [World.setCell,World.cell?,Array.getElem?_modify,↓reduceIte] at hh hc
   cases ho:w.heap[b]? with
   |none=>rw [ho] at hh;simp at hh
   |some o=>
    rw [ho] at hh hc
    cases o with
    |cells c t f=>
     simp at hc
     have h1:(c.setIfInBounds i u)[i]? =none:=Array.getElem?_eq_none (by simpa using hc)
     simp [h1] at hh
    |_=>simp at hh
  |some y=>
   rw [World.cell?_setCell_same _ _ _ hc] at hh
   exact hu k m (Option.some.inj hh)
 ·rw [World.cell?_setCell_other _ _ _ _ (by intro q;apply e;have:=congrArg Addr.off q;simpa using this)] at hh
  exact h.2 j k m hh
theorem NoInt.new (w:World) (cs:Array Value) (t:TypeId) (h: ∀(i:Nat) (k:IntKind) (m:Int),cs[i]? ≠some (Value.int k m)):NoInt (w.alloc (.cells cs t)) w.heap.size:=by
 refine ⟨by simp,fun i k m=> ?_⟩
 have:=h i k m
 simpa [go_sem] using this
theorem BigIs.set {w:World} {v:Value} {e:Nat} {x:Int} {b i:Nat} {u:Value} (h:BigIs w v e x) (hn:NoInt w b):BigIs (w.setCell ⟨b,i,none⟩ u) v e x:=by
 obtain ⟨g,a,c,zs,rfl,h1,h2,h3⟩:=h
 refine ⟨g,a,c,zs,rfl,h1,h2,?_⟩
 rcases h3 with h3| ⟨q,off,rfl,hq,hc⟩
 ·exact .inl h3
 ·by_cases hz:zs.length=0
  ·exact .inl (List.eq_nil_of_length_eq_zero hz)
  ·refine .inr ⟨q,off,rfl,by simpa using hq,fun j hj=> ?_⟩
   have hne:q≠b:=by
    intro hqb
    subst hqb
    exact hn.2 _ _ _ (hc 0 (by omega))
   rw [World.cell?_setCell_other _ _ _ _ (by intro hh;apply hne;have:=congrArg Addr.block hh;simp at this;exact this.symm)]
   exact hc j hj
def setAll:World→Nat→Nat→List Value→World
 |w,_,_,[]=>w
 |w,b,i,u::us=>setAll (w.setCell ⟨b,i,none⟩ u) b (i+1) us
theorem BigIs.setAll {v:Value} {e:Nat} {x:Int} {b:Nat}: ∀(us:List Value) (w:World) (i:Nat),BigIs w v e x→NoInt w b→(∀u∈us,NotInt u)→BigIs (Go.Proofs.YtfieffpobgcpmaaGreatDoor.setAll w b i us) v e x
 | [],_,_,h,_,_=>h
 |u::us,_,i,h,hn,hu=>BigIs.setAll us _ (i+1) (h.set hn) (hn.set (hu u (List.mem_cons_self ..))) (fun z hz=>hu z (List.mem_cons_of_mem _ hz))
theorem VecB.setAll {v:Value} {e:Nat} {A B C:Int} {b:Nat} (us:List Value) (w:World) (i:Nat) (h:VecB w v e A B C) (hn:NoInt w b) (hu: ∀u∈us,NotInt u):VecB (Go.Proofs.YtfieffpobgcpmaaGreatDoor.setAll w b i us) v e A B C:=by
 obtain ⟨g1,a1,c1,z1,g2,a2,c2,z2,g3,a3,c3,z3,rfl,h1,h2,h3⟩:=h
 exact ⟨g1,a1,c1,z1,g2,a2,c2,z2,g3,a3,c3,z3,rfl,h1.setAll us w i hn hu,h2.setAll us w i hn hu,h3.setAll us w i hn hu⟩
def OneOut (w:World) (e:Ending) (w':World):Prop:= ∃b,e= .returned (.agg #[false,.slice (some ⟨b,0,none⟩) 1 1])∧w.heap.size≤b∧b<w'.heap.size∧w'.cell? ⟨b,0,none⟩=some (.int .u32 1)∧Below w.heap.size w w'
theorem one_any (w:World):Calls Tryz.prog 79 #[] w fun e w'=>OneOut w e w':=by
 go_enter Tryz.func79,Tryz.ntmps79
 go_wp2
 refine bodyPost_ret (v:= .agg #[false,.slice (some ⟨w.heap.size+1,0,none⟩) 1 1]) (by simp [results,Tryz.results79,go_sem]) rfl ?_
 exact ⟨w.heap.size+1,rfl,by omega,by simp,by simp [go_sem],bel2 _ _ _⟩
theorem BigIs.inv {w:World} {g:Bool} {a:Option Addr} {n c e:Nat} {x:Int} (h:BigIs w (.agg #[g,.slice a n c]) e x): ∃zs:List Int,n=zs.length∧B1 g zs x∧(Mg e x∧zs.length≤c∧c≤maxLen)∧RowAt .u32 w a zs:=by
 obtain ⟨g',a',c',zs,he,h1,h2,h3⟩:=h
 simp at he
 obtain ⟨rfl,rfl,rfl,rfl⟩:=he
 exact ⟨zs,rfl,h1,h2,h3⟩
theorem BigIs.neg_iff {w:World} {g:Bool} {a:Option Addr} {n c e:Nat} {x:Int} (h:BigIs w (.agg #[g,.slice a n c]) e x):g=decide (x<0):=by
 obtain ⟨zs,rfl,h1,_,_⟩:=h.inv
 have p1:=val_nonneg (B:=4294967296) (by decide) h1.can.1
 have hx:=h1.num
 cases g
 ·simp only [sg,Bool.false_eq_true,if_false] at hx
  simp;omega
 ·have:=val_pos (B:=4294967296) (by decide) h1.can (h1.zero rfl)
  simp only [sg,if_true] at hx
  simp;omega
theorem Mg.neg {e:Nat} {x:Int} (h:Mg e x):Mg e (-x):=⟨by have:=h.2;omega,by have:=h.1;omega⟩
theorem oneG_any (w:World):Calls Tryz.prog 79 #[] w fun o w'=>BigIsOut w 0 1 o w':=by
 refine (one_any w).mono ?_
 rintro o w' ⟨b,rfl,_,h2,h3,hb⟩
 refine ⟨_,rfl,⟨false,some ⟨b,0,none⟩,1,[1],rfl,⟨⟨Dig.cons (by decide) (by decide) (Dig.nil _),by decide⟩,by decide,fun h=>by cases h⟩,⟨⟨by decide,by decide⟩,by simp,by unfold maxLen;omega⟩,Or.inr ⟨b,0,rfl,h2,?_⟩⟩,hb⟩
 intro j hj
 have:j=0:=by simp at hj;omega
 subst this
 exact h3
theorem ordG_any (u v:Value) (e f:Nat) (x y:Int) (w:World) (he:e≤3000) (hf:f≤3000) (hu:BigIs w u e x) (hv:BigIs w v f y):
 Calls Tryz.prog 54 #[u,v] w fun o w'=>o= .returned (.int .i64 (sgn (x-y)))∧Below w.heap.size w w':=by
 obtain ⟨g,a,c,zs,rfl,h1,h2,h3⟩:=hu
 obtain ⟨g',a',c',ys,rfl,h1',h2',h3'⟩:=hv
 have:=limbs_le h1 h2.1 he
 have:=limbs_le h1' h2'.1 hf
 refine (orderOf_any g g' a a' c c' zs ys w (by omega) (by omega) h3 h3').mono ?_
 rintro o w' ⟨rfl,hb⟩
 exact ⟨by rw [ord_B1 h1 h1'],hb⟩
theorem BigIs.zero (w:World) (e:Nat):BigIs w (.agg #[false,()]) e 0:=
 ⟨false,none,0,[],rfl,B1.nil,⟨⟨by have:=Fl.pow_pos2 e;omega,by have:=Fl.pow_pos2 e;omega⟩,by simp,Nat.zero_le _⟩,Or.inl rfl⟩
def FracIs (w:World) (v:Value) (e:Nat) (p q:Int):Prop:= ∃(g:Bool) (a:Option Addr) (c:Nat) (z:List Int) (g':Bool) (a':Option Addr) (c':Nat) (z':List Int),v= .agg #[g,.slice a z.length c,g',.slice a' z'.length c']∧BigIs w (.agg #[g,.slice a z.length c]) e p∧BigIs w (.agg #[g',.slice a' z'.length c']) e q
theorem FracIs.later {w w':World} {v:Value} {e:Nat} {p q:Int} (h:FracIs w v e p q) (hb:Below w.heap.size w w'):FracIs w' v e p q:=by
 obtain ⟨g,a,c,z,g',a',c',z',rfl,h1,h2⟩:=h
 exact ⟨g,a,c,z,g',a',c',z',rfl,h1.later hb,h2.later hb⟩
def StrIs (w:World) (v:Value) (e:Nat) (p q r s:Int):Prop:= ∃(g1:Bool) (a1:Option Addr) (c1:Nat) (z1:List Int) (g2:Bool) (a2:Option Addr) (c2:Nat) (z2:List Int) (g3:Bool) (a3:Option Addr) (c3:Nat) (z3:List Int) (g4:Bool) (a4:Option Addr) (c4:Nat) (z4:List Int),v= .agg #[g1,.slice a1 z1.length c1,g2,.slice a2 z2.length c2,g3,.slice a3 z3.length c3,g4,.slice a4 z4.length c4]∧BigIs w (.agg #[g1,.slice a1 z1.length c1]) e p∧BigIs w (.agg #[g2,.slice a2 z2.length c2]) e q∧BigIs w (.agg #[g3,.slice a3 z3.length c3]) e r∧BigIs w (.agg #[g4,.slice a4 z4.length c4]) e s
def StrOut (w:World) (e:Nat) (p q r s:Int) (o:Ending) (w':World):Prop:= ∃v,o= .returned v∧StrIs w' v e p q r s∧Below w.heap.size w w'
theorem StrIs.later {w w':World} {v:Value} {e:Nat} {p q r s:Int} (h:StrIs w v e p q r s) (hb:Below w.heap.size w w'):StrIs w' v e p q r s:=by
 obtain ⟨g1,a1,c1,z1,g2,a2,c2,z2,g3,a3,c3,z3,g4,a4,c4,z4,rfl,h1,h2,h3,h4⟩:=h
 exact ⟨g1,a1,c1,z1,g2,a2,c2,z2,g3,a3,c3,z3,g4,a4,c4,z4,rfl,h1.later hb,h2.later hb,h3.later hb,h4.later hb⟩
end Go.Proofs.YtfieffpobgcpmaaGreatDoor
