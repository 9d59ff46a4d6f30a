import Derived.Test.YtfieffpobgcpmaaGreatDoorDyN2ToEsFS
import Derived.Deep.RegionHeld3
import Derived.Test.YtfieffpobgcpmaaGreatDoorImplBToImplDS
import Derived.Test.YtfieffpobgcpmaaGreatDoorImplEImplNgImplNNumMImplMS
set_option maxRecDepth 100000
set_option maxHeartbeats 32000000
namespace Go.Proofs.YtfieffpobgcpmaaGreatDoor
open Go.RowKit Go.Proofs.Tryz
variable {v p0 p1 p2 p3 p4 p5 q0 q1 z0 z1 q2 q3 q4 q5 m0 m1 m2 m3 m4 m5 n0 n1 n2 n3 n4 n5:Value} {e b:Nat} {A B C x:Int} {w W W' w':World}
open Fl (IsF Nr ζz ζE absI Est)
theorem ζu.up {k e':Nat} {S:Int} (h:ζu v k e S A) (he:e<=e'):ζu v k e' S A:=by
 obtain ⟨x,y,a,b,rfl,hx,hy,hE⟩:=h
 exact ⟨x,y,a,b,rfl,hx,hy,hE.up he⟩
abbrev θE (w:World) (p0 p1 p2 p3 p4 p5 q0 q1:Value) (W w':World):Prop:=w'.cell? ⟨w,0,none⟩=some p0∧w'.cell? ⟨w,1,none⟩=some p1∧w'.cell? ⟨w,2,none⟩=some p2∧w'.cell? ⟨w,3,none⟩=some p3∧w'.cell? ⟨w,4,none⟩=some p4∧w'.cell? ⟨w,5,none⟩=some p5∧w'.cell? ⟨↑w+1,0,none⟩=some q0∧w'.cell? ⟨↑w+1,1,none⟩=some q1∧Below (↑w+1+1) W w'
theorem θE.on (h:θE w p0 p1 p2 p3 p4 p5 q0 q1 W W') (hb:Below (↑w+1+1) W' w'):θE w p0 p1 p2 p3 p4 p5 q0 q1 W w':=by
 obtain ⟨a0,a1,a2,a3,a4,a5,b0,b1,hB⟩:=h
 exact ⟨(hb.cell (by simp;omega)).trans a0,(hb.cell (by simp;omega)).trans a1,(hb.cell (by simp;omega)).trans a2,(hb.cell (by simp;omega)).trans a3,(hb.cell (by simp;omega)).trans a4,(hb.cell (by simp;omega)).trans a5,(hb.cell (by simp)).trans b0,(hb.cell (by simp)).trans b1,hB.trans hb⟩
theorem θE.set (h:θE w p0 p1 p2 p3 p4 p5 q0 q1 W w') (v0 v1 v2 v3 v4 v5:Value):θE w p0 p1 p2 p3 p4 p5 q0 q1 W ((((((w'.setCell ⟨↑w+1+1,0,none⟩ v0).setCell ⟨↑w+1+1,1,none⟩ v1).setCell ⟨↑w+1+1,2,none⟩ v2).setCell ⟨↑w+1+1,3,none⟩ v3).setCell ⟨↑w+1+1,4,none⟩ v4).setCell ⟨↑w+1+1,5,none⟩ v5):=
 h.on (((((((Below.refl _ _).setCell (by simp) _).setCell (by simp) _).setCell (by simp) _).setCell (by simp) _).setCell (by simp) _).setCell (by simp) _)
structure ωW (w:World) (p0 p1 p2 p3 p4 p5 q0 q1 z0 z1 z2 z3 z4 z5:Value) (W:World):Prop where
 s:θE w p0 p1 p2 p3 p4 p5 q0 q1 W W
 r0:W.cell? ⟨↑w+1+1,0,none⟩=some z0
 r1:W.cell? ⟨↑w+1+1,1,none⟩=some z1
 r2:W.cell? ⟨↑w+1+1,2,none⟩=some z2
 r3:W.cell? ⟨↑w+1+1,3,none⟩=some z3
 r4:W.cell? ⟨↑w+1+1,4,none⟩=some z4
 r5:W.cell? ⟨↑w+1+1,5,none⟩=some z5
 fz: ∀j,W.frozen? ⟨↑w+1+1,j,none⟩=false
 le:w.heap.size+1+1+1<=W.heap.size
 bel:Below w w W
theorem ωW.start (w:World) (p0 p1 p2 p3 p4 p5 q0 q1 z0 z1 z2 z3 z4 z5:Value) (t t' t2:TypeId):ωW w p0 p1 p2 p3 p4 p5 q0 q1 z0 z1 z2 z3 z4 z5 (((w.alloc (.cells #[p0,p1,p2,p3,p4,p5] t)).alloc (.cells #[q0,q1] t')).alloc (.cells #[z0,z1,z2,z3,z4,z5] t2)):=by
 refine ⟨⟨?_,?_,?_,?_,?_,?_,?_,?_,Below.refl _ _⟩,?_,?_,?_,?_,?_,?_,fun j=> ?_,?_,(ξr _ _ _).trans ((ζc _ _).mono (by simp;omega))⟩
 all_goals simp [go_sem]
theorem ωW.later {z2 z3 z4 z5:Value} (h:ωW w p0 p1 p2 p3 p4 p5 q0 q1 z0 z1 z2 z3 z4 z5 W) (hb:Below W W W'):ωW w p0 p1 p2 p3 p4 p5 q0 q1 z0 z1 z2 z3 z4 z5 W':=by
 have hle:=h.le
 obtain ⟨a0,a1,a2,a3,a4,a5,b0,b1,_⟩:=h.s.on (hb.mono (by omega))
 exact ⟨⟨a0,a1,a2,a3,a4,a5,b0,b1,Below.refl _ _⟩,(hb.cell (by simp;omega)).trans h.r0,(hb.cell (by simp;omega)).trans h.r1,(hb.cell (by simp;omega)).trans h.r2,(hb.cell (by simp;omega)).trans h.r3,(hb.cell (by simp;omega)).trans h.r4,(hb.cell (by simp;omega)).trans h.r5,fun j=>(hb.frozen (by simp;omega)).trans (h.fz j),Nat.le_trans h.le hb.size,h.bel.trans (hb.mono (by omega))⟩
abbrev θF (w:World) (p0 p1 p2 p3 p4 p5 q0 q1 q2 q3 q4 q5:Value) (W w':World):Prop:=w'.cell? ⟨w,0,none⟩=some p0∧w'.cell? ⟨w,1,none⟩=some p1∧w'.cell? ⟨w,2,none⟩=some p2∧w'.cell? ⟨w,3,none⟩=some p3∧w'.cell? ⟨w,4,none⟩=some p4∧w'.cell? ⟨w,5,none⟩=some p5∧w'.cell? ⟨↑w+1,0,none⟩=some q0∧w'.cell? ⟨↑w+1,1,none⟩=some q1∧w'.cell? ⟨↑w+1,2,none⟩=some q2∧w'.cell? ⟨↑w+1,3,none⟩=some q3∧w'.cell? ⟨↑w+1,4,none⟩=some q4∧w'.cell? ⟨↑w+1,5,none⟩=some q5∧Below (↑w+1+1) W w'
theorem θF.on (h:θF w p0 p1 p2 p3 p4 p5 q0 q1 q2 q3 q4 q5 W W') (hb:Below (↑w+1+1) W' w'):θF w p0 p1 p2 p3 p4 p5 q0 q1 q2 q3 q4 q5 W w':=by
 obtain ⟨a0,a1,a2,a3,a4,a5,b0,b1,b2,b3,b4,b5,hB⟩:=h
 exact ⟨(hb.cell (by simp;omega)).trans a0,(hb.cell (by simp;omega)).trans a1,(hb.cell (by simp;omega)).trans a2,(hb.cell (by simp;omega)).trans a3,(hb.cell (by simp;omega)).trans a4,(hb.cell (by simp;omega)).trans a5,(hb.cell (by simp)).trans b0,(hb.cell (by simp)).trans b1,(hb.cell (by simp)).trans b2,(hb.cell (by simp)).trans b3,(hb.cell (by simp)).trans b4,(hb.cell (by simp)).trans b5,hB.trans hb⟩
theorem θF.set (h:θF w p0 p1 p2 p3 p4 p5 q0 q1 q2 q3 q4 q5 W w') (v0 v1 v2 v3 v4 v5:Value):θF w p0 p1 p2 p3 p4 p5 q0 q1 q2 q3 q4 q5 W ((((((w'.setCell ⟨↑w+1+1,0,none⟩ v0).setCell ⟨↑w+1+1,1,none⟩ v1).setCell ⟨↑w+1+1,2,none⟩ v2).setCell ⟨↑w+1+1,3,none⟩ v3).setCell ⟨↑w+1+1,4,none⟩ v4).setCell ⟨↑w+1+1,5,none⟩ v5):=
 h.on (((((((Below.refl _ _).setCell (by simp) _).setCell (by simp) _).setCell (by simp) _).setCell (by simp) _).setCell (by simp) _).setCell (by simp) _)
structure ωX (w:World) (p0 p1 p2 p3 p4 p5 q0 q1 q2 q3 q4 q5 z0 z1 z2 z3 z4 z5:Value) (W:World):Prop where
 s:θF w p0 p1 p2 p3 p4 p5 q0 q1 q2 q3 q4 q5 W W
 r0:W.cell? ⟨↑w+1+1,0,none⟩=some z0
 r1:W.cell? ⟨↑w+1+1,1,none⟩=some z1
 r2:W.cell? ⟨↑w+1+1,2,none⟩=some z2
 r3:W.cell? ⟨↑w+1+1,3,none⟩=some z3
 r4:W.cell? ⟨↑w+1+1,4,none⟩=some z4
 r5:W.cell? ⟨↑w+1+1,5,none⟩=some z5
 fz: ∀j,W.frozen? ⟨↑w+1+1,j,none⟩=false
 le:w.heap.size+1+1+1<=W.heap.size
 bel:Below w w W
theorem ωX.start (w:World) (p0 p1 p2 p3 p4 p5 q0 q1 q2 q3 q4 q5 z0 z1 z2 z3 z4 z5:Value) (t t' t2:TypeId):ωX w p0 p1 p2 p3 p4 p5 q0 q1 q2 q3 q4 q5 z0 z1 z2 z3 z4 z5 (((w.alloc (.cells #[p0,p1,p2,p3,p4,p5] t)).alloc (.cells #[q0,q1,q2,q3,q4,q5] t')).alloc (.cells #[z0,z1,z2,z3,z4,z5] t2)):=by
 refine ⟨⟨?_,?_,?_,?_,?_,?_,?_,?_,?_,?_,?_,?_,Below.refl _ _⟩,?_,?_,?_,?_,?_,?_,fun j=> ?_,?_,(ξr _ _ _).trans ((ζc _ _).mono (by simp;omega))⟩
 all_goals simp [go_sem]
theorem ωX.later {z2 z3 z4 z5:Value} (h:ωX w p0 p1 p2 p3 p4 p5 q0 q1 q2 q3 q4 q5 z0 z1 z2 z3 z4 z5 W) (hb:Below W W W'):ωX w p0 p1 p2 p3 p4 p5 q0 q1 q2 q3 q4 q5 z0 z1 z2 z3 z4 z5 W':=by
 have hle:=h.le
 obtain ⟨a0,a1,a2,a3,a4,a5,b0,b1,b2,b3,b4,b5,_⟩:=h.s.on (hb.mono (by omega))
 exact ⟨⟨a0,a1,a2,a3,a4,a5,b0,b1,b2,b3,b4,b5,Below.refl _ _⟩,(hb.cell (by simp;omega)).trans h.r0,(hb.cell (by simp;omega)).trans h.r1,(hb.cell (by simp;omega)).trans h.r2,(hb.cell (by simp;omega)).trans h.r3,(hb.cell (by simp;omega)).trans h.r4,(hb.cell (by simp;omega)).trans h.r5,fun j=>(hb.frozen (by simp;omega)).trans (h.fz j),Nat.le_trans h.le hb.size,h.bel.trans (hb.mono (by omega))⟩
abbrev θG (w:World) (p0 p1 p2 p3 p4 p5 q0 q1 q2 q3 q4 q5:Value) (W w':World):Prop:=w'.cell? ⟨w,0,none⟩=some p0∧w'.cell? ⟨w,1,none⟩=some p1∧w'.cell? ⟨w,2,none⟩=some p2∧w'.cell? ⟨w,3,none⟩=some p3∧w'.cell? ⟨w,4,none⟩=some p4∧w'.cell? ⟨w,5,none⟩=some p5∧w'.cell? ⟨↑w+1,0,none⟩=some q0∧w'.cell? ⟨↑w+1,1,none⟩=some q1∧w'.cell? ⟨↑w+1,2,none⟩=some q2∧w'.cell? ⟨↑w+1,3,none⟩=some q3∧w'.cell? ⟨↑w+1,4,none⟩=some q4∧w'.cell? ⟨↑w+1,5,none⟩=some q5∧Below (↑w+1+1) W w'
theorem θG.on (h:θG w p0 p1 p2 p3 p4 p5 q0 q1 q2 q3 q4 q5 W W') (hb:Below (↑w+1+1) W' w'):θG w p0 p1 p2 p3 p4 p5 q0 q1 q2 q3 q4 q5 W w':=by
 obtain ⟨a0,a1,a2,a3,a4,a5,b0,b1,b2,b3,b4,b5,hB⟩:=h
 exact ⟨(hb.cell (by simp;omega)).trans a0,(hb.cell (by simp;omega)).trans a1,(hb.cell (by simp;omega)).trans a2,(hb.cell (by simp;omega)).trans a3,(hb.cell (by simp;omega)).trans a4,(hb.cell (by simp;omega)).trans a5,(hb.cell (by simp)).trans b0,(hb.cell (by simp)).trans b1,(hb.cell (by simp)).trans b2,(hb.cell (by simp)).trans b3,(hb.cell (by simp)).trans b4,(hb.cell (by simp)).trans b5,hB.trans hb⟩
theorem θG.set (h:θG w p0 p1 p2 p3 p4 p5 q0 q1 q2 q3 q4 q5 W w') (v0 v1:Value):θG w p0 p1 p2 p3 p4 p5 q0 q1 q2 q3 q4 q5 W ((w'.setCell ⟨↑w+1+1,0,none⟩ v0).setCell ⟨↑w+1+1,1,none⟩ v1):=
 h.on (((Below.refl _ _).setCell (by simp) _).setCell (by simp) _)
structure ωY (w:World) (p0 p1 p2 p3 p4 p5 q0 q1 q2 q3 q4 q5 z0 z1:Value) (W:World):Prop where
 s:θG w p0 p1 p2 p3 p4 p5 q0 q1 q2 q3 q4 q5 W W
 r0:W.cell? ⟨↑w+1+1,0,none⟩=some z0
 r1:W.cell? ⟨↑w+1+1,1,none⟩=some z1
 fz: ∀j,W.frozen? ⟨↑w+1+1,j,none⟩=false
 le:w.heap.size+1+1+1<=W.heap.size
 bel:Below w w W
theorem ωY.start (w:World) (p0 p1 p2 p3 p4 p5 q0 q1 q2 q3 q4 q5 z0 z1:Value) (t t' t2:TypeId):ωY w p0 p1 p2 p3 p4 p5 q0 q1 q2 q3 q4 q5 z0 z1 (((w.alloc (.cells #[p0,p1,p2,p3,p4,p5] t)).alloc (.cells #[q0,q1,q2,q3,q4,q5] t')).alloc (.cells #[z0,z1] t2)):=by
 refine ⟨⟨?_,?_,?_,?_,?_,?_,?_,?_,?_,?_,?_,?_,Below.refl _ _⟩,?_,?_,fun j=> ?_,?_,(ξr _ _ _).trans ((ζc _ _).mono (by simp;omega))⟩
 all_goals simp [go_sem]
theorem ωY.later (h:ωY w p0 p1 p2 p3 p4 p5 q0 q1 q2 q3 q4 q5 z0 z1 W) (hb:Below W W W'):ωY w p0 p1 p2 p3 p4 p5 q0 q1 q2 q3 q4 q5 z0 z1 W':=by
 have hle:=h.le
 obtain ⟨a0,a1,a2,a3,a4,a5,b0,b1,b2,b3,b4,b5,_⟩:=h.s.on (hb.mono (by omega))
 exact ⟨⟨a0,a1,a2,a3,a4,a5,b0,b1,b2,b3,b4,b5,Below.refl _ _⟩,(hb.cell (by simp;omega)).trans h.r0,(hb.cell (by simp;omega)).trans h.r1,fun j=>(hb.frozen (by simp;omega)).trans (h.fz j),Nat.le_trans h.le hb.size,h.bel.trans (hb.mono (by omega))⟩
theorem ωZ (r:Value) (w:World):(method 357 31 r "loop.example/s01121/impl.minus").run prog w= .ok (199,r) w∧(method 357 31 r "loop.example/s01121/impl.plus").run prog w= .ok (200,r) w∧(method 357 31 r "loop.example/s01121/impl.times").run prog w= .ok (53,r) w∧(method 357 31 r "loop.example/s01121/impl.fromFloat").run prog w= .ok (198,r) w:=⟨by kernel_rfl,by kernel_rfl,by kernel_rfl,by kernel_rfl⟩
def ζM (w:World) (v:Value) (e:Nat) (A B C:Int):Prop:= ∃(g1:Bool) (a1:Option Addr) (c1:Nat) (z1:List Int) (g2:Bool) (a2:Option Addr) (c2:Nat) (z2:List Int) (g3:Bool) (a3:Option Addr) (c3:Nat) (z3:List Int),v=(.agg #[g1,.slice a1 z1 c1,g2,.slice a2 z2 c2,g3,.slice a3 z3 c3])∧ζe w (.agg #[g1,.slice a1 z1 c1]) e A∧ζe w (.agg #[g2,.slice a2 z2 c2]) e B∧ζe w (.agg #[g3,.slice a3 z3 c3]) e C
def ψJ (w:World) (e:Nat) (A B C:Int) (o:Ending) (w':World):Prop:= ∃v,o= .returned v∧ζM w' v e A B C∧Below w w w'
theorem ζM.later (h:ζM w v e A B C) (hb:Below w w w'):ζM w' v e A B C:=by
 obtain ⟨g1,a1,c1,z1,g2,a2,c2,z2,g3,a3,c3,z3,rfl,h1,h2,h3⟩:=h
 exact ⟨g1,a1,c1,z1,g2,a2,c2,z2,g3,a3,c3,z3,rfl,h1.later hb,h2.later hb,h3.later hb⟩
theorem ζM.up {e':Nat} (h:ζM w v e A B C) (he:e<=e'):ζM w v e' A B C:=by
 obtain ⟨g1,a1,c1,z1,g2,a2,c2,z2,g3,a3,c3,z3,rfl,h1,h2,h3⟩:=h
 exact ⟨g1,a1,c1,z1,g2,a2,c2,z2,g3,a3,c3,z3,rfl,h1.up he,h2.up he,h3.up he⟩
def ζf (w:World) (b:Nat):Prop:=b<w.heap.size∧ ∀i k m,w.cell? ⟨b,i,none⟩≠some (.int k m)
theorem ζf.later (h:ζf w b) (hb:Below w w w'):ζf w' b:=
 ⟨Nat.lt_of_lt_of_le h.1 hb.size,fun i k m=>by rw [(ζj hb).1 _ _ h.1];exact h.2 i k m⟩
def ζh (u:Value):Prop:= ∀k m,u≠ .int k m
theorem ζf.set {i:Nat} {u:Value} (h:ζf w b) (hu:ζh u):ζf (w.setCell ⟨b,i,none⟩ u) b:=by
 refine ⟨by simpa using h.1,fun j k m hh=> ?_⟩
 by_cases e:i=j
 ·subst e
  cases hc:w.cell? ⟨b,i,none⟩ with
  |none=>
   exfalso
   simp only [World.setCell,World.cell?,Array.getElem?_modify,↓reduceIte] at hh hc
   cases ho:w.heap[b]? with
   |none=>rw [ho] at hh;simp at hh
   |some o=>
    rw [ho] at hh hc
    cases o with
    |cells c t f=>
     simp at hc
     have h1:(c.setIfInBounds i u)[i]? =none:=Array.getElem?_eq_none (by simpa using hc)
     simp [h1] at hh
    |_=>simp at hh
  |some y=>
   rw [World.cell?_setCell_same _ _ _ hc] at hh
   exact hu k m (Option.some.inj hh)
 ·rw [World.cell?_setCell_other _ _ _ _ (by intro q;apply e;have:=congrArg Addr.off q;simpa using this)] at hh
  exact h.2 j k m hh
theorem ζf.new (w:World) (cs:Array Value) (t:TypeId) (h: ∀(i:Nat) (k:IntKind) (m:Int),cs[i]? ≠some (Value.int k m)):ζf (w.alloc (.cells cs t)) w.heap.size:=by
 refine ⟨by simp,fun i k m=> ?_⟩
 have:=h i k m
 simpa [go_sem] using this
theorem ζe.set {i:Nat} {u:Value} (h:ζe w v e x) (hn:ζf w b):ζe (w.setCell ⟨b,i,none⟩ u) v e x:=by
 obtain ⟨g,a,c,zs,rfl,h1,h2,h3⟩:=h
 refine ⟨g,a,c,zs,rfl,h1,h2,?_⟩
 rcases h3 with h3| ⟨q,off,rfl,hq,hc⟩
 ·exact .inl h3
 ·by_cases hz:zs.length=0
  ·exact .inl (List.eq_nil_of_length_eq_zero hz)
  ·refine .inr ⟨q,off,rfl,by simpa using hq,fun j hj=> ?_⟩
   have hne:q≠b:=by
    intro hqb
    subst hqb
    exact hn.2 _ _ _ (hc 0 (by omega))
   rw [World.cell?_setCell_other _ _ _ _ (by intro hh;apply hne;have:=congrArg Addr.block hh;simp at this;exact this.symm)]
   exact hc j hj
def setAll:World->Nat->Nat->List Value->World
 |w,_,_,[]=>w
 |w,b,i,u::us=>setAll (w.setCell ⟨b,i,none⟩ u) b (i+1) us
theorem ζe.setAll {v:Value} {e:Nat} {x:Int} {b:Nat}: ∀(us:List Value) (w:World) (i:Nat),ζe w v e x->ζf w b->(∀u∈us,ζh u)->ζe (Go.Proofs.YtfieffpobgcpmaaGreatDoor.setAll w b i us) v e x
 | [],_,_,h,_,_=>h
 |u::us,_,i,h,hn,hu=>ζe.setAll us _ (i+1) (h.set hn) (hn.set (hu u (List.mem_cons_self ..))) (fun z hz=>hu z (List.mem_cons_of_mem _ hz))
theorem ζM.setAll (us:List Value) (w:World) (i:Nat) (h:ζM w v e A B C) (hn:ζf w b) (hu: ∀u∈us,ζh u):ζM (Go.Proofs.YtfieffpobgcpmaaGreatDoor.setAll w b i us) v e A B C:=by
 obtain ⟨g1,a1,c1,z1,g2,a2,c2,z2,g3,a3,c3,z3,rfl,h1,h2,h3⟩:=h
 exact ⟨g1,a1,c1,z1,g2,a2,c2,z2,g3,a3,c3,z3,rfl,h1.setAll us w i hn hu,h2.setAll us w i hn hu,h3.setAll us w i hn hu⟩
def νS (w:World) (e:Ending) (w':World):Prop:= ∃b,e= .returned (.agg #[false,.slice (some ⟨b,0,none⟩) 1 1])∧w.heap.size<=b∧b<w'.heap.size∧w'.cell? ⟨b,0,none⟩=some (.int .u32 1)∧Below w w w'
theorem ρ4 (w:World):Calls prog 79 #[] w fun e w'=>νS w e w':=by
 go_enter func79,ntmps79
 go_wp2
 refine bodyPost_ret (v:= .agg #[false,.slice (some ⟨↑w+1,0,none⟩) 1 1]) (by simp [results,results79,go_sem]) rfl ?_
 exact ⟨↑w+1,rfl,by omega,by simp,by simp [go_sem],ξr _ _ _⟩
theorem ζe.inv {g:Bool} {a:Option Addr} {n c:Nat} (h:ζe w (.agg #[g,.slice a n c]) e x): ∃zs:List Int,n=zs.length∧B1 g zs x∧(Mg e x∧zs.length<=c∧c<=maxLen)∧ζk .u32 w a zs:=by
 obtain ⟨g',a',c',zs,he,h1,h2,h3⟩:=h
 simp at he
 obtain ⟨rfl,rfl,rfl,rfl⟩:=he
 exact ⟨zs,rfl,h1,h2,h3⟩
theorem ζe.neg_iff {g:Bool} {a:Option Addr} {n c:Nat} (h:ζe w (.agg #[g,.slice a n c]) e x):g=decide (x<0):=by
 obtain ⟨zs,rfl,h1,_,_⟩:=h.inv
 have p1:=ζo (B:=4294967296) (by decide) h1.can.1
 have hx:=h1.num
 cases g
 ·simp only [sg,Bool.false_eq_true,if_false] at hx
  simp;omega
 ·have:=ζP (B:=4294967296) (by decide) h1.can (h1.zero rfl)
  simp only [sg,if_true] at hx
  simp;omega
theorem Mg.neg (h:Mg e x):Mg e (-x):=⟨by have:=h.2;omega,by have:=h.1;omega⟩
theorem ωa (w:World):Calls prog 79 #[] w fun o w'=>ζB w 0 1 o w':=by
 refine (ρ4 w).mono ?_
 rintro o w' ⟨b,rfl,_,h2,h3,hb⟩
 refine ⟨_,rfl,⟨false,some ⟨b,0,none⟩,1,[1],rfl,⟨⟨Dig.cons (by decide) (by decide) (Dig.nil _),by decide⟩,by decide,fun h=>by cases h⟩,⟨⟨by decide,by decide⟩,by simp,by unfold maxLen;omega⟩,Or.inr ⟨b,0,rfl,h2,?_⟩⟩,hb⟩
 intro j hj
 have:j=0:=by simp at hj;omega
 subst this
 exact h3
theorem κF (u v:Value) (e f:Nat) (x y:Int) (w:World) (he:e<=30000) (hf:f<=30000) (hu:ζe w u e x) (hv:ζe w v f y):
 Calls prog 54 #[u,v] w fun o w'=>o= .returned (.int .i64 (sgn (x-y)))∧Below w w w':=by
 obtain ⟨g,a,c,zs,rfl,h1,h2,h3⟩:=hu
 obtain ⟨g',a',c',ys,rfl,h1',h2',h3'⟩:=hv
 have:=ζC h1 h2.1 he
 have:=ζC h1' h2'.1 hf
 refine (φ5 g g' a a' c c' zs ys w (by omega) (by omega) h3 h3').mono ?_
 rintro o w' ⟨rfl,hb⟩
 exact ⟨by rw [τx h1 h1'],hb⟩
theorem ζe.zero (w:World) (e:Nat):ζe w (.agg #[false,()]) e 0:=
 ⟨false,none,0,[],rfl,B1.nil,⟨⟨by have:=Fl.pow_pos2 e;omega,by have:=Fl.pow_pos2 e;omega⟩,by simp,Nat.zero_le _⟩,Or.inl rfl⟩
def ζO (w:World) (v:Value) (e:Nat) (p q:Int):Prop:= ∃(g:Bool) (a:Option Addr) (c:Nat) (z:List Int) (g':Bool) (a':Option Addr) (c':Nat) (z':List Int),v= .agg #[g,.slice a z c,g',.slice a' z' c']∧ζe w (.agg #[g,.slice a z c]) e p∧ζe w (.agg #[g',.slice a' z' c']) e q
theorem ζO.later {p q:Int} (h:ζO w v e p q) (hb:Below w w w'):ζO w' v e p q:=by
 obtain ⟨g,a,c,z,g',a',c',z',rfl,h1,h2⟩:=h
 exact ⟨g,a,c,z,g',a',c',z',rfl,h1.later hb,h2.later hb⟩
def ζR (w:World) (v:Value) (e:Nat) (p q r s:Int):Prop:= ∃(g1:Bool) (a1:Option Addr) (c1:Nat) (z1:List Int) (g2:Bool) (a2:Option Addr) (c2:Nat) (z2:List Int) (g3:Bool) (a3:Option Addr) (c3:Nat) (z3:List Int) (g4:Bool) (a4:Option Addr) (c4:Nat) (z4:List Int),v= .agg #[g1,.slice a1 z1 c1,g2,.slice a2 z2 c2,g3,.slice a3 z3 c3,g4,.slice a4 z4 c4]∧ζe w (.agg #[g1,.slice a1 z1 c1]) e p∧ζe w (.agg #[g2,.slice a2 z2 c2]) e q∧ζe w (.agg #[g3,.slice a3 z3 c3]) e r∧ζe w (.agg #[g4,.slice a4 z4 c4]) e s
def νT (w:World) (e:Nat) (p q r s:Int) (o:Ending) (w':World):Prop:= ∃v,o= .returned v∧ζR w' v e p q r s∧Below w w w'
theorem ζR.later {p q r s:Int} (h:ζR w v e p q r s) (hb:Below w w w'):ζR w' v e p q r s:=by
 obtain ⟨g1,a1,c1,z1,g2,a2,c2,z2,g3,a3,c3,z3,g4,a4,c4,z4,rfl,h1,h2,h3,h4⟩:=h
 exact ⟨g1,a1,c1,z1,g2,a2,c2,z2,g3,a3,c3,z3,g4,a4,c4,z4,rfl,h1.later hb,h2.later hb,h3.later hb,h4.later hb⟩
structure Fbm (w:World) (m0 m1 m2 m3 m4 m5 n0 n1 n2 n3 n4 n5 p0 p1 p2 p3 p4 p5:Value) (W:World):Prop where
 e0x0:W.cell? ⟨w,0,none⟩=some m0
 e0x1:W.cell? ⟨w,1,none⟩=some m1
 e0x2:W.cell? ⟨w,2,none⟩=some m2
 e0x3:W.cell? ⟨w,3,none⟩=some m3
 e0x4:W.cell? ⟨w,4,none⟩=some m4
 e0x5:W.cell? ⟨w,5,none⟩=some m5
 f0: ∀j,W.frozen? ⟨w,j,none⟩=false
 e1x0:W.cell? ⟨↑w+1,0,none⟩=some n0
 e1x1:W.cell? ⟨↑w+1,1,none⟩=some n1
 e1x2:W.cell? ⟨↑w+1,2,none⟩=some n2
 e1x3:W.cell? ⟨↑w+1,3,none⟩=some n3
 e1x4:W.cell? ⟨↑w+1,4,none⟩=some n4
 e1x5:W.cell? ⟨↑w+1,5,none⟩=some n5
 f1: ∀j,W.frozen? ⟨↑w+1,j,none⟩=false
 e2x0:W.cell? ⟨↑w+1+1,0,none⟩=some p0
 e2x1:W.cell? ⟨↑w+1+1,1,none⟩=some p1
 e2x2:W.cell? ⟨↑w+1+1,2,none⟩=some p2
 e2x3:W.cell? ⟨↑w+1+1,3,none⟩=some p3
 e2x4:W.cell? ⟨↑w+1+1,4,none⟩=some p4
 e2x5:W.cell? ⟨↑w+1+1,5,none⟩=some p5
 f2: ∀j,W.frozen? ⟨↑w+1+1,j,none⟩=false
 le:w.heap.size+1+1+1<=W.heap.size
 bel:Below w w W
theorem Fbm.start (w:World) (m0 m1 m2 m3 m4 m5 n0 n1 n2 n3 n4 n5 p0 p1 p2 p3 p4 p5:Value) (t0 t1 t2:TypeId):Fbm w m0 m1 m2 m3 m4 m5 n0 n1 n2 n3 n4 n5 p0 p1 p2 p3 p4 p5 (((w.alloc (.cells #[m0,m1,m2,m3,m4,m5] t0)).alloc (.cells #[n0,n1,n2,n3,n4,n5] t1)).alloc (.cells #[p0,p1,p2,p3,p4,p5] t2)):=by
 constructor<;>first|exact (((ζc _ _).trans ((ζc _ _).mono (by simp<;>omega))).trans ((ζc _ _).mono (by simp<;>omega)))|simp [go_sem]
theorem Fbm.later (h:Fbm w m0 m1 m2 m3 m4 m5 n0 n1 n2 n3 n4 n5 p0 p1 p2 p3 p4 p5 W) (hb:Below W W W'):Fbm w m0 m1 m2 m3 m4 m5 n0 n1 n2 n3 n4 n5 p0 p1 p2 p3 p4 p5 W':=by
 have q:=h.le
 have z:=h.bel.trans (hb.mono h.bel.size)
 cases h
 constructor<;>first|exact ((ζj hb).1 _ _ (by omega)).trans (by with_reducible assumption)|exact z|exact Nat.le_trans q hb.size| (intro j;exact ((ζj hb).2 _ _ (by omega)).trans (by apply_assumption))
theorem Fbm.set2 (h:Fbm w m0 m1 m2 m3 m4 m5 n0 n1 n2 n3 n4 n5 p0 p1 p2 p3 p4 p5 W) (v0 v1 v2 v3 v4 v5:Value):Fbm w m0 m1 m2 m3 m4 m5 n0 n1 n2 n3 n4 n5 v0 v1 v2 v3 v4 v5 ((((((W.setCell ⟨↑w+1+1,0,none⟩ v0).setCell ⟨↑w+1+1,1,none⟩ v1).setCell ⟨↑w+1+1,2,none⟩ v2).setCell ⟨↑w+1+1,3,none⟩ v3).setCell ⟨↑w+1+1,4,none⟩ v4).setCell ⟨↑w+1+1,5,none⟩ v5):=by
 have hle:=h.le
 constructor<;>first|exact ((((((h.bel.setCell (by simp<;>omega) _).setCell (by simp<;>omega) _).setCell (by simp<;>omega) _).setCell (by simp<;>omega) _).setCell (by simp<;>omega) _).setCell (by simp<;>omega) _)| (cases h;simp [go_sem, *])
theorem Fbm.s (h:Fbm w m0 m1 m2 m3 m4 m5 n0 n1 n2 n3 n4 n5 p0 p1 p2 p3 p4 p5 w'):w'.cell? ⟨w,0,none⟩=some m0∧w'.cell? ⟨w,1,none⟩=some m1∧w'.cell? ⟨w,2,none⟩=some m2∧w'.cell? ⟨w,3,none⟩=some m3∧w'.cell? ⟨w,4,none⟩=some m4∧w'.cell? ⟨w,5,none⟩=some m5∧w'.cell? ⟨↑w+1,0,none⟩=some n0∧w'.cell? ⟨↑w+1,1,none⟩=some n1∧w'.cell? ⟨↑w+1,2,none⟩=some n2∧w'.cell? ⟨↑w+1,3,none⟩=some n3∧w'.cell? ⟨↑w+1,4,none⟩=some n4∧w'.cell? ⟨↑w+1,5,none⟩=some n5:=⟨h.e0x0,h.e0x1,h.e0x2,h.e0x3,h.e0x4,h.e0x5,h.e1x0,h.e1x1,h.e1x2,h.e1x3,h.e1x4,h.e1x5⟩
theorem ξy (u v:Value) (e:Nat) (A B C A' B' C':Int) (w:World) (he:e<=29000) (hu:ζM w u e A B C) (hv:ζM w v e A' B' C'):
 Calls prog 135 #[u,v] w fun o w'=>ψJ w (e+1) (A-A') (B-B') (C-C') o w':=by
 obtain ⟨gu1,au1,cu1,zu1,gu2,au2,cu2,zu2,gu3,au3,cu3,zu3,rfl,hu1,hu2,hu3⟩:=hu
 obtain ⟨gv1,av1,cv1,zv1,gv2,av2,cv2,zv2,gv3,av3,cv3,zv3,rfl,hv1,hv2,hv3⟩:=hv
 go_enter func135,ntmps135
 go_wp2_with fail
 obtain ⟨W0,hW0⟩: ∃V0,V0=(((w.alloc (.cells #[gu1,.slice au1 zu1 cu1,gu2,.slice au2 zu2 cu2,gu3,.slice au3 zu3 cu3] 92)).alloc (.cells #[gv1,.slice av1 zv1 cv1,gv2,.slice av2 zv2 cv2,gv3,.slice av3 zv3 cv3] 92)).alloc (.cells #[false,(),false,(),false,()] 92)):=⟨_,rfl⟩
 rw [<-hW0]
 have FR:Hid (Fbm w gu1 (.slice au1 zu1 cu1) gu2 (.slice au2 zu2 cu2) gu3 (.slice au3 zu3 cu3) gv1 (.slice av1 zv1 cv1) gv2 (.slice av2 zv2 cv2) gv3 (.slice av3 zv3 cv3) false () false () false () W0):=by rw [hW0];exact Fbm.start w _ _ _ _ _ _ _ _ _ _ _ _ _ _ _ _ _ _ _ _ _
 have HNI:Hid (ζf W0 (↑w+1+1)):=by
  have hz: ∀(i:Nat) (k:IntKind) (m:Int),(#[↑false,↑(),↑false,↑(),↑false,↑()]:Array Value)[i]? ≠some (Value.int k m):=by
   intro i k m
   match i with|0=>simp|1=>simp|2=>simp|3=>simp|4=>simp|5=>simp|n+6=>simp
  have h1:=ζf.new ((w.alloc (.cells #[gu1,.slice au1 zu1 cu1,gu2,.slice au2 zu2 cu2,gu3,.slice au3 zu3 cu3] 92)).alloc (.cells #[gv1,.slice av1 zv1 cv1,gv2,.slice av2 zv2 cv2,gv3,.slice av3 zv3 cv3] 92)) #[false,(),false,(),false,()] 92 hz
  have hs:((w.alloc (.cells #[gu1,.slice au1 zu1 cu1,gu2,.slice au2 zu2 cu2,gu3,.slice au3 zu3 cu3] 92)).alloc (.cells #[gv1,.slice av1 zv1 cv1,gv2,.slice av2 zv2 cv2,gv3,.slice av3 zv3 cv3] 92)).heap.size=w.heap.size+1+1:=by simp
  rw [hs] at h1
  unfold Hid;rw [hW0];exact h1
 clear hW0
 have hmt1: ∀(r:Value) (w:World),_:=fun r w=>(ωZ r w).1
 have U1_0:=(hu1.later FR.out.bel).later (w':=W0.drew) (Below.refl _ _).drew
 have U2_0:=(hu2.later FR.out.bel).later (w':=W0.drew) (Below.refl _ _).drew
 have U3_0:=(hu3.later FR.out.bel).later (w':=W0.drew) (Below.refl _ _).drew
 have V1_0:=(hv1.later FR.out.bel).later (w':=W0.drew) (Below.refl _ _).drew
 have V2_0:=(hv2.later FR.out.bel).later (w':=W0.drew) (Below.refl _ _).drew
 have V3_0:=(hv3.later FR.out.bel).later (w':=W0.drew) (Below.refl _ _).drew
 have NI_0:=HNI.out.later (w':=W0.drew) (Below.refl _ _).drew
 have F0:Fbm w gu1 (.slice au1 zu1 cu1) gu2 (.slice au2 zu2 cu2) gu3 (.slice au3 zu3 cu3) gv1 (.slice av1 zv1 cv1) gv2 (.slice av2 zv2 cv2) gv3 (.slice av3 zv3 cv3) false () false () false () W0.drew:=FR.out.later (Below.refl _ _).drew
 go_region_held3 (fun w'=>w'.cell? ⟨w,0,none⟩=some ↑gu1∧w'.cell? ⟨w,1,none⟩=some (.slice au1 zu1 cu1)∧w'.cell? ⟨w,2,none⟩=some ↑gu2∧w'.cell? ⟨w,3,none⟩=some (.slice au2 zu2 cu2)∧w'.cell? ⟨w,4,none⟩=some ↑gu3∧w'.cell? ⟨w,5,none⟩=some (.slice au3 zu3 cu3)∧w'.cell? ⟨↑w+1,0,none⟩=some ↑gv1∧w'.cell? ⟨↑w+1,1,none⟩=some (.slice av1 zv1 cv1)∧w'.cell? ⟨↑w+1,2,none⟩=some ↑gv2∧w'.cell? ⟨↑w+1,3,none⟩=some (.slice av2 zv2 cv2)∧w'.cell? ⟨↑w+1,4,none⟩=some ↑gv3∧w'.cell? ⟨↑w+1,5,none⟩=some (.slice av3 zv3 cv3))
  (first|with_reducible exact (F3.set2 _ _ _ _ _ _).s|with_reducible exact Fbm.s (by with_reducible assumption))
  (first
   |(have hBB:=hB2;clear hBB;go_at_call 199;refine (φg _ _ e C C' _ (by omega) U3_2 V3_2).mono ?_;rintro o w3 ⟨v3,rfl,hv3,hb3⟩;have R3_3:ζe w3 v3 (e+1) (C-C'):=hv3;obtain ⟨gr3,ar3,cr3,zr3,rfl,_,_,_⟩:=hv3;have U1_3:=U1_2.later hb3;have U2_3:=U2_2.later hb3;have U3_3:=U3_2.later hb3;have V1_3:=V1_2.later hb3;have V2_3:=V2_2.later hb3;have V3_3:=V3_2.later hb3;have NI_3:=NI_2.later hb3;have R1_3:=R1_2.later hb3;have R2_3:=R2_2.later hb3;have hB3:Below W0 W0 w3:=hB2.trans (hb3.mono hB2.size);have F3:Fbm w gu1 (.slice au1 zu1 cu1) gu2 (.slice au2 zu2 cu2) gu3 (.slice au3 zu3 cu3) gv1 (.slice av1 zv1 cv1) gv2 (.slice av2 zv2 cv2) gv3 (.slice av3 zv3 cv3) false () false () false () w3:=FR.out.later hB3;have r0:=F3.e2x0;have r1:=F3.e2x1;have r2:=F3.e2x2;have r3:=F3.e2x3;have r4:=F3.e2x4;have r5:=F3.e2x5;have rz:=F3.f2)
   |(have hBB:=hB1;clear hBB;go_at_call 199;refine (φg _ _ e B B' _ (by omega) U2_1 V2_1).mono ?_;rintro o w2 ⟨v2,rfl,hv2,hb2⟩;have R2_2:ζe w2 v2 (e+1) (B-B'):=hv2;obtain ⟨gr2,ar2,cr2,zr2,rfl,_,_,_⟩:=hv2;have U1_2:=U1_1.later hb2;have U2_2:=U2_1.later hb2;have U3_2:=U3_1.later hb2;have V1_2:=V1_1.later hb2;have V2_2:=V2_1.later hb2;have V3_2:=V3_1.later hb2;have NI_2:=NI_1.later hb2;have R1_2:=R1_1.later hb2;have hB2:Below W0 W0 w2:=hB1.trans (hb2.mono hB1.size);have F2:Fbm w gu1 (.slice au1 zu1 cu1) gu2 (.slice au2 zu2 cu2) gu3 (.slice au3 zu3 cu3) gv1 (.slice av1 zv1 cv1) gv2 (.slice av2 zv2 cv2) gv3 (.slice av3 zv3 cv3) false () false () false () w2:=FR.out.later hB2)
   |(go_at_call 199;refine (φg _ _ e A A' _ (by omega) U1_0 V1_0).mono ?_;rintro o w1 ⟨v1,rfl,hv1,hb1⟩;have R1_1:ζe w1 v1 (e+1) (A-A'):=hv1;obtain ⟨gr1,ar1,cr1,zr1,rfl,_,_,_⟩:=hv1;have U1_1:=U1_0.later hb1;have U2_1:=U2_0.later hb1;have U3_1:=U3_0.later hb1;have V1_1:=V1_0.later hb1;have V2_1:=V2_0.later hb1;have V3_1:=V3_0.later hb1;have NI_1:=NI_0.later hb1;have hB1:Below W0 W0 w1:=(Below.refl _ _).drew.trans hb1;have F1:Fbm w gu1 (.slice au1 zu1 cu1) gu2 (.slice au2 zu2 cu2) gu3 (.slice au3 zu3 cu3) gv1 (.slice av1 zv1 cv1) gv2 (.slice av2 zv2 cv2) gv3 (.slice av3 zv3 cv3) false () false () false () w1:=FR.out.later hB1))
 have HF:Hid (Fbm w gu1 (.slice au1 zu1 cu1) gu2 (.slice au2 zu2 cu2) gu3 (.slice au3 zu3 cu3) gv1 (.slice av1 zv1 cv1) gv2 (.slice av2 zv2 cv2) gv3 (.slice av3 zv3 cv3) false () false () false () w3):=F3
 have HR1:Hid (ζe w3 (.agg #[gr1,.slice ar1 zr1 cr1]) (e+1) (A-A')):=R1_3
 have HR2:Hid (ζe w3 (.agg #[gr2,.slice ar2 zr2 cr2]) (e+1) (B-B')):=R2_3
 have HR3:Hid (ζe w3 (.agg #[gr3,.slice ar3 zr3 cr3]) (e+1) (C-C')):=R3_3
 have HNN:Hid (ζf w3 (↑w+1+1)):=NI_3
 clear hB1 hb1 F1 hB2 hb2 F2 hB3 hb3 F3 U1_0 U1_1 U1_2 U1_3 U2_0 U2_1 U2_2 U2_3 U3_0 U3_1 U3_2 U3_3 V1_0 V1_1 V1_2 V1_3 V2_0 V2_1 V2_2 V2_3 V3_0 V3_1 V3_2 V3_3 NI_0 NI_1 NI_2 NI_3 R1_1 R1_2 R1_3 R2_2 R2_3 R3_3 F0
 go_wp2
 refine bodyPost_ret (v:= .agg #[gr1,.slice ar1 zr1 cr1,gr2,.slice ar2 zr2 cr2,gr3,.slice ar3 zr3 cr3]) (by simp [results,results135,go_sem,r0,r1,r2,r3,r4,r5]) rfl ?_
 refine ⟨_,rfl,⟨gr1,ar1,cr1,zr1,gr2,ar2,cr2,zr2,gr3,ar3,cr3,zr3,rfl,HR1.out.setAll [gr1,.slice ar1 zr1 cr1,gr2,.slice ar2 zr2 cr2,gr3,.slice ar3 zr3 cr3] _ 0 HNN.out (by simp [ζh]),HR2.out.setAll [gr1,.slice ar1 zr1 cr1,gr2,.slice ar2 zr2 cr2,gr3,.slice ar3 zr3 cr3] _ 0 HNN.out (by simp [ζh]),HR3.out.setAll [gr1,.slice ar1 zr1 cr1,gr2,.slice ar2 zr2 cr2,gr3,.slice ar3 zr3 cr3] _ 0 HNN.out (by simp [ζh])⟩,?_⟩
 exact (HF.out.set2 _ _ _ _ _ _).bel
structure Fbd (w:World) (m0 m1 m2 m3 m4 m5 n0 n1 n2 n3 n4 n5 p0 p1:Value) (W:World):Prop where
 e0x0:W.cell? ⟨w,0,none⟩=some m0
 e0x1:W.cell? ⟨w,1,none⟩=some m1
 e0x2:W.cell? ⟨w,2,none⟩=some m2
 e0x3:W.cell? ⟨w,3,none⟩=some m3
 e0x4:W.cell? ⟨w,4,none⟩=some m4
 e0x5:W.cell? ⟨w,5,none⟩=some m5
 f0: ∀j,W.frozen? ⟨w,j,none⟩=false
 e1x0:W.cell? ⟨↑w+1,0,none⟩=some n0
 e1x1:W.cell? ⟨↑w+1,1,none⟩=some n1
 e1x2:W.cell? ⟨↑w+1,2,none⟩=some n2
 e1x3:W.cell? ⟨↑w+1,3,none⟩=some n3
 e1x4:W.cell? ⟨↑w+1,4,none⟩=some n4
 e1x5:W.cell? ⟨↑w+1,5,none⟩=some n5
 f1: ∀j,W.frozen? ⟨↑w+1,j,none⟩=false
 e2x0:W.cell? ⟨↑w+1+1,0,none⟩=some p0
 e2x1:W.cell? ⟨↑w+1+1,1,none⟩=some p1
 f2: ∀j,W.frozen? ⟨↑w+1+1,j,none⟩=false
 le:w.heap.size+1+1+1<=W.heap.size
 bel:Below w w W
theorem Fbd.start (w:World) (m0 m1 m2 m3 m4 m5 n0 n1 n2 n3 n4 n5 p0 p1:Value) (t0 t1 t2:TypeId):Fbd w m0 m1 m2 m3 m4 m5 n0 n1 n2 n3 n4 n5 p0 p1 (((w.alloc (.cells #[m0,m1,m2,m3,m4,m5] t0)).alloc (.cells #[n0,n1,n2,n3,n4,n5] t1)).alloc (.cells #[p0,p1] t2)):=by
 constructor<;>first|exact (((ζc _ _).trans ((ζc _ _).mono (by simp<;>omega))).trans ((ζc _ _).mono (by simp<;>omega)))|simp [go_sem]
theorem Fbd.later (h:Fbd w m0 m1 m2 m3 m4 m5 n0 n1 n2 n3 n4 n5 p0 p1 W) (hb:Below W W W'):Fbd w m0 m1 m2 m3 m4 m5 n0 n1 n2 n3 n4 n5 p0 p1 W':=by
 have q:=h.le
 have z:=h.bel.trans (hb.mono h.bel.size)
 cases h
 constructor<;>first|exact ((ζj hb).1 _ _ (by omega)).trans (by with_reducible assumption)|exact z|exact Nat.le_trans q hb.size| (intro j;exact ((ζj hb).2 _ _ (by omega)).trans (by apply_assumption))
theorem Fbd.set2 (h:Fbd w m0 m1 m2 m3 m4 m5 n0 n1 n2 n3 n4 n5 p0 p1 W) (v0 v1:Value):Fbd w m0 m1 m2 m3 m4 m5 n0 n1 n2 n3 n4 n5 v0 v1 ((W.setCell ⟨↑w+1+1,0,none⟩ v0).setCell ⟨↑w+1+1,1,none⟩ v1):=by
 have hle:=h.le
 constructor<;>first|exact ((h.bel.setCell (by simp<;>omega) _).setCell (by simp<;>omega) _)| (cases h;simp [go_sem, *])
theorem Fbd.s (h:Fbd w m0 m1 m2 m3 m4 m5 n0 n1 n2 n3 n4 n5 p0 p1 w'):w'.cell? ⟨w,0,none⟩=some m0∧w'.cell? ⟨w,1,none⟩=some m1∧w'.cell? ⟨w,2,none⟩=some m2∧w'.cell? ⟨w,3,none⟩=some m3∧w'.cell? ⟨w,4,none⟩=some m4∧w'.cell? ⟨w,5,none⟩=some m5∧w'.cell? ⟨↑w+1,0,none⟩=some n0∧w'.cell? ⟨↑w+1,1,none⟩=some n1∧w'.cell? ⟨↑w+1,2,none⟩=some n2∧w'.cell? ⟨↑w+1,3,none⟩=some n3∧w'.cell? ⟨↑w+1,4,none⟩=some n4∧w'.cell? ⟨↑w+1,5,none⟩=some n5:=⟨h.e0x0,h.e0x1,h.e0x2,h.e0x3,h.e0x4,h.e0x5,h.e1x0,h.e1x1,h.e1x2,h.e1x3,h.e1x4,h.e1x5⟩
structure Fbs (w:World) (m0 m1 m2 m3 m4 m5 n0 n1 p0 p1 p2 p3 p4 p5:Value) (W:World):Prop where
 e0x0:W.cell? ⟨w,0,none⟩=some m0
 e0x1:W.cell? ⟨w,1,none⟩=some m1
 e0x2:W.cell? ⟨w,2,none⟩=some m2
 e0x3:W.cell? ⟨w,3,none⟩=some m3
 e0x4:W.cell? ⟨w,4,none⟩=some m4
 e0x5:W.cell? ⟨w,5,none⟩=some m5
 f0: ∀j,W.frozen? ⟨w,j,none⟩=false
 e1x0:W.cell? ⟨↑w+1,0,none⟩=some n0
 e1x1:W.cell? ⟨↑w+1,1,none⟩=some n1
 f1: ∀j,W.frozen? ⟨↑w+1,j,none⟩=false
 e2x0:W.cell? ⟨↑w+1+1,0,none⟩=some p0
 e2x1:W.cell? ⟨↑w+1+1,1,none⟩=some p1
 e2x2:W.cell? ⟨↑w+1+1,2,none⟩=some p2
 e2x3:W.cell? ⟨↑w+1+1,3,none⟩=some p3
 e2x4:W.cell? ⟨↑w+1+1,4,none⟩=some p4
 e2x5:W.cell? ⟨↑w+1+1,5,none⟩=some p5
 f2: ∀j,W.frozen? ⟨↑w+1+1,j,none⟩=false
 le:w.heap.size+1+1+1<=W.heap.size
 bel:Below w w W
theorem Fbs.start (w:World) (m0 m1 m2 m3 m4 m5 n0 n1 p0 p1 p2 p3 p4 p5:Value) (t0 t1 t2:TypeId):Fbs w m0 m1 m2 m3 m4 m5 n0 n1 p0 p1 p2 p3 p4 p5 (((w.alloc (.cells #[m0,m1,m2,m3,m4,m5] t0)).alloc (.cells #[n0,n1] t1)).alloc (.cells #[p0,p1,p2,p3,p4,p5] t2)):=by
 constructor<;>first|exact (((ζc _ _).trans ((ζc _ _).mono (by simp<;>omega))).trans ((ζc _ _).mono (by simp<;>omega)))|simp [go_sem]
theorem Fbs.later (h:Fbs w m0 m1 m2 m3 m4 m5 n0 n1 p0 p1 p2 p3 p4 p5 W) (hb:Below W W W'):Fbs w m0 m1 m2 m3 m4 m5 n0 n1 p0 p1 p2 p3 p4 p5 W':=by
 have q:=h.le
 have z:=h.bel.trans (hb.mono h.bel.size)
 cases h
 constructor<;>first|exact ((ζj hb).1 _ _ (by omega)).trans (by with_reducible assumption)|exact z|exact Nat.le_trans q hb.size| (intro j;exact ((ζj hb).2 _ _ (by omega)).trans (by apply_assumption))
theorem Fbs.set2 (h:Fbs w m0 m1 m2 m3 m4 m5 n0 n1 p0 p1 p2 p3 p4 p5 W) (v0 v1 v2 v3 v4 v5:Value):Fbs w m0 m1 m2 m3 m4 m5 n0 n1 v0 v1 v2 v3 v4 v5 ((((((W.setCell ⟨↑w+1+1,0,none⟩ v0).setCell ⟨↑w+1+1,1,none⟩ v1).setCell ⟨↑w+1+1,2,none⟩ v2).setCell ⟨↑w+1+1,3,none⟩ v3).setCell ⟨↑w+1+1,4,none⟩ v4).setCell ⟨↑w+1+1,5,none⟩ v5):=by
 have hle:=h.le
 constructor<;>first|exact ((((((h.bel.setCell (by simp<;>omega) _).setCell (by simp<;>omega) _).setCell (by simp<;>omega) _).setCell (by simp<;>omega) _).setCell (by simp<;>omega) _).setCell (by simp<;>omega) _)| (cases h;simp [go_sem, *])
theorem Fbs.s (h:Fbs w m0 m1 m2 m3 m4 m5 n0 n1 p0 p1 p2 p3 p4 p5 w'):w'.cell? ⟨w,0,none⟩=some m0∧w'.cell? ⟨w,1,none⟩=some m1∧w'.cell? ⟨w,2,none⟩=some m2∧w'.cell? ⟨w,3,none⟩=some m3∧w'.cell? ⟨w,4,none⟩=some m4∧w'.cell? ⟨w,5,none⟩=some m5∧w'.cell? ⟨↑w+1,0,none⟩=some n0∧w'.cell? ⟨↑w+1,1,none⟩=some n1:=⟨h.e0x0,h.e0x1,h.e0x2,h.e0x3,h.e0x4,h.e0x5,h.e1x0,h.e1x1⟩
theorem ξH (u v:Value) (e f:Nat) (A B C D:Int) (w:World) (he:e+f<=29000) (hu:ζM w u e A B C) (hv:ζe w v f D):
 Calls prog 153 #[u,v] w fun o w'=>ψJ w (e+f) (A*D) (B*D) (C*D) o w':=by
 obtain ⟨gu1,au1,cu1,zu1,gu2,au2,cu2,zu2,gu3,au3,cu3,zu3,rfl,hu1,hu2,hu3⟩:=hu
 have hd:=hv
 obtain ⟨gd,ad,cd,zd,rfl,_,_,_⟩:=hv
 go_enter func153,ntmps153
 go_wp2_with fail
 obtain ⟨W0,hW0⟩: ∃V0,V0=(((w.alloc (.cells #[gu1,.slice au1 zu1 cu1,gu2,.slice au2 zu2 cu2,gu3,.slice au3 zu3 cu3] 92)).alloc (.cells #[gd,.slice ad zd cd] 31)).alloc (.cells #[false,(),false,(),false,()] 92)):=⟨_,rfl⟩
 rw [<-hW0]
 have FR:Hid (Fbs w gu1 (.slice au1 zu1 cu1) gu2 (.slice au2 zu2 cu2) gu3 (.slice au3 zu3 cu3) gd (.slice ad zd cd) false () false () false () W0):=by rw [hW0];exact Fbs.start w _ _ _ _ _ _ _ _ _ _ _ _ _ _ _ _ _
 have HNI:Hid (ζf W0 (↑w+1+1)):=by
  have hz: ∀(i:Nat) (k:IntKind) (m:Int),(#[↑false,↑(),↑false,↑(),↑false,↑()]:Array Value)[i]? ≠some (Value.int k m):=by
   intro i k m
   match i with|0=>simp|1=>simp|2=>simp|3=>simp|4=>simp|5=>simp|n+6=>simp
  have h1:=ζf.new ((w.alloc (.cells #[gu1,.slice au1 zu1 cu1,gu2,.slice au2 zu2 cu2,gu3,.slice au3 zu3 cu3] 92)).alloc (.cells #[gd,.slice ad zd cd] 31)) #[false,(),false,(),false,()] 92 hz
  have hs:((w.alloc (.cells #[gu1,.slice au1 zu1 cu1,gu2,.slice au2 zu2 cu2,gu3,.slice au3 zu3 cu3] 92)).alloc (.cells #[gd,.slice ad zd cd] 31)).heap.size=w.heap.size+1+1:=by simp
  rw [hs] at h1
  unfold Hid;rw [hW0];exact h1
 clear hW0
 have hmt2_2_1: ∀(r:Value) (w:World),_:=fun r w=>(ωZ r w).2.2.1
 have U1_0:=(hu1.later FR.out.bel).later (w':=W0.drew) (Below.refl _ _).drew
 have U2_0:=(hu2.later FR.out.bel).later (w':=W0.drew) (Below.refl _ _).drew
 have U3_0:=(hu3.later FR.out.bel).later (w':=W0.drew) (Below.refl _ _).drew
 have DD_0:=(hd.later FR.out.bel).later (w':=W0.drew) (Below.refl _ _).drew
 have NI_0:=HNI.out.later (w':=W0.drew) (Below.refl _ _).drew
 have F0:Fbs w gu1 (.slice au1 zu1 cu1) gu2 (.slice au2 zu2 cu2) gu3 (.slice au3 zu3 cu3) gd (.slice ad zd cd) false () false () false () W0.drew:=FR.out.later (Below.refl _ _).drew
 go_region_held3 (fun w'=>w'.cell? ⟨w,0,none⟩=some ↑gu1∧w'.cell? ⟨w,1,none⟩=some (.slice au1 zu1 cu1)∧w'.cell? ⟨w,2,none⟩=some ↑gu2∧w'.cell? ⟨w,3,none⟩=some (.slice au2 zu2 cu2)∧w'.cell? ⟨w,4,none⟩=some ↑gu3∧w'.cell? ⟨w,5,none⟩=some (.slice au3 zu3 cu3)∧w'.cell? ⟨↑w+1,0,none⟩=some ↑gd∧w'.cell? ⟨↑w+1,1,none⟩=some (.slice ad zd cd))
  (first|with_reducible exact (F3.set2 _ _ _ _ _ _).s|with_reducible exact Fbs.s (by with_reducible assumption))
  (first
   |(have hBB:=hB2;clear hBB;go_at_call 53;refine (ξR _ _ e f C D _ (by omega) U3_2 DD_2).mono ?_;rintro o w3 ⟨v3,rfl,hv3,hb3⟩;have R3_3:ζe w3 v3 (e+f) (C*D):=hv3;obtain ⟨gr3,ar3,cr3,zr3,rfl,_,_,_⟩:=hv3;have U1_3:=U1_2.later hb3;have U2_3:=U2_2.later hb3;have U3_3:=U3_2.later hb3;have DD_3:=DD_2.later hb3;have NI_3:=NI_2.later hb3;have R1_3:=R1_2.later hb3;have R2_3:=R2_2.later hb3;have hB3:Below W0 W0 w3:=hB2.trans (hb3.mono hB2.size);have F3:Fbs w gu1 (.slice au1 zu1 cu1) gu2 (.slice au2 zu2 cu2) gu3 (.slice au3 zu3 cu3) gd (.slice ad zd cd) false () false () false () w3:=FR.out.later hB3;have r0:=F3.e2x0;have r1:=F3.e2x1;have r2:=F3.e2x2;have r3:=F3.e2x3;have r4:=F3.e2x4;have r5:=F3.e2x5;have rz:=F3.f2)
   |(have hBB:=hB1;clear hBB;go_at_call 53;refine (ξR _ _ e f B D _ (by omega) U2_1 DD_1).mono ?_;rintro o w2 ⟨v2,rfl,hv2,hb2⟩;have R2_2:ζe w2 v2 (e+f) (B*D):=hv2;obtain ⟨gr2,ar2,cr2,zr2,rfl,_,_,_⟩:=hv2;have U1_2:=U1_1.later hb2;have U2_2:=U2_1.later hb2;have U3_2:=U3_1.later hb2;have DD_2:=DD_1.later hb2;have NI_2:=NI_1.later hb2;have R1_2:=R1_1.later hb2;have hB2:Below W0 W0 w2:=hB1.trans (hb2.mono hB1.size);have F2:Fbs w gu1 (.slice au1 zu1 cu1) gu2 (.slice au2 zu2 cu2) gu3 (.slice au3 zu3 cu3) gd (.slice ad zd cd) false () false () false () w2:=FR.out.later hB2)
   |(go_at_call 53;refine (ξR _ _ e f A D _ (by omega) U1_0 DD_0).mono ?_;rintro o w1 ⟨v1,rfl,hv1,hb1⟩;have R1_1:ζe w1 v1 (e+f) (A*D):=hv1;obtain ⟨gr1,ar1,cr1,zr1,rfl,_,_,_⟩:=hv1;have U1_1:=U1_0.later hb1;have U2_1:=U2_0.later hb1;have U3_1:=U3_0.later hb1;have DD_1:=DD_0.later hb1;have NI_1:=NI_0.later hb1;have hB1:Below W0 W0 w1:=(Below.refl _ _).drew.trans hb1;have F1:Fbs w gu1 (.slice au1 zu1 cu1) gu2 (.slice au2 zu2 cu2) gu3 (.slice au3 zu3 cu3) gd (.slice ad zd cd) false () false () false () w1:=FR.out.later hB1))
 have HF:Hid (Fbs w gu1 (.slice au1 zu1 cu1) gu2 (.slice au2 zu2 cu2) gu3 (.slice au3 zu3 cu3) gd (.slice ad zd cd) false () false () false () w3):=F3
 have HR1:Hid (ζe w3 (.agg #[gr1,.slice ar1 zr1 cr1]) (e+f) (A*D)):=R1_3
 have HR2:Hid (ζe w3 (.agg #[gr2,.slice ar2 zr2 cr2]) (e+f) (B*D)):=R2_3
 have HR3:Hid (ζe w3 (.agg #[gr3,.slice ar3 zr3 cr3]) (e+f) (C*D)):=R3_3
 have HNN:Hid (ζf w3 (↑w+1+1)):=NI_3
 clear hB1 hb1 F1 hB2 hb2 F2 hB3 hb3 F3 U1_0 U1_1 U1_2 U1_3 U2_0 U2_1 U2_2 U2_3 U3_0 U3_1 U3_2 U3_3 DD_0 DD_1 DD_2 DD_3 NI_0 NI_1 NI_2 NI_3 R1_1 R1_2 R1_3 R2_2 R2_3 R3_3 F0
 go_wp2
 refine bodyPost_ret (v:= .agg #[gr1,.slice ar1 zr1 cr1,gr2,.slice ar2 zr2 cr2,gr3,.slice ar3 zr3 cr3]) (by simp [results,results153,go_sem,r0,r1,r2,r3,r4,r5]) rfl ?_
 refine ⟨_,rfl,⟨gr1,ar1,cr1,zr1,gr2,ar2,cr2,zr2,gr3,ar3,cr3,zr3,rfl,HR1.out.setAll [gr1,.slice ar1 zr1 cr1,gr2,.slice ar2 zr2 cr2,gr3,.slice ar3 zr3 cr3] _ 0 HNN.out (by simp [ζh]),HR2.out.setAll [gr1,.slice ar1 zr1 cr1,gr2,.slice ar2 zr2 cr2,gr3,.slice ar3 zr3 cr3] _ 0 HNN.out (by simp [ζh]),HR3.out.setAll [gr1,.slice ar1 zr1 cr1,gr2,.slice ar2 zr2 cr2,gr3,.slice ar3 zr3 cr3] _ 0 HNN.out (by simp [ζh])⟩,?_⟩
 exact (HF.out.set2 _ _ _ _ _ _).bel
end Go.Proofs.YtfieffpobgcpmaaGreatDoor
