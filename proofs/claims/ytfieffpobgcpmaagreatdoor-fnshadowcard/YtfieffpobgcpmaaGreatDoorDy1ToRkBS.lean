import Derived.Test.YtfieffpobgcpmaaGreatDoorSpecEToDy1hS
import Derived.Test.YtfieffpobgcpmaaGreatDoorImplBToImplDS
import Derived.Test.YtfieffpobgcpmaaGreatDoorDy2NumDNumFNumGS
import Derived.Test.YtfieffpobgcpmaaGreatDoorNumWToNumNS
import Derived.Test.YtfieffpobgcpmaaGreatDoorWiGToMdAS
import Derived.Test.YtfieffpobgcpmaaGreatDoorFrBFrCFrDFwAS
import Derived.Test.YtfieffpobgcpmaaGreatDoorBgNReARkACoAS
set_option maxRecDepth 100000
set_option maxHeartbeats 32000000
namespace Go.Proofs.YtfieffpobgcpmaaGreatDoor
open Go.RowKit
theorem κU (g:Bool) (a:Option Addr) (c:Nat) (ds:List Int) (m E:Int) (w:World) (hn:ds.length<=1048576) (h:L1 w g a c ds m):
 Calls Tryz.prog 144 #[.agg #[g,.slice a ds c,.int .i64 E]] w fun e w'=> ∃g' ds',e= .returned (.agg #[.bool g',.slice a ds'.length c,.int .i64 E])∧ds'.length<=ds.length∧L1 w' g' a c ds' (-m)∧Below w w w':=by
 have B0:Hid (∀t t',Bx3 w g (.slice a ds c) (.int .i64 E) ((w.alloc (.cells #[g,.slice a ds c,.int .i64 E] t)).alloc (.cells #[false,(),.int .i64 0] t'))):=fun t t'=>Bx3.start w _ _ _ _ _
 go_enter Tryz.func144,Tryz.ntmps144
 go_wp2
 obtain ⟨W0,hW0⟩: ∃W0,W0=((w.alloc (.cells #[g,.slice a ds c,.int .i64 E] 176)).alloc (.cells #[false,(),.int .i64 0] 176)):=⟨_,rfl⟩
 have F:Hid (Bx3 w g (.slice a ds c) (.int .i64 E) W0):=by unfold Hid;rw [hW0];exact B0.out _ _
 rw [<-hW0]
 clear hW0 B0
 have zz:w.heap.size+1<W0.heap.size:=F.out.le
 go_region_held3 (fun w'=>w'.cell? ⟨w,0,none⟩=some ↑g∧w'.cell? ⟨w,1,none⟩=some (.slice a ds c)∧w'.cell? ⟨w,2,none⟩=some (.int .i64 E)∧Below (↑w+1) W0 w')
  (first|exact F.out.held (Below.refl _ _).drew|exact F.out.held (by assumption)|exact F.out.held (Below.setCell (Below.setCell (Below.setCell (by assumption) (by simp) _) (by simp) _) (by simp) _))
  (first
   |(go_at_call 117;refine (θQ g a c ds m _ (by omega) (h.later F.out.bel.drew)).mono ?_;rintro e w2 ⟨g2,ds2,rfl,hl2,hL2,hb2⟩;have hB2:Below W0 W0 w2:=(Below.refl _ _).drew.trans hb2;have hB2':Below (↑w+1) W0 w2:=hB2.mono (by omega);have F2:Hid (Bx3 w g (.slice a ds c) (.int .i64 E) w2):=F.out.later hB2;have r1:=F2.out.r1;have r2:=F2.out.r2;have r3:=F2.out.r3;have r4:=F2.out.r4))
 have HL2:Hid (L1 w2 g2 a c ds2 (-m)):=hL2
 clear hL2 hB2 hB2' hb2
 go_wp2
 refine bodyPost_ret (v:= .agg #[g2,.slice a ds2 c,.int .i64 E]) (by simp [results,Tryz.results144,go_sem,r1,r2,r3]) rfl ?_
 refine ⟨g2,ds2,rfl,by omega,?_,?_⟩
 ·exact ((HL2.out.setNew h.sl.row hl2 (by simp) _).setNew h.sl.row hl2 (by simp) _).setNew h.sl.row hl2 (by simp) _
 ·exact ((F2.out.bel.setCell (by simp) _).setCell (by simp) _).setCell (by simp) _
structure LV where
 g:Bool
 a:Option Addr
 c:Nat
 fs:List Int
 m:Int
 e:Int
instance:Inhabited LV:=⟨⟨false,none,0,[],0,0⟩⟩
section
variable {W0 : World} {A : Nat} {G : Bool} {a : Option Addr} {c : Nat} {fs : List Int} {m e : Int} {W W' : World}
end
def ζF (w:World) (v:Value) (n:Nat) (A B C:Int):Prop:= ∃(g1:Bool) (a1:Option Addr) (c1:Nat) (z1:List Int) (g2:Bool) (a2:Option Addr) (c2:Nat) (z2:List Int) (g3:Bool) (a3:Option Addr) (c3:Nat) (z3:List Int),v= .agg #[g1,.slice a1 z1 c1,g2,.slice a2 z2 c2,g3,.slice a3 z3 c3]∧MIs w (.agg #[g1,.slice a1 z1 c1]) n A∧MIs w (.agg #[g2,.slice a2 z2 c2]) n B∧MIs w (.agg #[g3,.slice a3 z3 c3]) n C
def ωl (w:World) (n:Nat) (A B C:Int) (o:Ending) (w':World):Prop:= ∃v,o= .returned v∧ζF w' v n A B C∧Below w w w'
theorem ζF.later {w w':World} {v:Value} {n:Nat} {A B C:Int} (h:ζF w v n A B C) (hb:Below w w w'):ζF w' v n A B C:=by
 obtain ⟨g1,a1,c1,z1,g2,a2,c2,z2,g3,a3,c3,z3,rfl,h1,h2,h3⟩:=h
 exact ⟨g1,a1,c1,z1,g2,a2,c2,z2,g3,a3,c3,z3,rfl,h1.later hb,h2.later hb,h3.later hb⟩
theorem ζF.setAll {v:Value} {n:Nat} {A B C:Int} {b:Nat} (us:List Value) (w:World) (i:Nat) (h:ζF w v n A B C) (hn:ζf w b) (hu: ∀u∈us,ζh u):ζF (Go.Proofs.YtfieffpobgcpmaaGreatDoor.setAll w b i us) v n A B C:=by
 obtain ⟨g1,a1,c1,z1,g2,a2,c2,z2,g3,a3,c3,z3,rfl,h1,h2,h3⟩:=h
 exact ⟨g1,a1,c1,z1,g2,a2,c2,z2,g3,a3,c3,z3,rfl,h1.setAll us w i hn hu,h2.setAll us w i hn hu,h3.setAll us w i hn hu⟩
structure LW where
 x:LV
 y:LV
 z:LV
instance:Inhabited LW:=⟨⟨default,default,default⟩⟩
def LW.cells (v:LW):List Value:=[.bool v.x.g,.slice v.x.a v.x.fs v.x.c,.bool v.y.g,.slice v.y.a v.y.fs v.y.c,.bool v.z.g,.slice v.z.a v.z.fs v.z.c]
def LW.v (l:LW):V3:=⟨l.x.m,l.y.m,l.z.m⟩
def LV.cs (l:LV):List Value:=[.bool l.g,.slice l.a l.fs l.c]
theorem MIs.lv {w:World} {v:Value} {n:Nat} {x:Int} (h:MIs w v n x): ∃l:LV,v= .agg l.cs.toArray:=by
 obtain ⟨g,a,c,z,rfl,_⟩:=h
 exact ⟨⟨g,a,c,z,0,0⟩,rfl⟩
def V3s (w:World) (l:LW) (n:Nat) (A B C:Int):Prop:=MIs w (.agg l.x.cs.toArray) n A∧MIs w (.agg l.y.cs.toArray) n B∧MIs w (.agg l.z.cs.toArray) n C
theorem V3s.later {w w':World} {l:LW} {n:Nat} {A B C:Int} (h:V3s w l n A B C) (hb:Below w w w'):V3s w' l n A B C:=⟨h.1.later hb,h.2.1.later hb,h.2.2.later hb⟩
theorem V3s.vec {w:World} {l:LW} {n:Nat} {A B C:Int} (h:V3s w l n A B C):ζF w (.agg l.cells.toArray) n A B C:=⟨_,_,_,_,_,_,_,_,_,_,_,_,rfl,h⟩
theorem ζF.s {w:World} {v:Value} {n:Nat} {A B C:Int} (h:ζF w v n A B C): ∃l:LW,v= .agg l.cells.toArray∧V3s w l n A B C:=by
 obtain ⟨g1,a1,c1,z1,g2,a2,c2,z2,g3,a3,c3,z3,rfl,h⟩:=h
 exact ⟨⟨⟨g1,a1,c1,z1,0,0⟩,⟨g2,a2,c2,z2,0,0⟩,⟨g3,a3,c3,z3,0,0⟩⟩,rfl,h⟩
theorem ζF.lw {w:World} {v:Value} {n:Nat} {A B C:Int} (h:ζF w v n A B C): ∃l:LW,v= .agg l.cells.toArray:=by
 obtain ⟨l,h,_⟩:=h.s
 exact ⟨l,h⟩
theorem ζF.up {w:World} {v:Value} {n m:Nat} {A B C:Int} (h:ζF w v n A B C) (hm:n<=m):ζF w v m A B C:=by
 obtain ⟨g1,a1,c1,z1,g2,a2,c2,z2,g3,a3,c3,z3,rfl,h1,h2,h3⟩:=h
 exact ⟨g1,a1,c1,z1,g2,a2,c2,z2,g3,a3,c3,z3,rfl,h1.up hm,h2.up hm,h3.up hm⟩
theorem LW.ni (l:LW): ∀u∈l.cells,ζh u:=by simp [LW.cells,ζh]
theorem LW.one (l:LW):l.cells.toArray.all (·.oneCell')=true:=all_oneCell_toArray (by simp [LW.cells,Value.oneCell'])
theorem LV.ni (l:LV): ∀u∈l.cs,ζh u:=by simp [LV.cs,ζh]
theorem LV.one (l:LV):l.cs.toArray.all (·.oneCell')=true:=all_oneCell_toArray (by simp [LV.cs,Value.oneCell'])
structure Mc0 (w:World) (U V Z:List Value) (W:World):Prop where
 l:Cs W w U
 t:Cs W (↑w+1) V
 z:Cs W (↑w+1+1) Z
 i0:ζf W (↑w+1+1)
 bel:Below w w W
theorem Mc0.later {w:World} {U V Z:List Value} {W W':World} (h:Mc0 w U V Z W) (hb:Below W W W'):Mc0 w U V Z W':=
 ⟨h.l.later hb,h.t.later hb,h.z.later hb,h.i0.later hb,h.bel.trans (hb.mono h.bel.size)⟩
theorem Mc0.start (w:World) (U V Z:Array Value) (t0 t1 t2:TypeId) (hZ:Z.toList.all nI=true):Mc0 w U.toList V.toList Z.toList (((w.alloc (.cells U t0)).alloc (.cells V t1)).alloc (.cells Z t2)):=by
 have h1:=Cs.new (w.alloc (.cells U t0)) V t1
 have h2:=Cs.new ((w.alloc (.cells U t0)).alloc (.cells V t1)) Z t2
 have h3:=ζf.newL ((w.alloc (.cells U t0)).alloc (.cells V t1)) Z t2 hZ
 have e1:(w.alloc (.cells U t0)).heap.size=w.heap.size+1:=by simp
 have e2:((w.alloc (.cells U t0)).alloc (.cells V t1)).heap.size=w.heap.size+1+1:=by simp
 rw [e1] at h1
 rw [e2] at h2 h3
 exact ⟨((Cs.new w U t0).later (ζc _ _)).later (ζc _ _),h1.later (ζc _ _),h2,h3,((ζc _ _).trans ((ζc _ _).mono (by simp<;>omega))).trans ((ζc _ _).mono (by simp<;>omega))⟩
theorem sT (l:List Value) (i:Nat) (a:Value):l.toArray.setIfInBounds i a=(l.set i a).toArray:=List.setIfInBounds_toArray ..
theorem sS (x:Value) (l:List Value) (i:Nat) (a:Value):(x::l).set (i+1) a=x::l.set i a:=List.set_cons_succ ..
theorem sZ (x:Value) (l:List Value) (a:Value):(x::l).set 0 a=a::l:=List.set_cons_zero ..
section
variable {P : Program} {ops : Array Oper} {Q : Exit -> Act -> World -> Prop} {md : Region.Mode} {S : World -> Prop} {last : Nat}
theorem ζb.two {i j n:Nat} {oi oj:Oper} {li:Array Bool} {a:Act} {w:World} (hr:Region.ready md ops li=[i,j]) (hi:ops[i]? =some oi) (hj:ops[j]? =some oj) (hgi:oi.guard=none) (hgj:oj.guard=none)
 (h1: ∀K:Act->World->Prop,(∀a' w',(i≠last->S w')->ζb P md ops Q S last n (li.setIfInBounds i true) a' w'->K a' w')->oi.wp P a w K Q)
 (h2: ∀K:Act->World->Prop,(∀a' w',(j≠last->S w')->ζb P md ops Q S last n (li.setIfInBounds j true) a' w'->K a' w')->oj.wp P a w K Q):ζb P md ops Q S last (n+1) li a w:=by
 refine ⟨fun q=>absurd q (by rw [hr];simp),fun k hk=> ?_⟩
 rw [hr] at hk
 have:k=i∨k=j:=by simpa using hk
 rcases this with rfl|rfl
 ·unfold wpOp
  rw [hi]
  simp only [Region.wanted,hgi,if_true]
  exact .inl (h1 _ fun a' w' h1 h2=>⟨h1,h2⟩)
 ·unfold wpOp
  rw [hj]
  simp only [Region.wanted,hgj,if_true]
  exact .inl (h2 _ fun a' w' h1 h2=>⟨h1,h2⟩)
theorem ζb.takeT {i n d:Nat} {o ol:Oper} {v:Value} {li:Array Bool} {tm:Array Value} {df:List Deferred} {w:World} (hi:ops[i]? =some o) (hol:ops[last]? =some ol)
 (hs:Region.noSelect ops=true) (hf:Region.free md ops li i=true) (hr:(Region.ready md ops li).contains i=true) (hel:(ol.after.any fun e=>Region.binds md e && e.on==i)=true) (hne:(i==last)=false)
 (hQ: ∀c a w,Q (.panic c) (a.put o.dst v) w->Q (.panic c) a w) (hd:o.dst=some d) (hy:YieldsIf P ops S o v ⟨tm,df⟩) (hw:S w)
 (h:ζb P md ops Q S last n (li.setIfInBounds i true) ⟨tm.setIfInBounds d v,df⟩ w):ζb P md ops Q S last (n+1) li ⟨tm,df⟩ w:=
 ζb.take hi hol hs hf hr hel hne hQ hy hw (by unfold Act.put;rw [hd];exact h)
theorem ζb.tk (i d:Nat) (v:Value) {n:Nat} {o ol:Oper} {li:Array Bool} {tm:Array Value} {df:List Deferred} {w:World} (hi:ops[i]? =some o) (hol:ops[last]? =some ol)
 (hb:(Region.noSelect ops && Region.free md ops li i && (Region.ready md ops li).contains i && (ol.after.any fun e=>Region.binds md e && e.on==i) && !(i==last))=true)
 (hQ: ∀c a w,Q (.panic c) (a.put o.dst v) w->Q (.panic c) a w) (hd:o.dst=some d) (hy:YieldsIf P ops S o v ⟨tm,df⟩) (hw:S w)
 (h:ζb P md ops Q S last n (li.setIfInBounds i true) ⟨tm.setIfInBounds d v,df⟩ w):ζb P md ops Q S last (n+1) li ⟨tm,df⟩ w:=by
 rw [Bool.and_eq_true,Bool.and_eq_true,Bool.and_eq_true,Bool.and_eq_true,Bool.not_eq_true'] at hb
 obtain ⟨⟨⟨⟨h1,h2⟩,h3⟩,h4⟩,h5⟩:=hb
 exact ζb.takeT hi hol h1 h2 h3 h4 h5 hQ hd hy hw h
theorem ζb.ld (i d:Nat) (ty:TypeId) (t b o:Nat) (cs:List Value) {n:Nat} {p ol:Oper} {li:Array Bool} {tm:Array Value} {df:List Deferred} {w:World} {ds:TypeDesc} (hS: ∀w,S w->w.rangeAt b o cs) (hu:P.underlying ty=some ds) (hw:S w)
 (h:ζb P md ops Q S last n (li.setIfInBounds i true) ⟨tm.setIfInBounds d (.agg cs.toArray),df⟩ w) (hi:ops[i]? =some p:=by rfl) (hol:ops[last]? =some ol:=by rfl)
 (hb:(Region.noSelect ops && Region.free md ops li i && (Region.ready md ops li).contains i && (ol.after.any fun e=>Region.binds md e && e.on==i) && !(i==last))=true:=by kernel_rfl)
 (hQ: ∀c a w,Q (.panic c) (a.put p.dst (.agg cs.toArray)) w->Q (.panic c) a w:=by exact fun _ _ _ h=>h) (hd:p.dst=some d:=by rfl) (hg:Region.wanted p (yielded ops tm)=true:=by rfl) (ho:p.op= .load ty (.tmp t):=by rfl) (hx:Act.eval ⟨tm,df⟩ (.tmp t)= .pointer (some ⟨b,o,none⟩):=by rfl) (hr:ds.isRow=true:=by rfl) (hz:(P.info? ty).map (·.size)=some cs.length:=by kernel_rfl):ζb P md ops Q S last (n+1) li ⟨tm,df⟩ w:=
 ζb.tk i d _ hi hol hb hQ hd (yieldsIf_load_mid hg ty (.tmp t) ho b o hx cs ds hS hu hr hz) hw h
theorem ζb.pu (i d:Nat) (v:Value) {n:Nat} {p ol:Oper} {li:Array Bool} {tm:Array Value} {df:List Deferred} {w:World} (hw:S w)
 (h:ζb P md ops Q S last n (li.setIfInBounds i true) ⟨tm.setIfInBounds d v,df⟩ w) (hi:ops[i]? =some p:=by rfl) (hol:ops[last]? =some ol:=by rfl)
 (hb:(Region.noSelect ops && Region.free md ops li i && (Region.ready md ops li).contains i && (ol.after.any fun e=>Region.binds md e && e.on==i) && !(i==last))=true:=by kernel_rfl)
 (hQ: ∀c a w,Q (.panic c) (a.put p.dst v) w->Q (.panic c) a w:=by exact fun _ _ _ h=>h) (hd:p.dst=some d:=by rfl) (hy:YieldsIf P ops S p v ⟨tm,df⟩:=by exact Or.inl ⟨rfl,fun w' _=>by go_simp⟩):ζb P md ops Q S last (n+1) li ⟨tm,df⟩ w:=
 ζb.tk i d v hi hol hb hQ hd hy hw h
theorem ζb.pk (i d:Nat) (v:Value) {n:Nat} {p ol:Oper} {li:Array Bool} {tm:Array Value} {df:List Deferred} {w:World} (hw:S w)
 (h:ζb P md ops Q S last n (li.setIfInBounds i true) ⟨tm.setIfInBounds d v,df⟩ w) (hi:ops[i]? =some p:=by rfl) (hol:ops[last]? =some ol:=by rfl)
 (hb:(Region.noSelect ops && Region.free md ops li i && (Region.ready md ops li).contains i && (ol.after.any fun e=>Region.binds md e && e.on==i) && !(i==last))=true:=by kernel_rfl)
 (hQ: ∀c a w,Q (.panic c) (a.put p.dst v) w->Q (.panic c) a w:=by exact fun _ _ _ h=>h) (hd:p.dst=some d:=by rfl) (hy:YieldsIf P ops S p v ⟨tm,df⟩:=by exact Or.inl ⟨rfl,fun w' _=>by kernel_rfl⟩):ζb P md ops Q S last (n+1) li ⟨tm,df⟩ w:=
 ζb.tk i d v hi hol hb hQ hd hy hw h
theorem ζb.on (i:Nat) {n:Nat} {p:Oper} {li:Array Bool} {a:Act} {w:World} (h: ∀K:Act->World->Prop,Hid (∀a' w',(i≠last->S w')->ζb P md ops Q S last n (li.setIfInBounds i true) a' w'->K a' w')->p.wp P a w K Q) (hr:Region.ready md ops li=[i]:=by kernel_rfl) (hi:ops[i]? =some p:=by rfl) (hg:p.guard=none:=by rfl):ζb P md ops Q S last (n+1) li a w:=ζb.one hr hi hg h
theorem ζb.rg {id:Nat} {a:Act} {W0:World} (HK:Hid (∀w',Below W0 W0 w'->S w')) (last:Nat) (h: ∀WD,Below W0 W0 WD->S WD->ζb P .any ops Q S last ops.size (Array.replicate ops.size false) a WD) (hm:P.follows .mixedOrders=true:=by kernel_rfl):(Code.region id ops true).wp P Q a W0:=ζb.region S last hm (h _ (Below.refl _ _).drew (HK.out _ (Below.refl _ _).drew))
structure ζ0 (P:Program) (md:Region.Mode) (ops:Array Oper) (Q:Exit->Act->World->Prop) (S:World->Prop) (last:Nat) (cs bs:List Nat) (n:Nat) (li:Array Bool) (a:Act) (w:World):Prop where
 out:ζb P md ops Q S last n li a w
structure ξa (P:Program) (md:Region.Mode) (ops:Array Oper) (Q:Exit->Act->World->Prop) (S:World->Prop) (last:Nat) (cs bs:List Nat) (n:Nat) (li:Array Bool) (a:Act) (w:World) (o:Oper) (i:Nat):Prop where
 out: ∀K:Act->World->Prop,Hid (∀a' w',(i≠last->S w')->ζ0 P md ops Q S last cs bs n (li.setIfInBounds i true) a' w'->K a' w')->o.wp P a w K Q
theorem ξa.go {cs bs:List Nat} {n:Nat} {li:Array Bool} {a:Act} {w:World} {o:Oper} (i:Nat) (h: ∀K:Act->World->Prop,Hid (∀a' w',(i≠last->S w')->ζ0 P md ops Q S last cs bs n (li.setIfInBounds i true) a' w'->K a' w')->o.wp P a w K Q):ξa P md ops Q S last cs bs n li a w o i:=⟨h⟩
theorem ξa.k {cs bs:List Nat} {n i:Nat} {li:Array Bool} {a:Act} {w:World} {o:Oper} (h:ξa P md ops Q S last cs bs n li a w o i) (K:Act->World->Prop) (hK: ∀a' w',(i≠last->S w')->ζb P md ops Q S last n (li.setIfInBounds i true) a' w'->K a' w'):o.wp P a w K Q:=h.out K fun a' w' s q=>hK a' w' s q.out
theorem ζ0.c {c n:Nat} {cs:List Nat} {o:Oper} {li:Array Bool} {a:Act} {w:World} (hr:Region.ready md ops li=[c]) (hi:ops[c]? =some o) (hg:o.guard=none) (h:ξa P md ops Q S last cs [] n li a w o c):ζ0 P md ops Q S last (c::cs) [] (n+1) li a w:=⟨ζb.one hr hi hg h.k⟩
theorem ζ0.b {b n:Nat} {o:Oper} {li:Array Bool} {a:Act} {w:World} (hr:Region.ready md ops li=[b]) (hi:ops[b]? =some o) (hg:o.guard=none) (h:ξa P md ops Q S last [] [] n li a w o b):ζ0 P md ops Q S last [] [b] (n+1) li a w:=⟨ζb.one hr hi hg h.k⟩
theorem ζ0.cb {c b n:Nat} {cs:List Nat} {o o':Oper} {li:Array Bool} {a:Act} {w:World} (hr:Region.ready md ops li=if c<b then [c,b] else [b,c]) (hi:ops[c]? =some o) (hj:ops[b]? =some o') (hg:o.guard=none) (hg':o'.guard=none) (h1:ξa P md ops Q S last cs [b] n li a w o c) (h2:ξa P md ops Q S last (c::cs) [] n li a w o' b):ζ0 P md ops Q S last (c::cs) [b] (n+1) li a w:=by
 split at hr
 ·exact ⟨ζb.two hr hi hj hg hg' h1.k h2.k⟩
 ·exact ⟨ζb.two hr hj hi hg' hg h2.k h1.k⟩
theorem ζ0.begin (cs bs:List Nat) {n:Nat} {li:Array Bool} {a:Act} {w:World} (h:ζ0 P md ops Q S last cs bs n li a w):ζb P md ops Q S last n li a w:=h.out
end
theorem ξC {W0 u:World} (hB:Below W0 W0 u) (cs:Array Value) (t:TypeId) (h:cs.toList.all nI=true): ∃V,u.alloc (.cells cs t)=V∧Below u u V∧Cs V u cs.toList∧ζf V u.heap.size∧Below W0 W0 V∧W0.heap.size<=u.heap.size∧Hid (V.heap.size=u.heap.size+1):=
 ⟨_,rfl,ζc _ _,Cs.new _ _ _,ζf.newL _ _ _ h,hB.trans ((ζc _ _).mono hB.size),hB.size,by unfold Hid;simp⟩
structure NwV (W0:World) (P:Nat) (us:List Value) (n:Nat) (X Y Z:Int) (W:World):Prop where
 c:Cs W P us
 v:ζF W (.agg us.toArray) n X Y Z
 le:W0.heap.size<=P
 bel:Below W0 W0 W
theorem NwV.fin {W0 W:World} {P:Nat} {zs us:List Value} {n:Nat} {X Y Z:Int} (hc:Cs W P zs) (hl:zs.length=us.length) (hn:ζf W P) (hu: ∀u∈us,ζh u) (h:ζF W (.agg us.toArray) n X Y Z) (hb:Below W0 W0 W) (hP:W0.heap.size<=P):NwV W0 P us n X Y Z (setAll W P 0 us):=
 ⟨hc.whole us hl,h.setAll us W 0 hn hu,hP,ζd hP us W 0 hb⟩
structure NwM (W0:World) (P:Nat) (us:List Value) (n:Nat) (X:Int) (W:World):Prop where
 c:Cs W P us
 v:MIs W (.agg us.toArray) n X
 le:W0.heap.size<=P
 bel:Below W0 W0 W
theorem NwM.fin {W0 W:World} {P:Nat} {zs us:List Value} {n:Nat} {X:Int} (hc:Cs W P zs) (hl:zs.length=us.length) (hn:ζf W P) (hu: ∀u∈us,ζh u) (h:MIs W (.agg us.toArray) n X) (hb:Below W0 W0 W) (hP:W0.heap.size<=P):NwM W0 P us n X (setAll W P 0 us):=
 ⟨hc.whole us hl,h.setAll us W 0 hn hu,hP,ζd hP us W 0 hb⟩
end Go.Proofs.YtfieffpobgcpmaaGreatDoor
