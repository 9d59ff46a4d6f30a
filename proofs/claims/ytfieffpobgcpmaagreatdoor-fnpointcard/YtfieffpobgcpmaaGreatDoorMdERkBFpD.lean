import Derived.Test.YtfieffpobgcpmaaGreatDoorMdDMdB
import Derived.Test.YtfieffpobgcpmaaGreatDoorFrCFrDCsA
import Derived.Test.YtfieffpobgcpmaaGreatDoorFrHToSpecI
import Derived.Test.YtfieffpobgcpmaaGreatDoorFwAEsRBhF
set_option maxRecDepth 100000
set_option maxHeartbeats 32000000
namespace Go.Proofs.YtfieffpobgcpmaaGreatDoor
open Go.RowKit
def noneM:Value:= .agg #[false,(),false,(),false,false,(),false,(),false,true]
def SpM (w:World) (v:Value) (n:Nat) (a b c d:Int):Prop:= ∃(g1:Bool) (a1:Option Addr) (c1:Nat) (z1:List Int) (g2:Bool) (a2:Option Addr) (c2:Nat) (z2:List Int) (g3:Bool) (a3:Option Addr) (c3:Nat) (z3:List Int) (g4:Bool) (a4:Option Addr) (c4:Nat) (z4:List Int) (t:Bool),v= .agg #[g1,.slice a1 z1.length c1,g2,.slice a2 z2.length c2,false,g3,.slice a3 z3.length c3,g4,.slice a4 z4.length c4,t,false]∧MIs w (.agg #[g1,.slice a1 z1.length c1]) n a∧MIs w (.agg #[g2,.slice a2 z2.length c2]) n b∧((t=false∧d≠0∧MIs w (.agg #[g3,.slice a3 z3.length c3]) n c∧MIs w (.agg #[g4,.slice a4 z4.length c4]) n d)∨(t=true∧d=0∧c=1))
theorem SpM.later {w w':World} {v:Value} {n:Nat} {a b c d:Int} (h:SpM w v n a b c d) (hb:Below w.heap.size w w'):SpM w' v n a b c d:=by
 obtain ⟨g1,a1,c1,z1,g2,a2,c2,z2,g3,a3,c3,z3,g4,a4,c4,z4,t,rfl,h1,h2,h3⟩:=h
 refine ⟨g1,a1,c1,z1,g2,a2,c2,z2,g3,a3,c3,z3,g4,a4,c4,z4,t,rfl,h1.later hb,h2.later hb,?_⟩
 rcases h3 with ⟨k1,k2,k3,k4⟩|h3
 ·exact .inl ⟨k1,k2,k3.later hb,k4.later hb⟩
 ·exact .inr h3
theorem none_any (w:World):Calls Tryz.prog 114 #[] w fun o w'=>o= .returned noneM∧Below w.heap.size w w':=by
 go_enter Tryz.func114,Tryz.ntmps114
 go_wp2
 refine bodyPost_ret (v:=noneM) (by simp [results,Tryz.results114,go_sem,noneM]) rfl ?_
 exact ⟨rfl,bel0 _ _⟩
theorem forward_any (n:Nat) (hn:1≤n) (w:World):Calls Tryz.prog 67 #[] w fun o w'=> ∃v,o= .returned v∧SpM w' v n 0 1 1 0∧Below w.heap.size w w':=by
 have HZ0:Hid (∀t,Cs (w.alloc (.cells #[false,(),false,(),false,false,(),false,(),false,false] t)) w.heap.size [false,(),false,(),false,false,(),false,(),false,false]):=fun t=>Cs.new _ _ _
 have HB0:Hid (∀t,Below w.heap.size w (w.alloc (.cells #[false,(),false,(),false,false,(),false,(),false,false] t))):=fun t=>bel0 _ _
 have HN0:Hid (∀t,NoInt (w.alloc (.cells #[false,(),false,(),false,false,(),false,(),false,false] t)) w.heap.size):=fun t=>NoInt.new _ _ _ (fun i k m=>by match i with|0=>simp|1=>simp|2=>simp|3=>simp|4=>simp|5=>simp|6=>simp|7=>simp|8=>simp|9=>simp|10=>simp|n+11=>simp)
 go_enter Tryz.func67,Tryz.ntmps67
 go_wp2_with fail
 refine (small_any 1 _ (by decide) (by decide)).mono ?_
 rintro o w1 ⟨a2,c2,z2,rfl,hl,hL,_,hb1⟩
 have HZ:Hid (Cs w1 w.heap.size [false,(),false,(),false,false,(),false,(),false,false]):=(HZ0.out _).later hb1
 have HB:Hid (Below w.heap.size w w1):=(HB0.out _).trans (hb1.mono (HB0.out _).size)
 have HN:Hid (NoInt w1 w.heap.size):=(HN0.out _).later hb1
 have HM:Hid (MIs w1 (.agg #[false,.slice a2 z2.length c2]) n 1):=⟨false,a2,c2,z2,rfl,hL,by omega,trivial⟩
 clear hb1 HZ0 HB0 HN0 hL hl
 obtain ⟨y0,y1,y2,y3,y4,y5,y6,y7,y8,y9,y10⟩:=HZ.out.c11
 have yf:=HZ.out.2.1
 go_wp2
 refine bodyPost_ret (v:= .agg #[false,(),false,.slice a2 z2.length c2,false,false,(),false,(),true,false]) (by simp [results,Tryz.results67,go_sem,y0,y1,y2,y3,y4,y5,y6,y7,y8,y9,y10]) rfl ?_
 exact ⟨_,rfl,⟨false,none,0,[],false,a2,c2,z2,false,none,0,[],false,none,0,[],true,rfl,MIs.zero _ _,HM.out.setAll [false,(),false,.slice a2 z2.length c2,false,false,(),false,(),true,false] w1 0 HN.out (by simp [NotInt]),.inr ⟨rfl,rfl,rfl⟩⟩,below_setAll (vs:=[↑false,↑(),↑false,.slice a2 z2.length c2,↑false,↑false,↑(),↑false,↑(),↑true,↑false]) (b:=w.heap.size) (by omega) w1 0 HB.out⟩
theorem zeroVec_any (u:Value) (n:Nat) (A B C:Int) (w:World) (hu:VecM w u n A B C):
 Calls Tryz.prog 105 #[u] w fun o w'=>o= .returned (.bool (decide (A=0∧B=0∧C=0)))∧Below w.heap.size w w':=by
 obtain ⟨gu1,au1,cu1,zu1,gu2,au2,cu2,zu2,gu3,au3,cu3,zu3,rfl,h1,h2,h3⟩:=hu
 have e1:=h1.zero_iff
 have e2:=h2.zero_iff
 have e3:=h3.zero_iff
 have HD:Hid (decide (A=0∧B=0∧C=0)=(decide (zu1.length=0) && (decide (zu2.length=0) && decide (zu3.length=0)))):=by
  unfold Hid
  simp only [e1,e2,e3]
  by_cases q1:A=0<;>by_cases q2:B=0<;>by_cases q3:C=0<;>simp [q1,q2,q3]
 clear h1 h2 h3 e1 e2 e3
 have hcs: ∀l:Nat,(((l:Int)==0)=true∧decide (l=0)=true)∨(((l:Int)==0)=false∧decide (l=0)=false):=by
  intro l
  rcases Nat.eq_zero_or_pos l with h|h
  ·left;subst h;exact ⟨rfl,rfl⟩
  ·right;exact ⟨by rw [beq_eq_false_iff_ne];omega,by simp;omega⟩
 rcases hcs zu1.length with ⟨k1,d1⟩| ⟨k1,d1⟩<;>rcases hcs zu2.length with ⟨k2,d2⟩| ⟨k2,d2⟩<;>rcases hcs zu3.length with ⟨k3,d3⟩| ⟨k3,d3⟩
 all_goals
  have HE:Hid (decide (A=0∧B=0∧C=0)=_):=HD.out.trans (by rw [d1,d2,d3])
  clear HD hcs d1 d2 d3
  go_enter Tryz.func105,Tryz.ntmps105
  go_wp2
  go_ret
  exact ⟨by rw [HE.out];rfl,bel0 _ _⟩
theorem sT (l:List Value) (i:Nat) (a:Value):l.toArray.setIfInBounds i a=(l.set i a).toArray:=List.setIfInBounds_toArray ..
theorem sS (x:Value) (l:List Value) (i:Nat) (a:Value):(x::l).set (i+1) a=x::l.set i a:=List.set_cons_succ ..
theorem sZ (x:Value) (l:List Value) (a:Value):(x::l).set 0 a=a::l:=List.set_cons_zero ..
section
variable {P : Program} {ops : Array Oper} {Q : Exit → Act → World → Prop} {md : Region.Mode} {S : World → Prop} {last : Nat}
theorem AnyK.two {i j n:Nat} {oi oj:Oper} {li:Array Bool} {a:Act} {w:World} (hr:Region.ready md ops li=[i,j]) (hi:ops[i]? =some oi) (hj:ops[j]? =some oj) (hgi:oi.guard=none) (hgj:oj.guard=none)
 (h1: ∀K:Act→World→Prop,(∀a' w',(i≠last→S w')→AnyK P md ops Q S last n (li.setIfInBounds i true) a' w'→K a' w')→oi.wp P a w K Q)
 (h2: ∀K:Act→World→Prop,(∀a' w',(j≠last→S w')→AnyK P md ops Q S last n (li.setIfInBounds j true) a' w'→K a' w')→oj.wp P a w K Q):AnyK P md ops Q S last (n+1) li a w:=by
 refine ⟨fun q=>absurd q (by rw [hr];simp),fun k hk=> ?_⟩
 rw [hr] at hk
 have:k=i∨k=j:=by simpa using hk
 rcases this with rfl|rfl
 ·unfold wpOp
  rw [hi]
  simp only [Region.wanted,hgi,if_true]
  exact .inl (h1 _ fun a' w' h1 h2=>⟨h1,h2⟩)
 ·unfold wpOp
  rw [hj]
  simp only [Region.wanted,hgj,if_true]
  exact .inl (h2 _ fun a' w' h1 h2=>⟨h1,h2⟩)
theorem AnyK.takeT {i n d:Nat} {o ol:Oper} {v:Value} {li:Array Bool} {tm:Array Value} {df:List Deferred} {w:World} (hi:ops[i]? =some o) (hol:ops[last]? =some ol)
 (hs:Region.noSelect ops=true) (hf:Region.free md ops li i=true) (hr:(Region.ready md ops li).contains i=true) (hel:(ol.after.any fun e=>Region.binds md e && e.on==i)=true) (hne:(i==last)=false)
 (hQ: ∀c a w,Q (.panic c) (a.put o.dst v) w→Q (.panic c) a w) (hd:o.dst=some d) (hy:YieldsIf P ops S o v ⟨tm,df⟩) (hw:S w)
 (h:AnyK P md ops Q S last n (li.setIfInBounds i true) ⟨tm.setIfInBounds d v,df⟩ w):AnyK P md ops Q S last (n+1) li ⟨tm,df⟩ w:=
 AnyK.take hi hol hs hf hr hel hne hQ hy hw (by unfold Act.put;rw [hd];exact h)
theorem AnyK.tk (i d:Nat) (v:Value) {n:Nat} {o ol:Oper} {li:Array Bool} {tm:Array Value} {df:List Deferred} {w:World} (hi:ops[i]? =some o) (hol:ops[last]? =some ol)
 (hb:(Region.noSelect ops && Region.free md ops li i && (Region.ready md ops li).contains i && (ol.after.any fun e=>Region.binds md e && e.on==i) && !(i==last))=true)
 (hQ: ∀c a w,Q (.panic c) (a.put o.dst v) w→Q (.panic c) a w) (hd:o.dst=some d) (hy:YieldsIf P ops S o v ⟨tm,df⟩) (hw:S w)
 (h:AnyK P md ops Q S last n (li.setIfInBounds i true) ⟨tm.setIfInBounds d v,df⟩ w):AnyK P md ops Q S last (n+1) li ⟨tm,df⟩ w:=by
 rw [Bool.and_eq_true,Bool.and_eq_true,Bool.and_eq_true,Bool.and_eq_true,Bool.not_eq_true'] at hb
 obtain ⟨⟨⟨⟨h1,h2⟩,h3⟩,h4⟩,h5⟩:=hb
 exact AnyK.takeT hi hol h1 h2 h3 h4 h5 hQ hd hy hw h
structure AnyP (P:Program) (md:Region.Mode) (ops:Array Oper) (Q:Exit→Act→World→Prop) (S:World→Prop) (last:Nat) (cs bs:List Nat) (n:Nat) (li:Array Bool) (a:Act) (w:World):Prop where
 out:AnyK P md ops Q S last n li a w
structure Turn (P:Program) (md:Region.Mode) (ops:Array Oper) (Q:Exit→Act→World→Prop) (S:World→Prop) (last:Nat) (cs bs:List Nat) (n:Nat) (li:Array Bool) (a:Act) (w:World) (o:Oper) (i:Nat):Prop where
 out: ∀K:Act→World→Prop,Hid (∀a' w',(i≠last→S w')→AnyP P md ops Q S last cs bs n (li.setIfInBounds i true) a' w'→K a' w')→o.wp P a w K Q
theorem Turn.go {cs bs:List Nat} {n:Nat} {li:Array Bool} {a:Act} {w:World} {o:Oper} (i:Nat) (h: ∀K:Act→World→Prop,Hid (∀a' w',(i≠last→S w')→AnyP P md ops Q S last cs bs n (li.setIfInBounds i true) a' w'→K a' w')→o.wp P a w K Q):Turn P md ops Q S last cs bs n li a w o i:=⟨h⟩
theorem Turn.k {cs bs:List Nat} {n i:Nat} {li:Array Bool} {a:Act} {w:World} {o:Oper} (h:Turn P md ops Q S last cs bs n li a w o i) (K:Act→World→Prop) (hK: ∀a' w',(i≠last→S w')→AnyK P md ops Q S last n (li.setIfInBounds i true) a' w'→K a' w'):o.wp P a w K Q:=h.out K fun a' w' s q=>hK a' w' s q.out
theorem AnyP.c {c n:Nat} {cs:List Nat} {o:Oper} {li:Array Bool} {a:Act} {w:World} (hr:Region.ready md ops li=[c]) (hi:ops[c]? =some o) (hg:o.guard=none) (h:Turn P md ops Q S last cs [] n li a w o c):AnyP P md ops Q S last (c::cs) [] (n+1) li a w:=⟨AnyK.one hr hi hg h.k⟩
theorem AnyP.b {b n:Nat} {o:Oper} {li:Array Bool} {a:Act} {w:World} (hr:Region.ready md ops li=[b]) (hi:ops[b]? =some o) (hg:o.guard=none) (h:Turn P md ops Q S last [] [] n li a w o b):AnyP P md ops Q S last [] [b] (n+1) li a w:=⟨AnyK.one hr hi hg h.k⟩
theorem AnyP.cb {c b n:Nat} {cs:List Nat} {o o':Oper} {li:Array Bool} {a:Act} {w:World} (hr:Region.ready md ops li=if c<b then [c,b] else [b,c]) (hi:ops[c]? =some o) (hj:ops[b]? =some o') (hg:o.guard=none) (hg':o'.guard=none) (h1:Turn P md ops Q S last cs [b] n li a w o c) (h2:Turn P md ops Q S last (c::cs) [] n li a w o' b):AnyP P md ops Q S last (c::cs) [b] (n+1) li a w:=by
 split at hr
 ·exact ⟨AnyK.two hr hi hj hg hg' h1.k h2.k⟩
 ·exact ⟨AnyK.two hr hj hi hg' hg h2.k h1.k⟩
theorem AnyP.begin (cs bs:List Nat) {n:Nat} {li:Array Bool} {a:Act} {w:World} (h:AnyP P md ops Q S last cs bs n li a w):AnyK P md ops Q S last n li a w:=h.out
end
theorem boxAny {W0 u:World} (hB:Below W0.heap.size W0 u) (cs:Array Value) (t:TypeId) (h:cs.toList.all nI=true): ∃V,u.alloc (.cells cs t)=V∧Below u.heap.size u V∧Cs V u.heap.size cs.toList∧NoInt V u.heap.size∧Below W0.heap.size W0 V∧W0.heap.size≤u.heap.size∧Hid (V.heap.size=u.heap.size+1):=
 ⟨_,rfl,bel0 _ _,Cs.new _ _ _,NoInt.newL _ _ _ h,hB.trans ((bel0 _ _).mono hB.size),hB.size,by unfold Hid;simp⟩
structure NwV (W0:World) (P:Nat) (us:List Value) (n:Nat) (X Y Z:Int) (W:World):Prop where
 c:Cs W P us
 v:VecM W (.agg us.toArray) n X Y Z
 le:W0.heap.size≤P
 bel:Below W0.heap.size W0 W
theorem NwV.fin {W0 W:World} {P:Nat} {zs us:List Value} {n:Nat} {X Y Z:Int} (hc:Cs W P zs) (hl:zs.length=us.length) (hn:NoInt W P) (hu: ∀u∈us,NotInt u) (h:VecM W (.agg us.toArray) n X Y Z) (hb:Below W0.heap.size W0 W) (hP:W0.heap.size≤P):NwV W0 P us n X Y Z (setAll W P 0 us):=
 ⟨hc.whole us hl,h.setAll us W 0 hn hu,hP,below_setAll hP us W 0 hb⟩
structure NwM (W0:World) (P:Nat) (us:List Value) (n:Nat) (X:Int) (W:World):Prop where
 c:Cs W P us
 v:MIs W (.agg us.toArray) n X
 le:W0.heap.size≤P
 bel:Below W0.heap.size W0 W
theorem NwM.fin {W0 W:World} {P:Nat} {zs us:List Value} {n:Nat} {X:Int} (hc:Cs W P zs) (hl:zs.length=us.length) (hn:NoInt W P) (hu: ∀u∈us,NotInt u) (h:MIs W (.agg us.toArray) n X) (hb:Below W0.heap.size W0 W) (hP:W0.heap.size≤P):NwM W0 P us n X (setAll W P 0 us):=
 ⟨hc.whole us hl,h.setAll us W 0 hn hu,hP,below_setAll hP us W 0 hb⟩
theorem lcross_any (u v:Value) (A B:V3) (k l:Int) (w:World) (hA:Bnd3 k A) (hB:Bnd3 l B) (hk:k*l≤1000000000000000000) (hu:I3 w u A) (hv:I3 w v B):Calls Tryz.prog 27 #[u,v] w (I3Out w (A.cross B)):=by
 obtain ⟨b,rfl,hu⟩:=hu
 obtain ⟨c,rfl,hv⟩:=hv
 obtain ⟨x,y,z⟩:=A
 obtain ⟨x',y',z'⟩:=B
 unfold Bnd3 at hA hB
 simp only at hu hv hA hB
 have mxy:=mulb hA.1 hB.2.1
 have mxz:=mulb hA.1 hB.2.2
 have myx:=mulb hA.2.1 hB.1
 have myz:=mulb hA.2.1 hB.2.2
 have mzx:=mulb hA.2.2 hB.1
 have mzy:=mulb hA.2.2 hB.2.1
 have w0:=wrap_p (n:=y*z') (by omega)
 have w1:=wrap_p (n:=z*y') (by omega)
 have w2:=wrap_p (n:=z*x') (by omega)
 have w3:=wrap_p (n:=x*z') (by omega)
 have w4:=wrap_p (n:=x*y') (by omega)
 have w5:=wrap_p (n:=y*x') (by omega)
 have w6:=wrap_p (n:=y*z'-z*y') (by omega)
 have w7:=wrap_p (n:=z*x'-x*z') (by omega)
 have w8:=wrap_p (n:=x*y'-y*x') (by omega)
 clear hA hB hk mxy mxz myx myz mzx mzy
 have HK:Hid (∀w',Below w.heap.size w w'→(fun w':World=>w'.cell? ⟨b,0,none⟩=some (.int .i64 x)∧w'.cell? ⟨b,1,none⟩=some (.int .i64 y)∧w'.cell? ⟨b,2,none⟩=some (.int .i64 z)∧w'.cell? ⟨c,0,none⟩=some (.int .i64 x')∧w'.cell? ⟨c,1,none⟩=some (.int .i64 y')∧w'.cell? ⟨c,2,none⟩=some (.int .i64 z')) w'):=fun w' hb=>⟨(hu.later hb).at 0 rfl,(hu.later hb).at 1 rfl,(hu.later hb).at 2 rfl,(hv.later hb).at 0 rfl,(hv.later hb).at 1 rfl,(hv.later hb).at 2 rfl⟩
 clear hu hv
 go_enter Tryz.func27,Tryz.ntmps27
 go_wp2_with fail
 refine AnyK.regionK HK 46 (by kernel_rfl) ?_
 obtain ⟨WD,hWD⟩: ∃V,V=w.drew:=⟨_,rfl⟩
 rw [←hWD]
 have hBd:Below w.heap.size w WD:=by rw [hWD];exact (Below.refl _ _).drew
 clear hWD
 have hS:=HK.out WD hBd
 refine AnyK.tk 0 5 (.slice (some ⟨b,0,none⟩) 3 3) rfl rfl (by kernel_rfl) (fun _ _ _ h=>h) rfl (Or.inl ⟨rfl,fun w' _=>by go_simp⟩) hS ?_
 simp only [sT,sS,sZ]
 refine AnyK.tk 1 6 (.pointer (some ⟨b,1,none⟩)) rfl rfl (by kernel_rfl) (fun _ _ _ h=>h) rfl (Or.inl ⟨rfl,fun w' _=>by go_simp⟩) hS ?_
 simp only [sT,sS,sZ]
 refine AnyK.tk 2 7 (.int .i64 y) rfl rfl (by kernel_rfl) (fun _ _ _ h=>h) rfl (Or.inl ⟨rfl,fun w' h=>by obtain ⟨q0,q1,q2,q3,q4,q5⟩:=h;go_simp⟩) hS ?_
 simp only [sT,sS,sZ]
 refine AnyK.tk 3 8 (.slice (some ⟨c,0,none⟩) 3 3) rfl rfl (by kernel_rfl) (fun _ _ _ h=>h) rfl (Or.inl ⟨rfl,fun w' _=>by go_simp⟩) hS ?_
 simp only [sT,sS,sZ]
 refine AnyK.tk 4 9 (.pointer (some ⟨c,2,none⟩)) rfl rfl (by kernel_rfl) (fun _ _ _ h=>h) rfl (Or.inl ⟨rfl,fun w' _=>by go_simp⟩) hS ?_
 simp only [sT,sS,sZ]
 refine AnyK.tk 5 10 (.int .i64 z') rfl rfl (by kernel_rfl) (fun _ _ _ h=>h) rfl (Or.inl ⟨rfl,fun w' h=>by obtain ⟨q0,q1,q2,q3,q4,q5⟩:=h;go_simp⟩) hS ?_
 simp only [sT,sS,sZ]
 refine AnyK.tk 6 11 (.int .i64 (y*z')) rfl rfl (by kernel_rfl) (fun _ _ _ h=>h) rfl (Or.inl ⟨rfl,fun w' _=>by go_simp⟩) hS ?_
 simp only [sT,sS,sZ]
 refine AnyK.tk 7 12 (.slice (some ⟨b,0,none⟩) 3 3) rfl rfl (by kernel_rfl) (fun _ _ _ h=>h) rfl (Or.inl ⟨rfl,fun w' _=>by go_simp⟩) hS ?_
 simp only [sT,sS,sZ]
 refine AnyK.tk 8 13 (.pointer (some ⟨b,2,none⟩)) rfl rfl (by kernel_rfl) (fun _ _ _ h=>h) rfl (Or.inl ⟨rfl,fun w' _=>by go_simp⟩) hS ?_
 simp only [sT,sS,sZ]
 refine AnyK.tk 9 14 (.int .i64 z) rfl rfl (by kernel_rfl) (fun _ _ _ h=>h) rfl (Or.inl ⟨rfl,fun w' h=>by obtain ⟨q0,q1,q2,q3,q4,q5⟩:=h;go_simp⟩) hS ?_
 simp only [sT,sS,sZ]
 refine AnyK.tk 10 15 (.slice (some ⟨c,0,none⟩) 3 3) rfl rfl (by kernel_rfl) (fun _ _ _ h=>h) rfl (Or.inl ⟨rfl,fun w' _=>by go_simp⟩) hS ?_
 simp only [sT,sS,sZ]
 refine AnyK.tk 11 16 (.pointer (some ⟨c,1,none⟩)) rfl rfl (by kernel_rfl) (fun _ _ _ h=>h) rfl (Or.inl ⟨rfl,fun w' _=>by go_simp⟩) hS ?_
 simp only [sT,sS,sZ]
 refine AnyK.tk 12 17 (.int .i64 y') rfl rfl (by kernel_rfl) (fun _ _ _ h=>h) rfl (Or.inl ⟨rfl,fun w' h=>by obtain ⟨q0,q1,q2,q3,q4,q5⟩:=h;go_simp⟩) hS ?_
 simp only [sT,sS,sZ]
 refine AnyK.tk 13 18 (.int .i64 (z*y')) rfl rfl (by kernel_rfl) (fun _ _ _ h=>h) rfl (Or.inl ⟨rfl,fun w' _=>by go_simp⟩) hS ?_
 simp only [sT,sS,sZ]
 refine AnyK.tk 14 19 (.int .i64 (y*z'-z*y')) rfl rfl (by kernel_rfl) (fun _ _ _ h=>h) rfl (Or.inl ⟨rfl,fun w' _=>by go_simp⟩) hS ?_
 simp only [sT,sS,sZ]
 refine AnyK.tk 15 20 (.slice (some ⟨b,0,none⟩) 3 3) rfl rfl (by kernel_rfl) (fun _ _ _ h=>h) rfl (Or.inl ⟨rfl,fun w' _=>by go_simp⟩) hS ?_
 simp only [sT,sS,sZ]
 refine AnyK.tk 16 21 (.pointer (some ⟨b,2,none⟩)) rfl rfl (by kernel_rfl) (fun _ _ _ h=>h) rfl (Or.inl ⟨rfl,fun w' _=>by go_simp⟩) hS ?_
 simp only [sT,sS,sZ]
 refine AnyK.tk 17 22 (.int .i64 z) rfl rfl (by kernel_rfl) (fun _ _ _ h=>h) rfl (Or.inl ⟨rfl,fun w' h=>by obtain ⟨q0,q1,q2,q3,q4,q5⟩:=h;go_simp⟩) hS ?_
 simp only [sT,sS,sZ]
 refine AnyK.tk 18 23 (.slice (some ⟨c,0,none⟩) 3 3) rfl rfl (by kernel_rfl) (fun _ _ _ h=>h) rfl (Or.inl ⟨rfl,fun w' _=>by go_simp⟩) hS ?_
 simp only [sT,sS,sZ]
 refine AnyK.tk 19 24 (.pointer (some ⟨c,0,none⟩)) rfl rfl (by kernel_rfl) (fun _ _ _ h=>h) rfl (Or.inl ⟨rfl,fun w' _=>by go_simp⟩) hS ?_
 simp only [sT,sS,sZ]
 refine AnyK.tk 20 25 (.int .i64 x') rfl rfl (by kernel_rfl) (fun _ _ _ h=>h) rfl (Or.inl ⟨rfl,fun w' h=>by obtain ⟨q0,q1,q2,q3,q4,q5⟩:=h;go_simp⟩) hS ?_
 simp only [sT,sS,sZ]
 refine AnyK.tk 21 26 (.int .i64 (z*x')) rfl rfl (by kernel_rfl) (fun _ _ _ h=>h) rfl (Or.inl ⟨rfl,fun w' _=>by go_simp⟩) hS ?_
 simp only [sT,sS,sZ]
 refine AnyK.tk 22 27 (.slice (some ⟨b,0,none⟩) 3 3) rfl rfl (by kernel_rfl) (fun _ _ _ h=>h) rfl (Or.inl ⟨rfl,fun w' _=>by go_simp⟩) hS ?_
 simp only [sT,sS,sZ]
 refine AnyK.tk 23 28 (.pointer (some ⟨b,0,none⟩)) rfl rfl (by kernel_rfl) (fun _ _ _ h=>h) rfl (Or.inl ⟨rfl,fun w' _=>by go_simp⟩) hS ?_
 simp only [sT,sS,sZ]
 refine AnyK.tk 24 29 (.int .i64 x) rfl rfl (by kernel_rfl) (fun _ _ _ h=>h) rfl (Or.inl ⟨rfl,fun w' h=>by obtain ⟨q0,q1,q2,q3,q4,q5⟩:=h;go_simp⟩) hS ?_
 simp only [sT,sS,sZ]
 refine AnyK.tk 25 30 (.slice (some ⟨c,0,none⟩) 3 3) rfl rfl (by kernel_rfl) (fun _ _ _ h=>h) rfl (Or.inl ⟨rfl,fun w' _=>by go_simp⟩) hS ?_
 simp only [sT,sS,sZ]
 refine AnyK.tk 26 31 (.pointer (some ⟨c,2,none⟩)) rfl rfl (by kernel_rfl) (fun _ _ _ h=>h) rfl (Or.inl ⟨rfl,fun w' _=>by go_simp⟩) hS ?_
 simp only [sT,sS,sZ]
 refine AnyK.tk 27 32 (.int .i64 z') rfl rfl (by kernel_rfl) (fun _ _ _ h=>h) rfl (Or.inl ⟨rfl,fun w' h=>by obtain ⟨q0,q1,q2,q3,q4,q5⟩:=h;go_simp⟩) hS ?_
 simp only [sT,sS,sZ]
 refine AnyK.tk 28 33 (.int .i64 (x*z')) rfl rfl (by kernel_rfl) (fun _ _ _ h=>h) rfl (Or.inl ⟨rfl,fun w' _=>by go_simp⟩) hS ?_
 simp only [sT,sS,sZ]
 refine AnyK.tk 29 34 (.int .i64 (z*x'-x*z')) rfl rfl (by kernel_rfl) (fun _ _ _ h=>h) rfl (Or.inl ⟨rfl,fun w' _=>by go_simp⟩) hS ?_
 simp only [sT,sS,sZ]
 refine AnyK.tk 30 35 (.slice (some ⟨b,0,none⟩) 3 3) rfl rfl (by kernel_rfl) (fun _ _ _ h=>h) rfl (Or.inl ⟨rfl,fun w' _=>by go_simp⟩) hS ?_
 simp only [sT,sS,sZ]
 refine AnyK.tk 31 36 (.pointer (some ⟨b,0,none⟩)) rfl rfl (by kernel_rfl) (fun _ _ _ h=>h) rfl (Or.inl ⟨rfl,fun w' _=>by go_simp⟩) hS ?_
 simp only [sT,sS,sZ]
 refine AnyK.tk 32 37 (.int .i64 x) rfl rfl (by kernel_rfl) (fun _ _ _ h=>h) rfl (Or.inl ⟨rfl,fun w' h=>by obtain ⟨q0,q1,q2,q3,q4,q5⟩:=h;go_simp⟩) hS ?_
 simp only [sT,sS,sZ]
 refine AnyK.tk 33 38 (.slice (some ⟨c,0,none⟩) 3 3) rfl rfl (by kernel_rfl) (fun _ _ _ h=>h) rfl (Or.inl ⟨rfl,fun w' _=>by go_simp⟩) hS ?_
 simp only [sT,sS,sZ]
 refine AnyK.tk 34 39 (.pointer (some ⟨c,1,none⟩)) rfl rfl (by kernel_rfl) (fun _ _ _ h=>h) rfl (Or.inl ⟨rfl,fun w' _=>by go_simp⟩) hS ?_
 simp only [sT,sS,sZ]
 refine AnyK.tk 35 40 (.int .i64 y') rfl rfl (by kernel_rfl) (fun _ _ _ h=>h) rfl (Or.inl ⟨rfl,fun w' h=>by obtain ⟨q0,q1,q2,q3,q4,q5⟩:=h;go_simp⟩) hS ?_
 simp only [sT,sS,sZ]
 refine AnyK.tk 36 41 (.int .i64 (x*y')) rfl rfl (by kernel_rfl) (fun _ _ _ h=>h) rfl (Or.inl ⟨rfl,fun w' _=>by go_simp⟩) hS ?_
 simp only [sT,sS,sZ]
 refine AnyK.tk 37 42 (.slice (some ⟨b,0,none⟩) 3 3) rfl rfl (by kernel_rfl) (fun _ _ _ h=>h) rfl (Or.inl ⟨rfl,fun w' _=>by go_simp⟩) hS ?_
 simp only [sT,sS,sZ]
 refine AnyK.tk 38 43 (.pointer (some ⟨b,1,none⟩)) rfl rfl (by kernel_rfl) (fun _ _ _ h=>h) rfl (Or.inl ⟨rfl,fun w' _=>by go_simp⟩) hS ?_
 simp only [sT,sS,sZ]
 refine AnyK.tk 39 44 (.int .i64 y) rfl rfl (by kernel_rfl) (fun _ _ _ h=>h) rfl (Or.inl ⟨rfl,fun w' h=>by obtain ⟨q0,q1,q2,q3,q4,q5⟩:=h;go_simp⟩) hS ?_
 simp only [sT,sS,sZ]
 refine AnyK.tk 40 45 (.slice (some ⟨c,0,none⟩) 3 3) rfl rfl (by kernel_rfl) (fun _ _ _ h=>h) rfl (Or.inl ⟨rfl,fun w' _=>by go_simp⟩) hS ?_
 simp only [sT,sS,sZ]
 refine AnyK.tk 41 46 (.pointer (some ⟨c,0,none⟩)) rfl rfl (by kernel_rfl) (fun _ _ _ h=>h) rfl (Or.inl ⟨rfl,fun w' _=>by go_simp⟩) hS ?_
 simp only [sT,sS,sZ]
 refine AnyK.tk 42 47 (.int .i64 x') rfl rfl (by kernel_rfl) (fun _ _ _ h=>h) rfl (Or.inl ⟨rfl,fun w' h=>by obtain ⟨q0,q1,q2,q3,q4,q5⟩:=h;go_simp⟩) hS ?_
 simp only [sT,sS,sZ]
 refine AnyK.tk 43 48 (.int .i64 (y*x')) rfl rfl (by kernel_rfl) (fun _ _ _ h=>h) rfl (Or.inl ⟨rfl,fun w' _=>by go_simp⟩) hS ?_
 simp only [sT,sS,sZ]
 refine AnyK.tk 44 49 (.int .i64 (x*y'-y*x')) rfl rfl (by kernel_rfl) (fun _ _ _ h=>h) rfl (Or.inl ⟨rfl,fun w' _=>by go_simp⟩) hS ?_
 simp only [sT,sS,sZ]
 refine AnyK.one (i:=45) (by kernel_rfl) rfl rfl ?_
 intro K hK
 have HKK:=Hid.mk hK
 clear hK hS
 go_wp2_with fail
 have hb1:Below w.heap.size w (WD.alloc (.cells #[.int .i64 (y*z'-z*y'),.int .i64 (z*x'-x*z'),.int .i64 (x*y'-y*x')] 3)):=hBd.trans ((bel0 _ _).mono hBd.size)
 have hc1:=Cs.new WD #[.int .i64 (y*z'-z*y'),.int .i64 (z*x'-x*z'),.int .i64 (x*y'-y*x')] 3
 refine HKK.out _ _ (fun _=>HK.out _ hb1) ?_
 clear HKK K
 (try simp only [Act.put,sT,sS,sZ])
 refine AnyK.one (i:=46) (by kernel_rfl) rfl rfl ?_
 intro K hK
 have HKK:=Hid.mk hK
 clear hK
 go_wp2_with fail
 refine HKK.out _ _ (fun h=>absurd rfl h) ?_
 clear HKK K
 refine AnyK.done (by kernel_rfl) ?_
 go_wp2
 go_ret
 exact ⟨_,rfl,⟨_,rfl,hc1.ce⟩,hb1⟩
end Go.Proofs.YtfieffpobgcpmaaGreatDoor
