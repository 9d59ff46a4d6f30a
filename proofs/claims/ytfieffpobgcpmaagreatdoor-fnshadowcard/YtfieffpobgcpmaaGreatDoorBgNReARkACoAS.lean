import Derived.Test.YtfieffpobgcpmaaGreatDoorPsCToEsQS
import Derived.Test.YtfieffpobgcpmaaGreatDoorBgIBgJBhACsASh0S
import Derived.Deep.RegionHeld3
import Derived.OrdersHeld
import Derived.BigFrame
import Derived.Deep.MidRow
import Derived.Test.YtfieffpobgcpmaaGreatDoorBaseToNumS
import Derived.Test.YtfieffpobgcpmaaGreatDoorEsGToBgES
set_option maxRecDepth 100000
set_option maxHeartbeats 32000000
namespace Go.Proofs.YtfieffpobgcpmaaGreatDoor
open Go.RowKit Go.Proofs.Tryz
def ηp (w:World) (m k:Nat) (S:Int) (O D:V3) (o:Ending) (w':World):Prop:= ∃v,o= .returned v∧ξi w' v m k S O D∧Below w w w'
theorem σb (u:Value) (s0 s1 s2 s3 s4 s5:Int) (w:World) (hT:Tab w) (hu:ζe w u 0 1) (h0:Cor s0) (h1:Cor s1) (h2:Cor s2) (h3:Cor s3) (h4:Cor s4) (h5:Cor s5):
 Calls prog 78 #[.agg #[s0,s1,s2,s3,s4,s5],u] w fun o w'=>ηp w 277 0 1 (pv s0 s1 s2) (pv s3 s4 s5) o w':=by
 have hk:=hu
 obtain ⟨gk,ak,ck,zk,rfl,_,_,_⟩:=hu
 go_enter func78,ntmps78
 go_wp2_with fail
 obtain ⟨W0,hW0⟩: ∃V0,V0=(((w.alloc (.cells #[s0,s1,s2,s3,s4,s5] 39)).alloc (.cells #[gk,.slice ak zk ck] 31)).alloc (.cells #[false,(),false,(),false,(),false,(),false,(),false,(),false,()] 94)):=⟨_,rfl⟩
 rw [<-hW0]
 have FR:Hid (Flo w s0 s1 s2 s3 s4 s5 gk (.slice ak zk ck) false () false () false () false () false () false () false () W0):=by rw [hW0];exact Flo.start w _ _ _ _ _ _ _ _ _ _ _ _ _ _ _ _ _ _ _ _ _ _ _ _ _
 have HNI:Hid (ζf W0 (↑w+1+1)):=by
  have hz: ∀(i:Nat) (k:IntKind) (m:Int),(#[↑false,↑(),↑false,↑(),↑false,↑(),↑false,↑(),↑false,↑(),↑false,↑(),↑false,↑()]:Array Value)[i]? ≠some (Value.int k m):=by
   intro i k m
   match i with|0=>simp|1=>simp|2=>simp|3=>simp|4=>simp|5=>simp|6=>simp|7=>simp|8=>simp|9=>simp|10=>simp|11=>simp|12=>simp|13=>simp|n+14=>simp
  have h1:=ζf.new ((w.alloc (.cells #[s0,s1,s2,s3,s4,s5] 39)).alloc (.cells #[gk,.slice ak zk ck] 31)) #[false,(),false,(),false,(),false,(),false,(),false,(),false,()] 94 hz
  have hs:((w.alloc (.cells #[s0,s1,s2,s3,s4,s5] 39)).alloc (.cells #[gk,.slice ak zk ck] 31)).heap.size=w.heap.size+1+1:=by simp
  rw [hs] at h1
  unfold Hid;rw [hW0];exact h1
 clear hW0
 have TT_0:=(hT.later FR.out.bel).later (w':=W0.drew) (Below.refl _ _).drew
 have R9_0:=(hk.later FR.out.bel).later (w':=W0.drew) (Below.refl _ _).drew
 have NI_0:=HNI.out.later (w':=W0.drew) (Below.refl _ _).drew
 have F0:Flo w s0 s1 s2 s3 s4 s5 gk (.slice ak zk ck) false () false () false () false () false () false () false () W0.drew:=FR.out.later (Below.refl _ _).drew
 go_region_held3 (fun w'=>w'.cell? ⟨w,0,none⟩=some ↑s0∧w'.cell? ⟨w,1,none⟩=some ↑s1∧w'.cell? ⟨w,2,none⟩=some ↑s2∧w'.cell? ⟨w,3,none⟩=some ↑s3∧w'.cell? ⟨w,4,none⟩=some ↑s4∧w'.cell? ⟨w,5,none⟩=some ↑s5∧w'.cell? ⟨↑w+1,0,none⟩=some ↑gk∧w'.cell? ⟨↑w+1,1,none⟩=some (.slice ak zk ck))
  (first|with_reducible exact (F2.set2 _ _ _ _ _ _ _ _ _ _ _ _ _ _).s|with_reducible exact Flo.s (by with_reducible assumption))
  (first
   |(have hBB:=hB1;clear hBB;go_at_call 122;refine (ξe s3 s4 s5 _ TT_1 h3 h4 h5).mono ?_;rintro o w2 ⟨v2,rfl,hv2,hb2⟩;have R2_2:ζM w2 v2 277 (cor s3) (cor s4) (cor s5):=hv2;obtain ⟨gr21,ar21,cr21,zr21,gr22,ar22,cr22,zr22,gr23,ar23,cr23,zr23,rfl,_,_,_⟩:=hv2;have TT_2:=TT_1.later hb2;have R9_2:=R9_1.later hb2;have NI_2:=NI_1.later hb2;have R1_2:=R1_1.later hb2;have hB2:Below W0 W0 w2:=hB1.trans (hb2.mono hB1.size);have F2:Flo w s0 s1 s2 s3 s4 s5 gk (.slice ak zk ck) false () false () false () false () false () false () false () w2:=FR.out.later hB2;have r0:=F2.e2x0;have r1:=F2.e2x1;have r2:=F2.e2x2;have r3:=F2.e2x3;have r4:=F2.e2x4;have r5:=F2.e2x5;have r6:=F2.e2x6;have r7:=F2.e2x7;have r8:=F2.e2x8;have r9:=F2.e2x9;have r10:=F2.e2x10;have r11:=F2.e2x11;have r12:=F2.e2x12;have r13:=F2.e2x13;have rz:=F2.f2)
   |(go_at_call 122;refine (ξe s0 s1 s2 _ TT_0 h0 h1 h2).mono ?_;rintro o w1 ⟨v1,rfl,hv1,hb1⟩;have R1_1:ζM w1 v1 277 (cor s0) (cor s1) (cor s2):=hv1;obtain ⟨gr11,ar11,cr11,zr11,gr12,ar12,cr12,zr12,gr13,ar13,cr13,zr13,rfl,_,_,_⟩:=hv1;have TT_1:=TT_0.later hb1;have R9_1:=R9_0.later hb1;have NI_1:=NI_0.later hb1;have hB1:Below W0 W0 w1:=(Below.refl _ _).drew.trans hb1;have F1:Flo w s0 s1 s2 s3 s4 s5 gk (.slice ak zk ck) false () false () false () false () false () false () false () w1:=FR.out.later hB1))
 have HF:Hid (Flo w s0 s1 s2 s3 s4 s5 gk (.slice ak zk ck) false () false () false () false () false () false () false () w2):=F2
 have HR1:Hid (ζM w2 (.agg #[gr11,.slice ar11 zr11 cr11,gr12,.slice ar12 zr12 cr12,gr13,.slice ar13 zr13 cr13]) 277 (cor s0) (cor s1) (cor s2)):=R1_2
 have HR2:Hid (ζM w2 (.agg #[gr21,.slice ar21 zr21 cr21,gr22,.slice ar22 zr22 cr22,gr23,.slice ar23 zr23 cr23]) 277 (cor s3) (cor s4) (cor s5)):=R2_2
 have HK:Hid (ζe w2 (.agg #[gk,.slice ak zk ck]) 0 1):=R9_2
 have HNN:Hid (ζf w2 (↑w+1+1)):=NI_2
 clear hB1 hb1 F1 hB2 hb2 F2 TT_0 TT_1 TT_2 R9_0 R9_1 R9_2 NI_0 NI_1 NI_2 R1_1 R1_2 R2_2 F0
 go_wp2
 refine bodyPost_ret (v:= .agg #[gr11,.slice ar11 zr11 cr11,gr12,.slice ar12 zr12 cr12,gr13,.slice ar13 zr13 cr13,gr21,.slice ar21 zr21 cr21,gr22,.slice ar22 zr22 cr22,gr23,.slice ar23 zr23 cr23,gk,.slice ak zk ck]) (by simp [results,results78,go_sem,r0,r1,r2,r3,r4,r5,r6,r7,r8,r9,r10,r11,r12,r13]) rfl ?_
 refine ⟨_,rfl,⟨gr11,ar11,cr11,zr11,gr12,ar12,cr12,zr12,gr13,ar13,cr13,zr13,gr21,ar21,cr21,zr21,gr22,ar22,cr22,zr22,gr23,ar23,cr23,zr23,gk,ak,ck,zk,rfl,HR1.out.setAll [gr11,.slice ar11 zr11 cr11,gr12,.slice ar12 zr12 cr12,gr13,.slice ar13 zr13 cr13,gr21,.slice ar21 zr21 cr21,gr22,.slice ar22 zr22 cr22,gr23,.slice ar23 zr23 cr23,gk,.slice ak zk ck] _ 0 HNN.out (by simp [ζh]),HR2.out.setAll [gr11,.slice ar11 zr11 cr11,gr12,.slice ar12 zr12 cr12,gr13,.slice ar13 zr13 cr13,gr21,.slice ar21 zr21 cr21,gr22,.slice ar22 zr22 cr22,gr23,.slice ar23 zr23 cr23,gk,.slice ak zk ck] _ 0 HNN.out (by simp [ζh]),HK.out.setAll [gr11,.slice ar11 zr11 cr11,gr12,.slice ar12 zr12 cr12,gr13,.slice ar13 zr13 cr13,gr21,.slice ar21 zr21 cr21,gr22,.slice ar22 zr22 cr22,gr23,.slice ar23 zr23 cr23,gk,.slice ak zk ck] _ 0 HNN.out (by simp [ζh])⟩,?_⟩
 exact (HF.out.set2 _ _ _ _ _ _ _ _ _ _ _ _ _ _).bel
theorem ζy {P:Program} {fn:Func} {tmps:Array Value} {w:World} {a:Nat} {t:TypeId} {b:Nat} {cs:List Value} {d:TypeDesc} (hf:fn.results=#[.cell a t]) (ha:tmps.getD a undef= .pointer (some ⟨b,0,none⟩)) (hc:w.rangeAt b 0 cs)
 (hu:P.underlying t=some d) (hd:d.isRow=true) (hi:(P.info? t).map (·.size)=some cs.length):(results fn tmps).run P w= .ok (.agg cs.toArray) w:=by
 have hl:=run_loadVar_mid w b 0 t cs d hc hu hd hi
 have ha':tmps[a]?.getD undef= .pointer (some ⟨b,0,none⟩):=by simpa using ha
 unfold results
 rw [hf]
 simp [ha',hl,asAddr]
section
variable {P : Program} {ops : Array Oper} {Q : Exit -> Act -> World -> Prop} {md : Region.Mode} {S : World -> Prop} {last : Nat}
def ζb (P:Program) (md:Region.Mode) (ops:Array Oper) (Q:Exit->Act->World->Prop) (S:World->Prop) (last:Nat):Nat->Array Bool->Act->World->Prop
 |0,li,a,w=>Region.ready md ops li=[]∧Q .normal a w
 |n+1,li,a,w=>(Region.ready md ops li=[]->Q .normal a w)∧
  ∀i∈Region.ready md ops li,wpOp P ops Q i (fun a' w'=>(i≠last->S w')∧ζb P md ops Q S last n (li.setIfInBounds i true) a' w') a w
theorem ζb.any: ∀(n:Nat) (li:Array Bool) (a:Act) (w:World),ζb P md ops Q S last n li a w->wpAny P md ops Q n li a w
 |0,_,_,_,h=>h
 |n+1,_,_,_,h=>⟨h.1,fun i hi=>wpOp_mono (fun a' w' q=>ζb.any n _ a' w' q.2) (h.2 i hi)⟩
theorem ω3 {i j:Nat} {o:Oper} {li:Array Bool} (hi:i∈Region.ready md ops li) (ho:ops[j]? =some o) (he: ∃e∈o.after,Region.binds md e=true∧e.on=i):j ∉ Region.ready md ops li:=by
 intro hj
 obtain ⟨e,he,hb,rfl⟩:=he
 obtain ⟨_,o',ho',hall⟩:=mem_ready.1 hj
 rw [ho] at ho'
 cases ho'
 have h1:=hall e he hb
 have h0:=(mem_ready.1 hi).1
 rcases Nat.lt_or_ge e.on li.size with h|h
 ·simp [h] at h0 h1
  rw [h0] at h1
  cases h1
 ·simp [Array.getElem?_eq_none h] at h1
theorem ζb.first {i:Nat} {o ol:Oper} {v:Value} (hi:ops[i]? =some o) (hs: ∀(j:Nat) (o:Oper) cs b,ops[j]? =some o->o.op≠ .select cs b)
 (hQ: ∀c a w,Q (.panic c) (a.put o.dst v) w->Q (.panic c) a w) (hol:ops[last]? =some ol) (hel: ∃e∈ol.after,Region.binds md e=true∧e.on=i) (hne:i≠last):
 ∀(n:Nat) (li:Array Bool) (a:Act) (w:World),
  (∀j oj,ops[j]? =some oj->j≠i->li.getD j true=false->(∀e∈oj.after,Region.binds md e=true->e.on≠i)->o.apart ops oj=true)->
  i∈Region.ready md ops li->YieldsIf P ops S o v a->S w->
  ζb P md ops Q S last n (li.setIfInBounds i true) (a.put o.dst v) w->ζb P md ops Q S last (n+1) li a w:=by
 intro n
 induction n with
 |zero=>
  intro li a w _ hr hy hw H
  refine ⟨fun h=>absurd hr (by rw [h];simp),fun j hj=> ?_⟩
  rcases Nat.decEq j i with e|e
  ·exact absurd (ready_mono hj e) (by rw [H.1];simp)
  ·subst e;exact hy.wpOp hi hw ⟨fun _=>hw,H⟩
 |succ n ih=>
  intro li a w hf hr hy hw H
  refine ⟨fun h=>absurd hr (by rw [h];simp),fun j hj=> ?_⟩
  rcases Nat.decEq j i with e|e
  ·have hjl:j≠last:=fun q=>ω3 hr hol hel (q▸hj)
   obtain ⟨hun,oj,hoj,_⟩:=mem_ready.1 hj
   have hno: ∀e∈oj.after,Region.binds md e=true->e.on≠i:=fun x hx hb q=>ω3 hr hoj ⟨x,hx,hb,q⟩ hj
   have h2:=wpOp_putIf hoj (hf j oj hoj e hun hno) (fun cs b=>hs i o cs b hi) (fun cs b=>hs j oj cs b hoj) hQ hy (H.2 j (ready_mono hj e))
   refine wpOp_mono (fun a' w' q=>⟨q.2.1,ih _ a' w' ?_ (ready_mono hr (Ne.symm e)) q.1 (q.2.1 hjl) ?_⟩) h2
   ·intro k ok hk hki hku hkn
    refine hf k ok hk hki ?_ hkn
    rcases Nat.decEq j k with q|q
    ·rw [getD_set_ne true q] at hku;exact hku
    ·subst q;exact hun
   ·rw [Array.setIfInBounds_comm _ _ e]
    exact q.2.2
  ·subst e;exact hy.wpOp hi hw ⟨fun _=>hw,H⟩
theorem ζb.take {i n:Nat} {o ol:Oper} {v:Value} {li:Array Bool} {a:Act} {w:World} (hi:ops[i]? =some o) (hol:ops[last]? =some ol)
 (hs:Region.noSelect ops=true) (hf:Region.free md ops li i=true) (hr:(Region.ready md ops li).contains i=true) (hel:(ol.after.any fun e=>Region.binds md e && e.on==i)=true) (hne:(i==last)=false)
 (hQ: ∀c a w,Q (.panic c) (a.put o.dst v) w->Q (.panic c) a w) (hy:YieldsIf P ops S o v a) (hw:S w)
 (h:ζb P md ops Q S last n (li.setIfInBounds i true) (a.put o.dst v) w):ζb P md ops Q S last (n+1) li a w:=
 ζb.first hi (Region.noSelect_spec hs) hQ hol (by
  obtain ⟨e,he,hb⟩:=Array.any_eq_true'.mp hel
  simp at hb
  exact ⟨e,he,hb.1,hb.2⟩) (by simpa using hne) n li a w (Region.free_spec hi hf) (by simpa using hr) hy hw h
theorem ζb.one {i n:Nat} {o:Oper} {li:Array Bool} {a:Act} {w:World} (hr:Region.ready md ops li=[i]) (hi:ops[i]? =some o) (hg:o.guard=none)
 (h: ∀K:Act->World->Prop,(∀a' w',(i≠last->S w')->ζb P md ops Q S last n (li.setIfInBounds i true) a' w'->K a' w')->o.wp P a w K Q):ζb P md ops Q S last (n+1) li a w:=by
 refine ⟨fun q=>absurd q (by rw [hr];simp),fun j hj=> ?_⟩
 rw [hr] at hj
 have:j=i:=by simpa using hj
 subst this
 unfold wpOp
 rw [hi]
 simp only [Region.wanted,hg,if_true]
 exact .inl (h _ fun a' w' h1 h2=>⟨h1,h2⟩)
theorem ζb.done {n:Nat} {li:Array Bool} {a:Act} {w:World} (hr:Region.ready md ops li=[]) (h:Q .normal a w):ζb P md ops Q S last n li a w:=by
 cases n with
 |zero=>exact ⟨hr,h⟩
 |succ n=>exact ⟨fun _=>h,by rw [hr];simp⟩
theorem ζb.region {id:Nat} {a:Act} {w:World} (S:World->Prop) (last:Nat) (hm:P.follows .mixedOrders=true)
 (h:ζb P .any ops Q S last ops.size (Array.replicate ops.size false) a w.drew):(Code.region id ops true).wp P Q a w:=
 wp_region_any hm (ζb.any _ _ _ _ h)
theorem ζb.regionK {id:Nat} {a:Act} {w W0:World} (_:Hid (∀w',Below W0 W0 w'->S w')) (last:Nat) (hm:P.follows .mixedOrders=true)
 (h:ζb P .any ops Q S last ops.size (Array.replicate ops.size false) a w.drew):(Code.region id ops true).wp P Q a w:=ζb.region S last hm h
theorem ξ6 {rest:List Oper} {op:Oper} {a:Act} {w:World} (hw:Region.wanted op (yielded ops a.tmps)=true) (ty:TypeId) (x:Operand) (ho:op.op= .load ty x)
 (b o:Nat) (hx:a.eval x= .pointer (some ⟨b,o,none⟩)) (cs:List Value) (d:TypeDesc) (hc:w.rangeAt b o cs)
 (hu:P.underlying ty=some d) (hd:d.isRow=true) (hi:(P.info? ty).map (·.size)=some cs.length)
 (h:wpList P ops Q rest (a.put op.dst (.agg cs.toArray)) w):wpList P ops Q (op::rest) a w:=
 BigFrame.wpList_want hw fun _ hK=>wp_load_mid ty x ho b o hx cs d hc hu hd hi (hK _ _ h)
end
theorem σc:ζu (.agg #[.float .f64 4607182418800017408,oOo]) 0 0 1 1:=by
 refine ⟨4607182418800017408,0,2^1074,0,rfl,⟨false,4607182418800017408,by omega,by decide+kernel,by decide+kernel⟩,⟨false,0,by omega,by decide+kernel,by decide+kernel⟩,?_⟩
 exact ⟨Fl.Fl.pow 1074,Fl.Fl.zero,by decide,by decide,by decide+kernel,by decide+kernel,fun _=>⟨1,by decide+kernel⟩,by decide+kernel,by decide+kernel,by decide+kernel⟩
theorem ξi.setAll {v:Value} {m k:Nat} {S:Int} {O D:V3} {b:Nat} (us:List Value) (w:World) (i:Nat) (h:ξi w v m k S O D) (hn:ζf w b) (hu: ∀u∈us,ζh u):ξi (Go.Proofs.YtfieffpobgcpmaaGreatDoor.setAll w b i us) v m k S O D:=by
 obtain ⟨gs1,as1,cs1,zs1,gs2,as2,cs2,zs2,gs3,as3,cs3,zs3,gd1,ad1,cd1,zd1,gd2,ad2,cd2,zd2,gd3,ad3,cd3,zd3,gk,ak,ck,zk,rfl,h1,h2,h3⟩:=h
 exact ⟨gs1,as1,cs1,zs1,gs2,as2,cs2,zs2,gs3,as3,cs3,zs3,gd1,ad1,cd1,zd1,gd2,ad2,cd2,zd2,gd3,ad3,cd3,zd3,gk,ak,ck,zk,rfl,h1.setAll us w i hn hu,h2.setAll us w i hn hu,h3.setAll us w i hn hu⟩
def ω4 (w:World) (m k:Nat) (S:Int) (O D:V3) (o:Ending) (w':World):Prop:= ∃v,o= .returned v∧ζH w' v m k S O D∧Below w w w'
theorem ξi.setAllC {v:Value} {m k:Nat} {S:Int} {O D:V3} {b:Nat} (us:List Value) (w:World) (i:Nat) (h:ξi w v m k S O D) (hn:ζf w b) (hu: ∀u∈us,ζh u):ξi (w.setCells b i us) v m k S O D:=by
 rw [ζg];exact h.setAll us w i hn hu
theorem ψi (s0 s1 s2 s3 s4 s5:Int) (w:World) (hT:Tab w) (h0:Cor s0) (h1:Cor s1) (h2:Cor s2) (h3:Cor s3) (h4:Cor s4) (h5:Cor s5):
 Calls prog 39 #[.agg #[s0,s1,s2,s3,s4,s5]] w fun o w'=>ω4 w 277 0 1 (pv s0 s1 s2) (pv s3 s4 s5) o w':=by
 have HR0:Hid (∀t0 t1,Cs ((w.alloc (.cells #[s0,s1,s2,s3,s4,s5] t0)).alloc (.cells #[oOo,oOo,oOo,oOo,oOo,oOo,oOo,oOo,oOo,oOo,oOo,oOo,oOo,oOo,false,(),false,(),false,(),false,(),false,(),false,(),false,()] t1)) w [s0,s1,s2,s3,s4,s5]):=fun t0 t1=>(Cs.new w _ t0).later (ζc _ _)
 have HZ0:Hid (∀t0 t1,Cs ((w.alloc (.cells #[s0,s1,s2,s3,s4,s5] t0)).alloc (.cells #[oOo,oOo,oOo,oOo,oOo,oOo,oOo,oOo,oOo,oOo,oOo,oOo,oOo,oOo,false,(),false,(),false,(),false,(),false,(),false,(),false,()] t1)) (↑w+1) [oOo,oOo,oOo,oOo,oOo,oOo,oOo,oOo,oOo,oOo,oOo,oOo,oOo,oOo,false,(),false,(),false,(),false,(),false,(),false,(),false,()]):=fun t0 t1=>by
  have h:=Cs.new (w.alloc (.cells #[s0,s1,s2,s3,s4,s5] t0)) #[oOo,oOo,oOo,oOo,oOo,oOo,oOo,oOo,oOo,oOo,oOo,oOo,oOo,oOo,false,(),false,(),false,(),false,(),false,(),false,(),false,()] t1
  have e:(w.alloc (.cells #[s0,s1,s2,s3,s4,s5] t0)).heap.size=w.heap.size+1:=by simp
  rw [e] at h
  exact h
 have HN0:Hid (∀t0 t1,ζf ((w.alloc (.cells #[s0,s1,s2,s3,s4,s5] t0)).alloc (.cells #[oOo,oOo,oOo,oOo,oOo,oOo,oOo,oOo,oOo,oOo,oOo,oOo,oOo,oOo,false,(),false,(),false,(),false,(),false,(),false,(),false,()] t1)) (↑w+1)):=fun t0 t1=>by
  have h:=ζf.new (w.alloc (.cells #[s0,s1,s2,s3,s4,s5] t0)) #[oOo,oOo,oOo,oOo,oOo,oOo,oOo,oOo,oOo,oOo,oOo,oOo,oOo,oOo,false,(),false,(),false,(),false,(),false,(),false,(),false,()] t1 (fun i k m=>by match i with|0=>simp|1=>simp|2=>simp|3=>simp|4=>simp|5=>simp|6=>simp|7=>simp|8=>simp|9=>simp|10=>simp|11=>simp|12=>simp|13=>simp|14=>simp|15=>simp|16=>simp|17=>simp|18=>simp|19=>simp|20=>simp|21=>simp|22=>simp|23=>simp|24=>simp|25=>simp|26=>simp|27=>simp|n+28=>simp)
  have e:(w.alloc (.cells #[s0,s1,s2,s3,s4,s5] t0)).heap.size=w.heap.size+1:=by simp
  rw [e] at h
  exact h
 have HB0:Hid (∀t0 t1,Below w w ((w.alloc (.cells #[s0,s1,s2,s3,s4,s5] t0)).alloc (.cells #[oOo,oOo,oOo,oOo,oOo,oOo,oOo,oOo,oOo,oOo,oOo,oOo,oOo,oOo,false,(),false,(),false,(),false,(),false,(),false,(),false,()] t1))):=fun t0 t1=>(ζc _ _).trans ((ζc _ _).mono (by simp<;>omega))
 go_enter func39,ntmps39
 go_wp2_with fail
 obtain ⟨W0,hW0⟩: ∃V0,V0=((w.alloc (.cells #[s0,s1,s2,s3,s4,s5] 39)).alloc (.cells #[oOo,oOo,oOo,oOo,oOo,oOo,oOo,oOo,oOo,oOo,oOo,oOo,oOo,oOo,false,(),false,(),false,(),false,(),false,(),false,(),false,()] 96)):=⟨_,rfl⟩
 rw [<-hW0]
 have HR:Hid (Cs W0 w [s0,s1,s2,s3,s4,s5]):=by rw [hW0];exact HR0.out _ _
 have HZ:Hid (Cs W0 (↑w+1) [oOo,oOo,oOo,oOo,oOo,oOo,oOo,oOo,oOo,oOo,oOo,oOo,oOo,oOo,false,(),false,(),false,(),false,(),false,(),false,(),false,()]):=by rw [hW0];exact HZ0.out _ _
 have HN:Hid (ζf W0 (↑w+1)):=by rw [hW0];exact HN0.out _ _
 have HB:Hid (Below w w W0):=by rw [hW0];exact HB0.out _ _
 clear hW0 HR0 HZ0 HN0 HB0
 have HT:Hid (∀w',Below W0 W0 w'->Tab w'):=fun w' hb=>hT.later (HB.out.trans (hb.mono HB.out.size))
 clear hT
 have HK0:Hid (∀w',Below W0 W0 w'->(fun w'=>Cs w' w [s0,s1,s2,s3,s4,s5]) w'):=fun w' hb=>HR.out.later hb
 refine ζb.region (fun w'=>Cs w' w [s0,s1,s2,s3,s4,s5]) 7 (by kernel_rfl) ?_
 have hB0:Below W0 W0 W0.drew:=(Below.refl _ _).drew
 have hS:=HK0.out _ hB0
 refine ζb.take (i:=0) rfl rfl (by kernel_rfl) (by kernel_rfl) (by kernel_rfl) (by kernel_rfl) rfl (fun _ _ _ h=>h) (yieldsIf_load_mid rfl 39 (.tmp 1) rfl w 0 rfl [s0,s1,s2,s3,s4,s5] _ (fun w' h=>h.range 0 6) underlying39 rfl (by kernel_rfl)) hS ?_
 (try simp only [Act.put])
 refine ζb.take (i:=1) (v:=(.agg #[.float .f64 4607182418800017408,oOo])) rfl rfl (by kernel_rfl) (by kernel_rfl) (by kernel_rfl) (by kernel_rfl) rfl (fun _ _ _ h=>h) (Or.inl ⟨rfl,fun w' _=>by first|kernel_rfl|go_simp⟩) hS ?_
 (try simp only [Act.put])
 refine ζb.take (i:=3) rfl rfl (by kernel_rfl) (by kernel_rfl) (by kernel_rfl) (by kernel_rfl) rfl (fun _ _ _ h=>h) (yieldsIf_load_mid rfl 39 (.tmp 1) rfl w 0 rfl [s0,s1,s2,s3,s4,s5] _ (fun w' h=>h.range 0 6) underlying39 rfl (by kernel_rfl)) hS ?_
 (try simp only [Act.put])
 refine ζb.one (i:=2) (by kernel_rfl) rfl rfl ?_
 intro K hK
 have HKK:Hid _:=hK
 clear hK
 go_wp2_with fail
 refine (σa 4607182418800017408 0 s0 s1 s2 s3 s4 s5 _ σc h0 h1 h2 h3 h4 h5).mono ?_
 rintro o w1 ⟨vE,rfl,hE,hb1⟩
 have HE:Hid (ω0 vE 1 (pv s0 s1 s2) (pv s3 s4 s5)):=hE
 obtain ⟨m0,m1,m2,m3,m4,m5,m6,m7,m8,m9,m10,m11,m12,m13,rfl,_,_,_⟩:=hE
 have hB1:Below W0 W0 w1:=hB0.trans hb1
 clear hS
 refine HKK.out _ _ (fun _=>HK0.out _ hB1) ?_
 have hS:=HK0.out _ hB1
 clear HKK K
 (try simp only [Act.put])
 refine ζb.one (i:=4) (by kernel_rfl) rfl rfl ?_
 intro K hK
 have HKK:Hid _:=hK
 clear hK
 go_wp2_with fail
 refine (ωa _).mono ?_
 rintro o w2 ⟨vO,rfl,hO,hb2⟩
 have HO:Hid (ζe w2 vO 0 1):=hO
 obtain ⟨go,ao,co,zo,rfl,_,_,_⟩:=hO
 have hB2:Below W0 W0 w2:=hB1.trans (hb2.mono hB1.size)
 clear hS
 refine HKK.out _ _ (fun _=>HK0.out _ hB2) ?_
 have hS:=HK0.out _ hB2
 clear HKK K
 (try simp only [Act.put])
 refine ζb.one (i:=5) (by kernel_rfl) rfl rfl ?_
 intro K hK
 have HKK:Hid _:=hK
 clear hK
 go_wp2_with fail
 refine (σb _ s0 s1 s2 s3 s4 s5 _ (HT.out _ hB2) HO.out h0 h1 h2 h3 h4 h5).mono ?_
 rintro o w3 ⟨vB,rfl,hBB,hb3⟩
 have HLB:Hid (ξi w3 vB 277 0 1 (pv s0 s1 s2) (pv s3 s4 s5)):=hBB
 obtain ⟨gs1,as1,cs1,zs1,gs2,as2,cs2,zs2,gs3,as3,cs3,zs3,gd1,ad1,cd1,zd1,gd2,ad2,cd2,zd2,gd3,ad3,cd3,zd3,gk,ak,ck,zk,rfl,_,_,_⟩:=hBB
 have hB3:Below W0 W0 w3:=hB2.trans (hb3.mono hB2.size)
 clear hS
 refine HKK.out _ _ (fun _=>HK0.out _ hB3) ?_
 have hS:=HK0.out _ hB3
 clear HKK K
 (try simp only [Act.put])
 refine ζb.take (i:=6) (v:= .agg #[.float .f64 m0,.float .f64 m1,.float .f64 m2,.float .f64 m3,.float .f64 m4,.float .f64 m5,.float .f64 m6,.float .f64 m7,.float .f64 m8,.float .f64 m9,.float .f64 m10,.float .f64 m11,.float .f64 m12,.float .f64 m13,gs1,.slice as1 zs1 cs1,gs2,.slice as2 zs2 cs2,gs3,.slice as3 zs3 cs3,gd1,.slice ad1 zd1 cd1,gd2,.slice ad2 zd2 cd2,gd3,.slice ad3 zd3 cd3,gk,.slice ak zk ck]) rfl rfl (by kernel_rfl) (by kernel_rfl) (by kernel_rfl) (by kernel_rfl) rfl (fun _ _ _ h=>h) (Or.inl ⟨rfl,fun w' _=>by first|kernel_rfl|go_simp⟩) hS ?_
 (try simp only [Act.put])
 refine ζb.one (i:=7) (by kernel_rfl) rfl rfl ?_
 intro K hK
 refine wp_store_mid 96 (.tmp 2) (.tmp 9) rfl (↑w+1) 0 #[.float .f64 m0,.float .f64 m1,.float .f64 m2,.float .f64 m3,.float .f64 m4,.float .f64 m5,.float .f64 m6,.float .f64 m7,.float .f64 m8,.float .f64 m9,.float .f64 m10,.float .f64 m11,.float .f64 m12,.float .f64 m13,gs1,.slice as1 zs1 cs1,gs2,.slice as2 zs2 cs2,gs3,.slice as3 zs3 cs3,gd1,.slice ad1 zd1 cd1,gd2,.slice ad2 zd2 cd2,gd3,.slice ad3 zd3 cd3,gk,.slice ak zk ck] rfl rfl ((HZ.out.later hB3).there 0 28 (by simp)) (by kernel_rfl) (all_oneCell_toArray (by simp [Value.oneCell'])) ?_
 refine hK _ _ (fun h=>absurd rfl h) ?_
 clear hK K hS
 refine ζb.done (by kernel_rfl) ?_
 have HC9:Hid (Cs (World.setCells w3 (↑w+1) 0 (Array.toList #[.float .f64 m0,.float .f64 m1,.float .f64 m2,.float .f64 m3,.float .f64 m4,.float .f64 m5,.float .f64 m6,.float .f64 m7,.float .f64 m8,.float .f64 m9,.float .f64 m10,.float .f64 m11,.float .f64 m12,.float .f64 m13,gs1,.slice as1 zs1 cs1,gs2,.slice as2 zs2 cs2,gs3,.slice as3 zs3 cs3,gd1,.slice ad1 zd1 cd1,gd2,.slice ad2 zd2 cd2,gd3,.slice ad3 zd3 cd3,gk,.slice ak zk ck])) (↑w+1) [.float .f64 m0,.float .f64 m1,.float .f64 m2,.float .f64 m3,.float .f64 m4,.float .f64 m5,.float .f64 m6,.float .f64 m7,.float .f64 m8,.float .f64 m9,.float .f64 m10,.float .f64 m11,.float .f64 m12,.float .f64 m13,gs1,.slice as1 zs1 cs1,gs2,.slice as2 zs2 cs2,gs3,.slice as3 zs3 cs3,gd1,.slice ad1 zd1 cd1,gd2,.slice ad2 zd2 cd2,gd3,.slice ad3 zd3 cd3,gk,.slice ak zk ck]):=by unfold Hid;rw [ζg];exact (HZ.out.later hB3).whole _ rfl
 have HB9:Hid (ξi (World.setCells w3 (↑w+1) 0 (Array.toList #[.float .f64 m0,.float .f64 m1,.float .f64 m2,.float .f64 m3,.float .f64 m4,.float .f64 m5,.float .f64 m6,.float .f64 m7,.float .f64 m8,.float .f64 m9,.float .f64 m10,.float .f64 m11,.float .f64 m12,.float .f64 m13,gs1,.slice as1 zs1 cs1,gs2,.slice as2 zs2 cs2,gs3,.slice as3 zs3 cs3,gd1,.slice ad1 zd1 cd1,gd2,.slice ad2 zd2 cd2,gd3,.slice ad3 zd3 cd3,gk,.slice ak zk ck])) (.agg #[gs1,.slice as1 zs1 cs1,gs2,.slice as2 zs2 cs2,gs3,.slice as3 zs3 cs3,gd1,.slice ad1 zd1 cd1,gd2,.slice ad2 zd2 cd2,gd3,.slice ad3 zd3 cd3,gk,.slice ak zk ck]) 277 0 1 (pv s0 s1 s2) (pv s3 s4 s5)):=HLB.out.setAllC _ w3 0 (HN.out.later hB3) (by simp [ζh])
 have HW9:Hid (Below w w (World.setCells w3 (↑w+1) 0 (Array.toList #[.float .f64 m0,.float .f64 m1,.float .f64 m2,.float .f64 m3,.float .f64 m4,.float .f64 m5,.float .f64 m6,.float .f64 m7,.float .f64 m8,.float .f64 m9,.float .f64 m10,.float .f64 m11,.float .f64 m12,.float .f64 m13,gs1,.slice as1 zs1 cs1,gs2,.slice as2 zs2 cs2,gs3,.slice as3 zs3 cs3,gd1,.slice ad1 zd1 cd1,gd2,.slice ad2 zd2 cd2,gd3,.slice ad3 zd3 cd3,gk,.slice ak zk ck]))):=by unfold Hid;rw [ζg];exact ζd (by omega) _ w3 0 (HB.out.trans (hB3.mono HB.out.size))
 obtain ⟨W9,hW9⟩: ∃V,V=World.setCells w3 (↑w+1) 0 (Array.toList #[.float .f64 m0,.float .f64 m1,.float .f64 m2,.float .f64 m3,.float .f64 m4,.float .f64 m5,.float .f64 m6,.float .f64 m7,.float .f64 m8,.float .f64 m9,.float .f64 m10,.float .f64 m11,.float .f64 m12,.float .f64 m13,gs1,.slice as1 zs1 cs1,gs2,.slice as2 zs2 cs2,gs3,.slice as3 zs3 cs3,gd1,.slice ad1 zd1 cd1,gd2,.slice ad2 zd2 cd2,gd3,.slice ad3 zd3 cd3,gk,.slice ak zk ck]):=⟨_,rfl⟩
 rw [<-hW9] at HC9 HB9 HW9⊢
 change Exit.then _ _ Exit.normal {tmps:=#[.agg #[s0,s1,s2,s3,s4,s5],.pointer (some ⟨w,0,none⟩),.pointer (some ⟨↑w+1,0,none⟩),.agg #[s0,s1,s2,s3,s4,s5],.agg #[.float .f64 4607182418800017408,oOo],.agg #[.float .f64 m0,.float .f64 m1,.float .f64 m2,.float .f64 m3,.float .f64 m4,.float .f64 m5,.float .f64 m6,.float .f64 m7,.float .f64 m8,.float .f64 m9,.float .f64 m10,.float .f64 m11,.float .f64 m12,.float .f64 m13],.agg #[s0,s1,s2,s3,s4,s5],.agg #[go,.slice ao zo co],.agg #[gs1,.slice as1 zs1 cs1,gs2,.slice as2 zs2 cs2,gs3,.slice as3 zs3 cs3,gd1,.slice ad1 zd1 cd1,gd2,.slice ad2 zd2 cd2,gd3,.slice ad3 zd3 cd3,gk,.slice ak zk ck],.agg #[.float .f64 m0,.float .f64 m1,.float .f64 m2,.float .f64 m3,.float .f64 m4,.float .f64 m5,.float .f64 m6,.float .f64 m7,.float .f64 m8,.float .f64 m9,.float .f64 m10,.float .f64 m11,.float .f64 m12,.float .f64 m13,gs1,.slice as1 zs1 cs1,gs2,.slice as2 zs2 cs2,gs3,.slice as3 zs3 cs3,gd1,.slice ad1 zd1 cd1,gd2,.slice ad2 zd2 cd2,gd3,.slice ad3 zd3 cd3,gk,.slice ak zk ck]],defers:=[]} W9
 clear hW9 hB0 hB1 hB2 hB3 hb1 hb2 hb3 HO HLB HZ HN HR HT HK0
 go_wp2
 refine bodyPost_ret (v:= .agg #[.float .f64 m0,.float .f64 m1,.float .f64 m2,.float .f64 m3,.float .f64 m4,.float .f64 m5,.float .f64 m6,.float .f64 m7,.float .f64 m8,.float .f64 m9,.float .f64 m10,.float .f64 m11,.float .f64 m12,.float .f64 m13,gs1,.slice as1 zs1 cs1,gs2,.slice as2 zs2 cs2,gs3,.slice as3 zs3 cs3,gd1,.slice ad1 zd1 cd1,gd2,.slice ad2 zd2 cd2,gd3,.slice ad3 zd3 cd3,gk,.slice ak zk ck]) (ζy results39 rfl (HC9.out.range 0 28) underlying96 rfl (by kernel_rfl)) rfl ?_
 exact ⟨_,rfl,⟨_,_,_,_,_,_,_,_,_,_,_,_,_,_,_,_,_,_,_,_,_,_,_,_,_,_,_,_,rfl,HE.out,HB9.out⟩,HW9.out⟩
end Go.Proofs.YtfieffpobgcpmaaGreatDoor
