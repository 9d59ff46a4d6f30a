import Derived.Test.YtfieffpobgcpmaaGreatDoorMdRQ
import Derived.Test.YtfieffpobgcpmaaGreatDoorMdTQ
set_option maxRecDepth 100000
set_option maxHeartbeats 32000000
namespace Go.Proofs.YtfieffpobgcpmaaGreatDoor
open Go.RowKit
theorem CU.of {w:World} {pb:Nat} {bs:List Int} (h:Cs w pb (bs.map (Value.int .u32))):CU w pb bs:=
 ⟨h.1,fun j hj=>h.at j (by rw [List.getElem?_map,List.getElem?_eq_getElem hj,List.getD_eq_getElem?_getD,List.getElem?_eq_getElem hj];rfl)⟩
structure LsF (w:World) (T R:List Value) (W:World):Prop where
 t:Cs W (w.heap.size) T
 r:Cs W (w.heap.size+1) R
 z:Cs W (w.heap.size+1+1) [false,(),false,(),false]
 iz:NoInt W (w.heap.size+1+1)
 bel:Below w.heap.size w W
theorem LsF.later {w:World} {T R:List Value} {W W':World} (h:LsF w T R W) (hb:Below W.heap.size W W'):LsF w T R W':=
 ⟨h.t.later hb,h.r.later hb,h.z.later hb,h.iz.later hb,h.bel.trans (hb.mono h.bel.size)⟩
theorem LsF.start (w:World) (T R:Array Value) (s0 s1 s2:TypeId):LsF w T.toList R.toList (((w.alloc (.cells T s0)).alloc (.cells R s1)).alloc (.cells #[false,(),false,(),false] s2)):=by
 obtain ⟨w1,h1⟩: ∃V,V=w.alloc (.cells T s0):=⟨_,rfl⟩
 obtain ⟨w2,h2⟩: ∃V,V=w1.alloc (.cells R s1):=⟨_,rfl⟩
 obtain ⟨w3,h3⟩: ∃V,V=w2.alloc (.cells #[false,(),false,(),false] s2):=⟨_,rfl⟩
 have e1:w1.heap.size=w.heap.size+1:=by rw [h1];simp
 have e2:w2.heap.size=w.heap.size+1+1:=by rw [h2];simp [e1]
 have b1:Below w.heap.size w w1:=by rw [h1];exact bel0 _ _
 have b2:Below w1.heap.size w1 w2:=by rw [h2];exact bel0 _ _
 have b3:Below w2.heap.size w2 w3:=by rw [h3];exact bel0 _ _
 have c1:Cs w1 w.heap.size T.toList:=by rw [h1];exact Cs.new _ _ _
 have c2:Cs w2 (w.heap.size+1) R.toList:=by rw [h2,←e1];exact Cs.new _ _ _
 have c3:Cs w3 (w.heap.size+1+1) [false,(),false,(),false]:=by rw [h3,←e2];exact Cs.new _ _ _
 have n3:NoInt w3 (w.heap.size+1+1):=by rw [h3,←e2];exact NoInt.new _ _ _ (fun i k m=>by match i with|0=>simp|1=>simp|2=>simp|3=>simp|4=>simp|n+5=>simp)
 rw [←h1,←h2,←h3]
 exact ⟨(c1.later b2).later b3,c2.later b3,c3,n3,(b1.trans (b2.mono b1.size)).trans (b3.mono (by omega))⟩
structure NwS (W0:World) (Q:Nat) (us:List Value) (n:Nat) (P:Int→Int→Prop) (W:World):Prop where
 c:Cs W Q us
 s:SpO W (.agg us.toArray) n P
 le:W0.heap.size≤Q
 bel:Below W0.heap.size W0 W
theorem NwS.fin {W0 W:World} {Q:Nat} {zs us:List Value} {n:Nat} {P:Int→Int→Prop} (hc:Cs W Q zs) (hl:zs.length=us.length) (hn:NoInt W Q) (hu: ∀u∈us,NotInt u) (h:SpO W (.agg us.toArray) n P) (hb:Below W0.heap.size W0 W) (hP:W0.heap.size≤Q):NwS W0 Q us n P (setAll W Q 0 us):=
 ⟨hc.whole us hl,h.setAll us W 0 hn hu,hP,below_setAll hP us W 0 hb⟩
def noneF:Value:= .agg #[false,(),false,(),true]
def LeastOut (w:World) (n:Nat) (P:Int→Int→Prop) (o:Ending) (w':World):Prop:=
 (∃v a b c d,o= .returned v∧FrM w' v n a b∧Span P a b c d∧Below w.heap.size w w')∨(o= .returned noneF∧NoSpan P∧Below w.heap.size w w')
theorem meets_scale {A B C O D A' B' C' O' D':V3} {k:Int} (hk:0<k) (ha:V3.sc k A=A') (hb:V3.sc k B=B') (hc:V3.sc k C=C') (ho:V3.sc k O=O') (hd:V3.sc k D=D') (p q:Int):MeetP (fun p _=>0≤p) A B C O D p q↔Meets A' B' C' O' D' p q:=by
 rw [meetP_all,←ha,←hb,←hc,←ho,←hd]
 exact (Meets.scale k hk A B C O D p q).symm
theorem wcells_get: ∀(vs:List LW) (i j:Nat),i<vs.length→j<6→(vs.flatMap LW.cells)[i*6+j]? =(vs.getD i default).cells[j]?
 | [],i,j,h,_=>absurd h (by simp)
 |l::vs,0,j,_,hj=>by
  simp only [List.flatMap_cons,List.getD_cons_zero,Nat.zero_mul,Nat.zero_add]
  rw [List.getElem?_append_left (by simpa [LW.cells] using hj)]
 |l::vs,i+1,j,h,hj=>by
  have:=wcells_get vs i j (by simpa using h) hj
  simp only [List.flatMap_cons,List.getD_cons_succ] at this⊢
  rw [List.getElem?_append_right (by simp [LW.cells];omega),←this]
  congr 1
  simp [LW.cells]
  omega
theorem sc5 {w:World} {o:Ending} {w':World} {t0 t1 t2 t3 t4 t5 t6 t7 t8 s0 s1 s2 s3 s4 s5:Int} (h:ScOut w 5 [t0,t1,t2,t3,t4,t5,t6,t7,t8,s0,s1,s2,s3,s4,s5] o w'): ∃(K:Int) (b c:Nat) (A B C O D:V3) (pa0 pa1 pa2 pa3 pa4 pa5 pb0 pb1 pb2 pb3 pb4 pb5 pc0 pc1 pc2 pc3 pc4 pc5 po0 po1 po2 po3 po4 po5 pd0 pd1 pd2 pd3 pd4 pd5:Value),0<K∧o= .returned (.slice (some ⟨b,0,none⟩) 5 c)∧Below w.heap.size w w'∧(V3.sc K A=pv t0 t1 t2∧V3.sc K B=pv t3 t4 t5∧V3.sc K C=pv t6 t7 t8∧V3.sc K O=pv s0 s1 s2∧V3.sc K D=pv s3 s4 s5)∧(∀w'',Below w'.heap.size w' w''→(w''.rangeAt b 0 [pa0,pa1,pa2,pa3,pa4,pa5]∧VecM w'' (.agg #[pa0,pa1,pa2,pa3,pa4,pa5]) 21 A.x A.y A.z)∧(w''.rangeAt b 6 [pb0,pb1,pb2,pb3,pb4,pb5]∧VecM w'' (.agg #[pb0,pb1,pb2,pb3,pb4,pb5]) 21 B.x B.y B.z)∧(w''.rangeAt b 12 [pc0,pc1,pc2,pc3,pc4,pc5]∧VecM w'' (.agg #[pc0,pc1,pc2,pc3,pc4,pc5]) 21 C.x C.y C.z)∧(w''.rangeAt b 18 [po0,po1,po2,po3,po4,po5]∧VecM w'' (.agg #[po0,po1,po2,po3,po4,po5]) 21 O.x O.y O.z)∧(w''.rangeAt b 24 [pd0,pd1,pd2,pd3,pd4,pd5]∧VecM w'' (.agg #[pd0,pd1,pd2,pd3,pd4,pd5]) 21 D.x D.y D.z)):=by
 obtain ⟨L,b,c,vs,rfl,hlen,hbl,hcell,hvec,hb1⟩:=h
 have hrow: ∀w'',Below w'.heap.size w' w''→ ∀i,i<5→w''.rangeAt b (i*6) (vs.getD i default).cells:=by
  intro w'' hb i hi j u hj
  have hj6:j<6:=by
   rcases Nat.lt_or_ge j 6 with q|q
   ·exact q
   ·rw [List.getElem?_eq_none (by simpa [LW.cells] using q)] at hj;cases hj
  have h1:=hcell (i*6+j) u (by rw [wcells_get vs i j (by omega) hj6];exact hj)
  rw [Nat.zero_add] at h1
  exact (hb.cell (p:=⟨b,i*6+j,none⟩) hbl).trans h1
 have hv: ∀w'',Below w'.heap.size w' w''→ ∀i,i<5→VecM w'' (.agg (vs.getD i default).cells.toArray) 21 (vs.getD i default).x.m (vs.getD i default).y.m (vs.getD i default).z.m:=fun w'' hb i hi=>(hvec i hi).1.later hb
 have hs: ∀i,i<5→V3.sc (2^L) ⟨(vs.getD i default).x.m,(vs.getD i default).y.m,(vs.getD i default).z.m⟩=⟨cor ([t0,t1,t2,t3,t4,t5,t6,t7,t8,s0,s1,s2,s3,s4,s5].getD (i*3) 0),cor ([t0,t1,t2,t3,t4,t5,t6,t7,t8,s0,s1,s2,s3,s4,s5].getD (i*3+1) 0),cor ([t0,t1,t2,t3,t4,t5,t6,t7,t8,s0,s1,s2,s3,s4,s5].getD (i*3+2) 0)⟩:=by
  intro i hi
  obtain ⟨_,h1,h2,h3⟩:=hvec i hi
  simp only [V3.sc,h1,h2,h3]
 generalize e0:vs.getD 0 default=v0 at*
 have e0':=e0
 have r0:=fun w'' hb=>hrow w'' hb 0 (by decide)
 have r1:=fun w'' hb=>hrow w'' hb 1 (by decide)
 have r2:=fun w'' hb=>hrow w'' hb 2 (by decide)
 have r3:=fun w'' hb=>hrow w'' hb 3 (by decide)
 have r4:=fun w'' hb=>hrow w'' hb 4 (by decide)
 have u0:=fun w'' hb=>hv w'' hb 0 (by decide)
 have u1:=fun w'' hb=>hv w'' hb 1 (by decide)
 have u2:=fun w'' hb=>hv w'' hb 2 (by decide)
 have u3:=fun w'' hb=>hv w'' hb 3 (by decide)
 have u4:=fun w'' hb=>hv w'' hb 4 (by decide)
 have q0:=hs 0 (by decide)
 have q1:=hs 1 (by decide)
 have q2:=hs 2 (by decide)
 have q3:=hs 3 (by decide)
 have q4:=hs 4 (by decide)
 rw [e0] at r0 u0 q0
 generalize vs.getD 1 default=v1 at*
 generalize vs.getD 2 default=v2 at*
 generalize vs.getD 3 default=v3 at*
 generalize vs.getD 4 default=v4 at*
 clear hrow hv hs hcell hvec e0 e0'
 exact ⟨2^L,b,c,⟨v0.x.m,v0.y.m,v0.z.m⟩,⟨v1.x.m,v1.y.m,v1.z.m⟩,⟨v2.x.m,v2.y.m,v2.z.m⟩,⟨v3.x.m,v3.y.m,v3.z.m⟩,⟨v4.x.m,v4.y.m,v4.z.m⟩,.bool v0.x.g,.slice v0.x.a v0.x.fs.length v0.x.c,.bool v0.y.g,.slice v0.y.a v0.y.fs.length v0.y.c,.bool v0.z.g,.slice v0.z.a v0.z.fs.length v0.z.c,.bool v1.x.g,.slice v1.x.a v1.x.fs.length v1.x.c,.bool v1.y.g,.slice v1.y.a v1.y.fs.length v1.y.c,.bool v1.z.g,.slice v1.z.a v1.z.fs.length v1.z.c,.bool v2.x.g,.slice v2.x.a v2.x.fs.length v2.x.c,.bool v2.y.g,.slice v2.y.a v2.y.fs.length v2.y.c,.bool v2.z.g,.slice v2.z.a v2.z.fs.length v2.z.c,.bool v3.x.g,.slice v3.x.a v3.x.fs.length v3.x.c,.bool v3.y.g,.slice v3.y.a v3.y.fs.length v3.y.c,.bool v3.z.g,.slice v3.z.a v3.z.fs.length v3.z.c,.bool v4.x.g,.slice v4.x.a v4.x.fs.length v4.x.c,.bool v4.y.g,.slice v4.y.a v4.y.fs.length v4.y.c,.bool v4.z.g,.slice v4.z.a v4.z.fs.length v4.z.c,Int.pow_pos (by decide),rfl,hb1,⟨q0,q1,q2,q3,q4⟩,fun w'' hb=>⟨⟨r0 w'' hb,u0 w'' hb⟩,⟨r1 w'' hb,u1 w'' hb⟩,⟨r2 w'' hb,u2 w'' hb⟩,⟨r3 w'' hb,u3 w'' hb⟩,⟨r4 w'' hb,u4 w'' hb⟩⟩⟩
theorem forwardO_any (n:Nat) (hn:1≤n) (w:World):Calls Tryz.prog 67 #[] w fun o w'=> ∃v,o= .returned v∧SpO w' v n (fun p _=>0≤p)∧Below w.heap.size w w':=by
 refine (forward_any n hn w).mono ?_
 rintro o w' ⟨v,rfl,h,hb⟩
 exact ⟨v,rfl,.inl ⟨0,1,1,0,h,span_all⟩,hb⟩
theorem least_any (t0 t1 t2 t3 t4 t5 t6 t7 t8 s0 s1 s2 s3 s4 s5:Int) (w:World) (hu:U32 [t0,t1,t2,t3,t4,t5,t6,t7,t8,s0,s1,s2,s3,s4,s5]):
 Calls Tryz.prog 32 #[.agg #[t0,t1,t2,t3,t4,t5,t6,t7,t8],.agg #[s0,s1,s2,s3,s4,s5]] w fun o w'=>LeastOut w 1500 (Meets (pv t0 t1 t2) (pv t3 t4 t5) (pv t6 t7 t8) (pv s0 s1 s2) (pv s3 s4 s5)) o w':=by
 have HU:Hid (U32 [t0,t1,t2,t3,t4,t5,t6,t7,t8,s0,s1,s2,s3,s4,s5]):=hu
 have HI0:Hid (∀s0' s1' s2',LsF w [t0,t1,t2,t3,t4,t5,t6,t7,t8] [s0,s1,s2,s3,s4,s5] (((w.alloc (.cells #[t0,t1,t2,t3,t4,t5,t6,t7,t8] s0')).alloc (.cells #[s0,s1,s2,s3,s4,s5] s1')).alloc (.cells #[false,(),false,(),false] s2'))):=fun s0' s1' s2'=>LsF.start w _ _ s0' s1' s2'
 clear hu
 go_enter Tryz.func32,Tryz.ntmps32
 go_wp2_with fail
 obtain ⟨W0,hW0⟩: ∃V,V=(((w.alloc (.cells #[t0,t1,t2,t3,t4,t5,t6,t7,t8] 36)).alloc (.cells #[s0,s1,s2,s3,s4,s5] 39)).alloc (.cells #[false,(),false,(),false] 74)):=⟨_,rfl⟩
 rw [←hW0]
 have e0:W0.heap.size=w.heap.size+1+1+1:=by rw [hW0];simp
 have HF0:Hid (LsF w [t0,t1,t2,t3,t4,t5,t6,t7,t8] [s0,s1,s2,s3,s4,s5] W0):=by unfold Hid;rw [hW0];exact HI0.out _ _ _
 obtain ⟨W1,hW1⟩: ∃V,V=W0.alloc (.cells #[t0,t1,t2,t3,t4,t5,t6,t7,t8,s0,s1,s2,s3,s4,s5] 34):=⟨_,rfl⟩
 rw [←hW1]
 have HCU:Hid (CU W1 (w.heap.size+1+1+1) [t0,t1,t2,t3,t4,t5,t6,t7,t8,s0,s1,s2,s3,s4,s5]):=by
  have h:Cs W1 W0.heap.size [t0,t1,t2,t3,t4,t5,t6,t7,t8,s0,s1,s2,s3,s4,s5]:=by rw [hW1];exact Cs.new _ _ _
  rw [e0] at h
  exact CU.of (bs:=[t0,t1,t2,t3,t4,t5,t6,t7,t8,s0,s1,s2,s3,s4,s5]) h
 have HF0':Hid (LsF w [t0,t1,t2,t3,t4,t5,t6,t7,t8] [s0,s1,s2,s3,s4,s5] W1):=by unfold Hid;rw [hW1];exact HF0.out.later (bel0 _ _)
 clear hW0 hW1 e0 HF0 HI0
 refine (scale_any (w.heap.size+1+1+1) 5 5 [t0,t1,t2,t3,t4,t5,t6,t7,t8,s0,s1,s2,s3,s4,s5] W1 rfl (by decide) (by decide) HU.out HCU.out).mono ?_
 rintro o w1 hsc
 obtain ⟨K,b,c,A,B,C,O,D,pa0,pa1,pa2,pa3,pa4,pa5,pb0,pb1,pb2,pb3,pb4,pb5,pc0,pc1,pc2,pc3,pc4,pc5,po0,po1,po2,po3,po4,po5,pd0,pd1,pd2,pd3,pd4,pd5,hK0,rfl,hb1,⟨e0,e1,e2,e3,e4⟩,hall⟩:=sc5 hsc
 have HF1:Hid (LsF w [t0,t1,t2,t3,t4,t5,t6,t7,t8] [s0,s1,s2,s3,s4,s5] w1):=HF0'.out.later hb1
 have HR:Hid (∀w',Below w1.heap.size w1 w'→w'.rangeAt b 0 [pa0,pa1,pa2,pa3,pa4,pa5]∧w'.rangeAt b 6 [pb0,pb1,pb2,pb3,pb4,pb5]∧w'.rangeAt b 12 [pc0,pc1,pc2,pc3,pc4,pc5]∧w'.rangeAt b 18 [po0,po1,po2,po3,po4,po5]∧w'.rangeAt b 24 [pd0,pd1,pd2,pd3,pd4,pd5]):=fun w' hb'=>by
  have h:=hall w' hb'
  exact ⟨h.1.1,h.2.1.1,h.2.2.1.1,h.2.2.2.1.1,h.2.2.2.2.1⟩
 have HV0:Hid (∀w',Below w1.heap.size w1 w'→VecM w' (.agg #[pa0,pa1,pa2,pa3,pa4,pa5]) 21 A.x A.y A.z):=fun w' hb'=>(hall w' hb').1.2
 have HV1:Hid (∀w',Below w1.heap.size w1 w'→VecM w' (.agg #[pb0,pb1,pb2,pb3,pb4,pb5]) 21 B.x B.y B.z):=fun w' hb'=>(hall w' hb').2.1.2
 have HV2:Hid (∀w',Below w1.heap.size w1 w'→VecM w' (.agg #[pc0,pc1,pc2,pc3,pc4,pc5]) 21 C.x C.y C.z):=fun w' hb'=>(hall w' hb').2.2.1.2
 have HV3:Hid (∀w',Below w1.heap.size w1 w'→VecM w' (.agg #[po0,po1,po2,po3,po4,po5]) 21 O.x O.y O.z):=fun w' hb'=>(hall w' hb').2.2.2.1.2
 have HV4:Hid (∀w',Below w1.heap.size w1 w'→VecM w' (.agg #[pd0,pd1,pd2,pd3,pd4,pd5]) 21 D.x D.y D.z):=fun w' hb'=>(hall w' hb').2.2.2.2.2
 have HM:Hid (∀p q,MeetP (fun p _=>0≤p) A B C O D p q↔(Meets (pv t0 t1 t2) (pv t3 t4 t5) (pv t6 t7 t8) (pv s0 s1 s2) (pv s3 s4 s5)) p q):=fun p q=>meets_scale hK0 e0 e1 e2 e3 e4 p q
 clear hall hK0 e0 e1 e2 e3 e4 hsc hb1 HF0' HCU
 go_wp2_with fail
 have HK:Hid (∀w',Below w1.heap.size w1 w'→(fun w'=>w'.rangeAt b 0 [pa0,pa1,pa2,pa3,pa4,pa5]∧w'.rangeAt b 6 [pb0,pb1,pb2,pb3,pb4,pb5]∧w'.rangeAt b 12 [pc0,pc1,pc2,pc3,pc4,pc5]∧w'.rangeAt b 18 [po0,po1,po2,po3,po4,po5]∧w'.rangeAt b 24 [pd0,pd1,pd2,pd3,pd4,pd5]) w'):=HR
 go_cut [6] from 19 (fun s6 wx=> ∃(PS:Nat) (g1x:Bool) (a1x:Option Addr) (k1x c1x:Nat) (g2x:Bool) (a2x:Option Addr) (k2x c2x:Nat) (t1x:Bool) (g3x:Bool) (a3x:Option Addr) (k3x c3x:Nat) (g4x:Bool) (a4x:Option Addr) (k4x c4x:Nat) (t2x t3x:Bool),s6= .pointer (some ⟨PS,0,none⟩)∧Hid (NwS w1 PS [g1x,.slice a1x k1x c1x,g2x,.slice a2x k2x c2x,t1x,g3x,.slice a3x k3x c3x,g4x,.slice a4x k4x c4x,t2x,t3x] 1500 (MeetP (fun p _=>0≤p) A B C O D) wx))
 case first=>
  refine AnyK.regionK HK 18 (by kernel_rfl) ?_
  obtain ⟨WD,hWD⟩: ∃V,V=w1.drew:=⟨_,rfl⟩
  rw [←hWD]
  have hBd:Below w1.heap.size w1 WD:=by rw [hWD];exact (Below.refl _ _).drew
  clear hWD
  have hS:=HK.out WD hBd
  refine AnyK.tk 1 20 (.slice (some ⟨b,0,none⟩) 5 c) rfl rfl (by kernel_rfl) (fun _ _ _ h=>h) rfl (Or.inl ⟨rfl,fun w' _=>by go_simp⟩) hS ?_
  simp only [sT,sS,sZ]
  refine AnyK.tk 2 21 (.pointer (some ⟨b,0,none⟩)) rfl rfl (by kernel_rfl) (fun _ _ _ h=>h) rfl (Or.inl ⟨rfl,fun w' _=>by go_simp⟩) hS ?_
  simp only [sT,sS,sZ]
  refine AnyK.tk 3 22 _ rfl rfl (by kernel_rfl) (fun _ _ _ h=>h) rfl (yieldsIf_load_mid rfl 128 (.tmp 21) rfl (b) (0) rfl [pa0,pa1,pa2,pa3,pa4,pa5] _ (fun w' h=>h.1) Tryz.underlying128 rfl (by kernel_rfl)) hS ?_
  simp only [sT,sS,sZ]
  refine AnyK.tk 4 23 (.slice (some ⟨b,0,none⟩) 5 c) rfl rfl (by kernel_rfl) (fun _ _ _ h=>h) rfl (Or.inl ⟨rfl,fun w' _=>by go_simp⟩) hS ?_
  simp only [sT,sS,sZ]
  refine AnyK.tk 5 24 (.pointer (some ⟨b,6,none⟩)) rfl rfl (by kernel_rfl) (fun _ _ _ h=>h) rfl (Or.inl ⟨rfl,fun w' _=>by go_simp⟩) hS ?_
  simp only [sT,sS,sZ]
  refine AnyK.tk 6 25 _ rfl rfl (by kernel_rfl) (fun _ _ _ h=>h) rfl (yieldsIf_load_mid rfl 128 (.tmp 24) rfl (b) (6) rfl [pb0,pb1,pb2,pb3,pb4,pb5] _ (fun w' h=>h.2.1) Tryz.underlying128 rfl (by kernel_rfl)) hS ?_
  simp only [sT,sS,sZ]
  refine AnyK.tk 7 26 (.slice (some ⟨b,0,none⟩) 5 c) rfl rfl (by kernel_rfl) (fun _ _ _ h=>h) rfl (Or.inl ⟨rfl,fun w' _=>by go_simp⟩) hS ?_
  simp only [sT,sS,sZ]
  refine AnyK.tk 8 27 (.pointer (some ⟨b,12,none⟩)) rfl rfl (by kernel_rfl) (fun _ _ _ h=>h) rfl (Or.inl ⟨rfl,fun w' _=>by go_simp⟩) hS ?_
  simp only [sT,sS,sZ]
  refine AnyK.tk 9 28 _ rfl rfl (by kernel_rfl) (fun _ _ _ h=>h) rfl (yieldsIf_load_mid rfl 128 (.tmp 27) rfl (b) (12) rfl [pc0,pc1,pc2,pc3,pc4,pc5] _ (fun w' h=>h.2.2.1) Tryz.underlying128 rfl (by kernel_rfl)) hS ?_
  simp only [sT,sS,sZ]
  refine AnyK.tk 10 29 (.slice (some ⟨b,0,none⟩) 5 c) rfl rfl (by kernel_rfl) (fun _ _ _ h=>h) rfl (Or.inl ⟨rfl,fun w' _=>by go_simp⟩) hS ?_
  simp only [sT,sS,sZ]
  refine AnyK.tk 11 30 (.pointer (some ⟨b,18,none⟩)) rfl rfl (by kernel_rfl) (fun _ _ _ h=>h) rfl (Or.inl ⟨rfl,fun w' _=>by go_simp⟩) hS ?_
  simp only [sT,sS,sZ]
  refine AnyK.tk 12 31 _ rfl rfl (by kernel_rfl) (fun _ _ _ h=>h) rfl (yieldsIf_load_mid rfl 128 (.tmp 30) rfl (b) (18) rfl [po0,po1,po2,po3,po4,po5] _ (fun w' h=>h.2.2.2.1) Tryz.underlying128 rfl (by kernel_rfl)) hS ?_
  simp only [sT,sS,sZ]
  refine AnyK.tk 13 32 (.slice (some ⟨b,0,none⟩) 5 c) rfl rfl (by kernel_rfl) (fun _ _ _ h=>h) rfl (Or.inl ⟨rfl,fun w' _=>by go_simp⟩) hS ?_
  simp only [sT,sS,sZ]
  refine AnyK.tk 14 33 (.pointer (some ⟨b,24,none⟩)) rfl rfl (by kernel_rfl) (fun _ _ _ h=>h) rfl (Or.inl ⟨rfl,fun w' _=>by go_simp⟩) hS ?_
  simp only [sT,sS,sZ]
  refine AnyK.tk 15 34 _ rfl rfl (by kernel_rfl) (fun _ _ _ h=>h) rfl (yieldsIf_load_mid rfl 128 (.tmp 33) rfl (b) (24) rfl [pd0,pd1,pd2,pd3,pd4,pd5] _ (fun w' h=>h.2.2.2.2) Tryz.underlying128 rfl (by kernel_rfl)) hS ?_
  simp only [sT,sS,sZ]
  refine AnyP.begin [0,16] [17] ?_
  have hBw:=hBd
  clear hBd
  repeat' first
   |refine AnyP.cb (by kernel_rfl) rfl rfl rfl rfl ?_ ?_
   |refine AnyP.c (by kernel_rfl) rfl rfl ?_
   |refine AnyP.b (by kernel_rfl) rfl rfl ?_
   |(refine Turn.go 0 ?_
     intro K HKK
     go_wp2_with fail
     refine (forwardO_any 1500 (by decide) _).mono ?_
     rintro o uW ⟨vV,rfl,hv,hSt⟩
     replace hBw:=hBw.trans (hSt.mono hBw.size)
     (try replace hcb:=hcb.later hSt)
     (try replace hnb:=hnb.later hSt)
     (try replace Rx:=Hid.mk (Rx.out.later hSt))
     have Rf:Hid (SpO uW vV 1500 (fun p _=>0≤p)):=hv
     obtain ⟨g1f,a1f,k1f,c1f,g2f,a2f,k2f,c2f,t1f,g3f,a3f,k3f,c3f,g4f,a4f,k4f,c4f,t2f,t3f,rfl⟩:=SpO.shape hv
     refine HKK.out _ _ (fun _=>HK.out _ hBw) ?_
     clear HKK K hSt
     (try simp only [Act.put]))
   |(refine Turn.go 16 ?_
     intro K HKK
     go_wp2_with fail
     refine (meets_any (fun p _=>0≤p) (.agg #[g1f,.slice a1f k1f c1f,g2f,.slice a2f k2f c2f,t1f,g3f,.slice a3f k3f c3f,g4f,.slice a4f k4f c4f,t2f,t3f]) (.agg #[pa0,pa1,pa2,pa3,pa4,pa5]) (.agg #[pb0,pb1,pb2,pb3,pb4,pb5]) (.agg #[pc0,pc1,pc2,pc3,pc4,pc5]) (.agg #[po0,po1,po2,po3,po4,po5]) (.agg #[pd0,pd1,pd2,pd3,pd4,pd5]) 21 1500 A B C O D _ (by decide) (by decide) Rf.out (HV0.out _ hBw) (HV1.out _ hBw) (HV2.out _ hBw) (HV3.out _ hBw) (HV4.out _ hBw)).mono ?_
     rintro o uW ⟨vV,rfl,hv,hSt⟩
     replace hBw:=hBw.trans (hSt.mono hBw.size)
     (try replace hcb:=hcb.later hSt)
     (try replace hnb:=hnb.later hSt)
     (try replace Rf:=Hid.mk (Rf.out.later hSt))
     have Rx:Hid (SpO uW vV 1500 (MeetP (fun p _=>0≤p) A B C O D)):=hv
     obtain ⟨g1x,a1x,k1x,c1x,g2x,a2x,k2x,c2x,t1x,g3x,a3x,k3x,c3x,g4x,a4x,k4x,c4x,t2x,t3x,rfl⟩:=SpO.shape hv
     refine HKK.out _ _ (fun _=>HK.out _ hBw) ?_
     clear HKK K hSt
     (try simp only [Act.put]))
   |(refine Turn.go 17 ?_
     intro K HKK
     go_wp2_with fail
     obtain ⟨uW,hu,hSt,hcb,hnb,hBw,hPb,_⟩:=boxAny hBw #[false,(),false,(),false,false,(),false,(),false,false] 124 rfl
     (try replace Rf:=Hid.mk (Rf.out.later hSt))
     (try replace Rx:=Hid.mk (Rx.out.later hSt))
     refine HKK.out _ _ (fun _=>by rw [hu];exact HK.out _ hBw) ?_
     rw [hu]
     clear HKK K hu hSt
     (try simp only [Act.put]))
  all_goals
   refine ⟨AnyK.one (i:=18) (by kernel_rfl) rfl rfl ?_⟩
   intro K hK
   refine wp_store_mid 124 (.tmp 6) (.tmp 35) rfl (_) 0 #[g1x,.slice a1x k1x c1x,g2x,.slice a2x k2x c2x,t1x,g3x,.slice a3x k3x c3x,g4x,.slice a4x k4x c4x,t2x,t3x] rfl rfl (hcb.there 0 11 (by simp)) (by kernel_rfl) (all_oneCell_toArray (by simp [Value.oneCell'])) ?_
   refine hK _ _ (fun h=>absurd rfl h) ?_
   clear hK K
   refine AnyK.done (by kernel_rfl) ?_
   rw [show∀W b i,World.setCells W b i (Array.toList #[g1x,.slice a1x k1x c1x,g2x,.slice a2x k2x c2x,t1x,g3x,.slice a3x k3x c3x,g4x,.slice a4x k4x c4x,t2x,t3x])=setAll W b i [g1x,.slice a1x k1x c1x,g2x,.slice a2x k2x c2x,t1x,g3x,.slice a3x k3x c3x,g4x,.slice a4x k4x c4x,t2x,t3x] from fun W b i=>setCells_all _ _ _ _]
   go_wp2_with fail
   go_meet
   case rel=>exact ⟨_,g1x,a1x,k1x,c1x,g2x,a2x,k2x,c2x,t1x,g3x,a3x,k3x,c3x,g4x,a4x,k4x,c4x,t2x,t3x,rfl,NwS.fin hcb rfl hnb (by simp [NotInt]) Rx.out hBw hPb⟩
 case rest=>
  clear HK HR
  obtain ⟨PS,g1x,a1x,k1x,c1x,g2x,a2x,k2x,c2x,t1x,g3x,a3x,k3x,c3x,g4x,a4x,k4x,c4x,t2x,t3x,rfl,HN⟩:=hcut
  obtain ⟨W2,hW2⟩: ∃V,V=wc:=⟨_,rfl⟩
  rw [←hW2] at HN⊢
  clear hW2
  have HF2:Hid (LsF w [t0,t1,t2,t3,t4,t5,t6,t7,t8] [s0,s1,s2,s3,s4,s5] W2):=HF1.out.later HN.out.bel
  have HC2:Hid (Cs W2 PS [g1x,.slice a1x k1x c1x,g2x,.slice a2x k2x c2x,t1x,g3x,.slice a3x k3x c3x,g4x,.slice a4x k4x c4x,t2x,t3x]):=HN.out.c
  have HS2:Hid (SpO W2 (.agg #[g1x,.slice a1x k1x c1x,g2x,.slice a2x k2x c2x,t1x,g3x,.slice a3x k3x c3x,g4x,.slice a4x k4x c4x,t2x,t3x]) 1500 (Meets (pv t0 t1 t2) (pv t3 t4 t5) (pv t6 t7 t8) (pv s0 s1 s2) (pv s3 s4 s5))):=HN.out.s.congr (fun p q _=>HM.out p q)
  clear HN HF1 HM HV0 HV1 HV2 HV3 HV4
  rcases HS2.out with ⟨a,b',c',d,h1,h2⟩| ⟨h1,h2⟩
  ·clear HS2
   obtain ⟨g1,a1,c1,z1,g2,a2,c2,z2,g3,a3,c3,z3,g4,a4,c4,z4,tt,he,m1,m2,m3⟩:=h1
   have HM1:Hid (MIs W2 (.agg #[g1,.slice a1 z1.length c1]) 1500 a):=m1
   have HM2:Hid (MIs W2 (.agg #[g2,.slice a2 z2.length c2]) 1500 b'):=m2
   have HSp:Hid (Span (Meets (pv t0 t1 t2) (pv t3 t4 t5) (pv t6 t7 t8) (pv s0 s1 s2) (pv s3 s4 s5)) a b' c' d):=h2
   clear m1 m2 m3 h2
   simp only [Value.agg.injEq,Array.mk.injEq,List.cons.injEq,Value.bool.injEq,Value.slice.injEq,and_true] at he
   obtain ⟨rfl,⟨rfl,rfl,rfl⟩,rfl,⟨rfl,rfl,rfl⟩,rfl,rfl,⟨rfl,rfl,rfl⟩,rfl,⟨rfl,rfl,rfl⟩,rfl,rfl⟩:=he
   have x0:=HC2.out.at 0 rfl
   have x1:=HC2.out.at 1 rfl
   have x2:=HC2.out.at 2 rfl
   have x3:=HC2.out.at 3 rfl
   have x4:=HC2.out.at 4 rfl
   have x10:=HC2.out.at 10 rfl
   have z0':=HF2.out.z.at 0 rfl
   have z1':=HF2.out.z.at 1 rfl
   have z2':=HF2.out.z.at 2 rfl
   have z3':=HF2.out.z.at 3 rfl
   have z4':=HF2.out.z.at 4 rfl
   have fz:=HF2.out.z.2.1
   go_wp2
   refine bodyPost_ret (v:= .agg #[g1x,.slice a1x z1.length c1x,g2x,.slice a2x z2.length c2x,false]) (by simp [results,Tryz.results32,go_sem,z0',z1',z2',z3',z4']) rfl ?_
   exact .inl ⟨_,_,_,_,_,rfl,⟨_,_,_,_,_,_,_,_,rfl,HM1.out.setAll [g1x,.slice a1x z1.length c1x,g2x,.slice a2x z2.length c2x,false] _ 0 HF2.out.iz (by simp [NotInt]),HM2.out.setAll [g1x,.slice a1x z1.length c1x,g2x,.slice a2x z2.length c2x,false] _ 0 HF2.out.iz (by simp [NotInt])⟩,HSp.out,below_setAll (vs:=[↑g1x,.slice a1x z1.length c1x,↑g2x,.slice a2x z2.length c2x,↑false]) (by omega) _ 0 HF2.out.bel⟩
  ·clear HS2
   have HNo:Hid (NoSpan (Meets (pv t0 t1 t2) (pv t3 t4 t5) (pv t6 t7 t8) (pv s0 s1 s2) (pv s3 s4 s5))):=h2
   unfold noneM at h1
   simp only [Value.agg.injEq,Array.mk.injEq,List.cons.injEq,Value.bool.injEq,Value.slice.injEq,and_true] at h1
   obtain ⟨rfl,⟨rfl,rfl,rfl⟩,rfl,⟨rfl,rfl,rfl⟩,rfl,rfl,⟨rfl,rfl,rfl⟩,rfl,⟨rfl,rfl,rfl⟩,rfl,rfl⟩:=h1
   clear h2
   have x10:=HC2.out.at 10 rfl
   have z0':=HF2.out.z.at 0 rfl
   have z1':=HF2.out.z.at 1 rfl
   have z2':=HF2.out.z.at 2 rfl
   have z3':=HF2.out.z.at 3 rfl
   have z4':=HF2.out.z.at 4 rfl
   have fz:=HF2.out.z.2.1
   go_wp2
   refine bodyPost_ret (v:=noneF) (by simp [results,Tryz.results32,go_sem,noneF,z0',z1',z2',z3',z4']) rfl ?_
   exact .inr ⟨rfl,HNo.out,below_setAll (vs:=[↑false,↑(),↑false,↑(),↑true]) (by omega) _ 0 HF2.out.bel⟩
end Go.Proofs.YtfieffpobgcpmaaGreatDoor
