import Derived.Test.YtfieffpobgcpmaaGreatDoorMdRQS
import Derived.Test.YtfieffpobgcpmaaGreatDoorMdTQS
import Derived.Test.YtfieffpobgcpmaaGreatDoorMdKMdQMdBMdCS
import Derived.Deep.MidRow
import Derived.Deep.CutRange
set_option maxRecDepth 100000
set_option maxHeartbeats 32000000
namespace Go.Proofs.YtfieffpobgcpmaaGreatDoor
open Go.RowKit Go.Proofs.Tryz
variable {w:World}
theorem CU.of {pb:Nat} {bs:List Int} (h:Cs w pb (bs.map (Value.int .u32))):CU w pb bs:=
 ⟨h.1,fun j hj=>h.at j (by rw [List.getElem?_map,List.getElem?_eq_getElem hj,List.getD_eq_getElem?_getD,List.getElem?_eq_getElem hj];rfl)⟩
structure LsF (w:World) (T R:List Value) (W:World):Prop where
 t:Cs W (w.heap.size) T
 r:Cs W (w.heap.size+1) R
 z:Cs W (w.heap.size+1+1) [false,(),false,(),false]
 iz:ζf W (w.heap.size+1+1)
 bel:Below w.heap.size w W
theorem LsF.later {T R:List Value} {W W':World} (h:LsF w T R W) (hb:Below W.heap.size W W'):LsF w T R W':=
 ⟨h.t.later hb,h.r.later hb,h.z.later hb,h.iz.later hb,h.bel.trans (hb.mono h.bel.size)⟩
theorem LsF.start (w:World) (T R:Array Value) (s0 s1 s2:TypeId):LsF w T.toList R.toList (((w.alloc (.cells T s0)).alloc (.cells R s1)).alloc (.cells #[false,(),false,(),false] s2)):=by
 obtain ⟨w1,h1⟩: ∃V,V=w.alloc (.cells T s0):=⟨_,rfl⟩
 obtain ⟨w2,h2⟩: ∃V,V=w1.alloc (.cells R s1):=⟨_,rfl⟩
 obtain ⟨w3,h3⟩: ∃V,V=w2.alloc (.cells #[false,(),false,(),false] s2):=⟨_,rfl⟩
 have e1:w1.heap.size=w.heap.size+1:=by rw [h1];simp
 have e2:w2.heap.size=w.heap.size+1+1:=by rw [h2];simp [e1]
 have b1:Below w.heap.size w w1:=by rw [h1];exact ζc _ _
 have b2:Below w1.heap.size w1 w2:=by rw [h2];exact ζc _ _
 have b3:Below w2.heap.size w2 w3:=by rw [h3];exact ζc _ _
 have c1:Cs w1 w.heap.size T.toList:=by rw [h1];exact Cs.new _ _ _
 have c2:Cs w2 (w.heap.size+1) R.toList:=by rw [h2,<-e1];exact Cs.new _ _ _
 have c3:Cs w3 (w.heap.size+1+1) [false,(),false,(),false]:=by rw [h3,<-e2];exact Cs.new _ _ _
 have n3:ζf w3 (w.heap.size+1+1):=by rw [h3,<-e2];exact ζf.new _ _ _ (fun i k m=>by match i with|0=>simp|1=>simp|2=>simp|3=>simp|4=>simp|n+5=>simp)
 rw [<-h1,<-h2,<-h3]
 exact ⟨(c1.later b2).later b3,c2.later b3,c3,n3,(b1.trans (b2.mono b1.size)).trans (b3.mono (by omega))⟩
structure NwS (W0:World) (Q:Nat) (us:List Value) (n:Nat) (P:Int->Int->Prop) (W:World):Prop where
 c:Cs W Q us
 s:SpO W (.agg us.toArray) n P
 le:W0.heap.size<=Q
 bel:Below W0.heap.size W0 W
theorem NwS.fin {W0 W:World} {Q:Nat} {zs us:List Value} {n:Nat} {P:Int->Int->Prop} (hc:Cs W Q zs) (hl:zs.length=us.length) (hn:ζf W Q) (hu: ∀u∈us,ζh u) (h:SpO W (.agg us.toArray) n P) (hb:Below W0.heap.size W0 W) (hP:W0.heap.size<=Q):NwS W0 Q us n P (setAll W Q 0 us):=
 ⟨hc.whole us hl,h.setAll us W 0 hn hu,hP,ζd hP us W 0 hb⟩
def τl:Value:= .agg #[false,(),false,(),true]
def τm (w:World) (n:Nat) (P:Int->Int->Prop) (o:Ending) (w':World):Prop:=
 (∃v a b c d,o= .returned v∧FrM w' v n a b∧ξg P a b c d∧Below w.heap.size w w')∨(o= .returned τl∧ζ5 P∧Below w.heap.size w w')
theorem θ4 {A B C O D A' B' C' O' D':V3} {k:Int} (hk:0<k) (ha:V3.sc k A=A') (hb:V3.sc k B=B') (hc:V3.sc k C=C') (ho:V3.sc k O=O') (hd:V3.sc k D=D') (p q:Int):φm (fun p _=>0<=p) A B C O D p q↔ζs A' B' C' O' D' p q:=by
 rw [θn,<-ha,<-hb,<-hc,<-ho,<-hd]
 exact (ζs.scale k hk A B C O D p q).symm
theorem χV: ∀(vs:List LW) (i j:Nat),i<vs.length->j<6->(vs.flatMap LW.cells)[i*6+j]? =(vs.getD i default).cells[j]?
 | [],i,j,h,_=>absurd h (by simp)
 |l::vs,0,j,_,hj=>by
  simp only [List.flatMap_cons,List.getD_cons_zero,Nat.zero_mul,Nat.zero_add]
  rw [List.getElem?_append_left (by simpa [LW.cells] using hj)]
 |l::vs,i+1,j,h,hj=>by
  have:=χV vs i j (by simpa using h) hj
  simp only [List.flatMap_cons,List.getD_cons_succ] at this⊢
  rw [List.getElem?_append_right (by simp [LW.cells];omega),<-this]
  congr 1
  simp [LW.cells]
  omega
theorem τk.all {np:Nat} {bs:List Int} {o:Ending} {w':World} (h:τk w np bs o w'): ∃(K:Int) (b c:Nat) (vs:Nat->LW),0<K∧o= .returned (.slice (some ⟨b,0,none⟩) np c)∧Below w.heap.size w w'∧ ∀i,i<np->V3.sc K (vs i).v=⟨cor (bs.getD (i*3) 0),cor (bs.getD (i*3+1) 0),cor (bs.getD (i*3+2) 0)⟩∧ ∀w'',Below w'.heap.size w' w''->w''.rangeAt b (i*6) (vs i).cells∧ζF w'' (.agg (vs i).cells.toArray) 21 (vs i).x.m (vs i).y.m (vs i).z.m:=by
 obtain ⟨L,b,c,vs,rfl,hlen,hbl,hcell,hvec,hb1⟩:=h
 refine ⟨2^L,b,c,fun i=>vs.getD i default,Int.pow_pos (by decide),rfl,hb1,fun i hi=> ?_⟩
 obtain ⟨h0,h1,h2,h3⟩:=hvec i hi
 refine ⟨by simp only [V3.sc,LW.v,h1,h2,h3],fun w'' hb=>⟨fun j u hj=> ?_,h0.later hb⟩⟩
 have hj6:j<6:=by
  rcases Nat.lt_or_ge j 6 with q|q
  ·exact q
  ·rw [List.getElem?_eq_none (by simpa [LW.cells] using q)] at hj;cases hj
 have h1:=hcell (i*6+j) u (by rw [χV vs i j (by omega) hj6];exact hj)
 rw [Nat.zero_add] at h1
 exact (hb.cell (p:=⟨b,i*6+j,none⟩) hbl).trans h1
theorem θq (n:Nat) (hn:1<=n) (w:World):Calls prog 67 #[] w fun o w'=> ∃v,o= .returned v∧SpO w' v n (fun p _=>0<=p)∧Below w.heap.size w w':=by
 refine (θ2 n hn w).mono ?_
 rintro o w' ⟨v,rfl,h,hb⟩
 exact ⟨v,rfl,.inl ⟨0,1,1,0,h,span_all⟩,hb⟩
theorem σW (t0 t1 t2 t3 t4 t5 t6 t7 t8 s0 s1 s2 s3 s4 s5:Int) (w:World) (hu:U32 [t0,t1,t2,t3,t4,t5,t6,t7,t8,s0,s1,s2,s3,s4,s5]):
 Calls prog 32 #[.agg #[t0,t1,t2,t3,t4,t5,t6,t7,t8],.agg #[s0,s1,s2,s3,s4,s5]] w fun o w'=>τm w 1500 (ζs (pv t0 t1 t2) (pv t3 t4 t5) (pv t6 t7 t8) (pv s0 s1 s2) (pv s3 s4 s5)) o w':=by
 have HU:Hid (U32 [t0,t1,t2,t3,t4,t5,t6,t7,t8,s0,s1,s2,s3,s4,s5]):=hu
 have HI0:Hid (∀s0' s1' s2',LsF w [t0,t1,t2,t3,t4,t5,t6,t7,t8] [s0,s1,s2,s3,s4,s5] (((w.alloc (.cells #[t0,t1,t2,t3,t4,t5,t6,t7,t8] s0')).alloc (.cells #[s0,s1,s2,s3,s4,s5] s1')).alloc (.cells #[false,(),false,(),false] s2'))):=fun s0' s1' s2'=>LsF.start w _ _ s0' s1' s2'
 clear hu
 go_enter func32,ntmps32
 go_wp2_with fail
 obtain ⟨W0,hW0⟩: ∃V,V=(((w.alloc (.cells #[t0,t1,t2,t3,t4,t5,t6,t7,t8] 36)).alloc (.cells #[s0,s1,s2,s3,s4,s5] 39)).alloc (.cells #[false,(),false,(),false] 74)):=⟨_,rfl⟩
 rw [<-hW0]
 have e0:W0.heap.size=w.heap.size+1+1+1:=by rw [hW0];simp
 have HF0:Hid (LsF w [t0,t1,t2,t3,t4,t5,t6,t7,t8] [s0,s1,s2,s3,s4,s5] W0):=by unfold Hid;rw [hW0];exact HI0.out _ _ _
 obtain ⟨W1,hW1⟩: ∃V,V=W0.alloc (.cells #[t0,t1,t2,t3,t4,t5,t6,t7,t8,s0,s1,s2,s3,s4,s5] 34):=⟨_,rfl⟩
 rw [<-hW1]
 have HCU:Hid (CU W1 (w.heap.size+1+1+1) [t0,t1,t2,t3,t4,t5,t6,t7,t8,s0,s1,s2,s3,s4,s5]):=by
  have h:Cs W1 W0.heap.size [t0,t1,t2,t3,t4,t5,t6,t7,t8,s0,s1,s2,s3,s4,s5]:=by rw [hW1];exact Cs.new _ _ _
  rw [e0] at h
  exact CU.of (bs:=[t0,t1,t2,t3,t4,t5,t6,t7,t8,s0,s1,s2,s3,s4,s5]) h
 have HF0':Hid (LsF w [t0,t1,t2,t3,t4,t5,t6,t7,t8] [s0,s1,s2,s3,s4,s5] W1):=by unfold Hid;rw [hW1];exact HF0.out.later (ζc _ _)
 clear hW0 hW1 e0 HF0 HI0
 refine (θp (w.heap.size+1+1+1) 5 5 [t0,t1,t2,t3,t4,t5,t6,t7,t8,s0,s1,s2,s3,s4,s5] W1 rfl (by decide) (by decide) HU.out HCU.out).mono ?_
 rintro o w1 hsc
 obtain ⟨K,b,c,vs,hK0,rfl,hb1,hall⟩:=hsc.all
 obtain ⟨e0,h0⟩:=hall 0 (by decide)
 generalize vs 0=v0 at*
 obtain ⟨e1,h1⟩:=hall 1 (by decide)
 generalize vs 1=v1 at*
 obtain ⟨e2,h2⟩:=hall 2 (by decide)
 generalize vs 2=v2 at*
 obtain ⟨e3,h3⟩:=hall 3 (by decide)
 generalize vs 3=v3 at*
 obtain ⟨e4,h4⟩:=hall 4 (by decide)
 generalize vs 4=v4 at*
 have HF1:Hid (LsF w [t0,t1,t2,t3,t4,t5,t6,t7,t8] [s0,s1,s2,s3,s4,s5] w1):=HF0'.out.later hb1
 have HR:Hid (∀w',Below w1.heap.size w1 w'->w'.rangeAt b 0 v0.cells∧w'.rangeAt b 6 v1.cells∧w'.rangeAt b 12 v2.cells∧w'.rangeAt b 18 v3.cells∧w'.rangeAt b 24 v4.cells):=fun w' q=>⟨(h0 w' q).1,(h1 w' q).1,(h2 w' q).1,(h3 w' q).1,(h4 w' q).1⟩
 have HV0:Hid (∀w',Below w1.heap.size w1 w'->ζF w' (.agg v0.cells.toArray) 21 v0.x.m v0.y.m v0.z.m):=fun w' q=>(h0 w' q).2
 have HV1:Hid (∀w',Below w1.heap.size w1 w'->ζF w' (.agg v1.cells.toArray) 21 v1.x.m v1.y.m v1.z.m):=fun w' q=>(h1 w' q).2
 have HV2:Hid (∀w',Below w1.heap.size w1 w'->ζF w' (.agg v2.cells.toArray) 21 v2.x.m v2.y.m v2.z.m):=fun w' q=>(h2 w' q).2
 have HV3:Hid (∀w',Below w1.heap.size w1 w'->ζF w' (.agg v3.cells.toArray) 21 v3.x.m v3.y.m v3.z.m):=fun w' q=>(h3 w' q).2
 have HV4:Hid (∀w',Below w1.heap.size w1 w'->ζF w' (.agg v4.cells.toArray) 21 v4.x.m v4.y.m v4.z.m):=fun w' q=>(h4 w' q).2
 have HM:Hid (∀p q,φm (fun p _=>0<=p) v0.v v1.v v2.v v3.v v4.v p q↔(ζs (pv t0 t1 t2) (pv t3 t4 t5) (pv t6 t7 t8) (pv s0 s1 s2) (pv s3 s4 s5)) p q):=fun p q=>θ4 hK0 e0 e1 e2 e3 e4 p q
 clear hall hK0 e0 e1 e2 e3 e4 h0 h1 h2 h3 h4 hsc hb1 HF0' HCU
 go_wp2_with fail
 have HK:Hid (∀w',Below w1.heap.size w1 w'->(fun w'=>w'.rangeAt b 0 v0.cells∧w'.rangeAt b 6 v1.cells∧w'.rangeAt b 12 v2.cells∧w'.rangeAt b 18 v3.cells∧w'.rangeAt b 24 v4.cells) w'):=HR
 go_cut [6] from 19 (fun s6 wx=> ∃(PS:Nat) (sx:SW),s6= .pointer (some ⟨PS,0,none⟩)∧Hid (NwS w1 PS sx.cells 1500 (φm (fun p _=>0<=p) v0.v v1.v v2.v v3.v v4.v) wx))
 case first=>
  refine ζb.rg HK 18 fun WD hBd hS=> ?_
  refine ζb.pu 1 20 (.slice (some ⟨b,0,none⟩) 5 c) hS ?_
  simp only [sT,sS,sZ]
  refine ζb.pu 2 21 (.pointer (some ⟨b,0,none⟩)) hS ?_
  simp only [sT,sS,sZ]
  refine ζb.ld 3 22 128 21 (b) (0) v0.cells (fun w' h=>h.1) underlying128 hS ?_
  simp only [sT,sS,sZ]
  refine ζb.pu 4 23 (.slice (some ⟨b,0,none⟩) 5 c) hS ?_
  simp only [sT,sS,sZ]
  refine ζb.pu 5 24 (.pointer (some ⟨b,6,none⟩)) hS ?_
  simp only [sT,sS,sZ]
  refine ζb.ld 6 25 128 24 (b) (6) v1.cells (fun w' h=>h.2.1) underlying128 hS ?_
  simp only [sT,sS,sZ]
  refine ζb.pu 7 26 (.slice (some ⟨b,0,none⟩) 5 c) hS ?_
  simp only [sT,sS,sZ]
  refine ζb.pu 8 27 (.pointer (some ⟨b,12,none⟩)) hS ?_
  simp only [sT,sS,sZ]
  refine ζb.ld 9 28 128 27 (b) (12) v2.cells (fun w' h=>h.2.2.1) underlying128 hS ?_
  simp only [sT,sS,sZ]
  refine ζb.pu 10 29 (.slice (some ⟨b,0,none⟩) 5 c) hS ?_
  simp only [sT,sS,sZ]
  refine ζb.pu 11 30 (.pointer (some ⟨b,18,none⟩)) hS ?_
  simp only [sT,sS,sZ]
  refine ζb.ld 12 31 128 30 (b) (18) v3.cells (fun w' h=>h.2.2.2.1) underlying128 hS ?_
  simp only [sT,sS,sZ]
  refine ζb.pu 13 32 (.slice (some ⟨b,0,none⟩) 5 c) hS ?_
  simp only [sT,sS,sZ]
  refine ζb.pu 14 33 (.pointer (some ⟨b,24,none⟩)) hS ?_
  simp only [sT,sS,sZ]
  refine ζb.ld 15 34 128 33 (b) (24) v4.cells (fun w' h=>h.2.2.2.2) underlying128 hS ?_
  simp only [sT,sS,sZ]
  refine ζ0.begin [0,16] [17] ?_
  have hBw:=hBd
  clear hBd
  repeat' first
   |refine ζ0.cb (by kernel_rfl) rfl rfl rfl rfl ?_ ?_
   |refine ζ0.c (by kernel_rfl) rfl rfl ?_
   |refine ζ0.b (by kernel_rfl) rfl rfl ?_
   |(refine ξa.go 0 fun K HKK=> ?_
     go_wp2_with fail
     refine (θq 1500 (by decide) _).mono ?_
     rintro o uW ⟨vV,rfl,hv,hSt⟩
     replace hBw:=hBw.trans (hSt.mono hBw.size)
     (try replace hcb:=hcb.later hSt)
     (try replace hnb:=hnb.later hSt)
     (try replace Rx:=Hid.mk (Rx.out.later hSt))
     have Rf:=Hid.mk hv
     obtain ⟨sf,rfl⟩:=SpO.sw hv
     refine HKK.out _ _ (fun _=>HK.out _ hBw) ?_
     clear HKK K hSt
     (try simp only [Act.put]))
   |(refine ξa.go 16 fun K HKK=> ?_
     go_wp2_with fail
     refine (θo (fun p _=>0<=p) (.agg sf.cells.toArray) (.agg v0.cells.toArray) (.agg v1.cells.toArray) (.agg v2.cells.toArray) (.agg v3.cells.toArray) (.agg v4.cells.toArray) 21 1500 v0.v v1.v v2.v v3.v v4.v _ (by decide) (by decide) Rf.out (HV0.out _ hBw) (HV1.out _ hBw) (HV2.out _ hBw) (HV3.out _ hBw) (HV4.out _ hBw)).mono ?_
     rintro o uW ⟨vV,rfl,hv,hSt⟩
     replace hBw:=hBw.trans (hSt.mono hBw.size)
     (try replace hcb:=hcb.later hSt)
     (try replace hnb:=hnb.later hSt)
     (try replace Rf:=Hid.mk (Rf.out.later hSt))
     have Rx:=Hid.mk hv
     obtain ⟨sx,rfl⟩:=SpO.sw hv
     refine HKK.out _ _ (fun _=>HK.out _ hBw) ?_
     clear HKK K hSt
     (try simp only [Act.put]))
   |(refine ξa.go 17 fun K HKK=> ?_
     go_wp2_with fail
     obtain ⟨uW,hu,hSt,hcb,hnb,hBw,hPb,_⟩:=ξC hBw #[false,(),false,(),false,false,(),false,(),false,false] 124 rfl
     (try replace Rf:=Hid.mk (Rf.out.later hSt))
     (try replace Rx:=Hid.mk (Rx.out.later hSt))
     refine HKK.out _ _ (fun _=>by rw [hu];exact HK.out _ hBw) ?_
     rw [hu]
     clear HKK K hu hSt
     (try simp only [Act.put]))
  all_goals
   refine ⟨ζb.on 18 fun K HKK=> ?_⟩
   refine wp_store_mid 124 (.tmp 6) (.tmp 35) rfl (_) 0 sx.cells.toArray rfl rfl (hcb.there 0 11 (by simp)) (by kernel_rfl) (SW.one _) ?_
   refine HKK.out _ _ (fun h=>absurd rfl h) ?_
   clear HKK K
   refine ζb.done (by kernel_rfl) ?_
   rw [show∀W b i,World.setCells W b i (Array.toList sx.cells.toArray)=setAll W b i sx.cells from fun W b i=>ζg _ _ _ _]
   go_wp2_with fail
   go_meet
   case rel=>exact ⟨_,sx,rfl,NwS.fin hcb rfl hnb (SW.ni _) Rx.out hBw hPb⟩
 case rest=>
  clear HK HR
  obtain ⟨PS,sx,rfl,HN⟩:=hcut
  obtain ⟨W2,hW2⟩: ∃V,V=wc:=⟨_,rfl⟩
  rw [<-hW2] at HN⊢
  clear hW2
  have HF2:Hid (LsF w [t0,t1,t2,t3,t4,t5,t6,t7,t8] [s0,s1,s2,s3,s4,s5] W2):=HF1.out.later HN.out.bel
  have HC2:Hid (Cs W2 PS sx.cells):=HN.out.c
  have HS2:Hid (SpO W2 (.agg sx.cells.toArray) 1500 (ζs (pv t0 t1 t2) (pv t3 t4 t5) (pv t6 t7 t8) (pv s0 s1 s2) (pv s3 s4 s5))):=HN.out.s.congr (fun p q _=>HM.out p q)
  clear HN HF1 HM HV0 HV1 HV2 HV3 HV4
  obtain ⟨g1x,a1x,k1x,c1x,g2x,a2x,k2x,c2x,t1x,g3x,a3x,k3x,c3x,g4x,a4x,k4x,c4x,t2x,t3x⟩:=sx
  rcases HS2.out with ⟨a,b',c',d,h1,h2⟩| ⟨h1,h2⟩
  ·clear HS2
   obtain ⟨g1,a1,c1,z1,g2,a2,c2,z2,g3,a3,c3,z3,g4,a4,c4,z4,tt,he,m1,m2,m3⟩:=h1
   have HM1:Hid (MIs W2 (.agg #[g1,.slice a1 z1.length c1]) 1500 a):=m1
   have HM2:Hid (MIs W2 (.agg #[g2,.slice a2 z2.length c2]) 1500 b'):=m2
   have HSp:Hid (ξg (ζs (pv t0 t1 t2) (pv t3 t4 t5) (pv t6 t7 t8) (pv s0 s1 s2) (pv s3 s4 s5)) a b' c' d):=h2
   clear m1 m2 m3 h2
   simp only [SW.cells,Value.agg.injEq,Array.mk.injEq,List.cons.injEq,Value.bool.injEq,Value.slice.injEq,and_true] at he
   obtain ⟨rfl,⟨rfl,rfl,rfl⟩,rfl,⟨rfl,rfl,rfl⟩,rfl,rfl,⟨rfl,rfl,rfl⟩,rfl,⟨rfl,rfl,rfl⟩,rfl,rfl⟩:=he
   have x0:=HC2.out.at 0 rfl
   have x1:=HC2.out.at 1 rfl
   have x2:=HC2.out.at 2 rfl
   have x3:=HC2.out.at 3 rfl
   have x4:=HC2.out.at 4 rfl
   have x10:=HC2.out.at 10 rfl
   have z0':=HF2.out.z.at 0 rfl
   have z1':=HF2.out.z.at 1 rfl
   have z2':=HF2.out.z.at 2 rfl
   have z3':=HF2.out.z.at 3 rfl
   have z4':=HF2.out.z.at 4 rfl
   have fz:=HF2.out.z.2.1
   go_wp2
   refine bodyPost_ret (v:= .agg #[g1x,.slice a1x z1.length c1x,g2x,.slice a2x z2.length c2x,false]) (by simp [results,results32,go_sem,z0',z1',z2',z3',z4']) rfl ?_
   exact .inl ⟨_,_,_,_,_,rfl,⟨_,_,_,_,_,_,_,_,rfl,HM1.out.setAll [g1x,.slice a1x z1.length c1x,g2x,.slice a2x z2.length c2x,false] _ 0 HF2.out.iz (by simp [ζh]),HM2.out.setAll [g1x,.slice a1x z1.length c1x,g2x,.slice a2x z2.length c2x,false] _ 0 HF2.out.iz (by simp [ζh])⟩,HSp.out,ζd (vs:=[↑g1x,.slice a1x z1.length c1x,↑g2x,.slice a2x z2.length c2x,↑false]) (by omega) _ 0 HF2.out.bel⟩
  ·clear HS2
   have HNo:Hid (ζ5 (ζs (pv t0 t1 t2) (pv t3 t4 t5) (pv t6 t7 t8) (pv s0 s1 s2) (pv s3 s4 s5))):=h2
   unfold ψn at h1
   simp only [SW.cells,Value.agg.injEq,Array.mk.injEq,List.cons.injEq,Value.bool.injEq,Value.slice.injEq,and_true] at h1
   obtain ⟨rfl,⟨rfl,rfl,rfl⟩,rfl,⟨rfl,rfl,rfl⟩,rfl,rfl,⟨rfl,rfl,rfl⟩,rfl,⟨rfl,rfl,rfl⟩,rfl,rfl⟩:=h1
   clear h2
   have x10:=HC2.out.at 10 rfl
   have z0':=HF2.out.z.at 0 rfl
   have z1':=HF2.out.z.at 1 rfl
   have z2':=HF2.out.z.at 2 rfl
   have z3':=HF2.out.z.at 3 rfl
   have z4':=HF2.out.z.at 4 rfl
   have fz:=HF2.out.z.2.1
   go_wp2
   refine bodyPost_ret (v:=τl) (by simp [results,results32,go_sem,τl,z0',z1',z2',z3',z4']) rfl ?_
   exact .inr ⟨rfl,HNo.out,ζd (vs:=[↑false,↑(),↑false,↑(),↑true]) (by omega) _ 0 HF2.out.bel⟩
theorem σX (u v:Value) (n m:Nat) (A B C A' B' C':Int) (w:World) (hn:n<=160000) (hm:m<=160000) (hu:ζF w u n A B C) (hv:ζF w v m A' B' C'):
 Calls prog 102 #[u,v] w fun o w'=>ωl w (n+m+1) (A+A') (B+B') (C+C') o w':=by
 obtain ⟨k,rfl,hk⟩:=hu.s
 obtain ⟨l,rfl,hl⟩:=hv.s
 obtain ⟨W0,hW0⟩: ∃V,V=(((w.alloc (.cells k.cells.toArray 128)).alloc (.cells l.cells.toArray 128)).alloc (.cells #[false,(),false,(),false,()] 128)):=⟨_,rfl⟩
 have HI:Hid (Mc0 w k.cells l.cells [false,(),false,(),false,()] W0):=by unfold Hid;rw [hW0];exact Mc0.start w _ _ _ _ _ _ rfl
 have HK:Hid (∀w',Below W0.heap.size W0 w'->(fun w'=>Mc0 w k.cells l.cells [false,(),false,(),false,()] w'∧V3s w' k n A B C∧V3s w' l m A' B' C') w'):=fun w' q=>⟨HI.out.later q,(hk.later HI.out.bel).later q,(hl.later HI.out.bel).later q⟩
 clear hk hl HI
 go_enter func102,ntmps102
 go_wp2_with fail
 rw [<-hW0]
 refine ζb.rg HK 16 fun WD hBd hS=> ?_
 clear hW0
 refine ζb.pu 0 5 (.pointer (some ⟨w.heap.size,0,none⟩)) hS ?_
 simp only [sT,sS,sZ]
 refine ζb.ld 1 6 72 5 (w.heap.size) 0 k.x.cs (fun w' h=>h.1.l.range 0 2) underlying72 hS ?_
 simp only [sT,sS,sZ]
 refine ζb.pu 2 7 (.pointer (some ⟨w.heap.size+1,0,none⟩)) hS ?_
 simp only [sT,sS,sZ]
 refine ζb.ld 3 8 72 7 (w.heap.size+1) 0 l.x.cs (fun w' h=>h.1.t.range 0 2) underlying72 hS ?_
 simp only [sT,sS,sZ]
 refine ζb.pu 5 10 (.pointer (some ⟨w.heap.size,2,none⟩)) hS ?_
 simp only [sT,sS,sZ]
 refine ζb.ld 6 11 72 10 (w.heap.size) 2 k.y.cs (fun w' h=>h.1.l.range 2 2) underlying72 hS ?_
 simp only [sT,sS,sZ]
 refine ζb.pu 7 12 (.pointer (some ⟨w.heap.size+1,2,none⟩)) hS ?_
 simp only [sT,sS,sZ]
 refine ζb.ld 8 13 72 12 (w.heap.size+1) 2 l.y.cs (fun w' h=>h.1.t.range 2 2) underlying72 hS ?_
 simp only [sT,sS,sZ]
 refine ζb.pu 10 15 (.pointer (some ⟨w.heap.size,4,none⟩)) hS ?_
 simp only [sT,sS,sZ]
 refine ζb.ld 11 16 72 15 (w.heap.size) 4 k.z.cs (fun w' h=>h.1.l.range 4 2) underlying72 hS ?_
 simp only [sT,sS,sZ]
 refine ζb.pu 12 17 (.pointer (some ⟨w.heap.size+1,4,none⟩)) hS ?_
 simp only [sT,sS,sZ]
 refine ζb.ld 13 18 72 17 (w.heap.size+1) 4 l.z.cs (fun w' h=>h.1.t.range 4 2) underlying72 hS ?_
 simp only [sT,sS,sZ]
 refine ζb.on 4 fun K HKK=> ?_
 go_wp2_with fail
 refine (ψ8 _ _ n m _ _ _ (by omega) (by omega) hS.2.1.1 hS.2.2.1).mono ?_
 rintro o u1 ⟨v1,rfl,hv1,hs1⟩
 have hB1:=hBd.trans (hs1.mono hBd.size)
 obtain ⟨r1,rfl⟩:=hv1.lv
 replace hS:=HK.out _ hB1
 refine HKK.out _ _ (fun _=>hS) ?_
 clear HKK K
 (try simp only [Act.put])
 refine ζb.on 9 fun K HKK=> ?_
 go_wp2_with fail
 refine (ψ8 _ _ n m _ _ _ (by omega) (by omega) hS.2.1.2.1 hS.2.2.2.1).mono ?_
 rintro o u2 ⟨v2,rfl,hv2,hs2⟩
 have hB2:=hB1.trans (hs2.mono hB1.size)
 obtain ⟨r2,rfl⟩:=hv2.lv
 replace hS:=HK.out _ hB2
 refine HKK.out _ _ (fun _=>hS) ?_
 clear HKK K
 (try simp only [Act.put])
 refine ζb.on 14 fun K HKK=> ?_
 go_wp2_with fail
 refine (ψ8 _ _ n m _ _ _ (by omega) (by omega) hS.2.1.2.2 hS.2.2.2.2).mono ?_
 rintro o u3 ⟨v3,rfl,hv3,hs3⟩
 have hB3:=hB2.trans (hs3.mono hB2.size)
 obtain ⟨r3,rfl⟩:=hv3.lv
 replace hS:=HK.out _ hB3
 refine HKK.out _ _ (fun _=>hS) ?_
 clear HKK K
 (try simp only [Act.put])
 refine ζb.pk 15 20 (.agg (LW.mk r1 r2 r3).cells.toArray) hS ?_
 simp only [sT,sS,sZ]
 replace hv1:=(hv1.later hs2).later hs3
 replace hv2:=hv2.later hs3
 refine ζb.on 16 fun K HKK=> ?_
 refine wp_store_mid 128 (.tmp 4) (.tmp 20) rfl (w.heap.size+1+1) 0 (LW.mk r1 r2 r3).cells.toArray rfl rfl (hS.1.z.there 0 6 (by simp)) (by kernel_rfl) (LW.one _) ?_
 refine HKK.out _ _ (fun h=>absurd rfl h) ?_
 clear HKK K
 refine ζb.done (by kernel_rfl) ?_
 rw [show∀W b i,World.setCells W b i (Array.toList (LW.mk r1 r2 r3).cells.toArray)=setAll W b i (LW.mk r1 r2 r3).cells from fun W b i=>ζg _ _ _ _]
 have HC:=Hid.mk (hS.1.z.whole (LW.mk r1 r2 r3).cells rfl)
 have HV:=Hid.mk ((V3s.vec (l:=⟨r1,r2,r3⟩) ⟨hv1,hv2,hv3⟩).setAll (LW.mk r1 r2 r3).cells _ 0 hS.1.i0 (LW.ni _))
 have HB:=Hid.mk (ζd (b:=w.heap.size+1+1) (by omega) (LW.mk r1 r2 r3).cells _ 0 hS.1.bel)
 clear hS HK
 go_wp2
 exact bodyPost_ret (v:= .agg (LW.mk r1 r2 r3).cells.toArray) (ζy results102 rfl (HC.out.range 0 6) underlying128 rfl (by kernel_rfl)) rfl ⟨_,rfl,HV.out,HB.out⟩
theorem ξv (u v:Value) (n m:Nat) (A B C K:Int) (w:World) (hn:n<=160000) (hm:m<=160000) (hu:ζF w u n A B C) (hv:MIs w v m K):
 Calls prog 103 #[u,v] w fun o w'=>ωl w (n+m+1) (A*K) (B*K) (C*K) o w':=by
 obtain ⟨k,rfl,hk⟩:=hu.s
 have hl:=hv
 obtain ⟨l,rfl⟩:=hv.lv
 obtain ⟨W0,hW0⟩: ∃V,V=(((w.alloc (.cells k.cells.toArray 128)).alloc (.cells l.cs.toArray 72)).alloc (.cells #[false,(),false,(),false,()] 128)):=⟨_,rfl⟩
 have HI:Hid (Mc0 w k.cells l.cs [false,(),false,(),false,()] W0):=by unfold Hid;rw [hW0];exact Mc0.start w _ _ _ _ _ _ rfl
 have HK:Hid (∀w',Below W0.heap.size W0 w'->(fun w'=>Mc0 w k.cells l.cs [false,(),false,(),false,()] w'∧V3s w' k n A B C∧MIs w' (.agg l.cs.toArray) m K) w'):=fun w' q=>⟨HI.out.later q,(hk.later HI.out.bel).later q,(hl.later HI.out.bel).later q⟩
 clear hk hl HI
 go_enter func103,ntmps103
 go_wp2_with fail
 rw [<-hW0]
 refine ζb.rg HK 13 fun WD hBd hS=> ?_
 clear hW0
 refine ζb.pu 0 5 (.pointer (some ⟨w.heap.size,0,none⟩)) hS ?_
 simp only [sT,sS,sZ]
 refine ζb.ld 1 6 72 5 (w.heap.size) 0 k.x.cs (fun w' h=>h.1.l.range 0 2) underlying72 hS ?_
 simp only [sT,sS,sZ]
 refine ζb.ld 2 7 72 3 (w.heap.size+1) 0 l.cs (fun w' h=>h.1.t.range 0 2) underlying72 hS ?_
 simp only [sT,sS,sZ]
 refine ζb.pu 4 9 (.pointer (some ⟨w.heap.size,2,none⟩)) hS ?_
 simp only [sT,sS,sZ]
 refine ζb.ld 5 10 72 9 (w.heap.size) 2 k.y.cs (fun w' h=>h.1.l.range 2 2) underlying72 hS ?_
 simp only [sT,sS,sZ]
 refine ζb.ld 6 11 72 3 (w.heap.size+1) 0 l.cs (fun w' h=>h.1.t.range 0 2) underlying72 hS ?_
 simp only [sT,sS,sZ]
 refine ζb.pu 8 13 (.pointer (some ⟨w.heap.size,4,none⟩)) hS ?_
 simp only [sT,sS,sZ]
 refine ζb.ld 9 14 72 13 (w.heap.size) 4 k.z.cs (fun w' h=>h.1.l.range 4 2) underlying72 hS ?_
 simp only [sT,sS,sZ]
 refine ζb.ld 10 15 72 3 (w.heap.size+1) 0 l.cs (fun w' h=>h.1.t.range 0 2) underlying72 hS ?_
 simp only [sT,sS,sZ]
 refine ζb.on 3 fun K HKK=> ?_
 go_wp2_with fail
 refine (ζX _ _ n m _ _ _ (by omega) (by omega) hS.2.1.1 hS.2.2).mono ?_
 rintro o u1 ⟨v1,rfl,hv1,hs1⟩
 have hB1:=hBd.trans (hs1.mono hBd.size)
 obtain ⟨r1,rfl⟩:=hv1.lv
 replace hS:=HK.out _ hB1
 refine HKK.out _ _ (fun _=>hS) ?_
 clear HKK K
 (try simp only [Act.put])
 refine ζb.on 7 fun K HKK=> ?_
 go_wp2_with fail
 refine (ζX _ _ n m _ _ _ (by omega) (by omega) hS.2.1.2.1 hS.2.2).mono ?_
 rintro o u2 ⟨v2,rfl,hv2,hs2⟩
 have hB2:=hB1.trans (hs2.mono hB1.size)
 obtain ⟨r2,rfl⟩:=hv2.lv
 replace hS:=HK.out _ hB2
 refine HKK.out _ _ (fun _=>hS) ?_
 clear HKK K
 (try simp only [Act.put])
 refine ζb.on 11 fun K HKK=> ?_
 go_wp2_with fail
 refine (ζX _ _ n m _ _ _ (by omega) (by omega) hS.2.1.2.2 hS.2.2).mono ?_
 rintro o u3 ⟨v3,rfl,hv3,hs3⟩
 have hB3:=hB2.trans (hs3.mono hB2.size)
 obtain ⟨r3,rfl⟩:=hv3.lv
 replace hS:=HK.out _ hB3
 refine HKK.out _ _ (fun _=>hS) ?_
 clear HKK K
 (try simp only [Act.put])
 refine ζb.pk 12 17 (.agg (LW.mk r1 r2 r3).cells.toArray) hS ?_
 simp only [sT,sS,sZ]
 replace hv1:=(hv1.later hs2).later hs3
 replace hv2:=hv2.later hs3
 refine ζb.on 13 fun K HKK=> ?_
 refine wp_store_mid 128 (.tmp 4) (.tmp 17) rfl (w.heap.size+1+1) 0 (LW.mk r1 r2 r3).cells.toArray rfl rfl (hS.1.z.there 0 6 (by simp)) (by kernel_rfl) (LW.one _) ?_
 refine HKK.out _ _ (fun h=>absurd rfl h) ?_
 clear HKK K
 refine ζb.done (by kernel_rfl) ?_
 rw [show∀W b i,World.setCells W b i (Array.toList (LW.mk r1 r2 r3).cells.toArray)=setAll W b i (LW.mk r1 r2 r3).cells from fun W b i=>ζg _ _ _ _]
 have HC:=Hid.mk (hS.1.z.whole (LW.mk r1 r2 r3).cells rfl)
 have HV:=Hid.mk ((V3s.vec (l:=⟨r1,r2,r3⟩) ⟨hv1,hv2,hv3⟩).setAll (LW.mk r1 r2 r3).cells _ 0 hS.1.i0 (LW.ni _))
 have HB:=Hid.mk (ζd (b:=w.heap.size+1+1) (by omega) (LW.mk r1 r2 r3).cells _ 0 hS.1.bel)
 clear hS HK
 go_wp2
 exact bodyPost_ret (v:= .agg (LW.mk r1 r2 r3).cells.toArray) (ζy results103 rfl (HC.out.range 0 6) underlying128 rfl (by kernel_rfl)) rfl ⟨_,rfl,HV.out,HB.out⟩
end Go.Proofs.YtfieffpobgcpmaaGreatDoor
