import Derived.Test.YtfieffpobgcpmaaGreatDoorMdKMdQMdBMdCS
import Derived.Test.YtfieffpobgcpmaaGreatDoorDy1ToRkBS
import Derived.Deep.MidRow
import Derived.Deep.CutRange
import Derived.Deep.LoopGhost
import Derived.Deep.RegionHeld3
set_option maxRecDepth 100000
set_option maxHeartbeats 32000000
namespace Go.Proofs.YtfieffpobgcpmaaGreatDoor
open Go.RowKit Go.Proofs.Tryz
structure MtF (w:World) (S A B C O D:List Value) (W:World):Prop where
 s:Cs W w S
 a:Cs W (↑w+1) A
 b:Cs W (↑w+1+1) B
 c:Cs W (↑w+1+1+1) C
 o:Cs W (↑w+1+1+1+1) O
 d:Cs W (↑w+1+1+1+1+1) D
 z:Cs W (↑w+1+1+1+1+1+1) [false,(),false,(),false,false,(),false,(),false,false]
 i0:ζf W (w.heap.size)
 iz:ζf W (↑w+1+1+1+1+1+1)
 bel:Below w w W
theorem MtF.later {w:World} {S A B C O D:List Value} {W W':World} (h:MtF w S A B C O D W) (hb:Below W W W'):MtF w S A B C O D W':=
 ⟨h.s.later hb,h.a.later hb,h.b.later hb,h.c.later hb,h.o.later hb,h.d.later hb,h.z.later hb,h.i0.later hb,h.iz.later hb,h.bel.trans (hb.mono h.bel.size)⟩
theorem MtF.setS {w:World} {S A B C O D:List Value} {W:World} (h:MtF w S A B C O D W) (us:List Value) (hl:S.length=us.length) (hu: ∀u∈us,ζh u):MtF w us A B C O D (setAll W w 0 us):=
 ⟨h.s.whole us hl,Cs.setAllO (by omega) us W 0 _ h.a,Cs.setAllO (by omega) us W 0 _ h.b,Cs.setAllO (by omega) us W 0 _ h.c,Cs.setAllO (by omega) us W 0 _ h.o,Cs.setAllO (by omega) us W 0 _ h.d,Cs.setAllO (by omega) us W 0 _ h.z,ζf.setAllX us W 0 h.i0 hu,ζf.setAllX us W 0 h.iz hu,ζd (Nat.le_refl _) us W 0 h.bel⟩
theorem MtF.start (w:World) (S A B C O D:Array Value) (hS:S.toList.all nI=true) (sS sA sB sC sO sD sZ:TypeId):MtF w S.toList A.toList B.toList C.toList O.toList D.toList (((((((w.alloc (.cells S sS)).alloc (.cells A sA)).alloc (.cells B sB)).alloc (.cells C sC)).alloc (.cells O sO)).alloc (.cells D sD)).alloc (.cells #[false,(),false,(),false,false,(),false,(),false,false] sZ)):=by
 obtain ⟨w1,h1⟩: ∃V,V=w.alloc (.cells S sS):=⟨_,rfl⟩
 obtain ⟨w2,h2⟩: ∃V,V=w1.alloc (.cells A sA):=⟨_,rfl⟩
 obtain ⟨w3,h3⟩: ∃V,V=w2.alloc (.cells B sB):=⟨_,rfl⟩
 obtain ⟨w4,h4⟩: ∃V,V=w3.alloc (.cells C sC):=⟨_,rfl⟩
 obtain ⟨w5,h5⟩: ∃V,V=w4.alloc (.cells O sO):=⟨_,rfl⟩
 obtain ⟨w6,h6⟩: ∃V,V=w5.alloc (.cells D sD):=⟨_,rfl⟩
 obtain ⟨w7,h7⟩: ∃V,V=w6.alloc (.cells #[false,(),false,(),false,false,(),false,(),false,false] sZ):=⟨_,rfl⟩
 have e1:w1.heap.size=w.heap.size+1:=by rw [h1];simp
 have b1:Below w w w1:=by rw [h1];exact ζc _ _
 have c1:Cs w1 w S.toList:=by rw [h1];exact Cs.new _ _ _
 have e2:w2.heap.size=w.heap.size+1+1:=by rw [h2];simp [e1]
 have b2:Below w1 w1 w2:=by rw [h2];exact ζc _ _
 have c2:Cs w2 (↑w+1) A.toList:=by rw [h2,<-e1];exact Cs.new _ _ _
 have e3:w3.heap.size=w.heap.size+1+1+1:=by rw [h3];simp [e2]
 have b3:Below w2 w2 w3:=by rw [h3];exact ζc _ _
 have c3:Cs w3 (↑w+1+1) B.toList:=by rw [h3,<-e2];exact Cs.new _ _ _
 have e4:w4.heap.size=w.heap.size+1+1+1+1:=by rw [h4];simp [e3]
 have b4:Below w3 w3 w4:=by rw [h4];exact ζc _ _
 have c4:Cs w4 (↑w+1+1+1) C.toList:=by rw [h4,<-e3];exact Cs.new _ _ _
 have e5:w5.heap.size=w.heap.size+1+1+1+1+1:=by rw [h5];simp [e4]
 have b5:Below w4 w4 w5:=by rw [h5];exact ζc _ _
 have c5:Cs w5 (↑w+1+1+1+1) O.toList:=by rw [h5,<-e4];exact Cs.new _ _ _
 have e6:w6.heap.size=w.heap.size+1+1+1+1+1+1:=by rw [h6];simp [e5]
 have b6:Below w5 w5 w6:=by rw [h6];exact ζc _ _
 have c6:Cs w6 (↑w+1+1+1+1+1) D.toList:=by rw [h6,<-e5];exact Cs.new _ _ _
 have e7:w7.heap.size=w.heap.size+1+1+1+1+1+1+1:=by rw [h7];simp [e6]
 have b7:Below w6 w6 w7:=by rw [h7];exact ζc _ _
 have c7:Cs w7 (↑w+1+1+1+1+1+1) #[↑false,↑(),↑false,↑(),↑false,↑false,↑(),↑false,↑(),↑false,↑false].toList:=by rw [h7,<-e6];exact Cs.new _ _ _
 have n1:ζf w1 (w.heap.size):=by rw [h1];exact ζf.newL _ _ _ hS
 have n7:ζf w7 (↑w+1+1+1+1+1+1):=by rw [h7,<-e6];exact ζf.newL _ _ _ rfl
 rw [<-h1,<-h2,<-h3,<-h4,<-h5,<-h6,<-h7]
 exact ⟨((((((c1.later b2).later b3).later b4).later b5).later b6).later b7),(((((c2.later b3).later b4).later b5).later b6).later b7),((((c3.later b4).later b5).later b6).later b7),(((c4.later b5).later b6).later b7),((c5.later b6).later b7),(c6.later b7),c7,((((((n1.later b2).later b3).later b4).later b5).later b6).later b7),n7,((((((b1.trans (b2.mono (by omega))).trans (b3.mono (by omega))).trans (b4.mono (by omega))).trans (b5.mono (by omega))).trans (b6.mono (by omega))).trans (b7.mono (by omega)))⟩
theorem ν8 {n:Int} (h0:0<=n) (h1:n<9223372036854775808):IntKind.i64.wrap n=n:=by
 simp [IntKind.wrap,IntKind.bits,IntKind.signed];omega
def C4 (a b c:LW):List Value:=a.cells++b.cells++c.cells++a.cells
def crn (A B C:V3):Nat->V3
 |0=>A
 |1=>B
 |2=>C
 |_=>A
def ν9 (P:Int->Int->Prop) (A B C O D:V3):Nat->Int->Int->Prop
 |0=>ξh (ξh P ((nrm A B C).dot (O.sub A)) ((nrm A B C).dot D)) (-(nrm A B C).dot (O.sub A)) (-(nrm A B C).dot D)
 |i+1=>ξh (ν9 P A B C O D i) (((nrm A B C).cross ((crn A B C (i+1)).sub (crn A B C i))).dot (O.sub (crn A B C i))) (((nrm A B C).cross ((crn A B C (i+1)).sub (crn A B C i))).dot D)
theorem θo (P:Int->Int->Prop) (v va vb vc vo vd:Value) (k n:Nat) (A B C O D:V3) (w:World) (hn:n<=320000) (hk:66*k+65<=n) (hs:SpO w v n P) (ha:ζF w va k A.x A.y A.z) (hb:ζF w vb k B.x B.y B.z) (hc:ζF w vc k C.x C.y C.z) (ho:ζF w vo k O.x O.y O.z) (hd:ζF w vd k D.x D.y D.z):
 Calls prog 66 #[v,va,vb,vc,vo,vd] w fun o w'=>ν7 w n (φm P A B C O D) o w':=by
 have HS0:Hid (∀w',Below w w w'->SpO w' v n P):=fun w' hq=>hs.later hq
 obtain ⟨ss,rfl⟩:=hs.sw
 have ha':=ha
 obtain ⟨la,rfl⟩:=ζF.lw ha'
 have HA:Hid (∀w',Below w w w'->ζF w' (.agg la.cells.toArray) k A.x A.y A.z):=fun w' hq=>ha.later hq
 have hb':=hb
 obtain ⟨lb,rfl⟩:=ζF.lw hb'
 have HB:Hid (∀w',Below w w w'->ζF w' (.agg lb.cells.toArray) k B.x B.y B.z):=fun w' hq=>hb.later hq
 have hc':=hc
 obtain ⟨lc,rfl⟩:=ζF.lw hc'
 have HC':Hid (∀w',Below w w w'->ζF w' (.agg lc.cells.toArray) k C.x C.y C.z):=fun w' hq=>hc.later hq
 have ho':=ho
 obtain ⟨lo,rfl⟩:=ζF.lw ho'
 have HO:Hid (∀w',Below w w w'->ζF w' (.agg lo.cells.toArray) k O.x O.y O.z):=fun w' hq=>ho.later hq
 have hd':=hd
 obtain ⟨ld,rfl⟩:=ζF.lw hd'
 have HD:Hid (∀w',Below w w w'->ζF w' (.agg ld.cells.toArray) k D.x D.y D.z):=fun w' hq=>hd.later hq
 clear hs ha hb hc ho hd
 go_enter func66,ntmps66
 go_wp2_with fail
 obtain ⟨W0,hW0⟩: ∃V,V=(((((((w.alloc (.cells ss.cells.toArray 124)).alloc (.cells la.cells.toArray 128)).alloc (.cells lb.cells.toArray 128)).alloc (.cells lc.cells.toArray 128)).alloc (.cells lo.cells.toArray 128)).alloc (.cells ld.cells.toArray 128)).alloc (.cells #[false,(),false,(),false,false,(),false,(),false,false] 124)):=⟨_,rfl⟩
 rw [<-hW0]
 have HF0:Hid (MtF w ss.cells la.cells lb.cells lc.cells lo.cells ld.cells W0):=by unfold Hid;rw [hW0];exact MtF.start w _ _ _ _ _ _ rfl _ _ _ _ _ _ _
 clear hW0
 have HF0z:Hid (w.heap.size+1+1+1+1+1+1<W0.heap.size):=HF0.out.z.1
 have HK:Hid (∀w',Below W0 W0 w'->(fun w'=>MtF w ss.cells la.cells lb.cells lc.cells lo.cells ld.cells w'∧Below W0 W0 w') w'):=fun w' hb=>⟨HF0.out.later hb,hb⟩
 go_cut [13] from 19 (fun s13 wx=> ∃(PN:Nat) (ln:LW),s13= .pointer (some ⟨PN,0,none⟩)∧Hid (NwV W0 PN ln.cells ((k+k+1)+(k+k+1)+1+((k+k+1)+(k+k+1)+1)+1) (nrm A B C).x (nrm A B C).y (nrm A B C).z wx))
 case first=>
  refine ζb.rg HK 8 fun WD hBd hS=> ?_
  refine ζb.ld 0 19 128 8 (↑w+1+1) 0 lb.cells (fun w' h=>(h.1.b).range 0 6) underlying128 hS ?_
  simp only [sT,sS,sZ]
  refine ζb.ld 1 20 128 7 (↑w+1) 0 la.cells (fun w' h=>(h.1.a).range 0 6) underlying128 hS ?_
  simp only [sT,sS,sZ]
  refine ζb.ld 3 22 128 9 (↑w+1+1+1) 0 lc.cells (fun w' h=>(h.1.c).range 0 6) underlying128 hS ?_
  simp only [sT,sS,sZ]
  refine ζb.ld 4 23 128 7 (↑w+1) 0 la.cells (fun w' h=>(h.1.a).range 0 6) underlying128 hS ?_
  simp only [sT,sS,sZ]
  refine ζ0.begin [2,5,6] [7] ?_
  have hBw:=hBd
  clear hBd
  repeat' first
   |refine ζ0.cb (by kernel_rfl) rfl rfl rfl rfl ?_ ?_
   |refine ζ0.c (by kernel_rfl) rfl rfl ?_
   |refine ζ0.b (by kernel_rfl) rfl rfl ?_
   |(refine ξa.go 2 fun K HKK=> ?_
     go_wp2_with fail
     refine (ψx (.agg lb.cells.toArray) (.agg la.cells.toArray) k k _ _ _ _ _ _ _ (by omega) (by omega) (HB.out _ (HF0.out.bel.trans (hBw.mono HF0.out.bel.size))) (HA.out _ (HF0.out.bel.trans (hBw.mono HF0.out.bel.size)))).mono ?_
     rintro o uW ⟨vV,rfl,hv,hSt⟩
     replace hBw:=hBw.trans (hSt.mono hBw.size)
     (try replace hcb:=hcb.later hSt)
     (try replace hnb:=hnb.later hSt)
     (try replace Rf:=Hid.mk (Rf.out.later hSt))
     (try replace Rn:=Hid.mk (Rn.out.later hSt))
     have Re:=Hid.mk hv
     obtain ⟨le,rfl⟩:=ζF.lw hv
     refine HKK.out _ _ (fun _=>HK.out _ hBw) ?_
     clear HKK K hSt
     (try simp only [Act.put]))
   |(refine ξa.go 5 fun K HKK=> ?_
     go_wp2_with fail
     refine (ψx (.agg lc.cells.toArray) (.agg la.cells.toArray) k k _ _ _ _ _ _ _ (by omega) (by omega) (HC'.out _ (HF0.out.bel.trans (hBw.mono HF0.out.bel.size))) (HA.out _ (HF0.out.bel.trans (hBw.mono HF0.out.bel.size)))).mono ?_
     rintro o uW ⟨vV,rfl,hv,hSt⟩
     replace hBw:=hBw.trans (hSt.mono hBw.size)
     (try replace hcb:=hcb.later hSt)
     (try replace hnb:=hnb.later hSt)
     (try replace Re:=Hid.mk (Re.out.later hSt))
     (try replace Rn:=Hid.mk (Rn.out.later hSt))
     have Rf:=Hid.mk hv
     obtain ⟨lf,rfl⟩:=ζF.lw hv
     refine HKK.out _ _ (fun _=>HK.out _ hBw) ?_
     clear HKK K hSt
     (try simp only [Act.put]))
   |(refine ξa.go 6 fun K HKK=> ?_
     go_wp2_with fail
     refine (χU (.agg le.cells.toArray) (.agg lf.cells.toArray) (k+k+1) (k+k+1) _ _ _ _ _ _ _ (by omega) (by omega) Re.out Rf.out).mono ?_
     rintro o uW ⟨vV,rfl,hv,hSt⟩
     replace hBw:=hBw.trans (hSt.mono hBw.size)
     (try replace hcb:=hcb.later hSt)
     (try replace hnb:=hnb.later hSt)
     (try replace Re:=Hid.mk (Re.out.later hSt))
     (try replace Rf:=Hid.mk (Rf.out.later hSt))
     have Rn:=Hid.mk hv
     obtain ⟨ln,rfl⟩:=ζF.lw hv
     refine HKK.out _ _ (fun _=>HK.out _ hBw) ?_
     clear HKK K hSt
     (try simp only [Act.put]))
   |(refine ξa.go 7 fun K HKK=> ?_
     go_wp2_with fail
     obtain ⟨uW,hu,hSt,hcb,hnb,hBw,hPb,_⟩:=ξC hBw #[false,(),false,(),false,()] 128 rfl
     (try replace Re:=Hid.mk (Re.out.later hSt))
     (try replace Rf:=Hid.mk (Rf.out.later hSt))
     (try replace Rn:=Hid.mk (Rn.out.later hSt))
     refine HKK.out _ _ (fun _=>by rw [hu];exact HK.out _ hBw) ?_
     rw [hu]
     clear HKK K hu hSt
     (try simp only [Act.put]))
  all_goals
   refine ⟨ζb.on 8 fun K HKK=> ?_⟩
   refine wp_store_mid 128 (.tmp 13) (.tmp 25) rfl (_) 0 ln.cells.toArray rfl rfl (hcb.there 0 6 (by simp)) (by kernel_rfl) (LW.one _) ?_
   refine HKK.out _ _ (fun h=>absurd rfl h) ?_
   clear HKK K
   refine ζb.done (by kernel_rfl) ?_
   rw [show∀W b i,World.setCells W b i (Array.toList ln.cells.toArray)=setAll W b i ln.cells from fun W b i=>ζg _ _ _ _]
   go_wp2_with fail
   go_meet
   case rel=>exact ⟨_,ln,rfl,NwV.fin hcb rfl hnb (LW.ni _) Rn.out hBw hPb⟩
 case rest=>
  clear HK
  obtain ⟨PN,ln,rfl,HN⟩:=hcut
  have HF1:=Hid.mk (HF0.out.later HN.out.bel)
  obtain ⟨W1,hW1⟩: ∃V,V=wc:=⟨_,rfl⟩
  rw [<-hW1] at HF1 HN⊢
  clear hW1 HF0
  have HV1:Hid (ζF W1 (.agg ln.cells.toArray) ((k+k+1)+(k+k+1)+1+((k+k+1)+(k+k+1)+1)+1) (nrm A B C).x (nrm A B C).y (nrm A B C).z):=HN.out.v
  have HC1:Hid (Cs W1 PN ln.cells):=HN.out.c
  have HL1:Hid (w.heap.size+1+1+1+1+1+1<PN):=Nat.lt_of_lt_of_le HF0z.out HN.out.le
  clear HN
  obtain ⟨n0,n1,n2,n3,n4,n5⟩:=HC1.out.c6
  go_wp2_with fail
  clear n0 n1 n2 n3 n4 n5
  refine (χp (.agg ln.cells.toArray) ((k+k+1)+(k+k+1)+1+((k+k+1)+(k+k+1)+1)+1) (nrm A B C).x (nrm A B C).y (nrm A B C).z _ HV1.out).mono ?_
  rintro o w2 ⟨rfl,hb2⟩
  have HF2:=Hid.mk (HF1.out.later hb2)
  have HV2:=Hid.mk (HV1.out.later hb2)
  have HC2:Hid (Cs w2 PN ln.cells):=HC1.out.later hb2
  clear hb2 HF1 HV1 HC1
  by_cases hflat:(nrm A B C).x=0∧(nrm A B C).y=0∧(nrm A B C).z=0
  ·rw [decide_eq_true hflat]
   have HNO:Hid (ζ5 (φm P A B C O D)):=by
    intro p q hq hp
    exact hp.1 (by unfold V3.dot;rw [hflat.1,hflat.2.1,hflat.2.2];simp)
   clear hflat
   go_wp2_with fail
   refine (ωu _).mono ?_
   rintro o w3 ⟨rfl,hb3⟩
   have HF3:=Hid.mk (HF2.out.later hb3)
   clear hb3 HF2 HV2 HC2
   obtain ⟨z0,z1,z2,z3,z4,z5,z6,z7,z8,z9,z10⟩:=HF3.out.z.c11
   have fz:=HF3.out.z.2.1
   unfold ψn
   go_wp2
   refine bodyPost_ret (v:=ψn) (by simp [results,results66,go_sem,ψn,z0,z1,z2,z3,z4,z5,z6,z7,z8,z9,z10]) rfl ?_
   exact ⟨_,rfl,.inr ⟨rfl,HNO.out⟩,ζd (vs:=[↑false,↑(),↑false,↑(),↑false,↑false,↑(),↑false,↑(),↑false,↑true]) (by omega) _ 0 HF3.out.bel⟩
  ·rw [decide_eq_false hflat]
   have HNN:Hid ((nrm A B C).dot (nrm A B C)≠0):=fun e=>hflat (ωi _ e)
   clear hflat
   go_wp2_with fail
   have HK:Hid (∀w',Below w2 w2 w'->(fun w'=>MtF w ss.cells la.cells lb.cells lc.cells lo.cells ld.cells w'∧Cs w' PN ln.cells∧Below w2 w2 w') w'):=fun w' hb=>⟨HF2.out.later hb,HC2.out.later hb,hb⟩
   go_cut [14] from 29 (fun s14 wx=> ∃(PF:Nat) (qf:LV),s14= .pointer (some ⟨PF,0,none⟩)∧Hid (NwM w2 PF qf.cs (((k+k+1)+(k+k+1)+1+((k+k+1)+(k+k+1)+1)+1)+(k+k+1)+1+(((k+k+1)+(k+k+1)+1+((k+k+1)+(k+k+1)+1)+1)+(k+k+1)+1)+1+(((k+k+1)+(k+k+1)+1+((k+k+1)+(k+k+1)+1)+1)+(k+k+1)+1)+1) ((nrm A B C).dot (O.sub A)) wx))
   case first=>
    refine ζb.rg HK 6 fun WD hBd hS=> ?_
    refine ζb.ld 0 29 128 13 (PN) 0 ln.cells (fun w' h=>(h.2.1).range 0 6) underlying128 hS ?_
    simp only [sT,sS,sZ]
    refine ζb.ld 1 30 128 10 (↑w+1+1+1+1) 0 lo.cells (fun w' h=>(h.1.o).range 0 6) underlying128 hS ?_
    simp only [sT,sS,sZ]
    refine ζb.ld 2 31 128 7 (↑w+1) 0 la.cells (fun w' h=>(h.1.a).range 0 6) underlying128 hS ?_
    simp only [sT,sS,sZ]
    refine ζ0.begin [3,4] [5] ?_
    have hBw:=hBd
    clear hBd
    repeat' first
     |refine ζ0.cb (by kernel_rfl) rfl rfl rfl rfl ?_ ?_
     |refine ζ0.c (by kernel_rfl) rfl rfl ?_
     |refine ζ0.b (by kernel_rfl) rfl rfl ?_
     |(refine ξa.go 3 fun K HKK=> ?_
       go_wp2_with fail
       refine (ψx (.agg lo.cells.toArray) (.agg la.cells.toArray) k k _ _ _ _ _ _ _ (by omega) (by omega) (HO.out _ (HF2.out.bel.trans (hBw.mono HF2.out.bel.size))) (HA.out _ (HF2.out.bel.trans (hBw.mono HF2.out.bel.size)))).mono ?_
       rintro o uW ⟨vV,rfl,hv,hSt⟩
       replace hBw:=hBw.trans (hSt.mono hBw.size)
       (try replace hcb:=hcb.later hSt)
       (try replace hnb:=hnb.later hSt)
       (try replace Rf:=Hid.mk (Rf.out.later hSt))
       have Re:=Hid.mk hv
       obtain ⟨le,rfl⟩:=ζF.lw hv
       refine HKK.out _ _ (fun _=>HK.out _ hBw) ?_
       clear HKK K hSt
       (try simp only [Act.put]))
     |(refine ξa.go 4 fun K HKK=> ?_
       go_wp2_with fail
       refine (φI (.agg ln.cells.toArray) (.agg le.cells.toArray) ((k+k+1)+(k+k+1)+1+((k+k+1)+(k+k+1)+1)+1) (k+k+1) _ _ _ _ _ _ _ (by omega) (by omega) (HV2.out.later hBw) Re.out).mono ?_
       rintro o uW ⟨vV,rfl,hv,hSt⟩
       replace hBw:=hBw.trans (hSt.mono hBw.size)
       (try replace hcb:=hcb.later hSt)
       (try replace hnb:=hnb.later hSt)
       (try replace Re:=Hid.mk (Re.out.later hSt))
       have Rf:=Hid.mk hv
       obtain ⟨qf,rfl⟩:=MIs.lv hv
       refine HKK.out _ _ (fun _=>HK.out _ hBw) ?_
       clear HKK K hSt
       (try simp only [Act.put]))
     |(refine ξa.go 5 fun K HKK=> ?_
       go_wp2_with fail
       obtain ⟨uW,hu,hSt,hcb,hnb,hBw,hPb,_⟩:=ξC hBw #[false,()] 72 rfl
       (try replace Re:=Hid.mk (Re.out.later hSt))
       (try replace Rf:=Hid.mk (Rf.out.later hSt))
       refine HKK.out _ _ (fun _=>by rw [hu];exact HK.out _ hBw) ?_
       rw [hu]
       clear HKK K hu hSt
       (try simp only [Act.put]))
    all_goals
     refine ⟨ζb.on 6 fun K HKK=> ?_⟩
     refine wp_store_mid 72 (.tmp 14) (.tmp 33) rfl (_) 0 qf.cs.toArray rfl rfl (hcb.there 0 2 (by simp)) (by kernel_rfl) (LV.one _) ?_
     refine HKK.out _ _ (fun h=>absurd rfl h) ?_
     clear HKK K
     refine ζb.done (by kernel_rfl) ?_
     rw [show∀W b i,World.setCells W b i (Array.toList qf.cs.toArray)=setAll W b i qf.cs from fun W b i=>ζg _ _ _ _]
     go_wp2_with fail
     go_meet
     case rel=>exact ⟨_,qf,rfl,NwM.fin hcb rfl hnb (LV.ni _) Rf.out hBw hPb⟩
   case rest=>
    clear HK
    obtain ⟨PF,qf,rfl,HN⟩:=hcut
    obtain ⟨W3,hW3⟩: ∃V,V=wc:=⟨_,rfl⟩
    rw [<-hW3] at HN⊢
    clear hW3
    have HF3:=Hid.mk (HF2.out.later HN.out.bel)
    have HV3:=Hid.mk (HV2.out.later HN.out.bel)
    have HC3:Hid (Cs W3 PN ln.cells):=HC2.out.later HN.out.bel
    have HM3:Hid (MIs W3 (.agg qf.cs.toArray) (((k+k+1)+(k+k+1)+1+((k+k+1)+(k+k+1)+1)+1)+(k+k+1)+1+(((k+k+1)+(k+k+1)+1+((k+k+1)+(k+k+1)+1)+1)+(k+k+1)+1)+1+(((k+k+1)+(k+k+1)+1+((k+k+1)+(k+k+1)+1)+1)+(k+k+1)+1)+1) ((nrm A B C).dot (O.sub A))):=HN.out.v
    have HG3:Hid (Cs W3 PF qf.cs):=HN.out.c
    have HL3:Hid (w.heap.size+1+1+1+1+1+1<PF):=Nat.lt_of_lt_of_le HF2.out.z.1 HN.out.le
    clear HN HF2 HV2 HC2
    obtain ⟨n0,n1,n2,n3,n4,n5⟩:=HC3.out.c6
    obtain ⟨d0,d1,d2,d3,d4,d5⟩:=HF3.out.d.c6
    go_wp2_with fail
    clear n0 n1 n2 n3 n4 n5 d0 d1 d2 d3 d4 d5
    refine (φI (.agg ln.cells.toArray) (.agg ld.cells.toArray) ((k+k+1)+(k+k+1)+1+((k+k+1)+(k+k+1)+1)+1) k _ _ _ _ _ _ _ (by omega) (by omega) HV3.out (HD.out _ HF3.out.bel)).mono ?_
    rintro o w4 ⟨v4,rfl,hv4,hb4⟩
    have HMg4:=Hid.mk hv4
    obtain ⟨qg,rfl⟩:=MIs.lv hv4
    have HF4:=Hid.mk (HF3.out.later hb4)
    have HV4:=Hid.mk (HV3.out.later hb4)
    have HC4:Hid (Cs w4 PN ln.cells):=HC3.out.later hb4
    have HM4:=Hid.mk (HM3.out.later hb4)
    have HG4:Hid (Cs w4 PF qf.cs):=HG3.out.later hb4
    clear hb4 HF3 HV3 HC3 HM3 HG3
    simp only [LV.cs]
    go_upto_region 6 with fail
    obtain ⟨W5,hW5⟩: ∃V,V=w4.alloc (.cells #[.bool qg.g,.slice qg.a qg.fs qg.c] 72):=⟨_,rfl⟩
    rw [<-hW5]
    have HF5:Hid (MtF w ss.cells la.cells lb.cells lc.cells lo.cells ld.cells W5):=by unfold Hid;rw [hW5];exact HF4.out.later (ζc _ _)
    have HV5:Hid (ζF W5 (.agg ln.cells.toArray) ((k+k+1)+(k+k+1)+1+((k+k+1)+(k+k+1)+1)+1) (nrm A B C).x (nrm A B C).y (nrm A B C).z):=by unfold Hid;rw [hW5];exact HV4.out.later (ζc _ _)
    have HC5:Hid (Cs W5 PN ln.cells):=by unfold Hid;rw [hW5];exact HC4.out.later (ζc _ _)
    have HM5:Hid (MIs W5 (.agg qf.cs.toArray) n ((nrm A B C).dot (O.sub A))):=by unfold Hid;rw [hW5];exact (HM4.out.later (ζc _ _)).up (by omega)
    have HG5:Hid (Cs W5 PF qf.cs):=by unfold Hid;rw [hW5];exact HG4.out.later (ζc _ _)
    have HMg5:Hid (MIs W5 (.agg qg.cs.toArray) n ((nrm A B C).dot D)):=by unfold Hid;rw [hW5];exact (HMg4.out.later (ζc _ _)).up (by omega)
    have HGg5:Hid (Cs W5 w4 qg.cs):=by unfold Hid;rw [hW5];exact Cs.new _ _ _
    have HLg:Hid (w.heap.size+1+1+1+1+1+1<w4.heap.size):=HF4.out.z.1
    clear hW5 HF4 HV4 HC4 HM4 HG4 HMg4
    generalize hPG:w4.heap.size=PG at*
    clear hPG
    obtain ⟨s0,s1,s2,s3,s4,s5,s6,s7,s8,s9,s10⟩:=HF5.out.s.c11
    obtain ⟨f0,f1⟩:=HG5.out.c2
    obtain ⟨q0,q1⟩:=HGg5.out.c2
    go_wp2_with fail
    clear s0 s1 s2 s3 s4 s5 s6 s7 s8 s9 s10 f0 f1 q0 q1
    refine (χq P (.agg ss.cells.toArray) (.agg qf.cs.toArray) (.agg qg.cs.toArray) n ((nrm A B C).dot (O.sub A)) ((nrm A B C).dot D) _ (by omega) (HS0.out _ HF5.out.bel) HM5.out HMg5.out).mono ?_
    rintro o w6 ⟨v6,rfl,hv6,hb6⟩
    have HP6:=Hid.mk hv6
    obtain ⟨su,rfl⟩:=hv6.sw
    have HF6:=Hid.mk (HF5.out.later hb6)
    have HV6:=Hid.mk (HV5.out.later hb6)
    have HC6:Hid (Cs w6 PN ln.cells):=HC5.out.later hb6
    have HM6:=Hid.mk (HM5.out.later hb6)
    have HG6:Hid (Cs w6 PF qf.cs):=HG5.out.later hb6
    have HMg6:=Hid.mk (HMg5.out.later hb6)
    have HGg6:Hid (Cs w6 PG qg.cs):=HGg5.out.later hb6
    clear hb6 hv6 HF5 HV5 HC5 HM5 HG5 HMg5 HGg5 HS0
    have th:=HF6.out.s.there 0 11 (Nat.le_refl _)
    go_wp2_with (refine wpList_store_mid rfl 124 (.tmp 6) (.tmp 40) rfl w 0 su.cells.toArray rfl rfl th (by kernel_rfl) (SW.one _) ?_)
    rw [show∀W b i,World.setCells W b i (Array.toList su.cells.toArray)=setAll W b i su.cells from fun W b i=>ζg _ _ _ _]
    clear th
    obtain ⟨W7,hW7⟩: ∃V,V=setAll w6 w 0 su.cells:=⟨_,rfl⟩
    rw [<-hW7]
    have HF7:Hid (MtF w su.cells la.cells lb.cells lc.cells lo.cells ld.cells W7):=by unfold Hid;rw [hW7];exact HF6.out.setS su.cells rfl (SW.ni _)
    have HP7:Hid (SpO W7 (.agg su.cells.toArray) n (ξh P ((nrm A B C).dot (O.sub A)) ((nrm A B C).dot D))):=by unfold Hid;rw [hW7];exact HP6.out.setAll su.cells w6 0 HF6.out.i0 (SW.ni _)
    have HV7:Hid (ζF W7 (.agg ln.cells.toArray) ((k+k+1)+(k+k+1)+1+((k+k+1)+(k+k+1)+1)+1) (nrm A B C).x (nrm A B C).y (nrm A B C).z):=by unfold Hid;rw [hW7];exact HV6.out.setAll su.cells w6 0 HF6.out.i0 (SW.ni _)
    have HC7:Hid (Cs W7 PN ln.cells):=by unfold Hid;rw [hW7];exact Cs.setAllO (by have:=HL1.out;omega) su.cells w6 0 _ HC6.out
    have HM7:Hid (MIs W7 (.agg qf.cs.toArray) n ((nrm A B C).dot (O.sub A))):=by unfold Hid;rw [hW7];exact HM6.out.setAll su.cells w6 0 HF6.out.i0 (SW.ni _)
    have HG7:Hid (Cs W7 PF qf.cs):=by unfold Hid;rw [hW7];exact Cs.setAllO (by have:=HL3.out;omega) su.cells w6 0 _ HG6.out
    have HMg7:Hid (MIs W7 (.agg qg.cs.toArray) n ((nrm A B C).dot D)):=by unfold Hid;rw [hW7];exact HMg6.out.setAll su.cells w6 0 HF6.out.i0 (SW.ni _)
    have HGg7:Hid (Cs W7 PG qg.cs):=by unfold Hid;rw [hW7];exact Cs.setAllO (by have:=HLg.out;omega) su.cells w6 0 _ HGg6.out
    clear hW7 HF6 HP6 HV6 HC6 HM6 HG6 HMg6 HGg6
    have HK:Hid (∀w',Below W7 W7 w'->(fun w'=>MtF w su.cells la.cells lb.cells lc.cells lo.cells ld.cells w'∧Cs w' PF qf.cs∧Cs w' PG qg.cs∧Below W7 W7 w') w'):=fun w' hb=>⟨HF7.out.later hb,HG7.out.later hb,HGg7.out.later hb,hb⟩
    clear HG7 HGg7
    refine ζb.rg HK 6 fun WD hBd hS=> ?_
    refine ζb.ld 0 41 124 6 w 0 su.cells (fun w' h=>(h.1.s).range 0 11) underlying124 hS ?_
    simp only [sT,sS,sZ]
    refine ζb.ld 1 42 72 14 (PF) 0 qf.cs (fun w' h=>(h.2.1).range 0 2) underlying72 hS ?_
    simp only [sT,sS,sZ]
    refine ζb.ld 3 44 72 15 (PG) 0 qg.cs (fun w' h=>(h.2.2.1).range 0 2) underlying72 hS ?_
    simp only [sT,sS,sZ]
    refine ζb.on 2 fun K HKK=> ?_
    go_wp2_with fail
    refine (ψ9 (.agg qf.cs.toArray) n _ _ (by omega) (HM7.out.later hBd)).mono ?_
    rintro o u1 ⟨v1,rfl,hv1,hs1⟩
    have hB1:Below W7 W7 u1:=hBd.trans (hs1.mono hBd.size)
    have Rh:=Hid.mk hv1
    obtain ⟨qh,rfl⟩:=MIs.lv hv1
    refine HKK.out _ _ (fun _=>HK.out _ hB1) ?_
    clear HKK K
    (try simp only [Act.put])
    refine ζb.on 4 fun K HKK=> ?_
    go_wp2_with fail
    refine (ψ9 (.agg qg.cs.toArray) n _ _ (by omega) (HMg7.out.later hB1)).mono ?_
    rintro o u2 ⟨v2,rfl,hv2,hs2⟩
    have hB2:Below W7 W7 u2:=hB1.trans (hs2.mono hB1.size)
    have Rj:=Hid.mk hv2
    obtain ⟨qj,rfl⟩:=MIs.lv hv2
    refine HKK.out _ _ (fun _=>HK.out _ hB2) ?_
    clear HKK K
    (try simp only [Act.put])
    refine ζb.on 5 fun K HKK=> ?_
    go_wp2_with fail
    refine (χq (ξh P ((nrm A B C).dot (O.sub A)) ((nrm A B C).dot D)) (.agg su.cells.toArray) (.agg qh.cs.toArray) (.agg qj.cs.toArray) n _ _ _ (by omega) (HP7.out.later hB2) (Rh.out.later hs2) Rj.out).mono ?_
    rintro o u3 ⟨v3,rfl,hv3,hs3⟩
    have hB3:Below W7 W7 u3:=hB2.trans (hs3.mono hB2.size)
    have Rx:=Hid.mk hv3
    obtain ⟨sx,rfl⟩:=SpO.sw hv3
    refine HKK.out _ _ (fun _=>HK.out _ hB3) ?_
    clear HKK K
    (try simp only [Act.put])
    refine ζb.on 6 fun K HKK=> ?_
    refine wp_store_mid 124 (.tmp 6) (.tmp 46) rfl w 0 sx.cells.toArray rfl rfl (((HF7.out.later hB3).s).there 0 11 (Nat.le_refl _)) (by kernel_rfl) (SW.one _) ?_
    refine HKK.out _ _ (fun h=>absurd rfl h) ?_
    clear HKK K
    refine ζb.done (by kernel_rfl) ?_
    obtain ⟨WZ,hWZ⟩: ∃V,V=World.setCells u3 w 0 (Array.toList sx.cells.toArray):=⟨_,rfl⟩
    rw [<-hWZ]
    have eWZ:WZ=setAll u3 w 0 sx.cells:=by rw [hWZ];exact ζg _ _ _ _
    have HF8:Hid (MtF w sx.cells la.cells lb.cells lc.cells lo.cells ld.cells WZ):=by unfold Hid;rw [eWZ];exact (HF7.out.later hB3).setS sx.cells rfl (SW.ni _)
    have HP8:Hid (SpO WZ (.agg sx.cells.toArray) n (ξh (ξh P ((nrm A B C).dot (O.sub A)) ((nrm A B C).dot D)) (-((nrm A B C).dot (O.sub A))) (-((nrm A B C).dot D)))):=by unfold Hid;rw [eWZ];exact Rx.out.setAll sx.cells _ 0 (HF7.out.later hB3).i0 (SW.ni _)
    have HV8:Hid (ζF WZ (.agg ln.cells.toArray) ((k+k+1)+(k+k+1)+1+((k+k+1)+(k+k+1)+1)+1) (nrm A B C).x (nrm A B C).y (nrm A B C).z):=by unfold Hid;rw [eWZ];exact (HV7.out.later hB3).setAll sx.cells _ 0 (HF7.out.later hB3).i0 (SW.ni _)
    have HC8:Hid (Cs WZ PN ln.cells):=by unfold Hid;rw [eWZ];exact Cs.setAllO (by have:=HL1.out;omega) sx.cells _ 0 _ (HC7.out.later hB3)
    clear eWZ hWZ hB1 hB2 hB3 hs1 hs2 hs3 hv3 Rh Rj Rx HF7 HP7 HV7 HC7 HM7 HMg7 HK hS hBd HLg HL3
    obtain ⟨a0,a1,a2,a3,a4,a5⟩:=HF8.out.a.c6
    obtain ⟨b0,b1,b2,b3,b4,b5⟩:=HF8.out.b.c6
    obtain ⟨c0,c1,c2,c3,c4,c5⟩:=HF8.out.c.c6
    go_wp2_with fail
    clear a0 a1 a2 a3 a4 a5 b0 b1 b2 b3 b4 b5 c0 c1 c2 c3 c4 c5
    obtain ⟨W8,hW8⟩: ∃V,V=WZ.alloc (.cells #[.bool la.x.g,.slice la.x.a la.x.fs la.x.c,.bool la.y.g,.slice la.y.a la.y.fs la.y.c,.bool la.z.g,.slice la.z.a la.z.fs la.z.c,.bool lb.x.g,.slice lb.x.a lb.x.fs lb.x.c,.bool lb.y.g,.slice lb.y.a lb.y.fs lb.y.c,.bool lb.z.g,.slice lb.z.a lb.z.fs lb.z.c,.bool lc.x.g,.slice lc.x.a lc.x.fs lc.x.c,.bool lc.y.g,.slice lc.y.a lc.y.fs lc.y.c,.bool lc.z.g,.slice lc.z.a lc.z.fs lc.z.c,.bool la.x.g,.slice la.x.a la.x.fs la.x.c,.bool la.y.g,.slice la.y.a la.y.fs la.y.c,.bool la.z.g,.slice la.z.a la.z.fs la.z.c] 128):=⟨_,rfl⟩
    rw [<-hW8]
    have HF9:Hid (MtF w sx.cells la.cells lb.cells lc.cells lo.cells ld.cells W8):=by unfold Hid;rw [hW8];exact HF8.out.later (ζc _ _)
    have HP9:Hid (SpO W8 (.agg sx.cells.toArray) n (ξh (ξh P ((nrm A B C).dot (O.sub A)) ((nrm A B C).dot D)) (-((nrm A B C).dot (O.sub A))) (-((nrm A B C).dot D)))):=by unfold Hid;rw [hW8];exact HP8.out.later (ζc _ _)
    have HV9:Hid (ζF W8 (.agg ln.cells.toArray) ((k+k+1)+(k+k+1)+1+((k+k+1)+(k+k+1)+1)+1) (nrm A B C).x (nrm A B C).y (nrm A B C).z):=by unfold Hid;rw [hW8];exact HV8.out.later (ζc _ _)
    have HC9:Hid (Cs W8 PN ln.cells):=by unfold Hid;rw [hW8];exact HC8.out.later (ζc _ _)
    have HQ9:Hid (Cs W8 WZ (C4 la lb lc)):=by unfold Hid;rw [hW8];exact Cs.new _ _ _
    have HLc:Hid (w.heap.size+1+1+1+1+1+1<WZ.heap.size):=HF8.out.z.1
    clear hW8 HF8 HP8 HV8 HC8
    generalize hPC:WZ.heap.size=PC at*
    clear hPC
    go_loopg [17,18] 3 (fun k' s17 _ wr=> ∃(i:Nat) (sy:SW),s17= .int .i64 (i:Int)∧i<=3∧Hid (k'=3-i)∧Hid (MtF w sy.cells la.cells lb.cells lc.cells lo.cells ld.cells wr)∧Hid (SpO wr (.agg sy.cells.toArray) n (ν9 P A B C O D i))∧Hid (ζF wr (.agg ln.cells.toArray) ((k+k+1)+(k+k+1)+1+((k+k+1)+(k+k+1)+1)+1) (nrm A B C).x (nrm A B C).y (nrm A B C).z)∧Hid (Cs wr PN ln.cells)∧Hid (Cs wr PC (C4 la lb lc)))
    case atStart=>exact ⟨0,sx,rfl,by omega,rfl,HF9,HP9,HV9,HC9,HQ9⟩
    case round=>
     clear HF9 HP9 HV9 HC9 HQ9
     obtain ⟨i,sy,rfl,hi3,HKI,HF,HP,HV,HC,HQ⟩:=hrel
     rcases Nat.lt_or_ge i 3 with hlt|hge
     ·have hrows: ∃(le:LW) (lq:LW),(∀w',Cs w' PC (C4 la lb lc)->w'.rangeAt PC (i*6) le.cells∧w'.rangeAt PC ((i+1)*6) lq.cells)∧(∀w',Below w w w'->ζF w' (.agg le.cells.toArray) k (crn A B C i).x (crn A B C i).y (crn A B C i).z∧ζF w' (.agg lq.cells.toArray) k (crn A B C (i+1)).x (crn A B C (i+1)).y (crn A B C (i+1)).z):=by
       rcases (show i=0∨i=1∨i=2 by omega) with rfl|rfl|rfl
       ·exact ⟨la,lb,fun w' h=>⟨h.range 0 6,h.range 6 6⟩,fun w' h=>⟨HA.out w' h,HB.out w' h⟩⟩
       ·exact ⟨lb,lc,fun w' h=>⟨h.range 6 6,h.range 12 6⟩,fun w' h=>⟨HB.out w' h,HC'.out w' h⟩⟩
       ·exact ⟨lc,la,fun w' h=>⟨h.range 12 6,h.range 18 6⟩,fun w' h=>⟨HC'.out w' h,HA.out w' h⟩⟩
      obtain ⟨le,lq,hrw,hvv⟩:=hrows
      obtain ⟨O1,hO1⟩: ∃o,o=i*6:=⟨_,rfl⟩
      obtain ⟨O2,hO2⟩: ∃o,o=(i+1)*6:=⟨_,rfl⟩
      have HRW:Hid (∀w',Cs w' PC (C4 la lb lc)->w'.rangeAt PC O1 le.cells∧w'.rangeAt PC O2 lq.cells):=by unfold Hid;rw [hO1,hO2];exact hrw
      have HO1:Hid (O1=i*6):=hO1
      have HO2:=Hid.mk hO2
      have HVV:=Hid.mk hvv
      clear hrw hvv hO1 hO2
      go_wp2_with fail
      have HK:Hid (∀w',Below wr wr w'->(fun w'=>MtF w sy.cells la.cells lb.cells lc.cells lo.cells ld.cells w'∧Cs w' PN ln.cells∧Cs w' PC (C4 la lb lc)∧Below wr wr w') w'):=fun w' hb=>⟨HF.out.later hb,HC.out.later hb,HQ.out.later hb,hb⟩
      go_cut [18] from 52 to 80 (fun s18 wx=> ∃(PM:Nat) (lm:LW),s18= .pointer (some ⟨PM,0,none⟩)∧Hid (NwV wr PM lm.cells (((k+k+1)+(k+k+1)+1+((k+k+1)+(k+k+1)+1)+1)+(k+k+1)+1+(((k+k+1)+(k+k+1)+1+((k+k+1)+(k+k+1)+1)+1)+(k+k+1)+1)+1) ((nrm A B C).cross ((crn A B C (i+1)).sub (crn A B C i))).x ((nrm A B C).cross ((crn A B C (i+1)).sub (crn A B C i))).y ((nrm A B C).cross ((crn A B C (i+1)).sub (crn A B C i))).z wx))
      case first=>
       refine ζb.rg HK 13 fun WD hBd hS=> ?_
       refine ζb.ld 0 56 128 13 (PN) 0 ln.cells (fun w' h=>(h.2.1).range 0 6) underlying128 hS ?_
       simp only [sT,sS,sZ]
       refine ζb.pu 1 57 (.slice (some ⟨PC,0,none⟩) 4 4) hS ?_
       simp only [sT,sS,sZ]
       refine ζb.pu 2 58 (.int .i64 (i:Int)) hS ?_
       simp only [sT,sS,sZ]
       refine ζb.tk 3 59 (.int .i64 ((i:Int)+1)) rfl rfl (by kernel_rfl) (fun _ _ _ h=>h) rfl (Or.inl ⟨rfl,fun w' _=>by go_simp;exact ν8 (by omega) (by omega)⟩) hS ?_
       simp only [sT,sS,sZ]
       refine ζb.tk 4 60 (.pointer (some ⟨PC,O2,none⟩)) rfl rfl (by kernel_rfl) (fun _ _ _ h=>h) rfl (Or.inl ⟨rfl,fun w' _=>by rw [HO2.out];go_simp;intro h;first|omega|exact absurd (h (by omega)) (by omega)⟩) hS ?_
       simp only [sT,sS,sZ]
       refine ζb.ld 5 61 128 60 (PC) (O2) lq.cells (fun w' h=>(HRW.out _ h.2.2.1).2) underlying128 hS ?_
       simp only [sT,sS,sZ]
       refine ζb.pu 6 62 (.slice (some ⟨PC,0,none⟩) 4 4) hS ?_
       simp only [sT,sS,sZ]
       refine ζb.pu 7 63 (.int .i64 (i:Int)) hS ?_
       simp only [sT,sS,sZ]
       refine ζb.tk 8 64 (.pointer (some ⟨PC,O1,none⟩)) rfl rfl (by kernel_rfl) (fun _ _ _ h=>h) rfl (Or.inl ⟨rfl,fun w' _=>by rw [HO1.out];go_simp;intro h;first|omega|exact absurd (h (by omega)) (by omega)⟩) hS ?_
       simp only [sT,sS,sZ]
       refine ζb.ld 9 65 128 64 (PC) (O1) le.cells (fun w' h=>(HRW.out _ h.2.2.1).1) underlying128 hS ?_
       simp only [sT,sS,sZ]
       refine ζ0.begin [10,11] [12] ?_
       have hBw:=hBd
       clear hBd
       repeat' first
        |refine ζ0.cb (by kernel_rfl) rfl rfl rfl rfl ?_ ?_
        |refine ζ0.c (by kernel_rfl) rfl rfl ?_
        |refine ζ0.b (by kernel_rfl) rfl rfl ?_
        |(refine ξa.go 10 fun K HKK=> ?_
          go_wp2_with fail
          refine (ψx (.agg lq.cells.toArray) (.agg le.cells.toArray) k k _ _ _ _ _ _ _ (by omega) (by omega) (HVV.out _ (HF.out.bel.trans (hBw.mono HF.out.bel.size))).2 (HVV.out _ (HF.out.bel.trans (hBw.mono HF.out.bel.size))).1).mono ?_
          rintro o uW ⟨vV,rfl,hv,hSt⟩
          replace hBw:=hBw.trans (hSt.mono hBw.size)
          (try replace hcb:=hcb.later hSt)
          (try replace hnb:=hnb.later hSt)
          (try replace Rm:=Hid.mk (Rm.out.later hSt))
          have Rh:=Hid.mk hv
          obtain ⟨lh,rfl⟩:=ζF.lw hv
          refine HKK.out _ _ (fun _=>HK.out _ hBw) ?_
          clear HKK K hSt
          (try simp only [Act.put]))
        |(refine ξa.go 11 fun K HKK=> ?_
          go_wp2_with fail
          refine (χU (.agg ln.cells.toArray) (.agg lh.cells.toArray) ((k+k+1)+(k+k+1)+1+((k+k+1)+(k+k+1)+1)+1) (k+k+1) _ _ _ _ _ _ _ (by omega) (by omega) (HV.out.later hBw) Rh.out).mono ?_
          rintro o uW ⟨vV,rfl,hv,hSt⟩
          replace hBw:=hBw.trans (hSt.mono hBw.size)
          (try replace hcb:=hcb.later hSt)
          (try replace hnb:=hnb.later hSt)
          (try replace Rh:=Hid.mk (Rh.out.later hSt))
          have Rm:=Hid.mk hv
          obtain ⟨lm,rfl⟩:=ζF.lw hv
          refine HKK.out _ _ (fun _=>HK.out _ hBw) ?_
          clear HKK K hSt
          (try simp only [Act.put]))
        |(refine ξa.go 12 fun K HKK=> ?_
          go_wp2_with fail
          obtain ⟨uW,hu,hSt,hcb,hnb,hBw,hPb,_⟩:=ξC hBw #[false,(),false,(),false,()] 128 rfl
          (try replace Rh:=Hid.mk (Rh.out.later hSt))
          (try replace Rm:=Hid.mk (Rm.out.later hSt))
          refine HKK.out _ _ (fun _=>by rw [hu];exact HK.out _ hBw) ?_
          rw [hu]
          clear HKK K hu hSt
          (try simp only [Act.put]))
       all_goals
        refine ⟨ζb.on 13 fun K HKK=> ?_⟩
        refine wp_store_mid 128 (.tmp 18) (.tmp 67) rfl (_) 0 lm.cells.toArray rfl rfl (hcb.there 0 6 (by simp)) (by kernel_rfl) (LW.one _) ?_
        refine HKK.out _ _ (fun h=>absurd rfl h) ?_
        clear HKK K
        refine ζb.done (by kernel_rfl) ?_
        rw [show∀W b i,World.setCells W b i (Array.toList lm.cells.toArray)=setAll W b i lm.cells from fun W b i=>ζg _ _ _ _]
        go_wp2_with fail
        go_meet
        case rel=>exact ⟨_,lm,rfl,NwV.fin hcb rfl hnb (LW.ni _) Rm.out hBw hPb⟩
      case rest=>
       clear HK
       obtain ⟨PM,lm,rfl,HN⟩:=hcut
       obtain ⟨X0,hX0⟩: ∃V,V=wc:=⟨_,rfl⟩
       rw [<-hX0] at HN⊢
       clear hX0
       have HFx:=Hid.mk (HF.out.later HN.out.bel)
       have HPx:=Hid.mk (HP.out.later HN.out.bel)
       have HVx:=Hid.mk (HV.out.later HN.out.bel)
       have HCx:Hid (Cs X0 PN ln.cells):=HC.out.later HN.out.bel
       have HQx:Hid (Cs X0 PC (C4 la lb lc)):=HQ.out.later HN.out.bel
       have HMx:Hid (ζF X0 (.agg lm.cells.toArray) (((k+k+1)+(k+k+1)+1+((k+k+1)+(k+k+1)+1)+1)+(k+k+1)+1+(((k+k+1)+(k+k+1)+1+((k+k+1)+(k+k+1)+1)+1)+(k+k+1)+1)+1) ((nrm A B C).cross ((crn A B C (i+1)).sub (crn A B C i))).x ((nrm A B C).cross ((crn A B C (i+1)).sub (crn A B C i))).y ((nrm A B C).cross ((crn A B C (i+1)).sub (crn A B C i))).z):=HN.out.v
       have HCm:Hid (Cs X0 PM lm.cells):=HN.out.c
       clear HN HF HP HV HC HQ
       go_wp2_with fail
       have HK:Hid (∀w',Below X0 X0 w'->(fun w'=>MtF w sy.cells la.cells lb.cells lc.cells lo.cells ld.cells w'∧Cs w' PC (C4 la lb lc)∧Cs w' PM lm.cells∧Below X0 X0 w') w'):=fun w' hb=>⟨HFx.out.later hb,HQx.out.later hb,HCm.out.later hb,hb⟩
       refine ζb.rg HK 13 fun WD hBd hS=> ?_
       refine ζb.ld 0 68 124 6 w 0 sy.cells (fun w' h=>(h.1.s).range 0 11) underlying124 hS ?_
       simp only [sT,sS,sZ]
       refine ζb.ld 1 69 128 18 (PM) 0 lm.cells (fun w' h=>(h.2.2.1).range 0 6) underlying128 hS ?_
       simp only [sT,sS,sZ]
       refine ζb.ld 2 70 128 10 (↑w+1+1+1+1) 0 lo.cells (fun w' h=>(h.1.o).range 0 6) underlying128 hS ?_
       simp only [sT,sS,sZ]
       refine ζb.pu 3 71 (.slice (some ⟨PC,0,none⟩) 4 4) hS ?_
       simp only [sT,sS,sZ]
       refine ζb.pu 4 72 (.int .i64 (i:Int)) hS ?_
       simp only [sT,sS,sZ]
       refine ζb.tk 5 73 (.pointer (some ⟨PC,O1,none⟩)) rfl rfl (by kernel_rfl) (fun _ _ _ h=>h) rfl (Or.inl ⟨rfl,fun w' _=>by rw [HO1.out];go_simp;intro h;first|omega|exact absurd (h (by omega)) (by omega)⟩) hS ?_
       simp only [sT,sS,sZ]
       refine ζb.ld 6 74 128 73 (PC) (O1) le.cells (fun w' h=>(HRW.out _ h.2.1).1) underlying128 hS ?_
       simp only [sT,sS,sZ]
       refine ζb.ld 9 77 128 18 (PM) 0 lm.cells (fun w' h=>(h.2.2.1).range 0 6) underlying128 hS ?_
       simp only [sT,sS,sZ]
       refine ζb.ld 10 78 128 11 (↑w+1+1+1+1+1) 0 ld.cells (fun w' h=>(h.1.d).range 0 6) underlying128 hS ?_
       simp only [sT,sS,sZ]
       refine ζb.on 7 fun K HKK=> ?_
       go_wp2_with fail
       refine (ψx (.agg lo.cells.toArray) (.agg le.cells.toArray) k k _ _ _ _ _ _ _ (by omega) (by omega) (HO.out _ (HFx.out.bel.trans (hBd.mono HFx.out.bel.size))) (HVV.out _ (HFx.out.bel.trans (hBd.mono HFx.out.bel.size))).1).mono ?_
       rintro o u1 ⟨v1,rfl,hv1,hs1⟩
       have hB1:Below X0 X0 u1:=hBd.trans (hs1.mono hBd.size)
       have Rh:=Hid.mk hv1
       obtain ⟨lh,rfl⟩:=ζF.lw hv1
       refine HKK.out _ _ (fun _=>HK.out _ hB1) ?_
       clear HKK K
       (try simp only [Act.put])
       refine ζb.on 8 fun K HKK=> ?_
       go_wp2_with fail
       refine (φI (.agg lm.cells.toArray) (.agg lh.cells.toArray) (((k+k+1)+(k+k+1)+1+((k+k+1)+(k+k+1)+1)+1)+(k+k+1)+1+(((k+k+1)+(k+k+1)+1+((k+k+1)+(k+k+1)+1)+1)+(k+k+1)+1)+1) (k+k+1) _ _ _ _ _ _ _ (by omega) (by omega) (HMx.out.later hB1) Rh.out).mono ?_
       rintro o u2 ⟨v2,rfl,hv2,hs2⟩
       have hB2:Below X0 X0 u2:=hB1.trans (hs2.mono hB1.size)
       have Rr:=Hid.mk hv2
       obtain ⟨qr,rfl⟩:=MIs.lv hv2
       refine HKK.out _ _ (fun _=>HK.out _ hB2) ?_
       clear HKK K
       (try simp only [Act.put])
       refine ζb.on 11 fun K HKK=> ?_
       go_wp2_with fail
       refine (φI (.agg lm.cells.toArray) (.agg ld.cells.toArray) (((k+k+1)+(k+k+1)+1+((k+k+1)+(k+k+1)+1)+1)+(k+k+1)+1+(((k+k+1)+(k+k+1)+1+((k+k+1)+(k+k+1)+1)+1)+(k+k+1)+1)+1) k _ _ _ _ _ _ _ (by omega) (by omega) (HMx.out.later hB2) (HD.out _ (HFx.out.bel.trans (hB2.mono HFx.out.bel.size)))).mono ?_
       rintro o u3 ⟨v3,rfl,hv3,hs3⟩
       have hB3:Below X0 X0 u3:=hB2.trans (hs3.mono hB2.size)
       have Rl:=Hid.mk hv3
       obtain ⟨ql,rfl⟩:=MIs.lv hv3
       refine HKK.out _ _ (fun _=>HK.out _ hB3) ?_
       clear HKK K
       (try simp only [Act.put])
       refine ζb.on 12 fun K HKK=> ?_
       go_wp2_with fail
       refine (χq (ν9 P A B C O D i) (.agg sy.cells.toArray) (.agg qr.cs.toArray) (.agg ql.cs.toArray) n _ _ _ (by omega) (HPx.out.later hB3) ((Rr.out.later hs3).up (by omega)) (Rl.out.up (by omega))).mono ?_
       rintro o u4 ⟨v4,rfl,hv4,hs4⟩
       have hB4:Below X0 X0 u4:=hB3.trans (hs4.mono hB3.size)
       have Rx:=Hid.mk hv4
       obtain ⟨sx,rfl⟩:=SpO.sw hv4
       refine HKK.out _ _ (fun _=>HK.out _ hB4) ?_
       clear HKK K
       (try simp only [Act.put])
       refine ζb.on 13 fun K HKK=> ?_
       refine wp_store_mid 124 (.tmp 6) (.tmp 80) rfl w 0 sx.cells.toArray rfl rfl (((HFx.out.later hB4).s).there 0 11 (Nat.le_refl _)) (by kernel_rfl) (SW.one _) ?_
       refine HKK.out _ _ (fun h=>absurd rfl h) ?_
       clear HKK K
       refine ζb.done (by kernel_rfl) ?_
       obtain ⟨WZ,hWZ⟩: ∃V,V=World.setCells u4 w 0 (Array.toList sx.cells.toArray):=⟨_,rfl⟩
       rw [<-hWZ]
       have eWZ:WZ=setAll u4 w 0 sx.cells:=by rw [hWZ];exact ζg _ _ _ _
       have HF8:Hid (MtF w sx.cells la.cells lb.cells lc.cells lo.cells ld.cells WZ):=by unfold Hid;rw [eWZ];exact (HFx.out.later hB4).setS sx.cells rfl (SW.ni _)
       have HP8:Hid (SpO WZ (.agg sx.cells.toArray) n (ν9 P A B C O D (i+1))):=by unfold Hid;rw [eWZ];exact Rx.out.setAll sx.cells _ 0 (HFx.out.later hB4).i0 (SW.ni _)
       have HV8:Hid (ζF WZ (.agg ln.cells.toArray) ((k+k+1)+(k+k+1)+1+((k+k+1)+(k+k+1)+1)+1) (nrm A B C).x (nrm A B C).y (nrm A B C).z):=by unfold Hid;rw [eWZ];exact (HVx.out.later hB4).setAll sx.cells _ 0 (HFx.out.later hB4).i0 (SW.ni _)
       have HC8:Hid (Cs WZ PN ln.cells):=by unfold Hid;rw [eWZ];exact Cs.setAllO (by have:=HL1.out;omega) sx.cells _ 0 _ (HCx.out.later hB4)
       have HQ8:Hid (Cs WZ PC (C4 la lb lc)):=by unfold Hid;rw [eWZ];exact Cs.setAllO (by have:=HLc.out;omega) sx.cells _ 0 _ (HQx.out.later hB4)
       clear eWZ hWZ hB1 hB2 hB3 hB4 hs1 hs2 hs3 hs4 hv4 Rh Rr Rl Rx HFx HPx HVx HCx HQx HMx HCm HK hS hBd
       go_wp2_with fail
       go_roundg (3-(i+1))
       case measure=>have:=HKI.out;omega
       case rel=>exact ⟨i+1,sx,by go_num,by omega,rfl,HF8,HP8,HV8,HC8,HQ8⟩
     ·have hie:i=3:=by omega
      subst hie
      have th:=HF.out.z.there 0 11 (Nat.le_refl _)
      have rs:=HF.out.s.range 0 11
      have HC:=Hid.mk (HF.out.z.whole sy.cells rfl)
      go_wp2_with (first|refine wpList_load_mid rfl 124 (.tmp 6) rfl w 0 rfl sy.cells _ rs underlying124 rfl (by kernel_rfl) ?_|refine wpList_store_mid rfl 124 (.tmp 12) (.tmp 81) rfl (↑w+1+1+1+1+1+1) 0 sy.cells.toArray rfl rfl th (by kernel_rfl) (SW.one _) ?_)
      rw [show∀W b i,World.setCells W b i (Array.toList sy.cells.toArray)=setAll W b i sy.cells from fun W b i=>ζg _ _ _ _]
      refine bodyPost_ret (v:= .agg sy.cells.toArray) (ζy results66 rfl (HC.out.range 0 11) underlying124 rfl (by kernel_rfl)) rfl ?_
      exact ⟨_,rfl,(HP.out.setAll sy.cells _ 0 HF.out.iz (SW.ni _)).congr (fun p q _=>⟨fun h=>⟨HNN.out,h⟩,fun h=>h.2⟩),ζd (vs:=sy.cells) (by omega) _ 0 HF.out.bel⟩
end Go.Proofs.YtfieffpobgcpmaaGreatDoor
