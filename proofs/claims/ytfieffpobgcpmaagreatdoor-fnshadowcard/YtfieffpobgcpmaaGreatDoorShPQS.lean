import Derived.Test.YtfieffpobgcpmaaGreatDoorMdUShNS
import Derived.Test.YtfieffpobgcpmaaGreatDoorShHShMShOShIShQS
import Derived.Test.YtfieffpobgcpmaaGreatDoorBgIBgJBhACsASh0S
import Derived.Deep.CutRange
set_option maxRecDepth 100000
set_option maxHeartbeats 32000000
namespace Go.Proofs.YtfieffpobgcpmaaGreatDoor
open Go.RowKit Go.Proofs.Tryz
theorem χu (A B C O D:V3) (p q:Int):φm (fun p q=>0<=p∧p<=q) A B C O D p q↔p<=q∧ζs A B C O D p q:=by
 rw [<-θn]
 unfold φm ξh
 constructor
 ·rintro ⟨h,⟨⟨⟨⟨⟨⟨h1,h2⟩,h3⟩,h4⟩,h5⟩,h6⟩,h7⟩⟩
  exact ⟨h2,h,⟨⟨⟨⟨⟨h1,h3⟩,h4⟩,h5⟩,h6⟩,h7⟩⟩
 ·rintro ⟨h2,h,⟨⟨⟨⟨⟨h1,h3⟩,h4⟩,h5⟩,h6⟩,h7⟩⟩
  exact ⟨h,⟨⟨⟨⟨⟨⟨h1,h2⟩,h3⟩,h4⟩,h5⟩,h6⟩,h7⟩⟩
theorem τn:ξg (fun p q=>0<=p∧p<=q) 0 1 1 1:=
 ⟨by omega,Or.inl (by omega),by omega,fun p q hq=>⟨fun h=>⟨by omega,by omega⟩,fun h=>⟨by omega,by omega⟩⟩⟩
theorem ξg.short {P:Int->Int->Prop} {a b c d:Int} (h:ξg P a b c d) (hp: ∀p q,P p q->p<=q):d≠0:=by
 intro e
 subst e
 have hb:=h.hb
 have hc: ∀x,x*0<=c*b:=fun x=>by rw [Int.mul_zero];exact Int.mul_nonneg (Int.le_of_lt (h.cd rfl)) (Int.le_of_lt hb)
 rcases Int.lt_or_le b a with k|k
 ·have:=hp a b ((h.is a b hb).mpr ⟨Int.le_refl _,hc _⟩);omega
 ·have:=hp (b+1) b ((h.is (b+1) b hb).mpr ⟨Int.mul_le_mul_of_nonneg_right (by omega) (Int.le_of_lt hb),hc _⟩);omega
theorem ωv (t0 t1 t2 t3 t4 t5 t6 t7 t8 s0 s1 s2 s3 s4 s5 l0 l1 l2:Int) (vf:Value) (a b':Int) (w:World) (hu:U32 [t0,t1,t2,t3,t4,t5,t6,t7,t8,s0,s1,s2,s3,s4,s5,l0,l1,l2]) (hf:FrM w vf 1500 a b') (hb0:0<b'):
 Calls prog 58 #[.agg #[t0,t1,t2,t3,t4,t5,t6,t7,t8],.agg #[s0,s1,s2,s3,s4,s5],vf,.agg #[l0,l1,l2]] w fun o w'=>νV w ((φG (pv t0 t1 t2) (pv t3 t4 t5) (pv t6 t7 t8) (pv s0 s1 s2) (pv s3 s4 s5) (pv l0 l1 l2)) a b') o w':=by
 have HU:=Hid.mk hu
 have HB0:=Hid.mk hb0
 obtain ⟨gn,an,cn,zn,gd,ad,cd,zd,rfl,hn1,hd1⟩:=hf
 have HNM:Hid (∀w',Below w.heap.size w w'->MIs w' (.agg #[gn,.slice an zn.length cn]) 1500 a):=fun w' q=>hn1.later q
 have HDM:Hid (∀w',Below w.heap.size w w'->MIs w' (.agg #[gd,.slice ad zd.length cd]) 1500 b'):=fun w' q=>hd1.later q
 have HI0:Hid (Sh4 w [t0,t1,t2,t3,t4,t5,t6,t7,t8] [s0,s1,s2,s3,s4,s5] [gn,.slice an zn.length cn,gd,.slice ad zd.length cd,false] [l0,l1,l2] ((((w.alloc (.cells #[t0,t1,t2,t3,t4,t5,t6,t7,t8] 36)).alloc (.cells #[s0,s1,s2,s3,s4,s5] 39)).alloc (.cells #[gn,.slice an zn.length cn,gd,.slice ad zd.length cd,false] 74)).alloc (.cells #[l0,l1,l2] 34))):=Sh4.start w _ _ _ _ _ _ _ _
 clear hu hn1 hd1 hb0
 go_enter func58,ntmps58
 go_wp2_with fail
 obtain ⟨W0,hW0⟩: ∃V,V=((((w.alloc (.cells #[t0,t1,t2,t3,t4,t5,t6,t7,t8] 36)).alloc (.cells #[s0,s1,s2,s3,s4,s5] 39)).alloc (.cells #[gn,.slice an zn.length cn,gd,.slice ad zd.length cd,false] 74)).alloc (.cells #[l0,l1,l2] 34)):=⟨_,rfl⟩
 rw [<-hW0] at HI0⊢
 have e0:W0.heap.size=w.heap.size+1+1+1+1:=by rw [hW0];simp
 obtain ⟨W1,hW1⟩: ∃V,V=W0.alloc (.cells #[t0,t1,t2,t3,t4,t5,t6,t7,t8,s0,s1,s2,s3,s4,s5,l0,l1,l2] 34):=⟨_,rfl⟩
 rw [<-hW1]
 have HCU:Hid (CU W1 (w.heap.size+1+1+1+1) [t0,t1,t2,t3,t4,t5,t6,t7,t8,s0,s1,s2,s3,s4,s5,l0,l1,l2]):=by
  have h:Cs W1 W0.heap.size [t0,t1,t2,t3,t4,t5,t6,t7,t8,s0,s1,s2,s3,s4,s5,l0,l1,l2]:=by rw [hW1];exact Cs.new _ _ _
  rw [e0] at h
  exact CU.of (bs:=[t0,t1,t2,t3,t4,t5,t6,t7,t8,s0,s1,s2,s3,s4,s5,l0,l1,l2]) h
 have HF0:Hid (Sh4 w [t0,t1,t2,t3,t4,t5,t6,t7,t8] [s0,s1,s2,s3,s4,s5] [gn,.slice an zn.length cn,gd,.slice ad zd.length cd,false] [l0,l1,l2] W1):=by unfold Hid;rw [hW1];exact HI0.out.later (ζc _ _)
 clear hW0 hW1 e0 HI0
 refine (θp (w.heap.size+1+1+1+1) 6 6 [t0,t1,t2,t3,t4,t5,t6,t7,t8,s0,s1,s2,s3,s4,s5,l0,l1,l2] W1 rfl (by decide) (by decide) HU.out HCU.out).mono ?_
 rintro o w1 hsc
 obtain ⟨K,b,c,vs,hK0,rfl,hb1,hall⟩:=hsc.all
 have HF1:=Hid.mk (HF0.out.later hb1)
 obtain ⟨e0,h0⟩:=hall 0 (by decide)
 generalize vs 0=v0 at*
 obtain ⟨e1,h1⟩:=hall 1 (by decide)
 generalize vs 1=v1 at*
 obtain ⟨e2,h2⟩:=hall 2 (by decide)
 generalize vs 2=v2 at*
 obtain ⟨e3,h3⟩:=hall 3 (by decide)
 generalize vs 3=v3 at*
 obtain ⟨e4,h4⟩:=hall 4 (by decide)
 generalize vs 4=v4 at*
 obtain ⟨e5,h5⟩:=hall 5 (by decide)
 generalize vs 5=v5 at*
 have HM:Hid ((φG (pv t0 t1 t2) (pv t3 t4 t5) (pv t6 t7 t8) (pv s0 s1 s2) (pv s3 s4 s5) (pv l0 l1 l2)) a b'↔φG v0.v v1.v v2.v v3.v v4.v v5.v a b'):=σM hK0 e0 e1 e2 e3 e4 e5 a b'
 have HR:Hid (∀w',Below w1.heap.size w1 w'->w'.rangeAt b 0 v0.cells∧w'.rangeAt b 6 v1.cells∧w'.rangeAt b 12 v2.cells∧w'.rangeAt b 18 v3.cells∧w'.rangeAt b 24 v4.cells∧w'.rangeAt b 30 v5.cells):=fun w' q=>⟨(h0 w' q).1,(h1 w' q).1,(h2 w' q).1,(h3 w' q).1,(h4 w' q).1,(h5 w' q).1⟩
 have HV0:Hid (∀w',Below w1.heap.size w1 w'->ζF w' (.agg v0.cells.toArray) 21 v0.x.m v0.y.m v0.z.m):=fun w' q=>(h0 w' q).2
 have HV1:Hid (∀w',Below w1.heap.size w1 w'->ζF w' (.agg v1.cells.toArray) 21 v1.x.m v1.y.m v1.z.m):=fun w' q=>(h1 w' q).2
 have HV2:Hid (∀w',Below w1.heap.size w1 w'->ζF w' (.agg v2.cells.toArray) 21 v2.x.m v2.y.m v2.z.m):=fun w' q=>(h2 w' q).2
 have HV3:Hid (∀w',Below w1.heap.size w1 w'->ζF w' (.agg v3.cells.toArray) 21 v3.x.m v3.y.m v3.z.m):=fun w' q=>(h3 w' q).2
 have HV4:Hid (∀w',Below w1.heap.size w1 w'->ζF w' (.agg v4.cells.toArray) 21 v4.x.m v4.y.m v4.z.m):=fun w' q=>(h4 w' q).2
 have HV5:Hid (∀w',Below w1.heap.size w1 w'->ζF w' (.agg v5.cells.toArray) 21 v5.x.m v5.y.m v5.z.m):=fun w' q=>(h5 w' q).2
 have HW1:Hid (Below w.heap.size w w1):=HF1.out.bel
 clear hall hK0 e0 e1 e2 e3 e4 e5 h0 h1 h2 h3 h4 h5 hsc hb1 HF0 HCU HU
 go_wp2_with fail
 have HK:Hid (∀w',Below w1.heap.size w1 w'->(fun w'=>(w'.rangeAt b 0 v0.cells∧w'.rangeAt b 6 v1.cells∧w'.rangeAt b 12 v2.cells∧w'.rangeAt b 18 v3.cells∧w'.rangeAt b 24 v4.cells∧w'.rangeAt b 30 v5.cells)∧Cs w' (w.heap.size+1+1) [gn,.slice an zn.length cn,gd,.slice ad zd.length cd,false]) w'):=fun w' q=>⟨HR.out w' q,HF1.out.h.later q⟩
 go_cut [10] from 28 (fun s10 wx=> ∃(PP:Nat) (lp:LW),s10= .pointer (some ⟨PP,0,none⟩)∧Hid (NwV w1 PP lp.cells 3045 (v3.x.m*b'+v4.x.m*a) (v3.y.m*b'+v4.y.m*a) (v3.z.m*b'+v4.z.m*a) wx))
 case first=>
  refine ζb.rg HK 14 fun WD hBd hS=> ?_
  refine ζb.pu 0 28 (.slice (some ⟨b,0,none⟩) 6 c) hS ?_
  simp only [sT,sS,sZ]
  refine ζb.pu 1 29 (.pointer (some ⟨b,18,none⟩)) hS ?_
  simp only [sT,sS,sZ]
  refine ζb.ld 2 30 128 29 (b) 18 v3.cells (fun w' h=>h.1.2.2.2.1) underlying128 hS ?_
  simp only [sT,sS,sZ]
  refine ζb.pu 3 31 (.pointer (some ⟨w.heap.size+1+1,2,none⟩)) hS ?_
  simp only [sT,sS,sZ]
  refine ζb.ld 4 32 72 31 (w.heap.size+1+1) 2 [gd,.slice ad zd.length cd] (fun w' h=>(h.2).range 2 2) underlying72 hS ?_
  simp only [sT,sS,sZ]
  refine ζb.pu 6 34 (.slice (some ⟨b,0,none⟩) 6 c) hS ?_
  simp only [sT,sS,sZ]
  refine ζb.pu 7 35 (.pointer (some ⟨b,24,none⟩)) hS ?_
  simp only [sT,sS,sZ]
  refine ζb.ld 8 36 128 35 (b) 24 v4.cells (fun w' h=>h.1.2.2.2.2.1) underlying128 hS ?_
  simp only [sT,sS,sZ]
  refine ζb.pu 9 37 (.pointer (some ⟨w.heap.size+1+1,0,none⟩)) hS ?_
  simp only [sT,sS,sZ]
  refine ζb.ld 10 38 72 37 (w.heap.size+1+1) 0 [gn,.slice an zn.length cn] (fun w' h=>(h.2).range 0 2) underlying72 hS ?_
  simp only [sT,sS,sZ]
  refine ζ0.begin [5,11,12] [13] ?_
  have hBw:=hBd
  clear hBd
  repeat' first
   |refine ζ0.cb (by kernel_rfl) rfl rfl rfl rfl ?_ ?_
   |refine ζ0.c (by kernel_rfl) rfl rfl ?_
   |refine ζ0.b (by kernel_rfl) rfl rfl ?_
   |(refine ξa.go 5 fun K HKK=> ?_
     go_wp2_with fail
     refine (ξv (.agg v3.cells.toArray) _ 21 1500 v3.x.m v3.y.m v3.z.m b' _ (by decide) (by decide) (HV3.out _ hBw) (HDM.out _ (HW1.out.trans (hBw.mono HW1.out.size)))).mono ?_
     rintro o uW ⟨vV,rfl,hv,hSt⟩
     replace hBw:=hBw.trans (hSt.mono hBw.size)
     (try replace hcb:=hcb.later hSt)
     (try replace hnb:=hnb.later hSt)
     (try replace Rd:=Hid.mk (Rd.out.later hSt))
     (try replace Rp:=Hid.mk (Rp.out.later hSt))
     have Ro:=Hid.mk hv
     obtain ⟨lo,rfl⟩:=ζF.lw hv
     refine HKK.out _ _ (fun _=>HK.out _ hBw) ?_
     clear HKK K hSt
     (try simp only [Act.put]))
   |(refine ξa.go 11 fun K HKK=> ?_
     go_wp2_with fail
     refine (ξv (.agg v4.cells.toArray) _ 21 1500 v4.x.m v4.y.m v4.z.m a _ (by decide) (by decide) (HV4.out _ hBw) (HNM.out _ (HW1.out.trans (hBw.mono HW1.out.size)))).mono ?_
     rintro o uW ⟨vV,rfl,hv,hSt⟩
     replace hBw:=hBw.trans (hSt.mono hBw.size)
     (try replace hcb:=hcb.later hSt)
     (try replace hnb:=hnb.later hSt)
     (try replace Ro:=Hid.mk (Ro.out.later hSt))
     (try replace Rp:=Hid.mk (Rp.out.later hSt))
     have Rd:=Hid.mk hv
     obtain ⟨ld,rfl⟩:=ζF.lw hv
     refine HKK.out _ _ (fun _=>HK.out _ hBw) ?_
     clear HKK K hSt
     (try simp only [Act.put]))
   |(refine ξa.go 12 fun K HKK=> ?_
     go_wp2_with fail
     refine (σX (.agg lo.cells.toArray) (.agg ld.cells.toArray) 1522 1522 _ _ _ _ _ _ _ (by decide) (by decide) Ro.out Rd.out).mono ?_
     rintro o uW ⟨vV,rfl,hv,hSt⟩
     replace hBw:=hBw.trans (hSt.mono hBw.size)
     (try replace hcb:=hcb.later hSt)
     (try replace hnb:=hnb.later hSt)
     (try replace Ro:=Hid.mk (Ro.out.later hSt))
     (try replace Rd:=Hid.mk (Rd.out.later hSt))
     have Rp:=Hid.mk hv
     obtain ⟨lp,rfl⟩:=ζF.lw hv
     refine HKK.out _ _ (fun _=>HK.out _ hBw) ?_
     clear HKK K hSt
     (try simp only [Act.put]))
   |(refine ξa.go 13 fun K HKK=> ?_
     go_wp2_with fail
     obtain ⟨uW,hu,hSt,hcb,hnb,hBw,hPb,_⟩:=ξC hBw #[false,(),false,(),false,()] 128 rfl
     (try replace Ro:=Hid.mk (Ro.out.later hSt))
     (try replace Rd:=Hid.mk (Rd.out.later hSt))
     (try replace Rp:=Hid.mk (Rp.out.later hSt))
     refine HKK.out _ _ (fun _=>by rw [hu];exact HK.out _ hBw) ?_
     rw [hu]
     clear HKK K hu hSt
     (try simp only [Act.put]))
  all_goals
   refine ⟨ζb.on 14 fun K HKK=> ?_⟩
   refine wp_store_mid 128 (.tmp 10) (.tmp 40) rfl _ 0 lp.cells.toArray rfl rfl (hcb.there 0 6 (by simp)) (by kernel_rfl) lp.one ?_
   refine HKK.out _ _ (fun h=>absurd rfl h) ?_
   clear HKK K
   refine ζb.done (by kernel_rfl) ?_
   rw [show∀W b i,World.setCells W b i (Array.toList lp.cells.toArray)=setAll W b i lp.cells from fun W b i=>ζg _ _ _ _]
   go_wp2_with fail
   go_meet
   case rel=>exact ⟨_,lp,rfl,NwV.fin hcb rfl hnb lp.ni Rp.out hBw hPb⟩
 case rest=>
 clear HK
 obtain ⟨PP,lp,rfl,HNp⟩:=hcut
 obtain ⟨w2,hw2⟩: ∃V,V=wc:=⟨_,rfl⟩
 rw [<-hw2] at HNp⊢
 clear hw2 wc
 have HB2:=Hid.mk HNp.out.bel
 have HW2:Hid (Below w.heap.size w w2):=HW1.out.trans (HB2.out.mono HW1.out.size)
 go_wp2_with fail
 have HK:Hid (∀w',Below w2.heap.size w2 w'->(fun w'=>(w'.rangeAt b 0 v0.cells∧w'.rangeAt b 6 v1.cells∧w'.rangeAt b 12 v2.cells∧w'.rangeAt b 18 v3.cells∧w'.rangeAt b 24 v4.cells∧w'.rangeAt b 30 v5.cells)∧Cs w' (w.heap.size+1+1) [gn,.slice an zn.length cn,gd,.slice ad zd.length cd,false]∧Cs w' PP lp.cells) w'):=fun w' q=>⟨HR.out w' (HB2.out.trans (q.mono HB2.out.size)),HF1.out.h.later (HB2.out.trans (q.mono HB2.out.size)),HNp.out.c.later q⟩
 go_cut [11] from 28 (fun s11 wx=> ∃(PT:Nat) (lt:LW),s11= .pointer (some ⟨PT,0,none⟩)∧Hid (NwV w2 PT lt.cells 4568 (v5.x.m*b'-(v3.x.m*b'+v4.x.m*a)) (v5.y.m*b'-(v3.y.m*b'+v4.y.m*a)) (v5.z.m*b'-(v3.z.m*b'+v4.z.m*a)) wx))
 case first=>
  refine ζb.rg HK 9 fun WD hBd hS=> ?_
  refine ζb.pu 0 41 (.slice (some ⟨b,0,none⟩) 6 c) hS ?_
  simp only [sT,sS,sZ]
  refine ζb.pu 1 42 (.pointer (some ⟨b,30,none⟩)) hS ?_
  simp only [sT,sS,sZ]
  refine ζb.ld 2 43 128 42 (b) 30 v5.cells (fun w' h=>h.1.2.2.2.2.2) underlying128 hS ?_
  simp only [sT,sS,sZ]
  refine ζb.pu 3 44 (.pointer (some ⟨w.heap.size+1+1,2,none⟩)) hS ?_
  simp only [sT,sS,sZ]
  refine ζb.ld 4 45 72 44 (w.heap.size+1+1) 2 [gd,.slice ad zd.length cd] (fun w' h=>(h.2.1).range 2 2) underlying72 hS ?_
  simp only [sT,sS,sZ]
  refine ζb.ld 6 47 128 10 (PP) 0 lp.cells (fun w' h=>h.2.2.range 0 6) underlying128 hS ?_
  simp only [sT,sS,sZ]
  refine ζ0.begin [5,7] [8] ?_
  have hBw:=hBd
  clear hBd
  repeat' first
   |refine ζ0.cb (by kernel_rfl) rfl rfl rfl rfl ?_ ?_
   |refine ζ0.c (by kernel_rfl) rfl rfl ?_
   |refine ζ0.b (by kernel_rfl) rfl rfl ?_
   |(refine ξa.go 5 fun K HKK=> ?_
     go_wp2_with fail
     refine (ξv (.agg v5.cells.toArray) _ 21 1500 v5.x.m v5.y.m v5.z.m b' _ (by decide) (by decide) (HV5.out _ (HB2.out.trans (hBw.mono HB2.out.size))) (HDM.out _ (HW2.out.trans (hBw.mono HW2.out.size)))).mono ?_
     rintro o uW ⟨vV,rfl,hv,hSt⟩
     replace hBw:=hBw.trans (hSt.mono hBw.size)
     (try replace hcb:=hcb.later hSt)
     (try replace hnb:=hnb.later hSt)
     (try replace Rt:=Hid.mk (Rt.out.later hSt))
     have Rq:=Hid.mk hv
     obtain ⟨lq,rfl⟩:=ζF.lw hv
     refine HKK.out _ _ (fun _=>HK.out _ hBw) ?_
     clear HKK K hSt
     (try simp only [Act.put]))
   |(refine ξa.go 7 fun K HKK=> ?_
     go_wp2_with fail
     refine (ψx (.agg lq.cells.toArray) (.agg lp.cells.toArray) 1522 3045 _ _ _ _ _ _ _ (by decide) (by decide) Rq.out (HNp.out.v.later hBw)).mono ?_
     rintro o uW ⟨vV,rfl,hv,hSt⟩
     replace hBw:=hBw.trans (hSt.mono hBw.size)
     (try replace hcb:=hcb.later hSt)
     (try replace hnb:=hnb.later hSt)
     (try replace Rq:=Hid.mk (Rq.out.later hSt))
     have Rt:=Hid.mk hv
     obtain ⟨lt,rfl⟩:=ζF.lw hv
     refine HKK.out _ _ (fun _=>HK.out _ hBw) ?_
     clear HKK K hSt
     (try simp only [Act.put]))
   |(refine ξa.go 8 fun K HKK=> ?_
     go_wp2_with fail
     obtain ⟨uW,hu,hSt,hcb,hnb,hBw,hPb,_⟩:=ξC hBw #[false,(),false,(),false,()] 128 rfl
     (try replace Rq:=Hid.mk (Rq.out.later hSt))
     (try replace Rt:=Hid.mk (Rt.out.later hSt))
     refine HKK.out _ _ (fun _=>by rw [hu];exact HK.out _ hBw) ?_
     rw [hu]
     clear HKK K hu hSt
     (try simp only [Act.put]))
  all_goals
   refine ⟨ζb.on 9 fun K HKK=> ?_⟩
   refine wp_store_mid 128 (.tmp 11) (.tmp 48) rfl _ 0 lt.cells.toArray rfl rfl (hcb.there 0 6 (by simp)) (by kernel_rfl) lt.one ?_
   refine HKK.out _ _ (fun h=>absurd rfl h) ?_
   clear HKK K
   refine ζb.done (by kernel_rfl) ?_
   rw [show∀W b i,World.setCells W b i (Array.toList lt.cells.toArray)=setAll W b i lt.cells from fun W b i=>ζg _ _ _ _]
   go_wp2_with fail
   go_meet
   case rel=>exact ⟨_,lt,rfl,NwV.fin hcb rfl hnb lt.ni Rt.out hBw hPb⟩
 case rest=>
 clear HK
 obtain ⟨PT,lt,rfl,HNt⟩:=hcut
 obtain ⟨w3,hw3⟩: ∃V,V=wc:=⟨_,rfl⟩
 rw [<-hw3] at HNt⊢
 clear hw3 wc
 have HB3:=Hid.mk HNt.out.bel
 have HW3:Hid (Below w.heap.size w w3):=HW2.out.trans (HB3.out.mono HW2.out.size)
 have HY:Hid ((V3.sc b' v5.v).sub (pnt v3.v v4.v a b')=⟨(v5.x.m*b'-(v3.x.m*b'+v4.x.m*a)),(v5.y.m*b'-(v3.y.m*b'+v4.y.m*a)),(v5.z.m*b'-(v3.z.m*b'+v4.z.m*a))⟩):=by
  unfold Hid
  simp only [V3.sc,V3.sub,pnt,LW.v,Int.mul_comm b']
 have HS:Hid (∀i,V3.sc b' (LW.v i)=⟨i.x.m*b',i.y.m*b',i.z.m*b'⟩):=by
  intro i
  simp only [V3.sc,LW.v,Int.mul_comm b']
 have HDK:Hid ((φG (pv t0 t1 t2) (pv t3 t4 t5) (pv t6 t7 t8) (pv s0 s1 s2) (pv s3 s4 s5) (pv l0 l1 l2)) a b'↔ ¬((v5.x.m*b'-(v3.x.m*b'+v4.x.m*a))=0∧(v5.y.m*b'-(v3.y.m*b'+v4.y.m*a))=0∧(v5.z.m*b'-(v3.z.m*b'+v4.z.m*a))=0)∧φy (φm (fun p q=>0<=p∧p<=q) ⟨v0.x.m*b',v0.y.m*b',v0.z.m*b'⟩ ⟨v1.x.m*b',v1.y.m*b',v1.z.m*b'⟩ ⟨v2.x.m*b',v2.y.m*b',v2.z.m*b'⟩ ⟨(v3.x.m*b'+v4.x.m*a),(v3.y.m*b'+v4.y.m*a),(v3.z.m*b'+v4.z.m*a)⟩ ⟨(v5.x.m*b'-(v3.x.m*b'+v4.x.m*a)),(v5.y.m*b'-(v3.y.m*b'+v4.y.m*a)),(v5.z.m*b'-(v3.z.m*b'+v4.z.m*a))⟩)):=by
  refine HM.out.trans ?_
  unfold φG
  rw [HY.out,HS.out,HS.out,HS.out,φy.congr fun p q h0 h1=>(Iff.intro (fun h=>(χu _ _ _ _ _ p q).mpr ⟨Int.le_of_lt h1,h⟩) (fun h=>((χu _ _ _ _ _ p q).mp h).2):ζs _ _ _ _ _ p q↔φm (fun p q=>0<=p∧p<=q) _ _ _ _ _ p q)]
  exact Iff.rfl
 have mt:=HNt.out.c.range 0 6
 clear HY HS HM
 go_wp2_with (refine wpList_load_mid rfl 128 (.tmp 11) rfl PT 0 rfl lt.cells _ mt underlying128 rfl (by kernel_rfl) ?_)
 refine (χp (.agg lt.cells.toArray) 4568 (v5.x.m*b'-(v3.x.m*b'+v4.x.m*a)) (v5.y.m*b'-(v3.y.m*b'+v4.y.m*a)) (v5.z.m*b'-(v3.z.m*b'+v4.z.m*a)) _ HNt.out.v).mono ?_
 rintro o w4 ⟨rfl,hb4⟩
 have HB34:=Hid.mk hb4
 have HW4:Hid (Below w.heap.size w w4):=HW3.out.trans (hb4.mono HW3.out.size)
 clear hb4 mt
 by_cases hz:(v5.x.m*b'-(v3.x.m*b'+v4.x.m*a))=0∧(v5.y.m*b'-(v3.y.m*b'+v4.y.m*a))=0∧(v5.z.m*b'-(v3.z.m*b'+v4.z.m*a))=0
 ·rw [decide_eq_true hz]
  have HZ:=Hid.mk hz
  clear hz
  go_wp2
  refine bodyPost_ret (v:= .bool false) (by simp [results,results58,go_sem]) rfl ?_
  exact ⟨false,rfl,⟨fun h=>(by cases h),fun h=>absurd HZ.out (HDK.out.mp h).1⟩,HW4.out⟩
 rw [decide_eq_false hz]
 have HZ:=Hid.mk hz
 clear hz
 go_wp2_with fail
 refine (ψ7 1 _ (by decide) (by decide)).mono ?_
 rintro o w5 ⟨a5,c5,z5,rfl,l5,L5,_,hb5⟩
 have M5:Hid (MIs w5 (.agg #[false,.slice a5 z5.length c5]) 301600 1):=⟨false,a5,c5,z5,rfl,L5,by omega,trivial⟩
 have B45:=Hid.mk hb5
 clear l5 L5 hb5
 go_wp2_with fail
 obtain ⟨V5,hV5⟩: ∃V,V=w5.alloc (.cells #[false,(),false,.slice a5 z5.length c5,false] 74):=⟨_,rfl⟩
 rw [<-hV5]
 have B5:Hid (Below w5.heap.size w5 V5):=by unfold Hid;rw [hV5];exact ζc _ _
 have C5:Hid (Cs V5 w5.heap.size [false,(),false,.slice a5 z5.length c5,false]):=by unfold Hid;rw [hV5];exact Cs.new _ _ _
 clear hV5
 refine (ψ7 1 _ (by decide) (by decide)).mono ?_
 rintro o w6 ⟨a6,c6,z6,rfl,l6,L6,_,hb6⟩
 have M6:Hid (MIs w6 (.agg #[false,.slice a6 z6.length c6]) 301600 1):=⟨false,a6,c6,z6,rfl,L6,by omega,trivial⟩
 have B6:=Hid.mk hb6
 clear l6 L6 hb6
 go_wp2_with fail
 refine (ψ7 1 _ (by decide) (by decide)).mono ?_
 rintro o w7 ⟨a7,c7,z7,rfl,l7,L7,_,hb7⟩
 have M7:Hid (MIs w7 (.agg #[false,.slice a7 z7.length c7]) 301600 1):=⟨false,a7,c7,z7,rfl,L7,by omega,trivial⟩
 have B7:=Hid.mk hb7
 clear l7 L7 hb7
 go_wp2_with fail
 obtain ⟨w8,hw8⟩: ∃V,V=w7.alloc (.cells #[false,.slice a6 z6.length c6,false,.slice a7 z7.length c7,false] 74):=⟨_,rfl⟩
 rw [<-hw8]
 have B8:Hid (Below w7.heap.size w7 w8):=by unfold Hid;rw [hw8];exact ζc _ _
 have O8:Hid (Cs w8 w7.heap.size [false,.slice a6 z6.length c6,false,.slice a7 z7.length c7,false]):=by unfold Hid;rw [hw8];exact Cs.new _ _ _
 clear hw8
 have B68:Hid (Below w6.heap.size w6 w8):=B7.out.trans (B8.out.mono B7.out.size)
 have BV8:Hid (Below V5.heap.size V5 w8):=B6.out.trans (B68.out.mono B6.out.size)
 have B58:Hid (Below w5.heap.size w5 w8):=B5.out.trans (BV8.out.mono B5.out.size)
 have B48:Hid (Below w4.heap.size w4 w8):=B45.out.trans (B58.out.mono B45.out.size)
 have B38:Hid (Below w3.heap.size w3 w8):=HB34.out.trans (B48.out.mono HB34.out.size)
 have B28:Hid (Below w2.heap.size w2 w8):=HB3.out.trans (B38.out.mono HB3.out.size)
 have H18:Hid (Below w1.heap.size w1 w8):=HB2.out.trans (B28.out.mono HB2.out.size)
 have HW8:Hid (Below w.heap.size w w8):=HW1.out.trans (H18.out.mono HW1.out.size)
 have HZF:Hid (FrM w8 (.agg #[false,(),false,.slice a5 z5.length c5,false]) 301600 0 1):=⟨false,none,0,[],false,a5,c5,z5,rfl,MIs.zero _ _,M5.out.later B58.out⟩
 have HOF:Hid (FrM w8 (.agg #[false,.slice a6 z6.length c6,false,.slice a7 z7.length c7,false]) 301600 1 1):=⟨false,a6,c6,z6,false,a7,c7,z7,rfl,M6.out.later B68.out,M7.out.later B8.out⟩
 have HS8:Hid (SpO w8 (.agg #[false,(),false,.slice a5 z5.length c5,false,false,.slice a6 z6.length c6,false,.slice a7 z7.length c7,false,false]) 301600 (fun p q=>0<=p∧p<=q)):= .inl ⟨0,1,1,1,⟨false,none,0,[],false,a5,c5,z5,false,a6,c6,z6,false,a7,c7,z7,false,rfl,MIs.zero _ _,M5.out.later B58.out,.inl ⟨rfl,by decide,M6.out.later B68.out,M7.out.later B8.out⟩⟩,τn⟩
 have HP8:=Hid.mk (HNp.out.v.later B28.out)
 have HT8:=Hid.mk (HNt.out.v.later B38.out)
 have HK:Hid (∀w',Below w8.heap.size w8 w'->(fun w'=>(w'.rangeAt b 0 v0.cells∧w'.rangeAt b 6 v1.cells∧w'.rangeAt b 12 v2.cells∧w'.rangeAt b 18 v3.cells∧w'.rangeAt b 24 v4.cells∧w'.rangeAt b 30 v5.cells)∧Cs w' (w.heap.size+1+1) [gn,.slice an zn.length cn,gd,.slice ad zd.length cd,false]∧Cs w' PP lp.cells∧Cs w' PT lt.cells∧Cs w' w5.heap.size [false,(),false,.slice a5 z5.length c5,false]∧Cs w' w7.heap.size [false,.slice a6 z6.length c6,false,.slice a7 z7.length c7,false]) w'):=fun w' q=>⟨HR.out w' (H18.out.trans (q.mono H18.out.size)),HF1.out.h.later (H18.out.trans (q.mono H18.out.size)),(HNp.out.c.later B28.out).later q,(HNt.out.c.later B38.out).later q,(C5.out.later BV8.out).later q,O8.out.later q⟩
 clear HNp HNt HB2 HB3 HB34 B45 B5 B6 B7 B8 B68 BV8 B58 B48 B38 B28 M5 M6 M7 C5 O8 HR HF1 HW1 HW2 HW3 HW4 HNM
 go_cut [14] from 57 (fun s14 wx=> ∃(PS:Nat) (sx:SW),s14= .pointer (some ⟨PS,0,none⟩)∧Hid (NwS w8 PS sx.cells 301600 (φm (fun p q=>0<=p∧p<=q) ⟨v0.x.m*b',v0.y.m*b',v0.z.m*b'⟩ ⟨v1.x.m*b',v1.y.m*b',v1.z.m*b'⟩ ⟨v2.x.m*b',v2.y.m*b',v2.z.m*b'⟩ ⟨(v3.x.m*b'+v4.x.m*a),(v3.y.m*b'+v4.y.m*a),(v3.z.m*b'+v4.z.m*a)⟩ ⟨(v5.x.m*b'-(v3.x.m*b'+v4.x.m*a)),(v5.y.m*b'-(v3.y.m*b'+v4.y.m*a)),(v5.z.m*b'-(v3.z.m*b'+v4.z.m*a))⟩) wx))
 case first=>
  refine ζb.rg HK 25 fun WD hBd hS=> ?_
  refine ζb.ld 0 57 74 12 (w5.heap.size) 0 [false,(),false,.slice a5 z5.length c5,false] (fun w' h=>(h.2.2.2.2.1).range 0 5) underlying74 hS ?_
  simp only [sT,sS,sZ]
  refine ζb.ld 1 58 74 13 (w7.heap.size) 0 [false,.slice a6 z6.length c6,false,.slice a7 z7.length c7,false] (fun w' h=>(h.2.2.2.2.2).range 0 5) underlying74 hS ?_
  simp only [sT,sS,sZ]
  refine ζb.pk 2 59 (.agg #[false,(),false,.slice a5 z5.length c5,false,false,.slice a6 z6.length c6,false,.slice a7 z7.length c7,false,false]) hS ?_
  simp only [sT,sS,sZ]
  refine ζb.pu 3 60 (.slice (some ⟨b,0,none⟩) 6 c) hS ?_
  simp only [sT,sS,sZ]
  refine ζb.pu 4 61 (.pointer (some ⟨b,0,none⟩)) hS ?_
  simp only [sT,sS,sZ]
  refine ζb.ld 5 62 128 61 (b) 0 v0.cells (fun w' h=>h.1.1) underlying128 hS ?_
  simp only [sT,sS,sZ]
  refine ζb.pu 6 63 (.pointer (some ⟨w.heap.size+1+1,2,none⟩)) hS ?_
  simp only [sT,sS,sZ]
  refine ζb.ld 7 64 72 63 (w.heap.size+1+1) 2 [gd,.slice ad zd.length cd] (fun w' h=>(h.2.1).range 2 2) underlying72 hS ?_
  simp only [sT,sS,sZ]
  refine ζb.pu 9 66 (.slice (some ⟨b,0,none⟩) 6 c) hS ?_
  simp only [sT,sS,sZ]
  refine ζb.pu 10 67 (.pointer (some ⟨b,6,none⟩)) hS ?_
  simp only [sT,sS,sZ]
  refine ζb.ld 11 68 128 67 (b) 6 v1.cells (fun w' h=>h.1.2.1) underlying128 hS ?_
  simp only [sT,sS,sZ]
  refine ζb.pu 12 69 (.pointer (some ⟨w.heap.size+1+1,2,none⟩)) hS ?_
  simp only [sT,sS,sZ]
  refine ζb.ld 13 70 72 69 (w.heap.size+1+1) 2 [gd,.slice ad zd.length cd] (fun w' h=>(h.2.1).range 2 2) underlying72 hS ?_
  simp only [sT,sS,sZ]
  refine ζb.pu 15 72 (.slice (some ⟨b,0,none⟩) 6 c) hS ?_
  simp only [sT,sS,sZ]
  refine ζb.pu 16 73 (.pointer (some ⟨b,12,none⟩)) hS ?_
  simp only [sT,sS,sZ]
  refine ζb.ld 17 74 128 73 (b) 12 v2.cells (fun w' h=>h.1.2.2.1) underlying128 hS ?_
  simp only [sT,sS,sZ]
  refine ζb.pu 18 75 (.pointer (some ⟨w.heap.size+1+1,2,none⟩)) hS ?_
  simp only [sT,sS,sZ]
  refine ζb.ld 19 76 72 75 (w.heap.size+1+1) 2 [gd,.slice ad zd.length cd] (fun w' h=>(h.2.1).range 2 2) underlying72 hS ?_
  simp only [sT,sS,sZ]
  refine ζb.ld 21 78 128 10 (PP) 0 lp.cells (fun w' h=>h.2.2.1.range 0 6) underlying128 hS ?_
  simp only [sT,sS,sZ]
  refine ζb.ld 22 79 128 11 (PT) 0 lt.cells (fun w' h=>h.2.2.2.1.range 0 6) underlying128 hS ?_
  simp only [sT,sS,sZ]
  refine ζ0.begin [8,14,20,23] [24] ?_
  have hBw:=hBd
  clear hBd
  repeat' first
   |refine ζ0.cb (by kernel_rfl) rfl rfl rfl rfl ?_ ?_
   |refine ζ0.c (by kernel_rfl) rfl rfl ?_
   |refine ζ0.b (by kernel_rfl) rfl rfl ?_
   |(refine ξa.go 8 fun K HKK=> ?_
     go_wp2_with fail
     refine (ξv (.agg v0.cells.toArray) _ 21 1500 v0.x.m v0.y.m v0.z.m b' _ (by decide) (by decide) (HV0.out _ (H18.out.trans (hBw.mono H18.out.size))) (HDM.out _ (HW8.out.trans (hBw.mono HW8.out.size)))).mono ?_
     rintro o uW ⟨vV,rfl,hv,hSt⟩
     replace hBw:=hBw.trans (hSt.mono hBw.size)
     (try replace hcb:=hcb.later hSt)
     (try replace hnb:=hnb.later hSt)
     (try replace Rf:=Hid.mk (Rf.out.later hSt))
     (try replace Rg:=Hid.mk (Rg.out.later hSt))
     (try replace Rx:=Hid.mk (Rx.out.later hSt))
     have Re:=Hid.mk hv
     obtain ⟨le,rfl⟩:=ζF.lw hv
     refine HKK.out _ _ (fun _=>HK.out _ hBw) ?_
     clear HKK K hSt
     (try simp only [Act.put]))
   |(refine ξa.go 14 fun K HKK=> ?_
     go_wp2_with fail
     refine (ξv (.agg v1.cells.toArray) _ 21 1500 v1.x.m v1.y.m v1.z.m b' _ (by decide) (by decide) (HV1.out _ (H18.out.trans (hBw.mono H18.out.size))) (HDM.out _ (HW8.out.trans (hBw.mono HW8.out.size)))).mono ?_
     rintro o uW ⟨vV,rfl,hv,hSt⟩
     replace hBw:=hBw.trans (hSt.mono hBw.size)
     (try replace hcb:=hcb.later hSt)
     (try replace hnb:=hnb.later hSt)
     (try replace Re:=Hid.mk (Re.out.later hSt))
     (try replace Rg:=Hid.mk (Rg.out.later hSt))
     (try replace Rx:=Hid.mk (Rx.out.later hSt))
     have Rf:=Hid.mk hv
     obtain ⟨lf,rfl⟩:=ζF.lw hv
     refine HKK.out _ _ (fun _=>HK.out _ hBw) ?_
     clear HKK K hSt
     (try simp only [Act.put]))
   |(refine ξa.go 20 fun K HKK=> ?_
     go_wp2_with fail
     refine (ξv (.agg v2.cells.toArray) _ 21 1500 v2.x.m v2.y.m v2.z.m b' _ (by decide) (by decide) (HV2.out _ (H18.out.trans (hBw.mono H18.out.size))) (HDM.out _ (HW8.out.trans (hBw.mono HW8.out.size)))).mono ?_
     rintro o uW ⟨vV,rfl,hv,hSt⟩
     replace hBw:=hBw.trans (hSt.mono hBw.size)
     (try replace hcb:=hcb.later hSt)
     (try replace hnb:=hnb.later hSt)
     (try replace Re:=Hid.mk (Re.out.later hSt))
     (try replace Rf:=Hid.mk (Rf.out.later hSt))
     (try replace Rx:=Hid.mk (Rx.out.later hSt))
     have Rg:=Hid.mk hv
     obtain ⟨lg,rfl⟩:=ζF.lw hv
     refine HKK.out _ _ (fun _=>HK.out _ hBw) ?_
     clear HKK K hSt
     (try simp only [Act.put]))
   |(refine ξa.go 23 fun K HKK=> ?_
     go_wp2_with fail
     refine (θo (fun p q=>0<=p∧p<=q) _ (.agg le.cells.toArray) (.agg lf.cells.toArray) (.agg lg.cells.toArray) (.agg lp.cells.toArray) (.agg lt.cells.toArray) 4568 301600 ⟨v0.x.m*b',v0.y.m*b',v0.z.m*b'⟩ ⟨v1.x.m*b',v1.y.m*b',v1.z.m*b'⟩ ⟨v2.x.m*b',v2.y.m*b',v2.z.m*b'⟩ ⟨(v3.x.m*b'+v4.x.m*a),(v3.y.m*b'+v4.y.m*a),(v3.z.m*b'+v4.z.m*a)⟩ ⟨(v5.x.m*b'-(v3.x.m*b'+v4.x.m*a)),(v5.y.m*b'-(v3.y.m*b'+v4.y.m*a)),(v5.z.m*b'-(v3.z.m*b'+v4.z.m*a))⟩ _ (by decide) (by decide) (HS8.out.later hBw) (Re.out.up (by decide)) (Rf.out.up (by decide)) (Rg.out.up (by decide)) ((HP8.out.later hBw).up (by decide)) (HT8.out.later hBw)).mono ?_
     rintro o uW ⟨vV,rfl,hv,hSt⟩
     replace hBw:=hBw.trans (hSt.mono hBw.size)
     (try replace hcb:=hcb.later hSt)
     (try replace hnb:=hnb.later hSt)
     (try replace Re:=Hid.mk (Re.out.later hSt))
     (try replace Rf:=Hid.mk (Rf.out.later hSt))
     (try replace Rg:=Hid.mk (Rg.out.later hSt))
     have Rx:=Hid.mk hv
     obtain ⟨sx,rfl⟩:=SpO.sw hv
     refine HKK.out _ _ (fun _=>HK.out _ hBw) ?_
     clear HKK K hSt
     (try simp only [Act.put]))
   |(refine ξa.go 24 fun K HKK=> ?_
     go_wp2_with fail
     obtain ⟨uW,hu,hSt,hcb,hnb,hBw,hPb,_⟩:=ξC hBw #[false,(),false,(),false,false,(),false,(),false,false] 124 rfl
     (try replace Re:=Hid.mk (Re.out.later hSt))
     (try replace Rf:=Hid.mk (Rf.out.later hSt))
     (try replace Rg:=Hid.mk (Rg.out.later hSt))
     (try replace Rx:=Hid.mk (Rx.out.later hSt))
     refine HKK.out _ _ (fun _=>by rw [hu];exact HK.out _ hBw) ?_
     rw [hu]
     clear HKK K hu hSt
     (try simp only [Act.put]))
  all_goals
   refine ⟨ζb.on 25 fun K HKK=> ?_⟩
   refine wp_store_mid 124 (.tmp 14) (.tmp 80) rfl (_) 0 sx.cells.toArray rfl rfl (hcb.there 0 11 (by simp)) (by kernel_rfl) (SW.one _) ?_
   refine HKK.out _ _ (fun h=>absurd rfl h) ?_
   clear HKK K
   refine ζb.done (by kernel_rfl) ?_
   rw [show∀W b i,World.setCells W b i (Array.toList sx.cells.toArray)=setAll W b i sx.cells from fun W b i=>ζg _ _ _ _]
   go_wp2_with fail
   go_meet
   case rel=>exact ⟨_,sx,rfl,NwS.fin hcb rfl hnb (SW.ni _) Rx.out hBw hPb⟩
 case rest=>
 obtain ⟨PS,sx,rfl,HN⟩:=hcut
 obtain ⟨w9,hw9⟩: ∃V,V=wc:=⟨_,rfl⟩
 rw [<-hw9] at HN⊢
 clear hw9 wc
 have HB9:Hid (Below w.heap.size w w9):=HW8.out.trans (HN.out.bel.mono HW8.out.size)
 have HC9:=Hid.mk HN.out.c
 have HZ9:=Hid.mk (HK.out _ HN.out.bel).2.2.2.2.1
 have HO9:=Hid.mk (HK.out _ HN.out.bel).2.2.2.2.2
 have HZF9:=Hid.mk (HZF.out.later HN.out.bel)
 have HOF9:=Hid.mk (HOF.out.later HN.out.bel)
 have HS9:=HN.out.s
 clear HN HK HZF HOF HW8 H18 HP8 HT8 HS8 HDM HV0 HV1 HV2 HV3 HV4 HV5
 obtain ⟨g1x,a1x,k1x,c1x,g2x,a2x,k2x,c2x,t1x,g3x,a3x,k3x,c3x,g4x,a4x,k4x,c4x,t2x,t3x⟩:=sx
 rcases HS9 with ⟨al,be,ga,de,h1,h2⟩| ⟨h1,h2⟩
 case inr=>
  have HNo:=Hid.mk h2
  unfold ψn at h1
  simp only [SW.cells,Value.agg.injEq,Array.mk.injEq,List.cons.injEq,Value.bool.injEq,Value.slice.injEq,and_true] at h1
  obtain ⟨rfl,⟨rfl,rfl,rfl⟩,rfl,⟨rfl,rfl,rfl⟩,rfl,rfl,⟨rfl,rfl,rfl⟩,rfl,⟨rfl,rfl,rfl⟩,rfl,rfl⟩:=h1
  clear h2
  have x10:=HC9.out.at 10 rfl
  go_wp2
  refine bodyPost_ret (v:= .bool false) (by simp [results,results58,go_sem]) rfl ?_
  refine ⟨false,rfl,⟨fun h=>(by cases h),fun h=> ?_⟩,HB9.out⟩
  obtain ⟨p,q,h0,h1,hp⟩:=(HDK.out.mp h).2
  exact absurd hp (HNo.out p q (by omega))
 case inl=>
  have HSp:=Hid.mk h2
  have hd:=h2.short fun p q h=>((χu _ _ _ _ _ p q).mp h).1
  obtain ⟨g1,a1,c1,z1,g2,a2,c2,z2,g3,a3,c3,z3,g4,a4,c4,z4,tt,he,m1,m2,m3⟩:=h1
  rcases m3 with ⟨rfl,_,m3,m4⟩|m3
  case inr=>exact absurd m3.2.1 hd
  simp only [SW.cells,Value.agg.injEq,Array.mk.injEq,List.cons.injEq,Value.bool.injEq,Value.slice.injEq,and_true] at he
  obtain ⟨rfl,⟨rfl,rfl,rfl⟩,rfl,⟨rfl,rfl,rfl⟩,rfl,rfl,⟨rfl,rfl,rfl⟩,rfl,⟨rfl,rfl,rfl⟩,rfl,rfl⟩:=he
  have HLo:Hid (FrM w9 (.agg #[g1x,.slice a1x z1.length c1x,g2x,.slice a2x z2.length c2x,false]) 301600 al be):=⟨_,_,_,_,_,_,_,_,rfl,m1,m2⟩
  have HHi:Hid (FrM w9 (.agg #[g3x,.slice a3x z3.length c3x,g4x,.slice a4x z4.length c4x,false]) 301600 ga de):=⟨_,_,_,_,_,_,_,_,rfl,m3,m4⟩
  clear h2 hd m1 m2 m3 m4
  obtain ⟨x0,x1,x2,x3,x4,x5,x6,x7,x8,x9,x10⟩:=HC9.out.c11
  obtain ⟨y0,y1,y2,y3,y4⟩:=HO9.out.c5
  go_wp2_with fail
  refine (φH _ _ 301600 al be 1 1 _ (by decide) HLo.out HOF9.out).mono ?_
  rintro o u1 ⟨rfl,hb1⟩
  obtain ⟨k1,hk1⟩: ∃k,k=sgn (al*1-1*be):=⟨_,rfl⟩
  have HK1:Hid (k1<0↔al<be):=by unfold Hid;rw [hk1,τG,Int.mul_one,Int.one_mul];omega
  rw [<-hk1]
  have HB:=Hid.mk (HB9.out.trans (hb1.mono HB9.out.size))
  by_cases hl:k1<0
  ·have HL:=Hid.mk (HK1.out.mp hl)
   have HCu:=Hid.mk (HC9.out.later hb1)
   have HZu:=Hid.mk (HZ9.out.later hb1)
   have HHu:=Hid.mk (HHi.out.later hb1)
   have HFu:=Hid.mk (HZF9.out.later hb1)
   clear hb1 hk1 HC9 HZ9 HO9 HHi HLo HZF9 HOF9 x0 x1 x2 x3 x4 x5 x6 x7 x8 x9 x10 y0 y1 y2 y3 y4
   obtain ⟨x0,x1,x2,x3,x4,x5,x6,x7,x8,x9,x10⟩:=HCu.out.c11
   obtain ⟨y0,y1,y2,y3,y4⟩:=HZu.out.c5
   go_wp2_with fail
   refine (φH _ _ 301600 ga de 0 1 _ (by decide) HHu.out HFu.out).mono ?_
   rintro o u2 ⟨rfl,hb2⟩
   obtain ⟨k2,hk2⟩: ∃k,k=sgn (ga*1-0*de):=⟨_,rfl⟩
   have HK2:Hid (0<k2↔0<ga):=by unfold Hid;rw [hk2,ν3,Int.mul_one,Int.zero_mul];omega
   rw [<-hk2]
   have HBB:=Hid.mk (HB.out.trans (hb2.mono HB.out.size))
   clear hb2 hk2 HCu HZu HHu HFu x0 x1 x2 x3 x4 x5 x6 x7 x8 x9 x10 y0 y1 y2 y3 y4
   go_wp2
   refine bodyPost_ret (v:= .bool (decide (0<k2))) (by simp [results,results58,go_sem]) rfl ?_
   refine ⟨_,rfl,?_,HBB.out⟩
   rw [decide_eq_true_eq,HK2.out,HDK.out,<-HSp.out.shade]
   exact ⟨fun h=>⟨HZ.out,h,HL.out⟩,fun h=>h.2.1⟩
  ·have HL:Hid (¬al<be):=fun h=>hl (HK1.out.mpr h)
   clear hb1 hk1 HC9 HZ9 HO9 HHi HLo HZF9 HOF9 x0 x1 x2 x3 x4 x5 x6 x7 x8 x9 x10 y0 y1 y2 y3 y4
   go_wp2
   refine bodyPost_ret (v:= .bool false) (by simp [results,results58,go_sem]) rfl ?_
   refine ⟨false,rfl,⟨fun h=>(by cases h),fun h=> ?_⟩,HB.out⟩
   have:=(HSp.out.shade.mpr (HDK.out.mp h).2).2
   have:=HL.out
   omega
end Go.Proofs.YtfieffpobgcpmaaGreatDoor
