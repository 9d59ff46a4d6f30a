import Derived.Test.YtfieffpobgcpmaaGreatDoorHdCHdDHdE
import Derived.Test.YtfieffpobgcpmaaGreatDoorWithinToImV
import Derived.Test.YtfieffpobgcpmaaGreatDoorSpecAGrowBigsSpecBSpecC
import Derived.Deep.CutRange
import Derived.Deep.RegionHeld3
import Derived.Test.YtfieffpobgcpmaaGreatDoorBaseOpenNum
import Derived.Deep.Strs
set_option maxRecDepth 100000
set_option maxHeartbeats 32000000
namespace Go.Proofs.YtfieffpobgcpmaaGreatDoor
open Go.RowKit
structure Lh0 (w:World) (T R:List Value) (W:World):Prop where
 t:Cs W w.heap.size T
 r:Cs W (w.heap.size+1) R
 bel:Below w.heap.size w W
theorem Lh0.later {w:World} {T R:List Value} {W W':World} (h:Lh0 w T R W) (hb:Below W.heap.size W W'):Lh0 w T R W':=
 ⟨h.t.later hb,h.r.later hb,h.bel.trans (hb.mono h.bel.size)⟩
theorem Lh0.start (w:World) (T R:Array Value) (s0 s1:TypeId):Lh0 w T.toList R.toList ((w.alloc (.cells T s0)).alloc (.cells R s1)):=by
 have h1:=Cs.new (w.alloc (.cells T s0)) R s1
 have e1:(w.alloc (.cells T s0)).heap.size=w.heap.size+1:=by simp
 rw [e1] at h1
 exact ⟨(Cs.new w T s0).later (bel0 _ _),h1,(bel0 _ _).trans ((bel0 _ _).mono (by simp<;>omega))⟩
theorem Cs.within {lo hi:Nat} {W W':World} {b:Nat} {us:List Value} (h:Cs W b us) (hw:Within lo hi W W') (hb:b<lo∨hi≤b):Cs W' b us:=
 ⟨by rw [hw.size];exact h.1,fun j=>(hw.frozen (p:=⟨b,j,none⟩) hb).trans (h.2.1 j),fun j u hj=>(hw.cell (p:=⟨b,0+j,none⟩) hb).trans (h.2.2 j u hj)⟩
theorem hitLaw (t0 t1 t2 t3 t4 t5 t6 t7 t8 s0 s1 s2 s3 s4 s5:Int) (w:World) (hT:Tab w) (hu:U32 [t0,t1,t2,t3,t4,t5,t6,t7,t8,s0,s1,s2,s3,s4,s5]):
 Calls Tryz.prog 3 #[.agg #[t0,t1,t2,t3,t4,t5,t6,t7,t8],.agg #[s0,s1,s2,s3,s4,s5]] w fun o w'=>o= .returned true∧Below w.heap.size w w':=by
 have HU:Hid (U32 [t0,t1,t2,t3,t4,t5,t6,t7,t8,s0,s1,s2,s3,s4,s5]):=hu
 have HTb:Hid (∀w',Below w.heap.size w w'→Tab w'):=fun w' hb=>hT.later hb
 have HI0:Hid (∀a b,Lh0 w [t0,t1,t2,t3,t4,t5,t6,t7,t8] [s0,s1,s2,s3,s4,s5] ((w.alloc (.cells #[t0,t1,t2,t3,t4,t5,t6,t7,t8] a)).alloc (.cells #[s0,s1,s2,s3,s4,s5] b))):=fun a b=>Lh0.start w _ _ a b
 clear hu hT
 go_enter Tryz.func3,Tryz.ntmps3
 go_wp2_with fail
 obtain ⟨W0,hW0⟩: ∃V,V=((w.alloc (.cells #[t0,t1,t2,t3,t4,t5,t6,t7,t8] 26)).alloc (.cells #[s0,s1,s2,s3,s4,s5] 28)):=⟨_,rfl⟩
 rw [←hW0]
 have HF0:Hid (Lh0 w [t0,t1,t2,t3,t4,t5,t6,t7,t8] [s0,s1,s2,s3,s4,s5] W0):=by unfold Hid;rw [hW0];exact HI0.out _ _
 clear hW0 HI0
 have HK:Hid (∀w',Below W0.heap.size W0 w'→(fun w'=>Lh0 w [t0,t1,t2,t3,t4,t5,t6,t7,t8] [s0,s1,s2,s3,s4,s5] w'∧Below W0.heap.size W0 w') w'):=fun w' hb=>⟨HF0.out.later hb,hb⟩
 go_cut [5,6,7] from 16 (fun sp sq sk wx=> ∃(P Q:Nat) (gm:Bool) (am:Option Addr) (cm:Nat) (zm:List Int) (gn:Bool) (an:Option Addr) (cn:Nat) (zn:List Int) (km:Int),sp= .pointer (some ⟨P,0,none⟩)∧sq= .pointer (some ⟨Q,0,none⟩)∧sk= .int .i64 km∧Hid (∀G Z G' Z' k',AnsC (okB t0 t1 t2 t3 t4 t5 t6 t7 t8 s0 s1 s2 s3 s4 s5) (Meets (pv t0 t1 t2) (pv t3 t4 t5) (pv t6 t7 t8) (pv s0 s1 s2) (pv s3 s4 s5)) G Z G' Z' k'→gm=G∧zm=Z∧gn=G'∧zn=Z'∧km=k')∧Hid (TwoB W0 P Q [gm,.slice am zm.length cm] [gn,.slice an zn.length cn] wx)∧Hid (RowAt .u32 wx am zm)∧Hid (RowAt .u32 wx an zn))
 case first=>
  refine AnyK.regionK HK 13 (by kernel_rfl) ?_
  obtain ⟨WD,hWD⟩: ∃V,V=W0.drew:=⟨_,rfl⟩
  rw [←hWD]
  have hBd:Below W0.heap.size W0 WD:=by rw [hWD];exact (Below.refl _ _).drew
  clear hWD
  have hS:=HK.out WD hBd
  refine AnyK.takeT (i:=0) (d:=17) rfl rfl (by kernel_rfl) (by kernel_rfl) (by kernel_rfl) (by kernel_rfl) rfl (fun _ _ _ h=>h) rfl (yieldsIf_load_mid rfl 26 (.tmp 2) rfl (w.heap.size) 0 rfl [t0,t1,t2,t3,t4,t5,t6,t7,t8] _ (fun w' h=>(h.1.t).range 0 9) Tryz.underlying26 rfl (by kernel_rfl)) hS ?_
  simp only [sT,sS,sZ]
  refine AnyK.takeT (i:=2) (d:=19) rfl rfl (by kernel_rfl) (by kernel_rfl) (by kernel_rfl) (by kernel_rfl) rfl (fun _ _ _ h=>h) rfl (yieldsIf_load_mid rfl 28 (.tmp 3) rfl (w.heap.size+1) 0 rfl [s0,s1,s2,s3,s4,s5] _ (fun w' h=>(h.1.r).range 0 6) Tryz.underlying28 rfl (by kernel_rfl)) hS ?_
  simp only [sT,sS,sZ]
  have hBw:=hBd
  have hz:Hid (W0.heap.size≤WD.heap.size):=hBd.size
  clear hBd
  refine AnyP.begin [1,3,4] [9,10] ?_
  repeat' first
   |refine AnyP.cbb (by kernel_rfl) rfl rfl rfl rfl rfl rfl ?_ ?_ ?_
   |refine AnyP.cb (by kernel_rfl) rfl rfl rfl rfl ?_ ?_
   |refine AnyP.bb (by kernel_rfl) rfl rfl rfl rfl ?_ ?_
   |refine AnyP.c (by kernel_rfl) rfl rfl ?_
   |refine AnyP.b (by kernel_rfl) rfl rfl ?_
   |(refine Turn.go 1 ?_
     intro K HKK
     go_wp2_with fail
     refine (toTri_any t0 t1 t2 t3 t4 t5 t6 t7 t8 _).mono ?_
     rintro o uW ⟨rfl,hSt⟩
     (try replace hcp:=hcp.later hSt)
     (try replace hnp:=hnp.later hSt)
     (try replace hcq:=hcq.later hSt)
     (try replace hnq:=hnq.later hSt)
     (try replace n1:=n1.later hSt)
     (try replace n2:=n2.later hSt)
     replace hBw:=hBw.trans (hSt.mono hBw.size)
     replace hz:=Hid.mk (And.intro hz.out hSt.size)
     refine HKK.out _ _ (fun _=>HK.out _ hBw) ?_
     clear HKK K hSt
     (try simp only [Act.put]))
   |(refine Turn.go 3 ?_
     intro K HKK
     go_wp2_with fail
     refine (toRay_any s0 s1 s2 s3 s4 s5 _).mono ?_
     rintro o uW ⟨rfl,hSt⟩
     (try replace hcp:=hcp.later hSt)
     (try replace hnp:=hnp.later hSt)
     (try replace hcq:=hcq.later hSt)
     (try replace hnq:=hnq.later hSt)
     (try replace n1:=n1.later hSt)
     (try replace n2:=n2.later hSt)
     replace hBw:=hBw.trans (hSt.mono hBw.size)
     replace hz:=Hid.mk (And.intro hz.out hSt.size)
     refine HKK.out _ _ (fun _=>HK.out _ hBw) ?_
     clear HKK K hSt
     (try simp only [Act.put]))
   |(refine Turn.go 4 ?_
     intro K HKK
     go_wp2_with fail
     refine (hitS_all t0 t1 t2 t3 t4 t5 t6 t7 t8 s0 s1 s2 s3 s4 s5 _ HU.out).mono ?_
     rintro o uW ⟨gm,am,cm,zm,gn,an,cn,zn,km,rfl,hA,n1,n2,hSt⟩
     (try replace hcp:=hcp.later hSt)
     (try replace hnp:=hnp.later hSt)
     (try replace hcq:=hcq.later hSt)
     (try replace hnq:=hnq.later hSt)
     replace hBw:=hBw.trans (hSt.mono hBw.size)
     replace hz:=Hid.mk (And.intro hz.out hSt.size)
     refine HKK.out _ _ (fun _=>HK.out _ hBw) ?_
     clear HKK K hSt
     (try simp only [Act.put])
     have hS:=HK.out _ hBw
     refine AnyP.takeT (i:=5) (d:=16) (v:= .tuple #[.agg #[gm,.slice am zm.length cm],.agg #[gn,.slice an zn.length cn],.int .i64 km]) rfl rfl (by kernel_rfl) (by kernel_rfl) (by kernel_rfl) (by kernel_rfl) rfl (fun _ _ _ h=>h) rfl (Or.inl ⟨rfl,fun w' _=>by go_simp⟩) hS ?_
     refine AnyP.takeT (i:=6) (d:=22) (v:= .agg #[gm,.slice am zm.length cm]) rfl rfl (by kernel_rfl) (by kernel_rfl) (by kernel_rfl) (by kernel_rfl) rfl (fun _ _ _ h=>h) rfl (Or.inl ⟨rfl,fun w' _=>by go_simp⟩) hS ?_
     refine AnyP.takeT (i:=7) (d:=23) (v:= .agg #[gn,.slice an zn.length cn]) rfl rfl (by kernel_rfl) (by kernel_rfl) (by kernel_rfl) (by kernel_rfl) rfl (fun _ _ _ h=>h) rfl (Or.inl ⟨rfl,fun w' _=>by go_simp⟩) hS ?_
     refine AnyP.takeT (i:=8) (d:=24) (v:= .int .i64 km) rfl rfl (by kernel_rfl) (by kernel_rfl) (by kernel_rfl) (by kernel_rfl) rfl (fun _ _ _ h=>h) rfl (Or.inl ⟨rfl,fun w' _=>by go_simp⟩) hS ?_
     simp only [sT,sS,sZ])
   |(refine Turn.go 9 ?_
     intro K HKK
     go_wp2_with fail
     obtain ⟨uW,hu,hSt,hcp',hnp',hBw,_,hy⟩:=boxAny hBw #[false,()] 31 rfl
     (try replace hcp:=hcp.later hSt)
     (try replace hnp:=hnp.later hSt)
     (try replace hcq:=hcq.later hSt)
     (try replace hnq:=hnq.later hSt)
     (try replace n1:=n1.later hSt)
     (try replace n2:=n2.later hSt)
     have hcp:=hcp'
     have hnp:=hnp'
     clear hcp' hnp'
     replace hz:=Hid.mk (And.intro hz.out hy.out)
     refine HKK.out _ _ (fun _=>by rw [hu];exact HK.out _ hBw) ?_
     rw [hu]
     clear HKK K hu hSt hy
     (try simp only [Act.put]))
   |(refine Turn.go 10 ?_
     intro K HKK
     go_wp2_with fail
     obtain ⟨uW,hu,hSt,hcq',hnq',hBw,_,hy⟩:=boxAny hBw #[false,()] 31 rfl
     (try replace hcp:=hcp.later hSt)
     (try replace hnp:=hnp.later hSt)
     (try replace hcq:=hcq.later hSt)
     (try replace hnq:=hnq.later hSt)
     (try replace n1:=n1.later hSt)
     (try replace n2:=n2.later hSt)
     have hcq:=hcq'
     have hnq:=hnq'
     clear hcq' hnq'
     replace hz:=Hid.mk (And.intro hz.out hy.out)
     refine HKK.out _ _ (fun _=>by rw [hu];exact HK.out _ hBw) ?_
     rw [hu]
     clear HKK K hu hSt hy
     (try simp only [Act.put]))
  all_goals
   have y:=hz.out
   have hne:=hcp.ne hcq (by omega)
   have hP:=hcp.ge W0 (by omega)
   have hQ:=hcq.ge W0 (by omega)
   clear y
   obtain ⟨X2,eX2,HTB,f1,f2,hsz⟩:=TwoB.all (us:=[↑gm,.slice am zm.length cm]) (vs:=[↑gn,.slice an zn.length cn]) hcp hcq hnp hnq hne rfl rfl (by simp [NotInt]) (by simp [NotInt]) hP hQ hBw
   replace hz:=Hid.mk (And.intro hz.out hsz)
   refine ⟨?_⟩
   refine AnyK.end2 (i:=11) (j:=12) (k:=13) (by kernel_rfl) (by kernel_rfl) (by kernel_rfl) (by kernel_rfl) rfl rfl rfl rfl rfl rfl rfl rfl rfl rfl rfl rfl rfl rfl rfl rfl rfl hcp hcq rfl rfl (by kernel_rfl) (by kernel_rfl) (all_oneCell_toArray (by simp [Value.oneCell'])) (all_oneCell_toArray (by simp [Value.oneCell'])) hne hP hQ hBw HK.out ?_
   simp only [sT,sS,sZ]
   rw [←eX2]
   clear eX2 hsz hne hP hQ
   go_wp2_with fail
   go_meet
   case rel=>exact ⟨_,_,gm,am,cm,zm,gn,an,cn,zn,km,rfl,rfl,rfl,hA,HTB,f2 _ _ n1,f2 _ _ n2⟩
 case rest=>
  clear HK
  obtain ⟨P5,P6,gm,am,cm,zm,gn,an,cn,zn,km,rfl,rfl,rfl,HUq,HT1,HRm,HRn⟩:=hcut
  obtain ⟨W1,hW1⟩: ∃V,V=wc:=⟨_,rfl⟩
  rw [←hW1] at HT1 HRm HRn⊢
  clear hW1
  have HF1:Hid (Lh0 w [t0,t1,t2,t3,t4,t5,t6,t7,t8] [s0,s1,s2,s3,s4,s5] W1):=HF0.out.later HT1.out.bel
  clear HF0
  have HK:Hid (∀w',Below W1.heap.size W1 w'→(fun w'=>Lh0 w [t0,t1,t2,t3,t4,t5,t6,t7,t8] [s0,s1,s2,s3,s4,s5] w'∧Below W1.heap.size W1 w') w'):=fun w' hb=>⟨HF1.out.later hb,hb⟩
  go_wp2_with fail
  go_cut [8,9,10] from 25 (fun sp sq sk wx=> ∃(P Q:Nat) (gi:Bool) (ai:Option Addr) (ci:Nat) (zi:List Int) (gj:Bool) (aj:Option Addr) (cj:Nat) (zj:List Int) (ki:Int) (lo KI hi:Nat),sp= .pointer (some ⟨P,0,none⟩)∧sq= .pointer (some ⟨Q,0,none⟩)∧sk= .int .i64 ki∧Hid (AnsC (okB t0 t1 t2 t3 t4 t5 t6 t7 t8 s0 s1 s2 s3 s4 s5) (Meets (pv t0 t1 t2) (pv t3 t4 t5) (pv t6 t7 t8) (pv s0 s1 s2) (pv s3 s4 s5)) gi zi gj zj ki∧zi.length≤100∧zj.length≤100)∧Hid (TwoB W1 P Q [gi,.slice ai zi.length ci] [gj,.slice aj zj.length cj] wx)∧Hid (RowIn .u32 wx lo KI ai zi)∧Hid (RowIn .u32 wx KI hi aj zj)∧Hid (W1.heap.size≤lo∧lo≤KI∧KI≤hi∧hi≤wx.heap.size∧(P<lo∨hi≤P)∧(Q<lo∨hi≤Q)))
  case first=>
   refine AnyK.regionK HK 13 (by kernel_rfl) ?_
   obtain ⟨WD,hWD⟩: ∃V,V=W1.drew:=⟨_,rfl⟩
   rw [←hWD]
   have hBd:Below W1.heap.size W1 WD:=by rw [hWD];exact (Below.refl _ _).drew
   clear hWD
   have hS:=HK.out WD hBd
   refine AnyK.takeT (i:=0) (d:=26) rfl rfl (by kernel_rfl) (by kernel_rfl) (by kernel_rfl) (by kernel_rfl) rfl (fun _ _ _ h=>h) rfl (yieldsIf_load_mid rfl 26 (.tmp 2) rfl (w.heap.size) 0 rfl [t0,t1,t2,t3,t4,t5,t6,t7,t8] _ (fun w' h=>(h.1.t).range 0 9) Tryz.underlying26 rfl (by kernel_rfl)) hS ?_
   simp only [sT,sS,sZ]
   refine AnyK.takeT (i:=2) (d:=28) rfl rfl (by kernel_rfl) (by kernel_rfl) (by kernel_rfl) (by kernel_rfl) rfl (fun _ _ _ h=>h) rfl (yieldsIf_load_mid rfl 28 (.tmp 3) rfl (w.heap.size+1) 0 rfl [s0,s1,s2,s3,s4,s5] _ (fun w' h=>(h.1.r).range 0 6) Tryz.underlying28 rfl (by kernel_rfl)) hS ?_
   simp only [sT,sS,sZ]
   have hBw:=hBd
   have hz:Hid (W1.heap.size≤WD.heap.size):=hBd.size
   clear hBd
   refine AnyP.begin [1,3,4] [9,10] ?_
   repeat' first
    |refine AnyP.cbb (by kernel_rfl) rfl rfl rfl rfl rfl rfl ?_ ?_ ?_
    |refine AnyP.cb (by kernel_rfl) rfl rfl rfl rfl ?_ ?_
    |refine AnyP.bb (by kernel_rfl) rfl rfl rfl rfl ?_ ?_
    |refine AnyP.c (by kernel_rfl) rfl rfl ?_
    |refine AnyP.b (by kernel_rfl) rfl rfl ?_
    |(refine Turn.go 1 ?_
      intro K HKK
      go_wp2_with fail
      refine (toTri_any t0 t1 t2 t3 t4 t5 t6 t7 t8 _).mono ?_
      rintro o uW ⟨rfl,hSt⟩
      (try replace hcp:=hcp.later hSt)
      (try replace hnp:=hnp.later hSt)
      (try replace hcq:=hcq.later hSt)
      (try replace hnq:=hnq.later hSt)
      (try replace n1:=n1.later hSt)
      (try replace n2:=n2.later hSt)
      replace hBw:=hBw.trans (hSt.mono hBw.size)
      replace hz:=Hid.mk (And.intro hz.out hSt.size)
      refine HKK.out _ _ (fun _=>HK.out _ hBw) ?_
      clear HKK K hSt
      (try simp only [Act.put]))
    |(refine Turn.go 3 ?_
      intro K HKK
      go_wp2_with fail
      refine (toRay_any s0 s1 s2 s3 s4 s5 _).mono ?_
      rintro o uW ⟨rfl,hSt⟩
      (try replace hcp:=hcp.later hSt)
      (try replace hnp:=hnp.later hSt)
      (try replace hcq:=hcq.later hSt)
      (try replace hnq:=hnq.later hSt)
      (try replace n1:=n1.later hSt)
      (try replace n2:=n2.later hSt)
      replace hBw:=hBw.trans (hSt.mono hBw.size)
      replace hz:=Hid.mk (And.intro hz.out hSt.size)
      refine HKK.out _ _ (fun _=>HK.out _ hBw) ?_
      clear HKK K hSt
      (try simp only [Act.put]))
    |(refine Turn.go 4 ?_
      intro K HKK
      go_wp2_with fail
      refine (hitI_all t0 t1 t2 t3 t4 t5 t6 t7 t8 s0 s1 s2 s3 s4 s5 _ (HTb.out _ (HF1.out.bel.trans (hBw.mono HF1.out.bel.size))) HU.out).mono ?_
      rintro o uW ⟨gi,ai,ci,zi,gj,aj,cj,zj,ki,KI,rfl,hA,l1,l2,hK1,hK2,hUn,n1',n2',hSt⟩
      have n1:=rowIn_under n1' hUn
      have n2:=n2'.rowIn
      (try replace hcp:=hcp.later hSt)
      (try replace hnp:=hnp.later hSt)
      (try replace hcq:=hcq.later hSt)
      (try replace hnq:=hnq.later hSt)
      replace hBw:=hBw.trans (hSt.mono hBw.size)
      replace hz:=Hid.mk (And.intro hz.out (And.intro hSt.size (And.intro hK1 hK2)))
      clear hK1 hK2
      refine HKK.out _ _ (fun _=>HK.out _ hBw) ?_
      clear HKK K hSt
      (try simp only [Act.put])
      have hS:=HK.out _ hBw
      refine AnyP.takeT (i:=5) (d:=25) (v:= .tuple #[.agg #[gi,.slice ai zi.length ci],.agg #[gj,.slice aj zj.length cj],.int .i64 ki]) rfl rfl (by kernel_rfl) (by kernel_rfl) (by kernel_rfl) (by kernel_rfl) rfl (fun _ _ _ h=>h) rfl (Or.inl ⟨rfl,fun w' _=>by go_simp⟩) hS ?_
      refine AnyP.takeT (i:=6) (d:=31) (v:= .agg #[gi,.slice ai zi.length ci]) rfl rfl (by kernel_rfl) (by kernel_rfl) (by kernel_rfl) (by kernel_rfl) rfl (fun _ _ _ h=>h) rfl (Or.inl ⟨rfl,fun w' _=>by go_simp⟩) hS ?_
      refine AnyP.takeT (i:=7) (d:=32) (v:= .agg #[gj,.slice aj zj.length cj]) rfl rfl (by kernel_rfl) (by kernel_rfl) (by kernel_rfl) (by kernel_rfl) rfl (fun _ _ _ h=>h) rfl (Or.inl ⟨rfl,fun w' _=>by go_simp⟩) hS ?_
      refine AnyP.takeT (i:=8) (d:=33) (v:= .int .i64 ki) rfl rfl (by kernel_rfl) (by kernel_rfl) (by kernel_rfl) (by kernel_rfl) rfl (fun _ _ _ h=>h) rfl (Or.inl ⟨rfl,fun w' _=>by go_simp⟩) hS ?_
      simp only [sT,sS,sZ])
    |(refine Turn.go 9 ?_
      intro K HKK
      go_wp2_with fail
      obtain ⟨uW,hu,hSt,hcp',hnp',hBw,_,hy⟩:=boxAny hBw #[false,()] 31 rfl
      (try replace hcp:=hcp.later hSt)
      (try replace hnp:=hnp.later hSt)
      (try replace hcq:=hcq.later hSt)
      (try replace hnq:=hnq.later hSt)
      (try replace n1:=n1.later hSt)
      (try replace n2:=n2.later hSt)
      have hcp:=hcp'
      have hnp:=hnp'
      clear hcp' hnp'
      replace hz:=Hid.mk (And.intro hz.out hy.out)
      refine HKK.out _ _ (fun _=>by rw [hu];exact HK.out _ hBw) ?_
      rw [hu]
      clear HKK K hu hSt hy
      (try simp only [Act.put]))
    |(refine Turn.go 10 ?_
      intro K HKK
      go_wp2_with fail
      obtain ⟨uW,hu,hSt,hcq',hnq',hBw,_,hy⟩:=boxAny hBw #[false,()] 31 rfl
      (try replace hcp:=hcp.later hSt)
      (try replace hnp:=hnp.later hSt)
      (try replace hcq:=hcq.later hSt)
      (try replace hnq:=hnq.later hSt)
      (try replace n1:=n1.later hSt)
      (try replace n2:=n2.later hSt)
      have hcq:=hcq'
      have hnq:=hnq'
      clear hcq' hnq'
      replace hz:=Hid.mk (And.intro hz.out hy.out)
      refine HKK.out _ _ (fun _=>by rw [hu];exact HK.out _ hBw) ?_
      rw [hu]
      clear HKK K hu hSt hy
      (try simp only [Act.put]))
   all_goals
    have y:=hz.out
    have hne:=hcp.ne hcq (by omega)
    have hP:=hcp.ge W1 (by omega)
    have hQ:=hcq.ge W1 (by omega)
    clear y
    obtain ⟨X2,eX2,HTB,f1,f2,hsz⟩:=TwoB.all (us:=[↑gi,.slice ai zi.length ci]) (vs:=[↑gj,.slice aj zj.length cj]) hcp hcq hnp hnq hne rfl rfl (by simp [NotInt]) (by simp [NotInt]) hP hQ hBw
    replace hz:=Hid.mk (And.intro hz.out hsz)
    refine ⟨?_⟩
    refine AnyK.end2 (i:=11) (j:=12) (k:=13) (by kernel_rfl) (by kernel_rfl) (by kernel_rfl) (by kernel_rfl) rfl rfl rfl rfl rfl rfl rfl rfl rfl rfl rfl rfl rfl rfl rfl rfl rfl hcp hcq rfl rfl (by kernel_rfl) (by kernel_rfl) (all_oneCell_toArray (by simp [Value.oneCell'])) (all_oneCell_toArray (by simp [Value.oneCell'])) hne hP hQ hBw HK.out ?_
    simp only [sT,sS,sZ]
    rw [←eX2]
    clear eX2 hsz hne hP hQ
    go_wp2_with fail
    go_meet
    case rel=>
     have y:=hz.out
     exact ⟨_,_,gi,ai,ci,zi,gj,aj,cj,zj,ki,_,KI,_,rfl,rfl,rfl,⟨hA,l1,l2⟩,HTB,f1 _ _ _ _ n1,f1 _ _ _ _ n2,by unfold Hid;omega⟩
  case rest=>
   clear HK
   obtain ⟨P8,P9,gi,ai,ci,zi,gj,aj,cj,zj,ki,lo,KI,hi,rfl,rfl,rfl,HA,HT2,HRi,HRj,HZ⟩:=hcut
   obtain ⟨W2,hW2⟩: ∃V,V=wc:=⟨_,rfl⟩
   rw [←hW2] at HT2 HRi HRj HZ⊢
   clear hW2
   have hli:=HA.out.2.1
   have hlj:=HA.out.2.2
   obtain ⟨e1,e2,e3,e4,e5⟩:=HUq.out _ _ _ _ _ HA.out.1
   subst e1 e2 e3 e4 e5
   have HB2:Hid (Below W1.heap.size W1 W2):=HT2.out.bel
   have hT1:=HT1.out.later HT2.out.bel
   have x0:=HT2.out.p.at 0 rfl
   have x2:=HT2.out.q.at 0 rfl
   have x1:=HT2.out.p.at 1 rfl
   have x3:=HT2.out.q.at 1 rfl
   have y0:=hT1.p.at 0 rfl
   have y2:=hT1.q.at 0 rfl
   have y1:=hT1.p.at 1 rfl
   have y3:=hT1.q.at 1 rfl
   clear hT1
   go_wp2_with fail
   clear x0 x1 x2 x3
   clear y0 y1 y2 y3
   refine (eqB_any gm gm ai am ci cm zm zm _ (by unfold maxLen;omega) (by unfold maxLen;omega) HRi.out.row (HRm.out.later HB2.out)).mono ?_
   rintro o W3 ⟨rfl,hb3⟩
   rw [show decide (gm=gm∧zm=zm)=true from by simp]
   have HB3:Hid (Below W1.heap.size W1 W3):=HB2.out.trans (hb3.mono HB2.out.size)
   have HT3:Hid (TwoB W1 P8 P9 [gm,.slice ai zm.length ci] [gn,.slice aj zn.length cj] W3):=HT2.out.later hb3
   have HI3:Hid (RowIn .u32 W3 lo KI ai zm):=HRi.out.later hb3
   have HJ3:Hid (RowIn .u32 W3 KI hi aj zn):=HRj.out.later hb3
   have HZ3:Hid (W1.heap.size≤lo∧lo≤KI∧KI≤hi∧hi≤W3.heap.size∧(P8<lo∨hi≤P8)∧(P9<lo∨hi≤P9)):=by unfold Hid;have:=HZ.out;have:=hb3.size;omega
   clear hb3 HT2 HRi HRj HZ HB2
   have hT1:=HT1.out.later HB3.out
   have x0:=HT3.out.p.at 0 rfl
   have x2:=HT3.out.q.at 0 rfl
   have x1:=HT3.out.p.at 1 rfl
   have x3:=HT3.out.q.at 1 rfl
   have y0:=hT1.p.at 0 rfl
   have y2:=hT1.q.at 0 rfl
   have y1:=hT1.p.at 1 rfl
   have y3:=hT1.q.at 1 rfl
   clear hT1
   go_wp2_with fail
   clear x0 x1 x2 x3
   clear y0 y1 y2 y3
   refine (eqB_any gn gn aj an cj cn zn zn _ (by unfold maxLen;omega) (by unfold maxLen;omega) HJ3.out.row (HRn.out.later HB3.out)).mono ?_
   rintro o W4 ⟨rfl,hb4⟩
   rw [show decide (gn=gn∧zn=zn)=true from by simp]
   have HB4:Hid (Below W1.heap.size W1 W4):=HB3.out.trans (hb4.mono HB3.out.size)
   have HT4:Hid (TwoB W1 P8 P9 [gm,.slice ai zm.length ci] [gn,.slice aj zn.length cj] W4):=HT3.out.later hb4
   have HI4:Hid (RowIn .u32 W4 lo KI ai zm):=HI3.out.later hb4
   have HJ4:Hid (RowIn .u32 W4 KI hi aj zn):=HJ3.out.later hb4
   have HZ4:Hid (W1.heap.size≤lo∧lo≤KI∧KI≤hi∧hi≤W4.heap.size∧(P8<lo∨hi≤P8)∧(P9<lo∨hi≤P9)):=by unfold Hid;have:=HZ3.out;have:=hb4.size;omega
   clear hb4 HT3 HI3 HJ3 HZ3 HB3
   have hkk:(km !=km)=false:=by simp
   have x0:=HT4.out.p.at 0 rfl
   have x2:=HT4.out.q.at 0 rfl
   have x1:=HT4.out.p.at 1 rfl
   have x3:=HT4.out.q.at 1 rfl
   go_wp2_with fail
   clear x0 x1 x2 x3
   clear hkk
   refine (markB_any gm ai ci zm 1 _ lo KI (by omega) (by omega) (by omega) HI4.out).mono ?_
   rintro o W5 ⟨rfl,hI5,V5,hb5,hw5⟩
   have HI5:Hid (RowIn .u32 W5 lo KI ai (marksL 1 zm.length)):=hI5
   have HJ5:Hid (RowIn .u32 W5 KI hi aj zn):=(HJ4.out.later hb5).apart hw5 (by omega)
   have HP5:Hid (Cs W5 P8 [gm,.slice ai zm.length ci]∧Cs W5 P9 [gn,.slice aj zn.length cj]):=⟨(HT4.out.p.later hb5).within hw5 (by have:=HZ4.out;omega),(HT4.out.q.later hb5).within hw5 (by have:=HZ4.out;omega)⟩
   have HB5:Hid (Below W1.heap.size W1 W5):=(HB4.out.trans (hb5.mono HB4.out.size)).trans (hw5.below.mono HZ4.out.1)
   have HZ5:Hid (W1.heap.size≤lo∧lo≤KI∧KI≤hi∧hi≤W5.heap.size∧(P8<lo∨hi≤P8)∧(P9<lo∨hi≤P9)):=by unfold Hid;have:=HZ4.out;have:=hb5.size;have:=hw5.size;omega
   clear hI5 hb5 hw5 HT4 HI4 HJ4 HZ4 HB4
   have x0:=HP5.out.1.at 0 rfl
   have x1:=HP5.out.1.at 1 rfl
   have x2:=HP5.out.2.at 0 rfl
   have x3:=HP5.out.2.at 1 rfl
   go_wp2_with fail
   clear x0 x1 x2 x3
   refine (markB_any gn aj cj zn (1+zm.length) _ KI hi (by omega) (by omega) (by omega) HJ5.out).mono ?_
   rintro o W6 ⟨rfl,hJ6,V6,hb6,hw6⟩
   have HJ6:Hid (RowIn .u32 W6 KI hi aj (marksL (1+zm.length) zn.length)):=hJ6
   have HI6:Hid (RowIn .u32 W6 lo KI ai (marksL 1 zm.length)):=(HI5.out.later hb6).apart hw6 (by omega)
   have HP6:Hid (Cs W6 P8 [gm,.slice ai zm.length ci]∧Cs W6 P9 [gn,.slice aj zn.length cj]):=⟨(HP5.out.1.later hb6).within hw6 (by have:=HZ5.out;omega),(HP5.out.2.later hb6).within hw6 (by have:=HZ5.out;omega)⟩
   have HB6:Hid (Below W1.heap.size W1 W6):=(HB5.out.trans (hb6.mono HB5.out.size)).trans (hw6.below.mono (by have:=HZ5.out;omega))
   clear hJ6 hb6 hw6 HI5 HJ5 HP5 HB5 HZ5
   have x0:=HP6.out.1.at 0 rfl
   have x1:=HP6.out.1.at 1 rfl
   have x2:=HP6.out.2.at 0 rfl
   have x3:=HP6.out.2.at 1 rfl
   go_wp2_with fail
   clear x0 x1 x2 x3
   refine (heldB_any gm ai ci zm.length 1 _ (by omega) (by omega) (by omega) HI6.out.row).mono ?_
   rintro o W8 ⟨rfl,hb8⟩
   have HJ8:Hid (RowIn .u32 W8 KI hi aj (marksL (1+zm.length) zn.length)):=HJ6.out.later hb8
   have HP8:Hid (Cs W8 P8 [gm,.slice ai zm.length ci]∧Cs W8 P9 [gn,.slice aj zn.length cj]):=⟨HP6.out.1.later hb8,HP6.out.2.later hb8⟩
   have HB8:Hid (Below W1.heap.size W1 W8):=HB6.out.trans (hb8.mono HB6.out.size)
   clear hb8 HI6 HJ6 HP6 HB6
   have x0:=HP8.out.1.at 0 rfl
   have x1:=HP8.out.1.at 1 rfl
   have x2:=HP8.out.2.at 0 rfl
   have x3:=HP8.out.2.at 1 rfl
   have hl1: ¬(1+(zm.length:Int)<0):=by omega
   go_wp2_with fail
   clear x0 x1 x2 x3
   clear hl1
   refine (heldB_any gn aj cj zn.length (1+zm.length) _ (by omega) (by omega) (by omega) HJ8.out.row).mono ?_
   rintro o W7 ⟨rfl,hb9⟩
   have HB7:Hid (Below W1.heap.size W1 W7):=HB8.out.trans (hb9.mono HB8.out.size)
   clear hb9 HJ8 HP8 HB8
   have HF7:Hid (Lh0 w [t0,t1,t2,t3,t4,t5,t6,t7,t8] [s0,s1,s2,s3,s4,s5] W7):=HF1.out.later HB7.out
   have hl2: ¬(1+(zm.length:Int)+zn.length<0):=by omega
   have HK:Hid (∀w',Below W7.heap.size W7 w'→(fun w'=>Lh0 w [t0,t1,t2,t3,t4,t5,t6,t7,t8] [s0,s1,s2,s3,s4,s5] w'∧Below W7.heap.size W7 w') w'):=fun w' hb=>⟨HF7.out.later hb,hb⟩
   go_wp2_with fail
   clear hl2
   go_cut [13,14,15] from 68 (fun sp sq sk wx=> ∃(P Q:Nat) (gh:Bool) (ah:Option Addr) (ch:Nat) (zh:List Int) (gl:Bool) (al:Option Addr) (cl:Nat) (zl:List Int) (kh:Int) (lo KH hi:Nat),sp= .pointer (some ⟨P,0,none⟩)∧sq= .pointer (some ⟨Q,0,none⟩)∧sk= .int .i64 kh∧Hid (AnsC (okB t0 t1 t2 t3 t4 t5 t6 t7 t8 s0 s1 s2 s3 s4 s5) (Meets (pv t0 t1 t2) (pv t3 t4 t5) (pv t6 t7 t8) (pv s0 s1 s2) (pv s3 s4 s5)) gh zh gl zl kh∧zh.length≤100∧zl.length≤100)∧Hid (TwoB W7 P Q [gh,.slice ah zh.length ch] [gl,.slice al zl.length cl] wx)∧Hid (RowIn .u32 wx lo KH ah zh)∧Hid (RowIn .u32 wx KH hi al zl)∧Hid (W7.heap.size≤lo∧lo≤KH∧KH≤hi∧hi≤wx.heap.size∧(P<lo∨hi≤P)∧(Q<lo∨hi≤Q)))
   case first=>
    refine AnyK.regionK HK 13 (by kernel_rfl) ?_
    obtain ⟨WD,hWD⟩: ∃V,V=W7.drew:=⟨_,rfl⟩
    rw [←hWD]
    have hBd:Below W7.heap.size W7 WD:=by rw [hWD];exact (Below.refl _ _).drew
    clear hWD
    have hS:=HK.out WD hBd
    refine AnyK.takeT (i:=0) (d:=69) rfl rfl (by kernel_rfl) (by kernel_rfl) (by kernel_rfl) (by kernel_rfl) rfl (fun _ _ _ h=>h) rfl (yieldsIf_load_mid rfl 26 (.tmp 2) rfl (w.heap.size) 0 rfl [t0,t1,t2,t3,t4,t5,t6,t7,t8] _ (fun w' h=>(h.1.t).range 0 9) Tryz.underlying26 rfl (by kernel_rfl)) hS ?_
    simp only [sT,sS,sZ]
    refine AnyK.takeT (i:=2) (d:=71) rfl rfl (by kernel_rfl) (by kernel_rfl) (by kernel_rfl) (by kernel_rfl) rfl (fun _ _ _ h=>h) rfl (yieldsIf_load_mid rfl 28 (.tmp 3) rfl (w.heap.size+1) 0 rfl [s0,s1,s2,s3,s4,s5] _ (fun w' h=>(h.1.r).range 0 6) Tryz.underlying28 rfl (by kernel_rfl)) hS ?_
    simp only [sT,sS,sZ]
    have hBw:=hBd
    have hz:Hid (W7.heap.size≤WD.heap.size):=hBd.size
    clear hBd
    refine AnyP.begin [1,3,4] [9,10] ?_
    repeat' first
     |refine AnyP.cbb (by kernel_rfl) rfl rfl rfl rfl rfl rfl ?_ ?_ ?_
     |refine AnyP.cb (by kernel_rfl) rfl rfl rfl rfl ?_ ?_
     |refine AnyP.bb (by kernel_rfl) rfl rfl rfl rfl ?_ ?_
     |refine AnyP.c (by kernel_rfl) rfl rfl ?_
     |refine AnyP.b (by kernel_rfl) rfl rfl ?_
     |(refine Turn.go 1 ?_
       intro K HKK
       go_wp2_with fail
       refine (toTri_any t0 t1 t2 t3 t4 t5 t6 t7 t8 _).mono ?_
       rintro o uW ⟨rfl,hSt⟩
       (try replace hcp:=hcp.later hSt)
       (try replace hnp:=hnp.later hSt)
       (try replace hcq:=hcq.later hSt)
       (try replace hnq:=hnq.later hSt)
       (try replace n1:=n1.later hSt)
       (try replace n2:=n2.later hSt)
       replace hBw:=hBw.trans (hSt.mono hBw.size)
       replace hz:=Hid.mk (And.intro hz.out hSt.size)
       refine HKK.out _ _ (fun _=>HK.out _ hBw) ?_
       clear HKK K hSt
       (try simp only [Act.put]))
     |(refine Turn.go 3 ?_
       intro K HKK
       go_wp2_with fail
       refine (toRay_any s0 s1 s2 s3 s4 s5 _).mono ?_
       rintro o uW ⟨rfl,hSt⟩
       (try replace hcp:=hcp.later hSt)
       (try replace hnp:=hnp.later hSt)
       (try replace hcq:=hcq.later hSt)
       (try replace hnq:=hnq.later hSt)
       (try replace n1:=n1.later hSt)
       (try replace n2:=n2.later hSt)
       replace hBw:=hBw.trans (hSt.mono hBw.size)
       replace hz:=Hid.mk (And.intro hz.out hSt.size)
       refine HKK.out _ _ (fun _=>HK.out _ hBw) ?_
       clear HKK K hSt
       (try simp only [Act.put]))
     |(refine Turn.go 4 ?_
       intro K HKK
       go_wp2_with fail
       refine (hitI_all t0 t1 t2 t3 t4 t5 t6 t7 t8 s0 s1 s2 s3 s4 s5 _ (HTb.out _ (HF7.out.bel.trans (hBw.mono HF7.out.bel.size))) HU.out).mono ?_
       rintro o uW ⟨gh,ah,ch,zh,gl,al,cl,zl,kh,KH,rfl,hA,l1,l2,hK1,hK2,hUn,n1',n2',hSt⟩
       have n1:=rowIn_under n1' hUn
       have n2:=n2'.rowIn
       (try replace hcp:=hcp.later hSt)
       (try replace hnp:=hnp.later hSt)
       (try replace hcq:=hcq.later hSt)
       (try replace hnq:=hnq.later hSt)
       replace hBw:=hBw.trans (hSt.mono hBw.size)
       replace hz:=Hid.mk (And.intro hz.out (And.intro hSt.size (And.intro hK1 hK2)))
       clear hK1 hK2
       refine HKK.out _ _ (fun _=>HK.out _ hBw) ?_
       clear HKK K hSt
       (try simp only [Act.put])
       have hS:=HK.out _ hBw
       refine AnyP.takeT (i:=5) (d:=68) (v:= .tuple #[.agg #[gh,.slice ah zh.length ch],.agg #[gl,.slice al zl.length cl],.int .i64 kh]) rfl rfl (by kernel_rfl) (by kernel_rfl) (by kernel_rfl) (by kernel_rfl) rfl (fun _ _ _ h=>h) rfl (Or.inl ⟨rfl,fun w' _=>by go_simp⟩) hS ?_
       refine AnyP.takeT (i:=6) (d:=74) (v:= .agg #[gh,.slice ah zh.length ch]) rfl rfl (by kernel_rfl) (by kernel_rfl) (by kernel_rfl) (by kernel_rfl) rfl (fun _ _ _ h=>h) rfl (Or.inl ⟨rfl,fun w' _=>by go_simp⟩) hS ?_
       refine AnyP.takeT (i:=7) (d:=75) (v:= .agg #[gl,.slice al zl.length cl]) rfl rfl (by kernel_rfl) (by kernel_rfl) (by kernel_rfl) (by kernel_rfl) rfl (fun _ _ _ h=>h) rfl (Or.inl ⟨rfl,fun w' _=>by go_simp⟩) hS ?_
       refine AnyP.takeT (i:=8) (d:=76) (v:= .int .i64 kh) rfl rfl (by kernel_rfl) (by kernel_rfl) (by kernel_rfl) (by kernel_rfl) rfl (fun _ _ _ h=>h) rfl (Or.inl ⟨rfl,fun w' _=>by go_simp⟩) hS ?_
       simp only [sT,sS,sZ])
     |(refine Turn.go 9 ?_
       intro K HKK
       go_wp2_with fail
       obtain ⟨uW,hu,hSt,hcp',hnp',hBw,_,hy⟩:=boxAny hBw #[false,()] 31 rfl
       (try replace hcp:=hcp.later hSt)
       (try replace hnp:=hnp.later hSt)
       (try replace hcq:=hcq.later hSt)
       (try replace hnq:=hnq.later hSt)
       (try replace n1:=n1.later hSt)
       (try replace n2:=n2.later hSt)
       have hcp:=hcp'
       have hnp:=hnp'
       clear hcp' hnp'
       replace hz:=Hid.mk (And.intro hz.out hy.out)
       refine HKK.out _ _ (fun _=>by rw [hu];exact HK.out _ hBw) ?_
       rw [hu]
       clear HKK K hu hSt hy
       (try simp only [Act.put]))
     |(refine Turn.go 10 ?_
       intro K HKK
       go_wp2_with fail
       obtain ⟨uW,hu,hSt,hcq',hnq',hBw,_,hy⟩:=boxAny hBw #[false,()] 31 rfl
       (try replace hcp:=hcp.later hSt)
       (try replace hnp:=hnp.later hSt)
       (try replace hcq:=hcq.later hSt)
       (try replace hnq:=hnq.later hSt)
       (try replace n1:=n1.later hSt)
       (try replace n2:=n2.later hSt)
       have hcq:=hcq'
       have hnq:=hnq'
       clear hcq' hnq'
       replace hz:=Hid.mk (And.intro hz.out hy.out)
       refine HKK.out _ _ (fun _=>by rw [hu];exact HK.out _ hBw) ?_
       rw [hu]
       clear HKK K hu hSt hy
       (try simp only [Act.put]))
    all_goals
     have y:=hz.out
     have hne:=hcp.ne hcq (by omega)
     have hP:=hcp.ge W7 (by omega)
     have hQ:=hcq.ge W7 (by omega)
     clear y
     obtain ⟨X2,eX2,HTB,f1,f2,hsz⟩:=TwoB.all (us:=[↑gh,.slice ah zh.length ch]) (vs:=[↑gl,.slice al zl.length cl]) hcp hcq hnp hnq hne rfl rfl (by simp [NotInt]) (by simp [NotInt]) hP hQ hBw
     replace hz:=Hid.mk (And.intro hz.out hsz)
     refine ⟨?_⟩
     refine AnyK.end2 (i:=11) (j:=12) (k:=13) (by kernel_rfl) (by kernel_rfl) (by kernel_rfl) (by kernel_rfl) rfl rfl rfl rfl rfl rfl rfl rfl rfl rfl rfl rfl rfl rfl rfl rfl rfl hcp hcq rfl rfl (by kernel_rfl) (by kernel_rfl) (all_oneCell_toArray (by simp [Value.oneCell'])) (all_oneCell_toArray (by simp [Value.oneCell'])) hne hP hQ hBw HK.out ?_
     simp only [sT,sS,sZ]
     rw [←eX2]
     clear eX2 hsz hne hP hQ
     go_wp2_with fail
     go_meet
     case rel=>
      have y:=hz.out
      exact ⟨_,_,gh,ah,ch,zh,gl,al,cl,zl,kh,_,KH,_,rfl,rfl,rfl,⟨hA,l1,l2⟩,HTB,f1 _ _ _ _ n1,f1 _ _ _ _ n2,by unfold Hid;omega⟩
   case rest=>
    clear HK
    obtain ⟨PA,PB,gh,ah,ch,zh,gl,al,cl,zl,kh,lo',KH,hi',rfl,rfl,rfl,HA',HT9,HRi,HRj,HZ⟩:=hcut
    obtain ⟨W9,hW9⟩: ∃V,V=wc:=⟨_,rfl⟩
    rw [←hW9] at HT9 HRi HRj HZ⊢
    clear hW9
    obtain ⟨e1,e2,e3,e4,e5⟩:=HUq.out _ _ _ _ _ HA'.out.1
    subst e1 e2 e3 e4 e5
    have HB9:Hid (Below W1.heap.size W1 W9):=HB7.out.trans (HT9.out.bel.mono HB7.out.size)
    have hT1:=HT1.out.later HB9.out
    have x0:=HT9.out.p.at 0 rfl
    have x2:=HT9.out.q.at 0 rfl
    have x1:=HT9.out.p.at 1 rfl
    have x3:=HT9.out.q.at 1 rfl
    have y0:=hT1.p.at 0 rfl
    have y2:=hT1.q.at 0 rfl
    have y1:=hT1.p.at 1 rfl
    have y3:=hT1.q.at 1 rfl
    clear hT1
    go_wp2_with fail
    clear x0 x1 x2 x3
    clear y0 y1 y2 y3
    refine (eqB_any gm gm ah am ch cm zm zm _ (by unfold maxLen;omega) (by unfold maxLen;omega) HRi.out.row (HRm.out.later HB9.out)).mono ?_
    rintro o Wa ⟨rfl,hba⟩
    rw [show decide (gm=gm∧zm=zm)=true from by simp]
    have HBa:Hid (Below W1.heap.size W1 Wa):=HB9.out.trans (hba.mono HB9.out.size)
    have HTa:=HT9.out.later hba
    have HJa:Hid (RowAt .u32 Wa al zn):=HRj.out.row.later hba
    have hT1:=HT1.out.later HBa.out
    have x0:=HTa.p.at 0 rfl
    have x2:=HTa.q.at 0 rfl
    have x1:=HTa.p.at 1 rfl
    have x3:=HTa.q.at 1 rfl
    have y0:=hT1.p.at 0 rfl
    have y2:=hT1.q.at 0 rfl
    have y1:=hT1.p.at 1 rfl
    have y3:=hT1.q.at 1 rfl
    clear hT1 hba HRi HRj HT9
    go_wp2_with fail
    clear x0 x1 x2 x3
    clear y0 y1 y2 y3
    refine (eqB_any gn gn al an cl cn zn zn _ (by unfold maxLen;omega) (by unfold maxLen;omega) HJa.out (HRn.out.later HBa.out)).mono ?_
    rintro o Wb ⟨rfl,hbb⟩
    rw [show decide (gn=gn∧zn=zn)=true from by simp]
    have HBb:Hid (Below w.heap.size w Wb):=HF1.out.bel.trans ((HBa.out.trans (hbb.mono HBa.out.size)).mono HF1.out.bel.size)
    have hkk:(km !=km)=false:=by simp
    clear hbb HBa HTa HJa
    go_wp2
    go_ret
    exact ⟨rfl,HBb.out⟩
open Go.ChangeShapes Go.WideShapes Go.ChangeAt Go.RowKit Go.Joins
def FlatC (cs:List Value):Prop:= ∀v,v∈cs→ ∃z:Int,v= .int .u32 z∧0≤z∧z<4294967296
theorem cellsPt:Tryz.prog.cellsOf 24=3:=by kernel_rfl
theorem cellsTri:Tryz.prog.cellsOf 26=9:=by kernel_rfl
theorem cellsRay:Tryz.prog.cellsOf 28=6:=by kernel_rfl
theorem open_u {H:Type} {enc:TypeId×Value→H} {W:World} {fuel:Nat} {cs:List Value} {y:DataW H×List MemPlace} (h:DataW.trod enc Tryz.prog W 0 (fun _=>true) true fuel 22 cs=some y):FlatC cs:=by
 obtain ⟨n,rfl,_,hw⟩:=DataW.trod_int Tryz.underlying22 h
 intro v hv
 simp at hv
 have:=bounds_u32 hw
 exact ⟨n,hv,by omega,by omega⟩
theorem split3 {cs:List Value} {a b c:Nat} (hl:cs.length=a+b+c) (h1:FlatC ((cs.drop 0).take a)) (h2:FlatC ((cs.drop a).take b)) (h3:FlatC ((cs.drop (a+b)).take c)):FlatC cs:=by
 intro v hv
 obtain ⟨m,hm,rfl⟩:=List.mem_iff_getElem.1 hv
 by_cases q1:m<a
 ·exact h1 _ (List.mem_iff_getElem.2 ⟨m,by simp;omega,by simp⟩)
 ·by_cases q2:m<a+b
  ·exact h2 _ (List.mem_iff_getElem.2 ⟨m-a,by simp;omega,by simp [show a+(m-a)=m by omega]⟩)
  ·exact h3 _ (List.mem_iff_getElem.2 ⟨m-(a+b),by simp;omega,by simp [show a+b+(m-(a+b))=m by omega]⟩)
theorem open_ptc {H:Type} {enc:TypeId×Value→H} {W:World} {fuel:Nat} {cs:List Value} {y:DataW H×List MemPlace} (h:DataW.trod enc Tryz.prog W 0 (fun _=>true) true fuel 24 cs=some y):FlatC cs:=by
 obtain ⟨y0,y1,y2,n,_,hl,h0,h1,h2⟩:=Go.Deep.trod_struct3 Tryz.underlying24 h
 have e0:=open_u h0
 have e1:=open_u h1
 have e2:=open_u h2
 simp only [cellsU] at e0 e1 e2
 exact split3 (a:=1) (b:=1) (c:=1) (by rw [hl,cellsPt]) e0 e1 e2
theorem open_tric {H:Type} {enc:TypeId×Value→H} {W:World} {fuel:Nat} {cs:List Value} {y:DataW H×List MemPlace} (h:DataW.trod enc Tryz.prog W 0 (fun _=>true) true fuel 26 cs=some y):FlatC cs:=by
 obtain ⟨y0,y1,y2,n,_,hl,h0,h1,h2⟩:=Go.Deep.trod_struct3 Tryz.underlying26 h
 have e0:=open_ptc h0
 have e1:=open_ptc h1
 have e2:=open_ptc h2
 simp only [cellsPt] at e0 e1 e2
 exact split3 (a:=3) (b:=3) (c:=3) (by rw [hl,cellsTri]) e0 e1 e2
theorem open_rayc {H:Type} {enc:TypeId×Value→H} {W:World} {fuel:Nat} {cs:List Value} {y:DataW H×List MemPlace} (h:DataW.trod enc Tryz.prog W 0 (fun _=>true) true fuel 28 cs=some y):FlatC cs:=by
 obtain ⟨y0,y1,n,_,hl,h0,h1⟩:=trod_struct2 Tryz.underlying28 h
 have e0:=open_ptc h0
 have e1:=open_ptc h1
 simp only [cellsPt] at e0 e1
 exact split3 (a:=3) (b:=3) (c:=0) (by rw [hl,cellsRay]) e0 e1 (fun v hv=>by simp at hv)
open Go.ChangeShapes Go.WideShapes Go.ChangeAt Go.RowKit Go.Joins
theorem open_tri9 {H:Type} {enc:TypeId×Value→H} {W:World} {b0:Nat} {v:Value} {d:DataW H} {p:List MemPlace} (hv:Value.okWide Tryz.prog W .any b0 26 v) (h:DataW.Trod enc Tryz.prog W 0 (fun _=>true) true 26 v d p):
 ∃z0 z1 z2 z3 z4 z5 z6 z7 z8:Int,v= .agg #[z0,z1,z2,z3,z4,z5,z6,z7,z8]∧U32 [z0,z1,z2,z3,z4,z5,z6,z7,z8]:=by
 obtain ⟨cs,rfl,hsz⟩:=okWide_struct Tryz.underlying26 hv
 obtain ⟨l,rfl⟩: ∃l:List Value,cs=l.toArray:=⟨cs.toList,by simp⟩
 have hl:l.length=9:=by simpa using hsz.trans cellsTri
 obtain ⟨c0,c1,c2,c3,c4,c5,c6,c7,c8,rfl⟩: ∃c0 c1 c2 c3 c4 c5 c6 c7 c8,l=[c0,c1,c2,c3,c4,c5,c6,c7,c8]:=by
  match l,hl with
  | [c0,c1,c2,c3,c4,c5,c6,c7,c8],_=>exact ⟨c0,c1,c2,c3,c4,c5,c6,c7,c8,rfl⟩
 obtain ⟨fuel,hf⟩:=h
 have hF:=open_tric hf
 obtain ⟨z0,rfl,a0,b0⟩:=hF c0 (by simp [Value.cells])
 obtain ⟨z1,rfl,a1,b1⟩:=hF c1 (by simp [Value.cells])
 obtain ⟨z2,rfl,a2,b2⟩:=hF c2 (by simp [Value.cells])
 obtain ⟨z3,rfl,a3,b3⟩:=hF c3 (by simp [Value.cells])
 obtain ⟨z4,rfl,a4,b4⟩:=hF c4 (by simp [Value.cells])
 obtain ⟨z5,rfl,a5,b5⟩:=hF c5 (by simp [Value.cells])
 obtain ⟨z6,rfl,a6,b6⟩:=hF c6 (by simp [Value.cells])
 obtain ⟨z7,rfl,a7,b7⟩:=hF c7 (by simp [Value.cells])
 obtain ⟨z8,rfl,a8,b8⟩:=hF c8 (by simp [Value.cells])
 refine ⟨z0,z1,z2,z3,z4,z5,z6,z7,z8,rfl,fun z hz=> ?_⟩
 simp only [List.mem_cons,List.not_mem_nil,or_false] at hz
 rcases hz with rfl|rfl|rfl|rfl|rfl|rfl|rfl|rfl|rfl
 ·exact ⟨a0,b0⟩
 ·exact ⟨a1,b1⟩
 ·exact ⟨a2,b2⟩
 ·exact ⟨a3,b3⟩
 ·exact ⟨a4,b4⟩
 ·exact ⟨a5,b5⟩
 ·exact ⟨a6,b6⟩
 ·exact ⟨a7,b7⟩
 ·exact ⟨a8,b8⟩
theorem open_ray6 {H:Type} {enc:TypeId×Value→H} {W:World} {b0:Nat} {v:Value} {d:DataW H} {p:List MemPlace} (hv:Value.okWide Tryz.prog W .any b0 28 v) (h:DataW.Trod enc Tryz.prog W 0 (fun _=>true) true 28 v d p):
 ∃z0 z1 z2 z3 z4 z5:Int,v= .agg #[z0,z1,z2,z3,z4,z5]∧U32 [z0,z1,z2,z3,z4,z5]:=by
 obtain ⟨cs,rfl,hsz⟩:=okWide_struct Tryz.underlying28 hv
 obtain ⟨l,rfl⟩: ∃l:List Value,cs=l.toArray:=⟨cs.toList,by simp⟩
 have hl:l.length=6:=by simpa using hsz.trans cellsRay
 obtain ⟨c0,c1,c2,c3,c4,c5,rfl⟩: ∃c0 c1 c2 c3 c4 c5,l=[c0,c1,c2,c3,c4,c5]:=by
  match l,hl with
  | [c0,c1,c2,c3,c4,c5],_=>exact ⟨c0,c1,c2,c3,c4,c5,rfl⟩
 obtain ⟨fuel,hf⟩:=h
 have hF:=open_rayc hf
 obtain ⟨z0,rfl,a0,b0⟩:=hF c0 (by simp [Value.cells])
 obtain ⟨z1,rfl,a1,b1⟩:=hF c1 (by simp [Value.cells])
 obtain ⟨z2,rfl,a2,b2⟩:=hF c2 (by simp [Value.cells])
 obtain ⟨z3,rfl,a3,b3⟩:=hF c3 (by simp [Value.cells])
 obtain ⟨z4,rfl,a4,b4⟩:=hF c4 (by simp [Value.cells])
 obtain ⟨z5,rfl,a5,b5⟩:=hF c5 (by simp [Value.cells])
 refine ⟨z0,z1,z2,z3,z4,z5,rfl,fun z hz=> ?_⟩
 simp only [List.mem_cons,List.not_mem_nil,or_false] at hz
 rcases hz with rfl|rfl|rfl|rfl|rfl|rfl
 ·exact ⟨a0,b0⟩
 ·exact ⟨a1,b1⟩
 ·exact ⟨a2,b2⟩
 ·exact ⟨a3,b3⟩
 ·exact ⟨a4,b4⟩
 ·exact ⟨a5,b5⟩
end Go.Proofs.YtfieffpobgcpmaaGreatDoor
