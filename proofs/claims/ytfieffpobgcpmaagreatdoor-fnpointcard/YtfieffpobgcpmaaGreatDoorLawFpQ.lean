import Derived.Test.YtfieffpobgcpmaaGreatDoorFpBToFpG
set_option maxRecDepth 100000
set_option maxHeartbeats 32000000
namespace Go.Proofs.YtfieffpobgcpmaaGreatDoor
open Go.RowKit
theorem I3.ce {W:World} {b:Nat} {X:V3} (h:I3 W (.slice (some ⟨b,0,none⟩) 3 3) X):Ce W b [.int .i64 X.x,.int .i64 X.y,.int .i64 X.z]:=by
 obtain ⟨b',e,h⟩:=h
 simp at e
 subst e
 exact h
theorem ptLawF (a:Option Addr) (c:Nat) (bs:List Int) (w:World) (hT:Tab w) (hn:bs.length≤1048576) (hc:bs.length≤c) (hcm:c≤maxLen) (hnil:a=none→c=0) (hr:RowAt .u8 w a bs) (hb8:Dig 256 bs):
 Calls Tryz.prog 6 #[.slice a bs.length c] w fun e w'=>e= .returned (.bool true)∧Below w.heap.size w w':=by
 have HT:Hid (∀W,Below w.heap.size w W→Tab W):=fun W hb=>hT.later hb
 have HO:=Hid.mk (drawH_any a c bs w hn hc hcm hnil hr hb8)
 clear hT hr hb8 hnil hc hcm
 go_enter Tryz.func6,Tryz.ntmps6
 go_wp2_with fail
 refine HO.out.mono ?_
 rintro e w1 ⟨t0,t1,t2,t3,t4,t5,t6,t7,t8,s0,s1,s2,s3,s4,s5,ht,hs,rfl,hb1⟩
 have HUT:=Hid.mk ht
 have HUS:=Hid.mk hs
 have HB1:=Hid.mk hb1
 have HD0:Hid (HpS w1 [.int .u32 t0,.int .u32 t1,.int .u32 t2,.int .u32 t3,.int .u32 t4,.int .u32 t5,.int .u32 t6,.int .u32 t7,.int .u32 t8] [.int .u32 s0,.int .u32 s1,.int .u32 s2,.int .u32 s3,.int .u32 s4,.int .u32 s5] ((w1.alloc (.cells #[.int .u32 t0,.int .u32 t1,.int .u32 t2,.int .u32 t3,.int .u32 t4,.int .u32 t5,.int .u32 t6,.int .u32 t7,.int .u32 t8] 36)).alloc (.cells #[.int .u32 s0,.int .u32 s1,.int .u32 s2,.int .u32 s3,.int .u32 s4,.int .u32 s5] 39))):=HpS.start w1 _ _ _ _
 have HTS:Hid (U32 [t0,t1,t2,t3,t4,t5,t6,t7,t8,s0,s1,s2,s3,s4,s5]):=fun z hz=>(List.mem_append (s:=[t0,t1,t2,t3,t4,t5,t6,t7,t8]) (t:=[s0,s1,s2,s3,s4,s5])).mp hz|>.elim (HUT.out z) (HUS.out z)
 clear ht hs hb1 HO
 go_wp2_with fail
 refine (hitsS_all t0 t1 t2 t3 t4 t5 t6 t7 t8 s0 s1 s2 s3 s4 s5 _ HTS.out).mono ?_
 rintro o w2 ⟨hb,h⟩
 have HD1:=Hid.mk (HD0.out.later hb)
 clear hb HD0
 rcases h with ⟨hok,rfl⟩| ⟨hok,R,hR,rfl⟩
 ·clear hok
  obtain ⟨x0,x1,x2,x3,x4,x5,x6,x7,x8⟩:=HD1.out.t.c9
  obtain ⟨z0,z1,z2,z3,z4,z5⟩:=HD1.out.r.c6
  go_wp2_with fail
  refine (wholes15 t0 t1 t2 t3 t4 t5 t6 t7 t8 s0 s1 s2 s3 s4 s5 _ HTS.out).mono ?_
  rintro o w4 ⟨h,hb⟩
  have HZ:Hid (Below w.heap.size w w4):=HB1.out.trans (((HD1.out.later (bel0 _ _)).later hb).bel.mono HB1.out.size)
  clear hb HD1 x0 x1 x2 x3 x4 x5 x6 x7 x8 z0 z1 z2 z3 z4 z5
  rcases h with rfl| ⟨vb,vc,us,Xs,rfl,_⟩
  ·go_wp2
   go_ret
   exact ⟨rfl,HZ.out⟩
  ·go_wp2
   go_ret
   exact ⟨rfl,HZ.out⟩
 have HMR:=Hid.mk hR
 have HOK:=Hid.mk hok
 obtain ⟨M,hM⟩: ∃M,M=decide (R.2.1≠0):=⟨_,rfl⟩
 rw [←hM]
 have HMM:=Hid.mk hM
 clear hR hok hM
 obtain ⟨x0,x1,x2,x3,x4,x5,x6,x7,x8⟩:=HD1.out.t.c9
 obtain ⟨z0,z1,z2,z3,z4,z5⟩:=HD1.out.r.c6
 go_wp2_with fail
 refine (wholes15 t0 t1 t2 t3 t4 t5 t6 t7 t8 s0 s1 s2 s3 s4 s5 _ HTS.out).mono ?_
 rintro o w4 ⟨h,hb⟩
 have HD2:Hid (HpS w1 [.int .u32 t0,.int .u32 t1,.int .u32 t2,.int .u32 t3,.int .u32 t4,.int .u32 t5,.int .u32 t6,.int .u32 t7,.int .u32 t8] [.int .u32 s0,.int .u32 s1,.int .u32 s2,.int .u32 s3,.int .u32 s4,.int .u32 s5] w4):=(HD1.out.later (bel0 _ _)).later hb
 clear hb HD1 x0 x1 x2 x3 x4 x5 x6 x7 x8 z0 z1 z2 z3 z4 z5
 rcases h with rfl| ⟨vb,vc,us,Xs,rfl,lu,lx,hv,hI,hW⟩
 ·have HZ:Hid (Below w.heap.size w w4):=HB1.out.trans ((HD2.out).bel.mono HB1.out.size)
  clear HD2
  go_wp2
  go_ret
  exact ⟨rfl,HZ.out⟩
 obtain ⟨uA,uB,uC,uO,uD,rfl⟩:=list5 lu
 obtain ⟨A,B,C,O,D,rfl⟩:=list5 lx
 obtain ⟨bA,rfl,cA⟩:=hI 0 uA A rfl rfl
 obtain ⟨bB,rfl,cB⟩:=hI 1 uB B rfl rfl
 obtain ⟨bC,rfl,cC⟩:=hI 2 uC C rfl rfl
 obtain ⟨bO,rfl,cO⟩:=hI 3 uO O rfl rfl
 obtain ⟨bD,rfl,cD⟩:=hI 4 uD D rfl rfl
 have HWA:Hid (WP t0 t1 t2 A∧WP t3 t4 t5 B∧WP t6 t7 t8 C∧WP s0 s1 s2 O∧WP s3 s4 s5 D):=⟨hW 0 A rfl,hW 1 B rfl,hW 2 C rfl,hW 3 O rfl,hW 4 D rfl⟩
 have HV4:Hid (VsI vb bA bB bC bO bD A B C O D w4):=⟨hv,cA,cB,cC,cO,cD⟩
 clear hv hI hW cA cB cC cO cD lu lx
 obtain ⟨x0,x1,x2,x3,x4,x5,x6,x7,x8⟩:=HD2.out.t.c9
 obtain ⟨z0,z1,z2,z3,z4,z5⟩:=HD2.out.r.c6
 go_wp2_with fail
 refine (hits_det t0 t1 t2 t3 t4 t5 t6 t7 t8 s0 s1 s2 s3 s4 s5 _ (HT.out _ (HB1.out.trans (HD2.out.bel.mono HB1.out.size))) HUT.out HUS.out HOK.out HMR.out (fun _ _=> .rfl) M HMM.out).mono ?_
 rintro o w5 ⟨rfl,hb⟩
 have HD3:=Hid.mk (HD2.out.later hb)
 have HV5:=Hid.mk (HV4.out.later hb)
 clear hb HD2 HV4 x0 x1 x2 x3 x4 x5 x6 x7 x8 z0 z1 z2 z3 z4 z5
 obtain ⟨x0,x1,x2,x3,x4,x5,x6,x7,x8⟩:=HD3.out.t.c9
 obtain ⟨z0,z1,z2,z3,z4,z5⟩:=HD3.out.r.c6
 go_wp2_with fail
 refine (hitI_all t0 t1 t2 t3 t4 t5 t6 t7 t8 s0 s1 s2 s3 s4 s5 _ (HT.out _ (HB1.out.trans (HD3.out.bel.mono HB1.out.size))) HTS.out).mono ?_
 rintro o w6 ⟨g1,a1,c1,v1,g2,a2,c2,v2,k1,K,rfl,hA,l1,l2,_,_,_,n1,n2,hb⟩
 rw [HOK.out] at hA
 rcases hA with ⟨_,rfl,hA⟩| ⟨h,_⟩
 case inr=>cases h
 obtain ⟨V6,hV⟩: ∃W,((w6.alloc (.cells #[.bool g1,.slice a1 v1.length c1] 31)).alloc (.cells #[.bool g2,.slice a2 v2.length c2] 31))=W:=⟨_,rfl⟩
 have bW:Below w6.heap.size w6 V6:=by rw [←hV];exact bel2 _ _ _
 have HA1:=Hid.mk hA
 have HN1:Hid (RowAt .u32 V6 a1 v1):=(RowNew.row n1).later bW
 have HN2:Hid (RowAt .u32 V6 a2 v2):=(RowNew.row n2).later bW
 have HC1:Hid (Cs V6 w6.heap.size [.bool g1,.slice a1 v1.length c1]):=by unfold Hid;rw [←hV];exact (Cs.new _ _ _).later (bel0 _ _)
 have HC2:Hid (Cs V6 (w6.heap.size+1) [.bool g2,.slice a2 v2.length c2]):=by
  have:=Cs.new (w6.alloc (.cells #[.bool g1,.slice a1 v1.length c1] 31)) #[.bool g2,.slice a2 v2.length c2] 31
  unfold Hid;rw [←hV];simpa using this
 have HD4:=Hid.mk ((HD3.out.later hb).later bW)
 have HV6:=Hid.mk ((HV5.out.later hb).later bW)
 clear hA n1 n2 hb bW HD3 HV5 x0 x1 x2 x3 x4 x5 x6 x7 x8 z0 z1 z2 z3 z4 z5 HOK
 go_upto_region 10 with fail
 clear hV
 have HZ:Hid (Below w.heap.size w V6):=HB1.out.trans ((HD4.out).bel.mono HB1.out.size)
 obtain ⟨rfl,rfl,hA⟩:=HA1.out.of HMR.out (fun p q h=>((InTri_iff _ _ _ _ _ p q).mp h.2).1)
 obtain ⟨e10,e11⟩:=HC1.out.c2
 obtain ⟨e20,e21⟩:=HC2.out.c2
 rcases hA with ⟨hR,rfl,rfl⟩| ⟨xa,xb,xc,xd,u,v,hR,hm1,hl1,b1,b2,_,_,hp1⟩
 ·have hm:M=false:=by rw [HMM.out,hR];rfl
  subst hm
  clear hR
  go_wp2
  go_ret
  exact ⟨rfl,HZ.out⟩
 have hm:M=true:=by rw [HMM.out];simp;omega
 subst hm
 have HF:Hid (FstP A B C O D u v):=by
  obtain ⟨w1,w2,w3,w4,w5⟩:=HWA.out
  refine first_hit w1 w2 w3 w4 w5 hm1 ?_ hl1
  obtain ⟨⟨k,hk,_,e⟩,_,hv⟩:=id hl1
  rw [e];exact Int.mul_pos hk hv
 have HO1:=Hid.mk (b1_one b1 (by have:=HF.out.s1;omega))
 have HO2:=Hid.mk (b1_one b2 (by have:=HF.out.q1;omega))
 clear hR hm1 hl1 b1 b2 hp1
 go_wp2_with fail
 refine (smallL_any a1 c1 v1 u _ HN1.out HO1.out HF.out.s0 HF.out.s1).mono ?_
 rintro o w7 ⟨rfl,hb⟩
 have HN2:=Hid.mk (HN2.out.later hb)
 have HC2:=Hid.mk (HC2.out.later hb)
 have HD5:=Hid.mk (HD4.out.later hb)
 have HV7:=Hid.mk (HV6.out.later hb)
 clear e10 e11 e20 e21 hb HC1 HN1 HD4 HV6 HZ HO1
 obtain ⟨e20,e21⟩:=HC2.out.c2
 go_wp2_with fail
 refine (smallL_any a2 c2 v2 v _ HN2.out HO2.out (by have:=HF.out.q0;omega) HF.out.q1).mono ?_
 rintro o w8 ⟨rfl,hb⟩
 have HD6:=Hid.mk (HD5.out.later hb)
 have HV8:=Hid.mk (HV7.out.later hb)
 have HB8:Hid (Below w1.heap.size w1 w8):=HD6.out.bel
 clear e20 e21 hb HC2 HN2 HD5 HV7 HO2 HD6
 have hu0:0≤u:=HF.out.s0
 have hu1:u≤10000000:=HF.out.s1
 have hv0:0<v:=HF.out.q0
 have hv1:v≤10000000:=HF.out.q1
 have HBn:Hid (Bnd3 8 A∧Bnd3 8 B∧Bnd3 8 C∧Bnd3 8 O∧Bnd3 8 D):=⟨HWA.out.1.bnd,HWA.out.2.1.bnd,HWA.out.2.2.1.bnd,HWA.out.2.2.2.1.bnd,HWA.out.2.2.2.2.bnd⟩
 have mO:=mulV_bnd (q:=v) (l:=10000000) HBn.out.2.2.2.1 ⟨by omega,by omega⟩
 have mD:=mulV_bnd (q:=u) (l:=10000000) HBn.out.2.2.2.2 ⟨by omega,by omega⟩
 obtain ⟨m1,m2,m3⟩:=mO
 obtain ⟨m4,m5,m6⟩:=mD
 simp only [mulV] at m1 m2 m3 m4 m5 m6
 have q18x0:=wrap_p (n:=O.x*v) (by omega)
 have q18x1:=wrap_p (n:=O.y*v) (by omega)
 have q18x2:=wrap_p (n:=O.z*v) (by omega)
 have q18x3:=wrap_p (n:=D.x*u) (by omega)
 have q18x4:=wrap_p (n:=D.y*u) (by omega)
 have q18x5:=wrap_p (n:=D.z*u) (by omega)
 have q18x6:=wrap_p (n:=O.x*v+D.x*u) (by omega)
 have q18x7:=wrap_p (n:=O.y*v+D.y*u) (by omega)
 have q18x8:=wrap_p (n:=O.z*v+D.z*u) (by omega)
 clear m1 m2 m3 m4 m5 m6 HWA
 have HK:Hid (∀w',Below w8.heap.size w8 w'→(fun w':World=>VsI vb bA bB bC bO bD A B C O D w') w'):=fun w' hb=>HV8.out.later hb
 go_wp2_with fail
 refine AnyK.regionK HK 46 (by kernel_rfl) ?_
 obtain ⟨WD,hWD⟩: ∃V,V=w8.drew:=⟨_,rfl⟩
 rw [←hWD]
 have hBd:Below w8.heap.size w8 WD:=by rw [hWD];exact (Below.refl _ _).drew
 clear hWD
 have hS:=HK.out WD hBd
 refine AnyK.tk 0 121 (.slice (some ⟨vb,0,none⟩) 5 vc) rfl rfl (by kernel_rfl) (fun _ _ _ h=>h) rfl (Or.inl ⟨rfl,fun w' _=>by go_simp⟩) hS ?_
 simp only [sT,sS,sZ]
 refine AnyK.tk 1 122 (.pointer (some ⟨vb,3,none⟩)) rfl rfl (by kernel_rfl) (fun _ _ _ h=>h) rfl (Or.inl ⟨rfl,fun w' _=>by go_simp⟩) hS ?_
 simp only [sT,sS,sZ]
 refine AnyK.tk 2 123 (.slice (some ⟨bO,0,none⟩) 3 3) rfl rfl (by kernel_rfl) (fun _ _ _ h=>h) rfl (Or.inl ⟨rfl,fun w' h=>by have q:=h.v.at 3 rfl;go_simp⟩) hS ?_
 simp only [sT,sS,sZ]
 refine AnyK.tk 3 124 (.pointer (some ⟨bO,0,none⟩)) rfl rfl (by kernel_rfl) (fun _ _ _ h=>h) rfl (Or.inl ⟨rfl,fun w' _=>by go_simp⟩) hS ?_
 simp only [sT,sS,sZ]
 refine AnyK.tk 4 125 (.int .i64 (O.x)) rfl rfl (by kernel_rfl) (fun _ _ _ h=>h) rfl (Or.inl ⟨rfl,fun w' h=>by have q:=h.o.at 0 rfl;go_simp⟩) hS ?_
 simp only [sT,sS,sZ]
 refine AnyK.tk 5 126 (.int .i64 (v)) rfl rfl (by kernel_rfl) (fun _ _ _ h=>h) rfl (Or.inl ⟨rfl,fun w' _=>by go_simp⟩) hS ?_
 simp only [sT,sS,sZ]
 refine AnyK.tk 6 127 (.int .i64 (O.x*v)) rfl rfl (by kernel_rfl) (fun _ _ _ h=>h) rfl (Or.inl ⟨rfl,fun w' _=>by go_simp⟩) hS ?_
 simp only [sT,sS,sZ]
 refine AnyK.tk 7 128 (.slice (some ⟨vb,0,none⟩) 5 vc) rfl rfl (by kernel_rfl) (fun _ _ _ h=>h) rfl (Or.inl ⟨rfl,fun w' _=>by go_simp⟩) hS ?_
 simp only [sT,sS,sZ]
 refine AnyK.tk 8 129 (.pointer (some ⟨vb,4,none⟩)) rfl rfl (by kernel_rfl) (fun _ _ _ h=>h) rfl (Or.inl ⟨rfl,fun w' _=>by go_simp⟩) hS ?_
 simp only [sT,sS,sZ]
 refine AnyK.tk 9 130 (.slice (some ⟨bD,0,none⟩) 3 3) rfl rfl (by kernel_rfl) (fun _ _ _ h=>h) rfl (Or.inl ⟨rfl,fun w' h=>by have q:=h.v.at 4 rfl;go_simp⟩) hS ?_
 simp only [sT,sS,sZ]
 refine AnyK.tk 10 131 (.pointer (some ⟨bD,0,none⟩)) rfl rfl (by kernel_rfl) (fun _ _ _ h=>h) rfl (Or.inl ⟨rfl,fun w' _=>by go_simp⟩) hS ?_
 simp only [sT,sS,sZ]
 refine AnyK.tk 11 132 (.int .i64 (D.x)) rfl rfl (by kernel_rfl) (fun _ _ _ h=>h) rfl (Or.inl ⟨rfl,fun w' h=>by have q:=h.d.at 0 rfl;go_simp⟩) hS ?_
 simp only [sT,sS,sZ]
 refine AnyK.tk 12 133 (.int .i64 (u)) rfl rfl (by kernel_rfl) (fun _ _ _ h=>h) rfl (Or.inl ⟨rfl,fun w' _=>by go_simp⟩) hS ?_
 simp only [sT,sS,sZ]
 refine AnyK.tk 13 134 (.int .i64 (D.x*u)) rfl rfl (by kernel_rfl) (fun _ _ _ h=>h) rfl (Or.inl ⟨rfl,fun w' _=>by go_simp⟩) hS ?_
 simp only [sT,sS,sZ]
 refine AnyK.tk 14 135 (.int .i64 (O.x*v+(D.x*u))) rfl rfl (by kernel_rfl) (fun _ _ _ h=>h) rfl (Or.inl ⟨rfl,fun w' _=>by go_simp⟩) hS ?_
 simp only [sT,sS,sZ]
 refine AnyK.tk 15 136 (.slice (some ⟨vb,0,none⟩) 5 vc) rfl rfl (by kernel_rfl) (fun _ _ _ h=>h) rfl (Or.inl ⟨rfl,fun w' _=>by go_simp⟩) hS ?_
 simp only [sT,sS,sZ]
 refine AnyK.tk 16 137 (.pointer (some ⟨vb,3,none⟩)) rfl rfl (by kernel_rfl) (fun _ _ _ h=>h) rfl (Or.inl ⟨rfl,fun w' _=>by go_simp⟩) hS ?_
 simp only [sT,sS,sZ]
 refine AnyK.tk 17 138 (.slice (some ⟨bO,0,none⟩) 3 3) rfl rfl (by kernel_rfl) (fun _ _ _ h=>h) rfl (Or.inl ⟨rfl,fun w' h=>by have q:=h.v.at 3 rfl;go_simp⟩) hS ?_
 simp only [sT,sS,sZ]
 refine AnyK.tk 18 139 (.pointer (some ⟨bO,1,none⟩)) rfl rfl (by kernel_rfl) (fun _ _ _ h=>h) rfl (Or.inl ⟨rfl,fun w' _=>by go_simp⟩) hS ?_
 simp only [sT,sS,sZ]
 refine AnyK.tk 19 140 (.int .i64 (O.y)) rfl rfl (by kernel_rfl) (fun _ _ _ h=>h) rfl (Or.inl ⟨rfl,fun w' h=>by have q:=h.o.at 1 rfl;go_simp⟩) hS ?_
 simp only [sT,sS,sZ]
 refine AnyK.tk 20 141 (.int .i64 (v)) rfl rfl (by kernel_rfl) (fun _ _ _ h=>h) rfl (Or.inl ⟨rfl,fun w' _=>by go_simp⟩) hS ?_
 simp only [sT,sS,sZ]
 refine AnyK.tk 21 142 (.int .i64 (O.y*v)) rfl rfl (by kernel_rfl) (fun _ _ _ h=>h) rfl (Or.inl ⟨rfl,fun w' _=>by go_simp⟩) hS ?_
 simp only [sT,sS,sZ]
 refine AnyK.tk 22 143 (.slice (some ⟨vb,0,none⟩) 5 vc) rfl rfl (by kernel_rfl) (fun _ _ _ h=>h) rfl (Or.inl ⟨rfl,fun w' _=>by go_simp⟩) hS ?_
 simp only [sT,sS,sZ]
 refine AnyK.tk 23 144 (.pointer (some ⟨vb,4,none⟩)) rfl rfl (by kernel_rfl) (fun _ _ _ h=>h) rfl (Or.inl ⟨rfl,fun w' _=>by go_simp⟩) hS ?_
 simp only [sT,sS,sZ]
 refine AnyK.tk 24 145 (.slice (some ⟨bD,0,none⟩) 3 3) rfl rfl (by kernel_rfl) (fun _ _ _ h=>h) rfl (Or.inl ⟨rfl,fun w' h=>by have q:=h.v.at 4 rfl;go_simp⟩) hS ?_
 simp only [sT,sS,sZ]
 refine AnyK.tk 25 146 (.pointer (some ⟨bD,1,none⟩)) rfl rfl (by kernel_rfl) (fun _ _ _ h=>h) rfl (Or.inl ⟨rfl,fun w' _=>by go_simp⟩) hS ?_
 simp only [sT,sS,sZ]
 refine AnyK.tk 26 147 (.int .i64 (D.y)) rfl rfl (by kernel_rfl) (fun _ _ _ h=>h) rfl (Or.inl ⟨rfl,fun w' h=>by have q:=h.d.at 1 rfl;go_simp⟩) hS ?_
 simp only [sT,sS,sZ]
 refine AnyK.tk 27 148 (.int .i64 (u)) rfl rfl (by kernel_rfl) (fun _ _ _ h=>h) rfl (Or.inl ⟨rfl,fun w' _=>by go_simp⟩) hS ?_
 simp only [sT,sS,sZ]
 refine AnyK.tk 28 149 (.int .i64 (D.y*u)) rfl rfl (by kernel_rfl) (fun _ _ _ h=>h) rfl (Or.inl ⟨rfl,fun w' _=>by go_simp⟩) hS ?_
 simp only [sT,sS,sZ]
 refine AnyK.tk 29 150 (.int .i64 (O.y*v+(D.y*u))) rfl rfl (by kernel_rfl) (fun _ _ _ h=>h) rfl (Or.inl ⟨rfl,fun w' _=>by go_simp⟩) hS ?_
 simp only [sT,sS,sZ]
 refine AnyK.tk 30 151 (.slice (some ⟨vb,0,none⟩) 5 vc) rfl rfl (by kernel_rfl) (fun _ _ _ h=>h) rfl (Or.inl ⟨rfl,fun w' _=>by go_simp⟩) hS ?_
 simp only [sT,sS,sZ]
 refine AnyK.tk 31 152 (.pointer (some ⟨vb,3,none⟩)) rfl rfl (by kernel_rfl) (fun _ _ _ h=>h) rfl (Or.inl ⟨rfl,fun w' _=>by go_simp⟩) hS ?_
 simp only [sT,sS,sZ]
 refine AnyK.tk 32 153 (.slice (some ⟨bO,0,none⟩) 3 3) rfl rfl (by kernel_rfl) (fun _ _ _ h=>h) rfl (Or.inl ⟨rfl,fun w' h=>by have q:=h.v.at 3 rfl;go_simp⟩) hS ?_
 simp only [sT,sS,sZ]
 refine AnyK.tk 33 154 (.pointer (some ⟨bO,2,none⟩)) rfl rfl (by kernel_rfl) (fun _ _ _ h=>h) rfl (Or.inl ⟨rfl,fun w' _=>by go_simp⟩) hS ?_
 simp only [sT,sS,sZ]
 refine AnyK.tk 34 155 (.int .i64 (O.z)) rfl rfl (by kernel_rfl) (fun _ _ _ h=>h) rfl (Or.inl ⟨rfl,fun w' h=>by have q:=h.o.at 2 rfl;go_simp⟩) hS ?_
 simp only [sT,sS,sZ]
 refine AnyK.tk 35 156 (.int .i64 (v)) rfl rfl (by kernel_rfl) (fun _ _ _ h=>h) rfl (Or.inl ⟨rfl,fun w' _=>by go_simp⟩) hS ?_
 simp only [sT,sS,sZ]
 refine AnyK.tk 36 157 (.int .i64 (O.z*v)) rfl rfl (by kernel_rfl) (fun _ _ _ h=>h) rfl (Or.inl ⟨rfl,fun w' _=>by go_simp⟩) hS ?_
 simp only [sT,sS,sZ]
 refine AnyK.tk 37 158 (.slice (some ⟨vb,0,none⟩) 5 vc) rfl rfl (by kernel_rfl) (fun _ _ _ h=>h) rfl (Or.inl ⟨rfl,fun w' _=>by go_simp⟩) hS ?_
 simp only [sT,sS,sZ]
 refine AnyK.tk 38 159 (.pointer (some ⟨vb,4,none⟩)) rfl rfl (by kernel_rfl) (fun _ _ _ h=>h) rfl (Or.inl ⟨rfl,fun w' _=>by go_simp⟩) hS ?_
 simp only [sT,sS,sZ]
 refine AnyK.tk 39 160 (.slice (some ⟨bD,0,none⟩) 3 3) rfl rfl (by kernel_rfl) (fun _ _ _ h=>h) rfl (Or.inl ⟨rfl,fun w' h=>by have q:=h.v.at 4 rfl;go_simp⟩) hS ?_
 simp only [sT,sS,sZ]
 refine AnyK.tk 40 161 (.pointer (some ⟨bD,2,none⟩)) rfl rfl (by kernel_rfl) (fun _ _ _ h=>h) rfl (Or.inl ⟨rfl,fun w' _=>by go_simp⟩) hS ?_
 simp only [sT,sS,sZ]
 refine AnyK.tk 41 162 (.int .i64 (D.z)) rfl rfl (by kernel_rfl) (fun _ _ _ h=>h) rfl (Or.inl ⟨rfl,fun w' h=>by have q:=h.d.at 2 rfl;go_simp⟩) hS ?_
 simp only [sT,sS,sZ]
 refine AnyK.tk 42 163 (.int .i64 (u)) rfl rfl (by kernel_rfl) (fun _ _ _ h=>h) rfl (Or.inl ⟨rfl,fun w' _=>by go_simp⟩) hS ?_
 simp only [sT,sS,sZ]
 refine AnyK.tk 43 164 (.int .i64 (D.z*u)) rfl rfl (by kernel_rfl) (fun _ _ _ h=>h) rfl (Or.inl ⟨rfl,fun w' _=>by go_simp⟩) hS ?_
 simp only [sT,sS,sZ]
 refine AnyK.tk 44 165 (.int .i64 (O.z*v+(D.z*u))) rfl rfl (by kernel_rfl) (fun _ _ _ h=>h) rfl (Or.inl ⟨rfl,fun w' _=>by go_simp⟩) hS ?_
 simp only [sT,sS,sZ]
 refine AnyK.one (i:=45) (by kernel_rfl) rfl rfl ?_
 intro K hK
 have HKK:=Hid.mk hK
 clear hK hS
 go_wp2_with fail
 obtain ⟨Vp,hVp⟩: ∃V,WD.alloc (.cells #[.int .i64 (O.x*v+D.x*u),.int .i64 (O.y*v+D.y*u),.int .i64 (O.z*v+D.z*u)] 3)=V:=⟨_,rfl⟩
 have bWp:Below WD.heap.size WD Vp:=by rw [←hVp];exact bel0 _ _
 have hcp:Ce Vp WD.heap.size [.int .i64 (O.x*v+D.x*u),.int .i64 (O.y*v+D.y*u),.int .i64 (O.z*v+D.z*u)]:=by rw [←hVp];exact (Cs.new _ _ _).ce
 have hbp:Below w8.heap.size w8 Vp:=hBd.trans (bWp.mono hBd.size)
 rw [hVp]
 refine HKK.out _ _ (fun _=>HK.out _ hbp) ?_
 clear HKK K
 (try simp only [Act.put,sT,sS,sZ])
 refine AnyK.one (i:=46) (by kernel_rfl) rfl rfl ?_
 intro K hK
 have HKK:=Hid.mk hK
 clear hK
 go_wp2_with fail
 refine HKK.out _ _ (fun h=>absurd rfl h) ?_
 clear HKK K
 refine AnyK.done (by kernel_rfl) ?_
 have HV9:=Hid.mk (HV8.out.later hbp)
 have HB9:Hid (Below w1.heap.size w1 Vp):=HB8.out.trans (hbp.mono HB8.out.size)
 obtain ⟨pb,hpb⟩: ∃b,b=WD.heap.size:=⟨_,rfl⟩
 rw [←hpb] at hcp⊢
 have HP9:Hid (Ce Vp pb [.int .i64 (ptV O D u v).x,.int .i64 (ptV O D u v).y,.int .i64 (ptV O D u v).z]):=hcp
 clear hcp hpb bWp hVp hbp hBd HK HV8 HB8 q18x0 q18x1 q18x2 q18x3 q18x4 q18x5 q18x6 q18x7 q18x8
 have HK:Hid (∀w',Below Vp.heap.size Vp w'→(fun w':World=>VsI vb bA bB bC bO bD A B C O D w') w'):=fun w' hb=>HV9.out.later hb
 go_wp2_with fail
 refine AnyK.regionK HK 15 (by kernel_rfl) ?_
 obtain ⟨WD,hWD⟩: ∃V,V=Vp.drew:=⟨_,rfl⟩
 rw [←hWD]
 have hBd:Below Vp.heap.size Vp WD:=by rw [hWD];exact (Below.refl _ _).drew
 clear hWD
 have hS:=HK.out WD hBd
 refine AnyK.tk 0 167 (.slice (some ⟨vb,0,none⟩) 5 vc) rfl rfl (by kernel_rfl) (fun _ _ _ h=>h) rfl (Or.inl ⟨rfl,fun w' _=>by go_simp⟩) hS ?_
 simp only [sT,sS,sZ]
 refine AnyK.tk 1 168 (.pointer (some ⟨vb,1,none⟩)) rfl rfl (by kernel_rfl) (fun _ _ _ h=>h) rfl (Or.inl ⟨rfl,fun w' _=>by go_simp⟩) hS ?_
 simp only [sT,sS,sZ]
 refine AnyK.tk 2 169 (.slice (some ⟨bB,0,none⟩) 3 3) rfl rfl (by kernel_rfl) (fun _ _ _ h=>h) rfl (Or.inl ⟨rfl,fun w' h=>by have q:=h.v.at 1 rfl;go_simp⟩) hS ?_
 simp only [sT,sS,sZ]
 refine AnyK.tk 3 170 (.slice (some ⟨vb,0,none⟩) 5 vc) rfl rfl (by kernel_rfl) (fun _ _ _ h=>h) rfl (Or.inl ⟨rfl,fun w' _=>by go_simp⟩) hS ?_
 simp only [sT,sS,sZ]
 refine AnyK.tk 4 171 (.pointer (some ⟨vb,0,none⟩)) rfl rfl (by kernel_rfl) (fun _ _ _ h=>h) rfl (Or.inl ⟨rfl,fun w' _=>by go_simp⟩) hS ?_
 simp only [sT,sS,sZ]
 refine AnyK.tk 5 172 (.slice (some ⟨bA,0,none⟩) 3 3) rfl rfl (by kernel_rfl) (fun _ _ _ h=>h) rfl (Or.inl ⟨rfl,fun w' h=>by have q:=h.v.at 0 rfl;go_simp⟩) hS ?_
 simp only [sT,sS,sZ]
 refine AnyK.tk 7 174 (.slice (some ⟨vb,0,none⟩) 5 vc) rfl rfl (by kernel_rfl) (fun _ _ _ h=>h) rfl (Or.inl ⟨rfl,fun w' _=>by go_simp⟩) hS ?_
 simp only [sT,sS,sZ]
 refine AnyK.tk 8 175 (.pointer (some ⟨vb,2,none⟩)) rfl rfl (by kernel_rfl) (fun _ _ _ h=>h) rfl (Or.inl ⟨rfl,fun w' _=>by go_simp⟩) hS ?_
 simp only [sT,sS,sZ]
 refine AnyK.tk 9 176 (.slice (some ⟨bC,0,none⟩) 3 3) rfl rfl (by kernel_rfl) (fun _ _ _ h=>h) rfl (Or.inl ⟨rfl,fun w' h=>by have q:=h.v.at 2 rfl;go_simp⟩) hS ?_
 simp only [sT,sS,sZ]
 refine AnyK.tk 10 177 (.slice (some ⟨vb,0,none⟩) 5 vc) rfl rfl (by kernel_rfl) (fun _ _ _ h=>h) rfl (Or.inl ⟨rfl,fun w' _=>by go_simp⟩) hS ?_
 simp only [sT,sS,sZ]
 refine AnyK.tk 11 178 (.pointer (some ⟨vb,0,none⟩)) rfl rfl (by kernel_rfl) (fun _ _ _ h=>h) rfl (Or.inl ⟨rfl,fun w' _=>by go_simp⟩) hS ?_
 simp only [sT,sS,sZ]
 refine AnyK.tk 12 179 (.slice (some ⟨bA,0,none⟩) 3 3) rfl rfl (by kernel_rfl) (fun _ _ _ h=>h) rfl (Or.inl ⟨rfl,fun w' h=>by have q:=h.v.at 0 rfl;go_simp⟩) hS ?_
 simp only [sT,sS,sZ]
 clear hS
 refine AnyK.one (i:=6) (by kernel_rfl) rfl rfl ?_
 intro K hK
 have HKK:=Hid.mk hK
 clear hK
 go_wp2_with fail
 refine (lminus_any _ _ B A _ (HBn.out.2.1.up (by decide)) (HBn.out.1.up (by decide)) ⟨bB,rfl,(HK.out _ hBd).b⟩ ⟨bA,rfl,(HK.out _ hBd).a⟩).mono ?_
 rintro o uE ⟨xE,rfl,hE,hSt⟩
 have hBe:Below Vp.heap.size Vp uE:=hBd.trans (hSt.mono hBd.size)
 have HE:=Hid.mk hE
 obtain ⟨bE,rfl,_⟩:=hE
 refine HKK.out _ _ (fun _=>HK.out _ hBe) ?_
 clear HKK K hSt
 (try simp only [Act.put,sT,sS,sZ])
 refine AnyK.one (i:=13) (by kernel_rfl) rfl rfl ?_
 intro K hK
 have HKK:=Hid.mk hK
 clear hK
 go_wp2_with fail
 refine (lminus_any _ _ C A _ (HBn.out.2.2.1.up (by decide)) (HBn.out.1.up (by decide)) ⟨bC,rfl,(HK.out _ hBe).c⟩ ⟨bA,rfl,(HK.out _ hBe).a⟩).mono ?_
 rintro o uF ⟨xF,rfl,hF,hSt⟩
 have hBf:Below Vp.heap.size Vp uF:=hBe.trans (hSt.mono hBe.size)
 have HE:=Hid.mk (HE.out.later hSt)
 have HFF:=Hid.mk hF
 obtain ⟨bF,rfl,_⟩:=hF
 refine HKK.out _ _ (fun _=>HK.out _ hBf) ?_
 clear HKK K hSt
 (try simp only [Act.put,sT,sS,sZ])
 refine AnyK.one (i:=14) (by kernel_rfl) rfl rfl ?_
 intro K hK
 have HKK:=Hid.mk hK
 clear hK
 go_wp2_with fail
 refine (lcross_any _ _ (B.sub A) (C.sub A) 16 16 _ (HBn.out.2.1.sub HBn.out.1) (HBn.out.2.2.1.sub HBn.out.1) (by decide) HE.out HFF.out).mono ?_
 rintro o uG ⟨xG,rfl,hG,hSt⟩
 have hBg:Below Vp.heap.size Vp uG:=hBf.trans (hSt.mono hBf.size)
 have HG:=Hid.mk hG
 obtain ⟨bG,rfl,_⟩:=hG
 refine HKK.out _ _ (fun _=>HK.out _ hBg) ?_
 clear HKK K hSt
 (try simp only [Act.put,sT,sS,sZ])
 refine AnyK.one (i:=15) (by kernel_rfl) rfl rfl ?_
 intro K hK
 have HKK:=Hid.mk hK
 clear hK
 go_wp2_with fail
 refine HKK.out _ _ (fun h=>absurd rfl h) ?_
 clear HKK K
 refine AnyK.done (by kernel_rfl) ?_
 have HV10:=Hid.mk (HV9.out.later hBg)
 have HB10:Hid (Below w1.heap.size w1 uG):=HB9.out.trans (hBg.mono HB9.out.size)
 have HP10:=Hid.mk (HP9.out.later hBg)
 have HN10:Hid (Ce uG bG [.int .i64 (nrm A B C).x,.int .i64 (nrm A B C).y,.int .i64 (nrm A B C).z]):=HG.out.ce
 clear HE HFF HG hBd hBe hBf hBg HK HV9 HB9 HP9
 have HK:Hid (∀w',Below uG.heap.size uG w'→(fun w':World=>VsI vb bA bB bC bO bD A B C O D w') w'):=fun w' hb=>HV10.out.later hb
 go_wp2_with fail
 refine AnyK.regionK HK 13 (by kernel_rfl) ?_
 obtain ⟨WD,hWD⟩: ∃V,V=uG.drew:=⟨_,rfl⟩
 rw [←hWD]
 have hBd:Below uG.heap.size uG WD:=by rw [hWD];exact (Below.refl _ _).drew
 clear hWD
 have hS:=HK.out WD hBd
 refine AnyK.tk 0 182 (.slice (some ⟨vb,0,none⟩) 5 vc) rfl rfl (by kernel_rfl) (fun _ _ _ h=>h) rfl (Or.inl ⟨rfl,fun w' _=>by go_simp⟩) hS ?_
 simp only [sT,sS,sZ]
 refine AnyK.tk 1 183 (.pointer (some ⟨vb,0,none⟩)) rfl rfl (by kernel_rfl) (fun _ _ _ h=>h) rfl (Or.inl ⟨rfl,fun w' _=>by go_simp⟩) hS ?_
 simp only [sT,sS,sZ]
 refine AnyK.tk 2 184 (.slice (some ⟨bA,0,none⟩) 3 3) rfl rfl (by kernel_rfl) (fun _ _ _ h=>h) rfl (Or.inl ⟨rfl,fun w' h=>by have q:=h.v.at 0 rfl;go_simp⟩) hS ?_
 simp only [sT,sS,sZ]
 refine AnyK.tk 3 185 (.slice (some ⟨vb,0,none⟩) 5 vc) rfl rfl (by kernel_rfl) (fun _ _ _ h=>h) rfl (Or.inl ⟨rfl,fun w' _=>by go_simp⟩) hS ?_
 simp only [sT,sS,sZ]
 refine AnyK.tk 4 186 (.pointer (some ⟨vb,1,none⟩)) rfl rfl (by kernel_rfl) (fun _ _ _ h=>h) rfl (Or.inl ⟨rfl,fun w' _=>by go_simp⟩) hS ?_
 simp only [sT,sS,sZ]
 refine AnyK.tk 5 187 (.slice (some ⟨bB,0,none⟩) 3 3) rfl rfl (by kernel_rfl) (fun _ _ _ h=>h) rfl (Or.inl ⟨rfl,fun w' h=>by have q:=h.v.at 1 rfl;go_simp⟩) hS ?_
 simp only [sT,sS,sZ]
 refine AnyK.tk 6 188 (.slice (some ⟨vb,0,none⟩) 5 vc) rfl rfl (by kernel_rfl) (fun _ _ _ h=>h) rfl (Or.inl ⟨rfl,fun w' _=>by go_simp⟩) hS ?_
 simp only [sT,sS,sZ]
 refine AnyK.tk 7 189 (.pointer (some ⟨vb,2,none⟩)) rfl rfl (by kernel_rfl) (fun _ _ _ h=>h) rfl (Or.inl ⟨rfl,fun w' _=>by go_simp⟩) hS ?_
 simp only [sT,sS,sZ]
 refine AnyK.tk 8 190 (.slice (some ⟨bC,0,none⟩) 3 3) rfl rfl (by kernel_rfl) (fun _ _ _ h=>h) rfl (Or.inl ⟨rfl,fun w' h=>by have q:=h.v.at 2 rfl;go_simp⟩) hS ?_
 simp only [sT,sS,sZ]
 refine AnyK.tk 9 191 (.slice (some ⟨vb,0,none⟩) 5 vc) rfl rfl (by kernel_rfl) (fun _ _ _ h=>h) rfl (Or.inl ⟨rfl,fun w' _=>by go_simp⟩) hS ?_
 simp only [sT,sS,sZ]
 refine AnyK.tk 10 192 (.pointer (some ⟨vb,0,none⟩)) rfl rfl (by kernel_rfl) (fun _ _ _ h=>h) rfl (Or.inl ⟨rfl,fun w' _=>by go_simp⟩) hS ?_
 simp only [sT,sS,sZ]
 refine AnyK.tk 11 193 (.slice (some ⟨bA,0,none⟩) 3 3) rfl rfl (by kernel_rfl) (fun _ _ _ h=>h) rfl (Or.inl ⟨rfl,fun w' h=>by have q:=h.v.at 0 rfl;go_simp⟩) hS ?_
 simp only [sT,sS,sZ]
 refine AnyK.one (i:=12) (by kernel_rfl) rfl rfl ?_
 intro K hK
 have HKK:=Hid.mk hK
 clear hK hS
 go_wp2_with fail
 obtain ⟨Vk,hVk⟩: ∃V,WD.alloc (.cells #[.slice (some ⟨bA,0,none⟩) 3 3,.slice (some ⟨bB,0,none⟩) 3 3,.slice (some ⟨bC,0,none⟩) 3 3,.slice (some ⟨bA,0,none⟩) 3 3] 66)=V:=⟨_,rfl⟩
 have bWk:Below WD.heap.size WD Vk:=by rw [←hVk];exact bel0 _ _
 have hck:Ce Vk WD.heap.size [.slice (some ⟨bA,0,none⟩) 3 3,.slice (some ⟨bB,0,none⟩) 3 3,.slice (some ⟨bC,0,none⟩) 3 3,.slice (some ⟨bA,0,none⟩) 3 3]:=by rw [←hVk];exact (Cs.new _ _ _).ce
 have hbk:Below uG.heap.size uG Vk:=hBd.trans (bWk.mono hBd.size)
 rw [hVk]
 refine HKK.out _ _ (fun _=>HK.out _ hbk) ?_
 clear HKK K
 (try simp only [Act.put,sT,sS,sZ])
 refine AnyK.one (i:=13) (by kernel_rfl) rfl rfl ?_
 intro K hK
 have HKK:=Hid.mk hK
 clear hK
 go_wp2_with fail
 refine HKK.out _ _ (fun h=>absurd rfl h) ?_
 clear HKK K
 refine AnyK.done (by kernel_rfl) ?_
 obtain ⟨cb,hcb⟩: ∃b,b=WD.heap.size:=⟨_,rfl⟩
 rw [←hcb] at hck⊢
 obtain ⟨nb,hnb⟩: ∃b,b=bG:=⟨_,rfl⟩
 rw [←hnb] at HN10⊢
 have HL0:Hid (LpI vb bA bB bC bO bD cb pb nb A B C O D (ptV O D u v) w1 Vk):=⟨HV10.out.later hbk,hck,HP10.out.later hbk,HN10.out.later hbk,HB10.out.trans (hbk.mono HB10.out.size)⟩
 clear hck hcb hnb bWk hVk hbk hBd HK HV10 HB10 HP10 HN10
 go_wp2
 go_loopw [21,22] (fun se si wr=> ∃(i:Nat) (e:Bool),i≤3∧si= .int .i64 (i:Int)∧se= .bool e∧Hid (EdgI A B C O D u v i e)∧Hid (LpI vb bA bB bC bO bD cb pb nb A B C O D (ptV O D u v) w1 wr)) (fun _ si _=>3-(intOf si).toNat)
 case atStart=>exact ⟨0,_,by omega,rfl,rfl,⟨fun h=>by simp [h],fun j hj=>by omega⟩,HL0.out⟩
 case round=>
  obtain ⟨i,e,hi,rfl,rfl,HE,HL⟩:=hrel
  clear HL0
  by_cases h3:i=3
  ·subst h3
   have c4:=HL.out.vs.v.at 4 rfl
   go_wp2_with fail
   clear c4
   refine (ldot_any _ _ (nrm A B C) D 512 8 _ (HBn.out.1.nrm HBn.out.2.1 HBn.out.2.2.1) HBn.out.2.2.2.2 (by decide) ⟨nb,rfl,HL.out.n⟩ ⟨bD,rfl,HL.out.vs.d⟩).mono ?_
   rintro o w14 ⟨rfl,hb⟩
   have HL6:=Hid.mk (HL.out.later hb)
   clear hb HL
   obtain ⟨G,hG⟩: ∃G,G=(nrm A B C).dot D:=⟨_,rfl⟩
   rw [←hG]
   have HG:=Hid.mk hG
   have hGb: -12288≤G∧G≤12288:=by
    have:=(HBn.out.1.nrm HBn.out.2.1 HBn.out.2.2.1).dot HBn.out.2.2.2.2
    rw [←hG] at this
    omega
   clear hG
   by_cases hg:G=0
   ·have he:e=true:=by
     rcases HF.out.edge (by rw [←HG.out];exact hg) with h| ⟨j,hj,h⟩
     ·exact HE.out.1 h
     ·exact HE.out.2 j hj h
    have HZ:Hid (Below w.heap.size w w14):=HB1.out.trans (HL6.out.bel.mono HB1.out.size)
    subst he hg
    clear hGb HL6
    go_wp2
    go_ret
    exact ⟨rfl,HZ.out⟩
   ·have hg1:(G==0)=false:=by rw [beq_eq_false_iff_ne];exact hg
    have hg2:(G !=0)=true:=by simp [hg]
    obtain ⟨H2,hH2⟩: ∃G,G=(nrm A B C).dot (A.sub O):=⟨_,rfl⟩
    have hHb: -24576≤H2∧H2≤24576:=by
     have:=(HBn.out.1.nrm HBn.out.2.1 HBn.out.2.2.1).dot (HBn.out.1.sub HBn.out.2.2.2.1)
     rw [←hH2] at this
     omega
    have HH2:=Hid.mk hH2
    have HPL:Hid (u*G=v*H2):=by rw [HG.out,hH2];exact HF.out.plane
    have mG:=mulb (a:=10000000) (b:=12288) (x:=u) (y:=G) ⟨by omega,by omega⟩ hGb
    have mH:=mulb (a:=10000000) (b:=24576) (x:=v) (y:=H2) ⟨by omega,by omega⟩ hHb
    have q34a:=wrap_p (n:=u*G) (by omega)
    have q34b:=wrap_p (n:=v*H2) (by omega)
    clear mG mH hHb hGb hH2
    have HK:Hid (∀w',Below w14.heap.size w14 w'→(fun w':World=>LpI vb bA bB bC bO bD cb pb nb A B C O D (ptV O D u v) w1 w') w'):=fun w' hb=>HL6.out.later hb
    go_wp2_with fail
    refine AnyK.regionK HK 19 (by kernel_rfl) ?_
    obtain ⟨WD,hWD⟩: ∃V,V=w14.drew:=⟨_,rfl⟩
    rw [←hWD]
    have hBd:Below w14.heap.size w14 WD:=by rw [hWD];exact (Below.refl _ _).drew
    clear hWD
    have hS:=HK.out WD hBd
    refine AnyK.tk 0 251 (.int .i64 (u)) rfl rfl (by kernel_rfl) (fun _ _ _ h=>h) rfl (Or.inl ⟨rfl,fun w' _=>by go_simp⟩) hS ?_
    simp only [sT,sS,sZ]
    refine AnyK.tk 1 252 (.slice (some ⟨nb,0,none⟩) 3 3) rfl rfl (by kernel_rfl) (fun _ _ _ h=>h) rfl (Or.inl ⟨rfl,fun w' _=>by go_simp⟩) hS ?_
    simp only [sT,sS,sZ]
    refine AnyK.tk 2 253 (.slice (some ⟨vb,0,none⟩) 5 vc) rfl rfl (by kernel_rfl) (fun _ _ _ h=>h) rfl (Or.inl ⟨rfl,fun w' _=>by go_simp⟩) hS ?_
    simp only [sT,sS,sZ]
    refine AnyK.tk 3 254 (.pointer (some ⟨vb,4,none⟩)) rfl rfl (by kernel_rfl) (fun _ _ _ h=>h) rfl (Or.inl ⟨rfl,fun w' _=>by go_simp⟩) hS ?_
    simp only [sT,sS,sZ]
    refine AnyK.tk 4 255 (.slice (some ⟨bD,0,none⟩) 3 3) rfl rfl (by kernel_rfl) (fun _ _ _ h=>h) rfl (Or.inl ⟨rfl,fun w' h=>by have q:=h.vs.v.at 4 rfl;go_simp⟩) hS ?_
    simp only [sT,sS,sZ]
    refine AnyK.tk 7 258 (.int .i64 (v)) rfl rfl (by kernel_rfl) (fun _ _ _ h=>h) rfl (Or.inl ⟨rfl,fun w' _=>by go_simp⟩) hS ?_
    simp only [sT,sS,sZ]
    refine AnyK.tk 8 259 (.slice (some ⟨nb,0,none⟩) 3 3) rfl rfl (by kernel_rfl) (fun _ _ _ h=>h) rfl (Or.inl ⟨rfl,fun w' _=>by go_simp⟩) hS ?_
    simp only [sT,sS,sZ]
    refine AnyK.tk 9 260 (.slice (some ⟨vb,0,none⟩) 5 vc) rfl rfl (by kernel_rfl) (fun _ _ _ h=>h) rfl (Or.inl ⟨rfl,fun w' _=>by go_simp⟩) hS ?_
    simp only [sT,sS,sZ]
    refine AnyK.tk 10 261 (.pointer (some ⟨vb,0,none⟩)) rfl rfl (by kernel_rfl) (fun _ _ _ h=>h) rfl (Or.inl ⟨rfl,fun w' _=>by go_simp⟩) hS ?_
    simp only [sT,sS,sZ]
    refine AnyK.tk 11 262 (.slice (some ⟨bA,0,none⟩) 3 3) rfl rfl (by kernel_rfl) (fun _ _ _ h=>h) rfl (Or.inl ⟨rfl,fun w' h=>by have q:=h.vs.v.at 0 rfl;go_simp⟩) hS ?_
    simp only [sT,sS,sZ]
    refine AnyK.tk 12 263 (.slice (some ⟨vb,0,none⟩) 5 vc) rfl rfl (by kernel_rfl) (fun _ _ _ h=>h) rfl (Or.inl ⟨rfl,fun w' _=>by go_simp⟩) hS ?_
    simp only [sT,sS,sZ]
    refine AnyK.tk 13 264 (.pointer (some ⟨vb,3,none⟩)) rfl rfl (by kernel_rfl) (fun _ _ _ h=>h) rfl (Or.inl ⟨rfl,fun w' _=>by go_simp⟩) hS ?_
    simp only [sT,sS,sZ]
    refine AnyK.tk 14 265 (.slice (some ⟨bO,0,none⟩) 3 3) rfl rfl (by kernel_rfl) (fun _ _ _ h=>h) rfl (Or.inl ⟨rfl,fun w' h=>by have q:=h.vs.v.at 3 rfl;go_simp⟩) hS ?_
    simp only [sT,sS,sZ]
    clear hS
    refine AnyK.one (i:=5) (by kernel_rfl) rfl rfl ?_
    intro K hK
    have HKK:=Hid.mk hK
    clear hK
    go_wp2_with fail
    refine (ldot_any _ _ (nrm A B C) D 512 8 _ (HBn.out.1.nrm HBn.out.2.1 HBn.out.2.2.1) HBn.out.2.2.2.2 (by decide) ⟨nb,rfl,(HK.out _ hBd).n⟩ ⟨bD,rfl,(HK.out _ hBd).vs.d⟩).mono ?_
    rintro o uH ⟨rfl,hSt⟩
    have hBh:Below w14.heap.size w14 uH:=hBd.trans (hSt.mono hBd.size)
    rw [←HG.out]
    refine HKK.out _ _ (fun _=>HK.out _ hBh) ?_
    clear HKK K hSt
    (try simp only [Act.put,sT,sS,sZ])
    have hS:=HK.out _ hBh
    refine AnyK.tk 6 257 (.int .i64 (u*G)) rfl rfl (by kernel_rfl) (fun _ _ _ h=>h) rfl (Or.inl ⟨rfl,fun w' _=>by go_simp⟩) hS ?_
    simp only [sT,sS,sZ]
    refine AnyK.one (i:=15) (by kernel_rfl) rfl rfl ?_
    intro K hK
    have HKK:=Hid.mk hK
    clear hK
    go_wp2_with fail
    refine (lminus_any _ _ A O _ (HBn.out.1.up (by decide)) (HBn.out.2.2.2.1.up (by decide)) ⟨bA,rfl,(HK.out _ hBh).vs.a⟩ ⟨bO,rfl,(HK.out _ hBh).vs.o⟩).mono ?_
    rintro o uJ ⟨xJ,rfl,hJ,hSt⟩
    have hBj:Below w14.heap.size w14 uJ:=hBh.trans (hSt.mono hBh.size)
    have HJ:=Hid.mk hJ
    obtain ⟨bJ,rfl,_⟩:=hJ
    refine HKK.out _ _ (fun _=>HK.out _ hBj) ?_
    clear HKK K hSt
    (try simp only [Act.put,sT,sS,sZ])
    refine AnyK.one (i:=16) (by kernel_rfl) rfl rfl ?_
    intro K hK
    have HKK:=Hid.mk hK
    clear hK
    go_wp2_with fail
    refine (ldot_any _ _ (nrm A B C) (A.sub O) 512 16 _ (HBn.out.1.nrm HBn.out.2.1 HBn.out.2.2.1) (HBn.out.1.sub HBn.out.2.2.2.1) (by decide) ⟨nb,rfl,(HK.out _ hBj).n⟩ ⟨bJ,rfl,HJ.out.ce⟩).mono ?_
    rintro o uL ⟨rfl,hSt⟩
    have hBl:Below w14.heap.size w14 uL:=hBj.trans (hSt.mono hBj.size)
    rw [←HH2.out]
    refine HKK.out _ _ (fun _=>HK.out _ hBl) ?_
    clear HKK K hSt
    (try simp only [Act.put,sT,sS,sZ])
    replace hS:=HK.out _ hBl
    refine AnyK.tk 17 268 (.int .i64 (v*H2)) rfl rfl (by kernel_rfl) (fun _ _ _ h=>h) rfl (Or.inl ⟨rfl,fun w' _=>by go_simp⟩) hS ?_
    simp only [sT,sS,sZ]
    refine AnyK.tk 18 269 (.bool (u*G==v*H2)) rfl rfl (by kernel_rfl) (fun _ _ _ h=>h) rfl (Or.inl ⟨rfl,fun w' _=>by go_simp⟩) hS ?_
    simp only [sT,sS,sZ]
    refine AnyK.one (i:=19) (by kernel_rfl) rfl rfl ?_
    intro K hK
    have HKK:=Hid.mk hK
    clear hK
    go_wp2_with fail
    refine HKK.out _ _ (fun h=>absurd rfl h) ?_
    clear HKK K
    refine AnyK.done (by kernel_rfl) ?_
    have HZ:Hid (Below w.heap.size w uL):=HB1.out.trans ((HK.out _ hBl).bel.mono HB1.out.size)
    clear hBd hBh hBj hBl HK hS HJ HL6
    go_wp2
    go_ret
    exact ⟨by rw [HPL.out];simp,HZ.out⟩
  ·have hi3:i<3:=by omega
   have hij:(i:Int)<3:=by omega
   obtain ⟨bX,bY,cX,eX,cY,eY⟩:=HL.out.corner hi3
   obtain ⟨X,hX⟩: ∃X,X=corner A B C i:=⟨_,rfl⟩
   obtain ⟨Y,hY⟩: ∃Y,Y=corner A B C (i+1):=⟨_,rfl⟩
   rw [←hX] at eX
   rw [←hY] at eY
   have HXB:Hid (Bnd3 8 X):=by rw [hX];exact corner_bnd HBn.out.1 HBn.out.2.1 HBn.out.2.2.1 i
   have HYB:Hid (Bnd3 8 Y):=by rw [hY];exact corner_bnd HBn.out.1 HBn.out.2.1 HBn.out.2.2.1 (i+1)
   have HON:Hid ((nrm A B C).dot (at3 O D X u v)=0):=by rw [hX];exact HF.out.on i hi3
   obtain ⟨Sd,hSd⟩: ∃z,z=((nrm A B C).cross (Y.sub X)).dot (at3 O D X u v):=⟨_,rfl⟩
   have HSI:Hid (Sd=sideI A B C O D u v i):=by rw [hSd,hX,hY];rfl
   have hS0:0≤Sd:=by rw [HSI.out];exact HF.out.side i hi3
   have HSd:=Hid.mk hSd
   have HAB:Hid (Bnd3 240000000 (at3 O D X u v)):=(by rw [←from_at];exact ((ptV_bnd HBn.out.2.2.2.1 HBn.out.2.2.2.2 ⟨by omega,by omega⟩ ⟨by omega,by omega⟩).sub (mulV_bnd (l:=10000000) HXB.out ⟨by omega,by omega⟩)))
   have HX1:=Hid.mk eX
   have HY1:=Hid.mk eY
   have HCY:=Hid.mk cY
   have mX:=mulV_bnd (q:=v) (l:=10000000) HXB.out ⟨by omega,by omega⟩
   obtain ⟨m1,m2,m3⟩:=mX
   simp only [mulV] at m1 m2 m3
   have q26x0:=wrap_p (n:=X.x*v) (by omega)
   have q26x1:=wrap_p (n:=X.y*v) (by omega)
   have q26x2:=wrap_p (n:=X.z*v) (by omega)
   clear m1 m2 m3 hX hY eX eY hSd cY
   have HK:Hid (∀w',Below wr.heap.size wr w'→(fun w':World=>Ce w' bX [.int .i64 X.x,.int .i64 X.y,.int .i64 X.z]) w'):=fun w' hb=>HX1.out.later hb
   go_wp2_with fail
   clear cX
   refine AnyK.regionK HK 18 (by kernel_rfl) ?_
   obtain ⟨WD,hWD⟩: ∃V,V=wr.drew:=⟨_,rfl⟩
   rw [←hWD]
   have hBd:Below wr.heap.size wr WD:=by rw [hWD];exact (Below.refl _ _).drew
   clear hWD
   have hS:=HK.out WD hBd
   refine AnyK.tk 0 205 (.slice (some ⟨pb,0,none⟩) 3 3) rfl rfl (by kernel_rfl) (fun _ _ _ h=>h) rfl (Or.inl ⟨rfl,fun w' _=>by go_simp⟩) hS ?_
   simp only [sT,sS,sZ]
   refine AnyK.tk 1 206 (.slice (some ⟨bX,0,none⟩) 3 3) rfl rfl (by kernel_rfl) (fun _ _ _ h=>h) rfl (Or.inl ⟨rfl,fun w' _=>by go_simp⟩) hS ?_
   simp only [sT,sS,sZ]
   refine AnyK.tk 2 207 (.pointer (some ⟨bX,0,none⟩)) rfl rfl (by kernel_rfl) (fun _ _ _ h=>h) rfl (Or.inl ⟨rfl,fun w' _=>by go_simp⟩) hS ?_
   simp only [sT,sS,sZ]
   refine AnyK.tk 3 208 (.int .i64 (X.x)) rfl rfl (by kernel_rfl) (fun _ _ _ h=>h) rfl (Or.inl ⟨rfl,fun w' h=>by have q:=h.at 0 rfl;go_simp⟩) hS ?_
   simp only [sT,sS,sZ]
   refine AnyK.tk 4 209 (.int .i64 (v)) rfl rfl (by kernel_rfl) (fun _ _ _ h=>h) rfl (Or.inl ⟨rfl,fun w' _=>by go_simp⟩) hS ?_
   simp only [sT,sS,sZ]
   refine AnyK.tk 5 210 (.int .i64 (X.x*v)) rfl rfl (by kernel_rfl) (fun _ _ _ h=>h) rfl (Or.inl ⟨rfl,fun w' _=>by go_simp⟩) hS ?_
   simp only [sT,sS,sZ]
   refine AnyK.tk 6 211 (.slice (some ⟨bX,0,none⟩) 3 3) rfl rfl (by kernel_rfl) (fun _ _ _ h=>h) rfl (Or.inl ⟨rfl,fun w' _=>by go_simp⟩) hS ?_
   simp only [sT,sS,sZ]
   refine AnyK.tk 7 212 (.pointer (some ⟨bX,1,none⟩)) rfl rfl (by kernel_rfl) (fun _ _ _ h=>h) rfl (Or.inl ⟨rfl,fun w' _=>by go_simp⟩) hS ?_
   simp only [sT,sS,sZ]
   refine AnyK.tk 8 213 (.int .i64 (X.y)) rfl rfl (by kernel_rfl) (fun _ _ _ h=>h) rfl (Or.inl ⟨rfl,fun w' h=>by have q:=h.at 1 rfl;go_simp⟩) hS ?_
   simp only [sT,sS,sZ]
   refine AnyK.tk 9 214 (.int .i64 (v)) rfl rfl (by kernel_rfl) (fun _ _ _ h=>h) rfl (Or.inl ⟨rfl,fun w' _=>by go_simp⟩) hS ?_
   simp only [sT,sS,sZ]
   refine AnyK.tk 10 215 (.int .i64 (X.y*v)) rfl rfl (by kernel_rfl) (fun _ _ _ h=>h) rfl (Or.inl ⟨rfl,fun w' _=>by go_simp⟩) hS ?_
   simp only [sT,sS,sZ]
   refine AnyK.tk 11 216 (.slice (some ⟨bX,0,none⟩) 3 3) rfl rfl (by kernel_rfl) (fun _ _ _ h=>h) rfl (Or.inl ⟨rfl,fun w' _=>by go_simp⟩) hS ?_
   simp only [sT,sS,sZ]
   refine AnyK.tk 12 217 (.pointer (some ⟨bX,2,none⟩)) rfl rfl (by kernel_rfl) (fun _ _ _ h=>h) rfl (Or.inl ⟨rfl,fun w' _=>by go_simp⟩) hS ?_
   simp only [sT,sS,sZ]
   refine AnyK.tk 13 218 (.int .i64 (X.z)) rfl rfl (by kernel_rfl) (fun _ _ _ h=>h) rfl (Or.inl ⟨rfl,fun w' h=>by have q:=h.at 2 rfl;go_simp⟩) hS ?_
   simp only [sT,sS,sZ]
   refine AnyK.tk 14 219 (.int .i64 (v)) rfl rfl (by kernel_rfl) (fun _ _ _ h=>h) rfl (Or.inl ⟨rfl,fun w' _=>by go_simp⟩) hS ?_
   simp only [sT,sS,sZ]
   refine AnyK.tk 15 220 (.int .i64 (X.z*v)) rfl rfl (by kernel_rfl) (fun _ _ _ h=>h) rfl (Or.inl ⟨rfl,fun w' _=>by go_simp⟩) hS ?_
   simp only [sT,sS,sZ]
   refine AnyK.one (i:=16) (by kernel_rfl) rfl rfl ?_
   intro K hK
   have HKK:=Hid.mk hK
   clear hK hS
   go_wp2_with fail
   obtain ⟨Vm,hVm⟩: ∃V,WD.alloc (.cells #[.int .i64 (X.x*v),.int .i64 (X.y*v),.int .i64 (X.z*v)] 3)=V:=⟨_,rfl⟩
   have bWm:Below WD.heap.size WD Vm:=by rw [←hVm];exact bel0 _ _
   have hcm:Ce Vm WD.heap.size [.int .i64 (X.x*v),.int .i64 (X.y*v),.int .i64 (X.z*v)]:=by rw [←hVm];exact (Cs.new _ _ _).ce
   have hbm:Below wr.heap.size wr Vm:=hBd.trans (bWm.mono hBd.size)
   rw [hVm]
   refine HKK.out _ _ (fun _=>HK.out _ hbm) ?_
   clear HKK K
   (try simp only [Act.put,sT,sS,sZ])
   refine AnyK.one (i:=17) (by kernel_rfl) rfl rfl ?_
   intro K hK
   have HKK:=Hid.mk hK
   clear hK
   go_wp2_with fail
   refine (lminus_any _ _ (ptV O D u v) (mulV X v) _ ((ptV_bnd HBn.out.2.2.2.1 HBn.out.2.2.2.2 ⟨by omega,by omega⟩ ⟨by omega,by omega⟩).up (by decide)) ((mulV_bnd (l:=10000000) HXB.out ⟨by omega,by omega⟩).up (by decide)) ⟨pb,rfl,HL.out.p.later hbm⟩ ⟨_,rfl,hcm⟩).mono ?_
   rintro o uF ⟨xF,rfl,hF,hSt⟩
   have hBf:Below wr.heap.size wr uF:=hbm.trans (hSt.mono hbm.size)
   have HFR:=Hid.mk hF
   obtain ⟨bF,rfl,_⟩:=hF
   refine HKK.out _ _ (fun _=>HK.out _ hBf) ?_
   clear HKK K hSt
   (try simp only [Act.put,sT,sS,sZ])
   refine AnyK.one (i:=18) (by kernel_rfl) rfl rfl ?_
   intro K hK
   have HKK:=Hid.mk hK
   clear hK
   go_wp2_with fail
   refine HKK.out _ _ (fun h=>absurd rfl h) ?_
   clear HKK K
   refine AnyK.done (by kernel_rfl) ?_
   have HL1:=Hid.mk (HL.out.later hBf)
   have HX2:=Hid.mk (HX1.out.later hBf)
   have HY2:=Hid.mk (HY1.out.later hBf)
   have cY:uF.cell? ⟨cb,i+1,none⟩=some (.slice (some ⟨bY,0,none⟩) 3 3):=(hBf.cell (p:=⟨cb,i+1,none⟩) HL.out.c.1).trans HCY.out
   have HCY:=Hid.mk cY
   have HFR:Hid (Ce uF bF [.int .i64 (at3 O D X u v).x,.int .i64 (at3 O D X u v).y,.int .i64 (at3 O D X u v).z]):=by
    have:=HFR.out.ce
    rw [from_at] at this
    exact this
   clear hcm bWm hVm hbm hBf hBd HK HL HX1 HY1 cY q26x0 q26x1 q26x2
   go_wp2_with fail
   refine (ldot_any _ _ (nrm A B C) (at3 O D X u v) 512 240000000 _ (HBn.out.1.nrm HBn.out.2.1 HBn.out.2.2.1) HAB.out (by decide) ⟨nb,rfl,HL1.out.n⟩ ⟨bF,rfl,HFR.out⟩).mono ?_
   rintro o w10 ⟨rfl,hb⟩
   rw [HON.out]
   have HL2:=Hid.mk (HL1.out.later hb)
   have HX3:=Hid.mk (HX2.out.later hb)
   have HY3:=Hid.mk (HY2.out.later hb)
   have HF3:=Hid.mk (HFR.out.later hb)
   have cY:w10.cell? ⟨cb,i+1,none⟩=some (.slice (some ⟨bY,0,none⟩) 3 3):=(hb.cell (p:=⟨cb,i+1,none⟩) HL1.out.c.1).trans HCY.out
   clear hb HL1 HX2 HY2 HFR HCY
   go_wp2_with fail
   clear cY
   refine (lminus_any _ _ Y X _ (HYB.out.up (by decide)) (HXB.out.up (by decide)) ⟨bY,rfl,HY3.out⟩ ⟨bX,rfl,HX3.out⟩).mono ?_
   rintro o w11 ⟨xe,rfl,he,hb⟩
   obtain ⟨bE,rfl,_⟩:=id he
   have HE4:=Hid.mk he.ce
   have HL3:=Hid.mk (HL2.out.later hb)
   have HF4:=Hid.mk (HF3.out.later hb)
   clear hb HL2 HX3 HY3 HF3 he
   go_wp2_with fail
   refine (lcross_any _ _ (nrm A B C) (Y.sub X) 512 16 _ (HBn.out.1.nrm HBn.out.2.1 HBn.out.2.2.1) (HYB.out.sub HXB.out) (by decide) ⟨nb,rfl,HL3.out.n⟩ ⟨bE,rfl,HE4.out⟩).mono ?_
   rintro o w12 ⟨xg,rfl,hg,hb⟩
   obtain ⟨bG2,rfl,_⟩:=id hg
   have HG5:=Hid.mk hg.ce
   have HL4:=Hid.mk (HL3.out.later hb)
   have HF5:=Hid.mk (HF4.out.later hb)
   clear hb HL3 HF4 HE4 hg
   go_wp2_with fail
   refine (ldot_any _ _ ((nrm A B C).cross (Y.sub X)) (at3 O D X u v) 16384 240000000 _ ((HBn.out.1.nrm HBn.out.2.1 HBn.out.2.2.1).cross (HYB.out.sub HXB.out)) HAB.out (by decide) ⟨bG2,rfl,HG5.out⟩ ⟨bF,rfl,HF5.out⟩).mono ?_
   rintro o w13 ⟨rfl,hb⟩
   rw [←HSd.out]
   have HL5:=Hid.mk (HL4.out.later hb)
   clear hb HL4 HG5 HF5
   cases e
   ·go_wp2
    go_roundw
    case rel=>exact ⟨i+1,_,by omega,by go_num,rfl,Hid.mk (HE.out.step (fun h=>by cases h) (fun h=>by rw [←HSI.out] at h;simp [h])),HL5⟩
    case measure=>simp [intOf];omega
   ·go_wp2
    go_roundw
    case rel=>exact ⟨i+1,_,by omega,by go_num,rfl,Hid.mk (HE.out.step (fun _=>rfl) (fun _=>rfl)),HL5⟩
    case measure=>simp [intOf];omega
theorem ptFar (a:Option Addr) (n c:Nat) (w:World) (h:(n:Int)>1048576):
 Calls Tryz.prog 6 #[.slice a n c] w fun e w'=>e= .returned (.bool true)∧Below w.heap.size w w':=by
 go_enter Tryz.func6,Tryz.ntmps6
 go_wp2
 go_ret
 exact ⟨rfl,Below.refl _ _⟩
theorem ptLawA (a:Option Addr) (c:Nat) (bs:List Int) (w:World) (hT:Tab w) (hc:bs.length≤c) (hcm:c≤maxLen) (hnil:a=none→c=0) (hr:RowAt .u8 w a bs) (hb8:Dig 256 bs):
 Calls Tryz.prog 6 #[.slice a bs.length c] w fun e w'=>e= .returned (.bool true)∧Below w.heap.size w w':=by
 by_cases h:(1048576:Int)<bs.length
 ·exact ptFar a _ c w h
 ·exact ptLawF a c bs w hT (by omega) hc hcm hnil hr hb8
end Go.Proofs.YtfieffpobgcpmaaGreatDoor
