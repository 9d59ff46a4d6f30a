import Derived.Test.YtfieffpobgcpmaaGreatDoorDwDDwEDwF
import Derived.Deep.CutRange
import Derived.Test.YtfieffpobgcpmaaGreatDoorHoMHoPFpFDraw0
set_option maxRecDepth 100000
set_option maxHeartbeats 32000000
namespace Go.Proofs.YtfieffpobgcpmaaGreatDoor
open Go.RowKit
def DrawHt (w:World) (e:Ending) (w':World):Prop:= ∃x0 x1 x2 x3 x4 x5 x6 x7 x8 y0 y1 y2 y3 y4 y5:Int,U32 [x0,x1,x2,x3,x4,x5,x6,x7,x8]∧U32 [y0,y1,y2,y3,y4,y5]∧e= .returned (.tuple #[.agg #[.int .u32 x0,.int .u32 x1,.int .u32 x2,.int .u32 x3,.int .u32 x4,.int .u32 x5,.int .u32 x6,.int .u32 x7,.int .u32 x8],.agg #[.int .u32 y0,.int .u32 y1,.int .u32 y2,.int .u32 y3,.int .u32 y4,.int .u32 y5]])∧Below w.heap.size w w'
theorem drawH_any (a:Option Addr) (c:Nat) (bs:List Int) (w:World) (hn:bs.length≤1048576) (hc:bs.length≤c) (hcm:c≤maxLen) (hnil:a=none→c=0) (hr:RowAt .u8 w a bs) (hb8:Dig 256 bs):
 Calls Tryz.prog 24 #[.slice a bs.length c] w fun e w'=>DrawHt w e w':=by
 have hO: ∀W,Below w.heap.size w W→RowAt .u8 W a bs:=fun W hb=>hr.later hb
 have HO:=Hid.mk (fun W hb=>open_any a c bs W hn hc hcm hnil (hO W hb) hb8)
 have hb3:Below w.heap.size w ((w.alloc (.cells #[.int .u32 0,.int .u32 0,.int .u32 0,.int .u32 0,.int .u32 0,.int .u32 0,.int .u32 0,.int .u32 0,.int .u32 0] 36)).alloc (.cells #[.int .u32 0,.int .u32 0,.int .u32 0,.int .u32 0,.int .u32 0,.int .u32 0] 39)):=(bel0 _ _).trans ((bel0 _ _).mono (by simp))
 have N0:Cs ((w.alloc (.cells #[.int .u32 0,.int .u32 0,.int .u32 0,.int .u32 0,.int .u32 0,.int .u32 0,.int .u32 0,.int .u32 0,.int .u32 0] 36)).alloc (.cells #[.int .u32 0,.int .u32 0,.int .u32 0,.int .u32 0,.int .u32 0,.int .u32 0] 39)) w.heap.size [.int .u32 0,.int .u32 0,.int .u32 0,.int .u32 0,.int .u32 0,.int .u32 0,.int .u32 0,.int .u32 0,.int .u32 0]:=(Cs.new w _ _).later (bel0 _ _)
 have N1:Cs ((w.alloc (.cells #[.int .u32 0,.int .u32 0,.int .u32 0,.int .u32 0,.int .u32 0,.int .u32 0,.int .u32 0,.int .u32 0,.int .u32 0] 36)).alloc (.cells #[.int .u32 0,.int .u32 0,.int .u32 0,.int .u32 0,.int .u32 0,.int .u32 0] 39)) (w.heap.size+1) [.int .u32 0,.int .u32 0,.int .u32 0,.int .u32 0,.int .u32 0,.int .u32 0]:=by
  have:=Cs.new (w.alloc (.cells #[.int .u32 0,.int .u32 0,.int .u32 0,.int .u32 0,.int .u32 0,.int .u32 0,.int .u32 0,.int .u32 0,.int .u32 0] 36)) #[.int .u32 0,.int .u32 0,.int .u32 0,.int .u32 0,.int .u32 0,.int .u32 0] 39
  simpa using this
 have HN:Hid (Cs ((w.alloc (.cells #[.int .u32 0,.int .u32 0,.int .u32 0,.int .u32 0,.int .u32 0,.int .u32 0,.int .u32 0,.int .u32 0,.int .u32 0] 36)).alloc (.cells #[.int .u32 0,.int .u32 0,.int .u32 0,.int .u32 0,.int .u32 0,.int .u32 0] 39)) w.heap.size [.int .u32 0,.int .u32 0,.int .u32 0,.int .u32 0,.int .u32 0,.int .u32 0,.int .u32 0,.int .u32 0,.int .u32 0]∧Cs ((w.alloc (.cells #[.int .u32 0,.int .u32 0,.int .u32 0,.int .u32 0,.int .u32 0,.int .u32 0,.int .u32 0,.int .u32 0,.int .u32 0] 36)).alloc (.cells #[.int .u32 0,.int .u32 0,.int .u32 0,.int .u32 0,.int .u32 0,.int .u32 0] 39)) (w.heap.size+1) [.int .u32 0,.int .u32 0,.int .u32 0,.int .u32 0,.int .u32 0,.int .u32 0]∧True):=⟨N0,N1,trivial⟩
 have HB3:=Hid.mk hb3
 have hs3:((w.alloc (.cells #[.int .u32 0,.int .u32 0,.int .u32 0,.int .u32 0,.int .u32 0,.int .u32 0,.int .u32 0,.int .u32 0,.int .u32 0] 36)).alloc (.cells #[.int .u32 0,.int .u32 0,.int .u32 0,.int .u32 0,.int .u32 0,.int .u32 0] 39)).heap.size=w.heap.size+1+1:=by simp
 have HS3:=Hid.mk hs3
 clear hO hb3 N0 N1 hs3 hr hb8 hnil
 go_enter Tryz.func24,Tryz.ntmps24
 go_wp2_with fail
 refine (HO.out _ HB3.out).mono ?_
 rintro e w1 ⟨rfl,hr1,hb1,_⟩
 rw [HS3.out] at hr1 hb1⊢
 obtain ⟨P,hP⟩: ∃P,P=w.heap.size+1+1:=⟨_,rfl⟩
 rw [←hP] at hr1⊢
 have X1:Hid (Cs w1 w.heap.size [.int .u32 0,.int .u32 0,.int .u32 0,.int .u32 0,.int .u32 0,.int .u32 0,.int .u32 0,.int .u32 0,.int .u32 0]∧Cs w1 (w.heap.size+1) [.int .u32 0,.int .u32 0,.int .u32 0,.int .u32 0,.int .u32 0,.int .u32 0]∧True):=by
  have hb:=hb1
  rw [←HS3.out] at hb
  exact ⟨HN.out.1.later hb,HN.out.2.1.later hb,trivial⟩
 have H1:Hid (Rd P w1∧Below w.heap.size w w1):=⟨hr1,HB3.out.trans (hb1.mono (by omega))⟩
 have hPl:w.heap.size+1<P:=by omega
 clear hr1 hb1 HN HB3 HS3 HO hP
 go_wp2_with fail
 refine (next_any P _ H1.out.1).mono ?_
 rintro e w2 ⟨k0,rfl,hj0,hj1,hr2,ha⟩
 have X2:Hid (Cs w2 w.heap.size [.int .u32 0,.int .u32 0,.int .u32 0,.int .u32 0,.int .u32 0,.int .u32 0,.int .u32 0,.int .u32 0,.int .u32 0]∧Cs w2 (w.heap.size+1) [.int .u32 0,.int .u32 0,.int .u32 0,.int .u32 0,.int .u32 0,.int .u32 0]∧True):=⟨X1.out.1.asideN ha (by omega),X1.out.2.1.asideN ha (by omega),trivial⟩
 have H2:Hid (Rd P w2∧Below w.heap.size w w2):=⟨hr2,H1.out.2.trans (ha.below (by omega) H1.out.2.size)⟩
 have m8:k0.tmod 8=k0%8:=Int.tmod_eq_emod_of_nonneg hj0
 have zP:P<w2.heap.size:=hr2.lt
 clear hr2 ha X1 H1
 go_wp2_with fail
 refine (pairW_any P _ _ H2.out.1).mono ?_
 rintro e w3 ⟨a0,a1,a2,a3,a4,a5,a6,a7,a8,b0,b1,b2,b3,b4,b5,ua,ub,rfl,hr,ha⟩
 obtain ⟨V3,hW⟩: ∃V,((w3.alloc (.cells #[.int .u32 a0,.int .u32 a1,.int .u32 a2,.int .u32 a3,.int .u32 a4,.int .u32 a5,.int .u32 a6,.int .u32 a7,.int .u32 a8] 36)).alloc (.cells #[.int .u32 b0,.int .u32 b1,.int .u32 b2,.int .u32 b3,.int .u32 b4,.int .u32 b5] 39))=V:=⟨_,rfl⟩
 have bW:Below w3.heap.size w3 V3:=by rw [←hW];exact bel2 _ _ _
 have N0:Cs V3 w3.heap.size [.int .u32 a0,.int .u32 a1,.int .u32 a2,.int .u32 a3,.int .u32 a4,.int .u32 a5,.int .u32 a6,.int .u32 a7,.int .u32 a8]:=by rw [←hW];exact (Cs.new _ _ _).later (bel0 _ _)
 have N1:Cs V3 (w3.heap.size+1) [.int .u32 b0,.int .u32 b1,.int .u32 b2,.int .u32 b3,.int .u32 b4,.int .u32 b5]:=by
  have:=Cs.new (w3.alloc (.cells #[.int .u32 a0,.int .u32 a1,.int .u32 a2,.int .u32 a3,.int .u32 a4,.int .u32 a5,.int .u32 a6,.int .u32 a7,.int .u32 a8] 36)) #[.int .u32 b0,.int .u32 b1,.int .u32 b2,.int .u32 b3,.int .u32 b4,.int .u32 b5] 39
  rw [←hW];simpa using this
 have z3:w2.heap.size≤w3.heap.size:=ha.size
 have zv3:V3.heap.size=w3.heap.size+2:=by rw [←hW];simp
 have HB:Hid (Below w.heap.size w V3):=(H2.out.2.trans (ha.below (by omega) H2.out.2.size)).trans (bW.mono (by have:=H2.out.2.size;omega))
 have X3:Hid (Cs V3 w.heap.size [.int .u32 0,.int .u32 0,.int .u32 0,.int .u32 0,.int .u32 0,.int .u32 0,.int .u32 0,.int .u32 0,.int .u32 0]∧Cs V3 (w.heap.size+1) [.int .u32 0,.int .u32 0,.int .u32 0,.int .u32 0,.int .u32 0,.int .u32 0]∧Cs V3 w3.heap.size [.int .u32 a0,.int .u32 a1,.int .u32 a2,.int .u32 a3,.int .u32 a4,.int .u32 a5,.int .u32 a6,.int .u32 a7,.int .u32 a8]∧Cs V3 (w3.heap.size+1) [.int .u32 b0,.int .u32 b1,.int .u32 b2,.int .u32 b3,.int .u32 b4,.int .u32 b5]∧True):=⟨(X2.out.1.asideN ha (by omega)).later bW,(X2.out.2.1.asideN ha (by omega)).later bW,N0,N1,trivial⟩
 have H3:Hid (Rd P V3∧Below w.heap.size w V3):=⟨hr.later bW,HB.out⟩
 have hV3:=hW
 clear hr ha bW hW N0 N1 HB X2 H2
 obtain ⟨b0x0,b0x1,b0x2,b0x3,b0x4,b0x5,b0x6,b0x7,b0x8⟩:=X3.out.1.c9
 have b0f:=X3.out.1.2.1
 obtain ⟨b1x0,b1x1,b1x2,b1x3,b1x4,b1x5⟩:=X3.out.2.1.c6
 have b1f:=X3.out.2.1.2.1
 obtain ⟨b2x0,b2x1,b2x2,b2x3,b2x4,b2x5,b2x6,b2x7,b2x8⟩:=X3.out.2.2.1.c9
 have b2f:=X3.out.2.2.1.2.1
 obtain ⟨b3x0,b3x1,b3x2,b3x3,b3x4,b3x5⟩:=X3.out.2.2.2.1.c6
 have b3f:=X3.out.2.2.2.1.2.1
 by_cases hk8:1<k0%8
 ·have HK:Hid (∀w',Below V3.heap.size V3 w'→(fun w':World=>Cs w' w3.heap.size [.int .u32 a0,.int .u32 a1,.int .u32 a2,.int .u32 a3,.int .u32 a4,.int .u32 a5,.int .u32 a6,.int .u32 a7,.int .u32 a8]) w'):=fun w' hb=>X3.out.2.2.1.later hb
  clear b0x0 b0x1 b0x2 b0x3 b0x4 b0x5 b0x6 b0x7 b0x8 b0f b1x0 b1x1 b1x2 b1x3 b1x4 b1x5 b1f b2x0 b2x1 b2x2 b2x3 b2x4 b2x5 b2x6 b2x7 b2x8 b2f b3x0 b3x1 b3x2 b3x3 b3x4 b3x5 b3f
  go_wp2_with fail
  clear hV3
  refine AnyK.regionK HK 10 (by kernel_rfl) ?_
  obtain ⟨WD,hWD⟩: ∃V,V=V3.drew:=⟨_,rfl⟩
  rw [←hWD]
  have hBd:Below V3.heap.size V3 WD:=by rw [hWD];exact (Below.refl _ _).drew
  clear hWD
  have hS:=HK.out WD hBd
  refine AnyK.tk 0 23 (.pointer (some ⟨w3.heap.size,0,none⟩)) rfl rfl (by kernel_rfl) (fun _ _ _ h=>h) rfl (Or.inl ⟨rfl,fun w' _=>by go_simp⟩) hS ?_
  simp only [sT,sS,sZ]
  refine AnyK.tk 1 24 _ rfl rfl (by kernel_rfl) (fun _ _ _ h=>h) rfl (yieldsIf_load_mid rfl 34 (.tmp 23) rfl (w3.heap.size) 0 rfl [.int .u32 a0,.int .u32 a1,.int .u32 a2] _ (fun w' h=>(h).range 0 3) Tryz.underlying34 rfl (by kernel_rfl)) hS ?_
  simp only [sT,sS,sZ]
  refine AnyK.tk 3 26 (.pointer (some ⟨w3.heap.size,3,none⟩)) rfl rfl (by kernel_rfl) (fun _ _ _ h=>h) rfl (Or.inl ⟨rfl,fun w' _=>by go_simp⟩) hS ?_
  simp only [sT,sS,sZ]
  refine AnyK.tk 4 27 _ rfl rfl (by kernel_rfl) (fun _ _ _ h=>h) rfl (yieldsIf_load_mid rfl 34 (.tmp 26) rfl (w3.heap.size) 3 rfl [.int .u32 a3,.int .u32 a4,.int .u32 a5] _ (fun w' h=>(h).range 3 3) Tryz.underlying34 rfl (by kernel_rfl)) hS ?_
  simp only [sT,sS,sZ]
  refine AnyK.tk 6 29 (.pointer (some ⟨w3.heap.size,6,none⟩)) rfl rfl (by kernel_rfl) (fun _ _ _ h=>h) rfl (Or.inl ⟨rfl,fun w' _=>by go_simp⟩) hS ?_
  simp only [sT,sS,sZ]
  refine AnyK.tk 7 30 _ rfl rfl (by kernel_rfl) (fun _ _ _ h=>h) rfl (yieldsIf_load_mid rfl 34 (.tmp 29) rfl (w3.heap.size) 6 rfl [.int .u32 a6,.int .u32 a7,.int .u32 a8] _ (fun w' h=>(h).range 6 3) Tryz.underlying34 rfl (by kernel_rfl)) hS ?_
  simp only [sT,sS,sZ]
  refine AnyP.begin [2,5,8] [] ?_
  have hBw:=hBd
  clear hBd
  repeat' first
   |refine AnyP.c (by kernel_rfl) rfl rfl ?_
   |(refine Turn.go 2 ?_
     intro K HKK
     go_wp2_with fail
     refine (wholeP_any a0 a1 a2 _ (U32.cons (ua _ (by simp)) (U32.cons (ua _ (by simp)) (U32.cons (ua _ (by simp)) U32.nil)))).mono ?_
     rintro o uW ⟨p0,p1,p2,up,rfl,hSt⟩
     replace hBw:=hBw.trans (hSt.mono hBw.size)
     refine HKK.out _ _ (fun _=>HK.out _ hBw) ?_
     clear HKK K hSt
     (try simp only [Act.put]))
   |(refine Turn.go 5 ?_
     intro K HKK
     go_wp2_with fail
     refine (wholeP_any a3 a4 a5 _ (U32.cons (ua _ (by simp)) (U32.cons (ua _ (by simp)) (U32.cons (ua _ (by simp)) U32.nil)))).mono ?_
     rintro o uW ⟨q0,q1,q2,uq,rfl,hSt⟩
     replace hBw:=hBw.trans (hSt.mono hBw.size)
     refine HKK.out _ _ (fun _=>HK.out _ hBw) ?_
     clear HKK K hSt
     (try simp only [Act.put]))
   |(refine Turn.go 8 ?_
     intro K HKK
     go_wp2_with fail
     refine (wholeP_any a6 a7 a8 _ (U32.cons (ua _ (by simp)) (U32.cons (ua _ (by simp)) (U32.cons (ua _ (by simp)) U32.nil)))).mono ?_
     rintro o uW ⟨r0,r1,r2,ur,rfl,hSt⟩
     replace hBw:=hBw.trans (hSt.mono hBw.size)
     refine HKK.out _ _ (fun _=>HK.out _ hBw) ?_
     clear HKK K hSt
     (try simp only [Act.put]))
  refine ⟨?_⟩
  replace hS:=HK.out _ hBw
  refine AnyK.tk 9 32 (.agg #[.int .u32 p0,.int .u32 p1,.int .u32 p2,.int .u32 q0,.int .u32 q1,.int .u32 q2,.int .u32 r0,.int .u32 r1,.int .u32 r2]) rfl rfl (by kernel_rfl) (fun _ _ _ h=>h) rfl (Or.inl ⟨rfl,fun w' _=>by go_simp⟩) hS ?_
  simp only [sT,sS,sZ]
  refine AnyK.one (i:=10) (by kernel_rfl) rfl rfl ?_
  intro K hK
  refine wp_store_mid 36 (.tmp 6) (.tmp 32) rfl (w3.heap.size) 0 #[.int .u32 p0,.int .u32 p1,.int .u32 p2,.int .u32 q0,.int .u32 q1,.int .u32 q2,.int .u32 r0,.int .u32 r1,.int .u32 r2] rfl rfl ((hS).there 0 9 (by simp)) (by kernel_rfl) (all_oneCell_toArray (by simp [Value.oneCell'])) ?_
  refine hK _ _ (fun h=>absurd rfl h) ?_
  clear hK K
  refine AnyK.done (by kernel_rfl) ?_
  rw [show∀W b i,World.setCells W b i (Array.toList #[.int .u32 p0,.int .u32 p1,.int .u32 p2,.int .u32 q0,.int .u32 q1,.int .u32 q2,.int .u32 r0,.int .u32 r1,.int .u32 r2])=setAll W b i [.int .u32 p0,.int .u32 p1,.int .u32 p2,.int .u32 q0,.int .u32 q1,.int .u32 q2,.int .u32 r0,.int .u32 r1,.int .u32 r2] from fun W b i=>setCells_all _ _ _ _]
  obtain ⟨V5,hV5⟩: ∃V,V=setAll uW (w3.heap.size) 0 [.int .u32 p0,.int .u32 p1,.int .u32 p2,.int .u32 q0,.int .u32 q1,.int .u32 q2,.int .u32 r0,.int .u32 r1,.int .u32 r2]:=⟨_,rfl⟩
  rw [←hV5]
  have X5:Hid (Cs V5 w.heap.size [.int .u32 0,.int .u32 0,.int .u32 0,.int .u32 0,.int .u32 0,.int .u32 0,.int .u32 0,.int .u32 0,.int .u32 0]∧Cs V5 (w.heap.size+1) [.int .u32 0,.int .u32 0,.int .u32 0,.int .u32 0,.int .u32 0,.int .u32 0]∧Cs V5 w3.heap.size [.int .u32 p0,.int .u32 p1,.int .u32 p2,.int .u32 q0,.int .u32 q1,.int .u32 q2,.int .u32 r0,.int .u32 r1,.int .u32 r2]∧Cs V5 (w3.heap.size+1) [.int .u32 b0,.int .u32 b1,.int .u32 b2,.int .u32 b3,.int .u32 b4,.int .u32 b5]∧True):=by
   unfold Hid
   rw [hV5]
   exact ⟨Cs.setAllO (by omega) _ _ _ _ (X3.out.1.later hBw),Cs.setAllO (by omega) _ _ _ _ (X3.out.2.1.later hBw),Cs.whole (X3.out.2.2.1.later hBw) _ rfl,Cs.setAllO (by omega) _ _ _ _ (X3.out.2.2.2.1.later hBw),trivial⟩
  have H5:Hid (Below w.heap.size w V5):=by
   unfold Hid
   rw [hV5]
   exact below_setAll (by omega) _ _ _ (H3.out.2.trans (hBw.mono H3.out.2.size))
  have u9:U32 [p0,p1,p2,q0,q1,q2,r0,r1,r2]:=(U32.cons (up _ (by simp)) (U32.cons (up _ (by simp)) (U32.cons (up _ (by simp)) (U32.cons (uq _ (by simp)) (U32.cons (uq _ (by simp)) (U32.cons (uq _ (by simp)) (U32.cons (ur _ (by simp)) (U32.cons (ur _ (by simp)) (U32.cons (ur _ (by simp)) U32.nil)))))))))
  have z5:w3.heap.size+1<V5.heap.size:=X5.out.2.2.2.1.1
  clear hV5 hBw hS HK X3 H3 up uq ur
  obtain ⟨b0x0,b0x1,b0x2,b0x3,b0x4,b0x5,b0x6,b0x7,b0x8⟩:=X5.out.1.c9
  have b0f:=X5.out.1.2.1
  obtain ⟨b1x0,b1x1,b1x2,b1x3,b1x4,b1x5⟩:=X5.out.2.1.c6
  have b1f:=X5.out.2.1.2.1
  obtain ⟨b2x0,b2x1,b2x2,b2x3,b2x4,b2x5,b2x6,b2x7,b2x8⟩:=X5.out.2.2.1.c9
  have b2f:=X5.out.2.2.1.2.1
  obtain ⟨b3x0,b3x1,b3x2,b3x3,b3x4,b3x5⟩:=X5.out.2.2.2.1.c6
  have b3f:=X5.out.2.2.2.1.2.1
  go_wp2_with fail
  refine (wholeP_any b3 b4 b5 _ (U32.cons (ub _ (by simp)) (U32.cons (ub _ (by simp)) (U32.cons (ub _ (by simp)) U32.nil)))).mono ?_
  rintro o w6 ⟨d0,d1,d2,ud,rfl,hb⟩
  obtain ⟨V6,hV6⟩: ∃V,(w6.alloc (.cells #[.int .u32 d0,.int .u32 d1,.int .u32 d2] 34))=V:=⟨_,rfl⟩
  have bW:Below w6.heap.size w6 V6:=by rw [←hV6];exact bel0 _ _
  have N6:Cs V6 w6.heap.size [.int .u32 d0,.int .u32 d1,.int .u32 d2]:=by rw [←hV6];exact Cs.new _ _ _
  have X6:Hid (Cs V6 w.heap.size [.int .u32 0,.int .u32 0,.int .u32 0,.int .u32 0,.int .u32 0,.int .u32 0,.int .u32 0,.int .u32 0,.int .u32 0]∧Cs V6 (w.heap.size+1) [.int .u32 0,.int .u32 0,.int .u32 0,.int .u32 0,.int .u32 0,.int .u32 0]∧Cs V6 w3.heap.size [.int .u32 p0,.int .u32 p1,.int .u32 p2,.int .u32 q0,.int .u32 q1,.int .u32 q2,.int .u32 r0,.int .u32 r1,.int .u32 r2]∧Cs V6 (w3.heap.size+1) [.int .u32 b0,.int .u32 b1,.int .u32 b2,.int .u32 b3,.int .u32 b4,.int .u32 b5]∧Cs V6 w6.heap.size [.int .u32 d0,.int .u32 d1,.int .u32 d2]∧True):=⟨(X5.out.1.later hb).later bW,(X5.out.2.1.later hb).later bW,(X5.out.2.2.1.later hb).later bW,(X5.out.2.2.2.1.later hb).later bW,N6,trivial⟩
  have H6:Hid (Below w.heap.size w V6):=(H5.out.trans (hb.mono H5.out.size)).trans (bW.mono (by have:=H5.out.size;have:=hb.size;omega))
  have z6:V5.heap.size≤w6.heap.size:=hb.size
  clear hb bW N6 X5 H5 b0x0 b0x1 b0x2 b0x3 b0x4 b0x5 b0x6 b0x7 b0x8 b0f b1x0 b1x1 b1x2 b1x3 b1x4 b1x5 b1f b2x0 b2x1 b2x2 b2x3 b2x4 b2x5 b2x6 b2x7 b2x8 b2f b3x0 b3x1 b3x2 b3x3 b3x4 b3x5 b3f
  obtain ⟨b0x0,b0x1,b0x2,b0x3,b0x4,b0x5,b0x6,b0x7,b0x8⟩:=X6.out.1.c9
  have b0f:=X6.out.1.2.1
  obtain ⟨b1x0,b1x1,b1x2,b1x3,b1x4,b1x5⟩:=X6.out.2.1.c6
  have b1f:=X6.out.2.1.2.1
  obtain ⟨b2x0,b2x1,b2x2,b2x3,b2x4,b2x5,b2x6,b2x7,b2x8⟩:=X6.out.2.2.1.c9
  have b2f:=X6.out.2.2.1.2.1
  obtain ⟨b3x0,b3x1,b3x2,b3x3,b3x4,b3x5⟩:=X6.out.2.2.2.1.c6
  have b3f:=X6.out.2.2.2.1.2.1
  have b4x0:=X6.out.2.2.2.2.1.at 0 rfl
  have b4x1:=X6.out.2.2.2.2.1.at 1 rfl
  have b4x2:=X6.out.2.2.2.2.1.at 2 rfl
  have b4f:=X6.out.2.2.2.2.1.2.1
  go_wp2_with fail
  clear hV6
  refine (noWayV_any d0 d1 d2 _ (ud _ (by simp)).1 (ud _ (by simp)).2 (ud _ (by simp)).1 (ud _ (by simp)).2 (ud _ (by simp)).1 (ud _ (by simp)).2).mono ?_
  rintro o w7 ⟨rfl,hb⟩
  have X7:Hid (Cs w7 w.heap.size [.int .u32 0,.int .u32 0,.int .u32 0,.int .u32 0,.int .u32 0,.int .u32 0,.int .u32 0,.int .u32 0,.int .u32 0]∧Cs w7 (w.heap.size+1) [.int .u32 0,.int .u32 0,.int .u32 0,.int .u32 0,.int .u32 0,.int .u32 0]∧Cs w7 w3.heap.size [.int .u32 p0,.int .u32 p1,.int .u32 p2,.int .u32 q0,.int .u32 q1,.int .u32 q2,.int .u32 r0,.int .u32 r1,.int .u32 r2]∧Cs w7 (w3.heap.size+1) [.int .u32 b0,.int .u32 b1,.int .u32 b2,.int .u32 b3,.int .u32 b4,.int .u32 b5]∧Cs w7 w6.heap.size [.int .u32 d0,.int .u32 d1,.int .u32 d2]∧True):=⟨X6.out.1.later hb,X6.out.2.1.later hb,X6.out.2.2.1.later hb,X6.out.2.2.2.1.later hb,X6.out.2.2.2.2.1.later hb,trivial⟩
  have H7:Hid (Below w.heap.size w w7):=H6.out.trans (hb.mono H6.out.size)
  clear hb X6 H6 b0x0 b0x1 b0x2 b0x3 b0x4 b0x5 b0x6 b0x7 b0x8 b0f b1x0 b1x1 b1x2 b1x3 b1x4 b1x5 b1f b2x0 b2x1 b2x2 b2x3 b2x4 b2x5 b2x6 b2x7 b2x8 b2f b3x0 b3x1 b3x2 b3x3 b3x4 b3x5 b3f b4x0 b4x1 b4x2 b4f
  obtain ⟨b0x0,b0x1,b0x2,b0x3,b0x4,b0x5,b0x6,b0x7,b0x8⟩:=X7.out.1.c9
  have b0f:=X7.out.1.2.1
  obtain ⟨b1x0,b1x1,b1x2,b1x3,b1x4,b1x5⟩:=X7.out.2.1.c6
  have b1f:=X7.out.2.1.2.1
  obtain ⟨b2x0,b2x1,b2x2,b2x3,b2x4,b2x5,b2x6,b2x7,b2x8⟩:=X7.out.2.2.1.c9
  have b2f:=X7.out.2.2.1.2.1
  obtain ⟨b3x0,b3x1,b3x2,b3x3,b3x4,b3x5⟩:=X7.out.2.2.2.1.c6
  have b3f:=X7.out.2.2.2.1.2.1
  have b4x0:=X7.out.2.2.2.2.1.at 0 rfl
  have b4x1:=X7.out.2.2.2.2.1.at 1 rfl
  have b4x2:=X7.out.2.2.2.2.1.at 2 rfl
  have b4f:=X7.out.2.2.2.2.1.2.1
  go_upto_if 37 with fail
  go_cut [] from 36 to 45 (fun wx=> ∃e0 e1 e2:Int,Hid (U32 [e0,e1,e2]∧Below w.heap.size w wx∧Cs wx w.heap.size [.int .u32 0,.int .u32 0,.int .u32 0,.int .u32 0,.int .u32 0,.int .u32 0,.int .u32 0,.int .u32 0,.int .u32 0]∧Cs wx (w.heap.size+1) [.int .u32 0,.int .u32 0,.int .u32 0,.int .u32 0,.int .u32 0,.int .u32 0]∧Cs wx w3.heap.size [.int .u32 p0,.int .u32 p1,.int .u32 p2,.int .u32 q0,.int .u32 q1,.int .u32 q2,.int .u32 r0,.int .u32 r1,.int .u32 r2]∧Cs wx (w3.heap.size+1) [.int .u32 b0,.int .u32 b1,.int .u32 b2,.int .u32 b3,.int .u32 b4,.int .u32 b5]∧Cs wx w6.heap.size [.int .u32 e0,.int .u32 e1,.int .u32 e2]∧True))
  case first=>
   cases hN:noWayB d0 d1 d2
   ·go_wp2
    go_meet
    case rel=>exact ⟨d0,d1,d2,ud,H7.out,X7.out⟩
   ·go_wp2
    go_meet
    case rel=>exact ⟨d0,d1,3212836864,U32.cons (ud _ (by simp)) (U32.cons (ud _ (by simp)) (U32.cons (by omega) U32.nil)),by (repeat (with_reducible refine Below.setCell ?_ (by simp<;>omega) _));exact H7.out,(X7.out.1.setO (by omega)),(X7.out.2.1.setO (by omega)),(X7.out.2.2.1.setO (by omega)),(X7.out.2.2.2.1.setO (by omega)),(X7.out.2.2.2.2.1.set1 (i:=2) _ (by simp)),trivial⟩
  case rest=>
  obtain ⟨e0,e1,e2,HC⟩:=hcut
  have ue:=HC.out.1
  have H8:=Hid.mk HC.out.2.1
  have X8:=Hid.mk HC.out.2.2
  obtain ⟨V8,hV8⟩: ∃V,V=wc:=⟨_,rfl⟩
  rw [←hV8] at H8 X8⊢
  clear HC X7 H7 hV8 b0x0 b0x1 b0x2 b0x3 b0x4 b0x5 b0x6 b0x7 b0x8 b0f b1x0 b1x1 b1x2 b1x3 b1x4 b1x5 b1f b2x0 b2x1 b2x2 b2x3 b2x4 b2x5 b2x6 b2x7 b2x8 b2f b3x0 b3x1 b3x2 b3x3 b3x4 b3x5 b3f b4x0 b4x1 b4x2 b4f
  have HK:Hid (∀w',Below V8.heap.size V8 w'→(fun w':World=>Cs w' (w3.heap.size+1) [.int .u32 b0,.int .u32 b1,.int .u32 b2,.int .u32 b3,.int .u32 b4,.int .u32 b5]∧Cs w' w6.heap.size [.int .u32 e0,.int .u32 e1,.int .u32 e2]) w'):=fun w' hb=>⟨X8.out.2.2.2.1.later hb,X8.out.2.2.2.2.1.later hb⟩
  go_wp2_with fail
  refine AnyK.regionK HK 5 (by kernel_rfl) ?_
  obtain ⟨WD,hWD⟩: ∃V,V=V8.drew:=⟨_,rfl⟩
  rw [←hWD]
  have hBd:Below V8.heap.size V8 WD:=by rw [hWD];exact (Below.refl _ _).drew
  clear hWD
  have hS:=HK.out WD hBd
  refine AnyK.tk 0 39 (.pointer (some ⟨(w3.heap.size+1),0,none⟩)) rfl rfl (by kernel_rfl) (fun _ _ _ h=>h) rfl (Or.inl ⟨rfl,fun w' _=>by go_simp⟩) hS ?_
  simp only [sT,sS,sZ]
  refine AnyK.tk 1 40 _ rfl rfl (by kernel_rfl) (fun _ _ _ h=>h) rfl (yieldsIf_load_mid rfl 34 (.tmp 39) rfl ((w3.heap.size+1)) 0 rfl [.int .u32 b0,.int .u32 b1,.int .u32 b2] _ (fun w' h=>(h.1).range 0 3) Tryz.underlying34 rfl (by kernel_rfl)) hS ?_
  simp only [sT,sS,sZ]
  refine AnyK.tk 3 42 _ rfl rfl (by kernel_rfl) (fun _ _ _ h=>h) rfl (yieldsIf_load_mid rfl 34 (.tmp 8) rfl (w6.heap.size) 0 rfl [.int .u32 e0,.int .u32 e1,.int .u32 e2] _ (fun w' h=>(h.2).range 0 3) Tryz.underlying34 rfl (by kernel_rfl)) hS ?_
  simp only [sT,sS,sZ]
  refine AnyP.begin [2] [] ?_
  have hBw:=hBd
  clear hBd
  repeat' first
   |refine AnyP.c (by kernel_rfl) rfl rfl ?_
   |(refine Turn.go 2 ?_
     intro K HKK
     go_wp2_with fail
     refine (wholeP_any b0 b1 b2 _ (U32.cons (ub _ (by simp)) (U32.cons (ub _ (by simp)) (U32.cons (ub _ (by simp)) U32.nil)))).mono ?_
     rintro o uW ⟨o0,o1,o2,uo,rfl,hSt⟩
     replace hBw:=hBw.trans (hSt.mono hBw.size)
     refine HKK.out _ _ (fun _=>HK.out _ hBw) ?_
     clear HKK K hSt
     (try simp only [Act.put]))
  refine ⟨?_⟩
  replace hS:=HK.out _ hBw
  refine AnyK.tk 4 43 (.agg #[.int .u32 o0,.int .u32 o1,.int .u32 o2,.int .u32 e0,.int .u32 e1,.int .u32 e2]) rfl rfl (by kernel_rfl) (fun _ _ _ h=>h) rfl (Or.inl ⟨rfl,fun w' _=>by go_simp⟩) hS ?_
  simp only [sT,sS,sZ]
  refine AnyK.one (i:=5) (by kernel_rfl) rfl rfl ?_
  intro K hK
  refine wp_store_mid 39 (.tmp 7) (.tmp 43) rfl ((w3.heap.size+1)) 0 #[.int .u32 o0,.int .u32 o1,.int .u32 o2,.int .u32 e0,.int .u32 e1,.int .u32 e2] rfl rfl ((hS.1).there 0 6 (by simp)) (by kernel_rfl) (all_oneCell_toArray (by simp [Value.oneCell'])) ?_
  refine hK _ _ (fun h=>absurd rfl h) ?_
  clear hK K
  refine AnyK.done (by kernel_rfl) ?_
  rw [show∀W b i,World.setCells W b i (Array.toList #[.int .u32 o0,.int .u32 o1,.int .u32 o2,.int .u32 e0,.int .u32 e1,.int .u32 e2])=setAll W b i [.int .u32 o0,.int .u32 o1,.int .u32 o2,.int .u32 e0,.int .u32 e1,.int .u32 e2] from fun W b i=>setCells_all _ _ _ _]
  obtain ⟨V9,hV9⟩: ∃V,V=setAll uW ((w3.heap.size+1)) 0 [.int .u32 o0,.int .u32 o1,.int .u32 o2,.int .u32 e0,.int .u32 e1,.int .u32 e2]:=⟨_,rfl⟩
  rw [←hV9]
  have X9:Hid (Cs V9 w.heap.size [.int .u32 0,.int .u32 0,.int .u32 0,.int .u32 0,.int .u32 0,.int .u32 0,.int .u32 0,.int .u32 0,.int .u32 0]∧Cs V9 (w.heap.size+1) [.int .u32 0,.int .u32 0,.int .u32 0,.int .u32 0,.int .u32 0,.int .u32 0]∧Cs V9 w3.heap.size [.int .u32 p0,.int .u32 p1,.int .u32 p2,.int .u32 q0,.int .u32 q1,.int .u32 q2,.int .u32 r0,.int .u32 r1,.int .u32 r2]∧Cs V9 (w3.heap.size+1) [.int .u32 o0,.int .u32 o1,.int .u32 o2,.int .u32 e0,.int .u32 e1,.int .u32 e2]∧True):=by
   unfold Hid
   rw [hV9]
   exact ⟨Cs.setAllO (by omega) _ _ _ _ (X8.out.1.later hBw),Cs.setAllO (by omega) _ _ _ _ (X8.out.2.1.later hBw),Cs.setAllO (by omega) _ _ _ _ (X8.out.2.2.1.later hBw),Cs.whole (X8.out.2.2.2.1.later hBw) _ rfl,trivial⟩
  have H9:Hid (Below w.heap.size w V9):=by
   unfold Hid
   rw [hV9]
   exact below_setAll (by omega) _ _ _ (H8.out.trans (hBw.mono H8.out.size))
  have u6:U32 [o0,o1,o2,e0,e1,e2]:=(U32.cons (uo _ (by simp)) (U32.cons (uo _ (by simp)) (U32.cons (uo _ (by simp)) (U32.cons (ue _ (by simp)) (U32.cons (ue _ (by simp)) (U32.cons (ue _ (by simp)) U32.nil))))))
  clear hV9 hBw hS HK X8 H8 uo ue
  obtain ⟨b0x0,b0x1,b0x2,b0x3,b0x4,b0x5,b0x6,b0x7,b0x8⟩:=X9.out.1.c9
  have b0f:=X9.out.1.2.1
  obtain ⟨b1x0,b1x1,b1x2,b1x3,b1x4,b1x5⟩:=X9.out.2.1.c6
  have b1f:=X9.out.2.1.2.1
  obtain ⟨b2x0,b2x1,b2x2,b2x3,b2x4,b2x5,b2x6,b2x7,b2x8⟩:=X9.out.2.2.1.c9
  have b2f:=X9.out.2.2.1.2.1
  obtain ⟨b3x0,b3x1,b3x2,b3x3,b3x4,b3x5⟩:=X9.out.2.2.2.1.c6
  have b3f:=X9.out.2.2.2.1.2.1
  clear X9
  go_wp2
  go_region
  all_goals go_wp2
  all_goals refine bodyPost_ret (v:= .tuple #[.agg #[.int .u32 p0,.int .u32 p1,.int .u32 p2,.int .u32 q0,.int .u32 q1,.int .u32 q2,.int .u32 r0,.int .u32 r1,.int .u32 r2],.agg #[.int .u32 o0,.int .u32 o1,.int .u32 o2,.int .u32 e0,.int .u32 e1,.int .u32 e2]]) (by simp [results,Tryz.results24,go_sem,b0x0,b0x1,b0x2,b0x3,b0x4,b0x5,b0x6,b0x7,b0x8,b1x0,b1x1,b1x2,b1x3,b1x4,b1x5]) rfl ?_
  all_goals exact ⟨p0,p1,p2,q0,q1,q2,r0,r1,r2,o0,o1,o2,e0,e1,e2,u9,u6,rfl,by (repeat (first|with_reducible refine Below.drew ?_|with_reducible refine Below.setCell ?_ (by simp<;>omega) _));exact H9.out⟩
 ·clear X3
  go_wp2
  go_region
  all_goals go_wp2
  all_goals refine bodyPost_ret (v:= .tuple #[.agg #[.int .u32 a0,.int .u32 a1,.int .u32 a2,.int .u32 a3,.int .u32 a4,.int .u32 a5,.int .u32 a6,.int .u32 a7,.int .u32 a8],.agg #[.int .u32 b0,.int .u32 b1,.int .u32 b2,.int .u32 b3,.int .u32 b4,.int .u32 b5]]) (by simp [results,Tryz.results24,go_sem,b0x0,b0x1,b0x2,b0x3,b0x4,b0x5,b0x6,b0x7,b0x8,b1x0,b1x1,b1x2,b1x3,b1x4,b1x5]) rfl ?_
  all_goals exact ⟨a0,a1,a2,a3,a4,a5,a6,a7,a8,b0,b1,b2,b3,b4,b5,ua,ub,rfl,by (repeat (first|with_reducible refine Below.drew ?_|with_reducible refine Below.setCell ?_ (by simp<;>omega) _));exact H3.out.2⟩
end Go.Proofs.YtfieffpobgcpmaaGreatDoor
