import Derived.Test.YtfieffpobgcpmaaGreatDoorDwDQ
import Derived.Deep.CutRange
set_option maxRecDepth 100000
set_option maxHeartbeats 32000000
namespace Go.Proofs.YtfieffpobgcpmaaGreatDoor
open Go.RowKit
theorem Cs.asideN {P:Nat} {W W':World} {b:Nat} {us:List Value} (h:Cs W b us) (ha:Aside P W W') (hP:b≠P):Cs W' b us:=
 ⟨Nat.lt_of_lt_of_le h.1 ha.size,fun j=>(ha.frozen (p:=⟨b,j,none⟩) h.1 hP).trans (h.2.1 j),fun j u hj=>(ha.cell (p:=⟨b,0+j,none⟩) h.1 hP).trans (h.2.2 j u hj)⟩
def DrawO (w:World) (e:Ending) (w':World):Prop:= ∃x0 x1 x2 x3 x4 x5 x6 x7 x8 y0 y1 y2 y3 y4 y5 y6 y7 y8 s0 s1 s2 s3 s4 s5:Int,U32 [x0,x1,x2,x3,x4,x5,x6,x7,x8]∧U32 [y0,y1,y2,y3,y4,y5,y6,y7,y8]∧U32 [s0,s1,s2,s3,s4,s5]∧e= .returned (.tuple #[.agg #[.int .u32 x0,.int .u32 x1,.int .u32 x2,.int .u32 x3,.int .u32 x4,.int .u32 x5,.int .u32 x6,.int .u32 x7,.int .u32 x8],.agg #[.int .u32 y0,.int .u32 y1,.int .u32 y2,.int .u32 y3,.int .u32 y4,.int .u32 y5,.int .u32 y6,.int .u32 y7,.int .u32 y8],.agg #[.int .u32 s0,.int .u32 s1,.int .u32 s2,.int .u32 s3,.int .u32 s4,.int .u32 s5]])∧Below w.heap.size w w'
theorem drawO_any (a:Option Addr) (c:Nat) (bs:List Int) (w:World) (hn:bs.length≤1048576) (hc:bs.length≤c) (hcm:c≤maxLen) (hnil:a=none→c=0) (hr:RowAt .u8 w a bs) (hb8:Dig 256 bs):
 Calls Tryz.prog 14 #[.slice a bs.length c] w fun e w'=>DrawO w e w':=by
 have hO: ∀W,Below w.heap.size w W→RowAt .u8 W a bs:=fun W hb=>hr.later hb
 have HO:=Hid.mk (fun W hb=>open_any a c bs W hn hc hcm hnil (hO W hb) hb8)
 have hb3:Below w.heap.size w (((w.alloc (.cells #[.int .u32 0,.int .u32 0,.int .u32 0,.int .u32 0,.int .u32 0,.int .u32 0,.int .u32 0,.int .u32 0,.int .u32 0] 36)).alloc (.cells #[.int .u32 0,.int .u32 0,.int .u32 0,.int .u32 0,.int .u32 0,.int .u32 0,.int .u32 0,.int .u32 0,.int .u32 0] 36)).alloc (.cells #[.int .u32 0,.int .u32 0,.int .u32 0,.int .u32 0,.int .u32 0,.int .u32 0] 39)):=((bel0 _ _).trans ((bel0 _ _).mono (by simp))).trans ((bel0 _ _).mono (by simp<;>omega))
 have N0:Cs (((w.alloc (.cells #[.int .u32 0,.int .u32 0,.int .u32 0,.int .u32 0,.int .u32 0,.int .u32 0,.int .u32 0,.int .u32 0,.int .u32 0] 36)).alloc (.cells #[.int .u32 0,.int .u32 0,.int .u32 0,.int .u32 0,.int .u32 0,.int .u32 0,.int .u32 0,.int .u32 0,.int .u32 0] 36)).alloc (.cells #[.int .u32 0,.int .u32 0,.int .u32 0,.int .u32 0,.int .u32 0,.int .u32 0] 39)) w.heap.size [.int .u32 0,.int .u32 0,.int .u32 0,.int .u32 0,.int .u32 0,.int .u32 0,.int .u32 0,.int .u32 0,.int .u32 0]:=((Cs.new w _ _).later (bel0 _ _)).later (bel0 _ _)
 have N1:Cs (((w.alloc (.cells #[.int .u32 0,.int .u32 0,.int .u32 0,.int .u32 0,.int .u32 0,.int .u32 0,.int .u32 0,.int .u32 0,.int .u32 0] 36)).alloc (.cells #[.int .u32 0,.int .u32 0,.int .u32 0,.int .u32 0,.int .u32 0,.int .u32 0,.int .u32 0,.int .u32 0,.int .u32 0] 36)).alloc (.cells #[.int .u32 0,.int .u32 0,.int .u32 0,.int .u32 0,.int .u32 0,.int .u32 0] 39)) (w.heap.size+1) [.int .u32 0,.int .u32 0,.int .u32 0,.int .u32 0,.int .u32 0,.int .u32 0,.int .u32 0,.int .u32 0,.int .u32 0]:=by
  have:=(Cs.new (w.alloc (.cells #[.int .u32 0,.int .u32 0,.int .u32 0,.int .u32 0,.int .u32 0,.int .u32 0,.int .u32 0,.int .u32 0,.int .u32 0] 36)) #[.int .u32 0,.int .u32 0,.int .u32 0,.int .u32 0,.int .u32 0,.int .u32 0,.int .u32 0,.int .u32 0,.int .u32 0] 36).later (bel0 _ (.cells #[.int .u32 0,.int .u32 0,.int .u32 0,.int .u32 0,.int .u32 0,.int .u32 0] 39))
  simpa using this
 have N2:Cs (((w.alloc (.cells #[.int .u32 0,.int .u32 0,.int .u32 0,.int .u32 0,.int .u32 0,.int .u32 0,.int .u32 0,.int .u32 0,.int .u32 0] 36)).alloc (.cells #[.int .u32 0,.int .u32 0,.int .u32 0,.int .u32 0,.int .u32 0,.int .u32 0,.int .u32 0,.int .u32 0,.int .u32 0] 36)).alloc (.cells #[.int .u32 0,.int .u32 0,.int .u32 0,.int .u32 0,.int .u32 0,.int .u32 0] 39)) (w.heap.size+1+1) [.int .u32 0,.int .u32 0,.int .u32 0,.int .u32 0,.int .u32 0,.int .u32 0]:=by
  have:=Cs.new ((w.alloc (.cells #[.int .u32 0,.int .u32 0,.int .u32 0,.int .u32 0,.int .u32 0,.int .u32 0,.int .u32 0,.int .u32 0,.int .u32 0] 36)).alloc (.cells #[.int .u32 0,.int .u32 0,.int .u32 0,.int .u32 0,.int .u32 0,.int .u32 0,.int .u32 0,.int .u32 0,.int .u32 0] 36)) #[.int .u32 0,.int .u32 0,.int .u32 0,.int .u32 0,.int .u32 0,.int .u32 0] 39
  simpa using this
 have HN:Hid (Cs (((w.alloc (.cells #[.int .u32 0,.int .u32 0,.int .u32 0,.int .u32 0,.int .u32 0,.int .u32 0,.int .u32 0,.int .u32 0,.int .u32 0] 36)).alloc (.cells #[.int .u32 0,.int .u32 0,.int .u32 0,.int .u32 0,.int .u32 0,.int .u32 0,.int .u32 0,.int .u32 0,.int .u32 0] 36)).alloc (.cells #[.int .u32 0,.int .u32 0,.int .u32 0,.int .u32 0,.int .u32 0,.int .u32 0] 39)) w.heap.size [.int .u32 0,.int .u32 0,.int .u32 0,.int .u32 0,.int .u32 0,.int .u32 0,.int .u32 0,.int .u32 0,.int .u32 0]∧Cs (((w.alloc (.cells #[.int .u32 0,.int .u32 0,.int .u32 0,.int .u32 0,.int .u32 0,.int .u32 0,.int .u32 0,.int .u32 0,.int .u32 0] 36)).alloc (.cells #[.int .u32 0,.int .u32 0,.int .u32 0,.int .u32 0,.int .u32 0,.int .u32 0,.int .u32 0,.int .u32 0,.int .u32 0] 36)).alloc (.cells #[.int .u32 0,.int .u32 0,.int .u32 0,.int .u32 0,.int .u32 0,.int .u32 0] 39)) (w.heap.size+1) [.int .u32 0,.int .u32 0,.int .u32 0,.int .u32 0,.int .u32 0,.int .u32 0,.int .u32 0,.int .u32 0,.int .u32 0]∧Cs (((w.alloc (.cells #[.int .u32 0,.int .u32 0,.int .u32 0,.int .u32 0,.int .u32 0,.int .u32 0,.int .u32 0,.int .u32 0,.int .u32 0] 36)).alloc (.cells #[.int .u32 0,.int .u32 0,.int .u32 0,.int .u32 0,.int .u32 0,.int .u32 0,.int .u32 0,.int .u32 0,.int .u32 0] 36)).alloc (.cells #[.int .u32 0,.int .u32 0,.int .u32 0,.int .u32 0,.int .u32 0,.int .u32 0] 39)) (w.heap.size+1+1) [.int .u32 0,.int .u32 0,.int .u32 0,.int .u32 0,.int .u32 0,.int .u32 0]∧True):=⟨N0,N1,N2,trivial⟩
 have HB3:=Hid.mk hb3
 have hs3:(((w.alloc (.cells #[.int .u32 0,.int .u32 0,.int .u32 0,.int .u32 0,.int .u32 0,.int .u32 0,.int .u32 0,.int .u32 0,.int .u32 0] 36)).alloc (.cells #[.int .u32 0,.int .u32 0,.int .u32 0,.int .u32 0,.int .u32 0,.int .u32 0,.int .u32 0,.int .u32 0,.int .u32 0] 36)).alloc (.cells #[.int .u32 0,.int .u32 0,.int .u32 0,.int .u32 0,.int .u32 0,.int .u32 0] 39)).heap.size=w.heap.size+1+1+1:=by simp
 have HS3:=Hid.mk hs3
 clear hO hb3 N0 N1 N2 hs3 hr hb8 hnil
 go_enter Tryz.func14,Tryz.ntmps14
 go_wp2_with fail
 refine (HO.out _ HB3.out).mono ?_
 rintro e w1 ⟨rfl,hr1,hb1,_⟩
 rw [HS3.out] at hr1 hb1⊢
 obtain ⟨P,hP⟩: ∃P,P=w.heap.size+1+1+1:=⟨_,rfl⟩
 rw [←hP] at hr1⊢
 have X1:Hid (Cs w1 w.heap.size [.int .u32 0,.int .u32 0,.int .u32 0,.int .u32 0,.int .u32 0,.int .u32 0,.int .u32 0,.int .u32 0,.int .u32 0]∧Cs w1 (w.heap.size+1) [.int .u32 0,.int .u32 0,.int .u32 0,.int .u32 0,.int .u32 0,.int .u32 0,.int .u32 0,.int .u32 0,.int .u32 0]∧Cs w1 (w.heap.size+1+1) [.int .u32 0,.int .u32 0,.int .u32 0,.int .u32 0,.int .u32 0,.int .u32 0]∧True):=by
  have hb:=hb1
  rw [←HS3.out] at hb
  exact ⟨HN.out.1.later hb,HN.out.2.1.later hb,HN.out.2.2.1.later hb,trivial⟩
 have H1:Hid (Rd P w1∧Below w.heap.size w w1):=⟨hr1,HB3.out.trans (hb1.mono (by omega))⟩
 have hPl:w.heap.size+2<P:=by omega
 clear hr1 hb1 HN HB3 HS3 HO hP
 go_wp2_with fail
 refine (next_any P _ H1.out.1).mono ?_
 rintro e w2 ⟨k0,rfl,hj0,hj1,hr2,ha⟩
 have X2:Hid (Cs w2 w.heap.size [.int .u32 0,.int .u32 0,.int .u32 0,.int .u32 0,.int .u32 0,.int .u32 0,.int .u32 0,.int .u32 0,.int .u32 0]∧Cs w2 (w.heap.size+1) [.int .u32 0,.int .u32 0,.int .u32 0,.int .u32 0,.int .u32 0,.int .u32 0,.int .u32 0,.int .u32 0,.int .u32 0]∧Cs w2 (w.heap.size+1+1) [.int .u32 0,.int .u32 0,.int .u32 0,.int .u32 0,.int .u32 0,.int .u32 0]∧True):=⟨X1.out.1.asideN ha (by omega),X1.out.2.1.asideN ha (by omega),X1.out.2.2.1.asideN ha (by omega),trivial⟩
 have H2:Hid (Rd P w2∧Below w.heap.size w w2):=⟨hr2,H1.out.2.trans (ha.below (by omega) H1.out.2.size)⟩
 have m4:k0.tmod 4=k0%4:=Int.tmod_eq_emod_of_nonneg hj0
 clear hr2 ha X1 H1
 go_wp2_with fail
 refine (next_any P _ H2.out.1).mono ?_
 rintro e w3 ⟨k,rfl,hk0,hk1,hr2,ha⟩
 have X3:Hid (Cs w3 w.heap.size [.int .u32 0,.int .u32 0,.int .u32 0,.int .u32 0,.int .u32 0,.int .u32 0,.int .u32 0,.int .u32 0,.int .u32 0]∧Cs w3 (w.heap.size+1) [.int .u32 0,.int .u32 0,.int .u32 0,.int .u32 0,.int .u32 0,.int .u32 0,.int .u32 0,.int .u32 0,.int .u32 0]∧Cs w3 (w.heap.size+1+1) [.int .u32 0,.int .u32 0,.int .u32 0,.int .u32 0,.int .u32 0,.int .u32 0]∧True):=⟨X2.out.1.asideN ha (by omega),X2.out.2.1.asideN ha (by omega),X2.out.2.2.1.asideN ha (by omega),trivial⟩
 have H3:Hid (Rd P w3∧Below w.heap.size w w3):=⟨hr2,H2.out.2.trans (ha.below (by omega) H2.out.2.size)⟩
 have zP:P<w3.heap.size:=hr2.lt
 clear hr2 ha X2 H2
 go_wp2_with fail
 refine (pairW_any P _ _ H3.out.1).mono ?_
 rintro e w4 ⟨a0,a1,a2,a3,a4,a5,a6,a7,a8,b0,b1,b2,b3,b4,b5,ua,ub,rfl,hr,ha⟩
 obtain ⟨V4,hW⟩: ∃V,((w4.alloc (.cells #[.int .u32 a0,.int .u32 a1,.int .u32 a2,.int .u32 a3,.int .u32 a4,.int .u32 a5,.int .u32 a6,.int .u32 a7,.int .u32 a8] 36)).alloc (.cells #[.int .u32 b0,.int .u32 b1,.int .u32 b2,.int .u32 b3,.int .u32 b4,.int .u32 b5] 39))=V:=⟨_,rfl⟩
 have bW:Below w4.heap.size w4 V4:=by rw [←hW];exact bel2 _ _ _
 have N0:Cs V4 w4.heap.size [.int .u32 a0,.int .u32 a1,.int .u32 a2,.int .u32 a3,.int .u32 a4,.int .u32 a5,.int .u32 a6,.int .u32 a7,.int .u32 a8]:=by rw [←hW];exact (Cs.new _ _ _).later (bel0 _ _)
 have N1:Cs V4 (w4.heap.size+1) [.int .u32 b0,.int .u32 b1,.int .u32 b2,.int .u32 b3,.int .u32 b4,.int .u32 b5]:=by
  have:=Cs.new (w4.alloc (.cells #[.int .u32 a0,.int .u32 a1,.int .u32 a2,.int .u32 a3,.int .u32 a4,.int .u32 a5,.int .u32 a6,.int .u32 a7,.int .u32 a8] 36)) #[.int .u32 b0,.int .u32 b1,.int .u32 b2,.int .u32 b3,.int .u32 b4,.int .u32 b5] 39
  rw [←hW];simpa using this
 have z4:w3.heap.size≤w4.heap.size:=ha.size
 have zv4:V4.heap.size=w4.heap.size+2:=by rw [←hW];simp
 have HB:Hid (Below w.heap.size w V4):=(H3.out.2.trans (ha.below (by omega) H3.out.2.size)).trans (bW.mono (by have:=H3.out.2.size;omega))
 have X4:Hid (Cs V4 w.heap.size [.int .u32 0,.int .u32 0,.int .u32 0,.int .u32 0,.int .u32 0,.int .u32 0,.int .u32 0,.int .u32 0,.int .u32 0]∧Cs V4 (w.heap.size+1) [.int .u32 0,.int .u32 0,.int .u32 0,.int .u32 0,.int .u32 0,.int .u32 0,.int .u32 0,.int .u32 0,.int .u32 0]∧Cs V4 (w.heap.size+1+1) [.int .u32 0,.int .u32 0,.int .u32 0,.int .u32 0,.int .u32 0,.int .u32 0]∧Cs V4 w4.heap.size [.int .u32 a0,.int .u32 a1,.int .u32 a2,.int .u32 a3,.int .u32 a4,.int .u32 a5,.int .u32 a6,.int .u32 a7,.int .u32 a8]∧Cs V4 (w4.heap.size+1) [.int .u32 b0,.int .u32 b1,.int .u32 b2,.int .u32 b3,.int .u32 b4,.int .u32 b5]∧True):=⟨(X3.out.1.asideN ha (by omega)).later bW,(X3.out.2.1.asideN ha (by omega)).later bW,(X3.out.2.2.1.asideN ha (by omega)).later bW,N0,N1,trivial⟩
 have H4:Hid (Rd P V4∧Below w.heap.size w V4):=⟨hr.later bW,HB.out⟩
 have hV4:=hW
 clear hr ha bW hW N0 N1 HB X3 H3
 go_wp2_with fail
 clear hV4
 refine (pairW_any P _ _ H4.out.1).mono ?_
 rintro e w5 ⟨c0,c1,c2,c3,c4,c5,c6,c7,c8,d0,d1,d2,d3,d4,d5,uc,ud,rfl,hr,ha⟩
 obtain ⟨V5,hW⟩: ∃V,((w5.alloc (.cells #[.int .u32 c0,.int .u32 c1,.int .u32 c2,.int .u32 c3,.int .u32 c4,.int .u32 c5,.int .u32 c6,.int .u32 c7,.int .u32 c8] 36)).alloc (.cells #[.int .u32 d0,.int .u32 d1,.int .u32 d2,.int .u32 d3,.int .u32 d4,.int .u32 d5] 39))=V:=⟨_,rfl⟩
 have bW:Below w5.heap.size w5 V5:=by rw [←hW];exact bel2 _ _ _
 have N0:Cs V5 w5.heap.size [.int .u32 c0,.int .u32 c1,.int .u32 c2,.int .u32 c3,.int .u32 c4,.int .u32 c5,.int .u32 c6,.int .u32 c7,.int .u32 c8]:=by rw [←hW];exact (Cs.new _ _ _).later (bel0 _ _)
 have N1:Cs V5 (w5.heap.size+1) [.int .u32 d0,.int .u32 d1,.int .u32 d2,.int .u32 d3,.int .u32 d4,.int .u32 d5]:=by
  have:=Cs.new (w5.alloc (.cells #[.int .u32 c0,.int .u32 c1,.int .u32 c2,.int .u32 c3,.int .u32 c4,.int .u32 c5,.int .u32 c6,.int .u32 c7,.int .u32 c8] 36)) #[.int .u32 d0,.int .u32 d1,.int .u32 d2,.int .u32 d3,.int .u32 d4,.int .u32 d5] 39
  rw [←hW];simpa using this
 have z5:V4.heap.size≤w5.heap.size:=ha.size
 have zv5:V5.heap.size=w5.heap.size+2:=by rw [←hW];simp
 have HB:Hid (Below w.heap.size w V5):=(H4.out.2.trans (ha.below (by omega) H4.out.2.size)).trans (bW.mono (by have:=H4.out.2.size;omega))
 have X5:Hid (Cs V5 w.heap.size [.int .u32 0,.int .u32 0,.int .u32 0,.int .u32 0,.int .u32 0,.int .u32 0,.int .u32 0,.int .u32 0,.int .u32 0]∧Cs V5 (w.heap.size+1) [.int .u32 0,.int .u32 0,.int .u32 0,.int .u32 0,.int .u32 0,.int .u32 0,.int .u32 0,.int .u32 0,.int .u32 0]∧Cs V5 (w.heap.size+1+1) [.int .u32 0,.int .u32 0,.int .u32 0,.int .u32 0,.int .u32 0,.int .u32 0]∧Cs V5 w4.heap.size [.int .u32 a0,.int .u32 a1,.int .u32 a2,.int .u32 a3,.int .u32 a4,.int .u32 a5,.int .u32 a6,.int .u32 a7,.int .u32 a8]∧Cs V5 (w4.heap.size+1) [.int .u32 b0,.int .u32 b1,.int .u32 b2,.int .u32 b3,.int .u32 b4,.int .u32 b5]∧Cs V5 w5.heap.size [.int .u32 c0,.int .u32 c1,.int .u32 c2,.int .u32 c3,.int .u32 c4,.int .u32 c5,.int .u32 c6,.int .u32 c7,.int .u32 c8]∧Cs V5 (w5.heap.size+1) [.int .u32 d0,.int .u32 d1,.int .u32 d2,.int .u32 d3,.int .u32 d4,.int .u32 d5]∧True):=⟨(X4.out.1.asideN ha (by omega)).later bW,(X4.out.2.1.asideN ha (by omega)).later bW,(X4.out.2.2.1.asideN ha (by omega)).later bW,(X4.out.2.2.2.1.asideN ha (by omega)).later bW,(X4.out.2.2.2.2.1.asideN ha (by omega)).later bW,N0,N1,trivial⟩
 have H5:Hid (Rd P V5∧Below w.heap.size w V5):=⟨hr.later bW,HB.out⟩
 have hV5:=hW
 clear hr ha bW hW N0 N1 HB X4 H4
 have m3:k.tmod 3=k%3:=Int.tmod_eq_emod_of_nonneg hk0
 have m5:k.tmod 5=k%5:=Int.tmod_eq_emod_of_nonneg hk0
 have b0x0:=X5.out.1.at 0 rfl
 have b0x1:=X5.out.1.at 1 rfl
 have b0x2:=X5.out.1.at 2 rfl
 have b0x3:=X5.out.1.at 3 rfl
 have b0x4:=X5.out.1.at 4 rfl
 have b0x5:=X5.out.1.at 5 rfl
 have b0x6:=X5.out.1.at 6 rfl
 have b0x7:=X5.out.1.at 7 rfl
 have b0x8:=X5.out.1.at 8 rfl
 have b0f:=X5.out.1.2.1
 have b1x0:=X5.out.2.1.at 0 rfl
 have b1x1:=X5.out.2.1.at 1 rfl
 have b1x2:=X5.out.2.1.at 2 rfl
 have b1x3:=X5.out.2.1.at 3 rfl
 have b1x4:=X5.out.2.1.at 4 rfl
 have b1x5:=X5.out.2.1.at 5 rfl
 have b1x6:=X5.out.2.1.at 6 rfl
 have b1x7:=X5.out.2.1.at 7 rfl
 have b1x8:=X5.out.2.1.at 8 rfl
 have b1f:=X5.out.2.1.2.1
 have b2x0:=X5.out.2.2.1.at 0 rfl
 have b2x1:=X5.out.2.2.1.at 1 rfl
 have b2x2:=X5.out.2.2.1.at 2 rfl
 have b2x3:=X5.out.2.2.1.at 3 rfl
 have b2x4:=X5.out.2.2.1.at 4 rfl
 have b2x5:=X5.out.2.2.1.at 5 rfl
 have b2f:=X5.out.2.2.1.2.1
 have b3x0:=X5.out.2.2.2.1.at 0 rfl
 have b3x1:=X5.out.2.2.2.1.at 1 rfl
 have b3x2:=X5.out.2.2.2.1.at 2 rfl
 have b3x3:=X5.out.2.2.2.1.at 3 rfl
 have b3x4:=X5.out.2.2.2.1.at 4 rfl
 have b3x5:=X5.out.2.2.2.1.at 5 rfl
 have b3x6:=X5.out.2.2.2.1.at 6 rfl
 have b3x7:=X5.out.2.2.2.1.at 7 rfl
 have b3x8:=X5.out.2.2.2.1.at 8 rfl
 have b3f:=X5.out.2.2.2.1.2.1
 have b4x0:=X5.out.2.2.2.2.1.at 0 rfl
 have b4x1:=X5.out.2.2.2.2.1.at 1 rfl
 have b4x2:=X5.out.2.2.2.2.1.at 2 rfl
 have b4x3:=X5.out.2.2.2.2.1.at 3 rfl
 have b4x4:=X5.out.2.2.2.2.1.at 4 rfl
 have b4x5:=X5.out.2.2.2.2.1.at 5 rfl
 have b4f:=X5.out.2.2.2.2.1.2.1
 have b5x0:=X5.out.2.2.2.2.2.1.at 0 rfl
 have b5x1:=X5.out.2.2.2.2.2.1.at 1 rfl
 have b5x2:=X5.out.2.2.2.2.2.1.at 2 rfl
 have b5x3:=X5.out.2.2.2.2.2.1.at 3 rfl
 have b5x4:=X5.out.2.2.2.2.2.1.at 4 rfl
 have b5x5:=X5.out.2.2.2.2.2.1.at 5 rfl
 have b5x6:=X5.out.2.2.2.2.2.1.at 6 rfl
 have b5x7:=X5.out.2.2.2.2.2.1.at 7 rfl
 have b5x8:=X5.out.2.2.2.2.2.1.at 8 rfl
 have b5f:=X5.out.2.2.2.2.2.1.2.1
 have b6x0:=X5.out.2.2.2.2.2.2.1.at 0 rfl
 have b6x1:=X5.out.2.2.2.2.2.2.1.at 1 rfl
 have b6x2:=X5.out.2.2.2.2.2.2.1.at 2 rfl
 have b6x3:=X5.out.2.2.2.2.2.2.1.at 3 rfl
 have b6x4:=X5.out.2.2.2.2.2.2.1.at 4 rfl
 have b6x5:=X5.out.2.2.2.2.2.2.1.at 5 rfl
 have b6f:=X5.out.2.2.2.2.2.2.1.2.1
 go_upto_if 34 with fail
 go_cut [] from 32 to 48 (fun wx=> ∃e0 e1 e2 e3 e4 e5:Int,Hid (U32 [e0,e1,e2,e3,e4,e5]∧Below w.heap.size w wx∧Cs wx w.heap.size [.int .u32 0,.int .u32 0,.int .u32 0,.int .u32 0,.int .u32 0,.int .u32 0,.int .u32 0,.int .u32 0,.int .u32 0]∧Cs wx (w.heap.size+1) [.int .u32 0,.int .u32 0,.int .u32 0,.int .u32 0,.int .u32 0,.int .u32 0,.int .u32 0,.int .u32 0,.int .u32 0]∧Cs wx (w.heap.size+1+1) [.int .u32 0,.int .u32 0,.int .u32 0,.int .u32 0,.int .u32 0,.int .u32 0]∧Cs wx w4.heap.size [.int .u32 a0,.int .u32 a1,.int .u32 a2,.int .u32 a3,.int .u32 a4,.int .u32 a5,.int .u32 a6,.int .u32 a7,.int .u32 a8]∧Cs wx (w4.heap.size+1) [.int .u32 e0,.int .u32 e1,.int .u32 e2,.int .u32 e3,.int .u32 e4,.int .u32 e5]∧Cs wx w5.heap.size [.int .u32 c0,.int .u32 c1,.int .u32 c2,.int .u32 c3,.int .u32 c4,.int .u32 c5,.int .u32 c6,.int .u32 c7,.int .u32 c8]∧True))
 case first=>
  by_cases hc:k%3=0
  ·go_wp2
   go_meet
   case rel=>exact ⟨d0,d1,d2,d3,d4,d5,ud,by (repeat (with_reducible refine Below.setCell ?_ (by simp<;>omega) _));exact H5.out.2,((((((X5.out.1.setO (by omega)).setO (by omega)).setO (by omega)).setO (by omega)).setO (by omega)).setO (by omega)),((((((X5.out.2.1.setO (by omega)).setO (by omega)).setO (by omega)).setO (by omega)).setO (by omega)).setO (by omega)),((((((X5.out.2.2.1.setO (by omega)).setO (by omega)).setO (by omega)).setO (by omega)).setO (by omega)).setO (by omega)),((((((X5.out.2.2.2.1.setO (by omega)).setO (by omega)).setO (by omega)).setO (by omega)).setO (by omega)).setO (by omega)),((((((X5.out.2.2.2.2.1.set1 (i:=0) _ (by simp)).set1 (i:=1) _ (by simp)).set1 (i:=2) _ (by simp)).set1 (i:=3) _ (by simp)).set1 (i:=4) _ (by simp)).set1 (i:=5) _ (by simp)),((((((X5.out.2.2.2.2.2.1.setO (by omega)).setO (by omega)).setO (by omega)).setO (by omega)).setO (by omega)).setO (by omega)),trivial⟩
  ·go_wp2
   go_meet
   case rel=>exact ⟨b0,b1,b2,b3,b4,b5,ub,H5.out.2,X5.out.1,X5.out.2.1,X5.out.2.2.1,X5.out.2.2.2.1,X5.out.2.2.2.2.1,X5.out.2.2.2.2.2.1,trivial⟩
 case rest=>
 obtain ⟨e0,e1,e2,e3,e4,e5,HC⟩:=hcut
 have ue:=HC.out.1
 have H6:=Hid.mk HC.out.2.1
 have X6:=Hid.mk HC.out.2.2
 clear HC X5 H5 hV5 b0x0 b0x1 b0x2 b0x3 b0x4 b0x5 b0x6 b0x7 b0x8 b0f b1x0 b1x1 b1x2 b1x3 b1x4 b1x5 b1x6 b1x7 b1x8 b1f b2x0 b2x1 b2x2 b2x3 b2x4 b2x5 b2f b3x0 b3x1 b3x2 b3x3 b3x4 b3x5 b3x6 b3x7 b3x8 b3f b4x0 b4x1 b4x2 b4x3 b4x4 b4x5 b4f b5x0 b5x1 b5x2 b5x3 b5x4 b5x5 b5x6 b5x7 b5x8 b5f b6x0 b6x1 b6x2 b6x3 b6x4 b6x5 b6f
 have b0x0:=X6.out.1.at 0 rfl
 have b0x1:=X6.out.1.at 1 rfl
 have b0x2:=X6.out.1.at 2 rfl
 have b0x3:=X6.out.1.at 3 rfl
 have b0x4:=X6.out.1.at 4 rfl
 have b0x5:=X6.out.1.at 5 rfl
 have b0x6:=X6.out.1.at 6 rfl
 have b0x7:=X6.out.1.at 7 rfl
 have b0x8:=X6.out.1.at 8 rfl
 have b0f:=X6.out.1.2.1
 have b1x0:=X6.out.2.1.at 0 rfl
 have b1x1:=X6.out.2.1.at 1 rfl
 have b1x2:=X6.out.2.1.at 2 rfl
 have b1x3:=X6.out.2.1.at 3 rfl
 have b1x4:=X6.out.2.1.at 4 rfl
 have b1x5:=X6.out.2.1.at 5 rfl
 have b1x6:=X6.out.2.1.at 6 rfl
 have b1x7:=X6.out.2.1.at 7 rfl
 have b1x8:=X6.out.2.1.at 8 rfl
 have b1f:=X6.out.2.1.2.1
 have b2x0:=X6.out.2.2.1.at 0 rfl
 have b2x1:=X6.out.2.2.1.at 1 rfl
 have b2x2:=X6.out.2.2.1.at 2 rfl
 have b2x3:=X6.out.2.2.1.at 3 rfl
 have b2x4:=X6.out.2.2.1.at 4 rfl
 have b2x5:=X6.out.2.2.1.at 5 rfl
 have b2f:=X6.out.2.2.1.2.1
 have b3x0:=X6.out.2.2.2.1.at 0 rfl
 have b3x1:=X6.out.2.2.2.1.at 1 rfl
 have b3x2:=X6.out.2.2.2.1.at 2 rfl
 have b3x3:=X6.out.2.2.2.1.at 3 rfl
 have b3x4:=X6.out.2.2.2.1.at 4 rfl
 have b3x5:=X6.out.2.2.2.1.at 5 rfl
 have b3x6:=X6.out.2.2.2.1.at 6 rfl
 have b3x7:=X6.out.2.2.2.1.at 7 rfl
 have b3x8:=X6.out.2.2.2.1.at 8 rfl
 have b3f:=X6.out.2.2.2.1.2.1
 have b4x0:=X6.out.2.2.2.2.1.at 0 rfl
 have b4x1:=X6.out.2.2.2.2.1.at 1 rfl
 have b4x2:=X6.out.2.2.2.2.1.at 2 rfl
 have b4x3:=X6.out.2.2.2.2.1.at 3 rfl
 have b4x4:=X6.out.2.2.2.2.1.at 4 rfl
 have b4x5:=X6.out.2.2.2.2.1.at 5 rfl
 have b4f:=X6.out.2.2.2.2.1.2.1
 have b5x0:=X6.out.2.2.2.2.2.1.at 0 rfl
 have b5x1:=X6.out.2.2.2.2.2.1.at 1 rfl
 have b5x2:=X6.out.2.2.2.2.2.1.at 2 rfl
 have b5x3:=X6.out.2.2.2.2.2.1.at 3 rfl
 have b5x4:=X6.out.2.2.2.2.2.1.at 4 rfl
 have b5x5:=X6.out.2.2.2.2.2.1.at 5 rfl
 have b5x6:=X6.out.2.2.2.2.2.1.at 6 rfl
 have b5x7:=X6.out.2.2.2.2.2.1.at 7 rfl
 have b5x8:=X6.out.2.2.2.2.2.1.at 8 rfl
 have b5f:=X6.out.2.2.2.2.2.1.2.1
 go_upto_if 38 with fail
 go_cut [] from 36 to 48 (fun wx=> ∃f0 f1 f2 f3 f4 f5 f6 f7 f8:Int,Hid (U32 [f0,f1,f2,f3,f4,f5,f6,f7,f8]∧Below w.heap.size w wx∧Cs wx w.heap.size [.int .u32 0,.int .u32 0,.int .u32 0,.int .u32 0,.int .u32 0,.int .u32 0,.int .u32 0,.int .u32 0,.int .u32 0]∧Cs wx (w.heap.size+1) [.int .u32 0,.int .u32 0,.int .u32 0,.int .u32 0,.int .u32 0,.int .u32 0,.int .u32 0,.int .u32 0,.int .u32 0]∧Cs wx (w.heap.size+1+1) [.int .u32 0,.int .u32 0,.int .u32 0,.int .u32 0,.int .u32 0,.int .u32 0]∧Cs wx w4.heap.size [.int .u32 a0,.int .u32 a1,.int .u32 a2,.int .u32 a3,.int .u32 a4,.int .u32 a5,.int .u32 a6,.int .u32 a7,.int .u32 a8]∧Cs wx (w4.heap.size+1) [.int .u32 e0,.int .u32 e1,.int .u32 e2,.int .u32 e3,.int .u32 e4,.int .u32 e5]∧Cs wx w5.heap.size [.int .u32 f0,.int .u32 f1,.int .u32 f2,.int .u32 f3,.int .u32 f4,.int .u32 f5,.int .u32 f6,.int .u32 f7,.int .u32 f8]∧True))
 case first=>
  by_cases hc:k%5=0
  ·go_wp2
   go_meet
   case rel=>exact ⟨a3,a4,a5,a6,a7,a8,a0,a1,a2,U32.cons (ua _ (by simp)) (U32.cons (ua _ (by simp)) (U32.cons (ua _ (by simp)) (U32.cons (ua _ (by simp)) (U32.cons (ua _ (by simp)) (U32.cons (ua _ (by simp)) (U32.cons (ua _ (by simp)) (U32.cons (ua _ (by simp)) (U32.cons (ua _ (by simp)) (U32.nil))))))))),by (repeat (with_reducible refine Below.setCell ?_ (by simp<;>omega) _));exact H6.out,(((((((((X6.out.1.setO (by omega)).setO (by omega)).setO (by omega)).setO (by omega)).setO (by omega)).setO (by omega)).setO (by omega)).setO (by omega)).setO (by omega)),(((((((((X6.out.2.1.setO (by omega)).setO (by omega)).setO (by omega)).setO (by omega)).setO (by omega)).setO (by omega)).setO (by omega)).setO (by omega)).setO (by omega)),(((((((((X6.out.2.2.1.setO (by omega)).setO (by omega)).setO (by omega)).setO (by omega)).setO (by omega)).setO (by omega)).setO (by omega)).setO (by omega)).setO (by omega)),(((((((((X6.out.2.2.2.1.setO (by omega)).setO (by omega)).setO (by omega)).setO (by omega)).setO (by omega)).setO (by omega)).setO (by omega)).setO (by omega)).setO (by omega)),(((((((((X6.out.2.2.2.2.1.setO (by omega)).setO (by omega)).setO (by omega)).setO (by omega)).setO (by omega)).setO (by omega)).setO (by omega)).setO (by omega)).setO (by omega)),(((((((((X6.out.2.2.2.2.2.1.set1 (i:=0) _ (by simp)).set1 (i:=1) _ (by simp)).set1 (i:=2) _ (by simp)).set1 (i:=3) _ (by simp)).set1 (i:=4) _ (by simp)).set1 (i:=5) _ (by simp)).set1 (i:=6) _ (by simp)).set1 (i:=7) _ (by simp)).set1 (i:=8) _ (by simp)),trivial⟩
  ·go_wp2
   go_meet
   case rel=>exact ⟨c0,c1,c2,c3,c4,c5,c6,c7,c8,uc,H6.out,X6.out⟩
 case rest=>
 obtain ⟨f0,f1,f2,f3,f4,f5,f6,f7,f8,HC⟩:=hcut
 have uf:=HC.out.1
 have H7:=Hid.mk HC.out.2.1
 have X7:=Hid.mk HC.out.2.2
 clear HC X6 H6 b0x0 b0x1 b0x2 b0x3 b0x4 b0x5 b0x6 b0x7 b0x8 b0f b1x0 b1x1 b1x2 b1x3 b1x4 b1x5 b1x6 b1x7 b1x8 b1f b2x0 b2x1 b2x2 b2x3 b2x4 b2x5 b2f b3x0 b3x1 b3x2 b3x3 b3x4 b3x5 b3x6 b3x7 b3x8 b3f b4x0 b4x1 b4x2 b4x3 b4x4 b4x5 b4f b5x0 b5x1 b5x2 b5x3 b5x4 b5x5 b5x6 b5x7 b5x8 b5f
 have b0x0:=X7.out.1.at 0 rfl
 have b0x1:=X7.out.1.at 1 rfl
 have b0x2:=X7.out.1.at 2 rfl
 have b0x3:=X7.out.1.at 3 rfl
 have b0x4:=X7.out.1.at 4 rfl
 have b0x5:=X7.out.1.at 5 rfl
 have b0x6:=X7.out.1.at 6 rfl
 have b0x7:=X7.out.1.at 7 rfl
 have b0x8:=X7.out.1.at 8 rfl
 have b0f:=X7.out.1.2.1
 have b1x0:=X7.out.2.1.at 0 rfl
 have b1x1:=X7.out.2.1.at 1 rfl
 have b1x2:=X7.out.2.1.at 2 rfl
 have b1x3:=X7.out.2.1.at 3 rfl
 have b1x4:=X7.out.2.1.at 4 rfl
 have b1x5:=X7.out.2.1.at 5 rfl
 have b1x6:=X7.out.2.1.at 6 rfl
 have b1x7:=X7.out.2.1.at 7 rfl
 have b1x8:=X7.out.2.1.at 8 rfl
 have b1f:=X7.out.2.1.2.1
 have b2x0:=X7.out.2.2.1.at 0 rfl
 have b2x1:=X7.out.2.2.1.at 1 rfl
 have b2x2:=X7.out.2.2.1.at 2 rfl
 have b2x3:=X7.out.2.2.1.at 3 rfl
 have b2x4:=X7.out.2.2.1.at 4 rfl
 have b2x5:=X7.out.2.2.1.at 5 rfl
 have b2f:=X7.out.2.2.1.2.1
 have b3x0:=X7.out.2.2.2.1.at 0 rfl
 have b3x1:=X7.out.2.2.2.1.at 1 rfl
 have b3x2:=X7.out.2.2.2.1.at 2 rfl
 have b3x3:=X7.out.2.2.2.1.at 3 rfl
 have b3x4:=X7.out.2.2.2.1.at 4 rfl
 have b3x5:=X7.out.2.2.2.1.at 5 rfl
 have b3x6:=X7.out.2.2.2.1.at 6 rfl
 have b3x7:=X7.out.2.2.2.1.at 7 rfl
 have b3x8:=X7.out.2.2.2.1.at 8 rfl
 have b3f:=X7.out.2.2.2.1.2.1
 have b4x0:=X7.out.2.2.2.2.1.at 0 rfl
 have b4x1:=X7.out.2.2.2.2.1.at 1 rfl
 have b4x2:=X7.out.2.2.2.2.1.at 2 rfl
 have b4x3:=X7.out.2.2.2.2.1.at 3 rfl
 have b4x4:=X7.out.2.2.2.2.1.at 4 rfl
 have b4x5:=X7.out.2.2.2.2.1.at 5 rfl
 have b4f:=X7.out.2.2.2.2.1.2.1
 have b5x0:=X7.out.2.2.2.2.2.1.at 0 rfl
 have b5x1:=X7.out.2.2.2.2.2.1.at 1 rfl
 have b5x2:=X7.out.2.2.2.2.2.1.at 2 rfl
 have b5x3:=X7.out.2.2.2.2.2.1.at 3 rfl
 have b5x4:=X7.out.2.2.2.2.2.1.at 4 rfl
 have b5x5:=X7.out.2.2.2.2.2.1.at 5 rfl
 have b5x6:=X7.out.2.2.2.2.2.1.at 6 rfl
 have b5x7:=X7.out.2.2.2.2.2.1.at 7 rfl
 have b5x8:=X7.out.2.2.2.2.2.1.at 8 rfl
 have b5f:=X7.out.2.2.2.2.2.1.2.1
 clear X7
 go_wp2
 go_region
 all_goals go_wp2
 all_goals refine bodyPost_ret (v:= .tuple #[.agg #[.int .u32 a0,.int .u32 a1,.int .u32 a2,.int .u32 a3,.int .u32 a4,.int .u32 a5,.int .u32 a6,.int .u32 a7,.int .u32 a8],.agg #[.int .u32 f0,.int .u32 f1,.int .u32 f2,.int .u32 f3,.int .u32 f4,.int .u32 f5,.int .u32 f6,.int .u32 f7,.int .u32 f8],.agg #[.int .u32 e0,.int .u32 e1,.int .u32 e2,.int .u32 e3,.int .u32 e4,.int .u32 e5]]) (by simp [results,Tryz.results14,go_sem,b0x0,b0x1,b0x2,b0x3,b0x4,b0x5,b0x6,b0x7,b0x8,b1x0,b1x1,b1x2,b1x3,b1x4,b1x5,b1x6,b1x7,b1x8,b2x0,b2x1,b2x2,b2x3,b2x4,b2x5]) rfl ?_
 all_goals exact ⟨a0,a1,a2,a3,a4,a5,a6,a7,a8,f0,f1,f2,f3,f4,f5,f6,f7,f8,e0,e1,e2,e3,e4,e5,ua,uf,ue,rfl,by (repeat (first|with_reducible refine Below.drew ?_|with_reducible refine Below.setCell ?_ (by simp<;>omega) _));exact H7.out⟩
end Go.Proofs.YtfieffpobgcpmaaGreatDoor
