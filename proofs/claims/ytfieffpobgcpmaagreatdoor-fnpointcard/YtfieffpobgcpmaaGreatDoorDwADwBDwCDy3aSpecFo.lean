import Derived.Test.YtfieffpobgcpmaaGreatDoorHoMHoPFpFDraw0
import Derived.Test.YtfieffpobgcpmaaGreatDoorDy2NumDNumFNumG
import Derived.Test.YtfieffpobgcpmaaGreatDoorFrCFrDCsA
import Derived.Deep.CutRange
import Derived.Test.YtfieffpobgcpmaaGreatDoorSpVSpWFoFImV
import Derived.Test.YtfieffpobgcpmaaGreatDoorDyN2ToEsF
import Derived.Test.YtfieffpobgcpmaaGreatDoorSpecMSpecJ0SpecJSpecSMdA
import Derived.Test.YtfieffpobgcpmaaGreatDoorDy1ToFpE
import Derived.Test.YtfieffpobgcpmaaGreatDoorSpecS2SpecFlSpecBtMdMMdS
set_option maxRecDepth 100000
set_option maxHeartbeats 32000000
namespace Go.Proofs.YtfieffpobgcpmaaGreatDoor
open Go.RowKit
def PtW (P:Nat) (w:World) (e:Ending) (w':World):Prop:= ∃x y z:Int,U32 [x,y,z]∧e= .returned (.agg #[.int .u32 x,.int .u32 y,.int .u32 z])∧Rd P w'∧Aside P w w'
def BitsW (P:Nat) (w:World) (e:Ending) (w':World):Prop:= ∃b:Int,e= .returned (.int .u32 b)∧0≤b∧b<4294967296∧Rd P w'∧Aside P w w'
theorem Rd.setW {P:Nat} {W:World} (h:Rd P W) {k:Nat} (hk:P<k) (j:Nat) (v:Value):Rd P (W.setCell ⟨k,j,none⟩ v):=
 h.above (Below.setCell (B:=k) (Below.refl _ _) (by simp) v) hk
theorem Cs.aside {P:Nat} {W W':World} {b:Nat} {us:List Value} (h:Cs W b us) (ha:Aside P W W') (hP:P<b):Cs W' b us:=
 ⟨Nat.lt_of_lt_of_le h.1 ha.size,fun j=>(ha.frozen (p:=⟨b,j,none⟩) h.1 (by simp;omega)).trans (h.2.1 j),fun j u hj=>(ha.cell (p:=⟨b,0+j,none⟩) h.1 (by simp;omega)).trans (h.2.2 j u hj)⟩
theorem U32.nil:U32 []:=fun _ h=>nomatch h
theorem U32.cons {x:Int} {xs:List Int} (h:0≤x∧x<4294967296) (hx:U32 xs):U32 (x::xs):=by
 intro z hz
 rcases List.mem_cons.mp hz with rfl|hz
 ·exact h
 ·exact hx z hz
theorem u32_cell {W:World} {b:Nat} {zs:List Int} (h:Cs W b (zs.map (Value.int .u32))) (hu:U32 zs) (j:Nat) (hj:j<zs.length): ∃y,W.cell? ⟨b,j,none⟩=some (.int .u32 y)∧0≤y∧y<4294967296:=
 ⟨zs[j],h.at j (by simp [hj]),hu _ (List.getElem_mem hj)⟩
theorem bits_u32 (op:BinOp) (a b:Int):0≤bits op .u32 a b∧bits op .u32 a b<4294967296:=by
 unfold bits
 simp only [IntKind.wrap,IntKind.bits,IntKind.signed]
 simp
 omega
theorem finW_any (b:Int) (w:World):
 Calls Tryz.prog 101 #[.int .u32 b] w fun e w'=>(∃f,e= .returned (.bool f))∧Below w.heap.size w w':=by
 go_enter Tryz.func101,Tryz.ntmps101
 go_wp2
 go_ret
 exact ⟨⟨_,rfl⟩,Below.refl _ _⟩
theorem bitsW_any (P:Nat) (wild:Bool) (w:World) (h:Rd P w):
 Calls Tryz.prog 100 #[.pointer (some ⟨P,0,none⟩),.bool wild] w fun e w'=>BitsW P w e w':=by
 have HS:Hid (Rd P w):=h
 clear h
 go_enter Tryz.func100,Tryz.ntmps100
 go_wp2_with fail
 refine (next_any P _ HS.out).mono ?_
 rintro e w1 ⟨k,rfl,hk0,hk1,hr1,ha1⟩
 have HR1:Hid (Rd P w1):=hr1
 have HA1:Hid (Aside P w w1):=ha1
 obtain ⟨y,gy,hy0,hy1⟩:=u32_cell (zs:=[0,1065353216,1073741824,1077936128,1082130432,1084227584,1086324736,3212836864,3221225472,3225419776,1056964608,2147483648]) (Cs.new w1 #[.int .u32 0,.int .u32 1065353216,.int .u32 1073741824,.int .u32 1077936128,.int .u32 1082130432,.int .u32 1084227584,.int .u32 1086324736,.int .u32 3212836864,.int .u32 3221225472,.int .u32 3225419776,.int .u32 1056964608,.int .u32 2147483648] 22) (by unfold U32;decide) (k%12).toNat (by simp;omega)
 have hj0:0≤k%12:=by omega
 have hj9:0≤k%12∧k%12<12:=by omega
 have hj8:k%12<12:=by omega
 have hjt:k.tmod 12=k%12:=Int.tmod_eq_emod_of_nonneg hk0
 clear hr1 ha1 HS
 by_cases hc:wild=false∨k<200
 ·have HO:Hid (∀W,Below w1.heap.size w1 W→BitsW P w (.returned (.int .u32 y)) W):=fun W hW=>⟨y,rfl,hy0,hy1,HR1.out.later hW,HA1.out.trans (Aside.of hW)⟩
  rcases hc with rfl|hc
  ·go_wp2
   go_ret
   exact HO.out _ (bel0 _ _)
  ·cases wild
   all_goals
    go_wp2
    go_ret
    exact HO.out _ (bel0 _ _)
 have hw:wild=true:=by cases wild<;>simp_all
 have hk2: ¬k<200:=fun h=>hc (.inr h)
 subst hw
 clear gy hj0 hj8 hj9 hjt hy0 hy1 hc
 have hP1:=HR1.out.lt
 obtain ⟨W2,hW2⟩: ∃W2,W2=((w1.alloc (.cells #[.int .u32 0,.int .u32 1065353216,.int .u32 1073741824,.int .u32 1077936128,.int .u32 1082130432,.int .u32 1084227584,.int .u32 1086324736,.int .u32 3212836864,.int .u32 3221225472,.int .u32 3225419776,.int .u32 1056964608,.int .u32 2147483648] 22)).alloc (.cells #[.int .u32 1,.int .u32 2147483649,.int .u32 8388607,.int .u32 8388608,.int .u32 2139095039,.int .u32 4286578687,.int .u32 1065353217,.int .u32 872415232,.int .u32 2139095040,.int .u32 4286578688,.int .u32 2143289344,.int .u32 2139095041] 22)):=⟨_,rfl⟩
 have HC2:Hid (Cs W2 (w1.heap.size+1) [.int .u32 1,.int .u32 2147483649,.int .u32 8388607,.int .u32 8388608,.int .u32 2139095039,.int .u32 4286578687,.int .u32 1065353217,.int .u32 872415232,.int .u32 2139095040,.int .u32 4286578688,.int .u32 2143289344,.int .u32 2139095041]):=by
  have:=Cs.new (w1.alloc (.cells #[.int .u32 0,.int .u32 1065353216,.int .u32 1073741824,.int .u32 1077936128,.int .u32 1082130432,.int .u32 1084227584,.int .u32 1086324736,.int .u32 3212836864,.int .u32 3221225472,.int .u32 3225419776,.int .u32 1056964608,.int .u32 2147483648] 22)) #[.int .u32 1,.int .u32 2147483649,.int .u32 8388607,.int .u32 8388608,.int .u32 2139095039,.int .u32 4286578687,.int .u32 1065353217,.int .u32 872415232,.int .u32 2139095040,.int .u32 4286578688,.int .u32 2143289344,.int .u32 2139095041] 22
  unfold Hid;rw [hW2];simpa using this
 have hb2:Below w1.heap.size w1 W2:=by rw [hW2];exact bel2 _ _ _
 have HR2:Hid (Rd P W2):=HR1.out.later hb2
 have HA2:Hid (Aside P w W2):=HA1.out.trans (Aside.of hb2)
 by_cases hc2:k<224
 ·obtain ⟨y,gy,hy0,hy1⟩:=u32_cell (zs:=[1,2147483649,8388607,8388608,2139095039,4286578687,1065353217,872415232,2139095040,4286578688,2143289344,2139095041]) HC2.out (by unfold U32;decide) (k%8).toNat (by simp;omega)
  have HO:Hid (BitsW P w (.returned (.int .u32 y)) W2):=⟨y,rfl,hy0,hy1,HR2.out,HA2.out⟩
  have hj0:0≤k%8:=by omega
  have hj8:k%8<12:=by omega
  have hj9:0≤k%8∧k%8<12:=⟨hj0,hj8⟩
  have hjt:k.tmod 8=k%8:=Int.tmod_eq_emod_of_nonneg hk0
  rw [hW2] at gy
  rw [hW2] at HO
  clear hb2 hW2 HC2 HR2 HA2 HR1 HA1
  go_wp2
  go_ret
  exact HO.out
 have HN:Hid (Calls Tryz.prog 47 #[.pointer (some ⟨P,0,none⟩)] ((w1.alloc (.cells #[.int .u32 0,.int .u32 1065353216,.int .u32 1073741824,.int .u32 1077936128,.int .u32 1082130432,.int .u32 1084227584,.int .u32 1086324736,.int .u32 3212836864,.int .u32 3221225472,.int .u32 3225419776,.int .u32 1056964608,.int .u32 2147483648] 22)).alloc (.cells #[.int .u32 1,.int .u32 2147483649,.int .u32 8388607,.int .u32 8388608,.int .u32 2139095039,.int .u32 4286578687,.int .u32 1065353217,.int .u32 872415232,.int .u32 2139095040,.int .u32 4286578688,.int .u32 2143289344,.int .u32 2139095041] 22)) fun e w'=>NextOut P W2 e w'):=by
  have:=next_any P W2 HR2.out
  unfold Hid;rw [←hW2];exact this
 clear HR1 HA1 hb2
 by_cases hc3:k<226
 ·go_wp2_with fail
  refine HN.out.mono ?_
  rintro e w3 ⟨v,rfl,hv0,hv1,hr3,ha3⟩
  obtain ⟨y,gy,hy0,hy1⟩:=u32_cell (zs:=[1,2147483649,8388607,8388608,2139095039,4286578687,1065353217,872415232,2139095040,4286578688,2143289344,2139095041]) (HC2.out.aside ha3 (by omega)) (by unfold U32;decide) (8+v%4).toNat (by simp;omega)
  have HO:Hid (BitsW P w (.returned (.int .u32 y)) w3):=⟨y,rfl,hy0,hy1,hr3,HA2.out.trans ha3⟩
  have hj0:0≤8+v%4:=by omega
  have hj8:8+v%4<12:=by omega
  have hj9:0≤8+v%4∧8+v%4<12:=⟨hj0,hj8⟩
  have hjt:v.tmod 4=v%4:=Int.tmod_eq_emod_of_nonneg hv0
  clear hW2 HC2 HR2 HA2 hr3 ha3 HN
  go_wp2
  go_ret
  exact HO.out
 go_wp2_with fail
 refine HN.out.mono ?_
 rintro e w3 ⟨v,rfl,hv0,hv1,hr3,ha3⟩
 have HR3:Hid (Rd P w3):=hr3
 have HA3:Hid (Aside P w w3):=HA2.out.trans ha3
 clear hW2 HC2 HR2 HA2 hr3 ha3 HN
 go_wp2_with fail
 refine (next_any P _ HR3.out).mono ?_
 rintro e w4 ⟨u,rfl,hu0,hu1,hr4,ha4⟩
 have HR4:Hid (Rd P w4):=hr4
 have HA4:Hid (Aside P w w4):=HA3.out.trans ha4
 clear hr4 ha4 HR3 HA3
 go_wp2_with fail
 refine (finW_any _ _).mono ?_
 rintro e w5 ⟨⟨f,rfl⟩,hb5⟩
 have HO:Hid (∀a b,BitsW P w (.returned (.int .u32 (bits .xor .u32 a b))) w5):=fun a b=>⟨_,rfl,(bits_u32 _ a b).1,(bits_u32 _ a b).2,HR4.out.later hb5,HA4.out.trans (Aside.of hb5)⟩
 clear hb5 HR4 HA4
 cases f
 all_goals
  go_wp2
  go_ret
  exact HO.out _ _
theorem ptW_any (P:Nat) (wild:Bool) (w:World) (h:Rd P w):
 Calls Tryz.prog 56 #[.pointer (some ⟨P,0,none⟩),.bool wild] w fun e w'=>PtW P w e w':=by
 have hP:=h.lt
 have H0:Hid (Rd P w):=h
 clear h
 go_enter Tryz.func56,Tryz.ntmps56
 go_wp2_with fail
 refine (bitsW_any P wild _ (H0.out.later (bel0 _ _))).mono ?_
 rintro e w1 ⟨x,rfl,x0,x1,hr,ha⟩
 have H1:Hid (Cs w1 w.heap.size [.int .u32 0,.int .u32 0,.int .u32 0]∧Rd P w1∧Aside P w w1):=⟨(Cs.new _ _ _).aside ha hP,hr,(Aside.of (bel0 _ _)).trans ha⟩
 clear hr ha
 go_wp2_with fail
 refine (bitsW_any P wild _ H1.out.2.1).mono ?_
 rintro e w2 ⟨y,rfl,y0,y1,hr,ha⟩
 have H2:Hid (Cs w2 w.heap.size [.int .u32 0,.int .u32 0,.int .u32 0]∧Rd P w2∧Aside P w w2):=⟨H1.out.1.aside ha hP,hr,H1.out.2.2.trans ha⟩
 clear hr ha
 go_wp2_with fail
 refine (bitsW_any P wild _ H2.out.2.1).mono ?_
 rintro e w3 ⟨z,rfl,z0,z1,hr,ha⟩
 have H3:Hid (Cs w3 w.heap.size [.int .u32 0,.int .u32 0,.int .u32 0]∧Rd P w3∧Aside P w w3):=⟨H2.out.1.aside ha hP,hr,H2.out.2.2.trans ha⟩
 have c0:=H3.out.1.at 0 rfl
 have c1:=H3.out.1.at 1 rfl
 have c2:=H3.out.1.at 2 rfl
 have cf:=H3.out.1.2.1
 clear hr ha H1 H2
 go_wp2
 refine bodyPost_ret (v:= .agg #[.int .u32 x,.int .u32 y,.int .u32 z]) (by simp [results,Tryz.results56,go_sem,c0,c1,c2]) rfl ?_
 exact ⟨x,y,z,U32.cons ⟨x0,x1⟩ (U32.cons ⟨y0,y1⟩ (U32.cons ⟨z0,z1⟩ U32.nil)),rfl,by repeat (first|exact H3.out.2.1|refine Rd.setW ?_ hP _ _),by repeat (first|exact H3.out.2.2|refine Aside.setHigh ?_ (by simp) _)⟩
def TriW (P:Nat) (w:World) (e:Ending) (w':World):Prop:= ∃x0 x1 x2 x3 x4 x5 x6 x7 x8:Int,U32 [x0,x1,x2,x3,x4,x5,x6,x7,x8]∧e= .returned (.agg #[.int .u32 x0,.int .u32 x1,.int .u32 x2,.int .u32 x3,.int .u32 x4,.int .u32 x5,.int .u32 x6,.int .u32 x7,.int .u32 x8])∧Rd P w'∧Aside P w w'
theorem triW_any (P:Nat) (wild:Bool) (w:World) (h:Rd P w):
 Calls Tryz.prog 55 #[.pointer (some ⟨P,0,none⟩),.bool wild] w fun e w'=>TriW P w e w':=by
 have hP:=h.lt
 have H0:Hid (Rd P w):=h
 clear h
 go_enter Tryz.func55,Tryz.ntmps55
 go_wp2_with fail
 refine (next_any P _ (H0.out.later (bel0 _ _))).mono ?_
 rintro e w1 ⟨k,rfl,hk0,hk1,hr,ha⟩
 have X1:Hid (Cs w1 w.heap.size [.int .u32 0,.int .u32 0,.int .u32 0,.int .u32 0,.int .u32 0,.int .u32 0,.int .u32 0,.int .u32 0,.int .u32 0]∧True):=⟨(Cs.new _ _ _).aside ha hP,trivial⟩
 have H1:Hid (Rd P w1∧Aside P w w1):=⟨hr,(Aside.of (bel0 _ _)).trans ha⟩
 have z1:w.heap.size<w1.heap.size:=X1.out.1.1
 clear hr ha H0
 go_wp2_with fail
 refine (ptW_any P wild _ H1.out.1).mono ?_
 rintro e w2 ⟨a0,a1,a2,ua,rfl,hr,ha⟩
 obtain ⟨V2,hW⟩: ∃V,(w2.alloc (.cells #[.int .u32 a0,.int .u32 a1,.int .u32 a2] 34))=V:=⟨_,rfl⟩
 have bW:Below w2.heap.size w2 V2:=by rw [←hW];exact bel0 _ _
 have X2:Hid (Cs V2 w.heap.size [.int .u32 0,.int .u32 0,.int .u32 0,.int .u32 0,.int .u32 0,.int .u32 0,.int .u32 0,.int .u32 0,.int .u32 0]∧Cs V2 w2.heap.size [.int .u32 a0,.int .u32 a1,.int .u32 a2]∧True):=⟨(X1.out.1.aside ha (by omega)).later bW,by rw [←hW];exact Cs.new _ _ _,trivial⟩
 have H2:Hid (Rd P V2∧Aside P w V2):=⟨hr.later bW,(H1.out.2.trans ha).trans (Aside.of bW)⟩
 have z2:w1.heap.size≤w2.heap.size:=by have:=ha.size;omega
 have hV2:=hW
 clear hr ha bW hW X1 H1
 go_wp2_with fail
 clear hV2
 refine (ptW_any P wild _ H2.out.1).mono ?_
 rintro e w3 ⟨b0,b1,b2,ub,rfl,hr,ha⟩
 obtain ⟨V3,hW⟩: ∃V,(w3.alloc (.cells #[.int .u32 b0,.int .u32 b1,.int .u32 b2] 34))=V:=⟨_,rfl⟩
 have bW:Below w3.heap.size w3 V3:=by rw [←hW];exact bel0 _ _
 have X3:Hid (Cs V3 w.heap.size [.int .u32 0,.int .u32 0,.int .u32 0,.int .u32 0,.int .u32 0,.int .u32 0,.int .u32 0,.int .u32 0,.int .u32 0]∧Cs V3 w2.heap.size [.int .u32 a0,.int .u32 a1,.int .u32 a2]∧Cs V3 w3.heap.size [.int .u32 b0,.int .u32 b1,.int .u32 b2]∧True):=⟨(X2.out.1.aside ha (by omega)).later bW,(X2.out.2.1.aside ha (by omega)).later bW,by rw [←hW];exact Cs.new _ _ _,trivial⟩
 have H3:Hid (Rd P V3∧Aside P w V3):=⟨hr.later bW,(H2.out.2.trans ha).trans (Aside.of bW)⟩
 have z3:w2.heap.size<w3.heap.size:=by have:=ha.size;have:=X2.out.2.1.1;omega
 have hV3:=hW
 clear hr ha bW hW X2 H2
 go_wp2_with fail
 clear hV3
 refine (ptW_any P wild _ H3.out.1).mono ?_
 rintro e w4 ⟨c0,c1,c2,uc,rfl,hr,ha⟩
 obtain ⟨V4,hW⟩: ∃V,(w4.alloc (.cells #[.int .u32 c0,.int .u32 c1,.int .u32 c2] 34))=V:=⟨_,rfl⟩
 have bW:Below w4.heap.size w4 V4:=by rw [←hW];exact bel0 _ _
 have X4:Hid (Cs V4 w.heap.size [.int .u32 0,.int .u32 0,.int .u32 0,.int .u32 0,.int .u32 0,.int .u32 0,.int .u32 0,.int .u32 0,.int .u32 0]∧Cs V4 w2.heap.size [.int .u32 a0,.int .u32 a1,.int .u32 a2]∧Cs V4 w3.heap.size [.int .u32 b0,.int .u32 b1,.int .u32 b2]∧Cs V4 w4.heap.size [.int .u32 c0,.int .u32 c1,.int .u32 c2]∧True):=⟨(X3.out.1.aside ha (by omega)).later bW,(X3.out.2.1.aside ha (by omega)).later bW,(X3.out.2.2.1.aside ha (by omega)).later bW,by rw [←hW];exact Cs.new _ _ _,trivial⟩
 have H4:Hid (Rd P V4∧Aside P w V4):=⟨hr.later bW,(H3.out.2.trans ha).trans (Aside.of bW)⟩
 have z4:w3.heap.size<w4.heap.size:=by have:=ha.size;have:=X3.out.2.2.1.1;omega
 have hV4:=hW
 clear hr ha bW hW X3 H3
 go_upto_region 5 with fail
 skip
 clear hV4
 have b0x0:=X4.out.1.at 0 rfl
 have b0x1:=X4.out.1.at 1 rfl
 have b0x2:=X4.out.1.at 2 rfl
 have b0x3:=X4.out.1.at 3 rfl
 have b0x4:=X4.out.1.at 4 rfl
 have b0x5:=X4.out.1.at 5 rfl
 have b0x6:=X4.out.1.at 6 rfl
 have b0x7:=X4.out.1.at 7 rfl
 have b0x8:=X4.out.1.at 8 rfl
 have b0f:=X4.out.1.2.1
 have b1x0:=X4.out.2.1.at 0 rfl
 have b1x1:=X4.out.2.1.at 1 rfl
 have b1x2:=X4.out.2.1.at 2 rfl
 have b1f:=X4.out.2.1.2.1
 have b2x0:=X4.out.2.2.1.at 0 rfl
 have b2x1:=X4.out.2.2.1.at 1 rfl
 have b2x2:=X4.out.2.2.1.at 2 rfl
 have b2f:=X4.out.2.2.1.2.1
 have b3x0:=X4.out.2.2.2.1.at 0 rfl
 have b3x1:=X4.out.2.2.2.1.at 1 rfl
 have b3x2:=X4.out.2.2.2.1.at 2 rfl
 have b3f:=X4.out.2.2.2.1.2.1
 have m16:k.tmod 16=k%16:=Int.tmod_eq_emod_of_nonneg hk0
 have m4:k.tmod 4=k%4:=Int.tmod_eq_emod_of_nonneg hk0
 clear X4
 rcases (show k%16=0∧k%4≠1∨k%16≠0∧k%4=1∨k%16≠0∧k%4≠1 by omega) with ⟨h1,h2⟩| ⟨h1,h2⟩| ⟨h1,h2⟩
 ·go_wp2
  refine bodyPost_ret (v:= .agg #[.int .u32 a0,.int .u32 a1,.int .u32 a2,.int .u32 b0,.int .u32 b1,.int .u32 b2,.int .u32 a0,.int .u32 a1,.int .u32 a2]) (by simp [results,Tryz.results55,go_sem,b0x0,b0x1,b0x2,b0x3,b0x4,b0x5,b0x6,b0x7,b0x8]) rfl ?_
  exact ⟨a0,a1,a2,b0,b1,b2,a0,a1,a2,U32.cons (ua _ (by simp)) (U32.cons (ua _ (by simp)) (U32.cons (ua _ (by simp)) (U32.cons (ub _ (by simp)) (U32.cons (ub _ (by simp)) (U32.cons (ub _ (by simp)) (U32.cons (ua _ (by simp)) (U32.cons (ua _ (by simp)) (U32.cons (ua _ (by simp)) (U32.nil))))))))),rfl,by (repeat (with_reducible refine Rd.setW ?_ (by omega) _ _));exact H4.out.1,by (repeat (with_reducible refine Aside.setHigh ?_ (by simp<;>omega) _));exact H4.out.2⟩
 ·go_wp2
  refine bodyPost_ret (v:= .agg #[.int .u32 a0,.int .u32 a1,.int .u32 a2,.int .u32 b0,.int .u32 b1,.int .u32 a2,.int .u32 c0,.int .u32 c1,.int .u32 a2]) (by simp [results,Tryz.results55,go_sem,b0x0,b0x1,b0x2,b0x3,b0x4,b0x5,b0x6,b0x7,b0x8]) rfl ?_
  exact ⟨a0,a1,a2,b0,b1,a2,c0,c1,a2,U32.cons (ua _ (by simp)) (U32.cons (ua _ (by simp)) (U32.cons (ua _ (by simp)) (U32.cons (ub _ (by simp)) (U32.cons (ub _ (by simp)) (U32.cons (ua _ (by simp)) (U32.cons (uc _ (by simp)) (U32.cons (uc _ (by simp)) (U32.cons (ua _ (by simp)) (U32.nil))))))))),rfl,by (repeat (with_reducible refine Rd.setW ?_ (by omega) _ _));exact H4.out.1,by (repeat (with_reducible refine Aside.setHigh ?_ (by simp<;>omega) _));exact H4.out.2⟩
 ·go_wp2
  refine bodyPost_ret (v:= .agg #[.int .u32 a0,.int .u32 a1,.int .u32 a2,.int .u32 b0,.int .u32 b1,.int .u32 b2,.int .u32 c0,.int .u32 c1,.int .u32 c2]) (by simp [results,Tryz.results55,go_sem,b0x0,b0x1,b0x2,b0x3,b0x4,b0x5,b0x6,b0x7,b0x8]) rfl ?_
  exact ⟨a0,a1,a2,b0,b1,b2,c0,c1,c2,U32.cons (ua _ (by simp)) (U32.cons (ua _ (by simp)) (U32.cons (ua _ (by simp)) (U32.cons (ub _ (by simp)) (U32.cons (ub _ (by simp)) (U32.cons (ub _ (by simp)) (U32.cons (uc _ (by simp)) (U32.cons (uc _ (by simp)) (U32.cons (uc _ (by simp)) (U32.nil))))))))),rfl,by (repeat (with_reducible refine Rd.setW ?_ (by omega) _ _));exact H4.out.1,by (repeat (with_reducible refine Aside.setHigh ?_ (by simp<;>omega) _));exact H4.out.2⟩
def RayW (P:Nat) (w:World) (e:Ending) (w':World):Prop:= ∃x0 x1 x2 x3 x4 x5:Int,U32 [x0,x1,x2,x3,x4,x5]∧e= .returned (.agg #[.int .u32 x0,.int .u32 x1,.int .u32 x2,.int .u32 x3,.int .u32 x4,.int .u32 x5])∧Rd P w'∧Aside P w w'
theorem rayW_any (P:Nat) (wild:Bool) (w:World) (h:Rd P w):
 Calls Tryz.prog 94 #[.pointer (some ⟨P,0,none⟩),.bool wild] w fun e w'=>RayW P w e w':=by
 have hP:=h.lt
 have H0:Hid (Rd P w):=h
 clear h
 go_enter Tryz.func94,Tryz.ntmps94
 go_wp2_with fail
 refine (next_any P _ (H0.out.later (bel0 _ _))).mono ?_
 rintro e w1 ⟨k,rfl,hk0,hk1,hr,ha⟩
 have X1:Hid (Cs w1 w.heap.size [.int .u32 0,.int .u32 0,.int .u32 0,.int .u32 0,.int .u32 0,.int .u32 0]∧True):=⟨(Cs.new _ _ _).aside ha hP,trivial⟩
 have H1:Hid (Rd P w1∧Aside P w w1):=⟨hr,(Aside.of (bel0 _ _)).trans ha⟩
 have z1:w.heap.size<w1.heap.size:=X1.out.1.1
 clear hr ha H0
 go_wp2_with fail
 refine (ptW_any P wild _ H1.out.1).mono ?_
 rintro e w2 ⟨a0,a1,a2,ua,rfl,hr,ha⟩
 obtain ⟨V2,hW⟩: ∃V,(w2.alloc (.cells #[.int .u32 a0,.int .u32 a1,.int .u32 a2] 34))=V:=⟨_,rfl⟩
 have bW:Below w2.heap.size w2 V2:=by rw [←hW];exact bel0 _ _
 have X2:Hid (Cs V2 w.heap.size [.int .u32 0,.int .u32 0,.int .u32 0,.int .u32 0,.int .u32 0,.int .u32 0]∧Cs V2 w2.heap.size [.int .u32 a0,.int .u32 a1,.int .u32 a2]∧True):=⟨(X1.out.1.aside ha (by omega)).later bW,by rw [←hW];exact Cs.new _ _ _,trivial⟩
 have H2:Hid (Rd P V2∧Aside P w V2):=⟨hr.later bW,(H1.out.2.trans ha).trans (Aside.of bW)⟩
 have z2:w1.heap.size≤w2.heap.size:=by have:=ha.size;omega
 have hV2:=hW
 clear hr ha bW hW X1 H1
 go_wp2_with fail
 clear hV2
 refine (ptW_any P wild _ H2.out.1).mono ?_
 rintro e w3 ⟨b0,b1,b2,ub,rfl,hr,ha⟩
 obtain ⟨V3,hW⟩: ∃V,(w3.alloc (.cells #[.int .u32 b0,.int .u32 b1,.int .u32 b2] 34))=V:=⟨_,rfl⟩
 have bW:Below w3.heap.size w3 V3:=by rw [←hW];exact bel0 _ _
 have X3:Hid (Cs V3 w.heap.size [.int .u32 0,.int .u32 0,.int .u32 0,.int .u32 0,.int .u32 0,.int .u32 0]∧Cs V3 w2.heap.size [.int .u32 a0,.int .u32 a1,.int .u32 a2]∧Cs V3 w3.heap.size [.int .u32 b0,.int .u32 b1,.int .u32 b2]∧True):=⟨(X2.out.1.aside ha (by omega)).later bW,(X2.out.2.1.aside ha (by omega)).later bW,by rw [←hW];exact Cs.new _ _ _,trivial⟩
 have H3:Hid (Rd P V3∧Aside P w V3):=⟨hr.later bW,(H2.out.2.trans ha).trans (Aside.of bW)⟩
 have z3:w2.heap.size<w3.heap.size:=by have:=ha.size;have:=X2.out.2.1.1;omega
 have hV3:=hW
 clear hr ha bW hW X2 H2
 have m4:k.tmod 4=k%4:=Int.tmod_eq_emod_of_nonneg hk0
 have m8:k.tmod 8=k%8:=Int.tmod_eq_emod_of_nonneg hk0
 have m16:k.tmod 16=k%16:=Int.tmod_eq_emod_of_nonneg hk0
 have b0x0:=X3.out.1.at 0 rfl
 have b0x1:=X3.out.1.at 1 rfl
 have b0x2:=X3.out.1.at 2 rfl
 have b0x3:=X3.out.1.at 3 rfl
 have b0x4:=X3.out.1.at 4 rfl
 have b0x5:=X3.out.1.at 5 rfl
 have b0f:=X3.out.1.2.1
 have b1x0:=X3.out.2.1.at 0 rfl
 have b1x1:=X3.out.2.1.at 1 rfl
 have b1x2:=X3.out.2.1.at 2 rfl
 have b1f:=X3.out.2.1.2.1
 have b2x0:=X3.out.2.2.1.at 0 rfl
 have b2x1:=X3.out.2.2.1.at 1 rfl
 have b2x2:=X3.out.2.2.1.at 2 rfl
 have b2f:=X3.out.2.2.1.2.1
 go_upto_if 18 with fail
 go_cut [] from 19 to 35 (fun wx=> ∃d0 d1 d2:Int,Hid (U32 [d0,d1,d2]∧(Rd P wx∧Aside P w wx)∧Cs wx w.heap.size [.int .u32 0,.int .u32 0,.int .u32 0,.int .u32 0,.int .u32 0,.int .u32 0]∧Cs wx w2.heap.size [.int .u32 a0,.int .u32 a1,.int .u32 a2]∧Cs wx w3.heap.size [.int .u32 d0,.int .u32 d1,.int .u32 d2]∧True))
 case first=>
  by_cases hc:k%4=0
  ·go_wp2
   go_meet
   case rel=>exact ⟨0,0,b2,U32.cons ⟨by omega,by omega⟩ (U32.cons ⟨by omega,by omega⟩ (U32.cons (ub _ (by simp)) (U32.nil))),⟨by (repeat (with_reducible refine Rd.setW ?_ (by omega) _ _));exact H3.out.1,by (repeat (with_reducible refine Aside.setHigh ?_ (by simp<;>omega) _));exact H3.out.2⟩,((X3.out.1.setO (by omega)).setO (by omega)),((X3.out.2.1.setO (by omega)).setO (by omega)),((X3.out.2.2.1.set1 _ (by simp)).set1 _ (by simp)),trivial⟩
  ·go_wp2
   go_meet
   case rel=>exact ⟨b0,b1,b2,ub,H3.out,X3.out⟩
 case rest=>
 obtain ⟨d0,d1,d2,HC⟩:=hcut
 have ud:=HC.out.1
 have XC:=Hid.mk HC.out.2.2
 have HH:=Hid.mk HC.out.2.1
 clear HC X3 H3 hV3 b0x0 b0x1 b0x2 b0x3 b0x4 b0x5 b0f b1x0 b1x1 b1x2 b1f b2x0 b2x1 b2x2 b2f
 have b0x0:=XC.out.1.at 0 rfl
 have b0x1:=XC.out.1.at 1 rfl
 have b0x2:=XC.out.1.at 2 rfl
 have b0x3:=XC.out.1.at 3 rfl
 have b0x4:=XC.out.1.at 4 rfl
 have b0x5:=XC.out.1.at 5 rfl
 have b0f:=XC.out.1.2.1
 have b1x0:=XC.out.2.1.at 0 rfl
 have b1x1:=XC.out.2.1.at 1 rfl
 have b1x2:=XC.out.2.1.at 2 rfl
 have b1f:=XC.out.2.1.2.1
 have b2x0:=XC.out.2.2.1.at 0 rfl
 have b2x1:=XC.out.2.2.1.at 1 rfl
 have b2x2:=XC.out.2.2.1.at 2 rfl
 have b2f:=XC.out.2.2.1.2.1
 go_upto_if 23 with fail
 go_cut [] from 24 to 35 (fun wx=> ∃f0 f1 f2:Int,Hid (U32 [f0,f1,f2]∧(Rd P wx∧Aside P w wx)∧Cs wx w.heap.size [.int .u32 0,.int .u32 0,.int .u32 0,.int .u32 0,.int .u32 0,.int .u32 0]∧Cs wx w2.heap.size [.int .u32 a0,.int .u32 a1,.int .u32 a2]∧Cs wx w3.heap.size [.int .u32 f0,.int .u32 f1,.int .u32 f2]∧True))
 case first=>
  by_cases hc:k%8=1
  ·go_wp2
   go_meet
   case rel=>exact ⟨d0,d1,0,U32.cons (ud _ (by simp)) (U32.cons (ud _ (by simp)) (U32.cons ⟨by omega,by omega⟩ (U32.nil))),⟨by (repeat (with_reducible refine Rd.setW ?_ (by omega) _ _));exact HH.out.1,by (repeat (with_reducible refine Aside.setHigh ?_ (by simp<;>omega) _));exact HH.out.2⟩,(XC.out.1.setO (by omega)),(XC.out.2.1.setO (by omega)),(XC.out.2.2.1.set1 _ (by simp)),trivial⟩
  ·go_wp2
   go_meet
   case rel=>exact ⟨d0,d1,d2,ud,HH.out,XC.out⟩
 case rest=>
 obtain ⟨f0,f1,f2,HC⟩:=hcut
 have uf:=HC.out.1
 have XD:=Hid.mk HC.out.2.2
 have HI:=Hid.mk HC.out.2.1
 clear HC XC HH b0x0 b0x1 b0x2 b0x3 b0x4 b0x5 b0f b1x0 b1x1 b1x2 b1f b2x0 b2x1 b2x2 b2f
 have b0x0:=XD.out.1.at 0 rfl
 have b0x1:=XD.out.1.at 1 rfl
 have b0x2:=XD.out.1.at 2 rfl
 have b0x3:=XD.out.1.at 3 rfl
 have b0x4:=XD.out.1.at 4 rfl
 have b0x5:=XD.out.1.at 5 rfl
 have b0f:=XD.out.1.2.1
 have b1x0:=XD.out.2.1.at 0 rfl
 have b1x1:=XD.out.2.1.at 1 rfl
 have b1x2:=XD.out.2.1.at 2 rfl
 have b1f:=XD.out.2.1.2.1
 have b2x0:=XD.out.2.2.1.at 0 rfl
 have b2x1:=XD.out.2.2.1.at 1 rfl
 have b2x2:=XD.out.2.2.1.at 2 rfl
 have b2f:=XD.out.2.2.1.2.1
 go_wp2_with fail
 refine (noWayV_any f0 f1 f2 _ (uf _ (by simp)).1 (uf _ (by simp)).2 (uf _ (by simp)).1 (uf _ (by simp)).2 (uf _ (by simp)).1 (uf _ (by simp)).2).mono ?_
 rintro e w5 ⟨rfl,hb5⟩
 have XE:Hid (Cs w5 w.heap.size [.int .u32 0,.int .u32 0,.int .u32 0,.int .u32 0,.int .u32 0,.int .u32 0]∧Cs w5 w2.heap.size [.int .u32 a0,.int .u32 a1,.int .u32 a2]∧Cs w5 w3.heap.size [.int .u32 f0,.int .u32 f1,.int .u32 f2]∧True):=⟨XD.out.1.later hb5,XD.out.2.1.later hb5,XD.out.2.2.1.later hb5,trivial⟩
 have HE:Hid (Rd P w5∧Aside P w w5):=⟨HI.out.1.later hb5,HI.out.2.trans (Aside.of hb5)⟩
 clear XD HI hb5 b0x0 b0x1 b0x2 b0x3 b0x4 b0x5 b0f b1x0 b1x1 b1x2 b1f b2x0 b2x1 b2x2 b2f
 have b0x0:=XE.out.1.at 0 rfl
 have b0x1:=XE.out.1.at 1 rfl
 have b0x2:=XE.out.1.at 2 rfl
 have b0x3:=XE.out.1.at 3 rfl
 have b0x4:=XE.out.1.at 4 rfl
 have b0x5:=XE.out.1.at 5 rfl
 have b0f:=XE.out.1.2.1
 have b1x0:=XE.out.2.1.at 0 rfl
 have b1x1:=XE.out.2.1.at 1 rfl
 have b1x2:=XE.out.2.1.at 2 rfl
 have b1f:=XE.out.2.1.2.1
 have b2x0:=XE.out.2.2.1.at 0 rfl
 have b2x1:=XE.out.2.2.1.at 1 rfl
 have b2x2:=XE.out.2.2.1.at 2 rfl
 have b2f:=XE.out.2.2.1.2.1
 clear XE
 cases hN:noWayB f0 f1 f2
 ·go_wp2
  refine bodyPost_ret (v:= .agg #[.int .u32 a0,.int .u32 a1,.int .u32 a2,.int .u32 f0,.int .u32 f1,.int .u32 f2]) (by simp [results,Tryz.results94,go_sem,b0x0,b0x1,b0x2,b0x3,b0x4,b0x5]) rfl ?_
  exact ⟨a0,a1,a2,f0,f1,f2,U32.cons (ua _ (by simp)) (U32.cons (ua _ (by simp)) (U32.cons (ua _ (by simp)) (U32.cons (uf _ (by simp)) (U32.cons (uf _ (by simp)) (U32.cons (uf _ (by simp)) (U32.nil)))))),rfl,by (repeat (with_reducible refine Rd.setW ?_ (by omega) _ _));exact HE.out.1,by (repeat (with_reducible refine Aside.setHigh ?_ (by simp<;>omega) _));exact HE.out.2⟩
 ·by_cases hc:0<k%16
  ·go_wp2
   refine bodyPost_ret (v:= .agg #[.int .u32 a0,.int .u32 a1,.int .u32 a2,.int .u32 f0,.int .u32 f1,.int .u32 1065353216]) (by simp [results,Tryz.results94,go_sem,b0x0,b0x1,b0x2,b0x3,b0x4,b0x5]) rfl ?_
   exact ⟨a0,a1,a2,f0,f1,1065353216,U32.cons (ua _ (by simp)) (U32.cons (ua _ (by simp)) (U32.cons (ua _ (by simp)) (U32.cons (uf _ (by simp)) (U32.cons (uf _ (by simp)) (U32.cons ⟨by omega,by omega⟩ (U32.nil)))))),rfl,by (repeat (with_reducible refine Rd.setW ?_ (by omega) _ _));exact HE.out.1,by (repeat (with_reducible refine Aside.setHigh ?_ (by simp<;>omega) _));exact HE.out.2⟩
  ·go_wp2
   refine bodyPost_ret (v:= .agg #[.int .u32 a0,.int .u32 a1,.int .u32 a2,.int .u32 f0,.int .u32 f1,.int .u32 f2]) (by simp [results,Tryz.results94,go_sem,b0x0,b0x1,b0x2,b0x3,b0x4,b0x5]) rfl ?_
   exact ⟨a0,a1,a2,f0,f1,f2,U32.cons (ua _ (by simp)) (U32.cons (ua _ (by simp)) (U32.cons (ua _ (by simp)) (U32.cons (uf _ (by simp)) (U32.cons (uf _ (by simp)) (U32.cons (uf _ (by simp)) (U32.nil)))))),rfl,by (repeat (with_reducible refine Rd.setW ?_ (by omega) _ _));exact HE.out.1,by (repeat (with_reducible refine Aside.setHigh ?_ (by simp<;>omega) _));exact HE.out.2⟩
theorem fo_sgn {a b m1 e1 m2 e2:Int} {T T':Nat} (h1:NormOf (fNum a) (fExp a-150) m1 e1 T) (h2:NormOf (fNum b) (fExp b-150) m2 e2 T') (a0:0≤a) (b0:0≤b):sgn (sumAt m1 e1 (-m2) e2)=sgn (fVal a-fVal b):=by
 have ea:=fExp_pos a0
 have eb:=fExp_pos b0
 have b1:=h1.bound
 have b2:=h2.bound
 unfold fVal
 rw [sgn_sumAt (K:=150) (by omega) (by omega),atK_neg,h1.at (by omega),h2.at (by omega)]
 congr 1
theorem l3order_any (a b:Int) (w:World) (a0:0≤a) (a1:a<4294967296) (b0:0≤b) (b1:b<4294967296):
 Calls Tryz.prog 95 #[.int .u32 a,.int .u32 b] w fun e w'=>e= .returned (.int .i64 (sgn (fVal a-fVal b)))∧Below w.heap.size w w':=by
 have ea:=fExp_pos a0
 have eb:=fExp_pos b0
 obtain ⟨r,hr⟩: ∃r,r=sgn (fVal a-fVal b):=⟨_,rfl⟩
 rw [←hr]
 have HR:Hid (r=sgn (fVal a-fVal b)):=hr
 clear hr
 go_enter Tryz.func95,Tryz.ntmps95
 go_wp2_with fail
 refine (float2_any a _ a0 a1).mono ?_
 rintro e w2 ⟨m1,e1,hn1,g1,a1',c1,f1,rfl,hl1,hL1,hF1,hB1⟩
 go_wp2_with fail
 refine (float2_any b _ b0 b1).mono ?_
 rintro e w3 ⟨m2,e2,hn2,g2,a2,c2,f2,rfl,hl2,hL2,hF2,hb2⟩
 have hB2:Below w.heap.size w w3:=hB1.trans (hb2.mono hB1.size)
 have hL1b:=hL1.later hb2
 go_wp2_with fail
 refine (neg2_any g2 a2 c2 f2 m2 e2 _ (by omega) hL2).mono ?_
 rintro e w4 ⟨g3,f3,rfl,hl3,hL3,hb3⟩
 have hB3:Below w.heap.size w w4:=hB2.trans (hb3.mono hB2.size)
 have hL1c:=hL1b.later hb3
 go_wp2_with fail
 refine (add2_any g1 g3 a1' a2 c1 c2 f1 f3 m1 (-m2) e1 e2 _ (by omega) (by omega) (by have:=hn1.bound;have:=hn2.bound;omega) (by have:=hn1.bound;have:=hn2.bound;omega) hL1c hL3).mono ?_
 rintro e w5 ⟨g4,a4,c4,f4,rfl,hl4,hL4,hF4,hb4⟩
 have HS:Hid (sgn (sumAt m1 e1 (-m2) e2)=r):=(fo_sgn hn1 hn2 a0 b0).trans HR.out.symm
 have HB:Hid (Below w.heap.size w w5):=hB3.trans (hb4.mono hB3.size)
 have HL:Hid (L1 w5 g4 a4 c4 f4 (sumAt m1 e1 (-m2) e2)):=hL4
 generalize sumAt m1 e1 (-m2) e2=m4 at HS HL
 generalize min e1 e2=e4
 clear hB1 hb2 hB2 hb3 hB3 hb4 hL1 hL1b hL1c hL2 hL3 hL4 hF1 hF2 hF4
 go_wp2_with fail
 refine (sign_any g4 a4 c4 f4 m4 _ (by omega) (HL.out.later (bel0 _ _))).mono ?_
 rintro e w6 ⟨rfl,hb6⟩
 rw [HS.out]
 have HB6:Hid (Below w.heap.size w w6):=(HB.out.alloc HB.out.size _).trans (hb6.mono (by have:=HB.out.size;simp;omega))
 clear hb6
 go_wp2
 go_ret
 exact ⟨rfl,HB6.out⟩
end Go.Proofs.YtfieffpobgcpmaaGreatDoor
