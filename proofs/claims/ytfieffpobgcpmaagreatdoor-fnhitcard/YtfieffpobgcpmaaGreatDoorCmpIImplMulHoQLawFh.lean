import Derived.Test.YtfieffpobgcpmaaGreatDoorBoxToSpecD
import Derived.Test.YtfieffpobgcpmaaGreatDoorEsEToImplC0
import Derived.Test.YtfieffpobgcpmaaGreatDoorImplNgImplNNumMImplM
import Derived.Test.YtfieffpobgcpmaaGreatDoorHoMHoNHoPDraw0
import Derived.Test.YtfieffpobgcpmaaGreatDoorDwEQ
import Derived.Test.YtfieffpobgcpmaaGreatDoorHdBHdCHoASpecFnSpecI
import Derived.Deep.CutRange
set_option maxRecDepth 100000
set_option maxHeartbeats 32000000
namespace Go.Proofs.YtfieffpobgcpmaaGreatDoor
open Go.RowKit
theorem cmpBI_ok (g g':Bool) (a a':Option Addr) (c c':Nat) (zs ys:List Int) (w:World) (hn:zs.length≤1048576) (hn':ys.length≤1048576) (hz:RowAt .u32 w a zs) (hy:RowAt .u32 w a' ys) (v1:validB g zs=true) (v2:validB g' ys=true):
 Calls Tryz.prog 20 #[.agg #[.bool g,.slice a zs.length c],.agg #[.bool g',.slice a' ys.length c']] w fun e w'=>e= .returned (.tuple #[.int .i64 (ordB g g' zs ys),.int .i64 0])∧Below w.heap.size w w':=by
 go_enter Tryz.func20,Tryz.ntmps20
 go_wp2_with fail
 refine (validI_any g a c zs _ (by unfold maxLen;omega) (hz.later (bel2 _ _ _))).mono ?_
 rintro e w1 ⟨rfl,hb1⟩
 rw [v1]
 have F1:Hid (Bx2 w (.bool g) (.slice a zs.length c) (.bool g') (.slice a' ys.length c') w1):=(Bx2.start w _ _ _ _ _ _).later hb1
 have q0:=F1.out.q0
 have q1:=F1.out.q1
 have q2:=F1.out.q2
 have q3:=F1.out.q3
 clear hb1
 go_wp2_with fail
 refine (validI_any g' a' c' ys _ (by unfold maxLen;omega) (hy.later F1.out.bel)).mono ?_
 rintro e w2 ⟨rfl,hb2⟩
 rw [v2]
 have F2:Hid (Bx2 w (.bool g) (.slice a zs.length c) (.bool g') (.slice a' ys.length c') w2):=F1.out.later hb2
 clear q0 q1 q2 q3 hb2 F1
 have q0:=F2.out.q0
 have q1:=F2.out.q1
 have q2:=F2.out.q2
 have q3:=F2.out.q3
 go_wp2_with fail
 refine (orderOf_any g g' a a' c c' zs ys _ hn hn' (hz.later F2.out.bel) (hy.later F2.out.bel)).mono ?_
 rintro e w3 ⟨rfl,hb3⟩
 have HB:Hid (Below w.heap.size w w3):=(F2.out.later hb3).bel
 clear hb3
 go_wp2
 go_ret2
 exact ⟨rfl,HB.out⟩
theorem cmpBI_bad1 (g g':Bool) (a a':Option Addr) (c c':Nat) (zs ys:List Int) (w:World) (hn:zs.length≤1048576) (hz:RowAt .u32 w a zs) (v1:validB g zs=false):
 Calls Tryz.prog 20 #[.agg #[.bool g,.slice a zs.length c],.agg #[.bool g',.slice a' ys.length c']] w fun e w'=>e= .returned (.tuple #[.int .i64 0,.int .i64 1])∧Below w.heap.size w w':=by
 go_enter Tryz.func20,Tryz.ntmps20
 go_wp2_with fail
 refine (validI_any g a c zs _ (by unfold maxLen;omega) (hz.later (bel2 _ _ _))).mono ?_
 rintro e w1 ⟨rfl,hb1⟩
 rw [v1]
 have HB:Hid (Below w.heap.size w w1):=(bel2 _ _ _).trans (hb1.mono (by simp;omega))
 clear hb1
 go_wp2
 go_ret2
 exact ⟨rfl,HB.out⟩
theorem cmpBI_bad2 (g g':Bool) (a a':Option Addr) (c c':Nat) (zs ys:List Int) (w:World) (hn:zs.length≤1048576) (hn':ys.length≤1048576) (hz:RowAt .u32 w a zs) (hy:RowAt .u32 w a' ys) (v1:validB g zs=true) (v2:validB g' ys=false):
 Calls Tryz.prog 20 #[.agg #[.bool g,.slice a zs.length c],.agg #[.bool g',.slice a' ys.length c']] w fun e w'=>e= .returned (.tuple #[.int .i64 0,.int .i64 1])∧Below w.heap.size w w':=by
 go_enter Tryz.func20,Tryz.ntmps20
 go_wp2_with fail
 refine (validI_any g a c zs _ (by unfold maxLen;omega) (hz.later (bel2 _ _ _))).mono ?_
 rintro e w1 ⟨rfl,hb1⟩
 rw [v1]
 have F1:Hid (Bx2 w (.bool g) (.slice a zs.length c) (.bool g') (.slice a' ys.length c') w1):=(Bx2.start w _ _ _ _ _ _).later hb1
 have q0:=F1.out.q0
 have q1:=F1.out.q1
 have q2:=F1.out.q2
 have q3:=F1.out.q3
 clear hb1
 go_wp2_with fail
 refine (validI_any g' a' c' ys _ (by unfold maxLen;omega) (hy.later F1.out.bel)).mono ?_
 rintro e w2 ⟨rfl,hb2⟩
 rw [v2]
 have HB:Hid (Below w.heap.size w w2):=(F1.out.later hb2).bel
 clear hb2
 go_wp2
 go_ret2
 exact ⟨rfl,HB.out⟩
def cmpR (g g':Bool) (zs ys:List Int):Int:=if validB g zs=true∧validB g' ys=true then sgn (sg g (val 4294967296 zs)-sg g' (val 4294967296 ys)) else 0
def cmpK (g g':Bool) (zs ys:List Int):Int:=if validB g zs=true∧validB g' ys=true then 0 else 1
theorem sgn_of_pos {x:Int} (h:0<x):sgn x=1:=by unfold sgn;rw [if_neg (by omega),if_neg (by omega)]
theorem sgn_of_neg {x:Int} (h:x<0):sgn x= -1:=by unfold sgn;rw [if_pos h]
theorem ord_val {g g':Bool} {zs ys:List Int} (hu:U32 zs) (hu':U32 ys) (v1:validB g zs=true) (v2:validB g' ys=true):ordB g g' zs ys=sgn (sg g (val 4294967296 zs)-sg g' (val 4294967296 ys)):=by
 obtain ⟨c1,_,n1⟩:=valid_canon hu v1
 obtain ⟨c2,_,n2⟩:=valid_canon hu' v2
 have p1:=val_nonneg (B:=4294967296) (by decide) c1.1
 have p2:=val_nonneg (B:=4294967296) (by decide) c2.1
 cases g<;>cases g'
 ·simp only [ordB,sg]
  rw [if_neg (by simp),if_neg (by simp),if_neg (by simp),cmpL_val (by decide) c1 c2]
  rfl
 ·have:=val_pos (B:=4294967296) (by decide) c2 (n2 rfl)
  simp only [ordB,sg]
  rw [if_neg (by simp),if_pos (by simp)]
  simp only [Bool.false_eq_true,if_false,if_true]
  rw [sgn_of_pos (by omega)]
 ·have:=val_pos (B:=4294967296) (by decide) c1 (n1 rfl)
  simp only [ordB,sg]
  rw [if_pos (by simp)]
  simp only [Bool.false_eq_true,if_false,if_true]
  rw [sgn_of_neg (by omega)]
 ·simp only [ordB,sg]
  rw [if_neg (by simp),if_neg (by simp)]
  simp only [if_true]
  rw [cmpL_val (by decide) c2 c1]
  congr 1
  omega
theorem cmpBI_any (g g':Bool) (a a':Option Addr) (c c':Nat) (zs ys:List Int) (w:World) (hn:zs.length≤1048576) (hn':ys.length≤1048576) (hz:RowAt .u32 w a zs) (hy:RowAt .u32 w a' ys) (hu:U32 zs) (hu':U32 ys):
 Calls Tryz.prog 20 #[.agg #[.bool g,.slice a zs.length c],.agg #[.bool g',.slice a' ys.length c']] w fun e w'=>e= .returned (.tuple #[.int .i64 (cmpR g g' zs ys),.int .i64 (cmpK g g' zs ys)])∧Below w.heap.size w w':=by
 cases v1:validB g zs
 ·unfold cmpR cmpK
  rw [if_neg (by simp [v1]),if_neg (by simp [v1])]
  exact cmpBI_bad1 g g' a a' c c' zs ys w hn hz v1
 ·cases v2:validB g' ys
  ·unfold cmpR cmpK
   rw [if_neg (by simp [v2]),if_neg (by simp [v2])]
   exact cmpBI_bad2 g g' a a' c c' zs ys w hn hn' hz hy v1 v2
  ·unfold cmpR cmpK
   rw [if_pos ⟨v1,v2⟩,if_pos ⟨v1,v2⟩,←ord_val hu hu' v1 v2]
   exact cmpBI_ok g g' a a' c c' zs ys w hn hn' hz hy v1 v2
theorem imMul_bad1 (g g':Bool) (a a':Option Addr) (c c':Nat) (zs ys:List Int) (x:Int) (w:World) (hn:zs.length≤1048576) (hz:RowAt .u32 w a zs) (v1:validB g zs=false):
 Calls Tryz.prog 19 #[.agg #[.bool g,.slice a zs.length c],.agg #[.bool g',.slice a' ys.length c']] w fun e w'=>OutI w false x e w':=by
 go_enter Tryz.func19,Tryz.ntmps19
 go_wp2_with fail
 refine (validI_any g a c zs _ (by unfold maxLen;omega) (hz.later (bel3 _ _ _ _))).mono ?_
 rintro e w1 ⟨rfl,hb1⟩
 rw [v1]
 have F1:Hid (AddF w g g' (.slice a zs.length c) (.slice a' ys.length c') (.slice none 0 0) w1):=(AddF.start w g g' _ _ _ _ _ _).later hb1
 clear hb1
 have r1:=F1.out.r1
 have r2:=F1.out.r2
 have r3:=F1.out.r3
 go_wp2
 refine bodyPost_ret (v:= .tuple #[.agg #[.bool false,.slice none 0 0],.int .i64 1]) (by simp [results,Tryz.results19,go_sem,r1,r2]) rfl ?_
 refine ⟨false,[],1,none,0,rfl,.inl ⟨rfl,rfl,rfl,rfl⟩,.inl rfl,?_⟩
 exact (F1.out.bel.setCell (by simp;omega) _).setCell (by simp;omega) _
theorem imMul_bad2 (g g':Bool) (a a':Option Addr) (c c':Nat) (zs ys:List Int) (x:Int) (w:World) (hn:zs.length≤1048576) (hn':ys.length≤1048576) (hz:RowAt .u32 w a zs) (hy:RowAt .u32 w a' ys) (v1:validB g zs=true) (v2:validB g' ys=false):
 Calls Tryz.prog 19 #[.agg #[.bool g,.slice a zs.length c],.agg #[.bool g',.slice a' ys.length c']] w fun e w'=>OutI w false x e w':=by
 go_enter Tryz.func19,Tryz.ntmps19
 go_wp2_with fail
 refine (validI_any g a c zs _ (by unfold maxLen;omega) (hz.later (bel3 _ _ _ _))).mono ?_
 rintro e w1 ⟨rfl,hb1⟩
 rw [v1]
 have F0:Hid (AddF w g g' (.slice a zs.length c) (.slice a' ys.length c') (.slice none 0 0) w1):=(AddF.start w g g' _ _ _ _ _ _).later hb1
 have s0:=F0.out.s.1
 have s1:=F0.out.s.2.1
 have s2:=F0.out.s.2.2.1
 have s3:=F0.out.s.2.2.2.1
 clear hb1
 go_wp2_with fail
 refine (validI_any g' a' c' ys _ (by unfold maxLen;omega) (hy.later F0.out.bel)).mono ?_
 rintro e w2 ⟨rfl,hb2⟩
 rw [v2]
 have F1:Hid (AddF w g g' (.slice a zs.length c) (.slice a' ys.length c') (.slice none 0 0) w2):=F0.out.later hb2
 clear hb2 s0 s1 s2 s3 F0
 have r1:=F1.out.r1
 have r2:=F1.out.r2
 have r3:=F1.out.r3
 go_wp2
 refine bodyPost_ret (v:= .tuple #[.agg #[.bool false,.slice none 0 0],.int .i64 1]) (by simp [results,Tryz.results19,go_sem,r1,r2]) rfl ?_
 refine ⟨false,[],1,none,0,rfl,.inl ⟨rfl,rfl,rfl,rfl⟩,.inl rfl,?_⟩
 exact (F1.out.bel.setCell (by simp;omega) _).setCell (by simp;omega) _
theorem imMul_ok (g g':Bool) (a a':Option Addr) (c c':Nat) (zs ys:List Int) (x y:Int) (w:World) (hn:zs.length≤512) (hn':ys.length≤512) (hz:RowAt .u32 w a zs) (hy:RowAt .u32 w a' ys) (h:B1 g zs x) (h':B1 g' ys y) (v1:validB g zs=true) (v2:validB g' ys=true):
 Calls Tryz.prog 19 #[.agg #[.bool g,.slice a zs.length c],.agg #[.bool g',.slice a' ys.length c']] w fun e w'=>OutI w true (x*y) e w':=by
 have hu:=h.can.1
 have hu':=h'.can.1
 have HX:Hid (x=sg g (val 4294967296 zs)):=h.num
 have HY:Hid (y=sg g' (val 4294967296 ys)):=h'.num
 go_enter Tryz.func19,Tryz.ntmps19
 go_wp2_with fail
 refine (validI_any g a c zs _ (by unfold maxLen;omega) (hz.later (bel3 _ _ _ _))).mono ?_
 rintro e w1 ⟨rfl,hb1⟩
 rw [v1]
 have F0:Hid (AddF w g g' (.slice a zs.length c) (.slice a' ys.length c') (.slice none 0 0) w1):=(AddF.start w g g' _ _ _ _ _ _).later hb1
 have s0:=F0.out.s.1
 have s1:=F0.out.s.2.1
 have s2:=F0.out.s.2.2.1
 have s3:=F0.out.s.2.2.2.1
 clear hb1
 go_wp2_with fail
 refine (validI_any g' a' c' ys _ (by unfold maxLen;omega) (hy.later F0.out.bel)).mono ?_
 rintro e W0 ⟨rfl,hb2⟩
 rw [v2]
 have F:Hid (AddF w g g' (.slice a zs.length c) (.slice a' ys.length c') (.slice none 0 0) W0):=F0.out.later hb2
 clear hb2 s0 s1 s2 s3 F0 v1 v2
 have s0:=F.out.s.1
 have s1:=F.out.s.2.1
 have s2:=F.out.s.2.2.1
 have s3:=F.out.s.2.2.2.1
 go_wp2_with fail
 refine (productOf_any g g' a a' c c' zs ys x y _ (by omega) (by omega) (hz.later F.out.bel) (hy.later F.out.bel) h h').mono ?_
 rintro e w4 ⟨g4,a4,c4,fs,rfl,hB1,hl4,hr4,hb4⟩
 have hB4:Below W0.heap.size W0 w4:=hb4
 clear s0 s1 s2 s3
 go_wp2_with fail
 refine (within_any g4 a4 c4 fs _ W0.heap.size (by omega) hr4).mono ?_
 rintro e w5 ⟨a5,c5,rfl,hr5,hb5⟩
 have hB5:Below W0.heap.size W0 w5:=hB4.trans (hb5.mono hB4.size)
 have hE:Hid (Res true (x*y) (limOut g4 fs).1 (limOut g4 fs).2.1 (limOut g4 fs).2.2):=res_lim hB1
 have hR:Hid (RowNew .u32 w5 W0.heap.size a5 (limOut g4 fs).2.1):=hr5
 have F5:Hid (AddF w g g' (.slice a zs.length c) (.slice a' ys.length c') (.slice none 0 0) w5):=F.out.later hB5
 have r1:=F5.out.r1
 have r2:=F5.out.r2
 have r3:=F5.out.r3
 clear hr5 hB1 hB5 hB4 hb4 hb5 hr4
 generalize (limOut g4 fs).1=G at*
 generalize (limOut g4 fs).2.1=Z at*
 generalize (limOut g4 fs).2.2=K at*
 go_wp2
 refine bodyPost_ret (v:= .tuple #[.agg #[.bool G,.slice a5 Z.length c5],.int .i64 K]) (by simp [results,Tryz.results19,go_sem,r1,r2]) rfl ?_
 have hle:=F.out.le
 refine ⟨G,Z,K,a5,c5,rfl,hE.out,?_,?_⟩
 ·exact ((hR.out.setLow (by simp;omega) _).setLow (by simp;omega) _).down (by omega)
 ·exact (F5.out.bel.setCell (by simp;omega) _).setCell (by simp;omega) _
theorem imMul_any (g g':Bool) (a a':Option Addr) (c c':Nat) (zs ys:List Int) (w:World) (hn:zs.length≤1048576) (hn':ys.length≤1048576) (hz:RowAt .u32 w a zs) (hy:RowAt .u32 w a' ys) (hu:U32 zs) (hu':U32 ys):
 Calls Tryz.prog 19 #[.agg #[.bool g,.slice a zs.length c],.agg #[.bool g',.slice a' ys.length c']] w fun e w'=>OutI w (validB g zs && validB g' ys) (sg g (val 4294967296 zs)*sg g' (val 4294967296 ys)) e w':=by
 cases v1:validB g zs
 ·exact imMul_bad1 g g' a a' c c' zs ys _ w hn hz v1
 ·cases v2:validB g' ys
  ·exact imMul_bad2 g g' a a' c c' zs ys _ w hn hn' hz hy v1 v2
  ·exact imMul_ok g g' a a' c c' zs ys _ _ w (valid_canon hu v1).2.1 (valid_canon hu' v2).2.1 hz hy (B1.of_valid hu v1) (B1.of_valid hu' v2) v1 v2
theorem mul_fits {zs ys:List Int} {x y:Int} (h:B1 false zs x) (h':B1 false ys y) (l:zs.length≤100) (l':ys.length≤100):Fits (x*y):=by
 have ex:x=val 4294967296 zs:=h.num
 have ey:y=val 4294967296 ys:=h'.num
 have x0:=val_nonneg (B:=4294967296) (by decide) h.can.1
 have y0:=val_nonneg (B:=4294967296) (by decide) h'.can.1
 have x1:=Int.lt_of_lt_of_le (val_lt_pow (B:=4294967296) (by decide) h.can.1) (pow_mono (by decide) l)
 have y1:=Int.lt_of_lt_of_le (val_lt_pow (B:=4294967296) (by decide) h'.can.1) (pow_mono (by decide) l')
 rw [←ex] at x0 x1
 rw [←ey] at y0 y1
 have hp:(0:Int)<4294967296^100:=Int.pow_pos (by decide)
 have h2:x*y≤4294967296^100*4294967296^100:=Int.mul_le_mul (Int.le_of_lt x1) (Int.le_of_lt y1) y0 (Int.le_of_lt hp)
 have h3:(4294967296:Int)^100*4294967296^100<4294967296^512:=by decide+kernel
 have h4:(0:Int)<4294967296^512:=Int.pow_pos (by decide)
 have h5:=Int.mul_nonneg x0 y0
 exact ⟨by generalize (4294967296:Int)^512=b at*;omega,Int.lt_of_le_of_lt h2 h3⟩
theorem mul_det (a a':Option Addr) (c c':Nat) (zs ys:List Int) (x y:Int) (w:World) (hz:RowAt .u32 w a zs) (hy:RowAt .u32 w a' ys) (h:B1 false zs x) (h':B1 false ys y) (l:zs.length≤100) (l':ys.length≤100):
 Calls Tryz.prog 19 #[.agg #[.bool false,.slice a zs.length c],.agg #[.bool false,.slice a' ys.length c']] w fun e w'=> ∃(G:Bool) (Z:List Int) (b:Option Addr) (d:Nat),e= .returned (.tuple #[.agg #[.bool G,.slice b Z.length d],.int .i64 0])∧B1 G Z (x*y)∧Z.length≤512∧RowAt .u32 w' b Z∧Below w.heap.size w w':=by
 refine (imMul_any false false a a' c c' zs ys w (by omega) (by omega) hz hy h.u32 h'.u32).mono ?_
 rintro e w' ⟨G,Z,K,b,d,rfl,hr,hn,hb⟩
 rw [h.valid (by omega),h'.valid (by omega),h.sg,h'.sg] at hr
 obtain ⟨rfl,h1,h2⟩:=Res.ok hr (mul_fits h h' l l')
 exact ⟨G,Z,b,d,rfl,h1,h2,hn.row,hb⟩
theorem hitLawF (a:Option Addr) (c:Nat) (bs:List Int) (w:World) (hT:Tab w) (hn:bs.length≤1048576) (hc:bs.length≤c) (hcm:c≤maxLen) (hnil:a=none→c=0) (hr:RowAt .u8 w a bs) (hb8:Dig 256 bs):
 Calls Tryz.prog 4 #[.slice a bs.length c] w fun e w'=>e= .returned (.bool true)∧Below w.heap.size w w':=by
 have HT:Hid (∀W,Below w.heap.size w W→Tab W):=fun W hb=>hT.later hb
 have HO:=Hid.mk (drawO_any a c bs w hn hc hcm hnil hr hb8)
 clear hT hr hb8 hnil hc hcm
 go_enter Tryz.func4,Tryz.ntmps4
 go_wp2_with fail
 refine HO.out.mono ?_
 rintro e w1 ⟨t0,t1,t2,t3,t4,t5,t6,t7,t8,u0,u1,u2,u3,u4,u5,u6,u7,u8,s0,s1,s2,s3,s4,s5,ht,hu,hs,rfl,hb1⟩
 have HUT:=Hid.mk ht
 have HUU:=Hid.mk hu
 have HUS:=Hid.mk hs
 have HB1:=Hid.mk hb1
 have HD0:Hid (HoS w1 [.int .u32 t0,.int .u32 t1,.int .u32 t2,.int .u32 t3,.int .u32 t4,.int .u32 t5,.int .u32 t6,.int .u32 t7,.int .u32 t8] [.int .u32 u0,.int .u32 u1,.int .u32 u2,.int .u32 u3,.int .u32 u4,.int .u32 u5,.int .u32 u6,.int .u32 u7,.int .u32 u8] [.int .u32 s0,.int .u32 s1,.int .u32 s2,.int .u32 s3,.int .u32 s4,.int .u32 s5] (((w1.alloc (.cells #[.int .u32 t0,.int .u32 t1,.int .u32 t2,.int .u32 t3,.int .u32 t4,.int .u32 t5,.int .u32 t6,.int .u32 t7,.int .u32 t8] 36)).alloc (.cells #[.int .u32 u0,.int .u32 u1,.int .u32 u2,.int .u32 u3,.int .u32 u4,.int .u32 u5,.int .u32 u6,.int .u32 u7,.int .u32 u8] 36)).alloc (.cells #[.int .u32 s0,.int .u32 s1,.int .u32 s2,.int .u32 s3,.int .u32 s4,.int .u32 s5] 39))):=HoS.start w1 _ _ _ _ _ _
 have HTS:Hid (U32 [t0,t1,t2,t3,t4,t5,t6,t7,t8,s0,s1,s2,s3,s4,s5]):=fun z hz=>(List.mem_append (s:=[t0,t1,t2,t3,t4,t5,t6,t7,t8]) (t:=[s0,s1,s2,s3,s4,s5])).mp hz|>.elim (HUT.out z) (HUS.out z)
 have HUX:Hid (U32 [u0,u1,u2,u3,u4,u5,u6,u7,u8,s0,s1,s2,s3,s4,s5]):=fun z hz=>(List.mem_append (s:=[u0,u1,u2,u3,u4,u5,u6,u7,u8]) (t:=[s0,s1,s2,s3,s4,s5])).mp hz|>.elim (HUU.out z) (HUS.out z)
 have HTU:Hid (U32 [t0,t1,t2,t3,t4,t5,t6,t7,t8,u0,u1,u2,u3,u4,u5,u6,u7,u8]):=fun z hz=>(List.mem_append (s:=[t0,t1,t2,t3,t4,t5,t6,t7,t8]) (t:=[u0,u1,u2,u3,u4,u5,u6,u7,u8])).mp hz|>.elim (HUT.out z) (HUU.out z)
 obtain ⟨ok,hok⟩: ∃ok,ok=((pointB t0 t1 t2 && pointB t3 t4 t5 && pointB t6 t7 t8) && (pointB u0 u1 u2 && pointB u3 u4 u5 && pointB u6 u7 u8) && (pointB s0 s1 s2 && pointB s3 s4 s5 && !(noWayB s3 s4 s5))):=⟨_,rfl⟩
 have HOKV:=Hid.mk hok
 clear ht hu hs hb1 HO hok
 go_wp2_with fail
 refine (hitOS_all t0 t1 t2 t3 t4 t5 t6 t7 t8 u0 u1 u2 u3 u4 u5 u6 u7 u8 s0 s1 s2 s3 s4 s5 _ HTS.out HUX.out ok HOKV.out).mono ?_
 rintro o w2 ⟨hb,h⟩
 have HD1:Hid (HoS w1 [.int .u32 t0,.int .u32 t1,.int .u32 t2,.int .u32 t3,.int .u32 t4,.int .u32 t5,.int .u32 t6,.int .u32 t7,.int .u32 t8] [.int .u32 u0,.int .u32 u1,.int .u32 u2,.int .u32 u3,.int .u32 u4,.int .u32 u5,.int .u32 u6,.int .u32 u7,.int .u32 u8] [.int .u32 s0,.int .u32 s1,.int .u32 s2,.int .u32 s3,.int .u32 s4,.int .u32 s5] w2):=HD0.out.later hb
 clear hb HD0
 rcases h with ⟨rfl,rfl⟩| ⟨rfl,R,S,hR,hS,rfl⟩
 ·have HD9:=HD1
  have x0:=HD1.out.t.at 0 rfl
  have y0:=HD1.out.u.at 0 rfl
  have x1:=HD1.out.t.at 1 rfl
  have y1:=HD1.out.u.at 1 rfl
  have x2:=HD1.out.t.at 2 rfl
  have y2:=HD1.out.u.at 2 rfl
  have x3:=HD1.out.t.at 3 rfl
  have y3:=HD1.out.u.at 3 rfl
  have x4:=HD1.out.t.at 4 rfl
  have y4:=HD1.out.u.at 4 rfl
  have x5:=HD1.out.t.at 5 rfl
  have y5:=HD1.out.u.at 5 rfl
  have x6:=HD1.out.t.at 6 rfl
  have y6:=HD1.out.u.at 6 rfl
  have x7:=HD1.out.t.at 7 rfl
  have y7:=HD1.out.u.at 7 rfl
  have x8:=HD1.out.t.at 8 rfl
  have y8:=HD1.out.u.at 8 rfl
  have z0:=HD1.out.r.at 0 rfl
  have z1:=HD1.out.r.at 1 rfl
  have z2:=HD1.out.r.at 2 rfl
  have z3:=HD1.out.r.at 3 rfl
  have z4:=HD1.out.r.at 4 rfl
  have z5:=HD1.out.r.at 5 rfl
  go_wp2_with fail
  refine (hitO_all t0 t1 t2 t3 t4 t5 t6 t7 t8 u0 u1 u2 u3 u4 u5 u6 u7 u8 s0 s1 s2 s3 s4 s5 _ (HT.out _ (HB1.out.trans (HD1.out.bel.mono HB1.out.size))) HTU.out HUS.out false HOKV.out).mono ?_
  rintro o w3 ⟨hb,⟨_,rfl⟩| ⟨h,_⟩⟩
  ·have HZ:Hid (Below w.heap.size w w3):=HB1.out.trans ((HD1.out.later hb).bel.mono HB1.out.size)
   clear hb HD1 HD9 x0 y0 x1 y1 x2 y2 x3 y3 x4 y4 x5 y5 x6 y6 x7 y7 x8 y8 z0 z1 z2 z3 z4 z5
   go_wp2
   go_ret
   exact ⟨rfl,HZ.out⟩
  ·cases h
 have HMR:=Hid.mk hR
 have HMS:=Hid.mk hS
 clear hR hS
 have x0:=HD1.out.t.at 0 rfl
 have y0:=HD1.out.u.at 0 rfl
 have x1:=HD1.out.t.at 1 rfl
 have y1:=HD1.out.u.at 1 rfl
 have x2:=HD1.out.t.at 2 rfl
 have y2:=HD1.out.u.at 2 rfl
 have x3:=HD1.out.t.at 3 rfl
 have y3:=HD1.out.u.at 3 rfl
 have x4:=HD1.out.t.at 4 rfl
 have y4:=HD1.out.u.at 4 rfl
 have x5:=HD1.out.t.at 5 rfl
 have y5:=HD1.out.u.at 5 rfl
 have x6:=HD1.out.t.at 6 rfl
 have y6:=HD1.out.u.at 6 rfl
 have x7:=HD1.out.t.at 7 rfl
 have y7:=HD1.out.u.at 7 rfl
 have x8:=HD1.out.t.at 8 rfl
 have y8:=HD1.out.u.at 8 rfl
 have z0:=HD1.out.r.at 0 rfl
 have z1:=HD1.out.r.at 1 rfl
 have z2:=HD1.out.r.at 2 rfl
 have z3:=HD1.out.r.at 3 rfl
 have z4:=HD1.out.r.at 4 rfl
 have z5:=HD1.out.r.at 5 rfl
 go_wp2_with fail
 refine (hitO_det t0 t1 t2 t3 t4 t5 t6 t7 t8 u0 u1 u2 u3 u4 u5 u6 u7 u8 s0 s1 s2 s3 s4 s5 _ (HT.out _ (HB1.out.trans (HD1.out.bel.mono HB1.out.size))) HTU.out HUS.out true HOKV.out HMR.out HMS.out).mono ?_
 rintro o w3 ⟨rfl,hb⟩
 have HD2:Hid (HoS w1 [.int .u32 t0,.int .u32 t1,.int .u32 t2,.int .u32 t3,.int .u32 t4,.int .u32 t5,.int .u32 t6,.int .u32 t7,.int .u32 t8] [.int .u32 u0,.int .u32 u1,.int .u32 u2,.int .u32 u3,.int .u32 u4,.int .u32 u5,.int .u32 u6,.int .u32 u7,.int .u32 u8] [.int .u32 s0,.int .u32 s1,.int .u32 s2,.int .u32 s3,.int .u32 s4,.int .u32 s5] w3):=HD1.out.later hb
 clear hb HD1 x0 y0 x1 y1 x2 y2 x3 y3 x4 y4 x5 y5 x6 y6 x7 y7 x8 y8 z0 z1 z2 z3 z4 z5
 obtain ⟨O,hO⟩: ∃O,O=sgn (R.1*S.2.1-S.1*R.2.1):=⟨_,rfl⟩
 simp only [if_true]
 rw [←hO]
 have HOO:=Hid.mk hO
 obtain ⟨M,hM⟩: ∃M,M=decide (R.2.1≠0):=⟨_,rfl⟩
 have HMM:=Hid.mk hM
 have HOK:Hid (okB t0 t1 t2 t3 t4 t5 t6 t7 t8 s0 s1 s2 s3 s4 s5=true∧okB t6 t7 t8 t3 t4 t5 t0 t1 t2 s0 s1 s2 s3 s4 s5=true∧okB t3 t4 t5 t6 t7 t8 t0 t1 t2 s0 s1 s2 s3 s4 s5=true):=by
  have:=HOKV.out
  unfold Hid okB
  simp only [Bool.and_eq_true,Bool.true_eq] at this⊢
  obtain ⟨⟨⟨⟨h1,h2⟩,h3⟩,_⟩,h4⟩:=this
  exact ⟨⟨⟨⟨h1,h2⟩,h3⟩,h4⟩,⟨⟨⟨h3,h2⟩,h1⟩,h4⟩,⟨⟨⟨h2,h3⟩,h1⟩,h4⟩⟩
 have HOU:Hid (okB u0 u1 u2 u3 u4 u5 u6 u7 u8 s0 s1 s2 s3 s4 s5=true):=by
  have:=HOKV.out
  unfold Hid okB
  simp only [Bool.and_eq_true,Bool.true_eq] at this⊢
  exact ⟨this.1.2,this.2⟩
 clear hO hM
 have x0:=HD2.out.t.at 0 rfl
 have y0:=HD2.out.u.at 0 rfl
 have x1:=HD2.out.t.at 1 rfl
 have y1:=HD2.out.u.at 1 rfl
 have x2:=HD2.out.t.at 2 rfl
 have y2:=HD2.out.u.at 2 rfl
 have x3:=HD2.out.t.at 3 rfl
 have y3:=HD2.out.u.at 3 rfl
 have x4:=HD2.out.t.at 4 rfl
 have y4:=HD2.out.u.at 4 rfl
 have x5:=HD2.out.t.at 5 rfl
 have y5:=HD2.out.u.at 5 rfl
 have x6:=HD2.out.t.at 6 rfl
 have y6:=HD2.out.u.at 6 rfl
 have x7:=HD2.out.t.at 7 rfl
 have y7:=HD2.out.u.at 7 rfl
 have x8:=HD2.out.t.at 8 rfl
 have y8:=HD2.out.u.at 8 rfl
 have z0:=HD2.out.r.at 0 rfl
 have z1:=HD2.out.r.at 1 rfl
 have z2:=HD2.out.r.at 2 rfl
 have z3:=HD2.out.r.at 3 rfl
 have z4:=HD2.out.r.at 4 rfl
 have z5:=HD2.out.r.at 5 rfl
 go_wp2_with fail
 refine (hitsS_det t0 t1 t2 t3 t4 t5 t6 t7 t8 s0 s1 s2 s3 s4 s5 _ HTS.out HOK.out.1 HMR.out M HMM.out).mono ?_
 rintro o w4 ⟨rfl,hb⟩
 have HD3:Hid (HoS w1 [.int .u32 t0,.int .u32 t1,.int .u32 t2,.int .u32 t3,.int .u32 t4,.int .u32 t5,.int .u32 t6,.int .u32 t7,.int .u32 t8] [.int .u32 u0,.int .u32 u1,.int .u32 u2,.int .u32 u3,.int .u32 u4,.int .u32 u5,.int .u32 u6,.int .u32 u7,.int .u32 u8] [.int .u32 s0,.int .u32 s1,.int .u32 s2,.int .u32 s3,.int .u32 s4,.int .u32 s5] w4):=HD2.out.later hb
 clear hb HD2 x0 y0 x1 y1 x2 y2 x3 y3 x4 y4 x5 y5 x6 y6 x7 y7 x8 y8 z0 z1 z2 z3 z4 z5
 have x0:=HD3.out.t.at 0 rfl
 have y0:=HD3.out.u.at 0 rfl
 have x1:=HD3.out.t.at 1 rfl
 have y1:=HD3.out.u.at 1 rfl
 have x2:=HD3.out.t.at 2 rfl
 have y2:=HD3.out.u.at 2 rfl
 have x3:=HD3.out.t.at 3 rfl
 have y3:=HD3.out.u.at 3 rfl
 have x4:=HD3.out.t.at 4 rfl
 have y4:=HD3.out.u.at 4 rfl
 have x5:=HD3.out.t.at 5 rfl
 have y5:=HD3.out.u.at 5 rfl
 have x6:=HD3.out.t.at 6 rfl
 have y6:=HD3.out.u.at 6 rfl
 have x7:=HD3.out.t.at 7 rfl
 have y7:=HD3.out.u.at 7 rfl
 have x8:=HD3.out.t.at 8 rfl
 have y8:=HD3.out.u.at 8 rfl
 have z0:=HD3.out.r.at 0 rfl
 have z1:=HD3.out.r.at 1 rfl
 have z2:=HD3.out.r.at 2 rfl
 have z3:=HD3.out.r.at 3 rfl
 have z4:=HD3.out.r.at 4 rfl
 have z5:=HD3.out.r.at 5 rfl
 go_wp2_with fail
 refine (hits_det t0 t1 t2 t3 t4 t5 t6 t7 t8 s0 s1 s2 s3 s4 s5 _ (HT.out _ (HB1.out.trans (HD3.out.bel.mono HB1.out.size))) (fun z hz=>HUT.out z (by simp at hz⊢;omega)) HUS.out (HOK.out.1) HMR.out (fun _ _=> .rfl) M HMM.out).mono ?_
 rintro o w5 ⟨rfl,hb⟩
 have HD4:Hid (HoS w1 [.int .u32 t0,.int .u32 t1,.int .u32 t2,.int .u32 t3,.int .u32 t4,.int .u32 t5,.int .u32 t6,.int .u32 t7,.int .u32 t8] [.int .u32 u0,.int .u32 u1,.int .u32 u2,.int .u32 u3,.int .u32 u4,.int .u32 u5,.int .u32 u6,.int .u32 u7,.int .u32 u8] [.int .u32 s0,.int .u32 s1,.int .u32 s2,.int .u32 s3,.int .u32 s4,.int .u32 s5] w5):=HD3.out.later hb
 clear hb HD3 x0 y0 x1 y1 x2 y2 x3 y3 x4 y4 x5 y5 x6 y6 x7 y7 x8 y8 z0 z1 z2 z3 z4 z5
 have x0:=HD4.out.t.at 0 rfl
 have y0:=HD4.out.u.at 0 rfl
 have x1:=HD4.out.t.at 1 rfl
 have y1:=HD4.out.u.at 1 rfl
 have x2:=HD4.out.t.at 2 rfl
 have y2:=HD4.out.u.at 2 rfl
 have x3:=HD4.out.t.at 3 rfl
 have y3:=HD4.out.u.at 3 rfl
 have x4:=HD4.out.t.at 4 rfl
 have y4:=HD4.out.u.at 4 rfl
 have x5:=HD4.out.t.at 5 rfl
 have y5:=HD4.out.u.at 5 rfl
 have x6:=HD4.out.t.at 6 rfl
 have y6:=HD4.out.u.at 6 rfl
 have x7:=HD4.out.t.at 7 rfl
 have y7:=HD4.out.u.at 7 rfl
 have x8:=HD4.out.t.at 8 rfl
 have y8:=HD4.out.u.at 8 rfl
 have z0:=HD4.out.r.at 0 rfl
 have z1:=HD4.out.r.at 1 rfl
 have z2:=HD4.out.r.at 2 rfl
 have z3:=HD4.out.r.at 3 rfl
 have z4:=HD4.out.r.at 4 rfl
 have z5:=HD4.out.r.at 5 rfl
 go_wp2_with fail
 refine (hits_det t6 t7 t8 t3 t4 t5 t0 t1 t2 s0 s1 s2 s3 s4 s5 _ (HT.out _ (HB1.out.trans (HD4.out.bel.mono HB1.out.size))) (fun z hz=>HUT.out z (by simp at hz⊢;omega)) HUS.out (HOK.out.2.1) HMR.out (meets_rev _ _ _ _ _) M HMM.out).mono ?_
 rintro o w6 ⟨rfl,hb⟩
 have HD5:Hid (HoS w1 [.int .u32 t0,.int .u32 t1,.int .u32 t2,.int .u32 t3,.int .u32 t4,.int .u32 t5,.int .u32 t6,.int .u32 t7,.int .u32 t8] [.int .u32 u0,.int .u32 u1,.int .u32 u2,.int .u32 u3,.int .u32 u4,.int .u32 u5,.int .u32 u6,.int .u32 u7,.int .u32 u8] [.int .u32 s0,.int .u32 s1,.int .u32 s2,.int .u32 s3,.int .u32 s4,.int .u32 s5] w6):=HD4.out.later hb
 clear hb HD4 x0 y0 x1 y1 x2 y2 x3 y3 x4 y4 x5 y5 x6 y6 x7 y7 x8 y8 z0 z1 z2 z3 z4 z5
 have x0:=HD5.out.t.at 0 rfl
 have y0:=HD5.out.u.at 0 rfl
 have x1:=HD5.out.t.at 1 rfl
 have y1:=HD5.out.u.at 1 rfl
 have x2:=HD5.out.t.at 2 rfl
 have y2:=HD5.out.u.at 2 rfl
 have x3:=HD5.out.t.at 3 rfl
 have y3:=HD5.out.u.at 3 rfl
 have x4:=HD5.out.t.at 4 rfl
 have y4:=HD5.out.u.at 4 rfl
 have x5:=HD5.out.t.at 5 rfl
 have y5:=HD5.out.u.at 5 rfl
 have x6:=HD5.out.t.at 6 rfl
 have y6:=HD5.out.u.at 6 rfl
 have x7:=HD5.out.t.at 7 rfl
 have y7:=HD5.out.u.at 7 rfl
 have x8:=HD5.out.t.at 8 rfl
 have y8:=HD5.out.u.at 8 rfl
 have z0:=HD5.out.r.at 0 rfl
 have z1:=HD5.out.r.at 1 rfl
 have z2:=HD5.out.r.at 2 rfl
 have z3:=HD5.out.r.at 3 rfl
 have z4:=HD5.out.r.at 4 rfl
 have z5:=HD5.out.r.at 5 rfl
 go_wp2_with fail
 refine (hits_det t3 t4 t5 t6 t7 t8 t0 t1 t2 s0 s1 s2 s3 s4 s5 _ (HT.out _ (HB1.out.trans (HD5.out.bel.mono HB1.out.size))) (fun z hz=>HUT.out z (by simp at hz⊢;omega)) HUS.out (HOK.out.2.2) HMR.out (meets_cyc _ _ _ _ _) M HMM.out).mono ?_
 rintro o w7 ⟨rfl,hb⟩
 have HD6:Hid (HoS w1 [.int .u32 t0,.int .u32 t1,.int .u32 t2,.int .u32 t3,.int .u32 t4,.int .u32 t5,.int .u32 t6,.int .u32 t7,.int .u32 t8] [.int .u32 u0,.int .u32 u1,.int .u32 u2,.int .u32 u3,.int .u32 u4,.int .u32 u5,.int .u32 u6,.int .u32 u7,.int .u32 u8] [.int .u32 s0,.int .u32 s1,.int .u32 s2,.int .u32 s3,.int .u32 s4,.int .u32 s5] w7):=HD5.out.later hb
 clear hb HD5 x0 y0 x1 y1 x2 y2 x3 y3 x4 y4 x5 y5 x6 y6 x7 y7 x8 y8 z0 z1 z2 z3 z4 z5
 have x0:=HD6.out.t.at 0 rfl
 have y0:=HD6.out.u.at 0 rfl
 have x1:=HD6.out.t.at 1 rfl
 have y1:=HD6.out.u.at 1 rfl
 have x2:=HD6.out.t.at 2 rfl
 have y2:=HD6.out.u.at 2 rfl
 have x3:=HD6.out.t.at 3 rfl
 have y3:=HD6.out.u.at 3 rfl
 have x4:=HD6.out.t.at 4 rfl
 have y4:=HD6.out.u.at 4 rfl
 have x5:=HD6.out.t.at 5 rfl
 have y5:=HD6.out.u.at 5 rfl
 have x6:=HD6.out.t.at 6 rfl
 have y6:=HD6.out.u.at 6 rfl
 have x7:=HD6.out.t.at 7 rfl
 have y7:=HD6.out.u.at 7 rfl
 have x8:=HD6.out.t.at 8 rfl
 have y8:=HD6.out.u.at 8 rfl
 have z0:=HD6.out.r.at 0 rfl
 have z1:=HD6.out.r.at 1 rfl
 have z2:=HD6.out.r.at 2 rfl
 have z3:=HD6.out.r.at 3 rfl
 have z4:=HD6.out.r.at 4 rfl
 have z5:=HD6.out.r.at 5 rfl
 go_wp2_with fail
 refine (hitI_all t0 t1 t2 t3 t4 t5 t6 t7 t8 s0 s1 s2 s3 s4 s5 _ (HT.out _ (HB1.out.trans (HD6.out.bel.mono HB1.out.size))) HTS.out).mono ?_
 rintro o w8 ⟨g1,a1,c1,v1,g2,a2,c2,v2,k1,K,rfl,hA,l1,l2,_,_,_,n1,n2,hb⟩
 rw [HOK.out.1] at hA
 rcases hA with ⟨_,rfl,hA⟩| ⟨h,_⟩
 case inr=>cases h
 obtain ⟨V8,hV⟩: ∃W,((w8.alloc (.cells #[.bool g1,.slice a1 v1.length c1] 31)).alloc (.cells #[.bool g2,.slice a2 v2.length c2] 31))=W:=⟨_,rfl⟩
 have bW:Below w8.heap.size w8 V8:=by rw [←hV];exact bel2 _ _ _
 have HA1:=Hid.mk hA
 have HN1:Hid (RowAt .u32 V8 a1 v1):=(RowNew.row n1).later bW
 have HN2:Hid (RowAt .u32 V8 a2 v2):=(RowNew.row n2).later bW
 have HC1:Hid (Cs V8 w8.heap.size [.bool g1,.slice a1 v1.length c1]):=by unfold Hid;rw [←hV];exact (Cs.new _ _ _).later (bel0 _ _)
 have HC2:Hid (Cs V8 (w8.heap.size+1) [.bool g2,.slice a2 v2.length c2]):=by
  have:=Cs.new (w8.alloc (.cells #[.bool g1,.slice a1 v1.length c1] 31)) #[.bool g2,.slice a2 v2.length c2] 31
  unfold Hid;rw [←hV];simpa using this
 have HD7:Hid (HoS w1 [.int .u32 t0,.int .u32 t1,.int .u32 t2,.int .u32 t3,.int .u32 t4,.int .u32 t5,.int .u32 t6,.int .u32 t7,.int .u32 t8] [.int .u32 u0,.int .u32 u1,.int .u32 u2,.int .u32 u3,.int .u32 u4,.int .u32 u5,.int .u32 u6,.int .u32 u7,.int .u32 u8] [.int .u32 s0,.int .u32 s1,.int .u32 s2,.int .u32 s3,.int .u32 s4,.int .u32 s5] V8):=(HD6.out.later hb).later bW
 clear hA n1 n2 hb bW HD6 x0 y0 x1 y1 x2 y2 x3 y3 x4 y4 x5 y5 x6 y6 x7 y7 x8 y8 z0 z1 z2 z3 z4 z5
 have x0:=HD7.out.t.at 0 rfl
 have y0:=HD7.out.u.at 0 rfl
 have x1:=HD7.out.t.at 1 rfl
 have y1:=HD7.out.u.at 1 rfl
 have x2:=HD7.out.t.at 2 rfl
 have y2:=HD7.out.u.at 2 rfl
 have x3:=HD7.out.t.at 3 rfl
 have y3:=HD7.out.u.at 3 rfl
 have x4:=HD7.out.t.at 4 rfl
 have y4:=HD7.out.u.at 4 rfl
 have x5:=HD7.out.t.at 5 rfl
 have y5:=HD7.out.u.at 5 rfl
 have x6:=HD7.out.t.at 6 rfl
 have y6:=HD7.out.u.at 6 rfl
 have x7:=HD7.out.t.at 7 rfl
 have y7:=HD7.out.u.at 7 rfl
 have x8:=HD7.out.t.at 8 rfl
 have y8:=HD7.out.u.at 8 rfl
 have z0:=HD7.out.r.at 0 rfl
 have z1:=HD7.out.r.at 1 rfl
 have z2:=HD7.out.r.at 2 rfl
 have z3:=HD7.out.r.at 3 rfl
 have z4:=HD7.out.r.at 4 rfl
 have z5:=HD7.out.r.at 5 rfl
 go_wp2_with fail
 clear hV
 refine (hitI_all u0 u1 u2 u3 u4 u5 u6 u7 u8 s0 s1 s2 s3 s4 s5 _ (HT.out _ (HB1.out.trans (HD7.out.bel.mono HB1.out.size))) HUX.out).mono ?_
 rintro o w9 ⟨g3,a3,c3,v3,g4,a4,c4,v4,k3,K,rfl,hA,l3,l4,_,_,_,n1,n2,hb⟩
 rw [HOU.out] at hA
 rcases hA with ⟨_,rfl,hA⟩| ⟨h,_⟩
 case inr=>cases h
 obtain ⟨V9,hV⟩: ∃W,((w9.alloc (.cells #[.bool g3,.slice a3 v3.length c3] 31)).alloc (.cells #[.bool g4,.slice a4 v4.length c4] 31))=W:=⟨_,rfl⟩
 have bW:Below w9.heap.size w9 V9:=by rw [←hV];exact bel2 _ _ _
 have HA3:=Hid.mk hA
 have HN3:Hid (RowAt .u32 V9 a3 v3):=(RowNew.row n1).later bW
 have HN4:Hid (RowAt .u32 V9 a4 v4):=(RowNew.row n2).later bW
 have HC3:Hid (Cs V9 w9.heap.size [.bool g3,.slice a3 v3.length c3]):=by unfold Hid;rw [←hV];exact (Cs.new _ _ _).later (bel0 _ _)
 have HC4:Hid (Cs V9 (w9.heap.size+1) [.bool g4,.slice a4 v4.length c4]):=by
  have:=Cs.new (w9.alloc (.cells #[.bool g3,.slice a3 v3.length c3] 31)) #[.bool g4,.slice a4 v4.length c4] 31
  unfold Hid;rw [←hV];simpa using this
 have HN1:=Hid.mk ((HN1.out.later hb).later bW)
 have HN2:=Hid.mk ((HN2.out.later hb).later bW)
 have HC1:=Hid.mk ((HC1.out.later hb).later bW)
 have HC2:=Hid.mk ((HC2.out.later hb).later bW)
 have HD8:Hid (HoS w1 [.int .u32 t0,.int .u32 t1,.int .u32 t2,.int .u32 t3,.int .u32 t4,.int .u32 t5,.int .u32 t6,.int .u32 t7,.int .u32 t8] [.int .u32 u0,.int .u32 u1,.int .u32 u2,.int .u32 u3,.int .u32 u4,.int .u32 u5,.int .u32 u6,.int .u32 u7,.int .u32 u8] [.int .u32 s0,.int .u32 s1,.int .u32 s2,.int .u32 s3,.int .u32 s4,.int .u32 s5] V9):=(HD7.out.later hb).later bW
 clear hA n1 n2 hb bW HD7 x0 y0 x1 y1 x2 y2 x3 y3 x4 y4 x5 y5 x6 y6 x7 y7 x8 y8 z0 z1 z2 z3 z4 z5
 go_upto_region 18 with fail
 clear hV
 have HZ:Hid (Below w.heap.size w V9):=HB1.out.trans (HD8.out.bel.mono HB1.out.size)
 obtain ⟨rfl,rfl,hA⟩:=HA1.out.of HMR.out (fun p q h=>((InTri_iff _ _ _ _ _ p q).mp h.2).1)
 obtain ⟨rfl,rfl,hB⟩:=HA3.out.of HMS.out (fun p q h=>((InTri_iff _ _ _ _ _ p q).mp h.2).1)
 have e10:=HC1.out.at 0 rfl
 have e11:=HC1.out.at 1 rfl
 have e20:=HC2.out.at 0 rfl
 have e21:=HC2.out.at 1 rfl
 have e30:=HC3.out.at 0 rfl
 have e31:=HC3.out.at 1 rfl
 have e40:=HC4.out.at 0 rfl
 have e41:=HC4.out.at 1 rfl
 rcases hA with ⟨hR,rfl,rfl⟩| ⟨xa,xb,xc,xd,u1,u2,hR,hm1,hl1,b1,b2,_,_,hp1⟩
 ·have hm:M=false:=by rw [HMM.out,hR];rfl
  rcases hB with ⟨hS,rfl,rfl⟩| ⟨_,_,_,_,_,_,hS,_,_,_,_,_,_,hp2⟩
  ·have ho:O=0:=by rw [HOO.out,hR,hS];rfl
   subst hm ho
   clear hR hS
   go_wp2
   go_ret
   exact ⟨rfl,HZ.out⟩
  ·have ho:O=1:=by rw [HOO.out,hR];exact sgn_of_pos (by simp;exact hS)
   have hp3:(v4.length:Int)≠0:=by omega
   have hp4:(0:Int)<v4.length:=by omega
   subst hm ho
   clear hR hS
   go_wp2
   go_ret
   exact ⟨rfl,HZ.out⟩
 have hm:M=true:=by rw [HMM.out];simp;omega
 have hp3:(v2.length:Int)≠0:=by omega
 have hp4:(0:Int)<v2.length:=by omega
 have hp7:v2≠[]:=by intro h;rw [h] at hp1;simp at hp1
 have hp8:(decide ((0:Int)<v2.length))=true:=by simpa using hp1
 have hp9:((v2.length:Int)==0)=false:=by simpa using hp7
 rcases hB with ⟨hS,rfl,rfl⟩| ⟨ya,yb,yc,yd,u3,u4,hS,hm2,hl2,b3,b4,_,_,hp2⟩
 ·have ho:O= -1:=by rw [HOO.out,hS];exact sgn_of_neg (by simp;exact hR)
  subst hm ho
  clear hR hS hm1 hl1 b1 b2
  go_wp2
  go_ret
  exact ⟨rfl,HZ.out⟩
 have hp5:(v4.length:Int)≠0:=by omega
 have hp6:(0:Int)<v4.length:=by omega
 have HOU2:Hid (O=sgn (u1*u4-u3*u2)):=by
  unfold Hid;rw [HOO.out,HMR.out.order hm1 HMS.out hm2];exact low_order hl1 hl2
 subst hm
 have hq7:v4≠[]:=by intro h;rw [h] at hp2;simp at hp2
 have hq8:(decide ((0:Int)<v4.length))=true:=by simpa using hp2
 have hq9:((v4.length:Int)==0)=false:=by simpa using hq7
 clear hR hS hm1 hm2 hl1 hl2
 have f10:=HC1.out.at 0 rfl
 have f11:=HC1.out.at 1 rfl
 have f40:=HC4.out.at 0 rfl
 have f41:=HC4.out.at 1 rfl
 go_wp2_with fail
 refine (mul_det a1 a4 c1 c4 v1 v4 u1 u4 _ HN1.out HN4.out b1 b4 l1 l4).mono ?_
 rintro e w10 ⟨G5,v5,a5,c5,rfl,b5,l5,n5,hb⟩
 obtain ⟨V10,hV⟩: ∃W,w10.alloc (.cells #[.bool G5,.slice a5 v5.length c5] 31)=W:=⟨_,rfl⟩
 have bW:Below w10.heap.size w10 V10:=by rw [←hV];exact bel0 _ _
 have HN5:Hid (RowAt .u32 V10 a5 v5):=n5.later bW
 have HC5:Hid (Cs V10 w10.heap.size [.bool G5,.slice a5 v5.length c5]):=by unfold Hid;rw [←hV];exact Cs.new _ _ _
 have HN3:=Hid.mk ((HN3.out.later hb).later bW)
 have HN2:=Hid.mk ((HN2.out.later hb).later bW)
 have HC3:=Hid.mk ((HC3.out.later hb).later bW)
 have HC2:=Hid.mk ((HC2.out.later hb).later bW)
 have HZ:=Hid.mk (HZ.out.trans ((hb.trans (bW.mono hb.size)).mono HZ.out.size))
 clear n5 hb bW f10 f11 f40 f41
 have f30:=HC3.out.at 0 rfl
 have f31:=HC3.out.at 1 rfl
 have f20:=HC2.out.at 0 rfl
 have f21:=HC2.out.at 1 rfl
 go_wp2_with fail
 clear hV
 refine (mul_det a3 a2 c3 c2 v3 v2 u3 u2 _ HN3.out HN2.out b3 b2 l3 l2).mono ?_
 rintro e w11 ⟨G6,v6,a6,c6,rfl,b6,l6,n6,hb⟩
 obtain ⟨V11,hV⟩: ∃W,w11.alloc (.cells #[.bool G6,.slice a6 v6.length c6] 31)=W:=⟨_,rfl⟩
 have bW:Below w11.heap.size w11 V11:=by rw [←hV];exact bel0 _ _
 have HN6:Hid (RowAt .u32 V11 a6 v6):=n6.later bW
 have HC6:Hid (Cs V11 w11.heap.size [.bool G6,.slice a6 v6.length c6]):=by unfold Hid;rw [←hV];exact Cs.new _ _ _
 have HN5:=Hid.mk ((HN5.out.later hb).later bW)
 have HC5:=Hid.mk ((HC5.out.later hb).later bW)
 have HZ:=Hid.mk (HZ.out.trans ((hb.trans (bW.mono hb.size)).mono HZ.out.size))
 clear n6 hb bW f30 f31 f20 f21
 have f50:=HC5.out.at 0 rfl
 have f51:=HC5.out.at 1 rfl
 have f60:=HC6.out.at 0 rfl
 have f61:=HC6.out.at 1 rfl
 have w5:=b5.valid l5
 have w6:=b6.valid l6
 have HR:Hid (cmpR G5 G6 v5 v6=O):=by
  unfold Hid cmpR
  rw [w5,w6,HOU2.out,b5.sg,b6.sg]
  rfl
 have HK:Hid (cmpK G5 G6 v5 v6=0):=by
  unfold Hid cmpK
  rw [w5,w6]
  rfl
 go_wp2_with fail
 clear hV
 refine (cmpBI_any G5 G6 a5 a6 c5 c6 v5 v6 _ (by omega) (by omega) HN5.out HN6.out b5.u32 b6.u32).mono ?_
 rintro e w12 ⟨rfl,hb⟩
 have HZ:=Hid.mk (HZ.out.trans (hb.mono HZ.out.size))
 clear hb
 rw [HR.out,HK.out]
 clear f50 f51 f60 f61
 go_wp2
 go_ret
 exact ⟨rfl,HZ.out⟩
theorem hitFar (a:Option Addr) (n c:Nat) (w:World) (h:(n:Int)>1048576):
 Calls Tryz.prog 4 #[.slice a n c] w fun e w'=>e= .returned (.bool true)∧Below w.heap.size w w':=by
 go_enter Tryz.func4,Tryz.ntmps4
 go_wp2
 go_ret
 exact ⟨rfl,Below.refl _ _⟩
theorem hitLawA (a:Option Addr) (c:Nat) (bs:List Int) (w:World) (hT:Tab w) (hc:bs.length≤c) (hcm:c≤maxLen) (hnil:a=none→c=0) (hr:RowAt .u8 w a bs) (hb8:Dig 256 bs):
 Calls Tryz.prog 4 #[.slice a bs.length c] w fun e w'=>e= .returned (.bool true)∧Below w.heap.size w w':=by
 by_cases h:(1048576:Int)<bs.length
 ·exact hitFar a _ c w h
 ·exact hitLawF a c bs w hT (by omega) hc hcm hnil hr hb8
end Go.Proofs.YtfieffpobgcpmaaGreatDoor
