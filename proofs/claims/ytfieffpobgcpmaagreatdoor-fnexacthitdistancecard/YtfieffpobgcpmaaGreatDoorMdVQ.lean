import Derived.Test.YtfieffpobgcpmaaGreatDoorMdUQ
import Derived.Test.YtfieffpobgcpmaaGreatDoorMdOMdP
import Derived.Test.YtfieffpobgcpmaaGreatDoorWithinToImV
import Derived.Test.YtfieffpobgcpmaaGreatDoorEsEToImplC0
set_option maxRecDepth 100000
set_option maxHeartbeats 32000000
namespace Go.Proofs.YtfieffpobgcpmaaGreatDoor
open Go.RowKit
theorem low_gcd {a b:Int} (hb:0<b):Low a b (a/(Int.gcd a b:Int)) (b/(Int.gcd a b:Int)):=by
 have hg:0<(Int.gcd a b:Int):=by
  have:=Int.gcd_pos_of_ne_zero_right a (show b≠0 by omega)
  omega
 obtain ⟨u,hu⟩:=Int.gcd_dvd_left (a:=a) (b:=b)
 obtain ⟨v,hv⟩:=Int.gcd_dvd_right (a:=a) (b:=b)
 have eu:a/(Int.gcd a b:Int)=u:=by
  conv=>lhs;rw [hu]
  rw [←hu];exact Int.ediv_eq_of_eq_mul_right (by omega) hu
 have ev:b/(Int.gcd a b:Int)=v:=Int.ediv_eq_of_eq_mul_right (by omega) hv
 rw [eu,ev]
 refine ⟨⟨_,hg,hu,hv⟩,?_,?_⟩
 ·have h:Int.gcd ((Int.gcd a b:Int)*u) ((Int.gcd a b:Int)*v)=Int.gcd a b*Int.gcd u v:=by
   rw [Int.gcd_mul_left];rfl
  rw [←hu,←hv] at h
  have h2:Int.gcd a b*1=Int.gcd a b*Int.gcd u v:=by omega
  exact (Nat.eq_of_mul_eq_mul_left (by omega) h2).symm
 ·rcases Int.lt_or_le 0 v with q|q
  ·exact q
  ·have:=Int.mul_nonpos_of_nonneg_of_nonpos (Int.le_of_lt hg) q
   omega
structure HmF (w:World) (T R:List Value) (W:World):Prop where
 t:Cs W (w.heap.size) T
 r:Cs W (w.heap.size+1) R
 y:Cs W (w.heap.size+1+1) [false,()]
 z:Cs W (w.heap.size+1+1+1) [false,()]
 bel:Below w.heap.size w W
theorem HmF.later {w:World} {T R:List Value} {W W':World} (h:HmF w T R W) (hb:Below W.heap.size W W'):HmF w T R W':=
 ⟨h.t.later hb,h.r.later hb,h.y.later hb,h.z.later hb,h.bel.trans (hb.mono h.bel.size)⟩
theorem HmF.start (w:World) (T R:Array Value) (s0 s1 s2 s3:TypeId):HmF w T.toList R.toList ((((w.alloc (.cells T s0)).alloc (.cells R s1)).alloc (.cells #[false,()] s2)).alloc (.cells #[false,()] s3)):=by
 obtain ⟨w1,h1⟩: ∃V,V=w.alloc (.cells T s0):=⟨_,rfl⟩
 obtain ⟨w2,h2⟩: ∃V,V=w1.alloc (.cells R s1):=⟨_,rfl⟩
 obtain ⟨w3,h3⟩: ∃V,V=w2.alloc (.cells #[false,()] s2):=⟨_,rfl⟩
 obtain ⟨w4,h4⟩: ∃V,V=w3.alloc (.cells #[false,()] s3):=⟨_,rfl⟩
 have e1:w1.heap.size=w.heap.size+1:=by rw [h1];simp
 have e2:w2.heap.size=w.heap.size+1+1:=by rw [h2];simp [e1]
 have e3:w3.heap.size=w.heap.size+1+1+1:=by rw [h3];simp [e2]
 have b1:Below w.heap.size w w1:=by rw [h1];exact bel0 _ _
 have b2:Below w1.heap.size w1 w2:=by rw [h2];exact bel0 _ _
 have b3:Below w2.heap.size w2 w3:=by rw [h3];exact bel0 _ _
 have b4:Below w3.heap.size w3 w4:=by rw [h4];exact bel0 _ _
 have c1:Cs w1 w.heap.size T.toList:=by rw [h1];exact Cs.new _ _ _
 have c2:Cs w2 (w.heap.size+1) R.toList:=by rw [h2,←e1];exact Cs.new _ _ _
 have c3:Cs w3 (w.heap.size+1+1) [false,()]:=by rw [h3,←e2];exact Cs.new _ _ _
 have c4:Cs w4 (w.heap.size+1+1+1) [false,()]:=by rw [h4,←e3];exact Cs.new _ _ _
 rw [←h1,←h2,←h3,←h4]
 exact ⟨((c1.later b2).later b3).later b4,(c2.later b3).later b4,c3.later b4,c4,((b1.trans (b2.mono b1.size)).trans (b3.mono (by omega))).trans (b4.mono (by omega))⟩
def HitM (w:World) (P:Int→Int→Prop) (o:Ending) (w':World):Prop:=Below w.heap.size w w'∧((NoSpan P∧o= .returned (.tuple #[.agg #[false,()],.agg #[false,()],.int .i64 0]))∨
 ∃(a b c d u v:Int) (G:Bool) (Z:List Int) (K:Int) (A:Option Addr) (C:Nat) (G':Bool) (Z':List Int) (K':Int) (A':Option Addr) (C':Nat),Span P a b c d∧Low a b u v∧o= .returned (.tuple #[.agg #[G,.slice A Z.length C],.agg #[G',.slice A' Z'.length C'],.int .i64 0])∧Res true u G Z K∧Res true v G' Z' K'∧RowAt .u32 w' A Z∧RowAt .u32 w' A' Z')
theorem hitM_badT (t0 t1 t2 t3 t4 t5 t6 t7 t8 s0 s1 s2 s3 s4 s5:Int) (w:World) (hu:U32 [t0,t1,t2,t3,t4,t5,t6,t7,t8,s0,s1,s2,s3,s4,s5]) (HT:(pointB t0 t1 t2 && pointB t3 t4 t5 && pointB t6 t7 t8)=false):
 Calls Tryz.prog 7 #[.agg #[t0,t1,t2,t3,t4,t5,t6,t7,t8],.agg #[s0,s1,s2,s3,s4,s5]] w fun o w'=>o= .returned (.tuple #[.agg #[false,()],.agg #[false,()],.int .i64 1])∧Below w.heap.size w w':=by
 have HI0:Hid (∀s0' s1' s2' s3',HmF w [t0,t1,t2,t3,t4,t5,t6,t7,t8] [s0,s1,s2,s3,s4,s5] ((((w.alloc (.cells #[t0,t1,t2,t3,t4,t5,t6,t7,t8] s0')).alloc (.cells #[s0,s1,s2,s3,s4,s5] s1')).alloc (.cells #[false,()] s2')).alloc (.cells #[false,()] s3'))):=fun s0' s1' s2' s3'=>HmF.start w _ _ s0' s1' s2' s3'
 have HU:Hid (U32 [t0,t1,t2,t3,t4,t5,t6,t7,t8,s0,s1,s2,s3,s4,s5]):=hu
 clear hu
 go_enter Tryz.func7,Tryz.ntmps7
 go_wp2_with fail
 refine (triV_any t0 t1 t2 t3 t4 t5 t6 t7 t8 _ (HU.out t0 (by simp)).1 (HU.out t0 (by simp)).2 (HU.out t1 (by simp)).1 (HU.out t1 (by simp)).2 (HU.out t2 (by simp)).1 (HU.out t2 (by simp)).2 (HU.out t3 (by simp)).1 (HU.out t3 (by simp)).2 (HU.out t4 (by simp)).1 (HU.out t4 (by simp)).2 (HU.out t5 (by simp)).1 (HU.out t5 (by simp)).2 (HU.out t6 (by simp)).1 (HU.out t6 (by simp)).2 (HU.out t7 (by simp)).1 (HU.out t7 (by simp)).2 (HU.out t8 (by simp)).1 (HU.out t8 (by simp)).2).mono ?_
 rintro o w1 ⟨rfl,hb1⟩
 have HF1:Hid (HmF w [t0,t1,t2,t3,t4,t5,t6,t7,t8] [s0,s1,s2,s3,s4,s5] w1):=(HI0.out _ _ _ _).later hb1
 clear hb1 HI0
 rw [HT]
 have y0:=HF1.out.y.at 0 rfl
 have y1:=HF1.out.y.at 1 rfl
 have z0:=HF1.out.z.at 0 rfl
 have z1:=HF1.out.z.at 1 rfl
 have fy:=HF1.out.y.2.1
 have fz:=HF1.out.z.2.1
 go_wp2
 refine bodyPost_ret (v:= .tuple #[.agg #[false,()],.agg #[false,()],.int .i64 1]) (by simp [results,Tryz.results7,go_sem,y0,y1,z0,z1]) rfl ?_
 exact ⟨rfl,below_setAll (vs:=[↑false,↑()]) (by omega) _ 0 (below_setAll (vs:=[↑false,↑()]) (by omega) _ 0 HF1.out.bel)⟩
theorem hitM_badR (t0 t1 t2 t3 t4 t5 t6 t7 t8 s0 s1 s2 s3 s4 s5:Int) (w:World) (hu:U32 [t0,t1,t2,t3,t4,t5,t6,t7,t8,s0,s1,s2,s3,s4,s5]) (HT:(pointB t0 t1 t2 && pointB t3 t4 t5 && pointB t6 t7 t8)=true) (HR:(pointB s0 s1 s2 && pointB s3 s4 s5 && !(noWayB s3 s4 s5))=false):
 Calls Tryz.prog 7 #[.agg #[t0,t1,t2,t3,t4,t5,t6,t7,t8],.agg #[s0,s1,s2,s3,s4,s5]] w fun o w'=>o= .returned (.tuple #[.agg #[false,()],.agg #[false,()],.int .i64 1])∧Below w.heap.size w w':=by
 have HI0:Hid (∀s0' s1' s2' s3',HmF w [t0,t1,t2,t3,t4,t5,t6,t7,t8] [s0,s1,s2,s3,s4,s5] ((((w.alloc (.cells #[t0,t1,t2,t3,t4,t5,t6,t7,t8] s0')).alloc (.cells #[s0,s1,s2,s3,s4,s5] s1')).alloc (.cells #[false,()] s2')).alloc (.cells #[false,()] s3'))):=fun s0' s1' s2' s3'=>HmF.start w _ _ s0' s1' s2' s3'
 have HU:Hid (U32 [t0,t1,t2,t3,t4,t5,t6,t7,t8,s0,s1,s2,s3,s4,s5]):=hu
 clear hu
 go_enter Tryz.func7,Tryz.ntmps7
 go_wp2_with fail
 refine (triV_any t0 t1 t2 t3 t4 t5 t6 t7 t8 _ (HU.out t0 (by simp)).1 (HU.out t0 (by simp)).2 (HU.out t1 (by simp)).1 (HU.out t1 (by simp)).2 (HU.out t2 (by simp)).1 (HU.out t2 (by simp)).2 (HU.out t3 (by simp)).1 (HU.out t3 (by simp)).2 (HU.out t4 (by simp)).1 (HU.out t4 (by simp)).2 (HU.out t5 (by simp)).1 (HU.out t5 (by simp)).2 (HU.out t6 (by simp)).1 (HU.out t6 (by simp)).2 (HU.out t7 (by simp)).1 (HU.out t7 (by simp)).2 (HU.out t8 (by simp)).1 (HU.out t8 (by simp)).2).mono ?_
 rintro o w1 ⟨rfl,hb1⟩
 have HF1:Hid (HmF w [t0,t1,t2,t3,t4,t5,t6,t7,t8] [s0,s1,s2,s3,s4,s5] w1):=(HI0.out _ _ _ _).later hb1
 clear hb1 HI0
 rw [HT]
 have r0:=HF1.out.r.at 0 rfl
 have r1:=HF1.out.r.at 1 rfl
 have r2:=HF1.out.r.at 2 rfl
 have r3:=HF1.out.r.at 3 rfl
 have r4:=HF1.out.r.at 4 rfl
 have r5:=HF1.out.r.at 5 rfl
 go_wp2_with fail
 clear r0 r1 r2 r3 r4 r5
 refine (rayV_any s0 s1 s2 s3 s4 s5 _ (HU.out s0 (by simp)).1 (HU.out s0 (by simp)).2 (HU.out s1 (by simp)).1 (HU.out s1 (by simp)).2 (HU.out s2 (by simp)).1 (HU.out s2 (by simp)).2 (HU.out s3 (by simp)).1 (HU.out s3 (by simp)).2 (HU.out s4 (by simp)).1 (HU.out s4 (by simp)).2 (HU.out s5 (by simp)).1 (HU.out s5 (by simp)).2).mono ?_
 rintro o w2 ⟨rfl,hb2⟩
 have HF2:Hid (HmF w [t0,t1,t2,t3,t4,t5,t6,t7,t8] [s0,s1,s2,s3,s4,s5] w2):=HF1.out.later hb2
 clear hb2 HF1
 rw [HR]
 have y0:=HF2.out.y.at 0 rfl
 have y1:=HF2.out.y.at 1 rfl
 have z0:=HF2.out.z.at 0 rfl
 have z1:=HF2.out.z.at 1 rfl
 have fy:=HF2.out.y.2.1
 have fz:=HF2.out.z.2.1
 go_wp2
 refine bodyPost_ret (v:= .tuple #[.agg #[false,()],.agg #[false,()],.int .i64 1]) (by simp [results,Tryz.results7,go_sem,y0,y1,z0,z1]) rfl ?_
 exact ⟨rfl,below_setAll (vs:=[↑false,↑()]) (by omega) _ 0 (below_setAll (vs:=[↑false,↑()]) (by omega) _ 0 HF2.out.bel)⟩
theorem hitM_any (t0 t1 t2 t3 t4 t5 t6 t7 t8 s0 s1 s2 s3 s4 s5:Int) (w:World) (hu:U32 [t0,t1,t2,t3,t4,t5,t6,t7,t8,s0,s1,s2,s3,s4,s5]) (HT:(pointB t0 t1 t2 && pointB t3 t4 t5 && pointB t6 t7 t8)=true) (HR:(pointB s0 s1 s2 && pointB s3 s4 s5 && !(noWayB s3 s4 s5))=true):
 Calls Tryz.prog 7 #[.agg #[t0,t1,t2,t3,t4,t5,t6,t7,t8],.agg #[s0,s1,s2,s3,s4,s5]] w fun o w'=>HitM w (Meets (pv t0 t1 t2) (pv t3 t4 t5) (pv t6 t7 t8) (pv s0 s1 s2) (pv s3 s4 s5)) o w':=by
 have HI0:Hid (∀s0' s1' s2' s3',HmF w [t0,t1,t2,t3,t4,t5,t6,t7,t8] [s0,s1,s2,s3,s4,s5] ((((w.alloc (.cells #[t0,t1,t2,t3,t4,t5,t6,t7,t8] s0')).alloc (.cells #[s0,s1,s2,s3,s4,s5] s1')).alloc (.cells #[false,()] s2')).alloc (.cells #[false,()] s3'))):=fun s0' s1' s2' s3'=>HmF.start w _ _ s0' s1' s2' s3'
 have HU:Hid (U32 [t0,t1,t2,t3,t4,t5,t6,t7,t8,s0,s1,s2,s3,s4,s5]):=hu
 clear hu
 go_enter Tryz.func7,Tryz.ntmps7
 go_wp2_with fail
 refine (triV_any t0 t1 t2 t3 t4 t5 t6 t7 t8 _ (HU.out t0 (by simp)).1 (HU.out t0 (by simp)).2 (HU.out t1 (by simp)).1 (HU.out t1 (by simp)).2 (HU.out t2 (by simp)).1 (HU.out t2 (by simp)).2 (HU.out t3 (by simp)).1 (HU.out t3 (by simp)).2 (HU.out t4 (by simp)).1 (HU.out t4 (by simp)).2 (HU.out t5 (by simp)).1 (HU.out t5 (by simp)).2 (HU.out t6 (by simp)).1 (HU.out t6 (by simp)).2 (HU.out t7 (by simp)).1 (HU.out t7 (by simp)).2 (HU.out t8 (by simp)).1 (HU.out t8 (by simp)).2).mono ?_
 rintro o w1 ⟨rfl,hb1⟩
 have HF1:Hid (HmF w [t0,t1,t2,t3,t4,t5,t6,t7,t8] [s0,s1,s2,s3,s4,s5] w1):=(HI0.out _ _ _ _).later hb1
 clear hb1 HI0
 rw [HT]
 have r0:=HF1.out.r.at 0 rfl
 have r1:=HF1.out.r.at 1 rfl
 have r2:=HF1.out.r.at 2 rfl
 have r3:=HF1.out.r.at 3 rfl
 have r4:=HF1.out.r.at 4 rfl
 have r5:=HF1.out.r.at 5 rfl
 go_wp2_with fail
 clear r0 r1 r2 r3 r4 r5
 refine (rayV_any s0 s1 s2 s3 s4 s5 _ (HU.out s0 (by simp)).1 (HU.out s0 (by simp)).2 (HU.out s1 (by simp)).1 (HU.out s1 (by simp)).2 (HU.out s2 (by simp)).1 (HU.out s2 (by simp)).2 (HU.out s3 (by simp)).1 (HU.out s3 (by simp)).2 (HU.out s4 (by simp)).1 (HU.out s4 (by simp)).2 (HU.out s5 (by simp)).1 (HU.out s5 (by simp)).2).mono ?_
 rintro o w2 ⟨rfl,hb2⟩
 have HF2:Hid (HmF w [t0,t1,t2,t3,t4,t5,t6,t7,t8] [s0,s1,s2,s3,s4,s5] w2):=HF1.out.later hb2
 clear hb2 HF1
 rw [HR]
 have t0:=HF2.out.t.at 0 rfl
 have t1:=HF2.out.t.at 1 rfl
 have t2:=HF2.out.t.at 2 rfl
 have t3:=HF2.out.t.at 3 rfl
 have t4:=HF2.out.t.at 4 rfl
 have t5:=HF2.out.t.at 5 rfl
 have t6:=HF2.out.t.at 6 rfl
 have t7:=HF2.out.t.at 7 rfl
 have t8:=HF2.out.t.at 8 rfl
 have r0:=HF2.out.r.at 0 rfl
 have r1:=HF2.out.r.at 1 rfl
 have r2:=HF2.out.r.at 2 rfl
 have r3:=HF2.out.r.at 3 rfl
 have r4:=HF2.out.r.at 4 rfl
 have r5:=HF2.out.r.at 5 rfl
 go_wp2_with fail
 clear t0 t1 t2 t3 t4 t5 t6 t7 t8 r0 r1 r2 r3 r4 r5
 refine (least_any t0 t1 t2 t3 t4 t5 t6 t7 t8 s0 s1 s2 s3 s4 s5 _ HU.out).mono ?_
 rintro o w3 hls
 rcases hls with ⟨v,a,b,c,d,rfl,hfr,hsp,hb3⟩| ⟨rfl,hno,hb3⟩
 ·have HSP:Hid (Span (Meets (pv t0 t1 t2) (pv t3 t4 t5) (pv t6 t7 t8) (pv s0 s1 s2) (pv s3 s4 s5)) a b c d):=hsp
  obtain ⟨g1,a1,c1,z1,g2,a2,c2,z2,rfl,hm1,hm2⟩:=hfr
  have HN3:Hid (MIs w3 (.agg #[g1,.slice a1 z1.length c1]) 1500 a):=hm1
  have HD3:Hid (MIs w3 (.agg #[g2,.slice a2 z2.length c2]) 1500 b):=hm2
  have HF3:Hid (HmF w [t0,t1,t2,t3,t4,t5,t6,t7,t8] [s0,s1,s2,s3,s4,s5] w3):=HF2.out.later hb3
  clear hb3 hsp hm1 hm2 HF2
  have HG0:Hid (0<(Int.gcd a b:Int)):=by
   have:=Int.gcd_pos_of_ne_zero_right a (show b≠0 by have:=HSP.out.hb;omega)
   unfold Hid;omega
  go_upto_region 4 with fail
  obtain ⟨W4,hW4⟩: ∃V,V=w3.alloc (.cells #[g1,.slice a1 z1.length c1,g2,.slice a2 z2.length c2,false] 74):=⟨_,rfl⟩
  rw [←hW4]
  have HN4:Hid (MIs W4 (.agg #[g1,.slice a1 z1.length c1]) 1500 a):=by unfold Hid;rw [hW4];exact HN3.out.later (bel0 _ _)
  have HD4:Hid (MIs W4 (.agg #[g2,.slice a2 z2.length c2]) 1500 b):=by unfold Hid;rw [hW4];exact HD3.out.later (bel0 _ _)
  have HF4:Hid (HmF w [t0,t1,t2,t3,t4,t5,t6,t7,t8] [s0,s1,s2,s3,s4,s5] W4):=by unfold Hid;rw [hW4];exact HF3.out.later (bel0 _ _)
  have HC4:Hid (Cs W4 w3.heap.size [g1,.slice a1 z1.length c1,g2,.slice a2 z2.length c2,false]):=by unfold Hid;rw [hW4];exact Cs.new _ _ _
  have HL4:Hid (w.heap.size+1+1+1<w3.heap.size):=HF3.out.z.1
  clear hW4 HN3 HD3 HF3
  generalize hPS:w3.heap.size=PS at*
  clear hPS
  have q0:=HC4.out.at 0 rfl
  have q1:=HC4.out.at 1 rfl
  have q2:=HC4.out.at 2 rfl
  have q3:=HC4.out.at 3 rfl
  have q4:=HC4.out.at 4 rfl
  go_wp2_with fail
  clear q0 q1 q2 q3 q4
  refine (gcdU_any (.agg #[g1,.slice a1 z1.length c1]) (.agg #[g2,.slice a2 z2.length c2]) 1500 a b _ (by decide) HN4.out HD4.out HSP.out.hb).mono ?_
  rintro o w5 ⟨v5,rfl,hv5,hb5⟩
  have HG5:Hid (MIs w5 v5 1500 (Int.gcd a b:Int)):=hv5
  obtain ⟨g3,a3,c3,z3,rfl,_,_,_⟩:=hv5
  have HN5:Hid (MIs w5 (.agg #[g1,.slice a1 z1.length c1]) 1500 a):=HN4.out.later hb5
  have HD5:Hid (MIs w5 (.agg #[g2,.slice a2 z2.length c2]) 1500 b):=HD4.out.later hb5
  have HF5:Hid (HmF w [t0,t1,t2,t3,t4,t5,t6,t7,t8] [s0,s1,s2,s3,s4,s5] w5):=HF4.out.later hb5
  have HC5:Hid (Cs w5 PS [g1,.slice a1 z1.length c1,g2,.slice a2 z2.length c2,false]):=HC4.out.later hb5
  clear hb5 HN4 HD4 HF4 HC4
  go_upto_region 7 with fail
  obtain ⟨W6,hW6⟩: ∃V,V=w5.alloc (.cells #[g3,.slice a3 z3.length c3] 72):=⟨_,rfl⟩
  rw [←hW6]
  have HN6:Hid (MIs W6 (.agg #[g1,.slice a1 z1.length c1]) 1500 a):=by unfold Hid;rw [hW6];exact HN5.out.later (bel0 _ _)
  have HD6:Hid (MIs W6 (.agg #[g2,.slice a2 z2.length c2]) 1500 b):=by unfold Hid;rw [hW6];exact HD5.out.later (bel0 _ _)
  have HF6:Hid (HmF w [t0,t1,t2,t3,t4,t5,t6,t7,t8] [s0,s1,s2,s3,s4,s5] W6):=by unfold Hid;rw [hW6];exact HF5.out.later (bel0 _ _)
  have HC6:Hid (Cs W6 PS [g1,.slice a1 z1.length c1,g2,.slice a2 z2.length c2,false]):=by unfold Hid;rw [hW6];exact HC5.out.later (bel0 _ _)
  have HG6:Hid (MIs W6 (.agg #[g3,.slice a3 z3.length c3]) 1500 (Int.gcd a b:Int)):=by unfold Hid;rw [hW6];exact HG5.out.later (bel0 _ _)
  have HE6:Hid (Cs W6 w5.heap.size [g3,.slice a3 z3.length c3]):=by unfold Hid;rw [hW6];exact Cs.new _ _ _
  clear hW6 HN5 HD5 HF5 HC5 HG5
  generalize hPG:w5.heap.size=PG at*
  clear hPG
  have q0:=HC6.out.at 0 rfl
  have q1:=HC6.out.at 1 rfl
  have p0:=HE6.out.at 0 rfl
  have p1:=HE6.out.at 1 rfl
  go_wp2_with fail
  clear q0 q1 p0 p1
  refine (divU_any (.agg #[g1,.slice a1 z1.length c1]) (.agg #[g3,.slice a3 z3.length c3]) 1500 a (Int.gcd a b:Int) _ (by decide) HN6.out HG6.out HG0.out (Int.gcd_dvd_left (a:=a) (b:=b))).mono ?_
  rintro o w7 ⟨v7,rfl,hv7,hb7⟩
  obtain ⟨g4,a4,c4,z4,rfl,hL4,hl4,_⟩:=hv7
  have HL7:Hid (L1 w7 g4 a4 c4 z4 (a/(Int.gcd a b:Int))):=hL4
  have HD7:Hid (MIs w7 (.agg #[g2,.slice a2 z2.length c2]) 1500 b):=HD6.out.later hb7
  have HF7:Hid (HmF w [t0,t1,t2,t3,t4,t5,t6,t7,t8] [s0,s1,s2,s3,s4,s5] w7):=HF6.out.later hb7
  have HC7:Hid (Cs w7 PS [g1,.slice a1 z1.length c1,g2,.slice a2 z2.length c2,false]):=HC6.out.later hb7
  have HG7:Hid (MIs w7 (.agg #[g3,.slice a3 z3.length c3]) 1500 (Int.gcd a b:Int)):=HG6.out.later hb7
  have HE7:Hid (Cs w7 PG [g3,.slice a3 z3.length c3]):=HE6.out.later hb7
  clear hb7 hL4 HN6 HD6 HF6 HC6 HG6 HE6
  go_wp2_with fail
  refine (big_any g4 a4 c4 z4 _ (by omega) HL7.out.sl.row HL7.out.can.1).mono ?_
  rintro o w8 ⟨A1,C1,rfl,hr8,hf8,hb8⟩
  have HRes1:Hid (Res true (a/(Int.gcd a b:Int)) (bigOut g4 z4).1 (bigOut g4 z4).2.1 (bigOut g4 z4).2.2):=res_big HL7.out
  have HR8:Hid (RowAt .u32 w8 A1 (bigOut g4 z4).2.1):=hr8
  have HA8:Hid (Far w7.heap.size A1 (bigOut g4 z4).2.1):=hf8
  have HLT:Hid (w.heap.size+1+1+1<w7.heap.size):=HF7.out.z.1
  have HD8:Hid (MIs w8 (.agg #[g2,.slice a2 z2.length c2]) 1500 b):=HD7.out.later hb8
  have HF8:Hid (HmF w [t0,t1,t2,t3,t4,t5,t6,t7,t8] [s0,s1,s2,s3,s4,s5] w8):=HF7.out.later hb8
  have HC8:Hid (Cs w8 PS [g1,.slice a1 z1.length c1,g2,.slice a2 z2.length c2,false]):=HC7.out.later hb8
  have HG8:Hid (MIs w8 (.agg #[g3,.slice a3 z3.length c3]) 1500 (Int.gcd a b:Int)):=HG7.out.later hb8
  have HE8:Hid (Cs w8 PG [g3,.slice a3 z3.length c3]):=HE7.out.later hb8
  clear hr8 hf8 hb8 HL7 HD7 HF7 HC7 HG7 HE7 hl4
  generalize (bigOut g4 z4).1=G at*
  generalize (bigOut g4 z4).2.1=Z at*
  generalize (bigOut g4 z4).2.2=K at*
  generalize hB7:w7.heap.size=B7 at*
  clear hB7
  go_upto_region 8 with fail
  obtain ⟨W9,hW9⟩: ∃V,V=w8.alloc (.cells #[G,.slice A1 Z.length C1] 31):=⟨_,rfl⟩
  rw [←hW9]
  have HD9:Hid (MIs W9 (.agg #[g2,.slice a2 z2.length c2]) 1500 b):=by unfold Hid;rw [hW9];exact HD8.out.later (bel0 _ _)
  have HF9:Hid (HmF w [t0,t1,t2,t3,t4,t5,t6,t7,t8] [s0,s1,s2,s3,s4,s5] W9):=by unfold Hid;rw [hW9];exact HF8.out.later (bel0 _ _)
  have HC9:Hid (Cs W9 PS [g1,.slice a1 z1.length c1,g2,.slice a2 z2.length c2,false]):=by unfold Hid;rw [hW9];exact HC8.out.later (bel0 _ _)
  have HG9:Hid (MIs W9 (.agg #[g3,.slice a3 z3.length c3]) 1500 (Int.gcd a b:Int)):=by unfold Hid;rw [hW9];exact HG8.out.later (bel0 _ _)
  have HE9:Hid (Cs W9 PG [g3,.slice a3 z3.length c3]):=by unfold Hid;rw [hW9];exact HE8.out.later (bel0 _ _)
  have HR9:Hid (RowAt .u32 W9 A1 Z):=by unfold Hid;rw [hW9];exact HR8.out.later (bel0 _ _)
  have HB9:Hid (Cs W9 w8.heap.size [G,.slice A1 Z.length C1]):=by unfold Hid;rw [hW9];exact Cs.new _ _ _
  have HLN:Hid (w.heap.size+1+1+1<w8.heap.size):=HF8.out.z.1
  clear hW9 HD8 HF8 HC8 HG8 HE8 HR8
  generalize hPN:w8.heap.size=PN at*
  clear hPN
  have q2:=HC9.out.at 2 rfl
  have q3:=HC9.out.at 3 rfl
  have p0:=HE9.out.at 0 rfl
  have p1:=HE9.out.at 1 rfl
  go_wp2_with fail
  clear q2 q3 p0 p1
  refine (divU_any (.agg #[g2,.slice a2 z2.length c2]) (.agg #[g3,.slice a3 z3.length c3]) 1500 b (Int.gcd a b:Int) _ (by decide) HD9.out HG9.out HG0.out (Int.gcd_dvd_right (a:=a) (b:=b))).mono ?_
  rintro o wa ⟨va,rfl,hva,hba⟩
  obtain ⟨g5,a5,c5,z5,rfl,hL5,hl5,_⟩:=hva
  have HLa:Hid (L1 wa g5 a5 c5 z5 (b/(Int.gcd a b:Int))):=hL5
  have HFa:Hid (HmF w [t0,t1,t2,t3,t4,t5,t6,t7,t8] [s0,s1,s2,s3,s4,s5] wa):=HF9.out.later hba
  have HRa:Hid (RowAt .u32 wa A1 Z):=HR9.out.later hba
  have HBa:Hid (Cs wa PN [G,.slice A1 Z.length C1]):=HB9.out.later hba
  clear hba hL5 HD9 HF9 HC9 HG9 HE9 HR9 HB9
  go_wp2_with fail
  refine (big_any g5 a5 c5 z5 _ (by omega) HLa.out.sl.row HLa.out.can.1).mono ?_
  rintro o wb ⟨A2,C2,rfl,hrb,hfb,hbb⟩
  have HRes2:Hid (Res true (b/(Int.gcd a b:Int)) (bigOut g5 z5).1 (bigOut g5 z5).2.1 (bigOut g5 z5).2.2):=res_big HLa.out
  have HQb:Hid (RowAt .u32 wb A2 (bigOut g5 z5).2.1):=hrb
  have HAb:Hid (Far wa.heap.size A2 (bigOut g5 z5).2.1):=hfb
  have HLU:Hid (w.heap.size+1+1+1<wa.heap.size):=HFa.out.z.1
  have HFb:Hid (HmF w [t0,t1,t2,t3,t4,t5,t6,t7,t8] [s0,s1,s2,s3,s4,s5] wb):=HFa.out.later hbb
  have HRb:Hid (RowAt .u32 wb A1 Z):=HRa.out.later hbb
  have HBb:Hid (Cs wb PN [G,.slice A1 Z.length C1]):=HBa.out.later hbb
  clear hrb hfb hbb HLa HFa HRa HBa hl5
  generalize (bigOut g5 z5).1=G' at*
  generalize (bigOut g5 z5).2.1=Z' at*
  generalize (bigOut g5 z5).2.2=K' at*
  generalize hBa':wa.heap.size=Ba at*
  clear hBa'
  go_upto_region 9 with fail
  obtain ⟨Wc,hWc⟩: ∃V,V=wb.alloc (.cells #[G',.slice A2 Z'.length C2] 31):=⟨_,rfl⟩
  rw [←hWc]
  have HFc:Hid (HmF w [t0,t1,t2,t3,t4,t5,t6,t7,t8] [s0,s1,s2,s3,s4,s5] Wc):=by unfold Hid;rw [hWc];exact HFb.out.later (bel0 _ _)
  have HRc:Hid (RowAt .u32 Wc A1 Z):=by unfold Hid;rw [hWc];exact HRb.out.later (bel0 _ _)
  have HQc:Hid (RowAt .u32 Wc A2 Z'):=by unfold Hid;rw [hWc];exact HQb.out.later (bel0 _ _)
  have HBc:Hid (Cs Wc PN [G,.slice A1 Z.length C1]):=by unfold Hid;rw [hWc];exact HBb.out.later (bel0 _ _)
  have HEc:Hid (Cs Wc wb.heap.size [G',.slice A2 Z'.length C2]):=by unfold Hid;rw [hWc];exact Cs.new _ _ _
  have HLD:Hid (w.heap.size+1+1+1<wb.heap.size):=HFb.out.z.1
  clear hWc HFb HRb HQb HBb
  generalize hPD:wb.heap.size=PD at*
  clear hPD
  have i0:=HBc.out.at 0 rfl
  have i1:=HBc.out.at 1 rfl
  have j0:=HEc.out.at 0 rfl
  have j1:=HEc.out.at 1 rfl
  have y0:=HFc.out.y.at 0 rfl
  have y1:=HFc.out.y.at 1 rfl
  have z0:=HFc.out.z.at 0 rfl
  have z1:=HFc.out.z.at 1 rfl
  have fy:=HFc.out.y.2.1
  have fz:=HFc.out.z.2.1
  have na2: ¬(PN=w.heap.size+1+1):=by have:=HLN.out;omega
  have na3: ¬(PN=w.heap.size+1+1+1):=by have:=HLN.out;omega
  have nb2: ¬(PD=w.heap.size+1+1):=by have:=HLD.out;omega
  have nb3: ¬(PD=w.heap.size+1+1+1):=by have:=HLD.out;omega
  have nc2: ¬(w.heap.size+1+1=PN):=by have:=HLN.out;omega
  have nc3: ¬(w.heap.size+1+1+1=PN):=by have:=HLN.out;omega
  have nd2: ¬(w.heap.size+1+1=PD):=by have:=HLD.out;omega
  have nd3: ¬(w.heap.size+1+1+1=PD):=by have:=HLD.out;omega
  go_region
  go_wp2
  refine bodyPost_ret (v:= .tuple #[.agg #[G,.slice A1 Z.length C1],.agg #[G',.slice A2 Z'.length C2],.int .i64 0]) (by simp [results,Tryz.results7,go_sem,y0,y1,z0,z1]) rfl ?_
  have hl2:(⟨w.heap.size+1+1,0,none⟩:Addr).block<B7:=by have:=HLT.out;simp;omega
  have hl2':(⟨w.heap.size+1+1,1,none⟩:Addr).block<B7:=by have:=HLT.out;simp;omega
  have hl3:(⟨w.heap.size+1+1+1,0,none⟩:Addr).block<B7:=by have:=HLT.out;simp;omega
  have hl3':(⟨w.heap.size+1+1+1,1,none⟩:Addr).block<B7:=by have:=HLT.out;simp;omega
  have hm2:(⟨w.heap.size+1+1,0,none⟩:Addr).block<Ba:=by have:=HLU.out;simp;omega
  have hm2':(⟨w.heap.size+1+1,1,none⟩:Addr).block<Ba:=by have:=HLU.out;simp;omega
  have hm3:(⟨w.heap.size+1+1+1,0,none⟩:Addr).block<Ba:=by have:=HLU.out;simp;omega
  have hm3':(⟨w.heap.size+1+1+1,1,none⟩:Addr).block<Ba:=by have:=HLU.out;simp;omega
  have hbw:=below_setAll (vs:=[↑G',.slice A2 Z'.length C2]) (k:=w.heap.size) (b:=w.heap.size+1+1+1) (by omega) _ 0 (below_setAll (vs:=[↑G,.slice A1 Z.length C1]) (b:=w.heap.size+1+1) (by omega) _ 0 HFc.out.bel)
  have hR:=(((HRc.out.setAway (HA8.out.away hl2) G).setAway (HA8.out.away hl2') (.slice A1 Z.length C1)).setAway (HA8.out.away hl3) G').setAway (HA8.out.away hl3') (.slice A2 Z'.length C2)
  have hQ:=(((HQc.out.setAway (HAb.out.away hm2) G).setAway (HAb.out.away hm2') (.slice A1 Z.length C1)).setAway (HAb.out.away hm3) G').setAway (HAb.out.away hm3') (.slice A2 Z'.length C2)
  exact ⟨hbw.drew,.inr ⟨a,b,c,d,_,_,G,Z,K,A1,C1,G',Z',K',A2,C2,HSP.out,low_gcd HSP.out.hb,rfl,HRes1.out,HRes2.out,hR.later (Below.refl _ _).drew,hQ.later (Below.refl _ _).drew⟩⟩
 ·have HNO:Hid (NoSpan (Meets (pv t0 t1 t2) (pv t3 t4 t5) (pv t6 t7 t8) (pv s0 s1 s2) (pv s3 s4 s5))):=hno
  have HF:Hid (HmF w [t0,t1,t2,t3,t4,t5,t6,t7,t8] [s0,s1,s2,s3,s4,s5] w3):=HF2.out.later hb3
  clear hb3 hno HF2
  unfold noneF
  have y0:=HF.out.y.at 0 rfl
  have y1:=HF.out.y.at 1 rfl
  have z0:=HF.out.z.at 0 rfl
  have z1:=HF.out.z.at 1 rfl
  have fy:=HF.out.y.2.1
  have fz:=HF.out.z.2.1
  have sz2:w.heap.size+1+1<w3.heap.size:=HF.out.y.1
  have sz3:w.heap.size+1+1+1<w3.heap.size:=HF.out.z.1
  go_wp2
  refine bodyPost_ret (v:= .tuple #[.agg #[false,()],.agg #[false,()],.int .i64 0]) (by simp [results,Tryz.results7,go_sem,y0,y1,z0,z1,sz2,sz3]) rfl ?_
  exact ⟨(below_setAll (vs:=[↑false,↑()]) (by omega) _ 0 (below_setAll (vs:=[↑false,↑()]) (by omega) _ 0 HF.out.bel)).trans ((bel0 _ _).mono (by rw [setAll_size,setAll_size];exact HF.out.bel.size)),.inl ⟨HNO.out,rfl⟩⟩
end Go.Proofs.YtfieffpobgcpmaaGreatDoor
