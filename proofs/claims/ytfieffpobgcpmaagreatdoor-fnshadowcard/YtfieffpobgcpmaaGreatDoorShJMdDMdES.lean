import Derived.Test.YtfieffpobgcpmaaGreatDoorHoBLwALwBS
import Derived.Test.YtfieffpobgcpmaaGreatDoorHdAQS
import Derived.Test.YtfieffpobgcpmaaGreatDoorShCShFShGS
import Derived.Test.YtfieffpobgcpmaaGreatDoorShHShMShOShIShQS
import Derived.Deep.CutRange
import Derived.Deep.RegionHeld3
import Derived.Test.YtfieffpobgcpmaaGreatDoorWiGToMdAS
import Derived.Test.YtfieffpobgcpmaaGreatDoorFrBFrCFrDFwAS
import Derived.Test.YtfieffpobgcpmaaGreatDoorDy1ToRkBS
import Derived.Test.YtfieffpobgcpmaaGreatDoorBgIBgJBhACsASh0S
set_option maxRecDepth 100000
set_option maxHeartbeats 32000000
namespace Go.Proofs.YtfieffpobgcpmaaGreatDoor
open Go.RowKit Go.Proofs.Tryz
variable {w w' W:World} {m0 m1 n0 n1 p0 p1 p2 p3 p4:Value}
theorem ν6 {l0 l1 l2:Int}:(List.range 1).all (ηr [l0,l1,l2])=ζa l0 l1 l2:=by
 simp [ηr]
theorem χo (t0 t1 t2 t3 t4 t5 t6 t7 t8 s0 s1 s2 s3 s4 s5 u0 u1 u2 u3 u4 u5 u6 u7 u8 l0 l1 l2:Int) (w:World) (hT:Tab w) (ht:U32 [t0,t1,t2,t3,t4,t5,t6,t7,t8,u0,u1,u2,u3,u4,u5,u6,u7,u8]) (hs:U32 [s0,s1,s2,s3,s4,s5]) (hl:U32 [l0,l1,l2]) (ok:Bool) (hok:ok=((ζa t0 t1 t2 && ζa t3 t4 t5 && ζa t6 t7 t8) && (ζa u0 u1 u2 && ζa u3 u4 u5 && ζa u6 u7 u8) && (ζa s0 s1 s2 && ζa s3 s4 s5 && !(ζD s3 s4 s5)) && ζa l0 l1 l2)):
 Calls prog 23 #[.agg #[t0,t1,t2,t3,t4,t5,t6,t7,t8],.agg #[s0,s1,s2,s3,s4,s5],.agg #[u0,u1,u2,u3,u4,u5,u6,u7,u8],.agg #[l0,l1,l2]] w fun o w'=>ShdO w ok (ζs (pv u0 u1 u2) (pv u3 u4 u5) (pv u6 u7 u8) (pv s0 s1 s2) (pv s3 s4 s5)) (φG (pv t0 t1 t2) (pv t3 t4 t5) (pv t6 t7 t8) (pv s0 s1 s2) (pv s3 s4 s5) (pv l0 l1 l2)) o w':=by
 have HU:=Hid.mk ht
 have HR:=Hid.mk hs
 have HL:=Hid.mk hl
 have HT:Hid (∀w',Below w w w'->Tab w'):=fun w' hb=>hT.later hb
 have HD0:Hid (Sh4 w [t0,t1,t2,t3,t4,t5,t6,t7,t8] [s0,s1,s2,s3,s4,s5] [u0,u1,u2,u3,u4,u5,u6,u7,u8] [l0,l1,l2] ((((w.alloc (.cells #[t0,t1,t2,t3,t4,t5,t6,t7,t8] 36)).alloc (.cells #[s0,s1,s2,s3,s4,s5] 39)).alloc (.cells #[u0,u1,u2,u3,u4,u5,u6,u7,u8] 36)).alloc (.cells #[l0,l1,l2] 34))):=Sh4.start w _ _ _ _ _ _ _ _
 have HO:Hid (ok=((List.range 2).all (ξA [t0,t1,t2,t3,t4,t5,t6,t7,t8,u0,u1,u2,u3,u4,u5,u6,u7,u8]) && (ζa s0 s1 s2 && ζa s3 s4 s5 && !(ζD s3 s4 s5)) && (List.range 1).all (ηr [l0,l1,l2]))):=by unfold Hid;rw [ωm,ν6,hok]
 have HC:Hid ((List.range 2).all (ξA [t0,t1,t2,t3,t4,t5,t6,t7,t8,u0,u1,u2,u3,u4,u5,u6,u7,u8])=true->(Cor t0∧Cor t1∧Cor t2∧Cor t3∧Cor t4∧Cor t5∧Cor t6∧Cor t7∧Cor t8)∧Cor u0∧Cor u1∧Cor u2∧Cor u3∧Cor u4∧Cor u5∧Cor u6∧Cor u7∧Cor u8):=by
  unfold Hid;rw [ωm];simp only [ζa,Bool.and_eq_true];rintro ⟨⟨⟨⟨⟨q0,q1⟩,q2⟩,⟨q3,q4⟩,q5⟩,⟨q6,q7⟩,q8⟩,⟨⟨⟨p0,p1⟩,p2⟩,⟨p3,p4⟩,p5⟩,⟨p6,p7⟩,p8⟩
  exact ⟨⟨⟨(ht t0 (by simp)).1,(ht t0 (by simp)).2,q0⟩,⟨(ht t1 (by simp)).1,(ht t1 (by simp)).2,q1⟩,⟨(ht t2 (by simp)).1,(ht t2 (by simp)).2,q2⟩,⟨(ht t3 (by simp)).1,(ht t3 (by simp)).2,q3⟩,⟨(ht t4 (by simp)).1,(ht t4 (by simp)).2,q4⟩,⟨(ht t5 (by simp)).1,(ht t5 (by simp)).2,q5⟩,⟨(ht t6 (by simp)).1,(ht t6 (by simp)).2,q6⟩,⟨(ht t7 (by simp)).1,(ht t7 (by simp)).2,q7⟩,⟨(ht t8 (by simp)).1,(ht t8 (by simp)).2,q8⟩⟩,⟨(ht u0 (by simp)).1,(ht u0 (by simp)).2,p0⟩,⟨(ht u1 (by simp)).1,(ht u1 (by simp)).2,p1⟩,⟨(ht u2 (by simp)).1,(ht u2 (by simp)).2,p2⟩,⟨(ht u3 (by simp)).1,(ht u3 (by simp)).2,p3⟩,⟨(ht u4 (by simp)).1,(ht u4 (by simp)).2,p4⟩,⟨(ht u5 (by simp)).1,(ht u5 (by simp)).2,p5⟩,⟨(ht u6 (by simp)).1,(ht u6 (by simp)).2,p6⟩,⟨(ht u7 (by simp)).1,(ht u7 (by simp)).2,p7⟩,⟨(ht u8 (by simp)).1,(ht u8 (by simp)).2,p8⟩⟩
 have HE:Hid ((ζa s0 s1 s2 && ζa s3 s4 s5 && !(ζD s3 s4 s5))=true->(Cor s0∧Cor s1∧Cor s2∧Cor s3∧Cor s4∧Cor s5)∧ζD s3 s4 s5=false):=by
  unfold Hid;simp only [ζa,Bool.and_eq_true,Bool.not_eq_true'];rintro ⟨⟨⟨⟨r0,r1⟩,r2⟩,⟨r3,r4⟩,r5⟩,hw⟩
  exact ⟨⟨⟨(hs s0 (by simp)).1,(hs s0 (by simp)).2,r0⟩,⟨(hs s1 (by simp)).1,(hs s1 (by simp)).2,r1⟩,⟨(hs s2 (by simp)).1,(hs s2 (by simp)).2,r2⟩,⟨(hs s3 (by simp)).1,(hs s3 (by simp)).2,r3⟩,⟨(hs s4 (by simp)).1,(hs s4 (by simp)).2,r4⟩,⟨(hs s5 (by simp)).1,(hs s5 (by simp)).2,r5⟩⟩,hw⟩
 have HG:Hid ((List.range 1).all (ηr [l0,l1,l2])=true->Cor l0∧Cor l1∧Cor l2):=by
  unfold Hid;rw [ν6];simp only [ζa,Bool.and_eq_true];rintro ⟨⟨r0,r1⟩,r2⟩
  exact ⟨⟨(hl l0 (by simp)).1,(hl l0 (by simp)).2,r0⟩,⟨(hl l1 (by simp)).1,(hl l1 (by simp)).2,r1⟩,⟨(hl l2 (by simp)).1,(hl l2 (by simp)).2,r2⟩⟩
 clear hT ht hs hl hok
 go_enter func23,ntmps23
 go_wp2_with fail
 refine (ζU _ 2 2 [t0,t1,t2,t3,t4,t5,t6,t7,t8,u0,u1,u2,u3,u4,u5,u6,u7,u8] _ (by omega) rfl HU.out (by have:=θS ((((w.alloc (.cells #[t0,t1,t2,t3,t4,t5,t6,t7,t8] 36)).alloc (.cells #[s0,s1,s2,s3,s4,s5] 39)).alloc (.cells #[u0,u1,u2,u3,u4,u5,u6,u7,u8] 36)).alloc (.cells #[l0,l1,l2] 34)) [t0,t1,t2,t3,t4,t5,t6,t7,t8,u0,u1,u2,u3,u4,u5,u6,u7,u8] 36;simpa using this)).mono ?_
 rintro o w1 ⟨rfl,hb1⟩
 have HD1:Hid (Sh4 w [t0,t1,t2,t3,t4,t5,t6,t7,t8] [s0,s1,s2,s3,s4,s5] [u0,u1,u2,u3,u4,u5,u6,u7,u8] [l0,l1,l2] w1):=(HD0.out.later (ζc _ _)).later hb1
 clear hb1 HD0
 cases hA:(List.range 2).all (ξA [t0,t1,t2,t3,t4,t5,t6,t7,t8,u0,u1,u2,u3,u4,u5,u6,u7,u8])
 ·rw [hA] at HO
  clear HC HE HG hA
  go_wp2
  refine bodyPost_ret (v:= .tuple #[false,.int .i64 1]) (by simp [results,results23,go_sem]) rfl ?_
  exact ⟨HD1.out.bel,.inl ⟨.inl HO.out,rfl⟩⟩
 obtain ⟨⟨q0,q1,q2,q3,q4,q5,q6,q7,q8⟩,p0,p1,p2,p3,p4,p5,p6,p7,p8⟩:=HC.out hA
 rw [hA] at HO
 clear HC hA
 obtain ⟨x0,x1,x2,x3,x4,x5⟩:=HD1.out.r.c6
 go_wp2_with fail
 refine (ψr s0 s1 s2 s3 s4 s5 _ (HR.out s0 (by simp)).1 (HR.out s0 (by simp)).2 (HR.out s1 (by simp)).1 (HR.out s1 (by simp)).2 (HR.out s2 (by simp)).1 (HR.out s2 (by simp)).2 (HR.out s3 (by simp)).1 (HR.out s3 (by simp)).2 (HR.out s4 (by simp)).1 (HR.out s4 (by simp)).2 (HR.out s5 (by simp)).1 (HR.out s5 (by simp)).2).mono ?_
 rintro o w2 ⟨rfl,hb2⟩
 have HD2:=Hid.mk (HD1.out.later hb2)
 clear hb2 HD1 x0 x1 x2 x3 x4 x5
 cases hA:(ζa s0 s1 s2 && ζa s3 s4 s5 && !(ζD s3 s4 s5))
 ·rw [hA] at HO
  clear HE HG hA
  go_wp2
  refine bodyPost_ret (v:= .tuple #[false,.int .i64 1]) (by simp [results,results23,go_sem]) rfl ?_
  exact ⟨HD2.out.bel,.inl ⟨.inl HO.out,rfl⟩⟩
 obtain ⟨⟨r0,r1,r2,r3,r4,r5⟩,hw⟩:=HE.out hA
 have HW:=Hid.mk hw
 rw [hA] at HO
 clear HE hA hw
 have x0:=HD2.out.l.at 0 rfl
 have x1:=HD2.out.l.at 1 rfl
 have x2:=HD2.out.l.at 2 rfl
 go_wp2_with fail
 refine (ξq _ 1 1 [l0,l1,l2] _ (by omega) rfl HL.out (by have:=θS w2 [l0,l1,l2] 34;simpa using this)).mono ?_
 rintro o w3 ⟨rfl,hb3⟩
 have HD3:Hid (Sh4 w [t0,t1,t2,t3,t4,t5,t6,t7,t8] [s0,s1,s2,s3,s4,s5] [u0,u1,u2,u3,u4,u5,u6,u7,u8] [l0,l1,l2] w3):=(HD2.out.later (ζc _ _)).later hb3
 clear hb3 HD2 x0 x1 x2
 cases hA:(List.range 1).all (ηr [l0,l1,l2])
 ·rw [hA] at HO
  clear HG hA
  go_wp2
  refine bodyPost_ret (v:= .tuple #[false,.int .i64 1]) (by simp [results,results23,go_sem]) rfl ?_
  exact ⟨HD3.out.bel,.inl ⟨.inl HO.out,rfl⟩⟩
 obtain ⟨j0,j1,j2⟩:=HG.out hA
 rw [hA] at HO
 clear HG hA
 have HTT:Hid (∀w',Below w3 w3 w'->Tab w'):=fun w' hb=>HT.out w' (HD3.out.bel.trans (hb.mono HD3.out.bel.size))
 have HK:Hid (∀w',Below w3 w3 w'->w'.cell? ⟨↑w+1,0,none⟩=some ↑s0∧w'.cell? ⟨↑w+1,1,none⟩=some ↑s1∧w'.cell? ⟨↑w+1,2,none⟩=some ↑s2∧w'.cell? ⟨↑w+1,3,none⟩=some ↑s3∧w'.cell? ⟨↑w+1,4,none⟩=some ↑s4∧w'.cell? ⟨↑w+1,5,none⟩=some ↑s5∧w'.cell? ⟨↑w+1+1,0,none⟩=some ↑u0∧w'.cell? ⟨↑w+1+1,1,none⟩=some ↑u1∧w'.cell? ⟨↑w+1+1,2,none⟩=some ↑u2∧w'.cell? ⟨↑w+1+1,3,none⟩=some ↑u3∧w'.cell? ⟨↑w+1+1,4,none⟩=some ↑u4∧w'.cell? ⟨↑w+1+1,5,none⟩=some ↑u5∧w'.cell? ⟨↑w+1+1,6,none⟩=some ↑u6∧w'.cell? ⟨↑w+1+1,7,none⟩=some ↑u7∧w'.cell? ⟨↑w+1+1,8,none⟩=some ↑u8∧Below w3 w3 w'):=fun w' hb=>⟨(HD3.out.r.later hb).at 0 rfl,(HD3.out.r.later hb).at 1 rfl,(HD3.out.r.later hb).at 2 rfl,(HD3.out.r.later hb).at 3 rfl,(HD3.out.r.later hb).at 4 rfl,(HD3.out.r.later hb).at 5 rfl,(HD3.out.h.later hb).at 0 rfl,(HD3.out.h.later hb).at 1 rfl,(HD3.out.h.later hb).at 2 rfl,(HD3.out.h.later hb).at 3 rfl,(HD3.out.h.later hb).at 4 rfl,(HD3.out.h.later hb).at 5 rfl,(HD3.out.h.later hb).at 6 rfl,(HD3.out.h.later hb).at 7 rfl,(HD3.out.h.later hb).at 8 rfl,hb⟩
 have hB0:Below w3 w3 w3.drew:=(Below.refl _ _).drew
 have TT0:Tab w3.drew:=HTT.out _ hB0
 have K0:=HK.out _ hB0
 go_wp2
 go_cut [10] from 11 to 40 (fun s10 wx=> ∃(P:Nat) (R:Int×Int×Int×Int) (g1:Bool) (a1:Option Addr) (c1:Nat) (z1:List Int) (g2:Bool) (a2:Option Addr) (c2:Nat) (z2:List Int) (g3:Bool) (a3:Option Addr) (c3:Nat) (z3:List Int) (g4:Bool) (a4:Option Addr) (c4:Nat) (z4:List Int),s10= .pointer (some ⟨P,0,none⟩)∧Hid (MtS w3 P (ζs (pv u0 u1 u2) (pv u3 u4 u5) (pv u6 u7 u8) (pv s0 s1 s2) (pv s3 s4 s5)) (.agg #[g1,.slice a1 z1 c1,g2,.slice a2 z2 c2,g3,.slice a3 z3 c3,g4,.slice a4 z4 c4]) [g1,.slice a1 z1 c1,g2,.slice a2 z2 c2,g3,.slice a3 z3 c3,g4,.slice a4 z4 c4] R wx))
 case first=>
  go_region_held3 (fun w'=>w'.cell? ⟨↑w+1,0,none⟩=some ↑s0∧w'.cell? ⟨↑w+1,1,none⟩=some ↑s1∧w'.cell? ⟨↑w+1,2,none⟩=some ↑s2∧w'.cell? ⟨↑w+1,3,none⟩=some ↑s3∧w'.cell? ⟨↑w+1,4,none⟩=some ↑s4∧w'.cell? ⟨↑w+1,5,none⟩=some ↑s5∧w'.cell? ⟨↑w+1+1,0,none⟩=some ↑u0∧w'.cell? ⟨↑w+1+1,1,none⟩=some ↑u1∧w'.cell? ⟨↑w+1+1,2,none⟩=some ↑u2∧w'.cell? ⟨↑w+1+1,3,none⟩=some ↑u3∧w'.cell? ⟨↑w+1+1,4,none⟩=some ↑u4∧w'.cell? ⟨↑w+1+1,5,none⟩=some ↑u5∧w'.cell? ⟨↑w+1+1,6,none⟩=some ↑u6∧w'.cell? ⟨↑w+1+1,7,none⟩=some ↑u7∧w'.cell? ⟨↑w+1+1,8,none⟩=some ↑u8∧Below w3 w3 w')
   (first|with_reducible assumption|with_reducible exact HK.out _ (hB2.trans ((ζc _ _).mono hB2.size))|with_reducible exact HK.out _ (hB1.trans ((ζc _ _).mono hB1.size))|with_reducible exact HK.out _ (hB0.trans ((ζc _ _).mono hB0.size))|with_reducible exact HK.out _ (Below.setCell (Below.setCell (Below.setCell (Below.setCell (Below.setCell (Below.setCell (Below.setCell (Below.setCell hB2 (by first|exact hp| (simp;exact hp)) _) (by first|exact hp| (simp;exact hp)) _) (by first|exact hp| (simp;exact hp)) _) (by first|exact hp| (simp;exact hp)) _) (by first|exact hp| (simp;exact hp)) _) (by first|exact hp| (simp;exact hp)) _) (by first|exact hp| (simp;exact hp)) _) (by first|exact hp| (simp;exact hp)) _)|exact HK.out _ (hB0.trans ((ζc _ _).mono hB0.size)))
   (first
    |(have hBB:=hB1;clear hBB;go_at_call 40;refine (ξ2 v4 (pv s0 s1 s2) (pv s3 s4 s5) u0 u1 u2 u3 u4 u5 u6 u7 u8 _ (by first|exact TT1|exact TT1.later (ζc _ _)) (by first|exact hc4|exact hc4.later (ζc _ _)) p0 p1 p2 p3 p4 p5 p6 p7 p8).mono ?_;rintro o w5 ⟨R,hM,v5,rfl,hv5,hb2⟩;have HMR:Hid (Met (ζs (pv u0 u1 u2) (pv u3 u4 u5) (pv u6 u7 u8) (pv s0 s1 s2) (pv s3 s4 s5)) R):=hM;have R2:ζR w5 v5 1120 R.1 R.2.1 R.2.2.1 R.2.2.2:=hv5;obtain ⟨g1,a1,c1,z1,g2,a2,c2,z2,g3,a3,c3,z3,g4,a4,c4,z4,rfl,_,_,_,_⟩:=hv5;have hB2:Below w3 w3 w5:=(by first|exact hB1.trans (hb2.mono hB1.size)|exact (hB1.trans ((ζc _ _).mono hB1.size)).trans (hb2.mono (hB1.trans ((ζc _ _).mono hB1.size)).size));have TT2:Tab w5:=HTT.out _ hB2;have K2:=HK.out _ hB2;(first| (have hh:Cs w5 w3 [false,(),false,(),false,(),false,()]:=((Cs.new w3.drew #[false,(),false,(),false,(),false,()] 83).later hb1).later hb2;have hj:ζf w5 w3.heap.size:=((ζf.new w3.drew #[false,(),false,(),false,(),false,()] 83 (fun i k m=>by match i with|0=>simp|1=>simp|2=>simp|3=>simp|4=>simp|5=>simp|6=>simp|7=>simp|n+8=>simp)).later hb1).later hb2;have hp:w3.heap.size<=w3.heap.size:=Nat.le_refl _)| (have hh:=(Cs.new w4 #[false,(),false,(),false,(),false,()] 83).later hb2;have hj:=(ζf.new w4 #[false,(),false,(),false,(),false,()] 83 (fun i k m=>by match i with|0=>simp|1=>simp|2=>simp|3=>simp|4=>simp|5=>simp|6=>simp|7=>simp|n+8=>simp)).later hb2;have hp:w3.heap.size<=w4.heap.size:=hB1.size)|have hh:True:=trivial);(try have e0:=hh.at 0 rfl);(try have e1:=hh.at 1 rfl);(try have e2:=hh.at 2 rfl);(try have e3:=hh.at 3 rfl);(try have e4:=hh.at 4 rfl);(try have e5:=hh.at 5 rfl);(try have e6:=hh.at 6 rfl);(try have e7:=hh.at 7 rfl);(try have ez:=hh.2.1))
    |(go_at_call 39;refine (ψi s0 s1 s2 s3 s4 s5 _ (by first|exact TT0|exact TT0.later (ζc _ _)) r0 r1 r2 r3 r4 r5).mono ?_;rintro o w4 ⟨v4,rfl,hc4,hb1⟩;have hB1:Below w3 w3 w4:=(by first|exact hB0.trans (hb1.mono hB0.size)|exact (hB0.trans ((ζc _ _).mono hB0.size)).trans (hb1.mono (hB0.trans ((ζc _ _).mono hB0.size)).size));have TT1:Tab w4:=HTT.out _ hB1;have K1:=HK.out _ hB1))
  all_goals
   go_wp2_with fail
   go_meet
   case rel=>
    refine ⟨_,R,g1,a1,c1,z1,g2,a2,c2,z2,g3,a3,c3,z3,g4,a4,c4,z4,rfl,?_⟩
    unfold Hid
    first
     |with_reducible exact MtS.new8 _ R2 HMR.out hB2
     |with_reducible exact MtS.set8 R2 HMR.out hB2 hh hj (by simp [ζh]) hp
 case rest=>
 obtain ⟨B,R,g1,a1,c1,z1,g2,a2,c2,z2,g3,a3,c3,z3,g4,a4,c4,z4,rfl,HE⟩:=hcut
 have HM:=Hid.mk HE.out.m
 have HD5:=Hid.mk (HD3.out.later HE.out.bel)
 have HQ5:=Hid.mk HE.out.c
 have HS5:=Hid.mk HE.out.v
 clear HE HD3 HTT HK hB0 TT0 K0
 obtain ⟨m0,m1,m2,m3,m4,m5,m6,m7⟩:=HQ5.out.c8
 go_wp2_with fail
 refine (χM _ 1120 R.1 R.2.1 R.2.2.1 R.2.2.2 _ (by omega) HS5.out).mono ?_
 rintro o w6 ⟨rfl,hb5⟩
 have HD6:=Hid.mk (HD5.out.later hb5)
 have HQ6:=Hid.mk (HQ5.out.later hb5)
 have HS6:=Hid.mk (HS5.out.later hb5)
 clear hb5 HD5 HQ5 HS5 m0 m1 m2 m3 m4 m5 m6 m7
 by_cases h0:R.2.1=0
 ·have HN:Hid (ζ5 (ζs (pv u0 u1 u2) (pv u3 u4 u5) (pv u6 u7 u8) (pv s0 s1 s2) (pv s3 s4 s5))):=by
   rcases HM.out with h| ⟨h,_⟩
   ·have:=h.hb;omega
   ·exact h
  rw [decide_eq_false (fun e=>e h0)]
  clear h0
  go_wp2
  refine bodyPost_ret (v:= .tuple #[false,.int .i64 1]) (by simp [results,results23,go_sem]) rfl ?_
  exact ⟨HD6.out.bel,.inl ⟨.inr HN.out,rfl⟩⟩
 have HSp:Hid (ξg (ζs (pv u0 u1 u2) (pv u3 u4 u5) (pv u6 u7 u8) (pv s0 s1 s2) (pv s3 s4 s5)) R.1 R.2.1 R.2.2.1 R.2.2.2):=by
  rcases HM.out with h| ⟨_,e⟩
  ·exact h
  ·exact absurd (by rw [e]) h0
 rw [decide_eq_true h0]
 clear h0 HM
 have HP:Hid (0<=R.1∧0<R.2.1∧R.1<=R.2.1*2^290∧(R.1=0∨R.2.1<=R.1*2^850)∧ξD (R.2.1*2^278) (V3.sc R.1 (pv s3 s4 s5))):=by
  have hO:=θm r0 r1 r2
  obtain ⟨h1,h2,h3,h4,h5⟩:=νm HSp.out (θm p0 p1 p2) (θm p3 p4 p5) (θm p6 p7 p8) hO (θm r3 r4 r5) (τI r3 r4 r5 HW.out)
  exact ⟨h1,h2,h3,h4,νy h2 h5 hO⟩
 have HF6:Hid (ζO w6 (.agg #[g1,.slice a1 z1 c1,g2,.slice a2 z2 c2]) 1120 R.1 R.2.1):=by
  obtain ⟨g5,a5,c5,z5,g6,a6,c6,z6,g7,a7,c7,z7,g8,a8,c8,z8,he,k1,k2,_,_⟩:=HS6.out
  simp only [Value.agg.injEq,Array.mk.injEq,List.cons.injEq,Value.bool.injEq,Value.slice.injEq,and_true] at he
  obtain ⟨rfl,⟨rfl,e1,rfl⟩,rfl,⟨rfl,e2,rfl⟩,_⟩:=he
  rw [<-e1] at k1
  rw [<-e2] at k2
  exact ⟨g1,a1,c1,z1,g2,a2,c2,z2,rfl,k1,k2⟩
 have HTT:Hid (∀w',Below w6 w6 w'->Tab w'):=fun w' hb=>HT.out w' (HD6.out.bel.trans (hb.mono HD6.out.bel.size))
 have HK:Hid (∀w',Below w6 w6 w'->w'.cell? ⟨↑w+1+1+1,0,none⟩=some ↑l0∧w'.cell? ⟨↑w+1+1+1,1,none⟩=some ↑l1∧w'.cell? ⟨↑w+1+1+1,2,none⟩=some ↑l2∧w'.cell? ⟨↑w+1,0,none⟩=some ↑s0∧w'.cell? ⟨↑w+1,1,none⟩=some ↑s1∧w'.cell? ⟨↑w+1,2,none⟩=some ↑s2∧w'.cell? ⟨↑w+1,3,none⟩=some ↑s3∧w'.cell? ⟨↑w+1,4,none⟩=some ↑s4∧w'.cell? ⟨↑w+1,5,none⟩=some ↑s5∧w'.cell? ⟨w,0,none⟩=some ↑t0∧w'.cell? ⟨w,1,none⟩=some ↑t1∧w'.cell? ⟨w,2,none⟩=some ↑t2∧w'.cell? ⟨w,3,none⟩=some ↑t3∧w'.cell? ⟨w,4,none⟩=some ↑t4∧w'.cell? ⟨w,5,none⟩=some ↑t5∧w'.cell? ⟨w,6,none⟩=some ↑t6∧w'.cell? ⟨w,7,none⟩=some ↑t7∧w'.cell? ⟨w,8,none⟩=some ↑t8∧w'.cell? ⟨B,0,none⟩=some ↑g1∧w'.cell? ⟨B,1,none⟩=some (.slice a1 z1 c1)∧w'.cell? ⟨B,2,none⟩=some ↑g2∧w'.cell? ⟨B,3,none⟩=some (.slice a2 z2 c2)∧Below w6 w6 w'):=fun w' hb=>⟨(HD6.out.l.later hb).at 0 rfl,(HD6.out.l.later hb).at 1 rfl,(HD6.out.l.later hb).at 2 rfl,(HD6.out.r.later hb).at 0 rfl,(HD6.out.r.later hb).at 1 rfl,(HD6.out.r.later hb).at 2 rfl,(HD6.out.r.later hb).at 3 rfl,(HD6.out.r.later hb).at 4 rfl,(HD6.out.r.later hb).at 5 rfl,(HD6.out.t.later hb).at 0 rfl,(HD6.out.t.later hb).at 1 rfl,(HD6.out.t.later hb).at 2 rfl,(HD6.out.t.later hb).at 3 rfl,(HD6.out.t.later hb).at 4 rfl,(HD6.out.t.later hb).at 5 rfl,(HD6.out.t.later hb).at 6 rfl,(HD6.out.t.later hb).at 7 rfl,(HD6.out.t.later hb).at 8 rfl,(HQ6.out.later hb).at 0 rfl,(HQ6.out.later hb).at 1 rfl,(HQ6.out.later hb).at 2 rfl,(HQ6.out.later hb).at 3 rfl,hb⟩
 have hB0:Below w6 w6 w6.drew:=(Below.refl _ _).drew
 have TT0:Tab w6.drew:=HTT.out _ hB0
 have K0:=HK.out _ hB0
 clear HS6 HW
 go_wp2
 go_region_held3 (fun w'=>w'.cell? ⟨↑w+1+1+1,0,none⟩=some ↑l0∧w'.cell? ⟨↑w+1+1+1,1,none⟩=some ↑l1∧w'.cell? ⟨↑w+1+1+1,2,none⟩=some ↑l2∧w'.cell? ⟨↑w+1,0,none⟩=some ↑s0∧w'.cell? ⟨↑w+1,1,none⟩=some ↑s1∧w'.cell? ⟨↑w+1,2,none⟩=some ↑s2∧w'.cell? ⟨↑w+1,3,none⟩=some ↑s3∧w'.cell? ⟨↑w+1,4,none⟩=some ↑s4∧w'.cell? ⟨↑w+1,5,none⟩=some ↑s5∧w'.cell? ⟨w,0,none⟩=some ↑t0∧w'.cell? ⟨w,1,none⟩=some ↑t1∧w'.cell? ⟨w,2,none⟩=some ↑t2∧w'.cell? ⟨w,3,none⟩=some ↑t3∧w'.cell? ⟨w,4,none⟩=some ↑t4∧w'.cell? ⟨w,5,none⟩=some ↑t5∧w'.cell? ⟨w,6,none⟩=some ↑t6∧w'.cell? ⟨w,7,none⟩=some ↑t7∧w'.cell? ⟨w,8,none⟩=some ↑t8∧w'.cell? ⟨B,0,none⟩=some ↑g1∧w'.cell? ⟨B,1,none⟩=some (.slice a1 z1 c1)∧w'.cell? ⟨B,2,none⟩=some ↑g2∧w'.cell? ⟨B,3,none⟩=some (.slice a2 z2 c2)∧Below w6 w6 w') (first|with_reducible assumption|with_reducible exact HK.out _ (hB2.trans ((ζc _ _).mono hB2.size))|with_reducible exact HK.out _ (hB1.trans ((ζc _ _).mono hB1.size))|with_reducible exact HK.out _ (hB0.trans ((ζc _ _).mono hB0.size)))
  (first
   |(have hBB:=hB1;clear hBB;go_at_call 61;refine (θl v7 1399 1120 R.2.1 (pnt (pv s0 s1 s2) (pv s3 s4 s5) R.1 R.2.1) ((V3.sc R.2.1 (pv l0 l1 l2)).sub (pnt (pv s0 s1 s2) (pv s3 s4 s5) R.1 R.2.1)) t0 t1 t2 t3 t4 t5 t6 t7 t8 _ (by omega) (by omega) HP.out.2.1 (by first|exact TT1|exact TT1.later (ζc _ _)) hc7 q0 q1 q2 q3 q4 q5 q6 q7 q8).mono ?_;rintro o w8 ⟨g,rfl,hg,hb2⟩;have HG:=Hid.mk hg;have hB2:Below w6 w6 w8:=(by first|exact hB1.trans (hb2.mono hB1.size)|exact (hB1.trans ((ζc _ _).mono hB1.size)).trans (hb2.mono (hB1.trans ((ζc _ _).mono hB1.size)).size));have TT2:Tab w8:=HTT.out _ hB2;have K2:=HK.out _ hB2)
   |(go_at_call 60;refine (θj l0 l1 l2 s0 s1 s2 s3 s4 s5 _ 1120 R.1 R.2.1 _ (by omega) (by first|exact TT0|exact TT0.later (ζc _ _)) (HF6.out.later hB0) HP.out.1 HP.out.2.1 HP.out.2.2.1 HP.out.2.2.2.1 HP.out.2.2.2.2 j0 j1 j2 r0 r1 r2 r3 r4 r5).mono ?_;rintro o w7 ⟨v7,rfl,hc7,hb1⟩;have hB1:Below w6 w6 w7:=(by first|exact hB0.trans (hb1.mono hB0.size)|exact (hB0.trans ((ζc _ _).mono hB0.size)).trans (hb1.mono (hB0.trans ((ζc _ _).mono hB0.size)).size));have TT1:Tab w7:=HTT.out _ hB1;have K1:=HK.out _ hB1))
 all_goals
  go_wp2_with fail
  refine bodyPost_ret (v:= .tuple #[g,.int .i64 0]) (by simp [results,results23,go_sem]) rfl ?_
  exact ⟨HD6.out.bel.trans (hB2.mono HD6.out.bel.size),.inr ⟨HO.out,_,_,_,_,g,HSp.out,HG.out,rfl⟩⟩
def FrM (w:World) (v:Value) (n:Nat) (p q:Int):Prop:= ∃(g:Bool) (a:Option Addr) (c:Nat) (z:List Int) (g':Bool) (a':Option Addr) (c':Nat) (z':List Int),v= .agg #[g,.slice a z c,g',.slice a' z' c',false]∧MIs w (.agg #[g,.slice a z c]) n p∧MIs w (.agg #[g',.slice a' z' c']) n q
def σP (w:World) (n:Nat) (p q:Int) (o:Ending) (w':World):Prop:= ∃v,o= .returned v∧FrM w' v n p q∧Below w w w'
theorem FrM.later {v:Value} {n:Nat} {p q:Int} (h:FrM w v n p q) (hb:Below w w w'):FrM w' v n p q:=by
 obtain ⟨g,a,c,z,g',a',c',z',rfl,h1,h2⟩:=h
 exact ⟨g,a,c,z,g',a',c',z',rfl,h1.later hb,h2.later hb⟩
structure Fmk (w:World) (m0 m1 n0 n1 p0 p1 p2 p3 p4:Value) (W:World):Prop where
 e0x0:W.cell? ⟨w,0,none⟩=some m0
 e0x1:W.cell? ⟨w,1,none⟩=some m1
 f0: ∀j,W.frozen? ⟨w,j,none⟩=false
 e1x0:W.cell? ⟨↑w+1,0,none⟩=some n0
 e1x1:W.cell? ⟨↑w+1,1,none⟩=some n1
 f1: ∀j,W.frozen? ⟨↑w+1,j,none⟩=false
 e2x0:W.cell? ⟨↑w+1+1,0,none⟩=some p0
 e2x1:W.cell? ⟨↑w+1+1,1,none⟩=some p1
 e2x2:W.cell? ⟨↑w+1+1,2,none⟩=some p2
 e2x3:W.cell? ⟨↑w+1+1,3,none⟩=some p3
 e2x4:W.cell? ⟨↑w+1+1,4,none⟩=some p4
 f2: ∀j,W.frozen? ⟨↑w+1+1,j,none⟩=false
 le:w.heap.size+1+1+1<=W.heap.size
 bel:Below w w W
theorem Fmk.start (w:World) (m0 m1 n0 n1 p0 p1 p2 p3 p4:Value) (t0 t1 t2:TypeId):Fmk w m0 m1 n0 n1 p0 p1 p2 p3 p4 (((w.alloc (.cells #[m0,m1] t0)).alloc (.cells #[n0,n1] t1)).alloc (.cells #[p0,p1,p2,p3,p4] t2)):=by
 constructor<;>first|exact (((ζc _ _).trans ((ζc _ _).mono (by simp<;>omega))).trans ((ζc _ _).mono (by simp<;>omega)))|simp [go_sem]
theorem Fmk.later {W':World} (h:Fmk w m0 m1 n0 n1 p0 p1 p2 p3 p4 W) (hb:Below W W W'):Fmk w m0 m1 n0 n1 p0 p1 p2 p3 p4 W':=by
 have q:=h.le
 have z:=h.bel.trans (hb.mono h.bel.size)
 cases h
 constructor<;>first|exact ((ζj hb).1 _ _ (by omega)).trans (by with_reducible assumption)|exact z|exact Nat.le_trans q hb.size| (intro j;exact ((ζj hb).2 _ _ (by omega)).trans (by apply_assumption))
theorem Fmk.set2 (h:Fmk w m0 m1 n0 n1 p0 p1 p2 p3 p4 W) (v0 v1 v2 v3 v4:Value):Fmk w m0 m1 n0 n1 v0 v1 v2 v3 v4 (((((W.setCell ⟨↑w+1+1,0,none⟩ v0).setCell ⟨↑w+1+1,1,none⟩ v1).setCell ⟨↑w+1+1,2,none⟩ v2).setCell ⟨↑w+1+1,3,none⟩ v3).setCell ⟨↑w+1+1,4,none⟩ v4):=by
 have hle:=h.le
 constructor<;>first|exact (((((h.bel.setCell (by simp<;>omega) _).setCell (by simp<;>omega) _).setCell (by simp<;>omega) _).setCell (by simp<;>omega) _).setCell (by simp<;>omega) _)| (cases h;simp [go_sem, *])
theorem Fmk.s (h:Fmk w m0 m1 n0 n1 p0 p1 p2 p3 p4 w'):w'.cell? ⟨w,0,none⟩=some m0∧w'.cell? ⟨w,1,none⟩=some m1∧w'.cell? ⟨↑w+1,0,none⟩=some n0∧w'.cell? ⟨↑w+1,1,none⟩=some n1:=⟨h.e0x0,h.e0x1,h.e1x0,h.e1x1⟩
theorem σQ (u v:Value) (n:Nat) (x y:Int) (w:World) (hn:n<=320000) (hu:MIs w u n x) (hv:MIs w v n y) (hy:y<0):
 Calls prog 156 #[u,v] w fun o w'=>σP w n (-x) (-y) o w':=by
 have hk:=hu
 have hl:=hv
 obtain ⟨gu,au,cu,zu,rfl,_,_,_⟩:=hu
 obtain ⟨gv,av,cv,zv,rfl,_,_,_⟩:=hv
 have hg:=hl.neg_iff
 rw [decide_eq_true hy] at hg
 subst hg
 go_enter func156,ntmps156
 go_wp2_with fail
 obtain ⟨W0,hW0⟩: ∃V0,V0=(((w.alloc (.cells #[gu,.slice au zu cu] 72)).alloc (.cells #[true,.slice av zv cv] 72)).alloc (.cells #[false,(),false,(),false] 74)):=⟨_,rfl⟩
 rw [<-hW0]
 have FR:Hid (Fmk w gu (.slice au zu cu) true (.slice av zv cv) false () false () false W0):=by rw [hW0];exact Fmk.start w _ _ _ _ _ _ _ _ _ _ _ _
 have HNI:Hid (ζf W0 (↑w+1+1)):=by
  have hz: ∀(i:Nat) (k:IntKind) (m:Int),(#[↑false,↑(),↑false,↑(),↑false]:Array Value)[i]? ≠some (Value.int k m):=by
   intro i k m
   match i with|0=>simp|1=>simp|2=>simp|3=>simp|4=>simp|n+5=>simp
  have h1:=ζf.new ((w.alloc (.cells #[gu,.slice au zu cu] 72)).alloc (.cells #[true,.slice av zv cv] 72)) #[false,(),false,(),false] 74 hz
  have hs:((w.alloc (.cells #[gu,.slice au zu cu] 72)).alloc (.cells #[true,.slice av zv cv] 72)).heap.size=w.heap.size+1+1:=by simp
  rw [hs] at h1
  unfold Hid;rw [hW0];exact h1
 clear hW0
 have RU_0:=(hk.later FR.out.bel).later (w':=W0.drew) (Below.refl _ _).drew
 have RV_0:=(hl.later FR.out.bel).later (w':=W0.drew) (Below.refl _ _).drew
 have NI_0:=HNI.out.later (w':=W0.drew) (Below.refl _ _).drew
 have F0:Fmk w gu (.slice au zu cu) true (.slice av zv cv) false () false () false W0.drew:=FR.out.later (Below.refl _ _).drew
 go_region_held3 (fun w'=>w'.cell? ⟨w,0,none⟩=some ↑gu∧w'.cell? ⟨w,1,none⟩=some (.slice au zu cu)∧w'.cell? ⟨↑w+1,0,none⟩=some ↑true∧w'.cell? ⟨↑w+1,1,none⟩=some (.slice av zv cv))
  (first|with_reducible exact (F2.set2 _ _ _ _ _).s|with_reducible exact Fmk.s (by with_reducible assumption))
  (first
   |(have hBB:=hB1;clear hBB;go_at_call 117;refine (ψ9 _ n y _ (by omega) RV_1).mono ?_;rintro o w2 ⟨v2,rfl,hv2,hb2⟩;have R2_2:MIs w2 v2 n (-y):=hv2;obtain ⟨gr2,ar2,cr2,zr2,rfl,_,_,_⟩:=hv2;have RU_2:=RU_1.later hb2;have RV_2:=RV_1.later hb2;have NI_2:=NI_1.later hb2;have R1_2:=R1_1.later hb2;have hB2:Below W0 W0 w2:=hB1.trans (hb2.mono hB1.size);have F2:Fmk w gu (.slice au zu cu) true (.slice av zv cv) false () false () false w2:=FR.out.later hB2;have r0:=F2.e2x0;have r1:=F2.e2x1;have r2:=F2.e2x2;have r3:=F2.e2x3;have r4:=F2.e2x4;have rz:=F2.f2)
   |(go_at_call 117;refine (ψ9 _ n x _ (by omega) RU_0).mono ?_;rintro o w1 ⟨v1,rfl,hv1,hb1⟩;have R1_1:MIs w1 v1 n (-x):=hv1;obtain ⟨gr1,ar1,cr1,zr1,rfl,_,_,_⟩:=hv1;have RU_1:=RU_0.later hb1;have RV_1:=RV_0.later hb1;have NI_1:=NI_0.later hb1;have hB1:Below W0 W0 w1:=(Below.refl _ _).drew.trans hb1;have F1:Fmk w gu (.slice au zu cu) true (.slice av zv cv) false () false () false w1:=FR.out.later hB1))
 have HF:=Hid.mk F2
 have HR1:=Hid.mk R1_2
 have HR2:=Hid.mk R2_2
 have HNN:=Hid.mk NI_2
 clear hB1 hb1 F1 hB2 hb2 F2 RU_0 RU_1 RU_2 RV_0 RV_1 RV_2 NI_0 NI_1 NI_2 R1_1 R1_2 R2_2 F0
 go_wp2
 refine bodyPost_ret (v:= .agg #[gr1,.slice ar1 zr1 cr1,gr2,.slice ar2 zr2 cr2,false]) (by simp [results,results156,go_sem,r0,r1,r2,r3,r4]) rfl ?_
 refine ⟨_,rfl,⟨gr1,ar1,cr1,zr1,gr2,ar2,cr2,zr2,rfl,HR1.out.setAll [gr1,.slice ar1 zr1 cr1,gr2,.slice ar2 zr2 cr2,false] _ 0 HNN.out (by simp [ζh]),HR2.out.setAll [gr1,.slice ar1 zr1 cr1,gr2,.slice ar2 zr2 cr2,false] _ 0 HNN.out (by simp [ζh])⟩,?_⟩
 exact (HF.out.set2 _ _ _ _ _).bel
theorem σR (u v:Value) (n:Nat) (x y:Int) (w:World) (hu:MIs w u n x) (hv:MIs w v n y) (hy:0<=y):
 Calls prog 156 #[u,v] w fun o w'=>σP w n x y o w':=by
 have hk:=hu
 have hl:=hv
 obtain ⟨gu,au,cu,zu,rfl,_,_,_⟩:=hu
 obtain ⟨gv,av,cv,zv,rfl,_,_,_⟩:=hv
 have hg:=hl.neg_iff
 rw [decide_eq_false (by omega)] at hg
 subst hg
 go_enter func156,ntmps156
 go_wp2
 refine bodyPost_ret (v:= .agg #[gu,.slice au zu cu,false,.slice av zv cv,false]) (by simp [results,results156,go_sem]) rfl ?_
 refine ⟨_,rfl,⟨gu,au,cu,zu,false,av,cv,zv,rfl,hk.later ?_,hl.later ?_⟩,?_⟩
 all_goals exact (Fmk.start w _ _ _ _ _ _ _ _ _ _ _ _).bel
theorem σS (u v:Value) (n:Nat) (x y:Int) (w:World) (hn:n<=320000) (hu:MIs w u n x) (hv:MIs w v n y):
 Calls prog 156 #[u,v] w fun o w'=>σP w n (if y<0 then-x else x) (if y<0 then-y else y) o w':=by
 by_cases hy:y<0
 ·rw [if_pos hy,if_pos hy];exact σQ u v n x y w hn hu hv hy
 ·rw [if_neg hy,if_neg hy];exact σR u v n x y w hu hv (by omega)
structure Fmo (w:World) (m0 m1 m2 m3 m4 n0 n1 n2 n3 n4:Value) (W:World):Prop where
 e0x0:W.cell? ⟨w,0,none⟩=some m0
 e0x1:W.cell? ⟨w,1,none⟩=some m1
 e0x2:W.cell? ⟨w,2,none⟩=some m2
 e0x3:W.cell? ⟨w,3,none⟩=some m3
 e0x4:W.cell? ⟨w,4,none⟩=some m4
 f0: ∀j,W.frozen? ⟨w,j,none⟩=false
 e1x0:W.cell? ⟨↑w+1,0,none⟩=some n0
 e1x1:W.cell? ⟨↑w+1,1,none⟩=some n1
 e1x2:W.cell? ⟨↑w+1,2,none⟩=some n2
 e1x3:W.cell? ⟨↑w+1,3,none⟩=some n3
 e1x4:W.cell? ⟨↑w+1,4,none⟩=some n4
 f1: ∀j,W.frozen? ⟨↑w+1,j,none⟩=false
 le:w.heap.size+1+1<=W.heap.size
 bel:Below w w W
theorem Fmo.start (w:World) (m0 m1 m2 m3 m4 n0 n1 n2 n3 n4:Value) (t0 t1:TypeId):Fmo w m0 m1 m2 m3 m4 n0 n1 n2 n3 n4 ((w.alloc (.cells #[m0,m1,m2,m3,m4] t0)).alloc (.cells #[n0,n1,n2,n3,n4] t1)):=by
 constructor<;>first|exact ((ζc _ _).trans ((ζc _ _).mono (by simp<;>omega)))|simp [go_sem]
theorem Fmo.later {m2 m3 m4 n2 n3 n4:Value} {W':World} (h:Fmo w m0 m1 m2 m3 m4 n0 n1 n2 n3 n4 W) (hb:Below W W W'):Fmo w m0 m1 m2 m3 m4 n0 n1 n2 n3 n4 W':=by
 have q:=h.le
 have z:=h.bel.trans (hb.mono h.bel.size)
 cases h
 constructor<;>first|exact ((ζj hb).1 _ _ (by omega)).trans (by with_reducible assumption)|exact z|exact Nat.le_trans q hb.size| (intro j;exact ((ζj hb).2 _ _ (by omega)).trans (by apply_assumption))
theorem Fmo.s {m2 m3 m4 n2 n3 n4:Value} (h:Fmo w m0 m1 m2 m3 m4 n0 n1 n2 n3 n4 w'):w'.cell? ⟨w,0,none⟩=some m0∧w'.cell? ⟨w,1,none⟩=some m1∧w'.cell? ⟨w,2,none⟩=some m2∧w'.cell? ⟨w,3,none⟩=some m3∧w'.cell? ⟨w,4,none⟩=some m4∧w'.cell? ⟨↑w+1,0,none⟩=some n0∧w'.cell? ⟨↑w+1,1,none⟩=some n1∧w'.cell? ⟨↑w+1,2,none⟩=some n2∧w'.cell? ⟨↑w+1,3,none⟩=some n3∧w'.cell? ⟨↑w+1,4,none⟩=some n4:=⟨h.e0x0,h.e0x1,h.e0x2,h.e0x3,h.e0x4,h.e1x0,h.e1x1,h.e1x2,h.e1x3,h.e1x4⟩
theorem φH (f g:Value) (n:Nat) (p q r s:Int) (w:World) (hn:n<=320000) (h1:FrM w f n p q) (h2:FrM w g n r s):
 Calls prog 49 #[f,g] w fun o w'=>o= .returned (.int .i64 (sgn (p*s-r*q)))∧Below w w w':=by
 obtain ⟨gu,au,cu,zu,gv,av,cv,zv,rfl,hu,hv⟩:=h1
 obtain ⟨gx,ax,cx,zx,gy,ay,cy,zy,rfl,hx,hy⟩:=h2
 go_enter func49,ntmps49
 go_wp2_with fail
 obtain ⟨W0,hW0⟩: ∃V0,V0=((w.alloc (.cells #[gu,.slice au zu cu,gv,.slice av zv cv,false] 74)).alloc (.cells #[gx,.slice ax zx cx,gy,.slice ay zy cy,false] 74)):=⟨_,rfl⟩
 rw [<-hW0]
 have FR:Hid (Fmo w gu (.slice au zu cu) gv (.slice av zv cv) false gx (.slice ax zx cx) gy (.slice ay zy cy) false W0):=by rw [hW0];exact Fmo.start w _ _ _ _ _ _ _ _ _ _ _ _
 clear hW0
 have RU_0:=(hu.later FR.out.bel).later (w':=W0.drew) (Below.refl _ _).drew
 have RV_0:=(hv.later FR.out.bel).later (w':=W0.drew) (Below.refl _ _).drew
 have RX_0:=(hx.later FR.out.bel).later (w':=W0.drew) (Below.refl _ _).drew
 have RY_0:=(hy.later FR.out.bel).later (w':=W0.drew) (Below.refl _ _).drew
 have F0:Fmo w gu (.slice au zu cu) gv (.slice av zv cv) false gx (.slice ax zx cx) gy (.slice ay zy cy) false W0.drew:=FR.out.later (Below.refl _ _).drew
 go_region_held3 (fun w'=>w'.cell? ⟨w,0,none⟩=some ↑gu∧w'.cell? ⟨w,1,none⟩=some (.slice au zu cu)∧w'.cell? ⟨w,2,none⟩=some ↑gv∧w'.cell? ⟨w,3,none⟩=some (.slice av zv cv)∧w'.cell? ⟨w,4,none⟩=some ↑false∧w'.cell? ⟨↑w+1,0,none⟩=some ↑gx∧w'.cell? ⟨↑w+1,1,none⟩=some (.slice ax zx cx)∧w'.cell? ⟨↑w+1,2,none⟩=some ↑gy∧w'.cell? ⟨↑w+1,3,none⟩=some (.slice ay zy cy)∧w'.cell? ⟨↑w+1,4,none⟩=some ↑false)
  (with_reducible exact Fmo.s (by with_reducible assumption))
  (first
   |(have hBB:=hB2;clear hBB;go_at_call 96;refine (κT _ _ (n+n+1) (n+n+1) (p*s) (r*q) _ (by omega) (by omega) R1_2 R2_2).mono ?_;rintro o w3 ⟨rfl,hb3⟩;have RU_3:=RU_2.later hb3;have RV_3:=RV_2.later hb3;have RX_3:=RX_2.later hb3;have RY_3:=RY_2.later hb3;have R1_3:=R1_2.later hb3;have R2_3:=R2_2.later hb3;have hB3:Below W0 W0 w3:=hB2.trans (hb3.mono hB2.size);have F3:Fmo w gu (.slice au zu cu) gv (.slice av zv cv) false gx (.slice ax zx cx) gy (.slice ay zy cy) false w3:=FR.out.later hB3)
   |(have hBB:=hB1;clear hBB;go_at_call 97;refine (ζX _ _ n n r q _ (by omega) (by omega) RX_1 RV_1).mono ?_;rintro o w2 ⟨v2,rfl,hv2,hb2⟩;have R2_2:MIs w2 v2 (n+n+1) (r*q):=hv2;obtain ⟨gr2,ar2,cr2,zr2,rfl,_,_,_⟩:=hv2;have RU_2:=RU_1.later hb2;have RV_2:=RV_1.later hb2;have RX_2:=RX_1.later hb2;have RY_2:=RY_1.later hb2;have R1_2:=R1_1.later hb2;have hB2:Below W0 W0 w2:=hB1.trans (hb2.mono hB1.size);have F2:Fmo w gu (.slice au zu cu) gv (.slice av zv cv) false gx (.slice ax zx cx) gy (.slice ay zy cy) false w2:=FR.out.later hB2)
   |(go_at_call 97;refine (ζX _ _ n n p s _ (by omega) (by omega) RU_0 RY_0).mono ?_;rintro o w1 ⟨v1,rfl,hv1,hb1⟩;have R1_1:MIs w1 v1 (n+n+1) (p*s):=hv1;obtain ⟨gr1,ar1,cr1,zr1,rfl,_,_,_⟩:=hv1;have RU_1:=RU_0.later hb1;have RV_1:=RV_0.later hb1;have RX_1:=RX_0.later hb1;have RY_1:=RY_0.later hb1;have hB1:Below W0 W0 w1:=(Below.refl _ _).drew.trans hb1;have F1:Fmo w gu (.slice au zu cu) gv (.slice av zv cv) false gx (.slice ax zx cx) gy (.slice ay zy cy) false w1:=FR.out.later hB1))
 have HF:=Hid.mk F3
 clear hB1 hb1 F1 hB2 hb2 F2 hB3 hb3 F3 F0
 go_wp2
 go_ret
 exact ⟨rfl,HF.out.bel⟩
theorem σT (f:Value) (n:Nat) (p q:Int) (x0 x1 x2 x3:Value) (w:World) (h1:FrM w f n p q):
 Calls prog 49 #[f,.agg #[x0,x1,x2,x3,true]] w fun o w'=>o= .returned (.int .i64 (-1))∧Below w w w':=by
 obtain ⟨gu,au,cu,zu,gv,av,cv,zv,rfl,_,_⟩:=h1
 go_enter func49,ntmps49
 go_wp2
 go_ret
 exact ⟨rfl,ξr _ _ _⟩
def ψn:Value:= .agg #[false,(),false,(),false,false,(),false,(),false,true]
def SpM (w:World) (v:Value) (n:Nat) (a b c d:Int):Prop:= ∃(g1:Bool) (a1:Option Addr) (c1:Nat) (z1:List Int) (g2:Bool) (a2:Option Addr) (c2:Nat) (z2:List Int) (g3:Bool) (a3:Option Addr) (c3:Nat) (z3:List Int) (g4:Bool) (a4:Option Addr) (c4:Nat) (z4:List Int) (t:Bool),v= .agg #[g1,.slice a1 z1 c1,g2,.slice a2 z2 c2,false,g3,.slice a3 z3 c3,g4,.slice a4 z4 c4,t,false]∧MIs w (.agg #[g1,.slice a1 z1 c1]) n a∧MIs w (.agg #[g2,.slice a2 z2 c2]) n b∧((t=false∧d≠0∧MIs w (.agg #[g3,.slice a3 z3 c3]) n c∧MIs w (.agg #[g4,.slice a4 z4 c4]) n d)∨(t=true∧d=0∧c=1))
theorem SpM.later {v:Value} {n:Nat} {a b c d:Int} (h:SpM w v n a b c d) (hb:Below w w w'):SpM w' v n a b c d:=by
 obtain ⟨g1,a1,c1,z1,g2,a2,c2,z2,g3,a3,c3,z3,g4,a4,c4,z4,t,rfl,h1,h2,h3⟩:=h
 refine ⟨g1,a1,c1,z1,g2,a2,c2,z2,g3,a3,c3,z3,g4,a4,c4,z4,t,rfl,h1.later hb,h2.later hb,?_⟩
 rcases h3 with ⟨k1,k2,k3,k4⟩|h3
 ·exact .inl ⟨k1,k2,k3.later hb,k4.later hb⟩
 ·exact .inr h3
theorem ωu (w:World):Calls prog 114 #[] w fun o w'=>o= .returned ψn∧Below w w w':=by
 go_enter func114,ntmps114
 go_wp2
 refine bodyPost_ret (v:=ψn) (by simp [results,results114,go_sem,ψn]) rfl ?_
 exact ⟨rfl,ζc _ _⟩
theorem θ2 (n:Nat) (hn:1<=n) (w:World):Calls prog 67 #[] w fun o w'=> ∃v,o= .returned v∧SpM w' v n 0 1 1 0∧Below w w w':=by
 have HZ0:Hid (∀t,Cs (w.alloc (.cells #[false,(),false,(),false,false,(),false,(),false,false] t)) w [false,(),false,(),false,false,(),false,(),false,false]):=fun t=>Cs.new _ _ _
 have HB0:Hid (∀t,Below w w (w.alloc (.cells #[false,(),false,(),false,false,(),false,(),false,false] t))):=fun t=>ζc _ _
 have HN0:Hid (∀t,ζf (w.alloc (.cells #[false,(),false,(),false,false,(),false,(),false,false] t)) w):=fun t=>ζf.new _ _ _ (fun i k m=>by match i with|0=>simp|1=>simp|2=>simp|3=>simp|4=>simp|5=>simp|6=>simp|7=>simp|8=>simp|9=>simp|10=>simp|n+11=>simp)
 go_enter func67,ntmps67
 go_wp2_with fail
 refine (ψ7 1 _ (by decide) (by decide)).mono ?_
 rintro o w1 ⟨a2,c2,z2,rfl,hl,hL,_,hb1⟩
 have HZ:Hid (Cs w1 w [false,(),false,(),false,false,(),false,(),false,false]):=(HZ0.out _).later hb1
 have HB:Hid (Below w w w1):=(HB0.out _).trans (hb1.mono (HB0.out _).size)
 have HN:Hid (ζf w1 w):=(HN0.out _).later hb1
 have HM:Hid (MIs w1 (.agg #[false,.slice a2 z2 c2]) n 1):=⟨false,a2,c2,z2,rfl,hL,by omega,trivial⟩
 clear hb1 HZ0 HB0 HN0 hL hl
 obtain ⟨y0,y1,y2,y3,y4,y5,y6,y7,y8,y9,y10⟩:=HZ.out.c11
 have yf:=HZ.out.2.1
 go_wp2
 refine bodyPost_ret (v:= .agg #[false,(),false,.slice a2 z2 c2,false,false,(),false,(),true,false]) (by simp [results,results67,go_sem,y0,y1,y2,y3,y4,y5,y6,y7,y8,y9,y10]) rfl ?_
 exact ⟨_,rfl,⟨false,none,0,[],false,a2,c2,z2,false,none,0,[],false,none,0,[],true,rfl,MIs.zero _ _,HM.out.setAll [false,(),false,.slice a2 z2 c2,false,false,(),false,(),true,false] w1 0 HN.out (by simp [ζh]),.inr ⟨rfl,rfl,rfl⟩⟩,ζd (vs:=[↑false,↑(),↑false,.slice a2 z2 c2,↑false,↑false,↑(),↑false,↑(),↑true,↑false]) (b:=w.heap.size) (by omega) w1 0 HB.out⟩
theorem χp (u:Value) (n:Nat) (A B C:Int) (w:World) (hu:ζF w u n A B C):
 Calls prog 105 #[u] w fun o w'=>o= .returned (.bool (decide (A=0∧B=0∧C=0)))∧Below w w w':=by
 obtain ⟨gu1,au1,cu1,zu1,gu2,au2,cu2,zu2,gu3,au3,cu3,zu3,rfl,h1,h2,h3⟩:=hu
 have e1:=h1.zero_iff
 have e2:=h2.zero_iff
 have e3:=h3.zero_iff
 have HD:Hid (decide (A=0∧B=0∧C=0)=(decide (zu1.length=0) && (decide (zu2.length=0) && decide (zu3.length=0)))):=by
  unfold Hid
  simp only [e1,e2,e3]
  by_cases q1:A=0<;>by_cases q2:B=0<;>by_cases q3:C=0<;>simp [q1,q2,q3]
 clear h1 h2 h3 e1 e2 e3
 have hcs: ∀l:Nat,(((l:Int)==0)=true∧decide (l=0)=true)∨(((l:Int)==0)=false∧decide (l=0)=false):=by
  intro l
  rcases Nat.eq_zero_or_pos l with h|h
  ·left;subst h;exact ⟨rfl,rfl⟩
  ·right;exact ⟨by rw [beq_eq_false_iff_ne];omega,by simp;omega⟩
 rcases hcs zu1.length with ⟨k1,d1⟩| ⟨k1,d1⟩<;>rcases hcs zu2.length with ⟨k2,d2⟩| ⟨k2,d2⟩<;>rcases hcs zu3.length with ⟨k3,d3⟩| ⟨k3,d3⟩
 all_goals
  have HE:Hid (decide (A=0∧B=0∧C=0)=_):=HD.out.trans (by rw [d1,d2,d3])
  clear HD hcs d1 d2 d3
  go_enter func105,ntmps105
  go_wp2
  go_ret
  exact ⟨by rw [HE.out];rfl,ζc _ _⟩
end Go.Proofs.YtfieffpobgcpmaaGreatDoor
