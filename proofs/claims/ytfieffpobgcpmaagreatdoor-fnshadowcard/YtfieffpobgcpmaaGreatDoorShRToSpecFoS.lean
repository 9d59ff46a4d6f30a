import Derived.Test.YtfieffpobgcpmaaGreatDoorShPQS
import Derived.Test.YtfieffpobgcpmaaGreatDoorWithinToImVS
import Derived.Deep.MidRow
import Derived.Test.YtfieffpobgcpmaaGreatDoorBoxToNumSS
import Derived.Deep.QuietTactic
import Derived.BigQuiet
import Derived.Test.YtfieffpobgcpmaaGreatDoorDy2NumDNumFNumGS
import Derived.Test.YtfieffpobgcpmaaGreatDoorBgIBgJBhACsASh0S
import Derived.Deep.CutRange
import Derived.Test.YtfieffpobgcpmaaGreatDoorDyN2ToEsFS
import Derived.Test.YtfieffpobgcpmaaGreatDoorWiGToMdAS
import Derived.Test.YtfieffpobgcpmaaGreatDoorDy1ToRkBS
import Derived.Test.YtfieffpobgcpmaaGreatDoorDetOToMdSS
set_option maxRecDepth 100000
set_option maxHeartbeats 32000000
namespace Go.Proofs.YtfieffpobgcpmaaGreatDoor
open Go.RowKit Go.Proofs.Tryz
variable {P:Nat} {w w' W W':World}
theorem θr (t0 t1 t2 t3 t4 t5 t6 t7 t8 s0 s1 s2 s3 s4 s5 u0 u1 u2 u3 u4 u5 u6 u7 u8 l0 l1 l2:Int) (w:World) (ht:U32 [t0,t1,t2,t3,t4,t5,t6,t7,t8,s0,s1,s2,s3,s4,s5,l0,l1,l2]) (hu:U32 [u0,u1,u2,u3,u4,u5,u6,u7,u8,s0,s1,s2,s3,s4,s5]) (ok:Bool) (hok:ok=((ζa t0 t1 t2 && ζa t3 t4 t5 && ζa t6 t7 t8) && (ζa u0 u1 u2 && ζa u3 u4 u5 && ζa u6 u7 u8) && (ζa s0 s1 s2 && ζa s3 s4 s5 && !(ζD s3 s4 s5)) && ζa l0 l1 l2)):
 Calls prog 22 #[.agg #[t0,t1,t2,t3,t4,t5,t6,t7,t8],.agg #[s0,s1,s2,s3,s4,s5],.agg #[u0,u1,u2,u3,u4,u5,u6,u7,u8],.agg #[l0,l1,l2]] w fun o w'=>ShdO w ok (ζs (pv u0 u1 u2) (pv u3 u4 u5) (pv u6 u7 u8) (pv s0 s1 s2) (pv s3 s4 s5)) (φG (pv t0 t1 t2) (pv t3 t4 t5) (pv t6 t7 t8) (pv s0 s1 s2) (pv s3 s4 s5) (pv l0 l1 l2)) o w':=by
 have HT:=Hid.mk ht
 have HU:=Hid.mk hu
 have HL:=Hid.mk ht
 have HD0:Hid (Sh4 w [t0,t1,t2,t3,t4,t5,t6,t7,t8] [s0,s1,s2,s3,s4,s5] [u0,u1,u2,u3,u4,u5,u6,u7,u8] [l0,l1,l2] ((((w.alloc (.cells #[t0,t1,t2,t3,t4,t5,t6,t7,t8] 36)).alloc (.cells #[s0,s1,s2,s3,s4,s5] 39)).alloc (.cells #[u0,u1,u2,u3,u4,u5,u6,u7,u8] 36)).alloc (.cells #[l0,l1,l2] 34))):=Sh4.start w _ _ _ _ _ _ _ _
 have HO:=Hid.mk hok
 clear ht hu hok
 go_enter func22,ntmps22
 go_wp2_with fail
 refine (ηs t0 t1 t2 t3 t4 t5 t6 t7 t8 _ (HT.out t0 (by simp)).1 (HT.out t0 (by simp)).2 (HT.out t1 (by simp)).1 (HT.out t1 (by simp)).2 (HT.out t2 (by simp)).1 (HT.out t2 (by simp)).2 (HT.out t3 (by simp)).1 (HT.out t3 (by simp)).2 (HT.out t4 (by simp)).1 (HT.out t4 (by simp)).2 (HT.out t5 (by simp)).1 (HT.out t5 (by simp)).2 (HT.out t6 (by simp)).1 (HT.out t6 (by simp)).2 (HT.out t7 (by simp)).1 (HT.out t7 (by simp)).2 (HT.out t8 (by simp)).1 (HT.out t8 (by simp)).2).mono ?_
 rintro o w1 ⟨rfl,hb⟩
 have HD1:=Hid.mk (HD0.out.later hb)
 clear hb HD0
 cases hA:(ζa t0 t1 t2 && ζa t3 t4 t5 && ζa t6 t7 t8)
 ·rw [hA] at HO
  simp only [Bool.false_and] at HO
  clear hA
  go_wp2
  refine bodyPost_ret (v:= .tuple #[false,.int .i64 1]) (by simp [results,results22,go_sem]) rfl ?_
  exact .bad HD1.out.bel (.inl HO.out)
 rw [hA] at HO
 clear hA
 obtain ⟨x0,x1,x2,x3,x4,x5⟩:=HD1.out.r.c6
 go_wp2_with fail
 refine (κI s0 s1 s2 s3 s4 s5 _ (HU.out s0 (by simp)).1 (HU.out s0 (by simp)).2 (HU.out s1 (by simp)).1 (HU.out s1 (by simp)).2 (HU.out s2 (by simp)).1 (HU.out s2 (by simp)).2 (HU.out s3 (by simp)).1 (HU.out s3 (by simp)).2 (HU.out s4 (by simp)).1 (HU.out s4 (by simp)).2 (HU.out s5 (by simp)).1 (HU.out s5 (by simp)).2).mono ?_
 rintro o w2 ⟨rfl,hb⟩
 have HD2:=Hid.mk (HD1.out.later hb)
 clear hb HD1 x0 x1 x2 x3 x4 x5
 cases hA:(ζa s0 s1 s2 && ζa s3 s4 s5 && !(ζD s3 s4 s5))
 ·rw [hA] at HO
  simp only [Bool.and_false,Bool.false_and] at HO
  clear hA
  go_wp2
  refine bodyPost_ret (v:= .tuple #[false,.int .i64 1]) (by simp [results,results22,go_sem]) rfl ?_
  exact .bad HD2.out.bel (.inl HO.out)
 rw [hA] at HO
 clear hA
 obtain ⟨x0,x1,x2,x3,x4,x5,x6,x7,x8⟩:=HD2.out.h.c9
 go_wp2_with fail
 refine (ηs u0 u1 u2 u3 u4 u5 u6 u7 u8 _ (HU.out u0 (by simp)).1 (HU.out u0 (by simp)).2 (HU.out u1 (by simp)).1 (HU.out u1 (by simp)).2 (HU.out u2 (by simp)).1 (HU.out u2 (by simp)).2 (HU.out u3 (by simp)).1 (HU.out u3 (by simp)).2 (HU.out u4 (by simp)).1 (HU.out u4 (by simp)).2 (HU.out u5 (by simp)).1 (HU.out u5 (by simp)).2 (HU.out u6 (by simp)).1 (HU.out u6 (by simp)).2 (HU.out u7 (by simp)).1 (HU.out u7 (by simp)).2 (HU.out u8 (by simp)).1 (HU.out u8 (by simp)).2).mono ?_
 rintro o w3 ⟨rfl,hb⟩
 have HD3:=Hid.mk (HD2.out.later hb)
 clear hb HD2 x0 x1 x2 x3 x4 x5 x6 x7 x8
 cases hA:(ζa u0 u1 u2 && ζa u3 u4 u5 && ζa u6 u7 u8)
 ·rw [hA] at HO
  simp only [Bool.and_false,Bool.false_and] at HO
  clear hA
  go_wp2
  refine bodyPost_ret (v:= .tuple #[false,.int .i64 1]) (by simp [results,results22,go_sem]) rfl ?_
  exact .bad HD3.out.bel (.inl HO.out)
 rw [hA] at HO
 clear hA
 have x0:=HD3.out.l.at 0 rfl
 have x1:=HD3.out.l.at 1 rfl
 have x2:=HD3.out.l.at 2 rfl
 go_wp2_with fail
 refine (ξt l0 l1 l2 _ (HL.out l0 (by simp)).1 (HL.out l0 (by simp)).2 (HL.out l1 (by simp)).1 (HL.out l1 (by simp)).2 (HL.out l2 (by simp)).1 (HL.out l2 (by simp)).2).mono ?_
 rintro o w4 ⟨rfl,hb⟩
 have HD4:=Hid.mk (HD3.out.later hb)
 clear hb HD3 x0 x1 x2
 cases hA:ζa l0 l1 l2
 ·rw [hA] at HO
  simp only [Bool.and_false] at HO
  clear hA
  go_wp2
  refine bodyPost_ret (v:= .tuple #[false,.int .i64 1]) (by simp [results,results22,go_sem]) rfl ?_
  exact .bad HD4.out.bel (.inl HO.out)
 rw [hA] at HO
 clear hA
 obtain ⟨x0,x1,x2,x3,x4,x5⟩:=HD4.out.r.c6
 obtain ⟨y0,y1,y2,y3,y4,y5,y6,y7,y8⟩:=HD4.out.h.c9
 go_wp2_with fail
 refine (σW u0 u1 u2 u3 u4 u5 u6 u7 u8 s0 s1 s2 s3 s4 s5 _ HU.out).mono ?_
 rintro o w5 (⟨v,a,b,c,d,rfl,hf,hS,hb⟩| ⟨rfl,hn,hb⟩)
 case inr=>
  have HNo:=Hid.mk hn
  clear hn
  unfold τl
  have HN:Hid (∃w6,World.setCells (w5.alloc (.cells #[false,(),false,(),false] 74)) w5.heap.size 0 (Array.toList #[false,(),false,(),true])=w6∧Below w5.heap.size w5 w6∧Cs w6 w5.heap.size [false,(),false,(),true]):=by
   refine ⟨_,rfl,?_⟩
   rw [show World.setCells (w5.alloc (.cells #[false,(),false,(),false] 74)) w5.heap.size 0 (Array.toList #[false,(),false,(),true])=setAll (w5.alloc (.cells #[false,(),false,(),false] 74)) w5.heap.size 0 [false,(),false,(),true] from ζg _ _ _ _]
   exact ⟨ζd (Nat.le_refl _) [false,(),false,(),true] _ 0 (ζc _ _),(Cs.new w5 #[false,(),false,(),false] 74).whole [false,(),false,(),true] rfl⟩
  have HZ:Hid (Cs (w5.alloc (.cells #[false,(),false,(),false] 74)) w5.heap.size [false,(),false,(),false]):=Cs.new _ _ _
  obtain ⟨w6,e6,b6,hq⟩:=HN.out
  have HE6:=Hid.mk e6
  have HQ:=Hid.mk hq
  have HD6:=Hid.mk ((HD4.out.later hb).later b6)
  clear HN hq e6 b6 hb HD4 y0 y1 y2 y3 y4 y5 y6 y7 y8 x0 x1 x2 x3 x4 x5
  obtain ⟨q0,q1,q2,q3,q4⟩:=HQ.out.c5
  go_wp2_with (refine wpList_store_mid rfl 74 (.tmp 10) (.tmp 31) rfl w5.heap.size 0 #[false,(),false,(),true] rfl rfl (HZ.out.there 0 5 (by simp)) (by kernel_rfl) (all_oneCell_toArray (by simp [Value.oneCell'])) ?_;rw [HE6.out])
  clear HZ HE6
  refine bodyPost_ret (v:= .tuple #[false,.int .i64 1]) (by simp [results,results22,go_sem]) rfl ?_
  exact .bad HD6.out.bel (.inr HNo.out)
 have HSp:=Hid.mk hS
 have HFr:=Hid.mk hf
 obtain ⟨gn,an,cn,zn,gd,ad,cd,zd,rfl,_,_⟩:=hf
 clear hS
 have HN:Hid (∃w6,World.setCells (w5.alloc (.cells #[false,(),false,(),false] 74)) w5.heap.size 0 (Array.toList #[gn,.slice an zn.length cn,gd,.slice ad zd.length cd,false])=w6∧Below w5.heap.size w5 w6∧Cs w6 w5.heap.size [gn,.slice an zn.length cn,gd,.slice ad zd.length cd,false]):=by
  refine ⟨_,rfl,?_⟩
  rw [show World.setCells (w5.alloc (.cells #[false,(),false,(),false] 74)) w5.heap.size 0 (Array.toList #[gn,.slice an zn.length cn,gd,.slice ad zd.length cd,false])=setAll (w5.alloc (.cells #[false,(),false,(),false] 74)) w5.heap.size 0 [gn,.slice an zn.length cn,gd,.slice ad zd.length cd,false] from ζg _ _ _ _]
  exact ⟨ζd (Nat.le_refl _) [gn,.slice an zn.length cn,gd,.slice ad zd.length cd,false] _ 0 (ζc _ _),(Cs.new w5 #[false,(),false,(),false] 74).whole [gn,.slice an zn.length cn,gd,.slice ad zd.length cd,false] rfl⟩
 have HZ:Hid (Cs (w5.alloc (.cells #[false,(),false,(),false] 74)) w5.heap.size [false,(),false,(),false]):=Cs.new _ _ _
 obtain ⟨w6,e6,b6,hq⟩:=HN.out
 have HE6:=Hid.mk e6
 have HQ:=Hid.mk hq
 have HD6:=Hid.mk ((HD4.out.later hb).later b6)
 have HF6:=Hid.mk (HFr.out.later b6)
 clear HFr
 clear HN hq e6 b6 hb HD4 y0 y1 y2 y3 y4 y5 y6 y7 y8 x0 x1 x2 x3 x4 x5
 obtain ⟨q0,q1,q2,q3,q4⟩:=HQ.out.c5
 obtain ⟨y0,y1,y2,y3,y4,y5,y6,y7,y8⟩:=HD6.out.t.c9
 obtain ⟨x0,x1,x2,x3,x4,x5⟩:=HD6.out.r.c6
 have z0:=HD6.out.l.at 0 rfl
 have z1:=HD6.out.l.at 1 rfl
 have z2:=HD6.out.l.at 2 rfl
 go_wp2_with (refine wpList_store_mid rfl 74 (.tmp 10) (.tmp 31) rfl w5.heap.size 0 #[gn,.slice an zn.length cn,gd,.slice ad zd.length cd,false] rfl rfl (HZ.out.there 0 5 (by simp)) (by kernel_rfl) (all_oneCell_toArray (by simp [Value.oneCell'])) ?_;rw [HE6.out])
 clear HZ HE6
 refine (ωv t0 t1 t2 t3 t4 t5 t6 t7 t8 s0 s1 s2 s3 s4 s5 l0 l1 l2 _ a b _ HT.out HF6.out HSp.out.hb).mono ?_
 rintro o w7 ⟨g,rfl,hg,hb⟩
 have HB:Hid (Below w.heap.size w w7):=HD6.out.bel.trans (hb.mono HD6.out.bel.size)
 have HG:=Hid.mk hg
 clear hb hg HD6 HQ HF6 q0 q1 q2 q3 q4 y0 y1 y2 y3 y4 y5 y6 y7 y8 x0 x1 x2 x3 x4 x5 z0 z1 z2
 go_wp2
 refine bodyPost_ret (v:= .tuple #[g,.int .i64 0]) (by simp [results,results22,go_sem]) rfl ?_
 exact ⟨HB.out,.inr ⟨HO.out,a,b,c,d,g,HSp.out,HG.out,rfl⟩⟩
structure ζm (P:Nat) (w w':World):Prop where
 os:w'.os=w.os
 tape:w'.tape=w.tape
 output:w'.output=w.output
 size:w.heap.size<=w'.heap.size
 block: ∀k,k<w.heap.size->k≠P->w'.heap[k]? =w.heap[k]?
theorem ζm.trans {a b c:World} (h:ζm P a b) (k:ζm P b c):ζm P a c:=
 ⟨k.os.trans h.os,k.tape.trans h.tape,k.output.trans h.output,Nat.le_trans h.size k.size,fun i hi hp=>(k.block i (Nat.lt_of_lt_of_le hi h.size) hp).trans (h.block i hi hp)⟩
theorem ζm.of (h:Below w.heap.size w w'):ζm P w w':=⟨h.os,h.tape,h.output,h.size,fun k hk _=>h.block k hk⟩
theorem ζm.set (h:ζm P w w') (j:Nat) (v:Value):ζm P w (w'.setCell ⟨P,j,none⟩ v):=by
 have hb:ψ5 P (P+1) w' (w'.setCell ⟨P,j,none⟩ v):=(ψ5.refl P (P+1) w').setCell (p:=⟨P,j,none⟩) (Nat.le_refl _) (Nat.lt_succ_self _) v
 exact ⟨hb.os.trans h.os,hb.tape.trans h.tape,hb.output.trans h.output,by rw [hb.size];exact h.size,fun k hk hp=>(hb.block k (by omega)).trans (h.block k hk hp)⟩
theorem ζm.setHigh (h:ζm P w w') {p:Addr} (hp:w.heap.size<=p.block) (v:Value):ζm P w (w'.setCell p v):=by
 have hb:ψ5 p.block (p.block+1) w' (w'.setCell p v):=(ψ5.refl _ _ _).setCell (Nat.le_refl _) (Nat.lt_succ_self _) v
 exact ⟨hb.os.trans h.os,hb.tape.trans h.tape,hb.output.trans h.output,by rw [hb.size];exact h.size,fun k hk hp'=>(hb.block k (by omega)).trans (h.block k hk hp')⟩
theorem ζm.below {B:Nat} (h:ζm P w w') (hB:B<=P) (hS:B<=w.heap.size):Below B w w':=
 ⟨h.os,h.tape,h.output,h.size,fun k hk=>h.block k (by omega) (by omega)⟩
theorem ζm.cell (h:ζm P w w') {p:Addr} (hp:p.block<w.heap.size) (hq:p.block≠P):w'.cell? p=w.cell? p:=World.cell?_of_block (w:=w) (h.block p.block hp hq)
theorem ζm.frozen (h:ζm P w w') {p:Addr} (hp:p.block<w.heap.size) (hq:p.block≠P):w'.frozen? p=w.frozen? p:=World.frozen?_of_block (w:=w) (h.block p.block hp hq)
theorem ζm.row {k:IntKind} {a:Option Addr} {zs:List Int} (h:ζm P w w') (hr:ζk k w a zs) (hp: ∀b off,a=some ⟨b,off,none⟩->zs≠[]->b≠P):ζk k w' a zs:=by
 by_cases e:zs=[]
 ·exact .inl e
 ·rcases hr with hr| ⟨b,off,h1,h2,h3⟩
  ·exact .inl hr
  ·exact .inr ⟨b,off,h1,Nat.lt_of_lt_of_le h2 h.size,fun j hj=>(h.cell (p:=⟨b,off+j,none⟩) h2 (hp b off h1 e)).trans (h3 j hj)⟩
structure Rd (P:Nat) (W:World):Prop where
 ex: ∃(a:Option Addr) (c:Nat) (bs:List Int) (i:Nat),W.cell? ⟨P,0,none⟩=some (.slice a bs.length c)∧W.cell? ⟨P,1,none⟩=some (.int .i64 i)∧i<=bs.length∧bs.length<=500∧ζk .u8 W a bs∧(∀b off,a=some ⟨b,off,none⟩->bs≠[]->b<P)∧Dig 256 bs
 free: ∀j,W.frozen? ⟨P,j,none⟩=false
 lt:P<W.heap.size
theorem Rd.later (h:Rd P W) (hb:Below W.heap.size W W'):Rd P W':=by
 obtain ⟨⟨a,c,bs,i,h1,h2,h3,h4,h5,h6,h7⟩,hf,hl⟩:=h
 exact ⟨⟨a,c,bs,i,(hb.cell (p:=⟨P,0,none⟩) hl).trans h1,(hb.cell (p:=⟨P,1,none⟩) hl).trans h2,h3,h4,h5.later hb,h6,h7⟩,fun j=>(hb.frozen (p:=⟨P,j,none⟩) hl).trans (hf j),Nat.lt_of_lt_of_le hl hb.size⟩
theorem Rd.above {B:Nat} (h:Rd P W) (hb:Below B W W') (hB:P<B):Rd P W':=by
 obtain ⟨⟨a,c,bs,i,h1,h2,h3,h4,h5,h6,h7⟩,hf,hl⟩:=h
 refine ⟨⟨a,c,bs,i,(hb.cell (p:=⟨P,0,none⟩) hB).trans h1,(hb.cell (p:=⟨P,1,none⟩) hB).trans h2,h3,h4,?_,h6,h7⟩,fun j=>(hb.frozen (p:=⟨P,j,none⟩) hB).trans (hf j),Nat.lt_of_lt_of_le hl hb.size⟩
 by_cases e:bs=[]
 ·exact .inl e
 ·rcases h5 with h5| ⟨b,off,g1,g2,g3⟩
  ·exact .inl h5
  ·have:=h6 b off g1 e
   exact .inr ⟨b,off,g1,Nat.lt_of_lt_of_le g2 hb.size,fun j hj=>(hb.cell (p:=⟨b,off+j,none⟩) (by simp;omega)).trans (g3 j hj)⟩
def ωw (P:Nat) (w:World) (e:Ending) (w':World):Prop:= ∃v:Int,e= .returned (.int .i64 v)∧0<=v∧v<=255∧Rd P w'∧ζm P w w'
theorem ξJ (P:Nat) (w:World) (h:Rd P w):
 Calls prog 47 #[.pointer (some ⟨P,0,none⟩)] w fun e w'=>ωw P w e w':=by
 have HH:Hid (Rd P w):=h
 obtain ⟨⟨a,c,bs,i,h1,h2,h3,h4,h5,h6,h7⟩,hf,hl⟩:=h
 by_cases hi:i<bs.length
 ·obtain ⟨b,off,rfl,g1⟩:=ζq h5 (Below.refl _ _) hi
  have hb:=h7.at (by decide) i
  obtain ⟨y,hy⟩: ∃y,y=bs.getD i 0:=⟨_,rfl⟩
  rw [<-hy] at hb g1
  obtain ⟨hb0,hb1⟩:=hb
  have hge: ¬((i:Int)≥bs.length):=by omega
  have hlt:(i:Int)<bs.length:=by omega
  have HO:Hid (∀W,Below w.heap.size w W->ωw P w (.returned (.int .i64 y)) (W.setCell ⟨P,1,none⟩ (.int .i64 ((i:Int)+1)))):=by
   intro W hW
   have c1:W.cell? ⟨P,0,none⟩=some (.slice (some ⟨b,off,none⟩) bs.length c):=(hW.cell (p:=⟨P,0,none⟩) hl).trans h1
   have c2:W.cell? ⟨P,1,none⟩=some (.int .i64 i):=(hW.cell (p:=⟨P,1,none⟩) hl).trans h2
   refine ⟨y,rfl,hb0,by omega,⟨⟨some ⟨b,off,none⟩,c,bs,i+1,?_,?_,by omega,h4,?_,h6,h7⟩,fun j=>by rw [World.frozen?_setCell];exact (hW.frozen (p:=⟨P,j,none⟩) hl).trans (hf j),by have:=hW.size;simp;omega⟩,(ζm.of hW).set 1 _⟩
   ·rw [World.cell?_setCell_other _ _ _ _ (by simp)];exact c1
   ·rw [World.cell?_setCell_same _ _ _ c2];simp
   ·have hbP:=h6 b off rfl (by intro e;rw [e] at hi;simp at hi)
    exact ((ζm.of (P:=P) hW).set 1 _).row h5 (fun b' off' e _=>by have:=congrArg Addr.block (Option.some.inj e);simp at this;omega)
  clear h5 h6 h7 hy HH
  go_enter func47,ntmps47
  go_wp2
  go_quiet (fail)
  go_wp2
  go_quiet (fail)
  go_wp2
  go_ret
  exact HO.out _ (by first|exact below_drewN (below_drewN (Below.refl _ _) _) _|exact below_drewN (Below.refl _ _) _)
 ·have hge:(bs.length:Int)<=i:=by omega
  have HO:Hid (∀W,Below w.heap.size w W->ωw P w (.returned (.int .i64 0)) W):=fun W hW=>⟨0,rfl,by decide,by decide,HH.out.later hW,ζm.of hW⟩
  clear h5 h6 h7 HH
  go_enter func47,ntmps47
  go_wp2
  go_quiet (fail)
  go_wp2
  go_ret
  exact HO.out _ (below_drewN (Below.refl _ _) _)
def ωx (w:World) (e:Ending) (w':World):Prop:=e= .returned (.pointer (some ⟨w.heap.size,0,none⟩))∧Rd w.heap.size w'∧Below w.heap.size w w'∧w'.heap.size=w.heap.size+1
theorem σY (w:World) (a:Option Addr) (n c:Nat) (bs:List Int) (t:TypeId) (hn:n=bs.length) (h5:bs.length<=500) (hb:Dig 256 bs) (hr:ζk .u8 w a bs):ωx w (.returned (.pointer (some ⟨w.heap.size,0,none⟩))) (w.alloc (.cells #[.slice a n c,.int .i64 0] t)):=by
 subst hn
 refine ⟨rfl,⟨⟨a,c,bs,0,by simp [go_sem],by simp [go_sem],by omega,h5,hr.later (ζc _ _),?_,hb⟩,fun j=>by simp [go_sem],by simp⟩,ζc _ _,by simp⟩
 intro b off e hne
 rcases hr with hr| ⟨b',off',g1,g2,_⟩
 ·exact absurd hr hne
 ·rw [e] at g1
  have:=congrArg Addr.block (Option.some.inj g1)
  simp at this
  omega
theorem τo (a:Option Addr) (c:Nat) (bs:List Int) (w:World) (hn:bs.length<=1048576) (hc:bs.length<=c) (hcm:c<=maxLen) (hnil:a=none->c=0) (hr:ζk .u8 w a bs) (hb:Dig 256 bs):
 Calls prog 46 #[.slice a bs.length c] w fun e w'=>ωx w e w':=by
 unfold maxLen at hcm
 by_cases h5:500<bs.length
 ·have HO:Hid (∀t,ωx w (.returned (.pointer (some ⟨w.heap.size,0,none⟩))) (w.alloc (.cells #[.slice a 500 c,.int .i64 0] t))):=fun t=>
   σY w a 500 c (bs.take 500) t (by rw [List.length_take];omega) (by rw [List.length_take];omega) (hb.take 500) (hr.take 500)
  cases a with
  |none=>have:=hnil rfl;omega
  |some x=>
   clear hr hb
   go_enter func46,ntmps46
   go_wp2
   go_ret
   exact HO.out _
 ·have HO:Hid (∀t,ωx w (.returned (.pointer (some ⟨w.heap.size,0,none⟩))) (w.alloc (.cells #[.slice a bs.length c,.int .i64 0] t))):=fun t=>
   σY w a bs.length c bs t rfl (by omega) hb hr
  cases a with
  |none=>
   have h0:=hnil rfl
   subst h0
   have hl:bs.length=0:=by omega
   rw [hl] at HO⊢
   clear hr hb
   go_enter func46,ntmps46
   go_wp2
   go_ret
   exact HO.out _
  |some x=>
   clear hr hb
   go_enter func46,ntmps46
   go_wp2
   go_ret
   exact HO.out _
def zR (n:Nat):List Value:=List.replicate n (.int .u32 0)
def PtW (P:Nat) (w:World) (e:Ending) (w':World):Prop:= ∃x y z:Int,U32 [x,y,z]∧e= .returned (.agg #[x,y,z])∧Rd P w'∧ζm P w w'
def σZ (P:Nat) (w:World) (e:Ending) (w':World):Prop:= ∃b:Int,e= .returned b∧0<=b∧b<4294967296∧Rd P w'∧ζm P w w'
theorem Rd.setW (h:Rd P W) {k:Nat} (hk:P<k) (j:Nat) (v:Value):Rd P (W.setCell ⟨k,j,none⟩ v):=
 h.above (Below.setCell (B:=k) (Below.refl _ _) (by simp) v) hk
theorem Cs.aside {b:Nat} {us:List Value} (h:Cs W b us) (ha:ζm P W W') (hP:P<b):Cs W' b us:=
 ⟨Nat.lt_of_lt_of_le h.1 ha.size,fun j=>(ha.frozen (p:=⟨b,j,none⟩) h.1 (by simp;omega)).trans (h.2.1 j),fun j u hj=>(ha.cell (p:=⟨b,0+j,none⟩) h.1 (by simp;omega)).trans (h.2.2 j u hj)⟩
theorem U32.nil:U32 []:=fun _ h=>nomatch h
theorem U32.cons {x:Int} {xs:List Int} (h:0<=x∧x<4294967296) (hx:U32 xs):U32 (x::xs):=by
 intro z hz
 rcases List.mem_cons.mp hz with rfl|hz
 ·exact h
 ·exact hx z hz
theorem ωy {b:Nat} {zs:List Int} (h:Cs W b (zs.map (Value.int .u32))) (hu:U32 zs) (j:Nat) (hj:j<zs.length): ∃y,W.cell? ⟨b,j,none⟩=some (.int .u32 y)∧0<=y∧y<4294967296:=
 ⟨zs[j],h.at j (by simp [hj]),hu _ (List.getElem_mem hj)⟩
theorem ηL (op:BinOp) (a b:Int):0<=bits op .u32 a b∧bits op .u32 a b<4294967296:=by
 unfold bits
 simp only [IntKind.wrap,IntKind.bits,IntKind.signed]
 simp
 omega
theorem τp (b:Int) (w:World):
 Calls prog 101 #[b] w fun e w'=>(∃f,e= .returned (.bool f))∧Below w.heap.size w w':=by
 go_enter func101,ntmps101
 go_wp2
 go_ret
 exact ⟨⟨_,rfl⟩,Below.refl _ _⟩
theorem χv (P:Nat) (wild:Bool) (w:World) (h:Rd P w):
 Calls prog 100 #[.pointer (some ⟨P,0,none⟩),wild] w fun e w'=>σZ P w e w':=by
 have HS:Hid (Rd P w):=h
 clear h
 go_enter func100,ntmps100
 go_wp2_with fail
 refine (ξJ P _ HS.out).mono ?_
 rintro e w1 ⟨k,rfl,hk0,hk1,hr1,ha1⟩
 have HR1:Hid (Rd P w1):=hr1
 have HA1:Hid (ζm P w w1):=ha1
 obtain ⟨y,gy,hy0,hy1⟩:=ωy (zs:=[0,1065353216,1073741824,1077936128,1082130432,1084227584,1086324736,3212836864,3221225472,3225419776,1056964608,2147483648]) (Cs.new w1 #[.int .u32 0,.int .u32 1065353216,.int .u32 1073741824,.int .u32 1077936128,.int .u32 1082130432,.int .u32 1084227584,.int .u32 1086324736,.int .u32 3212836864,.int .u32 3221225472,.int .u32 3225419776,.int .u32 1056964608,.int .u32 2147483648] 22) (by unfold U32;decide) (k%12).toNat (by simp;omega)
 have hj0:0<=k%12:=by omega
 have hj9:0<=k%12∧k%12<12:=by omega
 have hj8:k%12<12:=by omega
 have hjt:k.tmod 12=k%12:=Int.tmod_eq_emod_of_nonneg hk0
 clear hr1 ha1 HS
 by_cases hc:wild=false∨k<200
 ·have HO:Hid (∀W,Below w1.heap.size w1 W->σZ P w (.returned y) W):=fun W hW=>⟨y,rfl,hy0,hy1,HR1.out.later hW,HA1.out.trans (ζm.of hW)⟩
  rcases hc with rfl|hc
  ·go_wp2
   go_ret
   exact HO.out _ (ζc _ _)
  ·cases wild
   all_goals
    go_wp2
    go_ret
    exact HO.out _ (ζc _ _)
 have hw:wild=true:=by cases wild<;>simp_all
 have hk2: ¬k<200:=fun h=>hc (.inr h)
 subst hw
 clear gy hj0 hj8 hj9 hjt hy0 hy1 hc
 have hP1:=HR1.out.lt
 obtain ⟨W2,hW2⟩: ∃W2,W2=((w1.alloc (.cells #[.int .u32 0,.int .u32 1065353216,.int .u32 1073741824,.int .u32 1077936128,.int .u32 1082130432,.int .u32 1084227584,.int .u32 1086324736,.int .u32 3212836864,.int .u32 3221225472,.int .u32 3225419776,.int .u32 1056964608,.int .u32 2147483648] 22)).alloc (.cells #[.int .u32 1,.int .u32 2147483649,.int .u32 8388607,.int .u32 8388608,.int .u32 2139095039,.int .u32 4286578687,.int .u32 1065353217,.int .u32 872415232,.int .u32 2139095040,.int .u32 4286578688,.int .u32 2143289344,.int .u32 2139095041] 22)):=⟨_,rfl⟩
 have HC2:Hid (Cs W2 (w1.heap.size+1) [.int .u32 1,.int .u32 2147483649,.int .u32 8388607,.int .u32 8388608,.int .u32 2139095039,.int .u32 4286578687,.int .u32 1065353217,.int .u32 872415232,.int .u32 2139095040,.int .u32 4286578688,.int .u32 2143289344,.int .u32 2139095041]):=by
  have:=Cs.new (w1.alloc (.cells #[.int .u32 0,.int .u32 1065353216,.int .u32 1073741824,.int .u32 1077936128,.int .u32 1082130432,.int .u32 1084227584,.int .u32 1086324736,.int .u32 3212836864,.int .u32 3221225472,.int .u32 3225419776,.int .u32 1056964608,.int .u32 2147483648] 22)) #[.int .u32 1,.int .u32 2147483649,.int .u32 8388607,.int .u32 8388608,.int .u32 2139095039,.int .u32 4286578687,.int .u32 1065353217,.int .u32 872415232,.int .u32 2139095040,.int .u32 4286578688,.int .u32 2143289344,.int .u32 2139095041] 22
  unfold Hid;rw [hW2];simpa using this
 have hb2:Below w1.heap.size w1 W2:=by rw [hW2];exact ξr _ _ _
 have HR2:Hid (Rd P W2):=HR1.out.later hb2
 have HA2:Hid (ζm P w W2):=HA1.out.trans (ζm.of hb2)
 by_cases hc2:k<224
 ·obtain ⟨y,gy,hy0,hy1⟩:=ωy (zs:=[1,2147483649,8388607,8388608,2139095039,4286578687,1065353217,872415232,2139095040,4286578688,2143289344,2139095041]) HC2.out (by unfold U32;decide) (k%8).toNat (by simp;omega)
  have HO:Hid (σZ P w (.returned y) W2):=⟨y,rfl,hy0,hy1,HR2.out,HA2.out⟩
  have hj0:0<=k%8:=by omega
  have hj8:k%8<12:=by omega
  have hj9:0<=k%8∧k%8<12:=⟨hj0,hj8⟩
  have hjt:k.tmod 8=k%8:=Int.tmod_eq_emod_of_nonneg hk0
  rw [hW2] at gy
  rw [hW2] at HO
  clear hb2 hW2 HC2 HR2 HA2 HR1 HA1
  go_wp2
  go_ret
  exact HO.out
 have HN:Hid (Calls prog 47 #[.pointer (some ⟨P,0,none⟩)] ((w1.alloc (.cells #[.int .u32 0,.int .u32 1065353216,.int .u32 1073741824,.int .u32 1077936128,.int .u32 1082130432,.int .u32 1084227584,.int .u32 1086324736,.int .u32 3212836864,.int .u32 3221225472,.int .u32 3225419776,.int .u32 1056964608,.int .u32 2147483648] 22)).alloc (.cells #[.int .u32 1,.int .u32 2147483649,.int .u32 8388607,.int .u32 8388608,.int .u32 2139095039,.int .u32 4286578687,.int .u32 1065353217,.int .u32 872415232,.int .u32 2139095040,.int .u32 4286578688,.int .u32 2143289344,.int .u32 2139095041] 22)) fun e w'=>ωw P W2 e w'):=by
  have:=ξJ P W2 HR2.out
  unfold Hid;rw [<-hW2];exact this
 clear HR1 HA1 hb2
 by_cases hc3:k<226
 ·go_wp2_with fail
  refine HN.out.mono ?_
  rintro e w3 ⟨v,rfl,hv0,hv1,hr3,ha3⟩
  obtain ⟨y,gy,hy0,hy1⟩:=ωy (zs:=[1,2147483649,8388607,8388608,2139095039,4286578687,1065353217,872415232,2139095040,4286578688,2143289344,2139095041]) (HC2.out.aside ha3 (by omega)) (by unfold U32;decide) (8+v%4).toNat (by simp;omega)
  have HO:Hid (σZ P w (.returned y) w3):=⟨y,rfl,hy0,hy1,hr3,HA2.out.trans ha3⟩
  have hj0:0<=8+v%4:=by omega
  have hj8:8+v%4<12:=by omega
  have hj9:0<=8+v%4∧8+v%4<12:=⟨hj0,hj8⟩
  have hjt:v.tmod 4=v%4:=Int.tmod_eq_emod_of_nonneg hv0
  clear hW2 HC2 HR2 HA2 hr3 ha3 HN
  go_wp2
  go_ret
  exact HO.out
 go_wp2_with fail
 refine HN.out.mono ?_
 rintro e w3 ⟨v,rfl,hv0,hv1,hr3,ha3⟩
 have HR3:Hid (Rd P w3):=hr3
 have HA3:Hid (ζm P w w3):=HA2.out.trans ha3
 clear hW2 HC2 HR2 HA2 hr3 ha3 HN
 go_wp2_with fail
 refine (ξJ P _ HR3.out).mono ?_
 rintro e w4 ⟨u,rfl,hu0,hu1,hr4,ha4⟩
 have HR4:Hid (Rd P w4):=hr4
 have HA4:Hid (ζm P w w4):=HA3.out.trans ha4
 clear hr4 ha4 HR3 HA3
 go_wp2_with fail
 refine (τp _ _).mono ?_
 rintro e w5 ⟨⟨f,rfl⟩,hb5⟩
 have HO:Hid (∀a b,σZ P w (.returned (.int .u32 (bits .xor .u32 a b))) w5):=fun a b=>⟨_,rfl,(ηL _ a b).1,(ηL _ a b).2,HR4.out.later hb5,HA4.out.trans (ζm.of hb5)⟩
 clear hb5 HR4 HA4
 cases f
 all_goals
  go_wp2
  go_ret
  exact HO.out _ _
theorem φq (P:Nat) (wild:Bool) (w:World) (h:Rd P w):
 Calls prog 56 #[.pointer (some ⟨P,0,none⟩),wild] w fun e w'=>PtW P w e w':=by
 have hP:=h.lt
 have H0:Hid (Rd P w):=h
 clear h
 go_enter func56,ntmps56
 go_wp2_with fail
 refine (χv P wild _ (H0.out.later (ζc _ _))).mono ?_
 rintro e w1 ⟨x,rfl,x0,x1,hr,ha⟩
 have H1:Hid (Cs w1 w.heap.size (zR 3)∧Rd P w1∧ζm P w w1):=⟨(Cs.new _ _ _).aside ha hP,hr,(ζm.of (ζc _ _)).trans ha⟩
 clear hr ha
 go_wp2_with fail
 refine (χv P wild _ H1.out.2.1).mono ?_
 rintro e w2 ⟨y,rfl,y0,y1,hr,ha⟩
 have H2:Hid (Cs w2 w.heap.size (zR 3)∧Rd P w2∧ζm P w w2):=⟨H1.out.1.aside ha hP,hr,H1.out.2.2.trans ha⟩
 clear hr ha
 go_wp2_with fail
 refine (χv P wild _ H2.out.2.1).mono ?_
 rintro e w3 ⟨z,rfl,z0,z1,hr,ha⟩
 have H3:Hid (Cs w3 w.heap.size (zR 3)∧Rd P w3∧ζm P w w3):=⟨H2.out.1.aside ha hP,hr,H2.out.2.2.trans ha⟩
 have c0:=H3.out.1.at 0 rfl
 have c1:=H3.out.1.at 1 rfl
 have c2:=H3.out.1.at 2 rfl
 have cf:=H3.out.1.2.1
 clear hr ha H1 H2
 go_wp2
 refine bodyPost_ret (v:= .agg #[x,y,z]) (by simp [results,results56,go_sem,c0,c1,c2]) rfl ?_
 exact ⟨x,y,z,U32.cons ⟨x0,x1⟩ (U32.cons ⟨y0,y1⟩ (U32.cons ⟨z0,z1⟩ U32.nil)),rfl,by repeat (first|exact H3.out.2.1|refine Rd.setW ?_ hP _ _),by repeat (first|exact H3.out.2.2|refine ζm.setHigh ?_ (by simp) _)⟩
def TriW (P:Nat) (w:World) (e:Ending) (w':World):Prop:= ∃x0 x1 x2 x3 x4 x5 x6 x7 x8:Int,U32 [x0,x1,x2,x3,x4,x5,x6,x7,x8]∧e= .returned (.agg #[x0,x1,x2,x3,x4,x5,x6,x7,x8])∧Rd P w'∧ζm P w w'
theorem ηM (P:Nat) (wild:Bool) (w:World) (h:Rd P w):
 Calls prog 55 #[.pointer (some ⟨P,0,none⟩),wild] w fun e w'=>TriW P w e w':=by
 have hP:=h.lt
 have H0:Hid (Rd P w):=h
 clear h
 go_enter func55,ntmps55
 go_wp2_with fail
 refine (ξJ P _ (H0.out.later (ζc _ _))).mono ?_
 rintro e w1 ⟨k,rfl,hk0,hk1,hr,ha⟩
 have X1:Hid (Cs w1 w.heap.size (zR 9)∧True):=⟨(Cs.new _ _ _).aside ha hP,trivial⟩
 have H1:Hid (Rd P w1∧ζm P w w1):=⟨hr,(ζm.of (ζc _ _)).trans ha⟩
 have z1:w.heap.size<w1.heap.size:=X1.out.1.1
 clear hr ha H0
 go_wp2_with fail
 refine (φq P wild _ H1.out.1).mono ?_
 rintro e w2 ⟨a0,a1,a2,ua,rfl,hr,ha⟩
 obtain ⟨V2,hW⟩: ∃V,(w2.alloc (.cells #[a0,a1,a2] 34))=V:=⟨_,rfl⟩
 have bW:Below w2.heap.size w2 V2:=by rw [<-hW];exact ζc _ _
 have X2:Hid (Cs V2 w.heap.size (zR 9)∧Cs V2 w2.heap.size [a0,a1,a2]∧True):=⟨(X1.out.1.aside ha (by omega)).later bW,by rw [<-hW];exact Cs.new _ _ _,trivial⟩
 have H2:Hid (Rd P V2∧ζm P w V2):=⟨hr.later bW,(H1.out.2.trans ha).trans (ζm.of bW)⟩
 have z2:w1.heap.size<=w2.heap.size:=by have:=ha.size;omega
 have hV2:=hW
 clear hr ha bW hW X1 H1
 go_wp2_with fail
 clear hV2
 refine (φq P wild _ H2.out.1).mono ?_
 rintro e w3 ⟨b0,b1,b2,ub,rfl,hr,ha⟩
 obtain ⟨V3,hW⟩: ∃V,(w3.alloc (.cells #[b0,b1,b2] 34))=V:=⟨_,rfl⟩
 have bW:Below w3.heap.size w3 V3:=by rw [<-hW];exact ζc _ _
 have X3:Hid (Cs V3 w.heap.size (zR 9)∧Cs V3 w2.heap.size [a0,a1,a2]∧Cs V3 w3.heap.size [b0,b1,b2]∧True):=⟨(X2.out.1.aside ha (by omega)).later bW,(X2.out.2.1.aside ha (by omega)).later bW,by rw [<-hW];exact Cs.new _ _ _,trivial⟩
 have H3:Hid (Rd P V3∧ζm P w V3):=⟨hr.later bW,(H2.out.2.trans ha).trans (ζm.of bW)⟩
 have z3:w2.heap.size<w3.heap.size:=by have:=ha.size;have:=X2.out.2.1.1;omega
 have hV3:=hW
 clear hr ha bW hW X2 H2
 go_wp2_with fail
 clear hV3
 refine (φq P wild _ H3.out.1).mono ?_
 rintro e w4 ⟨c0,c1,c2,uc,rfl,hr,ha⟩
 obtain ⟨V4,hW⟩: ∃V,(w4.alloc (.cells #[c0,c1,c2] 34))=V:=⟨_,rfl⟩
 have bW:Below w4.heap.size w4 V4:=by rw [<-hW];exact ζc _ _
 have X4:Hid (Cs V4 w.heap.size (zR 9)∧Cs V4 w2.heap.size [a0,a1,a2]∧Cs V4 w3.heap.size [b0,b1,b2]∧Cs V4 w4.heap.size [c0,c1,c2]∧True):=⟨(X3.out.1.aside ha (by omega)).later bW,(X3.out.2.1.aside ha (by omega)).later bW,(X3.out.2.2.1.aside ha (by omega)).later bW,by rw [<-hW];exact Cs.new _ _ _,trivial⟩
 have H4:Hid (Rd P V4∧ζm P w V4):=⟨hr.later bW,(H3.out.2.trans ha).trans (ζm.of bW)⟩
 have z4:w3.heap.size<w4.heap.size:=by have:=ha.size;have:=X3.out.2.2.1.1;omega
 have hV4:=hW
 clear hr ha bW hW X3 H3
 go_upto_region 5 with fail
 skip
 clear hV4
 obtain ⟨b0x0,b0x1,b0x2,b0x3,b0x4,b0x5,b0x6,b0x7,b0x8⟩:=X4.out.1.c9
 have b0f:=X4.out.1.2.1
 have b1x0:=X4.out.2.1.at 0 rfl
 have b1x1:=X4.out.2.1.at 1 rfl
 have b1x2:=X4.out.2.1.at 2 rfl
 have b1f:=X4.out.2.1.2.1
 have b2x0:=X4.out.2.2.1.at 0 rfl
 have b2x1:=X4.out.2.2.1.at 1 rfl
 have b2x2:=X4.out.2.2.1.at 2 rfl
 have b2f:=X4.out.2.2.1.2.1
 have b3x0:=X4.out.2.2.2.1.at 0 rfl
 have b3x1:=X4.out.2.2.2.1.at 1 rfl
 have b3x2:=X4.out.2.2.2.1.at 2 rfl
 have b3f:=X4.out.2.2.2.1.2.1
 have m16:k.tmod 16=k%16:=Int.tmod_eq_emod_of_nonneg hk0
 have m4:k.tmod 4=k%4:=Int.tmod_eq_emod_of_nonneg hk0
 clear X4
 rcases (show k%16=0∧k%4≠1∨k%16≠0∧k%4=1∨k%16≠0∧k%4≠1 by omega) with ⟨h1,h2⟩| ⟨h1,h2⟩| ⟨h1,h2⟩
 ·go_wp2
  refine bodyPost_ret (v:= .agg #[a0,a1,a2,b0,b1,b2,a0,a1,a2]) (by simp [results,results55,go_sem,b0x0,b0x1,b0x2,b0x3,b0x4,b0x5,b0x6,b0x7,b0x8]) rfl ?_
  exact ⟨a0,a1,a2,b0,b1,b2,a0,a1,a2,U32.cons (ua _ (by simp)) (U32.cons (ua _ (by simp)) (U32.cons (ua _ (by simp)) (U32.cons (ub _ (by simp)) (U32.cons (ub _ (by simp)) (U32.cons (ub _ (by simp)) (U32.cons (ua _ (by simp)) (U32.cons (ua _ (by simp)) (U32.cons (ua _ (by simp)) (U32.nil))))))))),rfl,by (repeat (with_reducible refine Rd.setW ?_ (by omega) _ _));exact H4.out.1,by (repeat (with_reducible refine ζm.setHigh ?_ (by simp<;>omega) _));exact H4.out.2⟩
 ·go_wp2
  refine bodyPost_ret (v:= .agg #[a0,a1,a2,b0,b1,a2,c0,c1,a2]) (by simp [results,results55,go_sem,b0x0,b0x1,b0x2,b0x3,b0x4,b0x5,b0x6,b0x7,b0x8]) rfl ?_
  exact ⟨a0,a1,a2,b0,b1,a2,c0,c1,a2,U32.cons (ua _ (by simp)) (U32.cons (ua _ (by simp)) (U32.cons (ua _ (by simp)) (U32.cons (ub _ (by simp)) (U32.cons (ub _ (by simp)) (U32.cons (ua _ (by simp)) (U32.cons (uc _ (by simp)) (U32.cons (uc _ (by simp)) (U32.cons (ua _ (by simp)) (U32.nil))))))))),rfl,by (repeat (with_reducible refine Rd.setW ?_ (by omega) _ _));exact H4.out.1,by (repeat (with_reducible refine ζm.setHigh ?_ (by simp<;>omega) _));exact H4.out.2⟩
 ·go_wp2
  refine bodyPost_ret (v:= .agg #[a0,a1,a2,b0,b1,b2,c0,c1,c2]) (by simp [results,results55,go_sem,b0x0,b0x1,b0x2,b0x3,b0x4,b0x5,b0x6,b0x7,b0x8]) rfl ?_
  exact ⟨a0,a1,a2,b0,b1,b2,c0,c1,c2,U32.cons (ua _ (by simp)) (U32.cons (ua _ (by simp)) (U32.cons (ua _ (by simp)) (U32.cons (ub _ (by simp)) (U32.cons (ub _ (by simp)) (U32.cons (ub _ (by simp)) (U32.cons (uc _ (by simp)) (U32.cons (uc _ (by simp)) (U32.cons (uc _ (by simp)) (U32.nil))))))))),rfl,by (repeat (with_reducible refine Rd.setW ?_ (by omega) _ _));exact H4.out.1,by (repeat (with_reducible refine ζm.setHigh ?_ (by simp<;>omega) _));exact H4.out.2⟩
def RayW (P:Nat) (w:World) (e:Ending) (w':World):Prop:= ∃x0 x1 x2 x3 x4 x5:Int,U32 [x0,x1,x2,x3,x4,x5]∧e= .returned (.agg #[x0,x1,x2,x3,x4,x5])∧Rd P w'∧ζm P w w'
theorem τq (P:Nat) (wild:Bool) (w:World) (h:Rd P w):
 Calls prog 94 #[.pointer (some ⟨P,0,none⟩),wild] w fun e w'=>RayW P w e w':=by
 have hP:=h.lt
 have H0:Hid (Rd P w):=h
 clear h
 go_enter func94,ntmps94
 go_wp2_with fail
 refine (ξJ P _ (H0.out.later (ζc _ _))).mono ?_
 rintro e w1 ⟨k,rfl,hk0,hk1,hr,ha⟩
 have X1:Hid (Cs w1 w.heap.size (zR 6)∧True):=⟨(Cs.new _ _ _).aside ha hP,trivial⟩
 have H1:Hid (Rd P w1∧ζm P w w1):=⟨hr,(ζm.of (ζc _ _)).trans ha⟩
 have z1:w.heap.size<w1.heap.size:=X1.out.1.1
 clear hr ha H0
 go_wp2_with fail
 refine (φq P wild _ H1.out.1).mono ?_
 rintro e w2 ⟨a0,a1,a2,ua,rfl,hr,ha⟩
 obtain ⟨V2,hW⟩: ∃V,(w2.alloc (.cells #[a0,a1,a2] 34))=V:=⟨_,rfl⟩
 have bW:Below w2.heap.size w2 V2:=by rw [<-hW];exact ζc _ _
 have X2:Hid (Cs V2 w.heap.size (zR 6)∧Cs V2 w2.heap.size [a0,a1,a2]∧True):=⟨(X1.out.1.aside ha (by omega)).later bW,by rw [<-hW];exact Cs.new _ _ _,trivial⟩
 have H2:Hid (Rd P V2∧ζm P w V2):=⟨hr.later bW,(H1.out.2.trans ha).trans (ζm.of bW)⟩
 have z2:w1.heap.size<=w2.heap.size:=by have:=ha.size;omega
 have hV2:=hW
 clear hr ha bW hW X1 H1
 go_wp2_with fail
 clear hV2
 refine (φq P wild _ H2.out.1).mono ?_
 rintro e w3 ⟨b0,b1,b2,ub,rfl,hr,ha⟩
 obtain ⟨V3,hW⟩: ∃V,(w3.alloc (.cells #[b0,b1,b2] 34))=V:=⟨_,rfl⟩
 have bW:Below w3.heap.size w3 V3:=by rw [<-hW];exact ζc _ _
 have X3:Hid (Cs V3 w.heap.size (zR 6)∧Cs V3 w2.heap.size [a0,a1,a2]∧Cs V3 w3.heap.size [b0,b1,b2]∧True):=⟨(X2.out.1.aside ha (by omega)).later bW,(X2.out.2.1.aside ha (by omega)).later bW,by rw [<-hW];exact Cs.new _ _ _,trivial⟩
 have H3:Hid (Rd P V3∧ζm P w V3):=⟨hr.later bW,(H2.out.2.trans ha).trans (ζm.of bW)⟩
 have z3:w2.heap.size<w3.heap.size:=by have:=ha.size;have:=X2.out.2.1.1;omega
 have hV3:=hW
 clear hr ha bW hW X2 H2
 have m4:k.tmod 4=k%4:=Int.tmod_eq_emod_of_nonneg hk0
 have m8:k.tmod 8=k%8:=Int.tmod_eq_emod_of_nonneg hk0
 have m16:k.tmod 16=k%16:=Int.tmod_eq_emod_of_nonneg hk0
 obtain ⟨b0x0,b0x1,b0x2,b0x3,b0x4,b0x5⟩:=X3.out.1.c6
 have b0f:=X3.out.1.2.1
 have b1x0:=X3.out.2.1.at 0 rfl
 have b1x1:=X3.out.2.1.at 1 rfl
 have b1x2:=X3.out.2.1.at 2 rfl
 have b1f:=X3.out.2.1.2.1
 have b2x0:=X3.out.2.2.1.at 0 rfl
 have b2x1:=X3.out.2.2.1.at 1 rfl
 have b2x2:=X3.out.2.2.1.at 2 rfl
 have b2f:=X3.out.2.2.1.2.1
 go_upto_if 18 with fail
 go_cut [] from 19 to 35 (fun wx=> ∃d0 d1 d2:Int,Hid (U32 [d0,d1,d2]∧(Rd P wx∧ζm P w wx)∧Cs wx w.heap.size (zR 6)∧Cs wx w2.heap.size [a0,a1,a2]∧Cs wx w3.heap.size [d0,d1,d2]∧True))
 case first=>
  by_cases hc:k%4=0
  ·go_wp2
   go_meet
   case rel=>exact ⟨0,0,b2,U32.cons ⟨by omega,by omega⟩ (U32.cons ⟨by omega,by omega⟩ (U32.cons (ub _ (by simp)) (U32.nil))),⟨by (repeat (with_reducible refine Rd.setW ?_ (by omega) _ _));exact H3.out.1,by (repeat (with_reducible refine ζm.setHigh ?_ (by simp<;>omega) _));exact H3.out.2⟩,((X3.out.1.setO (by omega)).setO (by omega)),((X3.out.2.1.setO (by omega)).setO (by omega)),((X3.out.2.2.1.set1 _ (by simp)).set1 _ (by simp)),trivial⟩
  ·go_wp2
   go_meet
   case rel=>exact ⟨b0,b1,b2,ub,H3.out,X3.out⟩
 case rest=>
 obtain ⟨d0,d1,d2,HC⟩:=hcut
 have ud:=HC.out.1
 have XC:=Hid.mk HC.out.2.2
 have HH:=Hid.mk HC.out.2.1
 clear HC X3 H3 hV3 b0x0 b0x1 b0x2 b0x3 b0x4 b0x5 b0f b1x0 b1x1 b1x2 b1f b2x0 b2x1 b2x2 b2f
 obtain ⟨b0x0,b0x1,b0x2,b0x3,b0x4,b0x5⟩:=XC.out.1.c6
 have b0f:=XC.out.1.2.1
 have b1x0:=XC.out.2.1.at 0 rfl
 have b1x1:=XC.out.2.1.at 1 rfl
 have b1x2:=XC.out.2.1.at 2 rfl
 have b1f:=XC.out.2.1.2.1
 have b2x0:=XC.out.2.2.1.at 0 rfl
 have b2x1:=XC.out.2.2.1.at 1 rfl
 have b2x2:=XC.out.2.2.1.at 2 rfl
 have b2f:=XC.out.2.2.1.2.1
 go_upto_if 23 with fail
 go_cut [] from 24 to 35 (fun wx=> ∃f0 f1 f2:Int,Hid (U32 [f0,f1,f2]∧(Rd P wx∧ζm P w wx)∧Cs wx w.heap.size (zR 6)∧Cs wx w2.heap.size [a0,a1,a2]∧Cs wx w3.heap.size [f0,f1,f2]∧True))
 case first=>
  by_cases hc:k%8=1
  ·go_wp2
   go_meet
   case rel=>exact ⟨d0,d1,0,U32.cons (ud _ (by simp)) (U32.cons (ud _ (by simp)) (U32.cons ⟨by omega,by omega⟩ (U32.nil))),⟨by (repeat (with_reducible refine Rd.setW ?_ (by omega) _ _));exact HH.out.1,by (repeat (with_reducible refine ζm.setHigh ?_ (by simp<;>omega) _));exact HH.out.2⟩,(XC.out.1.setO (by omega)),(XC.out.2.1.setO (by omega)),(XC.out.2.2.1.set1 _ (by simp)),trivial⟩
  ·go_wp2
   go_meet
   case rel=>exact ⟨d0,d1,d2,ud,HH.out,XC.out⟩
 case rest=>
 obtain ⟨f0,f1,f2,HC⟩:=hcut
 have uf:=HC.out.1
 have XD:=Hid.mk HC.out.2.2
 have HI:=Hid.mk HC.out.2.1
 clear HC XC HH b0x0 b0x1 b0x2 b0x3 b0x4 b0x5 b0f b1x0 b1x1 b1x2 b1f b2x0 b2x1 b2x2 b2f
 obtain ⟨b0x0,b0x1,b0x2,b0x3,b0x4,b0x5⟩:=XD.out.1.c6
 have b0f:=XD.out.1.2.1
 have b1x0:=XD.out.2.1.at 0 rfl
 have b1x1:=XD.out.2.1.at 1 rfl
 have b1x2:=XD.out.2.1.at 2 rfl
 have b1f:=XD.out.2.1.2.1
 have b2x0:=XD.out.2.2.1.at 0 rfl
 have b2x1:=XD.out.2.2.1.at 1 rfl
 have b2x2:=XD.out.2.2.1.at 2 rfl
 have b2f:=XD.out.2.2.1.2.1
 go_wp2_with fail
 refine (φi f0 f1 f2 _ (uf _ (by simp)).1 (uf _ (by simp)).2 (uf _ (by simp)).1 (uf _ (by simp)).2 (uf _ (by simp)).1 (uf _ (by simp)).2).mono ?_
 rintro e w5 ⟨rfl,hb5⟩
 have XE:Hid (Cs w5 w.heap.size (zR 6)∧Cs w5 w2.heap.size [a0,a1,a2]∧Cs w5 w3.heap.size [f0,f1,f2]∧True):=⟨XD.out.1.later hb5,XD.out.2.1.later hb5,XD.out.2.2.1.later hb5,trivial⟩
 have HE:Hid (Rd P w5∧ζm P w w5):=⟨HI.out.1.later hb5,HI.out.2.trans (ζm.of hb5)⟩
 clear XD HI hb5 b0x0 b0x1 b0x2 b0x3 b0x4 b0x5 b0f b1x0 b1x1 b1x2 b1f b2x0 b2x1 b2x2 b2f
 obtain ⟨b0x0,b0x1,b0x2,b0x3,b0x4,b0x5⟩:=XE.out.1.c6
 have b0f:=XE.out.1.2.1
 have b1x0:=XE.out.2.1.at 0 rfl
 have b1x1:=XE.out.2.1.at 1 rfl
 have b1x2:=XE.out.2.1.at 2 rfl
 have b1f:=XE.out.2.1.2.1
 have b2x0:=XE.out.2.2.1.at 0 rfl
 have b2x1:=XE.out.2.2.1.at 1 rfl
 have b2x2:=XE.out.2.2.1.at 2 rfl
 have b2f:=XE.out.2.2.1.2.1
 clear XE
 cases hN:ζD f0 f1 f2
 ·go_wp2
  refine bodyPost_ret (v:= .agg #[a0,a1,a2,f0,f1,f2]) (by simp [results,results94,go_sem,b0x0,b0x1,b0x2,b0x3,b0x4,b0x5]) rfl ?_
  exact ⟨a0,a1,a2,f0,f1,f2,U32.cons (ua _ (by simp)) (U32.cons (ua _ (by simp)) (U32.cons (ua _ (by simp)) (U32.cons (uf _ (by simp)) (U32.cons (uf _ (by simp)) (U32.cons (uf _ (by simp)) (U32.nil)))))),rfl,by (repeat (with_reducible refine Rd.setW ?_ (by omega) _ _));exact HE.out.1,by (repeat (with_reducible refine ζm.setHigh ?_ (by simp<;>omega) _));exact HE.out.2⟩
 ·by_cases hc:0<k%16
  ·go_wp2
   refine bodyPost_ret (v:= .agg #[a0,a1,a2,f0,f1,.int .u32 1065353216]) (by simp [results,results94,go_sem,b0x0,b0x1,b0x2,b0x3,b0x4,b0x5]) rfl ?_
   exact ⟨a0,a1,a2,f0,f1,1065353216,U32.cons (ua _ (by simp)) (U32.cons (ua _ (by simp)) (U32.cons (ua _ (by simp)) (U32.cons (uf _ (by simp)) (U32.cons (uf _ (by simp)) (U32.cons ⟨by omega,by omega⟩ (U32.nil)))))),rfl,by (repeat (with_reducible refine Rd.setW ?_ (by omega) _ _));exact HE.out.1,by (repeat (with_reducible refine ζm.setHigh ?_ (by simp<;>omega) _));exact HE.out.2⟩
  ·go_wp2
   refine bodyPost_ret (v:= .agg #[a0,a1,a2,f0,f1,f2]) (by simp [results,results94,go_sem,b0x0,b0x1,b0x2,b0x3,b0x4,b0x5]) rfl ?_
   exact ⟨a0,a1,a2,f0,f1,f2,U32.cons (ua _ (by simp)) (U32.cons (ua _ (by simp)) (U32.cons (ua _ (by simp)) (U32.cons (uf _ (by simp)) (U32.cons (uf _ (by simp)) (U32.cons (uf _ (by simp)) (U32.nil)))))),rfl,by (repeat (with_reducible refine Rd.setW ?_ (by omega) _ _));exact HE.out.1,by (repeat (with_reducible refine ζm.setHigh ?_ (by simp<;>omega) _));exact HE.out.2⟩
theorem υa {a b m1 e1 m2 e2:Int} {T T':Nat} (h1:ξo (ξ8 a) (ξd a-150) m1 e1 T) (h2:ξo (ξ8 b) (ξd b-150) m2 e2 T') (a0:0<=a) (b0:0<=b):sgn (sumAt m1 e1 (-m2) e2)=sgn (ρJ a-ρJ b):=by
 have ea:=ζ8 a0
 have eb:=ζ8 b0
 have b1:=h1.bound
 have b2:=h2.bound
 unfold ρJ
 rw [ρI (K:=150) (by omega) (by omega),τS,h1.at (by omega),h2.at (by omega)]
 congr 1
theorem θ5 (a b:Int) (w:World) (a0:0<=a) (a1:a<4294967296) (b0:0<=b) (b1:b<4294967296):
 Calls prog 95 #[a,b] w fun e w'=>e= .returned (.int .i64 (sgn (ρJ a-ρJ b)))∧Below w.heap.size w w':=by
 have ea:=ζ8 a0
 have eb:=ζ8 b0
 obtain ⟨r,hr⟩: ∃r,r=sgn (ρJ a-ρJ b):=⟨_,rfl⟩
 rw [<-hr]
 have HR:Hid (r=sgn (ρJ a-ρJ b)):=hr
 clear hr
 go_enter func95,ntmps95
 go_wp2_with fail
 refine (φo a _ a0 a1).mono ?_
 rintro e w2 ⟨m1,e1,hn1,g1,a1',c1,f1,rfl,hl1,hL1,hF1,hB1⟩
 go_wp2_with fail
 refine (φo b _ b0 b1).mono ?_
 rintro e w3 ⟨m2,e2,hn2,g2,a2,c2,f2,rfl,hl2,hL2,hF2,hb2⟩
 have hB2:Below w.heap.size w w3:=hB1.trans (hb2.mono hB1.size)
 have hL1b:=hL1.later hb2
 go_wp2_with fail
 refine (κU g2 a2 c2 f2 m2 e2 _ (by omega) hL2).mono ?_
 rintro e w4 ⟨g3,f3,rfl,hl3,hL3,hb3⟩
 have hB3:Below w.heap.size w w4:=hB2.trans (hb3.mono hB2.size)
 have hL1c:=hL1b.later hb3
 go_wp2_with fail
 refine (κh g1 g3 a1' a2 c1 c2 f1 f3 m1 (-m2) e1 e2 _ (by omega) (by omega) (by have:=hn1.bound;have:=hn2.bound;omega) (by have:=hn1.bound;have:=hn2.bound;omega) hL1c hL3).mono ?_
 rintro e w5 ⟨g4,a4,c4,f4,rfl,hl4,hL4,hF4,hb4⟩
 have HS:Hid (sgn (sumAt m1 e1 (-m2) e2)=r):=(υa hn1 hn2 a0 b0).trans HR.out.symm
 have HB:Hid (Below w.heap.size w w5):=hB3.trans (hb4.mono hB3.size)
 have HL:Hid (L1 w5 g4 a4 c4 f4 (sumAt m1 e1 (-m2) e2)):=hL4
 generalize sumAt m1 e1 (-m2) e2=m4 at HS HL
 generalize min e1 e2=e4
 clear hB1 hb2 hB2 hb3 hB3 hb4 hL1 hL1b hL1c hL2 hL3 hL4 hF1 hF2 hF4
 go_wp2_with fail
 refine (ωk g4 a4 c4 f4 m4 _ (by omega) (HL.out.later (ζc _ _))).mono ?_
 rintro e w6 ⟨rfl,hb6⟩
 rw [HS.out]
 have HB6:Hid (Below w.heap.size w w6):=(HB.out.alloc HB.out.size _).trans (hb6.mono (by have:=HB.out.size;simp;omega))
 clear hb6
 go_wp2
 go_ret
 exact ⟨rfl,HB6.out⟩
end Go.Proofs.YtfieffpobgcpmaaGreatDoor
