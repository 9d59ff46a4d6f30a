import Derived.Test.YtfieffpobgcpmaaGreatDoorHdBHdCHoAHoB
import Derived.Test.YtfieffpobgcpmaaGreatDoorMdUQ
import Derived.Test.YtfieffpobgcpmaaGreatDoorSpVSpWFoFImV
import Derived.Test.YtfieffpobgcpmaaGreatDoorEsEToImplC0
import Derived.Test.YtfieffpobgcpmaaGreatDoorFrHToSpecI
import Derived.Test.YtfieffpobgcpmaaGreatDoorNumWToNumN
import Derived.Test.YtfieffpobgcpmaaGreatDoorDy1ToFpE
import Derived.Test.YtfieffpobgcpmaaGreatDoorBoxToNumS
import Derived.Test.YtfieffpobgcpmaaGreatDoorBgKToScS
import Derived.Deep.QuietTactic
import Derived.BigQuiet
set_option maxRecDepth 100000
set_option maxHeartbeats 32000000
namespace Go.Proofs.YtfieffpobgcpmaaGreatDoor
open Go.RowKit
def FrN (w:World) (v:Value) (R:Int×Int×Int×Int):Prop:= ∃(x0 x1 x2 x3:Value) (e:Bool),v= .agg #[x0,x1,x2,x3,.bool e]∧e=decide (R.2.1=0)∧((e=false∧0<R.2.1∧FrM w v 1500 R.1 R.2.1)∨(e=true∧R=(1,0,0,1)))
def LeastN (w:World) (P:Int→Int→Prop) (o:Ending) (w':World):Prop:= ∃v R,o= .returned v∧Met P R∧FrN w' v R∧Below w.heap.size w w'
theorem LeastOut.n {w w':World} {P:Int→Int→Prop} {o:Ending} (h:LeastOut w 1500 P o w'):LeastN w P o w':=by
 rcases h with ⟨v,a,b,c,d,rfl,hf,hs,hb⟩| ⟨rfl,hn,hb⟩
 ·have hq:=hs.hb
  obtain ⟨g,a',c',z,g',a2,c2,z',e,_⟩:=id hf
  exact ⟨v,(a,b,c,d),rfl,.inl hs,⟨_,_,_,_,false,e,by simp;omega,.inl ⟨rfl,hq,hf⟩⟩,hb⟩
 ·exact ⟨_,(1,0,0,1),rfl,.inr ⟨hn,rfl⟩,⟨_,_,_,_,true,rfl,rfl,.inr ⟨rfl,rfl⟩⟩,hb⟩
theorem none_run (x0 x1 x2 x3:Value) (e:Bool) (w:World):(Instr.field 74 (.agg #[x0,x1,x2,x3,.bool e]) 2).run Tryz.prog w= .ok (.bool e) w:=by
 unfold Instr.field
 simp [go_sem,asAgg]
theorem hitsS_all (t0 t1 t2 t3 t4 t5 t6 t7 t8 s0 s1 s2 s3 s4 s5:Int) (w:World) (hu:U32 [t0,t1,t2,t3,t4,t5,t6,t7,t8,s0,s1,s2,s3,s4,s5]):
 Calls Tryz.prog 17 #[.agg #[.int .u32 t0,.int .u32 t1,.int .u32 t2,.int .u32 t3,.int .u32 t4,.int .u32 t5,.int .u32 t6,.int .u32 t7,.int .u32 t8],.agg #[.int .u32 s0,.int .u32 s1,.int .u32 s2,.int .u32 s3,.int .u32 s4,.int .u32 s5]] w fun o w'=>HitB w (okB t0 t1 t2 t3 t4 t5 t6 t7 t8 s0 s1 s2 s3 s4 s5) (Meets (pv t0 t1 t2) (pv t3 t4 t5) (pv t6 t7 t8) (pv s0 s1 s2) (pv s3 s4 s5)) o w':=by
 have HU:Hid (U32 [t0,t1,t2,t3,t4,t5,t6,t7,t8,s0,s1,s2,s3,s4,s5]):=hu
 have HD0:Hid (HtS w [.int .u32 t0,.int .u32 t1,.int .u32 t2,.int .u32 t3,.int .u32 t4,.int .u32 t5,.int .u32 t6,.int .u32 t7,.int .u32 t8] [.int .u32 s0,.int .u32 s1,.int .u32 s2,.int .u32 s3,.int .u32 s4,.int .u32 s5] ((w.alloc (.cells #[.int .u32 t0,.int .u32 t1,.int .u32 t2,.int .u32 t3,.int .u32 t4,.int .u32 t5,.int .u32 t6,.int .u32 t7,.int .u32 t8] 36)).alloc (.cells #[.int .u32 s0,.int .u32 s1,.int .u32 s2,.int .u32 s3,.int .u32 s4,.int .u32 s5] 39))):=HtS.start w _ _ _ _
 have HO:Hid (okB t0 t1 t2 t3 t4 t5 t6 t7 t8 s0 s1 s2 s3 s4 s5=((pointB t0 t1 t2 && pointB t3 t4 t5 && pointB t6 t7 t8) && (pointB s0 s1 s2 && pointB s3 s4 s5 && !(noWayB s3 s4 s5)))):=rfl
 clear hu
 go_enter Tryz.func17,Tryz.ntmps17
 go_wp2_with fail
 refine (triV_any t0 t1 t2 t3 t4 t5 t6 t7 t8 _ (HU.out t0 (by simp)).1 (HU.out t0 (by simp)).2 (HU.out t1 (by simp)).1 (HU.out t1 (by simp)).2 (HU.out t2 (by simp)).1 (HU.out t2 (by simp)).2 (HU.out t3 (by simp)).1 (HU.out t3 (by simp)).2 (HU.out t4 (by simp)).1 (HU.out t4 (by simp)).2 (HU.out t5 (by simp)).1 (HU.out t5 (by simp)).2 (HU.out t6 (by simp)).1 (HU.out t6 (by simp)).2 (HU.out t7 (by simp)).1 (HU.out t7 (by simp)).2 (HU.out t8 (by simp)).1 (HU.out t8 (by simp)).2).mono ?_
 rintro o w1 ⟨rfl,hb1⟩
 have HD1:Hid (HtS w [.int .u32 t0,.int .u32 t1,.int .u32 t2,.int .u32 t3,.int .u32 t4,.int .u32 t5,.int .u32 t6,.int .u32 t7,.int .u32 t8] [.int .u32 s0,.int .u32 s1,.int .u32 s2,.int .u32 s3,.int .u32 s4,.int .u32 s5] w1):=HD0.out.later hb1
 clear hb1 HD0
 cases hA:(pointB t0 t1 t2 && pointB t3 t4 t5 && pointB t6 t7 t8)
 ·rw [hA] at HO
  clear hA
  go_wp2
  refine bodyPost_ret (v:= .tuple #[.bool false,.int .i64 1]) (by simp [results,Tryz.results17,go_sem]) rfl ?_
  exact ⟨HD1.out.bel,.inl ⟨HO.out,rfl⟩⟩
 rw [hA] at HO
 clear hA
 have x0:=HD1.out.r.at 0 rfl
 have x1:=HD1.out.r.at 1 rfl
 have x2:=HD1.out.r.at 2 rfl
 have x3:=HD1.out.r.at 3 rfl
 have x4:=HD1.out.r.at 4 rfl
 have x5:=HD1.out.r.at 5 rfl
 go_wp2_with fail
 refine (rayV_any s0 s1 s2 s3 s4 s5 _ (HU.out s0 (by simp)).1 (HU.out s0 (by simp)).2 (HU.out s1 (by simp)).1 (HU.out s1 (by simp)).2 (HU.out s2 (by simp)).1 (HU.out s2 (by simp)).2 (HU.out s3 (by simp)).1 (HU.out s3 (by simp)).2 (HU.out s4 (by simp)).1 (HU.out s4 (by simp)).2 (HU.out s5 (by simp)).1 (HU.out s5 (by simp)).2).mono ?_
 rintro o w2 ⟨rfl,hb2⟩
 have HD2:Hid (HtS w [.int .u32 t0,.int .u32 t1,.int .u32 t2,.int .u32 t3,.int .u32 t4,.int .u32 t5,.int .u32 t6,.int .u32 t7,.int .u32 t8] [.int .u32 s0,.int .u32 s1,.int .u32 s2,.int .u32 s3,.int .u32 s4,.int .u32 s5] w2):=HD1.out.later hb2
 clear hb2 HD1 x0 x1 x2 x3 x4 x5
 cases hA:(pointB s0 s1 s2 && pointB s3 s4 s5 && !(noWayB s3 s4 s5))
 ·rw [hA] at HO
  clear hA
  go_wp2
  refine bodyPost_ret (v:= .tuple #[.bool false,.int .i64 1]) (by simp [results,Tryz.results17,go_sem]) rfl ?_
  exact ⟨HD2.out.bel,.inl ⟨HO.out,rfl⟩⟩
 rw [hA] at HO
 clear hA
 have x0:=HD2.out.r.at 0 rfl
 have x1:=HD2.out.r.at 1 rfl
 have x2:=HD2.out.r.at 2 rfl
 have x3:=HD2.out.r.at 3 rfl
 have x4:=HD2.out.r.at 4 rfl
 have x5:=HD2.out.r.at 5 rfl
 have y0:=HD2.out.t.at 0 rfl
 have y1:=HD2.out.t.at 1 rfl
 have y2:=HD2.out.t.at 2 rfl
 have y3:=HD2.out.t.at 3 rfl
 have y4:=HD2.out.t.at 4 rfl
 have y5:=HD2.out.t.at 5 rfl
 have y6:=HD2.out.t.at 6 rfl
 have y7:=HD2.out.t.at 7 rfl
 have y8:=HD2.out.t.at 8 rfl
 go_wp2_with fail
 refine (least_any t0 t1 t2 t3 t4 t5 t6 t7 t8 s0 s1 s2 s3 s4 s5 _ HU.out).mono ?_
 intro o w3 h
 obtain ⟨v,R,rfl,hM,hF,hb3⟩:=h.n
 obtain ⟨z0,z1,z2,z3,e,rfl,he,_⟩:=hF
 have HB:Hid (Below w.heap.size w w3):=HD2.out.bel.trans (hb3.mono HD2.out.bel.size)
 have HE:=Hid.mk he
 have HM:=Hid.mk hM
 have hfr:=none_run
 clear hb3 HD2 he hM h x0 x1 x2 x3 x4 x5 y0 y1 y2 y3 y4 y5 y6 y7 y8
 go_wp2
 refine bodyPost_ret (v:= .tuple #[.bool (decide (R.2.1≠0)),.int .i64 0]) (by simp [results,Tryz.results17,go_sem,HE.out]) rfl ?_
 exact ⟨HB.out,.inr ⟨HO.out,R,HM.out,rfl⟩⟩
theorem hits_det (t0 t1 t2 t3 t4 t5 t6 t7 t8 s0 s1 s2 s3 s4 s5:Int) (w:World) (hT:Tab w) (ht:U32 [t0,t1,t2,t3,t4,t5,t6,t7,t8]) (hs:U32 [s0,s1,s2,s3,s4,s5]) (hok:okB t0 t1 t2 t3 t4 t5 t6 t7 t8 s0 s1 s2 s3 s4 s5=true) {R:Int×Int×Int×Int} {P:Int→Int→Prop} (hM:Met P R) (hP: ∀p q,(Meets (pv t0 t1 t2) (pv t3 t4 t5) (pv t6 t7 t8) (pv s0 s1 s2) (pv s3 s4 s5)) p q↔P p q) (M:Bool) (hm:M=decide (R.2.1≠0)):
 Calls Tryz.prog 18 #[.agg #[.int .u32 t0,.int .u32 t1,.int .u32 t2,.int .u32 t3,.int .u32 t4,.int .u32 t5,.int .u32 t6,.int .u32 t7,.int .u32 t8],.agg #[.int .u32 s0,.int .u32 s1,.int .u32 s2,.int .u32 s3,.int .u32 s4,.int .u32 s5]] w fun o w'=>o= .returned (.tuple #[.bool M,.int .i64 0])∧Below w.heap.size w w':=by
 subst hm
 refine (hits_all t0 t1 t2 t3 t4 t5 t6 t7 t8 s0 s1 s2 s3 s4 s5 w hT ht hs).mono ?_
 rintro o w' ⟨hb,⟨h,_⟩| ⟨_,R',hM',rfl⟩⟩
 ·rw [hok] at h;cases h
 ·exact ⟨by rw [(hM'.same hM hP).2.1],hb⟩
theorem AnsIs.of {P:Int→Int→Prop} {R:Int×Int×Int×Int} {g g':Bool} {zs ys:List Int} (h:AnsIs P g zs g' ys) (hM:Met P R) (hp: ∀p q,P p q→0≤p):g=false∧g'=false∧((R=(1,0,0,1)∧zs=[]∧ys=[])∨ ∃a b c d u v,0<R.2.1∧Met P (a,b,c,d)∧Low a b u v∧B1 false zs u∧B1 false ys v∧zs.length≤100∧ys.length≤100∧0<ys.length):=by
 rcases h with ⟨hn,rfl,rfl,rfl,rfl⟩| ⟨a,b,c,d,u,v,hs,hl,b1,b2,l1,l2⟩
 ·rcases hM with h| ⟨_,h⟩
  ·exact (h.not_no hn fun _ _ _=> .rfl).elim
  ·exact ⟨rfl,rfl,.inl ⟨h,rfl,rfl⟩⟩
 ·have hR:0<R.2.1:=by
   rcases hM with h| ⟨h,_⟩
   ·exact h.hb
   ·exact (hs.not_no h fun _ _ _=> .rfl).elim
  have ha:=hp _ _ hs.least.1
  have hu:0≤u:=by
   obtain ⟨⟨k,hk,e1,_⟩,_,_⟩:=id hl
   rcases Int.lt_or_le u 0 with h|h
   ·have:=Int.mul_neg_of_pos_of_neg hk h;omega
   ·exact h
  have e1:=b1.pos hu
  have e2:=b2.pos (Int.le_of_lt hl.hv)
  subst e1 e2
  refine ⟨rfl,rfl,.inr ⟨a,b,c,d,u,v,hR,.inl hs,hl,b1,b2,l1,l2,?_⟩⟩
  cases ys with
  |nil=>have:=b2.num;have:=hl.hv;simp [sg,val] at*;omega
  |cons y ys=>simp
structure Aside (P:Nat) (w w':World):Prop where
 os:w'.os=w.os
 tape:w'.tape=w.tape
 output:w'.output=w.output
 size:w.heap.size≤w'.heap.size
 block: ∀k,k<w.heap.size→k≠P→w'.heap[k]? =w.heap[k]?
theorem Aside.trans {P:Nat} {a b c:World} (h:Aside P a b) (k:Aside P b c):Aside P a c:=
 ⟨k.os.trans h.os,k.tape.trans h.tape,k.output.trans h.output,Nat.le_trans h.size k.size,fun i hi hp=>(k.block i (Nat.lt_of_lt_of_le hi h.size) hp).trans (h.block i hi hp)⟩
theorem Aside.of {P:Nat} {w w':World} (h:Below w.heap.size w w'):Aside P w w':=⟨h.os,h.tape,h.output,h.size,fun k hk _=>h.block k hk⟩
theorem Aside.set {P:Nat} {w w':World} (h:Aside P w w') (j:Nat) (v:Value):Aside P w (w'.setCell ⟨P,j,none⟩ v):=by
 have hb:Within P (P+1) w' (w'.setCell ⟨P,j,none⟩ v):=(Within.refl P (P+1) w').setCell (p:=⟨P,j,none⟩) (Nat.le_refl _) (Nat.lt_succ_self _) v
 exact ⟨hb.os.trans h.os,hb.tape.trans h.tape,hb.output.trans h.output,by rw [hb.size];exact h.size,fun k hk hp=>(hb.block k (by omega)).trans (h.block k hk hp)⟩
theorem Aside.setHigh {P:Nat} {w w':World} (h:Aside P w w') {p:Addr} (hp:w.heap.size≤p.block) (v:Value):Aside P w (w'.setCell p v):=by
 have hb:Within p.block (p.block+1) w' (w'.setCell p v):=(Within.refl _ _ _).setCell (Nat.le_refl _) (Nat.lt_succ_self _) v
 exact ⟨hb.os.trans h.os,hb.tape.trans h.tape,hb.output.trans h.output,by rw [hb.size];exact h.size,fun k hk hp'=>(hb.block k (by omega)).trans (h.block k hk hp')⟩
theorem Aside.below {P B:Nat} {w w':World} (h:Aside P w w') (hB:B≤P) (hS:B≤w.heap.size):Below B w w':=
 ⟨h.os,h.tape,h.output,h.size,fun k hk=>h.block k (by omega) (by omega)⟩
theorem Aside.cell {P:Nat} {w w':World} (h:Aside P w w') {p:Addr} (hp:p.block<w.heap.size) (hq:p.block≠P):w'.cell? p=w.cell? p:=World.cell?_of_block (w:=w) (h.block p.block hp hq)
theorem Aside.frozen {P:Nat} {w w':World} (h:Aside P w w') {p:Addr} (hp:p.block<w.heap.size) (hq:p.block≠P):w'.frozen? p=w.frozen? p:=World.frozen?_of_block (w:=w) (h.block p.block hp hq)
theorem Aside.row {P:Nat} {k:IntKind} {w w':World} {a:Option Addr} {zs:List Int} (h:Aside P w w') (hr:RowAt k w a zs) (hp: ∀b off,a=some ⟨b,off,none⟩→zs≠[]→b≠P):RowAt k w' a zs:=by
 by_cases e:zs=[]
 ·exact .inl e
 ·rcases hr with hr| ⟨b,off,h1,h2,h3⟩
  ·exact .inl hr
  ·exact .inr ⟨b,off,h1,Nat.lt_of_lt_of_le h2 h.size,fun j hj=>(h.cell (p:=⟨b,off+j,none⟩) h2 (hp b off h1 e)).trans (h3 j hj)⟩
structure Rd (P:Nat) (W:World):Prop where
 ex: ∃(a:Option Addr) (c:Nat) (bs:List Int) (i:Nat),W.cell? ⟨P,0,none⟩=some (.slice a bs.length c)∧W.cell? ⟨P,1,none⟩=some (.int .i64 i)∧i≤bs.length∧bs.length≤500∧RowAt .u8 W a bs∧(∀b off,a=some ⟨b,off,none⟩→bs≠[]→b<P)∧Dig 256 bs
 free: ∀j,W.frozen? ⟨P,j,none⟩=false
 lt:P<W.heap.size
theorem Rd.later {P:Nat} {W W':World} (h:Rd P W) (hb:Below W.heap.size W W'):Rd P W':=by
 obtain ⟨⟨a,c,bs,i,h1,h2,h3,h4,h5,h6,h7⟩,hf,hl⟩:=h
 exact ⟨⟨a,c,bs,i,(hb.cell (p:=⟨P,0,none⟩) hl).trans h1,(hb.cell (p:=⟨P,1,none⟩) hl).trans h2,h3,h4,h5.later hb,h6,h7⟩,fun j=>(hb.frozen (p:=⟨P,j,none⟩) hl).trans (hf j),Nat.lt_of_lt_of_le hl hb.size⟩
theorem Rd.above {P B:Nat} {W W':World} (h:Rd P W) (hb:Below B W W') (hB:P<B):Rd P W':=by
 obtain ⟨⟨a,c,bs,i,h1,h2,h3,h4,h5,h6,h7⟩,hf,hl⟩:=h
 refine ⟨⟨a,c,bs,i,(hb.cell (p:=⟨P,0,none⟩) hB).trans h1,(hb.cell (p:=⟨P,1,none⟩) hB).trans h2,h3,h4,?_,h6,h7⟩,fun j=>(hb.frozen (p:=⟨P,j,none⟩) hB).trans (hf j),Nat.lt_of_lt_of_le hl hb.size⟩
 by_cases e:bs=[]
 ·exact .inl e
 ·rcases h5 with h5| ⟨b,off,g1,g2,g3⟩
  ·exact .inl h5
  ·have:=h6 b off g1 e
   exact .inr ⟨b,off,g1,Nat.lt_of_lt_of_le g2 hb.size,fun j hj=>(hb.cell (p:=⟨b,off+j,none⟩) (by simp;omega)).trans (g3 j hj)⟩
def NextOut (P:Nat) (w:World) (e:Ending) (w':World):Prop:= ∃v:Int,e= .returned (.int .i64 v)∧0≤v∧v≤255∧Rd P w'∧Aside P w w'
theorem next_any (P:Nat) (w:World) (h:Rd P w):
 Calls Tryz.prog 47 #[.pointer (some ⟨P,0,none⟩)] w fun e w'=>NextOut P w e w':=by
 have HH:Hid (Rd P w):=h
 obtain ⟨⟨a,c,bs,i,h1,h2,h3,h4,h5,h6,h7⟩,hf,hl⟩:=h
 by_cases hi:i<bs.length
 ·obtain ⟨b,off,rfl,g1⟩:=row_cell h5 (Below.refl _ _) hi
  have hb:=h7.at (by decide) i
  obtain ⟨y,hy⟩: ∃y,y=bs.getD i 0:=⟨_,rfl⟩
  rw [←hy] at hb g1
  obtain ⟨hb0,hb1⟩:=hb
  have hge: ¬((i:Int)≥bs.length):=by omega
  have hlt:(i:Int)<bs.length:=by omega
  have HO:Hid (∀W,Below w.heap.size w W→NextOut P w (.returned (.int .i64 y)) (W.setCell ⟨P,1,none⟩ (.int .i64 ((i:Int)+1)))):=by
   intro W hW
   have c1:W.cell? ⟨P,0,none⟩=some (.slice (some ⟨b,off,none⟩) bs.length c):=(hW.cell (p:=⟨P,0,none⟩) hl).trans h1
   have c2:W.cell? ⟨P,1,none⟩=some (.int .i64 i):=(hW.cell (p:=⟨P,1,none⟩) hl).trans h2
   refine ⟨y,rfl,hb0,by omega,⟨⟨some ⟨b,off,none⟩,c,bs,i+1,?_,?_,by omega,h4,?_,h6,h7⟩,fun j=>by rw [World.frozen?_setCell];exact (hW.frozen (p:=⟨P,j,none⟩) hl).trans (hf j),by have:=hW.size;simp;omega⟩,(Aside.of hW).set 1 _⟩
   ·rw [World.cell?_setCell_other _ _ _ _ (by simp)];exact c1
   ·rw [World.cell?_setCell_same _ _ _ c2];simp
   ·have hbP:=h6 b off rfl (by intro e;rw [e] at hi;simp at hi)
    exact ((Aside.of (P:=P) hW).set 1 _).row h5 (fun b' off' e _=>by have:=congrArg Addr.block (Option.some.inj e);simp at this;omega)
  clear h5 h6 h7 hy HH
  go_enter Tryz.func47,Tryz.ntmps47
  go_wp2
  go_quiet (fail)
  go_wp2
  go_quiet (fail)
  go_wp2
  go_ret
  exact HO.out _ (by first|exact below_drewN (below_drewN (Below.refl _ _) _) _|exact below_drewN (Below.refl _ _) _)
 ·have hge:(bs.length:Int)≤i:=by omega
  have HO:Hid (∀W,Below w.heap.size w W→NextOut P w (.returned (.int .i64 0)) W):=fun W hW=>⟨0,rfl,by decide,by decide,HH.out.later hW,Aside.of hW⟩
  clear h5 h6 h7 HH
  go_enter Tryz.func47,Tryz.ntmps47
  go_wp2
  go_quiet (fail)
  go_wp2
  go_ret
  exact HO.out _ (below_drewN (Below.refl _ _) _)
def OpenOut (w:World) (e:Ending) (w':World):Prop:=e= .returned (.pointer (some ⟨w.heap.size,0,none⟩))∧Rd w.heap.size w'∧Below w.heap.size w w'∧w'.heap.size=w.heap.size+1
theorem open_rd (w:World) (a:Option Addr) (n c:Nat) (bs:List Int) (t:TypeId) (hn:n=bs.length) (h5:bs.length≤500) (hb:Dig 256 bs) (hr:RowAt .u8 w a bs):OpenOut w (.returned (.pointer (some ⟨w.heap.size,0,none⟩))) (w.alloc (.cells #[.slice a n c,.int .i64 0] t)):=by
 subst hn
 refine ⟨rfl,⟨⟨a,c,bs,0,by simp [go_sem],by simp [go_sem],by omega,h5,hr.later (bel0 _ _),?_,hb⟩,fun j=>by simp [go_sem],by simp⟩,bel0 _ _,by simp⟩
 intro b off e hne
 rcases hr with hr| ⟨b',off',g1,g2,_⟩
 ·exact absurd hr hne
 ·rw [e] at g1
  have:=congrArg Addr.block (Option.some.inj g1)
  simp at this
  omega
theorem open_any (a:Option Addr) (c:Nat) (bs:List Int) (w:World) (hn:bs.length≤1048576) (hc:bs.length≤c) (hcm:c≤maxLen) (hnil:a=none→c=0) (hr:RowAt .u8 w a bs) (hb:Dig 256 bs):
 Calls Tryz.prog 46 #[.slice a bs.length c] w fun e w'=>OpenOut w e w':=by
 unfold maxLen at hcm
 by_cases h5:500<bs.length
 ·have HO:Hid (∀t,OpenOut w (.returned (.pointer (some ⟨w.heap.size,0,none⟩))) (w.alloc (.cells #[.slice a 500 c,.int .i64 0] t))):=fun t=>
   open_rd w a 500 c (bs.take 500) t (by rw [List.length_take];omega) (by rw [List.length_take];omega) (hb.take 500) (hr.take 500)
  cases a with
  |none=>have:=hnil rfl;omega
  |some x=>
   clear hr hb
   go_enter Tryz.func46,Tryz.ntmps46
   go_wp2
   go_ret
   exact HO.out _
 ·have HO:Hid (∀t,OpenOut w (.returned (.pointer (some ⟨w.heap.size,0,none⟩))) (w.alloc (.cells #[.slice a bs.length c,.int .i64 0] t))):=fun t=>
   open_rd w a bs.length c bs t rfl (by omega) hb hr
  cases a with
  |none=>
   have h0:=hnil rfl
   subst h0
   have hl:bs.length=0:=by omega
   rw [hl] at HO⊢
   clear hr hb
   go_enter Tryz.func46,Tryz.ntmps46
   go_wp2
   go_ret
   exact HO.out _
  |some x=>
   clear hr hb
   go_enter Tryz.func46,Tryz.ntmps46
   go_wp2
   go_ret
   exact HO.out _
end Go.Proofs.YtfieffpobgcpmaaGreatDoor
