import Derived.Test.YtfieffpobgcpmaaGreatDoorHdAQS
import Derived.Test.YtfieffpobgcpmaaGreatDoorShJMdDMdES
import Derived.Test.YtfieffpobgcpmaaGreatDoorShRToSpecFoS
import Derived.Test.YtfieffpobgcpmaaGreatDoorDwDDwHS
import Derived.Test.YtfieffpobgcpmaaGreatDoorImplBToImplDS
import Derived.Deep.CutRange
set_option maxRecDepth 100000
set_option maxHeartbeats 32000000
namespace Go.Proofs.YtfieffpobgcpmaaGreatDoor
open Go.RowKit Go.Proofs.Tryz
theorem σ2 (t0 t1 t2 t3 t4 t5 t6 t7 t8 s0 s1 s2 s3 s4 s5:Int) (w:World) (ht:U32 [t0,t1,t2,t3,t4,t5,t6,t7,t8]) (hA:(List.range 1).all (ξA [t0,t1,t2,t3,t4,t5,t6,t7,t8])=false):
 Calls prog 10 #[.agg #[t0,t1,t2,t3,t4,t5,t6,t7,t8],.agg #[s0,s1,s2,s3,s4,s5]] w fun o w'=>o= .returned (.tuple #[.agg #[false,()],.agg #[false,()],.int .i64 1])∧Below w.heap.size w w':=by
 have HA:=Hid.mk hA
 have HU:=Hid.mk ht
 have HD0:Hid (∀s'0 s'1 s'2 s'3,HdS w [t0,t1,t2,t3,t4,t5,t6,t7,t8] [s0,s1,s2,s3,s4,s5] ((((w.alloc (.cells #[t0,t1,t2,t3,t4,t5,t6,t7,t8] s'0)).alloc (.cells #[s0,s1,s2,s3,s4,s5] s'1)).alloc (.cells #[false,()] s'2)).alloc (.cells #[false,()] s'3))):=fun s'0 s'1 s'2 s'3=>HdS.start w _ _ s'0 s'1 s'2 s'3
 go_enter func10,ntmps10
 go_wp2_with fail
 refine (ζU _ 1 1 [t0,t1,t2,t3,t4,t5,t6,t7,t8] _ (by omega) rfl HU.out (by have:=ωg ((((w.alloc (.cells #[t0,t1,t2,t3,t4,t5,t6,t7,t8] 36)).alloc (.cells #[s0,s1,s2,s3,s4,s5] 39)).alloc (.cells #[false,()] 31)).alloc (.cells #[false,()] 31)) t0 t1 t2 t3 t4 t5 t6 t7 t8 36;simpa using this)).mono ?_
 rintro o w1 ⟨rfl,hb1⟩
 rw [HA.out]
 have HD1:Hid (HdS w [t0,t1,t2,t3,t4,t5,t6,t7,t8] [s0,s1,s2,s3,s4,s5] w1):=((HD0.out _ _ _ _).later (ζc _ _)).later hb1
 clear hb1 HD0
 obtain ⟨y0,y1⟩:=HD1.out.z1.c2
 obtain ⟨w0',w1'⟩:=HD1.out.z2.c2
 have yf:=HD1.out.z1.2.1
 have wf:=HD1.out.z2.2.1
 have HB9:Hid (Below w.heap.size w ((((w1.setCell ⟨w.heap.size+1+1,0,none⟩ false).setCell ⟨w.heap.size+1+1,1,none⟩ ()).setCell ⟨w.heap.size+1+1+1,0,none⟩ false).setCell ⟨w.heap.size+1+1+1,1,none⟩ ())):=(((HD1.out.bel.setCell (by simp<;>omega) _).setCell (by simp<;>omega) _).setCell (by simp<;>omega) _).setCell (by simp<;>omega) _
 go_wp2
 refine bodyPost_ret (v:= .tuple #[.agg #[false,()],.agg #[false,()],.int .i64 1]) (by simp [results,results10,go_sem,y0,y1,w0',w1']) rfl ?_
 exact ⟨rfl,HB9.out⟩
theorem σ3 (t0 t1 t2 t3 t4 t5 t6 t7 t8 s0 s1 s2 s3 s4 s5:Int) (w:World) (ht:U32 [t0,t1,t2,t3,t4,t5,t6,t7,t8]) (hs:U32 [s0,s1,s2,s3,s4,s5]) (hA:(List.range 1).all (ξA [t0,t1,t2,t3,t4,t5,t6,t7,t8])=true) (hR:(ζa s0 s1 s2 && ζa s3 s4 s5 && !(ζD s3 s4 s5))=false):
 Calls prog 10 #[.agg #[t0,t1,t2,t3,t4,t5,t6,t7,t8],.agg #[s0,s1,s2,s3,s4,s5]] w fun o w'=>o= .returned (.tuple #[.agg #[false,()],.agg #[false,()],.int .i64 1])∧Below w.heap.size w w':=by
 have HA:=Hid.mk hA
 have HP:=Hid.mk hR
 have HU:=Hid.mk ht
 have HD0:Hid (∀s'0 s'1 s'2 s'3,HdS w [t0,t1,t2,t3,t4,t5,t6,t7,t8] [s0,s1,s2,s3,s4,s5] ((((w.alloc (.cells #[t0,t1,t2,t3,t4,t5,t6,t7,t8] s'0)).alloc (.cells #[s0,s1,s2,s3,s4,s5] s'1)).alloc (.cells #[false,()] s'2)).alloc (.cells #[false,()] s'3))):=fun s'0 s'1 s'2 s'3=>HdS.start w _ _ s'0 s'1 s'2 s'3
 go_enter func10,ntmps10
 go_wp2_with fail
 refine (ζU _ 1 1 [t0,t1,t2,t3,t4,t5,t6,t7,t8] _ (by omega) rfl HU.out (by have:=ωg ((((w.alloc (.cells #[t0,t1,t2,t3,t4,t5,t6,t7,t8] 36)).alloc (.cells #[s0,s1,s2,s3,s4,s5] 39)).alloc (.cells #[false,()] 31)).alloc (.cells #[false,()] 31)) t0 t1 t2 t3 t4 t5 t6 t7 t8 36;simpa using this)).mono ?_
 rintro o w1 ⟨rfl,hb1⟩
 rw [HA.out]
 have HD1:Hid (HdS w [t0,t1,t2,t3,t4,t5,t6,t7,t8] [s0,s1,s2,s3,s4,s5] w1):=((HD0.out _ _ _ _).later (ζc _ _)).later hb1
 clear hb1 HD0
 obtain ⟨x0,x1,x2,x3,x4,x5⟩:=HD1.out.r.c6
 go_wp2_with fail
 refine (ψr s0 s1 s2 s3 s4 s5 _ (hs s0 (by simp)).1 (hs s0 (by simp)).2 (hs s1 (by simp)).1 (hs s1 (by simp)).2 (hs s2 (by simp)).1 (hs s2 (by simp)).2 (hs s3 (by simp)).1 (hs s3 (by simp)).2 (hs s4 (by simp)).1 (hs s4 (by simp)).2 (hs s5 (by simp)).1 (hs s5 (by simp)).2).mono ?_
 rintro o w2 ⟨rfl,hb2⟩
 rw [HP.out]
 have HD2:=Hid.mk (HD1.out.later hb2)
 clear hb2 HD1 x0 x1 x2 x3 x4 x5
 obtain ⟨y0,y1⟩:=HD2.out.z1.c2
 obtain ⟨w0',w1'⟩:=HD2.out.z2.c2
 have yf:=HD2.out.z1.2.1
 have wf:=HD2.out.z2.2.1
 have HB9:Hid (Below w.heap.size w ((((w2.setCell ⟨w.heap.size+1+1,0,none⟩ false).setCell ⟨w.heap.size+1+1,1,none⟩ ()).setCell ⟨w.heap.size+1+1+1,0,none⟩ false).setCell ⟨w.heap.size+1+1+1,1,none⟩ ())):=(((HD2.out.bel.setCell (by simp<;>omega) _).setCell (by simp<;>omega) _).setCell (by simp<;>omega) _).setCell (by simp<;>omega) _
 go_wp2
 refine bodyPost_ret (v:= .tuple #[.agg #[false,()],.agg #[false,()],.int .i64 1]) (by simp [results,results10,go_sem,y0,y1,w0',w1']) rfl ?_
 exact ⟨rfl,HB9.out⟩
def υb (P:Int->Int->Prop) (g:Bool) (zs:List Int) (g':Bool) (ys:List Int):Prop:=
 (ζ5 P∧g=false∧zs=[]∧g'=false∧ys=[])∨ ∃a b c d u v,ξg P a b c d∧Low a b u v∧B1 g zs u∧B1 g' ys v∧zs.length<=100∧ys.length<=100
def AnsC (ok:Bool) (P:Int->Int->Prop) (g:Bool) (zs:List Int) (g':Bool) (ys:List Int) (k:Int):Prop:=
 (ok=true∧k=0∧υb P g zs g' ys)∨(ok=false∧k=1∧g=false∧zs=[]∧g'=false∧ys=[])
def HitI (w:World) (ok:Bool) (P:Int->Int->Prop) (o:Ending) (w':World):Prop:=
 ∃(g:Bool) (a:Option Addr) (c:Nat) (zs:List Int) (g':Bool) (a':Option Addr) (c':Nat) (ys:List Int) (k:Int) (K:Nat),o= .returned (.tuple #[.agg #[g,.slice a zs.length c],.agg #[g',.slice a' ys.length c'],.int .i64 k])∧AnsC ok P g zs g' ys k∧zs.length<=100∧ys.length<=100∧w.heap.size<=K∧K<=w'.heap.size∧σq K a zs∧ζl .u32 w' w.heap.size a zs∧ζl .u32 w' K a' ys∧Below w.heap.size w w'
theorem τJ {t0 t1 t2 t3 t4 t5 t6 t7 t8:Int}:(List.range 1).all (ξA [t0,t1,t2,t3,t4,t5,t6,t7,t8])=(ζa t0 t1 t2 && ζa t3 t4 t5 && ζa t6 t7 t8):=by
 simp [ξA]
def okB (t0 t1 t2 t3 t4 t5 t6 t7 t8 s0 s1 s2 s3 s4 s5:Int):Bool:=(ζa t0 t1 t2 && ζa t3 t4 t5 && ζa t6 t7 t8) && (ζa s0 s1 s2 && ζa s3 s4 s5 && !(ζD s3 s4 s5))
theorem τr (t0 t1 t2 t3 t4 t5 t6 t7 t8 s0 s1 s2 s3 s4 s5:Int) (w:World) (hT:Tab w) (hu:U32 [t0,t1,t2,t3,t4,t5,t6,t7,t8,s0,s1,s2,s3,s4,s5]):
 Calls prog 10 #[.agg #[t0,t1,t2,t3,t4,t5,t6,t7,t8],.agg #[s0,s1,s2,s3,s4,s5]] w fun o w'=>HitI w (okB t0 t1 t2 t3 t4 t5 t6 t7 t8 s0 s1 s2 s3 s4 s5) (ζs (pv t0 t1 t2) (pv t3 t4 t5) (pv t6 t7 t8) (pv s0 s1 s2) (pv s3 s4 s5)) o w':=by
 have hut:U32 [t0,t1,t2,t3,t4,t5,t6,t7,t8]:=fun z hz=>hu z (List.mem_append_left [s0,s1,s2,s3,s4,s5] hz)
 have hus:U32 [s0,s1,s2,s3,s4,s5]:=fun z hz=>hu z (List.mem_append_right [t0,t1,t2,t3,t4,t5,t6,t7,t8] hz)
 have zero: ∀(o:Ending) (w':World),okB t0 t1 t2 t3 t4 t5 t6 t7 t8 s0 s1 s2 s3 s4 s5=false->o= .returned (.tuple #[.agg #[false,()],.agg #[false,()],.int .i64 1])∧Below w.heap.size w w'->HitI w (okB t0 t1 t2 t3 t4 t5 t6 t7 t8 s0 s1 s2 s3 s4 s5) (ζs (pv t0 t1 t2) (pv t3 t4 t5) (pv t6 t7 t8) (pv s0 s1 s2) (pv s3 s4 s5)) o w':=by
  rintro o w' he ⟨rfl,hb⟩
  rw [he]
  exact ⟨false,none,0,[],false,none,0,[],1,w.heap.size,rfl,.inr ⟨rfl,rfl,rfl,rfl,rfl,rfl⟩,by simp,by simp,Nat.le_refl _,hb.size,.inl rfl,.inl rfl,.inl rfl,hb⟩
 by_cases hA:(ζa t0 t1 t2 && ζa t3 t4 t5 && ζa t6 t7 t8)=true
 ·by_cases hR:(ζa s0 s1 s2 && ζa s3 s4 s5 && !(ζD s3 s4 s5))=true
  ·have hok:okB t0 t1 t2 t3 t4 t5 t6 t7 t8 s0 s1 s2 s3 s4 s5=true:=by unfold okB;rw [hA,hR];rfl
   rw [hok]
   simp only [ζa,Bool.and_eq_true] at hA hR
   obtain ⟨⟨⟨⟨q0,q1⟩,q2⟩,⟨q3,q4⟩,q5⟩,⟨q6,q7⟩,q8⟩:=hA
   obtain ⟨⟨⟨⟨r0,r1⟩,r2⟩,⟨r3,r4⟩,r5⟩,hw⟩:=hR
   refine (κZ t0 t1 t2 t3 t4 t5 t6 t7 t8 s0 s1 s2 s3 s4 s5 w hT ⟨(hut t0 (by simp)).1,(hut t0 (by simp)).2,q0⟩ ⟨(hut t1 (by simp)).1,(hut t1 (by simp)).2,q1⟩ ⟨(hut t2 (by simp)).1,(hut t2 (by simp)).2,q2⟩ ⟨(hut t3 (by simp)).1,(hut t3 (by simp)).2,q3⟩ ⟨(hut t4 (by simp)).1,(hut t4 (by simp)).2,q4⟩ ⟨(hut t5 (by simp)).1,(hut t5 (by simp)).2,q5⟩ ⟨(hut t6 (by simp)).1,(hut t6 (by simp)).2,q6⟩ ⟨(hut t7 (by simp)).1,(hut t7 (by simp)).2,q7⟩ ⟨(hut t8 (by simp)).1,(hut t8 (by simp)).2,q8⟩ ⟨(hus s0 (by simp)).1,(hus s0 (by simp)).2,r0⟩ ⟨(hus s1 (by simp)).1,(hus s1 (by simp)).2,r1⟩ ⟨(hus s2 (by simp)).1,(hus s2 (by simp)).2,r2⟩ ⟨(hus s3 (by simp)).1,(hus s3 (by simp)).2,r3⟩ ⟨(hus s4 (by simp)).1,(hus s4 (by simp)).2,r4⟩ ⟨(hus s5 (by simp)).1,(hus s5 (by simp)).2,r5⟩ (by simpa using hw)).mono ?_
   rintro o w' ⟨R,hM,hb,⟨h0,rfl⟩| ⟨h0,u,v,g,a,c,zs,g',a',c',ys,K,rfl,hL,k1,k2,⟨l1,_,_⟩,⟨l2,_,_⟩,hK,hU,n1,n2⟩⟩
   ·have hno:ζ5 (ζs (pv t0 t1 t2) (pv t3 t4 t5) (pv t6 t7 t8) (pv s0 s1 s2) (pv s3 s4 s5)):=by
     rcases hM with h| ⟨h,_⟩
     ·have:=h.hb;omega
     ·exact h
    exact ⟨false,none,0,[],false,none,0,[],0,w.heap.size,rfl,.inl ⟨rfl,rfl,.inl ⟨hno,rfl,rfl,rfl,rfl⟩⟩,by simp,by simp,Nat.le_refl _,hb.size,.inl rfl,.inl rfl,.inl rfl,hb⟩
   ·have hsp:ξg (ζs (pv t0 t1 t2) (pv t3 t4 t5) (pv t6 t7 t8) (pv s0 s1 s2) (pv s3 s4 s5)) R.1 R.2.1 R.2.2.1 R.2.2.2:=by
     rcases hM with h| ⟨_,h⟩
     ·exact h
     ·rw [h] at h0;exact absurd rfl h0
    by_cases hKw:K<=w'.heap.size
    ·exact ⟨g,a,c,zs,g',a',c',ys,0,K,rfl,.inl ⟨rfl,rfl,.inr ⟨_,_,_,_,u,v,hsp,hL,k1,k2,l1,l2⟩⟩,l1,l2,hK,hKw,hU,n1,n2,hb⟩
    ·refine ⟨g,a,c,zs,g',a',c',ys,0,w'.heap.size,rfl,.inl ⟨rfl,rfl,.inr ⟨_,_,_,_,u,v,hsp,hL,k1,k2,l1,l2⟩⟩,l1,l2,hb.size,Nat.le_refl _,?_,n1,?_,hb⟩
     ·rcases n1 with h| ⟨b,off,e,h1,h2,_⟩
      ·exact .inl h
      ·exact .inr fun b' off' e'=>by rw [e] at e';injection e' with e';have:=congrArg Addr.block e';simp at this;omega
     ·rcases n2 with h| ⟨b,off,e,h1,h2,_⟩
      ·exact .inl h
      ·omega
  ·have hok:okB t0 t1 t2 t3 t4 t5 t6 t7 t8 s0 s1 s2 s3 s4 s5=false:=by unfold okB;rw [hA];simpa using hR
   exact (σ3 t0 t1 t2 t3 t4 t5 t6 t7 t8 s0 s1 s2 s3 s4 s5 w hut hus (by rw [τJ];exact hA) (by simpa using hR)).mono fun o w' h=>zero o w' hok h
 ·have hA':(ζa t0 t1 t2 && ζa t3 t4 t5 && ζa t6 t7 t8)=false:=by simpa using hA
  have hok:okB t0 t1 t2 t3 t4 t5 t6 t7 t8 s0 s1 s2 s3 s4 s5=false:=by unfold okB;rw [hA'];rfl
  exact (σ2 t0 t1 t2 t3 t4 t5 t6 t7 t8 s0 s1 s2 s3 s4 s5 w hut (by rw [τJ];exact hA')).mono fun o w' h=>zero o w' hok h
theorem Bool.same {g h:Bool} {P Q:Prop} (hg:g=true↔P) (hh:h=true↔Q) (e:P↔Q):g=h:=by
 rw [Bool.eq_iff_iff,hg,hh,e]
theorem ψP (t0 t1 t2 t3 t4 t5 t6 t7 t8 s0 s1 s2 s3 s4 s5 u0 u1 u2 u3 u4 u5 u6 u7 u8 l0 l1 l2:Int) (w:World) (hT:Tab w) (ht:U32 [t0,t1,t2,t3,t4,t5,t6,t7,t8,u0,u1,u2,u3,u4,u5,u6,u7,u8]) (hs:U32 [s0,s1,s2,s3,s4,s5]) (hl:U32 [l0,l1,l2]) (hok:((ζa t0 t1 t2 && ζa t3 t4 t5 && ζa t6 t7 t8) && (ζa u0 u1 u2 && ζa u3 u4 u5 && ζa u6 u7 u8) && (ζa s0 s1 s2 && ζa s3 s4 s5 && !(ζD s3 s4 s5)) && ζa l0 l1 l2)=true) {a b c d:Int} (hS:ξg (ζs (pv u0 u1 u2) (pv u3 u4 u5) (pv u6 u7 u8) (pv s0 s1 s2) (pv s3 s4 s5)) a b c d) (g:Bool) (hg:g=true↔(φG (pv t0 t1 t2) (pv t3 t4 t5) (pv t6 t7 t8) (pv s0 s1 s2) (pv s3 s4 s5) (pv l0 l1 l2)) a b):
 Calls prog 23 #[.agg #[t0,t1,t2,t3,t4,t5,t6,t7,t8],.agg #[s0,s1,s2,s3,s4,s5],.agg #[u0,u1,u2,u3,u4,u5,u6,u7,u8],.agg #[l0,l1,l2]] w fun o w'=>o= .returned (.tuple #[g,.int .i64 0])∧Below w.heap.size w w':=by
 refine (χo t0 t1 t2 t3 t4 t5 t6 t7 t8 s0 s1 s2 s3 s4 s5 u0 u1 u2 u3 u4 u5 u6 u7 u8 l0 l1 l2 w hT ht hs hl true hok.symm).mono ?_
 rintro o w' ⟨hb,⟨h|h,_⟩| ⟨_,a',b',c',d',g',hS',hg',rfl⟩⟩
 ·cases h
 ·exact (hS.not_no h fun _ _ _=> .rfl).elim
 ·rw [Bool.same hg' hg (σN hS'.hb hS.hb (hS'.same hS fun _ _ _=> .rfl))]
  exact ⟨rfl,hb⟩
theorem τs {P:Int->Int->Prop} {R:Int×Int×Int×Int} {g g':Bool} {zs ys:List Int} (h:υb P g zs g' ys) (hM:Met P R) (hq:0<R.2.1) (h0:R.1=0):zs=[]:=by
 rcases h with ⟨_,_,h,_⟩| ⟨a,b,c,d,u,v,hs,⟨⟨k,hk,e1,_⟩,_,_⟩,b1,_⟩
 ·exact h
 ·have hz:a=0:=by
   rcases hM with h| ⟨_,rfl⟩
   ·have e:=h.same hs fun _ _ _=> .rfl
    rw [h0,Int.zero_mul] at e
    exact (Int.mul_eq_zero.mp e.symm).resolve_right (by omega)
   ·cases h0
  have hu:u=0:=(Int.mul_eq_zero.mp (e1.symm.trans hz)).resolve_left (by omega)
  subst hu
  exact (b1.inj B1.nil).2
theorem σ4 (a:Option Addr) (c:Nat) (bs:List Int) (w:World) (hT:Tab w) (hn:bs.length<=1048576) (hc:bs.length<=c) (hcm:c<=maxLen) (hnil:a=none->c=0) (hr:ζk .u8 w a bs) (hb8:Dig 256 bs):
 Calls prog 5 #[.slice a bs.length c] w fun e w'=>e= .returned true∧Below w.heap.size w w':=by
 have HT:Hid (∀W,Below w.heap.size w W->Tab W):=fun W hb=>hT.later hb
 have HO:=Hid.mk (σ1 a c bs w hn hc hcm hnil hr hb8)
 clear hT hr hb8 hnil hc hcm
 go_enter func5,ntmps5
 go_wp2_with fail
 refine HO.out.mono ?_
 rintro e w1 ⟨t0,t1,t2,t3,t4,t5,t6,t7,t8,s0,s1,s2,s3,s4,s5,u0,u1,u2,u3,u4,u5,u6,u7,u8,l0,l1,l2,ht,hs,hu,hl,rfl,hb1⟩
 have HUS:=Hid.mk hs
 have HUL:=Hid.mk hl
 have HTU:Hid (U32 [t0,t1,t2,t3,t4,t5,t6,t7,t8,u0,u1,u2,u3,u4,u5,u6,u7,u8]):=fun z hz=>(List.mem_append (s:=[t0,t1,t2,t3,t4,t5,t6,t7,t8]) (t:=[u0,u1,u2,u3,u4,u5,u6,u7,u8])).mp hz|>.elim (ht z) (hu z)
 have HTL:Hid (U32 [t0,t1,t2,t3,t4,t5,t6,t7,t8,s0,s1,s2,s3,s4,s5,l0,l1,l2]):=fun z hz=>(List.mem_append (s:=[t0,t1,t2,t3,t4,t5,t6,t7,t8]) (t:=[s0,s1,s2,s3,s4,s5,l0,l1,l2])).mp hz|>.elim (ht z) fun hz=>(List.mem_append (s:=[s0,s1,s2,s3,s4,s5]) (t:=[l0,l1,l2])).mp hz|>.elim (hs z) (hl z)
 have HUU:Hid (U32 [u0,u1,u2,u3,u4,u5,u6,u7,u8,s0,s1,s2,s3,s4,s5]):=fun z hz=>(List.mem_append (s:=[u0,u1,u2,u3,u4,u5,u6,u7,u8]) (t:=[s0,s1,s2,s3,s4,s5])).mp hz|>.elim (hu z) (hs z)
 have HTS:Hid (U32 [t0,t1,t2,t3,t4,t5,t6,t7,t8,s0,s1,s2,s3,s4,s5]):=fun z hz=>(List.mem_append (s:=[t0,t1,t2,t3,t4,t5,t6,t7,t8]) (t:=[s0,s1,s2,s3,s4,s5])).mp hz|>.elim (ht z) (hs z)
 have HTX:Hid (U32 [t3,t4,t5,t0,t1,t2,t6,t7,t8,u0,u1,u2,u3,u4,u5,u6,u7,u8]):=fun z hz=>HTU.out z (by simp only [List.mem_cons,List.not_mem_nil,or_false] at hz;rcases hz with rfl|rfl|rfl|rfl|rfl|rfl|rfl|rfl|rfl|rfl|rfl|rfl|rfl|rfl|rfl|rfl|rfl|rfl<;>simp)
 have HSX:Hid (U32 [s0,s1,s2]):=fun z hz=>hs z (List.mem_append_left [s3,s4,s5] hz)
 have HB1:=Hid.mk hb1
 have HD0:Hid (Sh4 w1 [t0,t1,t2,t3,t4,t5,t6,t7,t8] [s0,s1,s2,s3,s4,s5] [u0,u1,u2,u3,u4,u5,u6,u7,u8] [l0,l1,l2] ((((w1.alloc (.cells #[t0,t1,t2,t3,t4,t5,t6,t7,t8] 36)).alloc (.cells #[s0,s1,s2,s3,s4,s5] 39)).alloc (.cells #[u0,u1,u2,u3,u4,u5,u6,u7,u8] 36)).alloc (.cells #[l0,l1,l2] 34))):=Sh4.start w1 _ _ _ _ _ _ _ _
 obtain ⟨ok,hok⟩: ∃ok,ok=((ζa t0 t1 t2 && ζa t3 t4 t5 && ζa t6 t7 t8) && (ζa u0 u1 u2 && ζa u3 u4 u5 && ζa u6 u7 u8) && (ζa s0 s1 s2 && ζa s3 s4 s5 && !(ζD s3 s4 s5)) && ζa l0 l1 l2):=⟨_,rfl⟩
 have HOK:=Hid.mk hok
 clear ht hu hs hl hb1 HO hok
 go_wp2_with fail
 refine (θr t0 t1 t2 t3 t4 t5 t6 t7 t8 s0 s1 s2 s3 s4 s5 u0 u1 u2 u3 u4 u5 u6 u7 u8 l0 l1 l2 _ HTL.out HUU.out ok HOK.out).mono ?_
 rintro o w2 ⟨hb,h⟩
 have HD1:=Hid.mk (HD0.out.later hb)
 clear hb HD0
 rcases h with ⟨hno,rfl⟩| ⟨rfl,p,q,p',q',g,hS,hg,rfl⟩
 case inl=>
  have HNO:=Hid.mk hno
  clear hno
  obtain ⟨x0,x1,x2,x3,x4,x5,x6,x7,x8⟩:=HD1.out.t.c9
  obtain ⟨y0,y1,y2,y3,y4,y5⟩:=HD1.out.r.c6
  obtain ⟨z0,z1,z2,z3,z4,z5,z6,z7,z8⟩:=HD1.out.h.c9
  have kl0:=HD1.out.l.at 0 rfl
  have kl1:=HD1.out.l.at 1 rfl
  have kl2:=HD1.out.l.at 2 rfl
  go_wp2_with fail
  refine (χo t0 t1 t2 t3 t4 t5 t6 t7 t8 s0 s1 s2 s3 s4 s5 u0 u1 u2 u3 u4 u5 u6 u7 u8 l0 l1 l2 _ (HT.out _ (HB1.out.trans (HD1.out.bel.mono HB1.out.size))) HTU.out HUS.out HUL.out ok HOK.out).mono ?_
  rintro o w3 ⟨hb,⟨_,rfl⟩| ⟨h,p,q,p',q',g,hS,_⟩⟩
  ·have HZ:Hid (Below w.heap.size w w3):=HB1.out.trans ((HD1.out.later hb).bel.mono HB1.out.size)
   clear hb HD1 x0 x1 x2 x3 x4 x5 x6 x7 x8 y0 y1 y2 y3 y4 y5 z0 z1 z2 z3 z4 z5 z6 z7 z8 kl0 kl1 kl2
   go_wp2
   go_ret
   exact ⟨rfl,HZ.out⟩
  ·rcases HNO.out with k|k
   ·rw [h] at k;cases k
   ·exact (hS.not_no k fun _ _ _=> .rfl).elim
 have HSp:=Hid.mk hS
 have HG:=Hid.mk hg
 have HP:Hid (0<=p∧0<q):=⟨((ζ6 _ _ _ _ _ _ _).mp hS.least.1.2).1,hS.hb⟩
 have HOT:=HOK.out.symm
 simp only [Bool.and_eq_true] at HOT
 have HO1:=Hid.mk HOT
 have HOX:Hid (((ζa t3 t4 t5 && ζa t0 t1 t2 && ζa t6 t7 t8) && (ζa u0 u1 u2 && ζa u3 u4 u5 && ζa u6 u7 u8) && (ζa s0 s1 s2 && ζa s3 s4 s5 && !(ζD s3 s4 s5)) && ζa l0 l1 l2)=true):=by
  unfold Hid
  simp only [Bool.and_eq_true]
  obtain ⟨⟨⟨⟨⟨h1,h2⟩,h3⟩,h4⟩,h5⟩,h6⟩:=HO1.out
  exact ⟨⟨⟨⟨⟨h2,h1⟩,h3⟩,h4⟩,h5⟩,h6⟩
 have HOR:Hid (((ζa t0 t1 t2 && ζa t3 t4 t5 && ζa t6 t7 t8) && (ζa u0 u1 u2 && ζa u3 u4 u5 && ζa u6 u7 u8) && (ζa s0 s1 s2 && ζa s3 s4 s5 && !(ζD s3 s4 s5)) && ζa s0 s1 s2)=true):=by
  unfold Hid
  simp only [Bool.and_eq_true]
  exact ⟨HO1.out.1,HO1.out.1.2.1.1⟩
 have HOO:Hid (true=((ζa t0 t1 t2 && ζa t3 t4 t5 && ζa t6 t7 t8) && (ζa u0 u1 u2 && ζa u3 u4 u5 && ζa u6 u7 u8) && (ζa s0 s1 s2 && ζa s3 s4 s5 && !(ζD s3 s4 s5)))):=by
  unfold Hid
  rw [eq_comm]
  simp only [Bool.and_eq_true]
  exact HO1.out.1
 have HOB:Hid (okB t0 t1 t2 t3 t4 t5 t6 t7 t8 s0 s1 s2 s3 s4 s5=true):=by
  unfold Hid okB
  simp only [Bool.and_eq_true]
  exact ⟨HO1.out.1.1.1,HO1.out.1.2⟩
 have HW:Hid ((pv s3 s4 s5).x≠0∨(pv s3 s4 s5).y≠0∨(pv s3 s4 s5).z≠0):=by
  have h:=HO1.out.1.2
  simp only [ζa,Bool.and_eq_true,Bool.not_eq_true'] at h
  obtain ⟨⟨_,⟨r3,r4⟩,r5⟩,hw⟩:=h
  exact τI ⟨(HUS.out s3 (by simp)).1,(HUS.out s3 (by simp)).2,r3⟩ ⟨(HUS.out s4 (by simp)).1,(HUS.out s4 (by simp)).2,r4⟩ ⟨(HUS.out s5 (by simp)).1,(HUS.out s5 (by simp)).2,r5⟩ hw
 obtain ⟨B,hB⟩: ∃B:Bool,B=true↔(φG (pv t0 t1 t2) (pv t3 t4 t5) (pv t6 t7 t8) (pv s0 s1 s2) (pv s3 s4 s5) (pv s0 s1 s2)) p q:=by classical exact ⟨decide _,decide_eq_true_iff⟩
 have HBB:=Hid.mk hB
 clear hS hg HOT hB
 obtain ⟨x0,x1,x2,x3,x4,x5,x6,x7,x8⟩:=HD1.out.t.c9
 obtain ⟨y0,y1,y2,y3,y4,y5⟩:=HD1.out.r.c6
 obtain ⟨z0,z1,z2,z3,z4,z5,z6,z7,z8⟩:=HD1.out.h.c9
 have kl0:=HD1.out.l.at 0 rfl
 have kl1:=HD1.out.l.at 1 rfl
 have kl2:=HD1.out.l.at 2 rfl
 go_wp2_with fail
 refine (ψP t0 t1 t2 t3 t4 t5 t6 t7 t8 s0 s1 s2 s3 s4 s5 u0 u1 u2 u3 u4 u5 u6 u7 u8 l0 l1 l2 _ (HT.out _ (HB1.out.trans (HD1.out.bel.mono HB1.out.size))) HTU.out HUS.out HUL.out HOK.out.symm HSp.out g HG.out).mono ?_
 rintro o w3 ⟨rfl,hb⟩
 have HD2:=Hid.mk (HD1.out.later hb)
 clear hb HD1 x0 x1 x2 x3 x4 x5 x6 x7 x8 y0 y1 y2 y3 y4 y5 z0 z1 z2 z3 z4 z5 z6 z7 z8 kl0 kl1 kl2
 obtain ⟨x0,x1,x2,x3,x4,x5,x6,x7,x8⟩:=HD2.out.t.c9
 obtain ⟨y0,y1,y2,y3,y4,y5⟩:=HD2.out.r.c6
 obtain ⟨z0,z1,z2,z3,z4,z5,z6,z7,z8⟩:=HD2.out.h.c9
 have kl0:=HD2.out.l.at 0 rfl
 have kl1:=HD2.out.l.at 1 rfl
 have kl2:=HD2.out.l.at 2 rfl
 go_wp2_with fail
 refine (ψP t3 t4 t5 t0 t1 t2 t6 t7 t8 s0 s1 s2 s3 s4 s5 u0 u1 u2 u3 u4 u5 u6 u7 u8 l0 l1 l2 _ (HT.out _ (HB1.out.trans (HD2.out.bel.mono HB1.out.size))) HTX.out HUS.out HUL.out HOX.out HSp.out g (HG.out.trans (τg _ _ _ _ _ _ p q).symm)).mono ?_
 rintro o w4 ⟨rfl,hb⟩
 have HD3:=Hid.mk (HD2.out.later hb)
 clear hb HD2 x0 x1 x2 x3 x4 x5 x6 x7 x8 y0 y1 y2 y3 y4 y5 z0 z1 z2 z3 z4 z5 z6 z7 z8 kl0 kl1 kl2
 obtain ⟨x0,x1,x2,x3,x4,x5,x6,x7,x8⟩:=HD3.out.t.c9
 obtain ⟨y0,y1,y2,y3,y4,y5⟩:=HD3.out.r.c6
 obtain ⟨z0,z1,z2,z3,z4,z5,z6,z7,z8⟩:=HD3.out.h.c9
 have kl0:=HD3.out.l.at 0 rfl
 have kl1:=HD3.out.l.at 1 rfl
 have kl2:=HD3.out.l.at 2 rfl
 go_wp2_with fail
 refine (ψP t0 t1 t2 t3 t4 t5 t6 t7 t8 s0 s1 s2 s3 s4 s5 u0 u1 u2 u3 u4 u5 u6 u7 u8 s0 s1 s2 _ (HT.out _ (HB1.out.trans (HD3.out.bel.mono HB1.out.size))) HTU.out HUS.out HSX.out HOR.out HSp.out B HBB.out).mono ?_
 rintro o w5 ⟨rfl,hb⟩
 have HD4:=Hid.mk (HD3.out.later hb)
 clear hb HD3 x0 x1 x2 x3 x4 x5 x6 x7 x8 y0 y1 y2 y3 y4 y5 z0 z1 z2 z3 z4 z5 z6 z7 z8 kl0 kl1 kl2
 obtain ⟨x0,x1,x2,x3,x4,x5,x6,x7,x8⟩:=HD4.out.t.c9
 obtain ⟨y0,y1,y2,y3,y4,y5⟩:=HD4.out.r.c6
 obtain ⟨z0,z1,z2,z3,z4,z5,z6,z7,z8⟩:=HD4.out.h.c9
 have kl0:=HD4.out.l.at 0 rfl
 have kl1:=HD4.out.l.at 1 rfl
 have kl2:=HD4.out.l.at 2 rfl
 go_wp2_with fail
 refine (κV t0 t1 t2 t3 t4 t5 t6 t7 t8 u0 u1 u2 u3 u4 u5 u6 u7 u8 s0 s1 s2 s3 s4 s5 _ (HT.out _ (HB1.out.trans (HD4.out.bel.mono HB1.out.size))) HTU.out HUS.out true HOO.out).mono ?_
 rintro o w6 ⟨hb,⟨h,_⟩| ⟨_,R,S,hR,hS,rfl⟩⟩
 ·cases h
 have HD5:=Hid.mk (HD4.out.later hb)
 clear hb HD4 x0 x1 x2 x3 x4 x5 x6 x7 x8 y0 y1 y2 y3 y4 y5 z0 z1 z2 z3 z4 z5 z6 z7 z8 kl0 kl1 kl2
 have HR:=Hid.mk hR
 have HE:=Hid.mk (Met.order (S':=(p,q,p',q')) hR hR hS (.inl HSp.out))
 rw [HE.out]
 simp only []
 obtain ⟨O,hO⟩: ∃O,O=sgn (R.1*q-p*R.2.1):=⟨_,rfl⟩
 rw [<-hO]
 have HOV:=Hid.mk hO
 clear hR hS hO HE
 obtain ⟨x0,x1,x2,x3,x4,x5,x6,x7,x8⟩:=HD5.out.t.c9
 obtain ⟨y0,y1,y2,y3,y4,y5⟩:=HD5.out.r.c6
 obtain ⟨z0,z1,z2,z3,z4,z5,z6,z7,z8⟩:=HD5.out.h.c9
 have kl0:=HD5.out.l.at 0 rfl
 have kl1:=HD5.out.l.at 1 rfl
 have kl2:=HD5.out.l.at 2 rfl
 go_wp2_with fail
 refine (τr t0 t1 t2 t3 t4 t5 t6 t7 t8 s0 s1 s2 s3 s4 s5 _ (HT.out _ (HB1.out.trans (HD5.out.bel.mono HB1.out.size))) HTS.out).mono ?_
 rintro o w7 ⟨g1,a1,c1,v1,g2,a2,c2,v2,k1,K,rfl,hA,l1,l2,_,_,_,n1,n2,hb⟩
 rw [HOB.out] at hA
 rcases hA with ⟨_,rfl,hA⟩| ⟨h,_⟩
 case inr=>cases h
 have HZ:Hid (Below w.heap.size w w7):=HB1.out.trans ((HD5.out.later hb).bel.mono HB1.out.size)
 have HA:=Hid.mk hA
 clear hA n1 n2 hb HD5 x0 x1 x2 x3 x4 x5 x6 x7 x8 y0 y1 y2 y3 y4 y5 z0 z1 z2 z3 z4 z5 z6 z7 z8 kl0 kl1 kl2
 by_cases h0:0<=O
 ·have hB:B=false:=Bool.eq_false_iff.mpr fun e=>νx HR.out HP.out.2 HP.out.1 HW.out (by rw [<-HOV.out];exact h0) (HBB.out.mp e)
  subst hB
  go_wp2
  go_ret
  exact ⟨rfl,HZ.out.trans ((ξr _ _ _).mono HZ.out.size)⟩
 ·obtain ⟨hq,hd⟩:=τh HR.out HP.out.2 HP.out.1 HW.out (by rw [<-HOV.out];omega)
  cases B
  ·have hv:v1=[]:=τs HA.out HR.out hq (hd.resolve_left fun h=>by have:=HBB.out.mpr h;cases this)
   subst hv
   clear hq hd
   go_wp2
   go_ret
   exact ⟨rfl,HZ.out.trans ((ξr _ _ _).mono HZ.out.size)⟩
  ·clear hq hd
   go_wp2
   go_ret
   exact ⟨rfl,HZ.out.trans ((ξr _ _ _).mono HZ.out.size)⟩
theorem σ5 (a:Option Addr) (n c:Nat) (w:World) (h:(n:Int)>1048576):
 Calls prog 5 #[.slice a n c] w fun e w'=>e= .returned true∧Below w.heap.size w w':=by
 go_enter func5,ntmps5
 go_wp2
 go_ret
 exact ⟨rfl,Below.refl _ _⟩
theorem ρt (a:Option Addr) (c:Nat) (bs:List Int) (w:World) (hT:Tab w) (hc:bs.length<=c) (hcm:c<=maxLen) (hnil:a=none->c=0) (hr:ζk .u8 w a bs) (hb8:Dig 256 bs):
 Calls prog 5 #[.slice a bs.length c] w fun e w'=>e= .returned true∧Below w.heap.size w w':=by
 by_cases h:(1048576:Int)<bs.length
 ·exact σ5 a _ c w h
 ·exact σ4 a c bs w hT (by omega) hc hcm hnil hr hb8
end Go.Proofs.YtfieffpobgcpmaaGreatDoor
