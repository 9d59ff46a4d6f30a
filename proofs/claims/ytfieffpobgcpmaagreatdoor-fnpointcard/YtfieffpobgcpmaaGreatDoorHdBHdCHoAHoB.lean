import Derived.Test.YtfieffpobgcpmaaGreatDoorHdAQ
import Derived.Deep.RegionHeld3
import Derived.Test.YtfieffpobgcpmaaGreatDoorMdERkBFpD
set_option maxRecDepth 100000
set_option maxHeartbeats 32000000
namespace Go.Proofs.YtfieffpobgcpmaaGreatDoor
open Go.RowKit
theorem hitD_badT (t0 t1 t2 t3 t4 t5 t6 t7 t8 s0 s1 s2 s3 s4 s5:Int) (w:World) (ht:U32 [t0,t1,t2,t3,t4,t5,t6,t7,t8]) (hA:(List.range 1).all (triAt [t0,t1,t2,t3,t4,t5,t6,t7,t8])=false):
 Calls Tryz.prog 10 #[.agg #[t0,t1,t2,t3,t4,t5,t6,t7,t8],.agg #[s0,s1,s2,s3,s4,s5]] w fun o w'=>o= .returned (.tuple #[.agg #[false,()],.agg #[false,()],.int .i64 1])∧Below w.heap.size w w':=by
 have HA:Hid ((List.range 1).all (triAt [t0,t1,t2,t3,t4,t5,t6,t7,t8])=false):=hA
 have HU:Hid (U32 [t0,t1,t2,t3,t4,t5,t6,t7,t8]):=ht
 have HD0:Hid (∀s'0 s'1 s'2 s'3,HdS w [t0,t1,t2,t3,t4,t5,t6,t7,t8] [s0,s1,s2,s3,s4,s5] ((((w.alloc (.cells #[t0,t1,t2,t3,t4,t5,t6,t7,t8] s'0)).alloc (.cells #[s0,s1,s2,s3,s4,s5] s'1)).alloc (.cells #[false,()] s'2)).alloc (.cells #[false,()] s'3))):=fun s'0 s'1 s'2 s'3=>HdS.start w _ _ s'0 s'1 s'2 s'3
 go_enter Tryz.func10,Tryz.ntmps10
 go_wp2_with fail
 refine (trisFinite_any _ 1 1 [t0,t1,t2,t3,t4,t5,t6,t7,t8] _ (by omega) rfl HU.out (by have:=tri_row ((((w.alloc (.cells #[t0,t1,t2,t3,t4,t5,t6,t7,t8] 36)).alloc (.cells #[s0,s1,s2,s3,s4,s5] 39)).alloc (.cells #[false,()] 31)).alloc (.cells #[false,()] 31)) t0 t1 t2 t3 t4 t5 t6 t7 t8 36;simpa using this)).mono ?_
 rintro o w1 ⟨rfl,hb1⟩
 rw [HA.out]
 have HD1:Hid (HdS w [t0,t1,t2,t3,t4,t5,t6,t7,t8] [s0,s1,s2,s3,s4,s5] w1):=((HD0.out _ _ _ _).later (bel0 _ _)).later hb1
 clear hb1 HD0
 obtain ⟨y0,y1⟩:=HD1.out.z1.c2
 obtain ⟨w0',w1'⟩:=HD1.out.z2.c2
 have yf:=HD1.out.z1.2.1
 have wf:=HD1.out.z2.2.1
 have HB9:Hid (Below w.heap.size w ((((w1.setCell ⟨w.heap.size+1+1,0,none⟩ false).setCell ⟨w.heap.size+1+1,1,none⟩ ()).setCell ⟨w.heap.size+1+1+1,0,none⟩ false).setCell ⟨w.heap.size+1+1+1,1,none⟩ ())):=(((HD1.out.bel.setCell (by simp<;>omega) _).setCell (by simp<;>omega) _).setCell (by simp<;>omega) _).setCell (by simp<;>omega) _
 go_wp2
 refine bodyPost_ret (v:= .tuple #[.agg #[false,()],.agg #[false,()],.int .i64 1]) (by simp [results,Tryz.results10,go_sem,y0,y1,w0',w1']) rfl ?_
 exact ⟨rfl,HB9.out⟩
theorem hitD_badR (t0 t1 t2 t3 t4 t5 t6 t7 t8 s0 s1 s2 s3 s4 s5:Int) (w:World) (ht:U32 [t0,t1,t2,t3,t4,t5,t6,t7,t8]) (hs:U32 [s0,s1,s2,s3,s4,s5]) (hA:(List.range 1).all (triAt [t0,t1,t2,t3,t4,t5,t6,t7,t8])=true) (hR:(pointB s0 s1 s2 && pointB s3 s4 s5 && !(noWayB s3 s4 s5))=false):
 Calls Tryz.prog 10 #[.agg #[t0,t1,t2,t3,t4,t5,t6,t7,t8],.agg #[s0,s1,s2,s3,s4,s5]] w fun o w'=>o= .returned (.tuple #[.agg #[false,()],.agg #[false,()],.int .i64 1])∧Below w.heap.size w w':=by
 have HA:Hid ((List.range 1).all (triAt [t0,t1,t2,t3,t4,t5,t6,t7,t8])=true):=hA
 have HP:Hid ((pointB s0 s1 s2 && pointB s3 s4 s5 && !(noWayB s3 s4 s5))=false):=hR
 have HU:Hid (U32 [t0,t1,t2,t3,t4,t5,t6,t7,t8]):=ht
 have HD0:Hid (∀s'0 s'1 s'2 s'3,HdS w [t0,t1,t2,t3,t4,t5,t6,t7,t8] [s0,s1,s2,s3,s4,s5] ((((w.alloc (.cells #[t0,t1,t2,t3,t4,t5,t6,t7,t8] s'0)).alloc (.cells #[s0,s1,s2,s3,s4,s5] s'1)).alloc (.cells #[false,()] s'2)).alloc (.cells #[false,()] s'3))):=fun s'0 s'1 s'2 s'3=>HdS.start w _ _ s'0 s'1 s'2 s'3
 go_enter Tryz.func10,Tryz.ntmps10
 go_wp2_with fail
 refine (trisFinite_any _ 1 1 [t0,t1,t2,t3,t4,t5,t6,t7,t8] _ (by omega) rfl HU.out (by have:=tri_row ((((w.alloc (.cells #[t0,t1,t2,t3,t4,t5,t6,t7,t8] 36)).alloc (.cells #[s0,s1,s2,s3,s4,s5] 39)).alloc (.cells #[false,()] 31)).alloc (.cells #[false,()] 31)) t0 t1 t2 t3 t4 t5 t6 t7 t8 36;simpa using this)).mono ?_
 rintro o w1 ⟨rfl,hb1⟩
 rw [HA.out]
 have HD1:Hid (HdS w [t0,t1,t2,t3,t4,t5,t6,t7,t8] [s0,s1,s2,s3,s4,s5] w1):=((HD0.out _ _ _ _).later (bel0 _ _)).later hb1
 clear hb1 HD0
 obtain ⟨x0,x1,x2,x3,x4,x5⟩:=HD1.out.r.c6
 go_wp2_with fail
 refine (proper_any s0 s1 s2 s3 s4 s5 _ (hs s0 (by simp)).1 (hs s0 (by simp)).2 (hs s1 (by simp)).1 (hs s1 (by simp)).2 (hs s2 (by simp)).1 (hs s2 (by simp)).2 (hs s3 (by simp)).1 (hs s3 (by simp)).2 (hs s4 (by simp)).1 (hs s4 (by simp)).2 (hs s5 (by simp)).1 (hs s5 (by simp)).2).mono ?_
 rintro o w2 ⟨rfl,hb2⟩
 rw [HP.out]
 have HD2:=Hid.mk (HD1.out.later hb2)
 clear hb2 HD1 x0 x1 x2 x3 x4 x5
 obtain ⟨y0,y1⟩:=HD2.out.z1.c2
 obtain ⟨w0',w1'⟩:=HD2.out.z2.c2
 have yf:=HD2.out.z1.2.1
 have wf:=HD2.out.z2.2.1
 have HB9:Hid (Below w.heap.size w ((((w2.setCell ⟨w.heap.size+1+1,0,none⟩ false).setCell ⟨w.heap.size+1+1,1,none⟩ ()).setCell ⟨w.heap.size+1+1+1,0,none⟩ false).setCell ⟨w.heap.size+1+1+1,1,none⟩ ())):=(((HD2.out.bel.setCell (by simp<;>omega) _).setCell (by simp<;>omega) _).setCell (by simp<;>omega) _).setCell (by simp<;>omega) _
 go_wp2
 refine bodyPost_ret (v:= .tuple #[.agg #[false,()],.agg #[false,()],.int .i64 1]) (by simp [results,Tryz.results10,go_sem,y0,y1,w0',w1']) rfl ?_
 exact ⟨rfl,HB9.out⟩
def AnsIs (P:Int→Int→Prop) (g:Bool) (zs:List Int) (g':Bool) (ys:List Int):Prop:=
 (NoSpan P∧g=false∧zs=[]∧g'=false∧ys=[])∨ ∃a b c d u v,Span P a b c d∧Low a b u v∧B1 g zs u∧B1 g' ys v∧zs.length≤100∧ys.length≤100
def AnsC (ok:Bool) (P:Int→Int→Prop) (g:Bool) (zs:List Int) (g':Bool) (ys:List Int) (k:Int):Prop:=
 (ok=true∧k=0∧AnsIs P g zs g' ys)∨(ok=false∧k=1∧g=false∧zs=[]∧g'=false∧ys=[])
def HitI (w:World) (ok:Bool) (P:Int→Int→Prop) (o:Ending) (w':World):Prop:=
 ∃(g:Bool) (a:Option Addr) (c:Nat) (zs:List Int) (g':Bool) (a':Option Addr) (c':Nat) (ys:List Int) (k:Int) (K:Nat),o= .returned (.tuple #[.agg #[g,.slice a zs.length c],.agg #[g',.slice a' ys.length c'],.int .i64 k])∧AnsC ok P g zs g' ys k∧zs.length≤100∧ys.length≤100∧w.heap.size≤K∧K≤w'.heap.size∧Under K a zs∧RowNew .u32 w' w.heap.size a zs∧RowNew .u32 w' K a' ys∧Below w.heap.size w w'
theorem ok_tri {t0 t1 t2 t3 t4 t5 t6 t7 t8:Int}:(List.range 1).all (triAt [t0,t1,t2,t3,t4,t5,t6,t7,t8])=(pointB t0 t1 t2 && pointB t3 t4 t5 && pointB t6 t7 t8):=by
 simp [triAt]
def okB (t0 t1 t2 t3 t4 t5 t6 t7 t8 s0 s1 s2 s3 s4 s5:Int):Bool:=(pointB t0 t1 t2 && pointB t3 t4 t5 && pointB t6 t7 t8) && (pointB s0 s1 s2 && pointB s3 s4 s5 && !(noWayB s3 s4 s5))
theorem hitI_all (t0 t1 t2 t3 t4 t5 t6 t7 t8 s0 s1 s2 s3 s4 s5:Int) (w:World) (hT:Tab w) (hu:U32 [t0,t1,t2,t3,t4,t5,t6,t7,t8,s0,s1,s2,s3,s4,s5]):
 Calls Tryz.prog 10 #[.agg #[t0,t1,t2,t3,t4,t5,t6,t7,t8],.agg #[s0,s1,s2,s3,s4,s5]] w fun o w'=>HitI w (okB t0 t1 t2 t3 t4 t5 t6 t7 t8 s0 s1 s2 s3 s4 s5) (Meets (pv t0 t1 t2) (pv t3 t4 t5) (pv t6 t7 t8) (pv s0 s1 s2) (pv s3 s4 s5)) o w':=by
 have hut:U32 [t0,t1,t2,t3,t4,t5,t6,t7,t8]:=fun z hz=>hu z (List.mem_append_left [s0,s1,s2,s3,s4,s5] hz)
 have hus:U32 [s0,s1,s2,s3,s4,s5]:=fun z hz=>hu z (List.mem_append_right [t0,t1,t2,t3,t4,t5,t6,t7,t8] hz)
 have zero: ∀(o:Ending) (w':World),okB t0 t1 t2 t3 t4 t5 t6 t7 t8 s0 s1 s2 s3 s4 s5=false→o= .returned (.tuple #[.agg #[false,()],.agg #[false,()],.int .i64 1])∧Below w.heap.size w w'→HitI w (okB t0 t1 t2 t3 t4 t5 t6 t7 t8 s0 s1 s2 s3 s4 s5) (Meets (pv t0 t1 t2) (pv t3 t4 t5) (pv t6 t7 t8) (pv s0 s1 s2) (pv s3 s4 s5)) o w':=by
  rintro o w' he ⟨rfl,hb⟩
  rw [he]
  exact ⟨false,none,0,[],false,none,0,[],1,w.heap.size,rfl,.inr ⟨rfl,rfl,rfl,rfl,rfl,rfl⟩,by simp,by simp,Nat.le_refl _,hb.size,.inl rfl,.inl rfl,.inl rfl,hb⟩
 by_cases hA:(pointB t0 t1 t2 && pointB t3 t4 t5 && pointB t6 t7 t8)=true
 ·by_cases hR:(pointB s0 s1 s2 && pointB s3 s4 s5 && !(noWayB s3 s4 s5))=true
  ·have hok:okB t0 t1 t2 t3 t4 t5 t6 t7 t8 s0 s1 s2 s3 s4 s5=true:=by unfold okB;rw [hA,hR];rfl
   rw [hok]
   simp only [pointB,Bool.and_eq_true] at hA hR
   obtain ⟨⟨⟨⟨q0,q1⟩,q2⟩,⟨q3,q4⟩,q5⟩,⟨q6,q7⟩,q8⟩:=hA
   obtain ⟨⟨⟨⟨r0,r1⟩,r2⟩,⟨r3,r4⟩,r5⟩,hw⟩:=hR
   refine (hitD_any t0 t1 t2 t3 t4 t5 t6 t7 t8 s0 s1 s2 s3 s4 s5 w hT ⟨(hut t0 (by simp)).1,(hut t0 (by simp)).2,q0⟩ ⟨(hut t1 (by simp)).1,(hut t1 (by simp)).2,q1⟩ ⟨(hut t2 (by simp)).1,(hut t2 (by simp)).2,q2⟩ ⟨(hut t3 (by simp)).1,(hut t3 (by simp)).2,q3⟩ ⟨(hut t4 (by simp)).1,(hut t4 (by simp)).2,q4⟩ ⟨(hut t5 (by simp)).1,(hut t5 (by simp)).2,q5⟩ ⟨(hut t6 (by simp)).1,(hut t6 (by simp)).2,q6⟩ ⟨(hut t7 (by simp)).1,(hut t7 (by simp)).2,q7⟩ ⟨(hut t8 (by simp)).1,(hut t8 (by simp)).2,q8⟩ ⟨(hus s0 (by simp)).1,(hus s0 (by simp)).2,r0⟩ ⟨(hus s1 (by simp)).1,(hus s1 (by simp)).2,r1⟩ ⟨(hus s2 (by simp)).1,(hus s2 (by simp)).2,r2⟩ ⟨(hus s3 (by simp)).1,(hus s3 (by simp)).2,r3⟩ ⟨(hus s4 (by simp)).1,(hus s4 (by simp)).2,r4⟩ ⟨(hus s5 (by simp)).1,(hus s5 (by simp)).2,r5⟩ (by simpa using hw)).mono ?_
   rintro o w' ⟨R,hM,hb,⟨h0,rfl⟩| ⟨h0,u,v,g,a,c,zs,g',a',c',ys,K,rfl,hL,k1,k2,⟨l1,_,_⟩,⟨l2,_,_⟩,hK,hU,n1,n2⟩⟩
   ·have hno:NoSpan (Meets (pv t0 t1 t2) (pv t3 t4 t5) (pv t6 t7 t8) (pv s0 s1 s2) (pv s3 s4 s5)):=by
     rcases hM with h| ⟨h,_⟩
     ·have:=h.hb;omega
     ·exact h
    exact ⟨false,none,0,[],false,none,0,[],0,w.heap.size,rfl,.inl ⟨rfl,rfl,.inl ⟨hno,rfl,rfl,rfl,rfl⟩⟩,by simp,by simp,Nat.le_refl _,hb.size,.inl rfl,.inl rfl,.inl rfl,hb⟩
   ·have hsp:Span (Meets (pv t0 t1 t2) (pv t3 t4 t5) (pv t6 t7 t8) (pv s0 s1 s2) (pv s3 s4 s5)) R.1 R.2.1 R.2.2.1 R.2.2.2:=by
     rcases hM with h| ⟨_,h⟩
     ·exact h
     ·rw [h] at h0;exact absurd rfl h0
    by_cases hKw:K≤w'.heap.size
    ·exact ⟨g,a,c,zs,g',a',c',ys,0,K,rfl,.inl ⟨rfl,rfl,.inr ⟨_,_,_,_,u,v,hsp,hL,k1,k2,l1,l2⟩⟩,l1,l2,hK,hKw,hU,n1,n2,hb⟩
    ·refine ⟨g,a,c,zs,g',a',c',ys,0,w'.heap.size,rfl,.inl ⟨rfl,rfl,.inr ⟨_,_,_,_,u,v,hsp,hL,k1,k2,l1,l2⟩⟩,l1,l2,hb.size,Nat.le_refl _,?_,n1,?_,hb⟩
     ·rcases n1 with h| ⟨b,off,e,h1,h2,_⟩
      ·exact .inl h
      ·exact .inr fun b' off' e'=>by rw [e] at e';injection e' with e';have:=congrArg Addr.block e';simp at this;omega
     ·rcases n2 with h| ⟨b,off,e,h1,h2,_⟩
      ·exact .inl h
      ·omega
  ·have hok:okB t0 t1 t2 t3 t4 t5 t6 t7 t8 s0 s1 s2 s3 s4 s5=false:=by unfold okB;rw [hA];simpa using hR
   exact (hitD_badR t0 t1 t2 t3 t4 t5 t6 t7 t8 s0 s1 s2 s3 s4 s5 w hut hus (by rw [ok_tri];exact hA) (by simpa using hR)).mono fun o w' h=>zero o w' hok h
 ·have hA':(pointB t0 t1 t2 && pointB t3 t4 t5 && pointB t6 t7 t8)=false:=by simpa using hA
  have hok:okB t0 t1 t2 t3 t4 t5 t6 t7 t8 s0 s1 s2 s3 s4 s5=false:=by unfold okB;rw [hA'];rfl
  exact (hitD_badT t0 t1 t2 t3 t4 t5 t6 t7 t8 s0 s1 s2 s3 s4 s5 w hut (by rw [ok_tri];exact hA')).mono fun o w' h=>zero o w' hok h
structure HtS (w:World) (T S:List Value) (W:World):Prop where
 t:Cs W w.heap.size T
 r:Cs W (w.heap.size+1) S
 bel:Below w.heap.size w W
theorem HtS.later {w:World} {T S:List Value} {W W':World} (h:HtS w T S W) (hb:Below W.heap.size W W'):HtS w T S W':=
 ⟨h.t.later hb,h.r.later hb,h.bel.trans (hb.mono h.bel.size)⟩
theorem HtS.start (w:World) (T S:Array Value) (x y:TypeId):HtS w T.toList S.toList ((w.alloc (.cells T x)).alloc (.cells S y)):=by
 have h1:=Cs.new (w.alloc (.cells T x)) S y
 have e1:(w.alloc (.cells T x)).heap.size=w.heap.size+1:=by simp
 rw [e1] at h1
 exact ⟨(Cs.new w T x).later (bel0 _ _),h1,(bel0 _ _).trans ((bel0 _ _).mono (by simp))⟩
def HitB (w:World) (ok:Bool) (P:Int→Int→Prop) (o:Ending) (w':World):Prop:=
 Below w.heap.size w w'∧((ok=false∧o= .returned (.tuple #[.bool false,.int .i64 1]))∨(ok=true∧ ∃R:Int×Int×Int×Int,Met P R∧o= .returned (.tuple #[.bool (decide (R.2.1≠0)),.int .i64 0])))
theorem hits_all (t0 t1 t2 t3 t4 t5 t6 t7 t8 s0 s1 s2 s3 s4 s5:Int) (w:World) (hT:Tab w) (ht:U32 [t0,t1,t2,t3,t4,t5,t6,t7,t8]) (hs:U32 [s0,s1,s2,s3,s4,s5]):
 Calls Tryz.prog 18 #[.agg #[.int .u32 t0,.int .u32 t1,.int .u32 t2,.int .u32 t3,.int .u32 t4,.int .u32 t5,.int .u32 t6,.int .u32 t7,.int .u32 t8],.agg #[.int .u32 s0,.int .u32 s1,.int .u32 s2,.int .u32 s3,.int .u32 s4,.int .u32 s5]] w fun o w'=>HitB w (okB t0 t1 t2 t3 t4 t5 t6 t7 t8 s0 s1 s2 s3 s4 s5) (Meets (pv t0 t1 t2) (pv t3 t4 t5) (pv t6 t7 t8) (pv s0 s1 s2) (pv s3 s4 s5)) o w':=by
 have HU:Hid (U32 [t0,t1,t2,t3,t4,t5,t6,t7,t8]):=ht
 have HR:Hid (U32 [s0,s1,s2,s3,s4,s5]):=hs
 have HT:Hid (∀w',Below w.heap.size w w'→Tab w'):=fun w' hb=>hT.later hb
 have HD0:Hid (HtS w [.int .u32 t0,.int .u32 t1,.int .u32 t2,.int .u32 t3,.int .u32 t4,.int .u32 t5,.int .u32 t6,.int .u32 t7,.int .u32 t8] [.int .u32 s0,.int .u32 s1,.int .u32 s2,.int .u32 s3,.int .u32 s4,.int .u32 s5] ((w.alloc (.cells #[.int .u32 t0,.int .u32 t1,.int .u32 t2,.int .u32 t3,.int .u32 t4,.int .u32 t5,.int .u32 t6,.int .u32 t7,.int .u32 t8] 36)).alloc (.cells #[.int .u32 s0,.int .u32 s1,.int .u32 s2,.int .u32 s3,.int .u32 s4,.int .u32 s5] 39))):=HtS.start w _ _ _ _
 have HO:Hid (okB t0 t1 t2 t3 t4 t5 t6 t7 t8 s0 s1 s2 s3 s4 s5=((List.range 1).all (triAt [t0,t1,t2,t3,t4,t5,t6,t7,t8]) && (pointB s0 s1 s2 && pointB s3 s4 s5 && !(noWayB s3 s4 s5)))):=by unfold Hid;rw [ok_tri];rfl
 have HC:Hid ((List.range 1).all (triAt [t0,t1,t2,t3,t4,t5,t6,t7,t8])=true→Cor t0∧Cor t1∧Cor t2∧Cor t3∧Cor t4∧Cor t5∧Cor t6∧Cor t7∧Cor t8):=by
  unfold Hid;rw [ok_tri];simp only [pointB,Bool.and_eq_true];rintro ⟨⟨⟨⟨q0,q1⟩,q2⟩,⟨q3,q4⟩,q5⟩,⟨q6,q7⟩,q8⟩
  exact ⟨⟨(ht t0 (by simp)).1,(ht t0 (by simp)).2,q0⟩,⟨(ht t1 (by simp)).1,(ht t1 (by simp)).2,q1⟩,⟨(ht t2 (by simp)).1,(ht t2 (by simp)).2,q2⟩,⟨(ht t3 (by simp)).1,(ht t3 (by simp)).2,q3⟩,⟨(ht t4 (by simp)).1,(ht t4 (by simp)).2,q4⟩,⟨(ht t5 (by simp)).1,(ht t5 (by simp)).2,q5⟩,⟨(ht t6 (by simp)).1,(ht t6 (by simp)).2,q6⟩,⟨(ht t7 (by simp)).1,(ht t7 (by simp)).2,q7⟩,⟨(ht t8 (by simp)).1,(ht t8 (by simp)).2,q8⟩⟩
 have HE:Hid ((pointB s0 s1 s2 && pointB s3 s4 s5 && !(noWayB s3 s4 s5))=true→Cor s0∧Cor s1∧Cor s2∧Cor s3∧Cor s4∧Cor s5):=by
  unfold Hid;simp only [pointB,Bool.and_eq_true];rintro ⟨⟨⟨⟨r0,r1⟩,r2⟩,⟨r3,r4⟩,r5⟩,_⟩
  exact ⟨⟨(hs s0 (by simp)).1,(hs s0 (by simp)).2,r0⟩,⟨(hs s1 (by simp)).1,(hs s1 (by simp)).2,r1⟩,⟨(hs s2 (by simp)).1,(hs s2 (by simp)).2,r2⟩,⟨(hs s3 (by simp)).1,(hs s3 (by simp)).2,r3⟩,⟨(hs s4 (by simp)).1,(hs s4 (by simp)).2,r4⟩,⟨(hs s5 (by simp)).1,(hs s5 (by simp)).2,r5⟩⟩
 clear hT ht hs
 go_enter Tryz.func18,Tryz.ntmps18
 go_wp2_with fail
 refine (trisFinite_any _ 1 1 [t0,t1,t2,t3,t4,t5,t6,t7,t8] _ (by omega) rfl HU.out (by have:=tri_row ((w.alloc (.cells #[.int .u32 t0,.int .u32 t1,.int .u32 t2,.int .u32 t3,.int .u32 t4,.int .u32 t5,.int .u32 t6,.int .u32 t7,.int .u32 t8] 36)).alloc (.cells #[.int .u32 s0,.int .u32 s1,.int .u32 s2,.int .u32 s3,.int .u32 s4,.int .u32 s5] 39)) t0 t1 t2 t3 t4 t5 t6 t7 t8 36;simpa using this)).mono ?_
 rintro o w1 ⟨rfl,hb1⟩
 have HD1:Hid (HtS w [.int .u32 t0,.int .u32 t1,.int .u32 t2,.int .u32 t3,.int .u32 t4,.int .u32 t5,.int .u32 t6,.int .u32 t7,.int .u32 t8] [.int .u32 s0,.int .u32 s1,.int .u32 s2,.int .u32 s3,.int .u32 s4,.int .u32 s5] w1):=(HD0.out.later (bel0 _ _)).later hb1
 clear hb1 HD0
 cases hA:(List.range 1).all (triAt [t0,t1,t2,t3,t4,t5,t6,t7,t8])
 ·rw [hA] at HO
  clear HC HE hA
  go_wp2
  refine bodyPost_ret (v:= .tuple #[.bool false,.int .i64 1]) (by simp [results,Tryz.results18,go_sem]) rfl ?_
  exact ⟨HD1.out.bel,.inl ⟨HO.out,rfl⟩⟩
 obtain ⟨q0,q1,q2,q3,q4,q5,q6,q7,q8⟩:=HC.out hA
 rw [hA] at HO
 clear HC hA
 have x0:=HD1.out.r.at 0 rfl
 have x1:=HD1.out.r.at 1 rfl
 have x2:=HD1.out.r.at 2 rfl
 have x3:=HD1.out.r.at 3 rfl
 have x4:=HD1.out.r.at 4 rfl
 have x5:=HD1.out.r.at 5 rfl
 go_wp2_with fail
 refine (proper_any s0 s1 s2 s3 s4 s5 _ (HR.out s0 (by simp)).1 (HR.out s0 (by simp)).2 (HR.out s1 (by simp)).1 (HR.out s1 (by simp)).2 (HR.out s2 (by simp)).1 (HR.out s2 (by simp)).2 (HR.out s3 (by simp)).1 (HR.out s3 (by simp)).2 (HR.out s4 (by simp)).1 (HR.out s4 (by simp)).2 (HR.out s5 (by simp)).1 (HR.out s5 (by simp)).2).mono ?_
 rintro o w2 ⟨rfl,hb2⟩
 have HD2:Hid (HtS w [.int .u32 t0,.int .u32 t1,.int .u32 t2,.int .u32 t3,.int .u32 t4,.int .u32 t5,.int .u32 t6,.int .u32 t7,.int .u32 t8] [.int .u32 s0,.int .u32 s1,.int .u32 s2,.int .u32 s3,.int .u32 s4,.int .u32 s5] w2):=HD1.out.later hb2
 clear hb2 HD1 x0 x1 x2 x3 x4 x5
 cases hA:(pointB s0 s1 s2 && pointB s3 s4 s5 && !(noWayB s3 s4 s5))
 ·rw [hA] at HO
  clear HE hA
  go_wp2
  refine bodyPost_ret (v:= .tuple #[.bool false,.int .i64 1]) (by simp [results,Tryz.results18,go_sem]) rfl ?_
  exact ⟨HD2.out.bel,.inl ⟨HO.out,rfl⟩⟩
 obtain ⟨r0,r1,r2,r3,r4,r5⟩:=HE.out hA
 rw [hA] at HO
 clear HE hA
 have HTT:Hid (∀w',Below w2.heap.size w2 w'→Tab w'):=fun w' hb=>HT.out w' (HD2.out.bel.trans (hb.mono HD2.out.bel.size))
 have HK:Hid (∀w',Below w2.heap.size w2 w'→w'.cell? ⟨w.heap.size,0,none⟩=some (.int .u32 t0)∧w'.cell? ⟨w.heap.size,1,none⟩=some (.int .u32 t1)∧w'.cell? ⟨w.heap.size,2,none⟩=some (.int .u32 t2)∧w'.cell? ⟨w.heap.size,3,none⟩=some (.int .u32 t3)∧w'.cell? ⟨w.heap.size,4,none⟩=some (.int .u32 t4)∧w'.cell? ⟨w.heap.size,5,none⟩=some (.int .u32 t5)∧w'.cell? ⟨w.heap.size,6,none⟩=some (.int .u32 t6)∧w'.cell? ⟨w.heap.size,7,none⟩=some (.int .u32 t7)∧w'.cell? ⟨w.heap.size,8,none⟩=some (.int .u32 t8)∧w'.cell? ⟨w.heap.size+1,0,none⟩=some (.int .u32 s0)∧w'.cell? ⟨w.heap.size+1,1,none⟩=some (.int .u32 s1)∧w'.cell? ⟨w.heap.size+1,2,none⟩=some (.int .u32 s2)∧w'.cell? ⟨w.heap.size+1,3,none⟩=some (.int .u32 s3)∧w'.cell? ⟨w.heap.size+1,4,none⟩=some (.int .u32 s4)∧w'.cell? ⟨w.heap.size+1,5,none⟩=some (.int .u32 s5)∧Below w2.heap.size w2 w'):=fun w' hb=>⟨(HD2.out.t.later hb).at 0 rfl,(HD2.out.t.later hb).at 1 rfl,(HD2.out.t.later hb).at 2 rfl,(HD2.out.t.later hb).at 3 rfl,(HD2.out.t.later hb).at 4 rfl,(HD2.out.t.later hb).at 5 rfl,(HD2.out.t.later hb).at 6 rfl,(HD2.out.t.later hb).at 7 rfl,(HD2.out.t.later hb).at 8 rfl,(HD2.out.r.later hb).at 0 rfl,(HD2.out.r.later hb).at 1 rfl,(HD2.out.r.later hb).at 2 rfl,(HD2.out.r.later hb).at 3 rfl,(HD2.out.r.later hb).at 4 rfl,(HD2.out.r.later hb).at 5 rfl,hb⟩
 have hB0:Below w2.heap.size w2 w2.drew:=(Below.refl _ _).drew
 have TT0:Tab w2.drew:=HTT.out _ hB0
 have K0:=HK.out _ hB0
 go_wp2
 go_region_held3 (fun w'=>w'.cell? ⟨w.heap.size,0,none⟩=some (.int .u32 t0)∧w'.cell? ⟨w.heap.size,1,none⟩=some (.int .u32 t1)∧w'.cell? ⟨w.heap.size,2,none⟩=some (.int .u32 t2)∧w'.cell? ⟨w.heap.size,3,none⟩=some (.int .u32 t3)∧w'.cell? ⟨w.heap.size,4,none⟩=some (.int .u32 t4)∧w'.cell? ⟨w.heap.size,5,none⟩=some (.int .u32 t5)∧w'.cell? ⟨w.heap.size,6,none⟩=some (.int .u32 t6)∧w'.cell? ⟨w.heap.size,7,none⟩=some (.int .u32 t7)∧w'.cell? ⟨w.heap.size,8,none⟩=some (.int .u32 t8)∧w'.cell? ⟨w.heap.size+1,0,none⟩=some (.int .u32 s0)∧w'.cell? ⟨w.heap.size+1,1,none⟩=some (.int .u32 s1)∧w'.cell? ⟨w.heap.size+1,2,none⟩=some (.int .u32 s2)∧w'.cell? ⟨w.heap.size+1,3,none⟩=some (.int .u32 s3)∧w'.cell? ⟨w.heap.size+1,4,none⟩=some (.int .u32 s4)∧w'.cell? ⟨w.heap.size+1,5,none⟩=some (.int .u32 s5)∧Below w2.heap.size w2 w') (first|with_reducible assumption|with_reducible exact HK.out _ (hB3.trans ((bel0 _ _).mono hB3.size))|with_reducible exact HK.out _ (hB2.trans ((bel0 _ _).mono hB2.size))|with_reducible exact HK.out _ (hB1.trans ((bel0 _ _).mono hB1.size))|with_reducible exact HK.out _ (hB0.trans ((bel0 _ _).mono hB0.size)))
  (first
   |(have hBB:=hB2;clear hBB;go_at_call 41;refine (exists_any v4 1120 R.1 R.2.1 R.2.2.1 R.2.2.2 _ (by omega) hv4).mono ?_;rintro o w5 ⟨rfl,hb3⟩;have hB3:Below w2.heap.size w2 w5:=(by first|exact hB2.trans (hb3.mono hB2.size)|exact (hB2.trans ((bel0 _ _).mono hB2.size)).trans (hb3.mono (hB2.trans ((bel0 _ _).mono hB2.size)).size));have TT3:Tab w5:=HTT.out _ hB3;have K3:=HK.out _ hB3)
   |(have hBB:=hB1;clear hBB;go_at_call 40;refine (withinC_any v3 (pv s0 s1 s2) (pv s3 s4 s5) t0 t1 t2 t3 t4 t5 t6 t7 t8 _ (by first|exact TT1|exact TT1.later (bel0 _ _)) hc3 q0 q1 q2 q3 q4 q5 q6 q7 q8).mono ?_;rintro o w4 ⟨R,hM,v4,rfl,hv4,hb2⟩;have HMR:Hid (Met (Meets (pv t0 t1 t2) (pv t3 t4 t5) (pv t6 t7 t8) (pv s0 s1 s2) (pv s3 s4 s5)) R):=hM;have hB2:Below w2.heap.size w2 w4:=(by first|exact hB1.trans (hb2.mono hB1.size)|exact (hB1.trans ((bel0 _ _).mono hB1.size)).trans (hb2.mono (hB1.trans ((bel0 _ _).mono hB1.size)).size));have TT2:Tab w4:=HTT.out _ hB2;have K2:=HK.out _ hB2)
   |(go_at_call 39;refine (courseOf_any s0 s1 s2 s3 s4 s5 _ (by first|exact TT0|exact TT0.later (bel0 _ _)) r0 r1 r2 r3 r4 r5).mono ?_;rintro o w3 ⟨v3,rfl,hc3,hb1⟩;have hB1:Below w2.heap.size w2 w3:=(by first|exact hB0.trans (hb1.mono hB0.size)|exact (hB0.trans ((bel0 _ _).mono hB0.size)).trans (hb1.mono (hB0.trans ((bel0 _ _).mono hB0.size)).size));have TT1:Tab w3:=HTT.out _ hB1;have K1:=HK.out _ hB1))
 all_goals
  go_wp2_with fail
  refine bodyPost_ret (v:= .tuple #[.bool (decide (R.2.1≠0)),.int .i64 0]) (by simp [results,Tryz.results18,go_sem]) rfl ?_
  exact ⟨HD2.out.bel.trans (hB3.mono HD2.out.bel.size),.inr ⟨HO.out,R,HMR.out,rfl⟩⟩
end Go.Proofs.YtfieffpobgcpmaaGreatDoor
