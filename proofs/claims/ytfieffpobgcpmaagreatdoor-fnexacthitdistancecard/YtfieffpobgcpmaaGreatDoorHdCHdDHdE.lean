import Derived.Test.YtfieffpobgcpmaaGreatDoorHdBSpecFnSpecISpecM
import Derived.Test.YtfieffpobgcpmaaGreatDoorMdVQ
import Derived.Test.YtfieffpobgcpmaaGreatDoorMdCRkB
import Derived.Test.YtfieffpobgcpmaaGreatDoorWithinToImV
set_option maxRecDepth 100000
set_option maxHeartbeats 32000000
namespace Go.Proofs.YtfieffpobgcpmaaGreatDoor
open Go.RowKit
def AnsIs (P:Int→Int→Prop) (g:Bool) (zs:List Int) (g':Bool) (ys:List Int):Prop:=
 (NoSpan P∧g=false∧zs=[]∧g'=false∧ys=[])∨ ∃a b c d u v,Span P a b c d∧Low a b u v∧B1 g zs u∧B1 g' ys v∧zs.length≤100∧ys.length≤100
def AnsC (ok:Bool) (P:Int→Int→Prop) (g:Bool) (zs:List Int) (g':Bool) (ys:List Int) (k:Int):Prop:=
 (ok=true∧k=0∧AnsIs P g zs g' ys)∨(ok=false∧k=1∧g=false∧zs=[]∧g'=false∧ys=[])
def HitI (w:World) (ok:Bool) (P:Int→Int→Prop) (o:Ending) (w':World):Prop:=
 ∃(g:Bool) (a:Option Addr) (c:Nat) (zs:List Int) (g':Bool) (a':Option Addr) (c':Nat) (ys:List Int) (k:Int) (K:Nat),o= .returned (.tuple #[.agg #[g,.slice a zs.length c],.agg #[g',.slice a' ys.length c'],.int .i64 k])∧AnsC ok P g zs g' ys k∧zs.length≤100∧ys.length≤100∧w.heap.size≤K∧K≤w'.heap.size∧Under K a zs∧RowNew .u32 w' w.heap.size a zs∧RowNew .u32 w' K a' ys∧Below w.heap.size w w'
def HitS (w:World) (ok:Bool) (P:Int→Int→Prop) (o:Ending) (w':World):Prop:=
 ∃(g:Bool) (a:Option Addr) (c:Nat) (zs:List Int) (g':Bool) (a':Option Addr) (c':Nat) (ys:List Int) (k:Int),o= .returned (.tuple #[.agg #[g,.slice a zs.length c],.agg #[g',.slice a' ys.length c'],.int .i64 k])∧(∀G Z G' Z' k',AnsC ok P G Z G' Z' k'→g=G∧zs=Z∧g'=G'∧ys=Z'∧k=k')∧RowAt .u32 w' a zs∧RowAt .u32 w' a' ys∧Below w.heap.size w w'
theorem res_fit {u:Int} {G g:Bool} {Z zs:List Int} {K:Int} (h:Res true u G Z K) (hb:B1 g zs u) (hl:zs.length≤100):G=g∧Z=zs:=by
 have h2:Res true u g zs 0:= .inr ⟨rfl,g,zs,hb,.inl ⟨by omega,rfl,rfl,rfl⟩⟩
 obtain ⟨e1,e2,_⟩:=h.inj h2
 exact ⟨e1,e2⟩
theorem ok_tri {t0 t1 t2 t3 t4 t5 t6 t7 t8:Int}:(List.range 1).all (triAt [t0,t1,t2,t3,t4,t5,t6,t7,t8])=(pointB t0 t1 t2 && pointB t3 t4 t5 && pointB t6 t7 t8):=by
 simp [triAt]
def okB (t0 t1 t2 t3 t4 t5 t6 t7 t8 s0 s1 s2 s3 s4 s5:Int):Bool:=(pointB t0 t1 t2 && pointB t3 t4 t5 && pointB t6 t7 t8) && (pointB s0 s1 s2 && pointB s3 s4 s5 && !(noWayB s3 s4 s5))
theorem hitI_all (t0 t1 t2 t3 t4 t5 t6 t7 t8 s0 s1 s2 s3 s4 s5:Int) (w:World) (hT:Tab w) (hu:U32 [t0,t1,t2,t3,t4,t5,t6,t7,t8,s0,s1,s2,s3,s4,s5]):
 Calls Tryz.prog 10 #[.agg #[t0,t1,t2,t3,t4,t5,t6,t7,t8],.agg #[s0,s1,s2,s3,s4,s5]] w fun o w'=>HitI w (okB t0 t1 t2 t3 t4 t5 t6 t7 t8 s0 s1 s2 s3 s4 s5) (Meets (pv t0 t1 t2) (pv t3 t4 t5) (pv t6 t7 t8) (pv s0 s1 s2) (pv s3 s4 s5)) o w':=by
 have hut:U32 [t0,t1,t2,t3,t4,t5,t6,t7,t8]:=fun z hz=>hu z (List.mem_append_left [s0,s1,s2,s3,s4,s5] hz)
 have hus:U32 [s0,s1,s2,s3,s4,s5]:=fun z hz=>hu z (List.mem_append_right [t0,t1,t2,t3,t4,t5,t6,t7,t8] hz)
 have zero: ∀(o:Ending) (w':World),okB t0 t1 t2 t3 t4 t5 t6 t7 t8 s0 s1 s2 s3 s4 s5=false→o= .returned (.tuple #[.agg #[false,()],.agg #[false,()],.int .i64 1])∧Below w.heap.size w w'→HitI w (okB t0 t1 t2 t3 t4 t5 t6 t7 t8 s0 s1 s2 s3 s4 s5) (Meets (pv t0 t1 t2) (pv t3 t4 t5) (pv t6 t7 t8) (pv s0 s1 s2) (pv s3 s4 s5)) o w':=by
  rintro o w' he ⟨rfl,hb⟩
  rw [he]
  exact ⟨false,none,0,[],false,none,0,[],1,w.heap.size,rfl,.inr ⟨rfl,rfl,rfl,rfl,rfl,rfl⟩,by simp,by simp,Nat.le_refl _,hb.size,.inl rfl,.inl rfl,.inl rfl,hb⟩
 by_cases hA:(pointB t0 t1 t2 && pointB t3 t4 t5 && pointB t6 t7 t8)=true
 ·by_cases hR:(pointB s0 s1 s2 && pointB s3 s4 s5 && !(noWayB s3 s4 s5))=true
  ·have hok:okB t0 t1 t2 t3 t4 t5 t6 t7 t8 s0 s1 s2 s3 s4 s5=true:=by unfold okB;rw [hA,hR];rfl
   rw [hok]
   simp only [pointB,Bool.and_eq_true] at hA hR
   obtain ⟨⟨⟨⟨q0,q1⟩,q2⟩,⟨q3,q4⟩,q5⟩,⟨q6,q7⟩,q8⟩:=hA
   obtain ⟨⟨⟨⟨r0,r1⟩,r2⟩,⟨r3,r4⟩,r5⟩,hw⟩:=hR
   refine (hitD_any t0 t1 t2 t3 t4 t5 t6 t7 t8 s0 s1 s2 s3 s4 s5 w hT ⟨(hut t0 (by simp)).1,(hut t0 (by simp)).2,q0⟩ ⟨(hut t1 (by simp)).1,(hut t1 (by simp)).2,q1⟩ ⟨(hut t2 (by simp)).1,(hut t2 (by simp)).2,q2⟩ ⟨(hut t3 (by simp)).1,(hut t3 (by simp)).2,q3⟩ ⟨(hut t4 (by simp)).1,(hut t4 (by simp)).2,q4⟩ ⟨(hut t5 (by simp)).1,(hut t5 (by simp)).2,q5⟩ ⟨(hut t6 (by simp)).1,(hut t6 (by simp)).2,q6⟩ ⟨(hut t7 (by simp)).1,(hut t7 (by simp)).2,q7⟩ ⟨(hut t8 (by simp)).1,(hut t8 (by simp)).2,q8⟩ ⟨(hus s0 (by simp)).1,(hus s0 (by simp)).2,r0⟩ ⟨(hus s1 (by simp)).1,(hus s1 (by simp)).2,r1⟩ ⟨(hus s2 (by simp)).1,(hus s2 (by simp)).2,r2⟩ ⟨(hus s3 (by simp)).1,(hus s3 (by simp)).2,r3⟩ ⟨(hus s4 (by simp)).1,(hus s4 (by simp)).2,r4⟩ ⟨(hus s5 (by simp)).1,(hus s5 (by simp)).2,r5⟩ (by simpa using hw)).mono ?_
   rintro o w' ⟨R,hM,hb,⟨h0,rfl⟩| ⟨h0,u,v,g,a,c,zs,g',a',c',ys,K,rfl,hL,k1,k2,⟨l1,_,_⟩,⟨l2,_,_⟩,hK,hU,n1,n2⟩⟩
   ·have hno:NoSpan (Meets (pv t0 t1 t2) (pv t3 t4 t5) (pv t6 t7 t8) (pv s0 s1 s2) (pv s3 s4 s5)):=by
     rcases hM with h| ⟨h,_⟩
     ·have:=h.hb;omega
     ·exact h
    exact ⟨false,none,0,[],false,none,0,[],0,w.heap.size,rfl,.inl ⟨rfl,rfl,.inl ⟨hno,rfl,rfl,rfl,rfl⟩⟩,by simp,by simp,Nat.le_refl _,hb.size,.inl rfl,.inl rfl,.inl rfl,hb⟩
   ·have hsp:Span (Meets (pv t0 t1 t2) (pv t3 t4 t5) (pv t6 t7 t8) (pv s0 s1 s2) (pv s3 s4 s5)) R.1 R.2.1 R.2.2.1 R.2.2.2:=by
     rcases hM with h| ⟨_,h⟩
     ·exact h
     ·rw [h] at h0;exact absurd rfl h0
    by_cases hKw:K≤w'.heap.size
    ·exact ⟨g,a,c,zs,g',a',c',ys,0,K,rfl,.inl ⟨rfl,rfl,.inr ⟨_,_,_,_,u,v,hsp,hL,k1,k2,l1,l2⟩⟩,l1,l2,hK,hKw,hU,n1,n2,hb⟩
    ·refine ⟨g,a,c,zs,g',a',c',ys,0,w'.heap.size,rfl,.inl ⟨rfl,rfl,.inr ⟨_,_,_,_,u,v,hsp,hL,k1,k2,l1,l2⟩⟩,l1,l2,hb.size,Nat.le_refl _,?_,n1,?_,hb⟩
     ·rcases n1 with h| ⟨b,off,e,h1,h2,_⟩
      ·exact .inl h
      ·exact .inr fun b' off' e'=>by rw [e] at e';injection e' with e';have:=congrArg Addr.block e';simp at this;omega
     ·rcases n2 with h| ⟨b,off,e,h1,h2,_⟩
      ·exact .inl h
      ·omega
  ·have hok:okB t0 t1 t2 t3 t4 t5 t6 t7 t8 s0 s1 s2 s3 s4 s5=false:=by unfold okB;rw [hA];simpa using hR
   exact (hitD_badR t0 t1 t2 t3 t4 t5 t6 t7 t8 s0 s1 s2 s3 s4 s5 w hut hus (by rw [ok_tri];exact hA) (by simpa using hR)).mono fun o w' h=>zero o w' hok h
 ·have hA':(pointB t0 t1 t2 && pointB t3 t4 t5 && pointB t6 t7 t8)=false:=by simpa using hA
  have hok:okB t0 t1 t2 t3 t4 t5 t6 t7 t8 s0 s1 s2 s3 s4 s5=false:=by unfold okB;rw [hA'];rfl
  exact (hitD_badT t0 t1 t2 t3 t4 t5 t6 t7 t8 s0 s1 s2 s3 s4 s5 w hut (by rw [ok_tri];exact hA')).mono fun o w' h=>zero o w' hok h
theorem hitS_all (t0 t1 t2 t3 t4 t5 t6 t7 t8 s0 s1 s2 s3 s4 s5:Int) (w:World) (hu:U32 [t0,t1,t2,t3,t4,t5,t6,t7,t8,s0,s1,s2,s3,s4,s5]):
 Calls Tryz.prog 7 #[.agg #[t0,t1,t2,t3,t4,t5,t6,t7,t8],.agg #[s0,s1,s2,s3,s4,s5]] w fun o w'=>HitS w (okB t0 t1 t2 t3 t4 t5 t6 t7 t8 s0 s1 s2 s3 s4 s5) (Meets (pv t0 t1 t2) (pv t3 t4 t5) (pv t6 t7 t8) (pv s0 s1 s2) (pv s3 s4 s5)) o w':=by
 have zero: ∀(o:Ending) (w':World),okB t0 t1 t2 t3 t4 t5 t6 t7 t8 s0 s1 s2 s3 s4 s5=false→o= .returned (.tuple #[.agg #[false,()],.agg #[false,()],.int .i64 1])∧Below w.heap.size w w'→HitS w (okB t0 t1 t2 t3 t4 t5 t6 t7 t8 s0 s1 s2 s3 s4 s5) (Meets (pv t0 t1 t2) (pv t3 t4 t5) (pv t6 t7 t8) (pv s0 s1 s2) (pv s3 s4 s5)) o w':=by
  rintro o w' he ⟨rfl,hb⟩
  rw [he]
  refine ⟨false,none,0,[],false,none,0,[],1,rfl,?_,.inl rfl,.inl rfl,hb⟩
  rintro G Z G' Z' k' (⟨h,_⟩| ⟨_,h1,h2,h3,h4,h5⟩)
  ·cases h
  ·exact ⟨h2.symm,h3.symm,h4.symm,h5.symm,h1.symm⟩
 by_cases hA:(pointB t0 t1 t2 && pointB t3 t4 t5 && pointB t6 t7 t8)=true
 ·by_cases hR:(pointB s0 s1 s2 && pointB s3 s4 s5 && !(noWayB s3 s4 s5))=true
  ·have hok:okB t0 t1 t2 t3 t4 t5 t6 t7 t8 s0 s1 s2 s3 s4 s5=true:=by unfold okB;rw [hA,hR];rfl
   rw [hok]
   refine (hitM_any t0 t1 t2 t3 t4 t5 t6 t7 t8 s0 s1 s2 s3 s4 s5 w hu hA hR).mono ?_
   rintro o w' ⟨hb,⟨hno,rfl⟩| ⟨a,b,c,d,u,v,G,Z,K,A,C,G',Z',K',A',C',hsp,hL,rfl,r1,r2,n1,n2⟩⟩
   ·refine ⟨false,none,0,[],false,none,0,[],0,rfl,?_,.inl rfl,.inl rfl,hb⟩
    rintro G Z G' Z' k' (⟨_,h1,h| ⟨a,b,c,d,u,v,h2,_⟩⟩| ⟨h,_⟩)
    ·exact ⟨h.2.1.symm,h.2.2.1.symm,h.2.2.2.1.symm,h.2.2.2.2.symm,h1.symm⟩
    ·exact (h2.not_no hno (fun _ _ _=>Iff.rfl)).elim
    ·cases h
   ·refine ⟨G,A,C,Z,G',A',C',Z',0,rfl,?_,n1,n2,hb⟩
    rintro G2 Z2 G2' Z2' k' (⟨_,h1,h| ⟨a2,b2,c2,d2,u2,v2,h2,h3,h4,h5,h6,h7⟩⟩| ⟨h,_⟩)
    ·exact (hsp.not_no h.1 (fun _ _ _=>Iff.rfl)).elim
    ·have e:=hsp.same h2 (fun _ _ _=>Iff.rfl)
     obtain ⟨rfl,rfl⟩:=hL.same h3 e
     obtain ⟨e1,e2⟩:=res_fit r1 h4 h6
     obtain ⟨e3,e4⟩:=res_fit r2 h5 h7
     exact ⟨e1,e2,e3,e4,h1.symm⟩
    ·cases h
  ·have hok:okB t0 t1 t2 t3 t4 t5 t6 t7 t8 s0 s1 s2 s3 s4 s5=false:=by unfold okB;rw [hA];simpa using hR
   exact (hitM_badR t0 t1 t2 t3 t4 t5 t6 t7 t8 s0 s1 s2 s3 s4 s5 w hu hA (by simpa using hR)).mono fun o w' h=>zero o w' hok h
 ·have hA':(pointB t0 t1 t2 && pointB t3 t4 t5 && pointB t6 t7 t8)=false:=by simpa using hA
  have hok:okB t0 t1 t2 t3 t4 t5 t6 t7 t8 s0 s1 s2 s3 s4 s5=false:=by unfold okB;rw [hA'];rfl
  exact (hitM_badT t0 t1 t2 t3 t4 t5 t6 t7 t8 s0 s1 s2 s3 s4 s5 w hu hA').mono fun o w' h=>zero o w' hok h
section
variable {P : Program} {ops : Array Oper} {Q : Exit → Act → World → Prop} {md : Region.Mode} {S : World → Prop} {last : Nat}
theorem AnyK.three {i j k n:Nat} {oi oj ok:Oper} {li:Array Bool} {a:Act} {w:World} (hr:Region.ready md ops li=[i,j,k]) (hi:ops[i]? =some oi) (hj:ops[j]? =some oj) (hk:ops[k]? =some ok) (hgi:oi.guard=none) (hgj:oj.guard=none) (hgk:ok.guard=none)
 (h1: ∀K:Act→World→Prop,(∀a' w',(i≠last→S w')→AnyK P md ops Q S last n (li.setIfInBounds i true) a' w'→K a' w')→oi.wp P a w K Q)
 (h2: ∀K:Act→World→Prop,(∀a' w',(j≠last→S w')→AnyK P md ops Q S last n (li.setIfInBounds j true) a' w'→K a' w')→oj.wp P a w K Q)
 (h3: ∀K:Act→World→Prop,(∀a' w',(k≠last→S w')→AnyK P md ops Q S last n (li.setIfInBounds k true) a' w'→K a' w')→ok.wp P a w K Q):AnyK P md ops Q S last (n+1) li a w:=by
 refine ⟨fun q=>absurd q (by rw [hr];simp),fun m hm=> ?_⟩
 rw [hr] at hm
 have:m=i∨m=j∨m=k:=by simpa using hm
 rcases this with rfl|rfl|rfl
 ·unfold wpOp
  rw [hi]
  simp only [Region.wanted,hgi,if_true]
  exact .inl (h1 _ fun a' w' h1 h2=>⟨h1,h2⟩)
 ·unfold wpOp
  rw [hj]
  simp only [Region.wanted,hgj,if_true]
  exact .inl (h2 _ fun a' w' h1 h2=>⟨h1,h2⟩)
 ·unfold wpOp
  rw [hk]
  simp only [Region.wanted,hgk,if_true]
  exact .inl (h3 _ fun a' w' h1 h2=>⟨h1,h2⟩)
theorem AnyP.cbb {c b d n:Nat} {cs:List Nat} {o o' o2:Oper} {li:Array Bool} {a:Act} {w:World} (hr:Region.ready md ops li=[c,b,d]) (hi:ops[c]? =some o) (hj:ops[b]? =some o') (hk:ops[d]? =some o2) (hg:o.guard=none) (hg':o'.guard=none) (hg2:o2.guard=none) (h1:Turn P md ops Q S last cs [b,d] n li a w o c) (h2:Turn P md ops Q S last (c::cs) [d] n li a w o' b) (h3:Turn P md ops Q S last (c::cs) [b] n li a w o2 d):AnyP P md ops Q S last (c::cs) [b,d] (n+1) li a w:=⟨AnyK.three hr hi hj hk hg hg' hg2 h1.k h2.k h3.k⟩
end
theorem RowAt.setNo {w:World} {a:Option Addr} {ds:List Int} {b i:Nat} {u:Value} (h:RowAt .u32 w a ds) (hn:NoInt w b):RowAt .u32 (w.setCell ⟨b,i,none⟩ u) a ds:=by
 rcases h with h3| ⟨q,off,rfl,hq,hc⟩
 ·exact .inl h3
 ·by_cases hz:ds.length=0
  ·exact .inl (List.eq_nil_of_length_eq_zero hz)
  ·refine .inr ⟨q,off,rfl,by simpa using hq,fun j hj=> ?_⟩
   have hne:q≠b:=by
    intro hqb
    subst hqb
    exact hn.2 _ _ _ (hc 0 (by omega))
   rw [World.cell?_setCell_other _ _ _ _ (by intro hh;apply hne;have:=congrArg Addr.block hh;simp at this;exact this.symm)]
   exact hc j hj
theorem RowIn.setNo {w:World} {lo hi:Nat} {a:Option Addr} {ds:List Int} {b i:Nat} {u:Value} (h:RowIn .u32 w lo hi a ds) (hn:NoInt w b):RowIn .u32 (w.setCell ⟨b,i,none⟩ u) lo hi a ds:=by
 rcases h with h3| ⟨q,off,rfl,h0,h1,hq,hc,hf⟩
 ·exact .inl h3
 ·by_cases hz:ds.length=0
  ·exact .inl (List.eq_nil_of_length_eq_zero hz)
  ·refine .inr ⟨q,off,rfl,h0,h1,by simpa using hq,fun j hj=> ?_,fun j hj=>by simpa [go_sem] using hf j hj⟩
   have hne:q≠b:=by
    intro hqb
    subst hqb
    exact hn.2 _ _ _ (hc 0 (by omega))
   rw [World.cell?_setCell_other _ _ _ _ (by intro hh;apply hne;have:=congrArg Addr.block hh;simp at this;exact this.symm)]
   exact hc j hj
theorem RowAt.setNos {a:Option Addr} {ds:List Int} {b:Nat}: ∀(us:List Value) (w:World) (i:Nat),RowAt .u32 w a ds→NoInt w b→(∀u∈us,NotInt u)→RowAt .u32 (setAll w b i us) a ds
 | [],_,_,h,_,_=>h
 |u::us,_,i,h,hn,hu=>RowAt.setNos us _ (i+1) (h.setNo hn) (hn.set (hu u (List.mem_cons_self ..))) (fun z hz=>hu z (List.mem_cons_of_mem _ hz))
theorem RowIn.setNos {lo hi:Nat} {a:Option Addr} {ds:List Int} {b:Nat}: ∀(us:List Value) (w:World) (i:Nat),RowIn .u32 w lo hi a ds→NoInt w b→(∀u∈us,NotInt u)→RowIn .u32 (setAll w b i us) lo hi a ds
 | [],_,_,h,_,_=>h
 |u::us,_,i,h,hn,hu=>RowIn.setNos us _ (i+1) (h.setNo hn) (hn.set (hu u (List.mem_cons_self ..))) (fun z hz=>hu z (List.mem_cons_of_mem _ hz))
theorem rowIn_under {w:World} {B K:Nat} {a:Option Addr} {zs:List Int} (h:RowNew .u32 w B a zs) (hu:Under K a zs):RowIn .u32 w B K a zs:=by
 rcases h with h| ⟨b,off,h1,h2,h3,h4,h5⟩
 ·exact .inl h
 ·rcases hu with hu|hu
  ·exact .inl hu
  ·exact .inr ⟨b,off,h1,h2,hu b off h1,h3,h4,h5⟩
structure TwoB (W0:World) (P Q:Nat) (us vs:List Value) (W:World):Prop where
 p:Cs W P us
 q:Cs W Q vs
 lp:W0.heap.size≤P
 lq:W0.heap.size≤Q
 bel:Below W0.heap.size W0 W
theorem TwoB.later {W0 W W':World} {P Q:Nat} {us vs:List Value} (h:TwoB W0 P Q us vs W) (hb:Below W.heap.size W W'):TwoB W0 P Q us vs W':=
 ⟨h.p.later hb,h.q.later hb,h.lp,h.lq,h.bel.trans (hb.mono h.bel.size)⟩
theorem TwoB.fin {W0 W:World} {P Q:Nat} {zs ys us vs:List Value} (hp:Cs W P zs) (hq:Cs W Q ys) (hne:P≠Q) (h1:zs.length=us.length) (h2:ys.length=vs.length) (hP:W0.heap.size≤P) (hQ:W0.heap.size≤Q) (hb:Below W0.heap.size W0 W):TwoB W0 P Q us vs (setAll (setAll W P 0 us) Q 0 vs):=
 ⟨Cs.setAllO hne vs _ 0 _ (hp.whole us h1),(Cs.setAllO (Ne.symm hne) us W 0 _ hq).whole vs h2,hP,hQ,below_setAll hQ vs _ 0 (below_setAll hP us W 0 hb)⟩
section
variable {ops : Array Oper} {Q : Exit → Act → World → Prop} {md : Region.Mode} {S : World → Prop}
theorem AnyK.end2 {n:Nat} {li:Array Bool} {tm:Array Value} {df:List Deferred} {cur W0:World} {p q kk vp vq vk i j k:Nat} {oi oj ok:Oper} {ty:TypeId} {A B:Nat} {us vs zs ys:List Value} {v:Value}
 (ri:Region.ready md ops li=[i]) (rj:Region.ready md ops (li.setIfInBounds i true)=[j]) (rk:Region.ready md ops ((li.setIfInBounds i true).setIfInBounds j true)=[k]) (rd:Region.ready md ops (((li.setIfInBounds i true).setIfInBounds j true).setIfInBounds k true)=[])
 (hi:ops[i]? =some oi) (hj:ops[j]? =some oj) (hk:ops[k]? =some ok) (gi:oi.guard=none) (gj:oj.guard=none) (gk:ok.guard=none)
 (ei:oi.op= .store ty (.tmp p) (.tmp vp)) (ej:oj.op= .store ty (.tmp q) (.tmp vq)) (ek:ok.op= .assign (.tmp vk)) (di:oi.dst=none) (dj:oj.dst=none) (dk:ok.dst=some kk)
 (hp:tm.getD p undef= .pointer (some ⟨A,0,none⟩)) (hvp:tm.getD vp undef= .agg us.toArray) (hq:tm.getD q undef= .pointer (some ⟨B,0,none⟩)) (hvq:tm.getD vq undef= .agg vs.toArray) (hv:tm.getD vk undef=v)
 (cp:Cs cur A zs) (cq:Cs cur B ys) (lp:zs.length=us.length) (lq:ys.length=vs.length) (sp:(Tryz.prog.info? ty).map (·.size)=some us.length) (sq:(Tryz.prog.info? ty).map (·.size)=some vs.length) (op:us.toArray.all (·.oneCell')=true) (oq:vs.toArray.all (·.oneCell')=true)
 (hne:A≠B) (lA:W0.heap.size≤A) (lB:W0.heap.size≤B) (hB:Below W0.heap.size W0 cur) (hS: ∀w',Below W0.heap.size W0 w'→S w')
 (h:Q .normal ⟨tm.setIfInBounds kk v,df⟩ (setAll (setAll cur A 0 us) B 0 vs)):AnyK Tryz.prog md ops Q S k (n+3) li ⟨tm,df⟩ cur:=by
 refine AnyK.one (i:=i) ri hi gi ?_
 intro K hK
 refine wp_store_mid ty (.tmp p) (.tmp vp) ei A 0 us.toArray hp hvp (by have:=cp.there 0 us.length (by omega);simpa using this) (by simpa using sp) op ?_
 have e1:cur.setCells A 0 us.toArray.toList=setAll cur A 0 us:=by rw [List.toList_toArray];exact setCells_all _ _ _ _
 rw [e1,di]
 refine hK _ _ (fun _=>hS _ (below_setAll lA us cur 0 hB)) ?_
 refine AnyK.one (i:=j) rj hj gj ?_
 intro K2 hK2
 refine wp_store_mid ty (.tmp q) (.tmp vq) ej B 0 vs.toArray hq hvq (by have:=(Cs.setAllO (Ne.symm hne) us cur 0 _ cq).there 0 vs.length (by omega);simpa using this) (by simpa using sq) oq ?_
 have e2:(setAll cur A 0 us).setCells B 0 vs.toArray.toList=setAll (setAll cur A 0 us) B 0 vs:=by rw [List.toList_toArray];exact setCells_all _ _ _ _
 rw [e2,dj]
 refine hK2 _ _ (fun _=>hS _ (below_setAll lB vs _ 0 (below_setAll lA us cur 0 hB))) ?_
 refine AnyK.one (i:=k) rk hk gk ?_
 intro K3 hK3
 have e3:(Act.mk tm df).eval (.tmp vk)=v:=hv
 unfold Oper.wp execOp
 simp only [ek,Act.put,e3,Sem.run_pure]
 refine hK3 _ _ (fun q=>absurd rfl q) ?_
 refine AnyK.done rd ?_
 rw [dk]
 exact h
end
theorem Cs.ne {W:World} {A B:Nat} {us vs:List Value} (_:Cs W A us) (_:Cs W B vs) (h:A≠B):A≠B:=h
theorem Cs.ge {W:World} {A:Nat} {us:List Value} (_:Cs W A us) (W0:World) (h:W0.heap.size≤A):W0.heap.size≤A:=h
theorem TwoB.all {W0 cur:World} {A B:Nat} {zs ys us vs:List Value} (cp:Cs cur A zs) (cq:Cs cur B ys) (np:NoInt cur A) (nq:NoInt cur B) (hne:A≠B) (l1:zs.length=us.length) (l2:ys.length=vs.length) (hu: ∀u∈us,NotInt u) (hv: ∀u∈vs,NotInt u) (lA:W0.heap.size≤A) (lB:W0.heap.size≤B) (hB:Below W0.heap.size W0 cur):
 ∃X,X=setAll (setAll cur A 0 us) B 0 vs∧Hid (TwoB W0 A B us vs X)∧(∀lo hi a ds,RowIn .u32 cur lo hi a ds→Hid (RowIn .u32 X lo hi a ds))∧(∀a ds,RowAt .u32 cur a ds→Hid (RowAt .u32 X a ds))∧X.heap.size=cur.heap.size:=
 ⟨_,rfl,TwoB.fin cp cq hne l1 l2 lA lB hB,fun _ _ _ _ h=>RowIn.setNos _ _ 0 (RowIn.setNos _ _ 0 h np hu) (NoInt.setAllX _ _ 0 nq hu) hv,fun _ _ h=>RowAt.setNos _ _ 0 (RowAt.setNos _ _ 0 h np hu) (NoInt.setAllX _ _ 0 nq hu) hv,by rw [setAll_size,setAll_size]⟩
end Go.Proofs.YtfieffpobgcpmaaGreatDoor
