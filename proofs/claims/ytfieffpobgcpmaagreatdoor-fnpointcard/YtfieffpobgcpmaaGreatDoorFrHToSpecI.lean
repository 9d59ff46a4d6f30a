import Derived.Test.YtfieffpobgcpmaaGreatDoorFwAEsRBhF
import Derived.Test.YtfieffpobgcpmaaGreatDoorHmAQ
import Derived.Test.YtfieffpobgcpmaaGreatDoorEsMEsJEsNBgI
import Derived.Test.YtfieffpobgcpmaaGreatDoorFrCFrDCsA
import Derived.OrdersHeld
import Derived.BigFrame
import Derived.Deep.MidRow
import Derived.Test.YtfieffpobgcpmaaGreatDoorBaseToNum
import Derived.Test.YtfieffpobgcpmaaGreatDoorSpecEToDy1h
set_option maxRecDepth 100000
set_option maxHeartbeats 32000000
namespace Go.Proofs.YtfieffpobgcpmaaGreatDoor
open Go.RowKit
def Met (P:Int→Int→Prop) (R:Int×Int×Int×Int):Prop:=Span P R.1 R.2.1 R.2.2.1 R.2.2.2∨(NoSpan P∧R=(1,0,0,1))
theorem Met.keep {P:Int→Int→Prop} {R:Int×Int×Int×Int} (h:Met P R) (x y:Int):Met (Clip P (-y) x) (whereF R.1 R.2.1 R.2.2.1 R.2.2.2 x y):=by
 rcases h with h| ⟨h,rfl⟩
 ·obtain ⟨a,b,c,d⟩:=R
  simp only at h⊢
  have hle:=h.le
  unfold whereF
  rcases Int.lt_trichotomy x 0 with hx|hx|hx
  ·rw [if_neg (by omega),if_neg (by omega)]
   by_cases h1: -y*d-c* -x<0
   ·rw [if_pos ⟨hx,h1⟩]
    by_cases h2:0<a* -x- -y*b
    ·rw [if_pos h2];exact .inr ⟨h.down_no hx (by omega),rfl⟩
    ·rw [if_neg h2];exact .inl (h.down hx (by omega) (by omega))
   ·rw [if_neg (by omega),if_neg (by omega)]
    exact .inl (h.down_stay hx (by omega) (h.down_end hx (f:= -y) (by omega)))
  ·subst hx
   by_cases hy:0<y
   ·rw [if_pos ⟨rfl,hy⟩];exact .inr ⟨noSpan_clip0 P (by omega),rfl⟩
   ·rw [if_neg (by omega),if_neg (by omega),if_neg (by omega),if_neg (by omega)]
    exact .inl (h.clip0 (by omega))
  ·rw [if_neg (by omega)]
   have e: - -y=y:=Int.neg_neg y
   by_cases h1:0<y*b-a*x
   ·rw [if_pos ⟨hx,h1⟩]
    by_cases h2:0<y*d-c*x
    ·rw [if_pos h2];exact .inr ⟨h.up_no hx (by rw [e];omega),rfl⟩
    ·rw [if_neg h2]
     have:=h.up (f:= -y) hx (by rw [e];omega) (by rw [e];omega)
     rw [e] at this
     exact .inl this
   ·rw [if_neg (by omega),if_neg (by omega),if_neg (by omega)]
    exact .inl (h.up_stay hx (by rw [e];omega))
 ·refine .inr ⟨h.clip _ _,?_⟩
  unfold whereF
  simp only
  by_cases h1:x=0∧0<y
  ·rw [if_pos h1]
  ·rw [if_neg h1,if_neg (by omega)]
   by_cases h2:x<0∧ -y*1-0* -x<0
   ·rw [if_pos h2,if_pos (by omega)]
   ·rw [if_neg h2,if_pos (by omega)]
theorem met_all:Met (fun p _=>0≤p) (0,1,1,0):= .inl span_all
theorem Met.same {P Q:Int→Int→Prop} {R S:Int×Int×Int×Int} (h:Met P R) (h':Met Q S) (hpq: ∀p q,P p q↔Q p q):R.1*S.2.1=S.1*R.2.1∧decide (R.2.1≠0)=decide (S.2.1≠0)∧0≤R.2.1:=by
 rcases h with h| ⟨h,rfl⟩<;>rcases h' with h'| ⟨h',rfl⟩
 ·have:=h.hb;have:=h'.hb
  exact ⟨h.same h' fun p q _=>hpq p q,by rw [decide_eq_decide];omega,by omega⟩
 ·exact (h.not_no h' fun p q _=>hpq p q).elim
 ·exact (h'.not_no h fun p q _=>(hpq p q).symm).elim
 ·simp
theorem mulb {x y a b:Int} (hx: -a≤x∧x≤a) (hy: -b≤y∧y≤b): -(a*b)≤x*y∧x*y≤a*b:=by
 have h1:0≤(a-x)*(b+y):=Int.mul_nonneg (by omega) (by omega)
 have h2:0≤(a+x)*(b-y):=Int.mul_nonneg (by omega) (by omega)
 have h3:0≤(a+x)*(b+y):=Int.mul_nonneg (by omega) (by omega)
 have h4:0≤(a-x)*(b-y):=Int.mul_nonneg (by omega) (by omega)
 have e1:(a-x)*(b+y)=a*b+a*y-x*b-x*y:=by grind
 have e2:(a+x)*(b-y)=a*b-a*y+x*b-x*y:=by grind
 have e3:(a+x)*(b+y)=a*b+a*y+x*b+x*y:=by grind
 have e4:(a-x)*(b-y)=a*b-a*y-x*b+x*y:=by grind
 omega
def Bnd3 (k:Int) (a:V3):Prop:=(-k≤a.x∧a.x≤k)∧(-k≤a.y∧a.y≤k)∧(-k≤a.z∧a.z≤k)
theorem Bnd3.sub {k l:Int} {a b:V3} (h:Bnd3 k a) (h':Bnd3 l b):Bnd3 (k+l) (a.sub b):=by
 obtain ⟨h1,h2,h3⟩:=h
 obtain ⟨k1,k2,k3⟩:=h'
 unfold Bnd3 V3.sub
 exact ⟨by simp only;omega,by simp only;omega,by simp only;omega⟩
theorem Bnd3.cross {k l:Int} {a b:V3} (h:Bnd3 k a) (h':Bnd3 l b):Bnd3 (2*(k*l)) (a.cross b):=by
 obtain ⟨h1,h2,h3⟩:=h
 obtain ⟨k1,k2,k3⟩:=h'
 have m1:=mulb h1 k2;have m2:=mulb h1 k3;have m3:=mulb h2 k1;have m4:=mulb h2 k3;have m5:=mulb h3 k1;have m6:=mulb h3 k2
 unfold Bnd3 V3.cross
 exact ⟨by simp only;omega,by simp only;omega,by simp only;omega⟩
theorem Bnd3.dot {k l:Int} {a b:V3} (h:Bnd3 k a) (h':Bnd3 l b): -(3*(k*l))≤a.dot b∧a.dot b≤3*(k*l):=by
 obtain ⟨h1,h2,h3⟩:=h
 obtain ⟨k1,k2,k3⟩:=h'
 have m1:=mulb h1 k1;have m2:=mulb h2 k2;have m3:=mulb h3 k3
 unfold V3.dot
 omega
theorem Bnd3.nrm {A B C:V3} (a:Bnd3 8 A) (b:Bnd3 8 B) (c:Bnd3 8 C):Bnd3 512 (nrm A B C):=(b.sub a).cross (c.sub a)
theorem meets_mul {A B C O D:V3} {k u v:Int} (hk:0<k) (h:Meets A B C O D (k*u) (k*v)):Meets A B C O D u v:=by
 obtain ⟨h0,h1,h2,h3,h4,h5⟩:=h
 refine ⟨h0,(pos_scale hk rfl).mp h1,(zero_scale hk ?_).mp h2,(pos_scale hk ?_).mp h3,(pos_scale hk ?_).mp h4,(pos_scale hk ?_).mp h5⟩<;>grind
theorem low_least {A B C O D:V3} {a b c d u v:Int} (h:Span (Meets A B C O D) a b c d) (hl:Low a b u v):Meets A B C O D u v∧ ∀p q,0<q→Meets A B C O D p q→u*q≤p*v:=by
 obtain ⟨⟨k,hk,rfl,rfl⟩,_,hv⟩:=hl
 refine ⟨meets_mul hk h.least.1,fun p q hq hp=> ?_⟩
 have h1:=h.least.2 p q hq hp
 have h2:k*(u*q)≤k*(p*v):=by
  have e1:k*(u*q)=k*u*q:=by grind
  have e2:k*(p*v)=p*(k*v):=by grind
  rw [e1,e2];exact h1
 exact Int.le_of_mul_le_mul_left h2 hk
theorem near_side {f g u v N:Int} (h:0≤f*v+u*g) (hg:0<g→f*v+u*g≠0) (hN:g≤N) (hN1:1≤N):0≤f*(v*N)+(u*N-1)*g:=by
 have e:f*(v*N)+(u*N-1)*g=N*(f*v+u*g)-g:=by grind
 rw [e]
 rcases Int.lt_or_le 0 g with h1|h1
 ·have h2:=hg h1
  have h3:N*1≤N*(f*v+u*g):=Int.mul_le_mul_of_nonneg_left (by omega) (by omega)
  omega
 ·have h3:0≤N*(f*v+u*g):=Int.mul_nonneg (by omega) h
  omega
theorem first_edge {A B C O D:V3} {u v:Int} (hv:0<v) (hu:0<u) (hD:(nrm A B C).dot D=0) (h:Meets A B C O D u v) (hl: ∀p q,0<q→Meets A B C O D p q→u*q≤p*v):
 (0<((nrm A B C).cross (B.sub A)).dot D∧((nrm A B C).cross (B.sub A)).dot (O.sub A)*v+u*((nrm A B C).cross (B.sub A)).dot D=0)∨
 (0<((nrm A B C).cross (C.sub B)).dot D∧((nrm A B C).cross (C.sub B)).dot (O.sub B)*v+u*((nrm A B C).cross (C.sub B)).dot D=0)∨
 (0<((nrm A B C).cross (A.sub C)).dot D∧((nrm A B C).cross (A.sub C)).dot (O.sub C)*v+u*((nrm A B C).cross (A.sub C)).dot D=0):=by
 apply Classical.byContradiction
 intro hno
 obtain ⟨h0,h1,h2,h3,h4,h5⟩:=h
 have hl': ∀N,1≤N→((nrm A B C).cross (B.sub A)).dot D≤N→((nrm A B C).cross (C.sub B)).dot D≤N→((nrm A B C).cross (A.sub C)).dot D≤N→u*(v*N)≤(u*N-1)*v:=by
  intro N hN k1 k2 k3
  refine hl _ _ (Int.mul_pos hv (by omega)) ⟨h0,?_,?_,near_side h3 (fun a b=>hno (.inl ⟨a,b⟩)) k1 hN,near_side h4 (fun a b=>hno (.inr (.inl ⟨a,b⟩))) k2 hN,near_side h5 (fun a b=>hno (.inr (.inr ⟨a,b⟩))) k3 hN⟩
  ·have:1*1≤u*N:=Int.mul_le_mul (by omega) hN (by omega) (by omega)
   omega
  ·rw [hD] at h2⊢
   have:(nrm A B C).dot (O.sub A)*(v*N)+(u*N-1)*0=N*((nrm A B C).dot (O.sub A)*v+u*0):=by grind
   rw [this,h2];omega
 generalize ((nrm A B C).cross (B.sub A)).dot D=g0 at*
 generalize ((nrm A B C).cross (C.sub B)).dot D=g1 at*
 generalize ((nrm A B C).cross (A.sub C)).dot D=g2 at*
 have:=hl' (max 1 (max g0 (max g1 g2))) (by omega) (by omega) (by omega) (by omega)
 generalize max 1 (max g0 (max g1 g2))=N at*
 have e:(u*N-1)*v=u*(v*N)-v:=by grind
 omega
theorem low_bound {f g u v K:Int} (hc:Int.gcd u v=1) (hv:0<v) (hu:0≤u) (hg:g≠0) (h:f*v+u*g=0) (hf: -K≤f∧f≤K) (hK: -K≤g∧g≤K):u≤K∧v≤K:=by
 have d1:v∣g:=by
  refine dvd_co (u:=u) ⟨-f,?_⟩ hc
  have:v* -f= -(f*v):=by grind
  omega
 have v1:v≤K:=by
  have:=Int.le_of_dvd (show 0<(g.natAbs:Int) by omega) (Int.dvd_natAbs.mpr d1)
  omega
 refine ⟨?_,v1⟩
 rcases Int.lt_or_le 0 u with h1|h1
 ·have d2:u∣f:=by
   refine dvd_co (u:=v) ⟨-g,?_⟩ (by rw [Int.gcd_comm];exact hc)
   have:u* -g= -(u*g):=by grind
   have:v*f=f*v:=Int.mul_comm _ _
   omega
  have hf0:f≠0:=by
   rintro rfl
   have:u*g=0:=by omega
   rcases Int.mul_eq_zero.mp this with h|h<;>omega
  have:=Int.le_of_dvd (show 0<(f.natAbs:Int) by omega) (Int.dvd_natAbs.mpr d2)
  omega
 ·omega
theorem first_small {A B C O D:V3} {a b c d u v:Int} (hA:Bnd3 8 A) (hB:Bnd3 8 B) (hC:Bnd3 8 C) (hO:Bnd3 8 O) (hD:Bnd3 8 D) (h:Span (Meets A B C O D) a b c d) (hl:Low a b u v):0≤u∧u≤10000000∧0<v∧v≤10000000:=by
 obtain ⟨hm,hl'⟩:=low_least h hl
 have hu:0≤u:=hm.2.1
 have hn:=hA.nrm hB hC
 have key:u≤1000000∧v≤1000000:=by
  by_cases hd:(nrm A B C).dot D=0
  ·rcases Int.lt_or_le 0 u with h0|h0
   ·have side: ∀X Y:V3,Bnd3 8 X→Bnd3 8 Y→0<((nrm A B C).cross (Y.sub X)).dot D→((nrm A B C).cross (Y.sub X)).dot (O.sub X)*v+u*((nrm A B C).cross (Y.sub X)).dot D=0→u≤1000000∧v≤1000000:=by
     intro X Y hX hY hg he
     have hs:=hn.cross (hY.sub hX)
     have b1:=hs.dot (hO.sub hX)
     have b2:=hs.dot hD
     exact low_bound hl.co hl.hv hu (by omega) he (by omega) (by omega)
    rcases first_edge hl.hv h0 hd hm hl' with ⟨h1,h2⟩| ⟨h1,h2⟩| ⟨h1,h2⟩
    ·exact side _ _ hA hB h1 h2
    ·exact side _ _ hB hC h1 h2
    ·exact side _ _ hC hA h1 h2
   ·have e:u=0:=by omega
    have:=hl.co
    rw [e,Int.gcd_zero_left] at this
    have:=hl.hv
    omega
  ·have b1:=hn.dot (hO.sub hA)
   have b2:=hn.dot hD
   exact low_bound hl.co hl.hv hu hd hm.2.2.1 (by omega) (by omega)
 have:=hl.hv
 omega
def Ce (W:World) (b:Nat) (us:List Value):Prop:=b<W.heap.size∧ ∀j u,us[j]? =some u→W.cell? ⟨b,j,none⟩=some u
theorem Ce.at {W:World} {b:Nat} {us:List Value} (h:Ce W b us) (j:Nat) {u:Value} (hj:us[j]? =some u):W.cell? ⟨b,j,none⟩=some u:=h.2 j u hj
theorem Cs.ce {W:World} {b:Nat} {us:List Value} (h:Cs W b us):Ce W b us:=⟨h.1,fun j _ hj=>h.at j hj⟩
theorem Ce.later {W W':World} {b:Nat} {us:List Value} (h:Ce W b us) (hb:Below W.heap.size W W'):Ce W' b us:=
 ⟨Nat.lt_of_lt_of_le h.1 hb.size,fun j u hj=>(hb.cell (p:=⟨b,j,none⟩) h.1).trans (h.2 j u hj)⟩
theorem Ce.stay {W W':World} {b:Nat} {us:List Value} (h:Ce W b us) (hs:W.heap.size≤W'.heap.size) (hk:W'.heap[b]? =W.heap[b]?):Ce W' b us:=
 ⟨Nat.lt_of_lt_of_le h.1 hs,fun j u hj=>by rw [World.cell?_of_block (w:=W) hk];exact h.2 j u hj⟩
def I3 (W:World) (v:Value) (X:V3):Prop:= ∃b:Nat,v= .slice (some ⟨b,0,none⟩) 3 3∧Ce W b [.int .i64 X.x,.int .i64 X.y,.int .i64 X.z]
theorem I3.later {W W':World} {v:Value} {X:V3} (h:I3 W v X) (hb:Below W.heap.size W W'):I3 W' v X:=by
 obtain ⟨b,rfl,h⟩:=h
 exact ⟨b,rfl,h.later hb⟩
def I3Out (w:World) (X:V3) (o:Ending) (w':World):Prop:= ∃v,o= .returned v∧I3 w' v X∧Below w.heap.size w w'
theorem wrap_p {n:Int} (h0: -9223372036854775808≤n∧n≤9223372036854775807):IntKind.i64.wrap n=n:=by
 unfold IntKind.wrap
 simp [IntKind.bits,IntKind.signed]
 omega
theorem lminus_any (u v:Value) (A B:V3) (w:World) (hA:Bnd3 1000000000000 A) (hB:Bnd3 1000000000000 B) (hu:I3 w u A) (hv:I3 w v B):Calls Tryz.prog 28 #[u,v] w (I3Out w (A.sub B)):=by
 obtain ⟨b,rfl,hu⟩:=hu
 obtain ⟨c,rfl,hv⟩:=hv
 obtain ⟨x,y,z⟩:=A
 obtain ⟨x',y',z'⟩:=B
 unfold Bnd3 at hA hB
 simp only at hu hv hA hB
 have e0:=hu.at 0 rfl
 have e1:=hu.at 1 rfl
 have e2:=hu.at 2 rfl
 have f0:=hv.at 0 rfl
 have f1:=hv.at 1 rfl
 have f2:=hv.at 2 rfl
 have w0:=wrap_p (n:=x-x') (by omega)
 have w1:=wrap_p (n:=y-y') (by omega)
 have w2:=wrap_p (n:=z-z') (by omega)
 clear hu hv hA hB
 go_enter Tryz.func28,Tryz.ntmps28
 go_wp2
 go_region
 go_wp2
 go_ret
 exact ⟨_,rfl,⟨_,rfl,(Cs.new _ _ _).ce.later ((Below.refl _ _).drew)⟩,(bel0 _ _).drew⟩
theorem ldot_any (u v:Value) (A B:V3) (k l:Int) (w:World) (hA:Bnd3 k A) (hB:Bnd3 l B) (hk:k*l≤1000000000000000000) (hu:I3 w u A) (hv:I3 w v B):Calls Tryz.prog 29 #[u,v] w fun o w'=>o= .returned (.int .i64 (A.dot B))∧Below w.heap.size w w':=by
 obtain ⟨b,rfl,hu⟩:=hu
 obtain ⟨c,rfl,hv⟩:=hv
 obtain ⟨x,y,z⟩:=A
 obtain ⟨x',y',z'⟩:=B
 unfold Bnd3 at hA hB
 simp only at hu hv hA hB
 have e0:=hu.at 0 rfl
 have e1:=hu.at 1 rfl
 have e2:=hu.at 2 rfl
 have f0:=hv.at 0 rfl
 have f1:=hv.at 1 rfl
 have f2:=hv.at 2 rfl
 have mxx:=mulb hA.1 hB.1
 have myy:=mulb hA.2.1 hB.2.1
 have mzz:=mulb hA.2.2 hB.2.2
 have w0:=wrap_p (n:=x*x') (by omega)
 have w1:=wrap_p (n:=y*y') (by omega)
 have w2:=wrap_p (n:=z*z') (by omega)
 have w3:=wrap_p (n:=x*x'+y*y') (by omega)
 have w4:=wrap_p (n:=x*x'+y*y'+z*z') (by omega)
 clear hu hv hA hB hk mxx myy mzz
 go_enter Tryz.func29,Tryz.ntmps29
 go_wp2
 go_region
 go_wp2
 go_ret
 exact ⟨rfl,(Below.refl _ _).drew⟩
theorem smallL_any (a:Option Addr) (c:Nat) (zs:List Int) (u:Int) (w:World) (hz:RowAt .u32 w a zs) (h:zs=[]∧u=0∨zs=[u]) (h0:0≤u) (h1:u≤10000000):
 Calls Tryz.prog 26 #[.agg #[.bool false,.slice a zs.length c]] w fun o w'=>o= .returned (.tuple #[.int .i64 u,.bool true])∧Below w.heap.size w w':=by
 rcases h with ⟨rfl,rfl⟩|rfl
 ·go_enter Tryz.func26,Tryz.ntmps26
  go_wp2
  go_ret2
  exact ⟨rfl,bel0 _ _⟩
 ·obtain ⟨b,off,rfl,hb,hc⟩:=hz.resolve_left (by simp)
  have c0:=hc 0 (by simp)
  simp only [Nat.add_zero,List.getD_cons_zero] at c0
  have c1:(w.alloc (.cells #[.bool false,.slice (some ⟨b,off,none⟩) 1 c] 31)).cell? ⟨b,off,none⟩=some (.int .u32 u):=by
   rw [World.cell?_alloc_past _ _ _ hb];exact c0
  have hg: ¬(u>10000000):=by omega
  clear hc c0
  go_enter Tryz.func26,Tryz.ntmps26
  go_wp2
  go_ret2
  exact ⟨rfl,bel0 _ _⟩
section
variable {P : Program} {ops : Array Oper} {Q : Exit → Act → World → Prop} {md : Region.Mode} {S : World → Prop} {last : Nat}
def AnyK (P:Program) (md:Region.Mode) (ops:Array Oper) (Q:Exit→Act→World→Prop) (S:World→Prop) (last:Nat):Nat→Array Bool→Act→World→Prop
 |0,li,a,w=>Region.ready md ops li=[]∧Q .normal a w
 |n+1,li,a,w=>(Region.ready md ops li=[]→Q .normal a w)∧
  ∀i∈Region.ready md ops li,wpOp P ops Q i (fun a' w'=>(i≠last→S w')∧AnyK P md ops Q S last n (li.setIfInBounds i true) a' w') a w
theorem AnyK.any: ∀(n:Nat) (li:Array Bool) (a:Act) (w:World),AnyK P md ops Q S last n li a w→wpAny P md ops Q n li a w
 |0,_,_,_,h=>h
 |n+1,_,_,_,h=>⟨h.1,fun i hi=>wpOp_mono (fun a' w' q=>AnyK.any n _ a' w' q.2) (h.2 i hi)⟩
theorem not_ready {i j:Nat} {o:Oper} {li:Array Bool} (hi:i∈Region.ready md ops li) (ho:ops[j]? =some o) (he: ∃e∈o.after,Region.binds md e=true∧e.on=i):j ∉ Region.ready md ops li:=by
 intro hj
 obtain ⟨e,he,hb,rfl⟩:=he
 obtain ⟨_,o',ho',hall⟩:=mem_ready.1 hj
 rw [ho] at ho'
 cases ho'
 have h1:=hall e he hb
 have h0:=(mem_ready.1 hi).1
 rcases Nat.lt_or_ge e.on li.size with h|h
 ·simp [h] at h0 h1
  rw [h0] at h1
  cases h1
 ·simp [Array.getElem?_eq_none h] at h1
theorem AnyK.first {i:Nat} {o ol:Oper} {v:Value} (hi:ops[i]? =some o) (hs: ∀(j:Nat) (o:Oper) cs b,ops[j]? =some o→o.op≠ .select cs b)
 (hQ: ∀c a w,Q (.panic c) (a.put o.dst v) w→Q (.panic c) a w) (hol:ops[last]? =some ol) (hel: ∃e∈ol.after,Region.binds md e=true∧e.on=i) (hne:i≠last):
 ∀(n:Nat) (li:Array Bool) (a:Act) (w:World),
  (∀j oj,ops[j]? =some oj→j≠i→li.getD j true=false→(∀e∈oj.after,Region.binds md e=true→e.on≠i)→o.apart ops oj=true)→
  i∈Region.ready md ops li→YieldsIf P ops S o v a→S w→
  AnyK P md ops Q S last n (li.setIfInBounds i true) (a.put o.dst v) w→AnyK P md ops Q S last (n+1) li a w:=by
 intro n
 induction n with
 |zero=>
  intro li a w _ hr hy hw H
  refine ⟨fun h=>absurd hr (by rw [h];simp),fun j hj=> ?_⟩
  rcases Nat.decEq j i with e|e
  ·exact absurd (ready_mono hj e) (by rw [H.1];simp)
  ·subst e;exact hy.wpOp hi hw ⟨fun _=>hw,H⟩
 |succ n ih=>
  intro li a w hf hr hy hw H
  refine ⟨fun h=>absurd hr (by rw [h];simp),fun j hj=> ?_⟩
  rcases Nat.decEq j i with e|e
  ·have hjl:j≠last:=fun q=>not_ready hr hol hel (q▸hj)
   obtain ⟨hun,oj,hoj,_⟩:=mem_ready.1 hj
   have hno: ∀e∈oj.after,Region.binds md e=true→e.on≠i:=fun x hx hb q=>not_ready hr hoj ⟨x,hx,hb,q⟩ hj
   have h2:=wpOp_putIf hoj (hf j oj hoj e hun hno) (fun cs b=>hs i o cs b hi) (fun cs b=>hs j oj cs b hoj) hQ hy (H.2 j (ready_mono hj e))
   refine wpOp_mono (fun a' w' q=>⟨q.2.1,ih _ a' w' ?_ (ready_mono hr (Ne.symm e)) q.1 (q.2.1 hjl) ?_⟩) h2
   ·intro k ok hk hki hku hkn
    refine hf k ok hk hki ?_ hkn
    rcases Nat.decEq j k with q|q
    ·rw [getD_set_ne true q] at hku;exact hku
    ·subst q;exact hun
   ·rw [Array.setIfInBounds_comm _ _ e]
    exact q.2.2
  ·subst e;exact hy.wpOp hi hw ⟨fun _=>hw,H⟩
theorem AnyK.take {i n:Nat} {o ol:Oper} {v:Value} {li:Array Bool} {a:Act} {w:World} (hi:ops[i]? =some o) (hol:ops[last]? =some ol)
 (hs:Region.noSelect ops=true) (hf:Region.free md ops li i=true) (hr:(Region.ready md ops li).contains i=true) (hel:(ol.after.any fun e=>Region.binds md e && e.on==i)=true) (hne:(i==last)=false)
 (hQ: ∀c a w,Q (.panic c) (a.put o.dst v) w→Q (.panic c) a w) (hy:YieldsIf P ops S o v a) (hw:S w)
 (h:AnyK P md ops Q S last n (li.setIfInBounds i true) (a.put o.dst v) w):AnyK P md ops Q S last (n+1) li a w:=
 AnyK.first hi (Region.noSelect_spec hs) hQ hol (by
  obtain ⟨e,he,hb⟩:=Array.any_eq_true'.mp hel
  simp at hb
  exact ⟨e,he,hb.1,hb.2⟩) (by simpa using hne) n li a w (Region.free_spec hi hf) (by simpa using hr) hy hw h
theorem AnyK.one {i n:Nat} {o:Oper} {li:Array Bool} {a:Act} {w:World} (hr:Region.ready md ops li=[i]) (hi:ops[i]? =some o) (hg:o.guard=none)
 (h: ∀K:Act→World→Prop,(∀a' w',(i≠last→S w')→AnyK P md ops Q S last n (li.setIfInBounds i true) a' w'→K a' w')→o.wp P a w K Q):AnyK P md ops Q S last (n+1) li a w:=by
 refine ⟨fun q=>absurd q (by rw [hr];simp),fun j hj=> ?_⟩
 rw [hr] at hj
 have:j=i:=by simpa using hj
 subst this
 unfold wpOp
 rw [hi]
 simp only [Region.wanted,hg,if_true]
 exact .inl (h _ fun a' w' h1 h2=>⟨h1,h2⟩)
theorem AnyK.done {n:Nat} {li:Array Bool} {a:Act} {w:World} (hr:Region.ready md ops li=[]) (h:Q .normal a w):AnyK P md ops Q S last n li a w:=by
 cases n with
 |zero=>exact ⟨hr,h⟩
 |succ n=>exact ⟨fun _=>h,by rw [hr];simp⟩
theorem AnyK.region {id:Nat} {a:Act} {w:World} (S:World→Prop) (last:Nat) (hm:P.follows .mixedOrders=true)
 (h:AnyK P .any ops Q S last ops.size (Array.replicate ops.size false) a w.drew):(Code.region id ops true).wp P Q a w:=
 wp_region_any hm (AnyK.any _ _ _ _ h)
theorem AnyK.regionK {id:Nat} {a:Act} {w W0:World} (_:Hid (∀w',Below W0.heap.size W0 w'→S w')) (last:Nat) (hm:P.follows .mixedOrders=true)
 (h:AnyK P .any ops Q S last ops.size (Array.replicate ops.size false) a w.drew):(Code.region id ops true).wp P Q a w:=AnyK.region S last hm h
theorem wpList_load_want {rest:List Oper} {op:Oper} {a:Act} {w:World} (hw:Region.wanted op (yielded ops a.tmps)=true) (ty:TypeId) (x:Operand) (ho:op.op= .load ty x)
 (b o:Nat) (hx:a.eval x= .pointer (some ⟨b,o,none⟩)) (cs:List Value) (d:TypeDesc) (hc:w.rangeAt b o cs)
 (hu:P.underlying ty=some d) (hd:d.isRow=true) (hi:(P.info? ty).map (·.size)=some cs.length)
 (h:wpList P ops Q rest (a.put op.dst (.agg cs.toArray)) w):wpList P ops Q (op::rest) a w:=
 BigFrame.wpList_want hw fun _ hK=>wp_load_mid ty x ho b o hx cs d hc hu hd hi (hK _ _ h)
end
theorem neg_any (g:Bool) (a:Option Addr) (c:Nat) (ds:List Int) (x:Int) (w:World) (hn:ds.length≤1048576) (h:L1 w g a c ds x):
 Calls Tryz.prog 117 #[.agg #[g,.slice a ds.length c]] w fun e w'=> ∃g' ds',e= .returned (.agg #[.bool g',.slice a ds'.length c])∧ds'.length≤ds.length∧L1 w' g' a c ds' (-x)∧Below w.heap.size w w':=by
 have hx:sg (!g) (val 65536 ds)= -x:=by rw [sg_not,h.num]
 have HX:Hid (sg (!g) (val 65536 ds)= -x):=hx
 clear hx
 go_enter Tryz.func117,Tryz.ntmps117
 go_wp2_with fail
 refine (make_any (!g) a c ds _ hn h.cap (h.sl.later (bel2 _ _ _)) h.can.1).mono ?_
 rintro e w1 ⟨g',ds',rfl,hle,hL,hb1⟩
 have hb2:=hb1
 simp at hb2
 have r1:w1.cell? ⟨w.heap.size+1,0,none⟩=some ↑false:=by rw [(bcell hb1).1 _ _ (by simp)];simp [go_sem]
 have r2:w1.cell? ⟨w.heap.size+1,1,none⟩=some ↑():=by rw [(bcell hb1).1 _ _ (by simp)];simp [go_sem]
 have r3: ∀j,w1.frozen? ⟨w.heap.size+1,j,none⟩=false:=by intro j;rw [(bcell hb1).2 _ _ (by simp)];simp [go_sem]
 have HB:Hid (Below w.heap.size w w1):=(bel2 _ _ _).trans (hb1.mono (by simp;omega))
 rw [HX.out] at hL
 have HL:Hid (L1 w1 g' a c ds' (-x)):=hL
 clear hL hb1 hb2
 go_wp2
 refine bodyPost_ret (v:= .agg #[g',.slice a ds'.length c]) (by simp [results,Tryz.results117,go_sem,r1,r2]) rfl ⟨g',ds',rfl,hle,?_,?_⟩
 ·exact (HL.out.setNew h.sl.row hle (by simp) _).setNew h.sl.row hle (by simp) _
 ·exact (HB.out.setCell (by simp) _).setCell (by simp) _
theorem sub_any (g g':Bool) (a a':Option Addr) (c c':Nat) (ds es:List Int) (x y:Int) (w:World) (hn:ds.length≤100000) (hn':es.length≤100000) (h:L1 w g a c ds x) (h':L1 w g' a' c' es y):
 Calls Tryz.prog 72 #[.agg #[g,.slice a ds.length c],.agg #[g',.slice a' es.length c']] w fun e w'=> ∃g2 a2 c2 fs,e= .returned (.agg #[.bool g2,.slice a2 fs.length c2])∧fs.length≤ds.length+es.length+1∧L1 w' g2 a2 c2 fs (x-y)∧Far w.heap.size a2 fs∧Below w.heap.size w w':=by
 go_enter Tryz.func72,Tryz.ntmps72
 go_wp2
 obtain ⟨W0,hW0⟩: ∃W0,W0=(((w.alloc (.cells #[g,.slice a ds.length c] 72)).alloc (.cells #[g',.slice a' es.length c'] 72)).alloc (.cells #[false,()] 72)):=⟨_,rfl⟩
 rw [←hW0]
 have F:Hid (AddF w g g' (.slice a ds.length c) (.slice a' es.length c') () W0):=by rw [hW0];exact AddF.start w g g' _ _ _ _ _ _
 clear hW0
 go_region_held3 (fun w'=>w'.cell? ⟨w.heap.size,0,none⟩=some ↑g∧w'.cell? ⟨w.heap.size,1,none⟩=some (.slice a ds.length c)∧w'.cell? ⟨w.heap.size+1,0,none⟩=some ↑g'∧w'.cell? ⟨w.heap.size+1,1,none⟩=some (.slice a' es.length c')∧Below (w.heap.size+1+1) W0 w')
  (first|exact addS_of F.out.s (Below.refl _ _).drew|exact addS_of F.out.s (by assumption)|exact addS_of F.out.s (Below.setCell (Below.setCell (by assumption) (by simp) _) (by simp) _))
  (first
   |(go_at_call 117;refine (neg_any g' a' c' es y _ (by omega) (h'.later F.out.bel.drew)).mono ?_;rintro e w1 ⟨g1,fs1,rfl,hf1,hL1,hb1⟩;have hB1:Below W0.heap.size W0 w1:=(Below.refl _ _).drew.trans hb1;have hB1':Below (w.heap.size+1+1) W0 w1:=hB1.mono (by have:=F.out.le;omega))
   |(go_at_call 76;refine (add_any g g1 a a' c c' ds fs1 x (-y) _ (by omega) (by omega) (h.later (F.out.bel.trans (hB1.mono (by have:=F.out.le;omega)))) hL1).mono ?_;rintro e w2 ⟨g2,a2,c2,fs,rfl,hfl,hL2,hfar,hb2⟩;have hB2:Below W0.heap.size W0 w2:=hB1.trans (hb2.mono hB1.size);have hB2':Below (w.heap.size+1+1) W0 w2:=hB2.mono (by have:=F.out.le;omega);have F2:Hid (AddF w g g' (.slice a ds.length c) (.slice a' es.length c') () w2):=F.out.later hB2;have r1:=F2.out.r1;have r2:=F2.out.r2;have r3:=F2.out.r3))
 have HF:Hid (Far W0.heap.size a2 fs):=hfar.down hB1.size
 have HL:Hid (L1 w2 g2 a2 c2 fs (x+ -y)):=hL2
 clear hfar hL2 hB1 hB1' hB2 hB2' hb1 hb2 hL1
 go_wp2
 refine bodyPost_ret (v:= .agg #[g2,.slice a2 fs.length c2]) (by simp [results,Tryz.results72,go_sem,r1,r2]) rfl ⟨g2,a2,c2,fs,rfl,by omega,?_,HF.out.down (by have:=F.out.le;omega),?_⟩
 ·rw [show x-y=x+ -y by omega]
  have hle:=F.out.le
  exact (HL.out.setFar HF.out (by simp;omega) _).setFar HF.out (by simp;omega) _
 ·exact (F2.out.bel.setCell (by simp;omega) _).setCell (by simp;omega) _
end Go.Proofs.YtfieffpobgcpmaaGreatDoor
