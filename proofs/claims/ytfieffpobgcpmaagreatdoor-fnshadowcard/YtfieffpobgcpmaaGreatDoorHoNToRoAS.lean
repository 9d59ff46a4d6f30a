import Derived.Test.YtfieffpobgcpmaaGreatDoorHmAFrHS
import Derived.Test.YtfieffpobgcpmaaGreatDoorEsMEsJEsNS
import Derived.Test.YtfieffpobgcpmaaGreatDoorDyN2ToEsFS
import Derived.Deep.RegionHeld3
import Derived.Test.YtfieffpobgcpmaaGreatDoorFlEMathFEsAS
set_option maxRecDepth 100000
set_option maxHeartbeats 32000000
namespace Go.Proofs.YtfieffpobgcpmaaGreatDoor
open Go.RowKit Go.Proofs.Tryz
variable {a b p q k l K:Int} {A B C O D:V3}
theorem νg (A B C:V3):nrm B C A=nrm A B C:=by
 simp only [nrm,V3.cross,V3.sub,V3.mk.injEq];grind
theorem νh (A B C:V3):nrm C B A=V3.sc (-1) (nrm A B C):=by
 simp only [nrm,V3.cross,V3.sub,V3.sc,V3.mk.injEq];grind
theorem ωo (O D A B:V3) (p q:Int):at3 O D B p q=(at3 O D A p q).sub (V3.sc q (B.sub A)):=by
 simp only [at3,V3.sub,V3.sc,V3.mk.injEq];grind
theorem ηB (A B C:V3):(nrm A B C).dot (B.sub A)=0∧(nrm A B C).dot (C.sub A)=0:=by
 simp only [nrm,V3.cross,V3.sub,V3.dot];grind
theorem ηC (n X Y:V3) (q:Int):n.dot (X.sub (V3.sc q Y))=n.dot X-q*n.dot Y:=by
 simp only [V3.sc,V3.sub,V3.dot];grind
theorem ρc (n X Y:V3) (q:Int):n.dot (Y.cross (X.sub (V3.sc q Y)))=n.dot (Y.cross X):=by
 simp only [V3.sc,V3.sub,V3.dot,V3.cross];grind
theorem σr (n X:V3):(V3.sc (-1) n).dot X= -n.dot X:=by
 simp only [V3.sc,V3.dot];grind
theorem σs (n A B X:V3):n.dot ((A.sub B).cross X)= -n.dot ((B.sub A).cross X):=by
 simp only [V3.sub,V3.dot,V3.cross];grind
theorem σt (A B C O D:V3) (p q:Int):ζs B C A O D p q↔ζs A B C O D p q:=by
 unfold ζs
 rw [ζ6,ζ6,νg]
 have h:(nrm A B C).dot (at3 O D B p q)=(nrm A B C).dot (at3 O D A p q):=by
  rw [ωo O D A B,ηC,(ηB A B C).1];omega
 rw [h]
 constructor<;>rintro ⟨h1,h2,h3,h4,h5,h6⟩
 ·exact ⟨h1,h2,h3,h6,h4,h5⟩
 ·exact ⟨h1,h2,h3,h5,h6,h4⟩
theorem ωp (n A B O D:V3) (p q:Int):(V3.sc (-1) n).dot ((A.sub B).cross (at3 O D B p q))=n.dot ((B.sub A).cross (at3 O D A p q)):=by
 rw [σr,σs,ωo O D A B,ρc];omega
theorem σu (A B C O D:V3) (p q:Int):ζs C B A O D p q↔ζs A B C O D p q:=by
 unfold ζs
 rw [ζ6,ζ6,νh]
 have h:(V3.sc (-1) (nrm A B C)).dot (at3 O D C p q)= -(nrm A B C).dot (at3 O D A p q):=by
  rw [σr,ωo O D A C,ηC,(ηB A B C).2];omega
 have hn:(V3.sc (-1) (nrm A B C)).dot (V3.sc (-1) (nrm A B C))=(nrm A B C).dot (nrm A B C):=by
  rw [θb];omega
 rw [h,hn,ωp,ωp,ωp]
 constructor<;>rintro ⟨h1,h2,h3,h4,h5,h6⟩
 ·exact ⟨h1,h2,by omega,h5,h4,h6⟩
 ·exact ⟨h1,h2,by omega,h5,h4,h6⟩
theorem Met.same {P Q:Int->Int->Prop} {R S:Int×Int×Int×Int} (h:Met P R) (h':Met Q S) (hpq: ∀p q,P p q↔Q p q):R.1*S.2.1=S.1*R.2.1∧decide (R.2.1≠0)=decide (S.2.1≠0)∧0<=R.2.1:=by
 rcases h with h| ⟨h,rfl⟩<;>rcases h' with h'| ⟨h',rfl⟩
 ·have:=h.hb;have:=h'.hb
  exact ⟨h.same h' fun p q _=>hpq p q,by rw [decide_eq_decide];omega,by omega⟩
 ·exact (h.not_no h' fun p q _=>hpq p q).elim
 ·exact (h'.not_no h fun p q _=>(hpq p q).symm).elim
 ·simp
theorem χl (h:(0<a↔0<b)∧(a<0↔b<0)):sgn a=sgn b:=by
 rcases sgn_cases a with ⟨k,k'⟩| ⟨k,k'⟩| ⟨k,k'⟩<;>rcases sgn_cases b with ⟨l,l'⟩| ⟨l,l'⟩| ⟨l,l'⟩<;>first| (exfalso;omega)| (rw [k',l'])
theorem σv {r s p' q' r' s':Int} (hq:0<q) (hs:0<s) (hq':0<q') (hs':0<s') (e1:p*q'=p'*q) (e2:r*s'=r'*s):sgn (p*s-r*q)=sgn (p'*s'-r'*q'):=by
 have h:(q'*s')*(p*s-r*q)=(q*s)*(p'*s'-r'*q'):=by grind
 have k1:0<q'*s':=Int.mul_pos hq' hs'
 have k2:0<q*s:=Int.mul_pos hq hs
 generalize q'*s'=m at h k1
 generalize q*s=n at h k2
 generalize p*s-r*q=x at h
 generalize p'*s'-r'*q'=y at h
 apply χl
 rcases Int.lt_trichotomy x 0 with hx|hx|hx
 ·have:=Int.mul_neg_of_pos_of_neg k1 hx
  have:y<0:=by
   rcases Int.lt_or_le y 0 with hy|hy
   ·exact hy
   ·have:=Int.mul_nonneg (Int.le_of_lt k2) hy;omega
  omega
 ·subst hx
  have:n*y=0:=by omega
  rcases Int.mul_eq_zero.mp this with h|h<;>omega
 ·have:=Int.mul_pos k1 hx
  have:0<y:=by
   rcases Int.lt_or_le 0 y with hy|hy
   ·exact hy
   ·have:=Int.mul_nonpos_of_nonneg_of_nonpos (Int.le_of_lt k2) hy;omega
  omega
theorem Met.order {P Q:Int->Int->Prop} {R R' S S':Int×Int×Int×Int} (h:Met P R) (h':Met P R') (k:Met Q S) (k':Met Q S'):sgn (R.1*S.2.1-S.1*R.2.1)=sgn (R'.1*S'.2.1-S'.1*R'.2.1):=by
 have e1:=(h.same h' fun _ _=> .rfl).1
 have e2:=(k.same k' fun _ _=> .rfl).1
 rcases h with h| ⟨h,rfl⟩<;>rcases h' with h'| ⟨h',rfl⟩
 ·rcases k with k| ⟨k,rfl⟩<;>rcases k' with k'| ⟨k',rfl⟩
  ·exact σv h.hb k.hb h'.hb k'.hb e1 e2
  ·exact (k.not_no k' fun _ _ _=> .rfl).elim
  ·exact (k'.not_no k fun _ _ _=> .rfl).elim
  ·have:=h.hb;have:=h'.hb
   apply χl;simp;omega
 ·exact (h.not_no h' fun _ _ _=> .rfl).elim
 ·exact (h'.not_no h fun _ _ _=> .rfl).elim
 ·rcases k with k| ⟨k,rfl⟩<;>rcases k' with k'| ⟨k',rfl⟩
  ·have:=k.hb;have:=k'.hb
   apply χl;simp;omega
  ·exact (k.not_no k' fun _ _ _=> .rfl).elim
  ·exact (k'.not_no k fun _ _ _=> .rfl).elim
  ·rfl
theorem σ6 {x y:Int} (hx: -a<=x∧x<=a) (hy: -b<=y∧y<=b): -(a*b)<=x*y∧x*y<=a*b:=by
 have h1:0<=(a-x)*(b+y):=Int.mul_nonneg (by omega) (by omega)
 have h2:0<=(a+x)*(b-y):=Int.mul_nonneg (by omega) (by omega)
 have h3:0<=(a+x)*(b+y):=Int.mul_nonneg (by omega) (by omega)
 have h4:0<=(a-x)*(b-y):=Int.mul_nonneg (by omega) (by omega)
 have e1:(a-x)*(b+y)=a*b+a*y-x*b-x*y:=by grind
 have e2:(a+x)*(b-y)=a*b-a*y+x*b-x*y:=by grind
 have e3:(a+x)*(b+y)=a*b+a*y+x*b+x*y:=by grind
 have e4:(a-x)*(b-y)=a*b-a*y-x*b+x*y:=by grind
 omega
def ξD (k:Int) (a:V3):Prop:=(-k<=a.x∧a.x<=k)∧(-k<=a.y∧a.y<=k)∧(-k<=a.z∧a.z<=k)
theorem ξD.sub {a b:V3} (h:ξD k a) (h':ξD l b):ξD (k+l) (a.sub b):=by
 obtain ⟨h1,h2,h3⟩:=h
 obtain ⟨k1,k2,k3⟩:=h'
 unfold ξD V3.sub
 exact ⟨by simp only;omega,by simp only;omega,by simp only;omega⟩
theorem ξD.cross {a b:V3} (h:ξD k a) (h':ξD l b):ξD (2*(k*l)) (a.cross b):=by
 obtain ⟨h1,h2,h3⟩:=h
 obtain ⟨k1,k2,k3⟩:=h'
 have m1:=σ6 h1 k2;have m2:=σ6 h1 k3;have m3:=σ6 h2 k1;have m4:=σ6 h2 k3;have m5:=σ6 h3 k1;have m6:=σ6 h3 k2
 unfold ξD V3.cross
 exact ⟨by simp only;omega,by simp only;omega,by simp only;omega⟩
theorem ξD.dot {a b:V3} (h:ξD k a) (h':ξD l b): -(3*(k*l))<=a.dot b∧a.dot b<=3*(k*l):=by
 obtain ⟨h1,h2,h3⟩:=h
 obtain ⟨k1,k2,k3⟩:=h'
 have m1:=σ6 h1 k1;have m2:=σ6 h2 k2;have m3:=σ6 h3 k3
 unfold V3.dot
 omega
theorem χm {f g u v N:Int} (h:0<=f*v+u*g) (hg:0<g->f*v+u*g≠0) (hN:g<=N) (hN1:1<=N):0<=f*(v*N)+(u*N-1)*g:=by
 have e:f*(v*N)+(u*N-1)*g=N*(f*v+u*g)-g:=by grind
 rw [e]
 rcases Int.lt_or_le 0 g with h1|h1
 ·have h2:=hg h1
  have h3:N*1<=N*(f*v+u*g):=Int.mul_le_mul_of_nonneg_left (by omega) (by omega)
  omega
 ·have h3:0<=N*(f*v+u*g):=Int.mul_nonneg (by omega) h
  omega
theorem first_edge {u v:Int} (hv:0<v) (hu:0<u) (hD:(nrm A B C).dot D=0) (h:ζs A B C O D u v) (hl: ∀p q,0<q->ζs A B C O D p q->u*q<=p*v):
 (0<((nrm A B C).cross (B.sub A)).dot D∧((nrm A B C).cross (B.sub A)).dot (O.sub A)*v+u*((nrm A B C).cross (B.sub A)).dot D=0)∨
 (0<((nrm A B C).cross (C.sub B)).dot D∧((nrm A B C).cross (C.sub B)).dot (O.sub B)*v+u*((nrm A B C).cross (C.sub B)).dot D=0)∨
 (0<((nrm A B C).cross (A.sub C)).dot D∧((nrm A B C).cross (A.sub C)).dot (O.sub C)*v+u*((nrm A B C).cross (A.sub C)).dot D=0):=by
 apply Classical.byContradiction
 intro hno
 obtain ⟨h0,h1,h2,h3,h4,h5⟩:=h
 have hl': ∀N,1<=N->((nrm A B C).cross (B.sub A)).dot D<=N->((nrm A B C).cross (C.sub B)).dot D<=N->((nrm A B C).cross (A.sub C)).dot D<=N->u*(v*N)<=(u*N-1)*v:=by
  intro N hN k1 k2 k3
  refine hl _ _ (Int.mul_pos hv (by omega)) ⟨h0,?_,?_,χm h3 (fun a b=>hno (.inl ⟨a,b⟩)) k1 hN,χm h4 (fun a b=>hno (.inr (.inl ⟨a,b⟩))) k2 hN,χm h5 (fun a b=>hno (.inr (.inr ⟨a,b⟩))) k3 hN⟩
  ·have:1*1<=u*N:=Int.mul_le_mul (by omega) hN (by omega) (by omega)
   omega
  ·rw [hD] at h2⊢
   have:(nrm A B C).dot (O.sub A)*(v*N)+(u*N-1)*0=N*((nrm A B C).dot (O.sub A)*v+u*0):=by grind
   rw [this,h2];omega
 generalize ((nrm A B C).cross (B.sub A)).dot D=g0 at*
 generalize ((nrm A B C).cross (C.sub B)).dot D=g1 at*
 generalize ((nrm A B C).cross (A.sub C)).dot D=g2 at*
 have:=hl' (max 1 (max g0 (max g1 g2))) (by omega) (by omega) (by omega) (by omega)
 generalize max 1 (max g0 (max g1 g2))=N at*
 have e:(u*N-1)*v=u*(v*N)-v:=by grind
 omega
theorem νi (e f y:V3):(e.cross f).dot (e.cross f)*y.x=(e.cross f).dot (y.cross f)*e.x+(e.cross f).dot (e.cross y)*f.x+(e.cross f).dot y*(e.cross f).x:=by
 obtain ⟨a,b,c⟩:=e
 obtain ⟨p,q,r⟩:=f
 obtain ⟨x,y,z⟩:=y
 simp only [V3.cross,V3.dot]
 grind
theorem νj (e f y:V3):(e.cross f).dot (e.cross f)*y.y=(e.cross f).dot (y.cross f)*e.y+(e.cross f).dot (e.cross y)*f.y+(e.cross f).dot y*(e.cross f).y:=by
 obtain ⟨a,b,c⟩:=e
 obtain ⟨p,q,r⟩:=f
 obtain ⟨x,y,z⟩:=y
 simp only [V3.cross,V3.dot]
 grind
theorem νk (e f y:V3):(e.cross f).dot (e.cross f)*y.z=(e.cross f).dot (y.cross f)*e.z+(e.cross f).dot (e.cross y)*f.z+(e.cross f).dot y*(e.cross f).z:=by
 obtain ⟨a,b,c⟩:=e
 obtain ⟨p,q,r⟩:=f
 obtain ⟨x,y,z⟩:=y
 simp only [V3.cross,V3.dot]
 grind
theorem ωq {N α β γ c X Y:Int} (hN:0<N) (hα:0<=α) (hβ:0<=β) (hγ:0<=γ) (hs:α+β+γ=q*N) (ha: -K<=a∧a<=K) (hb: -K<=b∧b<=K) (hc: -K<=c∧c<=K) (hY:N*Y=α*(b-a)+β*(c-a)) (hX:X=q*a+Y): -(q*K)<=X∧X<=q*K:=by
 have e:N*X=γ*a+α*b+β*c:=by
  have:N*X=q*N*a+N*Y:=by rw [hX];grind
  rw [this,hY,<-hs];grind
 have eK:N*(q*K)=γ*K+α*K+β*K:=by
  have:N*(q*K)=q*N*K:=by grind
  rw [this,<-hs];grind
 have u1:γ*a<=γ*K:=Int.mul_le_mul_of_nonneg_left ha.2 hγ
 have u2:α*b<=α*K:=Int.mul_le_mul_of_nonneg_left hb.2 hα
 have u3:β*c<=β*K:=Int.mul_le_mul_of_nonneg_left hc.2 hβ
 have l1:γ* -K<=γ*a:=Int.mul_le_mul_of_nonneg_left ha.1 hγ
 have l2:α* -K<=α*b:=Int.mul_le_mul_of_nonneg_left hb.1 hα
 have l3:β* -K<=β*c:=Int.mul_le_mul_of_nonneg_left hc.1 hβ
 rw [Int.mul_neg] at l1 l2 l3
 constructor
 ·refine Int.le_of_mul_le_mul_left (a:=N) ?_ hN
  rw [Int.mul_neg,eK,e];omega
 ·refine Int.le_of_mul_le_mul_left (a:=N) ?_ hN
  rw [eK,e];omega
def pnt (O D:V3) (p q:Int):V3:=⟨O.x*q+D.x*p,O.y*q+D.y*p,O.z*q+D.z*p⟩
theorem σw (h:ζs A B C O D p q) (hA:ξD K A) (hB:ξD K B) (hC:ξD K C):ξD (q*K) (pnt O D p q):=by
 obtain ⟨hn,hi⟩:=h
 rw [ζ6] at hi
 obtain ⟨_,h0,h1,h2,h3⟩:=hi
 have hN:0<(nrm A B C).dot (nrm A B C):=by
  have:=ηw (nrm A B C);omega
 have hs:=inner_sum A B C O D (nrm A B C) p q
 have hα:(nrm A B C).dot ((A.sub C).cross (at3 O D C p q))=(nrm A B C).dot ((at3 O D A p q).cross (C.sub A)):=by
  rw [ωo O D A C]
  simp only [V3.dot,V3.cross,V3.sub,V3.sc]
  generalize (nrm A B C)=n
  generalize at3 O D A p q=y
  grind
 rw [hα] at h3 hs
 have px:=νi (B.sub A) (C.sub A) (at3 O D A p q)
 have py:=νj (B.sub A) (C.sub A) (at3 O D A p q)
 have pz:=νk (B.sub A) (C.sub A) (at3 O D A p q)
 have en:(B.sub A).cross (C.sub A)=nrm A B C:=rfl
 rw [en,h0,Int.zero_mul,Int.add_zero] at px py pz
 generalize (nrm A B C).dot (nrm A B C)=N at*
 generalize (nrm A B C).dot ((at3 O D A p q).cross (C.sub A))=α at*
 generalize (nrm A B C).dot ((B.sub A).cross (at3 O D A p q))=β at*
 generalize (nrm A B C).dot ((C.sub B).cross (at3 O D B p q))=γ at*
 have hsum:α+β+γ=q*N:=by omega
 refine ⟨ωq hN h3 h1 h2 hsum hA.1 hB.1 hC.1 px ?_,ωq hN h3 h1 h2 hsum hA.2.1 hB.2.1 hC.2.1 py ?_,ωq hN h3 h1 h2 hsum hA.2.2 hB.2.2 hC.2.2 pz ?_⟩<;>simp only [pnt,at3]<;>grind
theorem νl (hq:0<q) (h:ζs A B C O D p q) (hA:ξD K A) (hB:ξD K B) (hC:ξD K C) (hO:ξD K O) (hD:D.x≠0∨D.y≠0∨D.z≠0):p<=q*(2*K):=by
 have hp:0<=p:=h.2.1
 have hb:=σw h hA hB hC
 have one: ∀d o:Int,d≠0->(-K<=o∧o<=K)->(-(q*K)<=o*q+d*p∧o*q+d*p<=q*K)->p<=q*(2*K):=by
  intro d o hd ho hx
  have m:=σ6 (a:=K) (b:=q) ho ⟨by omega,Int.le_refl q⟩
  have e:q*(2*K)=2*(q*K):=by grind
  have e2:K*q=q*K:=Int.mul_comm ..
  rw [e]
  rcases Int.lt_or_lt_of_ne hd with hd|hd
  ·have:d*p<= -1*p:=Int.mul_le_mul_of_nonneg_right (by omega) hp
   omega
  ·have:1*p<=d*p:=Int.mul_le_mul_of_nonneg_right (by omega) hp
   omega
 rcases hD with hd|hd|hd
 ·exact one _ _ hd hO.1 hb.1
 ·exact one _ _ hd hO.2.1 hb.2.1
 ·exact one _ _ hd hO.2.2 hb.2.2
theorem ηD {f g L:Int} (hp:0<p) (hq:0<q) (h:f*q+p*g=0) (hg0:g≠0) (hg: -L<=g∧g<=L):q<=p*L:=by
 have hf:f≠0:=by
  rintro rfl
  rw [Int.zero_mul,Int.zero_add] at h
  rcases Int.mul_eq_zero.mp h with h|h<;>omega
 have m:p*g<=p*L∧p* -L<=p*g:=⟨Int.mul_le_mul_of_nonneg_left hg.2 (by omega),Int.mul_le_mul_of_nonneg_left hg.1 (by omega)⟩
 rw [Int.mul_neg] at m
 rcases Int.lt_or_lt_of_ne hf with hf|hf
 ·have:f*q<= -1*q:=Int.mul_le_mul_of_nonneg_right (by omega) (by omega)
  omega
 ·have:1*q<=f*q:=Int.mul_le_mul_of_nonneg_right (by omega) (by omega)
  omega
theorem ρd {n e y W:V3} (hn:n.dot n≠0) (h1:n.dot e=0) (h2:n.dot y=0) (h3:n.dot D=0) (h:n.dot (e.cross y)*q+p*n.dot (e.cross D)=0) (hg:n.dot (e.cross D)≠0) (hW:n.dot W≠0):W.dot (e.cross y)*q+p*W.dot (e.cross D)=0∧W.dot (e.cross D)≠0:=by
 have a:=ωh n e y W h1 h2
 have b:=ωh n e D W h1 h3
 constructor
 ·have:n.dot n*(W.dot (e.cross y)*q+p*W.dot (e.cross D))=0:=by
   have e1:n.dot n*(W.dot (e.cross y)*q+p*W.dot (e.cross D))=n.dot n*W.dot (e.cross y)*q+p*(n.dot n*W.dot (e.cross D)):=by grind
   rw [e1,a,b]
   have e2:n.dot (e.cross y)*n.dot W*q+p*(n.dot (e.cross D)*n.dot W)=n.dot W*(n.dot (e.cross y)*q+p*n.dot (e.cross D)):=by grind
   rw [e2,h,Int.mul_zero]
  exact (Int.mul_eq_zero.mp this).resolve_left hn
 ·intro hz
  rw [hz,Int.mul_zero] at b
  rcases Int.mul_eq_zero.mp b.symm with h|h
  ·exact hg h
  ·exact hW h
theorem ρe {n:V3} (h:n.dot n≠0): ∃W,ξD 1 W∧n.dot W≠0:=by
 by_cases hx:n.x=0
 ·by_cases hy:n.y=0
  ·refine ⟨⟨0,0,1⟩,⟨by decide,by decide,by decide⟩,?_⟩
   intro hz
   simp [V3.dot] at hz
   exact h (by simp [V3.dot,hx,hy,hz])
  ·exact ⟨⟨0,1,0⟩,⟨by decide,by decide,by decide⟩,by simpa [V3.dot] using hy⟩
 ·exact ⟨⟨1,0,0⟩,⟨by decide,by decide,by decide⟩,by simpa [V3.dot] using hx⟩
theorem κ0 (hq:0<q) (hp:0<p) (hK:1<=K) (h:ζs A B C O D p q) (hl: ∀u v,0<v->ζs A B C O D u v->p*v<=u*q) (hA:ξD K A) (hB:ξD K B) (hC:ξD K C) (hD:ξD K D):q<=p*(24*(K*K*K)):=by
 have hm:=h
 obtain ⟨hn,_,h2,_,_,_⟩:=h
 have bn:=(hB.sub hA).cross (hC.sub hA)
 have en:(B.sub A).cross (C.sub A)=nrm A B C:=rfl
 rw [en] at bn
 by_cases hd:(nrm A B C).dot D=0
 ·obtain ⟨W,hW,hW0⟩:=ρe hn
  have h0:(nrm A B C).dot (O.sub A)=0:=by
   rw [hd,Int.mul_zero,Int.add_zero] at h2
   rcases Int.mul_eq_zero.mp h2 with h|h<;>omega
  have hoff: ∀X Y,(nrm A B C).dot (O.sub X)=0->(nrm A B C).dot (Y.sub X)=0->(nrm A B C).dot (O.sub Y)=0:=by
   intro X Y a b
   have:(nrm A B C).dot (O.sub Y)=(nrm A B C).dot (O.sub X)-(nrm A B C).dot (Y.sub X):=by
    generalize nrm A B C=n
    simp only [V3.dot,V3.sub];grind
   omega
  have hB0:=hoff A B h0 (ηu A B C)
  have hC0:=hoff B C hB0 (ηv A B C)
  have side: ∀X Y:V3,ξD K X->ξD K Y->(nrm A B C).dot (O.sub X)=0->(nrm A B C).dot (Y.sub X)=0->0<((nrm A B C).cross (Y.sub X)).dot D->((nrm A B C).cross (Y.sub X)).dot (O.sub X)*q+p*((nrm A B C).cross (Y.sub X)).dot D=0->q<=p*(24*(K*K*K)):=by
   intro X Y bX bY hX hY hg he
   rw [χN,χN] at he
   rw [χN] at hg
   obtain ⟨k1,k2⟩:=ρd hn hY hX hd he (by omega) hW0
   have bg:=hW.dot ((bY.sub bX).cross hD)
   have:=ηD hp hq k1 k2 bg
   have e1:3*(1*(2*((K+K)*K)))=12*(K*K):=by grind
   rw [e1] at this
   have hKK:0<=K*K:=Int.mul_nonneg (by omega) (by omega)
   have t:K*K*1<=K*K*K:=Int.mul_le_mul_of_nonneg_left hK hKK
   have t2:p*(12*(K*K))<=p*(24*(K*K*K)):=Int.mul_le_mul_of_nonneg_left (by omega) (by omega)
   omega
  rcases first_edge hq hp hd hm hl with ⟨h1,h2⟩| ⟨h1,h2⟩| ⟨h1,h2⟩
  ·exact side _ _ hA hB h0 (ηu A B C) h1 h2
  ·exact side _ _ hB hC hB0 (ηv A B C) h1 h2
  ·exact side _ _ hC hA hC0 (τB A B C) h1 h2
 ·have bg:=bn.dot hD
  have:=ηD hp hq h2 hd bg
  have e1:3*(2*((K+K)*(K+K))*K)=24*(K*K*K):=by grind
  rw [e1] at this
  exact this
theorem νm {c d:Int} (h:ξg (ζs A B C O D) a b c d) (hA:ξD (2^277) A) (hB:ξD (2^277) B) (hC:ξD (2^277) C) (hO:ξD (2^277) O) (hD:ξD (2^277) D) (hd:D.x≠0∨D.y≠0∨D.z≠0):0<=a∧0<b∧a<=b*2^290∧(a=0∨b<=a*2^850)∧ξD (b*2^277) (pnt O D a b):=by
 have hm:=h.least.1
 have ha:0<=a:=hm.2.1
 refine ⟨ha,h.hb,?_,?_,σw hm hA hB hC⟩
 ·have:=νl h.hb hm hA hB hC hO hd
  have k:(2:Int)*2^277<=2^290:=by decide+kernel
  have t:b*(2*2^277)<=b*2^290:=Int.mul_le_mul_of_nonneg_left k (Int.le_of_lt h.hb)
  exact Int.le_trans this t
 ·rcases Int.lt_or_eq_of_le ha with h0|h0
  ·right
   have:=κ0 h.hb h0 (by decide+kernel) hm h.least.2 hA hB hC hD
   have k:(24:Int)*(2^277*2^277*2^277)<=2^850:=by decide+kernel
   have t:a*(24*(2^277*2^277*2^277))<=a*2^850:=Int.mul_le_mul_of_nonneg_left k (Int.le_of_lt h0)
   exact Int.le_trans this t
  ·left;exact h0.symm
open Fl (IsF Nr ζz ζE absI Est)
theorem ρf (u v:Value) (k e:Nat) (S A B C A' B' C':Int) (w:World) (he:e<=900) (hu:ξc u k e S A B C) (hv:ξc v k e S A' B' C'):
 Calls prog 149 #[u,v] w fun o w'=>ξ0 w k (e+4) S (A+A') (B+B') (C+C') o w':=by
 obtain ⟨x1,y1,x2,y2,x3,y3,rfl,h1,h2,h3⟩:=hu
 obtain ⟨x1',y1',x2',y2',x3',y3',rfl,h1',h2',h3'⟩:=hv
 go_enter func149,ntmps149
 go_wp2
 obtain ⟨W0,hW0⟩: ∃V0,V0=(((w.alloc (.cells #[.float .f64 x1,.float .f64 y1,.float .f64 x2,.float .f64 y2,.float .f64 x3,.float .f64 y3] 88)).alloc (.cells #[.float .f64 x1',.float .f64 y1',.float .f64 x2',.float .f64 y2',.float .f64 x3',.float .f64 y3'] 88)).alloc (.cells #[oOo,oOo,oOo,oOo,oOo,oOo] 88)):=⟨_,rfl⟩
 rw [<-hW0]
 have FR:Hid (VF w (.float .f64 x1) (.float .f64 y1) (.float .f64 x2) (.float .f64 y2) (.float .f64 x3) (.float .f64 y3) (.float .f64 x1') (.float .f64 y1') (.float .f64 x2') (.float .f64 y2') (.float .f64 x3') (.float .f64 y3') oOo oOo oOo oOo oOo oOo W0):=by rw [hW0];exact VF.start w _ _ _ _ _ _ _ _ _ _ _ _ _ _ _ _ _ _ _ _ _
 clear hW0
 have hmt: ∀(r:Value) (w:World),_:=fun r w=>(ωV r w).2.1
 have hst:=ζY
 have hL0:Below (↑w+1+1) W0 W0.drew:=(Below.refl _ _).drew
 go_region_held3 (fun w'=>w'.cell? ⟨w,0,none⟩=some (.float .f64 x1)∧w'.cell? ⟨w,1,none⟩=some (.float .f64 y1)∧w'.cell? ⟨w,2,none⟩=some (.float .f64 x2)∧w'.cell? ⟨w,3,none⟩=some (.float .f64 y2)∧w'.cell? ⟨w,4,none⟩=some (.float .f64 x3)∧w'.cell? ⟨w,5,none⟩=some (.float .f64 y3)∧w'.cell? ⟨↑w+1,0,none⟩=some (.float .f64 x1')∧w'.cell? ⟨↑w+1,1,none⟩=some (.float .f64 y1')∧w'.cell? ⟨↑w+1,2,none⟩=some (.float .f64 x2')∧w'.cell? ⟨↑w+1,3,none⟩=some (.float .f64 y2')∧w'.cell? ⟨↑w+1,4,none⟩=some (.float .f64 x3')∧w'.cell? ⟨↑w+1,5,none⟩=some (.float .f64 y3')∧Below (↑w+1+1) W0 w')
  (first|with_reducible exact (FR.out.s.on hL3).set6 _ _ _ _ _ _|with_reducible exact FR.out.s.on (by with_reducible assumption))
  (first
   |(have hBB:=hB2;clear hBB;go_at_call 214;refine (ξP _ _ k e S C C' _ he h3 h3').mono ?_;rintro o w3 ⟨v3,rfl,hv3,hb3⟩;have HV3:Hid (ζu v3 k (e+4) S (C+C')):=hv3;obtain ⟨m3,n3,_,_,rfl,_,_,_⟩:=hv3;have hB3:Below W0 W0 w3:=hB2.trans (hb3.mono hB2.size);have hL3:Below (↑w+1+1) W0 w3:=hB3.mono (by have:=FR.out.le;omega);have F3:Hid (VF w (.float .f64 x1) (.float .f64 y1) (.float .f64 x2) (.float .f64 y2) (.float .f64 x3) (.float .f64 y3) (.float .f64 x1') (.float .f64 y1') (.float .f64 x2') (.float .f64 y2') (.float .f64 x3') (.float .f64 y3') oOo oOo oOo oOo oOo oOo w3):=FR.out.later hB3;have r0:=F3.out.r0;have r1:=F3.out.r1;have r2:=F3.out.r2;have r3:=F3.out.r3;have r4:=F3.out.r4;have r5:=F3.out.r5;have r6:=F3.out.fz)
   |(have hBB:=hB1;clear hBB;go_at_call 214;refine (ξP _ _ k e S B B' _ he h2 h2').mono ?_;rintro o w2 ⟨v2,rfl,hv2,hb2⟩;have HV2:Hid (ζu v2 k (e+4) S (B+B')):=hv2;obtain ⟨m2,n2,_,_,rfl,_,_,_⟩:=hv2;have hB2:Below W0 W0 w2:=hB1.trans (hb2.mono hB1.size);have hL2:Below (↑w+1+1) W0 w2:=hB2.mono (by have:=FR.out.le;omega))
   |(go_at_call 214;refine (ξP _ _ k e S A A' _ he h1 h1').mono ?_;rintro o w1 ⟨v1,rfl,hv1,hb1⟩;have HV1:Hid (ζu v1 k (e+4) S (A+A')):=hv1;obtain ⟨m1,n1,_,_,rfl,_,_,_⟩:=hv1;have hB1:Below W0 W0 w1:=(Below.refl _ _).drew.trans hb1;have hL1:Below (↑w+1+1) W0 w1:=hB1.mono (by have:=FR.out.le;omega)))
 clear hB1 hB2 hB3 hL1 hL2 hL3 hb1 hb2 hb3 hmt h1 h2 h3 h1' h2' h3'
 go_wp2
 refine bodyPost_ret (v:= .agg #[.float .f64 m1,.float .f64 n1,.float .f64 m2,.float .f64 n2,.float .f64 m3,.float .f64 n3]) (by simp [results,results149,go_sem,r0,r1,r2,r3,r4,r5]) rfl ?_
 refine ⟨_,rfl,⟨m1,n1,m2,n2,m3,n3,rfl,HV1.out,HV2.out,HV3.out⟩,?_⟩
 exact (((((F3.out.bel.setCell (by simp;omega) _).setCell (by simp;omega) _).setCell (by simp;omega) _).setCell (by simp;omega) _).setCell (by simp;omega) _).setCell (by simp;omega) _
theorem χP (F G f:Nat) (n:Int) (w:World) (hF1:1<=F) (hF2:F<=2046) (hG1:1<=G) (hG2:G<=2046) (hG:(G:Int)=F+n) (hf:f<4503599627370496):
 Calls prog 152 #[.float .f64 (F*4503599627370496+f),.int .i64 n] w fun e w'=>e= .returned (.float .f64 (G*4503599627370496+f))∧Below w w w':=by
 obtain ⟨X,hX⟩: ∃X,X=F*4503599627370496+f:=⟨_,rfl⟩
 obtain ⟨Y,hY⟩: ∃Y,Y=G*4503599627370496+f:=⟨_,rfl⟩
 rw [<-hX,<-hY]
 have hlt:X<9218868437227405312:=by omega
 obtain ⟨o1,o2⟩:=κp hlt
 have o3:(FloatKind.f64.format.order X 0==some .eq)=false:=by
  rw [ηS hlt (by decide),Int.compare_eq_gt.2 (by omega)]
  rfl
 have q1:(X:Int)/4503599627370496=F:=by omega
 have q2:bits .and .i64 (F:Int) 2047=F:=ωN F (by omega)
 have q3:=φX X (by omega)
 rw [show X%4503599627370496=f by omega] at q3
 have q4:=φY f G hf (by omega)
 rw [<-hY] at q4
 have q5:=φt (F:=G) (f:=f) hG1 hG2 hf
 rw [<-hY] at q5
 have hop: ∀t w,(binOp .mul t (.float .f64 4607182418800017408) (.float .f64 Y)).run prog w= .ok (.float .f64 Y) w:=fun t w=>run_float_arith w .mul t .f64 _ _ _ q5
 have q6:bits .or .u64 (f:Int) ((n+((F:Int)-1023)+1023)*4503599627370496)=Y:=by
  rw [show (n+((F:Int)-1023)+1023)*4503599627370496=((G*4503599627370496:Nat):Int) by omega];exact q4
 have e1:=ξw
 have e2:=ξW
 have HX:Hid (X=F*4503599627370496+f):=hX
 have hn1: -2045<=n:=by omega
 have hn2:n<=2045:=by omega
 clear hX hY q5 q4
 have LD: ∀w,Calls prog 170 #[.float .f64 X,.int .i64 n] w fun e w'=>e= .returned (.float .f64 Y)∧Below w w w':=by
  intro w
  go_enter func170,ntmps170
  go_wp2_with fail
  refine (isInf64_any X X false _ (by omega) (Nat.mod_eq_of_lt (by omega)) o2).mono ?_
  rintro e w1 ⟨rfl,hb1⟩
  go_wp2_with fail
  refine (isNaN64_any X false _ o1).mono ?_
  rintro e w2 ⟨rfl,hb2⟩
  go_wp2_with fail
  refine (φ3 X _ (by have:=HX.out;omega) hlt).mono ?_
  rintro e w3 ⟨rfl,hb3⟩
  have HB:Hid (Below w w w3):=(hb1.trans (hb2.mono hb1.size)).trans (hb3.mono (Nat.le_trans hb1.size hb2.size))
  clear hb1 hb2 hb3
  go_wp2
  go_ret
  exact ⟨by simp,HB.out⟩
 go_enter func152,ntmps152
 go_wp2_with fail
 refine (LD _).mono ?_
 rintro e w1 ⟨rfl,hb1⟩
 have HB:Hid (Below w w w1):=hb1
 clear hb1 LD
 go_wp2
 go_ret
 exact ⟨rfl,HB.out⟩
theorem χQ (n:Int) (w:World):
 Calls prog 152 #[oOo,.int .i64 n] w fun e w'=>e= .returned oOo∧Below w w w':=by
 have o3:(FloatKind.f64.format.order 0 0==some .eq)=true:=by decide
 have LD: ∀w,Calls prog 170 #[oOo,.int .i64 n] w fun e w'=>e= .returned oOo∧Below w w w':=by
  intro w
  go_enter func170,ntmps170
  go_wp2
  go_ret
  exact ⟨rfl,Below.refl _ _⟩
 go_enter func152,ntmps152
 go_wp2_with fail
 refine (LD _).mono ?_
 rintro e w1 ⟨rfl,hb1⟩
 have HB:Hid (Below w w w1):=hb1
 clear hb1 LD
 go_wp2
 go_ret
 exact ⟨rfl,HB.out⟩
end Go.Proofs.YtfieffpobgcpmaaGreatDoor
