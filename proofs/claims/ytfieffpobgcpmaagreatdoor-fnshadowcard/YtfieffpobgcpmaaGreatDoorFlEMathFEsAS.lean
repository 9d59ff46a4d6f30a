import Derived.Test.YtfieffpobgcpmaaGreatDoorFlAFlCFlDS
import Derived.Test.YtfieffpobgcpmaaGreatDoorBaseToNumS
import Derived.Test.YtfieffpobgcpmaaGreatDoorDy2NumDNumFNumGS
import Derived.Laws.Externs
import Derived.Laws.Entries
set_option maxRecDepth 100000
set_option maxHeartbeats 32000000
namespace Go.Proofs.YtfieffpobgcpmaaGreatDoor
open Go.RowKit Go.Proofs.Tryz
variable {t k m j e:Nat} {r N S s b v A B va vb ba bb:Int}
namespace Fl
theorem Nr.errT {n:Int} (h:Nr t n r) (h1: -(2^(53+k+t))<=n) (h2:n<=2^(53+k+t)):2*(r*2^t-n)<=2^(k+t)∧2*(n-r*2^t)<=2^(k+t):=by
 have pk:=pow_pos2 (k+t)
 have e:(2:Int)^(53+k+t)=2^(k+t)*2^53:=by rw [Nat.add_assoc,Int.pow_add,Int.mul_comm]
 have hq:=Int.mul_ediv_add_emod n (2^(k+t))
 have hm0:=Int.emod_nonneg n (show (2:Int)^(k+t)≠0 by omega)
 have hm1:=Int.emod_lt_of_pos n pk
 obtain ⟨q,hqq⟩: ∃q,q=n/2^(k+t):=⟨_,rfl⟩
 obtain ⟨m,hmm⟩: ∃m,m=n%2^(k+t):=⟨_,rfl⟩
 rw [<-hqq,<-hmm] at hq
 rw [<-hmm] at hm0 hm1
 have q1: -(2^53)<=q:=by
  have:2^(k+t)*(-(2^53)-1)<2^(k+t)*q:=by rw [Int.mul_sub,Int.mul_neg,Int.mul_one];omega
  have:=Int.lt_of_mul_lt_mul_left this (by omega);omega
 have q2:q<=2^53:=by
  have:2^(k+t)*q<=2^(k+t)*(2^53):=by omega
  exact Int.le_of_mul_le_mul_left this pk
 have et: ∀z:Int,z*2^k*2^t=2^(k+t)*z:=fun z=>by rw [Int.mul_assoc,<-Int.pow_add,Int.mul_comm]
 have fd:Fl (q*2^k):=⟨q,k,rfl,q1,q2⟩
 have d:=h.dn (q*2^k) fd (by rw [et];omega)
 rw [et] at d
 by_cases hc:2*m<=2^(k+t)
 ·omega
 ·have q3:q+1<=2^53:=by
   rcases Int.lt_or_eq_of_le q2 with h3|h3
   ·omega
   ·subst h3;omega
  have fu:Fl ((q+1)*2^k):=⟨q+1,k,rfl,by omega,q3⟩
  have u:=h.up ((q+1)*2^k) fu (by rw [et,Int.mul_add];omega)
  rw [et,Int.mul_add] at u
  omega
theorem Nr.low (h:Nr t N r) (h0:0<=N):(2^53-1)*N<=2^53*(r*2^t)+2^(52+t):=by
 have pt:=pow_pos2 t
 have e52:(2:Int)^(52+t)=2^52*2^t:=Int.pow_add _ _ _
 by_cases hs:N<=2^(53+0+t)
 ·have:=h.errT (k:=0) (by have:=pow_pos2 (53+0+t);omega) hs
  rw [Nat.zero_add] at this
  omega
 ·obtain ⟨k,k1,k2⟩:=ωO (n:=N) (by have:=pow_le (show 53<=53+0+t by omega);omega)
  have hk:t<=k:=by
   apply Nat.le_of_not_lt;intro hh
   have:=pow_le (show 53+k+1<=53+0+t by omega);omega
  obtain ⟨j,rfl⟩:=Nat.exists_eq_add_of_le hk
  have:=h.errT (k:=j+1) (by have:=pow_pos2 (53+(j+1)+t);omega) (by rw [show 53+(j+1)+t=53+(t+j)+1 by omega];omega)
  have e1:(2:Int)^(j+1+t)=2*2^(t+j):=by rw [show j+1+t=(t+j)+1 by omega,pow_succ2]
  have e2:(2:Int)^(53+(t+j))=2^53*2^(t+j):=Int.pow_add _ _ _
  omega
theorem Nr.low0 (h:Nr 0 N r) (h0:0<=N):(2^53-1)*N<=2^53*r:=by
 by_cases hs:N<=2^53
 ·rw [h.exact (Fl.small (by omega) hs)];omega
 ·obtain ⟨k,k1,k2⟩:=ωO (n:=N) (by omega)
  have:=h.err (k:=k+1) (by have:=pow_pos2 (53+(k+1));omega) (by rw [show 53+(k+1)=53+k+1 by omega];omega)
  have e1:=pow_succ2 k
  have e2:(2:Int)^(53+k)=2^53*2^k:=Int.pow_add _ _ _
  omega
theorem Nr.nn (h:Nr t N r) (h0:0<=N):0<=r:=h.ge Fl.zero (by simpa using h0)
structure ζE (m j:Nat) (S s:Int):Prop where
 fl:Fl s
 s0:0<=s
 S0:0<=S
 up:s<=j*2^m
 low:(2^53+1)*S<=2^53*s+j*S
 zero:j=0->s=0∧S=0
theorem ζE.start (m:Nat):ζE m 0 0 0:=⟨Fl.zero,by omega,by omega,by simp,by simp,fun _=>⟨rfl,rfl⟩⟩
theorem ζE.step {c s':Int} (h:ζE m j S s) (hc:Fl c) (c0:0<=c) (c1:c<=2^m) (hs:Nr 0 (s+c) s') (hj:j<=8):ζE m (j+1) (S+c) s':=by
 have h0:=h.s0
 have hS:=h.S0
 refine ⟨hs.fl,hs.nn (by omega),by omega,?_,?_,by omega⟩
 ·refine hs.le (f:=((j+1:Nat):Int)*2^m) ⟨((j+1:Nat):Int),m,rfl,by omega,by omega⟩ ?_
  have:=h.up
  rw [Int.natCast_add,Int.add_mul];simp;omega
 ·rcases Nat.eq_zero_or_pos j with hz|hz
  ·obtain ⟨rfl,rfl⟩:=h.zero hz
   subst hz
   rw [Int.zero_add] at hs⊢
   rw [hs.exact hc]
   simp;omega
  ·have l:=hs.low0 (by omega)
   have hl:=h.low
   have e1:((j+1:Nat):Int)*(S+c)=j*S+j*c+S+c:=by
    rw [Int.natCast_add,Int.add_mul,Int.mul_add];simp;omega
   rw [e1]
   obtain ⟨jS,hjS⟩: ∃z,z=(j:Int)*S:=⟨_,rfl⟩
   obtain ⟨jc,hjc⟩: ∃z,z=(j:Int)*c:=⟨_,rfl⟩
   rw [<-hjS] at hl⊢
   rw [<-hjc]
   have a1:c<=jc:=by
    have:1*c<=(j:Int)*c:=Int.mul_le_mul_of_nonneg_right (by omega) c0
    omega
   have a2:S<=jS:=by
    have:1*S<=(j:Int)*S:=Int.mul_le_mul_of_nonneg_right (by omega) hS
    omega
   omega
structure ζz (S b:Int):Prop where
 nn:0<=b
 ge:S<=b
 more:(2^53+2)*S<=2^53*b+2^52
def roomV:Int:=2^1074+2^1024
theorem ζE.finish (h:ζE m j S s) (hj:j<=5) (hb:Nr 1074 (s*roomV) b):ζz S b∧b<=2^(m+4):=by
 have h0:=h.s0
 have hS:=h.S0
 have er:roomV=(2^50+1)*2^1024:=by decide+kernel
 have e1074:(2:Int)^1074=2^50*2^1024:=by decide+kernel
 have e1126:(2:Int)^(52+1074)=2^102*2^1024:=by decide+kernel
 have pQ:=pow_pos2 1024
 obtain ⟨Q,hQ⟩: ∃Q:Int,Q=2^1024:=⟨_,rfl⟩
 have r0:0<=roomV:=by rw [er];exact Int.mul_nonneg (by decide) (by omega)
 have hn:=hb.nn (Int.mul_nonneg h0 r0)
 have l:=hb.low (Int.mul_nonneg h0 r0)
 have l2:(2^53-1)*(s*(2^50+1))<=2^53*(b*2^50)+2^102:=by
  rw [er,e1074,e1126,<-hQ] at l
  have e:(2^53-1)*(s*((2^50+1)*Q))=((2^53-1)*(s*(2^50+1)))*Q:=by
   rw [<-Int.mul_assoc s,<-Int.mul_assoc]
  have e2:2^53*(b*(2^50*Q))+2^102*Q=(2^53*(b*2^50)+2^102)*Q:=by
   rw [<-Int.mul_assoc b,<-Int.mul_assoc,Int.add_mul]
  rw [e,e2] at l
  exact Int.le_of_mul_le_mul_right l (by omega)
 have hl:=h.low
 have hjS:(j:Int)*S<=5*S:=Int.mul_le_mul_of_nonneg_right (by omega) hS
 have hmore:(2^53+2)*S<=2^53*b+2^52:=by omega
 refine ⟨⟨hn,by omega,hmore⟩,?_⟩
 refine hb.le (Fl.pow _) ?_
 have hu:=h.up
 have pm:=pow_pos2 m
 have hu5:s<=5*2^m:=by
  have:(j:Int)*2^m<=5*2^m:=Int.mul_le_mul_of_nonneg_right (by omega) (by omega)
  omega
 have hr2:roomV<=2*2^1074:=by decide+kernel
 have x1:s*roomV<=s*(2*2^1074):=Int.mul_le_mul_of_nonneg_left hr2 h0
 have p74:=pow_pos2 1074
 have x2:s*(2*2^1074)<=(5*2^m)*(2*2^1074):=Int.mul_le_mul_of_nonneg_right hu5 (by omega)
 have x3: ∀P Z:Int,0<=P->0<=Z->(5*P)*(2*Z)<=(16*P)*Z:=by
  intro P Z hP hZ
  have y:=Int.mul_nonneg hP hZ
  have y1:(5*P)*(2*Z)=10*(P*Z):=by grind
  have y2:(16*P)*Z=16*(P*Z):=by grind
  omega
 have x4:(2:Int)^(m+4)=16*2^m:=by rw [Int.pow_add];omega
 rw [x4]
 exact Int.le_trans x1 (Int.le_trans x2 (x3 _ _ (by omega) (by omega)))
structure Est (k e:Nat) (S N v b:Int):Prop where
 fv:Fl v
 fb:Fl b
 b0:0<=b
 s0:0<S
 lo:N*2^(1074-149*k)-v*S<=b*S
 hi:v*S-N*2^(1074-149*k)<=b*S
 dv:b=0->(2:Int)^(1074-149*k)∣v
 v1:v<=2^(1074+e)
 v2: -(2^(1074+e))<=v
 b1:b<=2^(1074+e)
theorem Est.up {e':Nat} (h:Est k e S N v b) (he:e<=e'):Est k e' S N v b:=by
 have:=pow_le (show 1074+e<=1074+e' by omega)
 obtain ⟨a1,a2,a3,a0,a4,a5,a6,a7,a8,a9⟩:=h
 exact ⟨a1,a2,a3,a0,a4,a5,a6,by omega,by omega,by omega⟩
theorem Est.neg (h:Est k e S N v b):Est k e S (-N) (-v) b:=by
 obtain ⟨a1,a2,a3,a0,a4,a5,a6,a7,a8,a9⟩:=h
 exact ⟨a1.neg,a2,a3,a0,by rw [Int.neg_mul,Int.neg_mul];omega,by rw [Int.neg_mul,Int.neg_mul];omega,fun h=>Int.dvd_neg.2 (a6 h),by omega,by omega,a9⟩
theorem Est.lift (h:Est k e S N v b) {t:Int} (ht:0<t):Est k e (S*t) (N*t) v b:=by
 obtain ⟨a1,a2,a3,a0,a4,a5,a6,a7,a8,a9⟩:=h
 have l:=Int.mul_le_mul_of_nonneg_right a4 (Int.le_of_lt ht)
 have u:=Int.mul_le_mul_of_nonneg_right a5 (Int.le_of_lt ht)
 refine ⟨a1,a2,a3,Int.mul_pos a0 ht,?_,?_,a6,a7,a8,a9⟩<;>clear a6<;>generalize (2:Int)^(1074-149*k)=X at*
 ·have e1:N*t*X-v*(S*t)=(N*X-v*S)*t:=by grind
  have e2:b*(S*t)=b*S*t:=by grind
  rw [e1,e2];exact l
 ·have e1:v*(S*t)-N*t*X=(v*S-N*X)*t:=by grind
  have e2:b*(S*t)=b*S*t:=by grind
  rw [e1,e2];exact u
def absI (n:Int):Int:=if n<0 then-n else n
theorem absI_cases (n:Int):(0<=n∧absI n=n)∨(n<0∧absI n= -n):=by
 unfold absI
 by_cases h:n<0
 ·right;rw [if_pos h];exact ⟨h,rfl⟩
 ·left;rw [if_neg h];exact ⟨by omega,rfl⟩
theorem loss_le {a:Int} (ha:Fl a) (hs:Nr 0 (a+b) s):absI (a+b-s)<=absI b:=by
 rcases absI_cases b with ⟨h,e⟩| ⟨h,e⟩<;>rw [e]
 ·have:=hs.dn a ha (by simp;omega);simp at this
  rcases absI_cases (a+b-s) with ⟨_,e⟩| ⟨_,e⟩<;>rw [e]<;>omega
 ·have:=hs.up a ha (by simp;omega);simp at this
  rcases absI_cases (a+b-s) with ⟨_,e⟩| ⟨_,e⟩<;>rw [e]<;>omega
theorem Est.plus (hA:Est k e S A va ba) (hB:Est k e S B vb bb) (hs:Nr 0 (va+vb) s) (hb:ζz (ba+bb+absI (va+vb-s)) b) (fb:Fl b) (hb1:b<=2^(1074+e+4)):Est k (e+4) S (A+B) s b:=by
 have p:=pow_pos2 (1074+e)
 have e4:(2:Int)^(1074+(e+4))=2^(1074+e)*16:=by rw [<-Nat.add_assoc,Int.pow_add];rfl
 have e4':(2:Int)^(1074+e+4)=2^(1074+e)*16:=by rw [Int.pow_add];rfl
 have e1:=pow_succ2 (1074+e)
 have:=hA.v1;have:=hA.v2;have:=hB.v1;have:=hB.v2
 have s1:=hs.le (Fl.pow (1074+e+1)) (by simp;omega)
 have s2:=hs.ge (Fl.pow (1074+e+1)).neg (by simp;omega)
 have hg:=hb.ge
 have a1:=hA.lo;have a2:=hA.hi;have a3:=hB.lo;have a4:=hB.hi
 have z1:=hA.b0;have z2:=hB.b0
 have zl:0<=absI (va+vb-s)∧va+vb-s<=absI (va+vb-s)∧s-(va+vb)<=absI (va+vb-s):=by
  rcases absI_cases (va+vb-s) with ⟨_,e⟩| ⟨_,e⟩<;>rw [e]<;>omega
 generalize absI (va+vb-s)=L at*
 have k0:=hA.s0
 have gS:(ba+bb+L)*S<=b*S:=Int.mul_le_mul_of_nonneg_right hg (by omega)
 have l1:(va+vb-s)*S<=L*S:=Int.mul_le_mul_of_nonneg_right zl.2.1 (by omega)
 have l2:(s-(va+vb))*S<=L*S:=Int.mul_le_mul_of_nonneg_right zl.2.2 (by omega)
 refine ⟨hs.fl,fb,hb.nn,k0,?_,?_,fun hz=> ?_,by omega,by omega,by omega⟩
 ·rw [Int.add_mul,Int.add_mul] at gS
  rw [Int.sub_mul,Int.add_mul] at l1
  rw [Int.add_mul];omega
 ·rw [Int.add_mul,Int.add_mul] at gS
  rw [Int.sub_mul,Int.add_mul] at l2
  rw [Int.add_mul];omega
 ·have:s=va+vb:=by omega
  rw [this]
  exact Int.dvd_add (hA.dv (by omega)) (hB.dv (by omega))
theorem ρN (a1:A-va<=ba) (a2:va-A<=ba) (b1:B-vb<=bb) (b2:vb-B<=bb):A*B-va*vb<=absI (va*bb)+absI (ba*vb)+ba*bb∧va*vb-A*B<=absI (va*bb)+absI (ba*vb)+ba*bb:=by
 obtain ⟨x,hx⟩: ∃x,x=A-va:=⟨_,rfl⟩
 obtain ⟨y,hy⟩: ∃y,y=B-vb:=⟨_,rfl⟩
 have e:A*B-va*vb=va*y+x*vb+x*y:=by subst hx hy;grind
 have habs: ∀u w c:Int,-c<=w->w<=c->u*w<=absI (u*c)∧ -(u*w)<=absI (u*c):=by
  intro u w c h1 h2
  have hc:0<=c:=by omega
  rcases Int.le_total 0 u with hu|hu
  ·have z1:u*w<=u*c:=Int.mul_le_mul_of_nonneg_left h2 hu
   have z2:u*(-c)<=u*w:=Int.mul_le_mul_of_nonneg_left h1 hu
   have z3:0<=u*c:=Int.mul_nonneg hu hc
   rw [Int.mul_neg] at z2
   rcases absI_cases (u*c) with ⟨_,e⟩| ⟨_,e⟩<;>rw [e]<;>omega
  ·have z1:(-u)*w<=(-u)*c:=Int.mul_le_mul_of_nonneg_left h2 (by omega)
   have z2:(-u)*(-c)<=(-u)*w:=Int.mul_le_mul_of_nonneg_left h1 (by omega)
   have z3:0<=(-u)*c:=Int.mul_nonneg (by omega) hc
   rw [Int.neg_mul,Int.neg_mul] at z1
   rw [Int.neg_mul,Int.mul_neg,Int.neg_mul,Int.neg_neg] at z2
   rw [Int.neg_mul] at z3
   rcases absI_cases (u*c) with ⟨_,e⟩| ⟨_,e⟩<;>rw [e]<;>omega
 have t1:=habs va y bb (by omega) (by omega)
 have t2:=habs vb x ba (by omega) (by omega)
 rw [Int.mul_comm vb x,Int.mul_comm vb ba] at t2
 have hba:0<=ba:=by omega
 have hbb:0<=bb:=by omega
 have t3:x*y<=ba*bb∧ -(x*y)<=ba*bb:=by
  have t:=habs x y bb (by omega) (by omega)
  have q1:x*bb<=ba*bb:=Int.mul_le_mul_of_nonneg_right (by omega) hbb
  have q2:(-x)*bb<=ba*bb:=Int.mul_le_mul_of_nonneg_right (by omega) hbb
  rw [Int.neg_mul] at q2
  rcases absI_cases (x*bb) with ⟨_,e⟩| ⟨_,e⟩<;>rw [e] at t<;>omega
 omega
theorem Nr.abs (h:Nr t N r):Nr t (absI N) (absI r):=by
 rcases absI_cases N with ⟨h1,e⟩| ⟨h1,e⟩<;>rw [e]
 ·have:=h.nn h1
  rcases absI_cases r with ⟨_,e⟩| ⟨_,e⟩<;>rw [e]
  ·exact h
  ·omega
 ·have:=h.neg.nn (by omega)
  rcases absI_cases r with ⟨_,e⟩| ⟨_,e⟩<;>rw [e]
  ·have:r=0:=by omega
   subst this;exact h.neg
  ·exact h.neg
theorem Nr.unscale {n:Int} (h:Nr t (n*2^t) r):Nr 0 n r:=by
 have pt:=pow_pos2 t
 have key: ∀x y:Int,x*2^t<=y*2^t->x<=y:=fun x y h=>Int.le_of_mul_le_mul_right h pt
 refine ⟨h.fl,fun f hf hN=> ?_,fun f hf hN=> ?_⟩<;>simp only [Int.pow_zero,Int.mul_one] at hN⊢
 ·have:=h.up f hf (Int.mul_le_mul_of_nonneg_right hN (by omega))
  constructor<;>apply key<;>rw [Int.sub_mul,Int.sub_mul]
  ·exact this.1
  ·exact this.2
 ·have:=h.dn f hf (Int.mul_le_mul_of_nonneg_right hN (by omega))
  constructor<;>apply key<;>rw [Int.sub_mul,Int.sub_mul]
  ·exact this.1
  ·exact this.2
theorem mul_mag {x y:Int} {a b:Nat} (x1:x<=2^a) (x2: -(2^a)<=x) (y1:y<=2^b) (y2: -(2^b)<=y):x*y<=2^(a+b)∧ -(2^(a+b))<=x*y:=by
 have hx:absI x<=2^a:=by rcases absI_cases x with ⟨_,e⟩| ⟨_,e⟩<;>rw [e]<;>omega
 have hy:absI y<=2^b:=by rcases absI_cases y with ⟨_,e⟩| ⟨_,e⟩<;>rw [e]<;>omega
 have x0:0<=absI x:=by rcases absI_cases x with ⟨_,e⟩| ⟨_,e⟩<;>rw [e]<;>omega
 have y0:0<=absI y:=by rcases absI_cases y with ⟨_,e⟩| ⟨_,e⟩<;>rw [e]<;>omega
 have h:absI x*absI y<=2^a*2^b:=Int.mul_le_mul hx hy y0 (by have:=pow_pos2 a;omega)
 rw [<-Int.pow_add] at h
 have h0:0<=absI x*absI y:=Int.mul_nonneg x0 y0
 have e:x*y=absI x*absI y∨x*y= -(absI x*absI y):=by
  rcases absI_cases x with ⟨_,e⟩| ⟨_,e⟩<;>rcases absI_cases y with ⟨_,f⟩| ⟨_,f⟩<;>rw [e,f]
  ·left;rfl
  ·right;rw [Int.mul_neg,Int.neg_neg]
  ·right;rw [Int.neg_mul,Int.neg_neg]
  ·left;rw [Int.neg_mul,Int.mul_neg,Int.neg_neg]
 omega
theorem Fl.place {i:Nat} (h:Fl v) (hd:(2:Int)^i∣v): ∃(m:Int) (k:Nat),i<=k∧v=m*2^k∧ -(2^53)<=m∧m<=2^53:=by
 obtain ⟨m,k,hv,h1,h2⟩:=h
 by_cases hk:i<=k
 ·exact ⟨m,k,hk,hv,h1,h2⟩
 ·obtain ⟨c,hc⟩:=hd
  obtain ⟨d,rfl⟩:=Nat.exists_eq_add_of_le (show k<=i by omega)
  have hm:m=c*2^d:=by
   have:m*2^k=(c*2^d)*2^k:=by rw [<-hv,hc,Int.pow_add,Int.mul_comm];rw [Int.mul_assoc,Int.mul_comm (2^d)]
   exact Int.eq_of_mul_eq_mul_right (by have:=pow_pos2 k;omega) this
  have pd:=pow_pos2 d
  refine ⟨c,k+d,Nat.le_refl _,by rw [hc,Int.mul_comm],?_,?_⟩
  ·rcases Int.le_total 0 c with h|h
   ·have:=pow_pos2 53;omega
   ·have:c*2^d<=c*1:=Int.mul_le_mul_of_nonpos_left h (by omega)
    omega
  ·rcases Int.le_total 0 c with h|h
   ·have:c*1<=c*2^d:=Int.mul_le_mul_of_nonneg_left (by omega) h
    omega
   ·have:=pow_pos2 53;omega
theorem κo {i g:Nat} (fa:Fl va) (fb:Fl vb) (da:(2:Int)^i∣va) (db:(2:Int)^j∣vb) (hij:i+j=1074+g): ∃n:Int,va*vb=n*2^1074∧(2:Int)^g∣n∧ ∀r,Nr 0 n r->Fl (n-r):=by
 obtain ⟨ma,ka,hka,rfl,a1,a2⟩:=fa.place da
 obtain ⟨mb,kb,hkb,rfl,b1,b2⟩:=fb.place db
 obtain ⟨c,hc⟩: ∃c,ka+kb=1074+c:=⟨ka+kb-1074,by omega⟩
 have en:ma*2^ka*(mb*2^kb)=ma*mb*2^c*2^1074:=by
  have e:(2:Int)^ka*2^kb=2^c*2^1074:=by rw [<-Int.pow_add,<-Int.pow_add];congr 1;omega
  generalize (2:Int)^1074=Q at e⊢
  rw [Int.mul_assoc (ma*mb),<-e]
  grind
 have hd:(2:Int)^c∣ma*mb*2^c:=Int.dvd_mul_left _ _
 refine ⟨ma*mb*2^c,en,Int.dvd_trans (ξp (by omega)) hd,fun r hr=> ?_⟩
 have hm:=mul_mag (a:=53) (b:=53) a2 a1 b2 b1
 have pc:=pow_pos2 c
 have ec:(2:Int)^(53+(53+c))=2^(53+53)*2^c:=by rw [<-Int.pow_add];congr 1;omega
 have he:=hr.err (k:=53+c) (by
  rw [ec,<-Int.neg_mul];exact Int.mul_le_mul_of_nonneg_right hm.2 (by omega)) (by
  rw [ec];exact Int.mul_le_mul_of_nonneg_right hm.1 (by omega))
 exact Fl.of_dvd (Int.dvd_sub hd (hr.dvd hd)) (by have:=pow_pos2 (53+c);omega) (by have:=pow_pos2 (53+c);omega)
theorem ρO {k1 k2:Nat} (hk:k1+k2<=7):(2:Int)^(1074-149*k1)*2^(1074-149*k2)=2^(1074-149*(k1+k2))*2^1074:=by
 rw [<-Int.pow_add,<-Int.pow_add];congr 1;omega
theorem ωP {Q P1 P2 P3 P4 c1 c2 c3 c4 u:Int} (hQ:0<Q) (l1:(2^53-1)*P1<=2^53*(c1*Q)+2^52*Q) (l2:(2^53-1)*P2<=2^53*(c2*Q)+2^52*Q) (l3:(2^53-1)*P3<=2^53*(c3*Q)+2^52*Q) (l4:(2^53-1)*P4<=2^53*(c4*Q)+2^52*Q) (p1:0<=P1) (p2:0<=P2) (p3:0<=P3) (p4:0<=P4) (hu:2^10<=u) (hb:(2^53+2)*(c1+c2+c3+c4+u)<=2^53*b+2^52):P1+P2+P3+P4<=b*Q:=by
 have hb':(2^53+2)*(c1+c2+c3+c4+u)*Q<=(2^53*b+2^52)*Q:=Int.mul_le_mul_of_nonneg_right hb (by omega)
 have e1:(2^53+2)*(c1+c2+c3+c4+u)*Q=(2^53+2)*(c1*Q+c2*Q+c3*Q+c4*Q+u*Q):=by grind
 have e2:(2^53*b+2^52)*Q=2^53*(b*Q)+2^52*Q:=by grind
 rw [e1,e2] at hb'
 have huQ:2^10*Q<=u*Q:=Int.mul_le_mul_of_nonneg_right hu (by omega)
 generalize c1*Q=C1 at*
 generalize c2*Q=C2 at*
 generalize c3*Q=C3 at*
 generalize c4*Q=C4 at*
 generalize u*Q=UQ at*
 generalize b*Q=BQ at*
 omega
theorem loss_mag {V l:Int} (hr:Nr 1074 V r) (hl:Nr 1074 (V+ -r*2^1074) l) (h1:V<=2^m*2^1074) (h2: -(2^m*2^1074)<=V): -(2^m)<=l∧l<=2^m:=by
 have pQ:=pow_pos2 1074
 have pm:=Int.mul_pos (pow_pos2 m) pQ
 have hb: -(2^m*2^1074)<=V+ -r*2^1074∧V+ -r*2^1074<=2^m*2^1074:=by
  rw [Int.neg_mul]
  rcases Int.le_total 0 V with h|h
  ·have:=hr.dn 0 Fl.zero (by rw [Int.zero_mul];exact h)
   rw [Int.zero_mul] at this
   generalize r*2^1074=R at*
   generalize (2:Int)^m*2^1074=K at*
   omega
  ·have:=hr.up 0 Fl.zero (by rw [Int.zero_mul];exact h)
   rw [Int.zero_mul] at this
   generalize r*2^1074=R at*
   generalize (2:Int)^m*2^1074=K at*
   omega
 exact ⟨hl.ge (Fl.pow m).neg (by rw [Int.neg_mul];exact hb.1),hl.le (Fl.pow m) hb.2⟩
theorem χ3 {x t:Int} (h:0<=t):absI (x*t)=absI x*t:=by
 rcases absI_cases x with ⟨a,e⟩| ⟨a,e⟩<;>rw [e]<;>rcases absI_cases (x*t) with ⟨c,f⟩| ⟨c,f⟩<;>rw [f]
 ·have:=Int.mul_nonneg a h;omega
 ·rcases Int.lt_or_eq_of_le h with h|h
  ·have:=Int.mul_neg_of_neg_of_pos a h;omega
  ·rw [<-h];simp
 ·rw [Int.neg_mul]
theorem ξG (x:Int):0<=absI x:=by rcases absI_cases x with ⟨_,e⟩| ⟨_,e⟩<;>rw [e]<;>omega
theorem Est.times {k1 k2 e1 e2:Nat} {S' l q1 q2 q3 u T:Int} (hk:k1+k2<=7) (hA:Est k1 e1 S A va ba) (hB:Est k2 e2 S' B vb bb) (hr:Nr 1074 (va*vb) r) (hl:Nr 1074 (va*vb+ -r*2^1074) l) (h1:Nr 1074 (va*bb) q1) (h2:Nr 1074 (ba*vb) q2) (h3:Nr 1074 (ba*bb) q3) (hu:ba=0∧bb=0∧u=0∨u=2^74) (hT:T=absI q1+absI q2+absI q3+absI l+u) (hb:ζz T b) (fb:Fl b) (mm:va*vb<=2^(1074+e)*2^1074∧ -(2^(1074+e)*2^1074)<=va*vb) (hb1:b<=2^(1074+(e+4))):
 Est (k1+k2) (e+4) (S*S') (A*B) r b:=by
 have eQ:=ρO hk
 have e52:(2:Int)^(52+1074)=2^52*2^1074:=Int.pow_add _ _ _
 have e16:(2:Int)^(1074+(e+4))=2^(1074+e)*16:=by rw [<-Nat.add_assoc,Int.pow_add];rfl
 have pm:=pow_pos2 (1074+e)
 have pQ:=pow_pos2 1074
 have r1:=hr.le (Fl.pow _) mm.1
 have r2:=hr.ge (Fl.pow (1074+e)).neg (by rw [Int.neg_mul];exact mm.2)
 have w1:=h1.abs.low (ξG _)
 have w2:=h2.abs.low (ξG _)
 have w3:=h3.abs.low (ξG _)
 have w4:=hl.abs.low (ξG _)
 rw [e52] at w1 w2 w3 w4
 have hP3:absI (ba*bb)=ba*bb:=by
  have:=Int.mul_nonneg hA.b0 hB.b0
  rcases absI_cases (ba*bb) with ⟨_,e⟩| ⟨_,e⟩<;>rw [e];omega
 have sA:=hA.s0
 have sB:=hB.s0
 have sAB:=Int.mul_pos sA sB
 have near:=ρN hA.lo hA.hi hB.lo hB.hi
 have eAB:A*2^(1074-149*k1)*(B*2^(1074-149*k2))=A*B*2^(1074-149*(k1+k2))*2^1074:=by
  have:A*2^(1074-149*k1)*(B*2^(1074-149*k2))=A*B*(2^(1074-149*k1)*2^(1074-149*k2)):=by
   generalize (2:Int)^(1074-149*k1)=X
   generalize (2:Int)^(1074-149*k2)=Y
   grind
  rw [this,eQ,Int.mul_assoc (A*B)]
 have eP:absI (va*S*(bb*S'))=absI (va*bb)*(S*S'):=by
  rw [<-χ3 (Int.le_of_lt sAB)];congr 1;grind
 have eP2:absI (ba*S*(vb*S'))=absI (ba*vb)*(S*S'):=by
  rw [<-χ3 (Int.le_of_lt sAB)];congr 1;grind
 have eP3:ba*S*(bb*S')=ba*bb*(S*S'):=by grind
 have eV:va*S*(vb*S')=va*vb*(S*S'):=by grind
 rw [eAB,eP,eP2,eP3,eV] at near
 have key:absI (va*bb)+absI (ba*vb)+ba*bb+absI (va*vb+ -r*2^1074)<=b*2^1074∧(b=0->(2:Int)^(1074-149*(k1+k2))∣r):=by
  rcases hu with ⟨z1,z2,z3⟩|hu
  ·obtain ⟨n,hn,hnd,hne⟩:=κo (g:=1074-149*(k1+k2)) hA.fv hB.fv (hA.dv z1) (hB.dv z2) (by omega)
   have hr0:=hr;have hl0:=hl
   rw [hn] at hr0 hl0
   have hr':=hr0.unscale
   have en:n*2^1074+ -r*2^1074=(n-r)*2^1074:=by rw [Int.sub_mul,Int.neg_mul];rfl
   have hl':l=n-r:=by
    rw [en] at hl0
    exact hl0.self (hne r hr')
   refine ⟨?_,fun _=>hr'.dvd hnd⟩
   subst z1 z2 z3
   have hg:=hb.ge
   have a1:=ξG q1
   have a2:=ξG q2
   have a3:=ξG q3
   have hle:absI l*2^1074<=b*2^1074:=Int.mul_le_mul_of_nonneg_right (by omega) (by omega)
   have z:absI 0=0:=rfl
   have z1:va*0=0:=Int.mul_zero _
   have z2:(0:Int)*vb=0:=Int.zero_mul _
   have z3:(0:Int)*0=0:=rfl
   rw [z1,z2,z3,z,hn,en,<-hl',χ3 (by omega)];omega
  ·have hmore:=hb.more
   rw [hT] at hmore
   rw [hP3] at w3
   refine ⟨ωP (c1:=absI q1) (c2:=absI q2) (c3:=absI q3) (c4:=absI l) (u:=u) pQ w1 w2 w3 w4 (ξG _) (ξG _) (Int.mul_nonneg hA.b0 hB.b0) (ξG _) (by rw [hu];decide) hmore,fun hz=> ?_⟩
   have hg:=hb.ge
   have a1:=ξG q1
   have a2:=ξG q2
   have a3:=ξG q3
   have a4:=ξG l
   have:(0:Int)<2^74:=by decide
   omega
 have hlQ:va*vb-r*2^1074<=absI (va*vb+ -r*2^1074)∧r*2^1074-va*vb<=absI (va*vb+ -r*2^1074):=by
  rw [Int.neg_mul]
  rcases absI_cases (va*vb+ -(r*2^1074)) with ⟨_,e⟩| ⟨_,e⟩<;>rw [e]<;>omega
 obtain ⟨hbQ,hd⟩:=key
 generalize (2:Int)^1074=Q at*
 refine ⟨hr.fl,fb,hb.nn,sAB,?_,?_,hd,by omega,by omega,hb1⟩
 all_goals
  generalize (2:Int)^(1074-149*(k1+k2))=X at*
  generalize S*S'=M at*
  generalize absI (va*bb)=p1 at*
  generalize absI (ba*vb)=p2 at*
  generalize ba*bb=p3 at*
  generalize absI (va*vb+ -r*Q)=p4 at*
  generalize va*vb=V at*
  have g1:=Int.mul_le_mul_of_nonneg_right hbQ (Int.le_of_lt sAB)
  have g2:=Int.mul_le_mul_of_nonneg_right hlQ.1 (Int.le_of_lt sAB)
  have g3:=Int.mul_le_mul_of_nonneg_right hlQ.2 (Int.le_of_lt sAB)
  refine Int.le_of_mul_le_mul_right (?_:(_:Int)*Q<=_*Q) pQ
  have e1:(p1+p2+p3+p4)*M=p1*M+p2*M+p3*M+p4*M:=by grind
  have e2:b*Q*M=b*M*Q:=by grind
  have e3:(V-r*Q)*M=V*M-r*M*Q:=by grind
  have e4:(r*Q-V)*M=r*M*Q-V*M:=by grind
  rw [Int.sub_mul]
  omega
theorem Est.sign (h:Est k e S N v b) (hc:b=0∨b<absI v):(0<N↔0<v)∧(N<0↔v<0):=by
 have pX:=pow_pos2 (1074-149*k)
 have h1:=h.lo
 have h2:=h.hi
 have h0:=h.b0
 have hs:=h.s0
 generalize (2:Int)^(1074-149*k)=X at*
 have pos:0<N->0<N*X:=fun h=>Int.mul_pos h pX
 have neg:N<0->N*X<0:=fun h=>Int.mul_neg_of_neg_of_pos h pX
 have zer:N=0->N*X=0:=fun h=>by rw [h,Int.zero_mul]
 have c0:b=0->b*S=0:=fun h=>by rw [h,Int.zero_mul]
 have c1:b<v->b*S<v*S:=fun h=>Int.mul_lt_mul_of_pos_right h hs
 have c2:b< -v->b*S< -(v*S):=fun h=>by rw [<-Int.neg_mul];exact Int.mul_lt_mul_of_pos_right h hs
 have v0:0<v->0<v*S:=fun h=>Int.mul_pos h hs
 have v1:v<0->v*S<0:=fun h=>Int.mul_neg_of_neg_of_pos h hs
 have v2:v=0->v*S=0:=fun h=>by rw [h,Int.zero_mul]
 rcases absI_cases v with ⟨_,e⟩| ⟨_,e⟩<;>rw [e] at hc<;>rcases Int.lt_trichotomy N 0 with hN|hN|hN<;>rcases Int.lt_trichotomy v 0 with hv|hv|hv
 all_goals
  (try have:=pos hN)
  (try have:=neg hN)
  (try have:=zer hN)
  (try have:=v0 hv)
  (try have:=v1 hv)
  (try have:=v2 hv)
  rcases hc with hc|hc
  ·have:=c0 hc;omega
  ·first| (have:=c1 hc;omega)| (have:=c2 hc;omega)|omega
end Fl
theorem ξw (n:Nat) (w:World):(callFunc 177 #[n]).run prog w= .ok (.value (.int .u64 n)) w:=by
 rw [run_callFunc_extern (e:=Extern.MathFloatBits.float64bits) func177 (by kernel_rfl) (by kernel_rfl) (by kernel_rfl) (by kernel_rfl)]
 rfl
theorem ξW (b:Int) (w:World):(callFunc 180 #[.int .u64 b]).run prog w= .ok (.value (.float .f64 b.toNat)) w:=by
 rw [run_callFunc_extern (e:=Extern.MathFloatBits.float64frombits) func180 (by kernel_rfl) (by kernel_rfl) (by kernel_rfl) (by kernel_rfl)]
 rfl
theorem ψC (b:Int) (w:World):(callFunc 204 #[b]).run prog w= .ok (.value (.float .f32 b.toNat)) w:=by
 rw [run_callFunc_extern (e:=Extern.MathFloatBits.float32frombits) func204 (by kernel_rfl) (by kernel_rfl) (by kernel_rfl) (by kernel_rfl)]
 rfl
theorem ψW (W X:Nat) (w:World) (hW:W<18446744073709551616) (hX:W%9223372036854775808=X):
 Calls prog 181 #[W] w fun e w'=>e= .returned X∧Below w w w':=by
 have hb:=κj W hW
 rw [hX] at hb
 have h1:=ξw
 have h2:=ξW
 clear hX hW
 go_enter func181,ntmps181
 go_wp2
 go_ret
 exact ⟨by simp,Below.refl _ _⟩
theorem isNaN64_any (W:Nat) (b:Bool) (w:World) (h:(FloatKind.f64.format.order W W !=some .eq)=b):
 Calls prog 175 #[W] w fun e w'=>e= .returned b∧Below w w w':=by
 go_enter func175,ntmps175
 go_wp2
 go_ret
 exact ⟨by rw [<-h];rfl,Below.refl _ _⟩
theorem isInf64_any (W X:Nat) (b:Bool) (w:World) (hW:W<18446744073709551616) (hX:W%9223372036854775808=X) (h:(FloatKind.f64.format.order X 9218868437227405311==some .gt)=b):
 Calls prog 174 #[W,.int .i64 0] w fun e w'=>e= .returned b∧Below w w w':=by
 have HH:Hid ((FloatKind.f64.format.order X 9218868437227405311==some .gt)=b):=h
 clear h
 go_enter func174,ntmps174
 go_wp2_with fail
 refine (ψW W X _ hW hX).mono ?_
 rintro e w1 ⟨rfl,hb1⟩
 have HB:Hid (Below w w w1):=hb1
 clear hb1
 go_wp2
 go_ret
 exact ⟨by rw [<-HH.out];rfl,HB.out⟩
theorem ηS {X Y:Nat} (hX:X<9218868437227405312) (hY:Y<9218868437227405312):FloatKind.f64.format.order X Y=some (compare (X:Int) (Y:Int)):=ωL hX hY
theorem φ3 (X:Nat) (w:World) (h1:4503599627370496<=X) (h2:X<9218868437227405312):
 Calls prog 176 #[X] w fun e w'=>e= .returned (.tuple #[X,.int .i64 0])∧Below w w w':=by
 have ho:(FloatKind.f64.format.order X 4503599627370496==some .lt)=false:=by
  rw [ηS h2 (by decide),ηa]
  simp
  omega
 go_enter func176,ntmps176
 go_wp2_with fail
 refine (ψW X X _ (by omega) (Nat.mod_eq_of_lt (by omega))).mono ?_
 rintro e w1 ⟨rfl,hb1⟩
 have HB:Hid (Below w w w1):=hb1
 clear hb1
 go_wp2
 refine bodyPost_ret (v:= .tuple #[X,.int .i64 0]) (by simp [results,results176,go_sem]) rfl ?_
 exact ⟨rfl,HB.out⟩
theorem κp {X:Nat} (h:X<9218868437227405312):(FloatKind.f64.format.order X X !=some .eq)=false∧(FloatKind.f64.format.order X 9218868437227405311==some .gt)=false:=by
 constructor
 ·rw [ηS h h]
  exact φf
 ·rw [ηS h (by decide),χZ]
  simp
  omega
theorem ρP (X F f:Nat) (w:World) (hX:X=F*4503599627370496+f) (h1:1<=F) (h2:F<=2046) (hf:f<4503599627370496):
 Calls prog 205 #[X] w fun e w'=>e= .returned (.tuple #[.float .f64 (1022*4503599627370496+f),.int .i64 ((F:Int)-1022)])∧Below w w w':=by
 have hlt:X<9218868437227405312:=by omega
 obtain ⟨o1,o2⟩:=κp hlt
 have o3:(FloatKind.f64.format.order X 0==some .eq)=false:=by
  rw [ηS hlt (by decide),Int.compare_eq_gt.2 (by omega)]
  rfl
 have q1:(X:Int)/4503599627370496=F:=by omega
 have q2:=κk F (by omega)
 have q3:=φX X (by omega)
 rw [show X%4503599627370496=f by omega] at q3
 have q4:=φY f 1022 hf (by decide)
 rw [show ((1022*4503599627370496:Nat):Int)=4602678819172646912 from rfl] at q4
 have e1:=ξw
 have e2:=ξW
 have HX:Hid (X=F*4503599627370496+f):=hX
 clear hX
 have FR: ∀w,Calls prog 210 #[X] w fun e w'=>e= .returned (.tuple #[.float .f64 (1022*4503599627370496+f),.int .i64 ((F:Int)-1022)])∧Below w w w':=by
  intro w
  go_enter func210,ntmps210
  go_wp2_with fail
  refine (isInf64_any X X false _ (by omega) (Nat.mod_eq_of_lt (by omega)) o2).mono ?_
  rintro e w1 ⟨rfl,hb1⟩
  go_wp2_with fail
  refine (isNaN64_any X false _ o1).mono ?_
  rintro e w2 ⟨rfl,hb2⟩
  go_wp2_with fail
  refine (φ3 X _ (by have:=HX.out;omega) hlt).mono ?_
  rintro e w3 ⟨rfl,hb3⟩
  have HB:Hid (Below w w w3):=(hb1.trans (hb2.mono hb1.size)).trans (hb3.mono (Nat.le_trans hb1.size hb2.size))
  clear hb1 hb2 hb3
  go_wp2
  refine bodyPost_ret (v:= .tuple #[.float .f64 (1022*4503599627370496+f),.int .i64 ((F:Int)-1022)]) (by simp [results,results210,go_sem];omega) rfl ?_
  exact ⟨rfl,HB.out⟩
 go_enter func205,ntmps205
 go_wp2_with fail
 refine (FR _).mono ?_
 rintro e w1 ⟨rfl,hb1⟩
 have HB:Hid (Below w w w1):=hb1
 clear hb1 FR
 go_wp2
 refine bodyPost_ret (v:= .tuple #[.float .f64 (1022*4503599627370496+f),.int .i64 ((F:Int)-1022)]) (by simp [results,results205,go_sem]) rfl ?_
 exact ⟨rfl,HB.out⟩
theorem ηT (w:World):
 Calls prog 205 #[oOo] w fun e w'=>e= .returned (.tuple #[oOo,.int .i64 0])∧Below w w w':=by
 have o3:(FloatKind.f64.format.order 0 0==some .eq)=true:=by decide
 have FR: ∀w,Calls prog 210 #[oOo] w fun e w'=>e= .returned (.tuple #[oOo,.int .i64 0])∧Below w w w':=by
  intro w
  go_enter func210,ntmps210
  go_wp2
  refine bodyPost_ret (v:= .tuple #[oOo,.int .i64 0]) (by simp [results,results210,go_sem]) rfl ?_
  exact ⟨rfl,Below.refl _ _⟩
 go_enter func205,ntmps205
 go_wp2_with fail
 refine (FR _).mono ?_
 rintro e w1 ⟨rfl,hb1⟩
 have HB:Hid (Below w w w1):=hb1
 clear hb1 FR
 go_wp2
 refine bodyPost_ret (v:= .tuple #[oOo,.int .i64 0]) (by simp [results,results205,go_sem]) rfl ?_
 exact ⟨rfl,HB.out⟩
theorem ρQ (f:Nat) (w:World) (hf:f<4503599627370496):
 Calls prog 152 #[.float .f64 (1022*4503599627370496+f),.int .i64 24] w fun e w'=>e= .returned (.float .f64 (1046*4503599627370496+f))∧Below w w w':=by
 obtain ⟨X,hX⟩: ∃X,X=1022*4503599627370496+f:=⟨_,rfl⟩
 obtain ⟨Y,hY⟩: ∃Y,Y=1046*4503599627370496+f:=⟨_,rfl⟩
 rw [<-hX,<-hY]
 have hlt:X<9218868437227405312:=by omega
 obtain ⟨o1,o2⟩:=κp hlt
 have o3:(FloatKind.f64.format.order X 0==some .eq)=false:=by
  rw [ηS hlt (by decide),Int.compare_eq_gt.2 (by omega)]
  rfl
 have q1:(X:Int)/4503599627370496=1022:=by omega
 have q2:bits .and .i64 1022 2047=1022:=ωN 1022 (by decide)
 have q3:=φX X (by omega)
 rw [show X%4503599627370496=f by omega] at q3
 have q4:=φY f 1046 hf (by decide)
 rw [show ((1046*4503599627370496:Nat):Int)=4710765210229538816 from rfl,<-hY] at q4
 have q5:=φt (F:=1046) (f:=f) (by decide) (by decide) hf
 rw [<-hY] at q5
 have hop: ∀t w,(binOp .mul t (.float .f64 4607182418800017408) (.float .f64 Y)).run prog w= .ok (.float .f64 Y) w:=fun t w=>run_float_arith w .mul t .f64 _ _ _ q5
 have e1:=ξw
 have e2:=ξW
 have HX:Hid (X=1022*4503599627370496+f):=hX
 clear hX hY q5
 have LD: ∀w,Calls prog 170 #[.float .f64 X,.int .i64 24] w fun e w'=>e= .returned (.float .f64 Y)∧Below w w w':=by
  intro w
  go_enter func170,ntmps170
  go_wp2_with fail
  refine (isInf64_any X X false _ (by omega) (Nat.mod_eq_of_lt (by omega)) o2).mono ?_
  rintro e w1 ⟨rfl,hb1⟩
  go_wp2_with fail
  refine (isNaN64_any X false _ o1).mono ?_
  rintro e w2 ⟨rfl,hb2⟩
  go_wp2_with fail
  refine (φ3 X _ (by have:=HX.out;omega) hlt).mono ?_
  rintro e w3 ⟨rfl,hb3⟩
  have HB:Hid (Below w w w3):=(hb1.trans (hb2.mono hb1.size)).trans (hb3.mono (Nat.le_trans hb1.size hb2.size))
  clear hb1 hb2 hb3
  go_wp2
  go_ret
  exact ⟨by simp,HB.out⟩
 go_enter func152,ntmps152
 go_wp2_with fail
 refine (LD _).mono ?_
 rintro e w1 ⟨rfl,hb1⟩
 have HB:Hid (Below w w w1):=hb1
 clear hb1 LD
 go_wp2
 go_ret
 exact ⟨rfl,HB.out⟩
theorem ηU (w:World):
 Calls prog 152 #[oOo,.int .i64 24] w fun e w'=>e= .returned oOo∧Below w w w':=by
 have o3:(FloatKind.f64.format.order 0 0==some .eq)=true:=by decide
 have LD: ∀w,Calls prog 170 #[oOo,.int .i64 24] w fun e w'=>e= .returned oOo∧Below w w w':=by
  intro w
  go_enter func170,ntmps170
  go_wp2
  go_ret
  exact ⟨rfl,Below.refl _ _⟩
 go_enter func152,ntmps152
 go_wp2_with fail
 refine (LD _).mono ?_
 rintro e w1 ⟨rfl,hb1⟩
 have HB:Hid (Below w w w1):=hb1
 clear hb1 LD
 go_wp2
 go_ret
 exact ⟨rfl,HB.out⟩
theorem θA (neg:Bool) (X:Nat) (w:World) (hX:X<9223372036854775808):
 Calls prog 207 #[.float .f64 (Ieee.double.word neg X)] w fun e w'=>e= .returned neg∧Below w w w':=by
 obtain ⟨W,hW⟩: ∃W,W=Ieee.double.word neg X:=⟨_,rfl⟩
 rw [<-hW]
 have e1:=ξw
 cases neg
 ·have h1:W<9223372036854775808:=by rw [hW];exact hX
  clear hW
  go_enter func207,ntmps207
  go_wp2
  go_ret
  exact ⟨by first| (simp;done)| (simp;omega),Below.refl _ _⟩
 ·have h1:W=9223372036854775808+X:=hW
  have h2:9223372036854775808<=W:=by omega
  have h3:W<18446744073709551616:=by omega
  clear hW h1
  go_enter func207,ntmps207
  go_wp2
  go_ret
  exact ⟨by simp [wrap64];omega,Below.refl _ _⟩
open Fl (IsF Nr ζz ζE absI)
def νA (p:Nat->Int):Nat->Int
 |0=>0
 |j+1=>νA p j+absI (p j)
structure νB (w:World) (b n:Nat) (q:Nat->Nat):Prop where
 lt:b<w.heap.size
 at_: ∀j,j<n->w.cell? ⟨b,j,none⟩=some (.float .f64 (q j))
theorem νB.later {w w':World} {b n:Nat} {q:Nat->Nat} (h:νB w b n q) (hb:Below w w w'):νB w' b n q:=
 ⟨Nat.lt_of_lt_of_le h.lt hb.size,fun j hj=>((ζj hb).1 _ _ h.lt).trans (h.at_ j hj)⟩
def νN (w:World) (n m:Nat) (p:Nat->Int) (e:Ending) (w':World):Prop:=
 ∃(y:Nat) (b:Int),e= .returned y∧IsF y b∧ζz (νA p n) b∧b<=2^(m+4)∧Below w w w'
theorem IsF.abs {x:Nat} (h:IsF x v):IsF (x%9223372036854775808) (absI v):=by
 obtain ⟨neg,X,hX,rfl,rfl⟩:=h
 have hw:Ieee.double.word neg X%9223372036854775808=X:=by
  unfold Ieee.Format.word
  rw [ζ9.1]
  split<;>omega
 rw [hw]
 refine ⟨false,X,hX,rfl,?_⟩
 have h0:(0:Int)<=(dMag X:Int):=by omega
 cases neg<;>rcases Fl.absI_cases (Fl.sg _ (dMag X:Int)) with ⟨h,e⟩| ⟨h,e⟩<;>rw [e]<;>simp only [Fl.sg,Bool.false_eq_true,if_false,if_true] at h⊢ <;>omega
theorem isF_zero:IsF 0 0:=⟨false,0,by decide,rfl,rfl⟩
theorem isF_room:IsF 4607182418800017412 Fl.roomV:=⟨false,4607182418800017412,by decide,by decide,by decide+kernel⟩
theorem IsF.fl {x:Nat} (h:IsF x v):Fl.Fl v:=by
 obtain ⟨neg,X,hX,rfl,rfl⟩:=h
 have:Fl.Fl (dMag X:Int):=by
  unfold dMag
  split
  ·exact Fl.Fl.small (by omega) (by omega)
  ·exact ⟨((4503599627370496+X%4503599627370496:Nat):Int),X/4503599627370496-1,by rw [Int.natCast_mul,Int.natCast_pow];rfl,by omega,by omega⟩
 cases neg
 ·exact this
 ·exact this.neg
theorem ψH (b c n m:Nat) (q:Nat->Nat) (p:Nat->Int) (w:World) (hn:n<=5) (hm:m<=2080) (hr:νB w b n q) (hq: ∀j,j<n->IsF (q j) (p j)) (hp: ∀j,j<n->absI (p j)<=2^m):
 Calls prog 216 #[.slice (some ⟨b,0,none⟩) n c] w fun e w'=>νN w n m p e w':=by
 have HQ:Hid (∀j,j<n->IsF (q j) (p j)∧absI (p j)<=2^m):=fun j hj=>⟨hq j hj,hp j hj⟩
 clear hq hp
 go_enter func216,ntmps216
 go_wp2
 go_loopw [3,5,8] (fun s _ si wr=> ∃(i:Nat) (x:Nat) (v:Int),i<=n∧si= .int .i64 i∧s= .float .f64 x∧Hid (IsF x v∧ζE m i (νA p i) v)∧Hid (Below w w wr)) (fun _ _ si _=>n-(intOf si).toNat)
 case atStart=>exact ⟨0,0,0,Nat.zero_le _,rfl,rfl,⟨isF_zero,ζE.start m⟩,Below.refl _ _⟩
 case round=>
  obtain ⟨i,x,v,hi,rfl,rfl,HS,HB⟩:=hrel
  by_cases hlt:i<n
  ·have hib:(i:Int)<n:=by omega
   have g0:=(hr.later HB.out).at_ i hlt
   have gl:=(hr.later HB.out).lt
   obtain ⟨y,hy⟩: ∃y,y=q i:=⟨_,rfl⟩
   rw [<-hy] at g0
   have HY:Hid (IsF y (p i)∧absI (p i)<=2^m):=by rw [hy];exact HQ.out i hlt
   clear hy
   have HA:Hid (IsF (y%9223372036854775808) (absI (p i))):=IsF.abs HY.out.1
   obtain ⟨z,hz⟩: ∃z,z=y%9223372036854775808:=⟨_,rfl⟩
   have HZ:Hid (y%9223372036854775808=z):=hz.symm
   rw [<-hz] at HA
   clear hz
   have HP:Hid (∃r u,floatBits .add .f64 x z=some r∧IsF r u∧Nr 0 (v+absI (p i)) u):=by
    unfold Hid
    have h1:=HS.out.2.up
    have h2:=HS.out.2.s0
    have h3:=HY.out.2
    have h4:0<=absI (p i):=by rcases Fl.absI_cases (p i) with ⟨_,e⟩| ⟨_,e⟩<;>rw [e]<;>omega
    have h5:(i:Int)*2^m<=5*2^m:=Int.mul_le_mul_of_nonneg_right (by omega) (by have:=Fl.pow_pos2 m;omega)
    have h6:(2:Int)^(m+3)<=2^2090:=Fl.pow_le (by omega)
    have h7:(2:Int)^(m+3)=2^m*8:=Int.pow_add _ _ _
    exact Fl.add_isF HS.out.1 HA.out (by omega) (by omega)
   obtain ⟨r,u,hru,hr1,hr2⟩:=HP.out
   have HR:Hid (IsF r u∧Nr 0 (v+absI (p i)) u):=⟨hr1,hr2⟩
   have hrun:=fun w:World=>run_float_arith (P:=prog) w .add 84 .f64 x z r hru
   clear hru
   clear HP hr1 hr2
   go_wp2_with fail
   refine (ψW y z _ HY.out.1.lt HZ.out).mono ?_
   rintro e w1 ⟨rfl,hb1⟩
   have HB1:Hid (Below w w w1):=HB.out.trans (hb1.mono HB.out.size)
   clear hb1 HB
   go_wp2
   refine ⟨?_,?_⟩
   ·refine ⟨i+1,r,u,hlt,by simp,rfl,⟨HR.out.1,?_⟩,HB1⟩
    exact HS.out.2.step (IsF.fl HA.out) (by rcases Fl.absI_cases (p i) with ⟨_,e⟩| ⟨_,e⟩<;>rw [e]<;>omega) HY.out.2 HR.out.2 (by omega)
   ·simp [intOf];omega
  ·have hin:i=n:=by omega
   subst hin
   have HP:Hid (∃r u,floatBits .mul .f64 x 4607182418800017412=some r∧IsF r u∧Nr 1074 (v*Fl.roomV) u):=by
    unfold Hid
    have h1:=HS.out.2.up
    have h2:=HS.out.2.s0
    have h5:(i:Int)*2^m<=5*2^m:=Int.mul_le_mul_of_nonneg_right (by omega) (by have:=Fl.pow_pos2 m;omega)
    have h7:(2:Int)^(m+3)=2^m*8:=Int.pow_add _ _ _
    have hm3:v<=2^(m+3):=by have:=Fl.pow_pos2 m;omega
    have hr1:Fl.roomV<=2^1075:=by decide+kernel
    have hr2: -(2^1075)<=Fl.roomV:=by decide+kernel
    have hh:=Fl.mul_mag hm3 (by have:=Fl.pow_pos2 (m+3);omega) hr1 hr2
    have h6:(2:Int)^(m+3+1075)<=2^(2090+1074):=Fl.pow_le (by omega)
    exact Fl.mul_isF HS.out.1 isF_room (Int.le_trans hh.1 h6) (Int.le_trans (Int.neg_le_neg h6) hh.2)
   obtain ⟨r,u,hru,hr1,hr2⟩:=HP.out
   have HR:Hid (IsF r u∧Nr 1074 (v*Fl.roomV) u):=⟨hr1,hr2⟩
   have hrun:=fun w:World=>run_float_arith (P:=prog) w .mul 84 .f64 x 4607182418800017412 r hru
   clear hru
   clear HP hr1 hr2
   go_wp2
   go_ret
   have hf:=HS.out.2.finish (by omega) HR.out.2
   exact ⟨r,u,rfl,HR.out.1,hf.1,hf.2,HB.out⟩
end Go.Proofs.YtfieffpobgcpmaaGreatDoor
