import Derived.Test.YtfieffpobgcpmaaGreatDoorDy2NumDNumFNumGS
set_option maxRecDepth 100000
set_option maxHeartbeats 32000000
namespace Go.Proofs.YtfieffpobgcpmaaGreatDoor
open Go.RowKit
variable {n f N r a b s p i:Int} {k t x y:Nat}
namespace Fl
theorem pow_pos2 (k:Nat):(0:Int)<2^k:=Int.pow_pos (by decide)
theorem pow_le {a b:Nat} (h:a<=b):(2:Int)^a<=2^b:=by
 obtain ⟨c,rfl⟩:=Nat.exists_eq_add_of_le h
 rw [Int.pow_add]
 have:=pow_pos2 a;have:=pow_pos2 c
 calc (2:Int)^a=2^a*1:=by omega
  _<=2^a*2^c:=Int.mul_le_mul_of_nonneg_left (by omega) (by omega)
theorem ξp {a b:Nat} (h:a<=b):(2:Int)^a∣2^b:=by
 obtain ⟨c,rfl⟩:=Nat.exists_eq_add_of_le h
 rw [Int.pow_add];exact Int.dvd_mul_right _ _
def Fl (n:Int):Prop:= ∃(m:Int) (k:Nat),n=m*2^k∧ -(2^53)<=m∧m<=2^53
theorem Fl.neg (h:Fl n):Fl (-n):=by
 obtain ⟨m,k,rfl,h1,h2⟩:=h
 exact ⟨-m,k,by rw [Int.neg_mul],by omega,by omega⟩
theorem Fl.zero:Fl 0:=⟨0,0,by simp,by decide,by decide⟩
theorem Fl.small (h1: -(2^53)<=n) (h2:n<=2^53):Fl n:=⟨n,0,by simp,h1,h2⟩
theorem Fl.pow (k:Nat):Fl (2^k):=⟨1,k,by omega,by decide,by decide⟩
theorem Fl.of_dvd (h:(2:Int)^k∣n) (h1: -(2^(53+k))<=n) (h2:n<=2^(53+k)):Fl n:=by
 obtain ⟨m,rfl⟩:=h
 refine ⟨m,k,Int.mul_comm _ _,?_,?_⟩
 ·rw [Int.pow_add] at h1
  have:=pow_pos2 k
  have h3:2^k*(-(2^53))<=2^k*m:=by
   rw [Int.mul_neg,Int.mul_comm (2^k)];omega
  exact Int.le_of_mul_le_mul_left h3 this
 ·rw [Int.pow_add] at h2
  have:=pow_pos2 k
  have h3:2^k*m<=2^k*(2^53):=by rw [Int.mul_comm (2^k) (2^53)];omega
  exact Int.le_of_mul_le_mul_left h3 this
theorem Fl.dvd (h:Fl f) (hk:(2:Int)^(52+k)<=f∨f<= -(2^(52+k))):(2:Int)^k∣f:=by
 obtain ⟨m,j,rfl,h1,h2⟩:=h
 by_cases hj:k<=j
 ·exact Int.dvd_trans (ξp hj) (Int.dvd_mul_left _ _)
 ·obtain ⟨c,rfl⟩:=Nat.exists_eq_add_of_lt (by omega:j<k)
  have e:(2:Int)^(52+(j+c+1))=2^j*(2^53*2^c):=by
   rw [<-Int.pow_add,<-Int.pow_add];congr 1;omega
  have pj:=pow_pos2 j
  have pc:=pow_pos2 c
  rw [e] at hk
  have hc:(2:Int)^53*2^c<=m∨m<= -(2^53*2^c):=by
   rcases hk with hk|hk
   ·left;rw [Int.mul_comm m] at hk;exact Int.le_of_mul_le_mul_left hk pj
   ·right
    rw [Int.mul_comm m,<-Int.mul_neg] at hk;exact Int.le_of_mul_le_mul_left hk pj
  have hc1:(2:Int)^c<=1:=by
   have:(2:Int)^53*2^c<=2^53*1:=by omega
   exact Int.le_of_mul_le_mul_left this (by decide)
  have hc0:c=0:=by
   rcases Nat.eq_zero_or_pos c with h|h
   ·exact h
   ·have:=pow_le (show 1<=c from h);omega
  subst hc0
  have hm:m=2^53∨m= -(2^53):=by simp at hc;omega
  have hd:(2:Int)^(j+0+1)∣2^53*2^j:=by
   rw [<-Int.pow_add];exact ξp (by omega)
  rcases hm with rfl|rfl
  ·exact hd
  ·rw [Int.neg_mul];exact Int.dvd_neg.2 hd
structure Nr (t:Nat) (N r:Int):Prop where
 fl:Fl r
 up: ∀f,Fl f->N<=f*2^t->r*2^t-N<=f*2^t-N∧N-r*2^t<=f*2^t-N
 dn: ∀f,Fl f->f*2^t<=N->r*2^t-N<=N-f*2^t∧N-r*2^t<=N-f*2^t
theorem Nr.neg (h:Nr t N r):Nr t (-N) (-r):=by
 refine ⟨h.fl.neg,fun f hf hN=> ?_,fun f hf hN=> ?_⟩
 ·have:=h.dn (-f) hf.neg (by rw [Int.neg_mul];omega)
  rw [Int.neg_mul] at this⊢;omega
 ·have:=h.up (-f) hf.neg (by rw [Int.neg_mul];omega)
  rw [Int.neg_mul] at this⊢;omega
theorem Nr.le (h:Nr t N r) (hf:Fl f) (hN:N<=f*2^t):r<=f:=by
 have:=(h.up f hf hN).1
 exact Int.le_of_mul_le_mul_right (by omega) (pow_pos2 t)
theorem Nr.ge (h:Nr t N r) (hf:Fl f) (hN:f*2^t<=N):f<=r:=by
 have:=(h.dn f hf hN).2
 exact Int.le_of_mul_le_mul_right (by omega) (pow_pos2 t)
theorem Nr.self (hn:Fl n) (h:Nr t (n*2^t) r):r=n:=
 Int.le_antisymm (h.le hn (Int.le_refl _)) (h.ge hn (Int.le_refl _))
theorem Nr.exact (hn:Fl n) (h:Nr 0 n r):r=n:=by
 have h':Nr 0 (n*2^0) r:=by simpa using h
 exact h'.self hn
theorem Nr.dvd (h:Nr 0 n r) {j:Nat} (hj:(2:Int)^j∣n):(2:Int)^j∣r:=by
 by_cases h1:n<=2^(53+j)
 ·by_cases h2: -(2^(53+j))<=n
  ·rw [h.exact (Fl.of_dvd hj h2 h1)];exact hj
  ·have:=h.le (Fl.pow (53+j)).neg (by simp;omega)
   have hd:=h.fl.dvd (k:=j+1) (Or.inr (by rw [show 52+(j+1)=53+j by omega];exact this))
   exact Int.dvd_trans (ξp (by omega)) hd
 ·have:=h.ge (Fl.pow (53+j)) (by simp;omega)
  have hd:=h.fl.dvd (k:=j+1) (Or.inl (by rw [show 52+(j+1)=53+j by omega];exact this))
  exact Int.dvd_trans (ξp (by omega)) hd
theorem Nr.err (h:Nr 0 n r) (h1: -(2^(53+k))<=n) (h2:n<=2^(53+k)):2*(r-n)<=2^k∧2*(n-r)<=2^k:=by
 have pk:=pow_pos2 k
 have e:(2:Int)^(53+k)=2^k*2^53:=by rw [Int.pow_add,Int.mul_comm]
 have hq:=Int.mul_ediv_add_emod n (2^k)
 have hm0:=Int.emod_nonneg n (show (2:Int)^k≠0 by omega)
 have hm1:=Int.emod_lt_of_pos n pk
 obtain ⟨q,hqq⟩: ∃q,q=n/2^k:=⟨_,rfl⟩
 obtain ⟨m,hmm⟩: ∃m,m=n%2^k:=⟨_,rfl⟩
 rw [<-hqq,<-hmm] at hq
 rw [<-hmm] at hm0 hm1
 have q1: -(2^53)<=q:=by
  have:2^k*(-(2^53)-1)<2^k*q:=by rw [Int.mul_sub,Int.mul_neg,Int.mul_one];omega
  have:=Int.lt_of_mul_lt_mul_left this (by omega);omega
 have q2:q<=2^53:=by
  have:2^k*q<=2^k*(2^53):=by omega
  exact Int.le_of_mul_le_mul_left this pk
 have fd:Fl (2^k*q):=⟨q,k,Int.mul_comm _ _,q1,q2⟩
 have d:=h.dn (2^k*q) fd (by simp;omega)
 simp only [Int.pow_zero,Int.mul_one] at d
 by_cases hc:2*m<=2^k
 ·omega
 ·have q3:q+1<=2^53:=by
   rcases Int.lt_or_eq_of_le q2 with h3|h3
   ·omega
   ·subst h3;omega
  have fu:Fl (2^k*(q+1)):=⟨q+1,k,Int.mul_comm _ _,by omega,q3⟩
  have u:=h.up (2^k*(q+1)) fu (by rw [Int.mul_add];simp;omega)
  rw [Int.mul_add] at u
  simp only [Int.pow_zero,Int.mul_one] at u
  omega
theorem ωO (h:2^53<=n): ∃k:Nat,(2:Int)^(53+k)<=n∧n<2^(53+k+1):=by
 have hn:n.toNat≠0:=by omega
 have h1:=Nat.log2_self_le hn
 have h2:=@Nat.lt_log2_self n.toNat
 have h3:53<=n.toNat.log2:=by
  rw [Nat.le_log2 hn];omega
 refine ⟨n.toNat.log2-53,?_,?_⟩
 ·rw [show 53+(n.toNat.log2-53)=n.toNat.log2 by omega]
  have:((2^n.toNat.log2:Nat):Int)<=(n.toNat:Int):=by exact_mod_cast h1
  simp at this;omega
 ·rw [show 53+(n.toNat.log2-53)+1=n.toNat.log2+1 by omega]
  have:(n.toNat:Int)<((2^(n.toNat.log2+1):Nat):Int):=by exact_mod_cast h2
  have e:((2^(n.toNat.log2+1):Nat):Int)=2^(n.toNat.log2+1):=by simp
  omega
theorem Fl.canon (h:Fl f) (_h0:0<=f): ∃k:Nat,(2:Int)^k∣f∧f<2^(53+k)∧(k=0∨2^(52+k)<=f):=by
 by_cases hs:f<2^53
 ·exact ⟨0,by simp,by simpa using hs,Or.inl rfl⟩
 ·obtain ⟨k,h1,h2⟩:=ωO (n:=f) (by omega)
  refine ⟨k+1,h.dvd (Or.inl (by rw [show 52+(k+1)=53+k by omega];exact h1)),by rw [show 53+(k+1)=53+k+1 by omega];exact h2,Or.inr (by rw [show 52+(k+1)=53+k by omega];exact h1)⟩
theorem Fl.canonA (h:Fl f): ∃k:Nat,(2:Int)^k∣f∧f<2^(53+k)∧ -f<2^(53+k)∧(k=0∨2^(52+k)<=f∨2^(52+k)<= -f):=by
 by_cases h0:0<=f
 ·obtain ⟨k,a,b,c⟩:=h.canon h0
  refine ⟨k,a,b,?_,?_⟩
  ·have:=pow_pos2 (53+k);omega
  ·rcases c with c|c
   ·exact Or.inl c
   ·exact Or.inr (Or.inl c)
 ·obtain ⟨k,a,b,c⟩:=h.neg.canon (by omega)
  refine ⟨k,Int.dvd_neg.1 a,?_,b,?_⟩
  ·have:=pow_pos2 (53+k);omega
  ·rcases c with c|c
   ·exact Or.inl c
   ·exact Or.inr (Or.inr c)
theorem pow_succ2 (k:Nat):(2:Int)^(k+1)=2*2^k:=by rw [Int.pow_succ,Int.mul_comm]
theorem χ1 {x:Int} {m:Nat} (h:(2:Int)^k∣x) (hx:x<2^(m+k)):x<=2^(m+k)-2^k:=by
 obtain ⟨c,rfl⟩:=h
 have pk:=pow_pos2 k
 rw [Int.pow_add,Int.mul_comm (2^m)] at hx⊢
 have h1:=Int.lt_of_mul_lt_mul_left hx (by omega)
 have h2:2^k*c<=2^k*(2^m-1):=Int.mul_le_mul_of_nonneg_left (by omega) (by omega)
 rw [Int.mul_sub,Int.mul_one] at h2;exact h2
theorem ρL (ha:Fl a) (hb:Fl b) (hs:Nr 0 (a+b) s):Fl (a+b-s):=by
 obtain ⟨i,a1,a2,a3,_⟩:=ha.canonA
 obtain ⟨j,b1,b2,b3,_⟩:=hb.canonA
 have ea:a+b-s<=a∧s-(a+b)<=a∨a+b-s<= -a∧s-(a+b)<= -a:=by
  by_cases h:0<=a
  ·left;have:=hs.dn b hb (by simp;omega);simp at this;omega
  ·right;have:=hs.up b hb (by simp;omega);simp at this;omega
 have eb:a+b-s<=b∧s-(a+b)<=b∨a+b-s<= -b∧s-(a+b)<= -b:=by
  by_cases h:0<=b
  ·left;have:=hs.dn a ha (by simp;omega);simp at this;omega
  ·right;have:=hs.up a ha (by simp;omega);simp at this;omega
 rcases Nat.le_total i j with hij|hij
 ·have hd:(2:Int)^i∣a+b:=Int.dvd_add a1 (Int.dvd_trans (ξp hij) b1)
  exact Fl.of_dvd (k:=i) (Int.dvd_sub hd (hs.dvd hd)) (by omega) (by omega)
 ·have hd:(2:Int)^j∣a+b:=Int.dvd_add (Int.dvd_trans (ξp hij) a1) b1
  exact Fl.of_dvd (k:=j) (Int.dvd_sub hd (hs.dvd hd)) (by omega) (by omega)
theorem ηd (ha:Fl a) (hb:Fl b) (h0:0<=a) (h1: -a<=b) (h2:b<=a) (hs:Nr 0 (a+b) s):Fl (s-a):=by
 obtain ⟨i,a1,a2,a3⟩:=ha.canon h0
 obtain ⟨j,b1,b2,b3,b4⟩:=hb.canonA
 have hji:j<=i:=by
  rcases b4 with b4|b4
  ·omega
  ·apply Nat.le_of_not_lt;intro h
   have:=pow_le (show 53+i<=52+j by omega)
   omega
 have hd:(2:Int)^j∣a+b:=Int.dvd_add (Int.dvd_trans (ξp hji) a1) b1
 by_cases hsm:a+b<=2^(53+j)
 ·have:=hs.exact (Fl.of_dvd hd (by have:=pow_pos2 (53+j);omega) hsm)
  rw [this,show a+b-a=b by omega];exact hb
 ·obtain ⟨k,k1,k2⟩:=ωO (n:=a+b) (by have:=pow_le (show 53<=53+j by omega);omega)
  have hjk:j<=k:=by
   apply Nat.le_of_not_lt;intro h
   have:=pow_le (show 53+k+1<=53+j by omega);omega
  have hki:k<=i:=by
   apply Nat.le_of_not_lt;intro h
   have e1:=pow_le (show 53+i+1<=53+k by omega)
   have e2:=pow_succ2 (53+i)
   omega
  have hs1:=hs.ge (Fl.pow (53+k)) (by simp;omega)
  have hsd:=hs.fl.dvd (k:=k+1) (Or.inl (by rw [show 52+(k+1)=53+k by omega];exact hs1))
  have he:=hs.err (k:=k+1) (by have:=pow_pos2 (53+(k+1));omega) (by rw [show 53+(k+1)=53+k+1 by omega];omega)
  have e0:=pow_succ2 k
  rcases Nat.lt_or_ge k i with hk|hk
  ·have hdd:(2:Int)^(k+1)∣s-a:=Int.dvd_sub hsd (Int.dvd_trans (ξp hk) a1)
   have e1:=pow_le (show 53+j<=53+k by omega)
   have e2:=pow_succ2 (53+k)
   have e3:=pow_le (show k<=53+k by omega)
   exact Fl.of_dvd hdd (by rw [show 53+(k+1)=53+k+1 by omega];omega) (by rw [show 53+(k+1)=53+k+1 by omega];omega)
  ·have hik:i=k:=by omega
   subst hik
   have hdd:(2:Int)^i∣s-a:=Int.dvd_sub (Int.dvd_trans (ξp (by omega)) hsd) a1
   rcases Nat.lt_or_ge j i with hj|hj
   ·have e1:=pow_le (show 53+j+1<=53+i by omega)
    have e2:=pow_succ2 (53+j)
    have e3:(2:Int)^(53+i)=2^53*2^i:=by rw [Int.pow_add]
    have pi:=pow_pos2 i
    exact Fl.of_dvd hdd (by omega) (by omega)
   ·have:j=i:=by omega
    subst this
    have r1:=χ1 b1 b2
    have r2:=χ1 (Int.dvd_neg.2 b1) b3
    exact Fl.of_dvd hdd (by omega) (by omega)
theorem Nr.neg_add (h:Nr 0 (a+b) s):Nr 0 (-a+ -b) (-s):=by
 have:=h.neg;rwa [show-(a+b)= -a+ -b by omega] at this
theorem fast (ha:Fl a) (hb:Fl b) (h:b<=a∧ -a<=b∨b<= -a∧a<=b) (hs:Nr 0 (a+b) s):Fl (s-a):=by
 rcases h with ⟨h1,h2⟩| ⟨h1,h2⟩
 ·exact ηd ha hb (by omega) h2 h1 hs
 ·have:=ηd ha.neg hb.neg (by omega) (by omega) (by omega) hs.neg_add
  have:=this.neg
  rwa [show-(-s- -a)=s-a by omega] at this
theorem ηe (ha:Fl a) (hb:Fl b) (h1: -b<a) (h2:a<b) (hs:Nr 0 (a+b) s) (hp:Nr 0 (s-a) p):Fl (b-p):=by
 obtain ⟨k,b1,b2,b3⟩:=hb.canon (by omega)
 have he:=hs.err (k:=k+1) (by have:=pow_pos2 (53+(k+1));omega) (by have:=pow_succ2 (53+k);rw [show 53+(k+1)=53+k+1 by omega];omega)
 have r1:=χ1 b1 b2
 have e0:=pow_succ2 k
 rcases Nat.eq_zero_or_pos k with hk|hk
 ·subst hk
  simp only [Nat.add_zero,Nat.zero_add,Int.pow_zero,Int.pow_one] at*
  have:=hp.exact (Fl.small (by omega) (by omega))
  rw [this,show b-(s-a)=a+b-s by omega];exact ρL ha hb hs
 ·obtain ⟨c,rfl⟩: ∃c,k=c+1:=⟨k-1,by omega⟩
  have b4:(2:Int)^(52+(c+1))<=b:=by omega
  have e1:=pow_succ2 c
  have e2:=pow_succ2 (52+c)
  rw [show 52+c+1=52+(c+1) by omega] at e2
  have e3:(2:Int)^(52+c)=2^52*2^c:=by rw [Int.pow_add]
  have pc:=pow_pos2 c
  have hq:=hp.ge (Fl.pow (52+c)) (by simp;omega)
  have hpd:=hp.fl.dvd (k:=c) (Or.inl hq)
  have hx:=hp.err (k:=c+1) (by omega) (by omega)
  have e4:(2:Int)^(53+c)=2^53*2^c:=by rw [Int.pow_add]
  exact Fl.of_dvd (k:=c) (Int.dvd_sub (Int.dvd_trans (ξp (by omega)) b1) hpd) (by omega) (by omega)
theorem τT (ha:Fl a) (hb:Fl b) (h: -b<a∧a<b∨b<a∧a< -b) (hs:Nr 0 (a+b) s) (hp:Nr 0 (s-a) p):Fl (b-p):=by
 rcases h with ⟨h1,h2⟩| ⟨h1,h2⟩
 ·exact ηe ha hb h1 h2 hs hp
 ·have hp':=hp.neg
  rw [show-(s-a)= -s- -a by omega] at hp'
  have:=(ηe ha.neg hb.neg (by omega) (by omega) hs.neg_add hp').neg
  rwa [show-(-b- -p)=b-p by omega] at this
theorem two_sum {d x y l:Int} (ha:Fl a) (hb:Fl b) (hs:Nr 0 (a+b) s) (hp:Nr 0 (s-a) p) (hd:Nr 0 (s-p) d) (hx:Nr 0 (a-d) x) (hy:Nr 0 (b-p) y) (hl:Nr 0 (x+y) l):l=a+b-s:=by
 have he:=ρL ha hb hs
 by_cases hab:b<=a∧ -a<=b∨b<= -a∧a<=b
 ·have:=hp.exact (fast ha hb hab hs)
  subst this
  have:=hd.exact (by rw [show s-(s-a)=a by omega];exact ha)
  rw [show s-(s-a)=a by omega] at this
  subst this
  have:=hx.exact (by rw [Int.sub_self];exact Fl.zero)
  rw [Int.sub_self] at this
  subst this
  rw [show b-(s-d)=d+b-s by omega] at hy
  have:=hy.exact he
  subst this
  rw [Int.zero_add] at hl
  exact hl.exact he
 ·by_cases hf:Fl (a+b)
  ·have:=hs.exact hf
   subst this
   rw [show a+b-a=b by omega] at hp
   have:=hp.exact hb
   subst this
   rw [show a+p-p=a by omega] at hd
   have:=hd.exact ha
   subst this
   have:=hx.exact (by rw [Int.sub_self];exact Fl.zero)
   have:=hy.exact (by rw [Int.sub_self];exact Fl.zero)
   have:=hl.exact (by rw [show x+y=0 by omega];exact Fl.zero)
   omega
  ·have hsa:a<=s∧ -s<=a∨a<= -s∧s<=a:=by
    obtain ⟨i,a1,a2,a3,a4⟩:=ha.canonA
    obtain ⟨j,b1,b2,b3,b4⟩:=hb.canonA
    have hij:i<=j:=by
     rcases a4 with a4|a4
     ·omega
     ·apply Nat.le_of_not_lt;intro h
      have:=pow_le (show 53+j<=52+i by omega)
      omega
    have hdv:(2:Int)^i∣a+b:=Int.dvd_add a1 (Int.dvd_trans (ξp hij) b1)
    have hbig: ¬(-(2^(53+i))<=a+b∧a+b<=2^(53+i)):=fun h=>hf (Fl.of_dvd hdv h.1 h.2)
    by_cases hp0:0<=a+b
    ·have:=hs.ge (Fl.pow (53+i)) (by simp;omega)
     omega
    ·have:=hs.le (Fl.pow (53+i)).neg (by simp;omega)
     omega
   have hal:Fl (s-p):=by
    have:=(fast hs.fl ha.neg (by omega) (s:=p) (by rw [show s+ -a=s-a by omega];exact hp)).neg
    rwa [show-(p-s)=s-p by omega] at this
   have:=hd.exact hal
   subst this
   have hbe:Fl (a-(s-p)):=by
    have:=(ρL hs.fl ha.neg (s:=p) (by rw [show s+ -a=s-a by omega];exact hp)).neg
    rwa [show-(s+ -a-p)=a-(s-p) by omega] at this
   have:=hx.exact hbe
   subst this
   have:=hy.exact (τT ha hb (by omega) hs hp)
   subst this
   rw [show a-(s-p)+(b-p)=a+b-s by omega] at hl
   exact hl.exact he
end Fl
namespace Fl
def sg (neg:Bool) (n:Int):Int:=if neg then-n else n
theorem κm (neg:Bool) (n d:Nat):2*(Ieee.Toward.even.cut neg n d*2^d)<=2*n+2^d∧2*n<=2*(Ieee.Toward.even.cut neg n d*2^d)+2^d:=by
 unfold Ieee.Toward.cut
 by_cases h:d<=n.log2+2
 ·simp only [Nat.min_eq_left h,Nat.one_shiftLeft]
  have hq:=Nat.div_add_mod n (2^d)
  have hm:=Nat.mod_lt n (Nat.two_pow_pos d)
  obtain ⟨g,hg⟩: ∃g,g=2^d:=⟨_,rfl⟩
  rw [<-hg] at hq hm⊢
  obtain ⟨q,hqq⟩: ∃q,q=n/g:=⟨_,rfl⟩
  obtain ⟨m,hmm⟩: ∃m,m=n%g:=⟨_,rfl⟩
  rw [<-hqq,<-hmm] at hq
  rw [<-hmm] at hm
  rw [<-hqq,<-hmm]
  have e:q*g=g*q:=Nat.mul_comm _ _
  by_cases h1:g<2*m
  ·simp only [h1,decide_true,Bool.true_or,Bool.toNat_true,Nat.add_mul,Nat.one_mul];omega
  ·by_cases h2:g=2*m
   ·by_cases h3:q%2=1
    ·have hm1:(decide (g<2*m)||g==2*m && q%2==1)=true:=by simp [h2,h3]
     simp only [hm1,Bool.toNat_true,Nat.add_mul,Nat.one_mul];omega
    ·have h3':(q%2==1)=false:=by simpa using h3
     simp only [h1,decide_false,h3',Bool.and_false,Bool.or_self,Bool.toNat_false,Nat.add_zero];omega
   ·have h2':(g==2*m)=false:=by simpa using h2
    simp only [h1,decide_false,h2',Bool.false_and,Bool.or_self,Bool.toNat_false,Nat.add_zero];omega
 ·simp only [Nat.min_eq_right (show n.log2+2<=d by omega),Nat.one_shiftLeft]
  have hl:=@Nat.lt_log2_self n
  have hg:2^(n.log2+2)=2*2^(n.log2+1):=by rw [Nat.pow_succ,Nat.mul_comm]
  have hd:2^(n.log2+2)<=2^d:=Nat.pow_le_pow_right (by decide) (by omega)
  have h0:n/2^(n.log2+2)=0:=Nat.div_eq_of_lt (by omega)
  have hm:n%2^(n.log2+2)=n:=Nat.mod_eq_of_lt (by omega)
  rw [h0,hm]
  have h1: ¬(2^(n.log2+2)<2*n):=by omega
  have h2:(2^(n.log2+2)==2*n)=false:=by rw [beq_eq_false_iff_ne];omega
  simp only [h1,decide_false,h2,Bool.false_and,Bool.or_self,Bool.toNat_false,Nat.add_zero,Nat.zero_mul,Nat.mul_zero]
  omega
theorem ψT {g R G:Int} (hg:0<g) (hR:g∣R) (hG:g∣G) (h1:2*(R-N)<=g) (h2:2*(N-R)<=g):(N<=G->R-N<=G-N∧N-R<=G-N)∧(G<=N->R-N<=N-G∧N-R<=N-G):=by
 obtain ⟨c,hc⟩:=Int.dvd_sub hG hR
 rcases Int.lt_trichotomy c 0 with h|h|h
 ·have:g*c<=g*(-1):=Int.mul_le_mul_of_nonneg_left (by omega) (by omega)
  constructor<;>intro _<;>omega
 ·subst h;simp at hc;constructor<;>intro _<;>omega
 ·have:g*1<=g*c:=Int.mul_le_mul_of_nonneg_left (by omega) (by omega)
  constructor<;>intro _<;>omega
theorem nr_of {q:Nat} {k:Int} (k0:0<=k) (k1:k<=2^53) (h1:2*(k*2^(q+t)-N)<=2^(q+t)) (h2:2*(N-k*2^(q+t))<=2^(q+t)) (hb:q=0∨2^(52+q+t)<=N∨k*2^(q+t)=N):Nr t N (k*2^q):=by
 have e: ∀x:Int,x*2^q*2^t=x*2^(q+t):=fun x=>by rw [Int.mul_assoc,<-Int.pow_add]
 have pg:=pow_pos2 (q+t)
 have pt:=pow_pos2 t
 have hfl:Fl (k*2^q):=⟨k,q,rfl,by have:=pow_pos2 53;omega,k1⟩
 by_cases hx:k*2^(q+t)=N
 ·refine ⟨hfl,fun f _ hN=> ?_,fun f _ hN=> ?_⟩<;>rw [e]<;>omega
 have hb:q=0∨2^(52+q+t)<=N:=by omega
 have hR:(2:Int)^(q+t)∣k*2^(q+t):=Int.dvd_mul_left _ _
 have big: ∀f,Fl f->(2:Int)^(52+q)<=f->(2:Int)^(q+t)∣f*2^t:=by
  intro f hf hge
  obtain ⟨c,hc⟩:=hf.dvd (Or.inl hge)
  rw [hc,Int.mul_comm (2^q) c,e];exact Int.dvd_mul_left _ _
 have e52:(2:Int)^(52+q+t)=2^(52+q)*2^t:=by rw [<-Int.pow_add]
 refine ⟨hfl,fun f hf hN=> ?_,fun f hf hN=> ?_⟩
 ·rw [e]
  have hd:(2:Int)^(q+t)∣f*2^t:=by
   rcases hb with hb|hb
   ·subst hb;rw [Nat.zero_add];exact Int.dvd_mul_left _ _
   ·refine big f hf ?_
    have:2^(52+q)*2^t<=f*2^t:=by omega
    exact Int.le_of_mul_le_mul_right this pt
  exact (ψT pg hR hd h1 h2).1 hN
 ·rw [e]
  rcases hb with hb|hb
  ·subst hb
   have hd:(2:Int)^(0+t)∣f*2^t:=by rw [Nat.zero_add];exact Int.dvd_mul_left _ _
   exact (ψT pg hR hd h1 h2).2 hN
  ·by_cases hge:(2:Int)^(52+q)<=f
   ·exact (ψT pg hR (big f hf hge) h1 h2).2 hN
   ·have hp:(2:Int)^(q+t)∣2^(52+q)*2^t:=big _ (Fl.pow _) (Int.le_refl _)
    have:=(ψT pg hR hp h1 h2).2 (by omega)
    have hlt:f*2^t<=2^(52+q)*2^t:=Int.mul_le_mul_of_nonneg_right (by omega) (by omega)
    omega
theorem dMag_rung {q:Nat} (h1:k<=9007199254740992) (h2:q=0∨4503599627370496<=k):dMag (q*4503599627370496+k)=k*2^q:=by
 unfold dMag
 by_cases h:q*4503599627370496+k<4503599627370496
 ·rw [if_pos h]
  have:q=0:=by omega
  subst this;simp
 ·rw [if_neg h]
  by_cases hk:k=9007199254740992
  ·subst hk
   rw [show (q*4503599627370496+9007199254740992)%4503599627370496=0 by omega,show (q*4503599627370496+9007199254740992)/4503599627370496-1=q+1 by omega,Nat.pow_succ]
   omega
  ·rw [show (q*4503599627370496+k)/4503599627370496-1=q by omega]
   congr 1
   omega
theorem νL (h:Nr t N r) (neg:Bool):Nr t (sg neg N) (sg neg r):=by
 cases neg
 ·exact h
 ·exact h.neg
theorem dMag_inf:dMag 9218868437227405312=2^2098:=by decide+kernel
theorem ψU (neg:Bool) {mag:Nat} {place:Int} {P:Nat} (hP:(P:Int)=place+1074+t) (hN:mag*2^P<=2^(2090+t)):
 ∃X,X<9218868437227405312∧Ieee.double.nearest neg mag place=Ieee.double.word neg X∧Nr t (sg neg ((mag*2^P:Nat):Int)) (sg neg (dMag X:Int)):=by
 obtain ⟨e1,e2,e3,e4⟩:=ζ9
 unfold Ieee.Format.nearest
 by_cases h0:mag=0
 ·rw [if_pos h0]
  refine ⟨0,by decide,rfl,νL ?_ neg⟩
  subst h0
  simp only [Nat.zero_mul,dMag]
  exact ⟨Fl.zero,fun f _ h=>by simp at h⊢;omega,fun f _ h=>by simp at h⊢;omega⟩
 ·rw [if_neg h0]
  simp only [e2,e3,e4,show Ieee.double.fractionBits=52 from rfl,show ((52:Nat):Int)=52 from rfl]
  have hl1:=Nat.log2_self_le h0
  have hl2:=@Nat.lt_log2_self mag
  obtain ⟨L,hL⟩: ∃L,L=mag.log2:=⟨_,rfl⟩
  rw [<-hL] at hl1 hl2⊢
  obtain ⟨last,hlast⟩: ∃l,l=max (place+(L:Int)-52) (-1074):=⟨_,rfl⟩
  rw [<-hlast]
  obtain ⟨q,hq⟩: ∃q,q=(last- -1074).toNat:=⟨_,rfl⟩
  obtain ⟨a,ha⟩: ∃a,a=(place-last).toNat:=⟨_,rfl⟩
  obtain ⟨d,hd⟩: ∃d,d=(last-place).toNat:=⟨_,rfl⟩
  rw [<-hq,<-ha,<-hd,Nat.shiftLeft_eq]
  have hc:=κm neg (mag*2^a) d
  obtain ⟨k,hk⟩: ∃k,k=Ieee.Toward.even.cut neg (mag*2^a) d:=⟨_,rfl⟩
  rw [<-hk] at hc⊢
  have hlm:last=place+(L:Int)-52∧ -1074<=last∨last= -1074∧place+(L:Int)-52<= -1074:=by omega
  have hup:mag*2^a<2^(53+d):=by
   have:mag*2^a<2^(L+1)*2^a:=Nat.mul_lt_mul_of_pos_right hl2 (Nat.two_pow_pos a)
   rw [<-Nat.pow_add] at this
   have h2:2^(L+1+a)<=2^(53+d):=Nat.pow_le_pow_right (by decide) (by omega)
   omega
  have hk1:k<=9007199254740992:=by
   have h53:2^(53+d)=9007199254740992*2^d:=by rw [Nat.pow_add]
   rcases Nat.lt_or_ge 9007199254740992 k with h|h
   ·have:(9007199254740992+1)*2^d<=k*2^d:=Nat.mul_le_mul_right _ h
    rw [Nat.add_mul] at this
    have:=Nat.two_pow_pos d
    omega
   ·exact h
  have hk2:q=0∨4503599627370496<=k:=by
   rcases Nat.eq_zero_or_pos q with h|h
   ·exact Or.inl h
   ·right
    have hlo:2^(52+d)<=mag*2^a:=by
     have:2^L*2^a<=mag*2^a:=Nat.mul_le_mul_right _ hl1
     rw [<-Nat.pow_add] at this
     have h2:2^(52+d)<=2^(L+a):=Nat.pow_le_pow_right (by decide) (by omega)
     omega
    have h52:2^(52+d)=4503599627370496*2^d:=by rw [Nat.pow_add]
    rcases Nat.lt_or_ge k 4503599627370496 with h|h
    ·have:(k+1)*2^d<=4503599627370496*2^d:=Nat.mul_le_mul_right _ h
     rw [Nat.add_mul] at this
     have:=Nat.two_pow_pos d
     omega
    ·exact h
  have hdm:=dMag_rung hk1 hk2
  have hdm':dMag (k+q*4503599627370496)=k*2^q:=by rw [Nat.add_comm];exact hdm
  obtain ⟨c,hcP,hcq⟩: ∃c,P=a+c∧q+t=d+c:=⟨P-a,by omega,by omega⟩
  have eN:mag*2^P=mag*2^a*2^c:=by rw [hcP,Nat.pow_add,Nat.mul_assoc]
  have ek:k*2^(q+t)=k*2^d*2^c:=by rw [hcq,Nat.pow_add,Nat.mul_assoc]
  have eg:2^(q+t)=2^d*2^c:=by rw [hcq,Nat.pow_add]
  have hA:2*(k*2^(q+t))<=2*(mag*2^P)+2^(q+t):=by
   rw [eN,ek,eg]
   have:=Nat.mul_le_mul_right (2^c) hc.1
   rw [Nat.add_mul,Nat.mul_assoc 2,Nat.mul_assoc 2] at this
   exact this
  have hB:2*(mag*2^P)<=2*(k*2^(q+t))+2^(q+t):=by
   rw [eN,ek,eg]
   have:=Nat.mul_le_mul_right (2^c) hc.2
   rw [Nat.add_mul,Nat.mul_assoc 2,Nat.mul_assoc 2] at this
   exact this
  have hD:q=0∨2^(52+q+t)<=mag*2^P:=by
   rcases Nat.eq_zero_or_pos q with h|h
   ·exact Or.inl h
   ·right
    have:2^L*2^P<=mag*2^P:=Nat.mul_le_mul_right _ hl1
    rw [<-Nat.pow_add,show L+P=52+q+t by omega] at this
    exact this
  have hnr:Nr t ((mag*2^P:Nat):Int) ((k*2^q:Nat):Int):=by
   have hA':(2:Int)*((k*2^(q+t):Nat):Int)<=2*((mag*2^P:Nat):Int)+((2^(q+t):Nat):Int):=by exact_mod_cast hA
   have hB':(2:Int)*((mag*2^P:Nat):Int)<=2*((k*2^(q+t):Nat):Int)+((2^(q+t):Nat):Int):=by exact_mod_cast hB
   have x1:((k*2^(q+t):Nat):Int)=(k:Int)*2^(q+t):=by push_cast;rfl
   have x2:((2^(q+t):Nat):Int)=2^(q+t):=by push_cast;rfl
   have x3:((k*2^q:Nat):Int)=(k:Int)*2^q:=by push_cast;rfl
   rw [x1,x2] at hA' hB'
   rw [x3]
   refine nr_of (by omega) (by omega) (by omega) (by omega) ?_
   rcases hD with h|h
   ·exact Or.inl h
   ·right;left
    have:((2^(52+q+t):Nat):Int)<=((mag*2^P:Nat):Int):=by exact_mod_cast h
    have x4:((2^(52+q+t):Nat):Int)=2^(52+q+t):=by push_cast;rfl
    omega
  have hfin:q*4503599627370496+k<9218868437227405312:=by
   rcases Nat.lt_or_ge (q*4503599627370496+k) 9218868437227405312 with h|h
   ·exact h
   ·exfalso
    have hge:dMag 9218868437227405312<=dMag (q*4503599627370496+k):=by
     rcases Nat.lt_or_eq_of_le h with h|h
     ·exact Nat.le_of_lt (χ0 h)
     ·rw [h];exact Nat.le_refl _
    rw [dMag_inf,hdm] at hge
    have hle:=hnr.le (Fl.pow 2090) (by
     have:((mag*2^P:Nat):Int)<=((2^(2090+t):Nat):Int):=by exact_mod_cast hN
     have x4:((2^(2090+t):Nat):Int)=2^2090*2^t:=by rw [<-Int.pow_add];push_cast;rfl
     omega)
    have:((2^2098:Nat):Int)<=((k*2^q:Nat):Int):=by exact_mod_cast hge
    have x5:((2^2098:Nat):Int)=2^2098:=Int.natCast_pow 2 2098
    have x6:(2:Int)^2090<2^2098:=by decide+kernel
    omega
  refine ⟨q*4503599627370496+k,hfin,by rw [Nat.min_eq_left (Nat.le_of_lt hfin)],?_⟩
  rw [hdm]
  exact νL hnr neg
end Fl
namespace Fl
def IsF (x:Nat) (v:Int):Prop:= ∃(neg:Bool) (X:Nat),X<9218868437227405312∧x=Ieee.double.word neg X∧v=sg neg (dMag X:Int)
theorem ρM (neg:Bool) {X:Nat} (h:X<9218868437227405312): ∃(m:Nat) (i:Int),Ieee.double.read (Ieee.double.word neg X)= .number neg m i∧ -1074<=i∧m*2^(i+1074).toNat=dMag X:=by
 obtain ⟨e1,e2,e3,e4⟩:=ζ9
 unfold Ieee.Format.read Ieee.Format.word dMag
 simp only [e1,e2,e3,e4]
 have hs:((if neg then 9223372036854775808+X else X)/9223372036854775808%2==1)=neg:=by
  cases neg
  ·have:X/9223372036854775808=0:=Nat.div_eq_of_lt (by omega)
   simp only [Bool.false_eq_true,if_false,this];rfl
  ·have:(9223372036854775808+X)/9223372036854775808=1:=by omega
   simp only [if_true,this];rfl
 have hr:(if neg then 9223372036854775808+X else X)%9223372036854775808=X:=by
  cases neg
  ·simp only [Bool.false_eq_true,if_false];omega
  ·simp only [if_true];omega
 rw [hs,hr]
 by_cases hX:X<4503599627370496
 ·rw [if_pos hX,if_pos hX]
  exact ⟨X,-1074,rfl,by omega,by simp⟩
 ·rw [if_neg hX,if_pos (by omega),if_neg hX]
  refine ⟨_,_,rfl,by omega,?_⟩
  congr 2
  omega
theorem IsF.read {v:Int} (h:IsF x v): ∃(neg:Bool) (m:Nat) (i:Int),Ieee.double.read x= .number neg m i∧ -1074<=i∧v=sg neg ((m:Int)*2^(i+1074).toNat):=by
 obtain ⟨neg,X,hX,rfl,rfl⟩:=h
 obtain ⟨m,i,e,hi,hm⟩:=ρM neg hX
 refine ⟨neg,m,i,e,hi,?_⟩
 rw [<-hm];push_cast;rfl
theorem IsF.lt {v:Int} (h:IsF x v):x<18446744073709551616:=by
 obtain ⟨neg,X,hX,rfl,rfl⟩:=h
 unfold Ieee.Format.word
 rw [ζ9.1]
 split<;>omega
theorem ψV (s:Bool) (m k:Nat):Ieee.signed s m k=sg s ((m:Int)*2^k):=by
 unfold Ieee.signed sg
 rw [Nat.shiftLeft_eq]
 cases s<;>simp
theorem φ2 (s:Bool) (a b:Int):sg s a*b=sg s (a*b):=by
 cases s
 ·rfl
 ·simp [sg,Int.neg_mul]
theorem νM {m:Int} {base:Int} (h1:base<=i) (h2: -1074<=base):m*2^(i-base).toNat*2^(base+1074).toNat=m*2^(i+1074).toNat:=by
 rw [Int.mul_assoc,<-Int.pow_add];congr 2;omega
theorem χ2 {s t:Bool} {m n:Nat} {j:Int} {T:Nat} (hi: -(1074+(T:Int))<=i) (hj: -(1074+(T:Int))<=j) (hN:N=sg s ((m:Int)*2^(i+1074+T).toNat)+sg t ((n:Int)*2^(j+1074+T).toNat)) (h1:N<=2^(2090+T)) (h2: -(2^(2090+T))<=N):
 ∃d z r,(Ieee.Datum.number s m i).sum (.number t n j)=some d∧Ieee.double.write d=z∧IsF z r∧Nr T N r:=by
 simp only [Ieee.Datum.sum]
 obtain ⟨base,hb⟩: ∃b,b=min i j:=⟨_,rfl⟩
 obtain ⟨total,ht⟩: ∃u,u=Ieee.signed s m (i-base).toNat+Ieee.signed t n (j-base).toNat:=⟨_,rfl⟩
 rw [<-hb,<-ht]
 obtain ⟨P,hP⟩: ∃P:Nat,(P:Int)=base+1074+T:=⟨(base+1074+T).toNat,by omega⟩
 have hup: ∀(b:Bool) (x:Int) (k:Int),base<=k->sg b (x*2^(k-base).toNat)*2^P=sg b (x*2^(k+1074+T).toNat):=by
  intro b x k hk
  rw [φ2,Int.mul_assoc,<-Int.pow_add]
  congr 3;omega
 have hT:total*2^P=N:=by
  rw [ht,ψV,ψV,Int.add_mul,hup _ _ _ (by omega),hup _ _ _ (by omega),hN]
 have pP:=pow_pos2 P
 have hneg:sg (if total=0 then s && t else decide (total<0)) ((total.natAbs*2^P:Nat):Int)=N:=by
  have e:((total.natAbs*2^P:Nat):Int)=(total.natAbs:Int)*2^P:=by push_cast;rfl
  rw [e,<-φ2,<-hT]
  by_cases h0:total=0
  ·rw [if_pos h0,h0];cases (s && t)<;>simp [sg]
  ·rw [if_neg h0]
   by_cases hl:total<0
   ·rw [decide_eq_true hl];simp only [sg,if_true]
    congr 1;omega
   ·rw [decide_eq_false hl];simp only [sg,Bool.false_eq_true,if_false]
    congr 1;omega
 have hbd:total.natAbs*2^P<=2^(2090+T):=by
  have e:((total.natAbs*2^P:Nat):Int)=sg (if total=0 then s && t else decide (total<0)) N:=by
   rw [<-hneg];generalize (if total=0 then s && t else decide (total<0))=b;cases b<;>simp [sg]
  have:((total.natAbs*2^P:Nat):Int)<=((2^(2090+T):Nat):Int):=by
   rw [e]
   have e2:((2^(2090+T):Nat):Int)=2^(2090+T):=Int.natCast_pow 2 _
   rw [e2]
   generalize (if total=0 then s && t else decide (total<0))=b
   cases b<;>simp only [sg,Bool.false_eq_true,if_false,if_true]<;>omega
  exact_mod_cast this
 obtain ⟨X,hX,hw,hn⟩:=ψU (if total=0 then s && t else decide (total<0)) hP hbd
 rw [hneg] at hn
 exact ⟨_,_,_,rfl,rfl,⟨_,X,hX,hw,rfl⟩,hn⟩
theorem κn (x:Int) (i:Int):x*2^(i+1074).toNat=x*2^(i+1074+(0:Nat)).toNat:=by simp
theorem add_isF (hx:IsF x a) (hy:IsF y b) (h1:a+b<=2^2090) (h2: -(2^2090)<=a+b): ∃z r,Ieee.double.add x y=some z∧IsF z r∧Nr 0 (a+b) r:=by
 obtain ⟨s,m,i,e1,hi,ha⟩:=hx.read
 obtain ⟨t,n,j,e2,hj,hb⟩:=hy.read
 obtain ⟨d,z,r,hd,hz,hf,hn⟩:=χ2 (T:=0) (s:=s) (t:=t) (m:=m) (n:=n) (i:=i) (j:=j) (N:=a+b) (by simpa using hi) (by simpa using hj) (by rw [ha,hb,κn,κn]) h1 h2
 refine ⟨z,r,?_,hf,hn⟩
 unfold Ieee.Format.add
 rw [e1,e2,hd,Option.map_some,hz]
theorem sg_not (s:Bool) (a:Int):sg (!s) a= -sg s a:=by cases s<;>simp [sg]
theorem sub_isF (hx:IsF x a) (hy:IsF y b) (h1:a-b<=2^2090) (h2: -(2^2090)<=a-b): ∃z r,Ieee.double.sub x y=some z∧IsF z r∧Nr 0 (a-b) r:=by
 obtain ⟨s,m,i,e1,hi,ha⟩:=hx.read
 obtain ⟨t,n,j,e2,hj,hb⟩:=hy.read
 obtain ⟨d,z,r,hd,hz,hf,hn⟩:=χ2 (T:=0) (s:=s) (t:= !t) (m:=m) (n:=n) (i:=i) (j:=j) (N:=a-b) (by simpa using hi) (by simpa using hj) (by rw [ha,hb,κn,κn,sg_not];omega) h1 h2
 refine ⟨z,r,?_,hf,hn⟩
 unfold Ieee.Format.sub
 rw [e1,e2]
 simp only [Ieee.Datum.opposite]
 rw [hd,Option.map_some,hz]
theorem τw (s t:Bool) (a b:Int):sg (s^^t) (a*b)=sg s a*sg t b:=by
 cases s<;>cases t<;>simp [sg,Int.neg_mul,Int.mul_neg]
theorem ηf (m n:Int) {j:Int} (hi: -1074<=i) (hj: -1074<=j):m*2^(i+1074).toNat*(n*2^(j+1074).toNat)=m*n*2^(i+j+1074+(1074:Nat)).toNat:=by
 have e:(i+j+1074+(1074:Nat)).toNat=(i+1074).toNat+(j+1074).toNat:=by omega
 rw [e,Int.pow_add]
 rw [Int.mul_assoc,Int.mul_assoc m n]
 congr 1
 rw [<-Int.mul_assoc,<-Int.mul_assoc,Int.mul_comm _ n]
theorem natPow (k:Nat):((2^k:Nat):Int)=2^k:=Int.natCast_pow 2 k
theorem mul_isF (hx:IsF x a) (hy:IsF y b) (h1:a*b<=2^(2090+1074)) (h2: -(2^(2090+1074))<=a*b): ∃z r,Ieee.double.mul x y=some z∧IsF z r∧Nr 1074 (a*b) r:=by
 obtain ⟨s,m,i,e1,hi,ha⟩:=hx.read
 obtain ⟨t,n,j,e2,hj,hb⟩:=hy.read
 have hab:a*b=sg (s^^t) ((m:Int)*n*2^(i+j+1074+(1074:Nat)).toNat):=by
  rw [ha,hb,<-τw,ηf _ _ hi hj]
 obtain ⟨P,hP⟩: ∃P:Nat,(P:Int)=i+j+1074+(1074:Nat):=⟨(i+j+1074+(1074:Nat)).toNat,by omega⟩
 have hPP:(i+j+1074+(1074:Nat)).toNat=P:=by omega
 rw [hPP] at hab
 have e:((m*n*2^P:Nat):Int)=(m:Int)*n*2^P:=by push_cast;rfl
 rw [<-e] at hab
 have hbd:m*n*2^P<=2^(2090+1074):=by
  have:((m*n*2^P:Nat):Int)<=((2^(2090+1074):Nat):Int):=by
   rw [natPow (2090+1074)]
   have h3:=hab
   generalize (s^^t)=bb at h3
   cases bb<;>simp only [sg,Bool.false_eq_true,if_false,if_true] at h3<;>omega
  exact Int.ofNat_le.1 this
 obtain ⟨X,hX,hw,hn⟩:=ψU (s^^t) hP hbd
 rw [<-hab] at hn
 refine ⟨_,_,?_,⟨_,X,hX,hw,rfl⟩,hn⟩
 unfold Ieee.Format.mul
 rw [e1,e2]
 rfl
theorem fma_isF {u:Nat} {c:Int} (hx:IsF x a) (hy:IsF y b) (hu:IsF u c) (h1:a*b+c*2^1074<=2^(2090+1074)) (h2: -(2^(2090+1074))<=a*b+c*2^1074): ∃z r,Ieee.double.fma x y u=some z∧IsF z r∧Nr 1074 (a*b+c*2^1074) r:=by
 obtain ⟨s,m,i,e1,hi,ha⟩:=hx.read
 obtain ⟨t,n,j,e2,hj,hb⟩:=hy.read
 obtain ⟨v,l,k,e3,hk,hc⟩:=hu.read
 have hab:a*b=sg (s^^t) (((m*n:Nat):Int)*2^(i+j+1074+(1074:Nat)).toNat):=by
  rw [ha,hb,<-τw,ηf _ _ hi hj,Int.natCast_mul]
 have hcc:c*2^1074=sg v ((l:Int)*2^(k+1074+(1074:Nat)).toNat):=by
  rw [hc,φ2,Int.mul_assoc,<-Int.pow_add];congr 3;omega
 obtain ⟨d,z,r,hd,hz,hf,hn⟩:=χ2 (T:=1074) (s:=s^^t) (t:=v) (m:=m*n) (n:=l) (i:=i+j) (j:=k) (N:=a*b+c*2^1074) (by omega) (by omega) (by rw [hab,hcc]) h1 h2
 refine ⟨z,r,?_,hf,hn⟩
 unfold Ieee.Format.fma
 rw [e1,e2,e3]
 simp only [Ieee.Datum.product,Option.bind_some]
 rw [hd,Option.map_some,hz]
theorem order_isF (hx:IsF x a) (hy:IsF y b):Ieee.double.order x y=some (compare a b):=by
 obtain ⟨s,m,i,e1,hi,ha⟩:=hx.read
 obtain ⟨t,n,j,e2,hj,hb⟩:=hy.read
 unfold Ieee.Format.order
 rw [e1,e2]
 simp only [Ieee.Datum.order]
 obtain ⟨base,hbs⟩: ∃b,b=min i j:=⟨_,rfl⟩
 rw [<-hbs,ψV,ψV]
 have ea:a=sg s ((m:Int)*2^(i-base).toNat)*2^(base+1074).toNat:=by
  rw [ha,φ2,νM (by omega) (by omega)]
 have eb:b=sg t ((n:Int)*2^(j-base).toNat)*2^(base+1074).toNat:=by
  rw [hb,φ2,νM (by omega) (by omega)]
 have pp:=pow_pos2 (base+1074).toNat
 rw [ea,eb]
 congr 1
 generalize sg s ((m:Int)*2^(i-base).toNat)=A
 generalize sg t ((n:Int)*2^(j-base).toNat)=B
 rcases Int.lt_trichotomy A B with h|h|h
 ·rw [Int.compare_eq_lt.2 h,Int.compare_eq_lt.2 (Int.mul_lt_mul_of_pos_right h pp)]
 ·rw [h];simp
 ·rw [Int.compare_eq_gt.2 h,Int.compare_eq_gt.2 (Int.mul_lt_mul_of_pos_right h pp)]
end Fl
end Go.Proofs.YtfieffpobgcpmaaGreatDoor
