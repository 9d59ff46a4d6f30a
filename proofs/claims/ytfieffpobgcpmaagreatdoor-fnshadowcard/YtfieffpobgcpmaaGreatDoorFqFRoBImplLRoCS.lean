import Derived.Test.YtfieffpobgcpmaaGreatDoorFlEMathFEsAS
import Derived.Test.YtfieffpobgcpmaaGreatDoorHoNToRoAS
import Derived.Test.YtfieffpobgcpmaaGreatDoorBoxToNumSS
import Derived.Test.YtfieffpobgcpmaaGreatDoorNumZToSpecOS
import Derived.Test.YtfieffpobgcpmaaGreatDoorImplEImplNgImplNNumMImplMS
import Derived.Test.YtfieffpobgcpmaaGreatDoorImplUQS
import Derived.Test.YtfieffpobgcpmaaGreatDoorNumWToNumNS
import Derived.Test.YtfieffpobgcpmaaGreatDoorEsBToImplOS
set_option maxRecDepth 100000
set_option maxHeartbeats 32000000
namespace Go.Proofs.YtfieffpobgcpmaaGreatDoor
open Go.RowKit Go.Proofs.Tryz
variable {N r k X Y c n y D:Int} {x m:Nat}
namespace Fl
theorem Nr.high {t:Nat} (h:Nr t N r) (h0:0<=N):2^53*(r*2^t)<=(2^53+1)*N+2^(52+t):=by
 have pt:=pow_pos2 t
 have e52:(2:Int)^(52+t)=2^52*2^t:=Int.pow_add _ _ _
 by_cases hs:N<=2^(53+0+t)
 ·have:=h.errT (k:=0) (by have:=pow_pos2 (53+0+t);omega) hs
  rw [Nat.zero_add] at this
  omega
 ·obtain ⟨k,k1,k2⟩:=ωO (n:=N) (by have:=pow_le (show 53<=53+0+t by omega);omega)
  have hk:t<=k:=by
   apply Nat.le_of_not_lt;intro hh
   have:=pow_le (show 53+k+1<=53+0+t by omega);omega
  obtain ⟨j,rfl⟩:=Nat.exists_eq_add_of_le hk
  have:=h.errT (k:=j+1) (by have:=pow_pos2 (53+(j+1)+t);omega) (by rw [show 53+(j+1)+t=53+(t+j)+1 by omega];omega)
  have e1:(2:Int)^(j+1+t)=2*2^(t+j):=by rw [show j+1+t=(t+j)+1 by omega,pow_succ2]
  have e2:(2:Int)^(53+(t+j))=2^53*2^(t+j):=Int.pow_add _ _ _
  omega
structure Rel (k:Int) (X Y:Int):Prop where
 lo:(2^60-k)*Y<=2^60*X
 hi:2^60*X<=(2^60+k)*Y
theorem Rel.up {l:Int} (h:Rel k X Y) (hY:0<=Y) (hk:k<=l):Rel l X Y:=by
 have h1:0<=(l-k)*Y:=Int.mul_nonneg (by omega) hY
 have e1:(l-k)*Y=l*Y-k*Y:=Int.sub_mul ..
 have e2:(2^60-k)*Y=2^60*Y-k*Y:=Int.sub_mul ..
 have e3:(2^60-l)*Y=2^60*Y-l*Y:=Int.sub_mul ..
 have e4:(2^60+k)*Y=2^60*Y+k*Y:=Int.add_mul ..
 have e5:(2^60+l)*Y=2^60*Y+l*Y:=Int.add_mul ..
 have:=h.lo;have:=h.hi
 exact ⟨by omega,by omega⟩
theorem Rel.mul (h:Rel k X Y) (hc:0<=c):Rel k (X*c) (Y*c):=by
 have l:=Int.mul_le_mul_of_nonneg_right h.lo hc
 have u:=Int.mul_le_mul_of_nonneg_right h.hi hc
 exact ⟨by rw [<-Int.mul_assoc,<-Int.mul_assoc];exact l,by rw [<-Int.mul_assoc,<-Int.mul_assoc];exact u⟩
theorem Rel.of_mul (hc:0<c) (h:Rel k (X*c) (Y*c)):Rel k X Y:=by
 have l:=h.lo
 have u:=h.hi
 rw [<-Int.mul_assoc,<-Int.mul_assoc] at l u
 exact ⟨Int.le_of_mul_le_mul_right l hc,Int.le_of_mul_le_mul_right u hc⟩
theorem Rel.trans {l Z:Int} (h:Rel k X Y) (h':Rel l Y Z) (hZ:0<=Z) (k0:0<=k) (k1:k<=1024) (l0:0<=l) (l1:l<=1024):Rel (k+l+1) X Z:=by
 have a:=Int.mul_le_mul_of_nonneg_left h'.lo (show 0<=2^60-k by omega)
 have b:=Int.mul_le_mul_of_nonneg_left h'.hi (show 0<=2^60+k by omega)
 have c:=h.lo
 have d:=h.hi
 have kl:0<=k*l∧k*l<=1024*1024:=⟨Int.mul_nonneg k0 l0,Int.mul_le_mul k1 l1 l0 (by omega)⟩
 have klZ:0<=k*l*Z∧k*l*Z<=1048576*Z:=⟨Int.mul_nonneg kl.1 hZ,Int.mul_le_mul_of_nonneg_right (by omega) hZ⟩
 have ea:(2^60-k)*((2^60-l)*Z)=2^120*Z-2^60*(k*Z)-2^60*(l*Z)+k*l*Z:=by grind
 have eb:(2^60+k)*((2^60+l)*Z)=2^120*Z+2^60*(k*Z)+2^60*(l*Z)+k*l*Z:=by grind
 have ec:(2^60-k)*(2^60*Y)=2^60*((2^60-k)*Y):=by grind
 have ed:(2^60+k)*(2^60*Y)=2^60*((2^60+k)*Y):=by grind
 have e1:(2^60-(k+l+1))*Z=2^60*Z-k*Z-l*Z-Z:=by grind
 have e2:(2^60+(k+l+1))*Z=2^60*Z+k*Z+l*Z+Z:=by grind
 rw [ea,ec] at a
 rw [eb,ed] at b
 generalize (2^60-k)*Y=P at*
 generalize (2^60+k)*Y=R at*
 exact ⟨by rw [e1];omega,by rw [e2];omega⟩
theorem Rel.symm (h:Rel k X Y) (hX:0<=X) (hY:0<=Y) (k0:0<=k) (k1:k<=1024):Rel (k+1) Y X:=by
 have a:=h.lo
 have b:=h.hi
 have kk:0<=k*Y:=Int.mul_nonneg k0 hY
 have kX:0<=k*X:=Int.mul_nonneg k0 hX
 have kY:k*Y<=1024*Y:=Int.mul_le_mul_of_nonneg_right k1 hY
 have e1:(2^60-k)*Y=2^60*Y-k*Y:=Int.sub_mul ..
 have e2:(2^60+k)*Y=2^60*Y+k*Y:=Int.add_mul ..
 have e3:(2^60-(k+1))*X=2^60*X-k*X-X:=by grind
 have e4:(2^60+(k+1))*X=2^60*X+k*X+X:=by grind
 rw [e1] at a
 rw [e2] at b
 have m1:=Int.mul_le_mul_of_nonneg_left a k0
 have m2:=Int.mul_le_mul_of_nonneg_left b k0
 have f1:k*(2^60*Y-k*Y)=2^60*(k*Y)-k*(k*Y):=by grind
 have f2:k*(2^60*Y+k*Y)=2^60*(k*Y)+k*(k*Y):=by grind
 have f3:k*(2^60*X)=2^60*(k*X):=by grind
 rw [f1,f3] at m1
 rw [f2,f3] at m2
 have q0:0<=k*(k*Y):=Int.mul_nonneg k0 kk
 have q1:k*(k*Y)<=1024*(1024*Y):=Int.mul_le_mul k1 kY kk (by omega)
 exact ⟨by rw [e3];omega,by rw [e4];omega⟩
theorem νn {W Z NN:Int} (l:(2^53-1)*NN<=2^53*X+2^52*Z) (u:2^53*X<=(2^53+1)*NN+2^52*Z) (n1:Y-W<=NN) (n2:NN<=Y+W) (hW:2^54*W<=Y) (hZ:2^100*Z<=Y) (w0:0<=W):Rel 194 X Y:=
 ⟨by omega,by omega⟩
theorem νo (x y:Int):x*(2*y)=2*(x*y):=by grind
theorem ωr {a:Int} (hx:IsF x a) (ha:0<a): ∃(m:Nat) (i:Int),Ieee.double.read x= .number false m i∧ -1074<=i∧a=(m:Int)*2^(i+1074).toNat∧0<m:=by
 obtain ⟨s,m,i,e1,hi,hA⟩:=hx.read
 have hp:=pow_pos2 (i+1074).toNat
 have h0:0<=(m:Int)*2^(i+1074).toNat:=Int.mul_nonneg (by omega) (by omega)
 cases s
 ·refine ⟨m,i,e1,hi,hA,?_⟩
  rcases Nat.eq_zero_or_pos m with h|h
  ·subst h;simp [sg] at hA;omega
  ·exact h
 ·simp only [sg,if_true] at hA;omega
theorem σx (M:Nat) {n:Nat} (hn:0<n):(2*(M/n)+(M%n !=0).toNat)*n<=2*M+n∧2*M<=(2*(M/n)+(M%n !=0).toNat)*n+n:=by
 have h:=Nat.div_add_mod M n
 have hr:=Nat.mod_lt M hn
 have e:(2*(M/n)+(M%n !=0).toNat)*n=2*(n*(M/n))+(M%n !=0).toNat*n:=by
  rw [Nat.add_mul,Nat.mul_assoc,Nat.mul_comm (M/n)]
 rw [e]
 by_cases hz:M%n=0
 ·have:(M%n !=0).toNat=0:=by simp [hz]
  rw [this];omega
 ·have:(M%n !=0).toNat=1:=by simp [hz]
  rw [this];omega
theorem σy {n:Nat} (hm:0<m):2^53*n<=m*2^(54+n.log2-m.log2):=by
 have h1:=Nat.log2_self_le (show m≠0 by omega)
 have h2:=@Nat.lt_log2_self n
 have e:m.log2+(54+n.log2-m.log2)≥53+(n.log2+1):=by omega
 have h3:2^(53+(n.log2+1))<=2^(m.log2+(54+n.log2-m.log2)):=Nat.pow_le_pow_right (by decide) e
 have h4:2^(m.log2+(54+n.log2-m.log2))<=m*2^(54+n.log2-m.log2):=by
  rw [Nat.pow_add];exact Nat.mul_le_mul_right _ h1
 have h5:2^53*n<=2^(53+(n.log2+1)):=by
  rw [Nat.pow_add];exact Nat.mul_le_mul_left _ (by omega)
 omega
theorem νp {mag M U T:Int} (n0:0<n) (pU:0<U) (l1:n*((2^53-1)*(mag*U))<=n*(2^53*(r*T)+2^52*T)) (l2:n*(2^53*(r*T))<=n*((2^53+1)*(mag*U)+2^52*T)) (Q1:mag*n<=2*M+n) (Q2:2*M<=mag*n+n) (D1:2^53*n<=M) (hz:2^100*(n*T)<=2*(M*U)):Rel 194 (n*(r*T)) (2*(M*U)):=by
 have w1:=Int.mul_le_mul_of_nonneg_right Q1 (Int.le_of_lt pU)
 have w2:=Int.mul_le_mul_of_nonneg_right Q2 (Int.le_of_lt pU)
 have w3:=Int.mul_le_mul_of_nonneg_right D1 (Int.le_of_lt pU)
 refine νn (NN:=mag*n*U) (W:=n*U) (Z:=n*T) ?_ ?_ ?_ ?_ ?_ hz (Int.mul_nonneg (by omega) (by omega))
 ·have f1:n*((2^53-1)*(mag*U))=(2^53-1)*(mag*n*U):=by grind
  have f2:n*(2^53*(r*T)+2^52*T)=2^53*(n*(r*T))+2^52*(n*T):=by grind
  rw [f1,f2] at l1;exact l1
 ·have f1:n*(2^53*(r*T))=2^53*(n*(r*T)):=by grind
  have f2:n*((2^53+1)*(mag*U)+2^52*T)=(2^53+1)*(mag*n*U)+2^52*(n*T):=by grind
  rw [f1,f2] at l2;exact l2
 ·have f:(mag*n+n)*U=mag*n*U+n*U:=Int.add_mul ..
  have g:2*M*U=2*(M*U):=Int.mul_assoc ..
  omega
 ·have f:(2*M+n)*U=2*(M*U)+n*U:=by grind
  omega
 ·have f:2^53*n*U=2^53*(n*U):=Int.mul_assoc ..
  omega
theorem σz {y:Nat} {a:Int} (hx:IsF x a) (hy:IsF y c) (ha:0<a) (hc:0<c) (hlo:c*2^100<=a*2^1074) (hhi:a*2^1074<=c*2^2080): ∃z r,Ieee.double.div x y=some z∧IsF z r∧0<r∧Rel 194 (r*c) (a*2^1074):=by
 obtain ⟨m,i,e1,hi,hA,hm⟩:=ωr hx ha
 obtain ⟨n,j,e2,hj,hC,hn⟩:=ωr hy hc
 obtain ⟨E,hE⟩: ∃E,E=54+n.log2-m.log2:=⟨_,rfl⟩
 have hDn:=σy (n:=n) hm
 rw [<-hE] at hDn
 obtain ⟨M,hM⟩: ∃M,M=m*2^E:=⟨_,rfl⟩
 rw [<-hM] at hDn
 obtain ⟨q1,q2⟩:=σx M hn
 obtain ⟨mag,hmag⟩: ∃z,z=2*(M/n)+(M%n !=0).toNat:=⟨_,rfl⟩
 rw [<-hmag] at q1 q2
 obtain ⟨ii,hii⟩: ∃z,z=(i+1074).toNat:=⟨_,rfl⟩
 obtain ⟨jj,hjj⟩: ∃z,z=(j+1074).toNat:=⟨_,rfl⟩
 rw [<-hii] at hA
 rw [<-hjj] at hC
 have hP:((ii+1074:Nat):Int)=(i-j-(E:Int)-1)+1074+((jj+E+1:Nat):Int):=by omega
 have pI:=pow_pos2 ii
 have pJ:=pow_pos2 jj
 have pE:=pow_pos2 E
 have pQ:=pow_pos2 1074
 have eP:(2:Int)^(ii+1074)=2^ii*2^1074:=Int.pow_add _ _ _
 have eT:(2:Int)^(jj+E+1)=2^jj*2^E*2:=by rw [Int.pow_add,Int.pow_add];rfl
 have cM:(M:Int)=m*2^E:=by rw [hM];push_cast;rfl
 have Q1:(mag:Int)*n<=2*M+n:=by exact_mod_cast q1
 have Q2:2*(M:Int)<=mag*n+n:=by exact_mod_cast q2
 have D1:2^53*(n:Int)<=M:=by exact_mod_cast hDn
 have n0:(0:Int)<n:=by omega
 have u1:a*2^1074*2^E=M*(2^ii*2^1074):=by rw [hA,cM];generalize (2:Int)^1074=Q;grind
 have u2:c*(2*2^E)=n*2^(jj+E+1):=by rw [hC,eT];grind
 have pU:=Int.mul_pos pI pQ
 have hbd:mag*2^(ii+1074)<=2^(2090+(jj+E+1)):=by
  have:((mag*2^(ii+1074):Nat):Int)<=((2^(2090+(jj+E+1)):Nat):Int):=by
   have k90:(2:Int)^2090=2^2080*2^10:=Int.pow_add 2 2080 10
   have k10:(2:Int)^10=1024:=by decide
   rw [Int.natCast_mul,natPow,natPow,eP,Int.pow_add 2 2090,k90,k10]
   have pK:=pow_pos2 2080
   have h1:=Int.mul_le_mul_of_nonneg_right hhi (Int.le_of_lt pE)
   rw [u1] at h1
   have h2:2*(c*2^2080*2^E)=n*(2^2080*2^(jj+E+1)):=by
    have:2*(c*2^2080*2^E)=2^2080*(c*(2*2^E)):=by generalize (2:Int)^2080=K;grind
    rw [this,u2];generalize (2:Int)^2080=K;grind
   have h3:=Int.mul_le_mul_of_nonneg_right (show (mag:Int)*n<=3*M by omega) (Int.le_of_lt pU)
   have pT:=pow_pos2 (jj+E+1)
   have pKT:=Int.mul_pos pK pT
   refine Int.le_of_mul_le_mul_right (a:=(n:Int)) ?_ n0
   have h4:(mag:Int)*(2^ii*2^1074)*n=mag*n*(2^ii*2^1074):=by generalize (2:Int)^ii*2^1074=U;grind
   have h5:3*(M:Int)*(2^ii*2^1074)=3*(M*(2^ii*2^1074)):=Int.mul_assoc ..
   have h6:(2:Int)^2080*1024*2^(jj+E+1)*n=1024*(n*(2^2080*2^(jj+E+1))):=by generalize (2:Int)^2080=K;grind
   have h7:=Int.mul_pos n0 pKT
   rw [h4,h6]
   generalize (M:Int)*(2^ii*2^1074)=Y at*
   generalize (n:Int)*(2^2080*2^(jj+E+1))=Z at*
   omega
  exact Int.ofNat_le.1 this
 obtain ⟨X,hX,hw,hnr⟩:=ψU false hP hbd
 simp only [sg,Bool.false_eq_true,if_false] at hnr
 have hN0:(0:Int)<=((mag*2^(ii+1074):Nat):Int):=Int.natCast_nonneg _
 have hl:=hnr.low hN0
 have hh:=hnr.high hN0
 rw [Int.natCast_mul,natPow,eP] at hl hh
 have hRel:Rel 194 ((dMag X:Int)*c) (a*2^1074):=by
  refine Rel.of_mul (c:=2*2^E) (by omega) ?_
  have e1:(dMag X:Int)*c*(2*2^E)=n*(dMag X*2^(jj+E+1)):=by rw [Int.mul_assoc,u2,Int.mul_left_comm]
  have e2:a*2^1074*(2*2^E)=2*(M*(2^ii*2^1074)):=by rw [<-u1];exact νo _ _
  rw [e1,e2]
  have l1:=Int.mul_le_mul_of_nonneg_left hl (Int.le_of_lt n0)
  have l2:=Int.mul_le_mul_of_nonneg_left hh (Int.le_of_lt n0)
  have hz:=Int.mul_le_mul_of_nonneg_right hlo (show (0:Int)<=2*2^E by omega)
  rw [e2] at hz
  have e3:c*2^100*(2*2^E)=2^100*(n*2^(jj+E+1)):=by rw [<-u2,Int.mul_comm c,Int.mul_assoc]
  rw [e3] at hz
  have p52:(2:Int)^(52+(jj+E+1))=2^52*2^(jj+E+1):=Int.pow_add _ _ _
  rw [p52] at l1 l2
  generalize (2:Int)^ii*2^1074=U at*
  generalize (2:Int)^(jj+E+1)=T at*
  generalize (dMag X:Int)=r at*
  exact νp n0 pU l1 l2 Q1 Q2 D1 hz
 refine ⟨_,_,?_,⟨false,X,hX,hw,rfl⟩,?_,?_⟩
 ·unfold Ieee.Format.div
  rw [e1,e2]
  simp only [Ieee.Datum.quotient,show n≠0 by omega,if_false]
  rw [show Ieee.double.fractionBits+2=54 from rfl,<-hE,Nat.shiftLeft_eq,<-hM,<-hmag]
  rfl
 ·simp only [sg,Bool.false_eq_true,if_false]
  have hl:=hRel.lo
  have hq:=Int.mul_pos ha pQ
  rcases Nat.eq_zero_or_pos (dMag X) with h|h
  ·rw [h] at hl;simp only [Int.natCast_zero,Int.zero_mul,Int.mul_zero] at hl
   generalize a*2^1074=Y at*
   omega
  ·omega
 ·exact hRel
end Fl
open Go.RowKit Fl
theorem κ1 {k j:Nat} (hm:m<=9007199254740992) (h:53+k<=j):m*2^k<=2^j:=by
 have h3:m*2^k<=2^53*2^k:=Nat.mul_le_mul_right _ hm
 rw [<-Nat.pow_add] at h3
 exact Nat.le_trans h3 (Nat.pow_le_pow_right (by decide) h)
theorem νq (m k:Nat):((m*2^k:Nat):Int)=(m:Int)*2^k:=by rw [Int.natCast_mul,natPow]
theorem isF_ofK {K:Nat} (hK:K=1074) (h0:0<=n) (h1:n<=9007199254740992):IsF (floatOfInt .f64 n) (n*2^K):=by
 obtain ⟨m,rfl⟩:=Int.eq_ofNat_of_zero_le h0
 have hbd:m*2^K<=2^(2090+0):=by
  generalize hJ:2090+0=J
  have h:=κ1 (m:=m) (k:=K) (j:=K+53) (by omega) (by omega)
  exact Nat.le_trans h (Nat.pow_le_pow_right (by decide) (by omega))
 obtain ⟨X,hX,hw,hn⟩:=ψU false (mag:=m) (place:=0) (t:=0) (P:=K) (by omega) hbd
 simp only [Fl.sg,Bool.false_eq_true,if_false] at hn
 rw [νq] at hn
 have hr:=hn.exact ⟨m,K,rfl,by omega,by omega⟩
 refine ⟨false,X,hX,?_,?_⟩
 ·rw [<-hw]
  unfold floatOfInt FloatKind.nearest
  have:decide ((m:Int)<0)=false:=by simp
  rw [this]
  rfl
 ·simp only [Fl.sg,Bool.false_eq_true,if_false];exact hr.symm
theorem isF_ofInt (h0:0<=n) (h1:n<=9007199254740992):IsF (floatOfInt .f64 n) (n*2^1074):=isF_ofK rfl h0 h1
theorem isF_parts {v:Int} (hx:IsF x v) (h:4503599627370496<=v): ∃F f:Nat,x=F*4503599627370496+f∧f<4503599627370496∧1<=F∧F<=2046∧v=((4503599627370496+f:Nat):Int)*2^(F-1):=by
 obtain ⟨neg,X,hX,rfl,rfl⟩:=hx
 cases neg
 ·simp only [Fl.sg,Bool.false_eq_true,if_false] at h⊢
  have hn: ¬X<4503599627370496:=by
   intro hl
   unfold dMag at h
   rw [if_pos hl] at h
   omega
  refine ⟨X/4503599627370496,X%4503599627370496,?_,Nat.mod_lt _ (by decide),by omega,by omega,?_⟩
  ·unfold Ieee.Format.word
   simp only [Bool.false_eq_true,if_false]
   omega
  ·unfold dMag
   rw [if_neg hn,Int.natCast_mul,natPow]
 ·simp only [Fl.sg,if_true] at h
  omega
theorem isF_of {F f:Nat} (h1:1<=F) (h2:F<=2046) (hf:f<4503599627370496):IsF (F*4503599627370496+f) (((4503599627370496+f:Nat):Int)*2^(F-1)):=by
 refine ⟨false,F*4503599627370496+f,by omega,?_,?_⟩
 ·unfold Ieee.Format.word
  simp only [Bool.false_eq_true,if_false]
 ·simp only [Fl.sg,Bool.false_eq_true,if_false]
  unfold dMag
  rw [if_neg (by omega),Int.natCast_mul,natPow,show (F*4503599627370496+f)%4503599627370496=f by omega,show (F*4503599627370496+f)/4503599627370496=F by omega]
theorem φk (x:Nat) (v:Int) (n:Nat) (w:World) (hx:IsF x v) (h1:4503599627370496<=v) (h2:v*2^n<2^2098):
 Calls prog 152 #[x,.int .i64 n] w fun e w'=> ∃z,e= .returned (.float .f64 z)∧IsF z (v*2^n)∧Below w w w':=by
 obtain ⟨F,f,rfl,hf,hF1,hF2,rfl⟩:=isF_parts hx h1
 have hG:F+n<=2046:=by
  apply Nat.le_of_not_lt
  intro hc
  have e:((4503599627370496+f:Nat):Int)*2^(F-1)*2^n=((4503599627370496+f:Nat):Int)*2^(F-1+n):=by rw [Int.mul_assoc,<-Int.pow_add]
  rw [e] at h2
  have h3:(2:Int)^2046<=2^(F-1+n):=pow_le (by omega)
  have h4:(4503599627370496:Int)*2^2046<=((4503599627370496+f:Nat):Int)*2^(F-1+n):=Int.mul_le_mul (by omega) h3 (Int.le_of_lt (pow_pos2 _)) (by omega)
  have h5:(4503599627370496:Int)*2^2046=2^2098:=by
   have:=Int.pow_add 2 52 2046
   exact this.symm
  omega
 refine (χP F (F+n) f n w hF1 hF2 (by omega) hG (by omega) hf).mono ?_
 rintro e w' ⟨rfl,hb⟩
 refine ⟨_,rfl,?_,hb⟩
 have:=isF_of (F:=F+n) (f:=f) (by omega) hG hf
 rw [Int.mul_assoc,<-Int.pow_add,show F-1+n=F+n-1 by omega]
 exact this
theorem ρg (x:Nat) (v:Int) (n:Nat) (w:World) (hx:IsF x v) (h1:9007199254740992*2^n<=v):
 Calls prog 152 #[x,.int .i64 (-(n:Int))] w fun e w'=> ∃z r,e= .returned (.float .f64 z)∧IsF z r∧r*2^n=v∧Below w w w':=by
 have hp:=pow_pos2 n
 obtain ⟨F,f,rfl,hf,hF1,hF2,rfl⟩:=isF_parts hx (by omega)
 have hG:n+1<=F:=by
  apply Nat.le_of_not_lt
  intro hc
  have h3:(2:Int)^(F-1)<=2^n:=pow_le (by omega)
  have h4:((4503599627370496+f:Nat):Int)*2^(F-1)<=((4503599627370496+f:Nat):Int)*2^n:=Int.mul_le_mul_of_nonneg_left h3 (by omega)
  have h5:((4503599627370496+f:Nat):Int)*2^n<9007199254740992*2^n:=Int.mul_lt_mul_of_pos_right (by omega) hp
  omega
 refine (χP F (F-n) f (-(n:Int)) w hF1 hF2 (by omega) (by omega) (by omega) hf).mono ?_
 rintro e w' ⟨rfl,hb⟩
 refine ⟨_,_,rfl,isF_of (F:=F-n) (f:=f) (by omega) (by omega) hf,?_,hb⟩
 rw [Int.mul_assoc,<-Int.pow_add,show F-n-1+n=F-1 by omega]
def bl (k:Nat):Nat:=if k=0 then 0 else k.log2+1
def isTab (S:ByteArray):Prop:=S.data.toList.map UInt8.toNat=(List.range 256).map bl
theorem τF {S:ByteArray} (hS:isTab S) {k:Nat} (h:k<S.size) (h0:0<k) (h1:k<256): ∃m:Nat,(S[k]).toNat=m+1∧m<8∧2^m<=k∧k<2^(m+1):=by
 have hk:S.data.toList[k]? =some S[k]:=by
  rw [Array.getElem?_toList]
  exact Array.getElem?_eq_getElem h
 have h2:=congrArg (fun l=>l[k]?) hS
 simp only [List.getElem?_map,hk,List.getElem?_range h1,Option.map_some,Option.some.injEq] at h2
 refine ⟨k.log2,?_,?_,Nat.log2_self_le (by omega),Nat.lt_log2_self⟩
 ·rw [h2,bl,if_neg (by omega)]
 ·exact (Nat.log2_lt (by omega)).2 (by omega)
theorem ηE (h0: -9223372036854775808<=n) (h1:n<=9223372036854775807):wrap64 n=n:=by
 unfold wrap64
 omega
theorem κ2 {S:ByteArray} {k:Nat} {h:k<S.size} {v:Value} {w:World} (hv:v= .int .i64 (wrap64 (wrap64 (S[k]).toNat))) (hS:isTab S) (hk:(k:Int)=y) (h0:0<y) (h1:y<256):
 ∃n:Nat,Ending.returned v= .returned (.int .i64 ((n:Int)+1))∧n<32∧2^n<=y∧y<2^(n+1)∧w=w:=by
 obtain ⟨m,e,hm,a,b⟩:=τF hS h (by omega) (by omega)
 refine ⟨m,?_,by omega,?_,?_,rfl⟩
 ·rw [hv,e,ηE (n:=((m+1:Nat):Int)) (by omega) (by omega),ηE (by omega) (by omega)]
  rfl
 ·rw [<-hk];exact_mod_cast a
 ·rw [<-hk];exact_mod_cast b
theorem θW {S:ByteArray} {k:Nat} {h:k<S.size} {q:Int} {s:Nat} {v:Value} {w:World} (hv:v= .int .i64 (wrap64 (q+wrap64 (S[k]).toNat))) (hS:isTab S) (hq:q=s) (hk:(k:Int)=y/2^s) (h0:0<y/2^s) (h1:y/2^s<256) (hs:s<=24):
 ∃n:Nat,Ending.returned v= .returned (.int .i64 ((n:Int)+1))∧n<32∧2^n<=y∧y<2^(n+1)∧w=w:=by
 obtain ⟨m,e,hm,a,b⟩:=τF hS h (by omega) (by omega)
 have hp:(0:Int)<2^s:=Int.pow_pos (by decide)
 have a':(2:Int)^m<=y/2^s:=by rw [<-hk];exact_mod_cast a
 have b':y/2^s<(2:Int)^(m+1):=by rw [<-hk];exact_mod_cast b
 have a2:=(Int.le_ediv_iff_mul_le hp).1 a'
 have b2:=(Int.ediv_lt_iff_lt_mul hp).1 b'
 rw [<-Int.pow_add] at a2 b2
 refine ⟨m+s,?_,by omega,a2,by rw [show m+s+1=m+1+s by omega];exact b2,rfl⟩
 rw [hv,e,ηE (n:=((m+1:Nat):Int)) (by omega) (by omega),ηE (by omega) (by omega),hq]
 congr 2
 push_cast
 omega
theorem σA (y:Int) (w:World) (h0:0<y) (h1:y<4294967296):
 Calls prog 173 #[y] w fun e w'=> ∃n:Nat,e= .returned (.int .i64 ((n:Int)+1))∧n<32∧2^n<=y∧y<2^(n+1)∧w'=w:=by
 by_cases ha:y<65536
 ·by_cases hb:y<256
  ·have ha': ¬65536<=y:=by omega
   have hb': ¬256<=y:=by omega
   go_enter func173,ntmps173
   go_wp2
   go_ret
   exact κ2 rfl (by unfold isTab;decide) (by omega) h0 hb
  ·have ha': ¬65536<=y:=by omega
   have hb':256<=y:=by omega
   go_enter func173,ntmps173
   go_wp2
   go_ret
   refine θW (s:=8) rfl (by unfold isTab;decide) rfl ?_ (by omega) (by omega) (by omega)
   omega
 ·by_cases hb:y<65536*256
  ·have ha':65536<=y:=by omega
   have hb': ¬256<=y/65536:=by omega
   go_enter func173,ntmps173
   go_wp2
   go_ret
   refine θW (s:=16) rfl (by unfold isTab;decide) rfl ?_ (by omega) (by omega) (by omega)
   omega
  ·have ha':65536<=y:=by omega
   have hb':256<=y/65536:=by omega
   go_enter func173,ntmps173
   go_wp2
   go_ret
   refine θW (s:=24) rfl (by unfold isTab;decide) rfl ?_ (by omega) (by omega) (by omega)
   omega
theorem ρh {ds:List Int} {k:Nat} (hd:Dig 4294967296 ds) (hk:ds.length=k+1) (hy:y=ds.getD k 0) (h1:2^m<=y) (h2:y<2^(m+1)):
 2^(32*k+m)<=val 4294967296 ds∧val 4294967296 ds<2^(32*k+m+1):=by
 have hs:=ψ0 (B:=4294967296) (zs:=ds) (i:=k) (by omega)
 have ht:ds.take (k+1)=ds:=List.take_of_length_le (by omega)
 rw [ht,<-hy] at hs
 have hb:=ζ1 (B:=4294967296) (by decide) (hd.take k)
 have hb0:=ζo (B:=4294967296) (by decide) (hd.take k)
 have hl:(ds.take k).length=k:=by rw [List.length_take];omega
 rw [hl] at hb
 have hP:(4294967296:Int)^k=2^(32*k):=by
  rw [Int.pow_mul]
  rfl
 have hp:(0:Int)<2^(32*k):=Int.pow_pos (by decide)
 rw [hP] at hs hb
 have e1:(2:Int)^(32*k+m)=2^(32*k)*2^m:=Int.pow_add ..
 have e2:(2:Int)^(32*k+m+1)=2^(32*k)*2^(m+1):=by rw [Nat.add_assoc];exact Int.pow_add ..
 have m1:=Int.mul_le_mul_of_nonneg_left h1 (Int.le_of_lt hp)
 have m2:(2:Int)^(32*k)*(y+1)<=2^(32*k)*2^(m+1):=Int.mul_le_mul_of_nonneg_left (by omega) (Int.le_of_lt hp)
 rw [Int.mul_add,Int.mul_one] at m2
 rw [e1,e2]
 omega
theorem ρi (a:Option Addr) (c:Nat) (zs:List Int) (w:World) (hn:zs.length<=100000) (hz:ζk .u32 w a zs) (hcz:ζv 4294967296 zs) (hne:zs≠[]):
 Calls prog 168 #[.slice a zs c] w fun e w'=> ∃n:Nat,e= .returned (.int .i64 ((n:Int)+1))∧n+1<=32*zs.length∧2^n<=val 4294967296 zs∧val 4294967296 zs<2^(n+1)∧w'=w:=by
 have hpos:=List.length_pos_iff.2 hne
 obtain ⟨k,hk⟩: ∃k,zs.length=k+1:=⟨zs.length-1,by omega⟩
 obtain ⟨b,off,rfl,hb,hc⟩:=hz.resolve_left hne
 have gk:=hc k (by omega)
 have hdk:=hcz.1.at (by decide) k
 have hlast:zs.getD k 0≠0:=by
  have:=ψQ hcz.2 (by omega)
  rw [hk,Nat.add_sub_cancel] at this
  exact this
 have HD:Hid (Dig 4294967296 zs):=hcz.1
 obtain ⟨y,hy⟩: ∃y,y=zs.getD k 0:=⟨_,rfl⟩
 rw [<-hy] at gk hdk hlast
 have HY:Hid (y=zs.getD k 0):=hy
 have hl0:((k:Int)+1==0)=false:=by rw [beq_eq_false_iff_ne];omega
 have hki:(k:Int)+1-1=k:=by omega
 have HK:Hid (zs.length=k+1):=hk
 have hk2:k<100000:=by omega
 obtain ⟨hd1,hd2⟩:=hdk
 rw [hk]
 clear hz hcz hc hne hy hpos hn hk
 go_enter func168,ntmps168
 go_wp2_with fail
 refine (σA y _ (by omega) hd2).mono ?_
 rintro e _ ⟨n,rfl,hn,h1,h2,rfl⟩
 have HT:Hid (2^(32*k+n)<=val 4294967296 zs∧val 4294967296 zs<2^(32*k+n+1)):=ρh HD.out HK.out HY.out h1 h2
 clear h1 h2
 go_wp2
 go_ret
 exact ⟨32*k+n,ζG (by omega),by omega,HT.out.1,HT.out.2,rfl⟩
theorem ρj (a:Option Addr) (c:Nat) (w:World):
 Calls prog 168 #[.slice a ([]:List Int).length c] w fun e w'=>e= .returned (.int .i64 0)∧w'=w:=by
 go_enter func168,ntmps168
 go_wp2
 go_ret
 exact ⟨rfl,rfl⟩
open Go.RowKit Fl
theorem κ3 (h:Nr 0 N r) (hN:2^59<=N):Rel 129 r N:=by
 have l:=h.low0 (by omega)
 have u:=h.high (by omega)
 simp only [Int.pow_zero,Int.mul_one,Nat.add_zero] at u
 exact ⟨by omega,by omega⟩
theorem νr {P:Int} (hc:0<c) (h1:D*c<=P) (h2:P<(D+1)*c) (hD:0<=D) (h3:c=1∨2^63<=D):Rel 1 (D*c) P:=by
 have hp:0<=D*c:=Int.mul_nonneg hD (by omega)
 refine ⟨?_,by omega⟩
 rcases h3 with rfl|h3
 ·omega
 ·have e:(D+1)*c=D*c+c:=by grind
  have h4:2^63*c<=D*c:=Int.mul_le_mul_of_nonneg_right h3 (by omega)
  omega
structure ψE (P:Int) (x cut:Nat) (A:Int):Prop where
 f:IsF x A
 rel:Rel 132 (A*2^cut) (P*2^1074)
 lo:2^1074<=A
 hi:A<=2^1139
 cut:cut<=40000
theorem ηF {P A:Int} {cut:Nat} (hx:IsF x A) (hA:Nr 0 N A) (hN:N=D*2^1074) (h1:D*2^cut<=P) (h2:P<(D+1)*2^cut) (hD:0<D) (hD2:D<2^64) (h3:cut=0∨2^63<=D) (hc:cut<=40000):ψE P x cut A:=by
 have pQ:=pow_pos2 1074
 have pC:=pow_pos2 cut
 have hQ:(2:Int)^59<=2^1074:=pow_le (by decide)
 have n1:2^1074<=N:=by
  have:1*2^1074<=D*2^1074:=Int.mul_le_mul_of_nonneg_right (by omega) (by omega)
  rw [Int.one_mul,<-hN] at this
  exact this
 have r1:=κ3 hA (Int.le_trans hQ n1)
 have r2:=νr pC h1 h2 (by omega) (h3.imp (fun h=>by rw [h];rfl) id)
 have hP:0<=P:=by have:=Int.mul_nonneg (Int.le_of_lt hD) (Int.le_of_lt pC);omega
 have r3:=(r1.mul (Int.le_of_lt pC))
 have r4:=(r2.mul (Int.le_of_lt pQ))
 have e:N*2^cut=D*2^cut*2^1074:=by rw [hN,Int.mul_assoc,Int.mul_assoc,Int.mul_comm (2^1074)]
 rw [e] at r3
 refine ⟨hx,?_,?_,?_,hc⟩
 ·have:=r3.trans r4 (Int.mul_nonneg hP (by omega)) (by decide) (by decide) (by decide) (by decide)
  exact this.up (Int.mul_nonneg hP (by omega)) (by decide)
 ·have:=hA.ge (Fl.pow 1074) (by rw [Int.pow_zero,Int.mul_one];exact n1)
  exact this
 ·refine hA.le (Fl.pow 1139) ?_
  rw [Int.pow_zero,Int.mul_one,hN]
  have e2:(2:Int)^1139=2^65*2^1074:=Int.pow_add 2 65 1074
  rw [e2]
  exact Int.mul_le_mul_of_nonneg_right (by omega) (by omega)
theorem σB {fs:List Int} (hc:ζv 4294967296 fs) (hv:val 4294967296 fs=D) (h0:0<D) (h1:D<2^64):(∃y,fs=[y]∧D=y∧0<y∧y<4294967296)∨ ∃y z,fs=[y,z]∧D=y+4294967296*z∧0<=y∧y<4294967296∧0<z∧z<4294967296:=by
 have hl:fs.length<=2:=by
  apply Nat.le_of_not_lt
  intro h
  have hg:=ηj (B:=4294967296) (by decide) hc (by omega)
  have:(4294967296:Int)^2<=4294967296^(fs.length-1):=by
   obtain ⟨k,hk⟩:=Nat.exists_eq_add_of_le (show 2<=fs.length-1 by omega)
   rw [hk,Int.pow_add]
   have:(0:Int)<4294967296^k:=Int.pow_pos (by decide)
   omega
  omega
 have hd:=hc.1
 match fs,hl with
 | [],_=>simp [val] at hv;omega
 | [y],_=>
  have:=hd y (by simp)
  simp [val] at hv
  exact .inl ⟨y,rfl,hv.symm,by omega,by omega⟩
 | [y,z],_=>
  have:=hd y (by simp)
  have hz:=hd z (by simp)
  simp [val] at hv
  have hz0:z≠0:=by
   intro h
   have:=hc.2
   rw [h] at this
   simp [trimL] at this
   split at this<;>simp at this
  exact .inr ⟨y,z,rfl,hv.symm,by omega,by omega,by omega,by omega⟩
end Go.Proofs.YtfieffpobgcpmaaGreatDoor
