import Derived.Test.YtfieffpobgcpmaaGreatDoorWiAWiF
import Derived.Test.YtfieffpobgcpmaaGreatDoorBaseToNum
import Derived.Test.YtfieffpobgcpmaaGreatDoorNumWToNumN
import Derived.Test.YtfieffpobgcpmaaGreatDoorImplUQ
import Derived.Test.YtfieffpobgcpmaaGreatDoorImplCImplDImplE
import Derived.Test.YtfieffpobgcpmaaGreatDoorEsEToImplC0
import Derived.Deep.LoopGhost
import Derived.Test.YtfieffpobgcpmaaGreatDoorImplNgImplNNumMImplM
import Derived.Test.YtfieffpobgcpmaaGreatDoorBoxToNumS
import Derived.Maps.AppendAt
set_option maxRecDepth 100000
set_option maxHeartbeats 32000000
namespace Go.Proofs.YtfieffpobgcpmaaGreatDoor
open Go.RowKit
theorem Met.congr {P Q:Int→Int→Prop} {R:Int×Int×Int×Int} (h:Met P R) (he: ∀p q,0<q→(P p q↔Q p q)):Met Q R:=by
 rcases h with h| ⟨h,e⟩
 ·exact .inl ⟨h.hb,h.hd,h.le,fun p q hq=>(he p q hq).symm.trans (h.is p q hq)⟩
 ·exact .inr ⟨fun p q hq hp=>h p q hq ((he p q hq).mpr hp),e⟩
theorem sgn_zero {x:Int}:sgn x=0↔x=0:=by
 rcases sgn_cases x with ⟨h,e⟩| ⟨h,e⟩| ⟨h,e⟩<;>rw [e]<;>omega
theorem inPl_met {O D:V3} {t0 t1 t2 t3 t4 t5 t6 t7 t8:Int} (hD:(nrm (pv t0 t1 t2) (pv t3 t4 t5) (pv t6 t7 t8)).dot D=0) (hn:(nrm (pv t0 t1 t2) (pv t3 t4 t5) (pv t6 t7 t8)).dot (nrm (pv t0 t1 t2) (pv t3 t4 t5) (pv t6 t7 t8))≠0) (h:(nrm (pv t0 t1 t2) (pv t3 t4 t5) (pv t6 t7 t8)).dot ((pv t0 t1 t2).sub O)=0):
 Met (Meets (pv t0 t1 t2) (pv t3 t4 t5) (pv t6 t7 t8) O D) (inPl (nrm (pv t0 t1 t2) (pv t3 t4 t5) (pv t6 t7 t8)) O D 3 ⟨t0,t1,t2,t3,t4,t5,t6,t7,t8⟩ (0,1,1,0)):=by
 refine Met.congr (((met_all.keep _ _).keep _ _).keep _ _) fun p q _=> ?_
 rw [lie_mem hD hn h p q,dot_swap _ (pv t0 t1 t2) O,dot_swap _ (pv t3 t4 t5) O,dot_swap _ (pv t6 t7 t8) O]
 exact Iff.rfl
def WithinOut (w:World) (P:Int→Int→Prop) (o:Ending) (w':World):Prop:= ∃R,Met P R∧StrRes w 1120 R o w'
theorem withinC_any (v:Value) (O D:V3) (t0 t1 t2 t3 t4 t5 t6 t7 t8:Int) (w:World) (hT:Tab w) (hco:CourseIs w v O D) (q0:Cor t0) (q1:Cor t1) (q2:Cor t2) (q3:Cor t3) (q4:Cor t4) (q5:Cor t5) (q6:Cor t6) (q7:Cor t7) (q8:Cor t8):
 Calls Tryz.prog 40 #[v,.agg #[t0,t1,t2,t3,t4,t5,t6,t7,t8]] w fun o w'=>WithinOut w (Meets (pv t0 t1 t2) (pv t3 t4 t5) (pv t6 t7 t8) O D) o w':=by
 by_cases hD:(nrm (pv t0 t1 t2) (pv t3 t4 t5) (pv t6 t7 t8)).dot D=0
 ·have hu:sgn ((nrm (pv t0 t1 t2) (pv t3 t4 t5) (pv t6 t7 t8)).dot D)=0:=sgn_zero.mpr hD
  by_cases hm:(nrm (pv t0 t1 t2) (pv t3 t4 t5) (pv t6 t7 t8)).dot (nrm (pv t0 t1 t2) (pv t3 t4 t5) (pv t6 t7 t8))=0∨(nrm (pv t0 t1 t2) (pv t3 t4 t5) (pv t6 t7 t8)).dot ((pv t0 t1 t2).sub O)≠0
  ·refine (within_all v O D t0 t1 t2 t3 t4 t5 t6 t7 t8 w hT hco q0 q1 q2 q3 q4 q5 q6 q7 q8 _ _ ?_ (.inl ⟨.inl rfl,rfl⟩)).mono fun o w' h=>⟨_,.inr ⟨lie_miss hD hm,rfl⟩,h⟩
   unfold meetV
   rw [if_pos hu,if_pos]
   rcases hm with h|h
   ·exact .inl (by rw [sgn_zero.mpr h];rfl)
   ·exact .inr fun e=>h (sgn_zero.mp e)
  ·have hn:(nrm (pv t0 t1 t2) (pv t3 t4 t5) (pv t6 t7 t8)).dot (nrm (pv t0 t1 t2) (pv t3 t4 t5) (pv t6 t7 t8))≠0:=fun e=>hm (.inl e)
   have hh:(nrm (pv t0 t1 t2) (pv t3 t4 t5) (pv t6 t7 t8)).dot ((pv t0 t1 t2).sub O)=0:=Classical.byContradiction fun e=>hm (.inr e)
   refine (within_all v O D t0 t1 t2 t3 t4 t5 t6 t7 t8 w hT hco q0 q1 q2 q3 q4 q5 q6 q7 q8 _ _ ?_ (.inr (.inr (.inl ⟨rfl,rfl⟩)))).mono fun o w' h=>⟨_,inPl_met hD hn hh,h⟩
   unfold meetV
   rw [if_pos hu,if_neg]
   rintro (h|h)
   ·exact hn (sgn_zero.mp (by simpa using h))
   ·exact h (sgn_zero.mpr hh)
 ·have hu:sgn ((nrm (pv t0 t1 t2) (pv t3 t4 t5) (pv t6 t7 t8)).dot D)≠0:=fun e=>hD (sgn_zero.mp e)
  by_cases hb:sgn ((nrm (pv t0 t1 t2) (pv t3 t4 t5) (pv t6 t7 t8)).dot D)*sgn ((nrm (pv t0 t1 t2) (pv t3 t4 t5) (pv t6 t7 t8)).dot ((pv t0 t1 t2).sub O))<0
  ·refine (within_all v O D t0 t1 t2 t3 t4 t5 t6 t7 t8 w hT hco q0 q1 q2 q3 q4 q5 q6 q7 q8 _ _ ?_ (.inl ⟨.inr rfl,rfl⟩)).mono fun o w' h=>⟨_,.inr ⟨cross_behind hD hb,rfl⟩,h⟩
   unfold meetV
   rw [if_neg hu,decide_eq_true hb]
  ·have hmv:meetV (sgn ((nrm (pv t0 t1 t2) (pv t3 t4 t5) (pv t6 t7 t8)).dot D)) (sgn ((nrm (pv t0 t1 t2) (pv t3 t4 t5) (pv t6 t7 t8)).dot ((pv t0 t1 t2).sub O))) (sgn ((nrm (pv t0 t1 t2) (pv t3 t4 t5) (pv t6 t7 t8)).dot (nrm (pv t0 t1 t2) (pv t3 t4 t5) (pv t6 t7 t8)))==0)= .iface 145 (.agg #[false]):=by
    unfold meetV
    rw [if_neg hu,decide_eq_false hb]
   cases ho:oneSide (sgn (D.dot (((pv t0 t1 t2).sub O).cross ((pv t3 t4 t5).sub O)))) (sgn (D.dot (((pv t3 t4 t5).sub O).cross ((pv t6 t7 t8).sub O)))) (sgn (D.dot (((pv t6 t7 t8).sub O).cross ((pv t0 t1 t2).sub O))))
   ·exact (within_all v O D t0 t1 t2 t3 t4 t5 t6 t7 t8 w hT hco q0 q1 q2 q3 q4 q5 q6 q7 q8 _ _ hmv (.inr (.inl ⟨rfl,ho,rfl⟩))).mono fun o w' h=>⟨_,.inr ⟨cross_side hD ho,rfl⟩,h⟩
   ·refine (within_all v O D t0 t1 t2 t3 t4 t5 t6 t7 t8 w hT hco q0 q1 q2 q3 q4 q5 q6 q7 q8 _ _ hmv (.inr (.inr (.inr ⟨rfl,ho,_,_,rfl,rfl,rfl⟩)))).mono fun o w' h=>⟨_,.inl ?_,h⟩
    refine cross_yes hD ho ?_ ?_ ?_
    ·show 0<(if (nrm (pv t0 t1 t2) (pv t3 t4 t5) (pv t6 t7 t8)).dot D<0 then-(nrm (pv t0 t1 t2) (pv t3 t4 t5) (pv t6 t7 t8)).dot D else (nrm (pv t0 t1 t2) (pv t3 t4 t5) (pv t6 t7 t8)).dot D)
     split<;>omega
    ·show 0≤(if (nrm (pv t0 t1 t2) (pv t3 t4 t5) (pv t6 t7 t8)).dot D<0 then-(nrm (pv t0 t1 t2) (pv t3 t4 t5) (pv t6 t7 t8)).dot ((pv t0 t1 t2).sub O) else (nrm (pv t0 t1 t2) (pv t3 t4 t5) (pv t6 t7 t8)).dot ((pv t0 t1 t2).sub O))
     rcases sgn_cases ((nrm (pv t0 t1 t2) (pv t3 t4 t5) (pv t6 t7 t8)).dot D) with ⟨h1,e1⟩| ⟨h1,e1⟩| ⟨h1,e1⟩<;>rcases sgn_cases ((nrm (pv t0 t1 t2) (pv t3 t4 t5) (pv t6 t7 t8)).dot ((pv t0 t1 t2).sub O)) with ⟨h2,e2⟩| ⟨h2,e2⟩| ⟨h2,e2⟩<;>rw [e1,e2] at hb<;>split<;>omega
    ·show ((if (nrm (pv t0 t1 t2) (pv t3 t4 t5) (pv t6 t7 t8)).dot D<0 then-(nrm (pv t0 t1 t2) (pv t3 t4 t5) (pv t6 t7 t8)).dot ((pv t0 t1 t2).sub O) else (nrm (pv t0 t1 t2) (pv t3 t4 t5) (pv t6 t7 t8)).dot ((pv t0 t1 t2).sub O))=_∧(if (nrm (pv t0 t1 t2) (pv t3 t4 t5) (pv t6 t7 t8)).dot D<0 then-(nrm (pv t0 t1 t2) (pv t3 t4 t5) (pv t6 t7 t8)).dot D else (nrm (pv t0 t1 t2) (pv t3 t4 t5) (pv t6 t7 t8)).dot D)=_)∨_
     by_cases h1:(nrm (pv t0 t1 t2) (pv t3 t4 t5) (pv t6 t7 t8)).dot D<0
     ·exact .inr ⟨if_pos h1,if_pos h1⟩
     ·exact .inl ⟨if_neg h1,if_neg h1⟩
theorem odd_cop {o:Int} (h:o%2=1) (t:Nat):Nat.Coprime (2^t) o.natAbs:=by
 refine Nat.Coprime.pow_left t ?_
 have:o.natAbs%2=1:=by omega
 rw [Nat.coprime_iff_gcd_eq_one,Nat.gcd_rec,this]
 rfl
theorem gcd_odd {q o:Int} (h:o%2=1) (t:Nat):Int.gcd (2^t*q) o=Int.gcd q o:=by
 unfold Int.gcd
 rw [Int.natAbs_mul,Int.natAbs_pow]
 exact Nat.Coprime.gcd_mul_left_cancel _ (odd_cop h t)
theorem gcd_step {m o q:Int} {t:Nat} (ho:o%2=1) (hq:m-o=2^t*q):Int.gcd q o=Int.gcd m o:=by
 rw [←gcd_odd ho t,←hq]
 have:m=(m-o)+o:=by omega
 rw [show Int.gcd m o=Int.gcd ((m-o)+o) o by rw [←this]]
 simp
theorem inv_start {a:Int} (h:a%2=1): ∃k,a*a=1+8*k:=by
 have h1:a%8=1∨a%8=3∨a%8=5∨a%8=7:=by omega
 have h2:a=8*(a/8)+a%8:=by omega
 rcases h1 with e|e|e|e<;>rw [e] at h2
 ·exact ⟨8*(a/8)*(a/8)+2*(a/8),by rw [show a*a=(8*(a/8)+1)*(8*(a/8)+1) by rw [←h2]];grind⟩
 ·exact ⟨8*(a/8)*(a/8)+6*(a/8)+1,by rw [show a*a=(8*(a/8)+3)*(8*(a/8)+3) by rw [←h2]];grind⟩
 ·exact ⟨8*(a/8)*(a/8)+10*(a/8)+3,by rw [show a*a=(8*(a/8)+5)*(8*(a/8)+5) by rw [←h2]];grind⟩
 ·exact ⟨8*(a/8)*(a/8)+14*(a/8)+6,by rw [show a*a=(8*(a/8)+7)*(8*(a/8)+7) by rw [←h2]];grind⟩
theorem limb_of {B d i Q k:Int} (hd:d*i=1+B*k):(d*Q*i)%B=Q%B:=by
 have e:d*Q*i=Q+B*(k*Q):=by
  have:d*Q*i=(d*i)*Q:=by grind
  rw [this,hd];grind
 rw [e,Int.add_mul_emod_self_left]
theorem rest_limb {B d Q:Int}:d*Q-(Q%B)*d=(d*(Q/B))*B:=by
 have h:Q=B*(Q/B)+Q%B:=(Int.mul_ediv_add_emod Q B).symm
 have e:d*Q-(Q%B)*d=d*(Q-Q%B):=by grind
 rw [e]
 have:Q-Q%B=B*(Q/B):=by omega
 rw [this];grind
theorem low_of {p q:Int} {i j:Nat} {a b g x y:Int} (hp:p=2^i*a) (hq:q=2^j*b) (ha:a%2=1) (hb:b%2=1) (hb0:0<b) (hg:g=(Int.gcd a b:Int)) (hx:a=g*x) (hy:b=g*y):
 ∃u v,u=2^(i-min i j)*x∧v=2^(j-min i j)*y∧(∃k,0<k∧p=k*u∧q=k*v)∧Int.gcd u v=1∧0<v:=by
 have hg0:0<g:=by
  rw [hg]
  have:Int.gcd a b≠0:=fun e=>by rw [Int.gcd_eq_zero_iff] at e;omega
  omega
 have hy0:0<y:=by
  rcases Int.lt_or_le 0 y with h|h
  ·exact h
  ·have:=Int.mul_nonpos_of_nonneg_of_nonpos (Int.le_of_lt hg0) h;omega
 have hpw: ∀n:Nat,(0:Int)<2^n:=fun n=>Int.pow_pos (by omega)
 have hxo:x%2=1:=by
  rcases Int.emod_two_eq x with h|h
  ·exfalso
   have:x=2*(x/2):=by omega
   rw [this] at hx
   have:a=2*(g*(x/2)):=by rw [hx];grind
   omega
  ·exact h
 have hyo:y%2=1:=by
  rcases Int.emod_two_eq y with h|h
  ·exfalso
   have:y=2*(y/2):=by omega
   rw [this] at hy
   have:b=2*(g*(y/2)):=by rw [hy];grind
   omega
  ·exact h
 have hco:Int.gcd x y=1:=by
  have h1:Int.gcd a b=g.natAbs*Int.gcd x y:=by rw [hx,hy];exact Int.gcd_mul_left ..
  have h2:g.natAbs=Int.gcd a b:=by rw [hg];simp
  rw [h2] at h1
  have h3:0<Int.gcd a b:=by omega
  exact Nat.eq_of_mul_eq_mul_left h3 (by omega)
 have hs: ∀n m:Nat,m≤n→(2:Int)^n=2^m*2^(n-m):=fun n m h=>by rw [←Int.pow_add];congr 1;omega
 refine ⟨_,_,rfl,rfl,⟨2^(min i j)*g,Int.mul_pos (hpw _) hg0,?_,?_⟩,?_,Int.mul_pos (hpw _) hy0⟩
 ·rw [hp,hs i (min i j) (by omega),hx];grind
 ·rw [hq,hs j (min i j) (by omega),hy];grind
 ·rcases Nat.le_total i j with h|h
  ·have e1:i-min i j=0:=by omega
   rw [e1,Int.pow_zero,Int.one_mul,Int.gcd_comm,gcd_odd hxo,Int.gcd_comm]
   exact hco
  ·have e1:j-min i j=0:=by omega
   rw [e1,Int.pow_zero,Int.one_mul,gcd_odd hyo]
   exact hco
def OddOut (w:World) (v:Int) (n:Nat) (e:Ending) (w':World):Prop:= ∃(t:Nat) (q:Int),v=2^t*q∧q%2=1∧MagOut w q n e w'
theorem oddL_any (a:Option Addr) (c:Nat) (zs:List Int) (w:World) (hn:zs.length≤30000) (hp:zs.length≤c) (hpm:c≤maxLen) (hz:RowAt .u32 w a zs) (hcz:Canon 4294967296 zs) (hne:zs≠[]) (hT:Tab w):
 Calls Tryz.prog 89 #[.slice a zs.length c] w fun e w'=>OddOut w (val 4294967296 zs) zs.length e w':=by
 go_enter Tryz.func89,Tryz.ntmps89
 go_wp2_with fail
 refine (lowZ_any a c zs _ (by omega) hz hcz hne hT).mono ?_
 rintro e w1 ⟨t,rfl,ht,⟨q,hq,hq1⟩,hb1⟩
 have HB1:Hid (Below w.heap.size w w1):=hb1
 have HQ:Hid (val 4294967296 zs=2^t*q∧q%2=1):=⟨hq,hq1⟩
 have HR:Hid (RowAt .u32 w1 a zs):=hz.later hb1
 have HC:Hid (Canon 4294967296 zs):=hcz
 have HT1:Hid (t≤32*zs.length):=ht
 clear hb1 hq hq1 hz hcz ht hT hne
 go_wp2_with fail
 refine (downI_any a c zs t _ (by omega) hp hpm (by omega) (by have:=HT1.out;omega) HR.out HC.out).mono ?_
 rintro e w2 ⟨a2,c2,fs,rfl,h1,h2,h3,h4,h5,h6,hb2⟩
 have HO:Hid (OddOut w (val 4294967296 zs) zs.length (.returned (.slice a2 fs.length c2)) w2):=by
  refine ⟨t,q,HQ.out.1,HQ.out.2,a2,c2,fs,rfl,h1,h2,h3,?_,h5,h6.down HB1.out.size,HB1.out.trans (hb2.mono HB1.out.size)⟩
  rw [h4,HQ.out.1,Int.toNat_natCast]
  have hp2:(0:Int)<2^t:=Int.pow_pos (by decide)
  exact Int.mul_ediv_cancel_left _ (by omega)
 clear h1 h2 h3 h4 h5 h6 hb2 HB1 HQ HR HC HT1
 go_wp2
 go_ret
 exact HO.out
theorem len_le_of_val {B:Int} (hB:0<B) {xs ys:List Int} (hx:Canon B xs) (hy:Canon B ys) (h:val B xs≤val B ys):xs.length≤ys.length:=by
 rcases Nat.lt_or_ge ys.length xs.length with q|q
 ·have:=val_lt_of_length hB hy.1 hx q
  omega
 ·exact q
structure FS (w:World) (n:Nat) (G:Int) (a:Option Addr) (c:Nat) (zs:List Int) (a':Option Addr) (c':Nat) (ys:List Int) (W:World):Prop where
 r1:RowAt .u32 W a zs
 r2:RowAt .u32 W a' ys
 k1:Canon 4294967296 zs
 k2:Canon 4294967296 ys
 p1:zs.length≤c∧c≤maxLen
 p2:ys.length≤c'∧c'≤maxLen
 o1:val 4294967296 zs%2=1
 o2:val 4294967296 ys%2=1
 g:(Int.gcd (val 4294967296 zs) (val 4294967296 ys):Int)=G
 n1:zs.length≤n
 n2:ys.length≤n
 bel:Below w.heap.size w W
theorem FS.later {w:World} {n:Nat} {G:Int} {a a':Option Addr} {c c':Nat} {zs ys:List Int} {W W':World} (h:FS w n G a c zs a' c' ys W) (hb:Below W.heap.size W W'):FS w n G a c zs a' c' ys W':=
 ⟨h.r1.later hb,h.r2.later hb,h.k1,h.k2,h.p1,h.p2,h.o1,h.o2,h.g,h.n1,h.n2,h.bel.trans (hb.mono h.bel.size)⟩
theorem FS.swap {w:World} {n:Nat} {G:Int} {a a':Option Addr} {c c':Nat} {zs ys:List Int} {W:World} (h:FS w n G a c zs a' c' ys W):FS w n G a' c' ys a c zs W:=
 ⟨h.r2,h.r1,h.k2,h.k1,h.p2,h.p1,h.o2,h.o1,by rw [Int.gcd_comm];exact h.g,h.n2,h.n1,h.bel⟩
theorem FS.step {w:World} {n:Nat} {G:Int} {a a' a2:Option Addr} {c c' c2:Nat} {zs ys fs:List Int} {W:World} {t:Nat} {q:Int} (h:FS w n G a c zs a' c' ys W) (hf:val 4294967296 zs-val 4294967296 ys=2^t*q) (hq:q%2=1)
 (hv:val 4294967296 fs=q) (hk:Canon 4294967296 fs) (hp:fs.length≤c2∧c2≤maxLen) (hn:fs.length≤n) (hr:RowAt .u32 W a2 fs):FS w n G a2 c2 fs a' c' ys W:=
 ⟨hr,h.r2,hk,h.k2,hp,h.p2,by rw [hv];exact hq,h.o2,by rw [hv,gcd_step h.o2 hf];exact h.g,hn,h.n2,h.bel⟩
def FacOut (w:World) (n:Nat) (G:Int) (e:Ending) (w':World):Prop:=
 ∃(a:Option Addr) (c:Nat) (fs:List Int),e= .returned (.slice a fs.length c)∧fs.length≤c∧c≤maxLen∧Canon 4294967296 fs∧val 4294967296 fs=G∧fs.length≤n∧RowAt .u32 w' a fs∧Below w.heap.size w w'
theorem factor_any (a a':Option Addr) (c c':Nat) (zs ys:List Int) (w:World) (n:Nat) (G:Int) (hn:n≤30000) (hT:Tab w) (hFS:FS w n G a c zs a' c' ys w):
 Calls Tryz.prog 90 #[.slice a zs.length c,.slice a' ys.length c'] w fun e w'=>FacOut w n G e w':=by
 have HTT:Hid (∀w',Below w.heap.size w w'→Tab w'):=fun w' hb=>hT.later hb
 have HF:Hid (FS w n G a c zs a' c' ys w):=hFS
 clear hT hFS
 go_enter Tryz.func90,Tryz.ntmps90
 go_wp2_with fail
 go_loopg [0,1] (val 4294967296 zs+val 4294967296 ys).toNat (fun k sm so wr=> ∃(a:Option Addr) (c:Nat) (zs:List Int) (a':Option Addr) (c':Nat) (ys:List Int),sm= .slice a zs.length c∧so= .slice a' ys.length c'∧k=(val 4294967296 zs+val 4294967296 ys).toNat∧Hid (FS w n G a c zs a' c' ys wr))
 case atStart=>exact ⟨_,_,_,_,_,_,rfl,rfl,rfl,HF.out⟩
 case round=>
  clear HF a a' c c' zs ys
  obtain ⟨a,c,zs,a',c',ys,rfl,rfl,rfl,HW0⟩:=hrel
  go_wp2_with fail
  refine (order_any a a' c c' zs ys _ (by have:=HW0.out.n1;omega) (by have:=HW0.out.n2;omega) HW0.out.r1 HW0.out.r2).mono ?_
  rintro e w1 ⟨rfl,hb1⟩
  have HW:Hid (FS w n G a c zs a' c' ys w1):=HW0.out.later hb1
  have hcm:=cmpL_val (B:=4294967296) (by decide) HW0.out.k1 HW0.out.k2
  clear hb1 HW0
  rcases sgn_cases (val 4294967296 zs-val 4294967296 ys) with ⟨hd,hs⟩| ⟨hd,hs⟩| ⟨hd,hs⟩
  ·rw [hcm,hs]
   clear hcm hs
   have hlt:val 4294967296 zs<val 4294967296 ys:=by omega
   have hle:zs.length≤ys.length:=len_le_of_val (by decide) HW.out.swap.k2 HW.out.swap.k1 (by omega)
   go_wp2_with fail
   refine (minus_any a' a c' c ys zs _ (by have:=HW.out.swap.n1;omega) HW.out.swap.r1 HW.out.swap.r2 HW.out.swap.k1.1 HW.out.swap.k2.1 hle (by omega)).mono ?_
   rintro e w2 ⟨a2,c2,fs,rfl,f1,f2,f3,f4,f5,f6,hb2⟩
   have HW2:Hid (FS w n G a' c' ys a c zs w2):=HW.out.swap.later hb2
   have HFs:Hid (fs.length≤c2∧c2≤maxLen∧Canon 4294967296 fs∧val 4294967296 fs=val 4294967296 ys-val 4294967296 zs∧fs.length≤ys.length∧RowAt .u32 w2 a2 fs):=⟨f1,f2,f3,f4,f5,f6.row⟩
   clear f1 f2 f3 f4 f5 f6 hb2 HW
   have hne:fs≠[]:=by
    intro e
    have h4:=HFs.out.2.2.2.1
    rw [e] at h4
    simp [val] at h4
    omega
   go_wp2_with fail
   refine (oddL_any a2 c2 fs _ (by have:=HFs.out.2.2.2.2.1;have:=HW2.out.n1;omega) HFs.out.1 HFs.out.2.1 HFs.out.2.2.2.2.2 HFs.out.2.2.1 hne (HTT.out _ HW2.out.bel)).mono ?_
   rintro e w3 ⟨t,q,hq,hq1,a3,c3,hs,rfl,g1,g2,g3,g4,g5,g6,hb3⟩
   have HW3:Hid (FS w n G a3 c3 hs a c zs w3):=(HW2.out.later hb3).step (by rw [←HFs.out.2.2.2.1];exact hq) hq1 g4 g3 ⟨g1,g2⟩ (by have:=HFs.out.2.2.2.2.1;have:=HW2.out.n1;omega) g6.row
   have HM:Hid ((val 4294967296 hs+val 4294967296 zs).toNat<(val 4294967296 zs+val 4294967296 ys).toNat):=by
    unfold Hid
    have e1:=HFs.out.2.2.2.1
    rw [hq] at e1
    have hp2:(1:Int)≤2^t:=Int.pow_pos (by decide)
    have hq0:0≤val 4294967296 hs:=val_nonneg (by decide) g3.1
    have hy1:=val_nonneg (B:=4294967296) (by decide) HW2.out.k2.1
    have hy2:=HW2.out.o2
    rw [g4] at hq0⊢
    have:q≤2^t*q:=by
     have:=Int.mul_le_mul_of_nonneg_right hp2 hq0
     omega
    omega
   clear hb3 HW2 HFs hq hq1 g1 g2 g3 g4 g5 g6
   go_wp2_with fail
   go_roundg (val 4294967296 hs+val 4294967296 zs).toNat
   case measure=>exact HM.out
   case rel=>exact ⟨_,_,_,_,_,_,rfl,rfl,rfl,HW3.out⟩
  ·rw [hcm,hs]
   have HO:Hid (FacOut w n G (.returned (.slice a zs.length c)) w1):=by
    have hg:=HW.out.g
    have hv0:=val_nonneg (B:=4294967296) (by decide) HW.out.k1.1
    refine ⟨a,c,zs,rfl,HW.out.p1.1,HW.out.p1.2,HW.out.k1,?_,HW.out.n1,HW.out.r1,HW.out.bel⟩
    rw [←hg,show val 4294967296 ys=val 4294967296 zs by omega,Int.gcd_self]
    omega
   clear hcm hs hd HW
   go_wp2
   go_ret
   exact HO.out
  ·rw [hcm,hs]
   clear hcm hs
   have hlt:val 4294967296 ys<val 4294967296 zs:=by omega
   have hle:ys.length≤zs.length:=len_le_of_val (by decide) HW.out.k2 HW.out.k1 (by omega)
   go_wp2_with fail
   refine (minus_any a a' c c' zs ys _ (by have:=HW.out.n1;omega) HW.out.r1 HW.out.r2 HW.out.k1.1 HW.out.k2.1 hle (by omega)).mono ?_
   rintro e w2 ⟨a2,c2,fs,rfl,f1,f2,f3,f4,f5,f6,hb2⟩
   have HW2:Hid (FS w n G a c zs a' c' ys w2):=HW.out.later hb2
   have HFs:Hid (fs.length≤c2∧c2≤maxLen∧Canon 4294967296 fs∧val 4294967296 fs=val 4294967296 zs-val 4294967296 ys∧fs.length≤zs.length∧RowAt .u32 w2 a2 fs):=⟨f1,f2,f3,f4,f5,f6.row⟩
   clear f1 f2 f3 f4 f5 f6 hb2 HW
   have hne:fs≠[]:=by
    intro e
    have h4:=HFs.out.2.2.2.1
    rw [e] at h4
    simp [val] at h4
    omega
   go_wp2_with fail
   refine (oddL_any a2 c2 fs _ (by have:=HFs.out.2.2.2.2.1;have:=HW2.out.n1;omega) HFs.out.1 HFs.out.2.1 HFs.out.2.2.2.2.2 HFs.out.2.2.1 hne (HTT.out _ HW2.out.bel)).mono ?_
   rintro e w3 ⟨t,q,hq,hq1,a3,c3,hs,rfl,g1,g2,g3,g4,g5,g6,hb3⟩
   have HW3:Hid (FS w n G a3 c3 hs a' c' ys w3):=(HW2.out.later hb3).step (by rw [←HFs.out.2.2.2.1];exact hq) hq1 g4 g3 ⟨g1,g2⟩ (by have:=HFs.out.2.2.2.2.1;have:=HW2.out.n1;omega) g6.row
   have HM:Hid ((val 4294967296 hs+val 4294967296 ys).toNat<(val 4294967296 zs+val 4294967296 ys).toNat):=by
    unfold Hid
    have e1:=HFs.out.2.2.2.1
    rw [hq] at e1
    have hp2:(1:Int)≤2^t:=Int.pow_pos (by decide)
    have hq0:0≤val 4294967296 hs:=val_nonneg (by decide) g3.1
    have hy1:=val_nonneg (B:=4294967296) (by decide) HW2.out.k2.1
    have hy2:=HW2.out.o2
    rw [g4] at hq0⊢
    have:q≤2^t*q:=by
     have:=Int.mul_le_mul_of_nonneg_right hp2 hq0
     omega
    omega
   clear hb3 HW2 HFs hq hq1 g1 g2 g3 g4 g5 g6
   go_wp2_with fail
   go_roundg (val 4294967296 hs+val 4294967296 ys).toNat
   case measure=>exact HM.out
   case rel=>exact ⟨_,_,_,_,_,_,rfl,rfl,rfl,HW3.out⟩
theorem inv_next {d i M M':Int} (h: ∃k,d*i=1+M*k) (c1 c2:Int) (e1:M*M=M'*c1) (e2:4294967296=M'*c2): ∃k,d*(i*((2-d*i)%4294967296)%4294967296)=1+M'*k:=by
 obtain ⟨k,hk⟩:=h
 have x1:(2-d*i)%4294967296=(2-d*i)-4294967296*((2-d*i)/4294967296):=by omega
 generalize (2-d*i)/4294967296=X at x1
 rw [x1]
 have x2:i*(2-d*i-4294967296*X)%4294967296=i*(2-d*i-4294967296*X)-4294967296*(i*(2-d*i-4294967296*X)/4294967296):=by omega
 generalize i*(2-d*i-4294967296*X)/4294967296=Y at x2
 rw [x2]
 refine ⟨-(c1*(k*k))-c2*(d*i*X+d*Y),?_⟩
 have e3:d*(i*(2-d*i-4294967296*X)-4294967296*Y)=(d*i)*(2-d*i)-4294967296*(d*i*X+d*Y):=by grind
 have e4:(d*i)*(2-d*i)=1-(M*M)*(k*k):=by rw [hk];grind
 rw [e3,e4,e1]
 have e5:4294967296*(d*i*X+d*Y)=M'*(c2*(d*i*X+d*Y)):=by rw [←Int.mul_assoc,←e2]
 rw [e5];grind
def InvS (d i r:Int):Prop:=(r=3∧ ∃k,d*i=1+8*k)∨(r=6∧ ∃k,d*i=1+64*k)∨(r=12∧ ∃k,d*i=1+4096*k)∨(r=24∧ ∃k,d*i=1+16777216*k)∨(r=48∧ ∃k,d*i=1+4294967296*k)
theorem inverse_any (d:Int) (w:World) (h0:0≤d) (h1:d<4294967296) (hd:d%2=1):
 Calls Tryz.prog 141 #[d] w fun e w'=> ∃i k:Int,e= .returned i∧0≤i∧i<4294967296∧d*i=1+4294967296*k∧w'=w:=by
 go_enter Tryz.func141,Tryz.ntmps141
 go_wp2_with fail
 go_loopw [3,4] (fun s3 s4 wr=> ∃i r:Int,s3= .int .u32 i∧s4= .int .i64 r∧wr=w∧0≤i∧i<4294967296∧Hid (InvS d i r)) (fun _ s4 _=>48-(intOf s4).toNat)
 case atStart=>exact ⟨d,3,rfl,rfl,rfl,h0,h1,.inl ⟨rfl,inv_start hd⟩⟩
 case round=>
  obtain ⟨i,r,rfl,rfl,rfl,i0,i1,HI⟩:=hrel
  rcases HI.out with ⟨rfl,hk⟩| ⟨rfl,hk⟩| ⟨rfl,hk⟩| ⟨rfl,hk⟩| ⟨rfl,hk⟩
  ·have HK:Hid (∃k,d*i=1+8*k):=hk
   clear hk HI
   go_wp2
   refine ⟨⟨_,6,rfl,rfl,trivial,Int.emod_nonneg _ (by decide),Int.emod_lt_of_pos _ (by decide),.inr (.inl ⟨rfl,inv_next HK.out 1 67108864 (by decide) (by decide)⟩)⟩,?_⟩
   simp [intOf]
  ·have HK:Hid (∃k,d*i=1+64*k):=hk
   clear hk HI
   go_wp2
   refine ⟨⟨_,12,rfl,rfl,trivial,Int.emod_nonneg _ (by decide),Int.emod_lt_of_pos _ (by decide),.inr (.inr (.inl ⟨rfl,inv_next HK.out 1 1048576 (by decide) (by decide)⟩))⟩,?_⟩
   simp [intOf]
  ·have HK:Hid (∃k,d*i=1+4096*k):=hk
   clear hk HI
   go_wp2
   refine ⟨⟨_,24,rfl,rfl,trivial,Int.emod_nonneg _ (by decide),Int.emod_lt_of_pos _ (by decide),.inr (.inr (.inr (.inl ⟨rfl,inv_next HK.out 1 256 (by decide) (by decide)⟩)))⟩,?_⟩
   simp [intOf]
  ·have HK:Hid (∃k,d*i=1+16777216*k):=hk
   clear hk HI
   go_wp2
   refine ⟨⟨_,48,rfl,rfl,trivial,Int.emod_nonneg _ (by decide),Int.emod_lt_of_pos _ (by decide),.inr (.inr (.inr (.inr ⟨rfl,inv_next HK.out 65536 1 (by decide) (by decide)⟩)))⟩,?_⟩
   simp [intOf]
  ·have HK:Hid (∃k,d*i=1+4294967296*k):=hk
   clear hk HI
   go_wp2
   go_ret
   obtain ⟨k,hk⟩:=HK.out
   exact ⟨i,k,rfl,i0,i1,hk,rfl⟩
theorem timesPlus_any (a:Option Addr) (p:Nat) (zs:List Int) (f d:Int) (w:World) (hn:zs.length≤100000) (hz:RowAt .u32 w a zs) (hdz:Dig 4294967296 zs) (hf0:0≤f) (hf1:f<4294967296) (hd0:0≤d) (hd1:d<4294967296):
 Calls Tryz.prog 142 #[.slice a zs.length p,f,d] w fun e w'=>MagOut w (f*val 4294967296 zs+d) (zs.length+1) e w':=by
 have hmk:=run_make_row' (P:=Tryz.prog) 152 22 (.int .u32 0) 4 Tryz.underlying152 Tryz.info22 rfl .i64 .i64 (zs.length+1) (by omega) (by omega)
 rw [show ((zs.length+1:Nat):Int)=(zs.length:Int)+1 by omega] at hmk
 go_enter Tryz.func142,Tryz.ntmps142
 go_wp2
 go_loopw [8,19] (fun cc i wr=> ∃(k:Nat) (c:Int) (out:List Int),k≤zs.length∧out.length=k∧i= .int .i64 k∧cc= .int .u64 c∧0≤c∧c≤4294967295∧Hid (carryD 4294967296 (mulsL f zs []) d=out++carryD 4294967296 (mulsL f (zs.drop k) []) c)∧Hid (carryO 4294967296 (mulsL f zs []) d=carryO 4294967296 (mulsL f (zs.drop k) []) c)∧
  Own .u32 wr w.heap.size 0 (out++List.replicate (zs.length+1-k) 0)∧Below w.heap.size w wr) (fun _ i _=>zs.length-(intOf i).toNat)
 case atStart=>exact ⟨0,d,[],Nat.zero_le _,rfl,rfl,rfl,hd0,by omega,rfl,rfl,by simpa using Own.made w (zs.length+1) _,bel0 _ _⟩
 case round=>
  obtain ⟨k,c,out,hk,hol,rfl,rfl,hc0,hc1,hD,hO,hown,hnx⟩:=hrel
  by_cases hlt:k<zs.length
  ·have hb1:=hdz.at (by decide) k
   obtain ⟨b,off,rfl,g1⟩:=row_cell hz hnx hlt
   obtain ⟨x,hx⟩: ∃x,x=zs.getD k 0:=⟨_,rfl⟩
   rw [←hx] at hb1 g1
   obtain ⟨hb10,hb11⟩:=hb1
   have g3:=hown.cell k (by simp;omega)
   have g4:=hown.free k (by simp;omega)
   rw [Nat.zero_add] at g3 g4
   obtain ⟨hxy0,hxy1⟩:=mul_bound hb10 hb11 hf0 hf1
   simp only [Int.reduceSub,Int.reduceMul] at hxy1
   have hcb:=carry_bound (B:=4294967296) (s:=c+x*f) (by decide) (by omega) (by simp only [Int.reduceSub,Int.reduceMul];omega)
   have hst:=mul_step (B:=4294967296) (x:=f) (c:=c) (s:=c+x*f) (ms:=[]) hlt (by rw [←hx,Int.mul_comm f x];simp;omega)
   simp only [List.drop_nil] at hst
   have HD:Hid (carryD 4294967296 (mulsL f zs []) d=(out++[(c+x*f)%4294967296])++carryD 4294967296 (mulsL f (zs.drop (k+1)) []) ((c+x*f)/4294967296)):=by unfold Hid;rw [hD.out,hst.1];simp
   have HO:Hid (carryO 4294967296 (mulsL f zs []) d=carryO 4294967296 (mulsL f (zs.drop (k+1)) []) ((c+x*f)/4294967296)):=by unfold Hid;rw [hO.out,hst.2]
   have hs:=hown.set k ((c+x*f)%4294967296) (by simp;omega)
   rw [Nat.zero_add,own_step hol hlt] at hs
   have HS:Hid (Own .u32 (wr.setCell ⟨w.heap.size,k,none⟩ (.int .u32 ((c+x*f)%4294967296))) w.heap.size 0 ((out++[(c+x*f)%4294967296])++List.replicate (zs.length+1-(k+1)) 0)):=hs
   have HB:Hid (Below w.heap.size w (wr.setCell ⟨w.heap.size,k,none⟩ (.int .u32 ((c+x*f)%4294967296)))):=hnx.setCell (Nat.le_refl _) _
   obtain ⟨hcb0,hcb1⟩:=hcb
   have HCB:Hid (0≤(c+x*f)/4294967296∧(c+x*f)/4294967296≤4294967295):=⟨hcb0,by omega⟩
   clear hcb0 hcb1 hst hs hx hD hO hown hnx hz hdz
   go_wp2
   go_roundw
   case rel=>exact ⟨k+1,(c+x*f)/4294967296,out++[(c+x*f)%4294967296],by omega,by simp;omega,by go_num,rfl,HCB.out.1,HCB.out.2,HD,HO,HS.out,HB.out⟩
   case measure=>simp [intOf];omega
  ·have hkn:k=zs.length:=by omega
   subst hkn
   have g3:=hown.cell zs.length (by simp;omega)
   have g4:=hown.free zs.length (by simp;omega)
   rw [Nat.zero_add] at g3 g4
   have hs:=hown.set zs.length c (by simp;omega)
   rw [Nat.zero_add,own_last hol] at hs
   have hDD:carryD 4294967296 (mulsL f zs []) d=out:=by
    rw [hD.out,List.drop_eq_nil_of_le (Nat.le_refl _)];simp [mulsL,carryD]
   have hOO:carryO 4294967296 (mulsL f zs []) d=c:=by
    rw [hO.out,List.drop_eq_nil_of_le (Nat.le_refl _)];simp [mulsL,carryO]
   have hV:val 4294967296 (out++[c])=f*val 4294967296 zs+d:=by rw [←hDD,←hOO,val_carryDO,val_muls];simp [val]
   have hG:Dig 4294967296 (out++[c]):=by
    refine Dig.append ?_ (Dig.cons hc0 (by omega) (Dig.nil _))
    rw [←hDD]
    exact dig_carryD (by decide) _ _
   have HV:Hid (val 4294967296 (out++[c])=f*val 4294967296 zs+d):=hV
   have HG:Hid (Dig 4294967296 (out++[c])):=hG
   have HL:Hid (out.length=zs.length):=hol
   have HS:Hid (Own .u32 (wr.setCell ⟨w.heap.size,zs.length,none⟩ c) w.heap.size 0 (out++[c])):=hs
   have HB:Hid (Below w.heap.size w (wr.setCell ⟨w.heap.size,zs.length,none⟩ c)):=hnx.setCell (Nat.le_refl _) _
   clear hs hV hG hDD hOO hD hO hown hnx hz hdz hol
   go_wp2_with fail
   have e1:zs.length+1=(out++[c]).length:=by simp [HL.out]
   rw [e1]
   refine (trimmed_any _ _ (out++[c]) _ w.heap.size (by rw [←e1];omega) (by rw [←e1];unfold maxLen;omega) (Nat.le_refl _) (fun h=>by cases h) (HS.out.new (Nat.le_refl _))).mono ?_
   rintro e w1 ⟨a2,c2,rfl,hf2,hm2,hr2,hw⟩
   subst hw
   have HM:Hid (MagOut w (f*val 4294967296 zs+d) (zs.length+1) (.returned (.slice a2 (trimL (out++[c])).length c2)) (wr.setCell ⟨w.heap.size,zs.length,none⟩ c)):=by
    refine ⟨a2,c2,trimL (out++[c]),rfl,hf2,hm2,canon_trim HG.out,by rw [val_trim,HV.out],?_,hr2,HB.out⟩
    have:=trim_le (out++[c])
    rw [←e1] at this
    omega
   clear hf2 hm2 hr2 HG HV HB HS e1
   go_wp2
   go_ret
   exact HM.out
theorem app2 {k:IntKind} {X:Int} {bytes:Nat} {w0:World} {ops:Array Oper} {rest:List Oper} {o:Oper} {a:Act} {Q:Exit→Act→World→Prop} (hgd:o.guard=none) (s x:Operand) (t:TypeId)
 (ho:o.op= .call {callee:= .builtin .append,args:=#[s,x],argTypes:=#[t,t]})
 (base:Nat) (e:TypeId) (ht:Tryz.prog.underlying t=some (.slice e)) (hinfo:(Tryz.prog.info? e).map (fun i=>(i.zero,i.size,i.bytes))=some (some (.int k 0),1,bytes)) (hby:bytes≤8)
 (sv:Value) (ys:List Int) (hs:a.eval s=sv) (hx:a.eval x= .slice (some ⟨w0.heap.size,0,none⟩) 1 1) (hown:w0.ownsRow base e 1 sv ys.length (vals k ys)) (hn:ys.length≤8388608) (hbase:base≤w0.heap.size)
 (h: ∀a' n' c' w',w'.ownsRow base e 1 (.slice a' n' c') (ys++[X]).length (vals k (ys++[X]))→Below base w0 w'→w0.heap.size<w'.heap.size→(∀j,j<w0.heap.size→sv.ownBlock≠some j→w'.heap[j]? =w0.heap[j]?)→((Value.slice a' n' c').ownBlock=sv.ownBlock∨ ∃j,(Value.slice a' n' c').ownBlock=some j∧w0.heap.size≤j)→wpList Tryz.prog ops Q rest (a.put o.dst (.slice a' n' c')) w'):
 wpList Tryz.prog ops Q (o::rest) a (w0.alloc (.cells #[.int k X] e)):=by
 obtain ⟨i0,hi,hz0,hz1,hz2⟩:=info_parts hinfo
 have hb1:(ys.length+1)*bytes≤(ys.length+1)*8:=Nat.mul_le_mul_left _ hby
 refine wpList_append_own_at _ hgd s x t ho base e i0 (.int k 0) 1 bytes ht hi hz0 hz1 hz2 rfl (by decide) sv ys.length (vals k ys) hs (hown.alloc _) ⟨w0.heap.size,0,none⟩ 1 1 [.int k X] hx rfl ?_ ?_ ?_ ?_ ?_ ?_
 ·intro j u hj
  match j,hj with
  |0,hj=>simp at hj;subst hj;simp [Addr.add]
 ·intro u hu;simp at hu;subst hu;rfl
 ·unfold maxLen;omega
 ·omega
 ·simp;omega
 ·intro v' w' hown' hgrow _ hwhere
  obtain ⟨a',n',c',rfl⟩: ∃a' n' c',v'= .slice a' n' c':=by
   rcases hown'.2 with ⟨h1,_⟩| ⟨g,cap,cur,h1,_⟩
   ·exact ⟨_,_,_,h1⟩
   ·exact ⟨_,_,_,h1⟩
  have hB:Below base w0 w':=by
   have hb0:Below base w0 (w0.alloc (.cells #[.int k X] e)):=(Below.refl _ _).alloc hbase _
   refine hb0.grown hgrow (by simp;omega) ?_
   intro kk hk
   rcases hown.2 with ⟨h1,_⟩| ⟨g,cap,cur,h1,h2,_⟩
   ·rw [h1] at hk;simp [Value.ownBlock] at hk
   ·rw [h1] at hk;simp [Value.ownBlock] at hk;omega
  have hS:w0.heap.size<w'.heap.size:=by
   have:=hgrow.size
   simp at this
   omega
  refine h a' n' c' w' ?_ hB hS ?_ ?_
  ·rw [vals_snoc] at hown'
   simpa using hown'
  ·intro j hj hne
   rw [hgrow.block j (by simp;omega) (fun e=>hne e.symm)]
   exact (bel0 w0 (.cells #[.int k X] e)).block j hj
  ·rcases hwhere with hw|hw
   ·exact .inl hw
   ·exact .inr ⟨_,hw,by simp⟩
theorem infoL:(Tryz.prog.info? 22).map (fun i=>(i.zero,i.size,i.bytes))=some (some (.int .u32 0),1,4):=by kernel_rfl
theorem own_blk {w:World} {base:Nat} {e:TypeId} {v:Value} {n:Nat} {xs:List Value} (h:w.ownsRow base e 1 v n xs) {k:Nat} (q:v.ownBlock=some k):base≤k∧k<w.heap.size:=by
 rcases h.2 with ⟨h1,_⟩| ⟨g,cap,cur,h1,h2,h3,_⟩
 ·rw [h1] at q;simp [Value.ownBlock] at q
 ·rw [h1] at q
  simp [Value.ownBlock] at q
  subst q
  refine ⟨h2,?_⟩
  rcases Nat.lt_or_ge g w.heap.size with hp|hp
  ·exact hp
  ·rw [Array.getElem?_eq_none hp] at h3;cases h3
theorem own_laterL {w w':World} {base:Nat} {e:TypeId} {v:Value} {n:Nat} {xs:List Value} (h:w.ownsRow base e 1 v n xs) (hb:Below w.heap.size w w'):w'.ownsRow base e 1 v n xs:=by
 refine ⟨h.1,?_⟩
 rcases h.2 with h1| ⟨g,cap,cur,h1,h2,h3,h4⟩
 ·exact .inl h1
 ·have hg:g<w.heap.size:=by
   by_cases hp:g<w.heap.size
   ·exact hp
   ·rw [Array.getElem?_eq_none (by omega)] at h3;cases h3
  exact .inr ⟨g,cap,cur,h1,h2,(hb.block g hg).trans h3,h4⟩
theorem row_keep {k:IntKind} {w w':World} {a:Option Addr} {zs:List Int} (h:RowAt k w a zs) (hs:w.heap.size≤w'.heap.size) (hk: ∀b off,a=some ⟨b,off,none⟩→b<w.heap.size→w'.heap[b]? =w.heap[b]?):RowAt k w' a zs:=by
 rcases h with h| ⟨b,off,rfl,hb,hc⟩
 ·exact .inl h
 ·refine .inr ⟨b,off,rfl,by omega,fun j hj=> ?_⟩
  have:=hc j hj
  simp only [World.cell?] at this⊢
  rw [hk b off rfl hb]
  exact this
structure OvS (w:World) (n:Nat) (Q:Int) (a:Option Addr) (c:Nat) (zs:List Int) (D:Int) (qv:Value) (qs:List Int) (R:Int) (W:World):Prop where
 r1:RowAt .u32 W a zs
 k1:Canon 4294967296 zs
 p1:zs.length≤c∧c≤maxLen
 n1:zs.length≤n
 ap:zs=[]∨ ∀b off,a=some ⟨b,off,none⟩→qv.ownBlock≠some b
 own:W.ownsRow w.heap.size 22 1 qv qs.length (vals .u32 qs)
 dig:Dig 4294967296 qs
 r0:0≤R
 m:val 4294967296 zs=D*R
 q:Q=val 4294967296 qs+4294967296^qs.length*R
 can:R=0→Canon 4294967296 qs
 bel:Below w.heap.size w W
theorem OvS.len {w:World} {n:Nat} {Q:Int} {a:Option Addr} {c:Nat} {zs:List Int} {D:Int} {qv:Value} {qs:List Int} {R:Int} {W:World} (h:OvS w n Q a c zs D qv qs R W) (hR:0<R) (hQ:Q<4294967296^n):qs.length+1≤n:=by
 have hd:Dig 4294967296 (qs++[1]):=h.dig.append (Dig.cons (by decide) (by decide) (Dig.nil _))
 have hc:Canon 4294967296 (qs++[1]):=canon_last hd (by simp) (by simp)
 have hv:val 4294967296 (qs++[1])≤Q:=by
  rw [val_append,h.q]
  have hp:(0:Int)<4294967296^qs.length:=Int.pow_pos (by decide)
  have h1:(4294967296:Int)^qs.length*1≤4294967296^qs.length*R:=Int.mul_le_mul_of_nonneg_left (by omega) (by omega)
  simp only [val]
  omega
 have:=len_of_lt (B:=4294967296) (by decide) hc (Int.lt_of_le_of_lt hv hQ)
 simpa using this
theorem ov_limb {D y i k R z:Int} {yt zt:Int} (hD:D=y+4294967296*yt) (hi:y*i=1+4294967296*k) (hz:z+4294967296*zt=D*R):z*i%4294967296=R%4294967296:=by
 have h1:=limb_of (B:=4294967296) (d:=D) (i:=i) (Q:=R) (k:=k+yt*i) (by rw [hD];grind)
 rw [←h1,←hz]
 have:(z+4294967296*zt)*i=z*i+4294967296*(zt*i):=by grind
 rw [this,Int.add_mul_emod_self_left]
theorem over_any (a a':Option Addr) (c c':Nat) (zs ys:List Int) (w:World) (n:Nat) (Q:Int) (hn:n≤30000) (hy:ys.length≤n) (hky:Canon 4294967296 ys) (hry:RowAt .u32 w a' ys) (hod:val 4294967296 ys%2=1) (hQ:Q<4294967296^n) (hO:OvS w n Q a c zs (val 4294967296 ys) () [] Q w):
 Calls Tryz.prog 93 #[.slice a zs.length c,.slice a' ys.length c'] w fun e w'=>MagOut w Q n e w':=by
 obtain ⟨y0,yt,rfl⟩: ∃y0 yt,ys=y0::yt:=by
  cases ys with
  |nil=>simp [val] at hod
  |cons y0 yt=>exact ⟨y0,yt,rfl⟩
 have hd0:=hky.1 y0 (by simp)
 have hDv:val 4294967296 (y0::yt)=y0+4294967296*val 4294967296 yt:=rfl
 have hy2:y0%2=1:=by omega
 have hD0:0<val 4294967296 (y0::yt):=val_pos (by decide) hky (by simp)
 obtain ⟨b',o',rfl,hb',hc'⟩: ∃b' o',a'=some ⟨b',o',none⟩∧b'<w.heap.size∧w.cell? ⟨b',o',none⟩=some (.int .u32 y0):=by
  rcases hry with h| ⟨b,off,rfl,hb,hc⟩
  ·cases h
  ·exact ⟨b,off,rfl,hb,by simpa using hc 0 (by simp)⟩
 obtain ⟨D,hD⟩: ∃D,D=val 4294967296 (y0::yt):=⟨_,rfl⟩
 rw [←hD] at hO hD0 hDv
 have HD:Hid (D=val 4294967296 (y0::yt)∧D=y0+4294967296*val 4294967296 yt∧0<D):=⟨hD,hDv,hD0⟩
 have HY:Hid (Canon 4294967296 (y0::yt)∧ ∀w',Below w.heap.size w w'→RowAt .u32 w' (some ⟨b',o',none⟩) (y0::yt)):=⟨hky,fun w' hb=>hry.later hb⟩
 have HO:Hid (OvS w n Q a c zs D () [] Q w):=hO
 have HQ:Hid (Q<4294967296^n):=hQ
 clear hO hD hDv hD0 hky hry hQ hod
 go_enter Tryz.func93,Tryz.ntmps93
 go_wp2_with fail
 refine (inverse_any y0 _ hd0.1 hd0.2 hy2).mono ?_
 rintro e w1 ⟨i,k,rfl,i0,i1,hik,rfl⟩
 have HI:Hid (y0*i=1+4294967296*k):=hik
 clear hik hy2 hc'
 go_wp2_with fail
 go_loopg [0,6,7] Q.toNat (fun g s0 s6 _ wr=> ∃(a:Option Addr) (c:Nat) (zs qs:List Int) (R:Int),s0= .slice a zs.length c∧g=R.toNat∧Hid (OvS w1 n Q a c zs D s6 qs R wr))
 case atStart=>exact ⟨_,_,_,[],_,rfl,rfl,HO.out⟩
 case round=>
  clear HO zs a c
  obtain ⟨a,c,zs,qs,R,rfl,rfl,HR⟩:=hrel
  cases zs with
  |nil=>
   have hR0:R=0:=by
    have h1:=HR.out.m
    simp only [val] at h1
    rcases Int.mul_eq_zero.mp h1.symm with h|h
    ·have:=HD.out.2.2;omega
    ·exact h
   obtain ⟨aq,cq,hv,hcm,hsl,hrn⟩:=own_row HR.out.own
   subst hv
   have HM:Hid (MagOut w1 Q n (.returned (.slice aq qs.length cq)) wr):=by
    refine ⟨aq,cq,qs,rfl,hsl.fits,hcm,HR.out.can hR0,?_,?_,hrn,HR.out.bel⟩
    ·have:=HR.out.q
     rw [hR0] at this
     omega
    ·refine len_of_lt (B:=4294967296) (by decide) (HR.out.can hR0) ?_
     have:=HR.out.q
     rw [hR0,Int.mul_zero,Int.add_zero] at this
     rw [←this]
     exact HQ.out
   clear hsl hrn hcm
   go_wp2
   go_ret
   exact HM.out
  |cons z0 zt=>
   obtain ⟨b,o,rfl,hc0⟩: ∃b o,a=some ⟨b,o,none⟩∧wr.cell? ⟨b,o,none⟩=some ↑z0:=by
    rcases HR.out.r1 with h| ⟨b,off,rfl,hb,hc⟩
    ·cases h
    ·exact ⟨b,off,rfl,by simpa using hc 0 (by simp)⟩
   have HRp:Hid (0<R):=by
    unfold Hid
    have h1:=HR.out.m
    have h2:=val_pos (B:=4294967296) (by decide) HR.out.k1 (by simp)
    rcases Int.lt_or_eq_of_le HR.out.r0 with h|h
    ·exact h
    ·rw [←h,Int.mul_zero] at h1;omega
   have HX:Hid (z0*i%4294967296=R%4294967296):=ov_limb HD.out.2.1 HI.out HR.out.m
   have hql:qs.length≤8388608:=by have:=HR.out.len HRp.out HQ.out;omega
   go_wp2_with (at_builtin;refine app2 (k:= .u32) (X:=z0*i%4294967296) (bytes:=4) rfl (.tmp 20) (.tmp 22) 152 rfl w1.heap.size 22 Tryz.underlying152 infoL (by decide) _ qs rfl rfl HR.out.own hql HR.out.bel.size ?_;intro a1 n1 c1 w2 hown1 hbe1 hs1 hkeep hblk)
   obtain ⟨X,hX⟩: ∃X,X=z0*i%4294967296:=⟨_,rfl⟩
   rw [←hX] at hown1 HX⊢
   have X0:0≤X:=by rw [hX];exact Int.emod_nonneg _ (by decide)
   have X1:X<4294967296:=by rw [hX];exact Int.emod_lt_of_pos _ (by decide)
   have HB2:Hid (Below w1.heap.size w1 w2):=HR.out.bel.trans hbe1
   have HM2:Hid (RowAt .u32 w2 (some ⟨b,o,none⟩) (z0::zt)):=row_keep HR.out.r1 (by omega) fun b1 off e hb=>by
    refine hkeep b1 hb ?_
    rcases HR.out.ap with h|h
    ·cases h
    ·exact h b1 off e
   have HOW:Hid (w2.ownsRow w1.heap.size 22 1 (.slice a1 n1 c1) (qs++[X]).length (vals .u32 (qs++[X]))):=hown1
   have HFX:Hid (0≤D*R-X*D∧D*R-X*D=D*(R/4294967296)*4294967296∧R/4294967296<R∧0≤R/4294967296∧R=X+4294967296*(R/4294967296)):=by
    unfold Hid
    have h1:=HX.out
    have h2:=HRp.out
    have h3:=HD.out.2.2
    have h4:=rest_limb (B:=4294967296) (d:=D) (Q:=R)
    rw [←h1] at h4
    have h5:0≤R/4294967296:=by omega
    have h6:=Int.mul_nonneg (Int.mul_nonneg (Int.le_of_lt h3) h5) (show (0:Int)≤4294967296 by decide)
    exact ⟨by omega,h4,by omega,h5,by omega⟩
   clear hown1 hbe1 hs1 hkeep hblk hX hc0
   refine (timesPlus_any (some ⟨b',o',none⟩) c' (y0::yt) X 0 _ (by omega) (HY.out.2 _ HB2.out) HY.out.1.1 X0 X1 (by decide) (by decide)).mono ?_
   rintro e w3 ⟨a3,c3,fs,rfl,f1,f2,f3,f4,f5,f6,hb3⟩
   have HF:Hid (fs.length≤c3∧c3≤maxLen∧Canon 4294967296 fs∧val 4294967296 fs=X*D∧RowAt .u32 w3 a3 fs):=⟨f1,f2,f3,by rw [f4,HD.out.1];omega,f6.row⟩
   have HB3:Hid (Below w2.heap.size w2 w3):=hb3
   clear f1 f2 f3 f4 f5 f6 hb3
   have hle:fs.length≤(z0::zt).length:=len_le_of_val (by decide) HF.out.2.2.1 HR.out.k1 (by rw [HF.out.2.2.2.1,HR.out.m];have:=HFX.out.1;omega)
   go_wp2_with fail
   refine (minus_any (some ⟨b,o,none⟩) a3 c c3 (z0::zt) fs _ (by have:=HR.out.n1;omega) (HM2.out.later HB3.out) HF.out.2.2.2.2 HR.out.k1.1 HF.out.2.2.1.1 hle (by rw [HF.out.2.2.2.1,HR.out.m];have:=HFX.out.1;omega)).mono ?_
   rintro e w4 ⟨a4,c4,gs,rfl,g1,g2,g3,g4,g5,g6,hb4⟩
   have HG:Hid (Canon 4294967296 gs∧val 4294967296 gs=D*(R/4294967296)*4294967296∧gs.length≤n∧RowAt .u32 w4 a4 gs):=⟨g3,by rw [g4,HF.out.2.2.2.1,HR.out.m];exact HFX.out.2.1,Nat.le_trans g5 HR.out.n1,g6.row⟩
   have HB4:Hid (Below w2.heap.size w2 w4):=HB3.out.trans (hb4.mono HB3.out.size)
   clear g3 g4 g5 g6 hb4 hle HF HB3
   go_wp2_with fail
   refine (downI_any a4 c4 gs 32 _ (by have:=HG.out.2.2.1;omega) g1 g2 (by decide) (by decide) HG.out.2.2.2 HG.out.1).mono ?_
   rintro e w5 ⟨a5,c5,hs,rfl,k1,k2,k3,k4,k5,k6,hb5⟩
   have HS:Hid (OvS w1 n Q a5 c5 hs D (.slice a1 n1 c1) (qs++[X]) (R/4294967296) w5):=by
    have hb25:Below w2.heap.size w2 w5:=HB4.out.trans (hb5.mono HB4.out.size)
    have hdX:Dig 4294967296 (qs++[X]):=HR.out.dig.append (Dig.cons X0 X1 (Dig.nil _))
    refine ⟨k6.row,k3,⟨k1,k2⟩,Nat.le_trans k5 HG.out.2.2.1,?_,own_laterL HOW.out hb25,hdX,HFX.out.2.2.2.1,?_,?_,?_,HB2.out.trans (hb25.mono HB2.out.size)⟩
    ·rcases k6 with h| ⟨b1,off1,rfl,hge,_⟩
     ·exact .inl h
     ·refine .inr fun b2 off2 e q=> ?_
      have h1:=(own_blk HOW.out q).2
      have h2:=HB4.out.size
      have h3:=congrArg (fun a:Option Addr=>a.map Addr.block) e
      simp at h3
      omega
    ·rw [k4,HG.out.2.1]
     have:((2:Int)^(32:Int).toNat)=4294967296:=by decide
     rw [this]
     exact Int.mul_ediv_cancel _ (by decide)
    ·rw [val_append,HR.out.q,List.length_append,List.length_singleton,Int.pow_succ]
     simp only [val,Int.mul_zero,Int.add_zero]
     have h1:=HFX.out.2.2.2.2
     rw [show (4294967296:Int)^qs.length*R=4294967296^qs.length*(X+4294967296*(R/4294967296)) by rw [←h1]]
     grind
    ·intro h0
     refine canon_last hdX (by simp) ?_
     have h1:=HFX.out.2.2.2.2
     have h2:=HRp.out
     rw [h0] at h1
     simp
     omega
   have HME:Hid ((R/4294967296).toNat<R.toNat):=by
    unfold Hid
    have h1:=HFX.out.2.2.1
    have h2:=HRp.out
    omega
   clear k1 k2 k3 k4 k5 k6 hb5 HB4 HG HOW HB2 HM2 HR g1 g2
   go_wp2_with fail
   go_roundg (R/4294967296).toNat
   case measure=>exact HME.out
   case rel=>exact ⟨_,_,_,_,_,rfl,rfl,HS.out⟩
end Go.Proofs.YtfieffpobgcpmaaGreatDoor
