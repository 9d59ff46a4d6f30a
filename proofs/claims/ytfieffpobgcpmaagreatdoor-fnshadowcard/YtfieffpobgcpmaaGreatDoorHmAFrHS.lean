import Derived.Test.YtfieffpobgcpmaaGreatDoorPsEPsFPtAS
import Derived.Test.YtfieffpobgcpmaaGreatDoorFrBFrCFrDFwAS
set_option maxRecDepth 100000
set_option maxHeartbeats 32000000
namespace Go.Proofs.YtfieffpobgcpmaaGreatDoor
open Go.RowKit
variable {a b c x d f g:Int} {P:Int->Int->Prop} {A B C O D:V3}
def at3 (O D A:V3) (p q:Int):V3:=⟨(O.x-A.x)*q+D.x*p,(O.y-A.y)*q+D.y*p,(O.z-A.z)*q+D.z*p⟩
theorem ωh (n e y D:V3) (h1:n.dot e=0) (h2:n.dot y=0):n.dot n*D.dot (e.cross y)=n.dot (e.cross y)*n.dot D:=by
 have h:n.dot n*D.dot (e.cross y)-n.dot (e.cross y)*n.dot D=n.dot y*e.dot (n.cross D)-n.dot e*y.dot (n.cross D):=by
  simp only [V3.dot,V3.cross];grind
 rw [h1,h2] at h;omega
theorem χN (n e y:V3):(n.cross e).dot y=n.dot (e.cross y):=by
 simp only [V3.dot,V3.cross];grind
theorem τ7 (O D A B:V3) (p q:Int):D.dot ((B.sub A).cross (at3 O D A p q))=q*D.dot ((A.sub O).cross (B.sub O)):=by
 simp only [V3.dot,V3.cross,V3.sub,at3];grind
theorem ηu (A B C:V3):(nrm A B C).dot (B.sub A)=0:=by
 simp only [V3.dot,V3.cross,V3.sub,nrm];grind
theorem ηv (A B C:V3):(nrm A B C).dot (C.sub B)=0:=by
 simp only [V3.dot,V3.cross,V3.sub,nrm];grind
theorem τB (A B C:V3):(nrm A B C).dot (A.sub C)=0:=by
 simp only [V3.dot,V3.cross,V3.sub,nrm];grind
theorem at_b (n O D A B:V3) (p q:Int):n.dot (at3 O D B p q)=n.dot (at3 O D A p q)-q*n.dot (B.sub A):=by
 simp only [V3.dot,V3.sub,at3];grind
theorem ω9 (n O D A:V3) (p q:Int):n.dot (at3 O D A p q)=n.dot (O.sub A)*q+p*n.dot D:=by
 simp only [V3.dot,V3.sub,at3];grind
theorem inner_sum (A B C O D n:V3) (p q:Int):n.dot ((B.sub A).cross (at3 O D A p q))+n.dot ((C.sub B).cross (at3 O D B p q))+n.dot ((A.sub C).cross (at3 O D C p q))=q*n.dot (nrm A B C):=by
 simp only [V3.dot,V3.cross,V3.sub,at3,nrm];grind
theorem ηw (n:V3):0<=n.dot n:=by
 unfold V3.dot
 have h: ∀x:Int,0<=x*x:=fun x=>by
  rcases Int.lt_or_le x 0 with h|h
  ·exact Int.le_of_lt (Int.mul_pos_of_neg_of_neg h h)
  ·exact Int.mul_nonneg h h
 have:=h n.x;have:=h n.y;have:=h n.z;omega
theorem ωi (n:V3) (h:n.dot n=0):n.x=0∧n.y=0∧n.z=0:=by
 unfold V3.dot at h
 have hp: ∀x:Int,0<=x*x:=fun x=>by
  rcases Int.lt_or_le x 0 with h|h
  ·exact Int.le_of_lt (Int.mul_pos_of_neg_of_neg h h)
  ·exact Int.mul_nonneg h h
 have hx:=hp n.x;have hy:=hp n.y;have hz:=hp n.z
 refine ⟨?_,?_,?_⟩
 ·have:n.x*n.x=0:=by omega
  rcases Int.mul_eq_zero.mp this with h|h<;>exact h
 ·have:n.y*n.y=0:=by omega
  rcases Int.mul_eq_zero.mp this with h|h<;>exact h
 ·have:n.z*n.z=0:=by omega
  rcases Int.mul_eq_zero.mp this with h|h<;>exact h
def η6 (A B C O D:V3) (p q:Int):Prop:=
 0<=p∧(nrm A B C).dot (O.sub A)*q+p*(nrm A B C).dot D=0∧
 0<=((nrm A B C).cross (B.sub A)).dot (O.sub A)*q+p*((nrm A B C).cross (B.sub A)).dot D∧
 0<=((nrm A B C).cross (C.sub B)).dot (O.sub B)*q+p*((nrm A B C).cross (C.sub B)).dot D∧
 0<=((nrm A B C).cross (A.sub C)).dot (O.sub C)*q+p*((nrm A B C).cross (A.sub C)).dot D
theorem ψO (ha:0<a) (h:a*b=c):sgn b=sgn c:=by
 rcases sgn_cases b with ⟨h1,e⟩| ⟨h1,e⟩| ⟨h1,e⟩<;>rcases sgn_cases c with ⟨h2,e'⟩| ⟨h2,e'⟩| ⟨h2,e'⟩<;>rw [e,e']
 ·exact absurd h (by have:=Int.mul_neg_of_pos_of_neg ha h1;omega)
 ·exact absurd h (by have:=Int.mul_neg_of_pos_of_neg ha h1;omega)
 ·exact absurd h (by rw [h1];simp;omega)
 ·exact absurd h (by rw [h1];simp;omega)
 ·exact absurd h (by have:=Int.mul_pos ha h1;omega)
 ·exact absurd h (by have:=Int.mul_pos ha h1;omega)
theorem inner_turn (n A B O D:V3) (p q:Int) (hq:0<q) (hnn:0<n.dot n) (h1:n.dot (B.sub A)=0) (h2:n.dot (at3 O D A p q)=0):
 sgn (D.dot ((A.sub O).cross (B.sub O)))=sgn (n.dot ((B.sub A).cross (at3 O D A p q))*n.dot D):=by
 have h:=ωh n (B.sub A) (at3 O D A p q) D h1 h2
 rw [τ7] at h
 refine ψO (a:=n.dot n*q) (Int.mul_pos hnn hq) ?_
 rw [<-h];grind
theorem φw:0<=sgn x↔0<=x:=by
 rcases sgn_cases x with ⟨h,e⟩| ⟨h,e⟩| ⟨h,e⟩<;>rw [e]<;>omega
theorem χO:sgn x<=0↔x<=0:=by
 rcases sgn_cases x with ⟨h,e⟩| ⟨h,e⟩| ⟨h,e⟩<;>rw [e]<;>omega
theorem ψk (hc:0<c):sgn (x*c)=sgn x:=(ψO (a:=c) (b:=x) hc (Int.mul_comm _ _)).symm
theorem ψl (hc:c<0):sgn (x*c)= -sgn x:=by
 have:sgn (x*c)=sgn (-x):=(ψO (a:= -c) (b:= -x) (by omega) (by rw [Int.neg_mul_neg,Int.mul_comm])).symm
 rw [this]
 rcases sgn_cases x with ⟨h,e⟩| ⟨h,e⟩| ⟨h,e⟩<;>rcases sgn_cases (-x) with ⟨h',e'⟩| ⟨h',e'⟩| ⟨h',e'⟩<;>rw [e,e']<;>omega
theorem inner_all (A B C O D:V3) (p q:Int) (hq:0<q) (hD:(nrm A B C).dot D≠0) (h2:(nrm A B C).dot (at3 O D A p q)=0):
 (0<=(nrm A B C).dot ((B.sub A).cross (at3 O D A p q))∧0<=(nrm A B C).dot ((C.sub B).cross (at3 O D B p q))∧0<=(nrm A B C).dot ((A.sub C).cross (at3 O D C p q)))
 ↔(0<=sgn (D.dot ((A.sub O).cross (B.sub O)))∧0<=sgn (D.dot ((B.sub O).cross (C.sub O)))∧0<=sgn (D.dot ((C.sub O).cross (A.sub O))))
  ∨(sgn (D.dot ((A.sub O).cross (B.sub O)))<=0∧sgn (D.dot ((B.sub O).cross (C.sub O)))<=0∧sgn (D.dot ((C.sub O).cross (A.sub O)))<=0):=by
 have hnn:0<(nrm A B C).dot (nrm A B C):=by
  have:=ηw (nrm A B C)
  rcases Int.lt_or_eq_of_le this with h|h
  ·exact h
  ·obtain ⟨e1,e2,e3⟩:=ωi _ h.symm
   exact absurd (by unfold V3.dot;rw [e1,e2,e3];simp) hD
 have hB:(nrm A B C).dot (at3 O D B p q)=0:=by rw [at_b _ O D A B,h2,ηu];simp
 have hC:(nrm A B C).dot (at3 O D C p q)=0:=by rw [at_b _ O D B C,hB,ηv];simp
 have s0:=inner_turn (nrm A B C) A B O D p q hq hnn (ηu A B C) h2
 have s1:=inner_turn (nrm A B C) B C O D p q hq hnn (ηv A B C) hB
 have s2:=inner_turn (nrm A B C) C A O D p q hq hnn (τB A B C) hC
 have hs:=inner_sum A B C O D (nrm A B C) p q
 have hp:=Int.mul_pos hq hnn
 rw [s0,s1,s2]
 generalize (nrm A B C).dot ((B.sub A).cross (at3 O D A p q))=x at*
 generalize (nrm A B C).dot ((C.sub B).cross (at3 O D B p q))=y at*
 generalize (nrm A B C).dot ((A.sub C).cross (at3 O D C p q))=z at*
 rcases Int.lt_or_lt_of_ne hD with hc|hc
 ·rw [ψl hc,ψl hc,ψl hc]
  have a1:=@φw x;have a2:=@φw y;have a3:=@φw z
  have b1:=@χO x;have b2:=@χO y;have b3:=@χO z
  constructor
  ·rintro ⟨h1,h2,h3⟩;right;refine ⟨?_,?_,?_⟩<;>omega
  ·rintro (⟨h1,h2,h3⟩| ⟨h1,h2,h3⟩)
   ·omega
   ·refine ⟨?_,?_,?_⟩<;>omega
 ·rw [ψk hc,ψk hc,ψk hc]
  have a1:=@φw x;have a2:=@φw y;have a3:=@φw z
  have b1:=@χO x;have b2:=@χO y;have b3:=@χO z
  constructor
  ·rintro ⟨h1,h2,h3⟩;left;refine ⟨?_,?_,?_⟩<;>omega
  ·rintro (⟨h1,h2,h3⟩| ⟨h1,h2,h3⟩)
   ·refine ⟨?_,?_,?_⟩<;>omega
   ·omega
theorem ξu {e:Int} (hb:0<=b) (hd:0<d) (hf:0<=f) (h1:a*d<=c*b) (h2:c*f<=e*d):a*f<=e*b:=by
 have h3:a*d*f<=c*b*f:=Int.mul_le_mul_of_nonneg_right h1 hf
 have h4:c*f*b<=e*d*b:=Int.mul_le_mul_of_nonneg_right h2 hb
 have h5:d*(a*f)<=d*(e*b):=by
  have e1:d*(a*f)=a*d*f:=by grind
  have e2:d*(e*b)=e*d*b:=by grind
  have e3:c*b*f=c*f*b:=by grind
  rw [e1,e2];omega
 exact Int.le_of_mul_le_mul_left h5 hd
structure ξg (P:Int->Int->Prop) (a b c d:Int):Prop where
 hb:0<b
 hd:0<d∨d=0∧0<c
 le:a*d<=c*b
 is: ∀p q,0<q->(P p q↔a*q<=p*b∧p*d<=c*q)
def ζ5 (P:Int->Int->Prop):Prop:= ∀p q,0<q-> ¬P p q
theorem ξg.d0 (h:ξg P a b c d):0<=d:=by rcases h.hd with h| ⟨h,_⟩<;>omega
theorem ξg.cd (h:ξg P a b c d):d=0->0<c:=by rcases h.hd with h| ⟨_,h⟩<;>omega
def ξh (P:Int->Int->Prop) (f g:Int) (p q:Int):Prop:=P p q∧0<=f*q+p*g
theorem ζ5.clip (h:ζ5 P) (f g:Int):ζ5 (ξh P f g):=fun p q hq hp=>h p q hq hp.1
theorem ξg.clip0 (h:ξg P a b c d) (hf:0<=f):ξg (ξh P f 0) a b c d:=
 ⟨h.hb,h.hd,h.le,fun p q hq=>⟨fun hp=>(h.is p q hq).mp hp.1,fun hp=>⟨(h.is p q hq).mpr hp,by rw [Int.mul_zero,Int.add_zero];exact Int.mul_nonneg hf (Int.le_of_lt hq)⟩⟩⟩
theorem φx (P:Int->Int->Prop) (hf:f<0):ζ5 (ξh P f 0):=fun p q hq hp=>by
 have h:=hp.2;rw [Int.mul_zero,Int.add_zero] at h
 have:=Int.mul_neg_of_neg_of_pos hf hq;omega
theorem ξg.up (h:ξg P a b c d) (hg:0<g) (hat:a*g< -f*b) (hle: -f*d<=c*g):ξg (ξh P f g) (-f) g c d:=by
 refine ⟨hg,h.hd,hle,fun p q hq=>⟨fun hp=> ?_,fun hp=> ?_⟩⟩
 ·exact ⟨by have:=hp.2;rw [Int.neg_mul];omega,((h.is p q hq).mp hp.1).2⟩
 ·refine ⟨(h.is p q hq).mpr ⟨?_,hp.2⟩,by have:=hp.1;rw [Int.neg_mul] at this;omega⟩
  exact ξu (Int.le_of_lt h.hb) hg (Int.le_of_lt hq) (Int.le_of_lt hat) hp.1
theorem ξg.up_no (h:ξg P a b c d) (hg:0<g) (hle:c*g< -f*d):ζ5 (ξh P f g):=by
 intro p q hq hp
 have h1: -f*q<=p*g:=by have:=hp.2;rw [Int.neg_mul];omega
 have h2:=((h.is p q hq).mp hp.1).2
 have h3:=ξu (Int.le_of_lt hg) hq h.d0 h1 h2
 omega
theorem ξg.up_stay (h:ξg P a b c d) (hg:0<g) (hat: -f*b<=a*g):ξg (ξh P f g) a b c d:=by
 refine ⟨h.hb,h.hd,h.le,fun p q hq=>⟨fun hp=>(h.is p q hq).mp hp.1,fun hp=>⟨(h.is p q hq).mpr hp,?_⟩⟩⟩
 have:=ξu (Int.le_of_lt hg) h.hb (Int.le_of_lt hq) hat hp.1
 rw [Int.neg_mul] at this;omega
theorem ξg.down (h:ξg P a b c d) (hg:g<0) (hat:f*d<c* -g) (hle:a* -g<=f*b):ξg (ξh P f g) a b f (-g):=by
 refine ⟨h.hb,Or.inl (by omega),hle,fun p q hq=>⟨fun hp=> ?_,fun hp=> ?_⟩⟩
 ·exact ⟨((h.is p q hq).mp hp.1).1,by have:=hp.2;rw [Int.mul_neg];omega⟩
 ·refine ⟨(h.is p q hq).mpr ⟨hp.1,?_⟩,by have:=hp.2;rw [Int.mul_neg] at this;omega⟩
  exact ξu (Int.le_of_lt hq) (by omega) h.d0 hp.2 (Int.le_of_lt hat)
theorem ξg.down_no (h:ξg P a b c d) (hg:g<0) (hle:f*b<a* -g):ζ5 (ξh P f g):=by
 intro p q hq hp
 have h1:=((h.is p q hq).mp hp.1).1
 have h2:p* -g<=f*q:=by have:=hp.2;rw [Int.mul_neg];omega
 have h3:=ξu (Int.le_of_lt h.hb) hq (by omega) h1 h2
 omega
theorem ξg.down_stay (h:ξg P a b c d) (hg:g<0) (hat:c* -g<=f*d) (hd:0<d):ξg (ξh P f g) a b c d:=by
 refine ⟨h.hb,h.hd,h.le,fun p q hq=>⟨fun hp=>(h.is p q hq).mp hp.1,fun hp=>⟨(h.is p q hq).mpr hp,?_⟩⟩⟩
 have:=ξu (Int.le_of_lt hq) hd (by omega) hp.2 hat
 rw [Int.mul_neg] at this;omega
theorem ξg.down_end (h:ξg P a b c d) (hg:g<0) (hat:c* -g<=f*d):0<d:=by
 rcases h.hd with h'| ⟨h',hc⟩
 ·exact h'
 ·rw [h',Int.mul_zero] at hat
  have:=Int.mul_pos hc (show 0< -g by omega);omega
theorem span_all:ξg (fun p _=>0<=p) 0 1 1 0:=
 ⟨by omega,Or.inr ⟨rfl,by omega⟩,by omega,fun p q hq=>⟨fun h=>⟨by omega,by omega⟩,fun h=>by omega⟩⟩
theorem ξg.least (h:ξg P a b c d):P a b∧ ∀p q,0<q->P p q->a*q<=p*b:=
 ⟨(h.is a b h.hb).mpr ⟨Int.le_refl _,h.le⟩,fun p q hq hp=>((h.is p q hq).mp hp).1⟩
theorem ξg.same {Q:Int->Int->Prop} {a' b' c' d':Int} (h:ξg P a b c d) (h':ξg Q a' b' c' d') (hpq: ∀p q,0<q->(P p q↔Q p q)):a*b'=a'*b:=by
 have h1:=h.least.2 a' b' h'.hb ((hpq _ _ h'.hb).mpr h'.least.1)
 have h2:=h'.least.2 a b h.hb ((hpq _ _ h.hb).mp h.least.1)
 exact Int.le_antisymm h1 h2
theorem ξg.not_no {Q:Int->Int->Prop} (h:ξg P a b c d) (h':ζ5 Q) (hpq: ∀p q,0<q->(P p q↔Q p q)):False:=
 h' _ _ h.hb ((hpq _ _ h.hb).mp h.least.1)
structure Low (p q u v:Int):Prop where
 ex: ∃k,0<k∧p=k*u∧q=k*v
 co:Int.gcd u v=1
 hv:0<v
theorem θP (s0 s1 s2:Int):ζW s0 s1 s2=true↔(0<=s0∧0<=s1∧0<=s2)∨(s0<=0∧s1<=0∧s2<=0):=by
 unfold ζW loS hiS
 simp only [Bool.not_eq_true',Bool.and_eq_false_iff,decide_eq_false_iff_not]
 omega
def ζs (A B C O D:V3) (p q:Int):Prop:=(nrm A B C).dot (nrm A B C)≠0∧η6 A B C O D p q
theorem ψt (n A O:V3):n.dot (O.sub A)= -n.dot (A.sub O):=by
 simp only [V3.dot,V3.sub];grind
theorem ζ6 (A B C O D:V3) (p q:Int):η6 A B C O D p q↔0<=p∧(nrm A B C).dot (at3 O D A p q)=0∧
 0<=(nrm A B C).dot ((B.sub A).cross (at3 O D A p q))∧0<=(nrm A B C).dot ((C.sub B).cross (at3 O D B p q))∧0<=(nrm A B C).dot ((A.sub C).cross (at3 O D C p q)):=by
 unfold η6
 rw [<-χN,<-χN,<-χN,ω9,ω9,ω9,ω9]
theorem ψm {p q:Int} (hD:(nrm A B C).dot D≠0) (hq:0<q):
 ζs A B C O D p q↔0<=p∧(nrm A B C).dot (A.sub O)*q=p*(nrm A B C).dot D∧
  ζW (sgn (D.dot ((A.sub O).cross (B.sub O)))) (sgn (D.dot ((B.sub O).cross (C.sub O)))) (sgn (D.dot ((C.sub O).cross (A.sub O))))=true:=by
 have hnn:(nrm A B C).dot (nrm A B C)≠0:=by
  intro h
  obtain ⟨e1,e2,e3⟩:=ωi _ h
  exact hD (by unfold V3.dot;rw [e1,e2,e3];simp)
 unfold ζs
 rw [ζ6,θP]
 have e:(nrm A B C).dot (at3 O D A p q)=0↔(nrm A B C).dot (A.sub O)*q=p*(nrm A B C).dot D:=by
  rw [ω9,ψt,Int.neg_mul];omega
 constructor
 ·rintro ⟨_,h0,h1,h2⟩
  exact ⟨h0,e.mp h1,(inner_all A B C O D p q hq hD h1).mp h2⟩
 ·rintro ⟨h0,h1,h2⟩
  exact ⟨hnn,h0,e.mpr h1,(inner_all A B C O D p q hq hD (e.mpr h1)).mpr h2⟩
theorem σj (hD:(nrm A B C).dot D≠0)
 (ho:ζW (sgn (D.dot ((A.sub O).cross (B.sub O)))) (sgn (D.dot ((B.sub O).cross (C.sub O)))) (sgn (D.dot ((C.sub O).cross (A.sub O))))=true)
 {a b:Int} (hb:0<b) (ha:0<=a) (he:(a=(nrm A B C).dot (A.sub O)∧b=(nrm A B C).dot D)∨(a= -(nrm A B C).dot (A.sub O)∧b= -(nrm A B C).dot D)):ξg (ζs A B C O D) a b a b:=by
 refine ⟨hb,Or.inl hb,Int.le_refl _,fun p q hq=> ?_⟩
 rw [ψm hD hq]
 have e:(nrm A B C).dot (A.sub O)*q=p*(nrm A B C).dot D↔a*q=p*b:=by
  rcases he with ⟨rfl,rfl⟩| ⟨rfl,rfl⟩
  ·exact Iff.rfl
  ·rw [Int.neg_mul,Int.mul_neg];omega
 constructor
 ·rintro ⟨_,h1,_⟩
  have:=e.mp h1
  exact ⟨by omega,by omega⟩
 ·rintro ⟨h1,h2⟩
  have h3:a*q=p*b:=Int.le_antisymm h1 h2
  refine ⟨?_,e.mpr h3,ho⟩
  have h4:0<=a*q:=Int.mul_nonneg ha (Int.le_of_lt hq)
  rcases Int.lt_or_le p 0 with h|h
  ·have:=Int.mul_neg_of_neg_of_pos h hb;omega
  ·exact h
theorem η7 (hD:(nrm A B C).dot D≠0)
 (ho:ζW (sgn (D.dot ((A.sub O).cross (B.sub O)))) (sgn (D.dot ((B.sub O).cross (C.sub O)))) (sgn (D.dot ((C.sub O).cross (A.sub O))))=false):ζ5 (ζs A B C O D):=by
 intro p q hq h
 rw [ψm hD hq,ho] at h
 simp at h
theorem θa (hD:(nrm A B C).dot D≠0) (hu:sgn ((nrm A B C).dot D)*sgn ((nrm A B C).dot (A.sub O))<0):ζ5 (ζs A B C O D):=by
 intro p q hq h
 rw [ψm hD hq] at h
 obtain ⟨h0,h1,_⟩:=h
 generalize (nrm A B C).dot D=g at*
 generalize (nrm A B C).dot (A.sub O)=f at*
 rcases sgn_cases g with ⟨hg,e⟩| ⟨hg,e⟩| ⟨hg,e⟩<;>rcases sgn_cases f with ⟨hf,e'⟩| ⟨hf,e'⟩| ⟨hf,e'⟩<;>rw [e,e'] at hu<;>try omega
 ·have:=Int.mul_pos hf hq
  have:p*g<=0:=Int.mul_nonpos_of_nonneg_of_nonpos h0 (Int.le_of_lt hg)
  omega
 ·have:=Int.mul_neg_of_neg_of_pos hf hq
  have:=Int.mul_nonneg h0 (Int.le_of_lt hg)
  omega
theorem κO (hD:(nrm A B C).dot D=0) (h:(nrm A B C).dot (nrm A B C)=0∨(nrm A B C).dot (A.sub O)≠0):ζ5 (ζs A B C O D):=by
 rintro p q hq ⟨h1,h2⟩
 rcases h with h|h
 ·exact h1 h
 ·have:=h2.2.1
  rw [hD,Int.mul_zero,Int.add_zero,ψt] at this
  rcases Int.mul_eq_zero.mp this with h'|h'<;>omega
theorem τ8 (hD:(nrm A B C).dot D=0) (hn:(nrm A B C).dot (nrm A B C)≠0) (h:(nrm A B C).dot (A.sub O)=0) (p q:Int):
 ζs A B C O D p q↔ξh (ξh (ξh (fun p _=>0<=p) (((nrm A B C).cross (B.sub A)).dot (O.sub A)) (((nrm A B C).cross (B.sub A)).dot D)) (((nrm A B C).cross (C.sub B)).dot (O.sub B)) (((nrm A B C).cross (C.sub B)).dot D)) (((nrm A B C).cross (A.sub C)).dot (O.sub C)) (((nrm A B C).cross (A.sub C)).dot D) p q:=by
 unfold ζs η6 ξh
 rw [hD,ψt _ A O,h]
 constructor
 ·rintro ⟨_,h0,_,h1,h2,h3⟩;exact ⟨⟨⟨h0,h1⟩,h2⟩,h3⟩
 ·rintro ⟨⟨⟨h0,h1⟩,h2⟩,h3⟩;exact ⟨hn,h0,by omega,h1,h2,h3⟩
theorem ν0 (hn:(nrm A B C).dot (nrm A B C)≠0) (p q:Int):
 ζs A B C O D p q↔ξh (ξh (ξh (ξh (ξh (fun p _=>0<=p) ((nrm A B C).dot (O.sub A)) ((nrm A B C).dot D)) (-(nrm A B C).dot (O.sub A)) (-(nrm A B C).dot D)) (((nrm A B C).cross (B.sub A)).dot (O.sub A)) (((nrm A B C).cross (B.sub A)).dot D)) (((nrm A B C).cross (C.sub B)).dot (O.sub B)) (((nrm A B C).cross (C.sub B)).dot D)) (((nrm A B C).cross (A.sub C)).dot (O.sub C)) (((nrm A B C).cross (A.sub C)).dot D) p q:=by
 unfold ζs η6 ξh
 constructor
 ·rintro ⟨_,h0,hz,h1,h2,h3⟩;exact ⟨⟨⟨⟨⟨h0,by omega⟩,by rw [Int.neg_mul,Int.mul_neg];omega⟩,h1⟩,h2⟩,h3⟩
 ·rintro ⟨⟨⟨⟨⟨h0,ha⟩,hb⟩,h1⟩,h2⟩,h3⟩;exact ⟨hn,h0,by rw [Int.neg_mul,Int.mul_neg] at hb;omega,h1,h2,h3⟩
theorem ψ6 (k:Int) (a b:V3):(V3.sc k a).sub (V3.sc k b)=V3.sc k (a.sub b):=by
 simp only [V3.sc,V3.sub,V3.mk.injEq];grind
theorem ωj (k l:Int) (a b:V3):(V3.sc k a).cross (V3.sc l b)=V3.sc (k*l) (a.cross b):=by
 simp only [V3.sc,V3.cross,V3.mk.injEq];grind
theorem θb (k l:Int) (a b:V3):(V3.sc k a).dot (V3.sc l b)=k*l*(a.dot b):=by
 simp only [V3.sc,V3.dot];grind
theorem ξ7 (k:Int) (A B C:V3):nrm (V3.sc k A) (V3.sc k B) (V3.sc k C)=V3.sc (k*k) (nrm A B C):=by
 unfold nrm;rw [ψ6,ψ6,ωj]
theorem ξB {k y:Int} (hk:0<k) (h:x=k*y):0<=x↔0<=y:=by
 rw [h]
 constructor
 ·intro h1
  rcases Int.lt_or_le y 0 with h2|h2
  ·have:=Int.mul_neg_of_pos_of_neg hk h2;omega
  ·exact h2
 ·exact fun h1=>Int.mul_nonneg (Int.le_of_lt hk) h1
theorem ψu {k y:Int} (hk:0<k) (h:x=k*y):x=0↔y=0:=by
 rw [h,Int.mul_eq_zero];omega
theorem ζs.scale (k:Int) (hk:0<k) (A B C O D:V3) (p q:Int):ζs (V3.sc k A) (V3.sc k B) (V3.sc k C) (V3.sc k O) (V3.sc k D) p q↔ζs A B C O D p q:=by
 have hk2:=Int.mul_pos hk hk
 have hk3:=Int.mul_pos hk2 hk
 have hk4:=Int.mul_pos hk2 hk2
 unfold ζs η6
 simp only [ξ7,ψ6,ωj,θb]
 have e0:=ψu hk4 (x:=k*k*(k*k)*(nrm A B C).dot (nrm A B C)) rfl
 have e1:=ψu hk3 (x:=k*k*k*(nrm A B C).dot (O.sub A)*q+p*(k*k*k*(nrm A B C).dot D)) (y:=(nrm A B C).dot (O.sub A)*q+p*(nrm A B C).dot D) (by grind)
 have e2:=ξB hk4 (x:=k*k*k*k*((nrm A B C).cross (B.sub A)).dot (O.sub A)*q+p*(k*k*k*k*((nrm A B C).cross (B.sub A)).dot D)) (y:=((nrm A B C).cross (B.sub A)).dot (O.sub A)*q+p*((nrm A B C).cross (B.sub A)).dot D) (by grind)
 have e3:=ξB hk4 (x:=k*k*k*k*((nrm A B C).cross (C.sub B)).dot (O.sub B)*q+p*(k*k*k*k*((nrm A B C).cross (C.sub B)).dot D)) (y:=((nrm A B C).cross (C.sub B)).dot (O.sub B)*q+p*((nrm A B C).cross (C.sub B)).dot D) (by grind)
 have e4:=ξB hk4 (x:=k*k*k*k*((nrm A B C).cross (A.sub C)).dot (O.sub C)*q+p*(k*k*k*k*((nrm A B C).cross (A.sub C)).dot D)) (y:=((nrm A B C).cross (A.sub C)).dot (O.sub C)*q+p*((nrm A B C).cross (A.sub C)).dot D) (by grind)
 rw [Ne,e0,e1,e2,e3,e4]
def Met (P:Int->Int->Prop) (R:Int×Int×Int×Int):Prop:=ξg P R.1 R.2.1 R.2.2.1 R.2.2.2∨(ζ5 P∧R=(1,0,0,1))
theorem Met.keep {R:Int×Int×Int×Int} (h:Met P R) (x y:Int):Met (ξh P (-y) x) (ζS R.1 R.2.1 R.2.2.1 R.2.2.2 x y):=by
 rcases h with h| ⟨h,rfl⟩
 ·obtain ⟨a,b,c,d⟩:=R
  simp only at h⊢
  have hle:=h.le
  unfold ζS
  rcases Int.lt_trichotomy x 0 with hx|hx|hx
  ·rw [if_neg (by omega),if_neg (by omega)]
   by_cases h1: -y*d-c* -x<0
   ·rw [if_pos ⟨hx,h1⟩]
    by_cases h2:0<a* -x- -y*b
    ·rw [if_pos h2];exact .inr ⟨h.down_no hx (by omega),rfl⟩
    ·rw [if_neg h2];exact .inl (h.down hx (by omega) (by omega))
   ·rw [if_neg (by omega),if_neg (by omega)]
    exact .inl (h.down_stay hx (by omega) (h.down_end hx (f:= -y) (by omega)))
  ·subst hx
   by_cases hy:0<y
   ·rw [if_pos ⟨rfl,hy⟩];exact .inr ⟨φx P (by omega),rfl⟩
   ·rw [if_neg (by omega),if_neg (by omega),if_neg (by omega),if_neg (by omega)]
    exact .inl (h.clip0 (by omega))
  ·rw [if_neg (by omega)]
   have e: - -y=y:=Int.neg_neg y
   by_cases h1:0<y*b-a*x
   ·rw [if_pos ⟨hx,h1⟩]
    by_cases h2:0<y*d-c*x
    ·rw [if_pos h2];exact .inr ⟨h.up_no hx (by rw [e];omega),rfl⟩
    ·rw [if_neg h2]
     have:=h.up (f:= -y) hx (by rw [e];omega) (by rw [e];omega)
     rw [e] at this
     exact .inl this
   ·rw [if_neg (by omega),if_neg (by omega),if_neg (by omega)]
    exact .inl (h.up_stay hx (by rw [e];omega))
 ·refine .inr ⟨h.clip _ _,?_⟩
  unfold ζS
  simp only
  by_cases h1:x=0∧0<y
  ·rw [if_pos h1]
  ·rw [if_neg h1,if_neg (by omega)]
   by_cases h2:x<0∧ -y*1-0* -x<0
   ·rw [if_pos h2,if_pos (by omega)]
   ·rw [if_neg h2,if_pos (by omega)]
theorem τ9:Met (fun p _=>0<=p) (0,1,1,0):= .inl span_all
end Go.Proofs.YtfieffpobgcpmaaGreatDoor
