import Derived.Test.YtfieffpobgcpmaaGreatDoorPsEPsFPtA
set_option maxRecDepth 100000
set_option maxHeartbeats 32000000
namespace Go.Proofs.YtfieffpobgcpmaaGreatDoor
open Go.RowKit
def at3 (O D A:V3) (p q:Int):V3:=⟨(O.x-A.x)*q+D.x*p,(O.y-A.y)*q+D.y*p,(O.z-A.z)*q+D.z*p⟩
theorem lagrange (n e y D:V3) (h1:n.dot e=0) (h2:n.dot y=0):n.dot n*D.dot (e.cross y)=n.dot (e.cross y)*n.dot D:=by
 have h:n.dot n*D.dot (e.cross y)-n.dot (e.cross y)*n.dot D=n.dot y*e.dot (n.cross D)-n.dot e*y.dot (n.cross D):=by
  simp only [V3.dot,V3.cross];grind
 rw [h1,h2] at h;omega
theorem triple (n e y:V3):(n.cross e).dot y=n.dot (e.cross y):=by
 simp only [V3.dot,V3.cross];grind
theorem turn_at (O D A B:V3) (p q:Int):D.dot ((B.sub A).cross (at3 O D A p q))=q*D.dot ((A.sub O).cross (B.sub O)):=by
 simp only [V3.dot,V3.cross,V3.sub,at3];grind
theorem nrm_e0 (A B C:V3):(nrm A B C).dot (B.sub A)=0:=by
 simp only [V3.dot,V3.cross,V3.sub,nrm];grind
theorem nrm_e1 (A B C:V3):(nrm A B C).dot (C.sub B)=0:=by
 simp only [V3.dot,V3.cross,V3.sub,nrm];grind
theorem nrm_e2 (A B C:V3):(nrm A B C).dot (A.sub C)=0:=by
 simp only [V3.dot,V3.cross,V3.sub,nrm];grind
theorem at_b (n O D A B:V3) (p q:Int):n.dot (at3 O D B p q)=n.dot (at3 O D A p q)-q*n.dot (B.sub A):=by
 simp only [V3.dot,V3.sub,at3];grind
theorem at_lin (n O D A:V3) (p q:Int):n.dot (at3 O D A p q)=n.dot (O.sub A)*q+p*n.dot D:=by
 simp only [V3.dot,V3.sub,at3];grind
theorem inner_sum (A B C O D n:V3) (p q:Int):n.dot ((B.sub A).cross (at3 O D A p q))+n.dot ((C.sub B).cross (at3 O D B p q))+n.dot ((A.sub C).cross (at3 O D C p q))=q*n.dot (nrm A B C):=by
 simp only [V3.dot,V3.cross,V3.sub,at3,nrm];grind
theorem dot_self (n:V3):0≤n.dot n:=by
 unfold V3.dot
 have h: ∀x:Int,0≤x*x:=fun x=>by
  rcases Int.lt_or_le x 0 with h|h
  ·exact Int.le_of_lt (Int.mul_pos_of_neg_of_neg h h)
  ·exact Int.mul_nonneg h h
 have:=h n.x;have:=h n.y;have:=h n.z;omega
theorem dot_zero (n:V3) (h:n.dot n=0):n.x=0∧n.y=0∧n.z=0:=by
 unfold V3.dot at h
 have hp: ∀x:Int,0≤x*x:=fun x=>by
  rcases Int.lt_or_le x 0 with h|h
  ·exact Int.le_of_lt (Int.mul_pos_of_neg_of_neg h h)
  ·exact Int.mul_nonneg h h
 have hx:=hp n.x;have hy:=hp n.y;have hz:=hp n.z
 refine ⟨?_,?_,?_⟩
 ·have:n.x*n.x=0:=by omega
  rcases Int.mul_eq_zero.mp this with h|h<;>exact h
 ·have:n.y*n.y=0:=by omega
  rcases Int.mul_eq_zero.mp this with h|h<;>exact h
 ·have:n.z*n.z=0:=by omega
  rcases Int.mul_eq_zero.mp this with h|h<;>exact h
def InTri (A B C O D:V3) (p q:Int):Prop:=
 0≤p∧(nrm A B C).dot (O.sub A)*q+p*(nrm A B C).dot D=0∧
 0≤((nrm A B C).cross (B.sub A)).dot (O.sub A)*q+p*((nrm A B C).cross (B.sub A)).dot D∧
 0≤((nrm A B C).cross (C.sub B)).dot (O.sub B)*q+p*((nrm A B C).cross (C.sub B)).dot D∧
 0≤((nrm A B C).cross (A.sub C)).dot (O.sub C)*q+p*((nrm A B C).cross (A.sub C)).dot D
theorem sgn_mul_pos {a b c:Int} (ha:0<a) (h:a*b=c):sgn b=sgn c:=by
 rcases sgn_cases b with ⟨h1,e⟩| ⟨h1,e⟩| ⟨h1,e⟩<;>rcases sgn_cases c with ⟨h2,e'⟩| ⟨h2,e'⟩| ⟨h2,e'⟩<;>rw [e,e']
 ·exact absurd h (by have:=Int.mul_neg_of_pos_of_neg ha h1;omega)
 ·exact absurd h (by have:=Int.mul_neg_of_pos_of_neg ha h1;omega)
 ·exact absurd h (by rw [h1];simp;omega)
 ·exact absurd h (by rw [h1];simp;omega)
 ·exact absurd h (by have:=Int.mul_pos ha h1;omega)
 ·exact absurd h (by have:=Int.mul_pos ha h1;omega)
theorem inner_turn (n A B O D:V3) (p q:Int) (hq:0<q) (hnn:0<n.dot n) (h1:n.dot (B.sub A)=0) (h2:n.dot (at3 O D A p q)=0):
 sgn (D.dot ((A.sub O).cross (B.sub O)))=sgn (n.dot ((B.sub A).cross (at3 O D A p q))*n.dot D):=by
 have h:=lagrange n (B.sub A) (at3 O D A p q) D h1 h2
 rw [turn_at] at h
 refine sgn_mul_pos (a:=n.dot n*q) (Int.mul_pos hnn hq) ?_
 rw [←h];grind
theorem sgn_le {x:Int}:0≤sgn x↔0≤x:=by
 rcases sgn_cases x with ⟨h,e⟩| ⟨h,e⟩| ⟨h,e⟩<;>rw [e]<;>omega
theorem sgn_ge {x:Int}:sgn x≤0↔x≤0:=by
 rcases sgn_cases x with ⟨h,e⟩| ⟨h,e⟩| ⟨h,e⟩<;>rw [e]<;>omega
theorem sgn_prod_pos {x c:Int} (hc:0<c):sgn (x*c)=sgn x:=(sgn_mul_pos (a:=c) (b:=x) hc (Int.mul_comm _ _)).symm
theorem sgn_prod_neg {x c:Int} (hc:c<0):sgn (x*c)= -sgn x:=by
 have:sgn (x*c)=sgn (-x):=(sgn_mul_pos (a:= -c) (b:= -x) (by omega) (by rw [Int.neg_mul_neg,Int.mul_comm])).symm
 rw [this]
 rcases sgn_cases x with ⟨h,e⟩| ⟨h,e⟩| ⟨h,e⟩<;>rcases sgn_cases (-x) with ⟨h',e'⟩| ⟨h',e'⟩| ⟨h',e'⟩<;>rw [e,e']<;>omega
theorem inner_all (A B C O D:V3) (p q:Int) (hq:0<q) (hD:(nrm A B C).dot D≠0) (h2:(nrm A B C).dot (at3 O D A p q)=0):
 (0≤(nrm A B C).dot ((B.sub A).cross (at3 O D A p q))∧0≤(nrm A B C).dot ((C.sub B).cross (at3 O D B p q))∧0≤(nrm A B C).dot ((A.sub C).cross (at3 O D C p q)))
 ↔(0≤sgn (D.dot ((A.sub O).cross (B.sub O)))∧0≤sgn (D.dot ((B.sub O).cross (C.sub O)))∧0≤sgn (D.dot ((C.sub O).cross (A.sub O))))
  ∨(sgn (D.dot ((A.sub O).cross (B.sub O)))≤0∧sgn (D.dot ((B.sub O).cross (C.sub O)))≤0∧sgn (D.dot ((C.sub O).cross (A.sub O)))≤0):=by
 have hnn:0<(nrm A B C).dot (nrm A B C):=by
  have:=dot_self (nrm A B C)
  rcases Int.lt_or_eq_of_le this with h|h
  ·exact h
  ·obtain ⟨e1,e2,e3⟩:=dot_zero _ h.symm
   exact absurd (by unfold V3.dot;rw [e1,e2,e3];simp) hD
 have hB:(nrm A B C).dot (at3 O D B p q)=0:=by rw [at_b _ O D A B,h2,nrm_e0];simp
 have hC:(nrm A B C).dot (at3 O D C p q)=0:=by rw [at_b _ O D B C,hB,nrm_e1];simp
 have s0:=inner_turn (nrm A B C) A B O D p q hq hnn (nrm_e0 A B C) h2
 have s1:=inner_turn (nrm A B C) B C O D p q hq hnn (nrm_e1 A B C) hB
 have s2:=inner_turn (nrm A B C) C A O D p q hq hnn (nrm_e2 A B C) hC
 have hs:=inner_sum A B C O D (nrm A B C) p q
 have hp:=Int.mul_pos hq hnn
 rw [s0,s1,s2]
 generalize (nrm A B C).dot ((B.sub A).cross (at3 O D A p q))=x at*
 generalize (nrm A B C).dot ((C.sub B).cross (at3 O D B p q))=y at*
 generalize (nrm A B C).dot ((A.sub C).cross (at3 O D C p q))=z at*
 rcases Int.lt_or_lt_of_ne hD with hc|hc
 ·rw [sgn_prod_neg hc,sgn_prod_neg hc,sgn_prod_neg hc]
  have a1:=@sgn_le x;have a2:=@sgn_le y;have a3:=@sgn_le z
  have b1:=@sgn_ge x;have b2:=@sgn_ge y;have b3:=@sgn_ge z
  constructor
  ·rintro ⟨h1,h2,h3⟩;right;refine ⟨?_,?_,?_⟩<;>omega
  ·rintro (⟨h1,h2,h3⟩| ⟨h1,h2,h3⟩)
   ·omega
   ·refine ⟨?_,?_,?_⟩<;>omega
 ·rw [sgn_prod_pos hc,sgn_prod_pos hc,sgn_prod_pos hc]
  have a1:=@sgn_le x;have a2:=@sgn_le y;have a3:=@sgn_le z
  have b1:=@sgn_ge x;have b2:=@sgn_ge y;have b3:=@sgn_ge z
  constructor
  ·rintro ⟨h1,h2,h3⟩;left;refine ⟨?_,?_,?_⟩<;>omega
  ·rintro (⟨h1,h2,h3⟩| ⟨h1,h2,h3⟩)
   ·refine ⟨?_,?_,?_⟩<;>omega
   ·omega
theorem frac_trans {a b c d e f:Int} (hb:0≤b) (hd:0<d) (hf:0≤f) (h1:a*d≤c*b) (h2:c*f≤e*d):a*f≤e*b:=by
 have h3:a*d*f≤c*b*f:=Int.mul_le_mul_of_nonneg_right h1 hf
 have h4:c*f*b≤e*d*b:=Int.mul_le_mul_of_nonneg_right h2 hb
 have h5:d*(a*f)≤d*(e*b):=by
  have e1:d*(a*f)=a*d*f:=by grind
  have e2:d*(e*b)=e*d*b:=by grind
  have e3:c*b*f=c*f*b:=by grind
  rw [e1,e2];omega
 exact Int.le_of_mul_le_mul_left h5 hd
structure Span (P:Int→Int→Prop) (a b c d:Int):Prop where
 hb:0<b
 hd:0<d∨d=0∧0<c
 le:a*d≤c*b
 is: ∀p q,0<q→(P p q↔a*q≤p*b∧p*d≤c*q)
def NoSpan (P:Int→Int→Prop):Prop:= ∀p q,0<q→ ¬P p q
theorem Span.d0 {P:Int→Int→Prop} {a b c d:Int} (h:Span P a b c d):0≤d:=by rcases h.hd with h| ⟨h,_⟩<;>omega
def Clip (P:Int→Int→Prop) (f g:Int) (p q:Int):Prop:=P p q∧0≤f*q+p*g
theorem NoSpan.clip {P:Int→Int→Prop} (h:NoSpan P) (f g:Int):NoSpan (Clip P f g):=fun p q hq hp=>h p q hq hp.1
theorem Span.clip0 {P:Int→Int→Prop} {a b c d:Int} (h:Span P a b c d) {f:Int} (hf:0≤f):Span (Clip P f 0) a b c d:=
 ⟨h.hb,h.hd,h.le,fun p q hq=>⟨fun hp=>(h.is p q hq).mp hp.1,fun hp=>⟨(h.is p q hq).mpr hp,by rw [Int.mul_zero,Int.add_zero];exact Int.mul_nonneg hf (Int.le_of_lt hq)⟩⟩⟩
theorem noSpan_clip0 (P:Int→Int→Prop) {f:Int} (hf:f<0):NoSpan (Clip P f 0):=fun p q hq hp=>by
 have h:=hp.2;rw [Int.mul_zero,Int.add_zero] at h
 have:=Int.mul_neg_of_neg_of_pos hf hq;omega
theorem Span.up {P:Int→Int→Prop} {a b c d:Int} (h:Span P a b c d) {f g:Int} (hg:0<g) (hat:a*g< -f*b) (hle: -f*d≤c*g):Span (Clip P f g) (-f) g c d:=by
 refine ⟨hg,h.hd,hle,fun p q hq=>⟨fun hp=> ?_,fun hp=> ?_⟩⟩
 ·exact ⟨by have:=hp.2;rw [Int.neg_mul];omega,((h.is p q hq).mp hp.1).2⟩
 ·refine ⟨(h.is p q hq).mpr ⟨?_,hp.2⟩,by have:=hp.1;rw [Int.neg_mul] at this;omega⟩
  exact frac_trans (Int.le_of_lt h.hb) hg (Int.le_of_lt hq) (Int.le_of_lt hat) hp.1
theorem Span.up_no {P:Int→Int→Prop} {a b c d:Int} (h:Span P a b c d) {f g:Int} (hg:0<g) (hle:c*g< -f*d):NoSpan (Clip P f g):=by
 intro p q hq hp
 have h1: -f*q≤p*g:=by have:=hp.2;rw [Int.neg_mul];omega
 have h2:=((h.is p q hq).mp hp.1).2
 have h3:=frac_trans (Int.le_of_lt hg) hq h.d0 h1 h2
 omega
theorem Span.up_stay {P:Int→Int→Prop} {a b c d:Int} (h:Span P a b c d) {f g:Int} (hg:0<g) (hat: -f*b≤a*g):Span (Clip P f g) a b c d:=by
 refine ⟨h.hb,h.hd,h.le,fun p q hq=>⟨fun hp=>(h.is p q hq).mp hp.1,fun hp=>⟨(h.is p q hq).mpr hp,?_⟩⟩⟩
 have:=frac_trans (Int.le_of_lt hg) h.hb (Int.le_of_lt hq) hat hp.1
 rw [Int.neg_mul] at this;omega
theorem Span.down {P:Int→Int→Prop} {a b c d:Int} (h:Span P a b c d) {f g:Int} (hg:g<0) (hat:f*d<c* -g) (hle:a* -g≤f*b):Span (Clip P f g) a b f (-g):=by
 refine ⟨h.hb,Or.inl (by omega),hle,fun p q hq=>⟨fun hp=> ?_,fun hp=> ?_⟩⟩
 ·exact ⟨((h.is p q hq).mp hp.1).1,by have:=hp.2;rw [Int.mul_neg];omega⟩
 ·refine ⟨(h.is p q hq).mpr ⟨hp.1,?_⟩,by have:=hp.2;rw [Int.mul_neg] at this;omega⟩
  exact frac_trans (Int.le_of_lt hq) (by omega) h.d0 hp.2 (Int.le_of_lt hat)
theorem Span.down_no {P:Int→Int→Prop} {a b c d:Int} (h:Span P a b c d) {f g:Int} (hg:g<0) (hle:f*b<a* -g):NoSpan (Clip P f g):=by
 intro p q hq hp
 have h1:=((h.is p q hq).mp hp.1).1
 have h2:p* -g≤f*q:=by have:=hp.2;rw [Int.mul_neg];omega
 have h3:=frac_trans (Int.le_of_lt h.hb) hq (by omega) h1 h2
 omega
theorem Span.down_stay {P:Int→Int→Prop} {a b c d:Int} (h:Span P a b c d) {f g:Int} (hg:g<0) (hat:c* -g≤f*d) (hd:0<d):Span (Clip P f g) a b c d:=by
 refine ⟨h.hb,h.hd,h.le,fun p q hq=>⟨fun hp=>(h.is p q hq).mp hp.1,fun hp=>⟨(h.is p q hq).mpr hp,?_⟩⟩⟩
 have:=frac_trans (Int.le_of_lt hq) hd (by omega) hp.2 hat
 rw [Int.mul_neg] at this;omega
theorem Span.down_end {P:Int→Int→Prop} {a b c d:Int} (h:Span P a b c d) {f g:Int} (hg:g<0) (hat:c* -g≤f*d):0<d:=by
 rcases h.hd with h'| ⟨h',hc⟩
 ·exact h'
 ·rw [h',Int.mul_zero] at hat
  have:=Int.mul_pos hc (show 0< -g by omega);omega
theorem span_all:Span (fun p _=>0≤p) 0 1 1 0:=
 ⟨by omega,Or.inr ⟨rfl,by omega⟩,by omega,fun p q hq=>⟨fun h=>⟨by omega,by omega⟩,fun h=>by omega⟩⟩
theorem Span.least {P:Int→Int→Prop} {a b c d:Int} (h:Span P a b c d):P a b∧ ∀p q,0<q→P p q→a*q≤p*b:=
 ⟨(h.is a b h.hb).mpr ⟨Int.le_refl _,h.le⟩,fun p q hq hp=>((h.is p q hq).mp hp).1⟩
theorem Span.same {P Q:Int→Int→Prop} {a b c d a' b' c' d':Int} (h:Span P a b c d) (h':Span Q a' b' c' d') (hpq: ∀p q,0<q→(P p q↔Q p q)):a*b'=a'*b:=by
 have h1:=h.least.2 a' b' h'.hb ((hpq _ _ h'.hb).mpr h'.least.1)
 have h2:=h'.least.2 a b h.hb ((hpq _ _ h.hb).mp h.least.1)
 exact Int.le_antisymm h1 h2
theorem Span.not_no {P Q:Int→Int→Prop} {a b c d:Int} (h:Span P a b c d) (h':NoSpan Q) (hpq: ∀p q,0<q→(P p q↔Q p q)):False:=
 h' _ _ h.hb ((hpq _ _ h.hb).mp h.least.1)
structure Low (p q u v:Int):Prop where
 ex: ∃k,0<k∧p=k*u∧q=k*v
 co:Int.gcd u v=1
 hv:0<v
theorem dvd_co {v u w:Int} (h:v∣u*w) (hc:Int.gcd u v=1):v∣w:=by
 have h1:v.natAbs∣u.natAbs*w.natAbs:=by rw [←Int.natAbs_mul];exact Int.natAbs_dvd_natAbs.mpr h
 have h2:Nat.Coprime v.natAbs u.natAbs:=by unfold Nat.Coprime;rw [Nat.gcd_comm];exact hc
 exact Int.natAbs_dvd_natAbs.mp (Nat.Coprime.dvd_of_dvd_mul_left h2 h1)
theorem oneSide_iff (s0 s1 s2:Int):oneSide s0 s1 s2=true↔(0≤s0∧0≤s1∧0≤s2)∨(s0≤0∧s1≤0∧s2≤0):=by
 unfold oneSide loS hiS
 simp only [Bool.not_eq_true',Bool.and_eq_false_iff,decide_eq_false_iff_not]
 omega
def Meets (A B C O D:V3) (p q:Int):Prop:=(nrm A B C).dot (nrm A B C)≠0∧InTri A B C O D p q
theorem dot_swap (n A O:V3):n.dot (O.sub A)= -n.dot (A.sub O):=by
 simp only [V3.dot,V3.sub];grind
theorem InTri_iff (A B C O D:V3) (p q:Int):InTri A B C O D p q↔0≤p∧(nrm A B C).dot (at3 O D A p q)=0∧
 0≤(nrm A B C).dot ((B.sub A).cross (at3 O D A p q))∧0≤(nrm A B C).dot ((C.sub B).cross (at3 O D B p q))∧0≤(nrm A B C).dot ((A.sub C).cross (at3 O D C p q)):=by
 unfold InTri
 rw [←triple,←triple,←triple,at_lin,at_lin,at_lin,at_lin]
theorem crossing_mem {A B C O D:V3} {p q:Int} (hD:(nrm A B C).dot D≠0) (hq:0<q):
 Meets A B C O D p q↔0≤p∧(nrm A B C).dot (A.sub O)*q=p*(nrm A B C).dot D∧
  oneSide (sgn (D.dot ((A.sub O).cross (B.sub O)))) (sgn (D.dot ((B.sub O).cross (C.sub O)))) (sgn (D.dot ((C.sub O).cross (A.sub O))))=true:=by
 have hnn:(nrm A B C).dot (nrm A B C)≠0:=by
  intro h
  obtain ⟨e1,e2,e3⟩:=dot_zero _ h
  exact hD (by unfold V3.dot;rw [e1,e2,e3];simp)
 unfold Meets
 rw [InTri_iff,oneSide_iff]
 have e:(nrm A B C).dot (at3 O D A p q)=0↔(nrm A B C).dot (A.sub O)*q=p*(nrm A B C).dot D:=by
  rw [at_lin,dot_swap,Int.neg_mul];omega
 constructor
 ·rintro ⟨_,h0,h1,h2⟩
  exact ⟨h0,e.mp h1,(inner_all A B C O D p q hq hD h1).mp h2⟩
 ·rintro ⟨h0,h1,h2⟩
  exact ⟨hnn,h0,e.mpr h1,(inner_all A B C O D p q hq hD (e.mpr h1)).mpr h2⟩
theorem cross_yes {A B C O D:V3} (hD:(nrm A B C).dot D≠0)
 (ho:oneSide (sgn (D.dot ((A.sub O).cross (B.sub O)))) (sgn (D.dot ((B.sub O).cross (C.sub O)))) (sgn (D.dot ((C.sub O).cross (A.sub O))))=true)
 {a b:Int} (hb:0<b) (ha:0≤a) (he:(a=(nrm A B C).dot (A.sub O)∧b=(nrm A B C).dot D)∨(a= -(nrm A B C).dot (A.sub O)∧b= -(nrm A B C).dot D)):Span (Meets A B C O D) a b a b:=by
 refine ⟨hb,Or.inl hb,Int.le_refl _,fun p q hq=> ?_⟩
 rw [crossing_mem hD hq]
 have e:(nrm A B C).dot (A.sub O)*q=p*(nrm A B C).dot D↔a*q=p*b:=by
  rcases he with ⟨rfl,rfl⟩| ⟨rfl,rfl⟩
  ·exact Iff.rfl
  ·rw [Int.neg_mul,Int.mul_neg];omega
 constructor
 ·rintro ⟨_,h1,_⟩
  have:=e.mp h1
  exact ⟨by omega,by omega⟩
 ·rintro ⟨h1,h2⟩
  have h3:a*q=p*b:=Int.le_antisymm h1 h2
  refine ⟨?_,e.mpr h3,ho⟩
  have h4:0≤a*q:=Int.mul_nonneg ha (Int.le_of_lt hq)
  rcases Int.lt_or_le p 0 with h|h
  ·have:=Int.mul_neg_of_neg_of_pos h hb;omega
  ·exact h
theorem cross_side {A B C O D:V3} (hD:(nrm A B C).dot D≠0)
 (ho:oneSide (sgn (D.dot ((A.sub O).cross (B.sub O)))) (sgn (D.dot ((B.sub O).cross (C.sub O)))) (sgn (D.dot ((C.sub O).cross (A.sub O))))=false):NoSpan (Meets A B C O D):=by
 intro p q hq h
 rw [crossing_mem hD hq,ho] at h
 simp at h
theorem cross_behind {A B C O D:V3} (hD:(nrm A B C).dot D≠0) (hu:sgn ((nrm A B C).dot D)*sgn ((nrm A B C).dot (A.sub O))<0):NoSpan (Meets A B C O D):=by
 intro p q hq h
 rw [crossing_mem hD hq] at h
 obtain ⟨h0,h1,_⟩:=h
 generalize (nrm A B C).dot D=g at*
 generalize (nrm A B C).dot (A.sub O)=f at*
 rcases sgn_cases g with ⟨hg,e⟩| ⟨hg,e⟩| ⟨hg,e⟩<;>rcases sgn_cases f with ⟨hf,e'⟩| ⟨hf,e'⟩| ⟨hf,e'⟩<;>rw [e,e'] at hu<;>try omega
 ·have:=Int.mul_pos hf hq
  have:p*g≤0:=Int.mul_nonpos_of_nonneg_of_nonpos h0 (Int.le_of_lt hg)
  omega
 ·have:=Int.mul_neg_of_neg_of_pos hf hq
  have:=Int.mul_nonneg h0 (Int.le_of_lt hg)
  omega
theorem lie_miss {A B C O D:V3} (hD:(nrm A B C).dot D=0) (h:(nrm A B C).dot (nrm A B C)=0∨(nrm A B C).dot (A.sub O)≠0):NoSpan (Meets A B C O D):=by
 rintro p q hq ⟨h1,h2⟩
 rcases h with h|h
 ·exact h1 h
 ·have:=h2.2.1
  rw [hD,Int.mul_zero,Int.add_zero,dot_swap] at this
  rcases Int.mul_eq_zero.mp this with h'|h'<;>omega
theorem lie_mem {A B C O D:V3} (hD:(nrm A B C).dot D=0) (hn:(nrm A B C).dot (nrm A B C)≠0) (h:(nrm A B C).dot (A.sub O)=0) (p q:Int):
 Meets A B C O D p q↔Clip (Clip (Clip (fun p _=>0≤p) (((nrm A B C).cross (B.sub A)).dot (O.sub A)) (((nrm A B C).cross (B.sub A)).dot D)) (((nrm A B C).cross (C.sub B)).dot (O.sub B)) (((nrm A B C).cross (C.sub B)).dot D)) (((nrm A B C).cross (A.sub C)).dot (O.sub C)) (((nrm A B C).cross (A.sub C)).dot D) p q:=by
 unfold Meets InTri Clip
 rw [hD,dot_swap _ A O,h]
 constructor
 ·rintro ⟨_,h0,_,h1,h2,h3⟩;exact ⟨⟨⟨h0,h1⟩,h2⟩,h3⟩
 ·rintro ⟨⟨⟨h0,h1⟩,h2⟩,h3⟩;exact ⟨hn,h0,by omega,h1,h2,h3⟩
theorem clip5 {A B C O D:V3} (hn:(nrm A B C).dot (nrm A B C)≠0) (p q:Int):
 Meets A B C O D p q↔Clip (Clip (Clip (Clip (Clip (fun p _=>0≤p) ((nrm A B C).dot (O.sub A)) ((nrm A B C).dot D)) (-(nrm A B C).dot (O.sub A)) (-(nrm A B C).dot D)) (((nrm A B C).cross (B.sub A)).dot (O.sub A)) (((nrm A B C).cross (B.sub A)).dot D)) (((nrm A B C).cross (C.sub B)).dot (O.sub B)) (((nrm A B C).cross (C.sub B)).dot D)) (((nrm A B C).cross (A.sub C)).dot (O.sub C)) (((nrm A B C).cross (A.sub C)).dot D) p q:=by
 unfold Meets InTri Clip
 constructor
 ·rintro ⟨_,h0,hz,h1,h2,h3⟩;exact ⟨⟨⟨⟨⟨h0,by omega⟩,by rw [Int.neg_mul,Int.mul_neg];omega⟩,h1⟩,h2⟩,h3⟩
 ·rintro ⟨⟨⟨⟨⟨h0,ha⟩,hb⟩,h1⟩,h2⟩,h3⟩;exact ⟨hn,h0,by rw [Int.neg_mul,Int.mul_neg] at hb;omega,h1,h2,h3⟩
def V3.sc (k:Int) (a:V3):V3:=⟨k*a.x,k*a.y,k*a.z⟩
theorem sc_sub (k:Int) (a b:V3):(V3.sc k a).sub (V3.sc k b)=V3.sc k (a.sub b):=by
 simp only [V3.sc,V3.sub,V3.mk.injEq];grind
theorem sc_cross (k l:Int) (a b:V3):(V3.sc k a).cross (V3.sc l b)=V3.sc (k*l) (a.cross b):=by
 simp only [V3.sc,V3.cross,V3.mk.injEq];grind
theorem sc_dot (k l:Int) (a b:V3):(V3.sc k a).dot (V3.sc l b)=k*l*(a.dot b):=by
 simp only [V3.sc,V3.dot];grind
theorem sc_nrm (k:Int) (A B C:V3):nrm (V3.sc k A) (V3.sc k B) (V3.sc k C)=V3.sc (k*k) (nrm A B C):=by
 unfold nrm;rw [sc_sub,sc_sub,sc_cross]
theorem pos_scale {k x y:Int} (hk:0<k) (h:x=k*y):0≤x↔0≤y:=by
 rw [h]
 constructor
 ·intro h1
  rcases Int.lt_or_le y 0 with h2|h2
  ·have:=Int.mul_neg_of_pos_of_neg hk h2;omega
  ·exact h2
 ·exact fun h1=>Int.mul_nonneg (Int.le_of_lt hk) h1
theorem zero_scale {k x y:Int} (hk:0<k) (h:x=k*y):x=0↔y=0:=by
 rw [h,Int.mul_eq_zero];omega
theorem Meets.scale (k:Int) (hk:0<k) (A B C O D:V3) (p q:Int):Meets (V3.sc k A) (V3.sc k B) (V3.sc k C) (V3.sc k O) (V3.sc k D) p q↔Meets A B C O D p q:=by
 have hk2:=Int.mul_pos hk hk
 have hk3:=Int.mul_pos hk2 hk
 have hk4:=Int.mul_pos hk2 hk2
 unfold Meets InTri
 simp only [sc_nrm,sc_sub,sc_cross,sc_dot]
 have e0:=zero_scale hk4 (x:=k*k*(k*k)*(nrm A B C).dot (nrm A B C)) rfl
 have e1:=zero_scale hk3 (x:=k*k*k*(nrm A B C).dot (O.sub A)*q+p*(k*k*k*(nrm A B C).dot D)) (y:=(nrm A B C).dot (O.sub A)*q+p*(nrm A B C).dot D) (by grind)
 have e2:=pos_scale hk4 (x:=k*k*k*k*((nrm A B C).cross (B.sub A)).dot (O.sub A)*q+p*(k*k*k*k*((nrm A B C).cross (B.sub A)).dot D)) (y:=((nrm A B C).cross (B.sub A)).dot (O.sub A)*q+p*((nrm A B C).cross (B.sub A)).dot D) (by grind)
 have e3:=pos_scale hk4 (x:=k*k*k*k*((nrm A B C).cross (C.sub B)).dot (O.sub B)*q+p*(k*k*k*k*((nrm A B C).cross (C.sub B)).dot D)) (y:=((nrm A B C).cross (C.sub B)).dot (O.sub B)*q+p*((nrm A B C).cross (C.sub B)).dot D) (by grind)
 have e4:=pos_scale hk4 (x:=k*k*k*k*((nrm A B C).cross (A.sub C)).dot (O.sub C)*q+p*(k*k*k*k*((nrm A B C).cross (A.sub C)).dot D)) (y:=((nrm A B C).cross (A.sub C)).dot (O.sub C)*q+p*((nrm A B C).cross (A.sub C)).dot D) (by grind)
 rw [Ne,e0,e1,e2,e3,e4]
end Go.Proofs.YtfieffpobgcpmaaGreatDoor
