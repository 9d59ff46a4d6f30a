import Derived.Test.YtfieffpobgcpmaaGreatDoorSpecEToDy1hS
import Ieee.Arith
import Derived.Laws.FloatArith
import Derived.Laws.Bits64b
set_option maxRecDepth 100000
set_option maxHeartbeats 32000000
namespace Go.Proofs.YtfieffpobgcpmaaGreatDoor
open Go.RowKit Go.Proofs.Tryz
variable {K m e' x b a:Int} {X f:Nat} {neg:Bool}
structure Bx7 (w:World) (u v e u' v' e':Value) (W:World):Prop where
 q0:W.cell? ⟨w,0,none⟩=some u
 q1:W.cell? ⟨w,1,none⟩=some v
 q2:W.cell? ⟨w,2,none⟩=some e
 p0:W.cell? ⟨↑w+1,0,none⟩=some u'
 p1:W.cell? ⟨↑w+1,1,none⟩=some v'
 p2:W.cell? ⟨↑w+1,2,none⟩=some e'
 r1:W.cell? ⟨↑w+1+1,0,none⟩=some ↑false
 r2:W.cell? ⟨↑w+1+1,1,none⟩=some ↑()
 r3:W.cell? ⟨↑w+1+1,2,none⟩=some (.int .i64 0)
 r4: ∀j,W.frozen? ⟨↑w+1+1,j,none⟩=false
 le:w.heap.size+1+1+1<=W.heap.size
 bel:Below w w W
theorem Bx7.start (w:World) (u v e u' v' e':Value) (t t' t2:TypeId):Bx7 w u v e u' v' e' (((w.alloc (.cells #[u,v,e] t)).alloc (.cells #[u',v',e'] t')).alloc (.cells #[false,(),.int .i64 0] t2)):=by
 refine ⟨?_,?_,?_,?_,?_,?_,?_,?_,?_,?_,?_,νz _ _ _ _⟩
 all_goals simp [go_sem]
theorem Bx7.later {w:World} {u v e u' v' e':Value} {W W':World} (h:Bx7 w u v e u' v' e' W) (hb:Below W W W'):Bx7 w u v e u' v' e' W':=by
 have hl:=h.le
 exact ⟨(hb.cell (by simp;omega)).trans h.q0,(hb.cell (by simp;omega)).trans h.q1,(hb.cell (by simp;omega)).trans h.q2,(hb.cell (by simp;omega)).trans h.p0,(hb.cell (by simp;omega)).trans h.p1,(hb.cell (by simp;omega)).trans h.p2,
  (hb.cell (by simp;omega)).trans h.r1,(hb.cell (by simp;omega)).trans h.r2,(hb.cell (by simp;omega)).trans h.r3,fun j=>(hb.frozen (by simp;omega)).trans (h.r4 j),Nat.le_trans h.le hb.size,h.bel.trans (hb.mono (by omega))⟩
theorem Bx7.held {w:World} {u v e u' v' e':Value} {W W':World} (h:Bx7 w u v e u' v' e' W) (hb:Below (↑w+1+1) W W'):W'.cell? ⟨w,0,none⟩=some u∧W'.cell? ⟨w,1,none⟩=some v∧W'.cell? ⟨w,2,none⟩=some e∧W'.cell? ⟨↑w+1,0,none⟩=some u'∧W'.cell? ⟨↑w+1,1,none⟩=some v'∧W'.cell? ⟨↑w+1,2,none⟩=some e'∧Below (↑w+1+1) W W':=
 ⟨(hb.cell (by simp;omega)).trans h.q0,(hb.cell (by simp;omega)).trans h.q1,(hb.cell (by simp;omega)).trans h.q2,(hb.cell (by simp)).trans h.p0,(hb.cell (by simp)).trans h.p1,(hb.cell (by simp)).trans h.p2,hb⟩
theorem φU {n:Int} (h0: -9223372036854775808<=n) (h1:n<=9223372036854775807):IntKind.i64.wrap n=n:=by
 simp [IntKind.wrap,IntKind.bits,IntKind.signed]
 omega
theorem τQ (g g':Bool) (a a':Option Addr) (c c':Nat) (ds es:List Int) (m m' E' n:Int) (w:World) (hn:ds.length<=20000) (hn':es.length<=90000) (n0:0<=n) (n1:n<=200000) (h:L1 w g a c ds m) (h':L1 w g' a' c' es m'):
 Calls prog 143 #[.agg #[g,.slice a ds c,.int .i64 (E'+n)],.agg #[g',.slice a' es c',.int .i64 E']] w fun e w'=>ρE w (ds.length+es.length+12502) (m*2^n.toNat+m') E' e w':=by
 have B0:Hid (∀t t' t2,Bx7 w g (.slice a ds c) (.int .i64 (E'+n)) g' (.slice a' es c') (.int .i64 E') (((w.alloc (.cells #[g,.slice a ds c,.int .i64 (E'+n)] t)).alloc (.cells #[g',.slice a' es c',.int .i64 E'] t')).alloc (.cells #[false,(),.int .i64 0] t2))):=fun t t' t2=>Bx7.start w _ _ _ _ _ _ _ _ _
 have hlt: ¬E'+n<E':=by omega
 have hsub:E'+n-E'=n:=by omega
 have HW:Hid (IntKind.i64.wrap n=n):=φU (by omega) (by omega)
 go_enter func143,ntmps143
 go_wp2
 obtain ⟨W0,hW0⟩: ∃W0,W0=(((w.alloc (.cells #[g,.slice a ds c,.int .i64 (E'+n)] 176)).alloc (.cells #[g',.slice a' es c',.int .i64 E'] 176)).alloc (.cells #[false,(),.int .i64 0] 176)):=⟨_,rfl⟩
 have F:Hid (Bx7 w g (.slice a ds c) (.int .i64 (E'+n)) g' (.slice a' es c') (.int .i64 E') W0):=by unfold Hid;rw [hW0];exact B0.out _ _ _
 rw [<-hW0]
 clear hW0 B0
 have zz:w.heap.size+1+1<W0.heap.size:=F.out.le
 go_region_held3 (fun w'=>w'.cell? ⟨w,0,none⟩=some ↑g∧w'.cell? ⟨w,1,none⟩=some (.slice a ds c)∧w'.cell? ⟨w,2,none⟩=some (.int .i64 (E'+n))∧w'.cell? ⟨↑w+1,0,none⟩=some ↑g'∧w'.cell? ⟨↑w+1,1,none⟩=some (.slice a' es c')∧w'.cell? ⟨↑w+1,2,none⟩=some (.int .i64 E')∧Below (↑w+1+1) W0 w')
  (first|exact F.out.held (Below.refl _ _).drew|exact F.out.held (by assumption)|exact F.out.held (Below.setCell (Below.setCell (Below.setCell (by assumption) (by simp) _) (by simp) _) (by simp) _))
  (first
   |(go_at_call 73;rw [HW.out];refine (ρB g a c ds m n _ (by omega) n0 (by omega) (h.later F.out.bel.drew)).mono ?_;rintro e w1 ⟨g1,a1,c1,fs,rfl,hl1,hL1,hF1,hb1⟩;have hB1:Below W0 W0 w1:=(Below.refl _ _).drew.trans hb1;have hB1':Below (↑w+1+1) W0 w1:=hB1.mono (by omega))
   |(go_at_call 76;refine (χY g1 g' a1 a' c1 c' fs es _ m' _ (by omega) (by omega) hL1 (h'.later (F.out.bel.trans (hB1.mono (by omega))))).mono ?_;rintro e w2 ⟨g2,a2,c2,f2,rfl,hl2,hL2,hF2,hb2⟩;have hB2:Below W0 W0 w2:=hB1.trans (hb2.mono hB1.size);have hB2':Below (↑w+1+1) W0 w2:=hB2.mono (by omega);have F2:Hid (Bx7 w g (.slice a ds c) (.int .i64 (E'+n)) g' (.slice a' es c') (.int .i64 E') w2):=F.out.later hB2;have r1:=F2.out.r1;have r2:=F2.out.r2;have r3:=F2.out.r3;have r4:=F2.out.r4))
 have HL2:Hid (L1 w2 g2 a2 c2 f2 (m*2^n.toNat+m')):=hL2
 have HF2:Hid (Far (↑w+1+1+1) a2 f2):=hF2.down (by have:=hB1.size;have:=F.out.le;omega)
 clear hL2 hF2 hB1 hB1' hB2 hB2' hb1 hb2 hL1 hF1
 go_wp2
 refine bodyPost_ret (v:= .agg #[g2,.slice a2 f2 c2,.int .i64 E']) (by simp [results,results143,go_sem,r1,r2,r3]) rfl ?_
 refine ⟨g2,a2,c2,f2,rfl,by omega,?_,HF2.out.down (by omega),?_⟩
 ·exact ((HL2.out.setFar HF2.out (by simp) _).setFar HF2.out (by simp) _).setFar HF2.out (by simp) _
 ·exact ((F2.out.bel.setCell (by simp;omega) _).setCell (by simp;omega) _).setCell (by simp;omega) _
theorem τR (g g':Bool) (a a':Option Addr) (c c':Nat) (ds es:List Int) (m m' E' n:Int) (w:World) (hn:ds.length<=20000) (hn':es.length<=90000) (n0:0<n) (n1:n<=200000) (h:L1 w g a c ds m) (h':L1 w g' a' c' es m'):
 Calls prog 143 #[.agg #[g',.slice a' es c',.int .i64 E'],.agg #[g,.slice a ds c,.int .i64 (E'+n)]] w fun e w'=>ρE w (ds.length+es.length+12502) (m*2^n.toNat+m') E' e w':=by
 have B0:Hid (∀t t' t2,Bx7 w g (.slice a ds c) (.int .i64 (E'+n)) g' (.slice a' es c') (.int .i64 E') (((w.alloc (.cells #[g,.slice a ds c,.int .i64 (E'+n)] t)).alloc (.cells #[g',.slice a' es c',.int .i64 E'] t')).alloc (.cells #[false,(),.int .i64 0] t2))):=fun t t' t2=>Bx7.start w _ _ _ _ _ _ _ _ _
 have hlt:E'<E'+n:=by omega
 have hsub:E'+n-E'=n:=by omega
 have HW:Hid (IntKind.i64.wrap n=n):=φU (by omega) (by omega)
 go_enter func143,ntmps143
 go_wp2
 obtain ⟨W0,hW0⟩: ∃W0,W0=((((w.alloc (.cells #[g,.slice a ds c,.int .i64 (E'+n)] 176)).alloc (.cells #[g',.slice a' es c',.int .i64 E'] 176)).alloc (.cells #[false,(),.int .i64 0] 176)).alloc (.cells #[g',.slice a' es c',.int .i64 E'] 176)):=⟨_,rfl⟩
 have F:Hid (Bx7 w g (.slice a ds c) (.int .i64 (E'+n)) g' (.slice a' es c') (.int .i64 E') W0):=by unfold Hid;rw [hW0];exact (B0.out _ _ _).later (ζc _ _)
 rw [<-hW0]
 clear hW0 B0
 have zz:w.heap.size+1+1<W0.heap.size:=F.out.le
 go_region_held3 (fun w'=>w'.cell? ⟨w,0,none⟩=some ↑g∧w'.cell? ⟨w,1,none⟩=some (.slice a ds c)∧w'.cell? ⟨w,2,none⟩=some (.int .i64 (E'+n))∧w'.cell? ⟨↑w+1,0,none⟩=some ↑g'∧w'.cell? ⟨↑w+1,1,none⟩=some (.slice a' es c')∧w'.cell? ⟨↑w+1,2,none⟩=some (.int .i64 E')∧Below (↑w+1+1) W0 w')
  (first|exact F.out.held (Below.refl _ _).drew|exact F.out.held (by assumption)|exact F.out.held (Below.setCell (Below.setCell (Below.setCell (by assumption) (by simp) _) (by simp) _) (by simp) _))
  (first
   |(go_at_call 73;rw [HW.out];refine (ρB g a c ds m n _ (by omega) (by omega) (by omega) (h.later F.out.bel.drew)).mono ?_;rintro e w1 ⟨g1,a1,c1,fs,rfl,hl1,hL1,hF1,hb1⟩;have hB1:Below W0 W0 w1:=(Below.refl _ _).drew.trans hb1;have hB1':Below (↑w+1+1) W0 w1:=hB1.mono (by omega))
   |(go_at_call 76;refine (χY g1 g' a1 a' c1 c' fs es _ m' _ (by omega) (by omega) hL1 (h'.later (F.out.bel.trans (hB1.mono (by omega))))).mono ?_;rintro e w2 ⟨g2,a2,c2,f2,rfl,hl2,hL2,hF2,hb2⟩;have hB2:Below W0 W0 w2:=hB1.trans (hb2.mono hB1.size);have hB2':Below (↑w+1+1) W0 w2:=hB2.mono (by omega);have F2:Hid (Bx7 w g (.slice a ds c) (.int .i64 (E'+n)) g' (.slice a' es c') (.int .i64 E') w2):=F.out.later hB2;have r1:=F2.out.r1;have r2:=F2.out.r2;have r3:=F2.out.r3;have r4:=F2.out.r4))
 have HL2:Hid (L1 w2 g2 a2 c2 f2 (m*2^n.toNat+m')):=hL2
 have HF2:Hid (Far (↑w+1+1+1) a2 f2):=hF2.down (by have:=hB1.size;have:=F.out.le;omega)
 clear hL2 hF2 hB1 hB1' hB2 hB2' hb1 hb2 hL1 hF1
 go_wp2
 refine bodyPost_ret (v:= .agg #[g2,.slice a2 f2 c2,.int .i64 E']) (by simp [results,results143,go_sem,r1,r2,r3]) rfl ?_
 refine ⟨g2,a2,c2,f2,rfl,by omega,?_,HF2.out.down (by omega),?_⟩
 ·exact ((HL2.out.setFar HF2.out (by simp) _).setFar HF2.out (by simp) _).setFar HF2.out (by simp) _
 ·exact ((F2.out.bel.setCell (by simp;omega) _).setCell (by simp;omega) _).setCell (by simp;omega) _
def sumAt (m1 e1 m2 e2:Int):Int:=m1*2^(e1-min e1 e2).toNat+m2*2^(e2-min e1 e2).toNat
theorem κh (g g':Bool) (a a':Option Addr) (c c':Nat) (ds es:List Int) (m m' E E':Int) (w:World) (hn:ds.length<=20000) (hn':es.length<=20000) (he:E-E'<=200000) (he':E'-E<=200000) (h:L1 w g a c ds m) (h':L1 w g' a' c' es m'):
 Calls prog 143 #[.agg #[g,.slice a ds c,.int .i64 E],.agg #[g',.slice a' es c',.int .i64 E']] w fun e w'=>ρE w (ds.length+es.length+12502) (sumAt m E m' E') (min E E') e w':=by
 by_cases hh:E'<=E
 ·have:=τQ g g' a a' c c' ds es m m' E' (E-E') w hn (by omega) (by omega) (by omega) h h'
  rw [show E'+(E-E')=E by omega] at this
  unfold sumAt
  rw [show min E E'=E' by omega,show E'-E'=0 by omega]
  simpa using this
 ·have:=τR g' g a' a c' c es ds m' m E (E'-E) w hn' (by omega) (by omega) (by omega) h' h
  rw [show E+(E'-E)=E' by omega,Nat.add_comm es.length ds.length] at this
  unfold sumAt
  rw [show min E E'=E by omega,show E-E=0 by omega,Int.add_comm]
  simpa using this
def atK (K m e:Int):Int:=m*2^(e+K).toNat
theorem κi {e m':Int} (h:0<=e+K) (h':0<=e'+K):sumAt m e m' e'*2^(min e e'+K).toNat=atK K m e+atK K m' e':=by
 unfold sumAt atK
 rw [Int.add_mul,Int.mul_assoc,Int.mul_assoc,<-Int.pow_add,<-Int.pow_add]
 rw [show (e-min e e').toNat+(min e e'+K).toNat=(e+K).toNat by omega,show (e'-min e e').toNat+(min e e'+K).toNat=(e'+K).toNat by omega]
theorem ξo.at {e0:Int} {T:Nat} (h:ξo x e0 m e' T) (hK:0<=e0+K):atK K m e'=atK K x e0:=by
 unfold atK
 rcases h with ⟨h1,h2,_⟩| ⟨_,t,h2,h3,_⟩
 ·rw [h1,h2];simp
 ·rw [h2,h3,Int.mul_assoc,<-Int.pow_add]
  congr 2
  omega
theorem θy {p:Int} (hp:0<p):sgn (x*p)=sgn x:=by
 rcases sgn_cases x with ⟨h1,h2⟩| ⟨h1,h2⟩| ⟨h1,h2⟩
 ·rw [h2]
  have:x*p<0:=Int.mul_neg_of_neg_of_pos h1 hp
  unfold sgn
  rw [if_pos this]
 ·rw [h2,h1]
  simp [sgn]
 ·rw [h2]
  have:0<x*p:=Int.mul_pos h1 hp
  unfold sgn
  rw [if_neg (by omega),if_neg (by omega)]
theorem ρI {e m':Int} (h:0<=e+K) (h':0<=e'+K):sgn (sumAt m e m' e')=sgn (atK K m e+atK K m' e'):=by
 rw [<-κi h h',θy (Int.pow_pos (by decide))]
theorem τS (K m e:Int):atK K (-m) e= -atK K m e:=by unfold atK;rw [Int.neg_mul]
theorem ξo.bound {e0:Int} {T:Nat} (h:ξo x e0 m e' T):(e'=0∧m=0)∨(e0<=e'∧e'<=e0+T):=by
 rcases h with ⟨_,h2,h3⟩| ⟨_,t,_,h3,_,h5⟩
 ·exact .inl ⟨h3,h2⟩
 ·exact .inr ⟨by omega,by omega⟩
def ξf (b:Int):Int:=if b/8388608%256=0 then b%8388608 else b%8388608+8388608
def ξd (b:Int):Int:=if b/8388608%256=0 then 1 else b/8388608%256
def ξ8 (b:Int):Int:=if 2147483648<=b then-(ξf b) else ξf b
def ψb (b:Int):Bool:=b/8388608%256 !=255
def ρJ (b:Int):Int:=atK 150 (ξ8 b) (ξd b-150)
theorem θz (h0:0<=b) (h1:b<4294967296) (hf:ψb b=true):Ieee.single.read b.toNat= .number (decide (2147483648<=b)) (ξf b).toNat (ξd b-150):=by
 have hf':b/8388608%256≠255:=by simpa [ψb] using hf
 obtain ⟨n,rfl⟩:=Int.eq_ofNat_of_zero_le h0
 have e1:Ieee.single.signWeight=2147483648:=by decide
 have e2:Ieee.single.binade=8388608:=by decide
 have e3:Ieee.single.infRung=2139095040:=by decide
 have e4:Ieee.single.leastPlace= -149:=by decide
 unfold Ieee.Format.read
 simp only [e1,e2,e3,e4,Int.toNat_natCast]
 have hs:(n/2147483648%2==1)=decide ((2147483648:Int)<=(n:Int)):=by
  by_cases h:2147483648<=n
  ·have:n/2147483648%2=1:=by omega
   rw [this]
   symm
   simp
   omega
  ·have:n/2147483648%2=0:=by omega
   rw [this]
   symm
   simp
   omega
 rw [hs]
 by_cases hr:n%2147483648<8388608
 ·have hz:(n:Int)/8388608%256=0:=by omega
  rw [if_pos hr]
  simp only [ξf,ξd,hz,if_true]
  congr 1
  omega
 ·have hz: ¬((n:Int)/8388608%256=0):=by omega
  rw [if_neg hr,if_pos (by omega)]
  simp only [ξf,ξd,hz,if_false]
  congr 1<;>omega
theorem ζ8 (_h0:0<=b):1<=ξd b∧ξd b<=255:=by
 unfold ξd
 split<;>omega
theorem ηa:((some (compare a b):Option Ordering)==some .lt)=decide (a<b):=by
 rcases Int.lt_trichotomy a b with h|h|h
 ·rw [Int.compare_eq_lt.2 h];simp [h]
 ·subst h;rw [Int.compare_eq_eq.2 rfl];simp
 ·rw [Int.compare_eq_gt.2 h];simp;omega
theorem χZ:((some (compare a b):Option Ordering)==some .gt)=decide (b<a):=by
 rcases Int.lt_trichotomy a b with h|h|h
 ·rw [Int.compare_eq_lt.2 h];simp;omega
 ·subst h;rw [Int.compare_eq_eq.2 rfl];simp
 ·rw [Int.compare_eq_gt.2 h];simp [h]
theorem φf:((some (compare a a):Option Ordering) !=some .eq)=false:=by
 rw [Int.compare_eq_eq.2 rfl];rfl
def dMag (X:Nat):Nat:=if X<4503599627370496 then X else (4503599627370496+X%4503599627370496)*2^(X/4503599627370496-1)
theorem χ0 {Y:Nat} (h:X<Y):dMag X<dMag Y:=by
 unfold dMag
 have hp: ∀n,0<2^n:=fun n=>Nat.two_pow_pos n
 by_cases hX:X<4503599627370496
 ·rw [if_pos hX]
  by_cases hY:Y<4503599627370496
  ·rw [if_pos hY];exact h
  ·rw [if_neg hY]
   have h1:(4503599627370496+Y%4503599627370496)*1<=(4503599627370496+Y%4503599627370496)*2^(Y/4503599627370496-1):=Nat.mul_le_mul_left _ (hp _)
   omega
 ·have hY: ¬Y<4503599627370496:=by omega
  rw [if_neg hX,if_neg hY]
  by_cases hF:X/4503599627370496=Y/4503599627370496
  ·rw [hF]
   exact Nat.mul_lt_mul_of_pos_right (by omega) (hp _)
  ·obtain ⟨k,hk⟩: ∃k,Y/4503599627370496-1=(X/4503599627370496-1)+(k+1):=⟨Y/4503599627370496-X/4503599627370496-1,by omega⟩
   rw [hk,Nat.pow_add,Nat.pow_succ]
   have h2:(4503599627370496+X%4503599627370496)*2^(X/4503599627370496-1)<9007199254740992*2^(X/4503599627370496-1):=Nat.mul_lt_mul_of_pos_right (by omega) (hp _)
   have h3:9007199254740992*2^(X/4503599627370496-1)<=(4503599627370496+Y%4503599627370496)*(2^(X/4503599627370496-1)*(2^k*2)):=by
    have h4:1<=2^k:=hp k
    have h5:9007199254740992<=(4503599627370496+Y%4503599627370496)*(2^k*2):=by
     have:4503599627370496*(1*2)<=(4503599627370496+Y%4503599627370496)*(2^k*2):=Nat.mul_le_mul (by omega) (Nat.mul_le_mul h4 (Nat.le_refl _))
     omega
    calc 9007199254740992*2^(X/4503599627370496-1)<=((4503599627370496+Y%4503599627370496)*(2^k*2))*2^(X/4503599627370496-1):=Nat.mul_le_mul_right _ h5
     _=(4503599627370496+Y%4503599627370496)*(2^(X/4503599627370496-1)*(2^k*2)):=by rw [Nat.mul_assoc,Nat.mul_comm (2^k*2)]
   omega
theorem ζ9:Ieee.double.signWeight=9223372036854775808∧Ieee.double.binade=4503599627370496∧Ieee.double.infRung=9218868437227405312∧Ieee.double.leastPlace= -1074:=by decide
theorem φV (h:X<9218868437227405312): ∃(m:Nat) (i:Int),Ieee.double.read X= .number false m i∧ -1074<=i∧m*2^(i+1074).toNat=dMag X:=by
 obtain ⟨e1,e2,e3,e4⟩:=ζ9
 unfold Ieee.Format.read dMag
 simp only [e1,e2,e3,e4]
 have hs:(X/9223372036854775808%2==1)=false:=by
  have:X/9223372036854775808=0:=Nat.div_eq_of_lt (by omega)
  rw [this];rfl
 rw [hs,Nat.mod_eq_of_lt (by omega)]
 by_cases hX:X<4503599627370496
 ·rw [if_pos hX,if_pos hX]
  exact ⟨X,-1074,rfl,by omega,by simp⟩
 ·rw [if_neg hX,if_pos (by omega),if_neg hX]
  refine ⟨_,_,rfl,by omega,?_⟩
  congr 2
  omega
theorem ωL {Y:Nat} (hX:X<9218868437227405312) (hY:Y<9218868437227405312):Ieee.double.order X Y=some (compare (X:Int) (Y:Int)):=by
 obtain ⟨m,i,e1,hi,h1⟩:=φV hX
 obtain ⟨n,j,e2,hj,h2⟩:=φV hY
 unfold Ieee.Format.order
 rw [e1,e2]
 simp only [Ieee.Datum.order,Ieee.signed,Bool.false_eq_true,if_false]
 congr 1
 have key: ∀{m:Nat} {i b:Int},b<=i-> -1074<=b->((m<<<(i-b).toNat:Nat):Int)*2^(b+1074).toNat=((m*2^(i+1074).toNat:Nat):Int):=by
  intro m i b hb hb'
  rw [Nat.shiftLeft_eq]
  push_cast
  rw [Int.mul_assoc,<-Int.pow_add,show (i-b).toNat+(b+1074).toNat=(i+1074).toNat by omega]
 have k1:=key (m:=m) (i:=i) (b:=min i j) (by omega) (by omega)
 have k2:=key (m:=n) (i:=j) (b:=min i j) (by omega) (by omega)
 rw [h1] at k1
 rw [h2] at k2
 have hp:(0:Int)<2^(min i j+1074).toNat:=Int.pow_pos (by decide)
 generalize ((m<<<(i-min i j).toNat:Nat):Int)=a at*
 generalize ((n<<<(j-min i j).toNat:Nat):Int)=b at*
 generalize (2:Int)^(min i j+1074).toNat=p at*
 rcases Nat.lt_trichotomy X Y with h|h|h
 ·have:=χ0 h
  have h3:a*p<b*p:=by rw [k1,k2];omega
  have h4:a<b:=Int.lt_of_mul_lt_mul_right h3 (Int.le_of_lt hp)
  rw [Int.compare_eq_lt.2 h4,Int.compare_eq_lt.2 (by omega)]
 ·subst h
  have h3:a*p=b*p:=by rw [k1,k2]
  have h4:a=b:=Int.eq_of_mul_eq_mul_right (Int.ne_of_gt hp) h3
  rw [h4,Int.compare_eq_eq.2 rfl,Int.compare_eq_eq.2 rfl]
 ·have:=χ0 h
  have h3:b*p<a*p:=by rw [k1,k2];omega
  have h4:b<a:=Int.lt_of_mul_lt_mul_right h3 (Int.le_of_lt hp)
  rw [Int.compare_eq_gt.2 h4,Int.compare_eq_gt.2 (by omega)]
theorem ηP {q B:Nat} (h2:q<=2045) (h1:B<2^53):q*4503599627370496+B<=9218868437227405312:=by
 have h3:B<9007199254740992:=h1
 omega
theorem ωM {M:Nat} {P:Int} {L:Nat} (hL:2^L<=M) (hL':M<2^(L+1)) (h52:L<=52) (hP: -1022<=P+L) (hP':P+L<=1023):
 Ieee.double.nearest neg M P=Ieee.double.word neg ((P+L+1022).toNat*4503599627370496+M*2^(52-L)):=by
 obtain ⟨e1,e2,e3,e4⟩:=ζ9
 have hM:M≠0:=by have:=Nat.two_pow_pos L;omega
 have hlog:M.log2=L:=by
  apply Nat.le_antisymm
  ·exact Nat.lt_succ_iff.1 ((Nat.log2_lt hM).2 hL')
  ·exact (Nat.le_log2 hM).2 hL
 unfold Ieee.Format.nearest
 rw [if_neg hM]
 simp only [hlog,e2,e3,e4]
 have hf:Ieee.double.fractionBits=52:=rfl
 have hlast:max (P+(L:Int)-((Ieee.double.fractionBits:Nat):Int)) (-1074)=P+L-52:=by rw [hf];omega
 rw [hlast]
 have hcut:Ieee.Toward.even.cut neg (M<<<(P-(P+L-52)).toNat) (P+L-52-P).toNat=M*2^(52-L):=by
  rw [show (P-(P+(L:Int)-52)).toNat=52-L by omega,show (P+(L:Int)-52-P).toNat=0 by omega]
  unfold Ieee.Toward.cut
  simp only [Nat.zero_min,Nat.shiftLeft_zero,Nat.div_one,Nat.mod_one]
  rw [Nat.shiftLeft_eq]
  simp
 rw [hcut]
 congr 1
 have h1:M*2^(52-L)<2^(L+1)*2^(52-L):=Nat.mul_lt_mul_of_pos_right hL' (Nat.two_pow_pos _)
 rw [<-Nat.pow_add,show L+1+(52-L)=53 by omega] at h1
 rw [show (P+(L:Int)-52- -1074).toNat=(P+L+1022).toNat by omega]
 have h2:(P+L+1022).toNat<=2045:=by omega
 generalize (P+L+1022).toNat=q at*
 generalize M*2^(52-L)=B at*
 exact Nat.min_eq_left (ηP h2 h1)
theorem ρK (n:Nat) (h:n<18446744073709551616):IntKind.u64.wrap (n:Int)=n:=by
 simp only [IntKind.wrap,IntKind.bits,IntKind.signed]
 simp
 omega
theorem φW (a:Nat) (h:a<18446744073709551616):(BitVec.ofInt 64 (a:Int)).toNat=a:=by
 rw [BitVec.ofInt_natCast,BitVec.toNat_ofNat]
 exact Nat.mod_eq_of_lt (by omega)
theorem χG (a b:Nat) (ha:a<18446744073709551616) (hb:b<18446744073709551616):bits .andNot .u64 (a:Int) (b:Int)=((a &&& (18446744073709551615-b):Nat):Int):=by
 have e:(BitVec.ofInt 64 (a:Int) &&& ~~~ BitVec.ofInt 64 (b:Int)).toNat=a &&& (18446744073709551615-b):=by
  rw [BitVec.toNat_and,BitVec.toNat_not,φW a ha,φW b hb]
 show IntKind.u64.wrap ((BitVec.ofInt 64 (a:Int) &&& ~~~ BitVec.ofInt 64 (b:Int)).toNat:Int)=_
 rw [e]
 exact ρK _ (Nat.lt_of_le_of_lt Nat.and_le_left ha)
theorem κj (a:Nat) (h:a<18446744073709551616):bits .andNot .u64 (a:Int) 9223372036854775808=((a%9223372036854775808:Nat):Int):=by
 have:=χG a 9223372036854775808 h (by decide)
 rw [show ((9223372036854775808:Nat):Int)=9223372036854775808 from rfl] at this
 rw [this]
 have e:a &&& (18446744073709551615-9223372036854775808)=a%9223372036854775808:=by
  show a &&& (2^63-1)=a%2^63
  exact Nat.and_two_pow_sub_one_eq_mod a 63
 rw [e]
theorem φX (a:Nat) (h:a<9223372036854775808):bits .andNot .u64 (a:Int) 9218868437227405312=((a%4503599627370496:Nat):Int):=by
 have:=χG a 9218868437227405312 (by omega) (by decide)
 rw [show ((9218868437227405312:Nat):Int)=9218868437227405312 from rfl] at this
 rw [this]
 have hm:18446744073709551615-9218868437227405312=2^63||| (2^52-1):=by decide
 have e:a &&& (18446744073709551615-9218868437227405312)=a%2^52:=by
  rw [hm]
  apply Nat.eq_of_testBit_eq
  intro i
  rw [Nat.testBit_and,Nat.testBit_or,Nat.testBit_two_pow,Nat.testBit_two_pow_sub_one,Nat.testBit_mod_two_pow]
  by_cases hi:i=63
  ·subst hi
   have:a.testBit 63=false:=Nat.testBit_lt_two_pow h
   rw [this]
   simp
  ·have h63:(decide (63=i))=false:=by simp;omega
   rw [h63,Bool.false_or,Bool.and_comm]
 rw [e]
theorem κk (F:Nat) (h:F<2048):bits .and .u64 (F:Int) 2047=F:=by
 have:=bits_and_u64_nat F 2047 (by omega) (by decide)
 rw [show ((2047:Nat):Int)=2047 from rfl] at this
 rw [this]
 have e:F &&& 2047=F:=by
  show F &&& (2^11-1)=F
  rw [Nat.and_two_pow_sub_one_eq_mod]
  exact Nat.mod_eq_of_lt h
 rw [e]
theorem ωN (F:Nat) (h:F<2048):bits .and .i64 (F:Int) 2047=F:=by
 have e:(BitVec.ofInt 64 (F:Int) &&& BitVec.ofInt 64 2047).toNat=F:=by
  rw [BitVec.toNat_and,φW F (by omega)]
  show F &&& (2^11-1)=F
  rw [Nat.and_two_pow_sub_one_eq_mod]
  exact Nat.mod_eq_of_lt h
 show IntKind.i64.wrap ((BitVec.ofInt 64 (F:Int) &&& BitVec.ofInt 64 2047).toNat:Int)=_
 rw [e]
 simp only [IntKind.wrap,IntKind.bits,IntKind.signed]
 simp
 omega
theorem φY (f G:Nat) (hf:f<4503599627370496) (hG:G<2048):bits .or .u64 (f:Int) ((G*4503599627370496:Nat):Int)=((G*4503599627370496+f:Nat):Int):=by
 have e:(BitVec.ofInt 64 (f:Int)|||BitVec.ofInt 64 ((G*4503599627370496:Nat):Int)).toNat=G*4503599627370496+f:=by
  rw [BitVec.toNat_or,φW _ (by omega),φW _ (by omega)]
  have:=Nat.shiftLeft_add_eq_or_of_lt (b:=f) (i:=52) hf G
  rw [Nat.shiftLeft_eq] at this
  rw [Nat.or_comm]
  exact this.symm
 show IntKind.u64.wrap ((BitVec.ofInt 64 (f:Int)|||BitVec.ofInt 64 ((G*4503599627370496:Nat):Int)).toNat:Int)=_
 rw [e]
 exact ρK _ (by omega)
def dOf (b:Int):Nat:=if (ξf b).toNat=0 then 0 else (ξd b-150+(ξf b).toNat.log2+1022).toNat*4503599627370496+(ξf b).toNat*2^(52-(ξf b).toNat.log2)
theorem φZ (_h0:0<=b):0<=ξf b∧ξf b<16777216:=by
 unfold ξf
 split<;>omega
theorem φ0 (h0:0<=b) (hf:ψb b=true) (hM:(ξf b).toNat≠0): ∃(L F f:Nat),L<=23∧2^L<=(ξf b).toNat∧(ξf b).toNat<2^(L+1)∧(F:Int)=ξd b-150+L+1023∧1<=F∧F<=1150∧f<4503599627370496∧4503599627370496+f=(ξf b).toNat*2^(52-L)∧dOf b=F*4503599627370496+f∧L=(ξf b).toNat.log2:=by
 have h1:=φZ h0
 have h2:=ζ8 h0
 have h3:ξd b<=254:=by
  have:b/8388608%256≠255:=by simpa [ψb] using hf
  unfold ξd
  split<;>omega
 have hl1:=Nat.log2_self_le hM
 have hl2:(ξf b).toNat<2^((ξf b).toNat.log2+1):=Nat.lt_log2_self
 have hL:(ξf b).toNat.log2<=23:=by
  have:(ξf b).toNat.log2<24:=(Nat.log2_lt hM).2 (by show _<16777216;omega)
  omega
 have hd:dOf b=(ξd b-150+(ξf b).toNat.log2+1022).toNat*4503599627370496+(ξf b).toNat*2^(52-(ξf b).toNat.log2):=by unfold dOf;rw [if_neg hM]
 obtain ⟨L,hLL⟩: ∃L,L=(ξf b).toNat.log2:=⟨_,rfl⟩
 rw [<-hLL] at hl1 hl2 hL hd
 have hlo:2^L*2^(52-L)<=(ξf b).toNat*2^(52-L):=Nat.mul_le_mul_right _ hl1
 have hhi:(ξf b).toNat*2^(52-L)<2^(L+1)*2^(52-L):=Nat.mul_lt_mul_of_pos_right hl2 (Nat.two_pow_pos _)
 rw [<-Nat.pow_add,show L+(52-L)=52 by omega] at hlo
 rw [<-Nat.pow_add,show L+1+(52-L)=53 by omega] at hhi
 have hlo':4503599627370496<=(ξf b).toNat*2^(52-L):=hlo
 have hhi':(ξf b).toNat*2^(52-L)<9007199254740992:=hhi
 refine ⟨L,(ξd b-150+L+1023).toNat,(ξf b).toNat*2^(52-L)-4503599627370496,hL,hl1,hl2,by omega,by omega,by omega,by omega,by omega,?_,hLL⟩
 rw [hd]
 generalize (ξf b).toNat*2^(52-L)=m at*
 have:(ξd b-150+L+1023).toNat=(ξd b-150+L+1022).toNat+1:=by omega
 rw [this,Nat.add_mul]
 omega
theorem κl (h:X<9218868437227405312):(Ieee.double.read (Ieee.double.word neg X)).isInfinity=false:=by
 obtain ⟨e1,e2,e3,e4⟩:=ζ9
 unfold Ieee.Format.read Ieee.Format.word
 simp only [e1,e2,e3,e4]
 have hr:(if neg=true then 9223372036854775808+X else X)%9223372036854775808=X:=by
  cases neg
  ·simp;omega
  ·simp;omega
 rw [hr]
 by_cases h1:X<4503599627370496
 ·rw [if_pos h1];rfl
 ·rw [if_neg h1,if_pos h];rfl
theorem ηb (h0:0<=b) (h1:b<4294967296) (hf:ψb b=true):floatToFloatBits .f32 b.toNat .f64=some (Ieee.double.word (decide (2147483648<=b)) (dOf b)):=by
 have hr:FloatKind.f32.decode b.toNat= .number (decide (2147483648<=b)) (ξf b).toNat (ξd b-150):=θz h0 h1 hf
 have he:FloatKind.f64.encode (.number (decide (2147483648<=b)) (ξf b).toNat (ξd b-150))=Ieee.double.word (decide (2147483648<=b)) (dOf b):=by
  show Ieee.double.nearest _ _ _=_
  by_cases hM:(ξf b).toNat=0
  ·unfold Ieee.Format.nearest dOf
   rw [if_pos hM,if_pos hM]
  ·obtain ⟨L,F,f,hL,hl1,hl2,hF,hF1,hF2,hf1,hf2,hd,hLL⟩:=φ0 h0 hf hM
   rw [ωM hl1 hl2 (by omega) (by omega) (by omega)]
   congr 1
   unfold dOf
   rw [if_neg hM,<-hLL]
 have hlt:dOf b<9218868437227405312:=by
  by_cases hM:(ξf b).toNat=0
  ·unfold dOf;rw [if_pos hM];decide
  ·obtain ⟨L,F,f,hL,hl1,hl2,hF,hF1,hF2,hf1,hf2,hd,hLL⟩:=φ0 h0 hf hM
   rw [hd]
   omega
 unfold floatToFloatBits
 rw [if_neg (by decide),hr]
 simp only
 rw [he]
 have h2:(FloatKind.f64.decode (Ieee.double.word (decide (2147483648<=b)) (dOf b))).isInfinity=false:=κl hlt
 rw [h2]
 rfl
theorem φ1 {F:Nat} (h1:1<=F) (h2:F<=2046) (hf:f<4503599627370496):Ieee.double.read (F*4503599627370496+f)= .number false (4503599627370496+f) ((F:Int)-1075):=by
 obtain ⟨e1,e2,e3,e4⟩:=ζ9
 unfold Ieee.Format.read
 simp only [e1,e2,e3,e4]
 have hX:F*4503599627370496+f<9218868437227405312:=by omega
 have hs:((F*4503599627370496+f)/9223372036854775808%2==1)=false:=by
  have:(F*4503599627370496+f)/9223372036854775808=0:=Nat.div_eq_of_lt (by omega)
  rw [this];rfl
 rw [hs,Nat.mod_eq_of_lt (by omega),if_neg (by omega),if_pos hX]
 have q1:(F*4503599627370496+f)%4503599627370496=f:=by omega
 have q2:(F*4503599627370496+f)/4503599627370496=F:=by omega
 rw [q1,q2]
 congr 1
 omega
theorem ηc {way:Ieee.Toward} (hw:way= .even∨way= .zero) {m k:Nat} (hm:m≠0):way.cut neg (m*2^k) k=m:=by
 have hmk:m*2^k≠0:=Nat.mul_ne_zero hm (Nat.ne_of_gt (Nat.two_pow_pos _))
 have hlog:k<=(m*2^k).log2:=(Nat.le_log2 hmk).2 (by
  have:1*2^k<=m*2^k:=Nat.mul_le_mul_right _ (by omega)
  omega)
 have hmin:min k ((m*2^k).log2+2)=k:=by omega
 unfold Ieee.Toward.cut
 simp only [hmin,Nat.shiftLeft_eq,Nat.one_mul]
 rw [Nat.mul_div_cancel _ (Nat.two_pow_pos _),Nat.mul_mod_left]
 rcases hw with rfl|rfl
 ·have:(decide (2^k<2*0)|| (2^k==2*0 && m%2==1))=false:=by
   have hp:=Nat.two_pow_pos k
   have h1:decide (2^k<2*0)=false:=by simp
   have h2:(2^k==2*0)=false:=by rw [beq_eq_false_iff_ne];omega
   rw [h1,h2];rfl
  simp only [this]
  rfl
 ·rfl
theorem φt {F:Nat} (h1:1<=F) (h2:F<=2046) (hf:f<4503599627370496):floatBits .mul .f64 4607182418800017408 (F*4503599627370496+f)=some (F*4503599627370496+f):=by
 obtain ⟨e1,e2,e3,e4⟩:=ζ9
 have hone:Ieee.double.read 4607182418800017408= .number false 4503599627370496 (-52):=by
  have:=φ1 (F:=1023) (f:=0) (by decide) (by decide) (by decide)
  exact this
 show ((Ieee.double.read 4607182418800017408).product (Ieee.double.read (F*4503599627370496+f))).map Ieee.double.write=_
 rw [hone,φ1 h1 h2 hf]
 simp only [Ieee.Datum.product,Option.map_some,Bool.xor_self]
 congr 1
 show Ieee.double.nearest false (4503599627370496*(4503599627370496+f)) (-52+((F:Int)-1075))=_
 have hm:4503599627370496+f≠0:=by omega
 have hne:4503599627370496*(4503599627370496+f)≠0:=Nat.mul_ne_zero (by decide) hm
 have hlog:(4503599627370496*(4503599627370496+f)).log2=104:=by
  apply Nat.le_antisymm
  ·apply Nat.lt_succ_iff.1
   apply (Nat.log2_lt hne).2
   show 4503599627370496*(4503599627370496+f)<4503599627370496*9007199254740992
   exact Nat.mul_lt_mul_of_pos_left (by omega) (by decide)
  ·apply (Nat.le_log2 hne).2
   show 4503599627370496*4503599627370496<=_
   exact Nat.mul_le_mul_left _ (by omega)
 unfold Ieee.Format.nearest
 rw [if_neg hne]
 simp only [hlog,e2,e3,e4]
 have hfb:Ieee.double.fractionBits=52:=rfl
 have hlast:max (-52+((F:Int)-1075)+((104:Nat):Int)-((Ieee.double.fractionBits:Nat):Int)) (-1074)=(F:Int)-1075:=by rw [hfb];omega
 rw [hlast]
 have hcut:Ieee.Toward.even.cut false ((4503599627370496*(4503599627370496+f))<<<(-52+((F:Int)-1075)-((F:Int)-1075)).toNat) ((F:Int)-1075-(-52+((F:Int)-1075))).toNat=4503599627370496+f:=by
  rw [show (-52+((F:Int)-1075)-((F:Int)-1075)).toNat=0 by omega,show ((F:Int)-1075-(-52+((F:Int)-1075))).toNat=52 by omega,Nat.shiftLeft_zero,Nat.mul_comm]
  exact ηc (way:= .even) (neg:=false) (m:=4503599627370496+f) (k:=52) (.inl rfl) hm
 rw [hcut,show ((F:Int)-1075- -1074).toNat=F-1 by omega]
 unfold Ieee.Format.word
 rw [if_neg (by decide)]
 have hle:(F-1)*4503599627370496+(4503599627370496+f)=F*4503599627370496+f:=by omega
 rw [hle]
 exact Nat.min_eq_left (by omega)
theorem ηQ {n:Nat} (hf:f<4503599627370496) (hn:4503599627370496+f=n*536870912):floatToIntVal .f64 (1046*4503599627370496+f) .u32=some (n:Int):=by
 have hn0:n≠0:=by omega
 have hd:(FloatKind.f64.decode (1046*4503599627370496+f)).toInt .zero=some (n:Int):=by
  show (Ieee.double.read (1046*4503599627370496+f)).toInt .zero=_
  rw [φ1 (by decide) (by decide) hf]
  simp only [Ieee.Datum.toInt,Ieee.Datum.integral]
  have hc:Ieee.Toward.zero.cut false ((4503599627370496+f)<<<(((1046:Nat):Int)-1075).toNat) (-(((1046:Nat):Int)-1075)).toNat=n:=by
   rw [show (((1046:Nat):Int)-1075).toNat=0 by decide,show (-(((1046:Nat):Int)-1075)).toNat=29 by decide,Nat.shiftLeft_zero,hn]
   exact ηc (way:= .zero) (neg:=false) (m:=n) (k:=29) (.inr rfl) hn0
  rw [hc]
  simp [Ieee.signed]
 unfold floatToIntVal
 rw [hd]
 simp only
 rw [if_pos ⟨by show (0:Int)<=n;omega,by show (n:Int)<=4294967295;omega⟩]
theorem ηR:floatToIntVal .f64 0 .u32=some 0:=by decide
end Go.Proofs.YtfieffpobgcpmaaGreatDoor
