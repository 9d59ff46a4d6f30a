import Derived.Test.YtfieffpobgcpmaaGreatDoorFlEMathFEsAS
import Derived.Deep.RegionLaw
import Derived.Test.YtfieffpobgcpmaaGreatDoorBoxToNumSS
set_option maxRecDepth 100000
set_option maxHeartbeats 32000000
namespace Go.Proofs.YtfieffpobgcpmaaGreatDoor
open Go.RowKit Go.Proofs.Tryz
variable {i x y:Nat} {a b:Int}
open Fl (IsF Nr ζz ζE absI Est)
def ζu (v:Value) (k e:Nat) (S A:Int):Prop:= ∃(x y:Nat) (a b:Int),v= .agg #[x,y]∧IsF x a∧IsF y b∧Est k e S A a b
def ζ4 (w:World) (k e:Nat) (S A:Int) (o:Ending) (w':World):Prop:= ∃v,o= .returned v∧ζu v k e S A∧Below w w w'
theorem frow3 (w:World) (x y z:Nat) (t:TypeId):νB (w.alloc (.cells #[x,y,z] t)) w 3 (fun j=>if j=0 then x else if j=1 then y else z):=by
 refine ⟨by simp,fun j hj=> ?_⟩
 match j,hj with
 |0,_=>simp
 |1,_=>simp
 |2,_=>simp
def Mg (i:Nat) (a:Int):Prop:= -(2^i)<=a∧a<=2^i
theorem Mg.up {j:Nat} (h:Mg i a) (hij:i<=j):Mg j a:=by
 have:=Fl.pow_le hij
 exact ⟨by have:=h.1;omega,by have:=h.2;omega⟩
theorem addB (hx:IsF x a) (hy:IsF y b) (ha:Mg i a) (hb:Mg i b) (hi:i<=2080): ∃z r,floatBits .add .f64 x y=some z∧IsF z r∧Nr 0 (a+b) r∧Mg (i+1) r:=by
 have h1:=Fl.pow_succ2 i
 have h2:(2:Int)^(i+1)<=2^2090:=Fl.pow_le (by omega)
 obtain ⟨a1,a2⟩:=ha
 obtain ⟨b1,b2⟩:=hb
 obtain ⟨z,r,e,hz,hn⟩:=Fl.add_isF hx hy (by omega) (by omega)
 exact ⟨z,r,e,hz,hn,hn.ge (Fl.Fl.pow (i+1)).neg (by simp;omega),hn.le (Fl.Fl.pow (i+1)) (by simp;omega)⟩
theorem subB (hx:IsF x a) (hy:IsF y b) (ha:Mg i a) (hb:Mg i b) (hi:i<=2080): ∃z r,floatBits .sub .f64 x y=some z∧IsF z r∧Nr 0 (a-b) r∧Mg (i+1) r:=by
 have h1:=Fl.pow_succ2 i
 have h2:(2:Int)^(i+1)<=2^2090:=Fl.pow_le (by omega)
 obtain ⟨a1,a2⟩:=ha
 obtain ⟨b1,b2⟩:=hb
 obtain ⟨z,r,e,hz,hn⟩:=Fl.sub_isF hx hy (by omega) (by omega)
 exact ⟨z,r,e,hz,hn,hn.ge (Fl.Fl.pow (i+1)).neg (by simp;omega),hn.le (Fl.Fl.pow (i+1)) (by simp;omega)⟩
theorem κq {x':Nat} {a':Int} (hx:IsF x a) (hx':IsF x' a') (ha:Mg i a) (ha':Mg i a') (hi:i<=2070): ∃zs zp zd zu zv zl s,floatBits .add .f64 x x'=some zs∧floatBits .sub .f64 zs x=some zp∧floatBits .sub .f64 zs zp=some zd∧floatBits .sub .f64 x zd=some zu∧floatBits .sub .f64 x' zp=some zv∧floatBits .add .f64 zu zv=some zl∧IsF zs s∧Nr 0 (a+a') s∧IsF zl (a+a'-s):=by
 obtain ⟨zs,s,e1,f1,n1,m1⟩:=addB hx hx' ha ha' (by omega)
 obtain ⟨zp,p,e2,f2,n2,m2⟩:=subB f1 hx m1 (ha.up (by omega)) (by omega)
 obtain ⟨zd,d,e3,f3,n3,m3⟩:=subB f1 f2 (m1.up (by omega)) m2 (by omega)
 obtain ⟨zu,u,e4,f4,n4,m4⟩:=subB hx f3 (ha.up (by omega)) m3 (by omega)
 obtain ⟨zv,v,e5,f5,n5,m5⟩:=subB hx' f2 (ha'.up (by omega)) m2 (by omega)
 obtain ⟨zl,l,e6,f6,n6,m6⟩:=addB f4 f5 m4 (m5.up (by omega)) (by omega)
 have hl:=Fl.two_sum (IsF.fl hx) (IsF.fl hx') n1 n2 n3 n4 n5 n6
 subst hl
 exact ⟨zs,zp,zd,zu,zv,zl,s,e1,e2,e3,e4,e5,e6,f1,n1,f6⟩
theorem ξM {n:Int} (h:Mg i n):absI n<=2^i:=by
 obtain ⟨h1,h2⟩:=h
 rcases Fl.absI_cases n with ⟨_,e⟩| ⟨_,e⟩<;>rw [e]<;>omega
theorem ζY (a:Addr) (x:Nat) (m:Mode) (w:World):(store a x m).run prog w=stored prog w a x m:=run_store prog w a _ m rfl
structure Pr (W:World) (b:Nat) (u v:Value):Prop where
 c0:W.cell? ⟨b,0,none⟩=some u
 c1:W.cell? ⟨b,1,none⟩=some v
 fz: ∀j,W.frozen? ⟨b,j,none⟩=false
 lt:b<W.heap.size
theorem Pr.later {W W':World} {b:Nat} {u v:Value} (h:Pr W b u v) (hb:Below W W W'):Pr W' b u v:=
 ⟨((ζj hb).1 _ _ h.lt).trans h.c0,((ζj hb).1 _ _ h.lt).trans h.c1,fun j=>((ζj hb).2 _ _ h.lt).trans (h.fz j),Nat.lt_of_lt_of_le h.lt hb.size⟩
theorem ψc (w:World) (u1 v1 u2 v2 u3 v3:Value) (t:TypeId) (c:Array Value) (t':TypeId):Pr ((((w.alloc (.cells #[u1,v1] t)).alloc (.cells #[u2,v2] t)).alloc (.cells #[u3,v3] t)).alloc (.cells c t')) (↑w+1+1) u3 v3∧Below w w ((((w.alloc (.cells #[u1,v1] t)).alloc (.cells #[u2,v2] t)).alloc (.cells #[u3,v3] t)).alloc (.cells c t')):=by
 refine ⟨⟨by simp [go_sem],by simp [go_sem],fun j=>by simp [go_sem],by simp⟩,?_⟩
 exact (ξr _ _ _).trans ((ξr _ _ _).mono (by simp;omega))
theorem ξP (u v:Value) (k e:Nat) (S A B:Int) (w:World) (he:e<=900) (hu:ζu u k e S A) (hv:ζu v k e S B):
 Calls prog 214 #[u,v] w fun o w'=>ζ4 w k (e+4) S (A+B) o w':=by
 obtain ⟨x,y,a,b,rfl,hx,hy,hA⟩:=hu
 obtain ⟨x',y',a',b',rfl,hx',hy',hB⟩:=hv
 obtain ⟨zs,zp,zd,zu,zv,zl,s,e1,e2,e3,e4,e5,e6,fs,ns,fl⟩:=κq (i:=1074+e) hx hx' ⟨hA.v2,hA.v1⟩ ⟨hB.v2,hB.v1⟩ (by omega)
 have r1:=fun w:World=>run_float_arith (P:=prog) w .add 84 .f64 x x' zs e1
 have r2:=fun w:World=>run_float_arith (P:=prog) w .sub 84 .f64 zs x zp e2
 have r3:=fun w:World=>run_float_arith (P:=prog) w .sub 84 .f64 zs zp zd e3
 have r4:=fun w:World=>run_float_arith (P:=prog) w .sub 84 .f64 x zd zu e4
 have r5:=fun w:World=>run_float_arith (P:=prog) w .sub 84 .f64 x' zp zv e5
 have r6:=fun w:World=>run_float_arith (P:=prog) w .add 84 .f64 zu zv zl e6
 have HL:Hid (absI (a+a'-s)<=2^(1074+e)):=Int.le_trans (Fl.loss_le (IsF.fl hx) ns) (ξM ⟨hB.v2,hB.v1⟩)
 have HH:Hid (IsF x a∧IsF y b∧Est k e S A a b∧IsF x' a'∧IsF y' b'∧Est k e S B a' b'∧IsF zs s∧Nr 0 (a+a') s∧IsF zl (a+a'-s)):=⟨hx,hy,hA,hx',hy',hB,fs,ns,fl⟩
 clear e1 e2 e3 e4 e5 e6 hx hy hA hx' hy' hB fs ns fl
 go_enter func214,ntmps214
 go_wp2_with fail
 refine (ψH (↑w+1+1+1) 3 3 (1074+e) (fun j=>if j=0 then y else if j=1 then y' else zl) (fun j=>if j=0 then b else if j=1 then b' else a+a'-s) _ (by omega) (by omega) ?_ ?_ ?_).mono ?_
 ·have:=frow3 (((w.alloc (.cells #[.float .f64 x,.float .f64 y] 86)).alloc (.cells #[.float .f64 x',.float .f64 y'] 86)).alloc (.cells #[oOo,oOo] 86)) y y' zl 84
  simpa using this
 ·intro j hj
  match j,hj with
  |0,_=>exact HH.out.2.1
  |1,_=>exact HH.out.2.2.2.2.1
  |2,_=>exact HH.out.2.2.2.2.2.2.2.2
 ·intro j hj
  match j,hj with
  |0,_=>exact ξM ⟨by have:=HH.out.2.2.1.b0;have:=Fl.pow_pos2 (1074+e);show-(2^(1074+e))<=b;omega,HH.out.2.2.1.b1⟩
  |1,_=>exact ξM ⟨by have:=HH.out.2.2.2.2.2.1.b0;have:=Fl.pow_pos2 (1074+e);show-(2^(1074+e))<=b';omega,HH.out.2.2.2.2.2.1.b1⟩
  |2,_=>exact HL.out
 rintro o w1 ⟨z,β,rfl,hz,hβ,hβ1,hb⟩
 obtain ⟨F0,B0⟩:=ψc w (.float .f64 x) (.float .f64 y) (.float .f64 x') (.float .f64 y') oOo oOo 86 #[.float .f64 y,.float .f64 y',.float .f64 zl] 84
 have F1:=F0.later hb
 have r7:=F1.c0
 have r8:=F1.c1
 have r9:=F1.fz
 have HB:Hid (Below w w w1):=B0.trans (hb.mono B0.size)
 have HE:Hid (ζu (.agg #[.float .f64 zs,.float .f64 z]) k (e+4) S (A+B)):=by
  refine ⟨zs,z,s,β,rfl,HH.out.2.2.2.2.2.2.1,hz,HH.out.2.2.1.plus HH.out.2.2.2.2.2.1 HH.out.2.2.2.2.2.2.2.1 ?_ (IsF.fl hz) hβ1⟩
  have es:νA (fun j=>if j=0 then b else if j=1 then b' else a+a'-s) 3=b+b'+absI (a+a'-s):=by
   have b0:=HH.out.2.2.1.b0
   have b0':=HH.out.2.2.2.2.2.1.b0
   have q1:absI b=b:=by rcases Fl.absI_cases b with ⟨_,e⟩| ⟨_,e⟩<;>rw [e];omega
   have q2:absI b'=b':=by rcases Fl.absI_cases b' with ⟨_,e⟩| ⟨_,e⟩<;>rw [e];omega
   show 0+absI b+absI b'+absI (a+a'-s)=_
   rw [q1,q2];omega
  rw [<-es];exact hβ
 clear F0 F1 B0 hb hz hβ hβ1 HH HL r1 r2 r3 r4 r5 r6
 have hst:=ζY
 go_wp2
 refine bodyPost_ret (v:= .agg #[.float .f64 zs,.float .f64 z]) (by simp [results,results214,go_sem,r7,r8]) rfl ?_
 exact ⟨_,rfl,HE.out,(HB.out.setCell (by simp;omega) _).setCell (by simp;omega) _⟩
open Fl (IsF Nr ζz ζE absI Est)
theorem ρR {X:Nat} (h:X<9223372036854775808):X^^^9223372036854775808=9223372036854775808+X:=by
 have e:(9223372036854775808:Nat)=2^63:=by decide
 rw [e] at h⊢
 apply Nat.eq_of_testBit_eq
 intro i
 rw [Nat.testBit_xor]
 rcases Nat.lt_trichotomy i 63 with hi|hi|hi
 ·rw [Nat.testBit_two_pow_add_gt hi,Nat.testBit_two_pow_of_ne (by omega)];simp
 ·subst hi;rw [Nat.testBit_two_pow_add_eq,Nat.testBit_two_pow_self,Nat.testBit_lt_two_pow h];rfl
 ·have h1:X<2^i:=Nat.lt_of_lt_of_le h (Nat.pow_le_pow_right (by decide) (by omega))
  have h2:2^63+X<2^i:=by
   have:2^64<=2^i:=Nat.pow_le_pow_right (by decide) (by omega)
   omega
  rw [Nat.testBit_lt_two_pow h1,Nat.testBit_lt_two_pow h2,Nat.testBit_two_pow_of_ne (by omega)];rfl
theorem IsF.negated (h:IsF x a):IsF (Op.negFloat .f64 x) (-a):=by
 obtain ⟨neg,X,hX,rfl,rfl⟩:=h
 have e: ∀n,Op.negFloat .f64 n=n^^^9223372036854775808:=fun n=>rfl
 refine ⟨!neg,X,hX,?_,by rw [Fl.sg_not]⟩
 rw [e]
 unfold Ieee.Format.word
 rw [ζ9.1]
 cases neg
 ·simp only [Bool.false_eq_true,if_false,Bool.not_false,if_true];exact ρR (by omega)
 ·simp only [if_true,Bool.not_true,Bool.false_eq_true,if_false]
  rw [<-ρR (show X<9223372036854775808 by omega),Nat.xor_assoc,Nat.xor_self,Nat.xor_zero]
theorem τU (w:World) (u1 v1 u2 v2 u3 v3:Value) (t:TypeId):Pr (((w.alloc (.cells #[u1,v1] t)).alloc (.cells #[u2,v2] t)).alloc (.cells #[u3,v3] t)) (↑w+1+1) u3 v3∧Below w w (((w.alloc (.cells #[u1,v1] t)).alloc (.cells #[u2,v2] t)).alloc (.cells #[u3,v3] t)):=by
 refine ⟨⟨by simp [go_sem],by simp [go_sem],fun j=>by simp [go_sem],by simp⟩,?_⟩
 exact (ξr _ _ _).trans ((ζc _ _).mono (by simp;omega))
theorem ξs (u v:Value) (k e:Nat) (S A B:Int) (w:World) (he:e<=900) (hu:ζu u k e S A) (hv:ζu v k e S B):
 Calls prog 213 #[u,v] w fun o w'=>ζ4 w k (e+4) S (A-B) o w':=by
 have HU:Hid (ζu u k e S A):=hu
 obtain ⟨x,y,a,b,rfl,hx,hy,hA⟩:=hu
 obtain ⟨x',y',a',b',rfl,hx',hy',hB⟩:=hv
 obtain ⟨n,hn⟩: ∃n,n=Op.negFloat .f64 x':=⟨_,rfl⟩
 have hneg: ∀w:World,(Op.unary .neg (.float .f64 x')).run prog w= .ok (.float .f64 n) w:=fun w=>by rw [hn];rfl
 have HV:Hid (ζu (.agg #[.float .f64 n,.float .f64 y']) k e S (-B)):=⟨n,y',-a',b',rfl,by rw [hn];exact IsF.negated hx',hy',hB.neg⟩
 clear hn hx hy hA hx' hy' hB
 go_enter func213,ntmps213
 go_wp2_with fail
 obtain ⟨F0,B0⟩:=τU w (.float .f64 x) (.float .f64 y) (.float .f64 x') (.float .f64 y') oOo oOo 86
 refine (ξP _ _ k e S A (-B) _ he HU.out HV.out).mono ?_
 rintro o w1 ⟨v,rfl,hv,hb⟩
 have HE:Hid (ζu v k (e+4) S (A-B)):=by
  unfold Hid;rw [show A-B=A+ -B by omega];exact hv
 obtain ⟨xs,ys,_,_,rfl,_,_,_⟩:=hv
 have F1:=F0.later hb
 have r7:=F1.c0
 have r8:=F1.c1
 have r9:=F1.fz
 have HB:Hid (Below w w w1):=B0.trans (hb.mono B0.size)
 clear F0 F1 B0 hb HU HV hneg
 have hst:=ζY
 go_wp2
 refine bodyPost_ret (v:= .agg #[.float .f64 xs,.float .f64 ys]) (by simp [results,results213,go_sem,r7,r8]) rfl ?_
 exact ⟨_,rfl,HE.out,(HB.out.setCell (by simp;omega) _).setCell (by simp;omega) _⟩
open Fl (IsF Nr ζz ζE absI Est)
theorem νO (w:World) (x y z u v:Nat) (t:TypeId):νB (w.alloc (.cells #[x,y,z,u,v] t)) w 5 (fun j=>if j=0 then x else if j=1 then y else if j=2 then z else if j=3 then u else v):=by
 refine ⟨by simp,fun j hj=> ?_⟩
 match j,hj with
 |0,_=>simp
 |1,_=>simp
 |2,_=>simp
 |3,_=>simp
 |4,_=>simp
def MgP (e:Nat) (v:Int):Prop:=v<=2^(1074+e)*2^1074∧ -(2^(1074+e)*2^1074)<=v
theorem MgP.of {j:Nat} (ha:Mg (1074+i) a) (hb:Mg (1074+j) b):MgP (i+j) (a*b):=by
 have hm:=Fl.mul_mag ha.2 ha.1 hb.2 hb.1
 have em:(2:Int)^(1074+i+(1074+j))=2^(1074+(i+j))*2^1074:=by rw [<-Int.pow_add];congr 1;omega
 rw [em] at hm
 exact hm
theorem mulB {e:Nat} (hx:IsF x a) (hy:IsF y b) (hm:MgP e (a*b)) (hi:e<=1000): ∃z r,floatBits .mul .f64 x y=some z∧IsF z r∧Nr 1074 (a*b) r∧Mg (1074+e) r:=by
 have h2:(2:Int)^(1074+e+1074)<=2^(2090+1074):=Fl.pow_le (by omega)
 rw [Int.pow_add] at h2
 obtain ⟨z,r,e,hz,hn⟩:=Fl.mul_isF hx hy (Int.le_trans hm.1 h2) (Int.le_trans (Int.neg_le_neg h2) hm.2)
 exact ⟨z,r,e,hz,hn,hn.ge (Fl.Fl.pow _).neg (by rw [Int.neg_mul];exact hm.2),hn.le (Fl.Fl.pow _) hm.1⟩
theorem τV (x y z r:Nat) (h:Ieee.double.fma x y z=some r) (w:World):(callFunc 217 #[x,y,z]).run prog w= .ok (.value r) w:=by
 rw [run_callFunc_extern (e:=Extern.MathFMA.fma) func217 (by kernel_rfl) (by kernel_rfl) (by kernel_rfl) (by kernel_rfl)]
 have h':FloatKind.f64.format.fma x y z=some r:=h
 conv in (Extern.MathFMA.fma _)=>whnf
 rw [h']
 rfl
theorem fmaB {z:Nat} {c:Int} {e:Nat} (hx:IsF x a) (hy:IsF y b) (hz:IsF z c) (hm:MgP e (a*b)) (hc:Mg (1074+e) c) (hi:e<=1000): ∃r l,Ieee.double.fma x y z=some r∧IsF r l∧Nr 1074 (a*b+c*2^1074) l:=by
 have h2:(2:Int)^(1074+e+1074+1)<=2^(2090+1074):=Fl.pow_le (by omega)
 have h3:=Fl.pow_succ2 (1074+e+1074)
 rw [Int.pow_add _ (1074+e) 1074] at h3
 have p:=Fl.pow_pos2 1074
 obtain ⟨m1,m2⟩:=hm
 have c1:c*2^1074<=2^(1074+e)*2^1074:=Int.mul_le_mul_of_nonneg_right hc.2 (by omega)
 have c2: -(2^(1074+e))*2^1074<=c*2^1074:=Int.mul_le_mul_of_nonneg_right hc.1 (by omega)
 rw [Int.neg_mul] at c2
 have k1:a*b+c*2^1074<=2^(1074+e+1074+1):=by omega
 have k2: -(2^(1074+e+1074+1))<=a*b+c*2^1074:=by omega
 exact Fl.fma_isF hx hy hz (Int.le_trans k1 h2) (Int.le_trans (Int.neg_le_neg h2) k2)
theorem isF_faded:IsF 103582791429521408 (2^74):=⟨false,103582791429521408,by decide,by decide,by decide+kernel⟩
theorem χH (x y x' y':Nat) (a b a' b':Int) (k k' e e' E:Nat) (S S' A B:Int) (w:World) (hk:k+k'<=7) (he:E<=900) (hx:IsF x a) (hy:IsF y b) (hA:Est k e S A a b) (hx':IsF x' a') (hy':IsF y' b') (hB:Est k' e' S' B a' b') (g0:MgP E (a*a')) (g1:MgP E (a*b')) (g2:MgP E (b*a')) (g3:MgP E (b*b')):
 Calls prog 215 #[.agg #[x,y],.agg #[x',y']] w fun o w'=>ζ4 w (k+k') (E+4) (S*S') (A*B) o w':=by
 obtain ⟨zp,p,ep,fp,np,mp⟩:=mulB hx hx' g0 (by omega)
 have rp:=fun w:World=>run_float_arith (P:=prog) w .mul 84 .f64 x x' zp ep
 obtain ⟨zn,hzn⟩: ∃n,n=Op.negFloat .f64 zp:=⟨_,rfl⟩
 have rn: ∀w:World,(Op.unary .neg (.float .f64 zp)).run prog w= .ok (.float .f64 zn) w:=fun w=>by rw [hzn];rfl
 have hzf:IsF zn (-p):=by rw [hzn];exact IsF.negated fp
 clear hzn
 obtain ⟨zl,l,el,fl,nl⟩:=fmaB hx hx' hzf g0 ⟨by have:=mp.2;omega,by have:=mp.1;omega⟩ (by omega)
 have rl:=fun w:World=>τV x x' zn zl el w
 obtain ⟨z1,q1,e1,f1,n1,m1⟩:=mulB hx hy' g1 (by omega)
 obtain ⟨z2,q2,e2,f2,n2,m2⟩:=mulB hy hx' g2 (by omega)
 obtain ⟨z3,q3,e3,f3,n3,m3⟩:=mulB hy hy' g3 (by omega)
 have r1:=fun w:World=>run_float_arith (P:=prog) w .mul 84 .f64 x y' z1 e1
 have r2:=fun w:World=>run_float_arith (P:=prog) w .mul 84 .f64 y x' z2 e2
 have r3:=fun w:World=>run_float_arith (P:=prog) w .mul 84 .f64 y y' z3 e3
 have ml:Mg (1074+E) l:=Fl.loss_mag np nl g0.1 g0.2
 have HM:Hid (IsF z1 q1∧IsF z2 q2∧IsF z3 q3∧IsF zl l∧absI q1<=2^(1074+E)∧absI q2<=2^(1074+E)∧absI q3<=2^(1074+E)∧absI l<=2^(1074+E)):=⟨f1,f2,f3,fl,ξM m1,ξM m2,ξM m3,ξM ml⟩
 have HE:Hid (∀(U T β:Int),(b=0∧b'=0∧U=0∨U=2^74)->T=absI q1+absI q2+absI q3+absI l+U->ζz T β->Fl.Fl β->β<=2^(1074+(E+4))->Est (k+k') (E+4) (S*S') (A*B) p β):=fun U T β hU hS hβ fβ hβ1=>hA.times hk hB np nl n1 n2 n3 hU hS hβ fβ g0 hβ1
 have HP:Hid (IsF zp p):=fp
 have oy:FloatKind.f64.format.order y 0=some (compare b 0):=Fl.order_isF hy isF_zero
 have oy':FloatKind.f64.format.order y' 0=some (compare b' 0):=Fl.order_isF hy' isF_zero
 have ways:(b=0∧b'=0∧(FloatKind.f64.format.order y 0 !=some .eq)=false∧(FloatKind.f64.format.order y' 0 !=some .eq)=false)∨((FloatKind.f64.format.order y 0 !=some .eq)=false∧(FloatKind.f64.format.order y' 0 !=some .eq)=true)∨(FloatKind.f64.format.order y 0 !=some .eq)=true:=by
  rw [oy,oy']
  have hne: ∀z:Int,z≠0->((some (compare z 0):Option Ordering) !=some .eq)=true:=by
   intro z hz
   rcases Int.lt_trichotomy z 0 with h|h|h
   ·rw [Int.compare_eq_lt.2 h];rfl
   ·exact absurd h hz
   ·rw [Int.compare_eq_gt.2 h];rfl
  by_cases h1:b=0
  ·by_cases h2:b'=0
   ·left;rw [h1,h2];exact ⟨rfl,rfl,rfl,rfl⟩
   ·right;left;rw [h1];exact ⟨rfl,hne _ h2⟩
  ·right;right;exact hne _ h1
 clear hx hy hA hx' hy' hB fp np mp hzf fl nl f1 f2 f3 n1 n2 n3 m1 m2 m3 ml g0 g1 g2 g3 ep el e1 e2 e3 oy oy'
 have hst:=ζY
 go_enter func215,ntmps215
 rcases ways with ⟨z1b,z2b,c1,c2⟩| ⟨c1,c2⟩|c1
 ·go_wp2_with fail
  refine (ψH (↑w+1+1+1) 5 5 (1074+E) (fun j=>if j=0 then z1 else if j=1 then z2 else if j=2 then z3 else if j=3 then zl else 0) (fun j=>if j=0 then q1 else if j=1 then q2 else if j=2 then q3 else if j=3 then l else 0) _ (by omega) (by omega) ?_ ?_ ?_).mono ?_
  ·have:=νO (((w.alloc (.cells #[x,y] 86)).alloc (.cells #[x',y'] 86)).alloc (.cells #[oOo,oOo] 86)) z1 z2 z3 zl 0 84
   simpa using this
  ·intro j hj
   match j,hj with
   |0,_=>exact HM.out.1
   |1,_=>exact HM.out.2.1
   |2,_=>exact HM.out.2.2.1
   |3,_=>exact HM.out.2.2.2.1
   |4,_=>exact isF_zero
  ·intro j hj
   match j,hj with
   |0,_=>exact HM.out.2.2.2.2.1
   |1,_=>exact HM.out.2.2.2.2.2.1
   |2,_=>exact HM.out.2.2.2.2.2.2.1
   |3,_=>exact HM.out.2.2.2.2.2.2.2
   |4,_=>exact Int.le_trans (show absI 0<=2^74 by decide+kernel) (Fl.pow_le (show 74<=1074+E by omega))
  rintro o w1 ⟨z,β,rfl,hz,hβ,hβ1,hb⟩
  obtain ⟨F0,B0⟩:=ψc w x y x' y' oOo oOo 86 #[.float .f64 z1,.float .f64 z2,.float .f64 z3,.float .f64 zl,oOo] 84
  have F1:=F0.later hb
  have r7:=F1.c0
  have r8:=F1.c1
  have r9:=F1.fz
  have HB:Hid (Below w w w1):=B0.trans (hb.mono B0.size)
  have HR:Hid (ζu (.agg #[.float .f64 zp,.float .f64 z]) (k+k') (E+4) (S*S') (A*B)):=by
   refine ⟨zp,z,p,β,rfl,HP.out,hz,HE.out 0 _ β (Or.inl ⟨z1b,z2b,rfl⟩) rfl ?_ (IsF.fl hz) hβ1⟩
   have es:νA (fun j=>if j=0 then q1 else if j=1 then q2 else if j=2 then q3 else if j=3 then l else 0) 5=absI q1+absI q2+absI q3+absI l+0:=by
    show 0+absI q1+absI q2+absI q3+absI l+absI 0=_
    rw [show absI 0=0 by decide+kernel];omega
   rw [<-es];exact hβ
  clear F0 F1 B0 hb hz hβ hβ1 HM HE r1 r2 r3 rp rn rl
  go_wp2
  refine bodyPost_ret (v:= .agg #[.float .f64 zp,.float .f64 z]) (by simp [results,results215,go_sem,r7,r8]) rfl ?_
  exact ⟨_,rfl,HR.out,(HB.out.setCell (by simp;omega) _).setCell (by simp;omega) _⟩
 all_goals
  go_wp2_with fail
  refine (ψH (↑w+1+1+1) 5 5 (1074+E) (fun j=>if j=0 then z1 else if j=1 then z2 else if j=2 then z3 else if j=3 then zl else 103582791429521408) (fun j=>if j=0 then q1 else if j=1 then q2 else if j=2 then q3 else if j=3 then l else (2^74)) _ (by omega) (by omega) ?_ ?_ ?_).mono ?_
  ·have:=νO (((w.alloc (.cells #[x,y] 86)).alloc (.cells #[x',y'] 86)).alloc (.cells #[oOo,oOo] 86)) z1 z2 z3 zl 103582791429521408 84
   simpa using this
  ·intro j hj
   match j,hj with
   |0,_=>exact HM.out.1
   |1,_=>exact HM.out.2.1
   |2,_=>exact HM.out.2.2.1
   |3,_=>exact HM.out.2.2.2.1
   |4,_=>exact isF_faded
  ·intro j hj
   match j,hj with
   |0,_=>exact HM.out.2.2.2.2.1
   |1,_=>exact HM.out.2.2.2.2.2.1
   |2,_=>exact HM.out.2.2.2.2.2.2.1
   |3,_=>exact HM.out.2.2.2.2.2.2.2
   |4,_=>exact Int.le_trans (show absI (2^74)<=2^74 by decide+kernel) (Fl.pow_le (show 74<=1074+E by omega))
  rintro o w1 ⟨z,β,rfl,hz,hβ,hβ1,hb⟩
  obtain ⟨F0,B0⟩:=ψc w x y x' y' oOo oOo 86 #[.float .f64 z1,.float .f64 z2,.float .f64 z3,.float .f64 zl,.float .f64 103582791429521408] 84
  have F1:=F0.later hb
  have r7:=F1.c0
  have r8:=F1.c1
  have r9:=F1.fz
  have HB:Hid (Below w w w1):=B0.trans (hb.mono B0.size)
  have HR:Hid (ζu (.agg #[.float .f64 zp,.float .f64 z]) (k+k') (E+4) (S*S') (A*B)):=by
   refine ⟨zp,z,p,β,rfl,HP.out,hz,HE.out (2^74) _ β (Or.inr rfl) rfl ?_ (IsF.fl hz) hβ1⟩
   have es:νA (fun j=>if j=0 then q1 else if j=1 then q2 else if j=2 then q3 else if j=3 then l else (2^74)) 5=absI q1+absI q2+absI q3+absI l+(2^74):=by
    show 0+absI q1+absI q2+absI q3+absI l+absI (2^74)=_
    rw [show absI (2^74)=(2^74) by decide+kernel];omega
   rw [<-es];exact hβ
  clear F0 F1 B0 hb hz hβ hβ1 HM HE r1 r2 r3 rp rn rl
  go_wp2
  refine bodyPost_ret (v:= .agg #[.float .f64 zp,.float .f64 z]) (by simp [results,results215,go_sem,r7,r8]) rfl ?_
  exact ⟨_,rfl,HR.out,(HB.out.setCell (by simp;omega) _).setCell (by simp;omega) _⟩
theorem ζJ (u v:Value) (k k' e e':Nat) (S S' A B:Int) (w:World) (hk:k+k'<=7) (he:e+e'<=900) (hu:ζu u k e S A) (hv:ζu v k' e' S' B):
 Calls prog 215 #[u,v] w fun o w'=>ζ4 w (k+k') (e+e'+4) (S*S') (A*B) o w':=by
 obtain ⟨x,y,a,b,rfl,hx,hy,hA⟩:=hu
 obtain ⟨x',y',a',b',rfl,hx',hy',hB⟩:=hv
 have mb:Mg (1074+e) b:=⟨by have:=hA.b0;have:=Fl.pow_pos2 (1074+e);omega,hA.b1⟩
 have mb':Mg (1074+e') b':=⟨by have:=hB.b0;have:=Fl.pow_pos2 (1074+e');omega,hB.b1⟩
 exact χH x y x' y' a b a' b' k k' e e' (e+e') S S' A B w hk he hx hy hA hx' hy' hB (.of ⟨hA.v2,hA.v1⟩ ⟨hB.v2,hB.v1⟩) (.of ⟨hA.v2,hA.v1⟩ mb') (.of mb ⟨hB.v2,hB.v1⟩) (.of mb mb')
open Fl (IsF Nr ζz ζE absI Est)
def cor (b:Int):Int:=ξ8 b*2^(ξd b-1).toNat
theorem κr (h0:0<=b) (_hf:ψb b=true):(dMag (dOf b):Int)=ξf b*2^(ξd b-1).toNat*2^925:=by
 have hm:=φZ h0
 have he:=ζ8 h0
 unfold dOf
 by_cases hz:(ξf b).toNat=0
 ·rw [if_pos hz]
  have:ξf b=0:=by omega
  rw [this,Int.zero_mul,Int.zero_mul];rfl
 ·rw [if_neg hz]
  obtain ⟨M,hM⟩: ∃M:Nat,ξf b=M:=⟨(ξf b).toNat,by omega⟩
  have hMt:(ξf b).toNat=M:=by omega
  rw [hMt] at hz⊢
  have l1:=Nat.log2_self_le hz
  have l2:=@Nat.lt_log2_self M
  obtain ⟨L,hL⟩: ∃L,L=M.log2:=⟨_,rfl⟩
  rw [<-hL] at l1 l2⊢
  have hL23:L<=23:=by
   apply Nat.le_of_not_lt;intro h
   have:2^24<=2^L:=Nat.pow_le_pow_right (by decide) h
   omega
  obtain ⟨E,hE⟩: ∃E:Nat,ξd b=E+1:=⟨(ξd b-1).toNat,by omega⟩
  rw [hE,hM]
  rw [show ((E:Int)+1-150+(L:Int)+1022).toNat=E+873+L by omega,show ((E:Int)+1-1).toNat=E by omega]
  have k1:M*2^(52-L)<2^(L+1)*2^(52-L):=Nat.mul_lt_mul_of_pos_right l2 (Nat.two_pow_pos _)
  have k2:2^L*2^(52-L)<=M*2^(52-L):=Nat.mul_le_mul_right _ l1
  rw [<-Nat.pow_add,show L+1+(52-L)=53 by omega] at k1
  rw [<-Nat.pow_add,show L+(52-L)=52 by omega] at k2
  rw [Fl.dMag_rung (by omega) (Or.inr (by omega))]
  have e:M*2^(52-L)*2^(E+873+L)=M*2^E*2^925:=by
   have e2:E+873+L+(52-L)=E+925:=by omega
   rw [Nat.mul_assoc,Nat.mul_assoc,Nat.mul_comm (2^(52-L)),<-Nat.pow_add,e2,Nat.pow_add]
  rw [e,Int.natCast_mul,Int.natCast_mul,Fl.natPow E,Fl.natPow 925]
theorem τW {a b:Nat} (h:a<b):2^a<2^b:=Nat.pow_lt_pow_right (by decide) h
theorem τX (h0:0<=b) (hf:ψb b=true) (h1:b<4294967296): ∃z v,floatToFloatBits .f32 b.toNat .f64=some z∧IsF z v∧Est 1 128 1 (cor b) v 0:=by
 have hc:=ηb h0 h1 hf
 have hd:=κr h0 hf
 have hm:=φZ h0
 have he:=ζ8 h0
 have hff:ξd b<=254:=by
  unfold ξd ψb at*
  split
  ·omega
  ·have:b/8388608%256≠255:=by simpa using hf
   omega
 have hlt:dMag (dOf b)<=2^1202:=by
  have hI:(dMag (dOf b):Int)<=2^1202:=by
   rw [hd]
   have p1:=Fl.pow_le (show (ξd b-1).toNat<=253 by omega)
   have p0:=Fl.pow_pos2 (ξd b-1).toNat
   have x1:ξf b*2^(ξd b-1).toNat<=2^24*2^253:=Int.mul_le_mul (by omega) p1 (by omega) (by decide)
   have x2:ξf b*2^(ξd b-1).toNat*2^925<=2^24*2^253*2^925:=Int.mul_le_mul_of_nonneg_right x1 (by have:=Fl.pow_pos2 925;omega)
   have x3:(2:Int)^24*2^253*2^925=2^1202:=by rw [<-Int.pow_add,<-Int.pow_add]
   rw [x3] at x2;exact x2
  rw [<-Fl.natPow 1202] at hI
  exact Int.ofNat_le.1 hI
 have hfin:dOf b<9218868437227405312:=by
  rcases Nat.lt_or_ge (dOf b) 9218868437227405312 with h|h
  ·exact h
  ·exfalso
   have hge:dMag 9218868437227405312<=dMag (dOf b):=by
    rcases Nat.lt_or_eq_of_le h with h|h
    ·exact Nat.le_of_lt (χ0 h)
    ·rw [h];exact Nat.le_refl _
   rw [Fl.dMag_inf] at hge
   exact Nat.lt_irrefl _ (Nat.lt_of_lt_of_le (τW (a:=1202) (b:=2098) (by omega)) (Nat.le_trans hge hlt))
 have hfx:IsF (Ieee.double.word (decide (2147483648<=b)) (dOf b)) (Fl.sg (decide (2147483648<=b)) (dMag (dOf b):Int)):=⟨_,_,hfin,rfl,rfl⟩
 have hv:Fl.sg (decide (2147483648<=b)) (dMag (dOf b):Int)=cor b*2^925:=by
  unfold cor ξ8
  by_cases hs:2147483648<=b
  ·rw [if_pos hs,decide_eq_true hs,hd];simp only [Fl.sg,if_true];rw [Int.neg_mul,Int.neg_mul]
  ·rw [if_neg hs,decide_eq_false hs,hd];simp only [Fl.sg,Bool.false_eq_true,if_false]
 refine ⟨_,_,hc,hfx,?_⟩
 have hb1:(dMag (dOf b):Int)<=2^1202:=by
  rw [<-Fl.natPow 1202];exact Int.ofNat_le.2 hlt
 have h12:(1074+128:Nat)=1202:=rfl
 have h92:(1074-149*1:Nat)=925:=rfl
 have p2:=Fl.pow_pos2 1202
 generalize hX:Fl.sg (decide (2147483648<=b)) (dMag (dOf b):Int)=v at*
 refine ⟨IsF.fl hfx,Fl.Fl.zero,by omega,by decide,?_,?_,fun _=> ?_,?_,?_,?_⟩
 ·rw [h92,hv];omega
 ·rw [h92,hv];omega
 ·rw [h92,hv];exact Int.dvd_mul_left _ _
 ·rw [h12,<-hX];cases decide (2147483648<=b)<;>simp only [Fl.sg,if_true,Bool.false_eq_true,if_false]<;>omega
 ·rw [h12,<-hX];cases decide (2147483648<=b)<;>simp only [Fl.sg,if_true,Bool.false_eq_true,if_false]<;>omega
 ·rw [h12];omega
theorem φ4 (b:Int) (w:World) (h0:0<=b) (h1:b<4294967296) (hf:ψb b=true):
 Calls prog 212 #[.agg #[oOo,oOo],b] w fun o w'=> ∃x:Nat,o= .returned (.agg #[x,oOo])∧ζu (.agg #[x,oOo]) 1 128 1 (cor b)∧Below w w w':=by
 obtain ⟨z,v,hc,hz,he⟩:=τX h0 hf h1
 have h2:=ψC
 have h3:=fun w:World=>run_convert_float_float (P:=prog) w 246 84 .f32 .f64 b.toNat z (by kernel_rfl) (by kernel_rfl) hc
 have HE:Hid (ζu (.agg #[.float .f64 z,oOo]) 1 128 1 (cor b)):=⟨z,0,v,0,rfl,hz,isF_zero,he⟩
 clear hc hz he
 have hst:=ζY
 go_enter func212,ntmps212
 go_wp2
 refine bodyPost_ret (v:= .agg #[.float .f64 z,oOo]) (by simp [results,results212,go_sem]) rfl ?_
 exact ⟨_,rfl,HE.out,ξr _ _ _⟩
def τY (v:Value) (k e:Nat) (S A:Int) (w:World) (o:Ending) (w':World):Prop:= ∃(x y:Nat) (a b:Int) (c:Bool),v= .agg #[x,y]∧IsF x a∧Est k e S A a b∧o= .returned c∧(c=true->b=0∨b<absI a)∧Below w w w'
theorem ωQ (v:Value) (k e:Nat) (S A:Int) (w:World) (hv:ζu v k e S A):
 Calls prog 171 #[v] w fun o w'=>τY v k e S A w o w':=by
 obtain ⟨x,y,a,b,rfl,hx,hy,hA⟩:=hv
 have oy:FloatKind.f64.format.order y 0=some (compare b 0):=Fl.order_isF hy isF_zero
 obtain ⟨z,hz⟩: ∃z,z=x%9223372036854775808:=⟨_,rfl⟩
 have hzf:IsF z (absI a):=by rw [hz];exact IsF.abs hx
 have oz:FloatKind.f64.format.order z y=some (compare (absI a) b):=Fl.order_isF hzf hy
 have HX:Hid (IsF x a∧Est k e S A a b):=⟨hx,hA⟩
 have HZ:Hid (x<18446744073709551616∧x%9223372036854775808=z):=⟨hx.lt,hz.symm⟩
 by_cases hb:b=0
 ·have c1:(FloatKind.f64.format.order y 0==some .eq)=true:=by rw [oy,hb];rfl
  clear hx hy hA hz hzf oz oy
  obtain ⟨W,hW⟩: ∃W,W=w.alloc (.cells #[.float .f64 x,.float .f64 y] 86):=⟨_,rfl⟩
  have B0:Hid (Below w w W):=by unfold Hid;rw [hW];exact ζc _ _
  have x0:W.cell? ⟨w,0,none⟩=some (.float .f64 x):=by rw [hW];simp [go_sem]
  have x1:W.cell? ⟨w,1,none⟩=some (.float .f64 y):=by rw [hW];simp [go_sem]
  go_enter func171,ntmps171
  go_wp2
  rw [<-hW]
  clear hW
  first
  |go_region_law (fail)
  |fail "no"
  all_goals
   go_wp2
   go_ret
   exact ⟨x,y,a,b,true,rfl,HX.out.1,HX.out.2,rfl,fun _=>Or.inl hb,B0.out.drew⟩
 ·have c1:(FloatKind.f64.format.order y 0==some .eq)=false:=by
   rw [oy]
   rcases Int.lt_trichotomy b 0 with h|h|h
   ·rw [Int.compare_eq_lt.2 h];rfl
   ·exact absurd h hb
   ·rw [Int.compare_eq_gt.2 h];rfl
  obtain ⟨c,hc⟩: ∃c,c=(FloatKind.f64.format.order z y==some .gt):=⟨_,rfl⟩
  have HC:Hid (c=true->b<absI a):=by
   unfold Hid
   rw [hc,oz,χZ]
   exact fun h=>of_decide_eq_true h
  have hc2:=hc.symm
  clear hx hy hA hz hzf oz oy hb hc
  obtain ⟨W,hW⟩: ∃W,W=w.alloc (.cells #[.float .f64 x,.float .f64 y] 86):=⟨_,rfl⟩
  have B0:Hid (Below w w W):=by unfold Hid;rw [hW];exact ζc _ _
  have x0:W.cell? ⟨w,0,none⟩=some (.float .f64 x):=by rw [hW];simp [go_sem]
  have x1:W.cell? ⟨w,1,none⟩=some (.float .f64 y):=by rw [hW];simp [go_sem]
  have xl:w.heap.size<W.heap.size:=by rw [hW];simp
  go_enter func171,ntmps171
  go_wp2
  rw [<-hW]
  clear hW
  first
  |go_region_law (go_simp;refine (ψW x z _ HZ.out.1 HZ.out.2).mono ?_;rintro o w1 ⟨rfl,hb1⟩;have hB1:Hid (Below W W w1):=(Below.refl _ W).drew.trans hb1;have y0:=((ζj hB1.out).1 _ 0 xl).trans x0;have y1:=((ζj hB1.out).1 _ 1 xl).trans x1;clear hb1)
  |fail "no"
  all_goals
   have HBw:Hid (Below w w w1):=B0.out.trans (hB1.out.mono B0.out.size)
   clear hB1 x0 x1 y0 y1 B0
   go_wp2
   go_ret
   exact ⟨x,y,a,b,c,rfl,HX.out.1,HX.out.2,rfl,fun h=>Or.inr (HC.out h),HBw.out⟩
theorem κs (x y:Int) (w:World):
 Calls prog 146 #[.int .i64 x,.int .i64 y] w fun e w'=>e= .returned (.int .i64 (sgn (x-y)))∧w'=w:=by
 have hx:(x !=x)=false:=by simp
 have hy:(y !=y)=false:=by simp
 rcases sgn_cases (x-y) with ⟨h1,h2⟩| ⟨h1,h2⟩| ⟨h1,h2⟩
 ·have HS:Hid (sgn (x-y)= -1):=h2
  have h3:x<y:=by omega
  clear h1 h2
  go_enter func146,ntmps146
  go_wp2
  go_ret
  exact ⟨ζG HS.out.symm,rfl⟩
 ·have HS:Hid (sgn (x-y)=0):=h2
  have h3: ¬x<y:=by omega
  have h4: ¬y<x:=by omega
  clear h1 h2
  go_enter func146,ntmps146
  go_wp2
  go_ret
  exact ⟨ζG HS.out.symm,rfl⟩
 ·have HS:Hid (sgn (x-y)=1):=h2
  have h3: ¬x<y:=by omega
  have h4:y<x:=by omega
  clear h1 h2
  go_enter func146,ntmps146
  go_wp2
  go_ret
  exact ⟨ζG HS.out.symm,rfl⟩
theorem κt (x y:Int) (w:World):
 Calls prog 147 #[x,y] w fun e w'=>e= .returned (.int .i64 (sgn (x-y)))∧w'=w:=by
 have hx:(x !=x)=false:=by simp
 have hy:(y !=y)=false:=by simp
 rcases sgn_cases (x-y) with ⟨h1,h2⟩| ⟨h1,h2⟩| ⟨h1,h2⟩
 ·have HS:Hid (sgn (x-y)= -1):=h2
  have h3:x<y:=by omega
  clear h1 h2
  go_enter func147,ntmps147
  go_wp2
  go_ret
  exact ⟨ζG HS.out.symm,rfl⟩
 ·have HS:Hid (sgn (x-y)=0):=h2
  have h3: ¬x<y:=by omega
  have h4: ¬y<x:=by omega
  clear h1 h2
  go_enter func147,ntmps147
  go_wp2
  go_ret
  exact ⟨ζG HS.out.symm,rfl⟩
 ·have HS:Hid (sgn (x-y)=1):=h2
  have h3: ¬x<y:=by omega
  have h4:y<x:=by omega
  clear h1 h2
  go_enter func147,ntmps147
  go_wp2
  go_ret
  exact ⟨ζG HS.out.symm,rfl⟩
theorem ψd (a a':Option Addr) (c c':Nat) (zs ys:List Int) (w:World) (hn:zs.length<=1048576) (_hn':ys.length<=1048576) (hz:ζk .u32 w a zs) (hy:ζk .u32 w a' ys):
 Calls prog 99 #[.slice a zs c,.slice a' ys c'] w fun e w'=>e= .returned (.int .i64 (ξ4 zs ys))∧Below w w w':=by
 by_cases hl:zs.length=ys.length
 ·have HC:Hid (ξ4 zs ys=ζN zs ys):=by unfold Hid ξ4;rw [if_pos hl]
  have hne:((zs.length:Int) !=(ys.length:Int))=false:=by rw [bne_eq_false_iff_eq];omega
  have HL:Hid (zs.length=ys.length):=hl
  clear hl
  go_enter func99,ntmps99
  go_wp2
  go_loopw [5] (fun i wr=> ∃k:Nat,k<=zs.length∧i= .int .i64 ((k:Int)-1)∧Hid (ζN zs ys=ζN (zs.take k) (ys.take k))∧Below w w wr) (fun i _=>(intOf i+1).toNat)
  case atStart=>exact ⟨zs.length,Nat.le_refl _,rfl,by unfold Hid;rw [List.take_length,HL.out,List.take_length],Below.refl _ _⟩
  case round=>
   obtain ⟨k,hk,rfl,hsame,hnx⟩:=hrel
   by_cases h0:k=0
   ·subst h0
    go_wp2
    go_ret
    exact ⟨ζG (by rw [HC.out,hsame.out];simp [ζN]),hnx⟩
   ·obtain ⟨k,rfl⟩: ∃m,k=m+1:=⟨k-1,by omega⟩
    have hlt':k<ys.length:=by have:=HL.out;omega
    obtain ⟨b,off,rfl,g1⟩:=ζq hz hnx (show k<zs.length by omega)
    obtain ⟨b',off',rfl,g2⟩:=ζq hy hnx hlt'
    have hst:=φO (show k<zs.length by omega) hlt'
    obtain ⟨x,hx⟩: ∃x,x=zs.getD k 0:=⟨_,rfl⟩
    obtain ⟨y,hyy⟩: ∃y,y=ys.getD k 0:=⟨_,rfl⟩
    rw [<-hx] at g1 hst
    rw [<-hyy] at g2 hst
    have HST:Hid (ξ4 zs ys=if x=y then ζN (zs.take k) (ys.take k) else sgn (x-y)):=by unfold Hid;rw [HC.out,hsame.out,hst]
    have HS2:Hid (ζN zs ys=if x=y then ζN (zs.take k) (ys.take k) else sgn (x-y)):=by unfold Hid;rw [hsame.out,hst]
    clear hst hx hyy hsame HC hz hy
    by_cases c1:x=y
    ·have hxy:(x !=y)=false:=by simp [c1]
     have C1:Hid (x=y):=c1
     clear c1
     go_wp2
     go_quiet (fail)
     go_wp2
     go_roundw
     case rel=>exact ⟨k,by omega,by go_num,by unfold Hid;rw [HS2.out,if_pos C1.out],below_drewN hnx _⟩
     case measure=>simp [intOf]
    ·have hxy:(x !=y)=true:=by simp [c1]
     have C1:Hid (¬x=y):=c1
     clear c1
     go_wp2
     go_quiet (fail)
     have hnx':=below_drewN hnx nq
     have g1':(wr.drewN nq).cell? ⟨b,off+k,none⟩=some (.int .u32 x):=by simpa using g1
     have g2':(wr.drewN nq).cell? ⟨b',off'+k,none⟩=some (.int .u32 y):=by simpa using g2
     clear hnx g1 g2
     generalize wr.drewN nq=wq at*
     go_wp2
     go_quiet (first| (go_at_call 147;refine Calls.quiet_of_same (κt _ _ _)))
     go_wp2
     go_ret
     exact ⟨ζG (by rw [HST.out,if_neg C1.out]),below_drewN hnx' _⟩
 ·have hne:((zs.length:Int) !=(ys.length:Int))=true:=by rw [bne_iff_ne];omega
  have HC:Hid (ξ4 zs ys=sgn ((zs.length:Int)-(ys.length:Int))):=by
   unfold Hid ξ4 sgn
   rw [if_neg hl]
   by_cases h2:zs.length<ys.length
   ·rw [if_pos h2,if_pos (by omega)]
   ·rw [if_neg h2,if_neg (by omega),if_neg (by omega)]
  clear hl
  go_enter func99,ntmps99
  go_wp2_with (go_at_call 146;refine (κs _ _ _).mono ?_;rintro e w1 ⟨rfl,rfl⟩)
  go_ret
  exact ⟨ζG HC.out.symm,Below.refl _ _⟩
def ρu (g g':Bool) (zs ys:List Int):Int:=if g=true∧g'=false then-1 else if g=false∧g'=true then 1 else if g=true then ξ4 ys zs else ξ4 zs ys
theorem φ5 (g g':Bool) (a a':Option Addr) (c c':Nat) (zs ys:List Int) (w:World) (hn:zs.length<=1048576) (hn':ys.length<=1048576) (hz:ζk .u32 w a zs) (hy:ζk .u32 w a' ys):
 Calls prog 54 #[.agg #[g,.slice a zs c],.agg #[g',.slice a' ys c']] w fun e w'=>e= .returned (.int .i64 (ρu g g' zs ys))∧Below w w w':=by
 cases g
 ·cases g'
  ·have HO:Hid (ρu false false zs ys=ξ4 zs ys):=by simp [Hid,ρu]
   go_enter func54,ntmps54
   go_wp2_with fail
   refine (ψd a a' c c' zs ys _ hn hn' (hz.later (ξr _ _ _)) (hy.later (ξr _ _ _))).mono ?_
   rintro e w1 ⟨rfl,hb⟩
   have HB:Hid (Below w w w1):=(ξr _ _ _).trans (hb.mono (by simp;omega))
   clear hb
   go_wp2
   go_ret
   exact ⟨ζG HO.out.symm,HB.out⟩
  ·go_enter func54,ntmps54
   go_wp2
   go_ret
   exact ⟨ζG (by simp [ρu]),ξr _ _ _⟩
 ·cases g'
  ·go_enter func54,ntmps54
   go_wp2
   go_ret
   exact ⟨ζG (by simp [ρu]),ξr _ _ _⟩
  ·have HO:Hid (ρu true true zs ys=ξ4 ys zs):=by simp [Hid,ρu]
   go_enter func54,ntmps54
   go_wp2_with fail
   refine (ψd a' a c' c ys zs _ hn' hn (hy.later (ξr _ _ _)) (hz.later (ξr _ _ _))).mono ?_
   rintro e w1 ⟨rfl,hb⟩
   have HB:Hid (Below w w w1):=(ξr _ _ _).trans (hb.mono (by simp;omega))
   clear hb
   go_wp2
   go_ret
   exact ⟨ζG HO.out.symm,HB.out⟩
end Go.Proofs.YtfieffpobgcpmaaGreatDoor
