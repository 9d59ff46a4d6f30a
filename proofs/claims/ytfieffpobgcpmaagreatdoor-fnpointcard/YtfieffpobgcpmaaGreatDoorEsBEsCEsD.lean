import Derived.Test.YtfieffpobgcpmaaGreatDoorFlEMathFEsA
set_option maxRecDepth 100000
set_option maxHeartbeats 32000000
namespace Go.Proofs.YtfieffpobgcpmaaGreatDoor
open Go.RowKit
open Fl (IsF Nr BoundIs Summed absI Est)
def EstIs (v:Value) (k e:Nat) (A:Int):Prop:= ∃(x y:Nat) (a b:Int),v= .agg #[x,y]∧IsF x a∧IsF y b∧Est k e A a b
def EstOut (w:World) (k e:Nat) (A:Int) (o:Ending) (w':World):Prop:= ∃v,o= .returned v∧EstIs v k e A∧Below w.heap.size w w'
theorem frow3 (w:World) (x y z:Nat) (t:TypeId):FRow (w.alloc (.cells #[x,y,z] t)) w.heap.size 3 (fun j=>if j=0 then x else if j=1 then y else z):=by
 refine ⟨by simp,fun j hj=> ?_⟩
 match j,hj with
 |0,_=>simp
 |1,_=>simp
 |2,_=>simp
def Mg (i:Nat) (a:Int):Prop:= -(2^i)≤a∧a≤2^i
theorem Mg.up {i j:Nat} {a:Int} (h:Mg i a) (hij:i≤j):Mg j a:=by
 have:=Fl.pow_le hij
 exact ⟨by have:=h.1;omega,by have:=h.2;omega⟩
theorem addB {x y:Nat} {a b:Int} {i:Nat} (hx:IsF x a) (hy:IsF y b) (ha:Mg i a) (hb:Mg i b) (hi:i≤2080): ∃z r,floatBits .add .f64 x y=some z∧IsF z r∧Nr 0 (a+b) r∧Mg (i+1) r:=by
 have h1:=Fl.pow_succ2 i
 have h2:(2:Int)^(i+1)≤2^2090:=Fl.pow_le (by omega)
 obtain ⟨a1,a2⟩:=ha
 obtain ⟨b1,b2⟩:=hb
 obtain ⟨z,r,e,hz,hn⟩:=Fl.add_isF hx hy (by omega) (by omega)
 exact ⟨z,r,e,hz,hn,hn.ge (Fl.Fl.pow (i+1)).neg (by simp;omega),hn.le (Fl.Fl.pow (i+1)) (by simp;omega)⟩
theorem subB {x y:Nat} {a b:Int} {i:Nat} (hx:IsF x a) (hy:IsF y b) (ha:Mg i a) (hb:Mg i b) (hi:i≤2080): ∃z r,floatBits .sub .f64 x y=some z∧IsF z r∧Nr 0 (a-b) r∧Mg (i+1) r:=by
 have h1:=Fl.pow_succ2 i
 have h2:(2:Int)^(i+1)≤2^2090:=Fl.pow_le (by omega)
 obtain ⟨a1,a2⟩:=ha
 obtain ⟨b1,b2⟩:=hb
 obtain ⟨z,r,e,hz,hn⟩:=Fl.sub_isF hx hy (by omega) (by omega)
 exact ⟨z,r,e,hz,hn,hn.ge (Fl.Fl.pow (i+1)).neg (by simp;omega),hn.le (Fl.Fl.pow (i+1)) (by simp;omega)⟩
theorem two_sumW {x x':Nat} {a a':Int} {i:Nat} (hx:IsF x a) (hx':IsF x' a') (ha:Mg i a) (ha':Mg i a') (hi:i≤2070): ∃zs zp zd zu zv zl s,floatBits .add .f64 x x'=some zs∧floatBits .sub .f64 zs x=some zp∧floatBits .sub .f64 zs zp=some zd∧floatBits .sub .f64 x zd=some zu∧floatBits .sub .f64 x' zp=some zv∧floatBits .add .f64 zu zv=some zl∧IsF zs s∧Nr 0 (a+a') s∧IsF zl (a+a'-s):=by
 obtain ⟨zs,s,e1,f1,n1,m1⟩:=addB hx hx' ha ha' (by omega)
 obtain ⟨zp,p,e2,f2,n2,m2⟩:=subB f1 hx m1 (ha.up (by omega)) (by omega)
 obtain ⟨zd,d,e3,f3,n3,m3⟩:=subB f1 f2 (m1.up (by omega)) m2 (by omega)
 obtain ⟨zu,u,e4,f4,n4,m4⟩:=subB hx f3 (ha.up (by omega)) m3 (by omega)
 obtain ⟨zv,v,e5,f5,n5,m5⟩:=subB hx' f2 (ha'.up (by omega)) m2 (by omega)
 obtain ⟨zl,l,e6,f6,n6,m6⟩:=addB f4 f5 m4 (m5.up (by omega)) (by omega)
 have hl:=Fl.two_sum (IsF.fl hx) (IsF.fl hx') n1 n2 n3 n4 n5 n6
 subst hl
 exact ⟨zs,zp,zd,zu,zv,zl,s,e1,e2,e3,e4,e5,e6,f1,n1,f6⟩
theorem absI_le {n:Int} {i:Nat} (h:Mg i n):absI n≤2^i:=by
 obtain ⟨h1,h2⟩:=h
 rcases Fl.absI_cases n with ⟨_,e⟩| ⟨_,e⟩<;>rw [e]<;>omega
theorem storeF (a:Addr) (x:Nat) (m:Mode) (w:World):(store a x m).run Tryz.prog w=stored Tryz.prog w a x m:=run_store Tryz.prog w a _ m rfl
structure Pr (W:World) (b:Nat) (u v:Value):Prop where
 c0:W.cell? ⟨b,0,none⟩=some u
 c1:W.cell? ⟨b,1,none⟩=some v
 fz: ∀j,W.frozen? ⟨b,j,none⟩=false
 lt:b<W.heap.size
theorem Pr.later {W W':World} {b:Nat} {u v:Value} (h:Pr W b u v) (hb:Below W.heap.size W W'):Pr W' b u v:=
 ⟨((bcell hb).1 _ _ h.lt).trans h.c0,((bcell hb).1 _ _ h.lt).trans h.c1,fun j=>((bcell hb).2 _ _ h.lt).trans (h.fz j),Nat.lt_of_lt_of_le h.lt hb.size⟩
theorem three_frames (w:World) (u1 v1 u2 v2 u3 v3:Value) (t:TypeId) (c:Array Value) (t':TypeId):Pr ((((w.alloc (.cells #[u1,v1] t)).alloc (.cells #[u2,v2] t)).alloc (.cells #[u3,v3] t)).alloc (.cells c t')) (w.heap.size+1+1) u3 v3∧Below w.heap.size w ((((w.alloc (.cells #[u1,v1] t)).alloc (.cells #[u2,v2] t)).alloc (.cells #[u3,v3] t)).alloc (.cells c t')):=by
 refine ⟨⟨by simp [go_sem],by simp [go_sem],fun j=>by simp [go_sem],by simp⟩,?_⟩
 exact (bel2 _ _ _).trans ((bel2 _ _ _).mono (by simp;omega))
theorem plusE_any (u v:Value) (k e:Nat) (A B:Int) (w:World) (he:e≤900) (hu:EstIs u k e A) (hv:EstIs v k e B):
 Calls Tryz.prog 214 #[u,v] w fun o w'=>EstOut w k (e+4) (A+B) o w':=by
 obtain ⟨x,y,a,b,rfl,hx,hy,hA⟩:=hu
 obtain ⟨x',y',a',b',rfl,hx',hy',hB⟩:=hv
 obtain ⟨zs,zp,zd,zu,zv,zl,s,e1,e2,e3,e4,e5,e6,fs,ns,fl⟩:=two_sumW (i:=1074+e) hx hx' ⟨hA.v2,hA.v1⟩ ⟨hB.v2,hB.v1⟩ (by omega)
 have r1:=fun w:World=>run_float_arith (P:=Tryz.prog) w .add 84 .f64 x x' zs e1
 have r2:=fun w:World=>run_float_arith (P:=Tryz.prog) w .sub 84 .f64 zs x zp e2
 have r3:=fun w:World=>run_float_arith (P:=Tryz.prog) w .sub 84 .f64 zs zp zd e3
 have r4:=fun w:World=>run_float_arith (P:=Tryz.prog) w .sub 84 .f64 x zd zu e4
 have r5:=fun w:World=>run_float_arith (P:=Tryz.prog) w .sub 84 .f64 x' zp zv e5
 have r6:=fun w:World=>run_float_arith (P:=Tryz.prog) w .add 84 .f64 zu zv zl e6
 have HL:Hid (absI (a+a'-s)≤2^(1074+e)):=Int.le_trans (Fl.loss_le (IsF.fl hx) ns) (absI_le ⟨hB.v2,hB.v1⟩)
 have HH:Hid (IsF x a∧IsF y b∧Est k e A a b∧IsF x' a'∧IsF y' b'∧Est k e B a' b'∧IsF zs s∧Nr 0 (a+a') s∧IsF zl (a+a'-s)):=⟨hx,hy,hA,hx',hy',hB,fs,ns,fl⟩
 clear e1 e2 e3 e4 e5 e6 hx hy hA hx' hy' hB fs ns fl
 go_enter Tryz.func214,Tryz.ntmps214
 go_wp2_with fail
 refine (boundOf_any (w.heap.size+1+1+1) 3 3 (1074+e) (fun j=>if j=0 then y else if j=1 then y' else zl) (fun j=>if j=0 then b else if j=1 then b' else a+a'-s) _ (by omega) (by omega) ?_ ?_ ?_).mono ?_
 ·have:=frow3 (((w.alloc (.cells #[.float .f64 x,.float .f64 y] 86)).alloc (.cells #[.float .f64 x',.float .f64 y'] 86)).alloc (.cells #[oOo,oOo] 86)) y y' zl 84
  simpa using this
 ·intro j hj
  match j,hj with
  |0,_=>exact HH.out.2.1
  |1,_=>exact HH.out.2.2.2.2.1
  |2,_=>exact HH.out.2.2.2.2.2.2.2.2
 ·intro j hj
  match j,hj with
  |0,_=>exact absI_le ⟨by have:=HH.out.2.2.1.b0;have:=Fl.pow_pos2 (1074+e);show-(2^(1074+e))≤b;omega,HH.out.2.2.1.b1⟩
  |1,_=>exact absI_le ⟨by have:=HH.out.2.2.2.2.2.1.b0;have:=Fl.pow_pos2 (1074+e);show-(2^(1074+e))≤b';omega,HH.out.2.2.2.2.2.1.b1⟩
  |2,_=>exact HL.out
 rintro o w1 ⟨z,β,rfl,hz,hβ,hβ1,hb⟩
 obtain ⟨F0,B0⟩:=three_frames w (.float .f64 x) (.float .f64 y) (.float .f64 x') (.float .f64 y') oOo oOo 86 #[.float .f64 y,.float .f64 y',.float .f64 zl] 84
 have F1:=F0.later hb
 have r7:=F1.c0
 have r8:=F1.c1
 have r9:=F1.fz
 have HB:Hid (Below w.heap.size w w1):=B0.trans (hb.mono B0.size)
 have HE:Hid (EstIs (.agg #[.float .f64 zs,.float .f64 z]) k (e+4) (A+B)):=by
  refine ⟨zs,z,s,β,rfl,HH.out.2.2.2.2.2.2.1,hz,HH.out.2.2.1.plus HH.out.2.2.2.2.2.1 HH.out.2.2.2.2.2.2.2.1 ?_ (IsF.fl hz) hβ1⟩
  have es:sumA (fun j=>if j=0 then b else if j=1 then b' else a+a'-s) 3=b+b'+absI (a+a'-s):=by
   have b0:=HH.out.2.2.1.b0
   have b0':=HH.out.2.2.2.2.2.1.b0
   have q1:absI b=b:=by rcases Fl.absI_cases b with ⟨_,e⟩| ⟨_,e⟩<;>rw [e];omega
   have q2:absI b'=b':=by rcases Fl.absI_cases b' with ⟨_,e⟩| ⟨_,e⟩<;>rw [e];omega
   show 0+absI b+absI b'+absI (a+a'-s)=_
   rw [q1,q2];omega
  rw [←es];exact hβ
 clear F0 F1 B0 hb hz hβ hβ1 HH HL r1 r2 r3 r4 r5 r6
 have hst:=storeF
 go_wp2
 refine bodyPost_ret (v:= .agg #[.float .f64 zs,.float .f64 z]) (by simp [results,Tryz.results214,go_sem,r7,r8]) rfl ?_
 exact ⟨_,rfl,HE.out,(HB.out.setCell (by simp;omega) _).setCell (by simp;omega) _⟩
open Fl (IsF Nr BoundIs Summed absI Est)
theorem xor_top {X:Nat} (h:X<9223372036854775808):X^^^9223372036854775808=9223372036854775808+X:=by
 have e:(9223372036854775808:Nat)=2^63:=by decide
 rw [e] at h⊢
 apply Nat.eq_of_testBit_eq
 intro i
 rw [Nat.testBit_xor]
 rcases Nat.lt_trichotomy i 63 with hi|hi|hi
 ·rw [Nat.testBit_two_pow_add_gt hi,Nat.testBit_two_pow_of_ne (by omega)];simp
 ·subst hi;rw [Nat.testBit_two_pow_add_eq,Nat.testBit_two_pow_self,Nat.testBit_lt_two_pow h];rfl
 ·have h1:X<2^i:=Nat.lt_of_lt_of_le h (Nat.pow_le_pow_right (by decide) (by omega))
  have h2:2^63+X<2^i:=by
   have:2^64≤2^i:=Nat.pow_le_pow_right (by decide) (by omega)
   omega
  rw [Nat.testBit_lt_two_pow h1,Nat.testBit_lt_two_pow h2,Nat.testBit_two_pow_of_ne (by omega)];rfl
theorem IsF.negated {x:Nat} {a:Int} (h:IsF x a):IsF (Op.negFloat .f64 x) (-a):=by
 obtain ⟨neg,X,hX,rfl,rfl⟩:=h
 have e: ∀n,Op.negFloat .f64 n=n^^^9223372036854775808:=fun n=>rfl
 refine ⟨!neg,X,hX,?_,by rw [Fl.sg_not]⟩
 rw [e]
 unfold Ieee.Format.word
 rw [d_consts.1]
 cases neg
 ·simp only [Bool.false_eq_true,if_false,Bool.not_false,if_true];exact xor_top (by omega)
 ·simp only [if_true,Bool.not_true,Bool.false_eq_true,if_false]
  rw [←xor_top (show X<9223372036854775808 by omega),Nat.xor_assoc,Nat.xor_self,Nat.xor_zero]
theorem frames3 (w:World) (u1 v1 u2 v2 u3 v3:Value) (t:TypeId):Pr (((w.alloc (.cells #[u1,v1] t)).alloc (.cells #[u2,v2] t)).alloc (.cells #[u3,v3] t)) (w.heap.size+1+1) u3 v3∧Below w.heap.size w (((w.alloc (.cells #[u1,v1] t)).alloc (.cells #[u2,v2] t)).alloc (.cells #[u3,v3] t)):=by
 refine ⟨⟨by simp [go_sem],by simp [go_sem],fun j=>by simp [go_sem],by simp⟩,?_⟩
 exact (bel2 _ _ _).trans ((bel0 _ _).mono (by simp;omega))
theorem minusE_any (u v:Value) (k e:Nat) (A B:Int) (w:World) (he:e≤900) (hu:EstIs u k e A) (hv:EstIs v k e B):
 Calls Tryz.prog 213 #[u,v] w fun o w'=>EstOut w k (e+4) (A-B) o w':=by
 have HU:Hid (EstIs u k e A):=hu
 obtain ⟨x,y,a,b,rfl,hx,hy,hA⟩:=hu
 obtain ⟨x',y',a',b',rfl,hx',hy',hB⟩:=hv
 obtain ⟨n,hn⟩: ∃n,n=Op.negFloat .f64 x':=⟨_,rfl⟩
 have hneg: ∀w:World,(Op.unary .neg (.float .f64 x')).run Tryz.prog w= .ok (.float .f64 n) w:=fun w=>by rw [hn];rfl
 have HV:Hid (EstIs (.agg #[.float .f64 n,.float .f64 y']) k e (-B)):=⟨n,y',-a',b',rfl,by rw [hn];exact IsF.negated hx',hy',hB.neg⟩
 clear hn hx hy hA hx' hy' hB
 go_enter Tryz.func213,Tryz.ntmps213
 go_wp2_with fail
 obtain ⟨F0,B0⟩:=frames3 w (.float .f64 x) (.float .f64 y) (.float .f64 x') (.float .f64 y') oOo oOo 86
 refine (plusE_any _ _ k e A (-B) _ he HU.out HV.out).mono ?_
 rintro o w1 ⟨v,rfl,hv,hb⟩
 have HE:Hid (EstIs v k (e+4) (A-B)):=by
  unfold Hid;rw [show A-B=A+ -B by omega];exact hv
 obtain ⟨xs,ys,_,_,rfl,_,_,_⟩:=hv
 have F1:=F0.later hb
 have r7:=F1.c0
 have r8:=F1.c1
 have r9:=F1.fz
 have HB:Hid (Below w.heap.size w w1):=B0.trans (hb.mono B0.size)
 clear F0 F1 B0 hb HU HV hneg
 have hst:=storeF
 go_wp2
 refine bodyPost_ret (v:= .agg #[.float .f64 xs,.float .f64 ys]) (by simp [results,Tryz.results213,go_sem,r7,r8]) rfl ?_
 exact ⟨_,rfl,HE.out,(HB.out.setCell (by simp;omega) _).setCell (by simp;omega) _⟩
open Fl (IsF Nr BoundIs Summed absI Est)
theorem frow5 (w:World) (x y z u v:Nat) (t:TypeId):FRow (w.alloc (.cells #[x,y,z,u,v] t)) w.heap.size 5 (fun j=>if j=0 then x else if j=1 then y else if j=2 then z else if j=3 then u else v):=by
 refine ⟨by simp,fun j hj=> ?_⟩
 match j,hj with
 |0,_=>simp
 |1,_=>simp
 |2,_=>simp
 |3,_=>simp
 |4,_=>simp
theorem mulB {x y:Nat} {a b:Int} {i j:Nat} (hx:IsF x a) (hy:IsF y b) (ha:Mg (1074+i) a) (hb:Mg (1074+j) b) (hi:i+j≤1000): ∃z r,floatBits .mul .f64 x y=some z∧IsF z r∧Nr 1074 (a*b) r∧Mg (1074+i+j) r:=by
 have hm:=Fl.mul_mag ha.2 ha.1 hb.2 hb.1
 have h2:(2:Int)^(1074+i+(1074+j))≤2^(2090+1074):=Fl.pow_le (by omega)
 obtain ⟨z,r,e,hz,hn⟩:=Fl.mul_isF hx hy (Int.le_trans hm.1 h2) (Int.le_trans (Int.neg_le_neg h2) hm.2)
 have em:(2:Int)^(1074+i+(1074+j))=2^(1074+i+j)*2^1074:=by rw [←Int.pow_add];congr 1;omega
 rw [em] at hm
 exact ⟨z,r,e,hz,hn,hn.ge (Fl.Fl.pow _).neg (by rw [Int.neg_mul];exact hm.2),hn.le (Fl.Fl.pow _) hm.1⟩
theorem run_fma (x y z r:Nat) (h:Ieee.double.fma x y z=some r) (w:World):(callFunc 217 #[x,y,z]).run Tryz.prog w= .ok (.value r) w:=by
 rw [run_callFunc_extern (e:=Extern.MathFMA.fma) Tryz.func217 (by kernel_rfl) (by kernel_rfl) (by kernel_rfl) (by kernel_rfl)]
 have h':FloatKind.f64.format.fma x y z=some r:=h
 conv in (Extern.MathFMA.fma _)=>whnf
 rw [h']
 rfl
theorem fmaB {x y z:Nat} {a b c:Int} {i j:Nat} (hx:IsF x a) (hy:IsF y b) (hz:IsF z c) (ha:Mg (1074+i) a) (hb:Mg (1074+j) b) (hc:Mg (1074+i+j) c) (hi:i+j≤1000): ∃r l,Ieee.double.fma x y z=some r∧IsF r l∧Nr 1074 (a*b+c*2^1074) l:=by
 have hm:=Fl.mul_mag ha.2 ha.1 hb.2 hb.1
 have h2:(2:Int)^(1074+i+(1074+j)+1)≤2^(2090+1074):=Fl.pow_le (by omega)
 have h3:=Fl.pow_succ2 (1074+i+(1074+j))
 have em:(2:Int)^(1074+i+(1074+j))=2^(1074+i+j)*2^1074:=by rw [←Int.pow_add];congr 1;omega
 have p:=Fl.pow_pos2 1074
 have c1:c*2^1074≤2^(1074+i+j)*2^1074:=Int.mul_le_mul_of_nonneg_right hc.2 (by omega)
 have c2: -(2^(1074+i+j))*2^1074≤c*2^1074:=Int.mul_le_mul_of_nonneg_right hc.1 (by omega)
 rw [Int.neg_mul] at c2
 have k1:a*b+c*2^1074≤2^(1074+i+(1074+j)+1):=by omega
 have k2: -(2^(1074+i+(1074+j)+1))≤a*b+c*2^1074:=by omega
 exact Fl.fma_isF hx hy hz (Int.le_trans k1 h2) (Int.le_trans (Int.neg_le_neg h2) k2)
theorem isF_faded:IsF 103582791429521408 (2^74):=⟨false,103582791429521408,by decide,by decide,by decide+kernel⟩
theorem timesE_any (u v:Value) (k k' e e':Nat) (A B:Int) (w:World) (hk:k+k'≤7) (he:e+e'≤900) (hu:EstIs u k e A) (hv:EstIs v k' e' B):
 Calls Tryz.prog 215 #[u,v] w fun o w'=>EstOut w (k+k') (e+e'+4) (A*B) o w':=by
 obtain ⟨x,y,a,b,rfl,hx,hy,hA⟩:=hu
 obtain ⟨x',y',a',b',rfl,hx',hy',hB⟩:=hv
 obtain ⟨zp,p,ep,fp,np,mp⟩:=mulB hx hx' ⟨hA.v2,hA.v1⟩ ⟨hB.v2,hB.v1⟩ (by omega)
 have rp:=fun w:World=>run_float_arith (P:=Tryz.prog) w .mul 84 .f64 x x' zp ep
 obtain ⟨zn,hzn⟩: ∃n,n=Op.negFloat .f64 zp:=⟨_,rfl⟩
 have rn: ∀w:World,(Op.unary .neg (.float .f64 zp)).run Tryz.prog w= .ok (.float .f64 zn) w:=fun w=>by rw [hzn];rfl
 have hzf:IsF zn (-p):=by rw [hzn];exact IsF.negated fp
 clear hzn
 obtain ⟨zl,l,el,fl,nl⟩:=fmaB hx hx' hzf ⟨hA.v2,hA.v1⟩ ⟨hB.v2,hB.v1⟩ ⟨by have:=mp.2;omega,by have:=mp.1;omega⟩ (by omega)
 have rl:=fun w:World=>run_fma x x' zn zl el w
 have mb:Mg (1074+e) b:=⟨by have:=hA.b0;have:=Fl.pow_pos2 (1074+e);omega,hA.b1⟩
 have mb':Mg (1074+e') b':=⟨by have:=hB.b0;have:=Fl.pow_pos2 (1074+e');omega,hB.b1⟩
 obtain ⟨z1,q1,e1,f1,n1,m1⟩:=mulB hx hy' ⟨hA.v2,hA.v1⟩ mb' (by omega)
 obtain ⟨z2,q2,e2,f2,n2,m2⟩:=mulB hy hx' mb ⟨hB.v2,hB.v1⟩ (by omega)
 obtain ⟨z3,q3,e3,f3,n3,m3⟩:=mulB hy hy' mb mb' (by omega)
 have r1:=fun w:World=>run_float_arith (P:=Tryz.prog) w .mul 84 .f64 x y' z1 e1
 have r2:=fun w:World=>run_float_arith (P:=Tryz.prog) w .mul 84 .f64 y x' z2 e2
 have r3:=fun w:World=>run_float_arith (P:=Tryz.prog) w .mul 84 .f64 y y' z3 e3
 have ml:Mg (1074+e+e') l:=by
  have hq:(1074-149*k)+(1074-149*k')=1074+(1074-149*(k+k')):=by omega
  obtain ⟨n,hn,_,hne⟩:=Fl.prod_err hA.fv hB.fv hA.dv hB.dv hq
  have np0:=np
  have nl0:=nl
  rw [hn] at np0 nl0
  have hl:l=n-p:=by
   have:n*2^1074+ -p*2^1074=(n-p)*2^1074:=by rw [Int.sub_mul,Int.neg_mul];rfl
   rw [this] at nl0
   exact nl0.self (hne p np0.unscale)
  have hm:=Fl.mul_mag hA.v1 hA.v2 hB.v1 hB.v2
  have em:(2:Int)^(1074+e+(1074+e'))=2^(1074+e+e')*2^1074:=by rw [←Int.pow_add];congr 1;omega
  rw [em,hn] at hm
  have p74:=Fl.pow_pos2 1074
  have hn1:n≤2^(1074+e+e'):=Int.le_of_mul_le_mul_right hm.1 p74
  have hn2: -(2^(1074+e+e'))≤n:=Int.le_of_mul_le_mul_right (by rw [Int.neg_mul];exact hm.2) p74
  have hl2:=Fl.loss_le (a:=0) (b:=n) Fl.Fl.zero (by rw [Int.zero_add];exact np0.unscale)
  rw [Int.zero_add] at hl2
  rw [hl]
  have hnn:=absI_le (n:=n) ⟨hn2,hn1⟩
  constructor
  ·rcases Fl.absI_cases (n-p) with ⟨_,q⟩| ⟨_,q⟩<;>rw [q] at hl2<;>omega
  ·rcases Fl.absI_cases (n-p) with ⟨_,q⟩| ⟨_,q⟩<;>rw [q] at hl2<;>omega
 have HM:Hid (IsF z1 q1∧IsF z2 q2∧IsF z3 q3∧IsF zl l∧absI q1≤2^(1074+e+e')∧absI q2≤2^(1074+e+e')∧absI q3≤2^(1074+e+e')∧absI l≤2^(1074+e+e')):=⟨f1,f2,f3,fl,absI_le m1,absI_le m2,absI_le m3,absI_le ml⟩
 have HE:Hid (∀(U S β:Int),(b=0∧b'=0∧U=0∨U=2^74)→S=absI q1+absI q2+absI q3+absI l+U→BoundIs S β→Fl.Fl β→β≤2^(1074+(e+e'+4))→Est (k+k') (e+e'+4) (A*B) p β):=fun U S β hU hS hβ fβ hβ1=>hA.times hk hB np nl n1 n2 n3 hU hS hβ fβ hβ1
 have HP:Hid (IsF zp p):=fp
 have oy:FloatKind.f64.format.order y 0=some (compare b 0):=Fl.order_isF hy isF_zero
 have oy':FloatKind.f64.format.order y' 0=some (compare b' 0):=Fl.order_isF hy' isF_zero
 have ways:(b=0∧b'=0∧(FloatKind.f64.format.order y 0 !=some .eq)=false∧(FloatKind.f64.format.order y' 0 !=some .eq)=false)∨((FloatKind.f64.format.order y 0 !=some .eq)=false∧(FloatKind.f64.format.order y' 0 !=some .eq)=true)∨(FloatKind.f64.format.order y 0 !=some .eq)=true:=by
  rw [oy,oy']
  have hne: ∀z:Int,z≠0→((some (compare z 0):Option Ordering) !=some .eq)=true:=by
   intro z hz
   rcases Int.lt_trichotomy z 0 with h|h|h
   ·rw [Int.compare_eq_lt.2 h];rfl
   ·exact absurd h hz
   ·rw [Int.compare_eq_gt.2 h];rfl
  by_cases h1:b=0
  ·by_cases h2:b'=0
   ·left;rw [h1,h2];exact ⟨rfl,rfl,rfl,rfl⟩
   ·right;left;rw [h1];exact ⟨rfl,hne _ h2⟩
  ·right;right;exact hne _ h1
 clear hx hy hA hx' hy' hB fp np mp hzf fl nl f1 f2 f3 n1 n2 n3 m1 m2 m3 ml mb mb' ep el e1 e2 e3 oy oy'
 have hst:=storeF
 go_enter Tryz.func215,Tryz.ntmps215
 rcases ways with ⟨z1b,z2b,c1,c2⟩| ⟨c1,c2⟩|c1
 ·go_wp2_with fail
  refine (boundOf_any (w.heap.size+1+1+1) 5 5 (1074+e+e') (fun j=>if j=0 then z1 else if j=1 then z2 else if j=2 then z3 else if j=3 then zl else 0) (fun j=>if j=0 then q1 else if j=1 then q2 else if j=2 then q3 else if j=3 then l else 0) _ (by omega) (by omega) ?_ ?_ ?_).mono ?_
  ·have:=frow5 (((w.alloc (.cells #[.float .f64 x,.float .f64 y] 86)).alloc (.cells #[.float .f64 x',.float .f64 y'] 86)).alloc (.cells #[oOo,oOo] 86)) z1 z2 z3 zl 0 84
   simpa using this
  ·intro j hj
   match j,hj with
   |0,_=>exact HM.out.1
   |1,_=>exact HM.out.2.1
   |2,_=>exact HM.out.2.2.1
   |3,_=>exact HM.out.2.2.2.1
   |4,_=>exact isF_zero
  ·intro j hj
   match j,hj with
   |0,_=>exact HM.out.2.2.2.2.1
   |1,_=>exact HM.out.2.2.2.2.2.1
   |2,_=>exact HM.out.2.2.2.2.2.2.1
   |3,_=>exact HM.out.2.2.2.2.2.2.2
   |4,_=>exact Int.le_trans (show absI 0≤2^74 by decide+kernel) (Fl.pow_le (show 74≤1074+e+e' by omega))
  rintro o w1 ⟨z,β,rfl,hz,hβ,hβ1,hb⟩
  obtain ⟨F0,B0⟩:=three_frames w (.float .f64 x) (.float .f64 y) (.float .f64 x') (.float .f64 y') oOo oOo 86 #[.float .f64 z1,.float .f64 z2,.float .f64 z3,.float .f64 zl,oOo] 84
  have F1:=F0.later hb
  have r7:=F1.c0
  have r8:=F1.c1
  have r9:=F1.fz
  have HB:Hid (Below w.heap.size w w1):=B0.trans (hb.mono B0.size)
  have HR:Hid (EstIs (.agg #[.float .f64 zp,.float .f64 z]) (k+k') (e+e'+4) (A*B)):=by
   refine ⟨zp,z,p,β,rfl,HP.out,hz,HE.out 0 _ β (Or.inl ⟨z1b,z2b,rfl⟩) rfl ?_ (IsF.fl hz) (by rw [show 1074+(e+e'+4)=1074+e+e'+4 by omega];exact hβ1)⟩
   have es:sumA (fun j=>if j=0 then q1 else if j=1 then q2 else if j=2 then q3 else if j=3 then l else 0) 5=absI q1+absI q2+absI q3+absI l+0:=by
    show 0+absI q1+absI q2+absI q3+absI l+absI 0=_
    rw [show absI 0=0 by decide+kernel];omega
   rw [←es];exact hβ
  clear F0 F1 B0 hb hz hβ hβ1 HM HE r1 r2 r3 rp rn rl
  go_wp2
  refine bodyPost_ret (v:= .agg #[.float .f64 zp,.float .f64 z]) (by simp [results,Tryz.results215,go_sem,r7,r8]) rfl ?_
  exact ⟨_,rfl,HR.out,(HB.out.setCell (by simp;omega) _).setCell (by simp;omega) _⟩
 all_goals
  go_wp2_with fail
  refine (boundOf_any (w.heap.size+1+1+1) 5 5 (1074+e+e') (fun j=>if j=0 then z1 else if j=1 then z2 else if j=2 then z3 else if j=3 then zl else 103582791429521408) (fun j=>if j=0 then q1 else if j=1 then q2 else if j=2 then q3 else if j=3 then l else (2^74)) _ (by omega) (by omega) ?_ ?_ ?_).mono ?_
  ·have:=frow5 (((w.alloc (.cells #[.float .f64 x,.float .f64 y] 86)).alloc (.cells #[.float .f64 x',.float .f64 y'] 86)).alloc (.cells #[oOo,oOo] 86)) z1 z2 z3 zl 103582791429521408 84
   simpa using this
  ·intro j hj
   match j,hj with
   |0,_=>exact HM.out.1
   |1,_=>exact HM.out.2.1
   |2,_=>exact HM.out.2.2.1
   |3,_=>exact HM.out.2.2.2.1
   |4,_=>exact isF_faded
  ·intro j hj
   match j,hj with
   |0,_=>exact HM.out.2.2.2.2.1
   |1,_=>exact HM.out.2.2.2.2.2.1
   |2,_=>exact HM.out.2.2.2.2.2.2.1
   |3,_=>exact HM.out.2.2.2.2.2.2.2
   |4,_=>exact Int.le_trans (show absI (2^74)≤2^74 by decide+kernel) (Fl.pow_le (show 74≤1074+e+e' by omega))
  rintro o w1 ⟨z,β,rfl,hz,hβ,hβ1,hb⟩
  obtain ⟨F0,B0⟩:=three_frames w (.float .f64 x) (.float .f64 y) (.float .f64 x') (.float .f64 y') oOo oOo 86 #[.float .f64 z1,.float .f64 z2,.float .f64 z3,.float .f64 zl,.float .f64 103582791429521408] 84
  have F1:=F0.later hb
  have r7:=F1.c0
  have r8:=F1.c1
  have r9:=F1.fz
  have HB:Hid (Below w.heap.size w w1):=B0.trans (hb.mono B0.size)
  have HR:Hid (EstIs (.agg #[.float .f64 zp,.float .f64 z]) (k+k') (e+e'+4) (A*B)):=by
   refine ⟨zp,z,p,β,rfl,HP.out,hz,HE.out (2^74) _ β (Or.inr rfl) rfl ?_ (IsF.fl hz) (by rw [show 1074+(e+e'+4)=1074+e+e'+4 by omega];exact hβ1)⟩
   have es:sumA (fun j=>if j=0 then q1 else if j=1 then q2 else if j=2 then q3 else if j=3 then l else (2^74)) 5=absI q1+absI q2+absI q3+absI l+(2^74):=by
    show 0+absI q1+absI q2+absI q3+absI l+absI (2^74)=_
    rw [show absI (2^74)=(2^74) by decide+kernel];omega
   rw [←es];exact hβ
  clear F0 F1 B0 hb hz hβ hβ1 HM HE r1 r2 r3 rp rn rl
  go_wp2
  refine bodyPost_ret (v:= .agg #[.float .f64 zp,.float .f64 z]) (by simp [results,Tryz.results215,go_sem,r7,r8]) rfl ?_
  exact ⟨_,rfl,HR.out,(HB.out.setCell (by simp;omega) _).setCell (by simp;omega) _⟩
end Go.Proofs.YtfieffpobgcpmaaGreatDoor
