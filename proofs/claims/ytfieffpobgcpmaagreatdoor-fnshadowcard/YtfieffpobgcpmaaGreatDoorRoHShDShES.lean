import Derived.Test.YtfieffpobgcpmaaGreatDoorRoDRoERoFRoGS
import Derived.Test.YtfieffpobgcpmaaGreatDoorEsKBgHEsHEsLEsIS
import Derived.Test.YtfieffpobgcpmaaGreatDoorHoNToRoAS
import Derived.Test.YtfieffpobgcpmaaGreatDoorPsCToEsQS
import Derived.Test.YtfieffpobgcpmaaGreatDoorDy1ToRkBS
import Derived.Test.YtfieffpobgcpmaaGreatDoorBgNReARkACoAS
import Derived.Deep.MidRow
import Derived.Deep.CutRange
import Derived.Deep.RegionHeld3
set_option maxRecDepth 100000
set_option maxHeartbeats 32000000
namespace Go.Proofs.YtfieffpobgcpmaaGreatDoor
open Go.RowKit Go.Proofs.Tryz
variable {A p q K s0 s1 s2:Int} {v:Value}
open Go.RowKit Fl
def θh (v:Value) (k e:Nat) (S A:Int):Prop:= ∃(x y:Nat) (a b:Int),v= .agg #[x,y]∧IsF x a∧IsF y b∧Est k e S A a b∧b<=a∧a*S<=2*(A*2^1074)
def θX (w:World) (k e:Nat) (S A:Int) (o:Ending) (w':World):Prop:= ∃v,o= .returned v∧θh v k e S A∧Below w w w'
theorem ηG {y:Nat} {c:Int} (hy:IsF y c) (hc:0<c):floatBits .quo .f64 0 y=some 0:=by
 obtain ⟨n,j,e2,_,_,hn⟩:=ωr hy hc
 have e1:Ieee.double.read 0= .number false 0 (-1074):=by decide+kernel
 show Ieee.double.div 0 y=some 0
 unfold Ieee.Format.div
 rw [e1,e2]
 simp only [Ieee.Datum.quotient,show n≠0 by omega,if_false,Nat.zero_shiftLeft,Nat.zero_div,Nat.zero_mod]
 rfl
theorem σH (g g':Bool) (a a':Option Addr) (c c':Nat) (zs ys:List Int) (p q:Int) (w:World) (hz:zs.length<=1000) (hy:ys.length<=1000) (hzc:zs.length<=c) (hyc:ys.length<=c') (hcm:c<=maxLen) (hcm':c'<=maxLen) (rz:ζk .u32 w a zs) (ry:ζk .u32 w a' ys) (kz:ζv 4294967296 zs) (ky:ζv 4294967296 ys) (vz:val 4294967296 zs=p) (vy:val 4294967296 ys=q) (hp:0<p) (hq:0<q) (h1:p<=q*2^290) (h2:q<=p*2^850):
 Calls prog 108 #[.agg #[g,.slice a zs c,g',.slice a' ys c']] w fun o w'=>θX w 0 291 q p o w':=by
 have nz:zs≠[]:=fun h=>by rw [h] at vz;simp [val] at vz;omega
 have ny:ys≠[]:=fun h=>by rw [h] at vy;simp [val] at vy;omega
 have HL1:Hid (∀W,Below w w W->Calls prog 151 #[.slice a zs c] W fun e w'=>ωs W p e w'):=fun W hb=>by
  have:=ωt a c zs W hz hzc hcm (rz.later hb) kz nz
  rwa [vz] at this
 have HL2:Hid (∀W,Below w w W->Calls prog 151 #[.slice a' ys c'] W fun e w'=>ωs W q e w'):=fun W hb=>by
  have:=ωt a' c' ys W hy hyc hcm' (ry.later hb) ky ny
  rwa [vy] at this
 have HP:Hid (0<p∧0<q∧p<=q*2^290∧q<=p*2^850):=⟨hp,hq,h1,h2⟩
 obtain ⟨V0,hV0⟩: ∃V,(w.alloc (.cells #[g,.slice a zs c,g',.slice a' ys c'] 81)).alloc (.cells #[oOo,oOo] 86)=V:=⟨_,rfl⟩
 have HB0:Hid (Below w w V0):=by unfold Hid;rw [<-hV0];exact ξr _ _ _
 have HC0:Hid (Cs V0 w [g,.slice a zs c,g',.slice a' ys c']):=by unfold Hid;rw [<-hV0];exact (Cs.new _ _ _).later (ζc _ _)
 have HE0:Hid (Cs V0 (↑w+1) [oOo,oOo]):=by
  have:=Cs.new (w.alloc (.cells #[g,.slice a zs c,g',.slice a' ys c'] 81)) #[oOo,oOo] 86
  unfold Hid;rw [<-hV0];simpa using this
 clear hz hy hzc hyc hcm hcm' rz ry kz ky vz vy hp hq h1 h2 nz ny
 have st:=ζY
 obtain ⟨f0,f1,f2,f3⟩:=HC0.out.c4
 go_enter func108,ntmps108
 go_wp2_with fail
 clear hV0
 refine (HL1.out _ HB0.out).mono ?_
 rintro o w1 ⟨x,ca,A,rfl,L1,hb⟩
 have HB1:Hid (Below w w w1):=HB0.out.trans (hb.mono HB0.out.size)
 have HC1:=Hid.mk (HC0.out.later hb)
 have HE1:=Hid.mk (HE0.out.later hb)
 have HLa:=Hid.mk L1
 clear f0 f1 f2 f3 hb HC0 HE0 HB0 L1
 obtain ⟨f0,f1,f2,f3⟩:=HC1.out.c4
 go_wp2_with fail
 refine (HL2.out _ HB1.out).mono ?_
 rintro o w2 ⟨y,cb,B,rfl,L2,hb⟩
 have HB2:Hid (Below w w w2):=HB1.out.trans (hb.mono HB1.out.size)
 have HE2:=Hid.mk (HE1.out.later hb)
 have HLb:=Hid.mk L2
 clear f0 f1 f2 f3 hb HC1 HE1 HB1 L2
 obtain ⟨z,r,hq,hz,hr,d⟩:=κ9 HLa.out HLb.out
 have hop: ∀t w,(binOp .quo t (.float .f64 x) (.float .f64 y)).run prog w= .ok (.float .f64 z) w:=fun t w=>run_float_arith w .quo t .f64 _ _ _ hq
 have HZ:Hid (IsF z r∧0<r∧Rel 194 (r*B) (A*2^1074)):=⟨hz,hr,d⟩
 have hca:=HLa.out.cut
 have hcb:=HLb.out.cut
 clear hq hz hr d
 go_wp2_with fail
 clear hop
 refine (ρl _ _ rfl HP.out.1 HP.out.2.1 HP.out.2.2.1 HP.out.2.2.2 HLa.out HLb.out HZ.out.1 HZ.out.2.1 HZ.out.2.2).mono ?_
 rintro o w3 ⟨u,v,rfl,hu,hR,hb⟩
 obtain ⟨uy,b,hq,hy,hE⟩:=σG HP.out.1 HP.out.2.1 HP.out.2.2.1 HP.out.2.2.2 hu hR
 have hop: ∀t w,(binOp .quo t (.float .f64 u) (.float .f64 4832362400168542208)).run prog w= .ok (.float .f64 uy) w:=fun t w=>run_float_arith w .quo t .f64 _ _ _ hq
 have HF:Hid (θh (.agg #[.float .f64 u,.float .f64 uy]) 0 291 q p):=⟨u,uy,v,b,rfl,hu,hy,hE⟩
 have HB3:Hid (Below w w w3):=HB2.out.trans (hb.mono HB2.out.size)
 have HE3:=Hid.mk (HE2.out.later hb)
 obtain ⟨e0,e1⟩:=HE3.out.c2
 have ef:=HE3.out.2.1
 clear hq hu hR hy hE hb
 go_wp2
 refine bodyPost_ret (v:= .agg #[.float .f64 u,.float .f64 uy]) (by simp [results,results108,go_sem,e0,e1]) rfl ?_
 exact ⟨_,rfl,HF.out,((HB3.out).setCell (by simp) _).setCell (by simp) _⟩
theorem ρm (g g':Bool) (a a':Option Addr) (c c':Nat) (ys:List Int) (q:Int) (w:World) (hy:ys.length<=1000) (hyc:ys.length<=c') (hcm:c<=maxLen) (hcm':c'<=maxLen) (ry:ζk .u32 w a' ys) (ky:ζv 4294967296 ys) (vy:val 4294967296 ys=q) (hq:0<q):
 Calls prog 108 #[.agg #[g,.slice a 0 c,g',.slice a' ys c']] w fun o w'=>θX w 0 291 q 0 o w':=by
 have ny:ys≠[]:=fun h=>by rw [h] at vy;simp [val] at vy;omega
 have HL1:Hid (∀W,Calls prog 151 #[.slice a 0 c] W fun e w'=>e= .returned (.tuple #[oOo,.int .i64 0])∧Below W W w'):=fun W=>κ7 a c W hcm
 have HL2:Hid (∀W,Below w w W->Calls prog 151 #[.slice a' ys c'] W fun e w'=>ωs W q e w'):=fun W hb=>by
  have:=ωt a' c' ys W hy hyc hcm' (ry.later hb) ky ny
  rwa [vy] at this
 have HP:=Hid.mk hq
 obtain ⟨V0,hV0⟩: ∃V,(w.alloc (.cells #[g,.slice a 0 c,g',.slice a' ys c'] 81)).alloc (.cells #[oOo,oOo] 86)=V:=⟨_,rfl⟩
 have HB0:Hid (Below w w V0):=by unfold Hid;rw [<-hV0];exact ξr _ _ _
 have HC0:Hid (Cs V0 w [g,.slice a 0 c,g',.slice a' ys c']):=by unfold Hid;rw [<-hV0];exact (Cs.new _ _ _).later (ζc _ _)
 have HE0:Hid (Cs V0 (↑w+1) [oOo,oOo]):=by
  have:=Cs.new (w.alloc (.cells #[g,.slice a 0 c,g',.slice a' ys c'] 81)) #[oOo,oOo] 86
  unfold Hid;rw [<-hV0];simpa using this
 clear hy hyc hcm hcm' ry ky vy hq ny
 have st:=ζY
 obtain ⟨f0,f1,f2,f3⟩:=HC0.out.c4
 go_enter func108,ntmps108
 go_wp2_with fail
 clear hV0
 refine (HL1.out _).mono ?_
 rintro o w1 ⟨rfl,hb⟩
 have HB1:Hid (Below w w w1):=HB0.out.trans (hb.mono HB0.out.size)
 have HC1:=Hid.mk (HC0.out.later hb)
 have HE1:=Hid.mk (HE0.out.later hb)
 clear f0 f1 f2 f3 hb HC0 HE0 HB0
 obtain ⟨f0,f1,f2,f3⟩:=HC1.out.c4
 go_wp2_with fail
 refine (HL2.out _ HB1.out).mono ?_
 rintro o w2 ⟨y,cb,B,rfl,L2,hb⟩
 have HB2:Hid (Below w w w2):=HB1.out.trans (hb.mono HB1.out.size)
 have HE2:=Hid.mk (HE1.out.later hb)
 have HLb:=Hid.mk L2
 clear f0 f1 f2 f3 hb HC1 HE1 HB1 L2
 have hop: ∀t w,(binOp .quo t oOo (.float .f64 y)).run prog w= .ok oOo w:=fun t w=>run_float_arith w .quo t .f64 _ _ _ (ηG HLb.out.f (by have:=HLb.out.lo;have:=Fl.pow_pos2 1074;omega))
 have hcb:=HLb.out.cut
 go_wp2_with fail
 clear hop
 refine (χQ _ _).mono ?_
 rintro o w3 ⟨rfl,hb⟩
 have hop: ∀t w,(binOp .quo t oOo (.float .f64 4832362400168542208)).run prog w= .ok oOo w:=fun t w=>run_float_arith w .quo t .f64 _ _ _ (ηG isF_50 (Fl.pow_pos2 _))
 have HF:Hid (θh (.agg #[oOo,oOo]) 0 291 q 0):=⟨0,0,0,0,rfl,isF_zero,isF_zero,κ6 291 HP.out,by omega,by rw [Int.zero_mul,Int.zero_mul];decide⟩
 have HB3:Hid (Below w w w3):=HB2.out.trans (hb.mono HB2.out.size)
 have HE3:=Hid.mk (HE2.out.later hb)
 obtain ⟨e0,e1⟩:=HE3.out.c2
 have ef:=HE3.out.2.1
 clear hb
 go_wp2
 refine bodyPost_ret (v:= .agg #[oOo,oOo]) (by simp [results,results108,go_sem,e0,e1]) rfl ?_
 exact ⟨_,rfl,HF.out,((HB3.out).setCell (by simp) _).setCell (by simp) _⟩
theorem σI (v:Value) (e:Nat) (p q:Int) (w:World) (he:e<=30000) (hv:ζO w v e p q) (hp:0<=p) (hq:0<q) (h1:p<=q*2^290) (h2:p=0∨q<=p*2^850):
 Calls prog 108 #[v] w fun o w'=>θX w 0 291 q p o w':=by
 obtain ⟨g,a,c,z,g',a',c',z',rfl,b1,b2⟩:=hv
 obtain ⟨zs,hzs,k1,⟨m1,n1,o1⟩,r1⟩:=b1.inv
 obtain ⟨ys,hys,k2,⟨m2,n2,o2⟩,r2⟩:=b2.inv
 rw [hzs,hys]
 have l1:=ζC k1 m1 he
 have l2:=ζC k2 m2 he
 have v2:val 4294967296 ys=q:=by
  rw [φ8 k2]
  rcases Fl.absI_cases q with ⟨_,e⟩| ⟨_,e⟩<;>omega
 rcases Int.lt_or_eq_of_le hp with hp0|hp0
 ·have v1:val 4294967296 zs=p:=by
   rw [φ8 k1]
   rcases Fl.absI_cases p with ⟨_,e⟩| ⟨_,e⟩<;>omega
  exact σH g g' a a' c c' zs ys p q w (by omega) (by omega) n1 n2 o1 o2 r1 r2 k1.can k2.can v1 v2 hp0 hq h1 (h2.resolve_left (by omega))
 ·subst hp0
  have v1:val 4294967296 zs=0:=by rw [φ8 k1];rfl
  obtain rfl:=ξO (by decide) k1.can v1
  exact ρm g g' a a' c c' ys q w (by omega) n2 o1 o2 r2 k2.can v2 hq
open Fl (IsF Nr ζz ζE absI Est)
theorem σJ {t F Q:Int} (hq:0<q) (hF:0<F) (hQ:0<Q) (hA:0<=A) (ht:0<=t) (h:t*q<=2*(p*Q)) (h1:A*p<=q*K):0<=A*F*t∧A*F*t<=2*K*F*Q:=by
 have hAF:0<=A*F:=Int.mul_nonneg hA (Int.le_of_lt hF)
 refine ⟨Int.mul_nonneg hAF ht,?_⟩
 refine Int.le_of_mul_le_mul_right (a:=q) ?_ hq
 have s1:A*F*(t*q)<=A*F*(2*(p*Q)):=Int.mul_le_mul_of_nonneg_left h hAF
 have hFQ:0<=2*F*Q:=Int.mul_nonneg (by omega) (Int.le_of_lt hQ)
 have s2:A*p*(2*F*Q)<=q*K*(2*F*Q):=Int.mul_le_mul_of_nonneg_right h1 hFQ
 have e1:A*F*t*q=A*F*(t*q):=Int.mul_assoc _ _ _
 have e2:A*F*(2*(p*Q))=A*p*(2*F*Q):=by grind
 have e3:q*K*(2*F*Q)=2*K*F*Q*q:=by grind
 omega
theorem νv {t F Q:Int} (hq:0<q) (hF:0<F) (hQ:0<Q) (ht:0<=t) (h:t*q<=2*(p*Q)) (h1:A*p<=q*K) (h2: -(q*K)<=A*p) (hK:0<=2*K*F*Q):A*F*t<=2*K*F*Q∧ -(2*K*F*Q)<=A*F*t:=by
 rcases Int.le_total 0 A with hA|hA
 ·have:=σJ hq hF hQ hA ht h h1
  omega
 ·have:=σJ (A:= -A) (K:=K) hq hF hQ (by omega) ht h (by rw [Int.neg_mul];omega)
  rw [Int.neg_mul,Int.neg_mul] at this
  omega
theorem τa (a b c:Nat):(2:Int)*2^a*2^b*2^c=2^(a+1+b)*2^c:=by
 rw [Int.pow_add _ (a+1) b,Int.pow_succ,Int.mul_comm 2 (2^a)]
theorem σK:(2:Int)*2^278*2^925*2^1074=2^(1074+130)*2^1074:=by
 have h:=τa 278 925 1074
 rw [show 278+1+925=1074+130 from rfl] at h
 exact h
theorem isF_naught {b:Int} (h:IsF 0 b):b=0:=by
 have h1:=Fl.order_isF h isF_zero
 have h2:=Fl.order_isF isF_zero isF_zero
 rw [h1] at h2
 simp only [Option.some.injEq] at h2
 rw [show compare (0:Int) 0= .eq from rfl] at h2
 exact Int.compare_eq_eq.1 h2
theorem φl (x a0 a1:Nat) (A p q:Int) (w:World) (hu:ζu (.agg #[x,oOo]) 1 128 1 A) (hv:θh (.agg #[a0,a1]) 0 291 q p) (h1:A*p<=q*2^278) (h2: -(q*2^278)<=A*p):
 Calls prog 215 #[.agg #[x,oOo],.agg #[a0,a1]] w fun o w'=>ζ4 w 1 134 q (A*p) o w':=by
 obtain ⟨x',y',a,b,he,hx,hy,hA⟩:=hu
 simp only [Value.agg.injEq,Array.mk.injEq,List.cons.injEq,Value.float.injEq,true_and,and_true] at he
 obtain ⟨rfl,rfl⟩:=he
 obtain rfl:=isF_naught hy
 obtain ⟨z,z',a',b',he,hz,hz',hB,hba,hap⟩:=hv
 simp only [Value.agg.injEq,Array.mk.injEq,List.cons.injEq,Value.float.injEq,true_and,and_true] at he
 obtain ⟨rfl,rfl⟩:=he
 have ea:a=A*2^925:=by
  have l:=hA.lo
  have r:=hA.hi
  rw [show 1074-149*1=925 from rfl] at l r
  generalize A*2^925=X at*
  omega
 have hq:=hB.s0
 have b0:=hB.b0
 have hM:(0:Int)<=2*2^278*2^925*2^1074:=by rw [σK];exact Int.le_of_lt (Int.mul_pos (Fl.pow_pos2 _) (Fl.pow_pos2 _))
 have g: ∀t:Int,0<=t->t<=a'->MgP 130 (a*t):=fun t t0 t1=>by
  have ht:t*q<=2*(p*2^1074):=Int.le_trans (Int.mul_le_mul_of_nonneg_right t1 (Int.le_of_lt hq)) hap
  have:=νv hq (Fl.pow_pos2 925) (Fl.pow_pos2 1074) t0 ht h1 h2 hM
  rw [σK,<-ea] at this
  exact this
 have z0: ∀t:Int,MgP 130 (0*t):=fun t=>by
  rw [Int.zero_mul]
  have:=Int.mul_pos (Fl.pow_pos2 (1074+130)) (Fl.pow_pos2 1074)
  constructor<;>omega
 have h:=χH x 0 a0 a1 a 0 a' b' 1 0 128 291 130 1 q A p w (by omega) (by omega) hx hy hA hz hz' hB (g a' (by omega) (Int.le_refl _)) (g b' b0 hba) (z0 _) (z0 _)
 rw [Int.one_mul] at h
 exact h
theorem θi (x1 x2 x3 a0 a1:Nat) (A B C p q:Int) (w:World) (hu:ξc (.agg #[x1,oOo,x2,oOo,x3,oOo]) 1 128 1 A B C) (hv:θh (.agg #[a0,a1]) 0 291 q p) (hA:A*p<=q*2^278∧ -(q*2^278)<=A*p) (hB:B*p<=q*2^278∧ -(q*2^278)<=B*p) (hC:C*p<=q*2^278∧ -(q*2^278)<=C*p):
 Calls prog 148 #[.agg #[x1,oOo,x2,oOo,x3,oOo],.agg #[a0,a1]] w fun o w'=>ξ0 w 1 134 q (A*p) (B*p) (C*p) o w':=by
 obtain ⟨z1,y1,z2,y2,z3,y3,he,h1,h2,h3⟩:=hu
 simp only [Value.agg.injEq,Array.mk.injEq,List.cons.injEq,Value.float.injEq,true_and,and_true] at he
 obtain ⟨rfl,rfl,rfl,rfl,rfl,rfl⟩:=he
 exact φv x1 0 x2 0 x3 0 a0 a1 1 134 q (A*p) (B*p) (C*p) w (fun W=>φl x1 a0 a1 A p q W h1 hv hA.1 hA.2) (fun W=>φl x2 a0 a1 B p q W h2 hv hB.1 hB.2) (fun W=>φl x3 a0 a1 C p q W h3 hv hC.1 hC.2)
structure LtF (w:World) (L R A B Z:List Value) (W:World):Prop where
 l:Cs W w L
 r:Cs W (↑w+1) R
 a:Cs W (↑w+1+1) A
 b:Cs W (↑w+1+1+1) B
 z:Cs W (↑w+1+1+1+1) Z
 iz:ζf W (↑w+1+1+1+1)
 bel:Below w w W
theorem LtF.later {w:World} {L R A B Z:List Value} {W W':World} (h:LtF w L R A B Z W) (hb:Below W W W'):LtF w L R A B Z W':=
 ⟨h.l.later hb,h.r.later hb,h.a.later hb,h.b.later hb,h.z.later hb,h.iz.later hb,h.bel.trans (hb.mono h.bel.size)⟩
theorem LtF.start (w:World) (L R A B Z:Array Value) (hZ: ∀(i:Nat) (k:IntKind) (m:Int),Z[i]? ≠some (Value.int k m)) (t0 t1 t2 t3 t4:TypeId):LtF w L.toList R.toList A.toList B.toList Z.toList (((((w.alloc (.cells L t0)).alloc (.cells R t1)).alloc (.cells A t2)).alloc (.cells B t3)).alloc (.cells Z t4)):=by
 obtain ⟨w1,h1⟩: ∃V,V=w.alloc (.cells L t0):=⟨_,rfl⟩
 obtain ⟨w2,h2⟩: ∃V,V=w1.alloc (.cells R t1):=⟨_,rfl⟩
 obtain ⟨w3,h3⟩: ∃V,V=w2.alloc (.cells A t2):=⟨_,rfl⟩
 obtain ⟨w4,h4⟩: ∃V,V=w3.alloc (.cells B t3):=⟨_,rfl⟩
 obtain ⟨w5,h5⟩: ∃V,V=w4.alloc (.cells Z t4):=⟨_,rfl⟩
 have e1:w1.heap.size=w.heap.size+1:=by rw [h1];simp
 have b1:Below w w w1:=by rw [h1];exact ζc _ _
 have c1:Cs w1 w L.toList:=by rw [h1];exact Cs.new _ _ _
 have e2:w2.heap.size=w.heap.size+1+1:=by rw [h2];simp [e1]
 have b2:Below w1 w1 w2:=by rw [h2];exact ζc _ _
 have c2:Cs w2 (↑w+1) R.toList:=by rw [h2,<-e1];exact Cs.new _ _ _
 have e3:w3.heap.size=w.heap.size+1+1+1:=by rw [h3];simp [e2]
 have b3:Below w2 w2 w3:=by rw [h3];exact ζc _ _
 have c3:Cs w3 (↑w+1+1) A.toList:=by rw [h3,<-e2];exact Cs.new _ _ _
 have e4:w4.heap.size=w.heap.size+1+1+1+1:=by rw [h4];simp [e3]
 have b4:Below w3 w3 w4:=by rw [h4];exact ζc _ _
 have c4:Cs w4 (↑w+1+1+1) B.toList:=by rw [h4,<-e3];exact Cs.new _ _ _
 have e5:w5.heap.size=w.heap.size+1+1+1+1+1:=by rw [h5];simp [e4]
 have b5:Below w4 w4 w5:=by rw [h5];exact ζc _ _
 have c5:Cs w5 (↑w+1+1+1+1) Z.toList:=by rw [h5,<-e4];exact Cs.new _ _ _
 have n5:ζf w5 (↑w+1+1+1+1):=by rw [h5,<-e4];exact ζf.new _ _ _ hZ
 rw [<-h1,<-h2,<-h3,<-h4,<-h5]
 exact ⟨((((c1.later b2).later b3).later b4).later b5),(((c2.later b3).later b4).later b5),((c3.later b4).later b5),(c4.later b5),c5,n5,((((b1.trans (b2.mono (by omega))).trans (b3.mono (by omega))).trans (b4.mono (by omega))).trans (b5.mono (by omega)))⟩
structure StN (W0:World) (P:Nat) (us:List Value) (Q:World->Prop) (W:World):Prop where
 c:Cs W P us
 q:Q W
 le:W0.heap.size<=P
 bel:Below W0 W0 W
theorem bnd_x (h:ξD K (V3.sc p (pv s0 s1 s2))):cor s0*p<=K∧ -K<=cor s0*p:=by
 rw [Int.mul_comm];exact ⟨h.1.2,h.1.1⟩
theorem bnd_y (h:ξD K (V3.sc p (pv s0 s1 s2))):cor s1*p<=K∧ -K<=cor s1*p:=by
 rw [Int.mul_comm];exact ⟨h.2.1.2,h.2.1.1⟩
theorem bnd_z (h:ξD K (V3.sc p (pv s0 s1 s2))):cor s2*p<=K∧ -K<=cor s2*p:=by
 rw [Int.mul_comm];exact ⟨h.2.2.2,h.2.2.1⟩
def VecX (v:Value) (A B C:Int):Prop:= ∃x1 x2 x3:Nat,v= .agg #[x1,oOo,x2,oOo,x3,oOo]∧ξc v 1 128 1 A B C
theorem VecX.vec {B C:Int} (h:VecX v A B C):ξc v 1 128 1 A B C:=by obtain ⟨_,_,_,_,h⟩:=h;exact h
def νw (w:World) (A B C:Int) (o:Ending) (w':World):Prop:= ∃v,o= .returned v∧VecX v A B C∧Below w w w'
theorem τb (a b c:Int) (w:World) (ha:Cor a) (hb:Cor b) (hc:Cor c):
 Calls prog 121 #[.agg #[a,b,c]] w fun o w'=>νw w (cor a) (cor b) (cor c) o w':=
 (ηm a b c w ha hb hc).mono fun _ _ ⟨x1,x2,x3,e,h,hb⟩=>⟨_,e,⟨x1,x2,x3,rfl,h⟩,hb⟩
theorem ξc.cast {k e:Nat} {S B C A' B' C':Int} (h:ξc v k e S A B C) (h1:A=A') (h2:B=B') (h3:C=C'):ξc v k e S A' B' C':=by subst h1 h2 h3;exact h
theorem τc {s3 s4 s5:Int} (h:ξc v 1 (134+4) q (q*(cor s0*1)+cor s3*p) (q*(cor s1*1)+cor s4*p) (q*(cor s2*1)+cor s5*p)):ξc v 1 142 q (pnt (pv s0 s1 s2) (pv s3 s4 s5) p q).x (pnt (pv s0 s1 s2) (pv s3 s4 s5) p q).y (pnt (pv s0 s1 s2) (pv s3 s4 s5) p q).z:=by
 have e: ∀a b:Int,q*(a*1)+b*p=a*q+b*p:=fun a b=>by rw [Int.mul_one,Int.mul_comm q]
 exact (h.up (by decide)).cast (e _ _) (e _ _) (e _ _)
theorem τd {l0 l1 l2 s3 s4 s5:Int} (h:ξc v 1 (138+4) q (q*(cor l0*1)-(q*(cor s0*1)+cor s3*p)) (q*(cor l1*1)-(q*(cor s1*1)+cor s4*p)) (q*(cor l2*1)-(q*(cor s2*1)+cor s5*p))):ξc v 1 142 q ((V3.sc q (pv l0 l1 l2)).sub (pnt (pv s0 s1 s2) (pv s3 s4 s5) p q)).x ((V3.sc q (pv l0 l1 l2)).sub (pnt (pv s0 s1 s2) (pv s3 s4 s5) p q)).y ((V3.sc q (pv l0 l1 l2)).sub (pnt (pv s0 s1 s2) (pv s3 s4 s5) p q)).z:=by
 have e: ∀l a b:Int,q*(l*1)-(q*(a*1)+b*p)=q*l-(a*q+b*p):=fun l a b=>by rw [Int.mul_one,Int.mul_one,Int.mul_comm q a]
 exact ξc.cast h (e _ _ _) (e _ _ _) (e _ _ _)
theorem θY (l0 l1 l2 s0 s1 s2 s3 s4 s5:Int) (a0 a1 d0 d1:Nat) (p q:Int) (w:World) (ha:θh (.agg #[a0,a1]) 0 291 q p) (hd:ζu (.agg #[d0,d1]) 0 0 1 1) (hq:0<q) (hB:ξD (q*2^278) (V3.sc p (pv s3 s4 s5))) (g0:Cor l0) (g1:Cor l1) (g2:Cor l2) (h0:Cor s0) (h1:Cor s1) (h2:Cor s2) (h3:Cor s3) (h4:Cor s4) (h5:Cor s5):
 Calls prog 107 #[.agg #[l0,l1,l2],.agg #[s0,s1,s2,s3,s4,s5],.agg #[a0,a1],.agg #[d0,d1]] w fun o w'=>ηo w q (pnt (pv s0 s1 s2) (pv s3 s4 s5) p q) ((V3.sc q (pv l0 l1 l2)).sub (pnt (pv s0 s1 s2) (pv s3 s4 s5) p q)) o w':=by
 have HA:=Hid.mk ha
 have HD:=Hid.mk hd
 have HB:=Hid.mk hB
 have HQ:Hid (0<q):=hq
 clear ha hd hB hq
 go_enter func107,ntmps107
 go_wp2_with fail
 obtain ⟨W0,hW0⟩: ∃V,V=(((((w.alloc (.cells #[l0,l1,l2] 34)).alloc (.cells #[s0,s1,s2,s3,s4,s5] 39)).alloc (.cells #[a0,a1] 86)).alloc (.cells #[d0,d1] 86)).alloc (.cells #[oOo,oOo,oOo,oOo,oOo,oOo,oOo,oOo,oOo,oOo,oOo,oOo,oOo,oOo] 90)):=⟨_,rfl⟩
 rw [<-hW0]
 have HF0:Hid (LtF w [l0,l1,l2] [s0,s1,s2,s3,s4,s5] [a0,a1] [d0,d1] [oOo,oOo,oOo,oOo,oOo,oOo,oOo,oOo,oOo,oOo,oOo,oOo,oOo,oOo] W0):=by unfold Hid;rw [hW0];exact LtF.start w _ _ _ _ _ (fun i k m=>by match i with|0=>simp|1=>simp|2=>simp|3=>simp|4=>simp|5=>simp|6=>simp|7=>simp|8=>simp|9=>simp|10=>simp|11=>simp|12=>simp|13=>simp|n+14=>simp) _ _ _ _ _
 clear hW0
 have HK:Hid (∀w',Below W0 W0 w'->(fun w'=>LtF w [l0,l1,l2] [s0,s1,s2,s3,s4,s5] [a0,a1] [d0,d1] [oOo,oOo,oOo,oOo,oOo,oOo,oOo,oOo,oOo,oOo,oOo,oOo,oOo,oOo] w') w'):=fun w' hb=>HF0.out.later hb
 go_cut [9] from 10 to 20 (fun s9 wx=> ∃(PN:Nat) (mn0 mn1 mn2 mn3 mn4 mn5:Nat),s9= .pointer (some ⟨PN,0,none⟩)∧Hid (StN W0 PN [mn0,mn1,mn2,mn3,mn4,mn5] (fun W=>ξc (.agg #[mn0,mn1,mn2,mn3,mn4,mn5]) 1 (134+4) q (q*(cor s0*1)+cor s3*p) (q*(cor s1*1)+cor s4*p) (q*(cor s2*1)+cor s5*p)) wx))
 case first=>
  refine ζb.rg HK 12 fun WD hBd hS=> ?_
  refine ζb.pu 0 10 (.pointer (some ⟨↑w+1,0,none⟩)) hS ?_
  simp only [sT,sS,sZ]
  refine ζb.ld 1 11 34 10 (↑w+1) 0 [s0,s1,s2] (fun w' h=>(h.r).range 0 3) underlying34 hS ?_
  simp only [sT,sS,sZ]
  refine ζb.ld 3 13 86 7 (↑w+1+1+1) 0 [d0,d1] (fun w' h=>(h.b).range 0 2) underlying86 hS ?_
  simp only [sT,sS,sZ]
  refine ζb.pu 5 15 (.pointer (some ⟨↑w+1,3,none⟩)) hS ?_
  simp only [sT,sS,sZ]
  refine ζb.ld 6 16 34 15 (↑w+1) 3 [s3,s4,s5] (fun w' h=>(h.r).range 3 3) underlying34 hS ?_
  simp only [sT,sS,sZ]
  refine ζb.ld 8 18 86 6 (↑w+1+1) 0 [a0,a1] (fun w' h=>(h.a).range 0 2) underlying86 hS ?_
  simp only [sT,sS,sZ]
  refine ζ0.begin [2,4,7,9,10] [11] ?_
  have hBw:=hBd
  clear hBd
  repeat' first
   |refine ζ0.cb (by kernel_rfl) rfl rfl rfl rfl ?_ ?_
   |refine ζ0.c (by kernel_rfl) rfl rfl ?_
   |refine ζ0.b (by kernel_rfl) rfl rfl ?_
   |(refine ξa.go 2 fun K HKK=> ?_
     go_wp2_with fail
     refine (ξI s0 s1 s2 _ h0 h1 h2).mono ?_
     rintro o uW ⟨vV,rfl,hv,hSt⟩
     replace hBw:=hBw.trans (hSt.mono hBw.size)
     (try replace hcb:=hcb.later hSt)
     (try replace hnb:=hnb.later hSt)
     (try replace Rp:=Hid.mk (Rp.out.later hSt))
     (try replace Rx:=Hid.mk (Rx.out.later hSt))
     (try replace Rt:=Hid.mk (Rt.out.later hSt))
     (try replace Rn:=Hid.mk (Rn.out.later hSt))
     have Ro:=Hid.mk hv
     obtain ⟨mo0,mo1,mo2,mo3,mo4,mo5,rfl,_,_,_⟩:=hv
     refine HKK.out _ _ (fun _=>HK.out _ hBw) ?_
     clear HKK K hSt
     (try simp only [Act.put]))
   |(refine ξa.go 4 fun K HKK=> ?_
     go_wp2_with fail
     refine (ψg _ _ 1 0 128 0 1 1 (cor s0) (cor s1) (cor s2) 1 _ (by omega) (by omega) Ro.out HD.out).mono ?_
     rintro o uW ⟨vV,rfl,hv,hSt⟩
     replace hBw:=hBw.trans (hSt.mono hBw.size)
     (try replace hcb:=hcb.later hSt)
     (try replace hnb:=hnb.later hSt)
     (try replace Ro:=Hid.mk (Ro.out.later hSt))
     (try replace Rx:=Hid.mk (Rx.out.later hSt))
     (try replace Rt:=Hid.mk (Rt.out.later hSt))
     (try replace Rn:=Hid.mk (Rn.out.later hSt))
     have Rp:=Hid.mk hv
     obtain ⟨mp0,mp1,mp2,mp3,mp4,mp5,rfl,_,_,_⟩:=hv
     refine HKK.out _ _ (fun _=>HK.out _ hBw) ?_
     clear HKK K hSt
     (try simp only [Act.put]))
   |(refine ξa.go 7 fun K HKK=> ?_
     go_wp2_with fail
     refine (τb s3 s4 s5 _ h3 h4 h5).mono ?_
     rintro o uW ⟨vV,rfl,hv,hSt⟩
     replace hBw:=hBw.trans (hSt.mono hBw.size)
     (try replace hcb:=hcb.later hSt)
     (try replace hnb:=hnb.later hSt)
     (try replace Ro:=Hid.mk (Ro.out.later hSt))
     (try replace Rp:=Hid.mk (Rp.out.later hSt))
     (try replace Rt:=Hid.mk (Rt.out.later hSt))
     (try replace Rn:=Hid.mk (Rn.out.later hSt))
     have Rx:=Hid.mk hv
     obtain ⟨mx0,mx1,mx2,rfl,_⟩:=hv
     refine HKK.out _ _ (fun _=>HK.out _ hBw) ?_
     clear HKK K hSt
     (try simp only [Act.put]))
   |(refine ξa.go 9 fun K HKK=> ?_
     go_wp2_with fail
     refine (θi mx0 mx1 mx2 a0 a1 (cor s3) (cor s4) (cor s5) p q _ Rx.out.vec HA.out (bnd_x HB.out) (bnd_y HB.out) (bnd_z HB.out)).mono ?_
     rintro o uW ⟨vV,rfl,hv,hSt⟩
     replace hBw:=hBw.trans (hSt.mono hBw.size)
     (try replace hcb:=hcb.later hSt)
     (try replace hnb:=hnb.later hSt)
     (try replace Ro:=Hid.mk (Ro.out.later hSt))
     (try replace Rp:=Hid.mk (Rp.out.later hSt))
     (try replace Rx:=Hid.mk (Rx.out.later hSt))
     (try replace Rn:=Hid.mk (Rn.out.later hSt))
     have Rt:=Hid.mk hv
     obtain ⟨mt0,mt1,mt2,mt3,mt4,mt5,rfl,_,_,_⟩:=hv
     refine HKK.out _ _ (fun _=>HK.out _ hBw) ?_
     clear HKK K hSt
     (try simp only [Act.put]))
   |(refine ξa.go 10 fun K HKK=> ?_
     go_wp2_with fail
     refine (ρf _ _ 1 134 q _ _ _ _ _ _ _ (by omega) ((ξc.up (e':=134) Rp.out (by decide)).lift1 HQ.out) Rt.out).mono ?_
     rintro o uW ⟨vV,rfl,hv,hSt⟩
     replace hBw:=hBw.trans (hSt.mono hBw.size)
     (try replace hcb:=hcb.later hSt)
     (try replace hnb:=hnb.later hSt)
     (try replace Ro:=Hid.mk (Ro.out.later hSt))
     (try replace Rp:=Hid.mk (Rp.out.later hSt))
     (try replace Rx:=Hid.mk (Rx.out.later hSt))
     (try replace Rt:=Hid.mk (Rt.out.later hSt))
     have Rn:=Hid.mk hv
     obtain ⟨mn0,mn1,mn2,mn3,mn4,mn5,rfl,_,_,_⟩:=hv
     refine HKK.out _ _ (fun _=>HK.out _ hBw) ?_
     clear HKK K hSt
     (try simp only [Act.put]))
   |(refine ξa.go 11 fun K HKK=> ?_
     go_wp2_with fail
     obtain ⟨uW,hu,hSt,hcb,hnb,hBw,hPb,_⟩:=ξC hBw #[oOo,oOo,oOo,oOo,oOo,oOo] 88 rfl
     (try replace Ro:=Hid.mk (Ro.out.later hSt))
     (try replace Rp:=Hid.mk (Rp.out.later hSt))
     (try replace Rx:=Hid.mk (Rx.out.later hSt))
     (try replace Rt:=Hid.mk (Rt.out.later hSt))
     (try replace Rn:=Hid.mk (Rn.out.later hSt))
     refine HKK.out _ _ (fun _=>by rw [hu];exact HK.out _ hBw) ?_
     rw [hu]
     clear HKK K hu hSt
     (try simp only [Act.put]))
  all_goals
   refine ⟨ζb.on 12 fun K HKK=> ?_⟩
   refine wp_store_mid 88 (.tmp 9) (.tmp 20) rfl (_) 0 #[mn0,mn1,mn2,mn3,mn4,mn5] rfl rfl (hcb.there 0 6 (by simp)) (by kernel_rfl) (all_oneCell_toArray (by simp [Value.oneCell'])) ?_
   refine HKK.out _ _ (fun h=>absurd rfl h) ?_
   clear HKK K
   refine ζb.done (by kernel_rfl) ?_
   rw [show∀W b i,World.setCells W b i (Array.toList #[mn0,mn1,mn2,mn3,mn4,mn5])=setAll W b i [mn0,mn1,mn2,mn3,mn4,mn5] from fun W b i=>ζg _ _ _ _]
   go_wp2_with fail
   go_meet
   case rel=>exact ⟨_,mn0,mn1,mn2,mn3,mn4,mn5,rfl,⟨hcb.whole [mn0,mn1,mn2,mn3,mn4,mn5] rfl,Rn.out,hPb,ζd hPb [mn0,mn1,mn2,mn3,mn4,mn5] _ 0 hBw⟩⟩
 case rest=>
  clear HK
  obtain ⟨PN,mn0,mn1,mn2,mn3,mn4,mn5,rfl,HN⟩:=hcut
  obtain ⟨W1,hW1⟩: ∃V,V=wc:=⟨_,rfl⟩
  rw [<-hW1] at HN⊢
  clear hW1
  have HF1:=Hid.mk (HF0.out.later HN.out.bel)
  have HC1:Hid (Cs W1 PN [mn0,mn1,mn2,mn3,mn4,mn5]):=HN.out.c
  have HS1:Hid (ξc (.agg #[mn0,mn1,mn2,mn3,mn4,mn5]) 1 (134+4) q (q*(cor s0*1)+cor s3*p) (q*(cor s1*1)+cor s4*p) (q*(cor s2*1)+cor s5*p)):=HN.out.q
  clear HN HF0
  have HK:Hid (∀w',Below W1 W1 w'->(fun w'=>LtF w [l0,l1,l2] [s0,s1,s2,s3,s4,s5] [a0,a1] [d0,d1] [oOo,oOo,oOo,oOo,oOo,oOo,oOo,oOo,oOo,oOo,oOo,oOo,oOo,oOo] w'∧Cs w' PN [mn0,mn1,mn2,mn3,mn4,mn5]) w'):=fun w' hb=>⟨HF1.out.later hb,HC1.out.later hb⟩
  go_wp2_with fail
  refine ζb.rg HK 9 fun WD hBd hS=> ?_
  refine ζb.ld 0 21 88 9 (PN) 0 [mn0,mn1,mn2,mn3,mn4,mn5] (fun w' h=>(h.2).range 0 6) underlying88 hS ?_
  simp only [sT,sS,sZ]
  refine ζb.ld 1 22 34 4 w 0 [l0,l1,l2] (fun w' h=>(h.1.l).range 0 3) underlying34 hS ?_
  simp only [sT,sS,sZ]
  refine ζb.ld 3 24 86 7 (↑w+1+1+1) 0 [d0,d1] (fun w' h=>(h.1.b).range 0 2) underlying86 hS ?_
  simp only [sT,sS,sZ]
  refine ζb.ld 5 26 88 9 (PN) 0 [mn0,mn1,mn2,mn3,mn4,mn5] (fun w' h=>(h.2).range 0 6) underlying88 hS ?_
  simp only [sT,sS,sZ]
  refine ζb.ld 7 28 86 7 (↑w+1+1+1) 0 [d0,d1] (fun w' h=>(h.1.b).range 0 2) underlying86 hS ?_
  simp only [sT,sS,sZ]
  refine ζb.on 2 fun K HKK=> ?_
  go_wp2_with fail
  refine (ξI l0 l1 l2 _ g0 g1 g2).mono ?_
  rintro o u1 ⟨v1,rfl,hv1,hs1⟩
  have hB1:Below W1 W1 u1:=hBd.trans (hs1.mono hBd.size)
  have Ro:=Hid.mk hv1
  obtain ⟨mo0,mo1,mo2,mo3,mo4,mo5,rfl,_,_,_⟩:=hv1
  refine HKK.out _ _ (fun _=>HK.out _ hB1) ?_
  clear HKK K
  (try simp only [Act.put])
  refine ζb.on 4 fun K HKK=> ?_
  go_wp2_with fail
  refine (ψg _ _ 1 0 128 0 1 1 (cor l0) (cor l1) (cor l2) 1 _ (by omega) (by omega) Ro.out HD.out).mono ?_
  rintro o u2 ⟨v2,rfl,hv2,hs2⟩
  have hB2:Below W1 W1 u2:=hB1.trans (hs2.mono hB1.size)
  have Rp:=Hid.mk hv2
  obtain ⟨mp0,mp1,mp2,mp3,mp4,mp5,rfl,_,_,_⟩:=hv2
  refine HKK.out _ _ (fun _=>HK.out _ hB2) ?_
  clear HKK K
  (try simp only [Act.put])
  refine ζb.on 6 fun K HKK=> ?_
  go_wp2_with fail
  refine (ξ1 _ _ 1 138 q _ _ _ _ _ _ _ (by omega) ((ξc.up (e':=138) Rp.out (by decide)).lift1 HQ.out) HS1.out).mono ?_
  rintro o u3 ⟨v3,rfl,hv3,hs3⟩
  have hB3:Below W1 W1 u3:=hB2.trans (hs3.mono hB2.size)
  have Ry:=Hid.mk hv3
  obtain ⟨my0,my1,my2,my3,my4,my5,rfl,_,_,_⟩:=hv3
  refine HKK.out _ _ (fun _=>HK.out _ hB3) ?_
  clear HKK K
  (try simp only [Act.put])
  have hS:=HK.out _ hB3
  refine ζb.pk 8 29 (.agg #[mn0,mn1,mn2,mn3,mn4,mn5,.float .f64 my0,.float .f64 my1,.float .f64 my2,.float .f64 my3,.float .f64 my4,.float .f64 my5,d0,d1]) hS ?_
  simp only [sT,sS,sZ]
  refine ζb.on 9 fun K HKK=> ?_
  refine wp_store_mid 90 (.tmp 8) (.tmp 29) rfl (↑w+1+1+1+1) 0 #[mn0,mn1,mn2,mn3,mn4,mn5,.float .f64 my0,.float .f64 my1,.float .f64 my2,.float .f64 my3,.float .f64 my4,.float .f64 my5,d0,d1] rfl rfl ((HK.out _ hB3).1.z.there 0 14 (by simp)) (by kernel_rfl) (all_oneCell_toArray (by simp [Value.oneCell'])) ?_
  refine HKK.out _ _ (fun h=>absurd rfl h) ?_
  clear HKK K hS
  refine ζb.done (by kernel_rfl) ?_
  obtain ⟨WZ,hWZ⟩: ∃V,V=World.setCells u3 (↑w+1+1+1+1) 0 (Array.toList #[mn0,mn1,mn2,mn3,mn4,mn5,.float .f64 my0,.float .f64 my1,.float .f64 my2,.float .f64 my3,.float .f64 my4,.float .f64 my5,d0,d1]):=⟨_,rfl⟩
  rw [<-hWZ]
  have eWZ:WZ=setAll u3 (↑w+1+1+1+1) 0 [mn0,mn1,mn2,mn3,mn4,mn5,.float .f64 my0,.float .f64 my1,.float .f64 my2,.float .f64 my3,.float .f64 my4,.float .f64 my5,d0,d1]:=by rw [hWZ];exact ζg _ _ _ _
  clear hWZ
  have HC9:Hid (Cs WZ (↑w+1+1+1+1) [mn0,mn1,mn2,mn3,mn4,mn5,.float .f64 my0,.float .f64 my1,.float .f64 my2,.float .f64 my3,.float .f64 my4,.float .f64 my5,d0,d1]):=by unfold Hid;rw [eWZ];exact (HK.out _ hB3).1.z.whole _ rfl
  have HW9:Hid (Below w w WZ):=by unfold Hid;rw [eWZ];exact ζd (by omega) _ _ 0 (HF1.out.bel.trans (hB3.mono HF1.out.bel.size))
  have HL9:Hid (ω0 (.agg #[mn0,mn1,mn2,mn3,mn4,mn5,.float .f64 my0,.float .f64 my1,.float .f64 my2,.float .f64 my3,.float .f64 my4,.float .f64 my5,d0,d1]) q (pnt (pv s0 s1 s2) (pv s3 s4 s5) p q) ((V3.sc q (pv l0 l1 l2)).sub (pnt (pv s0 s1 s2) (pv s3 s4 s5) p q))):=⟨_,_,_,_,_,_,_,_,_,_,_,_,_,_,rfl,τc HS1.out,τd Ry.out,HD.out,HQ.out⟩
  clear eWZ HK HF1 HC1 HS1
  go_wp2
  refine bodyPost_ret (v:= .agg #[mn0,mn1,mn2,mn3,mn4,mn5,.float .f64 my0,.float .f64 my1,.float .f64 my2,.float .f64 my3,.float .f64 my4,.float .f64 my5,d0,d1]) (ζy results107 rfl (HC9.out.range 0 14) underlying90 rfl (by kernel_rfl)) rfl ?_
  exact ⟨_,rfl,HL9.out,HW9.out⟩
end Go.Proofs.YtfieffpobgcpmaaGreatDoor
