import Derived.Test.YtfieffpobgcpmaaGreatDoorLwCNumPImplPGrow2LwDS
import Derived.Test.YtfieffpobgcpmaaGreatDoorHmAFrHS
import Derived.Test.YtfieffpobgcpmaaGreatDoorFrBFrCFrDFwAS
import Derived.Test.YtfieffpobgcpmaaGreatDoorBgNReARkACoAS
import Derived.Deep.RegionHeld3
import Derived.Test.YtfieffpobgcpmaaGreatDoorEsGToBgES
set_option maxRecDepth 100000
set_option maxHeartbeats 32000000
namespace Go.Proofs.YtfieffpobgcpmaaGreatDoor
open Go.RowKit Go.Proofs.Tryz
variable {i j:Nat}
theorem σo {a b:Int} (h:(2:Int)^i*a=2^j*b) (ha:a%2=1) (hb:b%2=1):i=j∧a=b:=by
 have hp: ∀n:Nat,(0:Int)<2^n:=fun n=>Int.pow_pos (by omega)
 have key: ∀{i j:Nat} {a b:Int},i<=j->(2:Int)^i*a=2^j*b->a%2=1->i=j∧a=b:=by
  intro i j a b hij h ha
  have e:(2:Int)^j=2^i*2^(j-i):=by rw [<-Int.pow_add];congr 1;omega
  rw [e,Int.mul_assoc] at h
  have h2:=Int.eq_of_mul_eq_mul_left (by have:=hp i;omega) h
  rcases Nat.eq_zero_or_pos (j-i) with h0|h0
  ·rw [h0,Int.pow_zero,Int.one_mul] at h2
   exact ⟨by omega,h2⟩
  ·exfalso
   have e2:(2:Int)^(j-i)=2*2^(j-i-1):=by rw [<-Int.pow_succ'];congr 1;omega
   rw [e2,Int.mul_assoc] at h2
   omega
 rcases Nat.le_total i j with q|q
 ·exact key q h ha
 ·obtain ⟨h1,h2⟩:=key q h.symm hb
  exact ⟨h1.symm,h2.symm⟩
theorem σp {a:Int} (h:j<=i):(2:Int)^i*a/2^j=2^(i-j)*a:=by
 have hp:(0:Int)<2^j:=Int.pow_pos (by omega)
 have e:(2:Int)^i=2^j*2^(i-j):=by rw [<-Int.pow_add];congr 1;omega
 rw [e,Int.mul_assoc]
 exact Int.mul_ediv_cancel_left _ (by omega)
theorem ρa {g:Bool} {p q x y a b:Int} {m:Nat} (hm:m=min i j) (hp:p=sg g (2^i*a)) (hq:q=2^j*b) (ha:a%2=1) (hb:b%2=1) (hb0:0<b) (hx:a=(Int.gcd a b:Int)*x) (hy:b=(Int.gcd a b:Int)*y):
 Low p q (sg g (2^(i-m)*x)) (2^(j-m)*y):=by
 subst hm
 cases g
 ·simp only [sg,Bool.false_eq_true,if_false] at hp⊢
  obtain ⟨u,v,rfl,rfl,h1,h2,h3⟩:=τC hp hq ha hb hb0 rfl hx hy
  exact ⟨h1,h2,h3⟩
 ·simp only [sg,if_true] at hp⊢
  have hp':p=2^i*(-a):=by rw [hp,Int.mul_neg]
  have ha':(-a)%2=1:=by omega
  have e:(Int.gcd (-a) b:Int)=Int.gcd a b:=by rw [Int.neg_gcd]
  obtain ⟨u,v,rfl,rfl,h1,h2,h3⟩:=τC (x:= -x) (y:=y) hp' hq ha' hb hb0 rfl (by rw [e,Int.mul_neg,<-hx]) (by rw [e];exact hy)
  have e2: -(2^(i-min i j)*x)=2^(i-min i j)* -x:=by rw [Int.mul_neg]
  rw [e2]
  exact ⟨h1,h2,h3⟩
def σq (K:Nat) (a:Option Addr) (zs:List Int):Prop:=zs=[]∨ ∀b off,a=some ⟨b,off,none⟩->b<K
def θe (w:World) (p q:Int) (o:Ending) (w':World):Prop:=
 ∃(u v:Int) (g:Bool) (a:Option Addr) (c:Nat) (zs:List Int) (g':Bool) (a':Option Addr) (c':Nat) (ys:List Int) (K:Nat),o= .returned (.agg #[g,.slice a zs c,g',.slice a' ys c'])∧Low p q u v∧B1 g zs u∧B1 g' ys v∧(zs.length<=100∧zs.length<=c∧c<=maxLen)∧(ys.length<=100∧ys.length<=c'∧c'<=maxLen)∧w.heap.size<=K∧σq K a zs∧ζl .u32 w' w a zs∧ζl .u32 w' K a' ys∧Below w w w'
theorem φF {w:World} {a:Option Addr} {c:Nat} {zs:List Int} {D Q:Int} (r:ζk .u32 w a zs) (k:ζv 4294967296 zs) (p:zs.length<=c∧c<=maxLen) (n:zs.length<=100) (hD:0<D) (m:val 4294967296 zs=D*Q):OvS w 100 Q a c zs D () [] Q w∧Q<4294967296^100:=by
 have hv:=ζo (B:=4294967296) (by decide) k.1
 have hQ:0<=Q:=by
  rcases Int.lt_or_le Q 0 with h|h
  ·have:=Int.mul_neg_of_pos_of_neg hD h;omega
  ·exact h
 refine ⟨⟨r,k,p,n,.inr fun b off _ h=>by simp [Value.ownBlock] at h,ψF _ _ _ _,Dig.nil _,hQ,m,by simp [val],fun _=>⟨Dig.nil _,rfl⟩,Below.refl _ _⟩,?_⟩
 have h1:=ζ1 (B:=4294967296) (by decide) k.1
 have h2:=χ8 (B:=4294967296) (by decide) n
 have h3:Q<=D*Q:=by
  have:=Int.mul_le_mul_of_nonneg_right (show 1<=D by omega) hQ
  omega
 omega
theorem ρb (f:Value) (e:Nat) (p q:Int) (w:World) (he:e<=1200) (hT:Tab w) (hf:ζO w f e p q) (hq:0<q) (hp:p≠0):
 Calls prog 42 #[f] w fun o w'=>θe w p q o w':=by
 obtain ⟨gu,au,cu,zu,gv,av,cv,zv,rfl,hu,hv⟩:=hf
 have HC0:Hid (∀t0 t1,Cs ((w.alloc (.cells #[gu,.slice au zu cu,gv,.slice av zv cv] t0)).alloc (.cells #[false,(),false,()] t1)) w [gu,.slice au zu cu,gv,.slice av zv cv]):=fun t0 t1=>(Cs.new w _ t0).later (ζc _ _)
 have HZ0:Hid (∀t0 t1,Cs ((w.alloc (.cells #[gu,.slice au zu cu,gv,.slice av zv cv] t0)).alloc (.cells #[false,(),false,()] t1)) (↑w+1) [false,(),false,()]):=fun t0 t1=>by
  have h:=Cs.new (w.alloc (.cells #[gu,.slice au zu cu,gv,.slice av zv cv] t0)) #[false,(),false,()] t1
  have e:(w.alloc (.cells #[gu,.slice au zu cu,gv,.slice av zv cv] t0)).heap.size=w.heap.size+1:=by simp
  rw [e] at h
  exact h
 have HB0:Hid (∀t0 t1,Below w w ((w.alloc (.cells #[gu,.slice au zu cu,gv,.slice av zv cv] t0)).alloc (.cells #[false,(),false,()] t1))):=fun t0 t1=>(ζc _ _).trans ((ζc _ _).mono (by simp<;>omega))
 obtain ⟨zu',hlu,hu1,hu2,hu3⟩:=hu.inv
 obtain ⟨zv',hlv,hv1,hv2,hv3⟩:=hv.inv
 have HUU:=Hid.mk hu
 rw [hlu] at HC0 HZ0 HB0 HUU⊢
 rw [hlv] at HC0 HZ0 HB0⊢
 clear hlu hlv hu hv zu zv
 have hln:zu'.length<=100:=ηl hu1 hu2.1 (by omega)
 have hlm:zv'.length<=100:=ηl hv1 hv2.1 (by omega)
 have huN:zu'≠[]:=by
  intro h0
  apply hp
  rw [hu1.num,h0]
  cases gu<;>simp [sg,val]
 have hvN:zv'≠[]:=by
  intro h0
  have:=hv1.num
  rw [h0] at this
  cases gv<;>simp [sg,val] at this<;>omega
 have HU:Hid (B1 gu zu' p∧(zu'.length<=cu∧cu<=maxLen)∧zu'≠[]∧ ∀w',Below w w w'->ζk .u32 w' au zu'):=⟨hu1,hu2.2,huN,fun w' hb=>hu3.later hb⟩
 have HV:Hid (B1 gv zv' q∧(zv'.length<=cv∧cv<=maxLen)∧zv'≠[]∧ ∀w',Below w w w'->ζk .u32 w' av zv'):=⟨hv1,hv2.2,hvN,fun w' hb=>hv3.later hb⟩
 have HT:Hid (∀w',Below w w w'->Tab w'):=fun w' hb=>hT.later hb
 clear hu1 hu2 hu3 hv1 hv2 hv3 huN hvN hT
 have hsp:sgn p=1∨sgn p= -1:=by rcases sgn_cases p with ⟨h,e⟩| ⟨h,e⟩| ⟨h,e⟩<;>omega
 go_enter func42,ntmps42
 go_wp2_with fail
 refine (ζA _ e p _ (by omega) (HUU.out.later (HB0.out _ _))).mono ?_
 rintro o w1 ⟨rfl,hb1⟩
 have HC:Hid (Cs w1 w [gu,.slice au zu' cu,gv,.slice av zv' cv]):=(HC0.out _ _).later hb1
 have HZ:Hid (Cs w1 (↑w+1) [false,(),false,()]):=(HZ0.out _ _).later hb1
 have HB:Hid (Below w w w1):=(HB0.out _ _).trans (hb1.mono (HB0.out _ _).size)
 clear hb1 HC0 HZ0 HB0 HUU
 have HNE:Hid (sgn p≠0):=by unfold Hid;rcases hsp with h|h<;>rw [h]<;>decide
 obtain ⟨sp,hsq⟩: ∃s,s=sgn p:=⟨_,rfl⟩
 rw [<-hsq] at hsp⊢
 clear hsq
 have hsn:(sp==0)=false:=by rcases hsp with h|h<;>rw [h]<;>decide
 have HK:Hid (∀w',Below w1 w1 w'->w'.cell? ⟨w,0,none⟩=some ↑gu∧w'.cell? ⟨w,1,none⟩=some (.slice au zu' cu)∧w'.cell? ⟨w,2,none⟩=some ↑gv∧w'.cell? ⟨w,3,none⟩=some (.slice av zv' cv)):=fun w' hb=>⟨(HC.out.later hb).at 0 rfl,(HC.out.later hb).at 1 rfl,(HC.out.later hb).at 2 rfl,(HC.out.later hb).at 3 rfl⟩
 have hB0:Below w1 w1 w1.drew:=(Below.refl _ _).drew
 have K0:=HK.out _ hB0
 go_wp2_with fail
 go_region_held3 (fun w'=>w'.cell? ⟨w,0,none⟩=some ↑gu∧w'.cell? ⟨w,1,none⟩=some (.slice au zu' cu)∧w'.cell? ⟨w,2,none⟩=some ↑gv∧w'.cell? ⟨w,3,none⟩=some (.slice av zv' cv))
  (with_reducible assumption)
  (fail)
 go_wp2_with fail
 have hBd:Below w w w1.drew:=HB.out.trans (hB0.mono HB.out.size)
 refine (φC au cu zu' _ (by omega) (HU.out.2.2.2 _ hBd) HU.out.1.can HU.out.2.2.1 (HT.out _ hBd)).mono ?_
 rintro e w2 ⟨t1,rfl,ht1,⟨x1,hx1,ho1⟩,hb2⟩
 have HX:Hid (val 4294967296 zu'=2^t1*x1∧x1%2=1∧t1<=32*zu'.length):=⟨hx1,ho1,ht1⟩
 have HW2:Hid (Below w1 w1 w2):=hB0.trans hb2
 have HB2:Hid (Below w w w2):=HB.out.trans (HW2.out.mono HB.out.size)
 clear hx1 ho1 ht1 hb2 hBd K0 hB0
 go_wp2_with fail
 refine (φC av cv zv' _ (by omega) (HV.out.2.2.2 _ HB2.out) HV.out.1.can HV.out.2.2.1 (HT.out _ HB2.out)).mono ?_
 rintro e w3 ⟨t2,rfl,ht2,⟨y1,hy1,ho2⟩,hb3⟩
 have HY:Hid (val 4294967296 zv'=2^t2*y1∧y1%2=1∧t2<=32*zv'.length):=⟨hy1,ho2,ht2⟩
 have HW3:Hid (Below w1 w1 w3):=HW2.out.trans (hb3.mono HW2.out.size)
 have HB3:Hid (Below w w w3):=HB.out.trans (HW3.out.mono HB.out.size)
 clear hy1 ho2 ht2 hb3 HW2 HB2
 rcases Nat.lt_or_ge t2 t1 with hlt|hlt
 case' inl=>
  have hc1:(t2:Int)<t1:=by omega
  have hc2: ¬(t1:Int)<=t2:=by omega
  go_wp2_with fail
  obtain ⟨tm,htm⟩: ∃tm:Nat,t2=tm:=⟨_,rfl⟩
 case' inr=>
  have hc1:(t1:Int)<=t2:=by omega
  have hc2: ¬(t2:Int)<t1:=by omega
  go_wp2_with fail
  obtain ⟨tm,htm⟩: ∃tm:Nat,t1=tm:=⟨_,rfl⟩
 all_goals
  have hm1:tm<=t1:=by omega
  have hm2:tm<=t2:=by omega
  have HMD:Hid (tm=min t1 t2):=by unfold Hid;omega
  rw [htm]
  clear hc1 hc2 htm hlt
  refine (φE au cu zu' _ (by omega) HU.out.2.1.1 HU.out.2.1.2 (HU.out.2.2.2 _ HB3.out) HU.out.1.can HU.out.2.2.1 (HT.out _ HB3.out)).mono ?_
  rintro e w4 ⟨s1,x2,hx2,hx2o,a4,c4,fs,rfl,f1,f2,f3,f4,f5,f6,hb4⟩
  have HF:Hid (fs.length<=c4∧c4<=maxLen∧ζv 4294967296 fs∧val 4294967296 fs=x1∧fs.length<=100∧ζk .u32 w4 a4 fs):=⟨f1,f2,f3,by rw [f4];exact (σo (HX.out.1.symm.trans hx2) HX.out.2.1 hx2o).2.symm,by omega,f6.row⟩
  have HW4:Hid (Below w1 w1 w4):=HW3.out.trans (hb4.mono HW3.out.size)
  have HB4:Hid (Below w w w4):=HB.out.trans (HW4.out.mono HB.out.size)
  clear hx2 hx2o f1 f2 f3 f4 f5 f6 hb4 HW3 HB3
  go_wp2_with fail
  refine (φE av cv zv' _ (by omega) HV.out.2.1.1 HV.out.2.1.2 (HV.out.2.2.2 _ HB4.out) HV.out.1.can HV.out.2.2.1 (HT.out _ HB4.out)).mono ?_
  rintro e w5 ⟨s2,y2,hy2,hy2o,a5,c5,gs,rfl,f1,f2,f3,f4,f5,f6,hb5⟩
  have HG:Hid (gs.length<=c5∧c5<=maxLen∧ζv 4294967296 gs∧val 4294967296 gs=y1∧gs.length<=100∧ζk .u32 w5 a5 gs):=⟨f1,f2,f3,by rw [f4];exact (σo (HY.out.1.symm.trans hy2) HY.out.2.1 hy2o).2.symm,by omega,f6.row⟩
  have HF5:Hid (fs.length<=c4∧c4<=maxLen∧ζv 4294967296 fs∧val 4294967296 fs=x1∧fs.length<=100∧ζk .u32 w5 a4 fs):=⟨HF.out.1,HF.out.2.1,HF.out.2.2.1,HF.out.2.2.2.1,HF.out.2.2.2.2.1,HF.out.2.2.2.2.2.later hb5⟩
  have HW5:Hid (Below w1 w1 w5):=HW4.out.trans (hb5.mono HW4.out.size)
  have HB5:Hid (Below w w w5):=HB.out.trans (HW5.out.mono HB.out.size)
  clear hy2 hy2o f1 f2 f3 f4 f5 f6 hb5 HW4 HB4 HF
  go_wp2_with fail
  refine (η8 a4 a5 c4 c5 fs gs _ 100 (Int.gcd x1 y1:Int) (by omega) (HT.out _ HB5.out) ⟨HF5.out.2.2.2.2.2,HG.out.2.2.2.2.2,HF5.out.2.2.1,HG.out.2.2.1,⟨HF5.out.1,HF5.out.2.1⟩,⟨HG.out.1,HG.out.2.1⟩,by rw [HF5.out.2.2.2.1];exact HX.out.2.1,by rw [HG.out.2.2.2.1];exact HY.out.2.1,by rw [HF5.out.2.2.2.1,HG.out.2.2.2.1],HF5.out.2.2.2.2.1,HG.out.2.2.2.2.1,Below.refl _ _⟩).mono ?_
  rintro e w6 ⟨a6,c6,hs,rfl,f1,f2,f3,f4,f5,f6,hb6⟩
  have HH:Hid (hs.length<=c6∧c6<=maxLen∧ζv 4294967296 hs∧val 4294967296 hs=(Int.gcd x1 y1:Int)∧hs.length<=100∧ζk .u32 w6 a6 hs):=⟨f1,f2,f3,f4,f5,f6⟩
  have HW6:Hid (Below w1 w1 w6):=HW5.out.trans (hb6.mono HW5.out.size)
  have HB6:Hid (Below w w w6):=HB.out.trans (HW6.out.mono HB.out.size)
  clear f1 f2 f3 f4 f5 f6 hb6 HW5 HB5 HF5 HG
  go_wp2_with fail
  refine (ξQ au cu zu' tm _ (by omega) HU.out.2.1.1 HU.out.2.1.2 (by omega) (by have:=HX.out.2.2;have:=HY.out.2.2;omega) (HU.out.2.2.2 _ HB6.out) HU.out.1.can).mono ?_
  rintro e w7 ⟨a7,c7,is,rfl,f1,f2,f3,f4,f5,f6,hb7⟩
  have HI:Hid (is.length<=c7∧c7<=maxLen∧ζv 4294967296 is∧val 4294967296 is=2^(t1-tm)*x1∧is.length<=100∧ζk .u32 w7 a7 is):=⟨f1,f2,f3,by rw [f4,HX.out.1,Int.toNat_natCast];exact σp (by omega),by omega,f6.row⟩
  have HH7:Hid (hs.length<=c6∧c6<=maxLen∧ζv 4294967296 hs∧val 4294967296 hs=(Int.gcd x1 y1:Int)∧hs.length<=100∧ζk .u32 w7 a6 hs):=⟨HH.out.1,HH.out.2.1,HH.out.2.2.1,HH.out.2.2.2.1,HH.out.2.2.2.2.1,HH.out.2.2.2.2.2.later hb7⟩
  have HW7:Hid (Below w1 w1 w7):=HW6.out.trans (hb7.mono HW6.out.size)
  have HB7:Hid (Below w w w7):=HB.out.trans (HW7.out.mono HB.out.size)
  clear f1 f2 f3 f4 f5 f6 hb7 HW6 HB6 HH
  go_wp2_with fail
  refine (ξQ av cv zv' tm _ (by omega) HV.out.2.1.1 HV.out.2.1.2 (by omega) (by have:=HX.out.2.2;have:=HY.out.2.2;omega) (HV.out.2.2.2 _ HB7.out) HV.out.1.can).mono ?_
  rintro e w8 ⟨a8,c8,js,rfl,f1,f2,f3,f4,f5,f6,hb8⟩
  have HJ:Hid (js.length<=c8∧c8<=maxLen∧ζv 4294967296 js∧val 4294967296 js=2^(t2-tm)*y1∧js.length<=100∧ζk .u32 w8 a8 js):=⟨f1,f2,f3,by rw [f4,HY.out.1,Int.toNat_natCast];exact σp (by omega),by omega,f6.row⟩
  have HI8:Hid (is.length<=c7∧c7<=maxLen∧ζv 4294967296 is∧val 4294967296 is=2^(t1-tm)*x1∧is.length<=100∧ζk .u32 w8 a7 is):=⟨HI.out.1,HI.out.2.1,HI.out.2.2.1,HI.out.2.2.2.1,HI.out.2.2.2.2.1,HI.out.2.2.2.2.2.later hb8⟩
  have HH8:Hid (hs.length<=c6∧c6<=maxLen∧ζv 4294967296 hs∧val 4294967296 hs=(Int.gcd x1 y1:Int)∧hs.length<=100∧ζk .u32 w8 a6 hs):=⟨HH7.out.1,HH7.out.2.1,HH7.out.2.2.1,HH7.out.2.2.2.1,HH7.out.2.2.2.2.1,HH7.out.2.2.2.2.2.later hb8⟩
  have HW8:Hid (Below w1 w1 w8):=HW7.out.trans (hb8.mono HW7.out.size)
  have HB8:Hid (Below w w w8):=HB.out.trans (HW8.out.mono HB.out.size)
  clear f1 f2 f3 f4 f5 f6 hb8 HW7 HB7 HH7 HI
  go_wp2_with fail
  obtain ⟨G,hG⟩: ∃G,G=(Int.gcd x1 y1:Int):=⟨_,rfl⟩
  obtain ⟨xq,hxq⟩:=Int.gcd_dvd_left x1 y1
  obtain ⟨yq,hyq⟩:=Int.gcd_dvd_right x1 y1
  have hy0:0<y1:=by
   have h1:=HY.out.1
   have h2:=ζP (B:=4294967296) (by decide) HV.out.1.can HV.out.2.2.1
   have h3:(0:Int)<2^t2:=Int.pow_pos (by decide)
   rcases Int.lt_or_le 0 y1 with h|h
   ·exact h
   ·have:=Int.mul_nonpos_of_nonneg_of_nonpos (Int.le_of_lt h3) h;omega
  have HLOW:Hid (Low p q (sg gu (2^(t1-tm)*xq)) (2^(t2-tm)*yq)):=by
   refine ρa (m:=tm) HMD.out ?_ ?_ HX.out.2.1 HY.out.2.1 hy0 hxq hyq
   ·rw [<-HX.out.1];exact HU.out.1.num
   ·have h1:=HV.out.1.num
    have h2:=ζo (B:=4294967296) (by decide) HV.out.1.can.1
    rw [<-HY.out.1]
    cases gv
    ·simpa [sg] using h1
    ·simp only [sg,if_true] at h1
     omega
  rw [<-hG] at hxq hyq
  have HGO:Hid (val 4294967296 hs=G∧0<G∧G%2=1):=by
   have h1:=HX.out.2.1
   have h0:0<G:=by
    have:Int.gcd x1 y1≠0:=fun e=>by rw [Int.gcd_eq_zero_iff] at e;omega
    omega
   refine ⟨by rw [HH8.out.2.2.2.1,hG],h0,?_⟩
   rcases Int.emod_two_eq G with h|h
   ·exfalso
    have e2:G=2*(G/2):=by omega
    have e3:x1=2*(G/2*xq):=by rw [<-Int.mul_assoc,<-e2];exact hxq
    omega
   ·exact h
  have HVI:Hid (val 4294967296 is=G*(2^(t1-tm)*xq)∧val 4294967296 js=G*(2^(t2-tm)*yq)):=by
   refine ⟨?_,?_⟩
   ·rw [HI8.out.2.2.2.1,show (2:Int)^(t1-tm)*x1=2^(t1-tm)*(G*xq) by rw [<-hxq]];grind
   ·rw [HJ.out.2.2.2.1,show (2:Int)^(t2-tm)*y1=2^(t2-tm)*(G*yq) by rw [<-hyq]];grind
  obtain ⟨Q1,hQ1⟩: ∃Q1,Q1=2^(t1-tm)*xq:=⟨_,rfl⟩
  obtain ⟨Q2,hQ2⟩: ∃Q2,Q2=2^(t2-tm)*yq:=⟨_,rfl⟩
  rw [<-hQ1,<-hQ2] at HLOW HVI
  clear hQ1 hQ2 hxq hyq hG hy0
  have HK8:Hid (∀w',Below w8 w8 w'->w'.cell? ⟨w,0,none⟩=some ↑gu∧w'.cell? ⟨w,1,none⟩=some (.slice au zu' cu)∧w'.cell? ⟨w,2,none⟩=some ↑gv∧w'.cell? ⟨w,3,none⟩=some (.slice av zv' cv)):=fun w' hb=>HK.out w' (HW8.out.trans (hb.mono HW8.out.size))
  have hB0:Below w8 w8 w8.drew:=(Below.refl _ _).drew
  have K0:=HK8.out _ hB0
  go_region_held3 (fun w'=>w'.cell? ⟨w,0,none⟩=some ↑gu∧w'.cell? ⟨w,1,none⟩=some (.slice au zu' cu)∧w'.cell? ⟨w,2,none⟩=some ↑gv∧w'.cell? ⟨w,3,none⟩=some (.slice av zv' cv))
   (first|with_reducible assumption| (have hz:=HZ.out.1;with_reducible exact HKS.out _ _ _ _))
   (first
    |(have hBB:=hB3;clear hBB;go_at_call 92;refine (ζT false a11 ls.length c11 _).mono ?_;rintro o w12 ⟨rfl,hb12⟩;have hB4:Below w8 w8 w12:=hB3.trans (hb12.mono hB3.size);have K4:=HK8.out _ hB4;have HN9:Hid (ζl .u32 w12 w8 a9 ks):=HN9'.out.later hb12;have HN11:Hid (ζl .u32 w12 w10 a11 ls):=HN11'.out.later hb12;have HZ12:Hid (Cs w12 (↑w+1) [false,(),false,()]):=HZ.out.later (HW8.out.trans (hB4.mono HW8.out.size));have y0:=HZ12.out.at 0 rfl;have y1':=HZ12.out.at 1 rfl;have y2:=HZ12.out.at 2 rfl;have y3:=HZ12.out.at 3 rfl;have yf:=HZ12.out.2.1;have HKS:Hid (∀v0 v1 v2 v3,(fun w'=>w'.cell? ⟨w,0,none⟩=some ↑gu∧w'.cell? ⟨w,1,none⟩=some (.slice au zu' cu)∧w'.cell? ⟨w,2,none⟩=some ↑gv∧w'.cell? ⟨w,3,none⟩=some (.slice av zv' cv)) ((((w12.setCell ⟨↑w+1,0,none⟩ v0).setCell ⟨↑w+1,1,none⟩ v1).setCell ⟨↑w+1,2,none⟩ v2).setCell ⟨↑w+1,3,none⟩ v3)):=(fun v0 v1 v2 v3=>by have q:=(HC.out.later (HW8.out.trans (hB4.mono HW8.out.size))).setAllO (b':=w.heap.size+1) (by omega) [v0,v1,v2,v3] w12 0;exact ⟨q.at 0 rfl,q.at 1 rfl,q.at 2 rfl,q.at 3 rfl⟩))
    |(have hBB:=hB2;clear hBB;go_at_call 93;refine (ηA a8 a6 c8 c6 js hs _ 100 Q2 (by omega) HH8.out.2.2.2.2.1 HH8.out.2.2.1 (HH8.out.2.2.2.2.2.later hB2) (by rw [HGO.out.1];exact HGO.out.2.2) (φF (HJ.out.2.2.2.2.2.later hB2) HJ.out.2.2.1 ⟨HJ.out.1,HJ.out.2.1⟩ HJ.out.2.2.2.2.1 HGO.out.2.1 HVI.out.2).2 (by rw [HGO.out.1];exact (φF (HJ.out.2.2.2.2.2.later hB2) HJ.out.2.2.1 ⟨HJ.out.1,HJ.out.2.1⟩ HJ.out.2.2.2.2.1 HGO.out.2.1 HVI.out.2).1)).mono ?_;rintro o w11 ⟨a11,c11,ls,rfl,f1,f2,f3,f4,f5,f6,hb11⟩;have HL2:Hid (ls.length<=c11∧c11<=maxLen∧ζv 4294967296 ls∧val 4294967296 ls=Q2∧ls.length<=100):=⟨f1,f2,f3,f4,f5⟩;have HN11':Hid (ζl .u32 w11 w10 a11 ls):=f6;have HN9':Hid (ζl .u32 w11 w8 a9 ks):=HN9b.out.later hb11;clear f1 f2 f3 f4 f5 f6;have hB3:Below w8 w8 w11:=hB2.trans (hb11.mono hB2.size);have K3:=HK8.out _ hB3)
    |(have hBB:=hB1;clear hBB;go_at_call 92;refine (ζT gu a9 ks.length c9 _).mono ?_;rintro o w10 ⟨rfl,hb10⟩;have HN9b:Hid (ζl .u32 w10 w8 a9 ks):=HN9a.out.later hb10;have HUN:Hid (σq w10 a9 ks):=(by rcases HN9b.out with h| ⟨b,off,rfl,_,hb,_⟩;exact .inl h;exact .inr fun b2 off2 e=>by have h3:=congrArg (fun a:Option Addr=>a.map Addr.block) e;simp at h3;omega);have hB2:Below w8 w8 w10:=hB1.trans (hb10.mono hB1.size);have K2:=HK8.out _ hB2)
    |(go_at_call 93;refine (ηA a7 a6 c7 c6 is hs _ 100 Q1 (by omega) HH8.out.2.2.2.2.1 HH8.out.2.2.1 (HH8.out.2.2.2.2.2.later hB0) (by rw [HGO.out.1];exact HGO.out.2.2) (φF (HI8.out.2.2.2.2.2.later hB0) HI8.out.2.2.1 ⟨HI8.out.1,HI8.out.2.1⟩ HI8.out.2.2.2.2.1 HGO.out.2.1 HVI.out.1).2 (by rw [HGO.out.1];exact (φF (HI8.out.2.2.2.2.2.later hB0) HI8.out.2.2.1 ⟨HI8.out.1,HI8.out.2.1⟩ HI8.out.2.2.2.2.1 HGO.out.2.1 HVI.out.1).1)).mono ?_;rintro o w9 ⟨a9,c9,ks,rfl,f1,f2,f3,f4,f5,f6,hb9⟩;have HL1:Hid (ks.length<=c9∧c9<=maxLen∧ζv 4294967296 ks∧val 4294967296 ks=Q1∧ks.length<=100):=⟨f1,f2,f3,f4,f5⟩;have HN9a:Hid (ζl .u32 w9 w8 a9 ks):=f6;clear f1 f2 f3 f4 f5 f6;have hB1:Below w8 w8 w9:=hB0.trans hb9;have K1:=HK8.out _ hB1))
  have hz1:w.heap.size+1<w8.heap.size:=Nat.lt_of_lt_of_le HZ.out.1 HW8.out.size
  have hz2:w.heap.size+1<w10.heap.size:=Nat.lt_of_lt_of_le hz1 hB2.size
  have HO:Hid (θe w p q (.returned (.agg #[.bool (gu && decide (0<ks.length)),.slice a9 ks c9,false,.slice a11 ls c11])) ((((w12.setCell ⟨↑w+1,0,none⟩ (.bool (gu && decide (0<ks.length)))).setCell ⟨↑w+1,1,none⟩ (.slice a9 ks c9)).setCell ⟨↑w+1,2,none⟩ false).setCell ⟨↑w+1,3,none⟩ (.slice a11 ls c11))):=by
   refine ⟨sg gu Q1,Q2,_,a9,c9,ks,false,a11,c11,ls,w10.heap.size,rfl,HLOW.out,B1.of_signed HL1.out.2.2.1 HL1.out.2.2.2.1,B1.of_signed (g:=false) HL2.out.2.2.1 HL2.out.2.2.2.1,⟨HL1.out.2.2.2.2,HL1.out.1,HL1.out.2.1⟩,⟨HL2.out.2.2.2.2,HL2.out.1,HL2.out.2.1⟩,by omega,HUN.out,?_,?_,?_⟩
   ·exact ((((HN9.out.setLow hz1 _).setLow hz1 _).setLow hz1 _).setLow hz1 _).down (by omega)
   ·exact (((HN11.out.setLow hz2 _).setLow hz2 _).setLow hz2 _).setLow hz2 _
   ·exact ((((HB8.out.trans (hB4.mono HB8.out.size)).setCell (by simp) _).setCell (by simp) _).setCell (by simp) _).setCell (by simp) _
  clear hB1 hB2 hB3 hB4 hb9 hb10 hb11 hb12 HN9 HN11 HN9' HN11' HN9a HN9b K0 K1 K2 K3 K4 hz1 hz2 HKS HLOW HL1 HL2 HUN
  go_wp2
  refine bodyPost_ret (v:= .agg #[.bool (gu && decide (0<ks.length)),.slice a9 ks c9,false,.slice a11 ls c11]) (by simp [results,results42,go_sem,y0,y1',y2,y3]) rfl ?_
  exact HO.out
theorem κY (w:World):Calls prog 79 #[] w fun e w'=> ∃b,e= .returned (.agg #[false,.slice (some ⟨b,0,none⟩) 1 1])∧w.heap.size<=b∧b<w'.heap.size∧w'.cell? ⟨b,0,none⟩=some (.int .u32 1)∧w'.frozen? ⟨b,0,none⟩=false∧Below w w w':=by
 go_enter func79,ntmps79
 go_wp2
 refine bodyPost_ret (v:= .agg #[false,.slice (some ⟨↑w+1,0,none⟩) 1 1]) (by simp [results,results79,go_sem]) rfl ?_
 exact ⟨↑w+1,rfl,by omega,by simp,by simp [go_sem],by simp [go_sem],ξr _ _ _⟩
theorem θU (f:Value) (e:Nat) (q:Int) (w:World) (he:e<=1200) (hf:ζO w f e 0 q) (hq:0<q):
 Calls prog 42 #[f] w fun o w'=>θe w 0 q o w':=by
 obtain ⟨gu,au,cu,zu,gv,av,cv,zv,rfl,hu,hv⟩:=hf
 have HZ0:Hid (∀t0 t1,Cs ((w.alloc (.cells #[gu,.slice au zu cu,gv,.slice av zv cv] t0)).alloc (.cells #[false,(),false,()] t1)) (↑w+1) [false,(),false,()]):=fun t0 t1=>by
  have h:=Cs.new (w.alloc (.cells #[gu,.slice au zu cu,gv,.slice av zv cv] t0)) #[false,(),false,()] t1
  have e:(w.alloc (.cells #[gu,.slice au zu cu,gv,.slice av zv cv] t0)).heap.size=w.heap.size+1:=by simp
  rw [e] at h
  exact h
 have HB0:Hid (∀t0 t1,Below w w ((w.alloc (.cells #[gu,.slice au zu cu,gv,.slice av zv cv] t0)).alloc (.cells #[false,(),false,()] t1))):=fun t0 t1=>(ζc _ _).trans ((ζc _ _).mono (by simp<;>omega))
 have HUU:Hid (ζe w (.agg #[gu,.slice au zu cu]) e 0):=hu
 clear hu hv
 go_enter func42,ntmps42
 go_wp2_with fail
 refine (ζA _ e 0 _ (by omega) (HUU.out.later (HB0.out _ _))).mono ?_
 rintro o w1 ⟨rfl,hb1⟩
 have HZ:Hid (Cs w1 (↑w+1) [false,(),false,()]):=(HZ0.out _ _).later hb1
 have HB:Hid (Below w w w1):=(HB0.out _ _).trans (hb1.mono (HB0.out _ _).size)
 clear hb1 HZ0 HB0 HUU
 rw [show sgn 0=0 from rfl]
 go_wp2_with fail
 refine (κY _).mono ?_
 rintro o w2 ⟨b,rfl,h1,h2,h3,hfree,hb2⟩
 have HZ2:=Hid.mk (HZ.out.later hb2)
 have HN:Hid (ζl .u32 w2 w1 (some ⟨b,0,none⟩) [1]∧w.heap.size+1<w1.heap.size):=by
  refine ⟨.inr ⟨b,0,rfl,h1,h2,fun j hj=> ?_,fun j hj=> ?_⟩,HZ.out.1⟩
  ·have:j=0:=by simp at hj;omega
   subst this
   exact h3
  ·have:j=0:=by simp at hj;omega
   subst this
   exact hfree
 have HB2:Hid (Below w w w2):=HB.out.trans (hb2.mono HB.out.size)
 clear h1 h2 h3 hfree hb2 HZ HB
 obtain ⟨y0,y1,y2,y3⟩:=HZ2.out.c4
 have yf:=HZ2.out.2.1
 have HO:Hid (θe w 0 q (.returned (.agg #[false,(),false,.slice (some ⟨b,0,none⟩) 1 1])) ((((w2.setCell ⟨↑w+1,0,none⟩ false).setCell ⟨↑w+1,1,none⟩ ()).setCell ⟨↑w+1,2,none⟩ false).setCell ⟨↑w+1,3,none⟩ (.slice (some ⟨b,0,none⟩) 1 1))):=by
  have hz:=HN.out.2
  refine ⟨0,1,false,none,0,[],false,some ⟨b,0,none⟩,1,[1],w1.heap.size,rfl,⟨⟨q,hq,by omega,by omega⟩,by decide,by decide⟩,B1.nil,⟨⟨Dig.cons (by decide) (by decide) (Dig.nil _),by decide⟩,by decide,fun h=>by cases h⟩,⟨by simp,by simp,Nat.zero_le _⟩,⟨by simp,by simp,by unfold maxLen;omega⟩,by omega,.inl rfl,.inl rfl,?_,?_⟩
  ·exact (((HN.out.1.setLow hz _).setLow hz _).setLow hz _).setLow hz _
  ·exact (((HB2.out.setCell (by simp) _).setCell (by simp) _).setCell (by simp) _).setCell (by simp) _
 clear HN HB2 HZ2
 go_wp2
 refine bodyPost_ret (v:= .agg #[false,(),false,.slice (some ⟨b,0,none⟩) 1 1]) (by simp [results,results42,go_sem,y0,y1,y2,y3]) rfl ?_
 exact HO.out
end Go.Proofs.YtfieffpobgcpmaaGreatDoor
