import Derived.Test.YtfieffpobgcpmaaGreatDoorNumWToNumNS
import Derived.Test.YtfieffpobgcpmaaGreatDoorImplUQS
import Derived.Test.YtfieffpobgcpmaaGreatDoorDy2NumDNumFNumGS
import Derived.Test.YtfieffpobgcpmaaGreatDoorFlEMathFEsAS
import Derived.Test.YtfieffpobgcpmaaGreatDoorEsBToImplOS
import Derived.Test.YtfieffpobgcpmaaGreatDoorImplBToImplDS
import Derived.Test.YtfieffpobgcpmaaGreatDoorImplEImplNgImplNNumMImplMS
import Derived.Test.YtfieffpobgcpmaaGreatDoorNumZToSpecOS
import Derived.Deep.RegionHeld3
set_option maxRecDepth 100000
set_option maxHeartbeats 32000000
namespace Go.Proofs.YtfieffpobgcpmaaGreatDoor
open Go.RowKit Go.Proofs.Tryz
variable {W W' w w':World} {neg g:Bool} {X e:Nat} {x y:Int} {zs:List Int} {p0 p1 p2 p3 p4 p5 q0 q1 q2 q3 q4 q5:Value}
def κC (w:World) (ok:Bool) (v:Int) (e:Ending) (w':World):Prop:=
 ∃(G:Bool) (Z:List Int) (E K:Int) (a:Option Addr) (c:Nat),e= .returned (.tuple #[.agg #[G,.slice a Z c,.int .i64 E],.int .i64 K])∧κA ok v G Z E K∧ζl .u32 w' w a Z∧Below w w w'
theorem τy:B1 false [] 0:=⟨⟨Dig.nil _,rfl⟩,by simp [sg,val],fun h=>by cases h⟩
theorem θD (g:Bool) (a:Option Addr) (c:Nat) (zs:List Int) (x E:Int) (w:World) (hn:zs.length<=60000) (he0: -60000<=E) (he1:E<=60000) (hz:ζk .u32 w a zs) (h:B1 g zs x) (hcap:zs.length<=c∧c<=maxLen) (hT:Tab w):
 Calls prog 206 #[.agg #[g,.slice a zs c,.int .i64 E]] w fun e w'=>κC w true (atK 100000 x E) e w':=by
 have B0:Hid (∀t t',Bx3 w g (.slice a zs c) (.int .i64 E) ((w.alloc (.cells #[g,.slice a zs c,.int .i64 E] t)).alloc (.cells #[false,(),.int .i64 0] t'))):=fun t t'=>Bx3.start w _ _ _ _ _
 obtain ⟨v,hv⟩: ∃v,v=atK 100000 x E:=⟨_,rfl⟩
 have HV:Hid (v=atK 100000 x E):=hv
 rw [<-hv]
 clear hv
 by_cases hne:zs=[]
 ·subst hne
  have hx:x=0:=by rw [h.num];cases g<;>simp [sg,val]
  have HO:Hid (κA true v false [] 0 0):= .inr ⟨rfl,0,0,.inl ⟨by rw [HV.out,hx];simp [atK],rfl,rfl⟩,.inl ⟨⟨τy.fits (by simp),by decide,by decide⟩,τy,rfl,rfl⟩⟩
  clear h hx hz hcap hT
  go_enter func206,ntmps206
  go_wp2
  refine bodyPost_ret (v:= .tuple #[.agg #[false,(),.int .i64 0],.int .i64 0]) (by simp [results,results206,go_sem]) rfl ?_
  refine ⟨false,[],0,0,none,0,rfl,HO.out,.inl rfl,?_⟩
  exact (B0.out _ _).bel
 ·have hlen:((zs.length:Int)==0)=false:=by
   rw [beq_eq_false_iff_ne]
   have:=List.length_pos_iff.2 hne
   omega
  have HB1:Hid (B1 g zs x):=h
  have HNE:Hid (zs≠[]):=hne
  have HT:Hid (Tab w):=hT
  clear h hne hT
  go_enter func206,ntmps206
  go_wp2_with fail
  refine (φC a c zs _ (by omega) (hz.later (B0.out _ _).bel) HB1.out.can HNE.out (HT.out.later (B0.out _ _).bel)).mono ?_
  rintro e W1 ⟨t,rfl,ht,htw,hb1⟩
  have F1:Hid (Bx3 w g (.slice a zs c) (.int .i64 E) W1):=(B0.out _ _).later hb1
  have HN:Hid (Norm (atK 100000 x E) (sg g (val 4294967296 zs/2^t)) (E+t)):=ρZ HB1.out HNE.out (by omega) htw
  rw [<-HV.out] at HN
  obtain ⟨e',he'⟩: ∃e',e'=E+t:=⟨_,rfl⟩
  have hsum:E+(t:Int)=e':=he'.symm
  rw [hsum] at HN
  clear he'
  have q2:=F1.out.q2
  have ht':(t:Int)<=1920000:=by omega
  clear hb1 htw B0
  by_cases hr:e'< -20000∨20000<e'
  ·have HO:Hid (κA true v false [] 0 2):= .inr ⟨rfl,_,_,HN.out,.inr ⟨by omega,rfl,rfl,rfl,rfl⟩⟩
   have r1:=F1.out.r1
   have r2:=F1.out.r2
   have r3:=F1.out.r3
   have r4:=F1.out.r4
   have fin:Hid (∀W,Below w w W->κC w true v (.returned (.tuple #[.agg #[false,(),.int .i64 0],.int .i64 2])) W):=fun W hW=>⟨false,[],0,2,none,0,rfl,HO.out,.inl rfl,hW⟩
   by_cases hr1:e'< -20000
   ·go_wp2
    refine bodyPost_ret (v:= .tuple #[.agg #[false,(),.int .i64 0],.int .i64 2]) (by simp [results,results206,go_sem,r1,r2,r3]) rfl ?_
    exact fin.out _ (((F1.out.bel.setCell (by simp) _).setCell (by simp) _).setCell (by simp) _)
   ·have hr2:20000<e':=by omega
    go_wp2
    refine bodyPost_ret (v:= .tuple #[.agg #[false,(),.int .i64 0],.int .i64 2]) (by simp [results,results206,go_sem,r1,r2,r3]) rfl ?_
    exact fin.out _ (((F1.out.bel.setCell (by simp) _).setCell (by simp) _).setCell (by simp) _)
  ·have hr1: ¬e'< -20000:=by omega
   have hr2: ¬20000<e':=by omega
   have htb:(t:Int)<=80000:=by omega
   clear hr
   go_wp2_with fail
   refine (ξQ a c zs (t:Int) _ (by omega) hcap.1 hcap.2 (by omega) (by omega) (hz.later F1.out.bel) HB1.out.can).mono ?_
   rintro e W2 ⟨a2,c2,fs,rfl,hf2,hm2,hcan2,hv2,hl2,hr2',hb2⟩
   have F2:=Hid.mk (F1.out.later hb2)
   have HB2:Hid (B1 (g && decide (0<fs.length)) fs (sg g (val 4294967296 zs/2^t))):=B1.of_signed hcan2 (by rw [hv2];rfl)
   have HR2:Hid (ζl .u32 W2 W1 a2 fs):=hr2'
   have hs1:w.heap.size+1+1<=W1.heap.size:=F1.out.le
   have q0:=F2.out.q0
   clear hb2 hcan2 hv2 hr2' q2
   go_wp2_with fail
   refine (ζT g a2 fs.length c2 _).mono ?_
   rintro e W3 ⟨rfl,hb3⟩
   have F3:=Hid.mk (F2.out.later hb3)
   have HR3:=Hid.mk (HR2.out.later hb3)
   clear hb3 q0
   generalize (g && decide (0<fs.length))=G at*
   go_wp2_with fail
   refine (ηV G a2 c2 fs _ W1 (by omega) HR3.out).mono ?_
   rintro e W4 ⟨a4,c4,rfl,hr4,hb4⟩
   have F4:=Hid.mk (F3.out.later hb4)
   have r1:=F4.out.r1
   have r2:=F4.out.r2
   have r3:=F4.out.r3
   have r4:=F4.out.r4
   have hs4:w.heap.size+1<W4.heap.size:=F4.out.le
   by_cases h5:fs.length<=512
   ·have HO:Hid (κA true v G fs e' 0):= .inr ⟨rfl,_,_,HN.out,.inl ⟨⟨HB2.out.fits h5,by omega,by omega⟩,HB2.out,rfl,rfl⟩⟩
    have hlo:ξ5 G fs=(G,fs,0):=by unfold ξ5;rw [if_pos h5]
    rw [hlo] at hr4⊢
    have HR4:Hid (ζl .u32 W4 (↑w+1+1) a4 fs):=hr4.down hs1
    clear hlo hr4 hb4
    go_wp2
    refine bodyPost_ret (v:= .tuple #[.agg #[G,.slice a4 fs c4,.int .i64 e'],.int .i64 0]) (by simp [results,results206,go_sem,r1,r2,r3,hs4]) rfl ?_
    have hbl:=((F4.out.bel.setCell (p:=⟨↑w+1,0,none⟩) (by simp) G).setCell (p:=⟨↑w+1,1,none⟩) (by simp) (.slice a4 fs c4)).setCell (p:=⟨↑w+1,2,none⟩) (by simp) (.int .i64 e')
    refine ⟨G,fs,e',0,a4,c4,rfl,HO.out,?_,hbl.alloc hbl.size _⟩
    exact ((((HR4.out.setLow (by simp) _).setLow (by simp) _).setLow (by simp) _).later (ζc _ _)).down (by omega)
   ·have HO:Hid (κA true v false [] 0 2):= .inr ⟨rfl,_,_,HN.out,.inr ⟨fun h=>h5 (HB2.out.len h.1),rfl,rfl,rfl,rfl⟩⟩
    have hlo:ξ5 G fs=(false,[],2):=by unfold ξ5;rw [if_neg h5]
    rw [hlo] at hr4⊢
    clear hlo hr4 hb4
    go_wp2
    refine bodyPost_ret (v:= .tuple #[.agg #[false,(),.int .i64 0],.int .i64 2]) (by simp [results,results206,go_sem,r1,r2,r3,hs4]) rfl ?_
    refine ⟨false,[],0,2,none,0,rfl,HO.out,.inl rfl,?_⟩
    have hb0:=F4.out.bel
    have hbl:=((F4.out.bel.setCell (p:=⟨↑w+1,0,none⟩) (by simp) false).setCell (p:=⟨↑w+1,1,none⟩) (by simp) ()).setCell (p:=⟨↑w+1,2,none⟩) (by simp) (.int .i64 0)
    first
     |exact hbl.alloc hbl.size _
     |exact hb0.alloc hb0.size _
     |exact hbl
     |exact hb0
structure χ9 (b:Nat) (W:World):Prop where
 r1:W.cell? ⟨b,0,none⟩=some ↑false
 r2:W.cell? ⟨b,1,none⟩=some ↑()
 r3:W.cell? ⟨b,2,none⟩=some (.int .i64 0)
 r4: ∀j,W.frozen? ⟨b,j,none⟩=false
 lt:b<W.heap.size
theorem χ9.new (W:World) (t:TypeId):χ9 W (W.alloc (.cells #[false,(),.int .i64 0] t)):=⟨by simp [go_sem],by simp [go_sem],by simp [go_sem],by intro j;simp [go_sem],by simp⟩
theorem χ9.later {b:Nat} (h:χ9 b W) (hb:Below W W W'):χ9 b W':=
 ⟨(hb.cell (p:=⟨b,0,none⟩) h.lt).trans h.r1,(hb.cell (p:=⟨b,1,none⟩) h.lt).trans h.r2,(hb.cell (p:=⟨b,2,none⟩) h.lt).trans h.r3,fun j=>(hb.frozen (p:=⟨b,j,none⟩) h.lt).trans (h.r4 j),Nat.lt_of_lt_of_le h.lt hb.size⟩
theorem ηk (h:X<9223372036854775808):Ieee.double.word neg X<18446744073709551616∧Ieee.double.word neg X%9223372036854775808=X:=by
 have e1:=ζ9.1
 unfold Ieee.Format.word
 rw [e1]
 cases neg
 ·exact ⟨by simp;omega,by simp;omega⟩
 ·exact ⟨by simp;omega,by simp;omega⟩
theorem ηZ {d:Ieee.Datum} (h:d.isNaN=false):d.order d=some .eq:=by
 cases d with
 |number s m i=>simp [Ieee.Datum.order]
 |infinity s=>simp [Ieee.Datum.order]
 |nan s t=>cases h
theorem τ2 (h:X<=9218868437227405312):(Ieee.double.read (Ieee.double.word neg X)).isNaN=false:=by
 obtain ⟨e1,e2,e3,e4⟩:=ζ9
 have hm:=(ηk (neg:=neg) (X:=X) (by omega)).2
 unfold Ieee.Format.read
 simp only [e1,e2,e3,e4,hm]
 by_cases h1:X<4503599627370496
 ·rw [if_pos h1];rfl
 ·rw [if_neg h1]
  by_cases h2:X<9218868437227405312
  ·rw [if_pos h2];rfl
  ·rw [if_neg h2,if_pos (by omega)];rfl
theorem τ3 (h:X<=9218868437227405312):(FloatKind.f64.format.order (Ieee.double.word neg X) (Ieee.double.word neg X) !=some .eq)=false:=by
 show ((Ieee.double.read _).order (Ieee.double.read _) !=some .eq)=false
 rw [ηZ (τ2 h)]
 rfl
theorem τ4 (w:World) (n:Nat) (t:TypeId):ζl .u32 (w.alloc (.cells #[.int .u32 n] t)) w (some ⟨w,0,none⟩) [(n:Int)]:=by
 refine .inr ⟨w,0,rfl,Nat.le_refl _,by simp,fun j hj=> ?_,fun j hj=> ?_⟩
 ·have:j=0:=by simp at hj;omega
  subst this
  simp [go_sem]
 ·have:j=0:=by simp at hj;omega
  subst this
  simp [go_sem]
theorem ωS (z:Int):(trimL [z]).length<=1:=by
 unfold trimL
 split<;>simp [trimL]
theorem κD {n:Nat} (h:n<4294967296):ζv 4294967296 (trimL [(n:Int)])∧val 4294967296 (trimL [(n:Int)])=n:=by
 by_cases hz:n=0
 ·subst hz
  exact ⟨⟨Dig.nil _,rfl⟩,rfl⟩
 ·have e:trimL [(n:Int)]=[(n:Int)]:=by simp [trimL];omega
  rw [e]
  exact ⟨⟨Dig.cons (by omega) (by omega) (Dig.nil _),e⟩,by simp [val]⟩
theorem ωT (b:Int) (neg:Bool) (X Y Z n:Nat) (k v:Int) (w:World) (hX:X<9218868437227405312) (hcv:floatToFloatBits .f32 b.toNat .f64=some (Ieee.double.word neg X))
 (HFx: ∀w,Calls prog 205 #[X] w fun e w'=>e= .returned (.tuple #[Y,.int .i64 k])∧Below w w w')
 (HLd: ∀w,Calls prog 152 #[Y,.int .i64 24] w fun e w'=>e= .returned Z∧Below w w w')
 (hcn:floatToIntVal .f64 Z .u32=some (n:Int)) (hn:n<4294967296) (hk0: -2000<=k) (hk1:k<=2000) (hv:atK 100000 (sg neg n) (k-24)=v) (hT:Tab w):
 Calls prog 201 #[b] w fun e w'=>κC w true v e w':=by
 obtain ⟨hm1,hm2⟩:=ηk (neg:=neg) (X:=X) (by omega)
 have ho:=τ3 (neg:=neg) (X:=X) (by omega)
 obtain ⟨_,ho2⟩:=κp hX
 have HSg:Hid (∀w,Calls prog 207 #[.float .f64 (Ieee.double.word neg X)] w fun e w'=>e= .returned neg∧Below w w w'):=fun w=>θA neg X w (by omega)
 obtain ⟨W,hW⟩: ∃W,W=Ieee.double.word neg X:=⟨_,rfl⟩
 rw [<-hW] at hm1 hm2 ho hcv HSg
 clear hW
 have hc1: ∀w,(convert 246 84 (.float .f32 b.toNat)).run prog w= .ok (.float .f64 W) w:=fun w=>run_convert_float_float w _ _ .f32 .f64 b.toNat W (by rw [underlying246];rfl) underlying84 hcv
 have hc2: ∀w,(convert 84 22 Z).run prog w= .ok (.int .u32 n) w:=fun w=>run_convert_float_int w _ _ .f64 .u32 Z n (by rw [underlying84];rfl) underlying22 hcn
 have K0:Hid (∀t,χ9 w (w.alloc (.cells #[false,(),.int .i64 0] t))):=fun t=>χ9.new w t
 have HTb:Hid (Tab w):=hT
 have HV:Hid (atK 100000 (sg neg n) (k-24)=v):=hv
 have hd:=ψC
 clear hcv hcn hT hv
 go_enter func201,ntmps201
 go_wp2_with (simp only [hc1])
 refine (isNaN64_any W false _ ho).mono ?_
 rintro e w1 ⟨rfl,hb1⟩
 have K1:Hid (χ9 w w1):=(K0.out _).later hb1
 have HB1:Hid (Below w w w1):=(ζc _ _).trans (hb1.mono (by simp))
 clear hb1 K0
 go_wp2_with fail
 refine (isInf64_any W X false _ hm1 hm2 ho2).mono ?_
 rintro e w2 ⟨rfl,hb2⟩
 have K2:Hid (χ9 w w2):=K1.out.later hb2
 have HB2:Hid (Below w w w2):=HB1.out.trans (hb2.mono HB1.out.size)
 clear hb2
 go_wp2_with fail
 refine (ψW W X _ hm1 hm2).mono ?_
 rintro e w3 ⟨rfl,hb3⟩
 have K3:Hid (χ9 w w3):=K2.out.later hb3
 have HB3:Hid (Below w w w3):=HB2.out.trans (hb3.mono HB2.out.size)
 clear hb3
 go_wp2_with fail
 refine (HFx _).mono ?_
 rintro e w4 ⟨rfl,hb4⟩
 have K4:Hid (χ9 w w4):=K3.out.later hb4
 have HB4:Hid (Below w w w4):=HB3.out.trans (hb4.mono HB3.out.size)
 clear hb4
 go_wp2_with fail
 refine (HLd _).mono ?_
 rintro e w5 ⟨rfl,hb5⟩
 have K5:Hid (χ9 w w5):=K4.out.later hb5
 have HB5:Hid (Below w w w5):=HB4.out.trans (hb5.mono HB4.out.size)
 clear hb5
 go_wp2_with fail
 have hrow:ζl .u32 (w5.alloc (.cells #[.int .u32 n] 22)) w5 (some ⟨w5,0,none⟩) [(n:Int)]:=τ4 w5 n _
 refine (ζZ (some ⟨w5,0,none⟩) 1 [(n:Int)] _ w5 (by simp) (by unfold maxLen;omega) (by simp) (by simp) hrow).mono ?_
 rintro e w6 ⟨a6,c6,rfl,hl6,hm6,hr6,rfl⟩
 have hb6:Below w5 w5 (w5.alloc (.cells #[.int .u32 n] 22)):=ζc _ _
 have K6:=Hid.mk (K5.out.later hb6)
 have HB6:Hid (Below w w (w5.alloc (.cells #[.int .u32 n] 22))):=HB5.out.trans (hb6.mono HB5.out.size)
 have HR6:Hid (ζl .u32 (w5.alloc (.cells #[.int .u32 n] 22)) w5 a6 (trimL [(n:Int)])):=hr6
 obtain ⟨hcan,hval⟩:=κD hn
 have hlen:(trimL [(n:Int)]).length<=1:=ωS _
 have HBB:Hid (B1 (neg && decide (0<(trimL [(n:Int)]).length)) (trimL [(n:Int)]) (sg neg n)):=B1.of_signed hcan hval
 generalize trimL [(n:Int)]=Zs at*
 obtain ⟨V6,hV6⟩: ∃V,V=w5.alloc (.cells #[.int .u32 n] 22):=⟨_,rfl⟩
 rw [<-hV6] at K6 HB6 HR6⊢
 clear hr6 hb6 hrow hV6 hcan hval
 go_wp2_with fail
 refine (HSg.out _).mono ?_
 rintro e w7 ⟨rfl,hb7⟩
 have K7:Hid (χ9 w w7):=K6.out.later hb7
 have HB7:Hid (Below w w w7):=HB6.out.trans (hb7.mono HB6.out.size)
 have HR7:=Hid.mk (HR6.out.later hb7)
 clear hb7
 go_wp2_with fail
 refine (ζT neg a6 Zs.length c6 _).mono ?_
 rintro e w8 ⟨rfl,hb8⟩
 have K8:Hid (χ9 w w8):=K7.out.later hb8
 have HB8:Hid (Below w w w8):=HB7.out.trans (hb8.mono HB7.out.size)
 have HR8:=Hid.mk (HR7.out.later hb8)
 have HT8:Hid (Tab w8):=HTb.out.later HB8.out
 clear hb8
 generalize (neg && decide (0<Zs.length))=G at*
 go_wp2_with fail
 refine (θD G a6 c6 Zs (sg neg n) (k-24) _ (by omega) (by omega) (by omega) HR8.out.row HBB.out ⟨hl6,hm6⟩ HT8.out).mono ?_
 rintro e w9 ⟨G9,Z9,E9,K9,a9,c9,rfl,hres,hr9,hb9⟩
 rw [HV.out] at hres
 have KK:Hid (χ9 w w9):=K8.out.later hb9
 have HB9:Hid (Below w w w9):=HB8.out.trans (hb9.mono HB8.out.size)
 have HR:Hid (κA true v G9 Z9 E9 K9):=hres
 have HA:Hid (ζl .u32 w9 (↑w+1) a9 Z9):=hr9.down K8.out.lt
 have r1:=KK.out.r1
 have r2:=KK.out.r2
 have r3:=KK.out.r3
 have r4:=KK.out.r4
 clear hres hr9 hb9
 go_wp2
 refine bodyPost_ret (v:= .tuple #[.agg #[G9,.slice a9 Z9 c9,.int .i64 E9],.int .i64 K9]) (by simp [results,results201,go_sem,r1,r2,r3]) rfl ?_
 refine ⟨G9,Z9,E9,K9,a9,c9,rfl,HR.out,?_,?_⟩
 ·exact (((HA.out.setLow (by simp) _).setLow (by simp) _).setLow (by simp) _).down (by omega)
 ·exact ((HB9.out.setCell (by simp) _).setCell (by simp) _).setCell (by simp) _
theorem κE (b:Int) (w:World) (h0:0<=b) (h1:b<4294967296) (hf:ψb b=true) (hT:Tab w):
 Calls prog 201 #[b] w fun e w'=>κC w true (atK 100000 (ξ8 b) (ξd b-150)) e w':=by
 have hcv:=ηb h0 h1 hf
 have hex:=ζ8 h0
 have hmm:=φZ h0
 by_cases hM:(ξf b).toNat=0
 ·have hX:dOf b=0:=by unfold dOf;rw [if_pos hM]
  rw [hX] at hcv
  refine ωT b _ 0 0 0 0 0 _ w (by decide) hcv ηT ηU ηR (by decide) (by decide) (by decide) ?_ hT
  have hz:ξ8 b=0:=by unfold ξ8;split<;>omega
  have hs: ∀g:Bool,sg g ((0:Nat):Int)=0:=by intro g;cases g<;>rfl
  rw [hz,hs]
  unfold atK
  rw [Int.zero_mul,Int.zero_mul]
 ·obtain ⟨L,F,f,hL,hl1,hl2,hF,hF1,hF2,hf1,hf2,hd,hLL⟩:=φ0 h0 hf hM
  have e52:(2:Nat)^(52-L)=2^(23-L)*536870912:=by
   rw [show 52-L=(23-L)+29 by omega,Nat.pow_add]
  have hn:4503599627370496+f=((ξf b).toNat*2^(23-L))*536870912:=by rw [hf2,e52,Nat.mul_assoc]
  have hnlt:(ξf b).toNat*2^(23-L)<4294967296:=by omega
  refine ωT b _ (dOf b) (1022*4503599627370496+f) (1046*4503599627370496+f) ((ξf b).toNat*2^(23-L)) ((F:Int)-1022) _ w (by rw [hd];omega) hcv (fun w=>ρP _ F f w hd hF1 (by omega) hf1) (fun w=>ρQ f w hf1) (ηQ hf1 hn) hnlt (by omega) (by omega) ?_ hT
  have hnum:ξ8 b=sg (decide (2147483648<=b)) ((ξf b).toNat:Int):=by
   unfold ξ8 sg
   by_cases hs:2147483648<=b
   ·rw [if_pos hs,if_pos (by simpa using hs)];omega
   ·rw [if_neg hs,if_neg (by simpa using hs)];omega
  rw [hnum]
  have hsg: ∀(g:Bool) (x y:Int),sg g (x*y)=sg g x*y:=by intro g x y;cases g<;>simp [sg,Int.neg_mul]
  unfold atK
  rw [show (((ξf b).toNat*2^(23-L):Nat):Int)=((ξf b).toNat:Int)*2^(23-L) by push_cast;rfl,hsg,Int.mul_assoc,<-Int.pow_add]
  congr 2
  omega
def ζe (w:World) (v:Value) (e:Nat) (x:Int):Prop:= ∃(g:Bool) (a:Option Addr) (c:Nat) (zs:List Int),v= .agg #[g,.slice a zs c]∧B1 g zs x∧(Mg e x∧zs.length<=c∧c<=maxLen)∧ζk .u32 w a zs
def ζB (w:World) (e:Nat) (x:Int) (o:Ending) (w':World):Prop:= ∃v,o= .returned v∧ζe w' v e x∧Below w w w'
theorem ζe.later {v:Value} (h:ζe w v e x) (hb:Below w w w'):ζe w' v e x:=by
 obtain ⟨g,a,c,zs,rfl,h1,h2,h3⟩:=h
 exact ⟨g,a,c,zs,rfl,h1,h2,h3.later hb⟩
theorem ζe.up {v:Value} {e':Nat} (h:ζe w v e x) (he:e<=e'):ζe w v e' x:=by
 obtain ⟨g,a,c,zs,rfl,h1,h2,h3⟩:=h
 exact ⟨g,a,c,zs,rfl,h1,⟨h2.1.up he,h2.2⟩,h3⟩
theorem φ8 (h:B1 g zs x):val 4294967296 zs=Fl.absI x:=by
 have h0:=(show 0<=val 4294967296 zs by
  by_cases he:zs=[]
  ·rw [he];exact Int.le_refl _
  ·exact Int.le_of_lt (ζP (by decide) h.can he))
 have hx:=h.num
 cases g
 ·simp only [sg,Bool.false_eq_true,if_false] at hx
  rcases Fl.absI_cases x with ⟨_,e⟩| ⟨_,e⟩<;>rw [e]<;>omega
 ·simp only [sg,if_true] at hx
  rcases Fl.absI_cases x with ⟨_,e⟩| ⟨_,e⟩<;>rw [e]<;>omega
theorem ηl (h:B1 g zs x) (hm:Mg e x) (he:e<=3000):zs.length<=100:=by
 refine ψf (B:=4294967296) (by decide) h.can ?_
 rw [φ8 h]
 have h1:=ξM hm
 have h2:(4294967296:Int)^100=2^3200:=by decide+kernel
 have h3:(2:Int)^e*2<=2^3200:=by
  have:=Fl.pow_le (show e+1<=3200 by omega)
  rw [Fl.pow_succ2] at this;omega
 have:=Fl.pow_pos2 e
 rw [h2]
 exact Int.lt_of_le_of_lt h1 (by omega)
theorem ζC (h:B1 g zs x) (hm:Mg e x) (he:e<=30000):zs.length<=1000:=by
 refine ψf (B:=4294967296) (by decide) h.can ?_
 rw [φ8 h]
 have h1:=ξM hm
 have h2:(4294967296:Int)^1000=2^32000:=by decide+kernel
 have h3:(2:Int)^e*2<=2^32000:=by
  have:=Fl.pow_le (show e+1<=32000 by omega)
  rw [Fl.pow_succ2] at this;omega
 have:=Fl.pow_pos2 e
 rw [h2]
 exact Int.lt_of_le_of_lt h1 (by omega)
theorem Mg.add (hx:Mg e x) (hy:Mg e y):Mg (e+1) (x+y):=by
 have:=Fl.pow_succ2 e
 exact ⟨by have:=hx.1;have:=hy.1;omega,by have:=hx.2;have:=hy.2;omega⟩
theorem Mg.sub (hx:Mg e x) (hy:Mg e y):Mg (e+1) (x-y):=by
 have:=Fl.pow_succ2 e
 exact ⟨by have:=hx.1;have:=hy.2;omega,by have:=hx.2;have:=hy.1;omega⟩
theorem Mg.mul {f:Nat} (hx:Mg e x) (hy:Mg f y):Mg (e+f) (x*y):=by
 have:=Fl.mul_mag hx.2 hx.1 hy.2 hy.1
 exact ⟨this.2,this.1⟩
theorem ζB.of {n:Nat} {o:Ending} (hm:Mg e x) (h:ψX w x n o w'):ζB w e x o w':=by
 obtain ⟨g,a,c,fs,rfl,h1,hc,h2,h3⟩:=h
 exact ⟨_,rfl,⟨g,a,c,fs,rfl,h1,⟨hm,hc.2⟩,h2.row⟩,h3⟩
theorem φ9 (u v:Value) (e:Nat) (x y:Int) (w:World) (he:e<=30000) (hu:ζe w u e x) (hv:ζe w v e y):
 Calls prog 200 #[u,v] w fun o w'=>ζB w (e+1) (x+y) o w':=by
 obtain ⟨g,a,c,zs,rfl,h1,h2,h3⟩:=hu
 obtain ⟨g',a',c',ys,rfl,h1',h2',h3'⟩:=hv
 have:=ζC h1 h2.1 he
 have:=ζC h1' h2'.1 he
 exact (φ6 g g' a a' c c' zs ys x y w (by omega) (by omega) h3 h3' h1 h1').mono fun _ _ h=> .of (h2.1.add h2'.1) h
theorem φg (u v:Value) (e:Nat) (x y:Int) (w:World) (he:e<=30000) (hu:ζe w u e x) (hv:ζe w v e y):
 Calls prog 199 #[u,v] w fun o w'=>ζB w (e+1) (x-y) o w':=by
 obtain ⟨g,a,c,zs,rfl,h1,h2,h3⟩:=hu
 obtain ⟨g',a',c',ys,rfl,h1',h2',h3'⟩:=hv
 have:=ζC h1 h2.1 he
 have:=ζC h1' h2'.1 he
 exact (χI g g' a a' c c' zs ys x y w (by omega) (by omega) h3 h3' h1 h1').mono fun _ _ h=> .of (h2.1.sub h2'.1) h
theorem ξR (u v:Value) (e f:Nat) (x y:Int) (w:World) (he:e+f<=30000) (hu:ζe w u e x) (hv:ζe w v f y):
 Calls prog 53 #[u,v] w fun o w'=>ζB w (e+f) (x*y) o w':=by
 obtain ⟨g,a,c,zs,rfl,h1,h2,h3⟩:=hu
 obtain ⟨g',a',c',ys,rfl,h1',h2',h3'⟩:=hv
 have:=ζC h1 h2.1 (by omega)
 have:=ζC h1' h2'.1 (by omega)
 exact (ψ1 g g' a a' c c' zs ys x y w (by omega) (by omega) h3 h3' h1 h1').mono fun _ _ h=> .of (h2.1.mul h2'.1) h
theorem ζA (u:Value) (e:Nat) (x:Int) (w:World) (he:e<=30000) (hu:ζe w u e x):
 Calls prog 87 #[u] w fun o w'=>o= .returned (.int .i64 (sgn x))∧Below w w w':=by
 obtain ⟨g,a,c,zs,rfl,h1,h2,h3⟩:=hu
 have:=ζC h1 h2.1 he
 exact ρS g a c zs x w (by omega) h3 h1
theorem χa {b:Int} (h0:0<=b) (hf:ψb b=true):Mg 277 (cor b):=by
 have hm:=φZ h0
 have he:=ζ8 h0
 have hff:ξd b<=254:=by
  unfold ξd ψb at*
  split
  ·omega
  ·have:b/8388608%256≠255:=by simpa using hf
   omega
 have p1:=Fl.pow_le (show (ξd b-1).toNat<=253 by omega)
 have p0:=Fl.pow_pos2 (ξd b-1).toNat
 have x1:ξf b*2^(ξd b-1).toNat<=2^24*2^253:=Int.mul_le_mul (by omega) p1 (by omega) (by decide)
 have x0:0<=ξf b*2^(ξd b-1).toNat:=Int.mul_nonneg hm.1 (by omega)
 have x3:(2:Int)^24*2^253=2^277:=by rw [<-Int.pow_add]
 have p2:=Fl.pow_pos2 277
 rw [x3] at x1
 unfold cor ξ8
 split
 ·rw [Int.neg_mul];exact ⟨by omega,by omega⟩
 ·exact ⟨by omega,by omega⟩
theorem ρ3 {b:Int} (h0:0<=b) (hf:ψb b=true) {G:Bool} {Z:List Int} {E K:Int} (h:κA true (atK 100000 (ξ8 b) (ξd b-150)) G Z E K): ∃(m n:Int),B1 G Z m∧0<=n∧n<=120000∧E= -149+n∧m*2^n.toNat=cor b:=by
 have he:=ζ8 h0
 have hv:atK 100000 (ξ8 b) (ξd b-150)=cor b*2^99851:=by
  unfold atK cor
  rw [Int.mul_assoc,<-Int.pow_add];congr 2;omega
 rw [hv] at h
 have hm:=χa h0 hf
 have pQ:=Fl.pow_pos2 99851
 generalize hQ:(2:Int)^99851=Q at h pQ
 rcases h with ⟨h,_⟩| ⟨_,m,e,hN,hc⟩
 ·cases h
 rcases hN with ⟨z1,z2,z3⟩| ⟨z1,z2,z3,z4⟩
 ·subst z2 z3
  have hz:cor b=0:=by
   rcases Int.mul_eq_zero.1 z1 with h|h
   ·exact h
   ·omega
  rcases hc with ⟨_,hB,rfl,_⟩| ⟨hn,_⟩
  ·exact ⟨0,149,hB,by omega,by omega,by omega,by rw [hz,Int.zero_mul]⟩
  ·exact absurd ⟨⟨by decide+kernel,by decide+kernel⟩,by omega,by omega⟩ hn
 ·
  have hge:99851<=(e+100000).toNat:=by
   apply Nat.le_of_not_lt;intro hlt
   obtain ⟨d,hd⟩: ∃d:Nat,99851=(e+100000).toNat+(d+1):=⟨99851-(e+100000).toNat-1,by omega⟩
   rw [<-hQ,hd,Int.pow_add,Int.pow_succ] at z4
   have p:=Fl.pow_pos2 (e+100000).toNat
   have:cor b*(2^d*2)*2^(e+100000).toNat=m*2^(e+100000).toNat:=by rw [<-z4,Int.mul_assoc,Int.mul_comm (2^d*2)]
   have:=Int.eq_of_mul_eq_mul_right (by omega) this
   rw [<-Int.mul_assoc] at this
   omega
  obtain ⟨n,hn⟩: ∃n:Nat,(e+100000).toNat=n+99851:=⟨(e+100000).toNat-99851,by omega⟩
  have hcor:m*2^n=cor b:=by
   rw [hn,Int.pow_add,hQ,<-Int.mul_assoc] at z4
   exact (Int.eq_of_mul_eq_mul_right (by omega) z4).symm
  have m0:m≠0:=by omega
  have hpn:=Fl.pow_pos2 n
  have hab:Fl.absI m*2^n=Fl.absI (cor b):=by
   rw [<-hcor]
   rcases Fl.absI_cases m with ⟨a1,a2⟩| ⟨a1,a2⟩
   ·have:0<=m*2^n:=Int.mul_nonneg a1 (by omega)
    rcases Fl.absI_cases (m*2^n) with ⟨b1,b2⟩| ⟨b1,b2⟩<;>rw [a2,b2];omega
   ·have:m*2^n<0:=Int.mul_neg_of_neg_of_pos a1 hpn
    rcases Fl.absI_cases (m*2^n) with ⟨b1,b2⟩| ⟨b1,b2⟩<;>rw [a2,b2]
    ·omega
    ·rw [Int.neg_mul]
  have ha1:1<=Fl.absI m:=by rcases Fl.absI_cases m with ⟨_,q⟩| ⟨_,q⟩<;>rw [q]<;>omega
  have hle:=ξM hm
  have hn277:n<=277:=by
   apply Nat.le_of_not_lt;intro hlt
   have h1:1*2^n<=Fl.absI m*2^n:=Int.mul_le_mul_of_nonneg_right ha1 (by omega)
   have h2:=Fl.pow_le (show 278<=n by omega)
   have h3:(2:Int)^277<2^278:=by decide+kernel
   omega
  have hfit:τZ m:=by
   have h1:Fl.absI m*1<=Fl.absI m*2^n:=Int.mul_le_mul_of_nonneg_left (by omega) (by omega)
   have h3:(2:Int)^277<4294967296^512:=by decide+kernel
   unfold τZ
   rcases Fl.absI_cases m with ⟨_,q⟩| ⟨_,q⟩<;>rw [q] at h1 hab<;>constructor<;>omega
  rcases hc with ⟨_,hB,rfl,_⟩| ⟨hno,_⟩
  ·exact ⟨m,n,hB,by omega,by omega,by omega,by rw [Int.toNat_natCast];exact hcor⟩
  ·exact absurd ⟨hfit,by omega,by omega⟩ hno
theorem χb (b:Int) (w:World) (hT:Tab w) (h0:0<=b) (h1:b<4294967296) (hf:ψb b=true):
 Calls prog 198 #[.agg #[false,()],b] w fun o w'=>ζB w 277 (cor b) o w':=by
 have B0:Hid (∀t t',Bx1 w false () ((w.alloc (.cells #[false,()] t)).alloc (.cells #[false,()] t'))):=fun t t'=>Bx1.start w _ _ _ _
 have HM:Hid (Mg 277 (cor b)):=χa h0 hf
 go_enter func198,ntmps198
 go_wp2_with fail
 refine (κE b _ h0 h1 hf (hT.later (B0.out _ _).bel)).mono ?_
 rintro o w1 ⟨G,Z,E,K,a,c,rfl,hR,hrow,hb1⟩
 obtain ⟨m,n,hB,n0,n1,hE,hcor⟩:=ρ3 h0 hf hR
 have F1:Hid (Bx1 w false () w1):=(B0.out _ _).later hb1
 have HZ:Hid (Z.length<=512):=hR.len.1
 have HR:Hid (ζk .u32 w1 a Z):=hrow.row
 have HB:Hid (B1 G Z m):=hB
 have HC:Hid (m*2^n.toNat=cor b):=hcor
 subst hE
 clear hb1 hR hrow hB hcor B0
 go_wp2_with fail
 refine (ρY G a c Z m (-149) n _ (by have:=HZ.out;omega) n0 n1 (HR.out.later (ζc _ _)) HB.out).mono ?_
 rintro o w2 ⟨g2,a2,c2,fs,rfl,hB2,hcap,hr2,hb2⟩
 have HCP:Hid (fs.length<=c2∧c2<=maxLen):=hcap.2
 clear hcap
 have F2:Hid (Bx1 w false () w2):=(F1.out.later (ζc _ _)).later hb2
 have r1:=F2.out.r1
 have r2:=F2.out.r2
 have r3:=F2.out.r3
 have HBI:Hid (B1 g2 fs (cor b)):=by unfold Hid;rw [<-HC.out];exact hB2
 have HRW:Hid (ζl .u32 w2 (↑w+1+1) a2 fs):=hr2.down (by have:=F1.out.le;simp;omega)
 clear hb2 hr2 hB2 F1
 go_wp2
 refine bodyPost_ret (v:= .agg #[g2,.slice a2 fs c2]) (by simp [results,results198,go_sem,r1,r2]) rfl ?_
 exact ⟨_,rfl,⟨g2,a2,c2,fs,rfl,HBI.out,⟨HM.out,HCP.out⟩,((HRW.out.setLow (by simp) _).setLow (by simp) _).row⟩,(F2.out.bel.setCell (by simp) _).setCell (by simp) _⟩
open Fl (IsF Nr ζz ζE absI Est)
theorem isNaN64c_any (n:Nat) (w:World) (h:(FloatKind.f64.format.order n n !=some .eq)=false):
 Calls prog 182 #[n] w fun e w'=>e= .returned false∧Below w w w':=by
 go_enter func182,ntmps182
 go_wp2
 go_ret
 exact ⟨rfl,Below.refl _ _⟩
theorem ωU (n m:Nat) (X Y r:Int) (w:World) (hx:Ieee.double.order n n=some (compare X X)) (hy:Ieee.double.order m m=some (compare Y Y)) (ho:Ieee.double.order n m=some (compare X Y)) (hr:r=sgn (X-Y)):
 Calls prog 172 #[n,m] w fun e w'=>e= .returned (.int .i64 r)∧Below w w w':=by
 have H1:Hid ((FloatKind.f64.format.order n n !=some .eq)=false):=by
  unfold Hid
  show (Ieee.double.order n n !=some .eq)=false
  rw [hx]
  exact φf
 have H2:Hid ((FloatKind.f64.format.order m m !=some .eq)=false):=by
  unfold Hid
  show (Ieee.double.order m m !=some .eq)=false
  rw [hy]
  exact φf
 have H3:Hid ((FloatKind.f64.format.order n m==some .lt)=decide (X<Y)):=by
  unfold Hid
  show (Ieee.double.order n m==some .lt)=_
  rw [ho]
  exact ηa
 have H4:Hid ((FloatKind.f64.format.order n m==some .gt)=decide (Y<X)):=by
  unfold Hid
  show (Ieee.double.order n m==some .gt)=_
  rw [ho]
  exact χZ
 have HR:Hid (r=sgn (X-Y)):=hr
 clear hx hy ho hr
 go_enter func172,ntmps172
 go_wp2_with fail
 refine (isNaN64c_any n _ H1.out).mono ?_
 rintro e w1 ⟨rfl,hb1⟩
 go_wp2_with fail
 refine (isNaN64c_any m _ H2.out).mono ?_
 rintro e w2 ⟨rfl,hb2⟩
 have HB:Hid (Below w w w2):=hb1.trans (hb2.mono hb1.size)
 clear hb1 hb2 H1 H2
 by_cases c1:X<Y
 ·have h3:(FloatKind.f64.format.order n m==some .lt)=true:=by rw [H3.out];simpa using c1
  have hr: -1=r:=by rw [HR.out];unfold sgn;rw [if_pos (by omega)]
  go_wp2
  go_ret
  exact ⟨by rw [<-hr];rfl,HB.out⟩
 ·have h3:(FloatKind.f64.format.order n m==some .lt)=false:=by rw [H3.out];simpa using c1
  by_cases c2:Y<X
  ·have h4:(FloatKind.f64.format.order n m==some .gt)=true:=by rw [H4.out];simpa using c2
   have hr:1=r:=by rw [HR.out];unfold sgn;rw [if_neg (by omega),if_neg (by omega)]
   go_wp2
   go_ret
   exact ⟨by rw [<-hr];rfl,HB.out⟩
  ·have h4:(FloatKind.f64.format.order n m==some .gt)=false:=by rw [H4.out];simpa using c2
   have hr:0=r:=by rw [HR.out];unfold sgn;rw [if_neg (by omega),if_pos (by omega)]
   go_wp2
   go_ret
   exact ⟨by rw [<-hr];rfl,HB.out⟩
def ξc (v:Value) (k e:Nat) (S A B C:Int):Prop:= ∃x1 y1 x2 y2 x3 y3:Nat,v= .agg #[x1,y1,x2,y2,x3,y3]∧ζu (.agg #[x1,y1]) k e S A∧ζu (.agg #[x2,y2]) k e S B∧ζu (.agg #[x3,y3]) k e S C
def ξ0 (w:World) (k e:Nat) (S A B C:Int) (o:Ending) (w':World):Prop:= ∃v,o= .returned v∧ξc v k e S A B C∧Below w w w'
theorem ωV (r:Value) (w:World):(method 357 86 r "loop.example/s01121/impl.minus").run prog w= .ok (213,r) w∧(method 357 86 r "loop.example/s01121/impl.plus").run prog w= .ok (214,r) w∧(method 357 86 r "loop.example/s01121/impl.times").run prog w= .ok (215,r) w∧(method 357 86 r "loop.example/s01121/impl.fromFloat").run prog w= .ok (212,r) w:=⟨by kernel_rfl,by kernel_rfl,by kernel_rfl,by kernel_rfl⟩
abbrev VS (w:World) (p0 p1 p2 p3 p4 p5 q0 q1 q2 q3 q4 q5:Value) (W w':World):Prop:=w'.cell? ⟨w,0,none⟩=some p0∧w'.cell? ⟨w,1,none⟩=some p1∧w'.cell? ⟨w,2,none⟩=some p2∧w'.cell? ⟨w,3,none⟩=some p3∧w'.cell? ⟨w,4,none⟩=some p4∧w'.cell? ⟨w,5,none⟩=some p5∧w'.cell? ⟨↑w+1,0,none⟩=some q0∧w'.cell? ⟨↑w+1,1,none⟩=some q1∧w'.cell? ⟨↑w+1,2,none⟩=some q2∧w'.cell? ⟨↑w+1,3,none⟩=some q3∧w'.cell? ⟨↑w+1,4,none⟩=some q4∧w'.cell? ⟨↑w+1,5,none⟩=some q5∧Below (↑w+1+1) W w'
theorem VS.on (h:VS w p0 p1 p2 p3 p4 p5 q0 q1 q2 q3 q4 q5 W W') (hb:Below (↑w+1+1) W' w'):VS w p0 p1 p2 p3 p4 p5 q0 q1 q2 q3 q4 q5 W w':=by
 obtain ⟨a0,a1,a2,a3,a4,a5,b0,b1,b2,b3,b4,b5,hB⟩:=h
 exact ⟨(hb.cell (by simp;omega)).trans a0,(hb.cell (by simp;omega)).trans a1,(hb.cell (by simp;omega)).trans a2,(hb.cell (by simp;omega)).trans a3,(hb.cell (by simp;omega)).trans a4,(hb.cell (by simp;omega)).trans a5,(hb.cell (by simp)).trans b0,(hb.cell (by simp)).trans b1,(hb.cell (by simp)).trans b2,(hb.cell (by simp)).trans b3,(hb.cell (by simp)).trans b4,(hb.cell (by simp)).trans b5,hB.trans hb⟩
theorem VS.set6 (h:VS w p0 p1 p2 p3 p4 p5 q0 q1 q2 q3 q4 q5 W w') (v0 v1 v2 v3 v4 v5:Value):VS w p0 p1 p2 p3 p4 p5 q0 q1 q2 q3 q4 q5 W ((((((w'.setCell ⟨↑w+1+1,0,none⟩ v0).setCell ⟨↑w+1+1,1,none⟩ v1).setCell ⟨↑w+1+1,2,none⟩ v2).setCell ⟨↑w+1+1,3,none⟩ v3).setCell ⟨↑w+1+1,4,none⟩ v4).setCell ⟨↑w+1+1,5,none⟩ v5):=
 h.on ((((((Below.refl _ _).setCell (by simp) _).setCell (by simp) _).setCell (by simp) _).setCell (by simp) _).setCell (by simp) _|>.setCell (by simp) _)
structure VF (w:World) (p0 p1 p2 p3 p4 p5 q0 q1 q2 q3 q4 q5 z0 z1 z2 z3 z4 z5:Value) (W:World):Prop where
 s:VS w p0 p1 p2 p3 p4 p5 q0 q1 q2 q3 q4 q5 W W
 r0:W.cell? ⟨↑w+1+1,0,none⟩=some z0
 r1:W.cell? ⟨↑w+1+1,1,none⟩=some z1
 r2:W.cell? ⟨↑w+1+1,2,none⟩=some z2
 r3:W.cell? ⟨↑w+1+1,3,none⟩=some z3
 r4:W.cell? ⟨↑w+1+1,4,none⟩=some z4
 r5:W.cell? ⟨↑w+1+1,5,none⟩=some z5
 fz: ∀j,W.frozen? ⟨↑w+1+1,j,none⟩=false
 le:w.heap.size+1+1+1<=W.heap.size
 bel:Below w w W
theorem VF.start (w:World) (p0 p1 p2 p3 p4 p5 q0 q1 q2 q3 q4 q5 z0 z1 z2 z3 z4 z5:Value) (t t' t2:TypeId):VF w p0 p1 p2 p3 p4 p5 q0 q1 q2 q3 q4 q5 z0 z1 z2 z3 z4 z5 (((w.alloc (.cells #[p0,p1,p2,p3,p4,p5] t)).alloc (.cells #[q0,q1,q2,q3,q4,q5] t')).alloc (.cells #[z0,z1,z2,z3,z4,z5] t2)):=by
 refine ⟨⟨?_,?_,?_,?_,?_,?_,?_,?_,?_,?_,?_,?_,Below.refl _ _⟩,?_,?_,?_,?_,?_,?_,fun j=> ?_,?_,(ξr _ _ _).trans ((ζc _ _).mono (by simp;omega))⟩
 all_goals simp [go_sem]
theorem VF.later {z0 z1 z2 z3 z4 z5:Value} (h:VF w p0 p1 p2 p3 p4 p5 q0 q1 q2 q3 q4 q5 z0 z1 z2 z3 z4 z5 W) (hb:Below W W W'):VF w p0 p1 p2 p3 p4 p5 q0 q1 q2 q3 q4 q5 z0 z1 z2 z3 z4 z5 W':=by
 have hle:=h.le
 obtain ⟨a0,a1,a2,a3,a4,a5,b0,b1,b2,b3,b4,b5,_⟩:=h.s.on (hb.mono (by omega))
 exact ⟨⟨a0,a1,a2,a3,a4,a5,b0,b1,b2,b3,b4,b5,Below.refl _ _⟩,(hb.cell (by simp;omega)).trans h.r0,(hb.cell (by simp;omega)).trans h.r1,(hb.cell (by simp;omega)).trans h.r2,(hb.cell (by simp;omega)).trans h.r3,(hb.cell (by simp;omega)).trans h.r4,(hb.cell (by simp;omega)).trans h.r5,fun j=>(hb.frozen (by simp;omega)).trans (h.fz j),Nat.le_trans h.le hb.size,h.bel.trans (hb.mono (by omega))⟩
theorem ξ1 (u v:Value) (k e:Nat) (S A B C A' B' C':Int) (w:World) (he:e<=900) (hu:ξc u k e S A B C) (hv:ξc v k e S A' B' C'):
 Calls prog 150 #[u,v] w fun o w'=>ξ0 w k (e+4) S (A-A') (B-B') (C-C') o w':=by
 obtain ⟨x1,y1,x2,y2,x3,y3,rfl,h1,h2,h3⟩:=hu
 obtain ⟨x1',y1',x2',y2',x3',y3',rfl,h1',h2',h3'⟩:=hv
 go_enter func150,ntmps150
 go_wp2
 obtain ⟨W0,hW0⟩: ∃V0,V0=(((w.alloc (.cells #[.float .f64 x1,.float .f64 y1,.float .f64 x2,.float .f64 y2,.float .f64 x3,.float .f64 y3] 88)).alloc (.cells #[.float .f64 x1',.float .f64 y1',.float .f64 x2',.float .f64 y2',.float .f64 x3',.float .f64 y3'] 88)).alloc (.cells #[oOo,oOo,oOo,oOo,oOo,oOo] 88)):=⟨_,rfl⟩
 rw [<-hW0]
 have FR:Hid (VF w (.float .f64 x1) (.float .f64 y1) (.float .f64 x2) (.float .f64 y2) (.float .f64 x3) (.float .f64 y3) (.float .f64 x1') (.float .f64 y1') (.float .f64 x2') (.float .f64 y2') (.float .f64 x3') (.float .f64 y3') oOo oOo oOo oOo oOo oOo W0):=by rw [hW0];exact VF.start w _ _ _ _ _ _ _ _ _ _ _ _ _ _ _ _ _ _ _ _ _
 clear hW0
 have hmt: ∀(r:Value) (w:World),_:=fun r w=>(ωV r w).1
 have hst:=ζY
 have hL0:Below (↑w+1+1) W0 W0.drew:=(Below.refl _ _).drew
 go_region_held3 (fun w'=>w'.cell? ⟨w,0,none⟩=some (.float .f64 x1)∧w'.cell? ⟨w,1,none⟩=some (.float .f64 y1)∧w'.cell? ⟨w,2,none⟩=some (.float .f64 x2)∧w'.cell? ⟨w,3,none⟩=some (.float .f64 y2)∧w'.cell? ⟨w,4,none⟩=some (.float .f64 x3)∧w'.cell? ⟨w,5,none⟩=some (.float .f64 y3)∧w'.cell? ⟨↑w+1,0,none⟩=some (.float .f64 x1')∧w'.cell? ⟨↑w+1,1,none⟩=some (.float .f64 y1')∧w'.cell? ⟨↑w+1,2,none⟩=some (.float .f64 x2')∧w'.cell? ⟨↑w+1,3,none⟩=some (.float .f64 y2')∧w'.cell? ⟨↑w+1,4,none⟩=some (.float .f64 x3')∧w'.cell? ⟨↑w+1,5,none⟩=some (.float .f64 y3')∧Below (↑w+1+1) W0 w')
  (first|with_reducible exact (FR.out.s.on hL3).set6 _ _ _ _ _ _|with_reducible exact FR.out.s.on (by with_reducible assumption))
  (first
   |(have hBB:=hB2;clear hBB;go_at_call 213;refine (ξs _ _ k e S C C' _ he h3 h3').mono ?_;rintro o w3 ⟨v3,rfl,hv3,hb3⟩;have HV3:Hid (ζu v3 k (e+4) S (C-C')):=hv3;obtain ⟨m3,n3,_,_,rfl,_,_,_⟩:=hv3;have hB3:Below W0 W0 w3:=hB2.trans (hb3.mono hB2.size);have hL3:Below (↑w+1+1) W0 w3:=hB3.mono (by have:=FR.out.le;omega);have F3:Hid (VF w (.float .f64 x1) (.float .f64 y1) (.float .f64 x2) (.float .f64 y2) (.float .f64 x3) (.float .f64 y3) (.float .f64 x1') (.float .f64 y1') (.float .f64 x2') (.float .f64 y2') (.float .f64 x3') (.float .f64 y3') oOo oOo oOo oOo oOo oOo w3):=FR.out.later hB3;have r0:=F3.out.r0;have r1:=F3.out.r1;have r2:=F3.out.r2;have r3:=F3.out.r3;have r4:=F3.out.r4;have r5:=F3.out.r5;have r6:=F3.out.fz)
   |(have hBB:=hB1;clear hBB;go_at_call 213;refine (ξs _ _ k e S B B' _ he h2 h2').mono ?_;rintro o w2 ⟨v2,rfl,hv2,hb2⟩;have HV2:Hid (ζu v2 k (e+4) S (B-B')):=hv2;obtain ⟨m2,n2,_,_,rfl,_,_,_⟩:=hv2;have hB2:Below W0 W0 w2:=hB1.trans (hb2.mono hB1.size);have hL2:Below (↑w+1+1) W0 w2:=hB2.mono (by have:=FR.out.le;omega))
   |(go_at_call 213;refine (ξs _ _ k e S A A' _ he h1 h1').mono ?_;rintro o w1 ⟨v1,rfl,hv1,hb1⟩;have HV1:Hid (ζu v1 k (e+4) S (A-A')):=hv1;obtain ⟨m1,n1,_,_,rfl,_,_,_⟩:=hv1;have hB1:Below W0 W0 w1:=(Below.refl _ _).drew.trans hb1;have hL1:Below (↑w+1+1) W0 w1:=hB1.mono (by have:=FR.out.le;omega)))
 clear hB1 hB2 hB3 hL1 hL2 hL3 hb1 hb2 hb3 hmt h1 h2 h3 h1' h2' h3'
 go_wp2
 refine bodyPost_ret (v:= .agg #[.float .f64 m1,.float .f64 n1,.float .f64 m2,.float .f64 n2,.float .f64 m3,.float .f64 n3]) (by simp [results,results150,go_sem,r0,r1,r2,r3,r4,r5]) rfl ?_
 refine ⟨_,rfl,⟨m1,n1,m2,n2,m3,n3,rfl,HV1.out,HV2.out,HV3.out⟩,?_⟩
 exact (((((F3.out.bel.setCell (by simp;omega) _).setCell (by simp;omega) _).setCell (by simp;omega) _).setCell (by simp;omega) _).setCell (by simp;omega) _).setCell (by simp;omega) _
end Go.Proofs.YtfieffpobgcpmaaGreatDoor
