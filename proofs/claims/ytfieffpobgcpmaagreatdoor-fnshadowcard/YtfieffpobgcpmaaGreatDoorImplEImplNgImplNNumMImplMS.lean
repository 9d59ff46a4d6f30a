import Derived.Test.YtfieffpobgcpmaaGreatDoorImplBToImplDS
import Derived.Test.YtfieffpobgcpmaaGreatDoorEsBToImplOS
import Derived.Test.YtfieffpobgcpmaaGreatDoorBoxToNumSS
import Derived.Test.YtfieffpobgcpmaaGreatDoorBaseToNumS
set_option maxRecDepth 100000
set_option maxHeartbeats 32000000
namespace Go.Proofs.YtfieffpobgcpmaaGreatDoor
open Go.RowKit Go.Proofs.Tryz
variable {ys P D:List Int} {j i:Nat} {B x c:Int}
theorem κv (g g':Bool) (a a':Option Addr) (c c':Nat) (zs ys:List Int) (x y:Int) (w:World) (hn:zs.length<=100000) (hn':ys.length<=100000) (hz:ζk .u32 w a zs) (hy:ζk .u32 w a' ys) (h:B1 g zs x) (h':B1 g' ys y) (hg:g=g'):
 Calls prog 200 #[.agg #[g,.slice a zs c],.agg #[g',.slice a' ys c']] w fun e w'=>ψX w (x+y) (zs.length+ys.length+1) e w':=by
 have HX:Hid (sg g (val 4294967296 zs+val 4294967296 ys)=x+y):=by
  unfold Hid
  rw [h.num,h'.num,hg]
  cases g'<;>simp [sg]
  omega
 have hgg:(g==g')=true:=by rw [hg];simp
 have hdz:=h.can.1
 have hdy:=h'.can.1
 clear hg h h'
 go_enter func200,ntmps200
 go_wp2
 obtain ⟨V0,hV0⟩: ∃V0,V0=(((w.alloc (.cells #[g,.slice a zs c] 31)).alloc (.cells #[g',.slice a' ys c'] 31)).alloc (.cells #[false,()] 31)):=⟨_,rfl⟩
 rw [<-hV0]
 have F0:Hid (ξU w g g' (.slice a zs c) (.slice a' ys c') () V0):=by rw [hV0];exact ξU.start w g g' _ _ _ _ _ _
 clear hV0
 have s0:=F0.out.s.1
 have s1:=F0.out.s.2.1
 have s2:=F0.out.s.2.2.1
 have s3:=F0.out.s.2.2.2.1
 go_quiet (fail)
 have F1:Hid (ξU w g g' (.slice a zs c) (.slice a' ys c') () (V0.drewN nq)):=F0.out.later (below_drewN (Below.refl _ _) _)
 clear s0 s1 s2 s3 F0
 generalize V0.drewN nq=W0 at*
 have s0:=F1.out.s.1
 have s1:=F1.out.s.2.1
 have s2:=F1.out.s.2.2.1
 have s3:=F1.out.s.2.2.2.1
 have F:=F1
 clear F1
 go_wp2
 clear s0 s1 s2 s3
 go_region_held3 (fun w'=>w'.cell? ⟨w,0,none⟩=some ↑g∧w'.cell? ⟨w,1,none⟩=some (.slice a zs c)∧w'.cell? ⟨↑w+1,0,none⟩=some ↑g'∧w'.cell? ⟨↑w+1,1,none⟩=some (.slice a' ys c')∧Below (↑w+1+1) W0 w')
  (first|exact ζx F.out.s (Below.refl _ _).drew|exact ζx F.out.s (by assumption)|exact ζx F.out.s (Below.setCell (Below.setCell (by assumption) (by simp) _) (by simp) _))
  (first
   |(go_at_call 203;refine (κu a a' c c' zs ys _ hn hn' (hz.later F.out.bel.drew) (hy.later F.out.bel.drew) hdz hdy).mono ?_;rintro e w1 ⟨a2,c2,fs,rfl,hf2,hm2,hcan,hval,hlen,hrn1,hb1⟩;have hB1:Below W0 W0 w1:=(Below.refl _ _).drew.trans hb1;have hB1':Below (↑w+1+1) W0 w1:=hB1.mono (by have:=F.out.le;omega))
   |(go_at_call 92;refine (ζT g a2 fs.length c2 _).mono ?_;rintro e w2 ⟨rfl,hb2⟩;have hB2:Below W0 W0 w2:=hB1.trans (hb2.mono hB1.size);have hB2':Below (↑w+1+1) W0 w2:=hB2.mono (by have:=F.out.le;omega);have hrn2:ζl .u32 w2 W0 a2 fs:=ζl.later hrn1 hb2;have F2:Hid (ξU w g g' (.slice a zs c) (.slice a' ys c') () w2):=F.out.later hB2;have r1:=F2.out.r1;have r2:=F2.out.r2;have r3:=F2.out.r3))
 have HR:Hid (ζl .u32 w2 W0 a2 fs):=hrn2
 have HB:Hid (B1 (g && decide (0<fs.length)) fs (x+y)):=by unfold Hid;rw [<-HX.out];exact B1.of_signed hcan hval
 clear hrn1 hrn2 hB1 hB1' hB2 hB2' hb1 hb2 hcan hval
 generalize (g && decide (0<fs.length))=g2 at*
 go_wp2
 refine bodyPost_ret (v:= .agg #[g2,.slice a2 fs c2]) (by simp [results,results200,go_sem,r1,r2]) rfl ?_
 have hle:=F.out.le
 refine ⟨g2,a2,c2,fs,rfl,HB.out,by omega,?_,?_⟩
 ·exact ((HR.out.setLow (by simp;omega) _).setLow (by simp;omega) _).down (by omega)
 ·exact (F2.out.bel.setCell (by simp;omega) _).setCell (by simp;omega) _
theorem νP (g g':Bool) (a a':Option Addr) (c c':Nat) (zs ys:List Int) (x y:Int) (w:World) (hn:zs.length<=100000) (hn':ys.length<=100000) (hz:ζk .u32 w a zs) (hy:ζk .u32 w a' ys) (h:B1 g zs x) (h':B1 g' ys y) (hg:g'= !g) (hcmp:0<=ξ4 zs ys):
 Calls prog 200 #[.agg #[g,.slice a zs c],.agg #[g',.slice a' ys c']] w fun e w'=>ψX w (x+y) (zs.length+ys.length+1) e w':=by
 have hcc:=ρC (B:=4294967296) (by decide) h.can h'.can hcmp
 have HX:Hid (sg g (val 4294967296 zs-val 4294967296 ys)=x+y):=by
  unfold Hid
  rw [h.num,h'.num,hg]
  cases g<;>simp [sg]<;>omega
 have hgg:(g==g')=false:=by rw [hg];cases g<;>rfl
 have hdz:=h.can.1
 have hdy:=h'.can.1
 have hl1:=hcc.1
 have HV:Hid (val 4294967296 ys<=val 4294967296 zs):=hcc.2
 obtain ⟨cv,hcv⟩: ∃cv,cv=ξ4 zs ys:=⟨_,rfl⟩
 have hcmp':0<=cv:=by omega
 have HC:Hid (cv=ξ4 zs ys):=hcv
 clear hg h h' hcc hcv hcmp
 go_enter func200,ntmps200
 go_wp2
 obtain ⟨V0,hV0⟩: ∃V0,V0=(((w.alloc (.cells #[g,.slice a zs c] 31)).alloc (.cells #[g',.slice a' ys c'] 31)).alloc (.cells #[false,()] 31)):=⟨_,rfl⟩
 rw [<-hV0]
 have F0:Hid (ξU w g g' (.slice a zs c) (.slice a' ys c') () V0):=by rw [hV0];exact ξU.start w g g' _ _ _ _ _ _
 clear hV0
 have s0:=F0.out.s.1
 have s1:=F0.out.s.2.1
 have s2:=F0.out.s.2.2.1
 have s3:=F0.out.s.2.2.2.1
 go_quiet (fail)
 have F1:Hid (ξU w g g' (.slice a zs c) (.slice a' ys c') () (V0.drewN nq)):=F0.out.later (below_drewN (Below.refl _ _) _)
 clear s0 s1 s2 s3 F0
 generalize V0.drewN nq=W0 at*
 have s0:=F1.out.s.1
 have s1:=F1.out.s.2.1
 have s2:=F1.out.s.2.2.1
 have s3:=F1.out.s.2.2.2.1
 go_wp2_with fail
 refine (ψd a a' c c' zs ys _ (by omega) (by omega) (hz.later F1.out.bel) (hy.later F1.out.bel)).mono ?_
 rintro e W1 ⟨rfl,hb0⟩
 rw [<-HC.out]
 have F:=Hid.mk (F1.out.later hb0)
 clear hb0 s0 s1 s2 s3 F1
 go_wp2
 go_region_held3 (fun w'=>w'.cell? ⟨w,0,none⟩=some ↑g∧w'.cell? ⟨w,1,none⟩=some (.slice a zs c)∧w'.cell? ⟨↑w+1,0,none⟩=some ↑g'∧w'.cell? ⟨↑w+1,1,none⟩=some (.slice a' ys c')∧Below (↑w+1+1) W1 w')
  (first|exact ζx F.out.s (Below.refl _ _).drew|exact ζx F.out.s (by assumption)|exact ζx F.out.s (Below.setCell (Below.setCell (by assumption) (by simp) _) (by simp) _))
  (first
   |(go_at_call 139;refine (ψe a a' c c' zs ys _ hn (hz.later F.out.bel.drew) (hy.later F.out.bel.drew) hdz hdy hl1 HV.out).mono ?_;rintro e w1 ⟨a2,c2,fs,rfl,hf2,hm2,hcan,hval,hlen,hrn1,hb1⟩;have hB1:Below W1 W1 w1:=(Below.refl _ _).drew.trans hb1;have hB1':Below (↑w+1+1) W1 w1:=hB1.mono (by have:=F.out.le;omega))
   |(go_at_call 92;refine (ζT g a2 fs.length c2 _).mono ?_;rintro e w2 ⟨rfl,hb2⟩;have hB2:Below W1 W1 w2:=hB1.trans (hb2.mono hB1.size);have hB2':Below (↑w+1+1) W1 w2:=hB2.mono (by have:=F.out.le;omega);have hrn2:ζl .u32 w2 W1 a2 fs:=ζl.later hrn1 hb2;have F2:Hid (ξU w g g' (.slice a zs c) (.slice a' ys c') () w2):=F.out.later hB2;have r1:=F2.out.r1;have r2:=F2.out.r2;have r3:=F2.out.r3))
 have HR:Hid (ζl .u32 w2 W1 a2 fs):=hrn2
 have HB:Hid (B1 (g && decide (0<fs.length)) fs (x+y)):=by unfold Hid;rw [<-HX.out];exact B1.of_signed hcan hval
 clear hrn1 hrn2 hB1 hB1' hB2 hB2' hb1 hb2 hcan hval
 generalize (g && decide (0<fs.length))=g2 at*
 go_wp2
 refine bodyPost_ret (v:= .agg #[g2,.slice a2 fs c2]) (by simp [results,results200,go_sem,r1,r2]) rfl ?_
 have hle:=F.out.le
 refine ⟨g2,a2,c2,fs,rfl,HB.out,by omega,?_,?_⟩
 ·exact ((HR.out.setLow (by simp;omega) _).setLow (by simp;omega) _).down (by omega)
 ·exact (F2.out.bel.setCell (by simp;omega) _).setCell (by simp;omega) _
theorem νQ (g g':Bool) (a a':Option Addr) (c c':Nat) (zs ys:List Int) (x y:Int) (w:World) (hn:zs.length<=100000) (hn':ys.length<=100000) (hz:ζk .u32 w a zs) (hy:ζk .u32 w a' ys) (h:B1 g zs x) (h':B1 g' ys y) (hg:g'= !g) (hcmp:ξ4 zs ys<0):
 Calls prog 200 #[.agg #[g,.slice a zs c],.agg #[g',.slice a' ys c']] w fun e w'=>ψX w (x+y) (zs.length+ys.length+1) e w':=by
 have hcc:=ρD (B:=4294967296) (by decide) h.can h'.can hcmp
 have HX:Hid (sg g' (val 4294967296 ys-val 4294967296 zs)=x+y):=by
  unfold Hid
  rw [h.num,h'.num,hg]
  cases g<;>simp [sg]<;>omega
 have hgg:(g==g')=false:=by rw [hg];cases g<;>rfl
 have hdz:=h.can.1
 have hdy:=h'.can.1
 have hl1:=hcc.1
 have HV:Hid (val 4294967296 zs<=val 4294967296 ys):=hcc.2
 obtain ⟨cv,hcv⟩: ∃cv,cv=ξ4 zs ys:=⟨_,rfl⟩
 have hcmp':cv<0:=by omega
 have HC:Hid (cv=ξ4 zs ys):=hcv
 clear hg h h' hcc hcv hcmp
 go_enter func200,ntmps200
 go_wp2
 obtain ⟨V0,hV0⟩: ∃V0,V0=(((w.alloc (.cells #[g,.slice a zs c] 31)).alloc (.cells #[g',.slice a' ys c'] 31)).alloc (.cells #[false,()] 31)):=⟨_,rfl⟩
 rw [<-hV0]
 have F0:Hid (ξU w g g' (.slice a zs c) (.slice a' ys c') () V0):=by rw [hV0];exact ξU.start w g g' _ _ _ _ _ _
 clear hV0
 have s0:=F0.out.s.1
 have s1:=F0.out.s.2.1
 have s2:=F0.out.s.2.2.1
 have s3:=F0.out.s.2.2.2.1
 go_quiet (fail)
 have F1:Hid (ξU w g g' (.slice a zs c) (.slice a' ys c') () (V0.drewN nq)):=F0.out.later (below_drewN (Below.refl _ _) _)
 clear s0 s1 s2 s3 F0
 generalize V0.drewN nq=W0 at*
 have s0:=F1.out.s.1
 have s1:=F1.out.s.2.1
 have s2:=F1.out.s.2.2.1
 have s3:=F1.out.s.2.2.2.1
 go_wp2_with fail
 refine (ψd a a' c c' zs ys _ (by omega) (by omega) (hz.later F1.out.bel) (hy.later F1.out.bel)).mono ?_
 rintro e W1 ⟨rfl,hb0⟩
 rw [<-HC.out]
 have F:=Hid.mk (F1.out.later hb0)
 clear hb0 s0 s1 s2 s3 F1
 go_wp2
 go_region_held3 (fun w'=>w'.cell? ⟨w,0,none⟩=some ↑g∧w'.cell? ⟨w,1,none⟩=some (.slice a zs c)∧w'.cell? ⟨↑w+1,0,none⟩=some ↑g'∧w'.cell? ⟨↑w+1,1,none⟩=some (.slice a' ys c')∧Below (↑w+1+1) W1 w')
  (first|exact ζx F.out.s (Below.refl _ _).drew|exact ζx F.out.s (by assumption)|exact ζx F.out.s (Below.setCell (Below.setCell (by assumption) (by simp) _) (by simp) _))
  (first
   |(go_at_call 139;refine (ψe a' a c' c ys zs _ hn' (hy.later F.out.bel.drew) (hz.later F.out.bel.drew) hdy hdz hl1 HV.out).mono ?_;rintro e w1 ⟨a2,c2,fs,rfl,hf2,hm2,hcan,hval,hlen,hrn1,hb1⟩;have hB1:Below W1 W1 w1:=(Below.refl _ _).drew.trans hb1;have hB1':Below (↑w+1+1) W1 w1:=hB1.mono (by have:=F.out.le;omega))
   |(go_at_call 92;refine (ζT g' a2 fs.length c2 _).mono ?_;rintro e w2 ⟨rfl,hb2⟩;have hB2:Below W1 W1 w2:=hB1.trans (hb2.mono hB1.size);have hB2':Below (↑w+1+1) W1 w2:=hB2.mono (by have:=F.out.le;omega);have hrn2:ζl .u32 w2 W1 a2 fs:=ζl.later hrn1 hb2;have F2:Hid (ξU w g g' (.slice a zs c) (.slice a' ys c') () w2):=F.out.later hB2;have r1:=F2.out.r1;have r2:=F2.out.r2;have r3:=F2.out.r3))
 have HR:Hid (ζl .u32 w2 W1 a2 fs):=hrn2
 have HB:Hid (B1 (g' && decide (0<fs.length)) fs (x+y)):=by unfold Hid;rw [<-HX.out];exact B1.of_signed hcan hval
 clear hrn1 hrn2 hB1 hB1' hB2 hB2' hb1 hb2 hcan hval
 generalize (g' && decide (0<fs.length))=g2 at*
 go_wp2
 refine bodyPost_ret (v:= .agg #[g2,.slice a2 fs c2]) (by simp [results,results200,go_sem,r1,r2]) rfl ?_
 have hle:=F.out.le
 refine ⟨g2,a2,c2,fs,rfl,HB.out,by omega,?_,?_⟩
 ·exact ((HR.out.setLow (by simp;omega) _).setLow (by simp;omega) _).down (by omega)
 ·exact (F2.out.bel.setCell (by simp;omega) _).setCell (by simp;omega) _
theorem φ6 (g g':Bool) (a a':Option Addr) (c c':Nat) (zs ys:List Int) (x y:Int) (w:World) (hn:zs.length<=100000) (hn':ys.length<=100000) (hz:ζk .u32 w a zs) (hy:ζk .u32 w a' ys) (h:B1 g zs x) (h':B1 g' ys y):
 Calls prog 200 #[.agg #[g,.slice a zs c],.agg #[g',.slice a' ys c']] w fun e w'=>ψX w (x+y) (zs.length+ys.length+1) e w':=by
 by_cases hg:g=g'
 ·exact κv g g' a a' c c' zs ys x y w hn hn' hz hy h h' hg
 ·have hg':g'= !g:=by cases g<;>cases g'<;>simp_all
  by_cases hc:0<=ξ4 zs ys
  ·exact νP g g' a a' c c' zs ys x y w hn hn' hz hy h h' hg' hc
  ·exact νQ g g' a a' c c' zs ys x y w hn hn' hz hy h h' hg' (by omega)
theorem ηi (g:Bool) (a:Option Addr) (n c:Nat) (w:World):
 Calls prog 130 #[.agg #[g,.slice a n c]] w fun e w'=>e= .returned (.agg #[.bool (!g && decide (0<n)),.slice a n c])∧Below w w w':=by
 have B0:Hid (∀t t',Bx1 w g (.slice a n c) ((w.alloc (.cells #[g,.slice a n c] t)).alloc (.cells #[false,()] t'))):=fun t t'=>Bx1.start w _ _ _ _
 go_enter func130,ntmps130
 go_wp2_with fail
 refine (ζT (!g) a n c _).mono ?_
 rintro e w2 ⟨rfl,hb2⟩
 have F2:Hid (Bx1 w g (.slice a n c) w2):=(B0.out _ _).later hb2
 have r1:=F2.out.r1
 have r2:=F2.out.r2
 have r3:=F2.out.r3
 have zz:w.heap.size+1<w2.heap.size:=F2.out.le
 clear hb2 B0
 obtain ⟨G,hG⟩: ∃G,G=(!g && decide (0<n)):=⟨_,rfl⟩
 rw [<-hG]
 have HG:Hid (G=(!g && decide (0<n))):=hG
 clear hG
 go_wp2
 refine bodyPost_ret (v:= .agg #[.bool G,.slice a n c]) (by simp [results,results130,go_sem,r1,r2]) rfl ?_
 exact ⟨by rw [HG.out],(F2.out.bel.setCell (by simp) _).setCell (by simp) _⟩
theorem χI (g g':Bool) (a a':Option Addr) (c c':Nat) (zs ys:List Int) (x y:Int) (w:World) (hn:zs.length<=100000) (hn':ys.length<=100000) (hz:ζk .u32 w a zs) (hy:ζk .u32 w a' ys) (h:B1 g zs x) (h':B1 g' ys y):
 Calls prog 199 #[.agg #[g,.slice a zs c],.agg #[g',.slice a' ys c']] w fun e w'=>ψX w (x-y) (zs.length+ys.length+1) e w':=by
 have HY:Hid (y=sg g' (val 4294967296 ys)):=h'.num
 go_enter func199,ntmps199
 go_wp2
 obtain ⟨W0,hW0⟩: ∃V0,V0=(((w.alloc (.cells #[g,.slice a zs c] 31)).alloc (.cells #[g',.slice a' ys c'] 31)).alloc (.cells #[false,()] 31)):=⟨_,rfl⟩
 rw [<-hW0]
 have F:Hid (ξU w g g' (.slice a zs c) (.slice a' ys c') () W0):=by rw [hW0];exact ξU.start w g g' _ _ _ _ _ _
 clear hW0
 go_region_held3 (fun w'=>w'.cell? ⟨w,0,none⟩=some ↑g∧w'.cell? ⟨w,1,none⟩=some (.slice a zs c)∧w'.cell? ⟨↑w+1,0,none⟩=some ↑g'∧w'.cell? ⟨↑w+1,1,none⟩=some (.slice a' ys c')∧Below (↑w+1+1) W0 w')
  (first|exact ζx F.out.s (Below.refl _ _).drew|exact ζx F.out.s (by assumption)|exact ζx F.out.s (Below.setCell (Below.setCell (by assumption) (by simp) _) (by simp) _))
  (first
   |(go_at_call 130;refine (ηi g' a' ys.length c' _).mono ?_;rintro e w3 ⟨rfl,hb3⟩;have hB3:Below W0 W0 w3:=(Below.refl _ _).drew.trans hb3;have hBl3:Below (↑w+1+1) W0 w3:=hB3.mono (by have:=F.out.le;omega);have hN:B1 (!g' && decide (0<ys.length)) ys (-y):=(by rw [HY.out,<-sg_not];exact B1.of_signed h'.can rfl))
   |(go_at_call 200;refine (φ6 g _ a a' c c' zs ys x (-y) _ (by omega) (by omega) (hz.later (F.out.bel.trans (hB3.mono F.out.bel.size))) (hy.later (F.out.bel.trans (hB3.mono F.out.bel.size))) h hN).mono ?_;rintro e w4 ⟨g4,a4,c4,fs,rfl,hB1,hl4,hr4,hb4⟩;have hB4:Below W0 W0 w4:=hB3.trans (hb4.mono hB3.size);have hBl4:Below (↑w+1+1) W0 w4:=hB4.mono (by have:=F.out.le;omega);have F2:Hid (ξU w g g' (.slice a zs c) (.slice a' ys c') () w4):=F.out.later hB4;have r1:=F2.out.r1;have r2:=F2.out.r2;have r3:=F2.out.r3))
 have HR:Hid (ζl .u32 w4 W0 a4 fs):=hr4.down hB3.size
 have HB:Hid (B1 g4 fs (x-y)):=by unfold Hid;rw [show x-y=x+ -y by omega];exact hB1
 clear hr4 hB3 hBl3 hB4 hBl4 hb3 hb4 hB1 hN
 go_wp2
 refine bodyPost_ret (v:= .agg #[g4,.slice a4 fs c4]) (by simp [results,results199,go_sem,r1,r2]) rfl ?_
 have hle:=F.out.le
 refine ⟨g4,a4,c4,fs,rfl,HB.out,by omega,?_,?_⟩
 ·exact ((HR.out.setLow (by simp;omega) _).setLow (by simp;omega) _).down (by omega)
 ·exact (F2.out.bel.setCell (by simp;omega) _).setCell (by simp;omega) _
def ζt (x:Int):List Int->List Int->List Int
 | [],_=>[]
 |y::ys,[]=>(x*y)::ζt x ys []
 |y::ys,m::ms=>(x*y+m)::ζt x ys ms
theorem ξX (x:Int): ∀ys ms:List Int,(ζt x ys ms).length=ys.length
 | [],_=>rfl
 |y::ys,[]=>by simp only [ζt,List.length_cons,ξX x ys []]
 |y::ys,m::ms=>by simp only [ζt,List.length_cons,ξX x ys ms]
theorem φB (B x:Int): ∀ys ms:List Int,val B (ζt x ys ms)=x*val B ys+val B (ms.take ys.length)
 | [],_=>by simp [ζt,val]
 |y::ys,[]=>by
  have ih:=φB B x ys []
  simp only [ζt,val,ih,List.take_nil,Int.add_zero,Int.mul_add]
  rw [Int.mul_left_comm]
 |y::ys,m::ms=>by
  have ih:=φB B x ys ms
  simp only [ζt,val,ih,List.length_cons,List.take_succ_cons,Int.mul_add]
  rw [Int.mul_left_comm x B]
  omega
theorem ρT (x:Int) {ms:List Int} (h:j<ys.length):ζt x (ys.drop j) (ms.drop j)=(x*ys.getD j 0+ms.getD j 0)::ζt x (ys.drop (j+1)) (ms.drop (j+1)):=by
 rw [List.drop_eq_getElem_cons h]
 by_cases h2:j<ms.length
 ·rw [List.drop_eq_getElem_cons h2]
  simp [ζt,List.getD_eq_getElem?_getD,h,h2]
 ·rw [List.drop_eq_nil_of_le (show ms.length<=j by omega),List.drop_eq_nil_of_le (show ms.length<=j+1 by omega)]
  rw [List.getD_eq_getElem?_getD,List.getD_eq_getElem?_getD,List.getElem?_eq_none (show ms.length<=j by omega),List.getElem?_eq_getElem h]
  simp [ζt]
theorem χ6 {s:Int} {ms:List Int} (h:j<ys.length) (hs:s=x*ys.getD j 0+ms.getD j 0+c):
 ζi B (ζt x (ys.drop j) (ms.drop j)) c=s%B::ζi B (ζt x (ys.drop (j+1)) (ms.drop (j+1))) (s/B)∧ζp B (ζt x (ys.drop j) (ms.drop j)) c=ζp B (ζt x (ys.drop (j+1)) (ms.drop (j+1))) (s/B):=by
 rw [ρT x h,hs]
 exact ⟨rfl,rfl⟩
theorem ψZ {y:Int} (h0:0<=x) (h1:x<B) (h2:0<=y) (h3:y<B):0<=x*y∧x*y<=(B-1)*(B-1):=
 ⟨Int.mul_nonneg h0 h2,Int.mul_le_mul (by omega) (by omega) h2 (by omega)⟩
theorem ξY {s:Int} (hB:0<B) (h0:0<=s) (h1:s<=(B-1)*(B-1)+(B-1)+(B-1)):0<=s/B∧s/B<=B-1:=by
 refine ⟨Int.ediv_nonneg h0 (by omega),?_⟩
 have:s/B<B:=by
  refine Int.ediv_lt_of_lt_mul hB ?_
  have e:(B-1)*(B-1)=B*B-B-B+1:=by
   rw [Int.sub_mul,Int.mul_sub]
   omega
  omega
 omega
theorem κw (hl:i+ys.length<P.length) (hD:D=ζi B (ζt x ys (P.drop i)) 0) (hc:c=ζp B (ζt x ys (P.drop i)) 0) (h0:P.getD (i+ys.length) 0=0):
 val B (P.take i++((D++[c])++P.drop (i+ys.length+1)))=val B P+B^i*(x*val B ys):=by
 have hti:(P.take i).length=i:=by rw [List.length_take];omega
 have hDl:(D++[c]).length=ys.length+1:=by rw [hD,List.length_append,ζQ,ξX];rfl
 have e1:val B (D++[c])=x*val B ys+val B ((P.drop i).take ys.length):=by rw [hD,hc,ξV,φB];omega
 have e2:val B P=val B (P.take i)+B^i*(val B ((P.drop i).take ys.length)+B^ys.length*val B (P.drop (i+ys.length))):=by
  have a1:=ζI B (P.drop i) (P.take i)
  rw [List.take_append_drop,hti] at a1
  have a2:=ζI B ((P.drop i).drop ys.length) ((P.drop i).take ys.length)
  rw [List.take_append_drop] at a2
  have hl2:((P.drop i).take ys.length).length=ys.length:=by rw [List.length_take,List.length_drop];omega
  rw [hl2,List.drop_drop] at a2
  rw [a1,a2]
 have e3:val B (P.drop (i+ys.length))=B*val B (P.drop (i+ys.length+1)):=by
  rw [List.drop_eq_getElem_cons hl]
  have:P[i+ys.length]=0:=by simpa [List.getD_eq_getElem?_getD,hl] using h0
  rw [this]
  simp [val]
 rw [ζI,hti,ζI,hDl,e1,e2,e3,Int.pow_succ]
 simp only [Int.mul_add]
 rw [Int.mul_assoc (B^ys.length) B]
 omega
theorem ψ0 {zs:List Int} (h:i<zs.length):val B (zs.take (i+1))=val B (zs.take i)+B^i*zs.getD i 0:=by
 rw [List.take_succ_eq_append_getElem h,ζI]
 have hti:(zs.take i).length=i:=by rw [List.length_take];omega
 rw [hti]
 simp [val,List.getD_eq_getElem?_getD,h]
structure Prod (B:Int) (zs ys:List Int) (L i:Nat) (P:List Int):Prop where
 dig:Dig B P
 len:P.length=L
 eq:val B P=val B (zs.take i)*val B ys
 up: ∀j,i+ys.length<=j->P.getD j 0=0
theorem χJ (B:Int) (hB:0<B) (zs ys:List Int) (L:Nat):Prod B zs ys L 0 (List.replicate L 0):=by
 refine ⟨fun z hz=> ?_,by simp,?_,fun j _=> ?_⟩
 ·rw [List.eq_of_mem_replicate hz];exact ⟨Int.le_refl 0,hB⟩
 ·have: ∀n:Nat,val B (List.replicate n 0)=0:=by
   intro n
   induction n with
   |zero=>rfl
   |succ n ih=>simp [List.replicate_succ,val,ih]
  rw [this]
  simp [val]
 ·by_cases hj:j<L
  ·simp [List.getD_eq_getElem?_getD,hj]
  ·simp [List.getD_eq_getElem?_getD,hj]
theorem φ7 (hB:1<B) {zs:List Int} {L:Nat} (h:Prod B zs ys L i P) (hi:i<zs.length) (hL:i+ys.length<L) (hx:x=zs.getD i 0) (hD:D=ζi B (ζt x ys (P.drop i)) 0) (hc:c=ζp B (ζt x ys (P.drop i)) 0) (hc0:0<=c) (hc1:c<B):
 Prod B zs ys L (i+1) (P.take i++((D++[c])++P.drop (i+ys.length+1))):=by
 have hl:i+ys.length<P.length:=by rw [h.len];exact hL
 have hti:(P.take i).length=i:=by rw [List.length_take];omega
 have hDl:(D++[c]).length=ys.length+1:=by rw [hD,List.length_append,ζQ,ξX];rfl
 refine ⟨?_,?_,?_,?_⟩
 ·exact (h.dig.take i).append (((by rw [hD];exact ζ2 (by omega) _ _:Dig B D).append (Dig.cons hc0 hc1 (Dig.nil B))).append (h.dig.drop _))
 ·rw [List.length_append,List.length_append,hti,hDl,List.length_drop,h.len];omega
 ·rw [κw hl hD hc (h.up _ (Nat.le_refl _)),h.eq,ψ0 hi,Int.add_mul,hx,Int.mul_assoc]
 ·intro j hj
  rw [List.getD_eq_getElem?_getD,List.getElem?_append_right (by rw [hti];omega),List.getElem?_append_right (by rw [hti,hDl];omega),hti,hDl,List.getElem?_drop,<-List.getD_eq_getElem?_getD]
  exact h.up _ (by omega)
theorem θB {k:Nat} (hi:i+j<=k) (hD:D.length=j) (hP:i<=P.length):(P.take i++(D++P.drop (i+j))).getD k 0=P.getD k 0:=by
 have hti:(P.take i).length=i:=by rw [List.length_take];omega
 rw [List.getD_eq_getElem?_getD,List.getElem?_append_right (by omega),List.getElem?_append_right (by omega),hti,hD,List.getElem?_drop,List.getD_eq_getElem?_getD]
 congr 2
 omega
theorem χ7 {d:Int} (hD:D.length=j) (hP:i+j<P.length):(P.take i++(D++P.drop (i+j))).set (i+j) d=P.take i++((D++[d])++P.drop (i+j+1)):=by
 have hti:(P.take i).length=i:=by rw [List.length_take];omega
 have e:=List.drop_eq_getElem_cons hP
 rw [List.set_append_right _ _ (by omega),hti,show i+j-i=j by omega,List.set_append_right _ _ (by omega),hD,Nat.sub_self,e,List.set_cons_zero,List.append_assoc D [d]]
 rfl
theorem ζK (hD:D.length=j) (hP:i+j<=P.length):(P.take i++(D++P.drop (i+j))).length=P.length:=by
 rw [List.length_append,List.length_append,List.length_take,List.length_drop];omega
theorem ρU (a a':Option Addr) (p p':Nat) (zs ys:List Int) (w:World) (hn:zs.length<=100000) (hn':ys.length<=100000) (hz:ζk .u32 w a zs) (hy:ζk .u32 w a' ys) (hdz:Dig 4294967296 zs) (hdy:Dig 4294967296 ys):
 Calls prog 98 #[.slice a zs p,.slice a' ys p'] w fun e w'=>ξx w (val 4294967296 zs*val 4294967296 ys) (zs.length+ys.length) e w':=by
 have hmk:=run_make_row' (P:=prog) 152 22 (.int .u32 0) 4 underlying152 Tryz.info22 rfl .i64 .i64 (zs.length+ys.length) (by omega) (by omega)
 rw [show ((zs.length+ys.length:Nat):Int)=(zs.length:Int)+(ys.length:Int) by omega] at hmk
 go_enter func98,ntmps98
 go_wp2
 go_loopw [19] (fun t wr=> ∃(i:Nat) (P:List Int),i<=zs.length∧t= .int .i64 i∧Hid (Prod 4294967296 zs ys (zs.length+ys.length) i P)∧Own .u32 wr w 0 P∧Below w w wr) (fun t _=>zs.length-(intOf t).toNat)
 case atStart=>exact ⟨0,List.replicate (zs.length+ys.length) 0,Nat.zero_le _,rfl,χJ _ (by decide) _ _ _,Own.made w (zs.length+ys.length) _,ζc _ _⟩
 case round=>
  obtain ⟨i,P,hi,rfl,hP,hown,hnx⟩:=hrel
  by_cases hlt:i<zs.length
  ·have hb1:=hdz.at (by decide) i
   obtain ⟨b,off,rfl,g1⟩:=ζq hz hnx hlt
   obtain ⟨x,hx⟩: ∃x,x=zs.getD i 0:=⟨_,rfl⟩
   rw [<-hx] at hb1 g1
   obtain ⟨hb10,hb11⟩:=hb1
   have HX:Hid (x=zs.getD i 0):=hx
   have hPl:P.length=zs.length+ys.length:=hP.out.len
   have HPl:Hid (P.length=zs.length+ys.length):=hPl
   have HO:Hid (Own .u32 wr w 0 P):=hown
   have HN:Hid (Below w w wr):=hnx
   clear hx hPl hown hnx
   go_wp2
   go_loopw [8,26] (fun cc t wq=> ∃(j:Nat) (c:Int) (D:List Int),j<=ys.length∧D.length=j∧t= .int .i64 j∧cc= .int .u64 c∧0<=c∧c<=4294967295∧Hid (ζi 4294967296 (ζt x ys (P.drop i)) 0=D++ζi 4294967296 (ζt x (ys.drop j) ((P.drop i).drop j)) c)∧Hid (ζp 4294967296 (ζt x ys (P.drop i)) 0=ζp 4294967296 (ζt x (ys.drop j) ((P.drop i).drop j)) c)∧
    Own .u32 wq w 0 (P.take i++(D++P.drop (i+j)))∧Below w w wq) (fun _ t _=>ys.length-(intOf t).toNat)
   case atStart=>exact ⟨0,0,[],Nat.zero_le _,rfl,rfl,rfl,by decide,by decide,rfl,rfl,by simpa using HO.out,HN.out⟩
   case round=>
    obtain ⟨j,c,D,hj,hDl,rfl,rfl,hc0,hc1,hD,hO,hown,hnx⟩:=hrel
    by_cases hlt2:j<ys.length
    ·have hb2:=hdy.at (by decide) j
     obtain ⟨b',off',rfl,g2⟩:=ζq hy hnx hlt2
     obtain ⟨y,hyy⟩: ∃y,y=ys.getD j 0:=⟨_,rfl⟩
     rw [<-hyy] at hb2 g2
     obtain ⟨hb20,hb21⟩:=hb2
     have hij:i+j<P.length:=by rw [HPl.out];omega
     have hbm:=hP.out.dig.at (by decide) (i+j)
     have g3:=hown.cell (i+j) (by rw [ζK hDl (by omega)];exact hij)
     have g4:=hown.free (i+j) (by rw [ζK hDl (by omega)];exact hij)
     rw [Nat.zero_add] at g3 g4
     rw [θB (Nat.le_refl _) hDl (by omega)] at g3
     obtain ⟨m,hm⟩: ∃m,m=P.getD (i+j) 0:=⟨_,rfl⟩
     rw [<-hm] at hbm g3
     obtain ⟨hbm0,hbm1⟩:=hbm
     obtain ⟨hxy0,hxy1⟩:=ψZ hb10 hb11 hb20 hb21
     simp only [Int.reduceSub,Int.reduceMul] at hxy1
     have hcb:=ξY (B:=4294967296) (s:=c+(x*y+m)) (by decide) (by omega) (by simp only [Int.reduceSub,Int.reduceMul];omega)
     have hst:=χ6 (B:=4294967296) (x:=x) (c:=c) (s:=c+(x*y+m)) (ms:=P.drop i) hlt2 (by rw [<-hyy,List.getD_eq_getElem?_getD,List.getElem?_drop,<-List.getD_eq_getElem?_getD,<-hm];omega)
     have HD:Hid (ζi 4294967296 (ζt x ys (P.drop i)) 0=(D++[(c+(x*y+m))%4294967296])++ζi 4294967296 (ζt x (ys.drop (j+1)) ((P.drop i).drop (j+1))) ((c+(x*y+m))/4294967296)):=by unfold Hid;rw [hD.out,hst.1];simp
     have HQ:Hid (ζp 4294967296 (ζt x ys (P.drop i)) 0=ζp 4294967296 (ζt x (ys.drop (j+1)) ((P.drop i).drop (j+1))) ((c+(x*y+m))/4294967296)):=by unfold Hid;rw [hO.out,hst.2]
     have hs:=hown.set (i+j) ((c+(x*y+m))%4294967296) (by rw [ζK hDl (by omega)];exact hij)
     rw [Nat.zero_add,χ7 hDl hij] at hs
     have HS:Hid (Own .u32 (wr.setCell ⟨w,i+j,none⟩ (.int .u32 ((c+(x*y+m))%4294967296))) w 0 (P.take i++((D++[(c+(x*y+m))%4294967296])++P.drop (i+j+1)))):=hs
     have HB:Hid (Below w w (wr.setCell ⟨w,i+j,none⟩ (.int .u32 ((c+(x*y+m))%4294967296)))):=hnx.setCell (Nat.le_refl _) _
     obtain ⟨hcb0,hcb1⟩:=hcb
     have HCB:Hid (0<=(c+(x*y+m))/4294967296∧(c+(x*y+m))/4294967296<=4294967295):=⟨hcb0,by omega⟩
     have HJ:Hid (i+j<zs.length+ys.length):=by unfold Hid;omega
     have hji:(i:Int)+(j:Int)<(zs.length:Int)+(ys.length:Int):=by omega
     clear hcb0 hcb1 hst hs hyy hm hD hO hown hnx hij HN HO
     go_wp2
     go_roundw
     case rel=>exact ⟨j+1,(c+(x*y+m))/4294967296,D++[(c+(x*y+m))%4294967296],by omega,by simp;omega,by go_num,rfl,HCB.out.1,HCB.out.2,HD,HQ,HS.out,HB.out⟩
     case measure=>simp [intOf];omega
    ·have hjn:j=ys.length:=by omega
     subst hjn
     have hin:i+ys.length<P.length:=by rw [HPl.out];omega
     have hDD:D=ζi 4294967296 (ζt x ys (P.drop i)) 0:=by
      rw [hD.out,List.drop_eq_nil_of_le (Nat.le_refl _)];simp [ζt,ζi]
     have hCC:c=ζp 4294967296 (ζt x ys (P.drop i)) 0:=by
      rw [hO.out,List.drop_eq_nil_of_le (Nat.le_refl _)];simp [ζt,ζp]
     have HP2:Hid (Prod 4294967296 zs ys (zs.length+ys.length) (i+1) (P.take i++((D++[c])++P.drop (i+ys.length+1)))):=φ7 (by decide) hP.out hlt (by omega) HX.out hDD hCC hc0 (by omega)
     have g3:=hown.cell (i+ys.length) (by rw [ζK hDl (by omega)];exact hin)
     have g4:=hown.free (i+ys.length) (by rw [ζK hDl (by omega)];exact hin)
     rw [Nat.zero_add] at g3 g4
     have hs:=hown.set (i+ys.length) c (by rw [ζK hDl (by omega)];exact hin)
     rw [Nat.zero_add,χ7 hDl hin] at hs
     have HS:Hid (Own .u32 (wr.setCell ⟨w,i+ys.length,none⟩ c) w 0 (P.take i++((D++[c])++P.drop (i+ys.length+1)))):=hs
     have HB:Hid (Below w w (wr.setCell ⟨w,i+ys.length,none⟩ c)):=hnx.setCell (Nat.le_refl _) _
     have hji:(i:Int)+(ys.length:Int)<(zs.length:Int)+(ys.length:Int):=by omega
     clear hs hDD hCC hD hO hown hnx hin HN HO hP
     go_wp2
     go_roundw
     case rel=>exact ⟨i+1,P.take i++((D++[c])++P.drop (i+ys.length+1)),by omega,by go_num,HP2,HS.out,HB.out⟩
     case measure=>simp [intOf];omega
  ·have hin:i=zs.length:=by omega
   subst hin
   have hPl:P.length=zs.length+ys.length:=hP.out.len
   have hV:val 4294967296 P=val 4294967296 zs*val 4294967296 ys:=by rw [hP.out.eq,List.take_length]
   have HV:Hid (val 4294967296 P=val 4294967296 zs*val 4294967296 ys):=hV
   have HG:Hid (Dig 4294967296 P):=hP.out.dig
   have HL:Hid (P.length=zs.length+ys.length):=hPl
   have HS:Hid (Own .u32 wr w 0 P):=hown
   have HB:Hid (Below w w wr):=hnx
   clear hV hPl hP hown hnx hz hy hdz hdy
   go_wp2_with fail
   have e1:zs.length+ys.length=P.length:=HL.out.symm
   rw [e1]
   refine (ζZ _ _ P _ w (by omega) (by unfold maxLen;omega) (Nat.le_refl _) (fun h=>by cases h) (HS.out.new (Nat.le_refl _))).mono ?_
   rintro e w1 ⟨a2,c2,rfl,hf2,hm2,hr2,hw⟩
   subst hw
   have HM:Hid (ξx w (val 4294967296 zs*val 4294967296 ys) (zs.length+ys.length) (.returned (.slice a2 (trimL P).length c2)) w1):=by
    refine ⟨a2,c2,trimL P,rfl,hf2,hm2,ξb HG.out,by rw [ξk,HV.out],?_,hr2,HB.out⟩
    have:=ξL P
    omega
   clear hf2 hm2 hr2 HG HV HB HS e1
   go_wp2
   go_ret
   exact HM.out
theorem φ2 (g g':Bool) (u v:Int):sg (g !=g') (u*v)=sg g u*sg g' v:=by
 cases g<;>cases g'<;>simp [sg,Int.neg_mul,Int.mul_neg]
theorem ψ1 (g g':Bool) (a a':Option Addr) (c c':Nat) (zs ys:List Int) (x y:Int) (w:World) (hn:zs.length<=100000) (hn':ys.length<=100000) (hz:ζk .u32 w a zs) (hy:ζk .u32 w a' ys) (h:B1 g zs x) (h':B1 g' ys y):
 Calls prog 53 #[.agg #[g,.slice a zs c],.agg #[g',.slice a' ys c']] w fun e w'=>ψX w (x*y) (zs.length+ys.length+1) e w':=by
 have HX:Hid (sg (g !=g') (val 4294967296 zs*val 4294967296 ys)=x*y):=by
  unfold Hid
  rw [φ2,h.num,h'.num]
 have hdz:=h.can.1
 have hdy:=h'.can.1
 clear h h'
 go_enter func53,ntmps53
 go_wp2
 obtain ⟨W0,hW0⟩: ∃W0,W0=(((w.alloc (.cells #[g,.slice a zs c] 31)).alloc (.cells #[g',.slice a' ys c'] 31)).alloc (.cells #[false,()] 31)):=⟨_,rfl⟩
 rw [<-hW0]
 have F:Hid (ξU w g g' (.slice a zs c) (.slice a' ys c') () W0):=by rw [hW0];exact ξU.start w g g' _ _ _ _ _ _
 clear hW0
 go_region_held3 (fun w'=>w'.cell? ⟨w,0,none⟩=some ↑g∧w'.cell? ⟨w,1,none⟩=some (.slice a zs c)∧w'.cell? ⟨↑w+1,0,none⟩=some ↑g'∧w'.cell? ⟨↑w+1,1,none⟩=some (.slice a' ys c')∧Below (↑w+1+1) W0 w')
  (first|exact ζx F.out.s (Below.refl _ _).drew|exact ζx F.out.s (by assumption)|exact ζx F.out.s (Below.setCell (Below.setCell (by assumption) (by simp) _) (by simp) _))
  (first
   |(go_at_call 98;refine (ρU a a' c c' zs ys _ hn hn' (hz.later F.out.bel.drew) (hy.later F.out.bel.drew) hdz hdy).mono ?_;rintro e w1 ⟨a2,c2,fs,rfl,hf2,hm2,hcan,hval,hlen,hrn1,hb1⟩;have hB1:Below W0 W0 w1:=(Below.refl _ _).drew.trans hb1;have hB1':Below (↑w+1+1) W0 w1:=hB1.mono (by have:=F.out.le;omega))
   |(go_at_call 92;refine (ζT _ a2 fs.length c2 _).mono ?_;rintro e w2 ⟨rfl,hb2⟩;have hB2:Below W0 W0 w2:=hB1.trans (hb2.mono hB1.size);have hB2':Below (↑w+1+1) W0 w2:=hB2.mono (by have:=F.out.le;omega);have hrn2:ζl .u32 w2 W0 a2 fs:=ζl.later hrn1 hb2;have F2:Hid (ξU w g g' (.slice a zs c) (.slice a' ys c') () w2):=F.out.later hB2;have r1:=F2.out.r1;have r2:=F2.out.r2;have r3:=F2.out.r3))
 have HR:Hid (ζl .u32 w2 W0 a2 fs):=hrn2
 have HB:Hid (B1 (!(g==g') && decide (0<fs.length)) fs (x*y)):=by unfold Hid;rw [<-HX.out];exact B1.of_signed (g:=(g !=g')) hcan hval
 clear hrn1 hrn2 hB1 hB1' hB2 hB2' hb1 hb2 hcan hval
 generalize (!(g==g') && decide (0<fs.length))=g2 at*
 go_wp2
 refine bodyPost_ret (v:= .agg #[g2,.slice a2 fs c2]) (by simp [results,results53,go_sem,r1,r2]) rfl ?_
 have hle:=F.out.le
 refine ⟨g2,a2,c2,fs,rfl,HB.out,by omega,?_,?_⟩
 ·exact ((HR.out.setLow (by simp;omega) _).setLow (by simp;omega) _).down (by omega)
 ·exact (F2.out.bel.setCell (by simp;omega) _).setCell (by simp;omega) _
end Go.Proofs.YtfieffpobgcpmaaGreatDoor
