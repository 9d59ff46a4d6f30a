import Derived.Test.YtfieffpobgcpmaaGreatDoorBoxToNumSS
import Derived.Deep.RegionHeld3
import Derived.Test.YtfieffpobgcpmaaGreatDoorNumZToSpecOS
set_option maxRecDepth 100000
set_option maxHeartbeats 32000000
namespace Go.Proofs.YtfieffpobgcpmaaGreatDoor
open Go.RowKit Go.Proofs.Tryz
variable {w W W':World}
theorem χF (a a':Option Addr) (p p':Nat) (zs ys:List Int) (w:World) (hn:zs.length<=700001) (_hn':ys.length<=700001) (hz:ζk .i64 w a zs) (hy:ζk .i64 w a' ys) (hdz:Dig 65536 zs) (hdy:Dig 65536 ys):
 Calls prog 120 #[.slice a zs p,.slice a' ys p'] w fun e w'=> ∃a2 c2,e= .returned (.slice a2 (ζi 65536 (ζn zs ys) 0).length c2)∧c2<=maxLen∧Sl .i64 w' a2 c2 (ζi 65536 (ζn zs ys) 0)∧ζl .i64 w' w a2 (ζi 65536 (ζn zs ys) 0)∧Below w w w':=by
 go_enter func120,ntmps120
 go_wp2
 go_loopw [5,6,7,8] (fun v cc i _ wr=> ∃(k:Nat) (c:Int) (out:List Int),cc= .int .i64 c∧i= .int .i64 k∧0<=c∧c<=1∧k<=zs.length∧out.length=k∧Hid (ζi 65536 (ζn zs ys) 0=out++ζi 65536 (ζn (zs.drop k) (ys.drop k)) (-c))∧
  wr.ownsRow w 3 1 v out.length (φc .i64 out)∧Below w w wr) (fun _ _ i _ _=>zs.length-(intOf i).toNat)
 case atStart=>exact ⟨0,0,[],rfl,rfl,by decide,by decide,Nat.zero_le _,rfl,rfl,ψF _ _ _ _,Below.refl _ _⟩
 case round=>
  obtain ⟨k,c,out,rfl,rfl,hc0,hc1,hk,hol,hrest,hown,hnx⟩:=hrel
  have hsz:=hnx.size
  have hb1:=hdz.at (by decide) k
  have hb2:=hdy.at (by decide) k
  have hlo:out.length<=1400003:=by omega
  by_cases h1:k<zs.length
  ·obtain ⟨b,off,rfl,g1⟩:=ζq hz hnx h1
   obtain ⟨x,hx⟩: ∃x,x=zs.getD k 0:=⟨_,rfl⟩
   obtain ⟨y,hyy⟩: ∃y,y=ys.getD k 0:=⟨_,rfl⟩
   rw [<-hx] at hb1 g1
   rw [<-hyy] at hb2
   obtain ⟨hb10,hb11⟩:=hb1
   obtain ⟨hb20,hb21⟩:=hb2
   by_cases h2:k<ys.length
   ·obtain ⟨b',off',rfl,g2⟩:=ζq hy hnx h2
    rw [<-hyy] at g2
    by_cases hv:x-c-y<0
    ·have hst:=ξE (B:=65536) (xs:=zs) (ys:=ys) (s:=x-c-y) (c:= -c) h1 (by rw [<-hx,<-hyy];omega)
     rw [show (x-c-y)%65536=x-c-y+65536 by omega,show (x-c-y)/65536= -1 by omega] at hst
     have HS:Hid (ζi 65536 (ζn zs ys) 0=(out++[x-c-y+65536])++ζi 65536 (ζn (zs.drop (k+1)) (ys.drop (k+1))) (-1)):=by unfold Hid;rw [hrest.out,hst];simp
     clear hst hx hyy hrest hz hy hdz hdy
     go_wp2_with (at_builtin;refine ωF rfl (.tmp 35) (.tmp 37) 66 rfl w 3 underlying66 Tryz.info3 (by decide) _ _ rfl rfl hown (by omega) hsz ?_;intro a1 n1 c1 w1 hown1 hb1 hs1)
     have hnx2:=hnx.trans hb1
     go_roundw
     case rel=>exact ⟨k+1,1,out++[x-c-y+65536],rfl,by go_num,by decide,by decide,by omega,by simp;omega,HS,hown1,hnx2⟩
     case measure=>simp [intOf];omega
    ·have hst:=ξE (B:=65536) (xs:=zs) (ys:=ys) (s:=x-c-y) (c:= -c) h1 (by rw [<-hx,<-hyy];omega)
     rw [show (x-c-y)%65536=x-c-y by omega,show (x-c-y)/65536= -0 by omega] at hst
     have HS:Hid (ζi 65536 (ζn zs ys) 0=(out++[x-c-y])++ζi 65536 (ζn (zs.drop (k+1)) (ys.drop (k+1))) (-0)):=by unfold Hid;rw [hrest.out,hst];simp
     clear hst hx hyy hrest hz hy hdz hdy
     go_wp2_with (at_builtin;refine ωF rfl (.tmp 35) (.tmp 37) 66 rfl w 3 underlying66 Tryz.info3 (by decide) _ _ rfl rfl hown (by omega) hsz ?_;intro a1 n1 c1 w1 hown1 hb1 hs1)
     have hnx2:=hnx.trans hb1
     go_roundw
     case rel=>exact ⟨k+1,0,out++[x-c-y],rfl,by go_num,by decide,by decide,by omega,by simp;omega,HS,hown1,hnx2⟩
     case measure=>simp [intOf];omega
   ·have hy0:y=0:=by rw [hyy];exact ξn h2
    by_cases hv:x-c<0
    ·have hst:=ξE (B:=65536) (xs:=zs) (ys:=ys) (s:=x-c) (c:= -c) h1 (by rw [<-hx,<-hyy];omega)
     rw [show (x-c)%65536=x-c+65536 by omega,show (x-c)/65536= -1 by omega] at hst
     have HS:Hid (ζi 65536 (ζn zs ys) 0=(out++[x-c+65536])++ζi 65536 (ζn (zs.drop (k+1)) (ys.drop (k+1))) (-1)):=by unfold Hid;rw [hrest.out,hst];simp
     clear hst hx hyy hrest hz hy hdz hdy hy0
     go_wp2_with (at_builtin;refine ωF rfl (.tmp 35) (.tmp 37) 66 rfl w 3 underlying66 Tryz.info3 (by decide) _ _ rfl rfl hown (by omega) hsz ?_;intro a1 n1 c1 w1 hown1 hb1 hs1)
     have hnx2:=hnx.trans hb1
     go_roundw
     case rel=>exact ⟨k+1,1,out++[x-c+65536],rfl,by go_num,by decide,by decide,by omega,by simp;omega,HS,hown1,hnx2⟩
     case measure=>simp [intOf];omega
    ·have hst:=ξE (B:=65536) (xs:=zs) (ys:=ys) (s:=x-c) (c:= -c) h1 (by rw [<-hx,<-hyy];omega)
     rw [show (x-c)%65536=x-c by omega,show (x-c)/65536= -0 by omega] at hst
     have HS:Hid (ζi 65536 (ζn zs ys) 0=(out++[x-c])++ζi 65536 (ζn (zs.drop (k+1)) (ys.drop (k+1))) (-0)):=by unfold Hid;rw [hrest.out,hst];simp
     clear hst hx hyy hrest hz hy hdz hdy hy0
     go_wp2_with (at_builtin;refine ωF rfl (.tmp 35) (.tmp 37) 66 rfl w 3 underlying66 Tryz.info3 (by decide) _ _ rfl rfl hown (by omega) hsz ?_;intro a1 n1 c1 w1 hown1 hb1 hs1)
     have hnx2:=hnx.trans hb1
     go_roundw
     case rel=>exact ⟨k+1,0,out++[x-c],rfl,by go_num,by decide,by decide,by omega,by simp;omega,HS,hown1,hnx2⟩
     case measure=>simp [intOf];omega
  ·have hkn:k=zs.length:=by omega
   subst hkn
   have hfin:ζi 65536 (ζn zs ys) 0=out:=by
    rw [hrest.out,List.drop_eq_nil_of_le (Nat.le_refl _)];simp [ζn,ζi]
   have HF:Hid (ζi 65536 (ζn zs ys) 0=out):=hfin
   obtain ⟨a2,c2,rfl,hcm,hsl,hrn⟩:=ψa hown
   clear hfin hown hrest hb1 hb2 hdz hdy hz hy hol
   go_wp2
   go_ret
   rw [HF.out]
   exact ⟨a2,c2,rfl,hcm,hsl,hrn,hnx⟩
theorem sg_not (g:Bool) (n:Int):sg (!g) n= -sg g n:=by cases g<;>simp [sg]
def AddS (w:World) (g g':Bool) (v v':Value) (w0 w1:World):Prop:=
 w1.cell? ⟨w,0,none⟩=some ↑g∧w1.cell? ⟨w,1,none⟩=some v∧w1.cell? ⟨↑w+1,0,none⟩=some ↑g'∧w1.cell? ⟨↑w+1,1,none⟩=some v'∧Below (↑w+1+1) w0 w1
theorem ζx {w0 w1:World} {g g':Bool} {v v':Value} (h:AddS w g g' v v' w0 w0) (hb:Below (↑w+1+1) w0 w1):w1.cell? ⟨w,0,none⟩=some ↑g∧w1.cell? ⟨w,1,none⟩=some v∧w1.cell? ⟨↑w+1,0,none⟩=some ↑g'∧w1.cell? ⟨↑w+1,1,none⟩=some v'∧Below (↑w+1+1) w0 w1:=
 ⟨(hb.cell (by simp;omega)).trans h.1,(hb.cell (by simp;omega)).trans h.2.1,(hb.cell (by simp)).trans h.2.2.1,(hb.cell (by simp)).trans h.2.2.2.1,hb⟩
theorem addF (w:World) (g g':Bool) (v v' z:Value) (t t' t2:TypeId) (W0:World) (hW:W0=((w.alloc (.cells #[g,v] t)).alloc (.cells #[g',v'] t')).alloc (.cells #[false,z] t2)):
 AddS w g g' v v' W0 W0∧W0.cell? ⟨↑w+1+1,0,none⟩=some ↑false∧W0.cell? ⟨↑w+1+1,1,none⟩=some z∧(∀j,W0.frozen? ⟨↑w+1+1,j,none⟩=false)∧W0.heap.size=w.heap.size+1+1+1∧Below w w W0:=by
 subst hW
 refine ⟨⟨?_,?_,?_,?_,Below.refl _ _⟩,?_,?_,?_,?_,νz _ _ _ _⟩
 all_goals simp [go_sem]
theorem κf (g:Bool) (a a':Option Addr) (c c':Nat) (ds es:List Int) (x y:Int) (w:World) (hn:ds.length<=700000) (hn':es.length<=700000) (h:L1 w g a c ds x) (h':L1 w g a' c' es y):
 Calls prog 76 #[.agg #[g,.slice a ds c],.agg #[g,.slice a' es c']] w fun e w'=> ∃g2 a2 c2 fs,e= .returned (.agg #[.bool g2,.slice a2 fs.length c2])∧fs.length<=ds.length+es.length+1∧L1 w' g2 a2 c2 fs (x+y)∧Far w a2 fs∧Below w w w':=by
 have HX:Hid (sg g (val 65536 (ζr 65536 (ζw ds es) 0))=x+y):=by
  unfold Hid
  rw [φM,χW,h.num,h'.num]
  cases g<;>simp [sg]
  omega
 have hlen:(ζr 65536 (ζw ds es) 0).length<=ds.length+es.length+1:=by
  have h1:=φs (B:=65536) (ζw ds es) 0
  have h2:=φP ds es
  omega
 have hgg:(g==g)=true:=by simp
 go_enter func76,ntmps76
 go_wp2
 obtain ⟨W0,hW0⟩: ∃W0,W0=(((w.alloc (.cells #[g,.slice a ds c] 72)).alloc (.cells #[g,.slice a' es c'] 72)).alloc (.cells #[false,()] 72)):=⟨_,rfl⟩
 rw [<-hW0]
 have F:Hid (AddS w g g (.slice a ds c) (.slice a' es c') W0 W0∧W0.cell? ⟨↑w+1+1,0,none⟩=some ↑false∧W0.cell? ⟨↑w+1+1,1,none⟩=some ↑()∧(∀j,W0.frozen? ⟨↑w+1+1,j,none⟩=false)∧W0.heap.size=w.heap.size+1+1+1∧Below w w W0):=addF w g g _ _ _ _ _ _ W0 hW0
 clear hW0
 have KB:Hid (Below w w W0):=F.out.2.2.2.2.2
 have KS:Hid (W0.heap.size=w.heap.size+1+1+1):=F.out.2.2.2.2.1
 go_region_held3 (fun w'=>w'.cell? ⟨w,0,none⟩=some ↑g∧w'.cell? ⟨w,1,none⟩=some (.slice a ds c)∧w'.cell? ⟨↑w+1,0,none⟩=some ↑g∧w'.cell? ⟨↑w+1,1,none⟩=some (.slice a' es c')∧Below (↑w+1+1) W0 w')
  (first|exact ζx F.out.1 (Below.refl _ _).drew|exact ζx F.out.1 (by assumption)|exact ζx F.out.1 (Below.setCell (Below.setCell (by assumption) (by simp) _) (by simp) _))
  (first
   |(go_at_call 119;refine (ηO a a' c c' ds es _ (by omega) (by omega) (h.sl.row.later KB.out.drew) (h'.sl.row.later KB.out.drew) h.can.1 h'.can.1).mono ?_;rintro e w1 ⟨a2,c2,rfl,hcm,hsl1,hrn1,hb1⟩;have hB1:Below W0 W0 w1:=(Below.refl _ _).drew.trans hb1;have hB1':Below (↑w+1+1) W0 w1:=hB1.mono (by rw [KS.out];omega))
   |(go_at_call 68;refine (ξF g a2 c2 _ _ (by omega) hcm hsl1 (τL (by decide) h.can.1 h'.can.1)).mono ?_;rintro e w2 ⟨g2,fs,rfl,hfl,hL2,hb2⟩;have hB2:Below W0 W0 w2:=hB1.trans (hb2.mono hB1.size);have hB2':Below (↑w+1+1) W0 w2:=hB2.mono (by rw [KS.out];omega);have r1:w2.cell? ⟨↑w+1+1,0,none⟩=some ↑false:=(hB2.cell (by simp [KS.out])).trans F.out.2.1;have r2:w2.cell? ⟨↑w+1+1,1,none⟩=some ↑():=(hB2.cell (by simp [KS.out])).trans F.out.2.2.1;have r3: ∀j,w2.frozen? ⟨↑w+1+1,j,none⟩=false:=fun j=>(hB2.frozen (by simp [KS.out])).trans (F.out.2.2.2.1 j)))
 have HR:Hid (ζl .i64 w1 W0 a2 (ζr 65536 (ζw ds es) 0)):=hrn1
 have HL:Hid (L1 w2 g2 a2 c2 fs (sg g (val 65536 (ζr 65536 (ζw ds es) 0)))):=hL2
 have HB:Hid (Below w w w2):=KB.out.trans (hB2.mono (by rw [KS.out];omega))
 clear hrn1 hL2 hB1 hB1' hB2 hB2' hb1 hb2 hsl1
 go_wp2
 refine bodyPost_ret (v:= .agg #[g2,.slice a2 fs c2]) (by simp [results,results76,go_sem,r1,r2]) rfl ⟨g2,a2,c2,fs,rfl,by omega,?_,HR.out.far hfl (by rw [KS.out];omega),?_⟩
 ·rw [<-HX.out]
  exact (HL.out.setLow HR.out hfl (by simp [KS.out]) _).setLow HR.out hfl (by simp [KS.out]) _
 ·exact (HB.out.setCell (by simp;omega) _).setCell (by simp;omega) _
structure ξU (w:World) (g g':Bool) (v v' z:Value) (W:World):Prop where
 s:AddS w g g' v v' W W
 r1:W.cell? ⟨↑w+1+1,0,none⟩=some ↑false
 r2:W.cell? ⟨↑w+1+1,1,none⟩=some z
 r3: ∀j,W.frozen? ⟨↑w+1+1,j,none⟩=false
 le:w.heap.size+1+1+1<=W.heap.size
 bel:Below w w W
theorem ξU.start (w:World) (g g':Bool) (v v' z:Value) (t t' t2:TypeId):ξU w g g' v v' z (((w.alloc (.cells #[g,v] t)).alloc (.cells #[g',v'] t')).alloc (.cells #[false,z] t2)):=by
 obtain ⟨h1,h2,h3,h4,h5,h6⟩:=addF w g g' v v' z t t' t2 _ rfl
 exact ⟨h1,h2,h3,h4,by omega,h6⟩
theorem ξU.later {g g':Bool} {v v' z:Value} (h:ξU w g g' v v' z W) (hb:Below W W W'):ξU w g g' v v' z W':=by
 have hle:=h.le
 obtain ⟨a1,a2,a3,a4,_⟩:=ζx h.s (hb.mono (by omega))
 exact ⟨⟨a1,a2,a3,a4,Below.refl _ _⟩,(hb.cell (by simp;omega)).trans h.r1,(hb.cell (by simp;omega)).trans h.r2,fun j=>(hb.frozen (by simp;omega)).trans (h.r3 j),Nat.le_trans h.le hb.size,h.bel.trans (hb.mono (by omega))⟩
theorem ρC {B:Int} (hB:0<B) {xs ys:List Int} (hx:ζv B xs) (hy:ζv B ys) (h:0<=ξ4 xs ys):ys.length<=xs.length∧val B ys<=val B xs:=by
 have hc:=ψR hB hx hy
 constructor
 ·by_cases hl:xs.length<ys.length
  ·unfold ξ4 at h
   rw [if_neg (by omega),if_pos hl] at h
   omega
  ·omega
 ·rcases sgn_cases (val B xs-val B ys) with ⟨h1,h2⟩| ⟨h1,h2⟩| ⟨h1,h2⟩
  ·omega
  ·omega
  ·omega
theorem ρD {B:Int} (hB:0<B) {xs ys:List Int} (hx:ζv B xs) (hy:ζv B ys) (h:ξ4 xs ys<0):xs.length<=ys.length∧val B xs<=val B ys:=by
 have hc:=ψR hB hx hy
 constructor
 ·by_cases hl:ys.length<xs.length
  ·unfold ξ4 at h
   rw [if_neg (by omega),if_neg (by omega)] at h
   omega
  ·omega
 ·rcases sgn_cases (val B xs-val B ys) with ⟨h1,h2⟩| ⟨h1,h2⟩| ⟨h1,h2⟩
  ·omega
  ·omega
  ·omega
theorem νJ (g g':Bool) (hg:g'= !g) (a a':Option Addr) (c c':Nat) (ds es:List Int) (x y:Int) (w:World) (hn:ds.length<=700000) (hn':es.length<=700000) (h:L1 w g a c ds x) (h':L1 w g' a' c' es y) (hcmp:0<=ξ4 ds es):
 Calls prog 76 #[.agg #[g,.slice a ds c],.agg #[g',.slice a' es c']] w fun e w'=> ∃g2 a2 c2 fs,e= .returned (.agg #[.bool g2,.slice a2 fs.length c2])∧fs.length<=ds.length+es.length+1∧L1 w' g2 a2 c2 fs (x+y)∧Far w a2 fs∧Below w w w':=by
 have HX:Hid (sg g (val 65536 (ζi 65536 (ζn ds es) 0))=x+y):=by
  unfold Hid
  obtain ⟨hl,hv⟩:=ρC (B:=65536) (by decide) h.can h'.can hcmp
  rw [θs (by decide) h.can.1 h'.can.1 hl hv,h.num,h'.num,hg]
  cases g<;>simp [sg]<;>omega
 have hlen:(ζi 65536 (ζn ds es) 0).length<=ds.length:=by rw [ζQ,ξ9];omega
 have hgg:(g==g')=false:=by rw [hg];cases g<;>rfl
 obtain ⟨cv,hcv⟩: ∃cv,cv=ξ4 ds es:=⟨_,rfl⟩
 have hcmp':0<=cv:=by omega
 have HC:Hid (cv=ξ4 ds es):=hcv
 clear hcv hcmp hg
 go_enter func76,ntmps76
 go_wp2_with fail
 refine (χC a a' c c' ds es _ (by omega) (by omega) (h.sl.row.later (νz _ _ _ _)) (h'.sl.row.later (νz _ _ _ _))).mono ?_
 rintro e W0 ⟨rfl,hb0⟩
 rw [<-HC.out]
 have F:Hid (ξU w g g' (.slice a ds c) (.slice a' es c') () W0):=(ξU.start w g g' _ _ _ _ _ _).later hb0
 clear hb0
 go_wp2
 go_region_held3 (fun w'=>w'.cell? ⟨w,0,none⟩=some ↑g∧w'.cell? ⟨w,1,none⟩=some (.slice a ds c)∧w'.cell? ⟨↑w+1,0,none⟩=some ↑g'∧w'.cell? ⟨↑w+1,1,none⟩=some (.slice a' es c')∧Below (↑w+1+1) W0 w')
  (first|exact ζx F.out.s (Below.refl _ _).drew|exact ζx F.out.s (by assumption)|exact ζx F.out.s (Below.setCell (Below.setCell (by assumption) (by simp) _) (by simp) _))
  (first
   |(go_at_call 120;refine (χF a a' c c' ds es _ (by omega) (by omega) (h.sl.row.later F.out.bel.drew) (h'.sl.row.later F.out.bel.drew) h.can.1 h'.can.1).mono ?_;rintro e w1 ⟨a2,c2,rfl,hcm,hsl1,hrn1,hb1⟩;have hB1:Below W0 W0 w1:=(Below.refl _ _).drew.trans hb1;have hB1':Below (↑w+1+1) W0 w1:=hB1.mono (by have:=F.out.le;omega))
   |(go_at_call 68;refine (ξF g a2 c2 _ _ (by omega) hcm hsl1 (ζ2 (by decide) _ _)).mono ?_;rintro e w2 ⟨g2,fs,rfl,hfl,hL2,hb2⟩;have hB2:Below W0 W0 w2:=hB1.trans (hb2.mono hB1.size);have hB2':Below (↑w+1+1) W0 w2:=hB2.mono (by have:=F.out.le;omega);have F2:Hid (ξU w g g' (.slice a ds c) (.slice a' es c') () w2):=F.out.later hB2;have r1:=F2.out.r1;have r2:=F2.out.r2;have r3:=F2.out.r3))
 have HR:Hid (ζl .i64 w1 W0 a2 (ζi 65536 (ζn ds es) 0)):=hrn1
 have HL:Hid (L1 w2 g2 a2 c2 fs (sg g (val 65536 (ζi 65536 (ζn ds es) 0)))):=hL2
 clear hrn1 hL2 hB1 hB1' hB2 hB2' hb1 hb2 hsl1
 go_wp2
 refine bodyPost_ret (v:= .agg #[g2,.slice a2 fs c2]) (by simp [results,results76,go_sem,r1,r2]) rfl ⟨g2,a2,c2,fs,rfl,by omega,?_,HR.out.far hfl (by have:=F.out.le;omega),?_⟩
 ·rw [<-HX.out]
  have hle:=F.out.le
  exact (HL.out.setLow HR.out hfl (by simp;omega) _).setLow HR.out hfl (by simp;omega) _
 ·exact (F2.out.bel.setCell (by simp;omega) _).setCell (by simp;omega) _
theorem νK (g g':Bool) (hg:g'= !g) (a a':Option Addr) (c c':Nat) (ds es:List Int) (x y:Int) (w:World) (hn:ds.length<=700000) (hn':es.length<=700000) (h:L1 w g a c ds x) (h':L1 w g' a' c' es y) (hcmp:ξ4 ds es<0):
 Calls prog 76 #[.agg #[g,.slice a ds c],.agg #[g',.slice a' es c']] w fun e w'=> ∃g2 a2 c2 fs,e= .returned (.agg #[.bool g2,.slice a2 fs.length c2])∧fs.length<=ds.length+es.length+1∧L1 w' g2 a2 c2 fs (x+y)∧Far w a2 fs∧Below w w w':=by
 have HX:Hid (sg g' (val 65536 (ζi 65536 (ζn es ds) 0))=x+y):=by
  unfold Hid
  obtain ⟨hl,hv⟩:=ρD (B:=65536) (by decide) h.can h'.can hcmp
  rw [θs (by decide) h'.can.1 h.can.1 hl hv,h.num,h'.num,hg]
  cases g<;>simp [sg]<;>omega
 have hlen:(ζi 65536 (ζn es ds) 0).length<=es.length:=by rw [ζQ,ξ9];omega
 have hgg:(g==g')=false:=by rw [hg];cases g<;>rfl
 obtain ⟨cv,hcv⟩: ∃cv,cv=ξ4 ds es:=⟨_,rfl⟩
 have hcmp':cv<0:=by omega
 have HC:Hid (cv=ξ4 ds es):=hcv
 clear hcv hcmp hg
 go_enter func76,ntmps76
 go_wp2_with fail
 refine (χC a a' c c' ds es _ (by omega) (by omega) (h.sl.row.later (νz _ _ _ _)) (h'.sl.row.later (νz _ _ _ _))).mono ?_
 rintro e W0 ⟨rfl,hb0⟩
 rw [<-HC.out]
 have F:Hid (ξU w g g' (.slice a ds c) (.slice a' es c') () W0):=(ξU.start w g g' _ _ _ _ _ _).later hb0
 clear hb0
 go_wp2
 go_region_held3 (fun w'=>w'.cell? ⟨w,0,none⟩=some ↑g∧w'.cell? ⟨w,1,none⟩=some (.slice a ds c)∧w'.cell? ⟨↑w+1,0,none⟩=some ↑g'∧w'.cell? ⟨↑w+1,1,none⟩=some (.slice a' es c')∧Below (↑w+1+1) W0 w')
  (first|exact ζx F.out.s (Below.refl _ _).drew|exact ζx F.out.s (by assumption)|exact ζx F.out.s (Below.setCell (Below.setCell (by assumption) (by simp) _) (by simp) _))
  (first
   |(go_at_call 120;refine (χF a' a c' c es ds _ (by omega) (by omega) (h'.sl.row.later F.out.bel.drew) (h.sl.row.later F.out.bel.drew) h'.can.1 h.can.1).mono ?_;rintro e w1 ⟨a2,c2,rfl,hcm,hsl1,hrn1,hb1⟩;have hB1:Below W0 W0 w1:=(Below.refl _ _).drew.trans hb1;have hB1':Below (↑w+1+1) W0 w1:=hB1.mono (by have:=F.out.le;omega))
   |(go_at_call 68;refine (ξF g' a2 c2 _ _ (by omega) hcm hsl1 (ζ2 (by decide) _ _)).mono ?_;rintro e w2 ⟨g2,fs,rfl,hfl,hL2,hb2⟩;have hB2:Below W0 W0 w2:=hB1.trans (hb2.mono hB1.size);have hB2':Below (↑w+1+1) W0 w2:=hB2.mono (by have:=F.out.le;omega);have F2:Hid (ξU w g g' (.slice a ds c) (.slice a' es c') () w2):=F.out.later hB2;have r1:=F2.out.r1;have r2:=F2.out.r2;have r3:=F2.out.r3))
 have HR:Hid (ζl .i64 w1 W0 a2 (ζi 65536 (ζn es ds) 0)):=hrn1
 have HL:Hid (L1 w2 g2 a2 c2 fs (sg g' (val 65536 (ζi 65536 (ζn es ds) 0)))):=hL2
 clear hrn1 hL2 hB1 hB1' hB2 hB2' hb1 hb2 hsl1
 go_wp2
 refine bodyPost_ret (v:= .agg #[g2,.slice a2 fs c2]) (by simp [results,results76,go_sem,r1,r2]) rfl ⟨g2,a2,c2,fs,rfl,by omega,?_,HR.out.far hfl (by have:=F.out.le;omega),?_⟩
 ·rw [<-HX.out]
  have hle:=F.out.le
  exact (HL.out.setLow HR.out hfl (by simp;omega) _).setLow HR.out hfl (by simp;omega) _
 ·exact (F2.out.bel.setCell (by simp;omega) _).setCell (by simp;omega) _
theorem χY (g g':Bool) (a a':Option Addr) (c c':Nat) (ds es:List Int) (x y:Int) (w:World) (hn:ds.length<=700000) (hn':es.length<=700000) (h:L1 w g a c ds x) (h':L1 w g' a' c' es y):
 Calls prog 76 #[.agg #[g,.slice a ds c],.agg #[g',.slice a' es c']] w fun e w'=> ∃g2 a2 c2 fs,e= .returned (.agg #[.bool g2,.slice a2 fs.length c2])∧fs.length<=ds.length+es.length+1∧L1 w' g2 a2 c2 fs (x+y)∧Far w a2 fs∧Below w w w':=by
 by_cases hg:g=g'
 ·subst hg
  exact κf g a a' c c' ds es x y w hn hn' h h'
 ·have hg':g'= !g:=by cases g<;>cases g'<;>simp_all
  by_cases hc:0<=ξ4 ds es
  ·exact νJ g g' hg' a a' c c' ds es x y w hn hn' h h' hc
  ·exact νK g g' hg' a a' c c' ds es x y w hn hn' h h' (by omega)
structure Bx3 (w:World) (u v e:Value) (W:World):Prop where
 q0:W.cell? ⟨w,0,none⟩=some u
 q1:W.cell? ⟨w,1,none⟩=some v
 q2:W.cell? ⟨w,2,none⟩=some e
 r1:W.cell? ⟨↑w+1,0,none⟩=some ↑false
 r2:W.cell? ⟨↑w+1,1,none⟩=some ↑()
 r3:W.cell? ⟨↑w+1,2,none⟩=some (.int .i64 0)
 r4: ∀j,W.frozen? ⟨↑w+1,j,none⟩=false
 le:w.heap.size+1+1<=W.heap.size
 bel:Below w w W
theorem Bx3.start (w:World) (u v e:Value) (t t':TypeId):Bx3 w u v e ((w.alloc (.cells #[u,v,e] t)).alloc (.cells #[false,(),.int .i64 0] t')):=by
 refine ⟨?_,?_,?_,?_,?_,?_,?_,?_,ξr _ _ _⟩
 all_goals simp [go_sem]
theorem Bx3.later {u v e:Value} (h:Bx3 w u v e W) (hb:Below W W W'):Bx3 w u v e W':=by
 have hl:=h.le
 exact ⟨(hb.cell (by simp;omega)).trans h.q0,(hb.cell (by simp;omega)).trans h.q1,(hb.cell (by simp;omega)).trans h.q2,(hb.cell (by simp;omega)).trans h.r1,(hb.cell (by simp;omega)).trans h.r2,(hb.cell (by simp;omega)).trans h.r3,fun j=>(hb.frozen (by simp;omega)).trans (h.r4 j),Nat.le_trans h.le hb.size,h.bel.trans (hb.mono (by omega))⟩
def ρE (w:World) (n:Nat) (m e':Int) (e:Ending) (w':World):Prop:=
 ∃(g:Bool) (a:Option Addr) (c:Nat) (fs:List Int),e= .returned (.agg #[g,.slice a fs c,.int .i64 e'])∧fs.length<=n∧L1 w' g a c fs m∧Far w a fs∧Below w w w'
def ξo (x e0 m e':Int) (T:Nat):Prop:=(x=0∧m=0∧e'=0)∨(x≠0∧ ∃t:Nat,x=m*2^t∧e'=e0+t∧m%2=1∧t<=T)
def ρF (w:World) (n:Nat) (x e0:Int) (T:Nat) (e:Ending) (w':World):Prop:= ∃m e',ξo x e0 m e' T∧ρE w n m e' e w'
theorem L1.nil (w:World):L1 w false none 0 [] 0:=⟨⟨by simp,fun _=>rfl,.inl rfl⟩,⟨Dig.nil _,rfl⟩,by simp [sg,val],(fun h=>by cases h),by unfold maxLen;omega⟩
theorem ρG (g:Bool) (a:Option Addr) (c:Nat) (e0:Int) (w:World):
 Calls prog 155 #[.agg #[g,.slice a ([]:List Int).length c,.int .i64 e0]] w fun e w'=>ρE w 0 0 0 e w':=by
 go_enter func155,ntmps155
 go_wp2
 refine bodyPost_ret (v:= .agg #[false,(),.int .i64 0]) (by simp [results,results155,go_sem]) rfl ?_
 exact ⟨false,none,0,[],rfl,by simp,L1.nil _,.inl rfl,ξr _ _ _⟩
theorem ρH {g:Bool} {v x:Int} {t:Nat} (hx:x=sg g v) (ht:ρy v t):x=sg g (v/2^t)*2^t∧sg g (v/2^t)%2=1:=by
 obtain ⟨h1,h2⟩:=ht.ediv
 cases g
 ·have hx:x=v:=hx
  refine ⟨?_,h2⟩
  rw [hx]
  exact h1
 ·simp only [sg,if_true] at hx⊢
  refine ⟨?_,by omega⟩
  rw [hx,Int.neg_mul,<-h1]
theorem κg (g:Bool) (a:Option Addr) (c:Nat) (ds:List Int) (x e0:Int) (w:World) (hn:ds.length<=60000) (he0: -1000000<=e0) (he1:e0<=1000000) (h:L1 w g a c ds x):
 Calls prog 155 #[.agg #[g,.slice a ds c,.int .i64 e0]] w fun e w'=>ρF w ds.length x e0 (16*ds.length) e w':=by
 by_cases hd:ds=[]
 ·subst hd
  have hx:x=0:=by rw [h.num];simp [sg,val]
  exact (ρG g a c e0 w).mono fun e w' hh=>⟨0,0,.inl ⟨hx,rfl,rfl⟩,hh⟩
 ·have hl0:((ds.length:Int)==0)=false:=by rw [beq_eq_false_iff_ne];have:ds.length≠0:=fun e=>hd (List.length_eq_zero_iff.1 e);omega
  have hpos:=ζP (B:=65536) (by decide) h.can hd
  have hx0:x≠0:=by rw [h.num];cases g<;>simp [sg]<;>omega
  have B0:Hid (∀t t',Bx3 w g (.slice a ds c) (.int .i64 e0) ((w.alloc (.cells #[g,.slice a ds c,.int .i64 e0] t)).alloc (.cells #[false,(),.int .i64 0] t'))):=fun t t'=>Bx3.start w _ _ _ _ _
  go_enter func155,ntmps155
  go_wp2_with fail
  refine (κc g a c ds x _ (by omega) (h.later (ξr _ _ _)) hd).mono ?_
  rintro e w1 ⟨t,rfl,ht,htw,hb1⟩
  have F1:Hid (Bx3 w g (.slice a ds c) (.int .i64 e0) w1):=(B0.out _ _).later hb1
  have HL1:Hid (L1 w1 g a c ds x):=h.later F1.out.bel
  obtain ⟨hm1,hm2⟩:=ρH h.num htw
  have HM:Hid (x=sg g (val 65536 ds/2^t)*2^t∧sg g (val 65536 ds/2^t)%2=1):=⟨hm1,hm2⟩
  have q0:=F1.out.q0
  have q1:=F1.out.q1
  clear hb1 B0 hm1 hm2
  go_wp2_with fail
  refine (κe g a c ds x (t:Int) _ (by omega) (by omega) (by omega) HL1.out).mono ?_
  rintro e w2 ⟨g2,a2,c2,fs,rfl,hl2,hL2,hF2,hb2⟩
  rw [Int.toNat_natCast] at hL2
  have F2:=Hid.mk (F1.out.later hb2)
  have q2:=F2.out.q2
  have r1:=F2.out.r1
  have r2:=F2.out.r2
  have r3:=F2.out.r3
  have r4:=F2.out.r4
  have zz:w.heap.size+1<w2.heap.size:=F2.out.le
  have zz0:w.heap.size<w2.heap.size:=by omega
  have HL2:Hid (L1 w2 g2 a2 c2 fs (sg g (val 65536 ds/2^t))):=hL2
  have HF2:Hid (Far (↑w+1+1) a2 fs):=hF2.down F1.out.le
  clear hL2 hF2 hb2 q0 q1 HL1
  go_wp2
  refine bodyPost_ret (v:= .agg #[g2,.slice a2 fs c2,.int .i64 (e0+t)]) (by simp [results,results155,go_sem,r1,r2,r3,zz]) rfl ?_
  refine ⟨_,_,.inr ⟨hx0,t,HM.out.1,rfl,HM.out.2,by omega⟩,g2,a2,c2,fs,rfl,by omega,?_,HF2.out.down (by omega),?_⟩
  ·exact L1.later (((HL2.out.setFar HF2.out (by simp) _).setFar HF2.out (by simp) _).setFar HF2.out (by simp) _) (ζc _ _)
  ·exact (((F2.out.bel.setCell (by simp) _).setCell (by simp) _).setCell (by simp) _).alloc (by simp;omega) _
theorem Bx3.held {u v e:Value} (h:Bx3 w u v e W) (hb:Below (↑w+1) W W'):W'.cell? ⟨w,0,none⟩=some u∧W'.cell? ⟨w,1,none⟩=some v∧W'.cell? ⟨w,2,none⟩=some e∧Below (↑w+1) W W':=
 ⟨(hb.cell (by simp)).trans h.q0,(hb.cell (by simp)).trans h.q1,(hb.cell (by simp)).trans h.q2,hb⟩
end Go.Proofs.YtfieffpobgcpmaaGreatDoor
