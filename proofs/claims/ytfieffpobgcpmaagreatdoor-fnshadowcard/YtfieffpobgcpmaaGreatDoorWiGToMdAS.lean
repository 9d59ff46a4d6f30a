import Derived.Test.YtfieffpobgcpmaaGreatDoorWiAWiFS
import Derived.Test.YtfieffpobgcpmaaGreatDoorSpecEToDy1hS
import Derived.Test.YtfieffpobgcpmaaGreatDoorImplEImplNgImplNNumMImplMS
import Derived.Test.YtfieffpobgcpmaaGreatDoorEsGToBgES
set_option maxRecDepth 100000
set_option maxHeartbeats 32000000
namespace Go.Proofs.YtfieffpobgcpmaaGreatDoor
open Go.RowKit Go.Proofs.Tryz
variable {P:Int->Int->Prop} {x k b:Int} {w:World} {g:Bool} {v:Value} {a:Option Addr} {c n:Nat}
theorem Met.congr {Q:Int->Int->Prop} {R:Int×Int×Int×Int} (h:Met P R) (he: ∀p q,0<q->(P p q↔Q p q)):Met Q R:=by
 rcases h with h| ⟨h,e⟩
 ·exact .inl ⟨h.hb,h.hd,h.le,fun p q hq=>(he p q hq).symm.trans (h.is p q hq)⟩
 ·exact .inr ⟨fun p q hq hp=>h p q hq ((he p q hq).mpr hp),e⟩
theorem ψv:sgn x=0↔x=0:=by
 rcases sgn_cases x with ⟨h,e⟩| ⟨h,e⟩| ⟨h,e⟩<;>rw [e]<;>omega
theorem ξN (k:Int) (a b:V3):(V3.sc k a).dot b=k*a.dot b:=by
 simp only [V3.sc,V3.dot];grind
theorem θc (hk:0<k):sgn (k*x)=sgn x:=by
 rcases sgn_cases x with ⟨h,e⟩| ⟨h,e⟩| ⟨h,e⟩
 ·have:=Int.mul_neg_of_pos_of_neg hk h
  rcases sgn_cases (k*x) with ⟨h',e'⟩| ⟨h',e'⟩| ⟨h',e'⟩<;>rw [e,e']<;>omega
 ·rw [h,Int.mul_zero]
 ·have:=Int.mul_pos hk h
  rcases sgn_cases (k*x) with ⟨h',e'⟩| ⟨h',e'⟩| ⟨h',e'⟩<;>rw [e,e']<;>omega
theorem ηy {a:Int} (hk:0<k):k*a<=k*b↔a<=b:=
 ⟨fun h=>Int.le_of_mul_le_mul_left h hk,fun h=>Int.mul_le_mul_of_nonneg_left h (Int.le_of_lt hk)⟩
theorem κP (hk:0<k) (h:0<k*b):0<b:=by
 rcases Int.lt_or_le 0 b with h'|h'
 ·exact h'
 ·have:=Int.mul_nonpos_of_nonneg_of_nonpos (Int.le_of_lt hk) h';omega
theorem ξg.unscale {a:Int} (hk:0<k) (h:ξg P (k*a) (k*b) (k*a) (k*b)):ξg P a b a b:=by
 have hb:=κP hk h.hb
 refine ⟨hb,.inl hb,Int.le_refl _,fun p q hq=>(h.is p q hq).trans ?_⟩
 have e1:k*a*q=k*(a*q):=Int.mul_assoc _ _ _
 have e2:p*(k*b)=k*(p*b):=by grind
 rw [e1,e2,ηy hk,ηy hk]
theorem ξh.scale {f g p q:Int} (hk:0<k):ξh P (k*f) (k*g) p q↔ξh P f g p q:=by
 unfold ξh
 rw [ξB hk (x:=k*f*q+p*(k*g)) (y:=f*q+p*g) (by grind)]
theorem ξh.congr {Q:Int->Int->Prop} {f g p q:Int} (h:P p q↔Q p q):ξh P f g p q↔ξh Q f g p q:=by
 unfold ξh;rw [h]
theorem inPl_met {S:Int} (hS:0<S) {O D:V3} {t0 t1 t2 t3 t4 t5 t6 t7 t8:Int} (hD:(nrm (pv t0 t1 t2) (pv t3 t4 t5) (pv t6 t7 t8)).dot D=0) (hn:(nrm (pv t0 t1 t2) (pv t3 t4 t5) (pv t6 t7 t8)).dot (nrm (pv t0 t1 t2) (pv t3 t4 t5) (pv t6 t7 t8))≠0) (h:(nrm (pv t0 t1 t2) (pv t3 t4 t5) (pv t6 t7 t8)).dot ((V3.sc S (pv t0 t1 t2)).sub O)=0):
 Met (ζs (V3.sc S (pv t0 t1 t2)) (V3.sc S (pv t3 t4 t5)) (V3.sc S (pv t6 t7 t8)) O D) (inPl S (nrm (pv t0 t1 t2) (pv t3 t4 t5) (pv t6 t7 t8)) O D 3 ⟨t0,t1,t2,t3,t4,t5,t6,t7,t8⟩ (0,1,1,0)):=by
 have h2:=Int.mul_pos hS hS
 have h3:=Int.mul_pos h2 hS
 have h4:=Int.mul_pos h2 h2
 refine Met.congr (((τ9.keep _ _).keep _ _).keep _ _) fun p q _=> ?_
 rw [τ8 (by rw [ξ7,ξN,hD,Int.mul_zero]) (by rw [ξ7,θb];exact fun e=>hn (((Int.mul_eq_zero.mp e).resolve_left (by omega)))) (by rw [ξ7,ξN,h,Int.mul_zero]) p q]
 simp only [ξ7,ψ6,ωj,ξN]
 rw [ξh.scale h3,ξh.congr (ξh.scale h3),ξh.congr (ξh.congr (ξh.scale h3)),ψt _ (V3.sc S (pv t0 t1 t2)) O,ψt _ (V3.sc S (pv t3 t4 t5)) O,ψt _ (V3.sc S (pv t6 t7 t8)) O]
 exact Iff.rfl
def θd (w:World) (e:Nat) (P:Int->Int->Prop) (o:Ending) (w':World):Prop:= ∃R,Met P R∧ηx w e R o w'
theorem χj (v:Value) (m k:Nat) (S:Int) (O D:V3) (t0 t1 t2 t3 t4 t5 t6 t7 t8:Int) (w:World) (hm:277<=m) (hmk:3*m+2*k<=28000) (hS:0<S) (hT:Tab w) (hco:ζH w v m k S O D) (q0:Cor t0) (q1:Cor t1) (q2:Cor t2) (q3:Cor t3) (q4:Cor t4) (q5:Cor t5) (q6:Cor t6) (q7:Cor t7) (q8:Cor t8):
 Calls prog 40 #[v,.agg #[t0,t1,t2,t3,t4,t5,t6,t7,t8]] w fun o w'=>θd w (m+k+843) (ζs (V3.sc S (pv t0 t1 t2)) (V3.sc S (pv t3 t4 t5)) (V3.sc S (pv t6 t7 t8)) O D) o w':=by
 have h2:=Int.mul_pos hS hS
 by_cases hD:(nrm (pv t0 t1 t2) (pv t3 t4 t5) (pv t6 t7 t8)).dot D=0
 ·have hu:sgn ((nrm (pv t0 t1 t2) (pv t3 t4 t5) (pv t6 t7 t8)).dot D)=0:=ψv.mpr hD
  by_cases hmz:(nrm (pv t0 t1 t2) (pv t3 t4 t5) (pv t6 t7 t8)).dot (nrm (pv t0 t1 t2) (pv t3 t4 t5) (pv t6 t7 t8))=0∨(nrm (pv t0 t1 t2) (pv t3 t4 t5) (pv t6 t7 t8)).dot ((V3.sc S (pv t0 t1 t2)).sub O)≠0
  ·refine (ξT v m k S O D t0 t1 t2 t3 t4 t5 t6 t7 t8 w hm hmk hT hco q0 q1 q2 q3 q4 q5 q6 q7 q8 _ _ ?_ (.inl ⟨.inl rfl,rfl⟩)).mono fun o w' h=>⟨_,.inr ⟨κO (by rw [ξ7,ξN,hD,Int.mul_zero]) (hmz.imp (fun e=>by rw [ξ7,θb,e,Int.mul_zero]) (fun e=>by rw [ξ7,ξN];exact fun e'=>e ((Int.mul_eq_zero.mp e').resolve_left (by omega)))),rfl⟩,h⟩
   unfold ω8
   rw [if_pos hu,if_pos]
   rcases hmz with h|h
   ·exact .inl (by rw [ψv.mpr h];rfl)
   ·exact .inr fun e=>h (ψv.mp e)
  ·have hn:(nrm (pv t0 t1 t2) (pv t3 t4 t5) (pv t6 t7 t8)).dot (nrm (pv t0 t1 t2) (pv t3 t4 t5) (pv t6 t7 t8))≠0:=fun e=>hmz (.inl e)
   have hh:(nrm (pv t0 t1 t2) (pv t3 t4 t5) (pv t6 t7 t8)).dot ((V3.sc S (pv t0 t1 t2)).sub O)=0:=Classical.byContradiction fun e=>hmz (.inr e)
   refine (ξT v m k S O D t0 t1 t2 t3 t4 t5 t6 t7 t8 w hm hmk hT hco q0 q1 q2 q3 q4 q5 q6 q7 q8 _ _ ?_ (.inr (.inr (.inl ⟨rfl,rfl⟩)))).mono fun o w' h=>⟨_,inPl_met hS hD hn hh,h⟩
   unfold ω8
   rw [if_pos hu,if_neg]
   rintro (h|h)
   ·exact hn (ψv.mp (by simpa using h))
   ·exact h (ψv.mpr hh)
 ·have hu:sgn ((nrm (pv t0 t1 t2) (pv t3 t4 t5) (pv t6 t7 t8)).dot D)≠0:=fun e=>hD (ψv.mp e)
  have hD2:(nrm (V3.sc S (pv t0 t1 t2)) (V3.sc S (pv t3 t4 t5)) (V3.sc S (pv t6 t7 t8))).dot D≠0:=by rw [ξ7,ξN];exact fun e=>hD ((Int.mul_eq_zero.mp e).resolve_left (by omega))
  by_cases hb:sgn ((nrm (pv t0 t1 t2) (pv t3 t4 t5) (pv t6 t7 t8)).dot D)*sgn ((nrm (pv t0 t1 t2) (pv t3 t4 t5) (pv t6 t7 t8)).dot ((V3.sc S (pv t0 t1 t2)).sub O))<0
  ·refine (ξT v m k S O D t0 t1 t2 t3 t4 t5 t6 t7 t8 w hm hmk hT hco q0 q1 q2 q3 q4 q5 q6 q7 q8 _ _ ?_ (.inl ⟨.inr rfl,rfl⟩)).mono fun o w' h=>⟨_,.inr ⟨θa hD2 (by rw [ξ7,ξN,ξN,θc h2,θc h2];exact hb),rfl⟩,h⟩
   unfold ω8
   rw [if_neg hu,decide_eq_true hb]
  ·have hmv:ω8 (sgn ((nrm (pv t0 t1 t2) (pv t3 t4 t5) (pv t6 t7 t8)).dot D)) (sgn ((nrm (pv t0 t1 t2) (pv t3 t4 t5) (pv t6 t7 t8)).dot ((V3.sc S (pv t0 t1 t2)).sub O))) (sgn ((nrm (pv t0 t1 t2) (pv t3 t4 t5) (pv t6 t7 t8)).dot (nrm (pv t0 t1 t2) (pv t3 t4 t5) (pv t6 t7 t8)))==0)= .iface 145 (.agg #[false]):=by
    unfold ω8
    rw [if_neg hu,decide_eq_false hb]
   cases ho:ζW (sgn (D.dot (((V3.sc S (pv t0 t1 t2)).sub O).cross ((V3.sc S (pv t3 t4 t5)).sub O)))) (sgn (D.dot (((V3.sc S (pv t3 t4 t5)).sub O).cross ((V3.sc S (pv t6 t7 t8)).sub O)))) (sgn (D.dot (((V3.sc S (pv t6 t7 t8)).sub O).cross ((V3.sc S (pv t0 t1 t2)).sub O))))
   ·exact (ξT v m k S O D t0 t1 t2 t3 t4 t5 t6 t7 t8 w hm hmk hT hco q0 q1 q2 q3 q4 q5 q6 q7 q8 _ _ hmv (.inr (.inl ⟨rfl,ho,rfl⟩))).mono fun o w' h=>⟨_,.inr ⟨η7 hD2 ho,rfl⟩,h⟩
   ·refine (ξT v m k S O D t0 t1 t2 t3 t4 t5 t6 t7 t8 w hm hmk hT hco q0 q1 q2 q3 q4 q5 q6 q7 q8 _ _ hmv (.inr (.inr (.inr ⟨rfl,ho,_,_,rfl,rfl,rfl⟩)))).mono fun o w' h=>⟨_,.inl ?_,h⟩
    refine ξg.unscale h2 (σj hD2 ho (Int.mul_pos h2 ?_) (Int.mul_nonneg (Int.le_of_lt h2) ?_) ?_)
    ·show 0<(if (nrm (pv t0 t1 t2) (pv t3 t4 t5) (pv t6 t7 t8)).dot D<0 then-(nrm (pv t0 t1 t2) (pv t3 t4 t5) (pv t6 t7 t8)).dot D else (nrm (pv t0 t1 t2) (pv t3 t4 t5) (pv t6 t7 t8)).dot D)
     split<;>omega
    ·show 0<=(if (nrm (pv t0 t1 t2) (pv t3 t4 t5) (pv t6 t7 t8)).dot D<0 then-(nrm (pv t0 t1 t2) (pv t3 t4 t5) (pv t6 t7 t8)).dot ((V3.sc S (pv t0 t1 t2)).sub O) else (nrm (pv t0 t1 t2) (pv t3 t4 t5) (pv t6 t7 t8)).dot ((V3.sc S (pv t0 t1 t2)).sub O))
     rcases sgn_cases ((nrm (pv t0 t1 t2) (pv t3 t4 t5) (pv t6 t7 t8)).dot D) with ⟨h1,e1⟩| ⟨h1,e1⟩| ⟨h1,e1⟩<;>rcases sgn_cases ((nrm (pv t0 t1 t2) (pv t3 t4 t5) (pv t6 t7 t8)).dot ((V3.sc S (pv t0 t1 t2)).sub O)) with ⟨h2,e2⟩| ⟨h2,e2⟩| ⟨h2,e2⟩<;>rw [e1,e2] at hb<;>split<;>omega
    ·rw [ξ7,ξN,ξN,<-Int.mul_neg,<-Int.mul_neg]
     by_cases h1:(nrm (pv t0 t1 t2) (pv t3 t4 t5) (pv t6 t7 t8)).dot D<0
     ·exact .inr ⟨congrArg _ (if_pos h1),congrArg _ (if_pos h1)⟩
     ·exact .inl ⟨congrArg _ (if_neg h1),congrArg _ (if_neg h1)⟩
theorem σk (a:V3):V3.sc 1 a=a:=by simp only [V3.sc,Int.one_mul]
theorem ξ2 (v:Value) (O D:V3) (t0 t1 t2 t3 t4 t5 t6 t7 t8:Int) (w:World) (hT:Tab w) (hco:ζH w v 277 0 1 O D) (q0:Cor t0) (q1:Cor t1) (q2:Cor t2) (q3:Cor t3) (q4:Cor t4) (q5:Cor t5) (q6:Cor t6) (q7:Cor t7) (q8:Cor t8):
 Calls prog 40 #[v,.agg #[t0,t1,t2,t3,t4,t5,t6,t7,t8]] w fun o w'=>θd w 1120 (ζs (pv t0 t1 t2) (pv t3 t4 t5) (pv t6 t7 t8) O D) o w':=by
 have h:=χj v 277 0 1 O D t0 t1 t2 t3 t4 t5 t6 t7 t8 w (by omega) (by omega) (by omega) hT hco q0 q1 q2 q3 q4 q5 q6 q7 q8
 rw [σk,σk,σk] at h
 exact h
theorem θQ (g:Bool) (a:Option Addr) (c:Nat) (ds:List Int) (x:Int) (w:World) (hn:ds.length<=4194304) (h:L1 w g a c ds x):
 Calls prog 117 #[.agg #[g,.slice a ds c]] w fun e w'=> ∃g' ds',e= .returned (.agg #[.bool g',.slice a ds'.length c])∧ds'.length<=ds.length∧L1 w' g' a c ds' (-x)∧Below w w w':=by
 have hx:sg (!g) (val 65536 ds)= -x:=by rw [sg_not,h.num]
 have HX:Hid (sg (!g) (val 65536 ds)= -x):=hx
 clear hx
 go_enter func117,ntmps117
 go_wp2_with fail
 refine (ξF (!g) a c ds _ hn h.cap (h.sl.later (ξr _ _ _)) h.can.1).mono ?_
 rintro e w1 ⟨g',ds',rfl,hle,hL,hb1⟩
 have hb2:=hb1
 simp at hb2
 have r1:w1.cell? ⟨↑w+1,0,none⟩=some ↑false:=by rw [(ζj hb1).1 _ _ (by simp)];simp [go_sem]
 have r2:w1.cell? ⟨↑w+1,1,none⟩=some ↑():=by rw [(ζj hb1).1 _ _ (by simp)];simp [go_sem]
 have r3: ∀j,w1.frozen? ⟨↑w+1,j,none⟩=false:=by intro j;rw [(ζj hb1).2 _ _ (by simp)];simp [go_sem]
 have HB:Hid (Below w w w1):=(ξr _ _ _).trans (hb1.mono (by simp;omega))
 rw [HX.out] at hL
 have HL:Hid (L1 w1 g' a c ds' (-x)):=hL
 clear hL hb1 hb2
 go_wp2
 refine bodyPost_ret (v:= .agg #[g',.slice a ds' c]) (by simp [results,results117,go_sem,r1,r2]) rfl ⟨g',ds',rfl,hle,?_,?_⟩
 ·exact (HL.out.setNew h.sl.row hle (by simp) _).setNew h.sl.row hle (by simp) _
 ·exact (HB.out.setCell (by simp) _).setCell (by simp) _
theorem σl (g g':Bool) (a a':Option Addr) (c c':Nat) (ds es:List Int) (x y:Int) (w:World) (hn:ds.length<=700000) (hn':es.length<=700000) (h:L1 w g a c ds x) (h':L1 w g' a' c' es y):
 Calls prog 72 #[.agg #[g,.slice a ds c],.agg #[g',.slice a' es c']] w fun e w'=> ∃g2 a2 c2 fs,e= .returned (.agg #[.bool g2,.slice a2 fs.length c2])∧fs.length<=ds.length+es.length+1∧L1 w' g2 a2 c2 fs (x-y)∧Far w a2 fs∧Below w w w':=by
 go_enter func72,ntmps72
 go_wp2
 obtain ⟨W0,hW0⟩: ∃W0,W0=(((w.alloc (.cells #[g,.slice a ds c] 72)).alloc (.cells #[g',.slice a' es c'] 72)).alloc (.cells #[false,()] 72)):=⟨_,rfl⟩
 rw [<-hW0]
 have F:Hid (ξU w g g' (.slice a ds c) (.slice a' es c') () W0):=by rw [hW0];exact ξU.start w g g' _ _ _ _ _ _
 clear hW0
 go_region_held3 (fun w'=>w'.cell? ⟨w,0,none⟩=some ↑g∧w'.cell? ⟨w,1,none⟩=some (.slice a ds c)∧w'.cell? ⟨↑w+1,0,none⟩=some ↑g'∧w'.cell? ⟨↑w+1,1,none⟩=some (.slice a' es c')∧Below (↑w+1+1) W0 w')
  (first|exact ζx F.out.s (Below.refl _ _).drew|exact ζx F.out.s (by assumption)|exact ζx F.out.s (Below.setCell (Below.setCell (by assumption) (by simp) _) (by simp) _))
  (first
   |(go_at_call 117;refine (θQ g' a' c' es y _ (by omega) (h'.later F.out.bel.drew)).mono ?_;rintro e w1 ⟨g1,fs1,rfl,hf1,hL1,hb1⟩;have hB1:Below W0 W0 w1:=(Below.refl _ _).drew.trans hb1;have hB1':Below (↑w+1+1) W0 w1:=hB1.mono (by have:=F.out.le;omega))
   |(go_at_call 76;refine (χY g g1 a a' c c' ds fs1 x (-y) _ (by omega) (by omega) (h.later (F.out.bel.trans (hB1.mono (by have:=F.out.le;omega)))) hL1).mono ?_;rintro e w2 ⟨g2,a2,c2,fs,rfl,hfl,hL2,hfar,hb2⟩;have hB2:Below W0 W0 w2:=hB1.trans (hb2.mono hB1.size);have hB2':Below (↑w+1+1) W0 w2:=hB2.mono (by have:=F.out.le;omega);have F2:Hid (ξU w g g' (.slice a ds c) (.slice a' es c') () w2):=F.out.later hB2;have r1:=F2.out.r1;have r2:=F2.out.r2;have r3:=F2.out.r3))
 have HF:Hid (Far W0 a2 fs):=hfar.down hB1.size
 have HL:Hid (L1 w2 g2 a2 c2 fs (x+ -y)):=hL2
 clear hfar hL2 hB1 hB1' hB2 hB2' hb1 hb2 hL1
 go_wp2
 refine bodyPost_ret (v:= .agg #[g2,.slice a2 fs c2]) (by simp [results,results72,go_sem,r1,r2]) rfl ⟨g2,a2,c2,fs,rfl,by omega,?_,HF.out.down (by have:=F.out.le;omega),?_⟩
 ·rw [show x-y=x+ -y by omega]
  have hle:=F.out.le
  exact (HL.out.setFar HF.out (by simp;omega) _).setFar HF.out (by simp;omega) _
 ·exact (F2.out.bel.setCell (by simp;omega) _).setCell (by simp;omega) _
theorem νa (g g':Bool) (u v:Int):sg (!(g==g')) (u*v)=sg g u*sg g' v:=by
 cases g<;>cases g'<;>simp [sg,Int.neg_mul,Int.mul_neg]
def σm (x:Int) (es Pi D:List Int) (j:Nat) (c:Int):Prop:=
 (j<=es.length∧ζi 65536 (ζt x es Pi) 0=D++ζi 65536 (ζt x (es.drop j) (Pi.drop j)) c∧ζp 65536 (ζt x es Pi) 0=ζp 65536 (ζt x (es.drop j) (Pi.drop j)) c)∨
 (j=es.length+1∧c=0∧D=ζi 65536 (ζt x es Pi) 0++[ζp 65536 (ζt x es Pi) 0])
theorem σm.fin {c:Int} {ds es P D:List Int} {i j L:Nat} (h:σm x es (P.drop i) D j c) (hj: ¬j<es.length) (hc:c=0) (hDl:D.length=j) (hP:Prod 65536 ds es L i P) (hi:i<ds.length) (hL:i+es.length<L) (hx:x=ds.getD i 0)
 (hcb:0<=ζp 65536 (ζt x es (P.drop i)) 0∧ζp 65536 (ζt x es (P.drop i)) 0<65536):Prod 65536 ds es L (i+1) (P.take i++(D++P.drop (i+j))):=by
 have hl:i+es.length<P.length:=by rw [hP.len];exact hL
 rcases h with ⟨h1,h2,h3⟩| ⟨h1,_,h3⟩
 ·have hjn:j=es.length:=by omega
  subst hjn hc
  have hD:D=ζi 65536 (ζt x es (P.drop i)) 0:=by rw [h2,List.drop_eq_nil_of_le (Nat.le_refl _)];simp [ζt,ζi]
  have hO:ζp 65536 (ζt x es (P.drop i)) 0=0:=by rw [h3,List.drop_eq_nil_of_le (Nat.le_refl _)];simp [ζt,ζp]
  have h:=φ7 (by decide) hP hi hL hx hD rfl hcb.1 hcb.2
  rw [hO] at h
  have e:D++P.drop (i+es.length)=(D++[0])++P.drop (i+es.length+1):=by
   rw [List.drop_eq_getElem_cons hl]
   have:P[i+es.length]=0:=by simpa [List.getD_eq_getElem?_getD,hl] using hP.up (i+es.length) (Nat.le_refl _)
   rw [this,List.append_assoc]
   rfl
  rw [e]
  exact h
 ·subst h1 h3
  have h:=φ7 (by decide) hP hi hL hx rfl rfl hcb.1 hcb.2
  exact h
theorem θR {B:Int} (hB:1<B) (h0:0<=x) (h1:x<B) {ys ms:List Int} (hy:Dig B ys) (hm:Dig B ms):0<=ζp B (ζt x ys ms) 0∧ζp B (ζt x ys ms) 0<B:=by
 have hmem: ∀(ys ms:List Int),Dig B ys->Dig B ms-> ∀s,s∈ζt x ys ms->0<=s∧s<=(B-1)*(B-1)+(B-1):=by
  intro ys
  induction ys with
  |nil=>intro ms _ _ s hs;simp [ζt] at hs
  |cons y ys ih=>
   intro ms hy hm s hs
   have hb:=ψZ h0 h1 hy.head.1 hy.head.2
   cases ms with
   |nil=>
    rcases List.mem_cons.1 hs with rfl|hs
    ·omega
    ·exact ih [] hy.tail hm s hs
   |cons m ms=>
    have:=hm.head
    rcases List.mem_cons.1 hs with rfl|hs
    ·omega
    ·exact ih ms hy.tail hm.tail s hs
 have h:=φb (B:=B) (lo:=0) (hi:=B-1) (ζt x ys ms) 0 (Int.le_refl 0) (by omega) (by
  intro s hs c hc0 hc1
  have hb:=hmem ys ms hy hm s hs
  exact ξY (by omega) (by omega) (by omega))
 omega
theorem ξU.mid {g':Bool} {v' z:Value} {W W':World} (h:ξU w g g' v v' z W) (hb:Below (↑w+1+1+1) W W'):ξU w g g' v v' z W':=by
 obtain ⟨a1,a2,a3,a4,_⟩:=ζx h.s (hb.mono (by omega))
 exact ⟨⟨a1,a2,a3,a4,Below.refl _ _⟩,(hb.cell (by simp)).trans h.r1,(hb.cell (by simp)).trans h.r2,fun j=>(hb.frozen (by simp)).trans (h.r3 j),Nat.le_trans h.le hb.size,h.bel.trans (hb.mono (by omega))⟩
theorem νb (g g':Bool) (a a':Option Addr) (c c':Nat) (ds es:List Int) (x y:Int) (w:World) (hn:ds.length<=700000) (hn':es.length<=700000) (h:L1 w g a c ds x) (h':L1 w g' a' c' es y):
 Calls prog 97 #[.agg #[g,.slice a ds c],.agg #[g',.slice a' es c']] w fun e w'=> ∃g2 a2 c2 fs,e= .returned (.agg #[.bool g2,.slice a2 fs.length c2])∧fs.length<=ds.length+es.length+1∧L1 w' g2 a2 c2 fs (x*y)∧Far w a2 fs∧Below w w w':=by
 have hmk:=run_make_row' (P:=prog) 66 3 (.int .i64 0) 8 underlying66 Tryz.info3 rfl .i64 .i64 (ds.length+es.length+1) (by omega) (by omega)
 rw [show ((ds.length+es.length+1:Nat):Int)=(ds.length:Int)+(es.length:Int)+1 by omega] at hmk
 have HX:Hid (sg (!(g==g')) (val 65536 ds*val 65536 es)=x*y):=by unfold Hid;rw [νa,h.num,h'.num]
 have hdz:=h.can.1
 have hdy:=h'.can.1
 have hz:=h.sl.row
 have hy:=h'.sl.row
 clear h h'
 go_enter func97,ntmps97
 go_wp2
 obtain ⟨W0,hW0⟩: ∃W0,W0=(((w.alloc (.cells #[g,.slice a ds c] 72)).alloc (.cells #[g',.slice a' es c'] 72)).alloc (.cells #[false,()] 72)):=⟨_,rfl⟩
 have F:Hid (ξU w g g' (.slice a ds c) (.slice a' es c') () W0):=by rw [hW0];exact ξU.start w g g' _ _ _ _ _ _
 have hS:w.heap.size+1+1+1=W0.heap.size:=by rw [hW0];simp
 rw [<-hW0]
 have HS0:Hid (Own .i64 (W0.alloc (.cells (madeCells #[.int .i64 0] (ds.length+es.length+1)) 3)) (↑w+1+1+1) 0 (List.replicate (ds.length+es.length+1) 0)):=by unfold Hid;rw [hS];exact Own.made W0 _ _
 have HB0:Hid (Below (↑w+1+1+1) W0 (W0.alloc (.cells (madeCells #[.int .i64 0] (ds.length+es.length+1)) 3))):=by unfold Hid;rw [hS];exact ζc _ _
 clear hW0 hS
 go_loopw [6] (fun t wr=> ∃(i:Nat) (P:List Int),i<=ds.length∧t= .int .i64 i∧Hid (Prod 65536 ds es (ds.length+es.length+1) i P)∧Own .i64 wr (↑w+1+1+1) 0 P∧Below (↑w+1+1+1) W0 wr) (fun t _=>ds.length-(intOf t).toNat)
 case atStart=>exact ⟨0,_,Nat.zero_le _,rfl,χJ _ (by decide) _ _ _,HS0.out,HB0.out⟩
 case round=>
  obtain ⟨i,P,hi,rfl,hP,hown,hnx⟩:=hrel
  clear HS0 HB0
  by_cases hlt:i<ds.length
  ·have hb1:=hdz.at (by decide) i
   have F1:Hid (ξU w g g' (.slice a ds c) (.slice a' es c') () wr):=F.out.mid hnx
   obtain ⟨x1,hx⟩: ∃x1,x1=ds.getD i 0:=⟨_,rfl⟩
   rw [<-hx] at hb1
   obtain ⟨hb10,hb11⟩:=hb1
   have HX1:Hid (x1=ds.getD i 0):=hx
   have hPl:P.length=ds.length+es.length+1:=hP.out.len
   have HPl:Hid (P.length=ds.length+es.length+1):=hPl
   have HO:Hid (Own .i64 wr (↑w+1+1+1) 0 P):=hown
   have HN:Hid (Below (↑w+1+1+1) W0 wr):=hnx
   have s1:=F1.out.s.2.1
   have HOB:=θR (B:=65536) (by decide) hb10 hb11 hdy (hP.out.dig.drop i)
   have HOB:Hid (0<=ζp 65536 (ζt x1 es (P.drop i)) 0∧ζp 65536 (ζt x1 es (P.drop i)) 0<65536):=HOB
   clear hx hPl hown hnx
   go_wp2
   clear s1 F1
   go_loopw [7,8] (fun cc t wq=> ∃(j:Nat) (cv:Int) (D:List Int),j<=es.length+1∧D.length=j∧t= .int .i64 j∧cc= .int .i64 cv∧0<=cv∧cv<=65535∧Hid (σm x1 es (P.drop i) D j cv)∧
    Own .i64 wq (↑w+1+1+1) 0 (P.take i++(D++P.drop (i+j)))∧Below (↑w+1+1+1) W0 wq) (fun _ t _=>es.length+1-(intOf t).toNat)
   case atStart=>exact ⟨0,0,[],Nat.zero_le _,rfl,rfl,rfl,by decide,by decide,.inl ⟨Nat.zero_le _,rfl,rfl⟩,by simpa using HO.out,HN.out⟩
   case round=>
    obtain ⟨j,cv,D,hj,hDl,rfl,rfl,hc0,hc1,hM,hown,hnx⟩:=hrel
    have F1:Hid (ξU w g g' (.slice a ds c) (.slice a' es c') () wr):=F.out.mid hnx
    have s1:=F1.out.s.2.1
    have s3:=F1.out.s.2.2.2.1
    have hbw:Below w w wr:=F1.out.bel
    by_cases hlt2:j<es.length
    ·have hb2:=hdy.at (by decide) j
     obtain ⟨b,off,rfl,g1⟩:=ζq hz hbw hlt
     obtain ⟨b',off',rfl,g2⟩:=ζq hy hbw hlt2
     rw [<-HX1.out] at g1
     obtain ⟨y1,hyy⟩: ∃y1,y1=es.getD j 0:=⟨_,rfl⟩
     rw [<-hyy] at hb2 g2
     obtain ⟨hb20,hb21⟩:=hb2
     have hij:i+j<P.length:=by rw [HPl.out];omega
     have hbm:=hP.out.dig.at (by decide) (i+j)
     have g3:=hown.cell (i+j) (by rw [ζK hDl (by omega)];exact hij)
     have g4:=hown.free (i+j) (by rw [ζK hDl (by omega)];exact hij)
     rw [Nat.zero_add] at g3 g4
     rw [θB (Nat.le_refl _) hDl (by omega)] at g3
     obtain ⟨m,hm⟩: ∃m,m=P.getD (i+j) 0:=⟨_,rfl⟩
     rw [<-hm] at hbm g3
     obtain ⟨hbm0,hbm1⟩:=hbm
     obtain ⟨hxy0,hxy1⟩:=ψZ hb10 hb11 hb20 hb21
     simp only [Int.reduceSub,Int.reduceMul] at hxy1
     have hcb:=ξY (B:=65536) (s:=m+cv+x1*y1) (by decide) (by omega) (by simp only [Int.reduceSub,Int.reduceMul];omega)
     have hst:=χ6 (B:=65536) (x:=x1) (c:=cv) (s:=m+cv+x1*y1) (ms:=P.drop i) hlt2 (by rw [<-hyy,List.getD_eq_getElem?_getD,List.getElem?_drop,<-List.getD_eq_getElem?_getD,<-hm];omega)
     have HM:Hid (σm x1 es (P.drop i) (D++[(m+cv+x1*y1)%65536]) (j+1) ((m+cv+x1*y1)/65536)):=by
      rcases hM.out with ⟨h1,h2,h3⟩| ⟨h1,_,_⟩
      ·refine .inl ⟨by omega,?_,?_⟩
       ·rw [h2,hst.1];simp
       ·rw [h3,hst.2]
      ·omega
     have hs:=hown.set (i+j) ((m+cv+x1*y1)%65536) (by rw [ζK hDl (by omega)];exact hij)
     rw [Nat.zero_add,χ7 hDl hij] at hs
     have HS:Hid (Own .i64 (wr.setCell ⟨↑w+1+1+1,i+j,none⟩ (.int .i64 ((m+cv+x1*y1)%65536))) (↑w+1+1+1) 0 (P.take i++((D++[(m+cv+x1*y1)%65536])++P.drop (i+j+1)))):=hs
     have HB:Hid (Below (↑w+1+1+1) W0 (wr.setCell ⟨↑w+1+1+1,i+j,none⟩ (.int .i64 ((m+cv+x1*y1)%65536)))):=hnx.setCell (Nat.le_refl _) _
     obtain ⟨hcb0,hcb1⟩:=hcb
     have HCB:Hid (0<=(m+cv+x1*y1)/65536∧(m+cv+x1*y1)/65536<=65535):=⟨hcb0,by omega⟩
     have hji:(i:Int)+(j:Int)<(ds.length:Int)+(es.length:Int)+1:=by omega
     clear hcb0 hcb1 hst hs hyy hm hM hown hnx hij HN HO hbw F1
     go_wp2
     go_quiet (fail)
     go_wp2
     go_roundw
     case rel=>exact ⟨j+1,(m+cv+x1*y1)/65536,D++[(m+cv+x1*y1)%65536],by omega,by simp;omega,by go_num,rfl,HCB.out.1,HCB.out.2,HM,HS.out.later (below_drewN (Below.refl _ _) _),below_drewN HB.out _⟩
     case measure=>simp [intOf];omega
    ·by_cases hcp:0<cv
     ·have hjn:j=es.length:=by
       rcases hM.out with ⟨h1,_⟩| ⟨_,h2,_⟩
       ·omega
       ·omega
      subst hjn
      have hij:i+es.length<P.length:=by rw [HPl.out];omega
      have hm0:P.getD (i+es.length) 0=0:=hP.out.up _ (Nat.le_refl _)
      have g3:=hown.cell (i+es.length) (by rw [ζK hDl (by omega)];exact hij)
      have g4:=hown.free (i+es.length) (by rw [ζK hDl (by omega)];exact hij)
      rw [Nat.zero_add] at g3 g4
      rw [θB (Nat.le_refl _) hDl (by omega),hm0] at g3
      have HM:Hid (σm x1 es (P.drop i) (D++[cv]) (es.length+1) 0):=by
       rcases hM.out with ⟨h1,h2,h3⟩| ⟨h1,_,_⟩
       ·refine .inr ⟨rfl,rfl,?_⟩
        have hD:ζi 65536 (ζt x1 es (P.drop i)) 0=D:=by rw [h2,List.drop_eq_nil_of_le (Nat.le_refl _)];simp [ζt,ζi]
        have hO:ζp 65536 (ζt x1 es (P.drop i)) 0=cv:=by rw [h3,List.drop_eq_nil_of_le (Nat.le_refl _)];simp [ζt,ζp]
        rw [hD,hO]
       ·omega
      have hs:=hown.set (i+es.length) cv (by rw [ζK hDl (by omega)];exact hij)
      rw [Nat.zero_add,χ7 hDl hij] at hs
      have HS:Hid (Own .i64 (wr.setCell ⟨↑w+1+1+1,i+es.length,none⟩ (.int .i64 cv)) (↑w+1+1+1) 0 (P.take i++((D++[cv])++P.drop (i+es.length+1)))):=hs
      have HB:Hid (Below (↑w+1+1+1) W0 (wr.setCell ⟨↑w+1+1+1,i+es.length,none⟩ (.int .i64 cv))):=hnx.setCell (Nat.le_refl _) _
      have hji:(i:Int)+(es.length:Int)<(ds.length:Int)+(es.length:Int)+1:=by omega
      have E1:Hid (cv%65536=cv):=by unfold Hid;omega
      have E2:Hid (cv/65536=0):=by unfold Hid;omega
      clear hs hm0 hM hown hnx hij HN HO hbw F1
      go_wp2
      go_roundw
      case rel=>exact ⟨es.length+1,0,D++[cv],by omega,by simp;omega,by go_num,by rw [E2.out],by decide,by decide,HM,by rw [E1.out];exact HS.out,by rw [E1.out];exact HB.out⟩
      case measure=>simp [intOf]
     ·have hcz:cv=0:=by omega
      have HP2:Hid (Prod 65536 ds es (ds.length+es.length+1) (i+1) (P.take i++(D++P.drop (i+j)))):=hM.out.fin hlt2 hcz hDl hP.out hlt (by omega) HX1.out HOB.out
      subst hcz
      have HS:Hid (Own .i64 wr (↑w+1+1+1) 0 (P.take i++(D++P.drop (i+j)))):=hown
      have HB:Hid (Below (↑w+1+1+1) W0 wr):=hnx
      clear hM hown hnx HN HO hbw F1 hP HOB
      go_wp2
      go_roundw
      case rel=>exact ⟨i+1,P.take i++(D++P.drop (i+j)),by omega,by go_num,HP2,HS.out,HB.out⟩
      case measure=>simp [intOf];omega
  ·have hin:i=ds.length:=by omega
   subst hin
   have hPl:P.length=ds.length+es.length+1:=hP.out.len
   have hV:val 65536 P=val 65536 ds*val 65536 es:=by rw [hP.out.eq,List.take_length]
   have HV:Hid (val 65536 P=val 65536 ds*val 65536 es):=hV
   have HG:Hid (Dig 65536 P):=hP.out.dig
   have HL:Hid (P.length=ds.length+es.length+1):=hPl
   have HS:Hid (Own .i64 wr (↑w+1+1+1) 0 P):=hown
   have F1:Hid (ξU w g g' (.slice a ds c) (.slice a' es c') () wr):=F.out.mid hnx
   have s0:=F1.out.s.1
   have s1:=F1.out.s.2.1
   have s2:=F1.out.s.2.2.1
   clear hV hPl hP hown hnx hz hy hdz hdy F
   go_wp2_with fail
   have e1:ds.length+es.length+1=P.length:=HL.out.symm
   rw [e1]
   refine (ξF (!(g==g')) _ _ P _ (by omega) (by unfold maxLen;omega) ⟨Nat.le_refl _,(fun h=>by cases h),.inr ⟨_,_,rfl,HS.out.lt,HS.out.cell⟩⟩ HG.out).mono ?_
   rintro e w2 ⟨g2,fs,rfl,hfl,hL2,hb2⟩
   rw [HV.out,HX.out] at hL2
   have F2:=Hid.mk (F1.out.later hb2)
   have r1:=F2.out.r1
   have r2:=F2.out.r2
   have r3:=F2.out.r3
   have HL2:Hid (L1 w2 g2 (some ⟨↑w+1+1+1,0,none⟩) P.length fs (x*y)):=hL2
   have HF:Hid (Far (↑w+1+1+1) (some ⟨↑w+1+1+1,0,none⟩) fs):= .inr ⟨_,_,rfl,Nat.le_refl _⟩
   clear hL2 hb2 s0 s1 s2 F1 HS
   go_wp2
   refine bodyPost_ret (v:= .agg #[g2,.slice (some ⟨↑w+1+1+1,0,none⟩) fs P.length]) (by simp [results,results97,go_sem,r1,r2]) rfl ⟨g2,_,_,fs,rfl,by omega,?_,HF.out.down (by omega),?_⟩
   ·exact (HL2.out.setFar HF.out (by simp) _).setFar HF.out (by simp) _
   ·exact (F2.out.bel.setCell (by simp;omega) _).setCell (by simp;omega) _
theorem L1.sgn {ds:List Int} (h:L1 w g a c ds x):(ds.length=0->x=0)∧(ds.length≠0->g=true->x<0)∧(ds.length≠0->g=false->0<x):=by
 refine ⟨fun h0=> ?_,fun h0 hg=> ?_,fun h0 hg=> ?_⟩
 ·have:ds=[]:=List.length_eq_zero_iff.1 h0
  rw [h.num,this]
  cases g<;>simp [sg,val]
 ·have:=ζP (B:=65536) (by decide) h.can (fun e=>h0 (by simp [e]))
  rw [h.num,hg]
  simp [sg]
  omega
 ·have:=ζP (B:=65536) (by decide) h.can (fun e=>h0 (by simp [e]))
  rw [h.num,hg]
  simpa [sg] using this
theorem ωk (g:Bool) (a:Option Addr) (c:Nat) (ds:List Int) (x:Int) (w:World) (_hn:ds.length<=4194304) (h:L1 w g a c ds x):
 Calls prog 145 #[.agg #[g,.slice a ds c]] w fun e w'=>e= .returned (.int .i64 (sgn x))∧Below w w w':=by
 obtain ⟨s1,s2,s3⟩:=h.sgn
 by_cases h0:ds.length=0
 ·have HS:Hid (sgn x=0):=by unfold Hid;rw [s1 h0];rfl
  have e0:((ds.length:Int)==0)=true:=by rw [beq_iff_eq];omega
  clear s1 s2 s3 h
  go_enter func145,ntmps145
  go_wp2
  go_ret
  exact ⟨ζG HS.out.symm,ζc _ _⟩
 ·have e0:((ds.length:Int)==0)=false:=νF h0
  cases g with
  |true=>
   have HS:Hid (sgn x= -1):=by unfold Hid Go.Proofs.YtfieffpobgcpmaaGreatDoor.sgn;rw [if_pos (s2 h0 rfl)]
   clear s1 s2 s3 h
   go_enter func145,ntmps145
   go_wp2
   go_ret
   exact ⟨ζG HS.out.symm,ζc _ _⟩
  |false=>
   have HS:Hid (sgn x=1):=by
    have:=s3 h0 rfl
    unfold Hid Go.Proofs.YtfieffpobgcpmaaGreatDoor.sgn
    rw [if_neg (by omega),if_neg (by omega)]
   clear s1 s2 s3 h
   go_enter func145,ntmps145
   go_wp2
   go_ret
   exact ⟨ζG HS.out.symm,ζc _ _⟩
theorem κQ (g g':Bool) (a a':Option Addr) (c c':Nat) (ds es:List Int) (x y:Int) (w:World) (hn:ds.length<=700000) (hn':es.length<=700000) (h:L1 w g a c ds x) (h':L1 w g' a' c' es y):
 Calls prog 96 #[.agg #[g,.slice a ds c],.agg #[g',.slice a' es c']] w fun e w'=>e= .returned (.int .i64 (sgn (x-y)))∧Below w w w':=by
 go_enter func96,ntmps96
 go_wp2_with fail
 refine (σl g g' a a' c c' ds es x y _ hn hn' (h.later (ξr _ _ _)) (h'.later (ξr _ _ _))).mono ?_
 rintro e w1 ⟨g2,a2,c2,fs,rfl,hfl,hL,_,hb1⟩
 have HB:Hid (Below w w w1):=(ξr _ _ _).trans (hb1.mono (by simp;omega))
 clear hb1
 go_wp2_with fail
 refine (ωk g2 a2 c2 fs (x-y) _ (by omega) hL).mono ?_
 rintro e w2 ⟨rfl,hb2⟩
 have HB2:Hid (Below w w w2):=HB.out.trans (hb2.mono HB.out.size)
 clear hb2 hL
 go_wp2
 go_ret
 exact ⟨rfl,HB2.out⟩
theorem κR {v:Int} (h0:0<=v) (h1:v<=65535) (hc:c<=maxLen) (h:Sl .i64 w a c (if v=0 then [] else [v])):L1 w false a c (if v=0 then [] else [v]) v:=by
 by_cases hv:v=0
 ·subst hv
  rw [if_pos rfl] at h⊢
  exact ⟨h,⟨Dig.nil _,rfl⟩,by simp [sg,val],(fun hg=>by cases hg),hc⟩
 ·rw [if_neg hv] at h⊢
  exact ⟨h,⟨Dig.cons h0 (by omega) (Dig.nil _),by simp [trimL,hv]⟩,by simp [sg,val],(fun hg=>by cases hg),hc⟩
def κS (w:World) (v:Int) (e:Ending) (w':World):Prop:=
 ∃(a:Option Addr) (c:Nat) (ds:List Int),e= .returned (.agg #[false,.slice a ds c])∧ds.length<=1∧L1 w' false a c ds v∧Far (↑w+1) a ds∧Below w w w'
theorem ψ7 (v:Int) (w:World) (h0:0<=v) (h1:v<=65535):
 Calls prog 74 #[.int .i64 v] w fun e w'=>κS w v e w':=by
 go_enter func74,ntmps74
 go_wp2
 go_loopw [4,5] (fun su sd wr=> ∃(u:Int) (ys:List Int),su= .int .u64 u∧((u=v∧ys=[])∨(u=0∧ys=[v]∧0<v))∧wr.ownsRow (↑w+1) 3 1 sd ys.length (φc .i64 ys)∧Below (↑w+1) (w.alloc (.cells #[false,()] 72)) wr∧w.heap.size+1<=wr.heap.size) (fun su _ _=>(intOf su).toNat)
 case atStart=>exact ⟨v,[],rfl,.inl ⟨rfl,rfl⟩,ψF _ _ _ _,Below.refl _ _,by simp⟩
 case round=>
  obtain ⟨u,ys,rfl,hcase,hown,hnx,hsz⟩:=hrel
  have hu0:0<=u:=by omega
  have hu1:u<=65535:=by omega
  by_cases hu:0<u
  ·have hy:ys=[]∧u=v:=by
    rcases hcase with ⟨h,h'⟩| ⟨h,_,_⟩
    ·exact ⟨h',h⟩
    ·omega
   obtain ⟨hy,huv⟩:=hy
   subst hy huv
   have E1:Hid (u%65536=u):=by unfold Hid;omega
   have E2:Hid (u/65536=0):=by unfold Hid;omega
   clear hcase
   go_wp2_with (at_builtin;refine ωF rfl (.tmp 15) (.tmp 19) 66 rfl (↑w+1) 3 underlying66 Tryz.info3 (by decide) _ _ rfl rfl hown (by simp) hsz ?_;intro a1 n1 c1 w1 hown1 hb1 hs1)
   rw [E1.out] at hown1
   go_roundw
   case rel=>exact ⟨0,[u],by rw [E2.out],.inr ⟨rfl,rfl,hu⟩,hown1,hnx.trans hb1,by omega⟩
   case measure=>simp only [intOf];rw [E2.out];omega
  ·have hu00:u=0:=by omega
   subst hu00
   have hys:ys=(if v=0 then [] else [v]):=by
    rcases hcase with ⟨h,h'⟩| ⟨_,h',h⟩
    ·rw [h',if_pos h.symm]
    ·rw [h',if_neg (by omega)]
   obtain ⟨a',c',rfl,hcm,hsl,hrn⟩:=ψa hown
   have r1:wr.cell? ⟨w,0,none⟩=some ↑false:=by rw [hnx.cell (by simp)];simp [go_sem]
   have r2:wr.cell? ⟨w,1,none⟩=some ↑():=by rw [hnx.cell (by simp)];simp [go_sem]
   have r3: ∀j,wr.frozen? ⟨w,j,none⟩=false:=by intro j;rw [hnx.frozen (by simp)];simp [go_sem]
   have HF:Hid (Far (↑w+1) a' ys):=hrn.far (Nat.le_refl _) (Nat.le_refl _)
   have HL:Hid (L1 wr false a' c' ys v):=by unfold Hid;rw [hys] at hsl⊢;exact κR h0 h1 hcm hsl
   have HB:Hid (Below w w wr):=(ζc _ _).trans (hnx.mono (by omega))
   have hyl:ys.length<=1:=by rw [hys];split<;>simp
   clear hown hnx hsl hrn hcase hys
   go_wp2
   refine bodyPost_ret (v:= .agg #[false,.slice a' ys c']) (by simp [results,results74,go_sem,r1,r2,h0]) rfl ?_
   refine ⟨a',c',ys,rfl,hyl,?_,HF.out,?_⟩
   ·exact (HL.out.setFar HF.out (by simp) _).setFar HF.out (by simp) _
   ·exact (HB.out.setCell (by simp) _).setCell (by simp) _
def MIs (w:World) (v:Value) (n:Nat) (x:Int):Prop:= ∃(g:Bool) (a:Option Addr) (c:Nat) (ds:List Int),v= .agg #[g,.slice a ds c]∧L1 w g a c ds x∧ds.length<=n∧True
def ν1 (w:World) (n:Nat) (x:Int) (o:Ending) (w':World):Prop:= ∃v,o= .returned v∧MIs w' v n x∧Below w w w'
theorem MIs.later {w':World} (h:MIs w v n x) (hb:Below w w w'):MIs w' v n x:=by
 obtain ⟨g,a,c,ds,rfl,h1,h2,_⟩:=h
 exact ⟨g,a,c,ds,rfl,h1.later hb,h2,trivial⟩
theorem MIs.up {m:Nat} (h:MIs w v n x) (hm:n<=m):MIs w v m x:=by
 obtain ⟨g,a,c,ds,rfl,h1,h2,_⟩:=h
 exact ⟨g,a,c,ds,rfl,h1,Nat.le_trans h2 hm,trivial⟩
theorem MIs.inv {k:Nat} (h:MIs w (.agg #[g,.slice a k c]) n x): ∃ds:List Int,k=ds.length∧L1 w g a c ds x∧ds.length<=n:=by
 obtain ⟨g',a',c',ds,he,h1,h2,_⟩:=h
 simp at he
 obtain ⟨rfl,rfl,rfl,rfl⟩:=he
 exact ⟨ds,rfl,h1,h2⟩
theorem MIs.neg_iff {k:Nat} (h:MIs w (.agg #[g,.slice a k c]) n x):g=decide (x<0):=by
 obtain ⟨ds,rfl,h1,_⟩:=h.inv
 have p1:=ζo (B:=65536) (by decide) h1.can.1
 have hx:=h1.num
 cases g
 ·simp only [sg,Bool.false_eq_true,if_false] at hx
  simp;omega
 ·have:=ζP (B:=65536) (by decide) h1.can (h1.zero rfl)
  simp only [sg,if_true] at hx
  simp;omega
theorem MIs.zero_iff {k:Nat} (h:MIs w (.agg #[g,.slice a k c]) n x):k=0↔x=0:=by
 obtain ⟨ds,rfl,h1,_⟩:=h.inv
 have hx:=h1.num
 constructor
 ·intro hk
  have:ds=[]:=List.eq_nil_of_length_eq_zero hk
  subst this
  rw [hx];cases g<;>simp [sg,val]
 ·intro h0
  rcases Nat.eq_zero_or_pos ds.length with q|q
  ·exact q
  ·have:=ζP (B:=65536) (by decide) h1.can (by intro e;rw [e] at q;simp at q)
   rw [hx] at h0
   cases g<;>simp [sg] at h0<;>omega
theorem MIs.set {b i:Nat} {u:Value} (h:MIs w v n x) (hn:ζf w b):MIs (w.setCell ⟨b,i,none⟩ u) v n x:=by
 obtain ⟨g,a,c,ds,rfl,h1,h2,_⟩:=h
 refine ⟨g,a,c,ds,rfl,⟨⟨h1.sl.fits,h1.sl.nil,?_⟩,h1.can,h1.num,h1.zero,h1.cap⟩,h2,trivial⟩
 rcases h1.sl.row with h3| ⟨q,off,rfl,hq,hc⟩
 ·exact .inl h3
 ·by_cases hz:ds.length=0
  ·exact .inl (List.eq_nil_of_length_eq_zero hz)
  ·refine .inr ⟨q,off,rfl,by simpa using hq,fun j hj=> ?_⟩
   have hne:q≠b:=by
    intro hqb
    subst hqb
    exact hn.2 _ _ _ (hc 0 (by omega))
   rw [World.cell?_setCell_other _ _ _ _ (by intro hh;apply hne;have:=congrArg Addr.block hh;simp at this;exact this.symm)]
   exact hc j hj
theorem MIs.setAll {v:Value} {n:Nat} {x:Int} {b:Nat}: ∀(us:List Value) (w:World) (i:Nat),MIs w v n x->ζf w b->(∀u∈us,ζh u)->MIs (Go.Proofs.YtfieffpobgcpmaaGreatDoor.setAll w b i us) v n x
 | [],_,_,h,_,_=>h
 |u::us,_,i,h,hn,hu=>MIs.setAll us _ (i+1) (h.set hn) (hn.set (hu u (List.mem_cons_self ..))) (fun z hz=>hu z (List.mem_cons_of_mem _ hz))
theorem MIs.zero (w:World) (n:Nat):MIs w (.agg #[false,()]) n 0:=⟨false,none,0,[],rfl,L1.nil w,Nat.zero_le _,trivial⟩
theorem ψ8 (u v:Value) (n m:Nat) (x y:Int) (w:World) (hn:n<=700000) (hm:m<=700000) (hu:MIs w u n x) (hv:MIs w v m y):
 Calls prog 76 #[u,v] w fun o w'=>ν1 w (n+m+1) (x+y) o w':=by
 obtain ⟨g,a,c,ds,rfl,h1,h2,_⟩:=hu
 obtain ⟨g',a',c',es,rfl,h1',h2',_⟩:=hv
 refine (χY g g' a a' c c' ds es x y w (by omega) (by omega) h1 h1').mono ?_
 rintro o w' ⟨g2,a2,c2,fs,rfl,hl,hL,_,hb⟩
 exact ⟨_,rfl,⟨g2,a2,c2,fs,rfl,hL,by omega,trivial⟩,hb⟩
theorem ψw (u v:Value) (n m:Nat) (x y:Int) (w:World) (hn:n<=700000) (hm:m<=700000) (hu:MIs w u n x) (hv:MIs w v m y):
 Calls prog 72 #[u,v] w fun o w'=>ν1 w (n+m+1) (x-y) o w':=by
 obtain ⟨g,a,c,ds,rfl,h1,h2,_⟩:=hu
 obtain ⟨g',a',c',es,rfl,h1',h2',_⟩:=hv
 refine (σl g g' a a' c c' ds es x y w (by omega) (by omega) h1 h1').mono ?_
 rintro o w' ⟨g2,a2,c2,fs,rfl,hl,hL,_,hb⟩
 exact ⟨_,rfl,⟨g2,a2,c2,fs,rfl,hL,by omega,trivial⟩,hb⟩
theorem ζX (u v:Value) (n m:Nat) (x y:Int) (w:World) (hn:n<=700000) (hm:m<=700000) (hu:MIs w u n x) (hv:MIs w v m y):
 Calls prog 97 #[u,v] w fun o w'=>ν1 w (n+m+1) (x*y) o w':=by
 obtain ⟨g,a,c,ds,rfl,h1,h2,_⟩:=hu
 obtain ⟨g',a',c',es,rfl,h1',h2',_⟩:=hv
 refine (νb g g' a a' c c' ds es x y w (by omega) (by omega) h1 h1').mono ?_
 rintro o w' ⟨g2,a2,c2,fs,rfl,hl,hL,_,hb⟩
 exact ⟨_,rfl,⟨g2,a2,c2,fs,rfl,hL,by omega,trivial⟩,hb⟩
theorem ψ9 (u:Value) (n:Nat) (x:Int) (w:World) (hn:n<=700000) (hu:MIs w u n x):
 Calls prog 117 #[u] w fun o w'=>ν1 w n (-x) o w':=by
 obtain ⟨g,a,c,ds,rfl,h1,h2,_⟩:=hu
 refine (θQ g a c ds x w (by omega) h1).mono ?_
 rintro o w' ⟨g',ds',rfl,hl,hL,hb⟩
 exact ⟨_,rfl,⟨g',a,c,ds',rfl,hL,by omega,trivial⟩,hb⟩
theorem χk (u:Value) (n:Nat) (x:Int) (w:World) (hn:n<=700000) (hu:MIs w u n x):
 Calls prog 145 #[u] w fun o w'=>o= .returned (.int .i64 (sgn x))∧Below w w w':=by
 obtain ⟨g,a,c,ds,rfl,h1,h2,_⟩:=hu
 exact ωk g a c ds x w (by omega) h1
theorem κT (u v:Value) (n m:Nat) (x y:Int) (w:World) (hn:n<=700000) (hm:m<=700000) (hu:MIs w u n x) (hv:MIs w v m y):
 Calls prog 96 #[u,v] w fun o w'=>o= .returned (.int .i64 (sgn (x-y)))∧Below w w w':=by
 obtain ⟨g,a,c,ds,rfl,h1,h2,_⟩:=hu
 obtain ⟨g',a',c',es,rfl,h1',h2',_⟩:=hv
 exact κQ g g' a a' c c' ds es x y w (by omega) (by omega) h1 h1'
end Go.Proofs.YtfieffpobgcpmaaGreatDoor
