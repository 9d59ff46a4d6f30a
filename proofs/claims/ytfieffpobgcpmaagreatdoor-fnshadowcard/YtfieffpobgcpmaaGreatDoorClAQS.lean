import Derived.Test.YtfieffpobgcpmaaGreatDoorShJMdDMdES
import Derived.Test.YtfieffpobgcpmaaGreatDoorFrBFrCFrDFwAS
import Derived.Test.YtfieffpobgcpmaaGreatDoorHmAFrHS
import Derived.Deep.CutRange
import Derived.Deep.RegionHeld3
set_option maxRecDepth 100000
set_option maxHeartbeats 32000000
namespace Go.Proofs.YtfieffpobgcpmaaGreatDoor
open Go.RowKit Go.Proofs.Tryz
variable {n k:Nat} {p q a b c d f g:Int} {W w:World} {u0 u1 u2 u3 u4 u5 u6 u7 f0 f1 g0 g1:Value} {t:Bool}
theorem FrM.setAll {v:Value} (us:List Value) (w:World) (i:Nat) (h:FrM w v n p q) (hn:ζf w k) (hu: ∀u∈us,ζh u):FrM (Go.Proofs.YtfieffpobgcpmaaGreatDoor.setAll w k i us) v n p q:=by
 obtain ⟨g,a,c,z,g',a',c',z',rfl,h1,h2⟩:=h
 exact ⟨g,a,c,z,g',a',c',z',rfl,h1.setAll us w i hn hu,h2.setAll us w i hn hu⟩
structure MaS (W0:World) (P:Nat) (us:List Value) (n:Nat) (p q:Int) (W:World):Prop where
 c:Cs W P us
 v:FrM W (.agg us.toArray) n p q
 le:W0.heap.size<=P
 bel:Below W0 W0 W
theorem MaS.new5 {W0:World} (t:TypeId) (h:FrM W (.agg #[u0,u1,u2,u3,u4]) n p q) (hb:Below W0 W0 W):MaS W0 W [u0,u1,u2,u3,u4] n p q (W.alloc (.cells #[u0,u1,u2,u3,u4] t)):=
 ⟨Cs.new W _ t,h.later (ζc _ _),hb.size,hb.trans ((ζc _ _).mono hb.size)⟩
theorem MaS.set5 {W0:World} {P:Nat} (h:FrM W (.agg #[u0,u1,u2,u3,u4]) n p q) (hb:Below W0 W0 W) (hc:Cs W P [false,(),false,(),false]) (hn:ζf W P) (hv:[u0,u1,u2,u3,u4].all nI=true) (hP:W0.heap.size<=P):MaS W0 P [u0,u1,u2,u3,u4] n p q (setAll W P 0 [u0,u1,u2,u3,u4]):=
 ⟨hc.whole [u0,u1,u2,u3,u4] rfl,h.setAll [u0,u1,u2,u3,u4] W 0 hn (ξS hv),hP,ζd hP [u0,u1,u2,u3,u4] W 0 hb⟩
theorem SpM.setAll {v:Value} (us:List Value) (w:World) (i:Nat) (h:SpM w v n a b c d) (hn:ζf w k) (hu: ∀u∈us,ζh u):SpM (Go.Proofs.YtfieffpobgcpmaaGreatDoor.setAll w k i us) v n a b c d:=by
 obtain ⟨g1,a1,c1,z1,g2,a2,c2,z2,g3,a3,c3,z3,g4,a4,c4,z4,t,rfl,h1,h2,h3⟩:=h
 refine ⟨g1,a1,c1,z1,g2,a2,c2,z2,g3,a3,c3,z3,g4,a4,c4,z4,t,rfl,h1.setAll us w i hn hu,h2.setAll us w i hn hu,?_⟩
 rcases h3 with ⟨k1,k2,k3,k4⟩|h3
 ·exact .inl ⟨k1,k2,k3.setAll us w i hn hu,k4.setAll us w i hn hu⟩
 ·exact .inr h3
def HiM (w:World) (u4 u5 u6 u7:Value) (t:Bool) (n:Nat) (c d:Int):Prop:=(t=false∧d≠0∧FrM w (.agg #[u4,u5,u6,u7,false]) n c d)∨(t=true∧d=0∧c=1)
theorem HiM.later {w':World} (h:HiM w u4 u5 u6 u7 t n c d) (hb:Below w w w'):HiM w' u4 u5 u6 u7 t n c d:=h.imp (fun h=>⟨h.1,h.2.1,h.2.2.later hb⟩) id
theorem HiM.setAll (us:List Value) (w:World) (i:Nat) (h:HiM w u4 u5 u6 u7 t n c d) (hn:ζf w k) (hu: ∀u∈us,ζh u):HiM (Go.Proofs.YtfieffpobgcpmaaGreatDoor.setAll w k i us) u4 u5 u6 u7 t n c d:=h.imp (fun h=>⟨h.1,h.2.1,h.2.2.setAll us w i hn hu⟩) id
theorem HiM.c1 (h:HiM w u4 u5 u6 u7 t n c d):d=0->c=1:=fun h0=>h.elim (fun h=>absurd h0 h.2.1) (fun h=>h.2.2)
def νC (p q c d:Int):Int:=if d=0 then-1 else sgn (p*d-c*q)
theorem cmpv_cases (hq:0<q) (hc:d=0->c=1):(p*d<c*q∧νC p q c d= -1)∨(p*d=c*q∧νC p q c d=0)∨(c*q<p*d∧νC p q c d=1):=by
 unfold νC
 by_cases h:d=0
 ·rw [if_pos h,hc h,h];left;constructor<;>simp<;>omega
 ·rw [if_neg h]
  rcases sgn_cases (p*d-c*q) with ⟨h,e⟩| ⟨h,e⟩| ⟨h,e⟩
  ·exact .inl ⟨by omega,e⟩
  ·exact .inr (.inl ⟨by omega,e⟩)
  ·exact .inr (.inr ⟨by omega,e⟩)
theorem ηH (f u4 u5 u6 u7:Value) (t:Bool) (n:Nat) (p q c d:Int) (w:World) (hn:n<=320000) (h1:FrM w f n p q) (h2:HiM w u4 u5 u6 u7 t n c d):
 Calls prog 49 #[f,.agg #[u4,u5,u6,u7,t]] w fun o w'=>o= .returned (.int .i64 (νC p q c d))∧Below w w w':=by
 unfold νC
 rcases h2 with ⟨rfl,h,h2⟩| ⟨rfl,h,_⟩
 ·rw [if_neg h];exact φH f _ n p q c d w hn h1 h2
 ·rw [if_pos h];exact σT f n p q _ _ _ _ w h1
theorem FrM.inv {g1 g2:Bool} {a1 a2:Option Addr} {n1 n2 c1 c2:Nat} (h:FrM w (.agg #[g1,.slice a1 n1 c1,g2,.slice a2 n2 c2,false]) n p q): ∃z1 z2:List Int,n1=z1.length∧n2=z2.length∧MIs w (.agg #[g1,.slice a1 z1 c1]) n p∧MIs w (.agg #[g2,.slice a2 z2 c2]) n q:=by
 obtain ⟨g5,a5,c5,z5,g6,a6,c6,z6,he,k1,k2⟩:=h
 simp only [Value.agg.injEq,Array.mk.injEq,List.cons.injEq,Value.bool.injEq,Value.slice.injEq,and_true] at he
 obtain ⟨rfl,⟨rfl,rfl,rfl⟩,rfl,rfl,rfl,rfl⟩:=he
 exact ⟨_,_,rfl,rfl,k1,k2⟩
theorem SpM.of {g1 g2 g3 g4:Bool} {a1 a2 a3 a4:Option Addr} {n1 n2 c1 c2 n3 n4 c3 c4:Nat} (h:FrM w (.agg #[g1,.slice a1 n1 c1,g2,.slice a2 n2 c2,false]) n a b) (h':HiM w g3 (.slice a3 n3 c3) g4 (.slice a4 n4 c4) t n c d) (e3: ∃z:List Int,n3=z.length) (e4: ∃z:List Int,n4=z.length):SpM w (.agg #[g1,.slice a1 n1 c1,g2,.slice a2 n2 c2,false,g3,.slice a3 n3 c3,g4,.slice a4 n4 c4,t,false]) n a b c d:=by
 obtain ⟨z1,z2,rfl,rfl,k1,k2⟩:=h.inv
 rcases h' with ⟨rfl,h,h'⟩|h'
 ·obtain ⟨z3,z4,rfl,rfl,k3,k4⟩:=h'.inv
  exact ⟨_,_,_,_,_,_,_,_,_,_,_,_,_,_,_,_,_,rfl,k1,k2,.inl ⟨rfl,h,k3,k4⟩⟩
 ·obtain ⟨z3,rfl⟩:=e3
  obtain ⟨z4,rfl⟩:=e4
  exact ⟨_,_,_,_,_,_,_,_,_,_,_,_,_,_,_,_,_,rfl,k1,k2,.inr h'⟩
structure ClS (w:World) (n:Nat) (u0 u1 u2 u3 u4 u5 u6 u7:Value) (t:Bool) (f0 f1 g0 g1:Value) (ff gg a b c d:Int) (W:World):Prop where
 f:Bx4 w [u0,u1,u2,u3,false,u4,u5,u6,u7,t,false] [f0,f1] [g0,g1] [false,(),false,(),false,false,(),false,(),false,false] W
 lo:FrM W (.agg #[u0,u1,u2,u3,false]) n a b
 hi:HiM W u4 u5 u6 u7 t n c d
 mf:MIs W (.agg #[f0,f1]) n ff
 mg:MIs W (.agg #[g0,g1]) n gg
theorem ClS.later {W':World} (h:ClS w n u0 u1 u2 u3 u4 u5 u6 u7 t f0 f1 g0 g1 f g a b c d W) (hb:Below W W W'):ClS w n u0 u1 u2 u3 u4 u5 u6 u7 t f0 f1 g0 g1 f g a b c d W':=
 ⟨h.f.later hb,h.lo.later hb,h.hi.later hb,h.mf.later hb,h.mg.later hb⟩
theorem ClS.setLo {v0 v1 v2 v3:Value} (h:ClS w n u0 u1 u2 u3 u4 u5 u6 u7 t f0 f1 g0 g1 f g a b c d W) (hn:[v0,v1,v2,v3,↑false].all nI=true) (h1:FrM W (.agg #[v0,v1,v2,v3,false]) n p q):ClS w n v0 v1 v2 v3 u4 u5 u6 u7 t f0 f1 g0 g1 f g p q c d (setAll W w 0 [v0,v1,v2,v3,false]):=
 have i:=h.f.i0
 have j:=ξS hn
 ⟨h.f.set 0 _ (by simp) hn,h1.setAll _ _ _ i j,h.hi.setAll _ _ _ i j,h.mf.setAll _ _ _ i j,h.mg.setAll _ _ _ i j⟩
theorem ClS.setHi {v0 v1 v2 v3:Value} (h:ClS w n u0 u1 u2 u3 u4 u5 u6 u7 t f0 f1 g0 g1 f g a b c d W) (hn:[v0,v1,v2,v3,↑false].all nI=true) (h1:FrM W (.agg #[v0,v1,v2,v3,false]) n p q) (hq:q≠0):ClS w n u0 u1 u2 u3 v0 v1 v2 v3 false f0 f1 g0 g1 f g a b p q (setAll W w 5 [v0,v1,v2,v3,false]):=
 have i:=h.f.i0
 have j:=ξS hn
 ⟨h.f.set 5 _ (by simp) hn,h.lo.setAll _ _ _ i j,.inl ⟨rfl,hq,h1.setAll _ _ _ i j⟩,h.mf.setAll _ _ _ i j,h.mg.setAll _ _ _ i j⟩
def MetM (w:World) (n:Nat) (P:Int->Int->Prop) (o:Ending) (w':World):Prop:=
 (∃v a b c d,o= .returned v∧SpM w' v n a b c d∧ξg P a b c d∧Below w w w')∨(o= .returned ψn∧ζ5 P∧Below w w w')
theorem τi (P:Int->Int->Prop) (v vf vg:Value) (n:Nat) (a b c d f g:Int) (w:World) (hn:n<=320000) (hs:SpM w v n a b c d) (hf:MIs w vf n f) (hg:MIs w vg n g) (hP:ξg P a b c d):
 Calls prog 116 #[v,vf,vg] w fun o w'=>MetM w n (ξh P f g) o w':=by
 have HP:Hid (ξg P a b c d):=hP
 obtain ⟨N,hN⟩: ∃N,(if g<0 then- -f else-f)=N:=⟨_,rfl⟩
 obtain ⟨M,hM⟩: ∃M,(if g<0 then-g else g)=M:=⟨_,rfl⟩
 have HN:=Hid.mk hN
 have HM:=Hid.mk hM
 obtain ⟨g1,a1,c1,z1,g2,a2,c2,z2,g3,a3,c3,z3,g4,a4,c4,z4,t,rfl,h1,h2,h3⟩:=hs
 have hk:=hf
 have hl:=hg
 obtain ⟨gf,af,cf,zf,rfl,_,_,_⟩:=hf
 obtain ⟨gg,ag,cg,zg,rfl,_,_,_⟩:=hg
 have hhi:HiM w g3 (.slice a3 z3 c3) g4 (.slice a4 z4 c4) t n c d:=h3.imp (fun h=>⟨h.1,h.2.1,_,_,_,_,_,_,_,_,rfl,h.2.2.1,h.2.2.2⟩) id
 have HS0:Hid (∀t0 t1 t2 t3,ClS w n g1 (.slice a1 z1 c1) g2 (.slice a2 z2 c2) g3 (.slice a3 z3 c3) g4 (.slice a4 z4 c4) t gf (.slice af zf cf) gg (.slice ag zg cg) f g a b c d ((((w.alloc (.cells #[g1,.slice a1 z1 c1,g2,.slice a2 z2 c2,false,g3,.slice a3 z3 c3,g4,.slice a4 z4 c4,t,false] t0)).alloc (.cells #[gf,.slice af zf cf] t1)).alloc (.cells #[gg,.slice ag zg cg] t2)).alloc (.cells #[false,(),false,(),false,false,(),false,(),false,false] t3))):=by
  intro t0 t1 t2 t3
  have hF:=Bx4.start w #[g1,.slice a1 z1 c1,g2,.slice a2 z2 c2,false,g3,.slice a3 z3 c3,g4,.slice a4 z4 c4,t,false] #[gf,.slice af zf cf] #[gg,.slice ag zg cg] #[false,(),false,(),false,false,(),false,(),false,false] rfl rfl t0 t1 t2 t3
  exact ⟨hF,⟨_,_,_,_,_,_,_,_,rfl,h1.later hF.bel,h2.later hF.bel⟩,hhi.later hF.bel,hk.later hF.bel,hl.later hF.bel⟩
 clear hk hl h1 h2 h3 hN hM hhi hP
 go_enter func116,ntmps116
 go_wp2_with fail
 refine (χk _ n g _ (by omega) (HS0.out _ _ _ _).mg).mono ?_
 rintro o w1 ⟨rfl,hb1⟩
 have HS:Hid _:=(HS0.out _ _ _ _).later hb1
 clear hb1 HS0
 go_upto_if 13 with fail
 go_cut [] from 8 to 47 (fun wx=>Hid (ClS w n g1 (.slice a1 z1 c1) g2 (.slice a2 z2 c2) g3 (.slice a3 z3 c3) g4 (.slice a4 z4 c4) t gf (.slice af zf cf) gg (.slice ag zg cg) f g a b c d wx)∧Hid (g≠0))
 case first=>
  rcases sgn_cases g with ⟨kg,eg⟩| ⟨kg,eg⟩| ⟨kg,eg⟩
  case inr.inl=>
   rw [eg]
   subst kg
   clear eg
   obtain ⟨x0,x1,x2,x3,x4,x5,x6,x7,x8,x9,x10⟩:=HS.out.f.a.c11
   obtain ⟨j0,j1⟩:=HS.out.f.f.c2
   obtain ⟨y0,y1⟩:=HS.out.f.g.c2
   go_wp2_with fail
   refine (χk _ n f _ (by omega) HS.out.mf).mono ?_
   rintro o u ⟨rfl,hb⟩
   replace HS:Hid _:=HS.out.later hb
   clear hb x0 x1 x2 x3 x4 x5 x6 x7 x8 x9 x10 j0 j1 y0 y1
   rcases sgn_cases f with ⟨kf,ef⟩| ⟨kf,ef⟩| ⟨kf,ef⟩
   case inl=>
    rw [ef]
    go_wp2_with fail
    refine (ωu _).mono ?_
    rintro o u ⟨rfl,hb⟩
    replace HS:Hid _:=HS.out.later hb
    clear hb
    obtain ⟨y0,y1,y2,y3,y4,y5,y6,y7,y8,y9,y10⟩:=HS.out.f.z.c11
    have yf:=HS.out.f.z.2.1
    unfold ψn
    go_wp2
    refine bodyPost_ret (v:= .agg #[false,(),false,(),false,false,(),false,(),false,true]) (by simp [results,results116,go_sem,y0,y1,y2,y3,y4,y5,y6,y7,y8,y9,y10]) rfl ?_
    exact .inr ⟨rfl,φx P kf,HS.out.f.end [false,(),false,(),false,false,(),false,(),false,true]⟩
   all_goals
    rw [ef]
    obtain ⟨x0,x1,x2,x3,x4,x5,x6,x7,x8,x9,x10⟩:=HS.out.f.a.c11
    obtain ⟨j0,j1⟩:=HS.out.f.f.c2
    obtain ⟨k0,k1⟩:=HS.out.f.g.c2
    obtain ⟨y0,y1,y2,y3,y4,y5,y6,y7,y8,y9,y10⟩:=HS.out.f.z.c11
    have yf:=HS.out.f.z.2.1
    go_wp2
    refine bodyPost_ret (v:= .agg #[g1,.slice a1 z1 c1,g2,.slice a2 z2 c2,false,g3,.slice a3 z3 c3,g4,.slice a4 z4 c4,t,false]) (by simp [results,results116,go_sem,y0,y1,y2,y3,y4,y5,y6,y7,y8,y9,y10]) rfl ?_
    exact .inl ⟨_,_,_,_,_,rfl,(SpM.of HS.out.lo HS.out.hi ⟨_,rfl⟩ ⟨_,rfl⟩).setAll [g1,.slice a1 z1 c1,g2,.slice a2 z2 c2,false,g3,.slice a3 z3 c3,g4,.slice a4 z4 c4,t,false] _ 0 HS.out.f.i3 (ξS rfl),HP.out.clip0 (by omega),HS.out.f.end [g1,.slice a1 z1 c1,g2,.slice a2 z2 c2,false,g3,.slice a3 z3 c3,g4,.slice a4 z4 c4,t,false]⟩
  all_goals
   rw [eg]
   go_wp2_with fail
   go_meet
   case rel=>exact ⟨HS,by unfold Hid;omega⟩
 case rest=>
 obtain ⟨HS',HG0⟩:=hcut
 generalize hwq:wc=W1 at*
 clear hwq HS
 have HS:=HS'
 clear HS'
 have HZ:Hid (w.heap.size+1+1+1<W1.heap.size):=HS.out.f.z.1
 have HK:Hid (∀w',Below W1 W1 w'->w'.cell? ⟨↑w+1,0,none⟩=some ↑gf∧w'.cell? ⟨↑w+1,1,none⟩=some (.slice af zf cf)∧w'.cell? ⟨↑w+1+1,0,none⟩=some ↑gg∧w'.cell? ⟨↑w+1+1,1,none⟩=some (.slice ag zg cg)∧Below W1 W1 w'):=fun w' hb=>⟨(HS.out.f.f.later hb).at 0 rfl,(HS.out.f.f.later hb).at 1 rfl,(HS.out.f.g.later hb).at 0 rfl,(HS.out.f.g.later hb).at 1 rfl,hb⟩
 have MF:Hid (∀w',Below W1 W1 w'->MIs w' (.agg #[gf,.slice af zf cf]) n f):=fun w' hb=>HS.out.mf.later hb
 have MG:Hid (∀w',Below W1 W1 w'->MIs w' (.agg #[gg,.slice ag zg cg]) n g):=fun w' hb=>HS.out.mg.later hb
 have hB0:Below W1 W1 W1.drew:=(Below.refl _ _).drew
 have K0:=HK.out _ hB0
 go_wp2
 go_cut [7] from 8 to 47 (fun s7 wx=> ∃(P:Nat) (gp:Bool) (ap:Option Addr) (np cp:Nat) (gq:Bool) (aq:Option Addr) (nq cq:Nat),s7= .pointer (some ⟨P,0,none⟩)∧Hid (MaS W1 P [gp,.slice ap np cp,gq,.slice aq nq cq,false] n N M wx))
 case first=>
  go_region_held3 (fun w'=>w'.cell? ⟨↑w+1,0,none⟩=some ↑gf∧w'.cell? ⟨↑w+1,1,none⟩=some (.slice af zf cf)∧w'.cell? ⟨↑w+1+1,0,none⟩=some ↑gg∧w'.cell? ⟨↑w+1+1,1,none⟩=some (.slice ag zg cg)∧Below W1 W1 w')
   (first|with_reducible assumption|with_reducible exact HK.out _ (hB2.trans ((ζc _ _).mono hB2.size))|with_reducible exact HK.out _ (hB1.trans ((ζc _ _).mono hB1.size))|with_reducible exact HK.out _ (hB0.trans ((ζc _ _).mono hB0.size))|with_reducible exact HK.out _ (Below.setCell (Below.setCell (Below.setCell (Below.setCell (Below.setCell hB2 (by first|exact hp| (simp;exact hp)) _) (by first|exact hp| (simp;exact hp)) _) (by first|exact hp| (simp;exact hp)) _) (by first|exact hp| (simp;exact hp)) _) (by first|exact hp| (simp;exact hp)) _)|exact HK.out _ (hB0.trans ((ζc _ _).mono hB0.size)))
   (first
    |(have hBB:=hB1;clear hBB;go_at_call 156;refine (σS _ _ n (-f) g _ hn (by first|exact R1|exact R1.later (ζc _ _)) (by first|exact MG.out _ hB1|exact MG.out _ (hB1.trans ((ζc _ _).mono hB1.size)))).mono ?_;rintro o w3 ⟨v3,rfl,hv3,hb2⟩;have R2:FrM w3 v3 n N M:=(by have qq:=hv3;rw [HN.out,HM.out] at qq;exact qq);obtain ⟨gp,ap,cp,zp,gq,aq,cq,zq,rfl,_,_⟩:=hv3;have hB2:Below W1 W1 w3:=(by first|exact hB1.trans (hb2.mono hB1.size)|exact (hB1.trans ((ζc _ _).mono hB1.size)).trans (hb2.mono (hB1.trans ((ζc _ _).mono hB1.size)).size));have K2:=HK.out _ hB2;(first| (have hh:Cs w3 W1 [false,(),false,(),false]:=((Cs.new W1.drew #[false,(),false,(),false] 74).later hb1).later hb2;have hj:ζf w3 W1.heap.size:=((ζf.newL W1.drew #[false,(),false,(),false] 74 rfl).later hb1).later hb2;have hp:W1.heap.size<=W1.heap.size:=Nat.le_refl _)| (have hh:=(Cs.new w2 #[false,(),false,(),false] 74).later hb2;have hj:=(ζf.newL w2 #[false,(),false,(),false] 74 rfl).later hb2;have hp:W1.heap.size<=w2.heap.size:=hB1.size)|have hh:True:=trivial);(try obtain ⟨e0,e1,e2,e3,e4⟩:=hh.c5);(try have ez:=hh.2.1))
    |(go_at_call 117;refine (ψ9 _ n f _ (by omega) (by first|exact MF.out _ hB0|exact MF.out _ (hB0.trans ((ζc _ _).mono hB0.size)))).mono ?_;rintro o w2 ⟨v2,rfl,hv2,hb1⟩;have R1:MIs w2 v2 n (-f):=hv2;obtain ⟨gk,ak,ck,zk,rfl,_,_,_⟩:=hv2;have hB1:Below W1 W1 w2:=(by first|exact hB0.trans (hb1.mono hB0.size)|exact (hB0.trans ((ζc _ _).mono hB0.size)).trans (hb1.mono (hB0.trans ((ζc _ _).mono hB0.size)).size));have K1:=HK.out _ hB1))
  all_goals
   go_wp2_with fail
   go_meet
   case rel=>
    refine ⟨_,gp,ap,zp.length,cp,gq,aq,zq.length,cq,rfl,?_⟩
    unfold Hid
    first
     |with_reducible exact MaS.new5 _ R2 hB2
     |exact MaS.set5 R2 hB2 hh hj rfl hp
 case rest=>
 obtain ⟨B,gp,ap,np,cp,gq,aq,nq,cq,rfl,HE⟩:=hcut
 generalize hwq:wc=W2 at*
 clear hwq
 replace HS:Hid _:=HS.out.later HE.out.bel
 have HA:Hid (Cs _ _ _):=HE.out.c
 have HF:Hid (FrM W2 (.agg #[gp,.slice ap np cp,gq,.slice aq nq cq,false]) n N M):=HE.out.v
 have HB:Hid (w.heap.size+1+1+1<B):=Nat.lt_of_lt_of_le HZ.out HE.out.le
 clear HE HK hB0 K0 MF MG HZ
 obtain ⟨x0,x1,x2,x3,x4,x5,x6,x7,x8,x9,x10⟩:=HS.out.f.a.c11
 obtain ⟨j0,j1⟩:=HS.out.f.f.c2
 obtain ⟨y0,y1⟩:=HS.out.f.g.c2
 obtain ⟨e0,e1,e2,e3,e4⟩:=HA.out.c5
 go_wp2_with fail
 refine (χk _ n g _ (by omega) HS.out.mg).mono ?_
 rintro o u ⟨rfl,hb⟩
 replace HS:Hid _:=HS.out.later hb
 replace HA:Hid (Cs _ _ _):=HA.out.later hb
 replace HF:Hid (FrM _ _ _ _ _):=HF.out.later hb
 clear hb x0 x1 x2 x3 x4 x5 x6 x7 x8 x9 x10 j0 j1 y0 y1 e0 e1 e2 e3 e4
 go_upto_if 25 with fail
 go_cut [] from 8 to 47 (fun wx=> ∃(g5:Bool) (a5:Option Addr) (n5 c5:Nat) (g6:Bool) (a6:Option Addr) (n6 c6:Nat) (g7:Bool) (a7:Option Addr) (n7 c7:Nat) (g8:Bool) (a8:Option Addr) (n8 c8:Nat) (t:Bool) (a b c d:Int),Hid (ClS w n g5 (.slice a5 n5 c5) g6 (.slice a6 n6 c6) g7 (.slice a7 n7 c7) g8 (.slice a8 n8 c8) t gf (.slice af zf cf) gg (.slice ag zg cg) f g a b c d wx)∧Hid ((∃z:List Int,n7=z.length)∧(∃z:List Int,n8=z.length)∧0<b∧(a*d<=c*b->ξg (ξh P f g) a b c d)∧(c*b<a*d->ζ5 (ξh P f g))))
 case first=>
  have hle:=HP.out.le
  have hb0:=HP.out.hb
  have hcd:=HS.out.hi.c1
  rcases sgn_cases g with ⟨kg,eg⟩| ⟨kg,eg⟩| ⟨kg,eg⟩
  ·rw [eg]
   have hN:f=N:=by have:=HN.out;rwa [if_pos kg,Int.neg_neg] at this
   have hM: -g=M:=by have:=HM.out;rwa [if_pos kg] at this
   subst hN hM
   have hq:0< -g:=by omega
   obtain ⟨x0,x1,x2,x3,x4,x5,x6,x7,x8,x9,x10⟩:=HS.out.f.a.c11
   obtain ⟨j0,j1⟩:=HS.out.f.f.c2
   obtain ⟨y0,y1⟩:=HS.out.f.g.c2
   obtain ⟨e0,e1,e2,e3,e4⟩:=HA.out.c5
   go_wp2_with fail
   refine (ηH _ _ _ _ _ t n f (-g) c d _ hn HF.out HS.out.hi).mono ?_
   rintro o u ⟨rfl,hb⟩
   replace HS:Hid _:=HS.out.later hb
   replace HA:Hid (Cs _ _ _):=HA.out.later hb
   replace HF:Hid (FrM _ _ _ _ _):=HF.out.later hb
   clear hb x0 x1 x2 x3 x4 x5 x6 x7 x8 x9 x10 j0 j1 y0 y1 e0 e1 e2 e3 e4
   rcases cmpv_cases (p:=f) hq hcd with ⟨ho,eo⟩| ⟨ho,eo⟩| ⟨ho,eo⟩
   ·rw [eo]
    have HT:Hid _:=HS.out.setHi rfl HF.out (by omega)
    have HEX:Hid ((∃z:List Int,np=z.length)∧ ∃z:List Int,nq=z.length):=by
     obtain ⟨zp,zq,ep,eq,_,_⟩:=HF.out.inv
     exact ⟨⟨zp,ep⟩,⟨zq,eq⟩⟩
    obtain ⟨x0,x1,x2,x3,x4,x5,x6,x7,x8,x9,x10⟩:=HS.out.f.a.c11
    obtain ⟨j0,j1⟩:=HS.out.f.f.c2
    obtain ⟨y0,y1⟩:=HS.out.f.g.c2
    obtain ⟨e0,e1,e2,e3,e4⟩:=HA.out.c5
    have zf:=HS.out.f.a.2.1
    go_wp2_with fail
    go_meet
    case rel=>exact ⟨_,_,_,_,_,_,_,_,_,_,_,_,_,_,_,_,_,_,_,_,_,HT,⟨HEX.out.1,HEX.out.2,hb0,fun h=>HP.out.down kg ho h,fun h=>HP.out.down_no kg h⟩⟩
   all_goals
    rw [eo]
    go_wp2_with fail
    go_meet
    case rel=>exact ⟨_,_,_,_,_,_,_,_,_,_,_,_,_,_,_,_,_,_,_,_,_,HS,⟨⟨_,rfl⟩,⟨_,rfl⟩,hb0,fun h=>HP.out.down_stay kg (by omega) (HP.out.down_end kg (f:=f) (by omega)),fun h=>by omega⟩⟩
  ·exact absurd kg HG0.out
  ·rw [eg]
   have hN: -f=N:=by have:=HN.out;rwa [if_neg (by omega)] at this
   have hM:g=M:=by have:=HM.out;rwa [if_neg (by omega)] at this
   subst hN
   subst hM
   obtain ⟨x0,x1,x2,x3,x4,x5,x6,x7,x8,x9,x10⟩:=HS.out.f.a.c11
   obtain ⟨j0,j1⟩:=HS.out.f.f.c2
   obtain ⟨y0,y1⟩:=HS.out.f.g.c2
   obtain ⟨e0,e1,e2,e3,e4⟩:=HA.out.c5
   go_wp2_with fail
   refine (φH _ _ n (-f) g a b _ hn HF.out HS.out.lo).mono ?_
   rintro o u ⟨rfl,hb⟩
   replace HS:Hid _:=HS.out.later hb
   replace HA:Hid (Cs _ _ _):=HA.out.later hb
   replace HF:Hid (FrM _ _ _ _ _):=HF.out.later hb
   clear hb x0 x1 x2 x3 x4 x5 x6 x7 x8 x9 x10 j0 j1 y0 y1 e0 e1 e2 e3 e4
   rcases sgn_cases (-f*b-a*g) with ⟨ho,eo⟩| ⟨ho,eo⟩| ⟨ho,eo⟩
   case inr.inr=>
    rw [eo]
    have HT:Hid _:=HS.out.setLo rfl HF.out
    obtain ⟨x0,x1,x2,x3,x4,x5,x6,x7,x8,x9,x10⟩:=HS.out.f.a.c11
    obtain ⟨j0,j1⟩:=HS.out.f.f.c2
    obtain ⟨y0,y1⟩:=HS.out.f.g.c2
    obtain ⟨e0,e1,e2,e3,e4⟩:=HA.out.c5
    have zf:=HS.out.f.a.2.1
    go_wp2_with fail
    go_meet
    case rel=>exact ⟨_,_,_,_,_,_,_,_,_,_,_,_,_,_,_,_,_,_,_,_,_,HT,⟨⟨_,rfl⟩,⟨_,rfl⟩,kg,fun h=>HP.out.up kg (by omega) h,fun h=>HP.out.up_no kg h⟩⟩
   all_goals
    rw [eo]
    go_wp2_with fail
    go_meet
    case rel=>exact ⟨_,_,_,_,_,_,_,_,_,_,_,_,_,_,_,_,_,_,_,_,_,HS,⟨⟨_,rfl⟩,⟨_,rfl⟩,hb0,fun h=>HP.out.up_stay kg (by omega),fun h=>by omega⟩⟩
 case rest=>
 obtain ⟨g5,a5,n5,c5,g6,a6,n6,c6,g7,a7,n7,c7,g8,a8,n8,c8,t',a',b',c',d',HS',HJ⟩:=hcut
 generalize hwq:wc=W3 at*
 clear hwq HS HA HF HP HN HM HG0
 have HS:=HS'
 clear HS'
 obtain ⟨x0,x1,x2,x3,x4,x5,x6,x7,x8,x9,x10⟩:=HS.out.f.a.c11
 obtain ⟨j0,j1⟩:=HS.out.f.f.c2
 obtain ⟨y0,y1⟩:=HS.out.f.g.c2
 go_wp2_with fail
 refine (ηH _ _ _ _ _ t' n a' b' c' d' _ hn HS.out.lo HS.out.hi).mono ?_
 rintro o u ⟨rfl,hb⟩
 replace HS:Hid _:=HS.out.later hb
 clear hb x0 x1 x2 x3 x4 x5 x6 x7 x8 x9 x10 j0 j1 y0 y1
 rcases cmpv_cases (p:=a') HJ.out.2.2.1 HS.out.hi.c1 with ⟨ho,eo⟩| ⟨ho,eo⟩| ⟨ho,eo⟩
 case inr.inr=>
  rw [eo]
  go_wp2_with fail
  refine (ωu _).mono ?_
  rintro o u ⟨rfl,hb⟩
  replace HS:Hid _:=HS.out.later hb
  clear hb
  obtain ⟨y0,y1,y2,y3,y4,y5,y6,y7,y8,y9,y10⟩:=HS.out.f.z.c11
  have yf:=HS.out.f.z.2.1
  unfold ψn
  go_wp2
  refine bodyPost_ret (v:= .agg #[false,(),false,(),false,false,(),false,(),false,true]) (by simp [results,results116,go_sem,y0,y1,y2,y3,y4,y5,y6,y7,y8,y9,y10]) rfl ?_
  exact .inr ⟨rfl,HJ.out.2.2.2.2 ho,HS.out.f.end [false,(),false,(),false,false,(),false,(),false,true]⟩
 all_goals
  rw [eo]
  obtain ⟨x0,x1,x2,x3,x4,x5,x6,x7,x8,x9,x10⟩:=HS.out.f.a.c11
  obtain ⟨j0,j1⟩:=HS.out.f.f.c2
  obtain ⟨k0,k1⟩:=HS.out.f.g.c2
  obtain ⟨y0,y1,y2,y3,y4,y5,y6,y7,y8,y9,y10⟩:=HS.out.f.z.c11
  have yf:=HS.out.f.z.2.1
  go_wp2
  refine bodyPost_ret (v:= .agg #[g5,.slice a5 n5 c5,g6,.slice a6 n6 c6,false,g7,.slice a7 n7 c7,g8,.slice a8 n8 c8,t',false]) (by simp [results,results116,go_sem,y0,y1,y2,y3,y4,y5,y6,y7,y8,y9,y10]) rfl ?_
  exact .inl ⟨_,_,_,_,_,rfl,(SpM.of HS.out.lo HS.out.hi HJ.out.1 HJ.out.2.1).setAll [g5,.slice a5 n5 c5,g6,.slice a6 n6 c6,false,g7,.slice a7 n7 c7,g8,.slice a8 n8 c8,t',false] _ 0 HS.out.f.i3 (ξS rfl),HJ.out.2.2.2.1 (by omega),HS.out.f.end [g5,.slice a5 n5 c5,g6,.slice a6 n6 c6,false,g7,.slice a7 n7 c7,g8,.slice a8 n8 c8,t',false]⟩
end Go.Proofs.YtfieffpobgcpmaaGreatDoor
