import Derived.Test.YtfieffpobgcpmaaGreatDoorShJMdDMdES
import Derived.Test.YtfieffpobgcpmaaGreatDoorClAQS
import Derived.Test.YtfieffpobgcpmaaGreatDoorFrBFrCFrDFwAS
import Derived.Test.YtfieffpobgcpmaaGreatDoorDy1ToRkBS
import Derived.Test.YtfieffpobgcpmaaGreatDoorBgNReARkACoAS
import Derived.Deep.MidRow
import Derived.Deep.CutRange
set_option maxRecDepth 100000
set_option maxHeartbeats 32000000
namespace Go.Proofs.YtfieffpobgcpmaaGreatDoor
open Go.RowKit Go.Proofs.Tryz
variable {w:World} {v:Value} {n:Nat} {P:Int->Int->Prop}
theorem σU (f0 f1 g0 g1:Value) (w:World):
 Calls prog 116 #[ψn,.agg #[f0,f1],.agg #[g0,g1]] w fun o w'=>o= .returned ψn∧Below w w w':=by
 unfold ψn
 go_enter func116,ntmps116
 go_wp2
 refine bodyPost_ret (v:= .agg #[false,(),false,(),false,false,(),false,(),false,true]) (by simp [results,results116,go_sem]) rfl ?_
 refine ⟨rfl,?_⟩
 exact (((ζc _ _).trans ((ζc _ _).mono (by simp<;>omega))).trans ((ζc _ _).mono (by simp<;>omega))).trans ((ζc _ _).mono (by simp<;>omega))
def SpO (w:World) (v:Value) (n:Nat) (P:Int->Int->Prop):Prop:=(∃a b c d,SpM w v n a b c d∧ξg P a b c d)∨(v=ψn∧ζ5 P)
def ν7 (w:World) (n:Nat) (P:Int->Int->Prop) (o:Ending) (w':World):Prop:= ∃v,o= .returned v∧SpO w' v n P∧Below w w w'
theorem SpO.later {w':World} (h:SpO w v n P) (hb:Below w w w'):SpO w' v n P:=by
 rcases h with ⟨a,b,c,d,h1,h2⟩|h
 ·exact .inl ⟨a,b,c,d,h1.later hb,h2⟩
 ·exact .inr h
theorem SpO.setAll {k:Nat} (us:List Value) (w:World) (i:Nat) (h:SpO w v n P) (hn:ζf w k) (hu: ∀u∈us,ζh u):SpO (Go.Proofs.YtfieffpobgcpmaaGreatDoor.setAll w k i us) v n P:=by
 rcases h with ⟨a,b,c,d,h1,h2⟩|h
 ·exact .inl ⟨a,b,c,d,h1.setAll us w i hn hu,h2⟩
 ·exact .inr h
theorem SpO.shape (h:SpO w v n P): ∃(g1:Bool) (a1:Option Addr) (k1 c1:Nat) (g2:Bool) (a2:Option Addr) (k2 c2:Nat) (t1:Bool) (g3:Bool) (a3:Option Addr) (k3 c3:Nat) (g4:Bool) (a4:Option Addr) (k4 c4:Nat) (t2 t3:Bool),v= .agg #[g1,.slice a1 k1 c1,g2,.slice a2 k2 c2,t1,g3,.slice a3 k3 c3,g4,.slice a4 k4 c4,t2,t3]:=by
 rcases h with ⟨a,b,c,d,h1,h2⟩|h
 ·obtain ⟨g1,a1,c1,z1,g2,a2,c2,z2,g3,a3,c3,z3,g4,a4,c4,z4,t,rfl,h1,h2,h3⟩:=h1
  exact ⟨_,_,_,_,_,_,_,_,_,_,_,_,_,_,_,_,_,_,_,rfl⟩
 ·rw [h.1]
  exact ⟨_,_,_,_,_,_,_,_,_,_,_,_,_,_,_,_,_,_,_,rfl⟩
structure SW where
 g1:Bool
 a1:Option Addr
 k1:Nat
 c1:Nat
 g2:Bool
 a2:Option Addr
 k2:Nat
 c2:Nat
 t1:Bool
 g3:Bool
 a3:Option Addr
 k3:Nat
 c3:Nat
 g4:Bool
 a4:Option Addr
 k4:Nat
 c4:Nat
 t2:Bool
 t3:Bool
def SW.cells (s:SW):List Value:=[.bool s.g1,.slice s.a1 s.k1 s.c1,.bool s.g2,.slice s.a2 s.k2 s.c2,.bool s.t1,.bool s.g3,.slice s.a3 s.k3 s.c3,.bool s.g4,.slice s.a4 s.k4 s.c4,.bool s.t2,.bool s.t3]
theorem SW.ni (s:SW): ∀u∈s.cells,ζh u:=by simp [SW.cells,ζh]
theorem SW.one (s:SW):s.cells.toArray.all (·.oneCell')=true:=all_oneCell_toArray (by simp [SW.cells,Value.oneCell'])
theorem SpO.sw (h:SpO w v n P): ∃s:SW,v= .agg s.cells.toArray:=by
 obtain ⟨g1,a1,k1,c1,g2,a2,k2,c2,t1,g3,a3,k3,c3,g4,a4,k4,c4,t2,t3,h⟩:=h.shape
 exact ⟨⟨g1,a1,k1,c1,g2,a2,k2,c2,t1,g3,a3,k3,c3,g4,a4,k4,c4,t2,t3⟩,h⟩
theorem χq (P:Int->Int->Prop) (v vf vg:Value) (n:Nat) (f g:Int) (w:World) (hn:n<=320000) (hs:SpO w v n P) (hf:MIs w vf n f) (hg:MIs w vg n g):
 Calls prog 116 #[v,vf,vg] w fun o w'=>ν7 w n (ξh P f g) o w':=by
 rcases hs with ⟨a,b,c,d,h1,h2⟩| ⟨rfl,h2⟩
 ·refine (τi P v vf vg n a b c d f g w hn h1 hf hg h2).mono ?_
  rintro o w' (⟨v',a',b',c',d',rfl,k1,k2,hb⟩| ⟨rfl,k2,hb⟩)
  ·exact ⟨v',rfl,.inl ⟨a',b',c',d',k1,k2⟩,hb⟩
  ·exact ⟨ψn,rfl,.inr ⟨rfl,k2⟩,hb⟩
 ·obtain ⟨gf,af,cf,zf,rfl,_⟩:=hf
  obtain ⟨gg,ag,cg,zg,rfl,_⟩:=hg
  refine (σU _ _ _ _ w).mono ?_
  rintro o w' ⟨rfl,hb⟩
  exact ⟨ψn,rfl,.inr ⟨rfl,h2.clip f g⟩,hb⟩
def φm (P:Int->Int->Prop) (A B C O D:V3) (p q:Int):Prop:=(nrm A B C).dot (nrm A B C)≠0∧ξh (ξh (ξh (ξh (ξh P ((nrm A B C).dot (O.sub A)) ((nrm A B C).dot D)) (-(nrm A B C).dot (O.sub A)) (-(nrm A B C).dot D)) (((nrm A B C).cross (B.sub A)).dot (O.sub A)) (((nrm A B C).cross (B.sub A)).dot D)) (((nrm A B C).cross (C.sub B)).dot (O.sub B)) (((nrm A B C).cross (C.sub B)).dot D)) (((nrm A B C).cross (A.sub C)).dot (O.sub C)) (((nrm A B C).cross (A.sub C)).dot D) p q
theorem θn (A B C O D:V3) (p q:Int):φm (fun p _=>0<=p) A B C O D p q↔ζs A B C O D p q:=by
 constructor
 ·rintro ⟨h1,h2⟩;exact (ν0 h1 p q).mpr h2
 ·intro h;exact ⟨h.1,(ν0 h.1 p q).mp h⟩
theorem SpO.congr {Q:Int->Int->Prop} (h:SpO w v n P) (e: ∀p q,0<q->(P p q↔Q p q)):SpO w v n Q:=by
 rcases h with ⟨a,b,c,d,h1,h2⟩| ⟨h1,h2⟩
 ·exact .inl ⟨a,b,c,d,h1,⟨h2.hb,h2.hd,h2.le,fun p q hq=>(e p q hq).symm.trans (h2.is p q hq)⟩⟩
 ·exact .inr ⟨h1,fun p q hq hp=>h2 p q hq ((e p q hq).mpr hp)⟩
theorem ψx (u v:Value) (n m:Nat) (A B C A' B' C':Int) (w:World) (hn:n<=160000) (hm:m<=160000) (hu:ζF w u n A B C) (hv:ζF w v m A' B' C'):
 Calls prog 104 #[u,v] w fun o w'=>ωl w (n+m+1) (A-A') (B-B') (C-C') o w':=by
 obtain ⟨k,rfl,hk⟩:=hu.s
 obtain ⟨l,rfl,hl⟩:=hv.s
 obtain ⟨W0,hW0⟩: ∃V,V=(((w.alloc (.cells k.cells.toArray 128)).alloc (.cells l.cells.toArray 128)).alloc (.cells #[false,(),false,(),false,()] 128)):=⟨_,rfl⟩
 have HI:Hid (Mc0 w k.cells l.cells [false,(),false,(),false,()] W0):=by unfold Hid;rw [hW0];exact Mc0.start w _ _ _ _ _ _ rfl
 have HK:Hid (∀w',Below W0 W0 w'->(fun w'=>Mc0 w k.cells l.cells [false,(),false,(),false,()] w'∧V3s w' k n A B C∧V3s w' l m A' B' C') w'):=fun w' q=>⟨HI.out.later q,(hk.later HI.out.bel).later q,(hl.later HI.out.bel).later q⟩
 clear hk hl HI
 go_enter func104,ntmps104
 go_wp2_with fail
 rw [<-hW0]
 refine ζb.rg HK 16 fun WD hBd hS=> ?_
 clear hW0
 refine ζb.pu 0 5 (.pointer (some ⟨w,0,none⟩)) hS ?_
 simp only [sT,sS,sZ]
 refine ζb.ld 1 6 72 5 w 0 k.x.cs (fun w' h=>h.1.l.range 0 2) underlying72 hS ?_
 simp only [sT,sS,sZ]
 refine ζb.pu 2 7 (.pointer (some ⟨↑w+1,0,none⟩)) hS ?_
 simp only [sT,sS,sZ]
 refine ζb.ld 3 8 72 7 (↑w+1) 0 l.x.cs (fun w' h=>h.1.t.range 0 2) underlying72 hS ?_
 simp only [sT,sS,sZ]
 refine ζb.pu 5 10 (.pointer (some ⟨w,2,none⟩)) hS ?_
 simp only [sT,sS,sZ]
 refine ζb.ld 6 11 72 10 w 2 k.y.cs (fun w' h=>h.1.l.range 2 2) underlying72 hS ?_
 simp only [sT,sS,sZ]
 refine ζb.pu 7 12 (.pointer (some ⟨↑w+1,2,none⟩)) hS ?_
 simp only [sT,sS,sZ]
 refine ζb.ld 8 13 72 12 (↑w+1) 2 l.y.cs (fun w' h=>h.1.t.range 2 2) underlying72 hS ?_
 simp only [sT,sS,sZ]
 refine ζb.pu 10 15 (.pointer (some ⟨w,4,none⟩)) hS ?_
 simp only [sT,sS,sZ]
 refine ζb.ld 11 16 72 15 w 4 k.z.cs (fun w' h=>h.1.l.range 4 2) underlying72 hS ?_
 simp only [sT,sS,sZ]
 refine ζb.pu 12 17 (.pointer (some ⟨↑w+1,4,none⟩)) hS ?_
 simp only [sT,sS,sZ]
 refine ζb.ld 13 18 72 17 (↑w+1) 4 l.z.cs (fun w' h=>h.1.t.range 4 2) underlying72 hS ?_
 simp only [sT,sS,sZ]
 refine ζb.on 4 fun K HKK=> ?_
 go_wp2_with fail
 refine (ψw _ _ n m _ _ _ (by omega) (by omega) hS.2.1.1 hS.2.2.1).mono ?_
 rintro o u1 ⟨v1,rfl,hv1,hs1⟩
 have hB1:=hBd.trans (hs1.mono hBd.size)
 obtain ⟨r1,rfl⟩:=hv1.lv
 replace hS:=HK.out _ hB1
 refine HKK.out _ _ (fun _=>hS) ?_
 clear HKK K
 (try simp only [Act.put])
 refine ζb.on 9 fun K HKK=> ?_
 go_wp2_with fail
 refine (ψw _ _ n m _ _ _ (by omega) (by omega) hS.2.1.2.1 hS.2.2.2.1).mono ?_
 rintro o u2 ⟨v2,rfl,hv2,hs2⟩
 have hB2:=hB1.trans (hs2.mono hB1.size)
 obtain ⟨r2,rfl⟩:=hv2.lv
 replace hS:=HK.out _ hB2
 refine HKK.out _ _ (fun _=>hS) ?_
 clear HKK K
 (try simp only [Act.put])
 refine ζb.on 14 fun K HKK=> ?_
 go_wp2_with fail
 refine (ψw _ _ n m _ _ _ (by omega) (by omega) hS.2.1.2.2 hS.2.2.2.2).mono ?_
 rintro o u3 ⟨v3,rfl,hv3,hs3⟩
 have hB3:=hB2.trans (hs3.mono hB2.size)
 obtain ⟨r3,rfl⟩:=hv3.lv
 replace hS:=HK.out _ hB3
 refine HKK.out _ _ (fun _=>hS) ?_
 clear HKK K
 (try simp only [Act.put])
 refine ζb.pk 15 20 (.agg (LW.mk r1 r2 r3).cells.toArray) hS ?_
 simp only [sT,sS,sZ]
 replace hv1:=(hv1.later hs2).later hs3
 replace hv2:=hv2.later hs3
 refine ζb.on 16 fun K HKK=> ?_
 refine wp_store_mid 128 (.tmp 4) (.tmp 20) rfl (↑w+1+1) 0 (LW.mk r1 r2 r3).cells.toArray rfl rfl (hS.1.z.there 0 6 (by simp)) (by kernel_rfl) (LW.one _) ?_
 refine HKK.out _ _ (fun h=>absurd rfl h) ?_
 clear HKK K
 refine ζb.done (by kernel_rfl) ?_
 rw [show∀W b i,World.setCells W b i (Array.toList (LW.mk r1 r2 r3).cells.toArray)=setAll W b i (LW.mk r1 r2 r3).cells from fun W b i=>ζg _ _ _ _]
 have HC:=Hid.mk (hS.1.z.whole (LW.mk r1 r2 r3).cells rfl)
 have HV:=Hid.mk ((V3s.vec (l:=⟨r1,r2,r3⟩) ⟨hv1,hv2,hv3⟩).setAll (LW.mk r1 r2 r3).cells _ 0 hS.1.i0 (LW.ni _))
 have HB:=Hid.mk (ζd (b:=w.heap.size+1+1) (by omega) (LW.mk r1 r2 r3).cells _ 0 hS.1.bel)
 clear hS HK
 go_wp2
 exact bodyPost_ret (v:= .agg (LW.mk r1 r2 r3).cells.toArray) (ζy results104 rfl (HC.out.range 0 6) underlying128 rfl (by kernel_rfl)) rfl ⟨_,rfl,HV.out,HB.out⟩
theorem φI (u v:Value) (n m:Nat) (A B C A' B' C':Int) (w:World) (hn:n<=160000) (hm:m<=160000) (hu:ζF w u n A B C) (hv:ζF w v m A' B' C'):
 Calls prog 115 #[u,v] w fun o w'=>ν1 w (n+m+1+(n+m+1)+1+(n+m+1)+1) (A*A'+B*B'+C*C') o w':=by
 obtain ⟨k,rfl,hk⟩:=hu.s
 obtain ⟨l,rfl,hl⟩:=hv.s
 obtain ⟨W0,hW0⟩: ∃V,V=(((w.alloc (.cells k.cells.toArray 128)).alloc (.cells l.cells.toArray 128)).alloc (.cells #[false,()] 72)):=⟨_,rfl⟩
 have HI:Hid (Mc0 w k.cells l.cells [false,()] W0):=by unfold Hid;rw [hW0];exact Mc0.start w _ _ _ _ _ _ rfl
 have HK:Hid (∀w',Below W0 W0 w'->(fun w'=>Mc0 w k.cells l.cells [false,()] w'∧V3s w' k n A B C∧V3s w' l m A' B' C') w'):=fun w' q=>⟨HI.out.later q,(hk.later HI.out.bel).later q,(hl.later HI.out.bel).later q⟩
 clear hk hl HI
 go_enter func115,ntmps115
 go_wp2_with fail
 rw [<-hW0]
 refine ζb.rg HK 17 fun WD hBd hS=> ?_
 clear hW0
 refine ζb.pu 0 5 (.pointer (some ⟨w,0,none⟩)) hS ?_
 simp only [sT,sS,sZ]
 refine ζb.ld 1 6 72 5 w 0 k.x.cs (fun w' h=>h.1.l.range 0 2) underlying72 hS ?_
 simp only [sT,sS,sZ]
 refine ζb.pu 2 7 (.pointer (some ⟨↑w+1,0,none⟩)) hS ?_
 simp only [sT,sS,sZ]
 refine ζb.ld 3 8 72 7 (↑w+1) 0 l.x.cs (fun w' h=>h.1.t.range 0 2) underlying72 hS ?_
 simp only [sT,sS,sZ]
 refine ζb.pu 5 10 (.pointer (some ⟨w,2,none⟩)) hS ?_
 simp only [sT,sS,sZ]
 refine ζb.ld 6 11 72 10 w 2 k.y.cs (fun w' h=>h.1.l.range 2 2) underlying72 hS ?_
 simp only [sT,sS,sZ]
 refine ζb.pu 7 12 (.pointer (some ⟨↑w+1,2,none⟩)) hS ?_
 simp only [sT,sS,sZ]
 refine ζb.ld 8 13 72 12 (↑w+1) 2 l.y.cs (fun w' h=>h.1.t.range 2 2) underlying72 hS ?_
 simp only [sT,sS,sZ]
 refine ζb.pu 11 16 (.pointer (some ⟨w,4,none⟩)) hS ?_
 simp only [sT,sS,sZ]
 refine ζb.ld 12 17 72 16 w 4 k.z.cs (fun w' h=>h.1.l.range 4 2) underlying72 hS ?_
 simp only [sT,sS,sZ]
 refine ζb.pu 13 18 (.pointer (some ⟨↑w+1,4,none⟩)) hS ?_
 simp only [sT,sS,sZ]
 refine ζb.ld 14 19 72 18 (↑w+1) 4 l.z.cs (fun w' h=>h.1.t.range 4 2) underlying72 hS ?_
 simp only [sT,sS,sZ]
 refine ζb.on 4 fun K HKK=> ?_
 go_wp2_with fail
 refine (ζX _ _ n m _ _ _ (by omega) (by omega) hS.2.1.1 hS.2.2.1).mono ?_
 rintro o u1 ⟨v1,rfl,hv1,hs1⟩
 have hB1:=hBd.trans (hs1.mono hBd.size)
 obtain ⟨r1,rfl⟩:=hv1.lv
 replace hS:=HK.out _ hB1
 refine HKK.out _ _ (fun _=>hS) ?_
 clear HKK K
 (try simp only [Act.put])
 refine ζb.on 9 fun K HKK=> ?_
 go_wp2_with fail
 refine (ζX _ _ n m _ _ _ (by omega) (by omega) hS.2.1.2.1 hS.2.2.2.1).mono ?_
 rintro o u2 ⟨v2,rfl,hv2,hs2⟩
 have hB2:=hB1.trans (hs2.mono hB1.size)
 obtain ⟨r2,rfl⟩:=hv2.lv
 replace hS:=HK.out _ hB2
 refine HKK.out _ _ (fun _=>hS) ?_
 clear HKK K
 (try simp only [Act.put])
 refine ζb.on 10 fun K HKK=> ?_
 go_wp2_with fail
 refine (ψ8 _ _ _ _ _ _ _ (by omega) (by omega) (hv1.later hs2) hv2).mono ?_
 rintro o u3 ⟨v3,rfl,hv3,hs3⟩
 have hB3:=hB2.trans (hs3.mono hB2.size)
 obtain ⟨r3,rfl⟩:=hv3.lv
 replace hS:=HK.out _ hB3
 refine HKK.out _ _ (fun _=>hS) ?_
 clear HKK K
 (try simp only [Act.put])
 refine ζb.on 15 fun K HKK=> ?_
 go_wp2_with fail
 refine (ζX _ _ n m _ _ _ (by omega) (by omega) hS.2.1.2.2 hS.2.2.2.2).mono ?_
 rintro o u4 ⟨v4,rfl,hv4,hs4⟩
 have hB4:=hB3.trans (hs4.mono hB3.size)
 obtain ⟨r4,rfl⟩:=hv4.lv
 replace hS:=HK.out _ hB4
 refine HKK.out _ _ (fun _=>hS) ?_
 clear HKK K
 (try simp only [Act.put])
 refine ζb.on 16 fun K HKK=> ?_
 go_wp2_with fail
 refine (ψ8 _ _ _ _ _ _ _ (by omega) (by omega) (hv3.later hs4) hv4).mono ?_
 rintro o u5 ⟨v5,rfl,hv5,hs5⟩
 have hB5:=hB4.trans (hs5.mono hB4.size)
 obtain ⟨r5,rfl⟩:=hv5.lv
 replace hS:=HK.out _ hB5
 refine HKK.out _ _ (fun _=>hS) ?_
 clear HKK K
 (try simp only [Act.put])
 refine ζb.on 17 fun K HKK=> ?_
 refine wp_store_mid 72 (.tmp 4) (.tmp 21) rfl (↑w+1+1) 0 r5.cs.toArray rfl rfl (hS.1.z.there 0 2 (by simp)) (by kernel_rfl) r5.one ?_
 refine HKK.out _ _ (fun h=>absurd rfl h) ?_
 clear HKK K
 refine ζb.done (by kernel_rfl) ?_
 rw [show∀W b i,World.setCells W b i (Array.toList r5.cs.toArray)=setAll W b i r5.cs from fun W b i=>ζg _ _ _ _]
 have HC:=Hid.mk (hS.1.z.whole r5.cs rfl)
 have HV:=Hid.mk (hv5.setAll r5.cs _ 0 hS.1.i0 r5.ni)
 have HB:=Hid.mk (ζd (b:=w.heap.size+1+1) (by omega) r5.cs _ 0 hS.1.bel)
 clear hS HK
 go_wp2
 exact bodyPost_ret (v:= .agg r5.cs.toArray) (ζy results115 rfl (HC.out.range 0 2) underlying72 rfl (by kernel_rfl)) rfl ⟨_,rfl,HV.out,HB.out⟩
theorem χU (u v:Value) (n m:Nat) (A B C A' B' C':Int) (w:World) (hn:n<=160000) (hm:m<=160000) (hu:ζF w u n A B C) (hv:ζF w v m A' B' C'):
 Calls prog 113 #[u,v] w fun o w'=>ωl w (n+m+1+(n+m+1)+1) (B*C'-C*B') (C*A'-A*C') (A*B'-B*A') o w':=by
 obtain ⟨k,rfl,hk⟩:=hu.s
 obtain ⟨l,rfl,hl⟩:=hv.s
 obtain ⟨W0,hW0⟩: ∃V,V=(((w.alloc (.cells k.cells.toArray 128)).alloc (.cells l.cells.toArray 128)).alloc (.cells #[false,(),false,(),false,()] 128)):=⟨_,rfl⟩
 have HI:Hid (Mc0 w k.cells l.cells [false,(),false,(),false,()] W0):=by unfold Hid;rw [hW0];exact Mc0.start w _ _ _ _ _ _ rfl
 have HK:Hid (∀w',Below W0 W0 w'->(fun w'=>Mc0 w k.cells l.cells [false,(),false,(),false,()] w'∧V3s w' k n A B C∧V3s w' l m A' B' C') w'):=fun w' q=>⟨HI.out.later q,(hk.later HI.out.bel).later q,(hl.later HI.out.bel).later q⟩
 clear hk hl HI
 go_enter func113,ntmps113
 go_wp2_with fail
 rw [<-hW0]
 clear hW0
 go_cut [5] from 8 (fun s wx=> ∃(P1:Nat) (r1:LV),s= .pointer (some ⟨P1,0,none⟩)∧Hid (NwM W0 P1 r1.cs (n+m+1+(n+m+1)+1) (B*C'-C*B') wx))
 case first=>
  refine ζb.rg HK 12 fun WD hBd hS=> ?_
  refine ζb.pu 0 8 (.pointer (some ⟨w,2,none⟩)) hS ?_
  simp only [sT,sS,sZ]
  refine ζb.ld 1 9 72 8 w 2 k.y.cs (fun w' h=>h.1.l.range 2 2) underlying72 hS ?_
  simp only [sT,sS,sZ]
  refine ζb.pu 2 10 (.pointer (some ⟨↑w+1,4,none⟩)) hS ?_
  simp only [sT,sS,sZ]
  refine ζb.ld 3 11 72 10 (↑w+1) 4 l.z.cs (fun w' h=>h.1.t.range 4 2) underlying72 hS ?_
  simp only [sT,sS,sZ]
  refine ζb.pu 5 13 (.pointer (some ⟨w,4,none⟩)) hS ?_
  simp only [sT,sS,sZ]
  refine ζb.ld 6 14 72 13 w 4 k.z.cs (fun w' h=>h.1.l.range 4 2) underlying72 hS ?_
  simp only [sT,sS,sZ]
  refine ζb.pu 7 15 (.pointer (some ⟨↑w+1,2,none⟩)) hS ?_
  simp only [sT,sS,sZ]
  refine ζb.ld 8 16 72 15 (↑w+1) 2 l.y.cs (fun w' h=>h.1.t.range 2 2) underlying72 hS ?_
  simp only [sT,sS,sZ]
  refine ζ0.begin [4,9,10] [11] ?_
  have hBw:=hBd
  clear hBd
  repeat' first
   |refine ζ0.cb (by kernel_rfl) rfl rfl rfl rfl ?_ ?_
   |refine ζ0.c (by kernel_rfl) rfl rfl ?_
   |refine ζ0.b (by kernel_rfl) rfl rfl ?_
   |(refine ξa.go 4 fun K HKK=> ?_
     go_wp2_with fail
     refine (ζX _ _ n m _ _ _ (by omega) (by omega) hS.2.1.2.1 hS.2.2.2.2).mono ?_
     rintro o uW ⟨vV,rfl,hv,hSt⟩
     replace hBw:=hBw.trans (hSt.mono hBw.size)
     (try replace hcb:=hcb.later hSt)
     (try replace hnb:=hnb.later hSt)
     have Ra:=Hid.mk hv
     obtain ⟨a,rfl⟩:=hv.lv
     replace hS:=HK.out _ hBw
     refine HKK.out _ _ (fun _=>hS) ?_
     clear HKK K hSt
     (try simp only [Act.put]))
   |(refine ξa.go 9 fun K HKK=> ?_
     go_wp2_with fail
     refine (ζX _ _ n m _ _ _ (by omega) (by omega) hS.2.1.2.2 hS.2.2.2.1).mono ?_
     rintro o uW ⟨vV,rfl,hv,hSt⟩
     replace hBw:=hBw.trans (hSt.mono hBw.size)
     (try replace hcb:=hcb.later hSt)
     (try replace hnb:=hnb.later hSt)
     (try replace Ra:=Hid.mk (Ra.out.later hSt))
     have Rb:=Hid.mk hv
     obtain ⟨b,rfl⟩:=hv.lv
     replace hS:=HK.out _ hBw
     refine HKK.out _ _ (fun _=>hS) ?_
     clear HKK K hSt
     (try simp only [Act.put]))
   |(refine ξa.go 10 fun K HKK=> ?_
     go_wp2_with fail
     refine (ψw _ _ _ _ _ _ _ (by omega) (by omega) Ra.out Rb.out).mono ?_
     rintro o uW ⟨vV,rfl,hv,hSt⟩
     replace hBw:=hBw.trans (hSt.mono hBw.size)
     (try replace hcb:=hcb.later hSt)
     (try replace hnb:=hnb.later hSt)
     have Rc:=Hid.mk hv
     obtain ⟨c,rfl⟩:=hv.lv
     replace hS:=HK.out _ hBw
     refine HKK.out _ _ (fun _=>hS) ?_
     clear HKK K hSt
     (try simp only [Act.put]))
   |(refine ξa.go 11 fun K HKK=> ?_
     go_wp2_with fail
     obtain ⟨uW,hu,hSt,hcb,hnb,hBw,hPb,_⟩:=ξC hBw #[false,()] 72 rfl
     (try replace Ra:=Hid.mk (Ra.out.later hSt))
     (try replace Rb:=Hid.mk (Rb.out.later hSt))
     (try replace Rc:=Hid.mk (Rc.out.later hSt))
     replace hS:=HK.out _ hBw
     refine HKK.out _ _ (fun _=>by rw [hu];exact hS) ?_
     rw [hu]
     clear HKK K hu hSt
     (try simp only [Act.put]))
  all_goals
   refine ⟨ζb.on 12 fun K HKK=> ?_⟩
   refine wp_store_mid 72 (.tmp 5) (.tmp 18) rfl _ 0 c.cs.toArray rfl rfl (hcb.there 0 2 (by simp)) (by kernel_rfl) c.one ?_
   refine HKK.out _ _ (fun h=>absurd rfl h) ?_
   clear HKK K
   refine ζb.done (by kernel_rfl) ?_
   rw [show∀W b i,World.setCells W b i (Array.toList c.cs.toArray)=setAll W b i c.cs from fun W b i=>ζg _ _ _ _]
   go_wp2_with fail
   go_meet
   case rel=>exact ⟨_,c,rfl,NwM.fin hcb rfl hnb c.ni Rc.out hBw hPb⟩
 case rest=>
 obtain ⟨P1,r1,rfl,H1⟩:=hcut
 obtain ⟨W1,hw⟩: ∃V,V=wc:=⟨_,rfl⟩
 rw [<-hw] at H1⊢
 clear hw wc
 have HB1:=Hid.mk (H1.out.bel)
 go_wp2_with fail
 have HK2:Hid (∀w',Below W1 W1 w'->(fun w'=>Mc0 w k.cells l.cells [false,(),false,(),false,()] w'∧V3s w' k n A B C∧V3s w' l m A' B' C') w'):=fun w' q=>HK.out _ (HB1.out.trans (q.mono HB1.out.size))
 go_cut [6] from 8 (fun s wx=> ∃(P2:Nat) (r2:LV),s= .pointer (some ⟨P2,0,none⟩)∧Hid (NwM W1 P2 r2.cs (n+m+1+(n+m+1)+1) (C*A'-A*C') wx))
 case first=>
  refine ζb.rg HK2 12 fun WD hBd hS=> ?_
  refine ζb.pu 0 19 (.pointer (some ⟨w,4,none⟩)) hS ?_
  simp only [sT,sS,sZ]
  refine ζb.ld 1 20 72 19 w 4 k.z.cs (fun w' h=>h.1.l.range 4 2) underlying72 hS ?_
  simp only [sT,sS,sZ]
  refine ζb.pu 2 21 (.pointer (some ⟨↑w+1,0,none⟩)) hS ?_
  simp only [sT,sS,sZ]
  refine ζb.ld 3 22 72 21 (↑w+1) 0 l.x.cs (fun w' h=>h.1.t.range 0 2) underlying72 hS ?_
  simp only [sT,sS,sZ]
  refine ζb.pu 5 24 (.pointer (some ⟨w,0,none⟩)) hS ?_
  simp only [sT,sS,sZ]
  refine ζb.ld 6 25 72 24 w 0 k.x.cs (fun w' h=>h.1.l.range 0 2) underlying72 hS ?_
  simp only [sT,sS,sZ]
  refine ζb.pu 7 26 (.pointer (some ⟨↑w+1,4,none⟩)) hS ?_
  simp only [sT,sS,sZ]
  refine ζb.ld 8 27 72 26 (↑w+1) 4 l.z.cs (fun w' h=>h.1.t.range 4 2) underlying72 hS ?_
  simp only [sT,sS,sZ]
  refine ζ0.begin [4,9,10] [11] ?_
  have hBw:=hBd
  clear hBd
  repeat' first
   |refine ζ0.cb (by kernel_rfl) rfl rfl rfl rfl ?_ ?_
   |refine ζ0.c (by kernel_rfl) rfl rfl ?_
   |refine ζ0.b (by kernel_rfl) rfl rfl ?_
   |(refine ξa.go 4 fun K HKK=> ?_
     go_wp2_with fail
     refine (ζX _ _ n m _ _ _ (by omega) (by omega) hS.2.1.2.2 hS.2.2.1).mono ?_
     rintro o uW ⟨vV,rfl,hv,hSt⟩
     replace hBw:=hBw.trans (hSt.mono hBw.size)
     (try replace hcb:=hcb.later hSt)
     (try replace hnb:=hnb.later hSt)
     have Ra:=Hid.mk hv
     obtain ⟨a,rfl⟩:=hv.lv
     replace hS:=HK2.out _ hBw
     refine HKK.out _ _ (fun _=>hS) ?_
     clear HKK K hSt
     (try simp only [Act.put]))
   |(refine ξa.go 9 fun K HKK=> ?_
     go_wp2_with fail
     refine (ζX _ _ n m _ _ _ (by omega) (by omega) hS.2.1.1 hS.2.2.2.2).mono ?_
     rintro o uW ⟨vV,rfl,hv,hSt⟩
     replace hBw:=hBw.trans (hSt.mono hBw.size)
     (try replace hcb:=hcb.later hSt)
     (try replace hnb:=hnb.later hSt)
     (try replace Ra:=Hid.mk (Ra.out.later hSt))
     have Rb:=Hid.mk hv
     obtain ⟨b,rfl⟩:=hv.lv
     replace hS:=HK2.out _ hBw
     refine HKK.out _ _ (fun _=>hS) ?_
     clear HKK K hSt
     (try simp only [Act.put]))
   |(refine ξa.go 10 fun K HKK=> ?_
     go_wp2_with fail
     refine (ψw _ _ _ _ _ _ _ (by omega) (by omega) Ra.out Rb.out).mono ?_
     rintro o uW ⟨vV,rfl,hv,hSt⟩
     replace hBw:=hBw.trans (hSt.mono hBw.size)
     (try replace hcb:=hcb.later hSt)
     (try replace hnb:=hnb.later hSt)
     have Rc:=Hid.mk hv
     obtain ⟨c,rfl⟩:=hv.lv
     replace hS:=HK2.out _ hBw
     refine HKK.out _ _ (fun _=>hS) ?_
     clear HKK K hSt
     (try simp only [Act.put]))
   |(refine ξa.go 11 fun K HKK=> ?_
     go_wp2_with fail
     obtain ⟨uW,hu,hSt,hcb,hnb,hBw,hPb,_⟩:=ξC hBw #[false,()] 72 rfl
     (try replace Ra:=Hid.mk (Ra.out.later hSt))
     (try replace Rb:=Hid.mk (Rb.out.later hSt))
     (try replace Rc:=Hid.mk (Rc.out.later hSt))
     replace hS:=HK2.out _ hBw
     refine HKK.out _ _ (fun _=>by rw [hu];exact hS) ?_
     rw [hu]
     clear HKK K hu hSt
     (try simp only [Act.put]))
  all_goals
   refine ⟨ζb.on 12 fun K HKK=> ?_⟩
   refine wp_store_mid 72 (.tmp 6) (.tmp 29) rfl _ 0 c.cs.toArray rfl rfl (hcb.there 0 2 (by simp)) (by kernel_rfl) c.one ?_
   refine HKK.out _ _ (fun h=>absurd rfl h) ?_
   clear HKK K
   refine ζb.done (by kernel_rfl) ?_
   rw [show∀W b i,World.setCells W b i (Array.toList c.cs.toArray)=setAll W b i c.cs from fun W b i=>ζg _ _ _ _]
   go_wp2_with fail
   go_meet
   case rel=>exact ⟨_,c,rfl,NwM.fin hcb rfl hnb c.ni Rc.out hBw hPb⟩
 case rest=>
 obtain ⟨P2,r2,rfl,H2⟩:=hcut
 obtain ⟨W2,hw⟩: ∃V,V=wc:=⟨_,rfl⟩
 rw [<-hw] at H2⊢
 clear hw wc
 have HB2:=Hid.mk (HB1.out.trans (H2.out.bel.mono HB1.out.size))
 go_wp2_with fail
 have HK3:Hid (∀w',Below W2 W2 w'->(fun w'=>Mc0 w k.cells l.cells [false,(),false,(),false,()] w'∧V3s w' k n A B C∧V3s w' l m A' B' C') w'):=fun w' q=>HK.out _ (HB2.out.trans (q.mono HB2.out.size))
 go_cut [7] from 8 (fun s wx=> ∃(P3:Nat) (r3:LV),s= .pointer (some ⟨P3,0,none⟩)∧Hid (NwM W2 P3 r3.cs (n+m+1+(n+m+1)+1) (A*B'-B*A') wx))
 case first=>
  refine ζb.rg HK3 12 fun WD hBd hS=> ?_
  refine ζb.pu 0 30 (.pointer (some ⟨w,0,none⟩)) hS ?_
  simp only [sT,sS,sZ]
  refine ζb.ld 1 31 72 30 w 0 k.x.cs (fun w' h=>h.1.l.range 0 2) underlying72 hS ?_
  simp only [sT,sS,sZ]
  refine ζb.pu 2 32 (.pointer (some ⟨↑w+1,2,none⟩)) hS ?_
  simp only [sT,sS,sZ]
  refine ζb.ld 3 33 72 32 (↑w+1) 2 l.y.cs (fun w' h=>h.1.t.range 2 2) underlying72 hS ?_
  simp only [sT,sS,sZ]
  refine ζb.pu 5 35 (.pointer (some ⟨w,2,none⟩)) hS ?_
  simp only [sT,sS,sZ]
  refine ζb.ld 6 36 72 35 w 2 k.y.cs (fun w' h=>h.1.l.range 2 2) underlying72 hS ?_
  simp only [sT,sS,sZ]
  refine ζb.pu 7 37 (.pointer (some ⟨↑w+1,0,none⟩)) hS ?_
  simp only [sT,sS,sZ]
  refine ζb.ld 8 38 72 37 (↑w+1) 0 l.x.cs (fun w' h=>h.1.t.range 0 2) underlying72 hS ?_
  simp only [sT,sS,sZ]
  refine ζ0.begin [4,9,10] [11] ?_
  have hBw:=hBd
  clear hBd
  repeat' first
   |refine ζ0.cb (by kernel_rfl) rfl rfl rfl rfl ?_ ?_
   |refine ζ0.c (by kernel_rfl) rfl rfl ?_
   |refine ζ0.b (by kernel_rfl) rfl rfl ?_
   |(refine ξa.go 4 fun K HKK=> ?_
     go_wp2_with fail
     refine (ζX _ _ n m _ _ _ (by omega) (by omega) hS.2.1.1 hS.2.2.2.1).mono ?_
     rintro o uW ⟨vV,rfl,hv,hSt⟩
     replace hBw:=hBw.trans (hSt.mono hBw.size)
     (try replace hcb:=hcb.later hSt)
     (try replace hnb:=hnb.later hSt)
     have Ra:=Hid.mk hv
     obtain ⟨a,rfl⟩:=hv.lv
     replace hS:=HK3.out _ hBw
     refine HKK.out _ _ (fun _=>hS) ?_
     clear HKK K hSt
     (try simp only [Act.put]))
   |(refine ξa.go 9 fun K HKK=> ?_
     go_wp2_with fail
     refine (ζX _ _ n m _ _ _ (by omega) (by omega) hS.2.1.2.1 hS.2.2.1).mono ?_
     rintro o uW ⟨vV,rfl,hv,hSt⟩
     replace hBw:=hBw.trans (hSt.mono hBw.size)
     (try replace hcb:=hcb.later hSt)
     (try replace hnb:=hnb.later hSt)
     (try replace Ra:=Hid.mk (Ra.out.later hSt))
     have Rb:=Hid.mk hv
     obtain ⟨b,rfl⟩:=hv.lv
     replace hS:=HK3.out _ hBw
     refine HKK.out _ _ (fun _=>hS) ?_
     clear HKK K hSt
     (try simp only [Act.put]))
   |(refine ξa.go 10 fun K HKK=> ?_
     go_wp2_with fail
     refine (ψw _ _ _ _ _ _ _ (by omega) (by omega) Ra.out Rb.out).mono ?_
     rintro o uW ⟨vV,rfl,hv,hSt⟩
     replace hBw:=hBw.trans (hSt.mono hBw.size)
     (try replace hcb:=hcb.later hSt)
     (try replace hnb:=hnb.later hSt)
     have Rc:=Hid.mk hv
     obtain ⟨c,rfl⟩:=hv.lv
     replace hS:=HK3.out _ hBw
     refine HKK.out _ _ (fun _=>hS) ?_
     clear HKK K hSt
     (try simp only [Act.put]))
   |(refine ξa.go 11 fun K HKK=> ?_
     go_wp2_with fail
     obtain ⟨uW,hu,hSt,hcb,hnb,hBw,hPb,_⟩:=ξC hBw #[false,()] 72 rfl
     (try replace Ra:=Hid.mk (Ra.out.later hSt))
     (try replace Rb:=Hid.mk (Rb.out.later hSt))
     (try replace Rc:=Hid.mk (Rc.out.later hSt))
     replace hS:=HK3.out _ hBw
     refine HKK.out _ _ (fun _=>by rw [hu];exact hS) ?_
     rw [hu]
     clear HKK K hu hSt
     (try simp only [Act.put]))
  all_goals
   refine ⟨ζb.on 12 fun K HKK=> ?_⟩
   refine wp_store_mid 72 (.tmp 7) (.tmp 40) rfl _ 0 c.cs.toArray rfl rfl (hcb.there 0 2 (by simp)) (by kernel_rfl) c.one ?_
   refine HKK.out _ _ (fun h=>absurd rfl h) ?_
   clear HKK K
   refine ζb.done (by kernel_rfl) ?_
   rw [show∀W b i,World.setCells W b i (Array.toList c.cs.toArray)=setAll W b i c.cs from fun W b i=>ζg _ _ _ _]
   go_wp2_with fail
   go_meet
   case rel=>exact ⟨_,c,rfl,NwM.fin hcb rfl hnb c.ni Rc.out hBw hPb⟩
 case rest=>
 obtain ⟨P3,r3,rfl,H3⟩:=hcut
 obtain ⟨W3,hw⟩: ∃V,V=wc:=⟨_,rfl⟩
 rw [<-hw] at H3⊢
 clear hw wc
 have HB3:=Hid.mk (HB2.out.trans (H3.out.bel.mono HB2.out.size))
 have hS:=HK.out _ HB3.out
 have c1:=(H1.out.c.later H2.out.bel).later H3.out.bel
 have c2:=H2.out.c.later H3.out.bel
 have HV:=Hid.mk ((V3s.vec (l:=⟨r1,r2,r3⟩) ⟨(H1.out.v.later H2.out.bel).later H3.out.bel,H2.out.v.later H3.out.bel,H3.out.v⟩).setAll (LW.mk r1 r2 r3).cells _ 0 hS.1.i0 (LW.ni _))
 have HC:=Hid.mk (hS.1.z.whole (LW.mk r1 r2 r3).cells rfl)
 have HB:=Hid.mk (ζd (b:=w.heap.size+1+1) (by omega) (LW.mk r1 r2 r3).cells _ 0 hS.1.bel)
 have ht:=hS.1.z.there 0 6 (by simp)
 have q1:=c1.range 0 2
 have q2:=c2.range 0 2
 have q3:=H3.out.c.range 0 2
 clear hS HK HK2 HK3 H1 H2 H3 HB1 HB2 HB3 c1 c2
 go_wp2_with (first
  |refine wpList_load_mid rfl 72 (.tmp 5) rfl P1 0 rfl [.bool r1.g,.slice r1.a r1.fs r1.c] _ q1 underlying72 rfl (by kernel_rfl) ?_
  |refine wpList_load_mid rfl 72 (.tmp 6) rfl P2 0 rfl [.bool r2.g,.slice r2.a r2.fs r2.c] _ q2 underlying72 rfl (by kernel_rfl) ?_
  |refine wpList_load_mid rfl 72 (.tmp 7) rfl P3 0 rfl [.bool r3.g,.slice r3.a r3.fs r3.c] _ q3 underlying72 rfl (by kernel_rfl) ?_
  |refine wpList_store_mid rfl 128 (.tmp 4) (.tmp 44) rfl (↑w+1+1) 0 (LW.mk r1 r2 r3).cells.toArray rfl rfl ht (by kernel_rfl) (LW.one _) ?_)
 rw [show∀W b i,World.setCells W b i (Array.toList (LW.mk r1 r2 r3).cells.toArray)=setAll W b i (LW.mk r1 r2 r3).cells from fun W b i=>ζg _ _ _ _]
 exact bodyPost_ret (v:= .agg (LW.mk r1 r2 r3).cells.toArray) (ζy results113 rfl (HC.out.range 0 6) underlying128 rfl (by kernel_rfl)) rfl ⟨_,rfl,HV.out,HB.out⟩
end Go.Proofs.YtfieffpobgcpmaaGreatDoor
