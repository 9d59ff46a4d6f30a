import Derived.Test.YtfieffpobgcpmaaGreatDoorBhJToBgOS
import Derived.Test.YtfieffpobgcpmaaGreatDoorEsGToBgES
import Derived.Test.YtfieffpobgcpmaaGreatDoorHmAFrHS
import Derived.Test.YtfieffpobgcpmaaGreatDoorHoNToRoAS
import Derived.Test.YtfieffpobgcpmaaGreatDoorWiGToMdAS
import Derived.Test.YtfieffpobgcpmaaGreatDoorBgIBgJBhACsASh0S
import Derived.Test.YtfieffpobgcpmaaGreatDoorFrBFrCFrDFwAS
import Derived.Deep.MidRow
import Derived.Deep.RegionHeld3
import Derived.Deep.RegionLaw
import Derived.Test.YtfieffpobgcpmaaGreatDoorDyN2ToEsFS
import Derived.Test.YtfieffpobgcpmaaGreatDoorEsKBgHEsHEsLEsIS
import Derived.Test.YtfieffpobgcpmaaGreatDoorWithinToImVS
set_option maxRecDepth 100000
set_option maxHeartbeats 32000000
namespace Go.Proofs.YtfieffpobgcpmaaGreatDoor
open Go.RowKit Go.Proofs.Tryz
variable {P:Int->Int->Prop} {R:Int×Int×Int×Int} {x k p q y:Int} {A B C O D:V3}
theorem ζM.parts {w:World} {g1 g2 g3:Bool} {a1 a2 a3:Option Addr} {n1 n2 n3 c1 c2 c3 e:Nat} {A B C:Int} (h:ζM w (.agg #[g1,.slice a1 n1 c1,g2,.slice a2 n2 c2,g3,.slice a3 n3 c3]) e A B C):ζe w (.agg #[g1,.slice a1 n1 c1]) e A∧ζe w (.agg #[g2,.slice a2 n2 c2]) e B∧ζe w (.agg #[g3,.slice a3 n3 c3]) e C:=by
 obtain ⟨g1',a1',c1',z1',g2',a2',c2',z2',g3',a3',c3',z3',he,h1,h2,h3⟩:=h
 simp only [Value.agg.injEq,Array.mk.injEq,List.cons.injEq,Value.bool.injEq,Value.slice.injEq,and_true] at he
 obtain ⟨rfl,⟨rfl,rfl,rfl⟩,rfl,⟨rfl,rfl,rfl⟩,rfl,rfl,rfl,rfl⟩:=he
 exact ⟨h1,h2,h3⟩
theorem ixB0 (u0 u1 u2 u3 u4 u5:Value) (w:World):(Instr.index 92 (.agg #[u0,u1,u2,u3,u4,u5]) (.int .i64 0)).run prog w= .ok (.agg #[u0,u1]) w:=by
 kernel_rfl
theorem ixB1 (u0 u1 u2 u3 u4 u5:Value) (w:World):(Instr.index 92 (.agg #[u0,u1,u2,u3,u4,u5]) (.int .i64 1)).run prog w= .ok (.agg #[u2,u3]) w:=by
 kernel_rfl
theorem ixB2 (u0 u1 u2 u3 u4 u5:Value) (w:World):(Instr.index 92 (.agg #[u0,u1,u2,u3,u4,u5]) (.int .i64 2)).run prog w= .ok (.agg #[u4,u5]) w:=by
 kernel_rfl
theorem ρo (v:Value) (m k:Nat) (S:Int) (O D:V3) (w:World) (hm:m<=30000) (hl:ξi w v m k S O D):
 Calls prog 110 #[v] w fun o w'=>o= .returned (.bool (decide (D.x=0∧D.y=0∧D.z=0)))∧Below w w w':=by
 obtain ⟨gs1,as1,cs1,zs1,gs2,as2,cs2,zs2,gs3,as3,cs3,zs3,gd1,ad1,cd1,zd1,gd2,ad2,cd2,zd2,gd3,ad3,cd3,zd3,gk,ak,ck,zk,rfl,_,hD,_⟩:=hl
 obtain ⟨d1,d2,d3⟩:=hD.parts
 have H1:Hid (∀w',Below w w w'->ζe w' (.agg #[gd1,.slice ad1 zd1 cd1]) m D.x):=fun w' hb=>d1.later hb
 have H2:Hid (∀w',Below w w w'->ζe w' (.agg #[gd2,.slice ad2 zd2 cd2]) m D.y):=fun w' hb=>d2.later hb
 have H3:Hid (∀w',Below w w w'->ζe w' (.agg #[gd3,.slice ad3 zd3 cd3]) m D.z):=fun w' hb=>d3.later hb
 clear hD d1 d2 d3
 go_enter func110,ntmps110
 go_wp2
 go_loopw [4,7] (fun _ si wr=> ∃(i:Nat),i<=3∧si= .int .i64 i∧Hid ((0<i->D.x=0)∧(1<i->D.y=0)∧(2<i->D.z=0))∧Hid (Below w w wr)) (fun _ si _=>3-(intOf si).toNat)
 case atStart=>exact ⟨0,by omega,rfl,⟨fun h=>absurd h (by omega),fun h=>absurd h (by omega),fun h=>absurd h (by omega)⟩,ζc _ _⟩
 case round=>
  obtain ⟨i,hi,rfl,HA,hb⟩:=hrel
  by_cases hlt:i<3
  ·rcases (by omega:i=0∨i=1∨i=2) with rfl|rfl|rfl
   ·have ix:=ixB0
    go_wp2_with fail
    refine (ζA _ m D.x _ hm (H1.out _ ?hB1)).mono ?_
    case hB1=>exact hb.out.trans (Below.mono (by first|exact ζc _ _|exact ((ζc _ _).setCell (by simp) _).setCell (by simp) _) hb.out.size)
    rintro o w1 ⟨rfl,hb1⟩
    have HB1:Hid (Below w w w1):=(hb.out.trans (Below.mono (by first|exact ζc _ _|exact ((ζc _ _).setCell (by simp) _).setCell (by simp) _) hb.out.size)).trans (hb1.mono (by have:=hb.out.size;simp<;>omega))
    clear hb1 hb
    by_cases hz:D.x=0
    ·have e0:sgn D.x=0:=by rw [hz];rfl
     rw [e0]
     go_wp2
     go_roundw
     case rel=>exact ⟨1,by omega,by go_num,⟨fun _=>hz,fun h=>absurd h (by omega),fun h=>absurd h (by omega)⟩,HB1⟩
     case measure=>simp [intOf]
    ·have e1:sgn D.x≠0:=fun e=>hz (by unfold sgn at e;split at e<;>(try split at e)<;>omega)
     generalize sgn D.x=s at*
     go_wp2
     go_ret
     exact ⟨ξj (by simp [hz]),HB1.out⟩
   ·have ix:=ixB1
    go_wp2_with fail
    refine (ζA _ m D.y _ hm (H2.out _ ?hB2)).mono ?_
    case hB2=>exact hb.out.trans (Below.mono (by first|exact ζc _ _|exact ((ζc _ _).setCell (by simp) _).setCell (by simp) _) hb.out.size)
    rintro o w1 ⟨rfl,hb1⟩
    have HB1:Hid (Below w w w1):=(hb.out.trans (Below.mono (by first|exact ζc _ _|exact ((ζc _ _).setCell (by simp) _).setCell (by simp) _) hb.out.size)).trans (hb1.mono (by have:=hb.out.size;simp<;>omega))
    clear hb1 hb
    by_cases hz:D.y=0
    ·have e0:sgn D.y=0:=by rw [hz];rfl
     rw [e0]
     go_wp2
     go_roundw
     case rel=>exact ⟨2,by omega,by go_num,⟨fun _=>HA.out.1 (by omega),fun _=>hz,fun h=>absurd h (by omega)⟩,HB1⟩
     case measure=>simp [intOf]
    ·have e1:sgn D.y≠0:=fun e=>hz (by unfold sgn at e;split at e<;>(try split at e)<;>omega)
     generalize sgn D.y=s at*
     go_wp2
     go_ret
     exact ⟨ξj (by simp [hz]),HB1.out⟩
   ·have ix:=ixB2
    go_wp2_with fail
    refine (ζA _ m D.z _ hm (H3.out _ ?hB3)).mono ?_
    case hB3=>exact hb.out.trans (Below.mono (by first|exact ζc _ _|exact ((ζc _ _).setCell (by simp) _).setCell (by simp) _) hb.out.size)
    rintro o w1 ⟨rfl,hb1⟩
    have HB1:Hid (Below w w w1):=(hb.out.trans (Below.mono (by first|exact ζc _ _|exact ((ζc _ _).setCell (by simp) _).setCell (by simp) _) hb.out.size)).trans (hb1.mono (by have:=hb.out.size;simp<;>omega))
    clear hb1 hb
    by_cases hz:D.z=0
    ·have e0:sgn D.z=0:=by rw [hz];rfl
     rw [e0]
     go_wp2
     go_roundw
     case rel=>exact ⟨3,by omega,by go_num,⟨fun _=>HA.out.1 (by omega),fun _=>HA.out.2.1 (by omega),fun _=>hz⟩,HB1⟩
     case measure=>simp [intOf]
    ·have e1:sgn D.z≠0:=fun e=>hz (by unfold sgn at e;split at e<;>(try split at e)<;>omega)
     generalize sgn D.z=s at*
     go_wp2
     go_ret
     exact ⟨ξj (by simp [hz]),HB1.out⟩
  ·obtain rfl:i=3:=by omega
   have HAA:=HA.out
   go_wp2
   go_ret
   exact ⟨ξj (by rw [decide_eq_true];exact ⟨HAA.1 (by omega),HAA.2.1 (by omega),HAA.2.2 (by omega)⟩),hb.out⟩
def φy (P:Int->Int->Prop):Prop:= ∃p q,0<p∧p<q∧P p q
theorem φy.congr {Q:Int->Int->Prop} (h: ∀p q,0<p->p<q->(P p q↔Q p q)):φy P↔φy Q:=
 ⟨fun ⟨p,q,h0,h1,hp⟩=>⟨p,q,h0,h1,(h p q h0 h1).mp hp⟩,fun ⟨p,q,h0,h1,hp⟩=>⟨p,q,h0,h1,(h p q h0 h1).mpr hp⟩⟩
theorem ξg.shade {a b c d:Int} (h:ξg P a b c d):(0<c∧a<b)↔φy P:=by
 have hb:=h.hb
 have hd0:=h.d0
 have hle:=h.le
 constructor
 ·rintro ⟨hc,hab⟩
  rcases Int.lt_or_le 0 a with ha|ha
  ·exact ⟨a,b,ha,hab,(h.is a b hb).mpr ⟨Int.le_refl _,hle⟩⟩
  ·have hq:0<c+c+d:=by omega
   refine ⟨c,c+c+d,hc,by omega,(h.is c (c+c+d) hq).mpr ⟨?_,?_⟩⟩
   ·have h1:a*(c+c+d)<=0:=Int.mul_nonpos_of_nonpos_of_nonneg ha (Int.le_of_lt hq)
    have h2:0<c*b:=Int.mul_pos hc hb
    omega
   ·exact Int.mul_le_mul_of_nonneg_left (by omega) (Int.le_of_lt hc)
 ·rintro ⟨p,q,h0,h1,hp⟩
  have hq:0<q:=by omega
  obtain ⟨k1,k2⟩:=(h.is p q hq).mp hp
  refine ⟨?_,?_⟩
  ·rcases h.hd with hd| ⟨_,hc⟩
   ·have h2:=Int.mul_pos h0 hd
    rcases Int.lt_or_le 0 c with hc|hc
    ·exact hc
    ·have:=Int.mul_nonpos_of_nonpos_of_nonneg hc (Int.le_of_lt hq);omega
   ·exact hc
  ·have h2:p*b<q*b:=Int.mul_lt_mul_of_pos_right h1 hb
   refine Int.lt_of_mul_lt_mul_left (a:=q) ?_ (Int.le_of_lt hq)
   rw [Int.mul_comm q a];omega
theorem Met.shade (h:Met P R):(0<R.2.2.1∧R.1<R.2.1)↔φy P:=by
 rcases h with h| ⟨h,rfl⟩
 ·exact h.shade
 ·refine ⟨fun k=>absurd k.1 (by decide),fun ⟨p,q,h0,h1,hp⟩=>absurd hp (h p q (by omega))⟩
theorem τG:sgn x<0↔x<0:=by
 rcases sgn_cases x with ⟨h,e⟩| ⟨h,e⟩| ⟨h,e⟩<;>rw [e]<;>omega
theorem ν3:0<sgn x↔0<x:=by
 rcases sgn_cases x with ⟨h,e⟩| ⟨h,e⟩| ⟨h,e⟩<;>rw [e]<;>omega
def φG (A B C O D L:V3) (p q:Int):Prop:=
 ¬(((V3.sc q L).sub (pnt O D p q)).x=0∧((V3.sc q L).sub (pnt O D p q)).y=0∧((V3.sc q L).sub (pnt O D p q)).z=0)∧
 φy (ζs (V3.sc q A) (V3.sc q B) (V3.sc q C) (pnt O D p q) ((V3.sc q L).sub (pnt O D p q)))
theorem τH (hk:0<k) (v:V3):((V3.sc k v).x=0∧(V3.sc k v).y=0∧(V3.sc k v).z=0)↔(v.x=0∧v.y=0∧v.z=0):=by
 simp only [V3.sc,Int.mul_eq_zero,show¬k=0 by omega,false_or]
theorem ν4 (k:Int) (O D:V3) (p q:Int):pnt O D (k*p) (k*q)=V3.sc k (pnt O D p q):=by
 simp only [pnt,V3.sc,V3.mk.injEq];grind
theorem ν5 (k:Int) (O D:V3) (p q:Int):pnt (V3.sc k O) (V3.sc k D) p q=V3.sc k (pnt O D p q):=by
 simp only [pnt,V3.sc,V3.mk.injEq];grind
theorem τe (k q:Int) (A:V3):V3.sc (k*q) A=V3.sc k (V3.sc q A):=by
 simp only [V3.sc,V3.mk.injEq];grind
theorem τf (k q:Int) (A:V3):V3.sc q (V3.sc k A)=V3.sc k (V3.sc q A):=by
 simp only [V3.sc,V3.mk.injEq];grind
theorem χS (hk:0<k) (A B C O D L:V3) (p q:Int):φG A B C O D L (k*p) (k*q)↔φG A B C O D L p q:=by
 unfold φG
 rw [ν4,τe,τe,τe,τe,ψ6,τH hk,φy.congr fun x y _ _=>ζs.scale k hk _ _ _ _ _ x y]
theorem σM (hk:0<k) {L A' B' C' O' D' L':V3} (ha:V3.sc k A=A') (hb:V3.sc k B=B') (hc:V3.sc k C=C') (ho:V3.sc k O=O') (hd:V3.sc k D=D') (hl:V3.sc k L=L') (p q:Int):φG A' B' C' O' D' L' p q↔φG A B C O D L p q:=by
 unfold φG
 rw [<-ha,<-hb,<-hc,<-ho,<-hd,<-hl,ν5,τf k q A,τf k q B,τf k q C,τf k q L,ψ6,τH hk,φy.congr fun x y _ _=>ζs.scale k hk _ _ _ _ _ x y]
theorem σN {L:V3} {p' q':Int} (hq:0<q) (hq':0<q') (e:p*q'=p'*q):φG A B C O D L p q↔φG A B C O D L p' q':=by
 rw [<-χS hq',<-χS hq (p:=p'),show q'*p=q*p' by rw [Int.mul_comm,e,Int.mul_comm],Int.mul_comm q' q]
theorem τg (A B C O D L:V3) (p q:Int):φG B A C O D L p q↔φG A B C O D L p q:=by
 unfold φG
 rw [φy.congr fun x y _ _=>(σt _ _ _ _ _ x y).trans (σu _ _ _ _ _ x y)]
theorem θ0 (A O D:V3) (p q x y:Int):at3 (pnt O D p q) ((V3.sc q O).sub (pnt O D p q)) (V3.sc q A) x y=at3 O D A (p*(y-x)) (q*y):=by
 simp only [at3,pnt,V3.sc,V3.sub,V3.mk.injEq];grind
theorem χT (hq:0<q) (hp:0<=p) (hx:0<=x) (hxy:x<=y):ζs (V3.sc q A) (V3.sc q B) (V3.sc q C) (pnt O D p q) ((V3.sc q O).sub (pnt O D p q)) x y↔ζs A B C O D (p*(y-x)) (q*y):=by
 have h2:=Int.mul_pos hq hq
 have h4:=Int.mul_pos h2 h2
 have hxp:0<=p*(y-x):=Int.mul_nonneg hp (by omega)
 have e3: ∀n e z:V3,(V3.sc (q*q) n).dot ((V3.sc q e).cross z)=q*q*q*n.dot (e.cross z):=by
  intro n e z;simp only [V3.sc,V3.dot,V3.cross];grind
 have e1: ∀n z:V3,(V3.sc (q*q) n).dot z=q*q*n.dot z:=by
  intro n z;simp only [V3.sc,V3.dot];grind
 have h3:=Int.mul_pos h2 hq
 unfold ζs
 rw [ζ6,ζ6,θ0,θ0,θ0,ξ7,θb,ψ6,ψ6,ψ6,e1,e3,e3,e3]
 rw [ψu h2 rfl,ξB h3 rfl,ξB h3 rfl,ξB h3 rfl]
 have hz:q*q*(q*q)*(nrm A B C).dot (nrm A B C)≠0↔(nrm A B C).dot (nrm A B C)≠0:=not_congr (ψu h4 rfl)
 rw [hz]
 constructor<;>rintro ⟨k1,_,k⟩
 ·exact ⟨k1,hxp,k⟩
 ·exact ⟨k1,hx,k⟩
theorem θk (hq:0<q) (hp:0<=p) (hd:D.x≠0∨D.y≠0∨D.z≠0):φG A B C O D O p q↔0<p∧ ∃x y,0<x∧x<y∧ζs A B C O D (p*(y-x)) (q*y):=by
 unfold φG
 have e:(V3.sc q O).sub (pnt O D p q)=⟨-(D.x*p),-(D.y*p),-(D.z*p)⟩:=by
  simp only [pnt,V3.sc,V3.sub,V3.mk.injEq];grind
 have hz: ¬(((V3.sc q O).sub (pnt O D p q)).x=0∧((V3.sc q O).sub (pnt O D p q)).y=0∧((V3.sc q O).sub (pnt O D p q)).z=0)↔0<p:=by
  rw [e]
  simp only [Int.neg_eq_zero,Int.mul_eq_zero]
  omega
 rw [hz]
 refine and_congr_right fun _=>⟨fun ⟨x,y,h0,h1,h⟩=>⟨x,y,h0,h1,(χT hq hp (by omega) (by omega)).mp h⟩,fun ⟨x,y,h0,h1,h⟩=>⟨x,y,h0,h1,(χT hq hp (by omega) (by omega)).mpr h⟩⟩
theorem νx (hR:Met (ζs A B C O D) R) (hq:0<q) (hp:0<=p) (hd:D.x≠0∨D.y≠0∨D.z≠0) (h:0<=sgn (R.1*q-p*R.2.1)): ¬φG A B C O D O p q:=by
 rw [θk hq hp hd]
 rintro ⟨h0,x,y,h1,h2,hm⟩
 rw [φw] at h
 have hy:0<q*y:=Int.mul_pos hq (by omega)
 rcases hR with hs| ⟨hs,_⟩
 ·have h3:=hs.least.2 _ _ hy hm
  have h4:p*R.2.1*(y-x)<p*R.2.1*y:=Int.mul_lt_mul_of_pos_left (by omega) (Int.mul_pos h0 hs.hb)
  have h5:p*R.2.1*y<=R.1*q*y:=Int.mul_le_mul_of_nonneg_right (by omega) (by omega)
  have e1:p*(y-x)*R.2.1=p*R.2.1*(y-x):=by grind
  have e2:R.1*(q*y)=R.1*q*y:=by grind
  omega
 ·exact hs _ _ hy hm
theorem τh (hR:Met (ζs A B C O D) R) (hq:0<q) (hp:0<=p) (hd:D.x≠0∨D.y≠0∨D.z≠0) (h:sgn (R.1*q-p*R.2.1)<0):0<R.2.1∧(φG A B C O D O p q∨R.1=0):=by
 have h':R.1*q-p*R.2.1<0:=by
  rcases Int.lt_or_le (R.1*q-p*R.2.1) 0 with k|k
  ·exact k
  ·have:=φw.mpr k;omega
 rcases hR with hs| ⟨_,rfl⟩
 ·refine ⟨hs.hb,?_⟩
  have ha:0<=R.1:=((ζ6 _ _ _ _ _ _ _).mp hs.least.1.2).1
  rcases Int.lt_or_le 0 R.1 with h0|h0
  ·left
   have hpp:0<p:=by
    rcases Int.lt_or_le 0 p with k|k
    ·exact k
    ·have:p=0:=by omega
     subst this
     have:=Int.mul_nonneg ha (Int.le_of_lt hq);omega
   have hk:=Int.mul_pos hpp hq
   rw [θk hq hp hd]
   refine ⟨hpp,R.2.1*p-R.1*q,R.2.1*p,by have:=Int.mul_comm p R.2.1;omega,by have:=Int.mul_pos h0 hq;omega,?_⟩
   have e1:p*(R.2.1*p-(R.2.1*p-R.1*q))=p*q*R.1:=by grind
   have e2:q*(R.2.1*p)=p*q*R.2.1:=by grind
   rw [e1,e2]
   refine (hs.is _ _ (Int.mul_pos hk hs.hb)).mpr ⟨?_,?_⟩
   ·rw [show R.1*(p*q*R.2.1)=p*q*R.1*R.2.1 by grind];exact Int.le_refl _
   ·rw [show p*q*R.1*R.2.2.2=p*q*(R.1*R.2.2.2) by grind,show R.2.2.1*(p*q*R.2.1)=p*q*(R.2.2.1*R.2.1) by grind]
    exact Int.mul_le_mul_of_nonneg_left hs.le (Int.le_of_lt hk)
  ·right;omega
 ·simp at h';omega
def ShdO (w:World) (ok:Bool) (P Q:Int->Int->Prop) (o:Ending) (w':World):Prop:=
 Below w w w'∧(((ok=false∨ζ5 P)∧o= .returned (.tuple #[false,.int .i64 1]))∨(ok=true∧ ∃a b c d g,ξg P a b c d∧(g=true↔Q a b)∧o= .returned (.tuple #[.bool g,.int .i64 0])))
theorem ShdO.bad {w w':World} {ok:Bool} {Q:Int->Int->Prop} (hb:Below w w w') (h:ok=false∨ζ5 P):ShdO w ok P Q (.returned (.tuple #[false,.int .i64 1])) w':=⟨hb,.inl ⟨h,rfl⟩⟩
theorem θl (v:Value) (m k:Nat) (S:Int) (O D:V3) (t0 t1 t2 t3 t4 t5 t6 t7 t8:Int) (w:World) (hm:277<=m) (hmk:3*m+2*k<=28000) (hS:0<S) (hT:Tab w) (hco:ζH w v m k S O D) (q0:Cor t0) (q1:Cor t1) (q2:Cor t2) (q3:Cor t3) (q4:Cor t4) (q5:Cor t5) (q6:Cor t6) (q7:Cor t7) (q8:Cor t8):
 Calls prog 61 #[v,.agg #[t0,t1,t2,t3,t4,t5,t6,t7,t8]] w fun o w'=>νV w (¬(D.x=0∧D.y=0∧D.z=0)∧φy (ζs (V3.sc S (pv t0 t1 t2)) (V3.sc S (pv t3 t4 t5)) (V3.sc S (pv t6 t7 t8)) O D)) o w':=by
 have hcc:=hco
 obtain ⟨l0,l1,l2,l3,l4,l5,l6,l7,l8,l9,l10,l11,l12,l13,l14,l15,l16,l17,l18,l19,l20,l21,l22,l23,l24,l25,l26,l27,rfl,_,hB28⟩:=hco
 have HCO:Hid (∀w',Below w w w'->ζH w' (.agg #[l0,l1,l2,l3,l4,l5,l6,l7,l8,l9,l10,l11,l12,l13,l14,l15,l16,l17,l18,l19,l20,l21,l22,l23,l24,l25,l26,l27]) m k S O D):=fun w' hb=>hcc.later hb
 have HLB:Hid (∀w',Below w w w'->ξi w' (.agg #[l14,l15,l16,l17,l18,l19,l20,l21,l22,l23,l24,l25,l26,l27]) m k S O D):=fun w' hb=>hB28.later hb
 have HT:Hid (∀w',Below w w w'->Tab w'):=fun w' hb=>hT.later hb
 have HD0:Hid (Tw w [l0,l1,l2,l3,l4,l5,l6,l7,l8,l9,l10,l11,l12,l13,l14,l15,l16,l17,l18,l19,l20,l21,l22,l23,l24,l25,l26,l27] [t0,t1,t2,t3,t4,t5,t6,t7,t8] ((w.alloc (.cells #[l0,l1,l2,l3,l4,l5,l6,l7,l8,l9,l10,l11,l12,l13,l14,l15,l16,l17,l18,l19,l20,l21,l22,l23,l24,l25,l26,l27] 96)).alloc (.cells #[t0,t1,t2,t3,t4,t5,t6,t7,t8] 36))):=Tw.start w _ _ _ _
 have hr0:=HD0.out.t.range 14 14
 clear hcc hT hB28
 go_enter func61,ntmps61
 go_wp2_with (refine wpList_load_mid rfl 94 (.tmp 6) rfl w 14 rfl [l14,l15,l16,l17,l18,l19,l20,l21,l22,l23,l24,l25,l26,l27] _ hr0 underlying94 rfl (by kernel_rfl) ?_)
 refine (ρo _ m k S O D _ (by omega) (HLB.out _ HD0.out.bel)).mono ?_
 rintro o w1 ⟨rfl,hb1⟩
 have HD1:=Hid.mk (HD0.out.later hb1)
 clear hb1 HD0 hr0
 by_cases h0:D.x=0∧D.y=0∧D.z=0
 ·rw [decide_eq_true h0]
  have H0:=Hid.mk h0
  clear h0
  go_wp2
  refine bodyPost_ret (v:= .bool false) (by simp [results,results61,go_sem]) rfl ?_
  exact ⟨false,rfl,⟨fun h=>(by cases h),fun h=>absurd H0.out h.1⟩,HD1.out.bel⟩
 rw [decide_eq_false h0]
 have H0:=Hid.mk h0
 have hr1:=HD1.out.t.range 0 28
 have hr2:=HD1.out.r.range 0 9
 clear h0
 go_wp2_with (first|refine wpList_load_mid rfl 96 (.tmp 2) rfl w 0 rfl [l0,l1,l2,l3,l4,l5,l6,l7,l8,l9,l10,l11,l12,l13,l14,l15,l16,l17,l18,l19,l20,l21,l22,l23,l24,l25,l26,l27] _ hr1 underlying96 rfl (by kernel_rfl) ?_|refine wpList_load_mid rfl 36 (.tmp 3) rfl (↑w+1) 0 rfl [t0,t1,t2,t3,t4,t5,t6,t7,t8] _ hr2 underlying36 rfl (by kernel_rfl) ?_)
 refine (χj _ m k S O D t0 t1 t2 t3 t4 t5 t6 t7 t8 _ hm hmk hS (HT.out _ HD1.out.bel) (HCO.out _ HD1.out.bel) q0 q1 q2 q3 q4 q5 q6 q7 q8).mono ?_
 rintro o w2 ⟨R,hM,v2,rfl,hv2,hb2⟩
 have HM:=Hid.mk hM
 obtain ⟨g1,a1,c1,z1,g2,a2,c2,z2,g3,a3,c3,z3,g4,a4,c4,z4,rfl,k1,k2,k3,k4⟩:=hv2
 have HB2:Hid (Below w w w2):=HD1.out.bel.trans (hb2.mono HD1.out.bel.size)
 have HN:Hid (∃w4,World.setCells (w2.alloc (.cells #[false,(),false,(),false,(),false,()] 83)) w2 0 (Array.toList #[g1,.slice a1 z1 c1,g2,.slice a2 z2 c2,g3,.slice a3 z3 c3,g4,.slice a4 z4 c4])=w4∧Below w2 w2 w4∧Cs w4 w2 [g1,.slice a1 z1 c1,g2,.slice a2 z2 c2,g3,.slice a3 z3 c3,g4,.slice a4 z4 c4]):=by
  refine ⟨_,rfl,?_⟩
  rw [show World.setCells (w2.alloc (.cells #[false,(),false,(),false,(),false,()] 83)) w2 0 (Array.toList #[g1,.slice a1 z1 c1,g2,.slice a2 z2 c2,g3,.slice a3 z3 c3,g4,.slice a4 z4 c4])=setAll (w2.alloc (.cells #[false,(),false,(),false,(),false,()] 83)) w2 0 [g1,.slice a1 z1 c1,g2,.slice a2 z2 c2,g3,.slice a3 z3 c3,g4,.slice a4 z4 c4] from ζg _ _ _ _]
  exact ⟨ζd (Nat.le_refl _) [g1,.slice a1 z1 c1,g2,.slice a2 z2 c2,g3,.slice a3 z3 c3,g4,.slice a4 z4 c4] _ 0 (ζc _ _),(Cs.new w2 #[false,(),false,(),false,(),false,()] 83).whole [g1,.slice a1 z1 c1,g2,.slice a2 z2 c2,g3,.slice a3 z3 c3,g4,.slice a4 z4 c4] rfl⟩
 have HZ:Hid (Cs (w2.alloc (.cells #[false,(),false,(),false,(),false,()] 83)) w2 [false,(),false,(),false,(),false,()]):=Cs.new _ _ _
 obtain ⟨w4,e4,b4,hq⟩:=HN.out
 have HE4:=Hid.mk e4
 have HQ:=Hid.mk hq
 have HB4:Hid (Below w w w4):=HB2.out.trans (b4.mono HB2.out.size)
 have HV:=Hid.mk (And.intro (k1.later b4) (And.intro (k2.later b4) (And.intro (k3.later b4) trivial)))
 clear HN hM k1 k2 k3 k4 hb2 HD1 hr1 hr2 e4 hq b4 HCO HLB HB2
 go_wp2_with (refine wpList_store_mid rfl 83 (.tmp 5) (.tmp 11) rfl w2 0 #[g1,.slice a1 z1 c1,g2,.slice a2 z2 c2,g3,.slice a3 z3 c3,g4,.slice a4 z4 c4] rfl rfl (HZ.out.there 0 8 (by simp)) (by kernel_rfl) (all_oneCell_toArray (by simp [Value.oneCell'])) ?_;rw [HE4.out])
 clear HZ HE4
 have HK:Hid (∀w',Below w4 w4 w'->w'.cell? ⟨w2,0,none⟩=some ↑g1∧w'.cell? ⟨w2,1,none⟩=some (.slice a1 z1 c1)∧w'.cell? ⟨w2,2,none⟩=some ↑g2∧w'.cell? ⟨w2,3,none⟩=some (.slice a2 z2 c2)∧w'.cell? ⟨w2,4,none⟩=some ↑g3∧w'.cell? ⟨w2,5,none⟩=some (.slice a3 z3 c3)∧w'.cell? ⟨w2,6,none⟩=some ↑g4∧w'.cell? ⟨w2,7,none⟩=some (.slice a4 z4 c4)∧Below w4 w4 w'):=fun w' hb=>⟨(HQ.out.later hb).at 0 rfl,(HQ.out.later hb).at 1 rfl,(HQ.out.later hb).at 2 rfl,(HQ.out.later hb).at 3 rfl,(HQ.out.later hb).at 4 rfl,(HQ.out.later hb).at 5 rfl,(HQ.out.later hb).at 6 rfl,(HQ.out.later hb).at 7 rfl,hb⟩
 have hB0:Below w4 w4 w4.drew:=(Below.refl _ _).drew
 have K0:=HK.out _ hB0
 rcases sgn_cases R.2.2.1 with ⟨hc,e⟩| ⟨hc,e⟩| ⟨hc,e⟩
 case inr.inr=>
  have HC:=Hid.mk hc
  clear hc
  go_region_held3 (fun w'=>w'.cell? ⟨w2,0,none⟩=some ↑g1∧w'.cell? ⟨w2,1,none⟩=some (.slice a1 z1 c1)∧w'.cell? ⟨w2,2,none⟩=some ↑g2∧w'.cell? ⟨w2,3,none⟩=some (.slice a2 z2 c2)∧w'.cell? ⟨w2,4,none⟩=some ↑g3∧w'.cell? ⟨w2,5,none⟩=some (.slice a3 z3 c3)∧w'.cell? ⟨w2,6,none⟩=some ↑g4∧w'.cell? ⟨w2,7,none⟩=some (.slice a4 z4 c4)∧Below w4 w4 w') (first|with_reducible assumption|with_reducible exact HK.out _ (hB5.trans ((ζc _ _).mono hB5.size))|with_reducible exact HK.out _ (hB4.trans ((ζc _ _).mono hB4.size))|with_reducible exact HK.out _ (hB3.trans ((ζc _ _).mono hB3.size))|with_reducible exact HK.out _ (hB2.trans ((ζc _ _).mono hB2.size))|with_reducible exact HK.out _ (hB1.trans ((ζc _ _).mono hB1.size))|with_reducible exact HK.out _ (hB0.trans ((ζc _ _).mono hB0.size)))
   (first
    |(have hBB:=hB4;clear hBB;go_at_call 50;refine (ψ4 _ v8 (m+k+843) R.1 R.2.1 1 1 _ (by omega) ((ζO.of HV.out.1 HV.out.2.1).later hB4) hv8).mono ?_;rintro o w9 ⟨rfl,hb5⟩;have hB5:Below w4 w4 w9:=(by first|exact hB4.trans (hb5.mono hB4.size)|exact (hB4.trans ((ζc _ _).mono hB4.size)).trans (hb5.mono (hB4.trans ((ζc _ _).mono hB4.size)).size));have K5:=HK.out _ hB5)
    |(have hBB:=hB3;clear hBB;go_at_call 83;refine (χL _ _ (m+k+843) 1 1 _ (by first|exact H6|exact H7) (by first|exact H7|exact H6) (by decide)).mono ?_;rintro o w8 ⟨v8,rfl,hv8,hb4,_⟩;have hB4:Below w4 w4 w8:=(by first|exact hB3.trans (hb4.mono hB3.size)|exact (hB3.trans ((ζc _ _).mono hB3.size)).trans (hb4.mono (hB3.trans ((ζc _ _).mono hB3.size)).size));have K4:=HK.out _ hB4)
    |(have hBB:=hB2;clear hBB;go_at_call 79;refine (ωa _).mono ?_;rintro o w7 ⟨v7,rfl,hv7,hb3⟩;have hB3:Below w4 w4 w7:=(by first|exact hB2.trans (hb3.mono hB2.size)|exact (hB2.trans ((ζc _ _).mono hB2.size)).trans (hb3.mono (hB2.trans ((ζc _ _).mono hB2.size)).size));have K3:=HK.out _ hB3;have H7:=hv7.up (Nat.zero_le (m+k+843));replace H6:=H6.later hb3)
    |(have hBB:=hB1;clear hBB;go_at_call 79;refine (ωa _).mono ?_;rintro o w6 ⟨v6,rfl,hv6,hb2⟩;have hB2:Below w4 w4 w6:=(by first|exact hB1.trans (hb2.mono hB1.size)|exact (hB1.trans ((ζc _ _).mono hB1.size)).trans (hb2.mono (hB1.trans ((ζc _ _).mono hB1.size)).size));have K2:=HK.out _ hB2;have H6:=hv6.up (Nat.zero_le (m+k+843)))
    |(go_at_call 87;refine (ζA _ (m+k+843) R.2.2.1 _ (by omega) (HV.out.2.2.1.later (by first|exact hB0|exact hB0.trans ((ζc _ _).mono hB0.size)))).mono ?_;rintro o w5 ⟨rfl,hb1⟩;rw [e];have hB1:Below w4 w4 w5:=(by first|exact hB0.trans (hb1.mono hB0.size)|exact (hB0.trans ((ζc _ _).mono hB0.size)).trans (hb1.mono (hB0.trans ((ζc _ _).mono hB0.size)).size));have K1:=HK.out _ hB1))
  all_goals
   go_wp2_with fail
   refine bodyPost_ret (v:= .bool (decide (sgn (R.1*1-1*R.2.1)<0))) (by simp [results,results61,go_sem]) rfl ?_
   refine ⟨_,rfl,?_,HB4.out.trans (hB5.mono HB4.out.size)⟩
   rw [decide_eq_true_eq,τG,Int.mul_one,Int.one_mul,<-HM.out.shade]
   exact ⟨fun h=>⟨H0.out,HC.out,by omega⟩,fun h=>by have:=h.2.2;omega⟩
 all_goals
  have HC:Hid (R.2.2.1<=0):=by unfold Hid;omega
  clear hc
  obtain ⟨y0,y1,y2,y3,y4,y5,y6,y7,_⟩:=K0
  first
   |go_region_law (go_simp;refine (ζA _ (m+k+843) R.2.2.1 _ (by omega) (HV.out.2.2.1.later hB0)).mono ?_;rintro o w5 ⟨rfl,hb1⟩;rw [e];have hB1:=hB0.trans (hb1.mono hB0.size))
   |fail "no"
  all_goals
   go_wp2_with fail
   refine bodyPost_ret (v:= .bool false) (by simp [results,results61,go_sem]) rfl ?_
   refine ⟨false,rfl,⟨fun h=>(by cases h),fun h=> ?_⟩,HB4.out.trans (hB1.mono HB4.out.size)⟩
   have:=HM.out.shade.mpr h.2
   have:=HC.out
   omega
theorem σO (h0:0<=x) (h1:x<4294967296) (h:χh x=false):cor x≠0:=by
 have h':x%2147483648≠0:=by simpa [χh] using h
 intro e
 unfold cor at e
 rcases Int.mul_eq_zero.mp e with e|e
 ·unfold ξ8 ξf at e
  split at e<;>split at e<;>omega
 ·exact absurd e (Int.ne_of_gt (Int.pow_pos (by decide)))
theorem τI {z:Int} (hx:Cor x) (hy:Cor y) (hz:Cor z) (h:ζD x y z=false):(pv x y z).x≠0∨(pv x y z).y≠0∨(pv x y z).z≠0:=by
 unfold ζD at h
 rw [Bool.and_eq_false_iff,Bool.and_eq_false_iff] at h
 rcases h with (h|h)|h
 ·exact .inl (σO hx.h0 hx.h1 h)
 ·exact .inr (.inl (σO hy.h0 hy.h1 h))
 ·exact .inr (.inr (σO hz.h0 hz.h1 h))
theorem θm {z:Int} (hx:Cor x) (hy:Cor y) (hz:Cor z):ξD (2^277) (pv x y z):=⟨χa hx.h0 hx.hf,χa hy.h0 hy.hf,χa hz.h0 hz.hf⟩
theorem θ1 {o d K:Int} (hq:0<q) (h: -(q*K)<=o*q+d*p∧o*q+d*p<=q*K) (ho: -K<=o∧o<=K): -(q*(K*2))<=p*d∧p*d<=q*(K*2):=by
 have h1:=Int.mul_le_mul_of_nonneg_right ho.1 (Int.le_of_lt hq)
 have h2:=Int.mul_le_mul_of_nonneg_right ho.2 (Int.le_of_lt hq)
 have e1: -K*q= -(q*K):=by grind
 have e2:K*q=q*K:=Int.mul_comm _ _
 have e3:q*(K*2)=q*K+q*K:=by grind
 have e4:d*p=p*d:=Int.mul_comm _ _
 omega
theorem νy (hq:0<q) (h:ξD (q*2^277) (pnt O D p q)) (hO:ξD (2^277) O):ξD (q*2^278) (V3.sc p D):=by
 rw [Int.pow_succ 2 277]
 exact ⟨θ1 hq h.1 hO.1,θ1 hq h.2.1 hO.2.1,θ1 hq h.2.2 hO.2.2⟩
end Go.Proofs.YtfieffpobgcpmaaGreatDoor
