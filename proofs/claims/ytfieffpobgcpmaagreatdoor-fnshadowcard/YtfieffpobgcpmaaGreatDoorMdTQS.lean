import Derived.Test.YtfieffpobgcpmaaGreatDoorDetOToMdSS
import Derived.Test.YtfieffpobgcpmaaGreatDoorDy1ToRkBS
import Derived.Deep.CutRange
import Derived.Deep.LoopGhost
import Derived.Deep.RegionHeld3
set_option maxRecDepth 100000
set_option maxHeartbeats 32000000
namespace Go.Proofs.YtfieffpobgcpmaaGreatDoor
open Go.RowKit Go.Proofs.Tryz
def LW.nums (v:LW):List LV:=[v.x,v.y,v.z]
def τk (w:World) (np:Nat) (bs:List Int) (o:Ending) (w':World):Prop:= ∃(L b c:Nat) (vs:List LW),o= .returned (.slice (some ⟨b,0,none⟩) np c)∧vs.length=np∧b<w'.heap.size∧(∀j u,(vs.flatMap LW.cells)[j]? =some u->w'.cell? ⟨b,0+j,none⟩=some u)∧
 (∀i,i<np->ζF w' (.agg (vs.getD i default).cells.toArray) 21 (vs.getD i default).x.m (vs.getD i default).y.m (vs.getD i default).z.m∧2^L*(vs.getD i default).x.m=cor (bs.getD (i*3) 0)∧2^L*(vs.getD i default).y.m=cor (bs.getD (i*3+1) 0)∧2^L*(vs.getD i default).z.m=cor (bs.getD (i*3+2) 0))∧Below w w w'
def ScN (bs:List Int) (L:Nat) (vs:List LW):Prop:= ∀q,q<vs.length->2^L*(vs.getD q default).x.m=cor (bs.getD (q*3) 0)∧2^L*(vs.getD q default).y.m=cor (bs.getD (q*3+1) 0)∧2^L*(vs.getD q default).z.m=cor (bs.getD (q*3+2) 0)∧(vs.getD q default).x.fs.length<=21∧(vs.getD q default).y.fs.length<=21∧(vs.getD q default).z.fs.length<=21
theorem ScN.snoc {bs:List Int} {L:Nat} {vs:List LW} (h:ScN bs L vs) {v:LW} (hx:2^L*v.x.m=cor (bs.getD (vs.length*3) 0)) (hy:2^L*v.y.m=cor (bs.getD (vs.length*3+1) 0)) (hz:2^L*v.z.m=cor (bs.getD (vs.length*3+2) 0)) (h1:v.x.fs.length<=21) (h2:v.y.fs.length<=21) (h3:v.z.fs.length<=21):ScN bs L (vs++[v]):=by
 intro q hq
 by_cases hlt:q<vs.length
 ·have e:(vs++[v]).getD q default=vs.getD q default:=by simp [List.getD_eq_getElem?_getD,List.getElem?_append_left hlt]
  rw [e];exact h q hlt
 ·have e:q=vs.length:=by simp at hq;omega
  subst e
  have e:(vs++[v]).getD vs.length default=v:=by simp [List.getD_eq_getElem?_getD]
  rw [e];exact ⟨hx,hy,hz,h1,h2,h3⟩
theorem info_l3vec:(prog.info? 128).map (fun i=>(i.zero,i.size,i.bytes))=some (some (.agg #[false,(),false,(),false,()]),6,96):=by kernel_rfl
theorem χt {n:Int} (h0: -9223372036854775808<=n) (h1:n<9223372036854775808):IntKind.i64.wrap n=n:=by
 simp [IntKind.wrap,IntKind.bits,IntKind.signed];omega
theorem θp (pb pc np:Nat) (bs:List Int) (w:World) (hb:bs.length=np*3) (hn:0<np) (hn2:np<=100) (hu:U32 bs) (hc:CU w pb bs):
 Calls prog 65 #[.slice (some ⟨pb,0,none⟩) np pc] w fun o w'=>τk w np bs o w':=by
 have HB:=Hid.mk hb
 have HU:Hid (U32 bs):=hu
 have HCU:Hid (∀w',Below w w w'->CU w' pb bs):=fun w' h=>hc.later h
 clear hb hu hc
 go_enter func65,ntmps65
 go_wp2_with fail
 go_loopg [3,5,6] np (fun k s3 s5 _ wr=> ∃(i:Nat) (va:Option Addr) (vn vc:Nat) (ls:List LV),s5= .int .i64 (i:Int)∧i<=np∧s3= .slice va vn vc∧Hid (k=np-i)∧Hid (ls.length=i*3)∧Hid (χx w w 176 3 (.slice va vn vc) (i*3) (ψo ls) ls wr)∧Hid (NmF bs ls))
 case atStart=>exact ⟨0,none,0,0,[],rfl,by omega,rfl,rfl,rfl,χx.start _ _ _ _ _ (Below.refl _ _) (Nat.le_refl _),NmF.nil _⟩
 case round=>
  obtain ⟨i,va,vn,vc,ls,rfl,hi,rfl,HK0,HL,HO,HNm⟩:=hrel
  rcases Nat.lt_or_ge i np with hlt|hge
  ·obtain ⟨b0,hb0⟩: ∃b,b=bs.getD (i*3) 0:=⟨_,rfl⟩
   obtain ⟨b1,hb1⟩: ∃b,b=bs.getD (i*3+1) 0:=⟨_,rfl⟩
   obtain ⟨b2,hb2⟩: ∃b,b=bs.getD (i*3+2) 0:=⟨_,rfl⟩
   have q0:=(HCU.out _ HO.out.bel).2 (i*3) (by have:=HB.out;omega)
   have q1:=(HCU.out _ HO.out.bel).2 (i*3+1) (by have:=HB.out;omega)
   have q2:=(HCU.out _ HO.out.bel).2 (i*3+2) (by have:=HB.out;omega)
   rw [<-hb0] at q0
   rw [<-hb1] at q1
   rw [<-hb2] at q2
   have HR0:Hid (0<=b0∧b0<4294967296):=by unfold Hid;rw [hb0];exact HU.out.at _
   have HR1:Hid (0<=b1∧b1<4294967296):=by unfold Hid;rw [hb1];exact HU.out.at _
   have HR2:Hid (0<=b2∧b2<4294967296):=by unfold Hid;rw [hb2];exact HU.out.at _
   have HE:Hid (b0=bs.getD (i*3) 0∧b1=bs.getD (i*3+1) 0∧b2=bs.getD (i*3+2) 0):=⟨hb0,hb1,hb2⟩
   clear hb0 hb1 hb2
   have hlt':(i:Int)<np:=by omega
   go_wp2_with fail
   clear q0 q1 q2 hlt'
   obtain ⟨W1,hW1⟩: ∃V,V=wr.alloc (.cells #[b0,b1,b2] 34):=⟨_,rfl⟩
   rw [<-hW1]
   have HOr:=Hid.mk HO
   have HO1:Hid (χx w w 176 3 (.slice va vn vc) (i*3) (ψo ls) ls W1):=by unfold Hid;rw [hW1];exact HO.out.later (ζc _ _)
   have HC1:Hid (Cs W1 wr [b0,b1,b2]):=by unfold Hid;rw [hW1];exact Cs.new _ _ _
   have HPB:Hid (wr.heap.size<=wr.heap.size):=Nat.le_refl _
   clear hW1
   obtain ⟨PB,hPB⟩: ∃PB,PB=wr.heap.size:=⟨_,rfl⟩
   have HPB:Hid (wr.heap.size<=PB):=by unfold Hid;omega
   rw [<-hPB] at HC1⊢
   clear hPB
   have HK:Hid (∀w',Below W1 W1 w'->(fun w'=>Cs w' PB [b0,b1,b2]) w'):=fun w' hb=>HC1.out.later hb
   refine ζb.rg HK 12 fun WD hBd hS=> ?_
   refine ζb.pu 0 23 (.slice va vn vc) hS ?_
   simp only [sT,sS,sZ]
   refine ζb.pu 1 24 (.pointer (some ⟨PB,0,none⟩)) hS ?_
   simp only [sT,sS,sZ]
   refine ζb.pu 2 25 b0 hS ?_ (hy:= .inl ⟨rfl,fun w' h=>by have q:=h.at 0 rfl;go_simp⟩)
   simp only [sT,sS,sZ]
   refine ζb.pu 4 27 (.pointer (some ⟨PB,1,none⟩)) hS ?_
   simp only [sT,sS,sZ]
   refine ζb.pu 5 28 b1 hS ?_ (hy:= .inl ⟨rfl,fun w' h=>by have q:=h.at 1 rfl;go_simp⟩)
   simp only [sT,sS,sZ]
   refine ζb.pu 7 30 (.pointer (some ⟨PB,2,none⟩)) hS ?_
   simp only [sT,sS,sZ]
   refine ζb.pu 8 31 b2 hS ?_ (hy:= .inl ⟨rfl,fun w' h=>by have q:=h.at 2 rfl;go_simp⟩)
   simp only [sT,sS,sZ]
   refine ζb.on 3 fun K HKK=> ?_
   go_wp2_with fail
   refine (φp b0 W1 _ HR0.out.1 HR0.out.2 hBd.size).mono ?_
   rintro o u1 ⟨v1,rfl,hv1,hs1⟩
   have hB1:Below W1 W1 u1:=hBd.trans (hs1.mono hBd.size)
   have Rx:=Hid.mk hv1
   obtain ⟨gx,ax,cx,zx,mx,ex,rfl,hnx,hlx,hLx,hFx⟩:=hv1
   refine HKK.out _ _ (fun _=>HK.out _ hB1) ?_
   clear HKK K
   (try simp only [Act.put])
   refine ζb.on 6 fun K HKK=> ?_
   go_wp2_with fail
   refine (φp b1 W1 _ HR1.out.1 HR1.out.2 hB1.size).mono ?_
   rintro o u2 ⟨v2,rfl,hv2,hs2⟩
   have hB2:Below W1 W1 u2:=hB1.trans (hs2.mono hB1.size)
   have Ry:=Hid.mk hv2
   obtain ⟨gy,ay,cy,zy,my,ey,rfl,hny,hly,hLy,hFy⟩:=hv2
   refine HKK.out _ _ (fun _=>HK.out _ hB2) ?_
   clear HKK K
   (try simp only [Act.put])
   refine ζb.on 9 fun K HKK=> ?_
   go_wp2_with fail
   refine (φp b2 W1 _ HR2.out.1 HR2.out.2 hB2.size).mono ?_
   rintro o u3 ⟨v3,rfl,hv3,hs3⟩
   have hB3:Below W1 W1 u3:=hB2.trans (hs3.mono hB2.size)
   have Rz:=Hid.mk hv3
   obtain ⟨gz,az,cz,zz,mz,ez,rfl,hnz,hlz,hLz,hFz⟩:=hv3
   refine HKK.out _ _ (fun _=>HK.out _ hB3) ?_
   clear HKK K
   (try simp only [Act.put])
   refine ζb.on 10 fun K HKK=> ?_
   go_wp2_with fail
   obtain ⟨u4,hu4⟩: ∃V,V=u3.alloc (.cells #[.bool gx,.slice ax zx.length cx,.int .i64 ex,.bool gy,.slice ay zy.length cy,.int .i64 ey,.bool gz,.slice az zz.length cz,.int .i64 ez] 176):=⟨_,rfl⟩
   have hs4:Below u3 u3 u4:=by rw [hu4];exact ζc _ _
   have hc9:Cs u4 u3 [.bool gx,.slice ax zx.length cx,.int .i64 ex,.bool gy,.slice ay zy.length cy,.int .i64 ey,.bool gz,.slice az zz.length cz,.int .i64 ez]:=by rw [hu4];exact Cs.new _ _ _
   have hB4:Below W1 W1 u4:=hB3.trans (hs4.mono hB3.size)
   refine HKK.out _ _ (fun _=>by rw [<-hu4];exact HK.out _ hB4) ?_
   rw [<-hu4]
   clear HKK K hu4
   (try simp only [Act.put])
   have hLx':=(((hLx.later hs2).later hs3).later hs4)
   have hLy':=((hLy.later hs3).later hs4)
   have hLz':=(hLz.later hs4)
   have HO4:χx w w 176 3 (.slice va vn vc) (i*3) (ψo ls) ls u4:=HO1.out.later hB4
   refine ζb.one (i:=11) (by kernel_rfl) rfl rfl ?_
   intro K hK
   refine appW (.tmp 23) (.tmp 33) 174 176 _ 3 40 underlying174 info_l2dy rfl (by decide) rfl w (.slice va vn vc) (i*3) 3 3 (ψo ls) [.bool gx,.slice ax zx.length cx,.int .i64 ex,.bool gy,.slice ay zy.length cy,.int .i64 ey,.bool gz,.slice az zz.length cz,.int .i64 ez] ls [(⟨gx,ax,cx,zx,mx,ex⟩:LV),(⟨gy,ay,cy,zy,my,ey⟩:LV),(⟨gz,az,cz,zz,mz,ez⟩:LV)] u3 rfl rfl HO4 (by simp;exact ⟨hLx',hLy',hLz'⟩) (by simp;exact ⟨hFx.offV HO1.out.own (Nat.le_refl _),hFy.offV HO1.out.own (Nat.le_refl _),hFz.offV HO1.out.own (Nat.le_refl _)⟩) (by simp) hc9.2.2 (by simp [Value.oneCell']) (by unfold maxLen;omega) (by omega) ?_
   intro a' n' c' w' hown hsz hfr
   have hcs:Cs w' PB [b0,b1,b2]:=by
    have h:=HK.out _ hB4
    have hbl:=hfr PB h.1 (fun e=>by have:=(φn HOr.out.own e).1;have:=HPB.out;omega)
    exact ⟨Nat.lt_of_lt_of_le h.1 hsz,fun j=>(World.frozen?_of_block hbl).trans (h.2.1 j),fun j u hj=>(World.cell?_of_block hbl).trans (h.2.2 j u hj)⟩
   refine hK _ _ (fun _=>hcs) ?_
   clear hK K
   (try simp only [Act.put])
   refine ζb.on 12 fun K HKK=> ?_
   go_wp2_with fail
   refine HKK.out _ _ (fun h=>absurd rfl h) ?_
   clear HKK K
   (try simp only [Act.put])
   refine ζb.done (by kernel_rfl) ?_
   have HNm2:Hid (NmF bs (((ls++[(⟨gx,ax,cx,zx,mx,ex⟩:LV)])++[(⟨gy,ay,cy,zy,my,ey⟩:LV)])++[(⟨gz,az,cz,zz,mz,ez⟩:LV)])):=by
    have hL:=HL.out
    obtain ⟨e0,e1,e2⟩:=HE.out
    refine ((HNm.out.snoc ?_ hlx).snoc ?_ hly).snoc ?_ hlz
    ·rw [hL,<-e0];exact hnx
    ·simp only [List.length_append,List.length_cons,List.length_nil];rw [hL,<-e1];exact hny
    ·simp only [List.length_append,List.length_cons,List.length_nil];rw [hL,<-e2];exact hnz
   have HL2:Hid ((((ls++[(⟨gx,ax,cx,zx,mx,ex⟩:LV)])++[(⟨gy,ay,cy,zy,my,ey⟩:LV)])++[(⟨gz,az,cz,zz,mz,ez⟩:LV)]).length=(i+1)*3):=by
    unfold Hid;simp only [List.length_append,List.length_cons,List.length_nil];have:=HL.out;omega
   have HO5:Hid (χx w w 176 3 (.slice a' n' c') ((i+1)*3) (ψo (((ls++[(⟨gx,ax,cx,zx,mx,ex⟩:LV)])++[(⟨gy,ay,cy,zy,my,ey⟩:LV)])++[(⟨gz,az,cz,zz,mz,ez⟩:LV)])) (((ls++[(⟨gx,ax,cx,zx,mx,ex⟩:LV)])++[(⟨gy,ay,cy,zy,my,ey⟩:LV)])++[(⟨gz,az,cz,zz,mz,ez⟩:LV)]) w'):=by
    unfold Hid
    have h:=hown
    have e:i*3+3=(i+1)*3:=by omega
    rw [e] at h
    simpa [ψo,LV.cells] using h
   clear hown hsz hfr hcs hB1 hB2 hB3 hB4 hs1 hs2 hs3 hs4 HO4 hc9 hLx' hLy' hLz' Rx Ry Rz hLx hLy hLz hFx hFy hFz hlx hly hlz hnx hny hnz HO1 HOr HK hS hBd HNm HL HO
   generalize (((ls++[(⟨gx,ax,cx,zx,mx,ex⟩:LV)])++[(⟨gy,ay,cy,zy,my,ey⟩:LV)])++[(⟨gz,az,cz,zz,mz,ez⟩:LV)])=ls2 at*
   go_wp2_with fail
   go_roundg (np-(i+1))
   case measure=>have:=HK0.out;omega
   case rel=>exact ⟨i+1,a',n',c',ls2,by go_num,by omega,rfl,rfl,HL2,HO5,HNm2⟩
  ·have hie:i=np:=by omega
   subst hie
   obtain ⟨M,hM⟩: ∃M,M=i*3:=⟨_,rfl⟩
   obtain ⟨gb,gc,he,hge',hgl,hcell⟩:=HO.out.cells (by omega)
   rw [<-hM] at he
   injection he with he1 he2 he3
   have he2':=he2.symm
   have he3':=he3.symm
   subst he1 he2' he3'
   obtain ⟨W2,hW2⟩: ∃V,V=wr:=⟨_,rfl⟩
   have HB2:Hid (Below w w W2):=by unfold Hid;rw [hW2];exact HO.out.bel
   have HGL:Hid (gb<W2.heap.size):=by unfold Hid;rw [hW2];exact hgl
   have HCE:Hid (∀w',Below W2 W2 w'-> ∀j,j<M->w'.cell? ⟨gb,j*3+2,none⟩=some (.int .i64 (ls.getD j default).e)∧w'.rangeAt gb (j*3) [.bool (ls.getD j default).g,.slice (ls.getD j default).a (ls.getD j default).fs.length (ls.getD j default).c]):=by
    intro w' hb' j hj
    have hj':j<ls.length:=by rw [HL.out];omega
    have f: ∀q u,(ψo ls)[q]? =some u->w'.cell? ⟨gb,q,none⟩=some u:=fun q u h=>by
     have h1:=hcell q u h
     rw [Nat.zero_add] at h1
     rw [hb'.cell (p:=⟨gb,q,none⟩) HGL.out,hW2];exact h1
    refine ⟨f _ _ (by rw [ψy ls j 2 hj' (by decide)];rfl),fun q u hq=> ?_⟩
    match q,hq with
    |0,hq=>simp at hq;subst hq;exact f _ _ (by have:=ψy ls j 0 hj' (by decide);simpa [LV.cells] using this)
    |1,hq=>simp at hq;subst hq;exact f _ _ (by rw [ψy ls j 1 hj' (by decide)];rfl)
    |q+2,hq=>simp at hq
   have HLL:Hid (∀w',Below W2 W2 w'-> ∀j,j<M->L1 w' (ls.getD j default).g (ls.getD j default).a (ls.getD j default).c (ls.getD j default).fs (ls.getD j default).m):=by
    intro w' hb' j hj
    have hj':j<ls.length:=by rw [HL.out];omega
    have hm:(ls.getD j default)∈ls:=by rw [List.getD_eq_getElem?_getD,List.getElem?_eq_getElem hj'];exact List.getElem_mem hj'
    refine L1.later ?_ hb'
    rw [hW2];exact HO.out.l1 _ hm
   have HNN:Hid (∀j,j<M->ξo (ξ8 (bs.getD j 0)) (ξd (bs.getD j 0)-150) (ls.getD j default).m (ls.getD j default).e 32∧(ls.getD j default).fs.length<=2):=fun j hj=>HNm.out j (by rw [HL.out];omega)
   have HM:Hid (M=i*3):=hM
   clear HO hcell hge' hgl HNm HL
   rw [<-hW2]
   clear hW2 hM HK0
   have hMM:M<=300:=by have:=HM.out;omega
   go_wp2_with fail
   go_loopg [4,7] M (fun k s4 s7 wx=> ∃(j:Nat) (Lo:Int),s7= .int .i64 (j:Int)∧s4= .int .i64 Lo∧j<=M∧ -149<=Lo∧Lo<=0∧Hid (k=M-j)∧Hid (wx=W2)∧Hid (∀q,q<j->Lo<=(ls.getD q default).e))
   case atStart=>exact ⟨0,0,rfl,rfl,by omega,by omega,by omega,rfl,rfl,fun q hq=>absurd hq (by omega)⟩
   case round=>
    obtain ⟨j,Lo,rfl,rfl,hj,hl1,hl2,HK1,HW,HLo⟩:=hrel
    have hWe:=HW.out.symm
    subst hWe
    clear HW
    rcases Nat.lt_or_ge j M with hlt|hge2
    ·obtain ⟨ej,hej⟩: ∃e,e=(ls.getD j default).e:=⟨_,rfl⟩
     have q0:=(HCE.out _ (Below.refl _ _) j hlt).1
     rw [<-hej] at q0
     have HEJ:=Hid.mk hej
     have hnl: -149<=ej:=by rw [hej];exact (φJ (HU.out.at _).1 (HNN.out j hlt).1).1
     have hlt':(j:Int)<M:=by omega
     clear hej
     by_cases hc:ej<Lo
     ·go_wp2_with fail
      go_roundg (M-(j+1))
      case measure=>have:=HK1.out;omega
      case rel=>
       refine ⟨j+1,ej,by go_num,rfl,by omega,hnl,by omega,rfl,rfl,fun q hq=> ?_⟩
       rcases Nat.lt_or_ge q j with h|h
       ·have:=HLo.out q h;omega
       ·have:q=j:=by omega
        subst this
        rw [HEJ.out];exact Int.le_refl _
     ·go_wp2_with fail
      go_roundg (M-(j+1))
      case measure=>have:=HK1.out;omega
      case rel=>
       refine ⟨j+1,Lo,by go_num,rfl,by omega,hl1,by omega,rfl,rfl,fun q hq=> ?_⟩
       rcases Nat.lt_or_ge q j with h|h
       ·exact HLo.out q h
       ·have:q=j:=by omega
        subst this
        rw [<-HEJ.out];omega
    ·have hjm:M=j:=by omega
     subst hjm
     clear HK1 hj
     go_wp2_with fail
     go_loopg [8,9,10,11,12] i (fun k s8 s9 _ _ _ wx=> ∃(p I:Nat) (oa:Option Addr) (on oc:Nat) (vs:List LW),s9= .int .i64 (I:Int)∧s8= .slice oa on oc∧p<=i∧Hid (I=p*3)∧Hid (k=i-p)∧Hid (vs.length=p)∧Hid (χx W2 W2 128 6 (.slice oa on oc) p (vs.flatMap LW.cells) (vs.flatMap LW.nums) wx)∧Hid (ScN bs (Lo+149).toNat vs))
     case atStart=>exact ⟨0,0,none,0,0,[],rfl,rfl,by omega,rfl,rfl,rfl,χx.start _ _ _ _ _ (Below.refl _ _) (Nat.le_refl _),fun q hq=>absurd hq (by simp)⟩
     case round=>
      obtain ⟨p,I,oa,on,oc,vs,rfl,rfl,hp,HI,HK2,HVl,HOw,HSc⟩:=hrel
      rcases Nat.lt_or_ge p i with hlt|hge2
      ·have hIM:I+2<M:=by have:=HI.out;have:=HM.out;omega
       have hIM':(I:Int)+2<M:=by omega
       have hI0:I<=300:=by omega
       go_wp2_with fail
       clear hIM'
       obtain ⟨X0,hX0⟩: ∃V,V=wr:=⟨_,rfl⟩
       rw [<-hX0] at HOw⊢
       clear hX0
       have HB0:Hid (Below W2 W2 X0):=HOw.out.bel
       obtain ⟨O0,hO0⟩: ∃o,o=(I+0)*3:=⟨_,rfl⟩
       have HO0:=Hid.mk hO0
       obtain ⟨l0,hl0⟩: ∃l,l=ls.getD (I+0) default:=⟨_,rfl⟩
       have HD0:Hid (ξo (ξ8 (bs.getD (I+0) 0)) (ξd (bs.getD (I+0) 0)-150) l0.m l0.e 32∧l0.fs.length<=2):=by unfold Hid;rw [hl0];exact HNN.out (I+0) (by omega)
       have HLv0:Hid (∀w',Below W2 W2 w'->L1 w' l0.g l0.a l0.c l0.fs l0.m):=fun w' hb=>by rw [hl0];exact HLL.out w' hb (I+0) (by omega)
       have HE0:Hid (Lo<=l0.e∧ -149<=l0.e∧l0.e<=137):=⟨by rw [hl0];exact HLo.out (I+0) (by omega),φJ (HU.out.at _).1 HD0.out.1⟩
       have HK:Hid (∀w',Below X0 X0 w'->(fun w'=>w'.cell? ⟨gb,O0+2,none⟩=some (.int .i64 l0.e)∧w'.rangeAt gb O0 [.bool l0.g,.slice l0.a l0.fs.length l0.c]) w'):=fun w' hb=>by
        have h:=HCE.out w' (HB0.out.trans (hb.mono HB0.out.size)) (I+0) (by omega)
        rw [<-hO0,<-hl0] at h
        exact h
       clear hO0 hl0
       go_cut [10] from 53 to 109 (fun s wx=> ∃(Px:Nat) (gx:Bool) (ax:Option Addr) (cx:Nat) (zx:List Int),s= .pointer (some ⟨Px,0,none⟩)∧Hid (NwL X0 Px gx ax cx zx (l0.m*2^(l0.e-Lo).toNat) wx))
       case first=>
        refine ζb.rg HK 14 fun WD hBd hS=> ?_
        refine ζb.pu 0 60 (.slice (some ⟨gb,0,none⟩) M gc) hS ?_
        simp only [sT,sS,sZ]
        refine ζb.pu 1 61 (.int .i64 (I:Int)) hS ?_
        simp only [sT,sS,sZ]
        refine ζb.pu 2 62 (.pointer (some ⟨gb,O0,none⟩)) hS ?_ (hy:= .inl ⟨rfl,fun w' _=>by rw [HO0.out];go_simp;intro h;first|omega|exact absurd (h (by omega)) (by omega)⟩)
        simp only [sT,sS,sZ]
        refine ζb.pu 3 63 (.pointer (some ⟨gb,O0,none⟩)) hS ?_
        simp only [sT,sS,sZ]
        refine ζb.ld 4 64 72 63 (gb) (O0) [.bool l0.g,.slice l0.a l0.fs.length l0.c] (fun w' h=>h.2) underlying72 hS ?_
        simp only [sT,sS,sZ]
        refine ζb.pu 5 65 (.slice (some ⟨gb,0,none⟩) M gc) hS ?_
        simp only [sT,sS,sZ]
        refine ζb.pu 6 66 (.int .i64 (I:Int)) hS ?_
        simp only [sT,sS,sZ]
        refine ζb.pu 7 67 (.pointer (some ⟨gb,O0,none⟩)) hS ?_ (hy:= .inl ⟨rfl,fun w' _=>by rw [HO0.out];go_simp;intro h;first|omega|exact absurd (h (by omega)) (by omega)⟩)
        simp only [sT,sS,sZ]
        refine ζb.pu 8 68 (.pointer (some ⟨gb,O0+2,none⟩)) hS ?_
        simp only [sT,sS,sZ]
        refine ζb.pu 9 69 (.int .i64 l0.e) hS ?_ (hy:= .inl ⟨rfl,fun w' h=>by have q:=h.1;go_simp⟩)
        simp only [sT,sS,sZ]
        refine ζb.pu 10 70 (.int .i64 Lo) hS ?_
        simp only [sT,sS,sZ]
        refine ζb.pu 11 71 (.int .i64 (l0.e-Lo)) hS ?_ (hy:= .inl ⟨rfl,fun w' _=>by have q:=HE0.out;go_simp;exact χt (by omega) (by omega)⟩)
        simp only [sT,sS,sZ]
        refine ζ0.begin [12] [13] ?_
        have hBw:=hBd
        clear hBd
        repeat' first
         |refine ζ0.cb (by kernel_rfl) rfl rfl rfl rfl ?_ ?_
         |refine ζ0.c (by kernel_rfl) rfl rfl ?_
         |refine ζ0.b (by kernel_rfl) rfl rfl ?_
         |(refine ξa.go 12 fun K HKK=> ?_
           go_wp2_with fail
           refine (θ3 l0.g l0.a l0.c l0.fs l0.m (l0.e-Lo) X0 _ HD0.out.2 (by have:=HE0.out;omega) (by have:=HE0.out;omega) hBw.size (HLv0.out _ (HB0.out.trans (hBw.mono HB0.out.size)))).mono ?_
           rintro o uW ⟨vV,rfl,hv,hSt⟩
           replace hBw:=hBw.trans (hSt.mono hBw.size)
           (try replace hcb:=hcb.later hSt)
           (try replace hnb:=hnb.later hSt)
           (try replace hLx:=hLx.later hSt)
           have Rx:=Hid.mk hv
           obtain ⟨gx,ax,cx,zx,rfl,hLx,hlx,hFx⟩:=hv
           refine HKK.out _ _ (fun _=>HK.out _ hBw) ?_
           clear HKK K hSt
           (try simp only [Act.put]))
         |(refine ξa.go 13 fun K HKK=> ?_
           go_wp2_with fail
           obtain ⟨uW,hu,hSt,hcb,hnb,hBw,hPb,_⟩:=ξC hBw #[false,()] 72 rfl
           (try replace Rx:=Hid.mk (Rx.out.later hSt))
           (try replace hLx:=hLx.later hSt)
           refine HKK.out _ _ (fun _=>by rw [hu];exact HK.out _ hBw) ?_
           rw [hu]
           clear HKK K hu hSt
           (try simp only [Act.put]))
        all_goals
         refine ⟨ζb.on 14 fun K HKK=> ?_⟩
         refine wp_store_mid 72 (.tmp 10) (.tmp 72) rfl (_) 0 #[.bool gx,.slice ax zx.length cx] rfl rfl (hcb.there 0 2 (by simp)) (by kernel_rfl) (all_oneCell_toArray (by simp [Value.oneCell'])) ?_
         refine HKK.out _ _ (fun h=>absurd rfl h) ?_
         clear HKK K
         refine ζb.done (by kernel_rfl) ?_
         rw [show∀W b i,World.setCells W b i (Array.toList #[.bool gx,.slice ax zx.length cx])=setAll W b i [.bool gx,.slice ax zx.length cx] from fun W b i=>ζg _ _ _ _]
         go_wp2_with fail
         go_meet
         case rel=>exact ⟨_,gx,ax,cx,zx,rfl,NwL.fin hcb hnb hLx hlx hFx hBw hPb⟩
       case rest=>
        clear HK
        obtain ⟨Px,gx,ax,cx,zx,rfl,HNx⟩:=hcut
        obtain ⟨X1,hX⟩: ∃V,V=wc:=⟨_,rfl⟩
        rw [<-hX] at HNx⊢
        clear hX
        have HB1:Hid (Below W2 W2 X1):=HB0.out.trans (HNx.out.bel.mono HB0.out.size)
        go_wp2_with fail
        obtain ⟨O1,hO1⟩: ∃o,o=(I+1)*3:=⟨_,rfl⟩
        have HO1:=Hid.mk hO1
        obtain ⟨l1,hl1⟩: ∃l,l=ls.getD (I+1) default:=⟨_,rfl⟩
        have HD1:Hid (ξo (ξ8 (bs.getD (I+1) 0)) (ξd (bs.getD (I+1) 0)-150) l1.m l1.e 32∧l1.fs.length<=2):=by unfold Hid;rw [hl1];exact HNN.out (I+1) (by omega)
        have HLv1:Hid (∀w',Below W2 W2 w'->L1 w' l1.g l1.a l1.c l1.fs l1.m):=fun w' hb=>by rw [hl1];exact HLL.out w' hb (I+1) (by omega)
        have HE1:Hid (Lo<=l1.e∧ -149<=l1.e∧l1.e<=137):=⟨by rw [hl1];exact HLo.out (I+1) (by omega),φJ (HU.out.at _).1 HD1.out.1⟩
        have HK:Hid (∀w',Below X1 X1 w'->(fun w'=>w'.cell? ⟨gb,O1+2,none⟩=some (.int .i64 l1.e)∧w'.rangeAt gb O1 [.bool l1.g,.slice l1.a l1.fs.length l1.c]) w'):=fun w' hb=>by
         have h:=HCE.out w' (HB1.out.trans (hb.mono HB1.out.size)) (I+1) (by omega)
         rw [<-hO1,<-hl1] at h
         exact h
        clear hO1 hl1
        go_cut [11] from 53 to 109 (fun s wx=> ∃(Py:Nat) (gy:Bool) (ay:Option Addr) (cy:Nat) (zy:List Int),s= .pointer (some ⟨Py,0,none⟩)∧Hid (NwL X1 Py gy ay cy zy (l1.m*2^(l1.e-Lo).toNat) wx))
        case first=>
         refine ζb.rg HK 16 fun WD hBd hS=> ?_
         refine ζb.pu 0 73 (.slice (some ⟨gb,0,none⟩) M gc) hS ?_
         simp only [sT,sS,sZ]
         refine ζb.pu 1 74 (.int .i64 (I:Int)) hS ?_
         simp only [sT,sS,sZ]
         refine ζb.pu 2 75 (.int .i64 ((I:Int)+1)) hS ?_ (hy:= .inl ⟨rfl,fun w' _=>by go_simp;exact χt (by omega) (by omega)⟩)
         simp only [sT,sS,sZ]
         refine ζb.pu 3 76 (.pointer (some ⟨gb,O1,none⟩)) hS ?_ (hy:= .inl ⟨rfl,fun w' _=>by rw [HO1.out];go_simp;intro h;first|omega|exact absurd (h (by omega)) (by omega)⟩)
         simp only [sT,sS,sZ]
         refine ζb.pu 4 77 (.pointer (some ⟨gb,O1,none⟩)) hS ?_
         simp only [sT,sS,sZ]
         refine ζb.ld 5 78 72 77 (gb) (O1) [.bool l1.g,.slice l1.a l1.fs.length l1.c] (fun w' h=>h.2) underlying72 hS ?_
         simp only [sT,sS,sZ]
         refine ζb.pu 6 79 (.slice (some ⟨gb,0,none⟩) M gc) hS ?_
         simp only [sT,sS,sZ]
         refine ζb.pu 7 80 (.int .i64 (I:Int)) hS ?_
         simp only [sT,sS,sZ]
         refine ζb.pu 8 81 (.int .i64 ((I:Int)+1)) hS ?_ (hy:= .inl ⟨rfl,fun w' _=>by go_simp;exact χt (by omega) (by omega)⟩)
         simp only [sT,sS,sZ]
         refine ζb.pu 9 82 (.pointer (some ⟨gb,O1,none⟩)) hS ?_ (hy:= .inl ⟨rfl,fun w' _=>by rw [HO1.out];go_simp;intro h;first|omega|exact absurd (h (by omega)) (by omega)⟩)
         simp only [sT,sS,sZ]
         refine ζb.pu 10 83 (.pointer (some ⟨gb,O1+2,none⟩)) hS ?_
         simp only [sT,sS,sZ]
         refine ζb.pu 11 84 (.int .i64 l1.e) hS ?_ (hy:= .inl ⟨rfl,fun w' h=>by have q:=h.1;go_simp⟩)
         simp only [sT,sS,sZ]
         refine ζb.pu 12 85 (.int .i64 Lo) hS ?_
         simp only [sT,sS,sZ]
         refine ζb.pu 13 86 (.int .i64 (l1.e-Lo)) hS ?_ (hy:= .inl ⟨rfl,fun w' _=>by have q:=HE1.out;go_simp;exact χt (by omega) (by omega)⟩)
         simp only [sT,sS,sZ]
         refine ζ0.begin [14] [15] ?_
         have hBw:=hBd
         clear hBd
         repeat' first
          |refine ζ0.cb (by kernel_rfl) rfl rfl rfl rfl ?_ ?_
          |refine ζ0.c (by kernel_rfl) rfl rfl ?_
          |refine ζ0.b (by kernel_rfl) rfl rfl ?_
          |(refine ξa.go 14 fun K HKK=> ?_
            go_wp2_with fail
            refine (θ3 l1.g l1.a l1.c l1.fs l1.m (l1.e-Lo) X1 _ HD1.out.2 (by have:=HE1.out;omega) (by have:=HE1.out;omega) hBw.size (HLv1.out _ (HB1.out.trans (hBw.mono HB1.out.size)))).mono ?_
            rintro o uW ⟨vV,rfl,hv,hSt⟩
            replace hBw:=hBw.trans (hSt.mono hBw.size)
            (try replace hcb:=hcb.later hSt)
            (try replace hnb:=hnb.later hSt)
            (try replace hLy:=hLy.later hSt)
            have Ry:=Hid.mk hv
            obtain ⟨gy,ay,cy,zy,rfl,hLy,hly,hFy⟩:=hv
            refine HKK.out _ _ (fun _=>HK.out _ hBw) ?_
            clear HKK K hSt
            (try simp only [Act.put]))
          |(refine ξa.go 15 fun K HKK=> ?_
            go_wp2_with fail
            obtain ⟨uW,hu,hSt,hcb,hnb,hBw,hPb,_⟩:=ξC hBw #[false,()] 72 rfl
            (try replace Ry:=Hid.mk (Ry.out.later hSt))
            (try replace hLy:=hLy.later hSt)
            refine HKK.out _ _ (fun _=>by rw [hu];exact HK.out _ hBw) ?_
            rw [hu]
            clear HKK K hu hSt
            (try simp only [Act.put]))
         all_goals
          refine ⟨ζb.on 16 fun K HKK=> ?_⟩
          refine wp_store_mid 72 (.tmp 11) (.tmp 87) rfl (_) 0 #[.bool gy,.slice ay zy.length cy] rfl rfl (hcb.there 0 2 (by simp)) (by kernel_rfl) (all_oneCell_toArray (by simp [Value.oneCell'])) ?_
          refine HKK.out _ _ (fun h=>absurd rfl h) ?_
          clear HKK K
          refine ζb.done (by kernel_rfl) ?_
          rw [show∀W b i,World.setCells W b i (Array.toList #[.bool gy,.slice ay zy.length cy])=setAll W b i [.bool gy,.slice ay zy.length cy] from fun W b i=>ζg _ _ _ _]
          go_wp2_with fail
          go_meet
          case rel=>exact ⟨_,gy,ay,cy,zy,rfl,NwL.fin hcb hnb hLy hly hFy hBw hPb⟩
        case rest=>
         clear HK
         obtain ⟨Py,gy,ay,cy,zy,rfl,HNy⟩:=hcut
         obtain ⟨X2,hX⟩: ∃V,V=wc:=⟨_,rfl⟩
         rw [<-hX] at HNy⊢
         clear hX
         have HB2':Hid (Below W2 W2 X2):=HB1.out.trans (HNy.out.bel.mono HB1.out.size)
         go_wp2_with fail
         obtain ⟨O2,hO2⟩: ∃o,o=(I+2)*3:=⟨_,rfl⟩
         have HO2:=Hid.mk hO2
         obtain ⟨l2,hl2⟩: ∃l,l=ls.getD (I+2) default:=⟨_,rfl⟩
         have HD2:Hid (ξo (ξ8 (bs.getD (I+2) 0)) (ξd (bs.getD (I+2) 0)-150) l2.m l2.e 32∧l2.fs.length<=2):=by unfold Hid;rw [hl2];exact HNN.out (I+2) (by omega)
         have HLv2:Hid (∀w',Below W2 W2 w'->L1 w' l2.g l2.a l2.c l2.fs l2.m):=fun w' hb=>by rw [hl2];exact HLL.out w' hb (I+2) (by omega)
         have HE2:Hid (Lo<=l2.e∧ -149<=l2.e∧l2.e<=137):=⟨by rw [hl2];exact HLo.out (I+2) (by omega),φJ (HU.out.at _).1 HD2.out.1⟩
         have HK:Hid (∀w',Below X2 X2 w'->(fun w'=>w'.cell? ⟨gb,O2+2,none⟩=some (.int .i64 l2.e)∧w'.rangeAt gb O2 [.bool l2.g,.slice l2.a l2.fs.length l2.c]) w'):=fun w' hb=>by
          have h:=HCE.out w' (HB2'.out.trans (hb.mono HB2'.out.size)) (I+2) (by omega)
          rw [<-hO2,<-hl2] at h
          exact h
         clear hO2 hl2
         go_cut [12] from 53 to 109 (fun s wx=> ∃(Pz:Nat) (gz:Bool) (az:Option Addr) (cz:Nat) (zz:List Int),s= .pointer (some ⟨Pz,0,none⟩)∧Hid (NwL X2 Pz gz az cz zz (l2.m*2^(l2.e-Lo).toNat) wx))
         case first=>
          refine ζb.rg HK 16 fun WD hBd hS=> ?_
          refine ζb.pu 0 88 (.slice (some ⟨gb,0,none⟩) M gc) hS ?_
          simp only [sT,sS,sZ]
          refine ζb.pu 1 89 (.int .i64 (I:Int)) hS ?_
          simp only [sT,sS,sZ]
          refine ζb.pu 2 90 (.int .i64 ((I:Int)+2)) hS ?_ (hy:= .inl ⟨rfl,fun w' _=>by go_simp;exact χt (by omega) (by omega)⟩)
          simp only [sT,sS,sZ]
          refine ζb.pu 3 91 (.pointer (some ⟨gb,O2,none⟩)) hS ?_ (hy:= .inl ⟨rfl,fun w' _=>by rw [HO2.out];go_simp;rw [if_pos ⟨by omega,by omega⟩,show ((I:Int)+2).toNat=I+2 by omega]⟩)
          simp only [sT,sS,sZ]
          refine ζb.pu 4 92 (.pointer (some ⟨gb,O2,none⟩)) hS ?_
          simp only [sT,sS,sZ]
          refine ζb.ld 5 93 72 92 (gb) (O2) [.bool l2.g,.slice l2.a l2.fs.length l2.c] (fun w' h=>h.2) underlying72 hS ?_
          simp only [sT,sS,sZ]
          refine ζb.pu 6 94 (.slice (some ⟨gb,0,none⟩) M gc) hS ?_
          simp only [sT,sS,sZ]
          refine ζb.pu 7 95 (.int .i64 (I:Int)) hS ?_
          simp only [sT,sS,sZ]
          refine ζb.pu 8 96 (.int .i64 ((I:Int)+2)) hS ?_ (hy:= .inl ⟨rfl,fun w' _=>by go_simp;exact χt (by omega) (by omega)⟩)
          simp only [sT,sS,sZ]
          refine ζb.pu 9 97 (.pointer (some ⟨gb,O2,none⟩)) hS ?_ (hy:= .inl ⟨rfl,fun w' _=>by rw [HO2.out];go_simp;rw [if_pos ⟨by omega,by omega⟩,show ((I:Int)+2).toNat=I+2 by omega]⟩)
          simp only [sT,sS,sZ]
          refine ζb.pu 10 98 (.pointer (some ⟨gb,O2+2,none⟩)) hS ?_
          simp only [sT,sS,sZ]
          refine ζb.pu 11 99 (.int .i64 l2.e) hS ?_ (hy:= .inl ⟨rfl,fun w' h=>by have q:=h.1;go_simp⟩)
          simp only [sT,sS,sZ]
          refine ζb.pu 12 100 (.int .i64 Lo) hS ?_
          simp only [sT,sS,sZ]
          refine ζb.pu 13 101 (.int .i64 (l2.e-Lo)) hS ?_ (hy:= .inl ⟨rfl,fun w' _=>by have q:=HE2.out;go_simp;exact χt (by omega) (by omega)⟩)
          simp only [sT,sS,sZ]
          refine ζ0.begin [14] [15] ?_
          have hBw:=hBd
          clear hBd
          repeat' first
           |refine ζ0.cb (by kernel_rfl) rfl rfl rfl rfl ?_ ?_
           |refine ζ0.c (by kernel_rfl) rfl rfl ?_
           |refine ζ0.b (by kernel_rfl) rfl rfl ?_
           |(refine ξa.go 14 fun K HKK=> ?_
             go_wp2_with fail
             refine (θ3 l2.g l2.a l2.c l2.fs l2.m (l2.e-Lo) X2 _ HD2.out.2 (by have:=HE2.out;omega) (by have:=HE2.out;omega) hBw.size (HLv2.out _ (HB2'.out.trans (hBw.mono HB2'.out.size)))).mono ?_
             rintro o uW ⟨vV,rfl,hv,hSt⟩
             replace hBw:=hBw.trans (hSt.mono hBw.size)
             (try replace hcb:=hcb.later hSt)
             (try replace hnb:=hnb.later hSt)
             (try replace hLz:=hLz.later hSt)
             have Rz:=Hid.mk hv
             obtain ⟨gz,az,cz,zz,rfl,hLz,hlz,hFz⟩:=hv
             refine HKK.out _ _ (fun _=>HK.out _ hBw) ?_
             clear HKK K hSt
             (try simp only [Act.put]))
           |(refine ξa.go 15 fun K HKK=> ?_
             go_wp2_with fail
             obtain ⟨uW,hu,hSt,hcb,hnb,hBw,hPb,_⟩:=ξC hBw #[false,()] 72 rfl
             (try replace Rz:=Hid.mk (Rz.out.later hSt))
             (try replace hLz:=hLz.later hSt)
             refine HKK.out _ _ (fun _=>by rw [hu];exact HK.out _ hBw) ?_
             rw [hu]
             clear HKK K hu hSt
             (try simp only [Act.put]))
          all_goals
           refine ⟨ζb.on 16 fun K HKK=> ?_⟩
           refine wp_store_mid 72 (.tmp 12) (.tmp 102) rfl (_) 0 #[.bool gz,.slice az zz.length cz] rfl rfl (hcb.there 0 2 (by simp)) (by kernel_rfl) (all_oneCell_toArray (by simp [Value.oneCell'])) ?_
           refine HKK.out _ _ (fun h=>absurd rfl h) ?_
           clear HKK K
           refine ζb.done (by kernel_rfl) ?_
           rw [show∀W b i,World.setCells W b i (Array.toList #[.bool gz,.slice az zz.length cz])=setAll W b i [.bool gz,.slice az zz.length cz] from fun W b i=>ζg _ _ _ _]
           go_wp2_with fail
           go_meet
           case rel=>exact ⟨_,gz,az,cz,zz,rfl,NwL.fin hcb hnb hLz hlz hFz hBw hPb⟩
         case rest=>
          clear HK
          obtain ⟨Pz,gz,az,cz,zz,rfl,HNz⟩:=hcut
          obtain ⟨X3,hX⟩: ∃V,V=wc:=⟨_,rfl⟩
          rw [<-hX] at HNz⊢
          clear hX
          have HX3:=Hid.mk ((HNx.out.later HNy.out.bel).later HNz.out.bel)
          have HY3:=Hid.mk (HNy.out.later HNz.out.bel)
          have HOw3:=Hid.mk (((HOw.out.later HNx.out.bel).later HNy.out.bel).later HNz.out.bel)
          have hs0:X0.heap.size<=X1.heap.size:=HNx.out.bel.size
          have hs1:X1.heap.size<=X2.heap.size:=HNy.out.bel.size
          have HOO:Hid (∀l∈[(⟨gx,ax,cx,zx,l0.m*2^(l0.e-Lo).toNat,0⟩:LV),⟨gy,ay,cy,zy,l1.m*2^(l1.e-Lo).toNat,0⟩,⟨gz,az,cz,zz,l2.m*2^(l2.e-Lo).toNat,0⟩],τj (.slice oa on oc) l.a l.fs):=by
           intro l hl
           simp only [List.mem_cons,List.not_mem_nil,or_false] at hl
           rcases hl with rfl|rfl|rfl
           ·exact HX3.out.f.offV HOw.out.own (Nat.le_refl _)
           ·exact HY3.out.f.offV HOw.out.own hs0
           ·exact HNz.out.f.offV HOw.out.own (by omega)
          have HLs:Hid (∀l∈[(⟨gx,ax,cx,zx,l0.m*2^(l0.e-Lo).toNat,0⟩:LV),⟨gy,ay,cy,zy,l1.m*2^(l1.e-Lo).toNat,0⟩,⟨gz,az,cz,zz,l2.m*2^(l2.e-Lo).toNat,0⟩],L1 X3 l.g l.a l.c l.fs l.m):=by
           intro l hl
           simp only [List.mem_cons,List.not_mem_nil,or_false] at hl
           rcases hl with rfl|rfl|rfl
           ·exact HX3.out.l
           ·exact HY3.out.l
           ·exact HNz.out.l
          have HSc2:Hid (ScN bs (Lo+149).toNat (vs++[(⟨⟨gx,ax,cx,zx,l0.m*2^(l0.e-Lo).toNat,0⟩,⟨gy,ay,cy,zy,l1.m*2^(l1.e-Lo).toNat,0⟩,⟨gz,az,cz,zz,l2.m*2^(l2.e-Lo).toNat,0⟩⟩:LW)])):=by
           have hIe:=HI.out
           refine HSc.out.snoc ?_ ?_ ?_ HX3.out.n HY3.out.n HNz.out.n
           ·rw [HVl.out,<-hIe]
            have:=χs (HU.out.at _).1 HD0.out.1 HE0.out.1 hl1
            rw [Int.mul_comm];exact this
           ·rw [HVl.out,<-hIe]
            have:=χs (HU.out.at _).1 HD1.out.1 HE1.out.1 hl1
            rw [Int.mul_comm];exact this
           ·rw [HVl.out,<-hIe]
            have:=χs (HU.out.at _).1 HD2.out.1 HE2.out.1 hl1
            rw [Int.mul_comm];exact this
          obtain ⟨x0,x1⟩:=HX3.out.bx.c2
          obtain ⟨y0,y1⟩:=HY3.out.bx.c2
          obtain ⟨z0,z1⟩:=HNz.out.bx.c2
          obtain ⟨mx,hmx⟩: ∃m,m=l0.m*2^(l0.e-Lo).toNat:=⟨_,rfl⟩
          obtain ⟨my,hmy⟩: ∃m,m=l1.m*2^(l1.e-Lo).toNat:=⟨_,rfl⟩
          obtain ⟨mz,hmz⟩: ∃m,m=l2.m*2^(l2.e-Lo).toNat:=⟨_,rfl⟩
          rw [<-hmx,<-hmy,<-hmz] at HLs HOO HSc2
          clear hmx hmy hmz HD0 HD1 HD2 HLv0 HLv1 HLv2 HX3 HY3 HNx HNy HNz HE0 HE1 HE2 HO0 HO1 HO2 HB0 HB1 HB2' HOw HSc hs0 hs1
          have hp300:p<=300:=by omega
          go_wp2_with (at_builtin;refine appN rfl (.tmp 103) (.tmp 108) 121 128 _ 6 96 underlying121 info_l3vec rfl (by decide) rfl W2 (.slice oa on oc) p 1 1 (vs.flatMap LW.cells) [.bool gx,.slice ax zx.length cx,.bool gy,.slice ay zy.length cy,.bool gz,.slice az zz.length cz] (vs.flatMap LW.nums) [⟨gx,ax,cx,zx,mx,0⟩,⟨gy,ay,cy,zy,my,0⟩,⟨gz,az,cz,zz,mz,0⟩] X3 rfl rfl (HOw3.out.later (ζc _ _)) (fun l hl=>(HLs.out l hl).later (ζc _ _)) HOO.out (by simp) (Cs.new _ _ _).2.2 (by simp [Value.oneCell']) (by unfold maxLen;omega) (by omega) ?_;intro a1 n1 c1 w1 hown1)
          clear x0 x1 y0 y1 z0 z1
          have HO9:Hid (χx W2 W2 128 6 (.slice a1 n1 c1) (p+1) ((vs++[(⟨⟨gx,ax,cx,zx,mx,0⟩,⟨gy,ay,cy,zy,my,0⟩,⟨gz,az,cz,zz,mz,0⟩⟩:LW)]).flatMap LW.cells) ((vs++[(⟨⟨gx,ax,cx,zx,mx,0⟩,⟨gy,ay,cy,zy,my,0⟩,⟨gz,az,cz,zz,mz,0⟩⟩:LW)]).flatMap LW.nums) w1):=by
           unfold Hid;simpa [LW.cells,LW.nums] using hown1
          have HV9:Hid ((vs++[(⟨⟨gx,ax,cx,zx,mx,0⟩,⟨gy,ay,cy,zy,my,0⟩,⟨gz,az,cz,zz,mz,0⟩⟩:LW)]).length=p+1):=by
           unfold Hid;rw [List.length_append,HVl.out];rfl
          clear hown1 HOw3 HLs HOO HVl
          go_roundg (i-(p+1))
          case measure=>have:=HK2.out;omega
          case rel=>exact ⟨p+1,I+3,a1,n1,c1,_,by go_num,rfl,by omega,by unfold Hid;have:=HI.out;omega,rfl,HV9,HO9,HSc2⟩
      ·have hpe:p=i:=by omega
       subst hpe
       have hIM:I=M:=by have:=HI.out;have:=HM.out;omega
       have hIM': ¬((I:Int)+2<M):=by omega
       have HOut:Hid (τk w p bs (.returned (.slice oa on oc)) wr):=by
        obtain ⟨b,c,he,hb1,hb2,hc2⟩:=HOw.out.cells (by omega)
        refine ⟨(Lo+149).toNat,b,c,vs,by rw [he],HVl.out,hb2,hc2,fun q hq=> ?_,HB2.out.trans (HOw.out.bel.mono HB2.out.size)⟩
        have hq':q<vs.length:=by rw [HVl.out];exact hq
        obtain ⟨s1,s2,s3,s4,s5,s6⟩:=HSc.out q hq'
        have hm:vs.getD q default∈vs:=by rw [List.getD_eq_getElem?_getD,List.getElem?_eq_getElem hq'];exact List.getElem_mem hq'
        have hx:=HOw.out.l1 (vs.getD q default).x (List.mem_flatMap.mpr ⟨_,hm,by simp [LW.nums]⟩)
        have hy:=HOw.out.l1 (vs.getD q default).y (List.mem_flatMap.mpr ⟨_,hm,by simp [LW.nums]⟩)
        have hz:=HOw.out.l1 (vs.getD q default).z (List.mem_flatMap.mpr ⟨_,hm,by simp [LW.nums]⟩)
        exact ⟨⟨_,_,_,_,_,_,_,_,_,_,_,_,rfl,⟨_,_,_,_,rfl,hx,s4,trivial⟩,⟨_,_,_,_,rfl,hy,s5,trivial⟩,⟨_,_,_,_,rfl,hz,s6,trivial⟩⟩,s1,s2,s3⟩
       clear HOw HSc HVl
       go_wp2
       go_ret
       exact HOut.out
end Go.Proofs.YtfieffpobgcpmaaGreatDoor
