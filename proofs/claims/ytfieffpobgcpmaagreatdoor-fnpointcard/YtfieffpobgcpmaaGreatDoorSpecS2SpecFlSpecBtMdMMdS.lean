import Derived.Test.YtfieffpobgcpmaaGreatDoorSpecEToDy1h
import Derived.Test.YtfieffpobgcpmaaGreatDoorDy2NumDNumFNumG
import Derived.Test.YtfieffpobgcpmaaGreatDoorDyN2ToEsF
import Derived.Test.YtfieffpobgcpmaaGreatDoorBoxToNumS
import Derived.Test.YtfieffpobgcpmaaGreatDoorNumZToSpecO
import Derived.Test.YtfieffpobgcpmaaGreatDoorImplNgImplNNumMImplM
import Derived.Test.YtfieffpobgcpmaaGreatDoorSpecMSpecJ0SpecJSpecSMdA
import Derived.Test.YtfieffpobgcpmaaGreatDoorWiGToLwD
import Derived.Test.YtfieffpobgcpmaaGreatDoorDy1ToFpE
import Derived.Test.YtfieffpobgcpmaaGreatDoorEsEToImplC0
import Derived.Test.YtfieffpobgcpmaaGreatDoorFrCFrDCsA
set_option maxRecDepth 100000
set_option maxHeartbeats 32000000
namespace Go.Proofs.YtfieffpobgcpmaaGreatDoor
open Go.RowKit
def sdig (V:Int):List Int:=if V=0 then [] else if V<65536 then [V] else [V%65536,V/65536]
theorem l1_sdig {w:World} {g:Bool} {a:Option Addr} {c:Nat} {v V:Int} (h0:0≤V) (h1:V<4294967296) (hv:v=sg g V) (hg:g=true→V≠0) (hc:c≤maxLen) (h:Sl .i64 w a c (sdig V)):L1 w g a c (sdig V) v:=by
 by_cases hz:V=0
 ·have e:sdig V=[]:=by unfold sdig;rw [if_pos hz]
  rw [e] at h⊢
  exact ⟨h,⟨Dig.nil _,rfl⟩,by rw [hv,hz];rfl,fun h2=>absurd hz (hg h2),hc⟩
 ·by_cases hs:V<65536
  ·have e:sdig V=[V]:=by unfold sdig;rw [if_neg hz,if_pos hs]
   rw [e] at h⊢
   exact ⟨h,⟨Dig.cons h0 hs (Dig.nil _),by simp [trimL,hz]⟩,by rw [hv];simp [val],by simp,hc⟩
  ·have e:sdig V=[V%65536,V/65536]:=by unfold sdig;rw [if_neg hz,if_neg hs]
   have hq:V/65536≠0:=by omega
   rw [e] at h⊢
   exact ⟨h,⟨Dig.cons (by omega) (by omega) (Dig.cons (by omega) (by omega) (Dig.nil _)),by simp [trimL,hq]⟩,by rw [hv];congr 1;simp [val];omega,by simp,hc⟩
def Small2Out (w:World) (v:Int) (e:Ending) (w':World):Prop:=
 ∃(g:Bool) (a:Option Addr) (c:Nat) (ds:List Int),e= .returned (.agg #[g,.slice a ds.length c])∧ds.length≤2∧L1 w' g a c ds v∧Far (w.heap.size+1) a ds∧Below w.heap.size w w'
theorem wrap_i64 {n:Int} (h0:0≤n) (h1:n<9223372036854775808):IntKind.i64.wrap n=n:=by
 simp [IntKind.wrap,IntKind.bits,IntKind.signed]
 omega
theorem small2_pos (v:Int) (w:World) (h0:0≤v) (h1:v<4294967296):
 Calls Tryz.prog 74 #[.int .i64 v] w fun e w'=>Small2Out w v e w':=by
 obtain ⟨V,hV⟩: ∃V,V=v:=⟨_,rfl⟩
 have hV0:0≤V:=by omega
 have hV1:V<4294967296:=by omega
 have HVV:Hid (V=v):=hV
 clear hV
 go_enter Tryz.func74,Tryz.ntmps74
 go_wp2
 go_loopw [4,5] (fun su sd wr=> ∃(u:Int) (ys:List Int),su= .int .u64 u∧((u=V∧ys=[])∨(u=V/65536∧ys=[V%65536]∧0<V)∨(u=0∧ys=[V%65536,V/65536]∧65536≤V))∧wr.ownsRow (w.heap.size+1) 3 1 sd ys.length (vals .i64 ys)∧Below (w.heap.size+1) (w.alloc (.cells #[false,()] 72)) wr∧w.heap.size+1≤wr.heap.size) (fun su _ _=>(intOf su).toNat)
 case atStart=>exact ⟨V,[],by rw [HVV.out],.inl ⟨rfl,rfl⟩,own_nil _ _ _ _,Below.refl _ _,by simp⟩
 case round=>
  obtain ⟨u,ys,rfl,hcase,hown,hnx,hsz⟩:=hrel
  have hu0:0≤u:=by omega
  have hu1:u<4294967296:=by omega
  by_cases hu:0<u
  ·have E1:Hid (IntKind.i64.wrap (u%65536)=u%65536):=wrap_i64 (by omega) (by omega)
   rcases hcase with ⟨hc1,hc2⟩| ⟨hc1,hc2,hc3⟩| ⟨hc1,_,_⟩
   ·subst hc2
    have HC:Hid (_=_):=hc1
    clear hc1
    go_wp2_with (at_builtin;refine app1 rfl (.tmp 15) (.tmp 19) 66 rfl (w.heap.size+1) 3 Tryz.underlying66 Tryz.info3 (by decide) _ _ rfl rfl hown (by simp) hsz ?_;intro a1 n1 c1 w1 hown1 hb1 hs1)
    go_roundw
    case rel=>exact ⟨u/65536,[u%65536],rfl,.inr (.inl ⟨by rw [HC.out],by rw [HC.out],by have:=HC.out;omega⟩),hown1,hnx.trans hb1,by omega⟩
    case measure=>simp only [intOf];omega
   ·subst hc2
    have HC:Hid (_=_):=hc1
    clear hc1
    go_wp2_with (at_builtin;refine app1 rfl (.tmp 15) (.tmp 19) 66 rfl (w.heap.size+1) 3 Tryz.underlying66 Tryz.info3 (by decide) _ _ rfl rfl hown (by simp) hsz ?_;intro a1 n1 c1 w1 hown1 hb1 hs1)
    go_roundw
    case rel=>exact ⟨u/65536,[V%65536,u%65536],rfl,.inr (.inr ⟨by have:=HC.out;omega,by have:=HC.out;have e:u%65536=V/65536:=(by omega);rw [e],by have:=HC.out;omega⟩),hown1,hnx.trans hb1,by omega⟩
    case measure=>simp only [intOf];omega
   ·omega
  ·have hu00:u=0:=by omega
   subst hu00
   have hys:ys=sdig V:=by
    unfold sdig
    rcases hcase with ⟨hc1,hc2⟩| ⟨hc1,hc2,hc3⟩| ⟨hc1,hc2,hc3⟩
    ·rw [hc2,if_pos hc1.symm]
    ·rw [hc2,if_neg (by omega),if_pos (by omega),Int.emod_eq_of_lt (by omega) (by omega)]
    ·rw [hc2,if_neg (by omega),if_neg (by omega)]
   obtain ⟨a',c',rfl,hcm,hsl,hrn⟩:=own_row hown
   have r1:wr.cell? ⟨w.heap.size,0,none⟩=some ↑false:=by rw [hnx.cell (by simp)];simp [go_sem]
   have r2:wr.cell? ⟨w.heap.size,1,none⟩=some ↑():=by rw [hnx.cell (by simp)];simp [go_sem]
   have r3: ∀j,wr.frozen? ⟨w.heap.size,j,none⟩=false:=by intro j;rw [hnx.frozen (by simp)];simp [go_sem]
   have HF:Hid (Far (w.heap.size+1) a' ys):=hrn.far (Nat.le_refl _) (Nat.le_refl _)
   have HL:Hid (L1 wr false a' c' ys v):=by unfold Hid;rw [hys] at hsl⊢;exact l1_sdig hV0 hV1 (by have:=HVV.out;simp [sg];omega) (by intro h;cases h) hcm hsl
   have HB:Hid (Below w.heap.size w wr):=(bel0 _ _).trans (hnx.mono (by omega))
   have hyl:ys.length≤2:=by rw [hys];unfold sdig;split<;>(try split)<;>simp
   clear hown hnx hsl hrn hcase hys
   go_wp2
   refine bodyPost_ret (v:= .agg #[false,.slice a' ys.length c']) (by simp [results,Tryz.results74,go_sem,r1,r2,h0]) rfl ?_
   refine ⟨false,a',c',ys,rfl,hyl,?_,HF.out,?_⟩
   ·exact (HL.out.setFar HF.out (by simp) _).setFar HF.out (by simp) _
   ·exact (HB.out.setCell (by simp) _).setCell (by simp) _
theorem small2_neg (v:Int) (w:World) (h0:v<0) (h1: -4294967296<v):
 Calls Tryz.prog 74 #[.int .i64 v] w fun e w'=>Small2Out w v e w':=by
 obtain ⟨V,hV⟩: ∃V,V= -v:=⟨_,rfl⟩
 have hV0:0≤V:=by omega
 have hV1:V<4294967296:=by omega
 have HVV:Hid (V= -v):=hV
 clear hV
 go_enter Tryz.func74,Tryz.ntmps74
 go_wp2
 go_loopw [4,5] (fun su sd wr=> ∃(u:Int) (ys:List Int),su= .int .u64 u∧((u=V∧ys=[])∨(u=V/65536∧ys=[V%65536]∧0<V)∨(u=0∧ys=[V%65536,V/65536]∧65536≤V))∧wr.ownsRow (w.heap.size+1) 3 1 sd ys.length (vals .i64 ys)∧Below (w.heap.size+1) (w.alloc (.cells #[false,()] 72)) wr∧w.heap.size+1≤wr.heap.size) (fun su _ _=>(intOf su).toNat)
 case atStart=>exact ⟨V,[],by rw [HVV.out];exact congrArg _ (by simp [IntKind.wrap,IntKind.bits,IntKind.signed];omega),.inl ⟨rfl,rfl⟩,own_nil _ _ _ _,Below.refl _ _,by simp⟩
 case round=>
  obtain ⟨u,ys,rfl,hcase,hown,hnx,hsz⟩:=hrel
  have hu0:0≤u:=by omega
  have hu1:u<4294967296:=by omega
  by_cases hu:0<u
  ·have E1:Hid (IntKind.i64.wrap (u%65536)=u%65536):=wrap_i64 (by omega) (by omega)
   rcases hcase with ⟨hc1,hc2⟩| ⟨hc1,hc2,hc3⟩| ⟨hc1,_,_⟩
   ·subst hc2
    have HC:Hid (_=_):=hc1
    clear hc1
    go_wp2_with (at_builtin;refine app1 rfl (.tmp 15) (.tmp 19) 66 rfl (w.heap.size+1) 3 Tryz.underlying66 Tryz.info3 (by decide) _ _ rfl rfl hown (by simp) hsz ?_;intro a1 n1 c1 w1 hown1 hb1 hs1)
    go_roundw
    case rel=>exact ⟨u/65536,[u%65536],rfl,.inr (.inl ⟨by rw [HC.out],by rw [HC.out],by have:=HC.out;omega⟩),hown1,hnx.trans hb1,by omega⟩
    case measure=>simp only [intOf];omega
   ·subst hc2
    have HC:Hid (_=_):=hc1
    clear hc1
    go_wp2_with (at_builtin;refine app1 rfl (.tmp 15) (.tmp 19) 66 rfl (w.heap.size+1) 3 Tryz.underlying66 Tryz.info3 (by decide) _ _ rfl rfl hown (by simp) hsz ?_;intro a1 n1 c1 w1 hown1 hb1 hs1)
    go_roundw
    case rel=>exact ⟨u/65536,[V%65536,u%65536],rfl,.inr (.inr ⟨by have:=HC.out;omega,by have:=HC.out;have e:u%65536=V/65536:=(by omega);rw [e],by have:=HC.out;omega⟩),hown1,hnx.trans hb1,by omega⟩
    case measure=>simp only [intOf];omega
   ·omega
  ·have hu00:u=0:=by omega
   subst hu00
   have hys:ys=sdig V:=by
    unfold sdig
    rcases hcase with ⟨hc1,hc2⟩| ⟨hc1,hc2,hc3⟩| ⟨hc1,hc2,hc3⟩
    ·rw [hc2,if_pos hc1.symm]
    ·rw [hc2,if_neg (by omega),if_pos (by omega),Int.emod_eq_of_lt (by omega) (by omega)]
    ·rw [hc2,if_neg (by omega),if_neg (by omega)]
   obtain ⟨a',c',rfl,hcm,hsl,hrn⟩:=own_row hown
   have r1:wr.cell? ⟨w.heap.size,0,none⟩=some ↑false:=by rw [hnx.cell (by simp)];simp [go_sem]
   have r2:wr.cell? ⟨w.heap.size,1,none⟩=some ↑():=by rw [hnx.cell (by simp)];simp [go_sem]
   have r3: ∀j,wr.frozen? ⟨w.heap.size,j,none⟩=false:=by intro j;rw [hnx.frozen (by simp)];simp [go_sem]
   have HF:Hid (Far (w.heap.size+1) a' ys):=hrn.far (Nat.le_refl _) (Nat.le_refl _)
   have HL:Hid (L1 wr true a' c' ys v):=by unfold Hid;rw [hys] at hsl⊢;exact l1_sdig hV0 hV1 (by have:=HVV.out;simp [sg];omega) (by have:=HVV.out;intro _;omega) hcm hsl
   have HB:Hid (Below w.heap.size w wr):=(bel0 _ _).trans (hnx.mono (by omega))
   have hyl:ys.length≤2:=by rw [hys];unfold sdig;split<;>(try split)<;>simp
   clear hown hnx hsl hrn hcase hys
   go_wp2
   refine bodyPost_ret (v:= .agg #[true,.slice a' ys.length c']) (by simp [results,Tryz.results74,go_sem,r1,r2]) rfl ?_
   refine ⟨true,a',c',ys,rfl,hyl,?_,HF.out,?_⟩
   ·exact (HL.out.setFar HF.out (by simp) _).setFar HF.out (by simp) _
   ·exact (HB.out.setCell (by simp) _).setCell (by simp) _
theorem small2_any (v:Int) (w:World) (h0: -4294967296<v) (h1:v<4294967296):
 Calls Tryz.prog 74 #[.int .i64 v] w fun e w'=>Small2Out w v e w':=by
 by_cases h:0≤v
 ·exact small2_pos v w h h1
 ·exact small2_neg v w (by omega) h0
theorem float2_any (b:Int) (w:World) (h0:0≤b) (h1:b<4294967296):
 Calls Tryz.prog 112 #[b] w fun e w'=>NormOut w 2 (fNum b) (fExp b-150) 32 e w':=by
 have hc:(0<b/8388608%256∧2147483648≤b∧Hid (-(b%8388608+8388608)=fNum b)∧Hid (b/8388608%256-150=fExp b-150))∨(0<b/8388608%256∧ ¬2147483648≤b∧Hid (b%8388608+8388608=fNum b)∧Hid (b/8388608%256-150=fExp b-150))∨(¬0<b/8388608%256∧2147483648≤b∧Hid (-(b%8388608)=fNum b)∧Hid (-149=fExp b-150))∨(¬0<b/8388608%256∧ ¬2147483648≤b∧Hid (b%8388608=fNum b)∧Hid (-149=fExp b-150)):=by
  by_cases hE:0<b/8388608%256<;>by_cases hS:2147483648≤b
  ·exact .inl ⟨hE,hS,by unfold Hid fNum fMag;rw [if_pos hS];rw [if_neg (by omega)],by unfold Hid fExp;rw [if_neg (by omega)]⟩
  ·exact .inr (.inl ⟨hE,hS,by unfold Hid fNum fMag;rw [if_neg (by omega)];rw [if_neg (by omega)],by unfold Hid fExp;rw [if_neg (by omega)]⟩)
  ·exact .inr (.inr (.inl ⟨hE,hS,by unfold Hid fNum fMag;rw [if_pos hS];rw [if_pos (by omega)],by unfold Hid fExp;rw [if_pos (by omega)];rfl⟩))
  ·exact .inr (.inr (.inr ⟨hE,hS,by unfold Hid fNum fMag;rw [if_neg (by omega)];rw [if_pos (by omega)],by unfold Hid fExp;rw [if_pos (by omega)];rfl⟩))
 rcases hc with ⟨hE,hS,HX,HY⟩| ⟨hE,hS,HX,HY⟩| ⟨hE,hS,HX,HY⟩| ⟨hE,hS,HX,HY⟩
 all_goals
  have HX1:Hid (-4294967296<fNum b∧fNum b<4294967296):=by
   unfold Hid
   rw [←HX.out]
   omega
  have HY1:Hid (-150≤fExp b-150∧fExp b-150≤200):=by
   unfold Hid
   rw [←HY.out]
   omega
  have HB0:Hid (∀t,Has3 w.heap.size (w.alloc (.cells #[false,(),.int .i64 0] t))):=fun t=>Has3.new w t
  go_enter Tryz.func112,Tryz.ntmps112
  go_wp2_with fail
  rw [HX.out]
  refine (small2_any (fNum b) _ HX1.out.1 HX1.out.2).mono ?_
  rintro e w1 ⟨g1,a1,c1,ds,rfl,hl1,hL1,hF1,hb1⟩
  have K1:Hid (Has3 w.heap.size w1):=(HB0.out _).later hb1
  have B1:Hid (Below w.heap.size w w1):=(bel0 _ _).trans (hb1.mono (by simp))
  have HL1:Hid (L1 w1 g1 a1 c1 ds (fNum b)):=hL1
  clear hb1 hF1 hL1
  go_wp2_with fail
  rw [HY.out]
  refine (norm_any g1 a1 c1 ds _ _ _ (by omega) (by have:=HY1.out;omega) (by have:=HY1.out;omega) HL1.out).mono ?_
  rintro e w2 ⟨m,e',hnf,g2,a2,c2,fs,rfl,hl2,hL2,hF2,hb2⟩
  have K2:Hid (Has3 w.heap.size w2):=K1.out.later hb2
  have B2:Hid (Below w.heap.size w w2):=B1.out.trans (hb2.mono B1.out.size)
  have HL2:Hid (L1 w2 g2 a2 c2 fs m):=hL2
  have HF2:Hid (Far (w.heap.size+1) a2 fs):=hF2.down K1.out.lt
  have HN:Hid (NormOf (fNum b) (fExp b-150) m e' 32):=by
   rcases hnf with h| ⟨h1,t,h2,h3,h4,h5⟩
   ·exact .inl h
   ·exact .inr ⟨h1,t,h2,h3,h4,by omega⟩
  have r1:=K2.out.r1
  have r2:=K2.out.r2
  have r3:=K2.out.r3
  have r4:=K2.out.r4
  clear hL2 hF2 hb2 hnf HB0
  go_wp2
  refine bodyPost_ret (v:= .agg #[g2,.slice a2 fs.length c2,.int .i64 e']) (by simp [results,Tryz.results112,go_sem,r1,r2,r3]) rfl ?_
  refine ⟨m,e',HN.out,g2,a2,c2,fs,rfl,by omega,?_,HF2.out.down (by omega),?_⟩
  ·exact ((HL2.out.setFar HF2.out (by simp) _).setFar HF2.out (by simp) _).setFar HF2.out (by simp) _
  ·exact ((B2.out.setCell (by simp) _).setCell (by simp) _).setCell (by simp) _
theorem halved {y t:Int} {n:Nat} (ht:t=y/2^n) (h0:0<t):2^n≤y∧t/2=y/2^(n+1):=by
 have hp:(0:Int)<2^n:=Int.pow_pos (by decide)
 constructor
 ·have h1:1≤y/2^n:=by omega
  have:=(Int.le_ediv_iff_mul_le hp).1 h1
  omega
 ·rw [ht,Int.ediv_ediv_of_nonneg (Int.le_of_lt hp),Int.pow_succ]
def CU (w:World) (pb:Nat) (bs:List Int):Prop:=pb<w.heap.size∧ ∀j,j<bs.length→w.cell? ⟨pb,j,none⟩=some (.int .u32 (bs.getD j 0))
theorem CU.later {w w':World} {pb:Nat} {bs:List Int} (h:CU w pb bs) (hb:Below w.heap.size w w'):CU w' pb bs:=
 ⟨Nat.lt_of_lt_of_le h.1 hb.size,fun j hj=>(hb.cell (p:=⟨pb,j,none⟩) h.1).trans (h.2 j hj)⟩
def NmF (bs:List Int) (ls:List LV):Prop:= ∀j,j<ls.length→NormOf (fNum (bs.getD j 0)) (fExp (bs.getD j 0)-150) (ls.getD j default).m (ls.getD j default).e 32∧(ls.getD j default).fs.length≤2
theorem NmF.nil (bs:List Int):NmF bs []:=fun j hj=>absurd hj (by simp)
theorem NmF.snoc {bs:List Int} {ls:List LV} (h:NmF bs ls) {l:LV} (hl:NormOf (fNum (bs.getD ls.length 0)) (fExp (bs.getD ls.length 0)-150) l.m l.e 32) (hf:l.fs.length≤2):NmF bs (ls++[l]):=by
 intro j hj
 rcases getD_snoc ls l j hj with ⟨h1,h2⟩| ⟨h1,h2⟩
 ·rw [h2];exact h j h1
 ·rw [h2,h1];exact ⟨hl,hf⟩
def DyIs (K:Nat) (w:World) (v:Value) (b:Int):Prop:= ∃(g:Bool) (a:Option Addr) (c:Nat) (z:List Int) (m e:Int),v= .agg #[g,.slice a z.length c,.int .i64 e]∧NormOf (fNum b) (fExp b-150) m e 32∧z.length≤2∧L1 w g a c z m∧Far K a z
theorem float3_any (b:Int) (K:Nat) (w:World) (h0:0≤b) (h1:b<4294967296) (hK:K≤w.heap.size):
 Calls Tryz.prog 112 #[b] w fun o w'=> ∃v,o= .returned v∧DyIs K w' v b∧Below w.heap.size w w':=by
 refine (float2_any b w h0 h1).mono ?_
 rintro o w' ⟨m,e,hN,g,a,c,z,rfl,hl,hL,hF,hb⟩
 exact ⟨_,rfl,⟨g,a,c,z,m,e,rfl,hN,hl,hL,hF.down hK⟩,hb⟩
theorem scale_one {b m e L:Int} (h0:0≤b) (h:NormOf (fNum b) (fExp b-150) m e 32) (hL:L≤e) (hL2: -149≤L):m*2^(e-L).toNat*2^(L+149).toNat=cor b:=by
 unfold cor
 have hx:=(fExp_pos h0).1
 rcases h with ⟨h1,h2,h3⟩| ⟨h1,t,h2,h3,_,_⟩
 ·rw [h1,h2];simp
 ·rw [h2,Int.mul_assoc,Int.mul_assoc,←Int.pow_add,←Int.pow_add]
  congr 2
  omega
theorem norm_low {b m e:Int} (h0:0≤b) (h:NormOf (fNum b) (fExp b-150) m e 32): -149≤e∧e≤137:=by
 have hx:=fExp_pos h0
 rcases h with ⟨h1,h2,h3⟩| ⟨h1,t,h2,h3,_,h5⟩<;>omega
def LIs (K:Nat) (w:World) (v:Value) (n:Nat) (x:Int):Prop:= ∃(g:Bool) (a:Option Addr) (c:Nat) (z:List Int),v= .agg #[g,.slice a z.length c]∧L1 w g a c z x∧z.length≤n∧Far K a z
theorem upL_any (g:Bool) (a:Option Addr) (c:Nat) (z:List Int) (x t:Int) (K:Nat) (w:World) (hn:z.length≤2) (h0:0≤t) (h1:t≤290) (hK:K≤w.heap.size) (h:L1 w g a c z x):
 Calls Tryz.prog 73 #[.agg #[g,.slice a z.length c],.int .i64 t] w fun o w'=> ∃v,o= .returned v∧LIs K w' v 21 (x*2^t.toNat)∧Below w.heap.size w w':=by
 refine (up_any g a c z x t w (by omega) h0 (by omega) h).mono ?_
 rintro o w' ⟨g',a',c',z',rfl,hl,hL,hF,hb⟩
 exact ⟨_,rfl,⟨g',a',c',z',rfl,hL,by omega,hF.down hK⟩,hb⟩
theorem L1.setNo {w:World} {g:Bool} {a:Option Addr} {c:Nat} {ds:List Int} {x:Int} {b i:Nat} {u:Value} (h1:L1 w g a c ds x) (hn:NoInt w b):L1 (w.setCell ⟨b,i,none⟩ u) g a c ds x:=by
 refine ⟨⟨h1.sl.fits,h1.sl.nil,?_⟩,h1.can,h1.num,h1.zero,h1.cap⟩
 rcases h1.sl.row with h3| ⟨q,off,rfl,hq,hc⟩
 ·exact .inl h3
 ·by_cases hz:ds.length=0
  ·exact .inl (List.eq_nil_of_length_eq_zero hz)
  ·refine .inr ⟨q,off,rfl,by simpa using hq,fun j hj=> ?_⟩
   have hne:q≠b:=by
    intro hqb
    subst hqb
    exact hn.2 _ _ _ (hc 0 (by omega))
   rw [World.cell?_setCell_other _ _ _ _ (by intro hh;apply hne;have:=congrArg Addr.block hh;simp at this;exact this.symm)]
   exact hc j hj
structure NwL (W0:World) (P:Nat) (g:Bool) (a:Option Addr) (c:Nat) (z:List Int) (x:Int) (W:World):Prop where
 bx:Cs W P [g,.slice a z.length c]
 l:L1 W g a c z x
 n:z.length≤21
 f:Far W0.heap.size a z
 le:W0.heap.size≤P
 bel:Below W0.heap.size W0 W
theorem NwL.later {W0 W W':World} {P:Nat} {g:Bool} {a:Option Addr} {c:Nat} {z:List Int} {x:Int} (h:NwL W0 P g a c z x W) (hb:Below W.heap.size W W'):NwL W0 P g a c z x W':=
 ⟨h.bx.later hb,h.l.later hb,h.n,h.f,h.le,h.bel.trans (hb.mono h.bel.size)⟩
theorem NwL.fin {W0 W:World} {P:Nat} {g:Bool} {a:Option Addr} {c:Nat} {z:List Int} {x:Int} (hc:Cs W P [false,()]) (hn:NoInt W P) (h:L1 W g a c z x) (h1:z.length≤21) (hf:Far W0.heap.size a z) (hb:Below W0.heap.size W0 W) (hP:W0.heap.size≤P):NwL W0 P g a c z x (setAll W P 0 [g,.slice a z.length c]):=by
 refine ⟨hc.whole _ rfl,?_,h1,hf,hP,below_setAll hP _ W 0 hb⟩
 have h2:NoInt (W.setCell ⟨P,0,none⟩ g) P:=hn.set (by simp [NotInt])
 exact (h.setNo hn).setNo h2
end Go.Proofs.YtfieffpobgcpmaaGreatDoor
