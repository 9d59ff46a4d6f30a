import Derived.Test.YtfieffpobgcpmaaGreatDoorSpecOToNumF
import Derived.Test.YtfieffpobgcpmaaGreatDoorDyN2ToEsF
import Derived.Test.YtfieffpobgcpmaaGreatDoorSpecDSpecTwBox1SpecN
import Derived.Test.YtfieffpobgcpmaaGreatDoorNumSNumZTzOpenTUtil
import Derived.Test.YtfieffpobgcpmaaGreatDoorImplNgImplNNumMImplM
import Derived.Test.YtfieffpobgcpmaaGreatDoorSpecJ0SpecJSpecSMdAMdD
import Derived.Test.YtfieffpobgcpmaaGreatDoorWiGToLwD
import Derived.Test.YtfieffpobgcpmaaGreatDoorDy1ToGrow4
import Derived.Test.YtfieffpobgcpmaaGreatDoorEsEToImplC0
import Derived.Test.YtfieffpobgcpmaaGreatDoorBgNCsAReARkACoA
set_option maxRecDepth 100000
set_option maxHeartbeats 32000000
namespace Go.Proofs.YtfieffpobgcpmaaGreatDoor
open Go.RowKit
def sdig (V:Int):List Int:=if V=0 then [] else if V<65536 then [V] else [V%65536,V/65536]
theorem l1_sdig {w:World} {g:Bool} {a:Option Addr} {c:Nat} {v V:Int} (h0:0≤V) (h1:V<4294967296) (hv:v=sg g V) (hg:g=true→V≠0) (hc:c≤maxLen) (h:Sl .i64 w a c (sdig V)):L1 w g a c (sdig V) v:=by
 by_cases hz:V=0
 ·have e:sdig V=[]:=by unfold sdig;rw [if_pos hz]
  rw [e] at h⊢
  exact ⟨h,⟨Dig.nil _,rfl⟩,by rw [hv,hz];rfl,fun h2=>absurd hz (hg h2),hc⟩
 ·by_cases hs:V<65536
  ·have e:sdig V=[V]:=by unfold sdig;rw [if_neg hz,if_pos hs]
   rw [e] at h⊢
   exact ⟨h,⟨Dig.cons h0 hs (Dig.nil _),by simp [trimL,hz]⟩,by rw [hv];simp [val],by simp,hc⟩
  ·have e:sdig V=[V%65536,V/65536]:=by unfold sdig;rw [if_neg hz,if_neg hs]
   have hq:V/65536≠0:=by omega
   rw [e] at h⊢
   exact ⟨h,⟨Dig.cons (by omega) (by omega) (Dig.cons (by omega) (by omega) (Dig.nil _)),by simp [trimL,hq]⟩,by rw [hv];congr 1;simp [val];omega,by simp,hc⟩
def Small2Out (w:World) (v:Int) (e:Ending) (w':World):Prop:=
 ∃(g:Bool) (a:Option Addr) (c:Nat) (ds:List Int),e= .returned (.agg #[g,.slice a ds.length c])∧ds.length≤2∧L1 w' g a c ds v∧Far (w.heap.size+1) a ds∧Below w.heap.size w w'
theorem wrap_i64 {n:Int} (h0:0≤n) (h1:n<9223372036854775808):IntKind.i64.wrap n=n:=by
 simp [IntKind.wrap,IntKind.bits,IntKind.signed]
 omega
theorem small2_pos (v:Int) (w:World) (h0:0≤v) (h1:v<4294967296):
 Calls Tryz.prog 74 #[.int .i64 v] w fun e w'=>Small2Out w v e w':=by
 obtain ⟨V,hV⟩: ∃V,V=v:=⟨_,rfl⟩
 have hV0:0≤V:=by omega
 have hV1:V<4294967296:=by omega
 have HVV:Hid (V=v):=hV
 clear hV
 go_enter Tryz.func74,Tryz.ntmps74
 go_wp2
 go_loopw [4,5] (fun su sd wr=> ∃(u:Int) (ys:List Int),su= .int .u64 u∧((u=V∧ys=[])∨(u=V/65536∧ys=[V%65536]∧0<V)∨(u=0∧ys=[V%65536,V/65536]∧65536≤V))∧wr.ownsRow (w.heap.size+1) 3 1 sd ys.length (vals .i64 ys)∧Below (w.heap.size+1) (w.alloc (.cells #[false,()] 72)) wr∧w.heap.size+1≤wr.heap.size) (fun su _ _=>(intOf su).toNat)
 case atStart=>exact ⟨V,[],by rw [HVV.out],.inl ⟨rfl,rfl⟩,own_nil _ _ _ _,Below.refl _ _,by simp⟩
 case round=>
  obtain ⟨u,ys,rfl,hcase,hown,hnx,hsz⟩:=hrel
  have hu0:0≤u:=by omega
  have hu1:u<4294967296:=by omega
  by_cases hu:0<u
  ·have E1:Hid (IntKind.i64.wrap (u%65536)=u%65536):=wrap_i64 (by omega) (by omega)
   rcases hcase with ⟨hc1,hc2⟩| ⟨hc1,hc2,hc3⟩| ⟨hc1,_,_⟩
   ·subst hc2
    have HC:Hid (_=_):=hc1
    clear hc1
    go_wp2_with (at_builtin;refine app1 rfl (.tmp 15) (.tmp 19) 66 rfl (w.heap.size+1) 3 Tryz.underlying66 Tryz.info3 (by decide) _ _ rfl rfl hown (by simp) hsz ?_;intro a1 n1 c1 w1 hown1 hb1 hs1)
    go_roundw
    case rel=>exact ⟨u/65536,[u%65536],rfl,.inr (.inl ⟨by rw [HC.out],by rw [HC.out],by have:=HC.out;omega⟩),hown1,hnx.trans hb1,by omega⟩
    case measure=>simp only [intOf];omega
   ·subst hc2
    have HC:Hid (_=_):=hc1
    clear hc1
    go_wp2_with (at_builtin;refine app1 rfl (.tmp 15) (.tmp 19) 66 rfl (w.heap.size+1) 3 Tryz.underlying66 Tryz.info3 (by decide) _ _ rfl rfl hown (by simp) hsz ?_;intro a1 n1 c1 w1 hown1 hb1 hs1)
    go_roundw
    case rel=>exact ⟨u/65536,[V%65536,u%65536],rfl,.inr (.inr ⟨by have:=HC.out;omega,by have:=HC.out;have e:u%65536=V/65536:=(by omega);rw [e],by have:=HC.out;omega⟩),hown1,hnx.trans hb1,by omega⟩
    case measure=>simp only [intOf];omega
   ·omega
  ·have hu00:u=0:=by omega
   subst hu00
   have hys:ys=sdig V:=by
    unfold sdig
    rcases hcase with ⟨hc1,hc2⟩| ⟨hc1,hc2,hc3⟩| ⟨hc1,hc2,hc3⟩
    ·rw [hc2,if_pos hc1.symm]
    ·rw [hc2,if_neg (by omega),if_pos (by omega),Int.emod_eq_of_lt (by omega) (by omega)]
    ·rw [hc2,if_neg (by omega),if_neg (by omega)]
   obtain ⟨a',c',rfl,hcm,hsl,hrn⟩:=own_row hown
   have r1:wr.cell? ⟨w.heap.size,0,none⟩=some ↑false:=by rw [hnx.cell (by simp)];simp [go_sem]
   have r2:wr.cell? ⟨w.heap.size,1,none⟩=some ↑():=by rw [hnx.cell (by simp)];simp [go_sem]
   have r3: ∀j,wr.frozen? ⟨w.heap.size,j,none⟩=false:=by intro j;rw [hnx.frozen (by simp)];simp [go_sem]
   have HF:Hid (Far (w.heap.size+1) a' ys):=hrn.far (Nat.le_refl _) (Nat.le_refl _)
   have HL:Hid (L1 wr false a' c' ys v):=by unfold Hid;rw [hys] at hsl⊢;exact l1_sdig hV0 hV1 (by have:=HVV.out;simp [sg];omega) (by intro h;cases h) hcm hsl
   have HB:Hid (Below w.heap.size w wr):=(bel0 _ _).trans (hnx.mono (by omega))
   have hyl:ys.length≤2:=by rw [hys];unfold sdig;split<;>(try split)<;>simp
   clear hown hnx hsl hrn hcase hys
   go_wp2
   refine bodyPost_ret (v:= .agg #[false,.slice a' ys.length c']) (by simp [results,Tryz.results74,go_sem,r1,r2,h0]) rfl ?_
   refine ⟨false,a',c',ys,rfl,hyl,?_,HF.out,?_⟩
   ·exact (HL.out.setFar HF.out (by simp) _).setFar HF.out (by simp) _
   ·exact (HB.out.setCell (by simp) _).setCell (by simp) _
theorem small2_neg (v:Int) (w:World) (h0:v<0) (h1: -4294967296<v):
 Calls Tryz.prog 74 #[.int .i64 v] w fun e w'=>Small2Out w v e w':=by
 obtain ⟨V,hV⟩: ∃V,V= -v:=⟨_,rfl⟩
 have hV0:0≤V:=by omega
 have hV1:V<4294967296:=by omega
 have HVV:Hid (V= -v):=hV
 clear hV
 go_enter Tryz.func74,Tryz.ntmps74
 go_wp2
 go_loopw [4,5] (fun su sd wr=> ∃(u:Int) (ys:List Int),su= .int .u64 u∧((u=V∧ys=[])∨(u=V/65536∧ys=[V%65536]∧0<V)∨(u=0∧ys=[V%65536,V/65536]∧65536≤V))∧wr.ownsRow (w.heap.size+1) 3 1 sd ys.length (vals .i64 ys)∧Below (w.heap.size+1) (w.alloc (.cells #[false,()] 72)) wr∧w.heap.size+1≤wr.heap.size) (fun su _ _=>(intOf su).toNat)
 case atStart=>exact ⟨V,[],by rw [HVV.out];exact congrArg _ (by simp [IntKind.wrap,IntKind.bits,IntKind.signed];omega),.inl ⟨rfl,rfl⟩,own_nil _ _ _ _,Below.refl _ _,by simp⟩
 case round=>
  obtain ⟨u,ys,rfl,hcase,hown,hnx,hsz⟩:=hrel
  have hu0:0≤u:=by omega
  have hu1:u<4294967296:=by omega
  by_cases hu:0<u
  ·have E1:Hid (IntKind.i64.wrap (u%65536)=u%65536):=wrap_i64 (by omega) (by omega)
   rcases hcase with ⟨hc1,hc2⟩| ⟨hc1,hc2,hc3⟩| ⟨hc1,_,_⟩
   ·subst hc2
    have HC:Hid (_=_):=hc1
    clear hc1
    go_wp2_with (at_builtin;refine app1 rfl (.tmp 15) (.tmp 19) 66 rfl (w.heap.size+1) 3 Tryz.underlying66 Tryz.info3 (by decide) _ _ rfl rfl hown (by simp) hsz ?_;intro a1 n1 c1 w1 hown1 hb1 hs1)
    go_roundw
    case rel=>exact ⟨u/65536,[u%65536],rfl,.inr (.inl ⟨by rw [HC.out],by rw [HC.out],by have:=HC.out;omega⟩),hown1,hnx.trans hb1,by omega⟩
    case measure=>simp only [intOf];omega
   ·subst hc2
    have HC:Hid (_=_):=hc1
    clear hc1
    go_wp2_with (at_builtin;refine app1 rfl (.tmp 15) (.tmp 19) 66 rfl (w.heap.size+1) 3 Tryz.underlying66 Tryz.info3 (by decide) _ _ rfl rfl hown (by simp) hsz ?_;intro a1 n1 c1 w1 hown1 hb1 hs1)
    go_roundw
    case rel=>exact ⟨u/65536,[V%65536,u%65536],rfl,.inr (.inr ⟨by have:=HC.out;omega,by have:=HC.out;have e:u%65536=V/65536:=(by omega);rw [e],by have:=HC.out;omega⟩),hown1,hnx.trans hb1,by omega⟩
    case measure=>simp only [intOf];omega
   ·omega
  ·have hu00:u=0:=by omega
   subst hu00
   have hys:ys=sdig V:=by
    unfold sdig
    rcases hcase with ⟨hc1,hc2⟩| ⟨hc1,hc2,hc3⟩| ⟨hc1,hc2,hc3⟩
    ·rw [hc2,if_pos hc1.symm]
    ·rw [hc2,if_neg (by omega),if_pos (by omega),Int.emod_eq_of_lt (by omega) (by omega)]
    ·rw [hc2,if_neg (by omega),if_neg (by omega)]
   obtain ⟨a',c',rfl,hcm,hsl,hrn⟩:=own_row hown
   have r1:wr.cell? ⟨w.heap.size,0,none⟩=some ↑false:=by rw [hnx.cell (by simp)];simp [go_sem]
   have r2:wr.cell? ⟨w.heap.size,1,none⟩=some ↑():=by rw [hnx.cell (by simp)];simp [go_sem]
   have r3: ∀j,wr.frozen? ⟨w.heap.size,j,none⟩=false:=by intro j;rw [hnx.frozen (by simp)];simp [go_sem]
   have HF:Hid (Far (w.heap.size+1) a' ys):=hrn.far (Nat.le_refl _) (Nat.le_refl _)
   have HL:Hid (L1 wr true a' c' ys v):=by unfold Hid;rw [hys] at hsl⊢;exact l1_sdig hV0 hV1 (by have:=HVV.out;simp [sg];omega) (by have:=HVV.out;intro _;omega) hcm hsl
   have HB:Hid (Below w.heap.size w wr):=(bel0 _ _).trans (hnx.mono (by omega))
   have hyl:ys.length≤2:=by rw [hys];unfold sdig;split<;>(try split)<;>simp
   clear hown hnx hsl hrn hcase hys
   go_wp2
   refine bodyPost_ret (v:= .agg #[true,.slice a' ys.length c']) (by simp [results,Tryz.results74,go_sem,r1,r2]) rfl ?_
   refine ⟨true,a',c',ys,rfl,hyl,?_,HF.out,?_⟩
   ·exact (HL.out.setFar HF.out (by simp) _).setFar HF.out (by simp) _
   ·exact (HB.out.setCell (by simp) _).setCell (by simp) _
theorem small2_any (v:Int) (w:World) (h0: -4294967296<v) (h1:v<4294967296):
 Calls Tryz.prog 74 #[.int .i64 v] w fun e w'=>Small2Out w v e w':=by
 by_cases h:0≤v
 ·exact small2_pos v w h h1
 ·exact small2_neg v w (by omega) h0
theorem float2_any (b:Int) (w:World) (h0:0≤b) (h1:b<4294967296):
 Calls Tryz.prog 112 #[b] w fun e w'=>NormOut w 2 (fNum b) (fExp b-150) 32 e w':=by
 have hc:(0<b/8388608%256∧2147483648≤b∧Hid (-(b%8388608+8388608)=fNum b)∧Hid (b/8388608%256-150=fExp b-150))∨(0<b/8388608%256∧ ¬2147483648≤b∧Hid (b%8388608+8388608=fNum b)∧Hid (b/8388608%256-150=fExp b-150))∨(¬0<b/8388608%256∧2147483648≤b∧Hid (-(b%8388608)=fNum b)∧Hid (-149=fExp b-150))∨(¬0<b/8388608%256∧ ¬2147483648≤b∧Hid (b%8388608=fNum b)∧Hid (-149=fExp b-150)):=by
  by_cases hE:0<b/8388608%256<;>by_cases hS:2147483648≤b
  ·exact .inl ⟨hE,hS,by unfold Hid fNum fMag;rw [if_pos hS];rw [if_neg (by omega)],by unfold Hid fExp;rw [if_neg (by omega)]⟩
  ·exact .inr (.inl ⟨hE,hS,by unfold Hid fNum fMag;rw [if_neg (by omega)];rw [if_neg (by omega)],by unfold Hid fExp;rw [if_neg (by omega)]⟩)
  ·exact .inr (.inr (.inl ⟨hE,hS,by unfold Hid fNum fMag;rw [if_pos hS];rw [if_pos (by omega)],by unfold Hid fExp;rw [if_pos (by omega)];rfl⟩))
  ·exact .inr (.inr (.inr ⟨hE,hS,by unfold Hid fNum fMag;rw [if_neg (by omega)];rw [if_pos (by omega)],by unfold Hid fExp;rw [if_pos (by omega)];rfl⟩))
 rcases hc with ⟨hE,hS,HX,HY⟩| ⟨hE,hS,HX,HY⟩| ⟨hE,hS,HX,HY⟩| ⟨hE,hS,HX,HY⟩
 all_goals
  have HX1:Hid (-4294967296<fNum b∧fNum b<4294967296):=by
   unfold Hid
   rw [←HX.out]
   omega
  have HY1:Hid (-150≤fExp b-150∧fExp b-150≤200):=by
   unfold Hid
   rw [←HY.out]
   omega
  have HB0:Hid (∀t,Has3 w.heap.size (w.alloc (.cells #[false,(),.int .i64 0] t))):=fun t=>Has3.new w t
  go_enter Tryz.func112,Tryz.ntmps112
  go_wp2_with fail
  rw [HX.out]
  refine (small2_any (fNum b) _ HX1.out.1 HX1.out.2).mono ?_
  rintro e w1 ⟨g1,a1,c1,ds,rfl,hl1,hL1,hF1,hb1⟩
  have K1:Hid (Has3 w.heap.size w1):=(HB0.out _).later hb1
  have B1:Hid (Below w.heap.size w w1):=(bel0 _ _).trans (hb1.mono (by simp))
  have HL1:Hid (L1 w1 g1 a1 c1 ds (fNum b)):=hL1
  clear hb1 hF1 hL1
  go_wp2_with fail
  rw [HY.out]
  refine (norm_any g1 a1 c1 ds _ _ _ (by omega) (by have:=HY1.out;omega) (by have:=HY1.out;omega) HL1.out).mono ?_
  rintro e w2 ⟨m,e',hnf,g2,a2,c2,fs,rfl,hl2,hL2,hF2,hb2⟩
  have K2:Hid (Has3 w.heap.size w2):=K1.out.later hb2
  have B2:Hid (Below w.heap.size w w2):=B1.out.trans (hb2.mono B1.out.size)
  have HL2:Hid (L1 w2 g2 a2 c2 fs m):=hL2
  have HF2:Hid (Far (w.heap.size+1) a2 fs):=hF2.down K1.out.lt
  have HN:Hid (NormOf (fNum b) (fExp b-150) m e' 32):=by
   rcases hnf with h| ⟨h1,t,h2,h3,h4,h5⟩
   ·exact .inl h
   ·exact .inr ⟨h1,t,h2,h3,h4,by omega⟩
  have r1:=K2.out.r1
  have r2:=K2.out.r2
  have r3:=K2.out.r3
  have r4:=K2.out.r4
  clear hL2 hF2 hb2 hnf HB0
  go_wp2
  refine bodyPost_ret (v:= .agg #[g2,.slice a2 fs.length c2,.int .i64 e']) (by simp [results,Tryz.results112,go_sem,r1,r2,r3]) rfl ?_
  refine ⟨m,e',HN.out,g2,a2,c2,fs,rfl,by omega,?_,HF2.out.down (by omega),?_⟩
  ·exact ((HL2.out.setFar HF2.out (by simp) _).setFar HF2.out (by simp) _).setFar HF2.out (by simp) _
  ·exact ((B2.out.setCell (by simp) _).setCell (by simp) _).setCell (by simp) _
theorem halved {y t:Int} {n:Nat} (ht:t=y/2^n) (h0:0<t):2^n≤y∧t/2=y/2^(n+1):=by
 have hp:(0:Int)<2^n:=Int.pow_pos (by decide)
 constructor
 ·have h1:1≤y/2^n:=by omega
  have:=(Int.le_ediv_iff_mul_le hp).1 h1
  omega
 ·rw [ht,Int.ediv_ediv_of_nonneg (Int.le_of_lt hp),Int.pow_succ]
theorem top_bits {ds:List Int} {k m:Nat} {y:Int} (hd:Dig 65536 ds) (hk:ds.length=k+1) (hy:y=ds.getD k 0) (h1:2^m≤y) (h2:y<2^(m+1)):
 2^(16*k+m)≤val 65536 ds∧val 65536 ds<2^(16*k+m+1):=by
 have hs:=val_take_succ (B:=65536) (zs:=ds) (i:=k) (by omega)
 have ht:ds.take (k+1)=ds:=List.take_of_length_le (by omega)
 rw [ht,←hy] at hs
 have hb:=val_lt_pow (B:=65536) (by decide) (hd.take k)
 have hb0:=val_nonneg (B:=65536) (by decide) (hd.take k)
 have hl:(ds.take k).length=k:=by rw [List.length_take];omega
 rw [hl] at hb
 have hP:(65536:Int)^k=2^(16*k):=by
  rw [Int.pow_mul]
  rfl
 have hp:(0:Int)<2^(16*k):=Int.pow_pos (by decide)
 rw [hP] at hs hb
 have e1:(2:Int)^(16*k+m)=2^(16*k)*2^m:=Int.pow_add ..
 have e2:(2:Int)^(16*k+m+1)=2^(16*k)*2^(m+1):=by rw [Nat.add_assoc];exact Int.pow_add ..
 have m1:=Int.mul_le_mul_of_nonneg_left h1 (Int.le_of_lt hp)
 have m2:(2:Int)^(16*k)*(y+1)≤2^(16*k)*2^(m+1):=Int.mul_le_mul_of_nonneg_left (by omega) (Int.le_of_lt hp)
 rw [Int.mul_add,Int.mul_one] at m2
 rw [e1,e2]
 omega
theorem bits_any (g:Bool) (a:Option Addr) (c:Nat) (ds:List Int) (x:Int) (w:World) (hn:ds.length≤1048576) (h:L1 w g a c ds x) (hne:ds≠[]):
 Calls Tryz.prog 75 #[.agg #[g,.slice a ds.length c]] w fun e w'=> ∃n:Nat,e= .returned (.int .i64 ((n:Int)+1))∧n+1≤16*ds.length∧2^n≤val 65536 ds∧val 65536 ds<2^(n+1)∧Below w.heap.size w w':=by
 have hpos:=List.length_pos_iff.2 hne
 obtain ⟨k,hk⟩: ∃k,ds.length=k+1:=⟨ds.length-1,by omega⟩
 obtain ⟨b,off,rfl,hb,hc⟩:=h.sl.row.resolve_left hne
 have gk:=hc k (by omega)
 have hdk:=h.can.1.at (by decide) k
 have hlast:ds.getD k 0≠0:=by
  have:=last_of_canon h.can.2 (by omega)
  rw [hk,Nat.add_sub_cancel] at this
  exact this
 have HD:Hid (Dig 65536 ds):=h.can.1
 obtain ⟨y,hy⟩: ∃y,y=ds.getD k 0:=⟨_,rfl⟩
 rw [←hy] at gk hdk hlast
 have HY:Hid (y=ds.getD k 0):=hy
 have hl0:((k:Int)+1==0)=false:=by rw [beq_eq_false_iff_ne];omega
 have hki:(k:Int)+1-1=k:=by omega
 have q1:(w.alloc (.cells #[g,.slice (some ⟨b,off,none⟩) (k+1) c] 72)).cell? ⟨w.heap.size,1,none⟩=some (.slice (some ⟨b,off,none⟩) (k+1) c):=by simp [go_sem]
 have g1:(w.alloc (.cells #[g,.slice (some ⟨b,off,none⟩) (k+1) c] 72)).cell? ⟨b,off+k,none⟩=some (.int .i64 y):=by
  rw [World.cell?_alloc_past _ _ _ hb]
  exact gk
 have HB:Hid (Below w.heap.size w (w.alloc (.cells #[g,.slice (some ⟨b,off,none⟩) (k+1) c] 72))):=bel0 _ _
 have HK:Hid (ds.length=k+1):=hk
 have hk2:k<1048576:=by omega
 obtain ⟨hd1,hd2⟩:=hdk
 rw [hk]
 clear h hc hne hy gk hpos hn hk
 go_enter Tryz.func75,Tryz.ntmps75
 go_wp2
 obtain ⟨W,hW⟩: ∃W,W=w.alloc (.cells #[g,.slice (some ⟨b,off,none⟩) (k+1) c] 72):=⟨_,rfl⟩
 rw [←hW] at q1 g1 HB⊢
 clear hW
 go_loop [4,5] (fun sk sv=> ∃(m:Nat) (t:Int),sk= .int .i64 m∧sv= .int .i64 t∧0≤t∧t<65536∧m≤16∧Hid (t=y/2^m)∧Hid (m≠0→2^(m-1)≤y)) (fun _ sv=>(intOf sv).toNat)
 case atStart=>exact ⟨0,y,rfl,rfl,by omega,by omega,by decide,by unfold Hid;simp,fun h=>absurd rfl h⟩
 case round=>
  obtain ⟨m,t,rfl,rfl,ht0,ht1,hm,hty,hmy⟩:=hrel
  by_cases hz:0<t
  ·obtain ⟨h1,h2⟩:=halved hty.out hz
   have hm2:m<16:=by
    by_cases hp:m<16
    ·exact hp
    ·have:m=16:=by omega
     subst this
     have:(2:Int)^16=65536:=by decide
     omega
   have H1:Hid (t/2=y/2^(m+1)):=h2
   have H2:Hid (m+1≠0→2^(m+1-1)≤y):=fun _=>h1
   clear h1 h2 hty hmy
   go_wp2
   go_round
   case rel=>exact ⟨m+1,t/2,by go_num,rfl,by omega,by omega,by omega,H1,H2⟩
   case measure=>simp [intOf];omega
  ·have hm0:m≠0:=by
    intro e
    subst e
    have:=hty.out
    simp at this
    omega
   obtain ⟨n,rfl⟩: ∃n,m=n+1:=⟨m-1,by omega⟩
   have hlow:2^n≤y:=hmy.out (by omega)
   have hp:(0:Int)<2^(n+1):=Int.pow_pos (by decide)
   have hup:y<2^(n+1):=by
    have h0:y/2^(n+1)<1:=by rw [←hty.out];omega
    have:=(Int.ediv_lt_iff_lt_mul hp).1 h0
    omega
   have HT:=top_bits HD.out HK.out HY.out hlow hup
   have HT':Hid (2^(16*k+n)≤val 65536 ds∧val 65536 ds<2^(16*k+n+1)):=HT
   have htz:t=0:=by omega
   subst htz
   clear HT hlow hup hp hty hmy
   go_wp2
   go_ret
   exact ⟨16*k+n,ret_int (by omega),by omega,HT'.out.1,HT'.out.2,HB.out⟩
theorem val_nines: ∀m:Nat,val 65536 (List.replicate m 65535)=65536^m-1
 |0=>by simp [val]
 |m+1=>by
  rw [List.replicate_succ]
  simp only [val]
  rw [val_nines m,Int.pow_succ]
  generalize (65536:Int)^m=p
  omega
theorem dig_nines (m:Nat):Dig 65536 (List.replicate m 65535):=by
 intro y hy
 rw [List.mem_replicate] at hy
 omega
theorem canon_len {ds:List Int} {m:Nat} (h:Canon 65536 ds) (hv:val 65536 ds<65536^m):ds.length≤m:=by
 rcases Nat.lt_or_ge m ds.length with q|q
 ·have:=val_lt_of_length (B:=65536) (by decide) (dig_nines m) h (by simpa using q)
  rw [val_nines] at this
  omega
 ·exact q
theorem big_pow_le {a b:Nat} (h:a≤b):(65536:Int)^a≤65536^b:=by
 obtain ⟨d,rfl⟩:=Nat.le.dest h
 have h1:(0:Int)<65536^a:=Int.pow_pos (by decide)
 have h2:(0:Int)<65536^d:=Int.pow_pos (by decide)
 have h3:(65536:Int)^a*1≤65536^a*65536^d:=Int.mul_le_mul_of_nonneg_left (by omega) (by omega)
 rw [Int.pow_add]
 omega
theorem sg_abs2 (g:Bool) {v:Int} (h:0≤v):((sg g v).natAbs:Int)=v:=by
 cases g<;>simp [sg]<;>omega
theorem L1.abs {w:World} {g:Bool} {a:Option Addr} {c:Nat} {ds:List Int} {x:Int} (h:L1 w g a c ds x):(x.natAbs:Int)=val 65536 ds:=by
 rw [h.num];exact sg_abs2 g (val_nonneg (by decide) h.can.1)
theorem MIs.fit {w:World} {v:Value} {n m:Nat} {x:Int} (h:MIs w v n x) (hx:(x.natAbs:Int)<65536^m):MIs w v m x:=by
 obtain ⟨g,a,c,ds,rfl,h1,h2,_⟩:=h
 exact ⟨g,a,c,ds,rfl,h1,canon_len h1.can (by rw [←h1.abs];exact hx),trivial⟩
theorem MIs.lt {w:World} {v:Value} {n:Nat} {x:Int} (h:MIs w v n x):(x.natAbs:Int)<65536^n:=by
 obtain ⟨g,a,c,ds,rfl,h1,h2,_⟩:=h
 rw [h1.abs]
 exact Int.lt_of_lt_of_le (val_lt_pow (by decide) h1.can.1) (big_pow_le h2)
theorem MIs.digits {w:World} {g:Bool} {a:Option Addr} {k c n:Nat} {x:Int} (h:MIs w (.agg #[g,.slice a k c]) n x): ∃ds:List Int,k=ds.length∧L1 w g a c ds x∧ds.length≤n∧(x.natAbs:Int)=val 65536 ds:=by
 obtain ⟨ds,h1,h2,h3⟩:=h.inv
 exact ⟨ds,h1,h2,h3,h2.abs⟩
theorem makeM_any (g' g:Bool) (a:Option Addr) (k c n:Nat) (x:Int) (w:World) (hn:n≤100000) (hu:MIs w (.agg #[g,.slice a k c]) n x):
 Calls Tryz.prog 68 #[g',.slice a k c] w fun o w'=>MOut w n (sg g' (x.natAbs:Int)) o w':=by
 obtain ⟨ds,rfl,h1,h2,h3⟩:=hu.digits
 refine (make_any g' a c ds w (by omega) h1.cap h1.sl h1.can.1).mono ?_
 rintro o w' ⟨g2,fs,rfl,hl,hL,hb⟩
 exact ⟨_,rfl,⟨g2,a,c,fs,rfl,by rw [h3];exact hL,by omega,trivial⟩,hb⟩
theorem upM_any (u:Value) (n:Nat) (x t:Int) (w:World) (hn:n≤100000) (h0:0≤t) (h1:t≤1000000) (hu:MIs w u n x):
 Calls Tryz.prog 73 #[u,.int .i64 t] w fun o w'=>MOut w (n+(t/16).toNat+1) (x*2^t.toNat) o w':=by
 obtain ⟨g,a,c,ds,rfl,k1,k2,_⟩:=hu
 refine (up_any g a c ds x t w (by omega) h0 h1 k1).mono ?_
 rintro o w' ⟨g2,a2,c2,fs,rfl,hl,hL,_,hb⟩
 exact ⟨_,rfl,⟨g2,a2,c2,fs,rfl,hL,by omega,trivial⟩,hb⟩
def HalfM (w:World) (n:Nat) (x:Int) (o:Ending) (w':World):Prop:= ∃v lost,o= .returned (.tuple #[v,.bool lost])∧MIs w' v n x∧Below w.heap.size w w'
theorem downM_any (u:Value) (n:Nat) (x t:Int) (w:World) (hn:n≤50000) (h0:0≤t) (h1:t≤1000000) (hx:0≤x) (hu:MIs w u n x):
 Calls Tryz.prog 70 #[u,.int .i64 t] w fun o w'=>HalfM w n (x/2^t.toNat) o w':=by
 obtain ⟨g,a,c,ds,rfl,k1,k2,_⟩:=hu
 have hg:=(MIs.neg_iff (n:=n) ⟨g,a,c,ds,rfl,k1,k2,trivial⟩)
 rw [decide_eq_false (by omega)] at hg
 subst hg
 have hv:val 65536 ds=x:=by rw [k1.num];rfl
 refine (down_any false a c ds x t w (by omega) h0 h1 k1).mono ?_
 rintro o w' ⟨g2,a2,c2,fs,rfl,hl,hL,_,hb⟩
 rw [hv] at hL
 exact ⟨_,_,rfl,⟨g2,a2,c2,fs,rfl,hL,by omega,trivial⟩,hb⟩
theorem twosM_any (u:Value) (n:Nat) (x:Int) (w:World) (hn:n≤100000) (hx:0<x) (hu:MIs w u n x):
 Calls Tryz.prog 69 #[u] w fun o w'=> ∃t:Nat,o= .returned (.int .i64 t)∧t≤16*n∧(∃q:Int,x=2^t*q∧q%2=1)∧Below w.heap.size w w':=by
 obtain ⟨g,a,c,ds,rfl,k1,k2,_⟩:=hu
 have ha:=k1.abs
 have hne:ds≠[]:=by
  intro e;subst e;simp [val] at ha;omega
 refine (twos_any g a c ds x w (by omega) k1 hne).mono ?_
 rintro o w' ⟨t,rfl,ht,hq,hb⟩
 exact ⟨t,rfl,by omega,by rw [←ha,Int.natAbs_of_nonneg (by omega)] at hq;exact hq,hb⟩
theorem cmpMagM_any (g g':Bool) (a a':Option Addr) (k k' c c' n m:Nat) (x y:Int) (w:World) (hn:n≤100000) (hm:m≤100000) (hu:MIs w (.agg #[g,.slice a k c]) n x) (hv:MIs w (.agg #[g',.slice a' k' c']) m y):
 Calls Tryz.prog 71 #[.slice a k c,.slice a' k' c'] w fun o w'=>o= .returned (.int .i64 (sgn ((x.natAbs:Int)-(y.natAbs:Int))))∧Below w.heap.size w w':=by
 obtain ⟨ds,rfl,h1,h2,h3⟩:=hu.digits
 obtain ⟨es,rfl,h1',h2',h3'⟩:=hv.digits
 refine (cmpMag_any a a' c c' ds es w (by omega) (by omega) h1.sl.row h1'.sl.row).mono ?_
 rintro o w' ⟨rfl,hb⟩
 exact ⟨by rw [h3,h3',cmpL_val (by decide) h1.can h1'.can],hb⟩
theorem gcd_twos {a b:Int} {i j:Nat} (ha:a%2=1) (hb:b%2=1):Int.gcd (2^i*a) (2^j*b)=2^(min i j)*Int.gcd a b:=by
 rcases Nat.le_total i j with h|h
 ·obtain ⟨d,rfl⟩:=Nat.le.dest h
  rw [Nat.min_eq_left (by omega),Int.pow_add,Int.mul_assoc,Int.gcd_mul_left,Int.gcd_comm a,gcd_odd ha,Int.gcd_comm b,Int.natAbs_pow]
  rfl
 ·obtain ⟨d,rfl⟩:=Nat.le.dest h
  rw [Nat.min_eq_right (by omega),Int.pow_add,Int.mul_assoc,Int.gcd_mul_left,gcd_odd hb,Int.natAbs_pow]
  rfl
theorem bit_at {ds:List Int} (hd:Dig 65536 ds) {i:Nat} (hi:i/16<ds.length):ds.getD (i/16) 0/2^(i%16)%2=val 65536 ds/2^i%2:=by
 have hp:=val_parts 65536 ds (i/16) (by omega)
 have hdr:ds.drop (i/16)=ds.getD (i/16) 0::ds.drop (i/16+1):=by
  rw [List.drop_eq_getElem_cons hi,List.getD_eq_getElem?_getD,List.getElem?_eq_getElem hi];rfl
 have h1:=val_nonneg (B:=65536) (by decide) (hd.take (i/16))
 have h2:=val_lt_pow (B:=65536) (by decide) (hd.take (i/16))
 rw [List.length_take,Nat.min_eq_left (by omega)] at h2
 have h3:=hd.at (by decide) (i/16)
 rw [hdr] at hp
 simp only [val] at hp
 have e2:(2:Int)^i=65536^(i/16)*2^(i%16):=by
  have:i=16*(i/16)+i%16:=by omega
  conv=>lhs;rw [this]
  rw [Int.pow_add,Int.pow_mul]
  rfl
 have e3:(65536:Int)=2^(i%16)*2^(15-i%16)*2:=by
  rw [←Int.pow_add,←Int.pow_succ,show (i%16+(15-i%16)).succ=16 by omega];rfl
 rw [e2,←Int.ediv_ediv_of_nonneg (Int.le_of_lt (Int.pow_pos (by decide))),hp]
 generalize val 65536 (List.take (i/16) ds)=t at*
 generalize ds.getD (i/16) 0=d at*
 generalize val 65536 (List.drop (i/16+1) ds)=r at*
 have hP:(0:Int)<65536^(i/16):=Int.pow_pos (by decide)
 generalize (65536:Int)^(i/16)=P at*
 rw [Int.add_mul_ediv_left _ _ (by omega),Int.ediv_eq_zero_of_lt h1 h2,Int.zero_add]
 have hq:(0:Int)<2^(i%16):=Int.pow_pos (by decide)
 generalize (2:Int)^(i%16)=q at*
 generalize (2:Int)^(15-i%16)=s at*
 have e4:d+65536*r=d+q*(s*2*r):=by rw [e3];grind
 rw [e4,Int.add_mul_ediv_left _ _ (by omega),Int.mul_assoc,Int.mul_left_comm,Int.add_mul_emod_self_left]
theorem div_next {X:Int} (i:Nat):X/2^i=2*(X/2^(i+1))+X/2^i%2:=by
 rw [Int.pow_succ,←Int.ediv_ediv_of_nonneg (Int.le_of_lt (Int.pow_pos (by decide)))]
 generalize X/2^i=y
 omega
def CU (w:World) (pb:Nat) (bs:List Int):Prop:=pb<w.heap.size∧ ∀j,j<bs.length→w.cell? ⟨pb,j,none⟩=some (.int .u32 (bs.getD j 0))
theorem CU.later {w w':World} {pb:Nat} {bs:List Int} (h:CU w pb bs) (hb:Below w.heap.size w w'):CU w' pb bs:=
 ⟨Nat.lt_of_lt_of_le h.1 hb.size,fun j hj=>(hb.cell (p:=⟨pb,j,none⟩) h.1).trans (h.2 j hj)⟩
def NmF (bs:List Int) (ls:List LV):Prop:= ∀j,j<ls.length→NormOf (fNum (bs.getD j 0)) (fExp (bs.getD j 0)-150) (ls.getD j default).m (ls.getD j default).e 32∧(ls.getD j default).fs.length≤2
theorem NmF.nil (bs:List Int):NmF bs []:=fun j hj=>absurd hj (by simp)
theorem NmF.snoc {bs:List Int} {ls:List LV} (h:NmF bs ls) {l:LV} (hl:NormOf (fNum (bs.getD ls.length 0)) (fExp (bs.getD ls.length 0)-150) l.m l.e 32) (hf:l.fs.length≤2):NmF bs (ls++[l]):=by
 intro j hj
 rcases getD_snoc ls l j hj with ⟨h1,h2⟩| ⟨h1,h2⟩
 ·rw [h2];exact h j h1
 ·rw [h2,h1];exact ⟨hl,hf⟩
def DyIs (K:Nat) (w:World) (v:Value) (b:Int):Prop:= ∃(g:Bool) (a:Option Addr) (c:Nat) (z:List Int) (m e:Int),v= .agg #[g,.slice a z.length c,.int .i64 e]∧NormOf (fNum b) (fExp b-150) m e 32∧z.length≤2∧L1 w g a c z m∧Far K a z
theorem float3_any (b:Int) (K:Nat) (w:World) (h0:0≤b) (h1:b<4294967296) (hK:K≤w.heap.size):
 Calls Tryz.prog 112 #[b] w fun o w'=> ∃v,o= .returned v∧DyIs K w' v b∧Below w.heap.size w w':=by
 refine (float2_any b w h0 h1).mono ?_
 rintro o w' ⟨m,e,hN,g,a,c,z,rfl,hl,hL,hF,hb⟩
 exact ⟨_,rfl,⟨g,a,c,z,m,e,rfl,hN,hl,hL,hF.down hK⟩,hb⟩
theorem scale_one {b m e L:Int} (h0:0≤b) (h:NormOf (fNum b) (fExp b-150) m e 32) (hL:L≤e) (hL2: -149≤L):m*2^(e-L).toNat*2^(L+149).toNat=cor b:=by
 unfold cor
 have hx:=(fExp_pos h0).1
 rcases h with ⟨h1,h2,h3⟩| ⟨h1,t,h2,h3,_,_⟩
 ·rw [h1,h2];simp
 ·rw [h2,Int.mul_assoc,Int.mul_assoc,←Int.pow_add,←Int.pow_add]
  congr 2
  omega
theorem norm_low {b m e:Int} (h0:0≤b) (h:NormOf (fNum b) (fExp b-150) m e 32): -149≤e∧e≤137:=by
 have hx:=fExp_pos h0
 rcases h with ⟨h1,h2,h3⟩| ⟨h1,t,h2,h3,_,h5⟩<;>omega
def LIs (K:Nat) (w:World) (v:Value) (n:Nat) (x:Int):Prop:= ∃(g:Bool) (a:Option Addr) (c:Nat) (z:List Int),v= .agg #[g,.slice a z.length c]∧L1 w g a c z x∧z.length≤n∧Far K a z
theorem upL_any (g:Bool) (a:Option Addr) (c:Nat) (z:List Int) (x t:Int) (K:Nat) (w:World) (hn:z.length≤2) (h0:0≤t) (h1:t≤290) (hK:K≤w.heap.size) (h:L1 w g a c z x):
 Calls Tryz.prog 73 #[.agg #[g,.slice a z.length c],.int .i64 t] w fun o w'=> ∃v,o= .returned v∧LIs K w' v 21 (x*2^t.toNat)∧Below w.heap.size w w':=by
 refine (up_any g a c z x t w (by omega) h0 (by omega) h).mono ?_
 rintro o w' ⟨g',a',c',z',rfl,hl,hL,hF,hb⟩
 exact ⟨_,rfl,⟨g',a',c',z',rfl,hL,by omega,hF.down hK⟩,hb⟩
theorem L1.setNo {w:World} {g:Bool} {a:Option Addr} {c:Nat} {ds:List Int} {x:Int} {b i:Nat} {u:Value} (h1:L1 w g a c ds x) (hn:NoInt w b):L1 (w.setCell ⟨b,i,none⟩ u) g a c ds x:=by
 refine ⟨⟨h1.sl.fits,h1.sl.nil,?_⟩,h1.can,h1.num,h1.zero,h1.cap⟩
 rcases h1.sl.row with h3| ⟨q,off,rfl,hq,hc⟩
 ·exact .inl h3
 ·by_cases hz:ds.length=0
  ·exact .inl (List.eq_nil_of_length_eq_zero hz)
  ·refine .inr ⟨q,off,rfl,by simpa using hq,fun j hj=> ?_⟩
   have hne:q≠b:=by
    intro hqb
    subst hqb
    exact hn.2 _ _ _ (hc 0 (by omega))
   rw [World.cell?_setCell_other _ _ _ _ (by intro hh;apply hne;have:=congrArg Addr.block hh;simp at this;exact this.symm)]
   exact hc j hj
structure NwL (W0:World) (P:Nat) (g:Bool) (a:Option Addr) (c:Nat) (z:List Int) (x:Int) (W:World):Prop where
 bx:Cs W P [g,.slice a z.length c]
 l:L1 W g a c z x
 n:z.length≤21
 f:Far W0.heap.size a z
 le:W0.heap.size≤P
 bel:Below W0.heap.size W0 W
theorem NwL.later {W0 W W':World} {P:Nat} {g:Bool} {a:Option Addr} {c:Nat} {z:List Int} {x:Int} (h:NwL W0 P g a c z x W) (hb:Below W.heap.size W W'):NwL W0 P g a c z x W':=
 ⟨h.bx.later hb,h.l.later hb,h.n,h.f,h.le,h.bel.trans (hb.mono h.bel.size)⟩
theorem NwL.fin {W0 W:World} {P:Nat} {g:Bool} {a:Option Addr} {c:Nat} {z:List Int} {x:Int} (hc:Cs W P [false,()]) (hn:NoInt W P) (h:L1 W g a c z x) (h1:z.length≤21) (hf:Far W0.heap.size a z) (hb:Below W0.heap.size W0 W) (hP:W0.heap.size≤P):NwL W0 P g a c z x (setAll W P 0 [g,.slice a z.length c]):=by
 refine ⟨hc.whole _ rfl,?_,h1,hf,hP,below_setAll hP _ W 0 hb⟩
 have h2:NoInt (W.setCell ⟨P,0,none⟩ g) P:=hn.set (by simp [NotInt])
 exact (h.setNo hn).setNo h2
end Go.Proofs.YtfieffpobgcpmaaGreatDoor
