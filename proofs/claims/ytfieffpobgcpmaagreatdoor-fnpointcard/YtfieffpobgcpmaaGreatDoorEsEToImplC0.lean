import Derived.Test.YtfieffpobgcpmaaGreatDoorEsBEsCEsD
import Derived.Deep.RegionLaw
import Derived.Test.YtfieffpobgcpmaaGreatDoorBoxToNumS
import Derived.Test.YtfieffpobgcpmaaGreatDoorSpecEToDy1h
set_option maxRecDepth 100000
set_option maxHeartbeats 32000000
namespace Go.Proofs.YtfieffpobgcpmaaGreatDoor
open Go.RowKit
open Fl (IsF Nr BoundIs Summed absI Est)
def cor (b:Int):Int:=fNum b*2^(fExp b-1).toNat
theorem dMag_dOf {b:Int} (h0:0≤b) (_hf:fFin b=true):(dMag (dOf b):Int)=fMag b*2^(fExp b-1).toNat*2^925:=by
 have hm:=fMag_lt h0
 have he:=fExp_pos h0
 unfold dOf
 by_cases hz:(fMag b).toNat=0
 ·rw [if_pos hz]
  have:fMag b=0:=by omega
  rw [this,Int.zero_mul,Int.zero_mul];rfl
 ·rw [if_neg hz]
  obtain ⟨M,hM⟩: ∃M:Nat,fMag b=M:=⟨(fMag b).toNat,by omega⟩
  have hMt:(fMag b).toNat=M:=by omega
  rw [hMt] at hz⊢
  have l1:=Nat.log2_self_le hz
  have l2:=@Nat.lt_log2_self M
  obtain ⟨L,hL⟩: ∃L,L=M.log2:=⟨_,rfl⟩
  rw [←hL] at l1 l2⊢
  have hL23:L≤23:=by
   apply Nat.le_of_not_lt;intro h
   have:2^24≤2^L:=Nat.pow_le_pow_right (by decide) h
   omega
  obtain ⟨E,hE⟩: ∃E:Nat,fExp b=E+1:=⟨(fExp b-1).toNat,by omega⟩
  rw [hE,hM]
  rw [show ((E:Int)+1-150+(L:Int)+1022).toNat=E+873+L by omega,show ((E:Int)+1-1).toNat=E by omega]
  have k1:M*2^(52-L)<2^(L+1)*2^(52-L):=Nat.mul_lt_mul_of_pos_right l2 (Nat.two_pow_pos _)
  have k2:2^L*2^(52-L)≤M*2^(52-L):=Nat.mul_le_mul_right _ l1
  rw [←Nat.pow_add,show L+1+(52-L)=53 by omega] at k1
  rw [←Nat.pow_add,show L+(52-L)=52 by omega] at k2
  rw [Fl.dMag_rung (by omega) (Or.inr (by omega))]
  have e:M*2^(52-L)*2^(E+873+L)=M*2^E*2^925:=by
   have e2:E+873+L+(52-L)=E+925:=by omega
   rw [Nat.mul_assoc,Nat.mul_assoc,Nat.mul_comm (2^(52-L)),←Nat.pow_add,e2,Nat.pow_add]
  rw [e,Int.natCast_mul,Int.natCast_mul,Fl.natPow E,Fl.natPow 925]
theorem pow_lt2 {a b:Nat} (h:a<b):2^a<2^b:=Nat.pow_lt_pow_right (by decide) h
theorem cor_est {b:Int} (h0:0≤b) (hf:fFin b=true) (h1:b<4294967296): ∃z v,floatToFloatBits .f32 b.toNat .f64=some z∧IsF z v∧Est 1 128 (cor b) v 0:=by
 have hc:=conv_fin h0 h1 hf
 have hd:=dMag_dOf h0 hf
 have hm:=fMag_lt h0
 have he:=fExp_pos h0
 have hff:fExp b≤254:=by
  unfold fExp fFin at*
  split
  ·omega
  ·have:b/8388608%256≠255:=by simpa using hf
   omega
 have hlt:dMag (dOf b)≤2^1202:=by
  have hI:(dMag (dOf b):Int)≤2^1202:=by
   rw [hd]
   have p1:=Fl.pow_le (show (fExp b-1).toNat≤253 by omega)
   have p0:=Fl.pow_pos2 (fExp b-1).toNat
   have x1:fMag b*2^(fExp b-1).toNat≤2^24*2^253:=Int.mul_le_mul (by omega) p1 (by omega) (by decide)
   have x2:fMag b*2^(fExp b-1).toNat*2^925≤2^24*2^253*2^925:=Int.mul_le_mul_of_nonneg_right x1 (by have:=Fl.pow_pos2 925;omega)
   have x3:(2:Int)^24*2^253*2^925=2^1202:=by rw [←Int.pow_add,←Int.pow_add]
   rw [x3] at x2;exact x2
  rw [←Fl.natPow 1202] at hI
  exact Int.ofNat_le.1 hI
 have hfin:dOf b<9218868437227405312:=by
  rcases Nat.lt_or_ge (dOf b) 9218868437227405312 with h|h
  ·exact h
  ·exfalso
   have hge:dMag 9218868437227405312≤dMag (dOf b):=by
    rcases Nat.lt_or_eq_of_le h with h|h
    ·exact Nat.le_of_lt (dMag_lt h)
    ·rw [h];exact Nat.le_refl _
   rw [Fl.dMag_inf] at hge
   exact Nat.lt_irrefl _ (Nat.lt_of_lt_of_le (pow_lt2 (a:=1202) (b:=2098) (by omega)) (Nat.le_trans hge hlt))
 have hfx:IsF (Ieee.double.word (decide (2147483648≤b)) (dOf b)) (Fl.sg (decide (2147483648≤b)) (dMag (dOf b):Int)):=⟨_,_,hfin,rfl,rfl⟩
 have hv:Fl.sg (decide (2147483648≤b)) (dMag (dOf b):Int)=cor b*2^925:=by
  unfold cor fNum
  by_cases hs:2147483648≤b
  ·rw [if_pos hs,decide_eq_true hs,hd];simp only [Fl.sg,if_true];rw [Int.neg_mul,Int.neg_mul]
  ·rw [if_neg hs,decide_eq_false hs,hd];simp only [Fl.sg,Bool.false_eq_true,if_false]
 refine ⟨_,_,hc,hfx,?_⟩
 have hb1:(dMag (dOf b):Int)≤2^1202:=by
  rw [←Fl.natPow 1202];exact Int.ofNat_le.2 hlt
 have h12:(1074+128:Nat)=1202:=rfl
 have h92:(1074-149*1:Nat)=925:=rfl
 have p2:=Fl.pow_pos2 1202
 generalize hX:Fl.sg (decide (2147483648≤b)) (dMag (dOf b):Int)=v at*
 refine ⟨IsF.fl hfx,Fl.Fl.zero,by omega,?_,?_,?_,?_,?_,?_⟩
 ·rw [h92,hv];omega
 ·rw [h92,hv];omega
 ·rw [h92,hv];exact Int.dvd_mul_left _ _
 ·rw [h12,←hX];cases decide (2147483648≤b)<;>simp only [Fl.sg,if_true,Bool.false_eq_true,if_false]<;>omega
 ·rw [h12,←hX];cases decide (2147483648≤b)<;>simp only [Fl.sg,if_true,Bool.false_eq_true,if_false]<;>omega
 ·rw [h12];omega
theorem fromE_any (b:Int) (w:World) (h0:0≤b) (h1:b<4294967296) (hf:fFin b=true):
 Calls Tryz.prog 212 #[.agg #[oOo,oOo],b] w fun o w'=>EstOut w 1 128 (cor b) o w':=by
 obtain ⟨z,v,hc,hz,he⟩:=cor_est h0 hf h1
 have h2:=run_frombits32
 have h3:=fun w:World=>run_convert_float_float (P:=Tryz.prog) w 246 84 .f32 .f64 b.toNat z (by kernel_rfl) (by kernel_rfl) hc
 have HE:Hid (EstIs (.agg #[.float .f64 z,oOo]) 1 128 (cor b)):=⟨z,0,v,0,rfl,hz,isF_zero,he⟩
 clear hc hz he
 have hst:=storeF
 go_enter Tryz.func212,Tryz.ntmps212
 go_wp2
 refine bodyPost_ret (v:= .agg #[.float .f64 z,oOo]) (by simp [results,Tryz.results212,go_sem]) rfl ?_
 exact ⟨_,rfl,HE.out,bel2 _ _ _⟩
def CertOut (v:Value) (k e:Nat) (A:Int) (w:World) (o:Ending) (w':World):Prop:= ∃(x y:Nat) (a b:Int) (c:Bool),v= .agg #[x,y]∧IsF x a∧Est k e A a b∧o= .returned c∧(c=true→b=0∨b<absI a)∧Below w.heap.size w w'
theorem certE_any (v:Value) (k e:Nat) (A:Int) (w:World) (hv:EstIs v k e A):
 Calls Tryz.prog 171 #[v] w fun o w'=>CertOut v k e A w o w':=by
 obtain ⟨x,y,a,b,rfl,hx,hy,hA⟩:=hv
 have oy:FloatKind.f64.format.order y 0=some (compare b 0):=Fl.order_isF hy isF_zero
 obtain ⟨z,hz⟩: ∃z,z=x%9223372036854775808:=⟨_,rfl⟩
 have hzf:IsF z (absI a):=by rw [hz];exact IsF.abs hx
 have oz:FloatKind.f64.format.order z y=some (compare (absI a) b):=Fl.order_isF hzf hy
 have HX:Hid (IsF x a∧Est k e A a b):=⟨hx,hA⟩
 have HZ:Hid (x<18446744073709551616∧x%9223372036854775808=z):=⟨hx.lt,hz.symm⟩
 by_cases hb:b=0
 ·have c1:(FloatKind.f64.format.order y 0==some .eq)=true:=by rw [oy,hb];rfl
  clear hx hy hA hz hzf oz oy
  obtain ⟨W,hW⟩: ∃W,W=w.alloc (.cells #[.float .f64 x,.float .f64 y] 86):=⟨_,rfl⟩
  have B0:Hid (Below w.heap.size w W):=by unfold Hid;rw [hW];exact bel0 _ _
  have x0:W.cell? ⟨w.heap.size,0,none⟩=some (.float .f64 x):=by rw [hW];simp [go_sem]
  have x1:W.cell? ⟨w.heap.size,1,none⟩=some (.float .f64 y):=by rw [hW];simp [go_sem]
  go_enter Tryz.func171,Tryz.ntmps171
  go_wp2
  rw [←hW]
  clear hW
  first
  |go_region_law (fail)
  |fail "no"
  all_goals
   go_wp2
   go_ret
   exact ⟨x,y,a,b,true,rfl,HX.out.1,HX.out.2,rfl,fun _=>Or.inl hb,B0.out.drew⟩
 ·have c1:(FloatKind.f64.format.order y 0==some .eq)=false:=by
   rw [oy]
   rcases Int.lt_trichotomy b 0 with h|h|h
   ·rw [Int.compare_eq_lt.2 h];rfl
   ·exact absurd h hb
   ·rw [Int.compare_eq_gt.2 h];rfl
  obtain ⟨c,hc⟩: ∃c,c=(FloatKind.f64.format.order z y==some .gt):=⟨_,rfl⟩
  have HC:Hid (c=true→b<absI a):=by
   unfold Hid
   rw [hc,oz,order_gt]
   exact fun h=>of_decide_eq_true h
  have hc2:=hc.symm
  clear hx hy hA hz hzf oz oy hb hc
  obtain ⟨W,hW⟩: ∃W,W=w.alloc (.cells #[.float .f64 x,.float .f64 y] 86):=⟨_,rfl⟩
  have B0:Hid (Below w.heap.size w W):=by unfold Hid;rw [hW];exact bel0 _ _
  have x0:W.cell? ⟨w.heap.size,0,none⟩=some (.float .f64 x):=by rw [hW];simp [go_sem]
  have x1:W.cell? ⟨w.heap.size,1,none⟩=some (.float .f64 y):=by rw [hW];simp [go_sem]
  have xl:w.heap.size<W.heap.size:=by rw [hW];simp
  go_enter Tryz.func171,Tryz.ntmps171
  go_wp2
  rw [←hW]
  clear hW
  first
  |go_region_law (go_simp;refine (absF_any x z _ HZ.out.1 HZ.out.2).mono ?_;rintro o w1 ⟨rfl,hb1⟩;have hB1:Hid (Below W.heap.size W w1):=(Below.refl _ W).drew.trans hb1;have y0:=((bcell hB1.out).1 _ 0 xl).trans x0;have y1:=((bcell hB1.out).1 _ 1 xl).trans x1;clear hb1)
  |fail "no"
  all_goals
   have HBw:Hid (Below w.heap.size w w1):=B0.out.trans (hB1.out.mono B0.out.size)
   clear hB1 x0 x1 y0 y1 B0
   go_wp2
   go_ret
   exact ⟨x,y,a,b,c,rfl,HX.out.1,HX.out.2,rfl,fun h=>Or.inr (HC.out h),HBw.out⟩
theorem cmpI_any (x y:Int) (w:World):
 Calls Tryz.prog 146 #[.int .i64 x,.int .i64 y] w fun e w'=>e= .returned (.int .i64 (sgn (x-y)))∧w'=w:=by
 have hx:(x !=x)=false:=by simp
 have hy:(y !=y)=false:=by simp
 rcases sgn_cases (x-y) with ⟨h1,h2⟩| ⟨h1,h2⟩| ⟨h1,h2⟩
 ·have HS:Hid (sgn (x-y)= -1):=h2
  have h3:x<y:=by omega
  clear h1 h2
  go_enter Tryz.func146,Tryz.ntmps146
  go_wp2
  go_ret
  exact ⟨ret_int HS.out.symm,rfl⟩
 ·have HS:Hid (sgn (x-y)=0):=h2
  have h3: ¬x<y:=by omega
  have h4: ¬y<x:=by omega
  clear h1 h2
  go_enter Tryz.func146,Tryz.ntmps146
  go_wp2
  go_ret
  exact ⟨ret_int HS.out.symm,rfl⟩
 ·have HS:Hid (sgn (x-y)=1):=h2
  have h3: ¬x<y:=by omega
  have h4:y<x:=by omega
  clear h1 h2
  go_enter Tryz.func146,Tryz.ntmps146
  go_wp2
  go_ret
  exact ⟨ret_int HS.out.symm,rfl⟩
theorem cmpU_any (x y:Int) (w:World):
 Calls Tryz.prog 147 #[x,y] w fun e w'=>e= .returned (.int .i64 (sgn (x-y)))∧w'=w:=by
 have hx:(x !=x)=false:=by simp
 have hy:(y !=y)=false:=by simp
 rcases sgn_cases (x-y) with ⟨h1,h2⟩| ⟨h1,h2⟩| ⟨h1,h2⟩
 ·have HS:Hid (sgn (x-y)= -1):=h2
  have h3:x<y:=by omega
  clear h1 h2
  go_enter Tryz.func147,Tryz.ntmps147
  go_wp2
  go_ret
  exact ⟨ret_int HS.out.symm,rfl⟩
 ·have HS:Hid (sgn (x-y)=0):=h2
  have h3: ¬x<y:=by omega
  have h4: ¬y<x:=by omega
  clear h1 h2
  go_enter Tryz.func147,Tryz.ntmps147
  go_wp2
  go_ret
  exact ⟨ret_int HS.out.symm,rfl⟩
 ·have HS:Hid (sgn (x-y)=1):=h2
  have h3: ¬x<y:=by omega
  have h4:y<x:=by omega
  clear h1 h2
  go_enter Tryz.func147,Tryz.ntmps147
  go_wp2
  go_ret
  exact ⟨ret_int HS.out.symm,rfl⟩
theorem order_any (a a':Option Addr) (c c':Nat) (zs ys:List Int) (w:World) (hn:zs.length≤1048576) (_hn':ys.length≤1048576) (hz:RowAt .u32 w a zs) (hy:RowAt .u32 w a' ys):
 Calls Tryz.prog 99 #[.slice a zs.length c,.slice a' ys.length c'] w fun e w'=>e= .returned (.int .i64 (cmpL zs ys))∧Below w.heap.size w w':=by
 by_cases hl:zs.length=ys.length
 ·have HC:Hid (cmpL zs ys=cmpTop zs ys):=by unfold Hid cmpL;rw [if_pos hl]
  have hne:((zs.length:Int) !=(ys.length:Int))=false:=by rw [bne_eq_false_iff_eq];omega
  have HL:Hid (zs.length=ys.length):=hl
  clear hl
  go_enter Tryz.func99,Tryz.ntmps99
  go_wp2
  go_loopw [5] (fun i wr=> ∃k:Nat,k≤zs.length∧i= .int .i64 ((k:Int)-1)∧Hid (cmpTop zs ys=cmpTop (zs.take k) (ys.take k))∧Below w.heap.size w wr) (fun i _=>(intOf i+1).toNat)
  case atStart=>exact ⟨zs.length,Nat.le_refl _,rfl,by unfold Hid;rw [List.take_length,HL.out,List.take_length],Below.refl _ _⟩
  case round=>
   obtain ⟨k,hk,rfl,hsame,hnx⟩:=hrel
   by_cases h0:k=0
   ·subst h0
    go_wp2
    go_ret
    exact ⟨ret_int (by rw [HC.out,hsame.out];simp [cmpTop]),hnx⟩
   ·obtain ⟨k,rfl⟩: ∃m,k=m+1:=⟨k-1,by omega⟩
    have hlt':k<ys.length:=by have:=HL.out;omega
    obtain ⟨b,off,rfl,g1⟩:=row_cell hz hnx (show k<zs.length by omega)
    obtain ⟨b',off',rfl,g2⟩:=row_cell hy hnx hlt'
    have hst:=cmpTop_take (show k<zs.length by omega) hlt'
    obtain ⟨x,hx⟩: ∃x,x=zs.getD k 0:=⟨_,rfl⟩
    obtain ⟨y,hyy⟩: ∃y,y=ys.getD k 0:=⟨_,rfl⟩
    rw [←hx] at g1 hst
    rw [←hyy] at g2 hst
    have HST:Hid (cmpL zs ys=if x=y then cmpTop (zs.take k) (ys.take k) else sgn (x-y)):=by unfold Hid;rw [HC.out,hsame.out,hst]
    have HS2:Hid (cmpTop zs ys=if x=y then cmpTop (zs.take k) (ys.take k) else sgn (x-y)):=by unfold Hid;rw [hsame.out,hst]
    clear hst hx hyy hsame HC hz hy
    by_cases c1:x=y
    ·have hxy:(x !=y)=false:=by simp [c1]
     have C1:Hid (x=y):=c1
     clear c1
     go_wp2
     go_quiet (fail)
     go_wp2
     go_roundw
     case rel=>exact ⟨k,by omega,by go_num,by unfold Hid;rw [HS2.out,if_pos C1.out],below_drewN hnx _⟩
     case measure=>simp [intOf]
    ·have hxy:(x !=y)=true:=by simp [c1]
     have C1:Hid (¬x=y):=c1
     clear c1
     go_wp2
     go_quiet (fail)
     have hnx':=below_drewN hnx nq
     have g1':(wr.drewN nq).cell? ⟨b,off+k,none⟩=some (.int .u32 x):=by simpa using g1
     have g2':(wr.drewN nq).cell? ⟨b',off'+k,none⟩=some (.int .u32 y):=by simpa using g2
     clear hnx g1 g2
     generalize wr.drewN nq=wq at*
     go_wp2
     go_quiet (first| (go_at_call 147;refine Calls.quiet_of_same (cmpU_any _ _ _)))
     go_wp2
     go_ret
     exact ⟨ret_int (by rw [HST.out,if_neg C1.out]),below_drewN hnx' _⟩
 ·have hne:((zs.length:Int) !=(ys.length:Int))=true:=by rw [bne_iff_ne];omega
  have HC:Hid (cmpL zs ys=sgn ((zs.length:Int)-(ys.length:Int))):=by
   unfold Hid cmpL sgn
   rw [if_neg hl]
   by_cases h2:zs.length<ys.length
   ·rw [if_pos h2,if_pos (by omega)]
   ·rw [if_neg h2,if_neg (by omega),if_neg (by omega)]
  clear hl
  go_enter Tryz.func99,Tryz.ntmps99
  go_wp2_with (go_at_call 146;refine (cmpI_any _ _ _).mono ?_;rintro e w1 ⟨rfl,rfl⟩)
  go_ret
  exact ⟨ret_int HC.out.symm,Below.refl _ _⟩
def ordB (g g':Bool) (zs ys:List Int):Int:=if g=true∧g'=false then-1 else if g=false∧g'=true then 1 else if g=true then cmpL ys zs else cmpL zs ys
theorem orderOf_any (g g':Bool) (a a':Option Addr) (c c':Nat) (zs ys:List Int) (w:World) (hn:zs.length≤1048576) (hn':ys.length≤1048576) (hz:RowAt .u32 w a zs) (hy:RowAt .u32 w a' ys):
 Calls Tryz.prog 54 #[.agg #[g,.slice a zs.length c],.agg #[g',.slice a' ys.length c']] w fun e w'=>e= .returned (.int .i64 (ordB g g' zs ys))∧Below w.heap.size w w':=by
 cases g
 ·cases g'
  ·have HO:Hid (ordB false false zs ys=cmpL zs ys):=by simp [Hid,ordB]
   go_enter Tryz.func54,Tryz.ntmps54
   go_wp2_with fail
   refine (order_any a a' c c' zs ys _ hn hn' (hz.later (bel2 _ _ _)) (hy.later (bel2 _ _ _))).mono ?_
   rintro e w1 ⟨rfl,hb⟩
   have HB:Hid (Below w.heap.size w w1):=(bel2 _ _ _).trans (hb.mono (by simp;omega))
   clear hb
   go_wp2
   go_ret
   exact ⟨ret_int HO.out.symm,HB.out⟩
  ·go_enter Tryz.func54,Tryz.ntmps54
   go_wp2
   go_ret
   exact ⟨ret_int (by simp [ordB]),bel2 _ _ _⟩
 ·cases g'
  ·go_enter Tryz.func54,Tryz.ntmps54
   go_wp2
   go_ret
   exact ⟨ret_int (by simp [ordB]),bel2 _ _ _⟩
  ·have HO:Hid (ordB true true zs ys=cmpL ys zs):=by simp [Hid,ordB]
   go_enter Tryz.func54,Tryz.ntmps54
   go_wp2_with fail
   refine (order_any a' a c' c ys zs _ hn' hn (hy.later (bel2 _ _ _)) (hz.later (bel2 _ _ _))).mono ?_
   rintro e w1 ⟨rfl,hb⟩
   have HB:Hid (Below w.heap.size w w1):=(bel2 _ _ _).trans (hb.mono (by simp;omega))
   clear hb
   go_wp2
   go_ret
   exact ⟨ret_int HO.out.symm,HB.out⟩
theorem RowNew.take {k:IntKind} {w:World} {B:Nat} {a:Option Addr} {zs:List Int} (h:RowNew k w B a zs) (m:Nat):RowNew k w B a (zs.take m):=by
 rcases h with h| ⟨b,off,h1,h0,h2,h3,h4⟩
 ·exact .inl (by rw [h];simp)
 ·refine .inr ⟨b,off,h1,h0,h2,fun j hj=> ?_,fun j hj=> ?_⟩
  ·rw [List.length_take] at hj
   rw [h3 j (by omega)]
   simp [List.getD_eq_getElem?_getD,show j<m from by omega]
  ·rw [List.length_take] at hj
   exact h4 j (by omega)
def TrimOut (ds:List Int) (a:Option Addr) (w:World) (e:Ending) (w':World):Prop:= ∃m a' c',m≤ds.length∧e= .returned (.slice a' m c')∧trimL ds=ds.take m∧m≤c'∧c'≤maxLen∧(m=0∨a'=a)∧w'=w
theorem trimmed_any (a:Option Addr) (c:Nat) (ds:List Int) (w:World) (B:Nat) (hn:ds.length≤1048576) (hm:c≤maxLen) (hf:ds.length≤c) (hnil:a=none→c=0) (hd:RowNew .u32 w B a ds):
 Calls Tryz.prog 140 #[.slice a ds.length c] w fun e w'=> ∃a' c',e= .returned (.slice a' (trimL ds).length c')∧(trimL ds).length≤c'∧c'≤maxLen∧RowNew .u32 w B a' (trimL ds)∧w'=w:=by
 unfold maxLen at hm
 suffices h:Calls Tryz.prog 140 #[.slice a ds.length c] w fun e w'=>TrimOut ds a w e w' by
  refine h.mono ?_
  rintro e w' ⟨m,a',c',hm',rfl,ht,hc1,hc2,ha,rfl⟩
  have hl:(trimL ds).length=m:=by rw [ht,List.length_take];omega
  rw [hl]
  refine ⟨a',c',rfl,hc1,hc2,?_,rfl⟩
  rcases ha with h0|h0
  ·subst h0
   exact .inl (List.length_eq_zero_iff.1 hl)
  ·subst h0
   rw [ht]
   exact hd.take m
 cases a with
 |none=>
  have hc:=hnil rfl
  subst hc
  have:ds=[]:=List.length_eq_zero_iff.1 (by omega)
  subst this
  go_enter Tryz.func140,Tryz.ntmps140
  go_wp2
  go_loop [3] (fun i=>i= .int .i64 0) (fun _=>0)
  case atStart=>rfl
  case round=>
   subst hrel
   go_wp2
   go_ret
   unfold TrimOut
   exact ⟨0,none,0,by omega,rfl,rfl,by omega,by unfold maxLen;omega,.inl rfl,rfl⟩
 |some x=>
  go_enter Tryz.func140,Tryz.ntmps140
  go_wp2
  go_loop [3] (fun i=> ∃m:Nat,m≤ds.length∧i= .int .i64 m∧Hid (trimL ds=trimL (ds.take m))) (fun i=>(intOf i).toNat)
  case atStart=>exact ⟨ds.length,by omega,rfl,by unfold Hid;simp⟩
  case round=>
   obtain ⟨m,hk,rfl,ht⟩:=hrel
   by_cases h0:m=0
   ·subst h0
    go_wp2
    go_ret
    unfold TrimOut
    exact ⟨0,none,0,by omega,rfl,by rw [ht.out];simp [trimL],by omega,by unfold maxLen;omega,.inl rfl,rfl⟩
   ·obtain ⟨b,off,hx,_,hb,hc,_⟩:=hd.resolve_left (by intro h;subst h;simp at hk;omega)
    obtain ⟨m,rfl⟩: ∃m',m=m'+1:=⟨m-1,by omega⟩
    injection hx with hx
    subst hx
    have g:=hc m (by omega)
    have hm0:((m:Int)+1==0)=false:=by rw [beq_eq_false_iff_ne];omega
    clear hc
    go_wp2
    ·have hz:ds.getD m 0=0:=by simpa using ‹(ds[m]?.getD 0==0)=true›
     go_round
     case rel=>exact ⟨m,by omega,by go_num,by unfold Hid;rw [ht.out,trim_take_step hk hz]⟩
     case measure=>simp [intOf]
    ·have hz:ds.getD m 0≠0:=by simpa using ‹(ds[m]?.getD 0==0)=false›
     go_ret
     unfold TrimOut
     exact ⟨m+1,_,c,hk,rfl,by rw [ht.out,trim_take_stop hk hz],by omega,by unfold maxLen;omega,.inr rfl,rfl⟩
theorem signed_any (g:Bool) (a:Option Addr) (n c:Nat) (w:World):
 Calls Tryz.prog 92 #[g,.slice a n c] w fun e w'=>e= .returned (.agg #[.bool (g && decide (0<n)),.slice a n c])∧Below w.heap.size w w':=by
 cases g with
 |false=>
  go_enter Tryz.func92,Tryz.ntmps92
  go_wp2
  exact bodyPost_ret (v:= .agg #[false,.slice a n c]) (by simp [results,Tryz.results92,go_sem]) rfl ⟨rfl,bel0 _ _⟩
 |true=>
  by_cases h0:0<n
  ·have HD:Hid (decide (0<n)=true):=by unfold Hid;simpa using h0
   go_enter Tryz.func92,Tryz.ntmps92
   go_wp2
   exact bodyPost_ret (v:= .agg #[true,.slice a n c]) (by simp [results,Tryz.results92,go_sem]) rfl ⟨by rw [HD.out];rfl,bel0 _ _⟩
  ·have HD:Hid (decide (0<n)=false):=by unfold Hid;simpa using h0
   go_enter Tryz.func92,Tryz.ntmps92
   go_wp2
   exact bodyPost_ret (v:= .agg #[false,.slice a n c]) (by simp [results,Tryz.results92,go_sem]) rfl ⟨by rw [HD.out];rfl,bel0 _ _⟩
def limOut (g:Bool) (zs:List Int):Bool×List Int×Int:=if zs.length≤512 then (g,zs,0) else (false,[],2)
theorem within_any (g:Bool) (a:Option Addr) (c:Nat) (zs:List Int) (w:World) (B:Nat) (hn:zs.length≤1048576) (hz:RowNew .u32 w B a zs):
 Calls Tryz.prog 52 #[.agg #[g,.slice a zs.length c]] w fun e w'=> ∃a' c',e= .returned (.tuple #[.agg #[.bool (limOut g zs).1,.slice a' (limOut g zs).2.1.length c'],.int .i64 (limOut g zs).2.2])∧RowNew .u32 w' B a' (limOut g zs).2.1∧Below w.heap.size w w':=by
 by_cases h5:zs.length≤512
 ·have HO:Hid (limOut g zs=(g,zs,0)):=by unfold Hid limOut;rw [if_pos h5]
  go_enter Tryz.func52,Tryz.ntmps52
  go_wp2
  refine bodyPost_ret (v:= .tuple #[.agg #[g,.slice a zs.length c],.int .i64 0]) (by simp [results,Tryz.results52,go_sem]) rfl ?_
  rw [HO.out]
  exact ⟨a,c,rfl,hz.later (bel2 _ _ _),bel2 _ _ _⟩
 ·have HO:Hid (limOut g zs=(false,[],2)):=by unfold Hid limOut;rw [if_neg h5]
  go_enter Tryz.func52,Tryz.ntmps52
  go_wp2
  refine bodyPost_ret (v:= .tuple #[.agg #[false,()],.int .i64 2]) (by simp [results,Tryz.results52,go_sem]) rfl ?_
  rw [HO.out]
  exact ⟨none,0,rfl,.inl rfl,bel2 _ _ _⟩
structure B1 (g:Bool) (zs:List Int) (x:Int):Prop where
 can:Canon 4294967296 zs
 num:x=sg g (val 4294967296 zs)
 zero:g=true→zs≠[]
def BigOut (w:World) (x:Int) (n:Nat) (e:Ending) (w':World):Prop:=
 ∃(g:Bool) (a:Option Addr) (c:Nat) (fs:List Int),e= .returned (.agg #[g,.slice a fs.length c])∧B1 g fs x∧(fs.length≤n∧fs.length≤c∧c≤maxLen)∧RowNew .u32 w' w.heap.size a fs∧Below w.heap.size w w'
theorem B1.of_signed {g:Bool} {fs:List Int} {v:Int} (hc:Canon 4294967296 fs) (hv:val 4294967296 fs=v):B1 (g && decide (0<fs.length)) fs (sg g v):=by
 refine ⟨hc,?_,?_⟩
 ·by_cases e:fs=[]
  ·have:v=0:=by rw [←hv,e];rfl
   rw [this,hv,this]
   simp [sg]
  ·have:0<fs.length:=by
    rcases Nat.eq_zero_or_pos fs.length with h|h
    ·exact absurd (List.length_eq_zero_iff.1 h) e
    ·exact h
   simp [this,hv]
 ·intro hg e
  rw [e] at hg
  simp at hg
theorem ord_B1 {g g':Bool} {zs ys:List Int} {x y:Int} (h:B1 g zs x) (h':B1 g' ys y):ordB g g' zs ys=sgn (x-y):=by
 have p1:=val_nonneg (B:=4294967296) (by decide) h.can.1
 have p2:=val_nonneg (B:=4294967296) (by decide) h'.can.1
 rw [h.num,h'.num]
 cases g<;>cases g'
 ·simp only [ordB,sg]
  rw [if_neg (by simp),if_neg (by simp),if_neg (by simp),cmpL_val (by decide) h.can h'.can]
  rfl
 ·have:=val_pos (B:=4294967296) (by decide) h'.can (h'.zero rfl)
  simp only [ordB,sg]
  rw [if_neg (by simp),if_pos (by simp)]
  simp only [Bool.false_eq_true,if_false,if_true]
  unfold sgn
  rw [if_neg (by omega),if_neg (by omega)]
 ·have:=val_pos (B:=4294967296) (by decide) h.can (h.zero rfl)
  simp only [ordB,sg]
  rw [if_pos (by simp)]
  simp only [Bool.false_eq_true,if_false,if_true]
  unfold sgn
  rw [if_pos (by omega)]
 ·simp only [ordB,sg]
  rw [if_neg (by simp),if_neg (by simp)]
  simp only [if_true]
  rw [cmpL_val (by decide) h'.can h.can]
  congr 1
  omega
theorem B1.nil:B1 false [] 0:=⟨⟨Dig.nil _,rfl⟩,by simp [Go.Proofs.YtfieffpobgcpmaaGreatDoor.sg,val],fun h=>by cases h⟩
theorem signB_any (g:Bool) (a:Option Addr) (c:Nat) (zs:List Int) (x:Int) (w:World) (hn:zs.length≤1048576) (hz:RowAt .u32 w a zs) (h:B1 g zs x):
 Calls Tryz.prog 87 #[.agg #[g,.slice a zs.length c]] w fun e w'=>e= .returned (.int .i64 (sgn x))∧Below w.heap.size w w':=by
 go_enter Tryz.func87,Tryz.ntmps87
 go_wp2_with fail
 refine (orderOf_any g false a none c 0 zs [] _ hn (by simp) (hz.later (bel0 _ _)) (.inl rfl)).mono ?_
 rintro e w1 ⟨rfl,hb1⟩
 rw [ord_B1 h B1.nil,Int.sub_zero]
 have HB:Hid (Below w.heap.size w w1):=(bel0 _ _).trans (hb1.mono (by simp))
 clear hb1
 go_wp2
 go_ret
 exact ⟨rfl,HB.out⟩
def MagOut (w:World) (v:Int) (n:Nat) (e:Ending) (w':World):Prop:=
 ∃(a:Option Addr) (c:Nat) (fs:List Int),e= .returned (.slice a fs.length c)∧fs.length≤c∧c≤maxLen∧Canon 4294967296 fs∧val 4294967296 fs=v∧fs.length≤n∧RowNew .u32 w' w.heap.size a fs∧Below w.heap.size w w'
theorem set_mid {l1 l2:List Int} {z d:Int} {k:Nat} (h:l1.length=k):(l1++z::l2).set k d=l1++d::l2:=by
 subst h
 simp
theorem own_step {out:List Int} {n k:Nat} {d:Int} (h:out.length=k) (hk:k<n):(out++List.replicate (n+1-k) 0).set k d=(out++[d])++List.replicate (n+1-(k+1)) 0:=by
 rw [show n+1-k=(n+1-(k+1))+1 by omega,List.replicate_succ,set_mid h]
 simp
theorem own_last {out:List Int} {n:Nat} {d:Int} (h:out.length=n):(out++List.replicate (n+1-n) 0).set n d=out++[d]:=by
 rw [show n+1-n=0+1 by omega,List.replicate_succ,set_mid h]
 simp
end Go.Proofs.YtfieffpobgcpmaaGreatDoor
