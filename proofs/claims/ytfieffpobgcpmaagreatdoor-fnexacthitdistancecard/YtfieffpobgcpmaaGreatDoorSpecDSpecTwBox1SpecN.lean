import Derived.Test.YtfieffpobgcpmaaGreatDoorSpecAGrowBigsSpecBSpecC
import Derived.Test.YtfieffpobgcpmaaGreatDoorNumSNumZTzOpenTUtil
set_option maxRecDepth 100000
set_option maxHeartbeats 32000000
namespace Go.Proofs.YtfieffpobgcpmaaGreatDoor
open Go.RowKit
theorem getD_out {zs:List Int} {k:Nat} (h: ¬k<zs.length):zs.getD k 0=0:=by
 rw [List.getD_eq_getElem?_getD,List.getElem?_eq_none (by omega)];rfl
theorem row_cell {kd:IntKind} {w wr:World} {a:Option Addr} {zs:List Int} (hz:RowAt kd w a zs) (hb:Below w.heap.size w wr) {k:Nat} (h:k<zs.length): ∃b off,a=some ⟨b,off,none⟩∧wr.cell? ⟨b,off+k,none⟩=some (.int kd (zs.getD k 0)):=by
 obtain ⟨b,off,h1,h2,h3⟩:=hz.resolve_left (by intro e;subst e;simp at h)
 exact ⟨b,off,h1,(hb.cell (p:=⟨b,off+k,none⟩) h2).trans (h3 k h)⟩
theorem ret_int {k:IntKind} {a b:Int} (h:a=b):Ending.returned (.int k a)= .returned (.int k b):=by rw [h]
theorem cmpMag_any (a a':Option Addr) (c c':Nat) (zs ys:List Int) (w:World) (hn:zs.length≤1048576) (_hn':ys.length≤1048576) (hz:RowAt .i64 w a zs) (hy:RowAt .i64 w a' ys):
 Calls Tryz.prog 71 #[.slice a zs.length c,.slice a' ys.length c'] w fun e w'=>e= .returned (.int .i64 (cmpL zs ys))∧Below w.heap.size w w':=by
 by_cases hl:zs.length=ys.length
 ·have HC:Hid (cmpL zs ys=cmpTop zs ys):=by unfold Hid cmpL;rw [if_pos hl]
  have hne:((zs.length:Int) !=(ys.length:Int))=false:=by rw [bne_eq_false_iff_eq];omega
  have HL:Hid (zs.length=ys.length):=hl
  clear hl
  go_enter Tryz.func71,Tryz.ntmps71
  go_wp2
  go_loopw [5] (fun i wr=> ∃k:Nat,k≤zs.length∧i= .int .i64 ((k:Int)-1)∧Hid (cmpTop zs ys=cmpTop (zs.take k) (ys.take k))∧Below w.heap.size w wr) (fun i _=>(intOf i+1).toNat)
  case atStart=>exact ⟨zs.length,Nat.le_refl _,rfl,by unfold Hid;rw [List.take_length,HL.out,List.take_length],Below.refl _ _⟩
  case round=>
   obtain ⟨k,hk,rfl,hsame,hnx⟩:=hrel
   by_cases h0:k=0
   ·subst h0
    go_wp2
    go_ret
    exact ⟨ret_int (by rw [HC.out,hsame.out];simp [cmpTop]),hnx⟩
   ·obtain ⟨k,rfl⟩: ∃m,k=m+1:=⟨k-1,by omega⟩
    have hlt':k<ys.length:=by have:=HL.out;omega
    obtain ⟨b,off,rfl,g1⟩:=row_cell hz hnx (show k<zs.length by omega)
    obtain ⟨b',off',rfl,g2⟩:=row_cell hy hnx hlt'
    have hst:=cmpTop_take (show k<zs.length by omega) hlt'
    obtain ⟨x,hx⟩: ∃x,x=zs.getD k 0:=⟨_,rfl⟩
    obtain ⟨y,hyy⟩: ∃y,y=ys.getD k 0:=⟨_,rfl⟩
    rw [←hx] at g1 hst
    rw [←hyy] at g2 hst
    have HST:Hid (cmpL zs ys=if x=y then cmpTop (zs.take k) (ys.take k) else sgn (x-y)):=by unfold Hid;rw [HC.out,hsame.out,hst]
    have HS2:Hid (cmpTop zs ys=if x=y then cmpTop (zs.take k) (ys.take k) else sgn (x-y)):=by unfold Hid;rw [hsame.out,hst]
    clear hst hx hyy hsame HC hz hy
    by_cases c1:x<y
    ·go_wp2
     go_quiet (fail)
     go_wp2
     go_ret
     exact ⟨ret_int (by rw [HST.out,if_neg (by omega)];unfold sgn;rw [if_pos (by omega)]),below_drewN hnx _⟩
    ·by_cases c2:y<x
     ·go_wp2
      go_quiet (fail)
      go_wp2
      go_quiet (fail)
      go_wp2
      go_ret
      exact ⟨ret_int (by rw [HST.out,if_neg (by omega)];unfold sgn;rw [if_neg (by omega),if_neg (by omega)]),below_drewN (below_drewN hnx _) _⟩
     ·go_wp2
      go_quiet (fail)
      go_wp2
      go_quiet (fail)
      go_wp2
      go_roundw
      case rel=>exact ⟨k,by omega,by go_num,by unfold Hid;rw [HS2.out,if_pos (by omega)],below_drewN hnx _⟩
      case measure=>simp [intOf]
 ·have hne:((zs.length:Int) !=(ys.length:Int))=true:=by rw [bne_iff_ne];omega
  by_cases h2:zs.length<ys.length
  ·have HC:Hid (cmpL zs ys= -1):=by unfold Hid cmpL;rw [if_neg hl,if_pos h2]
   go_enter Tryz.func71,Tryz.ntmps71
   go_wp2
   go_ret
   exact ⟨ret_int HC.out.symm,Below.refl _ _⟩
  ·have HC:Hid (cmpL zs ys=1):=by unfold Hid cmpL;rw [if_neg hl,if_neg h2]
   go_enter Tryz.func71,Tryz.ntmps71
   go_wp2
   go_ret
   exact ⟨ret_int HC.out.symm,Below.refl _ _⟩
theorem addMag_any (a a':Option Addr) (p p':Nat) (zs ys:List Int) (w:World) (hn:zs.length≤200000) (hn':ys.length≤200000) (hz:RowAt .i64 w a zs) (hy:RowAt .i64 w a' ys) (hdz:Dig 65536 zs) (hdy:Dig 65536 ys):
 Calls Tryz.prog 119 #[.slice a zs.length p,.slice a' ys.length p'] w fun e w'=> ∃a2 c2,e= .returned (.slice a2 (carryL 65536 (sumsL zs ys) 0).length c2)∧c2≤maxLen∧Sl .i64 w' a2 c2 (carryL 65536 (sumsL zs ys) 0)∧RowNew .i64 w' w.heap.size a2 (carryL 65536 (sumsL zs ys) 0)∧Below w.heap.size w w':=by
 go_enter Tryz.func119,Tryz.ntmps119
 go_wp2
 go_loopw [5,6,7] (fun v cc i wr=> ∃(k:Nat) (c:Int) (out:List Int),cc= .int .i64 c∧i= .int .i64 k∧0≤c∧c≤1∧(k≤zs.length∨k≤ys.length∨c=0)∧k≤400001∧out.length=k∧Hid (carryL 65536 (sumsL zs ys) 0=out++carryL 65536 (sumsL (zs.drop k) (ys.drop k)) c)∧
  wr.ownsRow w.heap.size 3 1 v out.length (vals .i64 out)∧Below w.heap.size w wr) (fun _ _ i _=>400002-(intOf i).toNat)
 case atStart=>exact ⟨0,0,[],rfl,rfl,by decide,by decide,.inl (Nat.zero_le _),by decide,rfl,rfl,own_nil _ _ _ _,Below.refl _ _⟩
 case round=>
  obtain ⟨k,c,out,rfl,rfl,hc0,hc1,hkk,hkb,hol,hrest,hown,hnx⟩:=hrel
  have hsz:=hnx.size
  have hb1:=hdz.at (by decide) k
  have hb2:=hdy.at (by decide) k
  have hlo:out.length≤400001:=by omega
  by_cases hend: ¬k<zs.length∧ ¬k<ys.length∧ ¬0<c
  ·obtain ⟨e1,e2,e3⟩:=hend
   have hcz:c=0:=by omega
   subst hcz
   have hfin:carryL 65536 (sumsL zs ys) 0=out:=by
    rw [hrest.out,List.drop_eq_nil_of_le (by omega),List.drop_eq_nil_of_le (by omega)];simp [sumsL,carryL]
   have HF:Hid (carryL 65536 (sumsL zs ys) 0=out):=hfin
   obtain ⟨a2,c2,rfl,hcm,hsl,hrn⟩:=own_row hown
   clear hfin hown hrest hb1 hb2 hdz hdy hz hy hol
   go_wp2
   go_ret
   rw [HF.out]
   exact ⟨a2,c2,rfl,hcm,hsl,hrn,hnx⟩
  ·have hcond:k<zs.length∨k<ys.length∨0<c:=by omega
   have hkb':k<400001:=by omega
   by_cases h1:k<zs.length
   ·by_cases h2:k<ys.length
    ·obtain ⟨b,off,rfl,g1⟩:=row_cell hz hnx h1
     obtain ⟨b',off',rfl,g2⟩:=row_cell hy hnx h2
     obtain ⟨x,hx⟩: ∃x,x=zs.getD k 0:=⟨_,rfl⟩
     obtain ⟨y,hyy⟩: ∃y,y=ys.getD k 0:=⟨_,rfl⟩
     rw [←hx] at hb1 g1
     rw [←hyy] at hb2 g2
     have hst:=add_step (B:=65536) (by decide) (s:=c+x+y) hcond hc0 hc1 (by rw [←hx,←hyy];omega)
     have HS:Hid (carryL 65536 (sumsL zs ys) 0=(out++[(c+x+y)%65536])++carryL 65536 (sumsL (zs.drop (k+1)) (ys.drop (k+1))) ((c+x+y)/65536)):=by unfold Hid;rw [hrest.out,hst];simp
     have hsm0:0≤c+x+y:=by omega
     have hsm1:c+x+y≤131071:=by omega
     obtain ⟨hb10,hb11⟩:=hb1
     obtain ⟨hb20,hb21⟩:=hb2
     clear hst hx hyy hrest hz hy hdz hdy
     go_wp2_with (at_builtin;refine app1 rfl (.tmp 44) (.tmp 47) 66 rfl w.heap.size 3 Tryz.underlying66 Tryz.info3 (by decide) _ _ rfl rfl hown (by omega) hsz ?_;intro a1 n1 c1 w1 hown1 hb1 hs1)
     have hnx2:=hnx.trans hb1
     go_roundw
     case rel=>exact ⟨k+1,(c+x+y)/65536,out++[(c+x+y)%65536],rfl,by go_num,by omega,by omega,by omega,by omega,by simp;omega,HS,hown1,hnx2⟩
     case measure=>simp [intOf];omega
    ·obtain ⟨b,off,rfl,g1⟩:=row_cell hz hnx h1
     obtain ⟨x,hx⟩: ∃x,x=zs.getD k 0:=⟨_,rfl⟩
     obtain ⟨y,hyy⟩: ∃y,y=ys.getD k 0:=⟨_,rfl⟩
     have hy0:y=0:=by rw [hyy];exact getD_out h2
     rw [←hx] at hb1 g1
     rw [←hyy] at hb2
     have hst:=add_step (B:=65536) (by decide) (s:=c+x) hcond hc0 hc1 (by rw [←hx,←hyy];omega)
     have HS:Hid (carryL 65536 (sumsL zs ys) 0=(out++[(c+x)%65536])++carryL 65536 (sumsL (zs.drop (k+1)) (ys.drop (k+1))) ((c+x)/65536)):=by unfold Hid;rw [hrest.out,hst];simp
     have hsm0:0≤c+x:=by omega
     have hsm1:c+x≤131071:=by omega
     obtain ⟨hb10,hb11⟩:=hb1
     obtain ⟨hb20,hb21⟩:=hb2
     clear hst hx hyy hrest hz hy hdz hdy hy0
     go_wp2_with (at_builtin;refine app1 rfl (.tmp 44) (.tmp 47) 66 rfl w.heap.size 3 Tryz.underlying66 Tryz.info3 (by decide) _ _ rfl rfl hown (by omega) hsz ?_;intro a1 n1 c1 w1 hown1 hb1 hs1)
     have hnx2:=hnx.trans hb1
     go_roundw
     case rel=>exact ⟨k+1,(c+x)/65536,out++[(c+x)%65536],rfl,by go_num,by omega,by omega,by omega,by omega,by simp;omega,HS,hown1,hnx2⟩
     case measure=>simp [intOf];omega
   ·by_cases h2:k<ys.length
    ·obtain ⟨b',off',rfl,g2⟩:=row_cell hy hnx h2
     obtain ⟨x,hx⟩: ∃x,x=zs.getD k 0:=⟨_,rfl⟩
     obtain ⟨y,hyy⟩: ∃y,y=ys.getD k 0:=⟨_,rfl⟩
     have hx0:x=0:=by rw [hx];exact getD_out h1
     rw [←hx] at hb1
     rw [←hyy] at hb2 g2
     have hst:=add_step (B:=65536) (by decide) (s:=c+y) hcond hc0 hc1 (by rw [←hx,←hyy];omega)
     have HS:Hid (carryL 65536 (sumsL zs ys) 0=(out++[(c+y)%65536])++carryL 65536 (sumsL (zs.drop (k+1)) (ys.drop (k+1))) ((c+y)/65536)):=by unfold Hid;rw [hrest.out,hst];simp
     have hsm0:0≤c+y:=by omega
     have hsm1:c+y≤131071:=by omega
     obtain ⟨hb10,hb11⟩:=hb1
     obtain ⟨hb20,hb21⟩:=hb2
     clear hst hx hyy hrest hz hy hdz hdy hx0
     go_wp2_with (at_builtin;refine app1 rfl (.tmp 44) (.tmp 47) 66 rfl w.heap.size 3 Tryz.underlying66 Tryz.info3 (by decide) _ _ rfl rfl hown (by omega) hsz ?_;intro a1 n1 c1 w1 hown1 hb1 hs1)
     have hnx2:=hnx.trans hb1
     go_roundw
     case rel=>exact ⟨k+1,(c+y)/65536,out++[(c+y)%65536],rfl,by go_num,by omega,by omega,by omega,by omega,by simp;omega,HS,hown1,hnx2⟩
     case measure=>simp [intOf];omega
    ·have h3:0<c:=by omega
     obtain ⟨x,hx⟩: ∃x,x=zs.getD k 0:=⟨_,rfl⟩
     obtain ⟨y,hyy⟩: ∃y,y=ys.getD k 0:=⟨_,rfl⟩
     have hx0:x=0:=by rw [hx];exact getD_out h1
     have hy0:y=0:=by rw [hyy];exact getD_out h2
     rw [←hx] at hb1
     rw [←hyy] at hb2
     have hst:=add_step (B:=65536) (by decide) (s:=c) hcond hc0 hc1 (by rw [←hx,←hyy];omega)
     have HS:Hid (carryL 65536 (sumsL zs ys) 0=(out++[(c)%65536])++carryL 65536 (sumsL (zs.drop (k+1)) (ys.drop (k+1))) ((c)/65536)):=by unfold Hid;rw [hrest.out,hst];simp
     have hsm0:0≤c:=by omega
     have hsm1:c≤131071:=by omega
     obtain ⟨hb10,hb11⟩:=hb1
     obtain ⟨hb20,hb21⟩:=hb2
     clear hst hx hyy hrest hz hy hdz hdy hx0 hy0
     go_wp2_with (at_builtin;refine app1 rfl (.tmp 44) (.tmp 47) 66 rfl w.heap.size 3 Tryz.underlying66 Tryz.info3 (by decide) _ _ rfl rfl hown (by omega) hsz ?_;intro a1 n1 c1 w1 hown1 hb1 hs1)
     have hnx2:=hnx.trans hb1
     go_roundw
     case rel=>exact ⟨k+1,(c)/65536,out++[(c)%65536],rfl,by go_num,by omega,by omega,by omega,by omega,by simp;omega,HS,hown1,hnx2⟩
     case measure=>simp [intOf];omega
theorem twos_any (g:Bool) (a:Option Addr) (c:Nat) (ds:List Int) (x:Int) (w:World) (hn:ds.length≤1048576) (h:L1 w g a c ds x) (hne:ds≠[]):
 Calls Tryz.prog 69 #[.agg #[g,.slice a ds.length c]] w fun e w'=> ∃t:Nat,e= .returned (.int .i64 t)∧t≤16*ds.length∧Twos (val 65536 ds) t∧Below w.heap.size w w':=by
 have hpos:=val_pos (B:=65536) (by decide) h.can hne
 have hd:=h.can.1
 have hz:=h.sl.row
 obtain ⟨b,off,rfl,hb,hc⟩:=hz.resolve_left hne
 have HD:Hid (Dig 65536 ds):=hd
 have HP:Hid (0<val 65536 ds):=hpos
 have hlen:ds.length≠0:=fun e=>hne (List.length_eq_zero_iff.1 e)
 clear h hd hz hpos
 have q1:(w.alloc (.cells #[g,.slice (some ⟨b,off,none⟩) ds.length c] 72)).cell? ⟨w.heap.size,1,none⟩=some (.slice (some ⟨b,off,none⟩) ds.length c):=by simp [go_sem]
 have HC:Hid (∀j,j<ds.length→(w.alloc (.cells #[g,.slice (some ⟨b,off,none⟩) ds.length c] 72)).cell? ⟨b,off+j,none⟩=some (.int .i64 (ds.getD j 0))):=by
  intro j hj
  rw [World.cell?_alloc_past _ _ _ hb]
  exact hc j hj
 have HB:Hid (Below w.heap.size w (w.alloc (.cells #[g,.slice (some ⟨b,off,none⟩) ds.length c] 72))):=bel0 _ _
 clear hc
 go_enter Tryz.func69,Tryz.ntmps69
 go_wp2
 obtain ⟨W,hW⟩: ∃W,W=w.alloc (.cells #[g,.slice (some ⟨b,off,none⟩) ds.length c] 72):=⟨_,rfl⟩
 rw [←hW] at q1 HC HB⊢
 clear hW
 go_loop [3] (fun i=> ∃j:Nat,j<ds.length∧i= .int .i64 j∧Hid (anyN (ds.take j)=false)) (fun i=>ds.length-(intOf i).toNat)
 case atStart=>exact ⟨0,by omega,rfl,rfl⟩
 case round=>
  obtain ⟨j,hj,rfl,hany⟩:=hrel
  have g1:=HC.out j hj
  have hst:=anyN_take hj
  obtain ⟨y,hy⟩: ∃y,y=ds.getD j 0:=⟨_,rfl⟩
  have hyb:=HD.out.at (by decide) j
  rw [←hy] at g1 hst hyb
  have hji:(j:Int)<ds.length:=by omega
  by_cases hy0:y=0
  ·have hany2:anyN (ds.take (j+1))=false:=by rw [hst,hany.out,hy0];rfl
   have hj2:j+1<ds.length:=by
    by_cases hp:j+1<ds.length
    ·exact hp
    ·have:ds.take (j+1)=ds:=List.take_of_length_le (by omega)
     rw [this,anyN_false (B:=65536) (by decide) HD.out] at hany2
     have:=HP.out
     omega
   have HA:Hid (anyN (ds.take (j+1))=false):=hany2
   subst hy0
   clear hst hany hany2 hy
   go_wp2
   go_round
   case rel=>exact ⟨j+1,hj2,by go_num,HA⟩
   case measure=>simp [intOf];omega
  ·have hy1:(y==0)=false:=by rw [beq_eq_false_iff_ne];exact hy0
   have hv0:val 65536 (ds.take j)=0:=(anyN_false (B:=65536) (by decide) (HD.out.take j)).1 hany.out
   have HV0:Hid (val 65536 (ds.take j)=0):=hv0
   have HY:Hid (y=ds.getD j 0):=hy
   obtain ⟨hyb0,hyb1⟩:=hyb
   clear hst hany hv0 hy
   go_wp2
   go_loop [4,5] (fun sv sk=> ∃(k:Nat) (v:Int),sv= .int .i64 v∧sk= .int .i64 k∧0<v∧v<65536∧k<16∧Hid (y=2^k*v)) (fun sv _=>(intOf sv).toNat)
   case atStart=>exact ⟨0,y,rfl,rfl,by omega,by omega,by decide,by unfold Hid;simp⟩
   case round=>
    obtain ⟨k,v,rfl,rfl,hv0,hv1,hk,hyk⟩:=hrel
    have hvm:0≤v%2:=by omega
    by_cases hev:v%2=0
    ·have hyk2:y=2^(k+1)*(v/2):=by
      rw [hyk.out,Int.pow_succ,Int.mul_assoc]
      congr 1
      omega
     have hv2:0<v/2:=by omega
     have hk2:k+1<16:=pow_lt_of hyk2 hv2 (by omega)
     have HK:Hid (y=2^(k+1)*(v/2)):=hyk2
     clear hyk2 hyk
     go_wp2
     go_round
     case rel=>exact ⟨k+1,v/2,rfl,by go_num,hv2,by omega,hk2,HK⟩
     case measure=>simp [intOf];omega
    ·have hev1:(v%2==0)=false:=by rw [beq_eq_false_iff_ne];exact hev
     have HT:Hid (Twos (val 65536 ds) (16*j+k)):=twos_of (b:=16) hj HV0.out (by rw [←HY.out];exact hyk.out) (by omega) hk
     clear hyk
     go_wp2
     go_ret
     exact ⟨16*j+k,ret_int (by omega),by omega,HT.out,HB.out⟩
structure Bx1 (w:World) (u v:Value) (W:World):Prop where
 q0:W.cell? ⟨w.heap.size,0,none⟩=some u
 q1:W.cell? ⟨w.heap.size,1,none⟩=some v
 r1:W.cell? ⟨w.heap.size+1,0,none⟩=some ↑false
 r2:W.cell? ⟨w.heap.size+1,1,none⟩=some ↑()
 r3: ∀j,W.frozen? ⟨w.heap.size+1,j,none⟩=false
 le:w.heap.size+1+1≤W.heap.size
 bel:Below w.heap.size w W
theorem Bx1.start (w:World) (u v:Value) (t t':TypeId):Bx1 w u v ((w.alloc (.cells #[u,v] t)).alloc (.cells #[false,()] t')):=by
 refine ⟨?_,?_,?_,?_,?_,?_,bel2 _ _ _⟩
 all_goals simp [go_sem]
theorem Bx1.on {w:World} {u v:Value} {W W':World} (h:Bx1 w u v W) (hb:Below (w.heap.size+1+1) W W'):Bx1 w u v W':=
 ⟨(hb.cell (by simp;omega)).trans h.q0,(hb.cell (by simp;omega)).trans h.q1,(hb.cell (by simp)).trans h.r1,(hb.cell (by simp)).trans h.r2,fun j=>(hb.frozen (by simp)).trans (h.r3 j),Nat.le_trans h.le hb.size,h.bel.trans (hb.mono (by omega))⟩
theorem Bx1.later {w:World} {u v:Value} {W W':World} (h:Bx1 w u v W) (hb:Below W.heap.size W W'):Bx1 w u v W':=h.on (hb.mono h.le)
theorem own_made (w:World) (n:Nat) (e:TypeId) (k:IntKind) (base:Nat) (hb:base≤w.heap.size) (hn:n≤maxLen):(w.alloc (.cells (madeCells #[.int k 0] n) e)).ownsRow base e 1 (.slice (some ⟨w.heap.size,0,none⟩) n n) (List.replicate n (0:Int)).length (vals k (List.replicate n 0)):=by
 refine ⟨by simp [vals],.inr ⟨w.heap.size,n,madeCells #[.int k 0] n,by simp,hb,by (first|exact heap_alloc_new _ _|exact Go.RowKit.heap_alloc_new _ _|exact Go.heap_alloc_new _ _),by simp,hn,by simp [size_madeCells],?_⟩⟩
 apply List.ext_getElem?
 intro j
 rw [List.getElem?_take]
 by_cases hj:j<n
 ·simp [hj,vals,madeCells,Nat.mod_one]
 ·simp [hj,vals]
theorem pow16 (n:Int) (h:0≤n):(65536:Int)^(n/16).toNat*2^(n%16).toNat=2^n.toNat:=by
 rw [show (65536:Int)=2^16 from rfl,←Int.pow_mul,←Int.pow_add]
 congr 1
 omega
theorem two16 (n:Int):0<(2:Int)^(n%16).toNat∧(2:Int)^(n%16).toNat≤32768:=by
 refine ⟨Int.pow_pos (by decide),?_⟩
 have h: ∀k,k<16→(2:Int)^k≤32768:=by decide
 exact h _ (by omega)
def UpOut (w:World) (n:Nat) (x:Int) (e:Ending) (w':World):Prop:=
 ∃(g:Bool) (a:Option Addr) (c:Nat) (fs:List Int),e= .returned (.agg #[g,.slice a fs.length c])∧fs.length≤n∧L1 w' g a c fs x∧Far w.heap.size a fs∧Below w.heap.size w w'
theorem up_any (g:Bool) (a:Option Addr) (c:Nat) (ds:List Int) (x n:Int) (w:World) (hn:ds.length≤100000) (n0:0≤n) (n1:n≤1000000) (h:L1 w g a c ds x):
 Calls Tryz.prog 73 #[.agg #[g,.slice a ds.length c],.int .i64 n] w fun e w'=>UpOut w (ds.length+(n/16).toNat+1) (x*2^n.toNat) e w':=by
 by_cases hd0:ds.length=0
 ·have hde:ds=[]:=List.length_eq_zero_iff.1 hd0
  subst hde
  have hx:x=0:=by rw [h.num];simp [val,sg]
  have hg:g=false:=by cases g;rfl;exact absurd rfl (h.zero rfl)
  subst hx hg
  go_enter Tryz.func73,Tryz.ntmps73
  go_wp2
  refine bodyPost_ret (v:= .agg #[false,.slice a 0 c]) (by simp [results,Tryz.results73,go_sem]) rfl ⟨false,a,c,[],rfl,by simp,?_,.inl rfl,?_⟩
  ·refine ⟨⟨by simp,h.sl.nil,.inl rfl⟩,h.can,by simp [val,sg],h.zero,h.cap⟩
  ·exact bel2 _ _ _
 ·have hmk:=run_make_row' (P:=Tryz.prog) 66 3 (.int .i64 0) 8 Tryz.underlying66 Tryz.info3 rfl .i64 .i64 (n/16).toNat (by omega) (by omega)
  rw [show (((n/16).toNat:Nat):Int)=n/16 by omega] at hmk
  obtain ⟨q0,q1⟩:=two16 n
  obtain ⟨q,hq⟩: ∃q,q=(2:Int)^(n%16).toNat:=⟨_,rfl⟩
  have HQ:Hid (q=(2:Int)^(n%16).toNat):=hq
  rw [←hq] at q0 q1
  obtain ⟨s,hs⟩: ∃s,s=(n/16).toNat:=⟨_,rfl⟩
  have HX:Hid (sg g (65536^s*(val 65536 ds*q))=x*2^n.toNat):=by
   unfold Hid
   rw [h.num,hq,hs,Int.mul_comm (val 65536 ds),←Int.mul_assoc,pow16 n n0]
   cases g
   ·simp only [sg];exact Int.mul_comm _ _
   ·simp only [sg,if_true];rw [Int.neg_mul,Int.mul_comm]
  have hdz:=h.can.1
  have hz:=h.sl.row
  have hsb:s≤62500:=by omega
  have hd1:((ds.length:Int)==0)=false:=by rw [beq_eq_false_iff_ne];omega
  clear h hq
  go_enter Tryz.func73,Tryz.ntmps73
  go_wp2
  obtain ⟨W0,hW0⟩: ∃W0,W0=((w.alloc (.cells #[g,.slice a ds.length c] 72)).alloc (.cells #[false,()] 72)):=⟨_,rfl⟩
  have F:Hid (Bx1 w g (.slice a ds.length c) W0):=by rw [hW0];exact Bx1.start w _ _ _ _
  have hS:w.heap.size+1+1=W0.heap.size:=by rw [hW0];simp
  rw [←hW0]
  have HS0:Hid ((W0.alloc (.cells (madeCells #[.int .i64 0] (n/16).toNat) 3)).ownsRow (w.heap.size+1+1) 3 1 (.slice (some ⟨w.heap.size+1+1,0,none⟩) (n/16).toNat (n/16).toNat) (List.replicate s (0:Int)).length (vals .i64 (List.replicate s 0))):=by unfold Hid;rw [hs,hS];exact own_made W0 _ _ _ _ (Nat.le_refl _) (by unfold maxLen;omega)
  have HB0:Hid (Below (w.heap.size+1+1) W0 (W0.alloc (.cells (madeCells #[.int .i64 0] (n/16).toNat) 3))):=by unfold Hid;rw [hS];exact bel0 _ _
  have HSn:Hid (s=(n/16).toNat):=hs
  clear hW0 hS hs
  go_loopw [5,6,7] (fun v cc i wr=> ∃(k:Nat) (cr:Int) (out:List Int),cc= .int .i64 cr∧i= .int .i64 k∧0≤cr∧cr<q∧(k≤ds.length∨cr=0)∧k≤ds.length+1∧out.length=s+k∧Hid (List.replicate s 0++carryL 65536 (timesL q ds) 0=out++carryL 65536 (timesL q (ds.drop k)) cr)∧
   wr.ownsRow (w.heap.size+1+1) 3 1 v out.length (vals .i64 out)∧Below (w.heap.size+1+1) W0 wr) (fun _ _ i _=>ds.length+1-(intOf i).toNat)
  case atStart=>exact ⟨0,0,List.replicate s 0,rfl,rfl,by decide,q0,.inl (Nat.zero_le _),Nat.zero_le _,by simp,rfl,HS0.out,HB0.out⟩
  case round=>
   obtain ⟨k,cr,out,rfl,rfl,hc0,hc1,hkk,hkb,hol,hrest,hown,hnx⟩:=hrel
   clear HS0 HB0
   have F1:Hid (Bx1 w g (.slice a ds.length c) wr):=F.out.on hnx
   have s1:=F1.out.q1
   have hle:=F1.out.le
   have hlo:out.length≤200000:=by omega
   by_cases h1:k<ds.length
   ·have hb1:=hdz.at (by decide) k
    obtain ⟨b,off,rfl,g1⟩:=row_cell hz F1.out.bel h1
    obtain ⟨y,hyy⟩: ∃y,y=ds.getD k 0:=⟨_,rfl⟩
    rw [←hyy] at hb1 g1
    obtain ⟨hb10,hb11⟩:=hb1
    have hp0:=Int.mul_nonneg hb10 (Int.le_of_lt q0)
    have hp1:y*q≤65535*32768:=Int.mul_le_mul (by omega) q1 (by omega) (by decide)
    simp only [Int.reduceMul] at hp1
    have htc:=times_carry (B:=65536) (by decide) q0 hb10 hb11 hc0 hc1
    rw [show y*q+cr=cr+y*q by omega] at htc
    have HS:Hid (List.replicate s 0++carryL 65536 (timesL q ds) 0=(out++[(cr+y*q)%65536])++carryL 65536 (timesL q (ds.drop (k+1))) ((cr+y*q)/65536)):=by
     unfold Hid
     rw [hrest.out,timesL_drop h1,←hyy,carryL,show y*q+cr=cr+y*q by omega]
     simp
    have HTC:Hid (0≤(cr+y*q)/65536∧(cr+y*q)/65536<q):=htc
    rw [HQ.out] at hp0 hp1
    have HN:Hid (Below (w.heap.size+1+1) W0 wr):=hnx
    clear hrest hyy hnx htc hdz hz F F1
    go_wp2_with (at_builtin;refine app1 rfl (.tmp 43) (.tmp 46) 66 rfl (w.heap.size+1+1) 3 Tryz.underlying66 Tryz.info3 (by decide) _ _ rfl rfl hown (by omega) hle ?_;intro a1 n1 c1 w1 hown1 hb1 hs1)
    rw [←HQ.out] at hown1
    go_roundw
    case rel=>exact ⟨k+1,(cr+y*q)/65536,out++[(cr+y*q)%65536],by rw [HQ.out],by go_num,HTC.out.1,HTC.out.2,.inl (by omega),by omega,by simp;omega,HS,hown1,HN.out.trans hb1⟩
    case measure=>simp [intOf];omega
   ·by_cases hcp:0<cr
    ·have hkn:k=ds.length:=by omega
     subst hkn
     have E1:Hid (cr%65536=cr):=by unfold Hid;omega
     have E2:Hid (cr/65536=0):=by unfold Hid;omega
     have HS:Hid (List.replicate s 0++carryL 65536 (timesL q ds) 0=(out++[cr])++carryL 65536 (timesL q (ds.drop (ds.length+1))) 0):=by
      unfold Hid
      rw [hrest.out,List.drop_eq_nil_of_le (Nat.le_refl _),List.drop_eq_nil_of_le (by omega)]
      simp [timesL,carryL,show cr≠0 by omega]
     have HN:Hid (Below (w.heap.size+1+1) W0 wr):=hnx
     clear hrest hnx hdz hz F F1
     go_wp2_with (at_builtin;refine app1 rfl (.tmp 43) (.tmp 46) 66 rfl (w.heap.size+1+1) 3 Tryz.underlying66 Tryz.info3 (by decide) _ _ rfl rfl hown (by omega) hle ?_;intro a1 n1 c1 w1 hown1 hb1 hs1)
     rw [E1.out] at hown1
     go_roundw
     case rel=>exact ⟨ds.length+1,0,out++[cr],by rw [E2.out],by go_num,by decide,q0,.inr rfl,by omega,by simp;omega,HS,hown1,HN.out.trans hb1⟩
     case measure=>simp [intOf]
    ·have hcz:cr=0:=by omega
     subst hcz
     have hfin:List.replicate s 0++carryL 65536 (timesL q ds) 0=out:=by
      rw [hrest.out,List.drop_eq_nil_of_le (by omega)];simp [timesL,carryL]
     have hV:val 65536 out=65536^s*(val 65536 ds*q):=by rw [←hfin,val_up,val_carry,val_timesL];simp
     have hG:Dig 65536 out:=by rw [←hfin];exact Dig.append (Dig.zeros (by decide) _) (dig_times (by decide) q0 (by omega) _ _ hdz (by decide) q0)
     have hL:out.length≤ds.length+(n/16).toNat+1:=by rw [←HSn.out];omega
     have HV:Hid (val 65536 out=65536^s*(val 65536 ds*q)):=hV
     have HG:Hid (Dig 65536 out):=hG
     have HL:Hid (out.length≤ds.length+(n/16).toNat+1):=hL
     obtain ⟨a2,c2,rfl,hcm,hsl,hrn⟩:=own_row hown
     have s0:=F1.out.q0
     have HSl:Hid (Sl .i64 wr a2 c2 out):=hsl
     have HF:Hid (Far (w.heap.size+1+1) a2 out):=hrn.far (Nat.le_refl _) (Nat.le_refl _)
     clear hfin hV hG hL hown hrest hdz hz hol hsl hrn hnx
     go_wp2_with fail
     refine (make_any g a2 c2 out _ (by omega) hcm HSl.out HG.out).mono ?_
     rintro e w2 ⟨g2,fs,rfl,hfl,hL2,hb2⟩
     rw [HV.out,HX.out] at hL2
     have F2:=Hid.mk (F1.out.later hb2)
     have r1:=F2.out.r1
     have r2:=F2.out.r2
     have r3:=F2.out.r3
     have HL2:Hid (L1 w2 g2 a2 c2 fs (x*2^n.toNat)):=hL2
     have HF2:Hid (Far (w.heap.size+1+1) a2 fs):=by
      rcases HF.out with h|h
      ·subst h;exact .inl (List.length_eq_zero_iff.1 (by simpa using hfl))
      ·exact .inr h
     clear hL2 hb2 s0 s1 F1
     go_wp2
     refine bodyPost_ret (v:= .agg #[g2,.slice a2 fs.length c2]) (by simp [results,Tryz.results73,go_sem,r1,r2]) rfl ⟨g2,a2,c2,fs,rfl,by have:=HL.out;omega,?_,HF2.out.down (by omega),?_⟩
     ·exact (HL2.out.setFar HF2.out (by simp) _).setFar HF2.out (by simp) _
     ·exact (F2.out.bel.setCell (by simp) _).setCell (by simp) _
end Go.Proofs.YtfieffpobgcpmaaGreatDoor
