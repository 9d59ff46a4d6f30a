import Derived.Test.YtfieffpobgcpmaaGreatDoorEsEToImplC0
set_option maxRecDepth 100000
set_option maxHeartbeats 32000000
namespace Go.Proofs.YtfieffpobgcpmaaGreatDoor
open Go.RowKit
theorem plus_both (a a':Option Addr) (p p':Nat) (zs ys:List Int) (w:World) (hn:zs.length≤100000) (hn':ys.length≤100000) (hz:RowAt .u32 w a zs) (hy:RowAt .u32 w a' ys) (hdz:Dig 4294967296 zs) (hdy:Dig 4294967296 ys):
 (ys.length≤zs.length→Calls Tryz.prog 203 #[.slice a zs.length p,.slice a' ys.length p'] w fun e w'=>MagOut w (val 4294967296 zs+val 4294967296 ys) (zs.length+ys.length+1) e w')∧(ys.length<zs.length→Calls Tryz.prog 203 #[.slice a' ys.length p',.slice a zs.length p] w fun e w'=>MagOut w (val 4294967296 zs+val 4294967296 ys) (zs.length+ys.length+1) e w'):=by
 constructor<;>intro hle
 all_goals
  have hmk:=run_make_row' (P:=Tryz.prog) 152 22 (.int .u32 0) 4 Tryz.underlying152 Tryz.info22 rfl .i64 .i64 (zs.length+1) (by omega) (by omega)
  rw [show ((zs.length+1:Nat):Int)=(zs.length:Int)+1 by omega] at hmk
  go_enter Tryz.func203,Tryz.ntmps203
  go_wp2
  go_loopw [6,22] (fun cc i wr=> ∃(k:Nat) (c:Int) (out:List Int),k≤zs.length∧out.length=k∧i= .int .i64 k∧cc= .int .u64 c∧0≤c∧c≤1∧Hid (carryD 4294967296 (sumsL zs ys) 0=out++carryD 4294967296 (sumsL (zs.drop k) (ys.drop k)) c)∧Hid (carryO 4294967296 (sumsL zs ys) 0=carryO 4294967296 (sumsL (zs.drop k) (ys.drop k)) c)∧
   Own .u32 wr w.heap.size 0 (out++List.replicate (zs.length+1-k) 0)∧Below w.heap.size w wr) (fun _ i _=>zs.length-(intOf i).toNat)
  case atStart=>exact ⟨0,0,[],Nat.zero_le _,rfl,rfl,rfl,by decide,by decide,rfl,rfl,by simpa using Own.made w (zs.length+1) _,bel0 _ _⟩
  case round=>
   obtain ⟨k,c,out,hk,hol,rfl,rfl,hc0,hc1,hD,hO,hown,hnx⟩:=hrel
   by_cases hlt:k<zs.length
   ·have hb1:=hdz.at (by decide) k
    have hb2:=hdy.at (by decide) k
    obtain ⟨b,off,rfl,g1⟩:=row_cell hz hnx hlt
    obtain ⟨x,hx⟩: ∃x,x=zs.getD k 0:=⟨_,rfl⟩
    obtain ⟨y,hyy⟩: ∃y,y=ys.getD k 0:=⟨_,rfl⟩
    rw [←hx] at hb1 g1
    rw [←hyy] at hb2
    obtain ⟨hb10,hb11⟩:=hb1
    obtain ⟨hb20,hb21⟩:=hb2
    have g3:=hown.cell k (by simp;omega)
    have g4:=hown.free k (by simp;omega)
    rw [Nat.zero_add] at g3 g4
    by_cases h2:k<ys.length
    ·obtain ⟨b',off',rfl,g2⟩:=row_cell hy hnx h2
     rw [←hyy] at g2
     have hst:=carryDO_sums (B:=4294967296) (xs:=zs) (ys:=ys) (k:=k) (c:=c) (s:=c+x+y) (.inl hlt) (by rw [←hx,←hyy];omega)
     have HD:Hid (carryD 4294967296 (sumsL zs ys) 0=(out++[(c+x+y)%4294967296])++carryD 4294967296 (sumsL (zs.drop (k+1)) (ys.drop (k+1))) ((c+x+y)/4294967296)):=by unfold Hid;rw [hD.out,hst.1];simp
     have HO:Hid (carryO 4294967296 (sumsL zs ys) 0=carryO 4294967296 (sumsL (zs.drop (k+1)) (ys.drop (k+1))) ((c+x+y)/4294967296)):=by unfold Hid;rw [hO.out,hst.2]
     have hs:=hown.set k ((c+x+y)%4294967296) (by simp;omega)
     rw [Nat.zero_add,own_step hol hlt] at hs
     have HS:Hid (Own .u32 (wr.setCell ⟨w.heap.size,k,none⟩ (.int .u32 ((c+x+y)%4294967296))) w.heap.size 0 ((out++[(c+x+y)%4294967296])++List.replicate (zs.length+1-(k+1)) 0)):=hs
     have HB:Hid (Below w.heap.size w (wr.setCell ⟨w.heap.size,k,none⟩ (.int .u32 ((c+x+y)%4294967296)))):=hnx.setCell (Nat.le_refl _) _
     clear hst hs hx hyy hD hO hown hnx hz hy hdz hdy
     go_wp2
     go_roundw
     case rel=>exact ⟨k+1,(c+x+y)/4294967296,out++[(c+x+y)%4294967296],by omega,by simp;omega,by go_num,rfl,by omega,by omega,HD,HO,HS.out,HB.out⟩
     case measure=>simp [intOf];omega
    ·have hy0:y=0:=by rw [hyy];exact getD_out h2
     have hst:=carryDO_sums (B:=4294967296) (xs:=zs) (ys:=ys) (k:=k) (c:=c) (s:=c+x) (.inl hlt) (by rw [←hx,←hyy];omega)
     have HD:Hid (carryD 4294967296 (sumsL zs ys) 0=(out++[(c+x)%4294967296])++carryD 4294967296 (sumsL (zs.drop (k+1)) (ys.drop (k+1))) ((c+x)/4294967296)):=by unfold Hid;rw [hD.out,hst.1];simp
     have HO:Hid (carryO 4294967296 (sumsL zs ys) 0=carryO 4294967296 (sumsL (zs.drop (k+1)) (ys.drop (k+1))) ((c+x)/4294967296)):=by unfold Hid;rw [hO.out,hst.2]
     have hs:=hown.set k ((c+x)%4294967296) (by simp;omega)
     rw [Nat.zero_add,own_step hol hlt] at hs
     have HS:Hid (Own .u32 (wr.setCell ⟨w.heap.size,k,none⟩ (.int .u32 ((c+x)%4294967296))) w.heap.size 0 ((out++[(c+x)%4294967296])++List.replicate (zs.length+1-(k+1)) 0)):=hs
     have HB:Hid (Below w.heap.size w (wr.setCell ⟨w.heap.size,k,none⟩ (.int .u32 ((c+x)%4294967296)))):=hnx.setCell (Nat.le_refl _) _
     clear hst hs hx hyy hD hO hown hnx hz hy hdz hdy hy0
     go_wp2
     go_roundw
     case rel=>exact ⟨k+1,(c+x)/4294967296,out++[(c+x)%4294967296],by omega,by simp;omega,by go_num,rfl,by omega,by omega,HD,HO,HS.out,HB.out⟩
     case measure=>simp [intOf];omega
   ·have hkn:k=zs.length:=by omega
    subst hkn
    have g3:=hown.cell zs.length (by simp;omega)
    have g4:=hown.free zs.length (by simp;omega)
    rw [Nat.zero_add] at g3 g4
    have hs:=hown.set zs.length c (by simp;omega)
    rw [Nat.zero_add,own_last hol] at hs
    have hDD:carryD 4294967296 (sumsL zs ys) 0=out:=by
     rw [hD.out,List.drop_eq_nil_of_le (Nat.le_refl _),List.drop_eq_nil_of_le (show ys.length≤zs.length by omega)];simp [sumsL,carryD]
    have hOO:carryO 4294967296 (sumsL zs ys) 0=c:=by
     rw [hO.out,List.drop_eq_nil_of_le (Nat.le_refl _),List.drop_eq_nil_of_le (show ys.length≤zs.length by omega)];simp [sumsL,carryO]
    have hV:val 4294967296 (out++[c])=val 4294967296 zs+val 4294967296 ys:=by rw [←hDD,←hOO,val_carryDO,val_sums];omega
    have hG:Dig 4294967296 (out++[c]):=by
     refine Dig.append ?_ (Dig.cons hc0 (by omega) (Dig.nil _))
     rw [←hDD]
     exact dig_carryD (by decide) _ _
    have HV:Hid (val 4294967296 (out++[c])=val 4294967296 zs+val 4294967296 ys):=hV
    have HG:Hid (Dig 4294967296 (out++[c])):=hG
    have HL:Hid (out.length=zs.length):=hol
    have HS:Hid (Own .u32 (wr.setCell ⟨w.heap.size,zs.length,none⟩ c) w.heap.size 0 (out++[c])):=hs
    have HB:Hid (Below w.heap.size w (wr.setCell ⟨w.heap.size,zs.length,none⟩ c)):=hnx.setCell (Nat.le_refl _) _
    clear hs hV hG hDD hOO hD hO hown hnx hz hy hdz hdy hol
    go_wp2_with fail
    have e1:zs.length+1=(out++[c]).length:=by simp [HL.out]
    rw [e1]
    refine (trimmed_any _ _ (out++[c]) _ w.heap.size (by rw [←e1];omega) (by rw [←e1];unfold maxLen;omega) (Nat.le_refl _) (fun h=>by cases h) (HS.out.new (Nat.le_refl _))).mono ?_
    rintro e w1 ⟨a2,c2,rfl,hf2,hm2,hr2,hw⟩
    subst hw
    have HM:Hid (MagOut w (val 4294967296 zs+val 4294967296 ys) (zs.length+ys.length+1) (.returned (.slice a2 (trimL (out++[c])).length c2)) (wr.setCell ⟨w.heap.size,zs.length,none⟩ c)):=by
     refine ⟨a2,c2,trimL (out++[c]),rfl,hf2,hm2,canon_trim HG.out,by rw [val_trim,HV.out],?_,hr2,HB.out⟩
     have:=trim_le (out++[c])
     rw [←e1] at this
     omega
    clear hf2 hm2 hr2 HG HV HB HS e1
    go_wp2
    go_ret
    exact HM.out
theorem plus_any (a a':Option Addr) (p p':Nat) (zs ys:List Int) (w:World) (hn:zs.length≤100000) (hn':ys.length≤100000) (hz:RowAt .u32 w a zs) (hy:RowAt .u32 w a' ys) (hdz:Dig 4294967296 zs) (hdy:Dig 4294967296 ys):
 Calls Tryz.prog 203 #[.slice a zs.length p,.slice a' ys.length p'] w fun e w'=>MagOut w (val 4294967296 zs+val 4294967296 ys) (zs.length+ys.length+1) e w':=by
 by_cases h:ys.length≤zs.length
 ·exact (plus_both a a' p p' zs ys w hn hn' hz hy hdz hdy).1 h
 ·have:=(plus_both a' a p' p ys zs w hn' hn hy hz hdy hdz).2 (by omega)
  rw [Int.add_comm,Nat.add_comm zs.length]
  exact this
theorem fill_next {out:List Int} {n k:Nat} {d:Int} (h:out.length=k) (hk:k<n):(out++List.replicate (n-k) 0).set k d=(out++[d])++List.replicate (n-(k+1)) 0:=by
 rw [show n-k=(n-(k+1))+1 by omega,List.replicate_succ,set_mid h]
 simp
theorem wrap_low {z:Int} (h0: -8589934592<z) (h1:z<0) (h2: -4294967296≤z):IntKind.u64.wrap z%4294967296=z+4294967296∧IntKind.u64.wrap z/9223372036854775808=1:=by
 rw [IntKind.wrap_u64]
 omega
theorem minus_any (a a':Option Addr) (p p':Nat) (zs ys:List Int) (w:World) (hn:zs.length≤100000) (hz:RowAt .u32 w a zs) (hy:RowAt .u32 w a' ys) (hdz:Dig 4294967296 zs) (hdy:Dig 4294967296 ys) (hle:ys.length≤zs.length) (hv:val 4294967296 ys≤val 4294967296 zs):
 Calls Tryz.prog 139 #[.slice a zs.length p,.slice a' ys.length p'] w fun e w'=>MagOut w (val 4294967296 zs-val 4294967296 ys) zs.length e w':=by
 have HVV:Hid (val 4294967296 (carryD 4294967296 (diffsL zs ys) 0)=val 4294967296 zs-val 4294967296 ys):=val_sub (by decide) hdz hdy hle hv
 have hmk:=run_make_row' (P:=Tryz.prog) 152 22 (.int .u32 0) 4 Tryz.underlying152 Tryz.info22 rfl .i64 .i64 zs.length (by omega) (by omega)
 clear hv
 go_enter Tryz.func139,Tryz.ntmps139
 go_wp2
 go_loopw [6,16] (fun cc i wr=> ∃(k:Nat) (c:Int) (out:List Int),k≤zs.length∧out.length=k∧i= .int .i64 k∧cc= .int .u64 c∧0≤c∧c≤1∧Hid (carryD 4294967296 (diffsL zs ys) 0=out++carryD 4294967296 (diffsL (zs.drop k) (ys.drop k)) (-c))∧
  Own .u32 wr w.heap.size 0 (out++List.replicate (zs.length-k) 0)∧Below w.heap.size w wr) (fun _ i _=>zs.length-(intOf i).toNat)
 case atStart=>exact ⟨0,0,[],Nat.zero_le _,rfl,rfl,rfl,by decide,by decide,rfl,by simpa using Own.made w zs.length _,bel0 _ _⟩
 case round=>
  obtain ⟨k,c,out,hk,hol,rfl,rfl,hc0,hc1,hD,hown,hnx⟩:=hrel
  by_cases hlt:k<zs.length
  ·have hb1:=hdz.at (by decide) k
   have hb2:=hdy.at (by decide) k
   obtain ⟨b,off,rfl,g1⟩:=row_cell hz hnx hlt
   obtain ⟨x,hx⟩: ∃x,x=zs.getD k 0:=⟨_,rfl⟩
   obtain ⟨y,hyy⟩: ∃y,y=ys.getD k 0:=⟨_,rfl⟩
   rw [←hx] at hb1 g1
   rw [←hyy] at hb2
   obtain ⟨hb10,hb11⟩:=hb1
   obtain ⟨hb20,hb21⟩:=hb2
   have g3:=hown.cell k (by simp;omega)
   have g4:=hown.free k (by simp;omega)
   rw [Nat.zero_add] at g3 g4
   by_cases h2:k<ys.length
   ·obtain ⟨b',off',rfl,g2⟩:=row_cell hy hnx h2
    rw [←hyy] at g2
    by_cases hv:x<c+y
    ·have hst:=sub_step (B:=4294967296) (xs:=zs) (ys:=ys) (s:=x-c-y) (c:= -c) hlt (by rw [←hx,←hyy];omega)
     have HW:Hid (IntKind.u64.wrap (x-(c+y))%4294967296=x-(c+y)+4294967296∧IntKind.u64.wrap (x-(c+y))/9223372036854775808=1):=wrap_low (by omega) (by omega) (by omega)
     rw [show (x-c-y)%4294967296=x-(c+y)+4294967296 by omega,show (x-c-y)/4294967296= -1 by omega] at hst
     have HD:Hid (carryD 4294967296 (diffsL zs ys) 0=(out++[x-(c+y)+4294967296])++carryD 4294967296 (diffsL (zs.drop (k+1)) (ys.drop (k+1))) (-1)):=by unfold Hid;rw [hD.out,hst];simp
     have hs:=hown.set k (x-(c+y)+4294967296) (by simp;omega)
     rw [Nat.zero_add,fill_next hol hlt] at hs
     have HS:Hid (Own .u32 (wr.setCell ⟨w.heap.size,k,none⟩ (.int .u32 (x-(c+y)+4294967296))) w.heap.size 0 ((out++[x-(c+y)+4294967296])++List.replicate (zs.length-(k+1)) 0)):=hs
     have HB:Hid (Below w.heap.size w (wr.setCell ⟨w.heap.size,k,none⟩ (.int .u32 (x-(c+y)+4294967296)))):=hnx.setCell (Nat.le_refl _) _
     clear hst hs hx hyy hD hown hnx hz hy hdz hdy
     go_wp2
     go_roundw
     case rel=>exact ⟨k+1,1,out++[x-(c+y)+4294967296],by omega,by simp;omega,by go_num,by rw [HW.out.2],by omega,by omega,HD,by rw [HW.out.1];exact HS.out,by rw [HW.out.1];exact HB.out⟩
     case measure=>simp [intOf];omega
    ·have hst:=sub_step (B:=4294967296) (xs:=zs) (ys:=ys) (s:=x-c-y) (c:= -c) hlt (by rw [←hx,←hyy];omega)
     rw [show (x-c-y)%4294967296=x-(c+y) by omega,show (x-c-y)/4294967296= -0 by omega] at hst
     have HD:Hid (carryD 4294967296 (diffsL zs ys) 0=(out++[x-(c+y)])++carryD 4294967296 (diffsL (zs.drop (k+1)) (ys.drop (k+1))) (-0)):=by unfold Hid;rw [hD.out,hst];simp
     have hs:=hown.set k (x-(c+y)) (by simp;omega)
     rw [Nat.zero_add,fill_next hol hlt] at hs
     have HS:Hid (Own .u32 (wr.setCell ⟨w.heap.size,k,none⟩ (.int .u32 (x-(c+y)))) w.heap.size 0 ((out++[x-(c+y)])++List.replicate (zs.length-(k+1)) 0)):=hs
     have HB:Hid (Below w.heap.size w (wr.setCell ⟨w.heap.size,k,none⟩ (.int .u32 (x-(c+y))))):=hnx.setCell (Nat.le_refl _) _
     clear hst hs hx hyy hD hown hnx hz hy hdz hdy
     go_wp2
     go_roundw
     case rel=>exact ⟨k+1,0,out++[x-(c+y)],by omega,by simp;omega,by go_num,by go_num,by omega,by omega,HD,HS.out,HB.out⟩
     case measure=>simp [intOf];omega
   ·have hy0:y=0:=by rw [hyy];exact getD_out h2
    by_cases hv:x<c
    ·have hst:=sub_step (B:=4294967296) (xs:=zs) (ys:=ys) (s:=x-c) (c:= -c) hlt (by rw [←hx,←hyy];omega)
     have HW:Hid (IntKind.u64.wrap (x-c)%4294967296=x-c+4294967296∧IntKind.u64.wrap (x-c)/9223372036854775808=1):=wrap_low (by omega) (by omega) (by omega)
     rw [show (x-c)%4294967296=x-c+4294967296 by omega,show (x-c)/4294967296= -1 by omega] at hst
     have HD:Hid (carryD 4294967296 (diffsL zs ys) 0=(out++[x-c+4294967296])++carryD 4294967296 (diffsL (zs.drop (k+1)) (ys.drop (k+1))) (-1)):=by unfold Hid;rw [hD.out,hst];simp
     have hs:=hown.set k (x-c+4294967296) (by simp;omega)
     rw [Nat.zero_add,fill_next hol hlt] at hs
     have HS:Hid (Own .u32 (wr.setCell ⟨w.heap.size,k,none⟩ (.int .u32 (x-c+4294967296))) w.heap.size 0 ((out++[x-c+4294967296])++List.replicate (zs.length-(k+1)) 0)):=hs
     have HB:Hid (Below w.heap.size w (wr.setCell ⟨w.heap.size,k,none⟩ (.int .u32 (x-c+4294967296)))):=hnx.setCell (Nat.le_refl _) _
     clear hst hs hx hyy hD hown hnx hz hy hdz hdy hy0
     go_wp2
     go_roundw
     case rel=>exact ⟨k+1,1,out++[x-c+4294967296],by omega,by simp;omega,by go_num,by rw [HW.out.2],by omega,by omega,HD,by rw [HW.out.1];exact HS.out,by rw [HW.out.1];exact HB.out⟩
     case measure=>simp [intOf];omega
    ·have hst:=sub_step (B:=4294967296) (xs:=zs) (ys:=ys) (s:=x-c) (c:= -c) hlt (by rw [←hx,←hyy];omega)
     rw [show (x-c)%4294967296=x-c by omega,show (x-c)/4294967296= -0 by omega] at hst
     have HD:Hid (carryD 4294967296 (diffsL zs ys) 0=(out++[x-c])++carryD 4294967296 (diffsL (zs.drop (k+1)) (ys.drop (k+1))) (-0)):=by unfold Hid;rw [hD.out,hst];simp
     have hs:=hown.set k (x-c) (by simp;omega)
     rw [Nat.zero_add,fill_next hol hlt] at hs
     have HS:Hid (Own .u32 (wr.setCell ⟨w.heap.size,k,none⟩ (.int .u32 (x-c))) w.heap.size 0 ((out++[x-c])++List.replicate (zs.length-(k+1)) 0)):=hs
     have HB:Hid (Below w.heap.size w (wr.setCell ⟨w.heap.size,k,none⟩ (.int .u32 (x-c)))):=hnx.setCell (Nat.le_refl _) _
     clear hst hs hx hyy hD hown hnx hz hy hdz hdy hy0
     go_wp2
     go_roundw
     case rel=>exact ⟨k+1,0,out++[x-c],by omega,by simp;omega,by go_num,by go_num,by omega,by omega,HD,HS.out,HB.out⟩
     case measure=>simp [intOf];omega
  ·have hkn:k=zs.length:=by omega
   subst hkn
   have hDD:carryD 4294967296 (diffsL zs ys) 0=out:=by
    rw [hD.out,List.drop_eq_nil_of_le (Nat.le_refl _)];simp [diffsL,carryD]
   have hs:Own .u32 wr w.heap.size 0 out:=by simpa using hown
   have hG:Dig 4294967296 out:=by rw [←hDD];exact dig_carryD (by decide) _ _
   rw [hDD] at HVV
   have HG:Hid (Dig 4294967296 out):=hG
   have HL:Hid (out.length=zs.length):=hol
   have HS:Hid (Own .u32 wr w.heap.size 0 out):=hs
   have HB:Hid (Below w.heap.size w wr):=hnx
   clear hs hG hDD hD hown hnx hz hy hdz hdy hol
   go_wp2_with fail
   have e1:zs.length=out.length:=HL.out.symm
   rw [e1]
   refine (trimmed_any _ _ out _ w.heap.size (by omega) (by unfold maxLen;omega) (Nat.le_refl _) (fun h=>by cases h) (HS.out.new (Nat.le_refl _))).mono ?_
   rintro e w1 ⟨a2,c2,rfl,hf2,hm2,hr2,hw⟩
   subst hw
   have HM:Hid (MagOut w (val 4294967296 zs-val 4294967296 ys) zs.length (.returned (.slice a2 (trimL out).length c2)) w1):=by
    refine ⟨a2,c2,trimL out,rfl,hf2,hm2,canon_trim HG.out,by rw [val_trim,HVV.out],?_,hr2,HB.out⟩
    have:=trim_le out
    omega
   clear hf2 hm2 hr2 HG HVV HB HS e1
   go_wp2
   go_ret
   exact HM.out
theorem sum_same (g g':Bool) (a a':Option Addr) (c c':Nat) (zs ys:List Int) (x y:Int) (w:World) (hn:zs.length≤100000) (hn':ys.length≤100000) (hz:RowAt .u32 w a zs) (hy:RowAt .u32 w a' ys) (h:B1 g zs x) (h':B1 g' ys y) (hg:g=g'):
 Calls Tryz.prog 200 #[.agg #[g,.slice a zs.length c],.agg #[g',.slice a' ys.length c']] w fun e w'=>BigOut w (x+y) (zs.length+ys.length+1) e w':=by
 have HX:Hid (sg g (val 4294967296 zs+val 4294967296 ys)=x+y):=by
  unfold Hid
  rw [h.num,h'.num,hg]
  cases g'<;>simp [sg]
  omega
 have hgg:(g==g')=true:=by rw [hg];simp
 have hdz:=h.can.1
 have hdy:=h'.can.1
 clear hg h h'
 go_enter Tryz.func200,Tryz.ntmps200
 go_wp2
 obtain ⟨V0,hV0⟩: ∃V0,V0=(((w.alloc (.cells #[g,.slice a zs.length c] 31)).alloc (.cells #[g',.slice a' ys.length c'] 31)).alloc (.cells #[false,()] 31)):=⟨_,rfl⟩
 rw [←hV0]
 have F0:Hid (AddF w g g' (.slice a zs.length c) (.slice a' ys.length c') () V0):=by rw [hV0];exact AddF.start w g g' _ _ _ _ _ _
 clear hV0
 have s0:=F0.out.s.1
 have s1:=F0.out.s.2.1
 have s2:=F0.out.s.2.2.1
 have s3:=F0.out.s.2.2.2.1
 go_quiet (fail)
 have F1:Hid (AddF w g g' (.slice a zs.length c) (.slice a' ys.length c') () (V0.drewN nq)):=F0.out.later (below_drewN (Below.refl _ _) _)
 clear s0 s1 s2 s3 F0
 generalize V0.drewN nq=W0 at*
 have s0:=F1.out.s.1
 have s1:=F1.out.s.2.1
 have s2:=F1.out.s.2.2.1
 have s3:=F1.out.s.2.2.2.1
 have F:=F1
 clear F1
 go_wp2
 clear s0 s1 s2 s3
 go_region_held3 (fun w'=>w'.cell? ⟨w.heap.size,0,none⟩=some ↑g∧w'.cell? ⟨w.heap.size,1,none⟩=some (.slice a zs.length c)∧w'.cell? ⟨w.heap.size+1,0,none⟩=some ↑g'∧w'.cell? ⟨w.heap.size+1,1,none⟩=some (.slice a' ys.length c')∧Below (w.heap.size+1+1) W0 w')
  (first|exact addS_of F.out.s (Below.refl _ _).drew|exact addS_of F.out.s (by assumption)|exact addS_of F.out.s (Below.setCell (Below.setCell (by assumption) (by simp) _) (by simp) _))
  (first
   |(go_at_call 203;refine (plus_any a a' c c' zs ys _ hn hn' (hz.later F.out.bel.drew) (hy.later F.out.bel.drew) hdz hdy).mono ?_;rintro e w1 ⟨a2,c2,fs,rfl,hf2,hm2,hcan,hval,hlen,hrn1,hb1⟩;have hB1:Below W0.heap.size W0 w1:=(Below.refl _ _).drew.trans hb1;have hB1':Below (w.heap.size+1+1) W0 w1:=hB1.mono (by have:=F.out.le;omega))
   |(go_at_call 92;refine (signed_any g a2 fs.length c2 _).mono ?_;rintro e w2 ⟨rfl,hb2⟩;have hB2:Below W0.heap.size W0 w2:=hB1.trans (hb2.mono hB1.size);have hB2':Below (w.heap.size+1+1) W0 w2:=hB2.mono (by have:=F.out.le;omega);have hrn2:RowNew .u32 w2 W0.heap.size a2 fs:=RowNew.later hrn1 hb2;have F2:Hid (AddF w g g' (.slice a zs.length c) (.slice a' ys.length c') () w2):=F.out.later hB2;have r1:=F2.out.r1;have r2:=F2.out.r2;have r3:=F2.out.r3))
 have HR:Hid (RowNew .u32 w2 W0.heap.size a2 fs):=hrn2
 have HB:Hid (B1 (g && decide (0<fs.length)) fs (x+y)):=by unfold Hid;rw [←HX.out];exact B1.of_signed hcan hval
 clear hrn1 hrn2 hB1 hB1' hB2 hB2' hb1 hb2 hcan hval
 generalize (g && decide (0<fs.length))=g2 at*
 go_wp2
 refine bodyPost_ret (v:= .agg #[g2,.slice a2 fs.length c2]) (by simp [results,Tryz.results200,go_sem,r1,r2]) rfl ?_
 have hle:=F.out.le
 refine ⟨g2,a2,c2,fs,rfl,HB.out,by omega,?_,?_⟩
 ·exact ((HR.out.setLow (by simp;omega) _).setLow (by simp;omega) _).down (by omega)
 ·exact (F2.out.bel.setCell (by simp;omega) _).setCell (by simp;omega) _
theorem sum_ge (g g':Bool) (a a':Option Addr) (c c':Nat) (zs ys:List Int) (x y:Int) (w:World) (hn:zs.length≤100000) (hn':ys.length≤100000) (hz:RowAt .u32 w a zs) (hy:RowAt .u32 w a' ys) (h:B1 g zs x) (h':B1 g' ys y) (hg:g'= !g) (hcmp:0≤cmpL zs ys):
 Calls Tryz.prog 200 #[.agg #[g,.slice a zs.length c],.agg #[g',.slice a' ys.length c']] w fun e w'=>BigOut w (x+y) (zs.length+ys.length+1) e w':=by
 have hcc:=cmpL_ge (B:=4294967296) (by decide) h.can h'.can hcmp
 have HX:Hid (sg g (val 4294967296 zs-val 4294967296 ys)=x+y):=by
  unfold Hid
  rw [h.num,h'.num,hg]
  cases g<;>simp [sg]<;>omega
 have hgg:(g==g')=false:=by rw [hg];cases g<;>rfl
 have hdz:=h.can.1
 have hdy:=h'.can.1
 have hl1:=hcc.1
 have HV:Hid (val 4294967296 ys≤val 4294967296 zs):=hcc.2
 obtain ⟨cv,hcv⟩: ∃cv,cv=cmpL zs ys:=⟨_,rfl⟩
 have hcmp':0≤cv:=by omega
 have HC:Hid (cv=cmpL zs ys):=hcv
 clear hg h h' hcc hcv hcmp
 go_enter Tryz.func200,Tryz.ntmps200
 go_wp2
 obtain ⟨V0,hV0⟩: ∃V0,V0=(((w.alloc (.cells #[g,.slice a zs.length c] 31)).alloc (.cells #[g',.slice a' ys.length c'] 31)).alloc (.cells #[false,()] 31)):=⟨_,rfl⟩
 rw [←hV0]
 have F0:Hid (AddF w g g' (.slice a zs.length c) (.slice a' ys.length c') () V0):=by rw [hV0];exact AddF.start w g g' _ _ _ _ _ _
 clear hV0
 have s0:=F0.out.s.1
 have s1:=F0.out.s.2.1
 have s2:=F0.out.s.2.2.1
 have s3:=F0.out.s.2.2.2.1
 go_quiet (fail)
 have F1:Hid (AddF w g g' (.slice a zs.length c) (.slice a' ys.length c') () (V0.drewN nq)):=F0.out.later (below_drewN (Below.refl _ _) _)
 clear s0 s1 s2 s3 F0
 generalize V0.drewN nq=W0 at*
 have s0:=F1.out.s.1
 have s1:=F1.out.s.2.1
 have s2:=F1.out.s.2.2.1
 have s3:=F1.out.s.2.2.2.1
 go_wp2_with fail
 refine (order_any a a' c c' zs ys _ (by omega) (by omega) (hz.later F1.out.bel) (hy.later F1.out.bel)).mono ?_
 rintro e W1 ⟨rfl,hb0⟩
 rw [←HC.out]
 have F:=Hid.mk (F1.out.later hb0)
 clear hb0 s0 s1 s2 s3 F1
 go_wp2
 go_region_held3 (fun w'=>w'.cell? ⟨w.heap.size,0,none⟩=some ↑g∧w'.cell? ⟨w.heap.size,1,none⟩=some (.slice a zs.length c)∧w'.cell? ⟨w.heap.size+1,0,none⟩=some ↑g'∧w'.cell? ⟨w.heap.size+1,1,none⟩=some (.slice a' ys.length c')∧Below (w.heap.size+1+1) W1 w')
  (first|exact addS_of F.out.s (Below.refl _ _).drew|exact addS_of F.out.s (by assumption)|exact addS_of F.out.s (Below.setCell (Below.setCell (by assumption) (by simp) _) (by simp) _))
  (first
   |(go_at_call 139;refine (minus_any a a' c c' zs ys _ hn (hz.later F.out.bel.drew) (hy.later F.out.bel.drew) hdz hdy hl1 HV.out).mono ?_;rintro e w1 ⟨a2,c2,fs,rfl,hf2,hm2,hcan,hval,hlen,hrn1,hb1⟩;have hB1:Below W1.heap.size W1 w1:=(Below.refl _ _).drew.trans hb1;have hB1':Below (w.heap.size+1+1) W1 w1:=hB1.mono (by have:=F.out.le;omega))
   |(go_at_call 92;refine (signed_any g a2 fs.length c2 _).mono ?_;rintro e w2 ⟨rfl,hb2⟩;have hB2:Below W1.heap.size W1 w2:=hB1.trans (hb2.mono hB1.size);have hB2':Below (w.heap.size+1+1) W1 w2:=hB2.mono (by have:=F.out.le;omega);have hrn2:RowNew .u32 w2 W1.heap.size a2 fs:=RowNew.later hrn1 hb2;have F2:Hid (AddF w g g' (.slice a zs.length c) (.slice a' ys.length c') () w2):=F.out.later hB2;have r1:=F2.out.r1;have r2:=F2.out.r2;have r3:=F2.out.r3))
 have HR:Hid (RowNew .u32 w2 W1.heap.size a2 fs):=hrn2
 have HB:Hid (B1 (g && decide (0<fs.length)) fs (x+y)):=by unfold Hid;rw [←HX.out];exact B1.of_signed hcan hval
 clear hrn1 hrn2 hB1 hB1' hB2 hB2' hb1 hb2 hcan hval
 generalize (g && decide (0<fs.length))=g2 at*
 go_wp2
 refine bodyPost_ret (v:= .agg #[g2,.slice a2 fs.length c2]) (by simp [results,Tryz.results200,go_sem,r1,r2]) rfl ?_
 have hle:=F.out.le
 refine ⟨g2,a2,c2,fs,rfl,HB.out,by omega,?_,?_⟩
 ·exact ((HR.out.setLow (by simp;omega) _).setLow (by simp;omega) _).down (by omega)
 ·exact (F2.out.bel.setCell (by simp;omega) _).setCell (by simp;omega) _
theorem sum_lt (g g':Bool) (a a':Option Addr) (c c':Nat) (zs ys:List Int) (x y:Int) (w:World) (hn:zs.length≤100000) (hn':ys.length≤100000) (hz:RowAt .u32 w a zs) (hy:RowAt .u32 w a' ys) (h:B1 g zs x) (h':B1 g' ys y) (hg:g'= !g) (hcmp:cmpL zs ys<0):
 Calls Tryz.prog 200 #[.agg #[g,.slice a zs.length c],.agg #[g',.slice a' ys.length c']] w fun e w'=>BigOut w (x+y) (zs.length+ys.length+1) e w':=by
 have hcc:=cmpL_lt (B:=4294967296) (by decide) h.can h'.can hcmp
 have HX:Hid (sg g' (val 4294967296 ys-val 4294967296 zs)=x+y):=by
  unfold Hid
  rw [h.num,h'.num,hg]
  cases g<;>simp [sg]<;>omega
 have hgg:(g==g')=false:=by rw [hg];cases g<;>rfl
 have hdz:=h.can.1
 have hdy:=h'.can.1
 have hl1:=hcc.1
 have HV:Hid (val 4294967296 zs≤val 4294967296 ys):=hcc.2
 obtain ⟨cv,hcv⟩: ∃cv,cv=cmpL zs ys:=⟨_,rfl⟩
 have hcmp':cv<0:=by omega
 have HC:Hid (cv=cmpL zs ys):=hcv
 clear hg h h' hcc hcv hcmp
 go_enter Tryz.func200,Tryz.ntmps200
 go_wp2
 obtain ⟨V0,hV0⟩: ∃V0,V0=(((w.alloc (.cells #[g,.slice a zs.length c] 31)).alloc (.cells #[g',.slice a' ys.length c'] 31)).alloc (.cells #[false,()] 31)):=⟨_,rfl⟩
 rw [←hV0]
 have F0:Hid (AddF w g g' (.slice a zs.length c) (.slice a' ys.length c') () V0):=by rw [hV0];exact AddF.start w g g' _ _ _ _ _ _
 clear hV0
 have s0:=F0.out.s.1
 have s1:=F0.out.s.2.1
 have s2:=F0.out.s.2.2.1
 have s3:=F0.out.s.2.2.2.1
 go_quiet (fail)
 have F1:Hid (AddF w g g' (.slice a zs.length c) (.slice a' ys.length c') () (V0.drewN nq)):=F0.out.later (below_drewN (Below.refl _ _) _)
 clear s0 s1 s2 s3 F0
 generalize V0.drewN nq=W0 at*
 have s0:=F1.out.s.1
 have s1:=F1.out.s.2.1
 have s2:=F1.out.s.2.2.1
 have s3:=F1.out.s.2.2.2.1
 go_wp2_with fail
 refine (order_any a a' c c' zs ys _ (by omega) (by omega) (hz.later F1.out.bel) (hy.later F1.out.bel)).mono ?_
 rintro e W1 ⟨rfl,hb0⟩
 rw [←HC.out]
 have F:=Hid.mk (F1.out.later hb0)
 clear hb0 s0 s1 s2 s3 F1
 go_wp2
 go_region_held3 (fun w'=>w'.cell? ⟨w.heap.size,0,none⟩=some ↑g∧w'.cell? ⟨w.heap.size,1,none⟩=some (.slice a zs.length c)∧w'.cell? ⟨w.heap.size+1,0,none⟩=some ↑g'∧w'.cell? ⟨w.heap.size+1,1,none⟩=some (.slice a' ys.length c')∧Below (w.heap.size+1+1) W1 w')
  (first|exact addS_of F.out.s (Below.refl _ _).drew|exact addS_of F.out.s (by assumption)|exact addS_of F.out.s (Below.setCell (Below.setCell (by assumption) (by simp) _) (by simp) _))
  (first
   |(go_at_call 139;refine (minus_any a' a c' c ys zs _ hn' (hy.later F.out.bel.drew) (hz.later F.out.bel.drew) hdy hdz hl1 HV.out).mono ?_;rintro e w1 ⟨a2,c2,fs,rfl,hf2,hm2,hcan,hval,hlen,hrn1,hb1⟩;have hB1:Below W1.heap.size W1 w1:=(Below.refl _ _).drew.trans hb1;have hB1':Below (w.heap.size+1+1) W1 w1:=hB1.mono (by have:=F.out.le;omega))
   |(go_at_call 92;refine (signed_any g' a2 fs.length c2 _).mono ?_;rintro e w2 ⟨rfl,hb2⟩;have hB2:Below W1.heap.size W1 w2:=hB1.trans (hb2.mono hB1.size);have hB2':Below (w.heap.size+1+1) W1 w2:=hB2.mono (by have:=F.out.le;omega);have hrn2:RowNew .u32 w2 W1.heap.size a2 fs:=RowNew.later hrn1 hb2;have F2:Hid (AddF w g g' (.slice a zs.length c) (.slice a' ys.length c') () w2):=F.out.later hB2;have r1:=F2.out.r1;have r2:=F2.out.r2;have r3:=F2.out.r3))
 have HR:Hid (RowNew .u32 w2 W1.heap.size a2 fs):=hrn2
 have HB:Hid (B1 (g' && decide (0<fs.length)) fs (x+y)):=by unfold Hid;rw [←HX.out];exact B1.of_signed hcan hval
 clear hrn1 hrn2 hB1 hB1' hB2 hB2' hb1 hb2 hcan hval
 generalize (g' && decide (0<fs.length))=g2 at*
 go_wp2
 refine bodyPost_ret (v:= .agg #[g2,.slice a2 fs.length c2]) (by simp [results,Tryz.results200,go_sem,r1,r2]) rfl ?_
 have hle:=F.out.le
 refine ⟨g2,a2,c2,fs,rfl,HB.out,by omega,?_,?_⟩
 ·exact ((HR.out.setLow (by simp;omega) _).setLow (by simp;omega) _).down (by omega)
 ·exact (F2.out.bel.setCell (by simp;omega) _).setCell (by simp;omega) _
theorem sumOf_any (g g':Bool) (a a':Option Addr) (c c':Nat) (zs ys:List Int) (x y:Int) (w:World) (hn:zs.length≤100000) (hn':ys.length≤100000) (hz:RowAt .u32 w a zs) (hy:RowAt .u32 w a' ys) (h:B1 g zs x) (h':B1 g' ys y):
 Calls Tryz.prog 200 #[.agg #[g,.slice a zs.length c],.agg #[g',.slice a' ys.length c']] w fun e w'=>BigOut w (x+y) (zs.length+ys.length+1) e w':=by
 by_cases hg:g=g'
 ·exact sum_same g g' a a' c c' zs ys x y w hn hn' hz hy h h' hg
 ·have hg':g'= !g:=by cases g<;>cases g'<;>simp_all
  by_cases hc:0≤cmpL zs ys
  ·exact sum_ge g g' a a' c c' zs ys x y w hn hn' hz hy h h' hg' hc
  ·exact sum_lt g g' a a' c c' zs ys x y w hn hn' hz hy h h' hg' (by omega)
end Go.Proofs.YtfieffpobgcpmaaGreatDoor
