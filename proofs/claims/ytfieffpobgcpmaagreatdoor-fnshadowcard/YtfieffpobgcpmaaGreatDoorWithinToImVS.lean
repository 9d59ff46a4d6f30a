import Derived.Test.YtfieffpobgcpmaaGreatDoorBaseToNumS
import Derived.Deep.RegionHeld3
import Derived.Laws.MakeOwn
import Derived.Test.YtfieffpobgcpmaaGreatDoorDy2NumDNumFNumGS
import Derived.Laws.Entries
set_option maxRecDepth 100000
set_option maxHeartbeats 32000000
namespace Go.Proofs.YtfieffpobgcpmaaGreatDoor
open Go.RowKit Go.Proofs.Tryz
structure ψ5 (lo hi:Nat) (w w':World):Prop where
 os:w'.os=w.os
 tape:w'.tape=w.tape
 output:w'.output=w.output
 size:w'.heap.size=w.heap.size
 block: ∀k,(k<lo∨hi<=k)->w'.heap[k]? =w.heap[k]?
theorem ψ5.refl (lo hi:Nat) (w:World):ψ5 lo hi w w:=⟨rfl,rfl,rfl,rfl,fun _ _=>rfl⟩
theorem ψ5.setCell {lo hi:Nat} {a w:World} (h:ψ5 lo hi a w) {p:Addr} (h1:lo<=p.block) (h2:p.block<hi) (u:Value):ψ5 lo hi a (w.setCell p u):=
 ⟨h.os,h.tape,h.output,by simpa using h.size,fun k hk=>(Below.heap_setCell _ _ _ _ (by omega)).trans (h.block k hk)⟩
def χh (x:Int):Bool:=x%2147483648==0
def ζa (x y z:Int):Bool:=ψb x && ψb y && ψb z
def ζD (x y z:Int):Bool:=χh x && χh y && χh z
def ξA (zs:List Int) (i:Nat):Bool:=ζa (zs.getD (i*9) 0) (zs.getD (i*9+1) 0) (zs.getD (i*9+2) 0) && ζa (zs.getD (i*9+3) 0) (zs.getD (i*9+4) 0) (zs.getD (i*9+5) 0) && ζa (zs.getD (i*9+6) 0) (zs.getD (i*9+7) 0) (zs.getD (i*9+8) 0)
def ηr (zs:List Int) (i:Nat):Bool:=ζa (zs.getD (i*3) 0) (zs.getD (i*3+1) 0) (zs.getD (i*3+2) 0)
theorem ψD (P:Nat->Bool) (i:Nat):(List.range (i+1)).all P=((List.range i).all P && P i):=by
 rw [List.range_succ,List.all_append]
 simp
theorem ψj {P:Nat->Bool} {i n:Nat} (hi:i<n) (h:P i=false):(List.range n).all P=false:=by
 rw [List.all_eq_false]
 exact ⟨i,List.mem_range.2 hi,by simp [h]⟩
theorem ωe (x:Int) (w:World) (xa:0<=x) (xb:x<4294967296):
 Calls prog 101 #[x] w fun e w'=>e= .returned (.bool (ψb x))∧w'=w:=by
 go_enter func101,ntmps101
 go_wp2
 go_ret
 exact ⟨by unfold ψb;rfl,rfl⟩
theorem χi (x:Int) (w:World) (xa:0<=x) (xb:x<4294967296):
 Calls prog 111 #[x] w fun e w'=>e= .returned (.bool (χh x))∧w'=w:=by
 go_enter func111,ntmps111
 go_wp2
 go_ret
 exact ⟨by unfold χh;rfl,rfl⟩
theorem ξt (x y z:Int) (w:World) (xa:0<=x) (xb:x<4294967296) (ya:0<=y) (yb:y<4294967296) (za:0<=z) (zb:z<4294967296):
 Calls prog 57 #[.agg #[x,y,z]] w fun e w'=>e= .returned (.bool (ζa x y z))∧Below w.heap.size w w':=by
 go_enter func57,ntmps57
 go_wp2_with fail
 refine (ωe x _ xa xb).mono ?_
 rintro e w1 ⟨rfl,rfl⟩
 cases hx:ψb x
 ·go_wp2
  go_ret
  exact ⟨by simp [ζa,hx],ζc _ _⟩
 ·go_wp2_with fail
  refine (ωe y _ ya yb).mono ?_
  rintro e w2 ⟨rfl,rfl⟩
  cases hy:ψb y
  ·go_wp2
   go_ret
   exact ⟨by simp [ζa,hx,hy],ζc _ _⟩
  ·go_wp2_with fail
   refine (ωe z _ za zb).mono ?_
   rintro e w3 ⟨rfl,rfl⟩
   go_wp2
   go_ret
   exact ⟨by simp [ζa,hx,hy],ζc _ _⟩
theorem φi (x y z:Int) (w:World) (xa:0<=x) (xb:x<4294967296) (ya:0<=y) (yb:y<4294967296) (za:0<=z) (zb:z<4294967296):
 Calls prog 63 #[.agg #[x,y,z]] w fun e w'=>e= .returned (.bool (ζD x y z))∧Below w.heap.size w w':=by
 go_enter func63,ntmps63
 go_wp2_with fail
 refine (χi x _ xa xb).mono ?_
 rintro e w1 ⟨rfl,rfl⟩
 cases hx:χh x
 ·go_wp2
  go_ret
  exact ⟨by simp [ζD,hx],ζc _ _⟩
 ·go_wp2_with fail
  refine (χi y _ ya yb).mono ?_
  rintro e w2 ⟨rfl,rfl⟩
  cases hy:χh y
  ·go_wp2
   go_ret
   exact ⟨by simp [ζD,hx,hy],ζc _ _⟩
  ·go_wp2_with fail
   refine (χi z _ za zb).mono ?_
   rintro e w3 ⟨rfl,rfl⟩
   go_wp2
   go_ret
   exact ⟨by simp [ζD,hx,hy],ζc _ _⟩
theorem ηs (x0 x1 x2 x3 x4 x5 x6 x7 x8:Int) (w:World) (x0a:0<=x0) (x0b:x0<4294967296) (x1a:0<=x1) (x1b:x1<4294967296) (x2a:0<=x2) (x2b:x2<4294967296) (x3a:0<=x3) (x3b:x3<4294967296) (x4a:0<=x4) (x4b:x4<4294967296) (x5a:0<=x5) (x5b:x5<4294967296) (x6a:0<=x6) (x6b:x6<4294967296) (x7a:0<=x7) (x7b:x7<4294967296) (x8a:0<=x8) (x8b:x8<4294967296):
 Calls prog 30 #[.agg #[x0,x1,x2,x3,x4,x5,x6,x7,x8]] w fun e w'=>e= .returned (.bool (ζa x0 x1 x2 && ζa x3 x4 x5 && ζa x6 x7 x8))∧Below w.heap.size w w':=by
 go_enter func30,ntmps30
 go_wp2_with fail
 refine (ξt x0 x1 x2 _ x0a x0b x1a x1b x2a x2b).mono ?_
 rintro e w1 ⟨rfl,hb1⟩
 have c3:w1.cell? ⟨w.heap.size,3,none⟩=some ↑x3:=by rw [(ζj hb1).1 _ _ (by simp)];simp [go_sem]
 have c4:w1.cell? ⟨w.heap.size,4,none⟩=some ↑x4:=by rw [(ζj hb1).1 _ _ (by simp)];simp [go_sem]
 have c5:w1.cell? ⟨w.heap.size,5,none⟩=some ↑x5:=by rw [(ζj hb1).1 _ _ (by simp)];simp [go_sem]
 have c6:w1.cell? ⟨w.heap.size,6,none⟩=some ↑x6:=by rw [(ζj hb1).1 _ _ (by simp)];simp [go_sem]
 have c7:w1.cell? ⟨w.heap.size,7,none⟩=some ↑x7:=by rw [(ζj hb1).1 _ _ (by simp)];simp [go_sem]
 have c8:w1.cell? ⟨w.heap.size,8,none⟩=some ↑x8:=by rw [(ζj hb1).1 _ _ (by simp)];simp [go_sem]
 have B1:Below w.heap.size w w1:=(ζc _ _).trans (hb1.mono (by simp))
 have S1:w.heap.size<w1.heap.size:=by have:=hb1.size;simp at this;omega
 have HB1:Hid (Below w.heap.size w w1):=B1
 clear hb1 B1
 cases h1:ζa x0 x1 x2
 ·go_wp2
  go_ret
  exact ⟨by simp [h1],HB1.out⟩
 ·go_wp2_with fail
  refine (ξt x3 x4 x5 _ x3a x3b x4a x4b x5a x5b).mono ?_
  rintro e w2 ⟨rfl,hb2⟩
  replace c6:=((ζj hb2).1 _ _ S1).trans c6
  replace c7:=((ζj hb2).1 _ _ S1).trans c7
  replace c8:=((ζj hb2).1 _ _ S1).trans c8
  have HB2:Hid (Below w.heap.size w w2):=HB1.out.trans (hb2.mono HB1.out.size)
  clear hb2
  cases h2:ζa x3 x4 x5
  ·go_wp2
   go_ret
   exact ⟨by simp [h1,h2],HB2.out⟩
  ·go_wp2_with fail
   refine (ξt x6 x7 x8 _ x6a x6b x7a x7b x8a x8b).mono ?_
   rintro e w3 ⟨rfl,hb3⟩
   have HB3:Hid (Below w.heap.size w w3):=HB2.out.trans (hb3.mono HB2.out.size)
   clear hb3
   go_wp2
   go_ret
   exact ⟨by simp [h1,h2],HB3.out⟩
theorem κI (x0 x1 x2 x3 x4 x5:Int) (w:World) (x0a:0<=x0) (x0b:x0<4294967296) (x1a:0<=x1) (x1b:x1<4294967296) (x2a:0<=x2) (x2b:x2<4294967296) (x3a:0<=x3) (x3b:x3<4294967296) (x4a:0<=x4) (x4b:x4<4294967296) (x5a:0<=x5) (x5b:x5<4294967296):
 Calls prog 31 #[.agg #[x0,x1,x2,x3,x4,x5]] w fun e w'=>e= .returned (.bool (ζa x0 x1 x2 && ζa x3 x4 x5 && !(ζD x3 x4 x5)))∧Below w.heap.size w w':=by
 go_enter func31,ntmps31
 go_wp2_with fail
 refine (ξt x0 x1 x2 _ x0a x0b x1a x1b x2a x2b).mono ?_
 rintro e w1 ⟨rfl,hb1⟩
 have c3:w1.cell? ⟨w.heap.size,3,none⟩=some ↑x3:=by rw [(ζj hb1).1 _ _ (by simp)];simp [go_sem]
 have c4:w1.cell? ⟨w.heap.size,4,none⟩=some ↑x4:=by rw [(ζj hb1).1 _ _ (by simp)];simp [go_sem]
 have c5:w1.cell? ⟨w.heap.size,5,none⟩=some ↑x5:=by rw [(ζj hb1).1 _ _ (by simp)];simp [go_sem]
 have B1:Below w.heap.size w w1:=(ζc _ _).trans (hb1.mono (by simp))
 have S1:w.heap.size<w1.heap.size:=by have:=hb1.size;simp at this;omega
 have HB1:Hid (Below w.heap.size w w1):=B1
 clear hb1 B1
 cases h1:ζa x0 x1 x2
 ·go_wp2
  go_ret
  exact ⟨by simp [h1],HB1.out⟩
 ·go_wp2_with fail
  refine (ξt x3 x4 x5 _ x3a x3b x4a x4b x5a x5b).mono ?_
  rintro e w2 ⟨rfl,hb2⟩
  replace c3:=((ζj hb2).1 _ _ S1).trans c3
  replace c4:=((ζj hb2).1 _ _ S1).trans c4
  replace c5:=((ζj hb2).1 _ _ S1).trans c5
  have HB2:Hid (Below w.heap.size w w2):=HB1.out.trans (hb2.mono HB1.out.size)
  clear hb2
  cases h2:ζa x3 x4 x5
  ·go_wp2
   go_ret
   exact ⟨by simp [h1,h2],HB2.out⟩
  ·go_wp2_with fail
   refine (φi x3 x4 x5 _ x3a x3b x4a x4b x5a x5b).mono ?_
   rintro e w3 ⟨rfl,hb3⟩
   have HB3:Hid (Below w.heap.size w w3):=HB2.out.trans (hb3.mono HB2.out.size)
   clear hb3
   go_wp2
   go_ret
   exact ⟨by simp [h1,h2],HB3.out⟩
theorem κJ (n:Nat):n &&& 2139095040=n/8388608%256*8388608:=by
 apply Nat.eq_of_testBit_eq
 intro i
 rw [show (2139095040:Nat)=(2^8-1)<<<23 by decide,show n/8388608%256*8388608=((n>>>23)%2^8)<<<23 by rw [Nat.shiftLeft_eq,Nat.shiftRight_eq_div_pow]]
 simp only [Nat.testBit_and,Nat.testBit_shiftLeft,Nat.testBit_mod_two_pow,Nat.testBit_two_pow_sub_one,Nat.testBit_shiftRight]
 by_cases h:23<=i
 ·rw [show 23+(i-23)=i by omega]
  simp [h,Bool.and_comm]
 ·simp [h]
theorem σg {x:Int} (h0:0<=x) (h1:x<4294967296):(bits .and .u32 x 2139095040==2139095040)= !(ψb x):=by
 obtain ⟨n,rfl⟩:=Int.eq_ofNat_of_zero_le h0
 have e:bits .and .u32 (n:Int) 2139095040=((n &&& 2139095040:Nat):Int):=by
  have hl:n &&& 2139095040<4294967296:=Nat.lt_of_le_of_lt Nat.and_le_right (by decide)
  have e2:(BitVec.ofInt 32 (n:Int) &&& BitVec.ofInt 32 2139095040).toNat=n &&& 2139095040:=by
   rw [BitVec.toNat_and,BitVec.ofInt_natCast,BitVec.toNat_ofNat,Nat.mod_eq_of_lt (by omega)]
   rfl
  show IntKind.u32.wrap ((BitVec.ofInt 32 (n:Int) &&& BitVec.ofInt 32 2139095040).toNat:Int)=_
  rw [e2]
  simp only [IntKind.wrap,IntKind.bits,IntKind.signed]
  simp
  omega
 rw [e,κJ]
 unfold ψb
 by_cases h:(n:Int)/8388608%256=255
 ·have h2:n/8388608%256=255:=by omega
  rw [h2,h]
  decide
 ·have h2:n/8388608%256≠255:=by omega
  have h3:(((n/8388608%256*8388608:Nat):Int)==2139095040)=false:=by
   rw [beq_eq_false_iff_ne]
   omega
  have h4:((n:Int)/8388608%256 !=255)=true:=by rw [bne_iff_ne];exact h
  rw [h3,h4]
  rfl
theorem ωf (a:Option Addr) (c:Nat) (zs:List Int) (w:World) (hn:zs.length<=1000) (hz:ζk .u32 w a zs) (hu:U32 zs):
 Calls prog 106 #[.slice a zs.length c] w fun e w'=>e= .returned (.bool (zs.all ψb))∧Below w.heap.size w w':=by
 go_enter func106,ntmps106
 go_wp2
 go_loopw [4,7] (fun _ si wr=> ∃i:Nat,i<=zs.length∧si= .int .i64 i∧Hid ((zs.take i).all ψb=true)∧Below w.heap.size w wr) (fun _ si _=>zs.length-(intOf si).toNat)
 case atStart=>exact ⟨0,Nat.zero_le _,rfl,rfl,Below.refl _ _⟩
 case round=>
  obtain ⟨i,hi,rfl,hall,hnx⟩:=hrel
  have hz2:=hz.later hnx
  by_cases hlt:i<zs.length
  ·have hib:(i:Int)<zs.length:=by omega
   rcases hz2 with h| ⟨b,off,h1,h2,h3⟩
   ·subst h;simp at hlt
   subst h1
   have g0:=h3 i hlt
   obtain ⟨x,hx⟩: ∃x,x=zs.getD i 0:=⟨_,rfl⟩
   rw [<-hx] at g0
   have hmem:x∈zs:=by rw [hx,List.getD_eq_getElem?_getD,List.getElem?_eq_getElem hlt];exact List.getElem_mem hlt
   have hx0:=hu x hmem
   have HTK:Hid ((zs.take (i+1)).all ψb=ψb x):=by
    unfold Hid
    rw [List.take_succ_eq_append_getElem hlt,List.all_append,hall.out,hx]
    simp [List.getD_eq_getElem?_getD,hlt]
   have HBAD:Hid (ψb x=false->zs.all ψb=false):=by
    intro hf
    cases hall2:zs.all ψb
    ·rfl
    ·have:=List.all_eq_true.1 hall2 x hmem
     rw [hf] at this
     cases this
   have hm:=σg hx0.1 hx0.2
   have HN:Hid (Below w.heap.size w wr):=hnx
   clear hx hmem h3 hall hnx
   cases hf:ψb x
   ·rw [hf] at hm
    have hbad:=HBAD.out hf
    have HF:Hid (zs.all ψb=false):=hbad
    clear hbad
    go_wp2
    go_ret
    exact ⟨by rw [HF.out];rfl,HN.out⟩
   ·rw [hf] at hm
    go_wp2
    go_roundw
    case rel=>exact ⟨i+1,by omega,by simp,by unfold Hid;rw [HTK.out,hf],HN.out⟩
    case measure=>simp [intOf];omega
  ·have hie:i=zs.length:=by omega
   subst hie
   have HF:Hid (zs.all ψb=true):=by
    have:=hall.out
    rwa [List.take_length] at this
   have HN:Hid (Below w.heap.size w wr):=hnx
   clear hall hnx hz2
   go_wp2
   go_ret
   exact ⟨by rw [HF.out];rfl,HN.out⟩
theorem τ6 (w:World) (xs:List Int) (t:TypeId):ζk .u32 (w.alloc (.cells (xs.map (Value.int .u32 ·)).toArray t)) (some ⟨w.heap.size,0,none⟩) xs:=by
 refine .inr ⟨w.heap.size,0,rfl,by simp,fun j hj=> ?_⟩
 simp [List.getD_eq_getElem?_getD,hj]
theorem σh (w:World) (xs:List Int) (t:TypeId) {X:Nat} (hX:X=w.heap.size):ζk .u32 (w.alloc (.cells (xs.map (Value.int .u32 ·)).toArray t)) (some ⟨X,0,none⟩) xs:=by
 subst hX
 exact τ6 w xs t
theorem ξq (a:Option Addr) (n c:Nat) (zs:List Int) (w:World) (hn:n<=1048576) (hl:zs.length=n*3) (hu:U32 zs) (hz:ζk .u32 w a zs):
 Calls prog 59 #[.slice a n c] w fun e w'=>e= .returned (.bool ((List.range n).all (ηr zs)))∧Below w.heap.size w w':=by
 have HL:Hid (zs.length=n*3):=hl
 have HZ:Hid (ζk .u32 w a zs):=hz
 have HU:Hid (U32 zs):=hu
 clear hl hz hu
 go_enter func59,ntmps59
 go_wp2
 go_loopw [4,7] (fun _ si wr=> ∃(i:Nat),i<=n∧si= .int .i64 i∧Hid ((List.range i).all (ηr zs)=true)∧Hid (Below w.heap.size w wr)) (fun _ si _=>n-(intOf si).toNat)
 case atStart=>exact ⟨0,Nat.zero_le _,rfl,rfl,Below.refl _ _⟩
 case round=>
  obtain ⟨i,hi,rfl,hA,hb⟩:=hrel
  by_cases hlt:i<n
  ·have hle: ∀j,j<3->i*3+j<zs.length:=by intro j hj;rw [HL.out];omega
   obtain ⟨b,off,rfl,hbl,hc⟩:=HZ.out.resolve_left (by intro h;have:=hle 0 (by omega);rw [h] at this;simp at this)
   obtain ⟨x0,hx0⟩: ∃x,x=zs.getD (i*3) 0:=⟨_,rfl⟩
   have q0:wr.cell? ⟨b,off+i*3,none⟩=some ↑x0:=by
    have:=(hb.out.cell (p:=⟨b,off+(i*3+0),none⟩) hbl).trans (hc (i*3+0) (hle 0 (by omega)))
    rw [hx0]
    simpa [Nat.add_assoc] using this
   have x0a:0<=x0:=by rw [hx0];exact (HU.out.at _).1
   have x0b:x0<4294967296:=by rw [hx0];exact (HU.out.at _).2
   obtain ⟨x1,hx1⟩: ∃x,x=zs.getD (i*3+1) 0:=⟨_,rfl⟩
   have q1:wr.cell? ⟨b,off+i*3+1,none⟩=some ↑x1:=by
    have:=(hb.out.cell (p:=⟨b,off+(i*3+1),none⟩) hbl).trans (hc (i*3+1) (hle 1 (by omega)))
    rw [hx1]
    simpa [Nat.add_assoc] using this
   have x1a:0<=x1:=by rw [hx1];exact (HU.out.at _).1
   have x1b:x1<4294967296:=by rw [hx1];exact (HU.out.at _).2
   obtain ⟨x2,hx2⟩: ∃x,x=zs.getD (i*3+2) 0:=⟨_,rfl⟩
   have q2:wr.cell? ⟨b,off+i*3+2,none⟩=some ↑x2:=by
    have:=(hb.out.cell (p:=⟨b,off+(i*3+2),none⟩) hbl).trans (hc (i*3+2) (hle 2 (by omega)))
    rw [hx2]
    simpa [Nat.add_assoc] using this
   have x2a:0<=x2:=by rw [hx2];exact (HU.out.at _).1
   have x2b:x2<4294967296:=by rw [hx2];exact (HU.out.at _).2
   have HX:Hid (ηr zs i=([x0,x1,x2].all ψb)):=by unfold Hid;rw [hx0,hx1,hx2];simp [ηr,ζa,Bool.and_assoc]
   have hib:(i:Int)<n:=by omega
   clear hc hle hx0 hx1 hx2
   go_wp2_with fail
   refine (ωf (some ⟨wr.heap.size+1,0,none⟩) 3 [x0,x1,x2] _ (by simp) (σh _ [x0,x1,x2] _ (by simp)) (by intro x hx;simp at hx;rcases hx with rfl|rfl|rfl<;>(constructor<;>assumption))).mono ?_
   rintro e w1 ⟨rfl,hb1⟩
   have HB1:Hid (Below w.heap.size w w1):=hb.out.trans ((ξr _ _ _).trans (hb1.mono (by simp<;>omega))|>.mono hb.out.size)
   clear hb1 hb q0 x0a x0b q1 x1a x1b q2 x2a x2b
   rw [<-HX.out]
   cases hT:ηr zs i
   ·go_wp2
    go_ret
    exact ⟨ξj (by rw [ψj hlt hT]),HB1.out⟩
   ·go_wp2
    go_roundw
    case rel=>exact ⟨i+1,by omega,by go_num,by unfold Hid;rw [ψD,hA.out,hT];rfl,HB1⟩
    case measure=>simp [intOf];omega
  ·have hie:i=n:=by omega
   subst hie
   have HA:=hA.out
   go_wp2
   go_ret
   exact ⟨ξj HA.symm,hb.out⟩
theorem ζU (a:Option Addr) (n c:Nat) (zs:List Int) (w:World) (hn:n<=1048576) (hl:zs.length=n*9) (hu:U32 zs) (hz:ζk .u32 w a zs):
 Calls prog 37 #[.slice a n c] w fun e w'=>e= .returned (.bool ((List.range n).all (ξA zs)))∧Below w.heap.size w w':=by
 have HL:Hid (zs.length=n*9):=hl
 have HZ:Hid (ζk .u32 w a zs):=hz
 have HU:Hid (U32 zs):=hu
 clear hl hz hu
 go_enter func37,ntmps37
 go_wp2
 go_loopw [4,7] (fun _ si wr=> ∃(i:Nat),i<=n∧si= .int .i64 i∧Hid ((List.range i).all (ξA zs)=true)∧Hid (Below w.heap.size w wr)) (fun _ si _=>n-(intOf si).toNat)
 case atStart=>exact ⟨0,Nat.zero_le _,rfl,rfl,Below.refl _ _⟩
 case round=>
  obtain ⟨i,hi,rfl,hA,hb⟩:=hrel
  by_cases hlt:i<n
  ·have hle: ∀j,j<9->i*9+j<zs.length:=by intro j hj;rw [HL.out];omega
   obtain ⟨b,off,rfl,hbl,hc⟩:=HZ.out.resolve_left (by intro h;have:=hle 0 (by omega);rw [h] at this;simp at this)
   obtain ⟨x0,hx0⟩: ∃x,x=zs.getD (i*9) 0:=⟨_,rfl⟩
   have q0:wr.cell? ⟨b,off+i*9,none⟩=some ↑x0:=by
    have:=(hb.out.cell (p:=⟨b,off+(i*9+0),none⟩) hbl).trans (hc (i*9+0) (hle 0 (by omega)))
    rw [hx0]
    simpa [Nat.add_assoc] using this
   have x0a:0<=x0:=by rw [hx0];exact (HU.out.at _).1
   have x0b:x0<4294967296:=by rw [hx0];exact (HU.out.at _).2
   obtain ⟨x1,hx1⟩: ∃x,x=zs.getD (i*9+1) 0:=⟨_,rfl⟩
   have q1:wr.cell? ⟨b,off+i*9+1,none⟩=some ↑x1:=by
    have:=(hb.out.cell (p:=⟨b,off+(i*9+1),none⟩) hbl).trans (hc (i*9+1) (hle 1 (by omega)))
    rw [hx1]
    simpa [Nat.add_assoc] using this
   have x1a:0<=x1:=by rw [hx1];exact (HU.out.at _).1
   have x1b:x1<4294967296:=by rw [hx1];exact (HU.out.at _).2
   obtain ⟨x2,hx2⟩: ∃x,x=zs.getD (i*9+2) 0:=⟨_,rfl⟩
   have q2:wr.cell? ⟨b,off+i*9+2,none⟩=some ↑x2:=by
    have:=(hb.out.cell (p:=⟨b,off+(i*9+2),none⟩) hbl).trans (hc (i*9+2) (hle 2 (by omega)))
    rw [hx2]
    simpa [Nat.add_assoc] using this
   have x2a:0<=x2:=by rw [hx2];exact (HU.out.at _).1
   have x2b:x2<4294967296:=by rw [hx2];exact (HU.out.at _).2
   obtain ⟨x3,hx3⟩: ∃x,x=zs.getD (i*9+3) 0:=⟨_,rfl⟩
   have q3:wr.cell? ⟨b,off+i*9+3,none⟩=some ↑x3:=by
    have:=(hb.out.cell (p:=⟨b,off+(i*9+3),none⟩) hbl).trans (hc (i*9+3) (hle 3 (by omega)))
    rw [hx3]
    simpa [Nat.add_assoc] using this
   have x3a:0<=x3:=by rw [hx3];exact (HU.out.at _).1
   have x3b:x3<4294967296:=by rw [hx3];exact (HU.out.at _).2
   obtain ⟨x4,hx4⟩: ∃x,x=zs.getD (i*9+4) 0:=⟨_,rfl⟩
   have q4:wr.cell? ⟨b,off+i*9+4,none⟩=some ↑x4:=by
    have:=(hb.out.cell (p:=⟨b,off+(i*9+4),none⟩) hbl).trans (hc (i*9+4) (hle 4 (by omega)))
    rw [hx4]
    simpa [Nat.add_assoc] using this
   have x4a:0<=x4:=by rw [hx4];exact (HU.out.at _).1
   have x4b:x4<4294967296:=by rw [hx4];exact (HU.out.at _).2
   obtain ⟨x5,hx5⟩: ∃x,x=zs.getD (i*9+5) 0:=⟨_,rfl⟩
   have q5:wr.cell? ⟨b,off+i*9+5,none⟩=some ↑x5:=by
    have:=(hb.out.cell (p:=⟨b,off+(i*9+5),none⟩) hbl).trans (hc (i*9+5) (hle 5 (by omega)))
    rw [hx5]
    simpa [Nat.add_assoc] using this
   have x5a:0<=x5:=by rw [hx5];exact (HU.out.at _).1
   have x5b:x5<4294967296:=by rw [hx5];exact (HU.out.at _).2
   obtain ⟨x6,hx6⟩: ∃x,x=zs.getD (i*9+6) 0:=⟨_,rfl⟩
   have q6:wr.cell? ⟨b,off+i*9+6,none⟩=some ↑x6:=by
    have:=(hb.out.cell (p:=⟨b,off+(i*9+6),none⟩) hbl).trans (hc (i*9+6) (hle 6 (by omega)))
    rw [hx6]
    simpa [Nat.add_assoc] using this
   have x6a:0<=x6:=by rw [hx6];exact (HU.out.at _).1
   have x6b:x6<4294967296:=by rw [hx6];exact (HU.out.at _).2
   obtain ⟨x7,hx7⟩: ∃x,x=zs.getD (i*9+7) 0:=⟨_,rfl⟩
   have q7:wr.cell? ⟨b,off+i*9+7,none⟩=some ↑x7:=by
    have:=(hb.out.cell (p:=⟨b,off+(i*9+7),none⟩) hbl).trans (hc (i*9+7) (hle 7 (by omega)))
    rw [hx7]
    simpa [Nat.add_assoc] using this
   have x7a:0<=x7:=by rw [hx7];exact (HU.out.at _).1
   have x7b:x7<4294967296:=by rw [hx7];exact (HU.out.at _).2
   obtain ⟨x8,hx8⟩: ∃x,x=zs.getD (i*9+8) 0:=⟨_,rfl⟩
   have q8:wr.cell? ⟨b,off+i*9+8,none⟩=some ↑x8:=by
    have:=(hb.out.cell (p:=⟨b,off+(i*9+8),none⟩) hbl).trans (hc (i*9+8) (hle 8 (by omega)))
    rw [hx8]
    simpa [Nat.add_assoc] using this
   have x8a:0<=x8:=by rw [hx8];exact (HU.out.at _).1
   have x8b:x8<4294967296:=by rw [hx8];exact (HU.out.at _).2
   have HX:Hid (ξA zs i=((List.range 3).all (ηr [x0,x1,x2,x3,x4,x5,x6,x7,x8]))):=by unfold Hid;rw [hx0,hx1,hx2,hx3,hx4,hx5,hx6,hx7,hx8];simp [List.range,List.range.loop,ξA,ηr,Bool.and_assoc]
   have hib:(i:Int)<n:=by omega
   clear hc hle hx0 hx1 hx2 hx3 hx4 hx5 hx6 hx7 hx8
   go_wp2_with fail
   refine (ξq (some ⟨wr.heap.size+1,0,none⟩) 3 3 [x0,x1,x2,x3,x4,x5,x6,x7,x8] _ (by decide) rfl (by intro x hx;simp at hx;rcases hx with rfl|rfl|rfl|rfl|rfl|rfl|rfl|rfl|rfl<;>(constructor<;>assumption)) (σh _ [x0,x1,x2,x3,x4,x5,x6,x7,x8] _ (by simp))).mono ?_
   rintro e w1 ⟨rfl,hb1⟩
   have HB1:Hid (Below w.heap.size w w1):=hb.out.trans ((ξr _ _ _).trans (hb1.mono (by simp<;>omega))|>.mono hb.out.size)
   clear hb1 hb q0 x0a x0b q1 x1a x1b q2 x2a x2b q3 x3a x3b q4 x4a x4b q5 x5a x5b q6 x6a x6b q7 x7a x7b q8 x8a x8b
   rw [<-HX.out]
   cases hT:ξA zs i
   ·go_wp2
    go_ret
    exact ⟨ξj (by rw [ψj hlt hT]),HB1.out⟩
   ·go_wp2
    go_roundw
    case rel=>exact ⟨i+1,by omega,by go_num,by unfold Hid;rw [ψD,hA.out,hT];rfl,HB1⟩
    case measure=>simp [intOf];omega
  ·have hie:i=n:=by omega
   subst hie
   have HA:=hA.out
   go_wp2
   go_ret
   exact ⟨ξj HA.symm,hb.out⟩
theorem ω7 {a b:Int} (a0:0<=a) (a1:a<4294967296) (b0:0<=b) (b1:b<4294967296): ∃n m:Nat,a=n∧b=m∧bits .or .u32 a b=((n|||m:Nat):Int)∧n|||m<4294967296:=by
 obtain ⟨n,rfl⟩:=Int.eq_ofNat_of_zero_le a0
 obtain ⟨m,rfl⟩:=Int.eq_ofNat_of_zero_le b0
 have hl:n|||m<4294967296:=Nat.or_lt_two_pow (n:=32) (by omega) (by omega)
 refine ⟨n,m,rfl,rfl,?_,hl⟩
 have e2:(BitVec.ofInt 32 (n:Int)|||BitVec.ofInt 32 (m:Int)).toNat=n|||m:=by
  rw [BitVec.toNat_or,BitVec.ofInt_natCast,BitVec.toNat_ofNat,BitVec.ofInt_natCast,BitVec.toNat_ofNat,Nat.mod_eq_of_lt (by omega),Nat.mod_eq_of_lt (by omega)]
 show IntKind.u32.wrap ((BitVec.ofInt 32 (n:Int)|||BitVec.ofInt 32 (m:Int)).toNat:Int)=_
 rw [e2]
 simp only [IntKind.wrap,IntKind.bits,IntKind.signed]
 simp
 omega
theorem zero_mod (n:Nat):χh (n:Int)=decide (n%2147483648=0):=by
 unfold χh
 by_cases h:n%2147483648=0
 ·simp [h];omega
 ·simp [h];omega
theorem τA (n m:Nat):(n|||m)%2147483648=(n%2147483648)||| (m%2147483648):=by
 rw [show (2147483648:Nat)=2^31 by decide,Nat.or_mod_two_pow]
theorem σi (n m:Nat):(n|||m=0)↔n=0∧m=0:=by
 constructor
 ·intro h
  have h1:n<=n|||m:=Nat.left_le_or
  have h2:m<=n|||m:=Nat.right_le_or
  omega
 ·rintro ⟨rfl,rfl⟩
  rfl
theorem κK {n:Nat} (h:n<4294967296):bits .andNot .u32 (n:Int) 2147483648=((n%2147483648:Nat):Int):=by
 have e2:(BitVec.ofInt 32 (n:Int) &&& ~~~ BitVec.ofInt 32 2147483648).toNat=n%2147483648:=by
  rw [BitVec.toNat_and,BitVec.ofInt_natCast,BitVec.toNat_ofNat,Nat.mod_eq_of_lt (by omega)]
  have:(~~~ BitVec.ofInt 32 2147483648).toNat=2^31-1:=by decide
  rw [this,Nat.and_two_pow_sub_one_eq_mod]
 show IntKind.u32.wrap ((BitVec.ofInt 32 (n:Int) &&& ~~~ BitVec.ofInt 32 2147483648).toNat:Int)=_
 rw [e2]
 simp only [IntKind.wrap,IntKind.bits,IntKind.signed]
 simp
 omega
theorem κL {x y z:Int} (xa:0<=x) (xb:x<4294967296) (ya:0<=y) (yb:y<4294967296) (za:0<=z) (zb:z<4294967296):(bits .andNot .u32 (bits .or .u32 (bits .or .u32 x y) z) 2147483648 !=0)= !(ζD x y z):=by
 obtain ⟨n,m,rfl,rfl,e1,l1⟩:=ω7 xa xb ya yb
 rw [e1]
 obtain ⟨p,q,e3,rfl,e2,l2⟩:=ω7 (a:=((n|||m:Nat):Int)) (by omega) (by omega) za zb
 have e4:p=n|||m:=by omega
 subst e4
 rw [e2,κK l2,τA,τA]
 unfold ζD
 rw [zero_mod,zero_mod,zero_mod]
 by_cases h:(n%2147483648|||m%2147483648)|||q%2147483648=0
 ·obtain ⟨h1,h2⟩:=(σi _ _).1 h
  obtain ⟨h3,h4⟩:=(σi _ _).1 h1
  rw [h,h3,h4,h2]
  decide
 ·have h5: ¬(n%2147483648=0∧m%2147483648=0∧q%2147483648=0):=by
   rintro ⟨q1,q2,q3⟩
   rw [q1,q2,q3] at h
   exact h (by decide)
  have h6:(((((n%2147483648|||m%2147483648)|||q%2147483648:Nat):Int)) !=0)=true:=by
   rw [bne_iff_ne]
   omega
  rw [h6]
  symm
  rw [Bool.not_eq_true',Bool.and_eq_false_iff,Bool.and_eq_false_iff]
  simp only [decide_eq_false_iff_not]
  omega
theorem ψr (x0 x1 x2 x3 x4 x5:Int) (w:World) (x0a:0<=x0) (x0b:x0<4294967296) (x1a:0<=x1) (x1b:x1<4294967296) (x2a:0<=x2) (x2b:x2<4294967296) (x3a:0<=x3) (x3b:x3<4294967296) (x4a:0<=x4) (x4b:x4<4294967296) (x5a:0<=x5) (x5b:x5<4294967296):
 Calls prog 38 #[.agg #[x0,x1,x2,x3,x4,x5]] w fun e w'=>e= .returned (.bool (ζa x0 x1 x2 && ζa x3 x4 x5 && !(ζD x3 x4 x5)))∧Below w.heap.size w w':=by
 have HW:Hid ((bits .andNot .u32 (bits .or .u32 (bits .or .u32 x3 x4) x5) 2147483648 !=0)= !(ζD x3 x4 x5)):=κL x3a x3b x4a x4b x5a x5b
 go_enter func38,ntmps38
 go_wp2_with fail
 refine (ξq (some ⟨w.heap.size+1,0,none⟩) 2 2 [x0,x1,x2,x3,x4,x5] _ (by decide) rfl (by intro x hx;simp at hx;rcases hx with rfl|rfl|rfl|rfl|rfl|rfl<;>(constructor<;>assumption)) (σh _ [x0,x1,x2,x3,x4,x5] _ (by simp))).mono ?_
 rintro e w1 ⟨rfl,hb1⟩
 have c3:w1.cell? ⟨w.heap.size,3,none⟩=some ↑x3:=by rw [(ζj hb1).1 _ _ (by simp<;>omega)];simp [go_sem]
 have c4:w1.cell? ⟨w.heap.size,4,none⟩=some ↑x4:=by rw [(ζj hb1).1 _ _ (by simp<;>omega)];simp [go_sem]
 have c5:w1.cell? ⟨w.heap.size,5,none⟩=some ↑x5:=by rw [(ζj hb1).1 _ _ (by simp<;>omega)];simp [go_sem]
 have HB1:Hid (Below w.heap.size w w1):=(ξr _ _ _).trans (hb1.mono (by simp<;>omega))
 have HX:Hid ((List.range 2).all (ηr [x0,x1,x2,x3,x4,x5])=(ζa x0 x1 x2 && ζa x3 x4 x5)):=by unfold Hid;simp [List.range,List.range.loop,ηr]
 rw [HX.out]
 clear hb1
 cases hp:(ζa x0 x1 x2 && ζa x3 x4 x5)
 ·go_wp2
  go_ret
  exact ⟨ξj (by first|rfl| (rw [hp];rfl)),HB1.out⟩
 ·have hw:=HW.out
  go_wp2
  go_ret
  exact ⟨ξj (by first|rfl| (rw [hp,Bool.true_and])| (rw [hp,Bool.true_and];exact hw)),HB1.out⟩
end Go.Proofs.YtfieffpobgcpmaaGreatDoor
