import Derived.Test.YtfieffpobgcpmaaGreatDoorBoxToNumSS
import Derived.Test.YtfieffpobgcpmaaGreatDoorBaseToNumS
import Derived.Laws.Entries
import Derived.LaidMore
import Derived.Stop.Joined
set_option maxRecDepth 100000
set_option maxHeartbeats 32000000
namespace Go.Proofs.YtfieffpobgcpmaaGreatDoor
open Go.RowKit Go.Proofs.Tryz
variable {ds:List Int} {k t:Nat}
def ρy (m:Int) (t:Nat):Prop:= ∃q:Int,m=2^t*q∧q%2=1
theorem ρz {b:Nat} {j:Nat} {o:Int} (hj:j<ds.length) (h0:val (2^b) (ds.take j)=0) (hd:ds.getD j 0=2^k*o) (ho:o%2=1) (hk:k<b):ρy (val (2^b) ds) (b*j+k):=by
 have hs:=φS (2^b) ds j (by omega)
 rw [h0,Int.zero_add] at hs
 have hh:val (2^b) (ds.drop j)=ds.getD j 0+2^b*val (2^b) (ds.drop (j+1)):=by
  rw [List.drop_eq_getElem_cons hj]
  simp [val,List.getD_eq_getElem?_getD,hj]
 refine ⟨o+2^(b-k)*val (2^b) (ds.drop (j+1)),?_,?_⟩
 ·have e:(2:Int)^b*val (2^b) (ds.drop (j+1))=2^k*(2^(b-k)*val (2^b) (ds.drop (j+1))):=by
   rw [<-Int.mul_assoc,<-Int.pow_add,show k+(b-k)=b by omega]
  rw [hs,hh,hd,Int.pow_add,Int.pow_mul,Int.mul_assoc,Int.mul_add (2^k) o,<-e]
 ·obtain ⟨c,hc⟩: ∃c,b-k=c+1:=⟨b-k-1,by omega⟩
  rw [hc,Int.pow_succ,Int.mul_comm (2^c) 2,Int.mul_assoc,Int.add_mul_emod_self_left]
  exact ho
theorem ρy.ediv {m:Int} (h:ρy m t):m=m/2^t*2^t∧(m/2^t)%2=1:=by
 obtain ⟨q,hq,h1⟩:=h
 have hp:(0:Int)<2^t:=Int.pow_pos (by decide)
 have e:m/2^t=q:=by rw [hq];exact Int.mul_ediv_cancel_left _ (by omega)
 rw [e]
 exact ⟨by rw [hq];exact Int.mul_comm _ _,h1⟩
theorem ωK {b:Nat} {v d:Int} (hd:d=2^k*v) (hv:0<v) (hlt:d<2^b):k<b:=by
 by_cases h:k<b
 ·exact h
 ·have h1:(2:Int)^b<=2^k:=φd (by omega)
  have h2:(2:Int)^k*1<=2^k*v:=Int.mul_le_mul_of_nonneg_left (by omega) (Int.le_of_lt (Int.pow_pos (by decide)))
  omega
theorem ψq {B:Int} (hB:0<B) {zs:List Int} (h:Dig B zs):ψp zs=false↔val B zs=0:=by
 have:=ψS hB h
 cases hz:ψp zs
 ·rw [hz] at this
  simp at this
  simp [this]
 ·rw [hz] at this
  simp at this
  simp [this]
theorem θu (k m t:Nat) (h:k &&& m=0):((2*k+1)<<<t) &&& ((2*m+1)<<<t)=2^t:=by
 rw [<-Nat.shiftLeft_and_distrib]
 have e:(2*k+1) &&& (2*m+1)=1:=by
  apply Nat.eq_of_testBit_eq
  intro i
  rw [Nat.testBit_and]
  cases i with
  |zero=>simp
  |succ i=>
   have h2:=congrArg (Nat.testBit · i) h
   simp only [Nat.testBit_and,Nat.zero_testBit] at h2
   rw [Nat.testBit_succ,Nat.testBit_succ,Nat.testBit_succ]
   rw [show (2*k+1)/2=k by omega,show (2*m+1)/2=m by omega,show 1/2=0 by omega,h2]
   simp
 rw [e,Nat.shiftLeft_eq,Nat.one_mul]
theorem σ8 (k n:Nat) (h:k<2^n):k &&& (2^n-(k+1))=0:=by
 apply Nat.eq_of_testBit_eq
 intro i
 rw [Nat.testBit_and,Nat.testBit_two_pow_sub_succ h,Nat.zero_testBit]
 cases k.testBit i<;>simp
theorem τM {x:Nat} (hx:x=2^t*(2*k+1)) (h1:x<4294967296):x &&& (4294967296-x)=2^t:=by
 have hp:0<2^t:=Nat.two_pow_pos _
 have ht:t<32:=by
  apply Nat.lt_of_not_le
  intro h
  have h2:2^32<=2^t:=Nat.pow_le_pow_right (by decide) h
  have h3:2^t*1<=2^t*(2*k+1):=Nat.mul_le_mul_left _ (by omega)
  omega
 have e1:(4294967296:Nat)=2^t*2^(32-t):=by rw [<-Nat.pow_add,show t+(32-t)=32 by omega]
 have e2:2^(32-t)=2*2^(31-t):=by rw [show 32-t=(31-t)+1 by omega,Nat.pow_succ];omega
 have hk:k<2^(31-t):=by
  have h2:2^t*(2*k+1)<2^t*(2*2^(31-t)):=by rw [<-hx,<-e2,<-e1];exact h1
  have:=Nat.lt_of_mul_lt_mul_left h2
  omega
 have e3:4294967296-x=(2*(2^(31-t)-(k+1))+1)<<<t:=by
  rw [Nat.shiftLeft_eq,e1,e2,hx,<-Nat.mul_sub,Nat.mul_comm]
  congr 1
  omega
 have e4:x=(2*k+1)<<<t:=by rw [Nat.shiftLeft_eq,hx,Nat.mul_comm]
 rw [e3]
 conv=>lhs;lhs;rw [e4]
 exact θu _ _ _ (σ8 _ _ hk)
theorem σ9 {x q:Int} (h0:0<x) (h1:x<4294967296) (hx:x=2^t*q) (hq:q%2=1):bits .and .u32 x (-x%4294967296)=2^t:=by
 obtain ⟨n,rfl⟩:=Int.eq_ofNat_of_zero_le (Int.le_of_lt h0)
 have hq0:0<q:=by
  have hp:(0:Int)<2^t:=Int.pow_pos (by decide)
  apply Int.lt_of_not_ge
  intro h
  have:2^t*q<=0:=Int.mul_nonpos_of_nonneg_of_nonpos (Int.le_of_lt hp) h
  omega
 obtain ⟨k,hk⟩: ∃k:Nat,q=2*(k:Int)+1:=⟨(q/2).toNat,by omega⟩
 have hn:n=2^t*(2*k+1):=by
  rw [hk] at hx
  have:(n:Int)=((2^t*(2*k+1):Nat):Int):=by rw [hx];push_cast;rfl
  exact Int.ofNat.inj this
 have hl:=τM hn (by omega)
 have e2:(BitVec.ofInt 32 (n:Int) &&& BitVec.ofInt 32 (-(n:Int)%4294967296)).toNat=n &&& (4294967296-n):=by
  rw [show-(n:Int)%4294967296=((4294967296-n:Nat):Int) by omega,BitVec.toNat_and,BitVec.ofInt_natCast,BitVec.ofInt_natCast,BitVec.toNat_ofNat,BitVec.toNat_ofNat,Nat.mod_eq_of_lt (by omega),Nat.mod_eq_of_lt (by omega)]
 show IntKind.u32.wrap ((BitVec.ofInt 32 (n:Int) &&& BitVec.ofInt 32 (-(n:Int)%4294967296)).toNat:Int)=_
 rw [e2,hl]
 have hlt:2^t<4294967296:=by
  have h3:2^t*1<=2^t*(2*k+1):=Nat.mul_le_mul_left _ (by omega)
  omega
 simp only [IntKind.wrap,IntKind.bits,IntKind.signed]
 simp
 have:((2^t:Nat):Int)=2^t:=by push_cast;rfl
 omega
theorem κa: ∀(n:Nat),0<n-> ∃t k:Nat,n=2^t*(2*k+1):=by
 intro n
 induction n using Nat.strongRecOn with
 |ind n ih=>
  intro hn
  by_cases h:n%2=1
  ·exact ⟨0,n/2,by omega⟩
  ·obtain ⟨t,k,e⟩:=ih (n/2) (by omega) (by omega)
   refine ⟨t+1,k,?_⟩
   rw [Nat.pow_succ,Nat.mul_comm (2^t) 2,Nat.mul_assoc,<-e]
   omega
def θv:List Int:=[0,1,28,2,29,14,24,3,30,22,20,15,25,17,4,8,31,27,13,23,21,19,16,7,26,12,18,6,11,5,10,9]
theorem τu: ∀t:Nat,t<32->((2:Int)^t*125613361%4294967296/134217728).toNat<32∧θv.getD ((2:Int)^t*125613361%4294967296/134217728).toNat 0=t:=by decide
structure Tab (w:World):Prop where
 lt:0<w.heap.size
 at_: ∀i,i<32->w.cell? ⟨0,i,none⟩=some (.int .u8 (θv.getD i 0))
theorem Tab.later {w w':World} (h:Tab w) (hb:Below w w w'):Tab w':=
 ⟨Nat.lt_of_lt_of_le h.lt hb.size,fun i hi=>(hb.cell (p:=⟨0,i,none⟩) h.lt).trans (h.at_ i hi)⟩
theorem νH (x:Int) (w:World) (h0:0<x) (h1:x<4294967296) (hT:Tab w):
 Calls prog 138 #[x] w fun e w'=> ∃t:Nat,e= .returned (.int .i64 t)∧t<32∧ρy x t∧Below w w w':=by
 obtain ⟨n,hn⟩:=Int.eq_ofNat_of_zero_le (Int.le_of_lt h0)
 obtain ⟨t,k,hk⟩:=κa n (by omega)
 have hx:x=2^t*(2*(k:Int)+1):=by rw [hn,hk];push_cast;rfl
 have ht:t<32:=ωK (b:=32) hx (by omega) h1
 have hb:=σ9 h0 h1 hx (by omega)
 have hc:=hT.at_ _ (τu t ht).1
 rw [(τu t ht).2,<-hb] at hc
 have HW:Hid (ρy x t):=⟨_,hx,by omega⟩
 have hz:(x==0)=false:=by rw [beq_eq_false_iff_ne];omega
 have ht':(t:Int)<32:=by omega
 clear hn hk hx hb hT
 go_enter func138,ntmps138
 go_wp2
 refine bodyPost_ret (v:= .int .i64 t) (by simp [results,results138,go_sem]) rfl ?_
 exact ⟨t,rfl,ht,HW.out,Below.refl _ _⟩
open Go.ChangeShapes Go.WideShapes Go.ChangeAt Go.RowKit
def ρA:List (String×DataW Unit):=[("math/bits.deBruijn32tab",Rows.laid_math_bits_deBruijn32tab)]
theorem gTab:prog.globalNamed "math/bits.deBruijn32tab" =some 0:=by kernel_rfl
theorem tTab:(prog.globals[0]?).map (·.type)=some 215:=by kernel_rfl
theorem κb (os:Os) (args:Array Value):laidMetH prog ρA ((World.doorLaid prog 400 os).forCall (fun _ _=>0) ⟨#[],args,[]⟩).memory:=
 laidMetH_of_parts3 (fuel:=8) (laidMet_of_run' 8 (by kernel_rfl) (by kernel_rfl)) (by kernel_rfl) (by kernel_rfl)
theorem θw {W:World} (h:laidMetH prog ρA W):Tab W:=by
 rw [MakeChecks.laidMetH_plain _ _ _ (by kernel_rfl)] at h
 obtain ⟨ps,⟨g0,t0,cs0,f0,p0,q0,hg0,ht0,hv0,hd0,_,_⟩,_,_⟩:=h
 obtain rfl:=Option.some.inj (gTab.symm.trans hg0)
 obtain rfl:=Option.some.inj (tTab.symm.trans ht0)
 obtain ⟨xs,m1,rfl,hx1,hlen,hn3,hel⟩:=DataW.trod_array underlying215 hd0
 have c5:prog.cellsOf 5=1:=by kernel_rfl
 have hag:(Rows.laid_math_bits_deBruijn32tab:DataW Unit)= .agg (θv.map fun k=> .lit (.int .u8 k)):=rfl
 have hmap:θv.map (fun k=>(DataW.lit (.int .u8 k):DataW Unit))=xs.map (fun x=>x.1):=by
  have h1:=(Prod.mk.inj hx1).1
  rw [hag] at h1
  exact DataW.agg.inj h1
 have hall: ∀i,i<32->W.cell? ⟨0,i,none⟩=some (.int .u8 (θv.getD i 0)):=by
  intro i hi
  have hxi:xs[i]? =some (xs[i]'(by omega)):=List.getElem?_eq_getElem (by omega)
  have h1:=hel i hi
  rw [c5,Nat.mul_one,hxi] at h1
  obtain ⟨k,e1,e2,_⟩:=DataW.trod_int underlying5 h1
  have h2:(xs.map (fun x=>x.1))[i]? =some (DataW.lit (.int .u8 k)):=by rw [List.getElem?_map,hxi,e2];rfl
  rw [<-hmap,List.getElem?_map] at h2
  have hti:i<θv.length:=hi
  rw [List.getElem?_eq_getElem hti] at h2
  have hk:θv[i]=k:=by
   have h3:=Option.some.inj h2
   injection h3 with h4
   injection h4
  rw [World.var?_cell hg0 hv0 i]
  have h5:(List.take 1 (List.drop i cs0.toList))[0]? =cs0[i]? :=by
   rw [List.getElem?_take_of_lt (by decide),List.getElem?_drop]
   simp
  rw [<-h5,e1,List.getD_eq_getElem?_getD,List.getElem?_eq_getElem hti,<-hk]
  rfl
 exact ⟨ρv (hall 0 (by decide)),hall⟩
theorem κc (g:Bool) (a:Option Addr) (c:Nat) (ds:List Int) (x:Int) (w:World) (hn:ds.length<=1048576) (h:L1 w g a c ds x) (hne:ds≠[]):
 Calls prog 69 #[.agg #[g,.slice a ds c]] w fun e w'=> ∃t:Nat,e= .returned (.int .i64 t)∧t<=16*ds.length∧ρy (val 65536 ds) t∧Below w w w':=by
 have hpos:=ζP (B:=65536) (by decide) h.can hne
 have hd:=h.can.1
 have hz:=h.sl.row
 obtain ⟨b,off,rfl,hb,hc⟩:=hz.resolve_left hne
 have HD:Hid (Dig 65536 ds):=hd
 have HP:Hid (0<val 65536 ds):=hpos
 have hlen:ds.length≠0:=fun e=>hne (List.length_eq_zero_iff.1 e)
 clear h hd hz hpos
 have q1:(w.alloc (.cells #[g,.slice (some ⟨b,off,none⟩) ds c] 72)).cell? ⟨w,1,none⟩=some (.slice (some ⟨b,off,none⟩) ds c):=by simp [go_sem]
 have HC:Hid (∀j,j<ds.length->(w.alloc (.cells #[g,.slice (some ⟨b,off,none⟩) ds c] 72)).cell? ⟨b,off+j,none⟩=some (.int .i64 (ds.getD j 0))):=by
  intro j hj
  rw [World.cell?_alloc_past _ _ _ hb]
  exact hc j hj
 have HB:Hid (Below w w (w.alloc (.cells #[g,.slice (some ⟨b,off,none⟩) ds c] 72))):=ζc _ _
 clear hc
 go_enter func69,ntmps69
 go_wp2
 obtain ⟨W,hW⟩: ∃W,W=w.alloc (.cells #[g,.slice (some ⟨b,off,none⟩) ds c] 72):=⟨_,rfl⟩
 rw [<-hW] at q1 HC HB⊢
 clear hW
 go_loop [3] (fun i=> ∃j:Nat,j<ds.length∧i= .int .i64 j∧Hid (ψp (ds.take j)=false)) (fun i=>ds.length-(intOf i).toNat)
 case atStart=>exact ⟨0,by omega,rfl,rfl⟩
 case round=>
  obtain ⟨j,hj,rfl,hany⟩:=hrel
  have g1:=HC.out j hj
  have hst:=φT hj
  obtain ⟨y,hy⟩: ∃y,y=ds.getD j 0:=⟨_,rfl⟩
  have hyb:=HD.out.at (by decide) j
  rw [<-hy] at g1 hst hyb
  have hji:(j:Int)<ds.length:=by omega
  by_cases hy0:y=0
  ·have hany2:ψp (ds.take (j+1))=false:=by rw [hst,hany.out,hy0];rfl
   have hj2:j+1<ds.length:=by
    by_cases hp:j+1<ds.length
    ·exact hp
    ·have:ds.take (j+1)=ds:=List.take_of_length_le (by omega)
     rw [this,ψq (B:=65536) (by decide) HD.out] at hany2
     have:=HP.out
     omega
   have HA:Hid (ψp (ds.take (j+1))=false):=hany2
   subst hy0
   clear hst hany hany2 hy
   go_wp2
   go_round
   case rel=>exact ⟨j+1,hj2,by go_num,HA⟩
   case measure=>simp [intOf];omega
  ·have hy1:(y==0)=false:=by rw [beq_eq_false_iff_ne];exact hy0
   have hv0:val 65536 (ds.take j)=0:=(ψq (B:=65536) (by decide) (HD.out.take j)).1 hany.out
   have HV0:Hid (val 65536 (ds.take j)=0):=hv0
   have HY:Hid (y=ds.getD j 0):=hy
   obtain ⟨hyb0,hyb1⟩:=hyb
   clear hst hany hv0 hy
   go_wp2
   go_loop [4,5] (fun sv sk=> ∃(k:Nat) (v:Int),sv= .int .i64 v∧sk= .int .i64 k∧0<v∧v<65536∧k<16∧Hid (y=2^k*v)) (fun sv _=>(intOf sv).toNat)
   case atStart=>exact ⟨0,y,rfl,rfl,by omega,by omega,by decide,by unfold Hid;simp⟩
   case round=>
    obtain ⟨k,v,rfl,rfl,hv0,hv1,hk,hyk⟩:=hrel
    have hvm:0<=v%2:=by omega
    by_cases hev:v%2=0
    ·have hyk2:y=2^(k+1)*(v/2):=by
      rw [hyk.out,Int.pow_succ,Int.mul_assoc]
      congr 1
      omega
     have hv2:0<v/2:=by omega
     have hk2:k+1<16:=ωK hyk2 hv2 (by omega)
     have HK:Hid (y=2^(k+1)*(v/2)):=hyk2
     clear hyk2 hyk
     go_wp2
     go_round
     case rel=>exact ⟨k+1,v/2,rfl,by go_num,hv2,by omega,hk2,HK⟩
     case measure=>simp [intOf];omega
    ·have hev1:(v%2==0)=false:=by rw [beq_eq_false_iff_ne];exact hev
     have HT:Hid (ρy (val 65536 ds) (16*j+k)):=ρz (b:=16) hj HV0.out (by rw [<-HY.out];exact hyk.out) (by omega) hk
     clear hyk
     go_wp2
     go_ret
     exact ⟨16*j+k,ζG (by omega),by omega,HT.out,HB.out⟩
theorem νI (n:Int) (h:0<=n):(65536:Int)^(n/16).toNat*2^(n%16).toNat=2^n.toNat:=by
 rw [show (65536:Int)=2^16 from rfl,<-Int.pow_mul,<-Int.pow_add]
 congr 1
 omega
theorem τN (n:Int):0<(2:Int)^(n%16).toNat∧(2:Int)^(n%16).toNat<=32768:=by
 refine ⟨Int.pow_pos (by decide),?_⟩
 have h: ∀k,k<16->(2:Int)^k<=32768:=by decide
 exact h _ (by omega)
def UpOut (w:World) (n:Nat) (x:Int) (e:Ending) (w':World):Prop:=
 ∃(g:Bool) (a:Option Addr) (c:Nat) (fs:List Int),e= .returned (.agg #[g,.slice a fs c])∧fs.length<=n∧L1 w' g a c fs x∧Far w a fs∧Below w w w'
theorem ρB (g:Bool) (a:Option Addr) (c:Nat) (ds:List Int) (x n:Int) (w:World) (hn:ds.length<=100000) (n0:0<=n) (n1:n<=1000000) (h:L1 w g a c ds x):
 Calls prog 73 #[.agg #[g,.slice a ds c],.int .i64 n] w fun e w'=>UpOut w (ds.length+(n/16).toNat+1) (x*2^n.toNat) e w':=by
 by_cases hd0:ds.length=0
 ·have hde:ds=[]:=List.length_eq_zero_iff.1 hd0
  subst hde
  have hx:x=0:=by rw [h.num];simp [val,sg]
  have hg:g=false:=by cases g;rfl;exact absurd rfl (h.zero rfl)
  subst hx hg
  go_enter func73,ntmps73
  go_wp2
  refine bodyPost_ret (v:= .agg #[false,.slice a 0 c]) (by simp [results,results73,go_sem]) rfl ⟨false,a,c,[],rfl,by simp,?_,.inl rfl,?_⟩
  ·refine ⟨⟨by simp,h.sl.nil,.inl rfl⟩,h.can,by simp [val,sg],h.zero,h.cap⟩
  ·exact ξr _ _ _
 ·have hmk:=run_make_row' (P:=prog) 66 3 (.int .i64 0) 8 underlying66 Tryz.info3 rfl .i64 .i64 (n/16).toNat (by omega) (by omega)
  rw [show (((n/16).toNat:Nat):Int)=n/16 by omega] at hmk
  obtain ⟨q0,q1⟩:=τN n
  obtain ⟨q,hq⟩: ∃q,q=(2:Int)^(n%16).toNat:=⟨_,rfl⟩
  have HQ:Hid (q=(2:Int)^(n%16).toNat):=hq
  rw [<-hq] at q0 q1
  obtain ⟨s,hs⟩: ∃s,s=(n/16).toNat:=⟨_,rfl⟩
  have HX:Hid (sg g (65536^s*(val 65536 ds*q))=x*2^n.toNat):=by
   unfold Hid
   rw [h.num,hq,hs,Int.mul_comm (val 65536 ds),<-Int.mul_assoc,νI n n0]
   cases g
   ·simp only [sg];exact Int.mul_comm _ _
   ·simp only [sg,if_true];rw [Int.neg_mul,Int.mul_comm]
  have hdz:=h.can.1
  have hz:=h.sl.row
  have hsb:s<=62500:=by omega
  have hd1:((ds.length:Int)==0)=false:=by rw [beq_eq_false_iff_ne];omega
  clear h hq
  go_enter func73,ntmps73
  go_wp2
  obtain ⟨W0,hW0⟩: ∃W0,W0=((w.alloc (.cells #[g,.slice a ds c] 72)).alloc (.cells #[false,()] 72)):=⟨_,rfl⟩
  have F:Hid (Bx1 w g (.slice a ds c) W0):=by rw [hW0];exact Bx1.start w _ _ _ _
  have hS:w.heap.size+1+1=W0.heap.size:=by rw [hW0];simp
  rw [<-hW0]
  have HS0:Hid ((W0.alloc (.cells (madeCells #[.int .i64 0] (n/16).toNat) 3)).ownsRow (↑w+1+1) 3 1 (.slice (some ⟨↑w+1+1,0,none⟩) (n/16).toNat (n/16).toNat) (List.replicate s (0:Int)).length (φc .i64 (List.replicate s 0))):=by unfold Hid;rw [hs,hS];exact σ7 W0 _ _ _ _ (Nat.le_refl _) (by unfold maxLen;omega)
  have HB0:Hid (Below (↑w+1+1) W0 (W0.alloc (.cells (madeCells #[.int .i64 0] (n/16).toNat) 3))):=by unfold Hid;rw [hS];exact ζc _ _
  have HSn:Hid (s=(n/16).toNat):=hs
  clear hW0 hS hs
  go_loopw [5,6,7] (fun v cc i wr=> ∃(k:Nat) (cr:Int) (out:List Int),cc= .int .i64 cr∧i= .int .i64 k∧0<=cr∧cr<q∧(k<=ds.length∨cr=0)∧k<=ds.length+1∧out.length=s+k∧Hid (List.replicate s 0++ζr 65536 (ζL q ds) 0=out++ζr 65536 (ζL q (ds.drop k)) cr)∧
   wr.ownsRow (↑w+1+1) 3 1 v out.length (φc .i64 out)∧Below (↑w+1+1) W0 wr) (fun _ _ i _=>ds.length+1-(intOf i).toNat)
  case atStart=>exact ⟨0,0,List.replicate s 0,rfl,rfl,by decide,q0,.inl (Nat.zero_le _),Nat.zero_le _,by simp,rfl,HS0.out,HB0.out⟩
  case round=>
   obtain ⟨k,cr,out,rfl,rfl,hc0,hc1,hkk,hkb,hol,hrest,hown,hnx⟩:=hrel
   clear HS0 HB0
   have F1:Hid (Bx1 w g (.slice a ds c) wr):=F.out.on hnx
   have s1:=F1.out.q1
   have hle:=F1.out.le
   have hlo:out.length<=200000:=by omega
   by_cases h1:k<ds.length
   ·have hb1:=hdz.at (by decide) k
    obtain ⟨b,off,rfl,g1⟩:=ζq hz F1.out.bel h1
    obtain ⟨y,hyy⟩: ∃y,y=ds.getD k 0:=⟨_,rfl⟩
    rw [<-hyy] at hb1 g1
    obtain ⟨hb10,hb11⟩:=hb1
    have hp0:=Int.mul_nonneg hb10 (Int.le_of_lt q0)
    have hp1:y*q<=65535*32768:=Int.mul_le_mul (by omega) q1 (by omega) (by decide)
    simp only [Int.reduceMul] at hp1
    have htc:=ψG (B:=65536) (by decide) q0 hb10 hb11 hc0 hc1
    rw [show y*q+cr=cr+y*q by omega] at htc
    have HS:Hid (List.replicate s 0++ζr 65536 (ζL q ds) 0=(out++[(cr+y*q)%65536])++ζr 65536 (ζL q (ds.drop (k+1))) ((cr+y*q)/65536)):=by
     unfold Hid
     rw [hrest.out,φQ h1,<-hyy,ζr,show y*q+cr=cr+y*q by omega]
     simp
    have HTC:Hid (0<=(cr+y*q)/65536∧(cr+y*q)/65536<q):=htc
    rw [HQ.out] at hp0 hp1
    have HN:Hid (Below (↑w+1+1) W0 wr):=hnx
    clear hrest hyy hnx htc hdz hz F F1
    go_wp2_with (at_builtin;refine ωF rfl (.tmp 43) (.tmp 46) 66 rfl (↑w+1+1) 3 underlying66 Tryz.info3 (by decide) _ _ rfl rfl hown (by omega) hle ?_;intro a1 n1 c1 w1 hown1 hb1 hs1)
    rw [<-HQ.out] at hown1
    go_roundw
    case rel=>exact ⟨k+1,(cr+y*q)/65536,out++[(cr+y*q)%65536],by rw [HQ.out],by go_num,HTC.out.1,HTC.out.2,.inl (by omega),by omega,by simp;omega,HS,hown1,HN.out.trans hb1⟩
    case measure=>simp [intOf];omega
   ·by_cases hcp:0<cr
    ·have hkn:k=ds.length:=by omega
     subst hkn
     have E1:Hid (cr%65536=cr):=by unfold Hid;omega
     have E2:Hid (cr/65536=0):=by unfold Hid;omega
     have HS:Hid (List.replicate s 0++ζr 65536 (ζL q ds) 0=(out++[cr])++ζr 65536 (ζL q (ds.drop (ds.length+1))) 0):=by
      unfold Hid
      rw [hrest.out,List.drop_eq_nil_of_le (Nat.le_refl _),List.drop_eq_nil_of_le (by omega)]
      simp [ζL,ζr,show cr≠0 by omega]
     have HN:Hid (Below (↑w+1+1) W0 wr):=hnx
     clear hrest hnx hdz hz F F1
     go_wp2_with (at_builtin;refine ωF rfl (.tmp 43) (.tmp 46) 66 rfl (↑w+1+1) 3 underlying66 Tryz.info3 (by decide) _ _ rfl rfl hown (by omega) hle ?_;intro a1 n1 c1 w1 hown1 hb1 hs1)
     rw [E1.out] at hown1
     go_roundw
     case rel=>exact ⟨ds.length+1,0,out++[cr],by rw [E2.out],by go_num,by decide,q0,.inr rfl,by omega,by simp;omega,HS,hown1,HN.out.trans hb1⟩
     case measure=>simp [intOf]
    ·have hcz:cr=0:=by omega
     subst hcz
     have hfin:List.replicate s 0++ζr 65536 (ζL q ds) 0=out:=by
      rw [hrest.out,List.drop_eq_nil_of_le (by omega)];simp [ζL,ζr]
     have hV:val 65536 out=65536^s*(val 65536 ds*q):=by rw [<-hfin,τt,φM,φe];simp
     have hG:Dig 65536 out:=by rw [<-hfin];exact Dig.append (Dig.zeros (by decide) _) (ωH (by decide) q0 (by omega) _ _ hdz (by decide) q0)
     have hL:out.length<=ds.length+(n/16).toNat+1:=by rw [<-HSn.out];omega
     have HV:Hid (val 65536 out=65536^s*(val 65536 ds*q)):=hV
     have HG:Hid (Dig 65536 out):=hG
     have HL:Hid (out.length<=ds.length+(n/16).toNat+1):=hL
     obtain ⟨a2,c2,rfl,hcm,hsl,hrn⟩:=ψa hown
     have s0:=F1.out.q0
     have HSl:Hid (Sl .i64 wr a2 c2 out):=hsl
     have HF:Hid (Far (↑w+1+1) a2 out):=hrn.far (Nat.le_refl _) (Nat.le_refl _)
     clear hfin hV hG hL hown hrest hdz hz hol hsl hrn hnx
     go_wp2_with fail
     refine (ξF g a2 c2 out _ (by omega) hcm HSl.out HG.out).mono ?_
     rintro e w2 ⟨g2,fs,rfl,hfl,hL2,hb2⟩
     rw [HV.out,HX.out] at hL2
     have F2:=Hid.mk (F1.out.later hb2)
     have r1:=F2.out.r1
     have r2:=F2.out.r2
     have r3:=F2.out.r3
     have HL2:Hid (L1 w2 g2 a2 c2 fs (x*2^n.toNat)):=hL2
     have HF2:Hid (Far (↑w+1+1) a2 fs):=by
      rcases HF.out with h|h
      ·subst h;exact .inl (List.length_eq_zero_iff.1 (by simpa using hfl))
      ·exact .inr h
     clear hL2 hb2 s0 s1 F1
     go_wp2
     refine bodyPost_ret (v:= .agg #[g2,.slice a2 fs c2]) (by simp [results,results73,go_sem,r1,r2]) rfl ⟨g2,a2,c2,fs,rfl,by have:=HL.out;omega,?_,HF2.out.down (by omega),?_⟩
     ·exact (HL2.out.setFar HF2.out (by simp) _).setFar HF2.out (by simp) _
     ·exact (F2.out.bel.setCell (by simp) _).setCell (by simp) _
def τO (w:World) (n:Nat) (x:Int) (lost:Bool) (e:Ending) (w':World):Prop:=
 ∃(g:Bool) (a:Option Addr) (c:Nat) (fs:List Int),e= .returned (.tuple #[.agg #[g,.slice a fs c],lost])∧fs.length<=n∧L1 w' g a c fs x∧Far w a fs∧Below w w w'
theorem τv (n:Int):(65536:Int)=2^(n%16).toNat*2^(16-n%16).toNat∧0<(2:Int)^(16-n%16).toNat∧(2:Int)^(16-n%16).toNat<=65536:=by
 refine ⟨?_,Int.pow_pos (by decide),?_⟩
 ·rw [<-Int.pow_add,show (n%16).toNat+(16-n%16).toNat=16 by omega];rfl
 ·have h: ∀k,k<17->(2:Int)^k<=65536:=by decide
  exact h _ (by omega)
theorem θx {q r y y':Int} (hqr:65536=q*r) (hq:0<q) (hr:0<r) (h0:0<=y) (h1:y<65536):(y/q+y'*r%65536)%65536=(y+65536*y')/q%65536:=by
 rw [χE hqr hq hr h0 h1]
 have e:y'*r%65536=r*(y'%q):=by
  rw [hqr,Int.mul_comm q r,Int.mul_comm y' r,Int.mul_emod_mul_of_pos _ _ hr]
 rw [e]
 have hd0:0<=y/q:=Int.ediv_nonneg h0 (by omega)
 have hd1:y/q<r:=Int.ediv_lt_of_lt_mul hq (by rw [Int.mul_comm r q,<-hqr];exact h1)
 have hm0:=Int.emod_nonneg y' (show q≠0 by omega)
 have hm1:=Int.emod_lt_of_pos y' hq
 have h3:r*(y'%q)<=r*(q-1):=Int.mul_le_mul_of_nonneg_left (by omega) (by omega)
 have h4:0<=r*(y'%q):=Int.mul_nonneg (by omega) hm0
 rw [Int.mul_sub,Int.mul_one,Int.mul_comm r q,<-hqr] at h3
 exact Int.emod_eq_of_lt (by omega) (by omega)
theorem τP {n:Int} (hd:Dig 65536 ds) (n0:0<=n) (h:(ds.length:Int)<=n/16):val 65536 ds/2^n.toNat=0∧(val 65536 ds%2^n.toNat≠0↔ψp ds=true):=by
 have h0:=ζo (B:=65536) (by decide) hd
 have h1:=ζ1 (B:=65536) (by decide) hd
 have h2:(65536:Int)^ds.length<=2^n.toNat:=by
  rw [show (65536:Int)=2^16 from rfl,<-Int.pow_mul]
  exact φd (by omega)
 refine ⟨Int.ediv_eq_zero_of_lt h0 (by omega),?_⟩
 rw [Int.emod_eq_of_lt h0 (by omega),ψS (by decide) hd]
theorem κd {n:Int} (hd:Dig 65536 ds) (n0:0<=n) (h:n/16<(ds.length:Int)):val 65536 (ζV 65536 (2^(n%16).toNat) (ds.drop (n/16).toNat))=val 65536 ds/2^n.toNat∧(val 65536 ds%2^n.toNat≠0↔(ψp (ds.take (n/16).toNat)|| (ds.getD (n/16).toNat 0%2^(n%16).toNat !=0))=true):=by
 obtain ⟨e1,e2,e3⟩:=τv n
 obtain ⟨e4,_⟩:=τN n
 have hs:(n/16).toNat<=ds.length:=by omega
 rw [<-νI n n0]
 refine ⟨ρw e1 e4 e2 (by decide) hd hs,?_⟩
 rw [ne_eq,ωI e4 ⟨_,e1⟩ (by decide) hd hs]
 have h2:=ψS (B:=65536) (by decide) (hd.take (n/16).toNat)
 rw [Bool.or_eq_true,h2,bne_iff_ne]
 by_cases h3:val 65536 (ds.take (n/16).toNat)=0
 ·simp [h3]
 ·simp [h3]
theorem κe (g:Bool) (a:Option Addr) (c:Nat) (ds:List Int) (x n:Int) (w:World) (hn:ds.length<=100000) (n0:0<=n) (n1:n<=1000000) (h:L1 w g a c ds x):
 Calls prog 70 #[.agg #[g,.slice a ds c],.int .i64 n] w fun e w'=>τO w ds.length (sg g (val 65536 ds/2^n.toNat)) (ψz (val 65536 ds) (2^n.toNat)) e w':=by
 obtain ⟨e1,r0,r1⟩:=τv n
 obtain ⟨q0,q1⟩:=τN n
 have hdz:=h.can.1
 have hz:=h.sl.row
 have HE1:Hid ((65536:Int)=2^(n%16).toNat*2^(16-n%16).toNat):=e1
 clear h e1
 go_enter func70,ntmps70
 go_wp2
 obtain ⟨W0,hW0⟩: ∃W0,W0=((w.alloc (.cells #[g,.slice a ds c] 72)).alloc (.cells #[false,()] 72)):=⟨_,rfl⟩
 have F:Hid (Bx1 w g (.slice a ds c) W0):=by rw [hW0];exact Bx1.start w _ _ _ _
 rw [<-hW0]
 clear hW0
 go_loopw [6,7] (fun lo i wr=> ∃k:Nat,(k:Int)<=n/16∧k<=ds.length∧i= .int .i64 k∧lo= .bool (ψp (ds.take k))∧Below (↑w+1+1) W0 wr) (fun _ i _=>ds.length-(intOf i).toNat)
 case atStart=>exact ⟨0,by omega,Nat.zero_le _,rfl,rfl,Below.refl _ _⟩
 case round=>
  obtain ⟨k,hkn,hk,rfl,rfl,hnx⟩:=hrel
  have F1:Hid (Bx1 w g (.slice a ds c) wr):=F.out.on hnx
  have s1:=F1.out.q1
  by_cases hc:(k:Int)<n/16∧k<ds.length
  ·obtain ⟨hc1,hc2⟩:=hc
   have hst:=φT hc2
   obtain ⟨b,off,rfl,g1⟩:=ζq hz F1.out.bel hc2
   obtain ⟨y,hyy⟩: ∃y,y=ds.getD k 0:=⟨_,rfl⟩
   rw [<-hyy] at g1 hst
   have HN:Hid (Below (↑w+1+1) W0 wr):=hnx
   obtain ⟨t,ht⟩: ∃t,t=ψp (ds.take k):=⟨_,rfl⟩
   rw [<-ht] at hst⊢
   have HST:Hid (ψp (ds.take (k+1))=(t|| (y !=0))):=hst
   clear hst ht hnx hyy hdz hz F F1
   cases t with
   |true=>
    go_wp2
    go_roundw
    case rel=>exact ⟨k+1,by omega,by omega,by go_num,by rw [HST.out];rfl,HN.out⟩
    case measure=>simp [intOf];omega
   |false=>
    go_wp2
    go_roundw
    case rel=>exact ⟨k+1,by omega,by omega,by go_num,by rw [HST.out];rfl,HN.out⟩
    case measure=>simp [intOf];omega
  ·by_cases hA:(ds.length:Int)<=n/16
   ·have hkl:k=ds.length:=by omega
    subst hkl
    obtain ⟨ca,cb⟩:=τP hdz n0 hA
    have r1:=F1.out.r1
    have r2:=F1.out.r2
    have r3:=F1.out.r3
    have HR:Hid (ψp ds=ψz (val 65536 ds) (2^n.toNat)):=by unfold Hid ψz;rw [Bool.eq_iff_iff,<-cb,decide_eq_true_eq]
    have HC:Hid (val 65536 ds/2^n.toNat=0):=ca
    have HB:Hid (Below w w wr):=F1.out.bel
    rw [List.take_length,HR.out]
    obtain ⟨L,hL⟩: ∃L,L=ψz (val 65536 ds) (2^n.toNat):=⟨_,rfl⟩
    rw [<-hL]
    have HLL:Hid (L=ψz (val 65536 ds) (2^n.toNat)):=hL
    clear hL ca cb hdz hz F F1 hnx HR q0 q1
    go_wp2
    all_goals
     refine bodyPost_ret (v:= .tuple #[.agg #[false,()],.bool L]) (by simp [results,results70,go_sem,r1,r2]) rfl ⟨false,none,0,[],by rw [<-HLL.out];rfl,by simp,?_,.inl rfl,?_⟩
     ·rw [HC.out]
      refine ⟨⟨by simp,fun _=>rfl,.inl rfl⟩,⟨Dig.nil _,rfl⟩,by cases g<;>simp [sg,val],(fun h=>by cases h),by unfold maxLen;omega⟩
     ·exact (HB.out.setCell (by simp) _).setCell (by simp) _
   ·have hkl:(k:Int)=n/16:=by omega
    have hks:k=(n/16).toNat:=by omega
    obtain ⟨ca,cb⟩:=κd hdz n0 (by omega)
    rw [<-hks] at ca cb
    have HC:Hid (val 65536 (ζV 65536 (2^(n%16).toNat) (ds.drop k))=val 65536 ds/2^n.toNat):=ca
    have HR:Hid (ψz (val 65536 ds) (2^n.toNat)=(ψp (ds.take k)|| (ds.getD k 0%2^(n%16).toNat !=0))):=by unfold Hid ψz;rw [Bool.eq_iff_iff,<-cb,decide_eq_true_eq]
    have HB:Hid (Below (↑w+1+1) W0 wr):=hnx
    have hkd:k<ds.length:=by omega
    have hnk:n/16=(k:Int):=hkl.symm
    obtain ⟨t,ht⟩: ∃t,t=ψp (ds.take k):=⟨_,rfl⟩
    rw [<-ht] at HR⊢
    have hA': ¬((k:Int)≥ds.length):=by omega
    clear ca cb hks hkl ht F1 hnx hc
    go_wp2
    go_loopw [8,9,10] (fun v i _ wr=> ∃(j:Nat) (out:List Int),k<=j∧j<=ds.length∧out.length+k=j∧i= .int .i64 j∧Hid (ζV 65536 (2^(n%16).toNat) (ds.drop k)=out++ζV 65536 (2^(n%16).toNat) (ds.drop j))∧
     wr.ownsRow (↑w+1+1) 3 1 v out.length (φc .i64 out)∧Below (↑w+1+1) W0 wr) (fun _ i _ _=>ds.length-(intOf i).toNat)
    case atStart=>exact ⟨k,[],Nat.le_refl _,by omega,by simp,rfl,rfl,ψF _ _ _ _,HB.out⟩
    case round=>
     obtain ⟨j,out,hj0,hj1,hol,rfl,hrest,hown,hnx⟩:=hrel
     clear HB s1
     have F1:Hid (Bx1 w g (.slice a ds c) wr):=F.out.on hnx
     have s1:=F1.out.q1
     have hle:=F1.out.le
     by_cases hlt:j<ds.length
     ·have hb1:=hdz.at (by decide) j
      have hb2:=hdz.at (by decide) (j+1)
      obtain ⟨b,off,rfl,g1⟩:=ζq hz F1.out.bel hlt
      have hst:=φR (B:=65536) (q:=2^(n%16).toNat) hlt
      obtain ⟨y,hyy⟩: ∃y,y=ds.getD j 0:=⟨_,rfl⟩
      obtain ⟨y',hyy'⟩: ∃y',y'=ds.getD (j+1) 0:=⟨_,rfl⟩
      rw [<-hyy] at hb1 g1 hst
      rw [<-hyy'] at hb2 hst
      obtain ⟨hb10,hb11⟩:=hb1
      obtain ⟨hb20,hb21⟩:=hb2
      rw [<-θx HE1.out q0 r0 hb10 hb11] at hst
      have hy0:0<=y/2^(n%16).toNat:=Int.ediv_nonneg hb10 (by omega)
      have hy1:y/2^(n%16).toNat<=y:=Int.ediv_le_self _ hb10
      have hp0:=Int.mul_nonneg hb20 (Int.le_of_lt r0)
      have hp1:y'*2^(16-n%16).toNat<=65535*65536:=Int.mul_le_mul (by omega) r1 (by omega) (by decide)
      simp only [Int.reduceMul] at hp1
      have HN:Hid (Below (↑w+1+1) W0 wr):=hnx
      have hlo:out.length<=100000:=by omega
      by_cases h2:j+1<ds.length
      ·obtain ⟨b',off',hbb,g2⟩:=ζq hz F1.out.bel h2
       have hbe:b'=b∧off'=off:=by
        have h3:=Option.some.inj hbb
        exact ⟨(congrArg Addr.block h3).symm,(congrArg Addr.off h3).symm⟩
       obtain ⟨rfl,rfl⟩:=hbe
       rw [<-hyy'] at g2
       have HS:Hid (ζV 65536 (2^(n%16).toNat) (ds.drop k)=(out++[(y/2^(n%16).toNat+y'*2^(16-n%16).toNat)%65536])++ζV 65536 (2^(n%16).toNat) (ds.drop (j+1))):=by unfold Hid;rw [hrest.out,hst];simp
       have hv0:0<=y/2^(n%16).toNat+y'*2^(16-n%16).toNat%65536:=by omega
       clear hst hrest hyy hyy' hnx hdz hz F F1 hbb
       go_wp2_with (at_builtin;refine ωF rfl (.tmp 79) (.tmp 82) 66 rfl (↑w+1+1) 3 underlying66 Tryz.info3 (by decide) _ _ rfl rfl hown (by omega) hle ?_;intro a1 n1 c1 w1 hown1 hb1 hs1)
       go_roundw
       case rel=>exact ⟨j+1,_,by omega,by omega,by simp;omega,by go_num,HS,hown1,HN.out.trans hb1⟩
       case measure=>simp [intOf];omega
      ·have hy0':y'=0:=by rw [hyy'];exact ξn h2
       have HS:Hid (ζV 65536 (2^(n%16).toNat) (ds.drop k)=(out++[y/2^(n%16).toNat%65536])++ζV 65536 (2^(n%16).toNat) (ds.drop (j+1))):=by unfold Hid;rw [hrest.out,hst,hy0'];simp
       clear hst hrest hyy hyy' hnx hdz hz F F1 hp0 hp1 hb20 hb21 hy0'
       go_wp2_with (at_builtin;refine ωF rfl (.tmp 79) (.tmp 82) 66 rfl (↑w+1+1) 3 underlying66 Tryz.info3 (by decide) _ _ rfl rfl hown (by omega) hle ?_;intro a1 n1 c1 w1 hown1 hb1 hs1)
       go_roundw
       case rel=>exact ⟨j+1,_,by omega,by omega,by simp;omega,by go_num,HS,hown1,HN.out.trans hb1⟩
       case measure=>simp [intOf];omega
     ·have hjn:j=ds.length:=by omega
      subst hjn
      have hfin:ζV 65536 (2^(n%16).toNat) (ds.drop k)=out:=by
       rw [hrest.out,List.drop_eq_nil_of_le (Nat.le_refl _)];simp [ζV]
      have HV:Hid (val 65536 out=val 65536 ds/2^n.toNat):=by unfold Hid;rw [<-hfin];exact HC.out
      have HG:Hid (Dig 65536 out):=by unfold Hid;rw [<-hfin];exact φA (by decide) _ _
      have hb1:=hdz.at (by decide) k
      obtain ⟨b,off,rfl,g1⟩:=ζq hz F1.out.bel hkd
      obtain ⟨y,hyy⟩: ∃y,y=ds.getD k 0:=⟨_,rfl⟩
      rw [<-hyy] at hb1 g1 HR
      obtain ⟨hb10,hb11⟩:=hb1
      obtain ⟨a2,c2,rfl,hcm,hsl,hrn⟩:=ψa hown
      have s0:=F1.out.q0
      have HSl:Hid (Sl .i64 wr a2 c2 out):=hsl
      have HF:Hid (Far (↑w+1+1) a2 out):=hrn.far (Nat.le_refl _) (Nat.le_refl _)
      have hol':out.length<=ds.length:=by omega
      have hq3: ¬(2:Int)^(n%16).toNat=0:=by omega
      have hrr0:=Int.emod_nonneg y hq3
      clear hyy hfin hown hrest hdz hz hol hsl hrn hnx HC
      obtain ⟨L,hL⟩: ∃L,L=ψz (val 65536 ds) (2^n.toNat):=⟨_,rfl⟩
      rw [<-hL] at HR
      have HLL:Hid (L=ψz (val 65536 ds) (2^n.toNat)):=hL
      clear hL
      cases t with
      |true=>
       go_wp2_with fail
       refine (ξF g a2 c2 out _ (by omega) hcm HSl.out HG.out).mono ?_
       rintro e w2 ⟨g2,fs,rfl,hfl,hL2,hb2⟩
       rw [HV.out] at hL2
       have F2:=Hid.mk (F1.out.later hb2)
       have p1:=F2.out.r1
       have p2:=F2.out.r2
       have p3:=F2.out.r3
       have HL2:Hid (L1 w2 g2 a2 c2 fs (sg g (val 65536 ds/2^n.toNat))):=hL2
       have HF2:Hid (Far (↑w+1+1) a2 fs):=by
        rcases HF.out with h|h
        ·subst h;exact .inl (List.length_eq_zero_iff.1 (by simpa using hfl))
        ·exact .inr h
       clear hL2 hb2 s0 s1 F1
       go_wp2
       refine bodyPost_ret (v:= .tuple #[.agg #[g2,.slice a2 fs c2],true]) (by simp [results,results70,go_sem,p1,p2]) rfl ⟨g2,a2,c2,fs,by rw [<-HLL.out,HR.out];rfl,by omega,?_,HF2.out.down (by omega),?_⟩
       ·exact (HL2.out.setFar HF2.out (by simp) _).setFar HF2.out (by simp) _
       ·exact (F2.out.bel.setCell (by simp) _).setCell (by simp) _
      |false=>
       go_wp2_with fail
       refine (ξF g a2 c2 out _ (by omega) hcm HSl.out HG.out).mono ?_
       rintro e w2 ⟨g2,fs,rfl,hfl,hL2,hb2⟩
       rw [HV.out] at hL2
       have F2:=Hid.mk (F1.out.later hb2)
       have p1:=F2.out.r1
       have p2:=F2.out.r2
       have p3:=F2.out.r3
       have HL2:Hid (L1 w2 g2 a2 c2 fs (sg g (val 65536 ds/2^n.toNat))):=hL2
       have HF2:Hid (Far (↑w+1+1) a2 fs):=by
        rcases HF.out with h|h
        ·subst h;exact .inl (List.length_eq_zero_iff.1 (by simpa using hfl))
        ·exact .inr h
       clear hL2 hb2 s0 s1 F1
       go_wp2
       refine bodyPost_ret (v:= .tuple #[.agg #[g2,.slice a2 fs c2],.bool (y%2^(n%16).toNat !=0)]) (by simp [results,results70,go_sem,p1,p2]) rfl ⟨g2,a2,c2,fs,by rw [<-HLL.out,HR.out];rfl,by omega,?_,HF2.out.down (by omega),?_⟩
       ·exact (HL2.out.setFar HF2.out (by simp) _).setFar HF2.out (by simp) _
       ·exact (F2.out.bel.setCell (by simp) _).setCell (by simp) _
end Go.Proofs.YtfieffpobgcpmaaGreatDoor
