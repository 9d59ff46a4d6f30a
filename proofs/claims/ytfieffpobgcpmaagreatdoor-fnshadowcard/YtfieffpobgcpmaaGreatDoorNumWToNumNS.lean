import Derived.Test.YtfieffpobgcpmaaGreatDoorImplBToImplDS
import Derived.Test.YtfieffpobgcpmaaGreatDoorBoxToNumSS
import Derived.Laws.Bits64b
import Derived.Test.YtfieffpobgcpmaaGreatDoorDy2NumDNumFNumGS
import Derived.Test.YtfieffpobgcpmaaGreatDoorImplEImplNgImplNNumMImplMS
import Derived.Test.YtfieffpobgcpmaaGreatDoorNumZToSpecOS
import Derived.Test.YtfieffpobgcpmaaGreatDoorBaseToNumS
set_option maxRecDepth 100000
set_option maxHeartbeats 32000000
namespace Go.Proofs.YtfieffpobgcpmaaGreatDoor
open Go.RowKit Go.Proofs.Tryz
variable {B x:Int} {zs:List Int} {g:Bool}
def τZ (x:Int):Prop:= -(4294967296^512:Int)<x∧x<(4294967296^512:Int)
theorem χ8 (hB:1<=B) {a b:Nat} (h:a<=b):B^a<=B^b:=by
 obtain ⟨d,rfl⟩:=Nat.le.dest h
 have h1:0<B^a:=Int.pow_pos (by omega)
 have h2:0<B^d:=Int.pow_pos (by omega)
 have h3:B^a*1<=B^a*B^d:=Int.mul_le_mul_of_nonneg_left (by omega) (by omega)
 rw [Int.pow_add]
 omega
theorem ηj (hB:0<B) (h:ζv B zs) (hne:zs.length≠0):B^(zs.length-1)<=val B zs:=by
 have hz:zs≠[]:=fun e=>hne (by simp [e])
 have e:=List.dropLast_concat_getLast hz
 have hl:=ψQ h.2 hne
 have hg:zs.getLast hz=zs.getD (zs.length-1) 0:=by
  rw [List.getLast_eq_getElem]
  simp [List.getD_eq_getElem?_getD,show zs.length-1<zs.length by omega]
 have hd:=h.1.at hB (zs.length-1)
 have hv:val B zs=val B zs.dropLast+B^zs.dropLast.length*val B [zs.getLast hz]:=by
  have h2:=ζI B [zs.getLast hz] zs.dropLast
  rw [e] at h2
  exact h2
 have hnn:0<=val B zs.dropLast:=ζo hB (by rw [List.dropLast_eq_take];exact h.1.take _)
 have hp:0<B^zs.dropLast.length:=Int.pow_pos hB
 have h1:B^zs.dropLast.length*1<=B^zs.dropLast.length*zs.getLast hz:=Int.mul_le_mul_of_nonneg_left (by rw [hg];omega) (by omega)
 rw [hv]
 simp only [val,Int.mul_zero,Int.add_zero]
 rw [List.length_dropLast] at h1⊢
 omega
theorem ψf (hB:1<B) (h:ζv B zs) {k:Nat} (hv:val B zs<B^k):zs.length<=k:=by
 by_cases h0:zs.length=0
 ·omega
 ·by_cases hk:zs.length<=k
  ·exact hk
  ·have h1:=ηj (by omega) h h0
   have h2:B^k<=B^(zs.length-1):=χ8 (by omega) (by omega)
   omega
theorem B1.len (h:B1 g zs x) (hx:τZ x):zs.length<=512:=by
 have h0:=ζo (B:=4294967296) (by decide) h.can.1
 refine ψf (B:=4294967296) (by decide) h.can ?_
 have hn:=h.num
 obtain ⟨h1,h2⟩:=hx
 cases g
 ·simp only [sg] at hn
  have hn:x=val 4294967296 zs:=hn
  omega
 ·simp only [sg,if_true] at hn
  omega
theorem B1.fits (h:B1 g zs x) (hl:zs.length<=512):τZ x:=by
 have h0:=ζo (B:=4294967296) (by decide) h.can.1
 have h1:=ζ1 (B:=4294967296) (by decide) h.can.1
 have h2:(4294967296:Int)^zs.length<=4294967296^512:=χ8 (by decide) hl
 have hn:=h.num
 unfold τZ
 cases g
 ·have hn:x=val 4294967296 zs:=hn
  omega
 ·simp only [sg,if_true] at hn
  omega
theorem νR (n:Int) (h:0<=n):(4294967296:Int)^(n/32).toNat*2^(n%32).toNat=2^n.toNat:=by
 rw [show (4294967296:Int)=2^32 from rfl,<-Int.pow_mul,<-Int.pow_add]
 congr 1
 omega
theorem κx (n:Int):0<(2:Int)^(n%32).toNat∧(2:Int)^(n%32).toNat<=2147483648:=by
 refine ⟨Int.pow_pos (by decide),?_⟩
 have h: ∀k,k<32->(2:Int)^k<=2147483648:=by decide
 exact h _ (by omega)
theorem ρV (n:Int):(4294967296:Int)=2^(n%32).toNat*2^(32-n%32).toNat∧0<(2:Int)^(32-n%32).toNat:=by
 refine ⟨?_,Int.pow_pos (by decide)⟩
 rw [<-Int.pow_add,show (n%32).toNat+(32-n%32).toNat=32 by omega];rfl
theorem κy {q r c:Int} (hB:B=q*r) (hq:0<q) (hr:0<r) (hc0:0<=c) (hc1:c<q):c+x*q%B=(x*q+c)%B∧x*q/B=(x*q+c)/B:=by
 have hBp:0<B:=by rw [hB];exact Int.mul_pos hq hr
 have e1:x*q%B=q*(x%r):=by rw [hB,Int.mul_comm x q,Int.mul_emod_mul_of_pos _ _ hq]
 have hm0:=Int.emod_nonneg x (show r≠0 by omega)
 have hm1:=Int.emod_lt_of_pos x hr
 have h3:q*(x%r)<=q*(r-1):=Int.mul_le_mul_of_nonneg_left (by omega) (by omega)
 have h4:0<=q*(x%r):=Int.mul_nonneg (by omega) hm0
 rw [Int.mul_sub,Int.mul_one,<-hB] at h3
 have h5:=Int.mul_ediv_add_emod (x*q) B
 rw [e1] at h5
 have e2:x*q+c=(q*(x%r)+c)+B*(x*q/B):=by omega
 constructor
 ·have e4:(q*(x%r)+c)%B=q*(x%r)+c:=Int.emod_eq_of_lt (by omega) (by omega)
  rw [e1,e2,Int.add_mul_emod_self_left,e4]
  omega
 ·have e3:(x*q+c)/B=(q*(x%r)+c+B*(x*q/B))/B:=by rw [<-e2]
  have e4:(q*(x%r)+c)/B=0:=Int.ediv_eq_zero_of_lt (by omega) (by omega)
  rw [e3,Int.add_mul_ediv_left _ _ (by omega),e4]
  omega
theorem κz (a b:Nat) (ha:a<4294967296) (hb:b<4294967296):bits .or .u32 (a:Int) (b:Int)=((a|||b:Nat):Int):=by
 have hx:a|||b<2^32:=Nat.or_lt_two_pow (by omega) (by omega)
 have h1:(BitVec.ofInt 32 (a:Int)).toNat=a:=by
  rw [BitVec.ofInt_natCast,BitVec.toNat_ofNat];exact Nat.mod_eq_of_lt (by omega)
 have h2:(BitVec.ofInt 32 (b:Int)).toNat=b:=by
  rw [BitVec.ofInt_natCast,BitVec.toNat_ofNat];exact Nat.mod_eq_of_lt (by omega)
 show IntKind.u32.wrap ((BitVec.ofInt 32 (a:Int)|||BitVec.ofInt 32 (b:Int)).toNat:Int)=_
 rw [BitVec.toNat_or,h1,h2]
 simp only [IntKind.wrap,IntKind.bits,IntKind.signed]
 have h3:(2:Int)^32=4294967296:=by decide
 have h4:(2:Nat)^32=4294967296:=by decide
 simp
 omega
theorem or_up {c:Int} (n:Int) (hc0:0<=c) (hc1:c<2^(n%32).toNat):bits .or .u32 c (x*2^(n%32).toNat%4294967296)=c+x*2^(n%32).toNat%4294967296:=by
 obtain ⟨e1,hr⟩:=ρV n
 obtain ⟨hq,hq1⟩:=κx n
 obtain ⟨i,hi⟩: ∃i,i=(n%32).toNat:=⟨_,rfl⟩
 have e2:x*2^(n%32).toNat%4294967296=2^(n%32).toNat*(x%2^(32-n%32).toNat):=by
  rw [e1,Int.mul_comm x,Int.mul_emod_mul_of_pos _ _ hq]
 have hm0:=Int.emod_nonneg x (show (2:Int)^(32-n%32).toNat≠0 by omega)
 have hlt:=Int.emod_lt_of_pos (x*2^(n%32).toNat) (show (0:Int)<4294967296 by decide)
 rw [e2] at hlt⊢
 rw [<-hi] at hlt hc1⊢
 obtain ⟨y,hy⟩:=Int.eq_ofNat_of_zero_le hm0
 obtain ⟨b,rfl⟩:=Int.eq_ofNat_of_zero_le hc0
 rw [hy] at hlt⊢
 have e3:(2:Int)^i*(y:Int)=((2^i*y:Nat):Int):=by simp
 rw [e3] at hlt⊢
 have hb:b<2^i:=by
  have h:(b:Int)<((2^i:Nat):Int):=by simpa using hc1
  omega
 have hbb:b<4294967296:=by
  have h:(2:Nat)^i<=2^31:=Nat.pow_le_pow_right (by decide) (by omega)
  have h2:(2:Nat)^31=2147483648:=by decide
  omega
 rw [κz b (2^i*y) hbb (by omega),Nat.or_comm,<-Nat.two_pow_add_eq_or_of_lt hb]
 omega
def ψA (s:Nat) (D:List Int) (c:Int) (m:Nat):List Int:=List.replicate s 0++(D++c::List.replicate m 0)
theorem φu (s:Nat) (D:List Int) (c:Int) (m:Nat):(ψA s D c m).length=s+(D.length+(m+1)):=by simp [ψA]
theorem ρW (s:Nat) (D:List Int) (c:Int) (m:Nat):(ψA s D c m).getD (s+D.length) 0=c:=by
 unfold ψA
 rw [List.getD_eq_getElem?_getD,List.getElem?_append_right (by simp),List.length_replicate,show s+D.length-s=D.length by omega,List.getElem?_append_right (Nat.le_refl _)]
 simp
theorem ρX (s:Nat) (D:List Int) (c d e:Int) (m:Nat):((ψA s D c (m+1)).set (s+D.length) d).set (s+D.length+1) e=ψA s (D++[d]) e m:=by
 unfold ψA
 rw [List.replicate_succ]
 have h1:(List.replicate s (0:Int)++(D++c::0::List.replicate m 0)).set (s+D.length) d=List.replicate s 0++(D++d::0::List.replicate m 0):=by
  rw [List.set_append_right _ _ (by simp),List.length_replicate,show s+D.length-s=D.length by omega,List.set_append_right _ _ (Nat.le_refl _)]
  simp
 rw [h1,List.set_append_right _ _ (by simp;omega),List.length_replicate,show s+D.length+1-s=D.length+1 by omega,List.set_append_right _ _ (by omega)]
 simp
theorem τ0 (a:Option Addr) (p:Nat) (zs:List Int) (n:Int) (w:World) (hn:zs.length<=100000) (n0:0<=n) (n1:n<=1000000) (hz:ζk .u32 w a zs) (hdz:Dig 4294967296 zs):
 Calls prog 208 #[.slice a zs p,.int .i64 n] w fun e w'=>ξx w (val 4294967296 zs*2^n.toNat) (zs.length+(n/32).toNat+1) e w':=by
 obtain ⟨q0,q1⟩:=κx n
 obtain ⟨e1,r0⟩:=ρV n
 obtain ⟨s,hs⟩: ∃s:Nat,n/32=(s:Int):=⟨(n/32).toNat,by omega⟩
 have hsb:s<=31250:=by omega
 have HV:Hid (4294967296^s*(val 4294967296 zs*2^(n%32).toNat)=val 4294967296 zs*2^n.toNat):=by
  unfold Hid
  rw [Int.mul_comm (val 4294967296 zs),<-Int.mul_assoc,show s=(n/32).toNat by omega,νR n n0,Int.mul_comm]
 have HE1:Hid ((4294967296:Int)=2^(n%32).toNat*2^(32-n%32).toNat):=e1
 have hmk:=run_make_row' (P:=prog) 152 22 (.int .u32 0) 4 underlying152 Tryz.info22 rfl .i64 .i64 (s+zs.length+1) (by omega) (by omega)
 rw [show ((s+zs.length+1:Nat):Int)=(s:Int)+(zs.length:Int)+1 by omega] at hmk
 have HSN:Hid ((n/32).toNat=s):=by unfold Hid;omega
 clear e1
 go_enter func208,ntmps208
 go_wp2
 go_loopw [23] (fun t wr=> ∃(k:Nat) (c:Int) (D:List Int),k<=zs.length∧D.length=k∧t= .int .i64 k∧0<=c∧c<2^(n%32).toNat∧Hid (ζi 4294967296 (ζL (2^(n%32).toNat) zs) 0=D++ζi 4294967296 (ζL (2^(n%32).toNat) (zs.drop k)) c)∧Hid (ζp 4294967296 (ζL (2^(n%32).toNat) zs) 0=ζp 4294967296 (ζL (2^(n%32).toNat) (zs.drop k)) c)∧
  Own .u32 wr w 0 (ψA s D c (zs.length-k))∧Below w w wr) (fun t _=>zs.length-(intOf t).toNat)
 case atStart=>
  refine ⟨0,0,[],Nat.zero_le _,rfl,rfl,by decide,q0,rfl,rfl,?_,ζc _ _⟩
  have:=Own.made (k:= .u32) w (s+zs.length+1) 22
  have e:ψA s [] 0 (zs.length-0)=List.replicate (s+zs.length+1) 0:=by
   unfold ψA
   rw [Nat.sub_zero,List.nil_append,<-List.replicate_succ,List.replicate_append_replicate]
   congr 1
  rw [e]
  exact this
 case round=>
  obtain ⟨k,c,D,hk,hDl,rfl,hc0,hc1,hD,hO,hown,hnx⟩:=hrel
  by_cases hlt:k<zs.length
  ·have hb1:=hdz.at (by decide) k
   obtain ⟨b,off,rfl,g1⟩:=ζq hz hnx hlt
   have ht:=φQ (q:=2^(n%32).toNat) hlt
   obtain ⟨x,hx⟩: ∃x,x=zs.getD k 0:=⟨_,rfl⟩
   rw [<-hx] at hb1 g1 ht
   obtain ⟨hb10,hb11⟩:=hb1
   have hp0:=Int.mul_nonneg hb10 (Int.le_of_lt q0)
   have hp1:x*2^(n%32).toNat<=4294967295*2147483648:=Int.mul_le_mul (by omega) q1 (by omega) (by decide)
   simp only [Int.reduceMul] at hp1
   have hcar:=ψG (B:=4294967296) (by decide) q0 hb10 hb11 hc0 hc1
   obtain ⟨u1,u2⟩:=κy (x:=x) HE1.out q0 r0 hc0 hc1
   rw [<-u2] at hcar
   have hor:=or_up (x:=x) n hc0 hc1
   rw [u1] at hor
   have HD:Hid (ζi 4294967296 (ζL (2^(n%32).toNat) zs) 0=(D++[(x*2^(n%32).toNat+c)%4294967296])++ζi 4294967296 (ζL (2^(n%32).toNat) (zs.drop (k+1))) (x*2^(n%32).toNat/4294967296)):=by unfold Hid;rw [hD.out,ht,ζi,u2];simp
   have HO:Hid (ζp 4294967296 (ζL (2^(n%32).toNat) zs) 0=ζp 4294967296 (ζL (2^(n%32).toNat) (zs.drop (k+1))) (x*2^(n%32).toNat/4294967296)):=by unfold Hid;rw [hO.out,ht,ζp,u2]
   have hlen:=φu s D c (zs.length-k)
   have g2:=hown.cell (s+k) (by rw [hlen];omega)
   have g3:=hown.free (s+k) (by rw [hlen];omega)
   have g4:=hown.cell (s+k+1) (by rw [hlen];omega)
   have g5:=hown.free (s+k+1) (by rw [hlen];omega)
   rw [Nat.zero_add] at g2 g3 g4 g5
   rw [show s+k=s+D.length by omega,ρW,hDl] at g2
   have h1:=hown.set (s+k) ((x*2^(n%32).toNat+c)%4294967296) (by rw [hlen];omega)
   have h2:=h1.set (s+k+1) (x*2^(n%32).toNat/4294967296) (by rw [List.length_set,hlen];omega)
   rw [Nat.zero_add,Nat.zero_add,show zs.length-k=(zs.length-(k+1))+1 by omega] at h2
   have h3:=ρX s D c ((x*2^(n%32).toNat+c)%4294967296) (x*2^(n%32).toNat/4294967296) (zs.length-(k+1))
   rw [hDl] at h3
   rw [h3] at h2
   have HS:Hid (Own .u32 ((wr.setCell ⟨w,s+k,none⟩ (.int .u32 ((x*2^(n%32).toNat+c)%4294967296))).setCell ⟨w,s+k+1,none⟩ (.int .u32 (x*2^(n%32).toNat/4294967296))) w 0 (ψA s (D++[(x*2^(n%32).toNat+c)%4294967296]) (x*2^(n%32).toNat/4294967296) (zs.length-(k+1)))):=h2
   have HB:Hid (Below w w ((wr.setCell ⟨w,s+k,none⟩ (.int .u32 ((x*2^(n%32).toNat+c)%4294967296))).setCell ⟨w,s+k+1,none⟩ (.int .u32 (x*2^(n%32).toNat/4294967296)))):=(hnx.setCell (Nat.le_refl _) _).setCell (Nat.le_refl _) _
   obtain ⟨hca,hcb⟩:=hcar
   have HCB:Hid (0<=x*2^(n%32).toNat/4294967296∧x*2^(n%32).toNat/4294967296<2^(n%32).toNat):=⟨hca,hcb⟩
   have hcc:x*2^(n%32).toNat/4294967296<=4294967295:=by omega
   have HL:Hid (D.length=k):=hDl
   clear h1 h2 h3 u1 u2 hx ht hD hO hown hnx hz hdz hlen hcb
   go_wp2
   go_roundw
   case rel=>exact ⟨k+1,x*2^(n%32).toNat/4294967296,D++[(x*2^(n%32).toNat+c)%4294967296],by omega,by rw [List.length_append,HL.out];rfl,by go_num,HCB.out.1,HCB.out.2,HD,HO,HS.out,HB.out⟩
   case measure=>simp [intOf];omega
  ·have hkn:k=zs.length:=by omega
   subst hkn
   have hlen:=φu s D c (zs.length-zs.length)
   have hDD:ζi 4294967296 (ζL (2^(n%32).toNat) zs) 0=D:=by
    rw [hD.out,List.drop_eq_nil_of_le (Nat.le_refl _)];simp [ζL,ζi]
   have hOO:ζp 4294967296 (ζL (2^(n%32).toNat) zs) 0=c:=by
    rw [hO.out,List.drop_eq_nil_of_le (Nat.le_refl _)];simp [ζL,ζp]
   have e:ψA s D c (zs.length-zs.length)=List.replicate s 0++(D++[c]):=by simp [ψA]
   have hVV:val 4294967296 (ψA s D c (zs.length-zs.length))=val 4294967296 zs*2^n.toNat:=by
    rw [e,τt,<-hDD,<-hOO,ξV,φe,Int.add_zero,HV.out]
   have hG:Dig 4294967296 (ψA s D c (zs.length-zs.length)):=by
    rw [e]
    refine Dig.append (Dig.zeros (by decide) _) (Dig.append ?_ (Dig.cons hc0 (by omega) (Dig.nil _)))
    rw [<-hDD]
    exact ζ2 (by decide) _ _
   rw [hDl] at hlen
   obtain ⟨R,hR⟩: ∃R,R=ψA s D c (zs.length-zs.length):=⟨_,rfl⟩
   rw [<-hR] at hVV hG hlen hown
   have HVV:Hid (val 4294967296 R=val 4294967296 zs*2^n.toNat):=hVV
   have HG:Hid (Dig 4294967296 R):=hG
   have HS:Hid (Own .u32 wr w 0 R):=hown
   have HB:Hid (Below w w wr):=hnx
   have hlen':s+zs.length+1=R.length:=by omega
   have HLR:Hid (s+zs.length+1=R.length):=hlen'
   clear e hR hVV hG hDD hOO hD hO hown hnx hz hdz hDl hlen hlen'
   go_wp2_with fail
   rw [HLR.out]
   have e1:=HLR.out
   refine (ζZ _ _ R _ w (by rw [<-e1];omega) (by rw [<-e1];unfold maxLen;omega) (Nat.le_refl _) (fun h=>by cases h) (HS.out.new (Nat.le_refl _))).mono ?_
   rintro e w1 ⟨a2,c2,rfl,hf2,hm2,hr2,hw⟩
   subst hw
   have HM:Hid (ξx w (val 4294967296 zs*2^n.toNat) (zs.length+(n/32).toNat+1) (.returned (.slice a2 (trimL R).length c2)) w1):=by
    refine ⟨a2,c2,trimL R,rfl,hf2,hm2,ξb HG.out,by rw [ξk,HVV.out],?_,hr2,HB.out⟩
    have:=ξL R
    rw [HSN.out]
    omega
   clear hf2 hm2 hr2 HG HVV HB HS e1
   go_wp2
   go_ret
   exact HM.out
structure Bx5 (w:World) (u v e:Value) (W:World):Prop where
 q0:W.cell? ⟨w,0,none⟩=some u
 q1:W.cell? ⟨w,1,none⟩=some v
 q2:W.cell? ⟨w,2,none⟩=some e
 r1:W.cell? ⟨↑w+1,0,none⟩=some ↑false
 r2:W.cell? ⟨↑w+1,1,none⟩=some ↑()
 r4: ∀j,W.frozen? ⟨↑w+1,j,none⟩=false
 le:w.heap.size+1+1<=W.heap.size
 bel:Below w w W
theorem Bx5.start (w:World) (u v e:Value) (t t':TypeId):Bx5 w u v e ((w.alloc (.cells #[u,v,e] t)).alloc (.cells #[false,()] t')):=by
 refine ⟨?_,?_,?_,?_,?_,?_,?_,ξr _ _ _⟩
 all_goals simp [go_sem]
theorem Bx5.later {w:World} {u v e:Value} {W W':World} (h:Bx5 w u v e W) (hb:Below W W W'):Bx5 w u v e W':=by
 have hl:=h.le
 exact ⟨(hb.cell (by simp;omega)).trans h.q0,(hb.cell (by simp;omega)).trans h.q1,(hb.cell (by simp;omega)).trans h.q2,(hb.cell (by simp;omega)).trans h.r1,(hb.cell (by simp;omega)).trans h.r2,fun j=>(hb.frozen (by simp;omega)).trans (h.r4 j),Nat.le_trans h.le hb.size,h.bel.trans (hb.mono (by omega))⟩
theorem Bx5.held {w:World} {u v e:Value} {W W':World} (h:Bx5 w u v e W) (hb:Below (↑w+1) W W'):W'.cell? ⟨w,0,none⟩=some u∧W'.cell? ⟨w,1,none⟩=some v∧W'.cell? ⟨w,2,none⟩=some e∧Below (↑w+1) W W':=
 ⟨(hb.cell (by simp)).trans h.q0,(hb.cell (by simp)).trans h.q1,(hb.cell (by simp)).trans h.q2,hb⟩
theorem ρY (g:Bool) (a:Option Addr) (c:Nat) (zs:List Int) (x E' n:Int) (w:World) (hn:zs.length<=60000) (n0:0<=n) (n1:n<=120000) (hz:ζk .u32 w a zs) (h:B1 g zs x):
 Calls prog 202 #[.agg #[g,.slice a zs c,.int .i64 (E'+n)],.int .i64 E'] w fun e w'=>ψX w (x*2^n.toNat) (zs.length+3751) e w':=by
 have B0:Hid (∀t t',Bx5 w g (.slice a zs c) (.int .i64 (E'+n)) ((w.alloc (.cells #[g,.slice a zs c,.int .i64 (E'+n)] t)).alloc (.cells #[false,()] t'))):=fun t t'=>Bx5.start w _ _ _ _ _
 have HX:Hid (sg g (val 4294967296 zs*2^n.toNat)=x*2^n.toNat):=by
  unfold Hid
  rw [h.num]
  cases g
  ·rfl
  ·simp only [sg,if_true];rw [Int.neg_mul]
 have hsub:E'+n-E'=n:=by omega
 have HW:Hid (IntKind.i64.wrap n=n):=φU (by omega) (by omega)
 go_enter func202,ntmps202
 go_wp2
 obtain ⟨W0,hW0⟩: ∃W0,W0=((w.alloc (.cells #[g,.slice a zs c,.int .i64 (E'+n)] 242)).alloc (.cells #[false,()] 31)):=⟨_,rfl⟩
 have F:Hid (Bx5 w g (.slice a zs c) (.int .i64 (E'+n)) W0):=by unfold Hid;rw [hW0];exact B0.out _ _
 rw [<-hW0]
 clear hW0 B0
 have zz:w.heap.size+1<W0.heap.size:=F.out.le
 go_region_held3 (fun w'=>w'.cell? ⟨w,0,none⟩=some ↑g∧w'.cell? ⟨w,1,none⟩=some (.slice a zs c)∧w'.cell? ⟨w,2,none⟩=some (.int .i64 (E'+n))∧Below (↑w+1) W0 w')
  (first|exact F.out.held (Below.refl _ _).drew|exact F.out.held (by assumption)|exact F.out.held (Below.setCell (Below.setCell (by assumption) (by simp) _) (by simp) _))
  (first
   |(go_at_call 208;rw [HW.out];refine (τ0 a c zs n _ (by omega) n0 (by omega) (hz.later F.out.bel.drew) h.can.1).mono ?_;rintro e w1 ⟨a1,c1,fs,rfl,hf1,hm1,hcan1,hv1,hl1,hr1,hb1⟩;have hB1:Below W0 W0 w1:=(Below.refl _ _).drew.trans hb1;have hB1':Below (↑w+1) W0 w1:=hB1.mono (by omega))
   |(go_at_call 92;refine (ζT g a1 fs.length c1 _).mono ?_;rintro e w2 ⟨rfl,hb2⟩;have hB2:Below W0 W0 w2:=hB1.trans (hb2.mono hB1.size);have hB2':Below (↑w+1) W0 w2:=hB2.mono (by omega);have hr2:=hr1.later hb2;have F2:Hid (Bx5 w g (.slice a zs c) (.int .i64 (E'+n)) w2):=F.out.later hB2;have r1:=F2.out.r1;have r2:=F2.out.r2;have r4:=F2.out.r4))
 have HB1:Hid (B1 (g && decide (0<fs.length)) fs (x*2^n.toNat)):=by unfold Hid;rw [<-HX.out];exact B1.of_signed hcan1 hv1
 have HR:Hid (ζl .u32 w2 (↑w+1+1) a1 fs):=by unfold Hid;exact hr2.down (by simp;omega)
 have hl2:fs.length<=zs.length+3751∧fs.length<=c1∧c1<=maxLen:=by omega
 clear hB1 hB1' hB2 hB2' hb1 hb2 hr1 hr2 hcan1 hv1
 generalize (g && decide (0<fs.length))=G at*
 go_wp2
 refine bodyPost_ret (v:= .agg #[G,.slice a1 fs c1]) (by simp [results,results202,go_sem,r1,r2]) rfl ?_
 refine ⟨G,a1,c1,fs,rfl,HB1.out,hl2,?_,?_⟩
 ·exact ((HR.out.setLow (by simp) _).setLow (by simp) _).down (by omega)
 ·exact (F2.out.bel.setCell (by simp) _).setCell (by simp) _
theorem B1.neg (h:B1 g zs x):B1 (!g && decide (0<zs.length)) zs (-x):=by
 have h1:=B1.of_signed (g:= !g) h.can rfl
 rw [sg_not,<-h.num] at h1
 exact h1
theorem φC (a:Option Addr) (c:Nat) (zs:List Int) (w:World) (hn:zs.length<=100000) (hz:ζk .u32 w a zs) (hcz:ζv 4294967296 zs) (hne:zs≠[]) (hT:Tab w):
 Calls prog 88 #[.slice a zs c] w fun e w'=> ∃t:Nat,e= .returned (.int .i64 t)∧t<=32*zs.length∧ρy (val 4294967296 zs) t∧Below w w w':=by
 have HP:Hid (0<val 4294967296 zs):=ζP (B:=4294967296) (by decide) hcz hne
 have HD:Hid (Dig 4294967296 zs):=hcz.1
 obtain ⟨b,off,rfl,hb,hc⟩:=hz.resolve_left hne
 have HC:Hid (∀j,j<zs.length->w.cell? ⟨b,off+j,none⟩=some (.int .u32 (zs.getD j 0))):=hc
 have HT:Hid (Tab w):=hT
 have hlen:zs.length≠0:=fun e=>hne (List.length_eq_zero_iff.1 e)
 clear hz hcz hne hc hT hb
 go_enter func88,ntmps88
 go_wp2
 go_loop [3,4,7] (fun _ _ i=> ∃j:Nat,j<zs.length∧i= .int .i64 j∧Hid (ψp (zs.take j)=false)) (fun _ _ i=>zs.length-(intOf i).toNat)
 case atStart=>exact ⟨0,by omega,rfl,rfl⟩
 case round=>
  obtain ⟨j,hj,rfl,hany⟩:=hrel
  have g1:=HC.out j hj
  have hst:=φT hj
  obtain ⟨y,hy⟩: ∃y,y=zs.getD j 0:=⟨_,rfl⟩
  have hyb:=HD.out.at (by decide) j
  rw [<-hy] at g1 hst hyb
  have hji:(j:Int)<zs.length:=by omega
  by_cases hy0:y=0
  ·have hany2:ψp (zs.take (j+1))=false:=by rw [hst,hany.out,hy0];rfl
   have hj2:j+1<zs.length:=by
    by_cases hp:j+1<zs.length
    ·exact hp
    ·have:zs.take (j+1)=zs:=List.take_of_length_le (by omega)
     rw [this,ψq (B:=4294967296) (by decide) HD.out] at hany2
     have:=HP.out
     omega
   have HA:Hid (ψp (zs.take (j+1))=false):=hany2
   subst hy0
   clear hst hany hany2 hy
   go_wp2
   go_round
   case rel=>exact ⟨j+1,hj2,by go_num,HA⟩
   case measure=>simp [intOf];omega
  ·have hy1:(y !=0)=true:=by rw [bne_iff_ne];exact hy0
   have HV0:Hid (val 4294967296 (zs.take j)=0):=(ψq (B:=4294967296) (by decide) (HD.out.take j)).1 hany.out
   have HY:Hid (y=zs.getD j 0):=hy
   obtain ⟨hyb0,hyb1⟩:=hyb
   clear hst hany hy
   go_wp2_with fail
   refine (νH y _ (by omega) hyb1 HT.out).mono ?_
   rintro e w1 ⟨t,rfl,ht,⟨q,hq,ho⟩,hb1⟩
   have HT2:Hid (ρy (val 4294967296 zs) (32*j+t)):=ρz (b:=32) hj HV0.out (by rw [<-HY.out];exact hq) ho ht
   have HB:Hid (Below w w w1):=hb1
   have ht':(t:Int)<32:=by omega
   clear hb1 hq ho
   go_wp2
   refine bodyPost_ret (v:= .int .i64 (32*(j:Int)+t)) (by simp [results,results88,go_sem]) rfl ?_
   exact ⟨32*j+t,by simp,by omega,HT2.out,HB.out⟩
def Norm (v m e:Int):Prop:=(v=0∧m=0∧e=0)∨(v≠0∧m%2=1∧0<=e+100000∧v=m*2^(e+100000).toNat)
def κA (ok:Bool) (v:Int) (G:Bool) (Z:List Int) (E K:Int):Prop:=
 (ok=false∧G=false∧Z=[]∧E=0∧K=1)∨(ok=true∧ ∃m e,Norm v m e∧(((τZ m∧ -20000<=e∧e<=20000)∧B1 G Z m∧E=e∧K=0)∨(¬(τZ m∧ -20000<=e∧e<=20000)∧G=false∧Z=[]∧E=0∧K=2)))
theorem κA.len {ok:Bool} {v:Int} {G:Bool} {Z:List Int} {E K:Int} (h:κA ok v G Z E K):Z.length<=512∧U32 Z:=by
 rcases h with ⟨_,_,h2,_⟩| ⟨_,m,e,_,⟨⟨c0,_⟩,hB,_⟩| ⟨_,_,c2,_⟩⟩
 ·subst h2
  exact ⟨by simp,fun z hz=>by cases hz⟩
 ·exact ⟨hB.len c0,hB.can.1⟩
 ·subst c2
  exact ⟨by simp,fun z hz=>by cases hz⟩
theorem ρZ {E:Int} {t:Nat} (h:B1 g zs x) (hne:zs≠[]) (hE: -100000<=E) (ht:ρy (val 4294967296 zs) t):Norm (atK 100000 x E) (sg g (val 4294967296 zs/2^t)) (E+t):=by
 obtain ⟨n1,n2⟩:=ρH h.num ht
 have hv:=ζP (B:=4294967296) (by decide) h.can hne
 have hp:(0:Int)<2^(E+100000).toNat:=Int.pow_pos (by decide)
 refine .inr ⟨?_,n2,by omega,?_⟩
 ·unfold atK
  intro hz
  rcases Int.mul_eq_zero.1 hz with h5|h5
  ·rw [h.num] at h5
   cases g<;>simp [sg] at h5<;>omega
  ·omega
 ·unfold atK
  rw [n1,Int.mul_assoc,<-Int.pow_add,show t+(E+100000).toNat=(E+↑t+100000).toNat by omega]
end Go.Proofs.YtfieffpobgcpmaaGreatDoor
