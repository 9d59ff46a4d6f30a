import Derived.Test.YtfieffpobgcpmaaGreatDoorFqFRoBImplLRoCS
import Derived.Test.YtfieffpobgcpmaaGreatDoorEsGToBgES
import Derived.Test.YtfieffpobgcpmaaGreatDoorBgIBgJBhACsASh0S
import Derived.Test.YtfieffpobgcpmaaGreatDoorBgNReARkACoAS
set_option maxRecDepth 100000
set_option maxHeartbeats 32000000
namespace Go.Proofs.YtfieffpobgcpmaaGreatDoor
open Go.RowKit Go.Proofs.Tryz
variable {n x z y ca cb:Nat} {v r p q A B:Int}
open Go.RowKit Fl
theorem κ4 {P D:Int} {c:Nat} (h1:2^n<=P) (h2:P<2^(n+1)) (hD:D=P/2^c) (hc:c=0∧n+1<=64∨c+64=n+1):D*2^c<=P∧P<(D+1)*2^c∧0<D∧D<2^64∧(c=0∨2^63<=D):=by
 have pc:=pow_pos2 c
 have a1:D*2^c<=P:=by rw [hD];exact Int.ediv_mul_le _ (by omega)
 have a2:P<(D+1)*2^c:=by rw [hD];exact Int.lt_ediv_add_one_mul_self _ pc
 have pn:=pow_pos2 n
 rcases hc with ⟨rfl,hn⟩|hn
 ·have:(2:Int)^(n+1)<=2^64:=pow_le hn
  simp only [Int.pow_zero,Int.mul_one] at a1 a2⊢
  exact ⟨a1,a2,by omega,by omega,.inl trivial⟩
 ·have e1:(2:Int)^n=2^63*2^c:=by rw [<-Int.pow_add];congr 1;omega
  have e2:(2:Int)^(n+1)=2^64*2^c:=by rw [<-Int.pow_add];congr 1;omega
  have d1:2^63<=D:=by
   have:2^63*2^c<(D+1)*2^c:=by omega
   have:=Int.lt_of_mul_lt_mul_right this (Int.le_of_lt pc)
   omega
  have d2:D<2^64:=by
   have:D*2^c<2^64*2^c:=by omega
   exact Int.lt_of_mul_lt_mul_right this (Int.le_of_lt pc)
  exact ⟨a1,a2,by omega,d2,.inr d1⟩
theorem χn (y s:Int) (w:World) (h0:0<=y) (h1:y<4294967296) (hs:s=0∨s=32):
 Calls prog 152 #[.float .f64 (floatOfInt .f64 y),.int .i64 s] w fun e w'=> ∃z,e= .returned (.float .f64 z)∧IsF z (y*2^1074*2^s.toNat)∧Below w w w':=by
 rcases Int.lt_or_eq_of_le h0 with hy|hy
 ·have hF:=isF_ofInt (n:=y) h0 (by omega)
  have pQ:=pow_pos2 1074
  have q1:(4503599627370496:Int)<=y*2^1074:=by
   have h2:1*2^1074<=y*2^1074:=Int.mul_le_mul_of_nonneg_right (by omega) (by omega)
   have h3:(2:Int)^52<=2^1074:=pow_le (by decide)
   omega
  have q2: ∀n:Nat,n<=32->y*2^1074*2^n<2^2098:=by
   intro n hn
   have h2:y*2^1074<=2^32*2^1074:=Int.mul_le_mul_of_nonneg_right (by omega) (by omega)
   have h3:y*2^1074*2^n<=2^32*2^1074*2^n:=Int.mul_le_mul_of_nonneg_right h2 (Int.le_of_lt (pow_pos2 n))
   rw [<-Int.pow_add,<-Int.pow_add] at h3
   have h4:(2:Int)^(32+1074+n)<=2^2097:=pow_le (by omega)
   have h5:=pow_succ2 2097
   have h6:=pow_pos2 2097
   omega
  rcases hs with rfl|rfl
  ·exact φk _ _ 0 w hF q1 (q2 0 (by decide))
  ·exact φk _ _ 32 w hF q1 (q2 32 (by decide))
 ·subst hy
  refine (χQ s w).mono ?_
  rintro e w' ⟨rfl,hb⟩
  exact ⟨0,rfl,by rw [Int.zero_mul,Int.zero_mul];exact isF_zero,hb⟩
theorem σC (y:Int) (h0:0<=y) (h1:y<4294967296):Fl (y*2^1074):=⟨y,1074,rfl,by omega,by omega⟩
theorem νs (y:Int) (h0:0<=y) (h1:y<4294967296):Nr 0 (y*2^1074) (y*2^1074):=
 ⟨σC y h0 h1,fun f _ h=>by simp only [Int.pow_zero,Int.mul_one] at h⊢;omega,fun f _ h=>by simp only [Int.pow_zero,Int.mul_one] at h⊢;omega⟩
theorem σD (y:Int) (n:Nat) (hn:n<=32) (h0:0<=y) (h1:y<4294967296):Mg 1140 (y*2^1074*2^n):=by
 have pQ:=pow_pos2 1074
 have pn:=pow_pos2 n
 have h2:y*2^1074<=2^32*2^1074:=Int.mul_le_mul_of_nonneg_right (by omega) (by omega)
 have h3:y*2^1074*2^n<=2^32*2^1074*2^n:=Int.mul_le_mul_of_nonneg_right h2 (Int.le_of_lt pn)
 rw [<-Int.pow_add,<-Int.pow_add] at h3
 have h4:(2:Int)^(32+1074+n)<=2^1140:=pow_le (by omega)
 have h5:=Int.mul_nonneg (Int.mul_nonneg h0 (Int.le_of_lt pQ)) (Int.le_of_lt pn)
 have h6:=pow_pos2 1140
 exact ⟨by omega,by omega⟩
theorem addL {y s:Int} (hx:IsF x v) (hz:IsF z (y*2^1074*2^s.toNat)) (hv:v=0∨ ∃t,v=t*2^1074∧0<=t∧t<4294967296) (h0:0<=y) (h1:y<4294967296) (hs:s=0∨s=32): ∃u r,floatBits .add .f64 x z=some u∧IsF u r∧Nr 0 (v+y*2^1074*2^s.toNat) r:=by
 have m1:Mg 1140 v:=by
  rcases hv with rfl| ⟨t,rfl,t0,t1⟩
  ·have:=pow_pos2 1140
   exact ⟨by omega,by omega⟩
  ·have:=σD t 0 (by decide) t0 t1
   rwa [Int.pow_zero,Int.mul_one] at this
 have m2:=σD y s.toNat (by omega) h0 h1
 obtain ⟨u,r,e,hu,hr,_⟩:=addB hx hz m1 m2 (by decide)
 exact ⟨u,r,e,hu,hr⟩
theorem σE {y:Int} (h:Nr 0 (v+y*2^1074*2^(0:Int).toNat) r) (hv:v=0) (h0:0<=y) (h1:y<4294967296):r=y*2^1074:=by
 rw [hv,Int.zero_add,show (0:Int).toNat=0 from rfl,Int.pow_zero,Int.mul_one] at h
 exact h.exact (σC y h0 h1)
theorem κ5 {y z:Int} (h:Nr 0 (v+z*2^1074*2^(32:Int).toNat) r) (hv:v=y*2^1074):Nr 0 ((y+4294967296*z)*2^1074) r:=by
 have e:v+z*2^1074*2^(32:Int).toNat=(y+4294967296*z)*2^1074:=by
  rw [hv,show (32:Int).toNat=32 from rfl,show (2:Int)^32=4294967296 from rfl]
  generalize (2:Int)^1074=Q
  grind
 rwa [e] at h
theorem θf (a:Option Addr) (p:Nat) (zs:List Int) (n:Int) (w:World) (hn:zs.length<=100000) (hp:zs.length<=p) (hpm:p<=maxLen) (n0:0<=n) (n1:n<=1000000) (hz:ζk .u32 w a zs) (hcz:ζv 4294967296 zs):
 Calls prog 91 #[.slice a zs p,.int .i64 n] w fun e w'=> ∃ex a c fs,e= .returned (.tuple #[.slice a fs.length c,.bool ex])∧fs.length<=c∧c<=maxLen∧ζv 4294967296 fs∧val 4294967296 fs=val 4294967296 zs/2^n.toNat∧fs.length<=zs.length∧ζl .u32 w' w a fs∧Below w w w':=
 (ξQ a p zs n w hn hp hpm n0 n1 hz hcz).mono fun _ _ h=>⟨_,h⟩
def ωs (w:World) (P:Int) (e:Ending) (w':World):Prop:= ∃(x cut:Nat) (A:Int),e= .returned (.tuple #[x,.int .i64 (cut:Int)])∧ψE P x cut A∧Below w w w'
theorem ωt (a:Option Addr) (c:Nat) (zs:List Int) (w:World) (hn:zs.length<=1000) (hp:zs.length<=c) (hpm:c<=maxLen) (hz:ζk .u32 w a zs) (hcz:ζv 4294967296 zs) (hne:zs≠[]):
 Calls prog 151 #[.slice a zs c] w fun e w'=>ωs w (val 4294967296 zs) e w':=by
 have HB:=Hid.mk (ρi a c zs w (by omega) hz hcz hne)
 have HD:=Hid.mk (fun (k:Int) (k0:0<=k) (k1:k<=1000000)=>θf a c zs k w (by omega) hp hpm k0 k1 hz hcz)
 have HZ:=Hid.mk hz
 have HC:=Hid.mk hcz
 obtain ⟨P,hP⟩: ∃P,P=val 4294967296 zs:=⟨_,rfl⟩
 rw [<-hP]
 have HP:=Hid.mk hP
 have hzl:=hn
 clear hz hcz hne hp hpm hP
 go_enter func151,ntmps151
 go_wp2_with fail
 refine HB.out.mono ?_
 rintro e w1 ⟨n,rfl,hn1,hP1,hP2,rfl⟩
 rw [<-HP.out] at hP1 hP2
 have HP1:=Hid.mk hP1
 have HP2:=Hid.mk hP2
 clear hP1 hP2
 obtain ⟨k,hk⟩: ∃k:Int,k=if (n:Int)+1-64<0 then 0 else (n:Int)+1-64:=⟨_,rfl⟩
 have HK:Hid (0<=k∧k<=32000∧(k.toNat=0∧n+1<=64∨k.toNat+64=n+1)):=by
  unfold Hid
  split at hk<;>omega
 by_cases hm:(n:Int)+1-64<0
 all_goals
  first|rw [if_pos hm] at hk|rw [if_neg hm] at hk
  have HKE:=Hid.mk hk
  clear hk
  go_wp2_with fail
  refine (HD.out _ (by omega) (by omega)).mono ?_
  rintro e w2 ⟨ex,ta,tc,fs,rfl,hfc,hfm,hcan,hval,_,hrow,hb⟩
  rw [<-HKE.out,<-HP.out] at hval
  obtain ⟨D,hDd⟩: ∃D,D=P/2^k.toNat:=⟨_,rfl⟩
  rw [<-hDd] at hval
  have HF:Hid (D*2^k.toNat<=P∧P<(D+1)*2^k.toNat∧0<D∧D<2^64∧(k.toNat=0∨2^63<=D)):=κ4 HP1.out HP2.out hDd HK.out.2.2
  obtain ⟨tb,tq,rfl,htb,htc⟩:=hrow.row.resolve_left (fun h=>by rw [h] at hval;simp [val] at hval;have:=HF.out.2.2.1;omega)
  have HR:Hid (∀W,Below w2 w2 W-> ∀j,j<fs.length->W.cell? ⟨tb,tq+j,none⟩=some (.int .u32 (fs.getD j 0))):=fun W h j hj=>(h.cell (p:=⟨tb,tq+j,none⟩) htb).trans (htc j hj)
  have HBw:=Hid.mk hb
  have hcs:=σB hcan hval HF.out.2.2.1 HF.out.2.2.2.1
  clear hcan hval hrow hb hfc hfm hDd HD HB HZ HC htb htc
  rcases hcs with ⟨y,rfl,hDy,hy0,hy1⟩| ⟨y,z,rfl,hDy,hy0,hy1,hz0,hz1⟩
  ·have HDy:=Hid.mk hDy
   clear hDy
   go_wp2
   go_loopw [7,22] (fun s7 s22 wr=> ∃(i x:Nat) (v:Int),i<=1∧s22= .int .i64 (i:Int)∧s7= .float .f64 x∧Hid (IsF x v∧v=if i=0 then 0 else y*2^1074)∧Hid (Below w2 w2 wr)) (fun _ s22 _=>1-(intOf s22).toNat)
   case atStart=>exact ⟨0,0,0,by omega,rfl,rfl,⟨isF_zero,rfl⟩,Below.refl _ _⟩
   case round=>
    obtain ⟨i,x,v,hi,rfl,rfl,HV,HW⟩:=hrel
    rcases (by omega:i=0∨i=1) with rfl|rfl
    ·have hv:v=0:=by have:=HV.out.2;rwa [if_pos rfl] at this
     have c0:=HR.out wr HW.out 0 (by simp)
     simp only [Nat.add_zero,List.getD_cons_zero] at c0
     go_wp2_with fail
     refine (χn y 0 _ (by omega) (by omega) (.inl rfl)).mono ?_
     rintro e w3 ⟨zz,rfl,hzz,hb⟩
     obtain ⟨uu,r,hadd,hu,hr⟩:=addL HV.out.1 hzz (.inl hv) (by omega) (by omega) (.inl rfl)
     have hop: ∀t w,(binOp .add t x (.float .f64 zz)).run prog w= .ok (.float .f64 uu) w:=fun t w=>run_float_arith w .add t .f64 _ _ _ hadd
     have HN:Hid (IsF uu r∧r=y*2^1074):=⟨hu,by exact σE hr hv (by omega) (by omega)⟩
     have HW3:Hid (Below w2 w2 w3):=HW.out.trans (hb.mono HW.out.size)
     clear hadd hu hr hzz hb hv c0 HW
     go_wp2
     go_roundw
     case rel=>exact ⟨1,uu,r,by omega,by go_num,rfl,⟨HN.out.1,by rw [if_neg (by decide)];exact HN.out.2⟩,HW3.out⟩
     case measure=>simp [intOf]
    ·have hv:v=y*2^1074:=by have:=HV.out.2;rwa [if_neg (by decide)] at this
     have HNv:Hid (Nr 0 (D*2^1074) v):=by rw [HDy.out,hv];exact νs y (by omega) (by omega)
     clear hv
     go_wp2
     have hkk:(k.toNat:Int)=_:=(Int.toNat_of_nonneg HK.out.1).trans HKE.out
     go_ret2
     refine ⟨x,k.toNat,v,?_,?_,?_⟩
     ·rw [hkk];rfl
     ·exact ηF HV.out.1 HNv.out rfl HF.out.1 HF.out.2.1 HF.out.2.2.1 HF.out.2.2.2.1 HF.out.2.2.2.2 (by have:=HK.out;omega)
     ·exact HBw.out.trans (HW.out.mono HBw.out.size)
  ·have HDy:=Hid.mk hDy
   clear hDy
   go_wp2
   go_loopw [7,22] (fun s7 s22 wr=> ∃(i x:Nat) (v:Int),i<=2∧s22= .int .i64 (i:Int)∧s7= .float .f64 x∧Hid (IsF x v∧if i=0 then v=0 else if i=1 then v=y*2^1074 else Nr 0 ((y+4294967296*z)*2^1074) v)∧Hid (Below w2 w2 wr)) (fun _ s22 _=>2-(intOf s22).toNat)
   case atStart=>exact ⟨0,0,0,by omega,rfl,rfl,⟨isF_zero,rfl⟩,Below.refl _ _⟩
   case round=>
    obtain ⟨i,x,v,hi,rfl,rfl,HV,HW⟩:=hrel
    rcases (by omega:i=0∨i=1∨i=2) with rfl|rfl|rfl
    ·have hv:v=0:=by have:=HV.out.2;rwa [if_pos rfl] at this
     have c0:=HR.out wr HW.out 0 (by simp)
     simp only [Nat.add_zero,List.getD_cons_zero] at c0
     go_wp2_with fail
     refine (χn y 0 _ (by omega) (by omega) (.inl rfl)).mono ?_
     rintro e w3 ⟨zz,rfl,hzz,hb⟩
     obtain ⟨uu,r,hadd,hu,hr⟩:=addL HV.out.1 hzz (.inl hv) (by omega) (by omega) (.inl rfl)
     have hop: ∀t w,(binOp .add t x (.float .f64 zz)).run prog w= .ok (.float .f64 uu) w:=fun t w=>run_float_arith w .add t .f64 _ _ _ hadd
     have HN:Hid (IsF uu r∧r=y*2^1074):=⟨hu,by exact σE hr hv (by omega) (by omega)⟩
     have HW3:Hid (Below w2 w2 w3):=HW.out.trans (hb.mono HW.out.size)
     clear hadd hu hr hzz hb hv c0 HW
     go_wp2
     go_roundw
     case rel=>exact ⟨1,uu,r,by omega,by go_num,rfl,⟨HN.out.1,by rw [if_neg (by decide),if_pos rfl];exact HN.out.2⟩,HW3.out⟩
     case measure=>simp [intOf]
    ·have hv:v=y*2^1074:=by have:=HV.out.2;rwa [if_neg (by decide),if_pos rfl] at this
     have c0:=HR.out wr HW.out 1 (by simp)
     simp only [List.getD_cons_zero,List.getD_cons_succ] at c0
     go_wp2_with fail
     refine (χn z 32 _ (by omega) (by omega) (.inr rfl)).mono ?_
     rintro e w3 ⟨zz,rfl,hzz,hb⟩
     obtain ⟨uu,r,hadd,hu,hr⟩:=addL HV.out.1 hzz (.inr ⟨y,hv,hy0,hy1⟩) (by omega) (by omega) (.inr rfl)
     have hop: ∀t w,(binOp .add t x (.float .f64 zz)).run prog w= .ok (.float .f64 uu) w:=fun t w=>run_float_arith w .add t .f64 _ _ _ hadd
     have HN:Hid (IsF uu r∧Nr 0 ((y+4294967296*z)*2^1074) r):=⟨hu,by exact κ5 hr hv⟩
     have HW3:Hid (Below w2 w2 w3):=HW.out.trans (hb.mono HW.out.size)
     clear hadd hu hr hzz hb hv c0 HW
     go_wp2
     go_roundw
     case rel=>exact ⟨2,uu,r,by omega,by go_num,rfl,⟨HN.out.1,by rw [if_neg (by decide),if_neg (by decide)];exact HN.out.2⟩,HW3.out⟩
     case measure=>simp [intOf]
    ·have HNv:Hid (Nr 0 (D*2^1074) v):=by unfold Hid;rw [HDy.out];have:=HV.out.2;rwa [if_neg (by decide),if_neg (by decide)] at this
     go_wp2
     have hkk:(k.toNat:Int)=_:=(Int.toNat_of_nonneg HK.out.1).trans HKE.out
     go_ret2
     refine ⟨x,k.toNat,v,?_,?_,?_⟩
     ·rw [hkk];rfl
     ·exact ηF HV.out.1 HNv.out rfl HF.out.1 HF.out.2.1 HF.out.2.2.1 HF.out.2.2.2.1 HF.out.2.2.2.2 (by have:=HK.out;omega)
     ·exact HBw.out.trans (HW.out.mono HBw.out.size)
open Go.RowKit Fl
theorem θg {m:Nat} (hp:0<p) (hq:0<q) (hB:0<B) (hr:0<r) (a:Rel 132 (A*2^ca) (p*2^1074)) (b:Rel 132 (B*2^cb) (q*2^1074)) (d:Rel 194 (r*B) (A*2^1074)) (hmn:ca+m=cb+n):Rel 462 (r*2^n*q) (p*2^1074*2^m):=by
 have pQ:=pow_pos2 1074
 have pa:=pow_pos2 ca
 have pb:=pow_pos2 cb
 have pm:=pow_pos2 m
 have pn:=pow_pos2 n
 have hpw:(2:Int)^ca*2^m=2^cb*2^n:=by rw [<-Int.pow_add,<-Int.pow_add,hmn]
 generalize (2:Int)^1074=Q at*
 generalize (2:Int)^ca=X at*
 generalize (2:Int)^cb=Y at*
 generalize (2:Int)^m=M at*
 generalize (2:Int)^n=N at*
 have hBY:=Int.mul_pos hB pb
 have hqQ:=Int.mul_pos hq pQ
 have hpQ:=Int.mul_pos hp pQ
 have s1:=(b.symm (Int.le_of_lt hBY) (Int.le_of_lt hqQ) (by decide) (by decide)).mul (c:=r*N) (Int.le_of_lt (Int.mul_pos hr pn))
 have s2:=d.mul (c:=X*M) (Int.le_of_lt (Int.mul_pos pa pm))
 have s3:=a.mul (c:=M*Q) (Int.le_of_lt (Int.mul_pos pm pQ))
 have e1:B*Y*(r*N)=r*B*(X*M):=by rw [hpw];grind
 have e2:A*Q*(X*M)=A*X*(M*Q):=by grind
 rw [e1] at s1
 rw [e2] at s2
 have hA:0<=A*X*(M*Q):=by
  have:=a.hi
  have hl:=a.lo
  have h0:0<=A*X:=by omega
  exact Int.mul_nonneg h0 (Int.le_of_lt (Int.mul_pos pm pQ))
 have hP:0<=p*Q*(M*Q):=Int.le_of_lt (Int.mul_pos hpQ (Int.mul_pos pm pQ))
 have t1:=s1.trans s2 hA (by decide) (by decide) (by decide) (by decide)
 have t2:=t1.trans s3 hP (by decide) (by decide) (by decide) (by decide)
 refine Rel.of_mul (c:=Q) pQ ?_
 have e3:r*N*q*Q=q*Q*(r*N):=by grind
 have e4:p*Q*M*Q=p*Q*(M*Q):=by grind
 rw [e3,e4]
 exact t2.up hP (by decide)
theorem σF {b:Int} {e:Nat} (hp:0<p) (hq:0<q) (fv:Fl v) (fb:Fl b) (hb:0<b) (h:Rel 462 (v*q) (p*2^1074)) (hbv:Rel 194 (b*2^50) v) (h1:v<=2^(1074+e)) (h0:0<v):Est 0 e q p v b:=by
 have pQ:=pow_pos2 1074
 have hY:=Int.mul_pos hp pQ
 have hX:=Int.mul_pos h0 hq
 have k1:=h.lo
 have k2:=h.hi
 have k3:=(hbv.mul (Int.le_of_lt hq)).lo
 have k4:=hbv.hi
 have e1:b*2^50*q=2^50*(b*q):=by grind
 rw [e1] at k3
 refine ⟨fv,fb,Int.le_of_lt hb,hq,?_,?_,fun hz=>by omega,h1,by have:=pow_pos2 (1074+e);omega,by omega⟩
 ·rw [Nat.mul_zero,Nat.sub_zero]
  generalize p*2^1074=Y at*
  generalize v*q=X at*
  generalize b*q=Z at*
  omega
 ·rw [Nat.mul_zero,Nat.sub_zero]
  generalize p*2^1074=Y at*
  generalize v*q=X at*
  generalize b*q=Z at*
  omega
theorem κ6 (e:Nat) (hq:0<q):Est 0 e q 0 0 0:=
 ⟨Fl.zero,Fl.zero,by omega,hq,by rw [Int.zero_mul,Int.zero_mul];decide,by rw [Int.zero_mul,Int.zero_mul];decide,fun _=>⟨0,(Int.mul_zero _).symm⟩,Int.le_of_lt (pow_pos2 _),by have:=pow_pos2 (1074+e);omega,Int.le_of_lt (pow_pos2 _)⟩
open Go.RowKit Fl
theorem κ7 (a:Option Addr) (c:Nat) (w:World) (hc:c<=maxLen):Calls prog 151 #[.slice a ([]:List Int).length c] w fun e w'=>e= .returned (.tuple #[oOo,.int .i64 0])∧Below w w w':=by
 have HD:=Hid.mk (θf a c [] 0 w (by simp) (by simp) hc (by omega) (by omega) (.inl rfl) ⟨Dig.nil _,rfl⟩)
 clear hc
 go_enter func151,ntmps151
 go_wp2_with fail
 refine (ρj a c w).mono ?_
 rintro e w1 ⟨rfl,rfl⟩
 go_wp2_with fail
 refine HD.out.mono ?_
 rintro e w2 ⟨ex,ta,tc,fs,rfl,_,_,_,_,hl,_,hb⟩
 obtain rfl:fs=[]:=List.length_eq_zero_iff.1 (by simpa using hl)
 have HB:=Hid.mk hb
 clear hb hl HD
 go_wp2
 go_loopw [7,22] (fun s7 s22 wr=>s7= .float .f64 0∧s22= .int .i64 0∧wr=w2) (fun _ _ _=>0)
 case atStart=>exact ⟨rfl,rfl,rfl⟩
 case round=>
  obtain ⟨rfl,rfl,rfl⟩:=hrel
  go_wp2
  go_ret2
  exact ⟨rfl,HB.out⟩
theorem isF_50:IsF 4832362400168542208 (2^1124):=⟨false,4832362400168542208,by decide,rfl,by decide+kernel⟩
theorem χR (hq:0<q) (h:Rel 462 (v*q) (p*2^1074)) (h1:p<=q*2^290) (h2:q<=p*2^850):v<=2^(1074+291)∧2^200<=v:=by
 have k1:=h.lo
 have k2:=h.hi
 have pQ:=pow_pos2 1074
 have a1:p*2^1074<=q*2^1364:=by
  have:=Int.mul_le_mul_of_nonneg_right h1 (Int.le_of_lt pQ)
  rw [Int.mul_assoc,<-Int.pow_add] at this
  exact this
 have a2:q*2^224<=p*2^1074:=by
  have:=Int.mul_le_mul_of_nonneg_right h2 (Int.le_of_lt (pow_pos2 224))
  rw [Int.mul_assoc p,<-Int.pow_add] at this
  exact this
 have e1:(2:Int)^(1074+291)=2*2^1364:=pow_succ2 1364
 have e2:(2:Int)^224=2^24*2^200:=Int.pow_add 2 24 200
 have p1:=pow_pos2 1364
 have p2:=pow_pos2 200
 generalize p*2^1074=Y at*
 generalize (2:Int)^1364=K at*
 rw [e2] at a2
 generalize (2:Int)^200=L at*
 have f1:q*(2^24*L)=2^24*(q*L):=by grind
 rw [f1] at a2
 have hqL:=Int.mul_pos hq p2
 have hqK:=Int.mul_pos hq p1
 constructor
 ·rw [e1]
  refine Int.le_of_mul_le_mul_right (a:=q) ?_ hq
  have f2:2*K*q=2*(q*K):=by grind
  rw [f2]
  omega
 ·refine Int.le_of_mul_le_mul_right (a:=q) ?_ hq
  rw [Int.mul_comm L]
  omega
theorem κ8 (hp:0<p) (hq:0<q) (hr:0<r) (L1:ψE p x ca A) (L2:ψE q y cb B) (d:Rel 194 (r*B) (A*2^1074)) (hn:ca=cb+n):Rel 462 (r*2^n*q) (p*2^1074):=by
 have pQ:=pow_pos2 1074
 have:=θg (m:=0) (n:=n) hp hq (by have:=L2.lo;omega) hr L1.rel L2.rel d (by omega)
 rwa [Int.pow_zero,Int.mul_one] at this
theorem ρk {m:Nat} (hp:0<p) (hq:0<q) (hr:0<r) (h2:q<=p*2^850) (L1:ψE p x ca A) (L2:ψE q y cb B) (d:Rel 194 (r*B) (A*2^1074)) (hn:cb=ca+m):9007199254740992*2^m<=r∧ ∀v,v*2^m=r->Rel 462 (v*q) (p*2^1074):=by
 have pQ:=pow_pos2 1074
 have pm:=pow_pos2 m
 have h:=θg (m:=m) (n:=0) hp hq (by have:=L2.lo;omega) hr L1.rel L2.rel d (by omega)
 rw [Int.pow_zero,Int.mul_one] at h
 refine ⟨?_,fun v hv=> ?_⟩
 ·have a2:q*2^224<=p*2^1074:=by
   have:=Int.mul_le_mul_of_nonneg_right h2 (Int.le_of_lt (pow_pos2 224))
   rw [Int.mul_assoc p,<-Int.pow_add] at this
   exact this
  have k1:=h.lo
  have a3:=Int.mul_le_mul_of_nonneg_right a2 (Int.le_of_lt pm)
  generalize p*2^1074*2^m=Y at*
  have f1:q*2^224*2^m=2^224*(2^m*q):=by grind
  rw [f1] at a3
  refine Int.le_of_mul_le_mul_right (a:=q) ?_ hq
  have f2:9007199254740992*2^m*q=9007199254740992*(2^m*q):=Int.mul_assoc ..
  rw [f2]
  have:=Int.mul_pos pm hq
  omega
 ·refine Rel.of_mul (c:=2^m) pm ?_
  rw [<-hv] at h
  have f:v*q*2^m=v*2^m*q:=by grind
  rw [f];exact h
theorem σG (hp:0<p) (hq:0<q) (h1:p<=q*2^290) (h2:q<=p*2^850) (hz:IsF z v) (h:Rel 462 (v*q) (p*2^1074)): ∃y b,floatBits .quo .f64 z 4832362400168542208=some y∧IsF y b∧Est 0 291 q p v b∧b<=v∧v*q<=2*(p*2^1074):=by
 obtain ⟨s1,s2⟩:=χR hq h h1 h2
 have p2:=pow_pos2 200
 have pQ:=pow_pos2 1074
 have e1:(2:Int)^1124=2^50*2^1074:=Int.pow_add 2 50 1074
 obtain ⟨y,b,e,hy,hb,hr⟩:=σz hz isF_50 (by omega) (pow_pos2 _) (by
  have a:(2:Int)^200*2^1074<=v*2^1074:=Int.mul_le_mul_of_nonneg_right s2 (by omega)
  rw [<-Int.pow_add] at a⊢
  have b:(2:Int)^(1124+100)<=2^(200+1074):=pow_le (by decide)
  omega) (by
  have a:v*2^1074<=2^(1074+291)*2^1074:=Int.mul_le_mul_of_nonneg_right s1 (by omega)
  rw [<-Int.pow_add] at a⊢
  have b:(2:Int)^(1074+291+1074)<=2^(1124+2080):=pow_le (by decide)
  omega)
 have hbv:Rel 194 (b*2^50) v:=by
  refine Rel.of_mul (c:=2^1074) pQ ?_
  rw [e1] at hr
  rwa [Int.mul_assoc]
 refine ⟨y,b,e,hy,σF hp hq (IsF.fl hz) (IsF.fl hy) hb h hbv s1 (by omega),?_,?_⟩
 ·have:=hbv.hi;omega
 ·have k:=h.hi
  have:=Int.mul_pos hp pQ
  generalize p*2^1074=Y at*
  generalize v*q=X at*
  omega
open Go.RowKit Fl
theorem νt (x:Nat) (v s:Int) (n:Nat) (w:World) (hs:s=n) (hx:IsF x v) (h1:4503599627370496<=v) (h2:v*2^n<2^2098):
 Calls prog 152 #[x,.int .i64 s] w fun e w'=> ∃z,e= .returned (.float .f64 z)∧IsF z (v*2^n)∧Below w w w':=by
 subst hs;exact φk x v n w hx h1 h2
theorem νu (x:Nat) (v s:Int) (n:Nat) (w:World) (hs:s= -(n:Int)) (hx:IsF x v) (h1:9007199254740992*2^n<=v):
 Calls prog 152 #[x,.int .i64 s] w fun e w'=> ∃z r,e= .returned (.float .f64 z)∧IsF z r∧r*2^n=v∧Below w w w':=by
 subst hs;exact ρg x v n w hx h1
theorem ρl (s:Int) (w:World) (hs:s=(ca:Int)-cb) (hp:0<p) (hq:0<q) (h1:p<=q*2^290) (h2:q<=p*2^850) (L1:ψE p x ca A) (L2:ψE q y cb B) (hz:IsF z r) (hr:0<r) (d:Rel 194 (r*B) (A*2^1074)):
 Calls prog 152 #[z,.int .i64 s] w fun e w'=> ∃u v,e= .returned (.float .f64 u)∧IsF u v∧Rel 462 (v*q) (p*2^1074)∧Below w w w':=by
 by_cases hc:cb<=ca
 ·obtain ⟨n,hn⟩:=Nat.exists_eq_add_of_le hc
  have hR:=κ8 hp hq hr L1 L2 d hn
  obtain ⟨s1,s2⟩:=χR hq hR h1 h2
  have hb:(2:Int)^(1074+291)<2^2098:=by
   have a:(2:Int)^(1074+291)<=2^2097:=pow_le (by decide)
   have b:=pow_succ2 2097
   have c:=pow_pos2 2097
   omega
  have hr52:4503599627370496<=r:=by
   have k1:=d.lo
   have a1:=L1.lo
   have b1:=L2.hi
   have pQ:=pow_pos2 1074
   have t1:(2:Int)^1074*2^1074<=A*2^1074:=Int.mul_le_mul_of_nonneg_right a1 (by omega)
   have t2:r*B<=r*2^1139:=Int.mul_le_mul_of_nonneg_left b1 (by omega)
   rw [<-Int.pow_add] at t1
   have e1:(2:Int)^(1074+1074)=2^1009*2^1139:=by rw [<-Int.pow_add]
   rw [e1] at t1
   have e2:(2:Int)^1009=2^60*2^949:=Int.pow_add 2 60 949
   have p9:=pow_pos2 949
   have p39:=pow_pos2 1139
   have e3:(4503599627370496:Int)<=2^949:=by
    have:(2:Int)^52<=2^949:=pow_le (by decide)
    omega
   have t3:2^949*2^1139<=r*2^1139:=by
    rw [e2] at t1
    have e4:(2:Int)^60*2^949*2^1139=2^60*(2^949*2^1139):=Int.mul_assoc ..
    rw [e4] at t1
    have:=Int.mul_pos p9 p39
    generalize (2:Int)^949*2^1139=K at*
    generalize A*2^1074=Y at*
    omega
   have:=Int.le_of_mul_le_mul_right t3 p39
   omega
  refine (νt z r s n w (by omega) hz hr52 (Int.lt_of_le_of_lt s1 hb)).mono ?_
  rintro e w' ⟨u,rfl,hu,hbl⟩
  exact ⟨u,_,rfl,hu,hR,hbl⟩
 ·obtain ⟨m,hm⟩:=Nat.exists_eq_add_of_le (show ca<=cb by omega)
  obtain ⟨k1,k2⟩:=ρk hp hq hr h2 L1 L2 d hm
  refine (νu z r s m w (by omega) hz k1).mono ?_
  rintro e w' ⟨u,v,rfl,hu,hv,hbl⟩
  exact ⟨u,v,rfl,hu,k2 v hv,hbl⟩
theorem κ9 (L1:ψE p x ca A) (L2:ψE q y cb B): ∃z r,floatBits .quo .f64 x y=some z∧IsF z r∧0<r∧Rel 194 (r*B) (A*2^1074):=by
 have pQ:=pow_pos2 1074
 have a1:=L1.lo
 have a2:=L1.hi
 have b1:=L2.lo
 have b2:=L2.hi
 obtain ⟨z,r,e,hz,hr,d⟩:=σz L1.f L2.f (by omega) (by omega) (by
  have t1:B*2^100<=2^1139*2^100:=Int.mul_le_mul_of_nonneg_right b2 (by decide)
  have t2:(2:Int)^1074*2^1074<=A*2^1074:=Int.mul_le_mul_of_nonneg_right a1 (by omega)
  rw [<-Int.pow_add] at t1 t2
  have t3:(2:Int)^(1139+100)<=2^(1074+1074):=pow_le (by decide)
  omega) (by
  have p80:=pow_pos2 2080
  have t1:A*2^1074<=2^1139*2^1074:=Int.mul_le_mul_of_nonneg_right a2 (by omega)
  have t2:(2:Int)^1074*2^2080<=B*2^2080:=Int.mul_le_mul_of_nonneg_right b1 (by omega)
  rw [<-Int.pow_add] at t1 t2
  have t3:(2:Int)^(1139+1074)<=2^(1074+2080):=pow_le (by decide)
  omega)
 exact ⟨z,r,e,hz,hr,d⟩
end Go.Proofs.YtfieffpobgcpmaaGreatDoor
