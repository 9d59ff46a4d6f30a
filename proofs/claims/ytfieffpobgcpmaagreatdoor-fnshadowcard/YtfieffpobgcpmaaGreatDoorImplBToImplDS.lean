import Derived.Test.YtfieffpobgcpmaaGreatDoorBoxToNumSS
import Derived.Test.YtfieffpobgcpmaaGreatDoorSpecEToDy1hS
import Derived.Test.YtfieffpobgcpmaaGreatDoorEsBToImplOS
set_option maxRecDepth 100000
set_option maxHeartbeats 32000000
namespace Go.Proofs.YtfieffpobgcpmaaGreatDoor
open Go.RowKit Go.Proofs.Tryz
variable {zs out:List Int} {d:Int} {k n:Nat}
theorem ζl.take {k:IntKind} {w:World} {B:Nat} {a:Option Addr} (h:ζl k w B a zs) (m:Nat):ζl k w B a (zs.take m):=by
 rcases h with h| ⟨b,off,h1,h0,h2,h3,h4⟩
 ·exact .inl (by rw [h];simp)
 ·refine .inr ⟨b,off,h1,h0,h2,fun j hj=> ?_,fun j hj=> ?_⟩
  ·rw [List.length_take] at hj
   rw [h3 j (by omega)]
   simp [List.getD_eq_getElem?_getD,show j<m from by omega]
  ·rw [List.length_take] at hj
   exact h4 j (by omega)
def χ4 (ds:List Int) (a:Option Addr) (w:World) (e:Ending) (w':World):Prop:= ∃m a' c',m<=ds.length∧e= .returned (.slice a' m c')∧trimL ds=ds.take m∧m<=c'∧c'<=maxLen∧(m=0∨a'=a)∧w'=w
theorem ζZ (a:Option Addr) (c:Nat) (ds:List Int) (w:World) (B:Nat) (hn:ds.length<=1048576) (hm:c<=maxLen) (hf:ds.length<=c) (hnil:a=none->c=0) (hd:ζl .u32 w B a ds):
 Calls prog 140 #[.slice a ds c] w fun e w'=> ∃a' c',e= .returned (.slice a' (trimL ds).length c')∧(trimL ds).length<=c'∧c'<=maxLen∧ζl .u32 w B a' (trimL ds)∧w'=w:=by
 unfold maxLen at hm
 suffices h:Calls prog 140 #[.slice a ds c] w fun e w'=>χ4 ds a w e w' by
  refine h.mono ?_
  rintro e w' ⟨m,a',c',hm',rfl,ht,hc1,hc2,ha,rfl⟩
  have hl:(trimL ds).length=m:=by rw [ht,List.length_take];omega
  rw [hl]
  refine ⟨a',c',rfl,hc1,hc2,?_,rfl⟩
  rcases ha with h0|h0
  ·subst h0
   exact .inl (List.length_eq_zero_iff.1 hl)
  ·subst h0
   rw [ht]
   exact hd.take m
 cases a with
 |none=>
  have hc:=hnil rfl
  subst hc
  have:ds=[]:=List.length_eq_zero_iff.1 (by omega)
  subst this
  go_enter func140,ntmps140
  go_wp2
  go_loop [3] (fun i=>i= .int .i64 0) (fun _=>0)
  case atStart=>rfl
  case round=>
   subst hrel
   go_wp2
   go_ret
   unfold χ4
   exact ⟨0,none,0,by omega,rfl,rfl,by omega,by unfold maxLen;omega,.inl rfl,rfl⟩
 |some x=>
  go_enter func140,ntmps140
  go_wp2
  go_loop [3] (fun i=> ∃m:Nat,m<=ds.length∧i= .int .i64 m∧Hid (trimL ds=trimL (ds.take m))) (fun i=>(intOf i).toNat)
  case atStart=>exact ⟨ds.length,by omega,rfl,by unfold Hid;simp⟩
  case round=>
   obtain ⟨m,hk,rfl,ht⟩:=hrel
   by_cases h0:m=0
   ·subst h0
    go_wp2
    go_ret
    unfold χ4
    exact ⟨0,none,0,by omega,rfl,by rw [ht.out];simp [trimL],by omega,by unfold maxLen;omega,.inl rfl,rfl⟩
   ·obtain ⟨b,off,hx,_,hb,hc,_⟩:=hd.resolve_left (by intro h;subst h;simp at hk;omega)
    obtain ⟨m,rfl⟩: ∃m',m=m'+1:=⟨m-1,by omega⟩
    injection hx with hx
    subst hx
    have g:=hc m (by omega)
    have hm0:((m:Int)+1==0)=false:=by rw [beq_eq_false_iff_ne];omega
    clear hc
    go_wp2
    ·have hz:ds.getD m 0=0:=by simpa using ‹(ds[m]?.getD 0==0)=true›
     go_round
     case rel=>exact ⟨m,by omega,by go_num,by unfold Hid;rw [ht.out,ξl hk hz]⟩
     case measure=>simp [intOf]
    ·have hz:ds.getD m 0≠0:=by simpa using ‹(ds[m]?.getD 0==0)=false›
     go_ret
     unfold χ4
     exact ⟨m+1,_,c,hk,rfl,by rw [ht.out,ξm hk hz],by omega,by unfold maxLen;omega,.inr rfl,rfl⟩
theorem ζT (g:Bool) (a:Option Addr) (n c:Nat) (w:World):
 Calls prog 92 #[g,.slice a n c] w fun e w'=>e= .returned (.agg #[.bool (g && decide (0<n)),.slice a n c])∧Below w w w':=by
 cases g with
 |false=>
  go_enter func92,ntmps92
  go_wp2
  exact bodyPost_ret (v:= .agg #[false,.slice a n c]) (by simp [results,results92,go_sem]) rfl ⟨rfl,ζc _ _⟩
 |true=>
  by_cases h0:0<n
  ·have HD:Hid (decide (0<n)=true):=by unfold Hid;simpa using h0
   go_enter func92,ntmps92
   go_wp2
   exact bodyPost_ret (v:= .agg #[true,.slice a n c]) (by simp [results,results92,go_sem]) rfl ⟨by rw [HD.out];rfl,ζc _ _⟩
  ·have HD:Hid (decide (0<n)=false):=by unfold Hid;simpa using h0
   go_enter func92,ntmps92
   go_wp2
   exact bodyPost_ret (v:= .agg #[false,.slice a n c]) (by simp [results,results92,go_sem]) rfl ⟨by rw [HD.out];rfl,ζc _ _⟩
def ξ5 (g:Bool) (zs:List Int):Bool×List Int×Int:=if zs.length<=512 then (g,zs,0) else (false,[],2)
theorem ηV (g:Bool) (a:Option Addr) (c:Nat) (zs:List Int) (w:World) (B:Nat) (hn:zs.length<=1048576) (hz:ζl .u32 w B a zs):
 Calls prog 52 #[.agg #[g,.slice a zs c]] w fun e w'=> ∃a' c',e= .returned (.tuple #[.agg #[.bool (ξ5 g zs).1,.slice a' (ξ5 g zs).2.1.length c'],.int .i64 (ξ5 g zs).2.2])∧ζl .u32 w' B a' (ξ5 g zs).2.1∧Below w w w':=by
 by_cases h5:zs.length<=512
 ·have HO:Hid (ξ5 g zs=(g,zs,0)):=by unfold Hid ξ5;rw [if_pos h5]
  go_enter func52,ntmps52
  go_wp2
  refine bodyPost_ret (v:= .tuple #[.agg #[g,.slice a zs c],.int .i64 0]) (by simp [results,results52,go_sem]) rfl ?_
  rw [HO.out]
  exact ⟨a,c,rfl,hz.later (ξr _ _ _),ξr _ _ _⟩
 ·have HO:Hid (ξ5 g zs=(false,[],2)):=by unfold Hid ξ5;rw [if_neg h5]
  go_enter func52,ntmps52
  go_wp2
  refine bodyPost_ret (v:= .tuple #[.agg #[false,()],.int .i64 2]) (by simp [results,results52,go_sem]) rfl ?_
  rw [HO.out]
  exact ⟨none,0,rfl,.inl rfl,ξr _ _ _⟩
structure B1 (g:Bool) (zs:List Int) (x:Int):Prop where
 can:ζv 4294967296 zs
 num:x=sg g (val 4294967296 zs)
 zero:g=true->zs≠[]
def ψX (w:World) (x:Int) (n:Nat) (e:Ending) (w':World):Prop:=
 ∃(g:Bool) (a:Option Addr) (c:Nat) (fs:List Int),e= .returned (.agg #[g,.slice a fs c])∧B1 g fs x∧(fs.length<=n∧fs.length<=c∧c<=maxLen)∧ζl .u32 w' w a fs∧Below w w w'
theorem B1.of_signed {g:Bool} {fs:List Int} {v:Int} (hc:ζv 4294967296 fs) (hv:val 4294967296 fs=v):B1 (g && decide (0<fs.length)) fs (sg g v):=by
 refine ⟨hc,?_,?_⟩
 ·by_cases e:fs=[]
  ·have:v=0:=by rw [<-hv,e];rfl
   rw [this,hv,this]
   simp [sg]
  ·have:0<fs.length:=by
    rcases Nat.eq_zero_or_pos fs.length with h|h
    ·exact absurd (List.length_eq_zero_iff.1 h) e
    ·exact h
   simp [this,hv]
 ·intro hg e
  rw [e] at hg
  simp at hg
theorem B1.inj {g g':Bool} {ys:List Int} {x:Int} (h:B1 g zs x) (h':B1 g' ys x):g=g'∧zs=ys:=by
 have e:=h.num.symm.trans h'.num
 have p1:=ζo (B:=4294967296) (by decide) h.can.1
 have p2:=ζo (B:=4294967296) (by decide) h'.can.1
 cases g<;>cases g'
 ·exact ⟨rfl,φL (by decide) h.can h'.can (by simpa [sg] using e)⟩
 ·have:=ζP (B:=4294967296) (by decide) h'.can (h'.zero rfl)
  simp [sg] at e
  omega
 ·have:=ζP (B:=4294967296) (by decide) h.can (h.zero rfl)
  simp [sg] at e
  omega
 ·exact ⟨rfl,φL (by decide) h.can h'.can (by simp [sg] at e;omega)⟩
theorem τx {g g':Bool} {ys:List Int} {x y:Int} (h:B1 g zs x) (h':B1 g' ys y):ρu g g' zs ys=sgn (x-y):=by
 have p1:=ζo (B:=4294967296) (by decide) h.can.1
 have p2:=ζo (B:=4294967296) (by decide) h'.can.1
 rw [h.num,h'.num]
 cases g<;>cases g'
 ·simp only [ρu,sg]
  rw [if_neg (by simp),if_neg (by simp),if_neg (by simp),ψR (by decide) h.can h'.can]
  rfl
 ·have:=ζP (B:=4294967296) (by decide) h'.can (h'.zero rfl)
  simp only [ρu,sg]
  rw [if_neg (by simp),if_pos (by simp)]
  simp only [Bool.false_eq_true,if_false,if_true]
  unfold sgn
  rw [if_neg (by omega),if_neg (by omega)]
 ·have:=ζP (B:=4294967296) (by decide) h.can (h.zero rfl)
  simp only [ρu,sg]
  rw [if_pos (by simp)]
  simp only [Bool.false_eq_true,if_false,if_true]
  unfold sgn
  rw [if_pos (by omega)]
 ·simp only [ρu,sg]
  rw [if_neg (by simp),if_neg (by simp)]
  simp only [if_true]
  rw [ψR (by decide) h'.can h.can]
  congr 1
  omega
theorem B1.nil:B1 false [] 0:=⟨⟨Dig.nil _,rfl⟩,by simp [Go.Proofs.YtfieffpobgcpmaaGreatDoor.sg,val],fun h=>by cases h⟩
theorem ρS (g:Bool) (a:Option Addr) (c:Nat) (zs:List Int) (x:Int) (w:World) (hn:zs.length<=1048576) (hz:ζk .u32 w a zs) (h:B1 g zs x):
 Calls prog 87 #[.agg #[g,.slice a zs c]] w fun e w'=>e= .returned (.int .i64 (sgn x))∧Below w w w':=by
 go_enter func87,ntmps87
 go_wp2_with fail
 refine (φ5 g false a none c 0 zs [] _ hn (by simp) (hz.later (ζc _ _)) (.inl rfl)).mono ?_
 rintro e w1 ⟨rfl,hb1⟩
 rw [τx h B1.nil,Int.sub_zero]
 have HB:Hid (Below w w w1):=(ζc _ _).trans (hb1.mono (by simp))
 clear hb1
 go_wp2
 go_ret
 exact ⟨rfl,HB.out⟩
def ξx (w:World) (v:Int) (n:Nat) (e:Ending) (w':World):Prop:=
 ∃(a:Option Addr) (c:Nat) (fs:List Int),e= .returned (.slice a fs c)∧fs.length<=c∧c<=maxLen∧ζv 4294967296 fs∧val 4294967296 fs=v∧fs.length<=n∧ζl .u32 w' w a fs∧Below w w w'
theorem ψI {l1 l2:List Int} {z:Int} (h:l1.length=k):(l1++z::l2).set k d=l1++d::l2:=by
 subst h
 simp
theorem χ5 (h:out.length=k) (hk:k<n):(out++List.replicate (n+1-k) 0).set k d=(out++[d])++List.replicate (n+1-(k+1)) 0:=by
 rw [show n+1-k=(n+1-(k+1))+1 by omega,List.replicate_succ,ψI h]
 simp
theorem ηg (h:out.length=n):(out++List.replicate (n+1-n) 0).set n d=out++[d]:=by
 rw [show n+1-n=0+1 by omega,List.replicate_succ,ψI h]
 simp
theorem ωR (a a':Option Addr) (p p':Nat) (zs ys:List Int) (w:World) (hn:zs.length<=100000) (hn':ys.length<=100000) (hz:ζk .u32 w a zs) (hy:ζk .u32 w a' ys) (hdz:Dig 4294967296 zs) (hdy:Dig 4294967296 ys):
 (ys.length<=zs.length->Calls prog 203 #[.slice a zs p,.slice a' ys p'] w fun e w'=>ξx w (val 4294967296 zs+val 4294967296 ys) (zs.length+ys.length+1) e w')∧(ys.length<zs.length->Calls prog 203 #[.slice a' ys p',.slice a zs p] w fun e w'=>ξx w (val 4294967296 zs+val 4294967296 ys) (zs.length+ys.length+1) e w'):=by
 constructor<;>intro hle
 all_goals
  have hmk:=run_make_row' (P:=prog) 152 22 (.int .u32 0) 4 underlying152 Tryz.info22 rfl .i64 .i64 (zs.length+1) (by omega) (by omega)
  rw [show ((zs.length+1:Nat):Int)=(zs.length:Int)+1 by omega] at hmk
  go_enter func203,ntmps203
  go_wp2
  go_loopw [6,22] (fun cc i wr=> ∃(k:Nat) (c:Int) (out:List Int),k<=zs.length∧out.length=k∧i= .int .i64 k∧cc= .int .u64 c∧0<=c∧c<=1∧Hid (ζi 4294967296 (ζw zs ys) 0=out++ζi 4294967296 (ζw (zs.drop k) (ys.drop k)) c)∧Hid (ζp 4294967296 (ζw zs ys) 0=ζp 4294967296 (ζw (zs.drop k) (ys.drop k)) c)∧
   Own .u32 wr w 0 (out++List.replicate (zs.length+1-k) 0)∧Below w w wr) (fun _ i _=>zs.length-(intOf i).toNat)
  case atStart=>exact ⟨0,0,[],Nat.zero_le _,rfl,rfl,rfl,by decide,by decide,rfl,rfl,by simpa using Own.made w (zs.length+1) _,ζc _ _⟩
  case round=>
   obtain ⟨k,c,out,hk,hol,rfl,rfl,hc0,hc1,hD,hO,hown,hnx⟩:=hrel
   by_cases hlt:k<zs.length
   ·have hb1:=hdz.at (by decide) k
    have hb2:=hdy.at (by decide) k
    obtain ⟨b,off,rfl,g1⟩:=ζq hz hnx hlt
    obtain ⟨x,hx⟩: ∃x,x=zs.getD k 0:=⟨_,rfl⟩
    obtain ⟨y,hyy⟩: ∃y,y=ys.getD k 0:=⟨_,rfl⟩
    rw [<-hx] at hb1 g1
    rw [<-hyy] at hb2
    obtain ⟨hb10,hb11⟩:=hb1
    obtain ⟨hb20,hb21⟩:=hb2
    have g3:=hown.cell k (by simp;omega)
    have g4:=hown.free k (by simp;omega)
    rw [Nat.zero_add] at g3 g4
    by_cases h2:k<ys.length
    ·obtain ⟨b',off',rfl,g2⟩:=ζq hy hnx h2
     rw [<-hyy] at g2
     have hst:=φr (B:=4294967296) (xs:=zs) (ys:=ys) (k:=k) (c:=c) (s:=c+x+y) (.inl hlt) (by rw [<-hx,<-hyy];omega)
     have HD:Hid (ζi 4294967296 (ζw zs ys) 0=(out++[(c+x+y)%4294967296])++ζi 4294967296 (ζw (zs.drop (k+1)) (ys.drop (k+1))) ((c+x+y)/4294967296)):=by unfold Hid;rw [hD.out,hst.1];simp
     have HO:Hid (ζp 4294967296 (ζw zs ys) 0=ζp 4294967296 (ζw (zs.drop (k+1)) (ys.drop (k+1))) ((c+x+y)/4294967296)):=by unfold Hid;rw [hO.out,hst.2]
     have hs:=hown.set k ((c+x+y)%4294967296) (by simp;omega)
     rw [Nat.zero_add,χ5 hol hlt] at hs
     have HS:Hid (Own .u32 (wr.setCell ⟨w,k,none⟩ (.int .u32 ((c+x+y)%4294967296))) w 0 ((out++[(c+x+y)%4294967296])++List.replicate (zs.length+1-(k+1)) 0)):=hs
     have HB:Hid (Below w w (wr.setCell ⟨w,k,none⟩ (.int .u32 ((c+x+y)%4294967296)))):=hnx.setCell (Nat.le_refl _) _
     clear hst hs hx hyy hD hO hown hnx hz hy hdz hdy
     go_wp2
     go_roundw
     case rel=>exact ⟨k+1,(c+x+y)/4294967296,out++[(c+x+y)%4294967296],by omega,by simp;omega,by go_num,rfl,by omega,by omega,HD,HO,HS.out,HB.out⟩
     case measure=>simp [intOf];omega
    ·have hy0:y=0:=by rw [hyy];exact ξn h2
     have hst:=φr (B:=4294967296) (xs:=zs) (ys:=ys) (k:=k) (c:=c) (s:=c+x) (.inl hlt) (by rw [<-hx,<-hyy];omega)
     have HD:Hid (ζi 4294967296 (ζw zs ys) 0=(out++[(c+x)%4294967296])++ζi 4294967296 (ζw (zs.drop (k+1)) (ys.drop (k+1))) ((c+x)/4294967296)):=by unfold Hid;rw [hD.out,hst.1];simp
     have HO:Hid (ζp 4294967296 (ζw zs ys) 0=ζp 4294967296 (ζw (zs.drop (k+1)) (ys.drop (k+1))) ((c+x)/4294967296)):=by unfold Hid;rw [hO.out,hst.2]
     have hs:=hown.set k ((c+x)%4294967296) (by simp;omega)
     rw [Nat.zero_add,χ5 hol hlt] at hs
     have HS:Hid (Own .u32 (wr.setCell ⟨w,k,none⟩ (.int .u32 ((c+x)%4294967296))) w 0 ((out++[(c+x)%4294967296])++List.replicate (zs.length+1-(k+1)) 0)):=hs
     have HB:Hid (Below w w (wr.setCell ⟨w,k,none⟩ (.int .u32 ((c+x)%4294967296)))):=hnx.setCell (Nat.le_refl _) _
     clear hst hs hx hyy hD hO hown hnx hz hy hdz hdy hy0
     go_wp2
     go_roundw
     case rel=>exact ⟨k+1,(c+x)/4294967296,out++[(c+x)%4294967296],by omega,by simp;omega,by go_num,rfl,by omega,by omega,HD,HO,HS.out,HB.out⟩
     case measure=>simp [intOf];omega
   ·have hkn:k=zs.length:=by omega
    subst hkn
    have g3:=hown.cell zs.length (by simp;omega)
    have g4:=hown.free zs.length (by simp;omega)
    rw [Nat.zero_add] at g3 g4
    have hs:=hown.set zs.length c (by simp;omega)
    rw [Nat.zero_add,ηg hol] at hs
    have hDD:ζi 4294967296 (ζw zs ys) 0=out:=by
     rw [hD.out,List.drop_eq_nil_of_le (Nat.le_refl _),List.drop_eq_nil_of_le (show ys.length<=zs.length by omega)];simp [ζw,ζi]
    have hOO:ζp 4294967296 (ζw zs ys) 0=c:=by
     rw [hO.out,List.drop_eq_nil_of_le (Nat.le_refl _),List.drop_eq_nil_of_le (show ys.length<=zs.length by omega)];simp [ζw,ζp]
    have hV:val 4294967296 (out++[c])=val 4294967296 zs+val 4294967296 ys:=by rw [<-hDD,<-hOO,ξV,χW];omega
    have hG:Dig 4294967296 (out++[c]):=by
     refine Dig.append ?_ (Dig.cons hc0 (by omega) (Dig.nil _))
     rw [<-hDD]
     exact ζ2 (by decide) _ _
    have HV:Hid (val 4294967296 (out++[c])=val 4294967296 zs+val 4294967296 ys):=hV
    have HG:Hid (Dig 4294967296 (out++[c])):=hG
    have HL:Hid (out.length=zs.length):=hol
    have HS:Hid (Own .u32 (wr.setCell ⟨w,zs.length,none⟩ c) w 0 (out++[c])):=hs
    have HB:Hid (Below w w (wr.setCell ⟨w,zs.length,none⟩ c)):=hnx.setCell (Nat.le_refl _) _
    clear hs hV hG hDD hOO hD hO hown hnx hz hy hdz hdy hol
    go_wp2_with fail
    have e1:zs.length+1=(out++[c]).length:=by simp [HL.out]
    rw [e1]
    refine (ζZ _ _ (out++[c]) _ w (by rw [<-e1];omega) (by rw [<-e1];unfold maxLen;omega) (Nat.le_refl _) (fun h=>by cases h) (HS.out.new (Nat.le_refl _))).mono ?_
    rintro e w1 ⟨a2,c2,rfl,hf2,hm2,hr2,hw⟩
    subst hw
    have HM:Hid (ξx w (val 4294967296 zs+val 4294967296 ys) (zs.length+ys.length+1) (.returned (.slice a2 (trimL (out++[c])).length c2)) (wr.setCell ⟨w,zs.length,none⟩ c)):=by
     refine ⟨a2,c2,trimL (out++[c]),rfl,hf2,hm2,ξb HG.out,by rw [ξk,HV.out],?_,hr2,HB.out⟩
     have:=ξL (out++[c])
     rw [<-e1] at this
     omega
    clear hf2 hm2 hr2 HG HV HB HS e1
    go_wp2
    go_ret
    exact HM.out
theorem κu (a a':Option Addr) (p p':Nat) (zs ys:List Int) (w:World) (hn:zs.length<=100000) (hn':ys.length<=100000) (hz:ζk .u32 w a zs) (hy:ζk .u32 w a' ys) (hdz:Dig 4294967296 zs) (hdy:Dig 4294967296 ys):
 Calls prog 203 #[.slice a zs p,.slice a' ys p'] w fun e w'=>ξx w (val 4294967296 zs+val 4294967296 ys) (zs.length+ys.length+1) e w':=by
 by_cases h:ys.length<=zs.length
 ·exact (ωR a a' p p' zs ys w hn hn' hz hy hdz hdy).1 h
 ·have:=(ωR a' a p' p ys zs w hn' hn hy hz hdy hdz).2 (by omega)
  rw [Int.add_comm,Nat.add_comm zs.length]
  exact this
theorem ψY (h:out.length=k) (hk:k<n):(out++List.replicate (n-k) 0).set k d=(out++[d])++List.replicate (n-(k+1)) 0:=by
 rw [show n-k=(n-(k+1))+1 by omega,List.replicate_succ,ψI h]
 simp
theorem ηh {z:Int} (h0: -8589934592<z) (h1:z<0) (h2: -4294967296<=z):IntKind.u64.wrap z%4294967296=z+4294967296∧IntKind.u64.wrap z/9223372036854775808=1:=by
 rw [IntKind.wrap_u64]
 omega
theorem ψe (a a':Option Addr) (p p':Nat) (zs ys:List Int) (w:World) (hn:zs.length<=100000) (hz:ζk .u32 w a zs) (hy:ζk .u32 w a' ys) (hdz:Dig 4294967296 zs) (hdy:Dig 4294967296 ys) (hle:ys.length<=zs.length) (hv:val 4294967296 ys<=val 4294967296 zs):
 Calls prog 139 #[.slice a zs p,.slice a' ys p'] w fun e w'=>ξx w (val 4294967296 zs-val 4294967296 ys) zs.length e w':=by
 have HVV:Hid (val 4294967296 (ζi 4294967296 (ζn zs ys) 0)=val 4294967296 zs-val 4294967296 ys):=θs (by decide) hdz hdy hle hv
 have hmk:=run_make_row' (P:=prog) 152 22 (.int .u32 0) 4 underlying152 Tryz.info22 rfl .i64 .i64 zs.length (by omega) (by omega)
 clear hv
 go_enter func139,ntmps139
 go_wp2
 go_loopw [6,16] (fun cc i wr=> ∃(k:Nat) (c:Int) (out:List Int),k<=zs.length∧out.length=k∧i= .int .i64 k∧cc= .int .u64 c∧0<=c∧c<=1∧Hid (ζi 4294967296 (ζn zs ys) 0=out++ζi 4294967296 (ζn (zs.drop k) (ys.drop k)) (-c))∧
  Own .u32 wr w 0 (out++List.replicate (zs.length-k) 0)∧Below w w wr) (fun _ i _=>zs.length-(intOf i).toNat)
 case atStart=>exact ⟨0,0,[],Nat.zero_le _,rfl,rfl,rfl,by decide,by decide,rfl,by simpa using Own.made w zs.length _,ζc _ _⟩
 case round=>
  obtain ⟨k,c,out,hk,hol,rfl,rfl,hc0,hc1,hD,hown,hnx⟩:=hrel
  by_cases hlt:k<zs.length
  ·have hb1:=hdz.at (by decide) k
   have hb2:=hdy.at (by decide) k
   obtain ⟨b,off,rfl,g1⟩:=ζq hz hnx hlt
   obtain ⟨x,hx⟩: ∃x,x=zs.getD k 0:=⟨_,rfl⟩
   obtain ⟨y,hyy⟩: ∃y,y=ys.getD k 0:=⟨_,rfl⟩
   rw [<-hx] at hb1 g1
   rw [<-hyy] at hb2
   obtain ⟨hb10,hb11⟩:=hb1
   obtain ⟨hb20,hb21⟩:=hb2
   have g3:=hown.cell k (by simp;omega)
   have g4:=hown.free k (by simp;omega)
   rw [Nat.zero_add] at g3 g4
   by_cases h2:k<ys.length
   ·obtain ⟨b',off',rfl,g2⟩:=ζq hy hnx h2
    rw [<-hyy] at g2
    by_cases hv:x<c+y
    ·have hst:=ξE (B:=4294967296) (xs:=zs) (ys:=ys) (s:=x-c-y) (c:= -c) hlt (by rw [<-hx,<-hyy];omega)
     have HW:Hid (IntKind.u64.wrap (x-(c+y))%4294967296=x-(c+y)+4294967296∧IntKind.u64.wrap (x-(c+y))/9223372036854775808=1):=ηh (by omega) (by omega) (by omega)
     rw [show (x-c-y)%4294967296=x-(c+y)+4294967296 by omega,show (x-c-y)/4294967296= -1 by omega] at hst
     have HD:Hid (ζi 4294967296 (ζn zs ys) 0=(out++[x-(c+y)+4294967296])++ζi 4294967296 (ζn (zs.drop (k+1)) (ys.drop (k+1))) (-1)):=by unfold Hid;rw [hD.out,hst];simp
     have hs:=hown.set k (x-(c+y)+4294967296) (by simp;omega)
     rw [Nat.zero_add,ψY hol hlt] at hs
     have HS:Hid (Own .u32 (wr.setCell ⟨w,k,none⟩ (.int .u32 (x-(c+y)+4294967296))) w 0 ((out++[x-(c+y)+4294967296])++List.replicate (zs.length-(k+1)) 0)):=hs
     have HB:Hid (Below w w (wr.setCell ⟨w,k,none⟩ (.int .u32 (x-(c+y)+4294967296)))):=hnx.setCell (Nat.le_refl _) _
     clear hst hs hx hyy hD hown hnx hz hy hdz hdy
     go_wp2
     go_roundw
     case rel=>exact ⟨k+1,1,out++[x-(c+y)+4294967296],by omega,by simp;omega,by go_num,by rw [HW.out.2],by omega,by omega,HD,by rw [HW.out.1];exact HS.out,by rw [HW.out.1];exact HB.out⟩
     case measure=>simp [intOf];omega
    ·have hst:=ξE (B:=4294967296) (xs:=zs) (ys:=ys) (s:=x-c-y) (c:= -c) hlt (by rw [<-hx,<-hyy];omega)
     rw [show (x-c-y)%4294967296=x-(c+y) by omega,show (x-c-y)/4294967296= -0 by omega] at hst
     have HD:Hid (ζi 4294967296 (ζn zs ys) 0=(out++[x-(c+y)])++ζi 4294967296 (ζn (zs.drop (k+1)) (ys.drop (k+1))) (-0)):=by unfold Hid;rw [hD.out,hst];simp
     have hs:=hown.set k (x-(c+y)) (by simp;omega)
     rw [Nat.zero_add,ψY hol hlt] at hs
     have HS:Hid (Own .u32 (wr.setCell ⟨w,k,none⟩ (.int .u32 (x-(c+y)))) w 0 ((out++[x-(c+y)])++List.replicate (zs.length-(k+1)) 0)):=hs
     have HB:Hid (Below w w (wr.setCell ⟨w,k,none⟩ (.int .u32 (x-(c+y))))):=hnx.setCell (Nat.le_refl _) _
     clear hst hs hx hyy hD hown hnx hz hy hdz hdy
     go_wp2
     go_roundw
     case rel=>exact ⟨k+1,0,out++[x-(c+y)],by omega,by simp;omega,by go_num,by go_num,by omega,by omega,HD,HS.out,HB.out⟩
     case measure=>simp [intOf];omega
   ·have hy0:y=0:=by rw [hyy];exact ξn h2
    by_cases hv:x<c
    ·have hst:=ξE (B:=4294967296) (xs:=zs) (ys:=ys) (s:=x-c) (c:= -c) hlt (by rw [<-hx,<-hyy];omega)
     have HW:Hid (IntKind.u64.wrap (x-c)%4294967296=x-c+4294967296∧IntKind.u64.wrap (x-c)/9223372036854775808=1):=ηh (by omega) (by omega) (by omega)
     rw [show (x-c)%4294967296=x-c+4294967296 by omega,show (x-c)/4294967296= -1 by omega] at hst
     have HD:Hid (ζi 4294967296 (ζn zs ys) 0=(out++[x-c+4294967296])++ζi 4294967296 (ζn (zs.drop (k+1)) (ys.drop (k+1))) (-1)):=by unfold Hid;rw [hD.out,hst];simp
     have hs:=hown.set k (x-c+4294967296) (by simp;omega)
     rw [Nat.zero_add,ψY hol hlt] at hs
     have HS:Hid (Own .u32 (wr.setCell ⟨w,k,none⟩ (.int .u32 (x-c+4294967296))) w 0 ((out++[x-c+4294967296])++List.replicate (zs.length-(k+1)) 0)):=hs
     have HB:Hid (Below w w (wr.setCell ⟨w,k,none⟩ (.int .u32 (x-c+4294967296)))):=hnx.setCell (Nat.le_refl _) _
     clear hst hs hx hyy hD hown hnx hz hy hdz hdy hy0
     go_wp2
     go_roundw
     case rel=>exact ⟨k+1,1,out++[x-c+4294967296],by omega,by simp;omega,by go_num,by rw [HW.out.2],by omega,by omega,HD,by rw [HW.out.1];exact HS.out,by rw [HW.out.1];exact HB.out⟩
     case measure=>simp [intOf];omega
    ·have hst:=ξE (B:=4294967296) (xs:=zs) (ys:=ys) (s:=x-c) (c:= -c) hlt (by rw [<-hx,<-hyy];omega)
     rw [show (x-c)%4294967296=x-c by omega,show (x-c)/4294967296= -0 by omega] at hst
     have HD:Hid (ζi 4294967296 (ζn zs ys) 0=(out++[x-c])++ζi 4294967296 (ζn (zs.drop (k+1)) (ys.drop (k+1))) (-0)):=by unfold Hid;rw [hD.out,hst];simp
     have hs:=hown.set k (x-c) (by simp;omega)
     rw [Nat.zero_add,ψY hol hlt] at hs
     have HS:Hid (Own .u32 (wr.setCell ⟨w,k,none⟩ (.int .u32 (x-c))) w 0 ((out++[x-c])++List.replicate (zs.length-(k+1)) 0)):=hs
     have HB:Hid (Below w w (wr.setCell ⟨w,k,none⟩ (.int .u32 (x-c)))):=hnx.setCell (Nat.le_refl _) _
     clear hst hs hx hyy hD hown hnx hz hy hdz hdy hy0
     go_wp2
     go_roundw
     case rel=>exact ⟨k+1,0,out++[x-c],by omega,by simp;omega,by go_num,by go_num,by omega,by omega,HD,HS.out,HB.out⟩
     case measure=>simp [intOf];omega
  ·have hkn:k=zs.length:=by omega
   subst hkn
   have hDD:ζi 4294967296 (ζn zs ys) 0=out:=by
    rw [hD.out,List.drop_eq_nil_of_le (Nat.le_refl _)];simp [ζn,ζi]
   have hs:Own .u32 wr w 0 out:=by simpa using hown
   have hG:Dig 4294967296 out:=by rw [<-hDD];exact ζ2 (by decide) _ _
   rw [hDD] at HVV
   have HG:Hid (Dig 4294967296 out):=hG
   have HL:Hid (out.length=zs.length):=hol
   have HS:Hid (Own .u32 wr w 0 out):=hs
   have HB:Hid (Below w w wr):=hnx
   clear hs hG hDD hD hown hnx hz hy hdz hdy hol
   go_wp2_with fail
   have e1:zs.length=out.length:=HL.out.symm
   rw [e1]
   refine (ζZ _ _ out _ w (by omega) (by unfold maxLen;omega) (Nat.le_refl _) (fun h=>by cases h) (HS.out.new (Nat.le_refl _))).mono ?_
   rintro e w1 ⟨a2,c2,rfl,hf2,hm2,hr2,hw⟩
   subst hw
   have HM:Hid (ξx w (val 4294967296 zs-val 4294967296 ys) zs.length (.returned (.slice a2 (trimL out).length c2)) w1):=by
    refine ⟨a2,c2,trimL out,rfl,hf2,hm2,ξb HG.out,by rw [ξk,HVV.out],?_,hr2,HB.out⟩
    have:=ξL out
    omega
   clear hf2 hm2 hr2 HG HVV HB HS e1
   go_wp2
   go_ret
   exact HM.out
end Go.Proofs.YtfieffpobgcpmaaGreatDoor
