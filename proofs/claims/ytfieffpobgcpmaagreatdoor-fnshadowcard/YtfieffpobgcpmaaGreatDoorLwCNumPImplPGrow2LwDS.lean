import Derived.Test.YtfieffpobgcpmaaGreatDoorHoBLwALwBS
import Derived.Test.YtfieffpobgcpmaaGreatDoorEsBToImplOS
import Derived.Test.YtfieffpobgcpmaaGreatDoorImplEImplNgImplNNumMImplMS
import Derived.Test.YtfieffpobgcpmaaGreatDoorImplBToImplDS
import Derived.Test.YtfieffpobgcpmaaGreatDoorBoxToNumSS
import Derived.Maps.AppendAt
import Derived.Test.YtfieffpobgcpmaaGreatDoorNumWToNumNS
set_option maxRecDepth 100000
set_option maxHeartbeats 32000000
namespace Go.Proofs.YtfieffpobgcpmaaGreatDoor
open Go.RowKit Go.Proofs.Tryz
variable {w:World} {n:Nat}
theorem inv_next {d i M M':Int} (h: ∃k,d*i=1+M*k) (c1 c2:Int) (e1:M*M=M'*c1) (e2:4294967296=M'*c2): ∃k,d*(i*((2-d*i)%4294967296)%4294967296)=1+M'*k:=by
 obtain ⟨k,hk⟩:=h
 have x1:(2-d*i)%4294967296=(2-d*i)-4294967296*((2-d*i)/4294967296):=by omega
 generalize (2-d*i)/4294967296=X at x1
 rw [x1]
 have x2:i*(2-d*i-4294967296*X)%4294967296=i*(2-d*i-4294967296*X)-4294967296*(i*(2-d*i-4294967296*X)/4294967296):=by omega
 generalize i*(2-d*i-4294967296*X)/4294967296=Y at x2
 rw [x2]
 refine ⟨-(c1*(k*k))-c2*(d*i*X+d*Y),?_⟩
 have e3:d*(i*(2-d*i-4294967296*X)-4294967296*Y)=(d*i)*(2-d*i)-4294967296*(d*i*X+d*Y):=by grind
 have e4:(d*i)*(2-d*i)=1-(M*M)*(k*k):=by rw [hk];grind
 rw [e3,e4,e1]
 have e5:4294967296*(d*i*X+d*Y)=M'*(c2*(d*i*X+d*Y)):=by rw [<-Int.mul_assoc,<-e2]
 rw [e5];grind
def InvS (d i r:Int):Prop:=(r=3∧ ∃k,d*i=1+8*k)∨(r=6∧ ∃k,d*i=1+64*k)∨(r=12∧ ∃k,d*i=1+4096*k)∨(r=24∧ ∃k,d*i=1+16777216*k)∨(r=48∧ ∃k,d*i=1+4294967296*k)
theorem inverse_any (d:Int) (w:World) (h0:0<=d) (h1:d<4294967296) (hd:d%2=1):
 Calls prog 141 #[d] w fun e w'=> ∃i k:Int,e= .returned i∧0<=i∧i<4294967296∧d*i=1+4294967296*k∧w'=w:=by
 go_enter func141,ntmps141
 go_wp2_with fail
 go_loopw [3,4] (fun s3 s4 wr=> ∃i r:Int,s3= .int .u32 i∧s4= .int .i64 r∧wr=w∧0<=i∧i<4294967296∧Hid (InvS d i r)) (fun _ s4 _=>48-(intOf s4).toNat)
 case atStart=>exact ⟨d,3,rfl,rfl,rfl,h0,h1,.inl ⟨rfl,inv_start hd⟩⟩
 case round=>
  obtain ⟨i,r,rfl,rfl,rfl,i0,i1,HI⟩:=hrel
  rcases HI.out with ⟨rfl,hk⟩| ⟨rfl,hk⟩| ⟨rfl,hk⟩| ⟨rfl,hk⟩| ⟨rfl,hk⟩
  ·have HK:Hid (∃k,d*i=1+8*k):=hk
   clear hk HI
   go_wp2
   refine ⟨⟨_,6,rfl,rfl,trivial,Int.emod_nonneg _ (by decide),Int.emod_lt_of_pos _ (by decide),.inr (.inl ⟨rfl,inv_next HK.out 1 67108864 (by decide) (by decide)⟩)⟩,?_⟩
   simp [intOf]
  ·have HK:Hid (∃k,d*i=1+64*k):=hk
   clear hk HI
   go_wp2
   refine ⟨⟨_,12,rfl,rfl,trivial,Int.emod_nonneg _ (by decide),Int.emod_lt_of_pos _ (by decide),.inr (.inr (.inl ⟨rfl,inv_next HK.out 1 1048576 (by decide) (by decide)⟩))⟩,?_⟩
   simp [intOf]
  ·have HK:Hid (∃k,d*i=1+4096*k):=hk
   clear hk HI
   go_wp2
   refine ⟨⟨_,24,rfl,rfl,trivial,Int.emod_nonneg _ (by decide),Int.emod_lt_of_pos _ (by decide),.inr (.inr (.inr (.inl ⟨rfl,inv_next HK.out 1 256 (by decide) (by decide)⟩)))⟩,?_⟩
   simp [intOf]
  ·have HK:Hid (∃k,d*i=1+16777216*k):=hk
   clear hk HI
   go_wp2
   refine ⟨⟨_,48,rfl,rfl,trivial,Int.emod_nonneg _ (by decide),Int.emod_lt_of_pos _ (by decide),.inr (.inr (.inr (.inr ⟨rfl,inv_next HK.out 65536 1 (by decide) (by decide)⟩)))⟩,?_⟩
   simp [intOf]
  ·have HK:Hid (∃k,d*i=1+4294967296*k):=hk
   clear hk HI
   go_wp2
   go_ret
   obtain ⟨k,hk⟩:=HK.out
   exact ⟨i,k,rfl,i0,i1,hk,rfl⟩
theorem ωn (a:Option Addr) (p:Nat) (zs:List Int) (f d:Int) (w:World) (hn:zs.length<=100000) (hz:ζk .u32 w a zs) (hdz:Dig 4294967296 zs) (hf0:0<=f) (hf1:f<4294967296) (hd0:0<=d) (hd1:d<4294967296):
 Calls prog 142 #[.slice a zs p,f,d] w fun e w'=>ξx w (f*val 4294967296 zs+d) (zs.length+1) e w':=by
 have hmk:=run_make_row' (P:=prog) 152 22 (.int .u32 0) 4 underlying152 Tryz.info22 rfl .i64 .i64 (zs.length+1) (by omega) (by omega)
 rw [show ((zs.length+1:Nat):Int)=(zs.length:Int)+1 by omega] at hmk
 go_enter func142,ntmps142
 go_wp2
 go_loopw [8,19] (fun cc i wr=> ∃(k:Nat) (c:Int) (out:List Int),k<=zs.length∧out.length=k∧i= .int .i64 k∧cc= .int .u64 c∧0<=c∧c<=4294967295∧Hid (ζi 4294967296 (ζt f zs []) d=out++ζi 4294967296 (ζt f (zs.drop k) []) c)∧Hid (ζp 4294967296 (ζt f zs []) d=ζp 4294967296 (ζt f (zs.drop k) []) c)∧
  Own .u32 wr w 0 (out++List.replicate (zs.length+1-k) 0)∧Below w w wr) (fun _ i _=>zs.length-(intOf i).toNat)
 case atStart=>exact ⟨0,d,[],Nat.zero_le _,rfl,rfl,rfl,hd0,by omega,rfl,rfl,by simpa using Own.made w (zs.length+1) _,ζc _ _⟩
 case round=>
  obtain ⟨k,c,out,hk,hol,rfl,rfl,hc0,hc1,hD,hO,hown,hnx⟩:=hrel
  by_cases hlt:k<zs.length
  ·have hb1:=hdz.at (by decide) k
   obtain ⟨b,off,rfl,g1⟩:=ζq hz hnx hlt
   obtain ⟨x,hx⟩: ∃x,x=zs.getD k 0:=⟨_,rfl⟩
   rw [<-hx] at hb1 g1
   obtain ⟨hb10,hb11⟩:=hb1
   have g3:=hown.cell k (by simp;omega)
   have g4:=hown.free k (by simp;omega)
   rw [Nat.zero_add] at g3 g4
   obtain ⟨hxy0,hxy1⟩:=ψZ hb10 hb11 hf0 hf1
   simp only [Int.reduceSub,Int.reduceMul] at hxy1
   have hcb:=ξY (B:=4294967296) (s:=c+x*f) (by decide) (by omega) (by simp only [Int.reduceSub,Int.reduceMul];omega)
   have hst:=χ6 (B:=4294967296) (x:=f) (c:=c) (s:=c+x*f) (ms:=[]) hlt (by rw [<-hx,Int.mul_comm f x];simp;omega)
   simp only [List.drop_nil] at hst
   have HD:Hid (ζi 4294967296 (ζt f zs []) d=(out++[(c+x*f)%4294967296])++ζi 4294967296 (ζt f (zs.drop (k+1)) []) ((c+x*f)/4294967296)):=by unfold Hid;rw [hD.out,hst.1];simp
   have HO:Hid (ζp 4294967296 (ζt f zs []) d=ζp 4294967296 (ζt f (zs.drop (k+1)) []) ((c+x*f)/4294967296)):=by unfold Hid;rw [hO.out,hst.2]
   have hs:=hown.set k ((c+x*f)%4294967296) (by simp;omega)
   rw [Nat.zero_add,χ5 hol hlt] at hs
   have HS:Hid (Own .u32 (wr.setCell ⟨w,k,none⟩ (.int .u32 ((c+x*f)%4294967296))) w 0 ((out++[(c+x*f)%4294967296])++List.replicate (zs.length+1-(k+1)) 0)):=hs
   have HB:Hid (Below w w (wr.setCell ⟨w,k,none⟩ (.int .u32 ((c+x*f)%4294967296)))):=hnx.setCell (Nat.le_refl _) _
   obtain ⟨hcb0,hcb1⟩:=hcb
   have HCB:Hid (0<=(c+x*f)/4294967296∧(c+x*f)/4294967296<=4294967295):=⟨hcb0,by omega⟩
   clear hcb0 hcb1 hst hs hx hD hO hown hnx hz hdz
   go_wp2
   go_roundw
   case rel=>exact ⟨k+1,(c+x*f)/4294967296,out++[(c+x*f)%4294967296],by omega,by simp;omega,by go_num,rfl,HCB.out.1,HCB.out.2,HD,HO,HS.out,HB.out⟩
   case measure=>simp [intOf];omega
  ·have hkn:k=zs.length:=by omega
   subst hkn
   have g3:=hown.cell zs.length (by simp;omega)
   have g4:=hown.free zs.length (by simp;omega)
   rw [Nat.zero_add] at g3 g4
   have hs:=hown.set zs.length c (by simp;omega)
   rw [Nat.zero_add,ηg hol] at hs
   have hDD:ζi 4294967296 (ζt f zs []) d=out:=by
    rw [hD.out,List.drop_eq_nil_of_le (Nat.le_refl _)];simp [ζt,ζi]
   have hOO:ζp 4294967296 (ζt f zs []) d=c:=by
    rw [hO.out,List.drop_eq_nil_of_le (Nat.le_refl _)];simp [ζt,ζp]
   have hV:val 4294967296 (out++[c])=f*val 4294967296 zs+d:=by rw [<-hDD,<-hOO,ξV,φB];simp [val]
   have hG:Dig 4294967296 (out++[c]):=by
    refine Dig.append ?_ (Dig.cons hc0 (by omega) (Dig.nil _))
    rw [<-hDD]
    exact ζ2 (by decide) _ _
   have HV:Hid (val 4294967296 (out++[c])=f*val 4294967296 zs+d):=hV
   have HG:Hid (Dig 4294967296 (out++[c])):=hG
   have HL:Hid (out.length=zs.length):=hol
   have HS:Hid (Own .u32 (wr.setCell ⟨w,zs.length,none⟩ c) w 0 (out++[c])):=hs
   have HB:Hid (Below w w (wr.setCell ⟨w,zs.length,none⟩ c)):=hnx.setCell (Nat.le_refl _) _
   clear hs hV hG hDD hOO hD hO hown hnx hz hdz hol
   go_wp2_with fail
   have e1:zs.length+1=(out++[c]).length:=by simp [HL.out]
   rw [e1]
   refine (ζZ _ _ (out++[c]) _ w (by rw [<-e1];omega) (by rw [<-e1];unfold maxLen;omega) (Nat.le_refl _) (fun h=>by cases h) (HS.out.new (Nat.le_refl _))).mono ?_
   rintro e w1 ⟨a2,c2,rfl,hf2,hm2,hr2,hw⟩
   subst hw
   have HM:Hid (ξx w (f*val 4294967296 zs+d) (zs.length+1) (.returned (.slice a2 (trimL (out++[c])).length c2)) (wr.setCell ⟨w,zs.length,none⟩ c)):=by
    refine ⟨a2,c2,trimL (out++[c]),rfl,hf2,hm2,ξb HG.out,by rw [ξk,HV.out],?_,hr2,HB.out⟩
    have:=ξL (out++[c])
    rw [<-e1] at this
    omega
   clear hf2 hm2 hr2 HG HV HB HS e1
   go_wp2
   go_ret
   exact HM.out
theorem app2 {k:IntKind} {X:Int} {bytes:Nat} {w0:World} {ops:Array Oper} {rest:List Oper} {o:Oper} {a:Act} {Q:Exit->Act->World->Prop} (hgd:o.guard=none) (s x:Operand) (t:TypeId)
 (ho:o.op= .call {callee:= .builtin .append,args:=#[s,x],argTypes:=#[t,t]})
 (base:Nat) (e:TypeId) (ht:prog.underlying t=some (.slice e)) (hinfo:(prog.info? e).map (fun i=>(i.zero,i.size,i.bytes))=some (some (.int k 0),1,bytes)) (hby:bytes<=8)
 (sv:Value) (ys:List Int) (hs:a.eval s=sv) (hx:a.eval x= .slice (some ⟨w0,0,none⟩) 1 1) (hown:w0.ownsRow base e 1 sv ys.length (φc k ys)) (hn:ys.length<=8388608) (hbase:base<=w0.heap.size)
 (h: ∀a' n' c' w',w'.ownsRow base e 1 (.slice a' n' c') (ys++[X]).length (φc k (ys++[X]))->Below base w0 w'->w0.heap.size<w'.heap.size->(∀j,j<w0.heap.size->sv.ownBlock≠some j->w'.heap[j]? =w0.heap[j]?)->((Value.slice a' n' c').ownBlock=sv.ownBlock∨ ∃j,(Value.slice a' n' c').ownBlock=some j∧w0.heap.size<=j)->wpList prog ops Q rest (a.put o.dst (.slice a' n' c')) w'):
 wpList prog ops Q (o::rest) a (w0.alloc (.cells #[.int k X] e)):=by
 obtain ⟨i0,hi,hz0,hz1,hz2⟩:=info_parts hinfo
 have hb1:(ys.length+1)*bytes<=(ys.length+1)*8:=Nat.mul_le_mul_left _ hby
 refine wpList_append_own_at _ hgd s x t ho base e i0 (.int k 0) 1 bytes ht hi hz0 hz1 hz2 rfl (by decide) sv ys.length (φc k ys) hs (hown.alloc _) ⟨w0,0,none⟩ 1 1 [.int k X] hx rfl ?_ ?_ ?_ ?_ ?_ ?_
 ·intro j u hj
  match j,hj with
  |0,hj=>simp at hj;subst hj;simp [Addr.add]
 ·intro u hu;simp at hu;subst hu;rfl
 ·unfold maxLen;omega
 ·omega
 ·simp;omega
 ·intro v' w' hown' hgrow _ hwhere
  obtain ⟨a',n',c',rfl⟩: ∃a' n' c',v'= .slice a' n' c':=by
   rcases hown'.2 with ⟨h1,_⟩| ⟨g,cap,cur,h1,_⟩
   ·exact ⟨_,_,_,h1⟩
   ·exact ⟨_,_,_,h1⟩
  have hB:Below base w0 w':=by
   have hb0:Below base w0 (w0.alloc (.cells #[.int k X] e)):=(Below.refl _ _).alloc hbase _
   refine hb0.grown hgrow (by simp;omega) ?_
   intro kk hk
   rcases hown.2 with ⟨h1,_⟩| ⟨g,cap,cur,h1,h2,_⟩
   ·rw [h1] at hk;simp [Value.ownBlock] at hk
   ·rw [h1] at hk;simp [Value.ownBlock] at hk;omega
  have hS:w0.heap.size<w'.heap.size:=by
   have:=hgrow.size
   simp at this
   omega
  refine h a' n' c' w' ?_ hB hS ?_ ?_
  ·rw [ωE] at hown'
   simpa using hown'
  ·intro j hj hne
   rw [hgrow.block j (by simp;omega) (fun e=>hne e.symm)]
   exact (ζc w0 (.cells #[.int k X] e)).block j hj
  ·rcases hwhere with hw|hw
   ·exact .inl hw
   ·exact .inr ⟨_,hw,by simp⟩
theorem infoL:(prog.info? 22).map (fun i=>(i.zero,i.size,i.bytes))=some (some (.int .u32 0),1,4):=by kernel_rfl
theorem νe {base:Nat} {e:TypeId} {v:Value} {xs:List Value} (h:w.ownsRow base e 1 v n xs) {k:Nat} (q:v.ownBlock=some k):base<=k∧k<w.heap.size:=by
 rcases h.2 with ⟨h1,_⟩| ⟨g,cap,cur,h1,h2,h3,_⟩
 ·rw [h1] at q;simp [Value.ownBlock] at q
 ·rw [h1] at q
  simp [Value.ownBlock] at q
  subst q
  refine ⟨h2,?_⟩
  rcases Nat.lt_or_ge g w with hp|hp
  ·exact hp
  ·rw [Array.getElem?_eq_none hp] at h3;cases h3
theorem η9 {w':World} {base:Nat} {e:TypeId} {v:Value} {xs:List Value} (h:w.ownsRow base e 1 v n xs) (hb:Below w w w'):w'.ownsRow base e 1 v n xs:=by
 refine ⟨h.1,?_⟩
 rcases h.2 with h1| ⟨g,cap,cur,h1,h2,h3,h4⟩
 ·exact .inl h1
 ·have hg:g<w.heap.size:=by
   by_cases hp:g<w.heap.size
   ·exact hp
   ·rw [Array.getElem?_eq_none (by omega)] at h3;cases h3
  exact .inr ⟨g,cap,cur,h1,h2,(hb.block g hg).trans h3,h4⟩
theorem κX {k:IntKind} {w':World} {a:Option Addr} {zs:List Int} (h:ζk k w a zs) (hs:w.heap.size<=w'.heap.size) (hk: ∀b off,a=some ⟨b,off,none⟩->b<w.heap.size->w'.heap[b]? =w.heap[b]?):ζk k w' a zs:=by
 rcases h with h| ⟨b,off,rfl,hb,hc⟩
 ·exact .inl h
 ·refine .inr ⟨b,off,rfl,by omega,fun j hj=> ?_⟩
  have:=hc j hj
  simp only [World.cell?] at this⊢
  rw [hk b off rfl hb]
  exact this
structure OvS (w:World) (n:Nat) (Q:Int) (a:Option Addr) (c:Nat) (zs:List Int) (D:Int) (qv:Value) (qs:List Int) (R:Int) (W:World):Prop where
 r1:ζk .u32 W a zs
 k1:ζv 4294967296 zs
 p1:zs.length<=c∧c<=maxLen
 n1:zs.length<=n
 ap:zs=[]∨ ∀b off,a=some ⟨b,off,none⟩->qv.ownBlock≠some b
 own:W.ownsRow w 22 1 qv qs.length (φc .u32 qs)
 dig:Dig 4294967296 qs
 r0:0<=R
 m:val 4294967296 zs=D*R
 q:Q=val 4294967296 qs+4294967296^qs.length*R
 can:R=0->ζv 4294967296 qs
 bel:Below w w W
theorem OvS.len {Q:Int} {a:Option Addr} {c:Nat} {zs:List Int} {D:Int} {qv:Value} {qs:List Int} {R:Int} {W:World} (h:OvS w n Q a c zs D qv qs R W) (hR:0<R) (hQ:Q<4294967296^n):qs.length+1<=n:=by
 have hd:Dig 4294967296 (qs++[1]):=h.dig.append (Dig.cons (by decide) (by decide) (Dig.nil _))
 have hc:ζv 4294967296 (qs++[1]):=χA hd (by simp) (by simp)
 have hv:val 4294967296 (qs++[1])<=Q:=by
  rw [ζI,h.q]
  have hp:(0:Int)<4294967296^qs.length:=Int.pow_pos (by decide)
  have h1:(4294967296:Int)^qs.length*1<=4294967296^qs.length*R:=Int.mul_le_mul_of_nonneg_left (by omega) (by omega)
  simp only [val]
  omega
 have:=ψf (B:=4294967296) (by decide) hc (Int.lt_of_le_of_lt hv hQ)
 simpa using this
theorem νf {D y i k R z:Int} {yt zt:Int} (hD:D=y+4294967296*yt) (hi:y*i=1+4294967296*k) (hz:z+4294967296*zt=D*R):z*i%4294967296=R%4294967296:=by
 have h1:=νd (B:=4294967296) (d:=D) (i:=i) (Q:=R) (k:=k+yt*i) (by rw [hD];grind)
 rw [<-h1,<-hz]
 have:(z+4294967296*zt)*i=z*i+4294967296*(zt*i):=by grind
 rw [this,Int.add_mul_emod_self_left]
theorem ηA (a a':Option Addr) (c c':Nat) (zs ys:List Int) (w:World) (n:Nat) (Q:Int) (hn:n<=30000) (hy:ys.length<=n) (hky:ζv 4294967296 ys) (hry:ζk .u32 w a' ys) (hod:val 4294967296 ys%2=1) (hQ:Q<4294967296^n) (hO:OvS w n Q a c zs (val 4294967296 ys) () [] Q w):
 Calls prog 93 #[.slice a zs c,.slice a' ys c'] w fun e w'=>ξx w Q n e w':=by
 obtain ⟨y0,yt,rfl⟩: ∃y0 yt,ys=y0::yt:=by
  cases ys with
  |nil=>simp [val] at hod
  |cons y0 yt=>exact ⟨y0,yt,rfl⟩
 have hd0:=hky.1 y0 (by simp)
 have hDv:val 4294967296 (y0::yt)=y0+4294967296*val 4294967296 yt:=rfl
 have hy2:y0%2=1:=by omega
 have hD0:0<val 4294967296 (y0::yt):=ζP (by decide) hky (by simp)
 obtain ⟨b',o',rfl,hb',hc'⟩: ∃b' o',a'=some ⟨b',o',none⟩∧b'<w.heap.size∧w.cell? ⟨b',o',none⟩=some (.int .u32 y0):=by
  rcases hry with h| ⟨b,off,rfl,hb,hc⟩
  ·cases h
  ·exact ⟨b,off,rfl,hb,by simpa using hc 0 (by simp)⟩
 obtain ⟨D,hD⟩: ∃D,D=val 4294967296 (y0::yt):=⟨_,rfl⟩
 rw [<-hD] at hO hD0 hDv
 have HD:Hid (D=val 4294967296 (y0::yt)∧D=y0+4294967296*val 4294967296 yt∧0<D):=⟨hD,hDv,hD0⟩
 have HY:Hid (ζv 4294967296 (y0::yt)∧ ∀w',Below w w w'->ζk .u32 w' (some ⟨b',o',none⟩) (y0::yt)):=⟨hky,fun w' hb=>hry.later hb⟩
 have HO:=Hid.mk hO
 have HQ:=Hid.mk hQ
 clear hO hD hDv hD0 hky hry hQ hod
 go_enter func93,ntmps93
 go_wp2_with fail
 refine (inverse_any y0 _ hd0.1 hd0.2 hy2).mono ?_
 rintro e w1 ⟨i,k,rfl,i0,i1,hik,rfl⟩
 have HI:=Hid.mk hik
 clear hik hy2 hc'
 go_wp2_with fail
 go_loopg [0,6,7] Q.toNat (fun g s0 s6 _ wr=> ∃(a:Option Addr) (c:Nat) (zs qs:List Int) (R:Int),s0= .slice a zs c∧g=R.toNat∧Hid (OvS w1 n Q a c zs D s6 qs R wr))
 case atStart=>exact ⟨_,_,_,[],_,rfl,rfl,HO.out⟩
 case round=>
  clear HO zs a c
  obtain ⟨a,c,zs,qs,R,rfl,rfl,HR⟩:=hrel
  cases zs with
  |nil=>
   have hR0:R=0:=by
    have h1:=HR.out.m
    simp only [val] at h1
    rcases Int.mul_eq_zero.mp h1.symm with h|h
    ·have:=HD.out.2.2;omega
    ·exact h
   obtain ⟨aq,cq,hv,hcm,hsl,hrn⟩:=ψa HR.out.own
   subst hv
   have HM:Hid (ξx w1 Q n (.returned (.slice aq qs cq)) wr):=by
    refine ⟨aq,cq,qs,rfl,hsl.fits,hcm,HR.out.can hR0,?_,?_,hrn,HR.out.bel⟩
    ·have:=HR.out.q
     rw [hR0] at this
     omega
    ·refine ψf (B:=4294967296) (by decide) (HR.out.can hR0) ?_
     have:=HR.out.q
     rw [hR0,Int.mul_zero,Int.add_zero] at this
     rw [<-this]
     exact HQ.out
   clear hsl hrn hcm
   go_wp2
   go_ret
   exact HM.out
  |cons z0 zt=>
   obtain ⟨b,o,rfl,hc0⟩: ∃b o,a=some ⟨b,o,none⟩∧wr.cell? ⟨b,o,none⟩=some ↑z0:=by
    rcases HR.out.r1 with h| ⟨b,off,rfl,hb,hc⟩
    ·cases h
    ·exact ⟨b,off,rfl,by simpa using hc 0 (by simp)⟩
   have HRp:Hid (0<R):=by
    unfold Hid
    have h1:=HR.out.m
    have h2:=ζP (B:=4294967296) (by decide) HR.out.k1 (by simp)
    rcases Int.lt_or_eq_of_le HR.out.r0 with h|h
    ·exact h
    ·rw [<-h,Int.mul_zero] at h1;omega
   have HX:Hid (z0*i%4294967296=R%4294967296):=νf HD.out.2.1 HI.out HR.out.m
   have hql:qs.length<=8388608:=by have:=HR.out.len HRp.out HQ.out;omega
   go_wp2_with (at_builtin;refine app2 (k:= .u32) (X:=z0*i%4294967296) (bytes:=4) rfl (.tmp 20) (.tmp 22) 152 rfl w1 22 underlying152 infoL (by decide) _ qs rfl rfl HR.out.own hql HR.out.bel.size ?_;intro a1 n1 c1 w2 hown1 hbe1 hs1 hkeep hblk)
   obtain ⟨X,hX⟩: ∃X,X=z0*i%4294967296:=⟨_,rfl⟩
   rw [<-hX] at hown1 HX⊢
   have X0:0<=X:=by rw [hX];exact Int.emod_nonneg _ (by decide)
   have X1:X<4294967296:=by rw [hX];exact Int.emod_lt_of_pos _ (by decide)
   have HB2:Hid (Below w1 w1 w2):=HR.out.bel.trans hbe1
   have HM2:Hid (ζk .u32 w2 (some ⟨b,o,none⟩) (z0::zt)):=κX HR.out.r1 (by omega) fun b1 off e hb=>by
    refine hkeep b1 hb ?_
    rcases HR.out.ap with h|h
    ·cases h
    ·exact h b1 off e
   have HOW:=Hid.mk hown1
   have HFX:Hid (0<=D*R-X*D∧D*R-X*D=D*(R/4294967296)*4294967296∧R/4294967296<R∧0<=R/4294967296∧R=X+4294967296*(R/4294967296)):=by
    unfold Hid
    have h1:=HX.out
    have h2:=HRp.out
    have h3:=HD.out.2.2
    have h4:=σn (B:=4294967296) (d:=D) (Q:=R)
    rw [<-h1] at h4
    have h5:0<=R/4294967296:=by omega
    have h6:=Int.mul_nonneg (Int.mul_nonneg (Int.le_of_lt h3) h5) (show (0:Int)<=4294967296 by decide)
    exact ⟨by omega,h4,by omega,h5,by omega⟩
   clear hown1 hbe1 hs1 hkeep hblk hX hc0
   refine (ωn (some ⟨b',o',none⟩) c' (y0::yt) X 0 _ (by omega) (HY.out.2 _ HB2.out) HY.out.1.1 X0 X1 (by decide) (by decide)).mono ?_
   rintro e w3 ⟨a3,c3,fs,rfl,f1,f2,f3,f4,f5,f6,hb3⟩
   have HF:Hid (fs.length<=c3∧c3<=maxLen∧ζv 4294967296 fs∧val 4294967296 fs=X*D∧ζk .u32 w3 a3 fs):=⟨f1,f2,f3,by rw [f4,HD.out.1];omega,f6.row⟩
   have HB3:=Hid.mk hb3
   clear f1 f2 f3 f4 f5 f6 hb3
   have hle:fs.length<=(z0::zt).length:=ξ3 (by decide) HF.out.2.2.1 HR.out.k1 (by rw [HF.out.2.2.2.1,HR.out.m];have:=HFX.out.1;omega)
   go_wp2_with fail
   refine (ψe (some ⟨b,o,none⟩) a3 c c3 (z0::zt) fs _ (by have:=HR.out.n1;omega) (HM2.out.later HB3.out) HF.out.2.2.2.2 HR.out.k1.1 HF.out.2.2.1.1 hle (by rw [HF.out.2.2.2.1,HR.out.m];have:=HFX.out.1;omega)).mono ?_
   rintro e w4 ⟨a4,c4,gs,rfl,g1,g2,g3,g4,g5,g6,hb4⟩
   have HG:Hid (ζv 4294967296 gs∧val 4294967296 gs=D*(R/4294967296)*4294967296∧gs.length<=n∧ζk .u32 w4 a4 gs):=⟨g3,by rw [g4,HF.out.2.2.2.1,HR.out.m];exact HFX.out.2.1,Nat.le_trans g5 HR.out.n1,g6.row⟩
   have HB4:Hid (Below w2 w2 w4):=HB3.out.trans (hb4.mono HB3.out.size)
   clear g3 g4 g5 g6 hb4 hle HF HB3
   go_wp2_with fail
   refine (ξQ a4 c4 gs 32 _ (by have:=HG.out.2.2.1;omega) g1 g2 (by decide) (by decide) HG.out.2.2.2 HG.out.1).mono ?_
   rintro e w5 ⟨a5,c5,hs,rfl,k1,k2,k3,k4,k5,k6,hb5⟩
   have HS:Hid (OvS w1 n Q a5 c5 hs D (.slice a1 n1 c1) (qs++[X]) (R/4294967296) w5):=by
    have hb25:Below w2 w2 w5:=HB4.out.trans (hb5.mono HB4.out.size)
    have hdX:Dig 4294967296 (qs++[X]):=HR.out.dig.append (Dig.cons X0 X1 (Dig.nil _))
    refine ⟨k6.row,k3,⟨k1,k2⟩,Nat.le_trans k5 HG.out.2.2.1,?_,η9 HOW.out hb25,hdX,HFX.out.2.2.2.1,?_,?_,?_,HB2.out.trans (hb25.mono HB2.out.size)⟩
    ·rcases k6 with h| ⟨b1,off1,rfl,hge,_⟩
     ·exact .inl h
     ·refine .inr fun b2 off2 e q=> ?_
      have h1:=(νe HOW.out q).2
      have h2:=HB4.out.size
      have h3:=congrArg (fun a:Option Addr=>a.map Addr.block) e
      simp at h3
      omega
    ·rw [k4,HG.out.2.1]
     have:((2:Int)^(32:Int).toNat)=4294967296:=by decide
     rw [this]
     exact Int.mul_ediv_cancel _ (by decide)
    ·rw [ζI,HR.out.q,List.length_append,List.length_singleton,Int.pow_succ]
     simp only [val,Int.mul_zero,Int.add_zero]
     have h1:=HFX.out.2.2.2.2
     rw [show (4294967296:Int)^qs.length*R=4294967296^qs.length*(X+4294967296*(R/4294967296)) by rw [<-h1]]
     grind
    ·intro h0
     refine χA hdX (by simp) ?_
     have h1:=HFX.out.2.2.2.2
     have h2:=HRp.out
     rw [h0] at h1
     simp
     omega
   have HME:Hid ((R/4294967296).toNat<R.toNat):=by
    unfold Hid
    have h1:=HFX.out.2.2.1
    have h2:=HRp.out
    omega
   clear k1 k2 k3 k4 k5 k6 hb5 HB4 HG HOW HB2 HM2 HR g1 g2
   go_wp2_with fail
   go_roundg (R/4294967296).toNat
   case measure=>exact HME.out
   case rel=>exact ⟨_,_,_,_,_,rfl,rfl,HS.out⟩
end Go.Proofs.YtfieffpobgcpmaaGreatDoor
