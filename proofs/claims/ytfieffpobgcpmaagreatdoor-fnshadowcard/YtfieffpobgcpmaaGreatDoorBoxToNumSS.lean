import Derived.Test.YtfieffpobgcpmaaGreatDoorBaseToNumS
import Derived.Laws.AppendOwnNone
set_option maxRecDepth 100000
set_option maxHeartbeats 32000000
namespace Go.Proofs.YtfieffpobgcpmaaGreatDoor
open Go.RowKit Go.Proofs.Tryz
variable {k k':IntKind} {w w' W:World} {a:Option Addr} {c:Nat} {zs ys ds:List Int} {B x q r:Int} {g:Bool} {v:Value}
structure Sl (k:IntKind) (w:World) (a:Option Addr) (c:Nat) (zs:List Int):Prop where
 fits:zs.length<=c
 nil:a=none->c=0
 row:ζk k w a zs
theorem Sl.later (h:Sl k w a c zs) (hb:Below w w w'):Sl k w' a c zs:=⟨h.fits,h.nil,h.row.later hb⟩
theorem ζk.take (h:ζk k w a zs) (m:Nat):ζk k w a (zs.take m):=by
 rcases h with h| ⟨b,off,h1,h2,h3⟩
 ·exact .inl (by rw [h];simp)
 ·refine .inr ⟨b,off,h1,h2,fun j hj=> ?_⟩
  rw [List.length_take] at hj
  rw [h3 j (by omega)]
  simp [List.getD_eq_getElem?_getD,show j<m from by omega]
theorem Sl.take (h:Sl k w a c zs) (m:Nat):Sl k w a c (zs.take m):=
 ⟨by have:=h.fits;rw [List.length_take];omega,h.nil,h.row.take m⟩
theorem χX (a:Option Addr) (c:Nat) (ds:List Int) (w:World) (hn:ds.length<=4194304) (hm:c<=maxLen) (hd:Sl .i64 w a c ds):
 Calls prog 118 #[.slice a ds c] w fun e w'=>e= .returned (.slice a (trimL ds).length c)∧trimL ds=ds.take (trimL ds).length∧w'=w:=by
 have hf:=hd.fits
 unfold maxLen at hm
 suffices h:Calls prog 118 #[.slice a ds c] w fun e w'=> ∃m,m<=ds.length∧e= .returned (.slice a m c)∧trimL ds=ds.take m∧w'=w by
  refine h.mono ?_
  rintro e w' ⟨m,hm,rfl,ht,rfl⟩
  have hl:(trimL ds).length=m:=by rw [ht,List.length_take];omega
  rw [hl]
  exact ⟨rfl,ht,rfl⟩
 cases a with
 |none=>
  have hc:=hd.nil rfl
  subst hc
  have:ds=[]:=List.length_eq_zero_iff.1 (by omega)
  subst this
  go_enter func118,ntmps118
  go_wp2
  go_loop [3] (fun i=>i= .int .i64 0) (fun _=>0)
  case atStart=>rfl
  case round=>
   subst hrel
   go_wp2
   go_ret
   exact ⟨rfl,rfl,rfl⟩
 |some x=>
  go_enter func118,ntmps118
  go_wp2
  go_loop [3] (fun i=> ∃m:Nat,m<=ds.length∧i= .int .i64 m∧Hid (trimL ds=trimL (ds.take m))) (fun i=>(intOf i).toNat)
  case atStart=>exact ⟨ds.length,by omega,rfl,by unfold Hid;simp⟩
  case round=>
   obtain ⟨m,hk,rfl,ht⟩:=hrel
   by_cases h0:m=0
   ·subst h0
    go_wp2
    go_ret
    exact ⟨0,by omega,rfl,by rw [ht.out];simp [trimL],rfl⟩
   ·obtain ⟨b,off,hx,hb,hc⟩:=hd.row.resolve_left (by intro h;subst h;simp at hk;omega)
    obtain ⟨m,rfl⟩: ∃m',m=m'+1:=⟨m-1,by omega⟩
    injection hx with hx
    subst hx
    have g:=hc m (by omega)
    clear hc
    go_wp2
    ·have hz:ds.getD m 0=0:=by simpa using ‹(ds[m]?.getD 0==0)=true›
     go_round
     case rel=>exact ⟨m,by omega,by go_num,by unfold Hid;rw [ht.out,ξl hk hz]⟩
     case measure=>simp [intOf]
    ·have hz:ds.getD m 0≠0:=by simpa using ‹(ds[m]?.getD 0==0)=false›
     go_ret
     exact ⟨m+1,hk,rfl,by rw [ht.out,ξm hk hz],rfl⟩
theorem ζk.setLow {B:Nat} (h:ζk k w a zs) (hf:ζl k' w' B a ys) (hl:zs.length<=ys.length) {p:Addr} (hp:p.block<B) (v:Value):ζk k (w.setCell p v) a zs:=by
 rcases h with h| ⟨b,off,h1,h2,h3⟩
 ·exact .inl h
 ·rcases hf with hf| ⟨b',off',h1',h2',_⟩
  ·subst hf
   exact .inl (List.length_eq_zero_iff.1 (by simpa using hl))
  ·rw [h1] at h1'
   injection h1' with h1'
   have hbb:b=b':=congrArg Addr.block h1'
   refine .inr ⟨b,off,h1,by simpa using h2,fun j hj=> ?_⟩
   rw [World.cell?_setCell_other _ _ _ _ (by intro hh;have:=congrArg Addr.block hh;simp at this;omega)]
   exact h3 j hj
theorem ζk.setNew (h:ζk k w a zs) (hf:ζk k' w' a ys) (hl:zs.length<=ys.length) {p:Addr} (hp:w'.heap.size<=p.block) (v:Value):ζk k (w.setCell p v) a zs:=by
 rcases h with h| ⟨b,off,h1,h2,h3⟩
 ·exact .inl h
 ·rcases hf with hf| ⟨b',off',h1',h2',_⟩
  ·subst hf
   exact .inl (List.length_eq_zero_iff.1 (by simpa using hl))
  ·rw [h1] at h1'
   injection h1' with h1'
   have hbb:b=b':=congrArg Addr.block h1'
   refine .inr ⟨b,off,h1,by simpa using h2,fun j hj=> ?_⟩
   rw [World.cell?_setCell_other _ _ _ _ (by intro hh;have:=congrArg Addr.block hh;simp at this;omega)]
   exact h3 j hj
def sg (g:Bool) (n:Int):Int:=if g then-n else n
structure L1 (w:World) (g:Bool) (a:Option Addr) (c:Nat) (ds:List Int) (x:Int):Prop where
 sl:Sl .i64 w a c ds
 can:ζv 65536 ds
 num:x=sg g (val 65536 ds)
 zero:g=true->ds≠[]
 cap:c<=maxLen
theorem L1.later (h:L1 w g a c ds x) (hb:Below w w w'):L1 w' g a c ds x:=
 ⟨h.sl.later hb,h.can,h.num,h.zero,h.cap⟩
theorem L1.setLow {B:Nat} (h:L1 w g a c ds x) (hf:ζl k' w' B a ys) (hl:ds.length<=ys.length) {p:Addr} (hp:p.block<B) (v:Value):L1 (w.setCell p v) g a c ds x:=
 ⟨⟨h.sl.fits,h.sl.nil,h.sl.row.setLow hf hl hp v⟩,h.can,h.num,h.zero,h.cap⟩
theorem L1.setNew (h:L1 w g a c ds x) (hf:ζk k' w' a ys) (hl:ds.length<=ys.length) {p:Addr} (hp:w'.heap.size<=p.block) (v:Value):L1 (w.setCell p v) g a c ds x:=
 ⟨⟨h.sl.fits,h.sl.nil,h.sl.row.setNew hf hl hp v⟩,h.can,h.num,h.zero,h.cap⟩
theorem L1.of_trim (g:Bool) (h:Sl .i64 w a c (trimL ds)) (hd:Dig 65536 ds) (hc:c<=maxLen):L1 w (g && decide (0<(trimL ds).length)) a c (trimL ds) (sg g (val 65536 ds)):=by
 refine ⟨h,ξb hd,?_,?_,hc⟩
 ·rw [ξk]
  by_cases e:trimL ds=[]
  ·have:val 65536 ds=0:=by rw [<-ξk,e];rfl
   rw [this]
   simp [sg]
  ·have:0<(trimL ds).length:=by
    rcases Nat.eq_zero_or_pos (trimL ds).length with h|h
    ·exact absurd (List.length_eq_zero_iff.1 h) e
    ·exact h
   simp [this]
 ·intro hg e
  rw [e] at hg
  simp at hg
theorem ξF (g:Bool) (a:Option Addr) (c:Nat) (ds:List Int) (w:World) (hn:ds.length<=4194304) (hm:c<=maxLen) (hd:Sl .i64 w a c ds) (hdig:Dig 65536 ds):
 Calls prog 68 #[g,.slice a ds c] w fun e w'=> ∃g' ds',e= .returned (.agg #[.bool g',.slice a ds'.length c])∧ds'.length<=ds.length∧L1 w' g' a c ds' (sg g (val 65536 ds))∧Below w w w':=by
 have hle:(trimL ds).length<=ds.length:=ξL ds
 cases g with
 |false=>
  go_enter func68,ntmps68
  go_wp2_with fail
  refine (χX a c ds _ hn hm (hd.later (ζc _ _))).mono ?_
  rintro e w1 ⟨rfl,ht,hw⟩
  subst hw
  have HT:Hid (trimL ds=ds.take (trimL ds).length):=ht
  clear ht
  go_wp2
  refine bodyPost_ret (v:= .agg #[false,.slice a (trimL ds).length c]) (by simp [results,results68,go_sem]) rfl ⟨false,trimL ds,rfl,hle,?_,ζc _ _⟩
  exact L1.later (by simpa using L1.of_trim false (by rw [HT.out];exact hd.take _) hdig hm) (ζc _ _)
 |true=>
  by_cases h0:0<(trimL ds).length
  ·go_enter func68,ntmps68
   go_wp2_with fail
   refine (χX a c ds _ hn hm (hd.later (ζc _ _))).mono ?_
   rintro e w1 ⟨rfl,ht,hw⟩
   subst hw
   have HT:Hid (trimL ds=ds.take (trimL ds).length):=ht
   clear ht
   go_wp2
   refine bodyPost_ret (v:= .agg #[true,.slice a (trimL ds).length c]) (by simp [results,results68,go_sem]) rfl ⟨true,trimL ds,rfl,hle,?_,ζc _ _⟩
   exact L1.later (by simpa [h0] using L1.of_trim true (by rw [HT.out];exact hd.take _) hdig hm) (ζc _ _)
  ·go_enter func68,ntmps68
   go_wp2_with fail
   refine (χX a c ds _ hn hm (hd.later (ζc _ _))).mono ?_
   rintro e w1 ⟨rfl,ht,hw⟩
   subst hw
   have HT:Hid (trimL ds=ds.take (trimL ds).length):=ht
   clear ht
   go_wp2
   refine bodyPost_ret (v:= .agg #[false,.slice a (trimL ds).length c]) (by simp [results,results68,go_sem]) rfl ⟨false,trimL ds,rfl,hle,?_,ζc _ _⟩
   exact L1.later (by simpa [h0] using L1.of_trim true (by rw [HT.out];exact hd.take _) hdig hm) (ζc _ _)
def Far (B:Nat) (a:Option Addr) (zs:List Int):Prop:=zs=[]∨ ∃b off,a=some ⟨b,off,none⟩∧B<=b
theorem ζl.far {B B':Nat} (h:ζl k w B a ys) (hl:zs.length<=ys.length) (hB:B'<=B):Far B' a zs:=by
 rcases h with h| ⟨b,off,h1,h2,_⟩
 ·subst h
  exact .inl (List.length_eq_zero_iff.1 (by simpa using hl))
 ·exact .inr ⟨b,off,h1,Nat.le_trans hB h2⟩
theorem L1.setFar {B:Nat} (h:L1 w g a c ds x) (hf:Far B a ds) {p:Addr} (hp:p.block<B) (v:Value):L1 (w.setCell p v) g a c ds x:=by
 refine ⟨⟨h.sl.fits,h.sl.nil,?_⟩,h.can,h.num,h.zero,h.cap⟩
 rcases h.sl.row with h| ⟨b,off,h1,h2,h3⟩
 ·exact .inl h
 ·rcases hf with hf| ⟨b',off',h1',h2'⟩
  ·exact .inl hf
  ·rw [h1] at h1'
   injection h1' with h1'
   have hbb:b=b':=congrArg Addr.block h1'
   refine .inr ⟨b,off,h1,by simpa using h2,fun j hj=> ?_⟩
   rw [World.cell?_setCell_other _ _ _ _ (by intro hh;have:=congrArg Addr.block hh;simp at this;omega)]
   exact h3 j hj
theorem Far.down {B B':Nat} (h:Far B a zs) (hB:B'<=B):Far B' a zs:=by
 rcases h with h| ⟨b,off,h1,h2⟩
 ·exact .inl h
 ·exact .inr ⟨b,off,h1,Nat.le_trans hB h2⟩
theorem Tryz.info3:(prog.info? 3).map (fun i=>(i.zero,i.size,i.bytes))=some (some (.int .i64 0),1,8):=by kernel_rfl
def φc (k:IntKind) (ys:List Int):List Value:=ys.map (Value.int k)
theorem ωE (k:IntKind) (ys:List Int) (y:Int):φc k ys++[.int k y]=φc k (ys++[y]):=by simp [φc]
theorem ωF {X:Int} {bytes:Nat} {w0:World} {ops:Array Oper} {rest:List Oper} {o:Oper} {a:Act} {Q:Exit->Act->World->Prop} (hgd:o.guard=none) (s x:Operand) (t:TypeId)
 (ho:o.op= .call {callee:= .builtin .append,args:=#[s,x],argTypes:=#[t,t]})
 (base:Nat) (e:TypeId) (ht:prog.underlying t=some (.slice e)) (hinfo:(prog.info? e).map (fun i=>(i.zero,i.size,i.bytes))=some (some (.int k 0),1,bytes)) (hby:bytes<=8)
 (sv:Value) (ys:List Int) (hs:a.eval s=sv) (hx:a.eval x= .slice (some ⟨w0,0,none⟩) 1 1) (hown:w0.ownsRow base e 1 sv ys.length (φc k ys)) (hn:ys.length<=8388608) (hbase:base<=w0.heap.size)
 (h: ∀a' n' c' w',w'.ownsRow base e 1 (.slice a' n' c') (ys++[X]).length (φc k (ys++[X]))->Below base w0 w'->w0.heap.size<w'.heap.size->wpList prog ops Q rest (a.put o.dst (.slice a' n' c')) w'):
 wpList prog ops Q (o::rest) a (w0.alloc (.cells #[.int k X] e)):=by
 obtain ⟨i0,hi,hz0,hz1,hz2⟩:=info_parts hinfo
 have hb1:(ys.length+1)*bytes<=(ys.length+1)*8:=Nat.mul_le_mul_left _ hby
 refine wpList_append_own _ hgd s x t ho base e i0 (.int k 0) 1 bytes ht hi hz0 hz1 hz2 rfl (by decide) sv ys.length (φc k ys) hs (hown.alloc _) ⟨w0,0,none⟩ 1 1 [.int k X] hx rfl ?_ ?_ ?_ ?_ ?_ ?_
 ·intro j u hj
  match j,hj with
  |0,hj=>simp at hj;subst hj;simp [Addr.add]
 ·intro u hu;simp at hu;subst hu;rfl
 ·unfold maxLen;omega
 ·omega
 ·simp;omega
 ·intro v' w' hown' hgrow _
  obtain ⟨a',n',c',rfl⟩: ∃a' n' c',v'= .slice a' n' c':=by
   rcases hown'.2 with ⟨h1,_⟩| ⟨g,cap,cur,h1,_⟩
   ·exact ⟨_,_,_,h1⟩
   ·exact ⟨_,_,_,h1⟩
  refine h a' n' c' w' ?_ ?_ ?_
  ·rw [ωE] at hown'
   simpa using hown'
  ·have hb0:Below base w0 (w0.alloc (.cells #[.int k X] e)):=(Below.refl _ _).alloc hbase _
   refine hb0.grown hgrow (by simp;omega) ?_
   intro kk hk
   rcases hown.2 with ⟨h1,_⟩| ⟨g,cap,cur,h1,h2,_⟩
   ·rw [h1] at hk;simp [Value.ownBlock] at hk
   ·rw [h1] at hk;simp [Value.ownBlock] at hk;omega
  ·have:=hgrow.size
   simp at this
   omega
theorem ψa {base:Nat} {e:TypeId} (h:w.ownsRow base e 1 v ys.length (φc k ys)):
 ∃a c,v= .slice a ys c∧c<=maxLen∧Sl k w a c ys∧ζl k w base a ys:=by
 rcases h.2 with ⟨h1,h2⟩| ⟨g,cap,cur,h1,h2,h3,h4,h5,h6,h7⟩
 ·have:ys=[]:=List.length_eq_zero_iff.1 h2
  subst this
  exact ⟨none,0,h1,Nat.zero_le _,⟨by simp,fun _=>rfl,.inl rfl⟩,.inl rfl⟩
 ·have hg:g<w.heap.size:=by
   by_cases hp:g<w.heap.size
   ·exact hp
   ·rw [Array.getElem?_eq_none (by omega)] at h3;cases h3
  have hc: ∀j,j<ys.length->w.cell? ⟨g,0+j,none⟩=some (.int k (ys.getD j 0)):=by
   intro j hj
   have:(cur.toList.take (ys.length*1))[j]? =(φc k ys)[j]? :=by rw [h7]
   rw [List.getElem?_take,if_pos (by omega)] at this
   simp only [World.cell?,h3]
   simp [φc,hj] at this
   simp [this,List.getD_eq_getElem?_getD,hj]
  have hfz: ∀j,j<ys.length->w.frozen? ⟨g,0+j,none⟩=false:=by
   intro j _
   simp [World.frozen?,h3]
  exact ⟨some ⟨g,0,none⟩,cap,h1,h5,⟨h4,(fun h=>by cases h),.inr ⟨g,0,rfl,hg,hc⟩⟩,.inr ⟨g,0,rfl,h2,hg,hc,hfz⟩⟩
theorem ψF (w:World) (base:Nat) (e:TypeId) (k:IntKind):w.ownsRow base e 1 () ([]:List Int).length (φc k []):=World.ownsRow_nil _ _ _ _
theorem ξn {k:Nat} (h: ¬k<zs.length):zs.getD k 0=0:=by
 rw [List.getD_eq_getElem?_getD,List.getElem?_eq_none (by omega)];rfl
theorem ζq {kd:IntKind} {wr:World} (hz:ζk kd w a zs) (hb:Below w w wr) {k:Nat} (h:k<zs.length): ∃b off,a=some ⟨b,off,none⟩∧wr.cell? ⟨b,off+k,none⟩=some (.int kd (zs.getD k 0)):=by
 obtain ⟨b,off,h1,h2,h3⟩:=hz.resolve_left (by intro e;subst e;simp at h)
 exact ⟨b,off,h1,(hb.cell (p:=⟨b,off+k,none⟩) h2).trans (h3 k h)⟩
theorem ζG {a b:Int} (h:a=b):Ending.returned (.int k a)= .returned (.int k b):=by rw [h]
theorem χC (a a':Option Addr) (c c':Nat) (zs ys:List Int) (w:World) (hn:zs.length<=4194304) (_hn':ys.length<=4194304) (hz:ζk .i64 w a zs) (hy:ζk .i64 w a' ys):
 Calls prog 71 #[.slice a zs c,.slice a' ys c'] w fun e w'=>e= .returned (.int .i64 (ξ4 zs ys))∧Below w w w':=by
 by_cases hl:zs.length=ys.length
 ·have HC:Hid (ξ4 zs ys=ζN zs ys):=by unfold Hid ξ4;rw [if_pos hl]
  have hne:((zs.length:Int) !=(ys.length:Int))=false:=by rw [bne_eq_false_iff_eq];omega
  have HL:Hid (zs.length=ys.length):=hl
  clear hl
  go_enter func71,ntmps71
  go_wp2
  go_loopw [5] (fun i wr=> ∃k:Nat,k<=zs.length∧i= .int .i64 ((k:Int)-1)∧Hid (ζN zs ys=ζN (zs.take k) (ys.take k))∧Below w w wr) (fun i _=>(intOf i+1).toNat)
  case atStart=>exact ⟨zs.length,Nat.le_refl _,rfl,by unfold Hid;rw [List.take_length,HL.out,List.take_length],Below.refl _ _⟩
  case round=>
   obtain ⟨k,hk,rfl,hsame,hnx⟩:=hrel
   by_cases h0:k=0
   ·subst h0
    go_wp2
    go_ret
    exact ⟨ζG (by rw [HC.out,hsame.out];simp [ζN]),hnx⟩
   ·obtain ⟨k,rfl⟩: ∃m,k=m+1:=⟨k-1,by omega⟩
    have hlt':k<ys.length:=by have:=HL.out;omega
    obtain ⟨b,off,rfl,g1⟩:=ζq hz hnx (show k<zs.length by omega)
    obtain ⟨b',off',rfl,g2⟩:=ζq hy hnx hlt'
    have hst:=φO (show k<zs.length by omega) hlt'
    obtain ⟨x,hx⟩: ∃x,x=zs.getD k 0:=⟨_,rfl⟩
    obtain ⟨y,hyy⟩: ∃y,y=ys.getD k 0:=⟨_,rfl⟩
    rw [<-hx] at g1 hst
    rw [<-hyy] at g2 hst
    have HST:Hid (ξ4 zs ys=if x=y then ζN (zs.take k) (ys.take k) else sgn (x-y)):=by unfold Hid;rw [HC.out,hsame.out,hst]
    have HS2:Hid (ζN zs ys=if x=y then ζN (zs.take k) (ys.take k) else sgn (x-y)):=by unfold Hid;rw [hsame.out,hst]
    clear hst hx hyy hsame HC hz hy
    by_cases c1:x<y
    ·go_wp2
     go_quiet (fail)
     go_wp2
     go_ret
     exact ⟨ζG (by rw [HST.out,if_neg (by omega)];unfold sgn;rw [if_pos (by omega)]),below_drewN hnx _⟩
    ·by_cases c2:y<x
     ·go_wp2
      go_quiet (fail)
      go_wp2
      go_quiet (fail)
      go_wp2
      go_ret
      exact ⟨ζG (by rw [HST.out,if_neg (by omega)];unfold sgn;rw [if_neg (by omega),if_neg (by omega)]),below_drewN (below_drewN hnx _) _⟩
     ·go_wp2
      go_quiet (fail)
      go_wp2
      go_quiet (fail)
      go_wp2
      go_roundw
      case rel=>exact ⟨k,by omega,by go_num,by unfold Hid;rw [HS2.out,if_pos (by omega)],below_drewN hnx _⟩
      case measure=>simp [intOf]
 ·have hne:((zs.length:Int) !=(ys.length:Int))=true:=by rw [bne_iff_ne];omega
  by_cases h2:zs.length<ys.length
  ·have HC:Hid (ξ4 zs ys= -1):=by unfold Hid ξ4;rw [if_neg hl,if_pos h2]
   go_enter func71,ntmps71
   go_wp2
   go_ret
   exact ⟨ζG HC.out.symm,Below.refl _ _⟩
  ·have HC:Hid (ξ4 zs ys=1):=by unfold Hid ξ4;rw [if_neg hl,if_neg h2]
   go_enter func71,ntmps71
   go_wp2
   go_ret
   exact ⟨ζG HC.out.symm,Below.refl _ _⟩
theorem ηO (a a':Option Addr) (p p':Nat) (zs ys:List Int) (w:World) (hn:zs.length<=700001) (hn':ys.length<=700001) (hz:ζk .i64 w a zs) (hy:ζk .i64 w a' ys) (hdz:Dig 65536 zs) (hdy:Dig 65536 ys):
 Calls prog 119 #[.slice a zs p,.slice a' ys p'] w fun e w'=> ∃a2 c2,e= .returned (.slice a2 (ζr 65536 (ζw zs ys) 0).length c2)∧c2<=maxLen∧Sl .i64 w' a2 c2 (ζr 65536 (ζw zs ys) 0)∧ζl .i64 w' w a2 (ζr 65536 (ζw zs ys) 0)∧Below w w w':=by
 go_enter func119,ntmps119
 go_wp2
 go_loopw [5,6,7] (fun v cc i wr=> ∃(k:Nat) (c:Int) (out:List Int),cc= .int .i64 c∧i= .int .i64 k∧0<=c∧c<=1∧(k<=zs.length∨k<=ys.length∨c=0)∧k<=1400003∧out.length=k∧Hid (ζr 65536 (ζw zs ys) 0=out++ζr 65536 (ζw (zs.drop k) (ys.drop k)) c)∧
  wr.ownsRow w 3 1 v out.length (φc .i64 out)∧Below w w wr) (fun _ _ i _=>1400004-(intOf i).toNat)
 case atStart=>exact ⟨0,0,[],rfl,rfl,by decide,by decide,.inl (Nat.zero_le _),by decide,rfl,rfl,ψF _ _ _ _,Below.refl _ _⟩
 case round=>
  obtain ⟨k,c,out,rfl,rfl,hc0,hc1,hkk,hkb,hol,hrest,hown,hnx⟩:=hrel
  have hsz:=hnx.size
  have hb1:=hdz.at (by decide) k
  have hb2:=hdy.at (by decide) k
  have hlo:out.length<=1400003:=by omega
  by_cases hend: ¬k<zs.length∧ ¬k<ys.length∧ ¬0<c
  ·obtain ⟨e1,e2,e3⟩:=hend
   have hcz:c=0:=by omega
   subst hcz
   have hfin:ζr 65536 (ζw zs ys) 0=out:=by
    rw [hrest.out,List.drop_eq_nil_of_le (by omega),List.drop_eq_nil_of_le (by omega)];simp [ζw,ζr]
   have HF:Hid (ζr 65536 (ζw zs ys) 0=out):=hfin
   obtain ⟨a2,c2,rfl,hcm,hsl,hrn⟩:=ψa hown
   clear hfin hown hrest hb1 hb2 hdz hdy hz hy hol
   go_wp2
   go_ret
   rw [HF.out]
   exact ⟨a2,c2,rfl,hcm,hsl,hrn,hnx⟩
  ·have hcond:k<zs.length∨k<ys.length∨0<c:=by omega
   have hkb':k<1400003:=by omega
   by_cases h1:k<zs.length
   ·by_cases h2:k<ys.length
    ·obtain ⟨b,off,rfl,g1⟩:=ζq hz hnx h1
     obtain ⟨b',off',rfl,g2⟩:=ζq hy hnx h2
     obtain ⟨x,hx⟩: ∃x,x=zs.getD k 0:=⟨_,rfl⟩
     obtain ⟨y,hyy⟩: ∃y,y=ys.getD k 0:=⟨_,rfl⟩
     rw [<-hx] at hb1 g1
     rw [<-hyy] at hb2 g2
     have hst:=φz (B:=65536) (by decide) (s:=c+x+y) hcond hc0 hc1 (by rw [<-hx,<-hyy];omega)
     have HS:Hid (ζr 65536 (ζw zs ys) 0=(out++[(c+x+y)%65536])++ζr 65536 (ζw (zs.drop (k+1)) (ys.drop (k+1))) ((c+x+y)/65536)):=by unfold Hid;rw [hrest.out,hst];simp
     have hsm0:0<=c+x+y:=by omega
     have hsm1:c+x+y<=131071:=by omega
     obtain ⟨hb10,hb11⟩:=hb1
     obtain ⟨hb20,hb21⟩:=hb2
     clear hst hx hyy hrest hz hy hdz hdy
     go_wp2_with (at_builtin;refine ωF rfl (.tmp 44) (.tmp 47) 66 rfl w 3 underlying66 Tryz.info3 (by decide) _ _ rfl rfl hown (by omega) hsz ?_;intro a1 n1 c1 w1 hown1 hb1 hs1)
     have hnx2:=hnx.trans hb1
     go_roundw
     case rel=>exact ⟨k+1,(c+x+y)/65536,out++[(c+x+y)%65536],rfl,by go_num,by omega,by omega,by omega,by omega,by simp;omega,HS,hown1,hnx2⟩
     case measure=>simp [intOf];omega
    ·obtain ⟨b,off,rfl,g1⟩:=ζq hz hnx h1
     obtain ⟨x,hx⟩: ∃x,x=zs.getD k 0:=⟨_,rfl⟩
     obtain ⟨y,hyy⟩: ∃y,y=ys.getD k 0:=⟨_,rfl⟩
     have hy0:y=0:=by rw [hyy];exact ξn h2
     rw [<-hx] at hb1 g1
     rw [<-hyy] at hb2
     have hst:=φz (B:=65536) (by decide) (s:=c+x) hcond hc0 hc1 (by rw [<-hx,<-hyy];omega)
     have HS:Hid (ζr 65536 (ζw zs ys) 0=(out++[(c+x)%65536])++ζr 65536 (ζw (zs.drop (k+1)) (ys.drop (k+1))) ((c+x)/65536)):=by unfold Hid;rw [hrest.out,hst];simp
     have hsm0:0<=c+x:=by omega
     have hsm1:c+x<=131071:=by omega
     obtain ⟨hb10,hb11⟩:=hb1
     obtain ⟨hb20,hb21⟩:=hb2
     clear hst hx hyy hrest hz hy hdz hdy hy0
     go_wp2_with (at_builtin;refine ωF rfl (.tmp 44) (.tmp 47) 66 rfl w 3 underlying66 Tryz.info3 (by decide) _ _ rfl rfl hown (by omega) hsz ?_;intro a1 n1 c1 w1 hown1 hb1 hs1)
     have hnx2:=hnx.trans hb1
     go_roundw
     case rel=>exact ⟨k+1,(c+x)/65536,out++[(c+x)%65536],rfl,by go_num,by omega,by omega,by omega,by omega,by simp;omega,HS,hown1,hnx2⟩
     case measure=>simp [intOf];omega
   ·by_cases h2:k<ys.length
    ·obtain ⟨b',off',rfl,g2⟩:=ζq hy hnx h2
     obtain ⟨x,hx⟩: ∃x,x=zs.getD k 0:=⟨_,rfl⟩
     obtain ⟨y,hyy⟩: ∃y,y=ys.getD k 0:=⟨_,rfl⟩
     have hx0:x=0:=by rw [hx];exact ξn h1
     rw [<-hx] at hb1
     rw [<-hyy] at hb2 g2
     have hst:=φz (B:=65536) (by decide) (s:=c+y) hcond hc0 hc1 (by rw [<-hx,<-hyy];omega)
     have HS:Hid (ζr 65536 (ζw zs ys) 0=(out++[(c+y)%65536])++ζr 65536 (ζw (zs.drop (k+1)) (ys.drop (k+1))) ((c+y)/65536)):=by unfold Hid;rw [hrest.out,hst];simp
     have hsm0:0<=c+y:=by omega
     have hsm1:c+y<=131071:=by omega
     obtain ⟨hb10,hb11⟩:=hb1
     obtain ⟨hb20,hb21⟩:=hb2
     clear hst hx hyy hrest hz hy hdz hdy hx0
     go_wp2_with (at_builtin;refine ωF rfl (.tmp 44) (.tmp 47) 66 rfl w 3 underlying66 Tryz.info3 (by decide) _ _ rfl rfl hown (by omega) hsz ?_;intro a1 n1 c1 w1 hown1 hb1 hs1)
     have hnx2:=hnx.trans hb1
     go_roundw
     case rel=>exact ⟨k+1,(c+y)/65536,out++[(c+y)%65536],rfl,by go_num,by omega,by omega,by omega,by omega,by simp;omega,HS,hown1,hnx2⟩
     case measure=>simp [intOf];omega
    ·have h3:0<c:=by omega
     obtain ⟨x,hx⟩: ∃x,x=zs.getD k 0:=⟨_,rfl⟩
     obtain ⟨y,hyy⟩: ∃y,y=ys.getD k 0:=⟨_,rfl⟩
     have hx0:x=0:=by rw [hx];exact ξn h1
     have hy0:y=0:=by rw [hyy];exact ξn h2
     rw [<-hx] at hb1
     rw [<-hyy] at hb2
     have hst:=φz (B:=65536) (by decide) (s:=c) hcond hc0 hc1 (by rw [<-hx,<-hyy];omega)
     have HS:Hid (ζr 65536 (ζw zs ys) 0=(out++[(c)%65536])++ζr 65536 (ζw (zs.drop (k+1)) (ys.drop (k+1))) ((c)/65536)):=by unfold Hid;rw [hrest.out,hst];simp
     have hsm0:0<=c:=by omega
     have hsm1:c<=131071:=by omega
     obtain ⟨hb10,hb11⟩:=hb1
     obtain ⟨hb20,hb21⟩:=hb2
     clear hst hx hyy hrest hz hy hdz hdy hx0 hy0
     go_wp2_with (at_builtin;refine ωF rfl (.tmp 44) (.tmp 47) 66 rfl w 3 underlying66 Tryz.info3 (by decide) _ _ rfl rfl hown (by omega) hsz ?_;intro a1 n1 c1 w1 hown1 hb1 hs1)
     have hnx2:=hnx.trans hb1
     go_roundw
     case rel=>exact ⟨k+1,(c)/65536,out++[(c)%65536],rfl,by go_num,by omega,by omega,by omega,by omega,by simp;omega,HS,hown1,hnx2⟩
     case measure=>simp [intOf];omega
structure Bx1 (w:World) (u v:Value) (W:World):Prop where
 q0:W.cell? ⟨w,0,none⟩=some u
 q1:W.cell? ⟨w,1,none⟩=some v
 r1:W.cell? ⟨↑w+1,0,none⟩=some ↑false
 r2:W.cell? ⟨↑w+1,1,none⟩=some ↑()
 r3: ∀j,W.frozen? ⟨↑w+1,j,none⟩=false
 le:w.heap.size+1+1<=W.heap.size
 bel:Below w w W
theorem Bx1.start (w:World) (u v:Value) (t t':TypeId):Bx1 w u v ((w.alloc (.cells #[u,v] t)).alloc (.cells #[false,()] t')):=by
 refine ⟨?_,?_,?_,?_,?_,?_,ξr _ _ _⟩
 all_goals simp [go_sem]
theorem Bx1.on {u:Value} {W':World} (h:Bx1 w u v W) (hb:Below (↑w+1+1) W W'):Bx1 w u v W':=
 ⟨(hb.cell (by simp;omega)).trans h.q0,(hb.cell (by simp;omega)).trans h.q1,(hb.cell (by simp)).trans h.r1,(hb.cell (by simp)).trans h.r2,fun j=>(hb.frozen (by simp)).trans (h.r3 j),Nat.le_trans h.le hb.size,h.bel.trans (hb.mono (by omega))⟩
theorem Bx1.later {u:Value} {W':World} (h:Bx1 w u v W) (hb:Below W W W'):Bx1 w u v W':=h.on (hb.mono h.le)
theorem σ7 (w:World) (n:Nat) (e:TypeId) (k:IntKind) (base:Nat) (hb:base<=w.heap.size) (hn:n<=maxLen):(w.alloc (.cells (madeCells #[.int k 0] n) e)).ownsRow base e 1 (.slice (some ⟨w,0,none⟩) n n) (List.replicate n (0:Int)).length (φc k (List.replicate n 0)):=by
 refine ⟨by simp [φc],.inr ⟨w,n,madeCells #[.int k 0] n,by simp,hb,by (first|exact heap_alloc_new _ _|exact Go.RowKit.heap_alloc_new _ _|exact Go.heap_alloc_new _ _),by simp,hn,by simp [size_madeCells],?_⟩⟩
 apply List.ext_getElem?
 intro j
 rw [List.getElem?_take]
 by_cases hj:j<n
 ·simp [hj,φc,madeCells,Nat.mod_one]
 ·simp [hj,φc]
def Nil0 (a:Option Addr) (c:Nat):Prop:=a=none->c=0
open Go.ChangeShapes Go.WideShapes Go.ChangeAt Go.RowKit Go.Joins
theorem νG (h: ∀n∈zs,(Lit.int .u8 n).wf=true):Dig 256 zs:=by
 intro z hz
 have:=bounds_u8 (h z hz)
 omega
theorem θt {H:Type} {enc:TypeId×Value->H} {b0:Nat} {d:DataW H} {p:List MemPlace} (hv:Value.okWide prog W .any b0 44 v) (h:DataW.Trod enc prog W 0 (fun _=>true) true 44 v d p):
 ∃(a:Option Addr) (c:Nat) (zs:List Int),v= .slice a zs c∧zs.length<=c∧c<=maxLen∧Nil0 a c∧Dig 256 zs∧ζk .u8 W a zs:=by
 obtain ⟨a0,len0,cap0,rfl⟩:=okWide_slice underlying44 hv
 obtain ⟨fuel,hf⟩:=h
 rcases open_ints underlying44 underlying5 νE hf with ⟨hcs,_⟩| ⟨x,l,c,zs,hcs,_,hl,hm,hz,_,hcell,hwz⟩
 ·simp [Value.cells] at hcs
  obtain ⟨rfl,rfl,rfl⟩:=hcs
  exact ⟨none,0,[],rfl,by simp,by unfold maxLen;omega,fun _=>rfl,Dig.nil _,.inl rfl⟩
 ·simp [Value.cells] at hcs
  obtain ⟨rfl,rfl,rfl⟩:=hcs
  have hzl:zs.length=cap0:=by simpa using hz
  have ht:(zs.take len0).length=len0:=by rw [List.length_take];omega
  refine ⟨some x,cap0,zs.take len0,by rw [ht],by rw [ht];omega,by omega,(fun h=>by cases h),νG (fun n hn=>hwz n (List.mem_of_mem_take hn)),νD ?_⟩
  intro i hi
  rw [ht] at hi
  rw [hcell i (by omega)]
  simp [List.getD_eq_getElem?_getD,hi]
theorem φd {a b:Nat} (h:a<=b):(2:Int)^a<=2^b:=by
 obtain ⟨d,rfl⟩:=Nat.le.dest h
 have h1:(0:Int)<2^a:=Int.pow_pos (by decide)
 have h2:(0:Int)<2^d:=Int.pow_pos (by decide)
 have h3:(2:Int)^a*1<=2^a*2^d:=Int.mul_le_mul_of_nonneg_left (by omega) (by omega)
 rw [Int.pow_add]
 omega
def ψz (m q:Int):Bool:=decide (m%q≠0)
def ζL (q:Int) (zs:List Int):List Int:=zs.map (·*q)
theorem φe (B q:Int): ∀zs:List Int,val B (ζL q zs)=val B zs*q
 | []=>by simp [ζL,val]
 |z::zs=>by
  have ih:=φe B q zs
  simp only [ζL,List.map_cons,val] at ih⊢
  rw [ih,Int.add_mul,Int.mul_assoc]
theorem φQ {k:Nat} (h:k<zs.length):ζL q (zs.drop k)=zs.getD k 0*q::ζL q (zs.drop (k+1)):=by
 rw [List.drop_eq_getElem_cons h,List.getD_eq_getElem?_getD,List.getElem?_eq_getElem h]
 rfl
theorem ωG (B:Int): ∀n:Nat,val B (List.replicate n 0)=0
 |0=>rfl
 |n+1=>by rw [List.replicate_succ];simp [val,ωG B n]
theorem τt (B:Int) (n:Nat) (zs:List Int):val B (List.replicate n 0++zs)=B^n*val B zs:=by
 rw [ζI,ωG,List.length_replicate]
 omega
theorem Dig.zeros (hB:0<B) (n:Nat):Dig B (List.replicate n 0):=by
 intro z hz
 have:=List.eq_of_mem_replicate hz
 subst this
 exact ⟨Int.le_refl 0,hB⟩
theorem ψG {c:Int} (hB:0<B) (hq:0<q) (hx0:0<=x) (hx1:x<B) (hc0:0<=c) (hc1:c<q):0<=(x*q+c)/B∧(x*q+c)/B<q:=by
 have h0:=Int.mul_nonneg hx0 (Int.le_of_lt hq)
 refine ⟨Int.ediv_nonneg (by omega) (by omega),Int.ediv_lt_of_lt_mul hB ?_⟩
 have h1:(x+1)*q<=B*q:=Int.mul_le_mul_of_nonneg_right (by omega) (by omega)
 rw [Int.add_mul,Int.one_mul,Int.mul_comm B q] at h1
 omega
theorem ωH {B q:Int} (hB:0<B) (hq:0<q) (hqB:q<=B): ∀(zs:List Int) (c:Int),Dig B zs->0<=c->c<q->Dig B (ζr B (ζL q zs) c)
 | [],c,_,h0,h1=>by
  simp only [ζL,List.map_nil,ζr]
  split
  ·exact Dig.nil B
  ·exact Dig.cons h0 (by omega) (Dig.nil B)
 |z::zs,c,h,h0,h1=>by
  simp only [ζL,List.map_cons,ζr]
  have h2:=ψG hB hq h.head.1 h.head.2 h0 h1
  exact Dig.cons (Int.emod_nonneg _ (by omega)) (Int.emod_lt_of_pos _ hB) (ωH hB hq hqB zs _ h.tail h2.1 h2.2)
def ζV (B q:Int):List Int->List Int
 | []=>[]
 |z::zs=>(z+B*zs.headD 0)/q%B::ζV B q zs
theorem φA {B:Int} (hB:0<B) (q:Int): ∀zs:List Int,Dig B (ζV B q zs)
 | []=>Dig.nil B
 |z::zs=>Dig.cons (Int.emod_nonneg _ (by omega)) (Int.emod_lt_of_pos _ hB) (φA hB q zs)
theorem χD (zs:List Int) (k:Nat):(zs.drop k).headD 0=zs.getD k 0:=by
 rw [List.headD_eq_head?_getD,List.head?_drop,List.getD_eq_getElem?_getD]
theorem φR {k:Nat} (h:k<zs.length):ζV B q (zs.drop k)=(zs.getD k 0+B*zs.getD (k+1) 0)/q%B::ζV B q (zs.drop (k+1)):=by
 rw [List.drop_eq_getElem_cons h]
 simp only [ζV]
 rw [χD]
 simp [List.getD_eq_getElem?_getD,h]
theorem θ7 (B:Int) (zs:List Int):val B zs=zs.headD 0+B*val B zs.tail:=by
 cases zs<;>simp [val]
theorem χE {z y:Int} (hBq:B=q*r) (hq:0<q) (hr:0<r) (hz0:0<=z) (hz1:z<B):(z+B*y)/q%B=z/q+r*(y%q):=by
 have e1:(z+B*y)/q=z/q+r*y:=by
  rw [hBq,Int.mul_assoc]
  rw [Int.add_mul_ediv_left _ _ (by omega)]
 have e2:r*y=B*(y/q)+r*(y%q):=by
  have h:=Int.mul_add r (q*(y/q)) (y%q)
  rw [Int.mul_ediv_add_emod y q,<-Int.mul_assoc,Int.mul_comm r q,<-hBq] at h
  exact h
 have hd0:0<=z/q:=Int.ediv_nonneg hz0 (by omega)
 have hd1:z/q<r:=Int.ediv_lt_of_lt_mul hq (by rw [Int.mul_comm r q,<-hBq];exact hz1)
 have hm0:=Int.emod_nonneg y (show q≠0 by omega)
 have hm1:=Int.emod_lt_of_pos y hq
 have h3:r*(y%q)<=r*(q-1):=Int.mul_le_mul_of_nonneg_left (by omega) (by omega)
 have h4:0<=r*(y%q):=Int.mul_nonneg (by omega) hm0
 rw [Int.mul_sub,Int.mul_one,Int.mul_comm r q,<-hBq] at h3
 rw [e1,e2,show z/q+(B*(y/q)+r*(y%q))=(z/q+r*(y%q))+B*(y/q) by omega,Int.add_mul_emod_self_left]
 exact Int.emod_eq_of_lt (by omega) (by omega)
theorem θ8 {B q r:Int} (hBq:B=q*r) (hq:0<q) (hr:0<r): ∀{zs:List Int},Dig B zs->val B (ζV B q zs)=val B zs/q
 | [],_=>by simp [ζV,val]
 |z::zs,h=>by
  have ih:=θ8 hBq hq hr h.tail
  simp only [ζV,val]
  rw [ih,χE hBq hq hr h.head.1 h.head.2]
  have hv:=θ7 B zs
  have hBr:B*val B zs.tail=q*(r*val B zs.tail):=by rw [hBq,Int.mul_assoc]
  have e1:val B zs/q=zs.headD 0/q+r*val B zs.tail:=by
   rw [hv,hBr,Int.add_mul_ediv_left _ _ (by omega)]
  have e2:(z+B*val B zs)/q=z/q+r*val B zs:=by
   rw [hBq,Int.mul_assoc,Int.add_mul_ediv_left _ _ (by omega)]
  have e3:val B zs%q=zs.headD 0%q:=by
   rw [hv,hBr,Int.add_mul_emod_self_left]
  have e4:=Int.mul_ediv_add_emod (val B zs) q
  rw [e2,<-e3]
  have e5:r*val B zs=B*(val B zs/q)+r*(val B zs%q):=by
   have h:=Int.mul_add r (q*(val B zs/q)) (val B zs%q)
   rw [e4,<-Int.mul_assoc,Int.mul_comm r q,<-hBq] at h
   exact h
  omega
theorem φS (B:Int) (zs:List Int) (s:Nat) (hs:s<=zs.length):val B zs=val B (zs.take s)+B^s*val B (zs.drop s):=by
 have h:=ζI B (zs.drop s) (zs.take s)
 rw [List.take_append_drop,List.length_take,show min s zs.length=s by omega] at h
 exact h
theorem θ9 (hB:0<B) (s:Nat):0<B^s:=Int.pow_pos hB
theorem ρw (hBq:B=q*r) (hq:0<q) (hr:0<r) (hB:0<B) (h:Dig B zs) {s:Nat} (hs:s<=zs.length):val B (ζV B q (zs.drop s))=val B zs/(B^s*q):=by
 rw [θ8 hBq hq hr (h.drop s)]
 have hp:=θ9 hB s
 rw [<-Int.ediv_ediv_of_nonneg (by omega)]
 congr 1
 rw [φS B zs s hs,Int.add_mul_ediv_left _ _ (by omega)]
 have h0:=ζo hB (h.take s)
 have h1:=ζ1 hB (h.take s)
 rw [List.length_take,show min s zs.length=s by omega] at h1
 rw [Int.ediv_eq_zero_of_lt h0 h1]
 omega
theorem ωI (hq:0<q) (hqB: ∃r,B=q*r) (hB:0<B) (h:Dig B zs) {s:Nat} (hs:s<=zs.length):val B zs%(B^s*q)=0↔val B (zs.take s)=0∧zs.getD s 0%q=0:=by
 have hp:=θ9 hB s
 have h0:=ζo hB (h.take s)
 have h1:=ζ1 hB (h.take s)
 rw [List.length_take,show min s zs.length=s by omega] at h1
 have hsp:=φS B zs s hs
 have hd:val B (zs.drop s)%q=zs.getD s 0%q:=by
  obtain ⟨r,hr⟩:=hqB
  rw [θ7 B (zs.drop s),χD,show B*val B (zs.drop s).tail=q*(r*val B (zs.drop s).tail) by rw [hr,Int.mul_assoc],Int.add_mul_emod_self_left]
 rw [<-hd]
 have hm0:=Int.emod_nonneg (val B (zs.drop s)) (show q≠0 by omega)
 have hm1:=Int.emod_lt_of_pos (val B (zs.drop s)) hq
 have hde:=Int.mul_ediv_add_emod (val B (zs.drop s)) q
 have e:val B zs=(val B (zs.take s)+B^s*(val B (zs.drop s)%q))+B^s*q*(val B (zs.drop s)/q):=by
  rw [hsp,Int.mul_assoc,Int.add_assoc,<-Int.mul_add]
  congr 2
  omega
 have hlt:val B (zs.take s)+B^s*(val B (zs.drop s)%q)<B^s*q:=by
  have:B^s*(val B (zs.drop s)%q)<=B^s*(q-1):=Int.mul_le_mul_of_nonneg_left (by omega) (by omega)
  rw [Int.mul_sub,Int.mul_one] at this
  omega
 have hge:0<=B^s*(val B (zs.drop s)%q):=Int.mul_nonneg (by omega) hm0
 rw [e,Int.add_mul_emod_self_left,Int.emod_eq_of_lt (by omega) hlt]
 constructor
 ·intro h2
  refine ⟨by omega,?_⟩
  have h3:B^s*(val B (zs.drop s)%q)=0:=by omega
  rcases Int.mul_eq_zero.1 h3 with h4|h4
  ·omega
  ·exact h4
 ·rintro ⟨h2,h3⟩
  rw [h2,h3]
  simp
def ψp (zs:List Int):Bool:=zs.any (· !=0)
theorem ρx (zs:List Int) (z:Int):ψp (zs++[z])=(ψp zs|| (z !=0)):=by simp [ψp]
theorem φT {k:Nat} (h:k<zs.length):ψp (zs.take (k+1))=(ψp (zs.take k)|| (zs.getD k 0 !=0)):=by
 rw [List.take_succ_eq_append_getElem h,ρx]
 simp [List.getD_eq_getElem?_getD,h]
theorem ψS {B:Int} (hB:0<B): ∀{zs:List Int},Dig B zs->(ψp zs=true↔val B zs≠0)
 | [],_=>by simp [ψp,val]
 |z::zs,h=>by
  have ih:=ψS hB h.tail
  have h1:=ζo hB h.tail
  have h2:=h.head
  have h3:=Int.mul_nonneg (Int.le_of_lt hB) h1
  have e:ψp (z::zs)=((z !=0)||ψp zs):=by simp [ψp]
  rw [e]
  simp only [Bool.or_eq_true,bne_iff_ne,ne_eq,val,ih]
  constructor
  ·rintro (h4|h4) h5
   ·omega
   ·have h6:0<val B zs:=by omega
    have h7:=Int.mul_pos hB h6
    omega
  ·intro h4
   by_cases h5:z=0
   ·right
    intro h6
    apply h4
    rw [h5,h6]
    simp
   ·exact .inl h5
theorem ωJ: ∀zs:List Int,trimL zs=[]↔ψp zs=false
 | []=>by simp [trimL,ψp]
 |z::zs=>by
  have ih:=ωJ zs
  have e:ψp (z::zs)=((z !=0)||ψp zs):=by simp [ψp]
  rw [e]
  simp only [trimL]
  by_cases h:trimL zs=[]∧z=0
  ·rw [if_pos h]
   simp [h.2,ih.1 h.1]
  ·rw [if_neg h]
   constructor
   ·intro h';cases h'
   ·intro h'
    simp only [Bool.or_eq_false_iff,bne_eq_false_iff_eq] at h'
    exact absurd ⟨ih.2 h'.2,h'.1⟩ h
end Go.Proofs.YtfieffpobgcpmaaGreatDoor
