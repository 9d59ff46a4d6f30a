import Derived.Test.YtfieffpobgcpmaaGreatDoorNumSNumZTzOpenTUtil
import Derived.Test.YtfieffpobgcpmaaGreatDoorBaseOpenNum
set_option maxRecDepth 100000
set_option maxHeartbeats 32000000
namespace Go.Proofs.YtfieffpobgcpmaaGreatDoor
open Go.RowKit
structure Sl (k:IntKind) (w:World) (a:Option Addr) (c:Nat) (zs:List Int):Prop where
 fits:zs.length≤c
 nil:a=none→c=0
 row:RowAt k w a zs
theorem Sl.later {k:IntKind} {w w':World} {a:Option Addr} {c:Nat} {zs:List Int} (h:Sl k w a c zs) (hb:Below w.heap.size w w'):Sl k w' a c zs:=⟨h.fits,h.nil,h.row.later hb⟩
theorem RowAt.take {k:IntKind} {w:World} {a:Option Addr} {zs:List Int} (h:RowAt k w a zs) (m:Nat):RowAt k w a (zs.take m):=by
 rcases h with h| ⟨b,off,h1,h2,h3⟩
 ·exact .inl (by rw [h];simp)
 ·refine .inr ⟨b,off,h1,h2,fun j hj=> ?_⟩
  rw [List.length_take] at hj
  rw [h3 j (by omega)]
  simp [List.getD_eq_getElem?_getD,show j<m from by omega]
theorem Sl.take {k:IntKind} {w:World} {a:Option Addr} {c:Nat} {zs:List Int} (h:Sl k w a c zs) (m:Nat):Sl k w a c (zs.take m):=
 ⟨by have:=h.fits;rw [List.length_take];omega,h.nil,h.row.take m⟩
theorem trim_any (a:Option Addr) (c:Nat) (ds:List Int) (w:World) (hn:ds.length≤1048576) (hm:c≤maxLen) (hd:Sl .i64 w a c ds):
 Calls Tryz.prog 118 #[.slice a ds.length c] w fun e w'=>e= .returned (.slice a (trimL ds).length c)∧trimL ds=ds.take (trimL ds).length∧w'=w:=by
 have hf:=hd.fits
 unfold maxLen at hm
 suffices h:Calls Tryz.prog 118 #[.slice a ds.length c] w fun e w'=> ∃m,m≤ds.length∧e= .returned (.slice a m c)∧trimL ds=ds.take m∧w'=w by
  refine h.mono ?_
  rintro e w' ⟨m,hm,rfl,ht,rfl⟩
  have hl:(trimL ds).length=m:=by rw [ht,List.length_take];omega
  rw [hl]
  exact ⟨rfl,ht,rfl⟩
 cases a with
 |none=>
  have hc:=hd.nil rfl
  subst hc
  have:ds=[]:=List.length_eq_zero_iff.1 (by omega)
  subst this
  go_enter Tryz.func118,Tryz.ntmps118
  go_wp2
  go_loop [3] (fun i=>i= .int .i64 0) (fun _=>0)
  case atStart=>rfl
  case round=>
   subst hrel
   go_wp2
   go_ret
   exact ⟨rfl,rfl,rfl⟩
 |some x=>
  go_enter Tryz.func118,Tryz.ntmps118
  go_wp2
  go_loop [3] (fun i=> ∃m:Nat,m≤ds.length∧i= .int .i64 m∧Hid (trimL ds=trimL (ds.take m))) (fun i=>(intOf i).toNat)
  case atStart=>exact ⟨ds.length,by omega,rfl,by unfold Hid;simp⟩
  case round=>
   obtain ⟨m,hk,rfl,ht⟩:=hrel
   by_cases h0:m=0
   ·subst h0
    go_wp2
    go_ret
    exact ⟨0,by omega,rfl,by rw [ht.out];simp [trimL],rfl⟩
   ·obtain ⟨b,off,hx,hb,hc⟩:=hd.row.resolve_left (by intro h;subst h;simp at hk;omega)
    obtain ⟨m,rfl⟩: ∃m',m=m'+1:=⟨m-1,by omega⟩
    injection hx with hx
    subst hx
    have g:=hc m (by omega)
    clear hc
    go_wp2
    ·have hz:ds.getD m 0=0:=by simpa using ‹(ds[m]?.getD 0==0)=true›
     go_round
     case rel=>exact ⟨m,by omega,by go_num,by unfold Hid;rw [ht.out,trim_take_step hk hz]⟩
     case measure=>simp [intOf]
    ·have hz:ds.getD m 0≠0:=by simpa using ‹(ds[m]?.getD 0==0)=false›
     go_ret
     exact ⟨m+1,hk,rfl,by rw [ht.out,trim_take_stop hk hz],rfl⟩
theorem RowAt.setLow {k k':IntKind} {w w':World} {B:Nat} {a:Option Addr} {zs ys:List Int} (h:RowAt k w a zs) (hf:RowNew k' w' B a ys) (hl:zs.length≤ys.length) {p:Addr} (hp:p.block<B) (v:Value):RowAt k (w.setCell p v) a zs:=by
 rcases h with h| ⟨b,off,h1,h2,h3⟩
 ·exact .inl h
 ·rcases hf with hf| ⟨b',off',h1',h2',_⟩
  ·subst hf
   exact .inl (List.length_eq_zero_iff.1 (by simpa using hl))
  ·rw [h1] at h1'
   injection h1' with h1'
   have hbb:b=b':=congrArg Addr.block h1'
   refine .inr ⟨b,off,h1,by simpa using h2,fun j hj=> ?_⟩
   rw [World.cell?_setCell_other _ _ _ _ (by intro hh;have:=congrArg Addr.block hh;simp at this;omega)]
   exact h3 j hj
theorem RowAt.setNew {k k':IntKind} {w w':World} {a:Option Addr} {zs ys:List Int} (h:RowAt k w a zs) (hf:RowAt k' w' a ys) (hl:zs.length≤ys.length) {p:Addr} (hp:w'.heap.size≤p.block) (v:Value):RowAt k (w.setCell p v) a zs:=by
 rcases h with h| ⟨b,off,h1,h2,h3⟩
 ·exact .inl h
 ·rcases hf with hf| ⟨b',off',h1',h2',_⟩
  ·subst hf
   exact .inl (List.length_eq_zero_iff.1 (by simpa using hl))
  ·rw [h1] at h1'
   injection h1' with h1'
   have hbb:b=b':=congrArg Addr.block h1'
   refine .inr ⟨b,off,h1,by simpa using h2,fun j hj=> ?_⟩
   rw [World.cell?_setCell_other _ _ _ _ (by intro hh;have:=congrArg Addr.block hh;simp at this;omega)]
   exact h3 j hj
def sg (g:Bool) (n:Int):Int:=if g then-n else n
structure L1 (w:World) (g:Bool) (a:Option Addr) (c:Nat) (ds:List Int) (x:Int):Prop where
 sl:Sl .i64 w a c ds
 can:Canon 65536 ds
 num:x=sg g (val 65536 ds)
 zero:g=true→ds≠[]
 cap:c≤maxLen
theorem L1.later {w w':World} {g:Bool} {a:Option Addr} {c:Nat} {ds:List Int} {x:Int} (h:L1 w g a c ds x) (hb:Below w.heap.size w w'):L1 w' g a c ds x:=
 ⟨h.sl.later hb,h.can,h.num,h.zero,h.cap⟩
theorem L1.setLow {k':IntKind} {w w':World} {B:Nat} {g:Bool} {a:Option Addr} {c:Nat} {ds ys:List Int} {x:Int} (h:L1 w g a c ds x) (hf:RowNew k' w' B a ys) (hl:ds.length≤ys.length) {p:Addr} (hp:p.block<B) (v:Value):L1 (w.setCell p v) g a c ds x:=
 ⟨⟨h.sl.fits,h.sl.nil,h.sl.row.setLow hf hl hp v⟩,h.can,h.num,h.zero,h.cap⟩
theorem L1.setNew {k':IntKind} {w w':World} {g:Bool} {a:Option Addr} {c:Nat} {ds ys:List Int} {x:Int} (h:L1 w g a c ds x) (hf:RowAt k' w' a ys) (hl:ds.length≤ys.length) {p:Addr} (hp:w'.heap.size≤p.block) (v:Value):L1 (w.setCell p v) g a c ds x:=
 ⟨⟨h.sl.fits,h.sl.nil,h.sl.row.setNew hf hl hp v⟩,h.can,h.num,h.zero,h.cap⟩
theorem L1.of_trim {w:World} {a:Option Addr} {c:Nat} {ds:List Int} (g:Bool) (h:Sl .i64 w a c (trimL ds)) (hd:Dig 65536 ds) (hc:c≤maxLen):L1 w (g && decide (0<(trimL ds).length)) a c (trimL ds) (sg g (val 65536 ds)):=by
 refine ⟨h,canon_trim hd,?_,?_,hc⟩
 ·rw [val_trim]
  by_cases e:trimL ds=[]
  ·have:val 65536 ds=0:=by rw [←val_trim,e];rfl
   rw [this]
   simp [sg]
  ·have:0<(trimL ds).length:=by
    rcases Nat.eq_zero_or_pos (trimL ds).length with h|h
    ·exact absurd (List.length_eq_zero_iff.1 h) e
    ·exact h
   simp [this]
 ·intro hg e
  rw [e] at hg
  simp at hg
theorem make_any (g:Bool) (a:Option Addr) (c:Nat) (ds:List Int) (w:World) (hn:ds.length≤1048576) (hm:c≤maxLen) (hd:Sl .i64 w a c ds) (hdig:Dig 65536 ds):
 Calls Tryz.prog 68 #[g,.slice a ds.length c] w fun e w'=> ∃g' ds',e= .returned (.agg #[.bool g',.slice a ds'.length c])∧ds'.length≤ds.length∧L1 w' g' a c ds' (sg g (val 65536 ds))∧Below w.heap.size w w':=by
 have hle:(trimL ds).length≤ds.length:=trim_le ds
 cases g with
 |false=>
  go_enter Tryz.func68,Tryz.ntmps68
  go_wp2_with fail
  refine (trim_any a c ds _ hn hm (hd.later (bel0 _ _))).mono ?_
  rintro e w1 ⟨rfl,ht,hw⟩
  subst hw
  have HT:Hid (trimL ds=ds.take (trimL ds).length):=ht
  clear ht
  go_wp2
  refine bodyPost_ret (v:= .agg #[false,.slice a (trimL ds).length c]) (by simp [results,Tryz.results68,go_sem]) rfl ⟨false,trimL ds,rfl,hle,?_,bel0 _ _⟩
  exact L1.later (by simpa using L1.of_trim false (by rw [HT.out];exact hd.take _) hdig hm) (bel0 _ _)
 |true=>
  by_cases h0:0<(trimL ds).length
  ·go_enter Tryz.func68,Tryz.ntmps68
   go_wp2_with fail
   refine (trim_any a c ds _ hn hm (hd.later (bel0 _ _))).mono ?_
   rintro e w1 ⟨rfl,ht,hw⟩
   subst hw
   have HT:Hid (trimL ds=ds.take (trimL ds).length):=ht
   clear ht
   go_wp2
   refine bodyPost_ret (v:= .agg #[true,.slice a (trimL ds).length c]) (by simp [results,Tryz.results68,go_sem]) rfl ⟨true,trimL ds,rfl,hle,?_,bel0 _ _⟩
   exact L1.later (by simpa [h0] using L1.of_trim true (by rw [HT.out];exact hd.take _) hdig hm) (bel0 _ _)
  ·go_enter Tryz.func68,Tryz.ntmps68
   go_wp2_with fail
   refine (trim_any a c ds _ hn hm (hd.later (bel0 _ _))).mono ?_
   rintro e w1 ⟨rfl,ht,hw⟩
   subst hw
   have HT:Hid (trimL ds=ds.take (trimL ds).length):=ht
   clear ht
   go_wp2
   refine bodyPost_ret (v:= .agg #[false,.slice a (trimL ds).length c]) (by simp [results,Tryz.results68,go_sem]) rfl ⟨false,trimL ds,rfl,hle,?_,bel0 _ _⟩
   exact L1.later (by simpa [h0] using L1.of_trim true (by rw [HT.out];exact hd.take _) hdig hm) (bel0 _ _)
def Far (B:Nat) (a:Option Addr) (zs:List Int):Prop:=zs=[]∨ ∃b off,a=some ⟨b,off,none⟩∧B≤b
theorem RowNew.far {k:IntKind} {w:World} {B B':Nat} {a:Option Addr} {ys zs:List Int} (h:RowNew k w B a ys) (hl:zs.length≤ys.length) (hB:B'≤B):Far B' a zs:=by
 rcases h with h| ⟨b,off,h1,h2,_⟩
 ·subst h
  exact .inl (List.length_eq_zero_iff.1 (by simpa using hl))
 ·exact .inr ⟨b,off,h1,Nat.le_trans hB h2⟩
theorem L1.setFar {w:World} {B:Nat} {g:Bool} {a:Option Addr} {c:Nat} {ds:List Int} {x:Int} (h:L1 w g a c ds x) (hf:Far B a ds) {p:Addr} (hp:p.block<B) (v:Value):L1 (w.setCell p v) g a c ds x:=by
 refine ⟨⟨h.sl.fits,h.sl.nil,?_⟩,h.can,h.num,h.zero,h.cap⟩
 rcases h.sl.row with h| ⟨b,off,h1,h2,h3⟩
 ·exact .inl h
 ·rcases hf with hf| ⟨b',off',h1',h2'⟩
  ·exact .inl hf
  ·rw [h1] at h1'
   injection h1' with h1'
   have hbb:b=b':=congrArg Addr.block h1'
   refine .inr ⟨b,off,h1,by simpa using h2,fun j hj=> ?_⟩
   rw [World.cell?_setCell_other _ _ _ _ (by intro hh;have:=congrArg Addr.block hh;simp at this;omega)]
   exact h3 j hj
theorem Far.down {B B':Nat} {a:Option Addr} {zs:List Int} (h:Far B a zs) (hB:B'≤B):Far B' a zs:=by
 rcases h with h| ⟨b,off,h1,h2⟩
 ·exact .inl h
 ·exact .inr ⟨b,off,h1,Nat.le_trans hB h2⟩
theorem Tryz.info3:(Tryz.prog.info? 3).map (fun i=>(i.zero,i.size,i.bytes))=some (some (.int .i64 0),1,8):=by kernel_rfl
def vals (k:IntKind) (ys:List Int):List Value:=ys.map (Value.int k)
theorem vals_snoc (k:IntKind) (ys:List Int) (y:Int):vals k ys++[.int k y]=vals k (ys++[y]):=by simp [vals]
theorem app1 {k:IntKind} {X:Int} {bytes:Nat} {w0:World} {ops:Array Oper} {rest:List Oper} {o:Oper} {a:Act} {Q:Exit→Act→World→Prop} (hgd:o.guard=none) (s x:Operand) (t:TypeId)
 (ho:o.op= .call {callee:= .builtin .append,args:=#[s,x],argTypes:=#[t,t]})
 (base:Nat) (e:TypeId) (ht:Tryz.prog.underlying t=some (.slice e)) (hinfo:(Tryz.prog.info? e).map (fun i=>(i.zero,i.size,i.bytes))=some (some (.int k 0),1,bytes)) (hby:bytes≤8)
 (sv:Value) (ys:List Int) (hs:a.eval s=sv) (hx:a.eval x= .slice (some ⟨w0.heap.size,0,none⟩) 1 1) (hown:w0.ownsRow base e 1 sv ys.length (vals k ys)) (hn:ys.length≤8388608) (hbase:base≤w0.heap.size)
 (h: ∀a' n' c' w',w'.ownsRow base e 1 (.slice a' n' c') (ys++[X]).length (vals k (ys++[X]))→Below base w0 w'→w0.heap.size<w'.heap.size→wpList Tryz.prog ops Q rest (a.put o.dst (.slice a' n' c')) w'):
 wpList Tryz.prog ops Q (o::rest) a (w0.alloc (.cells #[.int k X] e)):=by
 obtain ⟨i0,hi,hz0,hz1,hz2⟩:=info_parts hinfo
 have hb1:(ys.length+1)*bytes≤(ys.length+1)*8:=Nat.mul_le_mul_left _ hby
 refine wpList_append_own _ hgd s x t ho base e i0 (.int k 0) 1 bytes ht hi hz0 hz1 hz2 rfl (by decide) sv ys.length (vals k ys) hs (hown.alloc _) ⟨w0.heap.size,0,none⟩ 1 1 [.int k X] hx rfl ?_ ?_ ?_ ?_ ?_ ?_
 ·intro j u hj
  match j,hj with
  |0,hj=>simp at hj;subst hj;simp [Addr.add]
 ·intro u hu;simp at hu;subst hu;rfl
 ·unfold maxLen;omega
 ·omega
 ·simp;omega
 ·intro v' w' hown' hgrow _
  obtain ⟨a',n',c',rfl⟩: ∃a' n' c',v'= .slice a' n' c':=by
   rcases hown'.2 with ⟨h1,_⟩| ⟨g,cap,cur,h1,_⟩
   ·exact ⟨_,_,_,h1⟩
   ·exact ⟨_,_,_,h1⟩
  refine h a' n' c' w' ?_ ?_ ?_
  ·rw [vals_snoc] at hown'
   simpa using hown'
  ·have hb0:Below base w0 (w0.alloc (.cells #[.int k X] e)):=(Below.refl _ _).alloc hbase _
   refine hb0.grown hgrow (by simp;omega) ?_
   intro kk hk
   rcases hown.2 with ⟨h1,_⟩| ⟨g,cap,cur,h1,h2,_⟩
   ·rw [h1] at hk;simp [Value.ownBlock] at hk
   ·rw [h1] at hk;simp [Value.ownBlock] at hk;omega
  ·have:=hgrow.size
   simp at this
   omega
theorem own_row {k:IntKind} {w:World} {base:Nat} {e:TypeId} {v:Value} {ys:List Int} (h:w.ownsRow base e 1 v ys.length (vals k ys)):
 ∃a c,v= .slice a ys.length c∧c≤maxLen∧Sl k w a c ys∧RowNew k w base a ys:=by
 rcases h.2 with ⟨h1,h2⟩| ⟨g,cap,cur,h1,h2,h3,h4,h5,h6,h7⟩
 ·have:ys=[]:=List.length_eq_zero_iff.1 h2
  subst this
  exact ⟨none,0,h1,Nat.zero_le _,⟨by simp,fun _=>rfl,.inl rfl⟩,.inl rfl⟩
 ·have hg:g<w.heap.size:=by
   by_cases hp:g<w.heap.size
   ·exact hp
   ·rw [Array.getElem?_eq_none (by omega)] at h3;cases h3
  have hc: ∀j,j<ys.length→w.cell? ⟨g,0+j,none⟩=some (.int k (ys.getD j 0)):=by
   intro j hj
   have:(cur.toList.take (ys.length*1))[j]? =(vals k ys)[j]? :=by rw [h7]
   rw [List.getElem?_take,if_pos (by omega)] at this
   simp only [World.cell?,h3]
   simp [vals,hj] at this
   simp [this,List.getD_eq_getElem?_getD,hj]
  have hfz: ∀j,j<ys.length→w.frozen? ⟨g,0+j,none⟩=false:=by
   intro j _
   simp [World.frozen?,h3]
  exact ⟨some ⟨g,0,none⟩,cap,h1,h5,⟨h4,(fun h=>by cases h),.inr ⟨g,0,rfl,hg,hc⟩⟩,.inr ⟨g,0,rfl,h2,hg,hc,hfz⟩⟩
theorem own_nil (w:World) (base:Nat) (e:TypeId) (k:IntKind):w.ownsRow base e 1 () ([]:List Int).length (vals k []):=World.ownsRow_nil _ _ _ _
theorem eqB_any (g g':Bool) (a a':Option Addr) (c c':Nat) (zs ys:List Int) (w:World) (hn:zs.length≤maxLen) (hn':ys.length≤maxLen) (hz:RowAt .u32 w a zs) (hy:RowAt .u32 w a' ys):
 Calls Tryz.prog 11 #[.agg #[g,.slice a zs.length c],.agg #[g',.slice a' ys.length c']] w fun e w'=>e= .returned (.bool (decide (g=g'∧zs=ys)))∧Below w.heap.size w w':=by
 by_cases hg:g=g'
 ·subst hg
  by_cases he:zs=ys
  ·subst he
   go_enter Tryz.func11,Tryz.ntmps11
   go_wp2_with fail
   refine (eqU_any _ _ _ _ zs zs _ hn hn' (hz.later (bel2 _ _ _)) (hy.later (bel2 _ _ _))).mono ?_
   rintro e w1 ⟨rfl,hb⟩
   rw [show decide (zs=zs)=true from by simp]
   have HB:Hid (Below w.heap.size w w1):=(bel2 _ _ _).trans (hb.mono (by simp;omega))
   clear hb
   go_wp2
   go_ret
   exact ⟨ret_bool (by simp),HB.out⟩
  ·have hd:decide (zs=ys)=false:=by simpa using he
   go_enter Tryz.func11,Tryz.ntmps11
   go_wp2_with fail
   refine (eqU_any _ _ _ _ zs ys _ hn hn' (hz.later (bel2 _ _ _)) (hy.later (bel2 _ _ _))).mono ?_
   rintro e w1 ⟨rfl,hb⟩
   rw [hd]
   have HB:Hid (Below w.heap.size w w1):=(bel2 _ _ _).trans (hb.mono (by simp;omega))
   clear hb
   go_wp2
   go_ret
   exact ⟨ret_bool (by simp [he]),HB.out⟩
 ·have hg':g'= !g:=by cases g<;>cases g'<;>simp_all
  subst hg'
  clear hg
  cases g
  all_goals
   go_enter Tryz.func11,Tryz.ntmps11
   go_wp2
   go_ret
   exact ⟨ret_bool (by simp),bel2 _ _ _⟩
theorem len_ne {zs:List Int} (h: ¬zs.length=0):((zs.length:Int)==0)=false:=by
 rw [beq_eq_false_iff_ne];omega
def bigOut (g:Bool) (ds:List Int):Bool×List Int×Int:=if (joinL ds).length≤512 then (g,joinL ds,0) else (false,[],2)
theorem big_step {S:Nat} {w0 wr w1:World} {e:TypeId} {v v':Value} {n:Nat} {xs:List Value} (hown1:w1.ownsRow (S+1+1+1) e 1 v' n xs) (hb1:Below (S+1+1+1) wr w1) (p0:wr.cell? ⟨S+1+1,0,none⟩=some ↑false) (p1:wr.cell? ⟨S+1+1,1,none⟩=some v)
 (p2: ∀j,wr.frozen? ⟨S+1+1,j,none⟩=false) (hnx:Below (S+1+1) w0 wr) (hs:S+1+1+1≤wr.heap.size):
 (w1.setCell ⟨S+1+1,1,none⟩ v').ownsRow (S+1+1+1) e 1 v' n xs∧(w1.setCell ⟨S+1+1,1,none⟩ v').cell? ⟨S+1+1,0,none⟩=some ↑false∧(w1.setCell ⟨S+1+1,1,none⟩ v').cell? ⟨S+1+1,1,none⟩=some v'∧
  (∀j,(w1.setCell ⟨S+1+1,1,none⟩ v').frozen? ⟨S+1+1,j,none⟩=false)∧Below (S+1+1) w0 (w1.setCell ⟨S+1+1,1,none⟩ v')∧S+1+1+1≤(w1.setCell ⟨S+1+1,1,none⟩ v').heap.size:=by
 refine ⟨ownsRow_setCell_below hown1 (by simp) _,?_,?_,?_,?_,?_⟩
 ·rw [World.cell?_setCell_other _ _ _ _ (by intro hh;have:=congrArg Addr.off hh;simp at this)]
  exact (hb1.cell (by simp)).trans p0
 ·exact World.cell?_setCell_same _ _ _ ((hb1.cell (by simp)).trans p1)
 ·intro j
  rw [World.frozen?_setCell]
  exact (hb1.frozen (by simp)).trans (p2 j)
 ·exact (hnx.trans (hb1.mono (by omega))).setCell (by simp) _
 ·have:=hb1.size
  simp
  omega
theorem big_any (g:Bool) (a:Option Addr) (c:Nat) (ds:List Int) (w:World) (hn:ds.length≤200000) (hz:RowAt .i64 w a ds) (hu:Dig 65536 ds):
 Calls Tryz.prog 34 #[.agg #[g,.slice a ds.length c]] w fun e w'=> ∃a' c',e= .returned (.tuple #[.agg #[.bool (bigOut g ds).1,.slice a' (bigOut g ds).2.1.length c'],.int .i64 (bigOut g ds).2.2])∧RowAt .u32 w' a' (bigOut g ds).2.1∧Far w.heap.size a' (bigOut g ds).2.1∧Below w.heap.size w w':=by
 go_enter Tryz.func34,Tryz.ntmps34
 go_wp2
 go_loopw [5,6] (fun i _ wr=> ∃(k:Nat) (ys:List Int) (v:Value),2*k≤ds.length+1∧ys.length≤k∧i= .int .i64 (2*k:Nat)∧Hid (joinL ds=ys++joinL (ds.drop (2*k)))∧wr.ownsRow (w.heap.size+1+1+1) 22 1 v ys.length (vals .u32 ys)∧
  wr.cell? ⟨w.heap.size+1+1,0,none⟩=some ↑false∧wr.cell? ⟨w.heap.size+1+1,1,none⟩=some v∧(∀j,wr.frozen? ⟨w.heap.size+1+1,j,none⟩=false)∧
  Below (w.heap.size+1+1) (((w.alloc (.cells #[g,.slice a ds.length c] 72)).alloc (.cells #[false,()] 31)).alloc (.cells #[false,()] 31)) wr∧w.heap.size+1+1+1≤wr.heap.size) (fun i _ _=>ds.length+1-(intOf i).toNat)
 case atStart=>exact ⟨0,[],↑(),by omega,by simp,rfl,rfl,own_nil _ _ _ _,by simp [go_sem],by simp [go_sem],by intro j;simp [go_sem],Below.refl _ _,by simp⟩
 case round=>
  obtain ⟨k,ys,v,hk,hyl,rfl,hjoin,hown,p0,p1,p2,hnx,hsz⟩:=hrel
  have q1:wr.cell? ⟨w.heap.size,0,none⟩=some ↑g:=by rw [hnx.cell (by simp;omega)];simp [go_sem]
  have q2:wr.cell? ⟨w.heap.size,1,none⟩=some (.slice a ds.length c):=by rw [hnx.cell (by simp;omega)];simp [go_sem]
  by_cases hlt:2*k<ds.length
  ·obtain ⟨b,off,rfl,hb,hc⟩:=hz.resolve_left (by intro h;subst h;simp at hlt)
   have hw0:Below w.heap.size w wr:=(bel3 _ _ _ _).trans (hnx.mono (by omega))
   have g1:wr.cell? ⟨b,off+2*k,none⟩=some (.int .i64 (ds.getD (2*k) 0)):=(hw0.cell (p:=⟨b,off+2*k,none⟩) hb).trans (hc (2*k) hlt)
   have gb:=hu.at (by decide) (2*k)
   by_cases hlt2:2*k+1<ds.length
   ·have g2:wr.cell? ⟨b,off+(2*k+1),none⟩=some (.int .i64 (ds.getD (2*k+1) 0)):=(hw0.cell (p:=⟨b,off+(2*k+1),none⟩) hb).trans (hc (2*k+1) hlt2)
    have gb2:=hu.at (by decide) (2*k+1)
    have hst:=join_two hlt2
    obtain ⟨d,hdk⟩: ∃z,z=ds.getD (2*k) 0:=⟨_,rfl⟩
    obtain ⟨d',hdk'⟩: ∃z,z=ds.getD (2*k+1) 0:=⟨_,rfl⟩
    rw [←hdk] at g1 gb hst
    rw [←hdk'] at g2 gb2 hst
    have gb0:=gb.1
    have gb1:=gb.2
    have gb20:=gb2.1
    have gb21:=gb2.2
    have HJ:Hid (joinL ds=(ys++[d+d'*65536])++joinL (ds.drop (2*(k+1)))):=by unfold Hid;rw [hjoin.out,hst];simp
    clear hc hw0 hst gb gb2 hdk hdk' hjoin
    go_wp2_with (first| (at_builtin;refine app1 rfl (.tmp 37) (.tmp 39) 29 rfl (w.heap.size+1+1+1) 22 Tryz.underlying29 Tryz.info22 (by decide) _ _ rfl rfl hown (by omega) hsz ?_;intro a1 n1 c1 w1 hown1 hb1 hs1;have q3:w1.cell? ⟨w.heap.size+1+1,1,none⟩=some v:=(hb1.cell (by simp)).trans p1;have g3:w1.frozen? ⟨w.heap.size+1+1,1,none⟩=false:=(hb1.frozen (by simp)).trans (p2 1)))
    have R:=big_step hown1 hb1 p0 p1 p2 hnx hsz
    clear hown1 hb1 p0 p1 p2 hnx hown q1 q2 q3 g1 g2 g3
    go_roundw
    case rel=>exact ⟨k+1,ys++[d+d'*65536],_,by omega,by simp;omega,by go_num,HJ,R⟩
    case measure=>simp [intOf];omega
   ·have hst:=join_one (k:=k) (ds:=ds) (by omega)
    obtain ⟨d,hdk⟩: ∃z,z=ds.getD (2*k) 0:=⟨_,rfl⟩
    rw [←hdk] at g1 gb hst
    have gb0:=gb.1
    have gb1:=gb.2
    have HJ:Hid (joinL ds=(ys++[d])++joinL (ds.drop (2*(k+1)))):=by unfold Hid;rw [hjoin.out,hst];simp
    clear hc hw0 hst gb hdk hjoin
    go_wp2_with (first| (at_builtin;refine app1 rfl (.tmp 37) (.tmp 39) 29 rfl (w.heap.size+1+1+1) 22 Tryz.underlying29 Tryz.info22 (by decide) _ _ rfl rfl hown (by omega) hsz ?_;intro a1 n1 c1 w1 hown1 hb1 hs1;have q3:w1.cell? ⟨w.heap.size+1+1,1,none⟩=some v:=(hb1.cell (by simp)).trans p1;have g3:w1.frozen? ⟨w.heap.size+1+1,1,none⟩=false:=(hb1.frozen (by simp)).trans (p2 1)))
    have R:=big_step hown1 hb1 p0 p1 p2 hnx hsz
    clear hown1 hb1 p0 p1 p2 hnx hown q1 q2 q3 g1 g3
    go_roundw
    case rel=>exact ⟨k+1,ys++[d],_,by omega,by simp;omega,by go_num,HJ,R⟩
    case measure=>simp [intOf];omega
  ·have hj:joinL ds=ys:=by rw [hjoin.out,List.drop_eq_nil_of_le (by omega)];simp [joinL]
   obtain ⟨a',c',rfl,hcm,hsl,hrn⟩:=own_row hown
   have r1:wr.cell? ⟨w.heap.size+1,0,none⟩=some ↑false:=by rw [hnx.cell (by simp)];simp [go_sem]
   have r2:wr.cell? ⟨w.heap.size+1,1,none⟩=some ↑():=by rw [hnx.cell (by simp)];simp [go_sem]
   have r3: ∀j,wr.frozen? ⟨w.heap.size+1,j,none⟩=false:=by intro j;rw [hnx.frozen (by simp)];simp [go_sem]
   have HB:Hid (Below w.heap.size w wr):=(bel3 _ _ _ _).trans (hnx.mono (by omega))
   have HN:Hid (RowNew .u32 wr (w.heap.size+1+1+1) a' ys):=hrn
   have HJ:Hid (joinL ds=ys):=hj
   clear hown hnx hsl hrn hjoin hj hz
   by_cases h5:ys.length≤512
   ·have HBO:Hid (bigOut g ds=(g,ys,0)):=by unfold Hid bigOut;rw [HJ.out,if_pos h5]
    go_wp2
    refine bodyPost_ret (v:= .tuple #[.agg #[g,.slice a' ys.length c'],.int .i64 0]) (by simp [results,Tryz.results34,go_sem,r1,r2]) rfl ?_
    rw [HBO.out]
    refine ⟨a',c',rfl,?_,HN.out.far (Nat.le_refl _) (by omega),?_⟩
    ·exact (((HN.out.setLow (by simp) _).setLow (by simp) _).setLow (by simp) _).row
    ·exact ((HB.out.setCell (by simp;omega) _).setCell (by simp) _).setCell (by simp) _
   ·have HBO:Hid (bigOut g ds=(false,[],2)):=by unfold Hid bigOut;rw [HJ.out,if_neg h5]
    go_wp2
    refine bodyPost_ret (v:= .tuple #[.agg #[false,()],.int .i64 2]) (by simp [results,Tryz.results34,go_sem,r1,r2]) rfl ?_
    rw [HBO.out]
    refine ⟨none,0,rfl,.inl rfl,.inl rfl,?_⟩
    exact (HB.out.setCell (by simp) _).setCell (by simp) _
end Go.Proofs.YtfieffpobgcpmaaGreatDoor
