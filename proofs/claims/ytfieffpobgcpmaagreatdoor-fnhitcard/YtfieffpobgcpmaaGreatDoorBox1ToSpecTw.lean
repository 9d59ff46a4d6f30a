import Derived.Test.YtfieffpobgcpmaaGreatDoorBoxToSpecD
import Derived.Test.YtfieffpobgcpmaaGreatDoorBaseToNum
import Derived.Laws.AppendOwnNone
import Derived.Laws.Entries
import Derived.LaidMore
import Derived.Stop.Joined
set_option maxRecDepth 100000
set_option maxHeartbeats 32000000
namespace Go.Proofs.YtfieffpobgcpmaaGreatDoor
open Go.RowKit
structure Bx1 (w:World) (u v:Value) (W:World):Prop where
 q0:W.cell? ⟨w.heap.size,0,none⟩=some u
 q1:W.cell? ⟨w.heap.size,1,none⟩=some v
 r1:W.cell? ⟨w.heap.size+1,0,none⟩=some ↑false
 r2:W.cell? ⟨w.heap.size+1,1,none⟩=some ↑()
 r3: ∀j,W.frozen? ⟨w.heap.size+1,j,none⟩=false
 le:w.heap.size+1+1≤W.heap.size
 bel:Below w.heap.size w W
theorem Bx1.start (w:World) (u v:Value) (t t':TypeId):Bx1 w u v ((w.alloc (.cells #[u,v] t)).alloc (.cells #[false,()] t')):=by
 refine ⟨?_,?_,?_,?_,?_,?_,bel2 _ _ _⟩
 all_goals simp [go_sem]
theorem Bx1.on {w:World} {u v:Value} {W W':World} (h:Bx1 w u v W) (hb:Below (w.heap.size+1+1) W W'):Bx1 w u v W':=
 ⟨(hb.cell (by simp;omega)).trans h.q0,(hb.cell (by simp;omega)).trans h.q1,(hb.cell (by simp)).trans h.r1,(hb.cell (by simp)).trans h.r2,fun j=>(hb.frozen (by simp)).trans (h.r3 j),Nat.le_trans h.le hb.size,h.bel.trans (hb.mono (by omega))⟩
theorem Bx1.later {w:World} {u v:Value} {W W':World} (h:Bx1 w u v W) (hb:Below W.heap.size W W'):Bx1 w u v W':=h.on (hb.mono h.le)
theorem own_made (w:World) (n:Nat) (e:TypeId) (k:IntKind) (base:Nat) (hb:base≤w.heap.size) (hn:n≤maxLen):(w.alloc (.cells (madeCells #[.int k 0] n) e)).ownsRow base e 1 (.slice (some ⟨w.heap.size,0,none⟩) n n) (List.replicate n (0:Int)).length (vals k (List.replicate n 0)):=by
 refine ⟨by simp [vals],.inr ⟨w.heap.size,n,madeCells #[.int k 0] n,by simp,hb,by (first|exact heap_alloc_new _ _|exact Go.RowKit.heap_alloc_new _ _|exact Go.heap_alloc_new _ _),by simp,hn,by simp [size_madeCells],?_⟩⟩
 apply List.ext_getElem?
 intro j
 rw [List.getElem?_take]
 by_cases hj:j<n
 ·simp [hj,vals,madeCells,Nat.mod_one]
 ·simp [hj,vals]
def Nil0 (a:Option Addr) (c:Nat):Prop:=a=none→c=0
open Go.ChangeShapes Go.WideShapes Go.ChangeAt Go.RowKit Go.Joins
theorem dig_of {zs:List Int} (h: ∀n∈zs,(Lit.int .u8 n).wf=true):Dig 256 zs:=by
 intro z hz
 have:=bounds_u8 (h z hz)
 omega
theorem open_bytesY {H:Type} {enc:TypeId×Value→H} {W:World} {b0:Nat} {v:Value} {d:DataW H} {p:List MemPlace} (hv:Value.okWide Tryz.prog W .any b0 44 v) (h:DataW.Trod enc Tryz.prog W 0 (fun _=>true) true 44 v d p):
 ∃(a:Option Addr) (c:Nat) (zs:List Int),v= .slice a zs.length c∧zs.length≤c∧c≤maxLen∧Nil0 a c∧Dig 256 zs∧RowAt .u8 W a zs:=by
 obtain ⟨a0,len0,cap0,rfl⟩:=okWide_slice Tryz.underlying44 hv
 obtain ⟨fuel,hf⟩:=h
 rcases open_ints Tryz.underlying44 Tryz.underlying5 cellsY hf with ⟨hcs,_⟩| ⟨x,l,c,zs,hcs,_,hl,hm,hz,_,hcell,hwz⟩
 ·simp [Value.cells] at hcs
  obtain ⟨rfl,rfl,rfl⟩:=hcs
  exact ⟨none,0,[],rfl,by simp,by unfold maxLen;omega,fun _=>rfl,Dig.nil _,.inl rfl⟩
 ·simp [Value.cells] at hcs
  obtain ⟨rfl,rfl,rfl⟩:=hcs
  have hzl:zs.length=cap0:=by simpa using hz
  have ht:(zs.take len0).length=len0:=by rw [List.length_take];omega
  refine ⟨some x,cap0,zs.take len0,by rw [ht],by rw [ht];omega,by omega,(fun h=>by cases h),dig_of (fun n hn=>hwz n (List.mem_of_mem_take hn)),row_of ?_⟩
  intro i hi
  rw [ht] at hi
  rw [hcell i (by omega)]
  simp [List.getD_eq_getElem?_getD,hi]
theorem two_pow_le {a b:Nat} (h:a≤b):(2:Int)^a≤2^b:=by
 obtain ⟨d,rfl⟩:=Nat.le.dest h
 have h1:(0:Int)<2^a:=Int.pow_pos (by decide)
 have h2:(0:Int)<2^d:=Int.pow_pos (by decide)
 have h3:(2:Int)^a*1≤2^a*2^d:=Int.mul_le_mul_of_nonneg_left (by omega) (by omega)
 rw [Int.pow_add]
 omega
def lostB (m q:Int):Bool:=decide (m%q≠0)
def timesL (q:Int) (zs:List Int):List Int:=zs.map (·*q)
theorem val_timesL (B q:Int): ∀zs:List Int,val B (timesL q zs)=val B zs*q
 | []=>by simp [timesL,val]
 |z::zs=>by
  have ih:=val_timesL B q zs
  simp only [timesL,List.map_cons,val] at ih⊢
  rw [ih,Int.add_mul,Int.mul_assoc]
theorem timesL_drop {q:Int} {zs:List Int} {k:Nat} (h:k<zs.length):timesL q (zs.drop k)=zs.getD k 0*q::timesL q (zs.drop (k+1)):=by
 rw [List.drop_eq_getElem_cons h,List.getD_eq_getElem?_getD,List.getElem?_eq_getElem h]
 rfl
theorem val_zeros (B:Int): ∀n:Nat,val B (List.replicate n 0)=0
 |0=>rfl
 |n+1=>by rw [List.replicate_succ];simp [val,val_zeros B n]
theorem val_up (B:Int) (n:Nat) (zs:List Int):val B (List.replicate n 0++zs)=B^n*val B zs:=by
 rw [val_append,val_zeros,List.length_replicate]
 omega
theorem Dig.zeros {B:Int} (hB:0<B) (n:Nat):Dig B (List.replicate n 0):=by
 intro z hz
 have:=List.eq_of_mem_replicate hz
 subst this
 exact ⟨Int.le_refl 0,hB⟩
theorem times_carry {B q x c:Int} (hB:0<B) (hq:0<q) (hx0:0≤x) (hx1:x<B) (hc0:0≤c) (hc1:c<q):0≤(x*q+c)/B∧(x*q+c)/B<q:=by
 have h0:=Int.mul_nonneg hx0 (Int.le_of_lt hq)
 refine ⟨Int.ediv_nonneg (by omega) (by omega),Int.ediv_lt_of_lt_mul hB ?_⟩
 have h1:(x+1)*q≤B*q:=Int.mul_le_mul_of_nonneg_right (by omega) (by omega)
 rw [Int.add_mul,Int.one_mul,Int.mul_comm B q] at h1
 omega
theorem dig_times {B q:Int} (hB:0<B) (hq:0<q) (hqB:q≤B): ∀(zs:List Int) (c:Int),Dig B zs→0≤c→c<q→Dig B (carryL B (timesL q zs) c)
 | [],c,_,h0,h1=>by
  simp only [timesL,List.map_nil,carryL]
  split
  ·exact Dig.nil B
  ·exact Dig.cons h0 (by omega) (Dig.nil B)
 |z::zs,c,h,h0,h1=>by
  simp only [timesL,List.map_cons,carryL]
  have h2:=times_carry hB hq h.head.1 h.head.2 h0 h1
  exact Dig.cons (Int.emod_nonneg _ (by omega)) (Int.emod_lt_of_pos _ hB) (dig_times hB hq hqB zs _ h.tail h2.1 h2.2)
def downL (B q:Int):List Int→List Int
 | []=>[]
 |z::zs=>(z+B*zs.headD 0)/q%B::downL B q zs
theorem dig_down {B:Int} (hB:0<B) (q:Int): ∀zs:List Int,Dig B (downL B q zs)
 | []=>Dig.nil B
 |z::zs=>Dig.cons (Int.emod_nonneg _ (by omega)) (Int.emod_lt_of_pos _ hB) (dig_down hB q zs)
theorem headD_drop (zs:List Int) (k:Nat):(zs.drop k).headD 0=zs.getD k 0:=by
 rw [List.headD_eq_head?_getD,List.head?_drop,List.getD_eq_getElem?_getD]
theorem down_drop {B q:Int} {zs:List Int} {k:Nat} (h:k<zs.length):downL B q (zs.drop k)=(zs.getD k 0+B*zs.getD (k+1) 0)/q%B::downL B q (zs.drop (k+1)):=by
 rw [List.drop_eq_getElem_cons h]
 simp only [downL]
 rw [headD_drop]
 simp [List.getD_eq_getElem?_getD,h]
theorem val_head (B:Int) (zs:List Int):val B zs=zs.headD 0+B*val B zs.tail:=by
 cases zs<;>simp [val]
theorem down_digit {B q r z y:Int} (hBq:B=q*r) (hq:0<q) (hr:0<r) (hz0:0≤z) (hz1:z<B):(z+B*y)/q%B=z/q+r*(y%q):=by
 have e1:(z+B*y)/q=z/q+r*y:=by
  rw [hBq,Int.mul_assoc]
  rw [Int.add_mul_ediv_left _ _ (by omega)]
 have e2:r*y=B*(y/q)+r*(y%q):=by
  have h:=Int.mul_add r (q*(y/q)) (y%q)
  rw [Int.mul_ediv_add_emod y q,←Int.mul_assoc,Int.mul_comm r q,←hBq] at h
  exact h
 have hd0:0≤z/q:=Int.ediv_nonneg hz0 (by omega)
 have hd1:z/q<r:=Int.ediv_lt_of_lt_mul hq (by rw [Int.mul_comm r q,←hBq];exact hz1)
 have hm0:=Int.emod_nonneg y (show q≠0 by omega)
 have hm1:=Int.emod_lt_of_pos y hq
 have h3:r*(y%q)≤r*(q-1):=Int.mul_le_mul_of_nonneg_left (by omega) (by omega)
 have h4:0≤r*(y%q):=Int.mul_nonneg (by omega) hm0
 rw [Int.mul_sub,Int.mul_one,Int.mul_comm r q,←hBq] at h3
 rw [e1,e2,show z/q+(B*(y/q)+r*(y%q))=(z/q+r*(y%q))+B*(y/q) by omega,Int.add_mul_emod_self_left]
 exact Int.emod_eq_of_lt (by omega) (by omega)
theorem val_down {B q r:Int} (hBq:B=q*r) (hq:0<q) (hr:0<r): ∀{zs:List Int},Dig B zs→val B (downL B q zs)=val B zs/q
 | [],_=>by simp [downL,val]
 |z::zs,h=>by
  have ih:=val_down hBq hq hr h.tail
  simp only [downL,val]
  rw [ih,down_digit hBq hq hr h.head.1 h.head.2]
  have hv:=val_head B zs
  have hBr:B*val B zs.tail=q*(r*val B zs.tail):=by rw [hBq,Int.mul_assoc]
  have e1:val B zs/q=zs.headD 0/q+r*val B zs.tail:=by
   rw [hv,hBr,Int.add_mul_ediv_left _ _ (by omega)]
  have e2:(z+B*val B zs)/q=z/q+r*val B zs:=by
   rw [hBq,Int.mul_assoc,Int.add_mul_ediv_left _ _ (by omega)]
  have e3:val B zs%q=zs.headD 0%q:=by
   rw [hv,hBr,Int.add_mul_emod_self_left]
  have e4:=Int.mul_ediv_add_emod (val B zs) q
  rw [e2,←e3]
  have e5:r*val B zs=B*(val B zs/q)+r*(val B zs%q):=by
   have h:=Int.mul_add r (q*(val B zs/q)) (val B zs%q)
   rw [e4,←Int.mul_assoc,Int.mul_comm r q,←hBq] at h
   exact h
  omega
theorem val_parts (B:Int) (zs:List Int) (s:Nat) (hs:s≤zs.length):val B zs=val B (zs.take s)+B^s*val B (zs.drop s):=by
 have h:=val_append B (zs.drop s) (zs.take s)
 rw [List.take_append_drop,List.length_take,show min s zs.length=s by omega] at h
 exact h
theorem pow_pos' {B:Int} (hB:0<B) (s:Nat):0<B^s:=Int.pow_pos hB
theorem val_cut {B q r:Int} (hBq:B=q*r) (hq:0<q) (hr:0<r) (hB:0<B) {zs:List Int} (h:Dig B zs) {s:Nat} (hs:s≤zs.length):val B (downL B q (zs.drop s))=val B zs/(B^s*q):=by
 rw [val_down hBq hq hr (h.drop s)]
 have hp:=pow_pos' hB s
 rw [←Int.ediv_ediv_of_nonneg (by omega)]
 congr 1
 rw [val_parts B zs s hs,Int.add_mul_ediv_left _ _ (by omega)]
 have h0:=val_nonneg hB (h.take s)
 have h1:=val_lt_pow hB (h.take s)
 rw [List.length_take,show min s zs.length=s by omega] at h1
 rw [Int.ediv_eq_zero_of_lt h0 h1]
 omega
theorem cut_exact {B q:Int} (hq:0<q) (hqB: ∃r,B=q*r) (hB:0<B) {zs:List Int} (h:Dig B zs) {s:Nat} (hs:s≤zs.length):val B zs%(B^s*q)=0↔val B (zs.take s)=0∧zs.getD s 0%q=0:=by
 have hp:=pow_pos' hB s
 have h0:=val_nonneg hB (h.take s)
 have h1:=val_lt_pow hB (h.take s)
 rw [List.length_take,show min s zs.length=s by omega] at h1
 have hsp:=val_parts B zs s hs
 have hd:val B (zs.drop s)%q=zs.getD s 0%q:=by
  obtain ⟨r,hr⟩:=hqB
  rw [val_head B (zs.drop s),headD_drop,show B*val B (zs.drop s).tail=q*(r*val B (zs.drop s).tail) by rw [hr,Int.mul_assoc],Int.add_mul_emod_self_left]
 rw [←hd]
 have hm0:=Int.emod_nonneg (val B (zs.drop s)) (show q≠0 by omega)
 have hm1:=Int.emod_lt_of_pos (val B (zs.drop s)) hq
 have hde:=Int.mul_ediv_add_emod (val B (zs.drop s)) q
 have e:val B zs=(val B (zs.take s)+B^s*(val B (zs.drop s)%q))+B^s*q*(val B (zs.drop s)/q):=by
  rw [hsp,Int.mul_assoc,Int.add_assoc,←Int.mul_add]
  congr 2
  omega
 have hlt:val B (zs.take s)+B^s*(val B (zs.drop s)%q)<B^s*q:=by
  have:B^s*(val B (zs.drop s)%q)≤B^s*(q-1):=Int.mul_le_mul_of_nonneg_left (by omega) (by omega)
  rw [Int.mul_sub,Int.mul_one] at this
  omega
 have hge:0≤B^s*(val B (zs.drop s)%q):=Int.mul_nonneg (by omega) hm0
 rw [e,Int.add_mul_emod_self_left,Int.emod_eq_of_lt (by omega) hlt]
 constructor
 ·intro h2
  refine ⟨by omega,?_⟩
  have h3:B^s*(val B (zs.drop s)%q)=0:=by omega
  rcases Int.mul_eq_zero.1 h3 with h4|h4
  ·omega
  ·exact h4
 ·rintro ⟨h2,h3⟩
  rw [h2,h3]
  simp
def anyN (zs:List Int):Bool:=zs.any (· !=0)
theorem anyN_snoc (zs:List Int) (z:Int):anyN (zs++[z])=(anyN zs|| (z !=0)):=by simp [anyN]
theorem anyN_take {zs:List Int} {k:Nat} (h:k<zs.length):anyN (zs.take (k+1))=(anyN (zs.take k)|| (zs.getD k 0 !=0)):=by
 rw [List.take_succ_eq_append_getElem h,anyN_snoc]
 simp [List.getD_eq_getElem?_getD,h]
theorem anyN_val {B:Int} (hB:0<B): ∀{zs:List Int},Dig B zs→(anyN zs=true↔val B zs≠0)
 | [],_=>by simp [anyN,val]
 |z::zs,h=>by
  have ih:=anyN_val hB h.tail
  have h1:=val_nonneg hB h.tail
  have h2:=h.head
  have h3:=Int.mul_nonneg (Int.le_of_lt hB) h1
  have e:anyN (z::zs)=((z !=0)||anyN zs):=by simp [anyN]
  rw [e]
  simp only [Bool.or_eq_true,bne_iff_ne,ne_eq,val,ih]
  constructor
  ·rintro (h4|h4) h5
   ·omega
   ·have h6:0<val B zs:=by omega
    have h7:=Int.mul_pos hB h6
    omega
  ·intro h4
   by_cases h5:z=0
   ·right
    intro h6
    apply h4
    rw [h5,h6]
    simp
   ·exact .inl h5
theorem trim_anyN: ∀zs:List Int,trimL zs=[]↔anyN zs=false
 | []=>by simp [trimL,anyN]
 |z::zs=>by
  have ih:=trim_anyN zs
  have e:anyN (z::zs)=((z !=0)||anyN zs):=by simp [anyN]
  rw [e]
  simp only [trimL]
  by_cases h:trimL zs=[]∧z=0
  ·rw [if_pos h]
   simp [h.2,ih.1 h.1]
  ·rw [if_neg h]
   constructor
   ·intro h';cases h'
   ·intro h'
    simp only [Bool.or_eq_false_iff,bne_eq_false_iff_eq] at h'
    exact absurd ⟨ih.2 h'.2,h'.1⟩ h
def Twos (m:Int) (t:Nat):Prop:= ∃q:Int,m=2^t*q∧q%2=1
theorem twos_of {b:Nat} {ds:List Int} {j k:Nat} {o:Int} (hj:j<ds.length) (h0:val (2^b) (ds.take j)=0) (hd:ds.getD j 0=2^k*o) (ho:o%2=1) (hk:k<b):Twos (val (2^b) ds) (b*j+k):=by
 have hs:=val_parts (2^b) ds j (by omega)
 rw [h0,Int.zero_add] at hs
 have hh:val (2^b) (ds.drop j)=ds.getD j 0+2^b*val (2^b) (ds.drop (j+1)):=by
  rw [List.drop_eq_getElem_cons hj]
  simp [val,List.getD_eq_getElem?_getD,hj]
 refine ⟨o+2^(b-k)*val (2^b) (ds.drop (j+1)),?_,?_⟩
 ·have e:(2:Int)^b*val (2^b) (ds.drop (j+1))=2^k*(2^(b-k)*val (2^b) (ds.drop (j+1))):=by
   rw [←Int.mul_assoc,←Int.pow_add,show k+(b-k)=b by omega]
  rw [hs,hh,hd,Int.pow_add,Int.pow_mul,Int.mul_assoc,Int.mul_add (2^k) o,←e]
 ·obtain ⟨c,hc⟩: ∃c,b-k=c+1:=⟨b-k-1,by omega⟩
  rw [hc,Int.pow_succ,Int.mul_comm (2^c) 2,Int.mul_assoc,Int.add_mul_emod_self_left]
  exact ho
theorem Twos.ediv {m:Int} {t:Nat} (h:Twos m t):m=m/2^t*2^t∧(m/2^t)%2=1:=by
 obtain ⟨q,hq,h1⟩:=h
 have hp:(0:Int)<2^t:=Int.pow_pos (by decide)
 have e:m/2^t=q:=by rw [hq];exact Int.mul_ediv_cancel_left _ (by omega)
 rw [e]
 exact ⟨by rw [hq];exact Int.mul_comm _ _,h1⟩
theorem pow_lt_of {k b:Nat} {v d:Int} (hd:d=2^k*v) (hv:0<v) (hlt:d<2^b):k<b:=by
 by_cases h:k<b
 ·exact h
 ·have h1:(2:Int)^b≤2^k:=two_pow_le (by omega)
  have h2:(2:Int)^k*1≤2^k*v:=Int.mul_le_mul_of_nonneg_left (by omega) (Int.le_of_lt (Int.pow_pos (by decide)))
  omega
theorem anyN_false {B:Int} (hB:0<B) {zs:List Int} (h:Dig B zs):anyN zs=false↔val B zs=0:=by
 have:=anyN_val hB h
 cases hz:anyN zs
 ·rw [hz] at this
  simp at this
  simp [this]
 ·rw [hz] at this
  simp at this
  simp [this]
theorem shl_odd_and (k m t:Nat) (h:k &&& m=0):((2*k+1)<<<t) &&& ((2*m+1)<<<t)=2^t:=by
 rw [←Nat.shiftLeft_and_distrib]
 have e:(2*k+1) &&& (2*m+1)=1:=by
  apply Nat.eq_of_testBit_eq
  intro i
  rw [Nat.testBit_and]
  cases i with
  |zero=>simp
  |succ i=>
   have h2:=congrArg (Nat.testBit · i) h
   simp only [Nat.testBit_and,Nat.zero_testBit] at h2
   rw [Nat.testBit_succ,Nat.testBit_succ,Nat.testBit_succ]
   rw [show (2*k+1)/2=k by omega,show (2*m+1)/2=m by omega,show 1/2=0 by omega,h2]
   simp
 rw [e,Nat.shiftLeft_eq,Nat.one_mul]
theorem and_comp (k n:Nat) (h:k<2^n):k &&& (2^n-(k+1))=0:=by
 apply Nat.eq_of_testBit_eq
 intro i
 rw [Nat.testBit_and,Nat.testBit_two_pow_sub_succ h,Nat.zero_testBit]
 cases k.testBit i<;>simp
theorem low_nat {x k t:Nat} (hx:x=2^t*(2*k+1)) (h1:x<4294967296):x &&& (4294967296-x)=2^t:=by
 have hp:0<2^t:=Nat.two_pow_pos _
 have ht:t<32:=by
  apply Nat.lt_of_not_le
  intro h
  have h2:2^32≤2^t:=Nat.pow_le_pow_right (by decide) h
  have h3:2^t*1≤2^t*(2*k+1):=Nat.mul_le_mul_left _ (by omega)
  omega
 have e1:(4294967296:Nat)=2^t*2^(32-t):=by rw [←Nat.pow_add,show t+(32-t)=32 by omega]
 have e2:2^(32-t)=2*2^(31-t):=by rw [show 32-t=(31-t)+1 by omega,Nat.pow_succ];omega
 have hk:k<2^(31-t):=by
  have h2:2^t*(2*k+1)<2^t*(2*2^(31-t)):=by rw [←hx,←e2,←e1];exact h1
  have:=Nat.lt_of_mul_lt_mul_left h2
  omega
 have e3:4294967296-x=(2*(2^(31-t)-(k+1))+1)<<<t:=by
  rw [Nat.shiftLeft_eq,e1,e2,hx,←Nat.mul_sub,Nat.mul_comm]
  congr 1
  omega
 have e4:x=(2*k+1)<<<t:=by rw [Nat.shiftLeft_eq,hx,Nat.mul_comm]
 rw [e3]
 conv=>lhs;lhs;rw [e4]
 exact shl_odd_and _ _ _ (and_comp _ _ hk)
theorem low_bits {x q:Int} {t:Nat} (h0:0<x) (h1:x<4294967296) (hx:x=2^t*q) (hq:q%2=1):bits .and .u32 x (-x%4294967296)=2^t:=by
 obtain ⟨n,rfl⟩:=Int.eq_ofNat_of_zero_le (Int.le_of_lt h0)
 have hq0:0<q:=by
  have hp:(0:Int)<2^t:=Int.pow_pos (by decide)
  apply Int.lt_of_not_ge
  intro h
  have:2^t*q≤0:=Int.mul_nonpos_of_nonneg_of_nonpos (Int.le_of_lt hp) h
  omega
 obtain ⟨k,hk⟩: ∃k:Nat,q=2*(k:Int)+1:=⟨(q/2).toNat,by omega⟩
 have hn:n=2^t*(2*k+1):=by
  rw [hk] at hx
  have:(n:Int)=((2^t*(2*k+1):Nat):Int):=by rw [hx];push_cast;rfl
  exact Int.ofNat.inj this
 have hl:=low_nat hn (by omega)
 have e2:(BitVec.ofInt 32 (n:Int) &&& BitVec.ofInt 32 (-(n:Int)%4294967296)).toNat=n &&& (4294967296-n):=by
  rw [show-(n:Int)%4294967296=((4294967296-n:Nat):Int) by omega,BitVec.toNat_and,BitVec.ofInt_natCast,BitVec.ofInt_natCast,BitVec.toNat_ofNat,BitVec.toNat_ofNat,Nat.mod_eq_of_lt (by omega),Nat.mod_eq_of_lt (by omega)]
 show IntKind.u32.wrap ((BitVec.ofInt 32 (n:Int) &&& BitVec.ofInt 32 (-(n:Int)%4294967296)).toNat:Int)=_
 rw [e2,hl]
 have hlt:2^t<4294967296:=by
  have h3:2^t*1≤2^t*(2*k+1):=Nat.mul_le_mul_left _ (by omega)
  omega
 simp only [IntKind.wrap,IntKind.bits,IntKind.signed]
 simp
 have:((2^t:Nat):Int)=2^t:=by push_cast;rfl
 omega
theorem odd_part: ∀(n:Nat),0<n→ ∃t k:Nat,n=2^t*(2*k+1):=by
 intro n
 induction n using Nat.strongRecOn with
 |ind n ih=>
  intro hn
  by_cases h:n%2=1
  ·exact ⟨0,n/2,by omega⟩
  ·obtain ⟨t,k,e⟩:=ih (n/2) (by omega) (by omega)
   refine ⟨t+1,k,?_⟩
   rw [Nat.pow_succ,Nat.mul_comm (2^t) 2,Nat.mul_assoc,←e]
   omega
def tzTab:List Int:=[0,1,28,2,29,14,24,3,30,22,20,15,25,17,4,8,31,27,13,23,21,19,16,7,26,12,18,6,11,5,10,9]
theorem tz_tab: ∀t:Nat,t<32→((2:Int)^t*125613361%4294967296/134217728).toNat<32∧tzTab.getD ((2:Int)^t*125613361%4294967296/134217728).toNat 0=t:=by decide
structure Tab (w:World):Prop where
 lt:0<w.heap.size
 at_: ∀i,i<32→w.cell? ⟨0,i,none⟩=some (.int .u8 (tzTab.getD i 0))
theorem Tab.later {w w':World} (h:Tab w) (hb:Below w.heap.size w w'):Tab w':=
 ⟨Nat.lt_of_lt_of_le h.lt hb.size,fun i hi=>(hb.cell (p:=⟨0,i,none⟩) h.lt).trans (h.at_ i hi)⟩
theorem tz_any (x:Int) (w:World) (h0:0<x) (h1:x<4294967296) (hT:Tab w):
 Calls Tryz.prog 138 #[x] w fun e w'=> ∃t:Nat,e= .returned (.int .i64 t)∧t<32∧Twos x t∧Below w.heap.size w w':=by
 obtain ⟨n,hn⟩:=Int.eq_ofNat_of_zero_le (Int.le_of_lt h0)
 obtain ⟨t,k,hk⟩:=odd_part n (by omega)
 have hx:x=2^t*(2*(k:Int)+1):=by rw [hn,hk];push_cast;rfl
 have ht:t<32:=pow_lt_of (b:=32) hx (by omega) h1
 have hb:=low_bits h0 h1 hx (by omega)
 have hc:=hT.at_ _ (tz_tab t ht).1
 rw [(tz_tab t ht).2,←hb] at hc
 have HW:Hid (Twos x t):=⟨_,hx,by omega⟩
 have hz:(x==0)=false:=by rw [beq_eq_false_iff_ne];omega
 have ht':(t:Int)<32:=by omega
 clear hn hk hx hb hT
 go_enter Tryz.func138,Tryz.ntmps138
 go_wp2
 refine bodyPost_ret (v:= .int .i64 t) (by simp [results,Tryz.results138,go_sem]) rfl ?_
 exact ⟨t,rfl,ht,HW.out,Below.refl _ _⟩
open Go.ChangeShapes Go.WideShapes Go.ChangeAt Go.RowKit
def laidT:List (String×DataW Unit):=[("math/bits.deBruijn32tab",Rows.laid_math_bits_deBruijn32tab)]
theorem gTab:Tryz.prog.globalNamed "math/bits.deBruijn32tab" =some 0:=by kernel_rfl
theorem tTab:(Tryz.prog.globals[0]?).map (·.type)=some 215:=by kernel_rfl
theorem door_met (os:Os) (args:Array Value):laidMetH Tryz.prog laidT ((World.doorLaid Tryz.prog 400 os).forCall (fun _ _=>0) ⟨#[],args,[]⟩).memory:=
 laidMetH_of_parts3 (fuel:=8) (laidMet_of_run' 8 (by kernel_rfl) (by kernel_rfl)) (by kernel_rfl) (by kernel_rfl)
theorem tab_of_laid {W:World} (h:laidMetH Tryz.prog laidT W):Tab W:=by
 rw [MakeChecks.laidMetH_plain _ _ _ (by kernel_rfl)] at h
 obtain ⟨ps,⟨g0,t0,cs0,f0,p0,q0,hg0,ht0,hv0,hd0,_,_⟩,_,_⟩:=h
 obtain rfl:=Option.some.inj (gTab.symm.trans hg0)
 obtain rfl:=Option.some.inj (tTab.symm.trans ht0)
 obtain ⟨xs,m1,rfl,hx1,hlen,hn3,hel⟩:=DataW.trod_array Tryz.underlying215 hd0
 have c5:Tryz.prog.cellsOf 5=1:=by kernel_rfl
 have hag:(Rows.laid_math_bits_deBruijn32tab:DataW Unit)= .agg (tzTab.map fun k=> .lit (.int .u8 k)):=rfl
 have hmap:tzTab.map (fun k=>(DataW.lit (.int .u8 k):DataW Unit))=xs.map (fun x=>x.1):=by
  have h1:=(Prod.mk.inj hx1).1
  rw [hag] at h1
  exact DataW.agg.inj h1
 have hall: ∀i,i<32→W.cell? ⟨0,i,none⟩=some (.int .u8 (tzTab.getD i 0)):=by
  intro i hi
  have hxi:xs[i]? =some (xs[i]'(by omega)):=List.getElem?_eq_getElem (by omega)
  have h1:=hel i hi
  rw [c5,Nat.mul_one,hxi] at h1
  obtain ⟨k,e1,e2,_⟩:=DataW.trod_int Tryz.underlying5 h1
  have h2:(xs.map (fun x=>x.1))[i]? =some (DataW.lit (.int .u8 k)):=by rw [List.getElem?_map,hxi,e2];rfl
  rw [←hmap,List.getElem?_map] at h2
  have hti:i<tzTab.length:=hi
  rw [List.getElem?_eq_getElem hti] at h2
  have hk:tzTab[i]=k:=by
   have h3:=Option.some.inj h2
   injection h3 with h4
   injection h4
  rw [World.var?_cell hg0 hv0 i]
  have h5:(List.take 1 (List.drop i cs0.toList))[0]? =cs0[i]? :=by
   rw [List.getElem?_take_of_lt (by decide),List.getElem?_drop]
   simp
  rw [←h5,e1,List.getD_eq_getElem?_getD,List.getElem?_eq_getElem hti,←hk]
  rfl
 exact ⟨cell_lt (hall 0 (by decide)),hall⟩
theorem twos_any (g:Bool) (a:Option Addr) (c:Nat) (ds:List Int) (x:Int) (w:World) (hn:ds.length≤1048576) (h:L1 w g a c ds x) (hne:ds≠[]):
 Calls Tryz.prog 69 #[.agg #[g,.slice a ds.length c]] w fun e w'=> ∃t:Nat,e= .returned (.int .i64 t)∧t≤16*ds.length∧Twos (val 65536 ds) t∧Below w.heap.size w w':=by
 have hpos:=val_pos (B:=65536) (by decide) h.can hne
 have hd:=h.can.1
 have hz:=h.sl.row
 obtain ⟨b,off,rfl,hb,hc⟩:=hz.resolve_left hne
 have HD:Hid (Dig 65536 ds):=hd
 have HP:Hid (0<val 65536 ds):=hpos
 have hlen:ds.length≠0:=fun e=>hne (List.length_eq_zero_iff.1 e)
 clear h hd hz hpos
 have q1:(w.alloc (.cells #[g,.slice (some ⟨b,off,none⟩) ds.length c] 72)).cell? ⟨w.heap.size,1,none⟩=some (.slice (some ⟨b,off,none⟩) ds.length c):=by simp [go_sem]
 have HC:Hid (∀j,j<ds.length→(w.alloc (.cells #[g,.slice (some ⟨b,off,none⟩) ds.length c] 72)).cell? ⟨b,off+j,none⟩=some (.int .i64 (ds.getD j 0))):=by
  intro j hj
  rw [World.cell?_alloc_past _ _ _ hb]
  exact hc j hj
 have HB:Hid (Below w.heap.size w (w.alloc (.cells #[g,.slice (some ⟨b,off,none⟩) ds.length c] 72))):=bel0 _ _
 clear hc
 go_enter Tryz.func69,Tryz.ntmps69
 go_wp2
 obtain ⟨W,hW⟩: ∃W,W=w.alloc (.cells #[g,.slice (some ⟨b,off,none⟩) ds.length c] 72):=⟨_,rfl⟩
 rw [←hW] at q1 HC HB⊢
 clear hW
 go_loop [3] (fun i=> ∃j:Nat,j<ds.length∧i= .int .i64 j∧Hid (anyN (ds.take j)=false)) (fun i=>ds.length-(intOf i).toNat)
 case atStart=>exact ⟨0,by omega,rfl,rfl⟩
 case round=>
  obtain ⟨j,hj,rfl,hany⟩:=hrel
  have g1:=HC.out j hj
  have hst:=anyN_take hj
  obtain ⟨y,hy⟩: ∃y,y=ds.getD j 0:=⟨_,rfl⟩
  have hyb:=HD.out.at (by decide) j
  rw [←hy] at g1 hst hyb
  have hji:(j:Int)<ds.length:=by omega
  by_cases hy0:y=0
  ·have hany2:anyN (ds.take (j+1))=false:=by rw [hst,hany.out,hy0];rfl
   have hj2:j+1<ds.length:=by
    by_cases hp:j+1<ds.length
    ·exact hp
    ·have:ds.take (j+1)=ds:=List.take_of_length_le (by omega)
     rw [this,anyN_false (B:=65536) (by decide) HD.out] at hany2
     have:=HP.out
     omega
   have HA:Hid (anyN (ds.take (j+1))=false):=hany2
   subst hy0
   clear hst hany hany2 hy
   go_wp2
   go_round
   case rel=>exact ⟨j+1,hj2,by go_num,HA⟩
   case measure=>simp [intOf];omega
  ·have hy1:(y==0)=false:=by rw [beq_eq_false_iff_ne];exact hy0
   have hv0:val 65536 (ds.take j)=0:=(anyN_false (B:=65536) (by decide) (HD.out.take j)).1 hany.out
   have HV0:Hid (val 65536 (ds.take j)=0):=hv0
   have HY:Hid (y=ds.getD j 0):=hy
   obtain ⟨hyb0,hyb1⟩:=hyb
   clear hst hany hv0 hy
   go_wp2
   go_loop [4,5] (fun sv sk=> ∃(k:Nat) (v:Int),sv= .int .i64 v∧sk= .int .i64 k∧0<v∧v<65536∧k<16∧Hid (y=2^k*v)) (fun sv _=>(intOf sv).toNat)
   case atStart=>exact ⟨0,y,rfl,rfl,by omega,by omega,by decide,by unfold Hid;simp⟩
   case round=>
    obtain ⟨k,v,rfl,rfl,hv0,hv1,hk,hyk⟩:=hrel
    have hvm:0≤v%2:=by omega
    by_cases hev:v%2=0
    ·have hyk2:y=2^(k+1)*(v/2):=by
      rw [hyk.out,Int.pow_succ,Int.mul_assoc]
      congr 1
      omega
     have hv2:0<v/2:=by omega
     have hk2:k+1<16:=pow_lt_of hyk2 hv2 (by omega)
     have HK:Hid (y=2^(k+1)*(v/2)):=hyk2
     clear hyk2 hyk
     go_wp2
     go_round
     case rel=>exact ⟨k+1,v/2,rfl,by go_num,hv2,by omega,hk2,HK⟩
     case measure=>simp [intOf];omega
    ·have hev1:(v%2==0)=false:=by rw [beq_eq_false_iff_ne];exact hev
     have HT:Hid (Twos (val 65536 ds) (16*j+k)):=twos_of (b:=16) hj HV0.out (by rw [←HY.out];exact hyk.out) (by omega) hk
     clear hyk
     go_wp2
     go_ret
     exact ⟨16*j+k,ret_int (by omega),by omega,HT.out,HB.out⟩
end Go.Proofs.YtfieffpobgcpmaaGreatDoor
