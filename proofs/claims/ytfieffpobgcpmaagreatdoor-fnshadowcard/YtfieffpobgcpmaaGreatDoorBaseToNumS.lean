import Derived.Test.YtfieffpobgcpmaaGreatDoorRows
import Derived.WalkKit
import Derived.WalkSpells
import Derived.WalkLawsBesides
import Derived.Deep.OwnRows
import Derived.Deep.QuietTactic
import Derived.BigQuiet
import Derived.ProofKit
import Derived.Lib.SmallJoins
import Derived.OpenShut
import Derived.KernelRfl
set_option maxRecDepth 100000
set_option maxHeartbeats 32000000
namespace Go.Proofs.YtfieffpobgcpmaaGreatDoor
open Go.RowKit
variable {k:IntKind} {w w':World} {B z c s:Int} {a0:Option Addr} {zs ys xs:List Int} {b off:Nat}
instance iI:CoeOut Int Value:=⟨.int .u32⟩
instance iB:CoeOut Bool Value:=⟨.bool⟩
instance iN:CoeOut Nat Value:=⟨.float .f64⟩
instance iU:CoeOut Unit Value:=⟨fun _=>.slice none 0 0⟩
instance iW:CoeOut World Nat:=⟨fun w=>w.heap.size⟩
instance iL {α:Type}:CoeOut (List α) Nat:=⟨List.length⟩
structure OO
def oOo:OO:=⟨⟩
instance iC:CoeOut OO Value:=⟨fun _=>.float .f64 0⟩
theorem Hid.mk {p:Prop} (h:p):Hid p:=h
def ζk (k:IntKind) (w:World) (a0:Option Addr) (zs:List Int):Prop:=
 zs=[]∨ ∃b off,a0=some ⟨b,off,none⟩∧b<w.heap.size∧ ∀j,j<zs.length->w.cell? ⟨b,off+j,none⟩=some (.int k (zs.getD j 0))
def ζl (k:IntKind) (w:World) (B:Nat) (a0:Option Addr) (zs:List Int):Prop:=
 zs=[]∨ ∃b off,a0=some ⟨b,off,none⟩∧B<=b∧b<w.heap.size∧(∀j,j<zs.length->w.cell? ⟨b,off+j,none⟩=some (.int k (zs.getD j 0)))∧
  ∀j,j<zs.length->w.frozen? ⟨b,off+j,none⟩=false
def U32 (zs:List Int):Prop:= ∀z,z∈zs->0<=z∧z<4294967296
theorem ζl.row {B:Nat} (h:ζl k w B a0 zs):ζk k w a0 zs:=by
 rcases h with h| ⟨b,off,h1,_,h2,h3,_⟩
 ·exact .inl h
 ·exact .inr ⟨b,off,h1,h2,h3⟩
theorem ζk.later (h:ζk k w a0 zs) (hb:Below w w w'):ζk k w' a0 zs:=by
 rcases h with h| ⟨b,off,h1,h2,h3⟩
 ·exact .inl h
 ·exact .inr ⟨b,off,h1,Nat.lt_of_lt_of_le h2 hb.size,fun j hj=>(hb.cell (p:=⟨b,off+j,none⟩) h2).trans (h3 j hj)⟩
theorem ζl.later {B:Nat} (h:ζl k w B a0 zs) (hb:Below w w w'):ζl k w' B a0 zs:=by
 rcases h with h| ⟨b,off,h1,h0,h2,h3,h4⟩
 ·exact .inl h
 ·exact .inr ⟨b,off,h1,h0,Nat.lt_of_lt_of_le h2 hb.size,fun j hj=>(hb.cell (p:=⟨b,off+j,none⟩) h2).trans (h3 j hj),fun j hj=>(hb.frozen (p:=⟨b,off+j,none⟩) h2).trans (h4 j hj)⟩
theorem ζl.down {B B':Nat} (h:ζl k w B a0 zs) (hB:B'<=B):ζl k w B' a0 zs:=by
 rcases h with h| ⟨b,off,h1,h0,h2,h3,h4⟩
 ·exact .inl h
 ·exact .inr ⟨b,off,h1,Nat.le_trans hB h0,h2,h3,h4⟩
theorem ζj {W w1:World} (hb:Below W W w1):(∀b o,b<W.heap.size->w1.cell? ⟨b,o,none⟩=W.cell? ⟨b,o,none⟩)∧(∀b o,b<W.heap.size->w1.frozen? ⟨b,o,none⟩=W.frozen? ⟨b,o,none⟩):=
 ⟨fun b o h=>hb.cell (p:=⟨b,o,none⟩) h,fun b o h=>hb.frozen (p:=⟨b,o,none⟩) h⟩
structure Own (k:IntKind) (w:World) (b off:Nat) (ys:List Int):Prop where
 lt:b<w.heap.size
 cell: ∀j,j<ys.length->w.cell? ⟨b,off+j,none⟩=some (.int k (ys.getD j 0))
 free: ∀j,j<ys.length->w.frozen? ⟨b,off+j,none⟩=false
theorem Own.new {B:Nat} (h:Own k w b off ys) (hB:B<=b):ζl k w B (some ⟨b,off,none⟩) ys:=
 .inr ⟨b,off,rfl,hB,h.lt,h.cell,h.free⟩
theorem Own.set (h:Own k w b off ys) (i:Nat) (v:Int) (hi:i<ys.length):Own k (w.setCell ⟨b,off+i,none⟩ (.int k v)) b off (ys.set i v):=by
 refine ⟨by simpa using h.lt,fun j hj=> ?_,fun j hj=> ?_⟩
 ·rw [List.length_set] at hj
  by_cases e:j=i
  ·subst e
   rw [World.cell?_setCell_same _ _ _ (h.cell j hj)]
   simp [List.getD_eq_getElem?_getD,hj]
  ·rw [World.cell?_setCell_other _ _ _ _ (by intro hh;apply e;have:=congrArg Addr.off hh;simp at this;omega),h.cell j hj]
   simp [List.getD_eq_getElem?_getD,show¬i=j from fun h=>e h.symm]
 ·rw [List.length_set] at hj
  rw [World.frozen?_setCell]
  exact h.free j hj
theorem Own.later (h:Own k w b off ys) (hb:Below w w w'):Own k w' b off ys:=
 ⟨Nat.lt_of_lt_of_le h.lt hb.size,fun j hj=>(hb.cell (p:=⟨b,off+j,none⟩) h.lt).trans (h.cell j hj),fun j hj=>(hb.frozen (p:=⟨b,off+j,none⟩) h.lt).trans (h.free j hj)⟩
theorem Own.made (w:World) (n:Nat) (t:TypeId):Own k (w.alloc (.cells (madeCells #[.int k 0] n) t)) w 0 (List.replicate n 0):=by
 refine ⟨by simp,fun j hj=> ?_,fun j hj=> ?_⟩
 ·rw [List.length_replicate] at hj
  simp [List.getD_eq_getElem?_getD,hj,madeCells,Nat.mod_one]
 ·simp
theorem ζc (w:World) (o:Obj):Below w w (w.alloc o):=(Below.refl _ _).alloc (Nat.le_refl _) _
theorem ξr (w:World) (o1 o2:Obj):Below w w ((w.alloc o1).alloc o2):=(ζc w o1).alloc (by simp) _
theorem νz (w:World) (o1 o2 o3:Obj):Below w w (((w.alloc o1).alloc o2).alloc o3):=(ξr w o1 o2).alloc (by simp;omega) _
theorem ζl.setLow {B:Nat} (h:ζl k w B a0 zs) {p:Addr} (hp:p.block<B) (v:Value):ζl k (w.setCell p v) B a0 zs:=by
 rcases h with h| ⟨b,off,h1,h0,h2,h3,h4⟩
 ·exact .inl h
 ·refine .inr ⟨b,off,h1,h0,by simpa using h2,fun j hj=> ?_,fun j hj=> ?_⟩
  ·rw [World.cell?_setCell_other _ _ _ _ (by intro hh;have:=congrArg Addr.block hh;simp at this;omega)];exact h3 j hj
  ·rw [World.frozen?_setCell];exact h4 j hj
theorem U32.at (h:U32 zs) (j:Nat):0<=zs.getD j 0∧zs.getD j 0<4294967296:=by
 by_cases hj:j<zs.length
 ·rw [List.getD_eq_getElem?_getD,List.getElem?_eq_getElem hj];exact h _ (List.getElem_mem hj)
 ·rw [List.getD_eq_getElem?_getD,List.getElem?_eq_none (by omega)];decide
theorem Tryz.info22:(Tryz.prog.info? 22).map (fun i=>(i.zero,i.size,i.bytes))=some (some (.int .u32 0),1,4):=by kernel_rfl
open Go.ChangeShapes Go.WideShapes Go.ChangeAt Go.RowKit Go.Joins
theorem own:ownKnob Tryz.prog.godebug=none:=by kernel_rfl
theorem τK:laidOutB Tryz.prog=true:=by kernel_rfl
theorem ρv {p:Addr} {v:Value} (h:w.cell? p=some v):p.block<w.heap.size:=by
 unfold World.cell? at h
 by_cases hp:p.block<w.heap.size
 ·exact hp
 ·rw [Array.getElem?_eq_none (by omega)] at h
  simp at h
theorem νD {x:Addr} (hc: ∀i,i<zs.length->w.cell? (x.add i)=some (.int k (zs.getD i 0))):ζk k w (some x) zs:=by
 by_cases h0:zs.length=0
 ·exact .inl (List.length_eq_zero_iff.1 h0)
 ·obtain ⟨b,off,spot⟩:=x
  have h:=hc 0 (by omega)
  have hspot:spot=none:=by simpa [Addr.add] using World.cell?_spot h
  subst hspot
  refine .inr ⟨b,off,rfl,ρv h,fun j hj=> ?_⟩
  have:=hc j hj
  by_cases e:j=0
  ·subst e;simpa [Addr.add] using this
  ·simpa [Addr.add,e] using this
open Go.ChangeShapes Go.WideShapes Go.ChangeAt Go.RowKit Go.Joins
theorem νE:Tryz.prog.cellsOf 5=1:=by kernel_rfl
theorem ξj {a b:Bool} (h:a=b):Ending.returned a= .returned ↑b:=by rw [h]
theorem νF (h: ¬zs.length=0):((zs.length:Int)==0)=false:=by
 rw [beq_eq_false_iff_ne];omega
def val (B:Int):List Int->Int
 | []=>0
 |z::zs=>z+B*val B zs
def Dig (B:Int) (zs:List Int):Prop:= ∀z,z∈zs->0<=z∧z<B
def trimL:List Int->List Int
 | []=>[]
 |z::zs=>if trimL zs=[]∧z=0 then [] else z::trimL zs
def ζr (B:Int):List Int->Int->List Int
 | [],c=>if c=0 then [] else [c]
 |s::ss,c=>(s+c)%B::ζr B ss ((s+c)/B)
theorem Dig.nil (B:Int):Dig B []:=fun _ h=>absurd h (List.not_mem_nil)
theorem Dig.cons (h0:0<=z) (h1:z<B) (h:Dig B zs):Dig B (z::zs):=by
 intro y hy
 rcases List.mem_cons.1 hy with rfl|hy
 ·exact ⟨h0,h1⟩
 ·exact h y hy
theorem Dig.head (h:Dig B (z::zs)):0<=z∧z<B:=h z (List.mem_cons_self)
theorem Dig.tail (h:Dig B (z::zs)):Dig B zs:=fun y hy=>h y (List.mem_cons_of_mem _ hy)
theorem Dig.take (h:Dig B zs) (n:Nat):Dig B (zs.take n):=fun y hy=>h y (List.mem_of_mem_take hy)
theorem Dig.drop (h:Dig B zs) (n:Nat):Dig B (zs.drop n):=fun y hy=>h y (List.mem_of_mem_drop hy)
theorem Dig.append (h:Dig B xs) (h':Dig B ys):Dig B (xs++ys):=by
 intro y hy
 rcases List.mem_append.1 hy with hy|hy
 ·exact h y hy
 ·exact h' y hy
theorem Dig.at (hB:0<B) (h:Dig B zs) (j:Nat):0<=zs.getD j 0∧zs.getD j 0<B:=by
 by_cases hj:j<zs.length
 ·rw [List.getD_eq_getElem?_getD,List.getElem?_eq_getElem hj];exact h _ (List.getElem_mem hj)
 ·rw [List.getD_eq_getElem?_getD,List.getElem?_eq_none (by omega)];exact ⟨by simp,by simpa using hB⟩
theorem ζo {B:Int} (hB:0<B): ∀{zs:List Int},Dig B zs->0<=val B zs
 | [],_=>Int.le_refl 0
 |z::zs,h=>by
  have h1:=ζo hB h.tail
  have h2:=h.head
  have:=Int.mul_nonneg (Int.le_of_lt hB) h1
  simp only [val]
  omega
theorem ζI (B:Int) (ys:List Int): ∀xs:List Int,val B (xs++ys)=val B xs+B^xs.length*val B ys
 | []=>by simp [val]
 |x::xs=>by
  simp only [List.cons_append,val,ζI B ys xs,List.length_cons,Int.pow_succ]
  rw [Int.mul_add,Int.mul_comm (B^xs.length) B,Int.mul_assoc]
  omega
theorem ξk (B:Int): ∀zs:List Int,val B (trimL zs)=val B zs
 | []=>rfl
 |z::zs=>by
  have ih:=ξk B zs
  simp only [trimL]
  split
  ·rename_i h
   rw [h.1] at ih
   simp only [val] at ih⊢
   rw [<-ih,h.2]
   simp
  ·simp only [val,ih]
theorem Dig.trim {B:Int}: ∀{zs:List Int},Dig B zs->Dig B (trimL zs)
 | [],h=>h
 |z::zs,h=>by
  simp only [trimL]
  split
  ·exact Dig.nil B
  ·exact Dig.cons h.head.1 h.head.2 (Dig.trim h.tail)
theorem ωz: ∀zs:List Int,trimL (trimL zs)=trimL zs
 | []=>rfl
 |z::zs=>by
  have ih:=ωz zs
  simp only [trimL]
  split
  ·rfl
  ·rename_i h
   simp only [trimL,ih]
   rw [if_neg h]
theorem ξK: ∀zs:List Int,trimL (zs++[0])=trimL zs
 | []=>rfl
 |z::zs=>by simp only [List.cons_append,trimL,ξK zs]
theorem φK: ∀(zs:List Int) (z:Int),z≠0->trimL (zs++[z])=zs++[z]
 | [],z,h=>by simp [trimL,h]
 |y::zs,z,h=>by
  simp only [List.cons_append,trimL,φK zs z h]
  rw [if_neg (by simp)]
theorem ξl {m:Nat} (h:m+1<=zs.length) (hz:zs.getD m 0=0):trimL (zs.take (m+1))=trimL (zs.take m):=by
 rw [List.take_succ_eq_append_getElem h]
 have:zs[m]=0:=by simpa [List.getD_eq_getElem?_getD,show m<zs.length from h] using hz
 rw [this,ξK]
theorem ξm {m:Nat} (h:m+1<=zs.length) (hz:zs.getD m 0≠0):trimL (zs.take (m+1))=zs.take (m+1):=by
 rw [List.take_succ_eq_append_getElem h]
 have:zs[m]≠0:=by simpa [List.getD_eq_getElem?_getD,show m<zs.length from h] using hz
 rw [φK _ _ this]
def ζv (B:Int) (zs:List Int):Prop:=Dig B zs∧trimL zs=zs
theorem ξb (h:Dig B zs):ζv B (trimL zs):=⟨h.trim,ωz zs⟩
theorem χA (h:Dig B zs) (hne:zs.length≠0) (hl:zs.getD (zs.length-1) 0≠0):ζv B zs:=by
 refine ⟨h,?_⟩
 have hz:zs≠[]:=fun e=>hne (by simp [e])
 have e:=List.dropLast_concat_getLast hz
 have hl':zs.getLast hz≠0:=by
  rw [List.getLast_eq_getElem]
  simpa [List.getD_eq_getElem?_getD,show zs.length-1<zs.length from by omega] using hl
 rw [<-e]
 exact φK _ _ hl'
theorem ξL: ∀zs:List Int,(trimL zs).length<=zs.length
 | []=>by simp [trimL]
 |z::zs=>by
  have ih:=ξL zs
  simp only [trimL]
  split
  ·simp
  ·simp;omega
theorem ψQ (h:trimL zs=zs) (hne:zs.length≠0):zs.getD (zs.length-1) 0≠0:=by
 have hz:zs≠[]:=fun e=>hne (by simp [e])
 have e:=List.dropLast_concat_getLast hz
 intro h0
 have hl':zs.getLast hz=0:=by
  rw [List.getLast_eq_getElem]
  simpa [List.getD_eq_getElem?_getD,show zs.length-1<zs.length from by omega] using h0
 rw [hl'] at e
 rw [<-e,ξK] at h
 have:=ξL zs.dropLast
 rw [h] at this
 simp at this
 omega
theorem ζv.tail (h:ζv B (z::zs)):ζv B zs:=by
 refine ⟨h.1.tail,?_⟩
 have:=h.2
 simp only [trimL] at this
 split at this
 ·cases this
 ·exact (List.cons.inj this).2
theorem ξO {B:Int} (hB:0<B): ∀{zs:List Int},ζv B zs->val B zs=0->zs=[]
 | [],_,_=>rfl
 |z::zs,h,hv=>by
  have h1:=ζo hB h.1.tail
  have h2:=h.1.head
  have h3:=Int.mul_nonneg (Int.le_of_lt hB) h1
  simp only [val] at hv
  have hz:z=0:=by omega
  have hm:B*val B zs=0:=by omega
  have ht:val B zs=0:=by
   rcases Int.mul_eq_zero.1 hm with h|h
   ·omega
   ·exact h
  have e:=ξO hB h.tail ht
  subst e hz
  have:=h.2
  simp [trimL] at this
theorem ζP (hB:0<B) (h:ζv B zs) (hne:zs≠[]):0<val B zs:=by
 have h1:=ζo hB h.1
 rcases Int.lt_or_eq_of_le h1 with h2|h2
 ·exact h2
 ·exact absurd (ξO hB h h2.symm) hne
theorem φL {B:Int} (hB:0<B): ∀{xs ys:List Int},ζv B xs->ζv B ys->val B xs=val B ys->xs=ys
 | [],ys,_,hy,h=>(ξO hB hy (by simpa [val] using h.symm)).symm
 |x::xs,[],hx,_,h=>ξO hB hx (by simpa [val] using h)
 |x::xs,y::ys,hx,hy,h=>by
  simp only [val] at h
  have h1:=hx.1.head
  have h2:=hy.1.head
  have e1:(x+B*val B xs)%B=x:=by rw [Int.add_mul_emod_self_left];exact Int.emod_eq_of_lt h1.1 h1.2
  have e2:(y+B*val B ys)%B=y:=by rw [Int.add_mul_emod_self_left];exact Int.emod_eq_of_lt h2.1 h2.2
  have e:x=y:=by rw [<-e1,<-e2,h]
  subst e
  have e3:B*val B xs=B*val B ys:=by omega
  have e4:val B xs=val B ys:=Int.eq_of_mul_eq_mul_left (by omega) e3
  rw [φL hB hx.tail hy.tail e4]
theorem φM (B:Int): ∀(ss:List Int) (c:Int),val B (ζr B ss c)=val B ss+c
 | [],c=>by
  simp only [ζr]
  split
  ·rename_i h;simp [val,h]
  ·simp [val]
 |s::ss,c=>by
  simp only [ζr,val,φM B ss]
  have:=Int.emod_add_mul_ediv (s+c) B
  rw [Int.mul_add]
  omega
theorem ωA {B lo hi:Int} (hB:0<B) (hhi:hi<B) (hlo:0<=lo): ∀(ss:List Int) (c:Int),lo<=c->c<=hi->(∀s,s∈ss-> ∀c,lo<=c->c<=hi->lo<=(s+c)/B∧(s+c)/B<=hi)->Dig B (ζr B ss c)
 | [],c,h0,h1,_=>by
  simp only [ζr]
  split
  ·exact Dig.nil B
  ·exact Dig.cons (by omega) (by omega) (Dig.nil B)
 |s::ss,c,h0,h1,h=>by
  have h2:=h s List.mem_cons_self c h0 h1
  simp only [ζr]
  exact Dig.cons (Int.emod_nonneg _ (by omega)) (Int.emod_lt_of_pos _ hB) (ωA hB hhi hlo ss _ h2.1 h2.2 (fun s' hs'=>h s' (List.mem_cons_of_mem _ hs')))
theorem ζ7 {B:Int} (hB:0<B): ∀{xs ys:List Int},Dig B xs->ζv B ys->xs.length<ys.length->val B xs<val B ys
 |xs,[],_,_,h=>absurd h (by simp)
 | [],y::ys,_,hy,_=>by simpa [val] using ζP hB hy (by simp)
 |x::xs,y::ys,hx,hy,h=>by
  have ih:=ζ7 hB hx.tail hy.tail (by simpa using h)
  have h1:=hx.head
  have h2:=hy.1.head
  have h3:B*(val B xs+1)<=B*val B ys:=Int.mul_le_mul_of_nonneg_left (by omega) (by omega)
  rw [Int.mul_add] at h3
  simp only [val]
  omega
def sgn (x:Int):Int:=if x<0 then-1 else if x=0 then 0 else 1
def ζN:List Int->List Int->Int
 |x::xs,y::ys=>if ζN xs ys=0 then sgn (x-y) else ζN xs ys
 |_,_=>0
theorem sgn_cases (x:Int):(x<0∧sgn x= -1)∨(x=0∧sgn x=0)∨(0<x∧sgn x=1):=by
 unfold sgn
 rcases Int.lt_trichotomy x 0 with h|h|h
 ·exact .inl ⟨h,by rw [if_pos h]⟩
 ·exact .inr (.inl ⟨h,by rw [if_neg (by omega),if_pos h]⟩)
 ·exact .inr (.inr ⟨h,by rw [if_neg (by omega),if_neg (by omega)]⟩)
theorem χB {B:Int} (hB:0<B): ∀{xs ys:List Int},Dig B xs->Dig B ys->xs.length=ys.length->ζN xs ys=sgn (val B xs-val B ys)
 | [],[],_,_,_=>by simp [ζN,val,sgn]
 | [],y::ys,_,_,h=>absurd h (by simp)
 |x::xs,[],_,_,h=>absurd h (by simp)
 |x::xs,y::ys,hx,hy,h=>by
  have ih:=χB hB hx.tail hy.tail (by simpa using h)
  have h1:=hx.head
  have h2:=hy.head
  simp only [ζN,val]
  have e:x+B*val B xs-(y+B*val B ys)=(x-y)+B*(val B xs-val B ys):=by rw [Int.mul_sub];omega
  rw [e]
  rcases sgn_cases (val B xs-val B ys) with ⟨h3,h4⟩| ⟨h3,h4⟩| ⟨h3,h4⟩
  ·rw [ih,h4,if_neg (by decide)]
   have:B*(val B xs-val B ys)<=B*(-1):=Int.mul_le_mul_of_nonneg_left (by omega) (by omega)
   unfold sgn
   rw [if_pos (by omega)]
  ·rw [ih,h4,if_pos rfl,h3]
   simp
  ·rw [ih,h4,if_neg (by decide)]
   have:B*1<=B*(val B xs-val B ys):=Int.mul_le_mul_of_nonneg_left (by omega) (by omega)
   unfold sgn
   rw [if_neg (by omega),if_neg (by omega)]
theorem φN (x y:Int): ∀{xs ys:List Int},xs.length=ys.length->ζN (xs++[x]) (ys++[y])=if x=y then ζN xs ys else sgn (x-y)
 | [],[],_=>by
  simp only [List.nil_append,ζN]
  by_cases h:x=y
  ·subst h;simp [sgn]
  ·simp [h]
 | [],b::ys,h=>absurd h (by simp)
 |a::xs,[],h=>absurd h (by simp)
 |a::xs,b::ys,h=>by
  have ih:=φN x y (xs:=xs) (ys:=ys) (by simpa using h)
  simp only [List.cons_append,ζN,ih]
  by_cases e:x=y
  ·simp [e]
  ·have:sgn (x-y)≠0:=by
    rcases sgn_cases (x-y) with ⟨_,h⟩| ⟨h0,_⟩| ⟨_,h⟩
    ·omega
    ·omega
    ·omega
   simp [e,this]
def ξ4 (xs ys:List Int):Int:=if xs.length=ys.length then ζN xs ys else if xs.length<ys.length then-1 else 1
theorem ψR (hB:0<B) (hx:ζv B xs) (hy:ζv B ys):ξ4 xs ys=sgn (val B xs-val B ys):=by
 unfold ξ4
 split
 ·rename_i h;exact χB hB hx.1 hy.1 h
 ·rename_i h
  split
  ·rename_i h'
   have:=ζ7 hB hx.1 hy h'
   unfold sgn
   rw [if_pos (by omega)]
  ·rename_i h'
   have:=ζ7 hB hy.1 hx (by omega)
   unfold sgn
   rw [if_neg (by omega),if_neg (by omega)]
theorem φO {k:Nat} (h:k<xs.length) (h':k<ys.length):ζN (xs.take (k+1)) (ys.take (k+1))=if xs.getD k 0=ys.getD k 0 then ζN (xs.take k) (ys.take k) else sgn (xs.getD k 0-ys.getD k 0):=by
 rw [List.take_succ_eq_append_getElem h,List.take_succ_eq_append_getElem h',φN _ _ (by rw [List.length_take,List.length_take];omega)]
 simp [List.getD_eq_getElem?_getD,h,h']
def ζw:List Int->List Int->List Int
 | [],ys=>ys
 |x::xs,[]=>x::xs
 |x::xs,y::ys=>(x+y)::ζw xs ys
theorem χW (B:Int): ∀xs ys:List Int,val B (ζw xs ys)=val B xs+val B ys
 | [],ys=>by simp [ζw,val]
 |x::xs,[]=>by simp [ζw,val]
 |x::xs,y::ys=>by
  simp only [ζw,val,χW B xs ys,Int.mul_add]
  omega
theorem θ6 {B:Int} (hB:0<B): ∀{xs ys:List Int},Dig B xs->Dig B ys-> ∀s,s∈ζw xs ys->0<=s∧s<=2*B-2
 | [],ys,_,hy,s,hs=>by have:=hy s hs;omega
 |x::xs,[],hx,_,s,hs=>by have:=hx s hs;omega
 |x::xs,y::ys,hx,hy,s,hs=>by
  rcases List.mem_cons.1 hs with rfl|hs
  ·have:=hx.head;have:=hy.head;omega
  ·exact θ6 hB hx.tail hy.tail s hs
theorem ωB {k:Nat} (h:k<xs.length∨k<ys.length):ζw (xs.drop k) (ys.drop k)=(xs.getD k 0+ys.getD k 0)::ζw (xs.drop (k+1)) (ys.drop (k+1)):=by
 by_cases h1:k<xs.length
 ·by_cases h2:k<ys.length
  ·rw [List.drop_eq_getElem_cons h1,List.drop_eq_getElem_cons h2]
   simp [ζw,List.getD_eq_getElem?_getD,h1,h2]
  ·rw [List.drop_eq_getElem_cons h1,List.drop_eq_nil_of_le (show ys.length<=k by omega),List.drop_eq_nil_of_le (show ys.length<=k+1 by omega)]
   rw [List.getD_eq_getElem?_getD,List.getD_eq_getElem?_getD,List.getElem?_eq_none (show ys.length<=k by omega),List.getElem?_eq_getElem h1]
   simp only [ζw,Option.getD_some,Option.getD_none,Int.add_zero]
   cases h:xs.drop (k+1)<;>simp [ζw]
 ·have h2:k<ys.length:=by omega
  rw [List.drop_eq_getElem_cons h2,List.drop_eq_nil_of_le (show xs.length<=k by omega),List.drop_eq_nil_of_le (show xs.length<=k+1 by omega)]
  rw [List.getD_eq_getElem?_getD,List.getD_eq_getElem?_getD,List.getElem?_eq_none (show xs.length<=k by omega),List.getElem?_eq_getElem h2]
  simp [ζw]
theorem φz (hB:1<B) {k:Nat} (h:k<xs.length∨k<ys.length∨0<c) (h0:0<=c) (h1:c<=1) (hs:s=xs.getD k 0+ys.getD k 0+c):
 ζr B (ζw (xs.drop k) (ys.drop k)) c=s%B::ζr B (ζw (xs.drop (k+1)) (ys.drop (k+1))) (s/B):=by
 by_cases hk:k<xs.length∨k<ys.length
 ·rw [ωB hk,hs]
  rfl
 ·have e1:xs.getD k 0=0:=by rw [List.getD_eq_getElem?_getD,List.getElem?_eq_none (by omega)];rfl
  have e2:ys.getD k 0=0:=by rw [List.getD_eq_getElem?_getD,List.getElem?_eq_none (by omega)];rfl
  have e3:s=1:=by omega
  have e4:c=1:=by omega
  rw [List.drop_eq_nil_of_le (show xs.length<=k by omega),List.drop_eq_nil_of_le (show ys.length<=k by omega),List.drop_eq_nil_of_le (show xs.length<=k+1 by omega),List.drop_eq_nil_of_le (show ys.length<=k+1 by omega),e3,e4]
  have e5:(1:Int)%B=1:=Int.emod_eq_of_lt (by decide) hB
  have e6:(1:Int)/B=0:=Int.ediv_eq_zero_of_lt (by decide) hB
  simp [ζw,ζr,e5,e6]
theorem τL (hB:1<B) (hx:Dig B xs) (hy:Dig B ys):Dig B (ζr B (ζw xs ys) 0):=by
 refine ωA (lo:=0) (hi:=1) (by omega) hB (Int.le_refl 0) _ _ (Int.le_refl 0) (by decide) ?_
 intro s hs c h0 h1
 have hb:=θ6 (by omega) hx hy s hs
 exact ⟨Int.ediv_nonneg (by omega) (by omega),by
  have:(s+c)/B<2:=Int.ediv_lt_of_lt_mul (by omega) (by omega)
  omega⟩
theorem ζ1 {B:Int} (hB:0<B): ∀{zs:List Int},Dig B zs->val B zs<B^zs.length
 | [],_=>by simp [val]
 |z::zs,h=>by
  have ih:=ζ1 hB h.tail
  have h1:=h.head
  have h2:B*(val B zs+1)<=B*B^zs.length:=Int.mul_le_mul_of_nonneg_left (by omega) (by omega)
  rw [Int.mul_add] at h2
  simp only [val,List.length_cons,Int.pow_succ]
  rw [Int.mul_comm (B^zs.length) B]
  omega
def ζi (B:Int):List Int->Int->List Int
 | [],_=>[]
 |s::ss,c=>(s+c)%B::ζi B ss ((s+c)/B)
def ζp (B:Int):List Int->Int->Int
 | [],c=>c
 |s::ss,c=>ζp B ss ((s+c)/B)
theorem ζQ (B:Int): ∀(ss:List Int) (c:Int),(ζi B ss c).length=ss.length
 | [],_=>rfl
 |s::ss,c=>by simp only [ζi,List.length_cons,ζQ B ss]
theorem φa (B:Int): ∀(ss:List Int) (c:Int),val B (ζi B ss c)+B^ss.length*ζp B ss c=val B ss+c
 | [],c=>by simp [ζi,ζp,val]
 |s::ss,c=>by
  have ih:=φa B ss ((s+c)/B)
  have:=Int.emod_add_mul_ediv (s+c) B
  simp only [ζi,ζp,val,List.length_cons,Int.pow_succ]
  have e:B^ss.length*B*ζp B ss ((s+c)/B)=B*(B^ss.length*ζp B ss ((s+c)/B)):=by
   rw [Int.mul_comm (B^ss.length) B,Int.mul_assoc]
  rw [e]
  have e2:B*(val B (ζi B ss ((s+c)/B))+B^ss.length*ζp B ss ((s+c)/B))=B*(val B ss+(s+c)/B):=by rw [ih]
  rw [Int.mul_add,Int.mul_add] at e2
  omega
theorem ζ2 {B:Int} (hB:0<B): ∀(ss:List Int) (c:Int),Dig B (ζi B ss c)
 | [],_=>Dig.nil B
 |s::ss,c=>Dig.cons (Int.emod_nonneg _ (by omega)) (Int.emod_lt_of_pos _ hB) (ζ2 hB ss _)
theorem φb {B lo hi:Int}: ∀(ss:List Int) (c:Int),lo<=c->c<=hi->(∀s,s∈ss-> ∀c,lo<=c->c<=hi->lo<=(s+c)/B∧(s+c)/B<=hi)->lo<=ζp B ss c∧ζp B ss c<=hi
 | [],c,h0,h1,_=>⟨h0,h1⟩
 |s::ss,c,h0,h1,h=>by
  have h2:=h s List.mem_cons_self c h0 h1
  exact φb ss _ h2.1 h2.2 (fun s' hs'=>h s' (List.mem_cons_of_mem _ hs'))
def ζn:List Int->List Int->List Int
 | [],_=>[]
 |x::xs,[]=>x::xs
 |x::xs,y::ys=>(x-y)::ζn xs ys
theorem ξ9: ∀xs ys:List Int,(ζn xs ys).length=xs.length
 | [],_=>by simp [ζn]
 |x::xs,[]=>by simp [ζn]
 |x::xs,y::ys=>by simp only [ζn,List.length_cons,ξ9 xs ys]
theorem ωC (B:Int): ∀xs ys:List Int,ys.length<=xs.length->val B (ζn xs ys)=val B xs-val B ys
 | [],[],_=>by simp [ζn,val]
 | [],y::ys,h=>absurd h (by simp)
 |x::xs,[],_=>by simp [ζn,val]
 |x::xs,y::ys,h=>by
  simp only [ζn,val,ωC B xs ys (by simpa using h),Int.mul_sub]
  omega
theorem ωD {B:Int} (hB:0<B): ∀{xs ys:List Int},Dig B xs->Dig B ys-> ∀s,s∈ζn xs ys->1-B<=s∧s<=B-1
 | [],ys,_,_,s,hs=>by simp [ζn] at hs
 |x::xs,[],hx,_,s,hs=>by have:=hx s hs;omega
 |x::xs,y::ys,hx,hy,s,hs=>by
  rcases List.mem_cons.1 hs with rfl|hs
  ·have:=hx.head;have:=hy.head;omega
  ·exact ωD hB hx.tail hy.tail s hs
theorem ηN {k:Nat} (h1:k<xs.length):ζn (xs.drop k) (ys.drop k)=(xs.getD k 0-ys.getD k 0)::ζn (xs.drop (k+1)) (ys.drop (k+1)):=by
 by_cases h2:k<ys.length
 ·rw [List.drop_eq_getElem_cons h1,List.drop_eq_getElem_cons h2]
  simp [ζn,List.getD_eq_getElem?_getD,h1,h2]
 ·rw [List.drop_eq_getElem_cons h1,List.drop_eq_nil_of_le (show ys.length<=k by omega),List.drop_eq_nil_of_le (show ys.length<=k+1 by omega)]
  rw [List.getD_eq_getElem?_getD,List.getD_eq_getElem?_getD,List.getElem?_eq_none (show ys.length<=k by omega),List.getElem?_eq_getElem h1]
  simp only [ζn,Option.getD_some,Option.getD_none,Int.sub_zero]
  cases h:xs.drop (k+1)<;>simp [ζn]
theorem ξE {k:Nat} (h:k<xs.length) (hs:s=xs.getD k 0-ys.getD k 0+c):
 ζi B (ζn (xs.drop k) (ys.drop k)) c=s%B::ζi B (ζn (xs.drop (k+1)) (ys.drop (k+1))) (s/B):=by
 rw [ηN h,hs]
 rfl
theorem θs (hB:1<B) (hx:Dig B xs) (hy:Dig B ys) (hl:ys.length<=xs.length) (hv:val B ys<=val B xs):val B (ζi B (ζn xs ys) 0)=val B xs-val B ys:=by
 have h:=φa B (ζn xs ys) 0
 rw [ωC B xs ys hl] at h
 have ho:=φb (B:=B) (lo:= -1) (hi:=0) (ζn xs ys) 0 (by decide) (by decide) (by
  intro s hs c h0 h1
  have hb:=ωD (by omega) hx hy s hs
  constructor
  ·have: -1<=(s+c)/B:=(Int.le_ediv_iff_mul_le (by omega)).2 (by omega)
   exact this
  ·have:(s+c)/B<1:=Int.ediv_lt_of_lt_mul (by omega) (by omega)
   omega)
 have hlt:=ζ1 (B:=B) (by omega) (ζ2 (by omega) (ζn xs ys) 0)
 rw [ζQ] at hlt
 have:ζp B (ζn xs ys) 0=0:=by
  rcases Int.lt_or_eq_of_le ho.2 with h1|h1
  ·have e:ζp B (ζn xs ys) 0= -1:=by omega
   rw [e] at h
   omega
  ·exact h1
 rw [this] at h
 omega
theorem φr {k:Nat} (h:k<xs.length∨k<ys.length) (hs:s=xs.getD k 0+ys.getD k 0+c):
 ζi B (ζw (xs.drop k) (ys.drop k)) c=s%B::ζi B (ζw (xs.drop (k+1)) (ys.drop (k+1))) (s/B)∧ζp B (ζw (xs.drop k) (ys.drop k)) c=ζp B (ζw (xs.drop (k+1)) (ys.drop (k+1))) (s/B):=by
 rw [ωB h,hs]
 exact ⟨rfl,rfl⟩
theorem ξV (B:Int) (ss:List Int) (c:Int):val B (ζi B ss c++[ζp B ss c])=val B ss+c:=by
 rw [ζI,ζQ]
 have:=φa B ss c
 simp only [val,Int.mul_zero,Int.add_zero]
 exact this
theorem φs {B:Int}: ∀(ss:List Int) (c:Int),(ζr B ss c).length<=ss.length+1
 | [],c=>by simp only [ζr];split<;>simp
 |s::ss,c=>by simp only [ζr,List.length_cons];have:=φs (B:=B) ss ((s+c)/B);omega
theorem φP: ∀xs ys:List Int,(ζw xs ys).length<=xs.length+ys.length
 | [],ys=>by simp [ζw]
 |x::xs,[]=>by simp [ζw]
 |x::xs,y::ys=>by simp only [ζw,List.length_cons];have:=φP xs ys;omega
end Go.Proofs.YtfieffpobgcpmaaGreatDoor
