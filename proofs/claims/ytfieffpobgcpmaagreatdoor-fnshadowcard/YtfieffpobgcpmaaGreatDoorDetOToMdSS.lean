import Derived.Test.YtfieffpobgcpmaaGreatDoorDy1ToRkBS
import Derived.Test.YtfieffpobgcpmaaGreatDoorDyN2ToEsFS
import Derived.Deep.CutRange
import Derived.Maps.AppendAt
import Derived.Test.YtfieffpobgcpmaaGreatDoorSpecEToDy1hS
import Derived.Test.YtfieffpobgcpmaaGreatDoorDy2NumDNumFNumGS
import Derived.Test.YtfieffpobgcpmaaGreatDoorBoxToNumSS
import Derived.Test.YtfieffpobgcpmaaGreatDoorNumZToSpecOS
import Derived.Test.YtfieffpobgcpmaaGreatDoorImplEImplNgImplNNumMImplMS
import Derived.Test.YtfieffpobgcpmaaGreatDoorWiGToMdAS
import Derived.Test.YtfieffpobgcpmaaGreatDoorHoBLwALwBS
import Derived.Test.YtfieffpobgcpmaaGreatDoorEsBToImplOS
import Derived.Test.YtfieffpobgcpmaaGreatDoorBgIBgJBhACsASh0S
set_option maxRecDepth 100000
set_option maxHeartbeats 32000000
namespace Go.Proofs.YtfieffpobgcpmaaGreatDoor
open Go.RowKit Go.Proofs.Tryz
section
variable {wr W W' : World} {P : Nat} {g : Bool} {a : Option Addr} {c : Nat} {fs : List Int} {m e : Int}
end
def LV.cells (l:LV):List Value:=[.bool l.g,.slice l.a l.fs l.c,.int .i64 l.e]
def ψo (ls:List LV):List Value:=ls.flatMap LV.cells
theorem ψy: ∀(ls:List LV) (i j:Nat),i<ls.length->j<3->(ψo ls)[i*3+j]? =(ls.getD i default).cells[j]?
 | [],i,j,h,_=>absurd h (by simp)
 |l::ls,0,j,_,hj=>by
  simp only [ψo,List.flatMap_cons,List.getD_cons_zero,Nat.zero_mul,Nat.zero_add]
  rw [List.getElem?_append_left (by simpa [LV.cells] using hj)]
 |l::ls,i+1,j,h,hj=>by
  have:=ψy ls i j (by simpa using h) hj
  simp only [ψo,List.flatMap_cons,List.getD_cons_succ] at this⊢
  rw [List.getElem?_append_right (by simp [LV.cells];omega),<-this]
  congr 1
  simp [LV.cells]
  omega
def τj (v:Value) (a:Option Addr) (fs:List Int):Prop:= ∀b o,a=some ⟨b,o,none⟩->fs≠[]->v.ownBlock≠some b
theorem L1.stay {w w':World} {v:Value} {g:Bool} {a:Option Addr} {c:Nat} {ds:List Int} {x:Int} (h:L1 w g a c ds x) (ho:τj v a ds) (hs:w.heap.size<=w'.heap.size) (hk: ∀j,j<w.heap.size->v.ownBlock≠some j->w'.heap[j]? =w.heap[j]?):L1 w' g a c ds x:=by
 refine ⟨⟨h.sl.fits,h.sl.nil,?_⟩,h.can,h.num,h.zero,h.cap⟩
 rcases h.sl.row with h| ⟨b,off,h1,h2,h3⟩
 ·exact .inl h
 ·by_cases hd:ds=[]
  ·exact .inl hd
  ·have hb:=ho b off h1 hd
   refine .inr ⟨b,off,h1,by omega,fun j hj=> ?_⟩
   rw [World.cell?_of_block (w:=w) (hk b h2 hb)]
   exact h3 j hj
theorem getD_snoc (ls:List LV) (l:LV) (i:Nat) (hi:i<(ls++[l]).length):(i<ls.length∧(ls++[l]).getD i default=ls.getD i default)∨(i=ls.length∧(ls++[l]).getD i default=l):=by
 by_cases h:i<ls.length
 ·exact .inl ⟨h,by simp [List.getD_eq_getElem?_getD,List.getElem?_append_left h]⟩
 ·have:i=ls.length:=by simp at hi;omega
  subst this
  exact .inr ⟨rfl,by simp [List.getD_eq_getElem?_getD]⟩
theorem info_l2dy:(prog.info? 176).map (fun i=>(i.zero,i.size,i.bytes))=some (some (.agg #[false,(),.int .i64 0]),3,40):=by kernel_rfl
structure χx (w:World) (base:Nat) (e:TypeId) (sz:Nat) (v:Value) (n:Nat) (cs:List Value) (ls:List LV) (W:World):Prop where
 own:W.ownsRow base e sz v n cs
 l1: ∀l∈ls,L1 W l.g l.a l.c l.fs l.m
 off: ∀l∈ls,τj v l.a l.fs
 bel:Below base w W
 ge:base<=W.heap.size
theorem φn {w:World} {base sz:Nat} {e:TypeId} {v:Value} {n:Nat} {xs:List Value} (h:w.ownsRow base e sz v n xs) {j:Nat} (hj:v.ownBlock=some j):j<w.heap.size∧base<=j:=by
 rcases h.2 with ⟨h1,_⟩| ⟨g,cap,cur,h1,h2,h3,h4⟩
 ·rw [h1] at hj;simp [Value.ownBlock] at hj
 ·rw [h1] at hj
  simp [Value.ownBlock] at hj
  subst hj
  refine ⟨?_,h2⟩
  by_cases hp:g<w.heap.size
  ·exact hp
  ·rw [Array.getElem?_eq_none (by omega)] at h3;cases h3
theorem ρp {w w':World} {base sz:Nat} {e:TypeId} {v:Value} {n:Nat} {xs:List Value} (h:w.ownsRow base e sz v n xs) (hb:Below w w w'):w'.ownsRow base e sz v n xs:=by
 refine ⟨h.1,?_⟩
 rcases h.2 with h1| ⟨g,cap,cur,h1,h2,h3,h4⟩
 ·exact .inl h1
 ·have hg:g<w.heap.size:=by
   by_cases hp:g<w.heap.size
   ·exact hp
   ·rw [Array.getElem?_eq_none (by omega)] at h3;cases h3
  exact .inr ⟨g,cap,cur,h1,h2,(hb.block g hg).trans h3,h4⟩
theorem χx.later {w W W':World} {base sz:Nat} {e:TypeId} {v:Value} {n:Nat} {cs:List Value} {ls:List LV} (h:χx w base e sz v n cs ls W) (hb:Below W W W'):χx w base e sz v n cs ls W':=
 ⟨ρp h.own hb,fun l hl=>(h.l1 l hl).later hb,h.off,h.bel.trans (hb.mono h.ge),Nat.le_trans h.ge hb.size⟩
theorem χx.start (w W:World) (base sz:Nat) (e:TypeId) (hb:Below base w W) (hg:base<=W.heap.size):χx w base e sz () 0 [] [] W:=
 ⟨World.ownsRow_nil _ _ _ _,fun _ hl=>absurd hl (by simp),fun _ hl=>absurd hl (by simp),hb,hg⟩
theorem ηI (b j:Nat):(⟨b,0,none⟩:Addr).add j=⟨b,0+j,none⟩:=by
 by_cases h:j=0<;>simp [Addr.add,h]
theorem χx.cells {w W:World} {base sz:Nat} {e:TypeId} {v:Value} {n:Nat} {cs:List Value} {ls:List LV} (h:χx w base e sz v n cs ls W) (hn:n≠0): ∃b c,v= .slice (some ⟨b,0,none⟩) n c∧base<=b∧b<W.heap.size∧ ∀j u,cs[j]? =some u->W.cell? ⟨b,0+j,none⟩=some u:=by
 rcases h.own.2 with ⟨_,h2⟩| ⟨g,cap,cur,h1,h2,h3,h4⟩
 ·exact absurd h2 hn
 ·refine ⟨g,cap,h1,h2,?_,fun j u hj=> ?_⟩
  ·by_cases hp:g<W.heap.size
   ·exact hp
   ·rw [Array.getElem?_eq_none (by omega)] at h3;cases h3
  ·have h5:=h.own.cells (g:=g) (by rw [h1];rfl) j u hj
   rw [ηI] at h5
   exact h5
theorem Far.offV {W:World} {base sz:Nat} {e:TypeId} {v:Value} {n:Nat} {xs:List Value} {B:Nat} {a:Option Addr} {fs:List Int} (h:Far B a fs) (ho:W.ownsRow base e sz v n xs) (hB:W.heap.size<=B):τj v a fs:=by
 intro b o h1 h2 h3
 rcases h with h| ⟨b',o',h4,h5⟩
 ·exact h2 h
 ·rw [h1] at h4
  injection h4 with h4
  have:b=b':=congrArg Addr.block h4
  have:=(φn ho h3).1
  omega
theorem runN {w W:World} (t ty e:TypeId) (z:Value) (sz bytes:Nat) (ht:prog.underlying t=some (.slice e)) (hinfo:(prog.info? e).map (fun i=>(i.zero,i.size,i.bytes))=some (some z,sz,bytes)) (hzs:z.cells.size=sz) (hsz:0<sz)
 (base:Nat) (sv:Value) (n m c:Nat) (cs news:List Value) (ls ls':List LV) (b:Nat) (hall:χx w base e sz sv n cs ls W)
 (hl: ∀l∈ls',L1 W l.g l.a l.c l.fs l.m) (hoff: ∀l∈ls',τj sv l.a l.fs) (hlen:news.length=m*sz) (hnews: ∀j u,news[j]? =some u->W.cell? ⟨b,0+j,none⟩=some u) (h1: ∀u∈news,u.oneCell'=true) (hn:n+m<=maxLen) (hby:(n+m)*bytes<=140737488355328):
 ∃a' n' c' w',(Builtin.append_ #[t,t] ty #[sv,.slice (some ⟨b,0,none⟩) m c]).run prog W= .ok (.slice a' n' c') w'∧χx w base e sz (.slice a' n' c') (n+m) (cs++news) (ls++ls') w'∧W.heap.size<=w'.heap.size∧(∀j,j<W.heap.size->sv.ownBlock≠some j->w'.heap[j]? =W.heap[j]?):=by
 obtain ⟨i0,hi,hz0,hz1,hz2⟩:=info_parts hinfo
 obtain ⟨v',w',hr,hown',hgrow,_,hwhere⟩:=run_append_own_at (P:=prog) W base t ty e i0 _ sz bytes ht hi hz0 hz1 hz2 hzs hsz sv n cs hall.own ⟨b,0,none⟩ m c news hlen (by
  intro j u hj
  rw [ηI]
  exact hnews j u hj) h1 hn hby hall.ge
 obtain ⟨a',n',c',rfl⟩: ∃a' n' c',v'= .slice a' n' c':=by
  rcases hown'.2 with ⟨h1,_⟩| ⟨g,cap,cur,h1,_⟩
  ·exact ⟨_,_,_,h1⟩
  ·exact ⟨_,_,_,h1⟩
 have hsz:W.heap.size<=w'.heap.size:=hgrow.size
 have hk: ∀j,j<W.heap.size->sv.ownBlock≠some j->w'.heap[j]? =W.heap[j]? :=by
  intro j hj hne
  exact hgrow.block j hj (fun e=>hne e.symm)
 have hov: ∀(b:Nat),b<W.heap.size->sv.ownBlock≠some b->(Value.slice a' n' c').ownBlock≠some b:=by
  intro b hb hne he
  rcases hwhere with hw|hw
  ·exact hne (hw▸he)
  ·rw [hw] at he
   injection he with he
   omega
 have lift: ∀(g:Bool) (a:Option Addr) (c:Nat) (fs:List Int) (m:Int),L1 W g a c fs m->τj sv a fs->L1 w' g a c fs m∧τj (.slice a' n' c') a fs:=by
  intro g a c fs m hL hO
  refine ⟨hL.stay hO (by omega) hk,fun b o h1 h2=> ?_⟩
  refine hov b ?_ (hO b o h1 h2)
  rcases hL.sl.row with hr| ⟨b',o',h3,h4,_⟩
  ·exact absurd hr h2
  ·rw [h1] at h3
   injection h3 with h3
   have:b=b':=congrArg Addr.block h3
   omega
 refine ⟨a',n',c',w',hr,⟨hown',?_,?_,?_,?_⟩,hsz,hk⟩
 ·intro l hm
  rcases List.mem_append.mp hm with hm|hm
  ·exact (lift _ _ _ _ _ (hall.l1 l hm) (hall.off l hm)).1
  ·exact (lift _ _ _ _ _ (hl l hm) (hoff l hm)).1
 ·intro l hm
  rcases List.mem_append.mp hm with hm|hm
  ·exact (lift _ _ _ _ _ (hall.l1 l hm) (hall.off l hm)).2
  ·exact (lift _ _ _ _ _ (hl l hm) (hoff l hm)).2
 ·refine hall.bel.grown hgrow hall.ge ?_
  intro kk hkk
  exact (φn hall.own hkk).2
 ·exact Nat.le_trans hall.ge hsz
theorem appW {w W:World} {o:Oper} {a:Act} {K:Act->World->Prop} {Q:Exit->Act->World->Prop} (s x:Operand) (t e:TypeId) (z:Value) (sz bytes:Nat) (ht:prog.underlying t=some (.slice e)) (hinfo:(prog.info? e).map (fun i=>(i.zero,i.size,i.bytes))=some (some z,sz,bytes)) (hzs:z.cells.size=sz) (hsz:0<sz)
 (ho:o.op= .call {callee:= .builtin .append,args:=#[s,x],argTypes:=#[t,t]})
 (base:Nat) (sv:Value) (n m c:Nat) (cs news:List Value) (ls ls':List LV) (b:Nat) (hs:a.eval s=sv) (hx:a.eval x= .slice (some ⟨b,0,none⟩) m c) (hall:χx w base e sz sv n cs ls W)
 (hl: ∀l∈ls',L1 W l.g l.a l.c l.fs l.m) (hoff: ∀l∈ls',τj sv l.a l.fs) (hlen:news.length=m*sz) (hnews: ∀j u,news[j]? =some u->W.cell? ⟨b,0+j,none⟩=some u) (h1: ∀u∈news,u.oneCell'=true) (hn:n+m<=maxLen) (hby:(n+m)*bytes<=140737488355328)
 (h: ∀a' n' c' w',χx w base e sz (.slice a' n' c') (n+m) (cs++news) (ls++ls') w'->W.heap.size<=w'.heap.size->(∀j,j<W.heap.size->sv.ownBlock≠some j->w'.heap[j]? =W.heap[j]?)->K (a.put o.dst (.slice a' n' c')) w'):
 o.wp prog a W K Q:=by
 obtain ⟨a',n',c',w',hr,h2,h3,h4⟩:=runN t o.type e z sz bytes ht hinfo hzs hsz base sv n m c cs news ls ls' b hall hl hoff hlen hnews h1 hn hby
 unfold Oper.wp execOp
 simp only [ho,resolve,invoke,builtin,Sem.run_bind,Sem.run_pure,Result.andThen_ok,List.map_toArray,List.map_cons,List.map_nil,hs,hx,hr]
 exact h a' n' c' w' h2 h3 h4
theorem appN {w W:World} {ops:Array Oper} {rest:List Oper} {o:Oper} {a:Act} {Q:Exit->Act->World->Prop} (hgd:o.guard=none) (s x:Operand) (t e:TypeId) (z:Value) (sz bytes:Nat) (ht:prog.underlying t=some (.slice e)) (hinfo:(prog.info? e).map (fun i=>(i.zero,i.size,i.bytes))=some (some z,sz,bytes)) (hzs:z.cells.size=sz) (hsz:0<sz)
 (ho:o.op= .call {callee:= .builtin .append,args:=#[s,x],argTypes:=#[t,t]})
 (base:Nat) (sv:Value) (n m c:Nat) (cs news:List Value) (ls ls':List LV) (b:Nat) (hs:a.eval s=sv) (hx:a.eval x= .slice (some ⟨b,0,none⟩) m c) (hall:χx w base e sz sv n cs ls W)
 (hl: ∀l∈ls',L1 W l.g l.a l.c l.fs l.m) (hoff: ∀l∈ls',τj sv l.a l.fs) (hlen:news.length=m*sz) (hnews: ∀j u,news[j]? =some u->W.cell? ⟨b,0+j,none⟩=some u) (h1: ∀u∈news,u.oneCell'=true) (hn:n+m<=maxLen) (hby:(n+m)*bytes<=140737488355328)
 (h: ∀a' n' c' w',χx w base e sz (.slice a' n' c') (n+m) (cs++news) (ls++ls') w'->wpList prog ops Q rest (a.put o.dst (.slice a' n' c')) w'):
 wpList prog ops Q (o::rest) a W:=by
 refine wpList_plain hgd fun K hK=> ?_
 exact appW s x t e z sz bytes ht hinfo hzs hsz ho base sv n m c cs news ls ls' b hs hx hall hl hoff hlen hnews h1 hn hby fun a' n' c' w' h2 _ _=>hK _ _ (h a' n' c' w' h2)
def ηJ (V:Int):List Int:=if V=0 then [] else if V<65536 then [V] else [V%65536,V/65536]
theorem σV {w:World} {g:Bool} {a:Option Addr} {c:Nat} {v V:Int} (h0:0<=V) (h1:V<4294967296) (hv:v=sg g V) (hg:g=true->V≠0) (hc:c<=maxLen) (h:Sl .i64 w a c (ηJ V)):L1 w g a c (ηJ V) v:=by
 by_cases hz:V=0
 ·have e:ηJ V=[]:=by unfold ηJ;rw [if_pos hz]
  rw [e] at h⊢
  exact ⟨h,⟨Dig.nil _,rfl⟩,by rw [hv,hz];rfl,fun h2=>absurd hz (hg h2),hc⟩
 ·by_cases hs:V<65536
  ·have e:ηJ V=[V]:=by unfold ηJ;rw [if_neg hz,if_pos hs]
   rw [e] at h⊢
   exact ⟨h,⟨Dig.cons h0 hs (Dig.nil _),by simp [trimL,hz]⟩,by rw [hv];simp [val],by simp,hc⟩
  ·have e:ηJ V=[V%65536,V/65536]:=by unfold ηJ;rw [if_neg hz,if_neg hs]
   have hq:V/65536≠0:=by omega
   rw [e] at h⊢
   exact ⟨h,⟨Dig.cons (by omega) (by omega) (Dig.cons (by omega) (by omega) (Dig.nil _)),by simp [trimL,hq]⟩,by rw [hv];congr 1;simp [val];omega,by simp,hc⟩
def χr (w:World) (v:Int) (e:Ending) (w':World):Prop:=
 ∃(g:Bool) (a:Option Addr) (c:Nat) (ds:List Int),e= .returned (.agg #[g,.slice a ds c])∧ds.length<=2∧L1 w' g a c ds v∧Far (↑w+1) a ds∧Below w w w'
theorem ηK {n:Int} (h0:0<=n) (h1:n<9223372036854775808):IntKind.i64.wrap n=n:=by
 simp [IntKind.wrap,IntKind.bits,IntKind.signed]
 omega
theorem ρq (v:Int) (w:World) (h0:0<=v) (h1:v<4294967296):
 Calls prog 74 #[.int .i64 v] w fun e w'=>χr w v e w':=by
 obtain ⟨V,hV⟩: ∃V,V=v:=⟨_,rfl⟩
 have hV0:0<=V:=by omega
 have hV1:V<4294967296:=by omega
 have HVV:Hid (V=v):=hV
 clear hV
 go_enter func74,ntmps74
 go_wp2
 go_loopw [4,5] (fun su sd wr=> ∃(u:Int) (ys:List Int),su= .int .u64 u∧((u=V∧ys=[])∨(u=V/65536∧ys=[V%65536]∧0<V)∨(u=0∧ys=[V%65536,V/65536]∧65536<=V))∧wr.ownsRow (↑w+1) 3 1 sd ys.length (φc .i64 ys)∧Below (↑w+1) (w.alloc (.cells #[false,()] 72)) wr∧w.heap.size+1<=wr.heap.size) (fun su _ _=>(intOf su).toNat)
 case atStart=>exact ⟨V,[],by rw [HVV.out],.inl ⟨rfl,rfl⟩,ψF _ _ _ _,Below.refl _ _,by simp⟩
 case round=>
  obtain ⟨u,ys,rfl,hcase,hown,hnx,hsz⟩:=hrel
  have hu0:0<=u:=by omega
  have hu1:u<4294967296:=by omega
  by_cases hu:0<u
  ·have E1:Hid (IntKind.i64.wrap (u%65536)=u%65536):=ηK (by omega) (by omega)
   rcases hcase with ⟨hc1,hc2⟩| ⟨hc1,hc2,hc3⟩| ⟨hc1,_,_⟩
   ·subst hc2
    have HC:Hid (_=_):=hc1
    clear hc1
    go_wp2_with (at_builtin;refine ωF rfl (.tmp 15) (.tmp 19) 66 rfl (↑w+1) 3 underlying66 Tryz.info3 (by decide) _ _ rfl rfl hown (by simp) hsz ?_;intro a1 n1 c1 w1 hown1 hb1 hs1)
    go_roundw
    case rel=>exact ⟨u/65536,[u%65536],rfl,.inr (.inl ⟨by rw [HC.out],by rw [HC.out],by have:=HC.out;omega⟩),hown1,hnx.trans hb1,by omega⟩
    case measure=>simp only [intOf];omega
   ·subst hc2
    have HC:Hid (_=_):=hc1
    clear hc1
    go_wp2_with (at_builtin;refine ωF rfl (.tmp 15) (.tmp 19) 66 rfl (↑w+1) 3 underlying66 Tryz.info3 (by decide) _ _ rfl rfl hown (by simp) hsz ?_;intro a1 n1 c1 w1 hown1 hb1 hs1)
    go_roundw
    case rel=>exact ⟨u/65536,[V%65536,u%65536],rfl,.inr (.inr ⟨by have:=HC.out;omega,by have:=HC.out;have e:u%65536=V/65536:=(by omega);rw [e],by have:=HC.out;omega⟩),hown1,hnx.trans hb1,by omega⟩
    case measure=>simp only [intOf];omega
   ·omega
  ·have hu00:u=0:=by omega
   subst hu00
   have hys:ys=ηJ V:=by
    unfold ηJ
    rcases hcase with ⟨hc1,hc2⟩| ⟨hc1,hc2,hc3⟩| ⟨hc1,hc2,hc3⟩
    ·rw [hc2,if_pos hc1.symm]
    ·rw [hc2,if_neg (by omega),if_pos (by omega),Int.emod_eq_of_lt (by omega) (by omega)]
    ·rw [hc2,if_neg (by omega),if_neg (by omega)]
   obtain ⟨a',c',rfl,hcm,hsl,hrn⟩:=ψa hown
   have r1:wr.cell? ⟨w,0,none⟩=some ↑false:=by rw [hnx.cell (by simp)];simp [go_sem]
   have r2:wr.cell? ⟨w,1,none⟩=some ↑():=by rw [hnx.cell (by simp)];simp [go_sem]
   have r3: ∀j,wr.frozen? ⟨w,j,none⟩=false:=by intro j;rw [hnx.frozen (by simp)];simp [go_sem]
   have HF:Hid (Far (↑w+1) a' ys):=hrn.far (Nat.le_refl _) (Nat.le_refl _)
   have HL:Hid (L1 wr false a' c' ys v):=by unfold Hid;rw [hys] at hsl⊢;exact σV hV0 hV1 (by have:=HVV.out;simp [sg];omega) (by intro h;cases h) hcm hsl
   have HB:Hid (Below w w wr):=(ζc _ _).trans (hnx.mono (by omega))
   have hyl:ys.length<=2:=by rw [hys];unfold ηJ;split<;>(try split)<;>simp
   clear hown hnx hsl hrn hcase hys
   go_wp2
   refine bodyPost_ret (v:= .agg #[false,.slice a' ys c']) (by simp [results,results74,go_sem,r1,r2,h0]) rfl ?_
   refine ⟨false,a',c',ys,rfl,hyl,?_,HF.out,?_⟩
   ·exact (HL.out.setFar HF.out (by simp) _).setFar HF.out (by simp) _
   ·exact (HB.out.setCell (by simp) _).setCell (by simp) _
theorem ρr (v:Int) (w:World) (h0:v<0) (h1: -4294967296<v):
 Calls prog 74 #[.int .i64 v] w fun e w'=>χr w v e w':=by
 obtain ⟨V,hV⟩: ∃V,V= -v:=⟨_,rfl⟩
 have hV0:0<=V:=by omega
 have hV1:V<4294967296:=by omega
 have HVV:Hid (V= -v):=hV
 clear hV
 go_enter func74,ntmps74
 go_wp2
 go_loopw [4,5] (fun su sd wr=> ∃(u:Int) (ys:List Int),su= .int .u64 u∧((u=V∧ys=[])∨(u=V/65536∧ys=[V%65536]∧0<V)∨(u=0∧ys=[V%65536,V/65536]∧65536<=V))∧wr.ownsRow (↑w+1) 3 1 sd ys.length (φc .i64 ys)∧Below (↑w+1) (w.alloc (.cells #[false,()] 72)) wr∧w.heap.size+1<=wr.heap.size) (fun su _ _=>(intOf su).toNat)
 case atStart=>exact ⟨V,[],by rw [HVV.out];exact congrArg _ (by simp [IntKind.wrap,IntKind.bits,IntKind.signed];omega),.inl ⟨rfl,rfl⟩,ψF _ _ _ _,Below.refl _ _,by simp⟩
 case round=>
  obtain ⟨u,ys,rfl,hcase,hown,hnx,hsz⟩:=hrel
  have hu0:0<=u:=by omega
  have hu1:u<4294967296:=by omega
  by_cases hu:0<u
  ·have E1:Hid (IntKind.i64.wrap (u%65536)=u%65536):=ηK (by omega) (by omega)
   rcases hcase with ⟨hc1,hc2⟩| ⟨hc1,hc2,hc3⟩| ⟨hc1,_,_⟩
   ·subst hc2
    have HC:Hid (_=_):=hc1
    clear hc1
    go_wp2_with (at_builtin;refine ωF rfl (.tmp 15) (.tmp 19) 66 rfl (↑w+1) 3 underlying66 Tryz.info3 (by decide) _ _ rfl rfl hown (by simp) hsz ?_;intro a1 n1 c1 w1 hown1 hb1 hs1)
    go_roundw
    case rel=>exact ⟨u/65536,[u%65536],rfl,.inr (.inl ⟨by rw [HC.out],by rw [HC.out],by have:=HC.out;omega⟩),hown1,hnx.trans hb1,by omega⟩
    case measure=>simp only [intOf];omega
   ·subst hc2
    have HC:Hid (_=_):=hc1
    clear hc1
    go_wp2_with (at_builtin;refine ωF rfl (.tmp 15) (.tmp 19) 66 rfl (↑w+1) 3 underlying66 Tryz.info3 (by decide) _ _ rfl rfl hown (by simp) hsz ?_;intro a1 n1 c1 w1 hown1 hb1 hs1)
    go_roundw
    case rel=>exact ⟨u/65536,[V%65536,u%65536],rfl,.inr (.inr ⟨by have:=HC.out;omega,by have:=HC.out;have e:u%65536=V/65536:=(by omega);rw [e],by have:=HC.out;omega⟩),hown1,hnx.trans hb1,by omega⟩
    case measure=>simp only [intOf];omega
   ·omega
  ·have hu00:u=0:=by omega
   subst hu00
   have hys:ys=ηJ V:=by
    unfold ηJ
    rcases hcase with ⟨hc1,hc2⟩| ⟨hc1,hc2,hc3⟩| ⟨hc1,hc2,hc3⟩
    ·rw [hc2,if_pos hc1.symm]
    ·rw [hc2,if_neg (by omega),if_pos (by omega),Int.emod_eq_of_lt (by omega) (by omega)]
    ·rw [hc2,if_neg (by omega),if_neg (by omega)]
   obtain ⟨a',c',rfl,hcm,hsl,hrn⟩:=ψa hown
   have r1:wr.cell? ⟨w,0,none⟩=some ↑false:=by rw [hnx.cell (by simp)];simp [go_sem]
   have r2:wr.cell? ⟨w,1,none⟩=some ↑():=by rw [hnx.cell (by simp)];simp [go_sem]
   have r3: ∀j,wr.frozen? ⟨w,j,none⟩=false:=by intro j;rw [hnx.frozen (by simp)];simp [go_sem]
   have HF:Hid (Far (↑w+1) a' ys):=hrn.far (Nat.le_refl _) (Nat.le_refl _)
   have HL:Hid (L1 wr true a' c' ys v):=by unfold Hid;rw [hys] at hsl⊢;exact σV hV0 hV1 (by have:=HVV.out;simp [sg];omega) (by have:=HVV.out;intro _;omega) hcm hsl
   have HB:Hid (Below w w wr):=(ζc _ _).trans (hnx.mono (by omega))
   have hyl:ys.length<=2:=by rw [hys];unfold ηJ;split<;>(try split)<;>simp
   clear hown hnx hsl hrn hcase hys
   go_wp2
   refine bodyPost_ret (v:= .agg #[true,.slice a' ys c']) (by simp [results,results74,go_sem,r1,r2]) rfl ?_
   refine ⟨true,a',c',ys,rfl,hyl,?_,HF.out,?_⟩
   ·exact (HL.out.setFar HF.out (by simp) _).setFar HF.out (by simp) _
   ·exact (HB.out.setCell (by simp) _).setCell (by simp) _
theorem ρs (v:Int) (w:World) (h0: -4294967296<v) (h1:v<4294967296):
 Calls prog 74 #[.int .i64 v] w fun e w'=>χr w v e w':=by
 by_cases h:0<=v
 ·exact ρq v w h h1
 ·exact ρr v w (by omega) h0
theorem φo (b:Int) (w:World) (h0:0<=b) (h1:b<4294967296):
 Calls prog 112 #[b] w fun e w'=>ρF w 2 (ξ8 b) (ξd b-150) 32 e w':=by
 have hc:(0<b/8388608%256∧2147483648<=b∧Hid (-(b%8388608+8388608)=ξ8 b)∧Hid (b/8388608%256-150=ξd b-150))∨(0<b/8388608%256∧ ¬2147483648<=b∧Hid (b%8388608+8388608=ξ8 b)∧Hid (b/8388608%256-150=ξd b-150))∨(¬0<b/8388608%256∧2147483648<=b∧Hid (-(b%8388608)=ξ8 b)∧Hid (-149=ξd b-150))∨(¬0<b/8388608%256∧ ¬2147483648<=b∧Hid (b%8388608=ξ8 b)∧Hid (-149=ξd b-150)):=by
  by_cases hE:0<b/8388608%256<;>by_cases hS:2147483648<=b
  ·exact .inl ⟨hE,hS,by unfold Hid ξ8 ξf;rw [if_pos hS];rw [if_neg (by omega)],by unfold Hid ξd;rw [if_neg (by omega)]⟩
  ·exact .inr (.inl ⟨hE,hS,by unfold Hid ξ8 ξf;rw [if_neg (by omega)];rw [if_neg (by omega)],by unfold Hid ξd;rw [if_neg (by omega)]⟩)
  ·exact .inr (.inr (.inl ⟨hE,hS,by unfold Hid ξ8 ξf;rw [if_pos hS];rw [if_pos (by omega)],by unfold Hid ξd;rw [if_pos (by omega)];rfl⟩))
  ·exact .inr (.inr (.inr ⟨hE,hS,by unfold Hid ξ8 ξf;rw [if_neg (by omega)];rw [if_pos (by omega)],by unfold Hid ξd;rw [if_pos (by omega)];rfl⟩))
 rcases hc with ⟨hE,hS,HX,HY⟩| ⟨hE,hS,HX,HY⟩| ⟨hE,hS,HX,HY⟩| ⟨hE,hS,HX,HY⟩
 all_goals
  have HX1:Hid (-4294967296<ξ8 b∧ξ8 b<4294967296):=by
   unfold Hid
   rw [<-HX.out]
   omega
  have HY1:Hid (-150<=ξd b-150∧ξd b-150<=200):=by
   unfold Hid
   rw [<-HY.out]
   omega
  have HB0:Hid (∀t,χ9 w (w.alloc (.cells #[false,(),.int .i64 0] t))):=fun t=>χ9.new w t
  go_enter func112,ntmps112
  go_wp2_with fail
  rw [HX.out]
  refine (ρs (ξ8 b) _ HX1.out.1 HX1.out.2).mono ?_
  rintro e w1 ⟨g1,a1,c1,ds,rfl,hl1,hL1,hF1,hb1⟩
  have K1:Hid (χ9 w w1):=(HB0.out _).later hb1
  have B1:Hid (Below w w w1):=(ζc _ _).trans (hb1.mono (by simp))
  have HL1:Hid (L1 w1 g1 a1 c1 ds (ξ8 b)):=hL1
  clear hb1 hF1 hL1
  go_wp2_with fail
  rw [HY.out]
  refine (κg g1 a1 c1 ds _ _ _ (by omega) (by have:=HY1.out;omega) (by have:=HY1.out;omega) HL1.out).mono ?_
  rintro e w2 ⟨m,e',hnf,g2,a2,c2,fs,rfl,hl2,hL2,hF2,hb2⟩
  have K2:Hid (χ9 w w2):=K1.out.later hb2
  have B2:Hid (Below w w w2):=B1.out.trans (hb2.mono B1.out.size)
  have HL2:Hid (L1 w2 g2 a2 c2 fs m):=hL2
  have HF2:Hid (Far (↑w+1) a2 fs):=hF2.down K1.out.lt
  have HN:Hid (ξo (ξ8 b) (ξd b-150) m e' 32):=by
   rcases hnf with h| ⟨h1,t,h2,h3,h4,h5⟩
   ·exact .inl h
   ·exact .inr ⟨h1,t,h2,h3,h4,by omega⟩
  have r1:=K2.out.r1
  have r2:=K2.out.r2
  have r3:=K2.out.r3
  have r4:=K2.out.r4
  clear hL2 hF2 hb2 hnf HB0
  go_wp2
  refine bodyPost_ret (v:= .agg #[g2,.slice a2 fs c2,.int .i64 e']) (by simp [results,results112,go_sem,r1,r2,r3]) rfl ?_
  refine ⟨m,e',HN.out,g2,a2,c2,fs,rfl,by omega,?_,HF2.out.down (by omega),?_⟩
  ·exact ((HL2.out.setFar HF2.out (by simp) _).setFar HF2.out (by simp) _).setFar HF2.out (by simp) _
  ·exact ((B2.out.setCell (by simp) _).setCell (by simp) _).setCell (by simp) _
theorem halved {y t:Int} {n:Nat} (ht:t=y/2^n) (h0:0<t):2^n<=y∧t/2=y/2^(n+1):=by
 have hp:(0:Int)<2^n:=Int.pow_pos (by decide)
 constructor
 ·have h1:1<=y/2^n:=by omega
  have:=(Int.le_ediv_iff_mul_le hp).1 h1
  omega
 ·rw [ht,Int.ediv_ediv_of_nonneg (Int.le_of_lt hp),Int.pow_succ]
def CU (w:World) (pb:Nat) (bs:List Int):Prop:=pb<w.heap.size∧ ∀j,j<bs.length->w.cell? ⟨pb,j,none⟩=some (.int .u32 (bs.getD j 0))
theorem CU.later {w w':World} {pb:Nat} {bs:List Int} (h:CU w pb bs) (hb:Below w w w'):CU w' pb bs:=
 ⟨Nat.lt_of_lt_of_le h.1 hb.size,fun j hj=>(hb.cell (p:=⟨pb,j,none⟩) h.1).trans (h.2 j hj)⟩
def NmF (bs:List Int) (ls:List LV):Prop:= ∀j,j<ls.length->ξo (ξ8 (bs.getD j 0)) (ξd (bs.getD j 0)-150) (ls.getD j default).m (ls.getD j default).e 32∧(ls.getD j default).fs.length<=2
theorem NmF.nil (bs:List Int):NmF bs []:=fun j hj=>absurd hj (by simp)
theorem NmF.snoc {bs:List Int} {ls:List LV} (h:NmF bs ls) {l:LV} (hl:ξo (ξ8 (bs.getD ls.length 0)) (ξd (bs.getD ls.length 0)-150) l.m l.e 32) (hf:l.fs.length<=2):NmF bs (ls++[l]):=by
 intro j hj
 rcases getD_snoc ls l j hj with ⟨h1,h2⟩| ⟨h1,h2⟩
 ·rw [h2];exact h j h1
 ·rw [h2,h1];exact ⟨hl,hf⟩
def DyIs (K:Nat) (w:World) (v:Value) (b:Int):Prop:= ∃(g:Bool) (a:Option Addr) (c:Nat) (z:List Int) (m e:Int),v= .agg #[g,.slice a z c,.int .i64 e]∧ξo (ξ8 b) (ξd b-150) m e 32∧z.length<=2∧L1 w g a c z m∧Far K a z
theorem φp (b:Int) (K:Nat) (w:World) (h0:0<=b) (h1:b<4294967296) (hK:K<=w.heap.size):
 Calls prog 112 #[b] w fun o w'=> ∃v,o= .returned v∧DyIs K w' v b∧Below w w w':=by
 refine (φo b w h0 h1).mono ?_
 rintro o w' ⟨m,e,hN,g,a,c,z,rfl,hl,hL,hF,hb⟩
 exact ⟨_,rfl,⟨g,a,c,z,m,e,rfl,hN,hl,hL,hF.down hK⟩,hb⟩
theorem χs {b m e L:Int} (h0:0<=b) (h:ξo (ξ8 b) (ξd b-150) m e 32) (hL:L<=e) (hL2: -149<=L):m*2^(e-L).toNat*2^(L+149).toNat=cor b:=by
 unfold cor
 have hx:=(ζ8 h0).1
 rcases h with ⟨h1,h2,h3⟩| ⟨h1,t,h2,h3,_,_⟩
 ·rw [h1,h2];simp
 ·rw [h2,Int.mul_assoc,Int.mul_assoc,<-Int.pow_add,<-Int.pow_add]
  congr 2
  omega
theorem φJ {b m e:Int} (h0:0<=b) (h:ξo (ξ8 b) (ξd b-150) m e 32): -149<=e∧e<=137:=by
 have hx:=ζ8 h0
 rcases h with ⟨h1,h2,h3⟩| ⟨h1,t,h2,h3,_,h5⟩<;>omega
def LIs (K:Nat) (w:World) (v:Value) (n:Nat) (x:Int):Prop:= ∃(g:Bool) (a:Option Addr) (c:Nat) (z:List Int),v= .agg #[g,.slice a z c]∧L1 w g a c z x∧z.length<=n∧Far K a z
theorem θ3 (g:Bool) (a:Option Addr) (c:Nat) (z:List Int) (x t:Int) (K:Nat) (w:World) (hn:z.length<=2) (h0:0<=t) (h1:t<=290) (hK:K<=w.heap.size) (h:L1 w g a c z x):
 Calls prog 73 #[.agg #[g,.slice a z c],.int .i64 t] w fun o w'=> ∃v,o= .returned v∧LIs K w' v 21 (x*2^t.toNat)∧Below w w w':=by
 refine (ρB g a c z x t w (by omega) h0 (by omega) h).mono ?_
 rintro o w' ⟨g',a',c',z',rfl,hl,hL,hF,hb⟩
 exact ⟨_,rfl,⟨g',a',c',z',rfl,hL,by omega,hF.down hK⟩,hb⟩
theorem L1.setNo {w:World} {g:Bool} {a:Option Addr} {c:Nat} {ds:List Int} {x:Int} {b i:Nat} {u:Value} (h1:L1 w g a c ds x) (hn:ζf w b):L1 (w.setCell ⟨b,i,none⟩ u) g a c ds x:=by
 refine ⟨⟨h1.sl.fits,h1.sl.nil,?_⟩,h1.can,h1.num,h1.zero,h1.cap⟩
 rcases h1.sl.row with h3| ⟨q,off,rfl,hq,hc⟩
 ·exact .inl h3
 ·by_cases hz:ds.length=0
  ·exact .inl (List.eq_nil_of_length_eq_zero hz)
  ·refine .inr ⟨q,off,rfl,by simpa using hq,fun j hj=> ?_⟩
   have hne:q≠b:=by
    intro hqb
    subst hqb
    exact hn.2 _ _ _ (hc 0 (by omega))
   rw [World.cell?_setCell_other _ _ _ _ (by intro hh;apply hne;have:=congrArg Addr.block hh;simp at this;exact this.symm)]
   exact hc j hj
structure NwL (W0:World) (P:Nat) (g:Bool) (a:Option Addr) (c:Nat) (z:List Int) (x:Int) (W:World):Prop where
 bx:Cs W P [g,.slice a z c]
 l:L1 W g a c z x
 n:z.length<=21
 f:Far W0 a z
 le:W0.heap.size<=P
 bel:Below W0 W0 W
theorem NwL.later {W0 W W':World} {P:Nat} {g:Bool} {a:Option Addr} {c:Nat} {z:List Int} {x:Int} (h:NwL W0 P g a c z x W) (hb:Below W W W'):NwL W0 P g a c z x W':=
 ⟨h.bx.later hb,h.l.later hb,h.n,h.f,h.le,h.bel.trans (hb.mono h.bel.size)⟩
theorem NwL.fin {W0 W:World} {P:Nat} {g:Bool} {a:Option Addr} {c:Nat} {z:List Int} {x:Int} (hc:Cs W P [false,()]) (hn:ζf W P) (h:L1 W g a c z x) (h1:z.length<=21) (hf:Far W0 a z) (hb:Below W0 W0 W) (hP:W0.heap.size<=P):NwL W0 P g a c z x (setAll W P 0 [g,.slice a z c]):=by
 refine ⟨hc.whole _ rfl,?_,h1,hf,hP,ζd hP _ W 0 hb⟩
 have h2:ζf (W.setCell ⟨P,0,none⟩ g) P:=hn.set (by simp [ζh])
 exact (h.setNo hn).setNo h2
end Go.Proofs.YtfieffpobgcpmaaGreatDoor
