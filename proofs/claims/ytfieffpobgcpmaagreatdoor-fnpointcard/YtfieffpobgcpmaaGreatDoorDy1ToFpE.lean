import Derived.Test.YtfieffpobgcpmaaGreatDoorSpecEToDy1h
import Derived.Test.YtfieffpobgcpmaaGreatDoorEsEToImplC0
import Derived.Test.YtfieffpobgcpmaaGreatDoorDy2NumDNumFNumG
import Derived.Test.YtfieffpobgcpmaaGreatDoorNumWToNumN
import Derived.Test.YtfieffpobgcpmaaGreatDoorFrHToSpecI
import Derived.Test.YtfieffpobgcpmaaGreatDoorSpecMSpecJ0SpecJSpecSMdA
import Derived.Test.YtfieffpobgcpmaaGreatDoorDyN2ToEsF
import Derived.Deep.CutRange
import Derived.Maps.AppendAt
import Derived.Test.YtfieffpobgcpmaaGreatDoorMdERkBFpD
set_option maxRecDepth 100000
set_option maxHeartbeats 32000000
namespace Go.Proofs.YtfieffpobgcpmaaGreatDoor
open Go.RowKit
theorem neg2_any (g:Bool) (a:Option Addr) (c:Nat) (ds:List Int) (m E:Int) (w:World) (hn:ds.length≤1048576) (h:L1 w g a c ds m):
 Calls Tryz.prog 144 #[.agg #[g,.slice a ds.length c,.int .i64 E]] w fun e w'=> ∃g' ds',e= .returned (.agg #[.bool g',.slice a ds'.length c,.int .i64 E])∧ds'.length≤ds.length∧L1 w' g' a c ds' (-m)∧Below w.heap.size w w':=by
 have B0:Hid (∀t t',Bx3 w g (.slice a ds.length c) (.int .i64 E) ((w.alloc (.cells #[g,.slice a ds.length c,.int .i64 E] t)).alloc (.cells #[false,(),.int .i64 0] t'))):=fun t t'=>Bx3.start w _ _ _ _ _
 go_enter Tryz.func144,Tryz.ntmps144
 go_wp2
 obtain ⟨W0,hW0⟩: ∃W0,W0=((w.alloc (.cells #[g,.slice a ds.length c,.int .i64 E] 176)).alloc (.cells #[false,(),.int .i64 0] 176)):=⟨_,rfl⟩
 have F:Hid (Bx3 w g (.slice a ds.length c) (.int .i64 E) W0):=by unfold Hid;rw [hW0];exact B0.out _ _
 rw [←hW0]
 clear hW0 B0
 have zz:w.heap.size+1<W0.heap.size:=F.out.le
 go_region_held3 (fun w'=>w'.cell? ⟨w.heap.size,0,none⟩=some ↑g∧w'.cell? ⟨w.heap.size,1,none⟩=some (.slice a ds.length c)∧w'.cell? ⟨w.heap.size,2,none⟩=some (.int .i64 E)∧Below (w.heap.size+1) W0 w')
  (first|exact F.out.held (Below.refl _ _).drew|exact F.out.held (by assumption)|exact F.out.held (Below.setCell (Below.setCell (Below.setCell (by assumption) (by simp) _) (by simp) _) (by simp) _))
  (first
   |(go_at_call 117;refine (neg_any g a c ds m _ hn (h.later F.out.bel.drew)).mono ?_;rintro e w2 ⟨g2,ds2,rfl,hl2,hL2,hb2⟩;have hB2:Below W0.heap.size W0 w2:=(Below.refl _ _).drew.trans hb2;have hB2':Below (w.heap.size+1) W0 w2:=hB2.mono (by omega);have F2:Hid (Bx3 w g (.slice a ds.length c) (.int .i64 E) w2):=F.out.later hB2;have r1:=F2.out.r1;have r2:=F2.out.r2;have r3:=F2.out.r3;have r4:=F2.out.r4))
 have HL2:Hid (L1 w2 g2 a c ds2 (-m)):=hL2
 clear hL2 hB2 hB2' hb2
 go_wp2
 refine bodyPost_ret (v:= .agg #[g2,.slice a ds2.length c,.int .i64 E]) (by simp [results,Tryz.results144,go_sem,r1,r2,r3]) rfl ?_
 refine ⟨g2,ds2,rfl,by omega,?_,?_⟩
 ·exact ((HL2.out.setNew h.sl.row hl2 (by simp) _).setNew h.sl.row hl2 (by simp) _).setNew h.sl.row hl2 (by simp) _
 ·exact ((F2.out.bel.setCell (by simp) _).setCell (by simp) _).setCell (by simp) _
structure LV where
 g:Bool
 a:Option Addr
 c:Nat
 fs:List Int
 m:Int
 e:Int
instance:Inhabited LV:=⟨⟨false,none,0,[],0,0⟩⟩
section
variable {W0 : World} {A : Nat} {G : Bool} {a : Option Addr} {c : Nat} {fs : List Int} {m e : Int} {W W' : World}
end
section
variable {wr W W' : World} {P : Nat} {g : Bool} {a : Option Addr} {c : Nat} {fs : List Int} {m e : Int}
end
def LV.cells (l:LV):List Value:=[.bool l.g,.slice l.a l.fs.length l.c,.int .i64 l.e]
def lcells (ls:List LV):List Value:=ls.flatMap LV.cells
theorem lcells_get: ∀(ls:List LV) (i j:Nat),i<ls.length→j<3→(lcells ls)[i*3+j]? =(ls.getD i default).cells[j]?
 | [],i,j,h,_=>absurd h (by simp)
 |l::ls,0,j,_,hj=>by
  simp only [lcells,List.flatMap_cons,List.getD_cons_zero,Nat.zero_mul,Nat.zero_add]
  rw [List.getElem?_append_left (by simpa [LV.cells] using hj)]
 |l::ls,i+1,j,h,hj=>by
  have:=lcells_get ls i j (by simpa using h) hj
  simp only [lcells,List.flatMap_cons,List.getD_cons_succ] at this⊢
  rw [List.getElem?_append_right (by simp [LV.cells];omega),←this]
  congr 1
  simp [LV.cells]
  omega
def OffV (v:Value) (a:Option Addr) (fs:List Int):Prop:= ∀b o,a=some ⟨b,o,none⟩→fs≠[]→v.ownBlock≠some b
theorem L1.stay {w w':World} {v:Value} {g:Bool} {a:Option Addr} {c:Nat} {ds:List Int} {x:Int} (h:L1 w g a c ds x) (ho:OffV v a ds) (hs:w.heap.size≤w'.heap.size) (hk: ∀j,j<w.heap.size→v.ownBlock≠some j→w'.heap[j]? =w.heap[j]?):L1 w' g a c ds x:=by
 refine ⟨⟨h.sl.fits,h.sl.nil,?_⟩,h.can,h.num,h.zero,h.cap⟩
 rcases h.sl.row with h| ⟨b,off,h1,h2,h3⟩
 ·exact .inl h
 ·by_cases hd:ds=[]
  ·exact .inl hd
  ·have hb:=ho b off h1 hd
   refine .inr ⟨b,off,h1,by omega,fun j hj=> ?_⟩
   rw [World.cell?_of_block (w:=w) (hk b h2 hb)]
   exact h3 j hj
theorem getD_snoc (ls:List LV) (l:LV) (i:Nat) (hi:i<(ls++[l]).length):(i<ls.length∧(ls++[l]).getD i default=ls.getD i default)∨(i=ls.length∧(ls++[l]).getD i default=l):=by
 by_cases h:i<ls.length
 ·exact .inl ⟨h,by simp [List.getD_eq_getElem?_getD,List.getElem?_append_left h]⟩
 ·have:i=ls.length:=by simp at hi;omega
  subst this
  exact .inr ⟨rfl,by simp [List.getD_eq_getElem?_getD]⟩
theorem info_l2dy:(Tryz.prog.info? 176).map (fun i=>(i.zero,i.size,i.bytes))=some (some (.agg #[false,(),.int .i64 0]),3,40):=by kernel_rfl
structure OwnN (w:World) (base:Nat) (e:TypeId) (sz:Nat) (v:Value) (n:Nat) (cs:List Value) (ls:List LV) (W:World):Prop where
 own:W.ownsRow base e sz v n cs
 l1: ∀l∈ls,L1 W l.g l.a l.c l.fs l.m
 off: ∀l∈ls,OffV v l.a l.fs
 bel:Below base w W
 ge:base≤W.heap.size
theorem ownS_block {w:World} {base sz:Nat} {e:TypeId} {v:Value} {n:Nat} {xs:List Value} (h:w.ownsRow base e sz v n xs) {j:Nat} (hj:v.ownBlock=some j):j<w.heap.size∧base≤j:=by
 rcases h.2 with ⟨h1,_⟩| ⟨g,cap,cur,h1,h2,h3,h4⟩
 ·rw [h1] at hj;simp [Value.ownBlock] at hj
 ·rw [h1] at hj
  simp [Value.ownBlock] at hj
  subst hj
  refine ⟨?_,h2⟩
  by_cases hp:g<w.heap.size
  ·exact hp
  ·rw [Array.getElem?_eq_none (by omega)] at h3;cases h3
theorem ownS_later {w w':World} {base sz:Nat} {e:TypeId} {v:Value} {n:Nat} {xs:List Value} (h:w.ownsRow base e sz v n xs) (hb:Below w.heap.size w w'):w'.ownsRow base e sz v n xs:=by
 refine ⟨h.1,?_⟩
 rcases h.2 with h1| ⟨g,cap,cur,h1,h2,h3,h4⟩
 ·exact .inl h1
 ·have hg:g<w.heap.size:=by
   by_cases hp:g<w.heap.size
   ·exact hp
   ·rw [Array.getElem?_eq_none (by omega)] at h3;cases h3
  exact .inr ⟨g,cap,cur,h1,h2,(hb.block g hg).trans h3,h4⟩
theorem OwnN.later {w W W':World} {base sz:Nat} {e:TypeId} {v:Value} {n:Nat} {cs:List Value} {ls:List LV} (h:OwnN w base e sz v n cs ls W) (hb:Below W.heap.size W W'):OwnN w base e sz v n cs ls W':=
 ⟨ownS_later h.own hb,fun l hl=>(h.l1 l hl).later hb,h.off,h.bel.trans (hb.mono h.ge),Nat.le_trans h.ge hb.size⟩
theorem OwnN.start (w W:World) (base sz:Nat) (e:TypeId) (hb:Below base w W) (hg:base≤W.heap.size):OwnN w base e sz () 0 [] [] W:=
 ⟨World.ownsRow_nil _ _ _ _,fun _ hl=>absurd hl (by simp),fun _ hl=>absurd hl (by simp),hb,hg⟩
theorem addr_add (b j:Nat):(⟨b,0,none⟩:Addr).add j=⟨b,0+j,none⟩:=by
 by_cases h:j=0<;>simp [Addr.add,h]
theorem OwnN.cells {w W:World} {base sz:Nat} {e:TypeId} {v:Value} {n:Nat} {cs:List Value} {ls:List LV} (h:OwnN w base e sz v n cs ls W) (hn:n≠0): ∃b c,v= .slice (some ⟨b,0,none⟩) n c∧base≤b∧b<W.heap.size∧ ∀j u,cs[j]? =some u→W.cell? ⟨b,0+j,none⟩=some u:=by
 rcases h.own.2 with ⟨_,h2⟩| ⟨g,cap,cur,h1,h2,h3,h4⟩
 ·exact absurd h2 hn
 ·refine ⟨g,cap,h1,h2,?_,fun j u hj=> ?_⟩
  ·by_cases hp:g<W.heap.size
   ·exact hp
   ·rw [Array.getElem?_eq_none (by omega)] at h3;cases h3
  ·have h5:=h.own.cells (g:=g) (by rw [h1];rfl) j u hj
   rw [addr_add] at h5
   exact h5
theorem Far.offV {W:World} {base sz:Nat} {e:TypeId} {v:Value} {n:Nat} {xs:List Value} {B:Nat} {a:Option Addr} {fs:List Int} (h:Far B a fs) (ho:W.ownsRow base e sz v n xs) (hB:W.heap.size≤B):OffV v a fs:=by
 intro b o h1 h2 h3
 rcases h with h| ⟨b',o',h4,h5⟩
 ·exact h2 h
 ·rw [h1] at h4
  injection h4 with h4
  have:b=b':=congrArg Addr.block h4
  have:=(ownS_block ho h3).1
  omega
theorem runN {w W:World} (t ty e:TypeId) (z:Value) (sz bytes:Nat) (ht:Tryz.prog.underlying t=some (.slice e)) (hinfo:(Tryz.prog.info? e).map (fun i=>(i.zero,i.size,i.bytes))=some (some z,sz,bytes)) (hzs:z.cells.size=sz) (hsz:0<sz)
 (base:Nat) (sv:Value) (n m c:Nat) (cs news:List Value) (ls ls':List LV) (b:Nat) (hall:OwnN w base e sz sv n cs ls W)
 (hl: ∀l∈ls',L1 W l.g l.a l.c l.fs l.m) (hoff: ∀l∈ls',OffV sv l.a l.fs) (hlen:news.length=m*sz) (hnews: ∀j u,news[j]? =some u→W.cell? ⟨b,0+j,none⟩=some u) (h1: ∀u∈news,u.oneCell'=true) (hn:n+m≤maxLen) (hby:(n+m)*bytes≤140737488355328):
 ∃a' n' c' w',(Builtin.append_ #[t,t] ty #[sv,.slice (some ⟨b,0,none⟩) m c]).run Tryz.prog W= .ok (.slice a' n' c') w'∧OwnN w base e sz (.slice a' n' c') (n+m) (cs++news) (ls++ls') w'∧W.heap.size≤w'.heap.size∧(∀j,j<W.heap.size→sv.ownBlock≠some j→w'.heap[j]? =W.heap[j]?):=by
 obtain ⟨i0,hi,hz0,hz1,hz2⟩:=info_parts hinfo
 obtain ⟨v',w',hr,hown',hgrow,_,hwhere⟩:=run_append_own_at (P:=Tryz.prog) W base t ty e i0 _ sz bytes ht hi hz0 hz1 hz2 hzs hsz sv n cs hall.own ⟨b,0,none⟩ m c news hlen (by
  intro j u hj
  rw [addr_add]
  exact hnews j u hj) h1 hn hby hall.ge
 obtain ⟨a',n',c',rfl⟩: ∃a' n' c',v'= .slice a' n' c':=by
  rcases hown'.2 with ⟨h1,_⟩| ⟨g,cap,cur,h1,_⟩
  ·exact ⟨_,_,_,h1⟩
  ·exact ⟨_,_,_,h1⟩
 have hsz:W.heap.size≤w'.heap.size:=hgrow.size
 have hk: ∀j,j<W.heap.size→sv.ownBlock≠some j→w'.heap[j]? =W.heap[j]? :=by
  intro j hj hne
  exact hgrow.block j hj (fun e=>hne e.symm)
 have hov: ∀(b:Nat),b<W.heap.size→sv.ownBlock≠some b→(Value.slice a' n' c').ownBlock≠some b:=by
  intro b hb hne he
  rcases hwhere with hw|hw
  ·exact hne (hw▸he)
  ·rw [hw] at he
   injection he with he
   omega
 have lift: ∀(g:Bool) (a:Option Addr) (c:Nat) (fs:List Int) (m:Int),L1 W g a c fs m→OffV sv a fs→L1 w' g a c fs m∧OffV (.slice a' n' c') a fs:=by
  intro g a c fs m hL hO
  refine ⟨hL.stay hO (by omega) hk,fun b o h1 h2=> ?_⟩
  refine hov b ?_ (hO b o h1 h2)
  rcases hL.sl.row with hr| ⟨b',o',h3,h4,_⟩
  ·exact absurd hr h2
  ·rw [h1] at h3
   injection h3 with h3
   have:b=b':=congrArg Addr.block h3
   omega
 refine ⟨a',n',c',w',hr,⟨hown',?_,?_,?_,?_⟩,hsz,hk⟩
 ·intro l hm
  rcases List.mem_append.mp hm with hm|hm
  ·exact (lift _ _ _ _ _ (hall.l1 l hm) (hall.off l hm)).1
  ·exact (lift _ _ _ _ _ (hl l hm) (hoff l hm)).1
 ·intro l hm
  rcases List.mem_append.mp hm with hm|hm
  ·exact (lift _ _ _ _ _ (hall.l1 l hm) (hall.off l hm)).2
  ·exact (lift _ _ _ _ _ (hl l hm) (hoff l hm)).2
 ·refine hall.bel.grown hgrow hall.ge ?_
  intro kk hkk
  exact (ownS_block hall.own hkk).2
 ·exact Nat.le_trans hall.ge hsz
theorem appW {w W:World} {o:Oper} {a:Act} {K:Act→World→Prop} {Q:Exit→Act→World→Prop} (s x:Operand) (t e:TypeId) (z:Value) (sz bytes:Nat) (ht:Tryz.prog.underlying t=some (.slice e)) (hinfo:(Tryz.prog.info? e).map (fun i=>(i.zero,i.size,i.bytes))=some (some z,sz,bytes)) (hzs:z.cells.size=sz) (hsz:0<sz)
 (ho:o.op= .call {callee:= .builtin .append,args:=#[s,x],argTypes:=#[t,t]})
 (base:Nat) (sv:Value) (n m c:Nat) (cs news:List Value) (ls ls':List LV) (b:Nat) (hs:a.eval s=sv) (hx:a.eval x= .slice (some ⟨b,0,none⟩) m c) (hall:OwnN w base e sz sv n cs ls W)
 (hl: ∀l∈ls',L1 W l.g l.a l.c l.fs l.m) (hoff: ∀l∈ls',OffV sv l.a l.fs) (hlen:news.length=m*sz) (hnews: ∀j u,news[j]? =some u→W.cell? ⟨b,0+j,none⟩=some u) (h1: ∀u∈news,u.oneCell'=true) (hn:n+m≤maxLen) (hby:(n+m)*bytes≤140737488355328)
 (h: ∀a' n' c' w',OwnN w base e sz (.slice a' n' c') (n+m) (cs++news) (ls++ls') w'→W.heap.size≤w'.heap.size→(∀j,j<W.heap.size→sv.ownBlock≠some j→w'.heap[j]? =W.heap[j]?)→K (a.put o.dst (.slice a' n' c')) w'):
 o.wp Tryz.prog a W K Q:=by
 obtain ⟨a',n',c',w',hr,h2,h3,h4⟩:=runN t o.type e z sz bytes ht hinfo hzs hsz base sv n m c cs news ls ls' b hall hl hoff hlen hnews h1 hn hby
 unfold Oper.wp execOp
 simp only [ho,resolve,invoke,builtin,Sem.run_bind,Sem.run_pure,Result.andThen_ok,List.map_toArray,List.map_cons,List.map_nil,hs,hx,hr]
 exact h a' n' c' w' h2 h3 h4
theorem appN {w W:World} {ops:Array Oper} {rest:List Oper} {o:Oper} {a:Act} {Q:Exit→Act→World→Prop} (hgd:o.guard=none) (s x:Operand) (t e:TypeId) (z:Value) (sz bytes:Nat) (ht:Tryz.prog.underlying t=some (.slice e)) (hinfo:(Tryz.prog.info? e).map (fun i=>(i.zero,i.size,i.bytes))=some (some z,sz,bytes)) (hzs:z.cells.size=sz) (hsz:0<sz)
 (ho:o.op= .call {callee:= .builtin .append,args:=#[s,x],argTypes:=#[t,t]})
 (base:Nat) (sv:Value) (n m c:Nat) (cs news:List Value) (ls ls':List LV) (b:Nat) (hs:a.eval s=sv) (hx:a.eval x= .slice (some ⟨b,0,none⟩) m c) (hall:OwnN w base e sz sv n cs ls W)
 (hl: ∀l∈ls',L1 W l.g l.a l.c l.fs l.m) (hoff: ∀l∈ls',OffV sv l.a l.fs) (hlen:news.length=m*sz) (hnews: ∀j u,news[j]? =some u→W.cell? ⟨b,0+j,none⟩=some u) (h1: ∀u∈news,u.oneCell'=true) (hn:n+m≤maxLen) (hby:(n+m)*bytes≤140737488355328)
 (h: ∀a' n' c' w',OwnN w base e sz (.slice a' n' c') (n+m) (cs++news) (ls++ls') w'→wpList Tryz.prog ops Q rest (a.put o.dst (.slice a' n' c')) w'):
 wpList Tryz.prog ops Q (o::rest) a W:=by
 refine wpList_plain hgd fun K hK=> ?_
 exact appW s x t e z sz bytes ht hinfo hzs hsz ho base sv n m c cs news ls ls' b hs hx hall hl hoff hlen hnews h1 hn hby fun a' n' c' w' h2 _ _=>hK _ _ (h a' n' c' w' h2)
end Go.Proofs.YtfieffpobgcpmaaGreatDoor
