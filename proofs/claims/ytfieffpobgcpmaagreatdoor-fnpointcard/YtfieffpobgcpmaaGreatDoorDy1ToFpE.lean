import Derived.Test.YtfieffpobgcpmaaGreatDoorSpecEToDy1h
import Derived.Test.YtfieffpobgcpmaaGreatDoorEsEToImplC0
import Derived.Test.YtfieffpobgcpmaaGreatDoorDy2NumDNumFNumG
import Derived.Test.YtfieffpobgcpmaaGreatDoorNumWToNumN
import Derived.Test.YtfieffpobgcpmaaGreatDoorFrHToSpecI
import Derived.Test.YtfieffpobgcpmaaGreatDoorSpecMSpecJ0SpecJSpecSMdA
import Derived.Test.YtfieffpobgcpmaaGreatDoorDyN2ToEsF
import Derived.Deep.CutRange
import Derived.Maps.AppendAt
import Derived.Test.YtfieffpobgcpmaaGreatDoorMdERkBFpD
set_option maxRecDepth 100000
set_option maxHeartbeats 32000000
namespace Go.Proofs.YtfieffpobgcpmaaGreatDoor
open Go.RowKit
theorem neg2_any (g:Bool) (a:Option Addr) (c:Nat) (ds:List Int) (m E:Int) (w:World) (hn:ds.length≤1048576) (h:L1 w g a c ds m):
 Calls Tryz.prog 144 #[.agg #[g,.slice a ds.length c,.int .i64 E]] w fun e w'=> ∃g' ds',e= .returned (.agg #[.bool g',.slice a ds'.length c,.int .i64 E])∧ds'.length≤ds.length∧L1 w' g' a c ds' (-m)∧Below w.heap.size w w':=by
 have B0:Hid (∀t t',Bx3 w g (.slice a ds.length c) (.int .i64 E) ((w.alloc (.cells #[g,.slice a ds.length c,.int .i64 E] t)).alloc (.cells #[false,(),.int .i64 0] t'))):=fun t t'=>Bx3.start w _ _ _ _ _
 go_enter Tryz.func144,Tryz.ntmps144
 go_wp2
 obtain ⟨W0,hW0⟩: ∃W0,W0=((w.alloc (.cells #[g,.slice a ds.length c,.int .i64 E] 176)).alloc (.cells #[false,(),.int .i64 0] 176)):=⟨_,rfl⟩
 have F:Hid (Bx3 w g (.slice a ds.length c) (.int .i64 E) W0):=by unfold Hid;rw [hW0];exact B0.out _ _
 rw [←hW0]
 clear hW0 B0
 have zz:w.heap.size+1<W0.heap.size:=F.out.le
 go_region_held3 (fun w'=>w'.cell? ⟨w.heap.size,0,none⟩=some ↑g∧w'.cell? ⟨w.heap.size,1,none⟩=some (.slice a ds.length c)∧w'.cell? ⟨w.heap.size,2,none⟩=some (.int .i64 E)∧Below (w.heap.size+1) W0 w')
  (first|exact F.out.held (Below.refl _ _).drew|exact F.out.held (by assumption)|exact F.out.held (Below.setCell (Below.setCell (Below.setCell (by assumption) (by simp) _) (by simp) _) (by simp) _))
  (first
   |(go_at_call 117;refine (neg_any g a c ds m _ hn (h.later F.out.bel.drew)).mono ?_;rintro e w2 ⟨g2,ds2,rfl,hl2,hL2,hb2⟩;have hB2:Below W0.heap.size W0 w2:=(Below.refl _ _).drew.trans hb2;have hB2':Below (w.heap.size+1) W0 w2:=hB2.mono (by omega);have F2:Hid (Bx3 w g (.slice a ds.length c) (.int .i64 E) w2):=F.out.later hB2;have r1:=F2.out.r1;have r2:=F2.out.r2;have r3:=F2.out.r3;have r4:=F2.out.r4))
 have HL2:Hid (L1 w2 g2 a c ds2 (-m)):=hL2
 clear hL2 hB2 hB2' hb2
 go_wp2
 refine bodyPost_ret (v:= .agg #[g2,.slice a ds2.length c,.int .i64 E]) (by simp [results,Tryz.results144,go_sem,r1,r2,r3]) rfl ?_
 refine ⟨g2,ds2,rfl,by omega,?_,?_⟩
 ·exact ((HL2.out.setNew h.sl.row hl2 (by simp) _).setNew h.sl.row hl2 (by simp) _).setNew h.sl.row hl2 (by simp) _
 ·exact ((F2.out.bel.setCell (by simp) _).setCell (by simp) _).setCell (by simp) _
structure LV where
 g:Bool
 a:Option Addr
 c:Nat
 fs:List Int
 m:Int
 e:Int
instance:Inhabited LV:=⟨⟨false,none,0,[],0,0⟩⟩
section
variable {W0 : World} {A : Nat} {G : Bool} {a : Option Addr} {c : Nat} {fs : List Int} {m e : Int} {W W' : World}
end
section
variable {wr W W' : World} {P : Nat} {g : Bool} {a : Option Addr} {c : Nat} {fs : List Int} {m e : Int}
end
def LV.cells (l:LV):List Value:=[.bool l.g,.slice l.a l.fs.length l.c,.int .i64 l.e]
def lcells (ls:List LV):List Value:=ls.flatMap LV.cells
theorem lcells_get: ∀(ls:List LV) (i j:Nat),i<ls.length→j<3→(lcells ls)[i*3+j]? =(ls.getD i default).cells[j]?
 | [],i,j,h,_=>absurd h (by simp)
 |l::ls,0,j,_,hj=>by
  simp only [lcells,List.flatMap_cons,List.getD_cons_zero,Nat.zero_mul,Nat.zero_add]
  rw [List.getElem?_append_left (by simpa [LV.cells] using hj)]
 |l::ls,i+1,j,h,hj=>by
  have:=lcells_get ls i j (by simpa using h) hj
  simp only [lcells,List.flatMap_cons,List.getD_cons_succ] at this⊢
  rw [List.getElem?_append_right (by simp [LV.cells];omega),←this]
  congr 1
  simp [LV.cells]
  omega
def OffV (v:Value) (a:Option Addr) (fs:List Int):Prop:= ∀b o,a=some ⟨b,o,none⟩→fs≠[]→v.ownBlock≠some b
theorem L1.stay {w w':World} {v:Value} {g:Bool} {a:Option Addr} {c:Nat} {ds:List Int} {x:Int} (h:L1 w g a c ds x) (ho:OffV v a ds) (hs:w.heap.size≤w'.heap.size) (hk: ∀j,j<w.heap.size→v.ownBlock≠some j→w'.heap[j]? =w.heap[j]?):L1 w' g a c ds x:=by
 refine ⟨⟨h.sl.fits,h.sl.nil,?_⟩,h.can,h.num,h.zero,h.cap⟩
 rcases h.sl.row with h| ⟨b,off,h1,h2,h3⟩
 ·exact .inl h
 ·by_cases hd:ds=[]
  ·exact .inl hd
  ·have hb:=ho b off h1 hd
   refine .inr ⟨b,off,h1,by omega,fun j hj=> ?_⟩
   rw [World.cell?_of_block (w:=w) (hk b h2 hb)]
   exact h3 j hj
theorem getD_snoc (ls:List LV) (l:LV) (i:Nat) (hi:i<(ls++[l]).length):(i<ls.length∧(ls++[l]).getD i default=ls.getD i default)∨(i=ls.length∧(ls++[l]).getD i default=l):=by
 by_cases h:i<ls.length
 ·exact .inl ⟨h,by simp [List.getD_eq_getElem?_getD,List.getElem?_append_left h]⟩
 ·have:i=ls.length:=by simp at hi;omega
  subst this
  exact .inr ⟨rfl,by simp [List.getD_eq_getElem?_getD]⟩
theorem info_l2dy:(Tryz.prog.info? 176).map (fun i=>(i.zero,i.size,i.bytes))=some (some (.agg #[false,(),.int .i64 0]),3,40):=by kernel_rfl
structure OwnN (w:World) (base:Nat) (e:TypeId) (sz:Nat) (v:Value) (n:Nat) (cs:List Value) (ls:List LV) (W:World):Prop where
 own:W.ownsRow base e sz v n cs
 l1: ∀l∈ls,L1 W l.g l.a l.c l.fs l.m
 off: ∀l∈ls,OffV v l.a l.fs
 bel:Below base w W
 ge:base≤W.heap.size
theorem ownS_block {w:World} {base sz:Nat} {e:TypeId} {v:Value} {n:Nat} {xs:List Value} (h:w.ownsRow base e sz v n xs) {j:Nat} (hj:v.ownBlock=some j):j<w.heap.size∧base≤j:=by
 rcases h.2 with ⟨h1,_⟩| ⟨g,cap,cur,h1,h2,h3,h4⟩
 ·rw [h1] at hj;simp [Value.ownBlock] at hj
 ·rw [h1] at hj
  simp [Value.ownBlock] at hj
  subst hj
  refine ⟨?_,h2⟩
  by_cases hp:g<w.heap.size
  ·exact hp
  ·rw [Array.getElem?_eq_none (by omega)] at h3;cases h3
theorem ownS_later {w w':World} {base sz:Nat} {e:TypeId} {v:Value} {n:Nat} {xs:List Value} (h:w.ownsRow base e sz v n xs) (hb:Below w.heap.size w w'):w'.ownsRow base e sz v n xs:=by
 refine ⟨h.1,?_⟩
 rcases h.2 with h1| ⟨g,cap,cur,h1,h2,h3,h4⟩
 ·exact .inl h1
 ·have hg:g<w.heap.size:=by
   by_cases hp:g<w.heap.size
   ·exact hp
   ·rw [Array.getElem?_eq_none (by omega)] at h3;cases h3
  exact .inr ⟨g,cap,cur,h1,h2,(hb.block g hg).trans h3,h4⟩
theorem OwnN.later {w W W':World} {base sz:Nat} {e:TypeId} {v:Value} {n:Nat} {cs:List Value} {ls:List LV} (h:OwnN w base e sz v n cs ls W) (hb:Below W.heap.size W W'):OwnN w base e sz v n cs ls W':=
 ⟨ownS_later h.own hb,fun l hl=>(h.l1 l hl).later hb,h.off,h.bel.trans (hb.mono h.ge),Nat.le_trans h.ge hb.size⟩
theorem OwnN.start (w W:World) (base sz:Nat) (e:TypeId) (hb:Below base w W) (hg:base≤W.heap.size):OwnN w base e sz () 0 [] [] W:=
 ⟨World.ownsRow_nil _ _ _ _,fun _ hl=>absurd hl (by simp),fun _ hl=>absurd hl (by simp),hb,hg⟩
theorem addr_add (b j:Nat):(⟨b,0,none⟩:Addr).add j=⟨b,0+j,none⟩:=by
 by_cases h:j=0<;>simp [Addr.add,h]
theorem OwnN.cells {w W:World} {base sz:Nat} {e:TypeId} {v:Value} {n:Nat} {cs:List Value} {ls:List LV} (h:OwnN w base e sz v n cs ls W) (hn:n≠0): ∃b c,v= .slice (some ⟨b,0,none⟩) n c∧base≤b∧b<W.heap.size∧ ∀j u,cs[j]? =some u→W.cell? ⟨b,0+j,none⟩=some u:=by
 rcases h.own.2 with ⟨_,h2⟩| ⟨g,cap,cur,h1,h2,h3,h4⟩
 ·exact absurd h2 hn
 ·refine ⟨g,cap,h1,h2,?_,fun j u hj=> ?_⟩
  ·by_cases hp:g<W.heap.size
   ·exact hp
   ·rw [Array.getElem?_eq_none (by omega)] at h3;cases h3
  ·have h5:=h.own.cells (g:=g) (by rw [h1];rfl) j u hj
   rw [addr_add] at h5
   exact h5
theorem Far.offV {W:World} {base sz:Nat} {e:TypeId} {v:Value} {n:Nat} {xs:List Value} {B:Nat} {a:Option Addr} {fs:List Int} (h:Far B a fs) (ho:W.ownsRow base e sz v n xs) (hB:W.heap.size≤B):OffV v a fs:=by
 intro b o h1 h2 h3
 rcases h with h| ⟨b',o',h4,h5⟩
 ·exact h2 h
 ·rw [h1] at h4
  injection h4 with h4
  have:b=b':=congrArg Addr.block h4
  have:=(ownS_block ho h3).1
  omega
theorem runN {w W:World} (t ty e:TypeId) (z:Value) (sz bytes:Nat) (ht:Tryz.prog.underlying t=some (.slice e)) (hinfo:(Tryz.prog.info? e).map (fun i=>(i.zero,i.size,i.bytes))=some (some z,sz,bytes)) (hzs:z.cells.size=sz) (hsz:0<sz)
 (base:Nat) (sv:Value) (n m c:Nat) (cs news:List Value) (ls ls':List LV) (b:Nat) (hall:OwnN w base e sz sv n cs ls W)
 (hl: ∀l∈ls',L1 W l.g l.a l.c l.fs l.m) (hoff: ∀l∈ls',OffV sv l.a l.fs) (hlen:news.length=m*sz) (hnews: ∀j u,news[j]? =some u→W.cell? ⟨b,0+j,none⟩=some u) (h1: ∀u∈news,u.oneCell'=true) (hn:n+m≤maxLen) (hby:(n+m)*bytes≤140737488355328):
 ∃a' n' c' w',(Builtin.append_ #[t,t] ty #[sv,.slice (some ⟨b,0,none⟩) m c]).run Tryz.prog W= .ok (.slice a' n' c') w'∧OwnN w base e sz (.slice a' n' c') (n+m) (cs++news) (ls++ls') w'∧W.heap.size≤w'.heap.size∧(∀j,j<W.heap.size→sv.ownBlock≠some j→w'.heap[j]? =W.heap[j]?):=by
 obtain ⟨i0,hi,hz0,hz1,hz2⟩:=info_parts hinfo
 obtain ⟨v',w',hr,hown',hgrow,_,hwhere⟩:=run_append_own_at (P:=Tryz.prog) W base t ty e i0 _ sz bytes ht hi hz0 hz1 hz2 hzs hsz sv n cs hall.own ⟨b,0,none⟩ m c news hlen (by
  intro j u hj
  rw [addr_add]
  exact hnews j u hj) h1 hn hby hall.ge
 obtain ⟨a',n',c',rfl⟩: ∃a' n' c',v'= .slice a' n' c':=by
  rcases hown'.2 with ⟨h1,_⟩| ⟨g,cap,cur,h1,_⟩
  ·exact ⟨_,_,_,h1⟩
  ·exact ⟨_,_,_,h1⟩
 have hsz:W.heap.size≤w'.heap.size:=hgrow.size
 have hk: ∀j,j<W.heap.size→sv.ownBlock≠some j→w'.heap[j]? =W.heap[j]? :=by
  intro j hj hne
  exact hgrow.block j hj (fun e=>hne e.symm)
 have hov: ∀(b:Nat),b<W.heap.size→sv.ownBlock≠some b→(Value.slice a' n' c').ownBlock≠some b:=by
  intro b hb hne he
  rcases hwhere with hw|hw
  ·exact hne (hw▸he)
  ·rw [hw] at he
   injection he with he
   omega
 have lift: ∀(g:Bool) (a:Option Addr) (c:Nat) (fs:List Int) (m:Int),L1 W g a c fs m→OffV sv a fs→L1 w' g a c fs m∧OffV (.slice a' n' c') a fs:=by
  intro g a c fs m hL hO
  refine ⟨hL.stay hO (by omega) hk,fun b o h1 h2=> ?_⟩
  refine hov b ?_ (hO b o h1 h2)
  rcases hL.sl.row with hr| ⟨b',o',h3,h4,_⟩
  ·exact absurd hr h2
  ·rw [h1] at h3
   injection h3 with h3
   have:b=b':=congrArg Addr.block h3
   omega
 refine ⟨a',n',c',w',hr,⟨hown',?_,?_,?_,?_⟩,hsz,hk⟩
 ·intro l hm
  rcases List.mem_append.mp hm with hm|hm
  ·exact (lift _ _ _ _ _ (hall.l1 l hm) (hall.off l hm)).1
  ·exact (lift _ _ _ _ _ (hl l hm) (hoff l hm)).1
 ·intro l hm
  rcases List.mem_append.mp hm with hm|hm
  ·exact (lift _ _ _ _ _ (hall.l1 l hm) (hall.off l hm)).2
  ·exact (lift _ _ _ _ _ (hl l hm) (hoff l hm)).2
 ·refine hall.bel.grown hgrow hall.ge ?_
  intro kk hkk
  exact (ownS_block hall.own hkk).2
 ·exact Nat.le_trans hall.ge hsz
theorem appW {w W:World} {o:Oper} {a:Act} {K:Act→World→Prop} {Q:Exit→Act→World→Prop} (s x:Operand) (t e:TypeId) (z:Value) (sz bytes:Nat) (ht:Tryz.prog.underlying t=some (.slice e)) (hinfo:(Tryz.prog.info? e).map (fun i=>(i.zero,i.size,i.bytes))=some (some z,sz,bytes)) (hzs:z.cells.size=sz) (hsz:0<sz)
 (ho:o.op= .call {callee:= .builtin .append,args:=#[s,x],argTypes:=#[t,t]})
 (base:Nat) (sv:Value) (n m c:Nat) (cs news:List Value) (ls ls':List LV) (b:Nat) (hs:a.eval s=sv) (hx:a.eval x= .slice (some ⟨b,0,none⟩) m c) (hall:OwnN w base e sz sv n cs ls W)
 (hl: ∀l∈ls',L1 W l.g l.a l.c l.fs l.m) (hoff: ∀l∈ls',OffV sv l.a l.fs) (hlen:news.length=m*sz) (hnews: ∀j u,news[j]? =some u→W.cell? ⟨b,0+j,none⟩=some u) (h1: ∀u∈news,u.oneCell'=true) (hn:n+m≤maxLen) (hby:(n+m)*bytes≤140737488355328)
 (h: ∀a' n' c' w',OwnN w base e sz (.slice a' n' c') (n+m) (cs++news) (ls++ls') w'→W.heap.size≤w'.heap.size→(∀j,j<W.heap.size→sv.ownBlock≠some j→w'.heap[j]? =W.heap[j]?)→K (a.put o.dst (.slice a' n' c')) w'):
 o.wp Tryz.prog a W K Q:=by
 obtain ⟨a',n',c',w',hr,h2,h3,h4⟩:=runN t o.type e z sz bytes ht hinfo hzs hsz base sv n m c cs news ls ls' b hall hl hoff hlen hnews h1 hn hby
 unfold Oper.wp execOp
 simp only [ho,resolve,invoke,builtin,Sem.run_bind,Sem.run_pure,Result.andThen_ok,List.map_toArray,List.map_cons,List.map_nil,hs,hx,hr]
 exact h a' n' c' w' h2 h3 h4
theorem appN {w W:World} {ops:Array Oper} {rest:List Oper} {o:Oper} {a:Act} {Q:Exit→Act→World→Prop} (hgd:o.guard=none) (s x:Operand) (t e:TypeId) (z:Value) (sz bytes:Nat) (ht:Tryz.prog.underlying t=some (.slice e)) (hinfo:(Tryz.prog.info? e).map (fun i=>(i.zero,i.size,i.bytes))=some (some z,sz,bytes)) (hzs:z.cells.size=sz) (hsz:0<sz)
 (ho:o.op= .call {callee:= .builtin .append,args:=#[s,x],argTypes:=#[t,t]})
 (base:Nat) (sv:Value) (n m c:Nat) (cs news:List Value) (ls ls':List LV) (b:Nat) (hs:a.eval s=sv) (hx:a.eval x= .slice (some ⟨b,0,none⟩) m c) (hall:OwnN w base e sz sv n cs ls W)
 (hl: ∀l∈ls',L1 W l.g l.a l.c l.fs l.m) (hoff: ∀l∈ls',OffV sv l.a l.fs) (hlen:news.length=m*sz) (hnews: ∀j u,news[j]? =some u→W.cell? ⟨b,0+j,none⟩=some u) (h1: ∀u∈news,u.oneCell'=true) (hn:n+m≤maxLen) (hby:(n+m)*bytes≤140737488355328)
 (h: ∀a' n' c' w',OwnN w base e sz (.slice a' n' c') (n+m) (cs++news) (ls++ls') w'→wpList Tryz.prog ops Q rest (a.put o.dst (.slice a' n' c')) w'):
 wpList Tryz.prog ops Q (o::rest) a W:=by
 refine wpList_plain hgd fun K hK=> ?_
 exact appW s x t e z sz bytes ht hinfo hzs hsz ho base sv n m c cs news ls ls' b hs hx hall hl hoff hlen hnews h1 hn hby fun a' n' c' w' h2 _ _=>hK _ _ (h a' n' c' w' h2)
def WP (x y z:Int) (X:V3):Prop:=WholeIs x X.x∧WholeIs y X.y∧WholeIs z X.z
theorem WP.bnd {x y z:Int} {X:V3} (h:WP x y z X):Bnd3 8 X:=⟨⟨h.1.1,h.1.2.1⟩,⟨h.2.1.1,h.2.1.2.1⟩,⟨h.2.2.1,h.2.2.2.1⟩⟩
theorem WP.pv {x y z:Int} {X:V3} (h:WP x y z X):pv x y z=V3.sc (2^149) X:=by
 unfold Go.Proofs.YtfieffpobgcpmaaGreatDoor.pv V3.sc
 rw [h.1.cor,h.2.1.cor,h.2.2.cor]
theorem runH {W:World} (t ty e:TypeId) (z:Value) (sz bytes:Nat) (ht:Tryz.prog.underlying t=some (.slice e)) (hinfo:(Tryz.prog.info? e).map (fun i=>(i.zero,i.size,i.bytes))=some (some z,sz,bytes)) (hzs:z.cells.size=sz) (hsz:0<sz)
 (base:Nat) (sv:Value) (n m c:Nat) (cs news:List Value) (b:Nat) (own:W.ownsRow base e sz sv n cs) (ge:base≤W.heap.size)
 (hlen:news.length=m*sz) (hnews: ∀j u,news[j]? =some u→W.cell? ⟨b,0+j,none⟩=some u) (h1: ∀u∈news,u.oneCell'=true) (hn:n+m≤maxLen) (hby:(n+m)*bytes≤140737488355328):
 ∃a' n' c' w',(Builtin.append_ #[t,t] ty #[sv,.slice (some ⟨b,0,none⟩) m c]).run Tryz.prog W= .ok (.slice a' n' c') w'∧w'.ownsRow base e sz (.slice a' n' c') (n+m) (cs++news)∧W.heap.size≤w'.heap.size∧(∀j,j<W.heap.size→sv.ownBlock≠some j→w'.heap[j]? =W.heap[j]? ∧(Value.slice a' n' c').ownBlock≠some j)∧Below base W w':=by
 obtain ⟨i0,hi,hz0,hz1,hz2⟩:=info_parts hinfo
 obtain ⟨v',w',hr,hown',hgrow,_,hwhere⟩:=run_append_own_at (P:=Tryz.prog) W base t ty e i0 _ sz bytes ht hi hz0 hz1 hz2 hzs hsz sv n cs own ⟨b,0,none⟩ m c news hlen (by
  intro j u hj
  rw [addr_add]
  exact hnews j u hj) h1 hn hby ge
 obtain ⟨a',n',c',rfl⟩: ∃a' n' c',v'= .slice a' n' c':=by
  rcases hown'.2 with ⟨h1,_⟩| ⟨g,cap,cur,h1,_⟩
  ·exact ⟨_,_,_,h1⟩
  ·exact ⟨_,_,_,h1⟩
 refine ⟨a',n',c',w',hr,hown',hgrow.size,fun j hj hne=>⟨hgrow.block j hj (fun e=>hne e.symm),fun he=> ?_⟩,?_⟩
 ·rcases hwhere with hw|hw
  ·exact hne (hw▸he)
  ·rw [hw] at he
   injection he with he
   omega
 ·exact (Below.refl _ _).grown hgrow ge (fun kk hkk=>(ownS_block own hkk).2)
theorem appH {W:World} {ops:Array Oper} {rest:List Oper} {o:Oper} {a:Act} {Q:Exit→Act→World→Prop} (hgd:o.guard=none) (s x:Operand) (t e:TypeId) (z:Value) (sz bytes:Nat) (ht:Tryz.prog.underlying t=some (.slice e)) (hinfo:(Tryz.prog.info? e).map (fun i=>(i.zero,i.size,i.bytes))=some (some z,sz,bytes)) (hzs:z.cells.size=sz) (hsz:0<sz)
 (ho:o.op= .call {callee:= .builtin .append,args:=#[s,x],argTypes:=#[t,t]})
 (base:Nat) (sv:Value) (n m c:Nat) (cs news:List Value) (b:Nat) (hs:a.eval s=sv) (hx:a.eval x= .slice (some ⟨b,0,none⟩) m c) (own:W.ownsRow base e sz sv n cs) (ge:base≤W.heap.size)
 (hlen:news.length=m*sz) (hnews: ∀j u,news[j]? =some u→W.cell? ⟨b,0+j,none⟩=some u) (h1: ∀u∈news,u.oneCell'=true) (hn:n+m≤maxLen) (hby:(n+m)*bytes≤140737488355328)
 (h: ∀a' n' c' w',w'.ownsRow base e sz (.slice a' n' c') (n+m) (cs++news)→W.heap.size≤w'.heap.size→(∀j,j<W.heap.size→sv.ownBlock≠some j→w'.heap[j]? =W.heap[j]? ∧(Value.slice a' n' c').ownBlock≠some j)→Below base W w'→wpList Tryz.prog ops Q rest (a.put o.dst (.slice a' n' c')) w'):
 wpList Tryz.prog ops Q (o::rest) a W:=by
 refine wpList_plain hgd fun K hK=> ?_
 obtain ⟨a',n',c',w',hr,h2,h3,h4,h5⟩:=runH t o.type e z sz bytes ht hinfo hzs hsz base sv n m c cs news b own ge hlen hnews h1 hn hby
 unfold Oper.wp execOp
 simp only [ho,resolve,invoke,builtin,Sem.run_bind,Sem.run_pure,Result.andThen_ok,List.map_toArray,List.map_cons,List.map_nil,hs,hx,hr]
 exact hK _ _ (h a' n' c' w' h2 h3 h4 h5)
theorem info_ints:(Tryz.prog.info? 66).map (fun i=>(i.zero,i.size,i.bytes))=some (some (.slice none 0 0),1,24):=by kernel_rfl
structure WhI (w:World) (zs:List Int) (so:Value) (i:Nat) (us:List Value) (Xs:List V3) (wr:World):Prop where
 own:wr.ownsRow w.heap.size 66 1 so i us
 lu:us.length=i
 lx:Xs.length=i
 i3: ∀(j:Nat) (u:Value) (X:V3),us[j]? =some u→Xs[j]? =some X→ ∃b,u= .slice (some ⟨b,0,none⟩) 3 3∧Ce wr b [.int .i64 X.x,.int .i64 X.y,.int .i64 X.z]∧so.ownBlock≠some b
 wp: ∀(j:Nat) (X:V3),Xs[j]? =some X→WP (zs.getD (j*3) 0) (zs.getD (j*3+1) 0) (zs.getD (j*3+2) 0) X
 bel:Below w.heap.size w wr
theorem WhI.start (w:World) (zs:List Int):WhI w zs (.slice none 0 0) 0 [] [] w:=
 ⟨World.ownsRow_nil _ _ _ _,rfl,rfl,fun _ _ _ h=>by simp at h,fun _ _ h=>by simp at h,Below.refl _ _⟩
theorem WhI.step {w wr W w':World} {zs:List Int} {so so':Value} {i:Nat} {us:List Value} {Xs:List V3} {X:V3} (h:WhI w zs so i us Xs wr) (hW:Below wr.heap.size wr W) (hc:Ce W wr.heap.size [.int .i64 X.x,.int .i64 X.y,.int .i64 X.z])
 (ho:w'.ownsRow w.heap.size 66 1 so' (i+1) (us++[.slice (some ⟨wr.heap.size,0,none⟩) 3 3])) (hs:W.heap.size≤w'.heap.size) (hk: ∀j,j<W.heap.size→so.ownBlock≠some j→w'.heap[j]? =W.heap[j]? ∧so'.ownBlock≠some j) (hb:Below w.heap.size W w')
 (hp:WP (zs.getD (i*3) 0) (zs.getD (i*3+1) 0) (zs.getD (i*3+2) 0) X):WhI w zs so' (i+1) (us++[.slice (some ⟨wr.heap.size,0,none⟩) 3 3]) (Xs++[X]) w':=by
 have old: ∀{b:Nat} {cs:List Value},Ce W b cs→so.ownBlock≠some b→Ce w' b cs∧so'.ownBlock≠some b:=fun hC hn=>⟨hC.stay hs (hk _ hC.1 hn).1,(hk _ hC.1 hn).2⟩
 refine ⟨ho,by simp [h.lu],by simp [h.lx],fun j u Y hu hY=> ?_,fun j Y hY=> ?_,(h.bel.trans (hW.mono h.bel.size)).trans hb⟩
 ·by_cases hj:j<i
  ·rw [List.getElem?_append_left (by rw [h.lu];exact hj)] at hu
   rw [List.getElem?_append_left (by rw [h.lx];exact hj)] at hY
   obtain ⟨b,e,c,n⟩:=h.i3 j u Y hu hY
   have:=old (c.later hW) n
   exact ⟨b,e,this.1,this.2⟩
  ·rw [List.getElem?_append_right (by rw [h.lu];omega),h.lu] at hu
   rw [List.getElem?_append_right (by rw [h.lx];omega),h.lx] at hY
   have hz:j-i=0:=by
    rcases Nat.eq_zero_or_pos (j-i) with hz|hz
    ·exact hz
    ·rw [List.getElem?_eq_none (by simp;omega)] at hu;cases hu
   rw [hz] at hu hY
   simp at hu hY
   subst hu hY
   have:=old hc (fun e=>by have:=(ownS_block h.own e).1;omega)
   exact ⟨_,rfl,this.1,this.2⟩
 ·by_cases hj:j<i
  ·rw [List.getElem?_append_left (by rw [h.lx];exact hj)] at hY
   exact h.wp j Y hY
  ·rw [List.getElem?_append_right (by rw [h.lx];omega),h.lx] at hY
   have hz:j-i=0:=by
    rcases Nat.eq_zero_or_pos (j-i) with hz|hz
    ·exact hz
    ·rw [List.getElem?_eq_none (by simp;omega)] at hY;cases hY
   obtain rfl:j=i:=by omega
   rw [hz] at hY
   simp at hY
   subst hY
   exact hp
def WhlsOut (w:World) (zs:List Int) (o:Ending) (w':World):Prop:=
 (o= .returned (.tuple #[.slice none 0 0,.bool false])∨ ∃(b c:Nat) (us:List Value) (Xs:List V3),o= .returned (.tuple #[.slice (some ⟨b,0,none⟩) 5 c,.bool true])∧us.length=5∧Xs.length=5∧Ce w' b us∧(∀(j:Nat) (u:Value) (X:V3),us[j]? =some u→Xs[j]? =some X→I3 w' u X)∧ ∀(j:Nat) (X:V3),Xs[j]? =some X→WP (zs.getD (j*3) 0) (zs.getD (j*3+1) 0) (zs.getD (j*3+2) 0) X)∧Below w.heap.size w w'
theorem wholes_any (pb:Nat) (zs:List Int) (w:World) (hl:zs.length=15) (hu:U32 zs) (hp:pb<w.heap.size) (hc: ∀j,j<15→w.cell? ⟨pb,j,none⟩=some (.int .u32 (zs.getD j 0))):Calls Tryz.prog 25 #[.slice (some ⟨pb,0,none⟩) 5 5] w (WhlsOut w zs):=by
 have HC:Hid (∀W,Below w.heap.size w W→ ∀j,j<15→W.cell? ⟨pb,j,none⟩=some (.int .u32 (zs.getD j 0))):=fun W hb j hj=>(hb.cell (p:=⟨pb,j,none⟩) hp).trans (hc j hj)
 have HU:=Hid.mk hu
 have HL:=Hid.mk hl
 clear hc hu hl
 go_enter Tryz.func25,Tryz.ntmps25
 go_wp2
 go_loopw [4,5] (fun so si wr=> ∃(i:Nat) (oa:Option Addr) (on oc:Nat) (us:List Value) (Xs:List V3),so= .slice oa on oc∧si= .int .i64 (i:Int)∧i≤5∧Hid (WhI w zs (.slice oa on oc) i us Xs wr)) (fun _ si _=>5-(intOf si).toNat)
 case atStart=>exact ⟨0,none,0,0,[],[],rfl,rfl,by omega,WhI.start w zs⟩
 case round=>
  obtain ⟨i,oa,on,oc,us,Xs,rfl,rfl,hi,HS⟩:=hrel
  by_cases h5:i=5
  ·subst h5
   go_wp2
   go_ret2
   have h:=HS.out
   rcases h.own.2 with ⟨_,h2⟩| ⟨g,cap,cur,h1,h2,h3,h4⟩
   ·cases h2
   ·have hg:=(ownS_block h.own (j:=g) (by rw [h1];rfl)).1
    refine ⟨.inr ⟨g,cap,us,Xs,?_,h.lu,h.lx,⟨hg,fun j u hj=> ?_⟩,fun j u X hu hX=> ?_,h.wp⟩,h.bel⟩
    ·injection h1 with e1 e2 e3
     subst e1 e2 e3
     rfl
    ·have h5:=h.own.cells (g:=g) (by rw [h1];rfl) j u hj
     rw [addr_add,Nat.zero_add] at h5
     exact h5
    ·obtain ⟨b,e,c,_⟩:=h.i3 j u X hu hX
     exact ⟨b,e,c⟩
  ·have f0:=HC.out wr HS.out.bel (i*3) (by omega)
   have f1:=HC.out wr HS.out.bel (i*3+1) (by omega)
   have f2:=HC.out wr HS.out.bel (i*3+2) (by omega)
   obtain ⟨x0,e0⟩: ∃x,x=zs.getD (i*3) 0:=⟨_,rfl⟩
   obtain ⟨x1,e1⟩: ∃x,x=zs.getD (i*3+1) 0:=⟨_,rfl⟩
   obtain ⟨x2,e2⟩: ∃x,x=zs.getD (i*3+2) 0:=⟨_,rfl⟩
   have b0:=HU.out.at (i*3)
   have b1:=HU.out.at (i*3+1)
   have b2:=HU.out.at (i*3+2)
   rw [←e0] at f0 b0
   rw [←e1] at f1 b1
   rw [←e2] at f2 b2
   have E0:=Hid.mk e0
   have E1:=Hid.mk e1
   have E2:=Hid.mk e2
   have hi5:(i:Int)<5:=by omega
   clear e0 e1 e2
   go_wp2_with fail
   refine (wholeI_any x0 _ b0.1 b0.2).mono ?_
   rintro o w1 ⟨⟨X,g0,rfl,hX⟩,rfl⟩
   have HX:=Hid.mk hX
   clear hX
   go_wp2_with fail
   refine (wholeI_any x1 _ b1.1 b1.2).mono ?_
   rintro o w1 ⟨⟨Y,g1,rfl,hY⟩,rfl⟩
   have HY:=Hid.mk hY
   clear hY
   go_wp2_with fail
   refine (wholeI_any x2 _ b2.1 b2.2).mono ?_
   rintro o w1 ⟨⟨Z,g2,rfl,hZ⟩,rfl⟩
   have HZ:=Hid.mk hZ
   clear hZ
   obtain ⟨W,hW⟩: ∃W,(w1.alloc (.cells #[.int .i64 X,.int .i64 Y,.int .i64 Z] 3)).alloc (.cells #[.slice (some ⟨w1.heap.size,0,none⟩) 3 3] 66)=W:=⟨_,rfl⟩
   have HB:Hid (Below w1.heap.size w1 W):=by unfold Hid;rw [←hW];exact bel2 _ _ _
   have HC1:Hid (Ce W w1.heap.size [.int .i64 X,.int .i64 Y,.int .i64 Z]):=by unfold Hid;rw [←hW];exact ((Cs.new _ _ _).later (bel0 _ _)).ce
   have HC2:Hid (Ce W (w1.heap.size+1) [.slice (some ⟨w1.heap.size,0,none⟩) 3 3]):=by
    have:=(Cs.new (w1.alloc (.cells #[.int .i64 X,.int .i64 Y,.int .i64 Z] 3)) #[.slice (some ⟨w1.heap.size,0,none⟩) 3 3] 66).ce
    unfold Hid;rw [←hW];simpa using this
   cases g0<;>cases g1<;>cases g2
   case true.true.true=>
    go_wp2_with (at_builtin;refine appH rfl (.tmp 55) (.tmp 60) 60 66 _ 1 24 Tryz.underlying60 info_ints rfl (by decide) rfl w.heap.size (.slice oa on oc) i 1 1 us [.slice (some ⟨w1.heap.size,0,none⟩) 3 3] (w1.heap.size+1) rfl rfl (ownS_later HS.out.own HB.out) (Nat.le_trans HS.out.bel.size HB.out.size) rfl (fun j u hj=>by rw [Nat.zero_add];exact HC2.out.2 j u hj) (by simp [Value.oneCell']) (by unfold maxLen;omega) (by omega) ?_;intro a' n' c' w' ho hs hk hb)
    go_roundw
    case rel=>exact ⟨i+1,a',n',c',_,Xs++[⟨X,Y,Z⟩],rfl,by go_num,by omega,Hid.mk (HS.out.step HB.out (X:=⟨X,Y,Z⟩) HC1.out ho hs hk hb ⟨by rw [←E0.out];exact HX.out trivial,by rw [←E1.out];exact HY.out trivial,by rw [←E2.out];exact HZ.out trivial⟩)⟩
    case measure=>simp [intOf];omega
   all_goals
    clear hW
    go_wp2
    go_ret2
    exact ⟨.inl rfl,HS.out.bel⟩
end Go.Proofs.YtfieffpobgcpmaaGreatDoor
