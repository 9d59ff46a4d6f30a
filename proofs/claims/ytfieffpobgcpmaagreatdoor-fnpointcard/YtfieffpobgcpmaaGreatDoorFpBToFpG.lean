import Derived.Handy
import Derived.Test.YtfieffpobgcpmaaGreatDoorDwGFpG
set_option maxRecDepth 100000
set_option maxHeartbeats 32000000
namespace Go.Proofs.YtfieffpobgcpmaaGreatDoor
open Go.RowKit
def wholeF (v:Int):Int:=
 if v=0 then 0 else if v=1 then 1065353216 else if v=2 then 1073741824 else if v=3 then 1077936128 else if v=4 then 1082130432 else if v=5 then 1084227584 else if v=6 then 1086324736 else if v=7 then 1088421888 else if v=8 then 1090519040
 else if v= -1 then 3212836864 else if v= -2 then 3221225472 else if v= -3 then 3225419776 else if v= -4 then 3229614080 else if v= -5 then 3231711232 else if v= -6 then 3233808384 else if v= -7 then 3235905536 else 3238002688
def WholeIs (b v:Int):Prop:= -8≤v∧v≤8∧b=wholeF v
theorem small_cases {v:Int} (h1: -8≤v) (h2:v≤8):v= -8∨v= -7∨v= -6∨v= -5∨v= -4∨v= -3∨v= -2∨v= -1∨v=0∨v=1∨v=2∨v=3∨v=4∨v=5∨v=6∨v=7∨v=8:=by omega
theorem WholeIs.cor {b v:Int} (h:WholeIs b v):cor b=2^149*v:=by
 obtain ⟨h1,h2,rfl⟩:=h
 rcases small_cases h1 h2 with h|h|h|h|h|h|h|h|h|h|h|h|h|h|h|h|h<;>subst h<;>decide+kernel
def WhlOut (b:Int) (w:World) (o:Ending) (w':World):Prop:=(∃(v:Int) (g:Bool),o= .returned (.tuple #[.int .i64 v,.bool g])∧(g=true→WholeIs b v))∧w'=w
theorem wholeI_any (b:Int) (w:World) (h0:0≤b) (h1:b<4294967296):Calls Tryz.prog 64 #[.int .u32 b] w (WhlOut b w):=by
 go_enter Tryz.func64,Tryz.ntmps64
 go_wp2
 go_loop [4] (fun s=> ∃v:Int,s= .int .i64 v∧ -8≤v∧v≤9) (fun s=>(9-intOf s).toNat)
 case atStart=>exact ⟨-8,rfl,by omega,by omega⟩
 case round=>
  obtain ⟨v,rfl,hv0,hv1⟩:=hrel
  by_cases hv:v=9
  ·subst hv
   go_wp2
   go_ret2
   exact ⟨⟨0,false,rfl,fun h=>by cases h⟩,rfl⟩
  rcases small_cases hv0 (by omega) with h|h|h|h|h|h|h|h|h|h|h|h|h|h|h|h|h<;>subst h<;>clear hv0 hv1 hv
  ·go_wp2
   go_loop [7] (fun s=> ∃j:Nat,s= .int .i64 j∧j≤3) (fun s=>(3-intOf s).toNat)
   case atStart=>exact ⟨0,rfl,by omega⟩
   case round=>
    obtain ⟨j,rfl,hj⟩:=hrel
    rcases (by omega:j=0∨j=1∨j=2∨j=3) with rfl|rfl|rfl|rfl
    ·go_wp2
     go_round
     case rel=>exact ⟨1,by go_num,by omega⟩
     case measure=>simp [intOf]
    ·go_wp2
     go_round
     case rel=>exact ⟨2,by go_num,by omega⟩
     case measure=>simp [intOf]
    ·go_wp2
     go_round
     case rel=>exact ⟨3,by go_num,by omega⟩
     case measure=>simp [intOf]
    ·by_cases hb:b=3238002688
     ·subst hb
      go_wp2
      go_ret2
      exact ⟨⟨-8,true,rfl,fun _=>⟨by omega,by omega,rfl⟩⟩,rfl⟩
     ·have hb1:((3238002688:Int)==b)=false:=by rw [beq_eq_false_iff_ne];exact fun h=>hb h.symm
      go_wp2
      go_round
      case rel=>exact ⟨-7,by go_num,by omega,by omega⟩
      case measure=>simp [intOf]
  ·go_wp2
   go_loop [7] (fun s=> ∃j:Nat,s= .int .i64 j∧j≤2) (fun s=>(2-intOf s).toNat)
   case atStart=>exact ⟨0,rfl,by omega⟩
   case round=>
    obtain ⟨j,rfl,hj⟩:=hrel
    rcases (by omega:j=0∨j=1∨j=2) with rfl|rfl|rfl
    ·go_wp2
     go_round
     case rel=>exact ⟨1,by go_num,by omega⟩
     case measure=>simp [intOf]
    ·go_wp2
     go_round
     case rel=>exact ⟨2,by go_num,by omega⟩
     case measure=>simp [intOf]
    ·by_cases hb:b=3235905536
     ·subst hb
      go_wp2
      go_ret2
      exact ⟨⟨-7,true,rfl,fun _=>⟨by omega,by omega,rfl⟩⟩,rfl⟩
     ·have hb1:((3235905536:Int)==b)=false:=by rw [beq_eq_false_iff_ne];exact fun h=>hb h.symm
      go_wp2
      go_round
      case rel=>exact ⟨-6,by go_num,by omega,by omega⟩
      case measure=>simp [intOf]
  ·go_wp2
   go_loop [7] (fun s=> ∃j:Nat,s= .int .i64 j∧j≤2) (fun s=>(2-intOf s).toNat)
   case atStart=>exact ⟨0,rfl,by omega⟩
   case round=>
    obtain ⟨j,rfl,hj⟩:=hrel
    rcases (by omega:j=0∨j=1∨j=2) with rfl|rfl|rfl
    ·go_wp2
     go_round
     case rel=>exact ⟨1,by go_num,by omega⟩
     case measure=>simp [intOf]
    ·go_wp2
     go_round
     case rel=>exact ⟨2,by go_num,by omega⟩
     case measure=>simp [intOf]
    ·by_cases hb:b=3233808384
     ·subst hb
      go_wp2
      go_ret2
      exact ⟨⟨-6,true,rfl,fun _=>⟨by omega,by omega,rfl⟩⟩,rfl⟩
     ·have hb1:((3233808384:Int)==b)=false:=by rw [beq_eq_false_iff_ne];exact fun h=>hb h.symm
      go_wp2
      go_round
      case rel=>exact ⟨-5,by go_num,by omega,by omega⟩
      case measure=>simp [intOf]
  ·go_wp2
   go_loop [7] (fun s=> ∃j:Nat,s= .int .i64 j∧j≤2) (fun s=>(2-intOf s).toNat)
   case atStart=>exact ⟨0,rfl,by omega⟩
   case round=>
    obtain ⟨j,rfl,hj⟩:=hrel
    rcases (by omega:j=0∨j=1∨j=2) with rfl|rfl|rfl
    ·go_wp2
     go_round
     case rel=>exact ⟨1,by go_num,by omega⟩
     case measure=>simp [intOf]
    ·go_wp2
     go_round
     case rel=>exact ⟨2,by go_num,by omega⟩
     case measure=>simp [intOf]
    ·by_cases hb:b=3231711232
     ·subst hb
      go_wp2
      go_ret2
      exact ⟨⟨-5,true,rfl,fun _=>⟨by omega,by omega,rfl⟩⟩,rfl⟩
     ·have hb1:((3231711232:Int)==b)=false:=by rw [beq_eq_false_iff_ne];exact fun h=>hb h.symm
      go_wp2
      go_round
      case rel=>exact ⟨-4,by go_num,by omega,by omega⟩
      case measure=>simp [intOf]
  ·go_wp2
   go_loop [7] (fun s=> ∃j:Nat,s= .int .i64 j∧j≤2) (fun s=>(2-intOf s).toNat)
   case atStart=>exact ⟨0,rfl,by omega⟩
   case round=>
    obtain ⟨j,rfl,hj⟩:=hrel
    rcases (by omega:j=0∨j=1∨j=2) with rfl|rfl|rfl
    ·go_wp2
     go_round
     case rel=>exact ⟨1,by go_num,by omega⟩
     case measure=>simp [intOf]
    ·go_wp2
     go_round
     case rel=>exact ⟨2,by go_num,by omega⟩
     case measure=>simp [intOf]
    ·by_cases hb:b=3229614080
     ·subst hb
      go_wp2
      go_ret2
      exact ⟨⟨-4,true,rfl,fun _=>⟨by omega,by omega,rfl⟩⟩,rfl⟩
     ·have hb1:((3229614080:Int)==b)=false:=by rw [beq_eq_false_iff_ne];exact fun h=>hb h.symm
      go_wp2
      go_round
      case rel=>exact ⟨-3,by go_num,by omega,by omega⟩
      case measure=>simp [intOf]
  ·go_wp2
   go_loop [7] (fun s=> ∃j:Nat,s= .int .i64 j∧j≤1) (fun s=>(1-intOf s).toNat)
   case atStart=>exact ⟨0,rfl,by omega⟩
   case round=>
    obtain ⟨j,rfl,hj⟩:=hrel
    rcases (by omega:j=0∨j=1) with rfl|rfl
    ·go_wp2
     go_round
     case rel=>exact ⟨1,by go_num,by omega⟩
     case measure=>simp [intOf]
    ·by_cases hb:b=3225419776
     ·subst hb
      go_wp2
      go_ret2
      exact ⟨⟨-3,true,rfl,fun _=>⟨by omega,by omega,rfl⟩⟩,rfl⟩
     ·have hb1:((3225419776:Int)==b)=false:=by rw [beq_eq_false_iff_ne];exact fun h=>hb h.symm
      go_wp2
      go_round
      case rel=>exact ⟨-2,by go_num,by omega,by omega⟩
      case measure=>simp [intOf]
  ·go_wp2
   go_loop [7] (fun s=> ∃j:Nat,s= .int .i64 j∧j≤1) (fun s=>(1-intOf s).toNat)
   case atStart=>exact ⟨0,rfl,by omega⟩
   case round=>
    obtain ⟨j,rfl,hj⟩:=hrel
    rcases (by omega:j=0∨j=1) with rfl|rfl
    ·go_wp2
     go_round
     case rel=>exact ⟨1,by go_num,by omega⟩
     case measure=>simp [intOf]
    ·by_cases hb:b=3221225472
     ·subst hb
      go_wp2
      go_ret2
      exact ⟨⟨-2,true,rfl,fun _=>⟨by omega,by omega,rfl⟩⟩,rfl⟩
     ·have hb1:((3221225472:Int)==b)=false:=by rw [beq_eq_false_iff_ne];exact fun h=>hb h.symm
      go_wp2
      go_round
      case rel=>exact ⟨-1,by go_num,by omega,by omega⟩
      case measure=>simp [intOf]
  ·go_wp2
   go_loop [7] (fun s=> ∃j:Nat,s= .int .i64 j∧j≤0) (fun s=>(0-intOf s).toNat)
   case atStart=>exact ⟨0,rfl,by omega⟩
   case round=>
    obtain ⟨j,rfl,hj⟩:=hrel
    obtain rfl:j=0:=by omega
    by_cases hb:b=3212836864
    ·subst hb
     go_wp2
     go_ret2
     exact ⟨⟨-1,true,rfl,fun _=>⟨by omega,by omega,rfl⟩⟩,rfl⟩
    ·have hb1:((3212836864:Int)==b)=false:=by rw [beq_eq_false_iff_ne];exact fun h=>hb h.symm
     go_wp2
     go_round
     case rel=>exact ⟨0,by go_num,by omega,by omega⟩
     case measure=>simp [intOf]
  ·by_cases hb:b=0
   ·subst hb
    go_wp2
    go_ret2
    exact ⟨⟨0,true,rfl,fun _=>⟨by omega,by omega,rfl⟩⟩,rfl⟩
   ·have hb1:((0:Int)==b)=false:=by rw [beq_eq_false_iff_ne];exact fun h=>hb h.symm
    go_wp2
    go_round
    case rel=>exact ⟨1,by go_num,by omega,by omega⟩
    case measure=>simp [intOf]
  ·go_wp2
   go_loop [7] (fun s=> ∃j:Nat,s= .int .i64 j∧j≤0) (fun s=>(0-intOf s).toNat)
   case atStart=>exact ⟨0,rfl,by omega⟩
   case round=>
    obtain ⟨j,rfl,hj⟩:=hrel
    obtain rfl:j=0:=by omega
    by_cases hb:b=1065353216
    ·subst hb
     go_wp2
     go_ret2
     exact ⟨⟨1,true,rfl,fun _=>⟨by omega,by omega,rfl⟩⟩,rfl⟩
    ·have hb1:((1065353216:Int)==b)=false:=by rw [beq_eq_false_iff_ne];exact fun h=>hb h.symm
     go_wp2
     go_round
     case rel=>exact ⟨2,by go_num,by omega,by omega⟩
     case measure=>simp [intOf]
  ·go_wp2
   go_loop [7] (fun s=> ∃j:Nat,s= .int .i64 j∧j≤1) (fun s=>(1-intOf s).toNat)
   case atStart=>exact ⟨0,rfl,by omega⟩
   case round=>
    obtain ⟨j,rfl,hj⟩:=hrel
    rcases (by omega:j=0∨j=1) with rfl|rfl
    ·go_wp2
     go_round
     case rel=>exact ⟨1,by go_num,by omega⟩
     case measure=>simp [intOf]
    ·by_cases hb:b=1073741824
     ·subst hb
      go_wp2
      go_ret2
      exact ⟨⟨2,true,rfl,fun _=>⟨by omega,by omega,rfl⟩⟩,rfl⟩
     ·have hb1:((1073741824:Int)==b)=false:=by rw [beq_eq_false_iff_ne];exact fun h=>hb h.symm
      go_wp2
      go_round
      case rel=>exact ⟨3,by go_num,by omega,by omega⟩
      case measure=>simp [intOf]
  ·go_wp2
   go_loop [7] (fun s=> ∃j:Nat,s= .int .i64 j∧j≤1) (fun s=>(1-intOf s).toNat)
   case atStart=>exact ⟨0,rfl,by omega⟩
   case round=>
    obtain ⟨j,rfl,hj⟩:=hrel
    rcases (by omega:j=0∨j=1) with rfl|rfl
    ·go_wp2
     go_round
     case rel=>exact ⟨1,by go_num,by omega⟩
     case measure=>simp [intOf]
    ·by_cases hb:b=1077936128
     ·subst hb
      go_wp2
      go_ret2
      exact ⟨⟨3,true,rfl,fun _=>⟨by omega,by omega,rfl⟩⟩,rfl⟩
     ·have hb1:((1077936128:Int)==b)=false:=by rw [beq_eq_false_iff_ne];exact fun h=>hb h.symm
      go_wp2
      go_round
      case rel=>exact ⟨4,by go_num,by omega,by omega⟩
      case measure=>simp [intOf]
  ·go_wp2
   go_loop [7] (fun s=> ∃j:Nat,s= .int .i64 j∧j≤2) (fun s=>(2-intOf s).toNat)
   case atStart=>exact ⟨0,rfl,by omega⟩
   case round=>
    obtain ⟨j,rfl,hj⟩:=hrel
    rcases (by omega:j=0∨j=1∨j=2) with rfl|rfl|rfl
    ·go_wp2
     go_round
     case rel=>exact ⟨1,by go_num,by omega⟩
     case measure=>simp [intOf]
    ·go_wp2
     go_round
     case rel=>exact ⟨2,by go_num,by omega⟩
     case measure=>simp [intOf]
    ·by_cases hb:b=1082130432
     ·subst hb
      go_wp2
      go_ret2
      exact ⟨⟨4,true,rfl,fun _=>⟨by omega,by omega,rfl⟩⟩,rfl⟩
     ·have hb1:((1082130432:Int)==b)=false:=by rw [beq_eq_false_iff_ne];exact fun h=>hb h.symm
      go_wp2
      go_round
      case rel=>exact ⟨5,by go_num,by omega,by omega⟩
      case measure=>simp [intOf]
  ·go_wp2
   go_loop [7] (fun s=> ∃j:Nat,s= .int .i64 j∧j≤2) (fun s=>(2-intOf s).toNat)
   case atStart=>exact ⟨0,rfl,by omega⟩
   case round=>
    obtain ⟨j,rfl,hj⟩:=hrel
    rcases (by omega:j=0∨j=1∨j=2) with rfl|rfl|rfl
    ·go_wp2
     go_round
     case rel=>exact ⟨1,by go_num,by omega⟩
     case measure=>simp [intOf]
    ·go_wp2
     go_round
     case rel=>exact ⟨2,by go_num,by omega⟩
     case measure=>simp [intOf]
    ·by_cases hb:b=1084227584
     ·subst hb
      go_wp2
      go_ret2
      exact ⟨⟨5,true,rfl,fun _=>⟨by omega,by omega,rfl⟩⟩,rfl⟩
     ·have hb1:((1084227584:Int)==b)=false:=by rw [beq_eq_false_iff_ne];exact fun h=>hb h.symm
      go_wp2
      go_round
      case rel=>exact ⟨6,by go_num,by omega,by omega⟩
      case measure=>simp [intOf]
  ·go_wp2
   go_loop [7] (fun s=> ∃j:Nat,s= .int .i64 j∧j≤2) (fun s=>(2-intOf s).toNat)
   case atStart=>exact ⟨0,rfl,by omega⟩
   case round=>
    obtain ⟨j,rfl,hj⟩:=hrel
    rcases (by omega:j=0∨j=1∨j=2) with rfl|rfl|rfl
    ·go_wp2
     go_round
     case rel=>exact ⟨1,by go_num,by omega⟩
     case measure=>simp [intOf]
    ·go_wp2
     go_round
     case rel=>exact ⟨2,by go_num,by omega⟩
     case measure=>simp [intOf]
    ·by_cases hb:b=1086324736
     ·subst hb
      go_wp2
      go_ret2
      exact ⟨⟨6,true,rfl,fun _=>⟨by omega,by omega,rfl⟩⟩,rfl⟩
     ·have hb1:((1086324736:Int)==b)=false:=by rw [beq_eq_false_iff_ne];exact fun h=>hb h.symm
      go_wp2
      go_round
      case rel=>exact ⟨7,by go_num,by omega,by omega⟩
      case measure=>simp [intOf]
  ·go_wp2
   go_loop [7] (fun s=> ∃j:Nat,s= .int .i64 j∧j≤2) (fun s=>(2-intOf s).toNat)
   case atStart=>exact ⟨0,rfl,by omega⟩
   case round=>
    obtain ⟨j,rfl,hj⟩:=hrel
    rcases (by omega:j=0∨j=1∨j=2) with rfl|rfl|rfl
    ·go_wp2
     go_round
     case rel=>exact ⟨1,by go_num,by omega⟩
     case measure=>simp [intOf]
    ·go_wp2
     go_round
     case rel=>exact ⟨2,by go_num,by omega⟩
     case measure=>simp [intOf]
    ·by_cases hb:b=1088421888
     ·subst hb
      go_wp2
      go_ret2
      exact ⟨⟨7,true,rfl,fun _=>⟨by omega,by omega,rfl⟩⟩,rfl⟩
     ·have hb1:((1088421888:Int)==b)=false:=by rw [beq_eq_false_iff_ne];exact fun h=>hb h.symm
      go_wp2
      go_round
      case rel=>exact ⟨8,by go_num,by omega,by omega⟩
      case measure=>simp [intOf]
  ·go_wp2
   go_loop [7] (fun s=> ∃j:Nat,s= .int .i64 j∧j≤3) (fun s=>(3-intOf s).toNat)
   case atStart=>exact ⟨0,rfl,by omega⟩
   case round=>
    obtain ⟨j,rfl,hj⟩:=hrel
    rcases (by omega:j=0∨j=1∨j=2∨j=3) with rfl|rfl|rfl|rfl
    ·go_wp2
     go_round
     case rel=>exact ⟨1,by go_num,by omega⟩
     case measure=>simp [intOf]
    ·go_wp2
     go_round
     case rel=>exact ⟨2,by go_num,by omega⟩
     case measure=>simp [intOf]
    ·go_wp2
     go_round
     case rel=>exact ⟨3,by go_num,by omega⟩
     case measure=>simp [intOf]
    ·by_cases hb:b=1090519040
     ·subst hb
      go_wp2
      go_ret2
      exact ⟨⟨8,true,rfl,fun _=>⟨by omega,by omega,rfl⟩⟩,rfl⟩
     ·have hb1:((1090519040:Int)==b)=false:=by rw [beq_eq_false_iff_ne];exact fun h=>hb h.symm
      go_wp2
      go_round
      case rel=>exact ⟨9,by go_num,by omega,by omega⟩
      case measure=>simp [intOf]
def WP (x y z:Int) (X:V3):Prop:=WholeIs x X.x∧WholeIs y X.y∧WholeIs z X.z
theorem WP.bnd {x y z:Int} {X:V3} (h:WP x y z X):Bnd3 8 X:=⟨⟨h.1.1,h.1.2.1⟩,⟨h.2.1.1,h.2.1.2.1⟩,⟨h.2.2.1,h.2.2.2.1⟩⟩
theorem WP.pv {x y z:Int} {X:V3} (h:WP x y z X):pv x y z=V3.sc (2^149) X:=by
 unfold Go.Proofs.YtfieffpobgcpmaaGreatDoor.pv V3.sc
 rw [h.1.cor,h.2.1.cor,h.2.2.cor]
theorem runH {W:World} (t ty e:TypeId) (z:Value) (sz bytes:Nat) (ht:Tryz.prog.underlying t=some (.slice e)) (hinfo:(Tryz.prog.info? e).map (fun i=>(i.zero,i.size,i.bytes))=some (some z,sz,bytes)) (hzs:z.cells.size=sz) (hsz:0<sz)
 (base:Nat) (sv:Value) (n m c:Nat) (cs news:List Value) (b:Nat) (own:W.ownsRow base e sz sv n cs) (ge:base≤W.heap.size)
 (hlen:news.length=m*sz) (hnews: ∀j u,news[j]? =some u→W.cell? ⟨b,0+j,none⟩=some u) (h1: ∀u∈news,u.oneCell'=true) (hn:n+m≤maxLen) (hby:(n+m)*bytes≤140737488355328):
 ∃a' n' c' w',(Builtin.append_ #[t,t] ty #[sv,.slice (some ⟨b,0,none⟩) m c]).run Tryz.prog W= .ok (.slice a' n' c') w'∧w'.ownsRow base e sz (.slice a' n' c') (n+m) (cs++news)∧W.heap.size≤w'.heap.size∧(∀j,j<W.heap.size→sv.ownBlock≠some j→w'.heap[j]? =W.heap[j]? ∧(Value.slice a' n' c').ownBlock≠some j)∧Below base W w':=by
 obtain ⟨i0,hi,hz0,hz1,hz2⟩:=info_parts hinfo
 obtain ⟨v',w',hr,hown',hgrow,_,hwhere⟩:=run_append_own_at (P:=Tryz.prog) W base t ty e i0 _ sz bytes ht hi hz0 hz1 hz2 hzs hsz sv n cs own ⟨b,0,none⟩ m c news hlen (by
  intro j u hj
  rw [addr_add]
  exact hnews j u hj) h1 hn hby ge
 obtain ⟨a',n',c',rfl⟩: ∃a' n' c',v'= .slice a' n' c':=by
  rcases hown'.2 with ⟨h1,_⟩| ⟨g,cap,cur,h1,_⟩
  ·exact ⟨_,_,_,h1⟩
  ·exact ⟨_,_,_,h1⟩
 refine ⟨a',n',c',w',hr,hown',hgrow.size,fun j hj hne=>⟨hgrow.block j hj (fun e=>hne e.symm),fun he=> ?_⟩,?_⟩
 ·rcases hwhere with hw|hw
  ·exact hne (hw▸he)
  ·rw [hw] at he
   injection he with he
   omega
 ·exact (Below.refl _ _).grown hgrow ge (fun kk hkk=>(ownS_block own hkk).2)
theorem appH {W:World} {ops:Array Oper} {rest:List Oper} {o:Oper} {a:Act} {Q:Exit→Act→World→Prop} (hgd:o.guard=none) (s x:Operand) (t e:TypeId) (z:Value) (sz bytes:Nat) (ht:Tryz.prog.underlying t=some (.slice e)) (hinfo:(Tryz.prog.info? e).map (fun i=>(i.zero,i.size,i.bytes))=some (some z,sz,bytes)) (hzs:z.cells.size=sz) (hsz:0<sz)
 (ho:o.op= .call {callee:= .builtin .append,args:=#[s,x],argTypes:=#[t,t]})
 (base:Nat) (sv:Value) (n m c:Nat) (cs news:List Value) (b:Nat) (hs:a.eval s=sv) (hx:a.eval x= .slice (some ⟨b,0,none⟩) m c) (own:W.ownsRow base e sz sv n cs) (ge:base≤W.heap.size)
 (hlen:news.length=m*sz) (hnews: ∀j u,news[j]? =some u→W.cell? ⟨b,0+j,none⟩=some u) (h1: ∀u∈news,u.oneCell'=true) (hn:n+m≤maxLen) (hby:(n+m)*bytes≤140737488355328)
 (h: ∀a' n' c' w',w'.ownsRow base e sz (.slice a' n' c') (n+m) (cs++news)→W.heap.size≤w'.heap.size→(∀j,j<W.heap.size→sv.ownBlock≠some j→w'.heap[j]? =W.heap[j]? ∧(Value.slice a' n' c').ownBlock≠some j)→Below base W w'→wpList Tryz.prog ops Q rest (a.put o.dst (.slice a' n' c')) w'):
 wpList Tryz.prog ops Q (o::rest) a W:=by
 refine wpList_plain hgd fun K hK=> ?_
 obtain ⟨a',n',c',w',hr,h2,h3,h4,h5⟩:=runH t o.type e z sz bytes ht hinfo hzs hsz base sv n m c cs news b own ge hlen hnews h1 hn hby
 unfold Oper.wp execOp
 simp only [ho,resolve,invoke,builtin,Sem.run_bind,Sem.run_pure,Result.andThen_ok,List.map_toArray,List.map_cons,List.map_nil,hs,hx,hr]
 exact hK _ _ (h a' n' c' w' h2 h3 h4 h5)
theorem info_ints:(Tryz.prog.info? 66).map (fun i=>(i.zero,i.size,i.bytes))=some (some (.slice none 0 0),1,24):=by kernel_rfl
structure WhI (w:World) (zs:List Int) (so:Value) (i:Nat) (us:List Value) (Xs:List V3) (wr:World):Prop where
 own:wr.ownsRow w.heap.size 66 1 so i us
 lu:us.length=i
 lx:Xs.length=i
 i3: ∀(j:Nat) (u:Value) (X:V3),us[j]? =some u→Xs[j]? =some X→ ∃b,u= .slice (some ⟨b,0,none⟩) 3 3∧Ce wr b [.int .i64 X.x,.int .i64 X.y,.int .i64 X.z]∧so.ownBlock≠some b
 wp: ∀(j:Nat) (X:V3),Xs[j]? =some X→WP (zs.getD (j*3) 0) (zs.getD (j*3+1) 0) (zs.getD (j*3+2) 0) X
 bel:Below w.heap.size w wr
theorem WhI.start (w:World) (zs:List Int):WhI w zs (.slice none 0 0) 0 [] [] w:=
 ⟨World.ownsRow_nil _ _ _ _,rfl,rfl,fun _ _ _ h=>by simp at h,fun _ _ h=>by simp at h,Below.refl _ _⟩
theorem WhI.step {w wr W w':World} {zs:List Int} {so so':Value} {i:Nat} {us:List Value} {Xs:List V3} {X:V3} (h:WhI w zs so i us Xs wr) (hW:Below wr.heap.size wr W) (hc:Ce W wr.heap.size [.int .i64 X.x,.int .i64 X.y,.int .i64 X.z])
 (ho:w'.ownsRow w.heap.size 66 1 so' (i+1) (us++[.slice (some ⟨wr.heap.size,0,none⟩) 3 3])) (hs:W.heap.size≤w'.heap.size) (hk: ∀j,j<W.heap.size→so.ownBlock≠some j→w'.heap[j]? =W.heap[j]? ∧so'.ownBlock≠some j) (hb:Below w.heap.size W w')
 (hp:WP (zs.getD (i*3) 0) (zs.getD (i*3+1) 0) (zs.getD (i*3+2) 0) X):WhI w zs so' (i+1) (us++[.slice (some ⟨wr.heap.size,0,none⟩) 3 3]) (Xs++[X]) w':=by
 have old: ∀{b:Nat} {cs:List Value},Ce W b cs→so.ownBlock≠some b→Ce w' b cs∧so'.ownBlock≠some b:=fun hC hn=>⟨hC.stay hs (hk _ hC.1 hn).1,(hk _ hC.1 hn).2⟩
 refine ⟨ho,by simp [h.lu],by simp [h.lx],fun j u Y hu hY=> ?_,fun j Y hY=> ?_,(h.bel.trans (hW.mono h.bel.size)).trans hb⟩
 ·by_cases hj:j<i
  ·rw [List.getElem?_append_left (by rw [h.lu];exact hj)] at hu
   rw [List.getElem?_append_left (by rw [h.lx];exact hj)] at hY
   obtain ⟨b,e,c,n⟩:=h.i3 j u Y hu hY
   have:=old (c.later hW) n
   exact ⟨b,e,this.1,this.2⟩
  ·rw [List.getElem?_append_right (by rw [h.lu];omega),h.lu] at hu
   rw [List.getElem?_append_right (by rw [h.lx];omega),h.lx] at hY
   have hz:j-i=0:=by
    rcases Nat.eq_zero_or_pos (j-i) with hz|hz
    ·exact hz
    ·rw [List.getElem?_eq_none (by simp;omega)] at hu;cases hu
   rw [hz] at hu hY
   simp at hu hY
   subst hu hY
   have:=old hc (fun e=>by have:=(ownS_block h.own e).1;omega)
   exact ⟨_,rfl,this.1,this.2⟩
 ·by_cases hj:j<i
  ·rw [List.getElem?_append_left (by rw [h.lx];exact hj)] at hY
   exact h.wp j Y hY
  ·rw [List.getElem?_append_right (by rw [h.lx];omega),h.lx] at hY
   have hz:j-i=0:=by
    rcases Nat.eq_zero_or_pos (j-i) with hz|hz
    ·exact hz
    ·rw [List.getElem?_eq_none (by simp;omega)] at hY;cases hY
   obtain rfl:j=i:=by omega
   rw [hz] at hY
   simp at hY
   subst hY
   exact hp
def WhlsOut (w:World) (zs:List Int) (o:Ending) (w':World):Prop:=
 (o= .returned (.tuple #[.slice none 0 0,.bool false])∨ ∃(b c:Nat) (us:List Value) (Xs:List V3),o= .returned (.tuple #[.slice (some ⟨b,0,none⟩) 5 c,.bool true])∧us.length=5∧Xs.length=5∧Ce w' b us∧(∀(j:Nat) (u:Value) (X:V3),us[j]? =some u→Xs[j]? =some X→I3 w' u X)∧ ∀(j:Nat) (X:V3),Xs[j]? =some X→WP (zs.getD (j*3) 0) (zs.getD (j*3+1) 0) (zs.getD (j*3+2) 0) X)∧Below w.heap.size w w'
theorem wholes_any (pb:Nat) (zs:List Int) (w:World) (hl:zs.length=15) (hu:U32 zs) (hp:pb<w.heap.size) (hc: ∀j,j<15→w.cell? ⟨pb,j,none⟩=some (.int .u32 (zs.getD j 0))):Calls Tryz.prog 25 #[.slice (some ⟨pb,0,none⟩) 5 5] w (WhlsOut w zs):=by
 have HC:Hid (∀W,Below w.heap.size w W→ ∀j,j<15→W.cell? ⟨pb,j,none⟩=some (.int .u32 (zs.getD j 0))):=fun W hb j hj=>(hb.cell (p:=⟨pb,j,none⟩) hp).trans (hc j hj)
 have HU:=Hid.mk hu
 have HL:=Hid.mk hl
 clear hc hu hl
 go_enter Tryz.func25,Tryz.ntmps25
 go_wp2
 go_loopw [4,5] (fun so si wr=> ∃(i:Nat) (oa:Option Addr) (on oc:Nat) (us:List Value) (Xs:List V3),so= .slice oa on oc∧si= .int .i64 (i:Int)∧i≤5∧Hid (WhI w zs (.slice oa on oc) i us Xs wr)) (fun _ si _=>5-(intOf si).toNat)
 case atStart=>exact ⟨0,none,0,0,[],[],rfl,rfl,by omega,WhI.start w zs⟩
 case round=>
  obtain ⟨i,oa,on,oc,us,Xs,rfl,rfl,hi,HS⟩:=hrel
  by_cases h5:i=5
  ·subst h5
   go_wp2
   go_ret2
   have h:=HS.out
   rcases h.own.2 with ⟨_,h2⟩| ⟨g,cap,cur,h1,h2,h3,h4⟩
   ·cases h2
   ·have hg:=(ownS_block h.own (j:=g) (by rw [h1];rfl)).1
    refine ⟨.inr ⟨g,cap,us,Xs,?_,h.lu,h.lx,⟨hg,fun j u hj=> ?_⟩,fun j u X hu hX=> ?_,h.wp⟩,h.bel⟩
    ·injection h1 with e1 e2 e3
     subst e1 e2 e3
     rfl
    ·have h5:=h.own.cells (g:=g) (by rw [h1];rfl) j u hj
     rw [addr_add,Nat.zero_add] at h5
     exact h5
    ·obtain ⟨b,e,c,_⟩:=h.i3 j u X hu hX
     exact ⟨b,e,c⟩
  ·have f0:=HC.out wr HS.out.bel (i*3) (by omega)
   have f1:=HC.out wr HS.out.bel (i*3+1) (by omega)
   have f2:=HC.out wr HS.out.bel (i*3+2) (by omega)
   obtain ⟨x0,e0⟩: ∃x,x=zs.getD (i*3) 0:=⟨_,rfl⟩
   obtain ⟨x1,e1⟩: ∃x,x=zs.getD (i*3+1) 0:=⟨_,rfl⟩
   obtain ⟨x2,e2⟩: ∃x,x=zs.getD (i*3+2) 0:=⟨_,rfl⟩
   have b0:=HU.out.at (i*3)
   have b1:=HU.out.at (i*3+1)
   have b2:=HU.out.at (i*3+2)
   rw [←e0] at f0 b0
   rw [←e1] at f1 b1
   rw [←e2] at f2 b2
   have E0:=Hid.mk e0
   have E1:=Hid.mk e1
   have E2:=Hid.mk e2
   have hi5:(i:Int)<5:=by omega
   clear e0 e1 e2
   go_wp2_with fail
   refine (wholeI_any x0 _ b0.1 b0.2).mono ?_
   rintro o w1 ⟨⟨X,g0,rfl,hX⟩,rfl⟩
   have HX:=Hid.mk hX
   clear hX
   go_wp2_with fail
   refine (wholeI_any x1 _ b1.1 b1.2).mono ?_
   rintro o w1 ⟨⟨Y,g1,rfl,hY⟩,rfl⟩
   have HY:=Hid.mk hY
   clear hY
   go_wp2_with fail
   refine (wholeI_any x2 _ b2.1 b2.2).mono ?_
   rintro o w1 ⟨⟨Z,g2,rfl,hZ⟩,rfl⟩
   have HZ:=Hid.mk hZ
   clear hZ
   obtain ⟨W,hW⟩: ∃W,(w1.alloc (.cells #[.int .i64 X,.int .i64 Y,.int .i64 Z] 3)).alloc (.cells #[.slice (some ⟨w1.heap.size,0,none⟩) 3 3] 66)=W:=⟨_,rfl⟩
   have HB:Hid (Below w1.heap.size w1 W):=by unfold Hid;rw [←hW];exact bel2 _ _ _
   have HC1:Hid (Ce W w1.heap.size [.int .i64 X,.int .i64 Y,.int .i64 Z]):=by unfold Hid;rw [←hW];exact ((Cs.new _ _ _).later (bel0 _ _)).ce
   have HC2:Hid (Ce W (w1.heap.size+1) [.slice (some ⟨w1.heap.size,0,none⟩) 3 3]):=by
    have:=(Cs.new (w1.alloc (.cells #[.int .i64 X,.int .i64 Y,.int .i64 Z] 3)) #[.slice (some ⟨w1.heap.size,0,none⟩) 3 3] 66).ce
    unfold Hid;rw [←hW];simpa using this
   cases g0<;>cases g1<;>cases g2
   case true.true.true=>
    go_wp2_with (at_builtin;refine appH rfl (.tmp 55) (.tmp 60) 60 66 _ 1 24 Tryz.underlying60 info_ints rfl (by decide) rfl w.heap.size (.slice oa on oc) i 1 1 us [.slice (some ⟨w1.heap.size,0,none⟩) 3 3] (w1.heap.size+1) rfl rfl (ownS_later HS.out.own HB.out) (Nat.le_trans HS.out.bel.size HB.out.size) rfl (fun j u hj=>by rw [Nat.zero_add];exact HC2.out.2 j u hj) (by simp [Value.oneCell']) (by unfold maxLen;omega) (by omega) ?_;intro a' n' c' w' ho hs hk hb)
    go_roundw
    case rel=>exact ⟨i+1,a',n',c',_,Xs++[⟨X,Y,Z⟩],rfl,by go_num,by omega,Hid.mk (HS.out.step HB.out (X:=⟨X,Y,Z⟩) HC1.out ho hs hk hb ⟨by rw [←E0.out];exact HX.out trivial,by rw [←E1.out];exact HY.out trivial,by rw [←E2.out];exact HZ.out trivial⟩)⟩
    case measure=>simp [intOf];omega
   all_goals
    clear hW
    go_wp2
    go_ret2
    exact ⟨.inl rfl,HS.out.bel⟩
def corner (A B C:V3) (i:Nat):V3:=if i=0 then A else if i=1 then B else if i=2 then C else A
def ptV (O D:V3) (s q:Int):V3:=⟨O.x*q+D.x*s,O.y*q+D.y*s,O.z*q+D.z*s⟩
def mulV (X:V3) (q:Int):V3:=⟨X.x*q,X.y*q,X.z*q⟩
theorem from_at (O D X:V3) (s q:Int):(ptV O D s q).sub (mulV X q)=at3 O D X s q:=by
 simp only [ptV,mulV,V3.sub,at3,V3.mk.injEq];grind
def sideI (A B C O D:V3) (s q:Int) (i:Nat):Int:=((nrm A B C).cross ((corner A B C (i+1)).sub (corner A B C i))).dot (at3 O D (corner A B C i) s q)
structure FstP (A B C O D:V3) (s q:Int):Prop where
 s0:0≤s
 s1:s≤10000000
 q0:0<q
 q1:q≤10000000
 on: ∀i,i<3→(nrm A B C).dot (at3 O D (corner A B C i) s q)=0
 side: ∀i,i<3→0≤sideI A B C O D s q i
 plane:s*(nrm A B C).dot D=q*(nrm A B C).dot (A.sub O)
 edge:(nrm A B C).dot D=0→s=0∨ ∃i,i<3∧sideI A B C O D s q i=0
theorem three {i:Nat} (h:i<3):i=0∨i=1∨i=2:=by omega
theorem sideI_0 (A B C O D:V3) (s q:Int):sideI A B C O D s q 0=((nrm A B C).cross (B.sub A)).dot (O.sub A)*q+s*((nrm A B C).cross (B.sub A)).dot D:=at_lin _ _ _ _ _ _
theorem sideI_1 (A B C O D:V3) (s q:Int):sideI A B C O D s q 1=((nrm A B C).cross (C.sub B)).dot (O.sub B)*q+s*((nrm A B C).cross (C.sub B)).dot D:=at_lin _ _ _ _ _ _
theorem sideI_2 (A B C O D:V3) (s q:Int):sideI A B C O D s q 2=((nrm A B C).cross (A.sub C)).dot (O.sub C)*q+s*((nrm A B C).cross (A.sub C)).dot D:=at_lin _ _ _ _ _ _
theorem first_point {A B C O D:V3} {a b c d u v:Int} (hA:Bnd3 8 A) (hB:Bnd3 8 B) (hC:Bnd3 8 C) (hO:Bnd3 8 O) (hD:Bnd3 8 D) (h:Span (Meets A B C O D) a b c d) (hl:Low a b u v):FstP A B C O D u v:=by
 obtain ⟨k0,k1,k2,k3⟩:=first_small hA hB hC hO hD h hl
 obtain ⟨hm,hl'⟩:=low_least h hl
 have hm':=hm
 obtain ⟨_,_,h2,h3,h4,h5⟩:=hm
 have p0:(nrm A B C).dot (at3 O D A u v)=0:=by rw [at_lin];exact h2
 have p1:(nrm A B C).dot (at3 O D B u v)=0:=by rw [at_b _ O D A B,p0,nrm_e0];simp
 have p2:(nrm A B C).dot (at3 O D C u v)=0:=by rw [at_b _ O D B C,p1,nrm_e1];simp
 refine ⟨k0,k1,k2,k3,fun i hi=> ?_,fun i hi=> ?_,?_,fun hd=> ?_⟩
 ·rcases three hi with rfl|rfl|rfl
  ·exact p0
  ·exact p1
  ·exact p2
 ·rcases three hi with rfl|rfl|rfl
  ·rw [sideI_0];exact h3
  ·rw [sideI_1];exact h4
  ·rw [sideI_2];exact h5
 ·rw [dot_swap,Int.neg_mul] at h2
  rw [Int.mul_comm v];omega
 ·rcases Int.lt_or_le 0 u with h0|h0
  ·right
   rcases first_edge k2 h0 hd hm' hl' with ⟨_,h⟩| ⟨_,h⟩| ⟨_,h⟩
   ·exact ⟨0,by omega,by rw [sideI_0];exact h⟩
   ·exact ⟨1,by omega,by rw [sideI_1];exact h⟩
   ·exact ⟨2,by omega,by rw [sideI_2];exact h⟩
  ·left;omega
theorem b1_one {zs:List Int} {u:Int} (h:B1 false zs u) (h1:u<4294967296):zs=[]∧u=0∨zs=[u]:=by
 have hv:u=val 4294967296 zs:=h.num
 by_cases hz:zs=[]
 ·subst hz;exact .inl ⟨rfl,hv⟩
 ·have hp:=val_pos (B:=4294967296) (by decide) h.can hz
  right
  refine canon_inj (B:=4294967296) (by decide) h.can (canon_last (fun z hz=> ?_) (by simp) (by simp;omega)) (by simp [val];omega)
  simp at hz;omega
theorem Span.congr {P Q:Int→Int→Prop} {a b c d:Int} (h:Span P a b c d) (e: ∀p q,P p q↔Q p q):Span Q a b c d:=
 ⟨h.hb,h.hd,h.le,fun p q hq=>(e p q).symm.trans (h.is p q hq)⟩
theorem first_hit {t0 t1 t2 t3 t4 t5 t6 t7 t8 s0 s1 s2 s3 s4 s5:Int} {A B C O D:V3} {R:Int×Int×Int×Int} {u v:Int} (hA:WP t0 t1 t2 A) (hB:WP t3 t4 t5 B) (hC:WP t6 t7 t8 C) (hO:WP s0 s1 s2 O) (hD:WP s3 s4 s5 D)
 (h:Met (Meets (pv t0 t1 t2) (pv t3 t4 t5) (pv t6 t7 t8) (pv s0 s1 s2) (pv s3 s4 s5)) R) (h0:0<R.2.1) (hl:Low R.1 R.2.1 u v):FstP A B C O D u v:=by
 rw [hA.pv,hB.pv,hC.pv,hO.pv,hD.pv] at h
 rcases h with h| ⟨_,rfl⟩
 ·exact first_point hA.bnd hB.bnd hC.bnd hO.bnd hD.bnd (h.congr fun p q=>Meets.scale (2^149) (by decide) A B C O D p q) hl
 ·exact absurd h0 (by decide)
theorem mulV_bnd {X:V3} {k q l:Int} (h:Bnd3 k X) (hq: -l≤q∧q≤l):Bnd3 (k*l) (mulV X q):=⟨mulb h.1 hq,mulb h.2.1 hq,mulb h.2.2 hq⟩
theorem ptV_bnd {O D:V3} {s q:Int} (hO:Bnd3 8 O) (hD:Bnd3 8 D) (hs: -10000000≤s∧s≤10000000) (hq: -10000000≤q∧q≤10000000):Bnd3 160000000 (ptV O D s q):=by
 have a:=mulV_bnd hO hq
 have b:=mulV_bnd hD hs
 obtain ⟨a1,a2,a3⟩:=a
 obtain ⟨b1,b2,b3⟩:=b
 simp only [mulV] at a1 a2 a3 b1 b2 b3
 unfold Bnd3 ptV
 exact ⟨by simp only;omega,by simp only;omega,by simp only;omega⟩
theorem Bnd3.up {k l:Int} {X:V3} (h:Bnd3 k X) (hk:k≤l):Bnd3 l X:=by
 obtain ⟨h1,h2,h3⟩:=h
 exact ⟨by omega,by omega,by omega⟩
structure HpS (w:World) (T S:List Value) (W:World):Prop where
 t:Cs W w.heap.size T
 r:Cs W (w.heap.size+1) S
 bel:Below w.heap.size w W
theorem HpS.later {w:World} {T S:List Value} {W W':World} (h:HpS w T S W) (hb:Below W.heap.size W W'):HpS w T S W':=
 ⟨h.t.later hb,h.r.later hb,h.bel.trans (hb.mono h.bel.size)⟩
theorem HpS.start (w:World) (T S:Array Value) (x y:TypeId):HpS w T.toList S.toList ((w.alloc (.cells T x)).alloc (.cells S y)):=by
 have h1:=Cs.new (w.alloc (.cells T x)) S y
 have e1:(w.alloc (.cells T x)).heap.size=w.heap.size+1:=by simp
 rw [e1] at h1
 exact ⟨(Cs.new w T x).later (bel0 _ _),h1,(bel0 _ _).trans ((bel0 _ _).mono (by simp))⟩
theorem list5 {α:Type} {l:List α} (h:l.length=5): ∃a b c d e,l=[a,b,c,d,e]:=by
 match l,h with
 | [a,b,c,d,e],_=>exact ⟨a,b,c,d,e,rfl⟩
structure VsI (vb bA bB bC bO bD:Nat) (A B C O D:V3) (W:World):Prop where
 v:Ce W vb [.slice (some ⟨bA,0,none⟩) 3 3,.slice (some ⟨bB,0,none⟩) 3 3,.slice (some ⟨bC,0,none⟩) 3 3,.slice (some ⟨bO,0,none⟩) 3 3,.slice (some ⟨bD,0,none⟩) 3 3]
 a:Ce W bA [.int .i64 A.x,.int .i64 A.y,.int .i64 A.z]
 b:Ce W bB [.int .i64 B.x,.int .i64 B.y,.int .i64 B.z]
 c:Ce W bC [.int .i64 C.x,.int .i64 C.y,.int .i64 C.z]
 o:Ce W bO [.int .i64 O.x,.int .i64 O.y,.int .i64 O.z]
 d:Ce W bD [.int .i64 D.x,.int .i64 D.y,.int .i64 D.z]
theorem VsI.later {vb bA bB bC bO bD:Nat} {A B C O D:V3} {W W':World} (h:VsI vb bA bB bC bO bD A B C O D W) (hb:Below W.heap.size W W'):VsI vb bA bB bC bO bD A B C O D W':=
 ⟨h.v.later hb,h.a.later hb,h.b.later hb,h.c.later hb,h.o.later hb,h.d.later hb⟩
theorem cs_u32 {W:World} {b:Nat} {zs:List Int} (h:Cs W b (zs.map (Value.int .u32))): ∀j,j<zs.length→W.cell? ⟨b,j,none⟩=some (.int .u32 (zs.getD j 0)):=by
 intro j hj
 refine h.at j ?_
 simp [hj]
theorem wholes15 (t0 t1 t2 t3 t4 t5 t6 t7 t8 s0 s1 s2 s3 s4 s5:Int) (W:World) (hu:U32 [t0,t1,t2,t3,t4,t5,t6,t7,t8,s0,s1,s2,s3,s4,s5]):
 Calls Tryz.prog 25 #[.slice (some ⟨W.heap.size,0,none⟩) 5 5] (W.alloc (.cells #[.int .u32 t0,.int .u32 t1,.int .u32 t2,.int .u32 t3,.int .u32 t4,.int .u32 t5,.int .u32 t6,.int .u32 t7,.int .u32 t8,.int .u32 s0,.int .u32 s1,.int .u32 s2,.int .u32 s3,.int .u32 s4,.int .u32 s5] 34)) (WhlsOut (W.alloc (.cells #[.int .u32 t0,.int .u32 t1,.int .u32 t2,.int .u32 t3,.int .u32 t4,.int .u32 t5,.int .u32 t6,.int .u32 t7,.int .u32 t8,.int .u32 s0,.int .u32 s1,.int .u32 s2,.int .u32 s3,.int .u32 s4,.int .u32 s5] 34)) [t0,t1,t2,t3,t4,t5,t6,t7,t8,s0,s1,s2,s3,s4,s5]):=by
 have h:=cs_u32 (zs:=[t0,t1,t2,t3,t4,t5,t6,t7,t8,s0,s1,s2,s3,s4,s5]) (by simpa using Cs.new W #[.int .u32 t0,.int .u32 t1,.int .u32 t2,.int .u32 t3,.int .u32 t4,.int .u32 t5,.int .u32 t6,.int .u32 t7,.int .u32 t8,.int .u32 s0,.int .u32 s1,.int .u32 s2,.int .u32 s3,.int .u32 s4,.int .u32 s5] 34)
 exact wholes_any W.heap.size [t0,t1,t2,t3,t4,t5,t6,t7,t8,s0,s1,s2,s3,s4,s5] _ rfl hu (by simp) h
structure LpI (vb bA bB bC bO bD cb pb nb:Nat) (A B C O D P:V3) (w0 W:World):Prop where
 vs:VsI vb bA bB bC bO bD A B C O D W
 c:Ce W cb [.slice (some ⟨bA,0,none⟩) 3 3,.slice (some ⟨bB,0,none⟩) 3 3,.slice (some ⟨bC,0,none⟩) 3 3,.slice (some ⟨bA,0,none⟩) 3 3]
 p:Ce W pb [.int .i64 P.x,.int .i64 P.y,.int .i64 P.z]
 n:Ce W nb [.int .i64 (nrm A B C).x,.int .i64 (nrm A B C).y,.int .i64 (nrm A B C).z]
 bel:Below w0.heap.size w0 W
theorem LpI.later {vb bA bB bC bO bD cb pb nb:Nat} {A B C O D P:V3} {w0 W W':World} (h:LpI vb bA bB bC bO bD cb pb nb A B C O D P w0 W) (hb:Below W.heap.size W W'):LpI vb bA bB bC bO bD cb pb nb A B C O D P w0 W':=
 ⟨h.vs.later hb,h.c.later hb,h.p.later hb,h.n.later hb,h.bel.trans (hb.mono h.bel.size)⟩
theorem LpI.corner {vb bA bB bC bO bD cb pb nb:Nat} {A B C O D P:V3} {w0 W:World} (h:LpI vb bA bB bC bO bD cb pb nb A B C O D P w0 W) {i:Nat} (hi:i<3): ∃bX bY,W.cell? ⟨cb,i,none⟩=some (.slice (some ⟨bX,0,none⟩) 3 3)∧Ce W bX [.int .i64 (corner A B C i).x,.int .i64 (corner A B C i).y,.int .i64 (corner A B C i).z]∧W.cell? ⟨cb,i+1,none⟩=some (.slice (some ⟨bY,0,none⟩) 3 3)∧Ce W bY [.int .i64 (corner A B C (i+1)).x,.int .i64 (corner A B C (i+1)).y,.int .i64 (corner A B C (i+1)).z]:=by
 rcases three hi with rfl|rfl|rfl
 ·exact ⟨bA,bB,h.c.at 0 rfl,h.vs.a,h.c.at 1 rfl,h.vs.b⟩
 ·exact ⟨bB,bC,h.c.at 1 rfl,h.vs.b,h.c.at 2 rfl,h.vs.c⟩
 ·exact ⟨bC,bA,h.c.at 2 rfl,h.vs.c,h.c.at 3 rfl,h.vs.a⟩
theorem corner_bnd {A B C:V3} (a:Bnd3 8 A) (b:Bnd3 8 B) (c:Bnd3 8 C) (i:Nat):Bnd3 8 (corner A B C i):=by
 unfold corner
 split
 ·exact a
 ·split
  ·exact b
  ·split
   ·exact c
   ·exact a
def EdgI (A B C O D:V3) (s q:Int) (i:Nat) (e:Bool):Prop:=(s=0→e=true)∧ ∀j,j<i→sideI A B C O D s q j=0→e=true
theorem EdgI.step {A B C O D:V3} {s q:Int} {i:Nat} {e e':Bool} (h:EdgI A B C O D s q i e) (h1:e=true→e'=true) (h2:sideI A B C O D s q i=0→e'=true):EdgI A B C O D s q (i+1) e':=
 ⟨fun z=>h1 (h.1 z),fun j hj z=>by
  by_cases hji:j<i
  ·exact h1 (h.2 j hji z)
  ·obtain rfl:j=i:=by omega
   exact h2 z⟩
end Go.Proofs.YtfieffpobgcpmaaGreatDoor
