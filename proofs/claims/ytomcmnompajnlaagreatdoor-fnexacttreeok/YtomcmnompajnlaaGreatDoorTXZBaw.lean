import Derived.Test.YtomcmnompajnlaaGreatDoorTXZaa
import Derived.Deep.Slices
import Derived.SizedLaws
import Derived.Carry
import Derived.Test.YtomcmnompajnlaaGreatDoorBBab
import Derived.Test.YtomcmnompajnlaaGreatDoorBBaa
import Derived.Test.YtomcmnompajnlaaGreatDoorProg
import GoSem.Claim
import GoSem.ClaimJoined
import GoSem.ClaimMapViews
import Derived.JoinedTies
import Derived.KernelRfl
import Derived.WalkKit
import Derived.ProofKit
import Derived.OpenShut
import Derived.Handy
import Derived.Laws.Strings3
import Derived.Lib.Strings
import Derived.Laws.OwnMore
import Derived.Laws.IdiomStrings
import Derived.Lib.UnsafeStr
import Derived.Deep.QuietTactic
import Derived.BigQuiet
import Derived.Deep.AppendLies
import Derived.Deep.RegionHeldLaw
import Derived.Deep.CutBlock
import Derived.Laws.MakeOwn
import Derived.OwnWalk
import Derived.WalkSpells
set_option maxRecDepth 100000
set_option maxHeartbeats 16000000
namespace Go.Proofs.YtomcmnompajnlaaGreatDoor.Fo.Po
open Go.ChangeShapes Go.WideShapes Go.ChangeAt Go.RowKit
set_option linter.unusedVariables false
theorem cellsF:Tryz.prog.cellsOf 100=1:=by kernel_rfl
theorem cells22:Tryz.prog.cellsOf 47=1:=by kernel_rfl
theorem cells24:Tryz.prog.cellsOf 49=1:=by kernel_rfl
theorem cells47:Tryz.prog.cellsOf 131=10:=by kernel_rfl
theorem bytes47:Tryz.prog.bytesOf 131=120:=by kernel_rfl
section
variable {H:Type} {enc:TypeId × Value→H} {w:World} {base:Nat} {sp:Nat→Bool} {held:Bool}
theorem trod_flt {fuel:Nat} {t:TypeId} {cs:List Value} {x:DataW H × List MemPlace} (ht:Tryz.prog.underlying t=some (.float .f64)) (h:DataW.trod enc Tryz.prog w base sp held fuel t cs=some x):∃ n,cs = [.float .f64 n]∧n < 18446744073709551616:=by
 cases fuel with
 | zero=>simp [DataW.trod] at h
 | succ n =>
  unfold DataW.trod at h
  rw [ht] at h
  split at h <;> simp_all
  rename_i k b e
  subst e
  obtain ⟨⟨h1,h2⟩,_⟩:=h
  simpa [Lit.wf] using h2
theorem read_form {fuel : Nat} {cs : List Value} {x : DataW H × List MemPlace} {b : Addr} (h : DataW.trod enc Tryz.prog w base sp held fuel 131 cs = some x) (hc : w.cells? base b 10 = some cs) (hz : Sz 131 x.1) :
  ∃ g:Gv,FormC w b g∧(g.a.x.size:Int) < 140737488355328∧(g.p:Int) < 140737488355328∧(∀ j,j < g.p→((g.A j).size:Int) < 140737488355328)∧(g.q:Int) < 140737488355328∧g.a.g < 18446744073709551616∧(-9223372036854775808≤g.a.m∧g.a.m≤9223372036854775807):=by
 obtain ⟨_,hlen,hcell⟩:=World.cells?_some hc
 obtain ⟨xs,n,_,rfl,hl,hxl,hf⟩:=DataW.trod_struct Tryz.underlying131 h
 match cs,hlen with
 | [c0,c1,c2,c3,c4,c5,c6,c7,c8,c9],_ =>
  match xs,hxl with
  | [y0,y1,y2,y3,y4,y5,y6,y7,y8,y9],_ =>
   have t0:=hf 0 _ rfl
   have t1:=hf 1 _ rfl
   have t2:=hf 2 _ rfl
   have t3:=hf 3 _ rfl
   have t4:=hf 4 _ rfl
   have t5:=hf 5 _ rfl
   have t6:=hf 6 _ rfl
   have t7:=hf 7 _ rfl
   have t8:=hf 8 _ rfl
   have t9:=hf 9 _ rfl
   simp [cells3,cells2,cells9,cells35,cells36,cellsF] at t0 t1 t2 t3 t4 t5 t6 t7 t8 t9
   have hzz:∀ n ∈ y7.1.weights Tryz.prog 9 ++ (y8.1.weights Tryz.prog 62 ++ y9.1.weights Tryz.prog 36),n≤140737488351232:=by
    intro n hn
    refine hz n ?_
    simp [DataW.weights,Tryz.underlying131,DataW.weightsEach]
    simp at hn
    exact Or.inr (Or.inr (Or.inr (Or.inr (Or.inr (Or.inr (Or.inr hn))))))
   obtain ⟨z0,e0,_⟩:=DataW.trod_int Tryz.underlying3 t0
   obtain ⟨z1,e1,_⟩:=DataW.trod_int Tryz.underlying3 t1
   obtain ⟨z2,e2,_⟩:=DataW.trod_int Tryz.underlying3 t2
   obtain ⟨z3,e3,_⟩:=DataW.trod_int Tryz.underlying3 t3
   obtain ⟨z4,e4,_⟩:=DataW.trod_int Tryz.underlying3 t4
   obtain ⟨z5,e5,_,g5⟩:=DataW.trod_int Tryz.underlying2 t5
   obtain ⟨zg,e6,g6⟩:=trod_flt Tryz.underlying100 t6
   obtain ⟨z6,e7,e7',_⟩:=DataW.trod_string Tryz.underlying9 t7
   obtain ⟨vn,p,A,e8,r7,s8,s8'⟩:=read_strs t8 (fun n hn=>hzz n (by simp [hn]))
   obtain ⟨vk,q,K,e9,r8,s9⟩:=read_ints t9 (fun n hn=>hzz n (by simp [hn]))
   simp only [List.cons.injEq,and_true] at e0 e1 e2 e3 e4 e5 e6 e7 e8 e9
   subst e0 e1 e2 e3 e4 e5 e6 e7 e8 e9
   refine ⟨⟨⟨z0,z1,z2,z3,z4,z5,zg,z6⟩,p,A,q,K⟩,⟨_,_,⟨?_,?_,?_,?_,?_,?_,?_,?_,?_,?_⟩,r7,r8⟩,?_,s8,s8',s9,g6,?_⟩
   ·have:=hcell 0 (by omega);simpa [Addr.add] using this
   ·have:=hcell 1 (by omega);simpa [Addr.add] using this
   ·have:=hcell 2 (by omega);simpa [Addr.add] using this
   ·have:=hcell 3 (by omega);simpa [Addr.add] using this
   ·have:=hcell 4 (by omega);simpa [Addr.add] using this
   ·have:=hcell 5 (by omega);simpa [Addr.add] using this
   ·have:=hcell 6 (by omega);simpa [Addr.add] using this
   ·have:=hcell 7 (by omega);simpa [Addr.add] using this
   ·have:=hcell 8 (by omega);simpa [Addr.add] using this
   ·have:=hcell 9 (by omega);simpa [Addr.add] using this
   ·have:=hzz z6.data.toList.length (by rw [e7'];simp [DataW.weights])
    show ((z6.size:Nat):Int) < _
    have e:z6.size=z6.data.toList.length:=by simp
    omega
   ·have:=g5;simp [Lit.wf,IntKind.min,IntKind.max,IntKind.signed,IntKind.bits] at this;show -9223372036854775808≤z5∧z5≤9223372036854775807;omega
instance:Inhabited Gv:=⟨⟨fv0,0,fun _=>⟨#[]⟩,0,fun _=>0⟩⟩
theorem read_forms {fuel : Nat} {cs : List Value} {x : DataW H × List MemPlace} (h : DataW.trod enc Tryz.prog w base sp held fuel 47 cs = some x) (hz : Sz 47 x.1) :
  ∃ (pa:Option Addr) (ca n:Nat) (F:Nat→Gv),cs = [.slice pa n ca]∧RowF w (.slice pa n ca) n F∧(n:Int) < 140737488355328∧∀ i,i < n→((F i).a.x.size:Int) < 140737488355328∧((F i).p:Int) < 140737488355328∧(∀ j,j < (F i).p→(((F i).A j).size:Int) < 140737488355328)∧((F i).q:Int) < 140737488355328∧(F i).a.g < 18446744073709551616∧(-9223372036854775808≤(F i).a.m∧(F i).a.m≤9223372036854775807):=by
 rcases Deep.open_slice Tryz.underlying47 h with ⟨rfl,rfl⟩ | ⟨a,len,cap,m,n,D,Pl,rfl,hb,hl,hm,hmm,rfl,hx⟩
 ·exact ⟨none,0,0,fun _=>default,rfl,⟨none,0,rfl,fun f=>by omega⟩,by omega,fun i hi=>by omega⟩
 ·have hle:len≤m:=by rw [hmm];split <;> omega
  have hh:=hz.head Tryz.underlying47
  rw [bytes47] at hh
  simp only [List.length_map,List.length_range] at hh
  rw [cells47] at hx
  obtain ⟨F,hF⟩:=Deep.choose_lt (α:=Gv) (n:=len) (p:=fun i g=>FormC w (a.add (i*10)) g∧(g.a.x.size:Int) < 140737488355328∧(g.p:Int) < 140737488355328∧(∀ j,j < g.p→((g.A j).size:Int) < 140737488355328)∧(g.q:Int) < 140737488355328∧g.a.g < 18446744073709551616∧(-9223372036854775808≤g.a.m∧g.a.m≤9223372036854775807)) (fun i hi=>by
   obtain ⟨cs',h1,h2⟩:=hx i (by omega)
   exact read_form h2 h1 (hz.elem Tryz.underlying47 (List.mem_map.2 ⟨i,List.mem_range.2 hi,rfl⟩)))
  exact ⟨some a,cap,len,F,rfl,⟨some a,cap,rfl,fun _=>⟨a,rfl,hl,fun i hi=>(hF i hi).1⟩⟩,by omega,fun i hi=>(hF i hi).2⟩
end
theorem sp_stat (k:Int) (w:World):Calls Tryz.prog 85 #[.int .i64 k] w fun e w'=>e = .returned (.bool (dc (1≤k∧k≤16)))∧w'=w:=by
 rcases Int.lt_or_le k 1 with h | h
 ·rw [dc_f (by omega)]
  have h':¬ 1≤k:=by omega
  go_enter Tryz.func85,Tryz.ntmps85
  go_wp2_with fail
  go_ret
  exact ⟨rfl,rfl⟩
 ·rcases Int.lt_or_le 16 k with g | g
  ·rw [dc_f (by omega)]
   have g':¬ k≤16:=by omega
   go_enter Tryz.func85,Tryz.ntmps85
   go_wp2_with fail
   go_ret
   exact ⟨rfl,rfl⟩
  ·rw [dc_t ⟨h,g⟩]
   go_enter Tryz.func85,Tryz.ntmps85
   go_wp2_with fail
   go_ret
   exact ⟨rfl,rfl⟩
theorem sp_expr (k:Int) (w:World):Calls Tryz.prog 137 #[.int .i64 k] w fun e w'=>e = .returned (.bool (dc (20≤k∧k≤37)))∧w'=w:=by
 rcases Int.lt_or_le k 20 with h | h
 ·rw [dc_f (by omega)]
  have h':¬ 20≤k:=by omega
  go_enter Tryz.func137,Tryz.ntmps137
  go_wp2_with fail
  go_ret
  exact ⟨rfl,rfl⟩
 ·rcases Int.lt_or_le 37 k with g | g
  ·rw [dc_f (by omega)]
   have g':¬ k≤37:=by omega
   go_enter Tryz.func137,Tryz.ntmps137
   go_wp2_with fail
   go_ret
   exact ⟨rfl,rfl⟩
  ·rw [dc_t ⟨h,g⟩]
   go_enter Tryz.func137,Tryz.ntmps137
   go_wp2_with fail
   go_ret
   exact ⟨rfl,rfl⟩
theorem sp_target (k:Int) (w:World):Calls Tryz.prog 120 #[.int .i64 k] w fun e w'=>e = .returned (.bool (dc (k=26∨k=32∨k=33)))∧w'=w:=by
 by_cases h1:k=26
 ·rw [dc_t (.inl h1)]
  have g1:=beq1 h1
  clear h1
  go_enter Tryz.func120,Tryz.ntmps120
  go_wp2_with fail
  go_ret
  exact ⟨rfl,rfl⟩
 ·have g1:=bne h1
  by_cases h2:k=32
  ·rw [dc_t (.inr (.inl h2))]
   have g2:=beq1 h2
   clear h1 h2
   go_enter Tryz.func120,Tryz.ntmps120
   go_wp2_with fail
   go_ret
   exact ⟨rfl,rfl⟩
  ·have g2:=bne h2
   by_cases h3:k=33
   ·rw [dc_t (.inr (.inr h3))]
    have g3:=beq1 h3
    clear h1 h2 h3
    go_enter Tryz.func120,Tryz.ntmps120
    go_wp2_with fail
    go_ret
    exact ⟨rfl,rfl⟩
   ·have g3:=bne h3
    rw [dc_f (by omega)]
    clear h1 h2 h3
    go_enter Tryz.func120,Tryz.ntmps120
    go_wp2_with fail
    go_ret
    exact ⟨rfl,rfl⟩
theorem sp_bare (a : Fv) (hga : a.g < 18446744073709551616) (pn : Option Addr) (p cn : Nat) (vk : Value) (hvk : ∃ pk q ck, vk = .slice pk q ck) (op num text names : Bool) (w : World) (hp : (p : Int) ≤ 1048576) :
  Calls Tryz.prog 117 #[fmv a (.slice pn p cn) vk,.bool op,.bool num,.bool text,.bool names] w fun e w'=>e = .returned (.bool (dc ((op=true∨a.o=0)∧(num=true∨a.m=0)∧fz a.g∧(text=true∨a.x=⟨#[]⟩)∧(names=true∨p=0))))∧Below w.heap.size w w':=by
 obtain ⟨pk,q,ck,rfl⟩:=hvk
 unfold fmv
 obtain ⟨k,f,t,l,o,m,g,x⟩:=a
 have hfc:=f_cases g hga
 clear hga
 dsimp only
 cases op <;> cases num <;> cases text <;> cases names
 ·skip
  by_cases h0:o=0
  ·have g0:=beq1 h0
   by_cases h1:m=0
   ·have g1:=beq1 h1
    rcases hfc with ⟨h2,_,_,g2⟩ | ⟨h2,_,_,g2⟩ | ⟨h2,_,_,g2 | g2⟩
    ·skip
     rw [dc_f (by simp [*])]
     clear  h0 h1 h2
     go_enter Tryz.func117,Tryz.ntmps117
     go_wp2_with fail
     go_ret
     exact ⟨by first | rfl | (simp only [g4];rfl),bel1 _ _⟩
    ·skip
     by_cases h3:x=⟨#[]⟩
     ·have g3:=str0 h3
      by_cases h4:p=0
      ·have g4:=nat0 h4
       rw [dc_t (by simp [*])]
       clear  h0 h1 h2 h3 h4
       go_enter Tryz.func117,Tryz.ntmps117
       go_wp2_with fail
       go_ret
       exact ⟨by first | rfl | (simp only [g4];rfl),bel1 _ _⟩
      ·have g4:=nat1 h4
       rw [dc_f (by simp [*])]
       clear  h0 h1 h2 h3 h4
       go_enter Tryz.func117,Tryz.ntmps117
       go_wp2_with fail
       go_ret
       exact ⟨by first | rfl | (simp only [g4];rfl),bel1 _ _⟩
     ·have g3:=str1 h3
      rw [dc_f (by simp [*])]
      clear  h0 h1 h2 h3
      go_enter Tryz.func117,Tryz.ntmps117
      go_wp2_with fail
      go_ret
      exact ⟨by first | rfl | (simp only [g4];rfl),bel1 _ _⟩
    ·skip
     rw [dc_f (by simp [*])]
     clear  h0 h1 h2
     go_enter Tryz.func117,Tryz.ntmps117
     go_wp2_with fail
     go_ret
     exact ⟨by first | rfl | (simp only [g4];rfl),bel1 _ _⟩
    ·skip
     rw [dc_f (by simp [*])]
     clear  h0 h1 h2
     go_enter Tryz.func117,Tryz.ntmps117
     go_wp2_with fail
     go_ret
     exact ⟨by first | rfl | (simp only [g4];rfl),bel1 _ _⟩
   ·have g1:=bne h1
    rw [dc_f (by simp [*])]
    clear hfc h0 h1
    go_enter Tryz.func117,Tryz.ntmps117
    go_wp2_with fail
    go_ret
    exact ⟨by first | rfl | (simp only [g4];rfl),bel1 _ _⟩
  ·have g0:=bne h0
   rw [dc_f (by simp [*])]
   clear hfc h0
   go_enter Tryz.func117,Tryz.ntmps117
   go_wp2_with fail
   go_ret
   exact ⟨by first | rfl | (simp only [g4];rfl),bel1 _ _⟩
 ·skip
  by_cases h0:o=0
  ·have g0:=beq1 h0
   by_cases h1:m=0
   ·have g1:=beq1 h1
    rcases hfc with ⟨h2,_,_,g2⟩ | ⟨h2,_,_,g2⟩ | ⟨h2,_,_,g2 | g2⟩
    ·skip
     rw [dc_f (by simp [*])]
     clear  h0 h1 h2
     go_enter Tryz.func117,Tryz.ntmps117
     go_wp2_with fail
     go_ret
     exact ⟨by first | rfl | (simp only [g4];rfl),bel1 _ _⟩
    ·skip
     by_cases h3:x=⟨#[]⟩
     ·have g3:=str0 h3
      rw [dc_t (by simp [*])]
      clear  h0 h1 h2 h3
      go_enter Tryz.func117,Tryz.ntmps117
      go_wp2_with fail
      go_ret
      exact ⟨by first | rfl | (simp only [g4];rfl),bel1 _ _⟩
     ·have g3:=str1 h3
      rw [dc_f (by simp [*])]
      clear  h0 h1 h2 h3
      go_enter Tryz.func117,Tryz.ntmps117
      go_wp2_with fail
      go_ret
      exact ⟨by first | rfl | (simp only [g4];rfl),bel1 _ _⟩
    ·skip
     rw [dc_f (by simp [*])]
     clear  h0 h1 h2
     go_enter Tryz.func117,Tryz.ntmps117
     go_wp2_with fail
     go_ret
     exact ⟨by first | rfl | (simp only [g4];rfl),bel1 _ _⟩
    ·skip
     rw [dc_f (by simp [*])]
     clear  h0 h1 h2
     go_enter Tryz.func117,Tryz.ntmps117
     go_wp2_with fail
     go_ret
     exact ⟨by first | rfl | (simp only [g4];rfl),bel1 _ _⟩
   ·have g1:=bne h1
    rw [dc_f (by simp [*])]
    clear hfc h0 h1
    go_enter Tryz.func117,Tryz.ntmps117
    go_wp2_with fail
    go_ret
    exact ⟨by first | rfl | (simp only [g4];rfl),bel1 _ _⟩
  ·have g0:=bne h0
   rw [dc_f (by simp [*])]
   clear hfc h0
   go_enter Tryz.func117,Tryz.ntmps117
   go_wp2_with fail
   go_ret
   exact ⟨by first | rfl | (simp only [g4];rfl),bel1 _ _⟩
 ·skip
  by_cases h0:o=0
  ·have g0:=beq1 h0
   by_cases h1:m=0
   ·have g1:=beq1 h1
    rcases hfc with ⟨h2,_,_,g2⟩ | ⟨h2,_,_,g2⟩ | ⟨h2,_,_,g2 | g2⟩
    ·skip
     rw [dc_f (by simp [*])]
     clear  h0 h1 h2
     go_enter Tryz.func117,Tryz.ntmps117
     go_wp2_with fail
     go_ret
     exact ⟨by first | rfl | (simp only [g4];rfl),bel1 _ _⟩
    ·skip
     by_cases h4:p=0
     ·have g4:=nat0 h4
      rw [dc_t (by simp [*])]
      clear  h0 h1 h2 h4
      go_enter Tryz.func117,Tryz.ntmps117
      go_wp2_with fail
      go_ret
      exact ⟨by first | rfl | (simp only [g4];rfl),bel1 _ _⟩
     ·have g4:=nat1 h4
      rw [dc_f (by simp [*])]
      clear  h0 h1 h2 h4
      go_enter Tryz.func117,Tryz.ntmps117
      go_wp2_with fail
      go_ret
      exact ⟨by first | rfl | (simp only [g4];rfl),bel1 _ _⟩
    ·skip
     rw [dc_f (by simp [*])]
     clear  h0 h1 h2
     go_enter Tryz.func117,Tryz.ntmps117
     go_wp2_with fail
     go_ret
     exact ⟨by first | rfl | (simp only [g4];rfl),bel1 _ _⟩
    ·skip
     rw [dc_f (by simp [*])]
     clear  h0 h1 h2
     go_enter Tryz.func117,Tryz.ntmps117
     go_wp2_with fail
     go_ret
     exact ⟨by first | rfl | (simp only [g4];rfl),bel1 _ _⟩
   ·have g1:=bne h1
    rw [dc_f (by simp [*])]
    clear hfc h0 h1
    go_enter Tryz.func117,Tryz.ntmps117
    go_wp2_with fail
    go_ret
    exact ⟨by first | rfl | (simp only [g4];rfl),bel1 _ _⟩
  ·have g0:=bne h0
   rw [dc_f (by simp [*])]
   clear hfc h0
   go_enter Tryz.func117,Tryz.ntmps117
   go_wp2_with fail
   go_ret
   exact ⟨by first | rfl | (simp only [g4];rfl),bel1 _ _⟩
 ·skip
  by_cases h0:o=0
  ·have g0:=beq1 h0
   by_cases h1:m=0
   ·have g1:=beq1 h1
    rcases hfc with ⟨h2,_,_,g2⟩ | ⟨h2,_,_,g2⟩ | ⟨h2,_,_,g2 | g2⟩
    ·skip
     rw [dc_f (by simp [*])]
     clear  h0 h1 h2
     go_enter Tryz.func117,Tryz.ntmps117
     go_wp2_with fail
     go_ret
     exact ⟨by first | rfl | (simp only [g4];rfl),bel1 _ _⟩
    ·skip
     rw [dc_t (by simp [*])]
     clear  h0 h1 h2
     go_enter Tryz.func117,Tryz.ntmps117
     go_wp2_with fail
     go_ret
     exact ⟨by first | rfl | (simp only [g4];rfl),bel1 _ _⟩
    ·skip
     rw [dc_f (by simp [*])]
     clear  h0 h1 h2
     go_enter Tryz.func117,Tryz.ntmps117
     go_wp2_with fail
     go_ret
     exact ⟨by first | rfl | (simp only [g4];rfl),bel1 _ _⟩
    ·skip
     rw [dc_f (by simp [*])]
     clear  h0 h1 h2
     go_enter Tryz.func117,Tryz.ntmps117
     go_wp2_with fail
     go_ret
     exact ⟨by first | rfl | (simp only [g4];rfl),bel1 _ _⟩
   ·have g1:=bne h1
    rw [dc_f (by simp [*])]
    clear hfc h0 h1
    go_enter Tryz.func117,Tryz.ntmps117
    go_wp2_with fail
    go_ret
    exact ⟨by first | rfl | (simp only [g4];rfl),bel1 _ _⟩
  ·have g0:=bne h0
   rw [dc_f (by simp [*])]
   clear hfc h0
   go_enter Tryz.func117,Tryz.ntmps117
   go_wp2_with fail
   go_ret
   exact ⟨by first | rfl | (simp only [g4];rfl),bel1 _ _⟩
 ·skip
  by_cases h0:o=0
  ·have g0:=beq1 h0
   rcases hfc with ⟨h2,_,_,g2⟩ | ⟨h2,_,_,g2⟩ | ⟨h2,_,_,g2 | g2⟩
   ·skip
    rw [dc_f (by simp [*])]
    clear  h0 h2
    go_enter Tryz.func117,Tryz.ntmps117
    go_wp2_with fail
    go_ret
    exact ⟨by first | rfl | (simp only [g4];rfl),bel1 _ _⟩
   ·skip
    by_cases h3:x=⟨#[]⟩
    ·have g3:=str0 h3
     by_cases h4:p=0
     ·have g4:=nat0 h4
      rw [dc_t (by simp [*])]
      clear  h0 h2 h3 h4
      go_enter Tryz.func117,Tryz.ntmps117
      go_wp2_with fail
      go_ret
      exact ⟨by first | rfl | (simp only [g4];rfl),bel1 _ _⟩
     ·have g4:=nat1 h4
      rw [dc_f (by simp [*])]
      clear  h0 h2 h3 h4
      go_enter Tryz.func117,Tryz.ntmps117
      go_wp2_with fail
      go_ret
      exact ⟨by first | rfl | (simp only [g4];rfl),bel1 _ _⟩
    ·have g3:=str1 h3
     rw [dc_f (by simp [*])]
     clear  h0 h2 h3
     go_enter Tryz.func117,Tryz.ntmps117
     go_wp2_with fail
     go_ret
     exact ⟨by first | rfl | (simp only [g4];rfl),bel1 _ _⟩
   ·skip
    rw [dc_f (by simp [*])]
    clear  h0 h2
    go_enter Tryz.func117,Tryz.ntmps117
    go_wp2_with fail
    go_ret
    exact ⟨by first | rfl | (simp only [g4];rfl),bel1 _ _⟩
   ·skip
    rw [dc_f (by simp [*])]
    clear  h0 h2
    go_enter Tryz.func117,Tryz.ntmps117
    go_wp2_with fail
    go_ret
    exact ⟨by first | rfl | (simp only [g4];rfl),bel1 _ _⟩
  ·have g0:=bne h0
   rw [dc_f (by simp [*])]
   clear hfc h0
   go_enter Tryz.func117,Tryz.ntmps117
   go_wp2_with fail
   go_ret
   exact ⟨by first | rfl | (simp only [g4];rfl),bel1 _ _⟩
 ·skip
  by_cases h0:o=0
  ·have g0:=beq1 h0
   rcases hfc with ⟨h2,_,_,g2⟩ | ⟨h2,_,_,g2⟩ | ⟨h2,_,_,g2 | g2⟩
   ·skip
    rw [dc_f (by simp [*])]
    clear  h0 h2
    go_enter Tryz.func117,Tryz.ntmps117
    go_wp2_with fail
    go_ret
    exact ⟨by first | rfl | (simp only [g4];rfl),bel1 _ _⟩
   ·skip
    by_cases h3:x=⟨#[]⟩
    ·have g3:=str0 h3
     rw [dc_t (by simp [*])]
     clear  h0 h2 h3
     go_enter Tryz.func117,Tryz.ntmps117
     go_wp2_with fail
     go_ret
     exact ⟨by first | rfl | (simp only [g4];rfl),bel1 _ _⟩
    ·have g3:=str1 h3
     rw [dc_f (by simp [*])]
     clear  h0 h2 h3
     go_enter Tryz.func117,Tryz.ntmps117
     go_wp2_with fail
     go_ret
     exact ⟨by first | rfl | (simp only [g4];rfl),bel1 _ _⟩
   ·skip
    rw [dc_f (by simp [*])]
    clear  h0 h2
    go_enter Tryz.func117,Tryz.ntmps117
    go_wp2_with fail
    go_ret
    exact ⟨by first | rfl | (simp only [g4];rfl),bel1 _ _⟩
   ·skip
    rw [dc_f (by simp [*])]
    clear  h0 h2
    go_enter Tryz.func117,Tryz.ntmps117
    go_wp2_with fail
    go_ret
    exact ⟨by first | rfl | (simp only [g4];rfl),bel1 _ _⟩
  ·have g0:=bne h0
   rw [dc_f (by simp [*])]
   clear hfc h0
   go_enter Tryz.func117,Tryz.ntmps117
   go_wp2_with fail
   go_ret
   exact ⟨by first | rfl | (simp only [g4];rfl),bel1 _ _⟩
 ·skip
  by_cases h0:o=0
  ·have g0:=beq1 h0
   rcases hfc with ⟨h2,_,_,g2⟩ | ⟨h2,_,_,g2⟩ | ⟨h2,_,_,g2 | g2⟩
   ·skip
    rw [dc_f (by simp [*])]
    clear  h0 h2
    go_enter Tryz.func117,Tryz.ntmps117
    go_wp2_with fail
    go_ret
    exact ⟨by first | rfl | (simp only [g4];rfl),bel1 _ _⟩
   ·skip
    by_cases h4:p=0
    ·have g4:=nat0 h4
     rw [dc_t (by simp [*])]
     clear  h0 h2 h4
     go_enter Tryz.func117,Tryz.ntmps117
     go_wp2_with fail
     go_ret
     exact ⟨by first | rfl | (simp only [g4];rfl),bel1 _ _⟩
    ·have g4:=nat1 h4
     rw [dc_f (by simp [*])]
     clear  h0 h2 h4
     go_enter Tryz.func117,Tryz.ntmps117
     go_wp2_with fail
     go_ret
     exact ⟨by first | rfl | (simp only [g4];rfl),bel1 _ _⟩
   ·skip
    rw [dc_f (by simp [*])]
    clear  h0 h2
    go_enter Tryz.func117,Tryz.ntmps117
    go_wp2_with fail
    go_ret
    exact ⟨by first | rfl | (simp only [g4];rfl),bel1 _ _⟩
   ·skip
    rw [dc_f (by simp [*])]
    clear  h0 h2
    go_enter Tryz.func117,Tryz.ntmps117
    go_wp2_with fail
    go_ret
    exact ⟨by first | rfl | (simp only [g4];rfl),bel1 _ _⟩
  ·have g0:=bne h0
   rw [dc_f (by simp [*])]
   clear hfc h0
   go_enter Tryz.func117,Tryz.ntmps117
   go_wp2_with fail
   go_ret
   exact ⟨by first | rfl | (simp only [g4];rfl),bel1 _ _⟩
 ·skip
  by_cases h0:o=0
  ·have g0:=beq1 h0
   rcases hfc with ⟨h2,_,_,g2⟩ | ⟨h2,_,_,g2⟩ | ⟨h2,_,_,g2 | g2⟩
   ·skip
    rw [dc_f (by simp [*])]
    clear  h0 h2
    go_enter Tryz.func117,Tryz.ntmps117
    go_wp2_with fail
    go_ret
    exact ⟨by first | rfl | (simp only [g4];rfl),bel1 _ _⟩
   ·skip
    rw [dc_t (by simp [*])]
    clear  h0 h2
    go_enter Tryz.func117,Tryz.ntmps117
    go_wp2_with fail
    go_ret
    exact ⟨by first | rfl | (simp only [g4];rfl),bel1 _ _⟩
   ·skip
    rw [dc_f (by simp [*])]
    clear  h0 h2
    go_enter Tryz.func117,Tryz.ntmps117
    go_wp2_with fail
    go_ret
    exact ⟨by first | rfl | (simp only [g4];rfl),bel1 _ _⟩
   ·skip
    rw [dc_f (by simp [*])]
    clear  h0 h2
    go_enter Tryz.func117,Tryz.ntmps117
    go_wp2_with fail
    go_ret
    exact ⟨by first | rfl | (simp only [g4];rfl),bel1 _ _⟩
  ·have g0:=bne h0
   rw [dc_f (by simp [*])]
   clear hfc h0
   go_enter Tryz.func117,Tryz.ntmps117
   go_wp2_with fail
   go_ret
   exact ⟨by first | rfl | (simp only [g4];rfl),bel1 _ _⟩
 ·skip
  by_cases h1:m=0
  ·have g1:=beq1 h1
   rcases hfc with ⟨h2,_,_,g2⟩ | ⟨h2,_,_,g2⟩ | ⟨h2,_,_,g2 | g2⟩
   ·skip
    rw [dc_f (by simp [*])]
    clear  h1 h2
    go_enter Tryz.func117,Tryz.ntmps117
    go_wp2_with fail
    go_ret
    exact ⟨by first | rfl | (simp only [g4];rfl),bel1 _ _⟩
   ·skip
    by_cases h3:x=⟨#[]⟩
    ·have g3:=str0 h3
     by_cases h4:p=0
     ·have g4:=nat0 h4
      rw [dc_t (by simp [*])]
      clear  h1 h2 h3 h4
      go_enter Tryz.func117,Tryz.ntmps117
      go_wp2_with fail
      go_ret
      exact ⟨by first | rfl | (simp only [g4];rfl),bel1 _ _⟩
     ·have g4:=nat1 h4
      rw [dc_f (by simp [*])]
      clear  h1 h2 h3 h4
      go_enter Tryz.func117,Tryz.ntmps117
      go_wp2_with fail
      go_ret
      exact ⟨by first | rfl | (simp only [g4];rfl),bel1 _ _⟩
    ·have g3:=str1 h3
     rw [dc_f (by simp [*])]
     clear  h1 h2 h3
     go_enter Tryz.func117,Tryz.ntmps117
     go_wp2_with fail
     go_ret
     exact ⟨by first | rfl | (simp only [g4];rfl),bel1 _ _⟩
   ·skip
    rw [dc_f (by simp [*])]
    clear  h1 h2
    go_enter Tryz.func117,Tryz.ntmps117
    go_wp2_with fail
    go_ret
    exact ⟨by first | rfl | (simp only [g4];rfl),bel1 _ _⟩
   ·skip
    rw [dc_f (by simp [*])]
    clear  h1 h2
    go_enter Tryz.func117,Tryz.ntmps117
    go_wp2_with fail
    go_ret
    exact ⟨by first | rfl | (simp only [g4];rfl),bel1 _ _⟩
  ·have g1:=bne h1
   rw [dc_f (by simp [*])]
   clear hfc h1
   go_enter Tryz.func117,Tryz.ntmps117
   go_wp2_with fail
   go_ret
   exact ⟨by first | rfl | (simp only [g4];rfl),bel1 _ _⟩
 ·skip
  by_cases h1:m=0
  ·have g1:=beq1 h1
   rcases hfc with ⟨h2,_,_,g2⟩ | ⟨h2,_,_,g2⟩ | ⟨h2,_,_,g2 | g2⟩
   ·skip
    rw [dc_f (by simp [*])]
    clear  h1 h2
    go_enter Tryz.func117,Tryz.ntmps117
    go_wp2_with fail
    go_ret
    exact ⟨by first | rfl | (simp only [g4];rfl),bel1 _ _⟩
   ·skip
    by_cases h3:x=⟨#[]⟩
    ·have g3:=str0 h3
     rw [dc_t (by simp [*])]
     clear  h1 h2 h3
     go_enter Tryz.func117,Tryz.ntmps117
     go_wp2_with fail
     go_ret
     exact ⟨by first | rfl | (simp only [g4];rfl),bel1 _ _⟩
    ·have g3:=str1 h3
     rw [dc_f (by simp [*])]
     clear  h1 h2 h3
     go_enter Tryz.func117,Tryz.ntmps117
     go_wp2_with fail
     go_ret
     exact ⟨by first | rfl | (simp only [g4];rfl),bel1 _ _⟩
   ·skip
    rw [dc_f (by simp [*])]
    clear  h1 h2
    go_enter Tryz.func117,Tryz.ntmps117
    go_wp2_with fail
    go_ret
    exact ⟨by first | rfl | (simp only [g4];rfl),bel1 _ _⟩
   ·skip
    rw [dc_f (by simp [*])]
    clear  h1 h2
    go_enter Tryz.func117,Tryz.ntmps117
    go_wp2_with fail
    go_ret
    exact ⟨by first | rfl | (simp only [g4];rfl),bel1 _ _⟩
  ·have g1:=bne h1
   rw [dc_f (by simp [*])]
   clear hfc h1
   go_enter Tryz.func117,Tryz.ntmps117
   go_wp2_with fail
   go_ret
   exact ⟨by first | rfl | (simp only [g4];rfl),bel1 _ _⟩
 ·skip
  by_cases h1:m=0
  ·have g1:=beq1 h1
   rcases hfc with ⟨h2,_,_,g2⟩ | ⟨h2,_,_,g2⟩ | ⟨h2,_,_,g2 | g2⟩
   ·skip
    rw [dc_f (by simp [*])]
    clear  h1 h2
    go_enter Tryz.func117,Tryz.ntmps117
    go_wp2_with fail
    go_ret
    exact ⟨by first | rfl | (simp only [g4];rfl),bel1 _ _⟩
   ·skip
    by_cases h4:p=0
    ·have g4:=nat0 h4
     rw [dc_t (by simp [*])]
     clear  h1 h2 h4
     go_enter Tryz.func117,Tryz.ntmps117
     go_wp2_with fail
     go_ret
     exact ⟨by first | rfl | (simp only [g4];rfl),bel1 _ _⟩
    ·have g4:=nat1 h4
     rw [dc_f (by simp [*])]
     clear  h1 h2 h4
     go_enter Tryz.func117,Tryz.ntmps117
     go_wp2_with fail
     go_ret
     exact ⟨by first | rfl | (simp only [g4];rfl),bel1 _ _⟩
   ·skip
    rw [dc_f (by simp [*])]
    clear  h1 h2
    go_enter Tryz.func117,Tryz.ntmps117
    go_wp2_with fail
    go_ret
    exact ⟨by first | rfl | (simp only [g4];rfl),bel1 _ _⟩
   ·skip
    rw [dc_f (by simp [*])]
    clear  h1 h2
    go_enter Tryz.func117,Tryz.ntmps117
    go_wp2_with fail
    go_ret
    exact ⟨by first | rfl | (simp only [g4];rfl),bel1 _ _⟩
  ·have g1:=bne h1
   rw [dc_f (by simp [*])]
   clear hfc h1
   go_enter Tryz.func117,Tryz.ntmps117
   go_wp2_with fail
   go_ret
   exact ⟨by first | rfl | (simp only [g4];rfl),bel1 _ _⟩
 ·skip
  by_cases h1:m=0
  ·have g1:=beq1 h1
   rcases hfc with ⟨h2,_,_,g2⟩ | ⟨h2,_,_,g2⟩ | ⟨h2,_,_,g2 | g2⟩
   ·skip
    rw [dc_f (by simp [*])]
    clear  h1 h2
    go_enter Tryz.func117,Tryz.ntmps117
    go_wp2_with fail
    go_ret
    exact ⟨by first | rfl | (simp only [g4];rfl),bel1 _ _⟩
   ·skip
    rw [dc_t (by simp [*])]
    clear  h1 h2
    go_enter Tryz.func117,Tryz.ntmps117
    go_wp2_with fail
    go_ret
    exact ⟨by first | rfl | (simp only [g4];rfl),bel1 _ _⟩
   ·skip
    rw [dc_f (by simp [*])]
    clear  h1 h2
    go_enter Tryz.func117,Tryz.ntmps117
    go_wp2_with fail
    go_ret
    exact ⟨by first | rfl | (simp only [g4];rfl),bel1 _ _⟩
   ·skip
    rw [dc_f (by simp [*])]
    clear  h1 h2
    go_enter Tryz.func117,Tryz.ntmps117
    go_wp2_with fail
    go_ret
    exact ⟨by first | rfl | (simp only [g4];rfl),bel1 _ _⟩
  ·have g1:=bne h1
   rw [dc_f (by simp [*])]
   clear hfc h1
   go_enter Tryz.func117,Tryz.ntmps117
   go_wp2_with fail
   go_ret
   exact ⟨by first | rfl | (simp only [g4];rfl),bel1 _ _⟩
 ·skip
  rcases hfc with ⟨h2,_,_,g2⟩ | ⟨h2,_,_,g2⟩ | ⟨h2,_,_,g2 | g2⟩
  ·skip
   rw [dc_f (by simp [*])]
   clear  h2
   go_enter Tryz.func117,Tryz.ntmps117
   go_wp2_with fail
   go_ret
   exact ⟨by first | rfl | (simp only [g4];rfl),bel1 _ _⟩
  ·skip
   by_cases h3:x=⟨#[]⟩
   ·have g3:=str0 h3
    by_cases h4:p=0
    ·have g4:=nat0 h4
     rw [dc_t (by simp [*])]
     clear  h2 h3 h4
     go_enter Tryz.func117,Tryz.ntmps117
     go_wp2_with fail
     go_ret
     exact ⟨by first | rfl | (simp only [g4];rfl),bel1 _ _⟩
    ·have g4:=nat1 h4
     rw [dc_f (by simp [*])]
     clear  h2 h3 h4
     go_enter Tryz.func117,Tryz.ntmps117
     go_wp2_with fail
     go_ret
     exact ⟨by first | rfl | (simp only [g4];rfl),bel1 _ _⟩
   ·have g3:=str1 h3
    rw [dc_f (by simp [*])]
    clear  h2 h3
    go_enter Tryz.func117,Tryz.ntmps117
    go_wp2_with fail
    go_ret
    exact ⟨by first | rfl | (simp only [g4];rfl),bel1 _ _⟩
  ·skip
   rw [dc_f (by simp [*])]
   clear  h2
   go_enter Tryz.func117,Tryz.ntmps117
   go_wp2_with fail
   go_ret
   exact ⟨by first | rfl | (simp only [g4];rfl),bel1 _ _⟩
  ·skip
   rw [dc_f (by simp [*])]
   clear  h2
   go_enter Tryz.func117,Tryz.ntmps117
   go_wp2_with fail
   go_ret
   exact ⟨by first | rfl | (simp only [g4];rfl),bel1 _ _⟩
 ·skip
  rcases hfc with ⟨h2,_,_,g2⟩ | ⟨h2,_,_,g2⟩ | ⟨h2,_,_,g2 | g2⟩
  ·skip
   rw [dc_f (by simp [*])]
   clear  h2
   go_enter Tryz.func117,Tryz.ntmps117
   go_wp2_with fail
   go_ret
   exact ⟨by first | rfl | (simp only [g4];rfl),bel1 _ _⟩
  ·skip
   by_cases h3:x=⟨#[]⟩
   ·have g3:=str0 h3
    rw [dc_t (by simp [*])]
    clear  h2 h3
    go_enter Tryz.func117,Tryz.ntmps117
    go_wp2_with fail
    go_ret
    exact ⟨by first | rfl | (simp only [g4];rfl),bel1 _ _⟩
   ·have g3:=str1 h3
    rw [dc_f (by simp [*])]
    clear  h2 h3
    go_enter Tryz.func117,Tryz.ntmps117
    go_wp2_with fail
    go_ret
    exact ⟨by first | rfl | (simp only [g4];rfl),bel1 _ _⟩
  ·skip
   rw [dc_f (by simp [*])]
   clear  h2
   go_enter Tryz.func117,Tryz.ntmps117
   go_wp2_with fail
   go_ret
   exact ⟨by first | rfl | (simp only [g4];rfl),bel1 _ _⟩
  ·skip
   rw [dc_f (by simp [*])]
   clear  h2
   go_enter Tryz.func117,Tryz.ntmps117
   go_wp2_with fail
   go_ret
   exact ⟨by first | rfl | (simp only [g4];rfl),bel1 _ _⟩
 ·skip
  rcases hfc with ⟨h2,_,_,g2⟩ | ⟨h2,_,_,g2⟩ | ⟨h2,_,_,g2 | g2⟩
  ·skip
   rw [dc_f (by simp [*])]
   clear  h2
   go_enter Tryz.func117,Tryz.ntmps117
   go_wp2_with fail
   go_ret
   exact ⟨by first | rfl | (simp only [g4];rfl),bel1 _ _⟩
  ·skip
   by_cases h4:p=0
   ·have g4:=nat0 h4
    rw [dc_t (by simp [*])]
    clear  h2 h4
    go_enter Tryz.func117,Tryz.ntmps117
    go_wp2_with fail
    go_ret
    exact ⟨by first | rfl | (simp only [g4];rfl),bel1 _ _⟩
   ·have g4:=nat1 h4
    rw [dc_f (by simp [*])]
    clear  h2 h4
    go_enter Tryz.func117,Tryz.ntmps117
    go_wp2_with fail
    go_ret
    exact ⟨by first | rfl | (simp only [g4];rfl),bel1 _ _⟩
  ·skip
   rw [dc_f (by simp [*])]
   clear  h2
   go_enter Tryz.func117,Tryz.ntmps117
   go_wp2_with fail
   go_ret
   exact ⟨by first | rfl | (simp only [g4];rfl),bel1 _ _⟩
  ·skip
   rw [dc_f (by simp [*])]
   clear  h2
   go_enter Tryz.func117,Tryz.ntmps117
   go_wp2_with fail
   go_ret
   exact ⟨by first | rfl | (simp only [g4];rfl),bel1 _ _⟩
 ·skip
  rcases hfc with ⟨h2,_,_,g2⟩ | ⟨h2,_,_,g2⟩ | ⟨h2,_,_,g2 | g2⟩
  ·skip
   rw [dc_f (by simp [*])]
   clear  h2
   go_enter Tryz.func117,Tryz.ntmps117
   go_wp2_with fail
   go_ret
   exact ⟨by first | rfl | (simp only [g4];rfl),bel1 _ _⟩
  ·skip
   rw [dc_t (by simp [*])]
   clear  h2
   go_enter Tryz.func117,Tryz.ntmps117
   go_wp2_with fail
   go_ret
   exact ⟨by first | rfl | (simp only [g4];rfl),bel1 _ _⟩
  ·skip
   rw [dc_f (by simp [*])]
   clear  h2
   go_enter Tryz.func117,Tryz.ntmps117
   go_wp2_with fail
   go_ret
   exact ⟨by first | rfl | (simp only [g4];rfl),bel1 _ _⟩
  ·skip
   rw [dc_f (by simp [*])]
   clear  h2
   go_enter Tryz.func117,Tryz.ntmps117
   go_wp2_with fail
   go_ret
   exact ⟨by first | rfl | (simp only [g4];rfl),bel1 _ _⟩
def NmS (nm:ByteArray→Prop):Prop:=∀ x w,Calls Tryz.prog 121 #[.string x] w fun e w'=>e = .returned (.bool (dc (nm x)))∧Below w.heap.size w w'
theorem sp_named {nm : ByteArray → Prop} (HN : NmS nm) {a : Fv} {vn vk : Value} {p : Nat} {A : Nat → ByteArray} (w : World) (hr : RowV w vn p (fun i => .string (A i))) (hvk : ∃ pk q ck, vk = .slice pk q ck) (x y : Int) (hp : p ≤ 1048576) (hx : 0 ≤ x) (hy : y ≤ 1000) :
  Calls Tryz.prog 118 #[fmv a vn vk,.int .i64 x,.int .i64 y] w fun e w'=>e = .returned (.bool (dc (x≤(p:Int)∧(p:Int)≤y∧∀ j,j < p→nm (A j))))∧Below w.heap.size w w':=by
 obtain ⟨pk,q,ck,rfl⟩:=hvk
 obtain ⟨pa,ca,rfl,ha2⟩:=hr
 unfold fmv
 obtain ⟨k,f,t,l,o,m,g,tx⟩:=a
 dsimp only
 have hpI:(p:Int)≤1048576:=by omega
 rcases Int.lt_or_le (p:Int) x with h1 | h1
 ·rw [dc_f (fun g=>by omega)]
  clear ha2
  go_enter Tryz.func118,Tryz.ntmps118
  go_wp2_with fail
  go_ret
  exact ⟨rfl,bel1 _ _⟩
 ·have h1':¬ (p:Int) < x:=by omega
  rcases Int.lt_or_le y (p:Int) with h2 | h2
  ·rw [dc_f (fun g=>by omega)]
   clear ha2
   go_enter Tryz.func118,Tryz.ntmps118
   go_wp2_with fail
   go_ret
   exact ⟨rfl,bel1 _ _⟩
  ·have h2':¬ y < (p:Int):=by omega
   have HD:Hid (dc (x≤(p:Int)∧(p:Int)≤y∧∀ j,j < p→nm (A j))=dc (∀ j,j < p→nm (A j))):=dc_iff ⟨fun g=>g.2.2,fun g=>⟨h1,h2,g⟩⟩
   rw [show dc (x≤(p:Int)∧(p:Int)≤y∧∀ j,j < p→nm (A j))=dc (∀ j,j < p→nm (A j)) from HD]
   have HA:Hid ((0 < p→∃ a:Addr,pa=some a∧p≤ca∧∀ i,i < p→w.cell? (a.add i)=some (.string (A i)))∧NmS nm):=(⟨ha2,HN⟩:_∧_)
   obtain ⟨R,hR⟩:∃ R,R=dc (∀ j,j < p→nm (A j)):=⟨_,rfl⟩
   have HR:Hid (R=dc (∀ j,j < p→nm (A j))):=hR
   rw [← hR]
   clear hR HD ha2 HN
   go_enter Tryz.func118,Tryz.ntmps118
   go_wp2_with fail
   go_loopw [24] (fun s24 wr=>∃ i:Nat,s24 = .int .i64 (i:Int)∧i≤p∧Hid (Below w.heap.size w wr∧∀ j,j < i→nm (A j))) (fun s24 _=>p - (intOf s24).toNat)
   case atStart=>exact ⟨0,rfl,Nat.zero_le _,(⟨bel1 _ _,fun j hj=>by omega⟩:_∧_)⟩
   case round =>
    obtain ⟨i,rfl,hin,HI⟩:=hrel
    have hI:=(show Below w.heap.size w wr∧∀ j,j < i→nm (A j) from HI)
    have hA:=(show (0 < p→∃ a:Addr,pa=some a∧p≤ca∧∀ i,i < p→w.cell? (a.add i)=some (.string (A i)))∧NmS nm from HA)
    rcases Nat.lt_or_ge i p with hi | hi
    ·have hiI:(i:Int) < (p:Int):=by omega
     obtain ⟨b,rfl,hca,hra⟩:=hA.1 (by omega)
     have q0:=hra i hi
     have qa:wr.cell? (b.add i)=some (.string (A i)):=(hI.1.cell (lt_of_cell' q0)).trans q0
     have hcl:=hA.2 (A i)
     by_cases hg:nm (A i)
     ·rw [dc_t hg] at hcl
      have HX:Hid (∀ j,j < i+1→nm (A j)):=(fun j hj=>by
       by_cases e:j=i
       ·rw [e];exact hg
       ·exact hI.2 j (by omega):∀ j,_)
      have HB:Hid (Below w.heap.size w wr):=hI.1
      have HCL:Hid (∀ w,Calls Tryz.prog 121 #[.string (A i)] w fun e w'=>e = .returned (.bool true)∧Below w.heap.size w w'):=hcl
      clear hI HI hA HA hra q0 hin hg hcl
      generalize A i=X at *
      go_wp2_with fail
      refine ((show ∀ w,_ from HCL) _).mono ?_
      rintro e w6 ⟨rfl,hb6⟩
      have HB6:Hid (Below w.heap.size w w6∧∀ j,j < i+1→nm (A j)):=(⟨(show Below w.heap.size w wr from HB).trans (hb6.mono (show Below w.heap.size w wr from HB).size),HX⟩:_∧_)
      clear HCL hb6 HX HB qa
      go_wp2_with fail
      go_roundw
      case rel=>exact ⟨i+1,by go_num,by omega,HB6⟩
      case measure=>simp [intOf];omega
     ·rw [dc_f hg] at hcl
      have HX:Hid (R=false):=(show R=dc (∀ j,j < p→nm (A j)) from HR).trans (dc_f (fun g=>hg (g i hi)))
      have HB:Hid (Below w.heap.size w wr):=hI.1
      have HCL:Hid (∀ w,Calls Tryz.prog 121 #[.string (A i)] w fun e w'=>e = .returned (.bool false)∧Below w.heap.size w w'):=hcl
      clear hI HI hA HA hra q0 hin hg hcl
      generalize A i=X at *
      go_wp2_with fail
      refine ((show ∀ w,_ from HCL) _).mono ?_
      rintro e w6 ⟨rfl,hb6⟩
      have HB6:Hid (Below w.heap.size w w6):=(show Below w.heap.size w wr from HB).trans (hb6.mono (show Below w.heap.size w wr from HB).size)
      clear HCL hb6 HB qa
      go_wp2_with fail
      go_ret
      exact ⟨by rw [show R=false from HX];rfl,HB6⟩
    ·obtain rfl:i=p:=by omega
     have HX:Hid (R=true∧Below w.heap.size w wr):=(⟨(show R=dc (∀ j,j < i→nm (A j)) from HR).trans (dc_t hI.2),hI.1⟩:_∧_)
     clear hI HI hA HA
     go_wp2_with fail
     go_ret
     exact ⟨by rw [show R=true from HX.1];rfl,HX.2⟩
def kdk (F:Nat→Gv) (K:Nat→Int) (j:Nat):Int:=(F (K j).toNat).a.k
theorem sp_kid {a : Fv} {vn vk v : Value} {q n : Nat} {K : Nat → Int} {F : Nat → Gv} (w : World) (hf : RowF w v n F) (hr : RowV w vk q (fun i => .int .i64 (K i))) (hvn : ∃ pn p cn, vn = .slice pn p cn) (x : Int) (i : Nat) (hx : x = (i : Int)) (hi : i < q) (hq : q ≤ 1048576) (hn : n ≤ 1048576) (h0 : 0 ≤ K i) (h1 : K i < (n : Int)) :
  Calls Tryz.prog 116 #[.agg #[v],fmv a vn vk,.int .i64 x] w fun e w'=>e = .returned (.int .i64 (kdk F K i))∧Below w.heap.size w w':=by
 subst hx
 obtain ⟨pn,p,cn,rfl⟩:=hvn
 obtain ⟨pk,ck,rfl,hk2⟩:=hr
 obtain ⟨pf,cf,rfl,hf2⟩:=hf
 obtain ⟨b,rfl,hcb,hrb⟩:=hk2 (by omega)
 obtain ⟨c,rfl,hcc,hrc⟩:=hf2 (by omega)
 have q0:=hrb i hi
 obtain ⟨un,uk,hc,_,_⟩:=hrc (K i).toNat (by omega)
 have e0:=hc.c0
 have HE:Hid (kdk F K i=(F (K i).toNat).a.k):=rfl
 rw [show kdk F K i=(F (K i).toNat).a.k from HE]
 have hB:∀ a b:Obj,Below w.heap.size w ((w.alloc a).alloc b):=fun a b=>bel2 _ _ _
 have q0':∀ x y:Obj,((w.alloc x).alloc y).cell? (b.add i)=some (.int .i64 (K i)):=fun x y=>((hB x y).cell (lt_of_cell' q0)).trans q0
 have e0':∀ x y:Obj,((w.alloc x).alloc y).cell? (c.add ((K i).toNat*10))=some (.int .i64 (F (K i).toNat).a.k):=fun x y=>((hB x y).cell (lt_of_cell' e0)).trans e0
 clear hc hrc hrb hk2 hf2 q0 e0 HE hB
 have hiI:(i:Int) < (q:Int):=by omega
 have hqI:(q:Int)≤1048576:=by omega
 have hnI:(n:Int)≤1048576:=by omega
 generalize (F (K i).toNat).a.k=z at *
 generalize K i=y at *
 unfold fmv
 obtain ⟨k,f,t,l,o,m,g,tx⟩:=a
 dsimp only
 go_enter Tryz.func116,Tryz.ntmps116
 go_wp2_with fail
 go_quiet (skip)
 go_wp2_with fail
 go_ret
 exact ⟨rfl,bdn (bel2 _ _ _) _⟩
end Go.Proofs.YtomcmnompajnlaaGreatDoor.Fo.Po
