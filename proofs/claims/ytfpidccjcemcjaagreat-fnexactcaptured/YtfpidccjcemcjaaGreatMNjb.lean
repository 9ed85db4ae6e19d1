import Derived.Test.YtfpidccjcemcjaaGreatMNja
import Derived.Test.YtfpidccjcemcjaaGreatMNia
import Derived.Deep.RegionHeldLaw
namespace Go.Proofs.YtfpidccjcemcjaaGreat.Fo
open Go.ChangeShapes Go.WideShapes Go.ChangeAt Go.RowKit
set_option linter.unusedVariables false
set_option maxRecDepth 100000
theorem cells3:Tryz.prog.cellsOf 3=1:=by kernel_rfl
theorem cells2:Tryz.prog.cellsOf 2=1:=by kernel_rfl
theorem cells9:Tryz.prog.cellsOf 9=1:=by kernel_rfl
theorem cells35:Tryz.prog.cellsOf 44=1:=by kernel_rfl
theorem cells36:Tryz.prog.cellsOf 57=1:=by kernel_rfl
theorem bytes3:Tryz.prog.bytesOf 3=8:=by kernel_rfl
theorem bytes9:Tryz.prog.bytesOf 9=16:=by kernel_rfl
def strOf:Value→ByteArray
 | .string s=>s
 | _=>⟨#[]⟩
def numOf:Value→Int
 | .int _ z=>z
 | _=>0
def Sz {H:Type} (t:TypeId) (d:DataW H):Prop:=∀ n ∈ d.weights Tryz.prog t,n≤140737488351232
theorem weightsAll_mem {H:Type} {e:TypeId}:∀ {l:List (DataW H)} {d:DataW H} {n:Nat},d ∈ l→n ∈ d.weights Tryz.prog e→n ∈ DataW.weightsAll Tryz.prog e l
 | [],_,_,h,_=>by cases h
 | x :: r,d,n,h,hn=>by
  simp only [DataW.weightsAll,List.mem_append]
  rcases List.mem_cons.1 h with rfl | h
  ·exact Or.inl hn
  ·exact Or.inr (weightsAll_mem h hn)
theorem Sz.head {H:Type} {t e:TypeId} {el sp:List (DataW H)} (h:Sz t (.slice el sp)) (ht:Tryz.prog.underlying t=some (.slice e)):(el.length+sp.length)*Tryz.prog.bytesOf e≤140737488351232:=h _ (by simp [DataW.weights,ht])
theorem Sz.elem {H:Type} {t e:TypeId} {el sp:List (DataW H)} (h:Sz t (.slice el sp)) (ht:Tryz.prog.underlying t=some (.slice e)) {d:DataW H} (hd:d ∈ el):Sz e d:=fun n hn=>h n (by
 simp only [DataW.weights,ht,List.mem_cons,List.mem_append]
 exact Or.inr (Or.inl (weightsAll_mem hd hn)))
section
variable {H:Type} {enc:TypeId × Value→H} {w:World} {base:Nat} {sp:Nat→Bool} {held:Bool}
theorem read_ints {fuel : Nat} {cs : List Value} {x : DataW H × List MemPlace} (h : DataW.trod enc Tryz.prog w base sp held fuel 57 cs = some x) (hz : Sz 57 x.1) :
  ∃ (v:Value) (n:Nat) (A:Nat→Int),cs = [v]∧RowV w v n (fun i=>.int .i64 (A i))∧(n:Int) < 140737488355328:=by
 rcases Deep.open_slice1 Tryz.underlying57 cells3 h with ⟨rfl,rfl⟩ | ⟨a,len,cap,m,n,V,D,Pl,rfl,hb,hl,hm,hmm,rfl,hx⟩
 ·exact ⟨.slice none 0 0,0,fun _=>0,rfl,⟨none,0,rfl,fun f=>by omega⟩,by omega⟩
 ·have hle:len≤m:=by rw [hmm];split <;> omega
  have hh:=hz.head Tryz.underlying57
  rw [bytes3] at hh
  simp only [List.length_map,List.length_range] at hh
  refine ⟨_,len,fun i=>numOf (V i),rfl,⟨some a,cap,rfl,fun _=>⟨a,rfl,hl,fun i hi=>?_⟩⟩,by omega⟩
  obtain ⟨h1,h2⟩:=hx i (by omega)
  obtain ⟨z,e1,_⟩:=DataW.trod_int Tryz.underlying3 h2
  simp only [List.cons.injEq,and_true] at e1
  rw [h1]
  show some (V i)=some (.int .i64 (numOf (V i)))
  rw [e1];rfl
theorem read_strs {fuel : Nat} {cs : List Value} {x : DataW H × List MemPlace} (h : DataW.trod enc Tryz.prog w base sp held fuel 44 cs = some x) (hz : Sz 44 x.1) :
  ∃ (v:Value) (n:Nat) (A:Nat→ByteArray),cs = [v]∧RowV w v n (fun i=>.string (A i))∧(n:Int) < 140737488355328∧∀ i,i < n→((A i).size:Int) < 140737488355328:=by
 rcases Deep.open_slice1 Tryz.underlying44 cells9 h with ⟨rfl,rfl⟩ | ⟨a,len,cap,m,n,V,D,Pl,rfl,hb,hl,hm,hmm,rfl,hx⟩
 ·exact ⟨.slice none 0 0,0,fun _=>⟨#[]⟩,rfl,⟨none,0,rfl,fun f=>by omega⟩,by omega,fun i hi=>by omega⟩
 ·have hle:len≤m:=by rw [hmm];split <;> omega
  have hh:=hz.head Tryz.underlying44
  rw [bytes9] at hh
  simp only [List.length_map,List.length_range] at hh
  refine ⟨_,len,fun i=>strOf (V i),rfl,⟨some a,cap,rfl,fun _=>⟨a,rfl,hl,fun i hi=>?_⟩⟩,by omega,fun i hi=>?_⟩
  ·obtain ⟨h1,h2⟩:=hx i (by omega)
   obtain ⟨z,e1,_⟩:=DataW.trod_string Tryz.underlying9 h2
   simp only [List.cons.injEq,and_true] at e1
   rw [h1]
   show some (V i)=some (.string (strOf (V i)))
   rw [e1];rfl
  ·obtain ⟨h1,h2⟩:=hx i (by omega)
   obtain ⟨z,e1,e2,_⟩:=DataW.trod_string Tryz.underlying9 h2
   simp only [List.cons.injEq,and_true] at e1
   have hs:=hz.elem Tryz.underlying44 (d:=D i) (List.mem_map.2 ⟨i,List.mem_range.2 hi,rfl⟩)
   rw [show D i = .lit (.string z.data.toList) from congrArg Prod.fst e2] at hs
   have:=hs z.data.toList.length (by simp [DataW.weights])
   show ((strOf (V i)).size:Int) < _
   rw [e1]
   show ((z.size:Nat):Int) < _
   have e:z.size=z.data.toList.length:=by simp
   omega
theorem trod_flt {fuel:Nat} {t:TypeId} {cs:List Value} {x:DataW H × List MemPlace} (ht:Tryz.prog.underlying t=some (.float .f64)) (h:DataW.trod enc Tryz.prog w base sp held fuel t cs=some x):∃ n,cs = [.float .f64 n]∧n < 18446744073709551616:=by
 cases fuel with
 | zero=>simp [DataW.trod] at h
 | succ n =>
  unfold DataW.trod at h
  rw [ht] at h
  split at h <;> simp_all
  rename_i k b e
  subst e
  obtain ⟨⟨h1,h2⟩,_⟩:=h
  simpa [Lit.wf] using h2
theorem cellsF:Tryz.prog.cellsOf 56=1:=by kernel_rfl
theorem cellsB:Tryz.prog.cellsOf 4=1:=by kernel_rfl
theorem cellsLN:Tryz.prog.cellsOf 89=8:=by kernel_rfl
theorem bytesLN:Tryz.prog.bytesOf 89=104:=by kernel_rfl
theorem cellsLU:Tryz.prog.cellsOf 94=2:=by kernel_rfl
theorem bytesLU:Tryz.prog.bytesOf 94=16:=by kernel_rfl
theorem cellsLF:Tryz.prog.cellsOf 55=7:=by kernel_rfl
theorem bytesLF:Tryz.prog.bytesOf 55=112:=by kernel_rfl
theorem cellsLNs:Tryz.prog.cellsOf 53=1:=by kernel_rfl
theorem cellsLUs:Tryz.prog.cellsOf 52=1:=by kernel_rfl
theorem trod_bl {fuel:Nat} {t:TypeId} {cs:List Value} {x:DataW H × List MemPlace} (ht:Tryz.prog.underlying t=some .bool) (h:DataW.trod enc Tryz.prog w base sp held fuel t cs=some x):∃ b,cs = [.bool b]:=by
 cases fuel with
 | zero=>simp [DataW.trod] at h
 | succ n =>
  unfold DataW.trod at h
  rw [ht] at h
  split at h <;> simp_all
theorem read_node {fuel : Nat} {cs : List Value} {x : DataW H × List MemPlace} {b : Addr} (h : DataW.trod enc Tryz.prog w base sp held fuel 89 cs = some x) (hc : w.cells? base b 8 = some cs) (hz : Sz 89 x.1) :
  ∃ g:Nd,NodeC 0 w b g∧((g.a.x.size:Int) < 140737488355328∧(g.p:Int) < 140737488355328∧(g.q:Int) < 140737488355328)∧g.a.g < 18446744073709551616∧(-9223372036854775808≤g.a.m∧g.a.m≤9223372036854775807):=by
 obtain ⟨_,hlen,hcell⟩:=World.cells?_some hc
 obtain ⟨xs,n,_,rfl,hl,hxl,hf⟩:=DataW.trod_struct Tryz.underlying89 h
 match cs,hlen with
 | [c0,c1,c2,c3,c4,c5,c6,c7],_ =>
  match xs,hxl with
  | [y0,y1,y2,y3,y4,y5,y6,y7],_ =>
   have t0:=hf 0 _ rfl
   have t1:=hf 1 _ rfl
   have t2:=hf 2 _ rfl
   have t3:=hf 3 _ rfl
   have t4:=hf 4 _ rfl
   have t5:=hf 5 _ rfl
   have t6:=hf 6 _ rfl
   have t7:=hf 7 _ rfl
   simp [cells3,cells2,cells9,cells36,cellsF] at t0 t1 t2 t3 t4 t5 t6 t7
   have hzz:∀ n ∈ y5.1.weights Tryz.prog 9 ++ (y6.1.weights Tryz.prog 57 ++ y7.1.weights Tryz.prog 57),n≤140737488351232:=by
    intro n hn
    refine hz n ?_
    simp [DataW.weights,Tryz.underlying89,DataW.weightsEach]
    simp at hn
    exact Or.inr (Or.inr (Or.inr (Or.inr (Or.inr hn))))
   obtain ⟨z0,e0,_⟩:=DataW.trod_int Tryz.underlying3 t0
   obtain ⟨z1,e1,_⟩:=DataW.trod_int Tryz.underlying3 t1
   obtain ⟨z2,e2,_⟩:=DataW.trod_int Tryz.underlying3 t2
   obtain ⟨z3,e3,_,g5⟩:=DataW.trod_int Tryz.underlying2 t3
   obtain ⟨zg,e4,g6⟩:=trod_flt Tryz.underlying56 t4
   obtain ⟨z5,e5,e5',_⟩:=DataW.trod_string Tryz.underlying9 t5
   obtain ⟨vr,p,R,e6,r6,s6⟩:=read_ints t6 (fun n hn=>hzz n (by simp [hn]))
   obtain ⟨vk,q,K,e7,r7,s7⟩:=read_ints t7 (fun n hn=>hzz n (by simp [hn]))
   simp only [List.cons.injEq,and_true] at e0 e1 e2 e3 e4 e5 e6 e7
   subst e0 e1 e2 e3 e4 e5 e6 e7
   refine ⟨⟨⟨z0,z1,z2,z3,zg,z5⟩,p,R,q,K⟩,⟨_,_,⟨?_,?_,?_,?_,?_,?_,?_,?_⟩,r6.rowB,r7.rowB⟩,⟨?_,s6,s7⟩,g6,?_⟩
   ·have:=hcell 0 (by omega);simpa [Addr.add] using this
   ·have:=hcell 1 (by omega);simpa [Addr.add] using this
   ·have:=hcell 2 (by omega);simpa [Addr.add] using this
   ·have:=hcell 3 (by omega);simpa [Addr.add] using this
   ·have:=hcell 4 (by omega);simpa [Addr.add] using this
   ·have:=hcell 5 (by omega);simpa [Addr.add] using this
   ·have:=hcell 6 (by omega);simpa [Addr.add] using this
   ·have:=hcell 7 (by omega);simpa [Addr.add] using this
   ·have:=hzz z5.data.toList.length (by rw [e5'];simp [DataW.weights])
    show ((z5.size:Nat):Int) < _
    have e:z5.size=z5.data.toList.length:=by simp
    omega
   ·have:=g5;simp [Lit.wf,IntKind.min,IntKind.max,IntKind.signed,IntKind.bits] at this;show -9223372036854775808≤z3∧z3≤9223372036854775807;omega
theorem read_nodes {fuel : Nat} {cs : List Value} {x : DataW H × List MemPlace} (h : DataW.trod enc Tryz.prog w base sp held fuel 53 cs = some x) (hz : Sz 53 x.1) :
  ∃ (v:Value) (n:Nat) (N:Nat→Nd),cs = [v]∧RowN 0 w v n N∧(n:Int) < 140737488355328∧BN N n∧(∀ i,i < n→(N i).a.g < 18446744073709551616)∧(∀ i,i < n → -9223372036854775808≤(N i).a.m∧(N i).a.m≤9223372036854775807):=by
 rcases Deep.open_slice Tryz.underlying53 h with ⟨rfl,rfl⟩ | ⟨a,len,cap,m,n,D,Pl,rfl,hb,hl,hm,hmm,rfl,hx⟩
 ·exact ⟨_,0,fun _=>default,rfl,⟨none,0,rfl,fun f=>by omega⟩,by omega,fun i hi=>by omega,fun i hi=>by omega,fun i hi=>by omega⟩
 ·have hle:len≤m:=by rw [hmm];split <;> omega
  have hh:=hz.head Tryz.underlying53
  rw [bytesLN] at hh
  simp only [List.length_map,List.length_range] at hh
  rw [cellsLN] at hx
  obtain ⟨F,hF⟩:=Deep.choose_lt (α:=Nd) (n:=len) (p:=fun i g=>NodeC 0 w (a.add (i*8)) g∧((g.a.x.size:Int) < 140737488355328∧(g.p:Int) < 140737488355328∧(g.q:Int) < 140737488355328)∧g.a.g < 18446744073709551616∧(-9223372036854775808≤g.a.m∧g.a.m≤9223372036854775807)) (fun i hi=>by
   obtain ⟨cs',h1,h2⟩:=hx i (by omega)
   exact read_node h2 h1 (hz.elem Tryz.underlying53 (List.mem_map.2 ⟨i,List.mem_range.2 hi,rfl⟩)))
  exact ⟨_,len,F,rfl,⟨some a,cap,rfl,fun _=>⟨a,rfl,hl,Nat.zero_le _,fun i hi=>(hF i hi).1⟩⟩,by omega,fun i hi=>(hF i hi).2.1,fun i hi=>(hF i hi).2.2.1,fun i hi=>(hF i hi).2.2.2⟩
theorem read_up {fuel : Nat} {cs : List Value} {x : DataW H × List MemPlace} {b : Addr} (h : DataW.trod enc Tryz.prog w base sp held fuel 94 cs = some x) (hc : w.cells? base b 2 = some cs) :
  ∃ g:Bool × Int,UpC 0 w b g:=by
 obtain ⟨_,hlen,hcell⟩:=World.cells?_some hc
 obtain ⟨xs,n,_,rfl,hl,hxl,hf⟩:=DataW.trod_struct Tryz.underlying94 h
 match cs,hlen with
 | [c0,c1],_ =>
  match xs,hxl with
  | [y0,y1],_ =>
   have t0:=hf 0 _ rfl
   have t1:=hf 1 _ rfl
   simp [cells3,cellsB] at t0 t1
   obtain ⟨z0,e0⟩:=trod_bl Tryz.underlying4 t0
   obtain ⟨z1,e1,_⟩:=DataW.trod_int Tryz.underlying3 t1
   simp only [List.cons.injEq,and_true] at e0 e1
   subst e0 e1
   refine ⟨(z0,z1),⟨?_,?_⟩⟩
   ·have:=hcell 0 (by omega);simpa [Addr.add] using this
   ·have:=hcell 1 (by omega);simpa [Addr.add] using this
theorem read_ups {fuel : Nat} {cs : List Value} {x : DataW H × List MemPlace} (h : DataW.trod enc Tryz.prog w base sp held fuel 52 cs = some x) (hz : Sz 52 x.1) :
  ∃ (v:Value) (n:Nat) (U:Nat→Bool × Int),cs = [v]∧RowU 0 w v n U∧(n:Int) < 140737488355328:=by
 rcases Deep.open_slice Tryz.underlying52 h with ⟨rfl,rfl⟩ | ⟨a,len,cap,m,n,D,Pl,rfl,hb,hl,hm,hmm,rfl,hx⟩
 ·exact ⟨_,0,fun _=>(false,0),rfl,⟨none,0,rfl,fun f=>by omega⟩,by omega⟩
 ·have hle:len≤m:=by rw [hmm];split <;> omega
  have hh:=hz.head Tryz.underlying52
  rw [bytesLU] at hh
  simp only [List.length_map,List.length_range] at hh
  rw [cellsLU] at hx
  obtain ⟨F,hF⟩:=choose_fn (α:=Bool × Int) (inst:=⟨(false,0)⟩) (n:=len) (p:=fun i g=>UpC 0 w (a.add (i*2)) g) (fun i hi=>by
   obtain ⟨cs',h1,h2⟩:=hx i (by omega)
   exact read_up h2 h1)
  exact ⟨_,len,F,rfl,⟨some a,cap,rfl,fun _=>⟨a,rfl,hl,Nat.zero_le _,fun i hi=>hF i hi⟩⟩,by omega⟩
def RdF (d:Fd):Prop:=((d.x.size:Int) < 140737488355328∧(d.p:Int) < 140737488355328∧(∀ j,j < d.p→((d.V j).size:Int) < 140737488355328)∧(d.u:Int) < 140737488355328∧(d.n:Int) < 140737488355328∧BN d.N d.n)∧(∀ i,i < d.n→(d.N i).a.g < 18446744073709551616)∧(∀ i,i < d.n → -9223372036854775808≤(d.N i).a.m∧(d.N i).a.m≤9223372036854775807)
theorem read_fn {fuel : Nat} {cs : List Value} {x : DataW H × List MemPlace} {b : Addr} (h : DataW.trod enc Tryz.prog w base sp held fuel 55 cs = some x) (hc : w.cells? base b 7 = some cs) (hz : Sz 55 x.1) :
  ∃ g:Fd,FnC 0 w b g∧RdF g:=by
 obtain ⟨_,hlen,hcell⟩:=World.cells?_some hc
 obtain ⟨xs,n,_,rfl,hl,hxl,hf⟩:=DataW.trod_struct Tryz.underlying55 h
 match cs,hlen with
 | [c0,c1,c2,c3,c4,c5,c6],_ =>
  match xs,hxl with
  | [y0,y1,y2,y3,y4,y5,y6],_ =>
   have t0:=hf 0 _ rfl
   have t1:=hf 1 _ rfl
   have t2:=hf 2 _ rfl
   have t3:=hf 3 _ rfl
   have t4:=hf 4 _ rfl
   have t5:=hf 5 _ rfl
   have t6:=hf 6 _ rfl
   simp [cells3,cells9,cells35,cellsB,cellsLNs,cellsLUs] at t0 t1 t2 t3 t4 t5 t6
   have hzz:∀ n ∈ y0.1.weights Tryz.prog 9 ++ (y4.1.weights Tryz.prog 44 ++ (y5.1.weights Tryz.prog 52 ++ y6.1.weights Tryz.prog 53)),n≤140737488351232:=by
    intro n hn
    refine hz n ?_
    simp [DataW.weights,Tryz.underlying55,DataW.weightsEach]
    simp at hn
    rcases hn with hn | hn
    ·exact Or.inl hn
    ·exact Or.inr (Or.inr (Or.inr (Or.inr hn)))
   obtain ⟨z0,e0,e0',_⟩:=DataW.trod_string Tryz.underlying9 t0
   obtain ⟨z1,e1,_⟩:=DataW.trod_int Tryz.underlying3 t1
   obtain ⟨z2,e2,_⟩:=DataW.trod_int Tryz.underlying3 t2
   obtain ⟨z3,e3⟩:=trod_bl Tryz.underlying4 t3
   obtain ⟨vv,p,V,e4,r4,s4,s4'⟩:=read_strs t4 (fun n hn=>hzz n (by simp [hn]))
   obtain ⟨vu,u,U,e5,r5,s5⟩:=read_ups t5 (fun n hn=>hzz n (by simp [hn]))
   obtain ⟨vn,nn,N,e6,r6,s6,s6',s6a,s6b⟩:=read_nodes t6 (fun n hn=>hzz n (by simp [hn]))
   simp only [List.cons.injEq,and_true] at e0 e1 e2 e3 e4 e5 e6
   subst e0 e1 e2 e3 e4 e5 e6
   refine ⟨⟨z0,z1,z2,z3,p,V,u,U,nn,N⟩,⟨_,_,_,⟨?_,?_,?_,?_,?_,?_,?_⟩,r4.rowB,r5,r6⟩,⟨⟨?_,s4,s4',s5,s6,s6'⟩,s6a,s6b⟩⟩
   ·have:=hcell 0 (by omega);simpa [Addr.add] using this
   ·have:=hcell 1 (by omega);simpa [Addr.add] using this
   ·have:=hcell 2 (by omega);simpa [Addr.add] using this
   ·have:=hcell 3 (by omega);simpa [Addr.add] using this
   ·have:=hcell 4 (by omega);simpa [Addr.add] using this
   ·have:=hcell 5 (by omega);simpa [Addr.add] using this
   ·have:=hcell 6 (by omega);simpa [Addr.add] using this
   ·have:=hzz z0.data.toList.length (by rw [e0'];simp [DataW.weights])
    show ((z0.size:Nat):Int) < _
    have e:z0.size=z0.data.toList.length:=by simp
    omega
theorem read_fns {fuel : Nat} {cs : List Value} {x : DataW H × List MemPlace} (h : DataW.trod enc Tryz.prog w base sp held fuel 22 cs = some x) (hz : Sz 22 x.1) :
  ∃ (v:Value) (n:Nat) (F:Nat→Fd),cs = [v]∧RowF 0 w v n F∧(n:Int) < 140737488355328∧∀ i,i < n→RdF (F i):=by
 rcases Deep.open_slice Tryz.underlying22 h with ⟨rfl,rfl⟩ | ⟨a,len,cap,m,n,D,Pl,rfl,hb,hl,hm,hmm,rfl,hx⟩
 ·exact ⟨_,0,fun _=>default,rfl,⟨none,0,rfl,fun f=>by omega⟩,by omega,fun i hi=>by omega⟩
 ·have hle:len≤m:=by rw [hmm];split <;> omega
  have hh:=hz.head Tryz.underlying22
  rw [bytesLF] at hh
  simp only [List.length_map,List.length_range] at hh
  rw [cellsLF] at hx
  obtain ⟨F,hF⟩:=Deep.choose_lt (α:=Fd) (n:=len) (p:=fun i g=>FnC 0 w (a.add (i*7)) g∧RdF g) (fun i hi=>by
   obtain ⟨cs',h1,h2⟩:=hx i (by omega)
   exact read_fn h2 h1 (hz.elem Tryz.underlying22 (List.mem_map.2 ⟨i,List.mem_range.2 hi,rfl⟩)))
  exact ⟨_,len,F,rfl,⟨some a,cap,rfl,fun _=>⟨a,rfl,hl,Nat.zero_le _,fun i hi=>(hF i hi).1⟩⟩,by omega,fun i hi=>(hF i hi).2⟩
end
theorem bd_of {nf:Nat} {F:Nat→Fd} (h:nf+sm (szF F) nf≤1048576) (hF:∀ i,i < nf→RdF (F i)):Bd nf F:=by
  have one:∀ f,f < nf→szF F f≤1048576:=fun f hf=>by have:=sm_one (szF F) hf;omega
  have two:∀ f,f < nf→∀ t,t < (F f).n→szN (F f).N t≤1048576:=fun f hf t ht=>by
    have h1:=one f hf
    have h2:=sm_one (szN (F f).N) ht
    unfold szF at h1
    omega
  refine ⟨by omega,?_,?_,?_,?_,?_,?_⟩
  · have : sm (fun i => (F i).n) nf ≤ sm (szF F) nf := by
      have:∀ k,k≤nf→sm (fun i=>(F i).n) k≤sm (szF F) k:=by
        intro k
        induction k with
        | zero=>intro _;exact Nat.le_refl _
        | succ k ih =>
          intro hk
          have:=ih (by omega)
          show sm (fun i=>(F i).n) k+(F k).n≤sm (szF F) k+szF F k
          unfold szF
          unfold szF at this
          omega
      exact this nf (Nat.le_refl _)
    omega
  · intro f hf;have:=one f hf;unfold szF at this;omega
  · intro f hf;have:=one f hf;unfold szF at this;omega
  · intro f hf;have:=one f hf;unfold szF at this;omega
  · intro f hf t ht
    have:=two f hf t ht
    unfold szN at this
    exact ⟨by omega,by omega,(hF f hf).2.1 t ht⟩
  · intro f hf t ht;exact (hF f hf).2.2 t ht
theorem bf_of {nf:Nat} {F:Nat→Fd} (hF:∀ i,i < nf→RdF (F i)):BF F nf:=fun i hi=>(hF i hi).1
theorem to_unit {va:Value} {nf:Nat} {F:Nat→Fd} (w:World) (ha:RowF 0 w va nf F) (hb:Bd nf F):Calls Tryz.prog 6 #[.agg #[va]] w fun e w'=>∃ v,e = .returned (.agg #[v])∧RowF w.heap.size w' v nf F∧Kb 0 w w' :=
 to_unit0 w (fun W k=>to_fns W (ha.keep k) hb.hnf (fun i hi=>⟨hb.hp i hi,hb.hu i hi,hb.hn i hi,fun j hj=>⟨(hb.hN i hi j hj).1,(hb.hN i hi j hj).2.1⟩⟩))
theorem eq_unit {va vb:Value} {nf:Nat} {F:Nat→Fd} (w:World) (ha:RowF 0 w va nf F) (hv:RowF 0 w vb nf F) (hb:Bd nf F):Calls Tryz.prog 9 #[.agg #[va],.agg #[vb]] w fun e w'=>e = .returned (.bool true)∧Kb 0 w w' :=
 eq_unit0 w (fun W k=>eq_fns W (ha.keep k) (hv.keep k) hb.hnf (fun i hi=>⟨hb.hp i hi,hb.hu i hi,hb.hn i hi,fun j hj=>hb.hN i hi j hj⟩))
end Go.Proofs.YtfpidccjcemcjaaGreat.Fo
