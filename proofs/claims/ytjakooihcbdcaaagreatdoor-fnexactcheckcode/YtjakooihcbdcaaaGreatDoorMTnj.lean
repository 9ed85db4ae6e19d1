import Derived.Test.YtjakooihcbdcaaaGreatDoorMZsq
import Derived.Test.YtjakooihcbdcaaaGreatDoorMCbg
import Derived.Test.YtjakooihcbdcaaaGreatDoorMCdd
import Derived.Deep.RegionHeldLaw
set_option maxHeartbeats 16000000
namespace Go.Proofs.YtjakooihcbdcaaaGreatDoor.Fo
open Go.ChangeShapes Go.WideShapes Go.ChangeAt Go.RowKit
set_option linter.unusedVariables false
set_option maxRecDepth 100000
theorem cells3:Tryz.prog.cellsOf 3=1:=by kernel_rfl
theorem cells2:Tryz.prog.cellsOf 2=1:=by kernel_rfl
theorem cells9:Tryz.prog.cellsOf 9=1:=by kernel_rfl
def strOf:Value→ByteArray
 | .string s=>s
 | _=>⟨#[]⟩
def numOf:Value→Int
 | .int _ z=>z
 | _=>0
def Sz {H:Type} (t:TypeId) (d:DataW H):Prop:=∀ n ∈ d.weights Tryz.prog t,n≤140737488351232
theorem weightsAll_mem {H:Type} {e:TypeId}:∀ {l:List (DataW H)} {d:DataW H} {n:Nat},d ∈ l→n ∈ d.weights Tryz.prog e→n ∈ DataW.weightsAll Tryz.prog e l
 | [],_,_,h,_=>by cases h
 | x :: r,d,n,h,hn=>by
  simp only [DataW.weightsAll,List.mem_append];rcases List.mem_cons.1 h with rfl | h
  ·exact Or.inl hn
  ·exact Or.inr (weightsAll_mem h hn)
theorem Sz.head {H:Type} {t e:TypeId} {el sp:List (DataW H)} (h:Sz t (.slice el sp)) (ht:Tryz.prog.underlying t=some (.slice e)):(el.length+sp.length)*Tryz.prog.bytesOf e≤140737488351232:=h _ (by simp [DataW.weights,ht])
theorem Sz.elem {H:Type} {t e:TypeId} {el sp:List (DataW H)} (h:Sz t (.slice el sp)) (ht:Tryz.prog.underlying t=some (.slice e)) {d:DataW H} (hd:d ∈ el):Sz e d:=fun n hn=>h n (by
 simp only [DataW.weights,ht,List.mem_cons,List.mem_append]
 exact Or.inr (Or.inl (weightsAll_mem hd hn)))
section
variable {H:Type} {enc:TypeId × Value→H} {w:World} {base:Nat} {sp:Nat→Bool} {held:Bool}
theorem trod_flt {fuel:Nat} {t:TypeId} {cs:List Value} {x:DataW H × List MemPlace} (ht:Tryz.prog.underlying t=some (.float .f64)) (h:DataW.trod enc Tryz.prog w base sp held fuel t cs=some x):∃ n,cs = [.float .f64 n]∧n < 18446744073709551616:=by
 cases fuel with
 | zero=>simp [DataW.trod] at h
 | succ n =>
  unfold DataW.trod at h;rw [ht] at h;split at h <;> simp_all
  rename_i k b e
  subst e;obtain ⟨⟨h1,h2⟩,_⟩:=h
  simpa [Lit.wf] using h2
theorem cellsF:Tryz.prog.cellsOf 160=1:=by kernel_rfl
theorem cellsB:Tryz.prog.cellsOf 4=1:=by kernel_rfl
theorem cellsLU:Tryz.prog.cellsOf 210=2:=by kernel_rfl
theorem bytesLU:Tryz.prog.bytesOf 210=16:=by kernel_rfl
theorem cellsLUs:Tryz.prog.cellsOf 104=1:=by kernel_rfl
theorem cellsLI:Tryz.prog.cellsOf 213=5:=by kernel_rfl
theorem bytesLI:Tryz.prog.bytesOf 213=40:=by kernel_rfl
theorem cellsLIs:Tryz.prog.cellsOf 106=1:=by kernel_rfl
theorem cellsLM:Tryz.prog.cellsOf 207=4:=by kernel_rfl
theorem bytesLM:Tryz.prog.bytesOf 207=40:=by kernel_rfl
theorem cellsLMs:Tryz.prog.cellsOf 107=1:=by kernel_rfl
theorem cellsLV:Tryz.prog.cellsOf 205=5:=by kernel_rfl
theorem bytesLV:Tryz.prog.bytesOf 205=48:=by kernel_rfl
theorem cellsLVs:Tryz.prog.cellsOf 105=1:=by kernel_rfl
theorem cellsLP:Tryz.prog.cellsOf 109=9:=by kernel_rfl
theorem bytesLP:Tryz.prog.bytesOf 109=144:=by kernel_rfl
theorem trod_bl {fuel:Nat} {t:TypeId} {cs:List Value} {x:DataW H × List MemPlace} (ht:Tryz.prog.underlying t=some .bool) (h:DataW.trod enc Tryz.prog w base sp held fuel t cs=some x):∃ b,cs = [.bool b]:=by
 cases fuel with
 | zero=>simp [DataW.trod] at h
 | succ n =>
  unfold DataW.trod at h;rw [ht] at h;split at h <;> simp_all
theorem read_up {fuel : Nat} {cs : List Value} {x : DataW H × List MemPlace} {b : Addr} (h : DataW.trod enc Tryz.prog w base sp held fuel 210 cs = some x) (hc : w.cells? base b 2 = some cs) :
  ∃ g:Bool × Int,UpC 0 w b g:=by
 obtain ⟨_,hlen,hcell⟩:=World.cells?_some hc;obtain ⟨xs,n,_,rfl,hl,hxl,hf⟩:=DataW.trod_struct Tryz.underlying210 h
 match cs,hlen with
 | [c0,c1],_ =>
  match xs,hxl with
  | [y0,y1],_ =>
   have t0:=hf 0 _ rfl;have t1:=hf 1 _ rfl;simp [cells3,cellsB] at t0 t1;obtain ⟨z0,e0⟩:=trod_bl Tryz.underlying4 t0;obtain ⟨z1,e1,_⟩:=DataW.trod_int Tryz.underlying3 t1;simp only [List.cons.injEq,and_true] at e0 e1;subst e0 e1;refine ⟨(z0,z1),⟨?_,?_⟩⟩
   ·have:=hcell 0 (by omega);simpa [Addr.add] using this
   ·have:=hcell 1 (by omega);simpa [Addr.add] using this
theorem read_ups {fuel : Nat} {cs : List Value} {x : DataW H × List MemPlace} (h : DataW.trod enc Tryz.prog w base sp held fuel 104 cs = some x) (hz : Sz 104 x.1) :
  ∃ (v:Value) (n:Nat) (U:Nat→Bool × Int),cs = [v]∧RowU 0 w v n U∧(n:Int) < 140737488355328:=by
 rcases Deep.open_slice Tryz.underlying104 h with ⟨rfl,rfl⟩ | ⟨a,len,cap,m,n,D,Pl,rfl,hb,hl,hm,hmm,rfl,hx⟩
 ·exact ⟨_,0,fun _=>(false,0),rfl,⟨none,0,rfl,fun f=>by omega⟩,by omega⟩
 ·have hle:len≤m:=by rw [hmm];split <;> omega
  have hh:=hz.head Tryz.underlying104;rw [bytesLU] at hh;simp only [List.length_map,List.length_range] at hh;rw [cellsLU] at hx
  obtain ⟨F,hF⟩:=choose_fn (α:=Bool × Int) (inst:=⟨(false,0)⟩) (n:=len) (p:=fun i g=>UpC 0 w (a.add (i*2)) g) (fun i hi=>by
   obtain ⟨cs',h1,h2⟩:=hx i (by omega)
   exact read_up h2 h1)
  exact ⟨_,len,F,rfl,⟨some a,cap,rfl,fun _=>⟨a,rfl,hl,Nat.zero_le _,fun i hi=>hF i hi⟩⟩,by omega⟩
theorem read_ins {fuel : Nat} {cs : List Value} {x : DataW H × List MemPlace} {b : Addr} (h : DataW.trod enc Tryz.prog w base sp held fuel 213 cs = some x) (hc : w.cells? base b 5 = some cs) :
  ∃ g:Iv,InsC 0 w b g:=by
 obtain ⟨_,hlen,hcell⟩:=World.cells?_some hc;obtain ⟨xs,n,_,rfl,hl,hxl,hf⟩:=DataW.trod_struct Tryz.underlying213 h
 match cs,hlen with
 | [c0,c1,c2,c3,c4],_ =>
  match xs,hxl with
  | [y0,y1,y2,y3,y4],_ =>
   have t0:=hf 0 _ rfl;have t1:=hf 1 _ rfl;have t2:=hf 2 _ rfl;have t3:=hf 3 _ rfl;have t4:=hf 4 _ rfl;simp [cells3] at t0 t1 t2 t3 t4;obtain ⟨z0,e0,_⟩:=DataW.trod_int Tryz.underlying3 t0;obtain ⟨z1,e1,_⟩:=DataW.trod_int Tryz.underlying3 t1;obtain ⟨z2,e2,_⟩:=DataW.trod_int Tryz.underlying3 t2;obtain ⟨z3,e3,_⟩:=DataW.trod_int Tryz.underlying3 t3;obtain ⟨z4,e4,_⟩:=DataW.trod_int Tryz.underlying3 t4;simp only [List.cons.injEq,and_true] at e0 e1 e2 e3 e4;subst e0 e1 e2 e3 e4;refine ⟨⟨z0,z1,z2,z3,z4⟩,⟨?_,?_,?_,?_,?_⟩⟩
   ·have:=hcell 0 (by omega);simpa [Addr.add] using this
   ·have:=hcell 1 (by omega);simpa [Addr.add] using this
   ·have:=hcell 2 (by omega);simpa [Addr.add] using this
   ·have:=hcell 3 (by omega);simpa [Addr.add] using this
   ·have:=hcell 4 (by omega);simpa [Addr.add] using this
theorem read_inss {fuel : Nat} {cs : List Value} {x : DataW H × List MemPlace} (h : DataW.trod enc Tryz.prog w base sp held fuel 106 cs = some x) (hz : Sz 106 x.1) :
  ∃ (v:Value) (n:Nat) (A:Nat→Iv),cs = [v]∧RowI 0 w v n A∧(n:Int) < 140737488355328:=by
 rcases Deep.open_slice Tryz.underlying106 h with ⟨rfl,rfl⟩ | ⟨a,len,cap,m,n,D,Pl,rfl,hb,hl,hm,hmm,rfl,hx⟩
 ·exact ⟨_,0,fun _=>default,rfl,⟨none,0,rfl,fun f=>by omega⟩,by omega⟩
 ·have hle:len≤m:=by rw [hmm];split <;> omega
  have hh:=hz.head Tryz.underlying106;rw [bytesLI] at hh;simp only [List.length_map,List.length_range] at hh;rw [cellsLI] at hx
  obtain ⟨F,hF⟩:=Deep.choose_lt (α:=Iv) (n:=len) (p:=fun i g=>InsC 0 w (a.add (i*5)) g) (fun i hi=>by
   obtain ⟨cs',h1,h2⟩:=hx i (by omega)
   exact read_ins h2 h1)
  exact ⟨_,len,F,rfl,⟨some a,cap,rfl,fun _=>⟨a,rfl,hl,Nat.zero_le _,fun i hi=>hF i hi⟩⟩,by omega⟩
theorem read_nam {fuel : Nat} {cs : List Value} {x : DataW H × List MemPlace} {b : Addr} (h : DataW.trod enc Tryz.prog w base sp held fuel 207 cs = some x) (hc : w.cells? base b 4 = some cs) (hz : Sz 207 x.1) :
  ∃ g:Mv,NamC 0 w b g∧(g.x.size:Int) < 140737488355328:=by
 obtain ⟨_,hlen,hcell⟩:=World.cells?_some hc;obtain ⟨xs,n,_,rfl,hl,hxl,hf⟩:=DataW.trod_struct Tryz.underlying207 h
 match cs,hlen with
 | [c0,c1,c2,c3],_ =>
  match xs,hxl with
  | [y0,y1,y2,y3],_ =>
   have t0:=hf 0 _ rfl;have t1:=hf 1 _ rfl;have t2:=hf 2 _ rfl;have t3:=hf 3 _ rfl;simp [cells9,cells3] at t0 t1 t2 t3
   have hzz:∀ n ∈ y0.1.weights Tryz.prog 9,n≤140737488351232:=by
    intro n hn;refine hz n ?_;simp [DataW.weights,Tryz.underlying207,DataW.weightsEach]
    first | exact hn | exact Or.inl hn | simp [hn]
   obtain ⟨z0,e0,e0',_⟩:=DataW.trod_string Tryz.underlying9 t0;obtain ⟨z1,e1,_⟩:=DataW.trod_int Tryz.underlying3 t1;obtain ⟨z2,e2,_⟩:=DataW.trod_int Tryz.underlying3 t2;obtain ⟨z3,e3,_⟩:=DataW.trod_int Tryz.underlying3 t3;simp only [List.cons.injEq,and_true] at e0 e1 e2 e3;subst e0 e1 e2 e3;refine ⟨⟨z0,z1,z2,z3⟩,⟨?_,?_,?_,?_⟩,?_⟩
   ·have:=hcell 0 (by omega);simpa [Addr.add] using this
   ·have:=hcell 1 (by omega);simpa [Addr.add] using this
   ·have:=hcell 2 (by omega);simpa [Addr.add] using this
   ·have:=hcell 3 (by omega);simpa [Addr.add] using this
   ·have:=hzz z0.data.toList.length (by rw [e0'];simp [DataW.weights]);show ((z0.size:Nat):Int) < _;have e:z0.size=z0.data.toList.length:=by simp
    omega
theorem read_nams {fuel : Nat} {cs : List Value} {x : DataW H × List MemPlace} (h : DataW.trod enc Tryz.prog w base sp held fuel 107 cs = some x) (hz : Sz 107 x.1) :
  ∃ (v:Value) (n:Nat) (A:Nat→Mv),cs = [v]∧RowM 0 w v n A∧(n:Int) < 140737488355328∧∀ i,i < n→((A i).x.size:Int) < 140737488355328:=by
 rcases Deep.open_slice Tryz.underlying107 h with ⟨rfl,rfl⟩ | ⟨a,len,cap,m,n,D,Pl,rfl,hb,hl,hm,hmm,rfl,hx⟩
 ·exact ⟨_,0,fun _=>default,rfl,⟨none,0,rfl,fun f=>by omega⟩,by omega,fun i hi=>by omega⟩
 ·have hle:len≤m:=by rw [hmm];split <;> omega
  have hh:=hz.head Tryz.underlying107;rw [bytesLM] at hh;simp only [List.length_map,List.length_range] at hh;rw [cellsLM] at hx
  obtain ⟨F,hF⟩:=Deep.choose_lt (α:=Mv) (n:=len) (p:=fun i g=>NamC 0 w (a.add (i*4)) g∧(g.x.size:Int) < 140737488355328) (fun i hi=>by
   obtain ⟨cs',h1,h2⟩:=hx i (by omega)
   exact read_nam h2 h1 (hz.elem Tryz.underlying107 (List.mem_map.2 ⟨i,List.mem_range.2 hi,rfl⟩)))
  exact ⟨_,len,F,rfl,⟨some a,cap,rfl,fun _=>⟨a,rfl,hl,Nat.zero_le _,fun i hi=>(hF i hi).1⟩⟩,by omega,fun i hi=>(hF i hi).2⟩
theorem read_valu {fuel : Nat} {cs : List Value} {x : DataW H × List MemPlace} {b : Addr} (h : DataW.trod enc Tryz.prog w base sp held fuel 205 cs = some x) (hc : w.cells? base b 5 = some cs) (hz : Sz 205 x.1) :
  ∃ g:Vv,ValC 0 w b g∧((g.x.size:Int) < 140737488355328∧g.g < 18446744073709551616 ∧ -9223372036854775808≤g.m∧g.m≤9223372036854775807):=by
 obtain ⟨_,hlen,hcell⟩:=World.cells?_some hc;obtain ⟨xs,n,_,rfl,hl,hxl,hf⟩:=DataW.trod_struct Tryz.underlying205 h
 match cs,hlen with
 | [c0,c1,c2,c3,c4],_ =>
  match xs,hxl with
  | [y0,y1,y2,y3,y4],_ =>
   have t0:=hf 0 _ rfl;have t1:=hf 1 _ rfl;have t2:=hf 2 _ rfl;have t3:=hf 3 _ rfl;have t4:=hf 4 _ rfl;simp [cells3,cells2,cellsF,cells9] at t0 t1 t2 t3 t4
   have hzz:∀ n ∈ y3.1.weights Tryz.prog 9,n≤140737488351232:=by
    intro n hn;refine hz n ?_;simp [DataW.weights,Tryz.underlying205,DataW.weightsEach]
    first | exact Or.inr (Or.inr (Or.inr hn)) | exact Or.inr (Or.inr (Or.inr (Or.inl hn))) | simp [hn]
   obtain ⟨z0,e0,_⟩:=DataW.trod_int Tryz.underlying3 t0;obtain ⟨z1,e1,_,gb1⟩:=DataW.trod_int Tryz.underlying2 t1;obtain ⟨z2,e2,gf2⟩:=trod_flt Tryz.underlying160 t2;obtain ⟨z3,e3,e3',_⟩:=DataW.trod_string Tryz.underlying9 t3;obtain ⟨z4,e4,_⟩:=DataW.trod_int Tryz.underlying3 t4;simp only [List.cons.injEq,and_true] at e0 e1 e2 e3 e4;subst e0 e1 e2 e3 e4;refine ⟨⟨z0,z1,z2,z3,z4⟩,⟨?_,?_,?_,?_,?_⟩,⟨?_,gf2,?_⟩⟩
   ·have:=hcell 0 (by omega);simpa [Addr.add] using this
   ·have:=hcell 1 (by omega);simpa [Addr.add] using this
   ·have:=hcell 2 (by omega);simpa [Addr.add] using this
   ·have:=hcell 3 (by omega);simpa [Addr.add] using this
   ·have:=hcell 4 (by omega);simpa [Addr.add] using this
   ·have:=hzz z3.data.toList.length (by rw [e3'];simp [DataW.weights]);show ((z3.size:Nat):Int) < _;have e:z3.size=z3.data.toList.length:=by simp
    omega
   ·have:=gb1;simp [Lit.wf,IntKind.min,IntKind.max,IntKind.signed,IntKind.bits] at this;show -9223372036854775808≤z1∧z1≤9223372036854775807;omega
theorem read_vals {fuel : Nat} {cs : List Value} {x : DataW H × List MemPlace} (h : DataW.trod enc Tryz.prog w base sp held fuel 105 cs = some x) (hz : Sz 105 x.1) :
  ∃ (v:Value) (n:Nat) (A:Nat→Vv),cs = [v]∧RowW 0 w v n A∧(n:Int) < 140737488355328∧∀ i,i < n→((((A i)).x.size:Int) < 140737488355328∧((A i)).g < 18446744073709551616 ∧ -9223372036854775808≤(A i).m∧(A i).m≤9223372036854775807):=by
 rcases Deep.open_slice Tryz.underlying105 h with ⟨rfl,rfl⟩ | ⟨a,len,cap,m,n,D,Pl,rfl,hb,hl,hm,hmm,rfl,hx⟩
 ·exact ⟨_,0,fun _=>default,rfl,⟨none,0,rfl,fun f=>by omega⟩,by omega,fun i hi=>by omega⟩
 ·have hle:len≤m:=by rw [hmm];split <;> omega
  have hh:=hz.head Tryz.underlying105;rw [bytesLV] at hh;simp only [List.length_map,List.length_range] at hh;rw [cellsLV] at hx
  obtain ⟨F,hF⟩:=Deep.choose_lt (α:=Vv) (n:=len) (p:=fun i g=>ValC 0 w (a.add (i*5)) g∧(((g).x.size:Int) < 140737488355328∧(g).g < 18446744073709551616 ∧ -9223372036854775808≤g.m∧g.m≤9223372036854775807)) (fun i hi=>by
   obtain ⟨cs',h1,h2⟩:=hx i (by omega)
   exact read_valu h2 h1 (hz.elem Tryz.underlying105 (List.mem_map.2 ⟨i,List.mem_range.2 hi,rfl⟩)))
  exact ⟨_,len,F,rfl,⟨some a,cap,rfl,fun _=>⟨a,rfl,hl,Nat.zero_le _,fun i hi=>(hF i hi).1⟩⟩,by omega,fun i hi=>(hF i hi).2⟩
def RdPc (d:Pd):Prop:=((d.x.size:Int) < 140737488355328∧(d.u:Int) < 140737488355328∧((d.c:Int) < 140737488355328∧∀ j,j < d.c→((d.C j).x.size:Int) < 140737488355328)∧(d.n:Int) < 140737488355328∧((d.d:Int) < 140737488355328∧∀ j,j < d.d→((d.D j).x.size:Int) < 140737488355328))∧(∀ j,j < d.c→(d.C j).g < 18446744073709551616 ∧ -9223372036854775808≤(d.C j).m∧(d.C j).m≤9223372036854775807) ∧ -9223372036854775808≤d.g
theorem read_pro {fuel : Nat} {cs : List Value} {x : DataW H × List MemPlace} {b : Addr} (h : DataW.trod enc Tryz.prog w base sp held fuel 109 cs = some x) (hc : w.cells? base b 9 = some cs) (hz : Sz 109 x.1) :
  ∃ g:Pd,ProC 0 w b g∧RdPc g:=by
 obtain ⟨_,hlen,hcell⟩:=World.cells?_some hc;obtain ⟨xs,n,_,rfl,hl,hxl,hf⟩:=DataW.trod_struct Tryz.underlying109 h
 match cs,hlen with
 | [c0,c1,c2,c3,c4,c5,c6,c7,c8],_ =>
  match xs,hxl with
  | [y0,y1,y2,y3,y4,y5,y6,y7,y8],_ =>
   have t0:=hf 0 _ rfl;have t1:=hf 1 _ rfl;have t2:=hf 2 _ rfl;have t3:=hf 3 _ rfl;have t4:=hf 4 _ rfl;have t5:=hf 5 _ rfl;have t6:=hf 6 _ rfl;have t7:=hf 7 _ rfl;have t8:=hf 8 _ rfl;simp [cells9,cells3,cellsB,cellsLUs,cellsLVs,cellsLIs,cellsLMs] at t0 t1 t2 t3 t4 t5 t6 t7 t8
   have hzz:∀ n ∈ y0.1.weights Tryz.prog 9 ++ (y5.1.weights Tryz.prog 104 ++ (y6.1.weights Tryz.prog 105 ++ (y7.1.weights Tryz.prog 106 ++ y8.1.weights Tryz.prog 107))),n≤140737488351232:=by
    intro n hn;refine hz n ?_;simp [DataW.weights,Tryz.underlying109,DataW.weightsEach];simp at hn;rcases hn with hn | hn
    ·exact Or.inl hn
    ·exact Or.inr (Or.inr (Or.inr (Or.inr (Or.inr hn))))
   obtain ⟨z0,e0,e0',_⟩:=DataW.trod_string Tryz.underlying9 t0;obtain ⟨z1,e1,_⟩:=DataW.trod_int Tryz.underlying3 t1;obtain ⟨z2,e2,_⟩:=DataW.trod_int Tryz.underlying3 t2;obtain ⟨z3,e3⟩:=trod_bl Tryz.underlying4 t3;obtain ⟨z4,e4,_,gb4⟩:=DataW.trod_int Tryz.underlying3 t4;obtain ⟨vu,u,U,e5,r5,s5⟩:=read_ups t5 (fun n hn=>hzz n (by simp [hn]));obtain ⟨vc,c,C,e6,r6,s6,s6a⟩:=read_vals t6 (fun n hn=>hzz n (by simp [hn]));obtain ⟨vn,nn,N,e7,r7,s7⟩:=read_inss t7 (fun n hn=>hzz n (by simp [hn]));obtain ⟨vd,d,D,e8,r8,s8,s8a⟩:=read_nams t8 (fun n hn=>hzz n (by simp [hn]));simp only [List.cons.injEq,and_true] at e0 e1 e2 e3 e4 e5 e6 e7 e8;subst e0 e1 e2 e3 e4 e5 e6 e7 e8;refine ⟨⟨z0,z1,z2,z3,z4,u,U,c,C,nn,N,d,D⟩,⟨_,_,_,_,⟨?_,?_,?_,?_,?_,?_,?_,?_,?_⟩,r5,r6,r7,r8⟩,⟨⟨?_,s5,⟨s6,fun j hj=>(s6a j hj).1⟩,s7,⟨s8,s8a⟩⟩,fun j hj=>(s6a j hj).2,?_⟩⟩
   ·have:=hcell 0 (by omega);simpa [Addr.add] using this
   ·have:=hcell 1 (by omega);simpa [Addr.add] using this
   ·have:=hcell 2 (by omega);simpa [Addr.add] using this
   ·have:=hcell 3 (by omega);simpa [Addr.add] using this
   ·have:=hcell 4 (by omega);simpa [Addr.add] using this
   ·have:=hcell 5 (by omega);simpa [Addr.add] using this
   ·have:=hcell 6 (by omega);simpa [Addr.add] using this
   ·have:=hcell 7 (by omega);simpa [Addr.add] using this
   ·have:=hcell 8 (by omega);simpa [Addr.add] using this
   ·have:=hzz z0.data.toList.length (by rw [e0'];simp [DataW.weights]);show ((z0.size:Nat):Int) < _;have e:z0.size=z0.data.toList.length:=by simp
    omega
   ·have:=gb4;simp [Lit.wf,IntKind.min,IntKind.max,IntKind.signed,IntKind.bits] at this;show -9223372036854775808≤z4;omega
theorem read_pros {fuel : Nat} {cs : List Value} {x : DataW H × List MemPlace} (h : DataW.trod enc Tryz.prog w base sp held fuel 22 cs = some x) (hz : Sz 22 x.1) :
  ∃ (v:Value) (n:Nat) (A:Nat→Pd),cs = [v]∧RowP 0 w v n A∧(n:Int) < 140737488355328∧∀ i,i < n→RdPc (A i):=by
 rcases Deep.open_slice Tryz.underlying22 h with ⟨rfl,rfl⟩ | ⟨a,len,cap,m,n,D,Pl,rfl,hb,hl,hm,hmm,rfl,hx⟩
 ·exact ⟨_,0,fun _=>default,rfl,⟨none,0,rfl,fun f=>by omega⟩,by omega,fun i hi=>by omega⟩
 ·have hle:len≤m:=by rw [hmm];split <;> omega
  have hh:=hz.head Tryz.underlying22;rw [bytesLP] at hh;simp only [List.length_map,List.length_range] at hh;rw [cellsLP] at hx
  obtain ⟨F,hF⟩:=Deep.choose_lt (α:=Pd) (n:=len) (p:=fun i g=>ProC 0 w (a.add (i*9)) g∧RdPc g) (fun i hi=>by
   obtain ⟨cs',h1,h2⟩:=hx i (by omega)
   exact read_pro h2 h1 (hz.elem Tryz.underlying22 (List.mem_map.2 ⟨i,List.mem_range.2 hi,rfl⟩)))
  exact ⟨_,len,F,rfl,⟨some a,cap,rfl,fun _=>⟨a,rfl,hl,Nat.zero_le _,fun i hi=>(hF i hi).1⟩⟩,by omega,fun i hi=>(hF i hi).2⟩
end
theorem bd_of {nf:Nat} {F:Nat→Pd} (h:nf+sm (szP F) nf≤1048576) (hF:∀ i,i < nf→RdPc (F i)):Bd nf F:=by
  have one:∀ f,f < nf→szP F f≤1048576:=fun f hf=>by have:=sm_one (szP F) hf;omega
  refine ⟨by omega,?_,?_,?_,?_,?_,fun f hf=>(hF f hf).2.2,?_⟩
  · have : sm (fun i => (F i).n) nf ≤ sm (szP F) nf := by
      have:∀ k,k≤nf→sm (fun i=>(F i).n) k≤sm (szP F) k:=by
        intro k
        induction k with
        | zero=>intro _;exact Nat.le_refl _
        | succ k ih =>
          intro hk;have:=ih (by omega);show sm (fun i=>(F i).n) k+(F k).n≤sm (szP F) k+szP F k;unfold szP;unfold szP at this;omega
      exact this nf (Nat.le_refl _)
    omega
  · intro f hf;have:=one f hf;unfold szP at this;omega
  · intro f hf;have:=one f hf;unfold szP at this;omega
  · intro f hf;have:=one f hf;unfold szP at this;omega
  · intro f hf;have:=one f hf;unfold szP at this;omega
  · intro f hf i hi;refine ⟨?_,((hF f hf).2.1 i hi).1⟩;have h1:=one f hf;have h2:=sm_one (fun j=>((F f).C j).x.size) hi;unfold szP at h1
    try dsimp only at h2
    omega
theorem bf_of {nf:Nat} {F:Nat→Pd} (hF:∀ i,i < nf→RdPc (F i)):BP F nf:=fun i hi=>(hF i hi).1
theorem to_code {va:Value} {nf:Nat} {F:Nat→Pd} (w:World) (ha:RowP 0 w va nf F) (hb:Bd nf F):Calls Tryz.prog 9 #[.agg #[va]] w fun e w'=>∃ v,e = .returned (.agg #[v])∧RowP w.heap.size w' v nf F∧Kb 0 w w' :=
 to_code0 w (fun W k=>to_pros W (ha.keep k) hb.hnp (fun i hi=>⟨hb.hu i hi,hb.hc i hi,hb.hn i hi,hb.hd i hi⟩))
theorem eq_code {va vb:Value} {nf:Nat} {F:Nat→Pd} (w:World) (ha:RowP 0 w va nf F) (hv:RowP 0 w vb nf F) (hb:Bd nf F):Calls Tryz.prog 12 #[.agg #[va],.agg #[vb]] w fun e w'=>e = .returned (.bool true)∧Kb 0 w w' :=
 eq_code0 w (fun W k=>eq_pros W (ha.keep k) (hv.keep k) hb.hnp (fun i hi=>⟨hb.hu i hi,hb.hc i hi,hb.hn i hi,hb.hd i hi,fun j hj=>(hb.hC i hi j hj).2⟩))
theorem law_cc {pa : Option Addr} {ca nf : Nat} {F : Nat → Pd} {Ans : Nat → Nat → Nat → Prop} (w : World) (hun : ∀ c f n c' f' n', Ans c f n → Ans c' f' n' → c = c' ∧ f = f' ∧ n = n') (hsp : ∀ W v, RowP 0 W v nf F → Bd nf F → Calls Tryz.prog 8 #[.agg #[v]] W fun e w' => ∃ c f n : Nat, e = .returned (.agg #[.int .i64 (c : Int), .int .i64 (f : Int), .int .i64 (n : Int)]) ∧ Ans c f n ∧ Kb 0 W w') (him : ∀ W v, Kb 0 w W → RowP 0 W v nf F → Bd nf F → Calls Tryz.prog 10 #[.agg #[v]] W fun e w' => ∃ c f n : Nat, e = .returned (.agg #[.int .i64 (c : Int), .int .i64 (f : Int), .int .i64 (n : Int)]) ∧ Ans c f n ∧ Kb 0 W w') (ha : RowP 0 w (.slice pa nf ca) nf F) (hn : (nf : Int) < 140737488355328) (hF : ∀ i, i < nf → RdPc (F i)) :
  Calls Tryz.prog 3 #[.agg #[.slice pa nf ca]] w fun e w'=>e = .returned (.bool true)∧Kb 0 w w':=by
 have HSZ:Hid (∀ o,Calls Tryz.prog 7 #[.agg #[.slice pa nf ca],.int .i64 1048576] (w.alloc o) (Szd (nf+sm (szP F) nf) 1048576 (w.alloc o))):=(fun o=>sz_code (w.alloc o) (ha.keep (kb_alloc _ _ _)) hn (bf_of hF):∀ o,_)
 have HA:Hid (RowP 0 w (.slice pa nf ca) nf F∧(∀ i,i < nf→RdPc (F i))):=(⟨ha,hF⟩:_∧_)
 have HSP:Hid (∀ W v,RowP 0 W v nf F→Bd nf F→Calls Tryz.prog 8 #[.agg #[v]] W fun e w'=>∃ c f n:Nat,e = .returned (.agg #[.int .i64 c,.int .i64 f,.int .i64 n])∧Ans c f n∧Kb 0 W w'):=hsp;have HIM:Hid (∀ W v,Kb 0 w W→RowP 0 W v nf F→Bd nf F→Calls Tryz.prog 10 #[.agg #[v]] W fun e w'=>∃ c f n:Nat,e = .returned (.agg #[.int .i64 c,.int .i64 f,.int .i64 n])∧Ans c f n∧Kb 0 W w'):=him;have HUN:Hid (∀ c f n c' f' n',Ans c f n→Ans c' f' n'→c=c'∧f=f'∧n=n'):=hun;obtain ⟨w0,hw0⟩:∃ w0,w0=w.alloc (.cells #[.slice pa nf ca] 24):=⟨_,rfl⟩
 have k0:Kb 0 w w0:=by rw [hw0];exact kb_alloc _ _ _
 have b0:w0.cell? ⟨w.heap.size,0,none⟩=some (.slice pa nf ca):=by rw [hw0];exact cell_of (alloc_new _ _ _) rfl
 have HS0:Hid (Calls Tryz.prog 7 #[.agg #[.slice pa nf ca],.int .i64 1048576] w0 (Szd (nf+sm (szP F) nf) 1048576 w0)):=by rw [hw0];exact (uh HSZ) _
 have HC:Hid (Kb 0 w w0∧w0.cell? ⟨w.heap.size,0,none⟩=some (.slice pa nf ca)):=(⟨k0,b0⟩:_∧_)
 have HW0:Hid (w0=w.alloc (.cells #[.slice pa nf ca] 24)):=hw0;clear ha hn hF hsp him hun HSZ k0 b0 hw0;go_enter Tryz.func3,Tryz.ntmps3;go_wp2_with fail;rw [← (uh HW0)];clear HW0;refine (uh HS0).mono ?_;rintro e w1 ⟨r,rfl,hr1,hr2,hr3,k1⟩;clear HS0;rcases Int.lt_or_le r 0 with h | h
 ·have HB:Hid (Kb 0 w w1):=HC.1.trans k1;clear k1 hr1 HA HSP HIM HC HUN;go_wp2_with fail;go_ret;exact ⟨rfl,HB⟩
 ·have h':¬ r < 0:=by omega
  have HBD:Hid (Bd nf F):=bd_of (by have:=hr1 h;omega) HA.2;have HK1:Hid (Kb 0 w w1∧w1.cell? ⟨w.heap.size,0,none⟩=some (.slice pa nf ca)):=(⟨HC.1.trans k1,k1.cell HC.2⟩:_∧_)
  have c1:w1.cell? ⟨w.heap.size,0,none⟩=some (.slice pa nf ca):=HK1.2;clear hr1 k1 HC;go_wp2_with fail;refine (to_code w1 (HA.1.keep HK1.1) HBD).mono ?_;rintro e w2 ⟨v1,rfl,r1,k2⟩;have HK2:Hid (Kb 0 w w2∧w2.cell? ⟨w.heap.size,0,none⟩=some (.slice pa nf ca)∧RowP 0 w2 v1 nf F):=(⟨HK1.1.trans k2,k2.cell c1,r1.mono zq⟩:_∧_∧_)
  obtain ⟨p1,q1,rfl,-⟩:=id r1;clear c1 HK1 r1 k2;go_wp2_with fail;refine ((uh HSP) w2 _ HK2.2.2 HBD).mono ?_;rintro e w3 ⟨c,f,n,rfl,hans,k3⟩;have HAN:Hid (Ans c f n):=hans;obtain ⟨w4,hw4⟩:∃ w4,w4=w3.alloc (.cells #[.int .i64 c,.int .i64 f,.int .i64 n] 27):=⟨_,rfl⟩
  have k4:Kb 0 w2 w4:=by rw [hw4];exact k3.trans (kb_alloc _ _ _)
  have b4:w4.heap[w3.heap.size]? = some (.cells #[.int .i64 c,.int .i64 f,.int .i64 n] 27 (0,0)):=by rw [hw4];exact alloc_new _ _ _
  have HK4:Hid (Kb 0 w w4∧w4.cell? ⟨w.heap.size,0,none⟩=some (.slice pa nf ca)∧w4.cell? ⟨w3.heap.size,0,none⟩=some (.int .i64 c)∧w4.cell? ⟨w3.heap.size,1,none⟩=some (.int .i64 f)∧w4.cell? ⟨w3.heap.size,2,none⟩=some (.int .i64 n)):=(⟨HK2.1.trans k4,k4.cell HK2.2.1,cell_of b4 rfl,cell_of b4 rfl,cell_of b4 rfl⟩:_∧_)
  have c3:∀ o,(w3.alloc o).cell? ⟨w.heap.size,0,none⟩=some (.slice pa nf ca):=fun o=>(kb_alloc 0 w3 o).cell (k3.cell HK2.2.1);have HW4:Hid (w4=w3.alloc (.cells #[.int .i64 c,.int .i64 f,.int .i64 n] 27)):=hw4;clear HK2 HSP hans k3 hw4 k4 b4;go_wp2_with fail;rw [← (uh HW4)];clear HW4 c3;refine (to_code w4 (HA.1.keep HK4.1) HBD).mono ?_;rintro e w5 ⟨vx,rfl,rx,k5⟩;obtain ⟨px,qx,rfl,-⟩:=id rx;obtain ⟨w6,hw6⟩:∃ w6,w6=w5.alloc (.cells #[.slice px nf qx] 31):=⟨_,rfl⟩
  have k6:Kb 0 w4 w6:=by rw [hw6];exact k5.trans (kb_alloc _ _ _)
  have HK6:Hid (Kb 0 w w6∧RowP 0 w6 (.slice px nf qx) nf F∧w6.cell? ⟨w.heap.size,0,none⟩=some (.slice pa nf ca)∧(w6.cell? ⟨w3.heap.size,0,none⟩=some (.int .i64 c)∧w6.cell? ⟨w3.heap.size,1,none⟩=some (.int .i64 f)∧w6.cell? ⟨w3.heap.size,2,none⟩=some (.int .i64 n))∧w6.cell? ⟨w5.heap.size,0,none⟩=some (.slice px nf qx)):=(⟨HK4.1.trans k6,by rw [hw6];exact (rx.mono zq).keep (kb_alloc _ _ _),k6.cell HK4.2.1,⟨k6.cell HK4.2.2.1,k6.cell HK4.2.2.2.1,k6.cell HK4.2.2.2.2⟩,by rw [hw6];exact cell_of (alloc_new _ _ _) rfl⟩:_∧_)
  have HW6:Hid (w6=w5.alloc (.cells #[.slice px nf qx] 31)):=hw6;clear HK4 rx k5 k6 hw6;go_wp2_with fail;rw [← (uh HW6)];clear HW6;refine ((uh HIM) w6 _ HK6.1 HK6.2.1 HBD).mono ?_;rintro e w7 ⟨c',f',n',rfl,hans',k7⟩;obtain ⟨rfl,rfl,rfl⟩:=(uh HUN) _ _ _ _ _ _ (uh HAN) hans';obtain ⟨w8,hw8⟩:∃ w8,w8=w7.alloc (.cells #[.int .i64 c,.int .i64 f,.int .i64 n] 27):=⟨_,rfl⟩
  have k8:Kb 0 w6 w8:=by rw [hw8];exact k7.trans (kb_alloc _ _ _)
  have HK8:Hid (Kb 0 w w8∧RowP 0 w8 (.slice px nf qx) nf F∧w8.cell? ⟨w.heap.size,0,none⟩=some (.slice pa nf ca)∧w8.cell? ⟨w5.heap.size,0,none⟩=some (.slice px nf qx)):=(⟨HK6.1.trans k8,HK6.2.1.keep k8,k8.cell HK6.2.2.1,k8.cell HK6.2.2.2.2⟩:_∧_)
  have x0:∀ o,(w7.alloc o).cell? ⟨w3.heap.size,0,none⟩=some (.int .i64 c):=fun o=>(k7.alloc o).cell HK6.2.2.2.1.1;have x1:∀ o,(w7.alloc o).cell? ⟨w3.heap.size,1,none⟩=some (.int .i64 f):=fun o=>(k7.alloc o).cell HK6.2.2.2.1.2.1;have x2:∀ o,(w7.alloc o).cell? ⟨w3.heap.size,2,none⟩=some (.int .i64 n):=fun o=>(k7.alloc o).cell HK6.2.2.2.1.2.2;have HW8:Hid (w8=w7.alloc (.cells #[.int .i64 c,.int .i64 f,.int .i64 n] 27)):=hw8;clear HK6 hans' HAN k7 k8 hw8 HUN HIM;go_wp2_with fail;rw [← (uh HW8)];clear HW8 x0 x1 x2;refine (eq_fault (c:Int) (f:Int) (n:Int) w8).mono ?_;rintro e w9 ⟨rfl,k9⟩;have HK9:Hid (Kb 0 w w9∧RowP 0 w9 (.slice pa nf ca) nf F∧RowP 0 w9 (.slice px nf qx) nf F):=(⟨HK8.1.trans k9,HA.1.keep (HK8.1.trans k9),HK8.2.1.keep k9⟩:_∧_)
  have c5:w9.cell? ⟨w5.heap.size,0,none⟩=some (.slice px nf qx):=k9.cell HK8.2.2.2;have c0:w9.cell? ⟨w.heap.size,0,none⟩=some (.slice pa nf ca):=k9.cell HK8.2.2.1;have HTO:Hid (∀ W,Kb 0 w9 W→Calls Tryz.prog 9 #[.agg #[.slice pa nf ca]] W fun e w'=>∃ v,e = .returned (.agg #[v])∧RowP W.heap.size w' v nf F∧Kb 0 W w'):=(fun W k=>to_code W (HK9.2.1.keep k) HBD:∀ W,_)
  have HEQ:Hid (∀ W v2,Kb 0 w9 W→RowP 0 W v2 nf F→Calls Tryz.prog 12 #[.agg #[.slice px nf qx],.agg #[v2]] W fun e w'=>e = .returned (.bool true)∧Kb 0 W w'):=(fun W v2 k h2=>eq_code W (HK9.2.2.keep k) h2 HBD:∀ W v2,_)
  have HC5:Hid (∀ W,Kb 0 w9 W→W.cell? ⟨w5.heap.size,0,none⟩=some (.slice px nf qx)∧W.cell? ⟨w.heap.size,0,none⟩=some (.slice pa nf ca)):=(fun W k=>⟨k.cell c5,k.cell c0⟩:∀ W,_)
  clear HK8 k9;go_wp2_with fail
  go_region_held_law (fun W'=>W'.cell? ⟨w5.heap.size,0,none⟩=some (.slice px nf qx)∧W'.cell? ⟨w.heap.size,0,none⟩=some (.slice pa nf ca)) (first | exact s11 | exact s10 | exact ⟨c5,c0⟩)
   (first
    | (go_at_call 9;refine ((uh HTO) _ (by exact Kb.drewN (Kb.refl _ _) 1)).mono ?_;rintro e w10 ⟨v2,rfl,o2,k10⟩;have K10:Kb 0 w9 w10:=⟨k10.os,k10.output,k10.size,k10.block⟩;have s10:=(uh HC5) w10 K10)
    | (go_at_call 12;refine ((uh HEQ) _ _ K10 (o2.mono zq)).mono ?_;rintro e w11 ⟨rfl,k11⟩;have K11:Kb 0 w9 w11:=K10.trans k11;have s11:=(uh HC5) w11 K11))
  have HB11:Hid (Kb 0 w w11):=HK9.1.trans K11;clear c5 c0 HC5 HEQ HTO o2 k10 K10 s10 k11 K11 s11;go_wp2_with fail;go_ret;exact ⟨rfl,HB11⟩
