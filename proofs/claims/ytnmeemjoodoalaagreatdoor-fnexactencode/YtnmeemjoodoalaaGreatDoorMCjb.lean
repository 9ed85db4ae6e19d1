import Derived.Test.YtnmeemjoodoalaaGreatDoorMCbj
import Derived.Test.YtnmeemjoodoalaaGreatDoorMCba
set_option maxRecDepth 100000
set_option maxHeartbeats 32000000
namespace Go.Proofs.YtnmeemjoodoalaaGreatDoor.Fo
open Go.ChangeShapes Go.WideShapes Go.ChangeAt Go.RowKit
set_option linter.unusedVariables false
set_option maxRecDepth 100000
theorem cells3 : Tryz.prog.cellsOf 3 = 1:=by kernel_rfl
theorem cells2 : Tryz.prog.cellsOf 2 = 1:=by kernel_rfl
theorem cells9 : Tryz.prog.cellsOf 9 = 1:=by kernel_rfl
def strOf : Value → ByteArray
  | .string s=>s
  | _=>⟨#[]⟩
def numOf : Value → Int
  | .int _ z=>z
  | _=>0
def Sz {H : Type} (t : TypeId) (d : DataW H) : Prop:=∀ n ∈ d.weights Tryz.prog t,n ≤ 140737488351232
theorem weightsAll_mem {H : Type} {e : TypeId} : ∀ {l : List (DataW H)} {d : DataW H} {n : Nat},d ∈ l → n ∈ d.weights Tryz.prog e → n ∈ DataW.weightsAll Tryz.prog e l
  | [],_,_,h,_=>by cases h
  | x :: r,d,n,h,hn=>by
    simp only [DataW.weightsAll,List.mem_append]
    rcases List.mem_cons.1 h with rfl | h
    · exact Or.inl hn
    · exact Or.inr (weightsAll_mem h hn)
theorem Sz.head {H : Type} {t e : TypeId} {el sp : List (DataW H)} (h : Sz t (.slice el sp)) (ht : Tryz.prog.underlying t = some (.slice e)) : (el.length + sp.length) * Tryz.prog.bytesOf e ≤ 140737488351232:=h _ (by simp [DataW.weights,ht])
theorem Sz.elem {H : Type} {t e : TypeId} {el sp : List (DataW H)} (h : Sz t (.slice el sp)) (ht : Tryz.prog.underlying t = some (.slice e)) {d : DataW H} (hd : d ∈ el) : Sz e d:=fun n hn=>h n (by
  simp only [DataW.weights,ht,List.mem_cons,List.mem_append]
  exact Or.inr (Or.inl (weightsAll_mem hd hn)))
section
variable {H : Type} {enc : TypeId × Value → H} {w : World} {base : Nat} {sp : Nat → Bool} {held : Bool}
theorem trod_flt {fuel : Nat} {t : TypeId} {cs : List Value} {x : DataW H × List MemPlace} (ht : Tryz.prog.underlying t = some (.float .f64)) (h : DataW.trod enc Tryz.prog w base sp held fuel t cs = some x) : ∃ n,cs = [.float .f64 n] ∧ n < 18446744073709551616:=by
  cases fuel with
  | zero=>simp [DataW.trod] at h
  | succ n =>
    unfold DataW.trod at h
    rw [ht] at h
    split at h <;> simp_all
    rename_i k b e
    subst e
    obtain ⟨⟨h1,h2⟩,_⟩:=h
    simpa [Lit.wf] using h2
theorem cellsF : Tryz.prog.cellsOf 90 = 1:=by kernel_rfl
theorem cellsB : Tryz.prog.cellsOf 4 = 1:=by kernel_rfl
theorem cellsLU : Tryz.prog.cellsOf 178 = 2:=by kernel_rfl
theorem bytesLU : Tryz.prog.bytesOf 178 = 16:=by kernel_rfl
theorem cellsLUs : Tryz.prog.cellsOf 73 = 1:=by kernel_rfl
theorem cellsLI : Tryz.prog.cellsOf 181 = 5:=by kernel_rfl
theorem bytesLI : Tryz.prog.bytesOf 181 = 40:=by kernel_rfl
theorem cellsLIs : Tryz.prog.cellsOf 75 = 1:=by kernel_rfl
theorem cellsLM : Tryz.prog.cellsOf 174 = 4:=by kernel_rfl
theorem bytesLM : Tryz.prog.bytesOf 174 = 40:=by kernel_rfl
theorem cellsLMs : Tryz.prog.cellsOf 76 = 1:=by kernel_rfl
theorem cellsLV : Tryz.prog.cellsOf 172 = 5:=by kernel_rfl
theorem bytesLV : Tryz.prog.bytesOf 172 = 48:=by kernel_rfl
theorem cellsLVs : Tryz.prog.cellsOf 74 = 1:=by kernel_rfl
theorem cellsLP : Tryz.prog.cellsOf 78 = 9:=by kernel_rfl
theorem bytesLP : Tryz.prog.bytesOf 78 = 144:=by kernel_rfl
theorem trod_bl {fuel : Nat} {t : TypeId} {cs : List Value} {x : DataW H × List MemPlace} (ht : Tryz.prog.underlying t = some .bool) (h : DataW.trod enc Tryz.prog w base sp held fuel t cs = some x) : ∃ b,cs = [.bool b]:=by
  cases fuel with
  | zero=>simp [DataW.trod] at h
  | succ n =>
    unfold DataW.trod at h
    rw [ht] at h
    split at h <;> simp_all
theorem read_up {fuel : Nat} {cs : List Value} {x : DataW H × List MemPlace} {b : Addr} (h : DataW.trod enc Tryz.prog w base sp held fuel 178 cs = some x) (hc : w.cells? base b 2 = some cs) :
    ∃ g : Bool × Int,UpC 0 w b g:=by
  obtain ⟨_,hlen,hcell⟩:=World.cells?_some hc
  obtain ⟨xs,n,_,rfl,hl,hxl,hf⟩:=DataW.trod_struct Tryz.underlying178 h
  match cs,hlen with
  | [c0,c1],_ =>
    match xs,hxl with
    | [y0,y1],_ =>
      have t0:=hf 0 _ rfl
      have t1:=hf 1 _ rfl
      simp [cells3,cellsB] at t0 t1
      obtain ⟨z0,e0⟩:=trod_bl Tryz.underlying4 t0
      obtain ⟨z1,e1,_⟩:=DataW.trod_int Tryz.underlying3 t1
      simp only [List.cons.injEq,and_true] at e0 e1
      subst e0 e1
      refine ⟨(z0,z1),⟨?_,?_⟩⟩
      · have:=hcell 0 (by omega);simpa [Addr.add] using this
      · have:=hcell 1 (by omega);simpa [Addr.add] using this
theorem read_ups {fuel : Nat} {cs : List Value} {x : DataW H × List MemPlace} (h : DataW.trod enc Tryz.prog w base sp held fuel 73 cs = some x) (hz : Sz 73 x.1) :
    ∃ (v : Value) (n : Nat) (U : Nat → Bool × Int),cs = [v] ∧ RowU 0 w v n U ∧ (n : Int) < 140737488355328:=by
  rcases Deep.open_slice Tryz.underlying73 h with ⟨rfl,rfl⟩ | ⟨a,len,cap,m,n,D,Pl,rfl,hb,hl,hm,hmm,rfl,hx⟩
  · exact ⟨_,0,fun _=>(false,0),rfl,⟨none,0,rfl,fun f=>by omega⟩,by omega⟩
  · have hle : len ≤ m:=by rw [hmm];split <;> omega
    have hh:=hz.head Tryz.underlying73
    rw [bytesLU] at hh
    simp only [List.length_map,List.length_range] at hh
    rw [cellsLU] at hx
    obtain ⟨F,hF⟩:=choose_fn (α:=Bool × Int) (inst:=⟨(false,0)⟩) (n:=len) (p:=fun i g=>UpC 0 w (a.add (i * 2)) g) (fun i hi=>by
      obtain ⟨cs',h1,h2⟩:=hx i (by omega)
      exact read_up h2 h1)
    exact ⟨_,len,F,rfl,⟨some a,cap,rfl,fun _=>⟨a,rfl,hl,Nat.zero_le _,fun i hi=>hF i hi⟩⟩,by omega⟩
theorem read_ins {fuel : Nat} {cs : List Value} {x : DataW H × List MemPlace} {b : Addr} (h : DataW.trod enc Tryz.prog w base sp held fuel 181 cs = some x) (hc : w.cells? base b 5 = some cs) :
    ∃ g : Iv,InsC 0 w b g:=by
  obtain ⟨_,hlen,hcell⟩:=World.cells?_some hc
  obtain ⟨xs,n,_,rfl,hl,hxl,hf⟩:=DataW.trod_struct Tryz.underlying181 h
  match cs,hlen with
  | [c0,c1,c2,c3,c4],_ =>
    match xs,hxl with
    | [y0,y1,y2,y3,y4],_ =>
      have t0:=hf 0 _ rfl
      have t1:=hf 1 _ rfl
      have t2:=hf 2 _ rfl
      have t3:=hf 3 _ rfl
      have t4:=hf 4 _ rfl
      simp [cells3] at t0 t1 t2 t3 t4
      obtain ⟨z0,e0,_⟩:=DataW.trod_int Tryz.underlying3 t0
      obtain ⟨z1,e1,_⟩:=DataW.trod_int Tryz.underlying3 t1
      obtain ⟨z2,e2,_⟩:=DataW.trod_int Tryz.underlying3 t2
      obtain ⟨z3,e3,_⟩:=DataW.trod_int Tryz.underlying3 t3
      obtain ⟨z4,e4,_⟩:=DataW.trod_int Tryz.underlying3 t4
      simp only [List.cons.injEq,and_true] at e0 e1 e2 e3 e4
      subst e0 e1 e2 e3 e4
      refine ⟨⟨z0,z1,z2,z3,z4⟩,⟨?_,?_,?_,?_,?_⟩⟩
      · have:=hcell 0 (by omega);simpa [Addr.add] using this
      · have:=hcell 1 (by omega);simpa [Addr.add] using this
      · have:=hcell 2 (by omega);simpa [Addr.add] using this
      · have:=hcell 3 (by omega);simpa [Addr.add] using this
      · have:=hcell 4 (by omega);simpa [Addr.add] using this
theorem read_inss {fuel : Nat} {cs : List Value} {x : DataW H × List MemPlace} (h : DataW.trod enc Tryz.prog w base sp held fuel 75 cs = some x) (hz : Sz 75 x.1) :
    ∃ (v : Value) (n : Nat) (A : Nat → Iv),cs = [v] ∧ RowI 0 w v n A ∧ (n : Int) < 140737488355328:=by
  rcases Deep.open_slice Tryz.underlying75 h with ⟨rfl,rfl⟩ | ⟨a,len,cap,m,n,D,Pl,rfl,hb,hl,hm,hmm,rfl,hx⟩
  · exact ⟨_,0,fun _=>default,rfl,⟨none,0,rfl,fun f=>by omega⟩,by omega⟩
  · have hle : len ≤ m:=by rw [hmm];split <;> omega
    have hh:=hz.head Tryz.underlying75
    rw [bytesLI] at hh
    simp only [List.length_map,List.length_range] at hh
    rw [cellsLI] at hx
    obtain ⟨F,hF⟩:=Deep.choose_lt (α:=Iv) (n:=len) (p:=fun i g=>InsC 0 w (a.add (i * 5)) g) (fun i hi=>by
      obtain ⟨cs',h1,h2⟩:=hx i (by omega)
      exact read_ins h2 h1)
    exact ⟨_,len,F,rfl,⟨some a,cap,rfl,fun _=>⟨a,rfl,hl,Nat.zero_le _,fun i hi=>hF i hi⟩⟩,by omega⟩
theorem read_nam {fuel : Nat} {cs : List Value} {x : DataW H × List MemPlace} {b : Addr} (h : DataW.trod enc Tryz.prog w base sp held fuel 174 cs = some x) (hc : w.cells? base b 4 = some cs) (hz : Sz 174 x.1) :
    ∃ g : Mv,NamC 0 w b g ∧ (g.x.size : Int) < 140737488355328:=by
  obtain ⟨_,hlen,hcell⟩:=World.cells?_some hc
  obtain ⟨xs,n,_,rfl,hl,hxl,hf⟩:=DataW.trod_struct Tryz.underlying174 h
  match cs,hlen with
  | [c0,c1,c2,c3],_ =>
    match xs,hxl with
    | [y0,y1,y2,y3],_ =>
      have t0:=hf 0 _ rfl
      have t1:=hf 1 _ rfl
      have t2:=hf 2 _ rfl
      have t3:=hf 3 _ rfl
      simp [cells9,cells3] at t0 t1 t2 t3
      have hzz : ∀ n ∈ y0.1.weights Tryz.prog 9,n ≤ 140737488351232:=by
        intro n hn
        refine hz n ?_
        simp [DataW.weights,Tryz.underlying174,DataW.weightsEach]
        first | exact hn | exact Or.inl hn | simp [hn]
      obtain ⟨z0,e0,e0',_⟩:=DataW.trod_string Tryz.underlying9 t0
      obtain ⟨z1,e1,_⟩:=DataW.trod_int Tryz.underlying3 t1
      obtain ⟨z2,e2,_⟩:=DataW.trod_int Tryz.underlying3 t2
      obtain ⟨z3,e3,_⟩:=DataW.trod_int Tryz.underlying3 t3
      simp only [List.cons.injEq,and_true] at e0 e1 e2 e3
      subst e0 e1 e2 e3
      refine ⟨⟨z0,z1,z2,z3⟩,⟨?_,?_,?_,?_⟩,?_⟩
      · have:=hcell 0 (by omega);simpa [Addr.add] using this
      · have:=hcell 1 (by omega);simpa [Addr.add] using this
      · have:=hcell 2 (by omega);simpa [Addr.add] using this
      · have:=hcell 3 (by omega);simpa [Addr.add] using this
      · have:=hzz z0.data.toList.length (by rw [e0'];simp [DataW.weights])
        show ((z0.size : Nat) : Int) < _
        have e : z0.size = z0.data.toList.length:=by simp
        omega
theorem read_nams {fuel : Nat} {cs : List Value} {x : DataW H × List MemPlace} (h : DataW.trod enc Tryz.prog w base sp held fuel 76 cs = some x) (hz : Sz 76 x.1) :
    ∃ (v : Value) (n : Nat) (A : Nat → Mv),cs = [v] ∧ RowM 0 w v n A ∧ (n : Int) < 140737488355328 ∧ ∀ i,i < n → ((A i).x.size : Int) < 140737488355328:=by
  rcases Deep.open_slice Tryz.underlying76 h with ⟨rfl,rfl⟩ | ⟨a,len,cap,m,n,D,Pl,rfl,hb,hl,hm,hmm,rfl,hx⟩
  · exact ⟨_,0,fun _=>default,rfl,⟨none,0,rfl,fun f=>by omega⟩,by omega,fun i hi=>by omega⟩
  · have hle : len ≤ m:=by rw [hmm];split <;> omega
    have hh:=hz.head Tryz.underlying76
    rw [bytesLM] at hh
    simp only [List.length_map,List.length_range] at hh
    rw [cellsLM] at hx
    obtain ⟨F,hF⟩:=Deep.choose_lt (α:=Mv) (n:=len) (p:=fun i g=>NamC 0 w (a.add (i * 4)) g ∧ (g.x.size : Int) < 140737488355328) (fun i hi=>by
      obtain ⟨cs',h1,h2⟩:=hx i (by omega)
      exact read_nam h2 h1 (hz.elem Tryz.underlying76 (List.mem_map.2 ⟨i,List.mem_range.2 hi,rfl⟩)))
    exact ⟨_,len,F,rfl,⟨some a,cap,rfl,fun _=>⟨a,rfl,hl,Nat.zero_le _,fun i hi=>(hF i hi).1⟩⟩,by omega,fun i hi=>(hF i hi).2⟩
theorem read_valu {fuel : Nat} {cs : List Value} {x : DataW H × List MemPlace} {b : Addr} (h : DataW.trod enc Tryz.prog w base sp held fuel 172 cs = some x) (hc : w.cells? base b 5 = some cs) (hz : Sz 172 x.1) :
    ∃ g : Vv,ValC 0 w b g ∧ ((g.x.size : Int) < 140737488355328 ∧ g.g < 18446744073709551616 ∧ -9223372036854775808 ≤ g.m ∧ g.m ≤ 9223372036854775807):=by
  obtain ⟨_,hlen,hcell⟩:=World.cells?_some hc
  obtain ⟨xs,n,_,rfl,hl,hxl,hf⟩:=DataW.trod_struct Tryz.underlying172 h
  match cs,hlen with
  | [c0,c1,c2,c3,c4],_ =>
    match xs,hxl with
    | [y0,y1,y2,y3,y4],_ =>
      have t0:=hf 0 _ rfl
      have t1:=hf 1 _ rfl
      have t2:=hf 2 _ rfl
      have t3:=hf 3 _ rfl
      have t4:=hf 4 _ rfl
      simp [cells3,cells2,cellsF,cells9] at t0 t1 t2 t3 t4
      have hzz : ∀ n ∈ y3.1.weights Tryz.prog 9,n ≤ 140737488351232:=by
        intro n hn
        refine hz n ?_
        simp [DataW.weights,Tryz.underlying172,DataW.weightsEach]
        first | exact Or.inr (Or.inr (Or.inr hn)) | exact Or.inr (Or.inr (Or.inr (Or.inl hn))) | simp [hn]
      obtain ⟨z0,e0,_⟩:=DataW.trod_int Tryz.underlying3 t0
      obtain ⟨z1,e1,_,gb1⟩:=DataW.trod_int Tryz.underlying2 t1
      obtain ⟨z2,e2,gf2⟩:=trod_flt Tryz.underlying90 t2
      obtain ⟨z3,e3,e3',_⟩:=DataW.trod_string Tryz.underlying9 t3
      obtain ⟨z4,e4,_⟩:=DataW.trod_int Tryz.underlying3 t4
      simp only [List.cons.injEq,and_true] at e0 e1 e2 e3 e4
      subst e0 e1 e2 e3 e4
      refine ⟨⟨z0,z1,z2,z3,z4⟩,⟨?_,?_,?_,?_,?_⟩,⟨?_,gf2,?_⟩⟩
      · have:=hcell 0 (by omega);simpa [Addr.add] using this
      · have:=hcell 1 (by omega);simpa [Addr.add] using this
      · have:=hcell 2 (by omega);simpa [Addr.add] using this
      · have:=hcell 3 (by omega);simpa [Addr.add] using this
      · have:=hcell 4 (by omega);simpa [Addr.add] using this
      · have:=hzz z3.data.toList.length (by rw [e3'];simp [DataW.weights])
        show ((z3.size : Nat) : Int) < _
        have e : z3.size = z3.data.toList.length:=by simp
        omega
      · have:=gb1;simp [Lit.wf,IntKind.min,IntKind.max,IntKind.signed,IntKind.bits] at this;show -9223372036854775808 ≤ z1 ∧ z1 ≤ 9223372036854775807;omega
theorem read_vals {fuel : Nat} {cs : List Value} {x : DataW H × List MemPlace} (h : DataW.trod enc Tryz.prog w base sp held fuel 74 cs = some x) (hz : Sz 74 x.1) :
    ∃ (v : Value) (n : Nat) (A : Nat → Vv),cs = [v] ∧ RowW 0 w v n A ∧ (n : Int) < 140737488355328 ∧ ∀ i,i < n → ((((A i)).x.size : Int) < 140737488355328 ∧ ((A i)).g < 18446744073709551616 ∧ -9223372036854775808 ≤ (A i).m ∧ (A i).m ≤ 9223372036854775807):=by
  rcases Deep.open_slice Tryz.underlying74 h with ⟨rfl,rfl⟩ | ⟨a,len,cap,m,n,D,Pl,rfl,hb,hl,hm,hmm,rfl,hx⟩
  · exact ⟨_,0,fun _=>default,rfl,⟨none,0,rfl,fun f=>by omega⟩,by omega,fun i hi=>by omega⟩
  · have hle : len ≤ m:=by rw [hmm];split <;> omega
    have hh:=hz.head Tryz.underlying74
    rw [bytesLV] at hh
    simp only [List.length_map,List.length_range] at hh
    rw [cellsLV] at hx
    obtain ⟨F,hF⟩:=Deep.choose_lt (α:=Vv) (n:=len) (p:=fun i g=>ValC 0 w (a.add (i * 5)) g ∧ (((g).x.size : Int) < 140737488355328 ∧ (g).g < 18446744073709551616 ∧ -9223372036854775808 ≤ g.m ∧ g.m ≤ 9223372036854775807)) (fun i hi=>by
      obtain ⟨cs',h1,h2⟩:=hx i (by omega)
      exact read_valu h2 h1 (hz.elem Tryz.underlying74 (List.mem_map.2 ⟨i,List.mem_range.2 hi,rfl⟩)))
    exact ⟨_,len,F,rfl,⟨some a,cap,rfl,fun _=>⟨a,rfl,hl,Nat.zero_le _,fun i hi=>(hF i hi).1⟩⟩,by omega,fun i hi=>(hF i hi).2⟩
def RdP (d : Pd) : Prop:=((d.x.size : Int) < 140737488355328 ∧ (d.u : Int) < 140737488355328 ∧ ((d.c : Int) < 140737488355328 ∧ ∀ j,j < d.c → ((d.C j).x.size : Int) < 140737488355328) ∧ (d.n : Int) < 140737488355328 ∧ ((d.d : Int) < 140737488355328 ∧ ∀ j,j < d.d → ((d.D j).x.size : Int) < 140737488355328)) ∧ (∀ j,j < d.c → (d.C j).g < 18446744073709551616 ∧ -9223372036854775808 ≤ (d.C j).m ∧ (d.C j).m ≤ 9223372036854775807) ∧ -9223372036854775808 ≤ d.g
theorem read_pro {fuel : Nat} {cs : List Value} {x : DataW H × List MemPlace} {b : Addr} (h : DataW.trod enc Tryz.prog w base sp held fuel 78 cs = some x) (hc : w.cells? base b 9 = some cs) (hz : Sz 78 x.1) :
    ∃ g : Pd,ProC 0 w b g ∧ RdP g:=by
  obtain ⟨_,hlen,hcell⟩:=World.cells?_some hc
  obtain ⟨xs,n,_,rfl,hl,hxl,hf⟩:=DataW.trod_struct Tryz.underlying78 h
  match cs,hlen with
  | [c0,c1,c2,c3,c4,c5,c6,c7,c8],_ =>
    match xs,hxl with
    | [y0,y1,y2,y3,y4,y5,y6,y7,y8],_ =>
      have t0:=hf 0 _ rfl
      have t1:=hf 1 _ rfl
      have t2:=hf 2 _ rfl
      have t3:=hf 3 _ rfl
      have t4:=hf 4 _ rfl
      have t5:=hf 5 _ rfl
      have t6:=hf 6 _ rfl
      have t7:=hf 7 _ rfl
      have t8:=hf 8 _ rfl
      simp [cells9,cells3,cellsB,cellsLUs,cellsLVs,cellsLIs,cellsLMs] at t0 t1 t2 t3 t4 t5 t6 t7 t8
      have hzz : ∀ n ∈ y0.1.weights Tryz.prog 9 ++ (y5.1.weights Tryz.prog 73 ++ (y6.1.weights Tryz.prog 74 ++ (y7.1.weights Tryz.prog 75 ++ y8.1.weights Tryz.prog 76))),n ≤ 140737488351232:=by
        intro n hn
        refine hz n ?_
        simp [DataW.weights,Tryz.underlying78,DataW.weightsEach]
        simp at hn
        rcases hn with hn | hn
        · exact Or.inl hn
        · exact Or.inr (Or.inr (Or.inr (Or.inr (Or.inr hn))))
      obtain ⟨z0,e0,e0',_⟩:=DataW.trod_string Tryz.underlying9 t0
      obtain ⟨z1,e1,_⟩:=DataW.trod_int Tryz.underlying3 t1
      obtain ⟨z2,e2,_⟩:=DataW.trod_int Tryz.underlying3 t2
      obtain ⟨z3,e3⟩:=trod_bl Tryz.underlying4 t3
      obtain ⟨z4,e4,_,gb4⟩:=DataW.trod_int Tryz.underlying3 t4
      obtain ⟨vu,u,U,e5,r5,s5⟩:=read_ups t5 (fun n hn=>hzz n (by simp [hn]))
      obtain ⟨vc,c,C,e6,r6,s6,s6a⟩:=read_vals t6 (fun n hn=>hzz n (by simp [hn]))
      obtain ⟨vn,nn,N,e7,r7,s7⟩:=read_inss t7 (fun n hn=>hzz n (by simp [hn]))
      obtain ⟨vd,d,D,e8,r8,s8,s8a⟩:=read_nams t8 (fun n hn=>hzz n (by simp [hn]))
      simp only [List.cons.injEq,and_true] at e0 e1 e2 e3 e4 e5 e6 e7 e8
      subst e0 e1 e2 e3 e4 e5 e6 e7 e8
      refine ⟨⟨z0,z1,z2,z3,z4,u,U,c,C,nn,N,d,D⟩,⟨_,_,_,_,⟨?_,?_,?_,?_,?_,?_,?_,?_,?_⟩,r5,r6,r7,r8⟩,⟨⟨?_,s5,⟨s6,fun j hj=>(s6a j hj).1⟩,s7,⟨s8,s8a⟩⟩,fun j hj=>(s6a j hj).2,?_⟩⟩
      · have:=hcell 0 (by omega);simpa [Addr.add] using this
      · have:=hcell 1 (by omega);simpa [Addr.add] using this
      · have:=hcell 2 (by omega);simpa [Addr.add] using this
      · have:=hcell 3 (by omega);simpa [Addr.add] using this
      · have:=hcell 4 (by omega);simpa [Addr.add] using this
      · have:=hcell 5 (by omega);simpa [Addr.add] using this
      · have:=hcell 6 (by omega);simpa [Addr.add] using this
      · have:=hcell 7 (by omega);simpa [Addr.add] using this
      · have:=hcell 8 (by omega);simpa [Addr.add] using this
      · have:=hzz z0.data.toList.length (by rw [e0'];simp [DataW.weights])
        show ((z0.size : Nat) : Int) < _
        have e : z0.size = z0.data.toList.length:=by simp
        omega
      · have:=gb4;simp [Lit.wf,IntKind.min,IntKind.max,IntKind.signed,IntKind.bits] at this;show -9223372036854775808 ≤ z4;omega
theorem read_pros {fuel : Nat} {cs : List Value} {x : DataW H × List MemPlace} (h : DataW.trod enc Tryz.prog w base sp held fuel 22 cs = some x) (hz : Sz 22 x.1) :
    ∃ (v : Value) (n : Nat) (A : Nat → Pd),cs = [v] ∧ RowP 0 w v n A ∧ (n : Int) < 140737488355328 ∧ ∀ i,i < n → RdP (A i):=by
  rcases Deep.open_slice Tryz.underlying22 h with ⟨rfl,rfl⟩ | ⟨a,len,cap,m,n,D,Pl,rfl,hb,hl,hm,hmm,rfl,hx⟩
  · exact ⟨_,0,fun _=>default,rfl,⟨none,0,rfl,fun f=>by omega⟩,by omega,fun i hi=>by omega⟩
  · have hle : len ≤ m:=by rw [hmm];split <;> omega
    have hh:=hz.head Tryz.underlying22
    rw [bytesLP] at hh
    simp only [List.length_map,List.length_range] at hh
    rw [cellsLP] at hx
    obtain ⟨F,hF⟩:=Deep.choose_lt (α:=Pd) (n:=len) (p:=fun i g=>ProC 0 w (a.add (i * 9)) g ∧ RdP g) (fun i hi=>by
      obtain ⟨cs',h1,h2⟩:=hx i (by omega)
      exact read_pro h2 h1 (hz.elem Tryz.underlying22 (List.mem_map.2 ⟨i,List.mem_range.2 hi,rfl⟩)))
    exact ⟨_,len,F,rfl,⟨some a,cap,rfl,fun _=>⟨a,rfl,hl,Nat.zero_le _,fun i hi=>(hF i hi).1⟩⟩,by omega,fun i hi=>(hF i hi).2⟩
end
theorem dc_iff {p q : Prop} (h : p ↔ q) : dc p = dc q:=by rw [propext h]
theorem bne {a b : Int} (h : a ≠ b) : (a == b) = false:=by simpa using h
theorem beq1 {a b : Int} (h : a = b) : (a == b) = true:=by simpa using h
def ptb : List (List Nat):=[[0,0,0,0],[1,0,0,0],[2,0,0,0],[0,0,0,0],[12,3,0,0],[12,22,0,0],[13,22,0,0],[12,17,0,0],[17,22,0,0],[12,4,0,0],[4,22,0,0],[12,5,0,0],[12,0,0,0],[16,22,22,0],[16,22,23,0],[12,22,22,0],[22,22,22,0],[12,7,22,0],[12,8,22,22],[6,0,0,0],[22,6,0,0],[22,6,0,0],[14,0,0,0],[18,22,0,0],[18,23,0,0],[12,23,0,0],[12,18,9,0],[14,18,0,0],[14,22,23,0],[23,0,0,0],[22,0,0,0],[6,11,0,0],[0,0,0,0],[10,0,0,0],[10,0,0,0],[22,23,0,0],[0,0,0,0],[19,0,0,0],[19,6,0,0],[19,6,0,0],[21,0,0,0],[20,6,14,0],[15,0,0,0]]
def mtb : List (List Nat):=[[0,0,0,0],[11,0,0,0],[12,0,0,0],[0,0,0,0],[1,7,0,0],[1,2,0,0],[1,2,0,0],[1,5,0,0],[5,2,0,0],[1,8,0,0],[8,2,0,0],[1,9,0,0],[1,0,0,0],[4,2,2,0],[4,2,3,0],[1,2,2,0],[2,2,2,0],[1,15,2,0],[1,16,2,2],[10,0,0,0],[2,10,0,0],[2,10,0,0],[1,0,0,0],[6,2,0,0],[6,3,0,0],[1,3,0,0],[1,6,17,0],[1,6,0,0],[1,2,3,0],[3,0,0,0],[2,0,0,0],[10,14,0,0],[0,0,0,0],[13,0,0,0],[13,0,0,0],[2,3,0,0],[0,0,0,0],[18,0,0,0],[18,10,0,0],[18,10,0,0],[19,0,0,0],[20,10,1,0],[21,0,0,0]]
def pr (o j : Nat) : Nat:=(ptb.getD o []).getD j 0
def mr (o j : Nat) : Nat:=(mtb.getD o []).getD j 0
def pcl (r : Nat) : Nat:=([0,1,2,3,4,5,6,7,8,9,10,11,12,12,12,12,12,12,12,13,11,11,14,14] : List Nat).getD r 0
def mcl (r : Nat) : Nat:=([0,12,14,14,12,12,12,3,4,5,6,1,2,10,11,7,8,9,13,11,11,12] : List Nat).getD r 0
theorem cl_eq0 : ∀ o,o < 43 → ∀ j,j < 4 → pcl (pr o j) = mcl (mr o j) ∧ pr o j < 24 ∧ mr o j < 22:=by decide
def rg (np : Nat) (q : Pd) (c : Nat) : Int × Int :=
  match c with
  | 0=>(0,0)
  | 1=>(1,100000)
  | 2=>(0,100000)
  | 3=>(0,(q.c : Int) - 1)
  | 4=>(0,(q.u : Int) - 1)
  | 5=>(0,(np : Int) - 1)
  | 6=>(0,(q.n : Int) - 1)
  | 7=>(19,22)
  | 8=>(1,18)
  | 9=>(0,250)
  | 10=>(0,q.g)
  | 11=>(0,q.g - 2)
  | 12=>(0,q.g - 1)
  | 13=>(0,q.g - 3)
  | _=>(-q.g,q.g - 1)
def Fit (np : Nat) (q : Pd) (c : Nat) (x : Int) : Prop:=(rg np q c).1 ≤ x ∧ x ≤ (rg np q c).2
def fld (v : Iv) (j : Nat) : Int:=match j with | 0=>v.a | 1=>v.b | 2=>v.c | _=>v.d
def Tok (np : Nat) (q : Pd) (v : Iv) : Prop:=1 ≤ v.o ∧ v.o ≤ 42 ∧ ∀ j,j < 4 → Fit np q (pcl (pr v.o.toNat j)) (fld v j)
def Ends (o : Int) : Prop:=o = 19 ∨ o = 29 ∨ o = 30
def Iok (np : Nat) (q : Pd) (i : Nat) : Prop:=Tok np q (q.N i) ∧ (i + 1 = q.n → Ends (q.N i).o)
def Hd (p : Nat) (d : Pd) : Prop:=d.x.size ≤ 40 ∧ (0 ≤ d.l ∧ d.l ≤ 100000) ∧ (0 ≤ d.g ∧ d.g ≤ 250) ∧ (0 ≤ d.m ∧ d.m ≤ (if d.r = true then d.g - 1 else d.g)) ∧ d.u ≤ 250 ∧ d.c ≤ 500 ∧ (0 < p ∨ (d.m = 0 ∧ d.u = 0))
def Cok (v : Vv) : Prop:=vok v ∧ (v.k ≠ 5 ∧ v.k ≠ 6 ∧ v.k ≠ 7) ∧ (v.k = 3 → FloatKind.f64.format.order v.g v.g = some .eq) ∧ (v.k ≠ 3 → v.g = 0)
def Nok (d : Pd) (i : Nat) : Prop:=i < 500 ∧ (1 ≤ (d.D i).x.size ∧ (d.D i).x.size ≤ 40) ∧ (0 ≤ (d.D i).g ∧ (d.D i).g ≤ d.g - 1) ∧ 0 ≤ (d.D i).f ∧ (d.D i).f ≤ (d.D i).t ∧ (d.D i).t ≤ (d.n : Int)
def Uok (d : Pd) (e : Pd) : Prop:=∀ j,j < e.u → 0 ≤ (e.U j).2 ∧ (e.U j).2 < (if (e.U j).1 = true then d.g else (d.u : Int))
theorem sp_roles0 : ∀ (n : Nat),1 ≤ n → n ≤ 14 → ∀ (w : World),Calls Tryz.prog 133 #[.int .i64 (n : Int)] w fun e w'=>e = .returned (.slice (some ⟨w.heap.size,0,none⟩) 4 4) ∧ w' = w.alloc (.cells #[.int .i64 (mr n 0 : Int),.int .i64 (mr n 1 : Int),.int .i64 (mr n 2 : Int),.int .i64 (mr n 3 : Int)] 3):=by
  intro n h1 h2 w
  rcases (by omega : n = 1 ∨ n = 2 ∨ n = 3 ∨ n = 4 ∨ n = 5 ∨ n = 6 ∨ n = 7 ∨ n = 8 ∨ n = 9 ∨ n = 10 ∨ n = 11 ∨ n = 12 ∨ n = 13 ∨ n = 14) with rfl | rfl | rfl | rfl | rfl | rfl | rfl | rfl | rfl | rfl | rfl | rfl | rfl | rfl
  all_goals
    clear h1 h2
    go_enter Tryz.func133,Tryz.ntmps133
    go_wp2_with fail
    go_ret
    exact ⟨rfl,rfl⟩
theorem sp_roles1 : ∀ (n : Nat),15 ≤ n → n ≤ 28 → ∀ (w : World),Calls Tryz.prog 133 #[.int .i64 (n : Int)] w fun e w'=>e = .returned (.slice (some ⟨w.heap.size,0,none⟩) 4 4) ∧ w' = w.alloc (.cells #[.int .i64 (mr n 0 : Int),.int .i64 (mr n 1 : Int),.int .i64 (mr n 2 : Int),.int .i64 (mr n 3 : Int)] 3):=by
  intro n h1 h2 w
  rcases (by omega : n = 15 ∨ n = 16 ∨ n = 17 ∨ n = 18 ∨ n = 19 ∨ n = 20 ∨ n = 21 ∨ n = 22 ∨ n = 23 ∨ n = 24 ∨ n = 25 ∨ n = 26 ∨ n = 27 ∨ n = 28) with rfl | rfl | rfl | rfl | rfl | rfl | rfl | rfl | rfl | rfl | rfl | rfl | rfl | rfl
  all_goals
    clear h1 h2
    go_enter Tryz.func133,Tryz.ntmps133
    go_wp2_with fail
    go_ret
    exact ⟨rfl,rfl⟩
theorem sp_roles2 : ∀ (n : Nat),29 ≤ n → n ≤ 42 → ∀ (w : World),Calls Tryz.prog 133 #[.int .i64 (n : Int)] w fun e w'=>e = .returned (.slice (some ⟨w.heap.size,0,none⟩) 4 4) ∧ w' = w.alloc (.cells #[.int .i64 (mr n 0 : Int),.int .i64 (mr n 1 : Int),.int .i64 (mr n 2 : Int),.int .i64 (mr n 3 : Int)] 3):=by
  intro n h1 h2 w
  rcases (by omega : n = 29 ∨ n = 30 ∨ n = 31 ∨ n = 32 ∨ n = 33 ∨ n = 34 ∨ n = 35 ∨ n = 36 ∨ n = 37 ∨ n = 38 ∨ n = 39 ∨ n = 40 ∨ n = 41 ∨ n = 42) with rfl | rfl | rfl | rfl | rfl | rfl | rfl | rfl | rfl | rfl | rfl | rfl | rfl | rfl
  all_goals
    clear h1 h2
    go_enter Tryz.func133,Tryz.ntmps133
    go_wp2_with fail
    go_ret
    exact ⟨rfl,rfl⟩
end Go.Proofs.YtnmeemjoodoalaaGreatDoor.Fo
