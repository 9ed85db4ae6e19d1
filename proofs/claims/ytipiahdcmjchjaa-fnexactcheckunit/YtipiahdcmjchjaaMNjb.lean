import Derived.Test.YtipiahdcmjchjaaMNja
import Derived.Test.YtipiahdcmjchjaaMNia
import Derived.Deep.RegionHeldLaw
set_option maxHeartbeats 16000000
namespace Go.Proofs.Ytipiahdcmjchjaa.Fo
open Go.ChangeShapes Go.WideShapes Go.ChangeAt Go.RowKit
set_option linter.unusedVariables false
set_option maxRecDepth 100000
theorem cells3 : Try.prog.cellsOf 3 = 1:=by kernel_rfl
theorem cells2 : Try.prog.cellsOf 2 = 1:=by kernel_rfl
theorem cells9 : Try.prog.cellsOf 9 = 1:=by kernel_rfl
theorem cells35 : Try.prog.cellsOf 36 = 1:=by kernel_rfl
theorem cells36 : Try.prog.cellsOf 48 = 1:=by kernel_rfl
theorem bytes3 : Try.prog.bytesOf 3 = 8:=by kernel_rfl
theorem bytes9 : Try.prog.bytesOf 9 = 16:=by kernel_rfl
def strOf : Value → ByteArray
  | .string s=>s
  | _=>⟨#[]⟩
def numOf : Value → Int
  | .int _ z=>z
  | _=>0
def Sz {H : Type} (t : TypeId) (d : DataW H) : Prop:=∀ n ∈ d.weights Try.prog t,n ≤ 140737488351232
theorem weightsAll_mem {H : Type} {e : TypeId} : ∀ {l : List (DataW H)} {d : DataW H} {n : Nat},d ∈ l → n ∈ d.weights Try.prog e → n ∈ DataW.weightsAll Try.prog e l
  | [],_,_,h,_=>by cases h
  | x :: r,d,n,h,hn=>by
    simp only [DataW.weightsAll,List.mem_append]
    rcases List.mem_cons.1 h with rfl | h
    · exact Or.inl hn
    · exact Or.inr (weightsAll_mem h hn)
theorem Sz.head {H : Type} {t e : TypeId} {el sp : List (DataW H)} (h : Sz t (.slice el sp)) (ht : Try.prog.underlying t = some (.slice e)) : (el.length + sp.length) * Try.prog.bytesOf e ≤ 140737488351232:=h _ (by simp [DataW.weights,ht])
theorem Sz.elem {H : Type} {t e : TypeId} {el sp : List (DataW H)} (h : Sz t (.slice el sp)) (ht : Try.prog.underlying t = some (.slice e)) {d : DataW H} (hd : d ∈ el) : Sz e d:=fun n hn=>h n (by
  simp only [DataW.weights,ht,List.mem_cons,List.mem_append]
  exact Or.inr (Or.inl (weightsAll_mem hd hn)))
section
variable {H : Type} {enc : TypeId × Value → H} {w : World} {base : Nat} {sp : Nat → Bool} {held : Bool}
theorem read_ints {fuel : Nat} {cs : List Value} {x : DataW H × List MemPlace} (h : DataW.trod enc Try.prog w base sp held fuel 48 cs = some x) (hz : Sz 48 x.1) :
    ∃ (v : Value) (n : Nat) (A : Nat → Int),cs = [v] ∧ RowV w v n (fun i=>.int .i64 (A i)) ∧ (n : Int) < 140737488355328:=by
  rcases Deep.open_slice1 Try.underlying48 cells3 h with ⟨rfl,rfl⟩ | ⟨a,len,cap,m,n,V,D,Pl,rfl,hb,hl,hm,hmm,rfl,hx⟩
  · exact ⟨.slice none 0 0,0,fun _=>0,rfl,⟨none,0,rfl,fun f=>by omega⟩,by omega⟩
  · have hle : len ≤ m:=by rw [hmm];split <;> omega
    have hh:=hz.head Try.underlying48
    rw [bytes3] at hh
    simp only [List.length_map,List.length_range] at hh
    refine ⟨_,len,fun i=>numOf (V i),rfl,⟨some a,cap,rfl,fun _=>⟨a,rfl,hl,fun i hi=>?_⟩⟩,by omega⟩
    obtain ⟨h1,h2⟩:=hx i (by omega)
    obtain ⟨z,e1,_⟩:=DataW.trod_int Try.underlying3 h2
    simp only [List.cons.injEq,and_true] at e1
    rw [h1]
    show some (V i) = some (.int .i64 (numOf (V i)))
    rw [e1];rfl
theorem read_strs {fuel : Nat} {cs : List Value} {x : DataW H × List MemPlace} (h : DataW.trod enc Try.prog w base sp held fuel 36 cs = some x) (hz : Sz 36 x.1) :
    ∃ (v : Value) (n : Nat) (A : Nat → ByteArray),cs = [v] ∧ RowV w v n (fun i=>.string (A i)) ∧ (n : Int) < 140737488355328 ∧ ∀ i,i < n → ((A i).size : Int) < 140737488355328:=by
  rcases Deep.open_slice1 Try.underlying36 cells9 h with ⟨rfl,rfl⟩ | ⟨a,len,cap,m,n,V,D,Pl,rfl,hb,hl,hm,hmm,rfl,hx⟩
  · exact ⟨.slice none 0 0,0,fun _=>⟨#[]⟩,rfl,⟨none,0,rfl,fun f=>by omega⟩,by omega,fun i hi=>by omega⟩
  · have hle : len ≤ m:=by rw [hmm];split <;> omega
    have hh:=hz.head Try.underlying36
    rw [bytes9] at hh
    simp only [List.length_map,List.length_range] at hh
    refine ⟨_,len,fun i=>strOf (V i),rfl,⟨some a,cap,rfl,fun _=>⟨a,rfl,hl,fun i hi=>?_⟩⟩,by omega,fun i hi=>?_⟩
    · obtain ⟨h1,h2⟩:=hx i (by omega)
      obtain ⟨z,e1,_⟩:=DataW.trod_string Try.underlying9 h2
      simp only [List.cons.injEq,and_true] at e1
      rw [h1]
      show some (V i) = some (.string (strOf (V i)))
      rw [e1];rfl
    · obtain ⟨h1,h2⟩:=hx i (by omega)
      obtain ⟨z,e1,e2,_⟩:=DataW.trod_string Try.underlying9 h2
      simp only [List.cons.injEq,and_true] at e1
      have hs:=hz.elem Try.underlying36 (d:=D i) (List.mem_map.2 ⟨i,List.mem_range.2 hi,rfl⟩)
      rw [show D i = .lit (.string z.data.toList) from congrArg Prod.fst e2] at hs
      have:=hs z.data.toList.length (by simp [DataW.weights])
      show ((strOf (V i)).size : Int) < _
      rw [e1]
      show ((z.size : Nat) : Int) < _
      have e : z.size = z.data.toList.length:=by simp
      omega
theorem trod_flt {fuel : Nat} {t : TypeId} {cs : List Value} {x : DataW H × List MemPlace} (ht : Try.prog.underlying t = some (.float .f64)) (h : DataW.trod enc Try.prog w base sp held fuel t cs = some x) : ∃ n,cs = [.float .f64 n] ∧ n < 18446744073709551616:=by
  cases fuel with
  | zero=>simp [DataW.trod] at h
  | succ n =>
    unfold DataW.trod at h
    rw [ht] at h
    split at h <;> simp_all
    rename_i k b e
    subst e
    obtain ⟨⟨h1,h2⟩,_⟩:=h
    simpa [Lit.wf] using h2
theorem cellsF : Try.prog.cellsOf 77 = 1:=by kernel_rfl
theorem cellsB : Try.prog.cellsOf 4 = 1:=by kernel_rfl
theorem cellsLN : Try.prog.cellsOf 134 = 8:=by kernel_rfl
theorem bytesLN : Try.prog.bytesOf 134 = 104:=by kernel_rfl
theorem cellsLU : Try.prog.cellsOf 141 = 2:=by kernel_rfl
theorem bytesLU : Try.prog.bytesOf 141 = 16:=by kernel_rfl
theorem cellsLF : Try.prog.cellsOf 66 = 7:=by kernel_rfl
theorem bytesLF : Try.prog.bytesOf 66 = 112:=by kernel_rfl
theorem cellsLNs : Try.prog.cellsOf 64 = 1:=by kernel_rfl
theorem cellsLUs : Try.prog.cellsOf 63 = 1:=by kernel_rfl
theorem trod_bl {fuel : Nat} {t : TypeId} {cs : List Value} {x : DataW H × List MemPlace} (ht : Try.prog.underlying t = some .bool) (h : DataW.trod enc Try.prog w base sp held fuel t cs = some x) : ∃ b,cs = [.bool b]:=by
  cases fuel with
  | zero=>simp [DataW.trod] at h
  | succ n =>
    unfold DataW.trod at h
    rw [ht] at h
    split at h <;> simp_all
theorem read_node {fuel : Nat} {cs : List Value} {x : DataW H × List MemPlace} {b : Addr} (h : DataW.trod enc Try.prog w base sp held fuel 134 cs = some x) (hc : w.cells? base b 8 = some cs) (hz : Sz 134 x.1) :
    ∃ g : Nd,NodeC 0 w b g ∧ ((g.a.x.size : Int) < 140737488355328 ∧ (g.p : Int) < 140737488355328 ∧ (g.q : Int) < 140737488355328) ∧ g.a.g < 18446744073709551616 ∧ (-9223372036854775808 ≤ g.a.m ∧ g.a.m ≤ 9223372036854775807):=by
  obtain ⟨_,hlen,hcell⟩:=World.cells?_some hc
  obtain ⟨xs,n,_,rfl,hl,hxl,hf⟩:=DataW.trod_struct Try.underlying134 h
  match cs,hlen with
  | [c0,c1,c2,c3,c4,c5,c6,c7],_ =>
    match xs,hxl with
    | [y0,y1,y2,y3,y4,y5,y6,y7],_ =>
      have t0:=hf 0 _ rfl
      have t1:=hf 1 _ rfl
      have t2:=hf 2 _ rfl
      have t3:=hf 3 _ rfl
      have t4:=hf 4 _ rfl
      have t5:=hf 5 _ rfl
      have t6:=hf 6 _ rfl
      have t7:=hf 7 _ rfl
      simp [cells3,cells2,cells9,cells36,cellsF] at t0 t1 t2 t3 t4 t5 t6 t7
      have hzz : ∀ n ∈ y5.1.weights Try.prog 9 ++ (y6.1.weights Try.prog 48 ++ y7.1.weights Try.prog 48),n ≤ 140737488351232:=by
        intro n hn
        refine hz n ?_
        simp [DataW.weights,Try.underlying134,DataW.weightsEach]
        simp at hn
        exact Or.inr (Or.inr (Or.inr (Or.inr (Or.inr hn))))
      obtain ⟨z0,e0,_⟩:=DataW.trod_int Try.underlying3 t0
      obtain ⟨z1,e1,_⟩:=DataW.trod_int Try.underlying3 t1
      obtain ⟨z2,e2,_⟩:=DataW.trod_int Try.underlying3 t2
      obtain ⟨z3,e3,_,g5⟩:=DataW.trod_int Try.underlying2 t3
      obtain ⟨zg,e4,g6⟩:=trod_flt Try.underlying77 t4
      obtain ⟨z5,e5,e5',_⟩:=DataW.trod_string Try.underlying9 t5
      obtain ⟨vr,p,R,e6,r6,s6⟩:=read_ints t6 (fun n hn=>hzz n (by simp [hn]))
      obtain ⟨vk,q,K,e7,r7,s7⟩:=read_ints t7 (fun n hn=>hzz n (by simp [hn]))
      simp only [List.cons.injEq,and_true] at e0 e1 e2 e3 e4 e5 e6 e7
      subst e0 e1 e2 e3 e4 e5 e6 e7
      refine ⟨⟨⟨z0,z1,z2,z3,zg,z5⟩,p,R,q,K⟩,⟨_,_,⟨?_,?_,?_,?_,?_,?_,?_,?_⟩,r6.rowB,r7.rowB⟩,⟨?_,s6,s7⟩,g6,?_⟩
      · have:=hcell 0 (by omega);simpa [Addr.add] using this
      · have:=hcell 1 (by omega);simpa [Addr.add] using this
      · have:=hcell 2 (by omega);simpa [Addr.add] using this
      · have:=hcell 3 (by omega);simpa [Addr.add] using this
      · have:=hcell 4 (by omega);simpa [Addr.add] using this
      · have:=hcell 5 (by omega);simpa [Addr.add] using this
      · have:=hcell 6 (by omega);simpa [Addr.add] using this
      · have:=hcell 7 (by omega);simpa [Addr.add] using this
      · have:=hzz z5.data.toList.length (by rw [e5'];simp [DataW.weights])
        show ((z5.size : Nat) : Int) < _
        have e : z5.size = z5.data.toList.length:=by simp
        omega
      · have:=g5;simp [Lit.wf,IntKind.min,IntKind.max,IntKind.signed,IntKind.bits] at this;show -9223372036854775808 ≤ z3 ∧ z3 ≤ 9223372036854775807;omega
theorem read_nodes {fuel : Nat} {cs : List Value} {x : DataW H × List MemPlace} (h : DataW.trod enc Try.prog w base sp held fuel 64 cs = some x) (hz : Sz 64 x.1) :
    ∃ (v : Value) (n : Nat) (N : Nat → Nd),cs = [v] ∧ RowN 0 w v n N ∧ (n : Int) < 140737488355328 ∧ BN N n ∧ (∀ i,i < n → (N i).a.g < 18446744073709551616) ∧ (∀ i,i < n → -9223372036854775808 ≤ (N i).a.m ∧ (N i).a.m ≤ 9223372036854775807):=by
  rcases Deep.open_slice Try.underlying64 h with ⟨rfl,rfl⟩ | ⟨a,len,cap,m,n,D,Pl,rfl,hb,hl,hm,hmm,rfl,hx⟩
  · exact ⟨_,0,fun _=>default,rfl,⟨none,0,rfl,fun f=>by omega⟩,by omega,fun i hi=>by omega,fun i hi=>by omega,fun i hi=>by omega⟩
  · have hle : len ≤ m:=by rw [hmm];split <;> omega
    have hh:=hz.head Try.underlying64
    rw [bytesLN] at hh
    simp only [List.length_map,List.length_range] at hh
    rw [cellsLN] at hx
    obtain ⟨F,hF⟩:=Deep.choose_lt (α:=Nd) (n:=len) (p:=fun i g=>NodeC 0 w (a.add (i * 8)) g ∧ ((g.a.x.size : Int) < 140737488355328 ∧ (g.p : Int) < 140737488355328 ∧ (g.q : Int) < 140737488355328) ∧ g.a.g < 18446744073709551616 ∧ (-9223372036854775808 ≤ g.a.m ∧ g.a.m ≤ 9223372036854775807)) (fun i hi=>by
      obtain ⟨cs',h1,h2⟩:=hx i (by omega)
      exact read_node h2 h1 (hz.elem Try.underlying64 (List.mem_map.2 ⟨i,List.mem_range.2 hi,rfl⟩)))
    exact ⟨_,len,F,rfl,⟨some a,cap,rfl,fun _=>⟨a,rfl,hl,Nat.zero_le _,fun i hi=>(hF i hi).1⟩⟩,by omega,fun i hi=>(hF i hi).2.1,fun i hi=>(hF i hi).2.2.1,fun i hi=>(hF i hi).2.2.2⟩
theorem read_up {fuel : Nat} {cs : List Value} {x : DataW H × List MemPlace} {b : Addr} (h : DataW.trod enc Try.prog w base sp held fuel 141 cs = some x) (hc : w.cells? base b 2 = some cs) :
    ∃ g : Bool × Int,UpC 0 w b g:=by
  obtain ⟨_,hlen,hcell⟩:=World.cells?_some hc
  obtain ⟨xs,n,_,rfl,hl,hxl,hf⟩:=DataW.trod_struct Try.underlying141 h
  match cs,hlen with
  | [c0,c1],_ =>
    match xs,hxl with
    | [y0,y1],_ =>
      have t0:=hf 0 _ rfl
      have t1:=hf 1 _ rfl
      simp [cells3,cellsB] at t0 t1
      obtain ⟨z0,e0⟩:=trod_bl Try.underlying4 t0
      obtain ⟨z1,e1,_⟩:=DataW.trod_int Try.underlying3 t1
      simp only [List.cons.injEq,and_true] at e0 e1
      subst e0 e1
      refine ⟨(z0,z1),⟨?_,?_⟩⟩
      · have:=hcell 0 (by omega);simpa [Addr.add] using this
      · have:=hcell 1 (by omega);simpa [Addr.add] using this
theorem read_ups {fuel : Nat} {cs : List Value} {x : DataW H × List MemPlace} (h : DataW.trod enc Try.prog w base sp held fuel 63 cs = some x) (hz : Sz 63 x.1) :
    ∃ (v : Value) (n : Nat) (U : Nat → Bool × Int),cs = [v] ∧ RowU 0 w v n U ∧ (n : Int) < 140737488355328:=by
  rcases Deep.open_slice Try.underlying63 h with ⟨rfl,rfl⟩ | ⟨a,len,cap,m,n,D,Pl,rfl,hb,hl,hm,hmm,rfl,hx⟩
  · exact ⟨_,0,fun _=>(false,0),rfl,⟨none,0,rfl,fun f=>by omega⟩,by omega⟩
  · have hle : len ≤ m:=by rw [hmm];split <;> omega
    have hh:=hz.head Try.underlying63
    rw [bytesLU] at hh
    simp only [List.length_map,List.length_range] at hh
    rw [cellsLU] at hx
    obtain ⟨F,hF⟩:=choose_fn (α:=Bool × Int) (inst:=⟨(false,0)⟩) (n:=len) (p:=fun i g=>UpC 0 w (a.add (i * 2)) g) (fun i hi=>by
      obtain ⟨cs',h1,h2⟩:=hx i (by omega)
      exact read_up h2 h1)
    exact ⟨_,len,F,rfl,⟨some a,cap,rfl,fun _=>⟨a,rfl,hl,Nat.zero_le _,fun i hi=>hF i hi⟩⟩,by omega⟩
def RdF (d : Fd) : Prop:=((d.x.size : Int) < 140737488355328 ∧ (d.p : Int) < 140737488355328 ∧ (∀ j,j < d.p → ((d.V j).size : Int) < 140737488355328) ∧ (d.u : Int) < 140737488355328 ∧ (d.n : Int) < 140737488355328 ∧ BN d.N d.n) ∧ (∀ i,i < d.n → (d.N i).a.g < 18446744073709551616) ∧ (∀ i,i < d.n → -9223372036854775808 ≤ (d.N i).a.m ∧ (d.N i).a.m ≤ 9223372036854775807)
theorem read_fn {fuel : Nat} {cs : List Value} {x : DataW H × List MemPlace} {b : Addr} (h : DataW.trod enc Try.prog w base sp held fuel 66 cs = some x) (hc : w.cells? base b 7 = some cs) (hz : Sz 66 x.1) :
    ∃ g : Fd,FnC 0 w b g ∧ RdF g:=by
  obtain ⟨_,hlen,hcell⟩:=World.cells?_some hc
  obtain ⟨xs,n,_,rfl,hl,hxl,hf⟩:=DataW.trod_struct Try.underlying66 h
  match cs,hlen with
  | [c0,c1,c2,c3,c4,c5,c6],_ =>
    match xs,hxl with
    | [y0,y1,y2,y3,y4,y5,y6],_ =>
      have t0:=hf 0 _ rfl
      have t1:=hf 1 _ rfl
      have t2:=hf 2 _ rfl
      have t3:=hf 3 _ rfl
      have t4:=hf 4 _ rfl
      have t5:=hf 5 _ rfl
      have t6:=hf 6 _ rfl
      simp [cells3,cells9,cells35,cellsB,cellsLNs,cellsLUs] at t0 t1 t2 t3 t4 t5 t6
      have hzz : ∀ n ∈ y0.1.weights Try.prog 9 ++ (y4.1.weights Try.prog 36 ++ (y5.1.weights Try.prog 63 ++ y6.1.weights Try.prog 64)),n ≤ 140737488351232:=by
        intro n hn
        refine hz n ?_
        simp [DataW.weights,Try.underlying66,DataW.weightsEach]
        simp at hn
        rcases hn with hn | hn
        · exact Or.inl hn
        · exact Or.inr (Or.inr (Or.inr (Or.inr hn)))
      obtain ⟨z0,e0,e0',_⟩:=DataW.trod_string Try.underlying9 t0
      obtain ⟨z1,e1,_⟩:=DataW.trod_int Try.underlying3 t1
      obtain ⟨z2,e2,_⟩:=DataW.trod_int Try.underlying3 t2
      obtain ⟨z3,e3⟩:=trod_bl Try.underlying4 t3
      obtain ⟨vv,p,V,e4,r4,s4,s4'⟩:=read_strs t4 (fun n hn=>hzz n (by simp [hn]))
      obtain ⟨vu,u,U,e5,r5,s5⟩:=read_ups t5 (fun n hn=>hzz n (by simp [hn]))
      obtain ⟨vn,nn,N,e6,r6,s6,s6',s6a,s6b⟩:=read_nodes t6 (fun n hn=>hzz n (by simp [hn]))
      simp only [List.cons.injEq,and_true] at e0 e1 e2 e3 e4 e5 e6
      subst e0 e1 e2 e3 e4 e5 e6
      refine ⟨⟨z0,z1,z2,z3,p,V,u,U,nn,N⟩,⟨_,_,_,⟨?_,?_,?_,?_,?_,?_,?_⟩,r4.rowB,r5,r6⟩,⟨⟨?_,s4,s4',s5,s6,s6'⟩,s6a,s6b⟩⟩
      · have:=hcell 0 (by omega);simpa [Addr.add] using this
      · have:=hcell 1 (by omega);simpa [Addr.add] using this
      · have:=hcell 2 (by omega);simpa [Addr.add] using this
      · have:=hcell 3 (by omega);simpa [Addr.add] using this
      · have:=hcell 4 (by omega);simpa [Addr.add] using this
      · have:=hcell 5 (by omega);simpa [Addr.add] using this
      · have:=hcell 6 (by omega);simpa [Addr.add] using this
      · have:=hzz z0.data.toList.length (by rw [e0'];simp [DataW.weights])
        show ((z0.size : Nat) : Int) < _
        have e : z0.size = z0.data.toList.length:=by simp
        omega
theorem read_fns {fuel : Nat} {cs : List Value} {x : DataW H × List MemPlace} (h : DataW.trod enc Try.prog w base sp held fuel 22 cs = some x) (hz : Sz 22 x.1) :
    ∃ (v : Value) (n : Nat) (F : Nat → Fd),cs = [v] ∧ RowF 0 w v n F ∧ (n : Int) < 140737488355328 ∧ ∀ i,i < n → RdF (F i):=by
  rcases Deep.open_slice Try.underlying22 h with ⟨rfl,rfl⟩ | ⟨a,len,cap,m,n,D,Pl,rfl,hb,hl,hm,hmm,rfl,hx⟩
  · exact ⟨_,0,fun _=>default,rfl,⟨none,0,rfl,fun f=>by omega⟩,by omega,fun i hi=>by omega⟩
  · have hle : len ≤ m:=by rw [hmm];split <;> omega
    have hh:=hz.head Try.underlying22
    rw [bytesLF] at hh
    simp only [List.length_map,List.length_range] at hh
    rw [cellsLF] at hx
    obtain ⟨F,hF⟩:=Deep.choose_lt (α:=Fd) (n:=len) (p:=fun i g=>FnC 0 w (a.add (i * 7)) g ∧ RdF g) (fun i hi=>by
      obtain ⟨cs',h1,h2⟩:=hx i (by omega)
      exact read_fn h2 h1 (hz.elem Try.underlying22 (List.mem_map.2 ⟨i,List.mem_range.2 hi,rfl⟩)))
    exact ⟨_,len,F,rfl,⟨some a,cap,rfl,fun _=>⟨a,rfl,hl,Nat.zero_le _,fun i hi=>(hF i hi).1⟩⟩,by omega,fun i hi=>(hF i hi).2⟩
end
theorem bd_of {nf : Nat} {F : Nat → Fd} (h : nf + sm (szF F) nf ≤ 1048576) (hF : ∀ i,i < nf → RdF (F i)) : Bd nf F:=by
  have one : ∀ f,f < nf → szF F f ≤ 1048576:=fun f hf=>by have:=sm_one (szF F) hf;omega
  have two : ∀ f,f < nf → ∀ t,t < (F f).n → szN (F f).N t ≤ 1048576:=fun f hf t ht=>by
    have h1:=one f hf
    have h2:=sm_one (szN (F f).N) ht
    unfold szF at h1
    omega
  refine ⟨by omega,?_,?_,?_,?_,?_,?_⟩
  · have : sm (fun i => (F i).n) nf ≤ sm (szF F) nf := by
      have : ∀ k,k ≤ nf → sm (fun i=>(F i).n) k ≤ sm (szF F) k:=by
        intro k
        induction k with
        | zero=>intro _;exact Nat.le_refl _
        | succ k ih =>
          intro hk
          have:=ih (by omega)
          show sm (fun i=>(F i).n) k + (F k).n ≤ sm (szF F) k + szF F k
          unfold szF
          unfold szF at this
          omega
      exact this nf (Nat.le_refl _)
    omega
  · intro f hf;have:=one f hf;unfold szF at this;omega
  · intro f hf;have:=one f hf;unfold szF at this;omega
  · intro f hf;have:=one f hf;unfold szF at this;omega
  · intro f hf t ht
    have:=two f hf t ht
    unfold szN at this
    exact ⟨by omega,by omega,(hF f hf).2.1 t ht⟩
  · intro f hf t ht;exact (hF f hf).2.2 t ht
theorem bf_of {nf : Nat} {F : Nat → Fd} (hF : ∀ i,i < nf → RdF (F i)) : BF F nf:=fun i hi=>(hF i hi).1
theorem to_unit {va : Value} {nf : Nat} {F : Nat → Fd} (w : World) (ha : RowF 0 w va nf F) (hb : Bd nf F) : Calls Try.prog 7 #[.agg #[va]] w fun e w'=>∃ v,e = .returned (.agg #[v]) ∧ RowF w.heap.size w' v nf F ∧ Kb 0 w w' :=
  to_unit0 w (fun W k=>to_fns W (ha.keep k) hb.hnf (fun i hi=>⟨hb.hp i hi,hb.hu i hi,hb.hn i hi,fun j hj=>⟨(hb.hN i hi j hj).1,(hb.hN i hi j hj).2.1⟩⟩))
theorem eq_unit {va vb : Value} {nf : Nat} {F : Nat → Fd} (w : World) (ha : RowF 0 w va nf F) (hv : RowF 0 w vb nf F) (hb : Bd nf F) : Calls Try.prog 10 #[.agg #[va],.agg #[vb]] w fun e w'=>e = .returned (.bool true) ∧ Kb 0 w w' :=
  eq_unit0 w (fun W k=>eq_fns W (ha.keep k) (hv.keep k) hb.hnf (fun i hi=>⟨hb.hp i hi,hb.hu i hi,hb.hn i hi,fun j hj=>hb.hN i hi j hj⟩))
theorem law_cu {pa : Option Addr} {ca nf : Nat} {F : Nat → Fd} {Ans : Nat → Nat → Nat → Prop} (hun : ∀ c f n c' f' n', Ans c f n → Ans c' f' n' → c = c' ∧ f = f' ∧ n = n') (hsp : ∀ W v, RowF 0 W v nf F → Bd nf F → Calls Try.prog 6 #[.agg #[v]] W fun e w' => ∃ c f n : Nat, e = .returned (.agg #[.int .i64 (c : Int), .int .i64 (f : Int), .int .i64 (n : Int)]) ∧ Ans c f n ∧ Kb 0 W w') (him : ∀ W v, RowF 0 W v nf F → Bd nf F → Calls Try.prog 8 #[.agg #[v]] W fun e w' => ∃ c f n : Nat, e = .returned (.agg #[.int .i64 (c : Int), .int .i64 (f : Int), .int .i64 (n : Int)]) ∧ Ans c f n ∧ Kb 0 W w') (w : World) (ha : RowF 0 w (.slice pa nf ca) nf F) (hn : (nf : Int) < 140737488355328) (hF : ∀ i, i < nf → RdF (F i)) :
    Calls Try.prog 3 #[.agg #[.slice pa nf ca]] w fun e w'=>e = .returned (.bool true) ∧ Kb 0 w w':=by
  have HSZ : Hid (∀ o,Calls Try.prog 5 #[.agg #[.slice pa nf ca],.int .i64 1048576] (w.alloc o) (Szd (nf + sm (szF F) nf) 1048576 (w.alloc o))):=(fun o=>sz_unit (w.alloc o) (ha.keep (kb_alloc _ _ _)) hn (bf_of hF) : ∀ o,_)
  have HA : Hid (RowF 0 w (.slice pa nf ca) nf F ∧ (∀ i,i < nf → RdF (F i))):=(⟨ha,hF⟩ : _ ∧ _)
  have HSP : Hid (∀ W v,RowF 0 W v nf F → Bd nf F → Calls Try.prog 6 #[.agg #[v]] W fun e w'=>∃ c f n : Nat,e = .returned (.agg #[.int .i64 (c : Int),.int .i64 (f : Int),.int .i64 (n : Int)]) ∧ Ans c f n ∧ Kb 0 W w'):=hsp
  have HIM : Hid (∀ W v,RowF 0 W v nf F → Bd nf F → Calls Try.prog 8 #[.agg #[v]] W fun e w'=>∃ c f n : Nat,e = .returned (.agg #[.int .i64 (c : Int),.int .i64 (f : Int),.int .i64 (n : Int)]) ∧ Ans c f n ∧ Kb 0 W w'):=him
  have HUN : Hid (∀ c f n c' f' n',Ans c f n → Ans c' f' n' → c = c' ∧ f = f' ∧ n = n'):=hun
  obtain ⟨w0,hw0⟩ : ∃ w0,w0 = w.alloc (.cells #[.slice pa nf ca] 24):=⟨_,rfl⟩
  have k0 : Kb 0 w w0:=by rw [hw0];exact kb_alloc _ _ _
  have b0 : w0.cell? ⟨w.heap.size,0,none⟩ = some (.slice pa nf ca):=by rw [hw0];exact cell_of (alloc_new _ _ _) rfl
  have HS0 : Hid (Calls Try.prog 5 #[.agg #[.slice pa nf ca],.int .i64 1048576] w0 (Szd (nf + sm (szF F) nf) 1048576 w0)):=by rw [hw0];exact (show ∀ o,_ from HSZ) _
  have HC : Hid (Kb 0 w w0 ∧ w0.cell? ⟨w.heap.size,0,none⟩ = some (.slice pa nf ca)):=(⟨k0,b0⟩ : _ ∧ _)
  have HW0 : Hid (w0 = w.alloc (.cells #[.slice pa nf ca] 24)):=hw0
  clear ha hn hF hsp him hun HSZ k0 b0 hw0
  go_enter Try.func3,Try.ntmps3
  go_wp2_with fail
  rw [← (show w0 = _ from HW0)]
  clear HW0
  refine (show Calls Try.prog 5 #[.agg #[.slice pa nf ca],.int .i64 1048576] w0 (Szd (nf + sm (szF F) nf) 1048576 w0) from HS0).mono ?_
  rintro e w1 ⟨r,rfl,hr1,hr2,hr3,k1⟩
  clear HS0
  rcases Int.lt_or_le r 0 with h | h
  · have HB : Hid (Kb 0 w w1):=HC.1.trans k1
    clear k1 hr1 HA HSP HIM HC HUN
    go_wp2_with fail
    go_ret
    exact ⟨rfl,HB⟩
  · have h' : ¬ r < 0:=by omega
    have HBD : Hid (Bd nf F):=bd_of (by have:=hr1 h;omega) HA.2
    have HK1 : Hid (Kb 0 w w1 ∧ w1.cell? ⟨w.heap.size,0,none⟩ = some (.slice pa nf ca)):=(⟨HC.1.trans k1,k1.cell HC.2⟩ : _ ∧ _)
    have c1 : w1.cell? ⟨w.heap.size,0,none⟩ = some (.slice pa nf ca):=HK1.2
    clear hr1 k1 HC
    go_wp2_with fail
    refine (to_unit w1 (HA.1.keep HK1.1) HBD).mono ?_
    rintro e w2 ⟨v1,rfl,r1,k2⟩
    have HK2 : Hid (Kb 0 w w2 ∧ w2.cell? ⟨w.heap.size,0,none⟩ = some (.slice pa nf ca) ∧ RowF 0 w2 v1 nf F):=(⟨HK1.1.trans k2,k2.cell c1,r1.mono (Nat.zero_le _)⟩ : _ ∧ _ ∧ _)
    obtain ⟨p1,q1,rfl,-⟩:=id r1
    clear c1 HK1 r1 k2
    go_wp2_with fail
    refine ((show ∀ W v,RowF 0 W v nf F → Bd nf F → Calls Try.prog 6 #[.agg #[v]] W fun e w'=>∃ c f n : Nat,e = .returned (.agg #[.int .i64 (c : Int),.int .i64 (f : Int),.int .i64 (n : Int)]) ∧ Ans c f n ∧ Kb 0 W w' from HSP) w2 _ HK2.2.2 HBD).mono ?_
    rintro e w3 ⟨c,f,n,rfl,hans,k3⟩
    have HAN : Hid (Ans c f n):=hans
    obtain ⟨w4,hw4⟩ : ∃ w4,w4 = w3.alloc (.cells #[.int .i64 (c : Int),.int .i64 (f : Int),.int .i64 (n : Int)] 27):=⟨_,rfl⟩
    have k4 : Kb 0 w2 w4:=by rw [hw4];exact k3.trans (kb_alloc _ _ _)
    have b4 : w4.heap[w3.heap.size]? = some (.cells #[.int .i64 (c : Int),.int .i64 (f : Int),.int .i64 (n : Int)] 27 (0,0)):=by rw [hw4];exact alloc_new _ _ _
    have HK4 : Hid (Kb 0 w w4 ∧ w4.cell? ⟨w.heap.size,0,none⟩ = some (.slice pa nf ca) ∧ w4.cell? ⟨w3.heap.size,0,none⟩ = some (.int .i64 (c : Int)) ∧ w4.cell? ⟨w3.heap.size,1,none⟩ = some (.int .i64 (f : Int)) ∧ w4.cell? ⟨w3.heap.size,2,none⟩ = some (.int .i64 (n : Int))):=(⟨HK2.1.trans k4,k4.cell HK2.2.1,cell_of b4 rfl,cell_of b4 rfl,cell_of b4 rfl⟩ : _ ∧ _)
    have c3 : ∀ o,(w3.alloc o).cell? ⟨w.heap.size,0,none⟩ = some (.slice pa nf ca):=fun o=>(kb_alloc 0 w3 o).cell (k3.cell HK2.2.1)
    have HW4 : Hid (w4 = w3.alloc (.cells #[.int .i64 (c : Int),.int .i64 (f : Int),.int .i64 (n : Int)] 27)):=hw4
    clear HK2 HSP hans k3 hw4 k4 b4
    go_wp2_with fail
    rw [← (show w4 = _ from HW4)]
    clear HW4 c3
    refine (to_unit w4 (HA.1.keep HK4.1) HBD).mono ?_
    rintro e w5 ⟨vx,rfl,rx,k5⟩
    obtain ⟨px,qx,rfl,-⟩:=id rx
    obtain ⟨w6,hw6⟩ : ∃ w6,w6 = w5.alloc (.cells #[.slice px nf qx] 31):=⟨_,rfl⟩
    have k6 : Kb 0 w4 w6:=by rw [hw6];exact k5.trans (kb_alloc _ _ _)
    have HK6 : Hid (Kb 0 w w6 ∧ RowF 0 w6 (.slice px nf qx) nf F ∧ w6.cell? ⟨w.heap.size,0,none⟩ = some (.slice pa nf ca) ∧ (w6.cell? ⟨w3.heap.size,0,none⟩ = some (.int .i64 (c : Int)) ∧ w6.cell? ⟨w3.heap.size,1,none⟩ = some (.int .i64 (f : Int)) ∧ w6.cell? ⟨w3.heap.size,2,none⟩ = some (.int .i64 (n : Int))) ∧ w6.cell? ⟨w5.heap.size,0,none⟩ = some (.slice px nf qx)):=(⟨HK4.1.trans k6,by rw [hw6];exact (rx.mono (Nat.zero_le _)).keep (kb_alloc _ _ _),k6.cell HK4.2.1,⟨k6.cell HK4.2.2.1,k6.cell HK4.2.2.2.1,k6.cell HK4.2.2.2.2⟩,by rw [hw6];exact cell_of (alloc_new _ _ _) rfl⟩ : _ ∧ _)
    have HW6 : Hid (w6 = w5.alloc (.cells #[.slice px nf qx] 31)):=hw6
    clear HK4 rx k5 k6 hw6
    go_wp2_with fail
    rw [← (show w6 = _ from HW6)]
    clear HW6
    refine ((show ∀ W v,RowF 0 W v nf F → Bd nf F → Calls Try.prog 8 #[.agg #[v]] W fun e w'=>∃ c f n : Nat,e = .returned (.agg #[.int .i64 (c : Int),.int .i64 (f : Int),.int .i64 (n : Int)]) ∧ Ans c f n ∧ Kb 0 W w' from HIM) w6 _ HK6.2.1 HBD).mono ?_
    rintro e w7 ⟨c',f',n',rfl,hans',k7⟩
    obtain ⟨rfl,rfl,rfl⟩:=(show ∀ c f n c' f' n',Ans c f n → Ans c' f' n' → c = c' ∧ f = f' ∧ n = n' from HUN) _ _ _ _ _ _ (show Ans c f n from HAN) hans'
    obtain ⟨w8,hw8⟩ : ∃ w8,w8 = w7.alloc (.cells #[.int .i64 (c : Int),.int .i64 (f : Int),.int .i64 (n : Int)] 27):=⟨_,rfl⟩
    have k8 : Kb 0 w6 w8:=by rw [hw8];exact k7.trans (kb_alloc _ _ _)
    have HK8 : Hid (Kb 0 w w8 ∧ RowF 0 w8 (.slice px nf qx) nf F ∧ w8.cell? ⟨w.heap.size,0,none⟩ = some (.slice pa nf ca) ∧ w8.cell? ⟨w5.heap.size,0,none⟩ = some (.slice px nf qx)):=(⟨HK6.1.trans k8,HK6.2.1.keep k8,k8.cell HK6.2.2.1,k8.cell HK6.2.2.2.2⟩ : _ ∧ _)
    have x0 : ∀ o,(w7.alloc o).cell? ⟨w3.heap.size,0,none⟩ = some (.int .i64 (c : Int)):=fun o=>(k7.alloc o).cell HK6.2.2.2.1.1
    have x1 : ∀ o,(w7.alloc o).cell? ⟨w3.heap.size,1,none⟩ = some (.int .i64 (f : Int)):=fun o=>(k7.alloc o).cell HK6.2.2.2.1.2.1
    have x2 : ∀ o,(w7.alloc o).cell? ⟨w3.heap.size,2,none⟩ = some (.int .i64 (n : Int)):=fun o=>(k7.alloc o).cell HK6.2.2.2.1.2.2
    have HW8 : Hid (w8 = w7.alloc (.cells #[.int .i64 (c : Int),.int .i64 (f : Int),.int .i64 (n : Int)] 27)):=hw8
    clear HK6 hans' HAN k7 k8 hw8 HUN HIM
    go_wp2_with fail
    rw [← (show w8 = _ from HW8)]
    clear HW8 x0 x1 x2
    refine (eq_fault (c : Int) (f : Int) (n : Int) w8).mono ?_
    rintro e w9 ⟨rfl,k9⟩
    have HK9 : Hid (Kb 0 w w9 ∧ RowF 0 w9 (.slice pa nf ca) nf F ∧ RowF 0 w9 (.slice px nf qx) nf F):=(⟨HK8.1.trans k9,HA.1.keep (HK8.1.trans k9),HK8.2.1.keep k9⟩ : _ ∧ _)
    have c5 : w9.cell? ⟨w5.heap.size,0,none⟩ = some (.slice px nf qx):=k9.cell HK8.2.2.2
    have c0 : w9.cell? ⟨w.heap.size,0,none⟩ = some (.slice pa nf ca):=k9.cell HK8.2.2.1
    have HTO : Hid (∀ W,Kb 0 w9 W → Calls Try.prog 7 #[.agg #[.slice pa nf ca]] W fun e w'=>∃ v,e = .returned (.agg #[v]) ∧ RowF W.heap.size w' v nf F ∧ Kb 0 W w'):=(fun W k=>to_unit W (HK9.2.1.keep k) HBD : ∀ W,_)
    have HEQ : Hid (∀ W v2,Kb 0 w9 W → RowF 0 W v2 nf F → Calls Try.prog 10 #[.agg #[.slice px nf qx],.agg #[v2]] W fun e w'=>e = .returned (.bool true) ∧ Kb 0 W w'):=(fun W v2 k h2=>eq_unit W (HK9.2.2.keep k) h2 HBD : ∀ W v2,_)
    have HC5 : Hid (∀ W,Kb 0 w9 W → W.cell? ⟨w5.heap.size,0,none⟩ = some (.slice px nf qx) ∧ W.cell? ⟨w.heap.size,0,none⟩ = some (.slice pa nf ca)):=(fun W k=>⟨k.cell c5,k.cell c0⟩ : ∀ W,_)
    clear HK8 k9
    go_wp2_with fail
    go_region_held_law (fun W'=>W'.cell? ⟨w5.heap.size,0,none⟩ = some (.slice px nf qx) ∧ W'.cell? ⟨w.heap.size,0,none⟩ = some (.slice pa nf ca)) (first | exact s11 | exact s10 | exact ⟨c5,c0⟩)
      (first
        | (go_at_call 7;refine ((show ∀ W,Kb 0 w9 W → _ from HTO) _ (by exact Kb.drewN (Kb.refl _ _) 1)).mono ?_;rintro e w10 ⟨v2,rfl,o2,k10⟩;have K10 : Kb 0 w9 w10:=⟨k10.os,k10.output,k10.size,k10.block⟩;have s10:=(show ∀ W,Kb 0 w9 W → _ from HC5) w10 K10)
        | (go_at_call 10;refine ((show ∀ W v2,_ from HEQ) _ _ K10 (o2.mono (Nat.zero_le _))).mono ?_;rintro e w11 ⟨rfl,k11⟩;have K11 : Kb 0 w9 w11:=K10.trans k11;have s11:=(show ∀ W,Kb 0 w9 W → _ from HC5) w11 K11))
    have HB11 : Hid (Kb 0 w w11):=HK9.1.trans K11
    clear c5 c0 HC5 HEQ HTO o2 k10 K10 s10 k11 K11 s11
    go_wp2_with fail
    go_ret
    exact ⟨rfl,HB11⟩
end Go.Proofs.Ytipiahdcmjchjaa.Fo
