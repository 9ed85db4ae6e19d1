import Derived.Test.YtomcmnompajnlaaGreatDoorDXDuf
set_option maxRecDepth 100000
namespace Go.Proofs.YtomcmnompajnlaaGreatDoor.Fo
open Go.ChangeShapes Go.WideShapes Go.ChangeAt Go.RowKit
set_option linter.unusedVariables false
section
variable {H:Type} {enc:TypeId × Value→H} {w:World} {base:Nat} {sp:Nat→Bool} {held:Bool}
theorem read_num0 {fuel : Nat} {cs : List Value} {x : DataW H × List MemPlace} {b : Addr} (h : DataW.trod enc Tryz.prog w base sp held fuel 111 cs = some x) (hc : w.cells? base b 9 = some cs) :
    ∃ z:Int,w.cell? b=some (.int .i64 z) ∧ -9223372036854775808≤z∧z≤9223372036854775807:=by
  obtain ⟨_,hlen,hcell⟩:=World.cells?_some hc
  obtain ⟨xs,n,_,rfl,hl,hxl,hf⟩:=DataW.trod_struct Tryz.underlying111 h
  match cs,hlen with
  | [c0,c1,c2,c3,c4,c5,c6,c7,c8],_ =>
    match xs,hxl with
    | [y0,y1,y2,y3,y4,y5,y6,y7,y8],_ =>
      have t5:=hf 0 _ rfl
      simp [cells3] at t5
      obtain ⟨z5,e5,_,g5⟩:=DataW.trod_int Tryz.underlying3 t5
      simp only [List.cons.injEq,and_true] at e5
      subst e5
      refine ⟨z5,?_,?_,?_⟩
      · have:=hcell 0 (by omega);simpa [Addr.add] using this
      · have:=g5;simp [Lit.wf,IntKind.min,IntKind.max,IntKind.signed,IntKind.bits] at this;omega
      · have:=g5;simp [Lit.wf,IntKind.min,IntKind.max,IntKind.signed,IntKind.bits] at this;omega
theorem read_num1 {fuel : Nat} {cs : List Value} {x : DataW H × List MemPlace} {b : Addr} (h : DataW.trod enc Tryz.prog w base sp held fuel 111 cs = some x) (hc : w.cells? base b 9 = some cs) :
    ∃ z:Int,w.cell? ⟨b.block,b.off+1,none⟩=some (.int .i64 z) ∧ -9223372036854775808≤z∧z≤9223372036854775807:=by
  obtain ⟨_,hlen,hcell⟩:=World.cells?_some hc
  obtain ⟨xs,n,_,rfl,hl,hxl,hf⟩:=DataW.trod_struct Tryz.underlying111 h
  match cs,hlen with
  | [c0,c1,c2,c3,c4,c5,c6,c7,c8],_ =>
    match xs,hxl with
    | [y0,y1,y2,y3,y4,y5,y6,y7,y8],_ =>
      have t5:=hf 1 _ rfl
      simp [cells3] at t5
      obtain ⟨z5,e5,_,g5⟩:=DataW.trod_int Tryz.underlying3 t5
      simp only [List.cons.injEq,and_true] at e5
      subst e5
      refine ⟨z5,?_,?_,?_⟩
      · have:=hcell 1 (by omega);simpa [Addr.add] using this
      · have:=g5;simp [Lit.wf,IntKind.min,IntKind.max,IntKind.signed,IntKind.bits] at this;omega
      · have:=g5;simp [Lit.wf,IntKind.min,IntKind.max,IntKind.signed,IntKind.bits] at this;omega
theorem read_num2 {fuel : Nat} {cs : List Value} {x : DataW H × List MemPlace} {b : Addr} (h : DataW.trod enc Tryz.prog w base sp held fuel 111 cs = some x) (hc : w.cells? base b 9 = some cs) :
    ∃ z:Int,w.cell? ⟨b.block,b.off+2,none⟩=some (.int .i64 z) ∧ -9223372036854775808≤z∧z≤9223372036854775807:=by
  obtain ⟨_,hlen,hcell⟩:=World.cells?_some hc
  obtain ⟨xs,n,_,rfl,hl,hxl,hf⟩:=DataW.trod_struct Tryz.underlying111 h
  match cs,hlen with
  | [c0,c1,c2,c3,c4,c5,c6,c7,c8],_ =>
    match xs,hxl with
    | [y0,y1,y2,y3,y4,y5,y6,y7,y8],_ =>
      have t5:=hf 2 _ rfl
      simp [cells3] at t5
      obtain ⟨z5,e5,_,g5⟩:=DataW.trod_int Tryz.underlying3 t5
      simp only [List.cons.injEq,and_true] at e5
      subst e5
      refine ⟨z5,?_,?_,?_⟩
      · have:=hcell 2 (by omega);simpa [Addr.add] using this
      · have:=g5;simp [Lit.wf,IntKind.min,IntKind.max,IntKind.signed,IntKind.bits] at this;omega
      · have:=g5;simp [Lit.wf,IntKind.min,IntKind.max,IntKind.signed,IntKind.bits] at this;omega
theorem read_num3 {fuel : Nat} {cs : List Value} {x : DataW H × List MemPlace} {b : Addr} (h : DataW.trod enc Tryz.prog w base sp held fuel 111 cs = some x) (hc : w.cells? base b 9 = some cs) :
    ∃ z:Int,w.cell? ⟨b.block,b.off+3,none⟩=some (.int .i64 z) ∧ -9223372036854775808≤z∧z≤9223372036854775807:=by
  obtain ⟨_,hlen,hcell⟩:=World.cells?_some hc
  obtain ⟨xs,n,_,rfl,hl,hxl,hf⟩:=DataW.trod_struct Tryz.underlying111 h
  match cs,hlen with
  | [c0,c1,c2,c3,c4,c5,c6,c7,c8],_ =>
    match xs,hxl with
    | [y0,y1,y2,y3,y4,y5,y6,y7,y8],_ =>
      have t5:=hf 3 _ rfl
      simp [cells3] at t5
      obtain ⟨z5,e5,_,g5⟩:=DataW.trod_int Tryz.underlying3 t5
      simp only [List.cons.injEq,and_true] at e5
      subst e5
      refine ⟨z5,?_,?_,?_⟩
      · have:=hcell 3 (by omega);simpa [Addr.add] using this
      · have:=g5;simp [Lit.wf,IntKind.min,IntKind.max,IntKind.signed,IntKind.bits] at this;omega
      · have:=g5;simp [Lit.wf,IntKind.min,IntKind.max,IntKind.signed,IntKind.bits] at this;omega
theorem read_num4 {fuel : Nat} {cs : List Value} {x : DataW H × List MemPlace} {b : Addr} (h : DataW.trod enc Tryz.prog w base sp held fuel 111 cs = some x) (hc : w.cells? base b 9 = some cs) :
    ∃ z:Int,w.cell? ⟨b.block,b.off+4,none⟩=some (.int .i64 z) ∧ -9223372036854775808≤z∧z≤9223372036854775807:=by
  obtain ⟨_,hlen,hcell⟩:=World.cells?_some hc
  obtain ⟨xs,n,_,rfl,hl,hxl,hf⟩:=DataW.trod_struct Tryz.underlying111 h
  match cs,hlen with
  | [c0,c1,c2,c3,c4,c5,c6,c7,c8],_ =>
    match xs,hxl with
    | [y0,y1,y2,y3,y4,y5,y6,y7,y8],_ =>
      have t5:=hf 4 _ rfl
      simp [cells3] at t5
      obtain ⟨z5,e5,_,g5⟩:=DataW.trod_int Tryz.underlying3 t5
      simp only [List.cons.injEq,and_true] at e5
      subst e5
      refine ⟨z5,?_,?_,?_⟩
      · have:=hcell 4 (by omega);simpa [Addr.add] using this
      · have:=g5;simp [Lit.wf,IntKind.min,IntKind.max,IntKind.signed,IntKind.bits] at this;omega
      · have:=g5;simp [Lit.wf,IntKind.min,IntKind.max,IntKind.signed,IntKind.bits] at this;omega
theorem read_num5 {fuel : Nat} {cs : List Value} {x : DataW H × List MemPlace} {b : Addr} (h : DataW.trod enc Tryz.prog w base sp held fuel 111 cs = some x) (hc : w.cells? base b 9 = some cs) :
    ∃ z:Int,w.cell? ⟨b.block,b.off+5,none⟩=some (.int .i64 z) ∧ -9223372036854775808≤z∧z≤9223372036854775807:=by
  obtain ⟨_,hlen,hcell⟩:=World.cells?_some hc
  obtain ⟨xs,n,_,rfl,hl,hxl,hf⟩:=DataW.trod_struct Tryz.underlying111 h
  match cs,hlen with
  | [c0,c1,c2,c3,c4,c5,c6,c7,c8],_ =>
    match xs,hxl with
    | [y0,y1,y2,y3,y4,y5,y6,y7,y8],_ =>
      have t5:=hf 5 _ rfl
      simp [cells2] at t5
      obtain ⟨z5,e5,_,g5⟩:=DataW.trod_int Tryz.underlying2 t5
      simp only [List.cons.injEq,and_true] at e5
      subst e5
      refine ⟨z5,?_,?_,?_⟩
      · have:=hcell 5 (by omega);simpa [Addr.add] using this
      · have:=g5;simp [Lit.wf,IntKind.min,IntKind.max,IntKind.signed,IntKind.bits] at this;omega
      · have:=g5;simp [Lit.wf,IntKind.min,IntKind.max,IntKind.signed,IntKind.bits] at this;omega
theorem read_forms3 {fuel : Nat} {cs : List Value} {x : DataW H × List MemPlace} (h : DataW.trod enc Tryz.prog w base sp held fuel 22 cs = some x) (hz : Sz 22 x.1) :
    ∃ (pa:Option Addr) (ca n:Nat) (F:Nat→Gv),cs = [.slice pa n ca]∧RowF w (.slice pa n ca) n F∧(n:Int) < 140737488355328∧(∀ i,i < n→((F i).a.x.size:Int) < 140737488355328∧((F i).p:Int) < 140737488355328∧(∀ j,j < (F i).p→(((F i).A j).size:Int) < 140737488355328)∧((F i).q:Int) < 140737488355328)∧∀ i,i < n→Rg (F i).a:=by
  obtain ⟨pa,ca,n,F,rfl,hR,hn,hF⟩:=read_forms h hz
  refine ⟨pa,ca,n,F,rfl,hR,hn,hF,fun i hi=>?_⟩
  obtain ⟨pf,cf,e1,hf2⟩:=hR
  obtain ⟨c,e2,_,hrc⟩:=hf2 (by omega)
  obtain ⟨vn,vk,hc9,_,_⟩:=hrc i hi
  rcases Deep.open_slice Tryz.underlying22 h with ⟨e3,rfl⟩ | ⟨a,len,cap,m,k,D,Pl,e3,hb,hl,hm,hmm,rfl,hx⟩
  · simp only [List.cons.injEq,Value.slice.injEq,and_true] at e3
    omega
  · have hle:len≤m:=by rw [hmm];split <;> omega
    simp only [List.cons.injEq,Value.slice.injEq,and_true] at e3
    obtain ⟨e4,e5,_⟩:=e3
    simp only [Value.slice.injEq] at e1
    obtain ⟨e6,_⟩:=e1
    have e7:a=c:=by rw [e4] at e6;rw [← e6] at e2;exact Option.some.inj e2
    rw [cells47] at hx
    obtain ⟨cs',h1,h2⟩:=hx i (by omega)
    have key:∀ (z:Int) (v:Int) (p q:Addr),w.cell? p=some (.int .i64 z)→p=q→w.cell? q=some (.int .i64 v) → -9223372036854775808≤z∧z≤9223372036854775807 → -9223372036854775808≤v∧v≤9223372036854775807:=by
      intro z v p q r1 r2 r3 r4
      subst r2
      rw [r1] at r3
      have:z=v:=by simpa using r3
      subst this
      exact r4
    subst e7
    intro v hv
    simp only [its,List.mem_cons,List.not_mem_nil,or_false] at hv
    rcases hv with rfl | rfl | rfl | rfl | rfl | rfl
    · obtain ⟨z,q1,q2⟩:=read_num0 h2 h1
      exact key z _ _ _ q1 rfl hc9.c0 q2
    · obtain ⟨z,q1,q2⟩:=read_num1 h2 h1
      exact key z _ _ _ q1 rfl hc9.c1 q2
    · obtain ⟨z,q1,q2⟩:=read_num2 h2 h1
      exact key z _ _ _ q1 rfl hc9.c2 q2
    · obtain ⟨z,q1,q2⟩:=read_num3 h2 h1
      exact key z _ _ _ q1 rfl hc9.c3 q2
    · obtain ⟨z,q1,q2⟩:=read_num4 h2 h1
      exact key z _ _ _ q1 rfl hc9.c4 q2
    · obtain ⟨z,q1,q2⟩:=read_num5 h2 h1
      exact key z _ _ _ q1 rfl hc9.c5 q2
end
end Go.Proofs.YtomcmnompajnlaaGreatDoor.Fo
