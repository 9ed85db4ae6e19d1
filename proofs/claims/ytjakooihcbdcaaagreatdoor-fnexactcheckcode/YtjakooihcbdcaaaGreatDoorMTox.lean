import Derived.Test.YtjakooihcbdcaaaGreatDoorMZsq
import Derived.Test.YtjakooihcbdcaaaGreatDoorMTot
import Derived.Shelf.Spec.SlicesInsertGrow
import Derived.Shelf.Slices.SearchI
import Derived.Shelf.Slices.Empties
import Derived.Deep.RegionLaw
set_option maxHeartbeats 16000000
namespace Go.Proofs.YtjakooihcbdcaaaGreatDoor.Fo
open Go.ChangeShapes Go.WideShapes Go.ChangeAt Go.RowKit
set_option linter.unusedVariables false
set_option maxRecDepth 100000
def PsA (d:Pd) (A:Addr) (np ca q:Nat) (w:World) (e:Ending) (w':World):Prop:=∃ P S v5 v6 v7 v8,e = .returned (.pointer (some ⟨P,0,none⟩))∧w'.heap[P]? = some (.cells #[.string d.x,.int .i64 d.l,.int .i64 d.m,.bool d.r,.int .i64 d.g,v5,v6,v7,v8,.slice (some A) np ca,.int .i64 q,.slice (some ⟨S,0,none⟩) d.n d.n,.slice none 0 0] 65 (0,0))∧w'.heap[S]? = some (.cells (madeCells (.agg #[.bool false,.slice none 0 0,.slice none 0 0]:Value).cells (d.n*3)) 68 (0,0))∧w.heap.size≤S∧S < P∧P < w'.heap.size∧RowI 0 w v7 d.n d.N∧IsSl v5∧IsSl v6∧IsSl v8∧Kb 0 w w'
theorem im_passof {A : Addr} {np ca q : Nat} {F : Nat → Pd} (w : World) (h0 : ∀ i, i < np → ProC 0 w (A.add (i * 9)) (F i)) (hq : q < np) (hnp : np ≤ 200) (hn0 : 0 < (F q).n) (hnn : (F q).n ≤ 6000) :
  Calls Tryz.prog 31 #[.agg #[.slice (some A) np ca],.int .i64 q] w (PsA (F q) A np ca q w):=by
 obtain ⟨d,hdF⟩:∃ d,d=F q:=⟨_,rfl⟩
 rw [← hdF] at hn0 hnn ⊢;obtain ⟨vu,vc,vn,vd,hcel,hvu,hvc,hvn,hvd⟩:=h0 q hq;rw [← hdF] at hcel hvu hvc hvn hvd;obtain ⟨a1,c1,rfl,-⟩:=hvu;obtain ⟨a2,c2,rfl,-⟩:=hvc;have hvn2:=hvn;obtain ⟨pI',cn,rfl,hvn3⟩:=hvn;obtain ⟨pI,rfl,-,-,-⟩:=hvn3 (by omega);obtain ⟨a3,c3,rfl,-⟩:=hvd;obtain ⟨b1,hb1⟩:∃ b1,b1=d.u:=⟨_,rfl⟩
 obtain ⟨b2,hb2⟩:∃ b2,b2=d.c:=⟨_,rfl⟩
 obtain ⟨b3,hb3⟩:∃ b3,b3=d.d:=⟨_,rfl⟩
 rw [← hb1,← hb2,← hb3] at hcel;have HY:Hid (RowI 0 w (.slice (some pI) d.n cn) d.n d.N):=hvn2;obtain ⟨d0,d1,d2,d3,d4,d5,d6,d7,d8⟩:=hcel.keep zq (kb_alloc 0 w (.cells #[.slice (some A) np ca] 31));have qI:(q:Int) < (np:Int):=by omega
 have npI:(np:Int)≤200:=by omega
 have nI:(d.n:Int)≤6000:=by omega
 obtain ⟨w2,hw2⟩:∃ w2,w2=(w.alloc (.cells #[.slice (some A) np ca] 31)).alloc (.cells #[.string d.x,.int .i64 d.l,.int .i64 d.m,.bool d.r,.int .i64 d.g,.slice a1 b1 c1,.slice a2 b2 c2,.slice (some pI) d.n cn,.slice a3 b3 c3] 62):=⟨_,rfl⟩
 obtain ⟨t0,t1,ts,k2⟩:=two_new' w _ _ _ _ w2 hw2;obtain ⟨w3,hw3⟩:∃ w3,w3=w2.drew:=⟨_,rfl⟩
 have hmk:=fun W=>run_make (P:=Tryz.prog) W 36 68 Tryz.t68 (.agg #[.bool false,.slice none 0 0,.slice none 0 0]:Value) Tryz.underlying36 (by kernel_rfl) (by kernel_rfl) .i64 .i64 (d.n:Int) (d.n:Int) (by omega) (Int.le_refl _) (by show (56:Int)*(d.n:Int)≤_;omega) (by omega);have hmk':=fun W=>hmk W;have y0:w2.cell? ⟨w.heap.size,0,none⟩=some (.slice (some A) np ca):=cell_of t0 rfl;have z0:w2.cell? ⟨w.heap.size+1,0,none⟩=some (.string d.x):=cell_of t1 rfl;have z1:w2.cell? ⟨w.heap.size+1,1,none⟩=some (.int .i64 d.l):=cell_of t1 rfl;have z2:w2.cell? ⟨w.heap.size+1,2,none⟩=some (.int .i64 d.m):=cell_of t1 rfl;have z3:w2.cell? ⟨w.heap.size+1,3,none⟩=some (.bool d.r):=cell_of t1 rfl;have z4:w2.cell? ⟨w.heap.size+1,4,none⟩=some (.int .i64 d.g):=cell_of t1 rfl;have z5:w2.cell? ⟨w.heap.size+1,5,none⟩=some (.slice a1 b1 c1):=cell_of t1 rfl;have z6:w2.cell? ⟨w.heap.size+1,6,none⟩=some (.slice a2 b2 c2):=cell_of t1 rfl;have z7:w2.cell? ⟨w.heap.size+1,7,none⟩=some (.slice (some pI) d.n cn):=cell_of t1 rfl;have z8:w2.cell? ⟨w.heap.size+1,8,none⟩=some (.slice a3 b3 c3):=cell_of t1 rfl;have y0a:∀ o,(w2.alloc o).cell? ⟨w.heap.size,0,none⟩=some (.slice (some A) np ca):=fun o=>(kb_alloc 0 w2 o).cell y0;have z0a:∀ o,(w2.alloc o).cell? ⟨w.heap.size+1,0,none⟩=some (.string d.x):=fun o=>(kb_alloc 0 w2 o).cell z0;have z1a:∀ o,(w2.alloc o).cell? ⟨w.heap.size+1,1,none⟩=some (.int .i64 d.l):=fun o=>(kb_alloc 0 w2 o).cell z1;have z2a:∀ o,(w2.alloc o).cell? ⟨w.heap.size+1,2,none⟩=some (.int .i64 d.m):=fun o=>(kb_alloc 0 w2 o).cell z2;have z3a:∀ o,(w2.alloc o).cell? ⟨w.heap.size+1,3,none⟩=some (.bool d.r):=fun o=>(kb_alloc 0 w2 o).cell z3;have z4a:∀ o,(w2.alloc o).cell? ⟨w.heap.size+1,4,none⟩=some (.int .i64 d.g):=fun o=>(kb_alloc 0 w2 o).cell z4;have z5a:∀ o,(w2.alloc o).cell? ⟨w.heap.size+1,5,none⟩=some (.slice a1 b1 c1):=fun o=>(kb_alloc 0 w2 o).cell z5;have z6a:∀ o,(w2.alloc o).cell? ⟨w.heap.size+1,6,none⟩=some (.slice a2 b2 c2):=fun o=>(kb_alloc 0 w2 o).cell z6;have z7a:∀ o,(w2.alloc o).cell? ⟨w.heap.size+1,7,none⟩=some (.slice (some pI) d.n cn):=fun o=>(kb_alloc 0 w2 o).cell z7;have z8a:∀ o,(w2.alloc o).cell? ⟨w.heap.size+1,8,none⟩=some (.slice a3 b3 c3):=fun o=>(kb_alloc 0 w2 o).cell z8;have HW:Hid (w2 = _):=hw2;have HT:Hid (w2.heap.size=w.heap.size+2∧Kb 0 w w2):=⟨ts,k2⟩
 clear hw2 hw3 w3 t0 t1 ts k2 h0 hq hnp hn0 hnn hvn2 hvn3 hcel hdF hb1 hb2 hb3 hmk';rw [Int.toNat_natCast] at hmk;go_enter Tryz.func31,Tryz.ntmps31;go_upto_region 2 with fail;rw [← (uh HW)];clear HW d0 d1 d2 d3 d4 d5 d6 d7 d8
 go_region
 obtain ⟨w4,hw4⟩:∃ w4,w4=(w2.alloc (.cells (madeCells #[.bool false,.slice none 0 0,.slice none 0 0] (d.n*3)) 68)).alloc (.cells #[.string d.x,.int .i64 d.l,.int .i64 d.m,.bool d.r,.int .i64 d.g,.slice a1 b1 c1,.slice a2 b2 c2,.slice (some pI) d.n cn,.slice a3 b3 c3,.slice (some A) np ca,.int .i64 q,.slice (some ⟨w2.heap.size,0,none⟩) d.n d.n,.slice none 0 0] 65):=⟨_,rfl⟩
 rw [show d.n*Tryz.t68.size=d.n*3 from rfl,← hw4];obtain ⟨t0,t1,ts,k4⟩:=two_new' w2 _ _ _ _ w4 hw4
 have HF:Hid (PsA d A np ca q w (.returned (.pointer (some ⟨w2.heap.size+1,0,none⟩))) w4.drew):=by
  obtain ⟨e1,k2⟩:=(uh HT)
  exact ⟨w2.heap.size+1,w2.heap.size,_,_,_,_,rfl,t1,t0,by omega,by omega,by show _ < w4.heap.size;omega,HY,⟨_,_,_,rfl⟩,⟨_,_,_,rfl⟩,⟨_,_,_,rfl⟩,(k2.trans k4).drew⟩
 obtain ⟨P,hP⟩:∃ P,P=w2.heap.size+1:=⟨_,rfl⟩
 rw [← hP] at HF ⊢;clear hw4 t0 t1 ts k4 hP HT HY;go_wp2_with fail;go_ret;exact HF
end Go.Proofs.YtjakooihcbdcaaaGreatDoor.Fo
namespace Go.Proofs.YtjakooihcbdcaaaGreatDoor.Fo
open Go.ChangeShapes Go.WideShapes Go.ChangeAt Go.RowKit Go.Shelf
set_option linter.unusedVariables false
set_option maxRecDepth 100000
def renS:Go.Shelf.Ren:=⟨fun | 21=>127 | 27=>164 | 28=>165 | 35=>184 | 39=>193 | 25=>126 | 31=>162 | 32=>163 | 37=>183 | n=>n,fun | 0=>0 | 3=>3 | 4=>4 | 22=>63 | 40=>226 | n=>n,fun n=>n⟩
theorem laysIns:Go.Proofs.Lays2.n21 Tryz.prog renS:={
 mixed:=by kernel_rfl
 f21:=Tryz.func127.trans (congrArg some (by kernel_rfl))
 f27:=Tryz.func164.trans (congrArg some (by kernel_rfl))
 f28:=Tryz.func165.trans (congrArg some (by kernel_rfl))
 f35:=Tryz.func184.trans (congrArg some (by kernel_rfl))
 f39:=Tryz.func193.trans (congrArg some (by kernel_rfl))
 t0:=Tryz.underlying0
 a0:=Tryz.isAgg0
 z0:=Tryz.sizeOf0
 v0:=Tryz.zeroValue0
 t3:=Tryz.underlying3
 a3:=Tryz.isAgg3
 z3:=Tryz.sizeOf3
 v3:=Tryz.zeroValue3
 t4:=Tryz.underlying4
 a4:=Tryz.isAgg4
 z4:=Tryz.sizeOf4
 v4:=Tryz.zeroValue4
 t22:=Tryz.underlying63
 a22:=Tryz.isAgg63
 z22:=Tryz.sizeOf63
 v22:=Tryz.zeroValue63
 i3:=by kernel_rfl }
theorem laysSea:Go.Proofs.Lays2.n25 Tryz.prog renS:={
  mixed:=by kernel_rfl
  f25:=Tryz.func126.trans (congrArg some (by kernel_rfl))
  f31:=Tryz.func162.trans (congrArg some (by kernel_rfl))
  f32:=Tryz.func163.trans (congrArg some (by kernel_rfl))
  f37:=Tryz.func183.trans (congrArg some (by kernel_rfl))
  t0:=Tryz.underlying0
  a0:=Tryz.isAgg0
  z0:=Tryz.sizeOf0
  v0:=Tryz.zeroValue0
  t3:=Tryz.underlying3
  a3:=Tryz.isAgg3
  z3:=Tryz.sizeOf3
  v3:=Tryz.zeroValue3
  t4:=Tryz.underlying4
  a4:=Tryz.isAgg4
  z4:=Tryz.sizeOf4
  v4:=Tryz.zeroValue4
  t22:=Tryz.underlying63
  a22:=Tryz.isAgg63
  z22:=Tryz.sizeOf63
  v22:=Tryz.zeroValue63
  t40:=Tryz.underlying226
  a40:=Tryz.isAgg226
  z40:=Tryz.sizeOf226
  v40:=Tryz.zeroValue226
 }
def Dul (W:World) (db:Nat) (vd:Value) (D:List Nat):Prop:=(vd = .slice none 0 0∧D = [])∨∃ off c,vd = .slice (some ⟨db,off,none⟩) D.length c∧D.length≤c∧c≤maxLen∧(∀ (j x:Nat),D[j]? = some x→W.cell? ⟨db,off+j,none⟩=some (.int .i64 x))∧(∀ j,j < c→(W.cell? ⟨db,off+j,none⟩).isSome=true)∧(∀ j,W.frozen? ⟨db,j,none⟩=false)∧db < W.heap.size
theorem Dul.on {W W':World} {db:Nat} {vd:Value} {D:List Nat} (h:Dul W db vd D) (hb:db < W.heap.size→W'.heap[db]? = W.heap[db]?) (hs:W.heap.size≤W'.heap.size):Dul W' db vd D:=by
 rcases h with h | ⟨off,c,h1,h2,h3,h4,h5,h6,h7⟩
 ·exact .inl h
 ·have e:=hb h7;exact .inr ⟨off,c,h1,h2,h3,fun j x hx=>(World.cell?_of_block e).trans (h4 j x hx),fun j hj=>by rw [World.cell?_of_block e];exact h5 j hj,fun j=>(World.frozen?_of_block e).trans (h6 j),by omega⟩
def ciN (D:List Nat):List Value:=D.map (fun (x:Nat)=>Value.int .i64 x)
theorem ciN_at {D:List Nat} {j:Nat} {v:Value} (h:(ciN D)[j]? = some v):∃ x,D[j]? = some x∧v = .int .i64 x:=by
 unfold ciN at h;rw [List.getElem?_map] at h;cases hx:D[j]? with
 | none=>rw [hx] at h;cases h
 | some x=>rw [hx] at h;exact ⟨x,rfl,by simpa using h.symm⟩
theorem ciN_of {D:List Nat} {j x:Nat} (h:D[j]? = some x):(ciN D)[j]? = some (.int .i64 x):=by
 unfold ciN;rw [List.getElem?_map,h];rfl
theorem ciN_len (D:List Nat):(ciN D).length=D.length:=by unfold ciN;simp
theorem ciN_one (D:List Nat):∀ v ∈ ciN D,v.oneCell'=true:=by
 intro v hv;unfold ciN at hv;obtain ⟨x,_,rfl⟩:=List.mem_map.1 hv;rfl
theorem put_at {D:List Nat} {i x j y:Nat} (hi:i≤D.length) (h:(D.take i ++ x :: D.drop i)[j]? = some y):(j < i∧D[j]? = some y)∨(j=i∧y=x)∨(i < j∧D[j - 1]? = some y):=by
 have hl:(D.take i).length=i:=by rw [List.length_take];omega
 rcases Nat.lt_trichotomy j i with q | q | q
 ·rw [List.getElem?_append_left (by omega),List.getElem?_take,if_pos q] at h;exact .inl ⟨q,h⟩
 ·subst q;rw [List.getElem?_append_right (by omega),hl,Nat.sub_self] at h;exact .inr (.inl ⟨rfl,by simpa using h.symm⟩)
 ·rw [List.getElem?_append_right (by omega),hl,show j - i=(j - i - 1)+1 by omega,List.getElem?_cons_succ,List.getElem?_drop,show i+(j - i - 1)=j - 1 by omega] at h;exact .inr (.inr ⟨q,h⟩)
theorem put_len2 {D:List Nat} {i x:Nat} (hi:i≤D.length):(D.take i ++ x :: D.drop i).length=D.length+1:=by
 rw [List.length_append,List.length_cons,List.length_take,List.length_drop];omega
theorem in_at {b:Nat} {vs:List Value} {o:Nat} {w:World} (h:∀ j,j < vs.length→(w.cell? ⟨b,o+j,none⟩).isSome=true) {j:Nat} {v:Value} (hv:vs[j]? = some v):(w.setCells b o vs).cell? ⟨b,o+j,none⟩=some v:=by
 obtain ⟨hj,e⟩:=List.getElem?_eq_some_iff.1 hv;rw [World.cell?_setCells_in b vs o w h j hj,e]
theorem kx_setCells (q:Nat):∀ (vs:List Value) (o:Nat) (a w:World),Kx q a w→Kx q a (w.setCells q o vs)
 | [],_,_,_,h=>h
 | v :: vs,o,a,w,h=>kx_setCells q vs (o+1) a _ ⟨h.os,h.output,by simpa using h.size,fun k h1 h2=>(Below.heap_setCell w ⟨q,o,none⟩ v k h2).trans (h.block k h1 h2)⟩
theorem sz_setCells (q:Nat):∀ (vs:List Value) (o:Nat) (w:World),(w.setCells q o vs).heap.size=w.heap.size
 | [],_,_=>rfl
 | v :: vs,o,w=>by rw [World.setCells,sz_setCells q vs];simp
def InA (W:World) (db:Nat) (vd:Value) (L:List Nat) (e:Ending) (w':World):Prop:=∃ vd' db',e = .returned vd'∧Dul w' db' vd' L∧((db'=db∧Kx db W w'∧vd ≠ .slice none 0 0)∨(db'=W.heap.size∧Kb 0 W w'))
theorem al_at (W:World) (A:Array Value) {j:Nat} {v:Value} (h:A[j]? = some v):(W.alloc (.cells A 3)).cell? ⟨W.heap.size,j,none⟩=some v:=(cell_of_row _ _ j _ _ _ (alloc_new W A 3)).trans h
theorem al_is (W:World) (A:Array Value) {j:Nat} (h:j < A.size):((W.alloc (.cells A 3)).cell? ⟨W.heap.size,j,none⟩).isSome=true:=by
 rw [al_at W A (Array.getElem?_eq_getElem h)];rfl
theorem al_fz (W:World) (A:Array Value) (j:Nat):(W.alloc (.cells A 3)).frozen? ⟨W.heap.size,j,none⟩=false:=frozen_of_row _ _ j _ _ (alloc_new W A 3)
theorem zc_sz (n:Nat):(Builtin.zeroCells (Value.int .i64 0).cells n).size=n:=by
 rw [size_zeroCells,show (Value.int .i64 0).cells.size=1 from rfl];omega
theorem ciN_get {D:List Nat} {i x j y:Nat} (hi:i=D.length) (h:(D.take i ++ x :: D.drop i)[j]? = some y):(ciN D ++ [Value.int .i64 x])[j]? = some (.int .i64 y):=by
 rcases put_at (by omega) h with ⟨q,e⟩ | ⟨rfl,rfl⟩ | ⟨q,e⟩
 ·rw [List.getElem?_append_left (by rw [ciN_len];omega)];exact ciN_of e
 ·rw [List.getElem?_append_right (by rw [ciN_len];omega),ciN_len,hi,Nat.sub_self];rfl
 ·have:=(List.getElem?_eq_some_iff.1 e).1;omega
theorem kb_drew (w:World):Kb 0 w w.drew:=Kb.drewN (Kb.refl _ _) 1
theorem in_grow {W:World} {db:Nat} {vd:Value} {D:List Nat} (hD:D.length≤100000) (x i c:Nat) (hi:i=D.length) (hc1:D.length+1≤c) (hc2:c≤maxLen):InA W db vd (D.take i ++ x :: D.drop i) (.returned (.slice (some ⟨W.heap.size,0,none⟩) (D.length+1) c)) (W.drew.alloc (.cells ((ciN D ++ [Value.int .i64 x]).toArray ++ Builtin.zeroCells (Value.int .i64 0).cells (c - (D.length+1))) 3)):=by
 have hz:((ciN D ++ [Value.int .i64 x]).toArray ++ Builtin.zeroCells (Value.int .i64 0).cells (c - (D.length+1))).size=c:=by
  rw [Array.size_append,zc_sz];simp [ciN_len];omega
 refine ⟨_,W.heap.size,rfl,.inr ⟨0,c,by rw [put_len2 (by omega)],by rw [put_len2 (by omega)];omega,hc2,fun j y hy=>?_,fun j hj=>?_,fun j=>?_,?_⟩,.inr ⟨rfl,(kb_drew W).trans (kb_alloc _ _ _)⟩⟩
 ·rw [Nat.zero_add];refine al_at W.drew _ ?_;have:=ciN_get hi hy;have hl:=(List.getElem?_eq_some_iff.1 this).1;rw [Array.getElem?_append_left (by simpa using hl)]
  simpa using this
 ·rw [Nat.zero_add];exact al_is W.drew _ (by rw [hz];exact hj)
 ·exact al_fz W.drew _ j
 ·rw [World.size_alloc];show W.heap.size < W.heap.size+1;omega
theorem im_insert {W : World} {db : Nat} {vd : Value} {D : List Nat} (h : Dul W db vd D) (hD : D.length ≤ 100000) (x vb : Nat) (hvb : vb ≠ db) (hb : W.heap[vb]? = some (.cells #[.int .i64 (x : Int)] 3 (0, 0))) (i : Nat) (hi : i ≤ D.length) :
    Calls Tryz.prog 127 #[vd,.int .i64 i,.slice (some ⟨vb,0,none⟩) 1 1] W (InA W db vd (D.take i ++ x :: D.drop i)):=by
  have hvs:∀ j v,[Value.int .i64 x][j]? = some v→W.cell? ⟨vb,0+j,none⟩=some v:=fun j v hv=>by
    cases j with
    | zero =>
      have:Value.int .i64 x=v:=by simpa using hv
      subst this;exact cell_of hb rfl
    | succ j=>simp at hv
  have h1v:∀ v ∈ [Value.int .i64 x],v.oneCell'=true:=fun v hv=>by
    have:v=Value.int .i64 x:=by simpa using hv
    subst this;rfl
  have hmax : 100001≤maxLen:=by unfold maxLen;omega
  rcases h with ⟨rfl,rfl⟩ | ⟨off,c,rfl,h2,h3,h4,h5,h6,h7⟩
  · obtain rfl:i=0:=by simpa using hi
    refine (Any2.slices_Insert_int_end_grow laysIns none 0 0 vb 0 1 1 [] [.int .i64 x] W (by omega) (Nat.le_refl _) (by omega) (by omega) rfl rfl (fun _=>rfl) (fun a e=>by cases e) hvs h1v).mono ?_;rintro e w' ⟨rfl,rfl⟩;exact in_grow (D:=[]) (by simp) x 0 _ rfl (grownCap_ge _ _ _ _) (grownCap_le_maxLen _ _ _ _ (by simp;omega))
  · have hcc : c ≤ 9223372036854775807 := by
      have:maxLen≤9223372036854775807:=by unfold maxLen;omega
      omega
    have hcs:∀ j v,(ciN D)[j]? = some v→W.cell? ⟨db,off+j,none⟩=some v:=fun j v hv=>by
      obtain ⟨y,hy,rfl⟩:=ciN_at hv;exact h4 j y hy
    rcases Nat.lt_or_ge i D.length with hin | hin
    · rcases Nat.lt_or_ge c (D.length+1) with hr | hr
      · refine (Any2.slices_Insert_int_grow laysIns db off D.length c i vb 0 1 1 (ciN D) [.int .i64 x] W hin (by omega) h2 hr (by omega) (ciN_len D) rfl hcs hvs (ciN_one D) h1v).mono ?_;rintro e w' ⟨rfl,rfl⟩;obtain ⟨c',hc'⟩:∃ c',c'=grownCap W (D.length+1) c (renS.t 3):=⟨_,rfl⟩
        have hc1:D.length+1≤c':=by rw [hc'];exact grownCap_ge _ _ _ _
        have hc2:c'≤maxLen:=by rw [hc'];exact grownCap_le_maxLen _ _ _ _ (by omega)
        rw [← hc'];obtain ⟨A,hA⟩:∃ A,A=(((ciN D).take i).toArray ++ Builtin.zeroCells (Value.int .i64 0).cells (D.length+1 - i) ++ Builtin.zeroCells (Value.int .i64 0).cells (c' - (D.length+1))):=⟨_,rfl⟩
        have hAz:A.size=c':=by
          rw [hA,Array.size_append,Array.size_append,zc_sz,zc_sz];simp [ciN_len];omega
        have hAl:∀ j y,j < i→D[j]? = some y→A[j]? = some (.int .i64 y):=fun j y hj hy=>by
          have hl:((ciN D).take i).length=i:=by rw [List.length_take,ciN_len];omega
          rw [hA,Array.getElem?_append_left (by rw [Array.size_append,zc_sz];simp [ciN_len];omega),Array.getElem?_append_left (by simp [ciN_len];omega)];rw [List.getElem?_toArray,List.getElem?_take,if_pos hj];exact ciN_of hy
        rw [← hA];have kA:Kb 0 W (((W.alloc (.cells A 3)).drew.setCells W.heap.size i [.int .i64 x]).drew.setCells W.heap.size (i+1) ((ciN D).drop i)):=kb_setCells _ (Nat.le_refl _) _ _ _ ((kb_setCells _ (Nat.le_refl _) _ _ _ ((kb_alloc 0 W _).trans (kb_drew _))).trans (kb_drew _));have is1:∀ j,j < c'→((W.alloc (.cells A 3)).drew.cell? ⟨W.heap.size,j,none⟩).isSome=true:=fun j hj=>al_is W A (by rw [hAz];exact hj);have is2:∀ j,j < c'→(((W.alloc (.cells A 3)).drew.setCells W.heap.size i [.int .i64 x]).drew.cell? ⟨W.heap.size,j,none⟩).isSome=true:=fun j hj=>World.isSome_setCells _ _ _ _ _ (is1 j hj);refine ⟨_,W.heap.size,rfl,.inr ⟨0,c',by rw [put_len2 (by omega)],by rw [put_len2 (by omega)];omega,hc2,fun j y hy=>?_,fun j hj=>?_,fun j=>?_,?_⟩,.inr ⟨rfl,kA⟩⟩
        · rw [Nat.zero_add];rcases put_at hi hy with ⟨q,e⟩ | ⟨rfl,rfl⟩ | ⟨q,e⟩
          · rw [World.cell?_setCells_out _ _ _ _ _ (fun _ _=>.inl (by show j < i+1;omega))];show ((W.alloc (.cells A 3)).drew.setCells W.heap.size i [.int .i64 x]).cell? _ = _;rw [World.cell?_setCells_out _ _ _ _ _ (fun _ _=>.inl q)];exact al_at W A (hAl j y q e)
          · rw [World.cell?_setCells_out _ _ _ _ _ (fun _ _=>.inl (by show j < j+1;omega))]
            exact in_at (o:=j) (j:=0) (fun k hk=>by
              have:k=0:=by simpa using hk
              subst this;exact is1 _ (by omega)) rfl
          · have:=in_at (b:=W.heap.size) (vs:=(ciN D).drop i) (o:=i+1) (w:=((W.alloc (.cells A 3)).drew.setCells W.heap.size i [.int .i64 x]).drew) (j:=j - 1 - i) (v:=.int .i64 y) (fun k hk=>is2 _ (by rw [List.length_drop,ciN_len] at hk;omega)) (by rw [List.getElem?_drop,show i+(j - 1 - i)=j - 1 by omega];exact ciN_of e);rw [show i+1+(j - 1 - i)=j by omega] at this;exact this
        · rw [Nat.zero_add];exact World.isSome_setCells _ _ _ _ _ (is2 j hj)
        · rw [World.frozen?_setCells];show ((W.alloc (.cells A 3)).drew.setCells W.heap.size i [.int .i64 x]).frozen? _ = _;rw [World.frozen?_setCells];exact al_fz W A j
        · have:=kA.size;rw [sz_setCells];show W.heap.size < ((W.alloc (.cells A 3)).drew.setCells W.heap.size i [.int .i64 x]).heap.size;rw [sz_setCells];show W.heap.size < (W.alloc (.cells A 3)).heap.size;rw [World.size_alloc];omega
      · obtain ⟨x0,hx0⟩:∃ y,D[0]? = some y:=⟨_,List.getElem?_eq_getElem (by omega)⟩
        obtain ⟨tB,kB,hsb,hkB,-⟩:=World.shape?_of_cell? (h4 0 x0 hx0);have hsa:W.shape? vb=some (3,1):=by simp [World.shape?,hb]
        refine (Any2.slices_Insert_int_shift laysIns db off D.length c i vb 0 1 1 (ciN D) [.int .i64 x] W hin (by omega) hr hcc hvb (ciN_len D) rfl hcs (fun j hj=>h5 j (by omega)) (fun j _=>h6 _) hvs (ciN_one D) h1v 3 tB 1 kB hsa hsb (by omega) (frozen_of hb) (frozen_of hb)).mono ?_;rintro e w' ⟨rfl,rfl⟩;have is2:∀ j,j < c→((W.drew.setCells db (off+(i+1)) ((ciN D).drop i)).cell? ⟨db,off+j,none⟩).isSome=true:=fun j hj=>World.isSome_setCells _ _ _ _ _ (h5 j hj);have hk:Kx db W ((W.drew.setCells db (off+(i+1)) ((ciN D).drop i)).setCells db (off+i) [.int .i64 x]):=kx_setCells _ _ _ _ _ (kx_setCells _ _ _ _ _ (Kx.of_kb (kb_drew W)));refine ⟨_,db,rfl,.inr ⟨off,c,by rw [put_len2 hi],by rw [put_len2 hi];exact hr,h3,fun j y hy=>?_,fun j hj=>World.isSome_setCells _ _ _ _ _ (is2 j hj),fun j=>?_,by have:=hk.size;omega⟩,.inl ⟨rfl,hk,by intro q;cases q⟩⟩
        · rcases put_at hi hy with ⟨q,e⟩ | ⟨rfl,rfl⟩ | ⟨q,e⟩
          · rw [World.cell?_setCells_out _ _ _ _ _ (fun _ _=>.inl (by show off+j < off+i;omega)),World.cell?_setCells_out _ _ _ _ _ (fun _ _=>.inl (by show off+j < off+(i+1);omega))];exact h4 j y e
          · exact in_at (o := off + j) (j := 0) (fun k hk => by
              have:k=0:=by simpa using hk
              subst this;exact is2 _ (by omega)) rfl
          · rw [World.cell?_setCells_out _ _ _ _ _ (fun _ _=>.inr (by show off+i+1≤off+j;omega))];have hjl:=(List.getElem?_eq_some_iff.1 e).1;have:=in_at (b:=db) (vs:=(ciN D).drop i) (o:=off+(i+1)) (w:=W.drew) (j:=j - 1 - i) (v:=.int .i64 y) (fun k hk=>by rw [List.length_drop,ciN_len] at hk;have:=h5 (i+1+k) (by omega);rw [show off+(i+1)+k=off+(i+1+k) by omega];exact this) (by rw [List.getElem?_drop,show i+(j - 1 - i)=j - 1 by omega];exact ciN_of e);rw [show off+(i+1)+(j - 1 - i)=off+j by omega] at this;exact this
        · rw [World.frozen?_setCells,World.frozen?_setCells];exact h6 j
    · obtain rfl:i=D.length:=by omega
      rcases Nat.lt_or_ge c (D.length+1) with hr | hr
      · refine (Any2.slices_Insert_int_end_grow laysIns (some ⟨db,off,none⟩) D.length c vb 0 1 1 (ciN D) [.int .i64 x] W (by omega) h2 hr (by omega) (ciN_len D) rfl (fun q=>by cases q) (fun a e j v hv=>by cases e;rw [Addr.add_lit];exact hcs j v hv) hvs h1v).mono ?_;rintro e w' ⟨rfl,rfl⟩;exact in_grow hD x _ _ rfl (grownCap_ge _ _ _ _) (grownCap_le_maxLen _ _ _ _ (by omega))
      · refine (Any2.slices_Insert_int_end_room laysIns db off D.length c vb 0 1 1 [.int .i64 x] W (by omega) hr hcc rfl (fun j hj=>by rw [show off+D.length+j=off+(D.length+j) by omega];exact h5 _ (by omega)) (fun j _=>h6 _) hvs h1v).mono ?_;rintro e w' ⟨rfl,rfl⟩;have hk:Kx db W (W.setCells db (off+D.length) [.int .i64 x]):=kx_setCells _ _ _ _ _ ⟨rfl,rfl,Nat.le_refl _,fun _ _ _=>rfl⟩;refine ⟨_,db,rfl,.inr ⟨off,c,by rw [put_len2 hi],by rw [put_len2 hi];exact hr,h3,fun j y hy=>?_,fun j hj=>World.isSome_setCells _ _ _ _ _ (h5 j hj),fun j=>by rw [World.frozen?_setCells];exact h6 j,by have:=hk.size;omega⟩,.inl ⟨rfl,hk,by intro q;cases q⟩⟩;rcases put_at hi hy with ⟨q,e⟩ | ⟨rfl,rfl⟩ | ⟨q,e⟩
        · rw [World.cell?_setCells_out _ _ _ _ _ (fun _ _=>.inl (by show off+j < off+D.length;omega))];exact h4 j y e
        · exact in_at (o := off + D.length) (j := 0) (fun k hk => by
              have:k=0:=by simpa using hk
              subst this;exact h5 _ (by omega)) rfl
        · have:=(List.getElem?_eq_some_iff.1 e).1;omega
theorem im_search {W : World} {db : Nat} {vd : Value} {D : List Nat} (h : Dul W db vd D) (hD : D.length ≤ 100000) (hs : D.Pairwise (· < ·)) (x : Nat) :
  Calls Tryz.prog 126 #[vd,.int .i64 x] W fun e w'=>∃ b,e = .returned (.tuple #[.int .i64 ((D.countP (· < x):Nat):Int),.bool b])∧Kb 0 W w':=by
 rcases h with ⟨rfl,rfl⟩ | ⟨off,c,rfl,h2,h3,h4,h5,h6,h7⟩
 ·refine (Any.slices_BinarySearch_int_empty laysSea none 0 (x:Int) W).mono ?_;rintro e w' ⟨rfl,rfl⟩;exact ⟨false,rfl,Kb.refl _ _⟩
 ·obtain ⟨Z,hZ⟩:∃ Z:List Int,Z=D.map (fun (y:Nat)=>(y:Int)):=⟨_,rfl⟩
  have hZl:Z.length=D.length:=by rw [hZ];simp
  have hcnt:((Z.take D.length).countP (· < (x:Int)):Nat)=D.countP (· < x):=by
   rw [List.take_of_length_le (by omega),hZ,List.countP_map]
   congr 1
   funext y
   simp
  refine (Any.slices_BinarySearch_int laysSea db off D.length c Z (x:Int) W (by omega) (by omega) (fun j hj=>?_) ?_).mono ?_
  ·have hj':j < D.length:=by omega
   have:=h4 j _ (List.getElem?_eq_getElem hj');rw [this,hZ];simp [List.getD_eq_getElem?_getD,hj']
  ·rw [List.take_of_length_le (by omega),hZ,List.pairwise_map];exact hs.imp (fun h=>by omega)
  ·rintro e w' ⟨rfl,q,rfl⟩;refine ⟨_,by rw [hcnt],Kb.drewN (Kb.refl _ _) q⟩
structure PX where
 w5:World
 P:Nat
 SB:Nat
 d:Pd
 v5:Value
 v6:Value
 v7:Value
 v8:Value
 A:Addr
 np:Nat
 ca:Nat
 q:Nat
def PsB (X:PX) (vd:Value) (W:World):Prop:=W.heap[X.P]? = some (.cells #[.string X.d.x,.int .i64 X.d.l,.int .i64 X.d.m,.bool X.d.r,.int .i64 X.d.g,X.v5,X.v6,X.v7,X.v8,.slice (some X.A) X.np X.ca,.int .i64 X.q,.slice (some ⟨X.SB,0,none⟩) X.d.n X.d.n,vd] 65 (0,0))
def AvP (X:PX) (db k:Nat):Prop:=k ≠ X.SB∧k ≠ X.P∧k ≠ db
structure PF (X:PX) (W:World):Prop where
 os:W.os=X.w5.os
 output:W.output=X.w5.output
 size:X.w5.heap.size≤W.heap.size
 block:∀ b,b < X.w5.heap.size→b ≠ X.SB→b ≠ X.P→W.heap[b]? = X.w5.heap[b]?
theorem PF.kb {X:PX} {W W':World} (h:PF X W) (k:Kb 0 W W'):PF X W':=⟨k.os.trans h.os,k.output.trans h.output,Nat.le_trans h.size k.size,fun b hb a c=>(k.block b zq (Nat.lt_of_lt_of_le hb h.size)).trans (h.block b hb a c)⟩
theorem PF.old {X:PX} {w W:World} (h:PF X W) (k:Kb 0 w X.w5) (h1:w.heap.size≤X.SB) (h2:w.heap.size≤X.P):Kb 0 w W :=
 ⟨h.os.trans k.os,h.output.trans k.output,Nat.le_trans k.size h.size,fun b _ hb=>(h.block b (Nat.lt_of_lt_of_le hb k.size) (by omega) (by omega)).trans (k.block b zq hb)⟩
theorem SC.to {av bv:Nat→Prop} {W W':World} {SB j:Nat} {m:Option Sv} (h:SC av W SB j m) (hc:∀ t,t < 3→W'.cell? ⟨SB,j*3+t,none⟩=W.cell? ⟨SB,j*3+t,none⟩) (k:∀ b,av b→b < W.heap.size→W'.heap[b]? = W.heap[b]?) (hab:∀ b,b < W.heap.size→av b→bv b):SC bv W' SB j m:=by
 cases m with
 | none=>exact ⟨(hc 0 (by omega)).trans h.1,by rw [hc 1 (by omega)];exact h.2.1,by rw [hc 2 (by omega)];exact h.2.2⟩
 | some s =>
  obtain ⟨h1,vt,vg,h2,h3,h4,h5⟩:=h;exact ⟨(hc 0 (by omega)).trans h1,vt,vg,(hc 1 (by omega)).trans h2,(hc 2 (by omega)).trans h3,((h4.imp (fun b hl hb=>(⟨hb,hab b hl hb⟩:av b∧bv b))).on (fun b hb hl=>k b hb.1 hl)).imp (fun b _ hb=>hb.2),((h5.imp (fun b hl hb=>(⟨hb,hab b hl hb⟩:av b∧bv b))).on (fun b hb hl=>k b hb.1 hl)).imp (fun b _ hb=>hb.2)⟩
structure PW (X:PX) (db:Nat) (M:Nat→Option Sv) (D:List Nat) (vd:Value) (W:World):Prop where
 pf:PF X W
 pc:PsB X vd W
 du:Dul W db vd D
 sz:∀ j,W.frozen? ⟨X.SB,j,none⟩=false
 st:∀ j,j < X.d.n→SC (AvP X db) W X.SB j (M j)
 ns:∀ j,j < X.d.n→M j=none→W.cell? ⟨X.SB,j*3+1,none⟩=some (.slice none 0 0)∧W.cell? ⟨X.SB,j*3+2,none⟩=some (.slice none 0 0)
 sl:X.SB < X.w5.heap.size
 pl:X.P < X.w5.heap.size
 ne:X.SB ≠ X.P
 dn:(db=X.P∧vd = .slice none 0 0)∨(X.w5.heap.size≤db∧db < W.heap.size)
theorem PW.kb {X:PX} {db:Nat} {M:Nat→Option Sv} {D:List Nat} {vd:Value} {W W':World} (h:PW X db M D vd W) (k:Kb 0 W W'):PW X db M D vd W':=by
 have hs:=h.pf.size;have h1:=h.sl;have h2:=h.pl;have ks:=k.size;have eb:∀ b,b < W.heap.size→W'.heap[b]? = W.heap[b]?:=fun b hb=>k.block b zq hb;refine ⟨h.pf.kb k,(eb X.P (by omega)).trans h.pc,h.du.on (eb db) ks,fun j=>(World.frozen?_of_block (eb X.SB (by omega))).trans (h.sz j),fun j hj=>(h.st j hj).to (fun t _=>World.cell?_of_block (eb X.SB (by omega))) (fun b _ hl=>eb b hl) (fun b _ hb=>hb),fun j hj hm=>⟨(World.cell?_of_block (eb X.SB (by omega))).trans (h.ns j hj hm).1,(World.cell?_of_block (eb X.SB (by omega))).trans (h.ns j hj hm).2⟩,h1,h2,h.ne,?_⟩;rcases h.dn with q | q
 ·exact .inl q
 ·exact .inr ⟨q.1,by omega⟩
theorem PW.new {X:PX} {db:Nat} {M:Nat→Option Sv} {D:List Nat} {vd:Value} {W:World} (h:PW X db M D vd W) {x:Nat} {vt vg:Value} {s:Sv} (hx:x < X.d.n) (r1:Rz (AvP X db) W vt s.1) (r2:Rg (AvP X db) W vg s.2):PW X db (upd M x s) D vd (set3 W X.SB x vt vg):=by
 have hne:=h.ne;have h1:=h.sl;have h2:=h.pl;have hdb:db ≠ X.SB:=by rcases h.dn with q | q <;> omega
 have eb:∀ b,b ≠ X.SB→(set3 W X.SB x vt vg).heap[b]? = W.heap[b]?:=fun b hb=>((Below.heap_setCell _ _ _ _ hb).trans (Below.heap_setCell _ _ _ _ hb)).trans (Below.heap_setCell _ _ _ _ hb);have es:(set3 W X.SB x vt vg).heap.size=W.heap.size:=by unfold set3;simp
 have hex:(∃ u,W.cell? ⟨X.SB,x*3,none⟩=some u)∧(∃ u,W.cell? ⟨X.SB,x*3+1,none⟩=some u)∧∃ u,W.cell? ⟨X.SB,x*3+2,none⟩=some u:=by
  have:=h.st x hx;cases hm:M x with
  | none=>rw [hm] at this;exact ⟨⟨_,this.1⟩,this.2⟩
  | some s' =>
   rw [hm] at this;obtain ⟨h1,vt',vg',h2,h3,_⟩:=this;exact ⟨⟨_,h1⟩,⟨_,h2⟩,⟨_,h3⟩⟩
 obtain ⟨⟨u0,e0⟩,⟨u1,e1⟩,⟨u2,e2⟩⟩:=hex;have far:∀ j,j ≠ x*3→j ≠ x*3+1→j ≠ x*3+2→(set3 W X.SB x vt vg).cell? ⟨X.SB,j,none⟩=W.cell? ⟨X.SB,j,none⟩:=fun j a b c=>by unfold set3;rw [set_ne _ _ _ _ _ c,set_ne _ _ _ _ _ b,set_ne _ _ _ _ _ a]
 refine ⟨⟨h.pf.os,h.pf.output,by rw [es];exact h.pf.size,fun b hb a c=>(eb b a).trans (h.pf.block b hb a c)⟩,(eb X.P (fun e=>hne e.symm)).trans h.pc,h.du.on (fun _=>eb db hdb) (by omega),fun j=>by unfold set3;rw [set_fz,set_fz,set_fz];exact h.sz j,fun j hj=>?_,fun j hj hm=>?_,h1,h2,hne,by rw [es];exact h.dn⟩
 rotate_left
 ·unfold upd at hm;by_cases e:j=x
  ·rw [if_pos e] at hm;cases hm
  ·rw [if_neg e] at hm;exact ⟨(far _ (by omega) (by omega) (by omega)).trans (h.ns j hj hm).1,(far _ (by omega) (by omega) (by omega)).trans (h.ns j hj hm).2⟩
 unfold upd;by_cases e:j=x
 ·subst e;rw [if_pos rfl];refine ⟨?_,vt,vg,?_,?_,r1.on (fun b hb _=>eb b hb.1),r2.on (fun b hb _=>eb b hb.1)⟩
  ·unfold set3;rw [set_ne _ _ _ _ _ (by omega),set_ne _ _ _ _ _ (by omega)];exact set_eq _ _ _ _ _ e0
  ·unfold set3;rw [set_ne _ _ _ _ _ (by omega)];exact set_eq _ _ _ _ _ (by rw [set_ne _ _ _ _ _ (by omega)];exact e1)
  ·unfold set3;exact set_eq _ _ _ _ _ (by rw [set_ne _ _ _ _ _ (by omega),set_ne _ _ _ _ _ (by omega)];exact e2)
 ·rw [if_neg e];exact (h.st j hj).to (fun t ht=>far _ (by omega) (by omega) (by omega)) (fun b hb _=>eb b hb.1) (fun b _ hb=>hb)
theorem PW.due {X:PX} {db db':Nat} {M:Nat→Option Sv} {D D':List Nat} {vd vd':Value} {W W1:World} (h:PW X db M D vd W) (hd:Dul W1 db' vd' D') (hk:(db'=db∧Kx db W W1∧vd ≠ .slice none 0 0)∨(db'=W.heap.size∧Kb 0 W W1)) (hdb:db' < W1.heap.size):PW X db' M D' vd' (W1.setCell ⟨X.P,12,none⟩ vd'):=by
 have hne:=h.ne;have h1:=h.sl;have h2:=h.pl;have hs:=h.pf.size
 have hdn:X.w5.heap.size≤db':=by
  rcases hk with ⟨rfl,_,q⟩ | ⟨rfl,_⟩
  ·rcases h.dn with z | z
   ·exact absurd z.2 q
   ·exact z.1
  ·exact hs
 have kos:W1.os=W.os∧W1.output=W.output∧W.heap.size≤W1.heap.size∧∀ b,b < W.heap.size→b ≠ db→W1.heap[b]? = W.heap[b]?:=by
  rcases hk with ⟨_,k,_⟩ | ⟨_,k⟩
  ·exact ⟨k.os,k.output,k.size,k.block⟩
  ·exact ⟨k.os,k.output,k.size,fun b hb _=>k.block b zq hb⟩
 obtain ⟨ko,ku,ks,kb⟩:=kos
 have bold:∀ b,b < X.w5.heap.size→b ≠ X.P→(W1.setCell ⟨X.P,12,none⟩ vd').heap[b]? = W.heap[b]?:=fun b hb hp=>(Below.heap_setCell _ _ _ _ hp).trans (by
  rcases hk with ⟨e,k,q⟩ | ⟨_,k⟩
  ·exact k.block b (by omega) (by omega)
  ·exact k.block b zq (by omega))
 have hP1:PsB X vd W1:=by
  rcases hk with ⟨e,k,q⟩ | ⟨_,k⟩
  ·exact (k.block X.P (by omega) (by omega)).trans h.pc
  ·exact (k.block X.P zq (by omega)).trans h.pc
 have es:(W1.setCell ⟨X.P,12,none⟩ vd').heap.size=W1.heap.size:=by simp
 refine ⟨⟨ko.trans h.pf.os,ku.trans h.pf.output,by rw [es];omega,fun b hb a c=>(bold b hb c).trans (h.pf.block b hb a c)⟩,heap_setCell_same W1 X.P 12 _ _ vd' hP1,hd.on (fun _=>Below.heap_setCell _ _ _ _ (by show db' ≠ X.P;omega)) (by omega),fun j=>(World.frozen?_of_block (bold X.SB h1 hne)).trans (h.sz j),fun j hj=>?_,fun j hj hm=>⟨(World.cell?_of_block (bold X.SB h1 hne)).trans (h.ns j hj hm).1,(World.cell?_of_block (bold X.SB h1 hne)).trans (h.ns j hj hm).2⟩,h1,h2,hne,.inr ⟨hdn,by rw [es];exact hdb⟩⟩;refine (h.st j hj).to (fun t _=>World.cell?_of_block (bold X.SB h1 hne)) (fun b hb hl=>(Below.heap_setCell _ _ _ _ hb.2.1).trans (kb b hl hb.2.2)) (fun b hl hb=>⟨hb.1,hb.2.1,?_⟩);rcases hk with ⟨e,_,_⟩ | ⟨e,_⟩
 ·rw [e];exact hb.2.2
 ·omega
structure KR (X:PX) (db db':Nat) (W W':World):Prop where
 size:W.heap.size≤W'.heap.size
 block:∀ b,AvP X db b→b < W.heap.size→W'.heap[b]? = W.heap[b]?
 db:db'=db∨W.heap.size≤db'
theorem KR.kb {X:PX} {db db':Nat} {W W' W2:World} (h:KR X db db' W W') (k:Kb 0 W' W2):KR X db db' W W2:=⟨Nat.le_trans h.size k.size,fun b a hb=>(k.block b zq (Nat.lt_of_lt_of_le hb h.size)).trans (h.block b a hb),h.db⟩
theorem KR.of {X:PX} {db:Nat} {W W':World} (k:Kb 0 W W'):KR X db db W W':=⟨k.size,fun b _ hb=>k.block b zq hb,.inl rfl⟩
theorem KR.av {X:PX} {db db':Nat} {W W':World} (h:KR X db db' W W') {b:Nat} (hb:b < W.heap.size) (a:AvP X db b):AvP X db' b:=by
 refine ⟨a.1,a.2.1,?_⟩;rcases h.db with e | e
 ·rw [e];exact a.2.2
 ·omega
theorem KR.trans {X:PX} {db db1 db2:Nat} {W W1 W2:World} (h:KR X db db1 W W1) (k:KR X db1 db2 W1 W2):KR X db db2 W W2:=by
 refine ⟨Nat.le_trans h.size k.size,fun b a hb=>(k.block b (h.av hb a) (Nat.lt_of_lt_of_le hb h.size)).trans (h.block b a hb),?_⟩;rcases k.db with e | e
 ·rw [e];exact h.db
 ·exact .inr (Nat.le_trans h.size e)
theorem Rz.kr {X:PX} {db db':Nat} {W W':World} {v:Value} {T:List Int} (h:Rz (AvP X db) W v T) (k:KR X db db' W W'):Rz (AvP X db') W' v T :=
 ((h.imp (fun b hl hb=>(⟨hb,k.av hl hb⟩:AvP X db b∧AvP X db' b))).on (fun b hb hl=>k.block b hb.1 hl)).imp (fun b _ hb=>hb.2)
theorem Rg.kr {X:PX} {db db':Nat} {W W':World} {v:Value} {G:List Gv} (h:Rg (AvP X db) W v G) (k:KR X db db' W W'):Rg (AvP X db') W' v G :=
 ((h.imp (fun b hl hb=>(⟨hb,k.av hl hb⟩:AvP X db b∧AvP X db' b))).on (fun b hb hl=>k.block b hb.1 hl)).imp (fun b _ hb=>hb.2)
def PG (X:PX) (W:World):Prop:=PF X W∧∃ vd,PsB X vd W
theorem PW.pg {X:PX} {db:Nat} {M:Nat→Option Sv} {D:List Nat} {vd:Value} {W:World} (h:PW X db M D vd W):PG X W:=⟨h.pf,vd,h.pc⟩
def RcA (X:PX) (db:Nat) (M:Nat→Option Sv) (D:List Nat) (i:Nat) (s:Sv) (w:World) (e:Ending) (w':World):Prop:=(e = .returned (.bool true)∧∃ db' vd' M' D',adv (.ok M D) (i,s) = .ok M' D'∧PW X db' M' D' vd' w'∧KR X db db' w w')∨(e = .returned (.bool false)∧adv (.ok M D) (i,s) = .bad 13 i∧PG X w')
theorem im_reach_some {X : PX} {db : Nat} {M : Nat → Option Sv} {D : List Nat} {vd : Value} (w : World) (h : PW X db M D vd w) {i : Nat} (hi : i < X.d.n) (hn : X.d.n ≤ 6000) {s s0 : Sv} {vt vg : Value} (r1 : Rz (AvP X db) w vt s.1) (r2 : Rg (AvP X db) w vg s.2) (hs : s.1.length ≤ 1000 ∧ s.2.length ≤ 1000) (hs0 : s0.1.length ≤ 1000 ∧ s0.2.length ≤ 1000) (hm : M i = some s0) :
  Calls Tryz.prog 76 #[.pointer (some ⟨X.P,0,none⟩),.int .i64 i,.agg #[.bool true,vt,vg]] w (RcA X db M D i s w):=by
 have hst:=h.st i hi;rw [hm] at hst;obtain ⟨q0,vt0,vg0,q1,q2,t1,t2⟩:=hst;have hP:w.heap[X.P]? = _:=h.pc;have c11:w.cell? ⟨X.P,11,none⟩=some (.slice (some ⟨X.SB,0,none⟩) X.d.n X.d.n):=cell_of hP rfl;have kA:=fun o=>kb_alloc 0 w o;have q0a:∀ o,(w.alloc o).cell? ⟨X.SB,i*3,none⟩=some (.bool true):=fun o=>(kA o).cell q0;have q1a:∀ o,(w.alloc o).cell? ⟨X.SB,i*3+1,none⟩=some vt0:=fun o=>(kA o).cell q1;have q2a:∀ o,(w.alloc o).cell? ⟨X.SB,i*3+2,none⟩=some vg0:=fun o=>(kA o).cell q2;have c11a:∀ o,(w.alloc o).cell? ⟨X.P,11,none⟩=some (.slice (some ⟨X.SB,0,none⟩) X.d.n X.d.n):=fun o=>(kA o).cell c11;have iI:(i:Int) < (X.d.n:Int):=by omega
 have nI:(X.d.n:Int)≤6000:=by omega
 have HEI:Hid (∀ W,Kb 0 w W→Calls Tryz.prog 124 #[vt0,vt] W fun e w'=>e = .returned (.bool (dc (s0.1=s.1)))∧Kb 0 W w'):=(fun W k=>im_eqi W (t1.kb k) (r1.kb k) ⟨hs0.1,hs.1⟩:∀ W,_)
 have HEG:Hid (∀ W,Kb 0 w W→Calls Tryz.prog 125 #[vg0,vg] W fun e w'=>e = .returned (.bool (dc (s0.2=s.2)))∧Kb 0 W w'):=(fun W k=>im_eqg W (t2.kb k) (r2.kb k) ⟨hs0.2,hs.2⟩:∀ W,_)
 have HYS:Hid (∀ W,Kb 0 w W→s0=s→RcA X db M D i s w (.returned (.bool true)) W):=(fun W k e=>.inl ⟨rfl,db,vd,M,D,by unfold adv;dsimp only;rw [hm];dsimp only;rw [if_pos e],h.kb k,KR.of k⟩:∀ W,_)
 have HNO:Hid (∀ W,Kb 0 w W→s0 ≠ s→RcA X db M D i s w (.returned (.bool false)) W):=(fun W k e=>.inr ⟨rfl,by unfold adv;dsimp only;rw [hm];dsimp only;rw [if_neg e],(h.kb k).pg⟩:∀ W,_)
 obtain ⟨w3,hw3⟩:∃ w3,w3=(w.alloc (.cells #[.bool true,vt,vg] 68)).alloc (.cells #[.bool true,vt0,vg0] 68):=⟨_,rfl⟩
 obtain ⟨b0,b1,bs,k3⟩:=two_new' w _ _ _ _ w3 hw3;have HW3:Hid (w3=(w.alloc (.cells #[.bool true,vt,vg] 68)).alloc (.cells #[.bool true,vt0,vg0] 68)):=hw3;have HB:Hid (∀ W,Kb 0 w3 W→W.cell? ⟨w.heap.size,2,none⟩=some vg∧W.cell? ⟨w.heap.size+1,2,none⟩=some vg0∧Kb 0 w W):=(fun W k=>⟨k.cell (cell_of b0 rfl),k.cell (cell_of b1 rfl),k3.trans k⟩:∀ W,_)
 have e01:w3.cell? ⟨w.heap.size,1,none⟩=some vt:=cell_of b0 rfl;have e10:w3.cell? ⟨w.heap.size+1,0,none⟩=some (.bool true):=cell_of b1 rfl;have e11:w3.cell? ⟨w.heap.size+1,1,none⟩=some vt0:=cell_of b1 rfl;have HK3:Hid (Kb 0 w w3):=k3;obtain ⟨p1,z1,rfl,-,-⟩:=r1;obtain ⟨p2,z2,rfl,-,-⟩:=r2;obtain ⟨p3,z3,rfl,-,-⟩:=t1;obtain ⟨p4,z4,rfl,-,-⟩:=t2;clear h hm hi hn hs hs0 hP kA hw3 b0 b1 bs k3;go_enter Tryz.func76,Tryz.ntmps76;go_upto_region 2 with fail;rw [← (uh HW3)];clear HW3 q0 q1 q2 c11 q0a q1a q2a c11a;go_wp2_with fail;refine ((uh HEI) w3 HK3).mono ?_;rintro e w4 ⟨rfl,k4⟩;obtain ⟨f02,f12,kw4⟩:=(uh HB) w4 k4;by_cases h1:s0.1=s.1
 ·rw [dc_t h1];have HG4:=(uh HEG) w4 kw4;by_cases h2:s0.2=s.2
  ·rw [dc_t h2] at HG4;have HZ:Hid (∀ W,Kb 0 w W→RcA X db M D i s w (.returned (.bool true)) W):=(fun W k=>(uh HYS) W k (Prod.ext h1 h2):∀ W,_)
   have HK4:Hid (Kb 0 w w4):=kw4;clear HEI HEG HYS HNO HB HK3 h1 h2 kw4 k4 e01 e10 e11;go_wp2_with fail;refine HG4.mono ?_;rintro e w5 ⟨rfl,k5⟩;have HZ5:=(uh HZ) w5 ((uh HK4).trans k5);clear HZ HK4 k5 HG4;go_wp2_with fail;go_ret;exact HZ5
  ·rw [dc_f h2] at HG4;have HZ:Hid (∀ W,Kb 0 w W→RcA X db M D i s w (.returned (.bool false)) W):=(fun W k=>(uh HNO) W k (fun e=>h2 (by rw [e])):∀ W,_)
   have HK4:Hid (Kb 0 w w4):=kw4;clear HEI HEG HYS HNO HB HK3 h1 h2 kw4 k4 e01 e10 e11;go_wp2_with fail;refine HG4.mono ?_;rintro e w5 ⟨rfl,k5⟩;have HZ5:=(uh HZ) w5 ((uh HK4).trans k5);clear HZ HK4 k5 HG4;go_wp2_with fail;go_ret;exact HZ5
 ·rw [dc_f h1];have HZ4:=(uh HNO) w4 kw4 (fun e=>h1 (by rw [e]));clear HEI HEG HYS HNO HB HK3 h1 kw4 k4 e01 e10 e11;go_wp2_with fail;go_ret;exact HZ4
