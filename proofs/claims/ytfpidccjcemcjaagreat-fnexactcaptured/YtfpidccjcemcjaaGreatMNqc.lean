import Derived.Test.YtfpidccjcemcjaaGreatMZsq
import Derived.Test.YtfpidccjcemcjaaGreatMNqb
import Derived.Test.YtfpidccjcemcjaaGreatMNpf
set_option maxRecDepth 100000
set_option maxHeartbeats 16000000
namespace Go.Proofs.YtfpidccjcemcjaaGreat.Fo
open Go.ChangeShapes Go.WideShapes Go.ChangeAt Go.RowKit
set_option linter.unusedVariables false
set_option maxRecDepth 100000
theorem im_refers0 {B nf ca t S o b0 nn cn qk ck : Nat} {pf pv pu pr pn pk : Option Addr} {cv cu cr : Nat} {d : Fd} {a : Option Addr} {b : Bool} {l : List Vs} {L : List Int} {v m : Value} (w : World) (hf : Fok d) (ht : t < d.n) (hb : w.cell? ⟨B, 0, none⟩ = some (.slice pf nf ca)) (hB : B < b0) (hr : RowB 0 w (.slice pr (d.N t).p cr) (d.N t).p (fun i => .int .i64 ((d.N t).R i))) (hrb : 0 < (d.N t).p → ∃ a : Addr, pr = some a ∧ a.block < b0) (hs : Sco w (.pointer a) l) (hl : ∀ x, inS x l ↔ SS d.N d.n d.m x t) (hz : Zt S o L v m w) (hL : ∀ x, x ∈ L ↔ DS d t 0 x) (hlen : L.length ≤ 9000000000) (hob : Ob b0 v m) (hS : b0 ≤ S) (hnf : nf ≤ 1048576) (hk : Dcn d.N t) :
  Calls Tryz.prog 87 #[.pointer (some ⟨B,0,none⟩),.agg #[.string d.x,.int .i64 d.l,.int .i64 d.m,.bool d.r,.slice pv d.p cv,.slice pu d.u cu,.slice pn nn cn],.agg #[.int .i64 (d.N t).a.k,.int .i64 (d.N t).a.l,.int .i64 (d.N t).a.o,.int .i64 (d.N t).a.m,.float .f64 (d.N t).a.g,.string (d.N t).a.x,.slice pr (d.N t).p cr,.slice pk qk ck],.agg #[.pointer a,.bool b],.pointer (some ⟨S,o,none⟩)] w fun e w'=>e = .returned (.bool (dc (R6 d nf t)))∧∃ v' m',Ks S o v m v' m' w w'∧(R6 d nf t→∃ L',Zt S o L' v' m' w'∧(∀ x,x ∈ L'↔DS d (t+1) 0 x)∧L'.length≤L.length+(d.N t).p):=by
 have hiff:R6 d nf t↔∀ j,j < (d.N t).p→0≤(d.N t).R j∧(d.N t).R j < (d.p:Int)∧¬ DS d t j ((d.N t).R j):=by
  unfold R6
  constructor
  ·intro h;exact h.2.2.2 hk
  ·intro h
   exact ⟨fun e=>absurd e hk.2.1,fun e=>absurd e hk.2.2,fun e=>absurd e hk.1,fun _=>h⟩
 have hpp:(d.N t).p≤1048576:=hf.hp t ht
 have hpI:((d.N t).p:Int)≤1048576:=by omega
 obtain ⟨R,hR⟩:∃ R,R=dc (R6 d nf t):=⟨_,rfl⟩
 have HR:Hid (R=dc (R6 d nf t)):=hR
 obtain ⟨w3,hw3⟩:∃ w3,w3=(((w.alloc (.cells #[.string d.x,.int .i64 d.l,.int .i64 d.m,.bool d.r,.slice pv d.p cv,.slice pu d.u cu,.slice pn nn cn] 48)).alloc (.cells #[.int .i64 (d.N t).a.k,.int .i64 (d.N t).a.l,.int .i64 (d.N t).a.o,.int .i64 (d.N t).a.m,.float .f64 (d.N t).a.g,.string (d.N t).a.x,.slice pr (d.N t).p cr,.slice pk qk ck] 59)).alloc (.cells #[.pointer a,.bool b] 124)):=⟨_,rfl⟩
 obtain ⟨q0,q1,q2,z3,k3⟩:=three_new w _ _ _ _ _ _ w3 hw3
 have hSl:S < w.heap.size:=lt_of_cell' hz.c0
 have hvl:∀ k,v.ownBlock=some k→k < w.heap.size:=fun k e=>(hz.row.lt k e).2
 have hml:∀ k,m = .map (some k)→k < w.heap.size:=fun k e=>by
  rcases hz.mp with ⟨_,q⟩ | ⟨M,e1,hM⟩
  ·rw [q] at e;cases e
  ·obtain ⟨es,clock,hb',_⟩:=hM
   rw [e1] at e
   have:M=k:=by simpa using e
   subst this;exact lt_of_obj hb'
 have h0:∃ L2 v2 m2,Zt S o L2 v2 m2 w3∧(∀ x,x ∈ L2↔DS d t 0 x)∧L2.length≤L.length+0∧Ob b0 v2 m2∧Ks S o v m v2 m2 w w3∧Bxs w d t pv pu pr cv cu cr a w3∧(∀ k,w.heap.size≤k→k < w.heap.size+3→v2.ownBlock ≠ some k∧m2 ≠ .map (some k))∧w.heap.size+3≤w3.heap.size:=⟨L,v,m,hz.on k3,hL,by omega,hob,Ks.of_kb k3 hSl,⟨cell_of q0 rfl,cell_of q0 rfl,cell_of q1 rfl,cell_of q1 rfl,cell_of q2 rfl⟩,fun k h1 h2=>⟨fun e=>by have:=hvl k e;omega,fun e=>by have:=hml k e;omega⟩,by omega⟩
 have H0:Hid (∃ L2 v2 m2,Zt S o L2 v2 m2 w3∧(∀ x,x ∈ L2↔DS d t 0 x)∧L2.length≤L.length+0∧Ob b0 v2 m2∧Ks S o v m v2 m2 w w3∧Bxs w d t pv pu pr cv cu cr a w3∧(∀ k,w.heap.size≤k→k < w.heap.size+3→v2.ownBlock ≠ some k∧m2 ≠ .map (some k))∧w.heap.size+3≤w3.heap.size):=h0
 have HI:Hid (Ob b0 v m∧(R6 d nf t↔∀ j,j < (d.N t).p→0≤(d.N t).R j∧(d.N t).R j < (d.p:Int)∧¬ DS d t j ((d.N t).R j))∧Dcn d.N t∧L.length≤9000000000∧b0≤S∧S < w.heap.size∧b0≤w.heap.size∧(d.N t).p≤1048576):=(⟨hob,hiff,hk,hlen,hS,hSl,by omega,hpp⟩:_∧_)
 rw [← hR]
 obtain ⟨pa',cc',hpe,hr2⟩:=hr
 obtain ⟨ep,-,ec⟩:pr=pa'∧(d.N t).p=(d.N t).p∧cr=cc':=by simpa using hpe
 subst ep ec
 have HRW:Hid ((0 < (d.N t).p→∃ a:Addr,pr=some a∧(d.N t).p≤cr∧0≤a.block∧∀ i,i < (d.N t).p→w.cell? (a.add i)=some (.int .i64 ((d.N t).R i)))∧(0 < (d.N t).p→∃ a:Addr,pr=some a∧a.block < b0)):=(⟨hr2,hrb⟩:_∧_)
 have HW3:Hid (w3=(((w.alloc (.cells #[.string d.x,.int .i64 d.l,.int .i64 d.m,.bool d.r,.slice pv d.p cv,.slice pu d.u cu,.slice pn nn cn] 48)).alloc (.cells #[.int .i64 (d.N t).a.k,.int .i64 (d.N t).a.l,.int .i64 (d.N t).a.o,.int .i64 (d.N t).a.m,.float .f64 (d.N t).a.g,.string (d.N t).a.x,.slice pr (d.N t).p cr,.slice pk qk ck] 59)).alloc (.cells #[.pointer a,.bool b] 124))):=hw3
 have g27:((d.N t).a.k == 27)=false:=by simp;exact hk.2.1
 have g36:((d.N t).a.k == 36)=false:=by simp;exact hk.2.2
 have g26:((d.N t).a.k == 26)=false:=by simp;exact hk.1
 have huI:(d.p:Int)≤200:=by have:=hf.p2;omega
 have c6:w3.cell? ⟨w.heap.size+1,6,none⟩=some (.slice pr (d.N t).p cr):=cell_of q1 rfl
 clear hw3 q0 q1 q2 z3 k3 h0 hiff hr2 hpe hR hf ht hb hB hrb hs hl hz hL hlen hob hS hSl hk hnf hvl hml
 go_enter Tryz.func87,Tryz.ntmps87
 go_wp2_with fail
 rw [← (uh HW3)]
 clear HW3 c6
 go_loopw [19] (fun s19 wr=>∃ j:Nat,s19 = .int .i64 (j:Int)∧j≤(d.N t).p∧Hid ((∃ L2 v2 m2,Zt S o L2 v2 m2 wr∧(∀ x,x ∈ L2↔DS d t j x)∧L2.length≤L.length+j∧Ob b0 v2 m2∧Ks S o v m v2 m2 w wr∧Bxs w d t pv pu pr cv cu cr a wr∧(∀ k,w.heap.size≤k→k < w.heap.size+3→v2.ownBlock ≠ some k∧m2 ≠ .map (some k))∧w.heap.size+3≤wr.heap.size)∧∀ i,i < j→0≤(d.N t).R i∧(d.N t).R i < (d.p:Int)∧¬ DS d t i ((d.N t).R i))) (fun s19 _=>(d.N t).p - (intOf s19).toNat)
 case atStart=>exact ⟨0,rfl,Nat.zero_le _,(⟨H0,fun j hj=>by omega⟩:_∧_)⟩
 case round =>
  clear H0
  obtain ⟨j,rfl,hj,HJ⟩:=hrel
  obtain ⟨⟨L2,v2,m2,hz2,hL2,hln2,hob2,hks,hbx,hne,hsz⟩,hall⟩:=(uh HJ)
  obtain ⟨hob0,hiff,hdc,hlen,hS,hSl,hbw,hp4⟩:=(uh HI)
  have hkd:=hks.kd hob0 hS hbw
  rcases Nat.lt_or_ge j (d.N t).p with hlt | hge
  case inr =>
   have ej:j=(d.N t).p:=by omega
   subst ej
   have hT:R=true:=(uh HR).trans (dc_t (hiff.2 hall))
   subst hT
   have HX:Hid (∃ v' m',Ks S o v m v' m' w wr∧(R6 d nf t→∃ L',Zt S o L' v' m' wr∧(∀ x,x ∈ L'↔DS d (t+1) 0 x)∧L'.length≤L.length+(d.N t).p)):=(⟨v2,m2,hks,fun _=>⟨L2,hz2,fun x=>(hL2 x).trans (ds_next hdc).symm,hln2⟩⟩:∃ v' m',Ks S o v m v' m' w wr∧(R6 d nf t→∃ L',Zt S o L' v' m' wr∧(∀ x,x ∈ L'↔DS d (t+1) 0 x)∧L'.length≤L.length+(d.N t).p))
   clear HR HI HRW HJ hj hge hz2 hL2 hln2 hob2 hkd hks hob0 hbx hne hsz hall hiff hdc hlen hS hSl hbw hp4
   go_wp2_with fail
   go_ret
   exact ⟨rfl,HX⟩
  have hjI:(j:Int) < ((d.N t).p:Int):=by omega
  obtain ⟨ra,rfl,-,-,hra⟩:=(uh HRW).1 (by omega)
  obtain ⟨ra',e',hra'⟩:=(uh HRW).2 (by omega)
  obtain rfl:ra=ra':=by simpa using e'
  have qr:wr.cell? (ra.add j)=some (.int .i64 ((d.N t).R j)):=hkd.cell (by rw [add_block];exact hra') (hra j hlt)
  obtain ⟨c4,c5,c0,c6,cs⟩:=hbx
  have HAD:=im_add ((d.N t).R j) wr hz2 (by omega)
  have HAFT:Hid (∀ w' v' m',Zt S o (addL L2 ((d.N t).R j)) v' m' w'→Ks S o v2 m2 v' m' wr w'→Ks S o v m v' m' w w'∧Bxs w d t pv pu (some ra) cv cu cr a w'∧(∃ L2 v2 m2,Zt S o L2 v2 m2 w'∧(∀ x,x ∈ L2↔DS d t (j+1) x)∧L2.length≤L.length+(j+1)∧Ob b0 v2 m2∧Ks S o v m v2 m2 w w'∧Bxs w d t pv pu (some ra) cv cu cr a w'∧(∀ k,w.heap.size≤k→k < w.heap.size+3→v2.ownBlock ≠ some k∧m2 ≠ .map (some k))∧w.heap.size+3≤w'.heap.size)):=(fun w' v' m' h1 h2=>by
   have kp:∀ k,w.heap.size≤k→k < w.heap.size+3→w'.heap[k]? = wr.heap[k]?:=fun k h3 h4=>h2.block k (by omega) (by omega) (hne k h3 h4).1 (hne k h3 h4).2
   have hbx2:Bxs w d t pv pu (some ra) cv cu cr a w':=⟨(World.cell?_of_block (kp _ (by show w.heap.size≤w.heap.size;omega) (by show w.heap.size < _;omega))).trans c4,(World.cell?_of_block (kp _ (by show w.heap.size≤w.heap.size;omega) (by show w.heap.size < _;omega))).trans c5,(World.cell?_of_block (kp _ (by show w.heap.size≤w.heap.size+1;omega) (by show w.heap.size+1 < _;omega))).trans c0,(World.cell?_of_block (kp _ (by show w.heap.size≤w.heap.size+1;omega) (by show w.heap.size+1 < _;omega))).trans c6,(World.cell?_of_block (kp _ (by show w.heap.size≤w.heap.size+1+1;omega) (by show w.heap.size+1+1 < _;omega))).trans cs⟩
   refine ⟨hks.trans h2,hbx2,_,v',m',h1,fun x=>?_,?_,h2.ob hob2 (by omega),hks.trans h2,hbx2,fun k h3 h4=>⟨fun e=>?_,fun e=>?_⟩,by have:=h2.size;omega⟩
   ·rw [mem_addL,hL2 x,ds_step hdc]
   ·have:=len_addL (L:=L2) (x:=(d.N t).R j);omega
   ·rcases h2.hv k e with g | g
    ·exact (hne k h3 h4).1 g
    ·omega
   ·rcases h2.hm k e with g | g
    ·exact (hne k h3 h4).2 g
    ·omega:∀ w' v' m',_)
  have hmem:(d.N t).R j ∈ L2↔DS d t j ((d.N t).R j):=hL2 _
  have HF:Hid (¬ (0≤(d.N t).R j∧(d.N t).R j < (d.p:Int)∧¬ DS d t j ((d.N t).R j))→R=false∧¬ R6 d nf t):=(fun g=>⟨(uh HR).trans (dc_f (fun h=>g (hiff.1 h j hlt))),fun h=>g (hiff.1 h j hlt)⟩:_→_)
  have HG:Hid (0≤(d.N t).R j∧(d.N t).R j < (d.p:Int)∧¬ DS d t j ((d.N t).R j)→∀ i,i < j+1→0≤(d.N t).R i∧(d.N t).R i < (d.p:Int)∧¬ DS d t i ((d.N t).R i)):=(fun g i hi=>by
   by_cases e:i=j
   ·rw [e];exact g
   ·exact hall i (by omega):_→_)
  generalize hkk:(d.N t).a.k=kk at *
  clear HR HI HRW HJ hra hj hz2 hL2 hln2 hob2 hkd hks hob0 hne hsz hall hiff hdc hlen hS hSl hbw hp4 cs c5 hkk hra' e'
  generalize hx:(d.N t).R j=x at *
  by_cases hd:DS d t j x
  case pos =>
   rw [dc_f (fun g=>g (hmem.2 hd))] at HAD
   obtain ⟨rfl,hn6⟩:=(uh HF) (fun g=>g.2.2 hd)
   have HN6:Hid (¬ R6 d nf t):=hn6
   clear HF HG hd hmem hn6 hx
   rcases Int.lt_or_le x 0 with h0 | h0
   ·have g0:¬ (0:Int)≤x:=by omega
    go_wp2_with fail
    refine HAD.mono ?_
    rintro e w1 ⟨p1,rfl,v',m',h1,h2⟩
    obtain ⟨h3,⟨c4',-,-,-,-⟩,-⟩:=(uh HAFT) w1 v' m' h1 h2
    have HX:Hid (∃ v' m',Ks S o v m v' m' w w1∧(R6 d nf t→∃ L',Zt S o L' v' m' w1∧(∀ x,x ∈ L'↔DS d (t+1) 0 x)∧L'.length≤L.length+(d.N t).p)):=(⟨v',m',h3,fun g=>absurd g HN6⟩:∃ v' m',Ks S o v m v' m' w w1∧(R6 d nf t→∃ L',Zt S o L' v' m' w1∧(∀ x,x ∈ L'↔DS d (t+1) 0 x)∧L'.length≤L.length+(d.N t).p))
    clear h1 h2 h3 HAFT c4 c0 c6 qr HAD
    go_wp2_with fail
    all_goals (go_ret;exact ⟨rfl,HX⟩)
   ·rcases Int.lt_or_le x (d.p:Int) with h1' | h1'
    ·go_wp2_with fail
     refine HAD.mono ?_
     rintro e w1 ⟨p1,rfl,v',m',h1,h2⟩
     obtain ⟨h3,⟨c4',-,-,-,-⟩,-⟩:=(uh HAFT) w1 v' m' h1 h2
     have HX:Hid (∃ v' m',Ks S o v m v' m' w w1∧(R6 d nf t→∃ L',Zt S o L' v' m' w1∧(∀ x,x ∈ L'↔DS d (t+1) 0 x)∧L'.length≤L.length+(d.N t).p)):=(⟨v',m',h3,fun g=>absurd g HN6⟩:∃ v' m',Ks S o v m v' m' w w1∧(R6 d nf t→∃ L',Zt S o L' v' m' w1∧(∀ x,x ∈ L'↔DS d (t+1) 0 x)∧L'.length≤L.length+(d.N t).p))
     clear h1 h2 h3 HAFT c4 c0 c6 qr HAD
     go_wp2_with fail
     all_goals (go_ret;exact ⟨rfl,HX⟩)
    ·have g0:¬ x < (d.p:Int):=by omega
     go_wp2_with fail
     refine HAD.mono ?_
     rintro e w1 ⟨p1,rfl,v',m',h1,h2⟩
     obtain ⟨h3,⟨c4',-,-,-,-⟩,-⟩:=(uh HAFT) w1 v' m' h1 h2
     have HX:Hid (∃ v' m',Ks S o v m v' m' w w1∧(R6 d nf t→∃ L',Zt S o L' v' m' w1∧(∀ x,x ∈ L'↔DS d (t+1) 0 x)∧L'.length≤L.length+(d.N t).p)):=(⟨v',m',h3,fun g=>absurd g HN6⟩:∃ v' m',Ks S o v m v' m' w w1∧(R6 d nf t→∃ L',Zt S o L' v' m' w1∧(∀ x,x ∈ L'↔DS d (t+1) 0 x)∧L'.length≤L.length+(d.N t).p))
     clear h1 h2 h3 HAFT c4 c0 c6 qr HAD
     go_wp2_with fail
     all_goals (go_ret;exact ⟨rfl,HX⟩)
  case neg =>
   rw [dc_t (fun g=>hd (hmem.1 g))] at HAD
   rcases Int.lt_or_le x 0 with h0 | h0
   ·obtain ⟨rfl,hn6⟩:=(uh HF) (fun g=>by have:=g.1;omega)
    have HN6:Hid (¬ R6 d nf t):=hn6
    clear HF HG hd hmem hn6 hx
    have g0:¬ (0:Int)≤x:=by omega
    go_wp2_with fail
    refine HAD.mono ?_
    rintro e w1 ⟨p1,rfl,v',m',h1,h2⟩
    obtain ⟨h3,⟨c4',-,-,-,-⟩,-⟩:=(uh HAFT) w1 v' m' h1 h2
    have HX:Hid (∃ v' m',Ks S o v m v' m' w w1∧(R6 d nf t→∃ L',Zt S o L' v' m' w1∧(∀ x,x ∈ L'↔DS d (t+1) 0 x)∧L'.length≤L.length+(d.N t).p)):=(⟨v',m',h3,fun g=>absurd g HN6⟩:∃ v' m',Ks S o v m v' m' w w1∧(R6 d nf t→∃ L',Zt S o L' v' m' w1∧(∀ x,x ∈ L'↔DS d (t+1) 0 x)∧L'.length≤L.length+(d.N t).p))
    clear h1 h2 h3 HAFT c4 c0 c6 qr HAD
    go_wp2_with fail
    all_goals (go_ret;exact ⟨rfl,HX⟩)
   ·rcases Int.lt_or_le x (d.p:Int) with h1' | h1'
    ·have HN:Hid (∀ i,i < j+1→0≤(d.N t).R i∧(d.N t).R i < (d.p:Int)∧¬ DS d t i ((d.N t).R i)):=(uh HG) ⟨h0,h1',hd⟩
     clear HF HG hd hmem hx
     go_wp2_with fail
     refine HAD.mono ?_
     rintro e w1 ⟨p1,rfl,v',m',h1,h2⟩
     obtain ⟨h3,⟨c4',-,-,-,-⟩,h5⟩:=(uh HAFT) w1 v' m' h1 h2
     have HX:Hid ((∃ L2 v2 m2,Zt S o L2 v2 m2 w1∧(∀ x,x ∈ L2↔DS d t (j+1) x)∧L2.length≤L.length+(j+1)∧Ob b0 v2 m2∧Ks S o v m v2 m2 w w1∧Bxs w d t pv pu (some ra) cv cu cr a w1∧(∀ k,w.heap.size≤k→k < w.heap.size+3→v2.ownBlock ≠ some k∧m2 ≠ .map (some k))∧w.heap.size+3≤w1.heap.size)∧∀ i,i < j+1→0≤(d.N t).R i∧(d.N t).R i < (d.p:Int)∧¬ DS d t i ((d.N t).R i)):=(⟨h5,HN⟩:_∧_)
     clear h1 h2 h3 h5 HAFT c4 c0 c6 qr HAD HN
     go_wp2_with fail
     go_roundw
     case rel=>exact ⟨j+1,by go_num,by omega,HX⟩
     case measure=>simp [intOf];omega
    ·obtain ⟨rfl,hn6⟩:=(uh HF) (fun g=>by have:=g.2.1;omega)
     have HN6:Hid (¬ R6 d nf t):=hn6
     clear HF HG hd hmem hn6 hx
     have g0:¬ x < (d.p:Int):=by omega
     go_wp2_with fail
     refine HAD.mono ?_
     rintro e w1 ⟨p1,rfl,v',m',h1,h2⟩
     obtain ⟨h3,⟨c4',-,-,-,-⟩,-⟩:=(uh HAFT) w1 v' m' h1 h2
     have HX:Hid (∃ v' m',Ks S o v m v' m' w w1∧(R6 d nf t→∃ L',Zt S o L' v' m' w1∧(∀ x,x ∈ L'↔DS d (t+1) 0 x)∧L'.length≤L.length+(d.N t).p)):=(⟨v',m',h3,fun g=>absurd g HN6⟩:∃ v' m',Ks S o v m v' m' w w1∧(R6 d nf t→∃ L',Zt S o L' v' m' w1∧(∀ x,x ∈ L'↔DS d (t+1) 0 x)∧L'.length≤L.length+(d.N t).p))
     clear h1 h2 h3 HAFT c4 c0 c6 qr HAD
     go_wp2_with fail
     all_goals (go_ret;exact ⟨rfl,HX⟩)
theorem im_closes {A : Addr} {nf ca g B t nn cn : Nat} {pv pu pn : Option Addr} {cv cu : Nat} {d e : Fd} {a : Option Addr} {b : Bool} {l : List Vs} (w : World) (hg : g < nf) (hnf : nf ≤ 1048576) (hb : w.cell? ⟨B, 0, none⟩ = some (.slice (some A) nf ca)) (hfn : FnC 0 w (A.add (g * 7)) e) (hu : d.u ≤ 200) (he : e.u ≤ 200) (hs : Sco w (.pointer a) l) (hl : ∀ x, inS x l ↔ SS d.N d.n d.m x t) (hr : ∀ x, SS d.N d.n d.m x t → 0 ≤ x ∧ x < (d.p : Int)) :
  Calls Tryz.prog 88 #[.pointer (some ⟨B,0,none⟩),.int .i64 (g:Int),.agg #[.string d.x,.int .i64 d.l,.int .i64 d.m,.bool d.r,.slice pv d.p cv,.slice pu d.u cu,.slice pn nn cn],.agg #[.pointer a,.bool b]] w fun e' w'=>e' = .returned (.bool (dc (Cls d e t)))∧Kb 0 w w':=by
 have hiff:Cls d e t↔∀ j,j < e.u→((e.U j).1=true→SS d.N d.n d.m (e.U j).2 t)∧((e.U j).1=false→0≤(e.U j).2∧(e.U j).2 < (d.u:Int)):=by
  unfold Cls
  constructor
  ·intro h j hj;exact ⟨fun g=>((h j hj).1 g).2.2,(h j hj).2⟩
  ·intro h j hj;exact ⟨fun g=>⟨(hr _ ((h j hj).1 g)).1,(hr _ ((h j hj).1 g)).2,(h j hj).1 g⟩,(h j hj).2⟩
 obtain ⟨vv,vu,vn,⟨d0,d1,d2,d3,d4,d5,d6⟩,-,hvu,-⟩:=hfn
 obtain ⟨pe,ce,rfl,hru⟩:=hvu
 have hgI:(g:Int) < (nf:Int):=by omega
 have hnfI:(nf:Int)≤1048576:=by omega
 have heI:(e.u:Int)≤200:=by omega
 have huI:(d.u:Int)≤200:=by omega
 obtain ⟨R,hR⟩:∃ R,R=dc (Cls d e t):=⟨_,rfl⟩
 have HR:Hid (R=dc (Cls d e t)):=hR
 rw [← hR]
 obtain ⟨w2,hw2⟩:∃ w2,w2=((w.alloc (.cells #[.string d.x,.int .i64 d.l,.int .i64 d.m,.bool d.r,.slice pv d.p cv,.slice pu d.u cu,.slice pn nn cn] 48)).alloc (.cells #[.pointer a,.bool b] 124)):=⟨_,rfl⟩
 have k2:Kb 0 w w2:=by rw [hw2];exact kb_alloc2 _ _ _ _
 have q0:w2.heap[w.heap.size]? = some (.cells #[.string d.x,.int .i64 d.l,.int .i64 d.m,.bool d.r,.slice pv d.p cv,.slice pu d.u cu,.slice pn nn cn] 48 (0,0)):=by
  rw [hw2,(kb_alloc 0 _ _).block _ zq (by rw [World.size_alloc];omega)]
  exact alloc_new _ _ _
 have q1:w2.cell? ⟨w.heap.size+1,0,none⟩=some (.pointer a):=by
  have e:(w.alloc (.cells #[.string d.x,.int .i64 d.l,.int .i64 d.m,.bool d.r,.slice pv d.p cv,.slice pu d.u cu,.slice pn nn cn] 48)).heap.size=w.heap.size+1:=World.size_alloc _ _
  rw [hw2,← e]
  exact cell_of (alloc_new _ _ _) rfl
 have cb:=k2.cell hb
 have c5:=k2.cell d5
 have HB:Hid ((Cls d e t↔∀ j,j < e.u→((e.U j).1=true→SS d.N d.n d.m (e.U j).2 t)∧((e.U j).1=false→0≤(e.U j).2∧(e.U j).2 < (d.u:Int)))∧(0 < e.u→∃ a:Addr,pe=some a∧e.u≤ce∧0≤a.block∧∀ i,i < e.u→UpC 0 w (a.add (i*2)) (e.U i))∧Kb 0 w w2∧w2.cell? ⟨w.heap.size,5,none⟩=some (.slice pu d.u cu)∧w2.cell? ⟨w.heap.size+1,0,none⟩=some (.pointer a)∧Sco w (.pointer a) l∧∀ x,inS x l↔SS d.N d.n d.m x t):=(⟨hiff,hru,k2,cell_of q0 rfl,q1,hs,hl⟩:_∧_)
 have HW2:Hid (w2=((w.alloc (.cells #[.string d.x,.int .i64 d.l,.int .i64 d.m,.bool d.r,.slice pv d.p cv,.slice pu d.u cu,.slice pn nn cn] 48)).alloc (.cells #[.pointer a,.bool b] 124))):=hw2
 rw [hw2] at cb c5
 clear hw2 k2 q0 q1 hiff hru hs hl hr hR hb hg hnf hu he d0 d1 d2 d3 d4 d5 d6
 go_enter Tryz.func88,Tryz.ntmps88
 go_wp2_with fail
 rw [← (uh HW2)]
 clear HW2 cb c5
 go_loopw [21] (fun s21 wr=>∃ j:Nat,s21 = .int .i64 (j:Int)∧j≤e.u∧Hid (Kb 0 w2 wr∧∀ i,i < j→((e.U i).1=true→SS d.N d.n d.m (e.U i).2 t)∧((e.U i).1=false→0≤(e.U i).2∧(e.U i).2 < (d.u:Int)))) (fun s21 _=>e.u - (intOf s21).toNat)
 case atStart=>exact ⟨0,rfl,Nat.zero_le _,(⟨Kb.refl _ _,fun i hi=>by omega⟩:_∧_)⟩
 case round =>
  obtain ⟨j,rfl,hj,HJ⟩:=hrel
  obtain ⟨kw,hall⟩:=(uh HJ)
  obtain ⟨hiff,hru,k2,b5,b7,hs,hl⟩:=(uh HB)
  have kww:=k2.trans kw
  rcases Nat.lt_or_ge j e.u with hlt | hge
  case inr =>
   have ej:j=e.u:=by omega
   have hT:R=true:=(uh HR).trans (dc_t (hiff.2 (fun i hi=>hall i (by omega))))
   subst hT
   have HX:Hid (Kb 0 w wr):=kww
   have hjI:¬ (j:Int) < (e.u:Int):=by omega
   clear HJ kw hall hiff hru k2 b5 b7 hs hl kww HB HR hj hge ej
   go_wp2_with fail
   go_ret
   exact ⟨rfl,HX⟩
  have hjI:(j:Int) < (e.u:Int):=by omega
  obtain ⟨ra,rfl,-,-,hra⟩:=hru (by omega)
  obtain ⟨y0,y1⟩:=(hra j hlt).keep zq kww
  have b5a:∀ o,(wr.alloc o).cell? ⟨w.heap.size,5,none⟩=some (.slice pu d.u cu):=fun o=>(kw.trans (kb_alloc _ _ _)).cell b5
  have b7a:∀ o,(wr.alloc o).cell? ⟨w.heap.size+1,0,none⟩=some (.pointer a):=fun o=>(kw.trans (kb_alloc _ _ _)).cell b7
  have HH:∀ o,Calls Tryz.prog 102 #[.pointer a,.int .i64 (e.U j).2] (wr.alloc o) fun e' w'=>e' = .returned (.bool (dc (inS (e.U j).2 l)))∧w'=wr.alloc o:=fun o=>im_holds _ _ (hs.keep (kww.trans (kb_alloc _ _ _)))
  have hin:=hl (e.U j).2
  have HF:Hid (¬ (((e.U j).1=true→SS d.N d.n d.m (e.U j).2 t)∧((e.U j).1=false→0≤(e.U j).2∧(e.U j).2 < (d.u:Int)))→R=false):=(fun g=>(uh HR).trans (dc_f (fun h=>g (hiff.1 h j hlt))):_→_)
  have HG:Hid (((e.U j).1=true→SS d.N d.n d.m (e.U j).2 t)∧((e.U j).1=false→0≤(e.U j).2∧(e.U j).2 < (d.u:Int))→∀ i,i < j+1→((e.U i).1=true→SS d.N d.n d.m (e.U i).2 t)∧((e.U i).1=false→0≤(e.U i).2∧(e.U i).2 < (d.u:Int))):=(fun g i hi=>by
   by_cases e2:i=j
   ·rw [e2];exact g
   ·exact hall i (by omega):_→_)
  clear HJ hall hiff hru k2 b5 b7 hs hl HR HB hj hra
  generalize hx1:(e.U j).1=lo at *
  generalize hxx:(e.U j).2=x at *
  clear hx1
  cases lo with
  | true =>
   by_cases hs:SS d.N d.n d.m x t
   ·rcases Int.lt_or_le x 0 with h0 | h0
    ·skip
     have g0:¬ (0:Int)≤x:=by omega
     have HN:Hid (Kb 0 w2 (wr.alloc (.cells #[.bool true,.int .i64 x] 61))∧∀ i,i < j+1→((e.U i).1=true→SS d.N d.n d.m (e.U i).2 t)∧((e.U i).1=false→0≤(e.U i).2∧(e.U i).2 < (d.u:Int))):=(⟨kw.trans (kb_alloc _ _ _),(uh HG) ⟨fun _=>hs,fun _=>by contradiction⟩⟩:_∧_)
     rw [dc_t (hin.2 hs)] at HH
     clear HF HG hin kw kww hs hxx
     go_wp2_with fail
     all_goals
      refine (HH _).mono ?_
      rintro e w5 ⟨rfl,hw5⟩
      rw [hw5]
      clear hw5
      go_wp2_with fail
      go_roundw
      case rel=>exact ⟨j+1,by go_num,by omega,HN⟩
      case measure=>simp [intOf];omega
    ·rcases Int.lt_or_le x (d.u:Int) with h1 | h1
     ·skip
      have HN:Hid (Kb 0 w2 (wr.alloc (.cells #[.bool true,.int .i64 x] 61))∧∀ i,i < j+1→((e.U i).1=true→SS d.N d.n d.m (e.U i).2 t)∧((e.U i).1=false→0≤(e.U i).2∧(e.U i).2 < (d.u:Int))):=(⟨kw.trans (kb_alloc _ _ _),(uh HG) ⟨fun _=>hs,fun _=>by contradiction⟩⟩:_∧_)
      rw [dc_t (hin.2 hs)] at HH
      clear HF HG hin kw kww hs hxx
      go_wp2_with fail
      all_goals
       refine (HH _).mono ?_
       rintro e w5 ⟨rfl,hw5⟩
       rw [hw5]
       clear hw5
       go_wp2_with fail
       go_roundw
       case rel=>exact ⟨j+1,by go_num,by omega,HN⟩
       case measure=>simp [intOf];omega
     ·skip
      have g1:¬ x < (d.u:Int):=by omega
      have HN:Hid (Kb 0 w2 (wr.alloc (.cells #[.bool true,.int .i64 x] 61))∧∀ i,i < j+1→((e.U i).1=true→SS d.N d.n d.m (e.U i).2 t)∧((e.U i).1=false→0≤(e.U i).2∧(e.U i).2 < (d.u:Int))):=(⟨kw.trans (kb_alloc _ _ _),(uh HG) ⟨fun _=>hs,fun _=>by contradiction⟩⟩:_∧_)
      rw [dc_t (hin.2 hs)] at HH
      clear HF HG hin kw kww hs hxx
      go_wp2_with fail
      all_goals
       refine (HH _).mono ?_
       rintro e w5 ⟨rfl,hw5⟩
       rw [hw5]
       clear hw5
       go_wp2_with fail
       go_roundw
       case rel=>exact ⟨j+1,by go_num,by omega,HN⟩
       case measure=>simp [intOf];omega
   ·rcases Int.lt_or_le x 0 with h0 | h0
    ·skip
     have g0:¬ (0:Int)≤x:=by omega
     obtain rfl:=(uh HF) (fun g=>hs (g.1 rfl))
     have HN:Hid (Kb 0 w (wr.alloc (.cells #[.bool true,.int .i64 x] 61))):=kww.trans (kb_alloc _ _ _)
     rw [dc_f (fun g=>hs (hin.1 g))] at HH
     clear HF HG hin kw kww hs hxx
     go_wp2_with fail
     all_goals
      refine (HH _).mono ?_
      rintro e w5 ⟨rfl,hw5⟩
      rw [hw5]
      clear hw5
      go_wp2_with fail
      go_ret
      exact ⟨rfl,HN⟩
    ·rcases Int.lt_or_le x (d.u:Int) with h1 | h1
     ·skip
      obtain rfl:=(uh HF) (fun g=>hs (g.1 rfl))
      have HN:Hid (Kb 0 w (wr.alloc (.cells #[.bool true,.int .i64 x] 61))):=kww.trans (kb_alloc _ _ _)
      rw [dc_f (fun g=>hs (hin.1 g))] at HH
      clear HF HG hin kw kww hs hxx
      go_wp2_with fail
      all_goals
       refine (HH _).mono ?_
       rintro e w5 ⟨rfl,hw5⟩
       rw [hw5]
       clear hw5
       go_wp2_with fail
       go_ret
       exact ⟨rfl,HN⟩
     ·skip
      have g1:¬ x < (d.u:Int):=by omega
      obtain rfl:=(uh HF) (fun g=>hs (g.1 rfl))
      have HN:Hid (Kb 0 w (wr.alloc (.cells #[.bool true,.int .i64 x] 61))):=kww.trans (kb_alloc _ _ _)
      rw [dc_f (fun g=>hs (hin.1 g))] at HH
      clear HF HG hin kw kww hs hxx
      go_wp2_with fail
      all_goals
       refine (HH _).mono ?_
       rintro e w5 ⟨rfl,hw5⟩
       rw [hw5]
       clear hw5
       go_wp2_with fail
       go_ret
       exact ⟨rfl,HN⟩
  | false =>
   rcases Int.lt_or_le x 0 with h0 | h0
   ·skip
    have g0:¬ (0:Int)≤x:=by omega
    obtain rfl:=(uh HF) (fun g=>by have:=(g.2 rfl).1;omega)
    have HN:Hid (Kb 0 w (wr.alloc (.cells #[.bool false,.int .i64 x] 61))):=kww.trans (kb_alloc _ _ _)
    clear HF HG hin kw kww HH hxx
    go_wp2_with fail
    all_goals (go_ret;exact ⟨rfl,HN⟩)
   ·rcases Int.lt_or_le x (d.u:Int) with h1 | h1
    ·skip
     have HN:Hid (Kb 0 w2 (wr.alloc (.cells #[.bool false,.int .i64 x] 61))∧∀ i,i < j+1→((e.U i).1=true→SS d.N d.n d.m (e.U i).2 t)∧((e.U i).1=false→0≤(e.U i).2∧(e.U i).2 < (d.u:Int))):=(⟨kw.trans (kb_alloc _ _ _),(uh HG) ⟨fun _=>by contradiction,fun _=>⟨h0,h1⟩⟩⟩:_∧_)
     clear HF HG hin kw kww HH hxx
     go_wp2_with fail
     all_goals
      go_roundw
      case rel=>exact ⟨j+1,by go_num,by omega,HN⟩
      case measure=>simp [intOf];omega
    ·skip
     have g1:¬ x < (d.u:Int):=by omega
     obtain rfl:=(uh HF) (fun g=>by have:=(g.2 rfl).2;omega)
     have HN:Hid (Kb 0 w (wr.alloc (.cells #[.bool false,.int .i64 x] 61))):=kww.trans (kb_alloc _ _ _)
     clear HF HG hin kw kww HH hxx
     go_wp2_with fail
     all_goals (go_ret;exact ⟨rfl,HN⟩)
end Go.Proofs.YtfpidccjcemcjaaGreat.Fo
namespace Go.Proofs.YtfpidccjcemcjaaGreat.Fo
open Go.ChangeShapes Go.WideShapes Go.ChangeAt Go.RowKit Go.Shelf
set_option linter.unusedVariables false
set_option maxRecDepth 100000
attribute [local go_sem] Oper.semAt_some
theorem wpIn_rangeFunc_sc {α : Type} {P : Program} {n : Nat} {g : Operand} {ps : Array Tmp} {assign body : Code} {Q : Exit → Act → World → Prop} {a : Act} {w : World}
    (C:List α → Prop) (h1 : 1≤n) {gf:Nat} {lb:Array Value} (hg:a.eval g = .func (.func gf) #[] lb) (eg:∀ args w,(callFunc gf args).run P w = .ok (.enter gf args) w)
    {encs : α → Array Value} (hps:∀ x,(encs x).size=ps.size) (B:Nat) (hB:B < w.heap.size) (xs:List α) (E:World→Prop)
    (I:List α → World→Prop) (hI:OwnFrom w.heap.size I) (hIK:∀ s W W',I s W→Kx B W W'→I s W') (h0:I [] w)
    (hE:∀ W l o',w.heap.size≤l→E W→E (W.putObj l o'))
    (hiter:∀ (lp:Nat) (J:List α → World→Prop) (W:World),Below w.heap.size w W→(∀ pre W W',J pre W→Kx B W W'→J pre W')→(∀ pre W,J pre W→I pre W) →
      (∀ pre x W,J pre W→pre.length < xs.length→C (pre ++ [x])→YieldAt Fence.wide (n - 1 - 1) P lp (encs x) W fun e W'=>e = .returned (.bool true)∧J (pre ++ [x]) W'∧W'.heap[B]? = W.heap[B]?)→J [] W →
      CallsIn Fence.wide (n - 1) P gf (#[.func (.yield lp) #[] #[]] ++ lb) W fun en W'=>(∃ v,en = .returned v)∧J xs W'∧E W')
    (obj : α → Obj) (a₁ : α → Nat→Act)
    (hassign:∀ (l:Nat) (x : α) (W:World) (K:Act→World→Prop),K (a₁ x W.heap.size) (W.alloc (obj x)) →
      assign.wpIn (Fence.wide.inRound l) (n - 1 - 1) P (Exit.then K (fun _ _ _=>False)) { tmps:=(ps.zip (encs x)).foldl (fun t (p,v)=>t.setIfInBounds p v) a.tmps,defers:=[] } W)
    (hbody:∀ (l:Nat) (pre:List α) (x : α) (bx:Nat) (W:World),pre.length < xs.length→C (pre ++ [x])→I pre W→w.heap.size≤bx→W.heap[bx]? = some (obj x) →
      body.wpIn (Fence.wide.inRound l) (n - 1 - 1) P (bodyEnd w.heap.size B I (pre ++ [x]) W) (a₁ x bx) W)
    (hdone:∀ (D:Nat) (W:World),w.heap.size≤D→I xs W→E W→W.heap[D]? = some (.deferred (some []))→Q .normal { a with defers:={ target:=.collected D,args:=#[] } :: a.defers } W) :
    (Code.rangeFunc g ps assign body).wpIn Fence.wide n P Q a w:=by
  refine wpIn_rangeFunc ?_
  intro fn hfn
  rw [show Fence.wide.round=none from rfl]
  obtain ⟨rec,hrec⟩:∃ rec:LoopState→Option Code→Loop,rec=fun st pe=>{ state:=st,pending:=pe,fn,tmps:=a.tmps,params:=ps,assign,body,defers:=w.heap.size }:=⟨_,rfl⟩
  obtain ⟨W1,hW1⟩:∃ W1,(w.alloc (.deferred (some []))).alloc (.loop (rec .ready none))=W1:=⟨_,rfl⟩
  have hL1:W1.heap[w.heap.size+1]? = some (.loop (rec .ready none)):=by
    rw [← hW1];have:=World.alloc_heap_new (w.alloc (.deferred (some []))) (.loop (rec .ready none));rwa [World.size_alloc] at this
  have hK1:W1.heap[w.heap.size]? = some (.deferred (some [])):=by
    rw [← hW1];exact (Below.heap_alloc _ _ _ (by simp)).trans (World.alloc_heap_new w _)
  have hI1:I [] W1:=by rw [← hW1];exact hI.alloc _ (hI.alloc _ h0)
  have hb1:Below w.heap.size w W1:=by
    rw [← hW1];exact ((Below.refl _ w).alloc (Nat.le_refl _) _).alloc (by simp) _
  refine ⟨w.heap.size+1,[{ target:=.collected w.heap.size,args:=#[] }],W1,{ target:=.fn (.func gf) lb,args:=#[.func (.yield (w.heap.size+1)) #[] #[]] },W1,gf,
    #[.func (.yield (w.heap.size+1)) #[] #[]] ++ lb,W1,?_,?_,?_,?_,fun _=>h1,?_⟩
  · rw [← hW1,hrec];exact run_enterLoop_outer _ _ _ _ _
  · simp only [resolve,hg]
    simp [go_sem]
  · intro f' hf';trivial
  · simp [invoke,go_sem,eg]
  · refine (hiter (w.heap.size + 1)
      (fun pre W=>I pre W∧W.heap[w.heap.size+1]? = some (.loop (rec .ready none))∧W.heap[w.heap.size]? = some (.deferred (some [])))
      W1 hb1 ?_ (fun pre W h=>h.1) ?_ ⟨hI1,hL1,hK1⟩).mono ?_
    · rintro pre W W' ⟨hi,hl,hk⟩ hkb
      have l1:w.heap.size+1 < W.heap.size:=(Array.getElem?_eq_some_iff.1 hl).1
      exact ⟨hIK _ _ _ hi hkb,(hkb.block _ l1 (by omega)).trans hl,(hkb.block _ (by omega) (by omega)).trans hk⟩
    · rintro pre x W ⟨hi,hl,hk⟩ hlen hC
      have hlt:w.heap.size+1 < W.heap.size:=(Array.getElem?_eq_some_iff.1 hl).1
      have hy:=run_yield (P:=P) (args:=encs x) hl (by rw [hrec];exact hps x)
      rw [hrec] at hy
      have hlA:(W.alloc (obj x)).heap[w.heap.size+1]? = some (.loop (rec .ready none)):=(Below.heap_alloc _ _ _ hlt).trans hl
      have hkA:(W.alloc (obj x)).heap[w.heap.size]? = some (.deferred (some [])):=(Below.heap_alloc _ _ _ (by omega)).trans hk
      refine ⟨fn,_,assign,body,hy,roundIn_of_wpIn hfn (hassign _ x W _ ⟨_,run_beginRound hlA (by rw [hrec]),?_⟩)⟩
      obtain ⟨W2,hW2⟩:∃ W2,(W.alloc (obj x)).putObj (w.heap.size+1) (.loop { rec .ready none with state:=.busy })=W2:=⟨_,rfl⟩
      rw [hW2]
      have hl2:W2.heap[w.heap.size+1]? = some (.loop { rec .ready none with state:=.busy }):=by rw [← hW2];exact World.putObj_heap_same (by simp;omega)
      have hk2:W2.heap[w.heap.size]? = some (.deferred (some [])):=by rw [← hW2];exact (World.putObj_heap_other (by omega)).trans hkA
      have hi2:I pre W2:=by rw [← hW2];exact hI.putObj _ (hI.alloc _ hi) (by omega) hlA rfl
      have hx2:W2.heap[W.heap.size]? = some (obj x):=by rw [← hW2];exact (World.putObj_heap_other (by omega)).trans (World.alloc_heap_new W _)
      have hB2:W2.heap[B]? = W.heap[B]?:=by rw [← hW2];exact (World.putObj_heap_other (by omega)).trans (Below.heap_alloc _ _ _ (by omega))
      refine wpIn_mono (hbody _ pre x W.heap.size W2 hlen hC hi2 (by omega) hx2) ?_
      rintro e a3 W3 hp
      cases e with
      | normal =>
        obtain ⟨hk3,hi3,hB3⟩:=hp
        have hl3:=hk3.same _ _ (by omega) hl2 rfl
        have hr:=run_endRound (P:=P) none hl3
        rw [hrec] at hr hl3 ⊢
        refine ⟨_,_,hr,rfl,⟨hI.putObj _ hi3 (by omega) hl3 rfl,World.putObj_heap_same (Array.getElem?_eq_some_iff.1 hl3).1,(World.putObj_heap_other (by omega)).trans (hk3.same _ _ (by omega) hk2 rfl)⟩,?_⟩
        exact (World.putObj_heap_other (by omega)).trans (hB3.trans hB2)
      | ret=>exact hp.elim
      | exit id=>exact hp.elim
      | goto t=>exact hp.elim
      | panic ch=>exact hp.elim
      | outgrown=>exact hp.elim
    · rintro e W2 ⟨⟨v,rfl⟩,⟨hi,hl,hk⟩,hE2⟩
      exact ⟨none,_,by have:=run_endLoop (P:=P) hl (by rw [hrec];simp);rw [hrec] at this;exact this,hdone _ _ (Nat.le_refl _) (hI.putObj _ hi (by omega) hl rfl) (hE _ _ _ (by omega) hE2) ((World.putObj_heap_other (by omega)).trans hk)⟩
theorem bwn_in (n : Nat) (hn : 1 ≤ n) (l Bs : Nat) (w0 : World) {AN : Addr} {q ca : Nat} {N : Nat → Nd} {PR PK : Nat → Option Addr} {CR CK : Nat → Nat} (hq : q ≤ 1048576) (hr : ∀ i, i < q → CelN w0 (AN.add (i * 8)) (N i).a (.slice (PR i) (N i).p (CR i)) (.slice (PK i) (N i).q (CK i))) (J : List {j : Nat // j < q} → World → Prop)
  (hY:∀ pre x W,J pre W→pre.length < q→Ord (pre ++ [x])→YieldAt Fence.wide (n - 1) Tryz.prog l #[.int .i64 (x.val:Int),ndv (N x.val).a (.slice (PR x.val) (N x.val).p (CR x.val)) (.slice (PK x.val) (N x.val).q (CK x.val))] W fun e W'=>e = .returned (.bool true)∧J (pre ++ [x]) W'∧Kp2 w0.heap.size Bs W W')
  (W:World) (hW:∀ k,k < w0.heap.size→W.heap[k]? = w0.heap[k]?) (hBs:W.cell? ⟨Bs,0,none⟩=some (.slice (some AN) q ca)) (hca:q≤ca) (h0:J [] W) :
  CallsIn Fence.wide n Tryz.prog 108 #[.func (.yield l) #[] #[],.pointer (some ⟨Bs,0,none⟩)] W fun e W'=>(∃ v,e = .returned v)∧∃ ys,(Ord ys∧ys.length=q)∧J ys W':=by
 have hqI:(q:Int)≤1048576:=by omega
 have HR:Hid (∀ i,i < q→CelN w0 (AN.add (i*8)) (N i).a (.slice (PR i) (N i).p (CR i)) (.slice (PK i) (N i).q (CK i))):=hr
 have HY:Hid (∀ pre x W,J pre W→pre.length < q→Ord (pre ++ [x])→YieldAt Fence.wide (n - 1) Tryz.prog l #[.int .i64 (x.val:Int),ndv (N x.val).a (.slice (PR x.val) (N x.val).p (CR x.val)) (.slice (PK x.val) (N x.val).q (CK x.val))] W fun e W'=>e = .returned (.bool true)∧J (pre ++ [x]) W'∧Kp2 w0.heap.size Bs W W'):=hY
 have HW:Hid ((∀ k,k < w0.heap.size→W.heap[k]? = w0.heap[k]?)∧W.cell? ⟨Bs,0,none⟩=some (.slice (some AN) q ca)):=(⟨hW,hBs⟩:_∧_)
 clear hr hY hW hq
 refine callsIn_of_wp Tryz.func108 rfl trivial ?_ rfl
 simp only [Tryz.ntmps108,List.size_toArray,List.length_cons,List.length_nil,Nat.reduceAdd,Nat.reduceSub,Array.replicate_succ,Array.replicate_zero,List.push_toArray,List.append_toArray,List.nil_append,List.cons_append]
 gi_wp2_with fail
 gi_loopw [3] (fun i wr=>∃ k:Nat,k≤q∧i = .int .i64 ((q:Int) - 1 - (k:Int))∧Hid (∃ pre,pre.length=k∧Ord pre∧J pre wr∧Kp2 w0.heap.size Bs W wr)) (fun i _=>(intOf i+1).toNat)
 case atStart=>exact ⟨0,Nat.zero_le _,by first | rfl | simp,(⟨[],rfl,Ord.nil,h0,Kp2.refl _ _ _⟩:∃ pre,_)⟩
 case round =>
  clear h0 hBs
  obtain ⟨k,hk,rfl,HI⟩:=hrel
  obtain ⟨pre,hpl,hord,hj,hkp⟩:=(uh HI)
  obtain ⟨hW,hBs⟩:=(uh HW)
  have c0:wr.cell? ⟨Bs,0,none⟩=some (.slice (some AN) q ca):=(World.cell?_of_block (hkp Bs (.inr rfl))).trans hBs
  rcases Nat.lt_or_ge k q with hlt | hge
  ·obtain ⟨j,hjk⟩:∃ j:Nat,j=q - 1 - k:=⟨_,rfl⟩
   have ej:(q:Int) - 1 - (k:Int)=(j:Int):=by omega
   obtain ⟨q0,q1,q2,q3,q4,q5,q6,q7⟩:=(uh HR) j (by omega)
   have hblk:wr.heap[AN.block]? = w0.heap[AN.block]?:=by
    have hl0:=lt_of_cell' q0
    rw [add_block] at hl0
    exact (hkp _ (.inl hl0)).trans (hW _ hl0)
   replace q0:=(World.cell?_of_block (w:=w0) (w':=wr) (by simpa [add_block] using hblk)).trans q0
   replace q1:=(World.cell?_of_block (w:=w0) (w':=wr) (by simpa [add_block] using hblk)).trans q1
   replace q2:=(World.cell?_of_block (w:=w0) (w':=wr) (by simpa [add_block] using hblk)).trans q2
   replace q3:=(World.cell?_of_block (w:=w0) (w':=wr) (by simpa [add_block] using hblk)).trans q3
   replace q4:=(World.cell?_of_block (w:=w0) (w':=wr) (by simpa [add_block] using hblk)).trans q4
   replace q5:=(World.cell?_of_block (w:=w0) (w':=wr) (by simpa [add_block] using hblk)).trans q5
   replace q6:=(World.cell?_of_block (w:=w0) (w':=wr) (by simpa [add_block] using hblk)).trans q6
   replace q7:=(World.cell?_of_block (w:=w0) (w':=wr) (by simpa [add_block] using hblk)).trans q7
   have hjq:(j:Int) < (q:Int):=by omega
   have hjN:j < q:=by omega
   have hoo:Ord (pre ++ [(⟨j,hjN⟩ : {j:Nat // j < q})]):=hord.push (by show j = _;omega)
   obtain ⟨fn,tmps,assign,body,hy,hR⟩:=(uh HY) pre ⟨j,hjN⟩ wr hj (by omega) hoo
   have HX:Hid (Ord (pre ++ [⟨j,hjN⟩])∧(pre ++ [(⟨j,hjN⟩ : {j:Nat // j < q})]).length=k+1∧Kp2 w0.heap.size Bs W wr):=(⟨hoo,by simp;omega,hkp⟩:_∧_∧_)
   rw [ej]
   unfold ndv at hy
   dsimp only at hy
   have hmk:(q:Int) - 1 - ((k+1:Nat):Int)=(j:Int) - 1:=by omega
   clear HI HY HR HW hord hj hkp hW hBs ej hjk hpl hblk hoo
   gi_wp2
   refine hR.mono ?_
   rintro e W3 ⟨rfl,hJ3,hk3⟩
   have HX3:Hid (∃ pre,pre.length=k+1∧Ord pre∧J pre W3∧Kp2 w0.heap.size Bs W W3):=(⟨_,HX.2.1,HX.1,hJ3,HX.2.2.trans hk3⟩:∃ pre,_)
   clear HX hJ3 hk3 hR hy q0 q1 q2 q3 q4 q5 q6 q7 c0
   gi_wp2
   go_roundw
   case rel=>exact ⟨k+1,by omega,by rw [hmk],HX3⟩
   case measure=>first | (simp [intOf];done) | (simp [intOf];omega)
  ·have HX:Hid (∃ pre,pre.length=k∧Ord pre∧J pre wr∧Kp2 w0.heap.size Bs W wr):=HI
   obtain rfl:k=q:=by omega
   have ej:(k:Int) - 1 - (k:Int) = -1:=by omega
   rw [ej]
   clear HI HY HR HW hord hj hkp hW hBs
   gi_wp2
   go_end0
   obtain ⟨pre,h1,h2,h3,_⟩:=(uh HX)
   exact ⟨⟨_,rfl⟩,pre,⟨h2,h1⟩,h3⟩
theorem bwn_make (a : Option Addr) (len cap : Nat) (w : World) :
  Calls Tryz.prog 99 #[.slice a len cap] w fun e w'=>e = .returned (.func (.func 108) #[] #[.pointer (some ⟨w.heap.size,0,none⟩)])∧w'=w.alloc (.cells #[.slice a len cap] 46):=by
 go_enter Tryz.func99,Tryz.ntmps99
 go_wp2
 go_ret
 exact ⟨rfl,rfl⟩
end Go.Proofs.YtfpidccjcemcjaaGreat.Fo
