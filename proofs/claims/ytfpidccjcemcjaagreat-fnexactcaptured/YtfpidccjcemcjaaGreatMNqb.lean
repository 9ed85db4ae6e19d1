import Derived.Test.YtfpidccjcemcjaaGreatMZsq
import Derived.Test.YtfpidccjcemcjaaGreatMNqa
import Derived.Test.YtfpidccjcemcjaaGreatMNpf
import Derived.Test.YtfpidccjcemcjaaGreatMNhb
import Derived.Test.YtfpidccjcemcjaaGreatMNgb
set_option maxHeartbeats 8000000
namespace Go.Proofs.YtfpidccjcemcjaaGreat.Fo
open Go.ChangeShapes Go.WideShapes Go.ChangeAt Go.RowKit
set_option linter.unusedVariables false
set_option maxRecDepth 100000
structure KD (b:Nat) (w w':World):Prop where
 os:w'.os=w.os
 output:w'.output=w.output
 size:w.heap.size≤w'.heap.size
 block:∀ k,k < b→w'.heap[k]? = w.heap[k]?
theorem KD.refl (b:Nat) (w:World):KD b w w:=⟨rfl,rfl,Nat.le_refl _,fun _ _=>rfl⟩
theorem KD.trans {b:Nat} {x y z:World} (h:KD b x y) (k:KD b y z):KD b x z:=⟨k.os.trans h.os,k.output.trans h.output,Nat.le_trans h.size k.size,fun i hi=>(k.block i hi).trans (h.block i hi)⟩
theorem Kb.kd {w w':World} (h:Kb 0 w w') {b:Nat} (hb:b≤w.heap.size):KD b w w':=⟨h.os,h.output,h.size,fun k hk=>h.block k zq (by omega)⟩
theorem KD.cell {b:Nat} {w w':World} (h:KD b w w') {a:Addr} {v:Value} (ha:a.block < b) (hc:w.cell? a=some v):w'.cell? a=some v:=(World.cell?_of_block (h.block _ ha)).trans hc
def Ob (b:Nat) (v m:Value):Prop:=(∀ k,v.ownBlock=some k→b≤k)∧∀ k,m = .map (some k)→b≤k
theorem ds_next {d:Fd} {t:Nat} (h:Dcn d.N t) {x:Int}:DS d (t+1) 0 x↔DS d t (d.N t).p x:=by
 unfold DS
 constructor
 ·rintro (g | ⟨s,hs,g1,g2⟩ | ⟨_,i,hi,_⟩)
  ·exact .inl g
  ·by_cases e:s=t
   ·subst e;obtain ⟨j,hj,ej⟩:=g2;exact .inr (.inr ⟨h,j,hj,ej⟩)
   ·exact .inr (.inl ⟨s,by omega,g1,g2⟩)
  ·omega
 ·rintro (g | ⟨s,hs,g1,g2⟩ | ⟨_,i,hi,e⟩)
  ·exact .inl g
  ·exact .inr (.inl ⟨s,by omega,g1,g2⟩)
  ·exact .inr (.inl ⟨t,by omega,h,i,hi,e⟩)
theorem ds_same {d:Fd} {t:Nat} (h:¬ Dcn d.N t) {x:Int}:DS d (t+1) 0 x↔DS d t 0 x:=by
 unfold DS
 constructor
 ·rintro (g | ⟨s,hs,g1,g2⟩ | ⟨_,i,hi,_⟩)
  ·exact .inl g
  ·by_cases e:s=t
   ·subst e;exact absurd g1 h
   ·exact .inr (.inl ⟨s,by omega,g1,g2⟩)
  ·omega
 ·rintro (g | ⟨s,hs,g1,g2⟩ | ⟨_,i,hi,e⟩)
  ·exact .inl g
  ·exact .inr (.inl ⟨s,by omega,g1,g2⟩)
  ·omega
theorem ds_step {d:Fd} {t j:Nat} (h:Dcn d.N t) {x:Int}:DS d t (j+1) x↔DS d t j x∨x=(d.N t).R j:=by
 unfold DS
 constructor
 ·rintro (g | g | ⟨_,i,hi,e⟩)
  ·exact .inl (.inl g)
  ·exact .inl (.inr (.inl g))
  ·by_cases ei:i=j
   ·subst ei;exact .inr e
   ·exact .inl (.inr (.inr ⟨h,i,by omega,e⟩))
 ·rintro ((g | g | ⟨_,i,hi,e⟩) | e)
  ·exact .inl g
  ·exact .inr (.inl g)
  ·exact .inr (.inr ⟨h,i,by omega,e⟩)
  ·exact .inr (.inr ⟨h,j,by omega,e⟩)
theorem Ks.of_kb {S o:Nat} {v m:Value} {w w':World} (k:Kb 0 w w') (hS:S < w.heap.size):Ks S o v m v m w w' :=
 ⟨k.os,k.output,k.size,fun i hi _ _ _=>k.block i zq hi,fun j _ _=>World.cell?_of_block (k.block S zq hS),fun _ h=>.inl h,fun _ h=>.inl h⟩
def Bxs (w:World) (d:Fd) (t:Nat) (pv pu pr:Option Addr) (cv cu cr:Nat) (a:Option Addr) (W:World):Prop :=
 W.cell? ⟨w.heap.size,4,none⟩=some (.slice pv d.p cv)∧W.cell? ⟨w.heap.size,5,none⟩=some (.slice pu d.u cu)∧W.cell? ⟨w.heap.size+1,0,none⟩=some (.int .i64 (d.N t).a.k)∧W.cell? ⟨w.heap.size+1,6,none⟩=some (.slice pr (d.N t).p cr)∧W.cell? ⟨w.heap.size+1+1,0,none⟩=some (.pointer a)
theorem Ks.ob {S o b:Nat} {v m v' m':Value} {w w':World} (k:Ks S o v m v' m' w w') (h:Ob b v m) (hb:b≤w.heap.size):Ob b v' m' :=
 ⟨fun i hi=>(k.hv i hi).elim (h.1 i) (fun g=>by omega),fun i hi=>(k.hm i hi).elim (h.2 i) (fun g=>by omega)⟩
theorem Ks.kd {S o b:Nat} {v m v' m':Value} {w w':World} (k:Ks S o v m v' m' w w') (h:Ob b v m) (hS:b≤S) (hb:b≤w.heap.size):KD b w w' :=
 ⟨k.os,k.output,k.size,fun i hi=>k.block i (by omega) (by omega) (fun e=>by have:=h.1 i e;omega) (fun e=>by have:=h.2 i e;omega)⟩
theorem im_refers27 {B nf ca t S o b0 nn cn qk ck : Nat} {pf pv pu pr pn pk : Option Addr} {cv cu cr : Nat} {d : Fd} {a : Option Addr} {b : Bool} {l : List Vs} {L : List Int} {v m : Value} (w : World) (hf : Fok d) (ht : t < d.n) (hb : w.cell? ⟨B, 0, none⟩ = some (.slice pf nf ca)) (hB : B < b0) (hr : RowB 0 w (.slice pr (d.N t).p cr) (d.N t).p (fun i => .int .i64 ((d.N t).R i))) (hrb : 0 < (d.N t).p → ∃ a : Addr, pr = some a ∧ a.block < b0) (hs : Sco w (.pointer a) l) (hl : ∀ x, inS x l ↔ SS d.N d.n d.m x t) (hz : Zt S o L v m w) (hL : ∀ x, x ∈ L ↔ DS d t 0 x) (hlen : L.length ≤ 9000000000) (hob : Ob b0 v m) (hS : b0 ≤ S) (hnf : nf ≤ 1048576) (hk : (d.N t).a.k = 27) :
  Calls Tryz.prog 87 #[.pointer (some ⟨B,0,none⟩),.agg #[.string d.x,.int .i64 d.l,.int .i64 d.m,.bool d.r,.slice pv d.p cv,.slice pu d.u cu,.slice pn nn cn],.agg #[.int .i64 (d.N t).a.k,.int .i64 (d.N t).a.l,.int .i64 (d.N t).a.o,.int .i64 (d.N t).a.m,.float .f64 (d.N t).a.g,.string (d.N t).a.x,.slice pr (d.N t).p cr,.slice pk qk ck],.agg #[.pointer a,.bool b],.pointer (some ⟨S,o,none⟩)] w fun e w'=>e = .returned (.bool (dc (R6 d nf t)))∧∃ v' m',Ks S o v m v' m' w w'∧(R6 d nf t→∃ L',Zt S o L' v' m' w'∧(∀ x,x ∈ L'↔DS d (t+1) 0 x)∧L'.length≤L.length+(d.N t).p):=by
 have hiff:R6 d nf t↔∀ j,j < (d.N t).p→0≤(d.N t).R j∧(d.N t).R j < (d.u:Int):=by
  unfold R6 Dcn
  constructor
  ·intro h;exact h.1 hk
  ·intro h
   exact ⟨fun e=>h,fun e=>by omega,fun e=>by omega,fun e=>by omega⟩
 have hnd:¬ Dcn d.N t:=by unfold Dcn;omega
 have hpp:(d.N t).p≤1048576:=hf.hp t ht
 have hpI:((d.N t).p:Int)≤1048576:=by omega
 obtain ⟨R,hR⟩:∃ R,R=dc (R6 d nf t):=⟨_,rfl⟩
 have HR:Hid (R=dc (R6 d nf t)):=hR
 obtain ⟨w3,hw3⟩:∃ w3,w3=(((w.alloc (.cells #[.string d.x,.int .i64 d.l,.int .i64 d.m,.bool d.r,.slice pv d.p cv,.slice pu d.u cu,.slice pn nn cn] 48)).alloc (.cells #[.int .i64 (d.N t).a.k,.int .i64 (d.N t).a.l,.int .i64 (d.N t).a.o,.int .i64 (d.N t).a.m,.float .f64 (d.N t).a.g,.string (d.N t).a.x,.slice pr (d.N t).p cr,.slice pk qk ck] 59)).alloc (.cells #[.pointer a,.bool b] 124)):=⟨_,rfl⟩
 obtain ⟨q0,q1,q2,z3,k3⟩:=three_new w _ _ _ _ _ _ w3 hw3
 have hSl:S < w.heap.size:=lt_of_cell' hz.c0
 have HE:Hid (∃ v' m',Ks S o v m v' m' w w3∧(R6 d nf t→∃ L',Zt S o L' v' m' w3∧(∀ x,x ∈ L'↔DS d (t+1) 0 x)∧L'.length≤L.length+(d.N t).p)):=(⟨v,m,Ks.of_kb k3 hSl,fun _=>⟨L,hz.on k3,fun x=>(hL x).trans (ds_same hnd).symm,by omega⟩⟩:∃ v' m',Ks S o v m v' m' w w3∧(R6 d nf t→∃ L',Zt S o L' v' m' w3∧(∀ x,x ∈ L'↔DS d (t+1) 0 x)∧L'.length≤L.length+(d.N t).p))
 have HI:Hid (R6 d nf t↔∀ j,j < (d.N t).p→0≤(d.N t).R j∧(d.N t).R j < (d.u:Int)):=hiff
 rw [← hR]
 have c4:w3.cell? ⟨w.heap.size,4,none⟩=some (.slice pv d.p cv):=cell_of q0 rfl
 have c5:w3.cell? ⟨w.heap.size,5,none⟩=some (.slice pu d.u cu):=cell_of q0 rfl
 have c0:w3.cell? ⟨w.heap.size+1,0,none⟩=some (.int .i64 (d.N t).a.k):=cell_of q1 rfl
 have cs:w3.cell? ⟨w.heap.size+1+1,0,none⟩=some (.pointer a):=cell_of q2 rfl
 have cb:w3.cell? ⟨B,0,none⟩=some (.slice pf nf ca):=k3.cell hb
 have hr3:=hr.keep k3
 obtain ⟨pa',cc',hpe,hr2⟩:=hr3
 obtain ⟨ep,-,ec⟩:pr=pa'∧(d.N t).p=(d.N t).p∧cr=cc':=by simpa using hpe
 subst ep ec
 have HRW:Hid (0 < (d.N t).p→∃ a:Addr,pr=some a∧(d.N t).p≤cr∧0≤a.block∧∀ i,i < (d.N t).p→w3.cell? (a.add i)=some (.int .i64 ((d.N t).R i))):=hr2
 have HW3:Hid (w3=(((w.alloc (.cells #[.string d.x,.int .i64 d.l,.int .i64 d.m,.bool d.r,.slice pv d.p cv,.slice pu d.u cu,.slice pn nn cn] 48)).alloc (.cells #[.int .i64 (d.N t).a.k,.int .i64 (d.N t).a.l,.int .i64 (d.N t).a.o,.int .i64 (d.N t).a.m,.float .f64 (d.N t).a.g,.string (d.N t).a.x,.slice pr (d.N t).p cr,.slice pk qk ck] 59)).alloc (.cells #[.pointer a,.bool b] 124))):=hw3
 have g1:=beq1 hk
 have g26:((d.N t).a.k == 26)=false:=by simp;omega
 have g36:((d.N t).a.k == 36)=false:=by simp;omega
 have huI:(d.u:Int)≤200:=by have:=hf.u2;omega
 clear hw3 q0 q1 q2 z3 k3 hiff hr2 hpe hR hf ht hb hB hr hrb hs hl hz hL hlen hob hS hSl hnd hk hnf
 generalize hkk:(d.N t).a.k=kk at *
 clear hkk
 go_enter Tryz.func87,Tryz.ntmps87
 go_wp2_with fail
 rw [← (uh HW3)]
 clear HW3
 go_loopw [19] (fun s19 wr=>∃ j:Nat,s19 = .int .i64 (j:Int)∧j≤(d.N t).p∧w3=wr∧Hid (∀ i,i < j→0≤(d.N t).R i∧(d.N t).R i < (d.u:Int))) (fun s19 _=>(d.N t).p - (intOf s19).toNat)
 case atStart=>exact ⟨0,rfl,Nat.zero_le _,rfl,(fun j hj=>by omega:∀ j,_)⟩
 case round =>
  obtain ⟨j,rfl,hj,rfl,HJ⟩:=hrel
  rcases Nat.lt_or_ge j (d.N t).p with hlt | hge
  case inr =>
   obtain rfl:j=(d.N t).p:=by omega
   have hT:R=true:=(uh HR).trans (dc_t ((uh HI).2 HJ))
   subst hT
   have HX:Hid (∃ v' m',Ks S o v m v' m' w w3∧(R6 d nf t→∃ L',Zt S o L' v' m' w3∧(∀ x,x ∈ L'↔DS d (t+1) 0 x)∧L'.length≤L.length+(d.N t).p)):=HE
   clear HR HI HE HRW HJ hj hge
   go_wp2_with fail
   go_ret
   exact ⟨rfl,HX⟩
  have hjI:(j:Int) < ((d.N t).p:Int):=by omega
  obtain ⟨ra,rfl,-,-,hra⟩:=(uh HRW) (by omega)
  have qr:=hra j hlt
  have HF:Hid (¬ (0≤(d.N t).R j∧(d.N t).R j < (d.u:Int))→R=false∧∃ v' m',Ks S o v m v' m' w w3∧(R6 d nf t→∃ L',Zt S o L' v' m' w3∧(∀ x,x ∈ L'↔DS d (t+1) 0 x)∧L'.length≤L.length+(d.N t).p)):=(fun g=>⟨(uh HR).trans (dc_f (fun h=>g ((uh HI).1 h j hlt))),HE⟩:_→_)
  have HG:Hid (0≤(d.N t).R j∧(d.N t).R j < (d.u:Int)→∀ i,i < j+1→0≤(d.N t).R i∧(d.N t).R i < (d.u:Int)):=(fun g i hi=>by
   by_cases e:i=j
   ·rw [e];exact g
   ·exact (uh HJ) i (by omega):_→_)
  clear HR HI HE HRW HJ hra hj
  generalize hx:(d.N t).R j=x at *
  rcases Int.lt_or_le x 0 with h0 | h0
  ·obtain ⟨rfl,HX⟩:=(uh HF) (fun g=>by have:=g.1;omega)
   have HX2:Hid (∃ v' m',Ks S o v m v' m' w w3∧(R6 d nf t→∃ L',Zt S o L' v' m' w3∧(∀ x,x ∈ L'↔DS d (t+1) 0 x)∧L'.length≤L.length+(d.N t).p)):=HX
   have g0:¬ (0:Int)≤x:=by omega
   clear HF HG hx HX
   go_wp2_with fail
   all_goals (go_ret;exact ⟨rfl,HX2⟩)
  rcases Int.lt_or_le x (d.u:Int) with h1 | h1
  case inr =>
   obtain ⟨rfl,HX⟩:=(uh HF) (fun g=>by have:=g.2;omega)
   have HX2:Hid (∃ v' m',Ks S o v m v' m' w w3∧(R6 d nf t→∃ L',Zt S o L' v' m' w3∧(∀ x,x ∈ L'↔DS d (t+1) 0 x)∧L'.length≤L.length+(d.N t).p)):=HX
   have g0:¬ x < (d.u:Int):=by omega
   clear HF HG hx HX
   go_wp2_with fail
   all_goals (go_ret;exact ⟨rfl,HX2⟩)
  have HN:Hid (∀ i,i < j+1→0≤(d.N t).R i∧(d.N t).R i < (d.u:Int)):=(uh HG) ⟨h0,h1⟩
  clear HF HG hx
  go_wp2_with fail
  go_roundw
  case rel=>exact ⟨j+1,by go_num,by omega,by trivial,HN⟩
  case measure=>simp [intOf];omega
theorem im_refers36 {B nf ca t S o b0 nn cn qk ck : Nat} {pf pv pu pr pn pk : Option Addr} {cv cu cr : Nat} {d : Fd} {a : Option Addr} {b : Bool} {l : List Vs} {L : List Int} {v m : Value} (w : World) (hf : Fok d) (ht : t < d.n) (hb : w.cell? ⟨B, 0, none⟩ = some (.slice pf nf ca)) (hB : B < b0) (hr : RowB 0 w (.slice pr (d.N t).p cr) (d.N t).p (fun i => .int .i64 ((d.N t).R i))) (hrb : 0 < (d.N t).p → ∃ a : Addr, pr = some a ∧ a.block < b0) (hs : Sco w (.pointer a) l) (hl : ∀ x, inS x l ↔ SS d.N d.n d.m x t) (hz : Zt S o L v m w) (hL : ∀ x, x ∈ L ↔ DS d t 0 x) (hlen : L.length ≤ 9000000000) (hob : Ob b0 v m) (hS : b0 ≤ S) (hnf : nf ≤ 1048576) (hk : (d.N t).a.k = 36) :
  Calls Tryz.prog 87 #[.pointer (some ⟨B,0,none⟩),.agg #[.string d.x,.int .i64 d.l,.int .i64 d.m,.bool d.r,.slice pv d.p cv,.slice pu d.u cu,.slice pn nn cn],.agg #[.int .i64 (d.N t).a.k,.int .i64 (d.N t).a.l,.int .i64 (d.N t).a.o,.int .i64 (d.N t).a.m,.float .f64 (d.N t).a.g,.string (d.N t).a.x,.slice pr (d.N t).p cr,.slice pk qk ck],.agg #[.pointer a,.bool b],.pointer (some ⟨S,o,none⟩)] w fun e w'=>e = .returned (.bool (dc (R6 d nf t)))∧∃ v' m',Ks S o v m v' m' w w'∧(R6 d nf t→∃ L',Zt S o L' v' m' w'∧(∀ x,x ∈ L'↔DS d (t+1) 0 x)∧L'.length≤L.length+(d.N t).p):=by
 have hiff:R6 d nf t↔∀ j,j < (d.N t).p→0≤(d.N t).R j∧(d.N t).R j < (nf:Int):=by
  unfold R6 Dcn
  constructor
  ·intro h;exact h.2.1 hk
  ·intro h
   exact ⟨fun e=>by omega,fun e=>h,fun e=>by omega,fun e=>by omega⟩
 have hnd:¬ Dcn d.N t:=by unfold Dcn;omega
 have hpp:(d.N t).p≤1048576:=hf.hp t ht
 have hpI:((d.N t).p:Int)≤1048576:=by omega
 obtain ⟨R,hR⟩:∃ R,R=dc (R6 d nf t):=⟨_,rfl⟩
 have HR:Hid (R=dc (R6 d nf t)):=hR
 obtain ⟨w3,hw3⟩:∃ w3,w3=(((w.alloc (.cells #[.string d.x,.int .i64 d.l,.int .i64 d.m,.bool d.r,.slice pv d.p cv,.slice pu d.u cu,.slice pn nn cn] 48)).alloc (.cells #[.int .i64 (d.N t).a.k,.int .i64 (d.N t).a.l,.int .i64 (d.N t).a.o,.int .i64 (d.N t).a.m,.float .f64 (d.N t).a.g,.string (d.N t).a.x,.slice pr (d.N t).p cr,.slice pk qk ck] 59)).alloc (.cells #[.pointer a,.bool b] 124)):=⟨_,rfl⟩
 obtain ⟨q0,q1,q2,z3,k3⟩:=three_new w _ _ _ _ _ _ w3 hw3
 have hSl:S < w.heap.size:=lt_of_cell' hz.c0
 have HE:Hid (∃ v' m',Ks S o v m v' m' w w3∧(R6 d nf t→∃ L',Zt S o L' v' m' w3∧(∀ x,x ∈ L'↔DS d (t+1) 0 x)∧L'.length≤L.length+(d.N t).p)):=(⟨v,m,Ks.of_kb k3 hSl,fun _=>⟨L,hz.on k3,fun x=>(hL x).trans (ds_same hnd).symm,by omega⟩⟩:∃ v' m',Ks S o v m v' m' w w3∧(R6 d nf t→∃ L',Zt S o L' v' m' w3∧(∀ x,x ∈ L'↔DS d (t+1) 0 x)∧L'.length≤L.length+(d.N t).p))
 have HI:Hid (R6 d nf t↔∀ j,j < (d.N t).p→0≤(d.N t).R j∧(d.N t).R j < (nf:Int)):=hiff
 rw [← hR]
 have c4:w3.cell? ⟨w.heap.size,4,none⟩=some (.slice pv d.p cv):=cell_of q0 rfl
 have c5:w3.cell? ⟨w.heap.size,5,none⟩=some (.slice pu d.u cu):=cell_of q0 rfl
 have c0:w3.cell? ⟨w.heap.size+1,0,none⟩=some (.int .i64 (d.N t).a.k):=cell_of q1 rfl
 have cs:w3.cell? ⟨w.heap.size+1+1,0,none⟩=some (.pointer a):=cell_of q2 rfl
 have cb:w3.cell? ⟨B,0,none⟩=some (.slice pf nf ca):=k3.cell hb
 have hr3:=hr.keep k3
 obtain ⟨pa',cc',hpe,hr2⟩:=hr3
 obtain ⟨ep,-,ec⟩:pr=pa'∧(d.N t).p=(d.N t).p∧cr=cc':=by simpa using hpe
 subst ep ec
 have HRW:Hid (0 < (d.N t).p→∃ a:Addr,pr=some a∧(d.N t).p≤cr∧0≤a.block∧∀ i,i < (d.N t).p→w3.cell? (a.add i)=some (.int .i64 ((d.N t).R i))):=hr2
 have HW3:Hid (w3=(((w.alloc (.cells #[.string d.x,.int .i64 d.l,.int .i64 d.m,.bool d.r,.slice pv d.p cv,.slice pu d.u cu,.slice pn nn cn] 48)).alloc (.cells #[.int .i64 (d.N t).a.k,.int .i64 (d.N t).a.l,.int .i64 (d.N t).a.o,.int .i64 (d.N t).a.m,.float .f64 (d.N t).a.g,.string (d.N t).a.x,.slice pr (d.N t).p cr,.slice pk qk ck] 59)).alloc (.cells #[.pointer a,.bool b] 124))):=hw3
 have g1:=beq1 hk
 have g26:((d.N t).a.k == 26)=false:=by simp;omega
 have g27:((d.N t).a.k == 27)=false:=by simp;omega
 have hnI:(nf:Int)≤1048576:=by omega
 clear hw3 q0 q1 q2 z3 k3 hiff hr2 hpe hR hf ht hb hB hr hrb hs hl hz hL hlen hob hS hSl hnd hk hnf
 generalize hkk:(d.N t).a.k=kk at *
 clear hkk
 go_enter Tryz.func87,Tryz.ntmps87
 go_wp2_with fail
 rw [← (uh HW3)]
 clear HW3
 go_loopw [19] (fun s19 wr=>∃ j:Nat,s19 = .int .i64 (j:Int)∧j≤(d.N t).p∧w3=wr∧Hid (∀ i,i < j→0≤(d.N t).R i∧(d.N t).R i < (nf:Int))) (fun s19 _=>(d.N t).p - (intOf s19).toNat)
 case atStart=>exact ⟨0,rfl,Nat.zero_le _,rfl,(fun j hj=>by omega:∀ j,_)⟩
 case round =>
  obtain ⟨j,rfl,hj,rfl,HJ⟩:=hrel
  rcases Nat.lt_or_ge j (d.N t).p with hlt | hge
  case inr =>
   obtain rfl:j=(d.N t).p:=by omega
   have hT:R=true:=(uh HR).trans (dc_t ((uh HI).2 HJ))
   subst hT
   have HX:Hid (∃ v' m',Ks S o v m v' m' w w3∧(R6 d nf t→∃ L',Zt S o L' v' m' w3∧(∀ x,x ∈ L'↔DS d (t+1) 0 x)∧L'.length≤L.length+(d.N t).p)):=HE
   clear HR HI HE HRW HJ hj hge
   go_wp2_with fail
   go_ret
   exact ⟨rfl,HX⟩
  have hjI:(j:Int) < ((d.N t).p:Int):=by omega
  obtain ⟨ra,rfl,-,-,hra⟩:=(uh HRW) (by omega)
  have qr:=hra j hlt
  have HF:Hid (¬ (0≤(d.N t).R j∧(d.N t).R j < (nf:Int))→R=false∧∃ v' m',Ks S o v m v' m' w w3∧(R6 d nf t→∃ L',Zt S o L' v' m' w3∧(∀ x,x ∈ L'↔DS d (t+1) 0 x)∧L'.length≤L.length+(d.N t).p)):=(fun g=>⟨(uh HR).trans (dc_f (fun h=>g ((uh HI).1 h j hlt))),HE⟩:_→_)
  have HG:Hid (0≤(d.N t).R j∧(d.N t).R j < (nf:Int)→∀ i,i < j+1→0≤(d.N t).R i∧(d.N t).R i < (nf:Int)):=(fun g i hi=>by
   by_cases e:i=j
   ·rw [e];exact g
   ·exact (uh HJ) i (by omega):_→_)
  clear HR HI HE HRW HJ hra hj
  generalize hx:(d.N t).R j=x at *
  rcases Int.lt_or_le x 0 with h0 | h0
  ·obtain ⟨rfl,HX⟩:=(uh HF) (fun g=>by have:=g.1;omega)
   have HX2:Hid (∃ v' m',Ks S o v m v' m' w w3∧(R6 d nf t→∃ L',Zt S o L' v' m' w3∧(∀ x,x ∈ L'↔DS d (t+1) 0 x)∧L'.length≤L.length+(d.N t).p)):=HX
   have g0:¬ (0:Int)≤x:=by omega
   clear HF HG hx HX
   go_wp2_with fail
   all_goals (go_ret;exact ⟨rfl,HX2⟩)
  rcases Int.lt_or_le x (nf:Int) with h1 | h1
  case inr =>
   obtain ⟨rfl,HX⟩:=(uh HF) (fun g=>by have:=g.2;omega)
   have HX2:Hid (∃ v' m',Ks S o v m v' m' w w3∧(R6 d nf t→∃ L',Zt S o L' v' m' w3∧(∀ x,x ∈ L'↔DS d (t+1) 0 x)∧L'.length≤L.length+(d.N t).p)):=HX
   have g0:¬ x < (nf:Int):=by omega
   clear HF HG hx HX
   go_wp2_with fail
   all_goals (go_ret;exact ⟨rfl,HX2⟩)
  have HN:Hid (∀ i,i < j+1→0≤(d.N t).R i∧(d.N t).R i < (nf:Int)):=(uh HG) ⟨h0,h1⟩
  clear HF HG hx
  go_wp2_with fail
  go_roundw
  case rel=>exact ⟨j+1,by go_num,by omega,by trivial,HN⟩
  case measure=>simp [intOf];omega
theorem im_refers26 {B nf ca t S o b0 nn cn qk ck : Nat} {pf pv pu pr pn pk : Option Addr} {cv cu cr : Nat} {d : Fd} {a : Option Addr} {b : Bool} {l : List Vs} {L : List Int} {v m : Value} (w : World) (hf : Fok d) (ht : t < d.n) (hb : w.cell? ⟨B, 0, none⟩ = some (.slice pf nf ca)) (hB : B < b0) (hr : RowB 0 w (.slice pr (d.N t).p cr) (d.N t).p (fun i => .int .i64 ((d.N t).R i))) (hrb : 0 < (d.N t).p → ∃ a : Addr, pr = some a ∧ a.block < b0) (hs : Sco w (.pointer a) l) (hl : ∀ x, inS x l ↔ SS d.N d.n d.m x t) (hz : Zt S o L v m w) (hL : ∀ x, x ∈ L ↔ DS d t 0 x) (hlen : L.length ≤ 9000000000) (hob : Ob b0 v m) (hS : b0 ≤ S) (hnf : nf ≤ 1048576) (hk : (d.N t).a.k = 26) :
  Calls Tryz.prog 87 #[.pointer (some ⟨B,0,none⟩),.agg #[.string d.x,.int .i64 d.l,.int .i64 d.m,.bool d.r,.slice pv d.p cv,.slice pu d.u cu,.slice pn nn cn],.agg #[.int .i64 (d.N t).a.k,.int .i64 (d.N t).a.l,.int .i64 (d.N t).a.o,.int .i64 (d.N t).a.m,.float .f64 (d.N t).a.g,.string (d.N t).a.x,.slice pr (d.N t).p cr,.slice pk qk ck],.agg #[.pointer a,.bool b],.pointer (some ⟨S,o,none⟩)] w fun e w'=>e = .returned (.bool (dc (R6 d nf t)))∧∃ v' m',Ks S o v m v' m' w w'∧(R6 d nf t→∃ L',Zt S o L' v' m' w'∧(∀ x,x ∈ L'↔DS d (t+1) 0 x)∧L'.length≤L.length+(d.N t).p):=by
 have hiff:R6 d nf t↔∀ j,j < (d.N t).p→0≤(d.N t).R j∧(d.N t).R j < (d.p:Int)∧SS d.N d.n d.m ((d.N t).R j) t:=by
  unfold R6 Dcn
  constructor
  ·intro h;exact h.2.2.1 hk
  ·intro h
   exact ⟨fun e=>by omega,fun e=>by omega,fun e=>h,fun e=>by omega⟩
 have hnd:¬ Dcn d.N t:=by unfold Dcn;omega
 have hpp:(d.N t).p≤1048576:=hf.hp t ht
 have hpI:((d.N t).p:Int)≤1048576:=by omega
 obtain ⟨R,hR⟩:∃ R,R=dc (R6 d nf t):=⟨_,rfl⟩
 have HR:Hid (R=dc (R6 d nf t)):=hR
 obtain ⟨w3,hw3⟩:∃ w3,w3=(((w.alloc (.cells #[.string d.x,.int .i64 d.l,.int .i64 d.m,.bool d.r,.slice pv d.p cv,.slice pu d.u cu,.slice pn nn cn] 48)).alloc (.cells #[.int .i64 (d.N t).a.k,.int .i64 (d.N t).a.l,.int .i64 (d.N t).a.o,.int .i64 (d.N t).a.m,.float .f64 (d.N t).a.g,.string (d.N t).a.x,.slice pr (d.N t).p cr,.slice pk qk ck] 59)).alloc (.cells #[.pointer a,.bool b] 124)):=⟨_,rfl⟩
 obtain ⟨q0,q1,q2,z3,k3⟩:=three_new w _ _ _ _ _ _ w3 hw3
 have hSl:S < w.heap.size:=lt_of_cell' hz.c0
 have HE:Hid (∃ v' m',Ks S o v m v' m' w w3∧(R6 d nf t→∃ L',Zt S o L' v' m' w3∧(∀ x,x ∈ L'↔DS d (t+1) 0 x)∧L'.length≤L.length+(d.N t).p)):=(⟨v,m,Ks.of_kb k3 hSl,fun _=>⟨L,hz.on k3,fun x=>(hL x).trans (ds_same hnd).symm,by omega⟩⟩:∃ v' m',Ks S o v m v' m' w w3∧(R6 d nf t→∃ L',Zt S o L' v' m' w3∧(∀ x,x ∈ L'↔DS d (t+1) 0 x)∧L'.length≤L.length+(d.N t).p))
 have HI:Hid (R6 d nf t↔∀ j,j < (d.N t).p→0≤(d.N t).R j∧(d.N t).R j < (d.p:Int)∧SS d.N d.n d.m ((d.N t).R j) t):=hiff
 rw [← hR]
 have c4:w3.cell? ⟨w.heap.size,4,none⟩=some (.slice pv d.p cv):=cell_of q0 rfl
 have c5:w3.cell? ⟨w.heap.size,5,none⟩=some (.slice pu d.u cu):=cell_of q0 rfl
 have c0:w3.cell? ⟨w.heap.size+1,0,none⟩=some (.int .i64 (d.N t).a.k):=cell_of q1 rfl
 have cs:w3.cell? ⟨w.heap.size+1+1,0,none⟩=some (.pointer a):=cell_of q2 rfl
 have cb:w3.cell? ⟨B,0,none⟩=some (.slice pf nf ca):=k3.cell hb
 have hr3:=hr.keep k3
 obtain ⟨pa',cc',hpe,hr2⟩:=hr3
 obtain ⟨ep,-,ec⟩:pr=pa'∧(d.N t).p=(d.N t).p∧cr=cc':=by simpa using hpe
 subst ep ec
 have HRW:Hid (0 < (d.N t).p→∃ a:Addr,pr=some a∧(d.N t).p≤cr∧0≤a.block∧∀ i,i < (d.N t).p→w3.cell? (a.add i)=some (.int .i64 ((d.N t).R i))):=hr2
 have HS:Hid (Sco w3 (.pointer a) l∧∀ x,inS x l↔SS d.N d.n d.m x t):=(⟨hs.keep k3,hl⟩:_∧_)
 have HW3:Hid (w3=(((w.alloc (.cells #[.string d.x,.int .i64 d.l,.int .i64 d.m,.bool d.r,.slice pv d.p cv,.slice pu d.u cu,.slice pn nn cn] 48)).alloc (.cells #[.int .i64 (d.N t).a.k,.int .i64 (d.N t).a.l,.int .i64 (d.N t).a.o,.int .i64 (d.N t).a.m,.float .f64 (d.N t).a.g,.string (d.N t).a.x,.slice pr (d.N t).p cr,.slice pk qk ck] 59)).alloc (.cells #[.pointer a,.bool b] 124))):=hw3
 have g1:=beq1 hk
 have g27:((d.N t).a.k == 27)=false:=by simp;omega
 have g36:((d.N t).a.k == 36)=false:=by simp;omega
 have huI:(d.p:Int)≤200:=by have:=hf.p2;omega
 clear hw3 q0 q1 q2 z3 k3 hiff hr2 hpe hR hf ht hb hB hr hrb hs hl hz hL hlen hob hS hSl hnd hk hnf
 generalize hkk:(d.N t).a.k=kk at *
 clear hkk
 go_enter Tryz.func87,Tryz.ntmps87
 go_wp2_with fail
 rw [← (uh HW3)]
 clear HW3
 go_loopw [19] (fun s19 wr=>∃ j:Nat,s19 = .int .i64 (j:Int)∧j≤(d.N t).p∧w3=wr∧Hid (∀ i,i < j→0≤(d.N t).R i∧(d.N t).R i < (d.p:Int)∧SS d.N d.n d.m ((d.N t).R i) t)) (fun s19 _=>(d.N t).p - (intOf s19).toNat)
 case atStart=>exact ⟨0,rfl,Nat.zero_le _,rfl,(fun j hj=>by omega:∀ j,_)⟩
 case round =>
  obtain ⟨j,rfl,hj,rfl,HJ⟩:=hrel
  rcases Nat.lt_or_ge j (d.N t).p with hlt | hge
  case inr =>
   obtain rfl:j=(d.N t).p:=by omega
   have hT:R=true:=(uh HR).trans (dc_t ((uh HI).2 HJ))
   subst hT
   have HX:Hid (∃ v' m',Ks S o v m v' m' w w3∧(R6 d nf t→∃ L',Zt S o L' v' m' w3∧(∀ x,x ∈ L'↔DS d (t+1) 0 x)∧L'.length≤L.length+(d.N t).p)):=HE
   clear HR HI HE HRW HJ hj hge HS
   go_wp2_with fail
   go_ret
   exact ⟨rfl,HX⟩
  have hjI:(j:Int) < ((d.N t).p:Int):=by omega
  obtain ⟨ra,rfl,-,-,hra⟩:=(uh HRW) (by omega)
  have qr:=hra j hlt
  have HF:Hid (¬ (0≤(d.N t).R j∧(d.N t).R j < (d.p:Int)∧SS d.N d.n d.m ((d.N t).R j) t)→R=false∧∃ v' m',Ks S o v m v' m' w w3∧(R6 d nf t→∃ L',Zt S o L' v' m' w3∧(∀ x,x ∈ L'↔DS d (t+1) 0 x)∧L'.length≤L.length+(d.N t).p)):=(fun g=>⟨(uh HR).trans (dc_f (fun h=>g ((uh HI).1 h j hlt))),HE⟩:_→_)
  have HG:Hid (0≤(d.N t).R j∧(d.N t).R j < (d.p:Int)∧SS d.N d.n d.m ((d.N t).R j) t→∀ i,i < j+1→0≤(d.N t).R i∧(d.N t).R i < (d.p:Int)∧SS d.N d.n d.m ((d.N t).R i) t):=(fun g i hi=>by
   by_cases e:i=j
   ·rw [e];exact g
   ·exact (uh HJ) i (by omega):_→_)
  have HH:Calls Tryz.prog 102 #[.pointer a,.int .i64 ((d.N t).R j)] w3 fun e w'=>e = .returned (.bool (dc (inS ((d.N t).R j) l)))∧w'=w3:=im_holds _ w3 HS.1
  have hin:=HS.2 ((d.N t).R j)
  clear HS
  clear HR HI HE HRW HJ hra hj
  generalize hx:(d.N t).R j=x at *
  rcases Int.lt_or_le x 0 with h0 | h0
  ·obtain ⟨rfl,HX⟩:=(uh HF) (fun g=>by have:=g.1;omega)
   have HX2:Hid (∃ v' m',Ks S o v m v' m' w w3∧(R6 d nf t→∃ L',Zt S o L' v' m' w3∧(∀ x,x ∈ L'↔DS d (t+1) 0 x)∧L'.length≤L.length+(d.N t).p)):=HX
   have g0:¬ (0:Int)≤x:=by omega
   clear HF HG hx HX HH hin
   go_wp2_with fail
   all_goals (go_ret;exact ⟨rfl,HX2⟩)
  rcases Int.lt_or_le x (d.p:Int) with h1 | h1
  case inr =>
   obtain ⟨rfl,HX⟩:=(uh HF) (fun g=>by have:=g.2.1;omega)
   have HX2:Hid (∃ v' m',Ks S o v m v' m' w w3∧(R6 d nf t→∃ L',Zt S o L' v' m' w3∧(∀ x,x ∈ L'↔DS d (t+1) 0 x)∧L'.length≤L.length+(d.N t).p)):=HX
   have g0:¬ x < (d.p:Int):=by omega
   clear HF HG hx HX HH hin
   go_wp2_with fail
   all_goals (go_ret;exact ⟨rfl,HX2⟩)
  by_cases hss:SS d.N d.n d.m x t
  ·have HN:Hid (∀ i,i < j+1→0≤(d.N t).R i∧(d.N t).R i < (d.p:Int)∧SS d.N d.n d.m ((d.N t).R i) t):=(uh HG) ⟨h0,h1,hss⟩
   rw [dc_t (hin.2 hss)] at HH
   clear HF HG hx hin hss
   go_wp2_with fail
   refine HH.mono ?_
   rintro e w1 ⟨rfl,rfl⟩
   go_wp2_with fail
   go_roundw
   case rel=>exact ⟨j+1,by go_num,by omega,by trivial,HN⟩
   case measure=>simp [intOf];omega
  ·obtain ⟨rfl,HX⟩:=(uh HF) (fun g=>hss g.2.2)
   have HX2:Hid (∃ v' m',Ks S o v m v' m' w w3∧(R6 d nf t→∃ L',Zt S o L' v' m' w3∧(∀ x,x ∈ L'↔DS d (t+1) 0 x)∧L'.length≤L.length+(d.N t).p)):=HX
   rw [dc_f (fun g=>hss (hin.1 g))] at HH
   clear HF HG hx hin hss HX
   go_wp2_with fail
   refine HH.mono ?_
   rintro e w1 ⟨rfl,rfl⟩
   go_wp2_with fail
   go_ret
   exact ⟨rfl,HX2⟩
def Sn (G n:Nat) (D:Int→Prop) (W:World):Prop:=(∀ v:Nat,v < n→W.cell? ⟨G,v,none⟩=some (.bool (dc (D (v:Int)))))∧∀ j,W.frozen? ⟨G,j,none⟩=false
theorem Kx.refl (B:Nat) (w:World):Kx B w w:=⟨rfl,rfl,Nat.le_refl _,fun _ _ _=>rfl⟩
theorem Kx.trans {B:Nat} {a b c:World} (h:Kx B a b) (k:Kx B b c):Kx B a c:=⟨k.os.trans h.os,k.output.trans h.output,Nat.le_trans h.size k.size,fun i hi hn=>(k.block i (Nat.lt_of_lt_of_le hi h.size) hn).trans (h.block i hi hn)⟩
theorem Kx.of_kb {B:Nat} {a b:World} (h:Kb 0 a b):Kx B a b:=⟨h.os,h.output,h.size,fun k hk _=>h.block k zq hk⟩
theorem Kx.set {B:Nat} {a b:World} (h:Kx B a b) (j:Nat) (v:Value):Kx B a (b.setCell ⟨B,j,none⟩ v):=⟨h.os,h.output,by rw [World.size_setCell];exact h.size,fun k hk hn=>(Below.heap_setCell b _ _ _ hn).trans (h.block k hk hn)⟩
theorem Sn.keep {G n:Nat} {D:Int→Prop} {W W':World} (h:Sn G n D W) (hG:G < W.heap.size) (k:Kb 0 W W'):Sn G n D W':=⟨fun v hv=>k.cell (h.1 v hv),fun j=>(k.frozen zq hG).trans (h.2 j)⟩
theorem Sn.set {G n:Nat} {D D':Int→Prop} {W:World} (h:Sn G n D W) {x:Nat} (hx:x < n) (hD:∀ y:Int,D' y↔D y∨y=(x:Int)):Sn G n D' (W.setCell ⟨G,x,none⟩ (.bool true)):=by
 refine ⟨fun v hv=>?_,fun j=>(set_fz _ _ _ _ _).trans (h.2 j)⟩
 by_cases e:v=x
 ·subst e;rw [dc_t ((hD _).2 (.inr rfl))];exact set_eq _ _ _ _ _ (h.1 v hv)
 ·rw [set_ne _ _ _ _ _ e,h.1 v hv]
  congr 2
  unfold dc
  simp only [decide_eq_decide]
  rw [hD]
  exact ⟨.inl,fun g=>g.elim id (fun g=>by omega)⟩
theorem Sn.eqv {G n:Nat} {D D':Int→Prop} {W:World} (h:Sn G n D W) (hD:∀ y:Int,D' y↔D y):Sn G n D' W:=⟨fun v hv=>by
 rw [h.1 v hv]
 congr 2
 unfold dc
 simp only [decide_eq_decide]
 exact (hD _).symm,h.2⟩
theorem sp_refs27 {AN GP:Addr} {cnn cp nf ca Gs t:Nat} {pf pv pu:Option Addr} {cv cu:Nat} {e1:Option Addr} {e2 e3:Nat} {d:Fd} {PA:Nat→Int} (w:World) (ok:Fok d) (ht:t < d.n) (hnf:nf≤1048576) (hra:∀ i,i < d.n→NodeC 0 w (AN.add (i*8)) (d.N i)) (hrp:∀ k,k < d.n→w.cell? (GP.add k)=some (.int .i64 (PA k))) (hg:∃ DA,Grn d.N d.n PA DA) (hG:Gs < w.heap.size) (hs:Sn Gs d.p (DS d t 0) w) (hk:(d.N t).a.k=27):Calls Tryz.prog 40 #[.agg #[.slice pf nf ca],.agg #[.string d.x,.int .i64 d.l,.int .i64 d.m,.bool d.r,.slice pv d.p cv,.slice pu d.u cu,.slice (some AN) d.n cnn],.agg #[.slice (some GP) d.n cp,.slice e1 e2 e3],.int .i64 (t:Int),.slice (some ⟨Gs,0,none⟩) d.p d.p] w fun e w'=>e = .returned (.bool (dc (R6 d nf t)))∧Kx Gs w w'∧(R6 d nf t→Sn Gs d.p (DS d (t+1) 0) w'):=by
 have hp1:(d.N t).p=1:=ok.one t ht (by omega)
 have hiff:R6 d nf t↔0≤(d.N t).R 0∧(d.N t).R 0 < (d.u:Int):=by
  unfold R6 Dcn
  rw [hp1]
  constructor
  ·intro h;exact h.1 hk 0 (by omega)
  ·intro h
   have h':∀ j,j < 1→0≤(d.N t).R j∧(d.N t).R j < (d.u:Int):=fun j hj=>by rw [show j=0 by omega];exact h
   exact ⟨fun e=>h',fun e=>by omega,fun e=>by omega,fun e=>by omega⟩
 have hnd:¬ Dcn d.N t:=by unfold Dcn;omega
 have hpp:(d.N t).p≤1048576:=ok.hp t ht
 have hpI:((d.N t).p:Int)≤1048576:=by omega
 have htI:(t:Int) < (d.n:Int):=by omega
 have hnI:(d.n:Int)≤3000:=by have:=ok.hn;omega
 obtain ⟨R,hR⟩:∃ R,R=dc (R6 d nf t):=⟨_,rfl⟩
 have HR:Hid (R=dc (R6 d nf t)):=hR
 rw [← hR]
 obtain ⟨vr,vk,⟨y0,y1,y2,y3,y4,y5,y6,y7⟩,hrr,hrk⟩:=hra t ht
 obtain ⟨pr,cr,rfl,hr2⟩:=id hrr
 obtain ⟨pk,ck,rfl,-⟩:=id hrk
 have hst:=hst0
 have ka3:∀ a b c:Obj,Kb 0 w (((w.alloc a).alloc b).alloc c):=fun a b c=>kb_alloc3 _ _ _ _ _
 have y0a:=fun a b c=>(ka3 a b c).cell y0
 have y1a:=fun a b c=>(ka3 a b c).cell y1
 have y2a:=fun a b c=>(ka3 a b c).cell y2
 have y3a:=fun a b c=>(ka3 a b c).cell y3
 have y4a:=fun a b c=>(ka3 a b c).cell y4
 have y5a:=fun a b c=>(ka3 a b c).cell y5
 have y6a:=fun a b c=>(ka3 a b c).cell y6
 have y7a:=fun a b c=>(ka3 a b c).cell y7
 obtain ⟨w4,hw4⟩:∃ w4,w4=((((w.alloc (.cells #[.slice pf nf ca] 30)).alloc (.cells #[.string d.x,.int .i64 d.l,.int .i64 d.m,.bool d.r,.slice pv d.p cv,.slice pu d.u cu,.slice (some AN) d.n cnn] 48)).alloc (.cells #[.slice (some GP) d.n cp,.slice e1 e2 e3] 75)).alloc (.cells #[.int .i64 (d.N t).a.k,.int .i64 (d.N t).a.l,.int .i64 (d.N t).a.o,.int .i64 (d.N t).a.m,.float .f64 (d.N t).a.g,.string (d.N t).a.x,.slice pr (d.N t).p cr,.slice pk (d.N t).q ck] 59)):=⟨_,rfl⟩
 obtain ⟨q0,q1,q2,q3,k4⟩:=four_new w _ _ _ _ _ _ _ _ w4 hw4
 have HW4:Hid (w4=((((w.alloc (.cells #[.slice pf nf ca] 30)).alloc (.cells #[.string d.x,.int .i64 d.l,.int .i64 d.m,.bool d.r,.slice pv d.p cv,.slice pu d.u cu,.slice (some AN) d.n cnn] 48)).alloc (.cells #[.slice (some GP) d.n cp,.slice e1 e2 e3] 75)).alloc (.cells #[.int .i64 (d.N t).a.k,.int .i64 (d.N t).a.l,.int .i64 (d.N t).a.o,.int .i64 (d.N t).a.m,.float .f64 (d.N t).a.g,.string (d.N t).a.x,.slice pr (d.N t).p cr,.slice pk (d.N t).q ck] 59))):=hw4
 have HX:Hid (∀ n2,Kx Gs w (w4.drewN n2)∧(R6 d nf t→Sn Gs d.p (DS d (t+1) 0) (w4.drewN n2))):=(fun n2=>⟨.of_kb (k4.drewN n2),fun _=>(hs.keep hG (k4.drewN n2)).eqv (fun y=>ds_same hnd)⟩:∀ n2,_)
 obtain ⟨ra,rfl,-,-,hra'⟩:=hr2 (by omega)
 have qr:w4.cell? (ra.add 0)=some (.int .i64 ((d.N t).R 0)):=k4.cell (hra' 0 (by omega))
 have qr0:w4.cell? ra=some (.int .i64 ((d.N t).R 0)):=qr
 have n0:w4.cell? ⟨w.heap.size+1+1+1,0,none⟩=some (.int .i64 (d.N t).a.k):=cell_of q3 rfl
 have n6:w4.cell? ⟨w.heap.size+1+1+1,6,none⟩=some (.slice (some ra) (d.N t).p cr):=cell_of q3 rfl
 have f5:w4.cell? ⟨w.heap.size+1,5,none⟩=some (.slice pu d.u cu):=cell_of q1 rfl
 have u0:w4.cell? ⟨w.heap.size,0,none⟩=some (.slice pf nf ca):=cell_of q0 rfl
 have hp1I:(0:Int) < ((d.N t).p:Int):=by omega
 have huI:(d.u:Int)≤200:=by have:=ok.u2;omega
 have hnfI:(nf:Int)≤1048576:=by omega
 have g1:=beq1 hk
 have g27:((d.N t).a.k == 36)=false:=by simp;omega
 have HI:Hid (R6 d nf t↔0≤(d.N t).R 0∧(d.N t).R 0 < (d.u:Int)):=hiff
 clear hw4 q0 q1 q2 q3 k4 hra' hr2 hrr hrk hra hrp hg hs hG ok ht hnf hnd hk hiff hR ka3 y0 y1 y2 y3 y4 y5 y6 y7 hp1 qr
 generalize hkk:(d.N t).a.k=kk at *
 generalize hxx:(d.N t).R 0=x at *
 clear hkk hxx
 have mixed:Tryz.prog.follows .mixedOrders=true:=by kernel_rfl
 rcases Int.lt_or_le x 0 with h0 | h0
 ·obtain rfl:R=false:=(uh HR).trans (dc_f (fun g=>by have:=((uh HI).1 g).1;omega))
  have g0:¬ (0:Int)≤x:=by omega
  have g0b:decide ((0:Int)≤x)=false:=decide_eq_false g0
  clear HR HI
  go_enter Tryz.func40,Tryz.ntmps40
  go_wp2_with fail
  rw [← (uh HW4)]
  clear HW4 y0a y1a y2a y3a y4a y5a y6a y7a
  go_wp2_with fail
  go_quiet (skip)
  go_wp2_with fail
  all_goals (go_ret;exact ⟨by first | rfl | simp [*],(uh HX) _⟩)
 ·rcases Int.lt_or_le x (d.u:Int) with h1 | h1
  ·obtain rfl:R=true:=(uh HR).trans (dc_t ((uh HI).2 ⟨h0,h1⟩))
   clear HR HI
   go_enter Tryz.func40,Tryz.ntmps40
   go_wp2_with fail
   rw [← (uh HW4)]
   clear HW4 y0a y1a y2a y3a y4a y5a y6a y7a
   go_wp2_with fail
   go_quiet (skip)
   go_wp2_with fail
   all_goals (go_ret;exact ⟨by first | rfl | simp [*],(uh HX) _⟩)
  ·obtain rfl:R=false:=(uh HR).trans (dc_f (fun g=>by have:=((uh HI).1 g).2;omega))
   have g0:¬ x < (d.u:Int):=by omega
   clear HR HI
   go_enter Tryz.func40,Tryz.ntmps40
   go_wp2_with fail
   rw [← (uh HW4)]
   clear HW4 y0a y1a y2a y3a y4a y5a y6a y7a
   go_wp2_with fail
   go_quiet (skip)
   go_wp2_with fail
   all_goals (go_ret;exact ⟨by first | rfl | simp [*],(uh HX) _⟩)
theorem sp_refs36 {AN GP:Addr} {cnn cp nf ca Gs t:Nat} {pf pv pu:Option Addr} {cv cu:Nat} {e1:Option Addr} {e2 e3:Nat} {d:Fd} {PA:Nat→Int} (w:World) (ok:Fok d) (ht:t < d.n) (hnf:nf≤1048576) (hra:∀ i,i < d.n→NodeC 0 w (AN.add (i*8)) (d.N i)) (hrp:∀ k,k < d.n→w.cell? (GP.add k)=some (.int .i64 (PA k))) (hg:∃ DA,Grn d.N d.n PA DA) (hG:Gs < w.heap.size) (hs:Sn Gs d.p (DS d t 0) w) (hk:(d.N t).a.k=36):Calls Tryz.prog 40 #[.agg #[.slice pf nf ca],.agg #[.string d.x,.int .i64 d.l,.int .i64 d.m,.bool d.r,.slice pv d.p cv,.slice pu d.u cu,.slice (some AN) d.n cnn],.agg #[.slice (some GP) d.n cp,.slice e1 e2 e3],.int .i64 (t:Int),.slice (some ⟨Gs,0,none⟩) d.p d.p] w fun e w'=>e = .returned (.bool (dc (R6 d nf t)))∧Kx Gs w w'∧(R6 d nf t→Sn Gs d.p (DS d (t+1) 0) w'):=by
 have hp1:(d.N t).p=1:=ok.one t ht (by omega)
 have hiff:R6 d nf t↔0≤(d.N t).R 0∧(d.N t).R 0 < (nf:Int):=by
  unfold R6 Dcn
  rw [hp1]
  constructor
  ·intro h;exact h.2.1 hk 0 (by omega)
  ·intro h
   have h':∀ j,j < 1→0≤(d.N t).R j∧(d.N t).R j < (nf:Int):=fun j hj=>by rw [show j=0 by omega];exact h
   exact ⟨fun e=>by omega,fun e=>h',fun e=>by omega,fun e=>by omega⟩
 have hnd:¬ Dcn d.N t:=by unfold Dcn;omega
 have hpp:(d.N t).p≤1048576:=ok.hp t ht
 have hpI:((d.N t).p:Int)≤1048576:=by omega
 have htI:(t:Int) < (d.n:Int):=by omega
 have hnI:(d.n:Int)≤3000:=by have:=ok.hn;omega
 obtain ⟨R,hR⟩:∃ R,R=dc (R6 d nf t):=⟨_,rfl⟩
 have HR:Hid (R=dc (R6 d nf t)):=hR
 rw [← hR]
 obtain ⟨vr,vk,⟨y0,y1,y2,y3,y4,y5,y6,y7⟩,hrr,hrk⟩:=hra t ht
 obtain ⟨pr,cr,rfl,hr2⟩:=id hrr
 obtain ⟨pk,ck,rfl,-⟩:=id hrk
 have hst:=hst0
 have ka3:∀ a b c:Obj,Kb 0 w (((w.alloc a).alloc b).alloc c):=fun a b c=>kb_alloc3 _ _ _ _ _
 have y0a:=fun a b c=>(ka3 a b c).cell y0
 have y1a:=fun a b c=>(ka3 a b c).cell y1
 have y2a:=fun a b c=>(ka3 a b c).cell y2
 have y3a:=fun a b c=>(ka3 a b c).cell y3
 have y4a:=fun a b c=>(ka3 a b c).cell y4
 have y5a:=fun a b c=>(ka3 a b c).cell y5
 have y6a:=fun a b c=>(ka3 a b c).cell y6
 have y7a:=fun a b c=>(ka3 a b c).cell y7
 obtain ⟨w4,hw4⟩:∃ w4,w4=((((w.alloc (.cells #[.slice pf nf ca] 30)).alloc (.cells #[.string d.x,.int .i64 d.l,.int .i64 d.m,.bool d.r,.slice pv d.p cv,.slice pu d.u cu,.slice (some AN) d.n cnn] 48)).alloc (.cells #[.slice (some GP) d.n cp,.slice e1 e2 e3] 75)).alloc (.cells #[.int .i64 (d.N t).a.k,.int .i64 (d.N t).a.l,.int .i64 (d.N t).a.o,.int .i64 (d.N t).a.m,.float .f64 (d.N t).a.g,.string (d.N t).a.x,.slice pr (d.N t).p cr,.slice pk (d.N t).q ck] 59)):=⟨_,rfl⟩
 obtain ⟨q0,q1,q2,q3,k4⟩:=four_new w _ _ _ _ _ _ _ _ w4 hw4
 have HW4:Hid (w4=((((w.alloc (.cells #[.slice pf nf ca] 30)).alloc (.cells #[.string d.x,.int .i64 d.l,.int .i64 d.m,.bool d.r,.slice pv d.p cv,.slice pu d.u cu,.slice (some AN) d.n cnn] 48)).alloc (.cells #[.slice (some GP) d.n cp,.slice e1 e2 e3] 75)).alloc (.cells #[.int .i64 (d.N t).a.k,.int .i64 (d.N t).a.l,.int .i64 (d.N t).a.o,.int .i64 (d.N t).a.m,.float .f64 (d.N t).a.g,.string (d.N t).a.x,.slice pr (d.N t).p cr,.slice pk (d.N t).q ck] 59))):=hw4
 have HX:Hid (∀ n2,Kx Gs w (w4.drewN n2)∧(R6 d nf t→Sn Gs d.p (DS d (t+1) 0) (w4.drewN n2))):=(fun n2=>⟨.of_kb (k4.drewN n2),fun _=>(hs.keep hG (k4.drewN n2)).eqv (fun y=>ds_same hnd)⟩:∀ n2,_)
 obtain ⟨ra,rfl,-,-,hra'⟩:=hr2 (by omega)
 have qr:w4.cell? (ra.add 0)=some (.int .i64 ((d.N t).R 0)):=k4.cell (hra' 0 (by omega))
 have qr0:w4.cell? ra=some (.int .i64 ((d.N t).R 0)):=qr
 have n0:w4.cell? ⟨w.heap.size+1+1+1,0,none⟩=some (.int .i64 (d.N t).a.k):=cell_of q3 rfl
 have n6:w4.cell? ⟨w.heap.size+1+1+1,6,none⟩=some (.slice (some ra) (d.N t).p cr):=cell_of q3 rfl
 have f5:w4.cell? ⟨w.heap.size+1,5,none⟩=some (.slice pu d.u cu):=cell_of q1 rfl
 have u0:w4.cell? ⟨w.heap.size,0,none⟩=some (.slice pf nf ca):=cell_of q0 rfl
 have hp1I:(0:Int) < ((d.N t).p:Int):=by omega
 have huI:(d.u:Int)≤200:=by have:=ok.u2;omega
 have hnfI:(nf:Int)≤1048576:=by omega
 have g1:=beq1 hk
 have g27:((d.N t).a.k == 27)=false:=by simp;omega
 have HI:Hid (R6 d nf t↔0≤(d.N t).R 0∧(d.N t).R 0 < (nf:Int)):=hiff
 clear hw4 q0 q1 q2 q3 k4 hra' hr2 hrr hrk hra hrp hg hs hG ok ht hnf hnd hk hiff hR ka3 y0 y1 y2 y3 y4 y5 y6 y7 hp1 qr
 generalize hkk:(d.N t).a.k=kk at *
 generalize hxx:(d.N t).R 0=x at *
 clear hkk hxx
 have mixed:Tryz.prog.follows .mixedOrders=true:=by kernel_rfl
 rcases Int.lt_or_le x 0 with h0 | h0
 ·obtain rfl:R=false:=(uh HR).trans (dc_f (fun g=>by have:=((uh HI).1 g).1;omega))
  have g0:¬ (0:Int)≤x:=by omega
  have g0b:decide ((0:Int)≤x)=false:=decide_eq_false g0
  clear HR HI
  go_enter Tryz.func40,Tryz.ntmps40
  go_wp2_with fail
  rw [← (uh HW4)]
  clear HW4 y0a y1a y2a y3a y4a y5a y6a y7a
  go_wp2_with fail
  go_quiet (skip)
  go_wp2_with fail
  all_goals (go_ret;exact ⟨by first | rfl | simp [*],(uh HX) _⟩)
 ·rcases Int.lt_or_le x (nf:Int) with h1 | h1
  ·obtain rfl:R=true:=(uh HR).trans (dc_t ((uh HI).2 ⟨h0,h1⟩))
   clear HR HI
   go_enter Tryz.func40,Tryz.ntmps40
   go_wp2_with fail
   rw [← (uh HW4)]
   clear HW4 y0a y1a y2a y3a y4a y5a y6a y7a
   go_wp2_with fail
   go_quiet (skip)
   go_wp2_with fail
   all_goals (go_ret;exact ⟨by first | rfl | simp [*],(uh HX) _⟩)
  ·obtain rfl:R=false:=(uh HR).trans (dc_f (fun g=>by have:=((uh HI).1 g).2;omega))
   have g0:¬ x < (nf:Int):=by omega
   clear HR HI
   go_enter Tryz.func40,Tryz.ntmps40
   go_wp2_with fail
   rw [← (uh HW4)]
   clear HW4 y0a y1a y2a y3a y4a y5a y6a y7a
   go_wp2_with fail
   go_quiet (skip)
   go_wp2_with fail
   all_goals (go_ret;exact ⟨by first | rfl | simp [*],(uh HX) _⟩)
end Go.Proofs.YtfpidccjcemcjaaGreat.Fo
