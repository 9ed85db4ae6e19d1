import Derived.Test.YtfpidccjcemcjaaGreatMZsq
import Derived.Test.YtfpidccjcemcjaaGreatMNqc
import Derived.Test.YtfpidccjcemcjaaGreatMNpj
import Derived.Deep.RegionHeldLaw
set_option maxHeartbeats 16000000
namespace Go.Proofs.YtfpidccjcemcjaaGreat.Fo
open Go.ChangeShapes Go.WideShapes Go.ChangeAt Go.RowKit
set_option linter.unusedVariables false
set_option maxRecDepth 100000
theorem im_refers {B nf ca t S o b0 nn cn qk ck : Nat} {pf pv pu pr pn pk : Option Addr} {cv cu cr : Nat} {d : Fd} {a : Option Addr} {b : Bool} {l : List Vs} {L : List Int} {v m : Value} (w : World) (hf : Fok d) (ht : t < d.n) (hb : w.cell? ⟨B, 0, none⟩ = some (.slice pf nf ca)) (hB : B < b0) (hr : RowB 0 w (.slice pr (d.N t).p cr) (d.N t).p (fun i => .int .i64 ((d.N t).R i))) (hrb : 0 < (d.N t).p → ∃ a : Addr, pr = some a ∧ a.block < b0) (hs : Sco w (.pointer a) l) (hl : ∀ x, inS x l ↔ SS d.N d.n d.m x t) (hz : Zt S o L v m w) (hL : ∀ x, x ∈ L ↔ DS d t 0 x) (hlen : L.length ≤ 9000000000) (hob : Ob b0 v m) (hS : b0 ≤ S) (hnf : nf ≤ 1048576) :
  Calls Tryz.prog 87 #[.pointer (some ⟨B,0,none⟩),.agg #[.string d.x,.int .i64 d.l,.int .i64 d.m,.bool d.r,.slice pv d.p cv,.slice pu d.u cu,.slice pn nn cn],.agg #[.int .i64 (d.N t).a.k,.int .i64 (d.N t).a.l,.int .i64 (d.N t).a.o,.int .i64 (d.N t).a.m,.float .f64 (d.N t).a.g,.string (d.N t).a.x,.slice pr (d.N t).p cr,.slice pk qk ck],.agg #[.pointer a,.bool b],.pointer (some ⟨S,o,none⟩)] w fun e w'=>e = .returned (.bool (dc (R6 d nf t)))∧∃ v' m',Ks S o v m v' m' w w'∧(R6 d nf t→∃ L',Zt S o L' v' m' w'∧(∀ x,x ∈ L'↔DS d (t+1) 0 x)∧L'.length≤L.length+(d.N t).p):=by
 by_cases h27:(d.N t).a.k=27
 ·exact im_refers27 w hf ht hb hB hr hrb hs hl hz hL hlen hob hS hnf h27
 by_cases h36:(d.N t).a.k=36
 ·exact im_refers36 w hf ht hb hB hr hrb hs hl hz hL hlen hob hS hnf h36
 by_cases h26:(d.N t).a.k=26
 ·exact im_refers26 w hf ht hb hB hr hrb hs hl hz hL hlen hob hS hnf h26
 ·exact im_refers0 w hf ht hb hB hr hrb hs hl hz hL hlen hob hS hnf ⟨h26,h27,h36⟩
theorem im_wref {A : Addr} {nf ca f B : Nat} {d : Fd} (w : World) (hf : f < nf) (hnf : nf ≤ 1048576) (hb : w.cell? ⟨B, 0, none⟩ = some (.slice (some A) nf ca)) (hfn : FnC 0 w (A.add (f * 7)) d) (ok : Fok d) :
    Calls Tryz.prog 64 #[.pointer (some ⟨B,0,none⟩),.int .i64 (f:Int)] w fun e w'=>∃ r:Int,e = .returned (.int .i64 r)∧Fb (R6 d nf) d.n r∧Kb 0 w w':=by
  obtain ⟨vv,vu,vn,⟨d0,d1,d2,d3,d4,d5,d6⟩,hvv,hvu,hvn⟩:=hfn
  obtain ⟨pv,cv,rfl,-⟩:=hvv
  obtain ⟨pu,cu,rfl,-⟩:=hvu
  obtain ⟨pn,cn,rfl,hrow2⟩:=hvn
  obtain ⟨AN,rfl,hcn,-,hra⟩:=hrow2 ok.tree.pos
  obtain ⟨PR,PK,CR,CK,hsl⟩:=node_slots hra
  have hfI:(f:Int) < (nf:Int):=by omega
  have hnfI:(nf:Int)≤1048576:=by omega
  have hnI:(d.n:Int)≤3000:=by have:=ok.hn;omega
  obtain ⟨mm,hmm⟩:=Int.eq_ofNat_of_zero_le ok.m0
  have hmmI:(mm:Int)≤200:=by have:=ok.m1;have:=ok.p2;omega
  obtain ⟨w1,hw1⟩:∃ w1,w1=w.alloc (.cells #[.string d.x,.int .i64 d.l,.int .i64 d.m,.bool d.r,.slice pv d.p cv,.slice pu d.u cu,.slice (some AN) d.n cn] 48):=⟨_,rfl⟩
  have k1:Kb 0 w w1:=by rw [hw1];exact kb_alloc _ _ _
  have q1:w1.heap[w.heap.size]? = some (.cells #[.string d.x,.int .i64 d.l,.int .i64 d.m,.bool d.r,.slice pv d.p cv,.slice pu d.u cu,.slice (some AN) d.n cn] 48 (0,0)):=by rw [hw1];exact alloc_new _ _ _
  have hsp:=im_spots (Q:=fun _=>False) (d:=d) (AN:=AN) (cnn:=cn) w1 w1 ⟨_,_,_,rfl⟩ ⟨_,_,_,rfl⟩ (fun i hi=>(hra i hi).keep zq k1) (fun _ _=>rfl) (Nat.le_refl _) (fun _ h=>h.elim) hcn ok.tree ok.hn ok.hq ok.hp ok.m0 (by have:=ok.m1;have:=ok.p2;omega) (vv:=.slice pv d.p cv) (vu:=.slice pu d.u cu)
  unfold fnv at hsp
  have HSP:Hid (Calls Tryz.prog 85 #[.agg #[.string d.x,.int .i64 d.l,.int .i64 d.m,.bool d.r,.slice pv d.p cv,.slice pu d.u cu,.slice (some AN) d.n cn]] w1 fun e w'=>∃ G,e = .returned (.slice (some ⟨G,0,none⟩) d.n d.n)∧Spots (fun _=>False) G d w'∧w1.heap.size≤G∧Kb 0 w1 w'):=hsp
  have HW1:Hid (w1=w.alloc (.cells #[.string d.x,.int .i64 d.l,.int .i64 d.m,.bool d.r,.slice pv d.p cv,.slice pu d.u cu,.slice (some AN) d.n cn] 48)):=hw1
  have HB:Hid (Kb 0 w w1∧w1.heap[w.heap.size]? = some (.cells #[.string d.x,.int .i64 d.l,.int .i64 d.m,.bool d.r,.slice pv d.p cv,.slice pu d.u cu,.slice (some AN) d.n cn] 48 (0,0))∧w.cell? ⟨B,0,none⟩=some (.slice (some A) nf ca)∧Fok d∧(∀ i,i < d.n→CelN w (AN.add (i*8)) (d.N i).a (.slice (PR i) (d.N i).p (CR i)) (.slice (PK i) (d.N i).q (CK i))∧RowB 0 w (.slice (PR i) (d.N i).p (CR i)) (d.N i).p (fun j=>.int .i64 ((d.N i).R j))∧RowB 0 w (.slice (PK i) (d.N i).q (CK i)) (d.N i).q (fun j=>.int .i64 ((d.N i).K j)))∧d.m=(mm:Int)∧nf≤1048576∧w1.heap.size=w.heap.size+1):=(⟨k1,q1,hb,ok,hsl,hmm,hnf,by rw [hw1,World.size_alloc]⟩:_∧_)
  clear hw1 k1 q1 hsp hra hrow2 hsl hf hnf hcn ok hmm
  go_enter Tryz.func64,Tryz.ntmps64
  go_wp2_with fail
  rw [← (uh HW1)]
  clear HW1 d0 d1 d2 d3 d4 d5 d6 hb
  refine (uh HSP).mono ?_
  rintro e w2 ⟨G,rfl,hsp,hG,k2⟩
  clear HSP
  obtain ⟨k1,q1,hb,ok,hsl,hmm,hnf,z1⟩:=(uh HB)
  have q2:w2.heap[w.heap.size]? = some (.cells #[.string d.x,.int .i64 d.l,.int .i64 d.m,.bool d.r,.slice pv d.p cv,.slice pu d.u cu,.slice (some AN) d.n cn] 48 (0,0)):=(k2.block _ zq (by omega)).trans q1
  have z2:=k2.size
  obtain ⟨w3,hw3⟩:∃ w3,w3=w2.alloc (.cells #[.slice none 0 0,.map none] 98):=⟨_,rfl⟩
  have k3:Kb 0 w2 w3:=by rw [hw3];exact kb_alloc _ _ _
  have q3:w3.heap[w2.heap.size]? = some (.cells #[.slice none 0 0,.map none] 98 (0,0)):=by rw [hw3];exact alloc_new _ _ _
  have z3:w3.heap.size=w2.heap.size+1:=by rw [hw3,World.size_alloc]
  have f2:w2.cell? ⟨w.heap.size,2,none⟩=some (.int .i64 d.m):=cell_of q2 rfl
  have f2a:∀ o,(w2.alloc o).cell? ⟨w.heap.size,2,none⟩=some (.int .i64 (mm:Int)):=fun o=>by rw [← hmm];exact (kb_alloc 0 w2 o).cell f2
  have h0:∃ L v m,Zt w2.heap.size 0 L v m w3∧(∀ x,x ∈ L↔0≤x∧x < (0:Int))∧L.length≤0∧Ks w2.heap.size 0 (.slice none 0 0) (.map none) v m w3 w3:=⟨[],_,_,⟨cell_of q3 rfl,cell_of q3 rfl,fun j=>frozen_of q3,World.ownsRow_nil _ _ _ _,.inl ⟨rfl,rfl⟩,fun e=>by cases e⟩,fun x=>⟨fun g=>(List.not_mem_nil g).elim,fun g=>by omega⟩,by simp,Ks.refl _ _ _ _ _⟩
  have H0:Hid (∃ L v m,Zt w2.heap.size 0 L v m w3∧(∀ x,x ∈ L↔0≤x∧x < (0:Int))∧L.length≤0∧Ks w2.heap.size 0 (.slice none 0 0) (.map none) v m w3 w3):=h0
  have HW3:Hid (w3=w2.alloc (.cells #[.slice none 0 0,.map none] 98)):=hw3
  have HK:Hid (Kb 0 w w2∧Kb 0 w2 w3∧w3.heap.size=w2.heap.size+1∧w.heap.size < w2.heap.size∧w2.heap[w.heap.size]? = some (.cells #[.string d.x,.int .i64 d.l,.int .i64 d.m,.bool d.r,.slice pv d.p cv,.slice pu d.u cu,.slice (some AN) d.n cn] 48 (0,0))∧Spots (fun _=>False) G d w2∧w.cell? ⟨B,0,none⟩=some (.slice (some A) nf ca)∧Fok d∧(∀ i,i < d.n→CelN w (AN.add (i*8)) (d.N i).a (.slice (PR i) (d.N i).p (CR i)) (.slice (PK i) (d.N i).q (CK i))∧RowB 0 w (.slice (PR i) (d.N i).p (CR i)) (d.N i).p (fun j=>.int .i64 ((d.N i).R j))∧RowB 0 w (.slice (PK i) (d.N i).q (CK i)) (d.N i).q (fun j=>.int .i64 ((d.N i).K j)))∧d.m=(mm:Int)∧nf≤1048576):=(⟨k1.trans k2,k3,z3,by omega,q2,hsp,hb,ok,hsl,hmm,hnf⟩:_∧_)
  clear hsp hG k2 k1 q1 hb ok hsl hmm hnf z1 q2 z2 hw3 k3 q3 z3 f2 h0 HB
  go_wp2_with fail
  rw [← (uh HW3)]
  clear HW3 f2a
  go_loopw [22] (fun s22 wr=>∃ i:Nat,s22 = .int .i64 (i:Int)∧i≤mm∧Hid (∃ L v m,Zt w2.heap.size 0 L v m wr∧(∀ x,x ∈ L↔0≤x∧x < (i:Int))∧L.length≤i∧Ks w2.heap.size 0 (.slice none 0 0) (.map none) v m w3 wr)) (fun s22 _=>mm - (intOf s22).toNat)
  case atStart=>exact ⟨0,rfl,Nat.zero_le _,H0⟩
  case round =>
    clear H0
    obtain ⟨i,rfl,him,HI⟩:=hrel
    obtain ⟨L,v,m,hz,hL,hln,hks⟩:=(uh HI)
    rcases Nat.lt_or_ge i mm with hi | hi
    · have hiI:(i:Int) < (mm:Int):=by omega
      have HAD:=im_add (i:Int) wr hz (by omega)
      have HN:Hid (∀ w' v' m',Zt w2.heap.size 0 (addL L (i:Int)) v' m' w'→Ks w2.heap.size 0 v m v' m' wr w'→∃ L v m,Zt w2.heap.size 0 L v m w'∧(∀ x,x ∈ L↔0≤x∧x < ((i+1:Nat):Int))∧L.length≤(i+1:Nat)∧Ks w2.heap.size 0 (.slice none 0 0) (.map none) v m w3 w'):=(fun w' v' m' h1 h2=>⟨_,v',m',h1,fun x=>by
        rw [mem_addL,hL x]
        constructor
        · rintro (g | g) <;> omega
        · intro g
          by_cases e:x=(i:Int)
          · exact .inr e
          · exact .inl (by omega),by have:=len_addL (L:=L) (x:=(i:Int));omega,hks.trans h2⟩:∀ w' v' m',_)
      clear HI hz hL hln hks HK
      go_wp2_with fail
      refine HAD.mono ?_
      rintro e w4 ⟨p1,rfl,v',m',h1,h2⟩
      have HN2:Hid (∃ L v m,Zt w2.heap.size 0 L v m w4∧(∀ x,x ∈ L↔0≤x∧x < ((i+1:Nat):Int))∧L.length≤(i+1:Nat)∧Ks w2.heap.size 0 (.slice none 0 0) (.map none) v m w3 w4):=(uh HN) w4 v' m' h1 h2
      clear HN h1 h2 HAD
      go_wp2_with fail
      go_roundw
      case rel=>exact ⟨i+1,by go_num,by omega,HN2⟩
      case measure=>simp [intOf];omega
    · have ei:i=mm:=by omega
      subst ei
      obtain ⟨k2,k3,z3,z2,q2,hsp,hb,ok,hsl,hmm,hnf⟩:=(uh HK)
      have H0:Hid (∃ L v m,Zt w2.heap.size 0 L v m wr∧(∀ x,x ∈ L↔DS d 0 0 x)∧L.length≤200+0*1048576∧Ks w2.heap.size 0 (.slice none 0 0) (.map none) v m w3 wr∧∀ i,i < 0→R6 d nf i):=(⟨L,v,m,hz,fun x=>by
        rw [hL x]
        unfold DS
        rw [hmm]
        exact ⟨.inl,fun g=>g.elim id (fun g=>g.elim (fun ⟨s,hs,_⟩=>by omega) (fun ⟨_,j,hj,_⟩=>by omega))⟩,by omega,hks,fun i hi=>by omega⟩:∃ L v m,Zt w2.heap.size 0 L v m wr∧(∀ x,x ∈ L↔DS d 0 0 x)∧L.length≤200+0*1048576∧Ks w2.heap.size 0 (.slice none 0 0) (.map none) v m w3 wr∧∀ i,i < 0→R6 d nf i)
      have kw:∀ k,k < w2.heap.size→wr.heap[k]? = w2.heap[k]?:=fun k hk=>(hks.block k (by omega) (by omega) (fun e=>by cases e) (fun e=>by cases e)).trans (k3.block k zq hk)
      have f6:wr.cell? ⟨w.heap.size,6,none⟩=some (.slice (some AN) d.n cn):=(World.cell?_of_block (kw _ (by show w.heap.size < _;omega))).trans (cell_of q2 rfl)
      clear HI hz hL hln hks kw k2 k3 z3 z2 q2 hsp hb ok hsl hmm hnf him hi
      go_wp2_with fail
      clear f6
      go_loopw [31] (fun s31 wr=>∃ t:Nat,s31 = .int .i64 (t:Int)∧t≤d.n∧Hid (∃ L v m,Zt w2.heap.size 0 L v m wr∧(∀ x,x ∈ L↔DS d t 0 x)∧L.length≤200+t*1048576∧Ks w2.heap.size 0 (.slice none 0 0) (.map none) v m w3 wr∧∀ i,i < t→R6 d nf i)) (fun s31 _=>d.n - (intOf s31).toNat)
      case atStart=>exact ⟨0,rfl,Nat.zero_le _,H0⟩
      case round =>
        clear H0
        obtain ⟨t,rfl,htn,HI⟩:=hrel
        obtain ⟨L,v,m,hz,hL,hln,hks,hall⟩:=(uh HI)
        obtain ⟨k2,k3,z3,z2,q2,hsp,hb,ok,hsl,hmm,hnf⟩:=(uh HK)
        have kw:∀ k,k < w2.heap.size→wr.heap[k]? = w2.heap[k]?:=fun k hk=>(hks.block k (by omega) (by omega) (fun e=>by cases e) (fun e=>by cases e)).trans (k3.block k zq hk)
        have kwr:Kb 0 w wr:=⟨hks.os.trans (k3.os.trans k2.os),hks.output.trans (k3.output.trans k2.output),by have:=hks.size;omega,fun k _ hk=>(kw k (by omega)).trans (k2.block k zq hk)⟩
        rcases Nat.lt_or_ge t d.n with ht | ht
        case inr =>
          have et:t=d.n:=by omega
          have HX:Hid (Fb (R6 d nf) d.n (-1)∧Kb 0 w wr):=(⟨.inl ⟨rfl,fun j hj=>hall j (by omega)⟩,kwr⟩:_∧_)
          have htI:¬ (t:Int) < (d.n:Int):=by omega
          clear HI hz hL hln hks hall k2 k3 z3 z2 q2 hsp hb ok hsl hmm hnf kw kwr HK ht htn et
          go_wp2_with fail
          go_ret
          exact ⟨-1,rfl,HX.1,HX.2⟩
        have htI:(t:Int) < (d.n:Int):=by omega
        obtain ⟨⟨y0,y1,y2,y3,y4,y5,y6,y7⟩,hrr,-⟩:=hsl t ht
        replace y0:=kwr.cell y0
        replace y1:=kwr.cell y1
        replace y2:=kwr.cell y2
        replace y3:=kwr.cell y3
        replace y4:=kwr.cell y4
        replace y5:=kwr.cell y5
        replace y6:=kwr.cell y6
        replace y7:=kwr.cell y7
        obtain ⟨a,b,l,s1,s2,s3,s4,-⟩:=hsp t ht
        have hst:=hst0
        have kw2:Kb 0 w2 wr∨True:=.inr trivial
        have hGl:G < w2.heap.size:=lt_of_cell' s1
        obtain ⟨W4,hW4⟩:∃ W4,W4=wr.alloc (.cells #[.int .i64 (d.N t).a.k,.int .i64 (d.N t).a.l,.int .i64 (d.N t).a.o,.int .i64 (d.N t).a.m,.float .f64 (d.N t).a.g,.string (d.N t).a.x,.slice (PR t) (d.N t).p (CR t),.slice (PK t) (d.N t).q (CK t)] 59):=⟨_,rfl⟩
        have k4:Kb 0 wr W4:=by rw [hW4];exact kb_alloc _ _ _
        have q4:W4.heap[wr.heap.size]? = some (.cells #[.int .i64 (d.N t).a.k,.int .i64 (d.N t).a.l,.int .i64 (d.N t).a.o,.int .i64 (d.N t).a.m,.float .f64 (d.N t).a.g,.string (d.N t).a.x,.slice (PR t) (d.N t).p (CR t),.slice (PK t) (d.N t).q (CK t)] 59 (0,0)):=by rw [hW4];exact alloc_new _ _ _
        have hSl:w2.heap.size < wr.heap.size:=lt_of_cell' hz.c0
        have hvl:∀ k,v.ownBlock=some k→k < wr.heap.size:=fun k e=>(hz.row.lt k e).2
        have hml:∀ k,m = .map (some k)→k < wr.heap.size:=fun k e=>by
          rcases hz.mp with ⟨_,q⟩ | ⟨M,e1,hM⟩
          · rw [q] at e;cases e
          · obtain ⟨es,clock,hb',_⟩:=hM
            rw [e1] at e
            have:M=k:=by simpa using e
            subst this;exact lt_of_obj hb'
        have hob:Ob w2.heap.size v m:=hks.ob (b:=w2.heap.size) ⟨fun k e=>(by cases e),fun k e=>(by cases e)⟩ (by omega)
        have hlow:∀ W,Kb 0 W4 W→∀ k,k < w2.heap.size→W.heap[k]? = w2.heap[k]?:=fun W kk k hk=>(kk.block k zq (by have:=k4.size;omega)).trans ((k4.block k zq (by omega)).trans (kw k hk))
        have kb2:∀ W,Kb 0 W4 W→Kb 0 w2 W:=fun W kk=>⟨kk.os.trans (k4.os.trans (hks.os.trans k3.os)),kk.output.trans (k4.output.trans (hks.output.trans k3.output)),by have:=kk.size;have:=k4.size;omega,fun k _ hk=>hlow W kk k hk⟩
        have HELD0:(W4.cell? ⟨w.heap.size,0,none⟩=some (.string d.x)∧W4.cell? ⟨w.heap.size,1,none⟩=some (.int .i64 d.l)∧W4.cell? ⟨w.heap.size,2,none⟩=some (.int .i64 d.m)∧W4.cell? ⟨w.heap.size,3,none⟩=some (.bool d.r)∧W4.cell? ⟨w.heap.size,4,none⟩=some (.slice pv d.p cv)∧W4.cell? ⟨w.heap.size,5,none⟩=some (.slice pu d.u cu)∧W4.cell? ⟨w.heap.size,6,none⟩=some (.slice (some AN) d.n cn))∧(W4.cell? ⟨wr.heap.size,0,none⟩=some (.int .i64 (d.N t).a.k)∧W4.cell? ⟨wr.heap.size,1,none⟩=some (.int .i64 (d.N t).a.l)∧W4.cell? ⟨wr.heap.size,2,none⟩=some (.int .i64 (d.N t).a.o)∧W4.cell? ⟨wr.heap.size,3,none⟩=some (.int .i64 (d.N t).a.m)∧W4.cell? ⟨wr.heap.size,4,none⟩=some (.float .f64 (d.N t).a.g)∧W4.cell? ⟨wr.heap.size,5,none⟩=some (.string (d.N t).a.x)∧W4.cell? ⟨wr.heap.size,6,none⟩=some (.slice (PR t) (d.N t).p (CR t))∧W4.cell? ⟨wr.heap.size,7,none⟩=some (.slice (PK t) (d.N t).q (CK t)))∧W4.cell? ⟨G,t*2,none⟩=some (.pointer a)∧W4.cell? ⟨G,t*2+1,none⟩=some (.bool b):=by
          have hq:W4.heap[w.heap.size]? = some (.cells #[.string d.x,.int .i64 d.l,.int .i64 d.m,.bool d.r,.slice pv d.p cv,.slice pu d.u cu,.slice (some AN) d.n cn] 48 (0,0)):=(hlow W4 (Kb.refl _ _) _ z2).trans q2
          refine ⟨⟨cell_of hq rfl,cell_of hq rfl,cell_of hq rfl,cell_of hq rfl,cell_of hq rfl,cell_of hq rfl,cell_of hq rfl⟩,⟨cell_of q4 rfl,cell_of q4 rfl,cell_of q4 rfl,cell_of q4 rfl,cell_of q4 rfl,cell_of q4 rfl,cell_of q4 rfl,cell_of q4 rfl⟩,(kb2 W4 (Kb.refl _ _)).cell s1,(kb2 W4 (Kb.refl _ _)).cell s2⟩
        have hrb : 0 < (d.N t).p→∃ a:Addr,PR t=some a∧a.block < w2.heap.size:=fun h=>by
          obtain ⟨pa',cc',hpe,hr2⟩:=id hrr
          obtain ⟨ra,e1,e2,e3,e4⟩:=hr2 h
          obtain ⟨ep,-,-⟩:PR t=pa'∧(d.N t).p=(d.N t).p∧CR t=cc':=by simpa using hpe
          have:=lt_of_cell' (e4 0 h)
          rw [add_block] at this
          exact ⟨ra,ep.trans e1,by omega⟩
        have hBl:B < w2.heap.size:=by have:=lt_of_cell' hb;have:B < w.heap.size:=this;omega
        have HRF:Hid (∀ W,Kb 0 W4 W→Calls Tryz.prog 87 #[.pointer (some ⟨B,0,none⟩),.agg #[.string d.x,.int .i64 d.l,.int .i64 d.m,.bool d.r,.slice pv d.p cv,.slice pu d.u cu,.slice (some AN) d.n cn],.agg #[.int .i64 (d.N t).a.k,.int .i64 (d.N t).a.l,.int .i64 (d.N t).a.o,.int .i64 (d.N t).a.m,.float .f64 (d.N t).a.g,.string (d.N t).a.x,.slice (PR t) (d.N t).p (CR t),.slice (PK t) (d.N t).q (CK t)],.agg #[.pointer a,.bool b],.pointer (some ⟨w2.heap.size,0,none⟩)] W fun e w'=>e = .returned (.bool (dc (R6 d nf t)))∧∃ v' m',Ks w2.heap.size 0 v m v' m' W w'∧(R6 d nf t→∃ L',Zt w2.heap.size 0 L' v' m' w'∧(∀ x,x ∈ L'↔DS d (t+1) 0 x)∧L'.length≤L.length+(d.N t).p)):=(fun W kk=>im_refers (b0:=w2.heap.size) W ok ht (((kwr.trans k4).trans kk).cell hb) hBl (hrr.keep ((kwr.trans k4).trans kk)) hrb (s3.sco.keep (kb2 W kk)) s4 ((hz.on k4).on kk) hL (by have:=ok.hn;omega) hob (Nat.le_refl _) hnf:∀ W,_)
        have HAFT:Hid (∀ W w' v' m',Kb 0 W4 W→Ks w2.heap.size 0 v m v' m' W w'→((w'.cell? ⟨w.heap.size,0,none⟩=some (.string d.x)∧w'.cell? ⟨w.heap.size,1,none⟩=some (.int .i64 d.l)∧w'.cell? ⟨w.heap.size,2,none⟩=some (.int .i64 d.m)∧w'.cell? ⟨w.heap.size,3,none⟩=some (.bool d.r)∧w'.cell? ⟨w.heap.size,4,none⟩=some (.slice pv d.p cv)∧w'.cell? ⟨w.heap.size,5,none⟩=some (.slice pu d.u cu)∧w'.cell? ⟨w.heap.size,6,none⟩=some (.slice (some AN) d.n cn))∧(w'.cell? ⟨wr.heap.size,0,none⟩=some (.int .i64 (d.N t).a.k)∧w'.cell? ⟨wr.heap.size,1,none⟩=some (.int .i64 (d.N t).a.l)∧w'.cell? ⟨wr.heap.size,2,none⟩=some (.int .i64 (d.N t).a.o)∧w'.cell? ⟨wr.heap.size,3,none⟩=some (.int .i64 (d.N t).a.m)∧w'.cell? ⟨wr.heap.size,4,none⟩=some (.float .f64 (d.N t).a.g)∧w'.cell? ⟨wr.heap.size,5,none⟩=some (.string (d.N t).a.x)∧w'.cell? ⟨wr.heap.size,6,none⟩=some (.slice (PR t) (d.N t).p (CR t))∧w'.cell? ⟨wr.heap.size,7,none⟩=some (.slice (PK t) (d.N t).q (CK t)))∧w'.cell? ⟨G,t*2,none⟩=some (.pointer a)∧w'.cell? ⟨G,t*2+1,none⟩=some (.bool b))∧Kb 0 w w'∧Ks w2.heap.size 0 (.slice none 0 0) (.map none) v' m' w3 w'):=(fun W w' v' m' kk h2=>by
          have hz4:wr.heap.size < W4.heap.size:=lt_of_obj q4
          have hkz:=kk.size
          have lo:∀ k,k < w2.heap.size→w'.heap[k]? = w2.heap[k]?:=fun k hk=>(h2.block k (by omega) (by omega) (fun e=>by have:=hob.1 k e;omega) (fun e=>by have:=hob.2 k e;omega)).trans (hlow W kk k hk)
          have hq:w'.heap[w.heap.size]? = some (.cells #[.string d.x,.int .i64 d.l,.int .i64 d.m,.bool d.r,.slice pv d.p cv,.slice pu d.u cu,.slice (some AN) d.n cn] 48 (0,0)):=(lo _ z2).trans q2
          have hq4:w'.heap[wr.heap.size]? = some (.cells #[.int .i64 (d.N t).a.k,.int .i64 (d.N t).a.l,.int .i64 (d.N t).a.o,.int .i64 (d.N t).a.m,.float .f64 (d.N t).a.g,.string (d.N t).a.x,.slice (PR t) (d.N t).p (CR t),.slice (PK t) (d.N t).q (CK t)] 59 (0,0)):=(h2.block _ (by omega) (by omega) (fun e=>by have:=hvl _ e;omega) (fun e=>by have:=hml _ e;omega)).trans ((kk.block _ zq hz4).trans q4)
          have lc:∀ {j:Nat} {u:Value},w2.cell? ⟨G,j,none⟩=some u→w'.cell? ⟨G,j,none⟩=some u:=fun {j u} h=>(World.cell?_of_block (lo G hGl)).trans h
          refine ⟨⟨⟨cell_of hq rfl,cell_of hq rfl,cell_of hq rfl,cell_of hq rfl,cell_of hq rfl,cell_of hq rfl,cell_of hq rfl⟩,⟨cell_of hq4 rfl,cell_of hq4 rfl,cell_of hq4 rfl,cell_of hq4 rfl,cell_of hq4 rfl,cell_of hq4 rfl,cell_of hq4 rfl,cell_of hq4 rfl⟩,lc s1,lc s2⟩,?_,?_⟩
          · have:=(kwr.trans k4).trans kk
            exact ⟨h2.os.trans this.os,h2.output.trans this.output,by have:=this.size;have:=h2.size;omega,fun k _ hk=>(lo k (by omega)).trans (k2.block k zq hk)⟩
          · exact (hks.trans (Ks.of_kb (k4.trans kk) hSl)).trans h2:∀ W w' v' m',_)
        have hpt:=ok.hp t ht
        have hnt:t < 3000:=by have:=ok.hn;omega
        have HLN:Hid (L.length≤200+t*1048576∧(d.N t).p≤1048576∧∀ i,i < t→R6 d nf i):=(⟨hln,hpt,hall⟩:_∧_)
        have HW4:Hid (W4=wr.alloc (.cells #[.int .i64 (d.N t).a.k,.int .i64 (d.N t).a.l,.int .i64 (d.N t).a.o,.int .i64 (d.N t).a.m,.float .f64 (d.N t).a.g,.string (d.N t).a.x,.slice (PR t) (d.N t).p (CR t),.slice (PK t) (d.N t).q (CK t)] 59)):=hW4
        obtain ⟨⟨f0,f1,f2,f3,f4,f5,f6⟩,⟨x0,x1,x2,x3,x4,x5,x6,x7⟩,g0,g1⟩:=id HELD0
        have hc9:Hid ((W4.cell? ⟨w.heap.size,0,none⟩=some (.string d.x)∧W4.cell? ⟨w.heap.size,1,none⟩=some (.int .i64 d.l)∧W4.cell? ⟨w.heap.size,2,none⟩=some (.int .i64 d.m)∧W4.cell? ⟨w.heap.size,3,none⟩=some (.bool d.r)∧W4.cell? ⟨w.heap.size,4,none⟩=some (.slice pv d.p cv)∧W4.cell? ⟨w.heap.size,5,none⟩=some (.slice pu d.u cu)∧W4.cell? ⟨w.heap.size,6,none⟩=some (.slice (some AN) d.n cn))∧(W4.cell? ⟨wr.heap.size,0,none⟩=some (.int .i64 (d.N t).a.k)∧W4.cell? ⟨wr.heap.size,1,none⟩=some (.int .i64 (d.N t).a.l)∧W4.cell? ⟨wr.heap.size,2,none⟩=some (.int .i64 (d.N t).a.o)∧W4.cell? ⟨wr.heap.size,3,none⟩=some (.int .i64 (d.N t).a.m)∧W4.cell? ⟨wr.heap.size,4,none⟩=some (.float .f64 (d.N t).a.g)∧W4.cell? ⟨wr.heap.size,5,none⟩=some (.string (d.N t).a.x)∧W4.cell? ⟨wr.heap.size,6,none⟩=some (.slice (PR t) (d.N t).p (CR t))∧W4.cell? ⟨wr.heap.size,7,none⟩=some (.slice (PK t) (d.N t).q (CK t)))∧W4.cell? ⟨G,t*2,none⟩=some (.pointer a)∧W4.cell? ⟨G,t*2+1,none⟩=some (.bool b)):=HELD0
        clear HI hz hL hln hks hall k2 k3 z3 z2 q2 hsp hb ok hsl hmm hnf kw kwr hrr s1 s2 s3 s4 kw2 hGl hW4 k4 q4 hSl hvl hml hob hlow kb2 HELD0 hrb hBl hpt hnt HK
        have mixed:Tryz.prog.follows .mixedOrders=true:=by kernel_rfl
        by_cases h6:R6 d nf t
        · have HRF2 : Hid (∀ W, Kb 0 W4 W → Calls Tryz.prog 87 #[.pointer (some ⟨B, 0, none⟩), .agg #[.string d.x, .int .i64 d.l, .int .i64 d.m, .bool d.r, .slice pv d.p cv, .slice pu d.u cu, .slice (some AN) d.n cn], .agg #[.int .i64 (d.N t).a.k, .int .i64 (d.N t).a.l, .int .i64 (d.N t).a.o, .int .i64 (d.N t).a.m, .float .f64 (d.N t).a.g, .string (d.N t).a.x, .slice (PR t) (d.N t).p (CR t), .slice (PK t) (d.N t).q (CK t)], .agg #[.pointer a, .bool b], .pointer (some ⟨w2.heap.size, 0, none⟩)] W fun e w' => e = .returned (.bool true) ∧ ((w'.cell? ⟨w.heap.size, 0, none⟩ = some (.string d.x) ∧ w'.cell? ⟨w.heap.size, 1, none⟩ = some (.int .i64 d.l) ∧ w'.cell? ⟨w.heap.size, 2, none⟩ = some (.int .i64 d.m) ∧ w'.cell? ⟨w.heap.size, 3, none⟩ = some (.bool d.r) ∧ w'.cell? ⟨w.heap.size, 4, none⟩ = some (.slice pv d.p cv) ∧ w'.cell? ⟨w.heap.size, 5, none⟩ = some (.slice pu d.u cu) ∧ w'.cell? ⟨w.heap.size, 6, none⟩ = some (.slice (some AN) d.n cn)) ∧ (w'.cell? ⟨wr.heap.size, 0, none⟩ = some (.int .i64 (d.N t).a.k) ∧ w'.cell? ⟨wr.heap.size, 1, none⟩ = some (.int .i64 (d.N t).a.l) ∧ w'.cell? ⟨wr.heap.size, 2, none⟩ = some (.int .i64 (d.N t).a.o) ∧ w'.cell? ⟨wr.heap.size, 3, none⟩ = some (.int .i64 (d.N t).a.m) ∧ w'.cell? ⟨wr.heap.size, 4, none⟩ = some (.float .f64 (d.N t).a.g) ∧ w'.cell? ⟨wr.heap.size, 5, none⟩ = some (.string (d.N t).a.x) ∧ w'.cell? ⟨wr.heap.size, 6, none⟩ = some (.slice (PR t) (d.N t).p (CR t)) ∧ w'.cell? ⟨wr.heap.size, 7, none⟩ = some (.slice (PK t) (d.N t).q (CK t))) ∧ w'.cell? ⟨G, t * 2, none⟩ = some (.pointer a) ∧ w'.cell? ⟨G, t * 2 + 1, none⟩ = some (.bool b)) ∧ ∃ L v m, Zt w2.heap.size 0 L v m w' ∧ (∀ x, x ∈ L ↔ DS d (t + 1) 0 x) ∧ L.length ≤ 200 + (t + 1) * 1048576 ∧ Ks w2.heap.size 0 (.slice none 0 0) (.map none) v m w3 w' ∧ ∀ i, i < (t + 1) → R6 d nf i) := (fun W kk => ((uh HRF) W kk).mono fun e w' ⟨he, v', m', h2, h3⟩ => by
            obtain ⟨L',l1,l2,l3⟩:=h3 h6
            obtain ⟨a1,a2,a3⟩:=(uh HAFT) W w' v' m' kk h2
            rw [dc_t h6] at he
            refine ⟨he,a1,L',v',m',l1,l2,by have:=HLN.1;have:=HLN.2.1;omega,a3,fun i hi=>?_⟩
            by_cases ei:i=t
            · rw [ei];exact h6
            · exact HLN.2.2 i (by omega):∀ W,_)
          clear HRF HAFT HLN h6
          go_wp2_with fail
          rw [← (uh HW4)]
          clear HW4
          go_region_held_law (fun W'=>(W'.cell? ⟨w.heap.size,0,none⟩=some (.string d.x)∧W'.cell? ⟨w.heap.size,1,none⟩=some (.int .i64 d.l)∧W'.cell? ⟨w.heap.size,2,none⟩=some (.int .i64 d.m)∧W'.cell? ⟨w.heap.size,3,none⟩=some (.bool d.r)∧W'.cell? ⟨w.heap.size,4,none⟩=some (.slice pv d.p cv)∧W'.cell? ⟨w.heap.size,5,none⟩=some (.slice pu d.u cu)∧W'.cell? ⟨w.heap.size,6,none⟩=some (.slice (some AN) d.n cn))∧(W'.cell? ⟨wr.heap.size,0,none⟩=some (.int .i64 (d.N t).a.k)∧W'.cell? ⟨wr.heap.size,1,none⟩=some (.int .i64 (d.N t).a.l)∧W'.cell? ⟨wr.heap.size,2,none⟩=some (.int .i64 (d.N t).a.o)∧W'.cell? ⟨wr.heap.size,3,none⟩=some (.int .i64 (d.N t).a.m)∧W'.cell? ⟨wr.heap.size,4,none⟩=some (.float .f64 (d.N t).a.g)∧W'.cell? ⟨wr.heap.size,5,none⟩=some (.string (d.N t).a.x)∧W'.cell? ⟨wr.heap.size,6,none⟩=some (.slice (PR t) (d.N t).p (CR t))∧W'.cell? ⟨wr.heap.size,7,none⟩=some (.slice (PK t) (d.N t).q (CK t)))∧W'.cell? ⟨G,t*2,none⟩=some (.pointer a)∧W'.cell? ⟨G,t*2+1,none⟩=some (.bool b)) (first | exact s11 | exact (show (W4.cell? ⟨w.heap.size,0,none⟩=some (.string d.x)∧W4.cell? ⟨w.heap.size,1,none⟩=some (.int .i64 d.l)∧W4.cell? ⟨w.heap.size,2,none⟩=some (.int .i64 d.m)∧W4.cell? ⟨w.heap.size,3,none⟩=some (.bool d.r)∧W4.cell? ⟨w.heap.size,4,none⟩=some (.slice pv d.p cv)∧W4.cell? ⟨w.heap.size,5,none⟩=some (.slice pu d.u cu)∧W4.cell? ⟨w.heap.size,6,none⟩=some (.slice (some AN) d.n cn))∧(W4.cell? ⟨wr.heap.size,0,none⟩=some (.int .i64 (d.N t).a.k)∧W4.cell? ⟨wr.heap.size,1,none⟩=some (.int .i64 (d.N t).a.l)∧W4.cell? ⟨wr.heap.size,2,none⟩=some (.int .i64 (d.N t).a.o)∧W4.cell? ⟨wr.heap.size,3,none⟩=some (.int .i64 (d.N t).a.m)∧W4.cell? ⟨wr.heap.size,4,none⟩=some (.float .f64 (d.N t).a.g)∧W4.cell? ⟨wr.heap.size,5,none⟩=some (.string (d.N t).a.x)∧W4.cell? ⟨wr.heap.size,6,none⟩=some (.slice (PR t) (d.N t).p (CR t))∧W4.cell? ⟨wr.heap.size,7,none⟩=some (.slice (PK t) (d.N t).q (CK t)))∧W4.cell? ⟨G,t*2,none⟩=some (.pointer a)∧W4.cell? ⟨G,t*2+1,none⟩=some (.bool b) from hc9))
            ((go_at_call 87;refine ((uh HRF2) _ (by exact Kb.drewN (Kb.refl _ _) 1)).mono ?_;rintro e w11 ⟨rfl,s11,hr2⟩))
          have HN2:Hid (∃ L v m,Zt w2.heap.size 0 L v m w11∧(∀ x,x ∈ L↔DS d (t+1) 0 x)∧L.length≤200+(t+1)*1048576∧Ks w2.heap.size 0 (.slice none 0 0) (.map none) v m w3 w11∧∀ i,i < (t+1)→R6 d nf i):=hr2
          clear HRF2 hc9 s11 hr2 f0 f1 f2 f3 f4 f5 f6 x0 x1 x2 x3 x4 x5 x6 x7 g0 g1 y0 y1 y2 y3 y4 y5 y6 y7
          go_wp2_with fail
          go_roundw
          case rel=>exact ⟨t+1,by go_num,by omega,HN2⟩
          case measure=>simp [intOf];omega
        · have HRF2 : Hid (∀ W, Kb 0 W4 W → Calls Tryz.prog 87 #[.pointer (some ⟨B, 0, none⟩), .agg #[.string d.x, .int .i64 d.l, .int .i64 d.m, .bool d.r, .slice pv d.p cv, .slice pu d.u cu, .slice (some AN) d.n cn], .agg #[.int .i64 (d.N t).a.k, .int .i64 (d.N t).a.l, .int .i64 (d.N t).a.o, .int .i64 (d.N t).a.m, .float .f64 (d.N t).a.g, .string (d.N t).a.x, .slice (PR t) (d.N t).p (CR t), .slice (PK t) (d.N t).q (CK t)], .agg #[.pointer a, .bool b], .pointer (some ⟨w2.heap.size, 0, none⟩)] W fun e w' => e = .returned (.bool false) ∧ ((w'.cell? ⟨w.heap.size, 0, none⟩ = some (.string d.x) ∧ w'.cell? ⟨w.heap.size, 1, none⟩ = some (.int .i64 d.l) ∧ w'.cell? ⟨w.heap.size, 2, none⟩ = some (.int .i64 d.m) ∧ w'.cell? ⟨w.heap.size, 3, none⟩ = some (.bool d.r) ∧ w'.cell? ⟨w.heap.size, 4, none⟩ = some (.slice pv d.p cv) ∧ w'.cell? ⟨w.heap.size, 5, none⟩ = some (.slice pu d.u cu) ∧ w'.cell? ⟨w.heap.size, 6, none⟩ = some (.slice (some AN) d.n cn)) ∧ (w'.cell? ⟨wr.heap.size, 0, none⟩ = some (.int .i64 (d.N t).a.k) ∧ w'.cell? ⟨wr.heap.size, 1, none⟩ = some (.int .i64 (d.N t).a.l) ∧ w'.cell? ⟨wr.heap.size, 2, none⟩ = some (.int .i64 (d.N t).a.o) ∧ w'.cell? ⟨wr.heap.size, 3, none⟩ = some (.int .i64 (d.N t).a.m) ∧ w'.cell? ⟨wr.heap.size, 4, none⟩ = some (.float .f64 (d.N t).a.g) ∧ w'.cell? ⟨wr.heap.size, 5, none⟩ = some (.string (d.N t).a.x) ∧ w'.cell? ⟨wr.heap.size, 6, none⟩ = some (.slice (PR t) (d.N t).p (CR t)) ∧ w'.cell? ⟨wr.heap.size, 7, none⟩ = some (.slice (PK t) (d.N t).q (CK t))) ∧ w'.cell? ⟨G, t * 2, none⟩ = some (.pointer a) ∧ w'.cell? ⟨G, t * 2 + 1, none⟩ = some (.bool b)) ∧ Kb 0 w w') := (fun W kk => ((uh HRF) W kk).mono fun e w' ⟨he, v', m', h2, h3⟩ => by
            obtain ⟨a1,a2,a3⟩:=(uh HAFT) W w' v' m' kk h2
            rw [dc_f h6] at he
            exact ⟨he,a1,a2⟩:∀ W,_)
          have HFB:Hid (Fb (R6 d nf) d.n (t:Int)):=.inr ⟨t,rfl,by omega,h6,HLN.2.2⟩
          clear HRF HAFT HLN h6
          go_wp2_with fail
          rw [← (uh HW4)]
          clear HW4
          go_region_held_law (fun W'=>(W'.cell? ⟨w.heap.size,0,none⟩=some (.string d.x)∧W'.cell? ⟨w.heap.size,1,none⟩=some (.int .i64 d.l)∧W'.cell? ⟨w.heap.size,2,none⟩=some (.int .i64 d.m)∧W'.cell? ⟨w.heap.size,3,none⟩=some (.bool d.r)∧W'.cell? ⟨w.heap.size,4,none⟩=some (.slice pv d.p cv)∧W'.cell? ⟨w.heap.size,5,none⟩=some (.slice pu d.u cu)∧W'.cell? ⟨w.heap.size,6,none⟩=some (.slice (some AN) d.n cn))∧(W'.cell? ⟨wr.heap.size,0,none⟩=some (.int .i64 (d.N t).a.k)∧W'.cell? ⟨wr.heap.size,1,none⟩=some (.int .i64 (d.N t).a.l)∧W'.cell? ⟨wr.heap.size,2,none⟩=some (.int .i64 (d.N t).a.o)∧W'.cell? ⟨wr.heap.size,3,none⟩=some (.int .i64 (d.N t).a.m)∧W'.cell? ⟨wr.heap.size,4,none⟩=some (.float .f64 (d.N t).a.g)∧W'.cell? ⟨wr.heap.size,5,none⟩=some (.string (d.N t).a.x)∧W'.cell? ⟨wr.heap.size,6,none⟩=some (.slice (PR t) (d.N t).p (CR t))∧W'.cell? ⟨wr.heap.size,7,none⟩=some (.slice (PK t) (d.N t).q (CK t)))∧W'.cell? ⟨G,t*2,none⟩=some (.pointer a)∧W'.cell? ⟨G,t*2+1,none⟩=some (.bool b)) (first | exact s11 | exact (show (W4.cell? ⟨w.heap.size,0,none⟩=some (.string d.x)∧W4.cell? ⟨w.heap.size,1,none⟩=some (.int .i64 d.l)∧W4.cell? ⟨w.heap.size,2,none⟩=some (.int .i64 d.m)∧W4.cell? ⟨w.heap.size,3,none⟩=some (.bool d.r)∧W4.cell? ⟨w.heap.size,4,none⟩=some (.slice pv d.p cv)∧W4.cell? ⟨w.heap.size,5,none⟩=some (.slice pu d.u cu)∧W4.cell? ⟨w.heap.size,6,none⟩=some (.slice (some AN) d.n cn))∧(W4.cell? ⟨wr.heap.size,0,none⟩=some (.int .i64 (d.N t).a.k)∧W4.cell? ⟨wr.heap.size,1,none⟩=some (.int .i64 (d.N t).a.l)∧W4.cell? ⟨wr.heap.size,2,none⟩=some (.int .i64 (d.N t).a.o)∧W4.cell? ⟨wr.heap.size,3,none⟩=some (.int .i64 (d.N t).a.m)∧W4.cell? ⟨wr.heap.size,4,none⟩=some (.float .f64 (d.N t).a.g)∧W4.cell? ⟨wr.heap.size,5,none⟩=some (.string (d.N t).a.x)∧W4.cell? ⟨wr.heap.size,6,none⟩=some (.slice (PR t) (d.N t).p (CR t))∧W4.cell? ⟨wr.heap.size,7,none⟩=some (.slice (PK t) (d.N t).q (CK t)))∧W4.cell? ⟨G,t*2,none⟩=some (.pointer a)∧W4.cell? ⟨G,t*2+1,none⟩=some (.bool b) from hc9))
            ((go_at_call 87;refine ((uh HRF2) _ (by exact Kb.drewN (Kb.refl _ _) 1)).mono ?_;rintro e w11 ⟨rfl,s11,hr2⟩))
          have HN2:Hid (Kb 0 w w11):=hr2
          clear HRF2 hc9 s11 hr2 f0 f1 f2 f3 f4 f5 f6 x0 x1 x2 x3 x4 x5 x6 x7 g0 g1 y0 y1 y2 y3 y4 y5 y6 y7
          go_wp2_with fail
          go_ret
          exact ⟨_,rfl,HFB,HN2⟩
theorem im_oloop {A : Addr} {nf ca f B : Nat} {d : Fd} (w : World) (hf : f < nf) (hnf : nf ≤ 1048576) (hb : w.cell? ⟨B, 0, none⟩ = some (.slice (some A) nf ca)) (hfn : FnC 0 w (A.add (f * 7)) d) (ok : Fok d) :
  Calls Tryz.prog 65 #[.pointer (some ⟨B,0,none⟩),.int .i64 (f:Int)] w fun e w'=>∃ r:Int,e = .returned (.int .i64 r)∧Fb (R7 d) d.n r∧Kb 0 w w':=by
 obtain ⟨vv,vu,vn,⟨d0,d1,d2,d3,d4,d5,d6⟩,hvv,hvu,hvn⟩:=hfn
 obtain ⟨pv,cv,rfl,-⟩:=hvv
 obtain ⟨pu,cu,rfl,-⟩:=hvu
 obtain ⟨pn,cn,rfl,hrow2⟩:=hvn
 obtain ⟨AN,rfl,hcn,-,hra⟩:=hrow2 ok.tree.pos
 obtain ⟨PR,PK,CR,CK,hsl⟩:=node_slots hra
 have hfI:(f:Int) < (nf:Int):=by omega
 have hnfI:(nf:Int)≤1048576:=by omega
 have hnI:(d.n:Int)≤3000:=by have:=ok.hn;omega
 have hsp:=im_spots (Q:=fun _=>False) (d:=d) (AN:=AN) (cnn:=cn) w w ⟨_,_,_,rfl⟩ ⟨_,_,_,rfl⟩ hra (fun _ _=>rfl) (Nat.le_refl _) (fun _ h=>h.elim) hcn ok.tree ok.hn ok.hq ok.hp ok.m0 (by have:=ok.m1;have:=ok.p2;omega) (vv:=.slice pv d.p cv) (vu:=.slice pu d.u cu)
 unfold fnv at hsp
 have HSP:Hid (Calls Tryz.prog 85 #[.agg #[.string d.x,.int .i64 d.l,.int .i64 d.m,.bool d.r,.slice pv d.p cv,.slice pu d.u cu,.slice (some AN) d.n cn]] w fun e w'=>∃ G,e = .returned (.slice (some ⟨G,0,none⟩) d.n d.n)∧Spots (fun _=>False) G d w'∧w.heap.size≤G∧Kb 0 w w'):=hsp
 have HD6:Hid (w.cell? ⟨(A.add (f*7)).block,(A.add (f*7)).off+6,none⟩=some (.slice (some AN) d.n cn)∧w.cell? ⟨B,0,none⟩=some (.slice (some A) nf ca)∧(∀ i,i < d.n→CelN w (AN.add (i*8)) (d.N i).a (.slice (PR i) (d.N i).p (CR i)) (.slice (PK i) (d.N i).q (CK i))∧RowB 0 w (.slice (PR i) (d.N i).p (CR i)) (d.N i).p (fun j=>.int .i64 ((d.N i).R j))∧RowB 0 w (.slice (PK i) (d.N i).q (CK i)) (d.N i).q (fun j=>.int .i64 ((d.N i).K j)))):=(⟨d6,hb,hsl⟩:_∧_)
 clear hsp hra hrow2 hsl hf hnf hcn ok
 go_enter Tryz.func65,Tryz.ntmps65
 go_wp2_with fail
 refine (uh HSP).mono ?_
 rintro e w2 ⟨G,rfl,hsp,hG,k2⟩
 have c6:w2.cell? ⟨(A.add (f*7)).block,(A.add (f*7)).off+6,none⟩=some (.slice (some AN) d.n cn):=k2.cell HD6.1
 have cb:w2.cell? ⟨B,0,none⟩=some (.slice (some A) nf ca):=k2.cell HD6.2.1
 have HB:Hid (Spots (fun _=>False) G d w2∧Kb 0 w w2∧(∀ i,i < d.n→CelN w (AN.add (i*8)) (d.N i).a (.slice (PR i) (d.N i).p (CR i)) (.slice (PK i) (d.N i).q (CK i))∧RowB 0 w (.slice (PR i) (d.N i).p (CR i)) (d.N i).p (fun j=>.int .i64 ((d.N i).R j))∧RowB 0 w (.slice (PK i) (d.N i).q (CK i)) (d.N i).q (fun j=>.int .i64 ((d.N i).K j)))):=(⟨hsp,k2,HD6.2.2⟩:_∧_)
 clear HSP hsp hG k2 HD6 d0 d1 d2 d3 d4 d5 d6 hb
 go_wp2_with fail
 clear c6 cb
 go_loopw [25] (fun s25 wr=>∃ t:Nat,s25 = .int .i64 (t:Int)∧t≤d.n∧Hid (Kb 0 w2 wr∧∀ i,i < t→R7 d i)) (fun s25 _=>d.n - (intOf s25).toNat)
 case atStart=>exact ⟨0,rfl,Nat.zero_le _,(⟨Kb.refl _ _,fun i hi=>by omega⟩:_∧_)⟩
 case round =>
  obtain ⟨t,rfl,htn,HI⟩:=hrel
  obtain ⟨kw,hall⟩:=(uh HI)
  obtain ⟨hsp,k2,hsl⟩:=(uh HB)
  have kww:=k2.trans kw
  rcases Nat.lt_or_ge t d.n with ht | ht
  case inr =>
   have HX:Hid (Fb (R7 d) d.n (-1)∧Kb 0 w wr):=(⟨.inl ⟨rfl,fun j hj=>hall j (by omega)⟩,kww⟩:_∧_)
   have htI:¬ (t:Int) < (d.n:Int):=by omega
   clear HI kw hall HB kww hsp k2 hsl ht htn
   go_wp2_with fail
   go_ret
   exact ⟨-1,rfl,HX.1,HX.2⟩
  have htI:(t:Int) < (d.n:Int):=by omega
  obtain ⟨⟨y0,y1,y2,y3,y4,y5,y6,y7⟩,-,-⟩:=hsl t ht
  replace y0:=kww.cell y0
  replace y1:=kww.cell y1
  replace y2:=kww.cell y2
  replace y3:=kww.cell y3
  replace y4:=kww.cell y4
  replace y5:=kww.cell y5
  replace y6:=kww.cell y6
  replace y7:=kww.cell y7
  obtain ⟨a,b,l,s1,s2,-,-,hbb⟩:=hsp t ht
  have s2a:∀ o,(wr.alloc o).cell? ⟨G,t*2+1,none⟩=some (.bool b):=fun o=>(kw.trans (kb_alloc _ _ _)).cell s2
  have hst:=hst0
  clear hsp k2 hsl s1 s2 htn
  by_cases h9:(d.N t).a.k=9
  ·skip
   by_cases hl:LL d.N d.n t
   ·have hbt:b=true:=hbb.trans (dc_t hl)
    subst hbt
    have HX:Hid (Kb 0 w2 (wr.alloc (.cells #[.int .i64 (d.N t).a.k,.int .i64 (d.N t).a.l,.int .i64 (d.N t).a.o,.int .i64 (d.N t).a.m,.float .f64 (d.N t).a.g,.string (d.N t).a.x,.slice (PR t) (d.N t).p (CR t),.slice (PK t) (d.N t).q (CK t)] 59))∧∀ i,i < t+1→R7 d i):=(⟨kw.trans (kb_alloc _ _ _),fun i hi=>by
     by_cases e:i=t
     ·rw [e];exact fun _=>hl
     ·exact hall i (by omega)⟩:_∧_)
    clear HI kw hall HB hbb hl kww
    have g9:=beq1 h9
    clear h9
    generalize (d.N t).a.k=kk at *
    go_wp2_with fail
    all_goals
     go_roundw
     case rel=>exact ⟨t+1,by go_num,by omega,HX⟩
     case measure=>simp [intOf];omega
   ·have hbt:b=false:=hbb.trans (dc_f hl)
    subst hbt
    have HX:Hid (Fb (R7 d) d.n (t:Int)∧Kb 0 w (wr.alloc (.cells #[.int .i64 (d.N t).a.k,.int .i64 (d.N t).a.l,.int .i64 (d.N t).a.o,.int .i64 (d.N t).a.m,.float .f64 (d.N t).a.g,.string (d.N t).a.x,.slice (PR t) (d.N t).p (CR t),.slice (PK t) (d.N t).q (CK t)] 59))):=(⟨.inr ⟨t,rfl,ht,fun g=>hl (g (.inl h9)),hall⟩,kww.trans (kb_alloc _ _ _)⟩:_∧_)
    clear HI kw hall HB hbb hl kww
    have g9:=beq1 h9
    clear h9
    generalize (d.N t).a.k=kk at *
    go_wp2_with fail
    all_goals (go_ret;exact ⟨_,rfl,HX.1,HX.2⟩)
  by_cases h10:(d.N t).a.k=10
  ·skip
   by_cases hl:LL d.N d.n t
   ·have hbt:b=true:=hbb.trans (dc_t hl)
    subst hbt
    have HX:Hid (Kb 0 w2 (wr.alloc (.cells #[.int .i64 (d.N t).a.k,.int .i64 (d.N t).a.l,.int .i64 (d.N t).a.o,.int .i64 (d.N t).a.m,.float .f64 (d.N t).a.g,.string (d.N t).a.x,.slice (PR t) (d.N t).p (CR t),.slice (PK t) (d.N t).q (CK t)] 59))∧∀ i,i < t+1→R7 d i):=(⟨kw.trans (kb_alloc _ _ _),fun i hi=>by
     by_cases e:i=t
     ·rw [e];exact fun _=>hl
     ·exact hall i (by omega)⟩:_∧_)
    clear HI kw hall HB hbb hl kww
    have g9:=bne h9
    have g10:=beq1 h10
    clear h9 h10
    generalize (d.N t).a.k=kk at *
    go_wp2_with fail
    all_goals
     go_roundw
     case rel=>exact ⟨t+1,by go_num,by omega,HX⟩
     case measure=>simp [intOf];omega
   ·have hbt:b=false:=hbb.trans (dc_f hl)
    subst hbt
    have HX:Hid (Fb (R7 d) d.n (t:Int)∧Kb 0 w (wr.alloc (.cells #[.int .i64 (d.N t).a.k,.int .i64 (d.N t).a.l,.int .i64 (d.N t).a.o,.int .i64 (d.N t).a.m,.float .f64 (d.N t).a.g,.string (d.N t).a.x,.slice (PR t) (d.N t).p (CR t),.slice (PK t) (d.N t).q (CK t)] 59))):=(⟨.inr ⟨t,rfl,ht,fun g=>hl (g (.inr h10)),hall⟩,kww.trans (kb_alloc _ _ _)⟩:_∧_)
    clear HI kw hall HB hbb hl kww
    have g9:=bne h9
    have g10:=beq1 h10
    clear h9 h10
    generalize (d.N t).a.k=kk at *
    go_wp2_with fail
    all_goals (go_ret;exact ⟨_,rfl,HX.1,HX.2⟩)
  have HX:Hid (Kb 0 w2 (wr.alloc (.cells #[.int .i64 (d.N t).a.k,.int .i64 (d.N t).a.l,.int .i64 (d.N t).a.o,.int .i64 (d.N t).a.m,.float .f64 (d.N t).a.g,.string (d.N t).a.x,.slice (PR t) (d.N t).p (CR t),.slice (PK t) (d.N t).q (CK t)] 59))∧∀ i,i < t+1→R7 d i):=(⟨kw.trans (kb_alloc _ _ _),fun i hi=>by
   by_cases e:i=t
   ·rw [e];exact fun g=>g.elim (fun g=>absurd g h9) (fun g=>absurd g h10)
   ·exact hall i (by omega)⟩:_∧_)
  clear HI kw hall HB hbb kww
  have g9:=bne h9
  have g10:=bne h10
  clear h9 h10
  generalize (d.N t).a.k=kk at *
  go_wp2_with fail
  all_goals
   go_roundw
   case rel=>exact ⟨t+1,by go_num,by omega,HX⟩
   case measure=>simp [intOf];omega
end Go.Proofs.YtfpidccjcemcjaaGreat.Fo
