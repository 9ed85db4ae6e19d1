import Derived.Test.YtfpidccjcemcjaaGreatMZsq
import Derived.Test.YtfpidccjcemcjaaGreatMNqc
import Derived.Test.YtfpidccjcemcjaaGreatMNqd
import Derived.Deep.RegionHeldLaw
set_option maxHeartbeats 16000000
namespace Go.Proofs.YtfpidccjcemcjaaGreat.Fo
open Go.ChangeShapes Go.WideShapes Go.ChangeAt Go.RowKit
set_option linter.unusedVariables false
set_option maxRecDepth 100000
theorem mb_step {F:Nat→Fd} {f t:Nat} {x:Int}:MB F f (t+1) x↔MB F f t x∨(((F f).N t).a.k=36∧((F f).N t).R 0=x):=by
 unfold MB
 constructor
 ·rintro (g | ⟨t',h1,h2⟩)
  ·exact .inl (.inl g)
  ·by_cases e:t'=t
   ·subst e;exact .inr h2
   ·exact .inl (.inr ⟨t',by omega,h2⟩)
 ·rintro ((g | ⟨t',h1,h2⟩) | g)
  ·exact .inl g
  ·exact .inr ⟨t',by omega,h2⟩
  ·exact .inr ⟨t,by omega,g⟩
theorem mb_next {F:Nat→Fd} {f:Nat} {x:Int}:MB F f (F f).n x↔MB F (f+1) 0 x:=by
 unfold MB
 constructor
 ·rintro (⟨f',t',h1,h2⟩ | ⟨t',h1,h2⟩)
  ·exact .inl ⟨f',t',by omega,h2⟩
  ·exact .inl ⟨f,t',by omega,h1,h2⟩
 ·rintro (⟨f',t',h1,h2,h3⟩ | ⟨t',h1,_⟩)
  ·by_cases e:f'=f
   ·subst e;exact .inr ⟨t',h2,h3⟩
   ·exact .inl ⟨f',t',by omega,h2,h3⟩
  ·omega
theorem im_unmade {B f:Nat} {L:List Int} {v m:Value} (w:World) (hz:Zt B 1 L v m w):Calls Tryz.prog 67 #[.pointer (some ⟨B,0,none⟩),.int .i64 (f:Int)] w fun e w'=>∃ r:Int,e = .returned (.int .i64 r)∧Fb (fun _=>f=0∨(f:Int) ∈ L) 1 r∧w'=w:=by
 have HH:=im_has (f:Int) w hz
 rcases Nat.eq_zero_or_pos f with h0 | h0
 ·subst h0
  clear hz HH
  go_enter Tryz.func67,Tryz.ntmps67
  go_wp2_with fail
  all_goals (go_ret;exact ⟨-1,rfl,.inl ⟨rfl,fun _ _=>.inl (by trivial)⟩,rfl⟩)
 ·have g0:(0:Int) < (f:Int):=by omega
  by_cases hm:(f:Int) ∈ L
  ·rw [dc_t hm] at HH
   have HX:Hid (Fb (fun _=>f=0∨(f:Int) ∈ L) 1 (-1)):=.inl ⟨rfl,fun _ _=>.inr hm⟩
   clear hz hm h0
   go_enter Tryz.func67,Tryz.ntmps67
   go_wp2_with fail
   refine HH.mono ?_
   rintro e w1 ⟨rfl,rfl⟩
   go_wp2_with fail
   go_ret
   exact ⟨-1,rfl,HX,rfl⟩
  ·rw [dc_f hm] at HH
   have HX:Hid (Fb (fun _=>f=0∨(f:Int) ∈ L) 1 0):=.inr ⟨0,rfl,by omega,fun g=>g.elim (fun g=>by omega) hm,fun i hi=>by omega⟩
   clear hz hm h0
   go_enter Tryz.func67,Tryz.ntmps67
   go_wp2_with fail
   refine HH.mono ?_
   rintro e w1 ⟨rfl,rfl⟩
   go_wp2_with fail
   go_ret
   exact ⟨0,rfl,HX,rfl⟩
set_option pp.maxSteps 200000 in
set_option pp.deepTerms true in
theorem im_wmake {A : Addr} {nf ca f B : Nat} {F : Nat → Fd} {L : List Int} {v m : Value} (w0 w : World) (hf : f < nf) (hnf : nf ≤ 1048576) (hb : w.cell? ⟨B, 0, none⟩ = some (.slice (some A) nf ca)) (hfn : ∀ g, g < nf → FnC 0 w0 (A.add (g * 7)) (F g)) (hk0 : Kb 0 w0 w) (hB : w0.heap.size ≤ B) (ok : ∀ g, g < nf → Fok (F g)) (h6 : ∀ t, t < (F f).n → R6 (F f) nf t)
  (hz:Zt B 1 L v m w) (hL:∀ x,x ∈ L↔MB F f 0 x) (hlen:L.length≤9000000000) (hob:Ob w0.heap.size v m) :
  Calls Tryz.prog 66 #[.pointer (some ⟨B,0,none⟩),.int .i64 (f:Int)] w fun e w'=>∃ r:Int,e = .returned (.int .i64 r)∧Fb (R8 F f) (F f).n r∧∃ v' m',Ks B 1 v m v' m' w w'∧(r = -1→∃ L',Zt B 1 L' v' m' w'∧(∀ x,x ∈ L'↔MB F (f+1) 0 x)∧L'.length≤L.length+(F f).n):=by
 have h0:∀ k,k < w0.heap.size→w.heap[k]? = w0.heap[k]?:=fun k hk=>hk0.block k zq hk
 have HO:Hid (w.os=w0.os∧w.output=w0.output):=(⟨hk0.os,hk0.output⟩:_∧_)
 clear hk0
 have hBl:B < w.heap.size:=lt_of_cell' hb
 have okf:=ok f hf
 have hvl:∀ k,v.ownBlock=some k→k < w.heap.size:=fun k e=>(hz.row.lt k e).2
 have hml:∀ k,m = .map (some k)→k < w.heap.size:=fun k e=>by
  rcases hz.mp with ⟨_,q⟩ | ⟨M,e1,hM⟩
  ·rw [q] at e;cases e
  ·obtain ⟨es,clock,hb',_⟩:=hM
   rw [e1] at e
   have:M=k:=by simpa using e
   subst this;exact lt_of_obj hb'
 have hQ:∀ k,(fun k=>k=B∨v.ownBlock=some k∨m = .map (some k)) k→w0.heap.size≤k∧k < w.heap.size:=by
  rintro k (e | e | e)
  ·exact ⟨by omega,by omega⟩
  ·exact ⟨hob.1 k e,hvl k e⟩
  ·exact ⟨hob.2 k e,hml k e⟩
 obtain ⟨vv,vu,vn,hce0,hvv,hvu,hvn⟩:=hfn f hf
 obtain ⟨pv,cv,rfl,-⟩:=hvv
 obtain ⟨pu,cu,rfl,-⟩:=hvu
 obtain ⟨pn,cn,rfl,hrow2⟩:=hvn
 obtain ⟨AN,rfl,hcn,-,hra⟩:=hrow2 okf.tree.pos
 obtain ⟨PR,PK,CR,CK,hsl⟩:=node_slots hra
 have kl:∀ {p:Addr} {u:Value},w0.cell? p=some u→w.cell? p=some u:=fun {p u} h=>(World.cell?_of_block (h0 _ (lt_of_cell' h))).trans h
 obtain ⟨d0,d1,d2,d3,d4,d5,d6⟩:=hce0
 replace d0:=kl d0
 replace d1:=kl d1
 replace d2:=kl d2
 replace d3:=kl d3
 replace d4:=kl d4
 replace d5:=kl d5
 replace d6:=kl d6
 have hfI:(f:Int) < (nf:Int):=by omega
 have hnfI:(nf:Int)≤1048576:=by omega
 have hnI:((F f).n:Int)≤3000:=by have:=okf.hn;omega
 obtain ⟨w1,hw1⟩:∃ w1,w1=w.alloc (.cells #[.string (F f).x,.int .i64 (F f).l,.int .i64 (F f).m,.bool (F f).r,.slice pv (F f).p cv,.slice pu (F f).u cu,.slice (some AN) (F f).n cn] 48):=⟨_,rfl⟩
 have k1:Kb 0 w w1:=by rw [hw1];exact kb_alloc _ _ _
 have q1:w1.heap[w.heap.size]? = some (.cells #[.string (F f).x,.int .i64 (F f).l,.int .i64 (F f).m,.bool (F f).r,.slice pv (F f).p cv,.slice pu (F f).u cu,.slice (some AN) (F f).n cn] 48 (0,0)):=by rw [hw1];exact alloc_new _ _ _
 have z1:w1.heap.size=w.heap.size+1:=by rw [hw1,World.size_alloc]
 have hz0:w0.heap.size≤w.heap.size:=by omega
 have hsp:=im_spots (Q:=(fun k=>k=B∨v.ownBlock=some k∨m = .map (some k))) (d:=F f) (AN:=AN) (cnn:=cn) w0 w1 ⟨_,_,_,rfl⟩ ⟨_,_,_,rfl⟩ hra (fun k hk=>(k1.block k zq (by omega)).trans (h0 k hk)) (by omega) (fun k hk=>⟨(hQ k hk).1,by have:=(hQ k hk).2;omega⟩) hcn okf.tree okf.hn okf.hq okf.hp okf.m0 (by have:=okf.m1;have:=okf.p2;omega) (vv:=.slice pv (F f).p cv) (vu:=.slice pu (F f).u cu)
 unfold fnv at hsp
 have HSP:Hid (Calls Tryz.prog 85 #[.agg #[.string (F f).x,.int .i64 (F f).l,.int .i64 (F f).m,.bool (F f).r,.slice pv (F f).p cv,.slice pu (F f).u cu,.slice (some AN) (F f).n cn]] w1 fun e w'=>∃ G,e = .returned (.slice (some ⟨G,0,none⟩) (F f).n (F f).n)∧Spots (fun k=>k=B∨v.ownBlock=some k∨m = .map (some k)) G (F f) w'∧w1.heap.size≤G∧Kb 0 w1 w'):=hsp
 have HW1:Hid (w1=w.alloc (.cells #[.string (F f).x,.int .i64 (F f).l,.int .i64 (F f).m,.bool (F f).r,.slice pv (F f).p cv,.slice pu (F f).u cu,.slice (some AN) (F f).n cn] 48)):=hw1
 have HB0:Hid (Kb 0 w w1∧w1.heap[w.heap.size]? = some (.cells #[.string (F f).x,.int .i64 (F f).l,.int .i64 (F f).m,.bool (F f).r,.slice pv (F f).p cv,.slice pu (F f).u cu,.slice (some AN) (F f).n cn] 48 (0,0))∧w1.heap.size=w.heap.size+1∧w.cell? ⟨B,0,none⟩=some (.slice (some A) nf ca)∧(∀ i,i < (F f).n→CelN w0 (AN.add (i*8)) ((F f).N i).a (.slice (PR i) ((F f).N i).p (CR i)) (.slice (PK i) ((F f).N i).q (CK i))∧RowB 0 w0 (.slice (PR i) ((F f).N i).p (CR i)) ((F f).N i).p (fun j=>.int .i64 (((F f).N i).R j))∧RowB 0 w0 (.slice (PK i) ((F f).N i).q (CK i)) ((F f).N i).q (fun j=>.int .i64 (((F f).N i).K j)))∧(∀ g,g < nf→FnC 0 w0 (A.add (g*7)) (F g))∧(∀ k,k < w0.heap.size→w.heap[k]? = w0.heap[k]?)∧w0.heap.size≤B∧(∀ g,g < nf→Fok (F g))∧(∀ t,t < (F f).n→R6 (F f) nf t)∧nf≤1048576∧(∀ k,(fun k=>k=B∨v.ownBlock=some k∨m = .map (some k)) k→w0.heap.size≤k∧k < w.heap.size)∧L.length≤9000000000∧Zt B 1 L v m w∧(∀ x,x ∈ L↔MB F f 0 x)∧w0.heap.size≤w.heap.size):=(⟨k1,q1,z1,hb,hsl,hfn,h0,hB,ok,h6,hnf,hQ,hlen,hz,hL,hz0⟩:_∧_)
 clear hw1 k1 q1 z1 hsp hra hrow2 hsl hf hnf hcn ok okf hvl hml hQ hob hlen hz hL h6 hB h0 hfn kl hBl hz0
 go_enter Tryz.func66,Tryz.ntmps66
 go_wp2_with fail
 rw [← (uh HW1)]
 clear HW1 d0 d1 d2 d3 d4 d5 d6 hb
 refine (uh HSP).mono ?_
 rintro e w2 ⟨G,rfl,hsp,hG,k2⟩
 clear HSP
 obtain ⟨k1,q1,z1,hb,hsl,hfn,h0,hB,ok,h6,hnf,hQ,hlen,hz,hL,hz0⟩:=(uh HB0)
 have q2:w2.heap[w.heap.size]? = some (.cells #[.string (F f).x,.int .i64 (F f).l,.int .i64 (F f).m,.bool (F f).r,.slice pv (F f).p cv,.slice pu (F f).u cu,.slice (some AN) (F f).n cn] 48 (0,0)):=(k2.block _ zq (by omega)).trans q1
 have kk2:=k1.trans k2
 have z2:=k2.size
 have f6:w2.cell? ⟨w.heap.size,6,none⟩=some (.slice (some AN) (F f).n cn):=cell_of q2 rfl
 have H0:Hid (∃ L2 v2 m2,Zt B 1 L2 v2 m2 w2∧(∀ x,x ∈ L2↔MB F f 0 x)∧L2.length≤L.length+0∧Ks B 1 v m v2 m2 w2 w2∧∀ i,i < 0→R8 F f i):=(⟨L,v,m,hz.on kk2,hL,by omega,Ks.refl _ _ _ _ _,fun i hi=>by omega⟩:∃ L2 v2 m2,Zt B 1 L2 v2 m2 w2∧(∀ x,x ∈ L2↔MB F f 0 x)∧L2.length≤L.length+0∧Ks B 1 v m v2 m2 w2 w2∧∀ i,i < 0→R8 F f i)
 have HB:Hid (Kb 0 w w2∧w2.heap[w.heap.size]? = some (.cells #[.string (F f).x,.int .i64 (F f).l,.int .i64 (F f).m,.bool (F f).r,.slice pv (F f).p cv,.slice pu (F f).u cu,.slice (some AN) (F f).n cn] 48 (0,0))∧Spots (fun k=>k=B∨v.ownBlock=some k∨m = .map (some k)) G (F f) w2∧w.heap.size+1≤G∧w.heap.size < w2.heap.size∧(∀ i,i < (F f).n→CelN w0 (AN.add (i*8)) ((F f).N i).a (.slice (PR i) ((F f).N i).p (CR i)) (.slice (PK i) ((F f).N i).q (CK i))∧RowB 0 w0 (.slice (PR i) ((F f).N i).p (CR i)) ((F f).N i).p (fun j=>.int .i64 (((F f).N i).R j))∧RowB 0 w0 (.slice (PK i) ((F f).N i).q (CK i)) ((F f).N i).q (fun j=>.int .i64 (((F f).N i).K j)))∧(∀ g,g < nf→FnC 0 w0 (A.add (g*7)) (F g))∧(∀ k,k < w0.heap.size→w2.heap[k]? = w0.heap[k]?)∧w0.heap.size≤B∧(∀ g,g < nf→Fok (F g))∧(∀ t,t < (F f).n→R6 (F f) nf t)∧nf≤1048576∧w2.cell? ⟨B,0,none⟩=some (.slice (some A) nf ca)∧(∀ k,(fun k=>k=B∨v.ownBlock=some k∨m = .map (some k)) k→w0.heap.size≤k∧k < w.heap.size)∧L.length≤9000000000):=(⟨kk2,q2,hsp,by omega,by omega,hsl,hfn,fun k hk=>(kk2.block k zq (by omega)).trans (h0 k hk),hB,ok,h6,hnf,kk2.cell hb,hQ,hlen⟩:Kb 0 w w2∧w2.heap[w.heap.size]? = some (.cells #[.string (F f).x,.int .i64 (F f).l,.int .i64 (F f).m,.bool (F f).r,.slice pv (F f).p cv,.slice pu (F f).u cu,.slice (some AN) (F f).n cn] 48 (0,0))∧Spots (fun k=>k=B∨v.ownBlock=some k∨m = .map (some k)) G (F f) w2∧w.heap.size+1≤G∧w.heap.size < w2.heap.size∧(∀ i,i < (F f).n→CelN w0 (AN.add (i*8)) ((F f).N i).a (.slice (PR i) ((F f).N i).p (CR i)) (.slice (PK i) ((F f).N i).q (CK i))∧RowB 0 w0 (.slice (PR i) ((F f).N i).p (CR i)) ((F f).N i).p (fun j=>.int .i64 (((F f).N i).R j))∧RowB 0 w0 (.slice (PK i) ((F f).N i).q (CK i)) ((F f).N i).q (fun j=>.int .i64 (((F f).N i).K j)))∧(∀ g,g < nf→FnC 0 w0 (A.add (g*7)) (F g))∧(∀ k,k < w0.heap.size→w2.heap[k]? = w0.heap[k]?)∧w0.heap.size≤B∧(∀ g,g < nf→Fok (F g))∧(∀ t,t < (F f).n→R6 (F f) nf t)∧nf≤1048576∧w2.cell? ⟨B,0,none⟩=some (.slice (some A) nf ca)∧(∀ k,(fun k=>k=B∨v.ownBlock=some k∨m = .map (some k)) k→w0.heap.size≤k∧k < w.heap.size)∧L.length≤9000000000)
 clear hsp hG k2 k1 q1 hb ok hsl hnf z1 q2 z2 HB0 hfn h0 hB h6 hQ hlen hz hL kk2 hz0
 go_wp2_with fail
 clear f6
 go_loopw [24] (fun s24 wr=>∃ t:Nat,s24 = .int .i64 (t:Int)∧t≤(F f).n∧Hid (∃ L2 v2 m2,Zt B 1 L2 v2 m2 wr∧(∀ x,x ∈ L2↔MB F f t x)∧L2.length≤L.length+t∧Ks B 1 v m v2 m2 w2 wr∧∀ i,i < t→R8 F f i)) (fun s24 _=>(F f).n - (intOf s24).toNat)
 case atStart=>exact ⟨0,rfl,Nat.zero_le _,H0⟩
 case round =>
  clear H0
  obtain ⟨t,rfl,htn,HI⟩:=hrel
  obtain ⟨L2,v2,m2,hz2,hL2,hln,hks,hall⟩:=(uh HI)
  obtain ⟨kk2,q2,hsp,hG,z2,hsl,hfn,h0,hB,ok,h6,hnf,hb,hQ,hlen⟩:=(uh HB)
  have hSl:B < wr.heap.size:=lt_of_cell' hz2.c0
  have ksw:Ks B 1 v m v2 m2 w wr:=(Ks.of_kb kk2 (hQ B (.inl rfl)).2).trans hks
  rcases Nat.lt_or_ge t (F f).n with ht | ht
  case inr =>
   have et:t=(F f).n:=by omega
   obtain ⟨rr,hrr⟩:∃ rr:Int,Hid (rr = -1):=⟨-1,(rfl:(-1:Int) = -1)⟩
   have HX:Hid (Fb (R8 F f) (F f).n rr∧∃ v' m',Ks B 1 v m v' m' w wr∧(rr = -1→∃ L',Zt B 1 L' v' m' wr∧(∀ x,x ∈ L'↔MB F (f+1) 0 x)∧L'.length≤L.length+(F f).n)):=(⟨.inl ⟨hrr,fun j hj=>hall j (by omega)⟩,v2,m2,ksw,fun _=>⟨L2,hz2,fun x=>by rw [hL2 x,et];exact mb_next,by omega⟩⟩:Fb (R8 F f) (F f).n rr∧∃ v' m',Ks B 1 v m v' m' w wr∧(rr = -1→∃ L',Zt B 1 L' v' m' wr∧(∀ x,x ∈ L'↔MB F (f+1) 0 x)∧L'.length≤L.length+(F f).n))
   have htI:¬ (t:Int) < ((F f).n:Int):=by omega
   clear HI hz2 hL2 hln hks hall kk2 q2 hsp hG z2 hsl hfn h0 hB ok h6 hnf hb hQ hlen hSl ksw HB ht htn et
   go_wp2_with fail
   go_ret
   have e:=(show rr = -1 from hrr)
   subst e
   exact ⟨_,rfl,HX⟩
  have htI:(t:Int) < ((F f).n:Int):=by omega
  have kw:∀ k,k < w2.heap.size→¬ (fun k=>k=B∨v.ownBlock=some k∨m = .map (some k)) k→wr.heap[k]? = w2.heap[k]?:=fun k hk hq=>hks.block k hk (fun e=>hq (.inl e)) (fun e=>hq (.inr (.inl e))) (fun e=>hq (.inr (.inr e)))
  have k0w:∀ k,k < w0.heap.size→wr.heap[k]? = w0.heap[k]?:=fun k hk=>(kw k (by have:=hQ B (.inl rfl);omega) (fun g=>by have:=(hQ k g).1;omega)).trans (h0 k hk)
  have kl:∀ {p:Addr} {u:Value},w0.cell? p=some u→wr.cell? p=some u:=fun {p u} h=>(World.cell?_of_block (k0w _ (lt_of_cell' h))).trans h
  obtain ⟨⟨y0,y1,y2,y3,y4,y5,y6,y7⟩,hrr,-⟩:=hsl t ht
  replace y0:=kl y0
  replace y1:=kl y1
  replace y2:=kl y2
  replace y3:=kl y3
  replace y4:=kl y4
  replace y5:=kl y5
  replace y6:=kl y6
  replace y7:=kl y7
  have hst:=hst0
  have k4:=fun o=>kb_alloc 0 wr o
  have hF0:¬ (fun k=>k=B∨v.ownBlock=some k∨m = .map (some k)) w.heap.size:=fun g=>by have:=(hQ _ g).2;omega
  have qF:wr.heap[w.heap.size]? = some (.cells #[.string (F f).x,.int .i64 (F f).l,.int .i64 (F f).m,.bool (F f).r,.slice pv (F f).p cv,.slice pu (F f).u cu,.slice (some AN) (F f).n cn] 48 (0,0)):=(kw _ z2 hF0).trans q2
  have r3a:∀ o,(wr.alloc o).cell? ⟨w.heap.size,3,none⟩=some (.bool (F f).r):=fun o=>(k4 o).cell (cell_of qF rfl)
  have HRET:Hid (¬ R8 F f t→∀ W v' m',Ks B 1 v m v' m' w W→Fb (R8 F f) (F f).n (t:Int)∧∃ v' m',Ks B 1 v m v' m' w W∧((t:Int) = -1→∃ L',Zt B 1 L' v' m' W∧(∀ x,x ∈ L'↔MB F (f+1) 0 x)∧L'.length≤L.length+(F f).n)):=(fun g W v' m' hk=>⟨.inr ⟨t,rfl,ht,g,hall⟩,v',m',hk,fun e=>by omega⟩:_→_)
  have HNXT:Hid (R8 F f t→∀ W L3 v3 m3,Zt B 1 L3 v3 m3 W→(∀ x,x ∈ L3↔MB F f (t+1) x)→L3.length≤L.length+(t+1)→Ks B 1 v2 m2 v3 m3 wr W→∃ L2 v2 m2,Zt B 1 L2 v2 m2 W∧(∀ x,x ∈ L2↔MB F f (t+1) x)∧L2.length≤L.length+(t+1)∧Ks B 1 v m v2 m2 w2 W∧∀ i,i < (t+1)→R8 F f i):=(fun g W L3 v3 m3 h1 h2 h3 h5=>⟨L3,v3,m3,h1,h2,h3,hks.trans h5,fun i hi=>by
   by_cases e:i=t
   ·rw [e];exact g
   ·exact hall i (by omega)⟩:_→_)
  by_cases h37:((F f).N t).a.k=37
  ·have g37:=beq1 h37
   cases hrs:(F f).r with
   | true =>
    have h8:R8 F f t:=⟨fun _=>hrs,fun e=>by omega⟩
    have HX:Hid (∃ L2 v2 m2,Zt B 1 L2 v2 m2 (wr.alloc (.cells #[.int .i64 ((F f).N t).a.k,.int .i64 ((F f).N t).a.l,.int .i64 ((F f).N t).a.o,.int .i64 ((F f).N t).a.m,.float .f64 ((F f).N t).a.g,.string ((F f).N t).a.x,.slice (PR t) ((F f).N t).p (CR t),.slice (PK t) ((F f).N t).q (CK t)] 59))∧(∀ x,x ∈ L2↔MB F f (t+1) x)∧L2.length≤L.length+(t+1)∧Ks B 1 v m v2 m2 w2 (wr.alloc (.cells #[.int .i64 ((F f).N t).a.k,.int .i64 ((F f).N t).a.l,.int .i64 ((F f).N t).a.o,.int .i64 ((F f).N t).a.m,.float .f64 ((F f).N t).a.g,.string ((F f).N t).a.x,.slice (PR t) ((F f).N t).p (CR t),.slice (PK t) ((F f).N t).q (CK t)] 59))∧∀ i,i < (t+1)→R8 F f i):=(uh HNXT) h8 _ L2 v2 m2 (hz2.on (k4 _)) (fun x=>by rw [hL2 x,mb_step];exact ⟨.inl,fun g=>g.elim id (fun g=>by omega)⟩) (by omega) (Ks.of_kb (k4 _) hSl)
    rw [hrs] at r3a
    clear HI hz2 hL2 hln hks hall kk2 q2 hsp hG z2 hsl hfn h0 hB ok h6 hnf hb hQ hlen hSl ksw HB htn kw k0w kl hrr k4 hF0 qF HRET HNXT h37 h8
    generalize ((F f).N t).a.k=kk at *
    go_wp2_with fail
    go_roundw
    case rel=>exact ⟨t+1,by go_num,by omega,HX⟩
    case measure=>simp [intOf];omega
   | false =>
    have h8:¬ R8 F f t:=fun g=>by have:=g.1 h37;rw [hrs] at this;cases this
    have HX:Hid (Fb (R8 F f) (F f).n (t:Int)∧∃ v' m',Ks B 1 v m v' m' w (wr.alloc (.cells #[.int .i64 ((F f).N t).a.k,.int .i64 ((F f).N t).a.l,.int .i64 ((F f).N t).a.o,.int .i64 ((F f).N t).a.m,.float .f64 ((F f).N t).a.g,.string ((F f).N t).a.x,.slice (PR t) ((F f).N t).p (CR t),.slice (PK t) ((F f).N t).q (CK t)] 59))∧((t:Int) = -1→∃ L',Zt B 1 L' v' m' (wr.alloc (.cells #[.int .i64 ((F f).N t).a.k,.int .i64 ((F f).N t).a.l,.int .i64 ((F f).N t).a.o,.int .i64 ((F f).N t).a.m,.float .f64 ((F f).N t).a.g,.string ((F f).N t).a.x,.slice (PR t) ((F f).N t).p (CR t),.slice (PK t) ((F f).N t).q (CK t)] 59))∧(∀ x,x ∈ L'↔MB F (f+1) 0 x)∧L'.length≤L.length+(F f).n)):=(uh HRET) h8 _ v2 m2 (ksw.trans (Ks.of_kb (k4 _) hSl))
    rw [hrs] at r3a
    clear HI hz2 hL2 hln hks hall kk2 q2 hsp hG z2 hsl hfn h0 hB ok h6 hnf hb hQ hlen hSl ksw HB htn kw k0w kl hrr k4 hF0 qF HRET HNXT h37 h8
    generalize ((F f).N t).a.k=kk at *
    go_wp2_with fail
    all_goals (go_ret;exact ⟨_,rfl,HX⟩)
  have g37:=bne h37
  by_cases h36:((F f).N t).a.k=36
  case neg =>
   have g36:=bne h36
   have h8:R8 F f t:=⟨fun e=>absurd e h37,fun e=>absurd e h36⟩
   have HX:Hid (∃ L2 v2 m2,Zt B 1 L2 v2 m2 (wr.alloc (.cells #[.int .i64 ((F f).N t).a.k,.int .i64 ((F f).N t).a.l,.int .i64 ((F f).N t).a.o,.int .i64 ((F f).N t).a.m,.float .f64 ((F f).N t).a.g,.string ((F f).N t).a.x,.slice (PR t) ((F f).N t).p (CR t),.slice (PK t) ((F f).N t).q (CK t)] 59))∧(∀ x,x ∈ L2↔MB F f (t+1) x)∧L2.length≤L.length+(t+1)∧Ks B 1 v m v2 m2 w2 (wr.alloc (.cells #[.int .i64 ((F f).N t).a.k,.int .i64 ((F f).N t).a.l,.int .i64 ((F f).N t).a.o,.int .i64 ((F f).N t).a.m,.float .f64 ((F f).N t).a.g,.string ((F f).N t).a.x,.slice (PR t) ((F f).N t).p (CR t),.slice (PK t) ((F f).N t).q (CK t)] 59))∧∀ i,i < (t+1)→R8 F f i):=(uh HNXT) h8 _ L2 v2 m2 (hz2.on (k4 _)) (fun x=>by rw [hL2 x,mb_step];exact ⟨.inl,fun g=>g.elim id (fun g=>absurd g.1 h36)⟩) (by omega) (Ks.of_kb (k4 _) hSl)
   clear HI hz2 hL2 hln hks hall kk2 q2 hsp hG z2 hsl hfn h0 hB ok h6 hnf hb hQ hlen hSl ksw HB htn kw k0w kl hrr k4 hF0 qF HRET HNXT h37 h36 h8 r3a
   generalize ((F f).N t).a.k=kk at *
   go_wp2_with fail
   go_roundw
   case rel=>exact ⟨t+1,by go_num,by omega,HX⟩
   case measure=>simp [intOf];omega
  have g36:=beq1 h36
  have okf:=ok f (by omega)
  have p1:=okf.one t ht (.inr (.inr h36))
  have hR:=(h6 t ht).2.1 h36 0 (by omega)
  obtain ⟨g,hg⟩:∃ g:Nat,((F f).N t).R 0=(g:Int):=⟨(((F f).N t).R 0).toNat,by omega⟩
  rw [hg] at hR
  have hgn:g < nf:=by omega
  have hgI:(g:Int) < (nf:Int):=by omega
  obtain ⟨pa,cap,e0,hra⟩:=hrr
  obtain ⟨ra,e1,hcap,-,hrc⟩:=hra (by omega)
  have e2:PR t=pa∧CR t=cap:=by simpa using e0
  have hr0:=hrc 0 (by omega)
  rw [show (fun j=>Value.int .i64 (((F f).N t).R j)) 0=Value.int .i64 (g:Int) from congrArg _ hg] at hr0
  have r0:∀ o,(wr.alloc o).cell? (ra.add 0)=some (.int .i64 (g:Int)):=fun o=>(k4 o).cell (kl hr0)
  have r1:∀ o,(wr.alloc o).cell? ra=some (.int .i64 (g:Int)):=fun o=>r0 o
  rw [e2.1,e1,e2.2,p1] at y6
  have hcI : 1≤cap:=by omega
  obtain ⟨a,b,l,s1,s2,s3,s4,s5⟩:=hsp t ht
  have hGl:G < w2.heap.size:=lt_of_cell' s1
  have hG0:¬ (fun k=>k=B∨v.ownBlock=some k∨m = .map (some k)) G:=fun g=>by have:=(hQ _ g).2;omega
  obtain ⟨W4,hW4⟩:∃ W4,W4=wr.alloc (.cells #[.int .i64 ((F f).N t).a.k,.int .i64 ((F f).N t).a.l,.int .i64 ((F f).N t).a.o,.int .i64 ((F f).N t).a.m,.float .f64 ((F f).N t).a.g,.string ((F f).N t).a.x,.slice (some ra) 1 cap,.slice (PK t) ((F f).N t).q (CK t)] 59):=⟨_,rfl⟩
  have k44:Kb 0 wr W4:=by rw [hW4];exact k4 _
  have HA:Hid (Calls Tryz.prog 86 #[.pointer (some ⟨B,1,none⟩),.int .i64 (g:Int)] W4 fun e w'=>∃ p:Int,e = .returned (.tuple #[.int .i64 p,.bool (dc ((g:Int) ∉ L2))])∧∃ v' m',Zt B 1 (addL L2 (g:Int)) v' m' w'∧Ks B 1 v2 m2 v' m' W4 w'):=im_add (g:Int) W4 (hz2.on k44) (by have:=okf.hn;omega)
  have HF:Hid (∀ w5 v3 m3,Ks B 1 v2 m2 v3 m3 W4 w5→((w5.cell? ⟨w.heap.size,0,none⟩=some (.string (F f).x)∧w5.cell? ⟨w.heap.size,1,none⟩=some (.int .i64 (F f).l)∧w5.cell? ⟨w.heap.size,2,none⟩=some (.int .i64 (F f).m)∧w5.cell? ⟨w.heap.size,3,none⟩=some (.bool (F f).r)∧w5.cell? ⟨w.heap.size,4,none⟩=some (.slice pv (F f).p cv)∧w5.cell? ⟨w.heap.size,5,none⟩=some (.slice pu (F f).u cu)∧w5.cell? ⟨w.heap.size,6,none⟩=some (.slice (some AN) (F f).n cn))∧w5.cell? ⟨G,t*2,none⟩=some (.pointer a)∧w5.cell? ⟨G,t*2+1,none⟩=some (.bool b))∧∀ W,Kb 0 w5 W→Calls Tryz.prog 88 #[.pointer (some ⟨B,0,none⟩),.int .i64 (g:Int),.agg #[.string (F f).x,.int .i64 (F f).l,.int .i64 (F f).m,.bool (F f).r,.slice pv (F f).p cv,.slice pu (F f).u cu,.slice (some AN) (F f).n cn],.agg #[.pointer a,.bool b]] W fun e' w'=>e' = .returned (.bool (dc (Cls (F f) (F g) t)))∧((w'.cell? ⟨w.heap.size,0,none⟩=some (.string (F f).x)∧w'.cell? ⟨w.heap.size,1,none⟩=some (.int .i64 (F f).l)∧w'.cell? ⟨w.heap.size,2,none⟩=some (.int .i64 (F f).m)∧w'.cell? ⟨w.heap.size,3,none⟩=some (.bool (F f).r)∧w'.cell? ⟨w.heap.size,4,none⟩=some (.slice pv (F f).p cv)∧w'.cell? ⟨w.heap.size,5,none⟩=some (.slice pu (F f).u cu)∧w'.cell? ⟨w.heap.size,6,none⟩=some (.slice (some AN) (F f).n cn))∧w'.cell? ⟨G,t*2,none⟩=some (.pointer a)∧w'.cell? ⟨G,t*2+1,none⟩=some (.bool b))∧Kb 0 w5 w'):=(fun w5 v3 m3 hk3=>by
   have h5:Ks B 1 v2 m2 v3 m3 wr w5:=(Ks.of_kb k44 hSl).trans hk3
   have hh:=hks.trans h5
   have kw5:∀ k,k < w2.heap.size→¬ (fun k=>k=B∨v.ownBlock=some k∨m = .map (some k)) k→w5.heap[k]? = w2.heap[k]?:=fun k hk hq=>hh.block k hk (fun e=>hq (.inl e)) (fun e=>hq (.inr (.inl e))) (fun e=>hq (.inr (.inr e)))
   have qF5:w5.heap[w.heap.size]? = some (.cells #[.string (F f).x,.int .i64 (F f).l,.int .i64 (F f).m,.bool (F f).r,.slice pv (F f).p cv,.slice pu (F f).u cu,.slice (some AN) (F f).n cn] 48 (0,0)):=(kw5 _ z2 hF0).trans q2
   have lc:∀ {j:Nat} {u:Value},w2.cell? ⟨G,j,none⟩=some u→w5.cell? ⟨G,j,none⟩=some u:=fun {j u} h=>(World.cell?_of_block (kw5 G hGl hG0)).trans h
   have hz5:w2.heap.size≤w5.heap.size:=hh.size
   refine ⟨⟨⟨cell_of qF5 rfl,cell_of qF5 rfl,cell_of qF5 rfl,cell_of qF5 rfl,cell_of qF5 rfl,cell_of qF5 rfl,cell_of qF5 rfl⟩,lc s1,lc s2⟩,fun W kk=>?_⟩
   have hB5:w5.cell? ⟨B,0,none⟩=some (.slice (some A) nf ca):=(hh.cells 0 (by omega) (by omega)).trans hb
   have hsz:=kk.size
   have k0:∀ k,k < w0.heap.size→W.heap[k]? = w0.heap[k]?:=fun k hk=>(kk.block k zq (by have:=hQ B (.inl rfl);omega)).trans ((kw5 k (by have:=hQ B (.inl rfl);omega) (fun g=>by have:=(hQ k g).1;omega)).trans (h0 k hk))
   have hfg:FnC 0 W (A.add (g*7)) (F g):=(hfn g hgn).keep zq ⟨kk.os.trans (hh.os.trans (kk2.os.trans (uh HO).1)),kk.output.trans (hh.output.trans (kk2.output.trans (uh HO).2)),by have:=hQ B (.inl rfl);omega,fun k _ hk=>k0 k hk⟩
   have hsc:Sco W (.pointer a) l:=(s3.keep (.of_blk (fun k hk hq=>(kk.block k zq (by omega)).trans (kw5 k hk hq)))).sco
   refine (im_closes (d:=F f) (e:=F g) (t:=t) (l:=l) (b:=b) (pv:=pv) (pu:=pu) (pn:=some AN) (cv:=cv) (cu:=cu) (nn:=(F f).n) (cn:=cn) W hgn hnf (kk.cell hB5) hfg okf.u2 (ok g hgn).u2 hsc s4 (fun x hx=>ss_rng okf h6 _ t ht (Nat.le_refl _) hx)).mono ?_
   rintro e' w' ⟨he,hk⟩
   have kq:=kk.trans hk
   have qF6:=(kq.block _ zq (by omega)).trans qF5
   exact ⟨he,⟨⟨cell_of qF6 rfl,cell_of qF6 rfl,cell_of qF6 rfl,cell_of qF6 rfl,cell_of qF6 rfl,cell_of qF6 rfl,cell_of qF6 rfl⟩,kq.cell (lc s1),kq.cell (lc s2)⟩,kq⟩:∀ w5 v3 m3,_)
  have HBAD:Hid (¬ R8 F f t→∀ w5 v3 m3 w6,Ks B 1 v2 m2 v3 m3 W4 w5→Kb 0 w5 w6→Fb (R8 F f) (F f).n (t:Int)∧∃ v' m',Ks B 1 v m v' m' w w6∧((t:Int) = -1→∃ L',Zt B 1 L' v' m' w6∧(∀ x,x ∈ L'↔MB F (f+1) 0 x)∧L'.length≤L.length+(F f).n)):=(fun g w5 v3 m3 w6 hk3 hk6=>(uh HRET) g w6 v3 m3 ((ksw.trans ((Ks.of_kb k44 hSl).trans hk3)).trans (Ks.of_kb hk6 (by have:=k44.size;have:=hk3.size;omega))):_→_)
  have HGOOD:Hid ((g:Int) ∉ L2→R8 F f t→∀ w5 v3 m3 w6,Zt B 1 (addL L2 (g:Int)) v3 m3 w5→Ks B 1 v2 m2 v3 m3 W4 w5→Kb 0 w5 w6→∃ L2 v2 m2,Zt B 1 L2 v2 m2 w6∧(∀ x,x ∈ L2↔MB F f (t+1) x)∧L2.length≤L.length+(t+1)∧Ks B 1 v m v2 m2 w2 w6∧∀ i,i < (t+1)→R8 F f i):=(fun hm g8 w5 v3 m3 w6 hz3 hk3 hk6=>(uh HNXT) g8 w6 (addL L2 (g:Int)) v3 m3 (hz3.on hk6) (fun x=>by
   rw [mem_addL,mb_step,hL2 x,hg]
   exact ⟨fun q=>q.elim .inl (fun q=>.inr ⟨h36,q.symm⟩),fun q=>q.elim .inl (fun q=>.inr q.2.symm)⟩) (by rw [addL_f hm,List.length_append];simp;omega) (((Ks.of_kb k44 hSl).trans hk3).trans (Ks.of_kb hk6 (by have:=k44.size;have:=hk3.size;omega))):_→_)
  have HI8:Hid (R8 F f t↔f < g∧(g:Int) ∉ L2∧Cls (F f) (F g) t):=(by
   unfold R8
   rw [hg,← hL2 (g:Int)]
   exact ⟨fun q=>⟨by have:=(q.2 h36).1;omega,(q.2 h36).2.1,by have:=(q.2 h36).2.2;simpa using this⟩,fun q=>⟨fun e=>absurd e h37,fun _=>⟨by omega,q.2.1,by simpa using q.2.2⟩⟩⟩:_↔_)
  have HW4:Hid (W4=wr.alloc (.cells #[.int .i64 ((F f).N t).a.k,.int .i64 ((F f).N t).a.l,.int .i64 ((F f).N t).a.o,.int .i64 ((F f).N t).a.m,.float .f64 ((F f).N t).a.g,.string ((F f).N t).a.x,.slice (some ra) 1 cap,.slice (PK t) ((F f).N t).q (CK t)] 59)):=hW4
  clear HI hz2 hL2 hln hks hall kk2 q2 hsp hG z2 hsl hfn h0 hB ok h6 hnf hb hQ hlen hSl ksw HB htn kw k0w kl hra k4 hF0 qF HRET HNXT h37 h36 okf p1 hR hg e0 e1 e2 hrc hcap hr0 s1 s2 s3 s4 s5 hGl hG0 hW4 k44 r3a hgn
  generalize ((F f).N t).a.k=kk at *
  have mixed:Tryz.prog.follows .mixedOrders=true:=by kernel_rfl
  by_cases hm:(g:Int) ∈ L2
  ·have h8:¬ R8 F f t:=fun q=>((uh HI8).1 q).2.1 hm
   rw [dc_f (fun q=>q hm)] at HA
   have HX:=(uh HBAD) h8
   clear HBAD HGOOD HI8 hm h8 HF
   go_wp2_with fail
   trace_state
   rw [← (uh HW4)]
   clear HW4
   refine (uh HA).mono ?_
   rintro e w5 ⟨p,rfl,v3,m3,hz3,hk3⟩
   have HY:Hid (∀ w6,Kb 0 w5 w6→Fb (R8 F f) (F f).n (t:Int)∧∃ v' m',Ks B 1 v m v' m' w w6∧((t:Int) = -1→∃ L',Zt B 1 L' v' m' w6∧(∀ x,x ∈ L'↔MB F (f+1) 0 x)∧L'.length≤L.length+(F f).n)):=((fun w6=>HX w5 v3 m3 w6 hk3):∀ w6,_)
   clear HX hz3 hk3
   go_wp2_with fail
   go_quiet (skip)
   go_wp2_with fail
   all_goals (go_ret;exact ⟨_,rfl,(uh HY) _ (Kb.drewN (Kb.refl _ _) _)⟩)
  rw [dc_t hm] at HA
  rcases Nat.lt_or_ge f g with hfg | hfg
  case inr =>
   have h8:¬ R8 F f t:=fun q=>by have:=((uh HI8).1 q).1;omega
   have hfgI:(g:Int)≤(f:Int):=by omega
   have HX:=(uh HBAD) h8
   clear HBAD HGOOD HI8 hm h8 HF hfg
   go_wp2_with fail
   rw [← (uh HW4)]
   clear HW4
   refine (uh HA).mono ?_
   rintro e w5 ⟨p,rfl,v3,m3,hz3,hk3⟩
   have HY:Hid (∀ w6,Kb 0 w5 w6→Fb (R8 F f) (F f).n (t:Int)∧∃ v' m',Ks B 1 v m v' m' w w6∧((t:Int) = -1→∃ L',Zt B 1 L' v' m' w6∧(∀ x,x ∈ L'↔MB F (f+1) 0 x)∧L'.length≤L.length+(F f).n)):=((fun w6=>HX w5 v3 m3 w6 hk3):∀ w6,_)
   clear HX hz3 hk3
   go_wp2_with fail
   go_quiet (skip)
   go_wp2_with fail
   all_goals (go_ret;exact ⟨_,rfl,(uh HY) _ (Kb.drewN (Kb.refl _ _) _)⟩)
  have hfgI:decide ((g:Int)≤(f:Int))=false:=decide_eq_false (by omega)
  have hfgN:decide (g≤f)=false:=decide_eq_false (by omega)
  by_cases hc:Cls (F f) (F g) t
  ·have h8:R8 F f t:=(uh HI8).2 ⟨hfg,hm,hc⟩
   have HX:=(uh HGOOD) hm h8
   rw [dc_t hc] at HF
   clear HBAD HGOOD HI8 hm h8 hfg hc
   go_wp2_with fail
   rw [← (uh HW4)]
   clear HW4
   refine (uh HA).mono ?_
   rintro e w5 ⟨p,rfl,v3,m3,hz3,hk3⟩
   obtain ⟨hc9,HCL⟩:=(uh HF) w5 v3 m3 hk3
   have HY:Hid (∀ w6,Kb 0 w5 w6→∃ L2 v2 m2,Zt B 1 L2 v2 m2 w6∧(∀ x,x ∈ L2↔MB F f (t+1) x)∧L2.length≤L.length+(t+1)∧Ks B 1 v m v2 m2 w2 w6∧∀ i,i < (t+1)→R8 F f i):=((fun w6=>HX w5 v3 m3 w6 hz3 hk3):∀ w6,_)
   clear HX hz3 hk3 HF
   obtain ⟨⟨f0,f1,f2,f3,f4,f5,f6⟩,g0,g1⟩:=id hc9
   have HC9:Hid ((w5.cell? ⟨w.heap.size,0,none⟩=some (.string (F f).x)∧w5.cell? ⟨w.heap.size,1,none⟩=some (.int .i64 (F f).l)∧w5.cell? ⟨w.heap.size,2,none⟩=some (.int .i64 (F f).m)∧w5.cell? ⟨w.heap.size,3,none⟩=some (.bool (F f).r)∧w5.cell? ⟨w.heap.size,4,none⟩=some (.slice pv (F f).p cv)∧w5.cell? ⟨w.heap.size,5,none⟩=some (.slice pu (F f).u cu)∧w5.cell? ⟨w.heap.size,6,none⟩=some (.slice (some AN) (F f).n cn))∧w5.cell? ⟨G,t*2,none⟩=some (.pointer a)∧w5.cell? ⟨G,t*2+1,none⟩=some (.bool b)):=hc9
   have HCL2:Hid (∀ W,Kb 0 w5 W→_):=HCL
   clear HCL hc9
   go_wp2_with fail
   go_region_held_law (fun W'=>(W'.cell? ⟨w.heap.size,0,none⟩=some (.string (F f).x)∧W'.cell? ⟨w.heap.size,1,none⟩=some (.int .i64 (F f).l)∧W'.cell? ⟨w.heap.size,2,none⟩=some (.int .i64 (F f).m)∧W'.cell? ⟨w.heap.size,3,none⟩=some (.bool (F f).r)∧W'.cell? ⟨w.heap.size,4,none⟩=some (.slice pv (F f).p cv)∧W'.cell? ⟨w.heap.size,5,none⟩=some (.slice pu (F f).u cu)∧W'.cell? ⟨w.heap.size,6,none⟩=some (.slice (some AN) (F f).n cn))∧W'.cell? ⟨G,t*2,none⟩=some (.pointer a)∧W'.cell? ⟨G,t*2+1,none⟩=some (.bool b)) (first | exact s11 | exact (uh HC9))
    ((go_at_call 88;refine ((uh HCL2) _ (by exact Kb.drewN (Kb.refl _ _) _)).mono ?_;rintro e w11 ⟨rfl,s11,k11⟩))
   clear HCL2 HC9 s11 f0 f1 f2 f3 f4 f5 f6 g0 g1
   go_wp2_with fail
   go_roundw
   case rel=>exact ⟨t+1,by go_num,by omega,(uh HY) _ k11⟩
   case measure=>simp [intOf];omega
  ·have h8:¬ R8 F f t:=fun q=>hc ((uh HI8).1 q).2.2
   have HX:=(uh HBAD) h8
   rw [dc_f hc] at HF
   clear HBAD HGOOD HI8 hm h8 hfg hc
   go_wp2_with fail
   rw [← (uh HW4)]
   clear HW4
   refine (uh HA).mono ?_
   rintro e w5 ⟨p,rfl,v3,m3,hz3,hk3⟩
   obtain ⟨hc9,HCL⟩:=(uh HF) w5 v3 m3 hk3
   have HY:Hid (∀ w6,Kb 0 w5 w6→Fb (R8 F f) (F f).n (t:Int)∧∃ v' m',Ks B 1 v m v' m' w w6∧((t:Int) = -1→∃ L',Zt B 1 L' v' m' w6∧(∀ x,x ∈ L'↔MB F (f+1) 0 x)∧L'.length≤L.length+(F f).n)):=((fun w6=>HX w5 v3 m3 w6 hk3):∀ w6,_)
   clear HX hz3 hk3 HF
   obtain ⟨⟨f0,f1,f2,f3,f4,f5,f6⟩,g0,g1⟩:=id hc9
   have HC9:Hid ((w5.cell? ⟨w.heap.size,0,none⟩=some (.string (F f).x)∧w5.cell? ⟨w.heap.size,1,none⟩=some (.int .i64 (F f).l)∧w5.cell? ⟨w.heap.size,2,none⟩=some (.int .i64 (F f).m)∧w5.cell? ⟨w.heap.size,3,none⟩=some (.bool (F f).r)∧w5.cell? ⟨w.heap.size,4,none⟩=some (.slice pv (F f).p cv)∧w5.cell? ⟨w.heap.size,5,none⟩=some (.slice pu (F f).u cu)∧w5.cell? ⟨w.heap.size,6,none⟩=some (.slice (some AN) (F f).n cn))∧w5.cell? ⟨G,t*2,none⟩=some (.pointer a)∧w5.cell? ⟨G,t*2+1,none⟩=some (.bool b)):=hc9
   have HCL2:Hid (∀ W,Kb 0 w5 W→_):=HCL
   clear HCL hc9
   go_wp2_with fail
   go_region_held_law (fun W'=>(W'.cell? ⟨w.heap.size,0,none⟩=some (.string (F f).x)∧W'.cell? ⟨w.heap.size,1,none⟩=some (.int .i64 (F f).l)∧W'.cell? ⟨w.heap.size,2,none⟩=some (.int .i64 (F f).m)∧W'.cell? ⟨w.heap.size,3,none⟩=some (.bool (F f).r)∧W'.cell? ⟨w.heap.size,4,none⟩=some (.slice pv (F f).p cv)∧W'.cell? ⟨w.heap.size,5,none⟩=some (.slice pu (F f).u cu)∧W'.cell? ⟨w.heap.size,6,none⟩=some (.slice (some AN) (F f).n cn))∧W'.cell? ⟨G,t*2,none⟩=some (.pointer a)∧W'.cell? ⟨G,t*2+1,none⟩=some (.bool b)) (first | exact s11 | exact (uh HC9))
    ((go_at_call 88;refine ((uh HCL2) _ (by exact Kb.drewN (Kb.refl _ _) _)).mono ?_;rintro e w11 ⟨rfl,s11,k11⟩))
   clear HCL2 HC9 s11 f0 f1 f2 f3 f4 f5 f6 g0 g1
   go_wp2_with fail
   go_ret
   exact ⟨_,rfl,(uh HY) _ k11⟩
end Go.Proofs.YtfpidccjcemcjaaGreat.Fo
