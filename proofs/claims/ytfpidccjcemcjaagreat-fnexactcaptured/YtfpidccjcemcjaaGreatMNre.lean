import Derived.Test.YtfpidccjcemcjaaGreatMZsq
import Derived.Test.YtfpidccjcemcjaaGreatMNrc
import Derived.Test.YtfpidccjcemcjaaGreatMNhb
import Derived.Test.YtfpidccjcemcjaaGreatMNgc
import Derived.Test.YtfpidccjcemcjaaGreatMNqg
set_option maxHeartbeats 32000000
namespace Go.Proofs.YtfpidccjcemcjaaGreat.Fo
open Go.ChangeShapes Go.WideShapes Go.ChangeAt Go.RowKit
set_option linter.unusedVariables false
set_option maxRecDepth 100000
def An3 (nf:Nat) (F:Nat→Fd) (c f n:Nat):Prop :=
 (6≤c∧c≤9∧Lx (PQ F nf c) (LQ F c) nf f n∧∀ c',6≤c'→c' < c→La (PQ F nf c') (LQ F c') nf)∨(c=0∧f=0∧n=0∧∀ c',6≤c'→c'≤9→La (PQ F nf c') (LQ F c') nf)
theorem madeB {W:World} {g n:Nat} {t:TypeId} (h:W.heap[g]? = some (.cells (madeCells #[.bool false] (n*1)) t (0,0))):(∀ k,k < n→W.cell? ⟨g,k,none⟩=some (.bool false))∧∀ j,W.frozen? ⟨g,j,none⟩=false:=by
 refine ⟨fun k hk=>cell_of h ?_,fun j=>frozen_of h⟩
 simp [madeCells,hk,Nat.mod_one]
theorem grn_up {d:Fd} (ok:Fok d) {PA DA:Nat→Int} (hg:Grn d.N d.n PA DA):∀ k,k < d.n→0≤PA k→k < (PA k).toNat∧(PA k).toNat < d.n:=by
 intro k hk h0
 by_cases e:k+1=d.n
 ·have:=hg.1
  rw [show d.n - 1=k by omega] at this
  omega
 ·obtain ⟨m,h1,h2,i,h3,h4⟩:=(hg.2.1 k (by omega)).2.1 (ok.tree.one k (by omega))
  have:=ok.tree.kid m h1 i h3
  clear hg
  omega
theorem inl_dc {d:Fd} (ok:Fok d) {PA DA:Nat→Int} (hg:Grn d.N d.n PA DA) {t:Nat} (ht:t < d.n) (hk:(d.N t).a.k≤14):dc (Inl d.N PA t)=dc (LL d.N d.n t):=by
 have h:=inl_ll ok hg _ t ht (Nat.le_refl _) hk
 by_cases g:LL d.N d.n t
 ·rw [dc_t g,dc_t (h.2 g)]
 ·rw [dc_f g,dc_f (fun q=>g (h.1 q))]
theorem r8_iff {F:Nat→Fd} {f t g:Nat} (h36:((F f).N t).a.k=36) (hg:((F f).N t).R 0=(g:Int)):R8 F f t↔f < g∧¬ MB F f t (g:Int)∧Cls (F f) (F g) t:=by
 unfold R8
 rw [hg]
 exact ⟨fun q=>⟨by have:=(q.2 h36).1;omega,(q.2 h36).2.1,by have:=(q.2 h36).2.2;simpa using this⟩,fun q=>⟨fun e=>by omega,fun _=>⟨by omega,q.2.1,by simpa using q.2.2⟩⟩⟩
theorem ds0 {d:Fd} {x:Int}:DS d 0 0 x↔0≤x∧x < d.m:=by
 unfold DS
 constructor
 ·rintro (h | ⟨s,h,_⟩ | ⟨_,i,h,_⟩)
  ·exact h
  ·omega
  ·omega
 ·exact .inl
theorem lx_an {nf:Nat} {F:Nat→Fd} {c f n:Nat} (h6 : 6≤c) (h9:c≤9) (h:Lx (PQ F nf c) (LQ F c) nf f n) (hl:∀ c',6≤c'→c' < c→La (PQ F nf c') (LQ F c') nf):An3 nf F c f n:=.inl ⟨h6,h9,h,hl⟩
theorem sp_third {va : Value} {nf : Nat} {F : Nat → Fd} (w : World) (ha : RowF 0 w va nf F) (hb : Bd nf F) (ok : ∀ f, f < nf → Fok (F f)) :
    Calls Tryz.prog 24 #[.agg #[va]] w fun e w'=>∃ c f n:Nat,e = .returned (.agg #[.int .i64 (c:Int),.int .i64 (f:Int),.int .i64 (n:Int)])∧An3 nf F c f n∧Kb 0 w w':=by
  obtain ⟨pa,ca,rfl,ha2⟩:=ha
  have hnI:(nf:Int)≤1048576:=by have:=hb.hnf;omega
  obtain ⟨w2,hw2⟩:∃ w2,w2=(w.alloc (.cells #[.slice pa nf ca] 30)).alloc (.cells #[.int .i64 0,.int .i64 0,.int .i64 0] 39):=⟨_,rfl⟩
  have k2:Kb 0 w w2:=by rw [hw2];exact kb_alloc2 _ _ _ _
  have b0:w2.heap[w.heap.size]? = some (.cells #[.slice pa nf ca] 30 (0,0)):=by
    rw [hw2,(kb_alloc 0 _ _).block _ zq (by rw [World.size_alloc];omega)]
    exact alloc_new _ _ _
  have b1:w2.heap[w.heap.size+1]? = some (.cells #[.int .i64 0,.int .i64 0,.int .i64 0] 39 (0,0)):=by
    have e:(w.alloc (.cells #[.slice pa nf ca] 30)).heap.size=w.heap.size+1:=World.size_alloc _ _
    rw [hw2,← e]
    exact alloc_new _ _ _
  have sz2:w2.heap.size=w.heap.size+2:=by rw [hw2];simp
  have HRES:Hid (∀ W,Kb 0 w2 W→W.cell? ⟨w.heap.size+1,0,none⟩=some (.int .i64 0)∧W.cell? ⟨w.heap.size+1,1,none⟩=some (.int .i64 0)∧W.cell? ⟨w.heap.size+1,2,none⟩=some (.int .i64 0)∧(∀ j,W.frozen? ⟨w.heap.size+1,j,none⟩=false)∧Kb 0 w W∧w.heap.size+1 < W.heap.size):=(fun W k=>by
    have:=k.size
    exact ⟨k.cell (cell_of b1 rfl),k.cell (cell_of b1 rfl),k.cell (cell_of b1 rfl),fun j=>(k.frozen zq (by omega)).trans (frozen_of b1),k2.trans k,by omega⟩:∀ W,_)
  have HBOX:Hid (∀ W,Kb 0 w2 W→W.cell? ⟨w.heap.size,0,none⟩=some (.slice pa nf ca)):=(fun W k=>k.cell (cell_of b0 rfl):∀ W,_)
  have HFN:Hid (∀ W,Kb 0 w2 W→0 < nf→∃ a:Addr,pa=some a∧nf≤ca∧∀ i,i < nf→FnC 0 W (a.add (i*7)) (F i)):=(fun W k h0=>by
    obtain ⟨a,e1,e2,-,e3⟩:=ha2 h0
    exact ⟨a,e1,e2,fun i hi=>(e3 i hi).keep zq (k2.trans k)⟩:∀ W,_)
  have HOK:Hid (∀ f,f < nf→Fok (F f)):=ok
  have HNF:Hid (nf≤1048576∧w2.heap.size=w.heap.size+2):=(⟨hb.hnf,sz2⟩:_∧_)
  have HW:Hid (w2=(w.alloc (.cells #[.slice pa nf ca] 30)).alloc (.cells #[.int .i64 0,.int .i64 0,.int .i64 0] 39)):=hw2
  have hmk:∀ (n:Nat) (h:n≤1048576) (W:World),_:=fun n h W=>run_make (P:=Tryz.prog) W 26 4 Tryz.t4 (.bool false) Tryz.underlying26 (by kernel_rfl) (by kernel_rfl) .i64 .i64 (n:Int) (n:Int) (by omega) (Int.le_refl _) (by show (1:Int)*(n:Int)≤_;omega) (by omega)
  simp only [Int.toNat_natCast] at hmk
  have HMK:Hid (∀ (n:Nat),n≤1048576→∀ W:World,_):=hmk
  clear ha2 hb hw2 k2 b0 b1 sz2 ok hmk
  go_enter Tryz.func24,Tryz.ntmps24
  go_wp2_with fail
  rw [← (uh HW)]
  clear HW
  go_loopw [24] (fun s24 wr=>∃ f:Nat,s24 = .int .i64 (f:Int)∧f≤nf∧Hid (Kb 0 w2 wr∧∀ g,g < f→∀ t,t < (F g).n→PQ F nf 6 g t)) (fun s24 _=>nf - (intOf s24).toNat)
  case atStart=>exact ⟨0,rfl,Nat.zero_le _,(⟨Kb.refl _ _,fun g hg=>by omega⟩:_∧_)⟩
  case round =>
    obtain ⟨f,rfl,hf,HX⟩:=hrel
    obtain ⟨kw,hD⟩:=(uh HX)
    rcases Nat.lt_or_ge f nf with h | h
    · have HD:Hid (∀ g,g < f→∀ t,t < (F g).n→PQ F nf 6 g t):=hD
      clear hD
      obtain ⟨wo,rfl⟩:∃ wo,wo=wr:=⟨_,rfl⟩
      have hmk:=fun W=>(uh HMK) (F f).p (by have:=((uh HOK) f h).p2;omega) W
      have hI:(f:Int) < (nf:Int):=by omega
      have c2:wo.cell? ⟨w.heap.size,0,none⟩=some (.slice pa nf ca):=(uh HBOX) wo kw
      obtain ⟨a,rfl,hca,hra⟩:=(uh HFN) w2 (Kb.refl _ _) (by omega)
      have okf:=(uh HOK) f h
      obtain ⟨vv,vu,vn,⟨d0,d1,d2,d3,d4,d5,d6⟩,⟨pv,cv,rfl,-⟩,⟨pu,cu,rfl,-⟩,pn,cnn,rfl,hvn2⟩:=id (hra f h)
      obtain ⟨AN,rfl,hcn,-,hrN⟩:=hvn2 okf.tree.pos
      replace d0:=kw.cell d0
      replace d1:=kw.cell d1
      replace d2:=kw.cell d2
      replace d3:=kw.cell d3
      replace d4:=kw.cell d4
      replace d5:=kw.cell d5
      replace d6:=kw.cell d6
      obtain ⟨W3,hW3⟩:∃ W3,W3=wo.alloc (.cells #[.string (F f).x,.int .i64 (F f).l,.int .i64 (F f).m,.bool (F f).r,.slice pv (F f).p cv,.slice pu (F f).u cu,.slice (some AN) (F f).n cnn] 48):=⟨_,rfl⟩
      have k3:Kb 0 wo W3:=by rw [hW3];exact kb_alloc _ _ _
      have q3:W3.heap[wo.heap.size]? = some (.cells #[.string (F f).x,.int .i64 (F f).l,.int .i64 (F f).m,.bool (F f).r,.slice pv (F f).p cv,.slice pu (F f).u cu,.slice (some AN) (F f).n cnn] 48 (0,0)):=by rw [hW3];exact alloc_new _ _ _
      have z3:W3.heap.size=wo.heap.size+1:=by rw [hW3,World.size_alloc]
      have hn3:=okf.hn
      have hnI3:((F f).n:Int)≤3000:=by omega
      have hpI3:((F f).p:Int)≤200:=by have:=okf.p2;omega
      have HC:Hid (Calls Tryz.prog 39 #[.slice (some AN) (F f).n cnn] W3 fun e w'=>∃ (PA DA:Nat→Int) (gp gd:Nat),e = .returned (.agg #[.slice (some ⟨gp,0,none⟩) (F f).n (F f).n,.slice (some ⟨gd,0,none⟩) (F f).n (F f).n])∧RowV w' (.slice (some ⟨gp,0,none⟩) (F f).n (F f).n) (F f).n (fun k=>.int .i64 (PA k))∧RowV w' (.slice (some ⟨gd,0,none⟩) (F f).n (F f).n) (F f).n (fun k=>.int .i64 (DA k))∧Grn (F f).N (F f).n PA DA∧Kb 0 W3 w'):=sp_grow W3 (by omega) okf.tree.pos (fun i hi=>(hrN i hi).keep zq (kw.trans k3)) okf.hq okf.tree.kid
      have HW3:Hid (W3=wo.alloc (.cells #[.string (F f).x,.int .i64 (F f).l,.int .i64 (F f).m,.bool (F f).r,.slice pv (F f).p cv,.slice pu (F f).u cu,.slice (some AN) (F f).n cnn] 48)):=hW3
      have HKF:Hid (Kb 0 w2 wo∧Kb 0 wo W3∧W3.heap[wo.heap.size]? = some (.cells #[.string (F f).x,.int .i64 (F f).l,.int .i64 (F f).m,.bool (F f).r,.slice pv (F f).p cv,.slice pu (F f).u cu,.slice (some AN) (F f).n cnn] 48 (0,0))∧W3.heap.size=wo.heap.size+1∧(∀ i,i < nf→FnC 0 w2 (a.add (i*7)) (F i))∧(∀ i,i < (F f).n→NodeC 0 w2 (AN.add (i*8)) ((F f).N i))∧nf≤ca∧f < nf∧Fok (F f)):=(⟨kw,k3,q3,z3,hra,hrN,hca,h,okf⟩:_∧_)
      clear kw k3 q3 z3 hra hrN hca h okf hW3 hvn2 hcn hn3 hf HX
      go_wp2_with fail
      rw [← (uh HW3)]
      clear HW3
      refine (uh HC).mono ?_
      rintro e w5 ⟨PA,DA,gp,gd,rfl,rp,rd,hG,k5⟩
      obtain ⟨kw,k3,q3,z3,hra,hrN,hca,h,okf⟩:=(uh HKF)
      obtain ⟨w6,hw6⟩:∃ w6,w6=w5.alloc (.cells #[.slice (some ⟨gp,0,none⟩) (F f).n (F f).n,.slice (some ⟨gd,0,none⟩) (F f).n (F f).n] 75):=⟨_,rfl⟩
      have k56:Kb 0 w5 w6:=by rw [hw6];exact kb_alloc _ _ _
      have z6:w6.heap.size=w5.heap.size+1:=by rw [hw6,World.size_alloc]
      have k6:Kb 0 wo w6:=(k3.trans k5).trans k56
      have qX:w6.heap[w5.heap.size]? = some (.cells #[.slice (some ⟨gp,0,none⟩) (F f).n (F f).n,.slice (some ⟨gd,0,none⟩) (F f).n (F f).n] 75 (0,0)):=by rw [hw6];exact alloc_new _ _ _
      have qF:w6.heap[wo.heap.size]? = some (.cells #[.string (F f).x,.int .i64 (F f).l,.int .i64 (F f).m,.bool (F f).r,.slice pv (F f).p cv,.slice pu (F f).u cu,.slice (some AN) (F f).n cnn] 48 (0,0)):=((k5.trans k56).block _ zq (by omega)).trans q3
      have hP:∀ k,k < (F f).n→w6.cell? ⟨gp,k,none⟩=some (.int .i64 (PA k)):=by
        intro k hk
        obtain ⟨pa',ca',e,hh⟩:=rp
        obtain ⟨A,e2,_,e4⟩:=hh (by omega)
        simp only [Value.slice.injEq] at e
        have e5:A=⟨gp,0,none⟩:=by have:=e.1;rw [e2] at this;exact (Option.some.inj this).symm
        have:=e4 k hk
        rw [e5,addr0] at this
        exact k56.cell this
      have HF6:Hid (Kb 0 w2 w6∧w6.heap[wo.heap.size]? = some (.cells #[.string (F f).x,.int .i64 (F f).l,.int .i64 (F f).m,.bool (F f).r,.slice pv (F f).p cv,.slice pu (F f).u cu,.slice (some AN) (F f).n cnn] 48 (0,0))∧w6.heap[w5.heap.size]? = some (.cells #[.slice (some ⟨gp,0,none⟩) (F f).n (F f).n,.slice (some ⟨gd,0,none⟩) (F f).n (F f).n] 75 (0,0))∧(∀ k,k < (F f).n→w6.cell? ⟨gp,k,none⟩=some (.int .i64 (PA k)))∧Grn (F f).N (F f).n PA DA∧w2.heap.size≤wo.heap.size∧wo.heap.size < w5.heap.size):=(⟨kw.trans k6,qF,qX,hP,hG,kw.size,by have:=k5.size;omega⟩:_∧_)
      have HRF:Hid ((∀ i,i < nf→FnC 0 w2 (a.add (i*7)) (F i))∧(∀ i,i < (F f).n→NodeC 0 w2 (AN.add (i*8)) ((F f).N i))∧nf≤ca):=(⟨hra,hrN,hca⟩:_∧_)
      have HKF2:Hid (f < nf∧Fok (F f)∧w6.heap.size=w5.heap.size+1):=(⟨h,okf,z6⟩:_∧_)
      have HK6:Hid (Kb 0 wo w6):=k6
      have HW6:Hid (w6=w5.alloc (.cells #[.slice (some ⟨gp,0,none⟩) (F f).n (F f).n,.slice (some ⟨gd,0,none⟩) (F f).n (F f).n] 75)):=hw6
      have fa:∀ o,(w5.alloc o).cell? ⟨wo.heap.size,4,none⟩=some (.slice pv (F f).p cv)∧(w5.alloc o).cell? ⟨wo.heap.size,6,none⟩=some (.slice (some AN) (F f).n cnn):=fun o=>by
        have q5:w5.heap[wo.heap.size]? = some (.cells #[.string (F f).x,.int .i64 (F f).l,.int .i64 (F f).m,.bool (F f).r,.slice pv (F f).p cv,.slice pu (F f).u cu,.slice (some AN) (F f).n cnn] 48 (0,0)):=(k5.block _ zq (by omega)).trans q3
        have kk:=kb_alloc 0 w5 o
        exact ⟨kk.cell (cell_of q5 rfl),kk.cell (cell_of q5 rfl)⟩
      have f4a:=fun o=>(fa o).1
      have f6a:=fun o=>(fa o).2
      clear HC rp rd hG k5 k56 k6 z6 qX qF hP hw6 c2 d0 d1 d2 d3 d4 d5 d6 kw k3 q3 z3 hra hrN hca h okf HKF fa
      go_wp2_with fail
      obtain ⟨w7,hw7⟩:∃ w7,w7=w6.alloc (.cells (madeCells #[.bool false] ((F f).p*Tryz.t4.size)) 4):=⟨_,rfl⟩
      rw [← (uh HW6),← hw7]
      obtain ⟨k26,qF,qX,hP,hG,hz1,hz2⟩:=(uh HF6)
      obtain ⟨hra,hrN,hca⟩:=(uh HRF)
      obtain ⟨h,okf,hz6⟩:=(uh HKF2)
      obtain ⟨Gs,hGs⟩:∃ Gs,Gs=w5.heap.size+1:=⟨_,rfl⟩
      rw [← hGs]
      have k67:Kb 0 w6 w7:=by rw [hw7];exact kb_alloc _ _ _
      have qG:w7.heap[Gs]? = some (.cells (madeCells #[.bool false] ((F f).p*1)) 4 (0,0)):=by
        rw [hGs,← hz6,hw7];exact alloc_new _ _ _
      have z7:w7.heap.size=Gs+1:=by rw [hw7,World.size_alloc,hz6,hGs]
      have hkx:∀ W,Kx Gs w7 W→Kb 0 w6 W:=fun W kx=>⟨kx.os.trans k67.os,kx.output.trans k67.output,by have:=kx.size;omega,fun k _ hk=>(kx.block k (by omega) (by omega)).trans (k67.block k zq hk)⟩
      have HAT:Hid (∀ W,Kx Gs w7 W→Kb 0 w2 W∧W.heap[wo.heap.size]? = some (.cells #[.string (F f).x,.int .i64 (F f).l,.int .i64 (F f).m,.bool (F f).r,.slice pv (F f).p cv,.slice pu (F f).u cu,.slice (some AN) (F f).n cnn] 48 (0,0))∧W.heap[w5.heap.size]? = some (.cells #[.slice (some ⟨gp,0,none⟩) (F f).n (F f).n,.slice (some ⟨gd,0,none⟩) (F f).n (F f).n] 75 (0,0))∧(∀ k,k < (F f).n→W.cell? ⟨gp,k,none⟩=some (.int .i64 (PA k)))∧Gs < W.heap.size):=(fun W kx=>by
        have k:=hkx W kx
        exact ⟨k26.trans k,(k.block _ zq (by omega)).trans qF,(k.block _ zq (by omega)).trans qX,fun i hi=>k.cell (hP i hi),by have:=kx.size;omega⟩:∀ W,_)
      have H0:Hid (Kx Gs w7 w7∧Sn Gs (F f).p (fun x=>0≤x∧x < ((0:Nat):Int)) w7):=(⟨Kx.refl _ _,fun v hv=>by rw [dc_f (fun q=>by omega)];exact (madeB qG).1 v hv,(madeB qG).2⟩:_∧_)
      have hmI0 : 0≤(F f).m:=okf.m0
      have hmI:(F f).m≤200:=by have:=okf.m1;have:=okf.p2;omega
      have HFX:Hid (((∀ i,i < nf→FnC 0 w2 (a.add (i*7)) (F i))∧(∀ i,i < (F f).n→NodeC 0 w2 (AN.add (i*8)) ((F f).N i))∧nf≤ca)∧Grn (F f).N (F f).n PA DA∧f < nf∧Fok (F f)∧w2.heap.size < Gs):=(⟨⟨hra,hrN,hca⟩,hG,h,okf,by omega⟩:_∧_)
      clear k26 qF qX hP hG hz1 hz2 hra hrN hca h okf hz6 hw7 k67 qG z7 hkx HW6 HF6 HRF HKF2 HK6 f4a f6a hmk hGs
      generalize wo.heap.size=FB at *
      generalize w5.heap.size=X at *
      clear w5 W3
      go_loopw [7] (fun s7 wr=>∃ v:Nat,s7 = .int .i64 (v:Int)∧(v:Int)≤(F f).m∧Hid (Kx Gs w7 wr∧Sn Gs (F f).p (fun x=>0≤x∧x < (v:Int)) wr)) (fun s7 _=>(F f).m.toNat - (intOf s7).toNat)
      case atStart=>exact ⟨0,rfl,hmI0,H0⟩
      case round =>
        clear H0
        obtain ⟨v,rfl,hv,HX⟩:=hrel
        obtain ⟨kx,hs⟩:=(uh HX)
        obtain ⟨kw,qF,qX,hP,hGl⟩:=(uh HAT) wr kx
        obtain ⟨⟨hra,hrN,hca⟩,hG,h,okf,hGs⟩:=(uh HFX)
        have f2:wr.cell? ⟨FB,2,none⟩=some (.int .i64 (F f).m):=cell_of qF rfl
        rcases Int.lt_or_le (v:Int) (F f).m with hvm | hvm
        · have hvp:v < (F f).p:=by have:=okf.m1;omega
          have hvpI:(v:Int) < ((F f).p:Int):=by omega
          have cv0:=hs.1 v hvp
          have cvf:=hs.2
          have HN:Hid (Kx Gs w7 (wr.setCell ⟨Gs,v,none⟩ (.bool true))∧Sn Gs (F f).p (fun x=>0≤x∧x < ((v+1:Nat):Int)) (wr.setCell ⟨Gs,v,none⟩ (.bool true))):=(⟨kx.set v _,hs.set hvp (fun y=>by constructor <;> intro q <;> omega)⟩:_∧_)
          clear HX kx hs kw qF qX hP hGl hra hrN hca hG h okf hGs HAT HFX HRES HBOX HFN HOK HNF HMK HD hvp
          go_wp2_with fail
          go_roundw
          case rel=>exact ⟨v+1,by go_num,by omega,HN⟩
          case measure=>simp [intOf];omega
        have hvI:¬ (v:Int) < (F f).m:=by omega
        have f6:wr.cell? ⟨FB,6,none⟩=some (.slice (some AN) (F f).n cnn):=cell_of qF rfl
        have H1:Hid (Kx Gs w7 wr∧Sn Gs (F f).p (DS (F f) 0 0) wr∧∀ i,i < 0→R6 (F f) nf i):=(⟨kx,hs.eqv (fun y=>by rw [ds0];constructor <;> intro q <;> omega),fun i hi=>by omega⟩:_∧_)
        clear HX kx hs kw qF qX hP hGl hra hrN hca hG h okf hGs hvm
        go_wp2_with fail
        clear f6 f2 hvI hv
        obtain ⟨wp,rfl⟩:∃ wp,wp=wr:=⟨_,rfl⟩
        go_loopw [48] (fun s48 wr=>∃ t:Nat,s48 = .int .i64 (t:Int)∧t≤(F f).n∧Hid (Kx Gs w7 wr∧Sn Gs (F f).p (DS (F f) t 0) wr∧∀ i,i < t→R6 (F f) nf i)) (fun s48 _=>(F f).n - (intOf s48).toNat)
        case atStart=>exact ⟨0,rfl,Nat.zero_le _,H1⟩
        case round =>
          clear H1
          obtain ⟨t,rfl,ht0,HX⟩:=hrel
          obtain ⟨kx,hs,hall⟩:=(uh HX)
          obtain ⟨kw,qF,qX,hP,hGl⟩:=(uh HAT) wr kx
          obtain ⟨⟨hra,hrN,hca⟩,hG,h,okf,hGs⟩:=(uh HFX)
          have hDf:=(uh HD)
          rcases Nat.lt_or_ge t (F f).n with ht | ht
          · have htI:(t:Int) < ((F f).n:Int):=by omega
            have u0:=(uh HBOX) wr kw
            have HCR:=sp_refs (AN:=AN) (GP:=⟨gp,0,none⟩) (cnn:=cnn) (cp:=(F f).n) (nf:=nf) (ca:=ca) (Gs:=Gs) (t:=t) (pf:=some a) (pv:=pv) (pu:=pu) (cv:=cv) (cu:=cu) (e1:=some ⟨gd,0,none⟩) (e2:=(F f).n) (e3:=(F f).n) (d:=F f) (PA:=PA) wr okf ht (uh HNF).1 (fun i hi=>(hrN i hi).keep zq kw) (fun k hk=>by rw [addr0];exact hP k hk) ⟨DA,hG⟩ hGl hs (fun pr cr hc hp=>by
              obtain ⟨vr,vk,⟨-,-,-,-,-,-,y6,-⟩,⟨pb,cb,e,hb⟩,-⟩:=hrN t ht
              obtain ⟨ar,e1,-,-,e2⟩:=hb hp
              have:=(kw.cell y6).symm.trans hc
              rw [e,e1] at this
              refine ⟨ar,by simp at this;exact this.1.symm,fun q=>?_⟩
              have:=lt_of_cell' (e2 0 hp)
              have q2:(ar.add 0).block=ar.block:=rfl
              omega)
            have f0:wr.cell? ⟨FB,0,none⟩=some (.string (F f).x):=cell_of qF rfl
            have f1:wr.cell? ⟨FB,1,none⟩=some (.int .i64 (F f).l):=cell_of qF rfl
            have f2:wr.cell? ⟨FB,2,none⟩=some (.int .i64 (F f).m):=cell_of qF rfl
            have f3:wr.cell? ⟨FB,3,none⟩=some (.bool (F f).r):=cell_of qF rfl
            have f4:wr.cell? ⟨FB,4,none⟩=some (.slice pv (F f).p cv):=cell_of qF rfl
            have f5:wr.cell? ⟨FB,5,none⟩=some (.slice pu (F f).u cu):=cell_of qF rfl
            have f6:wr.cell? ⟨FB,6,none⟩=some (.slice (some AN) (F f).n cnn):=cell_of qF rfl
            have x0:wr.cell? ⟨X,0,none⟩=some (.slice (some ⟨gp,0,none⟩) (F f).n (F f).n):=cell_of qX rfl
            have x1:wr.cell? ⟨X,1,none⟩=some (.slice (some ⟨gd,0,none⟩) (F f).n (F f).n):=cell_of qX rfl
            have HKT:Hid (∀ W,Kx Gs wr W→Kx Gs w7 W∧Kb 0 w2 W):=(fun W k=>⟨kx.trans k,((uh HAT) W (kx.trans k)).1⟩:∀ W,_)
            by_cases h6:R6 (F f) nf t
            · have HN : Hid (∀ i, i < t + 1 → R6 (F f) nf i) := (fun i hi => by
                by_cases e:i=t
                · subst e;exact h6
                · exact hall i (by omega):∀ i,_)
              rw [dc_t h6] at HCR
              have HCR2:Hid (Calls Tryz.prog 40 _ wr _):=HCR
              clear HCR HX kx hs hall kw qF qX hP hGl hra hrN hca hG h okf hGs hDf
              go_wp2_with fail
              refine (uh HCR2).mono ?_
              rintro e w8 ⟨rfl,k8,s8⟩
              have H2:Hid (Kx Gs w7 w8∧Sn Gs (F f).p (DS (F f) (t+1) 0) w8∧∀ i,i < t+1→R6 (F f) nf i):=(⟨((uh HKT) w8 k8).1,s8 h6,HN⟩:_∧_)
              clear HCR2 s8 k8 h6 HN HKT u0 f0 f1 f2 f3 f4 f5 f6 x0 x1 ht ht0
              go_wp2_with fail
              go_roundw
              case rel=>exact ⟨t+1,by go_num,by omega,H2⟩
              case measure=>simp [intOf];omega
            · have hlx:Lx (PQ F nf 6) (LQ F 6) nf f t:=⟨h,ht,h6,hall,hDf⟩
              have HAN0:Hid (An3 nf F 6 f t):=lx_an (by omega) (by omega) hlx (fun c' h1 h2=>by omega)
              rw [dc_f h6] at HCR
              have HCR2:Hid (Calls Tryz.prog 40 _ wr _):=HCR
              clear HCR HX kx hs hall kw qF qX hP hGl hra hrN hca hG h okf hGs hDf hlx h6
              go_wp2_with fail
              refine (uh HCR2).mono ?_
              rintro e w8 ⟨rfl,k8,-⟩
              have KCUR:=((uh HKT) w8 k8).2
              have HRES1:=(uh HRES)
              have HAN:Hid (An3 nf F 6 f t):=HAN0
              clear HCR2 k8 HKT u0 f0 f1 f2 f3 f4 f5 f6 x0 x1 HAN0 HAT HFX
              go_wp2_with fail
              refine (sp_fault 6 (f:Int) (t:Int) _).mono ?_
              rintro e w9 ⟨rfl,k9⟩
              have r0:w9.cell? ⟨w.heap.size+1,0,none⟩=some (.int .i64 0):=k9.cell (HRES1 _ KCUR).1
              have r1:w9.cell? ⟨w.heap.size+1,1,none⟩=some (.int .i64 0):=k9.cell (HRES1 _ KCUR).2.1
              have r2:w9.cell? ⟨w.heap.size+1,2,none⟩=some (.int .i64 0):=k9.cell (HRES1 _ KCUR).2.2.1
              have fr:∀ j,w9.frozen? ⟨w.heap.size+1,j,none⟩=false:=fun j=>(HRES1 w9 (KCUR.trans k9)).2.2.2.1 j
              have HKW:Hid (Kb 0 w w9∧w.heap.size+1 < w9.heap.size):=(⟨(HRES1 w9 (KCUR.trans k9)).2.2.2.2.1,(HRES1 w9 (KCUR.trans k9)).2.2.2.2.2⟩:_∧_)
              clear k9 KCUR HRES1 HRES
              go_wp2_with fail
              refine bodyPost_ret (by simp [results,Tryz.results24,go_sem,r0,r1,r2];rfl) rfl ?_
              exact ⟨6,f,t,rfl,HAN,(((show Kb 0 w w9 from HKW.1).setCell ⟨w.heap.size+1,0,none⟩ (Or.inr (by show w.heap.size≤w.heap.size+1;omega)) _).setCell ⟨w.heap.size+1,1,none⟩ (Or.inr (by show w.heap.size≤w.heap.size+1;omega)) _).setCell ⟨w.heap.size+1,2,none⟩ (Or.inr (by show w.heap.size≤w.heap.size+1;omega)) _⟩
          · have htI:¬ (t:Int) < ((F f).n:Int):=by omega
            have HN:Hid (Kb 0 w2 wr∧∀ g,g < (f+1)→∀ t,t < (F g).n→PQ F nf 6 g t):=(⟨kw,fun g hg y hy=>by
              by_cases e:g=f
              · subst e;exact hall y (by omega)
              · exact hDf g (by omega) y hy⟩:_∧_)
            have hfI:f+1≤nf:=h
            clear HX kx hs hall kw qF qX hP hGl hra hrN hca hG h okf hGs hDf HAT HFX HD
            go_wp2_with fail
            go_roundw
            case rel=>exact ⟨f+1,by go_num,by omega,HN⟩
            case measure=>simp [intOf];omega
    · have hI:¬ (f:Int) < (nf:Int):=by omega
      have HL6:Hid (La (PQ F nf 6) (LQ F 6) nf):=(fun g hg t ht=>hD g (by omega) t ht:∀ g,_)
      have HKC:Hid (Kb 0 w2 wr):=kw
      have c2:=(uh HBOX) wr kw
      clear HX hD kw
      go_wp2_with fail
      clear c2 hI h hf
      obtain ⟨wa,rfl⟩:∃ wa,wa=wr:=⟨_,rfl⟩
      go_loopw [66] (fun s66 wr=>∃ f:Nat,s66 = .int .i64 (f:Int)∧f≤nf∧Hid (Kb 0 w2 wr∧∀ g,g < f→∀ t,t < (F g).n→PQ F nf 7 g t)) (fun s66 _=>nf - (intOf s66).toNat)
      case atStart=>exact ⟨0,rfl,Nat.zero_le _,(⟨HKC,fun g hg=>by omega⟩:_∧_)⟩
      case round =>
        clear HKC
        obtain ⟨f,rfl,hf,HX⟩:=hrel
        obtain ⟨kw,hD⟩:=(uh HX)
        rcases Nat.lt_or_ge f nf with h | h
        · have HD:Hid (∀ g,g < f→∀ t,t < (F g).n→PQ F nf 7 g t):=hD
          clear hD HMK
          obtain ⟨wo,rfl⟩:∃ wo,wo=wr:=⟨_,rfl⟩
          have hI:(f:Int) < (nf:Int):=by omega
          have c2:wo.cell? ⟨w.heap.size,0,none⟩=some (.slice pa nf ca):=(uh HBOX) wo kw
          obtain ⟨a,rfl,hca,hra⟩:=(uh HFN) w2 (Kb.refl _ _) (by omega)
          have okf:=(uh HOK) f h
          obtain ⟨vv,vu,vn,⟨d0,d1,d2,d3,d4,d5,d6⟩,⟨pv,cv,rfl,-⟩,⟨pu,cu,rfl,-⟩,pn,cnn,rfl,hvn2⟩:=id (hra f h)
          obtain ⟨AN,rfl,hcn,-,hrN⟩:=hvn2 okf.tree.pos
          replace d0:=kw.cell d0
          replace d1:=kw.cell d1
          replace d2:=kw.cell d2
          replace d3:=kw.cell d3
          replace d4:=kw.cell d4
          replace d5:=kw.cell d5
          replace d6:=kw.cell d6
          obtain ⟨W3,hW3⟩:∃ W3,W3=wo.alloc (.cells #[.string (F f).x,.int .i64 (F f).l,.int .i64 (F f).m,.bool (F f).r,.slice pv (F f).p cv,.slice pu (F f).u cu,.slice (some AN) (F f).n cnn] 48):=⟨_,rfl⟩
          have k3:Kb 0 wo W3:=by rw [hW3];exact kb_alloc _ _ _
          have q3:W3.heap[wo.heap.size]? = some (.cells #[.string (F f).x,.int .i64 (F f).l,.int .i64 (F f).m,.bool (F f).r,.slice pv (F f).p cv,.slice pu (F f).u cu,.slice (some AN) (F f).n cnn] 48 (0,0)):=by rw [hW3];exact alloc_new _ _ _
          have z3:W3.heap.size=wo.heap.size+1:=by rw [hW3,World.size_alloc]
          have hn3:=okf.hn
          have hnI3:((F f).n:Int)≤3000:=by omega
          have hpI3:((F f).p:Int)≤200:=by have:=okf.p2;omega
          have HC:Hid (Calls Tryz.prog 39 #[.slice (some AN) (F f).n cnn] W3 fun e w'=>∃ (PA DA:Nat→Int) (gp gd:Nat),e = .returned (.agg #[.slice (some ⟨gp,0,none⟩) (F f).n (F f).n,.slice (some ⟨gd,0,none⟩) (F f).n (F f).n])∧RowV w' (.slice (some ⟨gp,0,none⟩) (F f).n (F f).n) (F f).n (fun k=>.int .i64 (PA k))∧RowV w' (.slice (some ⟨gd,0,none⟩) (F f).n (F f).n) (F f).n (fun k=>.int .i64 (DA k))∧Grn (F f).N (F f).n PA DA∧Kb 0 W3 w'):=sp_grow W3 (by omega) okf.tree.pos (fun i hi=>(hrN i hi).keep zq (kw.trans k3)) okf.hq okf.tree.kid
          have HW3:Hid (W3=wo.alloc (.cells #[.string (F f).x,.int .i64 (F f).l,.int .i64 (F f).m,.bool (F f).r,.slice pv (F f).p cv,.slice pu (F f).u cu,.slice (some AN) (F f).n cnn] 48)):=hW3
          have HKF:Hid (Kb 0 w2 wo∧Kb 0 wo W3∧W3.heap[wo.heap.size]? = some (.cells #[.string (F f).x,.int .i64 (F f).l,.int .i64 (F f).m,.bool (F f).r,.slice pv (F f).p cv,.slice pu (F f).u cu,.slice (some AN) (F f).n cnn] 48 (0,0))∧W3.heap.size=wo.heap.size+1∧(∀ i,i < nf→FnC 0 w2 (a.add (i*7)) (F i))∧(∀ i,i < (F f).n→NodeC 0 w2 (AN.add (i*8)) ((F f).N i))∧nf≤ca∧f < nf∧Fok (F f)):=(⟨kw,k3,q3,z3,hra,hrN,hca,h,okf⟩:_∧_)
          clear kw k3 q3 z3 hra hrN hca h okf hW3 hvn2 hcn hn3 hf HX
          go_wp2_with fail
          rw [← (uh HW3)]
          clear HW3
          refine (uh HC).mono ?_
          rintro e w5 ⟨PA,DA,gp,gd,rfl,rp,rd,hG,k5⟩
          obtain ⟨kw,k3,q3,z3,hra,hrN,hca,h,okf⟩:=(uh HKF)
          obtain ⟨w6,hw6⟩:∃ w6,w6=w5.alloc (.cells #[.slice (some ⟨gp,0,none⟩) (F f).n (F f).n,.slice (some ⟨gd,0,none⟩) (F f).n (F f).n] 75):=⟨_,rfl⟩
          have k56:Kb 0 w5 w6:=by rw [hw6];exact kb_alloc _ _ _
          have z6:w6.heap.size=w5.heap.size+1:=by rw [hw6,World.size_alloc]
          have k6:Kb 0 wo w6:=(k3.trans k5).trans k56
          have qX:w6.heap[w5.heap.size]? = some (.cells #[.slice (some ⟨gp,0,none⟩) (F f).n (F f).n,.slice (some ⟨gd,0,none⟩) (F f).n (F f).n] 75 (0,0)):=by rw [hw6];exact alloc_new _ _ _
          have qF:w6.heap[wo.heap.size]? = some (.cells #[.string (F f).x,.int .i64 (F f).l,.int .i64 (F f).m,.bool (F f).r,.slice pv (F f).p cv,.slice pu (F f).u cu,.slice (some AN) (F f).n cnn] 48 (0,0)):=((k5.trans k56).block _ zq (by omega)).trans q3
          have hP:∀ k,k < (F f).n→w6.cell? ⟨gp,k,none⟩=some (.int .i64 (PA k)):=by
            intro k hk
            obtain ⟨pa',ca',e,hh⟩:=rp
            obtain ⟨A,e2,_,e4⟩:=hh (by omega)
            simp only [Value.slice.injEq] at e
            have e5:A=⟨gp,0,none⟩:=by have:=e.1;rw [e2] at this;exact (Option.some.inj this).symm
            have:=e4 k hk
            rw [e5,addr0] at this
            exact k56.cell this
          have HF6:Hid (Kb 0 w2 w6∧w6.heap[wo.heap.size]? = some (.cells #[.string (F f).x,.int .i64 (F f).l,.int .i64 (F f).m,.bool (F f).r,.slice pv (F f).p cv,.slice pu (F f).u cu,.slice (some AN) (F f).n cnn] 48 (0,0))∧w6.heap[w5.heap.size]? = some (.cells #[.slice (some ⟨gp,0,none⟩) (F f).n (F f).n,.slice (some ⟨gd,0,none⟩) (F f).n (F f).n] 75 (0,0))∧(∀ k,k < (F f).n→w6.cell? ⟨gp,k,none⟩=some (.int .i64 (PA k)))∧Grn (F f).N (F f).n PA DA∧w2.heap.size≤wo.heap.size∧wo.heap.size < w5.heap.size):=(⟨kw.trans k6,qF,qX,hP,hG,kw.size,by have:=k5.size;omega⟩:_∧_)
          have HRF:Hid ((∀ i,i < nf→FnC 0 w2 (a.add (i*7)) (F i))∧(∀ i,i < (F f).n→NodeC 0 w2 (AN.add (i*8)) ((F f).N i))∧nf≤ca):=(⟨hra,hrN,hca⟩:_∧_)
          have HKF2:Hid (f < nf∧Fok (F f)∧w6.heap.size=w5.heap.size+1):=(⟨h,okf,z6⟩:_∧_)
          have HK6:Hid (Kb 0 wo w6):=k6
          have HW6:Hid (w6=w5.alloc (.cells #[.slice (some ⟨gp,0,none⟩) (F f).n (F f).n,.slice (some ⟨gd,0,none⟩) (F f).n (F f).n] 75)):=hw6
          have fa:∀ o,(w5.alloc o).cell? ⟨wo.heap.size,4,none⟩=some (.slice pv (F f).p cv)∧(w5.alloc o).cell? ⟨wo.heap.size,6,none⟩=some (.slice (some AN) (F f).n cnn):=fun o=>by
            have q5:w5.heap[wo.heap.size]? = some (.cells #[.string (F f).x,.int .i64 (F f).l,.int .i64 (F f).m,.bool (F f).r,.slice pv (F f).p cv,.slice pu (F f).u cu,.slice (some AN) (F f).n cnn] 48 (0,0)):=(k5.block _ zq (by omega)).trans q3
            have kk:=kb_alloc 0 w5 o
            exact ⟨kk.cell (cell_of q5 rfl),kk.cell (cell_of q5 rfl)⟩
          have f4a:=fun o=>(fa o).1
          have f6a:=fun o=>(fa o).2
          clear HC rp rd hG k5 k56 k6 z6 qX qF hP hw6 c2 d0 d1 d2 d3 d4 d5 d6 kw k3 q3 z3 hra hrN hca h okf HKF fa
          go_wp2_with fail
          rw [← (uh HW6)]
          clear HW6 HK6 f4a f6a
          generalize wo.heap.size=FB at *
          generalize w5.heap.size=X at *
          have H1:Hid (Kb 0 w6 w6∧∀ i,i < 0→R7 (F f) i):=(⟨Kb.refl _ _,fun i hi=>by omega⟩:_∧_)
          go_loopw [77] (fun s77 wr=>∃ t:Nat,s77 = .int .i64 (t:Int)∧t≤(F f).n∧Hid (Kb 0 w6 wr∧∀ i,i < t→R7 (F f) i)) (fun s77 _=>(F f).n - (intOf s77).toNat)
          case atStart=>exact ⟨0,rfl,Nat.zero_le _,H1⟩
          case round =>
            clear H1
            obtain ⟨t,rfl,ht0,HX⟩:=hrel
            obtain ⟨k6,hall⟩:=(uh HX)
            obtain ⟨k26,qF,qX,hP,hG,hz1,hz2⟩:=(uh HF6)
            obtain ⟨hra,hrN,hca⟩:=(uh HRF)
            obtain ⟨h,okf,hz6⟩:=(uh HKF2)
            have hDf:=(uh HD)
            replace qF:=(k6.block _ zq (by omega)).trans qF
            replace qX:=(k6.block _ zq (by omega)).trans qX
            have kw:=k26.trans k6
            rcases Nat.lt_or_ge t (F f).n with ht | ht
            · have htI:(t:Int) < ((F f).n:Int):=by omega
              obtain ⟨vr,vk,⟨y0,-,-,-,-,-,-,-⟩,-,-⟩:=(hrN t ht).keep zq kw
              have f0:wr.cell? ⟨FB,0,none⟩=some (.string (F f).x):=cell_of qF rfl
              have f1:wr.cell? ⟨FB,1,none⟩=some (.int .i64 (F f).l):=cell_of qF rfl
              have f2:wr.cell? ⟨FB,2,none⟩=some (.int .i64 (F f).m):=cell_of qF rfl
              have f3:wr.cell? ⟨FB,3,none⟩=some (.bool (F f).r):=cell_of qF rfl
              have f4:wr.cell? ⟨FB,4,none⟩=some (.slice pv (F f).p cv):=cell_of qF rfl
              have f5:wr.cell? ⟨FB,5,none⟩=some (.slice pu (F f).u cu):=cell_of qF rfl
              have f6:wr.cell? ⟨FB,6,none⟩=some (.slice (some AN) (F f).n cnn):=cell_of qF rfl
              have x0:wr.cell? ⟨X,0,none⟩=some (.slice (some ⟨gp,0,none⟩) (F f).n (F f).n):=cell_of qX rfl
              have x1:wr.cell? ⟨X,1,none⟩=some (.slice (some ⟨gd,0,none⟩) (F f).n (F f).n):=cell_of qX rfl
              have HKT:Hid (∀ W,Kb 0 wr W→Kb 0 w6 W∧Kb 0 w2 W):=(fun W k=>⟨k6.trans k,kw.trans k⟩:∀ W,_)
              have HN7:Hid (R7 (F f) t→∀ i,i < t+1→R7 (F f) i):=(fun h7 i hi=>by
                by_cases e:i=t
                · subst e;exact h7
                · exact hall i (by omega):_→_)
              by_cases hk:((F f).N t).a.k=9∨((F f).N t).a.k=10
              · have HIN:=sp_inloop (AN:=AN) (GP:=⟨gp,0,none⟩) (cnn:=cnn) (cp:=(F f).n) (d:=F f) (vv:=.slice pv (F f).p cv) (vu:=.slice pu (F f).u cu) (vd:=.slice (some ⟨gd,0,none⟩) (F f).n (F f).n) (PA:=PA) wr ⟨_,_,_,rfl⟩ ⟨_,_,_,rfl⟩ ⟨_,_,_,rfl⟩ (fun i hi=>(hrN i hi).keep zq kw) (fun k hk=>by rw [addr0];exact k6.cell (hP k hk)) (by have:=okf.hn;omega) (fun i hi=>by have:=okf.hq i hi;omega) (grn_up okf hG) (fun m hm hk=>okf.pos m hm (.inl hk)) t ht
                unfold fnv at HIN
                rw [inl_dc okf hG ht (by omega)] at HIN
                have g10:((F f).N t).a.k=9∨(((F f).N t).a.k == 9)=false∧(((F f).N t).a.k == 10)=true:=by
                  rcases hk with e | e
                  · exact .inl e
                  · exact .inr ⟨bne (by omega),beq1 e⟩
                by_cases hl:LL (F f).N (F f).n t
                · have H2:=(uh HN7) (fun _=>hl)
                  rw [dc_t hl] at HIN
                  have HIN2:Hid (Calls Tryz.prog 41 _ wr _):=HIN
                  have HN:Hid (∀ i,i < t+1→R7 (F f) i):=H2
                  clear HIN HX k6 hall k26 qF qX hP hG hz1 hz2 hra hrN hca h okf hz6 hDf kw HN7 H2 hk hl
                  generalize ((F f).N t).a.k=kk at *
                  rcases g10 with rfl | ⟨g9,g10⟩
                  all_goals
                    go_wp2_with fail
                    refine (uh HIN2).mono ?_
                    rintro e w8 ⟨rfl,k8⟩
                    have H3:Hid (Kb 0 w6 w8∧∀ i,i < t+1→R7 (F f) i):=(⟨((uh HKT) w8 k8).1,HN⟩:_∧_)
                    clear HIN2 k8 HN HKT f0 f1 f2 f3 f4 f5 f6 x0 x1 y0 ht ht0
                    go_wp2_with fail
                    go_roundw
                    case rel=>exact ⟨t+1,by go_num,by omega,H3⟩
                    case measure=>simp [intOf];omega
                · have hlx:Lx (PQ F nf 7) (LQ F 7) nf f t:=⟨h,ht,fun q=>hl (q hk),hall,hDf⟩
                  have HAN0:Hid (An3 nf F 7 f t):=lx_an (by omega) (by omega) hlx (fun c' h1 h2=>by rw [show c'=6 by omega];exact HL6)
                  rw [dc_f hl] at HIN
                  have HIN2:Hid (Calls Tryz.prog 41 _ wr _):=HIN
                  clear HIN HX k6 hall k26 qF qX hP hG hz1 hz2 hra hrN hca h okf hz6 hDf kw HN7 hk hl hlx
                  generalize ((F f).N t).a.k=kk at *
                  rcases g10 with rfl | ⟨g9,g10⟩
                  all_goals
                    go_wp2_with fail
                    refine (uh HIN2).mono ?_
                    rintro e w8 ⟨rfl,k8⟩
                    have KCUR:=((uh HKT) w8 k8).2
                    have HRES1:=(uh HRES)
                    have HAN:Hid (An3 nf F 7 f t):=HAN0
                    clear HIN2 k8 HKT f0 f1 f2 f3 f4 f5 f6 x0 x1 y0 HAN0 HF6 HRF HKF2
                    go_wp2_with fail
                    refine (sp_fault 7 (f:Int) (t:Int) _).mono ?_
                    rintro e w9 ⟨rfl,k9⟩
                    have r0:w9.cell? ⟨w.heap.size+1,0,none⟩=some (.int .i64 0):=k9.cell (HRES1 _ KCUR).1
                    have r1:w9.cell? ⟨w.heap.size+1,1,none⟩=some (.int .i64 0):=k9.cell (HRES1 _ KCUR).2.1
                    have r2:w9.cell? ⟨w.heap.size+1,2,none⟩=some (.int .i64 0):=k9.cell (HRES1 _ KCUR).2.2.1
                    have fr:∀ j,w9.frozen? ⟨w.heap.size+1,j,none⟩=false:=fun j=>(HRES1 w9 (KCUR.trans k9)).2.2.2.1 j
                    have HKW:Hid (Kb 0 w w9∧w.heap.size+1 < w9.heap.size):=(⟨(HRES1 w9 (KCUR.trans k9)).2.2.2.2.1,(HRES1 w9 (KCUR.trans k9)).2.2.2.2.2⟩:_∧_)
                    clear k9 KCUR HRES1 HRES
                    go_wp2_with fail
                    refine bodyPost_ret (by simp [results,Tryz.results24,go_sem,r0,r1,r2];rfl) rfl ?_
                    exact ⟨7,f,t,rfl,HAN,(((show Kb 0 w w9 from HKW.1).setCell ⟨w.heap.size+1,0,none⟩ (Or.inr (by show w.heap.size≤w.heap.size+1;omega)) _).setCell ⟨w.heap.size+1,1,none⟩ (Or.inr (by show w.heap.size≤w.heap.size+1;omega)) _).setCell ⟨w.heap.size+1,2,none⟩ (Or.inr (by show w.heap.size≤w.heap.size+1;omega)) _⟩
              · have H3:Hid (Kb 0 w6 wr∧∀ i,i < t+1→R7 (F f) i):=(⟨k6,(uh HN7) (fun q=>absurd q hk)⟩:_∧_)
                have g9:(((F f).N t).a.k == 9)=false:=bne (by omega)
                have g10:(((F f).N t).a.k == 10)=false:=bne (by omega)
                clear HX k6 hall k26 qF qX hP hG hz1 hz2 hra hrN hca h okf hz6 hDf kw HN7 hk HKT HF6 HRF HKF2 f0 f1 f2 f3 f4 f5 x0 x1
                generalize ((F f).N t).a.k=kk at *
                go_wp2_with fail
                go_roundw
                case rel=>exact ⟨t+1,by go_num,by omega,H3⟩
                case measure=>simp [intOf];omega
            · have htI:¬ (t:Int) < ((F f).n:Int):=by omega
              have HN:Hid (Kb 0 w2 wr∧∀ g,g < (f+1)→∀ t,t < (F g).n→PQ F nf 7 g t):=(⟨kw,fun g hg y hy=>by
                by_cases e:g=f
                · subst e;exact hall y (by omega)
                · exact hDf g (by omega) y hy⟩:_∧_)
              have hfI:f+1≤nf:=h
              clear HX k6 hall k26 qF qX hP hG hz1 hz2 hra hrN hca h okf hz6 hDf kw HF6 HRF HKF2 HD
              go_wp2_with fail
              go_roundw
              case rel=>exact ⟨f+1,by go_num,by omega,HN⟩
              case measure=>simp [intOf];omega
        · have hI:¬ (f:Int) < (nf:Int):=by omega
          have HL7:Hid (La (PQ F nf 7) (LQ F 7) nf):=(fun g hg t ht=>hD g (by omega) t ht:∀ g,_)
          have HKC:Hid (Kb 0 w2 wr):=kw
          have c2:=(uh HBOX) wr kw
          have c2a:∀ o,(wr.alloc o).cell? ⟨w.heap.size,0,none⟩=some (.slice pa nf ca):=fun o=>(kb_alloc 0 wr o).cell c2
          have hmk:=fun W=>(uh HMK) nf (uh HNF).1 W
          clear HX hD kw HMK
          go_wp2_with fail
          clear c2 c2a hmk hI h hf
          obtain ⟨w8,hw8⟩:∃ w8,w8=wr.alloc (.cells (madeCells #[.bool false] (nf*Tryz.t4.size)) 4):=⟨_,rfl⟩
          rw [← hw8]
          have kc:=(uh HKC)
          have kcz:=kc.size
          obtain ⟨Gm,hGm⟩:∃ Gm,Gm=wr.heap.size:=⟨_,rfl⟩
          rw [← hGm]
          have qG:w8.heap[Gm]? = some (.cells (madeCells #[.bool false] (nf*1)) 4 (0,0)):=by rw [hGm,hw8];exact alloc_new _ _ _
          have k8:Kb 0 wr w8:=by rw [hw8];exact kb_alloc _ _ _
          have z8:w8.heap.size=Gm+1:=by rw [hw8,World.size_alloc,hGm]
          have HKM:Hid (∀ W,Kx Gm w8 W→Kb 0 w2 W∧Gm < W.heap.size):=(fun W kx=>⟨⟨kx.os.trans (k8.os.trans kc.os),kx.output.trans (k8.output.trans kc.output),by have:=kx.size;omega,fun k _ hk=>(kx.block k (by omega) (by omega)).trans ((k8.block k zq (by omega)).trans (kc.block k zq hk))⟩,by have:=kx.size;omega⟩:∀ W,_)
          have HG2:Hid (w2.heap.size≤Gm):=(show w2.heap.size≤Gm by omega)
          have H0:Hid (Kx Gm w8 w8∧Sn Gm nf (MB F 0 0) w8∧∀ g,g < 0→∀ t,t < (F g).n→PQ F nf 8 g t):=(⟨Kx.refl _ _,⟨fun v hv=>by rw [dc_f (fun q=>by unfold MB at q;rcases q with ⟨_,_,q,_⟩ | ⟨_,q,_⟩ <;> omega)];exact (madeB qG).1 v hv,(madeB qG).2⟩,fun g hg=>by omega⟩:_∧_)
          clear hw8 kc hGm qG k8 z8 kcz HKC
          obtain ⟨wb,rfl⟩:∃ wb,wb=wr:=⟨_,rfl⟩
          go_loopw [111] (fun s111 wr=>∃ f:Nat,s111 = .int .i64 (f:Int)∧f≤nf∧Hid (Kx Gm w8 wr∧Sn Gm nf (MB F f 0) wr∧∀ g,g < f→∀ t,t < (F g).n→PQ F nf 8 g t)) (fun s111 _=>nf - (intOf s111).toNat)
          case atStart=>exact ⟨0,rfl,Nat.zero_le _,H0⟩
          case round =>
            clear H0
            obtain ⟨f,rfl,hf,HX⟩:=hrel
            obtain ⟨kxo,hso,hD⟩:=(uh HX)
            obtain ⟨kw,hGl⟩:=(uh HKM) wr kxo
            rcases Nat.lt_or_ge f nf with h | h
            · obtain ⟨wo,rfl⟩:∃ wo,wo=wr:=⟨_,rfl⟩
              have HD:Hid (Kx Gm w8 wo∧Sn Gm nf (MB F f 0) wo∧(∀ g,g < f→∀ t,t < (F g).n→PQ F nf 8 g t)∧Gm < wo.heap.size):=(⟨kxo,hso,hD,hGl⟩:_∧_)
              clear kxo hso hD hGl
              have hI:(f:Int) < (nf:Int):=by omega
              have c2:wo.cell? ⟨w.heap.size,0,none⟩=some (.slice pa nf ca):=(uh HBOX) wo kw
              obtain ⟨a,rfl,hca,hra⟩:=(uh HFN) w2 (Kb.refl _ _) (by omega)
              have okf:=(uh HOK) f h
              obtain ⟨vv,vu,vn,⟨d0,d1,d2,d3,d4,d5,d6⟩,⟨pv,cv,rfl,-⟩,⟨pu,cu,rfl,-⟩,pn,cnn,rfl,hvn2⟩:=id (hra f h)
              obtain ⟨AN,rfl,hcn,-,hrN⟩:=hvn2 okf.tree.pos
              replace d0:=kw.cell d0
              replace d1:=kw.cell d1
              replace d2:=kw.cell d2
              replace d3:=kw.cell d3
              replace d4:=kw.cell d4
              replace d5:=kw.cell d5
              replace d6:=kw.cell d6
              obtain ⟨W3,hW3⟩:∃ W3,W3=wo.alloc (.cells #[.string (F f).x,.int .i64 (F f).l,.int .i64 (F f).m,.bool (F f).r,.slice pv (F f).p cv,.slice pu (F f).u cu,.slice (some AN) (F f).n cnn] 48):=⟨_,rfl⟩
              have k3:Kb 0 wo W3:=by rw [hW3];exact kb_alloc _ _ _
              have q3:W3.heap[wo.heap.size]? = some (.cells #[.string (F f).x,.int .i64 (F f).l,.int .i64 (F f).m,.bool (F f).r,.slice pv (F f).p cv,.slice pu (F f).u cu,.slice (some AN) (F f).n cnn] 48 (0,0)):=by rw [hW3];exact alloc_new _ _ _
              have z3:W3.heap.size=wo.heap.size+1:=by rw [hW3,World.size_alloc]
              have hn3:=okf.hn
              have hnI3:((F f).n:Int)≤3000:=by omega
              have hpI3:((F f).p:Int)≤200:=by have:=okf.p2;omega
              have HC:Hid (Calls Tryz.prog 39 #[.slice (some AN) (F f).n cnn] W3 fun e w'=>∃ (PA DA:Nat→Int) (gp gd:Nat),e = .returned (.agg #[.slice (some ⟨gp,0,none⟩) (F f).n (F f).n,.slice (some ⟨gd,0,none⟩) (F f).n (F f).n])∧RowV w' (.slice (some ⟨gp,0,none⟩) (F f).n (F f).n) (F f).n (fun k=>.int .i64 (PA k))∧RowV w' (.slice (some ⟨gd,0,none⟩) (F f).n (F f).n) (F f).n (fun k=>.int .i64 (DA k))∧Grn (F f).N (F f).n PA DA∧Kb 0 W3 w'):=sp_grow W3 (by omega) okf.tree.pos (fun i hi=>(hrN i hi).keep zq (kw.trans k3)) okf.hq okf.tree.kid
              have HW3:Hid (W3=wo.alloc (.cells #[.string (F f).x,.int .i64 (F f).l,.int .i64 (F f).m,.bool (F f).r,.slice pv (F f).p cv,.slice pu (F f).u cu,.slice (some AN) (F f).n cnn] 48)):=hW3
              have HKF:Hid (Kb 0 w2 wo∧Kb 0 wo W3∧W3.heap[wo.heap.size]? = some (.cells #[.string (F f).x,.int .i64 (F f).l,.int .i64 (F f).m,.bool (F f).r,.slice pv (F f).p cv,.slice pu (F f).u cu,.slice (some AN) (F f).n cnn] 48 (0,0))∧W3.heap.size=wo.heap.size+1∧(∀ i,i < nf→FnC 0 w2 (a.add (i*7)) (F i))∧(∀ i,i < (F f).n→NodeC 0 w2 (AN.add (i*8)) ((F f).N i))∧nf≤ca∧f < nf∧Fok (F f)):=(⟨kw,k3,q3,z3,hra,hrN,hca,h,okf⟩:_∧_)
              clear kw k3 q3 z3 hra hrN hca h okf hW3 hvn2 hcn hn3 hf HX
              go_wp2_with fail
              rw [← (uh HW3)]
              clear HW3
              refine (uh HC).mono ?_
              rintro e w5 ⟨PA,DA,gp,gd,rfl,rp,rd,hG,k5⟩
              obtain ⟨kw,k3,q3,z3,hra,hrN,hca,h,okf⟩:=(uh HKF)
              obtain ⟨w6,hw6⟩:∃ w6,w6=w5.alloc (.cells #[.slice (some ⟨gp,0,none⟩) (F f).n (F f).n,.slice (some ⟨gd,0,none⟩) (F f).n (F f).n] 75):=⟨_,rfl⟩
              have k56:Kb 0 w5 w6:=by rw [hw6];exact kb_alloc _ _ _
              have z6:w6.heap.size=w5.heap.size+1:=by rw [hw6,World.size_alloc]
              have k6:Kb 0 wo w6:=(k3.trans k5).trans k56
              have qX:w6.heap[w5.heap.size]? = some (.cells #[.slice (some ⟨gp,0,none⟩) (F f).n (F f).n,.slice (some ⟨gd,0,none⟩) (F f).n (F f).n] 75 (0,0)):=by rw [hw6];exact alloc_new _ _ _
              have qF:w6.heap[wo.heap.size]? = some (.cells #[.string (F f).x,.int .i64 (F f).l,.int .i64 (F f).m,.bool (F f).r,.slice pv (F f).p cv,.slice pu (F f).u cu,.slice (some AN) (F f).n cnn] 48 (0,0)):=((k5.trans k56).block _ zq (by omega)).trans q3
              have hP:∀ k,k < (F f).n→w6.cell? ⟨gp,k,none⟩=some (.int .i64 (PA k)):=by
                intro k hk
                obtain ⟨pa',ca',e,hh⟩:=rp
                obtain ⟨A,e2,_,e4⟩:=hh (by omega)
                simp only [Value.slice.injEq] at e
                have e5:A=⟨gp,0,none⟩:=by have:=e.1;rw [e2] at this;exact (Option.some.inj this).symm
                have:=e4 k hk
                rw [e5,addr0] at this
                exact k56.cell this
              have HF6:Hid (Kb 0 w2 w6∧w6.heap[wo.heap.size]? = some (.cells #[.string (F f).x,.int .i64 (F f).l,.int .i64 (F f).m,.bool (F f).r,.slice pv (F f).p cv,.slice pu (F f).u cu,.slice (some AN) (F f).n cnn] 48 (0,0))∧w6.heap[w5.heap.size]? = some (.cells #[.slice (some ⟨gp,0,none⟩) (F f).n (F f).n,.slice (some ⟨gd,0,none⟩) (F f).n (F f).n] 75 (0,0))∧(∀ k,k < (F f).n→w6.cell? ⟨gp,k,none⟩=some (.int .i64 (PA k)))∧Grn (F f).N (F f).n PA DA∧w2.heap.size≤wo.heap.size∧wo.heap.size < w5.heap.size):=(⟨kw.trans k6,qF,qX,hP,hG,kw.size,by have:=k5.size;omega⟩:_∧_)
              have HRF:Hid ((∀ i,i < nf→FnC 0 w2 (a.add (i*7)) (F i))∧(∀ i,i < (F f).n→NodeC 0 w2 (AN.add (i*8)) ((F f).N i))∧nf≤ca):=(⟨hra,hrN,hca⟩:_∧_)
              have HKF2:Hid (f < nf∧Fok (F f)∧w6.heap.size=w5.heap.size+1):=(⟨h,okf,z6⟩:_∧_)
              have HK6:Hid (Kb 0 wo w6):=k6
              have HW6:Hid (w6=w5.alloc (.cells #[.slice (some ⟨gp,0,none⟩) (F f).n (F f).n,.slice (some ⟨gd,0,none⟩) (F f).n (F f).n] 75)):=hw6
              have fa:∀ o,(w5.alloc o).cell? ⟨wo.heap.size,4,none⟩=some (.slice pv (F f).p cv)∧(w5.alloc o).cell? ⟨wo.heap.size,6,none⟩=some (.slice (some AN) (F f).n cnn):=fun o=>by
                have q5:w5.heap[wo.heap.size]? = some (.cells #[.string (F f).x,.int .i64 (F f).l,.int .i64 (F f).m,.bool (F f).r,.slice pv (F f).p cv,.slice pu (F f).u cu,.slice (some AN) (F f).n cnn] 48 (0,0)):=(k5.block _ zq (by omega)).trans q3
                have kk:=kb_alloc 0 w5 o
                exact ⟨kk.cell (cell_of q5 rfl),kk.cell (cell_of q5 rfl)⟩
              have f4a:=fun o=>(fa o).1
              have f6a:=fun o=>(fa o).2
              clear HC rp rd hG k5 k56 k6 z6 qX qF hP hw6 c2 d0 d1 d2 d3 d4 d5 d6 kw k3 q3 z3 hra hrN hca h okf HKF fa
              go_wp2_with fail
              rw [← (uh HW6)]
              clear HW6 f4a f6a
              have HNE:Hid (gp ≠ Gm∧Gm < wo.heap.size∧w2.heap.size≤Gm):=(by
                obtain ⟨kxo,hso,-,hGl⟩:=(uh HD)
                obtain ⟨-,-,-,hP,-,-,-⟩:=(uh HF6)
                obtain ⟨h,okf,-⟩:=(uh HKF2)
                refine ⟨fun e=>?_,hGl,HG2⟩
                have c1:=hP 0 okf.tree.pos
                have c2:=(uh HK6).cell (hso.1 0 (by omega))
                rw [e,c2] at c1
                exact absurd c1 (by simp):gp ≠ Gm∧_)
              have H1:Hid (Kx Gm w6 w6∧Sn Gm nf (MB F f 0) w6∧∀ i,i < 0→R8 F f i):=(by
                obtain ⟨kxo,hso,-,hGl⟩:=(uh HD)
                exact ⟨Kx.refl _ _,hso.keep hGl HK6,fun i hi=>by omega⟩:_∧_)
              generalize wo.heap.size=FB at *
              generalize w5.heap.size=X at *
              go_loopw [122] (fun s122 wr=>∃ t:Nat,s122 = .int .i64 (t:Int)∧t≤(F f).n∧Hid (Kx Gm w6 wr∧Sn Gm nf (MB F f t) wr∧∀ i,i < t→R8 F f i)) (fun s122 _=>(F f).n - (intOf s122).toNat)
              case atStart=>exact ⟨0,rfl,Nat.zero_le _,H1⟩
              case round =>
                clear H1
                obtain ⟨t,rfl,ht0,HX⟩:=hrel
                obtain ⟨kx,hs,hall⟩:=(uh HX)
                obtain ⟨k26,qF,qX,hP,hG,hz1,hz2⟩:=(uh HF6)
                obtain ⟨hra,hrN,hca⟩:=(uh HRF)
                obtain ⟨h,okf,hz6⟩:=(uh HKF2)
                obtain ⟨hne,hGF,hG2⟩:=(uh HNE)
                obtain ⟨kxo,hso,hDf,-⟩:=(uh HD)
                have hsz:=kx.size
                have hGl:Gm < wr.heap.size:=by omega
                replace qF:=(kx.block FB (by omega) (by omega)).trans qF
                replace qX:=(kx.block X (by omega) (by omega)).trans qX
                replace hP:∀ k,k < (F f).n→wr.cell? ⟨gp,k,none⟩=some (.int .i64 (PA k)):=fun k hk=>(World.cell?_of_block (kx.block gp (lt_of_cell' (hP k hk)) hne)).trans (hP k hk)
                have kw:Kb 0 w2 wr:=⟨kx.os.trans k26.os,kx.output.trans k26.output,by have:=k26.size;omega,fun k _ hk=>(kx.block k (by have:=k26.size;omega) (by omega)).trans (k26.block k zq hk)⟩
                rcases Nat.lt_or_ge t (F f).n with ht | ht
                case inr =>
                  have htI:¬ (t:Int) < ((F f).n:Int):=by omega
                  have et:t=(F f).n:=by omega
                  have HN:Hid (Kx Gm w8 wr∧Sn Gm nf (MB F (f+1) 0) wr∧∀ g,g < (f+1)→∀ t,t < (F g).n→PQ F nf 8 g t):=(⟨(kxo.trans (.of_kb HK6)).trans kx,hs.eqv (fun y=>by rw [et];exact mb_next.symm),fun g hg y hy=>by
                    by_cases e:g=f
                    · subst e;exact hall y (by omega)
                    · exact hDf g (by omega) y hy⟩:_∧_)
                  have hfI:f+1≤nf:=h
                  clear HX kx hs hall k26 qF qX hP hG hz1 hz2 hra hrN hca h okf hz6 hne hGF hG2 kxo hso hDf hsz hGl kw HF6 HRF HKF2 HD HNE HK6 ht et
                  go_wp2_with fail
                  go_roundw
                  case rel=>exact ⟨f+1,by go_num,by omega,HN⟩
                  case measure=>simp [intOf];omega
                have htI:(t:Int) < ((F f).n:Int):=by omega
                obtain ⟨vr,vk,⟨y0,y1,y2,y3,y4,y5,y6,y7⟩,hvr,-⟩:=hrN t ht
                replace y0:=kw.cell y0
                replace y6:=kw.cell y6
                have f3:wr.cell? ⟨FB,3,none⟩=some (.bool (F f).r):=cell_of qF rfl
                have f6:wr.cell? ⟨FB,6,none⟩=some (.slice (some AN) (F f).n cnn):=cell_of qF rfl
                have x0:wr.cell? ⟨X,0,none⟩=some (.slice (some ⟨gp,0,none⟩) (F f).n (F f).n):=cell_of qX rfl
                have x1:wr.cell? ⟨X,1,none⟩=some (.slice (some ⟨gd,0,none⟩) (F f).n (F f).n):=cell_of qX rfl
                have u0:=(uh HBOX) wr kw
                have HKT:Hid (∀ W,Kb 0 wr W→Kb 0 w2 W):=(fun W k=>kw.trans k:∀ W,_)
                have HBAD:Hid (¬ R8 F f t→An3 nf F 8 f t):=(fun n8=>lx_an (c:=8) (by omega) (by omega) (show Lx (PQ F nf 8) (LQ F 8) nf f t from ⟨h,ht,n8,hall,hDf⟩) (fun c' h1 h2=>by
                  rcases (show c'=6∨c'=7 by omega) with rfl | rfl
                  · exact HL6
                  · exact HL7):_→_)
                have HGOOD:Hid (R8 F f t→∀ W,Kx Gm wr W→Sn Gm nf (MB F f (t+1)) W→Kx Gm w6 W∧Sn Gm nf (MB F f (t+1)) W∧∀ i,i < t+1→R8 F f i):=(fun g8 W k sn=>⟨kx.trans k,sn,fun i hi=>by
                  by_cases e:i=t
                  · subst e;exact g8
                  · exact hall i (by omega)⟩:_→_)
                by_cases h37:((F f).N t).a.k=37
                · cases hrs:(F f).r with
                  | true =>
                    have H3:Hid (Kx Gm w6 wr∧Sn Gm nf (MB F f (t+1)) wr∧∀ i,i < t+1→R8 F f i):=(uh HGOOD) ⟨fun _=>hrs,fun e=>by omega⟩ wr (Kx.refl _ _) (hs.eqv (fun y=>by rw [mb_step];exact ⟨fun q=>q.elim id (fun q=>by omega),.inl⟩))
                    rw [hrs] at f3
                    rw [h37] at y0
                    clear HX kx hs hall k26 qF qX hP hG hz1 hz2 hra hrN hca h okf hz6 hne hGF hG2 kxo hso hDf hsz hGl kw HF6 HRF HKF2 HD HNE HK6 HBAD HGOOD h37 hrs hvr y1 y2 y3 y4 y5 y7 HKT
                    go_wp2_with fail
                    go_roundw
                    case rel=>exact ⟨t+1,by go_num,by omega,H3⟩
                    case measure=>simp [intOf];omega
                  | false =>
                    have HAN0:Hid (An3 nf F 8 f t):=(uh HBAD) (fun q=>by have:=q.1 h37;rw [hrs] at this;cases this)
                    rw [hrs] at f3
                    rw [h37] at y0
                    have KC:=kw
                    clear HX kx hs hall k26 qF qX hP hG hz1 hz2 hra hrN hca h okf hz6 hne hGF hG2 kxo hso hDf hsz hGl kw HF6 HRF HKF2 HD HNE HK6 HBAD HGOOD h37 hrs hvr y1 y2 y3 y4 y5 y7 HKT
                    have KCUR:=KC
                    have HRES1:=(uh HRES)
                    have HAN:Hid (An3 nf F 8 f t):=HAN0
                    clear KC HAN0
                    go_wp2_with fail
                    refine (sp_fault 8 (f:Int) (t:Int) _).mono ?_
                    rintro e w9 ⟨rfl,k9⟩
                    have r0:w9.cell? ⟨w.heap.size+1,0,none⟩=some (.int .i64 0):=k9.cell (HRES1 _ KCUR).1
                    have r1:w9.cell? ⟨w.heap.size+1,1,none⟩=some (.int .i64 0):=k9.cell (HRES1 _ KCUR).2.1
                    have r2:w9.cell? ⟨w.heap.size+1,2,none⟩=some (.int .i64 0):=k9.cell (HRES1 _ KCUR).2.2.1
                    have fr:∀ j,w9.frozen? ⟨w.heap.size+1,j,none⟩=false:=fun j=>(HRES1 w9 (KCUR.trans k9)).2.2.2.1 j
                    have HKW:Hid (Kb 0 w w9∧w.heap.size+1 < w9.heap.size):=(⟨(HRES1 w9 (KCUR.trans k9)).2.2.2.2.1,(HRES1 w9 (KCUR.trans k9)).2.2.2.2.2⟩:_∧_)
                    clear k9 KCUR HRES1 HRES
                    go_wp2_with fail
                    refine bodyPost_ret (by simp [results,Tryz.results24,go_sem,r0,r1,r2];rfl) rfl ?_
                    exact ⟨8,f,t,rfl,HAN,(((show Kb 0 w w9 from HKW.1).setCell ⟨w.heap.size+1,0,none⟩ (Or.inr (by show w.heap.size≤w.heap.size+1;omega)) _).setCell ⟨w.heap.size+1,1,none⟩ (Or.inr (by show w.heap.size≤w.heap.size+1;omega)) _).setCell ⟨w.heap.size+1,2,none⟩ (Or.inr (by show w.heap.size≤w.heap.size+1;omega)) _⟩
                by_cases h36:((F f).N t).a.k=36
                case neg =>
                  have H3:Hid (Kx Gm w6 wr∧Sn Gm nf (MB F f (t+1)) wr∧∀ i,i < t+1→R8 F f i):=(uh HGOOD) ⟨fun e=>absurd e h37,fun e=>absurd e h36⟩ wr (Kx.refl _ _) (hs.eqv (fun y=>by rw [mb_step];exact ⟨fun q=>q.elim id (fun q=>absurd q.1 h36),.inl⟩))
                  have g37:(((F f).N t).a.k == 37)=false:=bne h37
                  have g36:(((F f).N t).a.k != 36)=true:=by simp [h36]
                  have g36b:(((F f).N t).a.k == 36)=false:=bne h36
                  clear HX kx hs hall k26 qF qX hP hG hz1 hz2 hra hrN hca h okf hz6 hne hGF hG2 kxo hso hDf hsz hGl kw HF6 HRF HKF2 HD HNE HK6 HBAD HGOOD h37 h36 hvr y1 y2 y3 y4 y5 y7 HKT
                  generalize ((F f).N t).a.k=kk at *
                  go_wp2_with fail
                  go_roundw
                  case rel=>exact ⟨t+1,by go_num,by omega,H3⟩
                  case measure=>simp [intOf];omega
                have p1:=okf.one t ht (.inr (.inr h36))
                have hR:=(show R6 (F f) nf t from (uh HL6) f h t ht).2.1 h36 0 (by omega)
                obtain ⟨g,hg⟩:∃ g:Nat,((F f).N t).R 0=(g:Int):=⟨(((F f).N t).R 0).toNat,by omega⟩
                rw [hg] at hR
                have hgn:g < nf:=by omega
                have hgI:(g:Int) < (nf:Int):=by omega
                obtain ⟨pr,cr,rfl,hvr2⟩:=hvr
                obtain ⟨ra,rfl,hcr,-,hrc⟩:=hvr2 (by omega)
                have r0:wr.cell? (ra.add 0)=some (.int .i64 (g:Int)):=by
                  have:=kw.cell (hrc 0 (by omega))
                  rw [this];exact congrArg (fun z=>some (Value.int .i64 z)) hg
                have r1:wr.cell? ra=some (.int .i64 (g:Int)):=r0
                rw [p1] at y6
                have cg:=hs.1 g hgn
                have cf:=hs.2
                have HI8:Hid (R8 F f t↔f < g∧¬ MB F f t (g:Int)∧Cls (F f) (F g) t):=r8_iff h36 hg
                rw [h36] at y0
                rcases Nat.lt_or_ge f g with hfg | hfg
                case inr =>
                  have HAN0:Hid (An3 nf F 8 f t):=(uh HBAD) (fun q=>by have:=((uh HI8).1 q).1;omega)
                  have hfgI:(g:Int)≤(f:Int):=by omega
                  have KC:=kw
                  clear HX kx hs hall k26 qF qX hP hG hz1 hz2 hra hrN hca h okf hz6 hne hGF hG2 kxo hso hDf hsz hGl kw HF6 HRF HKF2 HD HNE HK6 HBAD HGOOD h37 h36 hvr2 y1 y2 y3 y4 y5 y7 HKT p1 hR hg hgn hcr hrc HI8 hfg
                  have KCUR:=KC
                  have HRES1:=(uh HRES)
                  have HAN:Hid (An3 nf F 8 f t):=HAN0
                  clear KC HAN0
                  go_wp2_with fail
                  refine (sp_fault 8 (f:Int) (t:Int) _).mono ?_
                  rintro e w9 ⟨rfl,k9⟩
                  have r0:w9.cell? ⟨w.heap.size+1,0,none⟩=some (.int .i64 0):=k9.cell (HRES1 _ KCUR).1
                  have r1:w9.cell? ⟨w.heap.size+1,1,none⟩=some (.int .i64 0):=k9.cell (HRES1 _ KCUR).2.1
                  have r2:w9.cell? ⟨w.heap.size+1,2,none⟩=some (.int .i64 0):=k9.cell (HRES1 _ KCUR).2.2.1
                  have fr:∀ j,w9.frozen? ⟨w.heap.size+1,j,none⟩=false:=fun j=>(HRES1 w9 (KCUR.trans k9)).2.2.2.1 j
                  have HKW:Hid (Kb 0 w w9∧w.heap.size+1 < w9.heap.size):=(⟨(HRES1 w9 (KCUR.trans k9)).2.2.2.2.1,(HRES1 w9 (KCUR.trans k9)).2.2.2.2.2⟩:_∧_)
                  clear k9 KCUR HRES1 HRES
                  go_wp2_with fail
                  refine bodyPost_ret (by simp [results,Tryz.results24,go_sem,r0,r1,r2];rfl) rfl ?_
                  exact ⟨8,f,t,rfl,HAN,(((show Kb 0 w w9 from HKW.1).setCell ⟨w.heap.size+1,0,none⟩ (Or.inr (by show w.heap.size≤w.heap.size+1;omega)) _).setCell ⟨w.heap.size+1,1,none⟩ (Or.inr (by show w.heap.size≤w.heap.size+1;omega)) _).setCell ⟨w.heap.size+1,2,none⟩ (Or.inr (by show w.heap.size≤w.heap.size+1;omega)) _⟩
                have hfgI:decide ((g:Int)≤(f:Int))=false:=decide_eq_false (by omega)
                have hfgN:decide (g≤f)=false:=decide_eq_false (by omega)
                by_cases hm:MB F f t (g:Int)
                · rw [dc_t hm] at cg
                  have HAN0:Hid (An3 nf F 8 f t):=(uh HBAD) (fun q=>((uh HI8).1 q).2.1 hm)
                  have KC:=kw
                  clear HX kx hs hall k26 qF qX hP hG hz1 hz2 hra hrN hca h okf hz6 hne hGF hG2 kxo hso hDf hsz hGl kw HF6 HRF HKF2 HD HNE HK6 HBAD HGOOD h37 h36 hvr2 y1 y2 y3 y4 y5 y7 HKT p1 hR hg hgn hcr hrc HI8 hfg
                  have KCUR:=KC
                  have HRES1:=(uh HRES)
                  have HAN:Hid (An3 nf F 8 f t):=HAN0
                  clear KC HAN0
                  go_wp2_with fail
                  refine (sp_fault 8 (f:Int) (t:Int) _).mono ?_
                  rintro e w9 ⟨rfl,k9⟩
                  have r0:w9.cell? ⟨w.heap.size+1,0,none⟩=some (.int .i64 0):=k9.cell (HRES1 _ KCUR).1
                  have r1:w9.cell? ⟨w.heap.size+1,1,none⟩=some (.int .i64 0):=k9.cell (HRES1 _ KCUR).2.1
                  have r2:w9.cell? ⟨w.heap.size+1,2,none⟩=some (.int .i64 0):=k9.cell (HRES1 _ KCUR).2.2.1
                  have fr:∀ j,w9.frozen? ⟨w.heap.size+1,j,none⟩=false:=fun j=>(HRES1 w9 (KCUR.trans k9)).2.2.2.1 j
                  have HKW:Hid (Kb 0 w w9∧w.heap.size+1 < w9.heap.size):=(⟨(HRES1 w9 (KCUR.trans k9)).2.2.2.2.1,(HRES1 w9 (KCUR.trans k9)).2.2.2.2.2⟩:_∧_)
                  clear k9 KCUR HRES1 HRES
                  go_wp2_with fail
                  refine bodyPost_ret (by simp [results,Tryz.results24,go_sem,r0,r1,r2];rfl) rfl ?_
                  exact ⟨8,f,t,rfl,HAN,(((show Kb 0 w w9 from HKW.1).setCell ⟨w.heap.size+1,0,none⟩ (Or.inr (by show w.heap.size≤w.heap.size+1;omega)) _).setCell ⟨w.heap.size+1,1,none⟩ (Or.inr (by show w.heap.size≤w.heap.size+1;omega)) _).setCell ⟨w.heap.size+1,2,none⟩ (Or.inr (by show w.heap.size≤w.heap.size+1;omega)) _⟩
                rw [dc_f hm] at cg
                have HUP:=sp_ups (a:=a) (GP:=⟨gp,0,none⟩) (ca:=ca) (nf:=nf) (f:=f) (g:=g) (t:=t) (cp:=(F f).n) (e1:=some ⟨gd,0,none⟩) (e2:=(F f).n) (e3:=(F f).n) (F:=F) (PA:=PA) wr h hgn (uh HNF).1 (fun i hi=>(hra i hi).keep zq kw) okf ((uh HOK) g hgn).u2 ht (fun k hk=>by rw [addr0];exact hP k hk) ⟨DA,hG⟩
                by_cases hc:Cls (F f) (F g) t
                · rw [dc_t hc] at HUP
                  have HUP2:Hid (Calls Tryz.prog 42 _ wr _):=HUP
                  have HST:Hid (∀ W,Kb 0 wr W→W.cell? ⟨Gm,g,none⟩=some (.bool false)∧(∀ j,W.frozen? ⟨Gm,j,none⟩=false)∧(Kx Gm w6 (W.setCell ⟨Gm,g,none⟩ (.bool true))∧Sn Gm nf (MB F f (t+1)) (W.setCell ⟨Gm,g,none⟩ (.bool true))∧∀ i,i < t+1→R8 F f i)):=(fun W k=>by
                    have sk:=hs.keep hGl k
                    refine ⟨k.cell cg,sk.2,(uh HGOOD) ((uh HI8).2 ⟨hfg,hm,hc⟩) _ (Kx.set (.of_kb k) g _) (sk.set hgn (fun y=>?_))⟩
                    rw [mb_step,hg]
                    exact ⟨fun q=>q.elim .inl (fun q=>.inr q.2.symm),fun q=>q.elim .inl (fun q=>.inr ⟨h36,q.symm⟩)⟩:∀ W,_)
                  clear HUP hm hc
                  clear HX kx hs hall k26 qF qX hP hG hz1 hz2 hra hrN hca h okf hz6 hne hGF hG2 kxo hso hDf hsz hGl kw HF6 HRF HKF2 HD HNE HK6 HBAD HGOOD h37 h36 hvr2 y1 y2 y3 y4 y5 y7 HKT p1 hR hg hgn hcr hrc HI8 hfg
                  go_wp2_with fail
                  refine (uh HUP2).mono ?_
                  rintro e w9 ⟨rfl,k9⟩
                  obtain ⟨cs,fs,hN⟩:=(uh HST) w9 k9
                  have H3:Hid (Kx Gm w6 (w9.setCell ⟨Gm,g,none⟩ (.bool true))∧Sn Gm nf (MB F f (t+1)) (w9.setCell ⟨Gm,g,none⟩ (.bool true))∧∀ i,i < t+1→R8 F f i):=hN
                  clear HUP2 HST k9 hN y0 y6 f3 f6 x0 x1 u0 r0 r1 cg cf
                  go_wp2_with fail
                  go_roundw
                  case rel=>exact ⟨t+1,by go_num,by omega,H3⟩
                  case measure=>simp [intOf];omega
                · rw [dc_f hc] at HUP
                  have HUP2:Hid (Calls Tryz.prog 42 _ wr _):=HUP
                  have HAN0:Hid (An3 nf F 8 f t):=(uh HBAD) (fun q=>hc ((uh HI8).1 q).2.2)
                  have HKC2:Hid (Kb 0 w2 wr):=kw
                  clear HUP hm hc
                  clear HX kx hs hall k26 qF qX hP hG hz1 hz2 hra hrN hca h okf hz6 hne hGF hG2 kxo hso hDf hsz hGl kw HF6 HRF HKF2 HD HNE HK6 HBAD HGOOD h37 h36 hvr2 y1 y2 y3 y4 y5 y7 HKT p1 hR hg hgn hcr hrc HI8 hfg
                  go_wp2_with fail
                  refine (uh HUP2).mono ?_
                  rintro e w11 ⟨rfl,k11⟩
                  have KCUR:=(uh HKC2).trans k11
                  have HRES1:=(uh HRES)
                  have HAN:Hid (An3 nf F 8 f t):=HAN0
                  clear k11 HUP2 HKC2 HAN0 y0 y6 f3 f6 x0 x1 u0 r0 r1 cg cf
                  go_wp2_with fail
                  refine (sp_fault 8 (f:Int) (t:Int) _).mono ?_
                  rintro e w9 ⟨rfl,k9⟩
                  have r0:w9.cell? ⟨w.heap.size+1,0,none⟩=some (.int .i64 0):=k9.cell (HRES1 _ KCUR).1
                  have r1:w9.cell? ⟨w.heap.size+1,1,none⟩=some (.int .i64 0):=k9.cell (HRES1 _ KCUR).2.1
                  have r2:w9.cell? ⟨w.heap.size+1,2,none⟩=some (.int .i64 0):=k9.cell (HRES1 _ KCUR).2.2.1
                  have fr:∀ j,w9.frozen? ⟨w.heap.size+1,j,none⟩=false:=fun j=>(HRES1 w9 (KCUR.trans k9)).2.2.2.1 j
                  have HKW:Hid (Kb 0 w w9∧w.heap.size+1 < w9.heap.size):=(⟨(HRES1 w9 (KCUR.trans k9)).2.2.2.2.1,(HRES1 w9 (KCUR.trans k9)).2.2.2.2.2⟩:_∧_)
                  clear k9 KCUR HRES1 HRES
                  go_wp2_with fail
                  refine bodyPost_ret (by simp [results,Tryz.results24,go_sem,r0,r1,r2];rfl) rfl ?_
                  exact ⟨8,f,t,rfl,HAN,(((show Kb 0 w w9 from HKW.1).setCell ⟨w.heap.size+1,0,none⟩ (Or.inr (by show w.heap.size≤w.heap.size+1;omega)) _).setCell ⟨w.heap.size+1,1,none⟩ (Or.inr (by show w.heap.size≤w.heap.size+1;omega)) _).setCell ⟨w.heap.size+1,2,none⟩ (Or.inr (by show w.heap.size≤w.heap.size+1;omega)) _⟩
            · have hI:¬ (f:Int) < (nf:Int):=by omega
              have ef:f=nf:=by omega
              have HL8:Hid (La (PQ F nf 8) (LQ F 8) nf):=(fun g hg t ht=>hD g (by omega) t ht:∀ g,_)
              have HSM:Hid (Kb 0 w2 wr∧Sn Gm nf (MB F nf 0) wr):=(⟨kw,by rw [ef] at hso;exact hso⟩:_∧_)
              clear HX kxo hso hD kw hGl HKM HG2 h ef
              go_wp2_with fail
              clear hI hf
              obtain ⟨wz,rfl⟩:∃ wz,wz=wr:=⟨_,rfl⟩
              go_loopw [20] (fun s20 wr=>∃ f:Nat,s20 = .int .i64 (f:Int)∧1≤f∧(f≤nf∨f=1)∧wr=wz∧Hid (∀ g:Nat,1≤g→g < f→MB F nf 0 (g:Int))) (fun s20 _=>nf - (intOf s20).toNat)
              case atStart=>exact ⟨1,rfl,Nat.le_refl _,.inr rfl,rfl,(fun g h1 h2=>by omega:∀ g:Nat,_)⟩
              case round =>
                obtain ⟨f,rfl,hf1,hf2,rfl,HX⟩:=hrel
                have hM:=(uh HX)
                obtain ⟨kw,hs⟩:=(uh HSM)
                have u0:=(uh HBOX) wr kw
                rcases Nat.lt_or_ge f nf with h | h
                · have hI:(f:Int) < (nf:Int):=by omega
                  have cg:=hs.1 f h
                  by_cases hm:MB F nf 0 (f:Int)
                  · rw [dc_t hm] at cg
                    have HN:Hid (∀ g:Nat,1≤g→g < f+1→MB F nf 0 (g:Int)):=(fun g h1 h2=>by
                      by_cases e:g=f
                      · subst e;exact hm
                      · exact hM g h1 (by omega):∀ g:Nat,_)
                    clear HX hM kw hs hm HSM HL6 HL7 HL8 HRES HBOX HFN HOK HNF
                    go_wp2_with fail
                    go_roundw
                    case rel=>exact ⟨f+1,by go_num,by omega,by omega,by trivial,HN⟩
                    case measure=>simp [intOf];omega
                  · rw [dc_f hm] at cg
                    have HAN0:Hid (An3 nf F 9 f 0):=lx_an (by omega) (by omega) ⟨h,Nat.zero_lt_one,fun q=>(show R9 F nf f from q).elim (fun q=>by omega) hm,fun i hi=>by omega,fun g hg i hi=>(show R9 F nf g from (Nat.eq_zero_or_pos g).elim .inl (fun q=>.inr (hM g q hg)))⟩ (fun c' h1 h2=>by
                      rcases (show c'=6∨c'=7∨c'=8 by omega) with rfl | rfl | rfl
                      · exact HL6
                      · exact HL7
                      · exact HL8)
                    have KC:=kw
                    clear HX hM kw hs hm HSM HL6 HL7 HL8 HBOX HFN HOK HNF
                    have KCUR:=KC
                    have HRES1:=(uh HRES)
                    have HAN:Hid (An3 nf F 9 f 0):=HAN0
                    clear KC HAN0
                    go_wp2_with fail
                    refine (sp_fault 9 (f:Int) (0:Int) _).mono ?_
                    rintro e w9 ⟨rfl,k9⟩
                    have r0:w9.cell? ⟨w.heap.size+1,0,none⟩=some (.int .i64 0):=k9.cell (HRES1 _ KCUR).1
                    have r1:w9.cell? ⟨w.heap.size+1,1,none⟩=some (.int .i64 0):=k9.cell (HRES1 _ KCUR).2.1
                    have r2:w9.cell? ⟨w.heap.size+1,2,none⟩=some (.int .i64 0):=k9.cell (HRES1 _ KCUR).2.2.1
                    have fr:∀ j,w9.frozen? ⟨w.heap.size+1,j,none⟩=false:=fun j=>(HRES1 w9 (KCUR.trans k9)).2.2.2.1 j
                    have HKW:Hid (Kb 0 w w9∧w.heap.size+1 < w9.heap.size):=(⟨(HRES1 w9 (KCUR.trans k9)).2.2.2.2.1,(HRES1 w9 (KCUR.trans k9)).2.2.2.2.2⟩:_∧_)
                    clear k9 KCUR HRES1 HRES
                    go_wp2_with fail
                    refine bodyPost_ret (by simp [results,Tryz.results24,go_sem,r0,r1,r2];rfl) rfl ?_
                    exact ⟨9,f,0,rfl,HAN,(((show Kb 0 w w9 from HKW.1).setCell ⟨w.heap.size+1,0,none⟩ (Or.inr (by show w.heap.size≤w.heap.size+1;omega)) _).setCell ⟨w.heap.size+1,1,none⟩ (Or.inr (by show w.heap.size≤w.heap.size+1;omega)) _).setCell ⟨w.heap.size+1,2,none⟩ (Or.inr (by show w.heap.size≤w.heap.size+1;omega)) _⟩
                · have hI:¬ (f:Int) < (nf:Int):=by omega
                  have HAN0:Hid (An3 nf F 0 0 0):=.inr ⟨rfl,rfl,rfl,fun c' h1 h2=>by
                    rcases (show c'=6∨c'=7∨c'=8∨c'=9 by omega) with rfl | rfl | rfl | rfl
                    · exact HL6
                    · exact HL7
                    · exact HL8
                    · exact fun g hg i hi=>(show R9 F nf g from (Nat.eq_zero_or_pos g).elim .inl (fun q=>.inr (hM g q (by omega))))⟩
                  obtain ⟨r0,r1,r2,fr,kk,hlt⟩:=(uh HRES) wr kw
                  have HKW:Hid (Kb 0 w wr):=kk
                  clear HX hM kw hs HSM HL6 HL7 HL8 HRES HBOX HFN HOK HNF kk
                  go_wp2_with fail
                  refine bodyPost_ret (by simp [results,Tryz.results24,go_sem,r0,r1,r2];rfl) rfl ?_
                  exact ⟨0,0,0,rfl,HAN0,(((uh HKW).setCell ⟨w.heap.size+1,0,none⟩ (Or.inr (by show w.heap.size≤w.heap.size+1;omega)) _).setCell ⟨w.heap.size+1,1,none⟩ (Or.inr (by show w.heap.size≤w.heap.size+1;omega)) _).setCell ⟨w.heap.size+1,2,none⟩ (Or.inr (by show w.heap.size≤w.heap.size+1;omega)) _⟩
end Go.Proofs.YtfpidccjcemcjaaGreat.Fo
