import Derived.Test.YtfpidccjcemcjaaGreatMZsq
import Derived.Test.YtfpidccjcemcjaaGreatMNqg
import Derived.Test.YtfpidccjcemcjaaGreatMNpc
import Derived.Test.YtfpidccjcemcjaaGreatMNec
import Derived.Test.YtfpidccjcemcjaaGreatMNeb
import Derived.Test.YtfpidccjcemcjaaGreatMNdr
set_option maxHeartbeats 8000000
namespace Go.Proofs.YtfpidccjcemcjaaGreat.Fo
open Go.ChangeShapes Go.WideShapes Go.ChangeAt Go.RowKit
set_option linter.unusedVariables false
set_option maxRecDepth 100000
def mfn (c:Nat):Nat :=
 match c with
 | 2=>60
 | 3=>61
 | 4=>62
 | 5=>63
 | 6=>64
 | 7=>65
 | 8=>66
 | _=>67
structure Cst (w:World) (A:Addr) (nf ca B:Nat) (F:Nat→Fd) (c f:Nat) (L:List Int) (v m:Value) (W:World):Prop where
 kb:Kb 0 w W
 cb:W.cell? ⟨B,0,none⟩=some (.slice (some A) nf ca)
 hB:w.heap.size≤B
 zt:Zt B 1 L v m W
 ob:Ob w.heap.size v m
 mak:c=8→(∀ x,x ∈ L↔MB F f 0 x)
 fin:c=9→(∀ x,x ∈ L↔MB F nf 0 x)
 len:c=8→L.length≤f*3000
theorem Cst.on {w:World} {A:Addr} {nf ca B:Nat} {F:Nat→Fd} {c f:Nat} {L:List Int} {v m:Value} {W W':World} (h:Cst w A nf ca B F c f L v m W) (h8:c ≠ 8) (k:Kb 0 W W'):Cst w A nf ca B F c (f+1) L v m W' :=
 ⟨h.kb.trans k,k.cell h.cb,h.hB,h.zt.on k,h.ob,fun e=>absurd e h8,h.fin,fun e=>absurd e h8⟩
theorem Cst.alloc {w:World} {A:Addr} {nf ca B:Nat} {F:Nat→Fd} {c f:Nat} {L:List Int} {v m:Value} {W W':World} (h:Cst w A nf ca B F c f L v m W) (k:Kb 0 W W'):Cst w A nf ca B F c f L v m W' :=
 ⟨h.kb.trans k,k.cell h.cb,h.hB,h.zt.on k,h.ob,h.mak,h.fin,h.len⟩
theorem Cst.lt {w:World} {A:Addr} {nf ca B:Nat} {F:Nat→Fd} {c f:Nat} {L:List Int} {v m:Value} {W:World} (h:Cst w A nf ca B F c f L v m W):B < W.heap.size:=lt_of_cell' h.cb
theorem fok_la {nf:Nat} {F:Nat→Fd} {c:Nat} (hb:Bd nf F) (hz:Szu nf F) (hl:∀ c',2≤c'→c' < c→La (PQ F nf c') (LQ F c') nf) (hc : 5≤c):∀ f,f < nf→Fok (F f):=fun f hf=>fok_of hb hz (hl 2 (by omega) (by omega)) (hl 3 (by omega) (by omega)) (hl 4 (by omega) (by omega)) hf
theorem im_meth {w W : World} {A : Addr} {nf ca B c f : Nat} {F : Nat → Fd} {L : List Int} {v m : Value} (hfn : ∀ i, i < nf → FnC 0 w (A.add (i * 7)) (F i)) (hb : Bd nf F) (hz : Szu nf F) (h2 : 2 ≤ c) (h9 : c ≤ 9) (hf : f < nf) (hl : ∀ c', 2 ≤ c' → c' < c → La (PQ F nf c') (LQ F c') nf) (st : Cst w A nf ca B F c f L v m W) :
  Calls Tryz.prog (mfn c) #[.pointer (some ⟨B,0,none⟩),.int .i64 (f:Int)] W fun e w'=>∃ r:Int,e = .returned (.int .i64 r)∧Fb (PQ F nf c f) (LQ F c f) r∧∃ v' m',Ks B 1 v m v' m' W w'∧(r = -1→∃ L',Cst w A nf ca B F c (f+1) L' v' m' w'∧(c ≠ 8→L'=L)):=by
 have hfW:=(hfn f hf).keep zq st.kb
 have hBl:=st.lt
 have key:∀ {e:Ending} {w':World} {P:Nat→Prop} {n:Nat} {r:Int},c ≠ 8→e = .returned (.int .i64 r)→Fb P n r→Kb 0 W w'→(P=PQ F nf c f∧n=LQ F c f)→∃ r:Int,e = .returned (.int .i64 r)∧Fb (PQ F nf c f) (LQ F c f) r∧∃ v' m',Ks B 1 v m v' m' W w'∧(r = -1→∃ L',Cst w A nf ca B F c (f+1) L' v' m' w'∧(c ≠ 8→L'=L)):=by
  intro e w' P n r h8 he hr hk hP
  obtain ⟨rfl,rfl⟩:=hP
  exact ⟨r,he,hr,v,m,Ks.of_kb hk hBl,fun _=>⟨L,st.on h8 hk,fun _=>rfl⟩⟩
 rcases (show c=2∨c=3∨c=4∨c=5∨c=6∨c=7∨c=8∨c=9 by omega) with rfl | rfl | rfl | rfl | rfl | rfl | rfl | rfl
 ·obtain ⟨vv,vu,vn,hce,hvv,hvu,hvn⟩:=hfW
  obtain ⟨pv,cv,rfl,-⟩:=id hvv
  obtain ⟨pu,cu,rfl,-⟩:=id hvu
  obtain ⟨pn,cn,rfl,-⟩:=id hvn
  refine (im_head W hf hb.hnf st.cb hce hvv.row (hb.hp f hf) (hb.hu f hf) (hb.hn f hf)).mono ?_
  rintro e w' ⟨he,hk⟩
  refine key (by omega) he (P:=P2 F f) (n:=1) ?_ hk ⟨rfl,rfl⟩
  by_cases g:Hd f (F f)
  ·rw [dc_t g];exact .inl ⟨rfl,fun _ _=>g⟩
  ·rw [dc_f g];exact .inr ⟨0,rfl,by omega,g,fun i hi=>by omega⟩
 ·obtain ⟨vv,vu,vn,hce,hvv,hvu,hvn⟩:=hfW
  refine (im_wnode W hf hb.hnf st.cb hce hvn (hb.hn f hf) (hb.hN f hf)).mono ?_
  rintro e w' ⟨r,he,hr,hk⟩
  exact key (by omega) he hr hk ⟨rfl,rfl⟩
 ·obtain ⟨vv,vu,vn,hce,hvv,hvu,hvn⟩:=hfW
  have h3:=hl 3 (by omega) (by omega)
  have hh:Hd f (F f):=hl 2 (by omega) (by omega) f hf 0 (show 0 < 1 by omega)
  refine (im_stray W hf hb.hnf st.cb hce hvn (hb.hn f hf) hh.1 (kids_ok hb h3 f hf).1 (kids_ok hb h3 f hf).2).mono ?_
  rintro e w' ⟨r,he,hr,hk⟩
  exact key (by omega) he hr hk ⟨rfl,rfl⟩
 ·obtain ⟨vv,vu,vn,hce,hvv,hvu,hvn⟩:=hfW
  have ok:=fok_la hb hz hl (by omega) f hf
  refine (im_toodeep W hf hb.hnf st.cb hce hvn ok.hn ok.tree.pos ok.hq ok.tree.kid ok.tree.one).mono ?_
  rintro e w' ⟨r,he,hr,hk⟩
  exact key (by omega) he hr hk ⟨rfl,rfl⟩
 ·have ok:=fok_la hb hz hl (by omega) f hf
  refine (im_wref W hf hb.hnf st.cb hfW ok).mono ?_
  rintro e w' ⟨r,he,hr,hk⟩
  exact key (by omega) he hr hk ⟨rfl,rfl⟩
 ·have ok:=fok_la hb hz hl (by omega) f hf
  refine (im_oloop W hf hb.hnf st.cb hfW ok).mono ?_
  rintro e w' ⟨r,he,hr,hk⟩
  exact key (by omega) he hr hk ⟨rfl,rfl⟩
 ·have ok:=fok_la hb hz hl (by omega)
  have hlen:L.length≤f*3000:=st.len rfl
  have hnf:=hb.hnf
  refine (im_wmake w W hf hb.hnf st.cb hfn st.kb st.hB ok (fun t ht=>hl 6 (by omega) (by omega) f hf t ht) st.zt (st.mak rfl) (by omega) st.ob).mono ?_
  rintro e w' ⟨r,he,hr,v',m',hk,hN⟩
  refine ⟨r,he,hr,v',m',hk,fun e1=>?_⟩
  obtain ⟨L',z1,z2,z3⟩:=hN e1
  have hlow:∀ k,k < w.heap.size→w'.heap[k]? = W.heap[k]?:=fun k hk0=>hk.block k (by have:=st.kb.size;omega) (by have:=st.hB;omega) (fun e=>by have:=st.ob.1 k e;omega) (fun e=>by have:=st.ob.2 k e;omega)
  refine ⟨L',⟨⟨hk.os.trans st.kb.os,hk.output.trans st.kb.output,by have:=st.kb.size;have:=hk.size;omega,fun k _ hk0=>(hlow k hk0).trans (st.kb.block k zq hk0)⟩,(hk.cells 0 (by omega) (by omega)).trans st.cb,st.hB,z1,⟨fun k e=>(hk.hv k e).elim (st.ob.1 k) (fun q=>by have:=st.kb.size;omega),fun k e=>(hk.hm k e).elim (st.ob.2 k) (fun q=>by have:=st.kb.size;omega)⟩,fun _=>z2,fun e=>by omega,fun _=>by have:=(ok f hf).hn;omega⟩,fun e=>absurd rfl e⟩
 ·refine (im_unmade W st.zt).mono ?_
  rintro e w' ⟨r,he,hr,rfl⟩
  refine key (by omega) he (P:=fun _=>R9 F nf f) (n:=1) ?_ (Kb.refl _ _) ⟨rfl,rfl⟩
  have hi:∀ x,x ∈ L↔MB F nf 0 x:=st.fin rfl
  rcases hr with ⟨e1,e2⟩ | ⟨j,e1,e2,e3,e4⟩
  ·exact .inl ⟨e1,fun j hj=>(e2 j hj).imp id (hi _).1⟩
  ·exact .inr ⟨j,e1,e2,fun q=>e3 (q.imp id (hi _).2),fun i hi=>by omega⟩
end Go.Proofs.YtfpidccjcemcjaaGreat.Fo
