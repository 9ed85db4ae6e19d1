import Derived.Test.YtnmeemjoodoalaaGreatDoorNExt
import Derived.Test.YtnmeemjoodoalaaGreatDoorNEag
import Derived.Test.YtnmeemjoodoalaaGreatDoorNQka
import Derived.Test.YtnmeemjoodoalaaGreatDoorNExf
import Derived.Deep.RegionHeldLaw
namespace Go.Proofs.YtnmeemjoodoalaaGreatDoor.Fo
open Go.ChangeShapes Go.WideShapes Go.ChangeAt Go.RowKit
set_option linter.unusedVariables false
set_option maxRecDepth 100000
theorem psh_of {np : Nat} {F : Nat → Pd} (hb : Bd np F) (hR : ∀ i,i < np → RdP (F i)) (h : Sok np F) : ∀ p,p < np → Psh (F p):=by
  intro p hp
  obtain ⟨hx,⟨hl0,hl1⟩,⟨hg0,hg1⟩,⟨hm0,hm1⟩,hu,hc,h00⟩:=h.hd p hp
  obtain ⟨z0,z1,z2⟩:=h.sz
  have hnn : (F p).n ≤ 6000:=by
    have:=sm_one (fun i=>(F i).n) hp
    omega
  have hdd : (F p).d ≤ 500:=by
    rcases Nat.lt_or_ge 500 (F p).d with q | q
    · have:=(h.nm p hp 500 q).1
      omega
    · exact q
  have hm2 : (F p).m ≤ 250:=by
    split at hm1 <;> omega
  refine ⟨by omega,hu,hc,hnn,hdd,⟨by omega,by omega⟩,⟨by omega,by omega⟩,⟨by omega,by omega⟩,fun i hi=>?_,fun i hi=>⟨h.co p hp i hi,⟨((hR p hp).2.1 i hi).2.1,((hR p hp).2.1 i hi).2.2⟩,(hb.hC p hp i hi).1,(hb.hC p hp i hi).2⟩,fun i hi=>?_,fun i hi=>?_⟩
  ·
    rcases h.md p hp with e | ⟨q,j,hq,hj,ho,hk⟩
    · rcases h00 with k | ⟨_,k⟩
      · omega
      · omega
    · have hqp : q < np:=by rcases hq with k | k <;> omega
      obtain ⟨_,_,hU⟩:=h.fn q hqp j hj ho
      rw [hk,Int.toNat_natCast] at hU
      obtain ⟨u0,u1⟩:=hU i hi
      obtain ⟨_,_,⟨gq0,gq1⟩,_,uq,_⟩:=h.hd q hqp
      refine ⟨by omega,?_⟩
      split at u1 <;> omega
  · obtain ⟨⟨o1,o2,h3⟩,_⟩:=h.is p hp i hi
    have hf : ∀ j,j < 4 → Rn (fld ((F p).N i) j):=fun j hj=>by
      have h4:=h3 j hj
      unfold Fit at h4
      generalize pcl (pr ((F p).N i).o.toNat j) = k at h4
      unfold rg at h4
      unfold Rn
      split at h4 <;> (dsimp only at h4;omega)
    exact ⟨⟨by omega,by omega⟩,hf 0 (by omega),hf 1 (by omega),hf 2 (by omega),hf 3 (by omega)⟩
  · obtain ⟨_,⟨x1,x2⟩,⟨g0,g1⟩,f0,f1,t1⟩:=h.nm p hp i hi
    exact ⟨by omega,⟨by omega,by omega⟩,⟨by omega,by omega⟩,⟨by omega,by omega⟩⟩
instance : Inhabited Rp:=⟨⟨⟨#[]⟩,0,0,false,0,[],[],[],[]⟩⟩
def qd (q : Rp) : Pd:=⟨q.x,q.l,q.m,q.r,q.g,q.U.length,fun i=>q.U.getD i (false,0),q.C.length,fun i=>q.C.getD i default,q.N.length,fun i=>q.N.getD i default,q.D.length,fun i=>q.D.getD i default⟩
def QF (L : List Rp) : Nat → Pd:=fun i=>qd (L.getD i default)
theorem range_getD {α : Type} (L : List α) (d : α) : (List.range L.length).map (fun i=>L.getD i d) = L:=by
  apply List.ext_getElem?
  intro i
  rw [List.getElem?_map]
  rcases Nat.lt_or_ge i L.length with h | h
  · rw [List.getElem?_range h,List.getElem?_eq_getElem h]
    simp [List.getD,List.getElem?_eq_getElem h]
  · rw [List.getElem?_eq_none (by simpa using h),List.getElem?_eq_none h]
    rfl
theorem getD_mem {α : Type} {L : List α} {d : α} {i : Nat} (h : i < L.length) : L.getD i d ∈ L:=by
  simp only [List.getD,List.getElem?_eq_getElem h,Option.getD_some]
  exact List.getElem_mem h
theorem pb_qd (q : Rp) : pb (qd q) = pe q:=by
  unfold pb pe qd
  dsimp only
  rw [lb_ls ub,lb_ls cb,lb_ls ib,lb_ls mb,range_getD,range_getD,range_getD,range_getD]
theorem eb_qf (L : List Rp) : eb (QF L) L.length = [72,67,1] ++ ls pe L:=by
  have e : (fun i=>pb (QF L i)) = fun i=>pe (L.getD i default):=funext fun i=>pb_qd _
  unfold eb
  rw [e,lb_ls pe,range_getD]
theorem fm_at {α : Type} {cl : α → List Value} {wd : Nat} (hc : ∀ a,(cl a).length = wd) {L : List α} {m : Nat} {e : α} (h : L[m]? = some e) (r : Nat) (hr : r < wd) : (L.flatMap cl)[m * wd + r]? = (cl e)[r]?:=by
  induction L generalizing m with
  | nil=>simp at h
  | cons y L ih =>
    rw [List.flatMap_cons]
    cases m with
    | zero =>
      simp at h
      subst h
      rw [List.getElem?_append_left (by rw [hc];omega)]
      simp
    | succ m =>
      simp at h
      have e1 : (m + 1) * wd = m * wd + wd:=Nat.succ_mul _ _
      rw [List.getElem?_append_right (by rw [hc];omega),← ih h,hc]
      congr 1
      omega
theorem own_cells {α : Type} {cl : α → List Value} {wd : Nat} (hc : ∀ a,(cl a).length = wd) {w : World} {lo : Nat} {ty : TypeId} {v : Value} {L : List α} (d : α) (h : w.ownsRow lo ty wd v L.length (L.flatMap cl)) : ∃ pa cap,v = .slice pa L.length cap ∧ (0 < L.length → ∃ a : Addr,pa = some a ∧ L.length ≤ cap ∧ 0 ≤ a.block ∧ ∀ i,i < L.length → ∃ g : Nat,a.add (i * wd) = ⟨g,i * wd,none⟩ ∧ ∀ t,t < wd → w.cell? ⟨g,i * wd + t,none⟩ = (cl (L.getD i d))[t]?):=by
  obtain ⟨pa,cap,e⟩:=own_shape h
  refine ⟨pa,cap,e,fun hn=>?_⟩
  obtain ⟨g,cap',e2,h2,h3⟩:=h.form hn
  rw [e] at e2
  obtain ⟨rfl,_,rfl⟩:=(Value.slice.injEq _ _ _ _ _ _).mp e2
  have hcap : L.length ≤ cap:=by
    rcases h.2 with ⟨h',_⟩ | ⟨g',c',cur,h',_,_,hcc,_⟩
    · rw [e] at h'
      cases h'
    · rw [e] at h'
      obtain ⟨_,_,rfl⟩:=(Value.slice.injEq _ _ _ _ _ _).mp h'
      exact hcc
  refine ⟨⟨g,0,none⟩,rfl,hcap,Nat.zero_le _,fun i hi=>⟨g,?_,fun t ht=>?_⟩⟩
  · simp [Addr.add]
    exact fun h=>h.symm
  · rw [e] at h
    have hlt : i * wd + t < L.length * wd:=by
      have:=Nat.mul_le_mul_right wd (show i + 1 ≤ L.length from hi)
      rw [Nat.succ_mul] at this
      omega
    rw [h.cellAt _ hlt]
    exact fm_at hc (by simp [List.getD,List.getElem?_eq_getElem hi]) t ht
theorem rowU_of {w : World} {lo : Nat} {v : Value} {L : List (Bool × Int)} (h : w.ownsRow lo 89 2 v L.length (L.flatMap upc)) : RowU 0 w v L.length (fun i=>L.getD i (false,0)):=by
  obtain ⟨pa,cap,e,h2⟩:=own_cells (cl:=upc) (fun _=>rfl) (false,0) h
  refine ⟨pa,cap,e,fun hn=>?_⟩
  obtain ⟨a,e1,e2,e3,e4⟩:=h2 hn
  refine ⟨a,e1,e2,e3,fun i hi=>?_⟩
  obtain ⟨g,g1,g2⟩:=e4 i hi
  rw [g1]
  exact CelU.of g2
theorem rowW_of {w : World} {lo : Nat} {v : Value} {L : List Vv} (h : w.ownsRow lo 92 5 v L.length (L.flatMap vlc)) : RowW 0 w v L.length (fun i=>L.getD i default):=by
  obtain ⟨pa,cap,e,h2⟩:=own_cells (cl:=vlc) (fun _=>rfl) default h
  refine ⟨pa,cap,e,fun hn=>?_⟩
  obtain ⟨a,e1,e2,e3,e4⟩:=h2 hn
  refine ⟨a,e1,e2,e3,fun i hi=>?_⟩
  obtain ⟨g,g1,g2⟩:=e4 i hi
  rw [g1]
  exact CelV.of g2
theorem rowI_of {w : World} {lo : Nat} {v : Value} {L : List Iv} (h : w.ownsRow lo 81 5 v L.length (L.flatMap inc)) : RowI 0 w v L.length (fun i=>L.getD i default):=by
  obtain ⟨pa,cap,e,h2⟩:=own_cells (cl:=inc) (fun _=>rfl) default h
  refine ⟨pa,cap,e,fun hn=>?_⟩
  obtain ⟨a,e1,e2,e3,e4⟩:=h2 hn
  refine ⟨a,e1,e2,e3,fun i hi=>?_⟩
  obtain ⟨g,g1,g2⟩:=e4 i hi
  rw [g1]
  exact CelI.of g2
theorem rowM_of {w : World} {lo : Nat} {v : Value} {L : List Mv} (h : w.ownsRow lo 97 4 v L.length (L.flatMap nmc)) : RowM 0 w v L.length (fun i=>L.getD i default):=by
  obtain ⟨pa,cap,e,h2⟩:=own_cells (cl:=nmc) (fun _=>rfl) default h
  refine ⟨pa,cap,e,fun hn=>?_⟩
  obtain ⟨a,e1,e2,e3,e4⟩:=h2 hn
  refine ⟨a,e1,e2,e3,fun i hi=>?_⟩
  obtain ⟨g,g1,g2⟩:=e4 i hi
  rw [g1]
  exact CelM.of g2
def OwnR4 (w : World) (z : PV) : Prop:=∃ l1 l2 l3 l4,w.ownsRow l1 89 2 z.2.1 z.1.U.length (z.1.U.flatMap upc) ∧ w.ownsRow l2 92 5 z.2.2.1 z.1.C.length (z.1.C.flatMap vlc) ∧ w.ownsRow l3 81 5 z.2.2.2.1 z.1.N.length (z.1.N.flatMap inc) ∧ w.ownsRow l4 97 4 z.2.2.2.2 z.1.D.length (z.1.D.flatMap nmc)
theorem rowP_of {w : World} {lo : Nat} {v : Value} {L : List PV} (h : w.ownsRow lo 50 9 v L.length (L.flatMap pvc)) (ho : ∀ (i : Nat) (z : PV),L[i]? = some z → OwnR4 w z) : RowP 0 w v L.length (QF (L.map (·.1))):=by
  obtain ⟨pa,cap,e,h2⟩:=own_cells (cl:=pvc) (fun _=>rfl) (default,.slice none 0 0,.slice none 0 0,.slice none 0 0,.slice none 0 0) h
  refine ⟨pa,cap,e,fun hn=>?_⟩
  obtain ⟨a,e1,e2,e3,e4⟩:=h2 hn
  refine ⟨a,e1,e2,e3,fun i hi=>?_⟩
  obtain ⟨g,g1,g2⟩:=e4 i hi
  rw [g1]
  have hz : L[i]? = some L[i]:=List.getElem?_eq_getElem hi
  have hD : L.getD i (default,.slice none 0 0,.slice none 0 0,.slice none 0 0,.slice none 0 0) = L[i]:=by simp [List.getD,hz]
  have hF : QF (L.map (·.1)) i = qd L[i].1:=by
    unfold QF
    simp [List.getD,hz]
  rw [hD] at g2
  rw [hF]
  obtain ⟨l1,l2,l3,l4,o1,o2,o3,o4⟩:=ho i _ hz
  exact ⟨_,_,_,_,CelP.of (f:=qd L[i].1) g2,rowU_of o1,rowW_of o2,rowI_of o3,rowM_of o4⟩
theorem OwnL.r4 {B : Nat} {w : World} {L : List PV} {ob : Option Nat} (h : OwnL B w L ob) : ∀ (i : Nat) (z : PV),L[i]? = some z → OwnR4 w z:=by
  intro i z hz
  obtain ⟨lo,hi,h1,_⟩:=h
  obtain ⟨_,_,s1,s2,s3,_,_,_,_,h5,h6,h7,h8⟩:=h1 i z hz
  exact ⟨_,_,_,_,h5.1,h6.1,h7.1,h8.1⟩
def PMi (M : List UInt8) (L : List Rp) : Prop:=(∃ f n,Ans 7 L.length (QF L) 0 f n) ∧ [72,67,1] ++ ls pe L = M ∧ M.length ≤ 1000000
def DecR (M : List UInt8) (L : List Rp) : Prop:=(L = [] ∨ (PMi M L ∧ ∀ q,q ∈ L → Rt q)) ∧ ∀ L',(∀ q,q ∈ L' → Rt q) → PMi M L' → L' = L
theorem DecR.uniq {M : List UInt8} {L L' : List Rp} (h : DecR M L) (h' : DecR M L') : L = L':=by
  rcases h.1 with e | ⟨e1,e2⟩
  · rcases h'.1 with e' | ⟨e1',e2'⟩
    · rw [e,e']
    · exact (h.2 L' e2' e1').symm
  · exact h'.2 L e2 e1
theorem cok_yv {v : Vv} (h : Cok v) (t : Tv v) : Yv v:=by
  obtain ⟨hv,hk,hf,hg⟩:=h
  obtain ⟨t1,t2,t3,t4,t5⟩:=t
  have hx : ∀ {x : ByteArray},x.toList = [] → x = ⟨#[]⟩:=fun {x} e=>by
    rw [Lib.toList_data] at e
    obtain ⟨⟨l⟩⟩:=x
    simp at e
    rw [e]
  have hkk : 0 ≤ v.k ∧ v.k ≤ 8:=by
    unfold vok at hv
    omega
  refine ⟨⟨hkk.1,by omega,t1,t3,hf,by omega⟩,?_⟩
  obtain ⟨k,m,g,x,r⟩:=v
  dsimp only at *
  unfold vok zr at hv
  dsimp only at hv
  unfold nv
  dsimp only
  have hm : ¬ (k = 1 ∨ k = 2 ∨ k = 8) → m = 0:=fun h=>by
    rcases hv with hv | hv | hv | hv | hv | hv | hv | hv | hv <;> obtain ⟨e, ⟨z1, z2, z3, z4⟩, _⟩ := hv <;> first | (rcases z1 with z1 | z1; · cases z1
                                                                                                                     · exact z1) | omega
  have hxx : k ≠ 4 → x = ⟨#[]⟩:=fun h=>by
    rcases hv with hv | hv | hv | hv | hv | hv | hv | hv | hv <;> obtain ⟨e, ⟨z1, z2, z3, z4⟩, _⟩ := hv <;> first | (rcases z3 with z3 | z3; · cases z3
                                                                                                                     · exact hx z3) | omega
  simp only [Vv.mk.injEq,true_and]
  refine ⟨?_,?_,?_,t4.symm⟩
  · by_cases h : k = 1 ∨ k = 2 ∨ k = 8
    · rw [if_pos h]
    · rw [if_neg h,hm h]
  · by_cases h : k = 3
    · rw [if_pos h]
    · rw [if_neg h,hg h]
  · by_cases h : k = 4
    · rw [if_pos h]
    · rw [if_neg h,hxx h]
theorem qf_at {L : List Rp} {i : Nat} (h : i < L.length) : QF L i = qd L[i]:=by
  unfold QF
  simp [List.getD,List.getElem?_eq_getElem h]
theorem rok_of {L : List Rp} (ht : ∀ q,q ∈ L → Rt q) {f n : Nat} (ha : Ans 7 L.length (QF L) 0 f n) : (∀ q,q ∈ L → Rok q) ∧ L.length ≤ 200:=by
  have sk:=sok_of ha
  obtain ⟨z0,z1,z2⟩:=sk.sz
  refine ⟨fun q hq=>?_,z1⟩
  obtain ⟨i,hi,rfl⟩:=List.getElem_of_mem hq
  have t:=ht _ hq
  have e:=qf_at hi
  have hnn : L[i].N.length ≤ 6000:=by
    have h1:=sm_one (fun i=>(QF L i).n) hi
    have h2 : (QF L i).n = L[i].N.length:=by rw [e];rfl
    omega
  have hdd : L[i].D.length ≤ 500:=by
    rcases Nat.lt_or_ge 500 L[i].D.length with q | q
    · have h2 : (QF L i).d = L[i].D.length:=by rw [e];rfl
      have:=(sk.nm i hi 500 (by omega)).1
      omega
    · exact q
  have hh:=sk.hd i hi
  rw [e] at hh
  obtain ⟨_,_,_,_,hu,hc,_⟩:=hh
  have hC : ∀ y,y ∈ L[i].C → Yv y:=fun y hy=>by
    obtain ⟨j,hj,rfl⟩:=List.getElem_of_mem hy
    have h1 : j < (QF L i).c:=by rw [e];exact hj
    have h2:=sk.co i hi j h1
    have h3 : (QF L i).C j = L[i].C[j]:=by
      rw [e]
      show L[i].C.getD j default = _
      simp [List.getD,List.getElem?_eq_getElem hj]
    rw [h3] at h2
    exact cok_yv h2 (t.C _ hy)
  exact ⟨by have:=t.x;omega,t.l,t.m,t.g,t.U,hC,t.N,t.D,hu,hc,hnn,hdd⟩
theorem rdp_of {q : Rp} (t : Rt q) : RdP (qd q):=by
  have hx:=t.x
  have hu:=t.u
  have hc:=t.c
  have hn:=t.n
  have hd:=t.d
  refine ⟨⟨by show (q.x.size : Int) < _;omega,by show (q.U.length : Int) < _;omega,⟨by show (q.C.length : Int) < _;omega,fun j hj=>?_⟩,by show (q.N.length : Int) < _;omega,⟨by show (q.D.length : Int) < _;omega,fun j hj=>?_⟩⟩,fun j hj=>?_,t.g.1⟩
  · have:=(t.C _ (getD_mem (d:=default) hj)).2.2.2.2
    show ((q.C.getD j default).x.size : Int) < _
    omega
  · have:=(t.D _ (getD_mem (d:=default) hj)).1
    show ((q.D.getD j default).x.size : Int) < _
    omega
  · obtain ⟨h1,h2,h3,h4,h5⟩:=t.C _ (getD_mem (d:=default) hj)
    exact ⟨h3,h1.1,h1.2⟩
structure KI (lo hi : Nat) (W w' : World) : Prop where
  os : w'.os = W.os
  output : w'.output = W.output
  size : W.heap.size ≤ w'.heap.size
  block : ∀ b,b < W.heap.size → ¬ (lo ≤ b ∧ b < hi) → w'.heap[b]? = W.heap[b]?
theorem KI.refl (lo hi : Nat) (W : World) : KI lo hi W W:=⟨rfl,rfl,Nat.le_refl _,fun _ _ _=>rfl⟩
theorem KI.trans {lo hi : Nat} {W a b : World} (h : KI lo hi W a) (k : KI lo hi a b) : KI lo hi W b:=⟨k.os.trans h.os,k.output.trans h.output,Nat.le_trans h.size k.size,fun i h1 h2=>(k.block i (Nat.lt_of_lt_of_le h1 h.size) h2).trans (h.block i h1 h2)⟩
theorem KI.mono {lo hi lo' hi' : Nat} {W a : World} (h : KI lo hi W a) (h1 : lo' ≤ lo) (h2 : hi ≤ hi') : KI lo' hi' W a:=⟨h.os,h.output,h.size,fun i i1 i2=>h.block i i1 (fun e=>i2 ⟨by omega,by omega⟩)⟩
theorem K1.ki {g lo hi : Nat} {W a : World} (h : K1 g W a) (hg : (lo ≤ g ∧ g < hi) ∨ W.heap.size ≤ g) : KI lo hi W a:=⟨h.os,h.output,h.size,fun i i1 i2=>h.block i i1 (fun e=>hg.elim (fun q=>i2 (by rw [e];exact q)) (fun q=>by omega))⟩
def WRow (W : World) (v : Value) (n c lo hi : Nat) : Prop:=∃ pa cp g,v = .slice pa n cp ∧ (0 < n → pa = some ⟨g,0,none⟩ ∧ lo ≤ g ∧ g < hi ∧ (∀ j,j < n * c → ∃ u,W.cell? ⟨g,j,none⟩ = some u) ∧ (∀ j,W.frozen? ⟨g,j,none⟩ = false) ∧ g < W.heap.size)
def MRow (V : Nat → Int → Value) (W : World) (v : Value) (n c lo hi : Nat) (k : Int) : Prop:=∃ pa cp g,v = .slice pa n cp ∧ (0 < n → pa = some ⟨g,0,none⟩ ∧ lo ≤ g ∧ g < hi ∧ CJ V c g k (n * c) W)
theorem WRow.blk {W w' : World} {v : Value} {n c lo hi : Nat} (h : WRow W v n c lo hi) (hs : W.heap.size ≤ w'.heap.size) (k : ∀ g,g < W.heap.size → lo ≤ g → g < hi → w'.heap[g]? = W.heap[g]?) : WRow w' v n c lo hi:=by
  obtain ⟨pa,cp,g,e,h2⟩:=h
  refine ⟨pa,cp,g,e,fun hn=>?_⟩
  obtain ⟨q1,q2,q3,q4,q5,q6⟩:=h2 hn
  have hb:=k g q6 q2 q3
  exact ⟨q1,q2,q3,fun j hj=>by rw [World.cell?_of_block (w:=W) hb];exact q4 j hj,fun j=>(World.frozen?_of_block hb).trans (q5 j),by omega⟩
theorem MRow.blk {V : Nat → Int → Value} {W w' : World} {v : Value} {n c lo hi : Nat} {x : Int} (hc : 0 < c) (h : MRow V W v n c lo hi x) (k : ∀ g,g < W.heap.size → lo ≤ g → g < hi → w'.heap[g]? = W.heap[g]?) : MRow V w' v n c lo hi x:=by
  obtain ⟨pa,cp,g,e,h2⟩:=h
  refine ⟨pa,cp,g,e,fun hn=>?_⟩
  obtain ⟨q1,q2,q3,q4⟩:=h2 hn
  have hlt : g < W.heap.size:=lt_of_cell (q4 0 (Nat.mul_pos hn hc))
  have hb:=k g hlt q2 q3
  exact ⟨q1,q2,q3,fun j hj=>by rw [World.cell?_of_block (w:=W) hb];exact q4 j hj⟩
theorem wrow_of {W : World} {lo hi : Nat} {ty : TypeId} {c : Nat} {v : Value} {n : Nat} {xs : List Value} (h : OwnB lo hi W ty c v n xs) : WRow W v n c lo hi:=by
  obtain ⟨ho,hb⟩:=h
  obtain ⟨pa,cp,e⟩:=own_shape ho
  rcases Nat.eq_zero_or_pos n with h0 | h0
  · exact ⟨pa,cp,0,e,fun hn=>by omega⟩
  · obtain ⟨g,cap',e2,h2,h3⟩:=ho.form h0
    have hbl : v.ownBlock = some g:=by rw [e2];rfl
    refine ⟨pa,cp,g,e,fun _=>?_⟩
    rw [e] at e2
    obtain ⟨rfl,_,rfl⟩:=(Value.slice.injEq _ _ _ _ _ _).mp e2
    have hbk : ∃ cur,W.heap[g]? = some (.cells cur ty (0,0)) ∧ n * c ≤ cur.size:=by
      rcases ho.2 with ⟨h',_⟩ | ⟨g',c',cur,h',_,q1,q2,_,q3,_⟩
      · rw [e] at h';cases h'
      · rw [e] at h'
        obtain ⟨e9,_,rfl⟩:=(Value.slice.injEq _ _ _ _ _ _).mp h'
        injection e9 with e9
        injection e9 with e9
        subst e9
        exact ⟨cur,q1,by rw [q3];exact Nat.mul_le_mul_right c q2⟩
    obtain ⟨cur,q1,q2⟩:=hbk
    exact ⟨rfl,h2,hb g hbl,fun j hj=>⟨cur[j]'(by omega),cell_of q1 (by rw [Array.getElem?_eq_getElem (by omega)])⟩,fun j=>frozen_of q1,h3⟩
theorem mw_ups {W : World} {v : Value} {n lo hi : Nat} (k : Int) (h1 : 1 ≤ k) (h2 : k ≤ 500000000) (hn : n ≤ 1048576) (h : WRow W v n 2 lo hi) : Calls Tryz.prog 67 #[v,.int .i64 k] W fun e w'=>e = .returned (.int .i64 (k + 2 * (n : Int))) ∧ KI lo hi W w' ∧ MRow vU w' v n 2 lo hi k:=by
  obtain ⟨pa,cp,g,rfl,h3⟩:=h
  rcases Nat.eq_zero_or_pos n with h0 | h0
  · refine (mrk_ups (g:=W.heap.size) k h1 h2 hn (fun e=>by omega)).mono ?_
    rintro e w' ⟨rfl,q1,q2⟩
    exact ⟨rfl,q1.ki (.inr (Nat.le_refl _)),pa,cp,0,rfl,fun e=>by omega⟩
  · obtain ⟨q1,q2,q3,q4,q5,q6⟩:=h3 h0
    refine (mrk_ups (g:=g) k h1 h2 hn (fun _=>⟨q1,q4,q5,q6⟩)).mono ?_
    rintro e w' ⟨rfl,r1,r2⟩
    exact ⟨rfl,r1.ki (.inl ⟨q2,q3⟩),pa,cp,g,rfl,fun _=>⟨q1,q2,q3,r2⟩⟩
theorem hw_ups {W : World} {v : Value} {n lo hi : Nat} (k : Int) (h1 : 1 ≤ k) (h2 : k ≤ 500000000) (hn : n ≤ 1048576) (h : MRow vU W v n 2 lo hi k) : Calls Tryz.prog 87 #[v,.int .i64 k] W fun e w'=>e = .returned (.int .i64 (k + 2 * (n : Int))) ∧ Kb 0 W w':=by
  obtain ⟨pa,cp,g,rfl,h3⟩:=h
  exact hld_ups (g:=g) k h1 h2 hn (fun h0=>⟨(h3 h0).1,(h3 h0).2.2.2⟩)
theorem mw_vals {W : World} {v : Value} {n lo hi : Nat} (k : Int) (h1 : 1 ≤ k) (h2 : k ≤ 500000000) (hn : n ≤ 1048576) (h : WRow W v n 5 lo hi) : Calls Tryz.prog 68 #[v,.int .i64 k] W fun e w'=>e = .returned (.int .i64 (k + 5 * (n : Int))) ∧ KI lo hi W w' ∧ MRow vV w' v n 5 lo hi k:=by
  obtain ⟨pa,cp,g,rfl,h3⟩:=h
  rcases Nat.eq_zero_or_pos n with h0 | h0
  · refine (mrk_vals (g:=W.heap.size) k h1 h2 hn (fun e=>by omega)).mono ?_
    rintro e w' ⟨rfl,q1,q2⟩
    exact ⟨rfl,q1.ki (.inr (Nat.le_refl _)),pa,cp,0,rfl,fun e=>by omega⟩
  · obtain ⟨q1,q2,q3,q4,q5,q6⟩:=h3 h0
    refine (mrk_vals (g:=g) k h1 h2 hn (fun _=>⟨q1,q4,q5,q6⟩)).mono ?_
    rintro e w' ⟨rfl,r1,r2⟩
    exact ⟨rfl,r1.ki (.inl ⟨q2,q3⟩),pa,cp,g,rfl,fun _=>⟨q1,q2,q3,r2⟩⟩
theorem hw_vals {W : World} {v : Value} {n lo hi : Nat} (k : Int) (h1 : 1 ≤ k) (h2 : k ≤ 500000000) (hn : n ≤ 1048576) (h : MRow vV W v n 5 lo hi k) : Calls Tryz.prog 88 #[v,.int .i64 k] W fun e w'=>e = .returned (.int .i64 (k + 5 * (n : Int))) ∧ Kb 0 W w':=by
  obtain ⟨pa,cp,g,rfl,h3⟩:=h
  exact hld_vals (g:=g) k h1 h2 hn (fun h0=>⟨(h3 h0).1,(h3 h0).2.2.2⟩)
theorem mw_inss {W : World} {v : Value} {n lo hi : Nat} (k : Int) (h1 : 1 ≤ k) (h2 : k ≤ 500000000) (hn : n ≤ 1048576) (h : WRow W v n 5 lo hi) : Calls Tryz.prog 69 #[v,.int .i64 k] W fun e w'=>e = .returned (.int .i64 (k + 5 * (n : Int))) ∧ KI lo hi W w' ∧ MRow vI w' v n 5 lo hi k:=by
  obtain ⟨pa,cp,g,rfl,h3⟩:=h
  rcases Nat.eq_zero_or_pos n with h0 | h0
  · refine (mrk_inss (g:=W.heap.size) k h1 h2 hn (fun e=>by omega)).mono ?_
    rintro e w' ⟨rfl,q1,q2⟩
    exact ⟨rfl,q1.ki (.inr (Nat.le_refl _)),pa,cp,0,rfl,fun e=>by omega⟩
  · obtain ⟨q1,q2,q3,q4,q5,q6⟩:=h3 h0
    refine (mrk_inss (g:=g) k h1 h2 hn (fun _=>⟨q1,q4,q5,q6⟩)).mono ?_
    rintro e w' ⟨rfl,r1,r2⟩
    exact ⟨rfl,r1.ki (.inl ⟨q2,q3⟩),pa,cp,g,rfl,fun _=>⟨q1,q2,q3,r2⟩⟩
theorem hw_inss {W : World} {v : Value} {n lo hi : Nat} (k : Int) (h1 : 1 ≤ k) (h2 : k ≤ 500000000) (hn : n ≤ 1048576) (h : MRow vI W v n 5 lo hi k) : Calls Tryz.prog 89 #[v,.int .i64 k] W fun e w'=>e = .returned (.int .i64 (k + 5 * (n : Int))) ∧ Kb 0 W w':=by
  obtain ⟨pa,cp,g,rfl,h3⟩:=h
  exact hld_inss (g:=g) k h1 h2 hn (fun h0=>⟨(h3 h0).1,(h3 h0).2.2.2⟩)
theorem mw_nams {W : World} {v : Value} {n lo hi : Nat} (k : Int) (h1 : 1 ≤ k) (h2 : k ≤ 500000000) (hn : n ≤ 1048576) (h : WRow W v n 4 lo hi) : Calls Tryz.prog 70 #[v,.int .i64 k] W fun e w'=>e = .returned (.int .i64 (k + 4 * (n : Int))) ∧ KI lo hi W w' ∧ MRow vM w' v n 4 lo hi k:=by
  obtain ⟨pa,cp,g,rfl,h3⟩:=h
  rcases Nat.eq_zero_or_pos n with h0 | h0
  · refine (mrk_nams (g:=W.heap.size) k h1 h2 hn (fun e=>by omega)).mono ?_
    rintro e w' ⟨rfl,q1,q2⟩
    exact ⟨rfl,q1.ki (.inr (Nat.le_refl _)),pa,cp,0,rfl,fun e=>by omega⟩
  · obtain ⟨q1,q2,q3,q4,q5,q6⟩:=h3 h0
    refine (mrk_nams (g:=g) k h1 h2 hn (fun _=>⟨q1,q4,q5,q6⟩)).mono ?_
    rintro e w' ⟨rfl,r1,r2⟩
    exact ⟨rfl,r1.ki (.inl ⟨q2,q3⟩),pa,cp,g,rfl,fun _=>⟨q1,q2,q3,r2⟩⟩
theorem hw_nams {W : World} {v : Value} {n lo hi : Nat} (k : Int) (h1 : 1 ≤ k) (h2 : k ≤ 500000000) (hn : n ≤ 1048576) (h : MRow vM W v n 4 lo hi k) : Calls Tryz.prog 90 #[v,.int .i64 k] W fun e w'=>e = .returned (.int .i64 (k + 4 * (n : Int))) ∧ Kb 0 W w':=by
  obtain ⟨pa,cp,g,rfl,h3⟩:=h
  exact hld_nams (g:=g) k h1 h2 hn (fun h0=>⟨(h3 h0).1,(h3 h0).2.2.2⟩)
def nq (z : PV) : Nat:=5 + 2 * z.1.U.length + 5 * z.1.C.length + 5 * z.1.N.length + 4 * z.1.D.length
def WQ (lo hi : Nat) (W : World) (z : PV) : Prop:=∃ s1 s2 s3,lo ≤ s1 ∧ s1 ≤ s2 ∧ s2 ≤ s3 ∧ s3 ≤ hi ∧ WRow W z.2.1 z.1.U.length 2 lo s1 ∧ WRow W z.2.2.1 z.1.C.length 5 s1 s2 ∧ WRow W z.2.2.2.1 z.1.N.length 5 s2 s3 ∧ WRow W z.2.2.2.2 z.1.D.length 4 s3 hi
def MQ (lo hi : Nat) (W : World) (z : PV) (K : Int) : Prop:=∃ s1 s2 s3,lo ≤ s1 ∧ s1 ≤ s2 ∧ s2 ≤ s3 ∧ s3 ≤ hi ∧ MRow vU W z.2.1 z.1.U.length 2 lo s1 (K + 5) ∧ MRow vV W z.2.2.1 z.1.C.length 5 s1 s2 (K + 5 + 2 * (z.1.U.length : Int)) ∧ MRow vI W z.2.2.2.1 z.1.N.length 5 s2 s3 (K + 5 + 2 * (z.1.U.length : Int) + 5 * (z.1.C.length : Int)) ∧ MRow vM W z.2.2.2.2 z.1.D.length 4 s3 hi (K + 5 + 2 * (z.1.U.length : Int) + 5 * (z.1.C.length : Int) + 5 * (z.1.N.length : Int))
theorem WQ.blk {lo hi : Nat} {W w' : World} {z : PV} (h : WQ lo hi W z) (hs : W.heap.size ≤ w'.heap.size) (k : ∀ g,g < W.heap.size → lo ≤ g → g < hi → w'.heap[g]? = W.heap[g]?) : WQ lo hi w' z:=by
  obtain ⟨s1,s2,s3,h1,h2,h3,h4,h5,h6,h7,h8⟩:=h
  exact ⟨s1,s2,s3,h1,h2,h3,h4,h5.blk hs (fun g a b c=>k g a (by omega) (by omega)),h6.blk hs (fun g a b c=>k g a (by omega) (by omega)),h7.blk hs (fun g a b c=>k g a (by omega) (by omega)),h8.blk hs (fun g a b c=>k g a (by omega) (by omega))⟩
theorem MQ.blk {lo hi : Nat} {W w' : World} {z : PV} {K : Int} (h : MQ lo hi W z K) (k : ∀ g,g < W.heap.size → lo ≤ g → g < hi → w'.heap[g]? = W.heap[g]?) : MQ lo hi w' z K:=by
  obtain ⟨s1,s2,s3,h1,h2,h3,h4,h5,h6,h7,h8⟩:=h
  exact ⟨s1,s2,s3,h1,h2,h3,h4,h5.blk (by omega) (fun g a b c=>k g a (by omega) (by omega)),h6.blk (by omega) (fun g a b c=>k g a (by omega) (by omega)),h7.blk (by omega) (fun g a b c=>k g a (by omega) (by omega)),h8.blk (by omega) (fun g a b c=>k g a (by omega) (by omega))⟩
def vP (t : Nat) (x : Int) : Value:=if t = 0 then mkS x else if t = 3 then mkB x else mkI x
structure HSt (g i : Nat) (K : Int) (W0 : World) (t : Nat) (W : World) : Prop where
  os : W.os = W0.os
  output : W.output = W0.output
  size : W0.heap.size ≤ W.heap.size
  block : ∀ b,b < W0.heap.size → b ≠ g → W.heap[b]? = W0.heap[b]?
  old : ∀ j,¬ (i * 9 ≤ j ∧ j < i * 9 + t) → W.cell? ⟨g,j,none⟩ = W0.cell? ⟨g,j,none⟩
  new : ∀ s,s < t → W.cell? ⟨g,i * 9 + s,none⟩ = some (vP s (K + (s : Int)))
  fz : ∀ j,W.frozen? ⟨g,j,none⟩ = W0.frozen? ⟨g,j,none⟩
  gl : g < W0.heap.size
theorem HSt.zero (g i : Nat) (K : Int) (W0 : World) (hg : g < W0.heap.size) : HSt g i K W0 0 W0:=⟨rfl,rfl,Nat.le_refl _,fun _ _ _=>rfl,fun _ _=>rfl,fun s hs=>by omega,fun _=>rfl,hg⟩
theorem HSt.kb {g i : Nat} {K : Int} {W0 : World} {t : Nat} {W W' : World} (h : HSt g i K W0 t W) (k : Kb 0 W W') : HSt g i K W0 t W':=by
  have hs:=h.size
  have hg:=h.gl
  have hb : W'.heap[g]? = W.heap[g]?:=k.block g (Nat.zero_le _) (by omega)
  exact ⟨k.os.trans h.os,k.output.trans h.output,Nat.le_trans hs k.size,fun b h1 h2=>(k.block b (Nat.zero_le _) (by omega)).trans (h.block b h1 h2),fun j hj=>(World.cell?_of_block hb).trans (h.old j hj),fun s hs=>(World.cell?_of_block hb).trans (h.new s hs),fun j=>(World.frozen?_of_block hb).trans (h.fz j),hg⟩
theorem HSt.set {g i : Nat} {K : Int} {W0 : World} {t : Nat} {W : World} (h : HSt g i K W0 t W) {u v : Value} (hu : W.cell? ⟨g,i * 9 + t,none⟩ = some u) (e : v = vP t (K + (t : Int))) : HSt g i K W0 (t + 1) (W.setCell ⟨g,i * 9 + t,none⟩ v):=by
  refine ⟨h.os,h.output,by simpa [World.setCell] using h.size,fun b h1 h2=>(Below.heap_setCell _ _ _ _ h2).trans (h.block b h1 h2),fun j hj=>?_,fun s hs=>?_,fun j=>(set_fz _ _ _ _ _).trans (h.fz j),h.gl⟩
  · rw [set_ne _ _ _ _ _ (by omega)]
    exact h.old j (by omega)
  · by_cases es : s = t
    · subst es
      rw [← e]
      exact set_eq _ _ _ _ _ hu
    · rw [set_ne _ _ _ _ _ (by omega)]
      exact h.new s (by omega)
structure MI (B E : Nat) (lo hi : Nat → Nat) (g n : Nat) (Z : Nat → PV) (k : Int) (S : Nat → Nat) (W0 : World) (i : Nat) (W : World) : Prop where
  os : W.os = W0.os
  output : W.output = W0.output
  size : W0.heap.size ≤ W.heap.size
  block : ∀ b,b < W0.heap.size → b < B ∨ E ≤ b → W.heap[b]? = W0.heap[b]?
  hd : ∀ j,j < n → ∀ t,t < 5 → ∃ u,W.cell? ⟨g,j * 9 + t,none⟩ = some u
  fz : ∀ j,W.frozen? ⟨g,j,none⟩ = false
  gl : g < W.heap.size
  gB : B ≤ g
  rv : ∀ j,j < n → W.cell? ⟨g,j * 9 + 5,none⟩ = some (Z j).2.1 ∧ W.cell? ⟨g,j * 9 + 6,none⟩ = some (Z j).2.2.1 ∧ W.cell? ⟨g,j * 9 + 7,none⟩ = some (Z j).2.2.2.1 ∧ W.cell? ⟨g,j * 9 + 8,none⟩ = some (Z j).2.2.2.2
  mh : ∀ j,j < i → ∀ t,t < 5 → W.cell? ⟨g,j * 9 + t,none⟩ = some (vP t (k + (S j : Int) + (t : Int)))
  mq : ∀ j,j < i → MQ (lo j) (hi j) W (Z j) (k + (S j : Int))
  wq : ∀ j,i ≤ j → j < n → WQ (lo j) (hi j) W (Z j)
  lb : ∀ j,j < n → B ≤ lo j
  df : ∀ a b,a < b → b < n → hi a ≤ lo b
  gn : ∀ j,j < n → ¬ (lo j ≤ g ∧ g < hi j)
  gE : g < E
  hE : ∀ j,j < n → hi j ≤ E
theorem MI.next {B E : Nat} {lo hi : Nat → Nat} {g n : Nat} {Z : Nat → PV} {k : Int} {S : Nat → Nat} {W0 : World} {i : Nat} {wr w1 w2 : World} (h : MI B E lo hi g n Z k S W0 i wr) (hin : i < n) (h1 : HSt g i (k + (S i : Int)) wr 5 w1) (h2 : KI (lo i) (hi i) w1 w2) (h3 : MQ (lo i) (hi i) w2 (Z i) (k + (S i : Int))) : MI B E lo hi g n Z k S W0 (i + 1) w2:=by
  have gl:=h.gl
  have gB:=h.gB
  have gE:=h.gE
  have hEi:=h.hE i hin
  have z1:=h1.size
  have z2:=h2.size
  have z0:=h.size
  have hgb : w2.heap[g]? = w1.heap[g]?:=h2.block g (by omega) (h.gn i hin)
  have hc : ∀ j,w2.cell? ⟨g,j,none⟩ = w1.cell? ⟨g,j,none⟩:=fun j=>World.cell?_of_block hgb
  have ho : ∀ b,b < wr.heap.size → b ≠ g → ¬ (lo i ≤ b ∧ b < hi i) → w2.heap[b]? = wr.heap[b]?:=fun b hb hg hn=>(h2.block b (by omega) hn).trans (h1.block b hb hg)
  have hdis : ∀ j,j < n → j ≠ i → ∀ b,b < wr.heap.size → lo j ≤ b → b < hi j → w2.heap[b]? = wr.heap[b]?:=fun j hj hji b hb a1 a2=>by
    refine ho b hb (fun e=>h.gn j hj ⟨by omega,by omega⟩) (fun e=>?_)
    rcases Nat.lt_or_ge j i with q | q
    · have:=h.df j i q hin;omega
    · have:=h.df i j (by omega) hj;omega
  refine ⟨(h2.os.trans h1.os).trans h.os,(h2.output.trans h1.output).trans h.output,by omega,fun b hb hB=>(ho b (by omega) (by omega) (fun e=>by have:=h.lb i hin;omega)).trans (h.block b hb hB),fun j hj t ht=>?_,fun j=>((World.frozen?_of_block hgb).trans (h1.fz j)).trans (h.fz j),by omega,gB,fun j hj=>?_,fun j hj t ht=>?_,fun j hj=>?_,fun j h4 hj=>?_,h.lb,h.df,h.gn,gE,h.hE⟩
  · rw [hc]
    by_cases e : j = i
    · subst e;exact ⟨_,h1.new t ht⟩
    · rw [h1.old _ (by omega)];exact h.hd j hj t ht
  · obtain ⟨r1,r2,r3,r4⟩:=h.rv j hj
    rw [hc,hc,hc,hc,h1.old _ (by omega),h1.old _ (by omega),h1.old _ (by omega),h1.old _ (by omega)]
    exact ⟨r1,r2,r3,r4⟩
  · rw [hc]
    by_cases e : j = i
    · subst e;exact h1.new t ht
    · rw [h1.old _ (by omega)];exact h.mh j (by omega) t ht
  · by_cases e : j = i
    · subst e;exact h3
    · exact (h.mq j (by omega)).blk (hdis j (by omega) e)
  · exact (h.wq j (by omega) hj).blk (by omega) (hdis j hj (by omega))
end Go.Proofs.YtnmeemjoodoalaaGreatDoor.Fo
