import Derived.Test.YtjakooihcbdcaaaGreatDoorMZsq
import Derived.Test.YtjakooihcbdcaaaGreatDoorMTpf0
namespace Go.Proofs.YtjakooihcbdcaaaGreatDoor.Fo
open Go.ChangeShapes Go.WideShapes Go.ChangeAt Go.RowKit Go.Shelf
set_option linter.unusedVariables false
set_option maxRecDepth 100000
structure Mg (a:Iv) (T:List Int) (w1:World) (I:Nat) (v:Value) (W:World):Prop where
 k:Kb 0 w1 W
 i:InB I a W
 t:OwI w1.heap.size W v T
 n:v.ownBlock ≠ some I
theorem Mg.kb {a:Iv} {T:List Int} {w1:World} {I:Nat} {v:Value} {W W':World} (h:Mg a T w1 I v W) (k:Kb 0 W W'):Mg a T w1 I v W' :=
 ⟨h.k.trans k,(k.block _ zq (Array.getElem?_eq_some_iff.1 h.i).1).trans h.i,h.t.kb k,h.n⟩
theorem Mg.kv {a:Iv} {T T':List Int} {w1:World} {I q:Nat} {v:Value} {W W':World} (h:Mg a T w1 I v W) (k:Kv v q W W') (hq:∀ g,v.ownBlock=some g→g=q) (ht:OwI w1.heap.size W' v T'):Mg a T' w1 I v W':=by
 have hv:∀ g,v.ownBlock=some g→w1.heap.size≤g:=fun g e=>(h.t.lt g e).1;refine ⟨kb_kv h.k k hq hv,?_,ht,h.n⟩;exact (k.far hq (fun g e q=>h.n (by rw [e,q])) (Array.getElem?_eq_some_iff.1 h.i).1).trans h.i
theorem MW.far {w5:World} {SB DB n:Nat} {M:Nat→Option Sv} {D:List Nat} {W:World} (h:MW w5 SB DB n M D W):w5.heap.size≤W.heap.size:=h.size
structure PFm (w5:World) (SB DB:Nat) (W:World):Prop where
 os:W.os=w5.os
 output:W.output=w5.output
 size:w5.heap.size≤W.heap.size
 block:∀ b,b < w5.heap.size→b ≠ SB→b ≠ DB→W.heap[b]? = w5.heap[b]?
theorem MW.pf {w5:World} {SB DB n:Nat} {M:Nat→Option Sv} {D:List Nat} {W:World} (h:MW w5 SB DB n M D W):PFm w5 SB DB W:=⟨h.os,h.output,h.size,h.block⟩
theorem PFm.old {w w5:World} {SB DB:Nat} {W:World} (h:PFm w5 SB DB W) (k:Kb 0 w w5) (h1:w.heap.size≤SB) (h2:w.heap.size≤DB):Kb 0 w W :=
 ⟨h.os.trans k.os,h.output.trans k.output,Nat.le_trans k.size h.size,fun b _ hb=>(h.block b (Nat.lt_of_lt_of_le hb k.size) (by omega) (by omega)).trans (k.block b zq hb)⟩
structure Ks2 (SB DB:Nat) (W W':World):Prop where
 size:W.heap.size≤W'.heap.size
 block:∀ b,b < W.heap.size→b ≠ SB→b ≠ DB→W'.heap[b]? = W.heap[b]?
theorem Ks2.of {SB DB:Nat} {W W':World} (k:Kb 0 W W'):Ks2 SB DB W W':=⟨k.size,fun b hb _ _=>k.block b zq hb⟩
theorem Ks2.trans {SB DB:Nat} {W W1 W2:World} (h:Ks2 SB DB W W1) (k:Ks2 SB DB W1 W2):Ks2 SB DB W W2:=⟨Nat.le_trans h.size k.size,fun b hb a c=>(k.block b (Nat.lt_of_lt_of_le hb h.size) a c).trans (h.block b hb a c)⟩
theorem Ks2.set3 {SB DB:Nat} {W:World} {x:Nat} {vt vg:Value}:Ks2 SB DB W (set3 W SB x vt vg) :=
 ⟨by unfold Fo.set3;simp,fun b _ hb _=>((Below.heap_setCell _ _ _ _ hb).trans (Below.heap_setCell _ _ _ _ hb)).trans (Below.heap_setCell _ _ _ _ hb)⟩
theorem Ks2.due {SB DB:Nat} {W:World} {x:Nat} {v:Value}:Ks2 SB DB W (W.setCell ⟨DB,x,none⟩ v):=⟨by simp,fun b _ _ hb=>Below.heap_setCell _ _ _ _ hb⟩
theorem FoR.ks {SB DB base:Nat} {W W':World} {v:Value} {l:List (Nat × Sv)} (h:FoR (Av SB DB) base W v l) (k:Ks2 SB DB W W') (hv:∀ g,v.ownBlock=some g→g ≠ SB∧g ≠ DB):FoR (Av SB DB) base W' v l:=by
 obtain ⟨Z,h1,h2,h3⟩:=h;exact ⟨Z,rowBlk' h1 (fun g e=>k.block g (h1.lt g e).2 (hv g e).1 (hv g e).2),h2,fun j z x hz hx=>(h3 j z x hz hx).on (fun b hb hl=>k.block b hl hb.1 hb.2)⟩
theorem nx4_at:∀ (Z:List Nz) (j:Nat) (z:Nz),Z[j]? = some z→∀ t,t < 4→(Z.flatMap nx4)[j*4+t]? = (nx4 z)[t]?
 | [],j,z,h,_,_=>by simp at h
 | a :: Z,0,z,h,t,ht=>by
  have:a=z:=by simpa using h
  subst this;rw [List.flatMap_cons,List.getElem?_append_left (by simp [nx4];omega)]
  simp
 | a :: Z,j+1,z,h,t,ht=>by
  rw [List.flatMap_cons,List.getElem?_append_right (by simp [nx4];omega)];have:=nx4_at Z j z (by simpa using h) t ht;rw [← this]
  congr 1
  simp [nx4];omega
theorem FoR.at {av:Nat→Prop} {base:Nat} {W:World} {v:Value} {l:List (Nat × Sv)} (h:FoR av base W v l) {c:Nat} {x:Nat × Sv} (hx:l[c]? = some x):∃ g cap vt vg,v = .slice (some ⟨g,0,none⟩) l.length cap∧l.length≤cap∧W.cell? ⟨g,c*4,none⟩=some (.int .i64 x.1)∧W.cell? ⟨g,c*4+1,none⟩=some (.bool true)∧W.cell? ⟨g,c*4+2,none⟩=some vt∧W.cell? ⟨g,c*4+3,none⟩=some vg∧Rz av W vt x.2.1∧Rg av W vg x.2.2:=by
 obtain ⟨Z,h1,h2,h3⟩:=h;have hc:=(List.getElem?_eq_some_iff.1 hx).1;obtain ⟨z,hz⟩:∃ z,Z[c]? = some z:=⟨_,List.getElem?_eq_getElem (by omega)⟩
 obtain ⟨e1,e2,e3⟩:=h3 c z x hz hx
 obtain ⟨g,cap,hv,hcap⟩:∃ g cap,v = .slice (some ⟨g,0,none⟩) Z.length cap∧Z.length≤cap:=by
  rcases h1.2 with ⟨-,q⟩ | ⟨g,cap,cur,e,-,-,h4,-⟩
  ·omega
  ·exact ⟨g,cap,e,h4⟩
 have hcell:∀ t,t < 4→W.cell? ⟨g,c*4+t,none⟩=(nx4 z)[t]?:=fun t ht=>by
  rw [hv] at h1;rw [World.ownsRow.cellAt h1 (c*4+t) (by omega)];exact nx4_at Z c z hz t ht
 rw [h2] at hv hcap;exact ⟨g,cap,z.2.1,z.2.2,hv,hcap,by rw [← e1];exact hcell 0 (by omega),hcell 1 (by omega),hcell 2 (by omega),hcell 3 (by omega),e2,e3⟩
