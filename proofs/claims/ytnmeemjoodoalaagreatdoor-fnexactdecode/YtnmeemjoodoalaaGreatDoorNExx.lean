import Derived.Test.YtnmeemjoodoalaaGreatDoorNExs
namespace Go.Proofs.YtnmeemjoodoalaaGreatDoor.Fo
open Go.ChangeShapes Go.WideShapes Go.ChangeAt Go.RowKit
set_option linter.unusedVariables false
set_option maxRecDepth 100000
structure Kbh (b h : Nat) (W w' : World) : Prop where
  os : w'.os = W.os
  output : w'.output = W.output
  size : W.heap.size ≤ w'.heap.size
  block : ∀ k,k < W.heap.size → k ≠ b → k ≠ h → w'.heap[k]? = W.heap[k]?
theorem Kbh.refl (b h : Nat) (W : World) : Kbh b h W W:=⟨rfl,rfl,Nat.le_refl _,fun _ _ _ _=>rfl⟩
theorem Kx.bh {b h : Nat} {W w' : World} (k : Kx b W w') : Kbh b h W w':=⟨k.os,k.output,k.size,fun i h1 h2 _=>k.block i h1 h2⟩
theorem Kbh.trans {b h : Nat} {W w1 w2 : World} (k : Kbh b h W w1) (l : Kbh b h w1 w2) : Kbh b h W w2:=⟨l.os.trans k.os,l.output.trans k.output,Nat.le_trans k.size l.size,fun i h1 h2 h3=>(l.block i (Nat.lt_of_lt_of_le h1 k.size) h2 h3).trans (k.block i h1 h2 h3)⟩
theorem Kbh.gr {b h : Nat} {W w2 w3 : World} {r : Option Nat} (k : Kbh b h W w2) (z : w2.grownBy w3 r) (hg : ∀ g,r = some g → W.heap.size ≤ g) : Kbh b h W w3 :=
  ⟨z.os.trans k.os,z.output.trans k.output,Nat.le_trans k.size z.size,fun i h1 h2 h3=>(z.block i (Nat.lt_of_lt_of_le h1 k.size) (fun e=>by have:=hg i e.symm;omega)).trans (k.block i h1 h2 h3)⟩
theorem Kbh.set {b h : Nat} {W w2 : World} (k : Kbh b h W w2) (j : Nat) (v : Value) : Kbh b h W (w2.setCell ⟨h,j,none⟩ v):=by
  have z : Kz h w2 (w2.setCell ⟨h,j,none⟩ v):=(Kz.refl h w2).set j v
  exact ⟨z.os.trans k.os,z.output.trans k.output,by rw [z.size];exact k.size,fun i h1 h2 h3=>(z.block i h3).trans (k.block i h1 h2 h3)⟩
theorem RD.far {b : Nat} {a : Addr} {c : Nat} {M : List UInt8} {k : Nat} {bad : Bool} {w w' : World} (h : RD b a c M k bad w) (h1 : w'.heap[b]? = w.heap[b]?) (h2 : w'.heap[a.block]? = w.heap[a.block]?) : RD b a c M k bad w' :=
  ⟨h1.trans h.blk,h.le,h.sz,h.cap,h.ne,fun i x hx=>(World.cell?_of_block (by rw [add_block];exact h2)).trans (h.row i x hx)⟩
structure EU (T : TypeId) (b : Nat) (a : Addr) (c : Nat) (M : List UInt8) (wr : World) (k0 k' : Nat) (bad' : Bool) (u : Nat) (arr : Array Value) (w : World) : Prop where
  rd : RD b a c M k' bad' w
  le : k0 ≤ k'
  ks : Kx b wr w
  bu : w.heap[u]? = some (.cells arr T (0,0))
  u0 : wr.heap.size ≤ u
  bb : b < wr.heap.size
  ab : a.block < wr.heap.size
theorem EU.call {T : TypeId} {b : Nat} {a : Addr} {c : Nat} {M : List UInt8} {wr : World} {k0 k' k2 : Nat} {bad' bad2 : Bool} {u : Nat} {arr : Array Value} {w w2 : World} (s : EU T b a c M wr k0 k' bad' u arr w) (r : RD b a c M k2 bad2 w2) (hk : k' ≤ k2) (z : Kz b w w2) : EU T b a c M wr k0 k2 bad2 u arr w2 :=
  ⟨r,Nat.le_trans s.le hk,s.ks.trans z.ks,(z.block u (by have:=s.u0;have:=s.bb;omega)).trans s.bu,s.u0,s.bb,s.ab⟩
theorem EU.set {T : TypeId} {b : Nat} {a : Addr} {c : Nat} {M : List UInt8} {wr : World} {k0 k' : Nat} {bad' : Bool} {u : Nat} {arr : Array Value} {w : World} (s : EU T b a c M wr k0 k' bad' u arr w) (j : Nat) (v : Value) {arr2 : Array Value} (e : arr.setIfInBounds j v = arr2) : EU T b a c M wr k0 k' bad' u arr2 (w.setCell ⟨u,j,none⟩ v):=by
  have h1:=s.u0
  have h2:=s.bb
  have h3:=s.ab
  have z : Kz u w (w.setCell ⟨u,j,none⟩ v):=(Kz.refl u w).set j v
  exact ⟨s.rd.far (z.block b (by omega)) (z.block _ (by omega)),s.le,s.ks.setNew s.u0 v,by rw [set_known v s.bu,e],s.u0,s.bb,s.ab⟩
structure ML {α : Type} (cl : α → List Value) (ty : TypeId) (wd : Nat) (enc : α → List UInt8) (tot ok : α → Prop) (b : Nat) (a : Addr) (c : Nat) (M : List UInt8) (k : Nat) (bad : Bool) (kc : Nat) (badc : Bool) (h : Nat) (arr : Value → Array Value) (w0 : World) (cnt : Nat) (L : List α) (k' : Nat) (bad' : Bool) (v : Value) (w : World) : Prop where
  rd : RD b a c M k' bad' w
  le : kc ≤ k'
  mn : badc = true → bad' = true
  kb : Kbh b h w0 w
  bh : w.heap[h]? = some (.cells (arr v) 50 (0,0))
  row : w.ownsRow w0.heap.size ty wd v L.length (L.flatMap cl)
  tt : ∀ x,x ∈ L → tot x
  mo : L.length ≤ cnt
  gt : bad' = false → kc + L.length ≤ k'
  ex : LJ enc ok M k bad M.length (cnt : Int) L k' bad'
  hb : b < w0.heap.size
  ha : a.block < w0.heap.size
  hh : h < w0.heap.size
  bn : h ≠ b
  an : h ≠ a.block
theorem ML.step {α : Type} {cl : α → List Value} {ty : TypeId} {wd : Nat} {enc : α → List UInt8} {tot ok : α → Prop} {b : Nat} {a : Addr} {c : Nat} {M : List UInt8} {k : Nat} {bad : Bool} {kc : Nat} {badc : Bool} {h : Nat} {arr : Value → Array Value} {w0 : World} {cnt : Nat} {L : List α} {k' : Nat} {bad' : Bool} {v : Value} {wr : World} (s : ML cl ty wd enc tot ok b a c M k bad kc badc h arr w0 cnt L k' bad' v wr) (hl : bad' = false) (hc : L.length < cnt)
    {w1 : World} {x : α} {k2 : Nat} {bad2 : Bool} (h1 : RD b a c M k2 bad2 w1) (h2 : k' ≤ k2) (h3 : Kx b wr w1) (h4 : tot x) (h5 : bad2 = false → k' < k2) (h7 : ∀ y rest,bad' = false → ok y → M.drop k' = enc y ++ rest → x = y ∧ k2 = k' + (enc y).length ∧ bad2 = false)
    {o : Obj} {v' : Value} {w3 : World} (h8 : w3.ownsRow w0.heap.size ty wd v' (L.length + 1) (L.flatMap cl ++ cl x)) (h9 : (w1.alloc o).grownBy w3 v.ownBlock) {j : Nat} (hj : (arr v).setIfInBounds j v' = arr v') : ML cl ty wd enc tot ok b a c M k bad kc badc h arr w0 cnt (L ++ [x]) k2 bad2 v' (w3.setCell ⟨h,j,none⟩ v'):=by
  have hg : ∀ g,v.ownBlock = some g → w0.heap.size ≤ g:=fun g e=>(s.row.lt g e).1
  have hgn : ∀ i,i < w0.heap.size → some i ≠ v.ownBlock:=fun i hi e=>by have:=hg i e.symm;omega
  have hb:=s.hb
  have ha:=s.ha
  have hh:=s.hh
  have bn:=s.bn
  have an:=s.an
  have hz0:=s.kb.size
  have hz1:=h3.size
  have zk : Kz h w3 (w3.setCell ⟨h,j,none⟩ v'):=(Kz.refl h w3).set j v'
  have e1 : ∀ i,i < w0.heap.size → w3.heap[i]? = w1.heap[i]?:=fun i hi=>(h9.block i (by rw [World.size_alloc];omega) (hgn i hi)).trans ((kb_alloc 0 w1 o).block i (Nat.zero_le _) (by omega))
  refine ⟨h1.far ((zk.block b (by omega)).trans (e1 b hb)) ((zk.block _ (by omega)).trans (e1 _ ha)),Nat.le_trans s.le h2,?_,?_,?_,?_,?_,?_,?_,?_,hb,ha,hh,bn,an⟩
  · intro e
    have:=s.mn e
    rw [hl] at this
    cases this
  · exact (((s.kb.trans h3.bh).trans (Kx.of_kb (b:=b) (kb_alloc 0 w1 o)).bh).gr h9 hg).set j v'
  · have e3 : w3.heap[h]? = some (.cells (arr v) 50 (0,0)):=((e1 h hh).trans (h3.block h (by omega) bn)).trans s.bh
    rw [set_known v' e3,hj]
  · rw [List.length_append,List.flatMap_append]
    have h8' : (w3.setCell ⟨h,j,none⟩ v').ownsRow w0.heap.size ty wd v' (L.length + 1) (L.flatMap cl ++ cl x):=rowBlk' h8 (fun g e=>zk.block g (by have:=(h8.lt g e).1;omega))
    simpa using h8'
  · intro y hy
    rcases List.mem_append.1 hy with hy | hy
    · exact s.tt y hy
    · rw [List.mem_singleton.1 hy];exact h4
  · rw [List.length_append,List.length_singleton]
    omega
  · intro e
    have:=s.gt hl
    have:=h5 e
    rw [List.length_append,List.length_singleton]
    omega
  · exact s.ex.step (by omega) h7
theorem flat_len {α : Type} {enc : α → List UInt8} (hne : ∀ y,0 < (enc y).length) : ∀ ys : List α,ys.length ≤ (ys.flatMap enc).length
  | []=>Nat.le_refl _
  | y :: ys=>by
    have:=flat_len hne ys
    have:=hne y
    rw [List.flatMap_cons,List.length_append,List.length_cons]
    omega
theorem ls_len {α : Type} {enc : α → List UInt8} (hne : ∀ y,0 < (enc y).length) {M rest : List UInt8} {k : Nat} {ys : List α} (h : M.drop k = ls enc ys ++ rest) : ys.length ≤ M.length:=by
  have h1:=congrArg List.length h
  rw [List.length_drop,List.length_append] at h1
  unfold ls at h1
  rw [List.length_append] at h1
  have:=flat_len hne ys
  omega
theorem LJ.zeroM {α : Type} {enc : α → List UInt8} {ok : α → Prop} {M : List UInt8} {k : Nat} {bad : Bool} {most : Nat} {cnt k1 : Nat} {bad1 : Bool} (hne : ∀ y, 0 < (enc y).length) (hm : most ≤ 9223372036854775807)
    (h : ∀ (y : Nat) rest,y ≤ rest.length → y ≤ 9223372036854775807 → M.drop k = nb y ++ rest → cnt = y ∧ k1 = k + (nb y).length ∧ bad1 = bad) : LJ enc ok M k bad most (cnt : Int) [] k1 bad1:=by
  intro ys rest e hy hn hd
  unfold ls at hd
  rw [List.append_assoc] at hd
  obtain ⟨q1,q2,q3⟩:=h ys.length _ (by rw [List.length_append];have:=flat_len hne ys;omega) (by omega) hd
  have hd2:=drop_app hd
  rw [← q2] at hd2
  exact ⟨by rw [q1],q3.trans e,ys,rfl,hd2,by rw [q2];rfl⟩
theorem nb_pos (n : Int) : 0 < (nb n).length:=by
  unfold nb
  unfold vb
  split <;> simp
theorem ub_pos (y : Bool × Int) : 0 < (ub y).length:=by unfold ub fb;simp
theorem cb_pos (y : Vv) : 0 < (cb y).length:=by unfold cb;simp
theorem ib_pos (y : Iv) : 0 < (ib y).length:=by unfold ib;simp only [List.length_append];have:=nb_pos y.o;omega
theorem mb_pos (y : Mv) : 0 < (mb y).length:=by unfold mb;simp only [List.length_append];have:=nb_pos y.g;omega
theorem pe_pos (y : Rp) : 0 < (pe y).length:=by unfold pe;simp only [List.length_append];have:=nb_pos y.l;omega
structure SP (b : Nat) (a : Addr) (c : Nat) (M : List UInt8) (k : Nat) (bad : Bool) (k' : Nat) (bad' : Bool) (W : World) (g h : Nat) (q : Rp) (vu vc vn vd : Value) (w : World) : Prop where
  rd : RD b a c M k' bad' w
  le : k ≤ k'
  mo : bad = true → bad' = true
  ks : Kx b W w
  g0 : W.heap.size ≤ g
  h0 : W.heap.size ≤ h
  gh : g ≠ h
  hl : h < w.heap.size
  bg : w.heap[g]? = some (.cells #[.string ⟨#[]⟩,.int .i64 0,.int .i64 0,.bool false,.int .i64 0,.slice none 0 0,.slice none 0 0,.slice none 0 0,.slice none 0 0] 50 (0,0))
  bh : w.heap[h]? = some (.cells #[.string q.x,.int .i64 q.l,.int .i64 q.m,.bool q.r,.int .i64 q.g,vu,vc,vn,vd] 50 (0,0))
  bb : b < W.heap.size
  ab : a.block < W.heap.size
theorem SP.after {b : Nat} {a : Addr} {c : Nat} {M : List UInt8} {k : Nat} {bad : Bool} {k' : Nat} {bad' : Bool} {W : World} {g h : Nat} {q q2 : Rp} {vu vc vn vd vu2 vc2 vn2 vd2 : Value} {w w2 : World} (s : SP b a c M k bad k' bad' W g h q vu vc vn vd w) {k2 : Nat} {bad2 : Bool} (r : RD b a c M k2 bad2 w2) (hk : k' ≤ k2) (hm : bad' = true → bad2 = true) (z : Kbh b h w w2) (hb : w2.heap[h]? = some (.cells #[.string q2.x,.int .i64 q2.l,.int .i64 q2.m,.bool q2.r,.int .i64 q2.g,vu2,vc2,vn2,vd2] 50 (0,0))) : SP b a c M k bad k2 bad2 W g h q2 vu2 vc2 vn2 vd2 w2:=by
  have h1:=s.g0
  have h2:=s.h0
  have h3:=s.bb
  have h4:=s.gh
  have h5:=(Array.getElem?_eq_some_iff.1 s.bg).1
  have h6:=s.ks.size
  exact ⟨r,Nat.le_trans s.le hk,fun e=>hm (s.mo e),⟨z.os.trans s.ks.os,z.output.trans s.ks.output,Nat.le_trans s.ks.size z.size,fun i i1 i2=>(z.block i (by omega) i2 (by omega)).trans (s.ks.block i i1 i2)⟩,h1,h2,h4,Nat.lt_of_lt_of_le s.hl z.size,(z.block g h5 (by omega) h4).trans s.bg,hb,h3,s.ab⟩
theorem SP.step {b : Nat} {a : Addr} {c : Nat} {M : List UInt8} {k : Nat} {bad : Bool} {k' : Nat} {bad' : Bool} {W : World} {g h : Nat} {q : Rp} {vu vc vn vd : Value} {w w2 : World} (s : SP b a c M k bad k' bad' W g h q vu vc vn vd w) {k2 : Nat} {bad2 : Bool} (r : RD b a c M k2 bad2 w2) (hk : k' ≤ k2) (hm : bad' = true → bad2 = true) (z : Kz b w w2) : SP b a c M k bad k2 bad2 W g h q vu vc vn vd w2 :=
  s.after r hk hm z.ks.bh ((z.block h (by have:=s.h0;have:=s.bb;omega)).trans s.bh)
theorem SP.set {b : Nat} {a : Addr} {c : Nat} {M : List UInt8} {k : Nat} {bad : Bool} {k' : Nat} {bad' : Bool} {W : World} {g h : Nat} {q q2 : Rp} {vu vc vn vd : Value} {w : World} (s : SP b a c M k bad k' bad' W g h q vu vc vn vd w) (j : Nat) (v : Value) (e : #[.string q.x,.int .i64 q.l,.int .i64 q.m,.bool q.r,.int .i64 q.g,vu,vc,vn,vd].setIfInBounds j v = #[.string q2.x,.int .i64 q2.l,.int .i64 q2.m,.bool q2.r,.int .i64 q2.g,vu,vc,vn,vd]) : SP b a c M k bad k' bad' W g h q2 vu vc vn vd (w.setCell ⟨h,j,none⟩ v):=by
  have h2:=s.h0
  have h3:=s.bb
  have h4:=s.ab
  have z : Kz h w (w.setCell ⟨h,j,none⟩ v):=(Kz.refl h w).set j v
  exact s.after (s.rd.far (z.block b (by omega)) (z.block _ (by omega))) (Nat.le_refl _) id ((Kbh.refl b h w).set j v) (by rw [set_known v s.bh,e])
theorem flag_ex {M : List UInt8} {k x k1 : Nat} {b0 b1 : Bool} (h : ∀ y,M[k]? = some y → x = y.toNat ∧ k1 = k + 1 ∧ b1 = b0) : ∀ (y : Bool) rest,M.drop k = fb y ++ rest → (((x : Int) != 0) = y) ∧ k1 = k + (fb y).length ∧ b1 = b0:=by
  intro y rest hm
  unfold fb at hm ⊢
  rw [List.cons_append] at hm
  obtain ⟨q1,q2⟩:=drop_cons hm
  obtain ⟨r1,r2,r3⟩:=h _ q1
  refine ⟨?_,r2,r3⟩
  rw [r1]
  cases y <;> decide
theorem ML.blk {α : Type} {cl : α → List Value} {ty : TypeId} {wd : Nat} {enc : α → List UInt8} {tot ok : α → Prop} {b : Nat} {a : Addr} {c : Nat} {M : List UInt8} {k : Nat} {bad : Bool} {kc : Nat} {badc : Bool} {h : Nat} {arr : Value → Array Value} {w0 : World} {cnt : Nat} {L : List α} {k' : Nat} {bad' : Bool} {v : Value} {wr : World} (s : ML cl ty wd enc tot ok b a c M k bad kc badc h arr w0 cnt L k' bad' v wr) {w1 w3 : World} {o : Obj} (h3 : Kx b wr w1) (h9 : (w1.alloc o).grownBy w3 v.ownBlock) : w3.heap[h]? = some (.cells (arr v) 50 (0,0)):=by
  have hh:=s.hh
  have hz0:=s.kb.size
  have hz1:=h3.size
  exact (((h9.block h (by rw [World.size_alloc];omega) (fun e=>by have:=(s.row.lt h e.symm).1;omega)).trans ((kb_alloc 0 w1 o).block h (Nat.zero_le _) (by omega))).trans (h3.block h (by omega) s.bn)).trans s.bh
theorem ML.begin {α : Type} {cl : α → List Value} {ty : TypeId} {wd : Nat} {enc : α → List UInt8} {tot ok : α → Prop} {b : Nat} {a : Addr} {c : Nat} {M : List UInt8} {k1 : Nat} {bad1 : Bool} {kc : Nat} {badc : Bool} {h : Nat} {arr : Value → Array Value} {w0 : World} {cnt : Nat} (r : RD b a c M kc badc w0) (hb : w0.heap[h]? = some (.cells (arr (.slice none 0 0)) 50 (0,0))) (hbh : h ≠ b) (hah : h ≠ a.block) (ha : a.block < w0.heap.size) (ex : LJ enc ok M k1 bad1 M.length (cnt : Int) [] kc badc) : ML cl ty wd enc tot ok b a c M k1 bad1 kc badc h arr w0 cnt [] kc badc (.slice none 0 0) w0 :=
  ⟨r,Nat.le_refl _,id,Kbh.refl _ _ _,hb,World.ownsRow_nil _ _ _ _,fun x hx=>(nomatch hx),Nat.zero_le _,fun _=>Nat.le_refl _,ex,r.lt,ha,(Array.getElem?_eq_some_iff.1 hb).1,hbh,hah⟩
end Go.Proofs.YtnmeemjoodoalaaGreatDoor.Fo
