import Derived.Test.YtamcnmnaadpfoaaFGcc
import Derived.Test.YtamcnmnaadpfoaaFZaa
import Derived.Laws.Bits64b
set_option maxHeartbeats 8000000
namespace Go.Proofs.Ytamcnmnaadpfoaa.Fo
open Go.ChangeShapes Go.WideShapes Go.ChangeAt Go.RowKit
set_option linter.unusedVariables false
set_option maxRecDepth 100000
def gcl (g:Gv):List Value:=[.int .i64 g.k,.int .i64 g.m,.string g.x,.int .i64 g.r]
def vcl (o:List Int) (C:Nat→Gv):Nat→List Value
 | 0=>[]
 | j+1=>vcl o C j ++ gcl (rnm o (C j))
theorem vcl_pre {o t:List Int} {C:Nat→Gv}:∀ {j:Nat},(∀ k,k < j→(C k).k=4→(C k).r ∈ o)→vcl (o ++ t) C j=vcl o C j
 | 0,_=>rfl
 | j+1,h=>by
  show vcl (o ++ t) C j ++ gcl (rnm (o ++ t) (C j))=vcl o C j ++ gcl (rnm o (C j))
  rw [vcl_pre (fun k hk=>h k (by omega)),rnm_pre (h j (by omega))]
def ncl (F:Nat→Td) (o:List Int) (V:Nat→Value):Nat→List Value
 | 0=>[]
 | k+1=>ncl F o V k ++ [.int .i64 (F (nth o k)).t,V k]
theorem nth_pre {o t:List Int} {k:Nat} (h:k < o.length):nth (o ++ t) k=nth o k:=by
 unfold nth
 rw [List.getD,List.getD,List.getElem?_append_left h]
theorem ncl_pre {F:Nat→Td} {o t:List Int} {V:Nat→Value}:∀ {k:Nat},k≤o.length→ncl F (o ++ t) V k=ncl F o V k
 | 0,_=>rfl
 | k+1,h=>by
  show ncl F (o ++ t) V k ++ [.int .i64 (F (nth (o ++ t) k)).t,V k]=ncl F o V k ++ [.int .i64 (F (nth o k)).t,V k]
  rw [ncl_pre (by omega),nth_pre (by omega)]
theorem ncl_upd {F:Nat→Td} {o:List Int} {V:Nat→Value} {v:Value} {i:Nat}:∀ {k:Nat},k≤i→ncl F o (fun q=>if q=i then v else V q) k=ncl F o V k
 | 0,_=>rfl
 | k+1,h=>by
  show ncl F o _ k ++ [.int .i64 (F (nth o k)).t,if k=i then v else V k]=ncl F o V k ++ [.int .i64 (F (nth o k)).t,V k]
  rw [ncl_upd (by omega),if_neg (by omega)]
theorem own_ne {W:World} {B B':Nat} {t t':TypeId} {s s' n n':Nat} {v v':Value} {l l':List Value} (h:W.ownsRow B t s v n l) (h':W.ownsRow B' t' s' v' n' l') (ht:t ≠ t') {g:Nat} (e:v.ownBlock=some g):some g ≠ v'.ownBlock:=by
 intro e'
 rcases h.2 with ⟨q,_⟩ | ⟨g1,c1,u1,q1,_,q3,_⟩
 ·rw [q] at e;cases e
 rcases h'.2 with ⟨p,_⟩ | ⟨g2,c2,u2,p1,_,p3,_⟩
 ·rw [p] at e';cases e'
 rw [q1] at e
 rw [p1] at e'
 have a:g1=g:=Option.some.inj e
 have b:g=g2:=Option.some.inj e'
 subst a
 subst b
 rw [q3] at p3
 injection p3 with p3
 injection p3 with _ p3
 exact ht p3
theorem own_ty {W:World} {B:Nat} {t t':TypeId} {s n u:Nat} {v:Value} {l:List Value} {c:Array Value} (h:W.ownsRow B t s v n l) (hu:W.heap[u]? = some (.cells c t' (0,0))) (ht:t ≠ t') {g:Nat} (e:v.ownBlock=some g):g ≠ u:=by
 rintro rfl
 rcases h.2 with ⟨q,_⟩ | ⟨g1,c1,u1,q1,_,q3,_⟩
 ·rw [q] at e;cases e
 rw [q1] at e
 have a:g1=g:=Option.some.inj e
 subst a
 rw [q3] at hu
 injection hu with hu
 injection hu with _ hu
 exact ht hu
structure CS (w:World) (n:Nat) (F:Nat→Td) (a:Gv) (pn:Option Addr) (cn:Nat) (o:List Int) (i:Nat) (vo vn:Value) (V:Nat→Value) (W:World):Prop where
 kb:Kb 0 w W
 bx:W.heap[w.heap.size]? = some (.cells #[.int .i64 a.k,.int .i64 a.m,.string a.x,.int .i64 a.r,.slice pn n cn] 44 (0,0))
 rs:W.heap[w.heap.size+1]? = some (.cells #[.int .i64 0,.int .i64 0,.string ⟨#[]⟩,.int .i64 0,.slice none 0 0] 44 (0,0))
 ou:W.heap[w.heap.size+1+1]? = some (.cells #[.int .i64 (rnm o a).k,.int .i64 (rnm o a).m,.string (rnm o a).x,.int .i64 (rnm o a).r,vn] 44 (0,0))
 wh:Wh (w.heap.size+1+1+1) n o W
 oo:W.ownsRow (w.heap.size+4) 3 1 vo o.length (ivs o)
 nn:W.ownsRow (w.heap.size+4) 50 2 vn i (ncl F o V i)
 vs:∀ k,k < i→W.ownsRow (w.heap.size+4) 41 4 (V k) (F (nth o k)).c (vcl o (F (nth o k)).C (F (nth o k)).c)
 sz:w.heap.size+4≤W.heap.size
 il:i≤o.length
 nl:Nl n o
 cr:a.k=4→a.r ∈ o
 cv:∀ k,k < i→∀ j,j < (F (nth o k)).c→((F (nth o k)).C j).k=4→((F (nth o k)).C j).r ∈ o
structure CX (w:World) (n:Nat) (F:Nat→Td) (a:Gv) (pn:Option Addr) (cn:Nat) (o:List Int) (i:Nat) (vo vn:Value) (V:Nat→Value) (t:Int) (C:Nat→Gv) (u X j:Nat) (vx:Value) (W:World):Prop where
 cs:CS w n F a pn cn o i vo vn V W
 xu:W.heap[u]? = some (.cells #[.int .i64 t,vx] 50 (0,0))
 xr:W.ownsRow X 41 4 vx j (vcl o C j)
 hX:w.heap.size+4≤X
 hX2:X≤W.heap.size
 hu:X≤u+1∧w.heap.size+4≤u
 hv:∀ k,k < i→∀ g,(V k).ownBlock=some g→g < X
 hn:∀ g,vn.ownBlock=some g→g < u
 cc:∀ k,k < j→(C k).k=4→(C k).r ∈ o
theorem CS.kb2 {w:World} {n:Nat} {F:Nat→Td} {a:Gv} {pn:Option Addr} {cn:Nat} {o:List Int} {i:Nat} {vo vn:Value} {V:Nat→Value} {W W':World} (h:CS w n F a pn cn o i vo vn V W) (k:Kb 0 W W'):CS w n F a pn cn o i vo vn V W':=by
 have hz:=h.sz
 have b:∀ g,g < W.heap.size→W'.heap[g]? = W.heap[g]?:=fun g hg=>k.block g (Nat.zero_le _) hg
 exact ⟨h.kb.trans k,(b _ (by omega)).trans h.bx,(b _ (by omega)).trans h.rs,(b _ (by omega)).trans h.ou,h.wh.keep (b _ (by omega)),own_keep h.oo (fun g e=>b g (h.oo.lt g e).2),own_keep h.nn (fun g e=>b g (h.nn.lt g e).2),fun q hq=>own_keep (h.vs q hq) (fun g e=>b g ((h.vs q hq).lt g e).2),Nat.le_trans h.sz k.size,h.il,h.nl,h.cr,h.cv⟩
theorem CX.kb2 {w:World} {n:Nat} {F:Nat→Td} {a:Gv} {pn:Option Addr} {cn:Nat} {o:List Int} {i:Nat} {vo vn:Value} {V:Nat→Value} {t:Int} {C:Nat→Gv} {u X j:Nat} {vx:Value} {W W':World} (h:CX w n F a pn cn o i vo vn V t C u X j vx W) (k:Kb 0 W W'):CX w n F a pn cn o i vo vn V t C u X j vx W':=by
 have hul:u < W.heap.size:=(Array.getElem?_eq_some_iff.1 h.xu).1
 exact ⟨h.cs.kb2 k,(k.block u (Nat.zero_le _) hul).trans h.xu,own_keep h.xr (fun g e=>k.block g (Nat.zero_le _) (h.xr.lt g e).2),h.hX,Nat.le_trans h.hX2 k.size,h.hu,h.hv,h.hn,h.cc⟩
theorem CX.ren {w:World} {n:Nat} {F:Nat→Td} {a:Gv} {pn:Option Addr} {cn:Nat} {o:List Int} {i:Nat} {vo vo' vn:Value} {V:Nat→Value} {t:Int} {C:Nat→Gv} {u X j:Nat} {vx:Value} {W W':World} {v:Gv} (h:CX w n F a pn cn o i vo vn V t C u X j vx W) (hw:Wh (w.heap.size+1+1+1) n (ext o v) W') (ho:W'.ownsRow (w.heap.size+4) 3 1 vo' (ext o v).length (ivs (ext o v))) (f:Fo2 (w.heap.size+1+1+1) vo.ownBlock W W') (hv:v.k=4→0≤v.r∧v.r < (n:Int)):CX w n F a pn cn (ext o v) i vo' vn V t C u X j vx W':=by
 obtain ⟨tl,et⟩:=ext_pre o v
 have hc:=h.cs
 have hz:=hc.sz
 have hul:u < W.heap.size:=(Array.getElem?_eq_some_iff.1 h.xu).1
 have hog:∀ g,vo.ownBlock=some g→w.heap.size+4≤g:=fun g e=>(hc.oo.lt g e).1
 have bl:∀ g,g < w.heap.size+3→W'.heap[g]? = W.heap[g]?:=fun g hg=>f.block g (by omega) (by omega) (fun e=>by have:=hog g e.symm;omega)
 have bv:∀ {B s m:Nat} {ty:TypeId} {v:Value} {l:List Value},W.ownsRow B ty s v m l→w.heap.size+4≤B→ty ≠ 3→W'.ownsRow B ty s v m l:=fun {B s m ty v l} hr hB ht=>own_keep hr (fun g e=>f.block g (hr.lt g e).2 (by have:=(hr.lt g e).1;omega) (own_ne hr hc.oo ht e))
 have hnl:=nl_ext hc.nl hv
 have e1:rnm (ext o v) a=rnm o a:=by rw [et];exact rnm_pre hc.cr
 have e2:∀ k,k < i→nth (ext o v) k=nth o k:=fun k hk=>by rw [et];exact nth_pre (by have:=hc.il;omega)
 have mem:∀ {x:Int},x ∈ o→x ∈ ext o v:=fun {x} q=>by rw [et];exact List.mem_append.2 (.inl q)
 have hu2:W'.heap[u]? = W.heap[u]?:=f.block u hul (by have:=h.hu.2;omega) (fun e=>by
  have:=own_ty hc.oo h.xu (by decide) e.symm
  exact this rfl)
 refine ⟨⟨⟨f.os.trans hc.kb.os,f.output.trans hc.kb.output,Nat.le_trans hc.kb.size f.size,fun g _ hg=>(bl g (by omega)).trans (hc.kb.block g (Nat.zero_le _) hg)⟩,(bl _ (by omega)).trans hc.bx,(bl _ (by omega)).trans hc.rs,?_,hw,ho,?_,fun k hk=>?_,Nat.le_trans hz f.size,?_,hnl,fun q=>mem (hc.cr q),fun k hk=>?_⟩,hu2.trans h.xu,?_,h.hX,Nat.le_trans h.hX2 f.size,h.hu,h.hv,h.hn,fun k hk q=>mem (h.cc k hk q)⟩
 ·rw [e1];exact (bl _ (by omega)).trans hc.ou
 ·rw [et,ncl_pre hc.il];exact bv hc.nn (Nat.le_refl _) (by decide)
 ·rw [e2 k hk,et,vcl_pre (hc.cv k hk)];exact bv (hc.vs k hk) (Nat.le_refl _) (by decide)
 ·rw [et,List.length_append];have:=hc.il;omega
 ·rw [e2 k hk];intro j hj q;exact mem (hc.cv k hk j hj q)
 ·rw [et,vcl_pre h.cc];exact bv h.xr h.hX (by decide)
theorem own_base {W:World} {B B':Nat} {t:TypeId} {s n:Nat} {v:Value} {l:List Value} (h:W.ownsRow B t s v n l) (hb:B'≤B):W.ownsRow B' t s v n l:=by
 refine ⟨h.1,?_⟩
 rcases h.2 with h1 | ⟨g,cap,cur,h1,h2,h3⟩
 ·exact .inl h1
 ·exact .inr ⟨g,cap,cur,h1,Nat.le_trans hb h2,h3⟩
theorem CS.begin {w:World} {n:Nat} {F:Nat→Td} {a:Gv} {pn:Option Addr} {cn:Nat} {o:List Int} {i:Nat} {vo vn:Value} {V:Nat→Value} {W W':World} {u:Nat} {t:Int} {C:Nat→Gv} (h:CS w n F a pn cn o i vo vn V W) (k:Kb 0 W W') (hu:W'.heap[u]? = some (.cells #[.int .i64 t,.slice none 0 0] 50 (0,0))) (hs:W'.heap.size=u+1) (hl:W.heap.size≤u):CX w n F a pn cn o i vo vn V t C u (u+1) 0 (.slice none 0 0) W':=by
 have hz:=h.sz
 exact ⟨h.kb2 k,hu,World.ownsRow_nil _ _ _ _,by omega,by omega,⟨Nat.le_refl _,by omega⟩,fun q hq g e=>by have:=((h.vs q hq).lt g e).2;omega,fun g e=>by have:=(h.nn.lt g e).2;omega,fun q hq=>by omega⟩
theorem CX.push {w:World} {n:Nat} {F:Nat→Td} {a:Gv} {pn:Option Addr} {cn:Nat} {o:List Int} {i:Nat} {vo vn:Value} {V:Nat→Value} {t:Int} {C:Nat→Gv} {u X j:Nat} {vx vx':Value} {W w3:World} {ob:Obj} (h:CX w n F a pn cn o i vo vn V t C u X j vx W) (hr:w3.ownsRow X 41 4 vx' (j+1) (vcl o C j ++ gcl (rnm o (C j)))) (hg:(W.alloc ob).grownBy w3 vx.ownBlock) (hcc:(C j).k=4→(C j).r ∈ o):CX w n F a pn cn o i vo vn V t C u X (j+1) vx' (w3.setCell ⟨u,1,none⟩ vx'):=by
 have hc:=h.cs
 have hz:=hc.sz
 have hX:=h.hX
 have hX2:=h.hX2
 obtain ⟨hu1,hu2⟩:=h.hu
 have hul:u < W.heap.size:=(Array.getElem?_eq_some_iff.1 h.xu).1
 have hs:=hg.size
 rw [World.size_alloc] at hs
 have hxg:∀ g,vx.ownBlock=some g→X≤g:=fun g e=>(h.xr.lt g e).1
 have b3:∀ g,g < W.heap.size→some g ≠ vx.ownBlock→w3.heap[g]? = W.heap[g]?:=fun g hg' hne=>(hg.block g (by rw [World.size_alloc];omega) hne).trans ((kb_alloc 0 W ob).block g (Nat.zero_le _) hg')
 have bs:∀ g,g ≠ u→(w3.setCell ⟨u,1,none⟩ vx').heap[g]? = w3.heap[g]?:=fun g hg'=>Below.heap_setCell _ _ _ _ hg'
 have bl:∀ g,g < w.heap.size+4→(w3.setCell ⟨u,1,none⟩ vx').heap[g]? = W.heap[g]?:=fun g hg'=>(bs g (by omega)).trans (b3 g (by omega) (fun e=>by have:=hxg g e.symm;omega))
 have hzz:(w3.setCell ⟨u,1,none⟩ vx').heap.size=w3.heap.size:=World.size_setCell _ _ _
 have u3:w3.heap[u]? = some (.cells #[.int .i64 t,vx] 50 (0,0)):=(b3 u hul (fun e=>own_ty h.xr h.xu (by decide) e.symm rfl)).trans h.xu
 refine ⟨⟨⟨hg.os.trans hc.kb.os,hg.output.trans hc.kb.output,by rw [hzz];have:=hc.kb.size;omega,fun g _ hg'=>(bl g (by omega)).trans (hc.kb.block g (Nat.zero_le _) hg')⟩,(bl _ (by omega)).trans hc.bx,(bl _ (by omega)).trans hc.rs,(bl _ (by omega)).trans hc.ou,hc.wh.keep (bl _ (by omega)),?_,?_,fun k hk=>?_,by rw [hzz];omega,hc.il,hc.nl,hc.cr,hc.cv⟩,?_,?_,hX,by rw [hzz];omega,h.hu,h.hv,h.hn,fun k hk q=>?_⟩
 ·exact own_keep hc.oo (fun g e=>(bs g (own_ty hc.oo h.xu (by decide) e)).trans (b3 g (hc.oo.lt g e).2 (own_ne hc.oo h.xr (by decide) e)))
 ·exact own_keep hc.nn (fun g e=>(bs g (by have:=h.hn g e;omega)).trans (b3 g (hc.nn.lt g e).2 (own_ne hc.nn h.xr (by decide) e)))
 ·exact own_keep (hc.vs k hk) (fun g e=>(bs g (own_ty (hc.vs k hk) h.xu (by decide) e)).trans (b3 g ((hc.vs k hk).lt g e).2 (fun e'=>by have:=hxg g e'.symm;have:=h.hv k hk g e;omega)))
 ·rw [set_known vx' u3];rfl
 ·exact own_keep hr (fun g e=>bs g (own_ty hr u3 (by decide) e))
 ·by_cases e:k=j
  ·subst e;exact hcc q
  ·exact h.cc k (by omega) q
theorem CX.done {w:World} {n:Nat} {F:Nat→Td} {a:Gv} {pn:Option Addr} {cn:Nat} {o:List Int} {i:Nat} {vo vn:Value} {V:Nat→Value} {u X:Nat} {vx vn':Value} {W w3:World} {ob:Obj} (h:CX w n F a pn cn o i vo vn V (F (nth o i)).t (F (nth o i)).C u X (F (nth o i)).c vx W) (hr:w3.ownsRow (w.heap.size+4) 50 2 vn' (i+1) (ncl F o V i ++ [.int .i64 (F (nth o i)).t,vx])) (hg:(W.alloc ob).grownBy w3 vn.ownBlock) (hi:i < o.length):CS w n F a pn cn o (i+1) vo vn' (fun q=>if q=i then vx else V q) (w3.setCell ⟨w.heap.size+1+1,4,none⟩ vn'):=by
  have hc:=h.cs
  have hz:=hc.sz
  have hs:=hg.size
  rw [World.size_alloc] at hs
  have hng:∀ g,vn.ownBlock=some g→w.heap.size+4≤g:=fun g e=>(hc.nn.lt g e).1
  have b3:∀ g,g < W.heap.size→some g ≠ vn.ownBlock→w3.heap[g]? = W.heap[g]?:=fun g hg' hne=>(hg.block g (by rw [World.size_alloc];omega) hne).trans ((kb_alloc 0 W ob).block g (Nat.zero_le _) hg')
  have bs:∀ g,g ≠ w.heap.size+1+1→(w3.setCell ⟨w.heap.size+1+1,4,none⟩ vn').heap[g]? = w3.heap[g]?:=fun g hg'=>Below.heap_setCell _ _ _ _ hg'
  have bl:∀ g,g < w.heap.size+4→g ≠ w.heap.size+1+1→(w3.setCell ⟨w.heap.size+1+1,4,none⟩ vn').heap[g]? = W.heap[g]?:=fun g hg' hne=>(bs g hne).trans (b3 g (by omega) (fun e=>by have:=hng g e.symm;omega))
  have hzz:(w3.setCell ⟨w.heap.size+1+1,4,none⟩ vn').heap.size=w3.heap.size:=World.size_setCell _ _ _
  have o3:=(b3 (w.heap.size+1+1) (by omega) (fun e=>by have:=hng _ e.symm;omega)).trans hc.ou
  have bv:∀ {B s m:Nat} {ty:TypeId} {v:Value} {l:List Value},W.ownsRow B ty s v m l→w.heap.size+4≤B→ty ≠ 50→(w3.setCell ⟨w.heap.size+1+1,4,none⟩ vn').ownsRow B ty s v m l:=fun {B s m ty v l} hr hB ht=>own_keep hr (fun g e=>(bs g (by have:=(hr.lt g e).1;omega)).trans (b3 g (hr.lt g e).2 (own_ne hr hc.nn ht e)))
  refine ⟨⟨hg.os.trans hc.kb.os,hg.output.trans hc.kb.output,by rw [hzz];have:=hc.kb.size;omega,fun g _ hg'=>(bl g (by omega) (by omega)).trans (hc.kb.block g (Nat.zero_le _) hg')⟩,(bl _ (by omega) (by omega)).trans hc.bx,(bl _ (by omega) (by omega)).trans hc.rs,?_,hc.wh.keep (bl _ (by omega) (by omega)),bv hc.oo (Nat.le_refl _) (by decide),?_,fun k hk=>?_,by rw [hzz];omega,hi,hc.nl,hc.cr,fun k hk=>?_⟩
  · rw [set_known vn' o3];rfl
  · have e : ncl F o (fun q => if q = i then vx else V q) (i + 1) = ncl F o V i ++ [.int .i64 (F (nth o i)).t, vx] := by
      show ncl F o _ i ++ [.int .i64 (F (nth o i)).t,if i=i then vx else V i] = _
      rw [ncl_upd (Nat.le_refl _),if_pos rfl]
    rw [e]
    exact own_keep hr (fun g e=>bs g (by have:=(hr.lt g e).1;omega))
  · by_cases e:k=i
    · subst e
      rw [if_pos rfl]
      exact own_base (bv h.xr h.hX (by decide)) h.hX
    · rw [if_neg e]
      exact bv (hc.vs k (by omega)) (Nat.le_refl _) (by decide)
  · by_cases e:k=i
    · subst e;exact h.cc
    · exact hc.cv k (by omega)
theorem ords_stop {F:Nat→Td} {o:List Int} {i:Nat} (h:(ords F o i).length≤i):∀ d,ords F o (i+d)=ords F o i
 | 0=>rfl
 | d+1=>by
  show ords F o (i+d+1) = _
  rw [ords_succ,ords_stop h d,if_neg (by omega)]
theorem vcl_len (o:List Int) (C:Nat→Gv):∀ j,(vcl o C j).length=j*4
 | 0=>rfl
 | j+1=>by
  show (vcl o C j ++ gcl (rnm o (C j))).length = _
  rw [List.length_append,vcl_len o C j]
  show j*4+4 = _
  omega
theorem vcl_at (o:List Int) (C:Nat→Gv) {k t:Nat} (ht:t < 4):∀ {j},k < j→(vcl o C j)[k*4+t]? = (gcl (rnm o (C k)))[t]?
 | 0,h=>by omega
 | j+1,h=>by
  show (vcl o C j ++ gcl (rnm o (C j)))[k*4+t]? = _
  by_cases e:k=j
  ·subst e
   rw [List.getElem?_append_right (by rw [vcl_len];omega),vcl_len]
   congr 1
   omega
  ·rw [List.getElem?_append_left (by rw [vcl_len];omega)]
   exact vcl_at o C ht (by omega)
theorem ncl_len (F:Nat→Td) (o:List Int) (V:Nat→Value):∀ j,(ncl F o V j).length=j*2
 | 0=>rfl
 | j+1=>by
  show (ncl F o V j ++ [.int .i64 (F (nth o j)).t,V j]).length = _
  rw [List.length_append,ncl_len F o V j]
  show j*2+2 = _
  omega
theorem ncl_at (F:Nat→Td) (o:List Int) (V:Nat→Value) {k t:Nat} (ht:t < 2):∀ {j},k < j→(ncl F o V j)[k*2+t]? = ([.int .i64 (F (nth o k)).t,V k]:List Value)[t]?
 | 0,h=>by omega
 | j+1,h=>by
  show (ncl F o V j ++ [.int .i64 (F (nth o j)).t,V j])[k*2+t]? = _
  by_cases e:k=j
  ·subst e
   rw [List.getElem?_append_right (by rw [ncl_len];omega),ncl_len]
   congr 1
   omega
  ·rw [List.getElem?_append_left (by rw [ncl_len];omega)]
   exact ncl_at F o V ht (by omega)
theorem own_cells {W:World} {B:Nat} {t:TypeId} {s n:Nat} {v:Value} {l:List Value} (h:W.ownsRow B t s v n l) (hn : 0 < n):∃ g cap,v = .slice (some ⟨g,0,none⟩) n cap∧B≤g∧n≤cap∧∀ i,i < n*s→W.cell? ⟨g,i,none⟩=l[i]?:=by
 have hlen:=h.1
 rcases h.2 with ⟨_,e⟩ | ⟨g,cap,cur,h1,h2,h3,h4,h5,h6,h7⟩
 ·omega
 ·refine ⟨g,cap,h1,h2,h4,fun i hi=>?_⟩
  have e:l[i]? = cur[i]?:=by
   rw [← h7,List.getElem?_take_of_lt hi,Array.getElem?_toList]
  have hl:i < l.length:=by omega
  rw [List.getElem?_eq_getElem hl]
  rw [List.getElem?_eq_getElem hl] at e
  exact cell_of h3 e.symm
theorem own_vals {W:World} {B:Nat} {v:Value} {o:List Int} {C:Nat→Gv} {c:Nat} (h:W.ownsRow B 41 4 v c (vcl o C c)):RowW B W v c (fun j=>rnm o (C j)):=by
 obtain ⟨ad,cap,rfl⟩:=own_shape h
 refine ⟨ad,cap,rfl,fun hn=>?_⟩
 obtain ⟨g,cap',e,hB,hc,hcell⟩:=own_cells h hn
 injection e with e1 e2 e3
 subst e1
 subst e3
 refine ⟨_,rfl,hc,hB,fun i hi=>?_⟩
 rw [addr0]
 exact CelV.of (fun t ht=>(hcell _ (by omega)).trans (vcl_at o C ht hi))
def cnF (F:Nat→Td) (o:List Int) (k:Nat):Td:=⟨(F (nth o k)).t,(F (nth o k)).c,fun j=>rnm o ((F (nth o k)).C j)⟩
theorem CS.row {w:World} {n:Nat} {F:Nat→Td} {a:Gv} {pn:Option Addr} {cn:Nat} {o:List Int} {i:Nat} {vo vn:Value} {V:Nat→Value} {W:World} (h:CS w n F a pn cn o i vo vn V W):RowT (w.heap.size+4) W vn i (cnF F o):=by
 have hn':=h.nn
 obtain ⟨ad,cap,rfl⟩:=own_shape hn'
 refine ⟨ad,cap,rfl,fun hn=>?_⟩
 obtain ⟨g,cap',e,hB,hc,hcell⟩:=own_cells hn' hn
 injection e with e1 e2 e3
 subst e1
 subst e3
 refine ⟨_,rfl,hc,hB,fun k hk=>?_⟩
 rw [addr0]
 exact ⟨V k,CelT.of (fun t ht=>(hcell _ (by omega)).trans (ncl_at F o V ht hk)),own_vals (h.vs k hk)⟩
structure Lk (n:Nat) (F:Nat→Td) (a:Gv):Prop where
 lr:a.k=4→0≤a.r∧a.r < (n:Int)
 lv:∀ i,i < n→∀ j,j < (F i).c→((F i).C j).k=4→0≤((F i).C j).r∧((F i).C j).r < (n:Int)
theorem nth_lt {n:Nat} {o:List Int} (h:Nl n o) {i:Nat} (hi:i < o.length):nth o i < n∧o[i]? = some ((nth o i:Nat):Int):=by
 have hm:=h.rg o[i] (List.getElem_mem hi)
 have e:o.getD i 0=o[i]:=by rw [List.getD,List.getElem?_eq_getElem hi];rfl
 unfold nth
 rw [e,List.getElem?_eq_getElem hi]
 exact ⟨by omega,by rw [Int.toNat_of_nonneg hm.1]⟩
def s5 (W:World) (B:Nat) (k m:Int) (x:ByteArray) (r:Int) (v:Value):World:=(s4 W B k m x r).setCell ⟨B,4,none⟩ v
theorem s5_far {k:Nat} (W:World) (B:Nat) (a m:Int) (x:ByteArray) {r:Int} (v:Value) (h:k ≠ B):(s5 W B a m x r v).heap[k]? = W.heap[k]?:=by
 unfold s5
 rw [Below.heap_setCell _ _ _ _ h,s4_far _ _ _ _ _ h]
theorem s5_size (W:World) (B:Nat) (a m:Int) (x:ByteArray) (r:Int) (v:Value):(s5 W B a m x r v).heap.size=W.heap.size:=by
 unfold s5
 rw [World.size_setCell,s4_size]
theorem s4_known {W:World} {B:Nat} {u0 u1 u2 u3 u4:Value} {t:TypeId} (h:W.heap[B]? = some (.cells #[u0,u1,u2,u3,u4] t (0,0))) (k m:Int) (x:ByteArray) (r:Int):(s4 W B k m x r).heap[B]? = some (.cells #[.int .i64 k,.int .i64 m,.string x,.int .i64 r,u4] t (0,0)):=by
 unfold s4
 have h0:(W.setCell ⟨B,0,none⟩ (.int .i64 k)).heap[B]? = some (.cells #[.int .i64 k,u1,u2,u3,u4] t (0,0)):=set_known _ h
 have h1:((W.setCell ⟨B,0,none⟩ (.int .i64 k)).setCell ⟨B,1,none⟩ (.int .i64 m)).heap[B]? = some (.cells #[.int .i64 k,.int .i64 m,u2,u3,u4] t (0,0)):=set_known _ h0
 have h2:(((W.setCell ⟨B,0,none⟩ (.int .i64 k)).setCell ⟨B,1,none⟩ (.int .i64 m)).setCell ⟨B,2,none⟩ (.string x)).heap[B]? = some (.cells #[.int .i64 k,.int .i64 m,.string x,u3,u4] t (0,0)):=set_known _ h1
 exact set_known _ h2
theorem s5_known {W:World} {B:Nat} {u0 u1 u2 u3 u4:Value} {t:TypeId} (h:W.heap[B]? = some (.cells #[u0,u1,u2,u3,u4] t (0,0))) (k m:Int) (x:ByteArray) (r:Int) (v:Value):(s5 W B k m x r v).heap[B]? = some (.cells #[.int .i64 k,.int .i64 m,.string x,.int .i64 r,v] t (0,0)):=by
 unfold s5
 exact set_known _ (s4_known h k m x r)
def WhP (G n k:Nat) (W:World):Prop:=(∀ j,j < n→W.cell? ⟨G,j,none⟩=some (.int .i64 (if j < k then -1 else 0)))∧∀ j,W.frozen? ⟨G,j,none⟩=false
theorem WhP.step {G n k:Nat} {W:World} (h:WhP G n k W) (hk:k < n):WhP G n (k+1) (W.setCell ⟨G,k,none⟩ (.int .i64 (-1))):=by
 refine ⟨fun j hj=>?_,fun j=>(set_fz _ _ _ _ _).trans (h.2 j)⟩
 by_cases e:j=k
 ·subst e
  rw [if_pos (by omega)]
  exact set_eq _ _ _ _ _ (h.1 j hj)
 ·rw [set_ne _ _ _ _ _ e,h.1 j hj]
  by_cases q:j < k
  ·rw [if_pos q,if_pos (by omega)]
  ·rw [if_neg q,if_neg (by omega)]
theorem WhP.full {G n:Nat} {W:World} (h:WhP G n n W):Wh G n [] W :=
 ⟨fun j hj=>by rw [h.1 j hj,if_pos hj];rfl,h.2⟩
theorem WhP.keep {G n k:Nat} {W W':World} (h:WhP G n k W) (hb:W'.heap[G]? = W.heap[G]?):WhP G n k W' :=
 ⟨fun j hj=>(World.cell?_of_block hb).trans (h.1 j hj),fun j=>(World.frozen?_of_block hb).trans (h.2 j)⟩
abbrev bvs (l:List Int):List Value:=l.map (fun x=>Value.int .u8 x)
structure Kx (B:Nat) (w w':World):Prop where
 os:w'.os=w.os
 output:w'.output=w.output
 size:w.heap.size≤w'.heap.size
 lo:∀ k,k < B→k < w.heap.size→w'.heap[k]? = w.heap[k]?
 nt:∀ (k:Nat) (c:Array Value) (t:TypeId),w.heap[k]? = some (.cells c t (0,0))→t ≠ 5→w'.heap[k]? = w.heap[k]?
theorem Kx.refl (B:Nat) (w:World):Kx B w w:=⟨rfl,rfl,Nat.le_refl _,fun _ _ _=>rfl,fun _ _ _ _ _=>rfl⟩
theorem Kx.trans {B:Nat} {a b c:World} (h:Kx B a b) (k:Kx B b c):Kx B a c :=
 ⟨k.os.trans h.os,k.output.trans h.output,Nat.le_trans h.size k.size,fun i h1 h2=>(k.lo i h1 (Nat.lt_of_lt_of_le h2 h.size)).trans (h.lo i h1 h2),fun i q t h1 h2=>(k.nt i q t ((h.nt i q t h1 h2).trans h1) h2).trans (h.nt i q t h1 h2)⟩
theorem Kx.of_kb {B:Nat} {w w':World} (k:Kb 0 w w'):Kx B w w':=⟨k.os,k.output,k.size,fun i _ h=>k.block i (Nat.zero_le _) h,fun i _ _ h _=>k.block i (Nat.zero_le _) (Array.getElem?_eq_some_iff.1 h).1⟩
theorem Kx.grown {B n:Nat} {w w':World} {v:Value} {l:List Value} (h:w.ownsRow B 5 1 v n l) (g:w.grownBy w' v.ownBlock):Kx B w w' :=
 ⟨g.os,g.output,g.size,fun k h1 h2=>g.block k h2 (fun e=>by have:=(h.lt k e.symm).1;omega),fun k c t h1 h2=>g.block k (Array.getElem?_eq_some_iff.1 h1).1 (fun e=>own_ty h h1 (fun q=>h2 q.symm) e.symm rfl)⟩
def eig (n:Nat):Nat→List Int
 | 0=>[]
 | k+1=>eig n k ++ [((n / 256 ^ k % 256:Nat):Int)]
theorem eig_len (n:Nat):∀ k,(eig n k).length=k
 | 0=>rfl
 | k+1=>by show (eig n k ++ [_]).length = _;rw [List.length_append,eig_len n k];rfl
theorem infoB:(Try.prog.info? 5).map (fun i=>(i.zero,i.size,i.bytes))=some (some (.int .u8 0),1,1):=by kernel_rfl
theorem sp_eight {B : Nat} {v : Value} {l : List Int} (n : Nat) (w : World) (h : w.ownsRow B 5 1 v l.length (bvs l)) (hB : B ≤ w.heap.size) (hl : l.length ≤ 1000000000) (hn : n < 18446744073709551616) :
  Calls Try.prog 75 #[v,.int .u64 (n:Int)] w fun e w'=>∃ v',e = .returned v'∧w'.ownsRow B 5 1 v' (l ++ eig n 8).length (bvs (l ++ eig n 8))∧Kx B w w':=by
 obtain ⟨i0,hi0,hz0,hz1,hz2⟩:=info_parts infoB
 have HI0:Hid (Try.prog.info? 5=some i0):=hi0
 have HS:Hid (w.ownsRow B 5 1 v (l ++ eig n 0).length (bvs (l ++ eig n 0))∧Kx B w w):=by
  show w.ownsRow B 5 1 v (l ++ []).length (bvs (l ++ []))∧Kx B w w
  rw [List.append_nil]
  exact ⟨h,Kx.refl _ _⟩
 obtain ⟨ad,cap,rfl⟩:=own_shape h
 have HB:Hid (B≤w.heap.size∧l.length≤1000000000):=(⟨hB,hl⟩:_∧_)
 clear h hB hl hi0
 go_enter Try.func75,Try.ntmps75
 go_wp2_with fail
 go_loopw [0,1,5] (fun s0 s1 s5 wr=>∃ k:Nat,s5 = .int .i64 (k:Int)∧k≤8∧s1 = .int .u64 ((n / 256 ^ k:Nat):Int)∧Hid (wr.ownsRow B 5 1 s0 (l ++ eig n k).length (bvs (l ++ eig n k))∧Kx B w wr)) (fun _ _ s5 _=>8 - (intOf s5).toNat)
 case atStart=>exact ⟨0,rfl,by omega,by simp,HS⟩
 case round =>
  clear HS
  obtain ⟨k,rfl,hk,rfl,HX⟩:=hrel
  obtain ⟨ho,hx⟩:=(show wr.ownsRow B 5 1 _ (l ++ eig n k).length (bvs (l ++ eig n k))∧Kx B w wr from HX)
  rcases Nat.lt_or_ge k 8 with hk8 | hk8
  case inr =>
   obtain rfl:k=8:=by omega
   clear ho hx
   go_wp2_with fail
   go_ret
   exact ⟨_,rfl,HX⟩
  have hkI:(k:Int) < 8:=by omega
  obtain ⟨X,hX⟩:∃ X:Nat,X=n / 256 ^ k:=⟨_,rfl⟩
  have hX1:X < 18446744073709551616:=by rw [hX];exact Nat.lt_of_le_of_lt (Nat.div_le_self _ _) hn
  rw [← hX]
  obtain ⟨ad,cap,rfl⟩:=own_shape ho
  obtain ⟨hB,hl⟩:=(show B≤w.heap.size∧l.length≤1000000000 from HB)
  have hlen:(l ++ eig n k).length=l.length+k:=by rw [List.length_append,eig_len]
  obtain ⟨L,hL⟩:∃ L,L=(l ++ eig n k).length:=⟨_,rfl⟩
  obtain ⟨LV,hLV⟩:∃ LV,LV=bvs (l ++ eig n k):=⟨_,rfl⟩
  have hL1:L≤1000000008:=by omega
  rw [← hL,← hLV] at ho
  rw [← hL]
  have howna:∀ ob:Obj,(wr.alloc ob).ownsRow B 5 1 (.slice ad L cap) L LV:=fun ob=>ho.alloc ob
  have hqc:∀ (j:Nat) (u:Value),([.int .u8 ((X % 256:Nat):Int)]:List Value)[j]? = some u→(wr.alloc (.cells #[.int .u8 ((X % 256:Nat):Int)] 5)).cell? ((⟨wr.heap.size,0,none⟩:Addr).add j)=some u:=qr_cells wr #[.int .u8 ((X % 256:Nat):Int)] 5 [.int .u8 ((X % 256:Nat):Int)] rfl
  have h1c:∀ u ∈ ([.int .u8 ((X % 256:Nat):Int)]:List Value),u.oneCell'=true:=by intro u hu;simp at hu;subst hu;rfl
  have hbs:B≤wr.heap.size:=Nat.le_trans hB hx.size
  have HSTP:Hid (∀ (ob:Obj) (v':Value) (w5:World),w5.ownsRow B 5 1 v' (L+1) (LV ++ [.int .u8 ((X % 256:Nat):Int)])→(wr.alloc ob).grownBy w5 (Value.slice ad L cap).ownBlock→w5.ownsRow B 5 1 v' (l ++ eig n (k+1)).length (bvs (l ++ eig n (k+1)))∧Kx B w w5):=(fun ob v' w5 h5 g5=>by
   refine ⟨?_,hx.trans ((Kx.of_kb (kb_alloc 0 wr ob)).trans (Kx.grown (howna ob) g5))⟩
   have e1:(l ++ eig n (k+1)).length=L+1:=by rw [hL,List.length_append,List.length_append,eig_len,eig_len];omega
   have e2:bvs (l ++ eig n (k+1))=LV ++ [.int .u8 ((X % 256:Nat):Int)]:=by
    rw [hLV,hX]
    show bvs (l ++ (eig n k ++ [((n / 256 ^ k % 256:Nat):Int)])) = _
    unfold bvs
    rw [← List.append_assoc,List.map_append]
    rfl
   rw [e1,e2]
   exact h5:∀ (ob:Obj) (v':Value) (w5:World),_)
  have HXN:Hid (n / 256 ^ (k+1)=X / 256):=(by rw [hX,Nat.pow_succ,Nat.div_div_eq_div_mul]:n / 256 ^ (k+1)=X / 256)
  clear HX hx ho hB hl hlen hL hLV hX HB
  have hw8:IntKind.u8.wrap (X:Int)=((X % 256:Nat):Int):=by simp [IntKind.wrap,IntKind.signed,IntKind.bits]
  go_upto_region 5 with (at_builtin;refine wpList_append_own _ rfl (.tmp 10) (.tmp 13) 22 rfl B 5 i0 (.int .u8 0) 1 1 Try.underlying22 HI0 hz0 hz1 hz2 rfl (by decide) _ _ _ rfl (howna _) ⟨wr.heap.size,0,none⟩ 1 1 [.int .u8 ((X % 256:Nat):Int)] rfl rfl hqc h1c (by unfold maxLen;omega) (by omega) (by simp;omega) ?_;intro v' w5 hown1 hgrow1 _;obtain ⟨p1,p2⟩:=(show ∀ (ob:Obj) (v':Value) (w5:World),_ from HSTP) _ _ _ hown1 hgrow1;have HP:Hid (w5.ownsRow B 5 1 v' (l ++ eig n (k+1)).length (bvs (l ++ eig n (k+1)))∧Kx B w w5):=(⟨p1,p2⟩:_∧_);clear HSTP hown1 hgrow1 howna hqc h1c p1 p2)
  go_wp2_with fail
  go_roundw
  case rel=>exact ⟨k+1,by go_num,by omega,by rw [show n / 256 ^ (k+1)=X / 256 from HXN];exact congrArg (Value.int .u64) (by omega),HP⟩
  case measure=>simp [intOf];omega
def numb (n:Nat):List Int:=if h:n≤127 then [(n:Int)] else ((n % 128+128:Nat):Int) :: numb (n / 128)
termination_by n
decreasing_by omega
theorem numb_lt {n:Nat} (h:n≤127):numb n = [(n:Int)]:=by rw [numb,dif_pos h]
theorem numb_ge {n:Nat} (h:¬ n≤127):numb n=((n % 128+128:Nat):Int) :: numb (n / 128):=by rw [numb,dif_neg h]
theorem numb_len:∀ (k n:Nat),n < 128 ^ (k+1)→(numb n).length≤k+1
 | 0,n,h=>by rw [numb_lt (by omega)];exact Nat.le_refl _
 | k+1,n,h=>by
  by_cases q:n≤127
  ·rw [numb_lt q];show 1≤_;omega
  ·rw [numb_ge q]
   have h2:n / 128 < 128 ^ (k+1):=by
    rw [Nat.div_lt_iff_lt_mul (by omega)]
    rw [Nat.pow_succ] at h
    exact h
   have:=numb_len k (n / 128) h2
   show (numb (n / 128)).length+1≤_
   omega
theorem numb_ten {n:Nat} (h:n < 18446744073709551616):(numb n).length≤10:=numb_len 9 n (Nat.lt_of_lt_of_le h (by decide))
def sgn (n:Int):Nat:=if n < 0 then (-(n+1)).toNat*2+1 else n.toNat*2
theorem or128:∀ b:Fin 128,(b.val ||| 128)=b.val+128:=by decide
theorem grp (X:Nat) (h:X < 18446744073709551616):bits BinOp.or IntKind.u64 (bits BinOp.and IntKind.u64 (X:Int) 127) 128=((X % 128+128:Nat):Int):=by
 have e1:bits BinOp.and IntKind.u64 (X:Int) 127=((X % 128:Nat):Int):=by
  have:=bits_and_u64_nat X 127 h (by decide)
  rw [show X &&& 127=X % 128 from Nat.and_two_pow_sub_one_eq_mod X 7] at this
  exact this
 rw [e1]
 have e2:=bits_or_u64_nat (X % 128) 128 (by omega) (by decide)
 rw [or128 ⟨X % 128,Nat.mod_lt _ (by decide)⟩] at e2
 exact e2
theorem sp_num {B : Nat} {v : Value} {l : List Int} (n : Nat) (w : World) (h : w.ownsRow B 5 1 v l.length (bvs l)) (hB : B ≤ w.heap.size) (hl : l.length ≤ 1000000000) (hn : n < 18446744073709551616) :
  Calls Try.prog 73 #[v,.int .u64 (n:Int)] w fun e w'=>∃ v',e = .returned v'∧w'.ownsRow B 5 1 v' (l ++ numb n).length (bvs (l ++ numb n))∧Kx B w w':=by
 obtain ⟨E,hE⟩:∃ E,E=l ++ numb n:=⟨_,rfl⟩
 rw [← hE]
 obtain ⟨i0,hi0,hz0,hz1,hz2⟩:=info_parts infoB
 have HI0:Hid (Try.prog.info? 5=some i0):=hi0
 have HS:Hid (w.ownsRow B 5 1 v l.length (bvs l)∧Kx B w w∧l ++ numb n=E):=(⟨h,Kx.refl _ _,hE.symm⟩:_∧_)
 obtain ⟨ad,cap,rfl⟩:=own_shape h
 have HB:Hid (B≤w.heap.size∧l.length≤1000000000∧E.length≤l.length+10):=(⟨hB,hl,by have:=numb_ten hn;rw [hE,List.length_append];omega⟩:_∧_)
 clear h hB hl hi0 hE
 go_enter Try.func73,Try.ntmps73
 go_wp2_with fail
 go_loopw [0,1] (fun s0 s1 wr=>∃ (X:Nat) (k:List Int),s1 = .int .u64 (X:Int)∧X < 18446744073709551616∧Hid (wr.ownsRow B 5 1 s0 k.length (bvs k)∧Kx B w wr∧k ++ numb X=E)) (fun _ s1 _=>(intOf s1).toNat)
 case atStart=>exact ⟨n,l,rfl,hn,HS⟩
 case round =>
  clear HS
  obtain ⟨X,k,rfl,hX1,HX⟩:=hrel
  obtain ⟨ho,hx,he⟩:=(show wr.ownsRow B 5 1 _ k.length (bvs k)∧Kx B w wr∧k ++ numb X=E from HX)
  obtain ⟨ad,cap,rfl⟩:=own_shape ho
  obtain ⟨hB,hl,h10⟩:=(show B≤w.heap.size∧l.length≤1000000000∧E.length≤l.length+10 from HB)
  have hlen:k.length+(numb X).length=E.length:=by rw [← List.length_append,he]
  obtain ⟨L,hL⟩:∃ L,L=k.length:=⟨_,rfl⟩
  obtain ⟨LV,hLV⟩:∃ LV,LV=bvs k:=⟨_,rfl⟩
  have hL1:L≤1000000010:=by omega
  rw [← hL,← hLV] at ho
  rw [← hL]
  have howna:∀ ob:Obj,(wr.alloc ob).ownsRow B 5 1 (.slice ad L cap) L LV:=fun ob=>ho.alloc ob
  have hbs:B≤wr.heap.size:=Nat.le_trans hB hx.size
  have HST:Hid (∀ (y:Int) (ob:Obj) (v':Value) (w5:World),w5.ownsRow B 5 1 v' (L+1) (LV ++ [.int .u8 y])→(wr.alloc ob).grownBy w5 (Value.slice ad L cap).ownBlock→w5.ownsRow B 5 1 v' (k ++ [y]).length (bvs (k ++ [y]))∧Kx B w w5):=(fun y ob v' w5 h5 g5=>by
   refine ⟨?_,hx.trans ((Kx.of_kb (kb_alloc 0 wr ob)).trans (Kx.grown (howna ob) g5))⟩
   have e1:(k ++ [y]).length=L+1:=by rw [hL,List.length_append];rfl
   have e2:bvs (k ++ [y])=LV ++ [.int .u8 y]:=by rw [hLV];unfold bvs;rw [List.map_append];rfl
   rw [e1,e2]
   exact h5:∀ (y:Int) (ob:Obj) (v':Value) (w5:World),_)
  by_cases hs:X≤127
  ·have hsI:¬ (127:Int) < (X:Int):=by omega
   have HE:Hid (k ++ [(X:Int)]=E):=by
    rw [numb_lt hs] at he
    exact he
   have hqc:∀ (j:Nat) (u:Value),([.int .u8 (X:Int)]:List Value)[j]? = some u→(wr.alloc (.cells #[.int .u8 (X:Int)] 5)).cell? ((⟨wr.heap.size,0,none⟩:Addr).add j)=some u:=qr_cells wr #[.int .u8 (X:Int)] 5 [.int .u8 (X:Int)] rfl
   have h1c:∀ u ∈ ([.int .u8 (X:Int)]:List Value),u.oneCell'=true:=by intro u hu;simp at hu;subst hu;rfl
   have hXm:(X:Int) % 256=(X:Int):=by omega
   clear HX hx ho hB hl hlen hL hLV HB he h10
   go_wp2_with (at_builtin;refine wpList_append_own _ rfl (.tmp 16) (.tmp 19) 22 rfl B 5 i0 (.int .u8 0) 1 1 Try.underlying22 HI0 hz0 hz1 hz2 rfl (by decide) _ _ _ rfl (howna _) ⟨wr.heap.size,0,none⟩ 1 1 [.int .u8 (X:Int)] rfl rfl hqc h1c (by unfold maxLen;omega) (by omega) (by simp;omega) ?_;intro v' w5 hown1 hgrow1 _;obtain ⟨p1,p2⟩:=(show ∀ (y:Int) (ob:Obj) (v':Value) (w5:World),_ from HST) _ _ _ _ hown1 hgrow1;have HP:Hid (w5.ownsRow B 5 1 v' (k ++ [(X:Int)]).length (bvs (k ++ [(X:Int)]))∧Kx B w w5):=(⟨p1,p2⟩:_∧_);clear HST hown1 hgrow1 howna hqc h1c p1 p2)
   go_ret
   rw [← (show k ++ [(X:Int)] = _ from HE)]
   exact ⟨_,rfl,HP⟩
  have hsI:(127:Int) < (X:Int):=by omega
  have HE:Hid (k ++ [((X % 128+128:Nat):Int)] ++ numb (X / 128)=E):=by
   rw [numb_ge hs] at he
   show k ++ [((X % 128+128:Nat):Int)] ++ numb (X / 128)=E
   rw [← he,List.append_assoc]
   rfl
  obtain ⟨Y,hY⟩:∃ Y:Int,Y=((X % 128+128:Nat):Int):=⟨_,rfl⟩
  have hbit:bits BinOp.or IntKind.u64 (bits BinOp.and IntKind.u64 (X:Int) 127) 128 % 256=Y:=by rw [grp X hX1,hY];omega
  rw [← hY] at HE
  have hqc:∀ (j:Nat) (u:Value),([.int .u8 Y]:List Value)[j]? = some u→(wr.alloc (.cells #[.int .u8 Y] 5)).cell? ((⟨wr.heap.size,0,none⟩:Addr).add j)=some u:=qr_cells wr #[.int .u8 Y] 5 [.int .u8 Y] rfl
  have h1c:∀ u ∈ ([.int .u8 Y]:List Value),u.oneCell'=true:=by intro u hu;simp at hu;subst hu;rfl
  clear HX hx ho hB hl hlen hL hLV HB he h10 hY
  go_upto_region 3 with (at_builtin;refine wpList_append_own _ rfl (.tmp 7) (.tmp 12) 22 rfl B 5 i0 (.int .u8 0) 1 1 Try.underlying22 HI0 hz0 hz1 hz2 rfl (by decide) _ _ _ rfl (howna _) ⟨wr.heap.size,0,none⟩ 1 1 [.int .u8 Y] rfl rfl hqc h1c (by unfold maxLen;omega) (by omega) (by simp;omega) ?_;intro v' w5 hown1 hgrow1 _;obtain ⟨p1,p2⟩:=(show ∀ (y:Int) (ob:Obj) (v':Value) (w5:World),_ from HST) _ _ _ _ hown1 hgrow1;have HP:Hid (w5.ownsRow B 5 1 v' (k ++ [Y]).length (bvs (k ++ [Y]))∧Kx B w w5):=(⟨p1,p2⟩:_∧_);clear HST hown1 hgrow1 howna hqc h1c p1 p2)
  clear hbit
  go_wp2_with fail
  go_roundw
  case rel=>exact ⟨X / 128,k ++ [Y],congrArg (Value.int .u64) (by omega),by omega,⟨(show _∧_ from HP).1,(show _∧_ from HP).2,HE⟩⟩
  case measure=>simp [intOf];omega
theorem sp_signed (n:Int) (h1 : -9223372036854775808≤n) (h2:n≤9223372036854775807) (w:World):Calls Try.prog 99 #[.int .i64 n] w fun e w'=>e = .returned (.int .u64 (sgn n:Int))∧w'=w:=by
 by_cases h:n < 0
 ·have e:(sgn n:Int) = -(n+1)*2+1:=by unfold sgn;rw [if_pos h];omega
  rw [e]
  go_enter Try.func99,Try.ntmps99
  go_wp2_with fail
  go_ret
  exact ⟨by congr 2;try omega,rfl⟩
 ·have e:(sgn n:Int)=n*2:=by unfold sgn;rw [if_neg h];omega
  rw [e]
  have h0 : 0≤n:=by omega
  go_enter Try.func99,Try.ntmps99
  go_wp2_with fail
  go_ret
  exact ⟨by congr 2;try omega,rfl⟩
theorem sgn_lt {n:Int} (h1 : -9223372036854775808≤n) (h2:n≤9223372036854775807):sgn n < 18446744073709551616:=by
 unfold sgn
 split <;> omega
end Go.Proofs.Ytamcnmnaadpfoaa.Fo
