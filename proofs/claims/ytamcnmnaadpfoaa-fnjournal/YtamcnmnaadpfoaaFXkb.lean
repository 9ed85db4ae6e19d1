import Derived.Test.YtamcnmnaadpfoaaFXdn
import Derived.Test.YtamcnmnaadpfoaaFGdf
import Derived.Test.YtamcnmnaadpfoaaFUag
namespace Go.Proofs.Ytamcnmnaadpfoaa.Fo
open Go.ChangeShapes Go.WideShapes Go.ChangeAt Go.RowKit
set_option linter.unusedVariables false
set_option maxRecDepth 100000
theorem TH.kg {b B:Nat} {W W':World} {u:Value} {n:Nat} {F:Nat→Td} {V:Nat→Value} (h:TH B W u n F V) (hb:b < B) (k:Kg b W W'):TH B W' u n F V :=
 ⟨own_keep h.nn (fun g e=>k.block g (h.nn.lt g e).2 (by have:=(h.nn.lt g e).1;omega)),fun q hq=>own_keep (h.vs q hq) (fun g e=>k.block g ((h.vs q hq).lt g e).2 (by have:=((h.vs q hq).lt g e).1;omega))⟩
theorem TH.at {B:Nat} {W:World} {u:Value} {n:Nat} {F:Nat→Td} {V:Nat→Value} (h:TH B W u n F V) (hn : 0 < n):∃ g cap cur,u = .slice (some ⟨g,0,none⟩) n cap∧B≤g∧g < W.heap.size∧n≤cap∧W.heap[g]? = some (.cells cur 50 (0,0))∧(∀ k,k < n→W.cell? ⟨g,k*2,none⟩=some (.int .i64 (F k).t)∧W.cell? ⟨g,k*2+1,none⟩=some (V k)):=by
 obtain ⟨g,cap,cur,e,_,hB,hz,hc,hb,hcell⟩:=own_blk h.nn hn
 refine ⟨g,cap,cur,e,hB,hz,hc,hb,fun k hk=>⟨?_,?_⟩⟩
 ·exact (hcell (k*2) (by omega)).trans (tcl_at F V (t:=0) (by omega) hk)
 ·exact (hcell (k*2+1) (by omega)).trans (tcl_at F V (t:=1) (by omega) hk)
def updV (F:Nat→Td) (V:Nat→Value) (g i:Nat) (x:Gv) (q:Nat):Td:=⟨(F q).t,(F q).c,fun j=>if (V q).ownBlock=some g∧j=i then x else (F q).C j⟩
def updT (F:Nat→Td) (k:Nat) (t:Int) (q:Nat):Td:=⟨if q=k then t else (F q).t,(F q).c,(F q).C⟩
theorem TH.putV {B:Nat} {W W2:World} {u:Value} {n:Nat} {F:Nat→Td} {V:Nat→Value} (h:TH B W u n F V) {g i:Nat} {cur:Array Value} {x:Gv} (hb:W.heap[g]? = some (.cells cur 41 (0,0))) (ho:∀ q,q ≠ g→W2.heap[q]? = W.heap[q]?) (hx:∀ t,t < 4→W2.cell? ⟨g,i*4+t,none⟩=(gcl x)[t]?) (hy:∀ j t,t < 4→j ≠ i→W2.cell? ⟨g,j*4+t,none⟩=W.cell? ⟨g,j*4+t,none⟩):RowT 0 W2 u n (updV F V g i x):=by
 obtain ⟨ad,cap,rfl⟩:=own_shape h.nn
 refine ⟨ad,cap,rfl,fun hn=>?_⟩
 obtain ⟨gn,cap',cur',e,hB,hz,hc,hbn,hcell⟩:=h.at hn
 injection e with e1 e2 e3
 subst e1 e3
 have hgn:gn ≠ g:=fun e=>by
  rw [e,hb] at hbn
  injection hbn with q
  injection q with _ q _
  revert q;decide
 have ec:∀ o,W2.cell? ⟨gn,o,none⟩=W.cell? ⟨gn,o,none⟩:=fun o=>by
  unfold World.cell?
  rw [ho gn hgn]
 refine ⟨_,rfl,hc,Nat.zero_le _,fun k hk=>⟨V k,⟨?_,?_⟩,?_⟩⟩
 ·rw [addr0,ec]
  exact (hcell k hk).1
 ·rw [addr0]
  exact (ec _).trans (hcell k hk).2
 ·obtain ⟨p,c,hp⟩:=own_shape (h.vs k hk)
  refine ⟨p,c,hp,fun hc0=>?_⟩
  obtain ⟨gk,capk,curk,ek,eo,hBk,hzk,hck,hbk,hcell2⟩:=own_blk (h.vs k hk) hc0
  rw [hp] at ek
  injection ek with q1 q2 q3
  subst q1 q3
  refine ⟨_,rfl,hck,Nat.zero_le _,fun j hj=>?_⟩
  rw [addr0]
  show CelV W2 _ (if (V k).ownBlock=some g∧j=i then x else (F k).C j)
  refine CelV.of (fun t ht=>?_)
  have base:W.cell? ⟨gk,j*4+t,none⟩=(gcl ((F k).C j))[t]?:=(hcell2 _ (by show j*4+t < (F k).c*4;have:j < (F k).c:=hj;omega)).trans (vls_at _ ht hj)
  by_cases e:gk=g
  ·subst e
   by_cases e2:j=i
   ·subst e2
    rw [if_pos ⟨eo,rfl⟩]
    exact hx t ht
   ·rw [if_neg (fun q=>e2 q.2),hy j t ht e2]
    exact base
  ·rw [if_neg (fun q=>e (Option.some.inj (eo.symm.trans q.1)))]
   unfold World.cell? at base ⊢
   rw [ho gk e]
   exact base
theorem TH.putT {B:Nat} {W W2:World} {n k cap g:Nat} {cur:Array Value} {F:Nat→Td} {V:Nat→Value} {t:Int} (h:TH B W (.slice (some ⟨g,0,none⟩) n cap) n F V) (hk:k < n) (hb:W.heap[g]? = some (.cells cur 50 (0,0))) (ho:∀ q,q ≠ g→W2.heap[q]? = W.heap[q]?) (hx:W2.cell? ⟨g,k*2,none⟩=some (.int .i64 t)) (hy:∀ j,j ≠ k*2→W2.cell? ⟨g,j,none⟩=W.cell? ⟨g,j,none⟩):RowT 0 W2 (.slice (some ⟨g,0,none⟩) n cap) n (updT F k t):=by
 refine ⟨_,cap,rfl,fun hn=>?_⟩
 obtain ⟨gn,cap',cur',e,hB,hz,hc,hbn,hcell⟩:=h.at hn
 injection e with e1 e2 e3
 injection e1 with e1
 injection e1 with e1 _ _
 subst e1 e3
 refine ⟨_,rfl,hc,Nat.zero_le _,fun q hq=>⟨V q,⟨?_,?_⟩,?_⟩⟩
 ·rw [addr0]
  show W2.cell? _=some (.int .i64 (if q=k then t else (F q).t))
  by_cases e:q=k
  ·subst e
   rw [if_pos rfl]
   exact hx
  ·rw [if_neg e,hy _ (by omega)]
   exact (hcell q hq).1
 ·rw [addr0]
  exact (hy (q*2+1) (by omega)).trans (hcell q hq).2
 ·show RowW 0 W2 (V q) (F q).c (F q).C
  refine (own_vls (own_keep (h.vs q hq) (fun g2 e2=>ho g2 (own_ty (h.vs q hq) hb (by decide) e2)))).mono (Nat.zero_le _)
end Go.Proofs.Ytamcnmnaadpfoaa.Fo
