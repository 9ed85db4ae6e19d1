import Derived.Test.YtamcnmnaadpfoaaFPah
import Derived.Test.YtamcnmnaadpfoaaFJtc
import Derived.Test.YtamcnmnaadpfoaaFUac
import Derived.Deep.CutRange
import Derived.Deep.AppendLies
set_option maxHeartbeats 4000000
namespace Go.Proofs.Ytamcnmnaadpfoaa.Fo
open Go.ChangeShapes Go.WideShapes Go.ChangeAt Go.RowKit
set_option linter.unusedVariables false
set_option maxRecDepth 100000
section
variable {P:Program} {ops:Array Oper} {Q:Exit→Act→World→Prop} {md:Region.Mode} {S:World→Prop} {z:Nat}
theorem AnyL.two (i j : Nat) {l : List Oper} {oi oj : Oper} {k : Nat} {listed : Array Bool} {a : Act} {w : World} (hi : l[i]? = some oi) (hj : l[j]? = some oj) (hr : Region.ready md l.toArray listed = [i, j]) (hwi : Region.wanted oi (yielded l.toArray a.tmps) = true) (hwj : Region.wanted oj (yielded l.toArray a.tmps) = true)
  (h1:∀ K:Act→World→Prop,Shut (∀ a' w',(i ≠ z→S w')→AnyL P md l.toArray Q S z k (listed.setIfInBounds i true) a' w'→K a' w')→Oper.wp P oi a w K Q)
  (h2:∀ K:Act→World→Prop,Shut (∀ a' w',(j ≠ z→S w')→AnyL P md l.toArray Q S z k (listed.setIfInBounds j true) a' w'→K a' w')→Oper.wp P oj a w K Q):AnyL P md l.toArray Q S z (k+1) listed a w:=by
 refine ⟨fun h=>absurd h (by rw [hr];simp),fun m hm=>?_⟩
 rw [hr] at hm
 have hm':m=i∨m=j:=by simpa using hm
 rcases hm' with rfl | rfl
 ·unfold wpOp
  have hi':l.toArray[m]? = some oi:=by simpa using hi
  simp only [hi',hwi,if_true]
  exact Or.inl (h1 _ (fun a' w' h1 h2=>⟨h1,h2⟩))
 ·unfold wpOp
  have hj':l.toArray[m]? = some oj:=by simpa using hj
  simp only [hj',hwj,if_true]
  exact Or.inl (h2 _ (fun a' w' h1 h2=>⟨h1,h2⟩))
end
def vls (C:Nat→Gv):Nat→List Value
 | 0=>[]
 | j+1=>vls C j ++ gcl (C j)
theorem vls_len (C:Nat→Gv):∀ j,(vls C j).length=j*4
 | 0=>rfl
 | j+1=>by
  show (vls C j ++ gcl (C j)).length = _
  rw [List.length_append,vls_len C j]
  show j*4+4 = _
  omega
theorem vls_at (C:Nat→Gv) {k t:Nat} (ht:t < 4):∀ {j},k < j→(vls C j)[k*4+t]? = (gcl (C k))[t]?
 | 0,h=>by omega
 | j+1,h=>by
  show (vls C j ++ gcl (C j))[k*4+t]? = _
  by_cases e:k=j
  ·subst e
   rw [List.getElem?_append_right (by rw [vls_len];omega),vls_len]
   congr 1
   omega
  ·rw [List.getElem?_append_left (by rw [vls_len];omega)]
   exact vls_at C ht (by omega)
theorem own_vls {W:World} {B:Nat} {v:Value} {C:Nat→Gv} {c:Nat} (h:W.ownsRow B 41 4 v c (vls C c)):RowW B W v c C:=by
 obtain ⟨ad,cap,rfl⟩:=own_shape h
 refine ⟨ad,cap,rfl,fun hn=>?_⟩
 obtain ⟨g,cap',e,hB,hc,hcell⟩:=own_cells h hn
 injection e with e1 e2 e3
 subst e1
 subst e3
 refine ⟨_,rfl,hc,hB,fun i hi=>?_⟩
 rw [addr0]
 exact CelV.of (fun t ht=>(hcell _ (by omega)).trans (vls_at C ht hi))
def tcl (F:Nat→Td) (V:Nat→Value):Nat→List Value
 | 0=>[]
 | j+1=>tcl F V j ++ [.int .i64 (F j).t,V j]
theorem tcl_len (F:Nat→Td) (V:Nat→Value):∀ j,(tcl F V j).length=j*2
 | 0=>rfl
 | j+1=>by
  show (tcl F V j ++ [.int .i64 (F j).t,V j]).length = _
  rw [List.length_append,tcl_len F V j]
  show j*2+2 = _
  omega
theorem tcl_at (F:Nat→Td) (V:Nat→Value) {k t:Nat} (ht:t < 2):∀ {j},k < j→(tcl F V j)[k*2+t]? = ([.int .i64 (F k).t,V k]:List Value)[t]?
 | 0,h=>by omega
 | j+1,h=>by
  show (tcl F V j ++ [.int .i64 (F j).t,V j])[k*2+t]? = _
  by_cases e:k=j
  ·subst e
   rw [List.getElem?_append_right (by rw [tcl_len];omega),tcl_len]
   congr 1
   omega
  ·rw [List.getElem?_append_left (by rw [tcl_len];omega)]
   exact tcl_at F V ht (by omega)
theorem tcl_congr {F G:Nat→Td} {V U:Nat→Value}:∀ {j},(∀ k,k < j→F k=G k∧V k=U k)→tcl F V j=tcl G U j
 | 0,_=>rfl
 | j+1,h=>by
  show tcl F V j ++ [.int .i64 (F j).t,V j]=tcl G U j ++ [.int .i64 (G j).t,U j]
  rw [tcl_congr (fun k hk=>h k (by omega)),(h j (by omega)).1,(h j (by omega)).2]
theorem tcl_add (F:Nat→Td) (V:Nat→Value) (a:Nat):∀ b,tcl F V (a+b)=tcl F V a ++ tcl (fun k=>F (a+k)) (fun k=>V (a+k)) b
 | 0=>by show tcl F V a=tcl F V a ++ [];rw [List.append_nil]
 | b+1=>by
  show tcl F V (a+b) ++ [.int .i64 (F (a+b)).t,V (a+b)]=tcl F V a ++ (tcl (fun k=>F (a+k)) (fun k=>V (a+k)) b ++ [.int .i64 (F (a+b)).t,V (a+b)])
  rw [tcl_add F V a b,List.append_assoc]
structure TH (B:Nat) (W:World) (u:Value) (n:Nat) (F:Nat→Td) (V:Nat→Value):Prop where
 nn:W.ownsRow B 50 2 u n (tcl F V n)
 vs:∀ k,k < n→W.ownsRow B 41 4 (V k) (F k).c (vls (F k).C (F k).c)
theorem TH.row {B:Nat} {W:World} {u:Value} {n:Nat} {F:Nat→Td} {V:Nat→Value} (h:TH B W u n F V):RowT B W u n F:=by
 have hn':=h.nn
 obtain ⟨ad,cap,rfl⟩:=own_shape hn'
 refine ⟨ad,cap,rfl,fun hn=>?_⟩
 obtain ⟨g,cap',e,hB,hc,hcell⟩:=own_cells hn' hn
 injection e with e1 e2 e3
 subst e1
 subst e3
 refine ⟨_,rfl,hc,hB,fun k hk=>?_⟩
 rw [addr0]
 exact ⟨V k,CelT.of (fun t ht=>(hcell _ (by omega)).trans (tcl_at F V ht hk)),own_vls (h.vs k hk)⟩
theorem own_kb {W W':World} {B t s n:Nat} {v:Value} {l:List Value} (h:W.ownsRow B t s v n l) (k:Kb 0 W W'):W'.ownsRow B t s v n l:=own_keep h (fun g e=>k.block g (Nat.zero_le _) (h.lt g e).2)
theorem TH.kb {B:Nat} {W W':World} {u:Value} {n:Nat} {F:Nat→Td} {V:Nat→Value} (h:TH B W u n F V) (k:Kb 0 W W'):TH B W' u n F V:=⟨own_kb h.nn k,fun i hi=>own_kb (h.vs i hi) k⟩
theorem TH.base {B B':Nat} {W:World} {u:Value} {n:Nat} {F:Nat→Td} {V:Nat→Value} (h:TH B W u n F V) (hb:B'≤B):TH B' W u n F V:=⟨own_base h.nn hb,fun i hi=>own_base (h.vs i hi) hb⟩
theorem own_new (w:World) (c:Array Value) (t s n:Nat) (B:Nat) (hB:B≤w.heap.size) (hn:n≤1000000) (hc:c.size=n*s) {l:List Value} (hl:c.toList=l):(w.alloc (.cells c t)).ownsRow B t s (.slice (some ⟨w.heap.size,0,none⟩) n n) n l:=by
 subst hl
 refine ⟨by simpa using hc,.inr ⟨w.heap.size,n,c,rfl,hB,alloc_new _ _ _,Nat.le_refl _,by unfold maxLen;omega,hc,?_⟩⟩
 rw [← hc,← Array.length_toList]
 exact List.take_length
theorem TH.push {B:Nat} {W W8 W9:World} {u u':Value} {i:Nat} {F:Nat→Td} {V:Nat→Value} {x:Value} (h:TH B W u i F V) (k:Kb 0 W W8) (hx:W8.ownsRow B 41 4 x (F i).c (vls (F i).C (F i).c)) (ho:W9.ownsRow B 50 2 u' (i+1) (tcl F V i ++ [.int .i64 (F i).t,x])) (hg:W8.grownBy W9 u.ownBlock):TH B W9 u' (i+1) F (fun k=>if k=i then x else V k):=by
 have hu:=own_kb h.nn k
 have kp:∀ {v:Value} {c:Nat} {l:List Value},W8.ownsRow B 41 4 v c l→W9.ownsRow B 41 4 v c l:=fun {v c l} hv=>own_keep hv (fun g e=>hg.block g (hv.lt g e).2 (own_ne hv hu (by decide) e))
 refine ⟨?_,fun j hj=>?_⟩
 ·show W9.ownsRow B _ 2 u' (i+1) (tcl F (fun k=>if k=i then x else V k) i ++ [.int .i64 (F i).t,if i=i then x else V i])
  rw [if_pos rfl,tcl_congr (G:=F) (U:=V) (fun k hk=>⟨rfl,if_neg (by omega)⟩)]
  exact ho
 ·by_cases e:j=i
  ·subst e
   rw [if_pos rfl]
   exact kp hx
  ·rw [if_neg e]
   exact kp (own_kb (h.vs j (by omega)) k)
structure Jd where
 n:Nat
 S:Nat→ByteArray
 p:Int
 q:Int
 m:Nat
 T:Nat→Gv
def nmV (z:Int):Gv:=⟨1,z,⟨#[]⟩,0⟩
def txV (s:ByteArray):Gv:=⟨3,0,s,0⟩
def ndV (r:Int):Gv:=⟨4,0,⟨#[]⟩,r⟩
def four (a b c d:Gv) (j:Nat):Gv:=if j=0 then a else if j=1 then b else if j=2 then c else d
def rtT (p q:Int):Td:=⟨1,4,four (nmV p) (nmV q) (ndV 1) (ndV 2)⟩
def lnT (n:Nat) (S:Nat→ByteArray):Td:=⟨2,n,fun j=>txV (S j)⟩
def skT (m:Nat):Td:=⟨3,m,fun j=>ndV (3+(j:Int))⟩
def stT (s:Gv):Td:=⟨4,4,four (nmV s.k) (nmV s.m) (nmV s.r) (txV s.x)⟩
def jF (J:Jd) (i:Nat):Td:=if i=0 then rtT J.p J.q else if i=1 then lnT J.n J.S else if i=2 then skT J.m else stT (J.T (i - 3))
theorem jF_st (J:Jd) (i:Nat):jF J (3+i)=stT (J.T i):=by
 unfold jF
 rw [if_neg (by omega),if_neg (by omega),if_neg (by omega),show 3+i - 3=i by omega]
def Jok (J:Jd):Prop:=J.n≤200∧J.m≤20∧(-1≤J.p∧J.p≤100000)∧(0≤J.q∧J.q≤1000)∧(∀ i,i < J.n→(J.S i).size≤4000)∧∀ i,i < J.m→StP (J.T i).k (J.T i).m (J.T i).r (J.T i).x.size
noncomputable def jim (J:Jd):List Int:=if dc (Jok J)=true then pck (3+J.m) (jF J) (ndV 0) else []
theorem four_x (a b c d:Gv) (j:Nat):(four a b c d j)=a∨(four a b c d j)=b∨(four a b c d j)=c∨(four a b c d j)=d:=by
 unfold four
 split
 ·exact .inl rfl
 ·split
  ·exact .inr (.inl rfl)
  ·split
   ·exact .inr (.inr (.inl rfl))
   ·exact .inr (.inr (.inr rfl))
theorem jok_vals {J:Jd} (h:Jok J):∀ i,i < 3+J.m→(jF J i).c≤200∧∀ j,j < (jF J i).c→((jF J i).C j).x.size≤4000 ∧ -9223372036854775808≤((jF J i).C j).m∧((jF J i).C j).m≤9223372036854775807:=by
 obtain ⟨h1,h2,h3,h4,h5,h6⟩:=h
 have hnm:∀ z:Int,-1000000≤z→z≤1000000→(nmV z).x.size≤4000 ∧ -9223372036854775808≤(nmV z).m∧(nmV z).m≤9223372036854775807:=fun z h1 h2=>⟨by show 0≤4000;omega,by show -9223372036854775808≤z;omega,by show z≤9223372036854775807;omega⟩
 have hnd:∀ z:Int,(ndV z).x.size≤4000 ∧ -9223372036854775808≤(ndV z).m∧(ndV z).m≤9223372036854775807:=fun z=>⟨by show 0≤4000;omega,by show -9223372036854775808≤(0:Int);omega,by show (0:Int)≤9223372036854775807;omega⟩
 have htx:∀ s:ByteArray,s.size≤4000→(txV s).x.size≤4000 ∧ -9223372036854775808≤(txV s).m∧(txV s).m≤9223372036854775807:=fun s hs=>⟨hs,by show -9223372036854775808≤(0:Int);omega,by show (0:Int)≤9223372036854775807;omega⟩
 intro i hi
 unfold jF
 by_cases e0:i=0
 ·rw [if_pos e0]
  refine ⟨by show 4≤200;omega,fun j hj=>?_⟩
  show (four (nmV J.p) (nmV J.q) (ndV 1) (ndV 2) j).x.size≤4000∧_≤(four (nmV J.p) (nmV J.q) (ndV 1) (ndV 2) j).m∧(four (nmV J.p) (nmV J.q) (ndV 1) (ndV 2) j).m≤_
  rcases four_x (nmV J.p) (nmV J.q) (ndV 1) (ndV 2) j with e | e | e | e <;> rw [e]
  ·exact hnm _ (by omega) (by omega)
  ·exact hnm _ (by omega) (by omega)
  ·exact hnd _
  ·exact hnd _
 rw [if_neg e0]
 by_cases e1:i=1
 ·rw [if_pos e1]
  exact ⟨h1,fun j hj=>htx _ (h5 j hj)⟩
 rw [if_neg e1]
 by_cases e2:i=2
 ·rw [if_pos e2]
  exact ⟨by show J.m≤200;omega,fun j hj=>hnd _⟩
 rw [if_neg e2]
 refine ⟨by show 4≤200;omega,fun j hj=>?_⟩
 have hs:=h6 (i - 3) (by omega)
 generalize J.T (i - 3)=s at hs
 show (four (nmV s.k) (nmV s.m) (nmV s.r) (txV s.x) j).x.size≤4000∧_≤(four (nmV s.k) (nmV s.m) (nmV s.r) (txV s.x) j).m∧(four (nmV s.k) (nmV s.m) (nmV s.r) (txV s.x) j).m≤_
 unfold StP at hs
 rcases four_x (nmV s.k) (nmV s.m) (nmV s.r) (txV s.x) j with e | e | e | e <;> rw [e]
 ·exact hnm _ (by omega) (by omega)
 ·exact hnm _ (by omega) (by omega)
 ·exact hnm _ (by omega) (by omega)
 ·exact htx _ (by omega)
theorem jok_bg {J:Jd} (h:Jok J):Bg (3+J.m) (jF J) (ndV 0):=by
 have h2:=h.2.1
 refine ⟨by omega,by show 0≤1048576;omega,fun i hi=>?_,fun i hi j hj=>?_⟩
 ·have:=(jok_vals h i hi).1;omega
 ·have:=((jok_vals h i hi).2 j hj).1;omega
theorem jok_rg {J:Jd} (h:Jok J):Rg (3+J.m) (jF J) (ndV 0) :=
 ⟨⟨by show -9223372036854775808≤(0:Int);omega,by show (0:Int)≤9223372036854775807;omega⟩,fun i hi j hj=>((jok_vals h i hi).2 j hj).2⟩
theorem im_num (z:Int) (w:World):Calls Try.prog 65 #[.int .i64 z] w fun e w'=>e = .returned (.agg #[.int .i64 1,.int .i64 z,.string ⟨#[]⟩,.int .i64 0])∧Kb 0 w w':=by
 go_enter Try.func65,Try.ntmps65
 go_wp2_with fail
 refine bodyPost_ret (by simp [results,Try.results65,go_sem];rfl) rfl ?_
 refine ⟨rfl,?_⟩
 repeat (first | exact kb_alloc _ _ _ | exact (Kb.refl _ _).alloc _ | (refine Kb.setCell ?_ _ (.inr (Nat.le_refl _)) _))
theorem im_node (z:Int) (w:World):Calls Try.prog 66 #[.int .i64 z] w fun e w'=>e = .returned (.agg #[.int .i64 4,.int .i64 0,.string ⟨#[]⟩,.int .i64 z])∧Kb 0 w w':=by
 go_enter Try.func66,Try.ntmps66
 go_wp2_with fail
 refine bodyPost_ret (by simp [results,Try.results66,go_sem];rfl) rfl ?_
 refine ⟨rfl,?_⟩
 repeat (first | exact kb_alloc _ _ _ | exact (Kb.refl _ _).alloc _ | (refine Kb.setCell ?_ _ (.inr (Nat.le_refl _)) _))
theorem im_txt (x:ByteArray) (w:World):Calls Try.prog 67 #[.string x] w fun e w'=>e = .returned (.agg #[.int .i64 3,.int .i64 0,.string x,.int .i64 0])∧Kb 0 w w':=by
 go_enter Try.func67,Try.ntmps67
 go_wp2_with fail
 refine bodyPost_ret (by simp [results,Try.results67,go_sem];rfl) rfl ?_
 refine ⟨rfl,?_⟩
 repeat (first | exact kb_alloc _ _ _ | exact (Kb.refl _ _).alloc _ | (refine Kb.setCell ?_ _ (.inr (Nat.le_refl _)) _))
theorem sp_num59 (z:Int) (w:World):Calls Try.prog 29 #[.int .i64 z] w fun e w'=>e = .returned (.agg #[.int .i64 1,.int .i64 z,.string ⟨#[]⟩,.int .i64 0])∧Kb 0 w w':=by
 go_enter Try.func29,Try.ntmps29
 go_wp2_with fail
 refine bodyPost_ret (by simp [results,Try.results29,go_sem];rfl) rfl ?_
 refine ⟨rfl,?_⟩
 repeat (first | exact kb_alloc _ _ _ | exact (Kb.refl _ _).alloc _ | (refine Kb.setCell ?_ _ (.inr (Nat.le_refl _)) _))
theorem sp_txt59 (x:ByteArray) (w:World):Calls Try.prog 30 #[.string x] w fun e w'=>e = .returned (.agg #[.int .i64 3,.int .i64 0,.string x,.int .i64 0])∧Kb 0 w w':=by
 go_enter Try.func30,Try.ntmps30
 go_wp2_with fail
 refine bodyPost_ret (by simp [results,Try.results30,go_sem];rfl) rfl ?_
 refine ⟨rfl,?_⟩
 repeat (first | exact kb_alloc _ _ _ | exact (Kb.refl _ _).alloc _ | (refine Kb.setCell ?_ _ (.inr (Nat.le_refl _)) _))
theorem blk_lt {W:World} {g:Nat} {o:Obj} (h:W.heap[g]? = some o):g < W.heap.size:=(Array.getElem?_eq_some_iff.1 h).1
theorem blk_kb {W W':World} {g:Nat} {o:Obj} (h:W.heap[g]? = some o) (k:Kb 0 W W'):W'.heap[g]? = some o:=(k.block g (Nat.zero_le _) (blk_lt h)).trans h
structure LS (w0:World) (L:Nat) (t:Int) (C:Nat→Gv) (i:Nat) (v:Value) (wr:World):Prop where
 kg:Kg L w0 wr
 lb:wr.heap[L]? = some (.cells #[.int .i64 t,v] 50 (0,0))
 ow:wr.ownsRow w0.heap.size 41 4 v i (vls C i)
 lt:L < w0.heap.size
theorem LS.kb {w0 wr w6:World} {L i:Nat} {t:Int} {C:Nat→Gv} {v:Value} (h:LS w0 L t C i v wr) (k:Kb 0 wr w6):LS w0 L t C i v w6 :=
 ⟨h.kg.trans (Kg.of_kb k),blk_kb h.lb k,own_kb h.ow k,h.lt⟩
theorem LS.new {w0:World} {L:Nat} {t:Int} {C:Nat→Gv} (h:w0.heap[L]? = some (.cells #[.int .i64 t,.slice none 0 0] 50 (0,0))):LS w0 L t C 0 (.slice none 0 0) w0 :=
 ⟨⟨rfl,rfl,Nat.le_refl _,fun _ _ _=>rfl⟩,h,World.ownsRow_nil _ _ _ _,blk_lt h⟩
theorem LS.grown {w0 wr w8:World} {L i:Nat} {t:Int} {C:Nat→Gv} {v:Value} (h:LS w0 L t C i v wr) (hg:wr.grownBy w8 v.ownBlock):Kg L w0 w8∧w8.heap[L]? = some (.cells #[.int .i64 t,v] 50 (0,0)):=by
 have hlt:=h.lt
 have hs:=h.kg.size
 have hne:∀ k,k < w0.heap.size→some k ≠ v.ownBlock:=fun k hk e=>by
  have:=(h.ow.lt k e.symm).1
  omega
 refine ⟨⟨hg.os.trans h.kg.os,hg.output.trans h.kg.output,Nat.le_trans hs hg.size,fun k hk hkL=>(hg.block k (by omega) (hne k hk)).trans (h.kg.block k hk hkL)⟩,(hg.block L (by omega) (hne L hlt)).trans h.lb⟩
theorem LS.push {w0 wr w8:World} {L i:Nat} {t:Int} {C:Nat→Gv} {v v':Value} (h:LS w0 L t C i v wr) (ho:w8.ownsRow w0.heap.size 41 4 v' (i+1) (vls C i ++ gcl (C i))) (hg:wr.grownBy w8 v.ownBlock):LS w0 L t C (i+1) v' (w8.setCell ⟨L,1,none⟩ v'):=by
 obtain ⟨hk,hb⟩:=h.grown hg
 have hlt:=h.lt
 refine ⟨⟨hk.os,hk.output,by simpa using hk.size,fun k h1 h2=>(Below.heap_setCell _ _ _ _ h2).trans (hk.block k h1 h2)⟩,set_known _ hb,own_keep ho (fun g e=>Below.heap_setCell _ _ _ _ (by have:=(ho.lt g e).1;show g ≠ L;omega)),hlt⟩
theorem LS.kbo {w w0 wr:World} {L i:Nat} {t:Int} {C:Nat→Gv} {v:Value} (h:LS w0 L t C i v wr) (k:Kb 0 w w0) (hL:w.heap.size≤L):Kb 0 w wr :=
 ⟨h.kg.os.trans k.os,h.kg.output.trans k.output,Nat.le_trans k.size h.kg.size,fun q _ hq=>(h.kg.block q (Nat.lt_of_lt_of_le hq k.size) (by omega)).trans (k.block q (Nat.zero_le _) hq)⟩
structure PS (w0:World) (L:Nat) (C:Nat→Gv) (F:Nat→Td) (i:Nat) (v u:Value) (V:Nat→Value) (wr:World):Prop where
 ls:LS w0 L 3 C i v wr
 th:TH w0.heap.size wr u i F V
 dv:∀ k,k < i→∀ g,(V k).ownBlock=some g→v.ownBlock ≠ some g
structure PH (w0:World) (L:Nat) (C:Nat→Gv) (F:Nat→Td) (i:Nat) (v u:Value) (V:Nat→Value) (wr:World):Prop where
 ls:LS w0 L 3 C (i+1) v wr
 th:TH w0.heap.size wr u i F V
 dv:∀ k,k < i→∀ g,(V k).ownBlock=some g→v.ownBlock ≠ some g
theorem PS.kb {w0 wr w6:World} {L i:Nat} {C:Nat→Gv} {F:Nat→Td} {v u:Value} {V:Nat→Value} (h:PS w0 L C F i v u V wr) (k:Kb 0 wr w6):PS w0 L C F i v u V w6:=⟨h.ls.kb k,h.th.kb k,h.dv⟩
theorem PH.kb {w0 wr w6:World} {L i:Nat} {C:Nat→Gv} {F:Nat→Td} {v u:Value} {V:Nat→Value} (h:PH w0 L C F i v u V wr) (k:Kb 0 wr w6):PH w0 L C F i v u V w6:=⟨h.ls.kb k,h.th.kb k,h.dv⟩
theorem PS.half {w0 wr w8:World} {L i g cap:Nat} {C:Nat→Gv} {F:Nat→Td} {v u:Value} {V:Nat→Value} (h:PS w0 L C F i v u V wr) (ho:w8.ownsRow w0.heap.size 41 4 (.slice (some ⟨g,0,none⟩) (i+1) cap) (i+1) (vls C i ++ gcl (C i))) (hg:wr.grownBy w8 v.ownBlock) (hgg:v.ownBlock=some g∨g=wr.heap.size):PH w0 L C F i (.slice (some ⟨g,0,none⟩) (i+1) cap) u V (w8.setCell ⟨L,1,none⟩ (.slice (some ⟨g,0,none⟩) (i+1) cap)):=by
 have hlt:=h.ls.lt
 have keep:∀ {t s n:Nat} {x:Value} {l:List Value},wr.ownsRow w0.heap.size t s x n l→(∀ q,x.ownBlock=some q→v.ownBlock ≠ some q)→(w8.setCell ⟨L,1,none⟩ (.slice (some ⟨g,0,none⟩) (i+1) cap)).ownsRow w0.heap.size t s x n l:=fun {t s n x l} hx hn=>own_keep hx (fun q e=>by
  have hq:=hx.lt q e
  rw [Below.heap_setCell _ _ _ _ (by show q ≠ L;omega)]
  exact hg.block q hq.2 (fun e2=>hn q e e2.symm))
 refine ⟨h.ls.push ho hg,⟨keep h.th.nn (fun q e e2=>own_ne h.th.nn h.ls.ow (by decide) e e2.symm),fun k hk=>keep (h.th.vs k hk) (h.dv k hk)⟩,fun k hk q e e2=>?_⟩
 have e3:g=q:=Option.some.inj e2
 subst e3
 rcases hgg with e4 | e4
 ·exact h.dv k hk g e e4
 ·have:=((h.th.vs k hk).lt g e).2
  omega
theorem PH.full {w0 wr w6 w9:World} {L i g:Nat} {C:Nat→Gv} {F:Nat→Td} {v u u':Value} {V:Nat→Value} (h:PH w0 L C F i v u V wr) (k:Kb 0 wr w6) (hr:wr.heap.size≤g) (hx:w6.ownsRow w0.heap.size 41 4 (.slice (some ⟨g,0,none⟩) 4 4) (F i).c (vls (F i).C (F i).c)) (ho:w9.ownsRow w0.heap.size 50 2 u' (i+1) (tcl F V i ++ [.int .i64 (F i).t,.slice (some ⟨g,0,none⟩) 4 4])) (hg:w6.grownBy w9 u.ownBlock):PS w0 L C F (i+1) v u' (fun k=>if k=i then .slice (some ⟨g,0,none⟩) 4 4 else V k) w9:=by
 have hlt:=h.ls.lt
 have l6:=h.ls.kb k
 have hu:=own_kb h.th.nn k
 have hs6:=l6.kg.size
 have hne:∀ q,q < w0.heap.size→some q ≠ u.ownBlock:=fun q hq e=>by
  have:=(hu.lt q e.symm).1
  omega
 refine ⟨⟨⟨hg.os.trans l6.kg.os,hg.output.trans l6.kg.output,Nat.le_trans hs6 hg.size,fun q h1 h2=>(hg.block q (by omega) (hne q h1)).trans (l6.kg.block q h1 h2)⟩,(hg.block L (by omega) (hne L hlt)).trans l6.lb,own_keep l6.ow (fun q e=>hg.block q (l6.ow.lt q e).2 (own_ne l6.ow hu (by decide) e)),hlt⟩,h.th.push k hx ho hg,fun j hj q e=>?_⟩
 by_cases ej:j=i
 ·rw [if_pos ej] at e
  have e3:g=q:=Option.some.inj e
  subst e3
  intro e4
  have:=(h.ls.ow.lt g e4).2
  omega
 ·rw [if_neg ej] at e
  exact h.dv j (by omega) q e
theorem app_none {b p:Option Addr} {N cap c:Nat} {W:World} (h:N≤cap):(Builtin.append_ #[42,42] 42 #[.slice b N cap,.slice p 0 c]).run Try.prog W = .ok (.slice b N cap) W:=by
 obtain ⟨i1,hi1,hz0,hz1,hz2⟩:=info_parts infoTp
 have hl:∀ (x:Addr),(loadCells x 0).run Try.prog W = .ok #[] W:=fun x=>by simpa using run_loadCells_list (P:=Try.prog) W x [] (by simp)
 cases p <;> cases b <;> simp [Builtin.append_,run_underlying Try.underlying42,sizeOf,typeInfo,hi1,hz1,h,storeCells,hl,Builtin.lenOf,Builtin.firstCells]
theorem wp_append_none {P : Program} {w : World} {o : Oper} {a : Act} {K : Act → World → Prop} {Q : Exit → Act → World → Prop} (s x : Operand) (t : TypeId) (ho : o.op = .call { callee := .builtin .append, args := #[s, x], argTypes := #[t, t] }) {b p : Option Addr} {N cap c : Nat} (hs : a.eval s = .slice b N cap) (hx : a.eval x = .slice p 0 c)
  (hrun:(Builtin.append_ #[t,t] o.type #[.slice b N cap,.slice p 0 c]).run P w = .ok (.slice b N cap) w) (h:K (a.put o.dst (.slice b N cap)) w):o.wp P a w K Q:=by
 unfold Oper.wp execOp
 simp only [ho,resolve,invoke,builtin,Sem.run_bind,Sem.run_pure,Result.andThen_ok,List.map_toArray,List.map_cons,List.map_nil,hs,hx,hrun]
 exact h
def RtB (w2 wx:World) (Z:Nat) (t:Int) (l:List Value):Prop:=Kb 0 w2 wx∧∃ x:Addr,wx.heap[Z]? = some (.cells #[.int .i64 t,.slice (some x) 4 4] 50 (0,0))∧wx.ownsRow w2.heap.size 41 4 (.slice (some x) 4 4) 4 l∧w2.heap.size≤Z
theorem rtb_of {w2 W:World} {Z R:Nat} {t:Int} {l:List Value} (k:Kb 0 w2 W) (ho:W.ownsRow w2.heap.size 41 4 (.slice (some ⟨R,0,none⟩) 4 4) 4 l) (hb:W.heap[Z]? = some (.cells #[.int .i64 0,.slice none 0 0] 50 (0,0))) (hz:w2.heap.size≤Z):RtB w2 (s2 W Z t (.slice (some ⟨R,0,none⟩) 4 4)) Z t l:=by
 refine ⟨⟨by unfold s2;exact k.os,by unfold s2;exact k.output,by rw [s2_size];exact k.size,fun q h1 h2=>(s2_far _ _ _ _ (by omega)).trans (k.block q h1 h2)⟩,⟨R,0,none⟩,s2_known hb t _,own_keep ho (fun g e=>s2_far _ _ _ _ (own_ty ho hb (by decide) e)),hz⟩
theorem wr3 (i:Nat) (h:(i:Int) < 1000):IntKind.i64.wrap (3+(i:Int))=3+(i:Int):=by
 have e:(3+(i:Int)) % 2 ^ 64=3+(i:Int):=Int.emod_eq_of_lt (by omega) (by omega)
 simp only [IntKind.wrap,IntKind.bits,IntKind.signed,e]
 rw [if_neg]
 simp
 omega
def v3 (a b c:Value) (V:Nat→Value) (k:Nat):Value:=if k=0 then a else if k=1 then b else if k=2 then c else V (k - 3)
theorem v3_st (a b c:Value) (V:Nat→Value) (k:Nat):v3 a b c V (3+k)=V k:=by
 unfold v3
 rw [if_neg (by omega),if_neg (by omega),if_neg (by omega),show 3+k - 3=k by omega]
theorem gr_cells (n:Nat) (S:Nat→ByteArray) (p q:Int) (i:Nat) (T:Nat→Gv) (a b c:Value) (V:Nat→Value):tcl (jF ⟨n,S,p,q,i,T⟩) (v3 a b c V) (3+i) = [.int .i64 1,a,.int .i64 2,b,.int .i64 3,c] ++ tcl (fun k=>stT (T k)) V i:=by
 rw [tcl_add,tcl_congr (F:=fun k=>jF ⟨n,S,p,q,i,T⟩ (3+k)) (G:=fun k=>stT (T k)) (V:=fun k=>v3 a b c V (3+k)) (U:=V) (fun k _=>⟨jF_st _ _,v3_st _ _ _ _ _⟩)]
 rfl
theorem gr_fin {w wr WF : World} {n i : Nat} {S : Nat → ByteArray} {p q : Int} {T : Nat → Gv} {V : Nat → Value} {a b c u v : Value} {RL : List Value} {gc : Array Value} (hRL : RL = vls (rtT p q).C 4)
  (ha:wr.ownsRow w.heap.size 41 4 a 4 RL) (hb:wr.ownsRow w.heap.size 41 4 b n (vls (lnT n S).C n)) (hc:wr.ownsRow w.heap.size 41 4 c i (vls (skT i).C i)) (ht:TH w.heap.size wr u i (fun k=>stT (T k)) V)
  (hg:wr.heap[w.heap.size+1]? = some (.cells gc 44 (0,0))) (k0:Kb 0 w wr) (hos:WF.os=wr.os) (hout:WF.output=wr.output) (hsz:wr.heap.size≤WF.heap.size) (hk:∀ g,g < wr.heap.size→g ≠ w.heap.size+1→WF.heap[g]? = wr.heap[g]?)
  (hn:WF.ownsRow w.heap.size 50 2 v (3+i) ([.int .i64 1,a,.int .i64 2,b,.int .i64 3,c] ++ tcl (fun k=>stT (T k)) V i)):RowT 0 WF v (3+i) (jF ⟨n,S,p,q,i,T⟩)∧Kb 0 w WF:=by
 have kp:∀ {x:Value} {m:Nat} {l:List Value},wr.ownsRow w.heap.size 41 4 x m l→WF.ownsRow w.heap.size 41 4 x m l:=fun {x m l} h=>own_keep h (fun g e=>hk g (h.lt g e).2 (own_ty h hg (by decide) e))
 refine ⟨(TH.row (V:=v3 a b c V) ⟨by rw [gr_cells];exact hn,fun k hk3=>?_⟩).mono (Nat.zero_le _),⟨hos.trans k0.os,hout.trans k0.output,Nat.le_trans k0.size hsz,fun g _ hg2=>(hk g (Nat.lt_of_lt_of_le hg2 k0.size) (by omega)).trans (k0.block g (Nat.zero_le _) hg2)⟩⟩
 by_cases e0:k=0
 ·subst e0
  rw [hRL] at ha
  exact kp ha
 by_cases e1:k=1
 ·subst e1
  exact kp hb
 by_cases e2:k=2
 ·subst e2
  exact kp hc
 obtain ⟨j,rfl⟩:∃ j,k=3+j:=⟨k - 3,by omega⟩
 rw [v3_st,jF_st]
 exact kp (ht.vs j (by omega))
theorem s5_os (W:World) (B:Nat) (a m:Int) (x:ByteArray) (r:Int) (v:Value):(s5 W B a m x r v).os=W.os∧(s5 W B a m x r v).output=W.output:=by
 have e1:(s5 W B a m x r v).os=W.os:=by unfold s5 s4;rfl
 have e2:(s5 W B a m x r v).output=W.output:=by unfold s5 s4;rfl
 exact ⟨e1,e2⟩
end Go.Proofs.Ytamcnmnaadpfoaa.Fo
