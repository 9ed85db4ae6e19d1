import Derived.Test.YtamcnmnaadpfoaaFUan
import Derived.Test.YtamcnmnaadpfoaaFSup
set_option maxHeartbeats 16000000
namespace Go.Proofs.Ytamcnmnaadpfoaa.Fo
open Go.ChangeShapes Go.WideShapes Go.ChangeAt Go.RowKit
set_option linter.unusedVariables false
set_option maxRecDepth 100000
def OwnB (lo hi:Nat) (w:World) (e:TypeId) (size:Nat) (v:Value) (n:Nat) (xs:List Value):Prop:=w.ownsRow lo e size v n xs∧∀ g,v.ownBlock=some g→g < hi
theorem OwnB.blk {lo hi:Nat} {w w':World} {e:TypeId} {size:Nat} {v:Value} {n:Nat} {xs:List Value} (h:OwnB lo hi w e size v n xs) (k:∀ g,lo≤g→g < hi→w'.heap[g]? = w.heap[g]?):OwnB lo hi w' e size v n xs :=
 ⟨rowBlk9 h.1 (fun g e=>k g (h.1.lt g e).1 (h.2 g e)),h.2⟩
abbrev TV:=(Int × List Gv) × Value
def tvc (z:TV):List Value:=[.int .i64 z.1.1,z.2]
def te (q:Int × List Gv):List UInt8:=t8 q.1.toNat q.2
def Tok (q:Int × List Gv):Prop:=0≤q.1∧q.1≤9223372036854775807∧(∀ y,y ∈ q.2→Wv y)∧q.2.length≤300
def Ttt (q:Int × List Gv):Prop:=Rn q.1∧(∀ x,x ∈ q.2→Rv9 x)∧q.2.length≤300
def smT:List TV→Nat
 | []=>0
 | z :: L=>z.1.2.length+smT L
theorem smT_app (L:List TV) (z:TV):smT (L ++ [z])=smT L+z.1.2.length:=by
 induction L with
 | nil=>simp [smT]
 | cons a L ih=>simp only [List.cons_append,smT,ih];omega
def OwnT (B:Nat) (w:World) (L:List TV) (ob:Option Nat):Prop:=∃ lo hi:Nat→Nat,
 (∀ i z,L[i]? = some z→B≤lo i∧hi i≤w.heap.size∧OwnB (lo i) (hi i) w 41 4 z.2 z.1.2.length (z.1.2.flatMap glc))∧(∀ i j,i < j→j < L.length→hi i≤lo j)∧(∀ g i,ob=some g→i < L.length→¬ (lo i≤g∧g < hi i))
theorem OwnT.step {B:Nat} {wr w1 w3:World} {L:List TV} {ob:Option Nat} {q:Int × List Gv} {vq:Value} {o:Obj} {g' b:Nat} (h:OwnT B wr L ob) (hk:Kg b wr w1) (hb:b < B) (hB:B≤wr.heap.size) (hob:∀ g,ob=some g→g < wr.heap.size) (hq:OwnB wr.heap.size w1.heap.size w1 41 4 vq q.2.length (q.2.flatMap glc)) (hg:(w1.alloc o).grownBy w3 ob) (hl:ob=some g'∨g'=w1.heap.size+1):OwnT B w3 (L ++ [(q,vq)]) (some g'):=by
 obtain ⟨lo,hi,h1,h2,h3⟩:=h
 have hs:=hk.size
 have hs3:=hg.size
 rw [World.size_alloc] at hs3
 have hlh:∀ i,i < L.length→hi i≤wr.heap.size:=fun i hi'=>(h1 i _ (List.getElem?_eq_getElem hi')).2.1
 refine ⟨fun i=>if i < L.length then lo i else wr.heap.size,fun i=>if i < L.length then hi i else w1.heap.size,?_,?_,?_⟩
 ·intro i z hz
  rcases Nat.lt_or_ge i L.length with hi' | hi'
  ·rw [List.getElem?_append_left hi'] at hz
   obtain ⟨q1,q2,q3⟩:=h1 i z hz
   simp only [if_pos hi']
   refine ⟨q1,by omega,q3.blk (fun g a c=>?_)⟩
   have e1:w3.heap[g]? = (w1.alloc o).heap[g]?:=hg.block g (by rw [World.size_alloc];omega) (fun e=>h3 g i e.symm hi' ⟨a,c⟩)
   have e2:(w1.alloc o).heap[g]? = w1.heap[g]?:=(kb_alloc 0 w1 o).block g (Nat.zero_le _) (by omega)
   exact (e1.trans e2).trans (hk.block g (by omega) (by omega))
  ·rw [List.getElem?_append_right hi'] at hz
   have e0:i - L.length=0:=by
    have hlt:=(List.getElem?_eq_some_iff.1 hz).1
    simp at hlt
    omega
   rw [e0] at hz
   simp at hz
   subst hz
   simp only [if_neg (show ¬ i < L.length by omega)]
   refine ⟨hB,by omega,hq.blk (fun g a c=>?_)⟩
   have e1:w3.heap[g]? = (w1.alloc o).heap[g]?:=hg.block g (by rw [World.size_alloc];omega) (fun e=>by have:=hob g e.symm;omega)
   exact e1.trans ((kb_alloc 0 w1 o).block g (Nat.zero_le _) (by omega))
 ·intro i j hij hj
  rw [List.length_append,List.length_singleton] at hj
  rcases Nat.lt_or_ge j L.length with hj' | hj'
  ·simp only [if_pos hj',if_pos (show i < L.length by omega)]
   exact h2 i j hij hj'
  ·simp only [if_neg (show ¬ j < L.length by omega),if_pos (show i < L.length by omega)]
   exact hlh i (by omega)
 ·intro g i e hi'
  injection e with e
  subst e
  rw [List.length_append,List.length_singleton] at hi'
  rcases Nat.lt_or_ge i L.length with hj' | hj'
  ·simp only [if_pos hj']
   rcases hl with hl | hl
   ·exact h3 _ i hl hj'
   ·have:=hlh i hj'
    omega
  ·simp only [if_neg (show ¬ i < L.length by omega)]
   rcases hl with hl | hl
   ·have:=hob _ hl
    omega
   ·omega
structure RTs (b:Nat) (p:Option Addr) (c:Nat) (M:List UInt8) (k:Nat) (lost:Bool) (W:World) (most:Nat) (cnt:Int) (L:List TV) (k':Nat) (l':Bool) (v:Value) (wr:World):Prop where
 rd:RI b p c M k' l' wr
 r0:RI b p c M k lost W
 le:k≤k'
 ks:Kg b W wr
 row:wr.ownsRow W.heap.size 50 2 v L.length (L.flatMap tvc)
 own:OwnT W.heap.size wr L v.ownBlock
 tt:∀ z,z ∈ L→Ttt z.1
 mo:L.length≤most
 cn:l'=false→cnt≤(most:Int)
 lo:lost=true→l'=true
 gt:l'=false→k+smT L≤k'
 ex:LJ te Tok M k lost most cnt (L.map (·.1)) k' l'
def RTL (b:Nat) (p:Option Addr) (c:Nat) (M:List UInt8) (k:Nat) (lost:Bool) (W:World) (most:Nat) (cnt:Int) (e:Ending) (w':World):Prop :=
 ∃ v k' l' L,e = .returned v∧RI b p c M k' l' w'∧k≤k'∧Kg b W w'∧w'.ownsRow W.heap.size 50 2 v L.length (L.flatMap tvc)∧OwnT W.heap.size w' L v.ownBlock∧(∀ z,z ∈ L→Ttt z.1)∧L.length≤most∧(lost=true→l'=true)∧(l'=false→k+smT L≤k')∧LX te Tok M k lost most cnt (L.map (·.1)) k' l'
theorem RTs.done {b:Nat} {p:Option Addr} {c:Nat} {M:List UInt8} {k:Nat} {lost:Bool} {W:World} {most:Nat} {cnt:Int} {L:List TV} {k':Nat} {l':Bool} {v:Value} {wr:World} (s:RTs b p c M k lost W most cnt L k' l' v wr) (hc:¬ ((L.length:Int) < cnt∧l'=false)):RTL b p c M k lost W most cnt (.returned v) wr :=
 ⟨v,k',l',L,rfl,s.rd,s.le,s.ks,s.row,s.own,s.tt,s.mo,s.lo,s.gt,s.ex.done (by rw [List.length_map];exact hc)⟩
theorem RTs.begin {b : Nat} {p : Option Addr} {c : Nat} {M : List UInt8} {k : Nat} {lost : Bool} {W : World} {most : Nat} {cnt : Int} (h : RI b p c M k lost W) :
  RTs b p c M k lost W most cnt [] k (lost || decide ((most:Int) < cnt)) (.slice none 0 0) (W.setCell ⟨b,2,none⟩ (.bool (lost || decide ((most:Int) < cnt)))):=by
 have s:RLs (α:=Int × List Gv) (fun _=>[]) 50 2 te (fun _=>True) Tok b p c M k lost W most cnt [] k (lost || decide ((most:Int) < cnt)) (.slice none 0 0) (W.setCell ⟨b,2,none⟩ (.bool (lost || decide ((most:Int) < cnt)))):=RLs.begin h
 exact ⟨s.rd,s.r0,s.le,s.ks,World.ownsRow_nil _ _ _ _,⟨fun _=>0,fun _=>0,fun i z hz=>by simp at hz,fun i j _ hj=>by simp at hj,fun g i _ hj=>by simp at hj⟩,fun x hx=>(nomatch hx),Nat.zero_le _,s.cn,s.lo,s.gt,s.ex⟩
theorem RTs.step {b : Nat} {p : Option Addr} {c : Nat} {M : List UInt8} {k : Nat} {lost : Bool} {W : World} {most : Nat} {cnt : Int} {L : List TV} {k' : Nat} {l' : Bool} {v : Value} {wr : World} (s : RTs b p c M k lost W most cnt L k' l' v wr) (hl : l' = false) (hc : (L.length : Int) < cnt)
  {w1:World} {q:Int × List Gv} {vq:Value} {k2:Nat} {l2:Bool} (h1:RI b p c M k2 l2 w1) (h2:k'≤k2) (h3:Kg b wr w1) (hq:w1.ownsRow wr.heap.size 41 4 vq q.2.length (q.2.flatMap glc)) (h4:Ttt q) (h5:l2=false→k'+q.2.length < k2) (h6:l'=true→l2=true) (h7:∀ (T:Nat) (ys:List Gv) rest,l'=false→T≤9223372036854775807→(∀ y,y ∈ ys→Wv y)→ys.length≤300→M.drop k'=t8 T ys ++ rest→q.1=(T:Int)∧q.2=ys∧k2=k'+(t8 T ys).length∧l2=false)
  {o:Obj} {g' c' n':Nat} {w3:World} (h8:w3.ownsRow W.heap.size 50 2 (.slice (some ⟨g',0,none⟩) n' c') (L.length+1) (L.flatMap tvc ++ tvc (q,vq))) (h9:(w1.alloc o).grownBy w3 v.ownBlock) (h10:v.ownBlock=some g'∨g'=w1.heap.size+1):RTs b p c M k lost W most cnt (L ++ [(q,vq)]) k2 l2 (.slice (some ⟨g',0,none⟩) n' c') w3:=by
 have hg:∀ g,v.ownBlock=some g→W.heap.size≤g:=fun g e=>(s.row.lt g e).1
 have hb:=s.r0.lt
 have hb1:=h1.lt
 have ka:Kb 0 w1 (w1.alloc o):=kb_alloc 0 w1 o
 have kk:Kg b W w3:=((s.ks.trans h3).trans (Kg.of_kb ka)).gr h9 hg
 have hbk:w3.heap[b]? = w1.heap[b]?:=(h9.block b (by have:=ka.size;omega) (fun e=>by have:=hg b e.symm;omega)).trans (ka.block b (Nat.zero_le _) hb1)
 refine ⟨s.r0.kg kk (hbk.trans h1.blk) h1.le,s.r0,Nat.le_trans s.le h2,kk,?_,?_,?_,?_,?_,?_,?_,?_⟩
 ·rw [List.length_append,List.flatMap_append]
  simpa using h8
 ·exact s.own.step h3 hb s.ks.size (fun g e=>(s.row.lt g e).2) ⟨hq,fun g e=>(hq.lt g e).2⟩ h9 h10
 ·intro y hy
  rcases List.mem_append.1 hy with hy | hy
  ·exact s.tt y hy
  ·rw [List.mem_singleton.1 hy];exact h4
 ·have:=s.cn hl
  rw [List.length_append,List.length_singleton]
  omega
 ·intro e
  exact s.cn hl
 ·intro e
  exact h6 (s.lo e)
 ·intro e
  have:=s.gt hl
  have:=h5 e
  rw [smT_app]
  show k+(smT L+q.2.length)≤k2
  omega
 ·rw [List.map_append]
  exact s.ex.step (by rw [List.length_map];exact hc) (fun y rest e hy hm=>by
   obtain ⟨r1,r2,r3,r4⟩:=h7 y.1.toNat y.2 rest e (by have:=hy.2.1;omega) hy.2.2.1 hy.2.2.2 hm
   have h0:=hy.1
   exact ⟨Prod.ext (by rw [r1];omega) r2,r3,r4⟩)
theorem rl_thing {b : Nat} {p : Option Addr} {c : Nat} {M : List UInt8} {k : Nat} {lost : Bool} {W : World} (h : RI b p c M k lost W) (most : Nat) (hm : most ≤ 6000) (cnt : Int) :
  Calls Try.prog 81 #[.pointer (some ⟨b,0,none⟩),.int .i64 cnt,.int .i64 (most:Int),.func (Fn.func 82) #[.pointer (some ⟨b,0,none⟩)] #[]] W (RTL b p c M k lost W most cnt):=by
 obtain ⟨i0,hi0,hz0,hz1,hz2⟩:=info_parts infoT
 have HI0:Hid (Try.prog.info? 50=some i0):=hi0
 have c2:W.cell? ⟨b,2,none⟩=some (.bool lost):=cell_of h.blk rfl
 have f2:W.frozen? ⟨b,2,none⟩=false:=frozen_of h.blk
 have HS:Hid (RTs b p c M k lost W most cnt [] k (lost || decide ((most:Int) < cnt)) (.slice none 0 0) (W.setCell ⟨b,2,none⟩ (.bool (lost || decide ((most:Int) < cnt))))):=RTs.begin h
 have HM:Hid (most≤6000):=hm
 clear h hm hi0
 by_cases hl1:lost=true
 ·subst hl1
  rw [Bool.true_or] at HS
  go_enter Try.func81,Try.ntmps81
  go_upto_region 3 with fail
  clear c2 f2
  obtain ⟨w2,hw2⟩:∃ w2,w2=W.setCell ⟨b,2,none⟩ (.bool true):=⟨_,rfl⟩
  rw [← hw2] at HS ⊢
  clear hw2
  go_loopw [9] (fun s9 wr=>∃ (L:List TV) (k':Nat) (l':Bool),Hid (RTs b p c M k true W most cnt L k' l' s9 wr)) (fun s9 _=>cnt.toNat - lnOf s9)
  case atStart=>exact ⟨[],k,true,HS⟩
  case round =>
   clear HS
   obtain ⟨L,k',l',HR⟩:=hrel
   have hR:=(show RTs b p c M k true W most cnt L k' l' u9 wr from HR)
   obtain ⟨ad,cap,rfl⟩:=own_shape hR.row
   clear HR
   have c2:wr.cell? ⟨b,2,none⟩=some (.bool l'):=cell_of hR.rd.blk rfl
   have hLm:(L.length:Int)≤6000:=by have:=hR.mo;have:=(show most≤6000 from HM);omega
   by_cases hgo:(L.length:Int) < cnt
   ·cases l' with
    | true =>
     have HD:Hid (RTL b p c M k true W most cnt (.returned (.slice ad L.length cap)) wr):=hR.done (by simp)
     clear hR HI0
     go_wp2_with fail
     go_ret
     exact HD
    | false =>
     have HC:=im_rthing hR.rd
     have HST:Hid (RTs b p c M k true W most cnt L k' false (.slice ad L.length cap) wr):=hR
     have hbz:b < W.heap.size:=hR.r0.lt
     have hwz:=hR.ks.size
     clear hR
     go_wp2_with fail
     refine HC.mono ?_
     rintro e w1 ⟨t,vq,Lq,k2,l2,rfl,y1,y2,y3,yo,y4a,y4b,y4c,y5,y6,y7⟩
     obtain ⟨av,cv,rfl⟩:=own_shape yo
     obtain ⟨nv,hnv⟩:∃ nv,nv=Lq.length:=⟨_,rfl⟩
     rw [← hnv] at yo ⊢
     have hw1:=y3.size
     have hown:=Kg.row (Kg.of_kb (b:=b) (kb_alloc 0 w1 (.cells #[.int .i64 t,.slice av nv cv] 50))) (Kg.row y3 (show RTs b p c M k true W most cnt L k' false (.slice ad L.length cap) wr from HST).row hbz) hbz
     have hqc:=qr_cells w1 #[.int .i64 t,.slice av nv cv] 50 [.int .i64 t,.slice av nv cv] rfl
     have h1c:∀ u ∈ ([.int .i64 t,.slice av nv cv]:List Value),u.oneCell'=true:=by intro u hu;simp at hu;rcases hu with rfl | rfl <;> rfl
     have HSTP:Hid (∀ (g' c':Nat) (w3:World),w3.ownsRow W.heap.size 50 2 (.slice (some ⟨g',0,none⟩) (L.length+1) c') (L.length+1) (L.flatMap tvc ++ [.int .i64 t,.slice av nv cv])→(w1.alloc (.cells #[.int .i64 t,.slice av nv cv] 50)).grownBy w3 (Value.slice ad L.length cap).ownBlock→((Value.slice ad L.length cap).ownBlock=some g'∨g'=w1.heap.size+1)→RTs b p c M k true W most cnt (L ++ [((t,Lq),Value.slice av nv cv)]) k2 l2 (.slice (some ⟨g',0,none⟩) (L.length+1) c') w3):=(fun g' c' w3 h1 h2 h3=>(show RTs b p c M k true W most cnt L k' false (.slice ad L.length cap) wr from HST).step (q:=(t,Lq)) rfl hgo y1 y2 y3 (by rw [hnv] at yo ⊢;exact yo) ⟨y4b,y4a,y4c⟩ y5 y6 y7 h1 h2 h3:∀ (g' c':Nat) (w3:World),_)
     clear y1 y2 y3 yo y4a y4b y4c y5 y6 y7 HC HST c2 hnv
     go_wp2_with (at_builtin;refine wpList_append_lies _ rfl (.tmp 36) (.tmp 39) 42 rfl W.heap.size 50 i0 (.agg #[.int .i64 0,.slice none 0 0]) 2 32 Try.underlying42 HI0 hz0 hz1 hz2 rfl (by decide) _ _ _ rfl hown ⟨w1.heap.size,0,none⟩ 1 1 [.int .i64 t,.slice av nv cv] rfl rfl hqc h1c (by decide) (by unfold maxLen;omega) (by omega) (by simp;omega) (w1.heap.size+1) (by simp) ?_;intro g' cap' w3 hown3 hgr3 hl3 _;have HN:Hid (RTs b p c M k true W most cnt (L ++ [((t,Lq),Value.slice av nv cv)]) k2 l2 (.slice (some ⟨g',0,none⟩) (L.length+1) cap') w3):=(show ∀ (g' c':Nat) (w3:World),_ from HSTP) _ _ _ hown3 hgr3 hl3;clear hown3 hgr3 hl3 hown hqc h1c HSTP)
     go_roundw
     case rel=>exact ⟨L ++ [((t,Lq),Value.slice av nv cv)],k2,l2,HN⟩
     case measure=>simp [lnOf];omega
   ·have HD:Hid (RTL b p c M k true W most cnt (.returned (.slice ad L.length cap)) wr):=hR.done (fun e=>hgo e.1)
    clear hR HI0
    go_wp2_with fail
    go_ret
    exact HD
 ·obtain rfl:lost=false:=by cases lost <;> simp_all
  rw [Bool.false_or] at HS
  by_cases hcm:(most:Int) < cnt
  ·rw [decide_eq_true hcm] at HS
   go_enter Try.func81,Try.ntmps81
   go_upto_region 3 with fail
   clear c2 f2 hcm
   obtain ⟨w2,hw2⟩:∃ w2,w2=W.setCell ⟨b,2,none⟩ (.bool true):=⟨_,rfl⟩
   rw [← hw2] at HS ⊢
   clear hw2
   go_loopw [9] (fun s9 wr=>∃ (L:List TV) (k':Nat) (l':Bool),Hid (RTs b p c M k false W most cnt L k' l' s9 wr)) (fun s9 _=>cnt.toNat - lnOf s9)
   case atStart=>exact ⟨[],k,true,HS⟩
   case round =>
    clear HS
    obtain ⟨L,k',l',HR⟩:=hrel
    have hR:=(show RTs b p c M k false W most cnt L k' l' u9 wr from HR)
    obtain ⟨ad,cap,rfl⟩:=own_shape hR.row
    clear HR
    have c2:wr.cell? ⟨b,2,none⟩=some (.bool l'):=cell_of hR.rd.blk rfl
    have hLm:(L.length:Int)≤6000:=by have:=hR.mo;have:=(show most≤6000 from HM);omega
    by_cases hgo:(L.length:Int) < cnt
    ·cases l' with
     | true =>
      have HD:Hid (RTL b p c M k false W most cnt (.returned (.slice ad L.length cap)) wr):=hR.done (by simp)
      clear hR HI0
      go_wp2_with fail
      go_ret
      exact HD
     | false =>
      have HC:=im_rthing hR.rd
      have HST:Hid (RTs b p c M k false W most cnt L k' false (.slice ad L.length cap) wr):=hR
      have hbz:b < W.heap.size:=hR.r0.lt
      have hwz:=hR.ks.size
      clear hR
      go_wp2_with fail
      refine HC.mono ?_
      rintro e w1 ⟨t,vq,Lq,k2,l2,rfl,y1,y2,y3,yo,y4a,y4b,y4c,y5,y6,y7⟩
      obtain ⟨av,cv,rfl⟩:=own_shape yo
      obtain ⟨nv,hnv⟩:∃ nv,nv=Lq.length:=⟨_,rfl⟩
      rw [← hnv] at yo ⊢
      have hw1:=y3.size
      have hown:=Kg.row (Kg.of_kb (b:=b) (kb_alloc 0 w1 (.cells #[.int .i64 t,.slice av nv cv] 50))) (Kg.row y3 (show RTs b p c M k false W most cnt L k' false (.slice ad L.length cap) wr from HST).row hbz) hbz
      have hqc:=qr_cells w1 #[.int .i64 t,.slice av nv cv] 50 [.int .i64 t,.slice av nv cv] rfl
      have h1c:∀ u ∈ ([.int .i64 t,.slice av nv cv]:List Value),u.oneCell'=true:=by intro u hu;simp at hu;rcases hu with rfl | rfl <;> rfl
      have HSTP:Hid (∀ (g' c':Nat) (w3:World),w3.ownsRow W.heap.size 50 2 (.slice (some ⟨g',0,none⟩) (L.length+1) c') (L.length+1) (L.flatMap tvc ++ [.int .i64 t,.slice av nv cv])→(w1.alloc (.cells #[.int .i64 t,.slice av nv cv] 50)).grownBy w3 (Value.slice ad L.length cap).ownBlock→((Value.slice ad L.length cap).ownBlock=some g'∨g'=w1.heap.size+1)→RTs b p c M k false W most cnt (L ++ [((t,Lq),Value.slice av nv cv)]) k2 l2 (.slice (some ⟨g',0,none⟩) (L.length+1) c') w3):=(fun g' c' w3 h1 h2 h3=>(show RTs b p c M k false W most cnt L k' false (.slice ad L.length cap) wr from HST).step (q:=(t,Lq)) rfl hgo y1 y2 y3 (by rw [hnv] at yo ⊢;exact yo) ⟨y4b,y4a,y4c⟩ y5 y6 y7 h1 h2 h3:∀ (g' c':Nat) (w3:World),_)
      clear y1 y2 y3 yo y4a y4b y4c y5 y6 y7 HC HST c2 hnv
      go_wp2_with (at_builtin;refine wpList_append_lies _ rfl (.tmp 36) (.tmp 39) 42 rfl W.heap.size 50 i0 (.agg #[.int .i64 0,.slice none 0 0]) 2 32 Try.underlying42 HI0 hz0 hz1 hz2 rfl (by decide) _ _ _ rfl hown ⟨w1.heap.size,0,none⟩ 1 1 [.int .i64 t,.slice av nv cv] rfl rfl hqc h1c (by decide) (by unfold maxLen;omega) (by omega) (by simp;omega) (w1.heap.size+1) (by simp) ?_;intro g' cap' w3 hown3 hgr3 hl3 _;have HN:Hid (RTs b p c M k false W most cnt (L ++ [((t,Lq),Value.slice av nv cv)]) k2 l2 (.slice (some ⟨g',0,none⟩) (L.length+1) cap') w3):=(show ∀ (g' c':Nat) (w3:World),_ from HSTP) _ _ _ hown3 hgr3 hl3;clear hown3 hgr3 hl3 hown hqc h1c HSTP)
      go_roundw
      case rel=>exact ⟨L ++ [((t,Lq),Value.slice av nv cv)],k2,l2,HN⟩
      case measure=>simp [lnOf];omega
    ·have HD:Hid (RTL b p c M k false W most cnt (.returned (.slice ad L.length cap)) wr):=hR.done (fun e=>hgo e.1)
     clear hR HI0
     go_wp2_with fail
     go_ret
     exact HD
  ·rw [decide_eq_false hcm] at HS
   go_enter Try.func81,Try.ntmps81
   go_upto_region 3 with fail
   clear c2 f2
   obtain ⟨w2,hw2⟩:∃ w2,w2=W.setCell ⟨b,2,none⟩ (.bool false):=⟨_,rfl⟩
   rw [← hw2] at HS ⊢
   clear hw2
   go_loopw [9] (fun s9 wr=>∃ (L:List TV) (k':Nat) (l':Bool),Hid (RTs b p c M k false W most cnt L k' l' s9 wr)) (fun s9 _=>cnt.toNat - lnOf s9)
   case atStart=>exact ⟨[],k,false,HS⟩
   case round =>
    clear HS
    obtain ⟨L,k',l',HR⟩:=hrel
    have hR:=(show RTs b p c M k false W most cnt L k' l' u9 wr from HR)
    obtain ⟨ad,cap,rfl⟩:=own_shape hR.row
    clear HR
    have c2:wr.cell? ⟨b,2,none⟩=some (.bool l'):=cell_of hR.rd.blk rfl
    have hLm:(L.length:Int)≤6000:=by have:=hR.mo;have:=(show most≤6000 from HM);omega
    by_cases hgo:(L.length:Int) < cnt
    ·cases l' with
     | true =>
      have HD:Hid (RTL b p c M k false W most cnt (.returned (.slice ad L.length cap)) wr):=hR.done (by simp)
      clear hR HI0
      go_wp2_with fail
      go_ret
      exact HD
     | false =>
      have HC:=im_rthing hR.rd
      have HST:Hid (RTs b p c M k false W most cnt L k' false (.slice ad L.length cap) wr):=hR
      have hbz:b < W.heap.size:=hR.r0.lt
      have hwz:=hR.ks.size
      clear hR
      go_wp2_with fail
      refine HC.mono ?_
      rintro e w1 ⟨t,vq,Lq,k2,l2,rfl,y1,y2,y3,yo,y4a,y4b,y4c,y5,y6,y7⟩
      obtain ⟨av,cv,rfl⟩:=own_shape yo
      obtain ⟨nv,hnv⟩:∃ nv,nv=Lq.length:=⟨_,rfl⟩
      rw [← hnv] at yo ⊢
      have hw1:=y3.size
      have hown:=Kg.row (Kg.of_kb (b:=b) (kb_alloc 0 w1 (.cells #[.int .i64 t,.slice av nv cv] 50))) (Kg.row y3 (show RTs b p c M k false W most cnt L k' false (.slice ad L.length cap) wr from HST).row hbz) hbz
      have hqc:=qr_cells w1 #[.int .i64 t,.slice av nv cv] 50 [.int .i64 t,.slice av nv cv] rfl
      have h1c:∀ u ∈ ([.int .i64 t,.slice av nv cv]:List Value),u.oneCell'=true:=by intro u hu;simp at hu;rcases hu with rfl | rfl <;> rfl
      have HSTP:Hid (∀ (g' c':Nat) (w3:World),w3.ownsRow W.heap.size 50 2 (.slice (some ⟨g',0,none⟩) (L.length+1) c') (L.length+1) (L.flatMap tvc ++ [.int .i64 t,.slice av nv cv])→(w1.alloc (.cells #[.int .i64 t,.slice av nv cv] 50)).grownBy w3 (Value.slice ad L.length cap).ownBlock→((Value.slice ad L.length cap).ownBlock=some g'∨g'=w1.heap.size+1)→RTs b p c M k false W most cnt (L ++ [((t,Lq),Value.slice av nv cv)]) k2 l2 (.slice (some ⟨g',0,none⟩) (L.length+1) c') w3):=(fun g' c' w3 h1 h2 h3=>(show RTs b p c M k false W most cnt L k' false (.slice ad L.length cap) wr from HST).step (q:=(t,Lq)) rfl hgo y1 y2 y3 (by rw [hnv] at yo ⊢;exact yo) ⟨y4b,y4a,y4c⟩ y5 y6 y7 h1 h2 h3:∀ (g' c':Nat) (w3:World),_)
      clear y1 y2 y3 yo y4a y4b y4c y5 y6 y7 HC HST c2 hnv
      go_wp2_with (at_builtin;refine wpList_append_lies _ rfl (.tmp 36) (.tmp 39) 42 rfl W.heap.size 50 i0 (.agg #[.int .i64 0,.slice none 0 0]) 2 32 Try.underlying42 HI0 hz0 hz1 hz2 rfl (by decide) _ _ _ rfl hown ⟨w1.heap.size,0,none⟩ 1 1 [.int .i64 t,.slice av nv cv] rfl rfl hqc h1c (by decide) (by unfold maxLen;omega) (by omega) (by simp;omega) (w1.heap.size+1) (by simp) ?_;intro g' cap' w3 hown3 hgr3 hl3 _;have HN:Hid (RTs b p c M k false W most cnt (L ++ [((t,Lq),Value.slice av nv cv)]) k2 l2 (.slice (some ⟨g',0,none⟩) (L.length+1) cap') w3):=(show ∀ (g' c':Nat) (w3:World),_ from HSTP) _ _ _ hown3 hgr3 hl3;clear hown3 hgr3 hl3 hown hqc h1c HSTP)
      go_roundw
      case rel=>exact ⟨L ++ [((t,Lq),Value.slice av nv cv)],k2,l2,HN⟩
      case measure=>simp [lnOf];omega
    ·have HD:Hid (RTL b p c M k false W most cnt (.returned (.slice ad L.length cap)) wr):=hR.done (fun e=>hgo e.1)
     clear hR HI0
     go_wp2_with fail
     go_ret
     exact HD
def g8 (y:Gv) (ys:List (Int × List Gv)):List UInt8:=vb ys.length ++ (v8 y ++ ys.flatMap te)
def RG9 (b:Nat) (p:Option Addr) (c:Nat) (M:List UInt8) (k:Nat) (lost:Bool) (W:World) (e:Ending) (w':World):Prop:=∃ (a:Gv) (v:Value) (L:List TV) (k':Nat) (l':Bool),e = .returned (grv a v)∧RI b p c M k' l' w'∧k≤k'∧Kg b W w'∧w'.ownsRow W.heap.size 50 2 v L.length (L.flatMap tvc)∧OwnT W.heap.size w' L v.ownBlock∧(∀ z,z ∈ L→Ttt z.1)∧Rv9 a∧L.length≤600∧(l'=false→k+smT L≤k')∧(lost=true→l'=true)∧∀ (y:Gv) (ys:List (Int × List Gv)) rest,lost=false→Wv y→(∀ q,q ∈ ys→Tok q)→ys.length≤600→M.drop k=g8 y ys ++ rest→a=y∧L.map (·.1)=ys∧k'=k+(g8 y ys).length∧l'=false
theorem OwnT.mono {B B':Nat} {w w':World} {L:List TV} {ob:Option Nat} (h:OwnT B w L ob) (hB:B'≤B) (hs:w.heap.size≤w'.heap.size) (k:∀ g,B≤g→g < w.heap.size→w'.heap[g]? = w.heap[g]?):OwnT B' w' L ob:=by
 obtain ⟨lo,hi,h1,h2,h3⟩:=h
 refine ⟨lo,hi,fun i z hz=>?_,h2,h3⟩
 obtain ⟨q1,q2,q3⟩:=h1 i z hz
 exact ⟨by omega,by omega,q3.blk (fun g a c=>k g (by omega) (by omega))⟩
theorem im_rgraph {b : Nat} {p : Option Addr} {c : Nat} {M : List UInt8} {k : Nat} {lost : Bool} {W : World} (h : RI b p c M k lost W) :
    Calls Try.prog 42 #[.pointer (some ⟨b,0,none⟩)] W (RG9 b p c M k lost W):=by
  obtain ⟨w1,hw1⟩:∃ w1,w1=W.alloc (.cells #[.int .i64 0,.int .i64 0,.string ⟨#[]⟩,.int .i64 0,.slice none 0 0] 44):=⟨_,rfl⟩
  have k1:Kb 0 W w1:=by rw [hw1];exact kb_alloc _ _ _
  have z1:w1.heap.size=W.heap.size+1:=by rw [hw1,World.size_alloc]
  have b1:w1.heap[W.heap.size]? = some (.cells #[.int .i64 0,.int .i64 0,.string ⟨#[]⟩,.int .i64 0,.slice none 0 0] 44 (0,0)):=by rw [hw1];exact alloc_new _ _ _
  have HB:=im_rcount (h.kb k1)
  have HW1:Hid (w1=W.alloc (.cells #[.int .i64 0,.int .i64 0,.string ⟨#[]⟩,.int .i64 0,.slice none 0 0] 44)):=hw1
  have HH:Hid (Kb 0 W w1∧w1.heap.size=W.heap.size+1∧w1.heap[W.heap.size]? = some (.cells #[.int .i64 0,.int .i64 0,.string ⟨#[]⟩,.int .i64 0,.slice none 0 0] 44 (0,0))∧RI b p c M k lost W):=(⟨k1,z1,b1,h⟩:_∧_)
  clear h hw1 k1 z1 b1
  go_enter Try.func42,Try.ntmps42
  go_upto_region 1 with fail
  rw [← (show w1 = _ from HW1)]
  clear HW1
  go_wp2_with fail
  refine HB.mono ?_
  rintro e w2 ⟨v2,k1,l1,rfl,a1,a2,a3,cnt,rfl,a4,a5,a6,a7⟩
  clear HB
  have HB:=im_rval a1
  have HA:Hid (RI b p c M k1 l1 w2∧k≤k1∧Kz b w1 w2∧Rn cnt∧(l1=false→k < k1)∧(lost=true→l1=true)∧∀ (y:Nat) rest,lost=false→y≤9223372036854775807→M.drop k=vb y ++ rest→cnt=(y:Int)∧k1=k+(vb y).length∧l1=false):=(⟨a1,a2,a3,a4,a5,a6,a7⟩:_∧_)
  clear a1 a2 a3 a4 a5 a6 a7
  go_wp2_with fail
  refine HB.mono ?_
  rintro e w3 ⟨a,k2,l2,rfl,c1,c2,c3,c4,c5,c6,c7⟩
  clear HB
  have HB:=rl_thing c1 600 (by omega) cnt
  have HC:Hid (RI b p c M k2 l2 w3∧k1≤k2∧Kg b w2 w3∧Rv9 a∧(l2=false→k1 < k2)∧(l1=true→l2=true)∧∀ (y:Gv) rest,l1=false→Wv y→M.drop k1=v8 y ++ rest→a=y∧k2=k1+(v8 y).length∧l2=false):=(⟨c1,c2,c3,c4,c5,c6,c7⟩:_∧_)
  clear c1 c2 c3 c4 c5 c6 c7
  go_wp2_with fail
  refine HB.mono ?_
  rintro e w4 ⟨v4,k',l',L,rfl,d1,d2,d3,d4,d4b,d5,d6,d7,d8,d9⟩
  clear HB
  obtain ⟨ad,cap,rfl⟩:=own_shape d4
  obtain ⟨kb1,z1,b1,h0⟩:=(show Kb 0 W w1∧w1.heap.size=W.heap.size+1∧w1.heap[W.heap.size]? = some (.cells #[.int .i64 0,.int .i64 0,.string ⟨#[]⟩,.int .i64 0,.slice none 0 0] 44 (0,0))∧RI b p c M k lost W from HH)
  obtain ⟨a1,a2,a3,a4,a5,a6,a7⟩:=(show RI b p c M k1 l1 w2∧k≤k1∧Kz b w1 w2∧Rn cnt∧(l1=false→k < k1)∧(lost=true→l1=true)∧∀ (y:Nat) rest,lost=false→y≤9223372036854775807→M.drop k=vb y ++ rest→cnt=(y:Int)∧k1=k+(vb y).length∧l1=false from HA)
  obtain ⟨c1,c2,c3,c4,c5,c6,c7⟩:=(show RI b p c M k2 l2 w3∧k1≤k2∧Kg b w2 w3∧Rv9 a∧(l2=false→k1 < k2)∧(l1=true→l2=true)∧∀ (y:Gv) rest,l1=false→Wv y→M.drop k1=v8 y ++ rest→a=y∧k2=k1+(v8 y).length∧l2=false from HC)
  have hbl:=h0.lt
  have z2:w2.heap.size=W.heap.size+1:=by rw [a3.size,z1]
  have z3:=c3.size
  have b2:w2.heap[W.heap.size]? = some (.cells #[.int .i64 0,.int .i64 0,.string ⟨#[]⟩,.int .i64 0,.slice none 0 0] 44 (0,0)):=(a3.block _ (by omega)).trans b1
  have b3:w3.heap[W.heap.size]? = some (.cells #[.int .i64 0,.int .i64 0,.string ⟨#[]⟩,.int .i64 0,.slice none 0 0] 44 (0,0)):=(c3.block _ (by omega) (by omega)).trans b2
  have b4:w4.heap[W.heap.size]? = some (.cells #[.int .i64 0,.int .i64 0,.string ⟨#[]⟩,.int .i64 0,.slice none 0 0] 44 (0,0)):=(d3.block _ (by omega) (by omega)).trans b3
  have kg4:Kg b W w4:=(((Kg.of_kb kb1).trans a3.kg).trans c3).trans d3
  have z4:=d3.size
  have s0:w4.cell? ⟨W.heap.size,0,none⟩=some (.int .i64 0):=cell_of b4 rfl
  have s1:w4.cell? ⟨W.heap.size,1,none⟩=some (.int .i64 0):=cell_of b4 rfl
  have s2:w4.cell? ⟨W.heap.size,2,none⟩=some (.string ⟨#[]⟩):=cell_of b4 rfl
  have s3:w4.cell? ⟨W.heap.size,3,none⟩=some (.int .i64 0):=cell_of b4 rfl
  have s4':w4.cell? ⟨W.heap.size,4,none⟩=some (.slice none 0 0):=cell_of b4 rfl
  have sf:∀ j,w4.frozen? ⟨W.heap.size,j,none⟩=false:=fun j=>frozen_of b4
  obtain ⟨WF,hWF⟩:∃ WF,WF=(s4 w4 W.heap.size a.k a.m a.x a.r).setCell ⟨W.heap.size,4,none⟩ (.slice ad L.length cap):=⟨_,rfl⟩
  have bF:WF.heap[W.heap.size]? = some (.cells #[.int .i64 a.k,.int .i64 a.m,.string a.x,.int .i64 a.r,.slice ad L.length cap] 44 (0,0)):=by rw [hWF,set_known _ (s4_known b4 a.k a.m a.x a.r)];rfl
  have e0:WF.cell? ⟨W.heap.size,0,none⟩=some (.int .i64 a.k):=cell_of bF rfl
  have e1:WF.cell? ⟨W.heap.size,1,none⟩=some (.int .i64 a.m):=cell_of bF rfl
  have e2:WF.cell? ⟨W.heap.size,2,none⟩=some (.string a.x):=cell_of bF rfl
  have e3:WF.cell? ⟨W.heap.size,3,none⟩=some (.int .i64 a.r):=cell_of bF rfl
  have e4:WF.cell? ⟨W.heap.size,4,none⟩=some (.slice ad L.length cap):=cell_of bF rfl
  have hfr:∀ q,q ≠ W.heap.size→WF.heap[q]? = w4.heap[q]?:=fun q hq=>by rw [hWF,Below.heap_setCell _ _ _ _ hq,s4_far _ _ _ _ _ hq]
  have hzF:WF.heap.size=w4.heap.size:=by rw [hWF,World.size_setCell,s4_size]
  have kgF:Kg b W WF:=⟨by rw [hWF];exact kg4.os,by rw [hWF];exact kg4.output,by rw [hzF];exact kg4.size,fun q h1 h2=>(hfr q (by omega)).trans (kg4.block q h1 h2)⟩
  have HF : Hid (RG9 b p c M k lost W (.returned (grv a (.slice ad L.length cap))) WF) := (⟨a, _, L, k', l', rfl, h0.kg kgF ((hfr b (by omega)).trans d1.blk) d1.le, by omega, kgF, ownsRow_mono9 (rowBlk9 d4 (fun g e => hfr g (by have := (d4.lt g e).1; omega))) (by omega), d4b.mono (by omega) (by omega) (fun g h1 h2 => hfr g (by omega)), d5, c4, d6, fun e => by
      have e2:=nlost d7 e
      have:=c5 e2
      have:=d8 e
      omega,fun e=>d7 (c6 (a6 e)),fun y ys rest el hy hys hlen hm=>by
      unfold g8 at hm ⊢
      rw [List.append_assoc,List.append_assoc] at hm
      obtain ⟨q1,q2,q3⟩:=a7 ys.length _ el (by omega) hm
      have hm2:=drop_app hm
      rw [← q2] at hm2
      obtain ⟨r1,r2,r3⟩:=c7 y _ q3 hy hm2
      have hm3:=drop_app hm2
      rw [← r2] at hm3
      obtain ⟨g1,g2,g3⟩:=d9 ys rest r3 hys q1 hlen hm3
      exact ⟨r1,g1,by rw [g2,r2,q2,List.length_append,List.length_append];omega,g3⟩⟩:RG9 b p c M k lost W _ WF)
  unfold s4 at hWF
  have HWF:Hid (WF = _):=hWF
  clear d1 d2 d3 d4 d4b d5 d6 d7 d8 d9 kb1 z1 b1 h0 a1 a2 a3 a4 a5 a6 a7 c1 c2 c3 c4 c5 c6 c7 hbl z2 z3 z4 b2 b3 b4 kg4 hWF bF hfr hzF kgF HH HA HC
  go_wp2_with fail
  rw [← (show WF = _ from HWF)]
  clear HWF
  refine bodyPost_ret (by simp [results,Try.results42,go_sem,e0,e1,e2,e3,e4];rfl) rfl ?_
  exact HF
def td9 (q:Int × List Gv):Td:=⟨q.1,q.2.length,fun i=>q.2.getD i default⟩
def TF (L:List (Int × List Gv)):Nat→Td:=fun i=>td9 (L.getD i default)
theorem fm_at9 {α : Type} {cl : α → List Value} {wd:Nat} (hc:∀ a,(cl a).length=wd) {L:List α} {m:Nat} {e : α} (h:L[m]? = some e) (r:Nat) (hr:r < wd):(L.flatMap cl)[m*wd+r]? = (cl e)[r]?:=by
 induction L generalizing m with
 | nil=>simp at h
 | cons y L ih =>
  rw [List.flatMap_cons]
  cases m with
  | zero =>
   simp at h
   subst h
   rw [List.getElem?_append_left (by rw [hc];omega)]
   simp
  | succ m =>
   simp at h
   have e1:(m+1)*wd=m*wd+wd:=Nat.succ_mul _ _
   rw [List.getElem?_append_right (by rw [hc];omega),← ih h,hc]
   congr 1
   omega
theorem own_cells9 {α : Type} {cl : α → List Value} {wd:Nat} (hc:∀ a,(cl a).length=wd) {w:World} {lo:Nat} {ty:TypeId} {v:Value} {L:List α} (d : α) (h:w.ownsRow lo ty wd v L.length (L.flatMap cl)):∃ pa cap,v = .slice pa L.length cap∧(0 < L.length→∃ a:Addr,pa=some a∧L.length≤cap∧0≤a.block∧∀ i,i < L.length→∃ g:Nat,a.add (i*wd)=⟨g,i*wd,none⟩∧∀ t,t < wd→w.cell? ⟨g,i*wd+t,none⟩=(cl (L.getD i d))[t]?):=by
 obtain ⟨pa,cap,e⟩:=own_shape h
 refine ⟨pa,cap,e,fun hn=>?_⟩
 obtain ⟨g,cap',e2,h2,h3⟩:=h.form hn
 rw [e] at e2
 obtain ⟨rfl,_,rfl⟩:=(Value.slice.injEq _ _ _ _ _ _).mp e2
 have hcap:L.length≤cap:=by
  rcases h.2 with ⟨h',_⟩ | ⟨g',c',cur,h',_,_,hcc,_⟩
  ·rw [e] at h'
   cases h'
  ·rw [e] at h'
   obtain ⟨_,_,rfl⟩:=(Value.slice.injEq _ _ _ _ _ _).mp h'
   exact hcc
 refine ⟨⟨g,0,none⟩,rfl,hcap,Nat.zero_le _,fun i hi=>⟨g,?_,fun t ht=>?_⟩⟩
 ·simp [Addr.add]
  exact fun h=>h.symm
 ·rw [e] at h
  have hlt:i*wd+t < L.length*wd:=by
   have:=Nat.mul_le_mul_right wd (show i+1≤L.length from hi)
   rw [Nat.succ_mul] at this
   omega
  rw [h.cellAt _ hlt]
  exact fm_at9 hc (by simp [List.getD,List.getElem?_eq_getElem hi]) t ht
theorem rowW_of9 {w:World} {lo:Nat} {v:Value} {L:List Gv} (h:w.ownsRow lo 41 4 v L.length (L.flatMap glc)):RowW 0 w v L.length (fun i=>L.getD i default):=by
 obtain ⟨pa,cap,e,h2⟩:=own_cells9 (cl:=glc) (fun _=>rfl) default h
 refine ⟨pa,cap,e,fun hn=>?_⟩
 obtain ⟨a,e1,e2,e3,e4⟩:=h2 hn
 refine ⟨a,e1,e2,e3,fun i hi=>?_⟩
 obtain ⟨g,g1,g2⟩:=e4 i hi
 rw [g1]
 exact CelV.of g2
theorem rowT_of9 {w:World} {lo:Nat} {v:Value} {L:List TV} (h:w.ownsRow lo 50 2 v L.length (L.flatMap tvc)) {B:Nat} {ob:Option Nat} (ho:OwnT B w L ob):RowT 0 w v L.length (TF (L.map (·.1))):=by
 obtain ⟨pa,cap,e,h2⟩:=own_cells9 (cl:=tvc) (fun _=>rfl) ((0,[]),.slice none 0 0) h
 refine ⟨pa,cap,e,fun hn=>?_⟩
 obtain ⟨a,e1,e2,e3,e4⟩:=h2 hn
 refine ⟨a,e1,e2,e3,fun i hi=>?_⟩
 obtain ⟨g,g1,g2⟩:=e4 i hi
 rw [g1]
 have hz:L[i]? = some L[i]:=List.getElem?_eq_getElem hi
 have hD:L.getD i ((0,[]),.slice none 0 0)=L[i]:=by simp [List.getD,hz]
 have hF:TF (L.map (·.1)) i=td9 L[i].1:=by
  unfold TF
  simp [List.getD,hz]
 rw [hD] at g2
 rw [hF]
 obtain ⟨lo',hi',h1,_⟩:=ho
 exact ⟨_,CelT.of (f:=td9 L[i].1) g2,rowW_of9 (h1 i _ hz).2.2.1⟩
theorem bg_of9 {L:List (Int × List Gv)} {a:Gv} (ht:∀ q,q ∈ L→Ttt q) (ha:Rv9 a) (hn:L.length≤600):Bg L.length (TF L) a∧Rg L.length (TF L) a:=by
 have hq:∀ i,i < L.length→∃ q,q ∈ L∧TF L i=td9 q:=fun i hi=>⟨L[i],List.getElem_mem hi,by unfold TF;simp [List.getD,List.getElem?_eq_getElem hi]⟩
 have hg:∀ i,i < L.length→∀ j,j < (TF L i).c→Rv9 ((TF L i).C j):=fun i hi j hj=>by
  obtain ⟨q,h1,h2⟩:=hq i hi
  rw [h2] at hj ⊢
  have hj':j < q.2.length:=hj
  have:(td9 q).C j=q.2[j]:=by show q.2.getD j default = _;simp [List.getD,List.getElem?_eq_getElem hj']
  rw [this]
  exact (ht q h1).2.1 _ (List.getElem_mem hj')
 refine ⟨⟨by omega,by have:=ha.x;omega,fun i hi=>?_,fun i hi j hj=>by have:=(hg i hi j hj).x;omega⟩,⟨⟨ha.m0,ha.m1⟩,fun i hi j hj=>⟨(hg i hi j hj).m0,(hg i hi j hj).m1⟩⟩⟩
 obtain ⟨q,h1,h2⟩:=hq i hi
 rw [h2]
 have:=(ht q h1).2.2
 show q.2.length≤_
 omega
theorem cat_congr9 {f g:Nat→List Int}:∀ {n},(∀ i,i < n→f i=g i)→cat f n=cat g n
 | 0,_=>rfl
 | n+1,h=>by
  show cat f n ++ f n=cat g n ++ g n
  rw [cat_congr9 (fun i hi=>h i (by omega)),h n (by omega)]
theorem toI_take {α : Type} (f : α → List UInt8) (d : α) (L:List α):∀ n,n≤L.length→toI ((L.take n).flatMap f)=cat (fun i=>toI (f (L.getD i d))) n
 | 0,_=>by rw [List.take_zero];rfl
 | n+1,h=>by
  have hz:L[n]? = some L[n]:=List.getElem?_eq_getElem (by omega)
  rw [List.take_add_one,hz,List.flatMap_append,toI_app,toI_take f d L n (by omega)]
  show _=cat _ n ++ toI (f (L.getD n d))
  simp [List.getD,hz]
theorem toI_flat {α : Type} (f : α → List UInt8) (d : α) (L:List α):toI (L.flatMap f)=cat (fun i=>toI (f (L.getD i d))) L.length:=by
 have:=toI_take f d L L.length (Nat.le_refl _)
 rw [List.take_length] at this
 exact this
theorem toI_te (q:Int × List Gv):toI (te q)=ndl (td9 q):=by
 unfold te t8 ndl td9
 rw [toI_app,toI_app,toI_vb,toI_vb,toI_flat v8 default,← List.append_assoc]
 congr 1
 exact cat_congr9 (fun i _=>toI_v8 _)
theorem toI_g8 (y:Gv) (ys:List (Int × List Gv)):toI (g8 y ys)=gbl y ys.length (TF ys):=by
 unfold g8 gbl
 rw [toI_app,toI_app,toI_vb,toI_v8,toI_flat te default,← List.append_assoc]
 congr 1
 exact cat_congr9 (fun i _=>toI_te _)
def lF (n:Nat) (F:Nat→Td):List (Int × List Gv):=(List.range n).map (fun i=>((F i).t,(List.range (F i).c).map (F i).C))
theorem lF_len (n:Nat) (F:Nat→Td):(lF n F).length=n:=by unfold lF;simp
theorem lF_at {n:Nat} (F:Nat→Td) {i:Nat} (h:i < n):TF (lF n F) i=td9 ((F i).t,(List.range (F i).c).map (F i).C):=by
 unfold TF lF
 simp [List.getD,h]
theorem gbl_lF (A:Gv) (n:Nat) (F:Nat→Td):gbl A n F=toI (g8 A (lF n F)):=by
 rw [toI_g8,lF_len]
 unfold gbl
 congr 1
 refine cat_congr9 (fun i hi=>?_)
 rw [lF_at F hi]
 unfold ndl td9
 simp only [List.length_map,List.length_range]
 congr 1
 refine cat_congr9 (fun j hj=>?_)
 simp [List.getD,hj]
theorem wv_rnm {n:Nat} {o:List Int} {v:Gv} (h:Vok n v) (hm : -9223372036854775808≤v.m∧v.m≤9223372036854775807) (ho:o.length≤600):Wv (rnm o v):=by
 have e2:(rnm o v).m=v.m:=by unfold rnm;split <;> rfl
 refine ⟨?_,by rw [e2];exact hm.1,by rw [e2];exact hm.2⟩
 by_cases h4:v.k=4
 ·unfold rnm
  rw [if_pos h4]
  have hi:=List.idxOf_le_length (a:=v.r) (l:=o)
  rcases h with h | h | h | h
  ·have:=h.1;omega
  ·rcases h.1 with q | q <;> omega
  ·have:=h.1;omega
  ·refine .inr (.inr (.inr ⟨h4,h.2.1,h.2.2.1,?_,?_⟩))
   ·show 0≤((o.idxOf v.r:Nat):Int);omega
   ·show ((o.idxOf v.r:Nat):Int) < ((5001:Nat):Int);omega
 ·unfold rnm
  rw [if_neg h4]
  rcases h with h | h | h | h
  ·exact .inl h
  ·exact .inr (.inl h)
  ·exact .inr (.inr (.inl h))
  ·exact absurd h.1 h4
theorem can_wv {n:Nat} {F:Nat→Td} {a:Gv} (h:Gok n F a) (hr:Rg n F a):Wv (rnm (cO n F a) a)∧(∀ q,q ∈ lF (cO n F a).length (cF n F a)→Tok q)∧(lF (cO n F a).length (cF n F a)).length≤600:=by
 have hnl:=nl_cO (gok_lk h)
 have hl:=Nat.le_trans (nl_len _ _ hnl) h.1
 refine ⟨wv_rnm h.2.1 hr.a0 hl,fun q hq=>?_,by rw [lF_len];exact hl⟩
 unfold lF at hq
 obtain ⟨k,hk,rfl⟩:=List.mem_map.1 hq
 have hk:=List.mem_range.1 hk
 have hx:=(nth_lt hnl hk).1
 obtain ⟨⟨t0,t1,c⟩,hv⟩:=h.2.2 _ hx
 refine ⟨t0,?_,fun y hy=>?_,?_⟩
 ·show (F (nth (cO n F a) k)).t≤_;omega
 ·obtain ⟨j,hj,rfl⟩:=List.mem_map.1 hy
  have hj:=List.mem_range.1 hj
  exact wv_rnm (hv j hj) (hr.f0 _ hx j hj) hl
 ·show (List.map _ _).length≤300
  rw [List.length_map,List.length_range]
  exact c
theorem pck_read {n:Nat} {F:Nat→Td} {a:Gv} {M:List UInt8} (hr:Rg n F a) (hp:pck n F a=toI M) (hM:M ≠ []):Gok n F a∧pfl n F a=toI M∧M.length≤8192∧∃ (y:Gv) (ys:List (Int × List Gv)) (rest:List UInt8),Wv y∧(∀ q,q ∈ ys→Tok q)∧ys.length≤600∧M.drop 2=g8 y ys ++ rest:=by
 unfold pck at hp
 by_cases hd:Gok n F a∧(pfl n F a).length≤8192
 ·rw [if_pos (dc_t hd)] at hp
  obtain ⟨c1,c2,c3⟩:=can_wv hd.1 hr
  refine ⟨hd.1,hp,by rw [← toI_len,← hp];exact hd.2,_,_,e8 (sm64 (pbd n F a)) 8,c1,c2,c3,?_⟩
  have e:M = [72,49] ++ (g8 (rnm (cO n F a) a) (lF (cO n F a).length (cF n F a)) ++ e8 (sm64 (pbd n F a)) 8):=by
   refine toI_inj ?_
   rw [← hp,toI_app,toI_app,toI_e8,← gbl_lF]
   unfold pfl
   rw [show pbd n F a = [72,49] ++ gbl (rnm (cO n F a) a) (cO n F a).length (cF n F a) from rfl,List.append_assoc]
   rfl
  rw [e]
  rfl
 ·rw [if_neg (by rw [dc_f hd];simp)] at hp
  exact (hM (toI_inj (a:=M) (b:=[]) (by rw [← hp];rfl))).elim
end Go.Proofs.Ytamcnmnaadpfoaa.Fo
