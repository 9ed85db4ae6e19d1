import Derived.Test.YtamcnmnaadpfoaaFUam
import Derived.Deep.AppendLies
import Derived.Test.YtamcnmnaadpfoaaFGdf
set_option maxHeartbeats 8000000
namespace Go.Proofs.Ytamcnmnaadpfoaa.Fo
open Go.ChangeShapes Go.WideShapes Go.ChangeAt Go.RowKit
set_option linter.unusedVariables false
set_option maxRecDepth 100000
theorem drop_app {M l r:List UInt8} {k:Nat} (h:M.drop k=l ++ r):M.drop (k+l.length)=r:=by
 rw [← List.drop_drop,h,List.drop_left]
def LX {α : Type} (enc : α → List UInt8) (ok : α → Prop) (M:List UInt8) (k:Nat) (lost:Bool) (most:Nat) (cnt:Int) (L:List α) (k':Nat) (lost':Bool):Prop :=
 ∀ ys rest,lost=false→(∀ y,y ∈ ys→ok y)→cnt=(ys.length:Int)→ys.length≤most→M.drop k=ys.flatMap enc ++ rest→L=ys∧k'=k+(ys.flatMap enc).length∧lost'=false
def LJ {α : Type} (enc : α → List UInt8) (ok : α → Prop) (M:List UInt8) (k:Nat) (lost:Bool) (most:Nat) (cnt:Int) (L:List α) (k':Nat) (lost':Bool):Prop :=
 ∀ ys rest,lost=false→(∀ y,y ∈ ys→ok y)→cnt=(ys.length:Int)→ys.length≤most→M.drop k=ys.flatMap enc ++ rest→lost'=false∧∃ suf,ys=L ++ suf∧M.drop k'=suf.flatMap enc ++ rest∧k'=k+(L.flatMap enc).length
theorem LJ.zero {α : Type} {enc : α → List UInt8} {ok : α → Prop} {M:List UInt8} {k:Nat} {lost:Bool} {most:Nat} {cnt:Int} {l2:Bool} (hl:lost=false→¬ ((most:Int) < cnt)→l2=false):LJ enc ok M k lost most cnt [] k l2:=by
 intro ys rest e hy hn hm hd
 exact ⟨hl e (by omega),ys,rfl,hd,rfl⟩
theorem LJ.step {α : Type} {enc : α → List UInt8} {ok : α → Prop} {M : List UInt8} {k : Nat} {lost : Bool} {most : Nat} {cnt : Int} {L : List α} {k1 : Nat} {l1 : Bool} {x : α} {k2 : Nat} {l2 : Bool} (h : LJ enc ok M k lost most cnt L k1 l1) (hc : (L.length : Int) < cnt)
  (hx:∀ y rest,l1=false→ok y→M.drop k1=enc y ++ rest→x=y∧k2=k1+(enc y).length∧l2=false):LJ enc ok M k lost most cnt (L ++ [x]) k2 l2:=by
 intro ys rest e hy hn hm hd
 obtain ⟨q2,suf,rfl,q4,q5⟩:=h ys rest e hy hn hm hd
 cases suf with
 | nil=>rw [List.append_nil] at hn;omega
 | cons y suf =>
  rw [List.flatMap_cons,List.append_assoc] at q4
  obtain ⟨r1,r2,r3⟩:=hx y _ q2 (hy y (by simp)) q4
  subst r1
  have q6:=drop_app q4
  rw [← r2] at q6
  exact ⟨r3,suf,by simp,q6,by rw [r2,q5,List.flatMap_append,List.length_append];simp;omega⟩
theorem LJ.done {α : Type} {enc : α → List UInt8} {ok : α → Prop} {M:List UInt8} {k:Nat} {lost:Bool} {most:Nat} {cnt:Int} {L:List α} {k1:Nat} {l1:Bool} (h:LJ enc ok M k lost most cnt L k1 l1) (hc:¬ ((L.length:Int) < cnt∧l1=false)):LX enc ok M k lost most cnt L k1 l1:=by
 intro ys rest e hy hn hm hd
 obtain ⟨q2,suf,rfl,q4,q5⟩:=h ys rest e hy hn hm hd
 cases suf with
 | nil =>
  rw [List.append_nil]
  exact ⟨rfl,q5,q2⟩
 | cons y suf=>exact (hc ⟨by rw [hn,List.length_append,List.length_cons];omega,q2⟩).elim
theorem Kg.gr {b:Nat} {W w2 w3:World} {r:Option Nat} (h:Kg b W w2) (z:w2.grownBy w3 r) (hg:∀ g,r=some g→W.heap.size≤g):Kg b W w3 :=
 ⟨z.os.trans h.os,z.output.trans h.output,Nat.le_trans h.size z.size,fun i h1 h2=>(z.block i (Nat.lt_of_lt_of_le h1 h.size) (fun e=>by have:=hg i e.symm;omega)).trans (h.block i h1 h2)⟩
theorem rowBlk9 {w w':World} {base:Nat} {e:TypeId} {size:Nat} {v:Value} {n:Nat} {xs:List Value} (h:w.ownsRow base e size v n xs) (hb:∀ g,v.ownBlock=some g→w'.heap[g]? = w.heap[g]?):w'.ownsRow base e size v n xs:=by
 refine ⟨h.1,?_⟩
 rcases h.2 with h | ⟨g,cap,cur,rfl,h1,h2,h3⟩
 ·exact .inl h
 ·exact .inr ⟨g,cap,cur,rfl,h1,(hb g rfl).trans h2,h3⟩
theorem Kg.row {b:Nat} {w1 w2:World} {base:Nat} {e:TypeId} {size:Nat} {v:Value} {n:Nat} {xs:List Value} (z:Kg b w1 w2) (h:w1.ownsRow base e size v n xs) (hb:b < base):w2.ownsRow base e size v n xs :=
 rowBlk9 h (fun g e=>z.block g (h.lt g e).2 (by have:=(h.lt g e).1;omega))
structure RLs {α : Type} (cl : α → List Value) (ty:TypeId) (wd:Nat) (enc : α → List UInt8) (tot ok : α → Prop) (b:Nat) (p:Option Addr) (c:Nat) (M:List UInt8) (k:Nat) (lost:Bool) (W:World) (most:Nat) (cnt:Int) (L:List α) (k':Nat) (l':Bool) (v:Value) (wr:World):Prop where
 rd:RI b p c M k' l' wr
 r0:RI b p c M k lost W
 le:k≤k'
 ks:Kg b W wr
 row:wr.ownsRow W.heap.size ty wd v L.length (L.flatMap cl)
 tt:∀ x,x ∈ L→tot x
 mo:L.length≤most
 cn:l'=false→cnt≤(most:Int)
 lo:lost=true→l'=true
 gt:l'=false→k+L.length≤k'
 ex:LJ enc ok M k lost most cnt L k' l'
theorem RLs.step {α : Type} {cl : α → List Value} {ty : TypeId} {wd : Nat} {enc : α → List UInt8} {tot ok : α → Prop} {b : Nat} {p : Option Addr} {c : Nat} {M : List UInt8} {k : Nat} {lost : Bool} {W : World} {most : Nat} {cnt : Int} {L : List α} {k' : Nat} {l' : Bool} {v : Value} {wr : World} (s : RLs cl ty wd enc tot ok b p c M k lost W most cnt L k' l' v wr) (hl : l' = false) (hc : (L.length : Int) < cnt)
  {w1:World} {x : α} {k2:Nat} {l2:Bool} (h1:RI b p c M k2 l2 w1) (h2:k'≤k2) (h3:Kg b wr w1) (h4:tot x) (h5:l2=false→k' < k2) (h6:l'=true→l2=true) (h7:∀ y rest,l'=false→ok y→M.drop k'=enc y ++ rest→x=y∧k2=k'+(enc y).length∧l2=false)
  {o:Obj} {v':Value} {w3:World} (h8:w3.ownsRow W.heap.size ty wd v' (L.length+1) (L.flatMap cl ++ cl x)) (h9:(w1.alloc o).grownBy w3 v.ownBlock):RLs cl ty wd enc tot ok b p c M k lost W most cnt (L ++ [x]) k2 l2 v' w3:=by
 have hg:∀ g,v.ownBlock=some g→W.heap.size≤g:=fun g e=>(s.row.lt g e).1
 have ka:Kb 0 w1 (w1.alloc o):=kb_alloc 0 w1 o
 have kk:Kg b W w3:=((s.ks.trans h3).trans (Kg.of_kb ka)).gr h9 hg
 have hb:=s.r0.lt
 have hb1:=h1.lt
 have hbk:w3.heap[b]? = w1.heap[b]?:=(h9.block b (by have:=ka.size;omega) (fun e=>by have:=hg b e.symm;omega)).trans (ka.block b (Nat.zero_le _) hb1)
 refine ⟨s.r0.kg kk (hbk.trans h1.blk) h1.le,s.r0,Nat.le_trans s.le h2,kk,?_,?_,?_,?_,?_,?_,s.ex.step hc h7⟩
 ·rw [List.length_append,List.flatMap_append]
  simpa using h8
 ·intro y hy
  rcases List.mem_append.1 hy with hy | hy
  ·exact s.tt y hy
  ·rw [List.mem_singleton.1 hy];exact h4
 ·have:=s.cn hl
  rw [List.length_append,List.length_singleton]
  omega
 ·intro e
  exact s.cn hl
 ·intro e
  exact h6 (s.lo e)
 ·intro e
  have:=s.gt hl
  have:=h5 e
  rw [List.length_append,List.length_singleton]
  omega
def RL {α : Type} (cl : α → List Value) (ty:TypeId) (wd:Nat) (enc : α → List UInt8) (tot ok : α → Prop) (b:Nat) (p:Option Addr) (c:Nat) (M:List UInt8) (k:Nat) (lost:Bool) (W:World) (most:Nat) (cnt:Int) (e:Ending) (w':World):Prop :=
 ∃ v k' l' L,e = .returned v∧RI b p c M k' l' w'∧k≤k'∧Kg b W w'∧w'.ownsRow W.heap.size ty wd v L.length (L.flatMap cl)∧(∀ x,x ∈ L→tot x)∧L.length≤most∧(lost=true→l'=true)∧(l'=false→k+L.length≤k')∧LX enc ok M k lost most cnt L k' l'
theorem RLs.done {α : Type} {cl : α → List Value} {ty:TypeId} {wd:Nat} {enc : α → List UInt8} {tot ok : α → Prop} {b:Nat} {p:Option Addr} {c:Nat} {M:List UInt8} {k:Nat} {lost:Bool} {W:World} {most:Nat} {cnt:Int} {L:List α} {k':Nat} {l':Bool} {v:Value} {wr:World} (s:RLs cl ty wd enc tot ok b p c M k lost W most cnt L k' l' v wr) (hc:¬ ((L.length:Int) < cnt∧l'=false)):RL cl ty wd enc tot ok b p c M k lost W most cnt (.returned v) wr :=
 ⟨v,k',l',L,rfl,s.rd,s.le,s.ks,s.row,s.tt,s.mo,s.lo,s.gt,s.ex.done hc⟩
theorem RLs.begin {α : Type} {cl : α → List Value} {ty : TypeId} {wd : Nat} {enc : α → List UInt8} {tot ok : α → Prop} {b : Nat} {p : Option Addr} {c : Nat} {M : List UInt8} {k : Nat} {lost : Bool} {W : World} {most : Nat} {cnt : Int} (h : RI b p c M k lost W) :
  RLs cl ty wd enc tot ok b p c M k lost W most cnt [] k (lost || decide ((most:Int) < cnt)) (.slice none 0 0) (W.setCell ⟨b,2,none⟩ (.bool (lost || decide ((most:Int) < cnt)))):=by
 have z:Kz b W (W.setCell ⟨b,2,none⟩ (.bool (lost || decide ((most:Int) < cnt)))):=(Kz.refl b W).set 2 _
 refine ⟨h.kz z (by rw [set_known _ h.blk];rfl) h.le,h,Nat.le_refl _,z.kg,World.ownsRow_nil _ _ _ _,fun x hx=>(nomatch hx),Nat.zero_le _,?_,?_,fun _=>Nat.le_refl _,LJ.zero ?_⟩
 ·intro e
  rw [Bool.or_eq_false_iff] at e
  have:=e.2
  simp at this
  exact this
 ·intro e
  rw [e];rfl
 ·intro e1 e2
  rw [e1]
  simp at e2 ⊢
  exact e2
def lnOf:Value→Nat
 | .slice _ n _=>n
 | _=>0
def glc (x:Gv):List Value:=[.int .i64 x.k,.int .i64 x.m,.string x.x,.int .i64 x.r]
theorem rl_val {b : Nat} {p : Option Addr} {c : Nat} {M : List UInt8} {k : Nat} {lost : Bool} {W : World} (h : RI b p c M k lost W) (most : Nat) (hm : most ≤ 6000) (cnt : Int) :
  Calls Try.prog 104 #[.pointer (some ⟨b,0,none⟩),.int .i64 cnt,.int .i64 (most:Int),.func (Fn.func 80) #[.pointer (some ⟨b,0,none⟩)] #[]] W (RL glc 41 4 v8 Rv9 Wv b p c M k lost W most cnt):=by
 obtain ⟨i0,hi0,hz0,hz1,hz2⟩:=info_parts infoV
 have HI0:Hid (Try.prog.info? 41=some i0):=hi0
 have c2:W.cell? ⟨b,2,none⟩=some (.bool lost):=cell_of h.blk rfl
 have f2:W.frozen? ⟨b,2,none⟩=false:=frozen_of h.blk
 have HS:Hid (RLs glc 41 4 v8 Rv9 Wv b p c M k lost W most cnt [] k (lost || decide ((most:Int) < cnt)) (.slice none 0 0) (W.setCell ⟨b,2,none⟩ (.bool (lost || decide ((most:Int) < cnt))))):=RLs.begin h
 have HM:Hid (most≤6000):=hm
 clear h hm hi0
 by_cases hl1:lost=true
 ·subst hl1
  rw [Bool.true_or] at HS
  go_enter Try.func104,Try.ntmps104
  go_upto_region 3 with fail
  clear c2 f2
  obtain ⟨w2,hw2⟩:∃ w2,w2=W.setCell ⟨b,2,none⟩ (.bool true):=⟨_,rfl⟩
  rw [← hw2] at HS ⊢
  clear hw2
  go_loopw [9] (fun s9 wr=>∃ (L:List Gv) (k':Nat) (l':Bool),Hid (RLs glc 41 4 v8 Rv9 Wv b p c M k true W most cnt L k' l' s9 wr)) (fun s9 _=>cnt.toNat - lnOf s9)
  case atStart=>exact ⟨[],k,true,HS⟩
  case round =>
   clear HS
   obtain ⟨L,k',l',HR⟩:=hrel
   have hR:=(show RLs glc 41 4 v8 Rv9 Wv b p c M k true W most cnt L k' l' u9 wr from HR)
   obtain ⟨ad,cap,rfl⟩:=own_shape hR.row
   clear HR
   have c2:wr.cell? ⟨b,2,none⟩=some (.bool l'):=cell_of hR.rd.blk rfl
   have hLm:(L.length:Int)≤6000:=by have:=hR.mo;have:=(show most≤6000 from HM);omega
   by_cases hgo:(L.length:Int) < cnt
   ·cases l' with
    | true =>
     have HD:Hid (RL glc 41 4 v8 Rv9 Wv b p c M k true W most cnt (.returned (.slice ad L.length cap)) wr):=hR.done (by simp)
     clear hR HI0
     go_wp2_with fail
     go_ret
     exact HD
    | false =>
     have HC:=im_rval hR.rd
     have HST:Hid (RLs glc 41 4 v8 Rv9 Wv b p c M k true W most cnt L k' false (.slice ad L.length cap) wr):=hR
     have hbz:b < W.heap.size:=hR.r0.lt
     have hwz:=hR.ks.size
     clear hR
     go_wp2_with fail
     refine HC.mono ?_
     rintro e w1 ⟨x,k2,l2,rfl,y1,y2,y3,y4,y5,y6,y7⟩
     have hw1:=y3.size
     have hown:=Kg.row (Kg.of_kb (b:=b) (kb_alloc 0 w1 (.cells #[.int .i64 x.k,.int .i64 x.m,.string x.x,.int .i64 x.r] 41))) (Kg.row y3 (show RLs glc 41 4 v8 Rv9 Wv b p c M k true W most cnt L k' false (.slice ad L.length cap) wr from HST).row hbz) hbz
     have hqc:=qr_cells w1 #[.int .i64 x.k,.int .i64 x.m,.string x.x,.int .i64 x.r] 41 [.int .i64 x.k,.int .i64 x.m,.string x.x,.int .i64 x.r] rfl
     have h1c:∀ u ∈ ([.int .i64 x.k,.int .i64 x.m,.string x.x,.int .i64 x.r]:List Value),u.oneCell'=true:=by intro u hu;simp at hu;rcases hu with rfl | rfl | rfl | rfl <;> rfl
     have HSTP:Hid (∀ (v':Value) (w3:World),w3.ownsRow W.heap.size 41 4 v' (L.length+1) (L.flatMap glc ++ [.int .i64 x.k,.int .i64 x.m,.string x.x,.int .i64 x.r])→(w1.alloc (.cells #[.int .i64 x.k,.int .i64 x.m,.string x.x,.int .i64 x.r] 41)).grownBy w3 (Value.slice ad L.length cap).ownBlock→RLs glc 41 4 v8 Rv9 Wv b p c M k true W most cnt (L ++ [x]) k2 l2 v' w3):=(fun v' w3 h1 h2=>(show RLs glc 41 4 v8 Rv9 Wv b p c M k true W most cnt L k' false (.slice ad L.length cap) wr from HST).step rfl hgo y1 y2 y3 y4 y5 y6 y7 h1 h2:∀ (v':Value) (w3:World),_)
     clear y1 y2 y3 y4 y5 y6 y7 HC HST c2
     go_wp2_with (at_builtin;refine wpList_append_own _ rfl (.tmp 36) (.tmp 39) 48 rfl W.heap.size 41 i0 (.agg #[.int .i64 0,.int .i64 0,.string ⟨#[]⟩,.int .i64 0]) 4 40 Try.underlying48 HI0 hz0 hz1 hz2 rfl (by decide) _ _ _ rfl hown ⟨w1.heap.size,0,none⟩ 1 1 [.int .i64 x.k,.int .i64 x.m,.string x.x,.int .i64 x.r] rfl rfl hqc h1c (by unfold maxLen;omega) (by omega) (by simp;omega) ?_;intro v' w3 hown3 hgr3 _;have HN:Hid (RLs glc 41 4 v8 Rv9 Wv b p c M k true W most cnt (L ++ [x]) k2 l2 v' w3):=(show ∀ (v':Value) (w3:World),_ from HSTP) _ _ hown3 hgr3;obtain ⟨g',cap',rfl,_,_⟩:=hown3.form (by omega);clear hown3 hgr3 hown hqc h1c HSTP)
     go_roundw
     case rel=>exact ⟨L ++ [x],k2,l2,HN⟩
     case measure=>simp [lnOf];omega
   ·have HD:Hid (RL glc 41 4 v8 Rv9 Wv b p c M k true W most cnt (.returned (.slice ad L.length cap)) wr):=hR.done (fun e=>hgo e.1)
    clear hR HI0
    go_wp2_with fail
    go_ret
    exact HD
 ·obtain rfl:lost=false:=by cases lost <;> simp_all
  rw [Bool.false_or] at HS
  by_cases hcm:(most:Int) < cnt
  ·rw [decide_eq_true hcm] at HS
   go_enter Try.func104,Try.ntmps104
   go_upto_region 3 with fail
   clear c2 f2 hcm
   obtain ⟨w2,hw2⟩:∃ w2,w2=W.setCell ⟨b,2,none⟩ (.bool true):=⟨_,rfl⟩
   rw [← hw2] at HS ⊢
   clear hw2
   go_loopw [9] (fun s9 wr=>∃ (L:List Gv) (k':Nat) (l':Bool),Hid (RLs glc 41 4 v8 Rv9 Wv b p c M k false W most cnt L k' l' s9 wr)) (fun s9 _=>cnt.toNat - lnOf s9)
   case atStart=>exact ⟨[],k,true,HS⟩
   case round =>
    clear HS
    obtain ⟨L,k',l',HR⟩:=hrel
    have hR:=(show RLs glc 41 4 v8 Rv9 Wv b p c M k false W most cnt L k' l' u9 wr from HR)
    obtain ⟨ad,cap,rfl⟩:=own_shape hR.row
    clear HR
    have c2:wr.cell? ⟨b,2,none⟩=some (.bool l'):=cell_of hR.rd.blk rfl
    have hLm:(L.length:Int)≤6000:=by have:=hR.mo;have:=(show most≤6000 from HM);omega
    by_cases hgo:(L.length:Int) < cnt
    ·cases l' with
     | true =>
      have HD:Hid (RL glc 41 4 v8 Rv9 Wv b p c M k false W most cnt (.returned (.slice ad L.length cap)) wr):=hR.done (by simp)
      clear hR HI0
      go_wp2_with fail
      go_ret
      exact HD
     | false =>
      have HC:=im_rval hR.rd
      have HST:Hid (RLs glc 41 4 v8 Rv9 Wv b p c M k false W most cnt L k' false (.slice ad L.length cap) wr):=hR
      have hbz:b < W.heap.size:=hR.r0.lt
      have hwz:=hR.ks.size
      clear hR
      go_wp2_with fail
      refine HC.mono ?_
      rintro e w1 ⟨x,k2,l2,rfl,y1,y2,y3,y4,y5,y6,y7⟩
      have hw1:=y3.size
      have hown:=Kg.row (Kg.of_kb (b:=b) (kb_alloc 0 w1 (.cells #[.int .i64 x.k,.int .i64 x.m,.string x.x,.int .i64 x.r] 41))) (Kg.row y3 (show RLs glc 41 4 v8 Rv9 Wv b p c M k false W most cnt L k' false (.slice ad L.length cap) wr from HST).row hbz) hbz
      have hqc:=qr_cells w1 #[.int .i64 x.k,.int .i64 x.m,.string x.x,.int .i64 x.r] 41 [.int .i64 x.k,.int .i64 x.m,.string x.x,.int .i64 x.r] rfl
      have h1c:∀ u ∈ ([.int .i64 x.k,.int .i64 x.m,.string x.x,.int .i64 x.r]:List Value),u.oneCell'=true:=by intro u hu;simp at hu;rcases hu with rfl | rfl | rfl | rfl <;> rfl
      have HSTP:Hid (∀ (v':Value) (w3:World),w3.ownsRow W.heap.size 41 4 v' (L.length+1) (L.flatMap glc ++ [.int .i64 x.k,.int .i64 x.m,.string x.x,.int .i64 x.r])→(w1.alloc (.cells #[.int .i64 x.k,.int .i64 x.m,.string x.x,.int .i64 x.r] 41)).grownBy w3 (Value.slice ad L.length cap).ownBlock→RLs glc 41 4 v8 Rv9 Wv b p c M k false W most cnt (L ++ [x]) k2 l2 v' w3):=(fun v' w3 h1 h2=>(show RLs glc 41 4 v8 Rv9 Wv b p c M k false W most cnt L k' false (.slice ad L.length cap) wr from HST).step rfl hgo y1 y2 y3 y4 y5 y6 y7 h1 h2:∀ (v':Value) (w3:World),_)
      clear y1 y2 y3 y4 y5 y6 y7 HC HST c2
      go_wp2_with (at_builtin;refine wpList_append_own _ rfl (.tmp 36) (.tmp 39) 48 rfl W.heap.size 41 i0 (.agg #[.int .i64 0,.int .i64 0,.string ⟨#[]⟩,.int .i64 0]) 4 40 Try.underlying48 HI0 hz0 hz1 hz2 rfl (by decide) _ _ _ rfl hown ⟨w1.heap.size,0,none⟩ 1 1 [.int .i64 x.k,.int .i64 x.m,.string x.x,.int .i64 x.r] rfl rfl hqc h1c (by unfold maxLen;omega) (by omega) (by simp;omega) ?_;intro v' w3 hown3 hgr3 _;have HN:Hid (RLs glc 41 4 v8 Rv9 Wv b p c M k false W most cnt (L ++ [x]) k2 l2 v' w3):=(show ∀ (v':Value) (w3:World),_ from HSTP) _ _ hown3 hgr3;obtain ⟨g',cap',rfl,_,_⟩:=hown3.form (by omega);clear hown3 hgr3 hown hqc h1c HSTP)
      go_roundw
      case rel=>exact ⟨L ++ [x],k2,l2,HN⟩
      case measure=>simp [lnOf];omega
    ·have HD:Hid (RL glc 41 4 v8 Rv9 Wv b p c M k false W most cnt (.returned (.slice ad L.length cap)) wr):=hR.done (fun e=>hgo e.1)
     clear hR HI0
     go_wp2_with fail
     go_ret
     exact HD
  ·rw [decide_eq_false hcm] at HS
   go_enter Try.func104,Try.ntmps104
   go_upto_region 3 with fail
   clear c2 f2
   obtain ⟨w2,hw2⟩:∃ w2,w2=W.setCell ⟨b,2,none⟩ (.bool false):=⟨_,rfl⟩
   rw [← hw2] at HS ⊢
   clear hw2
   go_loopw [9] (fun s9 wr=>∃ (L:List Gv) (k':Nat) (l':Bool),Hid (RLs glc 41 4 v8 Rv9 Wv b p c M k false W most cnt L k' l' s9 wr)) (fun s9 _=>cnt.toNat - lnOf s9)
   case atStart=>exact ⟨[],k,false,HS⟩
   case round =>
    clear HS
    obtain ⟨L,k',l',HR⟩:=hrel
    have hR:=(show RLs glc 41 4 v8 Rv9 Wv b p c M k false W most cnt L k' l' u9 wr from HR)
    obtain ⟨ad,cap,rfl⟩:=own_shape hR.row
    clear HR
    have c2:wr.cell? ⟨b,2,none⟩=some (.bool l'):=cell_of hR.rd.blk rfl
    have hLm:(L.length:Int)≤6000:=by have:=hR.mo;have:=(show most≤6000 from HM);omega
    by_cases hgo:(L.length:Int) < cnt
    ·cases l' with
     | true =>
      have HD:Hid (RL glc 41 4 v8 Rv9 Wv b p c M k false W most cnt (.returned (.slice ad L.length cap)) wr):=hR.done (by simp)
      clear hR HI0
      go_wp2_with fail
      go_ret
      exact HD
     | false =>
      have HC:=im_rval hR.rd
      have HST:Hid (RLs glc 41 4 v8 Rv9 Wv b p c M k false W most cnt L k' false (.slice ad L.length cap) wr):=hR
      have hbz:b < W.heap.size:=hR.r0.lt
      have hwz:=hR.ks.size
      clear hR
      go_wp2_with fail
      refine HC.mono ?_
      rintro e w1 ⟨x,k2,l2,rfl,y1,y2,y3,y4,y5,y6,y7⟩
      have hw1:=y3.size
      have hown:=Kg.row (Kg.of_kb (b:=b) (kb_alloc 0 w1 (.cells #[.int .i64 x.k,.int .i64 x.m,.string x.x,.int .i64 x.r] 41))) (Kg.row y3 (show RLs glc 41 4 v8 Rv9 Wv b p c M k false W most cnt L k' false (.slice ad L.length cap) wr from HST).row hbz) hbz
      have hqc:=qr_cells w1 #[.int .i64 x.k,.int .i64 x.m,.string x.x,.int .i64 x.r] 41 [.int .i64 x.k,.int .i64 x.m,.string x.x,.int .i64 x.r] rfl
      have h1c:∀ u ∈ ([.int .i64 x.k,.int .i64 x.m,.string x.x,.int .i64 x.r]:List Value),u.oneCell'=true:=by intro u hu;simp at hu;rcases hu with rfl | rfl | rfl | rfl <;> rfl
      have HSTP:Hid (∀ (v':Value) (w3:World),w3.ownsRow W.heap.size 41 4 v' (L.length+1) (L.flatMap glc ++ [.int .i64 x.k,.int .i64 x.m,.string x.x,.int .i64 x.r])→(w1.alloc (.cells #[.int .i64 x.k,.int .i64 x.m,.string x.x,.int .i64 x.r] 41)).grownBy w3 (Value.slice ad L.length cap).ownBlock→RLs glc 41 4 v8 Rv9 Wv b p c M k false W most cnt (L ++ [x]) k2 l2 v' w3):=(fun v' w3 h1 h2=>(show RLs glc 41 4 v8 Rv9 Wv b p c M k false W most cnt L k' false (.slice ad L.length cap) wr from HST).step rfl hgo y1 y2 y3 y4 y5 y6 y7 h1 h2:∀ (v':Value) (w3:World),_)
      clear y1 y2 y3 y4 y5 y6 y7 HC HST c2
      go_wp2_with (at_builtin;refine wpList_append_own _ rfl (.tmp 36) (.tmp 39) 48 rfl W.heap.size 41 i0 (.agg #[.int .i64 0,.int .i64 0,.string ⟨#[]⟩,.int .i64 0]) 4 40 Try.underlying48 HI0 hz0 hz1 hz2 rfl (by decide) _ _ _ rfl hown ⟨w1.heap.size,0,none⟩ 1 1 [.int .i64 x.k,.int .i64 x.m,.string x.x,.int .i64 x.r] rfl rfl hqc h1c (by unfold maxLen;omega) (by omega) (by simp;omega) ?_;intro v' w3 hown3 hgr3 _;have HN:Hid (RLs glc 41 4 v8 Rv9 Wv b p c M k false W most cnt (L ++ [x]) k2 l2 v' w3):=(show ∀ (v':Value) (w3:World),_ from HSTP) _ _ hown3 hgr3;obtain ⟨g',cap',rfl,_,_⟩:=hown3.form (by omega);clear hown3 hgr3 hown hqc h1c HSTP)
      go_roundw
      case rel=>exact ⟨L ++ [x],k2,l2,HN⟩
      case measure=>simp [lnOf];omega
    ·have HD:Hid (RL glc 41 4 v8 Rv9 Wv b p c M k false W most cnt (.returned (.slice ad L.length cap)) wr):=hR.done (fun e=>hgo e.1)
     clear hR HI0
     go_wp2_with fail
     go_ret
     exact HD
def t8 (T:Nat) (ys:List Gv):List UInt8:=vb T ++ (vb ys.length ++ ys.flatMap v8)
def RT9 (b:Nat) (p:Option Addr) (c:Nat) (M:List UInt8) (k:Nat) (lost:Bool) (W:World) (e:Ending) (w':World):Prop:=∃ (t:Int) (v:Value) (L:List Gv) (k':Nat) (l':Bool),e = .returned (.agg #[.int .i64 t,v])∧RI b p c M k' l' w'∧k≤k'∧Kg b W w'∧w'.ownsRow W.heap.size 41 4 v L.length (L.flatMap glc)∧(∀ x,x ∈ L→Rv9 x)∧Rn t∧L.length≤300∧(l'=false→k+L.length < k')∧(lost=true→l'=true)∧∀ (T:Nat) (ys:List Gv) rest,lost=false→T≤9223372036854775807→(∀ y,y ∈ ys→Wv y)→ys.length≤300→M.drop k=t8 T ys ++ rest→t=(T:Int)∧L=ys∧k'=k+(t8 T ys).length∧l'=false
theorem ownsRow_mono9 {w:World} {base base':Nat} {e:TypeId} {size:Nat} {v:Value} {n:Nat} {xs:List Value} (h:w.ownsRow base e size v n xs) (hb:base'≤base):w.ownsRow base' e size v n xs:=by
 refine ⟨h.1,?_⟩
 rcases h.2 with h | ⟨g,cap,cur,rfl,h1,h2,h3⟩
 ·exact .inl h
 ·exact .inr ⟨g,cap,cur,rfl,Nat.le_trans hb h1,h2,h3⟩
theorem im_rthing {b : Nat} {p : Option Addr} {c : Nat} {M : List UInt8} {k : Nat} {lost : Bool} {W : World} (h : RI b p c M k lost W) :
    Calls Try.prog 82 #[.pointer (some ⟨b,0,none⟩)] W (RT9 b p c M k lost W):=by
  obtain ⟨w1,hw1⟩:∃ w1,w1=W.alloc (.cells #[.int .i64 0,.slice none 0 0] 50):=⟨_,rfl⟩
  have k1:Kb 0 W w1:=by rw [hw1];exact kb_alloc _ _ _
  have z1:w1.heap.size=W.heap.size+1:=by rw [hw1,World.size_alloc]
  have b1:w1.heap[W.heap.size]? = some (.cells #[.int .i64 0,.slice none 0 0] 50 (0,0)):=by rw [hw1];exact alloc_new _ _ _
  have HB:=im_rcount (h.kb k1)
  have HW1:Hid (w1=W.alloc (.cells #[.int .i64 0,.slice none 0 0] 50)):=hw1
  have HH:Hid (Kb 0 W w1∧w1.heap.size=W.heap.size+1∧w1.heap[W.heap.size]? = some (.cells #[.int .i64 0,.slice none 0 0] 50 (0,0))∧RI b p c M k lost W):=(⟨k1,z1,b1,h⟩:_∧_)
  clear h hw1 k1 z1 b1
  go_enter Try.func82,Try.ntmps82
  go_upto_region 1 with fail
  rw [← (show w1 = _ from HW1)]
  clear HW1
  go_wp2_with fail
  refine HB.mono ?_
  rintro e w2 ⟨v2,k1,l1,rfl,a1,a2,a3,t,rfl,a4,a5,a6,a7⟩
  clear HB
  have HB:=im_rcount a1
  have HA:Hid (RI b p c M k1 l1 w2∧k≤k1∧Kz b w1 w2∧Rn t∧(l1=false→k < k1)∧(lost=true→l1=true)∧∀ (y:Nat) rest,lost=false→y≤9223372036854775807→M.drop k=vb y ++ rest→t=(y:Int)∧k1=k+(vb y).length∧l1=false):=(⟨a1,a2,a3,a4,a5,a6,a7⟩:_∧_)
  clear a1 a2 a3 a4 a5 a6 a7
  go_wp2_with fail
  refine HB.mono ?_
  rintro e w3 ⟨v3,k2,l2,rfl,c1,c2,c3,cnt,rfl,c4,c5,c6,c7⟩
  clear HB
  have HB:=rl_val c1 300 (by omega) cnt
  have HC:Hid (RI b p c M k2 l2 w3∧k1≤k2∧Kz b w2 w3∧Rn cnt∧(l2=false→k1 < k2)∧(l1=true→l2=true)∧∀ (y:Nat) rest,l1=false→y≤9223372036854775807→M.drop k1=vb y ++ rest→cnt=(y:Int)∧k2=k1+(vb y).length∧l2=false):=(⟨c1,c2,c3,c4,c5,c6,c7⟩:_∧_)
  clear c1 c2 c3 c4 c5 c6 c7
  go_wp2_with fail
  refine HB.mono ?_
  rintro e w4 ⟨v4,k',l',L,rfl,d1,d2,d3,d4,d5,d6,d7,d8,d9⟩
  clear HB
  obtain ⟨ad,cap,rfl⟩:=own_shape d4
  obtain ⟨kb1,z1,b1,h0⟩:=(show Kb 0 W w1∧w1.heap.size=W.heap.size+1∧w1.heap[W.heap.size]? = some (.cells #[.int .i64 0,.slice none 0 0] 50 (0,0))∧RI b p c M k lost W from HH)
  obtain ⟨a1,a2,a3,a4,a5,a6,a7⟩:=(show RI b p c M k1 l1 w2∧k≤k1∧Kz b w1 w2∧Rn t∧(l1=false→k < k1)∧(lost=true→l1=true)∧∀ (y:Nat) rest,lost=false→y≤9223372036854775807→M.drop k=vb y ++ rest→t=(y:Int)∧k1=k+(vb y).length∧l1=false from HA)
  obtain ⟨c1,c2,c3,c4,c5,c6,c7⟩:=(show RI b p c M k2 l2 w3∧k1≤k2∧Kz b w2 w3∧Rn cnt∧(l2=false→k1 < k2)∧(l1=true→l2=true)∧∀ (y:Nat) rest,l1=false→y≤9223372036854775807→M.drop k1=vb y ++ rest→cnt=(y:Int)∧k2=k1+(vb y).length∧l2=false from HC)
  have hbl:=h0.lt
  have z2:w2.heap.size=W.heap.size+1:=by rw [a3.size,z1]
  have z3:w3.heap.size=W.heap.size+1:=by rw [c3.size,z2]
  have b3:w3.heap[W.heap.size]? = some (.cells #[.int .i64 0,.slice none 0 0] 50 (0,0)):=(c3.block _ (by omega)).trans ((a3.block _ (by omega)).trans b1)
  have b4:w4.heap[W.heap.size]? = some (.cells #[.int .i64 0,.slice none 0 0] 50 (0,0)):=(d3.block _ (by omega) (by omega)).trans b3
  have kg4:Kg b W w4:=(((Kg.of_kb kb1).trans a3.kg).trans c3.kg).trans d3
  have s0:w4.cell? ⟨W.heap.size,0,none⟩=some (.int .i64 0):=cell_of b4 rfl
  have s1:w4.cell? ⟨W.heap.size,1,none⟩=some (.slice none 0 0):=cell_of b4 rfl
  have sf:∀ j,w4.frozen? ⟨W.heap.size,j,none⟩=false:=fun j=>frozen_of b4
  obtain ⟨WF,hWF⟩:∃ WF,WF=(w4.setCell ⟨W.heap.size,0,none⟩ (.int .i64 t)).setCell ⟨W.heap.size,1,none⟩ (.slice ad L.length cap):=⟨_,rfl⟩
  have bF:WF.heap[W.heap.size]? = some (.cells #[.int .i64 t,.slice ad L.length cap] 50 (0,0)):=by rw [hWF,set_known _ (set_known _ b4)];rfl
  have e0:WF.cell? ⟨W.heap.size,0,none⟩=some (.int .i64 t):=cell_of bF rfl
  have e1:WF.cell? ⟨W.heap.size,1,none⟩=some (.slice ad L.length cap):=cell_of bF rfl
  have hfr:∀ q,q ≠ W.heap.size→WF.heap[q]? = w4.heap[q]?:=fun q hq=>by rw [hWF,Below.heap_setCell _ _ _ _ hq,Below.heap_setCell _ _ _ _ hq]
  have kgF:Kg b W WF:=⟨by rw [hWF];exact kg4.os,by rw [hWF];exact kg4.output,by rw [hWF,World.size_setCell,World.size_setCell];exact kg4.size,fun q h1 h2=>(hfr q (by omega)).trans (kg4.block q h1 h2)⟩
  have HF : Hid (RT9 b p c M k lost W (.returned (.agg #[.int .i64 t, .slice ad L.length cap])) WF) := (⟨t, _, L, k', l', rfl, h0.kg kgF ((hfr b (by omega)).trans d1.blk) d1.le, by omega, kgF, ownsRow_mono9 (rowBlk9 d4 (fun g e => hfr g (by have := (d4.lt g e).1; omega))) (by omega), d5, a4, d6, fun e => by
      have e2:=nlost d7 e
      have:=c5 e2
      have:=d8 e
      omega,fun e=>d7 (c6 (a6 e)),fun T ys rest el hT hys hlen hm=>by
      unfold t8 at hm ⊢
      rw [List.append_assoc,List.append_assoc] at hm
      obtain ⟨q1,q2,q3⟩:=a7 T _ el hT hm
      have hm2:=drop_app hm
      rw [← q2] at hm2
      obtain ⟨r1,r2,r3⟩:=c7 ys.length _ q3 (by omega) hm2
      have hm3:=drop_app hm2
      rw [← r2] at hm3
      obtain ⟨g1,g2,g3⟩:=d9 ys rest r3 hys r1 hlen hm3
      exact ⟨q1,g1,by rw [g2,r2,q2,List.length_append,List.length_append];omega,g3⟩⟩:RT9 b p c M k lost W _ WF)
  have HWF:Hid (WF = _):=hWF
  clear d1 d2 d3 d4 d5 d6 d7 d8 d9 kb1 z1 b1 h0 a1 a2 a3 a4 a5 a6 a7 c1 c2 c3 c4 c5 c6 c7 hbl z2 z3 b3 b4 kg4 hWF bF hfr kgF HH HA HC
  go_wp2_with fail
  rw [← (show WF = _ from HWF)]
  clear HWF
  refine bodyPost_ret (by simp [results,Try.results82,go_sem,e0,e1];rfl) rfl ?_
  exact HF
end Go.Proofs.Ytamcnmnaadpfoaa.Fo
