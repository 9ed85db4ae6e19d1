import Derived.Test.YtnmeemjoodoalaaGreatDoorNExs
import Derived.Test.YtnmeemjoodoalaaGreatDoorNEfa
import Derived.Test.YtnmeemjoodoalaaGreatDoorNQka
import Derived.Test.YtnmeemjoodoalaaGreatDoorNBab
import Derived.Test.YtnmeemjoodoalaaGreatDoorNCdb
import Derived.Test.YtnmeemjoodoalaaGreatDoorNEag
import Derived.Deep.RegionHeldLaw
set_option maxRecDepth 100000
set_option maxHeartbeats 16000000
namespace Go.Proofs.YtnmeemjoodoalaaGreatDoor.Fo
open Go.ChangeShapes Go.WideShapes Go.ChangeAt Go.RowKit
set_option linter.unusedVariables false
set_option maxRecDepth 100000
abbrev PV:=Rp × Value × Value × Value × Value
def pvc (z : PV) : List Value:=[.string z.1.x,.int .i64 z.1.l,.int .i64 z.1.m,.bool z.1.r,.int .i64 z.1.g,z.2.1,z.2.2.1,z.2.2.2.1,z.2.2.2.2]
def smN : List PV → Nat
  | []=>0
  | z :: L=>z.1.N.length + smN L
theorem smN_app (L : List PV) (z : PV) : smN (L ++ [z]) = smN L + z.1.N.length:=by
  induction L with
  | nil=>simp [smN]
  | cons a L ih=>simp only [List.cons_append,smN,ih];omega
def OwnL (B : Nat) (w : World) (L : List PV) (ob : Option Nat) : Prop:=∃ lo hi : Nat → Nat,
  (∀ i z,L[i]? = some z → B ≤ lo i ∧ hi i ≤ w.heap.size ∧ OwnQ (lo i) (hi i) w z.1 z.2.1 z.2.2.1 z.2.2.2.1 z.2.2.2.2) ∧ (∀ i j,i < j → j < L.length → hi i ≤ lo j) ∧ (∀ g i,ob = some g → i < L.length → ¬ (lo i ≤ g ∧ g < hi i))
theorem OwnL.step {B : Nat} {wr w1 w3 : World} {L : List PV} {ob : Option Nat} {q : Rp} {vu vc vn vd : Value} {o : Obj} {g' b : Nat} (h : OwnL B wr L ob) (hk : Kx b wr w1) (hb : b < B) (hB : B ≤ wr.heap.size) (hob : ∀ g,ob = some g → g < wr.heap.size) (hq : OwnQ wr.heap.size w1.heap.size w1 q vu vc vn vd) (hg : (w1.alloc o).grownBy w3 ob) (hl : ob = some g' ∨ g' = w1.heap.size + 1) : OwnL B w3 (L ++ [(q,vu,vc,vn,vd)]) (some g'):=by
  obtain ⟨lo,hi,h1,h2,h3⟩:=h
  have hs:=hk.size
  have hs3:=hg.size
  rw [World.size_alloc] at hs3
  have hlh : ∀ i,i < L.length → hi i ≤ wr.heap.size:=fun i hi'=>(h1 i _ (List.getElem?_eq_getElem hi')).2.1
  refine ⟨fun i=>if i < L.length then lo i else wr.heap.size,fun i=>if i < L.length then hi i else w1.heap.size,?_,?_,?_⟩
  · intro i z hz
    rcases Nat.lt_or_ge i L.length with hi' | hi'
    · rw [List.getElem?_append_left hi'] at hz
      obtain ⟨q1,q2,q3⟩:=h1 i z hz
      simp only [if_pos hi']
      refine ⟨q1,by omega,q3.blk (fun g a c=>?_)⟩
      have e1 : w3.heap[g]? = (w1.alloc o).heap[g]?:=hg.block g (by rw [World.size_alloc];omega) (fun e=>h3 g i e.symm hi' ⟨a,c⟩)
      have e2 : (w1.alloc o).heap[g]? = w1.heap[g]?:=(kb_alloc 0 w1 o).block g (Nat.zero_le _) (by omega)
      exact (e1.trans e2).trans (hk.block g (by omega) (by omega))
    · rw [List.getElem?_append_right hi'] at hz
      have e0 : i - L.length = 0:=by
        have hlt:=(List.getElem?_eq_some_iff.1 hz).1
        simp at hlt
        omega
      rw [e0] at hz
      simp at hz
      subst hz
      simp only [if_neg (show ¬ i < L.length by omega)]
      refine ⟨hB,by omega,hq.blk (fun g a c=>?_)⟩
      have e1 : w3.heap[g]? = (w1.alloc o).heap[g]?:=hg.block g (by rw [World.size_alloc];omega) (fun e=>by have:=hob g e.symm;omega)
      exact e1.trans ((kb_alloc 0 w1 o).block g (Nat.zero_le _) (by omega))
  · intro i j hij hj
    rw [List.length_append,List.length_singleton] at hj
    rcases Nat.lt_or_ge j L.length with hj' | hj'
    · simp only [if_pos hj',if_pos (show i < L.length by omega)]
      exact h2 i j hij hj'
    · simp only [if_neg (show ¬ j < L.length by omega),if_pos (show i < L.length by omega)]
      exact hlh i (by omega)
  · intro g i e hi'
    injection e with e
    subst e
    rw [List.length_append,List.length_singleton] at hi'
    rcases Nat.lt_or_ge i L.length with hj' | hj'
    · simp only [if_pos hj']
      rcases hl with hl | hl
      · exact h3 _ i hl hj'
      · have:=hlh i hj'
        omega
    · simp only [if_neg (show ¬ i < L.length by omega)]
      rcases hl with hl | hl
      · have:=hob _ hl
        omega
      · omega
structure RPs (b : Nat) (p : Option Addr) (c : Nat) (M : List UInt8) (k : Nat) (lost : Bool) (W : World) (most : Nat) (cnt : Int) (L : List PV) (k' : Nat) (l' : Bool) (v : Value) (wr : World) : Prop where
  rd : RI b p c M k' l' wr
  r0 : RI b p c M k lost W
  le : k ≤ k'
  ks : Kx b W wr
  row : wr.ownsRow W.heap.size 50 9 v L.length (L.flatMap pvc)
  own : OwnL W.heap.size wr L v.ownBlock
  tt : ∀ z,z ∈ L → Rt z.1
  mo : L.length ≤ most
  cn : l' = false → cnt ≤ (most : Int)
  lo : lost = true → l' = true
  gt : l' = false → k + smN L < k'
  ex : LJ pe Rok M k lost most cnt (L.map (·.1)) k' l'
def RPL (b : Nat) (p : Option Addr) (c : Nat) (M : List UInt8) (k : Nat) (lost : Bool) (W : World) (most : Nat) (e : Ending) (w' : World) : Prop :=
  ∃ v k' l' L,e = .returned v ∧ RI b p c M k' l' w' ∧ k ≤ k' ∧ Kx b W w' ∧ w'.ownsRow W.heap.size 50 9 v L.length (L.flatMap pvc) ∧ OwnL W.heap.size w' L v.ownBlock ∧ (∀ z,z ∈ L → Rt z.1) ∧ L.length ≤ most ∧ (lost = true → l' = true) ∧ (l' = false → k + smN L < k') ∧ LX pe Rok M k lost most (L.map (·.1)) k' l'
theorem RPs.done {b : Nat} {p : Option Addr} {c : Nat} {M : List UInt8} {k : Nat} {lost : Bool} {W : World} {most : Nat} {cnt : Int} {L : List PV} {k' : Nat} {l' : Bool} {v : Value} {wr : World} (s : RPs b p c M k lost W most cnt L k' l' v wr) (hc : ¬ ((L.length : Int) < cnt ∧ l' = false)) : RPL b p c M k lost W most (.returned v) wr :=
  ⟨v,k',l',L,rfl,s.rd,s.le,s.ks,s.row,s.own,s.tt,s.mo,s.lo,s.gt,s.ex.done (by rw [List.length_map];exact hc)⟩
theorem RPs.begin {b : Nat} {p : Option Addr} {c : Nat} {M : List UInt8} {k : Nat} {lost : Bool} {W : World} {most : Nat} {cnt : Int} {k1 : Nat} {l1 : Bool} {w1 : World} (h : RI b p c M k lost W) (h1 : RI b p c M k1 l1 w1) (h2 : k ≤ k1) (h3 : Kz b W w1) (h5 : l1 = false → k < k1) (h6 : lost = true → l1 = true) (h7 : ∀ y rest, lost = false → Rn y → M.drop k = nb y ++ rest → cnt = y ∧ k1 = k + (nb y).length ∧ l1 = false) (hm : most ≤ 9223372036854775807) :
    RPs b p c M k lost W most cnt [] k1 (l1 || decide ((most : Int) < cnt)) (.slice none 0 0) (w1.setCell ⟨b,2,none⟩ (.bool (l1 || decide ((most : Int) < cnt)))):=by
  have s : RLs (α:=Rp) (fun _=>[]) 50 9 pe (fun _=>True) Rok b p c M k lost W most cnt [] k1 (l1 || decide ((most : Int) < cnt)) (.slice none 0 0) (w1.setCell ⟨b,2,none⟩ (.bool (l1 || decide ((most : Int) < cnt)))):=RLs.begin h h1 h2 h3 h5 h6 h7 hm
  exact ⟨s.rd,s.r0,s.le,s.ks,World.ownsRow_nil _ _ _ _,⟨fun _=>0,fun _=>0,fun i z hz=>by simp at hz,fun i j _ hj=>by simp at hj,fun g i _ hj=>by simp at hj⟩,fun x hx=>(nomatch hx),Nat.zero_le _,s.cn,s.lo,s.gt,s.ex⟩
theorem RPs.step {b : Nat} {p : Option Addr} {c : Nat} {M : List UInt8} {k : Nat} {lost : Bool} {W : World} {most : Nat} {cnt : Int} {L : List PV} {k' : Nat} {l' : Bool} {v : Value} {wr : World} (s : RPs b p c M k lost W most cnt L k' l' v wr) (hl : l' = false) (hc : (L.length : Int) < cnt)
    {w1 : World} {q : Rp} {vu vc vn vd : Value} {k2 : Nat} {l2 : Bool} (h1 : RI b p c M k2 l2 w1) (h2 : k' ≤ k2) (h3 : Kx b wr w1) (hq : OwnQ wr.heap.size w1.heap.size w1 q vu vc vn vd) (h4 : Rt q) (h5 : l2 = false → k' + q.N.length < k2) (h6 : l' = true → l2 = true) (h7 : ∀ y rest,l' = false → Rok y → M.drop k' = pe y ++ rest → q = y ∧ k2 = k' + (pe y).length ∧ l2 = false)
    {o : Obj} {g' c' n' : Nat} {w3 : World} (h8 : w3.ownsRow W.heap.size 50 9 (.slice (some ⟨g',0,none⟩) n' c') (L.length + 1) (L.flatMap pvc ++ pvc (q,vu,vc,vn,vd))) (h9 : (w1.alloc o).grownBy w3 v.ownBlock) (h10 : v.ownBlock = some g' ∨ g' = w1.heap.size + 1) : RPs b p c M k lost W most cnt (L ++ [(q,vu,vc,vn,vd)]) k2 l2 (.slice (some ⟨g',0,none⟩) n' c') w3:=by
  have hg : ∀ g,v.ownBlock = some g → W.heap.size ≤ g:=fun g e=>(s.row.lt g e).1
  have hb:=s.r0.lt
  refine ⟨s.r0.kgr (h1.kb (kb_alloc 0 w1 o)) h9 hg,s.r0,Nat.le_trans s.le h2,((s.ks.trans h3).trans (Kx.of_kb (kb_alloc 0 w1 o))).gr h9 hg,?_,?_,?_,?_,?_,?_,?_,?_⟩
  · rw [List.length_append,List.flatMap_append]
    simpa using h8
  · exact s.own.step h3 hb s.ks.size (fun g e=>(s.row.lt g e).2) hq h9 h10
  · intro y hy
    rcases List.mem_append.1 hy with hy | hy
    · exact s.tt y hy
    · rw [List.mem_singleton.1 hy];exact h4
  · have:=s.cn hl
    rw [List.length_append,List.length_singleton]
    omega
  · intro e
    exact s.cn hl
  · intro e
    exact h6 (s.lo e)
  · intro e
    have:=s.gt hl
    have:=h5 e
    rw [smN_app]
    show k + (smN L + q.N.length) < k2
    omega
  · rw [List.map_append]
    exact s.ex.step (by rw [List.length_map];exact hc) h7
theorem infoProto : (Tryz.prog.info? 50).map (fun i=>(i.zero,i.size,i.bytes)) = some (some (.agg #[.string ⟨#[]⟩,.int .i64 0,.int .i64 0,.bool false,.int .i64 0,.slice none 0 0,.slice none 0 0,.slice none 0 0,.slice none 0 0]),9,144):=by kernel_rfl
theorem ownq_shapes {lo hi : Nat} {w : World} {q : Rp} {vu vc vn vd : Value} (h : OwnQ lo hi w q vu vc vn vd) : (∃ a n c,vu = .slice a n c) ∧ (∃ a n c,vc = .slice a n c) ∧ (∃ a n c,vn = .slice a n c) ∧ (∃ a n c,vd = .slice a n c):=by
  obtain ⟨s1,s2,s3,h1,h2,h3,h4,h5,h6,h7,h8⟩:=h
  obtain ⟨a1,c1,e1⟩:=own_shape h5.1
  obtain ⟨a2,c2,e2⟩:=own_shape h6.1
  obtain ⟨a3,c3,e3⟩:=own_shape h7.1
  obtain ⟨a4,c4,e4⟩:=own_shape h8.1
  exact ⟨⟨_,_,_,e1⟩,⟨_,_,_,e2⟩,⟨_,_,_,e3⟩,⟨_,_,_,e4⟩⟩
theorem ra_proto {b : Nat} {p : Option Addr} {c : Nat} {M : List UInt8} {k : Nat} {lost : Bool} {W w1 : World} {cnt : Int} {k1 : Nat} {l1 : Bool} {most : Nat} (hs : RPs b p c M k lost W most cnt [] k1 (l1 || decide ((most : Int) < cnt)) (.slice none 0 0) (w1.setCell ⟨b, 2, none⟩ (.bool (l1 || decide ((most : Int) < cnt))))) (c2 : w1.cell? ⟨b, 2, none⟩ = some (.bool l1)) (f2 : w1.frozen? ⟨b, 2, none⟩ = false) (hm : most ≤ 6000) :
    Calls Tryz.prog 75 #[.pointer (some ⟨b,0,none⟩),.int .i64 cnt,.int .i64 (most : Int),.func (Fn.func 33) #[.pointer (some ⟨b,0,none⟩)] #[]] w1 (RPL b p c M k lost W most):=by
  have hst : ∀ (a : Addr) (n : Nat) (m : Mode) (w : World),(store a (.float .f64 n) m).run Tryz.prog w = stored Tryz.prog w a (.float .f64 n) m:=fun a n m w=>run_store _ _ _ _ _ rfl
  obtain ⟨i0,hi0,hz0,hz1,hz2⟩:=info_parts infoProto
  have HI0 : Hid (Tryz.prog.info? 50 = some i0):=hi0
  have HS : Hid (RPs b p c M k lost W most cnt [] k1 (l1 || decide ((most : Int) < cnt)) (.slice none 0 0) (w1.setCell ⟨b,2,none⟩ (.bool (l1 || decide ((most : Int) < cnt))))):=hs
  have HM : Hid (most ≤ 6000):=hm
  clear hs hm hi0
  by_cases hl1 : l1 = true
  · subst hl1
    rw [Bool.true_or] at HS
    go_enter Tryz.func75,Tryz.ntmps75
    go_upto_region 3 with fail
    clear c2 f2
    obtain ⟨w2,hw2⟩ : ∃ w2,w2 = w1.setCell ⟨b,2,none⟩ (.bool true):=⟨_,rfl⟩
    rw [← hw2] at HS ⊢
    clear hw2
    go_loopw [9] (fun s9 wr=>∃ (L : List PV) (k' : Nat) (l' : Bool),Hid (RPs b p c M k lost W most cnt L k' l' s9 wr)) (fun s9 _=>cnt.toNat - lnOf s9)
    case atStart=>exact ⟨[],k1,true,HS⟩
    case round =>
      clear HS
      obtain ⟨L,k',l',HR⟩:=hrel
      have hR:=(show RPs b p c M k lost W most cnt L k' l' u9 wr from HR)
      obtain ⟨ad,cap,rfl⟩:=own_shape hR.row
      clear HR
      have c2 : wr.cell? ⟨b,2,none⟩ = some (.bool l'):=cell_of hR.rd.blk rfl
      have hLm : (L.length : Int) ≤ 6000:=by have:=hR.mo;have:=(show most ≤ 6000 from HM);omega
      by_cases hgo : (L.length : Int) < cnt
      · cases l' with
        | true =>
          have HD : Hid (RPL b p c M k lost W most (.returned (.slice ad L.length cap)) wr):=hR.done (by simp)
          clear hR HI0
          go_wp2_with fail
          go_ret
          exact HD
        | false =>
          have HC:=im_rproto hR.rd
          have HST : Hid (RPs b p c M k lost W most cnt L k' false (.slice ad L.length cap) wr):=hR
          have hbz : b < W.heap.size:=hR.r0.lt
          have hwz:=hR.ks.size
          clear hR
          go_wp2_with fail
          refine HC.mono ?_
          rintro e w1 ⟨q,vu,vc,vn,vd,k2,l2,rfl,y1,y2,y3,yo,y4,y5,y6,y7⟩
          obtain ⟨⟨au,nu,cu,rfl⟩,⟨ac,nc,cc,rfl⟩,⟨an,nn,cn,rfl⟩,⟨ad2,nd,cd,rfl⟩⟩:=ownq_shapes yo
          have hw1:=y3.size
          have hown:=Kx.row (W:=W) (Kx.of_kb (b:=b) (kb_alloc 0 w1 (.cells #[.string q.x,.int .i64 q.l,.int .i64 q.m,.bool q.r,.int .i64 q.g,.slice au nu cu,.slice ac nc cc,.slice an nn cn,.slice ad2 nd cd] 50))) (Kx.row (W:=W) y3 (show RPs b p c M k lost W most cnt L k' false (.slice ad L.length cap) wr from HST).row hbz) hbz
          have hqc:=qr_cells w1 #[.string q.x,.int .i64 q.l,.int .i64 q.m,.bool q.r,.int .i64 q.g,.slice au nu cu,.slice ac nc cc,.slice an nn cn,.slice ad2 nd cd] 50 [.string q.x,.int .i64 q.l,.int .i64 q.m,.bool q.r,.int .i64 q.g,.slice au nu cu,.slice ac nc cc,.slice an nn cn,.slice ad2 nd cd] rfl
          have h1c : ∀ u ∈ ([.string q.x,.int .i64 q.l,.int .i64 q.m,.bool q.r,.int .i64 q.g,.slice au nu cu,.slice ac nc cc,.slice an nn cn,.slice ad2 nd cd] : List Value),u.oneCell' = true:=by intro u hu;simp at hu;rcases hu with rfl | rfl | rfl | rfl | rfl | rfl | rfl | rfl | rfl <;> rfl
          have HSTP : Hid (∀ (g' c' : Nat) (w3 : World),w3.ownsRow W.heap.size 50 9 (.slice (some ⟨g',0,none⟩) (L.length + 1) c') (L.length + 1) (L.flatMap pvc ++ [.string q.x,.int .i64 q.l,.int .i64 q.m,.bool q.r,.int .i64 q.g,.slice au nu cu,.slice ac nc cc,.slice an nn cn,.slice ad2 nd cd]) → (w1.alloc (.cells #[.string q.x,.int .i64 q.l,.int .i64 q.m,.bool q.r,.int .i64 q.g,.slice au nu cu,.slice ac nc cc,.slice an nn cn,.slice ad2 nd cd] 50)).grownBy w3 (Value.slice ad L.length cap).ownBlock → ((Value.slice ad L.length cap).ownBlock = some g' ∨ g' = w1.heap.size + 1) → RPs b p c M k lost W most cnt (L ++ [(q,.slice au nu cu,.slice ac nc cc,.slice an nn cn,.slice ad2 nd cd)]) k2 l2 (.slice (some ⟨g',0,none⟩) (L.length + 1) c') w3):=(fun g' c' w3 h1 h2 h3=>(show RPs b p c M k lost W most cnt L k' false (.slice ad L.length cap) wr from HST).step rfl hgo y1 y2 y3 yo y4 y5 y6 y7 h1 h2 h3 : ∀ (g' c' : Nat) (w3 : World),_)
          clear y1 y2 y3 yo y4 y5 y6 y7 HC HST c2
          unfold qv
          go_wp2_with (at_builtin;refine wpList_append_lies _ rfl (.tmp 36) (.tmp 39) 28 rfl W.heap.size 50 i0 (.agg #[.string ⟨#[]⟩,.int .i64 0,.int .i64 0,.bool false,.int .i64 0,.slice none 0 0,.slice none 0 0,.slice none 0 0,.slice none 0 0]) 9 144 Tryz.underlying28 HI0 hz0 hz1 hz2 rfl (by decide) _ _ _ rfl hown ⟨w1.heap.size,0,none⟩ 1 1 [.string q.x,.int .i64 q.l,.int .i64 q.m,.bool q.r,.int .i64 q.g,.slice au nu cu,.slice ac nc cc,.slice an nn cn,.slice ad2 nd cd] rfl rfl hqc h1c (by decide) (by unfold maxLen;omega) (by omega) (by simp;omega) (w1.heap.size + 1) (by simp) ?_;intro g' cap' w3 hown3 hgr3 hl3 _;have HN : Hid (RPs b p c M k lost W most cnt (L ++ [(q,.slice au nu cu,.slice ac nc cc,.slice an nn cn,.slice ad2 nd cd)]) k2 l2 (.slice (some ⟨g',0,none⟩) (L.length + 1) cap') w3):=(show ∀ (g' c' : Nat) (w3 : World),_ from HSTP) _ _ _ hown3 hgr3 hl3;clear hown3 hgr3 hl3 hown hqc h1c HSTP)
          go_roundw
          case rel=>exact ⟨L ++ [(q,.slice au nu cu,.slice ac nc cc,.slice an nn cn,.slice ad2 nd cd)],k2,l2,HN⟩
          case measure=>simp [lnOf];omega
      · have HD : Hid (RPL b p c M k lost W most (.returned (.slice ad L.length cap)) wr):=hR.done (fun e=>hgo e.1)
        clear hR HI0
        go_wp2_with fail
        go_ret
        exact HD
  · obtain rfl : l1 = false:=by cases l1 <;> simp_all
    rw [Bool.false_or] at HS
    by_cases hcm : (most : Int) < cnt
    · rw [decide_eq_true hcm] at HS
      go_enter Tryz.func75,Tryz.ntmps75
      go_upto_region 3 with fail
      clear c2 f2 hcm
      obtain ⟨w2,hw2⟩ : ∃ w2,w2 = w1.setCell ⟨b,2,none⟩ (.bool true):=⟨_,rfl⟩
      rw [← hw2] at HS ⊢
      clear hw2
      go_loopw [9] (fun s9 wr=>∃ (L : List PV) (k' : Nat) (l' : Bool),Hid (RPs b p c M k lost W most cnt L k' l' s9 wr)) (fun s9 _=>cnt.toNat - lnOf s9)
      case atStart=>exact ⟨[],k1,true,HS⟩
      case round =>
        clear HS
        obtain ⟨L,k',l',HR⟩:=hrel
        have hR:=(show RPs b p c M k lost W most cnt L k' l' u9 wr from HR)
        obtain ⟨ad,cap,rfl⟩:=own_shape hR.row
        clear HR
        have c2 : wr.cell? ⟨b,2,none⟩ = some (.bool l'):=cell_of hR.rd.blk rfl
        have hLm : (L.length : Int) ≤ 6000:=by have:=hR.mo;have:=(show most ≤ 6000 from HM);omega
        by_cases hgo : (L.length : Int) < cnt
        · cases l' with
          | true =>
            have HD : Hid (RPL b p c M k lost W most (.returned (.slice ad L.length cap)) wr):=hR.done (by simp)
            clear hR HI0
            go_wp2_with fail
            go_ret
            exact HD
          | false =>
            have HC:=im_rproto hR.rd
            have HST : Hid (RPs b p c M k lost W most cnt L k' false (.slice ad L.length cap) wr):=hR
            have hbz : b < W.heap.size:=hR.r0.lt
            have hwz:=hR.ks.size
            clear hR
            go_wp2_with fail
            refine HC.mono ?_
            rintro e w1 ⟨q,vu,vc,vn,vd,k2,l2,rfl,y1,y2,y3,yo,y4,y5,y6,y7⟩
            obtain ⟨⟨au,nu,cu,rfl⟩,⟨ac,nc,cc,rfl⟩,⟨an,nn,cn,rfl⟩,⟨ad2,nd,cd,rfl⟩⟩:=ownq_shapes yo
            have hw1:=y3.size
            have hown:=Kx.row (W:=W) (Kx.of_kb (b:=b) (kb_alloc 0 w1 (.cells #[.string q.x,.int .i64 q.l,.int .i64 q.m,.bool q.r,.int .i64 q.g,.slice au nu cu,.slice ac nc cc,.slice an nn cn,.slice ad2 nd cd] 50))) (Kx.row (W:=W) y3 (show RPs b p c M k lost W most cnt L k' false (.slice ad L.length cap) wr from HST).row hbz) hbz
            have hqc:=qr_cells w1 #[.string q.x,.int .i64 q.l,.int .i64 q.m,.bool q.r,.int .i64 q.g,.slice au nu cu,.slice ac nc cc,.slice an nn cn,.slice ad2 nd cd] 50 [.string q.x,.int .i64 q.l,.int .i64 q.m,.bool q.r,.int .i64 q.g,.slice au nu cu,.slice ac nc cc,.slice an nn cn,.slice ad2 nd cd] rfl
            have h1c : ∀ u ∈ ([.string q.x,.int .i64 q.l,.int .i64 q.m,.bool q.r,.int .i64 q.g,.slice au nu cu,.slice ac nc cc,.slice an nn cn,.slice ad2 nd cd] : List Value),u.oneCell' = true:=by intro u hu;simp at hu;rcases hu with rfl | rfl | rfl | rfl | rfl | rfl | rfl | rfl | rfl <;> rfl
            have HSTP : Hid (∀ (g' c' : Nat) (w3 : World),w3.ownsRow W.heap.size 50 9 (.slice (some ⟨g',0,none⟩) (L.length + 1) c') (L.length + 1) (L.flatMap pvc ++ [.string q.x,.int .i64 q.l,.int .i64 q.m,.bool q.r,.int .i64 q.g,.slice au nu cu,.slice ac nc cc,.slice an nn cn,.slice ad2 nd cd]) → (w1.alloc (.cells #[.string q.x,.int .i64 q.l,.int .i64 q.m,.bool q.r,.int .i64 q.g,.slice au nu cu,.slice ac nc cc,.slice an nn cn,.slice ad2 nd cd] 50)).grownBy w3 (Value.slice ad L.length cap).ownBlock → ((Value.slice ad L.length cap).ownBlock = some g' ∨ g' = w1.heap.size + 1) → RPs b p c M k lost W most cnt (L ++ [(q,.slice au nu cu,.slice ac nc cc,.slice an nn cn,.slice ad2 nd cd)]) k2 l2 (.slice (some ⟨g',0,none⟩) (L.length + 1) c') w3):=(fun g' c' w3 h1 h2 h3=>(show RPs b p c M k lost W most cnt L k' false (.slice ad L.length cap) wr from HST).step rfl hgo y1 y2 y3 yo y4 y5 y6 y7 h1 h2 h3 : ∀ (g' c' : Nat) (w3 : World),_)
            clear y1 y2 y3 yo y4 y5 y6 y7 HC HST c2
            unfold qv
            go_wp2_with (at_builtin;refine wpList_append_lies _ rfl (.tmp 36) (.tmp 39) 28 rfl W.heap.size 50 i0 (.agg #[.string ⟨#[]⟩,.int .i64 0,.int .i64 0,.bool false,.int .i64 0,.slice none 0 0,.slice none 0 0,.slice none 0 0,.slice none 0 0]) 9 144 Tryz.underlying28 HI0 hz0 hz1 hz2 rfl (by decide) _ _ _ rfl hown ⟨w1.heap.size,0,none⟩ 1 1 [.string q.x,.int .i64 q.l,.int .i64 q.m,.bool q.r,.int .i64 q.g,.slice au nu cu,.slice ac nc cc,.slice an nn cn,.slice ad2 nd cd] rfl rfl hqc h1c (by decide) (by unfold maxLen;omega) (by omega) (by simp;omega) (w1.heap.size + 1) (by simp) ?_;intro g' cap' w3 hown3 hgr3 hl3 _;have HN : Hid (RPs b p c M k lost W most cnt (L ++ [(q,.slice au nu cu,.slice ac nc cc,.slice an nn cn,.slice ad2 nd cd)]) k2 l2 (.slice (some ⟨g',0,none⟩) (L.length + 1) cap') w3):=(show ∀ (g' c' : Nat) (w3 : World),_ from HSTP) _ _ _ hown3 hgr3 hl3;clear hown3 hgr3 hl3 hown hqc h1c HSTP)
            go_roundw
            case rel=>exact ⟨L ++ [(q,.slice au nu cu,.slice ac nc cc,.slice an nn cn,.slice ad2 nd cd)],k2,l2,HN⟩
            case measure=>simp [lnOf];omega
        · have HD : Hid (RPL b p c M k lost W most (.returned (.slice ad L.length cap)) wr):=hR.done (fun e=>hgo e.1)
          clear hR HI0
          go_wp2_with fail
          go_ret
          exact HD
    · rw [decide_eq_false hcm] at HS
      go_enter Tryz.func75,Tryz.ntmps75
      go_upto_region 3 with fail
      clear c2 f2
      obtain ⟨w2,hw2⟩ : ∃ w2,w2 = w1.setCell ⟨b,2,none⟩ (.bool false):=⟨_,rfl⟩
      rw [← hw2] at HS ⊢
      clear hw2
      go_loopw [9] (fun s9 wr=>∃ (L : List PV) (k' : Nat) (l' : Bool),Hid (RPs b p c M k lost W most cnt L k' l' s9 wr)) (fun s9 _=>cnt.toNat - lnOf s9)
      case atStart=>exact ⟨[],k1,false,HS⟩
      case round =>
        clear HS
        obtain ⟨L,k',l',HR⟩:=hrel
        have hR:=(show RPs b p c M k lost W most cnt L k' l' u9 wr from HR)
        obtain ⟨ad,cap,rfl⟩:=own_shape hR.row
        clear HR
        have c2 : wr.cell? ⟨b,2,none⟩ = some (.bool l'):=cell_of hR.rd.blk rfl
        have hLm : (L.length : Int) ≤ 6000:=by have:=hR.mo;have:=(show most ≤ 6000 from HM);omega
        by_cases hgo : (L.length : Int) < cnt
        · cases l' with
          | true =>
            have HD : Hid (RPL b p c M k lost W most (.returned (.slice ad L.length cap)) wr):=hR.done (by simp)
            clear hR HI0
            go_wp2_with fail
            go_ret
            exact HD
          | false =>
            have HC:=im_rproto hR.rd
            have HST : Hid (RPs b p c M k lost W most cnt L k' false (.slice ad L.length cap) wr):=hR
            have hbz : b < W.heap.size:=hR.r0.lt
            have hwz:=hR.ks.size
            clear hR
            go_wp2_with fail
            refine HC.mono ?_
            rintro e w1 ⟨q,vu,vc,vn,vd,k2,l2,rfl,y1,y2,y3,yo,y4,y5,y6,y7⟩
            obtain ⟨⟨au,nu,cu,rfl⟩,⟨ac,nc,cc,rfl⟩,⟨an,nn,cn,rfl⟩,⟨ad2,nd,cd,rfl⟩⟩:=ownq_shapes yo
            have hw1:=y3.size
            have hown:=Kx.row (W:=W) (Kx.of_kb (b:=b) (kb_alloc 0 w1 (.cells #[.string q.x,.int .i64 q.l,.int .i64 q.m,.bool q.r,.int .i64 q.g,.slice au nu cu,.slice ac nc cc,.slice an nn cn,.slice ad2 nd cd] 50))) (Kx.row (W:=W) y3 (show RPs b p c M k lost W most cnt L k' false (.slice ad L.length cap) wr from HST).row hbz) hbz
            have hqc:=qr_cells w1 #[.string q.x,.int .i64 q.l,.int .i64 q.m,.bool q.r,.int .i64 q.g,.slice au nu cu,.slice ac nc cc,.slice an nn cn,.slice ad2 nd cd] 50 [.string q.x,.int .i64 q.l,.int .i64 q.m,.bool q.r,.int .i64 q.g,.slice au nu cu,.slice ac nc cc,.slice an nn cn,.slice ad2 nd cd] rfl
            have h1c : ∀ u ∈ ([.string q.x,.int .i64 q.l,.int .i64 q.m,.bool q.r,.int .i64 q.g,.slice au nu cu,.slice ac nc cc,.slice an nn cn,.slice ad2 nd cd] : List Value),u.oneCell' = true:=by intro u hu;simp at hu;rcases hu with rfl | rfl | rfl | rfl | rfl | rfl | rfl | rfl | rfl <;> rfl
            have HSTP : Hid (∀ (g' c' : Nat) (w3 : World),w3.ownsRow W.heap.size 50 9 (.slice (some ⟨g',0,none⟩) (L.length + 1) c') (L.length + 1) (L.flatMap pvc ++ [.string q.x,.int .i64 q.l,.int .i64 q.m,.bool q.r,.int .i64 q.g,.slice au nu cu,.slice ac nc cc,.slice an nn cn,.slice ad2 nd cd]) → (w1.alloc (.cells #[.string q.x,.int .i64 q.l,.int .i64 q.m,.bool q.r,.int .i64 q.g,.slice au nu cu,.slice ac nc cc,.slice an nn cn,.slice ad2 nd cd] 50)).grownBy w3 (Value.slice ad L.length cap).ownBlock → ((Value.slice ad L.length cap).ownBlock = some g' ∨ g' = w1.heap.size + 1) → RPs b p c M k lost W most cnt (L ++ [(q,.slice au nu cu,.slice ac nc cc,.slice an nn cn,.slice ad2 nd cd)]) k2 l2 (.slice (some ⟨g',0,none⟩) (L.length + 1) c') w3):=(fun g' c' w3 h1 h2 h3=>(show RPs b p c M k lost W most cnt L k' false (.slice ad L.length cap) wr from HST).step rfl hgo y1 y2 y3 yo y4 y5 y6 y7 h1 h2 h3 : ∀ (g' c' : Nat) (w3 : World),_)
            clear y1 y2 y3 yo y4 y5 y6 y7 HC HST c2
            unfold qv
            go_wp2_with (at_builtin;refine wpList_append_lies _ rfl (.tmp 36) (.tmp 39) 28 rfl W.heap.size 50 i0 (.agg #[.string ⟨#[]⟩,.int .i64 0,.int .i64 0,.bool false,.int .i64 0,.slice none 0 0,.slice none 0 0,.slice none 0 0,.slice none 0 0]) 9 144 Tryz.underlying28 HI0 hz0 hz1 hz2 rfl (by decide) _ _ _ rfl hown ⟨w1.heap.size,0,none⟩ 1 1 [.string q.x,.int .i64 q.l,.int .i64 q.m,.bool q.r,.int .i64 q.g,.slice au nu cu,.slice ac nc cc,.slice an nn cn,.slice ad2 nd cd] rfl rfl hqc h1c (by decide) (by unfold maxLen;omega) (by omega) (by simp;omega) (w1.heap.size + 1) (by simp) ?_;intro g' cap' w3 hown3 hgr3 hl3 _;have HN : Hid (RPs b p c M k lost W most cnt (L ++ [(q,.slice au nu cu,.slice ac nc cc,.slice an nn cn,.slice ad2 nd cd)]) k2 l2 (.slice (some ⟨g',0,none⟩) (L.length + 1) cap') w3):=(show ∀ (g' c' : Nat) (w3 : World),_ from HSTP) _ _ _ hown3 hgr3 hl3;clear hown3 hgr3 hl3 hown hqc h1c HSTP)
            go_roundw
            case rel=>exact ⟨L ++ [(q,.slice au nu cu,.slice ac nc cc,.slice an nn cn,.slice ad2 nd cd)],k2,l2,HN⟩
            case measure=>simp [lnOf];omega
        · have HD : Hid (RPL b p c M k lost W most (.returned (.slice ad L.length cap)) wr):=hR.done (fun e=>hgo e.1)
          clear hR HI0
          go_wp2_with fail
          go_ret
          exact HD
theorem rl_proto {b : Nat} {p : Option Addr} {c : Nat} {M : List UInt8} {k : Nat} {lost : Bool} {W : World} (h : RI b p c M k lost W) (most : Nat) (hm : most ≤ 6000) :
    Calls Tryz.prog 32 #[.pointer (some ⟨b,0,none⟩),.int .i64 (most : Int),.func (Fn.func 33) #[.pointer (some ⟨b,0,none⟩)] #[]] W (RPL b p c M k lost W most):=by
  have HB:=im_rnum h
  have HA : Hid (∀ (w1 : World) (k1 : Nat) (l1 : Bool) (cnt : Int),RI b p c M k1 l1 w1 → k ≤ k1 → Kz b W w1 → (l1 = false → k < k1) → (lost = true → l1 = true) → (∀ y rest,lost = false → Rn y → M.drop k = nb y ++ rest → cnt = y ∧ k1 = k + (nb y).length ∧ l1 = false) → Calls Tryz.prog 75 #[.pointer (some ⟨b,0,none⟩),.int .i64 cnt,.int .i64 (most : Int),.func (Fn.func 33) #[.pointer (some ⟨b,0,none⟩)] #[]] w1 (RPL b p c M k lost W most)):=(fun w1 k1 l1 cnt z1 z2 z3 z5 z6 z7=>ra_proto (RPs.begin h z1 z2 z3 z5 z6 z7 (by omega)) (cell_of z1.blk rfl) (frozen_of z1.blk) hm : ∀ (w1 : World) (k1 : Nat) (l1 : Bool) (cnt : Int),_)
  clear h hm
  go_enter Tryz.func32,Tryz.ntmps32
  go_wp2_with fail
  refine HB.mono ?_
  rintro e w1 ⟨v1,k1,l1,rfl,z1,z2,z3,cnt,rfl,z4,z5,z6,z7⟩
  have HA1:=(show ∀ (w1 : World) (k1 : Nat) (l1 : Bool) (cnt : Int),_ from HA) w1 k1 l1 cnt z1 z2 z3 z5 z6 z7
  clear HA HB z1 z2 z3 z4 z5 z6 z7
  go_wp2_with fail
  refine HA1.mono ?_
  rintro e w2 ⟨v,k',l',L,rfl,hq⟩
  have HD : Hid (RPL b p c M k lost W most (.returned v) w2):=(⟨v,k',l',L,rfl,hq⟩ : RPL b p c M k lost W most (.returned v) w2)
  obtain ⟨ad,cap,rfl⟩:=own_shape hq.2.2.2.1
  clear hq HA1
  go_wp2_with fail
  go_ret
  exact HD
def Inn (W : World) (g E gx m : Nat) : Prop:=g < gx ∧ gx < E ∧ (∀ j,j < m → ∃ u,W.cell? ⟨gx,j,none⟩ = some u) ∧ ∀ j,W.frozen? ⟨gx,j,none⟩ = false
structure Mst (g E n : Nat) (F : Nat → Pd) (W : World) : Prop where
  gE : g < E
  Es : E ≤ W.heap.size
  fz : ∀ j,W.frozen? ⟨g,j,none⟩ = false
  hd : ∀ i,i < n → ∀ t,t < 5 → ∃ u,W.cell? ⟨g,i * 9 + t,none⟩ = some u
  rw : ∀ i,i < n → ∃ gu gc gn gm,(W.cell? ⟨g,i * 9 + 5,none⟩ = some (.slice (some ⟨gu,0,none⟩) (F i).u (F i).u) ∧ W.cell? ⟨g,i * 9 + 6,none⟩ = some (.slice (some ⟨gc,0,none⟩) (F i).c (F i).c) ∧ W.cell? ⟨g,i * 9 + 7,none⟩ = some (.slice (some ⟨gn,0,none⟩) (F i).n (F i).n) ∧ W.cell? ⟨g,i * 9 + 8,none⟩ = some (.slice (some ⟨gm,0,none⟩) (F i).d (F i).d)) ∧ Inn W g E gu ((F i).u * 2) ∧ Inn W g E gc ((F i).c * 5) ∧ Inn W g E gn ((F i).n * 5) ∧ Inn W g E gm ((F i).d * 4)
theorem Inn.k1 {W W' : World} {g E gx gy m : Nat} (h : Inn W g E gy m) (hE : E ≤ W.heap.size) (k : K1 gx W W') : Inn W' g E gy m:=by
  obtain ⟨h1,h2,h3,h4⟩:=h
  by_cases e : gy = gx
  · subst e
    exact ⟨h1,h2,fun j hj=>k.cell j (h3 j hj),fun j=>(k.fz j (by omega)).trans (h4 j)⟩
  · have hb:=k.block gy (by omega) e
    exact ⟨h1,h2,fun j hj=>by rw [World.cell?_of_block (w:=W) hb];exact h3 j hj,fun j=>(World.frozen?_of_block hb).trans (h4 j)⟩
theorem Mst.k1 {W W' : World} {g E gx n : Nat} {F : Nat → Pd} (h : Mst g E n F W) (hx : gx ≠ g) (k : K1 gx W W') : Mst g E n F W':=by
  have hb:=k.block g (by have:=h.gE;have:=h.Es;omega) (by omega)
  have hc : ∀ j,W'.cell? ⟨g,j,none⟩ = W.cell? ⟨g,j,none⟩:=fun j=>World.cell?_of_block hb
  refine ⟨h.gE,Nat.le_trans h.Es k.size,fun j=>(World.frozen?_of_block hb).trans (h.fz j),fun i hi t ht=>by rw [hc];exact h.hd i hi t ht,fun i hi=>?_⟩
  obtain ⟨gu,gc,gn,gm,⟨c1,c2,c3,c4⟩,r1,r2,r3,r4⟩:=h.rw i hi
  exact ⟨gu,gc,gn,gm,⟨by rw [hc];exact c1,by rw [hc];exact c2,by rw [hc];exact c3,by rw [hc];exact c4⟩,r1.k1 h.Es k,r2.k1 h.Es k,r3.k1 h.Es k,r4.k1 h.Es k⟩
theorem Mst.kb {W W' : World} {g E n : Nat} {F : Nat → Pd} (h : Mst g E n F W) (k : Kb 0 W W') : Mst g E n F W':=h.k1 (gx:=g + 1) (by omega) (K1.of_kb k)
theorem Mst.set {W : World} {g E n : Nat} {F : Nat → Pd} (h : Mst g E n F W) (i t : Nat) (ht : t < 5) (v : Value) : Mst g E n F (W.setCell ⟨g,i * 9 + t,none⟩ v):=by
  have k:=K1.set1 g W (i * 9 + t) v
  have hE:=h.Es
  have hg:=h.gE
  have hc : ∀ a s,5 ≤ s → s < 9 → (W.setCell ⟨g,i * 9 + t,none⟩ v).cell? ⟨g,a * 9 + s,none⟩ = W.cell? ⟨g,a * 9 + s,none⟩:=fun a s h5 h9=>set_ne _ _ _ _ _ (by omega)
  refine ⟨hg,Nat.le_trans hE k.size,fun j=>(k.fz j (by omega)).trans (h.fz j),fun a ha s hs=>k.cell _ (h.hd a ha s hs),fun a ha=>?_⟩
  obtain ⟨gu,gc,gn,gm,⟨c1,c2,c3,c4⟩,r1,r2,r3,r4⟩:=h.rw a ha
  exact ⟨gu,gc,gn,gm,⟨(hc a 5 (by omega) (by omega)).trans c1,(hc a 6 (by omega) (by omega)).trans c2,(hc a 7 (by omega) (by omega)).trans c3,(hc a 8 (by omega) (by omega)).trans c4⟩,r1.k1 hE k,r2.k1 hE k,r3.k1 hE k,r4.k1 hE k⟩
structure KE (B E : Nat) (W w' : World) : Prop where
  os : w'.os = W.os
  output : w'.output = W.output
  size : W.heap.size ≤ w'.heap.size
  block : ∀ b,b < W.heap.size → b < B ∨ E ≤ b → w'.heap[b]? = W.heap[b]?
theorem KE.refl (B E : Nat) (W : World) : KE B E W W:=⟨rfl,rfl,Nat.le_refl _,fun _ _ _=>rfl⟩
theorem KE.k1 {B E g : Nat} {W a b : World} (h : KE B E W a) (hg : B ≤ g ∧ g < E) (k : K1 g a b) : KE B E W b :=
  ⟨k.os.trans h.os,k.output.trans h.output,Nat.le_trans h.size k.size,fun i hi hb=>(k.block i (Nat.lt_of_lt_of_le hi h.size) (by omega)).trans (h.block i hi hb)⟩
theorem eq_byts {va vb : Value} {n : Nat} {A : Nat → Int} (w : World) (ha : RowV w va n (fun i => .int .u8 (A i))) (hb : RowV w vb n (fun i => .int .u8 (A i))) (hn : n ≤ 1048576) :
    Calls Tryz.prog 9 #[va,vb] w fun e w'=>e = .returned (.bool true) ∧ ∃ d,w' = w.drewN d:=by
  obtain ⟨pa,ca,rfl,ha2⟩:=ha
  obtain ⟨pb,cb,rfl,hb2⟩:=hb
  have HA : Hid ((0 < n → ∃ a : Addr,pa = some a ∧ n ≤ ca ∧ ∀ i,i < n → w.cell? (a.add i) = some (.int .u8 (A i))) ∧ (0 < n → ∃ a : Addr,pb = some a ∧ n ≤ cb ∧ ∀ i,i < n → w.cell? (a.add i) = some (.int .u8 (A i)))):=(⟨ha2,hb2⟩ : _ ∧ _)
  have hnI : (n : Int) ≤ 1048576:=by omega
  clear ha2 hb2 hn
  go_enter Tryz.func9,Tryz.ntmps9
  go_wp2_with fail
  go_loopw [5] (fun s5 wr=>∃ i d : Nat,s5 = .int .i64 (i : Int) ∧ i ≤ n ∧ wr = w.drewN d) (fun s5 _=>n - (intOf s5).toNat)
  case atStart=>exact ⟨0,0,rfl,Nat.zero_le _,rfl⟩
  case round =>
    obtain ⟨i,d,rfl,hin,rfl⟩:=hrel
    rcases Nat.lt_or_ge i n with hi | hi
    · obtain ⟨a,rfl,hca,hra⟩:=HA.1 (by omega)
      obtain ⟨b,rfl,hcb,hrb⟩:=HA.2 (by omega)
      have hiI : (i : Int) < (n : Int):=by omega
      have qa:=hra i hi
      have qb:=hrb i hi
      clear hra hrb HA hin
      generalize A i = x at *
      go_wp2_with fail
      go_quiet (skip)
      go_wp2_with fail
      go_roundw
      case rel=>exact ⟨i + 1,_,by go_num,by omega,rfl⟩
      case measure=>simp [intOf];omega
    · obtain rfl : i = n:=by omega
      clear HA
      go_wp2_with fail
      go_ret
      exact ⟨rfl,_,rfl⟩
theorem mark_byts {v : Value} {g n : Nat} {A : Nat → Int} (w : World) (k : Int) (ha : OwnR w v g n (fun i => .int .u8 (A i))) (hn : n ≤ 1048576) (hk0 : 0 ≤ k) (hk : k ≤ 100000000) :
    Calls Tryz.prog 12 #[v,.int .i64 k] w fun e w'=>e = .returned (.int .i64 (k + (n : Int))) ∧ Kq (fun j=>0 < n ∧ j = g) w w' ∧ OwnR w' v g n (fun i=>.int .u8 ((k + (i : Int)) % 256)):=by
  obtain ⟨pa,ca,rfl,ha2⟩:=ha.sl
  by_cases h0 : n = 0
  · subst h0
    go_enter Tryz.func12,Tryz.ntmps12
    go_wp2_with fail
    refine wp_loop_rounds 1 ?_
    rw [rounds_succ]
    go_wp2_with fail
    go_ret
    exact ⟨by simp,Kq.refl _ _,⟨⟨pa,ca,rfl,ha2⟩,fun i hi=>by omega,fun f=>by omega⟩⟩
  · obtain ⟨rfl,hca⟩:=ha2 (by omega)
    have HI0 : Hid (MkR w g n (fun i=>.int .u8 (A i)) (fun i=>.int .u8 ((k + (i : Int)) % 256)) 0 w):=(⟨Kq.refl _ _,fun i hi=>by omega,fun i _ hi=>ha.cell i hi,ha.fz (by omega)⟩ : MkR w g n _ _ 0 w)
    have hnI : (n : Int) ≤ 1048576:=by omega
    have HN0 : Hid (0 < n):=(by omega : 0 < n)
    clear ha2 ha h0
    go_enter Tryz.func12,Tryz.ntmps12
    go_wp2_with fail
    go_loopw [1,5] (fun s1 s5 wr=>∃ i : Nat,s5 = .int .i64 (i : Int) ∧ s1 = .int .i64 (k + (i : Int)) ∧ i ≤ n ∧ Hid (MkR w g n (fun i=>.int .u8 (A i)) (fun i=>.int .u8 ((k + (i : Int)) % 256)) i wr)) (fun _ s5 _=>n - (intOf s5).toNat)
    case atStart=>exact ⟨0,rfl,by simp,Nat.zero_le _,HI0⟩
    case round =>
      clear HI0
      obtain ⟨i,rfl,rfl,hin,HI⟩:=hrel
      have hI:=(show MkR w g n (fun i=>.int .u8 (A i)) (fun i=>.int .u8 ((k + (i : Int)) % 256)) i wr from HI)
      rcases Nat.lt_or_ge i n with hi | hi
      · have hiI : (i : Int) < (n : Int):=by omega
        obtain ⟨c,f,hM⟩:=hI.step hi (Below.refl _ _)
        have hx : k + (i : Int) ≤ 101048576:=by omega
        have hx0 : 0 ≤ k + (i : Int):=by omega
        have HM : Hid (MkR w g n (fun i=>.int .u8 (A i)) (fun i=>.int .u8 ((k + (i : Int)) % 256)) (i + 1) (wr.setCell ⟨g,i,none⟩ (.int .u8 ((k + (i : Int)) % 256)))):=hM
        clear hM hI HI hin
        generalize A i = y at c
        have hxk : ∃ x : Int,x = k + (i : Int):=⟨_,rfl⟩
        obtain ⟨x,hxk⟩:=hxk
        have HX : Hid (x = k + (i : Int)):=hxk
        rw [← hxk] at hx hx0 HM ⊢
        clear hxk
        have hwr : IntKind.u8.wrap x = x % 256:=wrap_u8 x
        obtain ⟨xb,hxb⟩ : ∃ xb,xb = x % 256:=⟨_,rfl⟩
        rw [← hxb] at hwr HM
        clear hxb
        go_wp2_with fail
        go_roundw
        case rel=>exact ⟨i + 1,by go_num,by rw [show x = k + (i : Int) from HX];exact congrArg (Value.int .i64) (by omega),by omega,HM⟩
        case measure=>simp [intOf];omega
      · obtain rfl : i = n:=by omega
        have HE : Hid (MkR w g i (fun i=>.int .u8 (A i)) (fun i=>.int .u8 ((k + (i : Int)) % 256)) i wr):=hI
        clear HI hI
        go_wp2_with fail
        go_ret
        exact ⟨rfl,HE.kq.mono (fun j e=>⟨HN0,e⟩),⟨⟨_,ca,rfl,fun _=>⟨rfl,hca⟩⟩,fun j hj=>HE.don j hj,fun _ j=>HE.fz j⟩⟩
theorem OwnR.kb {W W' : World} {v : Value} {g n : Nat} {A : Nat → Value} (h : OwnR W v g n A) (k : n ≠ 0 → W'.heap[g]? = W.heap[g]?) : OwnR W' v g n A:=by
  refine ⟨h.sl,fun i hi=>?_,fun q j=>?_⟩
  · rw [World.cell?_of_block (w:=W) (k (by omega))];exact h.cell i hi
  · rw [World.frozen?_of_block (w:=W) (k (by omega))];exact h.fz q j
theorem RowPF.mono {b c : Nat} {W : World} {v : Value} {n : Nat} {F : Nat → Pd} (h : RowPF b W v n F) (hc : c ≤ b) : RowPF c W v n F:=by
  obtain ⟨g,h1,h2,h3⟩:=h
  exact ⟨g,h1,Nat.le_trans hc h2,h3⟩
theorem RowPF.form {b : Nat} {W : World} {v : Value} {n : Nat} {F : Nat → Pd} (h : RowPF b W v n F) : ∃ p c,v = .slice p n c ∧ True:=by
  obtain ⟨g,h1,_⟩:=h
  exact ⟨_,_,h1,trivial⟩
theorem Img.len {np : Nat} {F : Nat → Pd} {R : List UInt8} (h : Img np F R) : R.length ≤ 1048576:=by
  obtain ⟨c,f,n,_,rfl⟩:=h
  split
  · rename_i q;omega
  · simp
theorem kb_drewN {W w' : World} (h : ∃ d,w' = W.drewN d) : Kb 0 W w':=by
  obtain ⟨d,rfl⟩:=h
  exact (Kb.refl 0 W).drewN d
end Go.Proofs.YtnmeemjoodoalaaGreatDoor.Fo
