import Derived.Test.YtomcmnompajnlaaGreatDoorDXDua
import Derived.Test.YtomcmnompajnlaaGreatDoorBSpy
import Derived.Test.YtomcmnompajnlaaGreatDoorCSkt
import Derived.Test.YtomcmnompajnlaaGreatDoorBSpf
import Derived.Test.YtomcmnompajnlaaGreatDoorBSpe
import Derived.Test.YtomcmnompajnlaaGreatDoorBTud
import Derived.Test.YtomcmnompajnlaaGreatDoorBSkm
import Derived.Test.YtomcmnompajnlaaGreatDoorCSko
import Derived.Test.YtomcmnompajnlaaGreatDoorCSkxd
import Derived.Test.YtomcmnompajnlaaGreatDoorBBab
import Derived.Test.YtomcmnompajnlaaGreatDoorCSkf
import Derived.Test.YtomcmnompajnlaaGreatDoorCSka
import Derived.Test.YtomcmnompajnlaaGreatDoorCBaf
import Derived.Test.YtomcmnompajnlaaGreatDoorDXBao
import Derived.Deep.Slices
import Derived.SizedLaws
import Derived.Carry
import Derived.Deep.QuietTactic
import Derived.BigQuiet
import Derived.Test.YtomcmnompajnlaaGreatDoorCSkg
import Derived.Test.YtomcmnompajnlaaGreatDoorCSkxb
import Derived.Test.YtomcmnompajnlaaGreatDoorBTkc
import Derived.Test.YtomcmnompajnlaaGreatDoorBSdj
import Derived.Test.YtomcmnompajnlaaGreatDoorDXSea
import Derived.Deep.RegionHeldLaw
import Derived.Test.YtomcmnompajnlaaGreatDoorBQsh
import Derived.Test.YtomcmnompajnlaaGreatDoorDXQua
import Derived.Test.YtomcmnompajnlaaGreatDoorBQua
import Derived.Shelf.Strings.Builder1
import Derived.BigRegion
import Derived.Test.YtomcmnompajnlaaGreatDoorBSpb
import Derived.Test.YtomcmnompajnlaaGreatDoorBSpi
import Derived.RangeFuncFrom
import Derived.RangeFuncLeaves
import Derived.RangeFuncCalls
import Derived.OwnWalkIn
import Derived.TacticsInMore
import Derived.LoopNIn
import Derived.LoopIn
import Derived.Shelf.Abstract
import Derived.RangeFuncBox
import Derived.Test.YtomcmnompajnlaaGreatDoorBSpl
import Derived.Test.YtomcmnompajnlaaGreatDoorBSbd
import Derived.Test.YtomcmnompajnlaaGreatDoorBShc
import Derived.Deep.MidRow
import Derived.Shelf.Strconv.Clone
import Derived.Test.YtomcmnompajnlaaGreatDoorProg
import Derived.RangeFuncNested
import Derived.RangeFuncBound
import Derived.Shelf.RegionOpen
import Derived.WalkKit
import Derived.Maps.AppendAt
import Derived.Deep.AppendLies
import Derived.Barred
set_option maxRecDepth 100000
set_option maxHeartbeats 16000000
namespace Go.Proofs.YtomcmnompajnlaaGreatDoor.Fo
open Go.ChangeShapes Go.WideShapes Go.ChangeAt Go.RowKit
set_option linter.unusedVariables false
structure Fb (w W:World) (a:Fv) (pn:Option Addr) (p cn:Nat) (pk:Option Addr) (q ck:Nat) (A:Nat→ByteArray) (K:Nat→Int):Prop where
  sz:w.heap.size+2≤W.heap.size
  gs : 10≤w.heap.size
  bel:Below w.heap.size w W
  c5:W.cell? ⟨w.heap.size,5,none⟩=some (.int .i64 a.m)
  c6:W.cell? ⟨w.heap.size,6,none⟩=some (.string a.x)
  c7:W.cell? ⟨w.heap.size,7,none⟩=some (.slice pn p cn)
  c8:W.cell? ⟨w.heap.size,8,none⟩=some (.slice pk q ck)
  ci:∀ i n,i < 5→(its a)[i]? = some n→W.cell? ⟨w.heap.size+1,i,none⟩=some (.int .i64 n)
  rn : 0 < p→∃ b:Addr,pn=some b∧p≤cn∧∀ i,i < p→W.cell? (b.add i)=some (.string (A i))
  rk : 0 < q→∃ b:Addr,pk=some b∧q≤ck∧∀ i,i < q→W.cell? (b.add i)=some (.int .i64 (K i))
  ln:∀ b:Addr,pn=some b→∀ i,i < p→(b.add i).block < w.heap.size
  lk:∀ b:Addr,pk=some b→∀ i,i < q→(b.add i).block < w.heap.size
  pw:Pw W
theorem Fb.to {w W W':World} {a:Fv} {pn:Option Addr} {p cn:Nat} {pk:Option Addr} {q ck:Nat} {A:Nat→ByteArray} {K:Nat→Int} (h:Fb w W a pn p cn pk q ck A K) (hb:Below (w.heap.size+2) W W'):Fb w W' a pn p cn pk q ck A K:=by
  have hl:=h.sz
  have hg:=h.gs
  have e:∀ (g j:Nat),g≤w.heap.size+1→W'.cell? ⟨g,j,none⟩=W.cell? ⟨g,j,none⟩:=fun g j hg=>hb.cell (p:=⟨g,j,none⟩) (show g < w.heap.size+2 by omega)
  refine ⟨Nat.le_trans hl hb.size,hg,h.bel.trans (hb.mono (by omega)),?_,?_,?_,?_,?_,?_,?_,h.ln,h.lk,pw_blk h.pw (hb.block _ (by omega))⟩
  · rw [e _ _ (by omega)];exact h.c5
  · rw [e _ _ (by omega)];exact h.c6
  · rw [e _ _ (by omega)];exact h.c7
  · rw [e _ _ (by omega)];exact h.c8
  · intro i n h5 hi;rw [e _ _ (by omega)];exact h.ci i n h5 hi
  · intro h0
    obtain ⟨b,e1,e2,e3⟩:=h.rn h0
    exact ⟨b,e1,e2,fun i hi=>(hb.cell (p:=b.add i) (by have:=h.ln b e1 i hi;omega)).trans (e3 i hi)⟩
  · intro h0
    obtain ⟨b,e1,e2,e3⟩:=h.rk h0
    exact ⟨b,e1,e2,fun i hi=>(hb.cell (p:=b.add i) (by have:=h.lk b e1 i hi;omega)).trans (e3 i hi)⟩
structure Fz (w W:World) (a:Fv) (pn:Option Addr) (p cn:Nat) (pk:Option Addr) (q ck:Nat) (A:Nat→ByteArray) (K:Nat→Int) (xs:List ByteArray) (v:Value):Prop where
  fb:Fb w W a pn p cn pk q ck A K
  row:W.ownsRow (w.heap.size+2) 9 1 v xs.length (xs.map Value.string)
theorem Fz.call {w W W':World} {a:Fv} {pn:Option Addr} {p cn:Nat} {pk:Option Addr} {q ck:Nat} {A:Nat→ByteArray} {K:Nat→Int} {xs:List ByteArray} {v:Value} (h:Fz w W a pn p cn pk q ck A K xs v) (hb:Below W.heap.size W W'):Fz w W' a pn p cn pk q ck A K xs v:=by
  refine ⟨h.fb.to (hb.mono h.fb.sz),h.row.1,?_⟩
  rcases h.row.2 with h1 | ⟨g,cap,cur,h1,h2,h3,h4,h5,h6⟩
  · exact .inl h1
  · refine .inr ⟨g,cap,cur,h1,h2,?_,h4,h5,h6⟩
    rw [hb.block g (h.row.lt g (by rw [h1];rfl)).2]
    exact h3
theorem Fz.add {w W w1 : World} {a : Fv} {pn : Option Addr} {p cn : Nat} {pk : Option Addr} {q ck : Nat} {A : Nat → ByteArray} {K : Nat → Int} {xs ys : List ByteArray} {v v' : Value} (h : Fz w W a pn p cn pk q ck A K xs v) (k : Nat) (hk : k = ys.length)
    (ho:w1.ownsRow (w.heap.size+2) 9 1 v' (xs.length+k) (xs.map Value.string ++ ys.map Value.string)) (hg:W.grownBy w1 v.ownBlock):Fz w w1 a pn p cn pk q ck A K (xs ++ ys) v':=by
  subst hk
  have hs:=h.fb.sz
  refine ⟨h.fb.to ⟨hg.os,hg.tape,hg.output,hg.size,fun i hi=>?_⟩,?_⟩
  · exact hg.block i (by omega) (fun e2=>by have:=(h.row.lt i e2.symm).1;omega)
  · rw [List.length_append,List.map_append];exact ho
theorem im_fields {a : Fv} {vn vk : Value} {p q : Nat} {A : Nat → ByteArray} {K : Nat → Int} (w : World) (hl : Lk a p A q K) (hg : 10 ≤ w.heap.size) (hpw : Pw w) (hrn : RowV w vn p (fun i => .string (A i))) (hrk : RowV w vk q (fun i => .int .i64 (K i))) :
    Calls Tryz.prog 54 #[fmv a vn vk] w fun e w'=>∃ g cap,e = .returned (.slice (some ⟨g,0,none⟩) (f5 a p A q K q).length cap)∧(f5 a p A q K q).length≤cap∧g < w'.heap.size∧(∀ j x,(f5 a p A q K q)[j]? = some x→w'.cell? ⟨g,j,none⟩=some (.string x))∧Below w.heap.size w w':=by
  obtain ⟨pn,cn,rfl,hn2⟩:=hrn
  obtain ⟨pk,ck,rfl,hk2⟩:=hrk
  have HL:Hid (Lk a p A q K):=hl
  have hpI:(p:Int)≤200:=by have:=hl.hp;omega
  have hqI:(q:Int)≤200:=by have:=hl.hq;omega
  obtain ⟨i0,hi0,hz0,hz1,hz2⟩:=info_parts info9
  have HI0:Hid (Tryz.prog.info? 9=some i0):=hi0
  have HFB:Hid (∀ t1 t2:TypeId,Fz w ((w.alloc (.cells #[.int .i64 a.k,.int .i64 a.f,.int .i64 a.t,.int .i64 a.l,.int .i64 a.o,.int .i64 a.m,.string a.x,.slice pn p cn,.slice pk q ck] t1)).alloc (.cells #[.int .i64 a.k,.int .i64 a.f,.int .i64 a.t,.int .i64 a.l,.int .i64 a.o] t2)) a pn p cn pk q ck A K (f1 a 0) (.slice none 0 0)):=(fun t1 t2=>by
    have hb:=bel2 w (.cells #[.int .i64 a.k,.int .i64 a.f,.int .i64 a.t,.int .i64 a.l,.int .i64 a.o,.int .i64 a.m,.string a.x,.slice pn p cn,.slice pk q ck] t1) (.cells #[.int .i64 a.k,.int .i64 a.f,.int .i64 a.t,.int .i64 a.l,.int .i64 a.o] t2)
    refine ⟨⟨by simp,hg,hb,?_,?_,?_,?_,?_,?_,?_,?_,?_,pw_below hpw hg hb⟩,World.ownsRow_nil _ _ _ _⟩
    · rw [World.cell?_alloc_past _ _ _ (by simp),World.cell?_alloc_at _ _ _ _ rfl];rfl
    · rw [World.cell?_alloc_past _ _ _ (by simp),World.cell?_alloc_at _ _ _ _ rfl];rfl
    · rw [World.cell?_alloc_past _ _ _ (by simp),World.cell?_alloc_at _ _ _ _ rfl];rfl
    · rw [World.cell?_alloc_past _ _ _ (by simp),World.cell?_alloc_at _ _ _ _ rfl];rfl
    · intro i n h5 hi
      rw [World.cell?_alloc_at _ _ _ _ (by simp)]
      match i,hi,h5 with
      | 0,hi,_=>cases hi;rfl
      | 1,hi,_=>cases hi;rfl
      | 2,hi,_=>cases hi;rfl
      | 3,hi,_=>cases hi;rfl
      | 4,hi,_=>cases hi;rfl
      | n+5,_,h5=>omega
    · intro h0
      obtain ⟨b,e1,e2,e3⟩:=hn2 h0
      exact ⟨b,e1,e2,fun i hi=>(hb.cell (lt_of_cell' (e3 i hi))).trans (e3 i hi)⟩
    · intro h0
      obtain ⟨b,e1,e2,e3⟩:=hk2 h0
      exact ⟨b,e1,e2,fun i hi=>(hb.cell (lt_of_cell' (e3 i hi))).trans (e3 i hi)⟩
    · intro b e1 i hi
      obtain ⟨b2,e2,_,e3⟩:=hn2 (by omega)
      rw [e1] at e2
      cases e2
      exact lt_of_cell' (e3 i hi)
    · intro b e1 i hi
      obtain ⟨b2,e2,_,e3⟩:=hk2 (by omega)
      rw [e1] at e2
      cases e2
      exact lt_of_cell' (e3 i hi):∀ t1 t2:TypeId,_)
  clear hn2 hk2 hl hg hpw hi0
  unfold fmv
  go_enter Tryz.func54,Tryz.ntmps54
  go_upto_block 0 with fail
  go_wp2_with fail
  obtain ⟨W2,hW2⟩:∃ W2,W2=(w.alloc (.cells #[.int .i64 a.k,.int .i64 a.f,.int .i64 a.t,.int .i64 a.l,.int .i64 a.o,.int .i64 a.m,.string a.x,.slice pn p cn,.slice pk q ck] 64)).alloc (.cells #[.int .i64 a.k,.int .i64 a.f,.int .i64 a.t,.int .i64 a.l,.int .i64 a.o] 3):=⟨_,rfl⟩
  have HS0:Hid (Fz w W2 a pn p cn pk q ck A K (f1 a 0) (.slice none 0 0)):=by
    show Fz w W2 a pn p cn pk q ck A K (f1 a 0) (.slice none 0 0)
    rw [hW2]
    exact (show ∀ t1 t2:TypeId,_ from HFB) _ _
  rw [← hW2]
  clear hW2 HFB
  go_loopw [3,20] (fun s3 s20 wr=>∃ (i:Nat) (v:Value),i≤5∧s20 = .int .i64 (i:Int)∧v=s3∧Hid (Fz w wr a pn p cn pk q ck A K (f1 a i) v)) (fun _ s20 _=>5 - (intOf s20).toNat)
  case atStart=>exact ⟨0,_,by omega,rfl,rfl,HS0⟩
  case round =>
    clear HS0
    obtain ⟨i,v,hi,rfl,hv,HS⟩:=hrel
    subst hv
    have hS:=(show Fz w wr a pn p cn pk q ck A K (f1 a i) v from HS)
    have hL:=(show Lk a p A q K from HL)
    by_cases hi5:i < 5
    · have hiI:(i:Int) < 5:=by omega
      obtain ⟨z,hz⟩:∃ z,(its a)[i]? = some z:=⟨_,List.getElem?_eq_getElem (show i < (its a).length by simp [its];omega)⟩
      have hrz:=hL.rg z (List.mem_of_getElem? hz)
      have hc:=hS.fb.ci i z hi5 hz
      have hd:=impl_itoa z hrz.1 hrz.2 wr hS.fb.pw
      have hfl:=f1_len a i
      have HST:Hid (∀ (w1:World),Below wr.heap.size wr w1→w.heap.size+2≤w1.heap.size∧(∀ o,(w1.alloc o).ownsRow (w.heap.size+2) 9 1 v (f1 a i).length ((f1 a i).map Value.string))∧∀ (o:Obj) (v':Value) (w2:World),w2.ownsRow (w.heap.size+2) 9 1 v' ((f1 a i).length+1) ((f1 a i).map Value.string ++ [.string (itx z)])→(w1.alloc o).grownBy w2 v.ownBlock→Fz w w2 a pn p cn pk q ck A K (f1 a (i+1)) v'):=(fun w1 hb=>by
        have h1:=hS.call hb
        refine ⟨h1.fb.sz,fun o=>h1.row.alloc o,fun o v' w2 ho hg=>?_⟩
        rw [f1_succ a i z hz]
        exact (h1.call (bel1 w1 o)).add 1 rfl ho hg:∀ (w1:World),_)
      clear hS hL hz hrz
      generalize itx z=T at *
      generalize f1 a i=xs at *
      have h1c:∀ u ∈ [Value.string T],u.oneCell'=true:=str_one [T]
      go_wp2_with (fail)
      refine hd.mono ?_
      rintro e w1 ⟨rfl,b1⟩
      obtain ⟨hsz1,hrow1,HST1⟩:=(show ∀ (w1:World),Below wr.heap.size wr w1→_ from HST) w1 b1
      have HST2:Hid (∀ (o:Obj) (v':Value) (w2:World),w2.ownsRow (w.heap.size+2) 9 1 v' (xs.length+1) (xs.map Value.string ++ [.string T])→(w1.alloc o).grownBy w2 v.ownBlock→Fz w w2 a pn p cn pk q ck A K (f1 a (i+1)) v'):=HST1
      clear hd hc b1 HS HST HST1
      go_wp2_with (at_builtin;refine wpList_append_own _ rfl (.tmp 24) (.tmp 27) 62 rfl (w.heap.size+2) 9 i0 (.string ⟨#[]⟩) 1 16 Tryz.underlying62 HI0 hz0 hz1 hz2 rfl (by decide) _ _ _ rfl (hrow1 _) ⟨w1.heap.size,0,none⟩ 1 1 [.string T] rfl rfl (qr_cells w1 #[.string T] 9 _ rfl) h1c (by unfold maxLen;omega) (by omega) (by simp;omega) ?_;intro v' w2 hown1 hgrow1 _)
      have HN:Hid (Fz w w2 a pn p cn pk q ck A K (f1 a (i+1)) v'):=(show ∀ (o:Obj) (v':Value) (w2:World),_ from HST2) _ _ _ hown1 hgrow1
      clear hown1 hgrow1 HST2 hrow1
      go_wp2_with fail
      go_roundw
      case rel=>exact ⟨i+1,v',by omega,by go_num,rfl,HN⟩
      case measure=>simp [intOf];omega
    · have e5:i=5:=by omega
      subst e5
      clear hi hi5
      have s1:wr.cell? ⟨w.heap.size,5,none⟩=some (.int .i64 a.m)∧wr.cell? ⟨w.heap.size,6,none⟩=some (.string a.x)∧wr.cell? ⟨w.heap.size,7,none⟩=some (.slice pn p cn):=⟨hS.fb.c5,hS.fb.c6,hS.fb.c7⟩
      have y1:=hS
      have hrm:=hL.rg a.m (by simp [its])
      have HF:Hid (∀ W,Pw W→Calls Tryz.prog 82 #[.int .i64 a.m,.int .i64 10] W fun e w'=>e = .returned (.string (itx a.m))∧Below W.heap.size W w'):=(fun W hp=>impl_fmt a.m hrm.1 hrm.2 W hp:∀ W,_)
      have HQ:Hid (∀ W,Calls Tryz.prog 83 #[.string a.x] W fun e w'=>e = .returned (.string (qt a.x))∧Below W.heap.size W w'):=(fun W=>impl_qt a.x W:∀ W,_)
      have HT:Hid (∀ W,Pw W→Calls Tryz.prog 81 #[.int .i64 (p:Int)] W fun e w'=>e = .returned (.string (itx (p:Int)))∧Below W.heap.size W w'):=(fun W hp=>impl_itoa (p:Int) (by omega) (by omega) W hp:∀ W,_)
      have hfl:=f1_len a 5
      have HF2:Hid (f2 a p=f1 a 5 ++ [itx a.m,qt a.x,itx (p:Int)]):=rfl
      clear hS hL hrm HS
      generalize itx a.m=Tm at *
      generalize qt a.x=Tq at *
      generalize itx (p:Int)=Tp at *
      generalize f1 a 5=xs at *
      have h1c:∀ u ∈ [Value.string Tm,Value.string Tq,Value.string Tp],u.oneCell'=true:=str_one [Tm,Tq,Tp]
      go_wp2_with fail
      go_region_held_law (fun W'=>W'.cell? ⟨w.heap.size,5,none⟩=some (.int .i64 a.m)∧W'.cell? ⟨w.heap.size,6,none⟩=some (.string a.x)∧W'.cell? ⟨w.heap.size,7,none⟩=some (.slice pn p cn)) (first | exact s5 | exact s6 | exact s4 | exact s3 | exact s2 | exact s1)
        (first
          | (go_at_call 82;refine ((show ∀ W,Pw W→Calls Tryz.prog 82 #[.int .i64 a.m,.int .i64 10] W fun e w'=>e = .returned (.string Tm)∧Below W.heap.size W w' from HF) wr.drew (pw_blk y1.fb.pw rfl)).mono ?_;rintro e w2 ⟨rfl,b2⟩;have y2:=y1.call ⟨b2.os,b2.tape,b2.output,b2.size,b2.block⟩;have s2:w2.cell? ⟨w.heap.size,5,none⟩=some (.int .i64 a.m)∧w2.cell? ⟨w.heap.size,6,none⟩=some (.string a.x)∧w2.cell? ⟨w.heap.size,7,none⟩=some (.slice pn p cn):=⟨y2.fb.c5,y2.fb.c6,y2.fb.c7⟩)
          | (go_at_call 83;refine ((show ∀ W,Calls Tryz.prog 83 #[.string a.x] W fun e w'=>e = .returned (.string Tq)∧Below W.heap.size W w' from HQ) _).mono ?_;rintro e w3 ⟨rfl,b3⟩;have y3:=y2.call ⟨b3.os,b3.tape,b3.output,b3.size,b3.block⟩;have s3:w3.cell? ⟨w.heap.size,5,none⟩=some (.int .i64 a.m)∧w3.cell? ⟨w.heap.size,6,none⟩=some (.string a.x)∧w3.cell? ⟨w.heap.size,7,none⟩=some (.slice pn p cn):=⟨y3.fb.c5,y3.fb.c6,y3.fb.c7⟩)
          | (go_at_call 81;refine ((show ∀ W,Pw W→Calls Tryz.prog 81 #[.int .i64 (p:Int)] W fun e w'=>e = .returned (.string Tp)∧Below W.heap.size W w' from HT) _ y3.fb.pw).mono ?_;rintro e w4 ⟨rfl,b4⟩;have y4:=y3.call ⟨b4.os,b4.tape,b4.output,b4.size,b4.block⟩;have s4:w4.cell? ⟨w.heap.size,5,none⟩=some (.int .i64 a.m)∧w4.cell? ⟨w.heap.size,6,none⟩=some (.string a.x)∧w4.cell? ⟨w.heap.size,7,none⟩=some (.slice pn p cn):=⟨y4.fb.c5,y4.fb.c6,y4.fb.c7⟩;have hsz4:=y4.fb.sz;have hro4:=y4.row.alloc (.cells #[.string Tm,.string Tq,.string Tp] 9);have y6:=y4.call (bel1 w4 (.cells #[.string Tm,.string Tq,.string Tp] 9));have s6:(w4.alloc (.cells #[.string Tm,.string Tq,.string Tp] 9)).cell? ⟨w.heap.size,5,none⟩=some (.int .i64 a.m)∧(w4.alloc (.cells #[.string Tm,.string Tq,.string Tp] 9)).cell? ⟨w.heap.size,6,none⟩=some (.string a.x)∧(w4.alloc (.cells #[.string Tm,.string Tq,.string Tp] 9)).cell? ⟨w.heap.size,7,none⟩=some (.slice pn p cn):=⟨y6.fb.c5,y6.fb.c6,y6.fb.c7⟩)
          | (refine step_append_own rfl (.tmp 30) (.tmp 41) 62 rfl (w.heap.size+2) 9 i0 (.string ⟨#[]⟩) 1 16 Tryz.underlying62 HI0 hz0 hz1 hz2 rfl (by decide) v _ _ rfl (own_heap hro4 rfl) ⟨w4.heap.size,0,none⟩ 3 3 [.string Tm,.string Tq,.string Tp] rfl rfl (cells_heap (qr_cells w4 #[.string Tm,.string Tq,.string Tp] 9 _ rfl) rfl) h1c (by unfold maxLen;omega) (by omega) (by simp;omega) ?_;intro v' w5 hown1 hgrow1 _;have y5:=(y4.call (bel1 w4 (.cells #[.string Tm,.string Tq,.string Tp] 9))).add (ys:=[Tm,Tq,Tp]) 3 rfl hown1 ⟨hgrow1.os,hgrow1.tape,hgrow1.output,hgrow1.size,hgrow1.block⟩;have s5:w5.cell? ⟨w.heap.size,5,none⟩=some (.int .i64 a.m)∧w5.cell? ⟨w.heap.size,6,none⟩=some (.string a.x)∧w5.cell? ⟨w.heap.size,7,none⟩=some (.slice pn p cn):=⟨y5.fb.c5,y5.fb.c6,y5.fb.c7⟩))
      rw [← (show f2 a p=xs ++ [Tm,Tq,Tp] from HF2)] at y5
      have hlen5:(f2 a p).length=xs.length+3:=by rw [show f2 a p=xs ++ [Tm,Tq,Tp] from HF2];simp
      clear s1 s2 s3 s4 s5 s6 y1 y2 y3 y4 y6 b2 b3 b4 HF HQ HT hro4 hsz4 hown1 hgrow1 HF2 h1c
      have hrow5:=y5.row
      have c7:=y5.fb.c7
      have hsz5:=y5.fb.sz
      have HNW:Hid (0 < p→∃ ad:Addr,pn=some ad∧∀ j u,((lsb A p).map Value.string)[j]? = some u→w5.cell? (ad.add j)=some u):=(fun h0=>by
        obtain ⟨b,e1,_,e3⟩:=y5.fb.rn h0
        refine ⟨b,e1,fun j u hu=>?_⟩
        obtain ⟨hj,rfl⟩:j < p∧u = .string (A j):=by
          have h1:=(List.getElem?_eq_some_iff.1 hu).1
          rw [List.length_map,lsb_len] at h1
          refine ⟨h1,?_⟩
          unfold lsb at hu
          rw [List.getElem?_map,List.getElem?_map,List.getElem?_range h1] at hu
          simpa using hu.symm
        exact e3 j hj : 0 < p→_)
      have hnl:((lsb A p).map Value.string).length=p:=by rw [List.length_map,lsb_len]
      have h1n:=str_one (lsb A p)
      have HY5:Hid (Fz w w5 a pn p cn pk q ck A K (f2 a p) v'):=y5
      have hl2:=f2_len a p
      clear y5 hlen5
      rename_i hHx
      clear hHx
      go_wp2_with (at_builtin;refine wpList_append_row rfl (.tmp 43) (.tmp 45) 62 rfl (w.heap.size+2) 9 i0 (.string ⟨#[]⟩) 16 Tryz.underlying62 HI0 hz0 hz1 hz2 rfl v' _ _ rfl hrow5 pn p cn _ rfl hnl HNW h1n (by unfold maxLen;omega) (by omega) (by omega) ?_;intro v6 w6 hown6 hgrow6;have HY6:Hid (Fz w w6 a pn p cn pk q ck A K (f3 a p A) v6):=(show Fz w w5 a pn p cn pk q ck A K (f2 a p) v' from HY5).add p (lsb_len A p).symm hown6 hgrow6;have c8:=(show Fz w w6 a pn p cn pk q ck A K (f3 a p A) v6 from HY6).fb.c8;clear hown6 hgrow6 HY5 HNW hnl h1n hrow5 c7 hsz5)
      have hL:=(show Lk a p A q K from HL)
      refine (impl_itoa (q:Int) (by omega) (by omega) w6 (show Fz w w6 a pn p cn pk q ck A K (f3 a p A) v6 from HY6).fb.pw).mono ?_
      rintro e w7 ⟨rfl,b7⟩
      have y7:=(show Fz w w6 a pn p cn pk q ck A K (f3 a p A) v6 from HY6).call b7
      have hsz7:=y7.fb.sz
      have hrow7:∀ o,(w7.alloc o).ownsRow (w.heap.size+2) 9 1 v6 (f3 a p A).length ((f3 a p A).map Value.string):=fun o=>y7.row.alloc o
      have hl3:=f3_len a p A hL.hp
      have HST7:Hid (∀ (o:Obj) (v':Value) (w2:World),w2.ownsRow (w.heap.size+2) 9 1 v' ((f3 a p A).length+1) ((f3 a p A).map Value.string ++ [.string (itx (q:Int))])→(w7.alloc o).grownBy w2 v6.ownBlock→Fz w w2 a pn p cn pk q ck A K (f5 a p A q K 0) v'):=(fun o v' w2 ho hg=>by
        have e:f5 a p A q K 0=f3 a p A ++ [itx (q:Int)]:=by unfold f5 f4 lsb;simp
        rw [e]
        exact (y7.call (bel1 w7 o)).add 1 rfl ho hg:∀ (o:Obj) (v':Value) (w2:World),_)
      clear b7 y7 HY6 c8 hL
      generalize itx (q:Int)=T at *
      generalize f3 a p A=ys at *
      have h1c:∀ u ∈ [Value.string T],u.oneCell'=true:=str_one [T]
      go_wp2_with (at_builtin;refine wpList_append_own _ rfl (.tmp 47) (.tmp 52) 62 rfl (w.heap.size+2) 9 i0 (.string ⟨#[]⟩) 1 16 Tryz.underlying62 HI0 hz0 hz1 hz2 rfl (by decide) _ _ _ rfl (hrow7 _) ⟨w7.heap.size,0,none⟩ 1 1 [.string T] rfl rfl (qr_cells w7 #[.string T] 9 _ rfl) h1c (by unfold maxLen;omega) (by omega) (by simp;omega) ?_;intro v8 w8 hown8 hgrow8 _;have HY8:Hid (Fz w w8 a pn p cn pk q ck A K (f5 a p A q K 0) v8):=(show ∀ (o:Obj) (v':Value) (w2:World),_ from HST7) _ _ _ hown8 hgrow8;have c8:=(show Fz w w8 a pn p cn pk q ck A K (f5 a p A q K 0) v8 from HY8).fb.c8;clear hown8 hgrow8 HST7 hrow7 hsz7)
      clear c8 h1c
      go_loopw [3,57] (fun s3 s57 wr=>∃ (j:Nat) (v:Value),j≤q∧s57 = .int .i64 (j:Int)∧v=s3∧Hid (Fz w wr a pn p cn pk q ck A K (f5 a p A q K j) v)) (fun _ s57 _=>q - (intOf s57).toNat)
      case atStart=>exact ⟨0,_,by omega,rfl,rfl,HY8⟩
      case round =>
        clear HY8
        obtain ⟨j,v,hj,rfl,hv,HS⟩:=hrel
        subst hv
        have hS:=(show Fz w wr a pn p cn pk q ck A K (f5 a p A q K j) v from HS)
        have hL:=(show Lk a p A q K from HL)
        by_cases hjq:j < q
        · have hjI:(j:Int) < (q:Int):=by omega
          obtain ⟨b,rfl,hcb,hrb⟩:=hS.fb.rk (by omega)
          have hc:=hrb j hjq
          have hrz:=hL.hK j hjq
          have hd:=impl_itoa (K j) hrz.1 hrz.2 wr hS.fb.pw
          have hfl:=f5_len a p A q K j hL.hp (by have:=hL.hq;omega)
          have HST:Hid (∀ (w1:World),Below wr.heap.size wr w1→w.heap.size+2≤w1.heap.size∧(∀ o,(w1.alloc o).ownsRow (w.heap.size+2) 9 1 v (f5 a p A q K j).length ((f5 a p A q K j).map Value.string))∧∀ (o:Obj) (v':Value) (w2:World),w2.ownsRow (w.heap.size+2) 9 1 v' ((f5 a p A q K j).length+1) ((f5 a p A q K j).map Value.string ++ [.string (itx (K j))])→(w1.alloc o).grownBy w2 v.ownBlock→Fz w w2 a pn p cn (some b) q ck A K (f5 a p A q K (j+1)) v'):=(fun w1 hb=>by
            have h1:=hS.call hb
            refine ⟨h1.fb.sz,fun o=>h1.row.alloc o,fun o v' w2 ho hg=>?_⟩
            have e:f5 a p A q K (j+1)=f5 a p A q K j ++ [itx (K j)]:=by unfold f5;rw [lsb_succ,List.append_assoc]
            rw [e]
            exact (h1.call (bel1 w1 o)).add 1 rfl ho hg:∀ (w1:World),_)
          clear hS hL hrz hrb
          generalize itx (K j)=T at *
          generalize K j=z at *
          generalize f5 a p A q K j=xs at *
          have h1c:∀ u ∈ [Value.string T],u.oneCell'=true:=str_one [T]
          go_wp2_with (fail)
          refine hd.mono ?_
          rintro e w1 ⟨rfl,b1⟩
          obtain ⟨hsz1,hrow1,HST1⟩:=(show ∀ (w1:World),Below wr.heap.size wr w1→_ from HST) w1 b1
          have HST2:Hid (∀ (o:Obj) (v':Value) (w2:World),w2.ownsRow (w.heap.size+2) 9 1 v' (xs.length+1) (xs.map Value.string ++ [.string T])→(w1.alloc o).grownBy w2 v.ownBlock→Fz w w2 a pn p cn (some b) q ck A K (f5 a p A q K (j+1)) v'):=HST1
          clear hd hc b1 HS HST HST1
          go_wp2_with (at_builtin;refine wpList_append_own _ rfl (.tmp 61) (.tmp 64) 62 rfl (w.heap.size+2) 9 i0 (.string ⟨#[]⟩) 1 16 Tryz.underlying62 HI0 hz0 hz1 hz2 rfl (by decide) _ _ _ rfl (hrow1 _) ⟨w1.heap.size,0,none⟩ 1 1 [.string T] rfl rfl (qr_cells w1 #[.string T] 9 _ rfl) h1c (by unfold maxLen;omega) (by omega) (by simp;omega) ?_;intro v' w2 hown1 hgrow1 _)
          have HN:Hid (Fz w w2 a pn p cn (some b) q ck A K (f5 a p A q K (j+1)) v'):=(show ∀ (o:Obj) (v':Value) (w2:World),_ from HST2) _ _ _ hown1 hgrow1
          clear hown1 hgrow1 HST2 hrow1
          go_wp2_with fail
          go_roundw
          case rel=>exact ⟨j+1,v',by omega,by go_num,rfl,HN⟩
          case measure=>simp [intOf];omega
        · have eq2:j=q:=by omega
          subst eq2
          have hpos : 0 < (f5 a p A j K j).length:=by unfold f5 f4;simp;omega
          obtain ⟨g',cap',rfl,hle,hlt⟩:=hS.row.form hpos
          have hle2:(f5 a p A j K j).length≤cap':=by
            rcases hS.row.2 with ⟨e1,_⟩ | ⟨g2,cap2,cur,e1,_,_,e2,_⟩
            · cases e1
            · cases e1;exact e2
          have HX:Hid ((f5 a p A j K j).length≤cap'∧g' < wr.heap.size∧(∀ i x,(f5 a p A j K j)[i]? = some x→wr.cell? ⟨g',i,none⟩=some (.string x))∧Below w.heap.size w wr):=(⟨hle2,(hS.row.lt g' rfl).2,fun i x hx=>by
            have:=hS.row.cells (g:=g') rfl i (.string x) (by simp [hx])
            rw [addr_add] at this
            exact this,hS.fb.bel⟩:_∧_∧_∧_)
          clear hS hL hj hjq HS HL
          go_wp2_with fail
          go_ret
          exact ⟨g',cap',rfl,HX⟩
theorem fl_sound {F:Nat→Gv} {n:Nat} {c f:Int} (h:Fl nmp flp F n c f) (h0:c=0):f=0∧0 < n∧n≤3000∧Kn F n:=by
  cases h with
  | sound a1 a2 a3 a4=>exact ⟨rfl,a1,a2,mis_kn a4⟩
  | _=>exact absurd h0 (by decide)
theorem im_sound {v : Value} {n : Nat} {F : Nat → Gv} (w : World) (hg : Gd w) (hf : RowF w v n F) (hn : n ≤ 1048576) (hp : ∀ i, i < n → (F i).p ≤ 1048576) (hq : ∀ i, i < n → (F i).q ≤ 1048576) (hm : ∀ i, i < n → -9223372036854775808 ≤ (F i).a.m ∧ (F i).a.m ≤ 9223372036854775807) :
    Calls Tryz.prog 43 #[.agg #[v]] w fun e w'=>(∃ c f,e = .returned (.bool (dc (c=0)))∧Fl nmp flp F n c f)∧Kz w w':=by
  have hs:=fun o:Obj=>im_sheet (w.alloc o) ((Kz.of_below (bel1 w o)).gd hg) (hf.kz (.of_below (bel1 _ _))) hn hp hq hm
  obtain ⟨pf,cf,rfl,_⟩:=hf
  clear hg hn hp hq hm
  go_enter Tryz.func43,Tryz.ntmps43
  go_wp2_with fail
  refine (hs _).mono ?_
  rintro e w1 ⟨c,f,rfl,hfl,k1⟩
  have HZ:Hid (Kz w w1∧Fl nmp flp F n c f):=(⟨(Kz.of_below (bel1 _ _)).trans k1,hfl⟩:_∧_)
  by_cases h0:c=0
  · obtain ⟨rfl,_⟩:=fl_sound hfl h0
    subst h0
    clear hs hfl k1
    go_wp2_with fail
    go_ret
    exact ⟨⟨0,0,by rw [dc_t rfl];rfl,HZ.2⟩,HZ.1⟩
  · have h0':=bne h0
    clear hs hfl k1
    go_wp2_with fail
    go_ret
    exact ⟨⟨c,f,by rw [dc_f h0];simp,HZ.2⟩,HZ.1⟩
theorem first_or (Q:Nat→Prop):∀ n,(∃ i,i < n∧(∀ j,j < i→Q j)∧¬ Q i)∨∀ j,j < n→Q j:=by
  intro n
  induction n with
  | zero=>exact .inr (fun j hj=>by omega)
  | succ n ih =>
    rcases ih with ⟨i,h1,h2⟩ | h
    · exact .inl ⟨i,by omega,h2⟩
    · rcases Classical.em (Q n) with g | g
      · refine .inr (fun j hj=>?_)
        by_cases e:j=n
        · rw [e];exact g
        · exact h j (by omega)
      · exact .inl ⟨n,by omega,h,g⟩
theorem fl_ex2 (F:Nat→Gv) (n:Nat):∃ c f,Fl nmp flp F n c f:=by
  by_cases h0:n=0∨3000 < n∨(0 < n∧(F (n - 1)).a.k ≠ 1)
  · exact ⟨_,_,.none0 h0⟩
  · have a1 : 0 < n:=by omega
    have a2:n≤3000:=by omega
    have a3:(F (n - 1)).a.k=1:=by
      rcases Classical.em ((F (n - 1)).a.k=1) with e | e
      · exact e
      · exact absurd (Or.inr (Or.inr ⟨a1,e⟩)) h0
    rcases first_or (ndk nmp flp F) n with ⟨i,b1,b2,b3⟩ | b
    · exact ⟨_,_,.shape i a1 a2 a3 b1 b2 b3⟩
    · rcases first_or (fun k=>szl F n k ≠ 0) n with ⟨i,c1,c2,c3⟩ | c
      · exact ⟨_,_,.order i a1 a2 a3 b c1 c2 (Classical.not_not.1 c3)⟩
      · by_cases d:szl F n (n - 1)=(n:Int)
        · rcases first_or (fun k=>dpr F n n k≤100) n with ⟨i,e1,e2,e3⟩ | e
          · exact ⟨_,_,.depth i a1 a2 a3 b c d e1 e2 (by omega)⟩
          · exact ⟨_,_,.sound a1 a2 a3 b c d e⟩
        · exact ⟨_,_,.whole a1 a2 a3 b c d⟩
theorem fl_sound2 {F:Nat→Gv} {n:Nat} {f:Int} (h:Fl nmp flp F n 0 f) : 0 < n∧n≤3000∧Kn F n∧(∀ j,j < n→szl F n j ≠ 0)∧∀ j,j < n→ndk nmp flp F j:=by
  cases h with
  | sound a1 a2 a3 a4 a5 a6 a7=>exact ⟨a1,a2,mis_kn a4,a5,a4⟩
theorem two_ends {P : Program} {f : FuncId} {args : Array Value} {w : World} {R R' : Value → World → Prop}
    (h:Calls P f args w fun | .returned v,w'=>R v w' | _,_=>False) (h':Calls P f args w fun | .returned v,w'=>R' v w' | _,_=>False) (hi:P.inits.idxOf? f=none) :
    ∃ v w',R v w'∧R' v w':=by
  obtain ⟨n,v,w1,e1,r1⟩:=h.done hi
  obtain ⟨m,v',w2,e2,r2⟩:=h'.done hi
  have a:=runN_ended e1 m
  have b:=runN_ended e2 n
  rw [Nat.add_comm,a] at b
  injection b with ho hw
  injection ho with hv
  subst hv hw
  exact ⟨_,_,r1,r2⟩
theorem one_bool {f:FuncId} {x:ByteArray} {z:Bool} (w:World) (h1:Calls Tryz.prog f #[.string x] w fun e w'=>e = .returned (.bool z)∧Below w.heap.size w w') (h2:Calls Tryz.prog f #[.string x] w fun e w'=>e = .returned (.bool false)∧Below w.heap.size w w') (hi:Tryz.prog.inits.idxOf? f=none):z=false:=by
  obtain ⟨v,w',r1,r2⟩:=two_ends (R:=fun v _=>v = .bool z) (R':=fun v _=>v = .bool false) (h1.mono fun e w' ⟨he,_⟩=>by subst he;rfl) (h2.mono fun e w' ⟨he,_⟩=>by subst he;rfl) hi
  rw [r1] at r2
  exact Value.bool.inj r2
theorem nm_40 (w:World) (x:ByteArray) (h:nmp x):x.size≤40:=by
  rcases Nat.lt_or_ge 40 x.size with h1 | h1
  · have:=one_bool w (nm_s x w) (name_ok_big x (by omega) w) (by kernel_rfl)
    rw [dc_t h] at this
    cases this
  · exact h1
theorem fl_40 (w:World) (x:ByteArray) (h:flp x):x.size≤40:=by
  rcases Nat.lt_or_ge 40 x.size with h1 | h1
  · have:=one_bool w (fl_s x w) (flt_ok_big x (by omega) w) (by kernel_rfl)
    rw [dc_t h] at this
    cases this
  · exact h1
theorem rwk_200 (k:Int) (q:Nat):(rwk k q).kh≤200∧(rwk k q).nh≤200:=by
  unfold rwk
  split <;> simp
def Rg (a:Fv):Prop:=∀ n ∈ its a,-9223372036854775808≤n∧n≤9223372036854775807
theorem lk_of (w:World) {F:Nat→Gv} {i:Nat} (hr:Rg (F i).a) (h:ndk nmp flp F i) (hi:i≤3000):Lk (F i).a (F i).p (F i).A (F i).q (F i).K:=by
  have hm:=hr (F i).a.m (by simp [its])
  obtain ⟨_,ha,hk⟩:=(ndk_iff hm).1 h
  obtain ⟨_,hq,_,_,hx,hp,hA⟩:=ha
  obtain ⟨h1,h2⟩:=rwk_200 (F i).a.k (F i).q
  refine ⟨hr,?_,by omega,fun j hj=>Nat.le_trans (nm_40 w _ (hA j hj)) (by omega),by omega,fun j hj=>by have:=hk j hj;omega⟩
  unfold txo at hx
  split at hx
  · rw [hx];decide
  · split at hx
    · exact Nat.le_trans (nm_40 w _ hx) (by omega)
    · split at hx
      · exact Nat.le_trans (fl_40 w _ hx) (by omega)
      · exact hx
def dmp (F:Nat→Gv) (i:Nat):List UInt8:=((List.range i).map fun j=>dln (F j).a (F j).p (F j).A (F j).q (F j).K).flatten
theorem dmp_succ (F:Nat→Gv) (i:Nat):dmp F (i+1)=dmp F i ++ dln (F i).a (F i).p (F i).A (F i).q (F i).K:=by
  unfold dmp
  rw [List.range_succ]
  simp
theorem dmp_len {F:Nat→Gv}:∀ i,(∀ j,j < i→Lk (F j).a (F j).p (F j).A (F j).q (F j).K)→(dmp F i).length≤i*1000000:=by
  intro i
  induction i with
  | zero=>intro _;simp [dmp]
  | succ i ih =>
    intro h
    have h1:=ih (fun j hj=>h j (by omega))
    have h2:=(h i (by omega)).len
    rw [dmp_succ,List.length_append]
    omega
def Dmp (F:Nat→Gv) (n:Nat) (T:ByteArray):Prop:=(∃ c f,Fl nmp flp F n c f∧c ≠ 0∧T=⟨#[]⟩)∨(∃ f,Fl nmp flp F n 0 f∧T=⟨(dmp F n).toArray⟩)
theorem dmp_ex (F:Nat→Gv) (n:Nat):∃ T,Dmp F n T:=by
  obtain ⟨c,f,h⟩:=fl_ex2 F n
  by_cases h0:c=0
  · subst h0;exact ⟨_,.inr ⟨f,h,rfl⟩⟩
  · exact ⟨_,.inl ⟨c,f,h,h0,rfl⟩⟩
theorem qr_call {w W W':World} {l:List UInt8} {v:Value} (h:QR w l v W) (hb:Below W.heap.size W W'):QR w l v W':=by
  refine ⟨⟨h.1.1,?_⟩,h.2.trans (hb.mono h.2.size)⟩
  rcases h.1.2 with h1 | ⟨g,cap,cur,h1,h2,h3,h4⟩
  · exact .inl h1
  · refine .inr ⟨g,cap,cur,h1,h2,?_,h4⟩
    rw [hb.block g (h.1.lt g (by rw [h1];rfl)).2]
    exact h3
theorem qr_str {w W w1:World} {l m:List UInt8} {v v':Value} {k:Nat} (h:QR w l v W) (hk:k=m.length) (ho:w1.ownsRow w.heap.size 5 1 v' (l.length+k) (Lib.byteCells l ++ Lib.byteCells m)) (hg:W.grownBy w1 v.ownBlock):QR w (l ++ m) v' w1:=by
  subst hk
  refine ⟨by rw [List.length_append,bc_append];exact ho,⟨hg.os.trans h.2.os,hg.tape.trans h.2.tape,hg.output.trans h.2.output,Nat.le_trans h.2.size hg.size,fun i hi=>?_⟩⟩
  rw [hg.block i (Nat.lt_of_lt_of_le hi h.2.size) (fun e2=>by have:=(h.1.lt i e2.symm).1;omega)]
  exact h.2.block i hi
theorem sp_dump {v : Value} {n : Nat} {F : Nat → Gv} {T : ByteArray} (w : World) (hf : RowF w v n F) (hn : n ≤ 1048576) (hp : ∀ i, i < n → (F i).p ≤ 1048576) (hq : ∀ i, i < n → (F i).q ≤ 1048576) (hr : ∀ i, i < n → Rg (F i).a) (hP : Dmp F n T) :
    Calls Tryz.prog 25 #[.agg #[v]] w fun e w'=>e = .returned (.string T)∧Below w.heap.size w w':=by
  have HSO:Hid (∀ o:Obj,Calls Tryz.prog 9 #[.agg #[v]] (w.alloc o) fun e w'=>∃ c f,e = .returned (.agg #[.int .i64 c,.int .i64 f])∧Fl nmp flp F n c f∧Below (w.alloc o).heap.size (w.alloc o) w'):=(fun o=>sp_sheet nm_s fl_s (w.alloc o) (hf.below (bel1 _ _)) hn hp hq:∀ o:Obj,_)
  have HRF:Hid (RowF w v n F∧Dmp F n T∧∀ i,i < n→Rg (F i).a):=(⟨hf,hP,hr⟩:_∧_∧_)
  obtain ⟨pf,cf,rfl,_⟩:=hf
  obtain ⟨i0,hi0,hz0,hz1,hz2⟩:=info_parts info5
  have HI0:Hid (Tryz.prog.info? 5=some i0):=hi0
  clear hn hp hq hP hr hi0
  go_enter Tryz.func25,Tryz.ntmps25
  go_wp2_with fail
  refine ((show ∀ o:Obj,_ from HSO) _).mono ?_
  rintro e w1 ⟨c,f,rfl,hfl,b1⟩
  have B1:Below w.heap.size w w1:=(bel1 w _).trans (b1.mono (by simp))
  have c1:w1.cell? ⟨w.heap.size,0,none⟩=some (.slice pf n cf):=(b1.cell (p:=⟨w.heap.size,0,none⟩) (by show w.heap.size < _;simp)).trans (cell_new1 w _ _)
  obtain ⟨hf,hP,hr⟩:=(show RowF w (.slice pf n cf) n F∧Dmp F n T∧∀ i,i < n→Rg (F i).a from HRF)
  clear HSO HRF b1
  by_cases h0:c=0
  case neg =>
    have h0':(c != 0)=true:=bne_iff_ne.2 h0
    have hPe:T=⟨#[]⟩:=by
      rcases hP with ⟨_,_,_,_,e⟩ | ⟨f',a',_⟩
      · exact e
      · exact absurd (Fl.uniq hfl a').1 h0
    subst hPe
    have HB1:Hid (Below w.heap.size w w1):=B1
    clear hf hP hfl h0 c1 B1 hr
    go_wp2_with fail
    go_ret
    exact ⟨rfl,(show Below w.heap.size w w1 from HB1).alloc (show Below w.heap.size w w1 from HB1).size _⟩
  subst h0
  obtain ⟨hn0,hn3,hK,hz,hnd⟩:=fl_sound2 hfl
  have hPe:T=⟨(dmp F n).toArray⟩:=by
    rcases hP with ⟨c',f',a',b',_⟩ | ⟨f',a',b'⟩
    · exact absurd (Fl.uniq hfl a').1.symm b'
    · exact b'
  have hlk:∀ i,i < n→Lk (F i).a (F i).p (F i).A (F i).q (F i).K:=fun i hi=>lk_of w (hr i hi) (hnd i hi) (by omega)
  have HX:Hid (RowF w (.slice pf n cf) n F∧(∀ i,i < n→Lk (F i).a (F i).p (F i).A (F i).q (F i).K)∧T=⟨(dmp F n).toArray⟩∧0 < n∧n≤3000):=(⟨hf,hlk,hPe,hn0,hn3⟩:_∧_∧_∧_∧_)
  have hnI:(n:Int)≤3000:=by omega
  have HS0:Hid (∀ t,Below w.heap.size w (w1.alloc (.cells #[.int .i64 0,.int .i64 f] t))):=(fun t=>B1.alloc B1.size _:∀ t,_)
  have c2:∀ o:Obj,(w1.alloc o).cell? ⟨w.heap.size,0,none⟩=some (.slice pf n cf):=fun o=>((bel1 w1 o).cell (p:=⟨w.heap.size,0,none⟩) (lt_of_cell c1)).trans c1
  clear hf hP hfl hK hz hnd hPe B1 c1 hr hlk hn0 hn3
  go_upto_block 0 with fail
  go_wp2_with fail
  obtain ⟨W2,hW2⟩:∃ W2,W2=w1.alloc (.cells #[.int .i64 0,.int .i64 f] 27):=⟨_,rfl⟩
  have HB2:Hid (Below w.heap.size w W2):=by
    show Below w.heap.size w W2
    rw [hW2];exact (show ∀ t,_ from HS0) _
  rw [← hW2]
  clear hW2 HS0 c2
  go_loopw [4,15] (fun s4 s15 wr=>∃ (i:Nat) (v:Value),i≤n∧s15 = .int .i64 (i:Int)∧v=s4∧Hid (QR W2 (dmp F i) v wr)) (fun _ s15 _=>n - (intOf s15).toNat)
  case atStart=>exact ⟨0,_,by omega,rfl,rfl,(⟨World.ownsRow_nil _ _ _ _,Below.refl _ _⟩:_∧_)⟩
  case round =>
    obtain ⟨i,v,hi,rfl,hv,HS⟩:=hrel
    subst hv
    have hS:=(show QR W2 (dmp F i) v wr from HS)
    have hb2:=(show Below w.heap.size w W2 from HB2)
    obtain ⟨hf,hlk,hPe,hn0,hn3⟩:=(show RowF w (.slice pf n cf) n F∧(∀ i,i < n→Lk (F i).a (F i).p (F i).A (F i).q (F i).K)∧T=⟨(dmp F n).toArray⟩∧0 < n∧n≤3000 from HX)
    have hbw:Below w.heap.size w wr:=below_to hb2 hS.2
    have hdl:=dmp_len i (fun j hj=>hlk j (by omega))
    by_cases hin:i < n
    · have hiI:(i:Int) < (n:Int):=by omega
      obtain ⟨pf',cf',e1,hf2⟩:=hf.below hbw
      simp only [Value.slice.injEq] at e1
      obtain ⟨rfl,_,rfl⟩:=e1
      obtain ⟨cd,rfl,hcc,hrc⟩:=hf2 (by omega)
      obtain ⟨vn,vk,hc9,hrn,hrk⟩:=hrc i hin
      have hl1:=hlk i hin
      have hrn1:=hrn
      have hrk1:=hrk
      obtain ⟨pn,cn,rfl,_⟩:=hrn
      obtain ⟨pk,ck,rfl,_⟩:=hrk
      have hcall:Calls Tryz.prog 51 #[.agg #[.int .i64 (F i).a.k,.int .i64 (F i).a.f,.int .i64 (F i).a.t,.int .i64 (F i).a.l,.int .i64 (F i).a.o,.int .i64 (F i).a.m,.string (F i).a.x,.slice pn (F i).p cn,.slice pk (F i).q ck]] (wr.alloc (.cells #[.int .i64 (F i).a.k,.int .i64 (F i).a.f,.int .i64 (F i).a.t,.int .i64 (F i).a.l,.int .i64 (F i).a.o,.int .i64 (F i).a.m,.string (F i).a.x,.slice pn (F i).p cn,.slice pk (F i).q ck] 64)) fun e w'=>e = .returned (.string ⟨(dln (F i).a (F i).p (F i).A (F i).q (F i).K).toArray⟩)∧Below (wr.alloc (.cells #[.int .i64 (F i).a.k,.int .i64 (F i).a.f,.int .i64 (F i).a.t,.int .i64 (F i).a.l,.int .i64 (F i).a.o,.int .i64 (F i).a.m,.string (F i).a.x,.slice pn (F i).p cn,.slice pk (F i).q ck] 64)).heap.size (wr.alloc (.cells #[.int .i64 (F i).a.k,.int .i64 (F i).a.f,.int .i64 (F i).a.t,.int .i64 (F i).a.l,.int .i64 (F i).a.o,.int .i64 (F i).a.m,.string (F i).a.x,.slice pn (F i).p cn,.slice pk (F i).q ck] 64)) w':=spec_line _ hl1 (hrn1.below (bel1 _ _)) (hrk1.below (bel1 _ _))
      have hll:=hl1.len
      have hcz:=Bx.new wr (F i).a (.slice pn (F i).p cn) (.slice pk (F i).q ck) 64
      have HST:Hid (∀ w3,Below (wr.alloc (.cells #[.int .i64 (F i).a.k,.int .i64 (F i).a.f,.int .i64 (F i).a.t,.int .i64 (F i).a.l,.int .i64 (F i).a.o,.int .i64 (F i).a.m,.string (F i).a.x,.slice pn (F i).p cn,.slice pk (F i).q ck] 64)).heap.size (wr.alloc (.cells #[.int .i64 (F i).a.k,.int .i64 (F i).a.f,.int .i64 (F i).a.t,.int .i64 (F i).a.l,.int .i64 (F i).a.o,.int .i64 (F i).a.m,.string (F i).a.x,.slice pn (F i).p cn,.slice pk (F i).q ck] 64)) w3→w3.ownsRow W2.heap.size 5 1 v (dmp F i).length (Lib.byteCells (dmp F i))∧W2.heap.size≤w3.heap.size∧∀ v' w4,w4.ownsRow W2.heap.size 5 1 v' ((dmp F i).length+(⟨(dln (F i).a (F i).p (F i).A (F i).q (F i).K).toArray⟩:ByteArray).size) (Lib.byteCells (dmp F i) ++ Lib.strCells ⟨(dln (F i).a (F i).p (F i).A (F i).q (F i).K).toArray⟩)→w3.grownBy w4 v.ownBlock→QR W2 (dmp F (i+1)) v' w4):=(fun w3 hb=>by
        have h3:=qr_call (qr_call hS (bel1 wr (.cells #[.int .i64 (F i).a.k,.int .i64 (F i).a.f,.int .i64 (F i).a.t,.int .i64 (F i).a.l,.int .i64 (F i).a.o,.int .i64 (F i).a.m,.string (F i).a.x,.slice pn (F i).p cn,.slice pk (F i).q ck] 64))) hb
        refine ⟨h3.1,h3.2.size,fun v' w4 ho hg=>?_⟩
        rw [dmp_succ]
        rw [sc_bytes,ba_size] at ho
        exact qr_str h3 rfl ho hg:∀ w3,_)
      have hsz:(⟨(dln (F i).a (F i).p (F i).A (F i).q (F i).K).toArray⟩:ByteArray).size≤1000000:=by rw [ba_size];exact hll
      have hdl2:(dmp F i).length≤3000000000:=by omega
      obtain ⟨d0,d1,d2,d3,d4,d5,d6,d7,d8⟩:=hc9
      obtain ⟨e0,e1,e2,e3,e4,e5,e6,e7,e8⟩:=hcz
      clear hS hb2 hf hlk hPe hn0 hn3 hbw hdl hf2 hrc hrn1 hrk1 hl1 hll
      generalize (⟨(dln (F i).a (F i).p (F i).A (F i).q (F i).K).toArray⟩:ByteArray)=LL at *
      go_wp2_with fail
      refine hcall.mono ?_
      rintro e w3 ⟨rfl,b3⟩
      obtain ⟨hrow3,hsz3,HST1⟩:=(show ∀ w3,Below (wr.alloc (.cells #[.int .i64 (F i).a.k,.int .i64 (F i).a.f,.int .i64 (F i).a.t,.int .i64 (F i).a.l,.int .i64 (F i).a.o,.int .i64 (F i).a.m,.string (F i).a.x,.slice pn (F i).p cn,.slice pk (F i).q ck] 64)).heap.size (wr.alloc (.cells #[.int .i64 (F i).a.k,.int .i64 (F i).a.f,.int .i64 (F i).a.t,.int .i64 (F i).a.l,.int .i64 (F i).a.o,.int .i64 (F i).a.m,.string (F i).a.x,.slice pn (F i).p cn,.slice pk (F i).q ck] 64)) w3→_ from HST) w3 b3
      have HST2:Hid (∀ v' w4,w4.ownsRow W2.heap.size 5 1 v' ((dmp F i).length+LL.size) (Lib.byteCells (dmp F i) ++ Lib.strCells LL)→w3.grownBy w4 v.ownBlock→QR W2 (dmp F (i+1)) v' w4):=HST1
      clear hcall HST HST1 b3 HS d0 d1 d2 d3 d4 d5 d6 d7 d8 e0 e1 e2 e3 e4 e5 e6 e7 e8
      go_wp2_with (at_builtin;refine Lib.wpList_append_own_string _ rfl (.tmp 19) (.tmp 21) 86 9 rfl W2.heap.size 5 i0 Tryz.underlying86 Tryz.underlying9 HI0 hz0 hz1 hz2 v _ _ rfl hrow3 LL rfl (by unfold maxLen;omega) (by omega) hsz3 ?_;intro v' w4 hown4 hgrow4 _)
      have HN:Hid (QR W2 (dmp F (i+1)) v' w4):=(show ∀ v' w4,_ from HST2) _ _ hown4 hgrow4
      clear hown4 hgrow4 HST2 hrow3
      go_wp2_with fail
      go_roundw
      case rel=>exact ⟨i+1,v',by omega,by go_num,rfl,HN⟩
      case measure=>simp [intOf];omega
    · have ei:i=n:=by omega
      subst ei
      have hne:dmp F i ≠ []:=by
        intro e
        have h1:=dmp_succ F (i - 1)
        rw [show i - 1+1=i by omega,e] at h1
        have:=congrArg List.length h1
        unfold dln at this
        simp at this
      have hcv:=conv_row hne hS
      rw [← hPe] at hcv
      have HB:Hid (Below w.heap.size w wr):=hbw
      clear hS hb2 hf hlk hPe hn0 hn3 hbw hdl hne HS HX HB2 hi hin
      go_wp2_with fail
      go_ret
      exact ⟨rfl,HB⟩
theorem isb_below {T e:TypeId} {B b:Nat} {bs:List Value} {w w':World} (h:Lib.IsBuilder T e B b bs w) (hb:Below w.heap.size w w'):Lib.IsBuilder T e B b bs w':=by
  rcases h with h | h
  · exact .inl (bld_below h hb)
  · exact .inr (bld_below h hb)
theorem im_join (g cap : Nat) (xs : List ByteArray) (w : World) (hc : ∀ j x, xs[j]? = some x → w.cell? ⟨g, j, none⟩ = some (.string x)) (hg : g < w.heap.size) (h2 : 2 ≤ xs.length) (hN : xs.length ≤ 1000) (hcap : xs.length ≤ cap) (hlen : (Lib.join (xs.map (·.data.toList)) [32]).length ≤ 1000000) :
    Calls Tryz.prog 53 #[.slice (some ⟨g,0,none⟩) xs.length cap,.string ⟨#[32]⟩] w fun e w'=>e = .returned (.string ⟨(Lib.join (xs.map (·.data.toList)) [32]).toArray⟩)∧Below w.heap.size w w' :=
  Any.strings_Join_many laysJ extraJ g 0 cap xs ⟨#[32]⟩ w (fun j x hx=>by rw [Nat.zero_add];exact hc j x hx) hg h2 (by omega) hcap (by show (Lib.join (xs.map (·.data.toList)) [32]).length≤_;omega)
theorem f5_two (a:Fv) (p:Nat) (A:Nat→ByteArray) (q:Nat) (K:Nat→Int) (j:Nat) : 2≤(f5 a p A q K j).length:=by
  unfold f5 f4 f3 f2
  simp
  omega
theorem line_cells (F:Nat→Gv) (i:Nat):Lib.byteCells (dmp F i) ++ Lib.strCells ⟨(Lib.join ((f5 (F i).a (F i).p (F i).A (F i).q (F i).K (F i).q).map (·.data.toList)) [32]).toArray⟩ ++ [.int .u8 10]=Lib.byteCells (dmp F (i+1)):=by
  rw [dmp_succ,← dln_join,sc_bytes,bc_append,bc_append,List.append_assoc]
  rfl
theorem im_dump {v : Value} {n : Nat} {F : Nat → Gv} {T : ByteArray} (w : World) (hg : Gd w) (hpw : Pw w) (hf : RowF w v n F) (hn : n ≤ 1048576) (hp : ∀ i, i < n → (F i).p ≤ 1048576) (hq : ∀ i, i < n → (F i).q ≤ 1048576) (hr : ∀ i, i < n → Rg (F i).a) (hP : Dmp F n T) :
    Calls Tryz.prog 26 #[.agg #[v]] w fun e w'=>e = .returned (.string T)∧Kz w w':=by
  have HSO:Hid (∀ o:Obj,Calls Tryz.prog 43 #[.agg #[v]] (w.alloc o) fun e w'=>(∃ c f,e = .returned (.bool (dc (c=0)))∧Fl nmp flp F n c f)∧Kz (w.alloc o) w'):=(fun o=>im_sound (w.alloc o) ((Kz.of_below (bel1 w o)).gd hg) (hf.kz (.of_below (bel1 _ _))) hn hp hq (fun i hi=>hr i hi _ (by simp [its])):∀ o:Obj,_)
  have HRF:Hid (RowF w v n F∧Dmp F n T∧(∀ i,i < n→Rg (F i).a)∧Pw w∧10≤w.heap.size):=(⟨hf,hP,hr,hpw,hg.size⟩:_∧_∧_∧_∧_)
  obtain ⟨pf,cf,rfl,_⟩:=hf
  clear hn hp hq hP hr hg hpw
  go_enter Tryz.func26,Tryz.ntmps26
  go_wp2_with fail
  refine ((show ∀ o:Obj,_ from HSO) _).mono ?_
  rintro e w1 ⟨⟨c,f,rfl,hfl⟩,k1⟩
  have B1:Kz w w1:=(Kz.of_below (bel1 w _)).trans k1
  have c1:w1.cell? ⟨w.heap.size,0,none⟩=some (.slice pf n cf):=(k1.cell (p:=⟨w.heap.size,0,none⟩) (by show w.heap.size < _;simp)).trans (cell_new1 w _ _)
  obtain ⟨hf,hP,hr,hpw,hgs⟩:=(show RowF w (.slice pf n cf) n F∧Dmp F n T∧(∀ i,i < n→Rg (F i).a)∧Pw w∧10≤w.heap.size from HRF)
  clear HSO HRF k1
  by_cases h0:c=0
  case neg =>
    rw [dc_f h0]
    have hPe:T=⟨#[]⟩:=by
      rcases hP with ⟨_,_,_,_,e⟩ | ⟨f',a',_⟩
      · exact e
      · exact absurd (Fl.uniq hfl a').1 h0
    subst hPe
    have HB1:Hid (Kz w w1):=B1
    clear hf hP hfl h0 c1 B1 hr hpw hgs
    go_wp2_with fail
    go_ret
    exact ⟨rfl,HB1⟩
  rw [dc_t h0]
  subst h0
  obtain ⟨hn0,hn3,hK,hz,hnd⟩:=fl_sound2 hfl
  have hPe:T=⟨(dmp F n).toArray⟩:=by
    rcases hP with ⟨c',f',a',b',_⟩ | ⟨f',a',b'⟩
    · exact absurd (Fl.uniq hfl a').1.symm b'
    · exact b'
  have hlk:∀ i,i < n→Lk (F i).a (F i).p (F i).A (F i).q (F i).K:=fun i hi=>lk_of w (hr i hi) (hnd i hi) (by omega)
  have hgs1 : 10≤w1.heap.size:=Nat.le_trans hgs B1.size
  have hpw1:Pw w1:=pw_blk hpw (B1.block _ (by omega))
  have HX:Hid (RowF w1 (.slice pf n cf) n F∧(∀ i,i < n→Lk (F i).a (F i).p (F i).A (F i).q (F i).K)∧T=⟨(dmp F n).toArray⟩∧0 < n∧n≤3000∧Pw w1∧10≤w1.heap.size):=(⟨hf.kz B1,hlk,hPe,hn0,hn3,hpw1,hgs1⟩:_∧_∧_∧_∧_∧_∧_)
  have hnI:(n:Int)≤3000:=by omega
  have HB1:Hid (Kz w w1):=B1
  have HS0:Hid (Lib.IsBuilder 90 5 w1.heap.size w1.heap.size (Lib.byteCells (dmp F 0)) (w1.alloc (.cells #[.pointer none,.slice none 0 0] 90))∧Below w1.heap.size w1 (w1.alloc (.cells #[.pointer none,.slice none 0 0] 90))):=(⟨Lib.fresh_isBuilder 90 5 w1,bel1 _ _⟩:_∧_)
  have c2:∀ o:Obj,(w1.alloc o).cell? ⟨w.heap.size,0,none⟩=some (.slice pf n cf):=fun o=>((bel1 w1 o).cell (p:=⟨w.heap.size,0,none⟩) (lt_of_cell c1)).trans c1
  clear hf hP hfl hK hz hnd hPe B1 c1 hr hlk hn0 hn3 hpw hgs hgs1 hpw1
  go_upto_block 0 with fail
  go_wp2_with fail
  clear c2
  go_loopw [12] (fun s12 wr=>∃ i:Nat,i≤n∧s12 = .int .i64 (i:Int)∧Hid (Lib.IsBuilder 90 5 w1.heap.size w1.heap.size (Lib.byteCells (dmp F i)) wr∧Below w1.heap.size w1 wr)) (fun s12 _=>n - (intOf s12).toNat)
  case atStart=>exact ⟨0,by omega,rfl,HS0⟩
  case round =>
    clear HS0
    obtain ⟨i,hi,rfl,HS⟩:=hrel
    obtain ⟨hB,hbw⟩:=(show Lib.IsBuilder 90 5 w1.heap.size w1.heap.size (Lib.byteCells (dmp F i)) wr∧Below w1.heap.size w1 wr from HS)
    obtain ⟨hf,hlk,hPe,hn0,hn3,hpw,hgs⟩:=(show RowF w1 (.slice pf n cf) n F∧(∀ i,i < n→Lk (F i).a (F i).p (F i).A (F i).q (F i).K)∧T=⟨(dmp F n).toArray⟩∧0 < n∧n≤3000∧Pw w1∧10≤w1.heap.size from HX)
    have hdl:=dmp_len i (fun j hj=>hlk j (by omega))
    by_cases hin:i < n
    · have hiI:(i:Int) < (n:Int):=by omega
      obtain ⟨pf',cf',e1,hf2⟩:=hf.below hbw
      simp only [Value.slice.injEq] at e1
      obtain ⟨rfl,_,rfl⟩:=e1
      obtain ⟨cd,rfl,hcc,hrc⟩:=hf2 (by omega)
      obtain ⟨vn,vk,hc9,hrn,hrk⟩:=hrc i hin
      have hl1:=hlk i hin
      have hrn1:=hrn
      have hrk1:=hrk
      obtain ⟨pn,cn,rfl,_⟩:=hrn
      obtain ⟨pk,ck,rfl,_⟩:=hrk
      have hpwr:Pw wr:=pw_below hpw hgs hbw
      have hgsr : 10≤wr.heap.size:=Nat.le_trans hgs hbw.size
      have hcall:Calls Tryz.prog 54 #[.agg #[.int .i64 (F i).a.k,.int .i64 (F i).a.f,.int .i64 (F i).a.t,.int .i64 (F i).a.l,.int .i64 (F i).a.o,.int .i64 (F i).a.m,.string (F i).a.x,.slice pn (F i).p cn,.slice pk (F i).q ck]] (wr.alloc (.cells #[.int .i64 (F i).a.k,.int .i64 (F i).a.f,.int .i64 (F i).a.t,.int .i64 (F i).a.l,.int .i64 (F i).a.o,.int .i64 (F i).a.m,.string (F i).a.x,.slice pn (F i).p cn,.slice pk (F i).q ck] 64)) fun e w'=>∃ g cap,e = .returned (.slice (some ⟨g,0,none⟩) (f5 (F i).a (F i).p (F i).A (F i).q (F i).K (F i).q).length cap)∧(f5 (F i).a (F i).p (F i).A (F i).q (F i).K (F i).q).length≤cap∧g < w'.heap.size∧(∀ j x,(f5 (F i).a (F i).p (F i).A (F i).q (F i).K (F i).q)[j]? = some x→w'.cell? ⟨g,j,none⟩=some (.string x))∧Below (wr.alloc (.cells #[.int .i64 (F i).a.k,.int .i64 (F i).a.f,.int .i64 (F i).a.t,.int .i64 (F i).a.l,.int .i64 (F i).a.o,.int .i64 (F i).a.m,.string (F i).a.x,.slice pn (F i).p cn,.slice pk (F i).q ck] 64)).heap.size (wr.alloc (.cells #[.int .i64 (F i).a.k,.int .i64 (F i).a.f,.int .i64 (F i).a.t,.int .i64 (F i).a.l,.int .i64 (F i).a.o,.int .i64 (F i).a.m,.string (F i).a.x,.slice pn (F i).p cn,.slice pk (F i).q ck] 64)) w':=im_fields _ hl1 (by simp;omega) (pw_below hpwr hgsr (bel1 _ _)) (hrn1.below (bel1 _ _)) (hrk1.below (bel1 _ _))
      have hll:=hl1.len
      have hjl:(Lib.join ((f5 (F i).a (F i).p (F i).A (F i).q (F i).K (F i).q).map (·.data.toList)) [32]).length≤1000000:=by
        have h1:=congrArg List.length (dln_join (F i).a (F i).p (F i).A (F i).q (F i).K)
        rw [List.length_append] at h1
        simp only [List.length_cons,List.length_nil] at h1
        omega
      have h410:=f5_len (F i).a (F i).p (F i).A (F i).q (F i).K (F i).q hl1.hp hl1.hq
      have h2:=f5_two (F i).a (F i).p (F i).A (F i).q (F i).K (F i).q
      have HLC:Hid (Lib.byteCells (dmp F i) ++ Lib.strCells ⟨(Lib.join ((f5 (F i).a (F i).p (F i).A (F i).q (F i).K (F i).q).map (·.data.toList)) [32]).toArray⟩ ++ [.int .u8 10]=Lib.byteCells (dmp F (i+1))):=line_cells F i
      have hjz:(⟨(Lib.join ((f5 (F i).a (F i).p (F i).A (F i).q (F i).K (F i).q).map (·.data.toList)) [32]).toArray⟩:ByteArray).size≤1000000:=by rw [ba_size];exact hjl
      have hcz:=Bx.new wr (F i).a (.slice pn (F i).p cn) (.slice pk (F i).q ck) 64
      have hdl2:(dmp F i).length≤3000000000:=by omega
      have HBW:Hid (Lib.IsBuilder 90 5 w1.heap.size w1.heap.size (Lib.byteCells (dmp F i)) (wr.alloc (.cells #[.int .i64 (F i).a.k,.int .i64 (F i).a.f,.int .i64 (F i).a.t,.int .i64 (F i).a.l,.int .i64 (F i).a.o,.int .i64 (F i).a.m,.string (F i).a.x,.slice pn (F i).p cn,.slice pk (F i).q ck] 64))∧Below w1.heap.size w1 (wr.alloc (.cells #[.int .i64 (F i).a.k,.int .i64 (F i).a.f,.int .i64 (F i).a.t,.int .i64 (F i).a.l,.int .i64 (F i).a.o,.int .i64 (F i).a.m,.string (F i).a.x,.slice pn (F i).p cn,.slice pk (F i).q ck] 64))):=(⟨isb_below hB (bel1 _ _),hbw.trans ((bel1 wr _).mono hbw.size)⟩:_∧_)
      obtain ⟨d0,d1,d2,d3,d4,d5,d6,d7,d8⟩:=hc9
      obtain ⟨e0,e1,e2,e3,e4,e5,e6,e7,e8⟩:=hcz
      clear hB hbw hf hlk hPe hn0 hn3 hdl hf2 hrc hrn1 hrk1 hl1 hll hpw hgs hpwr hgsr HS
      generalize f5 (F i).a (F i).p (F i).A (F i).q (F i).K (F i).q=xs at *
      go_wp2_with fail
      refine hcall.mono ?_
      rintro e w3 ⟨g,cap,rfl,hcap,hgl,hcs,b3⟩
      obtain ⟨hB2,hbw2⟩:=(show Lib.IsBuilder 90 5 w1.heap.size w1.heap.size (Lib.byteCells (dmp F i)) (wr.alloc (.cells #[.int .i64 (F i).a.k,.int .i64 (F i).a.f,.int .i64 (F i).a.t,.int .i64 (F i).a.l,.int .i64 (F i).a.o,.int .i64 (F i).a.m,.string (F i).a.x,.slice pn (F i).p cn,.slice pk (F i).q ck] 64))∧Below w1.heap.size w1 (wr.alloc (.cells #[.int .i64 (F i).a.k,.int .i64 (F i).a.f,.int .i64 (F i).a.t,.int .i64 (F i).a.l,.int .i64 (F i).a.o,.int .i64 (F i).a.m,.string (F i).a.x,.slice pn (F i).p cn,.slice pk (F i).q ck] 64)) from HBW)
      have HB3:Hid (Lib.IsBuilder 90 5 w1.heap.size w1.heap.size (Lib.byteCells (dmp F i)) w3∧Below w1.heap.size w1 w3):=(⟨isb_below hB2 b3,hbw2.trans (b3.mono hbw2.size)⟩:_∧_)
      have hjc:=im_join g cap xs w3 hcs hgl h2 (by omega) hcap hjl
      clear hcall HBW hB2 hbw2 b3 hcs hgl hcap d0 d1 d2 d3 d4 d5 d6 d7 d8 e0 e1 e2 e3 e4 e5 e6 e7 e8 hjl h410 h2
      generalize (⟨(Lib.join (xs.map (·.data.toList)) [32]).toArray⟩:ByteArray)=LL at *
      go_wp2_with fail
      refine hjc.mono ?_
      rintro e w4 ⟨rfl,b4⟩
      obtain ⟨hB3,hbw3⟩:=(show Lib.IsBuilder 90 5 w1.heap.size w1.heap.size (Lib.byteCells (dmp F i)) w3∧Below w1.heap.size w1 w3 from HB3)
      have hB4:=isb_below hB3 b4
      have hbw4:Below w1.heap.size w1 w4:=hbw3.trans (b4.mono hbw3.size)
      have hws:=bldString w1.heap.size w1.heap.size _ LL w4 hB4 (by rw [bc_len];omega) hbw4.size
      have HBW4:Hid (Below w1.heap.size w1 w4):=hbw4
      clear hjc HB3 hB3 hbw3 b4 hB4 hbw4
      go_wp2_with fail
      refine hws.mono ?_
      rintro e w5 ⟨rfl,hB5,b5⟩
      have hbw5:Below w1.heap.size w1 w5:=(show Below w1.heap.size w1 w4 from HBW4).trans b5
      have hwb:=bldByte w1.heap.size w1.heap.size _ 10 w5 (Or.inr hB5) (by rw [List.length_append,bc_len,Lib.strCells_length];omega) hbw5.size
      have HBW5:Hid (Below w1.heap.size w1 w5):=hbw5
      clear hws HBW4 hB5 b5 hbw5
      go_wp2_with fail
      refine hwb.mono ?_
      rintro e w6 ⟨rfl,hB6,b6⟩
      have HN:Hid (Lib.IsBuilder 90 5 w1.heap.size w1.heap.size (Lib.byteCells (dmp F (i+1))) w6∧Below w1.heap.size w1 w6):=(⟨by rw [← (show Lib.byteCells (dmp F i) ++ Lib.strCells LL ++ [.int .u8 10]=Lib.byteCells (dmp F (i+1)) from HLC)];exact Or.inr hB6,(show Below w1.heap.size w1 w5 from HBW5).trans b6⟩:_∧_)
      clear hwb HBW5 hB6 b6 HLC
      go_wp2_with fail
      go_roundw
      case rel=>exact ⟨i+1,by omega,by go_num,HN⟩
      case measure=>simp [intOf];omega
    · have ei:i=n:=by omega
      subst ei
      have hbt:=bldText w1.heap.size w1.heap.size (dmp F i) wr hB hbw.size
      rw [← hPe] at hbt
      have HBW:Hid (Below w1.heap.size w1 wr):=hbw
      clear hB hbw hf hlk hPe hn0 hn3 hdl hpw hgs HS HX hi hin
      go_wp2_with fail
      refine hbt.mono ?_
      rintro e w2 ⟨rfl,b2⟩
      have HE:Hid (Kz w w2):=(show Kz w w1 from HB1).trans (.of_below ((show Below w1.heap.size w1 wr from HBW).trans b2))
      clear hbt HBW b2 HB1
      go_wp2_with fail
      go_ret
      exact ⟨rfl,HE⟩
theorem law_dump {pa : Option Addr} {ca n : Nat} {F : Nat → Gv} (w : World) (hg : Gd w) (hpw : Pw w) (ha : RowF w (.slice pa n ca) n F) (hn : (n : Int) < 140737488355328)
    (hF:∀ i,i < n→((F i).a.x.size:Int) < 140737488355328∧((F i).p:Int) < 140737488355328∧(∀ j,j < (F i).p→(((F i).A j).size:Int) < 140737488355328)∧((F i).q:Int) < 140737488355328)
    (hm:∀ i,i < n→Rg (F i).a) :
    Calls Tryz.prog 6 #[.agg #[.slice pa n ca]] w fun e w'=>e = .returned (.bool true)∧Rd.Kept w w':=by
  have HSZ:Hid (∀ o:Obj,Calls Tryz.prog 8 #[.agg #[.slice pa n ca],.int .i64 1048576] (w.alloc o) fun e w'=>∃ r:Int,e = .returned (.int .i64 r)∧(0≤r→(n:Int)+(smr F n:Int)≤1048576) ∧ -1≤r∧r≤1048576∧Below (w.alloc o).heap.size (w.alloc o) w'):=(fun o=>sz_sheet (w.alloc o) (ha.below (bel1 _ _)) hn hF:∀ o:Obj,_)
  obtain ⟨T,hT⟩:=dmp_ex F n
  have HA:Hid (RowF w (.slice pa n ca) n F∧Gd w∧(∀ i,i < n→Rg (F i).a)∧Pw w∧Dmp F n T):=(⟨ha,hg,hm,hpw,hT⟩:_∧_∧_∧_∧_)
  clear ha hn hF hg hm hpw hT
  go_enter Tryz.func6,Tryz.ntmps6
  go_wp2_with fail
  refine ((show ∀ o:Obj,_ from HSZ) _).mono ?_
  rintro e w1 ⟨r,rfl,hr1,hr2,hr3,hb1⟩
  clear HSZ
  have B1:Kz w w1:=.of_below ((bel1 w _).trans (hb1.mono (by simp)))
  rcases Int.lt_or_le r 0 with h | h
  · have HB:Hid (Kz w w1):=B1
    clear B1 hb1 hr1 HA
    go_wp2_with fail
    go_ret
    exact ⟨rfl,(show Kz w w1 from HB).kept⟩
  · have h':¬ r < 0:=by omega
    have hsum:n+smr F n≤1048576:=by have:=hr1 h;omega
    have HS:Hid (n+smr F n≤1048576):=hsum
    have c0:w1.cell? ⟨w.heap.size,0,none⟩=some (.slice pa n ca):=cell_keepz (.of_below hb1) (cell_new1 w _ 24)
    have HK1:Hid (Kz w w1∧RowF w1 (.slice pa n ca) n F∧w1.cell? ⟨w.heap.size,0,none⟩=some (.slice pa n ca)):=(⟨B1,HA.1.kz B1,c0⟩:_∧_∧_)
    clear hr1 hsum hb1 B1
    go_wp2_with fail
    refine (to_sheet w1 HK1.2.1 HS).mono ?_
    rintro e w2 ⟨v1,g1,t1,rfl,o1,hb2⟩
    have k2:Kz w1 w2:=.of_below hb2
    have HK2:Hid (Kz w w2∧RowF w2 (.slice pa n ca) n F∧w2.cell? ⟨w.heap.size,0,none⟩=some (.slice pa n ca)∧RowF w2 v1 n F):=(⟨HK1.1.trans k2,HK1.2.1.kz k2,cell_keepz k2 HK1.2.2,o1.row⟩:_∧_∧_∧_)
    obtain ⟨p1,q1,rfl,_⟩:=o1.sl
    clear c0 HK1 o1 hb2 k2
    go_wp2_with fail
    refine (sp_dump w2 HK2.2.2.2 (by have:=(show n+smr F n≤1048576 from HS);omega) (smr_p HS).1 (smr_p HS).2 HA.2.2.1 HA.2.2.2.2).mono ?_
    rintro e w3 ⟨rfl,hb3⟩
    have k3:Kz w2 w3:=.of_below hb3
    have HK4:Hid (Kz w w3∧RowF w3 (.slice pa n ca) n F∧w3.cell? ⟨w.heap.size,0,none⟩=some (.slice pa n ca)):=(⟨HK2.1.trans k3,HK2.2.1.kz k3,cell_keepz k3 HK2.2.2.1⟩:_∧_∧_)
    have c0:w3.cell? ⟨w.heap.size,0,none⟩=some (.slice pa n ca):=HK4.2.2
    clear HK2 hb3 k3
    go_wp2_with fail
    clear c0
    refine (to_sheet w3 HK4.2.1 HS).mono ?_
    rintro e w5 ⟨vx,gx,tx',rfl,ox,hb5⟩
    obtain ⟨px,kx,rfl,_⟩:=ox.sl
    have k5:Kz w3 w5:=.of_below hb5
    obtain ⟨W6,hW6⟩:∃ W6,W6=w5.alloc (.cells #[.slice px n kx] 31):=⟨_,rfl⟩
    have k6:Kz w5 W6:=by rw [hW6];exact .of_below (bel1 _ _)
    have k46:=k5.trans k6
    have HK6:Hid (Kz w W6∧RowF W6 (.slice pa n ca) n F∧RowF W6 (.slice px n kx) n F∧W6.cell? ⟨w.heap.size,0,none⟩=some (.slice pa n ca)∧W6.cell? ⟨w5.heap.size,0,none⟩=some (.slice px n kx)):=(⟨HK4.1.trans k46,HK4.2.1.kz k46,ox.row.kz k6,cell_keepz k46 HK4.2.2,by rw [hW6];exact cell_new1 _ _ _⟩:_∧_∧_∧_∧_)
    clear HK4 ox hb5 k5 k6 k46
    go_wp2_with fail
    rw [← hW6]
    clear hW6
    refine (im_dump W6 (HK6.1.gd HA.2.1) (pw_blk HA.2.2.2.1 (HK6.1.block _ (by have:=HA.2.1.size;omega))) HK6.2.2.1 (by have:=(show n+smr F n≤1048576 from HS);omega) (smr_p HS).1 (smr_p HS).2 HA.2.2.1 HA.2.2.2.2).mono ?_
    rintro e w9 ⟨rfl,k9⟩
    have HK9:Hid (Kz w w9∧RowF w9 (.slice pa n ca) n F∧RowF w9 (.slice px n kx) n F∧w9.cell? ⟨w.heap.size,0,none⟩=some (.slice pa n ca)∧w9.cell? ⟨w5.heap.size,0,none⟩=some (.slice px n kx)):=(⟨HK6.1.trans k9,HK6.2.1.kz k9,HK6.2.2.1.kz k9,cell_keepz k9 HK6.2.2.2.1,cell_keepz k9 HK6.2.2.2.2⟩:_∧_∧_∧_∧_)
    have c5:w9.cell? ⟨w5.heap.size,0,none⟩=some (.slice px n kx):=HK9.2.2.2.2
    have c0:w9.cell? ⟨w.heap.size,0,none⟩=some (.slice pa n ca):=HK9.2.2.2.1
    have HTO:Hid (∀ W,Kz w9 W→Calls Tryz.prog 10 #[.agg #[.slice pa n ca]] W fun e w'=>∃ v g t,e = .returned (.agg #[v])∧OwnF w' v g n F t W.heap.size w'.heap.size∧Below W.heap.size W w'):=(fun W hb=>to_sheet W (HK9.2.1.kz hb) HS:∀ W,_)
    have HEQ:Hid (∀ W v2,Kz w9 W→RowF W v2 n F→Calls Tryz.prog 13 #[.agg #[.slice px n kx],.agg #[v2]] W fun e w'=>e = .returned (.bool true)∧Below W.heap.size W w'):=(fun W v2 hb h2=>eq_sheet W (HK9.2.2.1.kz hb) h2 HS:∀ W v2,_)
    have HC5:Hid (∀ W,Kz w9 W→W.cell? ⟨w5.heap.size,0,none⟩=some (.slice px n kx)∧W.cell? ⟨w.heap.size,0,none⟩=some (.slice pa n ca)):=(fun W hb=>⟨cell_keepz hb c5,cell_keepz hb c0⟩:∀ W,_)
    clear HK6 k9
    go_wp2_with fail
    go_region_held_law (fun W'=>W'.cell? ⟨w5.heap.size,0,none⟩=some (.slice px n kx)∧W'.cell? ⟨w.heap.size,0,none⟩=some (.slice pa n ca)) (first | exact s11 | exact s10 | exact ⟨c5,c0⟩)
      (first
        | (go_at_call 10;refine ((show ∀ W,Kz w9 W→_ from HTO) _ (by exact Kz.drewN (Kz.refl _) 1)).mono ?_;rintro e w10 ⟨v2,g2,t2,rfl,o2,hb10⟩;have K10:Kz w9 w10:=⟨hb10.os,hb10.output,hb10.size,hb10.block⟩;have s10:=(show ∀ W,Kz w9 W→_ from HC5) w10 K10)
        | (go_at_call 13;refine ((show ∀ W v2,_ from HEQ) _ _ K10 o2.row).mono ?_;rintro e w11 ⟨rfl,hb11⟩;have K11:Kz w9 w11:=K10.trans (.of_below hb11);have s11:=(show ∀ W,Kz w9 W→_ from HC5) w11 K11))
    have HB11:Hid (Kz w w11):=HK9.1.trans K11
    clear c5 c0 HC5 HEQ HTO o2 hb10 K10 s10 hb11 K11 s11
    go_wp2_with fail
    go_ret
    exact ⟨rfl,(show Kz w w11 from HB11).kept⟩
end Go.Proofs.YtomcmnompajnlaaGreatDoor.Fo
