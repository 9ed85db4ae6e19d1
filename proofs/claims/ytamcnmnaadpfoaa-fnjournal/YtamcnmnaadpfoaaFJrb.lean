import Derived.Test.YtamcnmnaadpfoaaFJra
import Derived.Test.YtamcnmnaadpfoaaFJgf
import Derived.Test.YtamcnmnaadpfoaaFJgd
import Derived.Test.YtamcnmnaadpfoaaFJge
import Derived.Test.YtamcnmnaadpfoaaFJre
import Derived.Deep.QuietTactic
import Derived.BigQuiet
set_option maxHeartbeats 16000000
namespace Go.Proofs.Ytamcnmnaadpfoaa.Fo
open Go.ChangeShapes Go.WideShapes Go.ChangeAt Go.RowKit
set_option linter.unusedVariables false
set_option maxRecDepth 100000
theorem RowT.congr {b:Nat} {W:World} {v:Value} {n:Nat} {F G:Nat→Td} (h:RowT b W v n F) (hg:∀ i,i < n→(G i).t=(F i).t∧(G i).c=(F i).c∧∀ j,j < (F i).c→(G i).C j=(F i).C j):RowT b W v n G:=by
 obtain ⟨pa,cap,h1,h2⟩:=h
 refine ⟨pa,cap,h1,fun hn=>?_⟩
 obtain ⟨a,e1,e2,e0,e3⟩:=h2 hn
 refine ⟨a,e1,e2,e0,fun i hi=>?_⟩
 obtain ⟨vc,c,r⟩:=e3 i hi
 obtain ⟨g1,g2,g3⟩:=hg i hi
 refine ⟨vc,⟨by rw [g1];exact c.c0,c.c1⟩,?_⟩
 obtain ⟨pb,cb,r1,r2⟩:=r
 rw [g2]
 refine ⟨pb,cb,r1,fun hc=>?_⟩
 obtain ⟨a',x1,x2,x0,x3⟩:=r2 hc
 exact ⟨a',x1,x2,x0,fun j hj=>by rw [g3 j hj];exact x3 j hj⟩
theorem sp_jr {J : Jd} {p1 p2 : Option Addr} {c1 c2 : Nat} (w : World) (hl : RowV w (.slice p1 J.n c1) J.n (fun i => .string (J.S i))) (hs : Js.RowW 0 w (.slice p2 J.m c2) J.m J.T) (hn : J.n ≤ 1048576) (hm : J.m ≤ 1048576) (hx : ∀ i, i < J.m → ((J.T i).x.size : Int) ≤ 9223372036854775807) :
  Calls Try.prog 19 #[.agg #[.slice p1 J.n c1,.int .i64 J.p,.int .i64 J.q,.slice p2 J.m c2]] w fun e w'=>∃ v,e = .returned v∧w'.ownsRow w.heap.size 5 1 v (jir J).length (bvs (jir J))∧Kb 0 w w':=by
 obtain ⟨w0,hw0⟩:∃ w0,w0=w.alloc (.cells #[.slice p1 J.n c1,.int .i64 J.p,.int .i64 J.q,.slice p2 J.m c2] 26):=⟨_,rfl⟩
 have k0:Kb 0 w w0:=by rw [hw0];exact kb_alloc _ _ _
 have b0:w0.heap[w.heap.size]? = some (.cells #[.slice p1 J.n c1,.int .i64 J.p,.int .i64 J.q,.slice p2 J.m c2] 26 (0,0)):=by rw [hw0];exact alloc_new _ _ _
 have hl0:=((RowV.rowB hl).keep k0)
 have hs0:=hs.keep k0
 have HO:=sp_isj w0 hl0.row hs0 hn hm hx
 obtain ⟨L,hL⟩:∃ L,L=jir J:=⟨_,rfl⟩
 rw [← hL]
 have HB:Hid (∀ W,Kb 0 w0 W→W.cell? ⟨w.heap.size,0,none⟩=some (.slice p1 J.n c1)∧W.cell? ⟨w.heap.size,1,none⟩=some (.int .i64 J.p)∧W.cell? ⟨w.heap.size,2,none⟩=some (.int .i64 J.q)∧W.cell? ⟨w.heap.size,3,none⟩=some (.slice p2 J.m c2)):=(fun W k=>⟨k.cell (cell_of b0 rfl),k.cell (cell_of b0 rfl),k.cell (cell_of b0 rfl),k.cell (cell_of b0 rfl)⟩:∀ W,_)
 obtain ⟨q0,q1,q2,q3⟩:=(show ∀ W,Kb 0 w0 W→_ from HB) w0 (Kb.refl _ _)
 have HW:Hid (w0=w.alloc (.cells #[.slice p1 J.n c1,.int .i64 J.p,.int .i64 J.q,.slice p2 J.m c2] 26)):=hw0
 have HK:Hid (Kb 0 w w0):=k0
 by_cases hok:Jok J
 case neg =>
  obtain rfl:L = []:=hL.trans (by unfold jir;rw [dc_f hok];rfl)
  rw [dc_f hok] at HO
  clear hok hL hl hs hn hm hx hl0 hs0 k0 b0 hw0 HB
  obtain ⟨n,S,p,q,m,T⟩:=J
  dsimp only at *
  go_enter Try.func19,Try.ntmps19
  go_upto_region 1 with fail
  rw [← (show w0 = _ from HW)]
  clear HW
  go_wp2_with fail
  refine HO.mono ?_
  rintro e w1 ⟨rfl,k1⟩
  have HF:Hid (Kb 0 w w1):=(show Kb 0 w w0 from HK).trans k1
  clear HO k1 q0 q1 q2 q3
  go_wp2_with fail
  go_ret
  exact ⟨_,rfl,World.ownsRow_nil _ _ _ _,HF⟩
 rw [dc_t hok] at HO
 have HG:Hid (∀ W,Kb 0 w0 W→Calls Try.prog 28 #[.agg #[.slice p1 J.n c1,.int .i64 J.p,.int .i64 J.q,.slice p2 J.m c2]] W fun e w'=>∃ v,e = .returned (grv (ndV 0) v)∧RowT 0 w' v (3+J.m) (jF J)∧Kb 0 W w'):=(fun W k=>sp_graph W (hl0.keep k).row (hs0.keep k) hok.1 hok.2.1:∀ W,_)
 have HP:Hid (∀ W v,RowT 0 W v (3+J.m) (jF J)→Calls Try.prog 31 #[grv (ndV 0) v] W fun e w'=>∃ v,e = .returned v∧w'.ownsRow W.heap.size 5 1 v L.length (bvs L)∧Kb 0 W w'):=(fun W v h=>by
  have:=sp_pack W (n:=(ysJ J).length) (F:=TF (ysJ J)) (by rw [ysJ_len];exact h.congr (fun i hi=>ysJ_at J hi)) (jok_bgG hok) (jok_rgG hok)
  rw [hL,show jir J=pck (ysJ J).length (TF (ysJ J)) (ndV 0) from by unfold jir;rw [dc_t hok,if_pos rfl]]
  exact this:∀ W v,_)
 have HM:Hid (0≤J.m):=Nat.zero_le _
 generalize jF J=FJ at HG HP
 clear hok hL hl hs hn hm hx hl0 hs0 k0 b0 hw0
 obtain ⟨n,S,p,q,m,T⟩:=J
 dsimp only at *
 go_enter Try.func19,Try.ntmps19
 go_upto_region 1 with fail
 rw [← (show w0 = _ from HW)]
 clear HW
 go_wp2_with fail
 refine HO.mono ?_
 rintro e w1 ⟨rfl,k1⟩
 obtain ⟨r0,r1,r2,r3⟩:=(show ∀ W,Kb 0 w0 W→_ from HB) w1 k1
 have HG1:=(show ∀ W,Kb 0 w0 W→_ from HG) w1 k1
 have K1:Hid (Kb 0 w w1):=(show Kb 0 w w0 from HK).trans k1
 clear HO k1 q0 q1 q2 q3 HB HG
 go_wp2_with fail
 refine HG1.mono ?_
 rintro e w2 ⟨v,rfl,hr,k2⟩
 have HP2:=(show ∀ W v,RowT 0 W v (3+m) FJ→_ from HP) w2 v hr
 have K2:Hid (Kb 0 w w2):=(show Kb 0 w w1 from K1).trans k2
 obtain ⟨pv,cv,rfl,-⟩:=id hr
 clear hr k2 HG1 HP r0 r1 r2 r3
 unfold grv ndV at HP2 ⊢
 dsimp only at HP2 ⊢
 go_wp2_with fail
 refine HP2.mono ?_
 rintro e w3 ⟨v,rfl,ho,k3⟩
 obtain ⟨pb,cb,rfl⟩:=own_shape ho
 have HF:Hid (w3.ownsRow w.heap.size 5 1 (.slice pb L.length cb) L.length (bvs L)∧Kb 0 w w3):=(⟨own_base ho (show Kb 0 w w2 from K2).size,(show Kb 0 w w2 from K2).trans k3⟩:_∧_)
 clear HP2 ho k3
 go_wp2_with fail
 go_ret
 exact ⟨_,rfl,HF⟩
theorem im_jr {J : Jd} {p1 p2 : Option Addr} {c1 c2 : Nat} (w : World) (hl : RowV w (.slice p1 J.n c1) J.n (fun i => .string (J.S i))) (hs : Js.RowW 0 w (.slice p2 J.m c2) J.m J.T) (hn : J.n ≤ 1048576) (hm : J.m ≤ 1048576) (hx : ∀ i, i < J.m → ((J.T i).x.size : Int) ≤ 9223372036854775807) :
  Calls Try.prog 15 #[.agg #[.slice p1 J.n c1,.int .i64 J.p,.int .i64 J.q,.slice p2 J.m c2]] w fun e w'=>∃ v,e = .returned v∧w'.ownsRow w.heap.size 5 1 v (jir J).length (bvs (jir J))∧Kb 0 w w':=by
 obtain ⟨w0,hw0⟩:∃ w0,w0=w.alloc (.cells #[.slice p1 J.n c1,.int .i64 J.p,.int .i64 J.q,.slice p2 J.m c2] 26):=⟨_,rfl⟩
 have k0:Kb 0 w w0:=by rw [hw0];exact kb_alloc _ _ _
 have b0:w0.heap[w.heap.size]? = some (.cells #[.slice p1 J.n c1,.int .i64 J.p,.int .i64 J.q,.slice p2 J.m c2] 26 (0,0)):=by rw [hw0];exact alloc_new _ _ _
 have hl0:=((RowV.rowB hl).keep k0)
 have hs0:=hs.keep k0
 have HO:=im_isj w0 hl0.row hs0 hn hm hx
 obtain ⟨L,hL⟩:∃ L,L=jir J:=⟨_,rfl⟩
 rw [← hL]
 have HB:Hid (∀ W,Kb 0 w0 W→W.cell? ⟨w.heap.size,0,none⟩=some (.slice p1 J.n c1)∧W.cell? ⟨w.heap.size,1,none⟩=some (.int .i64 J.p)∧W.cell? ⟨w.heap.size,2,none⟩=some (.int .i64 J.q)∧W.cell? ⟨w.heap.size,3,none⟩=some (.slice p2 J.m c2)):=(fun W k=>⟨k.cell (cell_of b0 rfl),k.cell (cell_of b0 rfl),k.cell (cell_of b0 rfl),k.cell (cell_of b0 rfl)⟩:∀ W,_)
 obtain ⟨q0,q1,q2,q3⟩:=(show ∀ W,Kb 0 w0 W→_ from HB) w0 (Kb.refl _ _)
 have HW:Hid (w0=w.alloc (.cells #[.slice p1 J.n c1,.int .i64 J.p,.int .i64 J.q,.slice p2 J.m c2] 26)):=hw0
 have HK:Hid (Kb 0 w w0):=k0
 by_cases hok:Jok J
 case neg =>
  obtain rfl:L = []:=hL.trans (by unfold jir;rw [dc_f hok];rfl)
  rw [dc_f hok] at HO
  clear hok hL hl hs hn hm hx hl0 hs0 k0 b0 hw0 HB
  obtain ⟨n,S,p,q,m,T⟩:=J
  dsimp only at *
  go_enter Try.func15,Try.ntmps15
  go_upto_region 1 with fail
  rw [← (show w0 = _ from HW)]
  clear HW
  go_wp2_with fail
  refine HO.mono ?_
  rintro e w1 ⟨rfl,k1⟩
  have HF:Hid (Kb 0 w w1):=(show Kb 0 w w0 from HK).trans k1
  clear HO k1 q0 q1 q2 q3
  go_wp2_with fail
  go_ret
  exact ⟨_,rfl,World.ownsRow_nil _ _ _ _,HF⟩
 rw [dc_t hok] at HO
 have HG:Hid (∀ W,Kb 0 w0 W→Calls Try.prog 35 #[.agg #[.slice p1 J.n c1,.int .i64 J.p,.int .i64 J.q,.slice p2 J.m c2]] W fun e w'=>∃ v,e = .returned (grv (ndV 0) v)∧RowT 0 w' v (3+J.m) (jF J)∧Kb 0 W w'):=(fun W k=>im_graph W (hl0.keep k).row (hs0.keep k) hok.1 hok.2.1:∀ W,_)
 have HP:Hid (∀ W v,RowT 0 W v (3+J.m) (jF J)→Calls Try.prog 34 #[grv (ndV 0) v] W fun e w'=>∃ v,e = .returned v∧w'.ownsRow W.heap.size 5 1 v L.length (bvs L)∧Kb 0 W w'):=(fun W v h=>by
  have:=im_pack W (n:=(ysJ J).length) (F:=TF (ysJ J)) (by rw [ysJ_len];exact h.congr (fun i hi=>ysJ_at J hi)) (jok_bgG hok) (jok_rgG hok)
  rw [hL,show jir J=pck (ysJ J).length (TF (ysJ J)) (ndV 0) from by unfold jir;rw [dc_t hok,if_pos rfl]]
  exact this:∀ W v,_)
 have HM:Hid (0≤J.m):=Nat.zero_le _
 generalize jF J=FJ at HG HP
 clear hok hL hl hs hn hm hx hl0 hs0 k0 b0 hw0
 obtain ⟨n,S,p,q,m,T⟩:=J
 dsimp only at *
 go_enter Try.func15,Try.ntmps15
 go_upto_region 1 with fail
 rw [← (show w0 = _ from HW)]
 clear HW
 go_wp2_with fail
 refine HO.mono ?_
 rintro e w1 ⟨rfl,k1⟩
 obtain ⟨r0,r1,r2,r3⟩:=(show ∀ W,Kb 0 w0 W→_ from HB) w1 k1
 have HG1:=(show ∀ W,Kb 0 w0 W→_ from HG) w1 k1
 have K1:Hid (Kb 0 w w1):=(show Kb 0 w w0 from HK).trans k1
 clear HO k1 q0 q1 q2 q3 HB HG
 go_wp2_with fail
 refine HG1.mono ?_
 rintro e w2 ⟨v,rfl,hr,k2⟩
 have HP2:=(show ∀ W v,RowT 0 W v (3+m) FJ→_ from HP) w2 v hr
 have K2:Hid (Kb 0 w w2):=(show Kb 0 w w1 from K1).trans k2
 obtain ⟨pv,cv,rfl,-⟩:=id hr
 clear hr k2 HG1 HP r0 r1 r2 r3
 unfold grv ndV at HP2 ⊢
 dsimp only at HP2 ⊢
 go_wp2_with fail
 refine HP2.mono ?_
 rintro e w3 ⟨v,rfl,ho,k3⟩
 obtain ⟨pb,cb,rfl⟩:=own_shape ho
 have HF:Hid (w3.ownsRow w.heap.size 5 1 (.slice pb L.length cb) L.length (bvs L)∧Kb 0 w w3):=(⟨own_base ho (show Kb 0 w w2 from K2).size,(show Kb 0 w w2 from K2).trans k3⟩:_∧_)
 clear HP2 ho k3
 go_wp2_with fail
 go_ret
 exact ⟨_,rfl,HF⟩
def RjM (M:List UInt8) (W:World) (e:Ending) (w':World):Prop:=∃ (ok:Bool) (J:Jd) (v u:Value),e = .returned (.agg #[.bool ok,v,.int .i64 J.p,.int .i64 J.q,u])∧RjA M ok J∧Jx J W.heap.size w' v u∧Kb 0 W w'
theorem jx_nil {w W:World} (hz:w.heap.size+2≤W.heap.size):Jx j0 w.heap.size W (.slice none 0 0) (.slice none 0 0):=jx_of (J:=j0) (World.ownsRow_nil _ _ _ _) (World.ownsRow_nil _ _ _ _) hz
theorem zat_x {ys:List (Int × List Gv)} {a:Gv} (hg:Gok ys.length (TF ys) a) (k j:Nat):(zat (TF ys) k j).x.size≤4000:=by
  unfold zat
  split
  · rename_i hj
    rcases Nat.lt_or_ge k ys.length with h | h
    · rcases (hg.2.2 k h).2 j hj with q | q | q | q
      · rw [q.2.2.1];exact Nat.zero_le _
      · rw [q.2.1];exact Nat.zero_le _
      · exact q.2.2.2
      · rw [q.2.2.1];exact Nat.zero_le _
    · have hz : TF ys k = ⟨0, 0, fun i => ([] : List Gv).getD i default⟩ := by
        unfold TF
        rw [List.getD_eq_getElem?_getD,List.getElem?_eq_none h]
        rfl
      rw [hz] at hj
      exact absurd hj (Nat.not_lt_zero _)
  · exact Nat.zero_le _
theorem tf_c {ys:List (Int × List Gv)} {a:Gv} (hg:Gok ys.length (TF ys) a) (k:Nat):(TF ys k).c≤300:=by
  rcases Nat.lt_or_ge k ys.length with h | h
  · exact (hg.2.2 k h).1.2.2
  · have hz : TF ys k = ⟨0, 0, fun i => ([] : List Gv).getD i default⟩ := by
      unfold TF
      rw [List.getD_eq_getElem?_getD,List.getElem?_eq_none h]
      rfl
    rw [hz]
    exact Nat.zero_le _
theorem five_set {V:World} {B:Nat} {T:TypeId} {c0 c1 c2 c3 c4:Value} (x0 x1 x2 x3 x4:Value) (bq:V.heap[B]? = some (.cells #[c0,c1,c2,c3,c4] T (0,0))):∃ WF,WF=(((((V.setCell ⟨B,0,none⟩ x0).setCell ⟨B,1,none⟩ x1).setCell ⟨B,2,none⟩ x2).setCell ⟨B,3,none⟩ x3).setCell ⟨B,4,none⟩ x4)∧WF.heap[B]? = some (.cells #[x0,x1,x2,x3,x4] T (0,0))∧(∀ g,g ≠ B→WF.heap[g]? = V.heap[g]?)∧WF.heap.size=V.heap.size∧WF.os=V.os∧WF.output=V.output:=by
 have t1:(V.setCell ⟨B,0,none⟩ x0).heap[B]? = some (.cells #[x0,c1,c2,c3,c4] T (0,0)):=set_known _ bq
 have t2:((V.setCell ⟨B,0,none⟩ x0).setCell ⟨B,1,none⟩ x1).heap[B]? = some (.cells #[x0,x1,c2,c3,c4] T (0,0)):=set_known _ t1
 have t3:(((V.setCell ⟨B,0,none⟩ x0).setCell ⟨B,1,none⟩ x1).setCell ⟨B,2,none⟩ x2).heap[B]? = some (.cells #[x0,x1,x2,c3,c4] T (0,0)):=set_known _ t2
 have t4:((((V.setCell ⟨B,0,none⟩ x0).setCell ⟨B,1,none⟩ x1).setCell ⟨B,2,none⟩ x2).setCell ⟨B,3,none⟩ x3).heap[B]? = some (.cells #[x0,x1,x2,x3,c4] T (0,0)):=set_known _ t3
 obtain ⟨WF,hWF⟩:∃ WF,WF=(((((V.setCell ⟨B,0,none⟩ x0).setCell ⟨B,1,none⟩ x1).setCell ⟨B,2,none⟩ x2).setCell ⟨B,3,none⟩ x3).setCell ⟨B,4,none⟩ x4):=⟨_,rfl⟩
 have bF:WF.heap[B]? = some (.cells #[x0,x1,x2,x3,x4] T (0,0)):=by rw [hWF];exact set_known _ t4
 have kz:Kz B V WF:=by rw [hWF];exact (((((Kz.refl B V).set 0 x0).set 1 x1).set 2 x2).set 3 x3).set 4 x4
 exact ⟨WF,hWF,bF,kz.block,kz.size,kz.os,kz.output⟩
theorem jo_row {J:Jd} {L H:Nat} {W W':World} {v u:Value} {g b:Nat} (h:Jo J L H W v u g b) (hj:Jr J W v u) (hk:∀ q,L≤q→q < H→W'.heap[q]? = W.heap[q]?):Jr J W' v u:=by
 refine ⟨(h.l.block (fun _=>hk g h.hg.1 h.hg.2)).row,?_⟩
 obtain ⟨p,c,e,h2⟩:=hj.2
 obtain ⟨p',c',e',h3⟩:=h.s
 rw [e] at e'
 injection e' with e1 _ e2
 subst e1 e2
 refine ⟨p,c,e,fun hm=>?_⟩
 obtain ⟨a,x1,x2,x0,x3⟩:=h2 hm
 obtain ⟨y1,_⟩:=h3 hm
 rw [x1] at y1
 have ea:a=⟨b,0,none⟩:=Option.some.inj y1
 refine ⟨a,x1,x2,x0,fun i hi=>?_⟩
 have hc:=x3 i hi
 subst ea
 rw [addr0] at hc ⊢
 have hb:=hk b h.hb.1 h.hb.2
 exact ⟨(World.cell?_of_block (a:=⟨b,_,none⟩) hb).trans hc.c0,(World.cell?_of_block (a:=⟨b,_,none⟩) hb).trans hc.c1,(World.cell?_of_block (a:=⟨b,_,none⟩) hb).trans hc.c2,(World.cell?_of_block (a:=⟨b,_,none⟩) hb).trans hc.c3⟩
def Sml (z:Gv):Prop:=z.k=1 ∧ -1≤z.m∧z.m≤1000000
theorem sp_small (z:Gv) (w:World):Calls Try.prog 17 #[.agg #[.int .i64 z.k,.int .i64 z.m,.string z.x,.int .i64 z.r]] w fun e w'=>e = .returned (.tuple #[.int .i64 z.m,.bool (dc (Sml z))])∧Kb 0 w w':=by
 obtain ⟨w1,hw1⟩:∃ w1,w1=w.alloc (.cells #[.int .i64 z.k,.int .i64 z.m,.string z.x,.int .i64 z.r] 41):=⟨_,rfl⟩
 have k1:Kb 0 w w1:=by rw [hw1];exact kb_alloc _ _ _
 have b1:w1.heap[w.heap.size]? = some (.cells #[.int .i64 z.k,.int .i64 z.m,.string z.x,.int .i64 z.r] 41 (0,0)):=by rw [hw1];exact alloc_new _ _ _
 have c0:w1.cell? ⟨w.heap.size,0,none⟩=some (.int .i64 z.k):=cell_of b1 rfl
 have c1:w1.cell? ⟨w.heap.size,1,none⟩=some (.int .i64 z.m):=cell_of b1 rfl
 have HW:Hid (w1=w.alloc (.cells #[.int .i64 z.k,.int .i64 z.m,.string z.x,.int .i64 z.r] 41)):=hw1
 have HD:∀ n,Kb 0 w (w1.drewN n):=fun n=>Kb.drewN k1 n
 clear hw1 k1 b1
 by_cases h1:z.k=1
 case neg =>
  rw [dc_f (fun h=>h1 h.1)]
  have e1:(z.k == 1)=false:=by simp [h1]
  clear h1
  go_enter Try.func17,Try.ntmps17
  go_upto_region 1 with fail
  rw [← (show w1 = _ from HW)]
  clear HW
  go_quiet (fail)
  go_wp2_with fail
  refine bodyPost_ret (by simp [results,Try.results17,go_sem];rfl) rfl ?_
  exact ⟨rfl,HD _⟩
 have e1:(z.k == 1)=true:=by simp [h1]
 by_cases h2 : -1≤z.m
 case neg =>
  rw [dc_f (fun h=>h2 h.2.1)]
  clear h1
  go_enter Try.func17,Try.ntmps17
  go_upto_region 1 with fail
  rw [← (show w1 = _ from HW)]
  clear HW
  go_quiet (fail)
  go_wp2_with fail
  refine bodyPost_ret (by simp [results,Try.results17,go_sem];rfl) rfl ?_
  exact ⟨rfl,HD _⟩
 by_cases h3:z.m≤1000000
 case neg =>
  rw [dc_f (fun h=>h3 h.2.2)]
  clear h1
  go_enter Try.func17,Try.ntmps17
  go_upto_region 1 with fail
  rw [← (show w1 = _ from HW)]
  clear HW
  go_quiet (fail)
  go_wp2_with fail
  refine bodyPost_ret (by simp [results,Try.results17,go_sem];rfl) rfl ?_
  exact ⟨rfl,HD _⟩
 rw [dc_t ⟨h1,h2,h3⟩]
 clear h1
 go_enter Try.func17,Try.ntmps17
 go_upto_region 1 with fail
 rw [← (show w1 = _ from HW)]
 clear HW
 go_quiet (fail)
 go_wp2_with fail
 refine bodyPost_ret (by simp [results,Try.results17,go_sem];rfl) rfl ?_
 exact ⟨rfl,HD _⟩
end Go.Proofs.Ytamcnmnaadpfoaa.Fo
