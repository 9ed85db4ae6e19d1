import Derived.Test.YtamcnmnaadpfoaaFHad
import Derived.Test.YtamcnmnaadpfoaaFZaa
import Derived.Test.YtamcnmnaadpfoaaFBab
import Derived.Deep.RegionHeld3
import Derived.Test.YtamcnmnaadpfoaaFGcc
set_option maxHeartbeats 16000000
namespace Go.Proofs.Ytamcnmnaadpfoaa.Fo
open Go.ChangeShapes Go.WideShapes Go.ChangeAt Go.RowKit
set_option linter.unusedVariables false
set_option maxRecDepth 100000
def lenV:Option Value→Nat
 | some (.slice _ n _)=>n
 | _=>0
theorem im_form {a : Gv} {vn : Value} {n : Nat} {F : Nat → Td} (w : World) (ha : RowT 0 w vn n F) (hb : Bg n F a) (hk : Lk n F a) :
  Calls Try.prog 62 #[grv a vn] w fun e w'=>∃ v V,e = .returned (grv (rnm (ords F (ext [] a) n) a) v)∧FE w n F (ords F (ext [] a) n) v V w':=by
 obtain ⟨pn,cn,rfl,ha2⟩:=ha
 obtain ⟨A,hA⟩:∃ A:Addr,0 < n→pn=some A:=by
  by_cases h : 0 < n
  ·obtain ⟨A,hA,_⟩:=ha2 h;exact ⟨A,fun _=>hA⟩
  ·exact ⟨⟨0,0,none⟩,fun q=>absurd q h⟩
 have hnI:(n:Int)≤1048576:=by have:=hb.hn;omega
 have hmk:∀ W,(Instr.makeMap 134 none).run Try.prog W = .ok (.map (some W.heap.size)) (W.alloc (.map #[] 0)):=run_makePk
 obtain ⟨w2,hw2⟩:∃ w2,w2=(w.alloc (.cells #[.int .i64 a.k,.int .i64 a.m,.string a.x,.int .i64 a.r,.slice pn n cn] 44)).alloc (.cells #[.int .i64 0,.int .i64 0,.string ⟨#[]⟩,.int .i64 0,.slice none 0 0] 44):=⟨_,rfl⟩
 have k2:Kb 0 w w2:=by rw [hw2];exact kb_alloc2 _ _ _ _
 have z2:w2.heap.size=w.heap.size+1+1:=by rw [hw2];simp
 have b0:w2.heap[w.heap.size]? = some (.cells #[.int .i64 a.k,.int .i64 a.m,.string a.x,.int .i64 a.r,.slice pn n cn] 44 (0,0)):=by
  rw [hw2,(kb_alloc 0 _ _).block _ (Nat.zero_le _) (by rw [World.size_alloc];omega)]
  exact alloc_new _ _ _
 have b1:w2.heap[w.heap.size+1]? = some (.cells #[.int .i64 0,.int .i64 0,.string ⟨#[]⟩,.int .i64 0,.slice none 0 0] 44 (0,0)):=by
  have e:(w.alloc (.cells #[.int .i64 a.k,.int .i64 a.m,.string a.x,.int .i64 a.r,.slice pn n cn] 44)).heap.size=w.heap.size+1:=World.size_alloc _ _
  rw [hw2,← e]
  exact alloc_new _ _ _
 obtain ⟨w3,hw3⟩:∃ w3,w3=w2.alloc (.map #[] 0):=⟨_,rfl⟩
 have k3:Kb 0 w2 w3:=by rw [hw3];exact kb_alloc _ _ _
 have z3:w3.heap.size=w.heap.size+1+1+1:=by rw [hw3,World.size_alloc,z2]
 have m3:Mn A (w.heap.size+1+1) [] w3:=by rw [hw3,← z2];exact Mn.new A w2
 obtain ⟨w4,hw4⟩:∃ w4,w4=w3.alloc (.cells #[.slice pn n cn,.map (some (w.heap.size+1+1)),.slice none 0 0] 137):=⟨_,rfl⟩
 have k4:Kb 0 w3 w4:=by rw [hw4];exact kb_alloc _ _ _
 have z4:w4.heap.size=w.heap.size+4:=by rw [hw4,World.size_alloc,z3]
 have n4:w4.heap[w.heap.size+1+1+1]? = some (.cells #[.slice pn n cn,.map (some (w.heap.size+1+1)),.slice none 0 0] 137 (0,0)):=by rw [hw4,← z3];exact alloc_new _ _ _
 have kk:Kb 0 w w4:=(k2.trans k3).trans k4
 have r4:=(k4.block (w.heap.size+1) (Nat.zero_le _) (by omega)).trans ((k3.block (w.heap.size+1) (Nat.zero_le _) (by omega)).trans b1)
 have g4:=(k4.block (w.heap.size) (Nat.zero_le _) (by omega)).trans ((k3.block (w.heap.size) (Nat.zero_le _) (by omega)).trans b0)
 have hns:NS (w.heap.size+4) pn A n cn (w.heap.size+1+1+1) (w.heap.size+1+1) [] (.slice none 0 0) w4:=⟨hA,n4,m3.keep (k4.block _ (Nat.zero_le _) (by omega)),World.ownsRow_nil _ _ _ _,⟨List.nodup_nil,fun x hx=>by cases hx⟩⟩
 obtain ⟨o1,ho1⟩:∃ o1,o1=ext [] a:=⟨_,rfl⟩
 obtain ⟨R,hR⟩:∃ R,R=rnm o1 a:=⟨_,rfl⟩
 have HMET:Hid (Calls Try.prog 96 #[.pointer (some ⟨w.heap.size+1+1+1,0,none⟩),.agg #[.int .i64 a.k,.int .i64 a.m,.string a.x,.int .i64 a.r]] w4 fun e w'=>∃ vo',e = .returned (.agg #[.int .i64 R.k,.int .i64 R.m,.string R.x,.int .i64 R.r])∧FS w n F a pn A cn w'.heap.size o1 0 vo' (.slice none 0 0) (fun _=>.slice none 0 0) (w'.alloc (.cells #[.int .i64 R.k,.int .i64 R.m,.string R.x,.int .i64 R.r,.slice none 0 0] 44))):=((im_met (v:=a) w4 hns (by omega) hk.lr hb.hn).mono (fun e w' ⟨vo',he,p1,p2⟩=>by
  rw [← ho1] at he p1
  rw [← hR] at he
  refine ⟨vo',he,?_⟩
  have f4:=Fo4.of3 hns p2
  have k5:Kb 0 w w':=f4.kb kk (by omega) (by omega) (by omega)
  have ka:=kb_alloc 0 w' (.cells #[.int .i64 R.k,.int .i64 R.m,.string R.x,.int .i64 R.r,.slice none 0 0] 44)
  have hz:=f4.size
  refine ⟨k5.trans ka,?_,p1.kb ka,?_,World.ownsRow_nil _ _ _ _,fun k hk=>by omega,fun k k' _ hk=>by omega,by rw [World.size_alloc];exact Nat.le_refl _,by omega,Nat.zero_le _,fun q=>by rw [ho1];exact ext_mem q,fun k hk=>by omega⟩
  ·exact (ka.block _ (Nat.zero_le _) (by omega)).trans ((f4.cells r4 (by decide) (by omega) (by omega)).trans r4)
  ·rw [← hR];exact alloc_new _ _ _):Calls Try.prog 96 _ w4 _)
 have y4:w2.cell? ⟨w.heap.size,4,none⟩=some (.slice pn n cn):=cell_of b0 rfl
 have y4':∀ ob,(w2.alloc ob).cell? ⟨w.heap.size,4,none⟩=some (.slice pn n cn):=fun ob=>(kb_alloc 0 w2 ob).cell (cell_of b0 rfl)
 have v0:w4.cell? ⟨w.heap.size,0,none⟩=some (.int .i64 a.k):=cell_of g4 rfl
 have v1:w4.cell? ⟨w.heap.size,1,none⟩=some (.int .i64 a.m):=cell_of g4 rfl
 have v2:w4.cell? ⟨w.heap.size,2,none⟩=some (.string a.x):=cell_of g4 rfl
 have v3:w4.cell? ⟨w.heap.size,3,none⟩=some (.int .i64 a.r):=cell_of g4 rfl
 have HW2:Hid (w2=(w.alloc (.cells #[.int .i64 a.k,.int .i64 a.m,.string a.x,.int .i64 a.r,.slice pn n cn] 44)).alloc (.cells #[.int .i64 0,.int .i64 0,.string ⟨#[]⟩,.int .i64 0,.slice none 0 0] 44)):=hw2
 have HW4:Hid (w4=(w2.alloc (.map #[] 0)).alloc (.cells #[.slice pn n cn,.map (some (w.heap.size+1+1)),.slice none 0 0] 137)):=by rw [hw3] at hw4;exact hw4
 have HO1:Hid (o1=ords F (ext [] a) 0):=ho1
 have HALL:Hid ((0 < n→∃ a:Addr,pn=some a∧n≤cn∧0≤a.block∧∀ i,i < n→ThC 0 w (a.add (i*2)) (F i))∧Bg n F a∧Lk n F a):=(⟨ha2,hb,hk⟩:_∧_)
 have HZ2:Hid (w2.heap.size=w.heap.size+1+1):=z2
 clear ha2 hA hb hk k2 b0 b1 hw3 k3 z3 m3 hw4 k4 z4 n4 kk r4 g4 hns ho1 hR hw2 z2
 unfold grv
 go_enter Try.func62,Try.ntmps62
 go_upto_region 1 with fail
 rw [← (show w2 = _ from HW2)]
 clear HW2
 have z2:=(show w2.heap.size=w.heap.size+1+1 from HZ2)
 go_upto_region 2 with fail
 rw [← (show w4 = _ from HW4)]
 clear HW4 HZ2 z2 y4 y4' hmk
 go_wp2_with fail
 refine (show Calls Try.prog 96 _ w4 _ from HMET).mono ?_
 rintro e w5 ⟨vo1,rfl,hFS⟩
 obtain ⟨W6,hW6⟩:∃ W6,W6=w5.alloc (.cells #[.int .i64 R.k,.int .i64 R.m,.string R.x,.int .i64 R.r,.slice none 0 0] 44):=⟨_,rfl⟩
 rw [← hW6] at hFS
 have HF0:Hid (FS w n F a pn A cn w5.heap.size o1 0 vo1 (.slice none 0 0) (fun _=>.slice none 0 0) W6):=hFS
 have HW6:Hid (W6=w5.alloc (.cells #[.int .i64 R.k,.int .i64 R.m,.string R.x,.int .i64 R.r,.slice none 0 0] 44)):=hW6
 clear HMET v0 v1 v2 v3 hFS hW6
 go_wp2_with fail
 rw [← (show W6 = _ from HW6)]
 clear HW6
 obtain ⟨fb,hfb⟩:∃ fb,fb=w5.heap.size:=⟨_,rfl⟩
 rw [← hfb] at HF0 ⊢
 clear hfb
 go_loopw [] (fun wr=>∃ (i:Nat) (vo vn:Value) (V:Nat→Value),Hid (FS w n F a pn A cn fb (ords F (ext [] a) i) i vo vn V wr)) (fun wr=>n+1 - lenV (wr.cell? ⟨fb,4,none⟩))
 case atStart=>exact ⟨0,_,_,_,(show o1=ords F (ext [] a) 0 from HO1) ▸ HF0⟩
 case round =>
  clear HF0 HO1
  obtain ⟨i,vo,vn,V,HX⟩:=hrel
  have hX0:=(show FS w n F a pn A cn fb (ords F (ext [] a) i) i vo vn V wr from HX)
  clear HX
  obtain ⟨o,ho⟩:∃ o,o=ords F (ext [] a) i:=⟨_,rfl⟩
  rw [← ho] at hX0
  obtain ⟨hra,hb,hk⟩:=(show (0 < n→∃ a:Addr,pn=some a∧n≤cn∧0≤a.block∧∀ i,i < n→ThC 0 w (a.add (i*2)) (F i))∧Bg n F a∧Lk n F a from HALL)
  obtain ⟨ad,cap,rfl⟩:=own_shape hX0.ns.oo
  obtain ⟨pv,cv,rfl⟩:=own_shape hX0.nn
  have hil:=hX0.il
  have hon:=nl_len n o hX0.ns.nl
  have hsz:=hX0.sz
  have hfb:=hX0.hf
  have c4:wr.cell? ⟨fb,4,none⟩=some (.slice pv i cv):=cell_of hX0.ou rfl
  have n2:wr.cell? ⟨w.heap.size+1+1+1,2,none⟩=some (.slice ad o.length cap):=cell_of hX0.ns.bk rfl
  rcases Nat.lt_or_ge i o.length with hi | hi
  case inr =>
   obtain rfl:i=o.length:=by omega
   have hI:¬ (o.length:Int) < (o.length:Int):=by omega
   have hend:ords F (ext [] a) n=o:=by
    have e:=ords_stop (F:=F) (o:=ext [] a) (i:=o.length) (by rw [← ho];exact Nat.le_refl _) (n - o.length)
    rw [← ho,show o.length+(n - o.length)=n by omega] at e
    exact e
   obtain ⟨RM,hRM⟩:∃ RM,RM=rnm o a:=⟨_,rfl⟩
   have HX:Hid (FS w n F a pn A cn fb o o.length (.slice ad o.length cap) (.slice pv o.length cv) V wr):=hX0
   have HE:Hid (ords F (ext [] a) n=o∧RM=rnm o a):=(⟨hend,hRM⟩:_∧_)
   obtain ⟨L,hL⟩:∃ L,L=o.length:=⟨_,rfl⟩
   rw [← hL] at c4 n2 hI HX
   have HL:Hid (L=o.length):=hL
   clear hX0 ho hra hb hk hil hon hend hRM hi hL HALL
   go_wp2_with fail
   go_quiet (fail)
   have hX:=(show FS w n F a pn A cn fb o L (.slice ad L cap) (.slice pv L cv) V wr from HX)
   obtain ⟨wq,hwq⟩:∃ wq,wq=wr.drewN nq:=⟨_,rfl⟩
   rw [← hwq]
   have hXq:FS w n F a pn A cn fb o L (.slice ad L cap) (.slice pv L cv) V wq:=hX.kb2 (by rw [hwq];exact Kb.drewN (Kb.refl _ _) nq)
   have hou:=hXq.ou
   rw [← (show _∧RM=rnm o a from HE).2] at hou
   have v0:wq.cell? ⟨fb,0,none⟩=some (.int .i64 RM.k):=cell_of hou rfl
   have v1:wq.cell? ⟨fb,1,none⟩=some (.int .i64 RM.m):=cell_of hou rfl
   have v2:wq.cell? ⟨fb,2,none⟩=some (.string RM.x):=cell_of hou rfl
   have v3:wq.cell? ⟨fb,3,none⟩=some (.int .i64 RM.r):=cell_of hou rfl
   have v4:wq.cell? ⟨fb,4,none⟩=some (.slice pv L cv):=cell_of hou rfl
   have r0:wq.cell? ⟨w.heap.size+1,0,none⟩=some (.int .i64 0):=cell_of hXq.rs rfl
   have r1:wq.cell? ⟨w.heap.size+1,1,none⟩=some (.int .i64 0):=cell_of hXq.rs rfl
   have r2:wq.cell? ⟨w.heap.size+1,2,none⟩=some (.string ⟨#[]⟩):=cell_of hXq.rs rfl
   have r3:wq.cell? ⟨w.heap.size+1,3,none⟩=some (.int .i64 0):=cell_of hXq.rs rfl
   have r4:wq.cell? ⟨w.heap.size+1,4,none⟩=some (.slice none 0 0):=cell_of hXq.rs rfl
   have rz:∀ j,wq.frozen? ⟨w.heap.size+1,j,none⟩=false:=fun j=>frozen_of hXq.rs
   have HXQ:Hid (FS w n F a pn A cn fb o L (.slice ad L cap) (.slice pv L cv) V wq):=hXq
   clear hX hXq hwq hou HX c4 n2
   go_wp2_with fail
   have hX:=(show FS w n F a pn A cn fb o L (.slice ad L cap) (.slice pv L cv) V wq from HXQ)
   obtain ⟨WF,hWF⟩:∃ WF,WF=s5 wq (w.heap.size+1) RM.k RM.m RM.x RM.r (.slice pv L cv):=⟨_,rfl⟩
   have hbF:WF.heap[w.heap.size+1]? = some (.cells #[.int .i64 RM.k,.int .i64 RM.m,.string RM.x,.int .i64 RM.r,.slice pv L cv] 44 (0,0)):=by rw [hWF];exact s5_known hX.rs _ _ _ _ _
   have e0:WF.cell? ⟨w.heap.size+1,0,none⟩=some (.int .i64 RM.k):=cell_of hbF rfl
   have e1:WF.cell? ⟨w.heap.size+1,1,none⟩=some (.int .i64 RM.m):=cell_of hbF rfl
   have e2:WF.cell? ⟨w.heap.size+1,2,none⟩=some (.string RM.x):=cell_of hbF rfl
   have e3:WF.cell? ⟨w.heap.size+1,3,none⟩=some (.int .i64 RM.r):=cell_of hbF rfl
   have e4:WF.cell? ⟨w.heap.size+1,4,none⟩=some (.slice pv L cv):=cell_of hbF rfl
   have hfar:∀ g,g ≠ w.heap.size+1→WF.heap[g]? = wq.heap[g]?:=fun g hg=>by rw [hWF];exact s5_far _ _ _ _ _ _ hg
   have hsz:WF.heap.size=wq.heap.size:=by rw [hWF];exact s5_size _ _ _ _ _ _ _
   have hos:WF.os=wq.os:=by rw [hWF];rfl
   have hout:WF.output=wq.output:=by rw [hWF];rfl
   unfold s5 s4 at hWF
   rw [← hWF]
   clear hWF v0 v1 v2 v3 v4 r0 r1 r2 r3 r4 rz
   refine bodyPost_ret (by simp [results,Try.results62,go_sem,e0,e1,e2,e3,e4];rfl) rfl ?_
   obtain ⟨he1,he2⟩:=(show ords F (ext [] a) n=o∧RM=rnm o a from HE)
   obtain rfl:=(show L=o.length from HL)
   rw [he1,← he2]
   exact ⟨_,V,rfl,hX.fin hfar hsz hos hout⟩
  have hnp : 0 < n:=by omega
  have hI:(i:Int) < (o.length:Int):=by omega
  obtain ⟨x,hxd⟩:∃ x,x=nth o i:=⟨_,rfl⟩
  obtain ⟨hx,hox⟩:=nth_lt hX0.ns.nl hi
  rw [← hxd] at hx hox
  obtain ⟨g,cap',eo,hBg,hcg,hcell⟩:=own_cells hX0.ns.oo (by omega)
  injection eo with eo1 _ eo3
  subst eo1
  subst eo3
  have yo:wr.cell? ⟨g,i,none⟩=some (.pointer (some (A.add (x*2)))):=by
   rw [hcell i (by omega),List.getElem?_map,hox]
   rfl
  obtain ⟨A2,hA2,_,_,hth⟩:=hra hnp
  have eA:A2=A:=by have:=hX0.ns.pa hnp;rw [hA2] at this;exact Option.some.inj this
  subst eA
  obtain ⟨o',ho'⟩:∃ o',o'=exts o (F x).C (F x).c:=⟨_,rfl⟩
  have hnx:ords F (ext [] a) (i+1)=o':=by
   rw [ords_succ,← ho,if_pos hi,ho',hxd]
  have HTH:Hid (∀ W,Kb 0 wr W→Calls Try.prog 97 #[.pointer (some ⟨w.heap.size+1+1+1,0,none⟩),.pointer (some (A2.add (x*2)))] W fun e w6=>∃ vo' vx,e = .returned (.agg #[.int .i64 (F x).t,vx])∧(∃ px cx,vx = .slice px (F x).c cx)∧(w6.cell? ⟨fb,4,none⟩=some (.slice pv i cv)∧(∀ ob,(w6.alloc ob).cell? ⟨fb,4,none⟩=some (.slice pv i cv))∧fb+1≤w6.heap.size∧w6.ownsRow (fb+1) 50 2 (.slice pv i cv) i (ncl F o V i))∧∀ (ob:Obj) (w8:World) (vn':Value),w8.ownsRow (fb+1) 50 2 vn' (i+1) (ncl F o V i ++ [.int .i64 (F x).t,vx])→(w6.alloc ob).grownBy w8 (Value.slice pv i cv).ownBlock→(w8.cell? ⟨fb,4,none⟩=some (.slice pv i cv)∧∀ j,w8.frozen? ⟨fb,j,none⟩=false)∧FS w n F a pn A2 cn fb (ords F (ext [] a) (i+1)) (i+1) vo' vn' (fun q=>if q=i then vx else V q) (w8.setCell ⟨fb,4,none⟩ vn')):=(fun W kW=>by
   have hW:=hX0.kb2 kW
   refine (im_thing (f:=F x) w W hW.ns hW.kb (by have:=hW.sz;omega) (by omega) (by omega) (by omega) (hth x hx) (hk.lv x hx) hb.hn (hb.hc x hx)).mono ?_
   rintro e w6 ⟨vo',vx,he,p1,p2,p3⟩
   rw [hxd] at p1 p2
   obtain ⟨q1,q2⟩:=hW.step hi p1 p2 p3
   refine ⟨vo',vx,he,own_shape p2 |> fun ⟨px,cx,e⟩=>⟨px,cx,by rw [hxd];exact e⟩,q1,fun ob w8 vn' h1 h2=>?_⟩
   rw [hnx,ho',hxd]
   rw [hxd] at h1
   exact q2 ob w8 vn' h1 h2:∀ W,_)
  obtain ⟨NL,hNL⟩:∃ NL,NL=ncl F o V i:=⟨_,rfl⟩
  rw [← hNL] at HTH
  obtain ⟨i1,hi1,hz0,hz1,hz2⟩:=info_parts infoTp
  have HI1:Hid (Try.prog.info? 50=some i1):=hi1
  obtain ⟨L,hL⟩:∃ L,L=o.length:=⟨_,rfl⟩
  have hin:i < 1048576:=by have:=hb.hn;omega
  rw [← hL] at n2 hI
  have hmes:i < n:=by omega
  clear hX0 ho hra hb hk hil hon hi hox hcell hth hA2 hnx ho' hxd hNL hi1 hL hcg hBg hx hnp
  go_wp2_with fail
  go_quiet (fail)
  obtain ⟨wq,hwq⟩:∃ wq,wq=wr.drewN nq:=⟨_,rfl⟩
  have HKQ:Hid (Kb 0 wr wq):=(by rw [hwq];exact Kb.drewN (Kb.refl _ _) nq:Kb 0 wr wq)
  rw [← hwq]
  have c4q:wq.cell? ⟨fb,4,none⟩=some (.slice pv i cv):=by rw [hwq];exact c4
  have n2q:wq.cell? ⟨w.heap.size+1+1+1,2,none⟩=some (.slice (some ⟨g,0,none⟩) L cap):=by rw [hwq];exact n2
  have yoq:wq.cell? ⟨g,i,none⟩=some (.pointer (some (A2.add (x*2)))):=by rw [hwq];exact yo
  have HLW:Hid (lenV (wr.cell? ⟨fb,4,none⟩)=i):=(by rw [c4];rfl:lenV (wr.cell? ⟨fb,4,none⟩)=i)
  clear hwq c4 n2 yo
  go_upto_region 4 with fail
  refine AnyL.region (S:=fun W'=>W'.cell? ⟨fb,4,none⟩=some (.slice pv i cv)) (z:=16) (by kernel_rfl) ?_
  have hS0:(fun W':World=>W'.cell? ⟨fb,4,none⟩=some (.slice pv i cv)) wq.drew:=c4q
  clear c4q
  refine AnyL.takeAt 0 (.pointer (some ⟨fb,4,none⟩)) rfl (by kernel_rfl) (by kernel_rfl) (by kernel_rfl) (by kernel_rfl) (fun _ _ _ h=>h) rfl hS0 (by intro W hW;go_simp) ?_
  try simp only [Act.put,List.setIfInBounds_toArray,List.set_cons_zero,List.set_cons_succ]
  refine AnyL.takeAt 1 (.slice pv i cv) rfl (by kernel_rfl) (by kernel_rfl) (by kernel_rfl) (by kernel_rfl) (fun _ _ _ h=>h) rfl hS0 (by intro W hW;go_simp) ?_
  try simp only [Act.put,List.setIfInBounds_toArray,List.set_cons_zero,List.set_cons_succ]
  refine AnyL.takeAt 2 (.pointer (some ⟨w.heap.size+1+1+1,0,none⟩)) rfl (by kernel_rfl) (by kernel_rfl) (by kernel_rfl) (by kernel_rfl) (fun _ _ _ h=>h) rfl hS0 (by intro W hW;go_simp) ?_
  try simp only [Act.put,List.setIfInBounds_toArray,List.set_cons_zero,List.set_cons_succ]
  refine AnyL.takeAt 3 (.pointer (some ⟨w.heap.size+1+1+1,0,none⟩)) rfl (by kernel_rfl) (by kernel_rfl) (by kernel_rfl) (by kernel_rfl) (fun _ _ _ h=>h) rfl hS0 (by intro W hW;go_simp) ?_
  try simp only [Act.put,List.setIfInBounds_toArray,List.set_cons_zero,List.set_cons_succ]
  refine AnyL.takeAt 4 (.pointer (some ⟨w.heap.size+1+1+1,0,none⟩)) rfl (by kernel_rfl) (by kernel_rfl) (by kernel_rfl) (by kernel_rfl) (fun _ _ _ h=>h) rfl hS0 (by intro W hW;go_simp) ?_
  try simp only [Act.put,List.setIfInBounds_toArray,List.set_cons_zero,List.set_cons_succ]
  refine AnyL.takeAt 5 (.pointer (some ⟨w.heap.size+1+1+1,2,none⟩)) rfl (by kernel_rfl) (by kernel_rfl) (by kernel_rfl) (by kernel_rfl) (fun _ _ _ h=>h) rfl hS0 (by intro W hW;go_simp) ?_
  try simp only [Act.put,List.setIfInBounds_toArray,List.set_cons_zero,List.set_cons_succ]
  refine AnyL.takeAt 7 (.pointer (some ⟨fb,4,none⟩)) rfl (by kernel_rfl) (by kernel_rfl) (by kernel_rfl) (by kernel_rfl) (fun _ _ _ h=>h) rfl hS0 (by intro W hW;go_simp) ?_
  try simp only [Act.put,List.setIfInBounds_toArray,List.set_cons_zero,List.set_cons_succ]
  refine AnyL.takeAt 8 (.slice pv i cv) rfl (by kernel_rfl) (by kernel_rfl) (by kernel_rfl) (by kernel_rfl) (fun _ _ _ h=>h) rfl hS0 (by intro W hW;go_simp) ?_
  try simp only [Act.put,List.setIfInBounds_toArray,List.set_cons_zero,List.set_cons_succ]
  refine AnyL.takeAt 9 (.int .i64 (i:Int)) rfl (by kernel_rfl) (by kernel_rfl) (by kernel_rfl) (by kernel_rfl) (fun _ _ _ h=>h) rfl hS0 (by intro W hW;go_simp) ?_
  try simp only [Act.put,List.setIfInBounds_toArray,List.set_cons_zero,List.set_cons_succ]
  refine AnyL.oneAt 6 rfl (by kernel_rfl) rfl ?_
  intro K hK
  go_simp
  refine hK.out _ _ (fun _=>hS0) ?_
  clear hK K
  try simp only [Act.put,List.setIfInBounds_toArray,List.set_cons_zero,List.set_cons_succ]
  refine AnyL.oneAt 10 rfl (by kernel_rfl) rfl ?_
  intro K hK
  go_simp
  refine hK.out _ _ (fun _=>hS0) ?_
  clear hK K
  try simp only [Act.put,List.setIfInBounds_toArray,List.set_cons_zero,List.set_cons_succ]
  refine AnyL.oneAt 11 rfl (by kernel_rfl) rfl ?_
  intro K hK
  go_simp
  refine hK.out _ _ (fun _=>hS0) ?_
  clear hK K
  try simp only [Act.put,List.setIfInBounds_toArray,List.set_cons_zero,List.set_cons_succ]
  refine AnyL.oneAt 12 rfl (by kernel_rfl) rfl ?_
  intro K hK
  go_simp
  refine ((show ∀ W,Kb 0 wr W→_ from HTH) _ (by exact Kb.trans (show Kb 0 wr wq from HKQ) (Kb.drewN (Kb.refl _ _) 1))).mono ?_
  rintro e w6 ⟨vo',vx,rfl,⟨px,cx,rfl⟩,⟨hS6,hS6a,h6z,hown6⟩,H8⟩
  have HS8:Hid (∀ (ob:Obj) (w8:World) (vn':Value),_):=H8
  clear HTH H8 hS0 n2q yoq HKQ
  refine hK.out _ _ (fun _=>hS6) ?_
  clear hK K
  try simp only [Act.put,List.setIfInBounds_toArray,List.set_cons_zero,List.set_cons_succ]
  refine AnyL.oneAt 13 rfl (by kernel_rfl) rfl ?_
  intro K hK
  go_simp
  refine hK.out _ _ (fun _=>hS6a _) ?_
  clear hK K
  try simp only [Act.put,List.setIfInBounds_toArray,List.set_cons_zero,List.set_cons_succ]
  refine AnyL.oneAt 14 rfl (by kernel_rfl) rfl ?_
  intro K hK
  refine wp_append_own _ (.tmp 25) (.tmp 37) 42 rfl (fb+1) 50 i1 (.agg #[.int .i64 0,.slice none 0 0]) 2 32 Try.underlying42 HI1 hz0 hz1 hz2 rfl (by decide) (.slice pv i cv) i NL rfl (hown6.alloc _) ⟨w6.heap.size,0,none⟩ 1 1 [.int .i64 (F x).t,.slice px (F x).c cx] rfl rfl (qr_cells w6 #[.int .i64 (F x).t,.slice px (F x).c cx] 50 [.int .i64 (F x).t,.slice px (F x).c cx] rfl) (by intro y hy;simp only [List.mem_cons,List.not_mem_nil,or_false] at hy;rcases hy with rfl | rfl <;> rfl) (by unfold maxLen;omega) (by omega) (by simp;omega) ?_
  intro v' w8 hown1 hgrow1 _
  obtain ⟨pv',cv',rfl⟩:=own_shape hown1
  obtain ⟨⟨x1,x2⟩,hFS⟩:=(show ∀ (ob:Obj) (w8:World) (vn':Value),_ from HS8) _ _ _ hown1 hgrow1
  have HFS:Hid (FS w n F a pn A2 cn fb (ords F (ext [] a) (i+1)) (i+1) vo' (.slice pv' (i+1) cv') (fun q=>if q=i then (.slice px (F x).c cx) else V q) (w8.setCell ⟨fb,4,none⟩ (.slice pv' (i+1) cv'))):=hFS
  have HLEN:Hid (lenV ((w8.setCell ⟨fb,4,none⟩ (.slice pv' (i+1) cv')).cell? ⟨fb,4,none⟩)=i+1):=(by rw [set_eq _ _ _ _ _ x1];rfl:lenV _=i+1)
  clear HS8 hown1 hgrow1 hFS hS6 hS6a hown6
  refine hK.out _ _ (fun _=>x1) ?_
  clear hK K
  try simp only [Act.put,List.setIfInBounds_toArray,List.set_cons_zero,List.set_cons_succ]
  refine AnyL.takeAt 15 (.pointer (some ⟨fb,4,none⟩)) rfl (by kernel_rfl) (by kernel_rfl) (by kernel_rfl) (by kernel_rfl) (fun _ _ _ h=>h) rfl x1 (by intro W hW;go_simp) ?_
  try simp only [Act.put,List.setIfInBounds_toArray,List.set_cons_zero,List.set_cons_succ]
  refine AnyL.oneAt 16 rfl (by kernel_rfl) rfl ?_
  intro K hK
  go_simp
  refine hK.out _ _ (fun h=>absurd rfl h) ?_
  clear hK K x1 x2
  try simp only [Act.put,List.setIfInBounds_toArray,List.set_cons_zero,List.set_cons_succ]
  refine AnyL.done (by kernel_rfl) ?_
  go_wp2_with fail
  go_roundw
  case rel=>exact ⟨i+1,_,_,_,HFS⟩
  case measure=>rw [(show _=i+1 from HLEN),(show _=i from HLW)];omega
def mkv (k:Int) (j:Nat):Value:=if j % 4=2 then .string (⟨#[109]⟩ ++ mtl (k+(j:Int)).toNat ⟨#[]⟩) else .int .i64 (k+(j:Int))
def OwV (W:World) (v:Value) (b c:Nat):Prop:=∃ p cap,v = .slice p c cap∧(0 < c→p=some ⟨b,0,none⟩∧c≤cap∧(∀ j,j < c*4→∃ u,W.cell? ⟨b,j,none⟩=some u)∧∀ j,W.frozen? ⟨b,j,none⟩=false)
def MdV (W:World) (v:Value) (b c:Nat) (k:Int):Prop:=∃ p cap,v = .slice p c cap∧(0 < c→p=some ⟨b,0,none⟩∧c≤cap∧∀ j,j < c*4→W.cell? ⟨b,j,none⟩=some (mkv k j))
theorem MdV.block {W W':World} {v:Value} {b c:Nat} {k:Int} (h:MdV W v b c k) (hb : 0 < c→W'.heap[b]? = W.heap[b]?):MdV W' v b c k:=by
 obtain ⟨p,cap,h1,h2⟩:=h
 exact ⟨p,cap,h1,fun hc=>⟨(h2 hc).1,(h2 hc).2.1,fun j hj=>(World.cell?_of_block (hb hc)).trans ((h2 hc).2.2 j hj)⟩⟩
theorem OwV.block {W W':World} {v:Value} {b c:Nat} (h:OwV W v b c) (hb : 0 < c→W'.heap[b]? = W.heap[b]?):OwV W' v b c:=by
 obtain ⟨p,cap,h1,h2⟩:=h
 refine ⟨p,cap,h1,fun hc=>⟨(h2 hc).1,(h2 hc).2.1,fun j hj=>?_,fun j=>(World.frozen?_of_block (hb hc)).trans ((h2 hc).2.2.2 j)⟩⟩
 obtain ⟨u,hu⟩:=(h2 hc).2.2.1 j hj
 exact ⟨u,(World.cell?_of_block (hb hc)).trans hu⟩
structure OwG (L H:Nat) (W:World) (v:Value) (n:Nat) (c:Nat→Nat) (g:Nat) (V:Nat→Value) (G:Nat→Nat):Prop where
 sl:∃ p cap,v = .slice p n cap∧(0 < n→p=some ⟨g,0,none⟩∧n≤cap)
 bg : 0 < n→L≤g∧g < H
 tg:∀ i,i < n→∃ u,W.cell? ⟨g,i*2,none⟩=some u
 rw:∀ i,i < n→W.cell? ⟨g,i*2+1,none⟩=some (V i)
 fz : 0 < n→∀ j,W.frozen? ⟨g,j,none⟩=false
 ow:∀ i,i < n→OwV W (V i) (G i) (c i)
 lo:∀ i,i < n→0 < c i→L≤G i∧G i < H∧G i ≠ g
 di:∀ i j,i < n→j < n→i ≠ j→0 < c i→0 < c j→G i ≠ G j
theorem OwG.block {L H:Nat} {W W':World} {v:Value} {n:Nat} {c:Nat→Nat} {g:Nat} {V:Nat→Value} {G:Nat→Nat} (h:OwG L H W v n c g V G) (hb:∀ q,L≤q→q < H→W'.heap[q]? = W.heap[q]?):OwG L H W' v n c g V G:=by
 refine ⟨h.sl,h.bg,fun i hi=>?_,fun i hi=>?_,fun hn j=>?_,fun i hi=>?_,h.lo,h.di⟩
 ·have hg:=h.bg (by omega)
  obtain ⟨u,hu⟩:=h.tg i hi
  exact ⟨u,(World.cell?_of_block (hb g hg.1 hg.2)).trans hu⟩
 ·have hg:=h.bg (by omega)
  exact (World.cell?_of_block (hb g hg.1 hg.2)).trans (h.rw i hi)
 ·have hg:=h.bg hn
  exact (World.frozen?_of_block (hb g hg.1 hg.2)).trans (h.fz hn j)
 ·exact (h.ow i hi).block (fun hc=>hb _ (h.lo i hi hc).1 (h.lo i hi hc).2.1)
structure MdG (L H:Nat) (W:World) (v:Value) (n:Nat) (c:Nat→Nat) (g:Nat) (V:Nat→Value) (G:Nat→Nat) (k:Int):Prop where
 sl:∃ p cap,v = .slice p n cap∧(0 < n→p=some ⟨g,0,none⟩∧n≤cap)
 bg : 0 < n→L≤g∧g < H
 tag:∀ i,i < n→W.cell? ⟨g,i*2,none⟩=some (.int .i64 (k+(sm (fun i=>1+4*c i) i:Int)))
 rw:∀ i,i < n→W.cell? ⟨g,i*2+1,none⟩=some (V i)
 md:∀ i,i < n→MdV W (V i) (G i) (c i) (k+(sm (fun i=>1+4*c i) i:Int)+1)
 lo:∀ i,i < n→0 < c i→L≤G i∧G i < H
theorem MdG.block {L H:Nat} {W W':World} {v:Value} {n:Nat} {c:Nat→Nat} {g:Nat} {V:Nat→Value} {G:Nat→Nat} {k:Int} (h:MdG L H W v n c g V G k) (hb:∀ q,L≤q→q < H→W'.heap[q]? = W.heap[q]?):MdG L H W' v n c g V G k:=by
 refine ⟨h.sl,h.bg,fun i hi=>?_,fun i hi=>?_,fun i hi=>?_,h.lo⟩
 ·have hg:=h.bg (by omega)
  exact (World.cell?_of_block (hb g hg.1 hg.2)).trans (h.tag i hi)
 ·have hg:=h.bg (by omega)
  exact (World.cell?_of_block (hb g hg.1 hg.2)).trans (h.rw i hi)
 ·exact (h.md i hi).block (fun hc=>hb _ (h.lo i hi hc).1 (h.lo i hi hc).2)
structure GS (L H:Nat) (W:World) (n:Nat) (c:Nat→Nat) (g:Nat) (V:Nat→Value) (G:Nat→Nat) (k:Int) (i:Nat) (wr:World):Prop where
 kq:Kq (fun q=>L≤q∧q < H) W wr
 tg:∀ j,j < n→∃ u,wr.cell? ⟨g,j*2,none⟩=some u
 rw:∀ j,j < n→wr.cell? ⟨g,j*2+1,none⟩=some (V j)
 fz:∀ j,wr.frozen? ⟨g,j,none⟩=false
 ow:∀ j,i≤j→j < n→OwV wr (V j) (G j) (c j)
 tag:∀ j,j < i→wr.cell? ⟨g,j*2,none⟩=some (.int .i64 (k+(sm (fun i=>1+4*c i) j:Int)))
 md:∀ j,j < i→MdV wr (V j) (G j) (c j) (k+(sm (fun i=>1+4*c i) j:Int)+1)
theorem GS.step {L H:Nat} {W:World} {n:Nat} {c:Nat→Nat} {g:Nat} {V:Nat→Value} {G:Nat→Nat} {k K:Int} {i:Nat} {wr w6:World} (h:GS L H W n c g V G k i wr) (hi:i < n) (hK:K=k+(sm (fun i=>1+4*c i) i:Int)) (bg:L≤g∧g < H) (lo:∀ i,i < n→0 < c i→L≤G i∧G i < H∧G i ≠ g) (di:∀ i j,i < n→j < n→i ≠ j→0 < c i→0 < c j→G i ≠ G j) (kq6:Kq (fun q=>0 < c i∧q=G i) (wr.setCell ⟨g,i*2,none⟩ (.int .i64 K)) w6) (md6:MdV w6 (V i) (G i) (c i) (K+1)):GS L H W n c g V G k (i+1) w6:=by
 have hgl:g < wr.heap.size:=lt_of_cell (h.rw i hi)
 have hys:(wr.setCell ⟨g,i*2,none⟩ (.int .i64 K)).heap.size=wr.heap.size:=World.size_setCell _ _ _
 have hg6:w6.heap[g]? = (wr.setCell ⟨g,i*2,none⟩ (.int .i64 K)).heap[g]?:=kq6.block g (by omega) (fun e=>(lo i hi e.1).2.2 e.2.symm)
 have cg:∀ j,w6.cell? ⟨g,j,none⟩=(wr.setCell ⟨g,i*2,none⟩ (.int .i64 K)).cell? ⟨g,j,none⟩:=fun j=>World.cell?_of_block hg6
 have bk:∀ j,j < n→j ≠ i→0 < c j→w6.heap[G j]? = wr.heap[G j]?:=fun j hj hne hc=>by
  have hl:G j ≠ g:=(lo j hj hc).2.2
  rcases Nat.lt_or_ge (G j) wr.heap.size with hs | hs
  ·rw [kq6.block (G j) (by omega) (fun e=>di j i hj hi hne hc e.1 e.2),Below.heap_setCell _ _ _ _ hl]
  ·exfalso
   rcases Nat.lt_or_ge j i with q | q
   ·obtain ⟨p,cap,_,h2⟩:=h.md j q
    exact absurd (lt_of_cell ((h2 hc).2.2 0 (by omega))) (by omega)
   ·obtain ⟨p,cap,_,h2⟩:=h.ow j q hj
    obtain ⟨u,hu⟩:=(h2 hc).2.2.1 0 (by omega)
    exact absurd (lt_of_cell hu) (by omega)
 obtain ⟨u0,hu0⟩:=h.tg i hi
 refine ⟨⟨kq6.os.trans h.kq.os,kq6.tape.trans h.kq.tape,kq6.output.trans h.kq.output,Nat.le_trans h.kq.size (Nat.le_trans (Nat.le_of_eq hys.symm) kq6.size),fun q hq hs=>?_⟩,fun j hj=>?_,fun j hj=>?_,fun j=>?_,fun j h1 h2=>?_,fun j hj=>?_,fun j hj=>?_⟩
 ·rw [kq6.block q (by have:=h.kq.size;omega) (fun e=>hs (e.2 ▸ ⟨(lo i hi e.1).1,(lo i hi e.1).2.1⟩)),Below.heap_setCell _ _ _ _ (show q ≠ g from fun e=>hs (e ▸ bg))]
  exact h.kq.block q hq hs
 ·rw [cg]
  by_cases e:j=i
  ·subst e;exact ⟨_,set_eq _ _ _ _ _ hu0⟩
  ·rw [set_ne _ _ _ _ _ (by omega)];exact h.tg j hj
 ·rw [cg,set_ne _ _ _ _ _ (by omega)];exact h.rw j hj
 ·rw [World.frozen?_of_block hg6,set_fz];exact h.fz j
 ·exact (h.ow j (by omega) h2).block (fun hc=>bk j h2 (by omega) hc)
 ·rw [cg]
  by_cases e:j=i
  ·subst e;rw [← hK];exact set_eq _ _ _ _ _ hu0
  ·rw [set_ne _ _ _ _ _ (by omega)];exact h.tag j (by omega)
 ·by_cases e:j=i
  ·subst e;rw [← hK];exact md6
  ·exact (h.md j (by omega)).block (fun hc=>bk j (by omega) e hc)
def RowX (b:Nat) (W:World) (v:Value) (c:Nat) (C:Nat→Gv):Prop:=RowW b W v c C∧∃ bb,b≤bb∧bb < W.heap.size∧OwV W v bb c
theorem RowX.keep {b:Nat} {W W':World} {v:Value} {c:Nat} {C:Nat→Gv} (h:RowX b W v c C) (k:Kb b W W'):RowX b W' v c C:=by
 obtain ⟨h1,bb,h2,h3,h4⟩:=h
 exact ⟨h1.keep k,bb,h2,Nat.lt_of_lt_of_le h3 k.size,h4.block (fun _=>k.block bb h2 h3)⟩
theorem RowX.mono {b d:Nat} {W:World} {v:Value} {c:Nat} {C:Nat→Gv} (h:RowX b W v c C) (hd:d≤b):RowX d W v c C:=by
 obtain ⟨h1,bb,h2,h3⟩:=h
 exact ⟨h1.mono hd,bb,Nat.le_trans hd h2,h3⟩
def RowTX (b:Nat) (W:World) (v:Value) (n:Nat) (F:Nat→Td):Prop:=RowT b W v n F∧∃ g V G,OwG b W.heap.size W v n (fun i=>(F i).c) g V G
theorem OwG.wide {L H L' H':Nat} {W:World} {v:Value} {n:Nat} {c:Nat→Nat} {g:Nat} {V:Nat→Value} {G:Nat→Nat} (h:OwG L H W v n c g V G) (hL:L'≤L) (hH:H≤H'):OwG L' H' W v n c g V G :=
 ⟨h.sl,fun hn=>⟨Nat.le_trans hL (h.bg hn).1,Nat.lt_of_lt_of_le (h.bg hn).2 hH⟩,h.tg,h.rw,h.fz,h.ow,fun i hi hc=>⟨Nat.le_trans hL (h.lo i hi hc).1,Nat.lt_of_lt_of_le (h.lo i hi hc).2.1 hH,(h.lo i hi hc).2.2⟩,h.di⟩
theorem RowTX.keep {b:Nat} {W W':World} {v:Value} {n:Nat} {F:Nat→Td} (h:RowTX b W v n F) (k:Kb b W W'):RowTX b W' v n F:=by
 obtain ⟨h1,g,V,G,h2⟩:=h
 exact ⟨h1.keep k,g,V,G,(h2.block (fun q h3 h4=>k.block q h3 h4)).wide (Nat.le_refl _) k.size⟩
theorem RowTX.mono {b d:Nat} {W:World} {v:Value} {n:Nat} {F:Nat→Td} (h:RowTX b W v n F) (hd:d≤b):RowTX d W v n F:=by
 obtain ⟨h1,g,V,G,h2⟩:=h
 exact ⟨h1.mono hd,g,V,G,h2.wide hd (Nat.le_refl _)⟩
def Tst (w1:World) (G n:Nat) (F:Nat→Td) (i:Nat) (W:World):Prop:=∃ (E:Nat→List Value) (V:Nat→Value) (Gf:Nat→Nat),Mk 2 w1 G n E i W∧(∀ j,j < i→E j = [.int .i64 (F j).t,V j]∧RowW (G+1) W (V j) (F j).c (F j).C∧OwV W (V j) (Gf j) (F j).c∧G+1≤Gf j∧Gf j < W.heap.size)∧∀ j j',j < j'→j' < i→Gf j < Gf j'
theorem Tst.step {w1:World} {G n:Nat} {F:Nat→Td} {i:Nat} {wr w6:World} {v0:Value} (h:Tst w1 G n F i wr) (hi:i < n) (k6:Kb 0 wr w6) (r0:RowX wr.heap.size w6 v0 (F i).c (F i).C):(∀ t,t < 2→∃ u,w6.cell? ⟨G,i*2+t,none⟩=some u)∧(∀ j,w6.frozen? ⟨G,j,none⟩=false)∧Tst w1 G n F (i+1) (setL w6 G (i*2) [.int .i64 (F i).t,v0]):=by
 obtain ⟨E,V,Gf,hM,hR,hO⟩:=h
 have h6:=hM.kb k6
 have hgl:=Nat.lt_of_lt_of_le hM.gl hM.size
 have kl:Kb (G+1) w6 (setL w6 G (i*2) [.int .i64 (F i).t,v0]):=⟨(setL_os _ _ _ _).1,(setL_os _ _ _ _).2,by rw [setL_size];exact Nat.le_refl _,fun k h1 _=>setL_block _ _ (by omega) _ _ _⟩
 obtain ⟨q1,bb,q2,q3,q4⟩:=(r0.mono (show G+1≤wr.heap.size by omega)).keep kl
 obtain ⟨_,bb',q2',q3',q4'⟩:=r0
 refine ⟨h6.rest i (Nat.le_refl _) hi,h6.fz,_,fun j=>if j=i then v0 else V j,fun j=>if j=i then bb' else Gf j,h6.step hi rfl,fun j hj=>?_,fun j j' h1 h2=>?_⟩
 ·by_cases e:j=i
  ·subst e
   simp only [↓reduceIte]
   exact ⟨trivial,q1,q4'.block (fun _=>kl.block bb' (by omega) q3'),by omega,by rw [setL_size];exact q3'⟩
  ·simp only [if_neg e]
   obtain ⟨p1,p2,p3,p4,p5⟩:=hR j (by omega)
   have hs:=k6.size
   exact ⟨p1,(p2.keep (k6.mono (Nat.zero_le _))).keep kl,p3.block (fun _=>(kl.block _ p4 (by omega)).trans (k6.block _ (Nat.zero_le _) p5)),p4,by rw [setL_size];omega⟩
 ·show (if j=i then bb' else Gf j) < (if j'=i then bb' else Gf j')
  rw [if_neg (by omega)]
  by_cases e:j'=i
  ·subst e
   rw [if_pos rfl]
   obtain ⟨_,_,_,_,p5⟩:=hR j h1
   omega
  ·rw [if_neg e]
   exact hO j j' h1 (by omega)
theorem Tst.row {w1:World} {G n:Nat} {F:Nat→Td} {W:World} (h:Tst w1 G n F n W):RowTX G W (.slice (some ⟨G,0,none⟩) n n) n F:=by
 obtain ⟨E,V,Gf,hM,hR,hO⟩:=h
 have hgl:=Nat.lt_of_lt_of_le hM.gl hM.size
 refine ⟨⟨_,_,rfl,fun _=>⟨⟨G,0,none⟩,rfl,Nat.le_refl _,Nat.le_refl _,fun j hj=>?_⟩⟩,G,V,Gf,⟨⟨_,_,rfl,fun _=>⟨rfl,Nat.le_refl _⟩⟩,fun _=>⟨Nat.le_refl _,hgl⟩,fun j hj=>?_,fun j hj=>?_,fun _=>hM.fz,fun j hj=>(hR j hj).2.2.1,fun j hj _=>?_,fun j j' h1 h2 hne _ _=>?_⟩⟩
 ·rw [addr0]
  have hce:=hM.ce j hj
  obtain ⟨q1,q2,_⟩:=hR j hj
  rw [q1] at hce
  exact ⟨V j,CelT.of hce,q2.mono (by omega)⟩
 ·have hce:=hM.ce j hj 0 (by omega)
  rw [(hR j hj).1] at hce
  exact ⟨_,hce⟩
 ·have hce:=hM.ce j hj 1 (by omega)
  rw [(hR j hj).1] at hce
  exact hce
 ·obtain ⟨_,_,_,p4,p5⟩:=hR j hj
  exact ⟨by omega,p5,by omega⟩
 ·rcases Nat.lt_or_gt_of_ne hne with q | q
  ·have:=hO j j' q h2;omega
  ·have:=hO j' j q h1;omega
end Go.Proofs.Ytamcnmnaadpfoaa.Fo
