import Derived.Test.YtnmeemjoodoalaaGreatDoorNEpj
import Derived.Test.YtnmeemjoodoalaaGreatDoorNChg
import Derived.Lib.SlBytesConst
import Derived.Test.YtnmeemjoodoalaaGreatDoorNEgi
import Derived.Test.YtnmeemjoodoalaaGreatDoorNEyf
set_option maxHeartbeats 16000000
namespace Go.Proofs.YtnmeemjoodoalaaGreatDoor.Fo
open Go.ChangeShapes Go.WideShapes Go.ChangeAt Go.RowKit
set_option linter.unusedVariables false
set_option maxRecDepth 100000
theorem im_enc {va : Value} {np : Nat} {F : Nat → Pd} (w : World) (hgd : Gd w) (ha : RowP 0 w va np F) (hb : Bd np F) (hps : Sok np F → ∀ p, p < np → Psh (F p)) :
    Calls Tryz.prog 8 #[.agg #[va]] w fun e w'=>∃ v R,e = .returned v ∧ Img np F R ∧ w'.ownsRow w.heap.size 5 1 v R.length (Lib.byteCells R) ∧ Kb 0 w w':=by
  have ha0:=ha
  obtain ⟨pa,ca,rfl,ha2⟩:=ha
  have hnI : (np : Int) ≤ 1048576:=by have:=hb.hnp;omega
  obtain ⟨w1,hw1⟩ : ∃ w1,w1 = w.alloc (.cells #[.slice pa np ca] 30):=⟨_,rfl⟩
  have k1 : Kb 0 w w1:=by rw [hw1];exact kb_alloc _ _ _
  have b1 : w1.heap[w.heap.size]? = some (.cells #[.slice pa np ca] 30 (0,0)):=by rw [hw1];exact alloc_new _ _ _
  have HSH : Hid (Calls Tryz.prog 23 #[.agg #[.slice pa np ca]] w1 fun e w'=>∃ c f n : Nat,e = .returned (.agg #[.int .i64 (c : Int),.int .i64 (f : Int),.int .i64 (n : Int)]) ∧ Ans 7 np F c f n ∧ Kb 0 w1 w'):=im_shape w1 (hgd.keep k1) (ha0.keep k1) hb
  have HR : Hid (RowP 0 w (.slice pa np ca) np F ∧ Kb 0 w w1 ∧ w1.heap[w.heap.size]? = some (.cells #[.slice pa np ca] 30 (0,0)) ∧ (Sok np F → ∀ p,p < np → Psh (F p))):=(⟨ha0,k1,b1,hps⟩ : _ ∧ _)
  have HW1 : Hid (w1 = w.alloc (.cells #[.slice pa np ca] 30)):=hw1
  clear ha2 hb k1 b1 hw1 hgd hps ha0
  go_enter Tryz.func8,Tryz.ntmps8
  go_wp2_with fail
  rw [← (show w1 = _ from HW1)]
  clear HW1
  refine (show Calls Tryz.prog 23 #[.agg #[.slice pa np ca]] w1 (fun e w'=>∃ c f n : Nat,e = .returned (.agg #[.int .i64 (c : Int),.int .i64 (f : Int),.int .i64 (n : Int)]) ∧ Ans 7 np F c f n ∧ Kb 0 w1 w') from HSH).mono ?_
  rintro e w2 ⟨c,f,n,rfl,hans,k2⟩
  clear HSH
  obtain ⟨ha2,k1,b1,hps⟩:=(show _ ∧ _ ∧ _ ∧ _ from HR)
  clear HR
  have k3 : Kb 0 w w2:=k1.trans k2
  have b2 : w2.heap[w.heap.size]? = some (.cells #[.slice pa np ca] 30 (0,0)):=(k2.block _ (Nat.zero_le _) (Array.getElem?_eq_some_iff.1 b1).1).trans b1
  by_cases c0 : c = 0
  case neg =>
    have HL : Hid (Img np F [] ∧ Kb 0 w w2):=(⟨⟨c,f,n,hans,by rw [if_neg (fun h=>c0 h.1)]⟩,k3⟩ : _ ∧ _)
    have hc : ((c : Int) == 0) = false:=beq_eq_false_iff_ne.2 (by omega)
    clear k1 k2 b1 ha2 hans c0 k3 b2 hps
    go_wp2_with fail
    go_ret
    have hh : ∃ v R,Ending.returned (.slice none 0 0) = Ending.returned v ∧ Img np F R ∧ w2.ownsRow w.heap.size 5 1 v R.length (Lib.byteCells R) ∧ Kb 0 w w2:=⟨_,[],rfl,HL.1,World.ownsRow_nil _ _ _ _,HL.2⟩
    first | exact hh | simpa using hh
  subst c0
  obtain ⟨rfl,rfl⟩ : f = 0 ∧ n = 0:=by
    rcases hans with ⟨h1,_⟩ | ⟨_,h1,_⟩ | ⟨_,_,h2,h3,_⟩
    · omega
    · omega
    · exact ⟨h2,h3⟩
  have hok:=sok_of hans
  obtain ⟨w3,hw3⟩ : ∃ w3,w3 = w2.alloc (.cells #[.slice none 0 0,.int .i64 1000000,.bool false] 57):=⟨_,rfl⟩
  obtain ⟨w4,hw4⟩ : ∃ w4,w4 = w3.alloc (.cells #[.int .u8 72,.int .u8 67,.int .u8 1] 5 (3,4)):=⟨_,rfl⟩
  have b3 : w3.heap[w2.heap.size]? = some (.cells #[.slice none 0 0,.int .i64 1000000,.bool false] 57 (0,0)):=by rw [hw3];exact alloc_new _ _ _
  have b4 : w4.heap[w3.heap.size]? = some (.cells #[.int .u8 72,.int .u8 67,.int .u8 1] 5 (3,4)):=by
    rw [hw4]
    show (w3.heap.push _)[w3.heap.size]? = _
    simp
  have k23 : Kb 0 w2 w3:=by rw [hw3];exact kb_alloc _ _ _
  have k34 : Kb 0 w3 w4:=by rw [hw4];exact kb_alloc _ _ _
  have hlt3:=(Array.getElem?_eq_some_iff.1 b3).1
  have hws : WS w2 [] w4:=⟨k23.trans k34,_,_,_,(k34.block _ (Nat.zero_le _) hlt3).trans b3,.inl ⟨by simp,rfl,rfl,World.ownsRow_nil _ _ _ _⟩⟩
  have HP:=im_put (c:=3) (ad:=⟨w3.heap.size,0,none⟩) [72,67,1] hws (by show w3.heap.size ≠ _;omega) (fun j u hu=>World.news_of_block b4 j u hu) (by decide)
  have hcv:=Lib.run_convert_bytes_const (P:=Tryz.prog) w3 26 5 #[.int .u8 72,.int .u8 67,.int .u8 1] 3 3 Tryz.underlying26 Tryz.underlying5
  have hcv2 : (convert 26 26 (.slice (some ⟨w3.heap.size,0,none⟩) 3 3)).run Tryz.prog (w3.alloc (.cells #[.int .u8 72,.int .u8 67,.int .u8 1] 5)) = .ok (.slice (some ⟨w3.heap.size,0,none⟩) 3 3) w4:=by rw [hw4];exact hcv
  have hbx : w.heap.size ≠ w2.heap.size:=by have:=(Array.getElem?_eq_some_iff.1 b2).1;omega
  have HBX : Hid (∀ W',Lib.OthersKept 5 (some w2.heap.size) w4 W' → W'.heap[w.heap.size]? = some (.cells #[.slice pa np ca] 30 (0,0))):=(fun W' k=>ok_cells k (((k23.trans k34).block _ (Nat.zero_le _) (Array.getElem?_eq_some_iff.1 b2).1).trans b2) (by simpa using hbx) (by decide) : ∀ W',_)
  have HXX : Hid (RowP 0 w2 (.slice pa np ca) np F ∧ (∀ p,p < np → Psh (F p)) ∧ (∀ R,R = (if (eb F np).length ≤ 1000000 then eb F np else []) → Img np F R) ∧ Kb 0 w w2 ∧ np ≤ 200):=(⟨ha2.keep k3,hps hok,fun R hR=>⟨0,0,0,hans,by rw [hR];simp⟩,k3,hok.sz.2.1⟩ : _ ∧ _)
  have HW3 : Hid (w3 = w2.alloc (.cells #[.slice none 0 0,.int .i64 1000000,.bool false] 57)):=hw3
  clear k1 k2 b1 ha2 hans k3 b2 hps hok b3 b4 k23 k34 hws hw4 hw3 hbx hcv hlt3
  go_upto_region 4 with fail
  rw [← (show w3 = _ from HW3)]
  clear HW3
  go_wp2_with fail
  refine HP.mono ?_
  rintro e w5 ⟨rfl,y1,y2⟩
  have c5 : w5.cell? ⟨w.heap.size,0,none⟩ = some (.slice pa np ca):=cell_of ((show ∀ W',Lib.OthersKept 5 (some w2.heap.size) w4 W' → _ from HBX) w5 y2) rfl
  have HC:=wl_pros (X:=F) (show _ ∧ _ from (show _ ∧ _ from HXX).2).1 (by have:=(show _ ∧ _ ∧ _ ∧ _ ∧ _ from HXX).2.2.2.2;omega) (show _ ∧ _ from HXX).1 y1
  clear HP y1 y2 HBX hcv2
  go_wp2_with fail
  refine HC.mono ?_
  rintro e w6 ⟨rfl,y1,y2⟩
  obtain ⟨-,-,hImg,k02,-⟩:=(show _ ∧ _ ∧ _ ∧ _ ∧ _ from HXX)
  have e6 : ([] ++ [72,67,1]) ++ lb (fun i=>pb (F i)) np = eb F np:=rfl
  rw [e6] at y1
  obtain ⟨kk,im,lf,lo,hbk,hcs⟩:=y1
  have cc0 : w6.cell? ⟨w2.heap.size,0,none⟩ = some im:=cell_of hbk rfl
  have cc2 : w6.cell? ⟨w2.heap.size,2,none⟩ = some (.bool lo):=cell_of hbk rfl
  cases lo with
  | true =>
    have HN : Hid (Img np F [] ∧ Kb 0 w w6):=by
      rcases hcs with ⟨_,h,_⟩ | ⟨h,_⟩
      · cases h
      · exact (⟨hImg [] (by rw [if_neg (by omega)]),k02.trans kk⟩ : _ ∧ _)
    clear HC HXX hImg k02 kk hbk hcs y2 c5
    go_wp2_with fail
    go_ret
    have hh : ∃ v R,Ending.returned (.slice none 0 0) = Ending.returned v ∧ Img np F R ∧ w6.ownsRow w.heap.size 5 1 v R.length (Lib.byteCells R) ∧ Kb 0 w w6:=⟨_,[],rfl,HN.1,World.ownsRow_nil _ _ _ _,HN.2⟩
    first | exact hh | simpa using hh
  | false =>
    have HN : Hid (Img np F (eb F np) ∧ w6.ownsRow w.heap.size 5 1 im (eb F np).length (Lib.byteCells (eb F np)) ∧ Kb 0 w w6):=by
      rcases hcs with ⟨h1,_,_,h4⟩ | ⟨_,h,_⟩
      · refine (show _ ∧ _ ∧ _ from ⟨hImg _ (by rw [if_pos h1]),?_,k02.trans kk⟩)
        exact ⟨h4.1,h4.2.elim Or.inl (fun ⟨g,cap,cur,hv,hg,r⟩=>Or.inr ⟨g,cap,cur,hv,by have:=k02.size;omega,r⟩)⟩
      · cases h
    obtain ⟨pv,cv,hv⟩:=own_slice (show _ ∧ _ ∧ _ from HN).2.1
    subst hv
    obtain ⟨nv,hnv⟩ : ∃ nv,nv = (eb F np).length:=⟨_,rfl⟩
    rw [← hnv] at HN cc0
    have HNV : Hid (nv = (eb F np).length):=hnv
    clear HC HXX hImg k02 kk hbk hcs y2 c5 hnv
    go_wp2_with fail
    go_ret
    have hh : ∃ v R,Ending.returned (.slice pv nv cv) = Ending.returned v ∧ Img np F R ∧ w6.ownsRow w.heap.size 5 1 v R.length (Lib.byteCells R) ∧ Kb 0 w w6:=⟨_,eb F np,rfl,(show _ ∧ _ ∧ _ from HN).1,by rw [← (show nv = _ from HNV)];exact (show _ ∧ _ ∧ _ from HN).2.1,(show _ ∧ _ ∧ _ from HN).2.2⟩
    first | exact hh | simpa using hh
theorem sm_sum (f : Nat → Nat) : ∀ n,sm f n = ((List.range n).map f).sum
  | 0=>rfl
  | n + 1=>by
    show sm f n + f n = _
    rw [sm_sum f n,List.range_succ,List.map_append,List.sum_append]
    simp
theorem smN_sum (L : List PV) : smN L = (L.map (fun z=>z.1.N.length)).sum:=by
  induction L with
  | nil=>rfl
  | cons z L ih=>simp [smN,ih]
theorem sm_smN (L : List PV) : sm (fun i=>(QF (L.map (·.1)) i).n) L.length = smN L:=by
  rw [sm_sum,smN_sum]
  have e : (fun i=>(QF (L.map (·.1)) i).n) = (fun q : Rp=>q.N.length) ∘ (fun i=>(L.map (·.1)).getD i default):=rfl
  have e2 : (List.range L.length).map (fun i=>(L.map (·.1)).getD i default) = L.map (·.1):=by
    have:=range_getD (L.map (·.1)) (default : Rp)
    rw [List.length_map] at this
    exact this
  rw [e,← List.map_map,e2,List.map_map]
  rfl
theorem bdq_of {L : List PV} (ht : ∀ z,z ∈ L → Rt z.1) (h1 : L.length ≤ 1000000) (h2 : smN L ≤ 1000000) : Bd L.length (QF (L.map (·.1))):=by
  have hR : ∀ p,p < L.length → ∃ q,Rt q ∧ QF (L.map (·.1)) p = qd q:=fun p hp=>⟨_,ht _ (List.getElem_mem hp),by rw [qf_at (by rw [List.length_map];exact hp)];simp⟩
  refine ⟨by omega,by rw [sm_smN];omega,?_,?_,?_,?_,?_,?_⟩
  all_goals
    intro p hp
    obtain ⟨q,t,e⟩:=hR p hp
    rw [e]
  · have:=t.u;show q.U.length ≤ _;omega
  · have:=t.c;show q.C.length ≤ _;omega
  · have:=t.n;show q.N.length ≤ _;omega
  · have:=t.d;show q.D.length ≤ _;omega
  · exact t.g.1
  · intro i hi
    obtain ⟨_,_,g3,_,g5⟩:=t.C _ (getD_mem (d:=default) hi)
    exact ⟨by show ((q.C.getD i default).x.size : Int) ≤ _;omega,g3⟩
theorem psh_q {L : List PV} (ht : ∀ z,z ∈ L → Rt z.1) (hb : Bd L.length (QF (L.map (·.1)))) : Sok L.length (QF (L.map (·.1))) → ∀ p,p < L.length → Psh (QF (L.map (·.1)) p):=fun h=>psh_of hb (fun i hi=>by
  have e : QF (L.map (·.1)) i = qd L[i].1:=by rw [qf_at (by rw [List.length_map];exact hi)];simp
  rw [e]
  exact rdp_of (ht _ (List.getElem_mem hi))) h
theorem img_of {M : List UInt8} {L : List Rp} (h : PMi M L) : Img L.length (QF L) M:=by
  obtain ⟨⟨f,n,ha⟩,h2,h3⟩:=h
  refine ⟨0,f,n,ha,?_⟩
  rw [eb_qf,h2,if_pos ⟨rfl,h3⟩]
theorem pm_of {M : List UInt8} {L : List Rp} (h : Img L.length (QF L) M) (h0 : M ≠ []) (h3 : M.length ≤ 1000000) : PMi M L:=by
  obtain ⟨c,f,n,ha,hr⟩:=h
  by_cases hc : c = 0 ∧ (eb (QF L) L.length).length ≤ 1000000
  · rw [if_pos hc] at hr
    obtain ⟨rfl,_⟩:=hc
    exact ⟨⟨f,n,ha⟩,by rw [hr,eb_qf],h3⟩
  · rw [if_neg hc] at hr
    exact (h0 hr).elim
theorem pm_read {M : List UInt8} {L L' : List Rp} {k' : Nat} {l' : Bool} (hx : LX pe Rok M 3 false 200 L k' l') (ht : ∀ q,q ∈ L' → Rt q) (h : PMi M L') : L = L' ∧ l' = false:=by
  obtain ⟨⟨f,n,ha⟩,h2,h3⟩:=h
  obtain ⟨r1,r2⟩:=rok_of ht ha
  have e : M.drop 3 = ls pe L' ++ []:=by rw [← h2,List.append_nil];rfl
  obtain ⟨q1,q2,q3⟩:=hx L' [] rfl r1 r2 e
  exact ⟨q1,q3⟩
theorem pm_three {M : List UInt8} {L : List Rp} (h : PMi M L) : 3 ≤ M.length:=by
  obtain ⟨_,h2,_⟩:=h
  rw [← h2]
  simp
theorem decr_yes {M : List UInt8} {L : List Rp} {k' : Nat} {l' : Bool} (hx : LX pe Rok M 3 false 200 L k' l') (ht : ∀ q,q ∈ L → Rt q) (hi : Img L.length (QF L) M) (h0 : M ≠ []) (h3 : M.length ≤ 1000000) : DecR M L :=
  ⟨.inr ⟨pm_of hi h0 h3,ht⟩,fun L' h1 h2=>(pm_read hx h1 h2).1.symm⟩
theorem decr_no {M : List UInt8} (h : ∀ L',(∀ q,q ∈ L' → Rt q) → PMi M L' → False) : DecR M [] :=
  ⟨.inl rfl,fun L' h1 h2=>(h L' h1 h2).elim⟩
structure Arg (p : Option Addr) (c : Nat) (M : List UInt8) (W : World) : Prop where
  cap : M.length ≤ c
  row : 0 < M.length → ∃ a,p = some a ∧ ∀ i (x : UInt8),M[i]? = some x → W.cell? (a.add i) = some (.int .u8 (x.toNat : Int))
theorem Arg.keep {p : Option Addr} {c : Nat} {M : List UInt8} {W w' : World} (h : Arg p c M W) (k : Kb 0 W w') : Arg p c M w':=⟨h.cap,fun hm=>by
  obtain ⟨a,h1,h2⟩:=h.row hm
  exact ⟨a,h1,fun i x hx=>k.cell (h2 i x hx)⟩⟩
theorem Arg.conv {p : Option Addr} {c : Nat} {M : List UInt8} {W : World} (h : Arg p c M W) : (convert 26 9 (.slice p M.length c)).run Tryz.prog W = .ok (.string ⟨M.toArray⟩) W:=by
  rcases Nat.eq_zero_or_pos M.length with h0 | h0
  · have e : M = []:=List.eq_nil_of_length_eq_zero h0
    subst e
    exact conv_zero p c W
  · obtain ⟨a,rfl,h2⟩:=h.row h0
    exact run_convert_bytes_back W 26 9 5 a c M Tryz.underlying26 Tryz.underlying5 Tryz.underlying9 (P:=Tryz.prog) (fun j hj=>h2 j _ (List.getElem?_eq_getElem hj))
theorem own_conv {lo : Nat} {v : Value} {R : List UInt8} {w : World} (h : w.ownsRow lo 5 1 v R.length (Lib.byteCells R)) : (convert 26 9 v).run Tryz.prog w = .ok (.string ⟨R.toArray⟩) w:=by
  obtain ⟨pa,cap,rfl⟩:=own_shape h
  by_cases h0 : R = []
  · subst h0
    exact conv_zero pa cap w
  · obtain ⟨g,cap',e,_,_⟩:=World.ownsRow.form h (by cases R with | nil=>exact (h0 rfl).elim | cons a b=>simp)
    obtain ⟨rfl,_,rfl⟩:=(Value.slice.injEq _ _ _ _ _ _).mp e
    refine run_convert_bytes_back w 26 9 5 _ cap R Tryz.underlying26 Tryz.underlying5 Tryz.underlying9 (fun j hj=>?_)
    exact h.cells (g:=g) rfl j (.int .u8 (R[j].toNat : Int)) (by simp [Lib.byteCells,hj])
theorem im_equal {a b : Option Addr} {n m c d : Nat} {A B : ByteArray} {w : World} (ha : (convert 26 9 (.slice a n c)).run Tryz.prog w = .ok (.string A) w) (hb : (convert 26 9 (.slice b m d)).run Tryz.prog w = .ok (.string B) w) :
    Calls Tryz.prog 34 #[.slice a n c,.slice b m d] w fun e w'=>e = .returned (.bool (decide (A = B))) ∧ w' = w:=by
  by_cases h : A = B
  · subst h
    rw [decide_eq_true rfl]
    go_enter Tryz.func34,Tryz.ntmps34
    go_wp2_with fail
    go_ret
    exact ⟨by simp,rfl⟩
  · rw [decide_eq_false h]
    have h2 : ¬ A.toList = B.toList:=fun e=>h (by
      rw [Lib.toList_data,Lib.toList_data] at e
      obtain ⟨⟨l⟩⟩:=A
      obtain ⟨⟨m⟩⟩:=B
      simp at e
      rw [e])
    clear h
    go_enter Tryz.func34,Tryz.ntmps34
    go_wp2_with fail
    go_ret
    exact ⟨by simp [h2],rfl⟩
theorem Kx.kb {b : Nat} {W w1 w2 : World} (h : Kb 0 W w1) (z : Kx b w1 w2) (hb : W.heap.size ≤ b) : Kb 0 W w2 :=
  ⟨z.os.trans h.os,z.output.trans h.output,Nat.le_trans h.size z.size,fun k _ hk=>(z.block k (Nat.lt_of_lt_of_le hk h.size) (by omega)).trans (h.block k (Nat.zero_le _) hk)⟩
def DecA (M : List UInt8) (W : World) (e : Ending) (w' : World) : Prop:=∃ v L,e = .returned (.agg #[v]) ∧ w'.ownsRow W.heap.size 50 9 v L.length (L.flatMap pvc) ∧ OwnL W.heap.size w' L v.ownBlock ∧ (∀ z,z ∈ L → Rt z.1) ∧ DecR M (L.map (·.1)) ∧ Kb 0 W w'
theorem ownl_nil (B : Nat) (w : World) (ob : Option Nat) : OwnL B w [] ob:=⟨fun _=>0,fun _=>0,fun i z hz=>by simp at hz,fun i j _ hj=>by simp at hj,fun g i _ hj=>by simp at hj⟩
theorem deca_nil {M : List UInt8} {W w' : World} (h : DecR M []) (k : Kb 0 W w') : DecA M W (.returned (.agg #[.slice none 0 0])) w' :=
  ⟨_,[],rfl,World.ownsRow_nil _ _ _ _,ownl_nil _ _ _,fun z hz=>(nomatch hz),h,k⟩
theorem OwnL.mono {B B' : Nat} {w w' : World} {L : List PV} {ob : Option Nat} (h : OwnL B w L ob) (hB : B' ≤ B) (hs : w.heap.size ≤ w'.heap.size) (k : ∀ g,B ≤ g → g < w.heap.size → w'.heap[g]? = w.heap[g]?) : OwnL B' w' L ob:=by
  obtain ⟨lo,hi,h1,h2,h3⟩:=h
  refine ⟨lo,hi,fun i z hz=>?_,h2,h3⟩
  obtain ⟨q1,q2,q3⟩:=h1 i z hz
  exact ⟨by omega,by omega,q3.blk (fun g a c=>k g (by omega) (by omega))⟩
theorem im_dec {p : Option Addr} {c : Nat} {M : List UInt8} {W : World} (hgd : Gd W) (ha : Arg p c M W) (hM : M.length ≤ 1048576) :
    Calls Tryz.prog 16 #[.slice p M.length c] W (DecA M W):=by
  have hMI : (M.length : Int) ≤ 1048576:=by omega
  by_cases hlong : 1000000 < M.length
  · have hl : (1000000 : Int) < (M.length : Int):=by omega
    have HD : Hid (∀ w',Kb 0 W w' → DecA M W (.returned (.agg #[.slice none 0 0])) w'):=(fun w' k=>deca_nil (decr_no (fun L' _ h=>by have:=h.2.2;omega)) k : ∀ w',_)
    have bg : (W.alloc (.cells #[.slice none 0 0] 30)).heap[W.heap.size]? = some (.cells #[.slice none 0 0] 30 (0,0)):=alloc_new _ _ _
    have d0 : (W.alloc (.cells #[.slice none 0 0] 30)).cell? ⟨W.heap.size,0,none⟩ = some (.slice none 0 0):=cell_of bg rfl
    have df : (W.alloc (.cells #[.slice none 0 0] 30)).frozen? ⟨W.heap.size,0,none⟩ = false:=frozen_of bg
    clear hgd ha hM hlong bg
    go_enter Tryz.func16,Tryz.ntmps16
    go_wp2_with fail
    refine bodyPost_ret (by simp [results,Tryz.results16,go_sem,d0];rfl) rfl ?_
    exact (show ∀ w',Kb 0 W w' → DecA M W (.returned (.agg #[.slice none 0 0])) w' from HD) _ (kb_alloc 0 W _)
  · have hl : ¬ (1000000 : Int) < (M.length : Int):=by omega
    obtain ⟨b,hb⟩ : ∃ b,b = W.heap.size + 1:=⟨_,rfl⟩
    obtain ⟨w2,hw2⟩ : ∃ w2,w2 = (W.alloc (.cells #[.slice none 0 0] 30)).alloc (.cells #[.slice p M.length c,.int .i64 (M.length : Int),.bool false] 69):=⟨_,rfl⟩
    obtain ⟨b1,b2,hz2,k2⟩:=two_newE W #[.slice none 0 0] #[.slice p M.length c,.int .i64 (M.length : Int),.bool false] 30 69 w2 hw2
    rw [← hb] at b2
    have r2 : RI b p c M 0 false w2:=by
      refine ⟨by rw [b2];simp,Nat.zero_le _,by omega,ha.cap,fun hm=>?_⟩
      obtain ⟨a,e1,e2⟩:=ha.row hm
      have hlt : a.block < W.heap.size:=by have:=lt_of_cell' (e2 0 _ (List.getElem?_eq_getElem hm));rw [add_block] at this;exact this
      exact ⟨a,e1,by omega,fun i x hx=>k2.cell (e2 i x hx)⟩
    have HT : Calls Tryz.prog 31 #[.pointer (some ⟨b,0,none⟩),.int .i64 3] w2 fun e w'=>∃ v k1 l1,e = .returned v ∧ RI b p c M k1 l1 w' ∧ Kz b w2 w' ∧ (l1 = false → k1 = 3) ∧ (3 ≤ M.length → l1 = false):=by
      by_cases h3 : 3 ≤ M.length
      · refine (im_take_fits 3 r2 (by omega)).mono ?_
        rintro e w' ⟨⟨q,rfl,_⟩,y1,y2⟩
        exact ⟨_,3,false,rfl,y1,y2,fun _=>rfl,fun _=>rfl⟩
      · refine (im_take_not 3 r2 (.inr (.inr (by omega)))).mono ?_
        rintro e w' ⟨rfl,y1,y2⟩
        exact ⟨_,0,true,rfl,y1,y2,fun e=>(nomatch e),fun e=>(h3 e).elim⟩
    have HW : Hid (w2 = (W.alloc (.cells #[.slice none 0 0] 30)).alloc (.cells #[.slice p M.length c,.int .i64 (M.length : Int),.bool false] 69) ∧ b = W.heap.size + 1):=(⟨hw2,hb⟩ : _ ∧ _)
    have HA : Hid (Gd W ∧ Arg p c M W):=(⟨hgd,ha⟩ : _ ∧ _)
    have HK : Hid (Kb 0 W w2 ∧ w2.heap.size = W.heap.size + 2 ∧ w2.heap[W.heap.size]? = some (.cells #[.slice none 0 0] 30 (0,0)) ∧ b = W.heap.size + 1):=(⟨k2,hz2,b1,hb⟩ : _ ∧ _)
    have hM1 : M.length ≤ 1000000:=by omega
    clear hgd ha hM hlong b1 b2 hz2 k2 r2 hw2 hb
    go_enter Tryz.func16,Tryz.ntmps16
    go_upto_region 4 with fail
    rw [← (show _ ∧ _ from HW).1,← (show _ ∧ _ from HW).2]
    clear HW
    go_upto_region 5 with (go_at_call 31;refine HT.mono ?_;rintro e w3 ⟨v3,k1,l1,rfl,t1,t2,t3,t4⟩)
    have HL:=rl_proto t1 200 (by omega)
    clear HT
    go_upto_region 6 with (go_at_call 32;refine HL.mono ?_;rintro e w4 ⟨v,k',l',L,rfl,u1,u2,u3,u4,u5,u6,u7,u8,u9,u10⟩;obtain ⟨ad,cap,rfl⟩:=own_shape u4)
    obtain ⟨h,hh⟩ : ∃ h,h = w4.heap.size:=⟨_,rfl⟩
    obtain ⟨w5,hw5⟩ : ∃ w5,w5 = w4.alloc (.cells #[.slice ad L.length cap] 30):=⟨_,rfl⟩
    obtain ⟨k2,hz2,b1,hb⟩:=(show _ ∧ _ ∧ _ ∧ _ from HK)
    have hz3 : w3.heap.size = W.heap.size + 2:=t2.size.trans hz2
    have hz4:=u3.size
    have k45 : Kb 0 w4 w5:=by rw [hw5];exact kb_alloc 0 w4 _
    have hz5:=k45.size
    have zz : Kx b w2 w5:=(t2.ks.trans u3).trans (Kx.of_kb k45)
    have kW5 : Kb 0 W w5:=Kx.kb k2 zz (by omega)
    have bg : w5.heap[W.heap.size]? = some (.cells #[.slice none 0 0] 30 (0,0)):=(zz.block _ (by omega) (by omega)).trans b1
    have bh : w5.heap[h]? = some (.cells #[.slice ad L.length cap] 30 (0,0)):=by rw [hw5,hh];exact alloc_new _ _ _
    have cl : w5.cell? ⟨b,2,none⟩ = some (.bool l'):=cell_of (u1.kb k45).blk rfl
    have ch : w5.cell? ⟨h,0,none⟩ = some (.slice ad L.length cap):=cell_of bh rfl
    have row5 : w5.ownsRow w3.heap.size 50 9 (.slice ad L.length cap) L.length (L.flatMap pvc):=rowBlk' u4 (fun g e=>k45.block g (Nat.zero_le _) (u4.lt g e).2)
    have own5 : OwnL w3.heap.size w5 L (Value.slice ad L.length cap).ownBlock:=u5.mono (Nat.le_refl _) k45.size (fun g _ hg=>k45.block g (Nat.zero_le _) hg)
    have hrd : PMi M [] ∨ True:=.inr trivial
    have HNO : Hid (l' = true → DecR M []):=(fun e=>decr_no (fun L' r1 r2=>by
      have h3:=t4 (pm_three r2)
      have h4:=t3 h3
      rw [h3,h4] at u10
      have:=(pm_read u10 r1 r2).2
      rw [e] at this
      cases this) : l' = true → DecR M [])
    rw [← hw5,← hh]
    have HW5 : Hid (w5 = w4.alloc (.cells #[.slice ad L.length cap] 30) ∧ h = w4.heap.size):=(⟨hw5,hh⟩ : _ ∧ _)
    cases l' with
    | true =>
      have HD : Hid (∀ w',Kb 0 W w' → DecA M W (.returned (.agg #[.slice none 0 0])) w'):=(fun w' k=>deca_nil ((show true = true → DecR M [] from HNO) rfl) k : ∀ w',_)
      have HKW : Hid (Kb 0 W w5):=kW5
      have d0 : w5.cell? ⟨W.heap.size,0,none⟩ = some (.slice none 0 0):=cell_of bg rfl
      have df : w5.frozen? ⟨W.heap.size,0,none⟩ = false:=frozen_of bg
      clear hb hz2 hz3 hz4 hz5 hrd hw5 hh k2 b1 t1 t2 t3 t4 u1 u2 u3 u4 u5 u6 u7 u8 u9 u10 k45 zz kW5 bg bh row5 own5 HL
      go_wp2_with fail
      refine bodyPost_ret (by simp [results,Tryz.results16,go_sem,d0];rfl) rfl ?_
      exact (show ∀ w',Kb 0 W w' → DecA M W (.returned (.agg #[.slice none 0 0])) w' from HD) _ (Kx.kb (b:=W.heap.size) (show Kb 0 W _ from HKW) ((Kz.refl W.heap.size _).set 0 _).ks (Nat.le_refl _))
    | false =>
      have hl1 : l1 = false:=by
        by_cases e : l1 = true
        · have:=u8 e
          cases this
        · simpa using e
      have hk1:=t3 hl1
      rw [hl1,hk1] at u10
      have hsm:=u9 rfl
      have hle:=u1.le
      have hbd:=bdq_of u6 (by omega) (by omega)
      have HE:=im_enc w5 ((show _ ∧ _ from HA).1.keep kW5) (rowP_of row5 own5.r4) hbd (psh_q u6 hbd)
      have h3 : 3 ≤ M.length:=by omega
      have HX : Hid (LX pe Rok M 3 false 200 (L.map (·.1)) k' false ∧ (∀ z,z ∈ L → Rt z.1) ∧ w5.ownsRow w3.heap.size 50 9 (.slice ad L.length cap) L.length (L.flatMap pvc) ∧ OwnL w3.heap.size w5 L (Value.slice ad L.length cap).ownBlock ∧ Kb 0 W w5 ∧ w3.heap.size = W.heap.size + 2 ∧ w5.heap[W.heap.size]? = some (.cells #[.slice none 0 0] 30 (0,0)) ∧ W.heap.size < w5.heap.size ∧ 3 ≤ M.length):=(⟨u10,u6,row5,own5,kW5,hz3,bg,by omega,h3⟩ : _ ∧ _)
      clear hb hz2 hz3 hz4 hz5 hrd hw5 hh k2 b1 t1 t2 t3 t4 u1 u2 u3 u4 u5 u6 u7 u8 u9 u10 k45 zz kW5 bg row5 own5 HL hsm hle hbd hl1 hk1 h3
      have bh5 : Hid (w5.heap[h]? = some (.cells #[.slice ad L.length cap] 30 (0,0))):=bh
      clear bh
      go_wp2_with fail
      refine HE.mono ?_
      rintro e w6 ⟨v6,R,rfl,i1,i2,i3⟩
      obtain ⟨a6,c6,rfl⟩:=own_shape i2
      obtain ⟨x1,x2,x3,x4,x5,x6,x7,x8,x9⟩:=(show _ ∧ _ ∧ _ ∧ _ ∧ _ ∧ _ ∧ _ ∧ _ ∧ _ from HX)
      have HQ:=im_equal (own_conv i2) (((show _ ∧ _ from HA).2.keep x5).keep i3).conv
      have ch6 : w6.cell? ⟨h,0,none⟩ = some (.slice ad L.length cap):=i3.cell ch
      have bg6 : w6.heap[W.heap.size]? = some (.cells #[.slice none 0 0] 30 (0,0)):=(i3.block _ (Nat.zero_le _) x8).trans x7
      have d0 : w6.cell? ⟨W.heap.size,0,none⟩ = some (.slice none 0 0):=cell_of bg6 rfl
      have df : w6.frozen? ⟨W.heap.size,0,none⟩ = false:=frozen_of bg6
      by_cases hRM : R = M
      · subst hRM
        have HD : Hid (∀ v,DecA R W (.returned (.agg #[.slice ad L.length cap])) (w6.setCell ⟨W.heap.size,0,none⟩ v)):=(fun v=>by
          have zk : Kz W.heap.size w6 (w6.setCell ⟨W.heap.size,0,none⟩ v):=(Kz.refl _ w6).set 0 v
          have q5:=i3.size
          have kk : ∀ g,w3.heap.size ≤ g → g < w5.heap.size → (w6.setCell ⟨W.heap.size,0,none⟩ v).heap[g]? = w5.heap[g]?:=fun g h1 h2=>(zk.block g (by omega)).trans (i3.block g (Nat.zero_le _) h2)
          refine ⟨_,L,rfl,ownsRow_mono2 (rowBlk' x3 (fun g e=>kk g (x3.lt g e).1 (x3.lt g e).2)) (by omega),x4.mono (by omega) (by rw [zk.size];exact q5) kk,x2,decr_yes x1 (fun q hq=>?_) (by rw [List.length_map];exact i1) (fun e=>by rw [e] at x9;simp at x9) hM1,Kx.kb (b:=W.heap.size) (x5.trans i3) zk.ks (Nat.le_refl _)⟩
          obtain ⟨z,hz,rfl⟩:=List.mem_map.1 hq
          exact x2 z hz : ∀ v,_)
        rw [decide_eq_true rfl] at HQ
        clear x1 x2 x3 x4 x5 x6 x7 x8 x9 i1 i2 i3 bg6 HX HA HE HK HNO bh5 HW5
        go_wp2_with fail
        refine HQ.mono ?_
        rintro e w7 ⟨rfl,rfl⟩
        go_wp2_with fail
        refine bodyPost_ret (by simp [results,Tryz.results16,go_sem,d0];rfl) rfl ?_
        exact (show ∀ v,_ from HD) _
      · have hne : ¬ (⟨R.toArray⟩ : ByteArray) = ⟨M.toArray⟩:=fun e=>hRM (by injection e with e;simpa using e)
        have HD : Hid (∀ w',Kb 0 W w' → DecA M W (.returned (.agg #[.slice none 0 0])) w'):=(fun w' k=>deca_nil (decr_no (fun L' r1 r2=>by
          obtain ⟨q1,_⟩:=pm_read x1 r1 r2
          subst q1
          have h4:=img_of r2
          rw [List.length_map] at h4
          exact hRM (i1.uniq h4))) k : ∀ w',_)
        have HKW : Hid (Kb 0 W w6):=(x5.trans i3 : Kb 0 W w6)
        rw [decide_eq_false hne] at HQ
        clear x1 x2 x3 x4 x5 x6 x7 x8 x9 i1 i2 i3 bg6 HX HA HE HK HNO bh5 HW5 hne
        go_wp2_with fail
        refine HQ.mono ?_
        rintro e w7 ⟨rfl,rfl⟩
        go_wp2_with fail
        refine bodyPost_ret (by simp [results,Tryz.results16,go_sem,d0];rfl) rfl ?_
        exact (show ∀ w',Kb 0 W w' → DecA M W (.returned (.agg #[.slice none 0 0])) w' from HD) _ (Kx.kb (b:=W.heap.size) (show Kb 0 W _ from HKW) ((Kz.refl W.heap.size _).set 0 _).ks (Nat.le_refl _))
instance : Inhabited PV:=⟨(default,.slice none 0 0,.slice none 0 0,.slice none 0 0,.slice none 0 0)⟩
def ZL (L : List PV) : Nat → PV:=fun i=>L.getD i default
theorem ZL_at {L : List PV} {i : Nat} (h : i < L.length) : L[i]? = some (ZL L i):=by
  unfold ZL
  simp [List.getD,List.getElem?_eq_getElem h]
theorem wq_of {lo hi : Nat} {W : World} {z : PV} (h : OwnQ lo hi W z.1 z.2.1 z.2.2.1 z.2.2.2.1 z.2.2.2.2) : WQ lo hi W z:=by
  obtain ⟨s1,s2,s3,h1,h2,h3,h4,h5,h6,h7,h8⟩:=h
  exact ⟨s1,s2,s3,h1,h2,h3,h4,wrow_of h5,wrow_of h6,wrow_of h7,wrow_of h8⟩
structure KRr (B : Nat) (We W : World) : Prop where
  size : We.heap.size ≤ W.heap.size
  block : ∀ b,B ≤ b → b < We.heap.size → W.heap[b]? = We.heap[b]?
theorem mi_start {B : Nat} {We W : World} {v : Value} {L : List PV} (k : Int) (S : Nat → Nat) (row : We.ownsRow B 50 9 v L.length (L.flatMap pvc)) (own : OwnL B We L v.ownBlock) (kb : KRr B We W) (hn : 0 < L.length) : ∃ g cp lo hi,v = .slice (some ⟨g,0,none⟩) L.length cp ∧ MI B We.heap.size lo hi g L.length (ZL L) k S W 0 W:=by
  obtain ⟨lo,hi,h1,h2,h3⟩:=own
  have hz:=kb.size
  have row1 : W.ownsRow B 50 9 v L.length (L.flatMap pvc):=rowBlk' row (fun g e=>kb.block g (row.lt g e).1 (row.lt g e).2)
  have hw : OwnB B We.heap.size W 50 9 v L.length (L.flatMap pvc):=⟨row1,fun g e=>(row.lt g e).2⟩
  obtain ⟨pa,cp,g,e,h4⟩:=wrow_of hw
  obtain ⟨rfl,q2,q3,q4,q5,q6⟩:=h4 hn
  have hc : ∀ i,i < L.length → ∀ t,t < 9 → W.cell? ⟨g,i * 9 + t,none⟩ = (pvc (ZL L i))[t]?:=fun i hi' t ht=>by
    subst e
    have hlt : i * 9 + t < L.length * 9:=by omega
    rw [row1.cellAt _ hlt]
    exact fm_at (cl:=pvc) (fun _=>rfl) (ZL_at hi') t ht
  refine ⟨g,cp,lo,hi,e,rfl,rfl,Nat.le_refl _,fun _ _ _=>rfl,fun j hj t ht=>q4 _ (by omega),q5,q6,q2,fun j hj=>⟨hc j hj 5 (by omega),hc j hj 6 (by omega),hc j hj 7 (by omega),hc j hj 8 (by omega)⟩,fun j hj=>by omega,fun j hj=>by omega,fun j _ hj=>(wq_of (h1 j _ (ZL_at hj)).2.2).blk hz (fun c q1 q2 q3=>kb.block c (by have:=(h1 j _ (ZL_at hj)).1;omega) q1),fun j hj=>(h1 j _ (ZL_at hj)).1,h2,fun j hj=>h3 g j (by rw [e];rfl) hj,q3,fun j hj=>(h1 j _ (ZL_at hj)).2.1⟩
theorem MI.kb {B E : Nat} {lo hi : Nat → Nat} {g n : Nat} {Z : Nat → PV} {k : Int} {S : Nat → Nat} {W0 : World} {i : Nat} {W W' : World} (h : MI B E lo hi g n Z k S W0 i W) (b : Kb 0 W W') : MI B E lo hi g n Z k S W0 i W':=by
  have gl:=h.gl
  have hz:=b.size
  have hb : ∀ c,c < W.heap.size → W'.heap[c]? = W.heap[c]?:=fun c hc=>b.block c (Nat.zero_le _) hc
  have hg:=hb g gl
  have hc : ∀ j,W'.cell? ⟨g,j,none⟩ = W.cell? ⟨g,j,none⟩:=fun j=>World.cell?_of_block hg
  refine ⟨b.os.trans h.os,b.output.trans h.output,Nat.le_trans h.size hz,fun c h1 h2=>(hb c (by have:=h.size;omega)).trans (h.block c h1 h2),fun j hj t ht=>by rw [hc];exact h.hd j hj t ht,fun j=>(World.frozen?_of_block hg).trans (h.fz j),by omega,h.gB,fun j hj=>?_,fun j hj t ht=>by rw [hc];exact h.mh j hj t ht,fun j hj=>(h.mq j hj).blk (fun c h1 _ _=>hb c h1),fun j h1 hj=>(h.wq j h1 hj).blk hz (fun c h1 _ _=>hb c h1),h.lb,h.df,h.gn,h.gE,h.hE⟩
  rw [hc,hc,hc,hc]
  exact h.rv j hj
structure KBl (B E : Nat) (W w' : World) : Prop where
  os : w'.os = W.os
  output : w'.output = W.output
  size : W.heap.size ≤ w'.heap.size
  block : ∀ b,b < W.heap.size → b < B ∨ E ≤ b → w'.heap[b]? = W.heap[b]?
def smk (L : List PV) : Nat:=sm (fun j=>nq (ZL L j)) L.length
def MkD (B : Nat) (W : World) (v : Value) (L : List PV) : Prop:=(∃ pa cp,v = .slice pa L.length cp) ∧ (0 < L.length → ∃ g cp lo hi W0 E,v = .slice (some ⟨g,0,none⟩) L.length cp ∧ MI B E lo hi g L.length (ZL L) 1 (sm (fun j=>nq (ZL L j))) W0 L.length W)
theorem MkD.kb {B : Nat} {W W' : World} {v : Value} {L : List PV} (h : MkD B W v L) (b : Kb 0 W W') : MkD B W' v L:=⟨h.1,fun hn=>by
  obtain ⟨g,cp,lo,hi,W0,E,e,m⟩:=h.2 hn
  exact ⟨g,cp,lo,hi,W0,E,e,m.kb b⟩⟩
def SzL (L : List PV) : Prop:=L.length ≤ 1048576 ∧ (∀ j,j < L.length → (ZL L j).1.U.length ≤ 1048576 ∧ (ZL L j).1.C.length ≤ 1048576 ∧ (ZL L j).1.N.length ≤ 1048576 ∧ (ZL L j).1.D.length ≤ 1048576) ∧ smk L ≤ 100000000
theorem mc_code {B : Nat} {We W : World} {v : Value} {L : List PV} (hs : SzL L) (row : We.ownsRow B 50 9 v L.length (L.flatMap pvc)) (own : OwnL B We L v.ownBlock) (ke : KRr B We W) :
    Calls Tryz.prog 11 #[.agg #[v],.int .i64 1] W fun e w'=>e = .returned (.int .i64 (1 + (smk L : Int))) ∧ KBl B We.heap.size W w' ∧ MkD B w' v L:=by
  obtain ⟨s1,s2,s3⟩:=hs
  obtain ⟨pa,cp,rfl⟩:=own_shape row
  have kb:=kb_alloc 0 W (.cells #[.slice pa L.length cp] 30)
  have H : Calls Tryz.prog 28 #[.slice pa L.length cp,.int .i64 1] (W.alloc (.cells #[.slice pa L.length cp] 30)) fun e w'=>e = .returned (.int .i64 (1 + (smk L : Int))) ∧ KBl B We.heap.size W w' ∧ MkD B w' (.slice pa L.length cp) L:=by
    rcases Nat.eq_zero_or_pos L.length with h0 | h0
    · have hx : ∀ n,n = 0 → Calls Tryz.prog 28 #[.slice pa n cp,.int .i64 1] (W.alloc (.cells #[.slice pa L.length cp] 30)) fun e w'=>e = .returned (.int .i64 1) ∧ w' = (W.alloc (.cells #[.slice pa L.length cp] 30)):=by rintro _ rfl;exact mp_nil _ pa cp 1
      refine (hx _ h0).mono ?_
      rintro e w' ⟨rfl,rfl⟩
      refine ⟨by unfold smk;rw [h0];rfl,⟨kb.os,kb.output,kb.size,fun b h1 _=>kb.block b (Nat.zero_le _) h1⟩,⟨pa,cp,rfl⟩,fun h=>by omega⟩
    · obtain ⟨g,cp',lo,hi,e,m⟩:=mi_start 1 (sm (fun j=>nq (ZL L j))) row own ⟨Nat.le_trans ke.size kb.size,fun b h1 h2=>(kb.block b (Nat.zero_le _) (Nat.lt_of_lt_of_le h2 ke.size)).trans (ke.block b h1 h2)⟩ h0
      obtain ⟨rfl,_,rfl⟩:=(Value.slice.injEq _ _ _ _ _ _).mp e
      refine (mp_pros (cp:=cp) (by omega) (by omega) s1 s2 s3 m).mono ?_
      rintro e w' ⟨rfl,m2⟩
      exact ⟨rfl,⟨m2.os.trans kb.os,m2.output.trans kb.output,Nat.le_trans kb.size m2.size,fun b h1 h2=>(m2.block b (Nat.lt_of_lt_of_le h1 kb.size) h2).trans (kb.block b (Nat.zero_le _) h1)⟩,⟨_,_,rfl⟩,fun _=>⟨g,cp,lo,hi,_,_,rfl,m2⟩⟩
  clear kb ke row own s1 s2 s3
  go_enter Tryz.func11,Tryz.ntmps11
  go_wp2_with (go_at_call 28;refine H.mono ?_;rintro e w1 ⟨rfl,r1,r2⟩)
  go_ret
  exact ⟨rfl,r1,r2⟩
theorem hc_code {B : Nat} {W : World} {v : Value} {L : List PV} (hs : SzL L) (h : MkD B W v L) :
    Calls Tryz.prog 17 #[.agg #[v],.int .i64 1] W fun e w'=>e = .returned (.int .i64 (1 + (smk L : Int))) ∧ Kb 0 W w':=by
  obtain ⟨s1,s2,s3⟩:=hs
  obtain ⟨⟨pa,cp,rfl⟩,h2⟩:=h
  have kb:=kb_alloc 0 W (.cells #[.slice pa L.length cp] 30)
  have H : Calls Tryz.prog 35 #[.slice pa L.length cp,.int .i64 1] (W.alloc (.cells #[.slice pa L.length cp] 30)) fun e w'=>e = .returned (.int .i64 (1 + (smk L : Int))) ∧ Kb 0 W w':=by
    rcases Nat.eq_zero_or_pos L.length with h0 | h0
    · have hx : ∀ n,n = 0 → Calls Tryz.prog 35 #[.slice pa n cp,.int .i64 1] (W.alloc (.cells #[.slice pa L.length cp] 30)) fun e w'=>e = .returned (.int .i64 1) ∧ w' = (W.alloc (.cells #[.slice pa L.length cp] 30)):=by rintro _ rfl;exact hp_nil _ pa cp 1
      refine (hx _ h0).mono ?_
      rintro e w' ⟨rfl,rfl⟩
      exact ⟨by unfold smk;rw [h0];rfl,kb⟩
    · obtain ⟨g,cp',lo,hi,W0,E,e,m⟩:=h2 h0
      obtain ⟨rfl,_,rfl⟩:=(Value.slice.injEq _ _ _ _ _ _).mp e
      refine (hp_pros (cp:=cp) (by omega) (by omega) s1 s2 s3 (m.kb kb)).mono ?_
      rintro e w' ⟨rfl,m2⟩
      exact ⟨rfl,kb.trans m2⟩
  have hp : ¬ (1 + (smk L : Int)) < 0:=by omega
  clear kb h2 s1 s2 s3
  generalize smk L = sL at *
  go_enter Tryz.func17,Tryz.ntmps17
  go_wp2_with (go_at_call 35;refine H.mono ?_;rintro e w1 ⟨rfl,r1⟩)
  go_ret
  exact ⟨rfl,r1⟩
end Go.Proofs.YtnmeemjoodoalaaGreatDoor.Fo
