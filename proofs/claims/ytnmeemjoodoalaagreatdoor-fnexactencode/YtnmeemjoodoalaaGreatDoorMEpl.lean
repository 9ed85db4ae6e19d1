import Derived.Test.YtnmeemjoodoalaaGreatDoorMEpj
import Derived.Test.YtnmeemjoodoalaaGreatDoorMChg
import Derived.Lib.SlBytesConst
set_option maxHeartbeats 16000000
namespace Go.Proofs.YtnmeemjoodoalaaGreatDoor.Fo
open Go.ChangeShapes Go.WideShapes Go.ChangeAt Go.RowKit
set_option linter.unusedVariables false
set_option maxRecDepth 100000
theorem im_enc {va : Value} {np : Nat} {F : Nat → Pd} (w : World) (hgd : Gd w) (ha : RowP 0 w va np F) (hb : Bd np F) (hps : Sok np F → ∀ p, p < np → Psh (F p)) :
    Calls Tryz.prog 8 #[.agg #[va]] w fun e w'=>∃ v R,e = .returned v ∧ Img np F R ∧ w'.ownsRow w.heap.size 5 1 v R.length (Lib.byteCells R) ∧ Kb 0 w w':=by
  have ha0:=ha
  obtain ⟨pa,ca,rfl,ha2⟩:=ha
  have hnI : (np : Int) ≤ 1048576:=by have:=hb.hnp;omega
  obtain ⟨w1,hw1⟩ : ∃ w1,w1 = w.alloc (.cells #[.slice pa np ca] 30):=⟨_,rfl⟩
  have k1 : Kb 0 w w1:=by rw [hw1];exact kb_alloc _ _ _
  have b1 : w1.heap[w.heap.size]? = some (.cells #[.slice pa np ca] 30 (0,0)):=by rw [hw1];exact alloc_new _ _ _
  have HSH : Hid (Calls Tryz.prog 23 #[.agg #[.slice pa np ca]] w1 fun e w'=>∃ c f n : Nat,e = .returned (.agg #[.int .i64 (c : Int),.int .i64 (f : Int),.int .i64 (n : Int)]) ∧ Ans 7 np F c f n ∧ Kb 0 w1 w'):=im_shape w1 (hgd.keep k1) (ha0.keep k1) hb
  have HR : Hid (RowP 0 w (.slice pa np ca) np F ∧ Kb 0 w w1 ∧ w1.heap[w.heap.size]? = some (.cells #[.slice pa np ca] 30 (0,0)) ∧ (Sok np F → ∀ p,p < np → Psh (F p))):=(⟨ha0,k1,b1,hps⟩ : _ ∧ _)
  have HW1 : Hid (w1 = w.alloc (.cells #[.slice pa np ca] 30)):=hw1
  clear ha2 hb k1 b1 hw1 hgd hps ha0
  go_enter Tryz.func8,Tryz.ntmps8
  go_wp2_with fail
  rw [← (show w1 = _ from HW1)]
  clear HW1
  refine (show Calls Tryz.prog 23 #[.agg #[.slice pa np ca]] w1 (fun e w'=>∃ c f n : Nat,e = .returned (.agg #[.int .i64 (c : Int),.int .i64 (f : Int),.int .i64 (n : Int)]) ∧ Ans 7 np F c f n ∧ Kb 0 w1 w') from HSH).mono ?_
  rintro e w2 ⟨c,f,n,rfl,hans,k2⟩
  clear HSH
  obtain ⟨ha2,k1,b1,hps⟩:=(show _ ∧ _ ∧ _ ∧ _ from HR)
  clear HR
  have k3 : Kb 0 w w2:=k1.trans k2
  have b2 : w2.heap[w.heap.size]? = some (.cells #[.slice pa np ca] 30 (0,0)):=(k2.block _ (Nat.zero_le _) (Array.getElem?_eq_some_iff.1 b1).1).trans b1
  by_cases c0 : c = 0
  case neg =>
    have HL : Hid (Img np F [] ∧ Kb 0 w w2):=(⟨⟨c,f,n,hans,by rw [if_neg (fun h=>c0 h.1)]⟩,k3⟩ : _ ∧ _)
    have hc : ((c : Int) == 0) = false:=beq_eq_false_iff_ne.2 (by omega)
    clear k1 k2 b1 ha2 hans c0 k3 b2 hps
    go_wp2_with fail
    go_ret
    have hh : ∃ v R,Ending.returned (.slice none 0 0) = Ending.returned v ∧ Img np F R ∧ w2.ownsRow w.heap.size 5 1 v R.length (Lib.byteCells R) ∧ Kb 0 w w2:=⟨_,[],rfl,HL.1,World.ownsRow_nil _ _ _ _,HL.2⟩
    first | exact hh | simpa using hh
  subst c0
  obtain ⟨rfl,rfl⟩ : f = 0 ∧ n = 0:=by
    rcases hans with ⟨h1,_⟩ | ⟨_,h1,_⟩ | ⟨_,_,h2,h3,_⟩
    · omega
    · omega
    · exact ⟨h2,h3⟩
  have hok:=sok_of hans
  obtain ⟨w3,hw3⟩ : ∃ w3,w3 = w2.alloc (.cells #[.slice none 0 0,.int .i64 1000000,.bool false] 57):=⟨_,rfl⟩
  obtain ⟨w4,hw4⟩ : ∃ w4,w4 = w3.alloc (.cells #[.int .u8 72,.int .u8 67,.int .u8 1] 5 (3,4)):=⟨_,rfl⟩
  have b3 : w3.heap[w2.heap.size]? = some (.cells #[.slice none 0 0,.int .i64 1000000,.bool false] 57 (0,0)):=by rw [hw3];exact alloc_new _ _ _
  have b4 : w4.heap[w3.heap.size]? = some (.cells #[.int .u8 72,.int .u8 67,.int .u8 1] 5 (3,4)):=by
    rw [hw4]
    show (w3.heap.push _)[w3.heap.size]? = _
    simp
  have k23 : Kb 0 w2 w3:=by rw [hw3];exact kb_alloc _ _ _
  have k34 : Kb 0 w3 w4:=by rw [hw4];exact kb_alloc _ _ _
  have hlt3:=(Array.getElem?_eq_some_iff.1 b3).1
  have hws : WS w2 [] w4:=⟨k23.trans k34,_,_,_,(k34.block _ (Nat.zero_le _) hlt3).trans b3,.inl ⟨by simp,rfl,rfl,World.ownsRow_nil _ _ _ _⟩⟩
  have HP:=im_put (c:=3) (ad:=⟨w3.heap.size,0,none⟩) [72,67,1] hws (by show w3.heap.size ≠ _;omega) (fun j u hu=>World.news_of_block b4 j u hu) (by decide)
  have hcv:=Lib.run_convert_bytes_const (P:=Tryz.prog) w3 26 5 #[.int .u8 72,.int .u8 67,.int .u8 1] 3 3 Tryz.underlying26 Tryz.underlying5
  have hcv2 : (convert 26 26 (.slice (some ⟨w3.heap.size,0,none⟩) 3 3)).run Tryz.prog (w3.alloc (.cells #[.int .u8 72,.int .u8 67,.int .u8 1] 5)) = .ok (.slice (some ⟨w3.heap.size,0,none⟩) 3 3) w4:=by rw [hw4];exact hcv
  have hbx : w.heap.size ≠ w2.heap.size:=by have:=(Array.getElem?_eq_some_iff.1 b2).1;omega
  have HBX : Hid (∀ W',Lib.OthersKept 5 (some w2.heap.size) w4 W' → W'.heap[w.heap.size]? = some (.cells #[.slice pa np ca] 30 (0,0))):=(fun W' k=>ok_cells k (((k23.trans k34).block _ (Nat.zero_le _) (Array.getElem?_eq_some_iff.1 b2).1).trans b2) (by simpa using hbx) (by decide) : ∀ W',_)
  have HXX : Hid (RowP 0 w2 (.slice pa np ca) np F ∧ (∀ p,p < np → Psh (F p)) ∧ (∀ R,R = (if (eb F np).length ≤ 1000000 then eb F np else []) → Img np F R) ∧ Kb 0 w w2 ∧ np ≤ 200):=(⟨ha2.keep k3,hps hok,fun R hR=>⟨0,0,0,hans,by rw [hR];simp⟩,k3,hok.sz.2.1⟩ : _ ∧ _)
  have HW3 : Hid (w3 = w2.alloc (.cells #[.slice none 0 0,.int .i64 1000000,.bool false] 57)):=hw3
  clear k1 k2 b1 ha2 hans k3 b2 hps hok b3 b4 k23 k34 hws hw4 hw3 hbx hcv hlt3
  go_upto_region 4 with fail
  rw [← (show w3 = _ from HW3)]
  clear HW3
  go_wp2_with fail
  refine HP.mono ?_
  rintro e w5 ⟨rfl,y1,y2⟩
  have c5 : w5.cell? ⟨w.heap.size,0,none⟩ = some (.slice pa np ca):=cell_of ((show ∀ W',Lib.OthersKept 5 (some w2.heap.size) w4 W' → _ from HBX) w5 y2) rfl
  have HC:=wl_pros (X:=F) (show _ ∧ _ from (show _ ∧ _ from HXX).2).1 (by have:=(show _ ∧ _ ∧ _ ∧ _ ∧ _ from HXX).2.2.2.2;omega) (show _ ∧ _ from HXX).1 y1
  clear HP y1 y2 HBX hcv2
  go_wp2_with fail
  refine HC.mono ?_
  rintro e w6 ⟨rfl,y1,y2⟩
  obtain ⟨-,-,hImg,k02,-⟩:=(show _ ∧ _ ∧ _ ∧ _ ∧ _ from HXX)
  have e6 : ([] ++ [72,67,1]) ++ lb (fun i=>pb (F i)) np = eb F np:=rfl
  rw [e6] at y1
  obtain ⟨kk,im,lf,lo,hbk,hcs⟩:=y1
  have cc0 : w6.cell? ⟨w2.heap.size,0,none⟩ = some im:=cell_of hbk rfl
  have cc2 : w6.cell? ⟨w2.heap.size,2,none⟩ = some (.bool lo):=cell_of hbk rfl
  cases lo with
  | true =>
    have HN : Hid (Img np F [] ∧ Kb 0 w w6):=by
      rcases hcs with ⟨_,h,_⟩ | ⟨h,_⟩
      · cases h
      · exact (⟨hImg [] (by rw [if_neg (by omega)]),k02.trans kk⟩ : _ ∧ _)
    clear HC HXX hImg k02 kk hbk hcs y2 c5
    go_wp2_with fail
    go_ret
    have hh : ∃ v R,Ending.returned (.slice none 0 0) = Ending.returned v ∧ Img np F R ∧ w6.ownsRow w.heap.size 5 1 v R.length (Lib.byteCells R) ∧ Kb 0 w w6:=⟨_,[],rfl,HN.1,World.ownsRow_nil _ _ _ _,HN.2⟩
    first | exact hh | simpa using hh
  | false =>
    have HN : Hid (Img np F (eb F np) ∧ w6.ownsRow w.heap.size 5 1 im (eb F np).length (Lib.byteCells (eb F np)) ∧ Kb 0 w w6):=by
      rcases hcs with ⟨h1,_,_,h4⟩ | ⟨_,h,_⟩
      · refine (show _ ∧ _ ∧ _ from ⟨hImg _ (by rw [if_pos h1]),?_,k02.trans kk⟩)
        exact ⟨h4.1,h4.2.elim Or.inl (fun ⟨g,cap,cur,hv,hg,r⟩=>Or.inr ⟨g,cap,cur,hv,by have:=k02.size;omega,r⟩)⟩
      · cases h
    obtain ⟨pv,cv,hv⟩:=own_slice (show _ ∧ _ ∧ _ from HN).2.1
    subst hv
    obtain ⟨nv,hnv⟩ : ∃ nv,nv = (eb F np).length:=⟨_,rfl⟩
    rw [← hnv] at HN cc0
    have HNV : Hid (nv = (eb F np).length):=hnv
    clear HC HXX hImg k02 kk hbk hcs y2 c5 hnv
    go_wp2_with fail
    go_ret
    have hh : ∃ v R,Ending.returned (.slice pv nv cv) = Ending.returned v ∧ Img np F R ∧ w6.ownsRow w.heap.size 5 1 v R.length (Lib.byteCells R) ∧ Kb 0 w w6:=⟨_,eb F np,rfl,(show _ ∧ _ ∧ _ from HN).1,by rw [← (show nv = _ from HNV)];exact (show _ ∧ _ ∧ _ from HN).2.1,(show _ ∧ _ ∧ _ from HN).2.2⟩
    first | exact hh | simpa using hh
end Go.Proofs.YtnmeemjoodoalaaGreatDoor.Fo
