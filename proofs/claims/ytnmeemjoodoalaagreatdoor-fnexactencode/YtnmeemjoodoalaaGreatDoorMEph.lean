import Derived.Test.YtnmeemjoodoalaaGreatDoorMEpg
set_option maxHeartbeats 8000000
namespace Go.Proofs.YtnmeemjoodoalaaGreatDoor.Fo
open Go.ChangeShapes Go.WideShapes Go.ChangeAt Go.RowKit
set_option linter.unusedVariables false
set_option maxRecDepth 100000
theorem wa_ups {w0 W : World} {l : List UInt8} {pa : Option Addr} {ca n : Nat} {X : Nat → Bool × Int} (hX : ∀ i, i < n → Rn (X i).2) (hn : n ≤ 6000) (hrow : RowU 0 w0 (.slice pa n ca) n X) (hw : WS w0 l W) :
    Calls Tryz.prog 113 #[.pointer (some ⟨w0.heap.size,0,none⟩),.slice pa n ca,.func (Fn.func 58) #[.pointer (some ⟨w0.heap.size,0,none⟩)] #[]] W (WP w0 W (l ++ ct (fun i=>ub (X i)) n)):=by
  have hst : ∀ (a : Addr) (n : Nat) (m : Mode) (w : World),(store a (.float .f64 n) m).run Tryz.prog w = stored Tryz.prog w a (.float .f64 n) m:=fun a n m w=>run_store _ _ _ _ _ rfl
  have hnI : (n : Int) ≤ 1048576:=by omega
  have HR : Hid (RowU 0 w0 (.slice pa n ca) n X):=hrow
  have HL : Hid (∀ i,l ++ ct (fun i=>ub (X i)) (i + 1) = (l ++ ct (fun i=>ub (X i)) i) ++ (fun i=>ub (X i)) i):=(fun i=>by show l ++ (ct (fun i=>ub (X i)) i ++ (fun i=>ub (X i)) i) = _;rw [← List.append_assoc] : ∀ i,_)
  have HS : Hid (WS w0 (l ++ ct (fun i=>ub (X i)) 0) W ∧ Lib.OthersKept 5 (some w0.heap.size) W W):=(⟨by rw [show ct (fun i=>ub (X i)) 0 = [] from rfl,List.append_nil];exact hw,Lib.OthersKept.refl _ _ _⟩ : _ ∧ _)
  clear hw hrow hn
  go_enter Tryz.func113,Tryz.ntmps113
  go_wp2_with fail
  go_loopw [10] (fun sl wr=>∃ (i : Nat),i ≤ n ∧ sl = .int .i64 (i : Int) ∧ Hid (WS w0 (l ++ ct (fun i=>ub (X i)) i) wr ∧ Lib.OthersKept 5 (some w0.heap.size) W wr)) (fun sl _=>n - (intOf sl).toNat)
  case atStart=>exact ⟨0,by omega,rfl,HS⟩
  case round =>
    clear HS
    obtain ⟨i,hi,rfl,HX⟩:=hrel
    obtain ⟨hw,hok⟩:=(show _ ∧ _ from HX)
    by_cases hin : i < n
    · have hI : (i : Int) < (n : Int):=by omega
      obtain ⟨pa',ca',e1,hr2⟩:=(show RowU 0 w0 (.slice pa n ca) n X from HR).keep hw.1
      obtain ⟨rfl,-,rfl⟩:=(Value.slice.injEq _ _ _ _ _ _).mp e1
      obtain ⟨b,rfl,hcb,-,hrb⟩:=hr2 (by omega)
      obtain ⟨z0,z1⟩:=hrb i hin
      obtain ⟨w9,hw9⟩ : ∃ w9,w9 = wr.alloc (.cells #[.bool (X i).1,.int .i64 (X i).2] 89):=⟨_,rfl⟩
      obtain ⟨g9,hg9⟩ : ∃ g9,g9 = wr.heap.size:=⟨_,rfl⟩
      have k9 : Kb 0 wr w9:=by rw [hw9];exact kb_alloc _ _ _
      have b9 : w9.heap[g9]? = some (.cells #[.bool (X i).1,.int .i64 (X i).2] 89 (0,0)):=by rw [hw9,hg9];exact alloc_new _ _ _
      have HW9 : Hid (w9 = wr.alloc (.cells #[.bool (X i).1,.int .i64 (X i).2] 89) ∧ g9 = wr.heap.size):=(⟨hw9,hg9⟩ : _ ∧ _)
      have hw2:=hw.call k9
      obtain ⟨kk,im,lf,lo,hbk,hcs⟩:=id hw2
      have clo : w9.cell? ⟨w0.heap.size,2,none⟩ = some (.bool lo):=cell_of hbk rfl
      cases lo with
      | true =>
        have hlong : 1000000 < (l ++ ct (fun i=>ub (X i)) i).length:=by
          rcases hcs with ⟨_,h,_⟩ | ⟨h,_⟩
          · cases h
          · exact h
        have HN : Hid (WS w0 (l ++ ct (fun i=>ub (X i)) n) w9 ∧ Lib.OthersKept 5 (some w0.heap.size) W w9):=by
          show WS w0 (l ++ ct (fun i=>ub (X i)) n) w9 ∧ Lib.OthersKept 5 (some w0.heap.size) W w9
          refine ⟨⟨kk,im,lf,true,hbk,.inr ⟨?_,rfl,?_⟩⟩,hok.trans (ok_kb k9 _)⟩
          · rw [List.length_append]
            have:=ct_mono (fun i=>ub (X i)) hi
            rw [List.length_append] at hlong
            omega
          · rcases hcs with ⟨_,h,_⟩ | ⟨_,_,h⟩
            · cases h
            · exact h
        clear hw9 hg9 k9 b9 hw hok hw2 kk hbk hcs hlong HX hr2 hrb
        go_upto_region 3 with fail
        rw [← (show w9 = _ ∧ _ from HW9).1]
        try rw [← (show w9 = _ ∧ _ from HW9).2]
        clear HW9 z0 z1
        go_wp2_with fail
        exact ⟨rfl,.tuple #[],by simp [results,Tryz.results113],rfl,(show _ ∧ _ from HN).1,(show _ ∧ _ from HN).2⟩
      | false =>
        have HC:=im_up (X i) (hX i hin) hw2
        have HO : Hid (Lib.OthersKept 5 (some w0.heap.size) W w9 ∧ (l ++ ct (fun i=>ub (X i)) (i + 1) = (l ++ ct (fun i=>ub (X i)) i) ++ (fun i=>ub (X i)) i)):=(⟨hok.trans (ok_kb k9 _),(show ∀ i,_ from HL) i⟩ : _ ∧ _)
        have c0 : w9.cell? ⟨g9,0,none⟩ = some (.bool (X i).1):=cell_of b9 rfl
        have c1 : w9.cell? ⟨g9,1,none⟩ = some (.int .i64 (X i).2):=cell_of b9 rfl
        clear hw9 hg9 k9 b9 hw hok hw2 kk hbk hcs HX hr2 hrb
        go_upto_region 3 with fail
        rw [← (show w9 = _ ∧ _ from HW9).1]
        try rw [← (show w9 = _ ∧ _ from HW9).2]
        clear HW9 z0 z1
        go_wp2_with fail
        refine HC.mono ?_
        rintro e w2 ⟨rfl,y1,y2⟩
        obtain ⟨o1,o2⟩:=(show _ ∧ _ from HO)
        have HN : Hid (WS w0 (l ++ ct (fun i=>ub (X i)) (i + 1)) w2 ∧ Lib.OthersKept 5 (some w0.heap.size) W w2):=(⟨by rw [o2];exact y1,o1.trans y2⟩ : _ ∧ _)
        clear HC y1 y2 HO o1 o2 clo c0 c1
        go_wp2_with fail
        go_roundw
        case rel=>exact ⟨i + 1,by omega,by go_num,HN⟩
        case measure=>simp [intOf];omega
    · obtain rfl : i = n:=by omega
      have hI : ¬ (i : Int) < (i : Int):=by omega
      have HN : Hid (WS w0 (l ++ ct (fun i=>ub (X i)) i) wr ∧ Lib.OthersKept 5 (some w0.heap.size) W wr):=by
        exact (⟨hw,hok⟩ : _ ∧ _)
      clear hw hok HX HR HL
      go_wp2_with fail
      exact ⟨rfl,.tuple #[],by simp [results,Tryz.results113],rfl,(show _ ∧ _ from HN).1,(show _ ∧ _ from HN).2⟩
theorem wl_ups {w0 W : World} {l : List UInt8} {pa : Option Addr} {ca n : Nat} {X : Nat → Bool × Int} (hX : ∀ i, i < n → Rn (X i).2) (hn : n ≤ 6000) (hrow : RowU 0 w0 (.slice pa n ca) n X) (hw : WS w0 l W) :
    Calls Tryz.prog 57 #[.pointer (some ⟨w0.heap.size,0,none⟩),.slice pa n ca,.func (Fn.func 58) #[.pointer (some ⟨w0.heap.size,0,none⟩)] #[]] W (WP w0 W (l ++ lb (fun i=>ub (X i)) n)):=by
  have hst : ∀ (a : Addr) (n : Nat) (m : Mode) (w : World),(store a (.float .f64 n) m).run Tryz.prog w = stored Tryz.prog w a (.float .f64 n) m:=fun a n m w=>run_store _ _ _ _ _ rfl
  have HC:=im_num1 hw [(n : Int)] #[.int .i64 (n : Int)] 1 rfl rfl (fun y hy=>by rw [List.mem_singleton] at hy;subst hy;exact ⟨by omega,by omega⟩) (by simp)
  have HE : Hid ((l ++ nbs [(n : Int)]) ++ ct (fun i=>ub (X i)) n = l ++ lb (fun i=>ub (X i)) n):=by
    show (l ++ (nb (n : Int) ++ [])) ++ _ = l ++ (nb (n : Int) ++ _)
    rw [List.append_nil,List.append_assoc]
  have HA : Hid (∀ W1,WS w0 (l ++ nbs [(n : Int)]) W1 → Calls Tryz.prog 113 #[.pointer (some ⟨w0.heap.size,0,none⟩),.slice pa n ca,.func (Fn.func 58) #[.pointer (some ⟨w0.heap.size,0,none⟩)] #[]] W1 (WP w0 W1 ((l ++ nbs [(n : Int)]) ++ ct (fun i=>ub (X i)) n))):=(fun W1 h=>wa_ups hX hn hrow h : ∀ W1,_)
  have hnI : (n : Int) ≤ 1048576:=by omega
  clear hw hrow hn hX
  go_enter Tryz.func57,Tryz.ntmps57
  go_wp2_with fail
  refine HC.mono ?_
  rintro e w1 ⟨rfl,y1,y2⟩
  have HA1:=(show ∀ W1,_ from HA) w1 y1
  have HY : Hid (Lib.OthersKept 5 (some w0.heap.size) W w1):=y2
  clear HC HA y1 y2
  go_wp2_with fail
  refine HA1.mono ?_
  rintro e w2 ⟨rfl,y3,y4⟩
  have HN : Hid (WS w0 (l ++ lb (fun i=>ub (X i)) n) w2 ∧ Lib.OthersKept 5 (some w0.heap.size) W w2):=by
    rw [show _ = l ++ lb _ n from HE] at y3
    exact (⟨y3,(show Lib.OthersKept 5 (some w0.heap.size) W w1 from HY).trans y4⟩ : _ ∧ _)
  clear HA1 HY HE y3 y4
  go_wp2_with fail
  exact ⟨rfl,.tuple #[],by simp [results,Tryz.results57],rfl,(show _ ∧ _ from HN).1,(show _ ∧ _ from HN).2⟩
end Go.Proofs.YtnmeemjoodoalaaGreatDoor.Fo
