import Derived.Test.YtjhojecmoflifaaGreatDoorMEpg
set_option maxHeartbeats 8000000
namespace Go.Proofs.YtjhojecmoflifaaGreatDoor.Fo
open Go.ChangeShapes Go.WideShapes Go.ChangeAt Go.RowKit
set_option linter.unusedVariables false
set_option maxRecDepth 100000
theorem wl_ups {w0 W : World} {l : List UInt8} {pa : Option Addr} {ca n : Nat} {X : Nat → Bool × Int} (hX : ∀ i, i < n → Rn (X i).2) (hn : n ≤ 6000) (hrow : RowU 0 w0 (.slice pa n ca) n X) (hw : WS w0 l W) :
    Calls Tryz.prog 56 #[.pointer (some ⟨w0.heap.size,0,none⟩),.slice pa n ca,.func (Fn.func 57) #[.pointer (some ⟨w0.heap.size,0,none⟩)] #[]] W (WP w0 W (l ++ lb (fun i=>ub (X i)) n)):=by
  have hst : ∀ (a : Addr) (n : Nat) (m : Mode) (w : World),(store a (.float .f64 n) m).run Tryz.prog w = stored Tryz.prog w a (.float .f64 n) m:=fun a n m w=>run_store _ _ _ _ _ rfl
  have HC:=im_num1 hw [(n : Int)] #[.int .i64 (n : Int)] 1 rfl rfl (fun y hy=>by rw [List.mem_singleton] at hy;subst hy;exact ⟨by omega,by omega⟩) (by simp)
  have hnI : (n : Int) ≤ 1048576:=by omega
  have HR : Hid (RowU 0 w0 (.slice pa n ca) n X):=hrow
  have HL : Hid (∀ i,(l ++ nbs [(n : Int)]) ++ ct (fun i=>ub (X i)) (i + 1) = ((l ++ nbs [(n : Int)]) ++ ct (fun i=>ub (X i)) i) ++ (fun i=>ub (X i)) i):=(fun i=>by show (l ++ nbs [(n : Int)]) ++ (ct (fun i=>ub (X i)) i ++ (fun i=>ub (X i)) i) = _;rw [← List.append_assoc] : ∀ i,_)
  have HE : Hid ((l ++ nbs [(n : Int)]) ++ ct (fun i=>ub (X i)) n = l ++ lb (fun i=>ub (X i)) n):=by
    show (l ++ (nb (n : Int) ++ [])) ++ _ = l ++ (nb (n : Int) ++ _)
    rw [List.append_nil,List.append_assoc]
  clear hw hrow hn
  go_enter Tryz.func56,Tryz.ntmps56
  go_wp2_with fail
  refine HC.mono ?_
  rintro e w1 ⟨rfl,y1,y2⟩
  have HS : Hid (WS w0 ((l ++ nbs [(n : Int)]) ++ ct (fun i=>ub (X i)) 0) w1 ∧ Lib.OthersKept 5 (some w0.heap.size) W w1):=(⟨by rw [show ct (fun i=>ub (X i)) 0 = [] from rfl,List.append_nil];exact y1,y2⟩ : _ ∧ _)
  clear HC y1 y2
  go_wp2_with fail
  go_loopw [15] (fun sl wr=>∃ (i : Nat),i ≤ n ∧ sl = .int .i64 (i : Int) ∧ Hid (WS w0 ((l ++ nbs [(n : Int)]) ++ ct (fun i=>ub (X i)) i) wr ∧ Lib.OthersKept 5 (some w0.heap.size) W wr)) (fun sl _=>n - (intOf sl).toNat)
  case atStart=>exact ⟨0,by omega,rfl,HS⟩
  case round =>
    clear HS
    obtain ⟨i,hi,rfl,HX⟩:=hrel
    obtain ⟨hw,hok⟩:=(show _ ∧ _ from HX)
    by_cases hin : i < n
    · have hI : (i : Int) < (n : Int):=by omega
      obtain ⟨pa',ca',e1,hr2⟩:=(show RowU 0 w0 (.slice pa n ca) n X from HR).keep hw.1
      obtain ⟨rfl,-,rfl⟩:=(Value.slice.injEq _ _ _ _ _ _).mp e1
      obtain ⟨b,rfl,hcb,-,hrb⟩:=hr2 (by omega)
      obtain ⟨z0,z1⟩:=hrb i hin
      obtain ⟨w9,hw9⟩ : ∃ w9,w9 = wr.alloc (.cells #[.bool (X i).1,.int .i64 (X i).2] 89):=⟨_,rfl⟩
      obtain ⟨g9,hg9⟩ : ∃ g9,g9 = wr.heap.size:=⟨_,rfl⟩
      have k9 : Kb 0 wr w9:=by rw [hw9];exact kb_alloc _ _ _
      have b9 : w9.heap[g9]? = some (.cells #[.bool (X i).1,.int .i64 (X i).2] 89 (0,0)):=by rw [hw9,hg9];exact alloc_new _ _ _
      have HW9 : Hid (w9 = wr.alloc (.cells #[.bool (X i).1,.int .i64 (X i).2] 89) ∧ g9 = wr.heap.size):=(⟨hw9,hg9⟩ : _ ∧ _)
      have hw2:=hw.call k9
      obtain ⟨kk,im,lf,lo,hbk,hcs⟩:=id hw2
      have clo : w9.cell? ⟨w0.heap.size,2,none⟩ = some (.bool lo):=cell_of hbk rfl
      cases lo with
      | true =>
        have hlong : 1000000 < ((l ++ nbs [(n : Int)]) ++ ct (fun i=>ub (X i)) i).length:=by
          rcases hcs with ⟨_,h,_⟩ | ⟨h,_⟩
          · cases h
          · exact h
        have HN : Hid (WS w0 (l ++ lb (fun i=>ub (X i)) n) w9 ∧ Lib.OthersKept 5 (some w0.heap.size) W w9):=by
          show WS w0 (l ++ lb (fun i=>ub (X i)) n) w9 ∧ Lib.OthersKept 5 (some w0.heap.size) W w9
          refine ⟨⟨kk,im,lf,true,hbk,.inr ⟨?_,rfl,?_⟩⟩,hok.trans (ok_kb k9 _)⟩
          · rw [← (show _ = l ++ lb _ n from HE),List.length_append]
            have:=ct_mono (fun i=>ub (X i)) hi
            rw [List.length_append] at hlong
            omega
          · rcases hcs with ⟨_,h,_⟩ | ⟨_,_,h⟩
            · cases h
            · exact h
        clear hw9 hg9 k9 b9 hw hok hw2 kk hbk hcs hlong HX hr2 hrb
        go_upto_region 4 with fail
        rw [← (show w9 = _ ∧ _ from HW9).1]
        try rw [← (show w9 = _ ∧ _ from HW9).2]
        clear HW9 z0 z1
        go_wp2_with fail
        exact ⟨rfl,.tuple #[],by simp [results,Tryz.results56],rfl,(show _ ∧ _ from HN).1,(show _ ∧ _ from HN).2⟩
      | false =>
        have HC:=im_up (X i) (hX i hin) hw2
        have HO : Hid (Lib.OthersKept 5 (some w0.heap.size) W w9 ∧ ((l ++ nbs [(n : Int)]) ++ ct (fun i=>ub (X i)) (i + 1) = ((l ++ nbs [(n : Int)]) ++ ct (fun i=>ub (X i)) i) ++ (fun i=>ub (X i)) i)):=(⟨hok.trans (ok_kb k9 _),(show ∀ i,_ from HL) i⟩ : _ ∧ _)
        have c0 : w9.cell? ⟨g9,0,none⟩ = some (.bool (X i).1):=cell_of b9 rfl
        have c1 : w9.cell? ⟨g9,1,none⟩ = some (.int .i64 (X i).2):=cell_of b9 rfl
        clear hw9 hg9 k9 b9 hw hok hw2 kk hbk hcs HX hr2 hrb
        go_upto_region 4 with fail
        rw [← (show w9 = _ ∧ _ from HW9).1]
        try rw [← (show w9 = _ ∧ _ from HW9).2]
        clear HW9 z0 z1
        go_wp2_with fail
        refine HC.mono ?_
        rintro e w2 ⟨rfl,y1,y2⟩
        obtain ⟨o1,o2⟩:=(show _ ∧ _ from HO)
        have HN : Hid (WS w0 ((l ++ nbs [(n : Int)]) ++ ct (fun i=>ub (X i)) (i + 1)) w2 ∧ Lib.OthersKept 5 (some w0.heap.size) W w2):=(⟨by rw [o2];exact y1,o1.trans y2⟩ : _ ∧ _)
        clear HC y1 y2 HO o1 o2 clo c0 c1
        go_wp2_with fail
        go_roundw
        case rel=>exact ⟨i + 1,by omega,by go_num,HN⟩
        case measure=>simp [intOf];omega
    · obtain rfl : i = n:=by omega
      have hI : ¬ (i : Int) < (i : Int):=by omega
      have HN : Hid (WS w0 (l ++ lb (fun i=>ub (X i)) i) wr ∧ Lib.OthersKept 5 (some w0.heap.size) W wr):=by
        rw [show _ = l ++ lb _ i from HE] at hw
        exact (⟨hw,hok⟩ : _ ∧ _)
      clear hw hok HX HR HL HE
      go_wp2_with fail
      exact ⟨rfl,.tuple #[],by simp [results,Tryz.results56],rfl,(show _ ∧ _ from HN).1,(show _ ∧ _ from HN).2⟩
theorem wl_vals {w0 W : World} {l : List UInt8} {pa : Option Addr} {ca n : Nat} {X : Nat → Vv} (hX : ∀ i, i < n → Cok (X i) ∧ Rn (X i).m ∧ ((X i).x.size : Int) ≤ 1048576 ∧ (X i).g < 18446744073709551616) (hn : n ≤ 6000) (hrow : RowW 0 w0 (.slice pa n ca) n X) (hw : WS w0 l W) :
    Calls Tryz.prog 58 #[.pointer (some ⟨w0.heap.size,0,none⟩),.slice pa n ca,.func (Fn.func 59) #[.pointer (some ⟨w0.heap.size,0,none⟩)] #[]] W (WP w0 W (l ++ lb (fun i=>cb (X i)) n)):=by
  have hst : ∀ (a : Addr) (n : Nat) (m : Mode) (w : World),(store a (.float .f64 n) m).run Tryz.prog w = stored Tryz.prog w a (.float .f64 n) m:=fun a n m w=>run_store _ _ _ _ _ rfl
  have HC:=im_num1 hw [(n : Int)] #[.int .i64 (n : Int)] 1 rfl rfl (fun y hy=>by rw [List.mem_singleton] at hy;subst hy;exact ⟨by omega,by omega⟩) (by simp)
  have hnI : (n : Int) ≤ 1048576:=by omega
  have HR : Hid (RowW 0 w0 (.slice pa n ca) n X):=hrow
  have HL : Hid (∀ i,(l ++ nbs [(n : Int)]) ++ ct (fun i=>cb (X i)) (i + 1) = ((l ++ nbs [(n : Int)]) ++ ct (fun i=>cb (X i)) i) ++ (fun i=>cb (X i)) i):=(fun i=>by show (l ++ nbs [(n : Int)]) ++ (ct (fun i=>cb (X i)) i ++ (fun i=>cb (X i)) i) = _;rw [← List.append_assoc] : ∀ i,_)
  have HE : Hid ((l ++ nbs [(n : Int)]) ++ ct (fun i=>cb (X i)) n = l ++ lb (fun i=>cb (X i)) n):=by
    show (l ++ (nb (n : Int) ++ [])) ++ _ = l ++ (nb (n : Int) ++ _)
    rw [List.append_nil,List.append_assoc]
  clear hw hrow hn
  go_enter Tryz.func58,Tryz.ntmps58
  go_wp2_with fail
  refine HC.mono ?_
  rintro e w1 ⟨rfl,y1,y2⟩
  have HS : Hid (WS w0 ((l ++ nbs [(n : Int)]) ++ ct (fun i=>cb (X i)) 0) w1 ∧ Lib.OthersKept 5 (some w0.heap.size) W w1):=(⟨by rw [show ct (fun i=>cb (X i)) 0 = [] from rfl,List.append_nil];exact y1,y2⟩ : _ ∧ _)
  clear HC y1 y2
  go_wp2_with fail
  go_loopw [15] (fun sl wr=>∃ (i : Nat),i ≤ n ∧ sl = .int .i64 (i : Int) ∧ Hid (WS w0 ((l ++ nbs [(n : Int)]) ++ ct (fun i=>cb (X i)) i) wr ∧ Lib.OthersKept 5 (some w0.heap.size) W wr)) (fun sl _=>n - (intOf sl).toNat)
  case atStart=>exact ⟨0,by omega,rfl,HS⟩
  case round =>
    clear HS
    obtain ⟨i,hi,rfl,HX⟩:=hrel
    obtain ⟨hw,hok⟩:=(show _ ∧ _ from HX)
    by_cases hin : i < n
    · have hI : (i : Int) < (n : Int):=by omega
      obtain ⟨pa',ca',e1,hr2⟩:=(show RowW 0 w0 (.slice pa n ca) n X from HR).keep hw.1
      obtain ⟨rfl,-,rfl⟩:=(Value.slice.injEq _ _ _ _ _ _).mp e1
      obtain ⟨b,rfl,hcb,-,hrb⟩:=hr2 (by omega)
      obtain ⟨z0,z1,z2,z3,z4⟩:=hrb i hin
      obtain ⟨w9,hw9⟩ : ∃ w9,w9 = wr.alloc (.cells #[.int .i64 (X i).k,.int .i64 (X i).m,.float .f64 (X i).g,.string (X i).x,.int .i64 (X i).r] 92):=⟨_,rfl⟩
      obtain ⟨g9,hg9⟩ : ∃ g9,g9 = wr.heap.size:=⟨_,rfl⟩
      have k9 : Kb 0 wr w9:=by rw [hw9];exact kb_alloc _ _ _
      have b9 : w9.heap[g9]? = some (.cells #[.int .i64 (X i).k,.int .i64 (X i).m,.float .f64 (X i).g,.string (X i).x,.int .i64 (X i).r] 92 (0,0)):=by rw [hw9,hg9];exact alloc_new _ _ _
      have HW9 : Hid (w9 = wr.alloc (.cells #[.int .i64 (X i).k,.int .i64 (X i).m,.float .f64 (X i).g,.string (X i).x,.int .i64 (X i).r] 92) ∧ g9 = wr.heap.size):=(⟨hw9,hg9⟩ : _ ∧ _)
      have hw2:=hw.call k9
      obtain ⟨kk,im,lf,lo,hbk,hcs⟩:=id hw2
      have clo : w9.cell? ⟨w0.heap.size,2,none⟩ = some (.bool lo):=cell_of hbk rfl
      cases lo with
      | true =>
        have hlong : 1000000 < ((l ++ nbs [(n : Int)]) ++ ct (fun i=>cb (X i)) i).length:=by
          rcases hcs with ⟨_,h,_⟩ | ⟨h,_⟩
          · cases h
          · exact h
        have HN : Hid (WS w0 (l ++ lb (fun i=>cb (X i)) n) w9 ∧ Lib.OthersKept 5 (some w0.heap.size) W w9):=by
          show WS w0 (l ++ lb (fun i=>cb (X i)) n) w9 ∧ Lib.OthersKept 5 (some w0.heap.size) W w9
          refine ⟨⟨kk,im,lf,true,hbk,.inr ⟨?_,rfl,?_⟩⟩,hok.trans (ok_kb k9 _)⟩
          · rw [← (show _ = l ++ lb _ n from HE),List.length_append]
            have:=ct_mono (fun i=>cb (X i)) hi
            rw [List.length_append] at hlong
            omega
          · rcases hcs with ⟨_,h,_⟩ | ⟨_,_,h⟩
            · cases h
            · exact h
        clear hw9 hg9 k9 b9 hw hok hw2 kk hbk hcs hlong HX hr2 hrb
        go_upto_region 4 with fail
        rw [← (show w9 = _ ∧ _ from HW9).1]
        try rw [← (show w9 = _ ∧ _ from HW9).2]
        clear HW9 z0 z1 z2 z3 z4
        go_wp2_with fail
        exact ⟨rfl,.tuple #[],by simp [results,Tryz.results58],rfl,(show _ ∧ _ from HN).1,(show _ ∧ _ from HN).2⟩
      | false =>
        have HC:=im_value (X i) (hX i hin).1 (hX i hin).2.1 (hX i hin).2.2.1 (hX i hin).2.2.2 hw2
        have HO : Hid (Lib.OthersKept 5 (some w0.heap.size) W w9 ∧ ((l ++ nbs [(n : Int)]) ++ ct (fun i=>cb (X i)) (i + 1) = ((l ++ nbs [(n : Int)]) ++ ct (fun i=>cb (X i)) i) ++ (fun i=>cb (X i)) i)):=(⟨hok.trans (ok_kb k9 _),(show ∀ i,_ from HL) i⟩ : _ ∧ _)
        have c0 : w9.cell? ⟨g9,0,none⟩ = some (.int .i64 (X i).k):=cell_of b9 rfl
        have c1 : w9.cell? ⟨g9,1,none⟩ = some (.int .i64 (X i).m):=cell_of b9 rfl
        have c2 : w9.cell? ⟨g9,2,none⟩ = some (.float .f64 (X i).g):=cell_of b9 rfl
        have c3 : w9.cell? ⟨g9,3,none⟩ = some (.string (X i).x):=cell_of b9 rfl
        have c4 : w9.cell? ⟨g9,4,none⟩ = some (.int .i64 (X i).r):=cell_of b9 rfl
        clear hw9 hg9 k9 b9 hw hok hw2 kk hbk hcs HX hr2 hrb
        go_upto_region 4 with fail
        rw [← (show w9 = _ ∧ _ from HW9).1]
        try rw [← (show w9 = _ ∧ _ from HW9).2]
        clear HW9 z0 z1 z2 z3 z4
        go_wp2_with fail
        refine HC.mono ?_
        rintro e w2 ⟨rfl,y1,y2⟩
        obtain ⟨o1,o2⟩:=(show _ ∧ _ from HO)
        have HN : Hid (WS w0 ((l ++ nbs [(n : Int)]) ++ ct (fun i=>cb (X i)) (i + 1)) w2 ∧ Lib.OthersKept 5 (some w0.heap.size) W w2):=(⟨by rw [o2];exact y1,o1.trans y2⟩ : _ ∧ _)
        clear HC y1 y2 HO o1 o2 clo c0 c1 c2 c3 c4
        go_wp2_with fail
        go_roundw
        case rel=>exact ⟨i + 1,by omega,by go_num,HN⟩
        case measure=>simp [intOf];omega
    · obtain rfl : i = n:=by omega
      have hI : ¬ (i : Int) < (i : Int):=by omega
      have HN : Hid (WS w0 (l ++ lb (fun i=>cb (X i)) i) wr ∧ Lib.OthersKept 5 (some w0.heap.size) W wr):=by
        rw [show _ = l ++ lb _ i from HE] at hw
        exact (⟨hw,hok⟩ : _ ∧ _)
      clear hw hok HX HR HL HE
      go_wp2_with fail
      exact ⟨rfl,.tuple #[],by simp [results,Tryz.results58],rfl,(show _ ∧ _ from HN).1,(show _ ∧ _ from HN).2⟩
theorem wl_inss {w0 W : World} {l : List UInt8} {pa : Option Addr} {ca n : Nat} {X : Nat → Iv} (hX : ∀ i, i < n → Rn (X i).o ∧ Rn (X i).a ∧ Rn (X i).b ∧ Rn (X i).c ∧ Rn (X i).d) (hn : n ≤ 6000) (hrow : RowI 0 w0 (.slice pa n ca) n X) (hw : WS w0 l W) :
    Calls Tryz.prog 60 #[.pointer (some ⟨w0.heap.size,0,none⟩),.slice pa n ca,.func (Fn.func 61) #[.pointer (some ⟨w0.heap.size,0,none⟩)] #[]] W (WP w0 W (l ++ lb (fun i=>ib (X i)) n)):=by
  have hst : ∀ (a : Addr) (n : Nat) (m : Mode) (w : World),(store a (.float .f64 n) m).run Tryz.prog w = stored Tryz.prog w a (.float .f64 n) m:=fun a n m w=>run_store _ _ _ _ _ rfl
  have HC:=im_num1 hw [(n : Int)] #[.int .i64 (n : Int)] 1 rfl rfl (fun y hy=>by rw [List.mem_singleton] at hy;subst hy;exact ⟨by omega,by omega⟩) (by simp)
  have hnI : (n : Int) ≤ 1048576:=by omega
  have HR : Hid (RowI 0 w0 (.slice pa n ca) n X):=hrow
  have HL : Hid (∀ i,(l ++ nbs [(n : Int)]) ++ ct (fun i=>ib (X i)) (i + 1) = ((l ++ nbs [(n : Int)]) ++ ct (fun i=>ib (X i)) i) ++ (fun i=>ib (X i)) i):=(fun i=>by show (l ++ nbs [(n : Int)]) ++ (ct (fun i=>ib (X i)) i ++ (fun i=>ib (X i)) i) = _;rw [← List.append_assoc] : ∀ i,_)
  have HE : Hid ((l ++ nbs [(n : Int)]) ++ ct (fun i=>ib (X i)) n = l ++ lb (fun i=>ib (X i)) n):=by
    show (l ++ (nb (n : Int) ++ [])) ++ _ = l ++ (nb (n : Int) ++ _)
    rw [List.append_nil,List.append_assoc]
  clear hw hrow hn
  go_enter Tryz.func60,Tryz.ntmps60
  go_wp2_with fail
  refine HC.mono ?_
  rintro e w1 ⟨rfl,y1,y2⟩
  have HS : Hid (WS w0 ((l ++ nbs [(n : Int)]) ++ ct (fun i=>ib (X i)) 0) w1 ∧ Lib.OthersKept 5 (some w0.heap.size) W w1):=(⟨by rw [show ct (fun i=>ib (X i)) 0 = [] from rfl,List.append_nil];exact y1,y2⟩ : _ ∧ _)
  clear HC y1 y2
  go_wp2_with fail
  go_loopw [15] (fun sl wr=>∃ (i : Nat),i ≤ n ∧ sl = .int .i64 (i : Int) ∧ Hid (WS w0 ((l ++ nbs [(n : Int)]) ++ ct (fun i=>ib (X i)) i) wr ∧ Lib.OthersKept 5 (some w0.heap.size) W wr)) (fun sl _=>n - (intOf sl).toNat)
  case atStart=>exact ⟨0,by omega,rfl,HS⟩
  case round =>
    clear HS
    obtain ⟨i,hi,rfl,HX⟩:=hrel
    obtain ⟨hw,hok⟩:=(show _ ∧ _ from HX)
    by_cases hin : i < n
    · have hI : (i : Int) < (n : Int):=by omega
      obtain ⟨pa',ca',e1,hr2⟩:=(show RowI 0 w0 (.slice pa n ca) n X from HR).keep hw.1
      obtain ⟨rfl,-,rfl⟩:=(Value.slice.injEq _ _ _ _ _ _).mp e1
      obtain ⟨b,rfl,hcb,-,hrb⟩:=hr2 (by omega)
      obtain ⟨z0,z1,z2,z3,z4⟩:=hrb i hin
      obtain ⟨w9,hw9⟩ : ∃ w9,w9 = wr.alloc (.cells #[.int .i64 (X i).o,.int .i64 (X i).a,.int .i64 (X i).b,.int .i64 (X i).c,.int .i64 (X i).d] 81):=⟨_,rfl⟩
      obtain ⟨g9,hg9⟩ : ∃ g9,g9 = wr.heap.size:=⟨_,rfl⟩
      have k9 : Kb 0 wr w9:=by rw [hw9];exact kb_alloc _ _ _
      have b9 : w9.heap[g9]? = some (.cells #[.int .i64 (X i).o,.int .i64 (X i).a,.int .i64 (X i).b,.int .i64 (X i).c,.int .i64 (X i).d] 81 (0,0)):=by rw [hw9,hg9];exact alloc_new _ _ _
      have HW9 : Hid (w9 = wr.alloc (.cells #[.int .i64 (X i).o,.int .i64 (X i).a,.int .i64 (X i).b,.int .i64 (X i).c,.int .i64 (X i).d] 81) ∧ g9 = wr.heap.size):=(⟨hw9,hg9⟩ : _ ∧ _)
      have hw2:=hw.call k9
      obtain ⟨kk,im,lf,lo,hbk,hcs⟩:=id hw2
      have clo : w9.cell? ⟨w0.heap.size,2,none⟩ = some (.bool lo):=cell_of hbk rfl
      cases lo with
      | true =>
        have hlong : 1000000 < ((l ++ nbs [(n : Int)]) ++ ct (fun i=>ib (X i)) i).length:=by
          rcases hcs with ⟨_,h,_⟩ | ⟨h,_⟩
          · cases h
          · exact h
        have HN : Hid (WS w0 (l ++ lb (fun i=>ib (X i)) n) w9 ∧ Lib.OthersKept 5 (some w0.heap.size) W w9):=by
          show WS w0 (l ++ lb (fun i=>ib (X i)) n) w9 ∧ Lib.OthersKept 5 (some w0.heap.size) W w9
          refine ⟨⟨kk,im,lf,true,hbk,.inr ⟨?_,rfl,?_⟩⟩,hok.trans (ok_kb k9 _)⟩
          · rw [← (show _ = l ++ lb _ n from HE),List.length_append]
            have:=ct_mono (fun i=>ib (X i)) hi
            rw [List.length_append] at hlong
            omega
          · rcases hcs with ⟨_,h,_⟩ | ⟨_,_,h⟩
            · cases h
            · exact h
        clear hw9 hg9 k9 b9 hw hok hw2 kk hbk hcs hlong HX hr2 hrb
        go_upto_region 4 with fail
        rw [← (show w9 = _ ∧ _ from HW9).1]
        try rw [← (show w9 = _ ∧ _ from HW9).2]
        clear HW9 z0 z1 z2 z3 z4
        go_wp2_with fail
        exact ⟨rfl,.tuple #[],by simp [results,Tryz.results60],rfl,(show _ ∧ _ from HN).1,(show _ ∧ _ from HN).2⟩
      | false =>
        have HC:=im_ins (X i) (hX i hin) hw2
        have HO : Hid (Lib.OthersKept 5 (some w0.heap.size) W w9 ∧ ((l ++ nbs [(n : Int)]) ++ ct (fun i=>ib (X i)) (i + 1) = ((l ++ nbs [(n : Int)]) ++ ct (fun i=>ib (X i)) i) ++ (fun i=>ib (X i)) i)):=(⟨hok.trans (ok_kb k9 _),(show ∀ i,_ from HL) i⟩ : _ ∧ _)
        have c0 : w9.cell? ⟨g9,0,none⟩ = some (.int .i64 (X i).o):=cell_of b9 rfl
        have c1 : w9.cell? ⟨g9,1,none⟩ = some (.int .i64 (X i).a):=cell_of b9 rfl
        have c2 : w9.cell? ⟨g9,2,none⟩ = some (.int .i64 (X i).b):=cell_of b9 rfl
        have c3 : w9.cell? ⟨g9,3,none⟩ = some (.int .i64 (X i).c):=cell_of b9 rfl
        have c4 : w9.cell? ⟨g9,4,none⟩ = some (.int .i64 (X i).d):=cell_of b9 rfl
        clear hw9 hg9 k9 b9 hw hok hw2 kk hbk hcs HX hr2 hrb
        go_upto_region 4 with fail
        rw [← (show w9 = _ ∧ _ from HW9).1]
        try rw [← (show w9 = _ ∧ _ from HW9).2]
        clear HW9 z0 z1 z2 z3 z4
        go_wp2_with fail
        refine HC.mono ?_
        rintro e w2 ⟨rfl,y1,y2⟩
        obtain ⟨o1,o2⟩:=(show _ ∧ _ from HO)
        have HN : Hid (WS w0 ((l ++ nbs [(n : Int)]) ++ ct (fun i=>ib (X i)) (i + 1)) w2 ∧ Lib.OthersKept 5 (some w0.heap.size) W w2):=(⟨by rw [o2];exact y1,o1.trans y2⟩ : _ ∧ _)
        clear HC y1 y2 HO o1 o2 clo c0 c1 c2 c3 c4
        go_wp2_with fail
        go_roundw
        case rel=>exact ⟨i + 1,by omega,by go_num,HN⟩
        case measure=>simp [intOf];omega
    · obtain rfl : i = n:=by omega
      have hI : ¬ (i : Int) < (i : Int):=by omega
      have HN : Hid (WS w0 (l ++ lb (fun i=>ib (X i)) i) wr ∧ Lib.OthersKept 5 (some w0.heap.size) W wr):=by
        rw [show _ = l ++ lb _ i from HE] at hw
        exact (⟨hw,hok⟩ : _ ∧ _)
      clear hw hok HX HR HL HE
      go_wp2_with fail
      exact ⟨rfl,.tuple #[],by simp [results,Tryz.results60],rfl,(show _ ∧ _ from HN).1,(show _ ∧ _ from HN).2⟩
theorem wl_nams {w0 W : World} {l : List UInt8} {pa : Option Addr} {ca n : Nat} {X : Nat → Mv} (hX : ∀ i, i < n → ((X i).x.size : Int) ≤ 1048576 ∧ Rn (X i).g ∧ Rn (X i).f ∧ Rn (X i).t) (hn : n ≤ 6000) (hrow : RowM 0 w0 (.slice pa n ca) n X) (hw : WS w0 l W) :
    Calls Tryz.prog 62 #[.pointer (some ⟨w0.heap.size,0,none⟩),.slice pa n ca,.func (Fn.func 63) #[.pointer (some ⟨w0.heap.size,0,none⟩)] #[]] W (WP w0 W (l ++ lb (fun i=>mb (X i)) n)):=by
  have hst : ∀ (a : Addr) (n : Nat) (m : Mode) (w : World),(store a (.float .f64 n) m).run Tryz.prog w = stored Tryz.prog w a (.float .f64 n) m:=fun a n m w=>run_store _ _ _ _ _ rfl
  have HC:=im_num1 hw [(n : Int)] #[.int .i64 (n : Int)] 1 rfl rfl (fun y hy=>by rw [List.mem_singleton] at hy;subst hy;exact ⟨by omega,by omega⟩) (by simp)
  have hnI : (n : Int) ≤ 1048576:=by omega
  have HR : Hid (RowM 0 w0 (.slice pa n ca) n X):=hrow
  have HL : Hid (∀ i,(l ++ nbs [(n : Int)]) ++ ct (fun i=>mb (X i)) (i + 1) = ((l ++ nbs [(n : Int)]) ++ ct (fun i=>mb (X i)) i) ++ (fun i=>mb (X i)) i):=(fun i=>by show (l ++ nbs [(n : Int)]) ++ (ct (fun i=>mb (X i)) i ++ (fun i=>mb (X i)) i) = _;rw [← List.append_assoc] : ∀ i,_)
  have HE : Hid ((l ++ nbs [(n : Int)]) ++ ct (fun i=>mb (X i)) n = l ++ lb (fun i=>mb (X i)) n):=by
    show (l ++ (nb (n : Int) ++ [])) ++ _ = l ++ (nb (n : Int) ++ _)
    rw [List.append_nil,List.append_assoc]
  clear hw hrow hn
  go_enter Tryz.func62,Tryz.ntmps62
  go_wp2_with fail
  refine HC.mono ?_
  rintro e w1 ⟨rfl,y1,y2⟩
  have HS : Hid (WS w0 ((l ++ nbs [(n : Int)]) ++ ct (fun i=>mb (X i)) 0) w1 ∧ Lib.OthersKept 5 (some w0.heap.size) W w1):=(⟨by rw [show ct (fun i=>mb (X i)) 0 = [] from rfl,List.append_nil];exact y1,y2⟩ : _ ∧ _)
  clear HC y1 y2
  go_wp2_with fail
  go_loopw [15] (fun sl wr=>∃ (i : Nat),i ≤ n ∧ sl = .int .i64 (i : Int) ∧ Hid (WS w0 ((l ++ nbs [(n : Int)]) ++ ct (fun i=>mb (X i)) i) wr ∧ Lib.OthersKept 5 (some w0.heap.size) W wr)) (fun sl _=>n - (intOf sl).toNat)
  case atStart=>exact ⟨0,by omega,rfl,HS⟩
  case round =>
    clear HS
    obtain ⟨i,hi,rfl,HX⟩:=hrel
    obtain ⟨hw,hok⟩:=(show _ ∧ _ from HX)
    by_cases hin : i < n
    · have hI : (i : Int) < (n : Int):=by omega
      obtain ⟨pa',ca',e1,hr2⟩:=(show RowM 0 w0 (.slice pa n ca) n X from HR).keep hw.1
      obtain ⟨rfl,-,rfl⟩:=(Value.slice.injEq _ _ _ _ _ _).mp e1
      obtain ⟨b,rfl,hcb,-,hrb⟩:=hr2 (by omega)
      obtain ⟨z0,z1,z2,z3⟩:=hrb i hin
      obtain ⟨w9,hw9⟩ : ∃ w9,w9 = wr.alloc (.cells #[.string (X i).x,.int .i64 (X i).g,.int .i64 (X i).f,.int .i64 (X i).t] 97):=⟨_,rfl⟩
      obtain ⟨g9,hg9⟩ : ∃ g9,g9 = wr.heap.size:=⟨_,rfl⟩
      have k9 : Kb 0 wr w9:=by rw [hw9];exact kb_alloc _ _ _
      have b9 : w9.heap[g9]? = some (.cells #[.string (X i).x,.int .i64 (X i).g,.int .i64 (X i).f,.int .i64 (X i).t] 97 (0,0)):=by rw [hw9,hg9];exact alloc_new _ _ _
      have HW9 : Hid (w9 = wr.alloc (.cells #[.string (X i).x,.int .i64 (X i).g,.int .i64 (X i).f,.int .i64 (X i).t] 97) ∧ g9 = wr.heap.size):=(⟨hw9,hg9⟩ : _ ∧ _)
      have hw2:=hw.call k9
      obtain ⟨kk,im,lf,lo,hbk,hcs⟩:=id hw2
      have clo : w9.cell? ⟨w0.heap.size,2,none⟩ = some (.bool lo):=cell_of hbk rfl
      cases lo with
      | true =>
        have hlong : 1000000 < ((l ++ nbs [(n : Int)]) ++ ct (fun i=>mb (X i)) i).length:=by
          rcases hcs with ⟨_,h,_⟩ | ⟨h,_⟩
          · cases h
          · exact h
        have HN : Hid (WS w0 (l ++ lb (fun i=>mb (X i)) n) w9 ∧ Lib.OthersKept 5 (some w0.heap.size) W w9):=by
          show WS w0 (l ++ lb (fun i=>mb (X i)) n) w9 ∧ Lib.OthersKept 5 (some w0.heap.size) W w9
          refine ⟨⟨kk,im,lf,true,hbk,.inr ⟨?_,rfl,?_⟩⟩,hok.trans (ok_kb k9 _)⟩
          · rw [← (show _ = l ++ lb _ n from HE),List.length_append]
            have:=ct_mono (fun i=>mb (X i)) hi
            rw [List.length_append] at hlong
            omega
          · rcases hcs with ⟨_,h,_⟩ | ⟨_,_,h⟩
            · cases h
            · exact h
        clear hw9 hg9 k9 b9 hw hok hw2 kk hbk hcs hlong HX hr2 hrb
        go_upto_region 4 with fail
        rw [← (show w9 = _ ∧ _ from HW9).1]
        try rw [← (show w9 = _ ∧ _ from HW9).2]
        clear HW9 z0 z1 z2 z3
        go_wp2_with fail
        exact ⟨rfl,.tuple #[],by simp [results,Tryz.results62],rfl,(show _ ∧ _ from HN).1,(show _ ∧ _ from HN).2⟩
      | false =>
        have HC:=im_named (X i) (hX i hin) hw2
        have HO : Hid (Lib.OthersKept 5 (some w0.heap.size) W w9 ∧ ((l ++ nbs [(n : Int)]) ++ ct (fun i=>mb (X i)) (i + 1) = ((l ++ nbs [(n : Int)]) ++ ct (fun i=>mb (X i)) i) ++ (fun i=>mb (X i)) i)):=(⟨hok.trans (ok_kb k9 _),(show ∀ i,_ from HL) i⟩ : _ ∧ _)
        have c0 : w9.cell? ⟨g9,0,none⟩ = some (.string (X i).x):=cell_of b9 rfl
        have c1 : w9.cell? ⟨g9,1,none⟩ = some (.int .i64 (X i).g):=cell_of b9 rfl
        have c2 : w9.cell? ⟨g9,2,none⟩ = some (.int .i64 (X i).f):=cell_of b9 rfl
        have c3 : w9.cell? ⟨g9,3,none⟩ = some (.int .i64 (X i).t):=cell_of b9 rfl
        clear hw9 hg9 k9 b9 hw hok hw2 kk hbk hcs HX hr2 hrb
        go_upto_region 4 with fail
        rw [← (show w9 = _ ∧ _ from HW9).1]
        try rw [← (show w9 = _ ∧ _ from HW9).2]
        clear HW9 z0 z1 z2 z3
        go_wp2_with fail
        refine HC.mono ?_
        rintro e w2 ⟨rfl,y1,y2⟩
        obtain ⟨o1,o2⟩:=(show _ ∧ _ from HO)
        have HN : Hid (WS w0 ((l ++ nbs [(n : Int)]) ++ ct (fun i=>mb (X i)) (i + 1)) w2 ∧ Lib.OthersKept 5 (some w0.heap.size) W w2):=(⟨by rw [o2];exact y1,o1.trans y2⟩ : _ ∧ _)
        clear HC y1 y2 HO o1 o2 clo c0 c1 c2 c3
        go_wp2_with fail
        go_roundw
        case rel=>exact ⟨i + 1,by omega,by go_num,HN⟩
        case measure=>simp [intOf];omega
    · obtain rfl : i = n:=by omega
      have hI : ¬ (i : Int) < (i : Int):=by omega
      have HN : Hid (WS w0 (l ++ lb (fun i=>mb (X i)) i) wr ∧ Lib.OthersKept 5 (some w0.heap.size) W wr):=by
        rw [show _ = l ++ lb _ i from HE] at hw
        exact (⟨hw,hok⟩ : _ ∧ _)
      clear hw hok HX HR HL HE
      go_wp2_with fail
      exact ⟨rfl,.tuple #[],by simp [results,Tryz.results62],rfl,(show _ ∧ _ from HN).1,(show _ ∧ _ from HN).2⟩
theorem im_pro {w0 W : World} {l : List UInt8} {d : Pd} {pu pc pn pm : Option Addr} {cu cc cn cm : Nat} (hps : Psh d) (ru : RowU 0 w0 (.slice pu d.u cu) d.u d.U) (rc : RowW 0 w0 (.slice pc d.c cc) d.c d.C) (rn : RowI 0 w0 (.slice pn d.n cn) d.n d.N) (rm : RowM 0 w0 (.slice pm d.d cm) d.d d.D) (hw : WS w0 l W) :
    Calls Tryz.prog 26 #[.pointer (some ⟨w0.heap.size,0,none⟩),.agg #[.string d.x,.int .i64 d.l,.int .i64 d.m,.bool d.r,.int .i64 d.g,.slice pu d.u cu,.slice pc d.c cc,.slice pn d.n cn,.slice pm d.d cm]] W (WP w0 W (l ++ pb d)):=by
  obtain ⟨w9,hw9⟩ : ∃ w9,w9 = W.alloc (.cells #[.string d.x,.int .i64 d.l,.int .i64 d.m,.bool d.r,.int .i64 d.g,.slice pu d.u cu,.slice pc d.c cc,.slice pn d.n cn,.slice pm d.d cm] 50):=⟨_,rfl⟩
  obtain ⟨g9,hg9⟩ : ∃ g9,g9 = W.heap.size:=⟨_,rfl⟩
  have k9 : Kb 0 W w9:=by rw [hw9];exact kb_alloc _ _ _
  have b9 : w9.heap[g9]? = some (.cells #[.string d.x,.int .i64 d.l,.int .i64 d.m,.bool d.r,.int .i64 d.g,.slice pu d.u cu,.slice pc d.c cc,.slice pn d.n cn,.slice pm d.d cm] 50 (0,0)):=by rw [hw9,hg9];exact alloc_new _ _ _
  have hgb : g9 ≠ w0.heap.size:=by have:=hw.lt;omega
  have HB9 : Hid (∀ W',Lib.OthersKept 5 (some w0.heap.size) w9 W' → W'.heap[g9]? = some (.cells #[.string d.x,.int .i64 d.l,.int .i64 d.m,.bool d.r,.int .i64 d.g,.slice pu d.u cu,.slice pc d.c cc,.slice pn d.n cn,.slice pm d.d cm] 50 (0,0))):=(fun W' k=>ok_cells k b9 (by simpa using hgb) (by decide) : ∀ W',_)
  have HW9 : Hid (w9 = W.alloc (.cells #[.string d.x,.int .i64 d.l,.int .i64 d.m,.bool d.r,.int .i64 d.g,.slice pu d.u cu,.slice pc d.c cc,.slice pn d.n cn,.slice pm d.d cm] 50) ∧ g9 = W.heap.size):=(⟨hw9,hg9⟩ : _ ∧ _)
  have HOI : Hid (Lib.OthersKept 5 (some w0.heap.size) W w9):=ok_kb k9 _
  have HE0 : Hid (WS w0 l w9 ∧ Lib.OthersKept 5 (some w0.heap.size) w9 w9):=(⟨hw.call k9,Lib.OthersKept.refl _ _ _⟩ : _ ∧ _)
  obtain ⟨M0,hM0⟩ : ∃ M0,M0 = l:=⟨_,rfl⟩
  rw [← hM0] at HE0
  have HM0 : Hid (M0 = l):=hM0
  clear hw9 hg9 k9 b9 hw hgb hM0
  go_enter Tryz.func26,Tryz.ntmps26
  go_upto_region 1 with fail
  rw [← (show w9 = _ ∧ _ from HW9).1]
  try rw [← (show w9 = _ ∧ _ from HW9).2]
  clear HW9
  obtain ⟨q0,o0⟩:=(show _ ∧ _ from HE0)
  have bx:=(show ∀ W',Lib.OthersKept 5 (some w0.heap.size) w9 W' → _ from HB9) w9 o0
  have c0 : w9.cell? ⟨g9,0,none⟩ = some (.string d.x):=cell_of bx rfl
  have HC:=im_text d.x hps.hx q0
  clear bx
  go_upto_region 2 with (go_at_call 54;refine HC.mono ?_;rintro e x1 ⟨rfl,qq,oo⟩)
  obtain ⟨M1,hM1⟩ : ∃ M1,M1 = M0 ++ tb d.x:=⟨_,rfl⟩
  rw [← hM1] at qq
  have HM1 : Hid (M1 = M0 ++ tb d.x):=hM1
  have HE1 : Hid (WS w0 M1 x1 ∧ Lib.OthersKept 5 (some w0.heap.size) w9 x1):=(⟨qq,o0.trans oo⟩ : _ ∧ _)
  clear HC q0 o0 qq oo hM1 HE0
  clear c0
  obtain ⟨q1,o1⟩:=(show _ ∧ _ from HE1)
  have bx:=(show ∀ W',Lib.OthersKept 5 (some w0.heap.size) w9 W' → _ from HB9) x1 o1
  have c1 : x1.cell? ⟨g9,1,none⟩ = some (.int .i64 d.l):=cell_of bx rfl
  have c2 : x1.cell? ⟨g9,2,none⟩ = some (.int .i64 d.m):=cell_of bx rfl
  have HC:=im_num1 q1 [d.l,d.m] #[.int .i64 d.l,.int .i64 d.m] 2 rfl rfl (fun y hy=>by simp only [List.mem_cons,List.not_mem_nil,or_false] at hy;rcases hy with h | h <;> (rw [h];first | exact hps.hl | exact hps.hm)) (by simp)
  clear bx
  go_upto_region 3 with (go_at_call 53;refine HC.mono ?_;rintro e x2 ⟨rfl,qq,oo⟩)
  obtain ⟨M2,hM2⟩ : ∃ M2,M2 = M1 ++ nbs [d.l,d.m]:=⟨_,rfl⟩
  rw [← hM2] at qq
  have HM2 : Hid (M2 = M1 ++ nbs [d.l,d.m]):=hM2
  have HE2 : Hid (WS w0 M2 x2 ∧ Lib.OthersKept 5 (some w0.heap.size) w9 x2):=(⟨qq,o1.trans oo⟩ : _ ∧ _)
  clear HC q1 o1 qq oo hM2 HE1
  clear c1
  clear c2
  obtain ⟨q2,o2⟩:=(show _ ∧ _ from HE2)
  have bx:=(show ∀ W',Lib.OthersKept 5 (some w0.heap.size) w9 W' → _ from HB9) x2 o2
  have c3 : x2.cell? ⟨g9,3,none⟩ = some (.bool d.r):=cell_of bx rfl
  have HC:=im_flag d.r q2
  clear bx
  go_upto_region 4 with (go_at_call 55;refine HC.mono ?_;rintro e x3 ⟨rfl,qq,oo⟩)
  obtain ⟨M3,hM3⟩ : ∃ M3,M3 = M2 ++ fb d.r:=⟨_,rfl⟩
  rw [← hM3] at qq
  have HM3 : Hid (M3 = M2 ++ fb d.r):=hM3
  have HE3 : Hid (WS w0 M3 x3 ∧ Lib.OthersKept 5 (some w0.heap.size) w9 x3):=(⟨qq,o2.trans oo⟩ : _ ∧ _)
  clear HC q2 o2 qq oo hM3 HE2
  clear c3
  obtain ⟨q3,o3⟩:=(show _ ∧ _ from HE3)
  have bx:=(show ∀ W',Lib.OthersKept 5 (some w0.heap.size) w9 W' → _ from HB9) x3 o3
  have c4 : x3.cell? ⟨g9,4,none⟩ = some (.int .i64 d.g):=cell_of bx rfl
  have HC:=im_num1 q3 [d.g] #[.int .i64 d.g] 1 rfl rfl (fun y hy=>by rw [List.mem_singleton] at hy;subst hy;exact hps.hg) (by simp)
  clear bx
  go_upto_region 5 with (go_at_call 53;refine HC.mono ?_;rintro e x4 ⟨rfl,qq,oo⟩)
  obtain ⟨M4,hM4⟩ : ∃ M4,M4 = M3 ++ nbs [d.g]:=⟨_,rfl⟩
  rw [← hM4] at qq
  have HM4 : Hid (M4 = M3 ++ nbs [d.g]):=hM4
  have HE4 : Hid (WS w0 M4 x4 ∧ Lib.OthersKept 5 (some w0.heap.size) w9 x4):=(⟨qq,o3.trans oo⟩ : _ ∧ _)
  clear HC q3 o3 qq oo hM4 HE3
  clear c4
  obtain ⟨q4,o4⟩:=(show _ ∧ _ from HE4)
  have bx:=(show ∀ W',Lib.OthersKept 5 (some w0.heap.size) w9 W' → _ from HB9) x4 o4
  have c5 : x4.cell? ⟨g9,5,none⟩ = some (.slice pu d.u cu):=cell_of bx rfl
  have HC:=wl_ups (X:=d.U) hps.hU (by have:=hps.hu;omega) ru q4
  clear bx
  go_upto_region 6 with (go_at_call 56;refine HC.mono ?_;rintro e x5 ⟨rfl,qq,oo⟩)
  obtain ⟨M5,hM5⟩ : ∃ M5,M5 = M4 ++ lb (fun i=>ub (d.U i)) d.u:=⟨_,rfl⟩
  rw [← hM5] at qq
  have HM5 : Hid (M5 = M4 ++ lb (fun i=>ub (d.U i)) d.u):=hM5
  have HE5 : Hid (WS w0 M5 x5 ∧ Lib.OthersKept 5 (some w0.heap.size) w9 x5):=(⟨qq,o4.trans oo⟩ : _ ∧ _)
  clear HC q4 o4 qq oo hM5 HE4
  clear c5
  obtain ⟨q5,o5⟩:=(show _ ∧ _ from HE5)
  have bx:=(show ∀ W',Lib.OthersKept 5 (some w0.heap.size) w9 W' → _ from HB9) x5 o5
  have c6 : x5.cell? ⟨g9,6,none⟩ = some (.slice pc d.c cc):=cell_of bx rfl
  have HC:=wl_vals (X:=d.C) hps.hC (by have:=hps.hc;omega) rc q5
  clear bx
  go_upto_region 7 with (go_at_call 58;refine HC.mono ?_;rintro e x6 ⟨rfl,qq,oo⟩)
  obtain ⟨M6,hM6⟩ : ∃ M6,M6 = M5 ++ lb (fun i=>cb (d.C i)) d.c:=⟨_,rfl⟩
  rw [← hM6] at qq
  have HM6 : Hid (M6 = M5 ++ lb (fun i=>cb (d.C i)) d.c):=hM6
  have HE6 : Hid (WS w0 M6 x6 ∧ Lib.OthersKept 5 (some w0.heap.size) w9 x6):=(⟨qq,o5.trans oo⟩ : _ ∧ _)
  clear HC q5 o5 qq oo hM6 HE5
  clear c6
  obtain ⟨q6,o6⟩:=(show _ ∧ _ from HE6)
  have bx:=(show ∀ W',Lib.OthersKept 5 (some w0.heap.size) w9 W' → _ from HB9) x6 o6
  have c7 : x6.cell? ⟨g9,7,none⟩ = some (.slice pn d.n cn):=cell_of bx rfl
  have HC:=wl_inss (X:=d.N) hps.hN (by have:=hps.hn;omega) rn q6
  clear bx
  go_upto_region 8 with (go_at_call 60;refine HC.mono ?_;rintro e x7 ⟨rfl,qq,oo⟩)
  obtain ⟨M7,hM7⟩ : ∃ M7,M7 = M6 ++ lb (fun i=>ib (d.N i)) d.n:=⟨_,rfl⟩
  rw [← hM7] at qq
  have HM7 : Hid (M7 = M6 ++ lb (fun i=>ib (d.N i)) d.n):=hM7
  have HE7 : Hid (WS w0 M7 x7 ∧ Lib.OthersKept 5 (some w0.heap.size) w9 x7):=(⟨qq,o6.trans oo⟩ : _ ∧ _)
  clear HC q6 o6 qq oo hM7 HE6
  clear c7
  obtain ⟨q7,o7⟩:=(show _ ∧ _ from HE7)
  have bx:=(show ∀ W',Lib.OthersKept 5 (some w0.heap.size) w9 W' → _ from HB9) x7 o7
  have c8 : x7.cell? ⟨g9,8,none⟩ = some (.slice pm d.d cm):=cell_of bx rfl
  have HC:=wl_nams (X:=d.D) hps.hD (by have:=hps.hd;omega) rm q7
  clear bx
  go_wp2_with (go_at_call 62;refine HC.mono ?_;rintro e x8 ⟨rfl,qq,oo⟩)
  obtain ⟨M8,hM8⟩ : ∃ M8,M8 = M7 ++ lb (fun i=>mb (d.D i)) d.d:=⟨_,rfl⟩
  rw [← hM8] at qq
  have HM8 : Hid (M8 = M7 ++ lb (fun i=>mb (d.D i)) d.d):=hM8
  have HE8 : Hid (WS w0 M8 x8 ∧ Lib.OthersKept 5 (some w0.heap.size) w9 x8):=(⟨qq,o7.trans oo⟩ : _ ∧ _)
  clear HC q7 o7 qq oo hM8 HE7
  clear c8
  have HN : Hid (WS w0 (l ++ pb d) x8 ∧ Lib.OthersKept 5 (some w0.heap.size) W x8):=(⟨by
    have e : l ++ pb d = M8:=by
      rw [show M8 = _ from HM8,show M7 = _ from HM7,show M6 = _ from HM6,show M5 = _ from HM5,show M4 = _ from HM4,show M3 = _ from HM3,show M2 = _ from HM2,show M1 = _ from HM1,show M0 = _ from HM0]
      unfold pb;simp only [List.append_assoc,nbs,List.append_nil]
    rw [e];exact (show _ ∧ _ from HE8).1,(show Lib.OthersKept 5 (some w0.heap.size) W w9 from HOI).trans (show _ ∧ _ from HE8).2⟩ : _ ∧ _)
  clear HE8 HOI HB9
  try go_wp2_with fail
  exact ⟨rfl,.tuple #[],by simp [results,Tryz.results26],rfl,(show _ ∧ _ from HN).1,(show _ ∧ _ from HN).2⟩
end Go.Proofs.YtjhojecmoflifaaGreatDoor.Fo
