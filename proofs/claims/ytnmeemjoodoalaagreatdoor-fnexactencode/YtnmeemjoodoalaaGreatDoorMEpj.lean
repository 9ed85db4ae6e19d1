import Derived.Test.YtnmeemjoodoalaaGreatDoorMEph
import Derived.Test.YtnmeemjoodoalaaGreatDoorMEpi
import Derived.Test.YtnmeemjoodoalaaGreatDoorMChb
set_option maxHeartbeats 16000000
namespace Go.Proofs.YtnmeemjoodoalaaGreatDoor.Fo
open Go.ChangeShapes Go.WideShapes Go.ChangeAt Go.RowKit
set_option linter.unusedVariables false
set_option maxRecDepth 100000
theorem im_pro {w0 W : World} {l : List UInt8} {d : Pd} {pu pc pn pm : Option Addr} {cu cc cn cm : Nat} (hps : Psh d) (ru : RowU 0 w0 (.slice pu d.u cu) d.u d.U) (rc : RowW 0 w0 (.slice pc d.c cc) d.c d.C) (rn : RowI 0 w0 (.slice pn d.n cn) d.n d.N) (rm : RowM 0 w0 (.slice pm d.d cm) d.d d.D) (hw : WS w0 l W) :
    Calls Tryz.prog 26 #[.pointer (some ⟨w0.heap.size,0,none⟩),.agg #[.string d.x,.int .i64 d.l,.int .i64 d.m,.bool d.r,.int .i64 d.g,.slice pu d.u cu,.slice pc d.c cc,.slice pn d.n cn,.slice pm d.d cm]] W (WP w0 W (l ++ pb d)):=by
  obtain ⟨w9,hw9⟩ : ∃ w9,w9 = W.alloc (.cells #[.string d.x,.int .i64 d.l,.int .i64 d.m,.bool d.r,.int .i64 d.g,.slice pu d.u cu,.slice pc d.c cc,.slice pn d.n cn,.slice pm d.d cm] 50):=⟨_,rfl⟩
  obtain ⟨g9,hg9⟩ : ∃ g9,g9 = W.heap.size:=⟨_,rfl⟩
  have k9 : Kb 0 W w9:=by rw [hw9];exact kb_alloc _ _ _
  have b9 : w9.heap[g9]? = some (.cells #[.string d.x,.int .i64 d.l,.int .i64 d.m,.bool d.r,.int .i64 d.g,.slice pu d.u cu,.slice pc d.c cc,.slice pn d.n cn,.slice pm d.d cm] 50 (0,0)):=by rw [hw9,hg9];exact alloc_new _ _ _
  have hgb : g9 ≠ w0.heap.size:=by have:=hw.lt;omega
  have HB9 : Hid (∀ W',Lib.OthersKept 5 (some w0.heap.size) w9 W' → W'.heap[g9]? = some (.cells #[.string d.x,.int .i64 d.l,.int .i64 d.m,.bool d.r,.int .i64 d.g,.slice pu d.u cu,.slice pc d.c cc,.slice pn d.n cn,.slice pm d.d cm] 50 (0,0))):=(fun W' k=>ok_cells k b9 (by simpa using hgb) (by decide) : ∀ W',_)
  have HW9 : Hid (w9 = W.alloc (.cells #[.string d.x,.int .i64 d.l,.int .i64 d.m,.bool d.r,.int .i64 d.g,.slice pu d.u cu,.slice pc d.c cc,.slice pn d.n cn,.slice pm d.d cm] 50) ∧ g9 = W.heap.size):=(⟨hw9,hg9⟩ : _ ∧ _)
  have HOI : Hid (Lib.OthersKept 5 (some w0.heap.size) W w9):=ok_kb k9 _
  have HE0 : Hid (WS w0 l w9 ∧ Lib.OthersKept 5 (some w0.heap.size) w9 w9):=(⟨hw.call k9,Lib.OthersKept.refl _ _ _⟩ : _ ∧ _)
  obtain ⟨M0,hM0⟩ : ∃ M0,M0 = l:=⟨_,rfl⟩
  rw [← hM0] at HE0
  have HM0 : Hid (M0 = l):=hM0
  clear hw9 hg9 k9 b9 hw hgb hM0
  go_enter Tryz.func26,Tryz.ntmps26
  go_upto_region 1 with fail
  rw [← (show w9 = _ ∧ _ from HW9).1]
  try rw [← (show w9 = _ ∧ _ from HW9).2]
  clear HW9
  obtain ⟨q0,o0⟩:=(show _ ∧ _ from HE0)
  have bx:=(show ∀ W',Lib.OthersKept 5 (some w0.heap.size) w9 W' → _ from HB9) w9 o0
  have c0 : w9.cell? ⟨g9,0,none⟩ = some (.string d.x):=cell_of bx rfl
  have HC:=im_text d.x hps.hx q0
  clear bx
  go_upto_region 2 with (go_at_call 55;refine HC.mono ?_;rintro e x1 ⟨rfl,qq,oo⟩)
  obtain ⟨M1,hM1⟩ : ∃ M1,M1 = M0 ++ tb d.x:=⟨_,rfl⟩
  rw [← hM1] at qq
  have HM1 : Hid (M1 = M0 ++ tb d.x):=hM1
  have HE1 : Hid (WS w0 M1 x1 ∧ Lib.OthersKept 5 (some w0.heap.size) w9 x1):=(⟨qq,o0.trans oo⟩ : _ ∧ _)
  clear HC q0 o0 qq oo hM1 HE0
  clear c0
  obtain ⟨q1,o1⟩:=(show _ ∧ _ from HE1)
  have bx:=(show ∀ W',Lib.OthersKept 5 (some w0.heap.size) w9 W' → _ from HB9) x1 o1
  have c1 : x1.cell? ⟨g9,1,none⟩ = some (.int .i64 d.l):=cell_of bx rfl
  have c2 : x1.cell? ⟨g9,2,none⟩ = some (.int .i64 d.m):=cell_of bx rfl
  have HC:=im_num1 q1 [d.l,d.m] #[.int .i64 d.l,.int .i64 d.m] 2 rfl rfl (fun y hy=>by simp only [List.mem_cons,List.not_mem_nil,or_false] at hy;rcases hy with h | h <;> (rw [h];first | exact hps.hl | exact hps.hm)) (by simp)
  clear bx
  go_upto_region 3 with (go_at_call 53;refine HC.mono ?_;rintro e x2 ⟨rfl,qq,oo⟩)
  obtain ⟨M2,hM2⟩ : ∃ M2,M2 = M1 ++ nbs [d.l,d.m]:=⟨_,rfl⟩
  rw [← hM2] at qq
  have HM2 : Hid (M2 = M1 ++ nbs [d.l,d.m]):=hM2
  have HE2 : Hid (WS w0 M2 x2 ∧ Lib.OthersKept 5 (some w0.heap.size) w9 x2):=(⟨qq,o1.trans oo⟩ : _ ∧ _)
  clear HC q1 o1 qq oo hM2 HE1
  clear c1
  clear c2
  obtain ⟨q2,o2⟩:=(show _ ∧ _ from HE2)
  have bx:=(show ∀ W',Lib.OthersKept 5 (some w0.heap.size) w9 W' → _ from HB9) x2 o2
  have c3 : x2.cell? ⟨g9,3,none⟩ = some (.bool d.r):=cell_of bx rfl
  have HC:=im_flag d.r q2
  clear bx
  go_upto_region 4 with (go_at_call 56;refine HC.mono ?_;rintro e x3 ⟨rfl,qq,oo⟩)
  obtain ⟨M3,hM3⟩ : ∃ M3,M3 = M2 ++ fb d.r:=⟨_,rfl⟩
  rw [← hM3] at qq
  have HM3 : Hid (M3 = M2 ++ fb d.r):=hM3
  have HE3 : Hid (WS w0 M3 x3 ∧ Lib.OthersKept 5 (some w0.heap.size) w9 x3):=(⟨qq,o2.trans oo⟩ : _ ∧ _)
  clear HC q2 o2 qq oo hM3 HE2
  clear c3
  obtain ⟨q3,o3⟩:=(show _ ∧ _ from HE3)
  have bx:=(show ∀ W',Lib.OthersKept 5 (some w0.heap.size) w9 W' → _ from HB9) x3 o3
  have c4 : x3.cell? ⟨g9,4,none⟩ = some (.int .i64 d.g):=cell_of bx rfl
  have HC:=im_num1 q3 [d.g] #[.int .i64 d.g] 1 rfl rfl (fun y hy=>by rw [List.mem_singleton] at hy;subst hy;exact hps.hg) (by simp)
  clear bx
  go_upto_region 5 with (go_at_call 53;refine HC.mono ?_;rintro e x4 ⟨rfl,qq,oo⟩)
  obtain ⟨M4,hM4⟩ : ∃ M4,M4 = M3 ++ nbs [d.g]:=⟨_,rfl⟩
  rw [← hM4] at qq
  have HM4 : Hid (M4 = M3 ++ nbs [d.g]):=hM4
  have HE4 : Hid (WS w0 M4 x4 ∧ Lib.OthersKept 5 (some w0.heap.size) w9 x4):=(⟨qq,o3.trans oo⟩ : _ ∧ _)
  clear HC q3 o3 qq oo hM4 HE3
  clear c4
  obtain ⟨q4,o4⟩:=(show _ ∧ _ from HE4)
  have bx:=(show ∀ W',Lib.OthersKept 5 (some w0.heap.size) w9 W' → _ from HB9) x4 o4
  have c5 : x4.cell? ⟨g9,5,none⟩ = some (.slice pu d.u cu):=cell_of bx rfl
  have HC:=wl_ups (X:=d.U) hps.hU (by have:=hps.hu;omega) ru q4
  clear bx
  go_upto_region 6 with (go_at_call 57;refine HC.mono ?_;rintro e x5 ⟨rfl,qq,oo⟩)
  obtain ⟨M5,hM5⟩ : ∃ M5,M5 = M4 ++ lb (fun i=>ub (d.U i)) d.u:=⟨_,rfl⟩
  rw [← hM5] at qq
  have HM5 : Hid (M5 = M4 ++ lb (fun i=>ub (d.U i)) d.u):=hM5
  have HE5 : Hid (WS w0 M5 x5 ∧ Lib.OthersKept 5 (some w0.heap.size) w9 x5):=(⟨qq,o4.trans oo⟩ : _ ∧ _)
  clear HC q4 o4 qq oo hM5 HE4
  clear c5
  obtain ⟨q5,o5⟩:=(show _ ∧ _ from HE5)
  have bx:=(show ∀ W',Lib.OthersKept 5 (some w0.heap.size) w9 W' → _ from HB9) x5 o5
  have c6 : x5.cell? ⟨g9,6,none⟩ = some (.slice pc d.c cc):=cell_of bx rfl
  have HC:=wl_vals (X:=d.C) hps.hC (by have:=hps.hc;omega) rc q5
  clear bx
  go_upto_region 7 with (go_at_call 59;refine HC.mono ?_;rintro e x6 ⟨rfl,qq,oo⟩)
  obtain ⟨M6,hM6⟩ : ∃ M6,M6 = M5 ++ lb (fun i=>cb (d.C i)) d.c:=⟨_,rfl⟩
  rw [← hM6] at qq
  have HM6 : Hid (M6 = M5 ++ lb (fun i=>cb (d.C i)) d.c):=hM6
  have HE6 : Hid (WS w0 M6 x6 ∧ Lib.OthersKept 5 (some w0.heap.size) w9 x6):=(⟨qq,o5.trans oo⟩ : _ ∧ _)
  clear HC q5 o5 qq oo hM6 HE5
  clear c6
  obtain ⟨q6,o6⟩:=(show _ ∧ _ from HE6)
  have bx:=(show ∀ W',Lib.OthersKept 5 (some w0.heap.size) w9 W' → _ from HB9) x6 o6
  have c7 : x6.cell? ⟨g9,7,none⟩ = some (.slice pn d.n cn):=cell_of bx rfl
  have HC:=wl_inss (X:=d.N) hps.hN (by have:=hps.hn;omega) rn q6
  clear bx
  go_upto_region 8 with (go_at_call 61;refine HC.mono ?_;rintro e x7 ⟨rfl,qq,oo⟩)
  obtain ⟨M7,hM7⟩ : ∃ M7,M7 = M6 ++ lb (fun i=>ib (d.N i)) d.n:=⟨_,rfl⟩
  rw [← hM7] at qq
  have HM7 : Hid (M7 = M6 ++ lb (fun i=>ib (d.N i)) d.n):=hM7
  have HE7 : Hid (WS w0 M7 x7 ∧ Lib.OthersKept 5 (some w0.heap.size) w9 x7):=(⟨qq,o6.trans oo⟩ : _ ∧ _)
  clear HC q6 o6 qq oo hM7 HE6
  clear c7
  obtain ⟨q7,o7⟩:=(show _ ∧ _ from HE7)
  have bx:=(show ∀ W',Lib.OthersKept 5 (some w0.heap.size) w9 W' → _ from HB9) x7 o7
  have c8 : x7.cell? ⟨g9,8,none⟩ = some (.slice pm d.d cm):=cell_of bx rfl
  have HC:=wl_nams (X:=d.D) hps.hD (by have:=hps.hd;omega) rm q7
  clear bx
  go_wp2_with (go_at_call 63;refine HC.mono ?_;rintro e x8 ⟨rfl,qq,oo⟩)
  obtain ⟨M8,hM8⟩ : ∃ M8,M8 = M7 ++ lb (fun i=>mb (d.D i)) d.d:=⟨_,rfl⟩
  rw [← hM8] at qq
  have HM8 : Hid (M8 = M7 ++ lb (fun i=>mb (d.D i)) d.d):=hM8
  have HE8 : Hid (WS w0 M8 x8 ∧ Lib.OthersKept 5 (some w0.heap.size) w9 x8):=(⟨qq,o7.trans oo⟩ : _ ∧ _)
  clear HC q7 o7 qq oo hM8 HE7
  clear c8
  have HN : Hid (WS w0 (l ++ pb d) x8 ∧ Lib.OthersKept 5 (some w0.heap.size) W x8):=(⟨by
    have e : l ++ pb d = M8:=by
      rw [show M8 = _ from HM8,show M7 = _ from HM7,show M6 = _ from HM6,show M5 = _ from HM5,show M4 = _ from HM4,show M3 = _ from HM3,show M2 = _ from HM2,show M1 = _ from HM1,show M0 = _ from HM0]
      unfold pb;simp only [List.append_assoc,nbs,List.append_nil]
    rw [e];exact (show _ ∧ _ from HE8).1,(show Lib.OthersKept 5 (some w0.heap.size) W w9 from HOI).trans (show _ ∧ _ from HE8).2⟩ : _ ∧ _)
  clear HE8 HOI HB9
  try go_wp2_with fail
  exact ⟨rfl,.tuple #[],by simp [results,Tryz.results26],rfl,(show _ ∧ _ from HN).1,(show _ ∧ _ from HN).2⟩
theorem wa_pros {w0 W : World} {l : List UInt8} {pa : Option Addr} {ca n : Nat} {X : Nat → Pd} (hX : ∀ i, i < n → Psh (X i)) (hn : n ≤ 6000) (hrow : RowP 0 w0 (.slice pa n ca) n X) (hw : WS w0 l W) :
    Calls Tryz.prog 54 #[.pointer (some ⟨w0.heap.size,0,none⟩),.slice pa n ca,.func (Fn.func 26) #[.pointer (some ⟨w0.heap.size,0,none⟩)] #[]] W (WP w0 W (l ++ ct (fun i=>pb (X i)) n)):=by
  have hst : ∀ (a : Addr) (n : Nat) (m : Mode) (w : World),(store a (.float .f64 n) m).run Tryz.prog w = stored Tryz.prog w a (.float .f64 n) m:=fun a n m w=>run_store _ _ _ _ _ rfl
  have hnI : (n : Int) ≤ 1048576:=by omega
  have HR : Hid (RowP 0 w0 (.slice pa n ca) n X):=hrow
  have HL : Hid (∀ i,l ++ ct (fun i=>pb (X i)) (i + 1) = (l ++ ct (fun i=>pb (X i)) i) ++ (fun i=>pb (X i)) i):=(fun i=>by show l ++ (ct (fun i=>pb (X i)) i ++ (fun i=>pb (X i)) i) = _;rw [← List.append_assoc] : ∀ i,_)
  have HS : Hid (WS w0 (l ++ ct (fun i=>pb (X i)) 0) W ∧ Lib.OthersKept 5 (some w0.heap.size) W W):=(⟨by rw [show ct (fun i=>pb (X i)) 0 = [] from rfl,List.append_nil];exact hw,Lib.OthersKept.refl _ _ _⟩ : _ ∧ _)
  clear hw hrow hn
  go_enter Tryz.func54,Tryz.ntmps54
  go_wp2_with fail
  go_loopw [10] (fun sl wr=>∃ (i : Nat),i ≤ n ∧ sl = .int .i64 (i : Int) ∧ Hid (WS w0 (l ++ ct (fun i=>pb (X i)) i) wr ∧ Lib.OthersKept 5 (some w0.heap.size) W wr)) (fun sl _=>n - (intOf sl).toNat)
  case atStart=>exact ⟨0,by omega,rfl,HS⟩
  case round =>
    clear HS
    obtain ⟨i,hi,rfl,HX⟩:=hrel
    obtain ⟨hw,hok⟩:=(show _ ∧ _ from HX)
    by_cases hin : i < n
    · have hI : (i : Int) < (n : Int):=by omega
      obtain ⟨pa',ca',e1,hr2⟩:=(show RowP 0 w0 (.slice pa n ca) n X from HR)
      obtain ⟨rfl,-,rfl⟩:=(Value.slice.injEq _ _ _ _ _ _).mp e1
      obtain ⟨b,rfl,hcb,-,hrb⟩:=hr2 (by omega)
      obtain ⟨vu,vc,vn,vd,hcel,hvu,hvc,hvn,hvd⟩:=hrb i hin
      obtain ⟨z0,z1,z2,z3,z4,z5,z6,z7,z8⟩:=hcel.keep (Nat.zero_le _) hw.1
      have hvu2:=hvu
      have hvc2:=hvc
      have hvn2:=hvn
      have hvd2:=hvd
      obtain ⟨pu,cu,rfl,-⟩:=hvu
      obtain ⟨pc,cc,rfl,-⟩:=hvc
      obtain ⟨pn,cn,rfl,-⟩:=hvn
      obtain ⟨pm,cm,rfl,-⟩:=hvd
      obtain ⟨w9,hw9⟩ : ∃ w9,w9 = wr.alloc (.cells #[.string (X i).x,.int .i64 (X i).l,.int .i64 (X i).m,.bool (X i).r,.int .i64 (X i).g,.slice pu (X i).u cu,.slice pc (X i).c cc,.slice pn (X i).n cn,.slice pm (X i).d cm] 50):=⟨_,rfl⟩
      obtain ⟨g9,hg9⟩ : ∃ g9,g9 = wr.heap.size:=⟨_,rfl⟩
      have k9 : Kb 0 wr w9:=by rw [hw9];exact kb_alloc _ _ _
      have b9 : w9.heap[g9]? = some (.cells #[.string (X i).x,.int .i64 (X i).l,.int .i64 (X i).m,.bool (X i).r,.int .i64 (X i).g,.slice pu (X i).u cu,.slice pc (X i).c cc,.slice pn (X i).n cn,.slice pm (X i).d cm] 50 (0,0)):=by rw [hw9,hg9];exact alloc_new _ _ _
      have HW9 : Hid (w9 = wr.alloc (.cells #[.string (X i).x,.int .i64 (X i).l,.int .i64 (X i).m,.bool (X i).r,.int .i64 (X i).g,.slice pu (X i).u cu,.slice pc (X i).c cc,.slice pn (X i).n cn,.slice pm (X i).d cm] 50) ∧ g9 = wr.heap.size):=(⟨hw9,hg9⟩ : _ ∧ _)
      have hw2:=hw.call k9
      obtain ⟨kk,im,lf,lo,hbk,hcs⟩:=id hw2
      have clo : w9.cell? ⟨w0.heap.size,2,none⟩ = some (.bool lo):=cell_of hbk rfl
      cases lo with
      | true =>
        have hlong : 1000000 < (l ++ ct (fun i=>pb (X i)) i).length:=by
          rcases hcs with ⟨_,h,_⟩ | ⟨h,_⟩
          · cases h
          · exact h
        have HN : Hid (WS w0 (l ++ ct (fun i=>pb (X i)) n) w9 ∧ Lib.OthersKept 5 (some w0.heap.size) W w9):=by
          show WS w0 (l ++ ct (fun i=>pb (X i)) n) w9 ∧ Lib.OthersKept 5 (some w0.heap.size) W w9
          refine ⟨⟨kk,im,lf,true,hbk,.inr ⟨?_,rfl,?_⟩⟩,hok.trans (ok_kb k9 _)⟩
          · rw [List.length_append]
            have:=ct_mono (fun i=>pb (X i)) hi
            rw [List.length_append] at hlong
            omega
          · rcases hcs with ⟨_,h,_⟩ | ⟨_,_,h⟩
            · cases h
            · exact h
        clear hw9 hg9 k9 b9 hw hok hw2 kk hbk hcs hlong HX hr2 hrb hcel hvu2 hvc2 hvn2 hvd2
        go_upto_region 3 with fail
        rw [← (show w9 = _ ∧ _ from HW9).1]
        try rw [← (show w9 = _ ∧ _ from HW9).2]
        clear HW9 z0 z1 z2 z3 z4 z5 z6 z7 z8
        go_wp2_with fail
        exact ⟨rfl,.tuple #[],by simp [results,Tryz.results54],rfl,(show _ ∧ _ from HN).1,(show _ ∧ _ from HN).2⟩
      | false =>
        have HC:=im_pro (hX i hin) hvu2 hvc2 hvn2 hvd2 hw2
        have HO : Hid (Lib.OthersKept 5 (some w0.heap.size) W w9 ∧ (l ++ ct (fun i=>pb (X i)) (i + 1) = (l ++ ct (fun i=>pb (X i)) i) ++ (fun i=>pb (X i)) i)):=(⟨hok.trans (ok_kb k9 _),(show ∀ i,_ from HL) i⟩ : _ ∧ _)
        have c0 : w9.cell? ⟨g9,0,none⟩ = some (.string (X i).x):=cell_of b9 rfl
        have c1 : w9.cell? ⟨g9,1,none⟩ = some (.int .i64 (X i).l):=cell_of b9 rfl
        have c2 : w9.cell? ⟨g9,2,none⟩ = some (.int .i64 (X i).m):=cell_of b9 rfl
        have c3 : w9.cell? ⟨g9,3,none⟩ = some (.bool (X i).r):=cell_of b9 rfl
        have c4 : w9.cell? ⟨g9,4,none⟩ = some (.int .i64 (X i).g):=cell_of b9 rfl
        have c5 : w9.cell? ⟨g9,5,none⟩ = some (.slice pu (X i).u cu):=cell_of b9 rfl
        have c6 : w9.cell? ⟨g9,6,none⟩ = some (.slice pc (X i).c cc):=cell_of b9 rfl
        have c7 : w9.cell? ⟨g9,7,none⟩ = some (.slice pn (X i).n cn):=cell_of b9 rfl
        have c8 : w9.cell? ⟨g9,8,none⟩ = some (.slice pm (X i).d cm):=cell_of b9 rfl
        clear hw9 hg9 k9 b9 hw hok hw2 kk hbk hcs HX hr2 hrb hcel hvu2 hvc2 hvn2 hvd2
        go_upto_region 3 with fail
        rw [← (show w9 = _ ∧ _ from HW9).1]
        try rw [← (show w9 = _ ∧ _ from HW9).2]
        clear HW9 z0 z1 z2 z3 z4 z5 z6 z7 z8
        go_wp2_with fail
        refine HC.mono ?_
        rintro e w2 ⟨rfl,y1,y2⟩
        obtain ⟨o1,o2⟩:=(show _ ∧ _ from HO)
        have HN : Hid (WS w0 (l ++ ct (fun i=>pb (X i)) (i + 1)) w2 ∧ Lib.OthersKept 5 (some w0.heap.size) W w2):=(⟨by rw [o2];exact y1,o1.trans y2⟩ : _ ∧ _)
        clear HC y1 y2 HO o1 o2 clo c0 c1 c2 c3 c4 c5 c6 c7 c8
        go_wp2_with fail
        go_roundw
        case rel=>exact ⟨i + 1,by omega,by go_num,HN⟩
        case measure=>simp [intOf];omega
    · obtain rfl : i = n:=by omega
      have hI : ¬ (i : Int) < (i : Int):=by omega
      have HN : Hid (WS w0 (l ++ ct (fun i=>pb (X i)) i) wr ∧ Lib.OthersKept 5 (some w0.heap.size) W wr):=by
        exact (⟨hw,hok⟩ : _ ∧ _)
      clear hw hok HX HR HL
      go_wp2_with fail
      exact ⟨rfl,.tuple #[],by simp [results,Tryz.results54],rfl,(show _ ∧ _ from HN).1,(show _ ∧ _ from HN).2⟩
theorem wl_pros {w0 W : World} {l : List UInt8} {pa : Option Addr} {ca n : Nat} {X : Nat → Pd} (hX : ∀ i, i < n → Psh (X i)) (hn : n ≤ 6000) (hrow : RowP 0 w0 (.slice pa n ca) n X) (hw : WS w0 l W) :
    Calls Tryz.prog 25 #[.pointer (some ⟨w0.heap.size,0,none⟩),.slice pa n ca,.func (Fn.func 26) #[.pointer (some ⟨w0.heap.size,0,none⟩)] #[]] W (WP w0 W (l ++ lb (fun i=>pb (X i)) n)):=by
  have hst : ∀ (a : Addr) (n : Nat) (m : Mode) (w : World),(store a (.float .f64 n) m).run Tryz.prog w = stored Tryz.prog w a (.float .f64 n) m:=fun a n m w=>run_store _ _ _ _ _ rfl
  have HC:=im_num1 hw [(n : Int)] #[.int .i64 (n : Int)] 1 rfl rfl (fun y hy=>by rw [List.mem_singleton] at hy;subst hy;exact ⟨by omega,by omega⟩) (by simp)
  have HE : Hid ((l ++ nbs [(n : Int)]) ++ ct (fun i=>pb (X i)) n = l ++ lb (fun i=>pb (X i)) n):=by
    show (l ++ (nb (n : Int) ++ [])) ++ _ = l ++ (nb (n : Int) ++ _)
    rw [List.append_nil,List.append_assoc]
  have HA : Hid (∀ W1,WS w0 (l ++ nbs [(n : Int)]) W1 → Calls Tryz.prog 54 #[.pointer (some ⟨w0.heap.size,0,none⟩),.slice pa n ca,.func (Fn.func 26) #[.pointer (some ⟨w0.heap.size,0,none⟩)] #[]] W1 (WP w0 W1 ((l ++ nbs [(n : Int)]) ++ ct (fun i=>pb (X i)) n))):=(fun W1 h=>wa_pros hX hn hrow h : ∀ W1,_)
  have hnI : (n : Int) ≤ 1048576:=by omega
  clear hw hrow hn hX
  go_enter Tryz.func25,Tryz.ntmps25
  go_wp2_with fail
  refine HC.mono ?_
  rintro e w1 ⟨rfl,y1,y2⟩
  have HA1:=(show ∀ W1,_ from HA) w1 y1
  have HY : Hid (Lib.OthersKept 5 (some w0.heap.size) W w1):=y2
  clear HC HA y1 y2
  go_wp2_with fail
  refine HA1.mono ?_
  rintro e w2 ⟨rfl,y3,y4⟩
  have HN : Hid (WS w0 (l ++ lb (fun i=>pb (X i)) n) w2 ∧ Lib.OthersKept 5 (some w0.heap.size) W w2):=by
    rw [show _ = l ++ lb _ n from HE] at y3
    exact (⟨y3,(show Lib.OthersKept 5 (some w0.heap.size) W w1 from HY).trans y4⟩ : _ ∧ _)
  clear HA1 HY HE y3 y4
  go_wp2_with fail
  exact ⟨rfl,.tuple #[],by simp [results,Tryz.results25],rfl,(show _ ∧ _ from HN).1,(show _ ∧ _ from HN).2⟩
def IsSl (v : Value) : Prop:=∃ a b c,v = .slice a b c
theorem im_hasups {d e : Pd} {pu ku : Option Addr} {cu ke : Nat} {xc xn xd vc vn vd : Value} (w : World) (hrow : RowU 0 w (.slice ku e.u ke) e.u e.U) (hu : d.u ≤ 1048576) (hue : e.u ≤ 1048576) (hx : IsSl xc ∧ IsSl xn ∧ IsSl xd ∧ IsSl vc ∧ IsSl vn ∧ IsSl vd) :
    Calls Tryz.prog 110 #[.agg #[.string d.x,.int .i64 d.l,.int .i64 d.m,.bool d.r,.int .i64 d.g,.slice pu d.u cu,xc,xn,xd],.agg #[.string e.x,.int .i64 e.l,.int .i64 e.m,.bool e.r,.int .i64 e.g,.slice ku e.u ke,vc,vn,vd]] w fun e' w'=>e' = .returned (.bool (dc (Uok d e))) ∧ Kb 0 w w':=by
  obtain ⟨⟨a1,b1,c1,rfl⟩,⟨a2,b2,c2,rfl⟩,⟨a3,b3,c3,rfl⟩,⟨a4,b4,c4,rfl⟩,⟨a5,b5,c5,rfl⟩,⟨a6,b6,c6,rfl⟩⟩:=hx
  obtain ⟨w2,hw2⟩ : ∃ w2,w2 = (w.alloc (.cells #[.string d.x,.int .i64 d.l,.int .i64 d.m,.bool d.r,.int .i64 d.g,.slice pu d.u cu,.slice a1 b1 c1,.slice a2 b2 c2,.slice a3 b3 c3] 50)).alloc (.cells #[.string e.x,.int .i64 e.l,.int .i64 e.m,.bool e.r,.int .i64 e.g,.slice ku e.u ke,.slice a4 b4 c4,.slice a5 b5 c5,.slice a6 b6 c6] 50):=⟨_,rfl⟩
  obtain ⟨q0,q1,qs,k2⟩:=two_new' w _ _ _ _ w2 hw2
  have HS : Hid (Kb 0 w w2 ∧ w2.cell? ⟨w.heap.size,4,none⟩ = some (.int .i64 d.g) ∧ w2.cell? ⟨w.heap.size,5,none⟩ = some (.slice pu d.u cu) ∧ RowU 0 w2 (.slice ku e.u ke) e.u e.U):=(⟨k2,cell_of q0 rfl,cell_of q0 rfl,hrow.keep k2⟩ : _ ∧ _)
  have huI : (d.u : Int) ≤ 1048576:=by omega
  have hueI : (e.u : Int) ≤ 1048576:=by omega
  obtain ⟨R,hR⟩ : ∃ R,R = dc (Uok d e):=⟨_,rfl⟩
  rw [← hR]
  have HR : Hid (R = dc (Uok d e)):=hR
  have HW : Hid (w2 = _):=hw2
  clear hR hw2 q0 q1 qs k2 hrow hu hue
  go_enter Tryz.func110,Tryz.ntmps110
  go_wp2_with fail
  rw [← (show w2 = _ from HW)]
  clear HW
  go_loopw [11] (fun sl wr=>∃ j : Nat,sl = .int .i64 (j : Int) ∧ j ≤ e.u ∧ Hid (Kb 0 w2 wr ∧ ∀ y,y < j → 0 ≤ (e.U y).2 ∧ (e.U y).2 < (if (e.U y).1 = true then d.g else (d.u : Int)))) (fun sl _=>e.u - (intOf sl).toNat)
  case atStart=>exact ⟨0,rfl,Nat.zero_le _,(⟨Kb.refl _ _,fun y h=>by omega⟩ : _ ∧ _)⟩
  case round =>
    obtain ⟨j,rfl,hj,HX⟩:=hrel
    obtain ⟨kw,hX⟩:=(show Kb 0 w2 wr ∧ ∀ y,y < j → 0 ≤ (e.U y).2 ∧ (e.U y).2 < (if (e.U y).1 = true then d.g else (d.u : Int)) from HX)
    obtain ⟨k2,e4,e5,hru⟩:=(show Kb 0 w w2 ∧ w2.cell? ⟨w.heap.size,4,none⟩ = some (.int .i64 d.g) ∧ w2.cell? ⟨w.heap.size,5,none⟩ = some (.slice pu d.u cu) ∧ RowU 0 w2 (.slice ku e.u ke) e.u e.U from HS)
    have hR:=(show R = dc (Uok d e) from HR)
    rcases Nat.lt_or_ge j e.u with h | h
    · have hI : (j : Int) < (e.u : Int):=by omega
      obtain ⟨ku',ke',ee,hru2⟩:=hru
      obtain ⟨rfl,-,rfl⟩ : ku = ku' ∧ e.u = e.u ∧ ke = ke':=by simpa using ee
      obtain ⟨b,rfl,hcb,-,hrb⟩:=hru2 (by omega)
      obtain ⟨q0,q1⟩:=(hrb j h).keep (Nat.zero_le _) kw
      have o4 : ∀ o,(wr.alloc o).cell? ⟨w.heap.size,4,none⟩ = some (.int .i64 d.g):=fun o=>(kw.alloc o).cell e4
      have o5 : ∀ o,(wr.alloc o).cell? ⟨w.heap.size,5,none⟩ = some (.slice pu d.u cu):=fun o=>(kw.alloc o).cell e5
      have hgood : (0 ≤ (e.U j).2 ∧ (e.U j).2 < (if (e.U j).1 = true then d.g else (d.u : Int))) → ∀ o,Kb 0 w2 (wr.alloc o) ∧ ∀ y,y < j + 1 → 0 ≤ (e.U y).2 ∧ (e.U y).2 < (if (e.U y).1 = true then d.g else (d.u : Int)):=fun c o=>⟨kw.alloc o,fun y hy=>by
        by_cases ey : y = j
        · subst ey;exact c
        · exact hX y (by omega)⟩
      have hbad : ¬ (0 ≤ (e.U j).2 ∧ (e.U j).2 < (if (e.U j).1 = true then d.g else (d.u : Int))) → R = false ∧ ∀ o,Kb 0 w (wr.alloc o):=fun c=>⟨by rw [hR];exact dc_f (fun q=>c (q j h)),fun o=>(k2.trans kw).alloc o⟩
      clear HX hX kw k2 e4 e5 hru2 hrb ee hR
      generalize e.U j = uj at *
      obtain ⟨xl,xi⟩:=uj
      dsimp only at q0 q1 hgood hbad
      cases xl with
      | true =>
        by_cases c1 : xi < 0
        · obtain ⟨hF,hk⟩:=hbad (by rw [if_pos rfl];omega)
          subst hF
          have HK : Hid (∀ o,Kb 0 w (wr.alloc o)):=hk
          clear hgood hbad hk HR
          go_wp2_with fail
          go_ret
          exact ⟨rfl,(show ∀ o,Kb 0 w (wr.alloc o) from HK) _⟩
        by_cases c2 : d.g ≤ xi
        · obtain ⟨hF,hk⟩:=hbad (by rw [if_pos rfl];omega)
          subst hF
          have HK : Hid (∀ o,Kb 0 w (wr.alloc o)):=hk
          clear hgood hbad hk HR
          go_wp2_with fail
          go_ret
          exact ⟨rfl,(show ∀ o,Kb 0 w (wr.alloc o) from HK) _⟩
        have HG : Hid (∀ o,Kb 0 w2 (wr.alloc o) ∧ ∀ y,y < j + 1 → 0 ≤ (e.U y).2 ∧ (e.U y).2 < (if (e.U y).1 = true then d.g else (d.u : Int))):=hgood (by rw [if_pos rfl];omega)
        clear hgood hbad
        go_wp2_with fail
        go_roundw
        case rel=>exact ⟨j + 1,by go_num,by omega,(show ∀ o,Kb 0 w2 (wr.alloc o) ∧ _ from HG) _⟩
        case measure=>simp [intOf];omega
      | false =>
        by_cases c1 : xi < 0
        · obtain ⟨hF,hk⟩:=hbad (by rw [if_neg (by decide)];omega)
          subst hF
          have HK : Hid (∀ o,Kb 0 w (wr.alloc o)):=hk
          clear hgood hbad hk HR
          go_wp2_with fail
          go_ret
          exact ⟨rfl,(show ∀ o,Kb 0 w (wr.alloc o) from HK) _⟩
        by_cases c2 : (d.u : Int) ≤ xi
        · obtain ⟨hF,hk⟩:=hbad (by rw [if_neg (by decide)];omega)
          subst hF
          have HK : Hid (∀ o,Kb 0 w (wr.alloc o)):=hk
          clear hgood hbad hk HR
          go_wp2_with fail
          go_ret
          exact ⟨rfl,(show ∀ o,Kb 0 w (wr.alloc o) from HK) _⟩
        have HG : Hid (∀ o,Kb 0 w2 (wr.alloc o) ∧ ∀ y,y < j + 1 → 0 ≤ (e.U y).2 ∧ (e.U y).2 < (if (e.U y).1 = true then d.g else (d.u : Int))):=hgood (by rw [if_neg (by decide)];omega)
        clear hgood hbad
        go_wp2_with fail
        go_roundw
        case rel=>exact ⟨j + 1,by go_num,by omega,(show ∀ o,Kb 0 w2 (wr.alloc o) ∧ _ from HG) _⟩
        case measure=>simp [intOf];omega
    · have hI : ¬ (j : Int) < (e.u : Int):=by omega
      have hT : R = true:=by rw [hR];exact dc_t (fun y hy=>hX y (by omega))
      subst hT
      have HK : Hid (Kb 0 w wr):=k2.trans kw
      clear HX hX kw k2 e4 e5 hru hR HR HS
      go_wp2_with fail
      go_ret
      exact ⟨rfl,HK⟩
end Go.Proofs.YtnmeemjoodoalaaGreatDoor.Fo
