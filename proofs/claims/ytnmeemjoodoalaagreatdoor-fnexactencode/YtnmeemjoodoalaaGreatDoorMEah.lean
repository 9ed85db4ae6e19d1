import Derived.Test.YtnmeemjoodoalaaGreatDoorMEaf
set_option maxHeartbeats 32000000
namespace Go.Proofs.YtnmeemjoodoalaaGreatDoor.Fo
open Go.ChangeShapes Go.WideShapes Go.ChangeAt Go.RowKit
set_option linter.unusedVariables false
set_option maxRecDepth 100000
theorem sp_pro {w0 W : World} {l : List UInt8} {v : Value} {d : Pd} {pu pc pn pm : Option Addr} {cu cc cn cm : Nat} (HB : BitsC) (hps : Psh d) (ru : RowU 0 w0 (.slice pu d.u cu) d.u d.U) (rc : RowW 0 w0 (.slice pc d.c cc) d.c d.C) (rn : RowI 0 w0 (.slice pn d.n cn) d.n d.N) (rm : RowM 0 w0 (.slice pm d.d cm) d.d d.D) (hq : QK w0 l v W) (hl : l.length ≤ 70000000000000) :
    Calls Tryz.prog 21 #[v,.agg #[.string d.x,.int .i64 d.l,.int .i64 d.m,.bool d.r,.int .i64 d.g,.slice pu d.u cu,.slice pc d.c cc,.slice pn d.n cn,.slice pm d.d cm]] W (AP w0 W (l ++ pb d)):=by
  have hst : ∀ (a : Addr) (n : Nat) (m : Mode) (w : World),(store a (.float .f64 n) m).run Tryz.prog w = stored Tryz.prog w a (.float .f64 n) m:=fun a n m w=>run_store _ _ _ _ _ rfl
  have hu:=hps.hu
  have hc:=hps.hc
  have hn:=hps.hn
  have hd:=hps.hd
  obtain ⟨w1,hw1⟩ : ∃ w1,w1 = W.alloc (.cells #[.string d.x,.int .i64 d.l,.int .i64 d.m,.bool d.r,.int .i64 d.g,.slice pu d.u cu,.slice pc d.c cc,.slice pn d.n cn,.slice pm d.d cm] 50):=⟨_,rfl⟩
  have k1 : Kb 0 W w1:=by rw [hw1];exact kb_alloc _ _ _
  obtain ⟨g1,hg1⟩ : ∃ g1,g1 = W.heap.size:=⟨_,rfl⟩
  have b1 : w1.heap[g1]? = some (.cells #[.string d.x,.int .i64 d.l,.int .i64 d.m,.bool d.r,.int .i64 d.g,.slice pu d.u cu,.slice pc d.c cc,.slice pn d.n cn,.slice pm d.d cm] 50 (0,0)):=by rw [hw1,hg1];exact alloc_new _ _ _
  have HBX : Hid (∀ W',Lib.OthersKept 5 none w1 W' → W'.heap[g1]? = some (.cells #[.string d.x,.int .i64 d.l,.int .i64 d.m,.bool d.r,.int .i64 d.g,.slice pu d.u cu,.slice pc d.c cc,.slice pn d.n cn,.slice pm d.d cm] 50 (0,0))):=(fun W' k=>ok_cells k b1 (by simp) (by decide) : ∀ W',_)
  have HR : Hid (RowU 0 w0 (.slice pu d.u cu) d.u d.U ∧ RowW 0 w0 (.slice pc d.c cc) d.c d.C ∧ RowI 0 w0 (.slice pn d.n cn) d.n d.N ∧ RowM 0 w0 (.slice pm d.d cm) d.d d.D):=(⟨ru,rc,rn,rm⟩ : _ ∧ _)
  have HPS : Hid (Psh d ∧ l.length ≤ 70000000000000 ∧ Lib.OthersKept 5 none W w1):=(⟨hps,hl,ok_kb k1 none⟩ : _ ∧ _)
  have HQ1 : Hid (QK w0 l v w1 ∧ Lib.OthersKept 5 none w1 w1):=(⟨hq.call k1,Lib.OthersKept.refl _ _ _⟩ : _ ∧ _)
  have HW1 : Hid (w1 = W.alloc (.cells #[.string d.x,.int .i64 d.l,.int .i64 d.m,.bool d.r,.int .i64 d.g,.slice pu d.u cu,.slice pc d.c cc,.slice pn d.n cn,.slice pm d.d cm] 50) ∧ g1 = W.heap.size):=(⟨hw1,hg1⟩ : _ ∧ _)
  have HBC : Hid BitsC:=HB
  obtain ⟨L0,hL0⟩ : ∃ L0,L0 = l:=⟨_,rfl⟩
  rw [← hL0] at HQ1
  have y0 : L0.length ≤ 70000000000000:=by rw [hL0];exact hl
  have HL0 : Hid (L0 = l):=hL0
  clear hps ru rc rn rm hq hw1 hg1 k1 b1 HB hL0 hl
  go_enter Tryz.func21,Tryz.ntmps21
  go_upto_region 1 with fail
  rw [← (show w1 = _ ∧ _ from HW1).1]
  try rw [← (show w1 = _ ∧ _ from HW1).2]
  clear HW1
  obtain ⟨q1,o1⟩:=(show _ ∧ _ from HQ1)
  have bx:=(show ∀ W',Lib.OthersKept 5 none w1 W' → _ from HBX) w1 o1
  have c0 : w1.cell? ⟨g1,0,none⟩ = some (.string d.x):=cell_of bx rfl
  have hps:=(show Psh d ∧ _ from HPS).1
  have hle : (tb d.x).length ≤ 1048600:=by have:=tb_len (x:=d.x) (by have:=hps.hx;omega);have:=hps.hx;omega
  have HC:=sp_text d.x hps.hx q1 (by omega)
  clear bx hps
  go_upto_region 2 with (go_at_call 40;refine HC.mono ?_;rintro e w2 ⟨v2,rfl,qq,oo⟩)
  obtain ⟨L1,hL1⟩ : ∃ L1,L1 = L0 ++ tb d.x:=⟨_,rfl⟩
  rw [← hL1] at qq
  have y1 : L1.length ≤ 70000000000000 + 1048600:=by rw [hL1,List.length_append];omega
  have HL1 : Hid (L1 = L0 ++ tb d.x):=hL1
  have HQ2 : Hid (QK w0 L1 v2 w2 ∧ Lib.OthersKept 5 none w1 w2):=(⟨qq,o1.trans oo⟩ : _ ∧ _)
  clear HC q1 o1 qq oo hL1 HQ1 hle y0
  clear c0
  obtain ⟨q2,o2⟩:=(show _ ∧ _ from HQ2)
  have bx:=(show ∀ W',Lib.OthersKept 5 none w1 W' → _ from HBX) w2 o2
  have c1 : w2.cell? ⟨g1,1,none⟩ = some (.int .i64 d.l):=cell_of bx rfl
  have hps:=(show Psh d ∧ _ from HPS).1
  have hle : (nb d.l).length ≤ 10:=hps.hl.len
  have HC:=sp_num d.l hps.hl.1 hps.hl.2 q2 (by omega)
  clear bx hps
  go_upto_region 3 with (go_at_call 20;refine HC.mono ?_;rintro e w3 ⟨v3,rfl,qq,oo⟩)
  obtain ⟨L2,hL2⟩ : ∃ L2,L2 = L1 ++ nb d.l:=⟨_,rfl⟩
  rw [← hL2] at qq
  have y2 : L2.length ≤ 70000000000000 + 1048610:=by rw [hL2,List.length_append];omega
  have HL2 : Hid (L2 = L1 ++ nb d.l):=hL2
  have HQ3 : Hid (QK w0 L2 v3 w3 ∧ Lib.OthersKept 5 none w1 w3):=(⟨qq,o2.trans oo⟩ : _ ∧ _)
  clear HC q2 o2 qq oo hL2 HQ2 hle y1
  clear c1
  obtain ⟨q3,o3⟩:=(show _ ∧ _ from HQ3)
  have bx:=(show ∀ W',Lib.OthersKept 5 none w1 W' → _ from HBX) w3 o3
  have c2 : w3.cell? ⟨g1,2,none⟩ = some (.int .i64 d.m):=cell_of bx rfl
  have hps:=(show Psh d ∧ _ from HPS).1
  have hle : (nb d.m).length ≤ 10:=hps.hm.len
  have HC:=sp_num d.m hps.hm.1 hps.hm.2 q3 (by omega)
  clear bx hps
  go_upto_region 4 with (go_at_call 20;refine HC.mono ?_;rintro e w4 ⟨v4,rfl,qq,oo⟩)
  obtain ⟨L3,hL3⟩ : ∃ L3,L3 = L2 ++ nb d.m:=⟨_,rfl⟩
  rw [← hL3] at qq
  have y3 : L3.length ≤ 70000000000000 + 1048620:=by rw [hL3,List.length_append];omega
  have HL3 : Hid (L3 = L2 ++ nb d.m):=hL3
  have HQ4 : Hid (QK w0 L3 v4 w4 ∧ Lib.OthersKept 5 none w1 w4):=(⟨qq,o3.trans oo⟩ : _ ∧ _)
  clear HC q3 o3 qq oo hL3 HQ3 hle y2
  clear c2
  obtain ⟨q4,o4⟩:=(show _ ∧ _ from HQ4)
  have bx:=(show ∀ W',Lib.OthersKept 5 none w1 W' → _ from HBX) w4 o4
  have c3 : w4.cell? ⟨g1,3,none⟩ = some (.bool d.r):=cell_of bx rfl
  have hps:=(show Psh d ∧ _ from HPS).1
  have hle : (fb d.r).length ≤ 1:=Nat.le_refl 1
  have HC:=sp_flag d.r q4 (by omega)
  clear bx hps
  go_upto_region 5 with (go_at_call 41;refine HC.mono ?_;rintro e w5 ⟨v5,rfl,qq,oo⟩)
  obtain ⟨L4,hL4⟩ : ∃ L4,L4 = L3 ++ fb d.r:=⟨_,rfl⟩
  rw [← hL4] at qq
  have y4 : L4.length ≤ 70000000000000 + 1048621:=by rw [hL4,List.length_append];omega
  have HL4 : Hid (L4 = L3 ++ fb d.r):=hL4
  have HQ5 : Hid (QK w0 L4 v5 w5 ∧ Lib.OthersKept 5 none w1 w5):=(⟨qq,o4.trans oo⟩ : _ ∧ _)
  clear HC q4 o4 qq oo hL4 HQ4 hle y3
  clear c3
  obtain ⟨q5,o5⟩:=(show _ ∧ _ from HQ5)
  have bx:=(show ∀ W',Lib.OthersKept 5 none w1 W' → _ from HBX) w5 o5
  have c4 : w5.cell? ⟨g1,4,none⟩ = some (.int .i64 d.g):=cell_of bx rfl
  have hps:=(show Psh d ∧ _ from HPS).1
  have hle : (nb d.g).length ≤ 10:=hps.hg.len
  have HC:=sp_num d.g hps.hg.1 hps.hg.2 q5 (by omega)
  clear bx hps
  go_upto_region 6 with (go_at_call 20;refine HC.mono ?_;rintro e w6 ⟨v6,rfl,qq,oo⟩)
  obtain ⟨L5,hL5⟩ : ∃ L5,L5 = L4 ++ nb d.g:=⟨_,rfl⟩
  rw [← hL5] at qq
  have y5 : L5.length ≤ 70000000000000 + 1048631:=by rw [hL5,List.length_append];omega
  have HL5 : Hid (L5 = L4 ++ nb d.g):=hL5
  have HQ6 : Hid (QK w0 L5 v6 w6 ∧ Lib.OthersKept 5 none w1 w6):=(⟨qq,o5.trans oo⟩ : _ ∧ _)
  clear HC q5 o5 qq oo hL5 HQ5 hle y4
  clear c4
  obtain ⟨q6,o6⟩:=(show _ ∧ _ from HQ6)
  have bx:=(show ∀ W',Lib.OthersKept 5 none w1 W' → _ from HBX) w6 o6
  have c5 : w6.cell? ⟨g1,5,none⟩ = some (.slice pu d.u cu):=cell_of bx rfl
  have hps:=(show Psh d ∧ _ from HPS).1
  have hle : (nb (d.u : Int)).length ≤ 10:=nb_len (by omega) (by omega)
  have HC:=sp_num (d.u : Int) (by omega) (by omega) q6 (by omega)
  clear bx hps
  go_upto_region 7 with (go_at_call 20;refine HC.mono ?_;rintro e w7 ⟨v7,rfl,qq,oo⟩)
  obtain ⟨L6,hL6⟩ : ∃ L6,L6 = L5 ++ nb (d.u : Int):=⟨_,rfl⟩
  rw [← hL6] at qq
  have y6 : L6.length ≤ 70000000000000 + 1048641:=by rw [hL6,List.length_append];omega
  have HL6 : Hid (L6 = L5 ++ nb (d.u : Int)):=hL6
  have HQ7 : Hid (QK w0 L6 v7 w7 ∧ Lib.OthersKept 5 none w1 w7):=(⟨qq,o6.trans oo⟩ : _ ∧ _)
  clear HC q6 o6 qq oo hL6 HQ6 hle y5
  clear c5
  obtain ⟨q7,o7⟩:=(show _ ∧ _ from HQ7)
  have bx:=(show ∀ W',Lib.OthersKept 5 none w1 W' → _ from HBX) w7 o7
  have c5 : w7.cell? ⟨g1,5,none⟩ = some (.slice pu d.u cu):=cell_of bx rfl
  have HS : Hid (QK w0 (L6 ++ ct (fun i=>ub (d.U i)) 0) v7 w7 ∧ Lib.OthersKept 5 none w1 w7):=(⟨by rw [show ct (fun i=>ub (d.U i)) 0 = [] from rfl,List.append_nil];exact q7,o7⟩ : _ ∧ _)
  have hlI : (d.u : Int) ≤ 6000:=by omega
  clear q7 o7 bx HQ7
  go_wp2_with fail
  clear c5
  go_loopw [0,43] (fun s0 sl wr=>∃ (i : Nat) (v' : Value),i ≤ d.u ∧ sl = .int .i64 (i : Int) ∧ v' = s0 ∧ Hid (QK w0 (L6 ++ ct (fun i=>ub (d.U i)) i) v' wr ∧ Lib.OthersKept 5 none w1 wr)) (fun _ sl _=>d.u - (intOf sl).toNat)
  case atStart=>exact ⟨0,_,by omega,rfl,rfl,HS⟩
  case round =>
    clear HS
    obtain ⟨i,vi,hi,rfl,hv,HX⟩:=hrel
    subst hv
    obtain ⟨qi,oi⟩:=(show QK w0 (L6 ++ ct (fun i=>ub (d.U i)) i) vi wr ∧ Lib.OthersKept 5 none w1 wr from HX)
    have hps:=(show Psh d ∧ _ from HPS).1
    have hcl : (ct (fun i=>ub (d.U i)) i).length ≤ i * 11:=ct_len i (fun j hj=>ub_len (hps.hU j (by omega)))
    have yi : (L6 ++ ct (fun i=>ub (d.U i)) i).length ≤ 70000000000000 + 1048641 + i * 11:=by rw [List.length_append];omega
    have yj : i * 11 ≤ 66000:=Nat.le_trans (Nat.mul_le_mul_right _ (show i ≤ 6000 by omega)) (Nat.le_of_ble_eq_true rfl)
    by_cases hin : i < d.u
    · have hI : (i : Int) < (d.u : Int):=by omega
      obtain ⟨pa',ca',e1,hr2⟩:=((show _ ∧ _ ∧ _ ∧ _ from HR).1).keep qi.2
      obtain ⟨rfl,-,rfl⟩:=(Value.slice.injEq _ _ _ _ _ _).mp e1
      obtain ⟨b,rfl,hcb,-,hrb⟩:=hr2 (by omega)
      obtain ⟨z0,z1⟩:=hrb i hin
      obtain ⟨w9,hw9⟩ : ∃ w9,w9 = wr.alloc (.cells #[.bool (d.U i).1,.int .i64 (d.U i).2] 89):=⟨_,rfl⟩
      obtain ⟨g9,hg9⟩ : ∃ g9,g9 = wr.heap.size:=⟨_,rfl⟩
      have k9 : Kb 0 wr w9:=by rw [hw9];exact kb_alloc _ _ _
      have b9 : w9.heap[g9]? = some (.cells #[.bool (d.U i).1,.int .i64 (d.U i).2] 89 (0,0)):=by rw [hw9,hg9];exact alloc_new _ _ _
      have HB9 : Hid (∀ W',Lib.OthersKept 5 none w9 W' → W'.heap[g9]? = some (.cells #[.bool (d.U i).1,.int .i64 (d.U i).2] 89 (0,0))):=(fun W' k=>ok_cells k b9 (by simp) (by decide) : ∀ W',_)
      have HW9 : Hid (w9 = wr.alloc (.cells #[.bool (d.U i).1,.int .i64 (d.U i).2] 89) ∧ g9 = wr.heap.size):=(⟨hw9,hg9⟩ : _ ∧ _)
      have HOI : Hid (Lib.OthersKept 5 none w1 w9):=oi.trans (ok_kb k9 none)
      obtain ⟨M0,hM0⟩ : ∃ M0,M0 = L6 ++ ct (fun i=>ub (d.U i)) i:=⟨_,rfl⟩
      have HM0 : Hid (M0 = L6 ++ ct (fun i=>ub (d.U i)) i):=hM0
      have x0 : M0.length ≤ 70000001114641:=by have h:=yi;rw [← hM0] at h;omega
      have HE0 : Hid (QK w0 M0 vi w9 ∧ Lib.OthersKept 5 none w9 w9):=(⟨by rw [hM0];exact qi.call k9,Lib.OthersKept.refl _ _ _⟩ : _ ∧ _)
      clear hw9 hg9 k9 b9 qi oi HX hcl yi yj hps hM0 hr2 hrb
      go_upto_region 10 with fail
      rw [← (show w9 = _ ∧ _ from HW9).1]
      try rw [← (show w9 = _ ∧ _ from HW9).2]
      clear HW9 z0 z1
      obtain ⟨q0,o0⟩:=(show _ ∧ _ from HE0)
      have bx:=(show ∀ W',Lib.OthersKept 5 none w9 W' → _ from HB9) w9 o0
      have c0 : w9.cell? ⟨g9,0,none⟩ = some (.bool (d.U i).1):=cell_of bx rfl
      have hps:=(show Psh d ∧ _ from HPS).1
      have hle : (fb (d.U i).1).length ≤ 1:=Nat.le_refl 1
      have HC:=sp_flag (d.U i).1 q0 (by omega)
      clear bx hps
      go_upto_region 11 with (go_at_call 41;refine HC.mono ?_;rintro e x1 ⟨u1,rfl,qq,oo⟩)
      obtain ⟨M1,hM1⟩ : ∃ M1,M1 = M0 ++ fb (d.U i).1:=⟨_,rfl⟩
      rw [← hM1] at qq
      have x1l : M1.length ≤ M0.length + 1:=by rw [hM1,List.length_append];omega
      have HM1 : Hid (M1 = M0 ++ fb (d.U i).1):=hM1
      have HE1 : Hid (QK w0 M1 u1 x1 ∧ Lib.OthersKept 5 none w9 x1):=(⟨qq,o0.trans oo⟩ : _ ∧ _)
      clear HC q0 o0 qq oo hM1 HE0 hle
      clear c0
      obtain ⟨q1,o1⟩:=(show _ ∧ _ from HE1)
      have bx:=(show ∀ W',Lib.OthersKept 5 none w9 W' → _ from HB9) x1 o1
      have c1 : x1.cell? ⟨g9,1,none⟩ = some (.int .i64 (d.U i).2):=cell_of bx rfl
      have hps:=(show Psh d ∧ _ from HPS).1
      have hle : (nb (d.U i).2).length ≤ 10:=(hps.hU i hin).len
      have HC:=sp_num (d.U i).2 (hps.hU i hin).1 (hps.hU i hin).2 q1 (by omega)
      clear bx hps
      go_upto_region 12 with (go_at_call 20;refine HC.mono ?_;rintro e x2 ⟨u2,rfl,qq,oo⟩)
      obtain ⟨M2,hM2⟩ : ∃ M2,M2 = M1 ++ nb (d.U i).2:=⟨_,rfl⟩
      rw [← hM2] at qq
      have x2l : M2.length ≤ M1.length + 10:=by rw [hM2,List.length_append];omega
      have HM2 : Hid (M2 = M1 ++ nb (d.U i).2):=hM2
      have HE2 : Hid (QK w0 M2 u2 x2 ∧ Lib.OthersKept 5 none w9 x2):=(⟨qq,o1.trans oo⟩ : _ ∧ _)
      clear HC q1 o1 qq oo hM2 HE1 hle
      clear c1
      have HN : Hid (QK w0 (L6 ++ ct (fun i=>ub (d.U i)) (i + 1)) u2 x2 ∧ Lib.OthersKept 5 none w1 x2):=(⟨by
        have e : L6 ++ ct (fun i=>ub (d.U i)) (i + 1) = M2:=by
          rw [show M2 = _ from HM2,show M1 = _ from HM1,show M0 = _ from HM0]
          show L6 ++ (ct (fun i=>ub (d.U i)) i ++ ub (d.U i)) = _
          simp only [List.append_assoc,ub]
        rw [e];exact (show _ ∧ _ from HE2).1,(show Lib.OthersKept 5 none w1 w9 from HOI).trans (show _ ∧ _ from HE2).2⟩ : _ ∧ _)
      clear HE2 HOI HB9
      go_wp2_with fail
      go_roundw
      case rel=>exact ⟨i + 1,u2,by omega,by go_num,rfl,HN⟩
      case measure=>simp [intOf];omega
    · obtain rfl : i = d.u:=by omega
      have hI : ¬ (d.u : Int) < (d.u : Int):=by omega
      obtain ⟨L7,hL7⟩ : ∃ L7,L7 = L6 ++ ct (fun i=>ub (d.U i)) d.u:=⟨_,rfl⟩
      have HL7 : Hid (L7 = L6 ++ ct (fun i=>ub (d.U i)) d.u):=hL7
      have y7 : L7.length ≤ 70000000000000 + 1114641:=by have h:=yi;rw [← hL7] at h;omega
      have HQ8 : Hid (QK w0 L7 vi wr ∧ Lib.OthersKept 5 none w1 wr):=(⟨by rw [hL7];exact qi,oi⟩ : _ ∧ _)
      clear qi oi HX hcl yi yj hps hL7 hi hlI
      go_upto_region 13 with fail
      obtain ⟨w8,hww⟩ : ∃ w8,w8 = wr:=⟨_,rfl⟩
      obtain ⟨v8,hvv⟩ : ∃ v8,v8 = vi:=⟨_,rfl⟩
      rw [← hww,← hvv] at HQ8
      rw [← hww,← hvv]
      clear hww hvv
      obtain ⟨q8,o8⟩:=(show _ ∧ _ from HQ8)
      have bx:=(show ∀ W',Lib.OthersKept 5 none w1 W' → _ from HBX) w8 o8
      have c6 : w8.cell? ⟨g1,6,none⟩ = some (.slice pc d.c cc):=cell_of bx rfl
      have hps:=(show Psh d ∧ _ from HPS).1
      have hle : (nb (d.c : Int)).length ≤ 10:=nb_len (by omega) (by omega)
      have HC:=sp_num (d.c : Int) (by omega) (by omega) q8 (by omega)
      clear bx hps
      go_upto_region 14 with (go_at_call 20;refine HC.mono ?_;rintro e w9 ⟨v9,rfl,qq,oo⟩)
      obtain ⟨L8,hL8⟩ : ∃ L8,L8 = L7 ++ nb (d.c : Int):=⟨_,rfl⟩
      rw [← hL8] at qq
      have y8 : L8.length ≤ 70000000000000 + 1114651:=by rw [hL8,List.length_append];omega
      have HL8 : Hid (L8 = L7 ++ nb (d.c : Int)):=hL8
      have HQ9 : Hid (QK w0 L8 v9 w9 ∧ Lib.OthersKept 5 none w1 w9):=(⟨qq,o8.trans oo⟩ : _ ∧ _)
      clear HC q8 o8 qq oo hL8 HQ8 hle y7
      clear c6
      obtain ⟨q9,o9⟩:=(show _ ∧ _ from HQ9)
      have bx:=(show ∀ W',Lib.OthersKept 5 none w1 W' → _ from HBX) w9 o9
      have c6 : w9.cell? ⟨g1,6,none⟩ = some (.slice pc d.c cc):=cell_of bx rfl
      have HS : Hid (QK w0 (L8 ++ ct (fun i=>cb (d.C i)) 0) v9 w9 ∧ Lib.OthersKept 5 none w1 w9):=(⟨by rw [show ct (fun i=>cb (d.C i)) 0 = [] from rfl,List.append_nil];exact q9,o9⟩ : _ ∧ _)
      have hlI : (d.c : Int) ≤ 6000:=by omega
      clear q9 o9 bx HQ9
      go_wp2_with fail
      clear c6
      go_loopw [0,64] (fun s0 sl wr=>∃ (i : Nat) (v' : Value),i ≤ d.c ∧ sl = .int .i64 (i : Int) ∧ v' = s0 ∧ Hid (QK w0 (L8 ++ ct (fun i=>cb (d.C i)) i) v' wr ∧ Lib.OthersKept 5 none w1 wr)) (fun _ sl _=>d.c - (intOf sl).toNat)
      case atStart=>exact ⟨0,_,by omega,rfl,rfl,HS⟩
      case round =>
        clear HS
        obtain ⟨i,vi,hi,rfl,hv,HX⟩:=hrel
        subst hv
        obtain ⟨qi,oi⟩:=(show QK w0 (L8 ++ ct (fun i=>cb (d.C i)) i) vi wr ∧ Lib.OthersKept 5 none w1 wr from HX)
        have hps:=(show Psh d ∧ _ from HPS).1
        have hcl : (ct (fun i=>cb (d.C i)) i).length ≤ i * 1048600:=ct_len i (fun j hj=>cb_len (hps.hC j (by omega)).2.1 (hps.hC j (by omega)).2.2.1)
        have yi : (L8 ++ ct (fun i=>cb (d.C i)) i).length ≤ 70000000000000 + 1114651 + i * 1048600:=by rw [List.length_append];omega
        have yj : i * 1048600 ≤ 6291600000:=Nat.le_trans (Nat.mul_le_mul_right _ (show i ≤ 6000 by omega)) (Nat.le_of_ble_eq_true rfl)
        by_cases hin : i < d.c
        · have hI : (i : Int) < (d.c : Int):=by omega
          obtain ⟨pa',ca',e1,hr2⟩:=((show _ ∧ _ ∧ _ ∧ _ from HR).2.1).keep qi.2
          obtain ⟨rfl,-,rfl⟩:=(Value.slice.injEq _ _ _ _ _ _).mp e1
          obtain ⟨b,rfl,hcb,-,hrb⟩:=hr2 (by omega)
          obtain ⟨z0,z1,z2,z3,z4⟩:=hrb i hin
          obtain ⟨w9,hw9⟩ : ∃ w9,w9 = wr.alloc (.cells #[.int .i64 (d.C i).k,.int .i64 (d.C i).m,.float .f64 (d.C i).g,.string (d.C i).x,.int .i64 (d.C i).r] 92):=⟨_,rfl⟩
          obtain ⟨g9,hg9⟩ : ∃ g9,g9 = wr.heap.size:=⟨_,rfl⟩
          have k9 : Kb 0 wr w9:=by rw [hw9];exact kb_alloc _ _ _
          have b9 : w9.heap[g9]? = some (.cells #[.int .i64 (d.C i).k,.int .i64 (d.C i).m,.float .f64 (d.C i).g,.string (d.C i).x,.int .i64 (d.C i).r] 92 (0,0)):=by rw [hw9,hg9];exact alloc_new _ _ _
          have HB9 : Hid (∀ W',Lib.OthersKept 5 none w9 W' → W'.heap[g9]? = some (.cells #[.int .i64 (d.C i).k,.int .i64 (d.C i).m,.float .f64 (d.C i).g,.string (d.C i).x,.int .i64 (d.C i).r] 92 (0,0))):=(fun W' k=>ok_cells k b9 (by simp) (by decide) : ∀ W',_)
          have HW9 : Hid (w9 = wr.alloc (.cells #[.int .i64 (d.C i).k,.int .i64 (d.C i).m,.float .f64 (d.C i).g,.string (d.C i).x,.int .i64 (d.C i).r] 92) ∧ g9 = wr.heap.size):=(⟨hw9,hg9⟩ : _ ∧ _)
          have HOI : Hid (Lib.OthersKept 5 none w1 w9):=oi.trans (ok_kb k9 none)
          obtain ⟨M0,hM0⟩ : ∃ M0,M0 = L8 ++ ct (fun i=>cb (d.C i)) i:=⟨_,rfl⟩
          have HM0 : Hid (M0 = L8 ++ ct (fun i=>cb (d.C i)) i):=hM0
          have x0 : M0.length ≤ 70006292714651:=by have h:=yi;rw [← hM0] at h;omega
          have HE0 : Hid (QK w0 M0 vi w9 ∧ Lib.OthersKept 5 none w9 w9):=(⟨by rw [hM0];exact qi.call k9,Lib.OthersKept.refl _ _ _⟩ : _ ∧ _)
          clear hw9 hg9 k9 b9 qi oi HX hcl yi yj hps hM0 hr2 hrb
          go_upto_region 17 with fail
          rw [← (show w9 = _ ∧ _ from HW9).1]
          try rw [← (show w9 = _ ∧ _ from HW9).2]
          clear HW9 z0 z1 z2 z3 z4
          obtain ⟨q0,o0⟩:=(show _ ∧ _ from HE0)
          have bx:=(show ∀ W',Lib.OthersKept 5 none w9 W' → _ from HB9) w9 o0
          have c0 : w9.cell? ⟨g9,0,none⟩ = some (.int .i64 (d.C i).k):=cell_of bx rfl
          have c1 : w9.cell? ⟨g9,1,none⟩ = some (.int .i64 (d.C i).m):=cell_of bx rfl
          have c2 : w9.cell? ⟨g9,2,none⟩ = some (.float .f64 (d.C i).g):=cell_of bx rfl
          have c3 : w9.cell? ⟨g9,3,none⟩ = some (.string (d.C i).x):=cell_of bx rfl
          have c4 : w9.cell? ⟨g9,4,none⟩ = some (.int .i64 (d.C i).r):=cell_of bx rfl
          have hps:=(show Psh d ∧ _ from HPS).1
          have hle : (cb (d.C i)).length ≤ 1048600:=cb_len (hps.hC i hin).2.1 (hps.hC i hin).2.2.1
          have HC:=sp_cst HBC (d.C i) (hps.hC i hin).1 (hps.hC i hin).2.1 (hps.hC i hin).2.2.1 (hps.hC i hin).2.2.2 q0 (by omega)
          clear bx hps
          go_upto_region 18 with (go_at_call 42;refine HC.mono ?_;rintro e x1 ⟨u1,rfl,qq,oo⟩)
          obtain ⟨M1,hM1⟩ : ∃ M1,M1 = M0 ++ cb (d.C i):=⟨_,rfl⟩
          rw [← hM1] at qq
          have x1l : M1.length ≤ M0.length + 1048600:=by rw [hM1,List.length_append];omega
          have HM1 : Hid (M1 = M0 ++ cb (d.C i)):=hM1
          have HE1 : Hid (QK w0 M1 u1 x1 ∧ Lib.OthersKept 5 none w9 x1):=(⟨qq,o0.trans oo⟩ : _ ∧ _)
          clear HC q0 o0 qq oo hM1 HE0 hle
          clear c0
          clear c1
          clear c2
          clear c3
          clear c4
          have HN : Hid (QK w0 (L8 ++ ct (fun i=>cb (d.C i)) (i + 1)) u1 x1 ∧ Lib.OthersKept 5 none w1 x1):=(⟨by
            have e : L8 ++ ct (fun i=>cb (d.C i)) (i + 1) = M1:=by
              rw [show M1 = _ from HM1,show M0 = _ from HM0]
              show L8 ++ (ct (fun i=>cb (d.C i)) i ++ cb (d.C i)) = _
              simp only [List.append_assoc]
            rw [e];exact (show _ ∧ _ from HE1).1,(show Lib.OthersKept 5 none w1 w9 from HOI).trans (show _ ∧ _ from HE1).2⟩ : _ ∧ _)
          clear HE1 HOI HB9
          go_wp2_with fail
          go_roundw
          case rel=>exact ⟨i + 1,u1,by omega,by go_num,rfl,HN⟩
          case measure=>simp [intOf];omega
        · obtain rfl : i = d.c:=by omega
          have hI : ¬ (d.c : Int) < (d.c : Int):=by omega
          obtain ⟨L9,hL9⟩ : ∃ L9,L9 = L8 ++ ct (fun i=>cb (d.C i)) d.c:=⟨_,rfl⟩
          have HL9 : Hid (L9 = L8 ++ ct (fun i=>cb (d.C i)) d.c):=hL9
          have y9 : L9.length ≤ 70000000000000 + 6292714651:=by have h:=yi;rw [← hL9] at h;omega
          have HQ10 : Hid (QK w0 L9 vi wr ∧ Lib.OthersKept 5 none w1 wr):=(⟨by rw [hL9];exact qi,oi⟩ : _ ∧ _)
          clear qi oi HX hcl yi yj hps hL9 hi hlI
          go_upto_region 19 with fail
          obtain ⟨w10,hww⟩ : ∃ w10,w10 = wr:=⟨_,rfl⟩
          obtain ⟨v10,hvv⟩ : ∃ v10,v10 = vi:=⟨_,rfl⟩
          rw [← hww,← hvv] at HQ10
          rw [← hww,← hvv]
          clear hww hvv
          obtain ⟨q10,o10⟩:=(show _ ∧ _ from HQ10)
          have bx:=(show ∀ W',Lib.OthersKept 5 none w1 W' → _ from HBX) w10 o10
          have c7 : w10.cell? ⟨g1,7,none⟩ = some (.slice pn d.n cn):=cell_of bx rfl
          have hps:=(show Psh d ∧ _ from HPS).1
          have hle : (nb (d.n : Int)).length ≤ 10:=nb_len (by omega) (by omega)
          have HC:=sp_num (d.n : Int) (by omega) (by omega) q10 (by omega)
          clear bx hps
          go_upto_region 20 with (go_at_call 20;refine HC.mono ?_;rintro e w11 ⟨v11,rfl,qq,oo⟩)
          obtain ⟨L10,hL10⟩ : ∃ L10,L10 = L9 ++ nb (d.n : Int):=⟨_,rfl⟩
          rw [← hL10] at qq
          have y10 : L10.length ≤ 70000000000000 + 6292714661:=by rw [hL10,List.length_append];omega
          have HL10 : Hid (L10 = L9 ++ nb (d.n : Int)):=hL10
          have HQ11 : Hid (QK w0 L10 v11 w11 ∧ Lib.OthersKept 5 none w1 w11):=(⟨qq,o10.trans oo⟩ : _ ∧ _)
          clear HC q10 o10 qq oo hL10 HQ10 hle y9
          clear c7
          obtain ⟨q11,o11⟩:=(show _ ∧ _ from HQ11)
          have bx:=(show ∀ W',Lib.OthersKept 5 none w1 W' → _ from HBX) w11 o11
          have c7 : w11.cell? ⟨g1,7,none⟩ = some (.slice pn d.n cn):=cell_of bx rfl
          have HS : Hid (QK w0 (L10 ++ ct (fun i=>ib (d.N i)) 0) v11 w11 ∧ Lib.OthersKept 5 none w1 w11):=(⟨by rw [show ct (fun i=>ib (d.N i)) 0 = [] from rfl,List.append_nil];exact q11,o11⟩ : _ ∧ _)
          have hlI : (d.n : Int) ≤ 6000:=by omega
          clear q11 o11 bx HQ11
          go_wp2_with fail
          clear c7
          go_loopw [0,80] (fun s0 sl wr=>∃ (i : Nat) (v' : Value),i ≤ d.n ∧ sl = .int .i64 (i : Int) ∧ v' = s0 ∧ Hid (QK w0 (L10 ++ ct (fun i=>ib (d.N i)) i) v' wr ∧ Lib.OthersKept 5 none w1 wr)) (fun _ sl _=>d.n - (intOf sl).toNat)
          case atStart=>exact ⟨0,_,by omega,rfl,rfl,HS⟩
          case round =>
            clear HS
            obtain ⟨i,vi,hi,rfl,hv,HX⟩:=hrel
            subst hv
            obtain ⟨qi,oi⟩:=(show QK w0 (L10 ++ ct (fun i=>ib (d.N i)) i) vi wr ∧ Lib.OthersKept 5 none w1 wr from HX)
            have hps:=(show Psh d ∧ _ from HPS).1
            have hcl : (ct (fun i=>ib (d.N i)) i).length ≤ i * 50:=ct_len i (fun j hj=>ib_len (hps.hN j (by omega)))
            have yi : (L10 ++ ct (fun i=>ib (d.N i)) i).length ≤ 70000000000000 + 6292714661 + i * 50:=by rw [List.length_append];omega
            have yj : i * 50 ≤ 300000:=Nat.le_trans (Nat.mul_le_mul_right _ (show i ≤ 6000 by omega)) (Nat.le_of_ble_eq_true rfl)
            by_cases hin : i < d.n
            · have hI : (i : Int) < (d.n : Int):=by omega
              obtain ⟨pa',ca',e1,hr2⟩:=((show _ ∧ _ ∧ _ ∧ _ from HR).2.2.1).keep qi.2
              obtain ⟨rfl,-,rfl⟩:=(Value.slice.injEq _ _ _ _ _ _).mp e1
              obtain ⟨b,rfl,hcb,-,hrb⟩:=hr2 (by omega)
              obtain ⟨z0,z1,z2,z3,z4⟩:=hrb i hin
              obtain ⟨w9,hw9⟩ : ∃ w9,w9 = wr.alloc (.cells #[.int .i64 (d.N i).o,.int .i64 (d.N i).a,.int .i64 (d.N i).b,.int .i64 (d.N i).c,.int .i64 (d.N i).d] 81):=⟨_,rfl⟩
              obtain ⟨g9,hg9⟩ : ∃ g9,g9 = wr.heap.size:=⟨_,rfl⟩
              have k9 : Kb 0 wr w9:=by rw [hw9];exact kb_alloc _ _ _
              have b9 : w9.heap[g9]? = some (.cells #[.int .i64 (d.N i).o,.int .i64 (d.N i).a,.int .i64 (d.N i).b,.int .i64 (d.N i).c,.int .i64 (d.N i).d] 81 (0,0)):=by rw [hw9,hg9];exact alloc_new _ _ _
              have HB9 : Hid (∀ W',Lib.OthersKept 5 none w9 W' → W'.heap[g9]? = some (.cells #[.int .i64 (d.N i).o,.int .i64 (d.N i).a,.int .i64 (d.N i).b,.int .i64 (d.N i).c,.int .i64 (d.N i).d] 81 (0,0))):=(fun W' k=>ok_cells k b9 (by simp) (by decide) : ∀ W',_)
              have HW9 : Hid (w9 = wr.alloc (.cells #[.int .i64 (d.N i).o,.int .i64 (d.N i).a,.int .i64 (d.N i).b,.int .i64 (d.N i).c,.int .i64 (d.N i).d] 81) ∧ g9 = wr.heap.size):=(⟨hw9,hg9⟩ : _ ∧ _)
              have HOI : Hid (Lib.OthersKept 5 none w1 w9):=oi.trans (ok_kb k9 none)
              obtain ⟨M0,hM0⟩ : ∃ M0,M0 = L10 ++ ct (fun i=>ib (d.N i)) i:=⟨_,rfl⟩
              have HM0 : Hid (M0 = L10 ++ ct (fun i=>ib (d.N i)) i):=hM0
              have x0 : M0.length ≤ 70006293014661:=by have h:=yi;rw [← hM0] at h;omega
              have HE0 : Hid (QK w0 M0 vi w9 ∧ Lib.OthersKept 5 none w9 w9):=(⟨by rw [hM0];exact qi.call k9,Lib.OthersKept.refl _ _ _⟩ : _ ∧ _)
              clear hw9 hg9 k9 b9 qi oi HX hcl yi yj hps hM0 hr2 hrb
              go_upto_region 23 with fail
              rw [← (show w9 = _ ∧ _ from HW9).1]
              try rw [← (show w9 = _ ∧ _ from HW9).2]
              clear HW9 z0 z1 z2 z3 z4
              obtain ⟨q0,o0⟩:=(show _ ∧ _ from HE0)
              have bx:=(show ∀ W',Lib.OthersKept 5 none w9 W' → _ from HB9) w9 o0
              have c0 : w9.cell? ⟨g9,0,none⟩ = some (.int .i64 (d.N i).o):=cell_of bx rfl
              have hps:=(show Psh d ∧ _ from HPS).1
              have hle : (nb (d.N i).o).length ≤ 10:=(hps.hN i hin).1.len
              have HC:=sp_num (d.N i).o (hps.hN i hin).1.1 (hps.hN i hin).1.2 q0 (by omega)
              clear bx hps
              go_upto_region 24 with (go_at_call 20;refine HC.mono ?_;rintro e x1 ⟨u1,rfl,qq,oo⟩)
              obtain ⟨M1,hM1⟩ : ∃ M1,M1 = M0 ++ nb (d.N i).o:=⟨_,rfl⟩
              rw [← hM1] at qq
              have x1l : M1.length ≤ M0.length + 10:=by rw [hM1,List.length_append];omega
              have HM1 : Hid (M1 = M0 ++ nb (d.N i).o):=hM1
              have HE1 : Hid (QK w0 M1 u1 x1 ∧ Lib.OthersKept 5 none w9 x1):=(⟨qq,o0.trans oo⟩ : _ ∧ _)
              clear HC q0 o0 qq oo hM1 HE0 hle
              clear c0
              obtain ⟨q1,o1⟩:=(show _ ∧ _ from HE1)
              have bx:=(show ∀ W',Lib.OthersKept 5 none w9 W' → _ from HB9) x1 o1
              have c0 : x1.cell? ⟨g9,0,none⟩ = some (.int .i64 (d.N i).o):=cell_of bx rfl
              have c1 : x1.cell? ⟨g9,1,none⟩ = some (.int .i64 (d.N i).a):=cell_of bx rfl
              have c2 : x1.cell? ⟨g9,2,none⟩ = some (.int .i64 (d.N i).b):=cell_of bx rfl
              have c3 : x1.cell? ⟨g9,3,none⟩ = some (.int .i64 (d.N i).c):=cell_of bx rfl
              have c4 : x1.cell? ⟨g9,4,none⟩ = some (.int .i64 (d.N i).d):=cell_of bx rfl
              obtain ⟨wf,hwf⟩ : ∃ wf,wf = (x1.alloc (.cells #[.int .i64 (d.N i).o,.int .i64 (d.N i).a,.int .i64 (d.N i).b,.int .i64 (d.N i).c,.int .i64 (d.N i).d] 81)).alloc (.cells #[.int .i64 (d.N i).a,.int .i64 (d.N i).b,.int .i64 (d.N i).c,.int .i64 (d.N i).d] 3):=⟨_,rfl⟩
              obtain ⟨-,bf,-,kf⟩:=two_newE x1 _ _ _ _ wf hwf
              have HF : Hid (Calls Tryz.prog 43 #[.agg #[.int .i64 (d.N i).o,.int .i64 (d.N i).a,.int .i64 (d.N i).b,.int .i64 (d.N i).c,.int .i64 (d.N i).d]] x1 fun e w'=>e = .returned (.slice (some ⟨x1.heap.size + 1,0,none⟩) 4 4) ∧ w' = wf):=by
                have:=sp_fields (d.N i) x1
                unfold insv at this
                rw [hwf]
                exact this
              obtain ⟨gf,hgf⟩ : ∃ gf,gf = x1.heap.size + 1:=⟨_,rfl⟩
              rw [← hgf] at bf HF
              have HBF : Hid (∀ W',Lib.OthersKept 5 none wf W' → W'.heap[gf]? = some (.cells #[.int .i64 (d.N i).a,.int .i64 (d.N i).b,.int .i64 (d.N i).c,.int .i64 (d.N i).d] 3 (0,0))):=(fun W' k=>ok_cells k bf (by simp) (by decide) : ∀ W',_)
              have HS : Hid (QK w0 (M1 ++ ct (fun j=>nb (fld (d.N i) j)) 0) u1 wf ∧ Lib.OthersKept 5 none w9 wf ∧ Lib.OthersKept 5 none wf wf):=(⟨by rw [show ct (fun j=>nb (fld (d.N i) j)) 0 = [] from rfl,List.append_nil];exact q1.call kf,o1.trans (ok_kb kf none),Lib.OthersKept.refl _ _ _⟩ : _ ∧ _)
              clear hwf bf kf hgf bx q1 o1 HE1
              go_wp2_with fail
              refine (show Calls Tryz.prog 43 #[.agg #[.int .i64 (d.N i).o,.int .i64 (d.N i).a,.int .i64 (d.N i).b,.int .i64 (d.N i).c,.int .i64 (d.N i).d]] x1 (fun e w'=>e = .returned (.slice (some ⟨gf,0,none⟩) 4 4) ∧ w' = wf) from HF).mono ?_
              rintro e wf' ⟨rfl,hwf'⟩
              rw [hwf']
              clear hwf' wf' HF c0 c1 c2 c3 c4
              go_wp2_with fail
              obtain ⟨wo,hwo⟩ : ∃ wo,wo = wr:=⟨_,rfl⟩
              clear hwo
              go_loopw [0,91] (fun s0 sl wr=>∃ (f : Nat) (v' : Value),f ≤ 4 ∧ sl = .int .i64 (f : Int) ∧ v' = s0 ∧ Hid (QK w0 (M1 ++ ct (fun j=>nb (fld (d.N i) j)) f) v' wr ∧ Lib.OthersKept 5 none w9 wr ∧ Lib.OthersKept 5 none wf wr)) (fun _ sl _=>4 - (intOf sl).toNat)
              case atStart=>exact ⟨0,_,by omega,rfl,rfl,HS⟩
              case round =>
                clear HS
                obtain ⟨f,vf,hf,rfl,hv,HX⟩:=hrel
                subst hv
                obtain ⟨qf,of,og⟩:=(show _ ∧ _ ∧ _ from HX)
                have hps:=(show Psh d ∧ _ from HPS).1
                have hrf : ∀ j,j < 4 → Rn (fld (d.N i) j):=fun j hj=>by
                  obtain ⟨_,r1,r2,r3,r4⟩:=hps.hN i hin
                  rcases (by omega : j = 0 ∨ j = 1 ∨ j = 2 ∨ j = 3) with rfl | rfl | rfl | rfl
                  · exact r1
                  · exact r2
                  · exact r3
                  · exact r4
                have hcl : (ct (fun j=>nb (fld (d.N i) j)) f).length ≤ f * 10:=ct_len f (fun j hj=>(hrf j (by omega)).len)
                have yf : (M1 ++ ct (fun j=>nb (fld (d.N i) j)) f).length ≤ M1.length + 40:=by rw [List.length_append];omega
                by_cases hf4 : f < 4
                · have hfI : (f : Int) < 4:=by omega
                  have hfn : ¬ (f : Int) < 0:=by omega
                  have bx:=(show ∀ W',Lib.OthersKept 5 none wf W' → _ from HBF) wr og
                  have cf : wr.cell? ⟨gf,f,none⟩ = some (.int .i64 (fld (d.N i) f)):=by
                    rcases (by omega : f = 0 ∨ f = 1 ∨ f = 2 ∨ f = 3) with rfl | rfl | rfl | rfl <;> exact cell_of bx rfl
                  have HC:=sp_num (fld (d.N i) f) (hrf f hf4).1 (hrf f hf4).2 qf (by omega)
                  have HO : Hid (Lib.OthersKept 5 none w9 wr ∧ Lib.OthersKept 5 none wf wr ∧ ct (fun j=>nb (fld (d.N i) j)) (f + 1) = ct (fun j=>nb (fld (d.N i) j)) f ++ nb (fld (d.N i) f)):=(⟨of,og,rfl⟩ : _ ∧ _)
                  clear bx qf of og hps hrf hcl yf HX
                  generalize fld (d.N i) f = xf at *
                  go_wp2_with fail
                  refine HC.mono ?_
                  rintro e wg ⟨vg,rfl,qq,oo⟩
                  obtain ⟨of,og,he⟩:=(show _ ∧ _ ∧ _ from HO)
                  have HN : Hid (QK w0 (M1 ++ ct (fun j=>nb (fld (d.N i) j)) (f + 1)) vg wg ∧ Lib.OthersKept 5 none w9 wg ∧ Lib.OthersKept 5 none wf wg):=(⟨by rw [he,← List.append_assoc];exact qq,of.trans oo,og.trans oo⟩ : _ ∧ _)
                  clear HC HO qq oo of og he cf
                  go_wp2_with fail
                  go_roundw
                  case rel=>exact ⟨f + 1,vg,by omega,by go_num,rfl,HN⟩
                  case measure=>simp [intOf];omega
                · obtain rfl : f = 4:=by omega
                  obtain ⟨M2,hM2⟩ : ∃ M2,M2 = M1 ++ ct (fun j=>nb (fld (d.N i) j)) 4:=⟨_,rfl⟩
                  have HM2 : Hid (M2 = M1 ++ ((((([] ++ nb (d.N i).a)) ++ nb (d.N i).b) ++ nb (d.N i).c) ++ nb (d.N i).d)):=hM2
                  have HE2 : Hid (QK w0 M2 vf wr ∧ Lib.OthersKept 5 none w9 wr):=(⟨by rw [hM2];exact qf,of⟩ : _ ∧ _)
                  clear qf of og hps hrf hcl yf HX hM2 hf4 HBF hf
                  obtain ⟨x2,hx2⟩ : ∃ x2,x2 = wr:=⟨_,rfl⟩
                  obtain ⟨u2,hu2⟩ : ∃ u2,u2 = vf:=⟨_,rfl⟩
                  rw [← hx2,← hu2] at HE2
                  rw [← hx2,← hu2]
                  clear hx2 hu2
                  have HN : Hid (QK w0 (L10 ++ ct (fun i=>ib (d.N i)) (i + 1)) u2 x2 ∧ Lib.OthersKept 5 none w1 x2):=(⟨by
                    have e : L10 ++ ct (fun i=>ib (d.N i)) (i + 1) = M2:=by
                      rw [show M2 = _ from HM2,show M1 = _ from HM1,show M0 = _ from HM0]
                      show L10 ++ (ct (fun i=>ib (d.N i)) i ++ ib (d.N i)) = _
                      simp only [List.append_assoc,ib,List.nil_append]
                    rw [e];exact (show _ ∧ _ from HE2).1,(show Lib.OthersKept 5 none w1 w9 from HOI).trans (show _ ∧ _ from HE2).2⟩ : _ ∧ _)
                  clear HE2 HOI HB9
                  go_wp2_with fail
                  go_roundw
                  case rel=>exact ⟨i + 1,u2,by omega,by go_num,rfl,HN⟩
                  case measure=>simp [intOf];omega
            · obtain rfl : i = d.n:=by omega
              have hI : ¬ (d.n : Int) < (d.n : Int):=by omega
              obtain ⟨L11,hL11⟩ : ∃ L11,L11 = L10 ++ ct (fun i=>ib (d.N i)) d.n:=⟨_,rfl⟩
              have HL11 : Hid (L11 = L10 ++ ct (fun i=>ib (d.N i)) d.n):=hL11
              have y11 : L11.length ≤ 70000000000000 + 6293014661:=by have h:=yi;rw [← hL11] at h;omega
              have HQ12 : Hid (QK w0 L11 vi wr ∧ Lib.OthersKept 5 none w1 wr):=(⟨by rw [hL11];exact qi,oi⟩ : _ ∧ _)
              clear qi oi HX hcl yi yj hps hL11 hi hlI
              go_upto_region 30 with fail
              obtain ⟨w12,hww⟩ : ∃ w12,w12 = wr:=⟨_,rfl⟩
              obtain ⟨v12,hvv⟩ : ∃ v12,v12 = vi:=⟨_,rfl⟩
              rw [← hww,← hvv] at HQ12
              rw [← hww,← hvv]
              clear hww hvv
              obtain ⟨q12,o12⟩:=(show _ ∧ _ from HQ12)
              have bx:=(show ∀ W',Lib.OthersKept 5 none w1 W' → _ from HBX) w12 o12
              have c8 : w12.cell? ⟨g1,8,none⟩ = some (.slice pm d.d cm):=cell_of bx rfl
              have hps:=(show Psh d ∧ _ from HPS).1
              have hle : (nb (d.d : Int)).length ≤ 10:=nb_len (by omega) (by omega)
              have HC:=sp_num (d.d : Int) (by omega) (by omega) q12 (by omega)
              clear bx hps
              go_upto_region 31 with (go_at_call 20;refine HC.mono ?_;rintro e w13 ⟨v13,rfl,qq,oo⟩)
              obtain ⟨L12,hL12⟩ : ∃ L12,L12 = L11 ++ nb (d.d : Int):=⟨_,rfl⟩
              rw [← hL12] at qq
              have y12 : L12.length ≤ 70000000000000 + 6293014671:=by rw [hL12,List.length_append];omega
              have HL12 : Hid (L12 = L11 ++ nb (d.d : Int)):=hL12
              have HQ13 : Hid (QK w0 L12 v13 w13 ∧ Lib.OthersKept 5 none w1 w13):=(⟨qq,o12.trans oo⟩ : _ ∧ _)
              clear HC q12 o12 qq oo hL12 HQ12 hle y11
              clear c8
              obtain ⟨q13,o13⟩:=(show _ ∧ _ from HQ13)
              have bx:=(show ∀ W',Lib.OthersKept 5 none w1 W' → _ from HBX) w13 o13
              have c8 : w13.cell? ⟨g1,8,none⟩ = some (.slice pm d.d cm):=cell_of bx rfl
              have HS : Hid (QK w0 (L12 ++ ct (fun i=>mb (d.D i)) 0) v13 w13 ∧ Lib.OthersKept 5 none w1 w13):=(⟨by rw [show ct (fun i=>mb (d.D i)) 0 = [] from rfl,List.append_nil];exact q13,o13⟩ : _ ∧ _)
              have hlI : (d.d : Int) ≤ 6000:=by omega
              clear q13 o13 bx HQ13
              go_wp2_with fail
              clear c8
              go_loopw [0,108] (fun s0 sl wr=>∃ (i : Nat) (v' : Value),i ≤ d.d ∧ sl = .int .i64 (i : Int) ∧ v' = s0 ∧ Hid (QK w0 (L12 ++ ct (fun i=>mb (d.D i)) i) v' wr ∧ Lib.OthersKept 5 none w1 wr)) (fun _ sl _=>d.d - (intOf sl).toNat)
              case atStart=>exact ⟨0,_,by omega,rfl,rfl,HS⟩
              case round =>
                clear HS
                obtain ⟨i,vi,hi,rfl,hv,HX⟩:=hrel
                subst hv
                obtain ⟨qi,oi⟩:=(show QK w0 (L12 ++ ct (fun i=>mb (d.D i)) i) vi wr ∧ Lib.OthersKept 5 none w1 wr from HX)
                have hps:=(show Psh d ∧ _ from HPS).1
                have hcl : (ct (fun i=>mb (d.D i)) i).length ≤ i * 1048616:=ct_len i (fun j hj=>mb_len (hps.hD j (by omega)))
                have yi : (L12 ++ ct (fun i=>mb (d.D i)) i).length ≤ 70000000000000 + 6293014671 + i * 1048616:=by rw [List.length_append];omega
                have yj : i * 1048616 ≤ 6291696000:=Nat.le_trans (Nat.mul_le_mul_right _ (show i ≤ 6000 by omega)) (Nat.le_of_ble_eq_true rfl)
                by_cases hin : i < d.d
                · have hI : (i : Int) < (d.d : Int):=by omega
                  obtain ⟨pa',ca',e1,hr2⟩:=((show _ ∧ _ ∧ _ ∧ _ from HR).2.2.2).keep qi.2
                  obtain ⟨rfl,-,rfl⟩:=(Value.slice.injEq _ _ _ _ _ _).mp e1
                  obtain ⟨b,rfl,hcb,-,hrb⟩:=hr2 (by omega)
                  obtain ⟨z0,z1,z2,z3⟩:=hrb i hin
                  obtain ⟨w9,hw9⟩ : ∃ w9,w9 = wr.alloc (.cells #[.string (d.D i).x,.int .i64 (d.D i).g,.int .i64 (d.D i).f,.int .i64 (d.D i).t] 97):=⟨_,rfl⟩
                  obtain ⟨g9,hg9⟩ : ∃ g9,g9 = wr.heap.size:=⟨_,rfl⟩
                  have k9 : Kb 0 wr w9:=by rw [hw9];exact kb_alloc _ _ _
                  have b9 : w9.heap[g9]? = some (.cells #[.string (d.D i).x,.int .i64 (d.D i).g,.int .i64 (d.D i).f,.int .i64 (d.D i).t] 97 (0,0)):=by rw [hw9,hg9];exact alloc_new _ _ _
                  have HB9 : Hid (∀ W',Lib.OthersKept 5 none w9 W' → W'.heap[g9]? = some (.cells #[.string (d.D i).x,.int .i64 (d.D i).g,.int .i64 (d.D i).f,.int .i64 (d.D i).t] 97 (0,0))):=(fun W' k=>ok_cells k b9 (by simp) (by decide) : ∀ W',_)
                  have HW9 : Hid (w9 = wr.alloc (.cells #[.string (d.D i).x,.int .i64 (d.D i).g,.int .i64 (d.D i).f,.int .i64 (d.D i).t] 97) ∧ g9 = wr.heap.size):=(⟨hw9,hg9⟩ : _ ∧ _)
                  have HOI : Hid (Lib.OthersKept 5 none w1 w9):=oi.trans (ok_kb k9 none)
                  obtain ⟨M0,hM0⟩ : ∃ M0,M0 = L12 ++ ct (fun i=>mb (d.D i)) i:=⟨_,rfl⟩
                  have HM0 : Hid (M0 = L12 ++ ct (fun i=>mb (d.D i)) i):=hM0
                  have x0 : M0.length ≤ 70012584710671:=by have h:=yi;rw [← hM0] at h;omega
                  have HE0 : Hid (QK w0 M0 vi w9 ∧ Lib.OthersKept 5 none w9 w9):=(⟨by rw [hM0];exact qi.call k9,Lib.OthersKept.refl _ _ _⟩ : _ ∧ _)
                  clear hw9 hg9 k9 b9 qi oi HX hcl yi yj hps hM0 hr2 hrb
                  go_upto_region 34 with fail
                  rw [← (show w9 = _ ∧ _ from HW9).1]
                  try rw [← (show w9 = _ ∧ _ from HW9).2]
                  clear HW9 z0 z1 z2 z3
                  obtain ⟨q0,o0⟩:=(show _ ∧ _ from HE0)
                  have bx:=(show ∀ W',Lib.OthersKept 5 none w9 W' → _ from HB9) w9 o0
                  have c0 : w9.cell? ⟨g9,0,none⟩ = some (.string (d.D i).x):=cell_of bx rfl
                  have hps:=(show Psh d ∧ _ from HPS).1
                  have hle : (tb (d.D i).x).length ≤ 1048586:=by have:=tb_len (x:=(d.D i).x) (by have:=(hps.hD i hin).1;omega);have:=(hps.hD i hin).1;omega
                  have HC:=sp_text (d.D i).x (hps.hD i hin).1 q0 (by omega)
                  clear bx hps
                  go_upto_region 35 with (go_at_call 40;refine HC.mono ?_;rintro e x1 ⟨u1,rfl,qq,oo⟩)
                  obtain ⟨M1,hM1⟩ : ∃ M1,M1 = M0 ++ tb (d.D i).x:=⟨_,rfl⟩
                  rw [← hM1] at qq
                  have x1l : M1.length ≤ M0.length + 1048586:=by rw [hM1,List.length_append];omega
                  have HM1 : Hid (M1 = M0 ++ tb (d.D i).x):=hM1
                  have HE1 : Hid (QK w0 M1 u1 x1 ∧ Lib.OthersKept 5 none w9 x1):=(⟨qq,o0.trans oo⟩ : _ ∧ _)
                  clear HC q0 o0 qq oo hM1 HE0 hle
                  clear c0
                  obtain ⟨q1,o1⟩:=(show _ ∧ _ from HE1)
                  have bx:=(show ∀ W',Lib.OthersKept 5 none w9 W' → _ from HB9) x1 o1
                  have c1 : x1.cell? ⟨g9,1,none⟩ = some (.int .i64 (d.D i).g):=cell_of bx rfl
                  have hps:=(show Psh d ∧ _ from HPS).1
                  have hle : (nb (d.D i).g).length ≤ 10:=(hps.hD i hin).2.1.len
                  have HC:=sp_num (d.D i).g (hps.hD i hin).2.1.1 (hps.hD i hin).2.1.2 q1 (by omega)
                  clear bx hps
                  go_upto_region 36 with (go_at_call 20;refine HC.mono ?_;rintro e x2 ⟨u2,rfl,qq,oo⟩)
                  obtain ⟨M2,hM2⟩ : ∃ M2,M2 = M1 ++ nb (d.D i).g:=⟨_,rfl⟩
                  rw [← hM2] at qq
                  have x2l : M2.length ≤ M1.length + 10:=by rw [hM2,List.length_append];omega
                  have HM2 : Hid (M2 = M1 ++ nb (d.D i).g):=hM2
                  have HE2 : Hid (QK w0 M2 u2 x2 ∧ Lib.OthersKept 5 none w9 x2):=(⟨qq,o1.trans oo⟩ : _ ∧ _)
                  clear HC q1 o1 qq oo hM2 HE1 hle
                  clear c1
                  obtain ⟨q2,o2⟩:=(show _ ∧ _ from HE2)
                  have bx:=(show ∀ W',Lib.OthersKept 5 none w9 W' → _ from HB9) x2 o2
                  have c2 : x2.cell? ⟨g9,2,none⟩ = some (.int .i64 (d.D i).f):=cell_of bx rfl
                  have hps:=(show Psh d ∧ _ from HPS).1
                  have hle : (nb (d.D i).f).length ≤ 10:=(hps.hD i hin).2.2.1.len
                  have HC:=sp_num (d.D i).f (hps.hD i hin).2.2.1.1 (hps.hD i hin).2.2.1.2 q2 (by omega)
                  clear bx hps
                  go_upto_region 37 with (go_at_call 20;refine HC.mono ?_;rintro e x3 ⟨u3,rfl,qq,oo⟩)
                  obtain ⟨M3,hM3⟩ : ∃ M3,M3 = M2 ++ nb (d.D i).f:=⟨_,rfl⟩
                  rw [← hM3] at qq
                  have x3l : M3.length ≤ M2.length + 10:=by rw [hM3,List.length_append];omega
                  have HM3 : Hid (M3 = M2 ++ nb (d.D i).f):=hM3
                  have HE3 : Hid (QK w0 M3 u3 x3 ∧ Lib.OthersKept 5 none w9 x3):=(⟨qq,o2.trans oo⟩ : _ ∧ _)
                  clear HC q2 o2 qq oo hM3 HE2 hle
                  clear c2
                  obtain ⟨q3,o3⟩:=(show _ ∧ _ from HE3)
                  have bx:=(show ∀ W',Lib.OthersKept 5 none w9 W' → _ from HB9) x3 o3
                  have c3 : x3.cell? ⟨g9,3,none⟩ = some (.int .i64 (d.D i).t):=cell_of bx rfl
                  have hps:=(show Psh d ∧ _ from HPS).1
                  have hle : (nb (d.D i).t).length ≤ 10:=(hps.hD i hin).2.2.2.len
                  have HC:=sp_num (d.D i).t (hps.hD i hin).2.2.2.1 (hps.hD i hin).2.2.2.2 q3 (by omega)
                  clear bx hps
                  go_upto_region 38 with (go_at_call 20;refine HC.mono ?_;rintro e x4 ⟨u4,rfl,qq,oo⟩)
                  obtain ⟨M4,hM4⟩ : ∃ M4,M4 = M3 ++ nb (d.D i).t:=⟨_,rfl⟩
                  rw [← hM4] at qq
                  have x4l : M4.length ≤ M3.length + 10:=by rw [hM4,List.length_append];omega
                  have HM4 : Hid (M4 = M3 ++ nb (d.D i).t):=hM4
                  have HE4 : Hid (QK w0 M4 u4 x4 ∧ Lib.OthersKept 5 none w9 x4):=(⟨qq,o3.trans oo⟩ : _ ∧ _)
                  clear HC q3 o3 qq oo hM4 HE3 hle
                  clear c3
                  have HN : Hid (QK w0 (L12 ++ ct (fun i=>mb (d.D i)) (i + 1)) u4 x4 ∧ Lib.OthersKept 5 none w1 x4):=(⟨by
                    have e : L12 ++ ct (fun i=>mb (d.D i)) (i + 1) = M4:=by
                      rw [show M4 = _ from HM4,show M3 = _ from HM3,show M2 = _ from HM2,show M1 = _ from HM1,show M0 = _ from HM0]
                      show L12 ++ (ct (fun i=>mb (d.D i)) i ++ mb (d.D i)) = _
                      simp only [List.append_assoc,mb]
                    rw [e];exact (show _ ∧ _ from HE4).1,(show Lib.OthersKept 5 none w1 w9 from HOI).trans (show _ ∧ _ from HE4).2⟩ : _ ∧ _)
                  clear HE4 HOI HB9
                  go_wp2_with fail
                  go_roundw
                  case rel=>exact ⟨i + 1,u4,by omega,by go_num,rfl,HN⟩
                  case measure=>simp [intOf];omega
                · obtain rfl : i = d.d:=by omega
                  have hI : ¬ (d.d : Int) < (d.d : Int):=by omega
                  obtain ⟨L13,hL13⟩ : ∃ L13,L13 = L12 ++ ct (fun i=>mb (d.D i)) d.d:=⟨_,rfl⟩
                  have HL13 : Hid (L13 = L12 ++ ct (fun i=>mb (d.D i)) d.d):=hL13
                  have y13 : L13.length ≤ 70000000000000 + 12584710671:=by have h:=yi;rw [← hL13] at h;omega
                  have HQ14 : Hid (QK w0 L13 vi wr ∧ Lib.OthersKept 5 none w1 wr):=(⟨by rw [hL13];exact qi,oi⟩ : _ ∧ _)
                  clear qi oi HX hcl yi yj hps hL13 hi hlI
                  go_upto_region 39 with fail
                  obtain ⟨w14,hww⟩ : ∃ w14,w14 = wr:=⟨_,rfl⟩
                  obtain ⟨v14,hvv⟩ : ∃ v14,v14 = vi:=⟨_,rfl⟩
                  rw [← hww,← hvv] at HQ14
                  rw [← hww,← hvv]
                  clear hww hvv
                  have HE : Hid (L13 = l ++ pb d):=by
                    show L13 = l ++ pb d
                    rw [show L13 = _ from HL13,show L12 = _ from HL12,show L11 = _ from HL11,show L10 = _ from HL10,show L9 = _ from HL9,show L8 = _ from HL8,show L7 = _ from HL7,show L6 = _ from HL6,show L5 = _ from HL5,show L4 = _ from HL4,show L3 = _ from HL3,show L2 = _ from HL2,show L1 = _ from HL1,show L0 = _ from HL0]
                    simp only [pb,lb,List.append_assoc]
                  obtain ⟨q14,o14⟩:=(show _ ∧ _ from HQ14)
                  have HN : Hid (QK w0 (l ++ pb d) v14 w14 ∧ Lib.OthersKept 5 none W w14):=(⟨by rw [← (show L13 = _ from HE)];exact q14,(show _ ∧ _ ∧ _ from HPS).2.2.trans o14⟩ : _ ∧ _)
                  clear q14 o14 HQ14
                  go_wp2_with fail
                  go_ret
                  exact ⟨v14,rfl,HN.1,HN.2⟩
end Go.Proofs.YtnmeemjoodoalaaGreatDoor.Fo
