import Derived.Test.YtnmeemjoodoalaaGreatDoorNExx
import Derived.Test.YtnmeemjoodoalaaGreatDoorNExf
import Derived.Deep.CutBlock
import Derived.Deep.CutRange
set_option maxHeartbeats 32000000
namespace Go.Proofs.YtnmeemjoodoalaaGreatDoor.Fo
open Go.ChangeShapes Go.WideShapes Go.ChangeAt Go.RowKit
set_option linter.unusedVariables false
set_option maxRecDepth 100000
def RMP (b : Nat) (a : Addr) (c : Nat) (M : List UInt8) (k : Nat) (bad : Bool) (W : World) (e : Ending) (w' : World) : Prop :=
  ∃ q vu vc vn vd k' bad',e = .returned (qv q vu vc vn vd) ∧ RD b a c M k' bad' w' ∧ k ≤ k' ∧ Kx b W w' ∧ OwnQ W.heap.size w'.heap.size w' q vu vc vn vd ∧ Rt q ∧ (bad' = false → k + q.N.length < k') ∧ (bad = true → bad' = true) ∧ ∀ y rest,bad = false → Rok y → M.drop k = pe y ++ rest → q = y ∧ k' = k + (pe y).length ∧ bad' = false
theorem rd_proto {b : Nat} {a : Addr} {c : Nat} {M : List UInt8} {k : Nat} {bad : Bool} {W : World} (h : RD b a c M k bad W) (ha : a.block < W.heap.size) :
    Calls Tryz.prog 30 #[.pointer (some ⟨b,0,none⟩)] W (RMP b a c M k bad W):=by
  have hst : ∀ (a : Addr) (n : Nat) (m : Mode) (w : World),(store a (.float .f64 n) m).run Tryz.prog w = stored Tryz.prog w a (.float .f64 n) m:=fun a n m w=>run_store _ _ _ _ _ rfl
  obtain ⟨g,hg⟩ : ∃ g,g = W.heap.size:=⟨_,rfl⟩
  obtain ⟨h2,hh⟩ : ∃ h2,h2 = W.heap.size + 1:=⟨_,rfl⟩
  obtain ⟨w2,hw2⟩ : ∃ w2,w2 = (W.alloc (.cells #[.string ⟨#[]⟩,.int .i64 0,.int .i64 0,.bool false,.int .i64 0,.slice none 0 0,.slice none 0 0,.slice none 0 0,.slice none 0 0] 50)).alloc (.cells #[.string ⟨#[]⟩,.int .i64 0,.int .i64 0,.bool false,.int .i64 0,.slice none 0 0,.slice none 0 0,.slice none 0 0,.slice none 0 0] 50):=⟨_,rfl⟩
  obtain ⟨b1,b2,hz2,k2⟩:=two_newE W #[.string ⟨#[]⟩,.int .i64 0,.int .i64 0,.bool false,.int .i64 0,.slice none 0 0,.slice none 0 0,.slice none 0 0,.slice none 0 0] #[.string ⟨#[]⟩,.int .i64 0,.int .i64 0,.bool false,.int .i64 0,.slice none 0 0,.slice none 0 0,.slice none 0 0,.slice none 0 0] 50 50 w2 hw2
  rw [← hh] at b2
  rw [← hg] at b1
  have s0 : SP b a c M k bad k bad W g h2 (⟨⟨#[]⟩,0,0,false,0,[],[],[],[]⟩ : Rp) (.slice none 0 0) (.slice none 0 0) (.slice none 0 0) (.slice none 0 0) w2:=⟨h.kb k2,Nat.le_refl _,id,Kx.of_kb k2,by omega,by omega,by omega,by omega,b1,b2,h.lt,ha⟩
  have hgh : g ≠ h2:=by omega
  have HW : Hid (w2 = (W.alloc (.cells #[.string ⟨#[]⟩,.int .i64 0,.int .i64 0,.bool false,.int .i64 0,.slice none 0 0,.slice none 0 0,.slice none 0 0,.slice none 0 0] 50)).alloc (.cells #[.string ⟨#[]⟩,.int .i64 0,.int .i64 0,.bool false,.int .i64 0,.slice none 0 0,.slice none 0 0,.slice none 0 0,.slice none 0 0] 50) ∧ h2 = W.heap.size + 1 ∧ g = W.heap.size ∧ b < W.heap.size):=(⟨hw2,hh,hg,h.lt⟩ : _ ∧ _)
  have hM : M.length ≤ 1000000:=h.sz
  clear hw2 hh hg b1 b2 hz2 k2 h
  go_enter Tryz.func30,Tryz.ntmps30
  go_upto_region 2 with fail
  rw [← (show _ ∧ _ ∧ _ ∧ _ from HW).1,← (show _ ∧ _ ∧ _ ∧ _ from HW).2.1,← (show _ ∧ _ ∧ _ ∧ _ from HW).2.2.1]
  have HB0:=rd_text s0.rd
  have HS0 : Hid (SP b a c M k bad k bad W g h2 (⟨⟨#[]⟩,0,0,false,0,[],[],[],[]⟩ : Rp) (.slice none 0 0) (.slice none 0 0) (.slice none 0 0) (.slice none 0 0) w2):=s0
  clear s0
  go_upto_region 3 with (go_at_call 72;refine HB0.mono ?_;rintro e wa0 ⟨va,ka0,ba0,rfl,y1,y2,y3,x0,rfl,y4,y5,y6⟩;have sa0:=SP.step HS0 y1 y2 (fun e=>y5 (.inr e)) y3;have t1 : wa0.cell? ⟨h2,0,none⟩ = some (.string ⟨#[]⟩):=cell_of sa0.bh rfl;have t2 : wa0.frozen? ⟨h2,0,none⟩ = false:=frozen_of sa0.bh)
  have sb0 : SP b a c M k bad ka0 ba0 W g h2 (⟨x0,0,0,false,0,[],[],[],[]⟩ : Rp) (.slice none 0 0) (.slice none 0 0) (.slice none 0 0) (.slice none 0 0) (wa0.setCell ⟨h2,0,none⟩ (.string x0)):=sa0.set 0 (.string x0) rfl
  have E0 : Hid (∀ (y : ByteArray) rest,y.size ≤ 9223372036854775807 → M.drop k = tb y ++ rest → x0 = y ∧ ka0 = k + (tb y).length ∧ ba0 = bad):=y6
  clear HB0 HS0 sa0 t1 t2 y1 y2 y3 y5 y6
  generalize hwb0 : wa0.setCell ⟨h2,0,none⟩ (.string x0) = wb0 at *
  clear hwb0
  have hx0 : x0.size ≤ 1000000:=by have:=sb0.rd.le;omega
  clear y4
  have HB1:=rd_num sb0.rd
  have HS1 : Hid (SP b a c M k bad ka0 ba0 W g h2 (⟨x0,0,0,false,0,[],[],[],[]⟩ : Rp) (.slice none 0 0) (.slice none 0 0) (.slice none 0 0) (.slice none 0 0) wb0):=sb0
  clear sb0
  go_upto_region 4 with (go_at_call 71;refine HB1.mono ?_;rintro e wa1 ⟨va,ka1,ba1,rfl,y1,y2,y3,x1,rfl,r1,y5,y6⟩;have sa1:=SP.step HS1 y1 y2 (fun e=>y5 (.inr e)) y3;have t1 : wa1.cell? ⟨h2,1,none⟩ = some (.int .i64 0):=cell_of sa1.bh rfl;have t2 : wa1.frozen? ⟨h2,1,none⟩ = false:=frozen_of sa1.bh)
  have sb1 : SP b a c M k bad ka1 ba1 W g h2 (⟨x0,x1,0,false,0,[],[],[],[]⟩ : Rp) (.slice none 0 0) (.slice none 0 0) (.slice none 0 0) (.slice none 0 0) (wa1.setCell ⟨h2,1,none⟩ (.int .i64 x1)):=sa1.set 1 (.int .i64 x1) rfl
  have E1 : Hid (∀ y rest,-9223372036854775808 ≤ y → y ≤ 9223372036854775807 → M.drop ka0 = nb y ++ rest → x1 = y ∧ ka1 = ka0 + (nb y).length ∧ ba1 = ba0):=y6
  clear HB1 HS1 sa1 t1 t2 y1 y2 y3 y5 y6
  generalize hwb1 : wa1.setCell ⟨h2,1,none⟩ (.int .i64 x1) = wb1 at *
  clear hwb1
  have Hr1 : Hid (Rn x1):=r1
  clear r1
  have HB2:=rd_num sb1.rd
  have HS2 : Hid (SP b a c M k bad ka1 ba1 W g h2 (⟨x0,x1,0,false,0,[],[],[],[]⟩ : Rp) (.slice none 0 0) (.slice none 0 0) (.slice none 0 0) (.slice none 0 0) wb1):=sb1
  clear sb1
  go_upto_region 5 with (go_at_call 71;refine HB2.mono ?_;rintro e wa2 ⟨va,ka2,ba2,rfl,y1,y2,y3,x2,rfl,r2,y5,y6⟩;have sa2:=SP.step HS2 y1 y2 (fun e=>y5 (.inr e)) y3;have t1 : wa2.cell? ⟨h2,2,none⟩ = some (.int .i64 0):=cell_of sa2.bh rfl;have t2 : wa2.frozen? ⟨h2,2,none⟩ = false:=frozen_of sa2.bh)
  have sb2 : SP b a c M k bad ka2 ba2 W g h2 (⟨x0,x1,x2,false,0,[],[],[],[]⟩ : Rp) (.slice none 0 0) (.slice none 0 0) (.slice none 0 0) (.slice none 0 0) (wa2.setCell ⟨h2,2,none⟩ (.int .i64 x2)):=sa2.set 2 (.int .i64 x2) rfl
  have E2 : Hid (∀ y rest,-9223372036854775808 ≤ y → y ≤ 9223372036854775807 → M.drop ka1 = nb y ++ rest → x2 = y ∧ ka2 = ka1 + (nb y).length ∧ ba2 = ba1):=y6
  clear HB2 HS2 sa2 t1 t2 y1 y2 y3 y5 y6
  generalize hwb2 : wa2.setCell ⟨h2,2,none⟩ (.int .i64 x2) = wb2 at *
  clear hwb2
  have Hr2 : Hid (Rn x2):=r2
  clear r2
  have HB3:=rd_byte sb2.rd
  have HS3 : Hid (SP b a c M k bad ka2 ba2 W g h2 (⟨x0,x1,x2,false,0,[],[],[],[]⟩ : Rp) (.slice none 0 0) (.slice none 0 0) (.slice none 0 0) (.slice none 0 0) wb2):=sb2
  clear sb2
  go_upto_region 6 with (go_at_call 73;refine HB3.mono ?_;rintro e wa3 ⟨va,ka3,ba3,rfl,y1,y2,y3,x,rfl,y4,y5,y6⟩;have sa3:=SP.step HS3 y1 y2 (fun e=>y5 (.inr e)) y3;have t1 : wa3.cell? ⟨h2,3,none⟩ = some (.bool false):=cell_of sa3.bh rfl;have t2 : wa3.frozen? ⟨h2,3,none⟩ = false:=frozen_of sa3.bh)
  have E3 : Hid (∀ (y : Bool) rest,M.drop ka2 = fb y ++ rest → (((x : Int) != 0) = y) ∧ ka3 = ka2 + (fb y).length ∧ ba3 = ba2):=flag_ex y6
  generalize ((x : Int) != 0) = x3 at *
  have sb3 : SP b a c M k bad ka3 ba3 W g h2 (⟨x0,x1,x2,x3,0,[],[],[],[]⟩ : Rp) (.slice none 0 0) (.slice none 0 0) (.slice none 0 0) (.slice none 0 0) (wa3.setCell ⟨h2,3,none⟩ (.bool x3)):=sa3.set 3 (.bool x3) rfl
  clear HB3 HS3 sa3 t1 t2 y1 y2 y3 y4 y5 y6
  generalize hwb3 : wa3.setCell ⟨h2,3,none⟩ (.bool x3) = wb3 at *
  clear hwb3
  have HB4:=rd_num sb3.rd
  have HS4 : Hid (SP b a c M k bad ka3 ba3 W g h2 (⟨x0,x1,x2,x3,0,[],[],[],[]⟩ : Rp) (.slice none 0 0) (.slice none 0 0) (.slice none 0 0) (.slice none 0 0) wb3):=sb3
  clear sb3
  go_upto_region 7 with (go_at_call 71;refine HB4.mono ?_;rintro e wa4 ⟨va,ka4,ba4,rfl,y1,y2,y3,x4,rfl,r4,y5,y6⟩;have sa4:=SP.step HS4 y1 y2 (fun e=>y5 (.inr e)) y3;have t1 : wa4.cell? ⟨h2,4,none⟩ = some (.int .i64 0):=cell_of sa4.bh rfl;have t2 : wa4.frozen? ⟨h2,4,none⟩ = false:=frozen_of sa4.bh)
  have sb4 : SP b a c M k bad ka4 ba4 W g h2 (⟨x0,x1,x2,x3,x4,[],[],[],[]⟩ : Rp) (.slice none 0 0) (.slice none 0 0) (.slice none 0 0) (.slice none 0 0) (wa4.setCell ⟨h2,4,none⟩ (.int .i64 x4)):=sa4.set 4 (.int .i64 x4) rfl
  have E4 : Hid (∀ y rest,-9223372036854775808 ≤ y → y ≤ 9223372036854775807 → M.drop ka3 = nb y ++ rest → x4 = y ∧ ka4 = ka3 + (nb y).length ∧ ba4 = ba3):=y6
  clear HB4 HS4 sa4 t1 t2 y1 y2 y3 y5 y6
  generalize hwb4 : wa4.setCell ⟨h2,4,none⟩ (.int .i64 x4) = wb4 at *
  clear hwb4
  have Hr4 : Hid (Rn x4):=r4
  clear r4
  have HBU:=rd_count sb4.rd
  have HSU : Hid (SP b a c M k bad ka4 ba4 W g h2 (⟨x0,x1,x2,x3,x4,[],[],[],[]⟩ : Rp) (.slice none 0 0) (.slice none 0 0) (.slice none 0 0) (.slice none 0 0) wb4):=sb4
  clear sb4
  go_upto_block 0 with (go_at_call 29;refine HBU.mono ?_;rintro e wcU ⟨va,kcU,bcU,rfl,y1,y2,y3,cntU,rfl,y4,y5,y6⟩)
  have scU:=SP.step HSU y1 y2 (fun e=>y5 (.inr e)) y3
  have hzU : W.heap.size + 2 ≤ wcU.heap.size:=by have:=scU.hl;have:=(show _ ∧ _ ∧ _ ∧ _ from HW).2.1;omega
  have HMU : Hid (ML upc 89 2 ub Ru Ru b a c M ka4 ba4 kcU bcU h2 (fun v=>#[.string x0,.int .i64 x1,.int .i64 x2,.bool x3,.int .i64 x4,v,.slice none 0 0,.slice none 0 0,.slice none 0 0]) wcU cntU [] kcU bcU (.slice none 0 0) wcU):=ML.begin scU.rd scU.bh (by have:=scU.h0;have:=scU.bb;omega) (by have:=scU.h0;have:=scU.ab;omega) (by have:=scU.ab;omega) (LJ.zeroM ub_pos (by omega) y6)
  have HSUc : Hid (SP b a c M k bad kcU bcU W g h2 (⟨x0,x1,x2,x3,x4,[],[],[],[]⟩ : Rp) (.slice none 0 0) (.slice none 0 0) (.slice none 0 0) (.slice none 0 0) wcU):=scU
  have hkgU : bcU = false → ka4 < kcU:=fun e=>by
    rcases Nat.lt_or_ge ka4 kcU with q | q
    · exact q
    · have:=y5 (.inl (by omega))
      rw [e] at this
      cases this
  have HKU : Hid (Kbh b h2 wb4 wcU ∧ (bcU = false → ka4 < kcU) ∧ (ba4 = true → bcU = true)):=(⟨y3.ks.bh,hkgU,fun e=>y5 (.inr e)⟩ : _ ∧ _ ∧ _)
  clear hkgU
  have hleU : k ≤ kcU:=scU.le
  have hcntU : (cntU : Int) ≤ 1000000:=by omega
  clear HBU HSU scU y1 y2 y3 y4 y5 y6
  go_cut [] from 140 to 140 (fun wx=>∃ (L : List (Bool × Int)) (kk : Nat) (bb : Bool) (v : Value),Hid (SP b a c M k bad kk bb W g h2 (⟨x0,x1,x2,x3,x4,L,[],[],[]⟩ : Rp) (v) (.slice none 0 0) (.slice none 0 0) (.slice none 0 0) wx ∧ wx.ownsRow wcU.heap.size 89 2 v L.length (L.flatMap upc) ∧ (∀ x,x ∈ L → Ru x) ∧ L.length ≤ 1000000 ∧ (bb = false → kcU + L.length ≤ kk) ∧ LX ub Ru M ka4 ba4 M.length L kk bb ∧ Kbh b h2 wcU wx ∧ (bcU = true → bb = true)))
  case first =>
    go_wp2_with fail
    go_loopw [4] (fun s wr=>∃ (L : List (Bool × Int)) (kk : Nat) (bb : Bool) (v : Value),s = .int .i64 ((cntU : Int) - (L.length : Int)) ∧ Hid (ML upc 89 2 ub Ru Ru b a c M ka4 ba4 kcU bcU h2 (fun v=>#[.string x0,.int .i64 x1,.int .i64 x2,.bool x3,.int .i64 x4,v,.slice none 0 0,.slice none 0 0,.slice none 0 0]) wcU cntU L kk bb v wr)) (fun s _=>(intOf s).toNat)
    case atStart=>exact ⟨[],kcU,bcU,_,by simp,HMU⟩
    case round =>
      clear HMU
      obtain ⟨L,kk,bb,v,rfl,HR⟩:=hrel
      have hR:=(show ML upc 89 2 ub Ru Ru b a c M ka4 ba4 kcU bcU h2 (fun v=>#[.string x0,.int .i64 x1,.int .i64 x2,.bool x3,.int .i64 x4,v,.slice none 0 0,.slice none 0 0,.slice none 0 0]) wcU cntU L kk bb v wr from HR)
      obtain ⟨ad,cap,rfl⟩:=own_shape hR.row
      clear HR
      have c2 : wr.cell? ⟨b,2,none⟩ = some (.bool bb):=cell_of hR.rd.blk rfl
      have hmo:=hR.mo
      by_cases hgo : L.length < cntU ∧ bb = false
      · obtain ⟨hgo,rfl⟩:=hgo
        have hgI : (0 : Int) < (cntU : Int) - (L.length : Int):=by omega
        have hLI : (L.length : Int) ≤ 1000000:=by omega
        have hbz:=hR.hb
        have haz:=hR.ha
        have hwz:=hR.kb.size
        have HST : Hid (ML upc 89 2 ub Ru Ru b a c M ka4 ba4 kcU bcU h2 (fun v=>#[.string x0,.int .i64 x1,.int .i64 x2,.bool x3,.int .i64 x4,v,.slice none 0 0,.slice none 0 0,.slice none 0 0]) wcU cntU L kk false (.slice ad L.length cap) wr):=hR
        have eu0 : EU 89 b a c M wr kk kk false wr.heap.size #[.bool false,.int .i64 0] (wr.alloc (.cells #[.bool false,.int .i64 0] 89)):=⟨hR.rd.kb (kb_alloc 0 wr _),Nat.le_refl _,Kx.of_kb (kb_alloc 0 wr _),alloc_new _ _ _,Nat.le_refl _,by omega,by omega⟩
        obtain ⟨u,hu⟩ : ∃ u,u = wr.heap.size:=⟨_,rfl⟩
        obtain ⟨we,hwe⟩ : ∃ we,we = wr.alloc (.cells #[.bool false,.int .i64 0] 89):=⟨_,rfl⟩
        rw [← hwe,← hu] at eu0
        have HWE : Hid (we = wr.alloc (.cells #[.bool false,.int .i64 0] 89) ∧ u = wr.heap.size):=(⟨hwe,hu⟩ : _ ∧ _)
        have hz1 : wr.heap.size ≤ u:=by omega
        clear hR hwe hu
        go_upto_region 11 with fail
        rw [← (show _ ∧ _ from HWE).1,← (show _ ∧ _ from HWE).2]
        clear HWE
        have HB:=rd_byte eu0.rd
        go_upto_region 12 with (go_at_call 73;refine HB.mono ?_;rintro e weeU0 ⟨va,keU0,beU0,rfl,y1,y2,y3,eU0f,rfl,y4,y5,y6⟩;have sa:=EU.call eu0 y1 y2 y3;have t1 : weeU0.cell? ⟨u,0,none⟩ = some (.bool false):=cell_of sa.bu rfl;have t2 : weeU0.frozen? ⟨u,0,none⟩ = false:=frozen_of sa.bu)
        have EeU0 : Hid (∀ (y : Bool) rest,M.drop kk = fb y ++ rest → (((eU0f : Int) != 0) = y) ∧ keU0 = kk + (fb y).length ∧ beU0 = false):=flag_ex y6
        generalize ((eU0f : Int) != 0) = eU0 at *
        clear y4
        have GeU0 : Hid (keU0 = kk ∨ false = true → beU0 = true):=y5
        have MeU0 : kk ≤ keU0:=y2
        have sbeU0 : EU 89 b a c M wr kk keU0 beU0 u #[.bool eU0,.int .i64 0] (weeU0.setCell ⟨u,0,none⟩ (.bool eU0)):=sa.set 0 (.bool eU0) rfl
        clear HB eu0 sa t1 t2 y1 y2 y3 y5 y6
        generalize hwf : weeU0.setCell ⟨u,0,none⟩ (.bool eU0) = wfeU0 at *
        clear hwf
        have HB:=rd_num sbeU0.rd
        go_upto_region 13 with (go_at_call 71;refine HB.mono ?_;rintro e weeU1 ⟨va,keU1,beU1,rfl,y1,y2,y3,eU1,rfl,reU1,y5,y6⟩;have sa:=EU.call sbeU0 y1 y2 y3;have t1 : weeU1.cell? ⟨u,1,none⟩ = some (.int .i64 0):=cell_of sa.bu rfl;have t2 : weeU1.frozen? ⟨u,1,none⟩ = false:=frozen_of sa.bu)
        have EeU1 : Hid (∀ y rest,-9223372036854775808 ≤ y → y ≤ 9223372036854775807 → M.drop keU0 = nb y ++ rest → eU1 = y ∧ keU1 = keU0 + (nb y).length ∧ beU1 = beU0):=y6
        have ReU1 : Hid (Rn eU1):=reU1
        clear reU1
        have GeU1 : Hid (keU1 = keU0 ∨ beU0 = true → beU1 = true):=y5
        have MeU1 : keU0 ≤ keU1:=y2
        have sbeU1 : EU 89 b a c M wr kk keU1 beU1 u #[.bool eU0,.int .i64 eU1] (weeU1.setCell ⟨u,1,none⟩ (.int .i64 eU1)):=sa.set 1 (.int .i64 eU1) rfl
        clear HB sbeU0 sa t1 t2 y1 y2 y3 y5 y6
        generalize hwf : weeU1.setCell ⟨u,1,none⟩ (.int .i64 eU1) = wfeU1 at *
        clear hwf
        have Y1:=sbeU1.rd
        have Y3:=sbeU1.ks
        have y2:=sbeU1.le
        have Y5 : beU1 = false → kk < keU1:=fun e=>by
          rcases Nat.lt_or_ge kk keU1 with q | q
          · exact q
          · have:=(show _ → _ from GeU1) (.inl (by have:=sbeU1.le;omega))
            rw [e] at this
            cases this
        have Y7 : ∀ y rest,false = false → Ru y → M.drop kk = ub y ++ rest → ((eU0,eU1) : Bool × Int) = y ∧ keU1 = kk + (ub y).length ∧ beU1 = false:=fun y rest _ hy hm=>by
          unfold ub at hm ⊢
          simp only [List.append_assoc] at hm
          obtain ⟨q0a,q0b,q0c⟩:=(show ∀ y rest,_ from EeU0) y.1 _ hm
          replace hm:=drop_app hm
          rw [← q0b] at hm
          obtain ⟨q1a,q1b,q1c⟩:=(show ∀ y rest,_ from EeU1) y.2 _ hy.1 hy.2 hm
          exact ⟨by rw [q0a,q1a],by simp only [List.length_append];omega,q1c.trans q0c⟩
        have Y4 : Ru ((eU0,eU1) : Bool × Int):=(show Rn eU1 from ReU1)
        have hz2:=Y3.size
        have d5 : wfeU1.cell? ⟨h2,5,none⟩ = some (.slice ad L.length cap):=cell_of ((Y3.block h2 (by have:=(show ML upc 89 2 ub Ru Ru b a c M ka4 ba4 kcU bcU h2 (fun v=>#[.string x0,.int .i64 x1,.int .i64 x2,.bool x3,.int .i64 x4,v,.slice none 0 0,.slice none 0 0,.slice none 0 0]) wcU cntU L kk false _ wr from HST).hh;omega) (show ML upc 89 2 ub Ru Ru b a c M ka4 ba4 kcU bcU h2 (fun v=>#[.string x0,.int .i64 x1,.int .i64 x2,.bool x3,.int .i64 x4,v,.slice none 0 0,.slice none 0 0,.slice none 0 0]) wcU cntU L kk false _ wr from HST).bn).trans (show ML upc 89 2 ub Ru Ru b a c M ka4 ba4 kcU bcU h2 (fun v=>#[.string x0,.int .i64 x1,.int .i64 x2,.bool x3,.int .i64 x4,v,.slice none 0 0,.slice none 0 0,.slice none 0 0]) wcU cntU L kk false _ wr from HST).bh) rfl
        have f0 : wfeU1.cell? ⟨u,0,none⟩ = some (.bool eU0):=cell_of sbeU1.bu rfl
        have f1 : wfeU1.cell? ⟨u,1,none⟩ = some (.int .i64 eU1):=cell_of sbeU1.bu rfl
        clear sbeU1 EeU0 GeU0 EeU1 GeU1 ReU1
        have hown:=Kx.row (W:=W) (Kx.of_kb (b:=b) (kb_alloc 0 wfeU1 (.cells #[.bool eU0,.int .i64 eU1] 89))) (Kx.row (W:=W) Y3 (show ML upc 89 2 ub Ru Ru b a c M ka4 ba4 kcU bcU h2 (fun v=>#[.string x0,.int .i64 x1,.int .i64 x2,.bool x3,.int .i64 x4,v,.slice none 0 0,.slice none 0 0,.slice none 0 0]) wcU cntU L kk false (.slice ad L.length cap) wr from HST).row hbz) hbz
        have hqc:=qr_cells wfeU1 #[.bool eU0,.int .i64 eU1] 89 [.bool eU0,.int .i64 eU1] rfl
        have h1c : ∀ u ∈ ([.bool eU0,.int .i64 eU1] : List Value),u.oneCell' = true:=by intro u hu;simp at hu;rcases hu with rfl | rfl <;> rfl
        have HSTP : Hid (∀ (v' : Value) (w3 : World),w3.ownsRow wcU.heap.size 89 2 v' (L.length + 1) (L.flatMap upc ++ [.bool eU0,.int .i64 eU1]) → (wfeU1.alloc (.cells #[.bool eU0,.int .i64 eU1] 89)).grownBy w3 (Value.slice ad L.length cap).ownBlock → ML upc 89 2 ub Ru Ru b a c M ka4 ba4 kcU bcU h2 (fun v=>#[.string x0,.int .i64 x1,.int .i64 x2,.bool x3,.int .i64 x4,v,.slice none 0 0,.slice none 0 0,.slice none 0 0]) wcU cntU (L ++ [((eU0,eU1) : Bool × Int)]) keU1 beU1 v' (w3.setCell ⟨h2,5,none⟩ v') ∧ w3.heap[h2]? = some (.cells ((fun v=>#[.string x0,.int .i64 x1,.int .i64 x2,.bool x3,.int .i64 x4,v,.slice none 0 0,.slice none 0 0,.slice none 0 0]) (.slice ad L.length cap)) 50 (0,0))):=(fun v' w3 h1 h3=>⟨(show ML upc 89 2 ub Ru Ru b a c M ka4 ba4 kcU bcU h2 (fun v=>#[.string x0,.int .i64 x1,.int .i64 x2,.bool x3,.int .i64 x4,v,.slice none 0 0,.slice none 0 0,.slice none 0 0]) wcU cntU L kk false (.slice ad L.length cap) wr from HST).step rfl hgo Y1 y2 Y3 Y4 Y5 Y7 h1 h3 rfl,(show ML upc 89 2 ub Ru Ru b a c M ka4 ba4 kcU bcU h2 (fun v=>#[.string x0,.int .i64 x1,.int .i64 x2,.bool x3,.int .i64 x4,v,.slice none 0 0,.slice none 0 0,.slice none 0 0]) wcU cntU L kk false (.slice ad L.length cap) wr from HST).blk Y3 h3⟩ : ∀ (v' : Value) (w3 : World),_)
        obtain ⟨i0,hi0,hz0,hzs,hzb⟩:=info_parts infoup
        have HI0 : Hid (Tryz.prog.info? 89 = some i0):=hi0
        clear hi0 Y1 y2 Y3 Y4 Y5 Y7 HST c2
        go_wp2_with (at_builtin;refine wpList_append_own _ rfl (.tmp 49) (.tmp 51) 45 rfl wcU.heap.size 89 i0 (.agg #[.bool false,.int .i64 0]) 2 16 Tryz.underlying45 HI0 hz0 hzs hzb rfl (by decide) _ _ _ rfl hown ⟨wfeU1.heap.size,0,none⟩ 1 1 [.bool eU0,.int .i64 eU1] rfl rfl hqc h1c (by unfold maxLen;omega) (by omega) (by simp;omega) ?_;intro v' w3 hown3 hgr3 _;obtain ⟨HN,hbb⟩:=(show ∀ (v' : Value) (w3 : World),_ from HSTP) _ _ hown3 hgr3;obtain ⟨g',cap',rfl,_,_⟩:=hown3.form (by omega);have t1 : w3.cell? ⟨h2,5,none⟩ = some (.slice ad L.length cap):=cell_of hbb rfl;have t2 : w3.frozen? ⟨h2,5,none⟩ = false:=frozen_of hbb;have HN2 : Hid (ML upc 89 2 ub Ru Ru b a c M ka4 ba4 kcU bcU h2 (fun v=>#[.string x0,.int .i64 x1,.int .i64 x2,.bool x3,.int .i64 x4,v,.slice none 0 0,.slice none 0 0,.slice none 0 0]) wcU cntU (L ++ [((eU0,eU1) : Bool × Int)]) keU1 beU1 (.slice (some ⟨g',0,none⟩) (L.length + 1) cap') (w3.setCell ⟨h2,5,none⟩ (.slice (some ⟨g',0,none⟩) (L.length + 1) cap'))):=HN;clear HN hbb hown3 hgr3 hown hqc h1c HSTP)
        go_roundw
        case rel=>exact ⟨L ++ [((eU0,eU1) : Bool × Int)],keU1,beU1,_,by rw [List.length_append,List.length_singleton];go_num,HN2⟩
        case measure=>simp [intOf];omega
      · have s9 : SP b a c M k bad kk bb W g h2 (⟨x0,x1,x2,x3,x4,L,[],[],[]⟩ : Rp) (.slice ad L.length cap) (.slice none 0 0) (.slice none 0 0) (.slice none 0 0) wr:=(show SP b a c M k bad kcU bcU W g h2 (⟨x0,x1,x2,x3,x4,[],[],[],[]⟩ : Rp) (.slice none 0 0) (.slice none 0 0) (.slice none 0 0) (.slice none 0 0) wcU from HSUc).after hR.rd hR.le hR.mn hR.kb hR.bh
        have hX : SP b a c M k bad kk bb W g h2 (⟨x0,x1,x2,x3,x4,L,[],[],[]⟩ : Rp) (.slice ad L.length cap) (.slice none 0 0) (.slice none 0 0) (.slice none 0 0) wr ∧ wr.ownsRow wcU.heap.size 89 2 (.slice ad L.length cap) L.length (L.flatMap upc) ∧ (∀ x,x ∈ L → Ru x) ∧ L.length ≤ 1000000 ∧ (bb = false → kcU + L.length ≤ kk) ∧ LX ub Ru M ka4 ba4 M.length L kk bb ∧ Kbh b h2 wcU wr ∧ (bcU = true → bb = true):=⟨s9,hR.row,hR.tt,by omega,hR.gt,hR.ex.done (fun e=>hgo ⟨by omega,e.2⟩),hR.kb,hR.mn⟩
        have hX2 : ∃ (L : List (Bool × Int)) (kk : Nat) (bb : Bool) (v : Value),Hid (SP b a c M k bad kk bb W g h2 (⟨x0,x1,x2,x3,x4,L,[],[],[]⟩ : Rp) (v) (.slice none 0 0) (.slice none 0 0) (.slice none 0 0) wr ∧ wr.ownsRow wcU.heap.size 89 2 v L.length (L.flatMap upc) ∧ (∀ x,x ∈ L → Ru x) ∧ L.length ≤ 1000000 ∧ (bb = false → kcU + L.length ≤ kk) ∧ LX ub Ru M ka4 ba4 M.length L kk bb ∧ Kbh b h2 wcU wr ∧ (bcU = true → bb = true)):=⟨L,kk,bb,.slice ad L.length cap,hX⟩
        have HX : Hid _:=hX2
        clear s9 hX hX2
        clear hR
        by_cases hlt : L.length < cntU
        · obtain rfl : bb = true := by
            by_cases e : bb = false
            · exact (hgo ⟨hlt,e⟩).elim
            · simpa using e
          have hgI : (0 : Int) < (cntU : Int) - (L.length : Int):=by omega
          go_wp2_with fail
          go_meet
          case rel=>exact HX
        · have hgI : ¬ (0 : Int) < (cntU : Int) - (L.length : Int):=by omega
          go_wp2_with fail
          go_meet
          case rel=>exact HX
  case rest =>
    clear HMU HSUc
    obtain ⟨LU,kU,bU,vU,HUU⟩:=hcut
    rename World=>wU
    obtain ⟨sU,UU⟩:=(show _ ∧ _ from HUU)
    have HUU2 : Hid _:=UU
    clear HUU UU
    obtain ⟨aU,cU,rfl⟩:=own_shape (show _ ∧ _ from HUU2).1
    have HBC:=rd_count sU.rd
    have HSC : Hid (SP b a c M k bad kU bU W g h2 (⟨x0,x1,x2,x3,x4,LU,[],[],[]⟩ : Rp) (.slice aU LU.length cU) (.slice none 0 0) (.slice none 0 0) (.slice none 0 0) wU):=sU
    clear sU
    go_upto_block 2 with (go_at_call 29;refine HBC.mono ?_;rintro e wcC ⟨va,kcC,bcC,rfl,y1,y2,y3,cntC,rfl,y4,y5,y6⟩)
    have scC:=SP.step HSC y1 y2 (fun e=>y5 (.inr e)) y3
    have hzC : W.heap.size + 2 ≤ wcC.heap.size:=by have:=scC.hl;have:=(show _ ∧ _ ∧ _ ∧ _ from HW).2.1;omega
    have HMC : Hid (ML vlc 92 5 cb Tv Yv b a c M kU bU kcC bcC h2 (fun v=>#[.string x0,.int .i64 x1,.int .i64 x2,.bool x3,.int .i64 x4,.slice aU LU.length cU,v,.slice none 0 0,.slice none 0 0]) wcC cntC [] kcC bcC (.slice none 0 0) wcC):=ML.begin scC.rd scC.bh (by have:=scC.h0;have:=scC.bb;omega) (by have:=scC.h0;have:=scC.ab;omega) (by have:=scC.ab;omega) (LJ.zeroM cb_pos (by omega) y6)
    have HSCc : Hid (SP b a c M k bad kcC bcC W g h2 (⟨x0,x1,x2,x3,x4,LU,[],[],[]⟩ : Rp) (.slice aU LU.length cU) (.slice none 0 0) (.slice none 0 0) (.slice none 0 0) wcC):=scC
    have hkgC : bcC = false → kU < kcC:=fun e=>by
      rcases Nat.lt_or_ge kU kcC with q | q
      · exact q
      · have:=y5 (.inl (by omega))
        rw [e] at this
        cases this
    have HKC : Hid (Kbh b h2 wU wcC ∧ (bcC = false → kU < kcC) ∧ (bU = true → bcC = true)):=(⟨y3.ks.bh,hkgC,fun e=>y5 (.inr e)⟩ : _ ∧ _ ∧ _)
    clear hkgC
    have hleC : k ≤ kcC:=scC.le
    have hcntC : (cntC : Int) ≤ 1000000:=by omega
    clear HBC HSC scC y1 y2 y3 y4 y5 y6
    go_cut [] from 140 to 140 (fun wx=>∃ (L : List Vv) (kk : Nat) (bb : Bool) (v : Value),Hid (SP b a c M k bad kk bb W g h2 (⟨x0,x1,x2,x3,x4,LU,L,[],[]⟩ : Rp) (.slice aU LU.length cU) (v) (.slice none 0 0) (.slice none 0 0) wx ∧ wx.ownsRow wcC.heap.size 92 5 v L.length (L.flatMap vlc) ∧ (∀ x,x ∈ L → Tv x) ∧ L.length ≤ 1000000 ∧ (bb = false → kcC + L.length ≤ kk) ∧ LX cb Yv M kU bU M.length L kk bb ∧ Kbh b h2 wcC wx ∧ (bcC = true → bb = true)))
    case first =>
      go_wp2_with fail
      go_loopw [6] (fun s wr=>∃ (L : List Vv) (kk : Nat) (bb : Bool) (v : Value),s = .int .i64 ((cntC : Int) - (L.length : Int)) ∧ Hid (ML vlc 92 5 cb Tv Yv b a c M kU bU kcC bcC h2 (fun v=>#[.string x0,.int .i64 x1,.int .i64 x2,.bool x3,.int .i64 x4,.slice aU LU.length cU,v,.slice none 0 0,.slice none 0 0]) wcC cntC L kk bb v wr)) (fun s _=>(intOf s).toNat)
      case atStart=>exact ⟨[],kcC,bcC,_,by simp,HMC⟩
      case round =>
        clear HMC
        obtain ⟨L,kk,bb,v,rfl,HR⟩:=hrel
        have hR:=(show ML vlc 92 5 cb Tv Yv b a c M kU bU kcC bcC h2 (fun v=>#[.string x0,.int .i64 x1,.int .i64 x2,.bool x3,.int .i64 x4,.slice aU LU.length cU,v,.slice none 0 0,.slice none 0 0]) wcC cntC L kk bb v wr from HR)
        obtain ⟨ad,cap,rfl⟩:=own_shape hR.row
        clear HR
        have c2 : wr.cell? ⟨b,2,none⟩ = some (.bool bb):=cell_of hR.rd.blk rfl
        have hmo:=hR.mo
        by_cases hgo : L.length < cntC ∧ bb = false
        · obtain ⟨hgo,rfl⟩:=hgo
          have hgI : (0 : Int) < (cntC : Int) - (L.length : Int):=by omega
          have hLI : (L.length : Int) ≤ 1000000:=by omega
          have hbz:=hR.hb
          have haz:=hR.ha
          have hwz:=hR.kb.size
          have HB:=rd_const fl_word hR.rd (by omega)
          have HST : Hid (ML vlc 92 5 cb Tv Yv b a c M kU bU kcC bcC h2 (fun v=>#[.string x0,.int .i64 x1,.int .i64 x2,.bool x3,.int .i64 x4,.slice aU LU.length cU,v,.slice none 0 0,.slice none 0 0]) wcC cntC L kk false (.slice ad L.length cap) wr):=hR
          clear hR
          go_upto_region 18 with (go_at_call 74;refine HB.mono ?_;rintro e w1 ⟨va,k2,b2,rfl,y1,y2,y3,x,rfl,g1,g2,g3,g4,g5,g6,g7⟩;have G4 : Hid (x.r = 0):=g4;clear g4;unfold vv)
          have hx6 : x.x.size ≤ 1000000:=by have:=y1.le;omega
          obtain ⟨w2e,hw2e⟩ : ∃ w2e,w2e = w1.alloc (.cells #[.int .i64 x.k,.int .i64 x.m,.float .f64 x.g,.string x.x,.int .i64 x.r] 92):=⟨_,rfl⟩
          obtain ⟨u,hu⟩ : ∃ u,u = w1.heap.size:=⟨_,rfl⟩
          have kw : Kb 0 w1 w2e:=by rw [hw2e];exact kb_alloc 0 w1 _
          have bu : w2e.heap[u]? = some (.cells #[.int .i64 x.k,.int .i64 x.m,.float .f64 x.g,.string x.x,.int .i64 x.r] 92 (0,0)):=by rw [hw2e,hu];exact alloc_new _ _ _
          rw [← hw2e,← hu]
          have hz1:=y3.size
          have hz2:=kw.size
          have Y1:=y1.kb kw
          have Y3:=y3.trans (Kx.of_kb kw)
          have Y5 : b2 = false → kk < k2:=fun e=>by
            rcases Nat.lt_or_ge kk k2 with q | q
            · exact q
            · have:=g5 (.inl (by omega))
              rw [e] at this
              cases this
          have Y7 : ∀ y rest,false = false → Yv y → M.drop kk = cb y ++ rest → x = y ∧ k2 = kk + (cb y).length ∧ b2 = false:=fun y rest _ hy hm=>by
            obtain ⟨p1,p2,p3⟩:=g7 y rest hy.1 hm
            exact ⟨p1.trans hy.2,p2,p3⟩
          have d5 : w2e.cell? ⟨h2,6,none⟩ = some (.slice ad L.length cap):=cell_of ((kw.block h2 (Nat.zero_le _) (by have:=(show ML vlc 92 5 cb Tv Yv b a c M kU bU kcC bcC h2 (fun v=>#[.string x0,.int .i64 x1,.int .i64 x2,.bool x3,.int .i64 x4,.slice aU LU.length cU,v,.slice none 0 0,.slice none 0 0]) wcC cntC L kk false _ wr from HST).hh;omega)).trans ((y3.block h2 (by have:=(show ML vlc 92 5 cb Tv Yv b a c M kU bU kcC bcC h2 (fun v=>#[.string x0,.int .i64 x1,.int .i64 x2,.bool x3,.int .i64 x4,.slice aU LU.length cU,v,.slice none 0 0,.slice none 0 0]) wcC cntC L kk false _ wr from HST).hh;omega) (show ML vlc 92 5 cb Tv Yv b a c M kU bU kcC bcC h2 (fun v=>#[.string x0,.int .i64 x1,.int .i64 x2,.bool x3,.int .i64 x4,.slice aU LU.length cU,v,.slice none 0 0,.slice none 0 0]) wcC cntC L kk false _ wr from HST).bn).trans (show ML vlc 92 5 cb Tv Yv b a c M kU bU kcC bcC h2 (fun v=>#[.string x0,.int .i64 x1,.int .i64 x2,.bool x3,.int .i64 x4,.slice aU LU.length cU,v,.slice none 0 0,.slice none 0 0]) wcC cntC L kk false _ wr from HST).bh)) rfl
          have f0 : w2e.cell? ⟨u,0,none⟩ = some (.int .i64 x.k):=cell_of bu rfl
          have f1 : w2e.cell? ⟨u,1,none⟩ = some (.int .i64 x.m):=cell_of bu rfl
          have f2 : w2e.cell? ⟨u,2,none⟩ = some (.float .f64 x.g):=cell_of bu rfl
          have f3 : w2e.cell? ⟨u,3,none⟩ = some (.string x.x):=cell_of bu rfl
          have f4 : w2e.cell? ⟨u,4,none⟩ = some (.int .i64 x.r):=cell_of bu rfl
          have Y4 : Tv x:=⟨g1,g2,g3,G4,hx6⟩
          clear bu hw2e hu kw y1 y3 g1 g2 g3 g5 g6 g7 HB
          have hown:=Kx.row (W:=W) (Kx.of_kb (b:=b) (kb_alloc 0 w2e (.cells #[.int .i64 x.k,.int .i64 x.m,.float .f64 x.g,.string x.x,.int .i64 x.r] 92))) (Kx.row (W:=W) Y3 (show ML vlc 92 5 cb Tv Yv b a c M kU bU kcC bcC h2 (fun v=>#[.string x0,.int .i64 x1,.int .i64 x2,.bool x3,.int .i64 x4,.slice aU LU.length cU,v,.slice none 0 0,.slice none 0 0]) wcC cntC L kk false (.slice ad L.length cap) wr from HST).row hbz) hbz
          have hqc:=qr_cells w2e #[.int .i64 x.k,.int .i64 x.m,.float .f64 x.g,.string x.x,.int .i64 x.r] 92 [.int .i64 x.k,.int .i64 x.m,.float .f64 x.g,.string x.x,.int .i64 x.r] rfl
          have h1c : ∀ u ∈ ([.int .i64 x.k,.int .i64 x.m,.float .f64 x.g,.string x.x,.int .i64 x.r] : List Value),u.oneCell' = true:=by intro u hu;simp at hu;rcases hu with rfl | rfl | rfl | rfl | rfl <;> rfl
          have HSTP : Hid (∀ (v' : Value) (w3 : World),w3.ownsRow wcC.heap.size 92 5 v' (L.length + 1) (L.flatMap vlc ++ [.int .i64 x.k,.int .i64 x.m,.float .f64 x.g,.string x.x,.int .i64 x.r]) → (w2e.alloc (.cells #[.int .i64 x.k,.int .i64 x.m,.float .f64 x.g,.string x.x,.int .i64 x.r] 92)).grownBy w3 (Value.slice ad L.length cap).ownBlock → ML vlc 92 5 cb Tv Yv b a c M kU bU kcC bcC h2 (fun v=>#[.string x0,.int .i64 x1,.int .i64 x2,.bool x3,.int .i64 x4,.slice aU LU.length cU,v,.slice none 0 0,.slice none 0 0]) wcC cntC (L ++ [x]) k2 b2 v' (w3.setCell ⟨h2,6,none⟩ v') ∧ w3.heap[h2]? = some (.cells ((fun v=>#[.string x0,.int .i64 x1,.int .i64 x2,.bool x3,.int .i64 x4,.slice aU LU.length cU,v,.slice none 0 0,.slice none 0 0]) (.slice ad L.length cap)) 50 (0,0))):=(fun v' w3 h1 h3=>⟨(show ML vlc 92 5 cb Tv Yv b a c M kU bU kcC bcC h2 (fun v=>#[.string x0,.int .i64 x1,.int .i64 x2,.bool x3,.int .i64 x4,.slice aU LU.length cU,v,.slice none 0 0,.slice none 0 0]) wcC cntC L kk false (.slice ad L.length cap) wr from HST).step rfl hgo Y1 y2 Y3 Y4 Y5 Y7 h1 h3 rfl,(show ML vlc 92 5 cb Tv Yv b a c M kU bU kcC bcC h2 (fun v=>#[.string x0,.int .i64 x1,.int .i64 x2,.bool x3,.int .i64 x4,.slice aU LU.length cU,v,.slice none 0 0,.slice none 0 0]) wcC cntC L kk false (.slice ad L.length cap) wr from HST).blk Y3 h3⟩ : ∀ (v' : Value) (w3 : World),_)
          obtain ⟨i0,hi0,hz0,hzs,hzb⟩:=info_parts infovalue
          have HI0 : Hid (Tryz.prog.info? 92 = some i0):=hi0
          clear hi0 Y1 y2 Y3 Y4 Y5 Y7 HST c2
          go_wp2_with (at_builtin;refine wpList_append_own _ rfl (.tmp 70) (.tmp 72) 46 rfl wcC.heap.size 92 i0 (.agg #[.int .i64 0,.int .i64 0,.float .f64 0,.string ⟨#[]⟩,.int .i64 0]) 5 48 Tryz.underlying46 HI0 hz0 hzs hzb rfl (by decide) _ _ _ rfl hown ⟨w2e.heap.size,0,none⟩ 1 1 [.int .i64 x.k,.int .i64 x.m,.float .f64 x.g,.string x.x,.int .i64 x.r] rfl rfl hqc h1c (by unfold maxLen;omega) (by omega) (by simp;omega) ?_;intro v' w3 hown3 hgr3 _;obtain ⟨HN,hbb⟩:=(show ∀ (v' : Value) (w3 : World),_ from HSTP) _ _ hown3 hgr3;obtain ⟨g',cap',rfl,_,_⟩:=hown3.form (by omega);have t1 : w3.cell? ⟨h2,6,none⟩ = some (.slice ad L.length cap):=cell_of hbb rfl;have t2 : w3.frozen? ⟨h2,6,none⟩ = false:=frozen_of hbb;have HN2 : Hid (ML vlc 92 5 cb Tv Yv b a c M kU bU kcC bcC h2 (fun v=>#[.string x0,.int .i64 x1,.int .i64 x2,.bool x3,.int .i64 x4,.slice aU LU.length cU,v,.slice none 0 0,.slice none 0 0]) wcC cntC (L ++ [x]) k2 b2 (.slice (some ⟨g',0,none⟩) (L.length + 1) cap') (w3.setCell ⟨h2,6,none⟩ (.slice (some ⟨g',0,none⟩) (L.length + 1) cap'))):=HN;clear HN hbb hown3 hgr3 hown hqc h1c HSTP)
          go_roundw
          case rel=>exact ⟨L ++ [x],k2,b2,_,by rw [List.length_append,List.length_singleton];go_num,HN2⟩
          case measure=>simp [intOf];omega
        · have s9 : SP b a c M k bad kk bb W g h2 (⟨x0,x1,x2,x3,x4,LU,L,[],[]⟩ : Rp) (.slice aU LU.length cU) (.slice ad L.length cap) (.slice none 0 0) (.slice none 0 0) wr:=(show SP b a c M k bad kcC bcC W g h2 (⟨x0,x1,x2,x3,x4,LU,[],[],[]⟩ : Rp) (.slice aU LU.length cU) (.slice none 0 0) (.slice none 0 0) (.slice none 0 0) wcC from HSCc).after hR.rd hR.le hR.mn hR.kb hR.bh
          have hX : SP b a c M k bad kk bb W g h2 (⟨x0,x1,x2,x3,x4,LU,L,[],[]⟩ : Rp) (.slice aU LU.length cU) (.slice ad L.length cap) (.slice none 0 0) (.slice none 0 0) wr ∧ wr.ownsRow wcC.heap.size 92 5 (.slice ad L.length cap) L.length (L.flatMap vlc) ∧ (∀ x,x ∈ L → Tv x) ∧ L.length ≤ 1000000 ∧ (bb = false → kcC + L.length ≤ kk) ∧ LX cb Yv M kU bU M.length L kk bb ∧ Kbh b h2 wcC wr ∧ (bcC = true → bb = true):=⟨s9,hR.row,hR.tt,by omega,hR.gt,hR.ex.done (fun e=>hgo ⟨by omega,e.2⟩),hR.kb,hR.mn⟩
          have hX2 : ∃ (L : List Vv) (kk : Nat) (bb : Bool) (v : Value),Hid (SP b a c M k bad kk bb W g h2 (⟨x0,x1,x2,x3,x4,LU,L,[],[]⟩ : Rp) (.slice aU LU.length cU) (v) (.slice none 0 0) (.slice none 0 0) wr ∧ wr.ownsRow wcC.heap.size 92 5 v L.length (L.flatMap vlc) ∧ (∀ x,x ∈ L → Tv x) ∧ L.length ≤ 1000000 ∧ (bb = false → kcC + L.length ≤ kk) ∧ LX cb Yv M kU bU M.length L kk bb ∧ Kbh b h2 wcC wr ∧ (bcC = true → bb = true)):=⟨L,kk,bb,.slice ad L.length cap,hX⟩
          have HX : Hid _:=hX2
          clear s9 hX hX2
          clear hR
          by_cases hlt : L.length < cntC
          · obtain rfl : bb = true := by
              by_cases e : bb = false
              · exact (hgo ⟨hlt,e⟩).elim
              · simpa using e
            have hgI : (0 : Int) < (cntC : Int) - (L.length : Int):=by omega
            go_wp2_with fail
            go_meet
            case rel=>exact HX
          · have hgI : ¬ (0 : Int) < (cntC : Int) - (L.length : Int):=by omega
            go_wp2_with fail
            go_meet
            case rel=>exact HX
    case rest =>
      clear HMC HSCc
      obtain ⟨LC,kC,bC,vC,HUC⟩:=hcut
      rename World=>wC
      obtain ⟨sC,UC⟩:=(show _ ∧ _ from HUC)
      have HUC2 : Hid _:=UC
      clear HUC UC
      obtain ⟨aC,cC,rfl⟩:=own_shape (show _ ∧ _ from HUC2).1
      have HBN:=rd_count sC.rd
      have HSN : Hid (SP b a c M k bad kC bC W g h2 (⟨x0,x1,x2,x3,x4,LU,LC,[],[]⟩ : Rp) (.slice aU LU.length cU) (.slice aC LC.length cC) (.slice none 0 0) (.slice none 0 0) wC):=sC
      clear sC
      go_upto_block 4 with (go_at_call 29;refine HBN.mono ?_;rintro e wcN ⟨va,kcN,bcN,rfl,y1,y2,y3,cntN,rfl,y4,y5,y6⟩)
      have scN:=SP.step HSN y1 y2 (fun e=>y5 (.inr e)) y3
      have hzN : W.heap.size + 2 ≤ wcN.heap.size:=by have:=scN.hl;have:=(show _ ∧ _ ∧ _ ∧ _ from HW).2.1;omega
      have HMN : Hid (ML inc 81 5 ib Ri Ri b a c M kC bC kcN bcN h2 (fun v=>#[.string x0,.int .i64 x1,.int .i64 x2,.bool x3,.int .i64 x4,.slice aU LU.length cU,.slice aC LC.length cC,v,.slice none 0 0]) wcN cntN [] kcN bcN (.slice none 0 0) wcN):=ML.begin scN.rd scN.bh (by have:=scN.h0;have:=scN.bb;omega) (by have:=scN.h0;have:=scN.ab;omega) (by have:=scN.ab;omega) (LJ.zeroM ib_pos (by omega) y6)
      have HSNc : Hid (SP b a c M k bad kcN bcN W g h2 (⟨x0,x1,x2,x3,x4,LU,LC,[],[]⟩ : Rp) (.slice aU LU.length cU) (.slice aC LC.length cC) (.slice none 0 0) (.slice none 0 0) wcN):=scN
      have hkgN : bcN = false → kC < kcN:=fun e=>by
        rcases Nat.lt_or_ge kC kcN with q | q
        · exact q
        · have:=y5 (.inl (by omega))
          rw [e] at this
          cases this
      have HKN : Hid (Kbh b h2 wC wcN ∧ (bcN = false → kC < kcN) ∧ (bC = true → bcN = true)):=(⟨y3.ks.bh,hkgN,fun e=>y5 (.inr e)⟩ : _ ∧ _ ∧ _)
      clear hkgN
      have hleN : k ≤ kcN:=scN.le
      have hcntN : (cntN : Int) ≤ 1000000:=by omega
      clear HBN HSN scN y1 y2 y3 y4 y5 y6
      go_cut [] from 140 to 140 (fun wx=>∃ (L : List Iv) (kk : Nat) (bb : Bool) (v : Value),Hid (SP b a c M k bad kk bb W g h2 (⟨x0,x1,x2,x3,x4,LU,LC,L,[]⟩ : Rp) (.slice aU LU.length cU) (.slice aC LC.length cC) (v) (.slice none 0 0) wx ∧ wx.ownsRow wcN.heap.size 81 5 v L.length (L.flatMap inc) ∧ (∀ x,x ∈ L → Ri x) ∧ L.length ≤ 1000000 ∧ (bb = false → kcN + L.length ≤ kk) ∧ LX ib Ri M kC bC M.length L kk bb ∧ Kbh b h2 wcN wx ∧ (bcN = true → bb = true)))
      case first =>
        go_wp2_with fail
        go_loopw [8] (fun s wr=>∃ (L : List Iv) (kk : Nat) (bb : Bool) (v : Value),s = .int .i64 ((cntN : Int) - (L.length : Int)) ∧ Hid (ML inc 81 5 ib Ri Ri b a c M kC bC kcN bcN h2 (fun v=>#[.string x0,.int .i64 x1,.int .i64 x2,.bool x3,.int .i64 x4,.slice aU LU.length cU,.slice aC LC.length cC,v,.slice none 0 0]) wcN cntN L kk bb v wr)) (fun s _=>(intOf s).toNat)
        case atStart=>exact ⟨[],kcN,bcN,_,by simp,HMN⟩
        case round =>
          clear HMN
          obtain ⟨L,kk,bb,v,rfl,HR⟩:=hrel
          have hR:=(show ML inc 81 5 ib Ri Ri b a c M kC bC kcN bcN h2 (fun v=>#[.string x0,.int .i64 x1,.int .i64 x2,.bool x3,.int .i64 x4,.slice aU LU.length cU,.slice aC LC.length cC,v,.slice none 0 0]) wcN cntN L kk bb v wr from HR)
          obtain ⟨ad,cap,rfl⟩:=own_shape hR.row
          clear HR
          have c2 : wr.cell? ⟨b,2,none⟩ = some (.bool bb):=cell_of hR.rd.blk rfl
          have hmo:=hR.mo
          by_cases hgo : L.length < cntN ∧ bb = false
          · obtain ⟨hgo,rfl⟩:=hgo
            have hgI : (0 : Int) < (cntN : Int) - (L.length : Int):=by omega
            have hLI : (L.length : Int) ≤ 1000000:=by omega
            have hbz:=hR.hb
            have haz:=hR.ha
            have hwz:=hR.kb.size
            have HST : Hid (ML inc 81 5 ib Ri Ri b a c M kC bC kcN bcN h2 (fun v=>#[.string x0,.int .i64 x1,.int .i64 x2,.bool x3,.int .i64 x4,.slice aU LU.length cU,.slice aC LC.length cC,v,.slice none 0 0]) wcN cntN L kk false (.slice ad L.length cap) wr):=hR
            have eu0 : EU 81 b a c M wr kk kk false wr.heap.size #[.int .i64 0,.int .i64 0,.int .i64 0,.int .i64 0,.int .i64 0] (wr.alloc (.cells #[.int .i64 0,.int .i64 0,.int .i64 0,.int .i64 0,.int .i64 0] 81)):=⟨hR.rd.kb (kb_alloc 0 wr _),Nat.le_refl _,Kx.of_kb (kb_alloc 0 wr _),alloc_new _ _ _,Nat.le_refl _,by omega,by omega⟩
            obtain ⟨u,hu⟩ : ∃ u,u = wr.heap.size:=⟨_,rfl⟩
            obtain ⟨we,hwe⟩ : ∃ we,we = wr.alloc (.cells #[.int .i64 0,.int .i64 0,.int .i64 0,.int .i64 0,.int .i64 0] 81):=⟨_,rfl⟩
            rw [← hwe,← hu] at eu0
            have HWE : Hid (we = wr.alloc (.cells #[.int .i64 0,.int .i64 0,.int .i64 0,.int .i64 0,.int .i64 0] 81) ∧ u = wr.heap.size):=(⟨hwe,hu⟩ : _ ∧ _)
            have hz1 : wr.heap.size ≤ u:=by omega
            clear hR hwe hu
            go_upto_region 23 with fail
            rw [← (show _ ∧ _ from HWE).1,← (show _ ∧ _ from HWE).2]
            clear HWE
            have HB:=rd_num eu0.rd
            go_upto_region 24 with (go_at_call 71;refine HB.mono ?_;rintro e weeN0 ⟨va,keN0,beN0,rfl,y1,y2,y3,eN0,rfl,reN0,y5,y6⟩;have sa:=EU.call eu0 y1 y2 y3;have t1 : weeN0.cell? ⟨u,0,none⟩ = some (.int .i64 0):=cell_of sa.bu rfl;have t2 : weeN0.frozen? ⟨u,0,none⟩ = false:=frozen_of sa.bu)
            have EeN0 : Hid (∀ y rest,-9223372036854775808 ≤ y → y ≤ 9223372036854775807 → M.drop kk = nb y ++ rest → eN0 = y ∧ keN0 = kk + (nb y).length ∧ beN0 = false):=y6
            have ReN0 : Hid (Rn eN0):=reN0
            clear reN0
            have GeN0 : Hid (keN0 = kk ∨ false = true → beN0 = true):=y5
            have MeN0 : kk ≤ keN0:=y2
            have sbeN0 : EU 81 b a c M wr kk keN0 beN0 u #[.int .i64 eN0,.int .i64 0,.int .i64 0,.int .i64 0,.int .i64 0] (weeN0.setCell ⟨u,0,none⟩ (.int .i64 eN0)):=sa.set 0 (.int .i64 eN0) rfl
            clear HB eu0 sa t1 t2 y1 y2 y3 y5 y6
            generalize hwf : weeN0.setCell ⟨u,0,none⟩ (.int .i64 eN0) = wfeN0 at *
            clear hwf
            have HB:=rd_num sbeN0.rd
            go_upto_region 25 with (go_at_call 71;refine HB.mono ?_;rintro e weeN1 ⟨va,keN1,beN1,rfl,y1,y2,y3,eN1,rfl,reN1,y5,y6⟩;have sa:=EU.call sbeN0 y1 y2 y3;have t1 : weeN1.cell? ⟨u,1,none⟩ = some (.int .i64 0):=cell_of sa.bu rfl;have t2 : weeN1.frozen? ⟨u,1,none⟩ = false:=frozen_of sa.bu)
            have EeN1 : Hid (∀ y rest,-9223372036854775808 ≤ y → y ≤ 9223372036854775807 → M.drop keN0 = nb y ++ rest → eN1 = y ∧ keN1 = keN0 + (nb y).length ∧ beN1 = beN0):=y6
            have ReN1 : Hid (Rn eN1):=reN1
            clear reN1
            have GeN1 : Hid (keN1 = keN0 ∨ beN0 = true → beN1 = true):=y5
            have MeN1 : keN0 ≤ keN1:=y2
            have sbeN1 : EU 81 b a c M wr kk keN1 beN1 u #[.int .i64 eN0,.int .i64 eN1,.int .i64 0,.int .i64 0,.int .i64 0] (weeN1.setCell ⟨u,1,none⟩ (.int .i64 eN1)):=sa.set 1 (.int .i64 eN1) rfl
            clear HB sbeN0 sa t1 t2 y1 y2 y3 y5 y6
            generalize hwf : weeN1.setCell ⟨u,1,none⟩ (.int .i64 eN1) = wfeN1 at *
            clear hwf
            have HB:=rd_num sbeN1.rd
            go_upto_region 26 with (go_at_call 71;refine HB.mono ?_;rintro e weeN2 ⟨va,keN2,beN2,rfl,y1,y2,y3,eN2,rfl,reN2,y5,y6⟩;have sa:=EU.call sbeN1 y1 y2 y3;have t1 : weeN2.cell? ⟨u,2,none⟩ = some (.int .i64 0):=cell_of sa.bu rfl;have t2 : weeN2.frozen? ⟨u,2,none⟩ = false:=frozen_of sa.bu)
            have EeN2 : Hid (∀ y rest,-9223372036854775808 ≤ y → y ≤ 9223372036854775807 → M.drop keN1 = nb y ++ rest → eN2 = y ∧ keN2 = keN1 + (nb y).length ∧ beN2 = beN1):=y6
            have ReN2 : Hid (Rn eN2):=reN2
            clear reN2
            have GeN2 : Hid (keN2 = keN1 ∨ beN1 = true → beN2 = true):=y5
            have MeN2 : keN1 ≤ keN2:=y2
            have sbeN2 : EU 81 b a c M wr kk keN2 beN2 u #[.int .i64 eN0,.int .i64 eN1,.int .i64 eN2,.int .i64 0,.int .i64 0] (weeN2.setCell ⟨u,2,none⟩ (.int .i64 eN2)):=sa.set 2 (.int .i64 eN2) rfl
            clear HB sbeN1 sa t1 t2 y1 y2 y3 y5 y6
            generalize hwf : weeN2.setCell ⟨u,2,none⟩ (.int .i64 eN2) = wfeN2 at *
            clear hwf
            have HB:=rd_num sbeN2.rd
            go_upto_region 27 with (go_at_call 71;refine HB.mono ?_;rintro e weeN3 ⟨va,keN3,beN3,rfl,y1,y2,y3,eN3,rfl,reN3,y5,y6⟩;have sa:=EU.call sbeN2 y1 y2 y3;have t1 : weeN3.cell? ⟨u,3,none⟩ = some (.int .i64 0):=cell_of sa.bu rfl;have t2 : weeN3.frozen? ⟨u,3,none⟩ = false:=frozen_of sa.bu)
            have EeN3 : Hid (∀ y rest,-9223372036854775808 ≤ y → y ≤ 9223372036854775807 → M.drop keN2 = nb y ++ rest → eN3 = y ∧ keN3 = keN2 + (nb y).length ∧ beN3 = beN2):=y6
            have ReN3 : Hid (Rn eN3):=reN3
            clear reN3
            have GeN3 : Hid (keN3 = keN2 ∨ beN2 = true → beN3 = true):=y5
            have MeN3 : keN2 ≤ keN3:=y2
            have sbeN3 : EU 81 b a c M wr kk keN3 beN3 u #[.int .i64 eN0,.int .i64 eN1,.int .i64 eN2,.int .i64 eN3,.int .i64 0] (weeN3.setCell ⟨u,3,none⟩ (.int .i64 eN3)):=sa.set 3 (.int .i64 eN3) rfl
            clear HB sbeN2 sa t1 t2 y1 y2 y3 y5 y6
            generalize hwf : weeN3.setCell ⟨u,3,none⟩ (.int .i64 eN3) = wfeN3 at *
            clear hwf
            have HB:=rd_num sbeN3.rd
            go_upto_region 28 with (go_at_call 71;refine HB.mono ?_;rintro e weeN4 ⟨va,keN4,beN4,rfl,y1,y2,y3,eN4,rfl,reN4,y5,y6⟩;have sa:=EU.call sbeN3 y1 y2 y3;have t1 : weeN4.cell? ⟨u,4,none⟩ = some (.int .i64 0):=cell_of sa.bu rfl;have t2 : weeN4.frozen? ⟨u,4,none⟩ = false:=frozen_of sa.bu)
            have EeN4 : Hid (∀ y rest,-9223372036854775808 ≤ y → y ≤ 9223372036854775807 → M.drop keN3 = nb y ++ rest → eN4 = y ∧ keN4 = keN3 + (nb y).length ∧ beN4 = beN3):=y6
            have ReN4 : Hid (Rn eN4):=reN4
            clear reN4
            have GeN4 : Hid (keN4 = keN3 ∨ beN3 = true → beN4 = true):=y5
            have MeN4 : keN3 ≤ keN4:=y2
            have sbeN4 : EU 81 b a c M wr kk keN4 beN4 u #[.int .i64 eN0,.int .i64 eN1,.int .i64 eN2,.int .i64 eN3,.int .i64 eN4] (weeN4.setCell ⟨u,4,none⟩ (.int .i64 eN4)):=sa.set 4 (.int .i64 eN4) rfl
            clear HB sbeN3 sa t1 t2 y1 y2 y3 y5 y6
            generalize hwf : weeN4.setCell ⟨u,4,none⟩ (.int .i64 eN4) = wfeN4 at *
            clear hwf
            have Y1:=sbeN4.rd
            have Y3:=sbeN4.ks
            have y2:=sbeN4.le
            have Y5 : beN4 = false → kk < keN4:=fun e=>by
              rcases Nat.lt_or_ge kk keN4 with q | q
              · exact q
              · have:=(show _ → _ from GeN4) (.inl (by have:=sbeN4.le;omega))
                rw [e] at this
                cases this
            have Y7 : ∀ y rest,false = false → Ri y → M.drop kk = ib y ++ rest → (⟨eN0,eN1,eN2,eN3,eN4⟩ : Iv) = y ∧ keN4 = kk + (ib y).length ∧ beN4 = false:=fun y rest _ hy hm=>by
              unfold ib at hm ⊢
              simp only [List.append_assoc] at hm
              obtain ⟨q0a,q0b,q0c⟩:=(show ∀ y rest,_ from EeN0) y.o _ hy.1.1 hy.1.2 hm
              replace hm:=drop_app hm
              rw [← q0b] at hm
              obtain ⟨q1a,q1b,q1c⟩:=(show ∀ y rest,_ from EeN1) y.a _ hy.2.1.1 hy.2.1.2 hm
              replace hm:=drop_app hm
              rw [← q1b] at hm
              obtain ⟨q2a,q2b,q2c⟩:=(show ∀ y rest,_ from EeN2) y.b _ hy.2.2.1.1 hy.2.2.1.2 hm
              replace hm:=drop_app hm
              rw [← q2b] at hm
              obtain ⟨q3a,q3b,q3c⟩:=(show ∀ y rest,_ from EeN3) y.c _ hy.2.2.2.1.1 hy.2.2.2.1.2 hm
              replace hm:=drop_app hm
              rw [← q3b] at hm
              obtain ⟨q4a,q4b,q4c⟩:=(show ∀ y rest,_ from EeN4) y.d _ hy.2.2.2.2.1 hy.2.2.2.2.2 hm
              exact ⟨by rw [q0a,q1a,q2a,q3a,q4a],by simp only [List.length_append];omega,(((q4c.trans q3c).trans q2c).trans q1c).trans q0c⟩
            have Y4 : Ri (⟨eN0,eN1,eN2,eN3,eN4⟩ : Iv):=⟨(show Rn eN0 from ReN0),(show Rn eN1 from ReN1),(show Rn eN2 from ReN2),(show Rn eN3 from ReN3),(show Rn eN4 from ReN4)⟩
            have hz2:=Y3.size
            have d5 : wfeN4.cell? ⟨h2,7,none⟩ = some (.slice ad L.length cap):=cell_of ((Y3.block h2 (by have:=(show ML inc 81 5 ib Ri Ri b a c M kC bC kcN bcN h2 (fun v=>#[.string x0,.int .i64 x1,.int .i64 x2,.bool x3,.int .i64 x4,.slice aU LU.length cU,.slice aC LC.length cC,v,.slice none 0 0]) wcN cntN L kk false _ wr from HST).hh;omega) (show ML inc 81 5 ib Ri Ri b a c M kC bC kcN bcN h2 (fun v=>#[.string x0,.int .i64 x1,.int .i64 x2,.bool x3,.int .i64 x4,.slice aU LU.length cU,.slice aC LC.length cC,v,.slice none 0 0]) wcN cntN L kk false _ wr from HST).bn).trans (show ML inc 81 5 ib Ri Ri b a c M kC bC kcN bcN h2 (fun v=>#[.string x0,.int .i64 x1,.int .i64 x2,.bool x3,.int .i64 x4,.slice aU LU.length cU,.slice aC LC.length cC,v,.slice none 0 0]) wcN cntN L kk false _ wr from HST).bh) rfl
            have f0 : wfeN4.cell? ⟨u,0,none⟩ = some (.int .i64 eN0):=cell_of sbeN4.bu rfl
            have f1 : wfeN4.cell? ⟨u,1,none⟩ = some (.int .i64 eN1):=cell_of sbeN4.bu rfl
            have f2 : wfeN4.cell? ⟨u,2,none⟩ = some (.int .i64 eN2):=cell_of sbeN4.bu rfl
            have f3 : wfeN4.cell? ⟨u,3,none⟩ = some (.int .i64 eN3):=cell_of sbeN4.bu rfl
            have f4 : wfeN4.cell? ⟨u,4,none⟩ = some (.int .i64 eN4):=cell_of sbeN4.bu rfl
            clear sbeN4 EeN0 GeN0 ReN0 EeN1 GeN1 ReN1 EeN2 GeN2 ReN2 EeN3 GeN3 ReN3 EeN4 GeN4 ReN4
            have hown:=Kx.row (W:=W) (Kx.of_kb (b:=b) (kb_alloc 0 wfeN4 (.cells #[.int .i64 eN0,.int .i64 eN1,.int .i64 eN2,.int .i64 eN3,.int .i64 eN4] 81))) (Kx.row (W:=W) Y3 (show ML inc 81 5 ib Ri Ri b a c M kC bC kcN bcN h2 (fun v=>#[.string x0,.int .i64 x1,.int .i64 x2,.bool x3,.int .i64 x4,.slice aU LU.length cU,.slice aC LC.length cC,v,.slice none 0 0]) wcN cntN L kk false (.slice ad L.length cap) wr from HST).row hbz) hbz
            have hqc:=qr_cells wfeN4 #[.int .i64 eN0,.int .i64 eN1,.int .i64 eN2,.int .i64 eN3,.int .i64 eN4] 81 [.int .i64 eN0,.int .i64 eN1,.int .i64 eN2,.int .i64 eN3,.int .i64 eN4] rfl
            have h1c : ∀ u ∈ ([.int .i64 eN0,.int .i64 eN1,.int .i64 eN2,.int .i64 eN3,.int .i64 eN4] : List Value),u.oneCell' = true:=by intro u hu;simp at hu;rcases hu with rfl | rfl | rfl | rfl | rfl <;> rfl
            have HSTP : Hid (∀ (v' : Value) (w3 : World),w3.ownsRow wcN.heap.size 81 5 v' (L.length + 1) (L.flatMap inc ++ [.int .i64 eN0,.int .i64 eN1,.int .i64 eN2,.int .i64 eN3,.int .i64 eN4]) → (wfeN4.alloc (.cells #[.int .i64 eN0,.int .i64 eN1,.int .i64 eN2,.int .i64 eN3,.int .i64 eN4] 81)).grownBy w3 (Value.slice ad L.length cap).ownBlock → ML inc 81 5 ib Ri Ri b a c M kC bC kcN bcN h2 (fun v=>#[.string x0,.int .i64 x1,.int .i64 x2,.bool x3,.int .i64 x4,.slice aU LU.length cU,.slice aC LC.length cC,v,.slice none 0 0]) wcN cntN (L ++ [(⟨eN0,eN1,eN2,eN3,eN4⟩ : Iv)]) keN4 beN4 v' (w3.setCell ⟨h2,7,none⟩ v') ∧ w3.heap[h2]? = some (.cells ((fun v=>#[.string x0,.int .i64 x1,.int .i64 x2,.bool x3,.int .i64 x4,.slice aU LU.length cU,.slice aC LC.length cC,v,.slice none 0 0]) (.slice ad L.length cap)) 50 (0,0))):=(fun v' w3 h1 h3=>⟨(show ML inc 81 5 ib Ri Ri b a c M kC bC kcN bcN h2 (fun v=>#[.string x0,.int .i64 x1,.int .i64 x2,.bool x3,.int .i64 x4,.slice aU LU.length cU,.slice aC LC.length cC,v,.slice none 0 0]) wcN cntN L kk false (.slice ad L.length cap) wr from HST).step rfl hgo Y1 y2 Y3 Y4 Y5 Y7 h1 h3 rfl,(show ML inc 81 5 ib Ri Ri b a c M kC bC kcN bcN h2 (fun v=>#[.string x0,.int .i64 x1,.int .i64 x2,.bool x3,.int .i64 x4,.slice aU LU.length cU,.slice aC LC.length cC,v,.slice none 0 0]) wcN cntN L kk false (.slice ad L.length cap) wr from HST).blk Y3 h3⟩ : ∀ (v' : Value) (w3 : World),_)
            obtain ⟨i0,hi0,hz0,hzs,hzb⟩:=info_parts infoins
            have HI0 : Hid (Tryz.prog.info? 81 = some i0):=hi0
            clear hi0 Y1 y2 Y3 Y4 Y5 Y7 HST c2
            go_wp2_with (at_builtin;refine wpList_append_own _ rfl (.tmp 104) (.tmp 106) 47 rfl wcN.heap.size 81 i0 (.agg #[.int .i64 0,.int .i64 0,.int .i64 0,.int .i64 0,.int .i64 0]) 5 40 Tryz.underlying47 HI0 hz0 hzs hzb rfl (by decide) _ _ _ rfl hown ⟨wfeN4.heap.size,0,none⟩ 1 1 [.int .i64 eN0,.int .i64 eN1,.int .i64 eN2,.int .i64 eN3,.int .i64 eN4] rfl rfl hqc h1c (by unfold maxLen;omega) (by omega) (by simp;omega) ?_;intro v' w3 hown3 hgr3 _;obtain ⟨HN,hbb⟩:=(show ∀ (v' : Value) (w3 : World),_ from HSTP) _ _ hown3 hgr3;obtain ⟨g',cap',rfl,_,_⟩:=hown3.form (by omega);have t1 : w3.cell? ⟨h2,7,none⟩ = some (.slice ad L.length cap):=cell_of hbb rfl;have t2 : w3.frozen? ⟨h2,7,none⟩ = false:=frozen_of hbb;have HN2 : Hid (ML inc 81 5 ib Ri Ri b a c M kC bC kcN bcN h2 (fun v=>#[.string x0,.int .i64 x1,.int .i64 x2,.bool x3,.int .i64 x4,.slice aU LU.length cU,.slice aC LC.length cC,v,.slice none 0 0]) wcN cntN (L ++ [(⟨eN0,eN1,eN2,eN3,eN4⟩ : Iv)]) keN4 beN4 (.slice (some ⟨g',0,none⟩) (L.length + 1) cap') (w3.setCell ⟨h2,7,none⟩ (.slice (some ⟨g',0,none⟩) (L.length + 1) cap'))):=HN;clear HN hbb hown3 hgr3 hown hqc h1c HSTP)
            go_roundw
            case rel=>exact ⟨L ++ [(⟨eN0,eN1,eN2,eN3,eN4⟩ : Iv)],keN4,beN4,_,by rw [List.length_append,List.length_singleton];go_num,HN2⟩
            case measure=>simp [intOf];omega
          · have s9 : SP b a c M k bad kk bb W g h2 (⟨x0,x1,x2,x3,x4,LU,LC,L,[]⟩ : Rp) (.slice aU LU.length cU) (.slice aC LC.length cC) (.slice ad L.length cap) (.slice none 0 0) wr:=(show SP b a c M k bad kcN bcN W g h2 (⟨x0,x1,x2,x3,x4,LU,LC,[],[]⟩ : Rp) (.slice aU LU.length cU) (.slice aC LC.length cC) (.slice none 0 0) (.slice none 0 0) wcN from HSNc).after hR.rd hR.le hR.mn hR.kb hR.bh
            have hX : SP b a c M k bad kk bb W g h2 (⟨x0,x1,x2,x3,x4,LU,LC,L,[]⟩ : Rp) (.slice aU LU.length cU) (.slice aC LC.length cC) (.slice ad L.length cap) (.slice none 0 0) wr ∧ wr.ownsRow wcN.heap.size 81 5 (.slice ad L.length cap) L.length (L.flatMap inc) ∧ (∀ x,x ∈ L → Ri x) ∧ L.length ≤ 1000000 ∧ (bb = false → kcN + L.length ≤ kk) ∧ LX ib Ri M kC bC M.length L kk bb ∧ Kbh b h2 wcN wr ∧ (bcN = true → bb = true):=⟨s9,hR.row,hR.tt,by omega,hR.gt,hR.ex.done (fun e=>hgo ⟨by omega,e.2⟩),hR.kb,hR.mn⟩
            have hX2 : ∃ (L : List Iv) (kk : Nat) (bb : Bool) (v : Value),Hid (SP b a c M k bad kk bb W g h2 (⟨x0,x1,x2,x3,x4,LU,LC,L,[]⟩ : Rp) (.slice aU LU.length cU) (.slice aC LC.length cC) (v) (.slice none 0 0) wr ∧ wr.ownsRow wcN.heap.size 81 5 v L.length (L.flatMap inc) ∧ (∀ x,x ∈ L → Ri x) ∧ L.length ≤ 1000000 ∧ (bb = false → kcN + L.length ≤ kk) ∧ LX ib Ri M kC bC M.length L kk bb ∧ Kbh b h2 wcN wr ∧ (bcN = true → bb = true)):=⟨L,kk,bb,.slice ad L.length cap,hX⟩
            have HX : Hid _:=hX2
            clear s9 hX hX2
            clear hR
            by_cases hlt : L.length < cntN
            · obtain rfl : bb = true := by
                by_cases e : bb = false
                · exact (hgo ⟨hlt,e⟩).elim
                · simpa using e
              have hgI : (0 : Int) < (cntN : Int) - (L.length : Int):=by omega
              go_wp2_with fail
              go_meet
              case rel=>exact HX
            · have hgI : ¬ (0 : Int) < (cntN : Int) - (L.length : Int):=by omega
              go_wp2_with fail
              go_meet
              case rel=>exact HX
      case rest =>
        clear HMN HSNc
        obtain ⟨LN,kN,bN,vN,HUN⟩:=hcut
        rename World=>wN
        obtain ⟨sN,UN⟩:=(show _ ∧ _ from HUN)
        have HUN2 : Hid _:=UN
        clear HUN UN
        obtain ⟨aN,cN,rfl⟩:=own_shape (show _ ∧ _ from HUN2).1
        have HBD:=rd_count sN.rd
        have HSD : Hid (SP b a c M k bad kN bN W g h2 (⟨x0,x1,x2,x3,x4,LU,LC,LN,[]⟩ : Rp) (.slice aU LU.length cU) (.slice aC LC.length cC) (.slice aN LN.length cN) (.slice none 0 0) wN):=sN
        clear sN
        go_upto_block 6 with (go_at_call 29;refine HBD.mono ?_;rintro e wcD ⟨va,kcD,bcD,rfl,y1,y2,y3,cntD,rfl,y4,y5,y6⟩)
        have scD:=SP.step HSD y1 y2 (fun e=>y5 (.inr e)) y3
        have hzD : W.heap.size + 2 ≤ wcD.heap.size:=by have:=scD.hl;have:=(show _ ∧ _ ∧ _ ∧ _ from HW).2.1;omega
        have HMD : Hid (ML nmc 97 4 mb Rm Rm b a c M kN bN kcD bcD h2 (fun v=>#[.string x0,.int .i64 x1,.int .i64 x2,.bool x3,.int .i64 x4,.slice aU LU.length cU,.slice aC LC.length cC,.slice aN LN.length cN,v]) wcD cntD [] kcD bcD (.slice none 0 0) wcD):=ML.begin scD.rd scD.bh (by have:=scD.h0;have:=scD.bb;omega) (by have:=scD.h0;have:=scD.ab;omega) (by have:=scD.ab;omega) (LJ.zeroM mb_pos (by omega) y6)
        have HSDc : Hid (SP b a c M k bad kcD bcD W g h2 (⟨x0,x1,x2,x3,x4,LU,LC,LN,[]⟩ : Rp) (.slice aU LU.length cU) (.slice aC LC.length cC) (.slice aN LN.length cN) (.slice none 0 0) wcD):=scD
        have hkgD : bcD = false → kN < kcD:=fun e=>by
          rcases Nat.lt_or_ge kN kcD with q | q
          · exact q
          · have:=y5 (.inl (by omega))
            rw [e] at this
            cases this
        have HKD : Hid (Kbh b h2 wN wcD ∧ (bcD = false → kN < kcD) ∧ (bN = true → bcD = true)):=(⟨y3.ks.bh,hkgD,fun e=>y5 (.inr e)⟩ : _ ∧ _ ∧ _)
        clear hkgD
        have hleD : k ≤ kcD:=scD.le
        have hcntD : (cntD : Int) ≤ 1000000:=by omega
        clear HBD HSD scD y1 y2 y3 y4 y5 y6
        go_cut [] from 140 to 140 (fun wx=>∃ (L : List Mv) (kk : Nat) (bb : Bool) (v : Value),Hid (SP b a c M k bad kk bb W g h2 (⟨x0,x1,x2,x3,x4,LU,LC,LN,L⟩ : Rp) (.slice aU LU.length cU) (.slice aC LC.length cC) (.slice aN LN.length cN) (v) wx ∧ wx.ownsRow wcD.heap.size 97 4 v L.length (L.flatMap nmc) ∧ (∀ x,x ∈ L → Rm x) ∧ L.length ≤ 1000000 ∧ (bb = false → kcD + L.length ≤ kk) ∧ LX mb Rm M kN bN M.length L kk bb ∧ Kbh b h2 wcD wx ∧ (bcD = true → bb = true)))
        case first =>
          go_wp2_with fail
          go_loopw [10] (fun s wr=>∃ (L : List Mv) (kk : Nat) (bb : Bool) (v : Value),s = .int .i64 ((cntD : Int) - (L.length : Int)) ∧ Hid (ML nmc 97 4 mb Rm Rm b a c M kN bN kcD bcD h2 (fun v=>#[.string x0,.int .i64 x1,.int .i64 x2,.bool x3,.int .i64 x4,.slice aU LU.length cU,.slice aC LC.length cC,.slice aN LN.length cN,v]) wcD cntD L kk bb v wr)) (fun s _=>(intOf s).toNat)
          case atStart=>exact ⟨[],kcD,bcD,_,by simp,HMD⟩
          case round =>
            clear HMD
            obtain ⟨L,kk,bb,v,rfl,HR⟩:=hrel
            have hR:=(show ML nmc 97 4 mb Rm Rm b a c M kN bN kcD bcD h2 (fun v=>#[.string x0,.int .i64 x1,.int .i64 x2,.bool x3,.int .i64 x4,.slice aU LU.length cU,.slice aC LC.length cC,.slice aN LN.length cN,v]) wcD cntD L kk bb v wr from HR)
            obtain ⟨ad,cap,rfl⟩:=own_shape hR.row
            clear HR
            have c2 : wr.cell? ⟨b,2,none⟩ = some (.bool bb):=cell_of hR.rd.blk rfl
            have hmo:=hR.mo
            by_cases hgo : L.length < cntD ∧ bb = false
            · obtain ⟨hgo,rfl⟩:=hgo
              have hgI : (0 : Int) < (cntD : Int) - (L.length : Int):=by omega
              have hLI : (L.length : Int) ≤ 1000000:=by omega
              have hbz:=hR.hb
              have haz:=hR.ha
              have hwz:=hR.kb.size
              have HST : Hid (ML nmc 97 4 mb Rm Rm b a c M kN bN kcD bcD h2 (fun v=>#[.string x0,.int .i64 x1,.int .i64 x2,.bool x3,.int .i64 x4,.slice aU LU.length cU,.slice aC LC.length cC,.slice aN LN.length cN,v]) wcD cntD L kk false (.slice ad L.length cap) wr):=hR
              have eu0 : EU 97 b a c M wr kk kk false wr.heap.size #[.string ⟨#[]⟩,.int .i64 0,.int .i64 0,.int .i64 0] (wr.alloc (.cells #[.string ⟨#[]⟩,.int .i64 0,.int .i64 0,.int .i64 0] 97)):=⟨hR.rd.kb (kb_alloc 0 wr _),Nat.le_refl _,Kx.of_kb (kb_alloc 0 wr _),alloc_new _ _ _,Nat.le_refl _,by omega,by omega⟩
              obtain ⟨u,hu⟩ : ∃ u,u = wr.heap.size:=⟨_,rfl⟩
              obtain ⟨we,hwe⟩ : ∃ we,we = wr.alloc (.cells #[.string ⟨#[]⟩,.int .i64 0,.int .i64 0,.int .i64 0] 97):=⟨_,rfl⟩
              rw [← hwe,← hu] at eu0
              have HWE : Hid (we = wr.alloc (.cells #[.string ⟨#[]⟩,.int .i64 0,.int .i64 0,.int .i64 0] 97) ∧ u = wr.heap.size):=(⟨hwe,hu⟩ : _ ∧ _)
              have hz1 : wr.heap.size ≤ u:=by omega
              clear hR hwe hu
              go_upto_region 33 with fail
              rw [← (show _ ∧ _ from HWE).1,← (show _ ∧ _ from HWE).2]
              clear HWE
              have HB:=rd_text eu0.rd
              go_upto_region 34 with (go_at_call 72;refine HB.mono ?_;rintro e weeD0 ⟨va,keD0,beD0,rfl,y1,y2,y3,eD0,rfl,reD0,y5,y6⟩;have sa:=EU.call eu0 y1 y2 y3;have t1 : weeD0.cell? ⟨u,0,none⟩ = some (.string ⟨#[]⟩):=cell_of sa.bu rfl;have t2 : weeD0.frozen? ⟨u,0,none⟩ = false:=frozen_of sa.bu)
              have EeD0 : Hid (∀ (y : ByteArray) rest,y.size ≤ 9223372036854775807 → M.drop kk = tb y ++ rest → eD0 = y ∧ keD0 = kk + (tb y).length ∧ beD0 = false):=y6
              have ReD0 : Hid (eD0.size ≤ 1000000):=(by have:=y1.le;omega : eD0.size ≤ 1000000)
              clear reD0
              have GeD0 : Hid (keD0 = kk ∨ false = true → beD0 = true):=y5
              have MeD0 : kk ≤ keD0:=y2
              have sbeD0 : EU 97 b a c M wr kk keD0 beD0 u #[.string eD0,.int .i64 0,.int .i64 0,.int .i64 0] (weeD0.setCell ⟨u,0,none⟩ (.string eD0)):=sa.set 0 (.string eD0) rfl
              clear HB eu0 sa t1 t2 y1 y2 y3 y5 y6
              generalize hwf : weeD0.setCell ⟨u,0,none⟩ (.string eD0) = wfeD0 at *
              clear hwf
              have HB:=rd_num sbeD0.rd
              go_upto_region 35 with (go_at_call 71;refine HB.mono ?_;rintro e weeD1 ⟨va,keD1,beD1,rfl,y1,y2,y3,eD1,rfl,reD1,y5,y6⟩;have sa:=EU.call sbeD0 y1 y2 y3;have t1 : weeD1.cell? ⟨u,1,none⟩ = some (.int .i64 0):=cell_of sa.bu rfl;have t2 : weeD1.frozen? ⟨u,1,none⟩ = false:=frozen_of sa.bu)
              have EeD1 : Hid (∀ y rest,-9223372036854775808 ≤ y → y ≤ 9223372036854775807 → M.drop keD0 = nb y ++ rest → eD1 = y ∧ keD1 = keD0 + (nb y).length ∧ beD1 = beD0):=y6
              have ReD1 : Hid (Rn eD1):=reD1
              clear reD1
              have GeD1 : Hid (keD1 = keD0 ∨ beD0 = true → beD1 = true):=y5
              have MeD1 : keD0 ≤ keD1:=y2
              have sbeD1 : EU 97 b a c M wr kk keD1 beD1 u #[.string eD0,.int .i64 eD1,.int .i64 0,.int .i64 0] (weeD1.setCell ⟨u,1,none⟩ (.int .i64 eD1)):=sa.set 1 (.int .i64 eD1) rfl
              clear HB sbeD0 sa t1 t2 y1 y2 y3 y5 y6
              generalize hwf : weeD1.setCell ⟨u,1,none⟩ (.int .i64 eD1) = wfeD1 at *
              clear hwf
              have HB:=rd_num sbeD1.rd
              go_upto_region 36 with (go_at_call 71;refine HB.mono ?_;rintro e weeD2 ⟨va,keD2,beD2,rfl,y1,y2,y3,eD2,rfl,reD2,y5,y6⟩;have sa:=EU.call sbeD1 y1 y2 y3;have t1 : weeD2.cell? ⟨u,2,none⟩ = some (.int .i64 0):=cell_of sa.bu rfl;have t2 : weeD2.frozen? ⟨u,2,none⟩ = false:=frozen_of sa.bu)
              have EeD2 : Hid (∀ y rest,-9223372036854775808 ≤ y → y ≤ 9223372036854775807 → M.drop keD1 = nb y ++ rest → eD2 = y ∧ keD2 = keD1 + (nb y).length ∧ beD2 = beD1):=y6
              have ReD2 : Hid (Rn eD2):=reD2
              clear reD2
              have GeD2 : Hid (keD2 = keD1 ∨ beD1 = true → beD2 = true):=y5
              have MeD2 : keD1 ≤ keD2:=y2
              have sbeD2 : EU 97 b a c M wr kk keD2 beD2 u #[.string eD0,.int .i64 eD1,.int .i64 eD2,.int .i64 0] (weeD2.setCell ⟨u,2,none⟩ (.int .i64 eD2)):=sa.set 2 (.int .i64 eD2) rfl
              clear HB sbeD1 sa t1 t2 y1 y2 y3 y5 y6
              generalize hwf : weeD2.setCell ⟨u,2,none⟩ (.int .i64 eD2) = wfeD2 at *
              clear hwf
              have HB:=rd_num sbeD2.rd
              go_upto_region 37 with (go_at_call 71;refine HB.mono ?_;rintro e weeD3 ⟨va,keD3,beD3,rfl,y1,y2,y3,eD3,rfl,reD3,y5,y6⟩;have sa:=EU.call sbeD2 y1 y2 y3;have t1 : weeD3.cell? ⟨u,3,none⟩ = some (.int .i64 0):=cell_of sa.bu rfl;have t2 : weeD3.frozen? ⟨u,3,none⟩ = false:=frozen_of sa.bu)
              have EeD3 : Hid (∀ y rest,-9223372036854775808 ≤ y → y ≤ 9223372036854775807 → M.drop keD2 = nb y ++ rest → eD3 = y ∧ keD3 = keD2 + (nb y).length ∧ beD3 = beD2):=y6
              have ReD3 : Hid (Rn eD3):=reD3
              clear reD3
              have GeD3 : Hid (keD3 = keD2 ∨ beD2 = true → beD3 = true):=y5
              have MeD3 : keD2 ≤ keD3:=y2
              have sbeD3 : EU 97 b a c M wr kk keD3 beD3 u #[.string eD0,.int .i64 eD1,.int .i64 eD2,.int .i64 eD3] (weeD3.setCell ⟨u,3,none⟩ (.int .i64 eD3)):=sa.set 3 (.int .i64 eD3) rfl
              clear HB sbeD2 sa t1 t2 y1 y2 y3 y5 y6
              generalize hwf : weeD3.setCell ⟨u,3,none⟩ (.int .i64 eD3) = wfeD3 at *
              clear hwf
              have Y1:=sbeD3.rd
              have Y3:=sbeD3.ks
              have y2:=sbeD3.le
              have Y5 : beD3 = false → kk < keD3:=fun e=>by
                rcases Nat.lt_or_ge kk keD3 with q | q
                · exact q
                · have:=(show _ → _ from GeD3) (.inl (by have:=sbeD3.le;omega))
                  rw [e] at this
                  cases this
              have Y7 : ∀ y rest,false = false → Rm y → M.drop kk = mb y ++ rest → (⟨eD0,eD1,eD2,eD3⟩ : Mv) = y ∧ keD3 = kk + (mb y).length ∧ beD3 = false:=fun y rest _ hy hm=>by
                unfold mb at hm ⊢
                simp only [List.append_assoc] at hm
                obtain ⟨q0a,q0b,q0c⟩:=(show ∀ y rest,_ from EeD0) y.x _ (Nat.le_trans hy.1 (by omega)) hm
                replace hm:=drop_app hm
                rw [← q0b] at hm
                obtain ⟨q1a,q1b,q1c⟩:=(show ∀ y rest,_ from EeD1) y.g _ hy.2.1.1 hy.2.1.2 hm
                replace hm:=drop_app hm
                rw [← q1b] at hm
                obtain ⟨q2a,q2b,q2c⟩:=(show ∀ y rest,_ from EeD2) y.f _ hy.2.2.1.1 hy.2.2.1.2 hm
                replace hm:=drop_app hm
                rw [← q2b] at hm
                obtain ⟨q3a,q3b,q3c⟩:=(show ∀ y rest,_ from EeD3) y.t _ hy.2.2.2.1 hy.2.2.2.2 hm
                exact ⟨by rw [q0a,q1a,q2a,q3a],by simp only [List.length_append];omega,((q3c.trans q2c).trans q1c).trans q0c⟩
              have Y4 : Rm (⟨eD0,eD1,eD2,eD3⟩ : Mv):=⟨(show eD0.size ≤ 1000000 from ReD0),(show Rn eD1 from ReD1),(show Rn eD2 from ReD2),(show Rn eD3 from ReD3)⟩
              have hz2:=Y3.size
              have d5 : wfeD3.cell? ⟨h2,8,none⟩ = some (.slice ad L.length cap):=cell_of ((Y3.block h2 (by have:=(show ML nmc 97 4 mb Rm Rm b a c M kN bN kcD bcD h2 (fun v=>#[.string x0,.int .i64 x1,.int .i64 x2,.bool x3,.int .i64 x4,.slice aU LU.length cU,.slice aC LC.length cC,.slice aN LN.length cN,v]) wcD cntD L kk false _ wr from HST).hh;omega) (show ML nmc 97 4 mb Rm Rm b a c M kN bN kcD bcD h2 (fun v=>#[.string x0,.int .i64 x1,.int .i64 x2,.bool x3,.int .i64 x4,.slice aU LU.length cU,.slice aC LC.length cC,.slice aN LN.length cN,v]) wcD cntD L kk false _ wr from HST).bn).trans (show ML nmc 97 4 mb Rm Rm b a c M kN bN kcD bcD h2 (fun v=>#[.string x0,.int .i64 x1,.int .i64 x2,.bool x3,.int .i64 x4,.slice aU LU.length cU,.slice aC LC.length cC,.slice aN LN.length cN,v]) wcD cntD L kk false _ wr from HST).bh) rfl
              have f0 : wfeD3.cell? ⟨u,0,none⟩ = some (.string eD0):=cell_of sbeD3.bu rfl
              have f1 : wfeD3.cell? ⟨u,1,none⟩ = some (.int .i64 eD1):=cell_of sbeD3.bu rfl
              have f2 : wfeD3.cell? ⟨u,2,none⟩ = some (.int .i64 eD2):=cell_of sbeD3.bu rfl
              have f3 : wfeD3.cell? ⟨u,3,none⟩ = some (.int .i64 eD3):=cell_of sbeD3.bu rfl
              clear sbeD3 EeD0 GeD0 ReD0 EeD1 GeD1 ReD1 EeD2 GeD2 ReD2 EeD3 GeD3 ReD3
              have hown:=Kx.row (W:=W) (Kx.of_kb (b:=b) (kb_alloc 0 wfeD3 (.cells #[.string eD0,.int .i64 eD1,.int .i64 eD2,.int .i64 eD3] 97))) (Kx.row (W:=W) Y3 (show ML nmc 97 4 mb Rm Rm b a c M kN bN kcD bcD h2 (fun v=>#[.string x0,.int .i64 x1,.int .i64 x2,.bool x3,.int .i64 x4,.slice aU LU.length cU,.slice aC LC.length cC,.slice aN LN.length cN,v]) wcD cntD L kk false (.slice ad L.length cap) wr from HST).row hbz) hbz
              have hqc:=qr_cells wfeD3 #[.string eD0,.int .i64 eD1,.int .i64 eD2,.int .i64 eD3] 97 [.string eD0,.int .i64 eD1,.int .i64 eD2,.int .i64 eD3] rfl
              have h1c : ∀ u ∈ ([.string eD0,.int .i64 eD1,.int .i64 eD2,.int .i64 eD3] : List Value),u.oneCell' = true:=by intro u hu;simp at hu;rcases hu with rfl | rfl | rfl | rfl <;> rfl
              have HSTP : Hid (∀ (v' : Value) (w3 : World),w3.ownsRow wcD.heap.size 97 4 v' (L.length + 1) (L.flatMap nmc ++ [.string eD0,.int .i64 eD1,.int .i64 eD2,.int .i64 eD3]) → (wfeD3.alloc (.cells #[.string eD0,.int .i64 eD1,.int .i64 eD2,.int .i64 eD3] 97)).grownBy w3 (Value.slice ad L.length cap).ownBlock → ML nmc 97 4 mb Rm Rm b a c M kN bN kcD bcD h2 (fun v=>#[.string x0,.int .i64 x1,.int .i64 x2,.bool x3,.int .i64 x4,.slice aU LU.length cU,.slice aC LC.length cC,.slice aN LN.length cN,v]) wcD cntD (L ++ [(⟨eD0,eD1,eD2,eD3⟩ : Mv)]) keD3 beD3 v' (w3.setCell ⟨h2,8,none⟩ v') ∧ w3.heap[h2]? = some (.cells ((fun v=>#[.string x0,.int .i64 x1,.int .i64 x2,.bool x3,.int .i64 x4,.slice aU LU.length cU,.slice aC LC.length cC,.slice aN LN.length cN,v]) (.slice ad L.length cap)) 50 (0,0))):=(fun v' w3 h1 h3=>⟨(show ML nmc 97 4 mb Rm Rm b a c M kN bN kcD bcD h2 (fun v=>#[.string x0,.int .i64 x1,.int .i64 x2,.bool x3,.int .i64 x4,.slice aU LU.length cU,.slice aC LC.length cC,.slice aN LN.length cN,v]) wcD cntD L kk false (.slice ad L.length cap) wr from HST).step rfl hgo Y1 y2 Y3 Y4 Y5 Y7 h1 h3 rfl,(show ML nmc 97 4 mb Rm Rm b a c M kN bN kcD bcD h2 (fun v=>#[.string x0,.int .i64 x1,.int .i64 x2,.bool x3,.int .i64 x4,.slice aU LU.length cU,.slice aC LC.length cC,.slice aN LN.length cN,v]) wcD cntD L kk false (.slice ad L.length cap) wr from HST).blk Y3 h3⟩ : ∀ (v' : Value) (w3 : World),_)
              obtain ⟨i0,hi0,hz0,hzs,hzb⟩:=info_parts infonamed
              have HI0 : Hid (Tryz.prog.info? 97 = some i0):=hi0
              clear hi0 Y1 y2 Y3 Y4 Y5 Y7 HST c2
              go_wp2_with (at_builtin;refine wpList_append_own _ rfl (.tmp 135) (.tmp 137) 48 rfl wcD.heap.size 97 i0 (.agg #[.string ⟨#[]⟩,.int .i64 0,.int .i64 0,.int .i64 0]) 4 40 Tryz.underlying48 HI0 hz0 hzs hzb rfl (by decide) _ _ _ rfl hown ⟨wfeD3.heap.size,0,none⟩ 1 1 [.string eD0,.int .i64 eD1,.int .i64 eD2,.int .i64 eD3] rfl rfl hqc h1c (by unfold maxLen;omega) (by omega) (by simp;omega) ?_;intro v' w3 hown3 hgr3 _;obtain ⟨HN,hbb⟩:=(show ∀ (v' : Value) (w3 : World),_ from HSTP) _ _ hown3 hgr3;obtain ⟨g',cap',rfl,_,_⟩:=hown3.form (by omega);have t1 : w3.cell? ⟨h2,8,none⟩ = some (.slice ad L.length cap):=cell_of hbb rfl;have t2 : w3.frozen? ⟨h2,8,none⟩ = false:=frozen_of hbb;have HN2 : Hid (ML nmc 97 4 mb Rm Rm b a c M kN bN kcD bcD h2 (fun v=>#[.string x0,.int .i64 x1,.int .i64 x2,.bool x3,.int .i64 x4,.slice aU LU.length cU,.slice aC LC.length cC,.slice aN LN.length cN,v]) wcD cntD (L ++ [(⟨eD0,eD1,eD2,eD3⟩ : Mv)]) keD3 beD3 (.slice (some ⟨g',0,none⟩) (L.length + 1) cap') (w3.setCell ⟨h2,8,none⟩ (.slice (some ⟨g',0,none⟩) (L.length + 1) cap'))):=HN;clear HN hbb hown3 hgr3 hown hqc h1c HSTP)
              go_roundw
              case rel=>exact ⟨L ++ [(⟨eD0,eD1,eD2,eD3⟩ : Mv)],keD3,beD3,_,by rw [List.length_append,List.length_singleton];go_num,HN2⟩
              case measure=>simp [intOf];omega
            · have s9 : SP b a c M k bad kk bb W g h2 (⟨x0,x1,x2,x3,x4,LU,LC,LN,L⟩ : Rp) (.slice aU LU.length cU) (.slice aC LC.length cC) (.slice aN LN.length cN) (.slice ad L.length cap) wr:=(show SP b a c M k bad kcD bcD W g h2 (⟨x0,x1,x2,x3,x4,LU,LC,LN,[]⟩ : Rp) (.slice aU LU.length cU) (.slice aC LC.length cC) (.slice aN LN.length cN) (.slice none 0 0) wcD from HSDc).after hR.rd hR.le hR.mn hR.kb hR.bh
              have hX : SP b a c M k bad kk bb W g h2 (⟨x0,x1,x2,x3,x4,LU,LC,LN,L⟩ : Rp) (.slice aU LU.length cU) (.slice aC LC.length cC) (.slice aN LN.length cN) (.slice ad L.length cap) wr ∧ wr.ownsRow wcD.heap.size 97 4 (.slice ad L.length cap) L.length (L.flatMap nmc) ∧ (∀ x,x ∈ L → Rm x) ∧ L.length ≤ 1000000 ∧ (bb = false → kcD + L.length ≤ kk) ∧ LX mb Rm M kN bN M.length L kk bb ∧ Kbh b h2 wcD wr ∧ (bcD = true → bb = true):=⟨s9,hR.row,hR.tt,by omega,hR.gt,hR.ex.done (fun e=>hgo ⟨by omega,e.2⟩),hR.kb,hR.mn⟩
              have hX2 : ∃ (L : List Mv) (kk : Nat) (bb : Bool) (v : Value),Hid (SP b a c M k bad kk bb W g h2 (⟨x0,x1,x2,x3,x4,LU,LC,LN,L⟩ : Rp) (.slice aU LU.length cU) (.slice aC LC.length cC) (.slice aN LN.length cN) (v) wr ∧ wr.ownsRow wcD.heap.size 97 4 v L.length (L.flatMap nmc) ∧ (∀ x,x ∈ L → Rm x) ∧ L.length ≤ 1000000 ∧ (bb = false → kcD + L.length ≤ kk) ∧ LX mb Rm M kN bN M.length L kk bb ∧ Kbh b h2 wcD wr ∧ (bcD = true → bb = true)):=⟨L,kk,bb,.slice ad L.length cap,hX⟩
              have HX : Hid _:=hX2
              clear s9 hX hX2
              clear hR
              by_cases hlt : L.length < cntD
              · obtain rfl : bb = true := by
                  by_cases e : bb = false
                  · exact (hgo ⟨hlt,e⟩).elim
                  · simpa using e
                have hgI : (0 : Int) < (cntD : Int) - (L.length : Int):=by omega
                go_wp2_with fail
                go_meet
                case rel=>exact HX
              · have hgI : ¬ (0 : Int) < (cntD : Int) - (L.length : Int):=by omega
                go_wp2_with fail
                go_meet
                case rel=>exact HX
        case rest =>
          clear HMD HSDc
          obtain ⟨LD,kD,bD,vD,HUD⟩:=hcut
          rename World=>wD
          obtain ⟨sD,UD⟩:=(show _ ∧ _ from HUD)
          have HUD2 : Hid _:=UD
          clear HUD UD
          obtain ⟨aD,cD,rfl⟩:=own_shape (show _ ∧ _ from HUD2).1
          have d0 : wD.cell? ⟨h2,0,none⟩ = some (.string x0):=cell_of sD.bh rfl
          have e0 : wD.cell? ⟨g,0,none⟩ = some (.string ⟨#[]⟩):=cell_of sD.bg rfl
          have d1 : wD.cell? ⟨h2,1,none⟩ = some (.int .i64 x1):=cell_of sD.bh rfl
          have e1 : wD.cell? ⟨g,1,none⟩ = some (.int .i64 0):=cell_of sD.bg rfl
          have d2 : wD.cell? ⟨h2,2,none⟩ = some (.int .i64 x2):=cell_of sD.bh rfl
          have e2 : wD.cell? ⟨g,2,none⟩ = some (.int .i64 0):=cell_of sD.bg rfl
          have d3 : wD.cell? ⟨h2,3,none⟩ = some (.bool x3):=cell_of sD.bh rfl
          have e3 : wD.cell? ⟨g,3,none⟩ = some (.bool false):=cell_of sD.bg rfl
          have d4 : wD.cell? ⟨h2,4,none⟩ = some (.int .i64 x4):=cell_of sD.bh rfl
          have e4 : wD.cell? ⟨g,4,none⟩ = some (.int .i64 0):=cell_of sD.bg rfl
          have d5 : wD.cell? ⟨h2,5,none⟩ = some (.slice aU LU.length cU):=cell_of sD.bh rfl
          have e5 : wD.cell? ⟨g,5,none⟩ = some (.slice none 0 0):=cell_of sD.bg rfl
          have d6 : wD.cell? ⟨h2,6,none⟩ = some (.slice aC LC.length cC):=cell_of sD.bh rfl
          have e6 : wD.cell? ⟨g,6,none⟩ = some (.slice none 0 0):=cell_of sD.bg rfl
          have d7 : wD.cell? ⟨h2,7,none⟩ = some (.slice aN LN.length cN):=cell_of sD.bh rfl
          have e7 : wD.cell? ⟨g,7,none⟩ = some (.slice none 0 0):=cell_of sD.bg rfl
          have d8 : wD.cell? ⟨h2,8,none⟩ = some (.slice aD LD.length cD):=cell_of sD.bh rfl
          have e8 : wD.cell? ⟨g,8,none⟩ = some (.slice none 0 0):=cell_of sD.bg rfl
          have ef : ∀ j : Nat,wD.frozen? ⟨g,j,none⟩ = false:=fun j=>frozen_of sD.bg
          obtain ⟨oU1,oU2,oU3,oU4,oU5,oU6,oU7⟩:=(show _ ∧ _ ∧ _ ∧ _ ∧ _ ∧ _ ∧ _ from HUU2)
          obtain ⟨oC1,oC2,oC3,oC4,oC5,oC6,oC7⟩:=(show _ ∧ _ ∧ _ ∧ _ ∧ _ ∧ _ ∧ _ from HUC2)
          obtain ⟨oN1,oN2,oN3,oN4,oN5,oN6,oN7⟩:=(show _ ∧ _ ∧ _ ∧ _ ∧ _ ∧ _ ∧ _ from HUN2)
          obtain ⟨oD1,oD2,oD3,oD4,oD5,oD6,oD7⟩:=(show _ ∧ _ ∧ _ ∧ _ ∧ _ ∧ _ ∧ _ from HUD2)
          obtain ⟨hw_,hh_,hg_,hb_⟩:=(show _ ∧ _ ∧ _ ∧ _ from HW)
          have KND : Kbh b h2 wN wD:=(show _ ∧ _ ∧ _ from HKD).1.trans oD6
          have KCD : Kbh b h2 wC wD:=((show _ ∧ _ ∧ _ from HKN).1.trans oN6).trans KND
          have KUD : Kbh b h2 wU wD:=((show _ ∧ _ ∧ _ from HKC).1.trans oC6).trans KCD
          have szUC:=(show _ ∧ _ ∧ _ from HKC).1.size
          have szCN:=(show _ ∧ _ ∧ _ from HKN).1.size
          have szND:=(show _ ∧ _ ∧ _ from HKD).1.size
          have szU:=oU6.size
          have szC:=oC6.size
          have szN:=oN6.size
          have szD:=oD6.size
          have HQ : Hid (∀ u0z u1z u2z u3z u4z u5z u6z u7z u8z : Value,RD b a c M kD bD (((((((((wD.setCell ⟨g,0,none⟩ u0z).setCell ⟨g,1,none⟩ u1z).setCell ⟨g,2,none⟩ u2z).setCell ⟨g,3,none⟩ u3z).setCell ⟨g,4,none⟩ u4z).setCell ⟨g,5,none⟩ u5z).setCell ⟨g,6,none⟩ u6z).setCell ⟨g,7,none⟩ u7z).setCell ⟨g,8,none⟩ u8z) ∧ Kx b W (((((((((wD.setCell ⟨g,0,none⟩ u0z).setCell ⟨g,1,none⟩ u1z).setCell ⟨g,2,none⟩ u2z).setCell ⟨g,3,none⟩ u3z).setCell ⟨g,4,none⟩ u4z).setCell ⟨g,5,none⟩ u5z).setCell ⟨g,6,none⟩ u6z).setCell ⟨g,7,none⟩ u7z).setCell ⟨g,8,none⟩ u8z) ∧ OwnQ W.heap.size (((((((((wD.setCell ⟨g,0,none⟩ u0z).setCell ⟨g,1,none⟩ u1z).setCell ⟨g,2,none⟩ u2z).setCell ⟨g,3,none⟩ u3z).setCell ⟨g,4,none⟩ u4z).setCell ⟨g,5,none⟩ u5z).setCell ⟨g,6,none⟩ u6z).setCell ⟨g,7,none⟩ u7z).setCell ⟨g,8,none⟩ u8z).heap.size (((((((((wD.setCell ⟨g,0,none⟩ u0z).setCell ⟨g,1,none⟩ u1z).setCell ⟨g,2,none⟩ u2z).setCell ⟨g,3,none⟩ u3z).setCell ⟨g,4,none⟩ u4z).setCell ⟨g,5,none⟩ u5z).setCell ⟨g,6,none⟩ u6z).setCell ⟨g,7,none⟩ u7z).setCell ⟨g,8,none⟩ u8z) (⟨x0,x1,x2,x3,x4,LU,LC,LN,LD⟩ : Rp) (.slice aU LU.length cU) (.slice aC LC.length cC) (.slice aN LN.length cN) (.slice aD LD.length cD)):=(fun u0z u1z u2z u3z u4z u5z u6z u7z u8z=>by
            have zz : Kz g wD (((((((((wD.setCell ⟨g,0,none⟩ u0z).setCell ⟨g,1,none⟩ u1z).setCell ⟨g,2,none⟩ u2z).setCell ⟨g,3,none⟩ u3z).setCell ⟨g,4,none⟩ u4z).setCell ⟨g,5,none⟩ u5z).setCell ⟨g,6,none⟩ u6z).setCell ⟨g,7,none⟩ u7z).setCell ⟨g,8,none⟩ u8z):=((((((((((Kz.refl _ wD).set 0 u0z).set 1 u1z).set 2 u2z).set 3 u3z).set 4 u4z).set 5 u5z).set 6 u6z).set 7 u7z).set 8 u8z)
            have rU:=rowBlk' oU1 (fun i e=>KUD.block i (oU1.lt i e).2 (by have:=(oU1.lt i e).1;omega) (by have:=(oU1.lt i e).1;omega))
            have rC:=rowBlk' oC1 (fun i e=>KCD.block i (oC1.lt i e).2 (by have:=(oC1.lt i e).1;omega) (by have:=(oC1.lt i e).1;omega))
            have rN:=rowBlk' oN1 (fun i e=>KND.block i (oN1.lt i e).2 (by have:=(oN1.lt i e).1;omega) (by have:=(oN1.lt i e).1;omega))
            refine ⟨sD.rd.far (zz.block b (by omega)) (zz.block _ (by have:=sD.ab;omega)),(((((((((sD.ks.setNew (p:=⟨g,0,none⟩) sD.g0 u0z).setNew (p:=⟨g,1,none⟩) sD.g0 u1z).setNew (p:=⟨g,2,none⟩) sD.g0 u2z).setNew (p:=⟨g,3,none⟩) sD.g0 u3z).setNew (p:=⟨g,4,none⟩) sD.g0 u4z).setNew (p:=⟨g,5,none⟩) sD.g0 u5z).setNew (p:=⟨g,6,none⟩) sD.g0 u6z).setNew (p:=⟨g,7,none⟩) sD.g0 u7z).setNew (p:=⟨g,8,none⟩) sD.g0 u8z),wcC.heap.size,wcN.heap.size,wcD.heap.size,by omega,by omega,by omega,by rw [zz.size];exact szD,⟨ownsRow_mono2 (rowBlk' rU (fun i e=>zz.block i (by have:=(oU1.lt i e).1;omega))) (by omega),fun i e=>by have:=(oU1.lt i e).2;omega⟩,⟨rowBlk' rC (fun i e=>zz.block i (by have:=(oC1.lt i e).1;omega)),fun i e=>by have:=(oC1.lt i e).2;omega⟩,⟨rowBlk' rN (fun i e=>zz.block i (by have:=(oN1.lt i e).1;omega)),fun i e=>by have:=(oN1.lt i e).2;omega⟩,⟨rowBlk' oD1 (fun i e=>zz.block i (by have:=(oD1.lt i e).1;omega)),fun i e=>by rw [zz.size];exact (oD1.lt i e).2⟩⟩ : ∀ u0z u1z u2z u3z u4z u5z u6z u7z u8z : Value,_)
          have hgt : bD = false → k + LN.length < kD:=fun e=>by
            have f1 : bcD = false:=by
              by_cases h : bcD = true
              · have:=oD7 h
                rw [e] at this
                cases this
              · simpa using h
            have f2 : bN = false:=by
              by_cases h : bN = true
              · have:=(show _ ∧ _ ∧ _ from HKD).2.2 h
                rw [f1] at this
                cases this
              · simpa using h
            have f3:=oN4 f2
            have f4:=(show _ ∧ _ ∧ _ from HKD).2.1 f1
            have f5:=oD4 e
            omega
          have hE : Rt (⟨x0,x1,x2,x3,x4,LU,LC,LN,LD⟩ : Rp) ∧ k ≤ kD ∧ (bD = false → k + LN.length < kD) ∧ (bad = true → bD = true) ∧ ∀ y rest,bad = false → Rok y → M.drop k = pe y ++ rest → (⟨x0,x1,x2,x3,x4,LU,LC,LN,LD⟩ : Rp) = y ∧ kD = k + (pe y).length ∧ bD = false:=by
            refine ⟨⟨hx0,Hr1,Hr2,Hr4,oU2,oC2,oN2,oD2,oU3,oC3,oN3,oD3⟩,sD.le,hgt,sD.mo,fun y rest e hy hm=>?_⟩
            unfold pe at hm ⊢
            simp only [List.append_assoc] at hm
            obtain ⟨q0a,q0b,q0c⟩:=(show ∀ y rest,_ from E0) y.x _ hy.x hm
            replace hm:=drop_app hm
            rw [← q0b] at hm
            obtain ⟨q1a,q1b,q1c⟩:=(show ∀ y rest,_ from E1) y.l _ hy.l.1 hy.l.2 hm
            replace hm:=drop_app hm
            rw [← q1b] at hm
            obtain ⟨q2a,q2b,q2c⟩:=(show ∀ y rest,_ from E2) y.m _ hy.m.1 hy.m.2 hm
            replace hm:=drop_app hm
            rw [← q2b] at hm
            obtain ⟨q3a,q3b,q3c⟩:=(show ∀ y rest,_ from E3) y.r _ hm
            replace hm:=drop_app hm
            rw [← q3b] at hm
            obtain ⟨q4a,q4b,q4c⟩:=(show ∀ y rest,_ from E4) y.g _ hy.g.1 hy.g.2 hm
            replace hm:=drop_app hm
            rw [← q4b] at hm
            have q4d : ba4 = false:=q4c.trans (q3c.trans (q2c.trans (q1c.trans (q0c.trans e))))
            obtain ⟨q5a,q5b,q5c⟩:=oU5 y.U _ q4d hy.U (ls_len ub_pos hm) hm
            replace hm:=drop_app hm
            rw [← q5b] at hm
            obtain ⟨q6a,q6b,q6c⟩:=oC5 y.C _ q5c hy.C (ls_len cb_pos hm) hm
            replace hm:=drop_app hm
            rw [← q6b] at hm
            obtain ⟨q7a,q7b,q7c⟩:=oN5 y.N _ q6c hy.N (ls_len ib_pos hm) hm
            replace hm:=drop_app hm
            rw [← q7b] at hm
            obtain ⟨q8a,q8b,q8c⟩:=oD5 y.D _ q7c hy.D (ls_len mb_pos hm) hm
            refine ⟨?_,by simp only [List.length_append];omega,q8c⟩
            rw [q0a,q1a,q2a,q3a,q4a,q5a,q6a,q7a,q8a]
          have HE : Hid _:=hE
          clear hE hgt KND KCD KUD szUC szCN szND szU szC szN szD hw_ hh_ hg_ hb_ sD E0 E1 E2 E3 E4 Hr1 Hr2 Hr4 hx0 HUU2 HUC2 HUN2 HUD2 HKU HKC HKN HKD HW hzU hzC hzN hzD hcntU hcntC hcntN hcntD hleU hleC hleN hleD oU1 oU2 oU3 oU4 oU5 oU6 oU7 oC1 oC2 oC3 oC4 oC5 oC6 oC7 oN1 oN2 oN3 oN4 oN5 oN6 oN7 oD1 oD2 oD3 oD4 oD5 oD6 oD7
          go_wp2_with fail
          refine bodyPost_ret (by simp [results,Tryz.results30,go_sem,e0,e1,e2,e3,e4,e5,e6,e7,e8];rfl) rfl ?_
          obtain ⟨o1,o2,o3⟩:=(show ∀ u0z u1z u2z u3z u4z u5z u6z u7z u8z : Value,_ from HQ) (.string x0) (.int .i64 x1) (.int .i64 x2) (.bool x3) (.int .i64 x4) (.slice aU LU.length cU) (.slice aC LC.length cC) (.slice aN LN.length cN) (.slice aD LD.length cD)
          obtain ⟨q1,q2,q3,q4,q5⟩:=(show _ ∧ _ ∧ _ ∧ _ ∧ _ from HE)
          exact ⟨(⟨x0,x1,x2,x3,x4,LU,LC,LN,LD⟩ : Rp),_,_,_,_,kD,bD,rfl,o1,q2,o2,o3,q1,q3,q4,q5⟩
end Go.Proofs.YtnmeemjoodoalaaGreatDoor.Fo
