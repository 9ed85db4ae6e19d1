import Derived.Test.YtnmeemjoodoalaaGreatDoorNExq
import Derived.Deep.AppendLies
set_option maxHeartbeats 8000000
namespace Go.Proofs.YtnmeemjoodoalaaGreatDoor.Fo
open Go.ChangeShapes Go.WideShapes Go.ChangeAt Go.RowKit
set_option linter.unusedVariables false
set_option maxRecDepth 100000
theorem infoup : (Tryz.prog.info? 89).map (fun i=>(i.zero,i.size,i.bytes)) = some (some (.agg #[.bool false,.int .i64 0]),2,16):=by kernel_rfl
theorem ra_up {b : Nat} {p : Option Addr} {c : Nat} {M : List UInt8} {k : Nat} {lost : Bool} {W w1 : World} {cnt : Int} {k1 : Nat} {l1 : Bool} {most : Nat} (hs : RLs upc 89 2 ub Ru Ru b p c M k lost W most cnt [] k1 (l1 || decide ((most : Int) < cnt)) (.slice none 0 0) (w1.setCell ⟨b, 2, none⟩ (.bool (l1 || decide ((most : Int) < cnt))))) (c2 : w1.cell? ⟨b, 2, none⟩ = some (.bool l1)) (f2 : w1.frozen? ⟨b, 2, none⟩ = false) (hm : most ≤ 6000) :
    Calls Tryz.prog 125 #[.pointer (some ⟨b,0,none⟩),.int .i64 cnt,.int .i64 (most : Int),.func (Fn.func 80) #[.pointer (some ⟨b,0,none⟩)] #[]] w1 (RL upc 89 2 ub Ru Ru b p c M k lost W most):=by
  have hst : ∀ (a : Addr) (n : Nat) (m : Mode) (w : World),(store a (.float .f64 n) m).run Tryz.prog w = stored Tryz.prog w a (.float .f64 n) m:=fun a n m w=>run_store _ _ _ _ _ rfl
  obtain ⟨i0,hi0,hz0,hz1,hz2⟩:=info_parts infoup
  have HI0 : Hid (Tryz.prog.info? 89 = some i0):=hi0
  have HS : Hid (RLs upc 89 2 ub Ru Ru b p c M k lost W most cnt [] k1 (l1 || decide ((most : Int) < cnt)) (.slice none 0 0) (w1.setCell ⟨b,2,none⟩ (.bool (l1 || decide ((most : Int) < cnt))))):=hs
  have HM : Hid (most ≤ 6000):=hm
  clear hs hm hi0
  by_cases hl1 : l1 = true
  · subst hl1
    rw [Bool.true_or] at HS
    go_enter Tryz.func125,Tryz.ntmps125
    go_upto_region 3 with fail
    clear c2 f2
    obtain ⟨w2,hw2⟩ : ∃ w2,w2 = w1.setCell ⟨b,2,none⟩ (.bool true):=⟨_,rfl⟩
    rw [← hw2] at HS ⊢
    clear hw2
    go_loopw [9] (fun s9 wr=>∃ (L : List (Bool × Int)) (k' : Nat) (l' : Bool),Hid (RLs upc 89 2 ub Ru Ru b p c M k lost W most cnt L k' l' s9 wr)) (fun s9 _=>cnt.toNat - lnOf s9)
    case atStart=>exact ⟨[],k1,true,HS⟩
    case round =>
      clear HS
      obtain ⟨L,k',l',HR⟩:=hrel
      have hR:=(show RLs upc 89 2 ub Ru Ru b p c M k lost W most cnt L k' l' u9 wr from HR)
      obtain ⟨ad,cap,rfl⟩:=own_shape hR.row
      clear HR
      have c2 : wr.cell? ⟨b,2,none⟩ = some (.bool l'):=cell_of hR.rd.blk rfl
      have hLm : (L.length : Int) ≤ 6000:=by have:=hR.mo;have:=(show most ≤ 6000 from HM);omega
      by_cases hgo : (L.length : Int) < cnt
      · cases l' with
        | true =>
          have HD : Hid (RL upc 89 2 ub Ru Ru b p c M k lost W most (.returned (.slice ad L.length cap)) wr):=hR.done (by simp)
          clear hR HI0
          go_wp2_with fail
          go_ret
          exact HD
        | false =>
          have HC:=ec_up hR.rd
          have HST : Hid (RLs upc 89 2 ub Ru Ru b p c M k lost W most cnt L k' false (.slice ad L.length cap) wr):=hR
          have hbz : b < W.heap.size:=hR.r0.lt
          have hwz:=hR.ks.size
          clear hR
          go_wp2_with fail
          refine HC.mono ?_
          rintro e w1 ⟨v1,k2,l2,rfl,y1,y2,y3,x,rfl,y4,y5,y6,y7⟩
          have hw1:=y3.size
          have hown:=Kx.row (W:=W) (Kx.of_kb (b:=b) (kb_alloc 0 w1 (.cells #[.bool x.1,.int .i64 x.2] 89))) (Kx.row (W:=W) y3 (show RLs upc 89 2 ub Ru Ru b p c M k lost W most cnt L k' false (.slice ad L.length cap) wr from HST).row hbz) hbz
          have hqc:=qr_cells w1 #[.bool x.1,.int .i64 x.2] 89 [.bool x.1,.int .i64 x.2] rfl
          have h1c : ∀ u ∈ ([.bool x.1,.int .i64 x.2] : List Value),u.oneCell' = true:=by intro u hu;simp at hu;rcases hu with rfl | rfl <;> rfl
          have HSTP : Hid (∀ (v' : Value) (w3 : World),w3.ownsRow W.heap.size 89 2 v' (L.length + 1) (L.flatMap upc ++ [.bool x.1,.int .i64 x.2]) → (w1.alloc (.cells #[.bool x.1,.int .i64 x.2] 89)).grownBy w3 (Value.slice ad L.length cap).ownBlock → RLs upc 89 2 ub Ru Ru b p c M k lost W most cnt (L ++ [x]) k2 l2 v' w3):=(fun v' w3 h1 h2=>(show RLs upc 89 2 ub Ru Ru b p c M k lost W most cnt L k' false (.slice ad L.length cap) wr from HST).step rfl hgo y1 y2 y3 y4 y5 y6 y7 h1 h2 : ∀ (v' : Value) (w3 : World),_)
          clear y1 y2 y3 y4 y5 y6 y7 HC HST c2
          unfold upv
          go_wp2_with (at_builtin;refine wpList_append_own _ rfl (.tmp 36) (.tmp 39) 45 rfl W.heap.size 89 i0 (.agg #[.bool false,.int .i64 0]) 2 16 Tryz.underlying45 HI0 hz0 hz1 hz2 rfl (by decide) _ _ _ rfl hown ⟨w1.heap.size,0,none⟩ 1 1 [.bool x.1,.int .i64 x.2] rfl rfl hqc h1c (by unfold maxLen;omega) (by omega) (by simp;omega) ?_;intro v' w3 hown3 hgr3 _;have HN : Hid (RLs upc 89 2 ub Ru Ru b p c M k lost W most cnt (L ++ [x]) k2 l2 v' w3):=(show ∀ (v' : Value) (w3 : World),_ from HSTP) _ _ hown3 hgr3;obtain ⟨g',cap',rfl,_,_⟩:=hown3.form (by omega);clear hown3 hgr3 hown hqc h1c HSTP)
          go_roundw
          case rel=>exact ⟨L ++ [x],k2,l2,HN⟩
          case measure=>simp [lnOf];omega
      · have HD : Hid (RL upc 89 2 ub Ru Ru b p c M k lost W most (.returned (.slice ad L.length cap)) wr):=hR.done (fun e=>hgo e.1)
        clear hR HI0
        go_wp2_with fail
        go_ret
        exact HD
  · obtain rfl : l1 = false:=by cases l1 <;> simp_all
    rw [Bool.false_or] at HS
    by_cases hcm : (most : Int) < cnt
    · rw [decide_eq_true hcm] at HS
      go_enter Tryz.func125,Tryz.ntmps125
      go_upto_region 3 with fail
      clear c2 f2 hcm
      obtain ⟨w2,hw2⟩ : ∃ w2,w2 = w1.setCell ⟨b,2,none⟩ (.bool true):=⟨_,rfl⟩
      rw [← hw2] at HS ⊢
      clear hw2
      go_loopw [9] (fun s9 wr=>∃ (L : List (Bool × Int)) (k' : Nat) (l' : Bool),Hid (RLs upc 89 2 ub Ru Ru b p c M k lost W most cnt L k' l' s9 wr)) (fun s9 _=>cnt.toNat - lnOf s9)
      case atStart=>exact ⟨[],k1,true,HS⟩
      case round =>
        clear HS
        obtain ⟨L,k',l',HR⟩:=hrel
        have hR:=(show RLs upc 89 2 ub Ru Ru b p c M k lost W most cnt L k' l' u9 wr from HR)
        obtain ⟨ad,cap,rfl⟩:=own_shape hR.row
        clear HR
        have c2 : wr.cell? ⟨b,2,none⟩ = some (.bool l'):=cell_of hR.rd.blk rfl
        have hLm : (L.length : Int) ≤ 6000:=by have:=hR.mo;have:=(show most ≤ 6000 from HM);omega
        by_cases hgo : (L.length : Int) < cnt
        · cases l' with
          | true =>
            have HD : Hid (RL upc 89 2 ub Ru Ru b p c M k lost W most (.returned (.slice ad L.length cap)) wr):=hR.done (by simp)
            clear hR HI0
            go_wp2_with fail
            go_ret
            exact HD
          | false =>
            have HC:=ec_up hR.rd
            have HST : Hid (RLs upc 89 2 ub Ru Ru b p c M k lost W most cnt L k' false (.slice ad L.length cap) wr):=hR
            have hbz : b < W.heap.size:=hR.r0.lt
            have hwz:=hR.ks.size
            clear hR
            go_wp2_with fail
            refine HC.mono ?_
            rintro e w1 ⟨v1,k2,l2,rfl,y1,y2,y3,x,rfl,y4,y5,y6,y7⟩
            have hw1:=y3.size
            have hown:=Kx.row (W:=W) (Kx.of_kb (b:=b) (kb_alloc 0 w1 (.cells #[.bool x.1,.int .i64 x.2] 89))) (Kx.row (W:=W) y3 (show RLs upc 89 2 ub Ru Ru b p c M k lost W most cnt L k' false (.slice ad L.length cap) wr from HST).row hbz) hbz
            have hqc:=qr_cells w1 #[.bool x.1,.int .i64 x.2] 89 [.bool x.1,.int .i64 x.2] rfl
            have h1c : ∀ u ∈ ([.bool x.1,.int .i64 x.2] : List Value),u.oneCell' = true:=by intro u hu;simp at hu;rcases hu with rfl | rfl <;> rfl
            have HSTP : Hid (∀ (v' : Value) (w3 : World),w3.ownsRow W.heap.size 89 2 v' (L.length + 1) (L.flatMap upc ++ [.bool x.1,.int .i64 x.2]) → (w1.alloc (.cells #[.bool x.1,.int .i64 x.2] 89)).grownBy w3 (Value.slice ad L.length cap).ownBlock → RLs upc 89 2 ub Ru Ru b p c M k lost W most cnt (L ++ [x]) k2 l2 v' w3):=(fun v' w3 h1 h2=>(show RLs upc 89 2 ub Ru Ru b p c M k lost W most cnt L k' false (.slice ad L.length cap) wr from HST).step rfl hgo y1 y2 y3 y4 y5 y6 y7 h1 h2 : ∀ (v' : Value) (w3 : World),_)
            clear y1 y2 y3 y4 y5 y6 y7 HC HST c2
            unfold upv
            go_wp2_with (at_builtin;refine wpList_append_own _ rfl (.tmp 36) (.tmp 39) 45 rfl W.heap.size 89 i0 (.agg #[.bool false,.int .i64 0]) 2 16 Tryz.underlying45 HI0 hz0 hz1 hz2 rfl (by decide) _ _ _ rfl hown ⟨w1.heap.size,0,none⟩ 1 1 [.bool x.1,.int .i64 x.2] rfl rfl hqc h1c (by unfold maxLen;omega) (by omega) (by simp;omega) ?_;intro v' w3 hown3 hgr3 _;have HN : Hid (RLs upc 89 2 ub Ru Ru b p c M k lost W most cnt (L ++ [x]) k2 l2 v' w3):=(show ∀ (v' : Value) (w3 : World),_ from HSTP) _ _ hown3 hgr3;obtain ⟨g',cap',rfl,_,_⟩:=hown3.form (by omega);clear hown3 hgr3 hown hqc h1c HSTP)
            go_roundw
            case rel=>exact ⟨L ++ [x],k2,l2,HN⟩
            case measure=>simp [lnOf];omega
        · have HD : Hid (RL upc 89 2 ub Ru Ru b p c M k lost W most (.returned (.slice ad L.length cap)) wr):=hR.done (fun e=>hgo e.1)
          clear hR HI0
          go_wp2_with fail
          go_ret
          exact HD
    · rw [decide_eq_false hcm] at HS
      go_enter Tryz.func125,Tryz.ntmps125
      go_upto_region 3 with fail
      clear c2 f2
      obtain ⟨w2,hw2⟩ : ∃ w2,w2 = w1.setCell ⟨b,2,none⟩ (.bool false):=⟨_,rfl⟩
      rw [← hw2] at HS ⊢
      clear hw2
      go_loopw [9] (fun s9 wr=>∃ (L : List (Bool × Int)) (k' : Nat) (l' : Bool),Hid (RLs upc 89 2 ub Ru Ru b p c M k lost W most cnt L k' l' s9 wr)) (fun s9 _=>cnt.toNat - lnOf s9)
      case atStart=>exact ⟨[],k1,false,HS⟩
      case round =>
        clear HS
        obtain ⟨L,k',l',HR⟩:=hrel
        have hR:=(show RLs upc 89 2 ub Ru Ru b p c M k lost W most cnt L k' l' u9 wr from HR)
        obtain ⟨ad,cap,rfl⟩:=own_shape hR.row
        clear HR
        have c2 : wr.cell? ⟨b,2,none⟩ = some (.bool l'):=cell_of hR.rd.blk rfl
        have hLm : (L.length : Int) ≤ 6000:=by have:=hR.mo;have:=(show most ≤ 6000 from HM);omega
        by_cases hgo : (L.length : Int) < cnt
        · cases l' with
          | true =>
            have HD : Hid (RL upc 89 2 ub Ru Ru b p c M k lost W most (.returned (.slice ad L.length cap)) wr):=hR.done (by simp)
            clear hR HI0
            go_wp2_with fail
            go_ret
            exact HD
          | false =>
            have HC:=ec_up hR.rd
            have HST : Hid (RLs upc 89 2 ub Ru Ru b p c M k lost W most cnt L k' false (.slice ad L.length cap) wr):=hR
            have hbz : b < W.heap.size:=hR.r0.lt
            have hwz:=hR.ks.size
            clear hR
            go_wp2_with fail
            refine HC.mono ?_
            rintro e w1 ⟨v1,k2,l2,rfl,y1,y2,y3,x,rfl,y4,y5,y6,y7⟩
            have hw1:=y3.size
            have hown:=Kx.row (W:=W) (Kx.of_kb (b:=b) (kb_alloc 0 w1 (.cells #[.bool x.1,.int .i64 x.2] 89))) (Kx.row (W:=W) y3 (show RLs upc 89 2 ub Ru Ru b p c M k lost W most cnt L k' false (.slice ad L.length cap) wr from HST).row hbz) hbz
            have hqc:=qr_cells w1 #[.bool x.1,.int .i64 x.2] 89 [.bool x.1,.int .i64 x.2] rfl
            have h1c : ∀ u ∈ ([.bool x.1,.int .i64 x.2] : List Value),u.oneCell' = true:=by intro u hu;simp at hu;rcases hu with rfl | rfl <;> rfl
            have HSTP : Hid (∀ (v' : Value) (w3 : World),w3.ownsRow W.heap.size 89 2 v' (L.length + 1) (L.flatMap upc ++ [.bool x.1,.int .i64 x.2]) → (w1.alloc (.cells #[.bool x.1,.int .i64 x.2] 89)).grownBy w3 (Value.slice ad L.length cap).ownBlock → RLs upc 89 2 ub Ru Ru b p c M k lost W most cnt (L ++ [x]) k2 l2 v' w3):=(fun v' w3 h1 h2=>(show RLs upc 89 2 ub Ru Ru b p c M k lost W most cnt L k' false (.slice ad L.length cap) wr from HST).step rfl hgo y1 y2 y3 y4 y5 y6 y7 h1 h2 : ∀ (v' : Value) (w3 : World),_)
            clear y1 y2 y3 y4 y5 y6 y7 HC HST c2
            unfold upv
            go_wp2_with (at_builtin;refine wpList_append_own _ rfl (.tmp 36) (.tmp 39) 45 rfl W.heap.size 89 i0 (.agg #[.bool false,.int .i64 0]) 2 16 Tryz.underlying45 HI0 hz0 hz1 hz2 rfl (by decide) _ _ _ rfl hown ⟨w1.heap.size,0,none⟩ 1 1 [.bool x.1,.int .i64 x.2] rfl rfl hqc h1c (by unfold maxLen;omega) (by omega) (by simp;omega) ?_;intro v' w3 hown3 hgr3 _;have HN : Hid (RLs upc 89 2 ub Ru Ru b p c M k lost W most cnt (L ++ [x]) k2 l2 v' w3):=(show ∀ (v' : Value) (w3 : World),_ from HSTP) _ _ hown3 hgr3;obtain ⟨g',cap',rfl,_,_⟩:=hown3.form (by omega);clear hown3 hgr3 hown hqc h1c HSTP)
            go_roundw
            case rel=>exact ⟨L ++ [x],k2,l2,HN⟩
            case measure=>simp [lnOf];omega
        · have HD : Hid (RL upc 89 2 ub Ru Ru b p c M k lost W most (.returned (.slice ad L.length cap)) wr):=hR.done (fun e=>hgo e.1)
          clear hR HI0
          go_wp2_with fail
          go_ret
          exact HD
theorem rl_up {b : Nat} {p : Option Addr} {c : Nat} {M : List UInt8} {k : Nat} {lost : Bool} {W : World} (h : RI b p c M k lost W) (most : Nat) (hm : most ≤ 6000) :
    Calls Tryz.prog 79 #[.pointer (some ⟨b,0,none⟩),.int .i64 (most : Int),.func (Fn.func 80) #[.pointer (some ⟨b,0,none⟩)] #[]] W (RL upc 89 2 ub Ru Ru b p c M k lost W most):=by
  have HB:=im_rnum h
  have HA : Hid (∀ (w1 : World) (k1 : Nat) (l1 : Bool) (cnt : Int),RI b p c M k1 l1 w1 → k ≤ k1 → Kz b W w1 → (l1 = false → k < k1) → (lost = true → l1 = true) → (∀ y rest,lost = false → Rn y → M.drop k = nb y ++ rest → cnt = y ∧ k1 = k + (nb y).length ∧ l1 = false) → Calls Tryz.prog 125 #[.pointer (some ⟨b,0,none⟩),.int .i64 cnt,.int .i64 (most : Int),.func (Fn.func 80) #[.pointer (some ⟨b,0,none⟩)] #[]] w1 (RL upc 89 2 ub Ru Ru b p c M k lost W most)):=(fun w1 k1 l1 cnt z1 z2 z3 z5 z6 z7=>ra_up (RLs.begin h z1 z2 z3 z5 z6 z7 (by omega)) (cell_of z1.blk rfl) (frozen_of z1.blk) hm : ∀ (w1 : World) (k1 : Nat) (l1 : Bool) (cnt : Int),_)
  clear h hm
  go_enter Tryz.func79,Tryz.ntmps79
  go_wp2_with fail
  refine HB.mono ?_
  rintro e w1 ⟨v1,k1,l1,rfl,z1,z2,z3,cnt,rfl,z4,z5,z6,z7⟩
  have HA1:=(show ∀ (w1 : World) (k1 : Nat) (l1 : Bool) (cnt : Int),_ from HA) w1 k1 l1 cnt z1 z2 z3 z5 z6 z7
  clear HA HB z1 z2 z3 z4 z5 z6 z7
  go_wp2_with fail
  refine HA1.mono ?_
  rintro e w2 ⟨v,k',l',L,rfl,hq⟩
  have HD : Hid (RL upc 89 2 ub Ru Ru b p c M k lost W most (.returned v) w2):=(⟨v,k',l',L,rfl,hq⟩ : RL upc 89 2 ub Ru Ru b p c M k lost W most (.returned v) w2)
  obtain ⟨ad,cap,rfl⟩:=own_shape hq.2.2.2.1
  clear hq HA1
  go_wp2_with fail
  go_ret
  exact HD
theorem infovalue : (Tryz.prog.info? 92).map (fun i=>(i.zero,i.size,i.bytes)) = some (some (.agg #[.int .i64 0,.int .i64 0,.float .f64 0,.string ⟨#[]⟩,.int .i64 0]),5,48):=by kernel_rfl
theorem ra_value {b : Nat} {p : Option Addr} {c : Nat} {M : List UInt8} {k : Nat} {lost : Bool} {W w1 : World} {cnt : Int} {k1 : Nat} {l1 : Bool} {most : Nat} (hs : RLs vlc 92 5 cb Tv Yv b p c M k lost W most cnt [] k1 (l1 || decide ((most : Int) < cnt)) (.slice none 0 0) (w1.setCell ⟨b, 2, none⟩ (.bool (l1 || decide ((most : Int) < cnt))))) (c2 : w1.cell? ⟨b, 2, none⟩ = some (.bool l1)) (f2 : w1.frozen? ⟨b, 2, none⟩ = false) (hm : most ≤ 6000) :
    Calls Tryz.prog 126 #[.pointer (some ⟨b,0,none⟩),.int .i64 cnt,.int .i64 (most : Int),.func (Fn.func 82) #[.pointer (some ⟨b,0,none⟩)] #[]] w1 (RL vlc 92 5 cb Tv Yv b p c M k lost W most):=by
  have hst : ∀ (a : Addr) (n : Nat) (m : Mode) (w : World),(store a (.float .f64 n) m).run Tryz.prog w = stored Tryz.prog w a (.float .f64 n) m:=fun a n m w=>run_store _ _ _ _ _ rfl
  obtain ⟨i0,hi0,hz0,hz1,hz2⟩:=info_parts infovalue
  have HI0 : Hid (Tryz.prog.info? 92 = some i0):=hi0
  have HS : Hid (RLs vlc 92 5 cb Tv Yv b p c M k lost W most cnt [] k1 (l1 || decide ((most : Int) < cnt)) (.slice none 0 0) (w1.setCell ⟨b,2,none⟩ (.bool (l1 || decide ((most : Int) < cnt))))):=hs
  have HM : Hid (most ≤ 6000):=hm
  clear hs hm hi0
  by_cases hl1 : l1 = true
  · subst hl1
    rw [Bool.true_or] at HS
    go_enter Tryz.func126,Tryz.ntmps126
    go_upto_region 3 with fail
    clear c2 f2
    obtain ⟨w2,hw2⟩ : ∃ w2,w2 = w1.setCell ⟨b,2,none⟩ (.bool true):=⟨_,rfl⟩
    rw [← hw2] at HS ⊢
    clear hw2
    go_loopw [9] (fun s9 wr=>∃ (L : List Vv) (k' : Nat) (l' : Bool),Hid (RLs vlc 92 5 cb Tv Yv b p c M k lost W most cnt L k' l' s9 wr)) (fun s9 _=>cnt.toNat - lnOf s9)
    case atStart=>exact ⟨[],k1,true,HS⟩
    case round =>
      clear HS
      obtain ⟨L,k',l',HR⟩:=hrel
      have hR:=(show RLs vlc 92 5 cb Tv Yv b p c M k lost W most cnt L k' l' u9 wr from HR)
      obtain ⟨ad,cap,rfl⟩:=own_shape hR.row
      clear HR
      have c2 : wr.cell? ⟨b,2,none⟩ = some (.bool l'):=cell_of hR.rd.blk rfl
      have hLm : (L.length : Int) ≤ 6000:=by have:=hR.mo;have:=(show most ≤ 6000 from HM);omega
      by_cases hgo : (L.length : Int) < cnt
      · cases l' with
        | true =>
          have HD : Hid (RL vlc 92 5 cb Tv Yv b p c M k lost W most (.returned (.slice ad L.length cap)) wr):=hR.done (by simp)
          clear hR HI0
          go_wp2_with fail
          go_ret
          exact HD
        | false =>
          have HC:=ec_value hR.rd
          have HST : Hid (RLs vlc 92 5 cb Tv Yv b p c M k lost W most cnt L k' false (.slice ad L.length cap) wr):=hR
          have hbz : b < W.heap.size:=hR.r0.lt
          have hwz:=hR.ks.size
          clear hR
          go_wp2_with fail
          refine HC.mono ?_
          rintro e w1 ⟨v1,k2,l2,rfl,y1,y2,y3,x,rfl,y4,y5,y6,y7⟩
          have hw1:=y3.size
          have hown:=Kx.row (W:=W) (Kx.of_kb (b:=b) (kb_alloc 0 w1 (.cells #[.int .i64 x.k,.int .i64 x.m,.float .f64 x.g,.string x.x,.int .i64 x.r] 92))) (Kx.row (W:=W) y3 (show RLs vlc 92 5 cb Tv Yv b p c M k lost W most cnt L k' false (.slice ad L.length cap) wr from HST).row hbz) hbz
          have hqc:=qr_cells w1 #[.int .i64 x.k,.int .i64 x.m,.float .f64 x.g,.string x.x,.int .i64 x.r] 92 [.int .i64 x.k,.int .i64 x.m,.float .f64 x.g,.string x.x,.int .i64 x.r] rfl
          have h1c : ∀ u ∈ ([.int .i64 x.k,.int .i64 x.m,.float .f64 x.g,.string x.x,.int .i64 x.r] : List Value),u.oneCell' = true:=by intro u hu;simp at hu;rcases hu with rfl | rfl | rfl | rfl | rfl <;> rfl
          have HSTP : Hid (∀ (v' : Value) (w3 : World),w3.ownsRow W.heap.size 92 5 v' (L.length + 1) (L.flatMap vlc ++ [.int .i64 x.k,.int .i64 x.m,.float .f64 x.g,.string x.x,.int .i64 x.r]) → (w1.alloc (.cells #[.int .i64 x.k,.int .i64 x.m,.float .f64 x.g,.string x.x,.int .i64 x.r] 92)).grownBy w3 (Value.slice ad L.length cap).ownBlock → RLs vlc 92 5 cb Tv Yv b p c M k lost W most cnt (L ++ [x]) k2 l2 v' w3):=(fun v' w3 h1 h2=>(show RLs vlc 92 5 cb Tv Yv b p c M k lost W most cnt L k' false (.slice ad L.length cap) wr from HST).step rfl hgo y1 y2 y3 y4 y5 y6 y7 h1 h2 : ∀ (v' : Value) (w3 : World),_)
          clear y1 y2 y3 y4 y5 y6 y7 HC HST c2
          unfold vv
          go_wp2_with (at_builtin;refine wpList_append_own _ rfl (.tmp 36) (.tmp 39) 46 rfl W.heap.size 92 i0 (.agg #[.int .i64 0,.int .i64 0,.float .f64 0,.string ⟨#[]⟩,.int .i64 0]) 5 48 Tryz.underlying46 HI0 hz0 hz1 hz2 rfl (by decide) _ _ _ rfl hown ⟨w1.heap.size,0,none⟩ 1 1 [.int .i64 x.k,.int .i64 x.m,.float .f64 x.g,.string x.x,.int .i64 x.r] rfl rfl hqc h1c (by unfold maxLen;omega) (by omega) (by simp;omega) ?_;intro v' w3 hown3 hgr3 _;have HN : Hid (RLs vlc 92 5 cb Tv Yv b p c M k lost W most cnt (L ++ [x]) k2 l2 v' w3):=(show ∀ (v' : Value) (w3 : World),_ from HSTP) _ _ hown3 hgr3;obtain ⟨g',cap',rfl,_,_⟩:=hown3.form (by omega);clear hown3 hgr3 hown hqc h1c HSTP)
          go_roundw
          case rel=>exact ⟨L ++ [x],k2,l2,HN⟩
          case measure=>simp [lnOf];omega
      · have HD : Hid (RL vlc 92 5 cb Tv Yv b p c M k lost W most (.returned (.slice ad L.length cap)) wr):=hR.done (fun e=>hgo e.1)
        clear hR HI0
        go_wp2_with fail
        go_ret
        exact HD
  · obtain rfl : l1 = false:=by cases l1 <;> simp_all
    rw [Bool.false_or] at HS
    by_cases hcm : (most : Int) < cnt
    · rw [decide_eq_true hcm] at HS
      go_enter Tryz.func126,Tryz.ntmps126
      go_upto_region 3 with fail
      clear c2 f2 hcm
      obtain ⟨w2,hw2⟩ : ∃ w2,w2 = w1.setCell ⟨b,2,none⟩ (.bool true):=⟨_,rfl⟩
      rw [← hw2] at HS ⊢
      clear hw2
      go_loopw [9] (fun s9 wr=>∃ (L : List Vv) (k' : Nat) (l' : Bool),Hid (RLs vlc 92 5 cb Tv Yv b p c M k lost W most cnt L k' l' s9 wr)) (fun s9 _=>cnt.toNat - lnOf s9)
      case atStart=>exact ⟨[],k1,true,HS⟩
      case round =>
        clear HS
        obtain ⟨L,k',l',HR⟩:=hrel
        have hR:=(show RLs vlc 92 5 cb Tv Yv b p c M k lost W most cnt L k' l' u9 wr from HR)
        obtain ⟨ad,cap,rfl⟩:=own_shape hR.row
        clear HR
        have c2 : wr.cell? ⟨b,2,none⟩ = some (.bool l'):=cell_of hR.rd.blk rfl
        have hLm : (L.length : Int) ≤ 6000:=by have:=hR.mo;have:=(show most ≤ 6000 from HM);omega
        by_cases hgo : (L.length : Int) < cnt
        · cases l' with
          | true =>
            have HD : Hid (RL vlc 92 5 cb Tv Yv b p c M k lost W most (.returned (.slice ad L.length cap)) wr):=hR.done (by simp)
            clear hR HI0
            go_wp2_with fail
            go_ret
            exact HD
          | false =>
            have HC:=ec_value hR.rd
            have HST : Hid (RLs vlc 92 5 cb Tv Yv b p c M k lost W most cnt L k' false (.slice ad L.length cap) wr):=hR
            have hbz : b < W.heap.size:=hR.r0.lt
            have hwz:=hR.ks.size
            clear hR
            go_wp2_with fail
            refine HC.mono ?_
            rintro e w1 ⟨v1,k2,l2,rfl,y1,y2,y3,x,rfl,y4,y5,y6,y7⟩
            have hw1:=y3.size
            have hown:=Kx.row (W:=W) (Kx.of_kb (b:=b) (kb_alloc 0 w1 (.cells #[.int .i64 x.k,.int .i64 x.m,.float .f64 x.g,.string x.x,.int .i64 x.r] 92))) (Kx.row (W:=W) y3 (show RLs vlc 92 5 cb Tv Yv b p c M k lost W most cnt L k' false (.slice ad L.length cap) wr from HST).row hbz) hbz
            have hqc:=qr_cells w1 #[.int .i64 x.k,.int .i64 x.m,.float .f64 x.g,.string x.x,.int .i64 x.r] 92 [.int .i64 x.k,.int .i64 x.m,.float .f64 x.g,.string x.x,.int .i64 x.r] rfl
            have h1c : ∀ u ∈ ([.int .i64 x.k,.int .i64 x.m,.float .f64 x.g,.string x.x,.int .i64 x.r] : List Value),u.oneCell' = true:=by intro u hu;simp at hu;rcases hu with rfl | rfl | rfl | rfl | rfl <;> rfl
            have HSTP : Hid (∀ (v' : Value) (w3 : World),w3.ownsRow W.heap.size 92 5 v' (L.length + 1) (L.flatMap vlc ++ [.int .i64 x.k,.int .i64 x.m,.float .f64 x.g,.string x.x,.int .i64 x.r]) → (w1.alloc (.cells #[.int .i64 x.k,.int .i64 x.m,.float .f64 x.g,.string x.x,.int .i64 x.r] 92)).grownBy w3 (Value.slice ad L.length cap).ownBlock → RLs vlc 92 5 cb Tv Yv b p c M k lost W most cnt (L ++ [x]) k2 l2 v' w3):=(fun v' w3 h1 h2=>(show RLs vlc 92 5 cb Tv Yv b p c M k lost W most cnt L k' false (.slice ad L.length cap) wr from HST).step rfl hgo y1 y2 y3 y4 y5 y6 y7 h1 h2 : ∀ (v' : Value) (w3 : World),_)
            clear y1 y2 y3 y4 y5 y6 y7 HC HST c2
            unfold vv
            go_wp2_with (at_builtin;refine wpList_append_own _ rfl (.tmp 36) (.tmp 39) 46 rfl W.heap.size 92 i0 (.agg #[.int .i64 0,.int .i64 0,.float .f64 0,.string ⟨#[]⟩,.int .i64 0]) 5 48 Tryz.underlying46 HI0 hz0 hz1 hz2 rfl (by decide) _ _ _ rfl hown ⟨w1.heap.size,0,none⟩ 1 1 [.int .i64 x.k,.int .i64 x.m,.float .f64 x.g,.string x.x,.int .i64 x.r] rfl rfl hqc h1c (by unfold maxLen;omega) (by omega) (by simp;omega) ?_;intro v' w3 hown3 hgr3 _;have HN : Hid (RLs vlc 92 5 cb Tv Yv b p c M k lost W most cnt (L ++ [x]) k2 l2 v' w3):=(show ∀ (v' : Value) (w3 : World),_ from HSTP) _ _ hown3 hgr3;obtain ⟨g',cap',rfl,_,_⟩:=hown3.form (by omega);clear hown3 hgr3 hown hqc h1c HSTP)
            go_roundw
            case rel=>exact ⟨L ++ [x],k2,l2,HN⟩
            case measure=>simp [lnOf];omega
        · have HD : Hid (RL vlc 92 5 cb Tv Yv b p c M k lost W most (.returned (.slice ad L.length cap)) wr):=hR.done (fun e=>hgo e.1)
          clear hR HI0
          go_wp2_with fail
          go_ret
          exact HD
    · rw [decide_eq_false hcm] at HS
      go_enter Tryz.func126,Tryz.ntmps126
      go_upto_region 3 with fail
      clear c2 f2
      obtain ⟨w2,hw2⟩ : ∃ w2,w2 = w1.setCell ⟨b,2,none⟩ (.bool false):=⟨_,rfl⟩
      rw [← hw2] at HS ⊢
      clear hw2
      go_loopw [9] (fun s9 wr=>∃ (L : List Vv) (k' : Nat) (l' : Bool),Hid (RLs vlc 92 5 cb Tv Yv b p c M k lost W most cnt L k' l' s9 wr)) (fun s9 _=>cnt.toNat - lnOf s9)
      case atStart=>exact ⟨[],k1,false,HS⟩
      case round =>
        clear HS
        obtain ⟨L,k',l',HR⟩:=hrel
        have hR:=(show RLs vlc 92 5 cb Tv Yv b p c M k lost W most cnt L k' l' u9 wr from HR)
        obtain ⟨ad,cap,rfl⟩:=own_shape hR.row
        clear HR
        have c2 : wr.cell? ⟨b,2,none⟩ = some (.bool l'):=cell_of hR.rd.blk rfl
        have hLm : (L.length : Int) ≤ 6000:=by have:=hR.mo;have:=(show most ≤ 6000 from HM);omega
        by_cases hgo : (L.length : Int) < cnt
        · cases l' with
          | true =>
            have HD : Hid (RL vlc 92 5 cb Tv Yv b p c M k lost W most (.returned (.slice ad L.length cap)) wr):=hR.done (by simp)
            clear hR HI0
            go_wp2_with fail
            go_ret
            exact HD
          | false =>
            have HC:=ec_value hR.rd
            have HST : Hid (RLs vlc 92 5 cb Tv Yv b p c M k lost W most cnt L k' false (.slice ad L.length cap) wr):=hR
            have hbz : b < W.heap.size:=hR.r0.lt
            have hwz:=hR.ks.size
            clear hR
            go_wp2_with fail
            refine HC.mono ?_
            rintro e w1 ⟨v1,k2,l2,rfl,y1,y2,y3,x,rfl,y4,y5,y6,y7⟩
            have hw1:=y3.size
            have hown:=Kx.row (W:=W) (Kx.of_kb (b:=b) (kb_alloc 0 w1 (.cells #[.int .i64 x.k,.int .i64 x.m,.float .f64 x.g,.string x.x,.int .i64 x.r] 92))) (Kx.row (W:=W) y3 (show RLs vlc 92 5 cb Tv Yv b p c M k lost W most cnt L k' false (.slice ad L.length cap) wr from HST).row hbz) hbz
            have hqc:=qr_cells w1 #[.int .i64 x.k,.int .i64 x.m,.float .f64 x.g,.string x.x,.int .i64 x.r] 92 [.int .i64 x.k,.int .i64 x.m,.float .f64 x.g,.string x.x,.int .i64 x.r] rfl
            have h1c : ∀ u ∈ ([.int .i64 x.k,.int .i64 x.m,.float .f64 x.g,.string x.x,.int .i64 x.r] : List Value),u.oneCell' = true:=by intro u hu;simp at hu;rcases hu with rfl | rfl | rfl | rfl | rfl <;> rfl
            have HSTP : Hid (∀ (v' : Value) (w3 : World),w3.ownsRow W.heap.size 92 5 v' (L.length + 1) (L.flatMap vlc ++ [.int .i64 x.k,.int .i64 x.m,.float .f64 x.g,.string x.x,.int .i64 x.r]) → (w1.alloc (.cells #[.int .i64 x.k,.int .i64 x.m,.float .f64 x.g,.string x.x,.int .i64 x.r] 92)).grownBy w3 (Value.slice ad L.length cap).ownBlock → RLs vlc 92 5 cb Tv Yv b p c M k lost W most cnt (L ++ [x]) k2 l2 v' w3):=(fun v' w3 h1 h2=>(show RLs vlc 92 5 cb Tv Yv b p c M k lost W most cnt L k' false (.slice ad L.length cap) wr from HST).step rfl hgo y1 y2 y3 y4 y5 y6 y7 h1 h2 : ∀ (v' : Value) (w3 : World),_)
            clear y1 y2 y3 y4 y5 y6 y7 HC HST c2
            unfold vv
            go_wp2_with (at_builtin;refine wpList_append_own _ rfl (.tmp 36) (.tmp 39) 46 rfl W.heap.size 92 i0 (.agg #[.int .i64 0,.int .i64 0,.float .f64 0,.string ⟨#[]⟩,.int .i64 0]) 5 48 Tryz.underlying46 HI0 hz0 hz1 hz2 rfl (by decide) _ _ _ rfl hown ⟨w1.heap.size,0,none⟩ 1 1 [.int .i64 x.k,.int .i64 x.m,.float .f64 x.g,.string x.x,.int .i64 x.r] rfl rfl hqc h1c (by unfold maxLen;omega) (by omega) (by simp;omega) ?_;intro v' w3 hown3 hgr3 _;have HN : Hid (RLs vlc 92 5 cb Tv Yv b p c M k lost W most cnt (L ++ [x]) k2 l2 v' w3):=(show ∀ (v' : Value) (w3 : World),_ from HSTP) _ _ hown3 hgr3;obtain ⟨g',cap',rfl,_,_⟩:=hown3.form (by omega);clear hown3 hgr3 hown hqc h1c HSTP)
            go_roundw
            case rel=>exact ⟨L ++ [x],k2,l2,HN⟩
            case measure=>simp [lnOf];omega
        · have HD : Hid (RL vlc 92 5 cb Tv Yv b p c M k lost W most (.returned (.slice ad L.length cap)) wr):=hR.done (fun e=>hgo e.1)
          clear hR HI0
          go_wp2_with fail
          go_ret
          exact HD
theorem rl_value {b : Nat} {p : Option Addr} {c : Nat} {M : List UInt8} {k : Nat} {lost : Bool} {W : World} (h : RI b p c M k lost W) (most : Nat) (hm : most ≤ 6000) :
    Calls Tryz.prog 81 #[.pointer (some ⟨b,0,none⟩),.int .i64 (most : Int),.func (Fn.func 82) #[.pointer (some ⟨b,0,none⟩)] #[]] W (RL vlc 92 5 cb Tv Yv b p c M k lost W most):=by
  have HB:=im_rnum h
  have HA : Hid (∀ (w1 : World) (k1 : Nat) (l1 : Bool) (cnt : Int),RI b p c M k1 l1 w1 → k ≤ k1 → Kz b W w1 → (l1 = false → k < k1) → (lost = true → l1 = true) → (∀ y rest,lost = false → Rn y → M.drop k = nb y ++ rest → cnt = y ∧ k1 = k + (nb y).length ∧ l1 = false) → Calls Tryz.prog 126 #[.pointer (some ⟨b,0,none⟩),.int .i64 cnt,.int .i64 (most : Int),.func (Fn.func 82) #[.pointer (some ⟨b,0,none⟩)] #[]] w1 (RL vlc 92 5 cb Tv Yv b p c M k lost W most)):=(fun w1 k1 l1 cnt z1 z2 z3 z5 z6 z7=>ra_value (RLs.begin h z1 z2 z3 z5 z6 z7 (by omega)) (cell_of z1.blk rfl) (frozen_of z1.blk) hm : ∀ (w1 : World) (k1 : Nat) (l1 : Bool) (cnt : Int),_)
  clear h hm
  go_enter Tryz.func81,Tryz.ntmps81
  go_wp2_with fail
  refine HB.mono ?_
  rintro e w1 ⟨v1,k1,l1,rfl,z1,z2,z3,cnt,rfl,z4,z5,z6,z7⟩
  have HA1:=(show ∀ (w1 : World) (k1 : Nat) (l1 : Bool) (cnt : Int),_ from HA) w1 k1 l1 cnt z1 z2 z3 z5 z6 z7
  clear HA HB z1 z2 z3 z4 z5 z6 z7
  go_wp2_with fail
  refine HA1.mono ?_
  rintro e w2 ⟨v,k',l',L,rfl,hq⟩
  have HD : Hid (RL vlc 92 5 cb Tv Yv b p c M k lost W most (.returned v) w2):=(⟨v,k',l',L,rfl,hq⟩ : RL vlc 92 5 cb Tv Yv b p c M k lost W most (.returned v) w2)
  obtain ⟨ad,cap,rfl⟩:=own_shape hq.2.2.2.1
  clear hq HA1
  go_wp2_with fail
  go_ret
  exact HD
theorem infoins : (Tryz.prog.info? 81).map (fun i=>(i.zero,i.size,i.bytes)) = some (some (.agg #[.int .i64 0,.int .i64 0,.int .i64 0,.int .i64 0,.int .i64 0]),5,40):=by kernel_rfl
theorem ra_ins {b : Nat} {p : Option Addr} {c : Nat} {M : List UInt8} {k : Nat} {lost : Bool} {W w1 : World} {cnt : Int} {k1 : Nat} {l1 : Bool} {most : Nat} (hs : RLs inc 81 5 ib Ri Ri b p c M k lost W most cnt [] k1 (l1 || decide ((most : Int) < cnt)) (.slice none 0 0) (w1.setCell ⟨b, 2, none⟩ (.bool (l1 || decide ((most : Int) < cnt))))) (c2 : w1.cell? ⟨b, 2, none⟩ = some (.bool l1)) (f2 : w1.frozen? ⟨b, 2, none⟩ = false) (hm : most ≤ 6000) :
    Calls Tryz.prog 128 #[.pointer (some ⟨b,0,none⟩),.int .i64 cnt,.int .i64 (most : Int),.func (Fn.func 84) #[.pointer (some ⟨b,0,none⟩)] #[]] w1 (RL inc 81 5 ib Ri Ri b p c M k lost W most):=by
  have hst : ∀ (a : Addr) (n : Nat) (m : Mode) (w : World),(store a (.float .f64 n) m).run Tryz.prog w = stored Tryz.prog w a (.float .f64 n) m:=fun a n m w=>run_store _ _ _ _ _ rfl
  obtain ⟨i0,hi0,hz0,hz1,hz2⟩:=info_parts infoins
  have HI0 : Hid (Tryz.prog.info? 81 = some i0):=hi0
  have HS : Hid (RLs inc 81 5 ib Ri Ri b p c M k lost W most cnt [] k1 (l1 || decide ((most : Int) < cnt)) (.slice none 0 0) (w1.setCell ⟨b,2,none⟩ (.bool (l1 || decide ((most : Int) < cnt))))):=hs
  have HM : Hid (most ≤ 6000):=hm
  clear hs hm hi0
  by_cases hl1 : l1 = true
  · subst hl1
    rw [Bool.true_or] at HS
    go_enter Tryz.func128,Tryz.ntmps128
    go_upto_region 3 with fail
    clear c2 f2
    obtain ⟨w2,hw2⟩ : ∃ w2,w2 = w1.setCell ⟨b,2,none⟩ (.bool true):=⟨_,rfl⟩
    rw [← hw2] at HS ⊢
    clear hw2
    go_loopw [9] (fun s9 wr=>∃ (L : List Iv) (k' : Nat) (l' : Bool),Hid (RLs inc 81 5 ib Ri Ri b p c M k lost W most cnt L k' l' s9 wr)) (fun s9 _=>cnt.toNat - lnOf s9)
    case atStart=>exact ⟨[],k1,true,HS⟩
    case round =>
      clear HS
      obtain ⟨L,k',l',HR⟩:=hrel
      have hR:=(show RLs inc 81 5 ib Ri Ri b p c M k lost W most cnt L k' l' u9 wr from HR)
      obtain ⟨ad,cap,rfl⟩:=own_shape hR.row
      clear HR
      have c2 : wr.cell? ⟨b,2,none⟩ = some (.bool l'):=cell_of hR.rd.blk rfl
      have hLm : (L.length : Int) ≤ 6000:=by have:=hR.mo;have:=(show most ≤ 6000 from HM);omega
      by_cases hgo : (L.length : Int) < cnt
      · cases l' with
        | true =>
          have HD : Hid (RL inc 81 5 ib Ri Ri b p c M k lost W most (.returned (.slice ad L.length cap)) wr):=hR.done (by simp)
          clear hR HI0
          go_wp2_with fail
          go_ret
          exact HD
        | false =>
          have HC:=ec_ins hR.rd
          have HST : Hid (RLs inc 81 5 ib Ri Ri b p c M k lost W most cnt L k' false (.slice ad L.length cap) wr):=hR
          have hbz : b < W.heap.size:=hR.r0.lt
          have hwz:=hR.ks.size
          clear hR
          go_wp2_with fail
          refine HC.mono ?_
          rintro e w1 ⟨v1,k2,l2,rfl,y1,y2,y3,x,rfl,y4,y5,y6,y7⟩
          have hw1:=y3.size
          have hown:=Kx.row (W:=W) (Kx.of_kb (b:=b) (kb_alloc 0 w1 (.cells #[.int .i64 x.o,.int .i64 x.a,.int .i64 x.b,.int .i64 x.c,.int .i64 x.d] 81))) (Kx.row (W:=W) y3 (show RLs inc 81 5 ib Ri Ri b p c M k lost W most cnt L k' false (.slice ad L.length cap) wr from HST).row hbz) hbz
          have hqc:=qr_cells w1 #[.int .i64 x.o,.int .i64 x.a,.int .i64 x.b,.int .i64 x.c,.int .i64 x.d] 81 [.int .i64 x.o,.int .i64 x.a,.int .i64 x.b,.int .i64 x.c,.int .i64 x.d] rfl
          have h1c : ∀ u ∈ ([.int .i64 x.o,.int .i64 x.a,.int .i64 x.b,.int .i64 x.c,.int .i64 x.d] : List Value),u.oneCell' = true:=by intro u hu;simp at hu;rcases hu with rfl | rfl | rfl | rfl | rfl <;> rfl
          have HSTP : Hid (∀ (v' : Value) (w3 : World),w3.ownsRow W.heap.size 81 5 v' (L.length + 1) (L.flatMap inc ++ [.int .i64 x.o,.int .i64 x.a,.int .i64 x.b,.int .i64 x.c,.int .i64 x.d]) → (w1.alloc (.cells #[.int .i64 x.o,.int .i64 x.a,.int .i64 x.b,.int .i64 x.c,.int .i64 x.d] 81)).grownBy w3 (Value.slice ad L.length cap).ownBlock → RLs inc 81 5 ib Ri Ri b p c M k lost W most cnt (L ++ [x]) k2 l2 v' w3):=(fun v' w3 h1 h2=>(show RLs inc 81 5 ib Ri Ri b p c M k lost W most cnt L k' false (.slice ad L.length cap) wr from HST).step rfl hgo y1 y2 y3 y4 y5 y6 y7 h1 h2 : ∀ (v' : Value) (w3 : World),_)
          clear y1 y2 y3 y4 y5 y6 y7 HC HST c2
          unfold insv
          go_wp2_with (at_builtin;refine wpList_append_own _ rfl (.tmp 36) (.tmp 39) 47 rfl W.heap.size 81 i0 (.agg #[.int .i64 0,.int .i64 0,.int .i64 0,.int .i64 0,.int .i64 0]) 5 40 Tryz.underlying47 HI0 hz0 hz1 hz2 rfl (by decide) _ _ _ rfl hown ⟨w1.heap.size,0,none⟩ 1 1 [.int .i64 x.o,.int .i64 x.a,.int .i64 x.b,.int .i64 x.c,.int .i64 x.d] rfl rfl hqc h1c (by unfold maxLen;omega) (by omega) (by simp;omega) ?_;intro v' w3 hown3 hgr3 _;have HN : Hid (RLs inc 81 5 ib Ri Ri b p c M k lost W most cnt (L ++ [x]) k2 l2 v' w3):=(show ∀ (v' : Value) (w3 : World),_ from HSTP) _ _ hown3 hgr3;obtain ⟨g',cap',rfl,_,_⟩:=hown3.form (by omega);clear hown3 hgr3 hown hqc h1c HSTP)
          go_roundw
          case rel=>exact ⟨L ++ [x],k2,l2,HN⟩
          case measure=>simp [lnOf];omega
      · have HD : Hid (RL inc 81 5 ib Ri Ri b p c M k lost W most (.returned (.slice ad L.length cap)) wr):=hR.done (fun e=>hgo e.1)
        clear hR HI0
        go_wp2_with fail
        go_ret
        exact HD
  · obtain rfl : l1 = false:=by cases l1 <;> simp_all
    rw [Bool.false_or] at HS
    by_cases hcm : (most : Int) < cnt
    · rw [decide_eq_true hcm] at HS
      go_enter Tryz.func128,Tryz.ntmps128
      go_upto_region 3 with fail
      clear c2 f2 hcm
      obtain ⟨w2,hw2⟩ : ∃ w2,w2 = w1.setCell ⟨b,2,none⟩ (.bool true):=⟨_,rfl⟩
      rw [← hw2] at HS ⊢
      clear hw2
      go_loopw [9] (fun s9 wr=>∃ (L : List Iv) (k' : Nat) (l' : Bool),Hid (RLs inc 81 5 ib Ri Ri b p c M k lost W most cnt L k' l' s9 wr)) (fun s9 _=>cnt.toNat - lnOf s9)
      case atStart=>exact ⟨[],k1,true,HS⟩
      case round =>
        clear HS
        obtain ⟨L,k',l',HR⟩:=hrel
        have hR:=(show RLs inc 81 5 ib Ri Ri b p c M k lost W most cnt L k' l' u9 wr from HR)
        obtain ⟨ad,cap,rfl⟩:=own_shape hR.row
        clear HR
        have c2 : wr.cell? ⟨b,2,none⟩ = some (.bool l'):=cell_of hR.rd.blk rfl
        have hLm : (L.length : Int) ≤ 6000:=by have:=hR.mo;have:=(show most ≤ 6000 from HM);omega
        by_cases hgo : (L.length : Int) < cnt
        · cases l' with
          | true =>
            have HD : Hid (RL inc 81 5 ib Ri Ri b p c M k lost W most (.returned (.slice ad L.length cap)) wr):=hR.done (by simp)
            clear hR HI0
            go_wp2_with fail
            go_ret
            exact HD
          | false =>
            have HC:=ec_ins hR.rd
            have HST : Hid (RLs inc 81 5 ib Ri Ri b p c M k lost W most cnt L k' false (.slice ad L.length cap) wr):=hR
            have hbz : b < W.heap.size:=hR.r0.lt
            have hwz:=hR.ks.size
            clear hR
            go_wp2_with fail
            refine HC.mono ?_
            rintro e w1 ⟨v1,k2,l2,rfl,y1,y2,y3,x,rfl,y4,y5,y6,y7⟩
            have hw1:=y3.size
            have hown:=Kx.row (W:=W) (Kx.of_kb (b:=b) (kb_alloc 0 w1 (.cells #[.int .i64 x.o,.int .i64 x.a,.int .i64 x.b,.int .i64 x.c,.int .i64 x.d] 81))) (Kx.row (W:=W) y3 (show RLs inc 81 5 ib Ri Ri b p c M k lost W most cnt L k' false (.slice ad L.length cap) wr from HST).row hbz) hbz
            have hqc:=qr_cells w1 #[.int .i64 x.o,.int .i64 x.a,.int .i64 x.b,.int .i64 x.c,.int .i64 x.d] 81 [.int .i64 x.o,.int .i64 x.a,.int .i64 x.b,.int .i64 x.c,.int .i64 x.d] rfl
            have h1c : ∀ u ∈ ([.int .i64 x.o,.int .i64 x.a,.int .i64 x.b,.int .i64 x.c,.int .i64 x.d] : List Value),u.oneCell' = true:=by intro u hu;simp at hu;rcases hu with rfl | rfl | rfl | rfl | rfl <;> rfl
            have HSTP : Hid (∀ (v' : Value) (w3 : World),w3.ownsRow W.heap.size 81 5 v' (L.length + 1) (L.flatMap inc ++ [.int .i64 x.o,.int .i64 x.a,.int .i64 x.b,.int .i64 x.c,.int .i64 x.d]) → (w1.alloc (.cells #[.int .i64 x.o,.int .i64 x.a,.int .i64 x.b,.int .i64 x.c,.int .i64 x.d] 81)).grownBy w3 (Value.slice ad L.length cap).ownBlock → RLs inc 81 5 ib Ri Ri b p c M k lost W most cnt (L ++ [x]) k2 l2 v' w3):=(fun v' w3 h1 h2=>(show RLs inc 81 5 ib Ri Ri b p c M k lost W most cnt L k' false (.slice ad L.length cap) wr from HST).step rfl hgo y1 y2 y3 y4 y5 y6 y7 h1 h2 : ∀ (v' : Value) (w3 : World),_)
            clear y1 y2 y3 y4 y5 y6 y7 HC HST c2
            unfold insv
            go_wp2_with (at_builtin;refine wpList_append_own _ rfl (.tmp 36) (.tmp 39) 47 rfl W.heap.size 81 i0 (.agg #[.int .i64 0,.int .i64 0,.int .i64 0,.int .i64 0,.int .i64 0]) 5 40 Tryz.underlying47 HI0 hz0 hz1 hz2 rfl (by decide) _ _ _ rfl hown ⟨w1.heap.size,0,none⟩ 1 1 [.int .i64 x.o,.int .i64 x.a,.int .i64 x.b,.int .i64 x.c,.int .i64 x.d] rfl rfl hqc h1c (by unfold maxLen;omega) (by omega) (by simp;omega) ?_;intro v' w3 hown3 hgr3 _;have HN : Hid (RLs inc 81 5 ib Ri Ri b p c M k lost W most cnt (L ++ [x]) k2 l2 v' w3):=(show ∀ (v' : Value) (w3 : World),_ from HSTP) _ _ hown3 hgr3;obtain ⟨g',cap',rfl,_,_⟩:=hown3.form (by omega);clear hown3 hgr3 hown hqc h1c HSTP)
            go_roundw
            case rel=>exact ⟨L ++ [x],k2,l2,HN⟩
            case measure=>simp [lnOf];omega
        · have HD : Hid (RL inc 81 5 ib Ri Ri b p c M k lost W most (.returned (.slice ad L.length cap)) wr):=hR.done (fun e=>hgo e.1)
          clear hR HI0
          go_wp2_with fail
          go_ret
          exact HD
    · rw [decide_eq_false hcm] at HS
      go_enter Tryz.func128,Tryz.ntmps128
      go_upto_region 3 with fail
      clear c2 f2
      obtain ⟨w2,hw2⟩ : ∃ w2,w2 = w1.setCell ⟨b,2,none⟩ (.bool false):=⟨_,rfl⟩
      rw [← hw2] at HS ⊢
      clear hw2
      go_loopw [9] (fun s9 wr=>∃ (L : List Iv) (k' : Nat) (l' : Bool),Hid (RLs inc 81 5 ib Ri Ri b p c M k lost W most cnt L k' l' s9 wr)) (fun s9 _=>cnt.toNat - lnOf s9)
      case atStart=>exact ⟨[],k1,false,HS⟩
      case round =>
        clear HS
        obtain ⟨L,k',l',HR⟩:=hrel
        have hR:=(show RLs inc 81 5 ib Ri Ri b p c M k lost W most cnt L k' l' u9 wr from HR)
        obtain ⟨ad,cap,rfl⟩:=own_shape hR.row
        clear HR
        have c2 : wr.cell? ⟨b,2,none⟩ = some (.bool l'):=cell_of hR.rd.blk rfl
        have hLm : (L.length : Int) ≤ 6000:=by have:=hR.mo;have:=(show most ≤ 6000 from HM);omega
        by_cases hgo : (L.length : Int) < cnt
        · cases l' with
          | true =>
            have HD : Hid (RL inc 81 5 ib Ri Ri b p c M k lost W most (.returned (.slice ad L.length cap)) wr):=hR.done (by simp)
            clear hR HI0
            go_wp2_with fail
            go_ret
            exact HD
          | false =>
            have HC:=ec_ins hR.rd
            have HST : Hid (RLs inc 81 5 ib Ri Ri b p c M k lost W most cnt L k' false (.slice ad L.length cap) wr):=hR
            have hbz : b < W.heap.size:=hR.r0.lt
            have hwz:=hR.ks.size
            clear hR
            go_wp2_with fail
            refine HC.mono ?_
            rintro e w1 ⟨v1,k2,l2,rfl,y1,y2,y3,x,rfl,y4,y5,y6,y7⟩
            have hw1:=y3.size
            have hown:=Kx.row (W:=W) (Kx.of_kb (b:=b) (kb_alloc 0 w1 (.cells #[.int .i64 x.o,.int .i64 x.a,.int .i64 x.b,.int .i64 x.c,.int .i64 x.d] 81))) (Kx.row (W:=W) y3 (show RLs inc 81 5 ib Ri Ri b p c M k lost W most cnt L k' false (.slice ad L.length cap) wr from HST).row hbz) hbz
            have hqc:=qr_cells w1 #[.int .i64 x.o,.int .i64 x.a,.int .i64 x.b,.int .i64 x.c,.int .i64 x.d] 81 [.int .i64 x.o,.int .i64 x.a,.int .i64 x.b,.int .i64 x.c,.int .i64 x.d] rfl
            have h1c : ∀ u ∈ ([.int .i64 x.o,.int .i64 x.a,.int .i64 x.b,.int .i64 x.c,.int .i64 x.d] : List Value),u.oneCell' = true:=by intro u hu;simp at hu;rcases hu with rfl | rfl | rfl | rfl | rfl <;> rfl
            have HSTP : Hid (∀ (v' : Value) (w3 : World),w3.ownsRow W.heap.size 81 5 v' (L.length + 1) (L.flatMap inc ++ [.int .i64 x.o,.int .i64 x.a,.int .i64 x.b,.int .i64 x.c,.int .i64 x.d]) → (w1.alloc (.cells #[.int .i64 x.o,.int .i64 x.a,.int .i64 x.b,.int .i64 x.c,.int .i64 x.d] 81)).grownBy w3 (Value.slice ad L.length cap).ownBlock → RLs inc 81 5 ib Ri Ri b p c M k lost W most cnt (L ++ [x]) k2 l2 v' w3):=(fun v' w3 h1 h2=>(show RLs inc 81 5 ib Ri Ri b p c M k lost W most cnt L k' false (.slice ad L.length cap) wr from HST).step rfl hgo y1 y2 y3 y4 y5 y6 y7 h1 h2 : ∀ (v' : Value) (w3 : World),_)
            clear y1 y2 y3 y4 y5 y6 y7 HC HST c2
            unfold insv
            go_wp2_with (at_builtin;refine wpList_append_own _ rfl (.tmp 36) (.tmp 39) 47 rfl W.heap.size 81 i0 (.agg #[.int .i64 0,.int .i64 0,.int .i64 0,.int .i64 0,.int .i64 0]) 5 40 Tryz.underlying47 HI0 hz0 hz1 hz2 rfl (by decide) _ _ _ rfl hown ⟨w1.heap.size,0,none⟩ 1 1 [.int .i64 x.o,.int .i64 x.a,.int .i64 x.b,.int .i64 x.c,.int .i64 x.d] rfl rfl hqc h1c (by unfold maxLen;omega) (by omega) (by simp;omega) ?_;intro v' w3 hown3 hgr3 _;have HN : Hid (RLs inc 81 5 ib Ri Ri b p c M k lost W most cnt (L ++ [x]) k2 l2 v' w3):=(show ∀ (v' : Value) (w3 : World),_ from HSTP) _ _ hown3 hgr3;obtain ⟨g',cap',rfl,_,_⟩:=hown3.form (by omega);clear hown3 hgr3 hown hqc h1c HSTP)
            go_roundw
            case rel=>exact ⟨L ++ [x],k2,l2,HN⟩
            case measure=>simp [lnOf];omega
        · have HD : Hid (RL inc 81 5 ib Ri Ri b p c M k lost W most (.returned (.slice ad L.length cap)) wr):=hR.done (fun e=>hgo e.1)
          clear hR HI0
          go_wp2_with fail
          go_ret
          exact HD
theorem rl_ins {b : Nat} {p : Option Addr} {c : Nat} {M : List UInt8} {k : Nat} {lost : Bool} {W : World} (h : RI b p c M k lost W) (most : Nat) (hm : most ≤ 6000) :
    Calls Tryz.prog 83 #[.pointer (some ⟨b,0,none⟩),.int .i64 (most : Int),.func (Fn.func 84) #[.pointer (some ⟨b,0,none⟩)] #[]] W (RL inc 81 5 ib Ri Ri b p c M k lost W most):=by
  have HB:=im_rnum h
  have HA : Hid (∀ (w1 : World) (k1 : Nat) (l1 : Bool) (cnt : Int),RI b p c M k1 l1 w1 → k ≤ k1 → Kz b W w1 → (l1 = false → k < k1) → (lost = true → l1 = true) → (∀ y rest,lost = false → Rn y → M.drop k = nb y ++ rest → cnt = y ∧ k1 = k + (nb y).length ∧ l1 = false) → Calls Tryz.prog 128 #[.pointer (some ⟨b,0,none⟩),.int .i64 cnt,.int .i64 (most : Int),.func (Fn.func 84) #[.pointer (some ⟨b,0,none⟩)] #[]] w1 (RL inc 81 5 ib Ri Ri b p c M k lost W most)):=(fun w1 k1 l1 cnt z1 z2 z3 z5 z6 z7=>ra_ins (RLs.begin h z1 z2 z3 z5 z6 z7 (by omega)) (cell_of z1.blk rfl) (frozen_of z1.blk) hm : ∀ (w1 : World) (k1 : Nat) (l1 : Bool) (cnt : Int),_)
  clear h hm
  go_enter Tryz.func83,Tryz.ntmps83
  go_wp2_with fail
  refine HB.mono ?_
  rintro e w1 ⟨v1,k1,l1,rfl,z1,z2,z3,cnt,rfl,z4,z5,z6,z7⟩
  have HA1:=(show ∀ (w1 : World) (k1 : Nat) (l1 : Bool) (cnt : Int),_ from HA) w1 k1 l1 cnt z1 z2 z3 z5 z6 z7
  clear HA HB z1 z2 z3 z4 z5 z6 z7
  go_wp2_with fail
  refine HA1.mono ?_
  rintro e w2 ⟨v,k',l',L,rfl,hq⟩
  have HD : Hid (RL inc 81 5 ib Ri Ri b p c M k lost W most (.returned v) w2):=(⟨v,k',l',L,rfl,hq⟩ : RL inc 81 5 ib Ri Ri b p c M k lost W most (.returned v) w2)
  obtain ⟨ad,cap,rfl⟩:=own_shape hq.2.2.2.1
  clear hq HA1
  go_wp2_with fail
  go_ret
  exact HD
theorem infonamed : (Tryz.prog.info? 97).map (fun i=>(i.zero,i.size,i.bytes)) = some (some (.agg #[.string ⟨#[]⟩,.int .i64 0,.int .i64 0,.int .i64 0]),4,40):=by kernel_rfl
theorem ra_named {b : Nat} {p : Option Addr} {c : Nat} {M : List UInt8} {k : Nat} {lost : Bool} {W w1 : World} {cnt : Int} {k1 : Nat} {l1 : Bool} {most : Nat} (hs : RLs nmc 97 4 mb Rm Rm b p c M k lost W most cnt [] k1 (l1 || decide ((most : Int) < cnt)) (.slice none 0 0) (w1.setCell ⟨b, 2, none⟩ (.bool (l1 || decide ((most : Int) < cnt))))) (c2 : w1.cell? ⟨b, 2, none⟩ = some (.bool l1)) (f2 : w1.frozen? ⟨b, 2, none⟩ = false) (hm : most ≤ 6000) :
    Calls Tryz.prog 129 #[.pointer (some ⟨b,0,none⟩),.int .i64 cnt,.int .i64 (most : Int),.func (Fn.func 86) #[.pointer (some ⟨b,0,none⟩)] #[]] w1 (RL nmc 97 4 mb Rm Rm b p c M k lost W most):=by
  have hst : ∀ (a : Addr) (n : Nat) (m : Mode) (w : World),(store a (.float .f64 n) m).run Tryz.prog w = stored Tryz.prog w a (.float .f64 n) m:=fun a n m w=>run_store _ _ _ _ _ rfl
  obtain ⟨i0,hi0,hz0,hz1,hz2⟩:=info_parts infonamed
  have HI0 : Hid (Tryz.prog.info? 97 = some i0):=hi0
  have HS : Hid (RLs nmc 97 4 mb Rm Rm b p c M k lost W most cnt [] k1 (l1 || decide ((most : Int) < cnt)) (.slice none 0 0) (w1.setCell ⟨b,2,none⟩ (.bool (l1 || decide ((most : Int) < cnt))))):=hs
  have HM : Hid (most ≤ 6000):=hm
  clear hs hm hi0
  by_cases hl1 : l1 = true
  · subst hl1
    rw [Bool.true_or] at HS
    go_enter Tryz.func129,Tryz.ntmps129
    go_upto_region 3 with fail
    clear c2 f2
    obtain ⟨w2,hw2⟩ : ∃ w2,w2 = w1.setCell ⟨b,2,none⟩ (.bool true):=⟨_,rfl⟩
    rw [← hw2] at HS ⊢
    clear hw2
    go_loopw [9] (fun s9 wr=>∃ (L : List Mv) (k' : Nat) (l' : Bool),Hid (RLs nmc 97 4 mb Rm Rm b p c M k lost W most cnt L k' l' s9 wr)) (fun s9 _=>cnt.toNat - lnOf s9)
    case atStart=>exact ⟨[],k1,true,HS⟩
    case round =>
      clear HS
      obtain ⟨L,k',l',HR⟩:=hrel
      have hR:=(show RLs nmc 97 4 mb Rm Rm b p c M k lost W most cnt L k' l' u9 wr from HR)
      obtain ⟨ad,cap,rfl⟩:=own_shape hR.row
      clear HR
      have c2 : wr.cell? ⟨b,2,none⟩ = some (.bool l'):=cell_of hR.rd.blk rfl
      have hLm : (L.length : Int) ≤ 6000:=by have:=hR.mo;have:=(show most ≤ 6000 from HM);omega
      by_cases hgo : (L.length : Int) < cnt
      · cases l' with
        | true =>
          have HD : Hid (RL nmc 97 4 mb Rm Rm b p c M k lost W most (.returned (.slice ad L.length cap)) wr):=hR.done (by simp)
          clear hR HI0
          go_wp2_with fail
          go_ret
          exact HD
        | false =>
          have HC:=ec_named hR.rd
          have HST : Hid (RLs nmc 97 4 mb Rm Rm b p c M k lost W most cnt L k' false (.slice ad L.length cap) wr):=hR
          have hbz : b < W.heap.size:=hR.r0.lt
          have hwz:=hR.ks.size
          clear hR
          go_wp2_with fail
          refine HC.mono ?_
          rintro e w1 ⟨v1,k2,l2,rfl,y1,y2,y3,x,rfl,y4,y5,y6,y7⟩
          have hw1:=y3.size
          have hown:=Kx.row (W:=W) (Kx.of_kb (b:=b) (kb_alloc 0 w1 (.cells #[.string x.x,.int .i64 x.g,.int .i64 x.f,.int .i64 x.t] 97))) (Kx.row (W:=W) y3 (show RLs nmc 97 4 mb Rm Rm b p c M k lost W most cnt L k' false (.slice ad L.length cap) wr from HST).row hbz) hbz
          have hqc:=qr_cells w1 #[.string x.x,.int .i64 x.g,.int .i64 x.f,.int .i64 x.t] 97 [.string x.x,.int .i64 x.g,.int .i64 x.f,.int .i64 x.t] rfl
          have h1c : ∀ u ∈ ([.string x.x,.int .i64 x.g,.int .i64 x.f,.int .i64 x.t] : List Value),u.oneCell' = true:=by intro u hu;simp at hu;rcases hu with rfl | rfl | rfl | rfl <;> rfl
          have HSTP : Hid (∀ (v' : Value) (w3 : World),w3.ownsRow W.heap.size 97 4 v' (L.length + 1) (L.flatMap nmc ++ [.string x.x,.int .i64 x.g,.int .i64 x.f,.int .i64 x.t]) → (w1.alloc (.cells #[.string x.x,.int .i64 x.g,.int .i64 x.f,.int .i64 x.t] 97)).grownBy w3 (Value.slice ad L.length cap).ownBlock → RLs nmc 97 4 mb Rm Rm b p c M k lost W most cnt (L ++ [x]) k2 l2 v' w3):=(fun v' w3 h1 h2=>(show RLs nmc 97 4 mb Rm Rm b p c M k lost W most cnt L k' false (.slice ad L.length cap) wr from HST).step rfl hgo y1 y2 y3 y4 y5 y6 y7 h1 h2 : ∀ (v' : Value) (w3 : World),_)
          clear y1 y2 y3 y4 y5 y6 y7 HC HST c2
          unfold namv
          go_wp2_with (at_builtin;refine wpList_append_own _ rfl (.tmp 36) (.tmp 39) 48 rfl W.heap.size 97 i0 (.agg #[.string ⟨#[]⟩,.int .i64 0,.int .i64 0,.int .i64 0]) 4 40 Tryz.underlying48 HI0 hz0 hz1 hz2 rfl (by decide) _ _ _ rfl hown ⟨w1.heap.size,0,none⟩ 1 1 [.string x.x,.int .i64 x.g,.int .i64 x.f,.int .i64 x.t] rfl rfl hqc h1c (by unfold maxLen;omega) (by omega) (by simp;omega) ?_;intro v' w3 hown3 hgr3 _;have HN : Hid (RLs nmc 97 4 mb Rm Rm b p c M k lost W most cnt (L ++ [x]) k2 l2 v' w3):=(show ∀ (v' : Value) (w3 : World),_ from HSTP) _ _ hown3 hgr3;obtain ⟨g',cap',rfl,_,_⟩:=hown3.form (by omega);clear hown3 hgr3 hown hqc h1c HSTP)
          go_roundw
          case rel=>exact ⟨L ++ [x],k2,l2,HN⟩
          case measure=>simp [lnOf];omega
      · have HD : Hid (RL nmc 97 4 mb Rm Rm b p c M k lost W most (.returned (.slice ad L.length cap)) wr):=hR.done (fun e=>hgo e.1)
        clear hR HI0
        go_wp2_with fail
        go_ret
        exact HD
  · obtain rfl : l1 = false:=by cases l1 <;> simp_all
    rw [Bool.false_or] at HS
    by_cases hcm : (most : Int) < cnt
    · rw [decide_eq_true hcm] at HS
      go_enter Tryz.func129,Tryz.ntmps129
      go_upto_region 3 with fail
      clear c2 f2 hcm
      obtain ⟨w2,hw2⟩ : ∃ w2,w2 = w1.setCell ⟨b,2,none⟩ (.bool true):=⟨_,rfl⟩
      rw [← hw2] at HS ⊢
      clear hw2
      go_loopw [9] (fun s9 wr=>∃ (L : List Mv) (k' : Nat) (l' : Bool),Hid (RLs nmc 97 4 mb Rm Rm b p c M k lost W most cnt L k' l' s9 wr)) (fun s9 _=>cnt.toNat - lnOf s9)
      case atStart=>exact ⟨[],k1,true,HS⟩
      case round =>
        clear HS
        obtain ⟨L,k',l',HR⟩:=hrel
        have hR:=(show RLs nmc 97 4 mb Rm Rm b p c M k lost W most cnt L k' l' u9 wr from HR)
        obtain ⟨ad,cap,rfl⟩:=own_shape hR.row
        clear HR
        have c2 : wr.cell? ⟨b,2,none⟩ = some (.bool l'):=cell_of hR.rd.blk rfl
        have hLm : (L.length : Int) ≤ 6000:=by have:=hR.mo;have:=(show most ≤ 6000 from HM);omega
        by_cases hgo : (L.length : Int) < cnt
        · cases l' with
          | true =>
            have HD : Hid (RL nmc 97 4 mb Rm Rm b p c M k lost W most (.returned (.slice ad L.length cap)) wr):=hR.done (by simp)
            clear hR HI0
            go_wp2_with fail
            go_ret
            exact HD
          | false =>
            have HC:=ec_named hR.rd
            have HST : Hid (RLs nmc 97 4 mb Rm Rm b p c M k lost W most cnt L k' false (.slice ad L.length cap) wr):=hR
            have hbz : b < W.heap.size:=hR.r0.lt
            have hwz:=hR.ks.size
            clear hR
            go_wp2_with fail
            refine HC.mono ?_
            rintro e w1 ⟨v1,k2,l2,rfl,y1,y2,y3,x,rfl,y4,y5,y6,y7⟩
            have hw1:=y3.size
            have hown:=Kx.row (W:=W) (Kx.of_kb (b:=b) (kb_alloc 0 w1 (.cells #[.string x.x,.int .i64 x.g,.int .i64 x.f,.int .i64 x.t] 97))) (Kx.row (W:=W) y3 (show RLs nmc 97 4 mb Rm Rm b p c M k lost W most cnt L k' false (.slice ad L.length cap) wr from HST).row hbz) hbz
            have hqc:=qr_cells w1 #[.string x.x,.int .i64 x.g,.int .i64 x.f,.int .i64 x.t] 97 [.string x.x,.int .i64 x.g,.int .i64 x.f,.int .i64 x.t] rfl
            have h1c : ∀ u ∈ ([.string x.x,.int .i64 x.g,.int .i64 x.f,.int .i64 x.t] : List Value),u.oneCell' = true:=by intro u hu;simp at hu;rcases hu with rfl | rfl | rfl | rfl <;> rfl
            have HSTP : Hid (∀ (v' : Value) (w3 : World),w3.ownsRow W.heap.size 97 4 v' (L.length + 1) (L.flatMap nmc ++ [.string x.x,.int .i64 x.g,.int .i64 x.f,.int .i64 x.t]) → (w1.alloc (.cells #[.string x.x,.int .i64 x.g,.int .i64 x.f,.int .i64 x.t] 97)).grownBy w3 (Value.slice ad L.length cap).ownBlock → RLs nmc 97 4 mb Rm Rm b p c M k lost W most cnt (L ++ [x]) k2 l2 v' w3):=(fun v' w3 h1 h2=>(show RLs nmc 97 4 mb Rm Rm b p c M k lost W most cnt L k' false (.slice ad L.length cap) wr from HST).step rfl hgo y1 y2 y3 y4 y5 y6 y7 h1 h2 : ∀ (v' : Value) (w3 : World),_)
            clear y1 y2 y3 y4 y5 y6 y7 HC HST c2
            unfold namv
            go_wp2_with (at_builtin;refine wpList_append_own _ rfl (.tmp 36) (.tmp 39) 48 rfl W.heap.size 97 i0 (.agg #[.string ⟨#[]⟩,.int .i64 0,.int .i64 0,.int .i64 0]) 4 40 Tryz.underlying48 HI0 hz0 hz1 hz2 rfl (by decide) _ _ _ rfl hown ⟨w1.heap.size,0,none⟩ 1 1 [.string x.x,.int .i64 x.g,.int .i64 x.f,.int .i64 x.t] rfl rfl hqc h1c (by unfold maxLen;omega) (by omega) (by simp;omega) ?_;intro v' w3 hown3 hgr3 _;have HN : Hid (RLs nmc 97 4 mb Rm Rm b p c M k lost W most cnt (L ++ [x]) k2 l2 v' w3):=(show ∀ (v' : Value) (w3 : World),_ from HSTP) _ _ hown3 hgr3;obtain ⟨g',cap',rfl,_,_⟩:=hown3.form (by omega);clear hown3 hgr3 hown hqc h1c HSTP)
            go_roundw
            case rel=>exact ⟨L ++ [x],k2,l2,HN⟩
            case measure=>simp [lnOf];omega
        · have HD : Hid (RL nmc 97 4 mb Rm Rm b p c M k lost W most (.returned (.slice ad L.length cap)) wr):=hR.done (fun e=>hgo e.1)
          clear hR HI0
          go_wp2_with fail
          go_ret
          exact HD
    · rw [decide_eq_false hcm] at HS
      go_enter Tryz.func129,Tryz.ntmps129
      go_upto_region 3 with fail
      clear c2 f2
      obtain ⟨w2,hw2⟩ : ∃ w2,w2 = w1.setCell ⟨b,2,none⟩ (.bool false):=⟨_,rfl⟩
      rw [← hw2] at HS ⊢
      clear hw2
      go_loopw [9] (fun s9 wr=>∃ (L : List Mv) (k' : Nat) (l' : Bool),Hid (RLs nmc 97 4 mb Rm Rm b p c M k lost W most cnt L k' l' s9 wr)) (fun s9 _=>cnt.toNat - lnOf s9)
      case atStart=>exact ⟨[],k1,false,HS⟩
      case round =>
        clear HS
        obtain ⟨L,k',l',HR⟩:=hrel
        have hR:=(show RLs nmc 97 4 mb Rm Rm b p c M k lost W most cnt L k' l' u9 wr from HR)
        obtain ⟨ad,cap,rfl⟩:=own_shape hR.row
        clear HR
        have c2 : wr.cell? ⟨b,2,none⟩ = some (.bool l'):=cell_of hR.rd.blk rfl
        have hLm : (L.length : Int) ≤ 6000:=by have:=hR.mo;have:=(show most ≤ 6000 from HM);omega
        by_cases hgo : (L.length : Int) < cnt
        · cases l' with
          | true =>
            have HD : Hid (RL nmc 97 4 mb Rm Rm b p c M k lost W most (.returned (.slice ad L.length cap)) wr):=hR.done (by simp)
            clear hR HI0
            go_wp2_with fail
            go_ret
            exact HD
          | false =>
            have HC:=ec_named hR.rd
            have HST : Hid (RLs nmc 97 4 mb Rm Rm b p c M k lost W most cnt L k' false (.slice ad L.length cap) wr):=hR
            have hbz : b < W.heap.size:=hR.r0.lt
            have hwz:=hR.ks.size
            clear hR
            go_wp2_with fail
            refine HC.mono ?_
            rintro e w1 ⟨v1,k2,l2,rfl,y1,y2,y3,x,rfl,y4,y5,y6,y7⟩
            have hw1:=y3.size
            have hown:=Kx.row (W:=W) (Kx.of_kb (b:=b) (kb_alloc 0 w1 (.cells #[.string x.x,.int .i64 x.g,.int .i64 x.f,.int .i64 x.t] 97))) (Kx.row (W:=W) y3 (show RLs nmc 97 4 mb Rm Rm b p c M k lost W most cnt L k' false (.slice ad L.length cap) wr from HST).row hbz) hbz
            have hqc:=qr_cells w1 #[.string x.x,.int .i64 x.g,.int .i64 x.f,.int .i64 x.t] 97 [.string x.x,.int .i64 x.g,.int .i64 x.f,.int .i64 x.t] rfl
            have h1c : ∀ u ∈ ([.string x.x,.int .i64 x.g,.int .i64 x.f,.int .i64 x.t] : List Value),u.oneCell' = true:=by intro u hu;simp at hu;rcases hu with rfl | rfl | rfl | rfl <;> rfl
            have HSTP : Hid (∀ (v' : Value) (w3 : World),w3.ownsRow W.heap.size 97 4 v' (L.length + 1) (L.flatMap nmc ++ [.string x.x,.int .i64 x.g,.int .i64 x.f,.int .i64 x.t]) → (w1.alloc (.cells #[.string x.x,.int .i64 x.g,.int .i64 x.f,.int .i64 x.t] 97)).grownBy w3 (Value.slice ad L.length cap).ownBlock → RLs nmc 97 4 mb Rm Rm b p c M k lost W most cnt (L ++ [x]) k2 l2 v' w3):=(fun v' w3 h1 h2=>(show RLs nmc 97 4 mb Rm Rm b p c M k lost W most cnt L k' false (.slice ad L.length cap) wr from HST).step rfl hgo y1 y2 y3 y4 y5 y6 y7 h1 h2 : ∀ (v' : Value) (w3 : World),_)
            clear y1 y2 y3 y4 y5 y6 y7 HC HST c2
            unfold namv
            go_wp2_with (at_builtin;refine wpList_append_own _ rfl (.tmp 36) (.tmp 39) 48 rfl W.heap.size 97 i0 (.agg #[.string ⟨#[]⟩,.int .i64 0,.int .i64 0,.int .i64 0]) 4 40 Tryz.underlying48 HI0 hz0 hz1 hz2 rfl (by decide) _ _ _ rfl hown ⟨w1.heap.size,0,none⟩ 1 1 [.string x.x,.int .i64 x.g,.int .i64 x.f,.int .i64 x.t] rfl rfl hqc h1c (by unfold maxLen;omega) (by omega) (by simp;omega) ?_;intro v' w3 hown3 hgr3 _;have HN : Hid (RLs nmc 97 4 mb Rm Rm b p c M k lost W most cnt (L ++ [x]) k2 l2 v' w3):=(show ∀ (v' : Value) (w3 : World),_ from HSTP) _ _ hown3 hgr3;obtain ⟨g',cap',rfl,_,_⟩:=hown3.form (by omega);clear hown3 hgr3 hown hqc h1c HSTP)
            go_roundw
            case rel=>exact ⟨L ++ [x],k2,l2,HN⟩
            case measure=>simp [lnOf];omega
        · have HD : Hid (RL nmc 97 4 mb Rm Rm b p c M k lost W most (.returned (.slice ad L.length cap)) wr):=hR.done (fun e=>hgo e.1)
          clear hR HI0
          go_wp2_with fail
          go_ret
          exact HD
theorem rl_named {b : Nat} {p : Option Addr} {c : Nat} {M : List UInt8} {k : Nat} {lost : Bool} {W : World} (h : RI b p c M k lost W) (most : Nat) (hm : most ≤ 6000) :
    Calls Tryz.prog 85 #[.pointer (some ⟨b,0,none⟩),.int .i64 (most : Int),.func (Fn.func 86) #[.pointer (some ⟨b,0,none⟩)] #[]] W (RL nmc 97 4 mb Rm Rm b p c M k lost W most):=by
  have HB:=im_rnum h
  have HA : Hid (∀ (w1 : World) (k1 : Nat) (l1 : Bool) (cnt : Int),RI b p c M k1 l1 w1 → k ≤ k1 → Kz b W w1 → (l1 = false → k < k1) → (lost = true → l1 = true) → (∀ y rest,lost = false → Rn y → M.drop k = nb y ++ rest → cnt = y ∧ k1 = k + (nb y).length ∧ l1 = false) → Calls Tryz.prog 129 #[.pointer (some ⟨b,0,none⟩),.int .i64 cnt,.int .i64 (most : Int),.func (Fn.func 86) #[.pointer (some ⟨b,0,none⟩)] #[]] w1 (RL nmc 97 4 mb Rm Rm b p c M k lost W most)):=(fun w1 k1 l1 cnt z1 z2 z3 z5 z6 z7=>ra_named (RLs.begin h z1 z2 z3 z5 z6 z7 (by omega)) (cell_of z1.blk rfl) (frozen_of z1.blk) hm : ∀ (w1 : World) (k1 : Nat) (l1 : Bool) (cnt : Int),_)
  clear h hm
  go_enter Tryz.func85,Tryz.ntmps85
  go_wp2_with fail
  refine HB.mono ?_
  rintro e w1 ⟨v1,k1,l1,rfl,z1,z2,z3,cnt,rfl,z4,z5,z6,z7⟩
  have HA1:=(show ∀ (w1 : World) (k1 : Nat) (l1 : Bool) (cnt : Int),_ from HA) w1 k1 l1 cnt z1 z2 z3 z5 z6 z7
  clear HA HB z1 z2 z3 z4 z5 z6 z7
  go_wp2_with fail
  refine HA1.mono ?_
  rintro e w2 ⟨v,k',l',L,rfl,hq⟩
  have HD : Hid (RL nmc 97 4 mb Rm Rm b p c M k lost W most (.returned v) w2):=(⟨v,k',l',L,rfl,hq⟩ : RL nmc 97 4 mb Rm Rm b p c M k lost W most (.returned v) w2)
  obtain ⟨ad,cap,rfl⟩:=own_shape hq.2.2.2.1
  clear hq HA1
  go_wp2_with fail
  go_ret
  exact HD
end Go.Proofs.YtnmeemjoodoalaaGreatDoor.Fo
