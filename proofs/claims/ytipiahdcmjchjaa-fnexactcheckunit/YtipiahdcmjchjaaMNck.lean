import Derived.Test.YtipiahdcmjchjaaMNdm
set_option maxHeartbeats 16000000
namespace Go.Proofs.Ytipiahdcmjchjaa.Fo
open Go.ChangeShapes Go.WideShapes Go.ChangeAt Go.RowKit
set_option linter.unusedVariables false
set_option maxRecDepth 100000
theorem st_1 {A : Addr} {n ca t : Nat} {a : Nv} {pr pk : Option Addr} {p cr q ck : Nat} {kdf : Nat → Int} {exf : Nat → Nat → Prop} (w : World) (hx : Nst w A n ca t a pr p cr pk q ck kdf exf) (hk : a.k = 1) :
    Calls Try.prog 61 #[.slice (some A) n ca,.int .i64 (t : Int)] w fun e w'=>e = .returned (.bool (dc ((∀ i,i < q → St (kdf i)) ∧ Br false false false false a p 0))) ∧ Kb 0 w w':=by
  obtain ⟨d0,d1,d2,d3,d4,d5,d6,d7⟩:=hx.cel
  have hnI : (n : Int) ≤ 1048576:=by have:=hx.hn;omega
  have hpI : (p : Int) ≤ 1048576:=by have:=hx.hp;omega
  have hqN:=hx.hq
  have hqI : (q : Int) ≤ 1048576:=by omega
  have htI : (t : Int) < (n : Int):=by have:=hx.ht;omega
  have HKD : Hid (∀ z : Nat,z ≤ 1048576 → Calls Try.prog 79 #[.slice (some A) n ca,.int .i64 (t : Int),.int .i64 (z : Int)] (w.alloc (.cells #[.int .i64 a.k,.int .i64 a.l,.int .i64 a.o,.int .i64 a.m,.float .f64 a.g,.string a.x,.slice pr p cr,.slice pk q ck] 79)) fun e w'=>e = .returned (.int .i64 (kdf z)) ∧ w' = (w.alloc (.cells #[.int .i64 a.k,.int .i64 a.l,.int .i64 a.o,.int .i64 a.m,.float .f64 a.g,.string a.x,.slice pr p cr,.slice pk q ck] 79))):=(fun z hz=>hx.kid z _ (kb_alloc _ _ _) hz : ∀ z : Nat,_)
  have QKq0 : 0 < q → Calls Try.prog 79 #[.slice (some A) n ca,.int .i64 (t : Int),.int .i64 ((q : Int) - 1)] (w.alloc (.cells #[.int .i64 a.k,.int .i64 a.l,.int .i64 a.o,.int .i64 a.m,.float .f64 a.g,.string a.x,.slice pr p cr,.slice pk q ck] 79)) fun e w'=>e = .returned (.int .i64 (kdf (q - 1))) ∧ w' = (w.alloc (.cells #[.int .i64 a.k,.int .i64 a.l,.int .i64 a.o,.int .i64 a.m,.float .f64 a.g,.string a.x,.slice pr p cr,.slice pk q ck] 79)):=fun h=>by
    have:=hx.kid (q - 1) _ (kb_alloc 0 w (.cells #[.int .i64 a.k,.int .i64 a.l,.int .i64 a.o,.int .i64 a.m,.float .f64 a.g,.string a.x,.slice pr p cr,.slice pk q ck] 79)) (by omega)
    rw [show ((q - 1 : Nat) : Int) = (q : Int) - 1 by omega] at this
    exact this
  have QB0:=fun W=>sp_bare_z a hx.hg pr p cr pk q ck 0 (by omega) hx.hp W
  unfold ndv at QB0
  rw [hk] at d0 QB0 QKq0 HKD
  have HQB : Hid (∀ W,Calls Try.prog 80 #[.agg #[.int .i64 1,.int .i64 a.l,.int .i64 a.o,.int .i64 a.m,.float .f64 a.g,.string a.x,.slice pr p cr,.slice pk q ck],.bool false,.bool false,.bool false,.bool false,.int .i64 0] W fun e w'=>e = .returned (.bool (dc (Br false false false false a p 0))) ∧ Kb 0 W w'):=QB0
  clear hx QB0
  have hst : ∀ (a : Addr) (n : Nat) (m : Mode) (w : World),(store a (.float .f64 n) m).run Try.prog w = stored Try.prog w a (.float .f64 n) m:=fun a n m w=>run_store _ _ _ _ _ rfl
  obtain ⟨R,hR⟩ : ∃ R,R = dc ((∀ i,i < q → St (kdf i)) ∧ Br false false false false a p 0):=⟨_,rfl⟩
  rw [← hR]
  have HR : Hid (R = dc ((∀ i,i < q → St (kdf i)) ∧ Br false false false false a p 0)):=hR
  clear hR
  have hq0 : q = 0 ∨ (0 : Int) < (q : Int):=by omega
  rcases hq0 with hq0 | hq0
  · subst hq0
    clear HKD QKq0 hqN
    go_enter Try.func61,Try.ntmps61
    go_wp2_with fail
    refine wp_loop_rounds 1 ?_
    rw [rounds_succ]
    go_wp2_with fail
    refine ((show ∀ W,Calls Try.prog 80 #[.agg #[.int .i64 1,.int .i64 a.l,.int .i64 a.o,.int .i64 a.m,.float .f64 a.g,.string a.x,.slice pr p cr,.slice pk 0 ck],.bool false,.bool false,.bool false,.bool false,.int .i64 0] W fun e w'=>e = .returned (.bool (dc (Br false false false false a p 0))) ∧ Kb 0 W w' from HQB) _).mono ?_
    rintro e w2 ⟨rfl,k2⟩
    have HK2 : Hid (Kb 0 w w2):=(kb_alloc _ _ _).trans k2
    clear k2 HQB
    go_wp2_with fail
    go_ret
    refine ⟨?_,HK2⟩
    rw [show R = _ from HR]
    exact congrArg (fun b=>Ending.returned (.bool b)) (dc_iff ⟨fun h=>⟨fun i hi=>by omega,h⟩,fun h=>h.2⟩)
  · have QKq:=QKq0 (by omega)
    clear QKq0 hqN
    go_enter Try.func61,Try.ntmps61
    go_wp2_with (first | (go_at_call 79;refine QKq.mono ?_;rintro e w1 ⟨rfl,rfl⟩))
    go_loopw [37] (fun s37 wr=>∃ i : Nat,s37 = .int .i64 (i : Int) ∧ i ≤ q ∧ wr = (w.alloc (.cells #[.int .i64 1,.int .i64 a.l,.int .i64 a.o,.int .i64 a.m,.float .f64 a.g,.string a.x,.slice pr p cr,.slice pk q ck] 79)) ∧ Hid (∀ y,y < i → St (kdf y))) (fun s37 _=>q - (intOf s37).toNat)
    case atStart=>exact ⟨0,rfl,Nat.zero_le _,rfl,(fun y h=>by omega : ∀ y,_)⟩
    case round =>
      obtain ⟨i,rfl,hi,rfl,HX⟩:=hrel
      have hX:=(show ∀ y,y < i → St (kdf y) from HX)
      clear QKq
      rcases Nat.lt_or_ge i q with h | h
      · have hI : (i : Int) < (q : Int):=by omega
        go_wp2_with fail
        refine ((show ∀ z : Nat,z ≤ 1048576 → Calls Try.prog 79 #[.slice (some A) n ca,.int .i64 (t : Int),.int .i64 (z : Int)] (w.alloc (.cells #[.int .i64 1,.int .i64 a.l,.int .i64 a.o,.int .i64 a.m,.float .f64 a.g,.string a.x,.slice pr p cr,.slice pk q ck] 79)) fun e w'=>e = .returned (.int .i64 (kdf z)) ∧ w' = (w.alloc (.cells #[.int .i64 1,.int .i64 a.l,.int .i64 a.o,.int .i64 a.m,.float .f64 a.g,.string a.x,.slice pr p cr,.slice pk q ck] 79)) from HKD) i (by omega)).mono ?_
        rintro e w1 ⟨rfl,rfl⟩
        go_wp2_with fail
        refine (sp_stat _ _).mono ?_
        rintro e w2 ⟨rfl,rfl⟩
        by_cases c : St (kdf i)
        · rw [dc_t c]
          have HX2 : Hid (∀ y,y < i + 1 → St (kdf y)):=(fun y h2=>by
            by_cases e : y = i
            · subst e;exact c
            · exact hX y (by omega) : ∀ y,_)
          clear HX hX c HR
          go_wp2_with fail
          go_roundw
          case rel=>exact ⟨i + 1,by go_num,by omega,by trivial,HX2⟩
          case measure=>simp [intOf];omega
        · rw [dc_f c]
          have HF : Hid (R = false):=by
            rw [show R = _ from HR]
            exact dc_f (fun g=>c (g.1 i h))
          clear HX hX c HR HKD
          go_wp2_with fail
          go_ret
          have hF:=(show R = false from HF)
          subst hF
          exact ⟨rfl,kb_alloc _ _ _⟩
      · have hI : ¬ (i : Int) < (q : Int):=by omega
        have HF : Hid (R = dc (Br false false false false a p 0)):=by
          rw [show R = _ from HR]
          exact dc_iff ⟨fun h=>h.2,fun h2=>⟨fun y hy=>hX y (by omega),h2⟩⟩
        clear HX hX HR HKD
        go_wp2_with fail
        refine ((show ∀ W,Calls Try.prog 80 #[.agg #[.int .i64 1,.int .i64 a.l,.int .i64 a.o,.int .i64 a.m,.float .f64 a.g,.string a.x,.slice pr p cr,.slice pk q ck],.bool false,.bool false,.bool false,.bool false,.int .i64 0] W fun e w'=>e = .returned (.bool (dc (Br false false false false a p 0))) ∧ Kb 0 W w' from HQB) _).mono ?_
        rintro e w2 ⟨rfl,k2⟩
        have HK2 : Hid (Kb 0 w w2):=(kb_alloc _ _ _).trans k2
        clear k2 HQB
        go_wp2_with fail
        go_ret
        have hF:=(show R = dc (Br false false false false a p 0) from HF)
        subst hF
        exact ⟨rfl,HK2⟩
theorem st_3 {A : Addr} {n ca t : Nat} {a : Nv} {pr pk : Option Addr} {p cr q ck : Nat} {kdf : Nat → Int} {exf : Nat → Nat → Prop} (w : World) (hx : Nst w A n ca t a pr p cr pk q ck kdf exf) (hk : a.k = 3) :
    Calls Try.prog 61 #[.slice (some A) n ca,.int .i64 (t : Int)] w fun e w'=>e = .returned (.bool (dc (1 ≤ a.m ∧ a.m < (q : Int) ∧ (∀ i : Nat,(i : Int) < a.m → kdf i = 26 ∨ kdf i = 27 ∨ kdf i = 33) ∧ Br false true false false a p 0 ∧ exf a.m.toNat q))) ∧ Kb 0 w w':=by
  obtain ⟨d0,d1,d2,d3,d4,d5,d6,d7⟩:=hx.cel
  have hnI : (n : Int) ≤ 1048576:=by have:=hx.hn;omega
  have hpI : (p : Int) ≤ 1048576:=by have:=hx.hp;omega
  have hqN:=hx.hq
  have hqI : (q : Int) ≤ 1048576:=by omega
  have htI : (t : Int) < (n : Int):=by have:=hx.ht;omega
  have HKD : Hid (∀ z : Nat,z ≤ 1048576 → Calls Try.prog 79 #[.slice (some A) n ca,.int .i64 (t : Int),.int .i64 (z : Int)] (w.alloc (.cells #[.int .i64 a.k,.int .i64 a.l,.int .i64 a.o,.int .i64 a.m,.float .f64 a.g,.string a.x,.slice pr p cr,.slice pk q ck] 79)) fun e w'=>e = .returned (.int .i64 (kdf z)) ∧ w' = (w.alloc (.cells #[.int .i64 a.k,.int .i64 a.l,.int .i64 a.o,.int .i64 a.m,.float .f64 a.g,.string a.x,.slice pr p cr,.slice pk q ck] 79))):=(fun z hz=>hx.kid z _ (kb_alloc _ _ _) hz : ∀ z : Nat,_)
  have QKq0 : 0 < q → Calls Try.prog 79 #[.slice (some A) n ca,.int .i64 (t : Int),.int .i64 ((q : Int) - 1)] (w.alloc (.cells #[.int .i64 a.k,.int .i64 a.l,.int .i64 a.o,.int .i64 a.m,.float .f64 a.g,.string a.x,.slice pr p cr,.slice pk q ck] 79)) fun e w'=>e = .returned (.int .i64 (kdf (q - 1))) ∧ w' = (w.alloc (.cells #[.int .i64 a.k,.int .i64 a.l,.int .i64 a.o,.int .i64 a.m,.float .f64 a.g,.string a.x,.slice pr p cr,.slice pk q ck] 79)):=fun h=>by
    have:=hx.kid (q - 1) _ (kb_alloc 0 w (.cells #[.int .i64 a.k,.int .i64 a.l,.int .i64 a.o,.int .i64 a.m,.float .f64 a.g,.string a.x,.slice pr p cr,.slice pk q ck] 79)) (by omega)
    rw [show ((q - 1 : Nat) : Int) = (q : Int) - 1 by omega] at this
    exact this
  have QB0:=fun W=>sp_bare_m a hx.hg pr p cr pk q ck 0 (by omega) hx.hp W
  unfold ndv at QB0
  rw [hk] at d0 QB0 QKq0 HKD
  have HQB : Hid (∀ W,Calls Try.prog 80 #[.agg #[.int .i64 3,.int .i64 a.l,.int .i64 a.o,.int .i64 a.m,.float .f64 a.g,.string a.x,.slice pr p cr,.slice pk q ck],.bool false,.bool true,.bool false,.bool false,.int .i64 0] W fun e w'=>e = .returned (.bool (dc (Br false true false false a p 0))) ∧ Kb 0 W w'):=QB0
  have HEX : Hid (∀ j : Nat,j ≤ 1048576 → ∀ W,Kb 0 w W → Calls Try.prog 81 #[.slice (some A) n ca,.int .i64 (t : Int),.int .i64 (j : Int),.int .i64 (q : Int)] W fun e w'=>e = .returned (.bool (dc (exf j q))) ∧ w' = W):=(fun j hj W k=>hx.exp j q W k hj hqN : ∀ j : Nat,_)
  clear hx QB0
  have hst : ∀ (a : Addr) (n : Nat) (m : Mode) (w : World),(store a (.float .f64 n) m).run Try.prog w = stored Try.prog w a (.float .f64 n) m:=fun a n m w=>run_store _ _ _ _ _ rfl
  obtain ⟨R,hR⟩ : ∃ R,R = dc (1 ≤ a.m ∧ a.m < (q : Int) ∧ (∀ i : Nat,(i : Int) < a.m → kdf i = 26 ∨ kdf i = 27 ∨ kdf i = 33) ∧ Br false true false false a p 0 ∧ exf a.m.toNat q):=⟨_,rfl⟩
  rw [← hR]
  have HR : Hid (R = dc (1 ≤ a.m ∧ a.m < (q : Int) ∧ (∀ i : Nat,(i : Int) < a.m → kdf i = 26 ∨ kdf i = 27 ∨ kdf i = 33) ∧ Br false true false false a p 0 ∧ exf a.m.toNat q)):=hR
  clear hR
  have hq0 : q = 0 ∨ (0 : Int) < (q : Int):=by omega
  rcases hq0 with hq0 | hq0
  · subst hq0
    have HF : Hid (R = false):=by
      rw [show R = _ from HR]
      exact dc_f (fun g=>by have:=g.1;have:=g.2.1;omega)
    clear HR HEX HQB HKD QKq0
    have hF:=(show R = false from HF)
    subst hF
    rcases Int.lt_or_le a.m 1 with hm | hm
    · go_enter Try.func61,Try.ntmps61
      go_wp2_with fail
      go_ret
      exact ⟨rfl,kb_alloc _ _ _⟩
    · have hm' : ¬ a.m < 1:=by omega
      have hm2 : (0 : Int) ≤ a.m:=by omega
      go_enter Try.func61,Try.ntmps61
      go_wp2_with fail
      go_ret
      exact ⟨rfl,kb_alloc _ _ _⟩
  · have QKq:=QKq0 (by omega)
    clear QKq0
    rcases Int.lt_or_le a.m 1 with hm | hm
    · have HF : Hid (R = false) := by
        rw [show R = _ from HR]
        exact dc_f (fun g=>by have:=g.1;omega)
      clear HR HEX HQB HKD
      have hF:=(show R = false from HF)
      subst hF
      go_enter Try.func61,Try.ntmps61
      go_wp2_with (first | (go_at_call 79;refine QKq.mono ?_;rintro e w1 ⟨rfl,rfl⟩))
      go_ret
      exact ⟨rfl,kb_alloc _ _ _⟩
    · have hm' : ¬ a.m < 1:=by omega
      rcases Int.lt_or_le a.m q with hmq | hmq
      case inr =>
        have HF : Hid (R = false):=by
          rw [show R = _ from HR]
          exact dc_f (fun g=>by have:=g.2.1;omega)
        clear HR HEX HQB HKD
        have hF:=(show R = false from HF)
        subst hF
        go_enter Try.func61,Try.ntmps61
        go_wp2_with (first | (go_at_call 79;refine QKq.mono ?_;rintro e w1 ⟨rfl,rfl⟩))
        go_ret
        exact ⟨rfl,kb_alloc _ _ _⟩
      have hmq' : ¬ (q : Int) ≤ a.m:=by omega
      obtain ⟨M,hM⟩:=Int.eq_ofNat_of_zero_le (show 0 ≤ a.m by omega)
      have HM : Hid (a.m = (M : Int) ∧ M < q):=(⟨hM,by omega⟩ : _ ∧ _)
      clear hM
      go_enter Try.func61,Try.ntmps61
      go_wp2_with (first | (go_at_call 79;refine QKq.mono ?_;rintro e w1 ⟨rfl,rfl⟩))
      go_loopw [9] (fun s9 wr=>∃ i : Nat,s9 = .int .i64 (i : Int) ∧ (i : Int) ≤ a.m ∧ wr = (w.alloc (.cells #[.int .i64 3,.int .i64 a.l,.int .i64 a.o,.int .i64 a.m,.float .f64 a.g,.string a.x,.slice pr p cr,.slice pk q ck] 79)) ∧ Hid (∀ y,y < i → kdf y = 26 ∨ kdf y = 27 ∨ kdf y = 33)) (fun s9 _=>q - (intOf s9).toNat)
      case atStart=>exact ⟨0,rfl,by omega,rfl,(fun y h=>by omega : ∀ y,_)⟩
      case round =>
        obtain ⟨i,rfl,hi,rfl,HX⟩:=hrel
        have hX:=(show ∀ y,y < i → kdf y = 26 ∨ kdf y = 27 ∨ kdf y = 33 from HX)
        clear QKq
        rcases Int.lt_or_le (i : Int) a.m with h | h
        · have hiq : i ≤ 1048576:=by omega
          go_wp2_with fail
          refine ((show ∀ z : Nat,z ≤ 1048576 → Calls Try.prog 79 #[.slice (some A) n ca,.int .i64 (t : Int),.int .i64 (z : Int)] (w.alloc (.cells #[.int .i64 3,.int .i64 a.l,.int .i64 a.o,.int .i64 a.m,.float .f64 a.g,.string a.x,.slice pr p cr,.slice pk q ck] 79)) fun e w'=>e = .returned (.int .i64 (kdf z)) ∧ w' = (w.alloc (.cells #[.int .i64 3,.int .i64 a.l,.int .i64 a.o,.int .i64 a.m,.float .f64 a.g,.string a.x,.slice pr p cr,.slice pk q ck] 79)) from HKD) i hiq).mono ?_
          rintro e w1 ⟨rfl,rfl⟩
          go_wp2_with fail
          refine (sp_target _ _).mono ?_
          rintro e w2 ⟨rfl,rfl⟩
          by_cases c : kdf i = 26 ∨ kdf i = 27 ∨ kdf i = 33
          · rw [dc_t c]
            have HX2 : Hid (∀ y,y < i + 1 → kdf y = 26 ∨ kdf y = 27 ∨ kdf y = 33):=(fun y h2=>by
              by_cases e : y = i
              · subst e;exact c
              · exact hX y (by omega) : ∀ y,_)
            clear HX hX c HR
            go_wp2_with fail
            go_roundw
            case rel=>exact ⟨i + 1,by go_num,by omega,by trivial,HX2⟩
            case measure=>simp [intOf];omega
          · rw [dc_f c]
            have HF : Hid (R = false):=by
              rw [show R = _ from HR]
              exact dc_f (fun g=>c (g.2.2.1 i h))
            clear HX hX c HR HKD
            go_wp2_with fail
            go_ret
            have hF:=(show R = false from HF)
            subst hF
            exact ⟨rfl,kb_alloc _ _ _⟩
        · have hI : ¬ (i : Int) < a.m:=by omega
          have hge : a.m ≤ (i : Int):=h
          have HF : Hid (R = dc (Br false true false false a p 0 ∧ exf a.m.toNat q)):=by
            rw [show R = _ from HR]
            exact dc_iff ⟨fun h=>h.2.2.2,fun h2=>⟨hm,hmq,fun y hy=>hX y (by omega),h2⟩⟩
          clear HX hX HR HKD
          go_wp2_with fail
          refine ((show ∀ W,Calls Try.prog 80 #[.agg #[.int .i64 3,.int .i64 a.l,.int .i64 a.o,.int .i64 a.m,.float .f64 a.g,.string a.x,.slice pr p cr,.slice pk q ck],.bool false,.bool true,.bool false,.bool false,.int .i64 0] W fun e w'=>e = .returned (.bool (dc (Br false true false false a p 0))) ∧ Kb 0 W w' from HQB) _).mono ?_
          rintro e w2 ⟨rfl,k2⟩
          have c3 : w2.cell? ⟨w.heap.size,3,none⟩ = some (.int .i64 a.m):=k2.cell (cell_of (alloc_new _ _ _) rfl)
          have HK2 : Hid (Kb 0 w w2):=(kb_alloc _ _ _).trans k2
          clear k2 HQB
          by_cases c : Br false true false false a p 0
          · rw [dc_t c]
            have HF2 : Hid (R = dc (exf a.m.toNat q)):=by
              rw [show R = _ from HF]
              exact dc_iff ⟨fun h=>h.2,fun h=>⟨c,h⟩⟩
            have HE2 : Hid (Calls Try.prog 81 #[.slice (some A) n ca,.int .i64 (t : Int),.int .i64 a.m,.int .i64 (q : Int)] w2 fun e w'=>e = .returned (.bool (dc (exf a.m.toNat q))) ∧ w' = w2):=by
              obtain ⟨hM,hMq⟩:=(show a.m = (M : Int) ∧ M < q from HM)
              rw [hM,Int.toNat_natCast]
              exact (show ∀ j : Nat,j ≤ 1048576 → ∀ W,Kb 0 w W → Calls Try.prog 81 #[.slice (some A) n ca,.int .i64 (t : Int),.int .i64 (j : Int),.int .i64 (q : Int)] W fun e w'=>e = .returned (.bool (dc (exf j q))) ∧ w' = W from HEX) M (by omega) w2 HK2
            clear HF HEX c
            go_wp2_with fail
            refine (show Calls Try.prog 81 #[.slice (some A) n ca,.int .i64 (t : Int),.int .i64 a.m,.int .i64 (q : Int)] w2 fun e w'=>e = .returned (.bool (dc (exf a.m.toNat q))) ∧ w' = w2 from HE2).mono ?_
            rintro e w3 ⟨rfl,rfl⟩
            clear HE2
            go_wp2_with fail
            go_ret
            have hF:=(show R = dc (exf a.m.toNat q) from HF2)
            subst hF
            exact ⟨rfl,HK2⟩
          · rw [dc_f c]
            have HF2 : Hid (R = false):=by
              rw [show R = _ from HF]
              exact dc_f (fun g=>c g.1)
            clear HF HEX c
            go_wp2_with fail
            go_ret
            have hF:=(show R = false from HF2)
            subst hF
            exact ⟨rfl,HK2⟩
end Go.Proofs.Ytipiahdcmjchjaa.Fo
