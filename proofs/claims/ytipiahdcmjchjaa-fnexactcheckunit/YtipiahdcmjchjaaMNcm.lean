import Derived.Test.YtipiahdcmjchjaaMNcl
import Derived.Test.YtipiahdcmjchjaaMNdm
import Derived.Test.YtipiahdcmjchjaaMNdp
set_option maxHeartbeats 8000000
namespace Go.Proofs.Ytipiahdcmjchjaa.Fo
open Go.ChangeShapes Go.WideShapes Go.ChangeAt Go.RowKit
set_option linter.unusedVariables false
set_option maxRecDepth 100000
theorem sp_shape0 {K : Nat → Int} {A : Addr} {n ca t : Nat} {a : Nv} {pr pk : Option Addr} {p cr q ck : Nat} {kdf : Nat → Int} {exf : Nat → Nat → Prop} (w : World) (hx : Nst w A n ca t a pr p cr pk q ck kdf exf) (hkid : RowB 0 w (.slice pk q ck) q (fun i => .int .i64 (K i))) :
    Calls Try.prog 38 #[.slice (some A) n ca,.int .i64 (t : Int)] w fun e w'=>e = .returned (.bool (dc (ShM t a p q K kdf exf))) ∧ Kb 0 w w':=by
  obtain ⟨R,hR⟩ : ∃ R,R = dc (ShM t a p q K kdf exf):=⟨_,rfl⟩
  rw [← hR]
  have HR : Hid (R = dc (ShM t a p q K kdf exf)):=hR
  clear hR
  obtain ⟨d0,d1,d2,d3,d4,d5,d6,d7⟩:=hx.cel
  have hnI : (n : Int) ≤ 1048576:=by have:=hx.hn;omega
  have hpI : (p : Int) ≤ 1048576:=by have:=hx.hp;omega
  have hqI : (q : Int) ≤ 1048576:=by have:=hx.hq;omega
  have htI : (t : Int) < (n : Int):=by have:=hx.ht;omega
  have hst : ∀ (a : Addr) (n : Nat) (m : Mode) (w : World),(store a (.float .f64 n) m).run Try.prog w = stored Try.prog w a (.float .f64 n) m:=fun a n m w=>run_store _ _ _ _ _ rfl
  rcases Nat.lt_or_ge 200 q with h200 | h200
  · have hF : R = false := by
      rw [show R = dc (ShM t a p q K kdf exf) from HR]
      exact dc_f (fun g=>by have:=g.1;omega)
    have hgt : (200 : Int) < (q : Int):=by omega
    subst hF
    clear hx hkid HR h200
    go_enter Try.func38,Try.ntmps38
    go_wp2_with fail
    go_ret
    exact ⟨rfl,kb_alloc _ _ _⟩
  · have hgt : ¬ (200 : Int) < (q : Int):=by omega
    have hkid1:=hkid.keep (kb_alloc 0 w (.cells #[.int .i64 a.k,.int .i64 a.l,.int .i64 a.o,.int .i64 a.m,.float .f64 a.g,.string a.x,.slice pr p cr,.slice pk q ck] 79))
    obtain ⟨pk',ck',e1,hrow⟩:=hkid1
    obtain ⟨rfl,-,rfl⟩ : pk = pk' ∧ q = q ∧ ck = ck':=by simpa using e1
    have HROW : Hid (0 < q → ∃ a_1 : Addr,pk = some a_1 ∧ q ≤ ck ∧ 0 ≤ a_1.block ∧ ∀ i,i < q → (w.alloc (.cells #[.int .i64 a.k,.int .i64 a.l,.int .i64 a.o,.int .i64 a.m,.float .f64 a.g,.string a.x,.slice pr p cr,.slice pk q ck] 79)).cell? (a_1.add i) = some (.int .i64 (K i))):=hrow
    have hx1 : ∀ W,Kb 0 w W → Nst W A n ca t a pr p cr pk q ck kdf exf:=fun W k=>⟨hx.cel.keep (Nat.zero_le _) k,hx.hn,hx.ht,hx.hp,hx.hq,hx.hg,fun z W' k' hz=>hx.kid z W' (k.trans k') hz,fun i j W' k' hi hj=>hx.exp i j W' (k.trans k') hi hj⟩
    have HST : Hid (St a.k → Calls Try.prog 61 #[.slice (some A) n ca,.int .i64 (t : Int)] (w.alloc (.cells #[.int .i64 a.k,.int .i64 a.l,.int .i64 a.o,.int .i64 a.m,.float .f64 a.g,.string a.x,.slice pr p cr,.slice pk q ck] 79)) fun e w'=>e = .returned (.bool (dc (StM a p q kdf exf))) ∧ Kb 0 (w.alloc (.cells #[.int .i64 a.k,.int .i64 a.l,.int .i64 a.o,.int .i64 a.m,.float .f64 a.g,.string a.x,.slice pr p cr,.slice pk q ck] 79)) w'):=(fun h=>sp_statement _ (hx1 _ (kb_alloc _ _ _)) h : St a.k → _)
    have HEX : Hid (Calls Try.prog 62 #[.slice (some A) n ca,.int .i64 (t : Int)] (w.alloc (.cells #[.int .i64 a.k,.int .i64 a.l,.int .i64 a.o,.int .i64 a.m,.float .f64 a.g,.string a.x,.slice pr p cr,.slice pk q ck] 79)) fun e w'=>e = .returned (.bool (dc (ExM a p q kdf exf))) ∧ Kb 0 (w.alloc (.cells #[.int .i64 a.k,.int .i64 a.l,.int .i64 a.o,.int .i64 a.m,.float .f64 a.g,.string a.x,.slice pr p cr,.slice pk q ck] 79)) w'):=sp_expression _ (hx1 _ (kb_alloc _ _ _))
    have HQ : Hid (q ≤ 200):=h200
    clear hx hx1 hkid hrow h200 e1
    go_enter Try.func38,Try.ntmps38
    go_wp2_with fail
    go_loopw [19] (fun s19 wr=>∃ i : Nat,s19 = .int .i64 (i : Int) ∧ i ≤ q ∧ wr = (w.alloc (.cells #[.int .i64 a.k,.int .i64 a.l,.int .i64 a.o,.int .i64 a.m,.float .f64 a.g,.string a.x,.slice pr p cr,.slice pk q ck] 79)) ∧ Hid (∀ y,y < i → 0 ≤ K y ∧ K y < (t : Int))) (fun s19 _=>q - (intOf s19).toNat)
    case atStart=>exact ⟨0,rfl,Nat.zero_le _,rfl,(fun y h=>by omega : ∀ y,_)⟩
    case round =>
      obtain ⟨i,rfl,hi,rfl,HX⟩:=hrel
      have hX:=(show ∀ y,y < i → 0 ≤ K y ∧ K y < (t : Int) from HX)
      rcases Nat.lt_or_ge i q with h | h
      · have hI : (i : Int) < (q : Int):=by omega
        obtain ⟨b,rfl,hcb,-,hrb⟩:=(show 0 < q → _ from HROW) (by omega)
        have e0 : (w.alloc (.cells #[.int .i64 a.k,.int .i64 a.l,.int .i64 a.o,.int .i64 a.m,.float .f64 a.g,.string a.x,.slice pr p cr,.slice (some b) q ck] 79)).cell? (b.add i) = some (.int .i64 (K i)):=hrb i h
        clear hrb HROW
        by_cases c : 0 ≤ K i ∧ K i < (t : Int)
        · have HX2 : Hid (∀ y, y < i + 1 → 0 ≤ K y ∧ K y < (t : Int)) := (fun y h2 => by
            by_cases e : y = i
            · subst e;exact c
            · exact hX y (by omega) : ∀ y,_)
          have c1 : ¬ K i < 0:=by omega
          have c2 : ¬ (t : Int) ≤ K i:=by omega
          clear HX hX HR HEX HST c
          generalize K i = z at *
          go_wp2_with fail
          go_roundw
          case rel=>exact ⟨i + 1,by go_num,by omega,by trivial,HX2⟩
          case measure=>simp [intOf];omega
        · have hF : R = false := by
            rw [show R = dc (ShM t a p q K kdf exf) from HR]
            exact dc_f (fun g=>c (g.2.1 i h))
          subst hF
          clear HX hX HR HEX HST
          generalize K i = z at *
          rcases Int.lt_or_le z 0 with c1 | c1
          · clear c
            go_wp2_with fail
            go_ret
            exact ⟨rfl,kb_alloc _ _ _⟩
          · have c2 : (t : Int) ≤ z:=by omega
            have c3 : ¬ z < 0:=by omega
            clear c
            go_wp2_with fail
            go_ret
            exact ⟨rfl,kb_alloc _ _ _⟩
      · obtain rfl : i = q:=by omega
        have HF : Hid (R = dc ((St a.k ∧ 1 ≤ a.l ∧ a.l ≤ 100000 ∧ StM a p i kdf exf) ∨ (¬ St a.k ∧ a.l = 0 ∧ ExM a p i kdf exf))):=by
          rw [show R = dc (ShM t a p i K kdf exf) from HR]
          exact dc_iff ⟨fun h=>h.2.2,fun h=>⟨HQ,hX,h⟩⟩
        clear HX hX HR HROW h
        have hI : ¬ (i : Int) < (i : Int):=by omega
        go_wp2_with fail
        refine (sp_stat _ _).mono ?_
        rintro e w2 ⟨rfl,rfl⟩
        by_cases c : St a.k
        · rw [dc_t c]
          have HS:=(show St a.k → Calls Try.prog 61 #[.slice (some A) n ca,.int .i64 (t : Int)] (w.alloc (.cells #[.int .i64 a.k,.int .i64 a.l,.int .i64 a.o,.int .i64 a.m,.float .f64 a.g,.string a.x,.slice pr p cr,.slice pk i ck] 79)) fun e w'=>e = .returned (.bool (dc (StM a p i kdf exf))) ∧ Kb 0 (w.alloc (.cells #[.int .i64 a.k,.int .i64 a.l,.int .i64 a.o,.int .i64 a.m,.float .f64 a.g,.string a.x,.slice pr p cr,.slice pk i ck] 79)) w' from HST) c
          by_cases cl : 1 ≤ a.l ∧ a.l ≤ 100000
          · have hF : R = dc (StM a p i kdf exf) := by
              rw [show R = dc ((St a.k ∧ 1 ≤ a.l ∧ a.l ≤ 100000 ∧ StM a p i kdf exf) ∨ (¬ St a.k ∧ a.l = 0 ∧ ExM a p i kdf exf)) from HF]
              exact dc_iff ⟨fun h=>h.elim (fun g=>g.2.2.2) (fun g=>absurd c g.1),fun h=>.inl ⟨c,cl.1,cl.2,h⟩⟩
            obtain ⟨l1,l2⟩:=cl
            clear HST HEX HF c
            go_wp2_with fail
            refine HS.mono ?_
            rintro e w3 ⟨rfl,k3⟩
            have HK3 : Hid (Kb 0 w w3):=(kb_alloc _ _ _).trans k3
            clear k3 HS
            subst hF
            go_wp2_with fail
            go_ret
            exact ⟨rfl,HK3⟩
          · have hF : R = false := by
              rw [show R = dc ((St a.k ∧ 1 ≤ a.l ∧ a.l ≤ 100000 ∧ StM a p i kdf exf) ∨ (¬ St a.k ∧ a.l = 0 ∧ ExM a p i kdf exf)) from HF]
              exact dc_f (fun h=>h.elim (fun g=>cl ⟨g.2.1,g.2.2.1⟩) (fun g=>g.1 c))
            subst hF
            clear HST HEX HF c HS
            rcases Int.lt_or_le a.l 1 with l1 | l1
            · have l2 : ¬ 1 ≤ a.l:=by omega
              clear cl
              go_wp2_with fail
              go_ret
              exact ⟨rfl,kb_alloc _ _ _⟩
            · have l2 : ¬ a.l ≤ 100000:=by omega
              clear cl
              go_wp2_with fail
              go_ret
              exact ⟨rfl,kb_alloc _ _ _⟩
        · rw [dc_f c]
          have HS:=(show Calls Try.prog 62 #[.slice (some A) n ca,.int .i64 (t : Int)] (w.alloc (.cells #[.int .i64 a.k,.int .i64 a.l,.int .i64 a.o,.int .i64 a.m,.float .f64 a.g,.string a.x,.slice pr p cr,.slice pk i ck] 79)) fun e w'=>e = .returned (.bool (dc (ExM a p i kdf exf))) ∧ Kb 0 (w.alloc (.cells #[.int .i64 a.k,.int .i64 a.l,.int .i64 a.o,.int .i64 a.m,.float .f64 a.g,.string a.x,.slice pr p cr,.slice pk i ck] 79)) w' from HEX)
          by_cases cl : a.l = 0
          · have hF : R = dc (ExM a p i kdf exf) := by
              rw [show R = dc ((St a.k ∧ 1 ≤ a.l ∧ a.l ≤ 100000 ∧ StM a p i kdf exf) ∨ (¬ St a.k ∧ a.l = 0 ∧ ExM a p i kdf exf)) from HF]
              exact dc_iff ⟨fun h=>h.elim (fun g=>absurd g.1 c) (fun g=>g.2.2),fun h=>.inr ⟨c,cl,h⟩⟩
            have gl:=beq1 cl
            clear HST HEX HF c cl
            go_wp2_with fail
            refine HS.mono ?_
            rintro e w3 ⟨rfl,k3⟩
            have HK3 : Hid (Kb 0 w w3):=(kb_alloc _ _ _).trans k3
            clear k3 HS
            subst hF
            go_wp2_with fail
            go_ret
            exact ⟨rfl,HK3⟩
          · have hF : R = false := by
              rw [show R = dc ((St a.k ∧ 1 ≤ a.l ∧ a.l ≤ 100000 ∧ StM a p i kdf exf) ∨ (¬ St a.k ∧ a.l = 0 ∧ ExM a p i kdf exf)) from HF]
              exact dc_f (fun h=>h.elim (fun g=>c g.1) (fun g=>cl g.2.1))
            subst hF
            have gl:=bne cl
            clear HST HEX HF c HS cl
            go_wp2_with fail
            go_ret
            exact ⟨rfl,kb_alloc _ _ _⟩
def shM (N : Nat → Nd) (t : Nat) : Prop:=ShM t (N t).a (N t).p (N t).q (N t).K (kd N t) (exs N t)
theorem sp_shape {va : Value} {n : Nat} {N : Nat → Nd} (w : World) (ha : RowN 0 w va n N) (hn : n ≤ 1048576) (hN : ∀ i, i < n → (N i).p ≤ 1048576 ∧ (N i).q ≤ 1048576 ∧ (N i).a.g < 18446744073709551616) (t : Nat) (ht : t < n) :
    Calls Try.prog 38 #[va,.int .i64 (t : Int)] w fun e w'=>e = .returned (.bool (dc (shM N t))) ∧ Kb 0 w w':=by
  have hR:=fun W (k : Kb 0 w W)=>ha.keep k
  obtain ⟨pa,ca,rfl,ha2⟩:=ha
  obtain ⟨A,rfl,hca,-,hra⟩:=ha2 (by omega)
  obtain ⟨vr,vk,hc,hr,hk⟩:=hra t ht
  obtain ⟨y1,y2,y3⟩:=hN t ht
  have hk2:=hk
  obtain ⟨pr,cr,rfl,-⟩:=hr
  obtain ⟨pk,ck,rfl,-⟩:=hk
  exact sp_shape0 w ⟨hc,hn,ht,y1,y2,y3,fun z W k hz=>sp_kid W (hR W k) hn t z ht hz y2,fun i j W k hi hj=>sp_exprs W (hR W k) hn t i j ht hi hj y2⟩ hk2
theorem sh_st {a : Nv} {p q : Nat} {kdf : Nat → Int} (hm0 : -9223372036854775808 ≤ a.m ∧ a.m ≤ 9223372036854775807) (hp0 : p ≤ 1048576) (hkd : ∀ i, i < q → St (kdf i) ∨ Ex (kdf i)) (hk : St a.k) :
    (q ≤ 200 ∧ (1 ≤ a.l ∧ a.l ≤ 100000) ∧ StM a p q kdf (fun i j=>∀ x,i ≤ x → x < j → Ex (kdf x))) ↔ (alw (rwk a.k q) a p q ∧ (∀ i,i < q → Tkp a q i (kdf i))):=by
  obtain ⟨h1,h2⟩:=hk
  have hc : a.k = 1 ∨ a.k = 2 ∨ a.k = 3 ∨ a.k = 4 ∨ a.k = 5 ∨ a.k = 6 ∨ a.k = 7 ∨ a.k = 8 ∨ a.k = 9 ∨ a.k = 10 ∨ a.k = 11 ∨ a.k = 12 ∨ a.k = 13 ∨ a.k = 14:=by omega
  rcases hc with h | h | h | h | h | h | h | h | h | h | h | h | h | h
  · rw [StM_1 h,h,qs_1 hm0 hp0 hkd];exact and_congr Iff.rfl (forall_congr' fun i=>imp_congr Iff.rfl (Tkp_1 h).symm)
  · rw [StM_2 h,h,qs_2 hm0 hp0 hkd];exact and_congr Iff.rfl (forall_congr' fun i=>imp_congr Iff.rfl (Tkp_2 h).symm)
  · rw [StM_3 h,h,qs_3 hm0 hp0 hkd];exact and_congr Iff.rfl (forall_congr' fun i=>imp_congr Iff.rfl (Tkp_3 h).symm)
  · rw [StM_4 h,h,qs_4 hm0 hp0 hkd];exact and_congr Iff.rfl (forall_congr' fun i=>imp_congr Iff.rfl (Tkp_4 h).symm)
  · rw [StM_5 h,h,qs_5 hm0 hp0 hkd];exact and_congr Iff.rfl (forall_congr' fun i=>imp_congr Iff.rfl (Tkp_5 h).symm)
  · rw [StM_6 h,h,qs_6 hm0 hp0 hkd];exact and_congr Iff.rfl (forall_congr' fun i=>imp_congr Iff.rfl (Tkp_6 h).symm)
  · rw [StM_7 h,h,qs_7 hm0 hp0 hkd];exact and_congr Iff.rfl (forall_congr' fun i=>imp_congr Iff.rfl (Tkp_7 h).symm)
  · rw [StM_8 h,h,qs_8 hm0 hp0 hkd];exact and_congr Iff.rfl (forall_congr' fun i=>imp_congr Iff.rfl (Tkp_8 h).symm)
  · rw [StM_9 h,h,qs_9 hm0 hp0 hkd];exact and_congr Iff.rfl (forall_congr' fun i=>imp_congr Iff.rfl (Tkp_9 h).symm)
  · rw [StM_10 h,h,qs_10 hm0 hp0 hkd];exact and_congr Iff.rfl (forall_congr' fun i=>imp_congr Iff.rfl (Tkp_10 h).symm)
  · rw [StM_11 h,h,qs_11 hm0 hp0 hkd];exact and_congr Iff.rfl (forall_congr' fun i=>imp_congr Iff.rfl (Tkp_11 h).symm)
  · rw [StM_12 h,h,qs_12 hm0 hp0 hkd];exact and_congr Iff.rfl (forall_congr' fun i=>imp_congr Iff.rfl (Tkp_12 h).symm)
  · rw [StM_13 h,h,qs_13 hm0 hp0 hkd];exact and_congr Iff.rfl (forall_congr' fun i=>imp_congr Iff.rfl (Tkp_13 h).symm)
  · rw [StM_14 h,h,qs_14 hm0 hp0 hkd];exact and_congr Iff.rfl (forall_congr' fun i=>imp_congr Iff.rfl (Tkp_14 h).symm)
theorem sh_ex {a : Nv} {p q : Nat} {kdf : Nat → Int} (hm0 : -9223372036854775808 ≤ a.m ∧ a.m ≤ 9223372036854775807) (hp0 : p ≤ 1048576) (hkd : ∀ i, i < q → St (kdf i) ∨ Ex (kdf i)) (hk : Ex a.k) :
    (q ≤ 200 ∧ a.l = 0 ∧ ExM a p q kdf (fun i j=>∀ x,i ≤ x → x < j → Ex (kdf x))) ↔ (alw (rwk a.k q) a p q ∧ (∀ i,i < q → Tkp a q i (kdf i)) ∧ (a.k = 35 → (q % 2 = 0 ∧ (a.o = 0 ∨ (0 < q ∧ kdf (q - 2) = 23 ∧ (kdf (q - 1) = 34 ∨ kdf (q - 1) = 37)))))):=by
  obtain ⟨h1,h2⟩:=hk
  have hc : a.k = 20 ∨ a.k = 21 ∨ a.k = 22 ∨ a.k = 23 ∨ a.k = 24 ∨ a.k = 25 ∨ a.k = 26 ∨ a.k = 27 ∨ a.k = 28 ∨ a.k = 29 ∨ a.k = 30 ∨ a.k = 31 ∨ a.k = 32 ∨ a.k = 33 ∨ a.k = 34 ∨ a.k = 35 ∨ a.k = 36 ∨ a.k = 37 ∨ a.k = 38:=by omega
  rcases hc with h | h | h | h | h | h | h | h | h | h | h | h | h | h | h | h | h | h | h
  · rw [ExM_20 h,h,qs_20 hm0 hp0 hkd];exact and_congr Iff.rfl ⟨fun z=>⟨fun i hi=>(Tkp_20 h).2 (z i hi),fun e=>by omega⟩,fun z i hi=>(Tkp_20 h).1 (z.1 i hi)⟩
  · rw [ExM_21 h,h,qs_21 hm0 hp0 hkd];exact and_congr Iff.rfl ⟨fun z=>⟨fun i hi=>(Tkp_21 h).2 (z i hi),fun e=>by omega⟩,fun z i hi=>(Tkp_21 h).1 (z.1 i hi)⟩
  · rw [ExM_22 h,h,qs_22 hm0 hp0 hkd];exact and_congr Iff.rfl ⟨fun z=>⟨fun i hi=>(Tkp_22 h).2 (z i hi),fun e=>by omega⟩,fun z i hi=>(Tkp_22 h).1 (z.1 i hi)⟩
  · rw [ExM_23 h,h,qs_23 hm0 hp0 hkd];exact and_congr Iff.rfl ⟨fun z=>⟨fun i hi=>(Tkp_23 h).2 (z i hi),fun e=>by omega⟩,fun z i hi=>(Tkp_23 h).1 (z.1 i hi)⟩
  · rw [ExM_24 h,h,qs_24 hm0 hp0 hkd];exact and_congr Iff.rfl ⟨fun z=>⟨fun i hi=>(Tkp_24 h).2 (z i hi),fun e=>by omega⟩,fun z i hi=>(Tkp_24 h).1 (z.1 i hi)⟩
  · rw [ExM_25 h,h,qs_25 hm0 hp0 hkd];exact and_congr Iff.rfl ⟨fun z=>⟨fun i hi=>(Tkp_25 h).2 (z i hi),fun e=>by omega⟩,fun z i hi=>(Tkp_25 h).1 (z.1 i hi)⟩
  · rw [ExM_26 h,h,qs_26 hm0 hp0 hkd];exact and_congr Iff.rfl ⟨fun z=>⟨fun i hi=>(Tkp_26 h).2 (z i hi),fun e=>by omega⟩,fun z i hi=>(Tkp_26 h).1 (z.1 i hi)⟩
  · rw [ExM_27 h,h,qs_27 hm0 hp0 hkd];exact and_congr Iff.rfl ⟨fun z=>⟨fun i hi=>(Tkp_27 h).2 (z i hi),fun e=>by omega⟩,fun z i hi=>(Tkp_27 h).1 (z.1 i hi)⟩
  · rw [ExM_28 h,h,qs_28 hm0 hp0 hkd];exact and_congr Iff.rfl ⟨fun z=>⟨fun i hi=>(Tkp_28 h).2 (z i hi),fun e=>by omega⟩,fun z i hi=>(Tkp_28 h).1 (z.1 i hi)⟩
  · rw [ExM_29 h,h,qs_29 hm0 hp0 hkd];exact and_congr Iff.rfl ⟨fun z=>⟨fun i hi=>(Tkp_29 h).2 (z i hi),fun e=>by omega⟩,fun z i hi=>(Tkp_29 h).1 (z.1 i hi)⟩
  · rw [ExM_30 h,h,qs_30 hm0 hp0 hkd];exact and_congr Iff.rfl ⟨fun z=>⟨fun i hi=>(Tkp_30 h).2 (z i hi),fun e=>by omega⟩,fun z i hi=>(Tkp_30 h).1 (z.1 i hi)⟩
  · rw [ExM_31 h,h,qs_31 hm0 hp0 hkd];exact and_congr Iff.rfl ⟨fun z=>⟨fun i hi=>(Tkp_31 h).2 (z i hi),fun e=>by omega⟩,fun z i hi=>(Tkp_31 h).1 (z.1 i hi)⟩
  · rw [ExM_32 h,h,qs_32 hm0 hp0 hkd];exact and_congr Iff.rfl ⟨fun z=>⟨fun i hi=>(Tkp_32 h).2 (z i hi),fun e=>by omega⟩,fun z i hi=>(Tkp_32 h).1 (z.1 i hi)⟩
  · rw [ExM_33 h,h,qs_33 hm0 hp0 hkd];exact and_congr Iff.rfl ⟨fun z=>⟨fun i hi=>(Tkp_33 h).2 (z i hi),fun e=>by omega⟩,fun z i hi=>(Tkp_33 h).1 (z.1 i hi)⟩
  · rw [ExM_34 h,h,qs_34 hm0 hp0 hkd];exact and_congr Iff.rfl ⟨fun z=>⟨fun i hi=>(Tkp_34 h).2 (z i hi),fun e=>by omega⟩,fun z i hi=>(Tkp_34 h).1 (z.1 i hi)⟩
  · rw [ExM_35 h,h,qs_35 hm0 hp0 hkd];exact and_congr Iff.rfl (and_congr (forall_congr' fun i=>imp_congr Iff.rfl (Tkp_35 h).symm) ⟨fun z _=>z,fun z=>z rfl⟩)
  · rw [ExM_36 h,h,qs_36 hm0 hp0 hkd];exact and_congr Iff.rfl ⟨fun z=>⟨fun i hi=>(Tkp_36 h).2 (z i hi),fun e=>by omega⟩,fun z i hi=>(Tkp_36 h).1 (z.1 i hi)⟩
  · rw [ExM_37 h,h,qs_37 hm0 hp0 hkd];exact and_congr Iff.rfl ⟨fun z=>⟨fun i hi=>(Tkp_37 h).2 (z i hi),fun e=>by omega⟩,fun z i hi=>(Tkp_37 h).1 (z.1 i hi)⟩
  · rw [ExM_38 h,h,qs_38 hm0 hp0 hkd];exact and_congr Iff.rfl ⟨fun z=>⟨fun i hi=>(Tkp_38 h).2 (z i hi),fun e=>by omega⟩,fun z i hi=>(Tkp_38 h).1 (z.1 i hi)⟩
def shP (N : Nat → Nd) (t : Nat) : Prop:=(St (N t).a.k ∨ Ex (N t).a.k) ∧ alw (rwk (N t).a.k (N t).q) (N t).a (N t).p (N t).q ∧ (∀ i,i < (N t).q → 0 ≤ (N t).K i ∧ (N t).K i < (t : Int) ∧ Tkp (N t).a (N t).q i (kz N ((N t).K i))) ∧ ((N t).a.k = 35 → Tbl N (N t).a (N t).q (N t).K)
theorem kd_kz {N : Nat → Nd} {t i : Nat} (hi : i < (N t).q) (h : 0 ≤ (N t).K i ∧ (N t).K i < (t : Int)) : kd N t i = kz N ((N t).K i):=by
  unfold kd kz
  rw [if_pos hi,if_pos h]
theorem sh_eq {N : Nat → Nd} {t : Nat} (hm0 : -9223372036854775808 ≤ (N t).a.m ∧ (N t).a.m ≤ 9223372036854775807) (hp0 : (N t).p ≤ 1048576) (hk : ∀ j,j < t → St (N j).a.k ∨ Ex (N j).a.k) : shM N t ↔ shP N t:=by
  have key : (∀ i,i < (N t).q → 0 ≤ (N t).K i ∧ (N t).K i < (t : Int)) → ∀ i,i < (N t).q → St (kd N t i) ∨ Ex (kd N t i):=by
    intro hr i hi
    rw [kd_kz hi (hr i hi)]
    exact hk _ (by have:=hr i hi;omega)
  have tb : (∀ i,i < (N t).q → 0 ≤ (N t).K i ∧ (N t).K i < (t : Int)) → (((N t).q % 2 = 0 ∧ ((N t).a.o = 0 ∨ (0 < (N t).q ∧ kd N t ((N t).q - 2) = 23 ∧ (kd N t ((N t).q - 1) = 34 ∨ kd N t ((N t).q - 1) = 37)))) ↔ Tbl N (N t).a (N t).q (N t).K):=by
    intro hr
    unfold Tbl
    refine and_congr Iff.rfl (or_congr Iff.rfl (and_congr_right fun h0=>?_))
    rw [kd_kz (by omega) (hr ((N t).q - 2) (by omega)),kd_kz (by omega) (hr ((N t).q - 1) (by omega))]
  unfold shM ShM shP
  constructor
  · rintro ⟨h200,hr,⟨hs,l1,l2,hM⟩ | ⟨hs,hl,hM⟩⟩
    · obtain ⟨q1,q2⟩:=(sh_st hm0 hp0 (key hr) hs).1 ⟨h200,⟨l1,l2⟩,hM⟩
      exact ⟨Or.inl hs,q1,fun i hi=>⟨(hr i hi).1,(hr i hi).2,by rw [← kd_kz hi (hr i hi)];exact q2 i hi⟩,fun e=>by unfold St at hs;omega⟩
    · obtain ⟨q1,q2,q3⟩:=(sh_ex hm0 hp0 (key hr) hM.1).1 ⟨h200,hl,hM⟩
      exact ⟨Or.inr hM.1,q1,fun i hi=>⟨(hr i hi).1,(hr i hi).2,by rw [← kd_kz hi (hr i hi)];exact q2 i hi⟩,fun e=>(tb hr).1 (q3 e)⟩
  · rintro ⟨hs | hx,q1,q2,q3⟩
    · have hr : ∀ i,i < (N t).q → 0 ≤ (N t).K i ∧ (N t).K i < (t : Int):=fun i hi=>⟨(q2 i hi).1,(q2 i hi).2.1⟩
      obtain ⟨c1,c2,c3⟩:=(sh_st hm0 hp0 (key hr) hs).2 ⟨q1,fun i hi=>by rw [kd_kz hi (hr i hi)];exact (q2 i hi).2.2⟩
      exact ⟨c1,hr,Or.inl ⟨hs,c2.1,c2.2,c3⟩⟩
    · have hr : ∀ i,i < (N t).q → 0 ≤ (N t).K i ∧ (N t).K i < (t : Int):=fun i hi=>⟨(q2 i hi).1,(q2 i hi).2.1⟩
      obtain ⟨c1,c2,c3⟩:=(sh_ex hm0 hp0 (key hr) hx).2 ⟨q1,fun i hi=>by rw [kd_kz hi (hr i hi)];exact (q2 i hi).2.2,fun e=>(tb hr).2 (q3 e)⟩
      exact ⟨c1,hr,Or.inr ⟨fun f=>by unfold St at f;unfold Ex at hx;omega,c2,c3⟩⟩
theorem im_shape_n {A : Addr} {n ca t : Nat} {a : Nv} {pr pk : Option Addr} {p cr q ck : Nat} (w : World)
    (hn : n ≤ 1048576) (ht : t < n) (hcel : CelN w (A.add (t * 8)) a (.slice pr p cr) (.slice pk q ck)) (hs : ¬ St a.k) (hx : ¬ Ex a.k) :
    Calls Try.prog 46 #[.slice (some A) n ca,.int .i64 (t : Int)] w fun e w'=>e = .returned (.bool false) ∧ Kb 0 w w':=by
  obtain ⟨d0,d1,d2,d3,d4,d5,d6,d7⟩:=hcel
  have hnI : (n : Int) ≤ 1048576:=by omega
  have htI : (t : Int) < (n : Int):=by omega
  have hst : ∀ (a : Addr) (n : Nat) (m : Mode) (w : World),(store a (.float .f64 n) m).run Try.prog w = stored Try.prog w a (.float .f64 n) m:=fun a n m w=>run_store _ _ _ _ _ rfl
  have hso:=fun W=>so_n a pr p cr pk q ck W hs hx
  unfold ndv at hso
  clear hs hx hn ht
  go_enter Try.func46,Try.ntmps46
  go_wp2_with fail
  refine (hso _).mono ?_
  rintro e w2 ⟨rfl,kk2⟩
  have HK : Hid (Kb 0 w w2):=(kb_alloc _ _ _).trans kk2
  clear kk2 hso d0 d1 d2 d3 d4 d5 d6 d7
  go_wp2_with fail
  go_quiet (skip)
  go_wp2_with fail
  go_ret
  exact ⟨rfl,by first | exact HK | exact Kb.drewN HK _⟩
theorem im_shape {va : Value} {n : Nat} {N : Nat → Nd} (w : World) (ha : RowN 0 w va n N) (hn : n ≤ 1048576) (hN : ∀ i, i < n → (N i).p ≤ 1048576 ∧ (N i).q ≤ 1048576 ∧ (N i).a.g < 18446744073709551616) (t : Nat) (ht : t < n) :
    Calls Try.prog 46 #[va,.int .i64 (t : Int)] w fun e w'=>e = .returned (.bool (dc (shP N t))) ∧ Kb 0 w w':=by
  obtain ⟨pa,ca,rfl,ha2⟩:=ha
  obtain ⟨A,rfl,hca,-,hra⟩:=ha2 (by omega)
  obtain ⟨vr,vk,hc,hr,hk⟩:=hra t ht
  obtain ⟨y1,y2,y3⟩:=hN t ht
  have hk2:=hk
  obtain ⟨pr,cr,rfl,-⟩:=hr
  obtain ⟨pk,ck,rfl,-⟩:=hk
  have hqI : ((N t).q : Int) ≤ 1048576:=by omega
  have hpI : ((N t).p : Int) ≤ 1048576:=by omega
  by_cases hs : St (N t).a.k
  · rw [show dc (shP N t) = dc (alw (rwk (N t).a.k (N t).q) (N t).a (N t).p (N t).q ∧ (∀ i,i < (N t).q → 0 ≤ (N t).K i ∧ (N t).K i < (t : Int) ∧ Tkp (N t).a (N t).q i (kz N ((N t).K i))) ∧ ((N t).a.k = 35 → Tbl N (N t).a (N t).q (N t).K)) from dc_iff ⟨fun h=>h.2,fun h=>⟨Or.inl hs,h⟩⟩]
    exact im_shape_g mth_s (fun _ _=>by kernel_rfl) (fun _ _=>by kernel_rfl) w hn ht y1 y2 y3 hc hra (fun _ _=>Nat.zero_le _) hk2 (fun W=>so_s _ pr _ cr pk _ ck W hs) (fun W=>im_rows _ _ ⟨pr,_,cr,rfl⟩ pk _ ck hqI W hs) (fun W=>im_allows _ (rwk_fx _ _) _ y3 pr _ cr pk _ ck hpI hqI W) (fun W i c hi=>im_tks _ _ ⟨pr,_,cr,rfl⟩ pk _ ck i c (by omega) hqI W hs)
  · by_cases hx : Ex (N t).a.k
    · rw [show dc (shP N t) = dc (alw (rwk (N t).a.k (N t).q) (N t).a (N t).p (N t).q ∧ (∀ i,i < (N t).q → 0 ≤ (N t).K i ∧ (N t).K i < (t : Int) ∧ Tkp (N t).a (N t).q i (kz N ((N t).K i))) ∧ ((N t).a.k = 35 → Tbl N (N t).a (N t).q (N t).K)) from dc_iff ⟨fun h=>h.2,fun h=>⟨Or.inr hx,h⟩⟩]
      exact im_shape_g mth_x (fun _ _=>by kernel_rfl) (fun _ _=>by kernel_rfl) w hn ht y1 y2 y3 hc hra (fun _ _=>Nat.zero_le _) hk2 (fun W=>so_x _ pr _ cr pk _ ck W hx) (fun W=>im_rowx _ _ ⟨pr,_,cr,rfl⟩ pk _ ck hqI W hx) (fun W=>im_allows _ (rwk_fx _ _) _ y3 pr _ cr pk _ ck hpI hqI W) (fun W i c hi=>im_tkx _ _ ⟨pr,_,cr,rfl⟩ pk _ ck i c (by omega) hqI W hx)
    · rw [dc_f (fun h=>h.1.elim hs hx)]
      exact im_shape_n w hn ht hc hs hx
def Fb (P : Nat → Prop) (n : Nat) (r : Int) : Prop:=(r = -1 ∧ ∀ j,j < n → P j) ∨ ∃ j : Nat,r = (j : Int) ∧ j < n ∧ ¬ P j ∧ ∀ i,i < j → P i
theorem Fb.uniq {P : Nat → Prop} {n : Nat} {r s : Int} (h : Fb P n r) (k : Fb P n s) : r = s:=by
  rcases h with ⟨rfl,h⟩ | ⟨j,rfl,h1,h2,h3⟩ <;> rcases k with ⟨rfl,k⟩ | ⟨i,rfl,k1,k2,k3⟩
  · rfl
  · exact absurd (h i k1) k2
  · exact absurd (k j h1) h2
  · have : i = j := by
      rcases Nat.lt_trichotomy i j with q | q | q
      · exact absurd (h3 i q) k2
      · exact q
      · exact absurd (k3 j q) h2
    omega
def vnm (x : ByteArray) : Prop:=1 ≤ x.size ∧ x.size ≤ 40
theorem sz_emp {x : ByteArray} : x = ⟨#[]⟩ ↔ x.size = 0:=by
  constructor
  · rintro rfl;rfl
  · intro h
    apply ByteArray.ext
    exact Array.eq_empty_of_size_eq_zero h
theorem im_noname (x : ByteArray) (w : World) : Calls Try.prog 45 #[.string x] w fun e w'=>e = .returned (.bool (dc (¬ vnm x))) ∧ w' = w:=by
  unfold vnm
  by_cases h : x = ⟨#[]⟩
  · rw [dc_t (by have:=sz_emp.1 h;omega)]
    have g:=str0 h
    clear h
    go_enter Try.func45,Try.ntmps45
    go_wp2_with fail
    go_ret
    exact ⟨by first | rfl | simp [g],rfl⟩
  · have g:=str1 h
    have h0 : x.size ≠ 0:=fun e=>h (sz_emp.2 e)
    by_cases h4 : x.size ≤ 40
    · rw [dc_f (by omega)]
      have g4 : ¬ (40 : Int) < (x.size : Int):=by omega
      clear h h0 h4
      go_enter Try.func45,Try.ntmps45
      go_wp2_with fail
      go_ret
      exact ⟨by first | rfl | simp [g],rfl⟩
    · rw [dc_t (by omega)]
      have g4 : (40 : Int) < (x.size : Int):=by omega
      clear h h0 h4
      go_enter Try.func45,Try.ntmps45
      go_wp2_with fail
      go_ret
      exact ⟨by first | rfl | simp [g],rfl⟩
theorem im_index {v : Value} {p : Nat} {A : Nat → ByteArray} (w : World) (hr : RowV w v p (fun i => .string (A i))) (hp : p ≤ 1048576) :
    Calls Try.prog 66 #[v,.func (.func 45) #[] #[]] w fun e w'=>∃ r : Int,e = .returned (.int .i64 r) ∧ ((0 ≤ r ∧ ¬ ∀ j,j < p → vnm (A j)) ∨ (r = -1 ∧ ∀ j,j < p → vnm (A j))) ∧ w' = w:=by
  obtain ⟨pa,ca,rfl,hr2⟩:=hr
  have hpI : (p : Int) ≤ 1048576:=by omega
  have HR : Hid (0 < p → ∃ a : Addr,pa = some a ∧ p ≤ ca ∧ ∀ i,i < p → w.cell? (a.add i) = some (.string (A i))):=hr2
  clear hr2 hp
  go_enter Try.func66,Try.ntmps66
  go_wp2_with fail
  go_loopw [8] (fun s8 wr=>∃ i : Nat,s8 = .int .i64 (i : Int) ∧ i ≤ p ∧ wr = w ∧ Hid (∀ j,j < i → vnm (A j))) (fun s8 _=>p - (intOf s8).toNat)
  case atStart=>exact ⟨0,rfl,Nat.zero_le _,rfl,(fun j hj=>by omega : ∀ j,_)⟩
  case round =>
    obtain ⟨i,rfl,hin,rfl,HI⟩:=hrel
    have ha:=(show ∀ j,j < i → vnm (A j) from HI)
    rcases Nat.lt_or_ge i p with hi | hi
    · have hiI : (i : Int) < (p : Int):=by omega
      obtain ⟨a,rfl,hca,hra⟩:=(show 0 < p → _ from HR) (by omega)
      have qa : wr.cell? (a.add i) = some (.string (A i)):=hra i hi
      have hcall:=im_noname (A i) wr
      by_cases hn : vnm (A i)
      · rw [dc_f (not_not_intro hn)] at hcall
        have HX : Hid (∀ j,j < i + 1 → vnm (A j)):=(fun j hj=>by
          by_cases e : j = i
          · rw [e];exact hn
          · exact ha j (by omega) : ∀ j,_)
        clear HI ha hra hn
        generalize A i = x at *
        go_wp2_with fail
        refine hcall.mono ?_
        rintro e w' ⟨rfl,rfl⟩
        go_wp2_with fail
        go_roundw
        case rel=>exact ⟨i + 1,by go_num,by omega,by trivial,HX⟩
        case measure=>simp [intOf];omega
      · rw [dc_t hn] at hcall
        have HX : Hid (¬ ∀ j,j < p → vnm (A j)):=(fun h=>hn (h i hi) : ¬ _)
        clear HI ha hra hn
        generalize A i = x at *
        go_wp2_with fail
        refine hcall.mono ?_
        rintro e w' ⟨rfl,rfl⟩
        go_wp2_with fail
        go_ret
        exact ⟨(i : Int),rfl,.inl ⟨by omega,HX⟩,rfl⟩
    · obtain rfl : i = p:=by omega
      clear HR ha
      go_wp2_with fail
      go_ret
      exact ⟨-1,rfl,.inr ⟨rfl,HI⟩,rfl⟩
theorem im_contains {v : Value} {p : Nat} {A : Nat → ByteArray} (w : World) (hr : RowV w v p (fun i => .string (A i))) (hp : p ≤ 1048576) :
    Calls Try.prog 44 #[v,.func (.func 45) #[] #[]] w fun e w'=>e = .returned (.bool (dc (¬ ∀ j,j < p → vnm (A j)))) ∧ w' = w:=by
  have h1:=im_index w hr hp
  obtain ⟨pa,ca,rfl,hr2⟩:=hr
  clear hr2 hp
  obtain ⟨z,hz⟩ : ∃ z,z = dc (¬ ∀ j,j < p → vnm (A j)):=⟨_,rfl⟩
  have HZ : Hid (z = dc (¬ ∀ j,j < p → vnm (A j))):=hz
  rw [← hz]
  clear hz
  go_enter Try.func44,Try.ntmps44
  go_wp2_with fail
  refine h1.mono ?_
  rintro e w1 ⟨r,rfl,hR,rfl⟩
  clear h1
  rcases hR with ⟨h0,hn⟩ | ⟨rfl,hn⟩
  · have hX : z = true:=(show z = _ from HZ).trans (dc_t hn)
    subst hX
    clear hn HZ
    go_wp2_with fail
    go_ret
    exact ⟨rfl,rfl⟩
  · have hX : z = false:=(show z = _ from HZ).trans (dc_f (not_not_intro hn))
    subst hX
    clear hn HZ
    go_wp2_with fail
    go_ret
    exact ⟨rfl,rfl⟩
def Hd (f : Nat) (d : Fd) : Prop:=0 < d.n ∧ d.p ≤ 200 ∧ d.u ≤ 200 ∧ 0 ≤ d.m ∧ d.m ≤ (d.p : Int) ∧ 0 ≤ d.l ∧ d.l ≤ 100000 ∧ d.x.size ≤ 40 ∧ (∀ j,j < d.p → vnm (d.V j)) ∧ (f = 0 → d.m = 0 ∧ d.u = 0)
def ck (K : Nat → Int) (k : Int) : Nat → Nat
  | 0=>0
  | i + 1=>ck K k i + (if K i = k then 1 else 0)
def cn (N : Nat → Nd) (k : Int) : Nat → Nat
  | 0=>0
  | t + 1=>cn N k t + ck (N t).K k (N t).q
theorem ck_le (K : Nat → Int) (k : Int) (i : Nat) : ck K k i ≤ i:=by
  induction i with
  | zero=>exact Nat.le_refl _
  | succ i ih=>unfold ck;split <;> omega
theorem cn_le {N : Nat → Nd} {n : Nat} (hq : ∀ t,t < n → (N t).q ≤ 200) (k : Int) : ∀ t,t ≤ n → cn N k t ≤ t * 200
  | 0,_=>Nat.zero_le _
  | t + 1,h=>by
    have h1:=cn_le hq k t (by omega)
    have h2:=ck_le (N t).K k (N t).q
    have h3:=hq t (by omega)
    unfold cn
    omega
structure Ar (w1 : World) (G n : Nat) (A : Nat → Int) (W : World) : Prop where
  os : W.os = w1.os
  output : W.output = w1.output
  size : w1.heap.size ≤ W.heap.size
  block : ∀ b,b < w1.heap.size → b ≠ G → W.heap[b]? = w1.heap[b]?
  ce : ∀ k,k < n → W.cell? ⟨G,k,none⟩ = some (.int .i64 (A k))
  fz : ∀ j,W.frozen? ⟨G,j,none⟩ = false
  gl : G < w1.heap.size
theorem Ar.kb {w1 W W' : World} {G n : Nat} {A : Nat → Int} (h : Ar w1 G n A W) (k : Kb 0 W W') : Ar w1 G n A W':=by
  have hg:=Nat.lt_of_lt_of_le h.gl h.size
  exact ⟨k.os.trans h.os,k.output.trans h.output,Nat.le_trans h.size k.size,fun b hb hn=>(k.block b (Nat.zero_le _) (Nat.lt_of_lt_of_le hb h.size)).trans (h.block b hb hn),fun j hj=>k.cell (h.ce j hj),fun j=>(k.frozen (Nat.zero_le _) hg).trans (h.fz j),h.gl⟩
theorem Ar.set {w1 W : World} {G n : Nat} {A B : Nat → Int} (h : Ar w1 G n A W) {k : Nat} {v : Int} (hk : k < n) (hB : ∀ j,j < n → B j = if j = k then v else A j) : Ar w1 G n B (W.setCell ⟨G,k,none⟩ (.int .i64 v)):=by
  refine ⟨h.os,h.output,by simpa using h.size,fun b hb hn=>(Below.heap_setCell _ _ _ _ hn).trans (h.block b hb hn),fun j hj=>?_,fun j=>(set_fz _ _ _ _ _).trans (h.fz j),h.gl⟩
  rw [hB j hj]
  by_cases e : j = k
  · subst e;rw [if_pos rfl];exact set_eq _ _ _ _ _ (h.ce j hj)
  · rw [if_neg e,set_ne _ _ _ _ _ e];exact h.ce j hj
theorem Ar.eqv {w1 W : World} {G n : Nat} {A B : Nat → Int} (h : Ar w1 G n A W) (hB : ∀ j,j < n → B j = A j) : Ar w1 G n B W :=
  ⟨h.os,h.output,h.size,h.block,fun j hj=>by rw [hB j hj];exact h.ce j hj,h.fz,h.gl⟩
theorem Ar.old {w w1 W : World} {G n : Nat} {A : Nat → Int} (h : Ar w1 G n A W) (k : Kb 0 w w1) (hG : w.heap.size ≤ G) : Kb 0 w W :=
  ⟨h.os.trans k.os,h.output.trans k.output,Nat.le_trans k.size h.size,fun b _ hb=>(h.block b (Nat.lt_of_lt_of_le hb k.size) (by omega)).trans (k.block b (Nat.zero_le _) hb)⟩
theorem ar_zero (w : World) (n : Nat) (t : TypeId) : Ar (w.alloc (.cells (madeCells (.int .i64 0 : Value).cells (n * 1)) t)) w.heap.size n (fun _=>0) (w.alloc (.cells (madeCells (.int .i64 0 : Value).cells (n * 1)) t)) :=
  ⟨rfl,rfl,Nat.le_refl _,fun _ _ _=>rfl,fun k hk=>made_cell w _ t n rfl k hk,fun j=>made_fz _ _ _ _,by simp⟩
theorem im_stray1 (c : Int) (w : World) : Calls Try.prog 48 #[.int .i64 c] w fun e w'=>e = .returned (.bool (dc (¬ c = 1))) ∧ w' = w:=by
  by_cases h : c = 1
  · rw [dc_f (not_not_intro h)]
    subst h
    go_enter Try.func48,Try.ntmps48
    go_wp2_with fail
    go_ret
    exact ⟨rfl,rfl⟩
  · rw [dc_t h]
    have g : (c != 1) = true:=by simp [h]
    have g2:=bne h
    go_enter Try.func48,Try.ntmps48
    go_wp2_with fail
    go_ret
    exact ⟨by first | rfl | simp [*],rfl⟩
theorem im_ixint {ff : Nat} {Q : Int → Prop} (hff : ∀ c w, Calls Try.prog ff #[.int .i64 c] w fun e w' => e = .returned (.bool (dc (¬ Q c))) ∧ w' = w) (en : ∀ args w, (callFunc ff args).run Try.prog w = .ok (.enter ff args) w) {v : Value} {p : Nat} {A : Nat → Int} (w : World) (hr : RowV w v p (fun i => .int .i64 (A i))) (hp : p ≤ 1048576) :
    Calls Try.prog 47 #[v,.func (.func ff) #[] #[]] w fun e w'=>∃ r : Int,e = .returned (.int .i64 r) ∧ Fb (fun j=>Q (A j)) p r ∧ w' = w:=by
  obtain ⟨pa,ca,rfl,hr2⟩:=hr
  have hpI : (p : Int) ≤ 1048576:=by omega
  have HR : Hid (0 < p → ∃ a : Addr,pa = some a ∧ p ≤ ca ∧ ∀ i,i < p → w.cell? (a.add i) = some (.int .i64 (A i))):=hr2
  have HFF : Hid (∀ c w,Calls Try.prog ff #[.int .i64 c] w fun e w'=>e = .returned (.bool (dc (¬ Q c))) ∧ w' = w):=hff
  clear hr2 hp hff
  go_enter Try.func47,Try.ntmps47
  go_wp2_with fail
  go_loopw [8] (fun s8 wr=>∃ i : Nat,s8 = .int .i64 (i : Int) ∧ i ≤ p ∧ wr = w ∧ Hid (∀ j,j < i → Q (A j))) (fun s8 _=>p - (intOf s8).toNat)
  case atStart=>exact ⟨0,rfl,Nat.zero_le _,rfl,(fun j hj=>by omega : ∀ j,_)⟩
  case round =>
    obtain ⟨i,rfl,hin,rfl,HI⟩:=hrel
    have ha:=(show ∀ j,j < i → Q (A j) from HI)
    rcases Nat.lt_or_ge i p with hi | hi
    · have hiI : (i : Int) < (p : Int):=by omega
      obtain ⟨a,rfl,hca,hra⟩:=(show 0 < p → _ from HR) (by omega)
      have qa : wr.cell? (a.add i) = some (.int .i64 (A i)):=hra i hi
      have hcall:=(show ∀ c w,Calls Try.prog ff #[.int .i64 c] w fun e w'=>e = .returned (.bool (dc (¬ Q c))) ∧ w' = w from HFF) (A i) wr
      by_cases hn : Q (A i)
      · rw [dc_f (not_not_intro hn)] at hcall
        have HX : Hid (∀ j,j < i + 1 → Q (A j)):=(fun j hj=>by
          by_cases e : j = i
          · rw [e];exact hn
          · exact ha j (by omega) : ∀ j,_)
        clear HI ha hra hn
        generalize A i = x at *
        go_wp2_with fail
        refine hcall.mono ?_
        rintro e w' ⟨rfl,rfl⟩
        go_wp2_with fail
        go_roundw
        case rel=>exact ⟨i + 1,by go_num,by omega,by trivial,HX⟩
        case measure=>simp [intOf];omega
      · rw [dc_t hn] at hcall
        have HX : Hid (Fb (fun j=>Q (A j)) p (i : Int)):=Or.inr ⟨i,rfl,hi,hn,ha⟩
        clear HI ha hra hn
        generalize A i = x at *
        go_wp2_with fail
        refine hcall.mono ?_
        rintro e w' ⟨rfl,rfl⟩
        go_wp2_with fail
        go_ret
        exact ⟨(i : Int),rfl,HX,rfl⟩
    · obtain rfl : i = p:=by omega
      have HX : Hid (Fb (fun j=>Q (A j)) i (-1)):=Or.inl ⟨rfl,ha⟩
      clear HR ha HFF HI
      go_wp2_with fail
      go_ret
      exact ⟨-1,rfl,HX,rfl⟩
end Go.Proofs.Ytipiahdcmjchjaa.Fo
