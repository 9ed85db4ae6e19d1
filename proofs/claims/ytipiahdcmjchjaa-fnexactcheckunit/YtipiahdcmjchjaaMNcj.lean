import Derived.Test.YtipiahdcmjchjaaMNdm
set_option maxHeartbeats 16000000
namespace Go.Proofs.Ytipiahdcmjchjaa.Fo
open Go.ChangeShapes Go.WideShapes Go.ChangeAt Go.RowKit
set_option linter.unusedVariables false
set_option maxRecDepth 100000
theorem ex_35 {A : Addr} {n ca t : Nat} {a : Nv} {pr pk : Option Addr} {p cr q ck : Nat} {kdf : Nat → Int} {exf : Nat → Nat → Prop} (w : World) (hx : Nst w A n ca t a pr p cr pk q ck kdf exf) (hk : a.k = 35) :
    Calls Try.prog 62 #[.slice (some A) n ca,.int .i64 (t : Int)] w fun e w'=>e = .returned (.bool (dc ((a.o = 0 ∨ a.o = 1 ∧ 2 ≤ q ∧ kdf (q - 2) = 23 ∧ (kdf (q - 1) = 34 ∨ kdf (q - 1) = 37)) ∧ q % 2 = 0 ∧ exf 0 q ∧ Br true false false false a p 0))) ∧ Kb 0 w w':=by
  obtain ⟨d0,d1,d2,d3,d4,d5,d6,d7⟩:=hx.cel
  have hnI : (n : Int) ≤ 1048576:=by have:=hx.hn;omega
  have hpI : (p : Int) ≤ 1048576:=by have:=hx.hp;omega
  have hqN:=hx.hq
  have hqI : (q : Int) ≤ 1048576:=by omega
  have htI : (t : Int) < (n : Int):=by have:=hx.ht;omega
  have QKq0 : 0 < q → Calls Try.prog 79 #[.slice (some A) n ca,.int .i64 (t : Int),.int .i64 ((q : Int) - 1)] (w.alloc (.cells #[.int .i64 a.k,.int .i64 a.l,.int .i64 a.o,.int .i64 a.m,.float .f64 a.g,.string a.x,.slice pr p cr,.slice pk q ck] 79)) fun e w'=>e = .returned (.int .i64 (kdf (q - 1))) ∧ w' = (w.alloc (.cells #[.int .i64 a.k,.int .i64 a.l,.int .i64 a.o,.int .i64 a.m,.float .f64 a.g,.string a.x,.slice pr p cr,.slice pk q ck] 79)):=fun h=>by
    have:=hx.kid (q - 1) _ (kb_alloc 0 w (.cells #[.int .i64 a.k,.int .i64 a.l,.int .i64 a.o,.int .i64 a.m,.float .f64 a.g,.string a.x,.slice pr p cr,.slice pk q ck] 79)) (by omega)
    rw [show ((q - 1 : Nat) : Int) = (q : Int) - 1 by omega] at this
    exact this
  have QKq20 : 1 < q → Calls Try.prog 79 #[.slice (some A) n ca,.int .i64 (t : Int),.int .i64 ((q : Int) - 2)] (w.alloc (.cells #[.int .i64 a.k,.int .i64 a.l,.int .i64 a.o,.int .i64 a.m,.float .f64 a.g,.string a.x,.slice pr p cr,.slice pk q ck] 79)) fun e w'=>e = .returned (.int .i64 (kdf (q - 2))) ∧ w' = (w.alloc (.cells #[.int .i64 a.k,.int .i64 a.l,.int .i64 a.o,.int .i64 a.m,.float .f64 a.g,.string a.x,.slice pr p cr,.slice pk q ck] 79)):=fun h=>by
    have:=hx.kid (q - 2) _ (kb_alloc 0 w (.cells #[.int .i64 a.k,.int .i64 a.l,.int .i64 a.o,.int .i64 a.m,.float .f64 a.g,.string a.x,.slice pr p cr,.slice pk q ck] 79)) (by omega)
    rw [show ((q - 2 : Nat) : Int) = (q : Int) - 2 by omega] at this
    exact this
  have Qhall : Calls Try.prog 81 #[.slice (some A) n ca,.int .i64 (t : Int),.int .i64 0,.int .i64 (q : Int)] (w.alloc (.cells #[.int .i64 a.k,.int .i64 a.l,.int .i64 a.o,.int .i64 a.m,.float .f64 a.g,.string a.x,.slice pr p cr,.slice pk q ck] 79)) fun e w'=>e = .returned (.bool (dc (exf 0 q))) ∧ w' = (w.alloc (.cells #[.int .i64 a.k,.int .i64 a.l,.int .i64 a.o,.int .i64 a.m,.float .f64 a.g,.string a.x,.slice pr p cr,.slice pk q ck] 79)):=hx.exp 0 q _ (kb_alloc _ _ _) (by omega) (by omega)
  have QB:=fun W=>sp_bare_o a hx.hg pr p cr pk q ck 0 (by omega) hx.hp W
  unfold ndv at QB
  rw [hk] at d0 QB  Qhall QKq0 QKq20
  have HG : Hid (a.g < 18446744073709551616):=hx.hg
  clear hx
  have hst : ∀ (a : Addr) (n : Nat) (m : Mode) (w : World),(store a (.float .f64 n) m).run Try.prog w = stored Try.prog w a (.float .f64 n) m:=fun a n m w=>run_store _ _ _ _ _ rfl
  have HQ : Hid (q ≤ 1048576):=hqN
  clear hqN
  by_cases ho : a.o = 0
  · have go0:=beq1 ho
    by_cases he : q % 2 = 0
    · have ge : Int.tmod (q : Int) 2 = 0:=by rw [show Int.tmod (q : Int) 2 = ((q % 2 : Nat) : Int) from rfl,he];rfl
      by_cases hall : exf 0 q
      · rw [dc_t hall] at Qhall
        by_cases hb : Br true false false false a p 0
        · rw [dc_t hb] at QB
          rw [dc_t ⟨Or.inl ho,he,hall,hb⟩]
          first | (have QKq2:=QKq20 (show 1 < q by omega);clear QKq20) | clear QKq20
          first | (have QKq:=QKq0 (show 0 < q by omega);clear QKq0) | clear QKq0
          first | clear ho ho1 | clear ho
          go_enter Try.func62,Try.ntmps62
          go_wp2_with (first
            | (go_at_call 79;first | (with_reducible refine QKq.mono ?_;rintro e w1 ⟨rfl,rfl⟩) | (with_reducible refine QKq2.mono ?_;rintro e w1 ⟨rfl,rfl⟩))
            | (go_at_call 81;first | (refine Qhall.mono ?_;rintro e w1 ⟨rfl,rfl⟩))
            | (go_at_call 83;refine (sp_many _ _).mono ?_;rintro e w1 ⟨rfl,rfl⟩;first | rw [HMt] | rw [HMf] | skip)
            | (go_at_call 80;refine (QB _).mono ?_;rintro e w2 ⟨rfl,k2⟩;have HK2 : Hid (Kb 0 _ w2):=k2;clear k2))
          go_ret
          exact ⟨by first | rfl | (simp only [*];rfl) | simp [*],by first | exact kb_alloc _ _ _ | exact (kb_alloc _ _ _).trans (show Kb 0 _ _ from HK2)⟩
        · rw [dc_f hb] at QB
          rw [dc_f (fun g=>(hb) (g.2.2.2))]
          first | (have QKq2:=QKq20 (show 1 < q by omega);clear QKq20) | clear QKq20
          first | (have QKq:=QKq0 (show 0 < q by omega);clear QKq0) | clear QKq0
          first | clear ho ho1 | clear ho
          go_enter Try.func62,Try.ntmps62
          go_wp2_with (first
            | (go_at_call 79;first | (with_reducible refine QKq.mono ?_;rintro e w1 ⟨rfl,rfl⟩) | (with_reducible refine QKq2.mono ?_;rintro e w1 ⟨rfl,rfl⟩))
            | (go_at_call 81;first | (refine Qhall.mono ?_;rintro e w1 ⟨rfl,rfl⟩))
            | (go_at_call 83;refine (sp_many _ _).mono ?_;rintro e w1 ⟨rfl,rfl⟩;first | rw [HMt] | rw [HMf] | skip)
            | (go_at_call 80;refine (QB _).mono ?_;rintro e w2 ⟨rfl,k2⟩;have HK2 : Hid (Kb 0 _ w2):=k2;clear k2))
          go_ret
          exact ⟨by first | rfl | (simp only [*];rfl) | simp [*],by first | exact kb_alloc _ _ _ | exact (kb_alloc _ _ _).trans (show Kb 0 _ _ from HK2)⟩
      · rw [dc_f hall] at Qhall
        rw [dc_f (fun g=>(hall) (g.2.2.1))]
        first | (have QKq2:=QKq20 (show 1 < q by omega);clear QKq20) | clear QKq20
        first | (have QKq:=QKq0 (show 0 < q by omega);clear QKq0) | clear QKq0
        first | clear ho ho1 | clear ho
        go_enter Try.func62,Try.ntmps62
        go_wp2_with (first
          | (go_at_call 79;first | (with_reducible refine QKq.mono ?_;rintro e w1 ⟨rfl,rfl⟩) | (with_reducible refine QKq2.mono ?_;rintro e w1 ⟨rfl,rfl⟩))
          | (go_at_call 81;first | (refine Qhall.mono ?_;rintro e w1 ⟨rfl,rfl⟩))
          | (go_at_call 83;refine (sp_many _ _).mono ?_;rintro e w1 ⟨rfl,rfl⟩;first | rw [HMt] | rw [HMf] | skip)
          | (go_at_call 80;refine (QB _).mono ?_;rintro e w2 ⟨rfl,k2⟩;have HK2 : Hid (Kb 0 _ w2):=k2;clear k2))
        go_ret
        exact ⟨by first | rfl | (simp only [*];rfl) | simp [*],by first | exact kb_alloc _ _ _ | exact (kb_alloc _ _ _).trans (show Kb 0 _ _ from HK2)⟩
    · have ge : Int.tmod (q : Int) 2 = 1:=by rw [show Int.tmod (q : Int) 2 = ((q % 2 : Nat) : Int) from rfl,show q % 2 = 1 by omega];rfl
      rw [dc_f (fun g=>(he) (g.2.1))]
      first | (have QKq2:=QKq20 (show 1 < q by omega);clear QKq20) | clear QKq20
      first | (have QKq:=QKq0 (show 0 < q by omega);clear QKq0) | clear QKq0
      first | clear ho ho1 | clear ho
      go_enter Try.func62,Try.ntmps62
      go_wp2_with (first
        | (go_at_call 79;first | (with_reducible refine QKq.mono ?_;rintro e w1 ⟨rfl,rfl⟩) | (with_reducible refine QKq2.mono ?_;rintro e w1 ⟨rfl,rfl⟩))
        | (go_at_call 81;first | (refine Qhall.mono ?_;rintro e w1 ⟨rfl,rfl⟩))
        | (go_at_call 83;refine (sp_many _ _).mono ?_;rintro e w1 ⟨rfl,rfl⟩;first | rw [HMt] | rw [HMf] | skip)
        | (go_at_call 80;refine (QB _).mono ?_;rintro e w2 ⟨rfl,k2⟩;have HK2 : Hid (Kb 0 _ w2):=k2;clear k2))
      go_ret
      exact ⟨by first | rfl | (simp only [*];rfl) | simp [*],by first | exact kb_alloc _ _ _ | exact (kb_alloc _ _ _).trans (show Kb 0 _ _ from HK2)⟩
  · have go0:=bne ho
    by_cases ho1 : a.o = 1
    · have go1:=beq1 ho1
      by_cases hq2 : 2 ≤ q
      · have gq2 : (2 : Int) ≤ (q : Int):=by omega
        by_cases hk2 : kdf (q - 2) = 23
        · have gk2:=beq1 hk2
          by_cases hm : kdf (q - 1) = 34 ∨ kdf (q - 1) = 37
          · have HMt:=dc_t hm
            by_cases he : q % 2 = 0
            · have ge : Int.tmod (q : Int) 2 = 0:=by rw [show Int.tmod (q : Int) 2 = ((q % 2 : Nat) : Int) from rfl,he];rfl
              by_cases hall : exf 0 q
              · rw [dc_t hall] at Qhall
                by_cases hb : Br true false false false a p 0
                · rw [dc_t hb] at QB
                  rw [dc_t ⟨Or.inr ⟨ho1,hq2,hk2,hm⟩,he,hall,hb⟩]
                  first | (have QKq2:=QKq20 (show 1 < q by omega);clear QKq20) | clear QKq20
                  first | (have QKq:=QKq0 (show 0 < q by omega);clear QKq0) | clear QKq0
                  first | clear ho ho1 | clear ho
                  go_enter Try.func62,Try.ntmps62
                  go_wp2_with (first
                    | (go_at_call 79;first | (with_reducible refine QKq.mono ?_;rintro e w1 ⟨rfl,rfl⟩) | (with_reducible refine QKq2.mono ?_;rintro e w1 ⟨rfl,rfl⟩))
                    | (go_at_call 81;first | (refine Qhall.mono ?_;rintro e w1 ⟨rfl,rfl⟩))
                    | (go_at_call 83;refine (sp_many _ _).mono ?_;rintro e w1 ⟨rfl,rfl⟩;first | rw [HMt] | rw [HMf] | skip)
                    | (go_at_call 80;refine (QB _).mono ?_;rintro e w2 ⟨rfl,k2⟩;have HK2 : Hid (Kb 0 _ w2):=k2;clear k2))
                  go_ret
                  exact ⟨by first | rfl | (simp only [*];rfl) | simp [*],by first | exact kb_alloc _ _ _ | exact (kb_alloc _ _ _).trans (show Kb 0 _ _ from HK2)⟩
                · rw [dc_f hb] at QB
                  rw [dc_f (fun g=>(hb) (g.2.2.2))]
                  first | (have QKq2:=QKq20 (show 1 < q by omega);clear QKq20) | clear QKq20
                  first | (have QKq:=QKq0 (show 0 < q by omega);clear QKq0) | clear QKq0
                  first | clear ho ho1 | clear ho
                  go_enter Try.func62,Try.ntmps62
                  go_wp2_with (first
                    | (go_at_call 79;first | (with_reducible refine QKq.mono ?_;rintro e w1 ⟨rfl,rfl⟩) | (with_reducible refine QKq2.mono ?_;rintro e w1 ⟨rfl,rfl⟩))
                    | (go_at_call 81;first | (refine Qhall.mono ?_;rintro e w1 ⟨rfl,rfl⟩))
                    | (go_at_call 83;refine (sp_many _ _).mono ?_;rintro e w1 ⟨rfl,rfl⟩;first | rw [HMt] | rw [HMf] | skip)
                    | (go_at_call 80;refine (QB _).mono ?_;rintro e w2 ⟨rfl,k2⟩;have HK2 : Hid (Kb 0 _ w2):=k2;clear k2))
                  go_ret
                  exact ⟨by first | rfl | (simp only [*];rfl) | simp [*],by first | exact kb_alloc _ _ _ | exact (kb_alloc _ _ _).trans (show Kb 0 _ _ from HK2)⟩
              · rw [dc_f hall] at Qhall
                rw [dc_f (fun g=>(hall) (g.2.2.1))]
                first | (have QKq2:=QKq20 (show 1 < q by omega);clear QKq20) | clear QKq20
                first | (have QKq:=QKq0 (show 0 < q by omega);clear QKq0) | clear QKq0
                first | clear ho ho1 | clear ho
                go_enter Try.func62,Try.ntmps62
                go_wp2_with (first
                  | (go_at_call 79;first | (with_reducible refine QKq.mono ?_;rintro e w1 ⟨rfl,rfl⟩) | (with_reducible refine QKq2.mono ?_;rintro e w1 ⟨rfl,rfl⟩))
                  | (go_at_call 81;first | (refine Qhall.mono ?_;rintro e w1 ⟨rfl,rfl⟩))
                  | (go_at_call 83;refine (sp_many _ _).mono ?_;rintro e w1 ⟨rfl,rfl⟩;first | rw [HMt] | rw [HMf] | skip)
                  | (go_at_call 80;refine (QB _).mono ?_;rintro e w2 ⟨rfl,k2⟩;have HK2 : Hid (Kb 0 _ w2):=k2;clear k2))
                go_ret
                exact ⟨by first | rfl | (simp only [*];rfl) | simp [*],by first | exact kb_alloc _ _ _ | exact (kb_alloc _ _ _).trans (show Kb 0 _ _ from HK2)⟩
            · have ge : Int.tmod (q : Int) 2 = 1:=by rw [show Int.tmod (q : Int) 2 = ((q % 2 : Nat) : Int) from rfl,show q % 2 = 1 by omega];rfl
              rw [dc_f (fun g=>(he) (g.2.1))]
              first | (have QKq2:=QKq20 (show 1 < q by omega);clear QKq20) | clear QKq20
              first | (have QKq:=QKq0 (show 0 < q by omega);clear QKq0) | clear QKq0
              first | clear ho ho1 | clear ho
              go_enter Try.func62,Try.ntmps62
              go_wp2_with (first
                | (go_at_call 79;first | (with_reducible refine QKq.mono ?_;rintro e w1 ⟨rfl,rfl⟩) | (with_reducible refine QKq2.mono ?_;rintro e w1 ⟨rfl,rfl⟩))
                | (go_at_call 81;first | (refine Qhall.mono ?_;rintro e w1 ⟨rfl,rfl⟩))
                | (go_at_call 83;refine (sp_many _ _).mono ?_;rintro e w1 ⟨rfl,rfl⟩;first | rw [HMt] | rw [HMf] | skip)
                | (go_at_call 80;refine (QB _).mono ?_;rintro e w2 ⟨rfl,k2⟩;have HK2 : Hid (Kb 0 _ w2):=k2;clear k2))
              go_ret
              exact ⟨by first | rfl | (simp only [*];rfl) | simp [*],by first | exact kb_alloc _ _ _ | exact (kb_alloc _ _ _).trans (show Kb 0 _ _ from HK2)⟩
          · have HMf:=dc_f hm
            by_cases he : q % 2 = 0
            · have ge : Int.tmod (q : Int) 2 = 0:=by rw [show Int.tmod (q : Int) 2 = ((q % 2 : Nat) : Int) from rfl,he];rfl
              by_cases hall : exf 0 q
              · rw [dc_t hall] at Qhall
                rw [dc_f (fun g=>(fun o=>o.elim ho (fun o=>hm o.2.2.2)) (g.1))]
                first | (have QKq2:=QKq20 (show 1 < q by omega);clear QKq20) | clear QKq20
                first | (have QKq:=QKq0 (show 0 < q by omega);clear QKq0) | clear QKq0
                first | clear ho ho1 | clear ho
                go_enter Try.func62,Try.ntmps62
                go_wp2_with (first
                  | (go_at_call 79;first | (with_reducible refine QKq.mono ?_;rintro e w1 ⟨rfl,rfl⟩) | (with_reducible refine QKq2.mono ?_;rintro e w1 ⟨rfl,rfl⟩))
                  | (go_at_call 81;first | (refine Qhall.mono ?_;rintro e w1 ⟨rfl,rfl⟩))
                  | (go_at_call 83;refine (sp_many _ _).mono ?_;rintro e w1 ⟨rfl,rfl⟩;first | rw [HMt] | rw [HMf] | skip)
                  | (go_at_call 80;refine (QB _).mono ?_;rintro e w2 ⟨rfl,k2⟩;have HK2 : Hid (Kb 0 _ w2):=k2;clear k2))
                go_ret
                exact ⟨by first | rfl | (simp only [*];rfl) | simp [*],by first | exact kb_alloc _ _ _ | exact (kb_alloc _ _ _).trans (show Kb 0 _ _ from HK2)⟩
              · rw [dc_f hall] at Qhall
                rw [dc_f (fun g=>(fun o=>o.elim ho (fun o=>hm o.2.2.2)) (g.1))]
                first | (have QKq2:=QKq20 (show 1 < q by omega);clear QKq20) | clear QKq20
                first | (have QKq:=QKq0 (show 0 < q by omega);clear QKq0) | clear QKq0
                first | clear ho ho1 | clear ho
                go_enter Try.func62,Try.ntmps62
                go_wp2_with (first
                  | (go_at_call 79;first | (with_reducible refine QKq.mono ?_;rintro e w1 ⟨rfl,rfl⟩) | (with_reducible refine QKq2.mono ?_;rintro e w1 ⟨rfl,rfl⟩))
                  | (go_at_call 81;first | (refine Qhall.mono ?_;rintro e w1 ⟨rfl,rfl⟩))
                  | (go_at_call 83;refine (sp_many _ _).mono ?_;rintro e w1 ⟨rfl,rfl⟩;first | rw [HMt] | rw [HMf] | skip)
                  | (go_at_call 80;refine (QB _).mono ?_;rintro e w2 ⟨rfl,k2⟩;have HK2 : Hid (Kb 0 _ w2):=k2;clear k2))
                go_ret
                exact ⟨by first | rfl | (simp only [*];rfl) | simp [*],by first | exact kb_alloc _ _ _ | exact (kb_alloc _ _ _).trans (show Kb 0 _ _ from HK2)⟩
            · have ge : Int.tmod (q : Int) 2 = 1:=by rw [show Int.tmod (q : Int) 2 = ((q % 2 : Nat) : Int) from rfl,show q % 2 = 1 by omega];rfl
              rw [dc_f (fun g=>(fun o=>o.elim ho (fun o=>hm o.2.2.2)) (g.1))]
              first | (have QKq2:=QKq20 (show 1 < q by omega);clear QKq20) | clear QKq20
              first | (have QKq:=QKq0 (show 0 < q by omega);clear QKq0) | clear QKq0
              first | clear ho ho1 | clear ho
              go_enter Try.func62,Try.ntmps62
              go_wp2_with (first
                | (go_at_call 79;first | (with_reducible refine QKq.mono ?_;rintro e w1 ⟨rfl,rfl⟩) | (with_reducible refine QKq2.mono ?_;rintro e w1 ⟨rfl,rfl⟩))
                | (go_at_call 81;first | (refine Qhall.mono ?_;rintro e w1 ⟨rfl,rfl⟩))
                | (go_at_call 83;refine (sp_many _ _).mono ?_;rintro e w1 ⟨rfl,rfl⟩;first | rw [HMt] | rw [HMf] | skip)
                | (go_at_call 80;refine (QB _).mono ?_;rintro e w2 ⟨rfl,k2⟩;have HK2 : Hid (Kb 0 _ w2):=k2;clear k2))
              go_ret
              exact ⟨by first | rfl | (simp only [*];rfl) | simp [*],by first | exact kb_alloc _ _ _ | exact (kb_alloc _ _ _).trans (show Kb 0 _ _ from HK2)⟩
        · have gk2:=bne hk2
          by_cases he : q % 2 = 0
          · have ge : Int.tmod (q : Int) 2 = 0:=by rw [show Int.tmod (q : Int) 2 = ((q % 2 : Nat) : Int) from rfl,he];rfl
            by_cases hall : exf 0 q
            · rw [dc_t hall] at Qhall
              rw [dc_f (fun g=>(fun o=>o.elim ho (fun o=>hk2 o.2.2.1)) (g.1))]
              first | (have QKq2:=QKq20 (show 1 < q by omega);clear QKq20) | clear QKq20
              first | (have QKq:=QKq0 (show 0 < q by omega);clear QKq0) | clear QKq0
              first | clear ho ho1 | clear ho
              go_enter Try.func62,Try.ntmps62
              go_wp2_with (first
                | (go_at_call 79;first | (with_reducible refine QKq.mono ?_;rintro e w1 ⟨rfl,rfl⟩) | (with_reducible refine QKq2.mono ?_;rintro e w1 ⟨rfl,rfl⟩))
                | (go_at_call 81;first | (refine Qhall.mono ?_;rintro e w1 ⟨rfl,rfl⟩))
                | (go_at_call 83;refine (sp_many _ _).mono ?_;rintro e w1 ⟨rfl,rfl⟩;first | rw [HMt] | rw [HMf] | skip)
                | (go_at_call 80;refine (QB _).mono ?_;rintro e w2 ⟨rfl,k2⟩;have HK2 : Hid (Kb 0 _ w2):=k2;clear k2))
              go_ret
              exact ⟨by first | rfl | (simp only [*];rfl) | simp [*],by first | exact kb_alloc _ _ _ | exact (kb_alloc _ _ _).trans (show Kb 0 _ _ from HK2)⟩
            · rw [dc_f hall] at Qhall
              rw [dc_f (fun g=>(fun o=>o.elim ho (fun o=>hk2 o.2.2.1)) (g.1))]
              first | (have QKq2:=QKq20 (show 1 < q by omega);clear QKq20) | clear QKq20
              first | (have QKq:=QKq0 (show 0 < q by omega);clear QKq0) | clear QKq0
              first | clear ho ho1 | clear ho
              go_enter Try.func62,Try.ntmps62
              go_wp2_with (first
                | (go_at_call 79;first | (with_reducible refine QKq.mono ?_;rintro e w1 ⟨rfl,rfl⟩) | (with_reducible refine QKq2.mono ?_;rintro e w1 ⟨rfl,rfl⟩))
                | (go_at_call 81;first | (refine Qhall.mono ?_;rintro e w1 ⟨rfl,rfl⟩))
                | (go_at_call 83;refine (sp_many _ _).mono ?_;rintro e w1 ⟨rfl,rfl⟩;first | rw [HMt] | rw [HMf] | skip)
                | (go_at_call 80;refine (QB _).mono ?_;rintro e w2 ⟨rfl,k2⟩;have HK2 : Hid (Kb 0 _ w2):=k2;clear k2))
              go_ret
              exact ⟨by first | rfl | (simp only [*];rfl) | simp [*],by first | exact kb_alloc _ _ _ | exact (kb_alloc _ _ _).trans (show Kb 0 _ _ from HK2)⟩
          · have ge : Int.tmod (q : Int) 2 = 1:=by rw [show Int.tmod (q : Int) 2 = ((q % 2 : Nat) : Int) from rfl,show q % 2 = 1 by omega];rfl
            rw [dc_f (fun g=>(fun o=>o.elim ho (fun o=>hk2 o.2.2.1)) (g.1))]
            first | (have QKq2:=QKq20 (show 1 < q by omega);clear QKq20) | clear QKq20
            first | (have QKq:=QKq0 (show 0 < q by omega);clear QKq0) | clear QKq0
            first | clear ho ho1 | clear ho
            go_enter Try.func62,Try.ntmps62
            go_wp2_with (first
              | (go_at_call 79;first | (with_reducible refine QKq.mono ?_;rintro e w1 ⟨rfl,rfl⟩) | (with_reducible refine QKq2.mono ?_;rintro e w1 ⟨rfl,rfl⟩))
              | (go_at_call 81;first | (refine Qhall.mono ?_;rintro e w1 ⟨rfl,rfl⟩))
              | (go_at_call 83;refine (sp_many _ _).mono ?_;rintro e w1 ⟨rfl,rfl⟩;first | rw [HMt] | rw [HMf] | skip)
              | (go_at_call 80;refine (QB _).mono ?_;rintro e w2 ⟨rfl,k2⟩;have HK2 : Hid (Kb 0 _ w2):=k2;clear k2))
            go_ret
            exact ⟨by first | rfl | (simp only [*];rfl) | simp [*],by first | exact kb_alloc _ _ _ | exact (kb_alloc _ _ _).trans (show Kb 0 _ _ from HK2)⟩
      · have gq2 : ¬ (2 : Int) ≤ (q : Int):=by omega
        by_cases he : q % 2 = 0
        · have ge : Int.tmod (q : Int) 2 = 0:=by rw [show Int.tmod (q : Int) 2 = ((q % 2 : Nat) : Int) from rfl,he];rfl
          by_cases hall : exf 0 q
          · rw [dc_t hall] at Qhall
            rw [dc_f (fun g=>(fun o=>o.elim ho (fun o=>hq2 o.2.1)) (g.1))]
            first | (have QKq2:=QKq20 (show 1 < q by omega);clear QKq20) | clear QKq20
            first | (have QKq:=QKq0 (show 0 < q by omega);clear QKq0) | clear QKq0
            first | clear ho ho1 | clear ho
            go_enter Try.func62,Try.ntmps62
            go_wp2_with (first
              | (go_at_call 79;first | (with_reducible refine QKq.mono ?_;rintro e w1 ⟨rfl,rfl⟩) | (with_reducible refine QKq2.mono ?_;rintro e w1 ⟨rfl,rfl⟩))
              | (go_at_call 81;first | (refine Qhall.mono ?_;rintro e w1 ⟨rfl,rfl⟩))
              | (go_at_call 83;refine (sp_many _ _).mono ?_;rintro e w1 ⟨rfl,rfl⟩;first | rw [HMt] | rw [HMf] | skip)
              | (go_at_call 80;refine (QB _).mono ?_;rintro e w2 ⟨rfl,k2⟩;have HK2 : Hid (Kb 0 _ w2):=k2;clear k2))
            go_ret
            exact ⟨by first | rfl | (simp only [*];rfl) | simp [*],by first | exact kb_alloc _ _ _ | exact (kb_alloc _ _ _).trans (show Kb 0 _ _ from HK2)⟩
          · rw [dc_f hall] at Qhall
            rw [dc_f (fun g=>(fun o=>o.elim ho (fun o=>hq2 o.2.1)) (g.1))]
            first | (have QKq2:=QKq20 (show 1 < q by omega);clear QKq20) | clear QKq20
            first | (have QKq:=QKq0 (show 0 < q by omega);clear QKq0) | clear QKq0
            first | clear ho ho1 | clear ho
            go_enter Try.func62,Try.ntmps62
            go_wp2_with (first
              | (go_at_call 79;first | (with_reducible refine QKq.mono ?_;rintro e w1 ⟨rfl,rfl⟩) | (with_reducible refine QKq2.mono ?_;rintro e w1 ⟨rfl,rfl⟩))
              | (go_at_call 81;first | (refine Qhall.mono ?_;rintro e w1 ⟨rfl,rfl⟩))
              | (go_at_call 83;refine (sp_many _ _).mono ?_;rintro e w1 ⟨rfl,rfl⟩;first | rw [HMt] | rw [HMf] | skip)
              | (go_at_call 80;refine (QB _).mono ?_;rintro e w2 ⟨rfl,k2⟩;have HK2 : Hid (Kb 0 _ w2):=k2;clear k2))
            go_ret
            exact ⟨by first | rfl | (simp only [*];rfl) | simp [*],by first | exact kb_alloc _ _ _ | exact (kb_alloc _ _ _).trans (show Kb 0 _ _ from HK2)⟩
        · have ge : Int.tmod (q : Int) 2 = 1:=by rw [show Int.tmod (q : Int) 2 = ((q % 2 : Nat) : Int) from rfl,show q % 2 = 1 by omega];rfl
          rw [dc_f (fun g=>(fun o=>o.elim ho (fun o=>hq2 o.2.1)) (g.1))]
          first | (have QKq2:=QKq20 (show 1 < q by omega);clear QKq20) | clear QKq20
          first | (have QKq:=QKq0 (show 0 < q by omega);clear QKq0) | clear QKq0
          first | clear ho ho1 | clear ho
          go_enter Try.func62,Try.ntmps62
          go_wp2_with (first
            | (go_at_call 79;first | (with_reducible refine QKq.mono ?_;rintro e w1 ⟨rfl,rfl⟩) | (with_reducible refine QKq2.mono ?_;rintro e w1 ⟨rfl,rfl⟩))
            | (go_at_call 81;first | (refine Qhall.mono ?_;rintro e w1 ⟨rfl,rfl⟩))
            | (go_at_call 83;refine (sp_many _ _).mono ?_;rintro e w1 ⟨rfl,rfl⟩;first | rw [HMt] | rw [HMf] | skip)
            | (go_at_call 80;refine (QB _).mono ?_;rintro e w2 ⟨rfl,k2⟩;have HK2 : Hid (Kb 0 _ w2):=k2;clear k2))
          go_ret
          exact ⟨by first | rfl | (simp only [*];rfl) | simp [*],by first | exact kb_alloc _ _ _ | exact (kb_alloc _ _ _).trans (show Kb 0 _ _ from HK2)⟩
    · have go1:=bne ho1
      by_cases he : q % 2 = 0
      · have ge : Int.tmod (q : Int) 2 = 0:=by rw [show Int.tmod (q : Int) 2 = ((q % 2 : Nat) : Int) from rfl,he];rfl
        by_cases hall : exf 0 q
        · rw [dc_t hall] at Qhall
          rw [dc_f (fun g=>(fun o=>o.elim ho (fun o=>ho1 o.1)) (g.1))]
          first | (have QKq2:=QKq20 (show 1 < q by omega);clear QKq20) | clear QKq20
          first | (have QKq:=QKq0 (show 0 < q by omega);clear QKq0) | clear QKq0
          first | clear ho ho1 | clear ho
          go_enter Try.func62,Try.ntmps62
          go_wp2_with (first
            | (go_at_call 79;first | (with_reducible refine QKq.mono ?_;rintro e w1 ⟨rfl,rfl⟩) | (with_reducible refine QKq2.mono ?_;rintro e w1 ⟨rfl,rfl⟩))
            | (go_at_call 81;first | (refine Qhall.mono ?_;rintro e w1 ⟨rfl,rfl⟩))
            | (go_at_call 83;refine (sp_many _ _).mono ?_;rintro e w1 ⟨rfl,rfl⟩;first | rw [HMt] | rw [HMf] | skip)
            | (go_at_call 80;refine (QB _).mono ?_;rintro e w2 ⟨rfl,k2⟩;have HK2 : Hid (Kb 0 _ w2):=k2;clear k2))
          go_ret
          exact ⟨by first | rfl | (simp only [*];rfl) | simp [*],by first | exact kb_alloc _ _ _ | exact (kb_alloc _ _ _).trans (show Kb 0 _ _ from HK2)⟩
        · rw [dc_f hall] at Qhall
          rw [dc_f (fun g=>(fun o=>o.elim ho (fun o=>ho1 o.1)) (g.1))]
          first | (have QKq2:=QKq20 (show 1 < q by omega);clear QKq20) | clear QKq20
          first | (have QKq:=QKq0 (show 0 < q by omega);clear QKq0) | clear QKq0
          first | clear ho ho1 | clear ho
          go_enter Try.func62,Try.ntmps62
          go_wp2_with (first
            | (go_at_call 79;first | (with_reducible refine QKq.mono ?_;rintro e w1 ⟨rfl,rfl⟩) | (with_reducible refine QKq2.mono ?_;rintro e w1 ⟨rfl,rfl⟩))
            | (go_at_call 81;first | (refine Qhall.mono ?_;rintro e w1 ⟨rfl,rfl⟩))
            | (go_at_call 83;refine (sp_many _ _).mono ?_;rintro e w1 ⟨rfl,rfl⟩;first | rw [HMt] | rw [HMf] | skip)
            | (go_at_call 80;refine (QB _).mono ?_;rintro e w2 ⟨rfl,k2⟩;have HK2 : Hid (Kb 0 _ w2):=k2;clear k2))
          go_ret
          exact ⟨by first | rfl | (simp only [*];rfl) | simp [*],by first | exact kb_alloc _ _ _ | exact (kb_alloc _ _ _).trans (show Kb 0 _ _ from HK2)⟩
      · have ge : Int.tmod (q : Int) 2 = 1:=by rw [show Int.tmod (q : Int) 2 = ((q % 2 : Nat) : Int) from rfl,show q % 2 = 1 by omega];rfl
        rw [dc_f (fun g=>(fun o=>o.elim ho (fun o=>ho1 o.1)) (g.1))]
        first | (have QKq2:=QKq20 (show 1 < q by omega);clear QKq20) | clear QKq20
        first | (have QKq:=QKq0 (show 0 < q by omega);clear QKq0) | clear QKq0
        first | clear ho ho1 | clear ho
        go_enter Try.func62,Try.ntmps62
        go_wp2_with (first
          | (go_at_call 79;first | (with_reducible refine QKq.mono ?_;rintro e w1 ⟨rfl,rfl⟩) | (with_reducible refine QKq2.mono ?_;rintro e w1 ⟨rfl,rfl⟩))
          | (go_at_call 81;first | (refine Qhall.mono ?_;rintro e w1 ⟨rfl,rfl⟩))
          | (go_at_call 83;refine (sp_many _ _).mono ?_;rintro e w1 ⟨rfl,rfl⟩;first | rw [HMt] | rw [HMf] | skip)
          | (go_at_call 80;refine (QB _).mono ?_;rintro e w2 ⟨rfl,k2⟩;have HK2 : Hid (Kb 0 _ w2):=k2;clear k2))
        go_ret
        exact ⟨by first | rfl | (simp only [*];rfl) | simp [*],by first | exact kb_alloc _ _ _ | exact (kb_alloc _ _ _).trans (show Kb 0 _ _ from HK2)⟩
end Go.Proofs.Ytipiahdcmjchjaa.Fo
