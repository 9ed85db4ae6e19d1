import Derived.Test.YtfpidccjcemcjaaGreatMZsq
import Derived.Test.YtfpidccjcemcjaaGreatMNdn
set_option maxHeartbeats 16000000
namespace Go.Proofs.YtfpidccjcemcjaaGreat.Fo
open Go.ChangeShapes Go.WideShapes Go.ChangeAt Go.RowKit
set_option linter.unusedVariables false
set_option maxRecDepth 100000
theorem ex_35 {A : Addr} {n ca t : Nat} {a : Nv} {pr pk : Option Addr} {p cr q ck : Nat} {kdf : Nat → Int} {exf : Nat → Nat → Prop} (w : World) (hx : Nst w A n ca t a pr p cr pk q ck kdf exf) (hk : a.k = 35) :
  Calls Tryz.prog 55 #[.slice (some A) n ca,.int .i64 (t:Int)] w fun e w'=>e = .returned (.bool (dc ((a.o=0∨a.o=1∧2≤q∧kdf (q - 2)=23∧(kdf (q - 1)=34∨kdf (q - 1)=37))∧q % 2=0∧exf 0 q∧Br true false false false a p 0)))∧Kb 0 w w':=by
 obtain ⟨d0,d1,d2,d3,d4,d5,d6,d7⟩:=hx.cel
 have hnI:(n:Int)≤1048576:=by have:=hx.hn;omega
 have hpI:(p:Int)≤1048576:=by have:=hx.hp;omega
 have hqN:=hx.hq
 have hqI:(q:Int)≤1048576:=by omega
 have htI:(t:Int) < (n:Int):=by have:=hx.ht;omega
 have QKq0 : 0 < q→Calls Tryz.prog 71 #[.slice (some A) n ca,.int .i64 (t:Int),.int .i64 ((q:Int) - 1)] (w.alloc (.cells #[.int .i64 a.k,.int .i64 a.l,.int .i64 a.o,.int .i64 a.m,.float .f64 a.g,.string a.x,.slice pr p cr,.slice pk q ck] 59)) fun e w'=>e = .returned (.int .i64 (kdf (q - 1)))∧w'=(w.alloc (.cells #[.int .i64 a.k,.int .i64 a.l,.int .i64 a.o,.int .i64 a.m,.float .f64 a.g,.string a.x,.slice pr p cr,.slice pk q ck] 59)):=fun h=>by
  have:=hx.kid (q - 1) _ (kb_alloc 0 w (.cells #[.int .i64 a.k,.int .i64 a.l,.int .i64 a.o,.int .i64 a.m,.float .f64 a.g,.string a.x,.slice pr p cr,.slice pk q ck] 59)) (by omega)
  rw [show ((q - 1:Nat):Int)=(q:Int) - 1 by omega] at this
  exact this
 have QKq20 : 1 < q→Calls Tryz.prog 71 #[.slice (some A) n ca,.int .i64 (t:Int),.int .i64 ((q:Int) - 2)] (w.alloc (.cells #[.int .i64 a.k,.int .i64 a.l,.int .i64 a.o,.int .i64 a.m,.float .f64 a.g,.string a.x,.slice pr p cr,.slice pk q ck] 59)) fun e w'=>e = .returned (.int .i64 (kdf (q - 2)))∧w'=(w.alloc (.cells #[.int .i64 a.k,.int .i64 a.l,.int .i64 a.o,.int .i64 a.m,.float .f64 a.g,.string a.x,.slice pr p cr,.slice pk q ck] 59)):=fun h=>by
  have:=hx.kid (q - 2) _ (kb_alloc 0 w (.cells #[.int .i64 a.k,.int .i64 a.l,.int .i64 a.o,.int .i64 a.m,.float .f64 a.g,.string a.x,.slice pr p cr,.slice pk q ck] 59)) (by omega)
  rw [show ((q - 2:Nat):Int)=(q:Int) - 2 by omega] at this
  exact this
 have Qhall:Calls Tryz.prog 73 #[.slice (some A) n ca,.int .i64 (t:Int),.int .i64 0,.int .i64 (q:Int)] (w.alloc (.cells #[.int .i64 a.k,.int .i64 a.l,.int .i64 a.o,.int .i64 a.m,.float .f64 a.g,.string a.x,.slice pr p cr,.slice pk q ck] 59)) fun e w'=>e = .returned (.bool (dc (exf 0 q)))∧w'=(w.alloc (.cells #[.int .i64 a.k,.int .i64 a.l,.int .i64 a.o,.int .i64 a.m,.float .f64 a.g,.string a.x,.slice pr p cr,.slice pk q ck] 59)):=hx.exp 0 q _ (kb_alloc _ _ _) (by omega) (by omega)
 have QB:=fun W=>sp_bare_o a hx.hg pr p cr pk q ck 0 (by omega) hx.hp W
 unfold ndv at QB
 rw [hk] at d0 QB  Qhall QKq0 QKq20
 have HG:Hid (a.g < 18446744073709551616):=hx.hg
 clear hx
 have hst:=hst0
 have HQ:Hid (q≤1048576):=hqN
 clear hqN
 by_cases ho:a.o=0
 ·have go0:=beq1 ho
  by_cases he:q % 2=0
  ·have ge:Int.tmod (q:Int) 2=0:=by rw [show Int.tmod (q:Int) 2=((q % 2:Nat):Int) from rfl,he];rfl
   by_cases hall:exf 0 q
   ·rw [dc_t hall] at Qhall
    by_cases hb:Br true false false false a p 0
    ·rw [dc_t hb] at QB
     rw [dc_t ⟨Or.inl ho,he,hall,hb⟩]
     first | (have QKq2:=QKq20 (show 1 < q by omega);clear QKq20) | clear QKq20
     first | (have QKq:=QKq0 (show 0 < q by omega);clear QKq0) | clear QKq0
     first | clear ho ho1 | clear ho
     go_enter Tryz.func55,Tryz.ntmps55
     go_wp2_with (first
      | (go_at_call 71;first | (with_reducible refine QKq.mono ?_;rintro e w1 ⟨rfl,rfl⟩) | (with_reducible refine QKq2.mono ?_;rintro e w1 ⟨rfl,rfl⟩))
      | (go_at_call 73;first | (refine Qhall.mono ?_;rintro e w1 ⟨rfl,rfl⟩))
      | (go_at_call 75;refine (sp_many _ _).mono ?_;rintro e w1 ⟨rfl,rfl⟩;first | rw [HMt] | rw [HMf] | skip)
      | (go_at_call 72;refine (QB _).mono ?_;rintro e w2 ⟨rfl,k2⟩;have HK2:Hid (Kb 0 _ w2):=k2;clear k2))
     go_ret
     exact ⟨by first | rfl | (simp only [*];rfl) | simp [*],by first | exact kb_alloc _ _ _ | exact (kb_alloc _ _ _).trans (uh HK2)⟩
    ·rw [dc_f hb] at QB
     rw [dc_f (fun g=>(hb) (g.2.2.2))]
     first | (have QKq2:=QKq20 (show 1 < q by omega);clear QKq20) | clear QKq20
     first | (have QKq:=QKq0 (show 0 < q by omega);clear QKq0) | clear QKq0
     first | clear ho ho1 | clear ho
     go_enter Tryz.func55,Tryz.ntmps55
     go_wp2_with (first
      | (go_at_call 71;first | (with_reducible refine QKq.mono ?_;rintro e w1 ⟨rfl,rfl⟩) | (with_reducible refine QKq2.mono ?_;rintro e w1 ⟨rfl,rfl⟩))
      | (go_at_call 73;first | (refine Qhall.mono ?_;rintro e w1 ⟨rfl,rfl⟩))
      | (go_at_call 75;refine (sp_many _ _).mono ?_;rintro e w1 ⟨rfl,rfl⟩;first | rw [HMt] | rw [HMf] | skip)
      | (go_at_call 72;refine (QB _).mono ?_;rintro e w2 ⟨rfl,k2⟩;have HK2:Hid (Kb 0 _ w2):=k2;clear k2))
     go_ret
     exact ⟨by first | rfl | (simp only [*];rfl) | simp [*],by first | exact kb_alloc _ _ _ | exact (kb_alloc _ _ _).trans (uh HK2)⟩
   ·rw [dc_f hall] at Qhall
    rw [dc_f (fun g=>(hall) (g.2.2.1))]
    first | (have QKq2:=QKq20 (show 1 < q by omega);clear QKq20) | clear QKq20
    first | (have QKq:=QKq0 (show 0 < q by omega);clear QKq0) | clear QKq0
    first | clear ho ho1 | clear ho
    go_enter Tryz.func55,Tryz.ntmps55
    go_wp2_with (first
     | (go_at_call 71;first | (with_reducible refine QKq.mono ?_;rintro e w1 ⟨rfl,rfl⟩) | (with_reducible refine QKq2.mono ?_;rintro e w1 ⟨rfl,rfl⟩))
     | (go_at_call 73;first | (refine Qhall.mono ?_;rintro e w1 ⟨rfl,rfl⟩))
     | (go_at_call 75;refine (sp_many _ _).mono ?_;rintro e w1 ⟨rfl,rfl⟩;first | rw [HMt] | rw [HMf] | skip)
     | (go_at_call 72;refine (QB _).mono ?_;rintro e w2 ⟨rfl,k2⟩;have HK2:Hid (Kb 0 _ w2):=k2;clear k2))
    go_ret
    exact ⟨by first | rfl | (simp only [*];rfl) | simp [*],by first | exact kb_alloc _ _ _ | exact (kb_alloc _ _ _).trans (uh HK2)⟩
  ·have ge:Int.tmod (q:Int) 2=1:=by rw [show Int.tmod (q:Int) 2=((q % 2:Nat):Int) from rfl,show q % 2=1 by omega];rfl
   rw [dc_f (fun g=>(he) (g.2.1))]
   first | (have QKq2:=QKq20 (show 1 < q by omega);clear QKq20) | clear QKq20
   first | (have QKq:=QKq0 (show 0 < q by omega);clear QKq0) | clear QKq0
   first | clear ho ho1 | clear ho
   go_enter Tryz.func55,Tryz.ntmps55
   go_wp2_with (first
    | (go_at_call 71;first | (with_reducible refine QKq.mono ?_;rintro e w1 ⟨rfl,rfl⟩) | (with_reducible refine QKq2.mono ?_;rintro e w1 ⟨rfl,rfl⟩))
    | (go_at_call 73;first | (refine Qhall.mono ?_;rintro e w1 ⟨rfl,rfl⟩))
    | (go_at_call 75;refine (sp_many _ _).mono ?_;rintro e w1 ⟨rfl,rfl⟩;first | rw [HMt] | rw [HMf] | skip)
    | (go_at_call 72;refine (QB _).mono ?_;rintro e w2 ⟨rfl,k2⟩;have HK2:Hid (Kb 0 _ w2):=k2;clear k2))
   go_ret
   exact ⟨by first | rfl | (simp only [*];rfl) | simp [*],by first | exact kb_alloc _ _ _ | exact (kb_alloc _ _ _).trans (uh HK2)⟩
 ·have go0:=bne ho
  by_cases ho1:a.o=1
  ·have go1:=beq1 ho1
   by_cases hq2 : 2≤q
   ·have gq2:(2:Int)≤(q:Int):=by omega
    by_cases hk2:kdf (q - 2)=23
    ·have gk2:=beq1 hk2
     by_cases hm:kdf (q - 1)=34∨kdf (q - 1)=37
     ·have HMt:=dc_t hm
      by_cases he:q % 2=0
      ·have ge:Int.tmod (q:Int) 2=0:=by rw [show Int.tmod (q:Int) 2=((q % 2:Nat):Int) from rfl,he];rfl
       by_cases hall:exf 0 q
       ·rw [dc_t hall] at Qhall
        by_cases hb:Br true false false false a p 0
        ·rw [dc_t hb] at QB
         rw [dc_t ⟨Or.inr ⟨ho1,hq2,hk2,hm⟩,he,hall,hb⟩]
         first | (have QKq2:=QKq20 (show 1 < q by omega);clear QKq20) | clear QKq20
         first | (have QKq:=QKq0 (show 0 < q by omega);clear QKq0) | clear QKq0
         first | clear ho ho1 | clear ho
         go_enter Tryz.func55,Tryz.ntmps55
         go_wp2_with (first
          | (go_at_call 71;first | (with_reducible refine QKq.mono ?_;rintro e w1 ⟨rfl,rfl⟩) | (with_reducible refine QKq2.mono ?_;rintro e w1 ⟨rfl,rfl⟩))
          | (go_at_call 73;first | (refine Qhall.mono ?_;rintro e w1 ⟨rfl,rfl⟩))
          | (go_at_call 75;refine (sp_many _ _).mono ?_;rintro e w1 ⟨rfl,rfl⟩;first | rw [HMt] | rw [HMf] | skip)
          | (go_at_call 72;refine (QB _).mono ?_;rintro e w2 ⟨rfl,k2⟩;have HK2:Hid (Kb 0 _ w2):=k2;clear k2))
         go_ret
         exact ⟨by first | rfl | (simp only [*];rfl) | simp [*],by first | exact kb_alloc _ _ _ | exact (kb_alloc _ _ _).trans (uh HK2)⟩
        ·rw [dc_f hb] at QB
         rw [dc_f (fun g=>(hb) (g.2.2.2))]
         first | (have QKq2:=QKq20 (show 1 < q by omega);clear QKq20) | clear QKq20
         first | (have QKq:=QKq0 (show 0 < q by omega);clear QKq0) | clear QKq0
         first | clear ho ho1 | clear ho
         go_enter Tryz.func55,Tryz.ntmps55
         go_wp2_with (first
          | (go_at_call 71;first | (with_reducible refine QKq.mono ?_;rintro e w1 ⟨rfl,rfl⟩) | (with_reducible refine QKq2.mono ?_;rintro e w1 ⟨rfl,rfl⟩))
          | (go_at_call 73;first | (refine Qhall.mono ?_;rintro e w1 ⟨rfl,rfl⟩))
          | (go_at_call 75;refine (sp_many _ _).mono ?_;rintro e w1 ⟨rfl,rfl⟩;first | rw [HMt] | rw [HMf] | skip)
          | (go_at_call 72;refine (QB _).mono ?_;rintro e w2 ⟨rfl,k2⟩;have HK2:Hid (Kb 0 _ w2):=k2;clear k2))
         go_ret
         exact ⟨by first | rfl | (simp only [*];rfl) | simp [*],by first | exact kb_alloc _ _ _ | exact (kb_alloc _ _ _).trans (uh HK2)⟩
       ·rw [dc_f hall] at Qhall
        rw [dc_f (fun g=>(hall) (g.2.2.1))]
        first | (have QKq2:=QKq20 (show 1 < q by omega);clear QKq20) | clear QKq20
        first | (have QKq:=QKq0 (show 0 < q by omega);clear QKq0) | clear QKq0
        first | clear ho ho1 | clear ho
        go_enter Tryz.func55,Tryz.ntmps55
        go_wp2_with (first
         | (go_at_call 71;first | (with_reducible refine QKq.mono ?_;rintro e w1 ⟨rfl,rfl⟩) | (with_reducible refine QKq2.mono ?_;rintro e w1 ⟨rfl,rfl⟩))
         | (go_at_call 73;first | (refine Qhall.mono ?_;rintro e w1 ⟨rfl,rfl⟩))
         | (go_at_call 75;refine (sp_many _ _).mono ?_;rintro e w1 ⟨rfl,rfl⟩;first | rw [HMt] | rw [HMf] | skip)
         | (go_at_call 72;refine (QB _).mono ?_;rintro e w2 ⟨rfl,k2⟩;have HK2:Hid (Kb 0 _ w2):=k2;clear k2))
        go_ret
        exact ⟨by first | rfl | (simp only [*];rfl) | simp [*],by first | exact kb_alloc _ _ _ | exact (kb_alloc _ _ _).trans (uh HK2)⟩
      ·have ge:Int.tmod (q:Int) 2=1:=by rw [show Int.tmod (q:Int) 2=((q % 2:Nat):Int) from rfl,show q % 2=1 by omega];rfl
       rw [dc_f (fun g=>(he) (g.2.1))]
       first | (have QKq2:=QKq20 (show 1 < q by omega);clear QKq20) | clear QKq20
       first | (have QKq:=QKq0 (show 0 < q by omega);clear QKq0) | clear QKq0
       first | clear ho ho1 | clear ho
       go_enter Tryz.func55,Tryz.ntmps55
       go_wp2_with (first
        | (go_at_call 71;first | (with_reducible refine QKq.mono ?_;rintro e w1 ⟨rfl,rfl⟩) | (with_reducible refine QKq2.mono ?_;rintro e w1 ⟨rfl,rfl⟩))
        | (go_at_call 73;first | (refine Qhall.mono ?_;rintro e w1 ⟨rfl,rfl⟩))
        | (go_at_call 75;refine (sp_many _ _).mono ?_;rintro e w1 ⟨rfl,rfl⟩;first | rw [HMt] | rw [HMf] | skip)
        | (go_at_call 72;refine (QB _).mono ?_;rintro e w2 ⟨rfl,k2⟩;have HK2:Hid (Kb 0 _ w2):=k2;clear k2))
       go_ret
       exact ⟨by first | rfl | (simp only [*];rfl) | simp [*],by first | exact kb_alloc _ _ _ | exact (kb_alloc _ _ _).trans (uh HK2)⟩
     ·have HMf:=dc_f hm
      by_cases he:q % 2=0
      ·have ge:Int.tmod (q:Int) 2=0:=by rw [show Int.tmod (q:Int) 2=((q % 2:Nat):Int) from rfl,he];rfl
       by_cases hall:exf 0 q
       ·rw [dc_t hall] at Qhall
        rw [dc_f (fun g=>(fun o=>o.elim ho (fun o=>hm o.2.2.2)) (g.1))]
        first | (have QKq2:=QKq20 (show 1 < q by omega);clear QKq20) | clear QKq20
        first | (have QKq:=QKq0 (show 0 < q by omega);clear QKq0) | clear QKq0
        first | clear ho ho1 | clear ho
        go_enter Tryz.func55,Tryz.ntmps55
        go_wp2_with (first
         | (go_at_call 71;first | (with_reducible refine QKq.mono ?_;rintro e w1 ⟨rfl,rfl⟩) | (with_reducible refine QKq2.mono ?_;rintro e w1 ⟨rfl,rfl⟩))
         | (go_at_call 73;first | (refine Qhall.mono ?_;rintro e w1 ⟨rfl,rfl⟩))
         | (go_at_call 75;refine (sp_many _ _).mono ?_;rintro e w1 ⟨rfl,rfl⟩;first | rw [HMt] | rw [HMf] | skip)
         | (go_at_call 72;refine (QB _).mono ?_;rintro e w2 ⟨rfl,k2⟩;have HK2:Hid (Kb 0 _ w2):=k2;clear k2))
        go_ret
        exact ⟨by first | rfl | (simp only [*];rfl) | simp [*],by first | exact kb_alloc _ _ _ | exact (kb_alloc _ _ _).trans (uh HK2)⟩
       ·rw [dc_f hall] at Qhall
        rw [dc_f (fun g=>(fun o=>o.elim ho (fun o=>hm o.2.2.2)) (g.1))]
        first | (have QKq2:=QKq20 (show 1 < q by omega);clear QKq20) | clear QKq20
        first | (have QKq:=QKq0 (show 0 < q by omega);clear QKq0) | clear QKq0
        first | clear ho ho1 | clear ho
        go_enter Tryz.func55,Tryz.ntmps55
        go_wp2_with (first
         | (go_at_call 71;first | (with_reducible refine QKq.mono ?_;rintro e w1 ⟨rfl,rfl⟩) | (with_reducible refine QKq2.mono ?_;rintro e w1 ⟨rfl,rfl⟩))
         | (go_at_call 73;first | (refine Qhall.mono ?_;rintro e w1 ⟨rfl,rfl⟩))
         | (go_at_call 75;refine (sp_many _ _).mono ?_;rintro e w1 ⟨rfl,rfl⟩;first | rw [HMt] | rw [HMf] | skip)
         | (go_at_call 72;refine (QB _).mono ?_;rintro e w2 ⟨rfl,k2⟩;have HK2:Hid (Kb 0 _ w2):=k2;clear k2))
        go_ret
        exact ⟨by first | rfl | (simp only [*];rfl) | simp [*],by first | exact kb_alloc _ _ _ | exact (kb_alloc _ _ _).trans (uh HK2)⟩
      ·have ge:Int.tmod (q:Int) 2=1:=by rw [show Int.tmod (q:Int) 2=((q % 2:Nat):Int) from rfl,show q % 2=1 by omega];rfl
       rw [dc_f (fun g=>(fun o=>o.elim ho (fun o=>hm o.2.2.2)) (g.1))]
       first | (have QKq2:=QKq20 (show 1 < q by omega);clear QKq20) | clear QKq20
       first | (have QKq:=QKq0 (show 0 < q by omega);clear QKq0) | clear QKq0
       first | clear ho ho1 | clear ho
       go_enter Tryz.func55,Tryz.ntmps55
       go_wp2_with (first
        | (go_at_call 71;first | (with_reducible refine QKq.mono ?_;rintro e w1 ⟨rfl,rfl⟩) | (with_reducible refine QKq2.mono ?_;rintro e w1 ⟨rfl,rfl⟩))
        | (go_at_call 73;first | (refine Qhall.mono ?_;rintro e w1 ⟨rfl,rfl⟩))
        | (go_at_call 75;refine (sp_many _ _).mono ?_;rintro e w1 ⟨rfl,rfl⟩;first | rw [HMt] | rw [HMf] | skip)
        | (go_at_call 72;refine (QB _).mono ?_;rintro e w2 ⟨rfl,k2⟩;have HK2:Hid (Kb 0 _ w2):=k2;clear k2))
       go_ret
       exact ⟨by first | rfl | (simp only [*];rfl) | simp [*],by first | exact kb_alloc _ _ _ | exact (kb_alloc _ _ _).trans (uh HK2)⟩
    ·have gk2:=bne hk2
     by_cases he:q % 2=0
     ·have ge:Int.tmod (q:Int) 2=0:=by rw [show Int.tmod (q:Int) 2=((q % 2:Nat):Int) from rfl,he];rfl
      by_cases hall:exf 0 q
      ·rw [dc_t hall] at Qhall
       rw [dc_f (fun g=>(fun o=>o.elim ho (fun o=>hk2 o.2.2.1)) (g.1))]
       first | (have QKq2:=QKq20 (show 1 < q by omega);clear QKq20) | clear QKq20
       first | (have QKq:=QKq0 (show 0 < q by omega);clear QKq0) | clear QKq0
       first | clear ho ho1 | clear ho
       go_enter Tryz.func55,Tryz.ntmps55
       go_wp2_with (first
        | (go_at_call 71;first | (with_reducible refine QKq.mono ?_;rintro e w1 ⟨rfl,rfl⟩) | (with_reducible refine QKq2.mono ?_;rintro e w1 ⟨rfl,rfl⟩))
        | (go_at_call 73;first | (refine Qhall.mono ?_;rintro e w1 ⟨rfl,rfl⟩))
        | (go_at_call 75;refine (sp_many _ _).mono ?_;rintro e w1 ⟨rfl,rfl⟩;first | rw [HMt] | rw [HMf] | skip)
        | (go_at_call 72;refine (QB _).mono ?_;rintro e w2 ⟨rfl,k2⟩;have HK2:Hid (Kb 0 _ w2):=k2;clear k2))
       go_ret
       exact ⟨by first | rfl | (simp only [*];rfl) | simp [*],by first | exact kb_alloc _ _ _ | exact (kb_alloc _ _ _).trans (uh HK2)⟩
      ·rw [dc_f hall] at Qhall
       rw [dc_f (fun g=>(fun o=>o.elim ho (fun o=>hk2 o.2.2.1)) (g.1))]
       first | (have QKq2:=QKq20 (show 1 < q by omega);clear QKq20) | clear QKq20
       first | (have QKq:=QKq0 (show 0 < q by omega);clear QKq0) | clear QKq0
       first | clear ho ho1 | clear ho
       go_enter Tryz.func55,Tryz.ntmps55
       go_wp2_with (first
        | (go_at_call 71;first | (with_reducible refine QKq.mono ?_;rintro e w1 ⟨rfl,rfl⟩) | (with_reducible refine QKq2.mono ?_;rintro e w1 ⟨rfl,rfl⟩))
        | (go_at_call 73;first | (refine Qhall.mono ?_;rintro e w1 ⟨rfl,rfl⟩))
        | (go_at_call 75;refine (sp_many _ _).mono ?_;rintro e w1 ⟨rfl,rfl⟩;first | rw [HMt] | rw [HMf] | skip)
        | (go_at_call 72;refine (QB _).mono ?_;rintro e w2 ⟨rfl,k2⟩;have HK2:Hid (Kb 0 _ w2):=k2;clear k2))
       go_ret
       exact ⟨by first | rfl | (simp only [*];rfl) | simp [*],by first | exact kb_alloc _ _ _ | exact (kb_alloc _ _ _).trans (uh HK2)⟩
     ·have ge:Int.tmod (q:Int) 2=1:=by rw [show Int.tmod (q:Int) 2=((q % 2:Nat):Int) from rfl,show q % 2=1 by omega];rfl
      rw [dc_f (fun g=>(fun o=>o.elim ho (fun o=>hk2 o.2.2.1)) (g.1))]
      first | (have QKq2:=QKq20 (show 1 < q by omega);clear QKq20) | clear QKq20
      first | (have QKq:=QKq0 (show 0 < q by omega);clear QKq0) | clear QKq0
      first | clear ho ho1 | clear ho
      go_enter Tryz.func55,Tryz.ntmps55
      go_wp2_with (first
       | (go_at_call 71;first | (with_reducible refine QKq.mono ?_;rintro e w1 ⟨rfl,rfl⟩) | (with_reducible refine QKq2.mono ?_;rintro e w1 ⟨rfl,rfl⟩))
       | (go_at_call 73;first | (refine Qhall.mono ?_;rintro e w1 ⟨rfl,rfl⟩))
       | (go_at_call 75;refine (sp_many _ _).mono ?_;rintro e w1 ⟨rfl,rfl⟩;first | rw [HMt] | rw [HMf] | skip)
       | (go_at_call 72;refine (QB _).mono ?_;rintro e w2 ⟨rfl,k2⟩;have HK2:Hid (Kb 0 _ w2):=k2;clear k2))
      go_ret
      exact ⟨by first | rfl | (simp only [*];rfl) | simp [*],by first | exact kb_alloc _ _ _ | exact (kb_alloc _ _ _).trans (uh HK2)⟩
   ·have gq2:¬ (2:Int)≤(q:Int):=by omega
    by_cases he:q % 2=0
    ·have ge:Int.tmod (q:Int) 2=0:=by rw [show Int.tmod (q:Int) 2=((q % 2:Nat):Int) from rfl,he];rfl
     by_cases hall:exf 0 q
     ·rw [dc_t hall] at Qhall
      rw [dc_f (fun g=>(fun o=>o.elim ho (fun o=>hq2 o.2.1)) (g.1))]
      first | (have QKq2:=QKq20 (show 1 < q by omega);clear QKq20) | clear QKq20
      first | (have QKq:=QKq0 (show 0 < q by omega);clear QKq0) | clear QKq0
      first | clear ho ho1 | clear ho
      go_enter Tryz.func55,Tryz.ntmps55
      go_wp2_with (first
       | (go_at_call 71;first | (with_reducible refine QKq.mono ?_;rintro e w1 ⟨rfl,rfl⟩) | (with_reducible refine QKq2.mono ?_;rintro e w1 ⟨rfl,rfl⟩))
       | (go_at_call 73;first | (refine Qhall.mono ?_;rintro e w1 ⟨rfl,rfl⟩))
       | (go_at_call 75;refine (sp_many _ _).mono ?_;rintro e w1 ⟨rfl,rfl⟩;first | rw [HMt] | rw [HMf] | skip)
       | (go_at_call 72;refine (QB _).mono ?_;rintro e w2 ⟨rfl,k2⟩;have HK2:Hid (Kb 0 _ w2):=k2;clear k2))
      go_ret
      exact ⟨by first | rfl | (simp only [*];rfl) | simp [*],by first | exact kb_alloc _ _ _ | exact (kb_alloc _ _ _).trans (uh HK2)⟩
     ·rw [dc_f hall] at Qhall
      rw [dc_f (fun g=>(fun o=>o.elim ho (fun o=>hq2 o.2.1)) (g.1))]
      first | (have QKq2:=QKq20 (show 1 < q by omega);clear QKq20) | clear QKq20
      first | (have QKq:=QKq0 (show 0 < q by omega);clear QKq0) | clear QKq0
      first | clear ho ho1 | clear ho
      go_enter Tryz.func55,Tryz.ntmps55
      go_wp2_with (first
       | (go_at_call 71;first | (with_reducible refine QKq.mono ?_;rintro e w1 ⟨rfl,rfl⟩) | (with_reducible refine QKq2.mono ?_;rintro e w1 ⟨rfl,rfl⟩))
       | (go_at_call 73;first | (refine Qhall.mono ?_;rintro e w1 ⟨rfl,rfl⟩))
       | (go_at_call 75;refine (sp_many _ _).mono ?_;rintro e w1 ⟨rfl,rfl⟩;first | rw [HMt] | rw [HMf] | skip)
       | (go_at_call 72;refine (QB _).mono ?_;rintro e w2 ⟨rfl,k2⟩;have HK2:Hid (Kb 0 _ w2):=k2;clear k2))
      go_ret
      exact ⟨by first | rfl | (simp only [*];rfl) | simp [*],by first | exact kb_alloc _ _ _ | exact (kb_alloc _ _ _).trans (uh HK2)⟩
    ·have ge:Int.tmod (q:Int) 2=1:=by rw [show Int.tmod (q:Int) 2=((q % 2:Nat):Int) from rfl,show q % 2=1 by omega];rfl
     rw [dc_f (fun g=>(fun o=>o.elim ho (fun o=>hq2 o.2.1)) (g.1))]
     first | (have QKq2:=QKq20 (show 1 < q by omega);clear QKq20) | clear QKq20
     first | (have QKq:=QKq0 (show 0 < q by omega);clear QKq0) | clear QKq0
     first | clear ho ho1 | clear ho
     go_enter Tryz.func55,Tryz.ntmps55
     go_wp2_with (first
      | (go_at_call 71;first | (with_reducible refine QKq.mono ?_;rintro e w1 ⟨rfl,rfl⟩) | (with_reducible refine QKq2.mono ?_;rintro e w1 ⟨rfl,rfl⟩))
      | (go_at_call 73;first | (refine Qhall.mono ?_;rintro e w1 ⟨rfl,rfl⟩))
      | (go_at_call 75;refine (sp_many _ _).mono ?_;rintro e w1 ⟨rfl,rfl⟩;first | rw [HMt] | rw [HMf] | skip)
      | (go_at_call 72;refine (QB _).mono ?_;rintro e w2 ⟨rfl,k2⟩;have HK2:Hid (Kb 0 _ w2):=k2;clear k2))
     go_ret
     exact ⟨by first | rfl | (simp only [*];rfl) | simp [*],by first | exact kb_alloc _ _ _ | exact (kb_alloc _ _ _).trans (uh HK2)⟩
  ·have go1:=bne ho1
   by_cases he:q % 2=0
   ·have ge:Int.tmod (q:Int) 2=0:=by rw [show Int.tmod (q:Int) 2=((q % 2:Nat):Int) from rfl,he];rfl
    by_cases hall:exf 0 q
    ·rw [dc_t hall] at Qhall
     rw [dc_f (fun g=>(fun o=>o.elim ho (fun o=>ho1 o.1)) (g.1))]
     first | (have QKq2:=QKq20 (show 1 < q by omega);clear QKq20) | clear QKq20
     first | (have QKq:=QKq0 (show 0 < q by omega);clear QKq0) | clear QKq0
     first | clear ho ho1 | clear ho
     go_enter Tryz.func55,Tryz.ntmps55
     go_wp2_with (first
      | (go_at_call 71;first | (with_reducible refine QKq.mono ?_;rintro e w1 ⟨rfl,rfl⟩) | (with_reducible refine QKq2.mono ?_;rintro e w1 ⟨rfl,rfl⟩))
      | (go_at_call 73;first | (refine Qhall.mono ?_;rintro e w1 ⟨rfl,rfl⟩))
      | (go_at_call 75;refine (sp_many _ _).mono ?_;rintro e w1 ⟨rfl,rfl⟩;first | rw [HMt] | rw [HMf] | skip)
      | (go_at_call 72;refine (QB _).mono ?_;rintro e w2 ⟨rfl,k2⟩;have HK2:Hid (Kb 0 _ w2):=k2;clear k2))
     go_ret
     exact ⟨by first | rfl | (simp only [*];rfl) | simp [*],by first | exact kb_alloc _ _ _ | exact (kb_alloc _ _ _).trans (uh HK2)⟩
    ·rw [dc_f hall] at Qhall
     rw [dc_f (fun g=>(fun o=>o.elim ho (fun o=>ho1 o.1)) (g.1))]
     first | (have QKq2:=QKq20 (show 1 < q by omega);clear QKq20) | clear QKq20
     first | (have QKq:=QKq0 (show 0 < q by omega);clear QKq0) | clear QKq0
     first | clear ho ho1 | clear ho
     go_enter Tryz.func55,Tryz.ntmps55
     go_wp2_with (first
      | (go_at_call 71;first | (with_reducible refine QKq.mono ?_;rintro e w1 ⟨rfl,rfl⟩) | (with_reducible refine QKq2.mono ?_;rintro e w1 ⟨rfl,rfl⟩))
      | (go_at_call 73;first | (refine Qhall.mono ?_;rintro e w1 ⟨rfl,rfl⟩))
      | (go_at_call 75;refine (sp_many _ _).mono ?_;rintro e w1 ⟨rfl,rfl⟩;first | rw [HMt] | rw [HMf] | skip)
      | (go_at_call 72;refine (QB _).mono ?_;rintro e w2 ⟨rfl,k2⟩;have HK2:Hid (Kb 0 _ w2):=k2;clear k2))
     go_ret
     exact ⟨by first | rfl | (simp only [*];rfl) | simp [*],by first | exact kb_alloc _ _ _ | exact (kb_alloc _ _ _).trans (uh HK2)⟩
   ·have ge:Int.tmod (q:Int) 2=1:=by rw [show Int.tmod (q:Int) 2=((q % 2:Nat):Int) from rfl,show q % 2=1 by omega];rfl
    rw [dc_f (fun g=>(fun o=>o.elim ho (fun o=>ho1 o.1)) (g.1))]
    first | (have QKq2:=QKq20 (show 1 < q by omega);clear QKq20) | clear QKq20
    first | (have QKq:=QKq0 (show 0 < q by omega);clear QKq0) | clear QKq0
    first | clear ho ho1 | clear ho
    go_enter Tryz.func55,Tryz.ntmps55
    go_wp2_with (first
     | (go_at_call 71;first | (with_reducible refine QKq.mono ?_;rintro e w1 ⟨rfl,rfl⟩) | (with_reducible refine QKq2.mono ?_;rintro e w1 ⟨rfl,rfl⟩))
     | (go_at_call 73;first | (refine Qhall.mono ?_;rintro e w1 ⟨rfl,rfl⟩))
     | (go_at_call 75;refine (sp_many _ _).mono ?_;rintro e w1 ⟨rfl,rfl⟩;first | rw [HMt] | rw [HMf] | skip)
     | (go_at_call 72;refine (QB _).mono ?_;rintro e w2 ⟨rfl,k2⟩;have HK2:Hid (Kb 0 _ w2):=k2;clear k2))
    go_ret
    exact ⟨by first | rfl | (simp only [*];rfl) | simp [*],by first | exact kb_alloc _ _ _ | exact (kb_alloc _ _ _).trans (uh HK2)⟩
theorem st_1 {A : Addr} {n ca t : Nat} {a : Nv} {pr pk : Option Addr} {p cr q ck : Nat} {kdf : Nat → Int} {exf : Nat → Nat → Prop} (w : World) (hx : Nst w A n ca t a pr p cr pk q ck kdf exf) (hk : a.k = 1) :
  Calls Tryz.prog 54 #[.slice (some A) n ca,.int .i64 (t:Int)] w fun e w'=>e = .returned (.bool (dc ((∀ i,i < q→St (kdf i))∧Br false false false false a p 0)))∧Kb 0 w w':=by
 obtain ⟨d0,d1,d2,d3,d4,d5,d6,d7⟩:=hx.cel
 have hnI:(n:Int)≤1048576:=by have:=hx.hn;omega
 have hpI:(p:Int)≤1048576:=by have:=hx.hp;omega
 have hqN:=hx.hq
 have hqI:(q:Int)≤1048576:=by omega
 have htI:(t:Int) < (n:Int):=by have:=hx.ht;omega
 have HKD:Hid (∀ z:Nat,z≤1048576→Calls Tryz.prog 71 #[.slice (some A) n ca,.int .i64 (t:Int),.int .i64 (z:Int)] (w.alloc (.cells #[.int .i64 a.k,.int .i64 a.l,.int .i64 a.o,.int .i64 a.m,.float .f64 a.g,.string a.x,.slice pr p cr,.slice pk q ck] 59)) fun e w'=>e = .returned (.int .i64 (kdf z))∧w'=(w.alloc (.cells #[.int .i64 a.k,.int .i64 a.l,.int .i64 a.o,.int .i64 a.m,.float .f64 a.g,.string a.x,.slice pr p cr,.slice pk q ck] 59))):=(fun z hz=>hx.kid z _ (kb_alloc _ _ _) hz:∀ z:Nat,_)
 have QKq0 : 0 < q→Calls Tryz.prog 71 #[.slice (some A) n ca,.int .i64 (t:Int),.int .i64 ((q:Int) - 1)] (w.alloc (.cells #[.int .i64 a.k,.int .i64 a.l,.int .i64 a.o,.int .i64 a.m,.float .f64 a.g,.string a.x,.slice pr p cr,.slice pk q ck] 59)) fun e w'=>e = .returned (.int .i64 (kdf (q - 1)))∧w'=(w.alloc (.cells #[.int .i64 a.k,.int .i64 a.l,.int .i64 a.o,.int .i64 a.m,.float .f64 a.g,.string a.x,.slice pr p cr,.slice pk q ck] 59)):=fun h=>by
  have:=hx.kid (q - 1) _ (kb_alloc 0 w (.cells #[.int .i64 a.k,.int .i64 a.l,.int .i64 a.o,.int .i64 a.m,.float .f64 a.g,.string a.x,.slice pr p cr,.slice pk q ck] 59)) (by omega)
  rw [show ((q - 1:Nat):Int)=(q:Int) - 1 by omega] at this
  exact this
 have QB0:=fun W=>sp_bare_z a hx.hg pr p cr pk q ck 0 (by omega) hx.hp W
 unfold ndv at QB0
 rw [hk] at d0 QB0 QKq0 HKD
 have HQB:Hid (∀ W,Calls Tryz.prog 72 #[.agg #[.int .i64 1,.int .i64 a.l,.int .i64 a.o,.int .i64 a.m,.float .f64 a.g,.string a.x,.slice pr p cr,.slice pk q ck],.bool false,.bool false,.bool false,.bool false,.int .i64 0] W fun e w'=>e = .returned (.bool (dc (Br false false false false a p 0)))∧Kb 0 W w'):=QB0
 clear hx QB0
 have hst:=hst0
 obtain ⟨R,hR⟩:∃ R,R=dc ((∀ i,i < q→St (kdf i))∧Br false false false false a p 0):=⟨_,rfl⟩
 rw [← hR]
 have HR:Hid (R=dc ((∀ i,i < q→St (kdf i))∧Br false false false false a p 0)):=hR
 clear hR
 have hq0:q=0∨(0:Int) < (q:Int):=by omega
 rcases hq0 with hq0 | hq0
 ·subst hq0
  clear HKD QKq0 hqN
  go_enter Tryz.func54,Tryz.ntmps54
  go_wp2_with fail
  refine wp_loop_rounds 1 ?_
  rw [rounds_succ]
  go_wp2_with fail
  refine ((uh HQB) _).mono ?_
  rintro e w2 ⟨rfl,k2⟩
  have HK2:Hid (Kb 0 w w2):=(kb_alloc _ _ _).trans k2
  clear k2 HQB
  go_wp2_with fail
  go_ret
  refine ⟨?_,HK2⟩
  rw [show R = _ from HR]
  exact congrArg (fun b=>Ending.returned (.bool b)) (dc_iff ⟨fun h=>⟨fun i hi=>by omega,h⟩,fun h=>h.2⟩)
 ·have QKq:=QKq0 (by omega)
  clear QKq0 hqN
  go_enter Tryz.func54,Tryz.ntmps54
  go_wp2_with (first | (go_at_call 71;refine QKq.mono ?_;rintro e w1 ⟨rfl,rfl⟩))
  go_loopw [37] (fun s37 wr=>∃ i:Nat,s37 = .int .i64 (i:Int)∧i≤q∧wr=(w.alloc (.cells #[.int .i64 1,.int .i64 a.l,.int .i64 a.o,.int .i64 a.m,.float .f64 a.g,.string a.x,.slice pr p cr,.slice pk q ck] 59))∧Hid (∀ y,y < i→St (kdf y))) (fun s37 _=>q - (intOf s37).toNat)
  case atStart=>exact ⟨0,rfl,Nat.zero_le _,rfl,(fun y h=>by omega:∀ y,_)⟩
  case round =>
   obtain ⟨i,rfl,hi,rfl,HX⟩:=hrel
   have hX:=(uh HX)
   clear QKq
   rcases Nat.lt_or_ge i q with h | h
   ·have hI:(i:Int) < (q:Int):=by omega
    go_wp2_with fail
    refine ((uh HKD) i (by omega)).mono ?_
    rintro e w1 ⟨rfl,rfl⟩
    go_wp2_with fail
    refine (sp_stat _ _).mono ?_
    rintro e w2 ⟨rfl,rfl⟩
    by_cases c:St (kdf i)
    ·rw [dc_t c]
     have HX2:Hid (∀ y,y < i+1→St (kdf y)):=(fun y h2=>by
      by_cases e:y=i
      ·subst e;exact c
      ·exact hX y (by omega):∀ y,_)
     clear HX hX c HR
     go_wp2_with fail
     go_roundw
     case rel=>exact ⟨i+1,by go_num,by omega,by trivial,HX2⟩
     case measure=>simp [intOf];omega
    ·rw [dc_f c]
     have HF:Hid (R=false):=by
      rw [show R = _ from HR]
      exact dc_f (fun g=>c (g.1 i h))
     clear HX hX c HR HKD
     go_wp2_with fail
     go_ret
     have hF:=(uh HF)
     subst hF
     exact ⟨rfl,kb_alloc _ _ _⟩
   ·have hI:¬ (i:Int) < (q:Int):=by omega
    have HF:Hid (R=dc (Br false false false false a p 0)):=by
     rw [show R = _ from HR]
     exact dc_iff ⟨fun h=>h.2,fun h2=>⟨fun y hy=>hX y (by omega),h2⟩⟩
    clear HX hX HR HKD
    go_wp2_with fail
    refine ((uh HQB) _).mono ?_
    rintro e w2 ⟨rfl,k2⟩
    have HK2:Hid (Kb 0 w w2):=(kb_alloc _ _ _).trans k2
    clear k2 HQB
    go_wp2_with fail
    go_ret
    have hF:=(uh HF)
    subst hF
    exact ⟨rfl,HK2⟩
theorem st_3 {A : Addr} {n ca t : Nat} {a : Nv} {pr pk : Option Addr} {p cr q ck : Nat} {kdf : Nat → Int} {exf : Nat → Nat → Prop} (w : World) (hx : Nst w A n ca t a pr p cr pk q ck kdf exf) (hk : a.k = 3) :
    Calls Tryz.prog 54 #[.slice (some A) n ca,.int .i64 (t:Int)] w fun e w'=>e = .returned (.bool (dc (1≤a.m∧a.m < (q:Int)∧(∀ i:Nat,(i:Int) < a.m→kdf i=26∨kdf i=27∨kdf i=33)∧Br false true false false a p 0∧exf a.m.toNat q)))∧Kb 0 w w':=by
  obtain ⟨d0,d1,d2,d3,d4,d5,d6,d7⟩:=hx.cel
  have hnI:(n:Int)≤1048576:=by have:=hx.hn;omega
  have hpI:(p:Int)≤1048576:=by have:=hx.hp;omega
  have hqN:=hx.hq
  have hqI:(q:Int)≤1048576:=by omega
  have htI:(t:Int) < (n:Int):=by have:=hx.ht;omega
  have HKD:Hid (∀ z:Nat,z≤1048576→Calls Tryz.prog 71 #[.slice (some A) n ca,.int .i64 (t:Int),.int .i64 (z:Int)] (w.alloc (.cells #[.int .i64 a.k,.int .i64 a.l,.int .i64 a.o,.int .i64 a.m,.float .f64 a.g,.string a.x,.slice pr p cr,.slice pk q ck] 59)) fun e w'=>e = .returned (.int .i64 (kdf z))∧w'=(w.alloc (.cells #[.int .i64 a.k,.int .i64 a.l,.int .i64 a.o,.int .i64 a.m,.float .f64 a.g,.string a.x,.slice pr p cr,.slice pk q ck] 59))):=(fun z hz=>hx.kid z _ (kb_alloc _ _ _) hz:∀ z:Nat,_)
  have QKq0 : 0 < q→Calls Tryz.prog 71 #[.slice (some A) n ca,.int .i64 (t:Int),.int .i64 ((q:Int) - 1)] (w.alloc (.cells #[.int .i64 a.k,.int .i64 a.l,.int .i64 a.o,.int .i64 a.m,.float .f64 a.g,.string a.x,.slice pr p cr,.slice pk q ck] 59)) fun e w'=>e = .returned (.int .i64 (kdf (q - 1)))∧w'=(w.alloc (.cells #[.int .i64 a.k,.int .i64 a.l,.int .i64 a.o,.int .i64 a.m,.float .f64 a.g,.string a.x,.slice pr p cr,.slice pk q ck] 59)):=fun h=>by
    have:=hx.kid (q - 1) _ (kb_alloc 0 w (.cells #[.int .i64 a.k,.int .i64 a.l,.int .i64 a.o,.int .i64 a.m,.float .f64 a.g,.string a.x,.slice pr p cr,.slice pk q ck] 59)) (by omega)
    rw [show ((q - 1:Nat):Int)=(q:Int) - 1 by omega] at this
    exact this
  have QB0:=fun W=>sp_bare_m a hx.hg pr p cr pk q ck 0 (by omega) hx.hp W
  unfold ndv at QB0
  rw [hk] at d0 QB0 QKq0 HKD
  have HQB:Hid (∀ W,Calls Tryz.prog 72 #[.agg #[.int .i64 3,.int .i64 a.l,.int .i64 a.o,.int .i64 a.m,.float .f64 a.g,.string a.x,.slice pr p cr,.slice pk q ck],.bool false,.bool true,.bool false,.bool false,.int .i64 0] W fun e w'=>e = .returned (.bool (dc (Br false true false false a p 0)))∧Kb 0 W w'):=QB0
  have HEX:Hid (∀ j:Nat,j≤1048576→∀ W,Kb 0 w W→Calls Tryz.prog 73 #[.slice (some A) n ca,.int .i64 (t:Int),.int .i64 (j:Int),.int .i64 (q:Int)] W fun e w'=>e = .returned (.bool (dc (exf j q)))∧w'=W):=(fun j hj W k=>hx.exp j q W k hj hqN:∀ j:Nat,_)
  clear hx QB0
  have hst:=hst0
  obtain ⟨R,hR⟩:∃ R,R=dc (1≤a.m∧a.m < (q:Int)∧(∀ i:Nat,(i:Int) < a.m→kdf i=26∨kdf i=27∨kdf i=33)∧Br false true false false a p 0∧exf a.m.toNat q):=⟨_,rfl⟩
  rw [← hR]
  have HR:Hid (R=dc (1≤a.m∧a.m < (q:Int)∧(∀ i:Nat,(i:Int) < a.m→kdf i=26∨kdf i=27∨kdf i=33)∧Br false true false false a p 0∧exf a.m.toNat q)):=hR
  clear hR
  have hq0:q=0∨(0:Int) < (q:Int):=by omega
  rcases hq0 with hq0 | hq0
  · subst hq0
    have HF:Hid (R=false):=by
      rw [show R = _ from HR]
      exact dc_f (fun g=>by have:=g.1;have:=g.2.1;omega)
    clear HR HEX HQB HKD QKq0
    have hF:=(uh HF)
    subst hF
    rcases Int.lt_or_le a.m 1 with hm | hm
    · go_enter Tryz.func54,Tryz.ntmps54
      go_wp2_with fail
      go_ret
      exact ⟨rfl,kb_alloc _ _ _⟩
    · have hm':¬ a.m < 1:=by omega
      have hm2:(0:Int)≤a.m:=by omega
      go_enter Tryz.func54,Tryz.ntmps54
      go_wp2_with fail
      go_ret
      exact ⟨rfl,kb_alloc _ _ _⟩
  · have QKq:=QKq0 (by omega)
    clear QKq0
    rcases Int.lt_or_le a.m 1 with hm | hm
    · have HF : Hid (R = false) := by
        rw [show R = _ from HR]
        exact dc_f (fun g=>by have:=g.1;omega)
      clear HR HEX HQB HKD
      have hF:=(uh HF)
      subst hF
      go_enter Tryz.func54,Tryz.ntmps54
      go_wp2_with (first | (go_at_call 71;refine QKq.mono ?_;rintro e w1 ⟨rfl,rfl⟩))
      go_ret
      exact ⟨rfl,kb_alloc _ _ _⟩
    · have hm':¬ a.m < 1:=by omega
      rcases Int.lt_or_le a.m q with hmq | hmq
      case inr =>
        have HF:Hid (R=false):=by
          rw [show R = _ from HR]
          exact dc_f (fun g=>by have:=g.2.1;omega)
        clear HR HEX HQB HKD
        have hF:=(uh HF)
        subst hF
        go_enter Tryz.func54,Tryz.ntmps54
        go_wp2_with (first | (go_at_call 71;refine QKq.mono ?_;rintro e w1 ⟨rfl,rfl⟩))
        go_ret
        exact ⟨rfl,kb_alloc _ _ _⟩
      have hmq':¬ (q:Int)≤a.m:=by omega
      obtain ⟨M,hM⟩:=Int.eq_ofNat_of_zero_le (show 0≤a.m by omega)
      have HM:Hid (a.m=(M:Int)∧M < q):=(⟨hM,by omega⟩:_∧_)
      clear hM
      go_enter Tryz.func54,Tryz.ntmps54
      go_wp2_with (first | (go_at_call 71;refine QKq.mono ?_;rintro e w1 ⟨rfl,rfl⟩))
      go_loopw [9] (fun s9 wr=>∃ i:Nat,s9 = .int .i64 (i:Int)∧(i:Int)≤a.m∧wr=(w.alloc (.cells #[.int .i64 3,.int .i64 a.l,.int .i64 a.o,.int .i64 a.m,.float .f64 a.g,.string a.x,.slice pr p cr,.slice pk q ck] 59))∧Hid (∀ y,y < i→kdf y=26∨kdf y=27∨kdf y=33)) (fun s9 _=>q - (intOf s9).toNat)
      case atStart=>exact ⟨0,rfl,by omega,rfl,(fun y h=>by omega:∀ y,_)⟩
      case round =>
        obtain ⟨i,rfl,hi,rfl,HX⟩:=hrel
        have hX:=(uh HX)
        clear QKq
        rcases Int.lt_or_le (i:Int) a.m with h | h
        · have hiq:i≤1048576:=by omega
          go_wp2_with fail
          refine ((uh HKD) i hiq).mono ?_
          rintro e w1 ⟨rfl,rfl⟩
          go_wp2_with fail
          refine (sp_target _ _).mono ?_
          rintro e w2 ⟨rfl,rfl⟩
          by_cases c:kdf i=26∨kdf i=27∨kdf i=33
          · rw [dc_t c]
            have HX2:Hid (∀ y,y < i+1→kdf y=26∨kdf y=27∨kdf y=33):=(fun y h2=>by
              by_cases e:y=i
              · subst e;exact c
              · exact hX y (by omega):∀ y,_)
            clear HX hX c HR
            go_wp2_with fail
            go_roundw
            case rel=>exact ⟨i+1,by go_num,by omega,by trivial,HX2⟩
            case measure=>simp [intOf];omega
          · rw [dc_f c]
            have HF:Hid (R=false):=by
              rw [show R = _ from HR]
              exact dc_f (fun g=>c (g.2.2.1 i h))
            clear HX hX c HR HKD
            go_wp2_with fail
            go_ret
            have hF:=(uh HF)
            subst hF
            exact ⟨rfl,kb_alloc _ _ _⟩
        · have hI:¬ (i:Int) < a.m:=by omega
          have hge:a.m≤(i:Int):=h
          have HF:Hid (R=dc (Br false true false false a p 0∧exf a.m.toNat q)):=by
            rw [show R = _ from HR]
            exact dc_iff ⟨fun h=>h.2.2.2,fun h2=>⟨hm,hmq,fun y hy=>hX y (by omega),h2⟩⟩
          clear HX hX HR HKD
          go_wp2_with fail
          refine ((uh HQB) _).mono ?_
          rintro e w2 ⟨rfl,k2⟩
          have c3:w2.cell? ⟨w.heap.size,3,none⟩=some (.int .i64 a.m):=k2.cell (cell_of (alloc_new _ _ _) rfl)
          have HK2:Hid (Kb 0 w w2):=(kb_alloc _ _ _).trans k2
          clear k2 HQB
          by_cases c:Br false true false false a p 0
          · rw [dc_t c]
            have HF2:Hid (R=dc (exf a.m.toNat q)):=by
              rw [show R = _ from HF]
              exact dc_iff ⟨fun h=>h.2,fun h=>⟨c,h⟩⟩
            have HE2:Hid (Calls Tryz.prog 73 #[.slice (some A) n ca,.int .i64 (t:Int),.int .i64 a.m,.int .i64 (q:Int)] w2 fun e w'=>e = .returned (.bool (dc (exf a.m.toNat q)))∧w'=w2):=by
              obtain ⟨hM,hMq⟩:=(uh HM)
              rw [hM,Int.toNat_natCast]
              exact (uh HEX) M (by omega) w2 HK2
            clear HF HEX c
            go_wp2_with fail
            refine (uh HE2).mono ?_
            rintro e w3 ⟨rfl,rfl⟩
            clear HE2
            go_wp2_with fail
            go_ret
            have hF:=(uh HF2)
            subst hF
            exact ⟨rfl,HK2⟩
          · rw [dc_f c]
            have HF2:Hid (R=false):=by
              rw [show R = _ from HF]
              exact dc_f (fun g=>c g.1)
            clear HF HEX c
            go_wp2_with fail
            go_ret
            have hF:=(uh HF2)
            subst hF
            exact ⟨rfl,HK2⟩
end Go.Proofs.YtfpidccjcemcjaaGreat.Fo
