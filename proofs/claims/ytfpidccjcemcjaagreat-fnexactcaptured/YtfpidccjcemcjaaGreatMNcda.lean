import Derived.Test.YtfpidccjcemcjaaGreatMZsq
import Derived.Test.YtfpidccjcemcjaaGreatMNdn
set_option maxHeartbeats 16000000
namespace Go.Proofs.YtfpidccjcemcjaaGreat.Fo
open Go.ChangeShapes Go.WideShapes Go.ChangeAt Go.RowKit
set_option linter.unusedVariables false
set_option maxRecDepth 100000
theorem st_5 {A : Addr} {n ca t : Nat} {a : Nv} {pr pk : Option Addr} {p cr q ck : Nat} {kdf : Nat → Int} {exf : Nat → Nat → Prop} (w : World) (hx : Nst w A n ca t a pr p cr pk q ck kdf exf) (hk : a.k = 5) :
  Calls Tryz.prog 54 #[.slice (some A) n ca,.int .i64 (t:Int)] w fun e w'=>e = .returned (.bool (dc ((q=2∨q=3∧(kdf 2=1∨kdf 2=5))∧exf 0 1∧kdf 1=1∧Br false false false false a p 0)))∧Kb 0 w w':=by
 obtain ⟨d0,d1,d2,d3,d4,d5,d6,d7⟩:=hx.cel
 have hnI:(n:Int)≤1048576:=by have:=hx.hn;omega
 have hpI:(p:Int)≤1048576:=by have:=hx.hp;omega
 have hqN:=hx.hq
 have hqI:(q:Int)≤1048576:=by omega
 have htI:(t:Int) < (n:Int):=by have:=hx.ht;omega
 have QK1:Calls Tryz.prog 71 #[.slice (some A) n ca,.int .i64 (t:Int),.int .i64 1] (w.alloc (.cells #[.int .i64 a.k,.int .i64 a.l,.int .i64 a.o,.int .i64 a.m,.float .f64 a.g,.string a.x,.slice pr p cr,.slice pk q ck] 59)) fun e w'=>e = .returned (.int .i64 (kdf 1))∧w'=(w.alloc (.cells #[.int .i64 a.k,.int .i64 a.l,.int .i64 a.o,.int .i64 a.m,.float .f64 a.g,.string a.x,.slice pr p cr,.slice pk q ck] 59)):=hx.kid 1 _ (kb_alloc _ _ _) (by omega)
 have QK2:Calls Tryz.prog 71 #[.slice (some A) n ca,.int .i64 (t:Int),.int .i64 2] (w.alloc (.cells #[.int .i64 a.k,.int .i64 a.l,.int .i64 a.o,.int .i64 a.m,.float .f64 a.g,.string a.x,.slice pr p cr,.slice pk q ck] 59)) fun e w'=>e = .returned (.int .i64 (kdf 2))∧w'=(w.alloc (.cells #[.int .i64 a.k,.int .i64 a.l,.int .i64 a.o,.int .i64 a.m,.float .f64 a.g,.string a.x,.slice pr p cr,.slice pk q ck] 59)):=hx.kid 2 _ (kb_alloc _ _ _) (by omega)
 have QKq0 : 0 < q→Calls Tryz.prog 71 #[.slice (some A) n ca,.int .i64 (t:Int),.int .i64 ((q:Int) - 1)] (w.alloc (.cells #[.int .i64 a.k,.int .i64 a.l,.int .i64 a.o,.int .i64 a.m,.float .f64 a.g,.string a.x,.slice pr p cr,.slice pk q ck] 59)) fun e w'=>e = .returned (.int .i64 (kdf (q - 1)))∧w'=(w.alloc (.cells #[.int .i64 a.k,.int .i64 a.l,.int .i64 a.o,.int .i64 a.m,.float .f64 a.g,.string a.x,.slice pr p cr,.slice pk q ck] 59)):=fun h=>by
  have:=hx.kid (q - 1) _ (kb_alloc 0 w (.cells #[.int .i64 a.k,.int .i64 a.l,.int .i64 a.o,.int .i64 a.m,.float .f64 a.g,.string a.x,.slice pr p cr,.slice pk q ck] 59)) (by omega)
  rw [show ((q - 1:Nat):Int)=(q:Int) - 1 by omega] at this
  exact this
 have Qhe:Calls Tryz.prog 73 #[.slice (some A) n ca,.int .i64 (t:Int),.int .i64 0,.int .i64 1] (w.alloc (.cells #[.int .i64 a.k,.int .i64 a.l,.int .i64 a.o,.int .i64 a.m,.float .f64 a.g,.string a.x,.slice pr p cr,.slice pk q ck] 59)) fun e w'=>e = .returned (.bool (dc (exf 0 1)))∧w'=(w.alloc (.cells #[.int .i64 a.k,.int .i64 a.l,.int .i64 a.o,.int .i64 a.m,.float .f64 a.g,.string a.x,.slice pr p cr,.slice pk q ck] 59)):=hx.exp 0 1 _ (kb_alloc _ _ _) (by omega) (by omega)
 have QB:=fun W=>sp_bare_z a hx.hg pr p cr pk q ck 0 (by omega) hx.hp W
 unfold ndv at QB
 rw [hk] at d0 QB QK1 QK2 Qhe QKq0
 have HG:Hid (a.g < 18446744073709551616):=hx.hg
 clear hx
 have hst:=hst0
 have HQ:Hid (q≤1048576):=hqN
 clear hqN
 by_cases hq2:q=2
 ·subst hq2
  by_cases he:exf 0 1
  ·rw [dc_t he] at Qhe
   by_cases hk1:kdf 1=1
   ·have gk1:=beq1 hk1
    by_cases hb:Br false false false false a p 0
    ·rw [dc_t hb] at QB
     rw [dc_t ⟨Or.inl rfl,he,hk1,hb⟩]
     first | (have QKq:=QKq0 (show 0 < q by omega);clear QKq0) | clear QKq0
     go_enter Tryz.func54,Tryz.ntmps54
     go_wp2_with (first
      | (go_at_call 71;first | (with_reducible refine QKq.mono ?_;rintro e w1 ⟨rfl,rfl⟩) | (with_reducible refine QK1.mono ?_;rintro e w1 ⟨rfl,rfl⟩) | (with_reducible refine QK2.mono ?_;rintro e w1 ⟨rfl,rfl⟩))
      | (go_at_call 73;first | (refine Qhe.mono ?_;rintro e w1 ⟨rfl,rfl⟩))
      | (go_at_call 75;refine (sp_many _ _).mono ?_;rintro e w1 ⟨rfl,rfl⟩;first | rw [HMt] | rw [HMf] | skip)
      | (go_at_call 72;refine (QB _).mono ?_;rintro e w2 ⟨rfl,k2⟩;have HK2:Hid (Kb 0 _ w2):=k2;clear k2))
     go_ret
     exact ⟨by first | rfl | (simp only [*];rfl) | simp [*],by first | exact kb_alloc _ _ _ | exact (kb_alloc _ _ _).trans (uh HK2)⟩
    ·rw [dc_f hb] at QB
     rw [dc_f (fun g=>(hb) (g.2.2.2))]
     first | (have QKq:=QKq0 (show 0 < q by omega);clear QKq0) | clear QKq0
     go_enter Tryz.func54,Tryz.ntmps54
     go_wp2_with (first
      | (go_at_call 71;first | (with_reducible refine QKq.mono ?_;rintro e w1 ⟨rfl,rfl⟩) | (with_reducible refine QK1.mono ?_;rintro e w1 ⟨rfl,rfl⟩) | (with_reducible refine QK2.mono ?_;rintro e w1 ⟨rfl,rfl⟩))
      | (go_at_call 73;first | (refine Qhe.mono ?_;rintro e w1 ⟨rfl,rfl⟩))
      | (go_at_call 75;refine (sp_many _ _).mono ?_;rintro e w1 ⟨rfl,rfl⟩;first | rw [HMt] | rw [HMf] | skip)
      | (go_at_call 72;refine (QB _).mono ?_;rintro e w2 ⟨rfl,k2⟩;have HK2:Hid (Kb 0 _ w2):=k2;clear k2))
     go_ret
     exact ⟨by first | rfl | (simp only [*];rfl) | simp [*],by first | exact kb_alloc _ _ _ | exact (kb_alloc _ _ _).trans (uh HK2)⟩
   ·have gk1:=bne hk1
    rw [dc_f (fun g=>(hk1) (g.2.2.1))]
    first | (have QKq:=QKq0 (show 0 < q by omega);clear QKq0) | clear QKq0
    go_enter Tryz.func54,Tryz.ntmps54
    go_wp2_with (first
     | (go_at_call 71;first | (with_reducible refine QKq.mono ?_;rintro e w1 ⟨rfl,rfl⟩) | (with_reducible refine QK1.mono ?_;rintro e w1 ⟨rfl,rfl⟩) | (with_reducible refine QK2.mono ?_;rintro e w1 ⟨rfl,rfl⟩))
     | (go_at_call 73;first | (refine Qhe.mono ?_;rintro e w1 ⟨rfl,rfl⟩))
     | (go_at_call 75;refine (sp_many _ _).mono ?_;rintro e w1 ⟨rfl,rfl⟩;first | rw [HMt] | rw [HMf] | skip)
     | (go_at_call 72;refine (QB _).mono ?_;rintro e w2 ⟨rfl,k2⟩;have HK2:Hid (Kb 0 _ w2):=k2;clear k2))
    go_ret
    exact ⟨by first | rfl | (simp only [*];rfl) | simp [*],by first | exact kb_alloc _ _ _ | exact (kb_alloc _ _ _).trans (uh HK2)⟩
  ·rw [dc_f he] at Qhe
   rw [dc_f (fun g=>(he) (g.2.1))]
   first | (have QKq:=QKq0 (show 0 < q by omega);clear QKq0) | clear QKq0
   go_enter Tryz.func54,Tryz.ntmps54
   go_wp2_with (first
    | (go_at_call 71;first | (with_reducible refine QKq.mono ?_;rintro e w1 ⟨rfl,rfl⟩) | (with_reducible refine QK1.mono ?_;rintro e w1 ⟨rfl,rfl⟩) | (with_reducible refine QK2.mono ?_;rintro e w1 ⟨rfl,rfl⟩))
    | (go_at_call 73;first | (refine Qhe.mono ?_;rintro e w1 ⟨rfl,rfl⟩))
    | (go_at_call 75;refine (sp_many _ _).mono ?_;rintro e w1 ⟨rfl,rfl⟩;first | rw [HMt] | rw [HMf] | skip)
    | (go_at_call 72;refine (QB _).mono ?_;rintro e w2 ⟨rfl,k2⟩;have HK2:Hid (Kb 0 _ w2):=k2;clear k2))
   go_ret
   exact ⟨by first | rfl | (simp only [*];rfl) | simp [*],by first | exact kb_alloc _ _ _ | exact (kb_alloc _ _ _).trans (uh HK2)⟩
 ·skip
  by_cases hq3:q=3
  ·subst hq3
   by_cases hk2:kdf 2=1
   ·have gk2:=beq1 hk2
    by_cases he:exf 0 1
    ·rw [dc_t he] at Qhe
     by_cases hk1:kdf 1=1
     ·have gk1:=beq1 hk1
      by_cases hb:Br false false false false a p 0
      ·rw [dc_t hb] at QB
       rw [dc_t ⟨Or.inr ⟨rfl,Or.inl hk2⟩,he,hk1,hb⟩]
       first | (have QKq:=QKq0 (show 0 < q by omega);clear QKq0) | clear QKq0
       go_enter Tryz.func54,Tryz.ntmps54
       go_wp2_with (first
        | (go_at_call 71;first | (with_reducible refine QKq.mono ?_;rintro e w1 ⟨rfl,rfl⟩) | (with_reducible refine QK1.mono ?_;rintro e w1 ⟨rfl,rfl⟩) | (with_reducible refine QK2.mono ?_;rintro e w1 ⟨rfl,rfl⟩))
        | (go_at_call 73;first | (refine Qhe.mono ?_;rintro e w1 ⟨rfl,rfl⟩))
        | (go_at_call 75;refine (sp_many _ _).mono ?_;rintro e w1 ⟨rfl,rfl⟩;first | rw [HMt] | rw [HMf] | skip)
        | (go_at_call 72;refine (QB _).mono ?_;rintro e w2 ⟨rfl,k2⟩;have HK2:Hid (Kb 0 _ w2):=k2;clear k2))
       go_ret
       exact ⟨by first | rfl | (simp only [*];rfl) | simp [*],by first | exact kb_alloc _ _ _ | exact (kb_alloc _ _ _).trans (uh HK2)⟩
      ·rw [dc_f hb] at QB
       rw [dc_f (fun g=>(hb) (g.2.2.2))]
       first | (have QKq:=QKq0 (show 0 < q by omega);clear QKq0) | clear QKq0
       go_enter Tryz.func54,Tryz.ntmps54
       go_wp2_with (first
        | (go_at_call 71;first | (with_reducible refine QKq.mono ?_;rintro e w1 ⟨rfl,rfl⟩) | (with_reducible refine QK1.mono ?_;rintro e w1 ⟨rfl,rfl⟩) | (with_reducible refine QK2.mono ?_;rintro e w1 ⟨rfl,rfl⟩))
        | (go_at_call 73;first | (refine Qhe.mono ?_;rintro e w1 ⟨rfl,rfl⟩))
        | (go_at_call 75;refine (sp_many _ _).mono ?_;rintro e w1 ⟨rfl,rfl⟩;first | rw [HMt] | rw [HMf] | skip)
        | (go_at_call 72;refine (QB _).mono ?_;rintro e w2 ⟨rfl,k2⟩;have HK2:Hid (Kb 0 _ w2):=k2;clear k2))
       go_ret
       exact ⟨by first | rfl | (simp only [*];rfl) | simp [*],by first | exact kb_alloc _ _ _ | exact (kb_alloc _ _ _).trans (uh HK2)⟩
     ·have gk1:=bne hk1
      rw [dc_f (fun g=>(hk1) (g.2.2.1))]
      first | (have QKq:=QKq0 (show 0 < q by omega);clear QKq0) | clear QKq0
      go_enter Tryz.func54,Tryz.ntmps54
      go_wp2_with (first
       | (go_at_call 71;first | (with_reducible refine QKq.mono ?_;rintro e w1 ⟨rfl,rfl⟩) | (with_reducible refine QK1.mono ?_;rintro e w1 ⟨rfl,rfl⟩) | (with_reducible refine QK2.mono ?_;rintro e w1 ⟨rfl,rfl⟩))
       | (go_at_call 73;first | (refine Qhe.mono ?_;rintro e w1 ⟨rfl,rfl⟩))
       | (go_at_call 75;refine (sp_many _ _).mono ?_;rintro e w1 ⟨rfl,rfl⟩;first | rw [HMt] | rw [HMf] | skip)
       | (go_at_call 72;refine (QB _).mono ?_;rintro e w2 ⟨rfl,k2⟩;have HK2:Hid (Kb 0 _ w2):=k2;clear k2))
      go_ret
      exact ⟨by first | rfl | (simp only [*];rfl) | simp [*],by first | exact kb_alloc _ _ _ | exact (kb_alloc _ _ _).trans (uh HK2)⟩
    ·rw [dc_f he] at Qhe
     rw [dc_f (fun g=>(he) (g.2.1))]
     first | (have QKq:=QKq0 (show 0 < q by omega);clear QKq0) | clear QKq0
     go_enter Tryz.func54,Tryz.ntmps54
     go_wp2_with (first
      | (go_at_call 71;first | (with_reducible refine QKq.mono ?_;rintro e w1 ⟨rfl,rfl⟩) | (with_reducible refine QK1.mono ?_;rintro e w1 ⟨rfl,rfl⟩) | (with_reducible refine QK2.mono ?_;rintro e w1 ⟨rfl,rfl⟩))
      | (go_at_call 73;first | (refine Qhe.mono ?_;rintro e w1 ⟨rfl,rfl⟩))
      | (go_at_call 75;refine (sp_many _ _).mono ?_;rintro e w1 ⟨rfl,rfl⟩;first | rw [HMt] | rw [HMf] | skip)
      | (go_at_call 72;refine (QB _).mono ?_;rintro e w2 ⟨rfl,k2⟩;have HK2:Hid (Kb 0 _ w2):=k2;clear k2))
     go_ret
     exact ⟨by first | rfl | (simp only [*];rfl) | simp [*],by first | exact kb_alloc _ _ _ | exact (kb_alloc _ _ _).trans (uh HK2)⟩
   ·have gk2:=bne hk2
    by_cases hj2:kdf 2=5
    ·have gj2:=beq1 hj2
     by_cases he:exf 0 1
     ·rw [dc_t he] at Qhe
      by_cases hk1:kdf 1=1
      ·have gk1:=beq1 hk1
       by_cases hb:Br false false false false a p 0
       ·rw [dc_t hb] at QB
        rw [dc_t ⟨Or.inr ⟨rfl,Or.inr hj2⟩,he,hk1,hb⟩]
        first | (have QKq:=QKq0 (show 0 < q by omega);clear QKq0) | clear QKq0
        go_enter Tryz.func54,Tryz.ntmps54
        go_wp2_with (first
         | (go_at_call 71;first | (with_reducible refine QKq.mono ?_;rintro e w1 ⟨rfl,rfl⟩) | (with_reducible refine QK1.mono ?_;rintro e w1 ⟨rfl,rfl⟩) | (with_reducible refine QK2.mono ?_;rintro e w1 ⟨rfl,rfl⟩))
         | (go_at_call 73;first | (refine Qhe.mono ?_;rintro e w1 ⟨rfl,rfl⟩))
         | (go_at_call 75;refine (sp_many _ _).mono ?_;rintro e w1 ⟨rfl,rfl⟩;first | rw [HMt] | rw [HMf] | skip)
         | (go_at_call 72;refine (QB _).mono ?_;rintro e w2 ⟨rfl,k2⟩;have HK2:Hid (Kb 0 _ w2):=k2;clear k2))
        go_ret
        exact ⟨by first | rfl | (simp only [*];rfl) | simp [*],by first | exact kb_alloc _ _ _ | exact (kb_alloc _ _ _).trans (uh HK2)⟩
       ·rw [dc_f hb] at QB
        rw [dc_f (fun g=>(hb) (g.2.2.2))]
        first | (have QKq:=QKq0 (show 0 < q by omega);clear QKq0) | clear QKq0
        go_enter Tryz.func54,Tryz.ntmps54
        go_wp2_with (first
         | (go_at_call 71;first | (with_reducible refine QKq.mono ?_;rintro e w1 ⟨rfl,rfl⟩) | (with_reducible refine QK1.mono ?_;rintro e w1 ⟨rfl,rfl⟩) | (with_reducible refine QK2.mono ?_;rintro e w1 ⟨rfl,rfl⟩))
         | (go_at_call 73;first | (refine Qhe.mono ?_;rintro e w1 ⟨rfl,rfl⟩))
         | (go_at_call 75;refine (sp_many _ _).mono ?_;rintro e w1 ⟨rfl,rfl⟩;first | rw [HMt] | rw [HMf] | skip)
         | (go_at_call 72;refine (QB _).mono ?_;rintro e w2 ⟨rfl,k2⟩;have HK2:Hid (Kb 0 _ w2):=k2;clear k2))
        go_ret
        exact ⟨by first | rfl | (simp only [*];rfl) | simp [*],by first | exact kb_alloc _ _ _ | exact (kb_alloc _ _ _).trans (uh HK2)⟩
      ·have gk1:=bne hk1
       rw [dc_f (fun g=>(hk1) (g.2.2.1))]
       first | (have QKq:=QKq0 (show 0 < q by omega);clear QKq0) | clear QKq0
       go_enter Tryz.func54,Tryz.ntmps54
       go_wp2_with (first
        | (go_at_call 71;first | (with_reducible refine QKq.mono ?_;rintro e w1 ⟨rfl,rfl⟩) | (with_reducible refine QK1.mono ?_;rintro e w1 ⟨rfl,rfl⟩) | (with_reducible refine QK2.mono ?_;rintro e w1 ⟨rfl,rfl⟩))
        | (go_at_call 73;first | (refine Qhe.mono ?_;rintro e w1 ⟨rfl,rfl⟩))
        | (go_at_call 75;refine (sp_many _ _).mono ?_;rintro e w1 ⟨rfl,rfl⟩;first | rw [HMt] | rw [HMf] | skip)
        | (go_at_call 72;refine (QB _).mono ?_;rintro e w2 ⟨rfl,k2⟩;have HK2:Hid (Kb 0 _ w2):=k2;clear k2))
       go_ret
       exact ⟨by first | rfl | (simp only [*];rfl) | simp [*],by first | exact kb_alloc _ _ _ | exact (kb_alloc _ _ _).trans (uh HK2)⟩
     ·rw [dc_f he] at Qhe
      rw [dc_f (fun g=>(he) (g.2.1))]
      first | (have QKq:=QKq0 (show 0 < q by omega);clear QKq0) | clear QKq0
      go_enter Tryz.func54,Tryz.ntmps54
      go_wp2_with (first
       | (go_at_call 71;first | (with_reducible refine QKq.mono ?_;rintro e w1 ⟨rfl,rfl⟩) | (with_reducible refine QK1.mono ?_;rintro e w1 ⟨rfl,rfl⟩) | (with_reducible refine QK2.mono ?_;rintro e w1 ⟨rfl,rfl⟩))
       | (go_at_call 73;first | (refine Qhe.mono ?_;rintro e w1 ⟨rfl,rfl⟩))
       | (go_at_call 75;refine (sp_many _ _).mono ?_;rintro e w1 ⟨rfl,rfl⟩;first | rw [HMt] | rw [HMf] | skip)
       | (go_at_call 72;refine (QB _).mono ?_;rintro e w2 ⟨rfl,k2⟩;have HK2:Hid (Kb 0 _ w2):=k2;clear k2))
      go_ret
      exact ⟨by first | rfl | (simp only [*];rfl) | simp [*],by first | exact kb_alloc _ _ _ | exact (kb_alloc _ _ _).trans (uh HK2)⟩
    ·have gj2:=bne hj2
     rw [dc_f (fun g=>(fun o=>o.elim (by omega) (fun o=>o.2.elim hk2 hj2)) (g.1))]
     first | (have QKq:=QKq0 (show 0 < q by omega);clear QKq0) | clear QKq0
     go_enter Tryz.func54,Tryz.ntmps54
     go_wp2_with (first
      | (go_at_call 71;first | (with_reducible refine QKq.mono ?_;rintro e w1 ⟨rfl,rfl⟩) | (with_reducible refine QK1.mono ?_;rintro e w1 ⟨rfl,rfl⟩) | (with_reducible refine QK2.mono ?_;rintro e w1 ⟨rfl,rfl⟩))
      | (go_at_call 73;first | (refine Qhe.mono ?_;rintro e w1 ⟨rfl,rfl⟩))
      | (go_at_call 75;refine (sp_many _ _).mono ?_;rintro e w1 ⟨rfl,rfl⟩;first | rw [HMt] | rw [HMf] | skip)
      | (go_at_call 72;refine (QB _).mono ?_;rintro e w2 ⟨rfl,k2⟩;have HK2:Hid (Kb 0 _ w2):=k2;clear k2))
     go_ret
     exact ⟨by first | rfl | (simp only [*];rfl) | simp [*],by first | exact kb_alloc _ _ _ | exact (kb_alloc _ _ _).trans (uh HK2)⟩
  ·skip
   by_cases hq0:q=0
   ·subst hq0
    rw [dc_f (fun g=>(fun o=>o.elim hq2 (fun o=>hq3 o.1)) (g.1))]
    first | (have QKq:=QKq0 (show 0 < q by omega);clear QKq0) | clear QKq0
    go_enter Tryz.func54,Tryz.ntmps54
    go_wp2_with (first
     | (go_at_call 71;first | (with_reducible refine QKq.mono ?_;rintro e w1 ⟨rfl,rfl⟩) | (with_reducible refine QK1.mono ?_;rintro e w1 ⟨rfl,rfl⟩) | (with_reducible refine QK2.mono ?_;rintro e w1 ⟨rfl,rfl⟩))
     | (go_at_call 73;first | (refine Qhe.mono ?_;rintro e w1 ⟨rfl,rfl⟩))
     | (go_at_call 75;refine (sp_many _ _).mono ?_;rintro e w1 ⟨rfl,rfl⟩;first | rw [HMt] | rw [HMf] | skip)
     | (go_at_call 72;refine (QB _).mono ?_;rintro e w2 ⟨rfl,k2⟩;have HK2:Hid (Kb 0 _ w2):=k2;clear k2))
    go_ret
    exact ⟨by first | rfl | (simp only [*];rfl) | simp [*],by first | exact kb_alloc _ _ _ | exact (kb_alloc _ _ _).trans (uh HK2)⟩
   ·have gq0:(0:Int) < (q:Int):=by omega
    have gqa:((q:Int) == 2)=false:=bne (by omega)
    have gqb:((q:Int) == 3)=false:=bne (by omega)
    rw [dc_f (fun g=>(fun o=>o.elim hq2 (fun o=>hq3 o.1)) (g.1))]
    first | (have QKq:=QKq0 (show 0 < q by omega);clear QKq0) | clear QKq0
    go_enter Tryz.func54,Tryz.ntmps54
    go_wp2_with (first
     | (go_at_call 71;first | (with_reducible refine QKq.mono ?_;rintro e w1 ⟨rfl,rfl⟩) | (with_reducible refine QK1.mono ?_;rintro e w1 ⟨rfl,rfl⟩) | (with_reducible refine QK2.mono ?_;rintro e w1 ⟨rfl,rfl⟩))
     | (go_at_call 73;first | (refine Qhe.mono ?_;rintro e w1 ⟨rfl,rfl⟩))
     | (go_at_call 75;refine (sp_many _ _).mono ?_;rintro e w1 ⟨rfl,rfl⟩;first | rw [HMt] | rw [HMf] | skip)
     | (go_at_call 72;refine (QB _).mono ?_;rintro e w2 ⟨rfl,k2⟩;have HK2:Hid (Kb 0 _ w2):=k2;clear k2))
    go_ret
    exact ⟨by first | rfl | (simp only [*];rfl) | simp [*],by first | exact kb_alloc _ _ _ | exact (kb_alloc _ _ _).trans (uh HK2)⟩
theorem st_6 {A : Addr} {n ca t : Nat} {a : Nv} {pr pk : Option Addr} {p cr q ck : Nat} {kdf : Nat → Int} {exf : Nat → Nat → Prop} (w : World) (hx : Nst w A n ca t a pr p cr pk q ck kdf exf) (hk : a.k = 6) :
  Calls Tryz.prog 54 #[.slice (some A) n ca,.int .i64 (t:Int)] w fun e w'=>e = .returned (.bool (dc (q=2∧exf 0 1∧kdf 1=1∧Br false false false false a p 0)))∧Kb 0 w w':=by
 obtain ⟨d0,d1,d2,d3,d4,d5,d6,d7⟩:=hx.cel
 have hnI:(n:Int)≤1048576:=by have:=hx.hn;omega
 have hpI:(p:Int)≤1048576:=by have:=hx.hp;omega
 have hqN:=hx.hq
 have hqI:(q:Int)≤1048576:=by omega
 have htI:(t:Int) < (n:Int):=by have:=hx.ht;omega
 have QK1:Calls Tryz.prog 71 #[.slice (some A) n ca,.int .i64 (t:Int),.int .i64 1] (w.alloc (.cells #[.int .i64 a.k,.int .i64 a.l,.int .i64 a.o,.int .i64 a.m,.float .f64 a.g,.string a.x,.slice pr p cr,.slice pk q ck] 59)) fun e w'=>e = .returned (.int .i64 (kdf 1))∧w'=(w.alloc (.cells #[.int .i64 a.k,.int .i64 a.l,.int .i64 a.o,.int .i64 a.m,.float .f64 a.g,.string a.x,.slice pr p cr,.slice pk q ck] 59)):=hx.kid 1 _ (kb_alloc _ _ _) (by omega)
 have QKq0 : 0 < q→Calls Tryz.prog 71 #[.slice (some A) n ca,.int .i64 (t:Int),.int .i64 ((q:Int) - 1)] (w.alloc (.cells #[.int .i64 a.k,.int .i64 a.l,.int .i64 a.o,.int .i64 a.m,.float .f64 a.g,.string a.x,.slice pr p cr,.slice pk q ck] 59)) fun e w'=>e = .returned (.int .i64 (kdf (q - 1)))∧w'=(w.alloc (.cells #[.int .i64 a.k,.int .i64 a.l,.int .i64 a.o,.int .i64 a.m,.float .f64 a.g,.string a.x,.slice pr p cr,.slice pk q ck] 59)):=fun h=>by
  have:=hx.kid (q - 1) _ (kb_alloc 0 w (.cells #[.int .i64 a.k,.int .i64 a.l,.int .i64 a.o,.int .i64 a.m,.float .f64 a.g,.string a.x,.slice pr p cr,.slice pk q ck] 59)) (by omega)
  rw [show ((q - 1:Nat):Int)=(q:Int) - 1 by omega] at this
  exact this
 have Qhe:Calls Tryz.prog 73 #[.slice (some A) n ca,.int .i64 (t:Int),.int .i64 0,.int .i64 1] (w.alloc (.cells #[.int .i64 a.k,.int .i64 a.l,.int .i64 a.o,.int .i64 a.m,.float .f64 a.g,.string a.x,.slice pr p cr,.slice pk q ck] 59)) fun e w'=>e = .returned (.bool (dc (exf 0 1)))∧w'=(w.alloc (.cells #[.int .i64 a.k,.int .i64 a.l,.int .i64 a.o,.int .i64 a.m,.float .f64 a.g,.string a.x,.slice pr p cr,.slice pk q ck] 59)):=hx.exp 0 1 _ (kb_alloc _ _ _) (by omega) (by omega)
 have QB:=fun W=>sp_bare_z a hx.hg pr p cr pk q ck 0 (by omega) hx.hp W
 unfold ndv at QB
 rw [hk] at d0 QB QK1 Qhe QKq0
 have HG:Hid (a.g < 18446744073709551616):=hx.hg
 clear hx
 have hst:=hst0
 have HQ:Hid (q≤1048576):=hqN
 clear hqN
 by_cases hq:q=2
 ·subst hq
  by_cases he:exf 0 1
  ·rw [dc_t he] at Qhe
   by_cases hk1:kdf 1=1
   ·have gk1:=beq1 hk1
    by_cases hb:Br false false false false a p 0
    ·rw [dc_t hb] at QB
     rw [dc_t ⟨rfl,he,hk1,hb⟩]
     first | (have QKq:=QKq0 (show 0 < q by omega);clear QKq0) | clear QKq0
     go_enter Tryz.func54,Tryz.ntmps54
     go_wp2_with (first
      | (go_at_call 71;first | (with_reducible refine QKq.mono ?_;rintro e w1 ⟨rfl,rfl⟩) | (with_reducible refine QK1.mono ?_;rintro e w1 ⟨rfl,rfl⟩))
      | (go_at_call 73;first | (refine Qhe.mono ?_;rintro e w1 ⟨rfl,rfl⟩))
      | (go_at_call 75;refine (sp_many _ _).mono ?_;rintro e w1 ⟨rfl,rfl⟩;first | rw [HMt] | rw [HMf] | skip)
      | (go_at_call 72;refine (QB _).mono ?_;rintro e w2 ⟨rfl,k2⟩;have HK2:Hid (Kb 0 _ w2):=k2;clear k2))
     go_ret
     exact ⟨by first | rfl | (simp only [*];rfl) | simp [*],by first | exact kb_alloc _ _ _ | exact (kb_alloc _ _ _).trans (uh HK2)⟩
    ·rw [dc_f hb] at QB
     rw [dc_f (fun g=>(hb) (g.2.2.2))]
     first | (have QKq:=QKq0 (show 0 < q by omega);clear QKq0) | clear QKq0
     go_enter Tryz.func54,Tryz.ntmps54
     go_wp2_with (first
      | (go_at_call 71;first | (with_reducible refine QKq.mono ?_;rintro e w1 ⟨rfl,rfl⟩) | (with_reducible refine QK1.mono ?_;rintro e w1 ⟨rfl,rfl⟩))
      | (go_at_call 73;first | (refine Qhe.mono ?_;rintro e w1 ⟨rfl,rfl⟩))
      | (go_at_call 75;refine (sp_many _ _).mono ?_;rintro e w1 ⟨rfl,rfl⟩;first | rw [HMt] | rw [HMf] | skip)
      | (go_at_call 72;refine (QB _).mono ?_;rintro e w2 ⟨rfl,k2⟩;have HK2:Hid (Kb 0 _ w2):=k2;clear k2))
     go_ret
     exact ⟨by first | rfl | (simp only [*];rfl) | simp [*],by first | exact kb_alloc _ _ _ | exact (kb_alloc _ _ _).trans (uh HK2)⟩
   ·have gk1:=bne hk1
    rw [dc_f (fun g=>(hk1) (g.2.2.1))]
    first | (have QKq:=QKq0 (show 0 < q by omega);clear QKq0) | clear QKq0
    go_enter Tryz.func54,Tryz.ntmps54
    go_wp2_with (first
     | (go_at_call 71;first | (with_reducible refine QKq.mono ?_;rintro e w1 ⟨rfl,rfl⟩) | (with_reducible refine QK1.mono ?_;rintro e w1 ⟨rfl,rfl⟩))
     | (go_at_call 73;first | (refine Qhe.mono ?_;rintro e w1 ⟨rfl,rfl⟩))
     | (go_at_call 75;refine (sp_many _ _).mono ?_;rintro e w1 ⟨rfl,rfl⟩;first | rw [HMt] | rw [HMf] | skip)
     | (go_at_call 72;refine (QB _).mono ?_;rintro e w2 ⟨rfl,k2⟩;have HK2:Hid (Kb 0 _ w2):=k2;clear k2))
    go_ret
    exact ⟨by first | rfl | (simp only [*];rfl) | simp [*],by first | exact kb_alloc _ _ _ | exact (kb_alloc _ _ _).trans (uh HK2)⟩
  ·rw [dc_f he] at Qhe
   rw [dc_f (fun g=>(he) (g.2.1))]
   first | (have QKq:=QKq0 (show 0 < q by omega);clear QKq0) | clear QKq0
   go_enter Tryz.func54,Tryz.ntmps54
   go_wp2_with (first
    | (go_at_call 71;first | (with_reducible refine QKq.mono ?_;rintro e w1 ⟨rfl,rfl⟩) | (with_reducible refine QK1.mono ?_;rintro e w1 ⟨rfl,rfl⟩))
    | (go_at_call 73;first | (refine Qhe.mono ?_;rintro e w1 ⟨rfl,rfl⟩))
    | (go_at_call 75;refine (sp_many _ _).mono ?_;rintro e w1 ⟨rfl,rfl⟩;first | rw [HMt] | rw [HMf] | skip)
    | (go_at_call 72;refine (QB _).mono ?_;rintro e w2 ⟨rfl,k2⟩;have HK2:Hid (Kb 0 _ w2):=k2;clear k2))
   go_ret
   exact ⟨by first | rfl | (simp only [*];rfl) | simp [*],by first | exact kb_alloc _ _ _ | exact (kb_alloc _ _ _).trans (uh HK2)⟩
 ·skip
  by_cases hq0:q=0
  ·subst hq0
   rw [dc_f (fun g=>(hq) (g.1))]
   first | (have QKq:=QKq0 (show 0 < q by omega);clear QKq0) | clear QKq0
   go_enter Tryz.func54,Tryz.ntmps54
   go_wp2_with (first
    | (go_at_call 71;first | (with_reducible refine QKq.mono ?_;rintro e w1 ⟨rfl,rfl⟩) | (with_reducible refine QK1.mono ?_;rintro e w1 ⟨rfl,rfl⟩))
    | (go_at_call 73;first | (refine Qhe.mono ?_;rintro e w1 ⟨rfl,rfl⟩))
    | (go_at_call 75;refine (sp_many _ _).mono ?_;rintro e w1 ⟨rfl,rfl⟩;first | rw [HMt] | rw [HMf] | skip)
    | (go_at_call 72;refine (QB _).mono ?_;rintro e w2 ⟨rfl,k2⟩;have HK2:Hid (Kb 0 _ w2):=k2;clear k2))
   go_ret
   exact ⟨by first | rfl | (simp only [*];rfl) | simp [*],by first | exact kb_alloc _ _ _ | exact (kb_alloc _ _ _).trans (uh HK2)⟩
  ·have gq0:(0:Int) < (q:Int):=by omega
   have gq:((q:Int) == 2)=false:=bne (by omega)
   rw [dc_f (fun g=>(hq) (g.1))]
   first | (have QKq:=QKq0 (show 0 < q by omega);clear QKq0) | clear QKq0
   go_enter Tryz.func54,Tryz.ntmps54
   go_wp2_with (first
    | (go_at_call 71;first | (with_reducible refine QKq.mono ?_;rintro e w1 ⟨rfl,rfl⟩) | (with_reducible refine QK1.mono ?_;rintro e w1 ⟨rfl,rfl⟩))
    | (go_at_call 73;first | (refine Qhe.mono ?_;rintro e w1 ⟨rfl,rfl⟩))
    | (go_at_call 75;refine (sp_many _ _).mono ?_;rintro e w1 ⟨rfl,rfl⟩;first | rw [HMt] | rw [HMf] | skip)
    | (go_at_call 72;refine (QB _).mono ?_;rintro e w2 ⟨rfl,k2⟩;have HK2:Hid (Kb 0 _ w2):=k2;clear k2))
   go_ret
   exact ⟨by first | rfl | (simp only [*];rfl) | simp [*],by first | exact kb_alloc _ _ _ | exact (kb_alloc _ _ _).trans (uh HK2)⟩
theorem st_7 {A : Addr} {n ca t : Nat} {a : Nv} {pr pk : Option Addr} {p cr q ck : Nat} {kdf : Nat → Int} {exf : Nat → Nat → Prop} (w : World) (hx : Nst w A n ca t a pr p cr pk q ck kdf exf) (hk : a.k = 7) :
  Calls Tryz.prog 54 #[.slice (some A) n ca,.int .i64 (t:Int)] w fun e w'=>e = .returned (.bool (dc (q=4∧exf 0 3∧kdf 3=1∧Br false false false false a p 1)))∧Kb 0 w w':=by
 obtain ⟨d0,d1,d2,d3,d4,d5,d6,d7⟩:=hx.cel
 have hnI:(n:Int)≤1048576:=by have:=hx.hn;omega
 have hpI:(p:Int)≤1048576:=by have:=hx.hp;omega
 have hqN:=hx.hq
 have hqI:(q:Int)≤1048576:=by omega
 have htI:(t:Int) < (n:Int):=by have:=hx.ht;omega
 have QK3:Calls Tryz.prog 71 #[.slice (some A) n ca,.int .i64 (t:Int),.int .i64 3] (w.alloc (.cells #[.int .i64 a.k,.int .i64 a.l,.int .i64 a.o,.int .i64 a.m,.float .f64 a.g,.string a.x,.slice pr p cr,.slice pk q ck] 59)) fun e w'=>e = .returned (.int .i64 (kdf 3))∧w'=(w.alloc (.cells #[.int .i64 a.k,.int .i64 a.l,.int .i64 a.o,.int .i64 a.m,.float .f64 a.g,.string a.x,.slice pr p cr,.slice pk q ck] 59)):=hx.kid 3 _ (kb_alloc _ _ _) (by omega)
 have QKq0 : 0 < q→Calls Tryz.prog 71 #[.slice (some A) n ca,.int .i64 (t:Int),.int .i64 ((q:Int) - 1)] (w.alloc (.cells #[.int .i64 a.k,.int .i64 a.l,.int .i64 a.o,.int .i64 a.m,.float .f64 a.g,.string a.x,.slice pr p cr,.slice pk q ck] 59)) fun e w'=>e = .returned (.int .i64 (kdf (q - 1)))∧w'=(w.alloc (.cells #[.int .i64 a.k,.int .i64 a.l,.int .i64 a.o,.int .i64 a.m,.float .f64 a.g,.string a.x,.slice pr p cr,.slice pk q ck] 59)):=fun h=>by
  have:=hx.kid (q - 1) _ (kb_alloc 0 w (.cells #[.int .i64 a.k,.int .i64 a.l,.int .i64 a.o,.int .i64 a.m,.float .f64 a.g,.string a.x,.slice pr p cr,.slice pk q ck] 59)) (by omega)
  rw [show ((q - 1:Nat):Int)=(q:Int) - 1 by omega] at this
  exact this
 have Qhe:Calls Tryz.prog 73 #[.slice (some A) n ca,.int .i64 (t:Int),.int .i64 0,.int .i64 3] (w.alloc (.cells #[.int .i64 a.k,.int .i64 a.l,.int .i64 a.o,.int .i64 a.m,.float .f64 a.g,.string a.x,.slice pr p cr,.slice pk q ck] 59)) fun e w'=>e = .returned (.bool (dc (exf 0 3)))∧w'=(w.alloc (.cells #[.int .i64 a.k,.int .i64 a.l,.int .i64 a.o,.int .i64 a.m,.float .f64 a.g,.string a.x,.slice pr p cr,.slice pk q ck] 59)):=hx.exp 0 3 _ (kb_alloc _ _ _) (by omega) (by omega)
 have QB:=fun W=>sp_bare_z a hx.hg pr p cr pk q ck 1 (by omega) hx.hp W
 unfold ndv at QB
 rw [hk] at d0 QB QK3 Qhe QKq0
 have HG:Hid (a.g < 18446744073709551616):=hx.hg
 clear hx
 have hst:=hst0
 have HQ:Hid (q≤1048576):=hqN
 clear hqN
 by_cases hq:q=4
 ·subst hq
  by_cases he:exf 0 3
  ·rw [dc_t he] at Qhe
   by_cases hk3:kdf 3=1
   ·have gk3:=beq1 hk3
    by_cases hb:Br false false false false a p 1
    ·rw [dc_t hb] at QB
     rw [dc_t ⟨rfl,he,hk3,hb⟩]
     first | (have QKq:=QKq0 (show 0 < q by omega);clear QKq0) | clear QKq0
     go_enter Tryz.func54,Tryz.ntmps54
     go_wp2_with (first
      | (go_at_call 71;first | (with_reducible refine QKq.mono ?_;rintro e w1 ⟨rfl,rfl⟩) | (with_reducible refine QK3.mono ?_;rintro e w1 ⟨rfl,rfl⟩))
      | (go_at_call 73;first | (refine Qhe.mono ?_;rintro e w1 ⟨rfl,rfl⟩))
      | (go_at_call 75;refine (sp_many _ _).mono ?_;rintro e w1 ⟨rfl,rfl⟩;first | rw [HMt] | rw [HMf] | skip)
      | (go_at_call 72;refine (QB _).mono ?_;rintro e w2 ⟨rfl,k2⟩;have HK2:Hid (Kb 0 _ w2):=k2;clear k2))
     go_ret
     exact ⟨by first | rfl | (simp only [*];rfl) | simp [*],by first | exact kb_alloc _ _ _ | exact (kb_alloc _ _ _).trans (uh HK2)⟩
    ·rw [dc_f hb] at QB
     rw [dc_f (fun g=>(hb) (g.2.2.2))]
     first | (have QKq:=QKq0 (show 0 < q by omega);clear QKq0) | clear QKq0
     go_enter Tryz.func54,Tryz.ntmps54
     go_wp2_with (first
      | (go_at_call 71;first | (with_reducible refine QKq.mono ?_;rintro e w1 ⟨rfl,rfl⟩) | (with_reducible refine QK3.mono ?_;rintro e w1 ⟨rfl,rfl⟩))
      | (go_at_call 73;first | (refine Qhe.mono ?_;rintro e w1 ⟨rfl,rfl⟩))
      | (go_at_call 75;refine (sp_many _ _).mono ?_;rintro e w1 ⟨rfl,rfl⟩;first | rw [HMt] | rw [HMf] | skip)
      | (go_at_call 72;refine (QB _).mono ?_;rintro e w2 ⟨rfl,k2⟩;have HK2:Hid (Kb 0 _ w2):=k2;clear k2))
     go_ret
     exact ⟨by first | rfl | (simp only [*];rfl) | simp [*],by first | exact kb_alloc _ _ _ | exact (kb_alloc _ _ _).trans (uh HK2)⟩
   ·have gk3:=bne hk3
    rw [dc_f (fun g=>(hk3) (g.2.2.1))]
    first | (have QKq:=QKq0 (show 0 < q by omega);clear QKq0) | clear QKq0
    go_enter Tryz.func54,Tryz.ntmps54
    go_wp2_with (first
     | (go_at_call 71;first | (with_reducible refine QKq.mono ?_;rintro e w1 ⟨rfl,rfl⟩) | (with_reducible refine QK3.mono ?_;rintro e w1 ⟨rfl,rfl⟩))
     | (go_at_call 73;first | (refine Qhe.mono ?_;rintro e w1 ⟨rfl,rfl⟩))
     | (go_at_call 75;refine (sp_many _ _).mono ?_;rintro e w1 ⟨rfl,rfl⟩;first | rw [HMt] | rw [HMf] | skip)
     | (go_at_call 72;refine (QB _).mono ?_;rintro e w2 ⟨rfl,k2⟩;have HK2:Hid (Kb 0 _ w2):=k2;clear k2))
    go_ret
    exact ⟨by first | rfl | (simp only [*];rfl) | simp [*],by first | exact kb_alloc _ _ _ | exact (kb_alloc _ _ _).trans (uh HK2)⟩
  ·rw [dc_f he] at Qhe
   rw [dc_f (fun g=>(he) (g.2.1))]
   first | (have QKq:=QKq0 (show 0 < q by omega);clear QKq0) | clear QKq0
   go_enter Tryz.func54,Tryz.ntmps54
   go_wp2_with (first
    | (go_at_call 71;first | (with_reducible refine QKq.mono ?_;rintro e w1 ⟨rfl,rfl⟩) | (with_reducible refine QK3.mono ?_;rintro e w1 ⟨rfl,rfl⟩))
    | (go_at_call 73;first | (refine Qhe.mono ?_;rintro e w1 ⟨rfl,rfl⟩))
    | (go_at_call 75;refine (sp_many _ _).mono ?_;rintro e w1 ⟨rfl,rfl⟩;first | rw [HMt] | rw [HMf] | skip)
    | (go_at_call 72;refine (QB _).mono ?_;rintro e w2 ⟨rfl,k2⟩;have HK2:Hid (Kb 0 _ w2):=k2;clear k2))
   go_ret
   exact ⟨by first | rfl | (simp only [*];rfl) | simp [*],by first | exact kb_alloc _ _ _ | exact (kb_alloc _ _ _).trans (uh HK2)⟩
 ·skip
  by_cases hq0:q=0
  ·subst hq0
   rw [dc_f (fun g=>(hq) (g.1))]
   first | (have QKq:=QKq0 (show 0 < q by omega);clear QKq0) | clear QKq0
   go_enter Tryz.func54,Tryz.ntmps54
   go_wp2_with (first
    | (go_at_call 71;first | (with_reducible refine QKq.mono ?_;rintro e w1 ⟨rfl,rfl⟩) | (with_reducible refine QK3.mono ?_;rintro e w1 ⟨rfl,rfl⟩))
    | (go_at_call 73;first | (refine Qhe.mono ?_;rintro e w1 ⟨rfl,rfl⟩))
    | (go_at_call 75;refine (sp_many _ _).mono ?_;rintro e w1 ⟨rfl,rfl⟩;first | rw [HMt] | rw [HMf] | skip)
    | (go_at_call 72;refine (QB _).mono ?_;rintro e w2 ⟨rfl,k2⟩;have HK2:Hid (Kb 0 _ w2):=k2;clear k2))
   go_ret
   exact ⟨by first | rfl | (simp only [*];rfl) | simp [*],by first | exact kb_alloc _ _ _ | exact (kb_alloc _ _ _).trans (uh HK2)⟩
  ·have gq0:(0:Int) < (q:Int):=by omega
   have gq:((q:Int) == 4)=false:=bne (by omega)
   rw [dc_f (fun g=>(hq) (g.1))]
   first | (have QKq:=QKq0 (show 0 < q by omega);clear QKq0) | clear QKq0
   go_enter Tryz.func54,Tryz.ntmps54
   go_wp2_with (first
    | (go_at_call 71;first | (with_reducible refine QKq.mono ?_;rintro e w1 ⟨rfl,rfl⟩) | (with_reducible refine QK3.mono ?_;rintro e w1 ⟨rfl,rfl⟩))
    | (go_at_call 73;first | (refine Qhe.mono ?_;rintro e w1 ⟨rfl,rfl⟩))
    | (go_at_call 75;refine (sp_many _ _).mono ?_;rintro e w1 ⟨rfl,rfl⟩;first | rw [HMt] | rw [HMf] | skip)
    | (go_at_call 72;refine (QB _).mono ?_;rintro e w2 ⟨rfl,k2⟩;have HK2:Hid (Kb 0 _ w2):=k2;clear k2))
   go_ret
   exact ⟨by first | rfl | (simp only [*];rfl) | simp [*],by first | exact kb_alloc _ _ _ | exact (kb_alloc _ _ _).trans (uh HK2)⟩
theorem st_8 {A : Addr} {n ca t : Nat} {a : Nv} {pr pk : Option Addr} {p cr q ck : Nat} {kdf : Nat → Int} {exf : Nat → Nat → Prop} (w : World) (hx : Nst w A n ca t a pr p cr pk q ck kdf exf) (hk : a.k = 8) :
  Calls Tryz.prog 54 #[.slice (some A) n ca,.int .i64 (t:Int)] w fun e w'=>e = .returned (.bool (dc (q=2∧1≤p∧p≤4∧exf 0 1∧kdf 1=1∧Br false false false false a p (p:Int))))∧Kb 0 w w':=by
 obtain ⟨d0,d1,d2,d3,d4,d5,d6,d7⟩:=hx.cel
 have hnI:(n:Int)≤1048576:=by have:=hx.hn;omega
 have hpI:(p:Int)≤1048576:=by have:=hx.hp;omega
 have hqN:=hx.hq
 have hqI:(q:Int)≤1048576:=by omega
 have htI:(t:Int) < (n:Int):=by have:=hx.ht;omega
 have QK1:Calls Tryz.prog 71 #[.slice (some A) n ca,.int .i64 (t:Int),.int .i64 1] (w.alloc (.cells #[.int .i64 a.k,.int .i64 a.l,.int .i64 a.o,.int .i64 a.m,.float .f64 a.g,.string a.x,.slice pr p cr,.slice pk q ck] 59)) fun e w'=>e = .returned (.int .i64 (kdf 1))∧w'=(w.alloc (.cells #[.int .i64 a.k,.int .i64 a.l,.int .i64 a.o,.int .i64 a.m,.float .f64 a.g,.string a.x,.slice pr p cr,.slice pk q ck] 59)):=hx.kid 1 _ (kb_alloc _ _ _) (by omega)
 have QKq0 : 0 < q→Calls Tryz.prog 71 #[.slice (some A) n ca,.int .i64 (t:Int),.int .i64 ((q:Int) - 1)] (w.alloc (.cells #[.int .i64 a.k,.int .i64 a.l,.int .i64 a.o,.int .i64 a.m,.float .f64 a.g,.string a.x,.slice pr p cr,.slice pk q ck] 59)) fun e w'=>e = .returned (.int .i64 (kdf (q - 1)))∧w'=(w.alloc (.cells #[.int .i64 a.k,.int .i64 a.l,.int .i64 a.o,.int .i64 a.m,.float .f64 a.g,.string a.x,.slice pr p cr,.slice pk q ck] 59)):=fun h=>by
  have:=hx.kid (q - 1) _ (kb_alloc 0 w (.cells #[.int .i64 a.k,.int .i64 a.l,.int .i64 a.o,.int .i64 a.m,.float .f64 a.g,.string a.x,.slice pr p cr,.slice pk q ck] 59)) (by omega)
  rw [show ((q - 1:Nat):Int)=(q:Int) - 1 by omega] at this
  exact this
 have Qhe:Calls Tryz.prog 73 #[.slice (some A) n ca,.int .i64 (t:Int),.int .i64 0,.int .i64 1] (w.alloc (.cells #[.int .i64 a.k,.int .i64 a.l,.int .i64 a.o,.int .i64 a.m,.float .f64 a.g,.string a.x,.slice pr p cr,.slice pk q ck] 59)) fun e w'=>e = .returned (.bool (dc (exf 0 1)))∧w'=(w.alloc (.cells #[.int .i64 a.k,.int .i64 a.l,.int .i64 a.o,.int .i64 a.m,.float .f64 a.g,.string a.x,.slice pr p cr,.slice pk q ck] 59)):=hx.exp 0 1 _ (kb_alloc _ _ _) (by omega) (by omega)
 have QB:=fun W=>sp_bare_z a hx.hg pr p cr pk q ck (p:Int) (by omega) hx.hp W
 unfold ndv at QB
 rw [hk] at d0 QB QK1 Qhe QKq0
 have HG:Hid (a.g < 18446744073709551616):=hx.hg
 clear hx
 have hst:=hst0
 have HQ:Hid (q≤1048576):=hqN
 clear hqN
 by_cases hq:q=2
 ·subst hq
  by_cases hp1 : 1≤p
  ·have gp1:(1:Int)≤(p:Int):=by omega
   by_cases hp4:p≤4
   ·have gp4:(p:Int)≤4:=by omega
    by_cases he:exf 0 1
    ·rw [dc_t he] at Qhe
     by_cases hk1:kdf 1=1
     ·have gk1:=beq1 hk1
      by_cases hb:Br false false false false a p (p:Int)
      ·rw [dc_t hb] at QB
       rw [dc_t ⟨rfl,hp1,hp4,he,hk1,hb⟩]
       first | (have QKq:=QKq0 (show 0 < q by omega);clear QKq0) | clear QKq0
       go_enter Tryz.func54,Tryz.ntmps54
       go_wp2_with (first
        | (go_at_call 71;first | (with_reducible refine QKq.mono ?_;rintro e w1 ⟨rfl,rfl⟩) | (with_reducible refine QK1.mono ?_;rintro e w1 ⟨rfl,rfl⟩))
        | (go_at_call 73;first | (refine Qhe.mono ?_;rintro e w1 ⟨rfl,rfl⟩))
        | (go_at_call 75;refine (sp_many _ _).mono ?_;rintro e w1 ⟨rfl,rfl⟩;first | rw [HMt] | rw [HMf] | skip)
        | (go_at_call 72;refine (QB _).mono ?_;rintro e w2 ⟨rfl,k2⟩;have HK2:Hid (Kb 0 _ w2):=k2;clear k2))
       go_ret
       exact ⟨by first | rfl | (simp only [*];rfl) | simp [*],by first | exact kb_alloc _ _ _ | exact (kb_alloc _ _ _).trans (uh HK2)⟩
      ·rw [dc_f hb] at QB
       rw [dc_f (fun g=>(hb) (g.2.2.2.2.2))]
       first | (have QKq:=QKq0 (show 0 < q by omega);clear QKq0) | clear QKq0
       go_enter Tryz.func54,Tryz.ntmps54
       go_wp2_with (first
        | (go_at_call 71;first | (with_reducible refine QKq.mono ?_;rintro e w1 ⟨rfl,rfl⟩) | (with_reducible refine QK1.mono ?_;rintro e w1 ⟨rfl,rfl⟩))
        | (go_at_call 73;first | (refine Qhe.mono ?_;rintro e w1 ⟨rfl,rfl⟩))
        | (go_at_call 75;refine (sp_many _ _).mono ?_;rintro e w1 ⟨rfl,rfl⟩;first | rw [HMt] | rw [HMf] | skip)
        | (go_at_call 72;refine (QB _).mono ?_;rintro e w2 ⟨rfl,k2⟩;have HK2:Hid (Kb 0 _ w2):=k2;clear k2))
       go_ret
       exact ⟨by first | rfl | (simp only [*];rfl) | simp [*],by first | exact kb_alloc _ _ _ | exact (kb_alloc _ _ _).trans (uh HK2)⟩
     ·have gk1:=bne hk1
      rw [dc_f (fun g=>(hk1) (g.2.2.2.2.1))]
      first | (have QKq:=QKq0 (show 0 < q by omega);clear QKq0) | clear QKq0
      go_enter Tryz.func54,Tryz.ntmps54
      go_wp2_with (first
       | (go_at_call 71;first | (with_reducible refine QKq.mono ?_;rintro e w1 ⟨rfl,rfl⟩) | (with_reducible refine QK1.mono ?_;rintro e w1 ⟨rfl,rfl⟩))
       | (go_at_call 73;first | (refine Qhe.mono ?_;rintro e w1 ⟨rfl,rfl⟩))
       | (go_at_call 75;refine (sp_many _ _).mono ?_;rintro e w1 ⟨rfl,rfl⟩;first | rw [HMt] | rw [HMf] | skip)
       | (go_at_call 72;refine (QB _).mono ?_;rintro e w2 ⟨rfl,k2⟩;have HK2:Hid (Kb 0 _ w2):=k2;clear k2))
      go_ret
      exact ⟨by first | rfl | (simp only [*];rfl) | simp [*],by first | exact kb_alloc _ _ _ | exact (kb_alloc _ _ _).trans (uh HK2)⟩
    ·rw [dc_f he] at Qhe
     rw [dc_f (fun g=>(he) (g.2.2.2.1))]
     first | (have QKq:=QKq0 (show 0 < q by omega);clear QKq0) | clear QKq0
     go_enter Tryz.func54,Tryz.ntmps54
     go_wp2_with (first
      | (go_at_call 71;first | (with_reducible refine QKq.mono ?_;rintro e w1 ⟨rfl,rfl⟩) | (with_reducible refine QK1.mono ?_;rintro e w1 ⟨rfl,rfl⟩))
      | (go_at_call 73;first | (refine Qhe.mono ?_;rintro e w1 ⟨rfl,rfl⟩))
      | (go_at_call 75;refine (sp_many _ _).mono ?_;rintro e w1 ⟨rfl,rfl⟩;first | rw [HMt] | rw [HMf] | skip)
      | (go_at_call 72;refine (QB _).mono ?_;rintro e w2 ⟨rfl,k2⟩;have HK2:Hid (Kb 0 _ w2):=k2;clear k2))
     go_ret
     exact ⟨by first | rfl | (simp only [*];rfl) | simp [*],by first | exact kb_alloc _ _ _ | exact (kb_alloc _ _ _).trans (uh HK2)⟩
   ·have gp4:¬ (p:Int)≤4:=by omega
    rw [dc_f (fun g=>(hp4) (g.2.2.1))]
    first | (have QKq:=QKq0 (show 0 < q by omega);clear QKq0) | clear QKq0
    go_enter Tryz.func54,Tryz.ntmps54
    go_wp2_with (first
     | (go_at_call 71;first | (with_reducible refine QKq.mono ?_;rintro e w1 ⟨rfl,rfl⟩) | (with_reducible refine QK1.mono ?_;rintro e w1 ⟨rfl,rfl⟩))
     | (go_at_call 73;first | (refine Qhe.mono ?_;rintro e w1 ⟨rfl,rfl⟩))
     | (go_at_call 75;refine (sp_many _ _).mono ?_;rintro e w1 ⟨rfl,rfl⟩;first | rw [HMt] | rw [HMf] | skip)
     | (go_at_call 72;refine (QB _).mono ?_;rintro e w2 ⟨rfl,k2⟩;have HK2:Hid (Kb 0 _ w2):=k2;clear k2))
    go_ret
    exact ⟨by first | rfl | (simp only [*];rfl) | simp [*],by first | exact kb_alloc _ _ _ | exact (kb_alloc _ _ _).trans (uh HK2)⟩
  ·have gp1:¬ (1:Int)≤(p:Int):=by omega
   rw [dc_f (fun g=>(hp1) (g.2.1))]
   first | (have QKq:=QKq0 (show 0 < q by omega);clear QKq0) | clear QKq0
   go_enter Tryz.func54,Tryz.ntmps54
   go_wp2_with (first
    | (go_at_call 71;first | (with_reducible refine QKq.mono ?_;rintro e w1 ⟨rfl,rfl⟩) | (with_reducible refine QK1.mono ?_;rintro e w1 ⟨rfl,rfl⟩))
    | (go_at_call 73;first | (refine Qhe.mono ?_;rintro e w1 ⟨rfl,rfl⟩))
    | (go_at_call 75;refine (sp_many _ _).mono ?_;rintro e w1 ⟨rfl,rfl⟩;first | rw [HMt] | rw [HMf] | skip)
    | (go_at_call 72;refine (QB _).mono ?_;rintro e w2 ⟨rfl,k2⟩;have HK2:Hid (Kb 0 _ w2):=k2;clear k2))
   go_ret
   exact ⟨by first | rfl | (simp only [*];rfl) | simp [*],by first | exact kb_alloc _ _ _ | exact (kb_alloc _ _ _).trans (uh HK2)⟩
 ·skip
  by_cases hq0:q=0
  ·subst hq0
   rw [dc_f (fun g=>(hq) (g.1))]
   first | (have QKq:=QKq0 (show 0 < q by omega);clear QKq0) | clear QKq0
   go_enter Tryz.func54,Tryz.ntmps54
   go_wp2_with (first
    | (go_at_call 71;first | (with_reducible refine QKq.mono ?_;rintro e w1 ⟨rfl,rfl⟩) | (with_reducible refine QK1.mono ?_;rintro e w1 ⟨rfl,rfl⟩))
    | (go_at_call 73;first | (refine Qhe.mono ?_;rintro e w1 ⟨rfl,rfl⟩))
    | (go_at_call 75;refine (sp_many _ _).mono ?_;rintro e w1 ⟨rfl,rfl⟩;first | rw [HMt] | rw [HMf] | skip)
    | (go_at_call 72;refine (QB _).mono ?_;rintro e w2 ⟨rfl,k2⟩;have HK2:Hid (Kb 0 _ w2):=k2;clear k2))
   go_ret
   exact ⟨by first | rfl | (simp only [*];rfl) | simp [*],by first | exact kb_alloc _ _ _ | exact (kb_alloc _ _ _).trans (uh HK2)⟩
  ·have gq0:(0:Int) < (q:Int):=by omega
   have gq:((q:Int) == 2)=false:=bne (by omega)
   rw [dc_f (fun g=>(hq) (g.1))]
   first | (have QKq:=QKq0 (show 0 < q by omega);clear QKq0) | clear QKq0
   go_enter Tryz.func54,Tryz.ntmps54
   go_wp2_with (first
    | (go_at_call 71;first | (with_reducible refine QKq.mono ?_;rintro e w1 ⟨rfl,rfl⟩) | (with_reducible refine QK1.mono ?_;rintro e w1 ⟨rfl,rfl⟩))
    | (go_at_call 73;first | (refine Qhe.mono ?_;rintro e w1 ⟨rfl,rfl⟩))
    | (go_at_call 75;refine (sp_many _ _).mono ?_;rintro e w1 ⟨rfl,rfl⟩;first | rw [HMt] | rw [HMf] | skip)
    | (go_at_call 72;refine (QB _).mono ?_;rintro e w2 ⟨rfl,k2⟩;have HK2:Hid (Kb 0 _ w2):=k2;clear k2))
   go_ret
   exact ⟨by first | rfl | (simp only [*];rfl) | simp [*],by first | exact kb_alloc _ _ _ | exact (kb_alloc _ _ _).trans (uh HK2)⟩
end Go.Proofs.YtfpidccjcemcjaaGreat.Fo
