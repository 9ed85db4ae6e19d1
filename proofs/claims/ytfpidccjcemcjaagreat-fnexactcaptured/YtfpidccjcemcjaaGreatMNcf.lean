import Derived.Test.YtfpidccjcemcjaaGreatMZsq
import Derived.Test.YtfpidccjcemcjaaGreatMNdn
set_option maxHeartbeats 16000000
namespace Go.Proofs.YtfpidccjcemcjaaGreat.Fo
open Go.ChangeShapes Go.WideShapes Go.ChangeAt Go.RowKit
set_option linter.unusedVariables false
set_option maxRecDepth 100000
theorem st_9 {A : Addr} {n ca t : Nat} {a : Nv} {pr pk : Option Addr} {p cr q ck : Nat} {kdf : Nat → Int} {exf : Nat → Nat → Prop} (w : World) (hx : Nst w A n ca t a pr p cr pk q ck kdf exf) (hk : a.k = 9) :
  Calls Tryz.prog 54 #[.slice (some A) n ca,.int .i64 (t:Int)] w fun e w'=>e = .returned (.bool (dc (q=0∧Br false false false false a p 0)))∧Kb 0 w w':=by
 obtain ⟨d0,d1,d2,d3,d4,d5,d6,d7⟩:=hx.cel
 have hnI:(n:Int)≤1048576:=by have:=hx.hn;omega
 have hpI:(p:Int)≤1048576:=by have:=hx.hp;omega
 have hqN:=hx.hq
 have hqI:(q:Int)≤1048576:=by omega
 have htI:(t:Int) < (n:Int):=by have:=hx.ht;omega
 have QKq0 : 0 < q→Calls Tryz.prog 71 #[.slice (some A) n ca,.int .i64 (t:Int),.int .i64 ((q:Int) - 1)] (w.alloc (.cells #[.int .i64 a.k,.int .i64 a.l,.int .i64 a.o,.int .i64 a.m,.float .f64 a.g,.string a.x,.slice pr p cr,.slice pk q ck] 59)) fun e w'=>e = .returned (.int .i64 (kdf (q - 1)))∧w'=(w.alloc (.cells #[.int .i64 a.k,.int .i64 a.l,.int .i64 a.o,.int .i64 a.m,.float .f64 a.g,.string a.x,.slice pr p cr,.slice pk q ck] 59)):=fun h=>by
  have:=hx.kid (q - 1) _ (kb_alloc 0 w (.cells #[.int .i64 a.k,.int .i64 a.l,.int .i64 a.o,.int .i64 a.m,.float .f64 a.g,.string a.x,.slice pr p cr,.slice pk q ck] 59)) (by omega)
  rw [show ((q - 1:Nat):Int)=(q:Int) - 1 by omega] at this
  exact this
 have QB:=fun W=>sp_bare_z a hx.hg pr p cr pk q ck 0 (by omega) hx.hp W
 unfold ndv at QB
 rw [hk] at d0 QB   QKq0
 have HG:Hid (a.g < 18446744073709551616):=hx.hg
 clear hx
 have hst:=hst0
 have HQ:Hid (q≤1048576):=hqN
 clear hqN
 by_cases hq:q=0
 ·subst hq
  by_cases hb:Br false false false false a p 0
  ·rw [dc_t hb] at QB
   rw [dc_t ⟨rfl,hb⟩]
   first | (have QKq:=QKq0 (show 0 < q by omega);clear QKq0) | clear QKq0
   go_enter Tryz.func54,Tryz.ntmps54
   go_wp2_with (first
    | (go_at_call 71;first | (with_reducible refine QKq.mono ?_;rintro e w1 ⟨rfl,rfl⟩))
    | (go_at_call 75;refine (sp_many _ _).mono ?_;rintro e w1 ⟨rfl,rfl⟩;first | rw [HMt] | rw [HMf] | skip)
    | (go_at_call 72;refine (QB _).mono ?_;rintro e w2 ⟨rfl,k2⟩;have HK2:Hid (Kb 0 _ w2):=k2;clear k2))
   go_ret
   exact ⟨by first | rfl | (simp only [*];rfl) | simp [*],by first | exact kb_alloc _ _ _ | exact (kb_alloc _ _ _).trans (uh HK2)⟩
  ·rw [dc_f hb] at QB
   rw [dc_f (fun g=>(hb) (g.2))]
   first | (have QKq:=QKq0 (show 0 < q by omega);clear QKq0) | clear QKq0
   go_enter Tryz.func54,Tryz.ntmps54
   go_wp2_with (first
    | (go_at_call 71;first | (with_reducible refine QKq.mono ?_;rintro e w1 ⟨rfl,rfl⟩))
    | (go_at_call 75;refine (sp_many _ _).mono ?_;rintro e w1 ⟨rfl,rfl⟩;first | rw [HMt] | rw [HMf] | skip)
    | (go_at_call 72;refine (QB _).mono ?_;rintro e w2 ⟨rfl,k2⟩;have HK2:Hid (Kb 0 _ w2):=k2;clear k2))
   go_ret
   exact ⟨by first | rfl | (simp only [*];rfl) | simp [*],by first | exact kb_alloc _ _ _ | exact (kb_alloc _ _ _).trans (uh HK2)⟩
 ·have gq:((q:Int) == 0)=false:=bne (by omega)
  have gq0:(0:Int) < (q:Int):=by omega
  rw [dc_f (fun g=>(hq) (g.1))]
  first | (have QKq:=QKq0 (show 0 < q by omega);clear QKq0) | clear QKq0
  go_enter Tryz.func54,Tryz.ntmps54
  go_wp2_with (first
   | (go_at_call 71;first | (with_reducible refine QKq.mono ?_;rintro e w1 ⟨rfl,rfl⟩))
   | (go_at_call 75;refine (sp_many _ _).mono ?_;rintro e w1 ⟨rfl,rfl⟩;first | rw [HMt] | rw [HMf] | skip)
   | (go_at_call 72;refine (QB _).mono ?_;rintro e w2 ⟨rfl,k2⟩;have HK2:Hid (Kb 0 _ w2):=k2;clear k2))
  go_ret
  exact ⟨by first | rfl | (simp only [*];rfl) | simp [*],by first | exact kb_alloc _ _ _ | exact (kb_alloc _ _ _).trans (uh HK2)⟩
theorem st_10 {A : Addr} {n ca t : Nat} {a : Nv} {pr pk : Option Addr} {p cr q ck : Nat} {kdf : Nat → Int} {exf : Nat → Nat → Prop} (w : World) (hx : Nst w A n ca t a pr p cr pk q ck kdf exf) (hk : a.k = 10) :
  Calls Tryz.prog 54 #[.slice (some A) n ca,.int .i64 (t:Int)] w fun e w'=>e = .returned (.bool (dc (q=0∧Br false false false false a p 0)))∧Kb 0 w w':=by
 obtain ⟨d0,d1,d2,d3,d4,d5,d6,d7⟩:=hx.cel
 have hnI:(n:Int)≤1048576:=by have:=hx.hn;omega
 have hpI:(p:Int)≤1048576:=by have:=hx.hp;omega
 have hqN:=hx.hq
 have hqI:(q:Int)≤1048576:=by omega
 have htI:(t:Int) < (n:Int):=by have:=hx.ht;omega
 have QKq0 : 0 < q→Calls Tryz.prog 71 #[.slice (some A) n ca,.int .i64 (t:Int),.int .i64 ((q:Int) - 1)] (w.alloc (.cells #[.int .i64 a.k,.int .i64 a.l,.int .i64 a.o,.int .i64 a.m,.float .f64 a.g,.string a.x,.slice pr p cr,.slice pk q ck] 59)) fun e w'=>e = .returned (.int .i64 (kdf (q - 1)))∧w'=(w.alloc (.cells #[.int .i64 a.k,.int .i64 a.l,.int .i64 a.o,.int .i64 a.m,.float .f64 a.g,.string a.x,.slice pr p cr,.slice pk q ck] 59)):=fun h=>by
  have:=hx.kid (q - 1) _ (kb_alloc 0 w (.cells #[.int .i64 a.k,.int .i64 a.l,.int .i64 a.o,.int .i64 a.m,.float .f64 a.g,.string a.x,.slice pr p cr,.slice pk q ck] 59)) (by omega)
  rw [show ((q - 1:Nat):Int)=(q:Int) - 1 by omega] at this
  exact this
 have QB:=fun W=>sp_bare_z a hx.hg pr p cr pk q ck 0 (by omega) hx.hp W
 unfold ndv at QB
 rw [hk] at d0 QB   QKq0
 have HG:Hid (a.g < 18446744073709551616):=hx.hg
 clear hx
 have hst:=hst0
 have HQ:Hid (q≤1048576):=hqN
 clear hqN
 by_cases hq:q=0
 ·subst hq
  by_cases hb:Br false false false false a p 0
  ·rw [dc_t hb] at QB
   rw [dc_t ⟨rfl,hb⟩]
   first | (have QKq:=QKq0 (show 0 < q by omega);clear QKq0) | clear QKq0
   go_enter Tryz.func54,Tryz.ntmps54
   go_wp2_with (first
    | (go_at_call 71;first | (with_reducible refine QKq.mono ?_;rintro e w1 ⟨rfl,rfl⟩))
    | (go_at_call 75;refine (sp_many _ _).mono ?_;rintro e w1 ⟨rfl,rfl⟩;first | rw [HMt] | rw [HMf] | skip)
    | (go_at_call 72;refine (QB _).mono ?_;rintro e w2 ⟨rfl,k2⟩;have HK2:Hid (Kb 0 _ w2):=k2;clear k2))
   go_ret
   exact ⟨by first | rfl | (simp only [*];rfl) | simp [*],by first | exact kb_alloc _ _ _ | exact (kb_alloc _ _ _).trans (uh HK2)⟩
  ·rw [dc_f hb] at QB
   rw [dc_f (fun g=>(hb) (g.2))]
   first | (have QKq:=QKq0 (show 0 < q by omega);clear QKq0) | clear QKq0
   go_enter Tryz.func54,Tryz.ntmps54
   go_wp2_with (first
    | (go_at_call 71;first | (with_reducible refine QKq.mono ?_;rintro e w1 ⟨rfl,rfl⟩))
    | (go_at_call 75;refine (sp_many _ _).mono ?_;rintro e w1 ⟨rfl,rfl⟩;first | rw [HMt] | rw [HMf] | skip)
    | (go_at_call 72;refine (QB _).mono ?_;rintro e w2 ⟨rfl,k2⟩;have HK2:Hid (Kb 0 _ w2):=k2;clear k2))
   go_ret
   exact ⟨by first | rfl | (simp only [*];rfl) | simp [*],by first | exact kb_alloc _ _ _ | exact (kb_alloc _ _ _).trans (uh HK2)⟩
 ·have gq:((q:Int) == 0)=false:=bne (by omega)
  have gq0:(0:Int) < (q:Int):=by omega
  rw [dc_f (fun g=>(hq) (g.1))]
  first | (have QKq:=QKq0 (show 0 < q by omega);clear QKq0) | clear QKq0
  go_enter Tryz.func54,Tryz.ntmps54
  go_wp2_with (first
   | (go_at_call 71;first | (with_reducible refine QKq.mono ?_;rintro e w1 ⟨rfl,rfl⟩))
   | (go_at_call 75;refine (sp_many _ _).mono ?_;rintro e w1 ⟨rfl,rfl⟩;first | rw [HMt] | rw [HMf] | skip)
   | (go_at_call 72;refine (QB _).mono ?_;rintro e w2 ⟨rfl,k2⟩;have HK2:Hid (Kb 0 _ w2):=k2;clear k2))
  go_ret
  exact ⟨by first | rfl | (simp only [*];rfl) | simp [*],by first | exact kb_alloc _ _ _ | exact (kb_alloc _ _ _).trans (uh HK2)⟩
theorem st_11 {A : Addr} {n ca t : Nat} {a : Nv} {pr pk : Option Addr} {p cr q ck : Nat} {kdf : Nat → Int} {exf : Nat → Nat → Prop} (w : World) (hx : Nst w A n ca t a pr p cr pk q ck kdf exf) (hk : a.k = 11) :
  Calls Tryz.prog 54 #[.slice (some A) n ca,.int .i64 (t:Int)] w fun e w'=>e = .returned (.bool (dc (exf 0 q∧Br false false false false a p 0)))∧Kb 0 w w':=by
 obtain ⟨d0,d1,d2,d3,d4,d5,d6,d7⟩:=hx.cel
 have hnI:(n:Int)≤1048576:=by have:=hx.hn;omega
 have hpI:(p:Int)≤1048576:=by have:=hx.hp;omega
 have hqN:=hx.hq
 have hqI:(q:Int)≤1048576:=by omega
 have htI:(t:Int) < (n:Int):=by have:=hx.ht;omega
 have QKq0 : 0 < q→Calls Tryz.prog 71 #[.slice (some A) n ca,.int .i64 (t:Int),.int .i64 ((q:Int) - 1)] (w.alloc (.cells #[.int .i64 a.k,.int .i64 a.l,.int .i64 a.o,.int .i64 a.m,.float .f64 a.g,.string a.x,.slice pr p cr,.slice pk q ck] 59)) fun e w'=>e = .returned (.int .i64 (kdf (q - 1)))∧w'=(w.alloc (.cells #[.int .i64 a.k,.int .i64 a.l,.int .i64 a.o,.int .i64 a.m,.float .f64 a.g,.string a.x,.slice pr p cr,.slice pk q ck] 59)):=fun h=>by
  have:=hx.kid (q - 1) _ (kb_alloc 0 w (.cells #[.int .i64 a.k,.int .i64 a.l,.int .i64 a.o,.int .i64 a.m,.float .f64 a.g,.string a.x,.slice pr p cr,.slice pk q ck] 59)) (by omega)
  rw [show ((q - 1:Nat):Int)=(q:Int) - 1 by omega] at this
  exact this
 have Qhe:Calls Tryz.prog 73 #[.slice (some A) n ca,.int .i64 (t:Int),.int .i64 0,.int .i64 (q:Int)] (w.alloc (.cells #[.int .i64 a.k,.int .i64 a.l,.int .i64 a.o,.int .i64 a.m,.float .f64 a.g,.string a.x,.slice pr p cr,.slice pk q ck] 59)) fun e w'=>e = .returned (.bool (dc (exf 0 q)))∧w'=(w.alloc (.cells #[.int .i64 a.k,.int .i64 a.l,.int .i64 a.o,.int .i64 a.m,.float .f64 a.g,.string a.x,.slice pr p cr,.slice pk q ck] 59)):=hx.exp 0 q _ (kb_alloc _ _ _) (by omega) (by omega)
 have QB:=fun W=>sp_bare_z a hx.hg pr p cr pk q ck 0 (by omega) hx.hp W
 unfold ndv at QB
 rw [hk] at d0 QB  Qhe QKq0
 have HG:Hid (a.g < 18446744073709551616):=hx.hg
 clear hx
 have hst:=hst0
 have HQ:Hid (q≤1048576):=hqN
 clear hqN
 rcases Nat.eq_zero_or_pos q with hz | hz
 ·subst hz
  by_cases he:exf 0 0
  ·rw [dc_t he] at Qhe
   by_cases hb:Br false false false false a p 0
   ·rw [dc_t hb] at QB
    rw [dc_t ⟨he,hb⟩]
    first | (have QKq:=QKq0 (show 0 < q by omega);clear QKq0) | clear QKq0
    go_enter Tryz.func54,Tryz.ntmps54
    go_wp2_with (first
     | (go_at_call 71;first | (with_reducible refine QKq.mono ?_;rintro e w1 ⟨rfl,rfl⟩))
     | (go_at_call 73;first | (refine Qhe.mono ?_;rintro e w1 ⟨rfl,rfl⟩))
     | (go_at_call 75;refine (sp_many _ _).mono ?_;rintro e w1 ⟨rfl,rfl⟩;first | rw [HMt] | rw [HMf] | skip)
     | (go_at_call 72;refine (QB _).mono ?_;rintro e w2 ⟨rfl,k2⟩;have HK2:Hid (Kb 0 _ w2):=k2;clear k2))
    go_ret
    exact ⟨by first | rfl | (simp only [*];rfl) | simp [*],by first | exact kb_alloc _ _ _ | exact (kb_alloc _ _ _).trans (uh HK2)⟩
   ·rw [dc_f hb] at QB
    rw [dc_f (fun g=>(hb) (g.2))]
    first | (have QKq:=QKq0 (show 0 < q by omega);clear QKq0) | clear QKq0
    go_enter Tryz.func54,Tryz.ntmps54
    go_wp2_with (first
     | (go_at_call 71;first | (with_reducible refine QKq.mono ?_;rintro e w1 ⟨rfl,rfl⟩))
     | (go_at_call 73;first | (refine Qhe.mono ?_;rintro e w1 ⟨rfl,rfl⟩))
     | (go_at_call 75;refine (sp_many _ _).mono ?_;rintro e w1 ⟨rfl,rfl⟩;first | rw [HMt] | rw [HMf] | skip)
     | (go_at_call 72;refine (QB _).mono ?_;rintro e w2 ⟨rfl,k2⟩;have HK2:Hid (Kb 0 _ w2):=k2;clear k2))
    go_ret
    exact ⟨by first | rfl | (simp only [*];rfl) | simp [*],by first | exact kb_alloc _ _ _ | exact (kb_alloc _ _ _).trans (uh HK2)⟩
  ·rw [dc_f he] at Qhe
   rw [dc_f (fun g=>(he) (g.1))]
   first | (have QKq:=QKq0 (show 0 < q by omega);clear QKq0) | clear QKq0
   go_enter Tryz.func54,Tryz.ntmps54
   go_wp2_with (first
    | (go_at_call 71;first | (with_reducible refine QKq.mono ?_;rintro e w1 ⟨rfl,rfl⟩))
    | (go_at_call 73;first | (refine Qhe.mono ?_;rintro e w1 ⟨rfl,rfl⟩))
    | (go_at_call 75;refine (sp_many _ _).mono ?_;rintro e w1 ⟨rfl,rfl⟩;first | rw [HMt] | rw [HMf] | skip)
    | (go_at_call 72;refine (QB _).mono ?_;rintro e w2 ⟨rfl,k2⟩;have HK2:Hid (Kb 0 _ w2):=k2;clear k2))
   go_ret
   exact ⟨by first | rfl | (simp only [*];rfl) | simp [*],by first | exact kb_alloc _ _ _ | exact (kb_alloc _ _ _).trans (uh HK2)⟩
 ·have gq0:(0:Int) < (q:Int):=by omega
  by_cases he:exf 0 q
  ·rw [dc_t he] at Qhe
   by_cases hb:Br false false false false a p 0
   ·rw [dc_t hb] at QB
    rw [dc_t ⟨he,hb⟩]
    first | (have QKq:=QKq0 (show 0 < q by omega);clear QKq0) | clear QKq0
    go_enter Tryz.func54,Tryz.ntmps54
    go_wp2_with (first
     | (go_at_call 71;first | (with_reducible refine QKq.mono ?_;rintro e w1 ⟨rfl,rfl⟩))
     | (go_at_call 73;first | (refine Qhe.mono ?_;rintro e w1 ⟨rfl,rfl⟩))
     | (go_at_call 75;refine (sp_many _ _).mono ?_;rintro e w1 ⟨rfl,rfl⟩;first | rw [HMt] | rw [HMf] | skip)
     | (go_at_call 72;refine (QB _).mono ?_;rintro e w2 ⟨rfl,k2⟩;have HK2:Hid (Kb 0 _ w2):=k2;clear k2))
    go_ret
    exact ⟨by first | rfl | (simp only [*];rfl) | simp [*],by first | exact kb_alloc _ _ _ | exact (kb_alloc _ _ _).trans (uh HK2)⟩
   ·rw [dc_f hb] at QB
    rw [dc_f (fun g=>(hb) (g.2))]
    first | (have QKq:=QKq0 (show 0 < q by omega);clear QKq0) | clear QKq0
    go_enter Tryz.func54,Tryz.ntmps54
    go_wp2_with (first
     | (go_at_call 71;first | (with_reducible refine QKq.mono ?_;rintro e w1 ⟨rfl,rfl⟩))
     | (go_at_call 73;first | (refine Qhe.mono ?_;rintro e w1 ⟨rfl,rfl⟩))
     | (go_at_call 75;refine (sp_many _ _).mono ?_;rintro e w1 ⟨rfl,rfl⟩;first | rw [HMt] | rw [HMf] | skip)
     | (go_at_call 72;refine (QB _).mono ?_;rintro e w2 ⟨rfl,k2⟩;have HK2:Hid (Kb 0 _ w2):=k2;clear k2))
    go_ret
    exact ⟨by first | rfl | (simp only [*];rfl) | simp [*],by first | exact kb_alloc _ _ _ | exact (kb_alloc _ _ _).trans (uh HK2)⟩
  ·rw [dc_f he] at Qhe
   rw [dc_f (fun g=>(he) (g.1))]
   first | (have QKq:=QKq0 (show 0 < q by omega);clear QKq0) | clear QKq0
   go_enter Tryz.func54,Tryz.ntmps54
   go_wp2_with (first
    | (go_at_call 71;first | (with_reducible refine QKq.mono ?_;rintro e w1 ⟨rfl,rfl⟩))
    | (go_at_call 73;first | (refine Qhe.mono ?_;rintro e w1 ⟨rfl,rfl⟩))
    | (go_at_call 75;refine (sp_many _ _).mono ?_;rintro e w1 ⟨rfl,rfl⟩;first | rw [HMt] | rw [HMf] | skip)
    | (go_at_call 72;refine (QB _).mono ?_;rintro e w2 ⟨rfl,k2⟩;have HK2:Hid (Kb 0 _ w2):=k2;clear k2))
   go_ret
   exact ⟨by first | rfl | (simp only [*];rfl) | simp [*],by first | exact kb_alloc _ _ _ | exact (kb_alloc _ _ _).trans (uh HK2)⟩
theorem st_12 {A : Addr} {n ca t : Nat} {a : Nv} {pr pk : Option Addr} {p cr q ck : Nat} {kdf : Nat → Int} {exf : Nat → Nat → Prop} (w : World) (hx : Nst w A n ca t a pr p cr pk q ck kdf exf) (hk : a.k = 12) :
  Calls Tryz.prog 54 #[.slice (some A) n ca,.int .i64 (t:Int)] w fun e w'=>e = .returned (.bool (dc (q=2∧kdf 0=1∧kdf 1=1∧Br false false false false a p 2)))∧Kb 0 w w':=by
 obtain ⟨d0,d1,d2,d3,d4,d5,d6,d7⟩:=hx.cel
 have hnI:(n:Int)≤1048576:=by have:=hx.hn;omega
 have hpI:(p:Int)≤1048576:=by have:=hx.hp;omega
 have hqN:=hx.hq
 have hqI:(q:Int)≤1048576:=by omega
 have htI:(t:Int) < (n:Int):=by have:=hx.ht;omega
 have QK0:Calls Tryz.prog 71 #[.slice (some A) n ca,.int .i64 (t:Int),.int .i64 0] (w.alloc (.cells #[.int .i64 a.k,.int .i64 a.l,.int .i64 a.o,.int .i64 a.m,.float .f64 a.g,.string a.x,.slice pr p cr,.slice pk q ck] 59)) fun e w'=>e = .returned (.int .i64 (kdf 0))∧w'=(w.alloc (.cells #[.int .i64 a.k,.int .i64 a.l,.int .i64 a.o,.int .i64 a.m,.float .f64 a.g,.string a.x,.slice pr p cr,.slice pk q ck] 59)):=hx.kid 0 _ (kb_alloc _ _ _) (by omega)
 have QK1:Calls Tryz.prog 71 #[.slice (some A) n ca,.int .i64 (t:Int),.int .i64 1] (w.alloc (.cells #[.int .i64 a.k,.int .i64 a.l,.int .i64 a.o,.int .i64 a.m,.float .f64 a.g,.string a.x,.slice pr p cr,.slice pk q ck] 59)) fun e w'=>e = .returned (.int .i64 (kdf 1))∧w'=(w.alloc (.cells #[.int .i64 a.k,.int .i64 a.l,.int .i64 a.o,.int .i64 a.m,.float .f64 a.g,.string a.x,.slice pr p cr,.slice pk q ck] 59)):=hx.kid 1 _ (kb_alloc _ _ _) (by omega)
 have QKq0 : 0 < q→Calls Tryz.prog 71 #[.slice (some A) n ca,.int .i64 (t:Int),.int .i64 ((q:Int) - 1)] (w.alloc (.cells #[.int .i64 a.k,.int .i64 a.l,.int .i64 a.o,.int .i64 a.m,.float .f64 a.g,.string a.x,.slice pr p cr,.slice pk q ck] 59)) fun e w'=>e = .returned (.int .i64 (kdf (q - 1)))∧w'=(w.alloc (.cells #[.int .i64 a.k,.int .i64 a.l,.int .i64 a.o,.int .i64 a.m,.float .f64 a.g,.string a.x,.slice pr p cr,.slice pk q ck] 59)):=fun h=>by
  have:=hx.kid (q - 1) _ (kb_alloc 0 w (.cells #[.int .i64 a.k,.int .i64 a.l,.int .i64 a.o,.int .i64 a.m,.float .f64 a.g,.string a.x,.slice pr p cr,.slice pk q ck] 59)) (by omega)
  rw [show ((q - 1:Nat):Int)=(q:Int) - 1 by omega] at this
  exact this
 have QB:=fun W=>sp_bare_z a hx.hg pr p cr pk q ck 2 (by omega) hx.hp W
 unfold ndv at QB
 rw [hk] at d0 QB QK0 QK1  QKq0
 have HG:Hid (a.g < 18446744073709551616):=hx.hg
 clear hx
 have hst:=hst0
 have HQ:Hid (q≤1048576):=hqN
 clear hqN
 by_cases hq:q=2
 ·subst hq
  by_cases hk0:kdf 0=1
  ·have gk0:=beq1 hk0
   by_cases hk1:kdf 1=1
   ·have gk1:=beq1 hk1
    by_cases hb:Br false false false false a p 2
    ·rw [dc_t hb] at QB
     rw [dc_t ⟨rfl,hk0,hk1,hb⟩]
     first | (have QKq:=QKq0 (show 0 < q by omega);clear QKq0) | clear QKq0
     go_enter Tryz.func54,Tryz.ntmps54
     go_wp2_with (first
      | (go_at_call 71;first | (with_reducible refine QKq.mono ?_;rintro e w1 ⟨rfl,rfl⟩) | (with_reducible refine QK0.mono ?_;rintro e w1 ⟨rfl,rfl⟩) | (with_reducible refine QK1.mono ?_;rintro e w1 ⟨rfl,rfl⟩))
      | (go_at_call 75;refine (sp_many _ _).mono ?_;rintro e w1 ⟨rfl,rfl⟩;first | rw [HMt] | rw [HMf] | skip)
      | (go_at_call 72;refine (QB _).mono ?_;rintro e w2 ⟨rfl,k2⟩;have HK2:Hid (Kb 0 _ w2):=k2;clear k2))
     go_ret
     exact ⟨by first | rfl | (simp only [*];rfl) | simp [*],by first | exact kb_alloc _ _ _ | exact (kb_alloc _ _ _).trans (uh HK2)⟩
    ·rw [dc_f hb] at QB
     rw [dc_f (fun g=>(hb) (g.2.2.2))]
     first | (have QKq:=QKq0 (show 0 < q by omega);clear QKq0) | clear QKq0
     go_enter Tryz.func54,Tryz.ntmps54
     go_wp2_with (first
      | (go_at_call 71;first | (with_reducible refine QKq.mono ?_;rintro e w1 ⟨rfl,rfl⟩) | (with_reducible refine QK0.mono ?_;rintro e w1 ⟨rfl,rfl⟩) | (with_reducible refine QK1.mono ?_;rintro e w1 ⟨rfl,rfl⟩))
      | (go_at_call 75;refine (sp_many _ _).mono ?_;rintro e w1 ⟨rfl,rfl⟩;first | rw [HMt] | rw [HMf] | skip)
      | (go_at_call 72;refine (QB _).mono ?_;rintro e w2 ⟨rfl,k2⟩;have HK2:Hid (Kb 0 _ w2):=k2;clear k2))
     go_ret
     exact ⟨by first | rfl | (simp only [*];rfl) | simp [*],by first | exact kb_alloc _ _ _ | exact (kb_alloc _ _ _).trans (uh HK2)⟩
   ·have gk1:=bne hk1
    rw [dc_f (fun g=>(hk1) (g.2.2.1))]
    first | (have QKq:=QKq0 (show 0 < q by omega);clear QKq0) | clear QKq0
    go_enter Tryz.func54,Tryz.ntmps54
    go_wp2_with (first
     | (go_at_call 71;first | (with_reducible refine QKq.mono ?_;rintro e w1 ⟨rfl,rfl⟩) | (with_reducible refine QK0.mono ?_;rintro e w1 ⟨rfl,rfl⟩) | (with_reducible refine QK1.mono ?_;rintro e w1 ⟨rfl,rfl⟩))
     | (go_at_call 75;refine (sp_many _ _).mono ?_;rintro e w1 ⟨rfl,rfl⟩;first | rw [HMt] | rw [HMf] | skip)
     | (go_at_call 72;refine (QB _).mono ?_;rintro e w2 ⟨rfl,k2⟩;have HK2:Hid (Kb 0 _ w2):=k2;clear k2))
    go_ret
    exact ⟨by first | rfl | (simp only [*];rfl) | simp [*],by first | exact kb_alloc _ _ _ | exact (kb_alloc _ _ _).trans (uh HK2)⟩
  ·have gk0:=bne hk0
   rw [dc_f (fun g=>(hk0) (g.2.1))]
   first | (have QKq:=QKq0 (show 0 < q by omega);clear QKq0) | clear QKq0
   go_enter Tryz.func54,Tryz.ntmps54
   go_wp2_with (first
    | (go_at_call 71;first | (with_reducible refine QKq.mono ?_;rintro e w1 ⟨rfl,rfl⟩) | (with_reducible refine QK0.mono ?_;rintro e w1 ⟨rfl,rfl⟩) | (with_reducible refine QK1.mono ?_;rintro e w1 ⟨rfl,rfl⟩))
    | (go_at_call 75;refine (sp_many _ _).mono ?_;rintro e w1 ⟨rfl,rfl⟩;first | rw [HMt] | rw [HMf] | skip)
    | (go_at_call 72;refine (QB _).mono ?_;rintro e w2 ⟨rfl,k2⟩;have HK2:Hid (Kb 0 _ w2):=k2;clear k2))
   go_ret
   exact ⟨by first | rfl | (simp only [*];rfl) | simp [*],by first | exact kb_alloc _ _ _ | exact (kb_alloc _ _ _).trans (uh HK2)⟩
 ·skip
  by_cases hq0:q=0
  ·subst hq0
   rw [dc_f (fun g=>(hq) (g.1))]
   first | (have QKq:=QKq0 (show 0 < q by omega);clear QKq0) | clear QKq0
   go_enter Tryz.func54,Tryz.ntmps54
   go_wp2_with (first
    | (go_at_call 71;first | (with_reducible refine QKq.mono ?_;rintro e w1 ⟨rfl,rfl⟩) | (with_reducible refine QK0.mono ?_;rintro e w1 ⟨rfl,rfl⟩) | (with_reducible refine QK1.mono ?_;rintro e w1 ⟨rfl,rfl⟩))
    | (go_at_call 75;refine (sp_many _ _).mono ?_;rintro e w1 ⟨rfl,rfl⟩;first | rw [HMt] | rw [HMf] | skip)
    | (go_at_call 72;refine (QB _).mono ?_;rintro e w2 ⟨rfl,k2⟩;have HK2:Hid (Kb 0 _ w2):=k2;clear k2))
   go_ret
   exact ⟨by first | rfl | (simp only [*];rfl) | simp [*],by first | exact kb_alloc _ _ _ | exact (kb_alloc _ _ _).trans (uh HK2)⟩
  ·have gq0:(0:Int) < (q:Int):=by omega
   have gq:((q:Int) == 2)=false:=bne (by omega)
   rw [dc_f (fun g=>(hq) (g.1))]
   first | (have QKq:=QKq0 (show 0 < q by omega);clear QKq0) | clear QKq0
   go_enter Tryz.func54,Tryz.ntmps54
   go_wp2_with (first
    | (go_at_call 71;first | (with_reducible refine QKq.mono ?_;rintro e w1 ⟨rfl,rfl⟩) | (with_reducible refine QK0.mono ?_;rintro e w1 ⟨rfl,rfl⟩) | (with_reducible refine QK1.mono ?_;rintro e w1 ⟨rfl,rfl⟩))
    | (go_at_call 75;refine (sp_many _ _).mono ?_;rintro e w1 ⟨rfl,rfl⟩;first | rw [HMt] | rw [HMf] | skip)
    | (go_at_call 72;refine (QB _).mono ?_;rintro e w2 ⟨rfl,k2⟩;have HK2:Hid (Kb 0 _ w2):=k2;clear k2))
   go_ret
   exact ⟨by first | rfl | (simp only [*];rfl) | simp [*],by first | exact kb_alloc _ _ _ | exact (kb_alloc _ _ _).trans (uh HK2)⟩
theorem st_13 {A : Addr} {n ca t : Nat} {a : Nv} {pr pk : Option Addr} {p cr q ck : Nat} {kdf : Nat → Int} {exf : Nat → Nat → Prop} (w : World) (hx : Nst w A n ca t a pr p cr pk q ck kdf exf) (hk : a.k = 13) :
  Calls Tryz.prog 54 #[.slice (some A) n ca,.int .i64 (t:Int)] w fun e w'=>e = .returned (.bool (dc (q=1∧exf 0 1∧Br false false false false a p 0)))∧Kb 0 w w':=by
 obtain ⟨d0,d1,d2,d3,d4,d5,d6,d7⟩:=hx.cel
 have hnI:(n:Int)≤1048576:=by have:=hx.hn;omega
 have hpI:(p:Int)≤1048576:=by have:=hx.hp;omega
 have hqN:=hx.hq
 have hqI:(q:Int)≤1048576:=by omega
 have htI:(t:Int) < (n:Int):=by have:=hx.ht;omega
 have QK0:Calls Tryz.prog 71 #[.slice (some A) n ca,.int .i64 (t:Int),.int .i64 0] (w.alloc (.cells #[.int .i64 a.k,.int .i64 a.l,.int .i64 a.o,.int .i64 a.m,.float .f64 a.g,.string a.x,.slice pr p cr,.slice pk q ck] 59)) fun e w'=>e = .returned (.int .i64 (kdf 0))∧w'=(w.alloc (.cells #[.int .i64 a.k,.int .i64 a.l,.int .i64 a.o,.int .i64 a.m,.float .f64 a.g,.string a.x,.slice pr p cr,.slice pk q ck] 59)):=hx.kid 0 _ (kb_alloc _ _ _) (by omega)
 have QKq0 : 0 < q→Calls Tryz.prog 71 #[.slice (some A) n ca,.int .i64 (t:Int),.int .i64 ((q:Int) - 1)] (w.alloc (.cells #[.int .i64 a.k,.int .i64 a.l,.int .i64 a.o,.int .i64 a.m,.float .f64 a.g,.string a.x,.slice pr p cr,.slice pk q ck] 59)) fun e w'=>e = .returned (.int .i64 (kdf (q - 1)))∧w'=(w.alloc (.cells #[.int .i64 a.k,.int .i64 a.l,.int .i64 a.o,.int .i64 a.m,.float .f64 a.g,.string a.x,.slice pr p cr,.slice pk q ck] 59)):=fun h=>by
  have:=hx.kid (q - 1) _ (kb_alloc 0 w (.cells #[.int .i64 a.k,.int .i64 a.l,.int .i64 a.o,.int .i64 a.m,.float .f64 a.g,.string a.x,.slice pr p cr,.slice pk q ck] 59)) (by omega)
  rw [show ((q - 1:Nat):Int)=(q:Int) - 1 by omega] at this
  exact this
 have Qhe:Calls Tryz.prog 73 #[.slice (some A) n ca,.int .i64 (t:Int),.int .i64 0,.int .i64 1] (w.alloc (.cells #[.int .i64 a.k,.int .i64 a.l,.int .i64 a.o,.int .i64 a.m,.float .f64 a.g,.string a.x,.slice pr p cr,.slice pk q ck] 59)) fun e w'=>e = .returned (.bool (dc (exf 0 1)))∧w'=(w.alloc (.cells #[.int .i64 a.k,.int .i64 a.l,.int .i64 a.o,.int .i64 a.m,.float .f64 a.g,.string a.x,.slice pr p cr,.slice pk q ck] 59)):=hx.exp 0 1 _ (kb_alloc _ _ _) (by omega) (by omega)
 have QB:=fun W=>sp_bare_z a hx.hg pr p cr pk q ck 0 (by omega) hx.hp W
 unfold ndv at QB
 rw [hk] at d0 QB QK0 Qhe QKq0
 have HG:Hid (a.g < 18446744073709551616):=hx.hg
 clear hx
 have hst:=hst0
 have HQ:Hid (q≤1048576):=hqN
 clear hqN
 by_cases hq:q=1
 ·subst hq
  by_cases he:exf 0 1
  ·rw [dc_t he] at Qhe
   by_cases hb:Br false false false false a p 0
   ·rw [dc_t hb] at QB
    rw [dc_t ⟨rfl,he,hb⟩]
    first | (have QKq:=QKq0 (show 0 < q by omega);clear QKq0) | clear QKq0
    go_enter Tryz.func54,Tryz.ntmps54
    go_wp2_with (first
     | (go_at_call 71;first | (with_reducible refine QKq.mono ?_;rintro e w1 ⟨rfl,rfl⟩) | (with_reducible refine QK0.mono ?_;rintro e w1 ⟨rfl,rfl⟩))
     | (go_at_call 73;first | (refine Qhe.mono ?_;rintro e w1 ⟨rfl,rfl⟩))
     | (go_at_call 75;refine (sp_many _ _).mono ?_;rintro e w1 ⟨rfl,rfl⟩;first | rw [HMt] | rw [HMf] | skip)
     | (go_at_call 72;refine (QB _).mono ?_;rintro e w2 ⟨rfl,k2⟩;have HK2:Hid (Kb 0 _ w2):=k2;clear k2))
    go_ret
    exact ⟨by first | rfl | (simp only [*];rfl) | simp [*],by first | exact kb_alloc _ _ _ | exact (kb_alloc _ _ _).trans (uh HK2)⟩
   ·rw [dc_f hb] at QB
    rw [dc_f (fun g=>(hb) (g.2.2))]
    first | (have QKq:=QKq0 (show 0 < q by omega);clear QKq0) | clear QKq0
    go_enter Tryz.func54,Tryz.ntmps54
    go_wp2_with (first
     | (go_at_call 71;first | (with_reducible refine QKq.mono ?_;rintro e w1 ⟨rfl,rfl⟩) | (with_reducible refine QK0.mono ?_;rintro e w1 ⟨rfl,rfl⟩))
     | (go_at_call 73;first | (refine Qhe.mono ?_;rintro e w1 ⟨rfl,rfl⟩))
     | (go_at_call 75;refine (sp_many _ _).mono ?_;rintro e w1 ⟨rfl,rfl⟩;first | rw [HMt] | rw [HMf] | skip)
     | (go_at_call 72;refine (QB _).mono ?_;rintro e w2 ⟨rfl,k2⟩;have HK2:Hid (Kb 0 _ w2):=k2;clear k2))
    go_ret
    exact ⟨by first | rfl | (simp only [*];rfl) | simp [*],by first | exact kb_alloc _ _ _ | exact (kb_alloc _ _ _).trans (uh HK2)⟩
  ·rw [dc_f he] at Qhe
   rw [dc_f (fun g=>(he) (g.2.1))]
   first | (have QKq:=QKq0 (show 0 < q by omega);clear QKq0) | clear QKq0
   go_enter Tryz.func54,Tryz.ntmps54
   go_wp2_with (first
    | (go_at_call 71;first | (with_reducible refine QKq.mono ?_;rintro e w1 ⟨rfl,rfl⟩) | (with_reducible refine QK0.mono ?_;rintro e w1 ⟨rfl,rfl⟩))
    | (go_at_call 73;first | (refine Qhe.mono ?_;rintro e w1 ⟨rfl,rfl⟩))
    | (go_at_call 75;refine (sp_many _ _).mono ?_;rintro e w1 ⟨rfl,rfl⟩;first | rw [HMt] | rw [HMf] | skip)
    | (go_at_call 72;refine (QB _).mono ?_;rintro e w2 ⟨rfl,k2⟩;have HK2:Hid (Kb 0 _ w2):=k2;clear k2))
   go_ret
   exact ⟨by first | rfl | (simp only [*];rfl) | simp [*],by first | exact kb_alloc _ _ _ | exact (kb_alloc _ _ _).trans (uh HK2)⟩
 ·skip
  by_cases hq0:q=0
  ·subst hq0
   rw [dc_f (fun g=>(hq) (g.1))]
   first | (have QKq:=QKq0 (show 0 < q by omega);clear QKq0) | clear QKq0
   go_enter Tryz.func54,Tryz.ntmps54
   go_wp2_with (first
    | (go_at_call 71;first | (with_reducible refine QKq.mono ?_;rintro e w1 ⟨rfl,rfl⟩) | (with_reducible refine QK0.mono ?_;rintro e w1 ⟨rfl,rfl⟩))
    | (go_at_call 73;first | (refine Qhe.mono ?_;rintro e w1 ⟨rfl,rfl⟩))
    | (go_at_call 75;refine (sp_many _ _).mono ?_;rintro e w1 ⟨rfl,rfl⟩;first | rw [HMt] | rw [HMf] | skip)
    | (go_at_call 72;refine (QB _).mono ?_;rintro e w2 ⟨rfl,k2⟩;have HK2:Hid (Kb 0 _ w2):=k2;clear k2))
   go_ret
   exact ⟨by first | rfl | (simp only [*];rfl) | simp [*],by first | exact kb_alloc _ _ _ | exact (kb_alloc _ _ _).trans (uh HK2)⟩
  ·have gq0:(0:Int) < (q:Int):=by omega
   have gq:((q:Int) == 1)=false:=bne (by omega)
   rw [dc_f (fun g=>(hq) (g.1))]
   first | (have QKq:=QKq0 (show 0 < q by omega);clear QKq0) | clear QKq0
   go_enter Tryz.func54,Tryz.ntmps54
   go_wp2_with (first
    | (go_at_call 71;first | (with_reducible refine QKq.mono ?_;rintro e w1 ⟨rfl,rfl⟩) | (with_reducible refine QK0.mono ?_;rintro e w1 ⟨rfl,rfl⟩))
    | (go_at_call 73;first | (refine Qhe.mono ?_;rintro e w1 ⟨rfl,rfl⟩))
    | (go_at_call 75;refine (sp_many _ _).mono ?_;rintro e w1 ⟨rfl,rfl⟩;first | rw [HMt] | rw [HMf] | skip)
    | (go_at_call 72;refine (QB _).mono ?_;rintro e w2 ⟨rfl,k2⟩;have HK2:Hid (Kb 0 _ w2):=k2;clear k2))
   go_ret
   exact ⟨by first | rfl | (simp only [*];rfl) | simp [*],by first | exact kb_alloc _ _ _ | exact (kb_alloc _ _ _).trans (uh HK2)⟩
theorem st_2 {A : Addr} {n ca t : Nat} {a : Nv} {pr pk : Option Addr} {p cr q ck : Nat} {kdf : Nat → Int} {exf : Nat → Nat → Prop} (w : World) (hx : Nst w A n ca t a pr p cr pk q ck kdf exf) (hk : a.k = 2) :
  Calls Tryz.prog 54 #[.slice (some A) n ca,.int .i64 (t:Int)] w fun e w'=>e = .returned (.bool (dc (0 < p∧Br false false false false a p (p:Int)∧exf 0 q)))∧Kb 0 w w':=by
 obtain ⟨d0,d1,d2,d3,d4,d5,d6,d7⟩:=hx.cel
 have hnI:(n:Int)≤1048576:=by have:=hx.hn;omega
 have hpI:(p:Int)≤1048576:=by have:=hx.hp;omega
 have hqN:=hx.hq
 have hqI:(q:Int)≤1048576:=by omega
 have htI:(t:Int) < (n:Int):=by have:=hx.ht;omega
 have QKq0 : 0 < q→Calls Tryz.prog 71 #[.slice (some A) n ca,.int .i64 (t:Int),.int .i64 ((q:Int) - 1)] (w.alloc (.cells #[.int .i64 a.k,.int .i64 a.l,.int .i64 a.o,.int .i64 a.m,.float .f64 a.g,.string a.x,.slice pr p cr,.slice pk q ck] 59)) fun e w'=>e = .returned (.int .i64 (kdf (q - 1)))∧w'=(w.alloc (.cells #[.int .i64 a.k,.int .i64 a.l,.int .i64 a.o,.int .i64 a.m,.float .f64 a.g,.string a.x,.slice pr p cr,.slice pk q ck] 59)):=fun h=>by
  have:=hx.kid (q - 1) _ (kb_alloc 0 w (.cells #[.int .i64 a.k,.int .i64 a.l,.int .i64 a.o,.int .i64 a.m,.float .f64 a.g,.string a.x,.slice pr p cr,.slice pk q ck] 59)) (by omega)
  rw [show ((q - 1:Nat):Int)=(q:Int) - 1 by omega] at this
  exact this
 have HXhe:Hid (∀ W,Kb 0 w W→Calls Tryz.prog 73 #[.slice (some A) n ca,.int .i64 (t:Int),.int .i64 0,.int .i64 (q:Int)] W fun e w'=>e = .returned (.bool (dc (exf 0 q)))∧w'=W):=(fun W k=>hx.exp 0 q W k (by omega) (by omega):∀ W,_)
 have QB:=fun W=>sp_bare_z a hx.hg pr p cr pk q ck (p:Int) (by omega) hx.hp W
 unfold ndv at QB
 rw [hk] at d0 QB   QKq0
 have HG:Hid (a.g < 18446744073709551616):=hx.hg
 clear hx
 have hst:=hst0
 have HQ:Hid (q≤1048576):=hqN
 clear hqN
 rcases Nat.eq_zero_or_pos q with hz | hz
 ·subst hz
  by_cases hp1 : 0 < p
  ·have gp1:(0:Int) < (p:Int):=by omega
   by_cases hb:Br false false false false a p (p:Int)
   ·rw [dc_t hb] at QB
    by_cases he:exf 0 0
    ·have DChe:=dc_t he
     rw [dc_t ⟨hp1,hb,he⟩]
     first | (have QKq:=QKq0 (show 0 < q by omega);clear QKq0) | clear QKq0
     go_enter Tryz.func54,Tryz.ntmps54
     go_wp2_with (first
      | (go_at_call 71;first | (with_reducible refine QKq.mono ?_;rintro e w1 ⟨rfl,rfl⟩))
      | (go_at_call 73;refine ((uh HXhe) _ ((kb_alloc _ _ _).trans (uh HK2))).mono ?_;rintro e w3 ⟨rfl,rfl⟩;rw [DChe])
      | (go_at_call 75;refine (sp_many _ _).mono ?_;rintro e w1 ⟨rfl,rfl⟩;first | rw [HMt] | rw [HMf] | skip)
      | (go_at_call 72;refine (QB _).mono ?_;rintro e w2 ⟨rfl,k2⟩;have HK2:Hid (Kb 0 _ w2):=k2;clear k2))
     go_ret
     exact ⟨by first | rfl | (simp only [*];rfl) | simp [*],by first | exact kb_alloc _ _ _ | exact (kb_alloc _ _ _).trans (uh HK2)⟩
    ·have DChe:=dc_f he
     rw [dc_f (fun g=>(he) (g.2.2))]
     first | (have QKq:=QKq0 (show 0 < q by omega);clear QKq0) | clear QKq0
     go_enter Tryz.func54,Tryz.ntmps54
     go_wp2_with (first
      | (go_at_call 71;first | (with_reducible refine QKq.mono ?_;rintro e w1 ⟨rfl,rfl⟩))
      | (go_at_call 73;refine ((uh HXhe) _ ((kb_alloc _ _ _).trans (uh HK2))).mono ?_;rintro e w3 ⟨rfl,rfl⟩;rw [DChe])
      | (go_at_call 75;refine (sp_many _ _).mono ?_;rintro e w1 ⟨rfl,rfl⟩;first | rw [HMt] | rw [HMf] | skip)
      | (go_at_call 72;refine (QB _).mono ?_;rintro e w2 ⟨rfl,k2⟩;have HK2:Hid (Kb 0 _ w2):=k2;clear k2))
     go_ret
     exact ⟨by first | rfl | (simp only [*];rfl) | simp [*],by first | exact kb_alloc _ _ _ | exact (kb_alloc _ _ _).trans (uh HK2)⟩
   ·rw [dc_f hb] at QB
    rw [dc_f (fun g=>(hb) (g.2.1))]
    first | (have QKq:=QKq0 (show 0 < q by omega);clear QKq0) | clear QKq0
    go_enter Tryz.func54,Tryz.ntmps54
    go_wp2_with (first
     | (go_at_call 71;first | (with_reducible refine QKq.mono ?_;rintro e w1 ⟨rfl,rfl⟩))
     | (go_at_call 73;refine ((uh HXhe) _ ((kb_alloc _ _ _).trans (uh HK2))).mono ?_;rintro e w3 ⟨rfl,rfl⟩;rw [DChe])
     | (go_at_call 75;refine (sp_many _ _).mono ?_;rintro e w1 ⟨rfl,rfl⟩;first | rw [HMt] | rw [HMf] | skip)
     | (go_at_call 72;refine (QB _).mono ?_;rintro e w2 ⟨rfl,k2⟩;have HK2:Hid (Kb 0 _ w2):=k2;clear k2))
    go_ret
    exact ⟨by first | rfl | (simp only [*];rfl) | simp [*],by first | exact kb_alloc _ _ _ | exact (kb_alloc _ _ _).trans (uh HK2)⟩
  ·have gp1:¬ (0:Int) < (p:Int):=by omega
   rw [dc_f (fun g=>(hp1) (g.1))]
   first | (have QKq:=QKq0 (show 0 < q by omega);clear QKq0) | clear QKq0
   go_enter Tryz.func54,Tryz.ntmps54
   go_wp2_with (first
    | (go_at_call 71;first | (with_reducible refine QKq.mono ?_;rintro e w1 ⟨rfl,rfl⟩))
    | (go_at_call 73;refine ((uh HXhe) _ ((kb_alloc _ _ _).trans (uh HK2))).mono ?_;rintro e w3 ⟨rfl,rfl⟩;rw [DChe])
    | (go_at_call 75;refine (sp_many _ _).mono ?_;rintro e w1 ⟨rfl,rfl⟩;first | rw [HMt] | rw [HMf] | skip)
    | (go_at_call 72;refine (QB _).mono ?_;rintro e w2 ⟨rfl,k2⟩;have HK2:Hid (Kb 0 _ w2):=k2;clear k2))
   go_ret
   exact ⟨by first | rfl | (simp only [*];rfl) | simp [*],by first | exact kb_alloc _ _ _ | exact (kb_alloc _ _ _).trans (uh HK2)⟩
 ·have gq0:(0:Int) < (q:Int):=by omega
  by_cases hp1 : 0 < p
  ·have gp1:(0:Int) < (p:Int):=by omega
   by_cases hb:Br false false false false a p (p:Int)
   ·rw [dc_t hb] at QB
    by_cases he:exf 0 q
    ·have DChe:=dc_t he
     rw [dc_t ⟨hp1,hb,he⟩]
     first | (have QKq:=QKq0 (show 0 < q by omega);clear QKq0) | clear QKq0
     go_enter Tryz.func54,Tryz.ntmps54
     go_wp2_with (first
      | (go_at_call 71;first | (with_reducible refine QKq.mono ?_;rintro e w1 ⟨rfl,rfl⟩))
      | (go_at_call 73;refine ((uh HXhe) _ ((kb_alloc _ _ _).trans (uh HK2))).mono ?_;rintro e w3 ⟨rfl,rfl⟩;rw [DChe])
      | (go_at_call 75;refine (sp_many _ _).mono ?_;rintro e w1 ⟨rfl,rfl⟩;first | rw [HMt] | rw [HMf] | skip)
      | (go_at_call 72;refine (QB _).mono ?_;rintro e w2 ⟨rfl,k2⟩;have HK2:Hid (Kb 0 _ w2):=k2;clear k2))
     go_ret
     exact ⟨by first | rfl | (simp only [*];rfl) | simp [*],by first | exact kb_alloc _ _ _ | exact (kb_alloc _ _ _).trans (uh HK2)⟩
    ·have DChe:=dc_f he
     rw [dc_f (fun g=>(he) (g.2.2))]
     first | (have QKq:=QKq0 (show 0 < q by omega);clear QKq0) | clear QKq0
     go_enter Tryz.func54,Tryz.ntmps54
     go_wp2_with (first
      | (go_at_call 71;first | (with_reducible refine QKq.mono ?_;rintro e w1 ⟨rfl,rfl⟩))
      | (go_at_call 73;refine ((uh HXhe) _ ((kb_alloc _ _ _).trans (uh HK2))).mono ?_;rintro e w3 ⟨rfl,rfl⟩;rw [DChe])
      | (go_at_call 75;refine (sp_many _ _).mono ?_;rintro e w1 ⟨rfl,rfl⟩;first | rw [HMt] | rw [HMf] | skip)
      | (go_at_call 72;refine (QB _).mono ?_;rintro e w2 ⟨rfl,k2⟩;have HK2:Hid (Kb 0 _ w2):=k2;clear k2))
     go_ret
     exact ⟨by first | rfl | (simp only [*];rfl) | simp [*],by first | exact kb_alloc _ _ _ | exact (kb_alloc _ _ _).trans (uh HK2)⟩
   ·rw [dc_f hb] at QB
    rw [dc_f (fun g=>(hb) (g.2.1))]
    first | (have QKq:=QKq0 (show 0 < q by omega);clear QKq0) | clear QKq0
    go_enter Tryz.func54,Tryz.ntmps54
    go_wp2_with (first
     | (go_at_call 71;first | (with_reducible refine QKq.mono ?_;rintro e w1 ⟨rfl,rfl⟩))
     | (go_at_call 73;refine ((uh HXhe) _ ((kb_alloc _ _ _).trans (uh HK2))).mono ?_;rintro e w3 ⟨rfl,rfl⟩;rw [DChe])
     | (go_at_call 75;refine (sp_many _ _).mono ?_;rintro e w1 ⟨rfl,rfl⟩;first | rw [HMt] | rw [HMf] | skip)
     | (go_at_call 72;refine (QB _).mono ?_;rintro e w2 ⟨rfl,k2⟩;have HK2:Hid (Kb 0 _ w2):=k2;clear k2))
    go_ret
    exact ⟨by first | rfl | (simp only [*];rfl) | simp [*],by first | exact kb_alloc _ _ _ | exact (kb_alloc _ _ _).trans (uh HK2)⟩
  ·have gp1:¬ (0:Int) < (p:Int):=by omega
   rw [dc_f (fun g=>(hp1) (g.1))]
   first | (have QKq:=QKq0 (show 0 < q by omega);clear QKq0) | clear QKq0
   go_enter Tryz.func54,Tryz.ntmps54
   go_wp2_with (first
    | (go_at_call 71;first | (with_reducible refine QKq.mono ?_;rintro e w1 ⟨rfl,rfl⟩))
    | (go_at_call 73;refine ((uh HXhe) _ ((kb_alloc _ _ _).trans (uh HK2))).mono ?_;rintro e w3 ⟨rfl,rfl⟩;rw [DChe])
    | (go_at_call 75;refine (sp_many _ _).mono ?_;rintro e w1 ⟨rfl,rfl⟩;first | rw [HMt] | rw [HMf] | skip)
    | (go_at_call 72;refine (QB _).mono ?_;rintro e w2 ⟨rfl,k2⟩;have HK2:Hid (Kb 0 _ w2):=k2;clear k2))
   go_ret
   exact ⟨by first | rfl | (simp only [*];rfl) | simp [*],by first | exact kb_alloc _ _ _ | exact (kb_alloc _ _ _).trans (uh HK2)⟩
end Go.Proofs.YtfpidccjcemcjaaGreat.Fo
