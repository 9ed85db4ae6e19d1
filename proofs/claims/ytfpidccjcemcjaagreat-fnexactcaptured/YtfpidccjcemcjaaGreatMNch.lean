import Derived.Test.YtfpidccjcemcjaaGreatMZsq
import Derived.Test.YtfpidccjcemcjaaGreatMNdn
set_option maxHeartbeats 16000000
namespace Go.Proofs.YtfpidccjcemcjaaGreat.Fo
open Go.ChangeShapes Go.WideShapes Go.ChangeAt Go.RowKit
set_option linter.unusedVariables false
set_option maxRecDepth 100000
theorem ex_26 {A : Addr} {n ca t : Nat} {a : Nv} {pr pk : Option Addr} {p cr q ck : Nat} {kdf : Nat → Int} {exf : Nat → Nat → Prop} (w : World) (hx : Nst w A n ca t a pr p cr pk q ck kdf exf) (hk : a.k = 26) :
  Calls Tryz.prog 55 #[.slice (some A) n ca,.int .i64 (t:Int)] w fun e w'=>e = .returned (.bool (dc (q=0∧Br false false false false a p 1)))∧Kb 0 w w':=by
 obtain ⟨d0,d1,d2,d3,d4,d5,d6,d7⟩:=hx.cel
 have hnI:(n:Int)≤1048576:=by have:=hx.hn;omega
 have hpI:(p:Int)≤1048576:=by have:=hx.hp;omega
 have hqN:=hx.hq
 have hqI:(q:Int)≤1048576:=by omega
 have htI:(t:Int) < (n:Int):=by have:=hx.ht;omega
 have Qhall:Calls Tryz.prog 73 #[.slice (some A) n ca,.int .i64 (t:Int),.int .i64 0,.int .i64 (q:Int)] (w.alloc (.cells #[.int .i64 a.k,.int .i64 a.l,.int .i64 a.o,.int .i64 a.m,.float .f64 a.g,.string a.x,.slice pr p cr,.slice pk q ck] 59)) fun e w'=>e = .returned (.bool (dc (exf 0 q)))∧w'=(w.alloc (.cells #[.int .i64 a.k,.int .i64 a.l,.int .i64 a.o,.int .i64 a.m,.float .f64 a.g,.string a.x,.slice pr p cr,.slice pk q ck] 59)):=hx.exp 0 q _ (kb_alloc _ _ _) (by omega) (by omega)
 have QB:=fun W=>sp_bare_z a hx.hg pr p cr pk q ck 1 (by omega) hx.hp W
 unfold ndv at QB
 rw [hk] at d0 QB  Qhall
 have HG:Hid (a.g < 18446744073709551616):=hx.hg
 clear hx
 have hst:=hst0
 have HQ:Hid (q≤1048576):=hqN
 clear hqN
 by_cases hq:q=0
 ·subst hq
  by_cases hb:Br false false false false a p 1
  ·rw [dc_t hb] at QB
   rw [dc_t ⟨rfl,hb⟩]
   go_enter Tryz.func55,Tryz.ntmps55
   go_wp2_with (first
    | (go_at_call 73;first | (refine Qhall.mono ?_;rintro e w1 ⟨rfl,rfl⟩))
    | (go_at_call 75;refine (sp_many _ _).mono ?_;rintro e w1 ⟨rfl,rfl⟩;first | rw [HMt] | rw [HMf] | skip)
    | (go_at_call 72;refine (QB _).mono ?_;rintro e w2 ⟨rfl,k2⟩;have HK2:Hid (Kb 0 _ w2):=k2;clear k2))
   go_ret
   exact ⟨by first | rfl | (simp only [*];rfl) | simp [*],by first | exact kb_alloc _ _ _ | exact (kb_alloc _ _ _).trans (uh HK2)⟩
  ·rw [dc_f hb] at QB
   rw [dc_f (fun g=>(hb) (g.2))]
   go_enter Tryz.func55,Tryz.ntmps55
   go_wp2_with (first
    | (go_at_call 73;first | (refine Qhall.mono ?_;rintro e w1 ⟨rfl,rfl⟩))
    | (go_at_call 75;refine (sp_many _ _).mono ?_;rintro e w1 ⟨rfl,rfl⟩;first | rw [HMt] | rw [HMf] | skip)
    | (go_at_call 72;refine (QB _).mono ?_;rintro e w2 ⟨rfl,k2⟩;have HK2:Hid (Kb 0 _ w2):=k2;clear k2))
   go_ret
   exact ⟨by first | rfl | (simp only [*];rfl) | simp [*],by first | exact kb_alloc _ _ _ | exact (kb_alloc _ _ _).trans (uh HK2)⟩
 ·have gq:((q:Int) == 0)=false:=bne (by omega)
  rw [dc_f (fun g=>(hq) (g.1))]
  go_enter Tryz.func55,Tryz.ntmps55
  go_wp2_with (first
   | (go_at_call 73;first | (refine Qhall.mono ?_;rintro e w1 ⟨rfl,rfl⟩))
   | (go_at_call 75;refine (sp_many _ _).mono ?_;rintro e w1 ⟨rfl,rfl⟩;first | rw [HMt] | rw [HMf] | skip)
   | (go_at_call 72;refine (QB _).mono ?_;rintro e w2 ⟨rfl,k2⟩;have HK2:Hid (Kb 0 _ w2):=k2;clear k2))
  go_ret
  exact ⟨by first | rfl | (simp only [*];rfl) | simp [*],by first | exact kb_alloc _ _ _ | exact (kb_alloc _ _ _).trans (uh HK2)⟩
theorem ex_27 {A : Addr} {n ca t : Nat} {a : Nv} {pr pk : Option Addr} {p cr q ck : Nat} {kdf : Nat → Int} {exf : Nat → Nat → Prop} (w : World) (hx : Nst w A n ca t a pr p cr pk q ck kdf exf) (hk : a.k = 27) :
  Calls Tryz.prog 55 #[.slice (some A) n ca,.int .i64 (t:Int)] w fun e w'=>e = .returned (.bool (dc (q=0∧Br false false false false a p 1)))∧Kb 0 w w':=by
 obtain ⟨d0,d1,d2,d3,d4,d5,d6,d7⟩:=hx.cel
 have hnI:(n:Int)≤1048576:=by have:=hx.hn;omega
 have hpI:(p:Int)≤1048576:=by have:=hx.hp;omega
 have hqN:=hx.hq
 have hqI:(q:Int)≤1048576:=by omega
 have htI:(t:Int) < (n:Int):=by have:=hx.ht;omega
 have Qhall:Calls Tryz.prog 73 #[.slice (some A) n ca,.int .i64 (t:Int),.int .i64 0,.int .i64 (q:Int)] (w.alloc (.cells #[.int .i64 a.k,.int .i64 a.l,.int .i64 a.o,.int .i64 a.m,.float .f64 a.g,.string a.x,.slice pr p cr,.slice pk q ck] 59)) fun e w'=>e = .returned (.bool (dc (exf 0 q)))∧w'=(w.alloc (.cells #[.int .i64 a.k,.int .i64 a.l,.int .i64 a.o,.int .i64 a.m,.float .f64 a.g,.string a.x,.slice pr p cr,.slice pk q ck] 59)):=hx.exp 0 q _ (kb_alloc _ _ _) (by omega) (by omega)
 have QB:=fun W=>sp_bare_z a hx.hg pr p cr pk q ck 1 (by omega) hx.hp W
 unfold ndv at QB
 rw [hk] at d0 QB  Qhall
 have HG:Hid (a.g < 18446744073709551616):=hx.hg
 clear hx
 have hst:=hst0
 have HQ:Hid (q≤1048576):=hqN
 clear hqN
 by_cases hq:q=0
 ·subst hq
  by_cases hb:Br false false false false a p 1
  ·rw [dc_t hb] at QB
   rw [dc_t ⟨rfl,hb⟩]
   go_enter Tryz.func55,Tryz.ntmps55
   go_wp2_with (first
    | (go_at_call 73;first | (refine Qhall.mono ?_;rintro e w1 ⟨rfl,rfl⟩))
    | (go_at_call 75;refine (sp_many _ _).mono ?_;rintro e w1 ⟨rfl,rfl⟩;first | rw [HMt] | rw [HMf] | skip)
    | (go_at_call 72;refine (QB _).mono ?_;rintro e w2 ⟨rfl,k2⟩;have HK2:Hid (Kb 0 _ w2):=k2;clear k2))
   go_ret
   exact ⟨by first | rfl | (simp only [*];rfl) | simp [*],by first | exact kb_alloc _ _ _ | exact (kb_alloc _ _ _).trans (uh HK2)⟩
  ·rw [dc_f hb] at QB
   rw [dc_f (fun g=>(hb) (g.2))]
   go_enter Tryz.func55,Tryz.ntmps55
   go_wp2_with (first
    | (go_at_call 73;first | (refine Qhall.mono ?_;rintro e w1 ⟨rfl,rfl⟩))
    | (go_at_call 75;refine (sp_many _ _).mono ?_;rintro e w1 ⟨rfl,rfl⟩;first | rw [HMt] | rw [HMf] | skip)
    | (go_at_call 72;refine (QB _).mono ?_;rintro e w2 ⟨rfl,k2⟩;have HK2:Hid (Kb 0 _ w2):=k2;clear k2))
   go_ret
   exact ⟨by first | rfl | (simp only [*];rfl) | simp [*],by first | exact kb_alloc _ _ _ | exact (kb_alloc _ _ _).trans (uh HK2)⟩
 ·have gq:((q:Int) == 0)=false:=bne (by omega)
  rw [dc_f (fun g=>(hq) (g.1))]
  go_enter Tryz.func55,Tryz.ntmps55
  go_wp2_with (first
   | (go_at_call 73;first | (refine Qhall.mono ?_;rintro e w1 ⟨rfl,rfl⟩))
   | (go_at_call 75;refine (sp_many _ _).mono ?_;rintro e w1 ⟨rfl,rfl⟩;first | rw [HMt] | rw [HMf] | skip)
   | (go_at_call 72;refine (QB _).mono ?_;rintro e w2 ⟨rfl,k2⟩;have HK2:Hid (Kb 0 _ w2):=k2;clear k2))
  go_ret
  exact ⟨by first | rfl | (simp only [*];rfl) | simp [*],by first | exact kb_alloc _ _ _ | exact (kb_alloc _ _ _).trans (uh HK2)⟩
theorem ex_36 {A : Addr} {n ca t : Nat} {a : Nv} {pr pk : Option Addr} {p cr q ck : Nat} {kdf : Nat → Int} {exf : Nat → Nat → Prop} (w : World) (hx : Nst w A n ca t a pr p cr pk q ck kdf exf) (hk : a.k = 36) :
  Calls Tryz.prog 55 #[.slice (some A) n ca,.int .i64 (t:Int)] w fun e w'=>e = .returned (.bool (dc (q=0∧Br false false false false a p 1)))∧Kb 0 w w':=by
 obtain ⟨d0,d1,d2,d3,d4,d5,d6,d7⟩:=hx.cel
 have hnI:(n:Int)≤1048576:=by have:=hx.hn;omega
 have hpI:(p:Int)≤1048576:=by have:=hx.hp;omega
 have hqN:=hx.hq
 have hqI:(q:Int)≤1048576:=by omega
 have htI:(t:Int) < (n:Int):=by have:=hx.ht;omega
 have Qhall:Calls Tryz.prog 73 #[.slice (some A) n ca,.int .i64 (t:Int),.int .i64 0,.int .i64 (q:Int)] (w.alloc (.cells #[.int .i64 a.k,.int .i64 a.l,.int .i64 a.o,.int .i64 a.m,.float .f64 a.g,.string a.x,.slice pr p cr,.slice pk q ck] 59)) fun e w'=>e = .returned (.bool (dc (exf 0 q)))∧w'=(w.alloc (.cells #[.int .i64 a.k,.int .i64 a.l,.int .i64 a.o,.int .i64 a.m,.float .f64 a.g,.string a.x,.slice pr p cr,.slice pk q ck] 59)):=hx.exp 0 q _ (kb_alloc _ _ _) (by omega) (by omega)
 have QB:=fun W=>sp_bare_z a hx.hg pr p cr pk q ck 1 (by omega) hx.hp W
 unfold ndv at QB
 rw [hk] at d0 QB  Qhall
 have HG:Hid (a.g < 18446744073709551616):=hx.hg
 clear hx
 have hst:=hst0
 have HQ:Hid (q≤1048576):=hqN
 clear hqN
 by_cases hq:q=0
 ·subst hq
  by_cases hb:Br false false false false a p 1
  ·rw [dc_t hb] at QB
   rw [dc_t ⟨rfl,hb⟩]
   go_enter Tryz.func55,Tryz.ntmps55
   go_wp2_with (first
    | (go_at_call 73;first | (refine Qhall.mono ?_;rintro e w1 ⟨rfl,rfl⟩))
    | (go_at_call 75;refine (sp_many _ _).mono ?_;rintro e w1 ⟨rfl,rfl⟩;first | rw [HMt] | rw [HMf] | skip)
    | (go_at_call 72;refine (QB _).mono ?_;rintro e w2 ⟨rfl,k2⟩;have HK2:Hid (Kb 0 _ w2):=k2;clear k2))
   go_ret
   exact ⟨by first | rfl | (simp only [*];rfl) | simp [*],by first | exact kb_alloc _ _ _ | exact (kb_alloc _ _ _).trans (uh HK2)⟩
  ·rw [dc_f hb] at QB
   rw [dc_f (fun g=>(hb) (g.2))]
   go_enter Tryz.func55,Tryz.ntmps55
   go_wp2_with (first
    | (go_at_call 73;first | (refine Qhall.mono ?_;rintro e w1 ⟨rfl,rfl⟩))
    | (go_at_call 75;refine (sp_many _ _).mono ?_;rintro e w1 ⟨rfl,rfl⟩;first | rw [HMt] | rw [HMf] | skip)
    | (go_at_call 72;refine (QB _).mono ?_;rintro e w2 ⟨rfl,k2⟩;have HK2:Hid (Kb 0 _ w2):=k2;clear k2))
   go_ret
   exact ⟨by first | rfl | (simp only [*];rfl) | simp [*],by first | exact kb_alloc _ _ _ | exact (kb_alloc _ _ _).trans (uh HK2)⟩
 ·have gq:((q:Int) == 0)=false:=bne (by omega)
  rw [dc_f (fun g=>(hq) (g.1))]
  go_enter Tryz.func55,Tryz.ntmps55
  go_wp2_with (first
   | (go_at_call 73;first | (refine Qhall.mono ?_;rintro e w1 ⟨rfl,rfl⟩))
   | (go_at_call 75;refine (sp_many _ _).mono ?_;rintro e w1 ⟨rfl,rfl⟩;first | rw [HMt] | rw [HMf] | skip)
   | (go_at_call 72;refine (QB _).mono ?_;rintro e w2 ⟨rfl,k2⟩;have HK2:Hid (Kb 0 _ w2):=k2;clear k2))
  go_ret
  exact ⟨by first | rfl | (simp only [*];rfl) | simp [*],by first | exact kb_alloc _ _ _ | exact (kb_alloc _ _ _).trans (uh HK2)⟩
theorem ex_28 {A : Addr} {n ca t : Nat} {a : Nv} {pr pk : Option Addr} {p cr q ck : Nat} {kdf : Nat → Int} {exf : Nat → Nat → Prop} (w : World) (hx : Nst w A n ca t a pr p cr pk q ck kdf exf) (hk : a.k = 28) :
  Calls Tryz.prog 55 #[.slice (some A) n ca,.int .i64 (t:Int)] w fun e w'=>e = .returned (.bool (dc (q=0∧0≤a.m∧a.m < 15∧Br false true false false a p 0)))∧Kb 0 w w':=by
 obtain ⟨d0,d1,d2,d3,d4,d5,d6,d7⟩:=hx.cel
 have hnI:(n:Int)≤1048576:=by have:=hx.hn;omega
 have hpI:(p:Int)≤1048576:=by have:=hx.hp;omega
 have hqN:=hx.hq
 have hqI:(q:Int)≤1048576:=by omega
 have htI:(t:Int) < (n:Int):=by have:=hx.ht;omega
 have Qhall:Calls Tryz.prog 73 #[.slice (some A) n ca,.int .i64 (t:Int),.int .i64 0,.int .i64 (q:Int)] (w.alloc (.cells #[.int .i64 a.k,.int .i64 a.l,.int .i64 a.o,.int .i64 a.m,.float .f64 a.g,.string a.x,.slice pr p cr,.slice pk q ck] 59)) fun e w'=>e = .returned (.bool (dc (exf 0 q)))∧w'=(w.alloc (.cells #[.int .i64 a.k,.int .i64 a.l,.int .i64 a.o,.int .i64 a.m,.float .f64 a.g,.string a.x,.slice pr p cr,.slice pk q ck] 59)):=hx.exp 0 q _ (kb_alloc _ _ _) (by omega) (by omega)
 have QB:=fun W=>sp_bare_m a hx.hg pr p cr pk q ck 0 (by omega) hx.hp W
 unfold ndv at QB
 rw [hk] at d0 QB  Qhall
 have HG:Hid (a.g < 18446744073709551616):=hx.hg
 clear hx
 have hst:=hst0
 have HQ:Hid (q≤1048576):=hqN
 clear hqN
 by_cases hq:q=0
 ·subst hq
  by_cases hm1 : 0≤a.m
  ·skip
   by_cases hm2:a.m < 15
   ·skip
    by_cases hb:Br false true false false a p 0
    ·rw [dc_t hb] at QB
     rw [dc_t ⟨rfl,hm1,hm2,hb⟩]
     go_enter Tryz.func55,Tryz.ntmps55
     go_wp2_with (first
      | (go_at_call 73;first | (refine Qhall.mono ?_;rintro e w1 ⟨rfl,rfl⟩))
      | (go_at_call 75;refine (sp_many _ _).mono ?_;rintro e w1 ⟨rfl,rfl⟩;first | rw [HMt] | rw [HMf] | skip)
      | (go_at_call 72;refine (QB _).mono ?_;rintro e w2 ⟨rfl,k2⟩;have HK2:Hid (Kb 0 _ w2):=k2;clear k2))
     go_ret
     exact ⟨by first | rfl | (simp only [*];rfl) | simp [*],by first | exact kb_alloc _ _ _ | exact (kb_alloc _ _ _).trans (uh HK2)⟩
    ·rw [dc_f hb] at QB
     rw [dc_f (fun g=>(hb) (g.2.2.2))]
     go_enter Tryz.func55,Tryz.ntmps55
     go_wp2_with (first
      | (go_at_call 73;first | (refine Qhall.mono ?_;rintro e w1 ⟨rfl,rfl⟩))
      | (go_at_call 75;refine (sp_many _ _).mono ?_;rintro e w1 ⟨rfl,rfl⟩;first | rw [HMt] | rw [HMf] | skip)
      | (go_at_call 72;refine (QB _).mono ?_;rintro e w2 ⟨rfl,k2⟩;have HK2:Hid (Kb 0 _ w2):=k2;clear k2))
     go_ret
     exact ⟨by first | rfl | (simp only [*];rfl) | simp [*],by first | exact kb_alloc _ _ _ | exact (kb_alloc _ _ _).trans (uh HK2)⟩
   ·have hm2n:¬ a.m < 15:=hm2
    rw [dc_f (fun g=>(hm2) (g.2.2.1))]
    go_enter Tryz.func55,Tryz.ntmps55
    go_wp2_with (first
     | (go_at_call 73;first | (refine Qhall.mono ?_;rintro e w1 ⟨rfl,rfl⟩))
     | (go_at_call 75;refine (sp_many _ _).mono ?_;rintro e w1 ⟨rfl,rfl⟩;first | rw [HMt] | rw [HMf] | skip)
     | (go_at_call 72;refine (QB _).mono ?_;rintro e w2 ⟨rfl,k2⟩;have HK2:Hid (Kb 0 _ w2):=k2;clear k2))
    go_ret
    exact ⟨by first | rfl | (simp only [*];rfl) | simp [*],by first | exact kb_alloc _ _ _ | exact (kb_alloc _ _ _).trans (uh HK2)⟩
  ·have hm1n:¬ 0≤a.m:=hm1
   rw [dc_f (fun g=>(hm1) (g.2.1))]
   go_enter Tryz.func55,Tryz.ntmps55
   go_wp2_with (first
    | (go_at_call 73;first | (refine Qhall.mono ?_;rintro e w1 ⟨rfl,rfl⟩))
    | (go_at_call 75;refine (sp_many _ _).mono ?_;rintro e w1 ⟨rfl,rfl⟩;first | rw [HMt] | rw [HMf] | skip)
    | (go_at_call 72;refine (QB _).mono ?_;rintro e w2 ⟨rfl,k2⟩;have HK2:Hid (Kb 0 _ w2):=k2;clear k2))
   go_ret
   exact ⟨by first | rfl | (simp only [*];rfl) | simp [*],by first | exact kb_alloc _ _ _ | exact (kb_alloc _ _ _).trans (uh HK2)⟩
 ·have gq:((q:Int) == 0)=false:=bne (by omega)
  rw [dc_f (fun g=>(hq) (g.1))]
  go_enter Tryz.func55,Tryz.ntmps55
  go_wp2_with (first
   | (go_at_call 73;first | (refine Qhall.mono ?_;rintro e w1 ⟨rfl,rfl⟩))
   | (go_at_call 75;refine (sp_many _ _).mono ?_;rintro e w1 ⟨rfl,rfl⟩;first | rw [HMt] | rw [HMf] | skip)
   | (go_at_call 72;refine (QB _).mono ?_;rintro e w2 ⟨rfl,k2⟩;have HK2:Hid (Kb 0 _ w2):=k2;clear k2))
  go_ret
  exact ⟨by first | rfl | (simp only [*];rfl) | simp [*],by first | exact kb_alloc _ _ _ | exact (kb_alloc _ _ _).trans (uh HK2)⟩
theorem ex_29 {A : Addr} {n ca t : Nat} {a : Nv} {pr pk : Option Addr} {p cr q ck : Nat} {kdf : Nat → Int} {exf : Nat → Nat → Prop} (w : World) (hx : Nst w A n ca t a pr p cr pk q ck kdf exf) (hk : a.k = 29) :
  Calls Tryz.prog 55 #[.slice (some A) n ca,.int .i64 (t:Int)] w fun e w'=>e = .returned (.bool (dc (q=2∧exf 0 q∧Br false false false false a p 0)))∧Kb 0 w w':=by
 obtain ⟨d0,d1,d2,d3,d4,d5,d6,d7⟩:=hx.cel
 have hnI:(n:Int)≤1048576:=by have:=hx.hn;omega
 have hpI:(p:Int)≤1048576:=by have:=hx.hp;omega
 have hqN:=hx.hq
 have hqI:(q:Int)≤1048576:=by omega
 have htI:(t:Int) < (n:Int):=by have:=hx.ht;omega
 have Qhall:Calls Tryz.prog 73 #[.slice (some A) n ca,.int .i64 (t:Int),.int .i64 0,.int .i64 (q:Int)] (w.alloc (.cells #[.int .i64 a.k,.int .i64 a.l,.int .i64 a.o,.int .i64 a.m,.float .f64 a.g,.string a.x,.slice pr p cr,.slice pk q ck] 59)) fun e w'=>e = .returned (.bool (dc (exf 0 q)))∧w'=(w.alloc (.cells #[.int .i64 a.k,.int .i64 a.l,.int .i64 a.o,.int .i64 a.m,.float .f64 a.g,.string a.x,.slice pr p cr,.slice pk q ck] 59)):=hx.exp 0 q _ (kb_alloc _ _ _) (by omega) (by omega)
 have QB:=fun W=>sp_bare_z a hx.hg pr p cr pk q ck 0 (by omega) hx.hp W
 unfold ndv at QB
 rw [hk] at d0 QB  Qhall
 have HG:Hid (a.g < 18446744073709551616):=hx.hg
 clear hx
 have hst:=hst0
 have HQ:Hid (q≤1048576):=hqN
 clear hqN
 by_cases hq:q=2
 ·subst hq
  by_cases hall:exf 0 2
  ·rw [dc_t hall] at Qhall
   by_cases hb:Br false false false false a p 0
   ·rw [dc_t hb] at QB
    rw [dc_t ⟨rfl,hall,hb⟩]
    go_enter Tryz.func55,Tryz.ntmps55
    go_wp2_with (first
     | (go_at_call 73;first | (refine Qhall.mono ?_;rintro e w1 ⟨rfl,rfl⟩))
     | (go_at_call 75;refine (sp_many _ _).mono ?_;rintro e w1 ⟨rfl,rfl⟩;first | rw [HMt] | rw [HMf] | skip)
     | (go_at_call 72;refine (QB _).mono ?_;rintro e w2 ⟨rfl,k2⟩;have HK2:Hid (Kb 0 _ w2):=k2;clear k2))
    go_ret
    exact ⟨by first | rfl | (simp only [*];rfl) | simp [*],by first | exact kb_alloc _ _ _ | exact (kb_alloc _ _ _).trans (uh HK2)⟩
   ·rw [dc_f hb] at QB
    rw [dc_f (fun g=>(hb) (g.2.2))]
    go_enter Tryz.func55,Tryz.ntmps55
    go_wp2_with (first
     | (go_at_call 73;first | (refine Qhall.mono ?_;rintro e w1 ⟨rfl,rfl⟩))
     | (go_at_call 75;refine (sp_many _ _).mono ?_;rintro e w1 ⟨rfl,rfl⟩;first | rw [HMt] | rw [HMf] | skip)
     | (go_at_call 72;refine (QB _).mono ?_;rintro e w2 ⟨rfl,k2⟩;have HK2:Hid (Kb 0 _ w2):=k2;clear k2))
    go_ret
    exact ⟨by first | rfl | (simp only [*];rfl) | simp [*],by first | exact kb_alloc _ _ _ | exact (kb_alloc _ _ _).trans (uh HK2)⟩
  ·rw [dc_f hall] at Qhall
   rw [dc_f (fun g=>(hall) (g.2.1))]
   go_enter Tryz.func55,Tryz.ntmps55
   go_wp2_with (first
    | (go_at_call 73;first | (refine Qhall.mono ?_;rintro e w1 ⟨rfl,rfl⟩))
    | (go_at_call 75;refine (sp_many _ _).mono ?_;rintro e w1 ⟨rfl,rfl⟩;first | rw [HMt] | rw [HMf] | skip)
    | (go_at_call 72;refine (QB _).mono ?_;rintro e w2 ⟨rfl,k2⟩;have HK2:Hid (Kb 0 _ w2):=k2;clear k2))
   go_ret
   exact ⟨by first | rfl | (simp only [*];rfl) | simp [*],by first | exact kb_alloc _ _ _ | exact (kb_alloc _ _ _).trans (uh HK2)⟩
 ·have gq:((q:Int) == 2)=false:=bne (by omega)
  rw [dc_f (fun g=>(hq) (g.1))]
  go_enter Tryz.func55,Tryz.ntmps55
  go_wp2_with (first
   | (go_at_call 73;first | (refine Qhall.mono ?_;rintro e w1 ⟨rfl,rfl⟩))
   | (go_at_call 75;refine (sp_many _ _).mono ?_;rintro e w1 ⟨rfl,rfl⟩;first | rw [HMt] | rw [HMf] | skip)
   | (go_at_call 72;refine (QB _).mono ?_;rintro e w2 ⟨rfl,k2⟩;have HK2:Hid (Kb 0 _ w2):=k2;clear k2))
  go_ret
  exact ⟨by first | rfl | (simp only [*];rfl) | simp [*],by first | exact kb_alloc _ _ _ | exact (kb_alloc _ _ _).trans (uh HK2)⟩
theorem ex_30 {A : Addr} {n ca t : Nat} {a : Nv} {pr pk : Option Addr} {p cr q ck : Nat} {kdf : Nat → Int} {exf : Nat → Nat → Prop} (w : World) (hx : Nst w A n ca t a pr p cr pk q ck kdf exf) (hk : a.k = 30) :
  Calls Tryz.prog 55 #[.slice (some A) n ca,.int .i64 (t:Int)] w fun e w'=>e = .returned (.bool (dc (q=2∧exf 0 q∧Br false false false false a p 0)))∧Kb 0 w w':=by
 obtain ⟨d0,d1,d2,d3,d4,d5,d6,d7⟩:=hx.cel
 have hnI:(n:Int)≤1048576:=by have:=hx.hn;omega
 have hpI:(p:Int)≤1048576:=by have:=hx.hp;omega
 have hqN:=hx.hq
 have hqI:(q:Int)≤1048576:=by omega
 have htI:(t:Int) < (n:Int):=by have:=hx.ht;omega
 have Qhall:Calls Tryz.prog 73 #[.slice (some A) n ca,.int .i64 (t:Int),.int .i64 0,.int .i64 (q:Int)] (w.alloc (.cells #[.int .i64 a.k,.int .i64 a.l,.int .i64 a.o,.int .i64 a.m,.float .f64 a.g,.string a.x,.slice pr p cr,.slice pk q ck] 59)) fun e w'=>e = .returned (.bool (dc (exf 0 q)))∧w'=(w.alloc (.cells #[.int .i64 a.k,.int .i64 a.l,.int .i64 a.o,.int .i64 a.m,.float .f64 a.g,.string a.x,.slice pr p cr,.slice pk q ck] 59)):=hx.exp 0 q _ (kb_alloc _ _ _) (by omega) (by omega)
 have QB:=fun W=>sp_bare_z a hx.hg pr p cr pk q ck 0 (by omega) hx.hp W
 unfold ndv at QB
 rw [hk] at d0 QB  Qhall
 have HG:Hid (a.g < 18446744073709551616):=hx.hg
 clear hx
 have hst:=hst0
 have HQ:Hid (q≤1048576):=hqN
 clear hqN
 by_cases hq:q=2
 ·subst hq
  by_cases hall:exf 0 2
  ·rw [dc_t hall] at Qhall
   by_cases hb:Br false false false false a p 0
   ·rw [dc_t hb] at QB
    rw [dc_t ⟨rfl,hall,hb⟩]
    go_enter Tryz.func55,Tryz.ntmps55
    go_wp2_with (first
     | (go_at_call 73;first | (refine Qhall.mono ?_;rintro e w1 ⟨rfl,rfl⟩))
     | (go_at_call 75;refine (sp_many _ _).mono ?_;rintro e w1 ⟨rfl,rfl⟩;first | rw [HMt] | rw [HMf] | skip)
     | (go_at_call 72;refine (QB _).mono ?_;rintro e w2 ⟨rfl,k2⟩;have HK2:Hid (Kb 0 _ w2):=k2;clear k2))
    go_ret
    exact ⟨by first | rfl | (simp only [*];rfl) | simp [*],by first | exact kb_alloc _ _ _ | exact (kb_alloc _ _ _).trans (uh HK2)⟩
   ·rw [dc_f hb] at QB
    rw [dc_f (fun g=>(hb) (g.2.2))]
    go_enter Tryz.func55,Tryz.ntmps55
    go_wp2_with (first
     | (go_at_call 73;first | (refine Qhall.mono ?_;rintro e w1 ⟨rfl,rfl⟩))
     | (go_at_call 75;refine (sp_many _ _).mono ?_;rintro e w1 ⟨rfl,rfl⟩;first | rw [HMt] | rw [HMf] | skip)
     | (go_at_call 72;refine (QB _).mono ?_;rintro e w2 ⟨rfl,k2⟩;have HK2:Hid (Kb 0 _ w2):=k2;clear k2))
    go_ret
    exact ⟨by first | rfl | (simp only [*];rfl) | simp [*],by first | exact kb_alloc _ _ _ | exact (kb_alloc _ _ _).trans (uh HK2)⟩
  ·rw [dc_f hall] at Qhall
   rw [dc_f (fun g=>(hall) (g.2.1))]
   go_enter Tryz.func55,Tryz.ntmps55
   go_wp2_with (first
    | (go_at_call 73;first | (refine Qhall.mono ?_;rintro e w1 ⟨rfl,rfl⟩))
    | (go_at_call 75;refine (sp_many _ _).mono ?_;rintro e w1 ⟨rfl,rfl⟩;first | rw [HMt] | rw [HMf] | skip)
    | (go_at_call 72;refine (QB _).mono ?_;rintro e w2 ⟨rfl,k2⟩;have HK2:Hid (Kb 0 _ w2):=k2;clear k2))
   go_ret
   exact ⟨by first | rfl | (simp only [*];rfl) | simp [*],by first | exact kb_alloc _ _ _ | exact (kb_alloc _ _ _).trans (uh HK2)⟩
 ·have gq:((q:Int) == 2)=false:=bne (by omega)
  rw [dc_f (fun g=>(hq) (g.1))]
  go_enter Tryz.func55,Tryz.ntmps55
  go_wp2_with (first
   | (go_at_call 73;first | (refine Qhall.mono ?_;rintro e w1 ⟨rfl,rfl⟩))
   | (go_at_call 75;refine (sp_many _ _).mono ?_;rintro e w1 ⟨rfl,rfl⟩;first | rw [HMt] | rw [HMf] | skip)
   | (go_at_call 72;refine (QB _).mono ?_;rintro e w2 ⟨rfl,k2⟩;have HK2:Hid (Kb 0 _ w2):=k2;clear k2))
  go_ret
  exact ⟨by first | rfl | (simp only [*];rfl) | simp [*],by first | exact kb_alloc _ _ _ | exact (kb_alloc _ _ _).trans (uh HK2)⟩
theorem ex_33 {A : Addr} {n ca t : Nat} {a : Nv} {pr pk : Option Addr} {p cr q ck : Nat} {kdf : Nat → Int} {exf : Nat → Nat → Prop} (w : World) (hx : Nst w A n ca t a pr p cr pk q ck kdf exf) (hk : a.k = 33) :
  Calls Tryz.prog 55 #[.slice (some A) n ca,.int .i64 (t:Int)] w fun e w'=>e = .returned (.bool (dc (q=2∧exf 0 q∧Br false false false false a p 0)))∧Kb 0 w w':=by
 obtain ⟨d0,d1,d2,d3,d4,d5,d6,d7⟩:=hx.cel
 have hnI:(n:Int)≤1048576:=by have:=hx.hn;omega
 have hpI:(p:Int)≤1048576:=by have:=hx.hp;omega
 have hqN:=hx.hq
 have hqI:(q:Int)≤1048576:=by omega
 have htI:(t:Int) < (n:Int):=by have:=hx.ht;omega
 have Qhall:Calls Tryz.prog 73 #[.slice (some A) n ca,.int .i64 (t:Int),.int .i64 0,.int .i64 (q:Int)] (w.alloc (.cells #[.int .i64 a.k,.int .i64 a.l,.int .i64 a.o,.int .i64 a.m,.float .f64 a.g,.string a.x,.slice pr p cr,.slice pk q ck] 59)) fun e w'=>e = .returned (.bool (dc (exf 0 q)))∧w'=(w.alloc (.cells #[.int .i64 a.k,.int .i64 a.l,.int .i64 a.o,.int .i64 a.m,.float .f64 a.g,.string a.x,.slice pr p cr,.slice pk q ck] 59)):=hx.exp 0 q _ (kb_alloc _ _ _) (by omega) (by omega)
 have QB:=fun W=>sp_bare_z a hx.hg pr p cr pk q ck 0 (by omega) hx.hp W
 unfold ndv at QB
 rw [hk] at d0 QB  Qhall
 have HG:Hid (a.g < 18446744073709551616):=hx.hg
 clear hx
 have hst:=hst0
 have HQ:Hid (q≤1048576):=hqN
 clear hqN
 by_cases hq:q=2
 ·subst hq
  by_cases hall:exf 0 2
  ·rw [dc_t hall] at Qhall
   by_cases hb:Br false false false false a p 0
   ·rw [dc_t hb] at QB
    rw [dc_t ⟨rfl,hall,hb⟩]
    go_enter Tryz.func55,Tryz.ntmps55
    go_wp2_with (first
     | (go_at_call 73;first | (refine Qhall.mono ?_;rintro e w1 ⟨rfl,rfl⟩))
     | (go_at_call 75;refine (sp_many _ _).mono ?_;rintro e w1 ⟨rfl,rfl⟩;first | rw [HMt] | rw [HMf] | skip)
     | (go_at_call 72;refine (QB _).mono ?_;rintro e w2 ⟨rfl,k2⟩;have HK2:Hid (Kb 0 _ w2):=k2;clear k2))
    go_ret
    exact ⟨by first | rfl | (simp only [*];rfl) | simp [*],by first | exact kb_alloc _ _ _ | exact (kb_alloc _ _ _).trans (uh HK2)⟩
   ·rw [dc_f hb] at QB
    rw [dc_f (fun g=>(hb) (g.2.2))]
    go_enter Tryz.func55,Tryz.ntmps55
    go_wp2_with (first
     | (go_at_call 73;first | (refine Qhall.mono ?_;rintro e w1 ⟨rfl,rfl⟩))
     | (go_at_call 75;refine (sp_many _ _).mono ?_;rintro e w1 ⟨rfl,rfl⟩;first | rw [HMt] | rw [HMf] | skip)
     | (go_at_call 72;refine (QB _).mono ?_;rintro e w2 ⟨rfl,k2⟩;have HK2:Hid (Kb 0 _ w2):=k2;clear k2))
    go_ret
    exact ⟨by first | rfl | (simp only [*];rfl) | simp [*],by first | exact kb_alloc _ _ _ | exact (kb_alloc _ _ _).trans (uh HK2)⟩
  ·rw [dc_f hall] at Qhall
   rw [dc_f (fun g=>(hall) (g.2.1))]
   go_enter Tryz.func55,Tryz.ntmps55
   go_wp2_with (first
    | (go_at_call 73;first | (refine Qhall.mono ?_;rintro e w1 ⟨rfl,rfl⟩))
    | (go_at_call 75;refine (sp_many _ _).mono ?_;rintro e w1 ⟨rfl,rfl⟩;first | rw [HMt] | rw [HMf] | skip)
    | (go_at_call 72;refine (QB _).mono ?_;rintro e w2 ⟨rfl,k2⟩;have HK2:Hid (Kb 0 _ w2):=k2;clear k2))
   go_ret
   exact ⟨by first | rfl | (simp only [*];rfl) | simp [*],by first | exact kb_alloc _ _ _ | exact (kb_alloc _ _ _).trans (uh HK2)⟩
 ·have gq:((q:Int) == 2)=false:=bne (by omega)
  rw [dc_f (fun g=>(hq) (g.1))]
  go_enter Tryz.func55,Tryz.ntmps55
  go_wp2_with (first
   | (go_at_call 73;first | (refine Qhall.mono ?_;rintro e w1 ⟨rfl,rfl⟩))
   | (go_at_call 75;refine (sp_many _ _).mono ?_;rintro e w1 ⟨rfl,rfl⟩;first | rw [HMt] | rw [HMf] | skip)
   | (go_at_call 72;refine (QB _).mono ?_;rintro e w2 ⟨rfl,k2⟩;have HK2:Hid (Kb 0 _ w2):=k2;clear k2))
  go_ret
  exact ⟨by first | rfl | (simp only [*];rfl) | simp [*],by first | exact kb_alloc _ _ _ | exact (kb_alloc _ _ _).trans (uh HK2)⟩
theorem ex_31 {A : Addr} {n ca t : Nat} {a : Nv} {pr pk : Option Addr} {p cr q ck : Nat} {kdf : Nat → Int} {exf : Nat → Nat → Prop} (w : World) (hx : Nst w A n ca t a pr p cr pk q ck kdf exf) (hk : a.k = 31) :
  Calls Tryz.prog 55 #[.slice (some A) n ca,.int .i64 (t:Int)] w fun e w'=>e = .returned (.bool (dc (q=1∧exf 0 q∧19≤a.o∧a.o≤22∧Br true false false false a p 0)))∧Kb 0 w w':=by
 obtain ⟨d0,d1,d2,d3,d4,d5,d6,d7⟩:=hx.cel
 have hnI:(n:Int)≤1048576:=by have:=hx.hn;omega
 have hpI:(p:Int)≤1048576:=by have:=hx.hp;omega
 have hqN:=hx.hq
 have hqI:(q:Int)≤1048576:=by omega
 have htI:(t:Int) < (n:Int):=by have:=hx.ht;omega
 have Qhall:Calls Tryz.prog 73 #[.slice (some A) n ca,.int .i64 (t:Int),.int .i64 0,.int .i64 (q:Int)] (w.alloc (.cells #[.int .i64 a.k,.int .i64 a.l,.int .i64 a.o,.int .i64 a.m,.float .f64 a.g,.string a.x,.slice pr p cr,.slice pk q ck] 59)) fun e w'=>e = .returned (.bool (dc (exf 0 q)))∧w'=(w.alloc (.cells #[.int .i64 a.k,.int .i64 a.l,.int .i64 a.o,.int .i64 a.m,.float .f64 a.g,.string a.x,.slice pr p cr,.slice pk q ck] 59)):=hx.exp 0 q _ (kb_alloc _ _ _) (by omega) (by omega)
 have QB:=fun W=>sp_bare_o a hx.hg pr p cr pk q ck 0 (by omega) hx.hp W
 unfold ndv at QB
 rw [hk] at d0 QB  Qhall
 have HG:Hid (a.g < 18446744073709551616):=hx.hg
 clear hx
 have hst:=hst0
 have HQ:Hid (q≤1048576):=hqN
 clear hqN
 by_cases hq:q=1
 ·subst hq
  by_cases hall:exf 0 1
  ·rw [dc_t hall] at Qhall
   by_cases ho1 : 19≤a.o
   ·skip
    by_cases ho2:a.o≤22
    ·skip
     by_cases hb:Br true false false false a p 0
     ·rw [dc_t hb] at QB
      rw [dc_t ⟨rfl,hall,ho1,ho2,hb⟩]
      go_enter Tryz.func55,Tryz.ntmps55
      go_wp2_with (first
       | (go_at_call 73;first | (refine Qhall.mono ?_;rintro e w1 ⟨rfl,rfl⟩))
       | (go_at_call 75;refine (sp_many _ _).mono ?_;rintro e w1 ⟨rfl,rfl⟩;first | rw [HMt] | rw [HMf] | skip)
       | (go_at_call 72;refine (QB _).mono ?_;rintro e w2 ⟨rfl,k2⟩;have HK2:Hid (Kb 0 _ w2):=k2;clear k2))
      go_ret
      exact ⟨by first | rfl | (simp only [*];rfl) | simp [*],by first | exact kb_alloc _ _ _ | exact (kb_alloc _ _ _).trans (uh HK2)⟩
     ·rw [dc_f hb] at QB
      rw [dc_f (fun g=>(hb) (g.2.2.2.2))]
      go_enter Tryz.func55,Tryz.ntmps55
      go_wp2_with (first
       | (go_at_call 73;first | (refine Qhall.mono ?_;rintro e w1 ⟨rfl,rfl⟩))
       | (go_at_call 75;refine (sp_many _ _).mono ?_;rintro e w1 ⟨rfl,rfl⟩;first | rw [HMt] | rw [HMf] | skip)
       | (go_at_call 72;refine (QB _).mono ?_;rintro e w2 ⟨rfl,k2⟩;have HK2:Hid (Kb 0 _ w2):=k2;clear k2))
      go_ret
      exact ⟨by first | rfl | (simp only [*];rfl) | simp [*],by first | exact kb_alloc _ _ _ | exact (kb_alloc _ _ _).trans (uh HK2)⟩
    ·have ho2n:¬ a.o≤22:=ho2
     rw [dc_f (fun g=>(ho2) (g.2.2.2.1))]
     go_enter Tryz.func55,Tryz.ntmps55
     go_wp2_with (first
      | (go_at_call 73;first | (refine Qhall.mono ?_;rintro e w1 ⟨rfl,rfl⟩))
      | (go_at_call 75;refine (sp_many _ _).mono ?_;rintro e w1 ⟨rfl,rfl⟩;first | rw [HMt] | rw [HMf] | skip)
      | (go_at_call 72;refine (QB _).mono ?_;rintro e w2 ⟨rfl,k2⟩;have HK2:Hid (Kb 0 _ w2):=k2;clear k2))
     go_ret
     exact ⟨by first | rfl | (simp only [*];rfl) | simp [*],by first | exact kb_alloc _ _ _ | exact (kb_alloc _ _ _).trans (uh HK2)⟩
   ·have ho1n:¬ 19≤a.o:=ho1
    rw [dc_f (fun g=>(ho1) (g.2.2.1))]
    go_enter Tryz.func55,Tryz.ntmps55
    go_wp2_with (first
     | (go_at_call 73;first | (refine Qhall.mono ?_;rintro e w1 ⟨rfl,rfl⟩))
     | (go_at_call 75;refine (sp_many _ _).mono ?_;rintro e w1 ⟨rfl,rfl⟩;first | rw [HMt] | rw [HMf] | skip)
     | (go_at_call 72;refine (QB _).mono ?_;rintro e w2 ⟨rfl,k2⟩;have HK2:Hid (Kb 0 _ w2):=k2;clear k2))
    go_ret
    exact ⟨by first | rfl | (simp only [*];rfl) | simp [*],by first | exact kb_alloc _ _ _ | exact (kb_alloc _ _ _).trans (uh HK2)⟩
  ·rw [dc_f hall] at Qhall
   rw [dc_f (fun g=>(hall) (g.2.1))]
   go_enter Tryz.func55,Tryz.ntmps55
   go_wp2_with (first
    | (go_at_call 73;first | (refine Qhall.mono ?_;rintro e w1 ⟨rfl,rfl⟩))
    | (go_at_call 75;refine (sp_many _ _).mono ?_;rintro e w1 ⟨rfl,rfl⟩;first | rw [HMt] | rw [HMf] | skip)
    | (go_at_call 72;refine (QB _).mono ?_;rintro e w2 ⟨rfl,k2⟩;have HK2:Hid (Kb 0 _ w2):=k2;clear k2))
   go_ret
   exact ⟨by first | rfl | (simp only [*];rfl) | simp [*],by first | exact kb_alloc _ _ _ | exact (kb_alloc _ _ _).trans (uh HK2)⟩
 ·have gq:((q:Int) == 1)=false:=bne (by omega)
  rw [dc_f (fun g=>(hq) (g.1))]
  go_enter Tryz.func55,Tryz.ntmps55
  go_wp2_with (first
   | (go_at_call 73;first | (refine Qhall.mono ?_;rintro e w1 ⟨rfl,rfl⟩))
   | (go_at_call 75;refine (sp_many _ _).mono ?_;rintro e w1 ⟨rfl,rfl⟩;first | rw [HMt] | rw [HMf] | skip)
   | (go_at_call 72;refine (QB _).mono ?_;rintro e w2 ⟨rfl,k2⟩;have HK2:Hid (Kb 0 _ w2):=k2;clear k2))
  go_ret
  exact ⟨by first | rfl | (simp only [*];rfl) | simp [*],by first | exact kb_alloc _ _ _ | exact (kb_alloc _ _ _).trans (uh HK2)⟩
theorem ex_32 {A : Addr} {n ca t : Nat} {a : Nv} {pr pk : Option Addr} {p cr q ck : Nat} {kdf : Nat → Int} {exf : Nat → Nat → Prop} (w : World) (hx : Nst w A n ca t a pr p cr pk q ck kdf exf) (hk : a.k = 32) :
  Calls Tryz.prog 55 #[.slice (some A) n ca,.int .i64 (t:Int)] w fun e w'=>e = .returned (.bool (dc (q=2∧exf 0 q∧1≤a.o∧a.o≤18∧Br true false false false a p 0)))∧Kb 0 w w':=by
 obtain ⟨d0,d1,d2,d3,d4,d5,d6,d7⟩:=hx.cel
 have hnI:(n:Int)≤1048576:=by have:=hx.hn;omega
 have hpI:(p:Int)≤1048576:=by have:=hx.hp;omega
 have hqN:=hx.hq
 have hqI:(q:Int)≤1048576:=by omega
 have htI:(t:Int) < (n:Int):=by have:=hx.ht;omega
 have Qhall:Calls Tryz.prog 73 #[.slice (some A) n ca,.int .i64 (t:Int),.int .i64 0,.int .i64 (q:Int)] (w.alloc (.cells #[.int .i64 a.k,.int .i64 a.l,.int .i64 a.o,.int .i64 a.m,.float .f64 a.g,.string a.x,.slice pr p cr,.slice pk q ck] 59)) fun e w'=>e = .returned (.bool (dc (exf 0 q)))∧w'=(w.alloc (.cells #[.int .i64 a.k,.int .i64 a.l,.int .i64 a.o,.int .i64 a.m,.float .f64 a.g,.string a.x,.slice pr p cr,.slice pk q ck] 59)):=hx.exp 0 q _ (kb_alloc _ _ _) (by omega) (by omega)
 have QB:=fun W=>sp_bare_o a hx.hg pr p cr pk q ck 0 (by omega) hx.hp W
 unfold ndv at QB
 rw [hk] at d0 QB  Qhall
 have HG:Hid (a.g < 18446744073709551616):=hx.hg
 clear hx
 have hst:=hst0
 have HQ:Hid (q≤1048576):=hqN
 clear hqN
 by_cases hq:q=2
 ·subst hq
  by_cases hall:exf 0 2
  ·rw [dc_t hall] at Qhall
   by_cases ho1 : 1≤a.o
   ·skip
    by_cases ho2:a.o≤18
    ·skip
     by_cases hb:Br true false false false a p 0
     ·rw [dc_t hb] at QB
      rw [dc_t ⟨rfl,hall,ho1,ho2,hb⟩]
      go_enter Tryz.func55,Tryz.ntmps55
      go_wp2_with (first
       | (go_at_call 73;first | (refine Qhall.mono ?_;rintro e w1 ⟨rfl,rfl⟩))
       | (go_at_call 75;refine (sp_many _ _).mono ?_;rintro e w1 ⟨rfl,rfl⟩;first | rw [HMt] | rw [HMf] | skip)
       | (go_at_call 72;refine (QB _).mono ?_;rintro e w2 ⟨rfl,k2⟩;have HK2:Hid (Kb 0 _ w2):=k2;clear k2))
      go_ret
      exact ⟨by first | rfl | (simp only [*];rfl) | simp [*],by first | exact kb_alloc _ _ _ | exact (kb_alloc _ _ _).trans (uh HK2)⟩
     ·rw [dc_f hb] at QB
      rw [dc_f (fun g=>(hb) (g.2.2.2.2))]
      go_enter Tryz.func55,Tryz.ntmps55
      go_wp2_with (first
       | (go_at_call 73;first | (refine Qhall.mono ?_;rintro e w1 ⟨rfl,rfl⟩))
       | (go_at_call 75;refine (sp_many _ _).mono ?_;rintro e w1 ⟨rfl,rfl⟩;first | rw [HMt] | rw [HMf] | skip)
       | (go_at_call 72;refine (QB _).mono ?_;rintro e w2 ⟨rfl,k2⟩;have HK2:Hid (Kb 0 _ w2):=k2;clear k2))
      go_ret
      exact ⟨by first | rfl | (simp only [*];rfl) | simp [*],by first | exact kb_alloc _ _ _ | exact (kb_alloc _ _ _).trans (uh HK2)⟩
    ·have ho2n:¬ a.o≤18:=ho2
     rw [dc_f (fun g=>(ho2) (g.2.2.2.1))]
     go_enter Tryz.func55,Tryz.ntmps55
     go_wp2_with (first
      | (go_at_call 73;first | (refine Qhall.mono ?_;rintro e w1 ⟨rfl,rfl⟩))
      | (go_at_call 75;refine (sp_many _ _).mono ?_;rintro e w1 ⟨rfl,rfl⟩;first | rw [HMt] | rw [HMf] | skip)
      | (go_at_call 72;refine (QB _).mono ?_;rintro e w2 ⟨rfl,k2⟩;have HK2:Hid (Kb 0 _ w2):=k2;clear k2))
     go_ret
     exact ⟨by first | rfl | (simp only [*];rfl) | simp [*],by first | exact kb_alloc _ _ _ | exact (kb_alloc _ _ _).trans (uh HK2)⟩
   ·have ho1n:¬ 1≤a.o:=ho1
    rw [dc_f (fun g=>(ho1) (g.2.2.1))]
    go_enter Tryz.func55,Tryz.ntmps55
    go_wp2_with (first
     | (go_at_call 73;first | (refine Qhall.mono ?_;rintro e w1 ⟨rfl,rfl⟩))
     | (go_at_call 75;refine (sp_many _ _).mono ?_;rintro e w1 ⟨rfl,rfl⟩;first | rw [HMt] | rw [HMf] | skip)
     | (go_at_call 72;refine (QB _).mono ?_;rintro e w2 ⟨rfl,k2⟩;have HK2:Hid (Kb 0 _ w2):=k2;clear k2))
    go_ret
    exact ⟨by first | rfl | (simp only [*];rfl) | simp [*],by first | exact kb_alloc _ _ _ | exact (kb_alloc _ _ _).trans (uh HK2)⟩
  ·rw [dc_f hall] at Qhall
   rw [dc_f (fun g=>(hall) (g.2.1))]
   go_enter Tryz.func55,Tryz.ntmps55
   go_wp2_with (first
    | (go_at_call 73;first | (refine Qhall.mono ?_;rintro e w1 ⟨rfl,rfl⟩))
    | (go_at_call 75;refine (sp_many _ _).mono ?_;rintro e w1 ⟨rfl,rfl⟩;first | rw [HMt] | rw [HMf] | skip)
    | (go_at_call 72;refine (QB _).mono ?_;rintro e w2 ⟨rfl,k2⟩;have HK2:Hid (Kb 0 _ w2):=k2;clear k2))
   go_ret
   exact ⟨by first | rfl | (simp only [*];rfl) | simp [*],by first | exact kb_alloc _ _ _ | exact (kb_alloc _ _ _).trans (uh HK2)⟩
 ·have gq:((q:Int) == 2)=false:=bne (by omega)
  rw [dc_f (fun g=>(hq) (g.1))]
  go_enter Tryz.func55,Tryz.ntmps55
  go_wp2_with (first
   | (go_at_call 73;first | (refine Qhall.mono ?_;rintro e w1 ⟨rfl,rfl⟩))
   | (go_at_call 75;refine (sp_many _ _).mono ?_;rintro e w1 ⟨rfl,rfl⟩;first | rw [HMt] | rw [HMf] | skip)
   | (go_at_call 72;refine (QB _).mono ?_;rintro e w2 ⟨rfl,k2⟩;have HK2:Hid (Kb 0 _ w2):=k2;clear k2))
  go_ret
  exact ⟨by first | rfl | (simp only [*];rfl) | simp [*],by first | exact kb_alloc _ _ _ | exact (kb_alloc _ _ _).trans (uh HK2)⟩
theorem ex_34 {A : Addr} {n ca t : Nat} {a : Nv} {pr pk : Option Addr} {p cr q ck : Nat} {kdf : Nat → Int} {exf : Nat → Nat → Prop} (w : World) (hx : Nst w A n ca t a pr p cr pk q ck kdf exf) (hk : a.k = 34) :
  Calls Tryz.prog 55 #[.slice (some A) n ca,.int .i64 (t:Int)] w fun e w'=>e = .returned (.bool (dc (1≤q∧exf 0 q∧Br false false false false a p 0)))∧Kb 0 w w':=by
 obtain ⟨d0,d1,d2,d3,d4,d5,d6,d7⟩:=hx.cel
 have hnI:(n:Int)≤1048576:=by have:=hx.hn;omega
 have hpI:(p:Int)≤1048576:=by have:=hx.hp;omega
 have hqN:=hx.hq
 have hqI:(q:Int)≤1048576:=by omega
 have htI:(t:Int) < (n:Int):=by have:=hx.ht;omega
 have Qhall:Calls Tryz.prog 73 #[.slice (some A) n ca,.int .i64 (t:Int),.int .i64 0,.int .i64 (q:Int)] (w.alloc (.cells #[.int .i64 a.k,.int .i64 a.l,.int .i64 a.o,.int .i64 a.m,.float .f64 a.g,.string a.x,.slice pr p cr,.slice pk q ck] 59)) fun e w'=>e = .returned (.bool (dc (exf 0 q)))∧w'=(w.alloc (.cells #[.int .i64 a.k,.int .i64 a.l,.int .i64 a.o,.int .i64 a.m,.float .f64 a.g,.string a.x,.slice pr p cr,.slice pk q ck] 59)):=hx.exp 0 q _ (kb_alloc _ _ _) (by omega) (by omega)
 have QB:=fun W=>sp_bare_z a hx.hg pr p cr pk q ck 0 (by omega) hx.hp W
 unfold ndv at QB
 rw [hk] at d0 QB  Qhall
 have HG:Hid (a.g < 18446744073709551616):=hx.hg
 clear hx
 have hst:=hst0
 have HQ:Hid (q≤1048576):=hqN
 clear hqN
 by_cases hq1 : 1≤q
 ·have gq1:(1:Int)≤(q:Int):=by omega
  by_cases hall:exf 0 q
  ·rw [dc_t hall] at Qhall
   by_cases hb:Br false false false false a p 0
   ·rw [dc_t hb] at QB
    rw [dc_t ⟨hq1,hall,hb⟩]
    go_enter Tryz.func55,Tryz.ntmps55
    go_wp2_with (first
     | (go_at_call 73;first | (refine Qhall.mono ?_;rintro e w1 ⟨rfl,rfl⟩))
     | (go_at_call 75;refine (sp_many _ _).mono ?_;rintro e w1 ⟨rfl,rfl⟩;first | rw [HMt] | rw [HMf] | skip)
     | (go_at_call 72;refine (QB _).mono ?_;rintro e w2 ⟨rfl,k2⟩;have HK2:Hid (Kb 0 _ w2):=k2;clear k2))
    go_ret
    exact ⟨by first | rfl | (simp only [*];rfl) | simp [*],by first | exact kb_alloc _ _ _ | exact (kb_alloc _ _ _).trans (uh HK2)⟩
   ·rw [dc_f hb] at QB
    rw [dc_f (fun g=>(hb) (g.2.2))]
    go_enter Tryz.func55,Tryz.ntmps55
    go_wp2_with (first
     | (go_at_call 73;first | (refine Qhall.mono ?_;rintro e w1 ⟨rfl,rfl⟩))
     | (go_at_call 75;refine (sp_many _ _).mono ?_;rintro e w1 ⟨rfl,rfl⟩;first | rw [HMt] | rw [HMf] | skip)
     | (go_at_call 72;refine (QB _).mono ?_;rintro e w2 ⟨rfl,k2⟩;have HK2:Hid (Kb 0 _ w2):=k2;clear k2))
    go_ret
    exact ⟨by first | rfl | (simp only [*];rfl) | simp [*],by first | exact kb_alloc _ _ _ | exact (kb_alloc _ _ _).trans (uh HK2)⟩
  ·rw [dc_f hall] at Qhall
   rw [dc_f (fun g=>(hall) (g.2.1))]
   go_enter Tryz.func55,Tryz.ntmps55
   go_wp2_with (first
    | (go_at_call 73;first | (refine Qhall.mono ?_;rintro e w1 ⟨rfl,rfl⟩))
    | (go_at_call 75;refine (sp_many _ _).mono ?_;rintro e w1 ⟨rfl,rfl⟩;first | rw [HMt] | rw [HMf] | skip)
    | (go_at_call 72;refine (QB _).mono ?_;rintro e w2 ⟨rfl,k2⟩;have HK2:Hid (Kb 0 _ w2):=k2;clear k2))
   go_ret
   exact ⟨by first | rfl | (simp only [*];rfl) | simp [*],by first | exact kb_alloc _ _ _ | exact (kb_alloc _ _ _).trans (uh HK2)⟩
 ·have gq1:¬ (1:Int)≤(q:Int):=by omega
  rw [dc_f (fun g=>(hq1) (g.1))]
  go_enter Tryz.func55,Tryz.ntmps55
  go_wp2_with (first
   | (go_at_call 73;first | (refine Qhall.mono ?_;rintro e w1 ⟨rfl,rfl⟩))
   | (go_at_call 75;refine (sp_many _ _).mono ?_;rintro e w1 ⟨rfl,rfl⟩;first | rw [HMt] | rw [HMf] | skip)
   | (go_at_call 72;refine (QB _).mono ?_;rintro e w2 ⟨rfl,k2⟩;have HK2:Hid (Kb 0 _ w2):=k2;clear k2))
  go_ret
  exact ⟨by first | rfl | (simp only [*];rfl) | simp [*],by first | exact kb_alloc _ _ _ | exact (kb_alloc _ _ _).trans (uh HK2)⟩
theorem ex_38 {A : Addr} {n ca t : Nat} {a : Nv} {pr pk : Option Addr} {p cr q ck : Nat} {kdf : Nat → Int} {exf : Nat → Nat → Prop} (w : World) (hx : Nst w A n ca t a pr p cr pk q ck kdf exf) (hk : a.k = 38) :
  Calls Tryz.prog 55 #[.slice (some A) n ca,.int .i64 (t:Int)] w fun e w'=>e = .returned (.bool (dc (q=1∧(kdf 0=34∨kdf 0=37)∧Br false false false false a p 0)))∧Kb 0 w w':=by
 obtain ⟨d0,d1,d2,d3,d4,d5,d6,d7⟩:=hx.cel
 have hnI:(n:Int)≤1048576:=by have:=hx.hn;omega
 have hpI:(p:Int)≤1048576:=by have:=hx.hp;omega
 have hqN:=hx.hq
 have hqI:(q:Int)≤1048576:=by omega
 have htI:(t:Int) < (n:Int):=by have:=hx.ht;omega
 have QK0:Calls Tryz.prog 71 #[.slice (some A) n ca,.int .i64 (t:Int),.int .i64 0] (w.alloc (.cells #[.int .i64 a.k,.int .i64 a.l,.int .i64 a.o,.int .i64 a.m,.float .f64 a.g,.string a.x,.slice pr p cr,.slice pk q ck] 59)) fun e w'=>e = .returned (.int .i64 (kdf 0))∧w'=(w.alloc (.cells #[.int .i64 a.k,.int .i64 a.l,.int .i64 a.o,.int .i64 a.m,.float .f64 a.g,.string a.x,.slice pr p cr,.slice pk q ck] 59)):=hx.kid 0 _ (kb_alloc _ _ _) (by omega)
 have Qhall:Calls Tryz.prog 73 #[.slice (some A) n ca,.int .i64 (t:Int),.int .i64 0,.int .i64 (q:Int)] (w.alloc (.cells #[.int .i64 a.k,.int .i64 a.l,.int .i64 a.o,.int .i64 a.m,.float .f64 a.g,.string a.x,.slice pr p cr,.slice pk q ck] 59)) fun e w'=>e = .returned (.bool (dc (exf 0 q)))∧w'=(w.alloc (.cells #[.int .i64 a.k,.int .i64 a.l,.int .i64 a.o,.int .i64 a.m,.float .f64 a.g,.string a.x,.slice pr p cr,.slice pk q ck] 59)):=hx.exp 0 q _ (kb_alloc _ _ _) (by omega) (by omega)
 have QB:=fun W=>sp_bare_z a hx.hg pr p cr pk q ck 0 (by omega) hx.hp W
 unfold ndv at QB
 rw [hk] at d0 QB QK0 Qhall
 have HG:Hid (a.g < 18446744073709551616):=hx.hg
 clear hx
 have hst:=hst0
 have HQ:Hid (q≤1048576):=hqN
 clear hqN
 by_cases hq:q=1
 ·subst hq
  by_cases hm:kdf 0=34∨kdf 0=37
  ·have HMt:=dc_t hm
   by_cases hb:Br false false false false a p 0
   ·rw [dc_t hb] at QB
    rw [dc_t ⟨rfl,hm,hb⟩]
    go_enter Tryz.func55,Tryz.ntmps55
    go_wp2_with (first
     | (go_at_call 71;first | (with_reducible refine QK0.mono ?_;rintro e w1 ⟨rfl,rfl⟩))
     | (go_at_call 73;first | (refine Qhall.mono ?_;rintro e w1 ⟨rfl,rfl⟩))
     | (go_at_call 75;refine (sp_many _ _).mono ?_;rintro e w1 ⟨rfl,rfl⟩;first | rw [HMt] | rw [HMf] | skip)
     | (go_at_call 72;refine (QB _).mono ?_;rintro e w2 ⟨rfl,k2⟩;have HK2:Hid (Kb 0 _ w2):=k2;clear k2))
    go_ret
    exact ⟨by first | rfl | (simp only [*];rfl) | simp [*],by first | exact kb_alloc _ _ _ | exact (kb_alloc _ _ _).trans (uh HK2)⟩
   ·rw [dc_f hb] at QB
    rw [dc_f (fun g=>(hb) (g.2.2))]
    go_enter Tryz.func55,Tryz.ntmps55
    go_wp2_with (first
     | (go_at_call 71;first | (with_reducible refine QK0.mono ?_;rintro e w1 ⟨rfl,rfl⟩))
     | (go_at_call 73;first | (refine Qhall.mono ?_;rintro e w1 ⟨rfl,rfl⟩))
     | (go_at_call 75;refine (sp_many _ _).mono ?_;rintro e w1 ⟨rfl,rfl⟩;first | rw [HMt] | rw [HMf] | skip)
     | (go_at_call 72;refine (QB _).mono ?_;rintro e w2 ⟨rfl,k2⟩;have HK2:Hid (Kb 0 _ w2):=k2;clear k2))
    go_ret
    exact ⟨by first | rfl | (simp only [*];rfl) | simp [*],by first | exact kb_alloc _ _ _ | exact (kb_alloc _ _ _).trans (uh HK2)⟩
  ·have HMf:=dc_f hm
   rw [dc_f (fun g=>(hm) (g.2.1))]
   go_enter Tryz.func55,Tryz.ntmps55
   go_wp2_with (first
    | (go_at_call 71;first | (with_reducible refine QK0.mono ?_;rintro e w1 ⟨rfl,rfl⟩))
    | (go_at_call 73;first | (refine Qhall.mono ?_;rintro e w1 ⟨rfl,rfl⟩))
    | (go_at_call 75;refine (sp_many _ _).mono ?_;rintro e w1 ⟨rfl,rfl⟩;first | rw [HMt] | rw [HMf] | skip)
    | (go_at_call 72;refine (QB _).mono ?_;rintro e w2 ⟨rfl,k2⟩;have HK2:Hid (Kb 0 _ w2):=k2;clear k2))
   go_ret
   exact ⟨by first | rfl | (simp only [*];rfl) | simp [*],by first | exact kb_alloc _ _ _ | exact (kb_alloc _ _ _).trans (uh HK2)⟩
 ·have gq:((q:Int) == 1)=false:=bne (by omega)
  rw [dc_f (fun g=>(hq) (g.1))]
  go_enter Tryz.func55,Tryz.ntmps55
  go_wp2_with (first
   | (go_at_call 71;first | (with_reducible refine QK0.mono ?_;rintro e w1 ⟨rfl,rfl⟩))
   | (go_at_call 73;first | (refine Qhall.mono ?_;rintro e w1 ⟨rfl,rfl⟩))
   | (go_at_call 75;refine (sp_many _ _).mono ?_;rintro e w1 ⟨rfl,rfl⟩;first | rw [HMt] | rw [HMf] | skip)
   | (go_at_call 72;refine (QB _).mono ?_;rintro e w2 ⟨rfl,k2⟩;have HK2:Hid (Kb 0 _ w2):=k2;clear k2))
  go_ret
  exact ⟨by first | rfl | (simp only [*];rfl) | simp [*],by first | exact kb_alloc _ _ _ | exact (kb_alloc _ _ _).trans (uh HK2)⟩
end Go.Proofs.YtfpidccjcemcjaaGreat.Fo
