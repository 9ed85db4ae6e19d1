import Derived.Test.YtfpidccjcemcjaaGreatMZsq
import Derived.Test.YtfpidccjcemcjaaGreatMNdn
set_option maxHeartbeats 16000000
namespace Go.Proofs.YtfpidccjcemcjaaGreat.Fo
open Go.ChangeShapes Go.WideShapes Go.ChangeAt Go.RowKit
set_option linter.unusedVariables false
set_option maxRecDepth 100000
theorem ex_20 {A : Addr} {n ca t : Nat} {a : Nv} {pr pk : Option Addr} {p cr q ck : Nat} {kdf : Nat → Int} {exf : Nat → Nat → Prop} (w : World) (hx : Nst w A n ca t a pr p cr pk q ck kdf exf) (hk : a.k = 20) :
  Calls Tryz.prog 55 #[.slice (some A) n ca,.int .i64 (t:Int)] w fun e w'=>e = .returned (.bool (dc (q=0∧Br false false false false a p 0)))∧Kb 0 w w':=by
 obtain ⟨d0,d1,d2,d3,d4,d5,d6,d7⟩:=hx.cel
 have hnI:(n:Int)≤1048576:=by have:=hx.hn;omega
 have hpI:(p:Int)≤1048576:=by have:=hx.hp;omega
 have hqN:=hx.hq
 have hqI:(q:Int)≤1048576:=by omega
 have htI:(t:Int) < (n:Int):=by have:=hx.ht;omega
 have Qhall:Calls Tryz.prog 73 #[.slice (some A) n ca,.int .i64 (t:Int),.int .i64 0,.int .i64 (q:Int)] (w.alloc (.cells #[.int .i64 a.k,.int .i64 a.l,.int .i64 a.o,.int .i64 a.m,.float .f64 a.g,.string a.x,.slice pr p cr,.slice pk q ck] 59)) fun e w'=>e = .returned (.bool (dc (exf 0 q)))∧w'=(w.alloc (.cells #[.int .i64 a.k,.int .i64 a.l,.int .i64 a.o,.int .i64 a.m,.float .f64 a.g,.string a.x,.slice pr p cr,.slice pk q ck] 59)):=hx.exp 0 q _ (kb_alloc _ _ _) (by omega) (by omega)
 have QB:=fun W=>sp_bare_z a hx.hg pr p cr pk q ck 0 (by omega) hx.hp W
 unfold ndv at QB
 rw [hk] at d0 QB  Qhall
 have HG:Hid (a.g < 18446744073709551616):=hx.hg
 clear hx
 have hst:=hst0
 have HQ:Hid (q≤1048576):=hqN
 clear hqN
 by_cases hq:q=0
 ·subst hq
  by_cases hb:Br false false false false a p 0
  ·rw [dc_t hb] at QB
   rw [dc_t ⟨rfl,hb⟩]
   go_enter Tryz.func55,Tryz.ntmps55
   go_wp2_with (first
    | (go_at_call 73;first | (refine Qhall.mono ?_;rintro e w1 ⟨rfl,rfl⟩))
    | (go_at_call 75;refine (sp_many _ _).mono ?_;rintro e w1 ⟨rfl,rfl⟩;first | rw [HMt] | rw [HMf] | skip)
    | (go_at_call 72;refine (QB _).mono ?_;rintro e w2 ⟨rfl,k2⟩;have HK2:Hid (Kb 0 _ w2):=k2;clear k2))
   go_ret
   exact ⟨by first | rfl | (simp only [*];rfl) | simp [*],by first | exact kb_alloc _ _ _ | exact (kb_alloc _ _ _).trans (uh HK2)⟩
  ·rw [dc_f hb] at QB
   rw [dc_f (fun g=>(hb) (g.2))]
   go_enter Tryz.func55,Tryz.ntmps55
   go_wp2_with (first
    | (go_at_call 73;first | (refine Qhall.mono ?_;rintro e w1 ⟨rfl,rfl⟩))
    | (go_at_call 75;refine (sp_many _ _).mono ?_;rintro e w1 ⟨rfl,rfl⟩;first | rw [HMt] | rw [HMf] | skip)
    | (go_at_call 72;refine (QB _).mono ?_;rintro e w2 ⟨rfl,k2⟩;have HK2:Hid (Kb 0 _ w2):=k2;clear k2))
   go_ret
   exact ⟨by first | rfl | (simp only [*];rfl) | simp [*],by first | exact kb_alloc _ _ _ | exact (kb_alloc _ _ _).trans (uh HK2)⟩
 ·have gq:((q:Int) == 0)=false:=bne (by omega)
  rw [dc_f (fun g=>(hq) (g.1))]
  go_enter Tryz.func55,Tryz.ntmps55
  go_wp2_with (first
   | (go_at_call 73;first | (refine Qhall.mono ?_;rintro e w1 ⟨rfl,rfl⟩))
   | (go_at_call 75;refine (sp_many _ _).mono ?_;rintro e w1 ⟨rfl,rfl⟩;first | rw [HMt] | rw [HMf] | skip)
   | (go_at_call 72;refine (QB _).mono ?_;rintro e w2 ⟨rfl,k2⟩;have HK2:Hid (Kb 0 _ w2):=k2;clear k2))
  go_ret
  exact ⟨by first | rfl | (simp only [*];rfl) | simp [*],by first | exact kb_alloc _ _ _ | exact (kb_alloc _ _ _).trans (uh HK2)⟩
theorem ex_21 {A : Addr} {n ca t : Nat} {a : Nv} {pr pk : Option Addr} {p cr q ck : Nat} {kdf : Nat → Int} {exf : Nat → Nat → Prop} (w : World) (hx : Nst w A n ca t a pr p cr pk q ck kdf exf) (hk : a.k = 21) :
  Calls Tryz.prog 55 #[.slice (some A) n ca,.int .i64 (t:Int)] w fun e w'=>e = .returned (.bool (dc (q=0∧Br false false false false a p 0)))∧Kb 0 w w':=by
 obtain ⟨d0,d1,d2,d3,d4,d5,d6,d7⟩:=hx.cel
 have hnI:(n:Int)≤1048576:=by have:=hx.hn;omega
 have hpI:(p:Int)≤1048576:=by have:=hx.hp;omega
 have hqN:=hx.hq
 have hqI:(q:Int)≤1048576:=by omega
 have htI:(t:Int) < (n:Int):=by have:=hx.ht;omega
 have Qhall:Calls Tryz.prog 73 #[.slice (some A) n ca,.int .i64 (t:Int),.int .i64 0,.int .i64 (q:Int)] (w.alloc (.cells #[.int .i64 a.k,.int .i64 a.l,.int .i64 a.o,.int .i64 a.m,.float .f64 a.g,.string a.x,.slice pr p cr,.slice pk q ck] 59)) fun e w'=>e = .returned (.bool (dc (exf 0 q)))∧w'=(w.alloc (.cells #[.int .i64 a.k,.int .i64 a.l,.int .i64 a.o,.int .i64 a.m,.float .f64 a.g,.string a.x,.slice pr p cr,.slice pk q ck] 59)):=hx.exp 0 q _ (kb_alloc _ _ _) (by omega) (by omega)
 have QB:=fun W=>sp_bare_z a hx.hg pr p cr pk q ck 0 (by omega) hx.hp W
 unfold ndv at QB
 rw [hk] at d0 QB  Qhall
 have HG:Hid (a.g < 18446744073709551616):=hx.hg
 clear hx
 have hst:=hst0
 have HQ:Hid (q≤1048576):=hqN
 clear hqN
 by_cases hq:q=0
 ·subst hq
  by_cases hb:Br false false false false a p 0
  ·rw [dc_t hb] at QB
   rw [dc_t ⟨rfl,hb⟩]
   go_enter Tryz.func55,Tryz.ntmps55
   go_wp2_with (first
    | (go_at_call 73;first | (refine Qhall.mono ?_;rintro e w1 ⟨rfl,rfl⟩))
    | (go_at_call 75;refine (sp_many _ _).mono ?_;rintro e w1 ⟨rfl,rfl⟩;first | rw [HMt] | rw [HMf] | skip)
    | (go_at_call 72;refine (QB _).mono ?_;rintro e w2 ⟨rfl,k2⟩;have HK2:Hid (Kb 0 _ w2):=k2;clear k2))
   go_ret
   exact ⟨by first | rfl | (simp only [*];rfl) | simp [*],by first | exact kb_alloc _ _ _ | exact (kb_alloc _ _ _).trans (uh HK2)⟩
  ·rw [dc_f hb] at QB
   rw [dc_f (fun g=>(hb) (g.2))]
   go_enter Tryz.func55,Tryz.ntmps55
   go_wp2_with (first
    | (go_at_call 73;first | (refine Qhall.mono ?_;rintro e w1 ⟨rfl,rfl⟩))
    | (go_at_call 75;refine (sp_many _ _).mono ?_;rintro e w1 ⟨rfl,rfl⟩;first | rw [HMt] | rw [HMf] | skip)
    | (go_at_call 72;refine (QB _).mono ?_;rintro e w2 ⟨rfl,k2⟩;have HK2:Hid (Kb 0 _ w2):=k2;clear k2))
   go_ret
   exact ⟨by first | rfl | (simp only [*];rfl) | simp [*],by first | exact kb_alloc _ _ _ | exact (kb_alloc _ _ _).trans (uh HK2)⟩
 ·have gq:((q:Int) == 0)=false:=bne (by omega)
  rw [dc_f (fun g=>(hq) (g.1))]
  go_enter Tryz.func55,Tryz.ntmps55
  go_wp2_with (first
   | (go_at_call 73;first | (refine Qhall.mono ?_;rintro e w1 ⟨rfl,rfl⟩))
   | (go_at_call 75;refine (sp_many _ _).mono ?_;rintro e w1 ⟨rfl,rfl⟩;first | rw [HMt] | rw [HMf] | skip)
   | (go_at_call 72;refine (QB _).mono ?_;rintro e w2 ⟨rfl,k2⟩;have HK2:Hid (Kb 0 _ w2):=k2;clear k2))
  go_ret
  exact ⟨by first | rfl | (simp only [*];rfl) | simp [*],by first | exact kb_alloc _ _ _ | exact (kb_alloc _ _ _).trans (uh HK2)⟩
theorem ex_22 {A : Addr} {n ca t : Nat} {a : Nv} {pr pk : Option Addr} {p cr q ck : Nat} {kdf : Nat → Int} {exf : Nat → Nat → Prop} (w : World) (hx : Nst w A n ca t a pr p cr pk q ck kdf exf) (hk : a.k = 22) :
  Calls Tryz.prog 55 #[.slice (some A) n ca,.int .i64 (t:Int)] w fun e w'=>e = .returned (.bool (dc (q=0∧Br false false false false a p 0)))∧Kb 0 w w':=by
 obtain ⟨d0,d1,d2,d3,d4,d5,d6,d7⟩:=hx.cel
 have hnI:(n:Int)≤1048576:=by have:=hx.hn;omega
 have hpI:(p:Int)≤1048576:=by have:=hx.hp;omega
 have hqN:=hx.hq
 have hqI:(q:Int)≤1048576:=by omega
 have htI:(t:Int) < (n:Int):=by have:=hx.ht;omega
 have Qhall:Calls Tryz.prog 73 #[.slice (some A) n ca,.int .i64 (t:Int),.int .i64 0,.int .i64 (q:Int)] (w.alloc (.cells #[.int .i64 a.k,.int .i64 a.l,.int .i64 a.o,.int .i64 a.m,.float .f64 a.g,.string a.x,.slice pr p cr,.slice pk q ck] 59)) fun e w'=>e = .returned (.bool (dc (exf 0 q)))∧w'=(w.alloc (.cells #[.int .i64 a.k,.int .i64 a.l,.int .i64 a.o,.int .i64 a.m,.float .f64 a.g,.string a.x,.slice pr p cr,.slice pk q ck] 59)):=hx.exp 0 q _ (kb_alloc _ _ _) (by omega) (by omega)
 have QB:=fun W=>sp_bare_z a hx.hg pr p cr pk q ck 0 (by omega) hx.hp W
 unfold ndv at QB
 rw [hk] at d0 QB  Qhall
 have HG:Hid (a.g < 18446744073709551616):=hx.hg
 clear hx
 have hst:=hst0
 have HQ:Hid (q≤1048576):=hqN
 clear hqN
 by_cases hq:q=0
 ·subst hq
  by_cases hb:Br false false false false a p 0
  ·rw [dc_t hb] at QB
   rw [dc_t ⟨rfl,hb⟩]
   go_enter Tryz.func55,Tryz.ntmps55
   go_wp2_with (first
    | (go_at_call 73;first | (refine Qhall.mono ?_;rintro e w1 ⟨rfl,rfl⟩))
    | (go_at_call 75;refine (sp_many _ _).mono ?_;rintro e w1 ⟨rfl,rfl⟩;first | rw [HMt] | rw [HMf] | skip)
    | (go_at_call 72;refine (QB _).mono ?_;rintro e w2 ⟨rfl,k2⟩;have HK2:Hid (Kb 0 _ w2):=k2;clear k2))
   go_ret
   exact ⟨by first | rfl | (simp only [*];rfl) | simp [*],by first | exact kb_alloc _ _ _ | exact (kb_alloc _ _ _).trans (uh HK2)⟩
  ·rw [dc_f hb] at QB
   rw [dc_f (fun g=>(hb) (g.2))]
   go_enter Tryz.func55,Tryz.ntmps55
   go_wp2_with (first
    | (go_at_call 73;first | (refine Qhall.mono ?_;rintro e w1 ⟨rfl,rfl⟩))
    | (go_at_call 75;refine (sp_many _ _).mono ?_;rintro e w1 ⟨rfl,rfl⟩;first | rw [HMt] | rw [HMf] | skip)
    | (go_at_call 72;refine (QB _).mono ?_;rintro e w2 ⟨rfl,k2⟩;have HK2:Hid (Kb 0 _ w2):=k2;clear k2))
   go_ret
   exact ⟨by first | rfl | (simp only [*];rfl) | simp [*],by first | exact kb_alloc _ _ _ | exact (kb_alloc _ _ _).trans (uh HK2)⟩
 ·have gq:((q:Int) == 0)=false:=bne (by omega)
  rw [dc_f (fun g=>(hq) (g.1))]
  go_enter Tryz.func55,Tryz.ntmps55
  go_wp2_with (first
   | (go_at_call 73;first | (refine Qhall.mono ?_;rintro e w1 ⟨rfl,rfl⟩))
   | (go_at_call 75;refine (sp_many _ _).mono ?_;rintro e w1 ⟨rfl,rfl⟩;first | rw [HMt] | rw [HMf] | skip)
   | (go_at_call 72;refine (QB _).mono ?_;rintro e w2 ⟨rfl,k2⟩;have HK2:Hid (Kb 0 _ w2):=k2;clear k2))
  go_ret
  exact ⟨by first | rfl | (simp only [*];rfl) | simp [*],by first | exact kb_alloc _ _ _ | exact (kb_alloc _ _ _).trans (uh HK2)⟩
theorem ex_37 {A : Addr} {n ca t : Nat} {a : Nv} {pr pk : Option Addr} {p cr q ck : Nat} {kdf : Nat → Int} {exf : Nat → Nat → Prop} (w : World) (hx : Nst w A n ca t a pr p cr pk q ck kdf exf) (hk : a.k = 37) :
  Calls Tryz.prog 55 #[.slice (some A) n ca,.int .i64 (t:Int)] w fun e w'=>e = .returned (.bool (dc (q=0∧Br false false false false a p 0)))∧Kb 0 w w':=by
 obtain ⟨d0,d1,d2,d3,d4,d5,d6,d7⟩:=hx.cel
 have hnI:(n:Int)≤1048576:=by have:=hx.hn;omega
 have hpI:(p:Int)≤1048576:=by have:=hx.hp;omega
 have hqN:=hx.hq
 have hqI:(q:Int)≤1048576:=by omega
 have htI:(t:Int) < (n:Int):=by have:=hx.ht;omega
 have Qhall:Calls Tryz.prog 73 #[.slice (some A) n ca,.int .i64 (t:Int),.int .i64 0,.int .i64 (q:Int)] (w.alloc (.cells #[.int .i64 a.k,.int .i64 a.l,.int .i64 a.o,.int .i64 a.m,.float .f64 a.g,.string a.x,.slice pr p cr,.slice pk q ck] 59)) fun e w'=>e = .returned (.bool (dc (exf 0 q)))∧w'=(w.alloc (.cells #[.int .i64 a.k,.int .i64 a.l,.int .i64 a.o,.int .i64 a.m,.float .f64 a.g,.string a.x,.slice pr p cr,.slice pk q ck] 59)):=hx.exp 0 q _ (kb_alloc _ _ _) (by omega) (by omega)
 have QB:=fun W=>sp_bare_z a hx.hg pr p cr pk q ck 0 (by omega) hx.hp W
 unfold ndv at QB
 rw [hk] at d0 QB  Qhall
 have HG:Hid (a.g < 18446744073709551616):=hx.hg
 clear hx
 have hst:=hst0
 have HQ:Hid (q≤1048576):=hqN
 clear hqN
 by_cases hq:q=0
 ·subst hq
  by_cases hb:Br false false false false a p 0
  ·rw [dc_t hb] at QB
   rw [dc_t ⟨rfl,hb⟩]
   go_enter Tryz.func55,Tryz.ntmps55
   go_wp2_with (first
    | (go_at_call 73;first | (refine Qhall.mono ?_;rintro e w1 ⟨rfl,rfl⟩))
    | (go_at_call 75;refine (sp_many _ _).mono ?_;rintro e w1 ⟨rfl,rfl⟩;first | rw [HMt] | rw [HMf] | skip)
    | (go_at_call 72;refine (QB _).mono ?_;rintro e w2 ⟨rfl,k2⟩;have HK2:Hid (Kb 0 _ w2):=k2;clear k2))
   go_ret
   exact ⟨by first | rfl | (simp only [*];rfl) | simp [*],by first | exact kb_alloc _ _ _ | exact (kb_alloc _ _ _).trans (uh HK2)⟩
  ·rw [dc_f hb] at QB
   rw [dc_f (fun g=>(hb) (g.2))]
   go_enter Tryz.func55,Tryz.ntmps55
   go_wp2_with (first
    | (go_at_call 73;first | (refine Qhall.mono ?_;rintro e w1 ⟨rfl,rfl⟩))
    | (go_at_call 75;refine (sp_many _ _).mono ?_;rintro e w1 ⟨rfl,rfl⟩;first | rw [HMt] | rw [HMf] | skip)
    | (go_at_call 72;refine (QB _).mono ?_;rintro e w2 ⟨rfl,k2⟩;have HK2:Hid (Kb 0 _ w2):=k2;clear k2))
   go_ret
   exact ⟨by first | rfl | (simp only [*];rfl) | simp [*],by first | exact kb_alloc _ _ _ | exact (kb_alloc _ _ _).trans (uh HK2)⟩
 ·have gq:((q:Int) == 0)=false:=bne (by omega)
  rw [dc_f (fun g=>(hq) (g.1))]
  go_enter Tryz.func55,Tryz.ntmps55
  go_wp2_with (first
   | (go_at_call 73;first | (refine Qhall.mono ?_;rintro e w1 ⟨rfl,rfl⟩))
   | (go_at_call 75;refine (sp_many _ _).mono ?_;rintro e w1 ⟨rfl,rfl⟩;first | rw [HMt] | rw [HMf] | skip)
   | (go_at_call 72;refine (QB _).mono ?_;rintro e w2 ⟨rfl,k2⟩;have HK2:Hid (Kb 0 _ w2):=k2;clear k2))
  go_ret
  exact ⟨by first | rfl | (simp only [*];rfl) | simp [*],by first | exact kb_alloc _ _ _ | exact (kb_alloc _ _ _).trans (uh HK2)⟩
theorem ex_23 {A : Addr} {n ca t : Nat} {a : Nv} {pr pk : Option Addr} {p cr q ck : Nat} {kdf : Nat → Int} {exf : Nat → Nat → Prop} (w : World) (hx : Nst w A n ca t a pr p cr pk q ck kdf exf) (hk : a.k = 23) :
  Calls Tryz.prog 55 #[.slice (some A) n ca,.int .i64 (t:Int)] w fun e w'=>e = .returned (.bool (dc (q=0∧Br false true false false a p 0)))∧Kb 0 w w':=by
 obtain ⟨d0,d1,d2,d3,d4,d5,d6,d7⟩:=hx.cel
 have hnI:(n:Int)≤1048576:=by have:=hx.hn;omega
 have hpI:(p:Int)≤1048576:=by have:=hx.hp;omega
 have hqN:=hx.hq
 have hqI:(q:Int)≤1048576:=by omega
 have htI:(t:Int) < (n:Int):=by have:=hx.ht;omega
 have Qhall:Calls Tryz.prog 73 #[.slice (some A) n ca,.int .i64 (t:Int),.int .i64 0,.int .i64 (q:Int)] (w.alloc (.cells #[.int .i64 a.k,.int .i64 a.l,.int .i64 a.o,.int .i64 a.m,.float .f64 a.g,.string a.x,.slice pr p cr,.slice pk q ck] 59)) fun e w'=>e = .returned (.bool (dc (exf 0 q)))∧w'=(w.alloc (.cells #[.int .i64 a.k,.int .i64 a.l,.int .i64 a.o,.int .i64 a.m,.float .f64 a.g,.string a.x,.slice pr p cr,.slice pk q ck] 59)):=hx.exp 0 q _ (kb_alloc _ _ _) (by omega) (by omega)
 have QB:=fun W=>sp_bare_m a hx.hg pr p cr pk q ck 0 (by omega) hx.hp W
 unfold ndv at QB
 rw [hk] at d0 QB  Qhall
 have HG:Hid (a.g < 18446744073709551616):=hx.hg
 clear hx
 have hst:=hst0
 have HQ:Hid (q≤1048576):=hqN
 clear hqN
 by_cases hq:q=0
 ·subst hq
  by_cases hb:Br false true false false a p 0
  ·rw [dc_t hb] at QB
   rw [dc_t ⟨rfl,hb⟩]
   go_enter Tryz.func55,Tryz.ntmps55
   go_wp2_with (first
    | (go_at_call 73;first | (refine Qhall.mono ?_;rintro e w1 ⟨rfl,rfl⟩))
    | (go_at_call 75;refine (sp_many _ _).mono ?_;rintro e w1 ⟨rfl,rfl⟩;first | rw [HMt] | rw [HMf] | skip)
    | (go_at_call 72;refine (QB _).mono ?_;rintro e w2 ⟨rfl,k2⟩;have HK2:Hid (Kb 0 _ w2):=k2;clear k2))
   go_ret
   exact ⟨by first | rfl | (simp only [*];rfl) | simp [*],by first | exact kb_alloc _ _ _ | exact (kb_alloc _ _ _).trans (uh HK2)⟩
  ·rw [dc_f hb] at QB
   rw [dc_f (fun g=>(hb) (g.2))]
   go_enter Tryz.func55,Tryz.ntmps55
   go_wp2_with (first
    | (go_at_call 73;first | (refine Qhall.mono ?_;rintro e w1 ⟨rfl,rfl⟩))
    | (go_at_call 75;refine (sp_many _ _).mono ?_;rintro e w1 ⟨rfl,rfl⟩;first | rw [HMt] | rw [HMf] | skip)
    | (go_at_call 72;refine (QB _).mono ?_;rintro e w2 ⟨rfl,k2⟩;have HK2:Hid (Kb 0 _ w2):=k2;clear k2))
   go_ret
   exact ⟨by first | rfl | (simp only [*];rfl) | simp [*],by first | exact kb_alloc _ _ _ | exact (kb_alloc _ _ _).trans (uh HK2)⟩
 ·have gq:((q:Int) == 0)=false:=bne (by omega)
  rw [dc_f (fun g=>(hq) (g.1))]
  go_enter Tryz.func55,Tryz.ntmps55
  go_wp2_with (first
   | (go_at_call 73;first | (refine Qhall.mono ?_;rintro e w1 ⟨rfl,rfl⟩))
   | (go_at_call 75;refine (sp_many _ _).mono ?_;rintro e w1 ⟨rfl,rfl⟩;first | rw [HMt] | rw [HMf] | skip)
   | (go_at_call 72;refine (QB _).mono ?_;rintro e w2 ⟨rfl,k2⟩;have HK2:Hid (Kb 0 _ w2):=k2;clear k2))
  go_ret
  exact ⟨by first | rfl | (simp only [*];rfl) | simp [*],by first | exact kb_alloc _ _ _ | exact (kb_alloc _ _ _).trans (uh HK2)⟩
theorem ex_24 {A : Addr} {n ca t : Nat} {a : Nv} {pr pk : Option Addr} {p cr q ck : Nat} {kdf : Nat → Int} {exf : Nat → Nat → Prop} (w : World) (hx : Nst w A n ca t a pr p cr pk q ck kdf exf) (hk : a.k = 24) :
    Calls Tryz.prog 55 #[.slice (some A) n ca,.int .i64 (t:Int)] w fun e w'=>e = .returned (.bool (dc (q=0∧fn a.g∧Br false false true false a p 0)))∧Kb 0 w w':=by
  obtain ⟨d0,d1,d2,d3,d4,d5,d6,d7⟩:=hx.cel
  have hnI:(n:Int)≤1048576:=by have:=hx.hn;omega
  have hpI:(p:Int)≤1048576:=by have:=hx.hp;omega
  have hqN:=hx.hq
  have hqI:(q:Int)≤1048576:=by omega
  have htI:(t:Int) < (n:Int):=by have:=hx.ht;omega
  have Qhall:Calls Tryz.prog 73 #[.slice (some A) n ca,.int .i64 (t:Int),.int .i64 0,.int .i64 (q:Int)] (w.alloc (.cells #[.int .i64 a.k,.int .i64 a.l,.int .i64 a.o,.int .i64 a.m,.float .f64 a.g,.string a.x,.slice pr p cr,.slice pk q ck] 59)) fun e w'=>e = .returned (.bool (dc (exf 0 q)))∧w'=(w.alloc (.cells #[.int .i64 a.k,.int .i64 a.l,.int .i64 a.o,.int .i64 a.m,.float .f64 a.g,.string a.x,.slice pr p cr,.slice pk q ck] 59)):=hx.exp 0 q _ (kb_alloc _ _ _) (by omega) (by omega)
  have QB:=fun W=>sp_bare_g a hx.hg pr p cr pk q ck 0 (by omega) hx.hp W
  unfold ndv at QB
  rw [hk] at d0 QB  Qhall
  have HG:Hid (a.g < 18446744073709551616):=hx.hg
  clear hx
  have hst:=hst0
  have HQ:Hid (q≤1048576):=hqN
  clear hqN
  by_cases hq:q=0
  · subst hq
    by_cases hf:fn a.g
    · have gf:FloatKind.f64.format.order a.g a.g=some .eq:=hf
      by_cases hb:Br false false true false a p 0
      · rw [dc_t hb] at QB
        rw [dc_t ⟨rfl,hf,hb⟩]
        go_enter Tryz.func55,Tryz.ntmps55
        go_wp2_with (first
          | (go_at_call 73;first | (refine Qhall.mono ?_;rintro e w1 ⟨rfl,rfl⟩))
          | (go_at_call 75;refine (sp_many _ _).mono ?_;rintro e w1 ⟨rfl,rfl⟩;first | rw [HMt] | rw [HMf] | skip)
          | (go_at_call 72;refine (QB _).mono ?_;rintro e w2 ⟨rfl,k2⟩;have HK2:Hid (Kb 0 _ w2):=k2;clear k2))
        go_ret
        exact ⟨by first | rfl | (simp only [*];rfl) | simp [*],by first | exact kb_alloc _ _ _ | exact (kb_alloc _ _ _).trans (uh HK2)⟩
      · rw [dc_f hb] at QB
        rw [dc_f (fun g=>(hb) (g.2.2))]
        go_enter Tryz.func55,Tryz.ntmps55
        go_wp2_with (first
          | (go_at_call 73;first | (refine Qhall.mono ?_;rintro e w1 ⟨rfl,rfl⟩))
          | (go_at_call 75;refine (sp_many _ _).mono ?_;rintro e w1 ⟨rfl,rfl⟩;first | rw [HMt] | rw [HMf] | skip)
          | (go_at_call 72;refine (QB _).mono ?_;rintro e w2 ⟨rfl,k2⟩;have HK2:Hid (Kb 0 _ w2):=k2;clear k2))
        go_ret
        exact ⟨by first | rfl | (simp only [*];rfl) | simp [*],by first | exact kb_alloc _ _ _ | exact (kb_alloc _ _ _).trans (uh HK2)⟩
    · have gf : FloatKind.f64.format.order a.g a.g = none := by
        rcases f_cases a.g (uh HG) with ⟨_,_,h,_⟩ | ⟨_,h,_⟩ | ⟨_,h,_⟩
        · exact h
        · exact absurd h hf
        · exact absurd h hf
      rw [dc_f (fun g=>(hf) (g.2.1))]
      go_enter Tryz.func55,Tryz.ntmps55
      go_wp2_with (first
        | (go_at_call 73;first | (refine Qhall.mono ?_;rintro e w1 ⟨rfl,rfl⟩))
        | (go_at_call 75;refine (sp_many _ _).mono ?_;rintro e w1 ⟨rfl,rfl⟩;first | rw [HMt] | rw [HMf] | skip)
        | (go_at_call 72;refine (QB _).mono ?_;rintro e w2 ⟨rfl,k2⟩;have HK2:Hid (Kb 0 _ w2):=k2;clear k2))
      go_ret
      exact ⟨by first | rfl | (simp only [*];rfl) | simp [*],by first | exact kb_alloc _ _ _ | exact (kb_alloc _ _ _).trans (uh HK2)⟩
  · have gq:((q:Int) == 0)=false:=bne (by omega)
    rw [dc_f (fun g=>(hq) (g.1))]
    go_enter Tryz.func55,Tryz.ntmps55
    go_wp2_with (first
      | (go_at_call 73;first | (refine Qhall.mono ?_;rintro e w1 ⟨rfl,rfl⟩))
      | (go_at_call 75;refine (sp_many _ _).mono ?_;rintro e w1 ⟨rfl,rfl⟩;first | rw [HMt] | rw [HMf] | skip)
      | (go_at_call 72;refine (QB _).mono ?_;rintro e w2 ⟨rfl,k2⟩;have HK2:Hid (Kb 0 _ w2):=k2;clear k2))
    go_ret
    exact ⟨by first | rfl | (simp only [*];rfl) | simp [*],by first | exact kb_alloc _ _ _ | exact (kb_alloc _ _ _).trans (uh HK2)⟩
theorem ex_25 {A : Addr} {n ca t : Nat} {a : Nv} {pr pk : Option Addr} {p cr q ck : Nat} {kdf : Nat → Int} {exf : Nat → Nat → Prop} (w : World) (hx : Nst w A n ca t a pr p cr pk q ck kdf exf) (hk : a.k = 25) :
  Calls Tryz.prog 55 #[.slice (some A) n ca,.int .i64 (t:Int)] w fun e w'=>e = .returned (.bool (dc (q=0∧a.x.size≤4000∧Br false false false true a p 0)))∧Kb 0 w w':=by
 obtain ⟨d0,d1,d2,d3,d4,d5,d6,d7⟩:=hx.cel
 have hnI:(n:Int)≤1048576:=by have:=hx.hn;omega
 have hpI:(p:Int)≤1048576:=by have:=hx.hp;omega
 have hqN:=hx.hq
 have hqI:(q:Int)≤1048576:=by omega
 have htI:(t:Int) < (n:Int):=by have:=hx.ht;omega
 have Qhall:Calls Tryz.prog 73 #[.slice (some A) n ca,.int .i64 (t:Int),.int .i64 0,.int .i64 (q:Int)] (w.alloc (.cells #[.int .i64 a.k,.int .i64 a.l,.int .i64 a.o,.int .i64 a.m,.float .f64 a.g,.string a.x,.slice pr p cr,.slice pk q ck] 59)) fun e w'=>e = .returned (.bool (dc (exf 0 q)))∧w'=(w.alloc (.cells #[.int .i64 a.k,.int .i64 a.l,.int .i64 a.o,.int .i64 a.m,.float .f64 a.g,.string a.x,.slice pr p cr,.slice pk q ck] 59)):=hx.exp 0 q _ (kb_alloc _ _ _) (by omega) (by omega)
 have QB:=fun W=>sp_bare_x a hx.hg pr p cr pk q ck 0 (by omega) hx.hp W
 unfold ndv at QB
 rw [hk] at d0 QB  Qhall
 have HG:Hid (a.g < 18446744073709551616):=hx.hg
 clear hx
 have hst:=hst0
 have HQ:Hid (q≤1048576):=hqN
 clear hqN
 by_cases hq:q=0
 ·subst hq
  by_cases hs:a.x.size≤4000
  ·have gs:(a.x.size:Int)≤4000:=by omega
   by_cases hb:Br false false false true a p 0
   ·rw [dc_t hb] at QB
    rw [dc_t ⟨rfl,hs,hb⟩]
    go_enter Tryz.func55,Tryz.ntmps55
    go_wp2_with (first
     | (go_at_call 73;first | (refine Qhall.mono ?_;rintro e w1 ⟨rfl,rfl⟩))
     | (go_at_call 75;refine (sp_many _ _).mono ?_;rintro e w1 ⟨rfl,rfl⟩;first | rw [HMt] | rw [HMf] | skip)
     | (go_at_call 72;refine (QB _).mono ?_;rintro e w2 ⟨rfl,k2⟩;have HK2:Hid (Kb 0 _ w2):=k2;clear k2))
    go_ret
    exact ⟨by first | rfl | (simp only [*];rfl) | simp [*],by first | exact kb_alloc _ _ _ | exact (kb_alloc _ _ _).trans (uh HK2)⟩
   ·rw [dc_f hb] at QB
    rw [dc_f (fun g=>(hb) (g.2.2))]
    go_enter Tryz.func55,Tryz.ntmps55
    go_wp2_with (first
     | (go_at_call 73;first | (refine Qhall.mono ?_;rintro e w1 ⟨rfl,rfl⟩))
     | (go_at_call 75;refine (sp_many _ _).mono ?_;rintro e w1 ⟨rfl,rfl⟩;first | rw [HMt] | rw [HMf] | skip)
     | (go_at_call 72;refine (QB _).mono ?_;rintro e w2 ⟨rfl,k2⟩;have HK2:Hid (Kb 0 _ w2):=k2;clear k2))
    go_ret
    exact ⟨by first | rfl | (simp only [*];rfl) | simp [*],by first | exact kb_alloc _ _ _ | exact (kb_alloc _ _ _).trans (uh HK2)⟩
  ·have gs:¬ (a.x.size:Int)≤4000:=by omega
   rw [dc_f (fun g=>(hs) (g.2.1))]
   go_enter Tryz.func55,Tryz.ntmps55
   go_wp2_with (first
    | (go_at_call 73;first | (refine Qhall.mono ?_;rintro e w1 ⟨rfl,rfl⟩))
    | (go_at_call 75;refine (sp_many _ _).mono ?_;rintro e w1 ⟨rfl,rfl⟩;first | rw [HMt] | rw [HMf] | skip)
    | (go_at_call 72;refine (QB _).mono ?_;rintro e w2 ⟨rfl,k2⟩;have HK2:Hid (Kb 0 _ w2):=k2;clear k2))
   go_ret
   exact ⟨by first | rfl | (simp only [*];rfl) | simp [*],by first | exact kb_alloc _ _ _ | exact (kb_alloc _ _ _).trans (uh HK2)⟩
 ·have gq:((q:Int) == 0)=false:=bne (by omega)
  rw [dc_f (fun g=>(hq) (g.1))]
  go_enter Tryz.func55,Tryz.ntmps55
  go_wp2_with (first
   | (go_at_call 73;first | (refine Qhall.mono ?_;rintro e w1 ⟨rfl,rfl⟩))
   | (go_at_call 75;refine (sp_many _ _).mono ?_;rintro e w1 ⟨rfl,rfl⟩;first | rw [HMt] | rw [HMf] | skip)
   | (go_at_call 72;refine (QB _).mono ?_;rintro e w2 ⟨rfl,k2⟩;have HK2:Hid (Kb 0 _ w2):=k2;clear k2))
  go_ret
  exact ⟨by first | rfl | (simp only [*];rfl) | simp [*],by first | exact kb_alloc _ _ _ | exact (kb_alloc _ _ _).trans (uh HK2)⟩
end Go.Proofs.YtfpidccjcemcjaaGreat.Fo
