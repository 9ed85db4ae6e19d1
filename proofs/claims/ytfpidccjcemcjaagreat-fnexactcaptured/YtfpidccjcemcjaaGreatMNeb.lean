import Derived.Test.YtfpidccjcemcjaaGreatMNdr
set_option maxHeartbeats 16000000
namespace Go.Proofs.YtfpidccjcemcjaaGreat.Fo
open Go.ChangeShapes Go.WideShapes Go.ChangeAt Go.RowKit
set_option linter.unusedVariables false
set_option maxRecDepth 100000
theorem im_head {A : Addr} {nf ca f B : Nat} {d : Fd} {pv pu pn : Option Addr} {cv cu cn : Nat} (w : World) (hf : f < nf) (hnf : nf ≤ 1048576) (hb : w.cell? ⟨B, 0, none⟩ = some (.slice (some A) nf ca)) (hcel : CelF w (A.add (f * 7)) d (.slice pv d.p cv) (.slice pu d.u cu) (.slice pn d.n cn))
  (hvr:RowV w (.slice pv d.p cv) d.p (fun i=>.string (d.V i))) (hp:d.p≤1048576) (hu:d.u≤1048576) (hn:d.n≤1048576) :
  Calls Tryz.prog 60 #[.pointer (some ⟨B,0,none⟩),.int .i64 (f:Int)] w fun e w'=>e = .returned (.int .i64 (if dc (Hd f d)=true then -1 else 0))∧Kb 0 w w':=by
 obtain ⟨d0,d1,d2,d3,d4,d5,d6⟩:=hcel
 have hfI:(f:Int) < (nf:Int):=by omega
 have hnfI:(nf:Int)≤1048576:=by omega
 have hpI:(d.p:Int)≤1048576:=by omega
 have huI:(d.u:Int)≤1048576:=by omega
 have hnI:(d.n:Int)≤1048576:=by omega
 have QC:=im_contains (w.alloc (.cells #[.string d.x,.int .i64 d.l,.int .i64 d.m,.bool d.r,.slice pv d.p cv,.slice pu d.u cu,.slice pn d.n cn] 48)) ((hvr.rowB.keep (kb_alloc _ _ _)).row) hp
 clear hvr hp hu hn
 unfold Hd
 by_cases h0 : 0 < d.n
 ·have g0:(0:Int) < (d.n:Int):=by omega
  by_cases h1:d.p≤200
  ·have g1:(d.p:Int)≤200:=by omega
   by_cases h2:d.u≤200
   ·have g2:(d.u:Int)≤200:=by omega
    by_cases h3 : 0≤d.m
    ·skip
     by_cases h4:d.m≤(d.p:Int)
     ·skip
      by_cases h5 : 0≤d.l
      ·skip
       by_cases h6:d.l≤100000
       ·skip
        by_cases h7:d.x.size≤40
        ·have g7:(d.x.size:Int)≤40:=by omega
         by_cases h8:∀ j,j < d.p→vnm (d.V j)
         ·rw [dc_f (not_not_intro h8)] at QC
          by_cases h9 : 0 < f
          ·have g9:(0:Int) < (f:Int):=by omega
           rw [dc_t ⟨h0,h1,h2,h3,h4,h5,h6,h7,h8,fun e=>by omega⟩,if_pos rfl]
           clear h8
           go_enter Tryz.func60,Tryz.ntmps60
           go_wp2_with (first | (go_at_call 79;refine QC.mono ?_;rintro e w1 ⟨rfl,rfl⟩))
           all_goals
            go_ret
            exact ⟨rfl,kb_alloc _ _ _⟩
          ·have g9:¬ (0:Int) < (f:Int):=by omega
           have hf0:f=0:=by omega
           by_cases ha:d.m=0
           ·have ga:=beq1 ha
            by_cases hc:d.u=0
            ·have gc:((d.u:Int) == 0)=true:=beq1 (by omega)
             rw [dc_t ⟨h0,h1,h2,h3,h4,h5,h6,h7,h8,fun _=>⟨ha,hc⟩⟩,if_pos rfl]
             clear h8 ha hc hf0 h9
             go_enter Tryz.func60,Tryz.ntmps60
             go_wp2_with (first | (go_at_call 79;refine QC.mono ?_;rintro e w1 ⟨rfl,rfl⟩))
             all_goals
              go_ret
              exact ⟨rfl,kb_alloc _ _ _⟩
            ·have gc:((d.u:Int) == 0)=false:=bne (by omega)
             rw [dc_f (fun g=>hc (g.2.2.2.2.2.2.2.2.2 hf0).2)]
             rw [if_neg (by simp)]
             clear h8 ha hc hf0 h9
             go_enter Tryz.func60,Tryz.ntmps60
             go_wp2_with (first | (go_at_call 79;refine QC.mono ?_;rintro e w1 ⟨rfl,rfl⟩))
             all_goals
              go_ret
              exact ⟨rfl,kb_alloc _ _ _⟩
           ·have ga:=bne ha
            rw [dc_f (fun g=>ha (g.2.2.2.2.2.2.2.2.2 hf0).1)]
            rw [if_neg (by simp)]
            clear h8 ha hf0 h9
            go_enter Tryz.func60,Tryz.ntmps60
            go_wp2_with (first | (go_at_call 79;refine QC.mono ?_;rintro e w1 ⟨rfl,rfl⟩))
            all_goals
             go_ret
             exact ⟨rfl,kb_alloc _ _ _⟩
         ·rw [dc_t h8] at QC
          rw [dc_f (fun g=>(h8) (g.2.2.2.2.2.2.2.2.1))]
          rw [if_neg (by simp)]
          go_enter Tryz.func60,Tryz.ntmps60
          go_wp2_with (first | (go_at_call 79;refine QC.mono ?_;rintro e w1 ⟨rfl,rfl⟩))
          all_goals
           go_ret
           exact ⟨rfl,kb_alloc _ _ _⟩
        ·have g7:¬ (d.x.size:Int)≤40:=by omega
         rw [dc_f (fun g=>(h7) (g.2.2.2.2.2.2.2.1))]
         rw [if_neg (by simp)]
         go_enter Tryz.func60,Tryz.ntmps60
         go_wp2_with (first | (go_at_call 79;refine QC.mono ?_;rintro e w1 ⟨rfl,rfl⟩))
         all_goals
          go_ret
          exact ⟨rfl,kb_alloc _ _ _⟩
       ·have g6:¬ d.l≤100000:=h6
        rw [dc_f (fun g=>(h6) (g.2.2.2.2.2.2.1))]
        rw [if_neg (by simp)]
        go_enter Tryz.func60,Tryz.ntmps60
        go_wp2_with (first | (go_at_call 79;refine QC.mono ?_;rintro e w1 ⟨rfl,rfl⟩))
        all_goals
         go_ret
         exact ⟨rfl,kb_alloc _ _ _⟩
      ·have g5:¬ 0≤d.l:=h5
       rw [dc_f (fun g=>(h5) (g.2.2.2.2.2.1))]
       rw [if_neg (by simp)]
       go_enter Tryz.func60,Tryz.ntmps60
       go_wp2_with (first | (go_at_call 79;refine QC.mono ?_;rintro e w1 ⟨rfl,rfl⟩))
       all_goals
        go_ret
        exact ⟨rfl,kb_alloc _ _ _⟩
     ·have g4:¬ d.m≤(d.p:Int):=h4
      rw [dc_f (fun g=>(h4) (g.2.2.2.2.1))]
      rw [if_neg (by simp)]
      go_enter Tryz.func60,Tryz.ntmps60
      go_wp2_with (first | (go_at_call 79;refine QC.mono ?_;rintro e w1 ⟨rfl,rfl⟩))
      all_goals
       go_ret
       exact ⟨rfl,kb_alloc _ _ _⟩
    ·have g3:¬ 0≤d.m:=h3
     rw [dc_f (fun g=>(h3) (g.2.2.2.1))]
     rw [if_neg (by simp)]
     go_enter Tryz.func60,Tryz.ntmps60
     go_wp2_with (first | (go_at_call 79;refine QC.mono ?_;rintro e w1 ⟨rfl,rfl⟩))
     all_goals
      go_ret
      exact ⟨rfl,kb_alloc _ _ _⟩
   ·have g2:¬ (d.u:Int)≤200:=by omega
    rw [dc_f (fun g=>(h2) (g.2.2.1))]
    rw [if_neg (by simp)]
    go_enter Tryz.func60,Tryz.ntmps60
    go_wp2_with (first | (go_at_call 79;refine QC.mono ?_;rintro e w1 ⟨rfl,rfl⟩))
    all_goals
     go_ret
     exact ⟨rfl,kb_alloc _ _ _⟩
  ·have g1:¬ (d.p:Int)≤200:=by omega
   rw [dc_f (fun g=>(h1) (g.2.1))]
   rw [if_neg (by simp)]
   go_enter Tryz.func60,Tryz.ntmps60
   go_wp2_with (first | (go_at_call 79;refine QC.mono ?_;rintro e w1 ⟨rfl,rfl⟩))
   all_goals
    go_ret
    exact ⟨rfl,kb_alloc _ _ _⟩
 ·have g0:¬ (0:Int) < (d.n:Int):=by omega
  rw [dc_f (fun g=>(h0) (g.1))]
  rw [if_neg (by simp)]
  go_enter Tryz.func60,Tryz.ntmps60
  go_wp2_with (first | (go_at_call 79;refine QC.mono ?_;rintro e w1 ⟨rfl,rfl⟩))
  all_goals
   go_ret
   exact ⟨rfl,kb_alloc _ _ _⟩
end Go.Proofs.YtfpidccjcemcjaaGreat.Fo
