import Derived.Test.YtfpidccjcemcjaaGreatMNbi
set_option maxHeartbeats 16000000
namespace Go.Proofs.YtfpidccjcemcjaaGreat.Fo
open Go.ChangeShapes Go.WideShapes Go.ChangeAt Go.RowKit
set_option linter.unusedVariables false
set_option maxRecDepth 100000
theorem xow_30 (a : Nv) (vr : Value) (hv : ∃ pr p cr, vr = .slice pr p cr) (pk : Option Addr) (q ck : Nat) (hq : (q : Int) ≤ 1048576) (w : World) :
  Calls Tryz.prog 132 #[.agg #[.int .i64 30,.int .i64 a.l,.int .i64 a.o,.int .i64 a.m,.float .f64 a.g,.string a.x,vr,.slice pk q ck]] w fun e w'=>e = .returned (rwv (rwk 30 q))∧Kb 0 w w':=by
 rw [show rwk 30 q=⟨0,0,0,0,0,0,0,0,2,2,false,false⟩ from rfl]
 unfold rwv
 obtain ⟨pr,p,cr,rfl⟩:=hv
 go_enter Tryz.func132,Tryz.ntmps132
 go_wp2_with go_in
 refine bodyPost_ret (by simp [results,Tryz.results132,go_sem];rfl) rfl ?_
 exact ⟨rfl,by repeat (first | exact Kb.refl _ _ | apply Kb.alloc)⟩
theorem xow_31 (a : Nv) (vr : Value) (hv : ∃ pr p cr, vr = .slice pr p cr) (pk : Option Addr) (q ck : Nat) (hq : (q : Int) ≤ 1048576) (w : World) :
  Calls Tryz.prog 132 #[.agg #[.int .i64 31,.int .i64 a.l,.int .i64 a.o,.int .i64 a.m,.float .f64 a.g,.string a.x,vr,.slice pk q ck]] w fun e w'=>e = .returned (rwv (rwk 31 q))∧Kb 0 w w':=by
 rw [show rwk 31 q=⟨0,0,19,22,0,0,0,0,1,1,false,false⟩ from rfl]
 unfold rwv
 obtain ⟨pr,p,cr,rfl⟩:=hv
 go_enter Tryz.func132,Tryz.ntmps132
 go_wp2_with go_in
 refine bodyPost_ret (by simp [results,Tryz.results132,go_sem];rfl) rfl ?_
 exact ⟨rfl,by repeat (first | exact Kb.refl _ _ | apply Kb.alloc)⟩
theorem xow_32 (a : Nv) (vr : Value) (hv : ∃ pr p cr, vr = .slice pr p cr) (pk : Option Addr) (q ck : Nat) (hq : (q : Int) ≤ 1048576) (w : World) :
  Calls Tryz.prog 132 #[.agg #[.int .i64 32,.int .i64 a.l,.int .i64 a.o,.int .i64 a.m,.float .f64 a.g,.string a.x,vr,.slice pk q ck]] w fun e w'=>e = .returned (rwv (rwk 32 q))∧Kb 0 w w':=by
 rw [show rwk 32 q=⟨0,0,1,18,0,0,0,0,2,2,false,false⟩ from rfl]
 unfold rwv
 obtain ⟨pr,p,cr,rfl⟩:=hv
 go_enter Tryz.func132,Tryz.ntmps132
 go_wp2_with go_in
 refine bodyPost_ret (by simp [results,Tryz.results132,go_sem];rfl) rfl ?_
 exact ⟨rfl,by repeat (first | exact Kb.refl _ _ | apply Kb.alloc)⟩
theorem xow_33 (a : Nv) (vr : Value) (hv : ∃ pr p cr, vr = .slice pr p cr) (pk : Option Addr) (q ck : Nat) (hq : (q : Int) ≤ 1048576) (w : World) :
  Calls Tryz.prog 132 #[.agg #[.int .i64 33,.int .i64 a.l,.int .i64 a.o,.int .i64 a.m,.float .f64 a.g,.string a.x,vr,.slice pk q ck]] w fun e w'=>e = .returned (rwv (rwk 33 q))∧Kb 0 w w':=by
 rw [show rwk 33 q=⟨0,0,0,0,0,0,0,0,2,2,false,false⟩ from rfl]
 unfold rwv
 obtain ⟨pr,p,cr,rfl⟩:=hv
 go_enter Tryz.func132,Tryz.ntmps132
 go_wp2_with go_in
 refine bodyPost_ret (by simp [results,Tryz.results132,go_sem];rfl) rfl ?_
 exact ⟨rfl,by repeat (first | exact Kb.refl _ _ | apply Kb.alloc)⟩
theorem xow_34 (a : Nv) (vr : Value) (hv : ∃ pr p cr, vr = .slice pr p cr) (pk : Option Addr) (q ck : Nat) (hq : (q : Int) ≤ 1048576) (w : World) :
  Calls Tryz.prog 132 #[.agg #[.int .i64 34,.int .i64 a.l,.int .i64 a.o,.int .i64 a.m,.float .f64 a.g,.string a.x,vr,.slice pk q ck]] w fun e w'=>e = .returned (rwv (rwk 34 q))∧Kb 0 w w':=by
 rw [show rwk 34 q=⟨0,0,0,0,0,0,0,0,1,200,false,false⟩ from rfl]
 unfold rwv
 obtain ⟨pr,p,cr,rfl⟩:=hv
 go_enter Tryz.func132,Tryz.ntmps132
 go_wp2_with go_in
 refine bodyPost_ret (by simp [results,Tryz.results132,go_sem];rfl) rfl ?_
 exact ⟨rfl,by repeat (first | exact Kb.refl _ _ | apply Kb.alloc)⟩
theorem xow_35 (a : Nv) (vr : Value) (hv : ∃ pr p cr, vr = .slice pr p cr) (pk : Option Addr) (q ck : Nat) (hq : (q : Int) ≤ 1048576) (w : World) :
  Calls Tryz.prog 132 #[.agg #[.int .i64 35,.int .i64 a.l,.int .i64 a.o,.int .i64 a.m,.float .f64 a.g,.string a.x,vr,.slice pk q ck]] w fun e w'=>e = .returned (rwv (rwk 35 q))∧Kb 0 w w':=by
 rw [show rwk 35 q=⟨0,0,0,1,0,0,0,0,0,200,false,false⟩ from rfl]
 unfold rwv
 obtain ⟨pr,p,cr,rfl⟩:=hv
 go_enter Tryz.func132,Tryz.ntmps132
 go_wp2_with go_in
 refine bodyPost_ret (by simp [results,Tryz.results132,go_sem];rfl) rfl ?_
 exact ⟨rfl,by repeat (first | exact Kb.refl _ _ | apply Kb.alloc)⟩
theorem xow_36 (a : Nv) (vr : Value) (hv : ∃ pr p cr, vr = .slice pr p cr) (pk : Option Addr) (q ck : Nat) (hq : (q : Int) ≤ 1048576) (w : World) :
  Calls Tryz.prog 132 #[.agg #[.int .i64 36,.int .i64 a.l,.int .i64 a.o,.int .i64 a.m,.float .f64 a.g,.string a.x,vr,.slice pk q ck]] w fun e w'=>e = .returned (rwv (rwk 36 q))∧Kb 0 w w':=by
 rw [show rwk 36 q=⟨0,0,0,0,0,0,1,1,0,0,false,false⟩ from rfl]
 unfold rwv
 obtain ⟨pr,p,cr,rfl⟩:=hv
 go_enter Tryz.func132,Tryz.ntmps132
 go_wp2_with go_in
 refine bodyPost_ret (by simp [results,Tryz.results132,go_sem];rfl) rfl ?_
 exact ⟨rfl,by repeat (first | exact Kb.refl _ _ | apply Kb.alloc)⟩
theorem xow_37 (a : Nv) (vr : Value) (hv : ∃ pr p cr, vr = .slice pr p cr) (pk : Option Addr) (q ck : Nat) (hq : (q : Int) ≤ 1048576) (w : World) :
  Calls Tryz.prog 132 #[.agg #[.int .i64 37,.int .i64 a.l,.int .i64 a.o,.int .i64 a.m,.float .f64 a.g,.string a.x,vr,.slice pk q ck]] w fun e w'=>e = .returned (rwv (rwk 37 q))∧Kb 0 w w':=by
 rw [show rwk 37 q=⟨0,0,0,0,0,0,0,0,0,0,false,false⟩ from rfl]
 unfold rwv
 obtain ⟨pr,p,cr,rfl⟩:=hv
 go_enter Tryz.func132,Tryz.ntmps132
 go_wp2_with go_in
 refine bodyPost_ret (by simp [results,Tryz.results132,go_sem];rfl) rfl ?_
 exact ⟨rfl,by repeat (first | exact Kb.refl _ _ | apply Kb.alloc)⟩
theorem xow_38 (a : Nv) (vr : Value) (hv : ∃ pr p cr, vr = .slice pr p cr) (pk : Option Addr) (q ck : Nat) (hq : (q : Int) ≤ 1048576) (w : World) :
  Calls Tryz.prog 132 #[.agg #[.int .i64 38,.int .i64 a.l,.int .i64 a.o,.int .i64 a.m,.float .f64 a.g,.string a.x,vr,.slice pk q ck]] w fun e w'=>e = .returned (rwv (rwk 38 q))∧Kb 0 w w':=by
 rw [show rwk 38 q=⟨0,0,0,0,0,0,0,0,1,1,false,false⟩ from rfl]
 unfold rwv
 obtain ⟨pr,p,cr,rfl⟩:=hv
 go_enter Tryz.func132,Tryz.ntmps132
 go_wp2_with go_in
 refine bodyPost_ret (by simp [results,Tryz.results132,go_sem];rfl) rfl ?_
 exact ⟨rfl,by repeat (first | exact Kb.refl _ _ | apply Kb.alloc)⟩
def afl (f:Bool) (g:Nat):Prop:=if f=true then fn g else fz g
def atx (f:Bool) (x:ByteArray):Prop:=if f=true then x.size≤4000 else x=⟨#[]⟩
def alw (r:Rw) (a:Nv) (p q:Nat):Prop:=(r.l1≤a.l∧a.l≤r.l2)∧(r.o1≤a.o∧a.o≤r.o2)∧(r.m1≤a.m∧a.m≤r.m2)∧(r.r1≤(p:Int)∧(p:Int)≤r.r2)∧(r.k1≤(q:Int)∧(q:Int)≤r.k2)∧afl r.f a.g∧atx r.x a.x
theorem alw_00 (l1 l2 o1 o2 m1 m2 r1 r2 k1 k2 : Int) (a : Nv) (hg : a.g < 18446744073709551616) (pr : Option Addr) (p cr : Nat) (pk : Option Addr) (q ck : Nat) (hp : (p : Int) ≤ 1048576) (hq : (q : Int) ≤ 1048576) (w : World) :
  Calls Tryz.prog 95 #[.agg #[.int .i64 l1,.int .i64 l2,.int .i64 o1,.int .i64 o2,.int .i64 m1,.int .i64 m2,.int .i64 r1,.int .i64 r2,.int .i64 k1,.int .i64 k2,.bool false,.bool false],.agg #[.int .i64 a.k,.int .i64 a.l,.int .i64 a.o,.int .i64 a.m,.float .f64 a.g,.string a.x,.slice pr p cr,.slice pk q ck]] w fun e w'=>e = .returned (.bool (dc (alw ⟨l1,l2,o1,o2,m1,m2,r1,r2,k1,k2,false,false⟩ a p q)))∧Kb 0 w w':=by
 unfold alw afl atx
 dsimp only
 have hfc:=f_cases a.g hg
 clear hg
 simp only [Bool.false_eq_true,if_false]
 by_cases h0:l1≤a.l
 ·skip
  by_cases h1:a.l≤l2
  ·skip
   by_cases h2:o1≤a.o
   ·skip
    by_cases h3:a.o≤o2
    ·skip
     by_cases h4:m1≤a.m
     ·skip
      by_cases h5:a.m≤m2
      ·skip
       by_cases h6:r1≤(p:Int)
       ·skip
        by_cases h7:(p:Int)≤r2
        ·skip
         by_cases h8:k1≤(q:Int)
         ·skip
          by_cases h9:(q:Int)≤k2
          ·skip
           rcases hfc with ⟨hf,_,_,gf⟩ | ⟨hf,_,_,gf⟩ | ⟨hf,_,_,gf | gf⟩
           ·skip
            rw [dc_f (fun g=>hf g.2.2.2.2.2.1)]
            go_enter Tryz.func95,Tryz.ntmps95
            go_wp2_with go_in
            go_ret
            exact ⟨by first | rfl | (simp only [*];rfl) | simp [*],by repeat (first | exact Kb.refl _ _ | apply Kb.alloc)⟩
           ·skip
            by_cases hx:a.x=⟨#[]⟩
            ·have gx:=str0 hx
             rw [dc_t ⟨⟨h0,h1⟩,⟨h2,h3⟩,⟨h4,h5⟩,⟨h6,h7⟩,⟨h8,h9⟩,hf,hx⟩]
             clear hx
             go_enter Tryz.func95,Tryz.ntmps95
             go_wp2_with go_in
             go_ret
             exact ⟨by first | rfl | (simp only [*];rfl) | simp [*],by repeat (first | exact Kb.refl _ _ | apply Kb.alloc)⟩
            ·have gx:=str1 hx
             rw [dc_f (fun g=>hx g.2.2.2.2.2.2)]
             clear hx
             go_enter Tryz.func95,Tryz.ntmps95
             go_wp2_with go_in
             go_ret
             exact ⟨by first | rfl | (simp only [*];rfl) | simp [*],by repeat (first | exact Kb.refl _ _ | apply Kb.alloc)⟩
           ·skip
            rw [dc_f (fun g=>hf g.2.2.2.2.2.1)]
            go_enter Tryz.func95,Tryz.ntmps95
            go_wp2_with go_in
            go_ret
            exact ⟨by first | rfl | (simp only [*];rfl) | simp [*],by repeat (first | exact Kb.refl _ _ | apply Kb.alloc)⟩
           ·skip
            rw [dc_f (fun g=>hf g.2.2.2.2.2.1)]
            go_enter Tryz.func95,Tryz.ntmps95
            go_wp2_with go_in
            go_ret
            exact ⟨by first | rfl | (simp only [*];rfl) | simp [*],by repeat (first | exact Kb.refl _ _ | apply Kb.alloc)⟩
          ·skip
           rw [dc_f (fun g=>h9 g.2.2.2.2.1.2)]
           clear hfc
           go_enter Tryz.func95,Tryz.ntmps95
           go_wp2_with go_in
           go_ret
           exact ⟨by first | rfl | (simp only [*];rfl) | simp [*],by repeat (first | exact Kb.refl _ _ | apply Kb.alloc)⟩
         ·skip
          rw [dc_f (fun g=>h8 g.2.2.2.2.1.1)]
          clear hfc
          go_enter Tryz.func95,Tryz.ntmps95
          go_wp2_with go_in
          go_ret
          exact ⟨by first | rfl | (simp only [*];rfl) | simp [*],by repeat (first | exact Kb.refl _ _ | apply Kb.alloc)⟩
        ·skip
         rw [dc_f (fun g=>h7 g.2.2.2.1.2)]
         clear hfc
         go_enter Tryz.func95,Tryz.ntmps95
         go_wp2_with go_in
         go_ret
         exact ⟨by first | rfl | (simp only [*];rfl) | simp [*],by repeat (first | exact Kb.refl _ _ | apply Kb.alloc)⟩
       ·skip
        rw [dc_f (fun g=>h6 g.2.2.2.1.1)]
        clear hfc
        go_enter Tryz.func95,Tryz.ntmps95
        go_wp2_with go_in
        go_ret
        exact ⟨by first | rfl | (simp only [*];rfl) | simp [*],by repeat (first | exact Kb.refl _ _ | apply Kb.alloc)⟩
      ·skip
       rw [dc_f (fun g=>h5 g.2.2.1.2)]
       clear hfc
       go_enter Tryz.func95,Tryz.ntmps95
       go_wp2_with go_in
       go_ret
       exact ⟨by first | rfl | (simp only [*];rfl) | simp [*],by repeat (first | exact Kb.refl _ _ | apply Kb.alloc)⟩
     ·skip
      rw [dc_f (fun g=>h4 g.2.2.1.1)]
      clear hfc
      go_enter Tryz.func95,Tryz.ntmps95
      go_wp2_with go_in
      go_ret
      exact ⟨by first | rfl | (simp only [*];rfl) | simp [*],by repeat (first | exact Kb.refl _ _ | apply Kb.alloc)⟩
    ·skip
     rw [dc_f (fun g=>h3 g.2.1.2)]
     clear hfc
     go_enter Tryz.func95,Tryz.ntmps95
     go_wp2_with go_in
     go_ret
     exact ⟨by first | rfl | (simp only [*];rfl) | simp [*],by repeat (first | exact Kb.refl _ _ | apply Kb.alloc)⟩
   ·skip
    rw [dc_f (fun g=>h2 g.2.1.1)]
    clear hfc
    go_enter Tryz.func95,Tryz.ntmps95
    go_wp2_with go_in
    go_ret
    exact ⟨by first | rfl | (simp only [*];rfl) | simp [*],by repeat (first | exact Kb.refl _ _ | apply Kb.alloc)⟩
  ·skip
   rw [dc_f (fun g=>h1 g.1.2)]
   clear hfc
   go_enter Tryz.func95,Tryz.ntmps95
   go_wp2_with go_in
   go_ret
   exact ⟨by first | rfl | (simp only [*];rfl) | simp [*],by repeat (first | exact Kb.refl _ _ | apply Kb.alloc)⟩
 ·skip
  rw [dc_f (fun g=>h0 g.1.1)]
  clear hfc
  go_enter Tryz.func95,Tryz.ntmps95
  go_wp2_with go_in
  go_ret
  exact ⟨by first | rfl | (simp only [*];rfl) | simp [*],by repeat (first | exact Kb.refl _ _ | apply Kb.alloc)⟩
theorem alw_10 (l1 l2 o1 o2 m1 m2 r1 r2 k1 k2 : Int) (a : Nv) (hg : a.g < 18446744073709551616) (pr : Option Addr) (p cr : Nat) (pk : Option Addr) (q ck : Nat) (hp : (p : Int) ≤ 1048576) (hq : (q : Int) ≤ 1048576) (w : World) :
  Calls Tryz.prog 95 #[.agg #[.int .i64 l1,.int .i64 l2,.int .i64 o1,.int .i64 o2,.int .i64 m1,.int .i64 m2,.int .i64 r1,.int .i64 r2,.int .i64 k1,.int .i64 k2,.bool true,.bool false],.agg #[.int .i64 a.k,.int .i64 a.l,.int .i64 a.o,.int .i64 a.m,.float .f64 a.g,.string a.x,.slice pr p cr,.slice pk q ck]] w fun e w'=>e = .returned (.bool (dc (alw ⟨l1,l2,o1,o2,m1,m2,r1,r2,k1,k2,true,false⟩ a p q)))∧Kb 0 w w':=by
 unfold alw afl atx
 dsimp only
 have hfc:=f_cases a.g hg
 clear hg
 simp only [if_true,Bool.false_eq_true,if_false]
 by_cases h0:l1≤a.l
 ·skip
  by_cases h1:a.l≤l2
  ·skip
   by_cases h2:o1≤a.o
   ·skip
    by_cases h3:a.o≤o2
    ·skip
     by_cases h4:m1≤a.m
     ·skip
      by_cases h5:a.m≤m2
      ·skip
       by_cases h6:r1≤(p:Int)
       ·skip
        by_cases h7:(p:Int)≤r2
        ·skip
         by_cases h8:k1≤(q:Int)
         ·skip
          by_cases h9:(q:Int)≤k2
          ·skip
           rcases hfc with ⟨_,hf,gf,_⟩ | ⟨_,hf,gf,_⟩ | ⟨_,hf,gf,_⟩
           ·skip
            rw [dc_f (fun g=>hf g.2.2.2.2.2.1)]
            go_enter Tryz.func95,Tryz.ntmps95
            go_wp2_with go_in
            go_ret
            exact ⟨by first | rfl | (simp only [*];rfl) | simp [*],by repeat (first | exact Kb.refl _ _ | apply Kb.alloc)⟩
           all_goals
            by_cases hx:a.x=⟨#[]⟩
            ·have gx:=str0 hx
             rw [dc_t ⟨⟨h0,h1⟩,⟨h2,h3⟩,⟨h4,h5⟩,⟨h6,h7⟩,⟨h8,h9⟩,hf,hx⟩]
             clear hx
             go_enter Tryz.func95,Tryz.ntmps95
             go_wp2_with go_in
             go_ret
             exact ⟨by first | rfl | (simp only [*];rfl) | simp [*],by repeat (first | exact Kb.refl _ _ | apply Kb.alloc)⟩
            ·have gx:=str1 hx
             rw [dc_f (fun g=>hx g.2.2.2.2.2.2)]
             clear hx
             go_enter Tryz.func95,Tryz.ntmps95
             go_wp2_with go_in
             go_ret
             exact ⟨by first | rfl | (simp only [*];rfl) | simp [*],by repeat (first | exact Kb.refl _ _ | apply Kb.alloc)⟩
          ·skip
           rw [dc_f (fun g=>h9 g.2.2.2.2.1.2)]
           clear hfc
           go_enter Tryz.func95,Tryz.ntmps95
           go_wp2_with go_in
           go_ret
           exact ⟨by first | rfl | (simp only [*];rfl) | simp [*],by repeat (first | exact Kb.refl _ _ | apply Kb.alloc)⟩
         ·skip
          rw [dc_f (fun g=>h8 g.2.2.2.2.1.1)]
          clear hfc
          go_enter Tryz.func95,Tryz.ntmps95
          go_wp2_with go_in
          go_ret
          exact ⟨by first | rfl | (simp only [*];rfl) | simp [*],by repeat (first | exact Kb.refl _ _ | apply Kb.alloc)⟩
        ·skip
         rw [dc_f (fun g=>h7 g.2.2.2.1.2)]
         clear hfc
         go_enter Tryz.func95,Tryz.ntmps95
         go_wp2_with go_in
         go_ret
         exact ⟨by first | rfl | (simp only [*];rfl) | simp [*],by repeat (first | exact Kb.refl _ _ | apply Kb.alloc)⟩
       ·skip
        rw [dc_f (fun g=>h6 g.2.2.2.1.1)]
        clear hfc
        go_enter Tryz.func95,Tryz.ntmps95
        go_wp2_with go_in
        go_ret
        exact ⟨by first | rfl | (simp only [*];rfl) | simp [*],by repeat (first | exact Kb.refl _ _ | apply Kb.alloc)⟩
      ·skip
       rw [dc_f (fun g=>h5 g.2.2.1.2)]
       clear hfc
       go_enter Tryz.func95,Tryz.ntmps95
       go_wp2_with go_in
       go_ret
       exact ⟨by first | rfl | (simp only [*];rfl) | simp [*],by repeat (first | exact Kb.refl _ _ | apply Kb.alloc)⟩
     ·skip
      rw [dc_f (fun g=>h4 g.2.2.1.1)]
      clear hfc
      go_enter Tryz.func95,Tryz.ntmps95
      go_wp2_with go_in
      go_ret
      exact ⟨by first | rfl | (simp only [*];rfl) | simp [*],by repeat (first | exact Kb.refl _ _ | apply Kb.alloc)⟩
    ·skip
     rw [dc_f (fun g=>h3 g.2.1.2)]
     clear hfc
     go_enter Tryz.func95,Tryz.ntmps95
     go_wp2_with go_in
     go_ret
     exact ⟨by first | rfl | (simp only [*];rfl) | simp [*],by repeat (first | exact Kb.refl _ _ | apply Kb.alloc)⟩
   ·skip
    rw [dc_f (fun g=>h2 g.2.1.1)]
    clear hfc
    go_enter Tryz.func95,Tryz.ntmps95
    go_wp2_with go_in
    go_ret
    exact ⟨by first | rfl | (simp only [*];rfl) | simp [*],by repeat (first | exact Kb.refl _ _ | apply Kb.alloc)⟩
  ·skip
   rw [dc_f (fun g=>h1 g.1.2)]
   clear hfc
   go_enter Tryz.func95,Tryz.ntmps95
   go_wp2_with go_in
   go_ret
   exact ⟨by first | rfl | (simp only [*];rfl) | simp [*],by repeat (first | exact Kb.refl _ _ | apply Kb.alloc)⟩
 ·skip
  rw [dc_f (fun g=>h0 g.1.1)]
  clear hfc
  go_enter Tryz.func95,Tryz.ntmps95
  go_wp2_with go_in
  go_ret
  exact ⟨by first | rfl | (simp only [*];rfl) | simp [*],by repeat (first | exact Kb.refl _ _ | apply Kb.alloc)⟩
theorem alw_01 (l1 l2 o1 o2 m1 m2 r1 r2 k1 k2 : Int) (a : Nv) (hg : a.g < 18446744073709551616) (pr : Option Addr) (p cr : Nat) (pk : Option Addr) (q ck : Nat) (hp : (p : Int) ≤ 1048576) (hq : (q : Int) ≤ 1048576) (w : World) :
  Calls Tryz.prog 95 #[.agg #[.int .i64 l1,.int .i64 l2,.int .i64 o1,.int .i64 o2,.int .i64 m1,.int .i64 m2,.int .i64 r1,.int .i64 r2,.int .i64 k1,.int .i64 k2,.bool false,.bool true],.agg #[.int .i64 a.k,.int .i64 a.l,.int .i64 a.o,.int .i64 a.m,.float .f64 a.g,.string a.x,.slice pr p cr,.slice pk q ck]] w fun e w'=>e = .returned (.bool (dc (alw ⟨l1,l2,o1,o2,m1,m2,r1,r2,k1,k2,false,true⟩ a p q)))∧Kb 0 w w':=by
 unfold alw afl atx
 dsimp only
 have hfc:=f_cases a.g hg
 clear hg
 simp only [if_true,Bool.false_eq_true,if_false]
 by_cases h0:l1≤a.l
 ·skip
  by_cases h1:a.l≤l2
  ·skip
   by_cases h2:o1≤a.o
   ·skip
    by_cases h3:a.o≤o2
    ·skip
     by_cases h4:m1≤a.m
     ·skip
      by_cases h5:a.m≤m2
      ·skip
       by_cases h6:r1≤(p:Int)
       ·skip
        by_cases h7:(p:Int)≤r2
        ·skip
         by_cases h8:k1≤(q:Int)
         ·skip
          by_cases h9:(q:Int)≤k2
          ·skip
           rcases hfc with ⟨hf,_,_,gf⟩ | ⟨hf,_,_,gf⟩ | ⟨hf,_,_,gf | gf⟩
           ·skip
            rw [dc_f (fun g=>hf g.2.2.2.2.2.1)]
            go_enter Tryz.func95,Tryz.ntmps95
            go_wp2_with go_in
            go_ret
            exact ⟨by first | rfl | (simp only [*];rfl) | simp [*],by repeat (first | exact Kb.refl _ _ | apply Kb.alloc)⟩
           ·skip
            by_cases hx:a.x.size≤4000
            ·have gx:(a.x.size:Int)≤4000:=by omega
             rw [dc_t ⟨⟨h0,h1⟩,⟨h2,h3⟩,⟨h4,h5⟩,⟨h6,h7⟩,⟨h8,h9⟩,hf,hx⟩]
             go_enter Tryz.func95,Tryz.ntmps95
             go_wp2_with go_in
             go_ret
             exact ⟨by first | rfl | (simp only [*];rfl) | simp [*],by repeat (first | exact Kb.refl _ _ | apply Kb.alloc)⟩
            ·have gx:¬ (a.x.size:Int)≤4000:=by omega
             rw [dc_f (fun g=>hx g.2.2.2.2.2.2)]
             go_enter Tryz.func95,Tryz.ntmps95
             go_wp2_with go_in
             go_ret
             exact ⟨by first | rfl | (simp only [*];rfl) | simp [*],by repeat (first | exact Kb.refl _ _ | apply Kb.alloc)⟩
           ·skip
            rw [dc_f (fun g=>hf g.2.2.2.2.2.1)]
            go_enter Tryz.func95,Tryz.ntmps95
            go_wp2_with go_in
            go_ret
            exact ⟨by first | rfl | (simp only [*];rfl) | simp [*],by repeat (first | exact Kb.refl _ _ | apply Kb.alloc)⟩
           ·skip
            rw [dc_f (fun g=>hf g.2.2.2.2.2.1)]
            go_enter Tryz.func95,Tryz.ntmps95
            go_wp2_with go_in
            go_ret
            exact ⟨by first | rfl | (simp only [*];rfl) | simp [*],by repeat (first | exact Kb.refl _ _ | apply Kb.alloc)⟩
          ·skip
           rw [dc_f (fun g=>h9 g.2.2.2.2.1.2)]
           clear hfc
           go_enter Tryz.func95,Tryz.ntmps95
           go_wp2_with go_in
           go_ret
           exact ⟨by first | rfl | (simp only [*];rfl) | simp [*],by repeat (first | exact Kb.refl _ _ | apply Kb.alloc)⟩
         ·skip
          rw [dc_f (fun g=>h8 g.2.2.2.2.1.1)]
          clear hfc
          go_enter Tryz.func95,Tryz.ntmps95
          go_wp2_with go_in
          go_ret
          exact ⟨by first | rfl | (simp only [*];rfl) | simp [*],by repeat (first | exact Kb.refl _ _ | apply Kb.alloc)⟩
        ·skip
         rw [dc_f (fun g=>h7 g.2.2.2.1.2)]
         clear hfc
         go_enter Tryz.func95,Tryz.ntmps95
         go_wp2_with go_in
         go_ret
         exact ⟨by first | rfl | (simp only [*];rfl) | simp [*],by repeat (first | exact Kb.refl _ _ | apply Kb.alloc)⟩
       ·skip
        rw [dc_f (fun g=>h6 g.2.2.2.1.1)]
        clear hfc
        go_enter Tryz.func95,Tryz.ntmps95
        go_wp2_with go_in
        go_ret
        exact ⟨by first | rfl | (simp only [*];rfl) | simp [*],by repeat (first | exact Kb.refl _ _ | apply Kb.alloc)⟩
      ·skip
       rw [dc_f (fun g=>h5 g.2.2.1.2)]
       clear hfc
       go_enter Tryz.func95,Tryz.ntmps95
       go_wp2_with go_in
       go_ret
       exact ⟨by first | rfl | (simp only [*];rfl) | simp [*],by repeat (first | exact Kb.refl _ _ | apply Kb.alloc)⟩
     ·skip
      rw [dc_f (fun g=>h4 g.2.2.1.1)]
      clear hfc
      go_enter Tryz.func95,Tryz.ntmps95
      go_wp2_with go_in
      go_ret
      exact ⟨by first | rfl | (simp only [*];rfl) | simp [*],by repeat (first | exact Kb.refl _ _ | apply Kb.alloc)⟩
    ·skip
     rw [dc_f (fun g=>h3 g.2.1.2)]
     clear hfc
     go_enter Tryz.func95,Tryz.ntmps95
     go_wp2_with go_in
     go_ret
     exact ⟨by first | rfl | (simp only [*];rfl) | simp [*],by repeat (first | exact Kb.refl _ _ | apply Kb.alloc)⟩
   ·skip
    rw [dc_f (fun g=>h2 g.2.1.1)]
    clear hfc
    go_enter Tryz.func95,Tryz.ntmps95
    go_wp2_with go_in
    go_ret
    exact ⟨by first | rfl | (simp only [*];rfl) | simp [*],by repeat (first | exact Kb.refl _ _ | apply Kb.alloc)⟩
  ·skip
   rw [dc_f (fun g=>h1 g.1.2)]
   clear hfc
   go_enter Tryz.func95,Tryz.ntmps95
   go_wp2_with go_in
   go_ret
   exact ⟨by first | rfl | (simp only [*];rfl) | simp [*],by repeat (first | exact Kb.refl _ _ | apply Kb.alloc)⟩
 ·skip
  rw [dc_f (fun g=>h0 g.1.1)]
  clear hfc
  go_enter Tryz.func95,Tryz.ntmps95
  go_wp2_with go_in
  go_ret
  exact ⟨by first | rfl | (simp only [*];rfl) | simp [*],by repeat (first | exact Kb.refl _ _ | apply Kb.alloc)⟩
theorem tks_1 (a : Nv) (vr : Value) (hv : ∃ pr p cr, vr = .slice pr p cr) (pk : Option Addr) (q ck i : Nat) (c : Int) (hq : (q : Int) ≤ 1048576) (hi0 : (i : Int) ≤ 1048576) (w : World) :
  Calls Tryz.prog 128 #[.agg #[.int .i64 1,.int .i64 a.l,.int .i64 a.o,.int .i64 a.m,.float .f64 a.g,.string a.x,vr,.slice pk q ck],.int .i64 (i:Int),.int .i64 c] w fun e w'=>e = .returned (.bool (dc (c≤14)))∧Kb 0 w w':=by
 obtain ⟨pr,p,cr,rfl⟩:=hv
 by_cases hs:c≤14
 ·skip
  rw [dc_t (hs)]
  go_enter Tryz.func128,Tryz.ntmps128
  go_wp2_with go_in
  go_ret
  exact ⟨by first | rfl | (simp only [*];rfl) | simp [*],by repeat (first | exact Kb.refl _ _ | apply Kb.alloc)⟩
 ·have hsn:¬ c≤14:=hs
  rw [dc_f (fun g=>(hs) g)]
  go_enter Tryz.func128,Tryz.ntmps128
  go_wp2_with go_in
  go_ret
  exact ⟨by first | rfl | (simp only [*];rfl) | simp [*],by repeat (first | exact Kb.refl _ _ | apply Kb.alloc)⟩
theorem tks_2 (a : Nv) (vr : Value) (hv : ∃ pr p cr, vr = .slice pr p cr) (pk : Option Addr) (q ck i : Nat) (c : Int) (hq : (q : Int) ≤ 1048576) (hi0 : (i : Int) ≤ 1048576) (w : World) :
  Calls Tryz.prog 128 #[.agg #[.int .i64 2,.int .i64 a.l,.int .i64 a.o,.int .i64 a.m,.float .f64 a.g,.string a.x,vr,.slice pk q ck],.int .i64 (i:Int),.int .i64 c] w fun e w'=>e = .returned (.bool (dc (14 < c)))∧Kb 0 w w':=by
 obtain ⟨pr,p,cr,rfl⟩:=hv
 by_cases hs : 14 < c
 ·have hsb:¬ c≤14:=by omega
  rw [dc_t (hs)]
  go_enter Tryz.func128,Tryz.ntmps128
  go_wp2_with go_in
  go_ret
  exact ⟨by first | rfl | (simp only [*];rfl) | simp [*],by repeat (first | exact Kb.refl _ _ | apply Kb.alloc)⟩
 ·have hsb:c≤14:=by omega
  rw [dc_f (fun g=>(hs) g)]
  go_enter Tryz.func128,Tryz.ntmps128
  go_wp2_with go_in
  go_ret
  exact ⟨by first | rfl | (simp only [*];rfl) | simp [*],by repeat (first | exact Kb.refl _ _ | apply Kb.alloc)⟩
theorem tks_3 (a : Nv) (vr : Value) (hv : ∃ pr p cr, vr = .slice pr p cr) (pk : Option Addr) (q ck i : Nat) (c : Int) (hq : (q : Int) ≤ 1048576) (hi0 : (i : Int) ≤ 1048576) (w : World) :
  Calls Tryz.prog 128 #[.agg #[.int .i64 3,.int .i64 a.l,.int .i64 a.o,.int .i64 a.m,.float .f64 a.g,.string a.x,vr,.slice pk q ck],.int .i64 (i:Int),.int .i64 c] w fun e w'=>e = .returned (.bool (dc (((i:Int) < a.m→c=26∨c=27∨c=33)∧(¬ (i:Int) < a.m→14 < c))))∧Kb 0 w w':=by
 obtain ⟨pr,p,cr,rfl⟩:=hv
 by_cases hi:(i:Int) < a.m
 ·skip
  by_cases h1:c=26
  ·have g1:=beq1 h1
   rw [dc_t (⟨fun _=>Or.inl h1,fun z=>absurd hi z⟩)]
   clear h1
   go_enter Tryz.func128,Tryz.ntmps128
   go_wp2_with go_in
   go_ret
   exact ⟨by first | rfl | (simp only [*];rfl) | simp [*],by repeat (first | exact Kb.refl _ _ | apply Kb.alloc)⟩
  ·have g1:=bne h1
   by_cases h2:c=27
   ·have g2:=beq1 h2
    rw [dc_t (⟨fun _=>Or.inr (Or.inl h2),fun z=>absurd hi z⟩)]
    clear h1 h2
    go_enter Tryz.func128,Tryz.ntmps128
    go_wp2_with go_in
    go_ret
    exact ⟨by first | rfl | (simp only [*];rfl) | simp [*],by repeat (first | exact Kb.refl _ _ | apply Kb.alloc)⟩
   ·have g2:=bne h2
    by_cases h3:c=33
    ·have g3:=beq1 h3
     rw [dc_t (⟨fun _=>Or.inr (Or.inr h3),fun z=>absurd hi z⟩)]
     clear h1 h2 h3
     go_enter Tryz.func128,Tryz.ntmps128
     go_wp2_with go_in
     go_ret
     exact ⟨by first | rfl | (simp only [*];rfl) | simp [*],by repeat (first | exact Kb.refl _ _ | apply Kb.alloc)⟩
    ·have g3:=bne h3
     rw [dc_f (fun g=>(fun z=>(z.1 hi).elim h1 (fun z=>z.elim h2 h3)) g)]
     clear h1 h2 h3
     go_enter Tryz.func128,Tryz.ntmps128
     go_wp2_with go_in
     go_ret
     exact ⟨by first | rfl | (simp only [*];rfl) | simp [*],by repeat (first | exact Kb.refl _ _ | apply Kb.alloc)⟩
 ·have hin:¬ (i:Int) < a.m:=hi
  by_cases hs : 14 < c
  ·have hsb:¬ c≤14:=by omega
   rw [dc_t (⟨fun z=>absurd z hi,fun _=>hs⟩)]
   go_enter Tryz.func128,Tryz.ntmps128
   go_wp2_with go_in
   go_ret
   exact ⟨by first | rfl | (simp only [*];rfl) | simp [*],by repeat (first | exact Kb.refl _ _ | apply Kb.alloc)⟩
  ·have hsb:c≤14:=by omega
   rw [dc_f (fun g=>(fun z=>hs (z.2 hi)) g)]
   go_enter Tryz.func128,Tryz.ntmps128
   go_wp2_with go_in
   go_ret
   exact ⟨by first | rfl | (simp only [*];rfl) | simp [*],by repeat (first | exact Kb.refl _ _ | apply Kb.alloc)⟩
theorem tks_4 (a : Nv) (vr : Value) (hv : ∃ pr p cr, vr = .slice pr p cr) (pk : Option Addr) (q ck i : Nat) (c : Int) (hq : (q : Int) ≤ 1048576) (hi0 : (i : Int) ≤ 1048576) (w : World) :
  Calls Tryz.prog 128 #[.agg #[.int .i64 4,.int .i64 a.l,.int .i64 a.o,.int .i64 a.m,.float .f64 a.g,.string a.x,vr,.slice pk q ck],.int .i64 (i:Int),.int .i64 c] w fun e w'=>e = .returned (.bool (dc (c=34)))∧Kb 0 w w':=by
 obtain ⟨pr,p,cr,rfl⟩:=hv
 by_cases hc:c=34
 ·have gc:=beq1 hc
  rw [dc_t (hc)]
  clear hc
  go_enter Tryz.func128,Tryz.ntmps128
  go_wp2_with go_in
  go_ret
  exact ⟨by first | rfl | (simp only [*];rfl) | simp [*],by repeat (first | exact Kb.refl _ _ | apply Kb.alloc)⟩
 ·have gc:=bne hc
  rw [dc_f (fun g=>(hc) g)]
  clear hc
  go_enter Tryz.func128,Tryz.ntmps128
  go_wp2_with go_in
  go_ret
  exact ⟨by first | rfl | (simp only [*];rfl) | simp [*],by repeat (first | exact Kb.refl _ _ | apply Kb.alloc)⟩
theorem tks_5 (a : Nv) (vr : Value) (hv : ∃ pr p cr, vr = .slice pr p cr) (pk : Option Addr) (q ck i : Nat) (c : Int) (hq : (q : Int) ≤ 1048576) (hi0 : (i : Int) ≤ 1048576) (w : World) :
  Calls Tryz.prog 128 #[.agg #[.int .i64 5,.int .i64 a.l,.int .i64 a.o,.int .i64 a.m,.float .f64 a.g,.string a.x,vr,.slice pk q ck],.int .i64 (i:Int),.int .i64 c] w fun e w'=>e = .returned (.bool (dc ((0 < i→c=1∨(i=2∧c=5))∧(¬ 0 < i→14 < c))))∧Kb 0 w w':=by
 obtain ⟨pr,p,cr,rfl⟩:=hv
 by_cases hi : 0 < i
 ·have hiI:(0:Int) < (i:Int):=by omega
  by_cases h1:c=1
  ·have g1:=beq1 h1
   rw [dc_t (⟨fun _=>Or.inl h1,fun z=>absurd hi z⟩)]
   clear h1
   go_enter Tryz.func128,Tryz.ntmps128
   go_wp2_with go_in
   go_ret
   exact ⟨by first | rfl | (simp only [*];rfl) | simp [*],by repeat (first | exact Kb.refl _ _ | apply Kb.alloc)⟩
  ·have g1:=bne h1
   by_cases h2:i=2
   ·subst h2
    by_cases h3:c=5
    ·have g3:=beq1 h3
     rw [dc_t (⟨fun _=>Or.inr ⟨rfl,h3⟩,fun z=>absurd hi z⟩)]
     clear h1 h3
     go_enter Tryz.func128,Tryz.ntmps128
     go_wp2_with go_in
     go_ret
     exact ⟨by first | rfl | (simp only [*];rfl) | simp [*],by repeat (first | exact Kb.refl _ _ | apply Kb.alloc)⟩
    ·have g3:=bne h3
     rw [dc_f (fun g=>(fun z=>(z.1 hi).elim h1 (fun z=>h3 z.2)) g)]
     clear h1 h3
     go_enter Tryz.func128,Tryz.ntmps128
     go_wp2_with go_in
     go_ret
     exact ⟨by first | rfl | (simp only [*];rfl) | simp [*],by repeat (first | exact Kb.refl _ _ | apply Kb.alloc)⟩
   ·have g2:((i:Int) == 2)=false:=bne (by omega)
    rw [dc_f (fun g=>(fun z=>(z.1 hi).elim h1 (fun z=>h2 z.1)) g)]
    clear h1 h2
    go_enter Tryz.func128,Tryz.ntmps128
    go_wp2_with go_in
    go_ret
    exact ⟨by first | rfl | (simp only [*];rfl) | simp [*],by repeat (first | exact Kb.refl _ _ | apply Kb.alloc)⟩
 ·have hiI:¬ (0:Int) < (i:Int):=by omega
  by_cases hs : 14 < c
  ·have hsb:¬ c≤14:=by omega
   rw [dc_t (⟨fun z=>absurd z hi,fun _=>hs⟩)]
   go_enter Tryz.func128,Tryz.ntmps128
   go_wp2_with go_in
   go_ret
   exact ⟨by first | rfl | (simp only [*];rfl) | simp [*],by repeat (first | exact Kb.refl _ _ | apply Kb.alloc)⟩
  ·have hsb:c≤14:=by omega
   rw [dc_f (fun g=>(fun z=>hs (z.2 hi)) g)]
   go_enter Tryz.func128,Tryz.ntmps128
   go_wp2_with go_in
   go_ret
   exact ⟨by first | rfl | (simp only [*];rfl) | simp [*],by repeat (first | exact Kb.refl _ _ | apply Kb.alloc)⟩
theorem tks_6 (a : Nv) (vr : Value) (hv : ∃ pr p cr, vr = .slice pr p cr) (pk : Option Addr) (q ck i : Nat) (c : Int) (hq : (q : Int) ≤ 1048576) (hi0 : (i : Int) ≤ 1048576) (w : World) :
  Calls Tryz.prog 128 #[.agg #[.int .i64 6,.int .i64 a.l,.int .i64 a.o,.int .i64 a.m,.float .f64 a.g,.string a.x,vr,.slice pk q ck],.int .i64 (i:Int),.int .i64 c] w fun e w'=>e = .returned (.bool (dc ((i+1=q→c=1)∧(¬ i+1=q→14 < c))))∧Kb 0 w w':=by
 obtain ⟨pr,p,cr,rfl⟩:=hv
 by_cases hi:i+1=q
 ·have hiI:((i:Int) == (q:Int) - 1)=true:=beq1 (by omega)
  by_cases h1:c=1
  ·have g1:=beq1 h1
   rw [dc_t (⟨fun _=>h1,fun z=>absurd hi z⟩)]
   clear h1
   go_enter Tryz.func128,Tryz.ntmps128
   go_wp2_with go_in
   go_ret
   exact ⟨by first | rfl | (simp only [*];rfl) | simp [*],by repeat (first | exact Kb.refl _ _ | apply Kb.alloc)⟩
  ·have g1:=bne h1
   rw [dc_f (fun g=>(fun z=>h1 (z.1 hi)) g)]
   clear h1
   go_enter Tryz.func128,Tryz.ntmps128
   go_wp2_with go_in
   go_ret
   exact ⟨by first | rfl | (simp only [*];rfl) | simp [*],by repeat (first | exact Kb.refl _ _ | apply Kb.alloc)⟩
 ·have hiI:((i:Int) == (q:Int) - 1)=false:=bne (by omega)
  by_cases hs : 14 < c
  ·have hsb:¬ c≤14:=by omega
   rw [dc_t (⟨fun z=>absurd z hi,fun _=>hs⟩)]
   go_enter Tryz.func128,Tryz.ntmps128
   go_wp2_with go_in
   go_ret
   exact ⟨by first | rfl | (simp only [*];rfl) | simp [*],by repeat (first | exact Kb.refl _ _ | apply Kb.alloc)⟩
  ·have hsb:c≤14:=by omega
   rw [dc_f (fun g=>(fun z=>hs (z.2 hi)) g)]
   go_enter Tryz.func128,Tryz.ntmps128
   go_wp2_with go_in
   go_ret
   exact ⟨by first | rfl | (simp only [*];rfl) | simp [*],by repeat (first | exact Kb.refl _ _ | apply Kb.alloc)⟩
theorem tks_7 (a : Nv) (vr : Value) (hv : ∃ pr p cr, vr = .slice pr p cr) (pk : Option Addr) (q ck i : Nat) (c : Int) (hq : (q : Int) ≤ 1048576) (hi0 : (i : Int) ≤ 1048576) (w : World) :
  Calls Tryz.prog 128 #[.agg #[.int .i64 7,.int .i64 a.l,.int .i64 a.o,.int .i64 a.m,.float .f64 a.g,.string a.x,vr,.slice pk q ck],.int .i64 (i:Int),.int .i64 c] w fun e w'=>e = .returned (.bool (dc ((i+1=q→c=1)∧(¬ i+1=q→14 < c))))∧Kb 0 w w':=by
 obtain ⟨pr,p,cr,rfl⟩:=hv
 by_cases hi:i+1=q
 ·have hiI:((i:Int) == (q:Int) - 1)=true:=beq1 (by omega)
  by_cases h1:c=1
  ·have g1:=beq1 h1
   rw [dc_t (⟨fun _=>h1,fun z=>absurd hi z⟩)]
   clear h1
   go_enter Tryz.func128,Tryz.ntmps128
   go_wp2_with go_in
   go_ret
   exact ⟨by first | rfl | (simp only [*];rfl) | simp [*],by repeat (first | exact Kb.refl _ _ | apply Kb.alloc)⟩
  ·have g1:=bne h1
   rw [dc_f (fun g=>(fun z=>h1 (z.1 hi)) g)]
   clear h1
   go_enter Tryz.func128,Tryz.ntmps128
   go_wp2_with go_in
   go_ret
   exact ⟨by first | rfl | (simp only [*];rfl) | simp [*],by repeat (first | exact Kb.refl _ _ | apply Kb.alloc)⟩
 ·have hiI:((i:Int) == (q:Int) - 1)=false:=bne (by omega)
  by_cases hs : 14 < c
  ·have hsb:¬ c≤14:=by omega
   rw [dc_t (⟨fun z=>absurd z hi,fun _=>hs⟩)]
   go_enter Tryz.func128,Tryz.ntmps128
   go_wp2_with go_in
   go_ret
   exact ⟨by first | rfl | (simp only [*];rfl) | simp [*],by repeat (first | exact Kb.refl _ _ | apply Kb.alloc)⟩
  ·have hsb:c≤14:=by omega
   rw [dc_f (fun g=>(fun z=>hs (z.2 hi)) g)]
   go_enter Tryz.func128,Tryz.ntmps128
   go_wp2_with go_in
   go_ret
   exact ⟨by first | rfl | (simp only [*];rfl) | simp [*],by repeat (first | exact Kb.refl _ _ | apply Kb.alloc)⟩
theorem tks_8 (a : Nv) (vr : Value) (hv : ∃ pr p cr, vr = .slice pr p cr) (pk : Option Addr) (q ck i : Nat) (c : Int) (hq : (q : Int) ≤ 1048576) (hi0 : (i : Int) ≤ 1048576) (w : World) :
  Calls Tryz.prog 128 #[.agg #[.int .i64 8,.int .i64 a.l,.int .i64 a.o,.int .i64 a.m,.float .f64 a.g,.string a.x,vr,.slice pk q ck],.int .i64 (i:Int),.int .i64 c] w fun e w'=>e = .returned (.bool (dc ((i+1=q→c=1)∧(¬ i+1=q→14 < c))))∧Kb 0 w w':=by
 obtain ⟨pr,p,cr,rfl⟩:=hv
 by_cases hi:i+1=q
 ·have hiI:((i:Int) == (q:Int) - 1)=true:=beq1 (by omega)
  by_cases h1:c=1
  ·have g1:=beq1 h1
   rw [dc_t (⟨fun _=>h1,fun z=>absurd hi z⟩)]
   clear h1
   go_enter Tryz.func128,Tryz.ntmps128
   go_wp2_with go_in
   go_ret
   exact ⟨by first | rfl | (simp only [*];rfl) | simp [*],by repeat (first | exact Kb.refl _ _ | apply Kb.alloc)⟩
  ·have g1:=bne h1
   rw [dc_f (fun g=>(fun z=>h1 (z.1 hi)) g)]
   clear h1
   go_enter Tryz.func128,Tryz.ntmps128
   go_wp2_with go_in
   go_ret
   exact ⟨by first | rfl | (simp only [*];rfl) | simp [*],by repeat (first | exact Kb.refl _ _ | apply Kb.alloc)⟩
 ·have hiI:((i:Int) == (q:Int) - 1)=false:=bne (by omega)
  by_cases hs : 14 < c
  ·have hsb:¬ c≤14:=by omega
   rw [dc_t (⟨fun z=>absurd z hi,fun _=>hs⟩)]
   go_enter Tryz.func128,Tryz.ntmps128
   go_wp2_with go_in
   go_ret
   exact ⟨by first | rfl | (simp only [*];rfl) | simp [*],by repeat (first | exact Kb.refl _ _ | apply Kb.alloc)⟩
  ·have hsb:c≤14:=by omega
   rw [dc_f (fun g=>(fun z=>hs (z.2 hi)) g)]
   go_enter Tryz.func128,Tryz.ntmps128
   go_wp2_with go_in
   go_ret
   exact ⟨by first | rfl | (simp only [*];rfl) | simp [*],by repeat (first | exact Kb.refl _ _ | apply Kb.alloc)⟩
theorem tks_9 (a : Nv) (vr : Value) (hv : ∃ pr p cr, vr = .slice pr p cr) (pk : Option Addr) (q ck i : Nat) (c : Int) (hq : (q : Int) ≤ 1048576) (hi0 : (i : Int) ≤ 1048576) (w : World) :
  Calls Tryz.prog 128 #[.agg #[.int .i64 9,.int .i64 a.l,.int .i64 a.o,.int .i64 a.m,.float .f64 a.g,.string a.x,vr,.slice pk q ck],.int .i64 (i:Int),.int .i64 c] w fun e w'=>e = .returned (.bool (dc (14 < c)))∧Kb 0 w w':=by
 obtain ⟨pr,p,cr,rfl⟩:=hv
 by_cases hs : 14 < c
 ·have hsb:¬ c≤14:=by omega
  rw [dc_t (hs)]
  go_enter Tryz.func128,Tryz.ntmps128
  go_wp2_with go_in
  go_ret
  exact ⟨by first | rfl | (simp only [*];rfl) | simp [*],by repeat (first | exact Kb.refl _ _ | apply Kb.alloc)⟩
 ·have hsb:c≤14:=by omega
  rw [dc_f (fun g=>(hs) g)]
  go_enter Tryz.func128,Tryz.ntmps128
  go_wp2_with go_in
  go_ret
  exact ⟨by first | rfl | (simp only [*];rfl) | simp [*],by repeat (first | exact Kb.refl _ _ | apply Kb.alloc)⟩
theorem tks_10 (a : Nv) (vr : Value) (hv : ∃ pr p cr, vr = .slice pr p cr) (pk : Option Addr) (q ck i : Nat) (c : Int) (hq : (q : Int) ≤ 1048576) (hi0 : (i : Int) ≤ 1048576) (w : World) :
  Calls Tryz.prog 128 #[.agg #[.int .i64 10,.int .i64 a.l,.int .i64 a.o,.int .i64 a.m,.float .f64 a.g,.string a.x,vr,.slice pk q ck],.int .i64 (i:Int),.int .i64 c] w fun e w'=>e = .returned (.bool (dc (14 < c)))∧Kb 0 w w':=by
 obtain ⟨pr,p,cr,rfl⟩:=hv
 by_cases hs : 14 < c
 ·have hsb:¬ c≤14:=by omega
  rw [dc_t (hs)]
  go_enter Tryz.func128,Tryz.ntmps128
  go_wp2_with go_in
  go_ret
  exact ⟨by first | rfl | (simp only [*];rfl) | simp [*],by repeat (first | exact Kb.refl _ _ | apply Kb.alloc)⟩
 ·have hsb:c≤14:=by omega
  rw [dc_f (fun g=>(hs) g)]
  go_enter Tryz.func128,Tryz.ntmps128
  go_wp2_with go_in
  go_ret
  exact ⟨by first | rfl | (simp only [*];rfl) | simp [*],by repeat (first | exact Kb.refl _ _ | apply Kb.alloc)⟩
theorem tks_11 (a : Nv) (vr : Value) (hv : ∃ pr p cr, vr = .slice pr p cr) (pk : Option Addr) (q ck i : Nat) (c : Int) (hq : (q : Int) ≤ 1048576) (hi0 : (i : Int) ≤ 1048576) (w : World) :
  Calls Tryz.prog 128 #[.agg #[.int .i64 11,.int .i64 a.l,.int .i64 a.o,.int .i64 a.m,.float .f64 a.g,.string a.x,vr,.slice pk q ck],.int .i64 (i:Int),.int .i64 c] w fun e w'=>e = .returned (.bool (dc (14 < c)))∧Kb 0 w w':=by
 obtain ⟨pr,p,cr,rfl⟩:=hv
 by_cases hs : 14 < c
 ·have hsb:¬ c≤14:=by omega
  rw [dc_t (hs)]
  go_enter Tryz.func128,Tryz.ntmps128
  go_wp2_with go_in
  go_ret
  exact ⟨by first | rfl | (simp only [*];rfl) | simp [*],by repeat (first | exact Kb.refl _ _ | apply Kb.alloc)⟩
 ·have hsb:c≤14:=by omega
  rw [dc_f (fun g=>(hs) g)]
  go_enter Tryz.func128,Tryz.ntmps128
  go_wp2_with go_in
  go_ret
  exact ⟨by first | rfl | (simp only [*];rfl) | simp [*],by repeat (first | exact Kb.refl _ _ | apply Kb.alloc)⟩
theorem tks_12 (a : Nv) (vr : Value) (hv : ∃ pr p cr, vr = .slice pr p cr) (pk : Option Addr) (q ck i : Nat) (c : Int) (hq : (q : Int) ≤ 1048576) (hi0 : (i : Int) ≤ 1048576) (w : World) :
  Calls Tryz.prog 128 #[.agg #[.int .i64 12,.int .i64 a.l,.int .i64 a.o,.int .i64 a.m,.float .f64 a.g,.string a.x,vr,.slice pk q ck],.int .i64 (i:Int),.int .i64 c] w fun e w'=>e = .returned (.bool (dc (c=1)))∧Kb 0 w w':=by
 obtain ⟨pr,p,cr,rfl⟩:=hv
 by_cases hc:c=1
 ·have gc:=beq1 hc
  rw [dc_t (hc)]
  clear hc
  go_enter Tryz.func128,Tryz.ntmps128
  go_wp2_with go_in
  go_ret
  exact ⟨by first | rfl | (simp only [*];rfl) | simp [*],by repeat (first | exact Kb.refl _ _ | apply Kb.alloc)⟩
 ·have gc:=bne hc
  rw [dc_f (fun g=>(hc) g)]
  clear hc
  go_enter Tryz.func128,Tryz.ntmps128
  go_wp2_with go_in
  go_ret
  exact ⟨by first | rfl | (simp only [*];rfl) | simp [*],by repeat (first | exact Kb.refl _ _ | apply Kb.alloc)⟩
theorem tks_13 (a : Nv) (vr : Value) (hv : ∃ pr p cr, vr = .slice pr p cr) (pk : Option Addr) (q ck i : Nat) (c : Int) (hq : (q : Int) ≤ 1048576) (hi0 : (i : Int) ≤ 1048576) (w : World) :
  Calls Tryz.prog 128 #[.agg #[.int .i64 13,.int .i64 a.l,.int .i64 a.o,.int .i64 a.m,.float .f64 a.g,.string a.x,vr,.slice pk q ck],.int .i64 (i:Int),.int .i64 c] w fun e w'=>e = .returned (.bool (dc (14 < c)))∧Kb 0 w w':=by
 obtain ⟨pr,p,cr,rfl⟩:=hv
 by_cases hs : 14 < c
 ·have hsb:¬ c≤14:=by omega
  rw [dc_t (hs)]
  go_enter Tryz.func128,Tryz.ntmps128
  go_wp2_with go_in
  go_ret
  exact ⟨by first | rfl | (simp only [*];rfl) | simp [*],by repeat (first | exact Kb.refl _ _ | apply Kb.alloc)⟩
 ·have hsb:c≤14:=by omega
  rw [dc_f (fun g=>(hs) g)]
  go_enter Tryz.func128,Tryz.ntmps128
  go_wp2_with go_in
  go_ret
  exact ⟨by first | rfl | (simp only [*];rfl) | simp [*],by repeat (first | exact Kb.refl _ _ | apply Kb.alloc)⟩
theorem tks_14 (a : Nv) (vr : Value) (hv : ∃ pr p cr, vr = .slice pr p cr) (pk : Option Addr) (q ck i : Nat) (c : Int) (hq : (q : Int) ≤ 1048576) (hi0 : (i : Int) ≤ 1048576) (w : World) :
  Calls Tryz.prog 128 #[.agg #[.int .i64 14,.int .i64 a.l,.int .i64 a.o,.int .i64 a.m,.float .f64 a.g,.string a.x,vr,.slice pk q ck],.int .i64 (i:Int),.int .i64 c] w fun e w'=>e = .returned (.bool (dc (c=34)))∧Kb 0 w w':=by
 obtain ⟨pr,p,cr,rfl⟩:=hv
 by_cases hc:c=34
 ·have gc:=beq1 hc
  rw [dc_t (hc)]
  clear hc
  go_enter Tryz.func128,Tryz.ntmps128
  go_wp2_with go_in
  go_ret
  exact ⟨by first | rfl | (simp only [*];rfl) | simp [*],by repeat (first | exact Kb.refl _ _ | apply Kb.alloc)⟩
 ·have gc:=bne hc
  rw [dc_f (fun g=>(hc) g)]
  clear hc
  go_enter Tryz.func128,Tryz.ntmps128
  go_wp2_with go_in
  go_ret
  exact ⟨by first | rfl | (simp only [*];rfl) | simp [*],by repeat (first | exact Kb.refl _ _ | apply Kb.alloc)⟩
end Go.Proofs.YtfpidccjcemcjaaGreat.Fo
