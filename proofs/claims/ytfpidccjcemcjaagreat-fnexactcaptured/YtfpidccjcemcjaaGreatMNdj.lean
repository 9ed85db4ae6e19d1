import Derived.Test.YtfpidccjcemcjaaGreatMNbi
set_option maxHeartbeats 8000000
namespace Go.Proofs.YtfpidccjcemcjaaGreat.Fo
open Go.ChangeShapes Go.WideShapes Go.ChangeAt Go.RowKit
set_option linter.unusedVariables false
set_option maxRecDepth 100000
theorem tkx_20 (a : Nv) (vr : Value) (hv : ∃ pr p cr, vr = .slice pr p cr) (pk : Option Addr) (q ck i : Nat) (c : Int) (hq : (q : Int) ≤ 1048576) (hi0 : (i : Int) ≤ 1048576) (w : World) :
  Calls Tryz.prog 133 #[.agg #[.int .i64 20,.int .i64 a.l,.int .i64 a.o,.int .i64 a.m,.float .f64 a.g,.string a.x,vr,.slice pk q ck],.int .i64 (i:Int),.int .i64 c] w fun e w'=>e = .returned (.bool (dc (14 < c)))∧Kb 0 w w':=by
 obtain ⟨pr,p,cr,rfl⟩:=hv
 by_cases hs : 14 < c
 ·have hsb:¬ c≤14:=by omega
  rw [dc_t (hs)]
  go_enter Tryz.func133,Tryz.ntmps133
  go_wp2_with go_in
  go_ret
  exact ⟨by first | rfl | (simp only [*];rfl) | simp [*],by repeat (first | exact Kb.refl _ _ | apply Kb.alloc)⟩
 ·have hsb:c≤14:=by omega
  rw [dc_f (fun g=>(hs) g)]
  go_enter Tryz.func133,Tryz.ntmps133
  go_wp2_with go_in
  go_ret
  exact ⟨by first | rfl | (simp only [*];rfl) | simp [*],by repeat (first | exact Kb.refl _ _ | apply Kb.alloc)⟩
theorem tkx_21 (a : Nv) (vr : Value) (hv : ∃ pr p cr, vr = .slice pr p cr) (pk : Option Addr) (q ck i : Nat) (c : Int) (hq : (q : Int) ≤ 1048576) (hi0 : (i : Int) ≤ 1048576) (w : World) :
  Calls Tryz.prog 133 #[.agg #[.int .i64 21,.int .i64 a.l,.int .i64 a.o,.int .i64 a.m,.float .f64 a.g,.string a.x,vr,.slice pk q ck],.int .i64 (i:Int),.int .i64 c] w fun e w'=>e = .returned (.bool (dc (14 < c)))∧Kb 0 w w':=by
 obtain ⟨pr,p,cr,rfl⟩:=hv
 by_cases hs : 14 < c
 ·have hsb:¬ c≤14:=by omega
  rw [dc_t (hs)]
  go_enter Tryz.func133,Tryz.ntmps133
  go_wp2_with go_in
  go_ret
  exact ⟨by first | rfl | (simp only [*];rfl) | simp [*],by repeat (first | exact Kb.refl _ _ | apply Kb.alloc)⟩
 ·have hsb:c≤14:=by omega
  rw [dc_f (fun g=>(hs) g)]
  go_enter Tryz.func133,Tryz.ntmps133
  go_wp2_with go_in
  go_ret
  exact ⟨by first | rfl | (simp only [*];rfl) | simp [*],by repeat (first | exact Kb.refl _ _ | apply Kb.alloc)⟩
theorem tkx_22 (a : Nv) (vr : Value) (hv : ∃ pr p cr, vr = .slice pr p cr) (pk : Option Addr) (q ck i : Nat) (c : Int) (hq : (q : Int) ≤ 1048576) (hi0 : (i : Int) ≤ 1048576) (w : World) :
  Calls Tryz.prog 133 #[.agg #[.int .i64 22,.int .i64 a.l,.int .i64 a.o,.int .i64 a.m,.float .f64 a.g,.string a.x,vr,.slice pk q ck],.int .i64 (i:Int),.int .i64 c] w fun e w'=>e = .returned (.bool (dc (14 < c)))∧Kb 0 w w':=by
 obtain ⟨pr,p,cr,rfl⟩:=hv
 by_cases hs : 14 < c
 ·have hsb:¬ c≤14:=by omega
  rw [dc_t (hs)]
  go_enter Tryz.func133,Tryz.ntmps133
  go_wp2_with go_in
  go_ret
  exact ⟨by first | rfl | (simp only [*];rfl) | simp [*],by repeat (first | exact Kb.refl _ _ | apply Kb.alloc)⟩
 ·have hsb:c≤14:=by omega
  rw [dc_f (fun g=>(hs) g)]
  go_enter Tryz.func133,Tryz.ntmps133
  go_wp2_with go_in
  go_ret
  exact ⟨by first | rfl | (simp only [*];rfl) | simp [*],by repeat (first | exact Kb.refl _ _ | apply Kb.alloc)⟩
theorem tkx_23 (a : Nv) (vr : Value) (hv : ∃ pr p cr, vr = .slice pr p cr) (pk : Option Addr) (q ck i : Nat) (c : Int) (hq : (q : Int) ≤ 1048576) (hi0 : (i : Int) ≤ 1048576) (w : World) :
  Calls Tryz.prog 133 #[.agg #[.int .i64 23,.int .i64 a.l,.int .i64 a.o,.int .i64 a.m,.float .f64 a.g,.string a.x,vr,.slice pk q ck],.int .i64 (i:Int),.int .i64 c] w fun e w'=>e = .returned (.bool (dc (14 < c)))∧Kb 0 w w':=by
 obtain ⟨pr,p,cr,rfl⟩:=hv
 by_cases hs : 14 < c
 ·have hsb:¬ c≤14:=by omega
  rw [dc_t (hs)]
  go_enter Tryz.func133,Tryz.ntmps133
  go_wp2_with go_in
  go_ret
  exact ⟨by first | rfl | (simp only [*];rfl) | simp [*],by repeat (first | exact Kb.refl _ _ | apply Kb.alloc)⟩
 ·have hsb:c≤14:=by omega
  rw [dc_f (fun g=>(hs) g)]
  go_enter Tryz.func133,Tryz.ntmps133
  go_wp2_with go_in
  go_ret
  exact ⟨by first | rfl | (simp only [*];rfl) | simp [*],by repeat (first | exact Kb.refl _ _ | apply Kb.alloc)⟩
theorem tkx_24 (a : Nv) (vr : Value) (hv : ∃ pr p cr, vr = .slice pr p cr) (pk : Option Addr) (q ck i : Nat) (c : Int) (hq : (q : Int) ≤ 1048576) (hi0 : (i : Int) ≤ 1048576) (w : World) :
  Calls Tryz.prog 133 #[.agg #[.int .i64 24,.int .i64 a.l,.int .i64 a.o,.int .i64 a.m,.float .f64 a.g,.string a.x,vr,.slice pk q ck],.int .i64 (i:Int),.int .i64 c] w fun e w'=>e = .returned (.bool (dc (14 < c)))∧Kb 0 w w':=by
 obtain ⟨pr,p,cr,rfl⟩:=hv
 by_cases hs : 14 < c
 ·have hsb:¬ c≤14:=by omega
  rw [dc_t (hs)]
  go_enter Tryz.func133,Tryz.ntmps133
  go_wp2_with go_in
  go_ret
  exact ⟨by first | rfl | (simp only [*];rfl) | simp [*],by repeat (first | exact Kb.refl _ _ | apply Kb.alloc)⟩
 ·have hsb:c≤14:=by omega
  rw [dc_f (fun g=>(hs) g)]
  go_enter Tryz.func133,Tryz.ntmps133
  go_wp2_with go_in
  go_ret
  exact ⟨by first | rfl | (simp only [*];rfl) | simp [*],by repeat (first | exact Kb.refl _ _ | apply Kb.alloc)⟩
theorem tkx_25 (a : Nv) (vr : Value) (hv : ∃ pr p cr, vr = .slice pr p cr) (pk : Option Addr) (q ck i : Nat) (c : Int) (hq : (q : Int) ≤ 1048576) (hi0 : (i : Int) ≤ 1048576) (w : World) :
  Calls Tryz.prog 133 #[.agg #[.int .i64 25,.int .i64 a.l,.int .i64 a.o,.int .i64 a.m,.float .f64 a.g,.string a.x,vr,.slice pk q ck],.int .i64 (i:Int),.int .i64 c] w fun e w'=>e = .returned (.bool (dc (14 < c)))∧Kb 0 w w':=by
 obtain ⟨pr,p,cr,rfl⟩:=hv
 by_cases hs : 14 < c
 ·have hsb:¬ c≤14:=by omega
  rw [dc_t (hs)]
  go_enter Tryz.func133,Tryz.ntmps133
  go_wp2_with go_in
  go_ret
  exact ⟨by first | rfl | (simp only [*];rfl) | simp [*],by repeat (first | exact Kb.refl _ _ | apply Kb.alloc)⟩
 ·have hsb:c≤14:=by omega
  rw [dc_f (fun g=>(hs) g)]
  go_enter Tryz.func133,Tryz.ntmps133
  go_wp2_with go_in
  go_ret
  exact ⟨by first | rfl | (simp only [*];rfl) | simp [*],by repeat (first | exact Kb.refl _ _ | apply Kb.alloc)⟩
theorem tkx_26 (a : Nv) (vr : Value) (hv : ∃ pr p cr, vr = .slice pr p cr) (pk : Option Addr) (q ck i : Nat) (c : Int) (hq : (q : Int) ≤ 1048576) (hi0 : (i : Int) ≤ 1048576) (w : World) :
  Calls Tryz.prog 133 #[.agg #[.int .i64 26,.int .i64 a.l,.int .i64 a.o,.int .i64 a.m,.float .f64 a.g,.string a.x,vr,.slice pk q ck],.int .i64 (i:Int),.int .i64 c] w fun e w'=>e = .returned (.bool (dc (14 < c)))∧Kb 0 w w':=by
 obtain ⟨pr,p,cr,rfl⟩:=hv
 by_cases hs : 14 < c
 ·have hsb:¬ c≤14:=by omega
  rw [dc_t (hs)]
  go_enter Tryz.func133,Tryz.ntmps133
  go_wp2_with go_in
  go_ret
  exact ⟨by first | rfl | (simp only [*];rfl) | simp [*],by repeat (first | exact Kb.refl _ _ | apply Kb.alloc)⟩
 ·have hsb:c≤14:=by omega
  rw [dc_f (fun g=>(hs) g)]
  go_enter Tryz.func133,Tryz.ntmps133
  go_wp2_with go_in
  go_ret
  exact ⟨by first | rfl | (simp only [*];rfl) | simp [*],by repeat (first | exact Kb.refl _ _ | apply Kb.alloc)⟩
theorem tkx_27 (a : Nv) (vr : Value) (hv : ∃ pr p cr, vr = .slice pr p cr) (pk : Option Addr) (q ck i : Nat) (c : Int) (hq : (q : Int) ≤ 1048576) (hi0 : (i : Int) ≤ 1048576) (w : World) :
  Calls Tryz.prog 133 #[.agg #[.int .i64 27,.int .i64 a.l,.int .i64 a.o,.int .i64 a.m,.float .f64 a.g,.string a.x,vr,.slice pk q ck],.int .i64 (i:Int),.int .i64 c] w fun e w'=>e = .returned (.bool (dc (14 < c)))∧Kb 0 w w':=by
 obtain ⟨pr,p,cr,rfl⟩:=hv
 by_cases hs : 14 < c
 ·have hsb:¬ c≤14:=by omega
  rw [dc_t (hs)]
  go_enter Tryz.func133,Tryz.ntmps133
  go_wp2_with go_in
  go_ret
  exact ⟨by first | rfl | (simp only [*];rfl) | simp [*],by repeat (first | exact Kb.refl _ _ | apply Kb.alloc)⟩
 ·have hsb:c≤14:=by omega
  rw [dc_f (fun g=>(hs) g)]
  go_enter Tryz.func133,Tryz.ntmps133
  go_wp2_with go_in
  go_ret
  exact ⟨by first | rfl | (simp only [*];rfl) | simp [*],by repeat (first | exact Kb.refl _ _ | apply Kb.alloc)⟩
theorem tkx_28 (a : Nv) (vr : Value) (hv : ∃ pr p cr, vr = .slice pr p cr) (pk : Option Addr) (q ck i : Nat) (c : Int) (hq : (q : Int) ≤ 1048576) (hi0 : (i : Int) ≤ 1048576) (w : World) :
  Calls Tryz.prog 133 #[.agg #[.int .i64 28,.int .i64 a.l,.int .i64 a.o,.int .i64 a.m,.float .f64 a.g,.string a.x,vr,.slice pk q ck],.int .i64 (i:Int),.int .i64 c] w fun e w'=>e = .returned (.bool (dc (14 < c)))∧Kb 0 w w':=by
 obtain ⟨pr,p,cr,rfl⟩:=hv
 by_cases hs : 14 < c
 ·have hsb:¬ c≤14:=by omega
  rw [dc_t (hs)]
  go_enter Tryz.func133,Tryz.ntmps133
  go_wp2_with go_in
  go_ret
  exact ⟨by first | rfl | (simp only [*];rfl) | simp [*],by repeat (first | exact Kb.refl _ _ | apply Kb.alloc)⟩
 ·have hsb:c≤14:=by omega
  rw [dc_f (fun g=>(hs) g)]
  go_enter Tryz.func133,Tryz.ntmps133
  go_wp2_with go_in
  go_ret
  exact ⟨by first | rfl | (simp only [*];rfl) | simp [*],by repeat (first | exact Kb.refl _ _ | apply Kb.alloc)⟩
theorem tkx_29 (a : Nv) (vr : Value) (hv : ∃ pr p cr, vr = .slice pr p cr) (pk : Option Addr) (q ck i : Nat) (c : Int) (hq : (q : Int) ≤ 1048576) (hi0 : (i : Int) ≤ 1048576) (w : World) :
  Calls Tryz.prog 133 #[.agg #[.int .i64 29,.int .i64 a.l,.int .i64 a.o,.int .i64 a.m,.float .f64 a.g,.string a.x,vr,.slice pk q ck],.int .i64 (i:Int),.int .i64 c] w fun e w'=>e = .returned (.bool (dc (14 < c)))∧Kb 0 w w':=by
 obtain ⟨pr,p,cr,rfl⟩:=hv
 by_cases hs : 14 < c
 ·have hsb:¬ c≤14:=by omega
  rw [dc_t (hs)]
  go_enter Tryz.func133,Tryz.ntmps133
  go_wp2_with go_in
  go_ret
  exact ⟨by first | rfl | (simp only [*];rfl) | simp [*],by repeat (first | exact Kb.refl _ _ | apply Kb.alloc)⟩
 ·have hsb:c≤14:=by omega
  rw [dc_f (fun g=>(hs) g)]
  go_enter Tryz.func133,Tryz.ntmps133
  go_wp2_with go_in
  go_ret
  exact ⟨by first | rfl | (simp only [*];rfl) | simp [*],by repeat (first | exact Kb.refl _ _ | apply Kb.alloc)⟩
theorem tkx_30 (a : Nv) (vr : Value) (hv : ∃ pr p cr, vr = .slice pr p cr) (pk : Option Addr) (q ck i : Nat) (c : Int) (hq : (q : Int) ≤ 1048576) (hi0 : (i : Int) ≤ 1048576) (w : World) :
  Calls Tryz.prog 133 #[.agg #[.int .i64 30,.int .i64 a.l,.int .i64 a.o,.int .i64 a.m,.float .f64 a.g,.string a.x,vr,.slice pk q ck],.int .i64 (i:Int),.int .i64 c] w fun e w'=>e = .returned (.bool (dc (14 < c)))∧Kb 0 w w':=by
 obtain ⟨pr,p,cr,rfl⟩:=hv
 by_cases hs : 14 < c
 ·have hsb:¬ c≤14:=by omega
  rw [dc_t (hs)]
  go_enter Tryz.func133,Tryz.ntmps133
  go_wp2_with go_in
  go_ret
  exact ⟨by first | rfl | (simp only [*];rfl) | simp [*],by repeat (first | exact Kb.refl _ _ | apply Kb.alloc)⟩
 ·have hsb:c≤14:=by omega
  rw [dc_f (fun g=>(hs) g)]
  go_enter Tryz.func133,Tryz.ntmps133
  go_wp2_with go_in
  go_ret
  exact ⟨by first | rfl | (simp only [*];rfl) | simp [*],by repeat (first | exact Kb.refl _ _ | apply Kb.alloc)⟩
theorem tkx_31 (a : Nv) (vr : Value) (hv : ∃ pr p cr, vr = .slice pr p cr) (pk : Option Addr) (q ck i : Nat) (c : Int) (hq : (q : Int) ≤ 1048576) (hi0 : (i : Int) ≤ 1048576) (w : World) :
  Calls Tryz.prog 133 #[.agg #[.int .i64 31,.int .i64 a.l,.int .i64 a.o,.int .i64 a.m,.float .f64 a.g,.string a.x,vr,.slice pk q ck],.int .i64 (i:Int),.int .i64 c] w fun e w'=>e = .returned (.bool (dc (14 < c)))∧Kb 0 w w':=by
 obtain ⟨pr,p,cr,rfl⟩:=hv
 by_cases hs : 14 < c
 ·have hsb:¬ c≤14:=by omega
  rw [dc_t (hs)]
  go_enter Tryz.func133,Tryz.ntmps133
  go_wp2_with go_in
  go_ret
  exact ⟨by first | rfl | (simp only [*];rfl) | simp [*],by repeat (first | exact Kb.refl _ _ | apply Kb.alloc)⟩
 ·have hsb:c≤14:=by omega
  rw [dc_f (fun g=>(hs) g)]
  go_enter Tryz.func133,Tryz.ntmps133
  go_wp2_with go_in
  go_ret
  exact ⟨by first | rfl | (simp only [*];rfl) | simp [*],by repeat (first | exact Kb.refl _ _ | apply Kb.alloc)⟩
theorem tkx_32 (a : Nv) (vr : Value) (hv : ∃ pr p cr, vr = .slice pr p cr) (pk : Option Addr) (q ck i : Nat) (c : Int) (hq : (q : Int) ≤ 1048576) (hi0 : (i : Int) ≤ 1048576) (w : World) :
  Calls Tryz.prog 133 #[.agg #[.int .i64 32,.int .i64 a.l,.int .i64 a.o,.int .i64 a.m,.float .f64 a.g,.string a.x,vr,.slice pk q ck],.int .i64 (i:Int),.int .i64 c] w fun e w'=>e = .returned (.bool (dc (14 < c)))∧Kb 0 w w':=by
 obtain ⟨pr,p,cr,rfl⟩:=hv
 by_cases hs : 14 < c
 ·have hsb:¬ c≤14:=by omega
  rw [dc_t (hs)]
  go_enter Tryz.func133,Tryz.ntmps133
  go_wp2_with go_in
  go_ret
  exact ⟨by first | rfl | (simp only [*];rfl) | simp [*],by repeat (first | exact Kb.refl _ _ | apply Kb.alloc)⟩
 ·have hsb:c≤14:=by omega
  rw [dc_f (fun g=>(hs) g)]
  go_enter Tryz.func133,Tryz.ntmps133
  go_wp2_with go_in
  go_ret
  exact ⟨by first | rfl | (simp only [*];rfl) | simp [*],by repeat (first | exact Kb.refl _ _ | apply Kb.alloc)⟩
theorem tkx_33 (a : Nv) (vr : Value) (hv : ∃ pr p cr, vr = .slice pr p cr) (pk : Option Addr) (q ck i : Nat) (c : Int) (hq : (q : Int) ≤ 1048576) (hi0 : (i : Int) ≤ 1048576) (w : World) :
  Calls Tryz.prog 133 #[.agg #[.int .i64 33,.int .i64 a.l,.int .i64 a.o,.int .i64 a.m,.float .f64 a.g,.string a.x,vr,.slice pk q ck],.int .i64 (i:Int),.int .i64 c] w fun e w'=>e = .returned (.bool (dc (14 < c)))∧Kb 0 w w':=by
 obtain ⟨pr,p,cr,rfl⟩:=hv
 by_cases hs : 14 < c
 ·have hsb:¬ c≤14:=by omega
  rw [dc_t (hs)]
  go_enter Tryz.func133,Tryz.ntmps133
  go_wp2_with go_in
  go_ret
  exact ⟨by first | rfl | (simp only [*];rfl) | simp [*],by repeat (first | exact Kb.refl _ _ | apply Kb.alloc)⟩
 ·have hsb:c≤14:=by omega
  rw [dc_f (fun g=>(hs) g)]
  go_enter Tryz.func133,Tryz.ntmps133
  go_wp2_with go_in
  go_ret
  exact ⟨by first | rfl | (simp only [*];rfl) | simp [*],by repeat (first | exact Kb.refl _ _ | apply Kb.alloc)⟩
theorem tkx_34 (a : Nv) (vr : Value) (hv : ∃ pr p cr, vr = .slice pr p cr) (pk : Option Addr) (q ck i : Nat) (c : Int) (hq : (q : Int) ≤ 1048576) (hi0 : (i : Int) ≤ 1048576) (w : World) :
  Calls Tryz.prog 133 #[.agg #[.int .i64 34,.int .i64 a.l,.int .i64 a.o,.int .i64 a.m,.float .f64 a.g,.string a.x,vr,.slice pk q ck],.int .i64 (i:Int),.int .i64 c] w fun e w'=>e = .returned (.bool (dc (14 < c)))∧Kb 0 w w':=by
 obtain ⟨pr,p,cr,rfl⟩:=hv
 by_cases hs : 14 < c
 ·have hsb:¬ c≤14:=by omega
  rw [dc_t (hs)]
  go_enter Tryz.func133,Tryz.ntmps133
  go_wp2_with go_in
  go_ret
  exact ⟨by first | rfl | (simp only [*];rfl) | simp [*],by repeat (first | exact Kb.refl _ _ | apply Kb.alloc)⟩
 ·have hsb:c≤14:=by omega
  rw [dc_f (fun g=>(hs) g)]
  go_enter Tryz.func133,Tryz.ntmps133
  go_wp2_with go_in
  go_ret
  exact ⟨by first | rfl | (simp only [*];rfl) | simp [*],by repeat (first | exact Kb.refl _ _ | apply Kb.alloc)⟩
theorem tkx_35 (a : Nv) (vr : Value) (hv : ∃ pr p cr, vr = .slice pr p cr) (pk : Option Addr) (q ck i : Nat) (c : Int) (hq : (q : Int) ≤ 1048576) (hi0 : (i : Int) ≤ 1048576) (w : World) :
  Calls Tryz.prog 133 #[.agg #[.int .i64 35,.int .i64 a.l,.int .i64 a.o,.int .i64 a.m,.float .f64 a.g,.string a.x,vr,.slice pk q ck],.int .i64 (i:Int),.int .i64 c] w fun e w'=>e = .returned (.bool (dc (14 < c)))∧Kb 0 w w':=by
 obtain ⟨pr,p,cr,rfl⟩:=hv
 by_cases hs : 14 < c
 ·have hsb:¬ c≤14:=by omega
  rw [dc_t (hs)]
  go_enter Tryz.func133,Tryz.ntmps133
  go_wp2_with go_in
  go_ret
  exact ⟨by first | rfl | (simp only [*];rfl) | simp [*],by repeat (first | exact Kb.refl _ _ | apply Kb.alloc)⟩
 ·have hsb:c≤14:=by omega
  rw [dc_f (fun g=>(hs) g)]
  go_enter Tryz.func133,Tryz.ntmps133
  go_wp2_with go_in
  go_ret
  exact ⟨by first | rfl | (simp only [*];rfl) | simp [*],by repeat (first | exact Kb.refl _ _ | apply Kb.alloc)⟩
theorem tkx_36 (a : Nv) (vr : Value) (hv : ∃ pr p cr, vr = .slice pr p cr) (pk : Option Addr) (q ck i : Nat) (c : Int) (hq : (q : Int) ≤ 1048576) (hi0 : (i : Int) ≤ 1048576) (w : World) :
  Calls Tryz.prog 133 #[.agg #[.int .i64 36,.int .i64 a.l,.int .i64 a.o,.int .i64 a.m,.float .f64 a.g,.string a.x,vr,.slice pk q ck],.int .i64 (i:Int),.int .i64 c] w fun e w'=>e = .returned (.bool (dc (14 < c)))∧Kb 0 w w':=by
 obtain ⟨pr,p,cr,rfl⟩:=hv
 by_cases hs : 14 < c
 ·have hsb:¬ c≤14:=by omega
  rw [dc_t (hs)]
  go_enter Tryz.func133,Tryz.ntmps133
  go_wp2_with go_in
  go_ret
  exact ⟨by first | rfl | (simp only [*];rfl) | simp [*],by repeat (first | exact Kb.refl _ _ | apply Kb.alloc)⟩
 ·have hsb:c≤14:=by omega
  rw [dc_f (fun g=>(hs) g)]
  go_enter Tryz.func133,Tryz.ntmps133
  go_wp2_with go_in
  go_ret
  exact ⟨by first | rfl | (simp only [*];rfl) | simp [*],by repeat (first | exact Kb.refl _ _ | apply Kb.alloc)⟩
theorem tkx_37 (a : Nv) (vr : Value) (hv : ∃ pr p cr, vr = .slice pr p cr) (pk : Option Addr) (q ck i : Nat) (c : Int) (hq : (q : Int) ≤ 1048576) (hi0 : (i : Int) ≤ 1048576) (w : World) :
  Calls Tryz.prog 133 #[.agg #[.int .i64 37,.int .i64 a.l,.int .i64 a.o,.int .i64 a.m,.float .f64 a.g,.string a.x,vr,.slice pk q ck],.int .i64 (i:Int),.int .i64 c] w fun e w'=>e = .returned (.bool (dc (14 < c)))∧Kb 0 w w':=by
 obtain ⟨pr,p,cr,rfl⟩:=hv
 by_cases hs : 14 < c
 ·have hsb:¬ c≤14:=by omega
  rw [dc_t (hs)]
  go_enter Tryz.func133,Tryz.ntmps133
  go_wp2_with go_in
  go_ret
  exact ⟨by first | rfl | (simp only [*];rfl) | simp [*],by repeat (first | exact Kb.refl _ _ | apply Kb.alloc)⟩
 ·have hsb:c≤14:=by omega
  rw [dc_f (fun g=>(hs) g)]
  go_enter Tryz.func133,Tryz.ntmps133
  go_wp2_with go_in
  go_ret
  exact ⟨by first | rfl | (simp only [*];rfl) | simp [*],by repeat (first | exact Kb.refl _ _ | apply Kb.alloc)⟩
theorem tkx_38 (a : Nv) (vr : Value) (hv : ∃ pr p cr, vr = .slice pr p cr) (pk : Option Addr) (q ck i : Nat) (c : Int) (hq : (q : Int) ≤ 1048576) (hi0 : (i : Int) ≤ 1048576) (w : World) :
  Calls Tryz.prog 133 #[.agg #[.int .i64 38,.int .i64 a.l,.int .i64 a.o,.int .i64 a.m,.float .f64 a.g,.string a.x,vr,.slice pk q ck],.int .i64 (i:Int),.int .i64 c] w fun e w'=>e = .returned (.bool (dc (c=34∨c=37)))∧Kb 0 w w':=by
 obtain ⟨pr,p,cr,rfl⟩:=hv
 by_cases h1:c=34
 ·have g1:=beq1 h1
  rw [dc_t (Or.inl h1)]
  clear h1
  go_enter Tryz.func133,Tryz.ntmps133
  go_wp2_with go_in
  go_ret
  exact ⟨by first | rfl | (simp only [*];rfl) | simp [*],by repeat (first | exact Kb.refl _ _ | apply Kb.alloc)⟩
 ·have g1:=bne h1
  by_cases h2:c=37
  ·have g2:=beq1 h2
   rw [dc_t (Or.inr h2)]
   clear h1 h2
   go_enter Tryz.func133,Tryz.ntmps133
   go_wp2_with go_in
   go_ret
   exact ⟨by first | rfl | (simp only [*];rfl) | simp [*],by repeat (first | exact Kb.refl _ _ | apply Kb.alloc)⟩
  ·have g2:=bne h2
   rw [dc_f (fun g=>(fun z=>z.elim h1 h2) g)]
   clear h1 h2
   go_enter Tryz.func133,Tryz.ntmps133
   go_wp2_with go_in
   go_ret
   exact ⟨by first | rfl | (simp only [*];rfl) | simp [*],by repeat (first | exact Kb.refl _ _ | apply Kb.alloc)⟩
end Go.Proofs.YtfpidccjcemcjaaGreat.Fo
