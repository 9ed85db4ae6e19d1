import Derived.Test.YtfpidccjcemcjaaGreatMNbi
import Derived.Test.YtfpidccjcemcjaaGreatMNdca
import Derived.Test.YtfpidccjcemcjaaGreatMNdj
import Derived.Deep.RegionHeldLaw
set_option maxHeartbeats 8000000
namespace Go.Proofs.YtfpidccjcemcjaaGreat.Fo
open Go.ChangeShapes Go.WideShapes Go.ChangeAt Go.RowKit
set_option linter.unusedVariables false
set_option maxRecDepth 100000
def Tkp (a:Nv) (q i:Nat) (c:Int):Prop :=
 (a.k=1→c≤14) ∧
 (a.k=2→14 < c) ∧
 (a.k=3→((i:Int) < a.m→c=26∨c=27∨c=33)∧(¬ (i:Int) < a.m→14 < c)) ∧
 (a.k=4→c=34) ∧
 (a.k=5→(0 < i→c=1∨(i=2∧c=5))∧(¬ 0 < i→14 < c)) ∧
 (a.k=6→(i+1=q→c=1)∧(¬ i+1=q→14 < c)) ∧
 (a.k=7→(i+1=q→c=1)∧(¬ i+1=q→14 < c)) ∧
 (a.k=8→(i+1=q→c=1)∧(¬ i+1=q→14 < c)) ∧
 (a.k=9→14 < c) ∧
 (a.k=10→14 < c) ∧
 (a.k=11→14 < c) ∧
 (a.k=12→c=1) ∧
 (a.k=13→14 < c) ∧
 (a.k=14→c=34) ∧
 (a.k=20→14 < c) ∧
 (a.k=21→14 < c) ∧
 (a.k=22→14 < c) ∧
 (a.k=23→14 < c) ∧
 (a.k=24→14 < c) ∧
 (a.k=25→14 < c) ∧
 (a.k=26→14 < c) ∧
 (a.k=27→14 < c) ∧
 (a.k=28→14 < c) ∧
 (a.k=29→14 < c) ∧
 (a.k=30→14 < c) ∧
 (a.k=31→14 < c) ∧
 (a.k=32→14 < c) ∧
 (a.k=33→14 < c) ∧
 (a.k=34→14 < c) ∧
 (a.k=35→14 < c) ∧
 (a.k=36→14 < c) ∧
 (a.k=37→14 < c) ∧
 (a.k=38→c=34∨c=37)
theorem Tkp_1 {a:Nv} {q i:Nat} {c:Int} (hk:a.k=1):Tkp a q i c↔(c≤14):=by
 constructor
 ·intro h
  exact (h.1) hk
 ·intro h
  exact ⟨fun _=>h,fun g=>by omega,fun g=>by omega,fun g=>by omega,fun g=>by omega,fun g=>by omega,fun g=>by omega,fun g=>by omega,fun g=>by omega,fun g=>by omega,fun g=>by omega,fun g=>by omega,fun g=>by omega,fun g=>by omega,fun g=>by omega,fun g=>by omega,fun g=>by omega,fun g=>by omega,fun g=>by omega,fun g=>by omega,fun g=>by omega,fun g=>by omega,fun g=>by omega,fun g=>by omega,fun g=>by omega,fun g=>by omega,fun g=>by omega,fun g=>by omega,fun g=>by omega,fun g=>by omega,fun g=>by omega,fun g=>by omega,fun g=>by omega⟩
theorem Tkp_2 {a:Nv} {q i:Nat} {c:Int} (hk:a.k=2):Tkp a q i c↔(14 < c):=by
 constructor
 ·intro h
  exact (h.2.1) hk
 ·intro h
  exact ⟨fun g=>by omega,fun _=>h,fun g=>by omega,fun g=>by omega,fun g=>by omega,fun g=>by omega,fun g=>by omega,fun g=>by omega,fun g=>by omega,fun g=>by omega,fun g=>by omega,fun g=>by omega,fun g=>by omega,fun g=>by omega,fun g=>by omega,fun g=>by omega,fun g=>by omega,fun g=>by omega,fun g=>by omega,fun g=>by omega,fun g=>by omega,fun g=>by omega,fun g=>by omega,fun g=>by omega,fun g=>by omega,fun g=>by omega,fun g=>by omega,fun g=>by omega,fun g=>by omega,fun g=>by omega,fun g=>by omega,fun g=>by omega,fun g=>by omega⟩
theorem Tkp_3 {a:Nv} {q i:Nat} {c:Int} (hk:a.k=3):Tkp a q i c↔(((i:Int) < a.m→c=26∨c=27∨c=33)∧(¬ (i:Int) < a.m→14 < c)):=by
 constructor
 ·intro h
  exact (h.2.2.1) hk
 ·intro h
  exact ⟨fun g=>by omega,fun g=>by omega,fun _=>h,fun g=>by omega,fun g=>by omega,fun g=>by omega,fun g=>by omega,fun g=>by omega,fun g=>by omega,fun g=>by omega,fun g=>by omega,fun g=>by omega,fun g=>by omega,fun g=>by omega,fun g=>by omega,fun g=>by omega,fun g=>by omega,fun g=>by omega,fun g=>by omega,fun g=>by omega,fun g=>by omega,fun g=>by omega,fun g=>by omega,fun g=>by omega,fun g=>by omega,fun g=>by omega,fun g=>by omega,fun g=>by omega,fun g=>by omega,fun g=>by omega,fun g=>by omega,fun g=>by omega,fun g=>by omega⟩
theorem Tkp_4 {a:Nv} {q i:Nat} {c:Int} (hk:a.k=4):Tkp a q i c↔(c=34):=by
 constructor
 ·intro h
  exact (h.2.2.2.1) hk
 ·intro h
  exact ⟨fun g=>by omega,fun g=>by omega,fun g=>by omega,fun _=>h,fun g=>by omega,fun g=>by omega,fun g=>by omega,fun g=>by omega,fun g=>by omega,fun g=>by omega,fun g=>by omega,fun g=>by omega,fun g=>by omega,fun g=>by omega,fun g=>by omega,fun g=>by omega,fun g=>by omega,fun g=>by omega,fun g=>by omega,fun g=>by omega,fun g=>by omega,fun g=>by omega,fun g=>by omega,fun g=>by omega,fun g=>by omega,fun g=>by omega,fun g=>by omega,fun g=>by omega,fun g=>by omega,fun g=>by omega,fun g=>by omega,fun g=>by omega,fun g=>by omega⟩
theorem Tkp_5 {a:Nv} {q i:Nat} {c:Int} (hk:a.k=5):Tkp a q i c↔((0 < i→c=1∨(i=2∧c=5))∧(¬ 0 < i→14 < c)):=by
 constructor
 ·intro h
  exact (h.2.2.2.2.1) hk
 ·intro h
  exact ⟨fun g=>by omega,fun g=>by omega,fun g=>by omega,fun g=>by omega,fun _=>h,fun g=>by omega,fun g=>by omega,fun g=>by omega,fun g=>by omega,fun g=>by omega,fun g=>by omega,fun g=>by omega,fun g=>by omega,fun g=>by omega,fun g=>by omega,fun g=>by omega,fun g=>by omega,fun g=>by omega,fun g=>by omega,fun g=>by omega,fun g=>by omega,fun g=>by omega,fun g=>by omega,fun g=>by omega,fun g=>by omega,fun g=>by omega,fun g=>by omega,fun g=>by omega,fun g=>by omega,fun g=>by omega,fun g=>by omega,fun g=>by omega,fun g=>by omega⟩
theorem Tkp_6 {a:Nv} {q i:Nat} {c:Int} (hk:a.k=6):Tkp a q i c↔((i+1=q→c=1)∧(¬ i+1=q→14 < c)):=by
 constructor
 ·intro h
  exact (h.2.2.2.2.2.1) hk
 ·intro h
  exact ⟨fun g=>by omega,fun g=>by omega,fun g=>by omega,fun g=>by omega,fun g=>by omega,fun _=>h,fun g=>by omega,fun g=>by omega,fun g=>by omega,fun g=>by omega,fun g=>by omega,fun g=>by omega,fun g=>by omega,fun g=>by omega,fun g=>by omega,fun g=>by omega,fun g=>by omega,fun g=>by omega,fun g=>by omega,fun g=>by omega,fun g=>by omega,fun g=>by omega,fun g=>by omega,fun g=>by omega,fun g=>by omega,fun g=>by omega,fun g=>by omega,fun g=>by omega,fun g=>by omega,fun g=>by omega,fun g=>by omega,fun g=>by omega,fun g=>by omega⟩
theorem Tkp_7 {a:Nv} {q i:Nat} {c:Int} (hk:a.k=7):Tkp a q i c↔((i+1=q→c=1)∧(¬ i+1=q→14 < c)):=by
 constructor
 ·intro h
  exact (h.2.2.2.2.2.2.1) hk
 ·intro h
  exact ⟨fun g=>by omega,fun g=>by omega,fun g=>by omega,fun g=>by omega,fun g=>by omega,fun g=>by omega,fun _=>h,fun g=>by omega,fun g=>by omega,fun g=>by omega,fun g=>by omega,fun g=>by omega,fun g=>by omega,fun g=>by omega,fun g=>by omega,fun g=>by omega,fun g=>by omega,fun g=>by omega,fun g=>by omega,fun g=>by omega,fun g=>by omega,fun g=>by omega,fun g=>by omega,fun g=>by omega,fun g=>by omega,fun g=>by omega,fun g=>by omega,fun g=>by omega,fun g=>by omega,fun g=>by omega,fun g=>by omega,fun g=>by omega,fun g=>by omega⟩
theorem Tkp_8 {a:Nv} {q i:Nat} {c:Int} (hk:a.k=8):Tkp a q i c↔((i+1=q→c=1)∧(¬ i+1=q→14 < c)):=by
 constructor
 ·intro h
  exact (h.2.2.2.2.2.2.2.1) hk
 ·intro h
  exact ⟨fun g=>by omega,fun g=>by omega,fun g=>by omega,fun g=>by omega,fun g=>by omega,fun g=>by omega,fun g=>by omega,fun _=>h,fun g=>by omega,fun g=>by omega,fun g=>by omega,fun g=>by omega,fun g=>by omega,fun g=>by omega,fun g=>by omega,fun g=>by omega,fun g=>by omega,fun g=>by omega,fun g=>by omega,fun g=>by omega,fun g=>by omega,fun g=>by omega,fun g=>by omega,fun g=>by omega,fun g=>by omega,fun g=>by omega,fun g=>by omega,fun g=>by omega,fun g=>by omega,fun g=>by omega,fun g=>by omega,fun g=>by omega,fun g=>by omega⟩
theorem Tkp_9 {a:Nv} {q i:Nat} {c:Int} (hk:a.k=9):Tkp a q i c↔(14 < c):=by
 constructor
 ·intro h
  exact (h.2.2.2.2.2.2.2.2.1) hk
 ·intro h
  exact ⟨fun g=>by omega,fun g=>by omega,fun g=>by omega,fun g=>by omega,fun g=>by omega,fun g=>by omega,fun g=>by omega,fun g=>by omega,fun _=>h,fun g=>by omega,fun g=>by omega,fun g=>by omega,fun g=>by omega,fun g=>by omega,fun g=>by omega,fun g=>by omega,fun g=>by omega,fun g=>by omega,fun g=>by omega,fun g=>by omega,fun g=>by omega,fun g=>by omega,fun g=>by omega,fun g=>by omega,fun g=>by omega,fun g=>by omega,fun g=>by omega,fun g=>by omega,fun g=>by omega,fun g=>by omega,fun g=>by omega,fun g=>by omega,fun g=>by omega⟩
theorem Tkp_10 {a:Nv} {q i:Nat} {c:Int} (hk:a.k=10):Tkp a q i c↔(14 < c):=by
 constructor
 ·intro h
  exact (h.2.2.2.2.2.2.2.2.2.1) hk
 ·intro h
  exact ⟨fun g=>by omega,fun g=>by omega,fun g=>by omega,fun g=>by omega,fun g=>by omega,fun g=>by omega,fun g=>by omega,fun g=>by omega,fun g=>by omega,fun _=>h,fun g=>by omega,fun g=>by omega,fun g=>by omega,fun g=>by omega,fun g=>by omega,fun g=>by omega,fun g=>by omega,fun g=>by omega,fun g=>by omega,fun g=>by omega,fun g=>by omega,fun g=>by omega,fun g=>by omega,fun g=>by omega,fun g=>by omega,fun g=>by omega,fun g=>by omega,fun g=>by omega,fun g=>by omega,fun g=>by omega,fun g=>by omega,fun g=>by omega,fun g=>by omega⟩
theorem Tkp_11 {a:Nv} {q i:Nat} {c:Int} (hk:a.k=11):Tkp a q i c↔(14 < c):=by
 constructor
 ·intro h
  exact (h.2.2.2.2.2.2.2.2.2.2.1) hk
 ·intro h
  exact ⟨fun g=>by omega,fun g=>by omega,fun g=>by omega,fun g=>by omega,fun g=>by omega,fun g=>by omega,fun g=>by omega,fun g=>by omega,fun g=>by omega,fun g=>by omega,fun _=>h,fun g=>by omega,fun g=>by omega,fun g=>by omega,fun g=>by omega,fun g=>by omega,fun g=>by omega,fun g=>by omega,fun g=>by omega,fun g=>by omega,fun g=>by omega,fun g=>by omega,fun g=>by omega,fun g=>by omega,fun g=>by omega,fun g=>by omega,fun g=>by omega,fun g=>by omega,fun g=>by omega,fun g=>by omega,fun g=>by omega,fun g=>by omega,fun g=>by omega⟩
theorem Tkp_12 {a:Nv} {q i:Nat} {c:Int} (hk:a.k=12):Tkp a q i c↔(c=1):=by
 constructor
 ·intro h
  exact (h.2.2.2.2.2.2.2.2.2.2.2.1) hk
 ·intro h
  exact ⟨fun g=>by omega,fun g=>by omega,fun g=>by omega,fun g=>by omega,fun g=>by omega,fun g=>by omega,fun g=>by omega,fun g=>by omega,fun g=>by omega,fun g=>by omega,fun g=>by omega,fun _=>h,fun g=>by omega,fun g=>by omega,fun g=>by omega,fun g=>by omega,fun g=>by omega,fun g=>by omega,fun g=>by omega,fun g=>by omega,fun g=>by omega,fun g=>by omega,fun g=>by omega,fun g=>by omega,fun g=>by omega,fun g=>by omega,fun g=>by omega,fun g=>by omega,fun g=>by omega,fun g=>by omega,fun g=>by omega,fun g=>by omega,fun g=>by omega⟩
theorem Tkp_13 {a:Nv} {q i:Nat} {c:Int} (hk:a.k=13):Tkp a q i c↔(14 < c):=by
 constructor
 ·intro h
  exact (h.2.2.2.2.2.2.2.2.2.2.2.2.1) hk
 ·intro h
  exact ⟨fun g=>by omega,fun g=>by omega,fun g=>by omega,fun g=>by omega,fun g=>by omega,fun g=>by omega,fun g=>by omega,fun g=>by omega,fun g=>by omega,fun g=>by omega,fun g=>by omega,fun g=>by omega,fun _=>h,fun g=>by omega,fun g=>by omega,fun g=>by omega,fun g=>by omega,fun g=>by omega,fun g=>by omega,fun g=>by omega,fun g=>by omega,fun g=>by omega,fun g=>by omega,fun g=>by omega,fun g=>by omega,fun g=>by omega,fun g=>by omega,fun g=>by omega,fun g=>by omega,fun g=>by omega,fun g=>by omega,fun g=>by omega,fun g=>by omega⟩
theorem Tkp_14 {a:Nv} {q i:Nat} {c:Int} (hk:a.k=14):Tkp a q i c↔(c=34):=by
 constructor
 ·intro h
  exact (h.2.2.2.2.2.2.2.2.2.2.2.2.2.1) hk
 ·intro h
  exact ⟨fun g=>by omega,fun g=>by omega,fun g=>by omega,fun g=>by omega,fun g=>by omega,fun g=>by omega,fun g=>by omega,fun g=>by omega,fun g=>by omega,fun g=>by omega,fun g=>by omega,fun g=>by omega,fun g=>by omega,fun _=>h,fun g=>by omega,fun g=>by omega,fun g=>by omega,fun g=>by omega,fun g=>by omega,fun g=>by omega,fun g=>by omega,fun g=>by omega,fun g=>by omega,fun g=>by omega,fun g=>by omega,fun g=>by omega,fun g=>by omega,fun g=>by omega,fun g=>by omega,fun g=>by omega,fun g=>by omega,fun g=>by omega,fun g=>by omega⟩
theorem Tkp_20 {a:Nv} {q i:Nat} {c:Int} (hk:a.k=20):Tkp a q i c↔(14 < c):=by
 constructor
 ·intro h
  exact (h.2.2.2.2.2.2.2.2.2.2.2.2.2.2.1) hk
 ·intro h
  exact ⟨fun g=>by omega,fun g=>by omega,fun g=>by omega,fun g=>by omega,fun g=>by omega,fun g=>by omega,fun g=>by omega,fun g=>by omega,fun g=>by omega,fun g=>by omega,fun g=>by omega,fun g=>by omega,fun g=>by omega,fun g=>by omega,fun _=>h,fun g=>by omega,fun g=>by omega,fun g=>by omega,fun g=>by omega,fun g=>by omega,fun g=>by omega,fun g=>by omega,fun g=>by omega,fun g=>by omega,fun g=>by omega,fun g=>by omega,fun g=>by omega,fun g=>by omega,fun g=>by omega,fun g=>by omega,fun g=>by omega,fun g=>by omega,fun g=>by omega⟩
theorem Tkp_21 {a:Nv} {q i:Nat} {c:Int} (hk:a.k=21):Tkp a q i c↔(14 < c):=by
 constructor
 ·intro h
  exact (h.2.2.2.2.2.2.2.2.2.2.2.2.2.2.2.1) hk
 ·intro h
  exact ⟨fun g=>by omega,fun g=>by omega,fun g=>by omega,fun g=>by omega,fun g=>by omega,fun g=>by omega,fun g=>by omega,fun g=>by omega,fun g=>by omega,fun g=>by omega,fun g=>by omega,fun g=>by omega,fun g=>by omega,fun g=>by omega,fun g=>by omega,fun _=>h,fun g=>by omega,fun g=>by omega,fun g=>by omega,fun g=>by omega,fun g=>by omega,fun g=>by omega,fun g=>by omega,fun g=>by omega,fun g=>by omega,fun g=>by omega,fun g=>by omega,fun g=>by omega,fun g=>by omega,fun g=>by omega,fun g=>by omega,fun g=>by omega,fun g=>by omega⟩
theorem Tkp_22 {a:Nv} {q i:Nat} {c:Int} (hk:a.k=22):Tkp a q i c↔(14 < c):=by
 constructor
 ·intro h
  exact (h.2.2.2.2.2.2.2.2.2.2.2.2.2.2.2.2.1) hk
 ·intro h
  exact ⟨fun g=>by omega,fun g=>by omega,fun g=>by omega,fun g=>by omega,fun g=>by omega,fun g=>by omega,fun g=>by omega,fun g=>by omega,fun g=>by omega,fun g=>by omega,fun g=>by omega,fun g=>by omega,fun g=>by omega,fun g=>by omega,fun g=>by omega,fun g=>by omega,fun _=>h,fun g=>by omega,fun g=>by omega,fun g=>by omega,fun g=>by omega,fun g=>by omega,fun g=>by omega,fun g=>by omega,fun g=>by omega,fun g=>by omega,fun g=>by omega,fun g=>by omega,fun g=>by omega,fun g=>by omega,fun g=>by omega,fun g=>by omega,fun g=>by omega⟩
theorem Tkp_23 {a:Nv} {q i:Nat} {c:Int} (hk:a.k=23):Tkp a q i c↔(14 < c):=by
 constructor
 ·intro h
  exact (h.2.2.2.2.2.2.2.2.2.2.2.2.2.2.2.2.2.1) hk
 ·intro h
  exact ⟨fun g=>by omega,fun g=>by omega,fun g=>by omega,fun g=>by omega,fun g=>by omega,fun g=>by omega,fun g=>by omega,fun g=>by omega,fun g=>by omega,fun g=>by omega,fun g=>by omega,fun g=>by omega,fun g=>by omega,fun g=>by omega,fun g=>by omega,fun g=>by omega,fun g=>by omega,fun _=>h,fun g=>by omega,fun g=>by omega,fun g=>by omega,fun g=>by omega,fun g=>by omega,fun g=>by omega,fun g=>by omega,fun g=>by omega,fun g=>by omega,fun g=>by omega,fun g=>by omega,fun g=>by omega,fun g=>by omega,fun g=>by omega,fun g=>by omega⟩
theorem Tkp_24 {a:Nv} {q i:Nat} {c:Int} (hk:a.k=24):Tkp a q i c↔(14 < c):=by
 constructor
 ·intro h
  exact (h.2.2.2.2.2.2.2.2.2.2.2.2.2.2.2.2.2.2.1) hk
 ·intro h
  exact ⟨fun g=>by omega,fun g=>by omega,fun g=>by omega,fun g=>by omega,fun g=>by omega,fun g=>by omega,fun g=>by omega,fun g=>by omega,fun g=>by omega,fun g=>by omega,fun g=>by omega,fun g=>by omega,fun g=>by omega,fun g=>by omega,fun g=>by omega,fun g=>by omega,fun g=>by omega,fun g=>by omega,fun _=>h,fun g=>by omega,fun g=>by omega,fun g=>by omega,fun g=>by omega,fun g=>by omega,fun g=>by omega,fun g=>by omega,fun g=>by omega,fun g=>by omega,fun g=>by omega,fun g=>by omega,fun g=>by omega,fun g=>by omega,fun g=>by omega⟩
theorem Tkp_25 {a:Nv} {q i:Nat} {c:Int} (hk:a.k=25):Tkp a q i c↔(14 < c):=by
 constructor
 ·intro h
  exact (h.2.2.2.2.2.2.2.2.2.2.2.2.2.2.2.2.2.2.2.1) hk
 ·intro h
  exact ⟨fun g=>by omega,fun g=>by omega,fun g=>by omega,fun g=>by omega,fun g=>by omega,fun g=>by omega,fun g=>by omega,fun g=>by omega,fun g=>by omega,fun g=>by omega,fun g=>by omega,fun g=>by omega,fun g=>by omega,fun g=>by omega,fun g=>by omega,fun g=>by omega,fun g=>by omega,fun g=>by omega,fun g=>by omega,fun _=>h,fun g=>by omega,fun g=>by omega,fun g=>by omega,fun g=>by omega,fun g=>by omega,fun g=>by omega,fun g=>by omega,fun g=>by omega,fun g=>by omega,fun g=>by omega,fun g=>by omega,fun g=>by omega,fun g=>by omega⟩
theorem Tkp_26 {a:Nv} {q i:Nat} {c:Int} (hk:a.k=26):Tkp a q i c↔(14 < c):=by
 constructor
 ·intro h
  exact (h.2.2.2.2.2.2.2.2.2.2.2.2.2.2.2.2.2.2.2.2.1) hk
 ·intro h
  exact ⟨fun g=>by omega,fun g=>by omega,fun g=>by omega,fun g=>by omega,fun g=>by omega,fun g=>by omega,fun g=>by omega,fun g=>by omega,fun g=>by omega,fun g=>by omega,fun g=>by omega,fun g=>by omega,fun g=>by omega,fun g=>by omega,fun g=>by omega,fun g=>by omega,fun g=>by omega,fun g=>by omega,fun g=>by omega,fun g=>by omega,fun _=>h,fun g=>by omega,fun g=>by omega,fun g=>by omega,fun g=>by omega,fun g=>by omega,fun g=>by omega,fun g=>by omega,fun g=>by omega,fun g=>by omega,fun g=>by omega,fun g=>by omega,fun g=>by omega⟩
theorem Tkp_27 {a:Nv} {q i:Nat} {c:Int} (hk:a.k=27):Tkp a q i c↔(14 < c):=by
 constructor
 ·intro h
  exact (h.2.2.2.2.2.2.2.2.2.2.2.2.2.2.2.2.2.2.2.2.2.1) hk
 ·intro h
  exact ⟨fun g=>by omega,fun g=>by omega,fun g=>by omega,fun g=>by omega,fun g=>by omega,fun g=>by omega,fun g=>by omega,fun g=>by omega,fun g=>by omega,fun g=>by omega,fun g=>by omega,fun g=>by omega,fun g=>by omega,fun g=>by omega,fun g=>by omega,fun g=>by omega,fun g=>by omega,fun g=>by omega,fun g=>by omega,fun g=>by omega,fun g=>by omega,fun _=>h,fun g=>by omega,fun g=>by omega,fun g=>by omega,fun g=>by omega,fun g=>by omega,fun g=>by omega,fun g=>by omega,fun g=>by omega,fun g=>by omega,fun g=>by omega,fun g=>by omega⟩
theorem Tkp_28 {a:Nv} {q i:Nat} {c:Int} (hk:a.k=28):Tkp a q i c↔(14 < c):=by
 constructor
 ·intro h
  exact (h.2.2.2.2.2.2.2.2.2.2.2.2.2.2.2.2.2.2.2.2.2.2.1) hk
 ·intro h
  exact ⟨fun g=>by omega,fun g=>by omega,fun g=>by omega,fun g=>by omega,fun g=>by omega,fun g=>by omega,fun g=>by omega,fun g=>by omega,fun g=>by omega,fun g=>by omega,fun g=>by omega,fun g=>by omega,fun g=>by omega,fun g=>by omega,fun g=>by omega,fun g=>by omega,fun g=>by omega,fun g=>by omega,fun g=>by omega,fun g=>by omega,fun g=>by omega,fun g=>by omega,fun _=>h,fun g=>by omega,fun g=>by omega,fun g=>by omega,fun g=>by omega,fun g=>by omega,fun g=>by omega,fun g=>by omega,fun g=>by omega,fun g=>by omega,fun g=>by omega⟩
theorem Tkp_29 {a:Nv} {q i:Nat} {c:Int} (hk:a.k=29):Tkp a q i c↔(14 < c):=by
 constructor
 ·intro h
  exact (h.2.2.2.2.2.2.2.2.2.2.2.2.2.2.2.2.2.2.2.2.2.2.2.1) hk
 ·intro h
  exact ⟨fun g=>by omega,fun g=>by omega,fun g=>by omega,fun g=>by omega,fun g=>by omega,fun g=>by omega,fun g=>by omega,fun g=>by omega,fun g=>by omega,fun g=>by omega,fun g=>by omega,fun g=>by omega,fun g=>by omega,fun g=>by omega,fun g=>by omega,fun g=>by omega,fun g=>by omega,fun g=>by omega,fun g=>by omega,fun g=>by omega,fun g=>by omega,fun g=>by omega,fun g=>by omega,fun _=>h,fun g=>by omega,fun g=>by omega,fun g=>by omega,fun g=>by omega,fun g=>by omega,fun g=>by omega,fun g=>by omega,fun g=>by omega,fun g=>by omega⟩
theorem Tkp_30 {a:Nv} {q i:Nat} {c:Int} (hk:a.k=30):Tkp a q i c↔(14 < c):=by
 constructor
 ·intro h
  exact (h.2.2.2.2.2.2.2.2.2.2.2.2.2.2.2.2.2.2.2.2.2.2.2.2.1) hk
 ·intro h
  exact ⟨fun g=>by omega,fun g=>by omega,fun g=>by omega,fun g=>by omega,fun g=>by omega,fun g=>by omega,fun g=>by omega,fun g=>by omega,fun g=>by omega,fun g=>by omega,fun g=>by omega,fun g=>by omega,fun g=>by omega,fun g=>by omega,fun g=>by omega,fun g=>by omega,fun g=>by omega,fun g=>by omega,fun g=>by omega,fun g=>by omega,fun g=>by omega,fun g=>by omega,fun g=>by omega,fun g=>by omega,fun _=>h,fun g=>by omega,fun g=>by omega,fun g=>by omega,fun g=>by omega,fun g=>by omega,fun g=>by omega,fun g=>by omega,fun g=>by omega⟩
theorem Tkp_31 {a:Nv} {q i:Nat} {c:Int} (hk:a.k=31):Tkp a q i c↔(14 < c):=by
 constructor
 ·intro h
  exact (h.2.2.2.2.2.2.2.2.2.2.2.2.2.2.2.2.2.2.2.2.2.2.2.2.2.1) hk
 ·intro h
  exact ⟨fun g=>by omega,fun g=>by omega,fun g=>by omega,fun g=>by omega,fun g=>by omega,fun g=>by omega,fun g=>by omega,fun g=>by omega,fun g=>by omega,fun g=>by omega,fun g=>by omega,fun g=>by omega,fun g=>by omega,fun g=>by omega,fun g=>by omega,fun g=>by omega,fun g=>by omega,fun g=>by omega,fun g=>by omega,fun g=>by omega,fun g=>by omega,fun g=>by omega,fun g=>by omega,fun g=>by omega,fun g=>by omega,fun _=>h,fun g=>by omega,fun g=>by omega,fun g=>by omega,fun g=>by omega,fun g=>by omega,fun g=>by omega,fun g=>by omega⟩
theorem Tkp_32 {a:Nv} {q i:Nat} {c:Int} (hk:a.k=32):Tkp a q i c↔(14 < c):=by
 constructor
 ·intro h
  exact (h.2.2.2.2.2.2.2.2.2.2.2.2.2.2.2.2.2.2.2.2.2.2.2.2.2.2.1) hk
 ·intro h
  exact ⟨fun g=>by omega,fun g=>by omega,fun g=>by omega,fun g=>by omega,fun g=>by omega,fun g=>by omega,fun g=>by omega,fun g=>by omega,fun g=>by omega,fun g=>by omega,fun g=>by omega,fun g=>by omega,fun g=>by omega,fun g=>by omega,fun g=>by omega,fun g=>by omega,fun g=>by omega,fun g=>by omega,fun g=>by omega,fun g=>by omega,fun g=>by omega,fun g=>by omega,fun g=>by omega,fun g=>by omega,fun g=>by omega,fun g=>by omega,fun _=>h,fun g=>by omega,fun g=>by omega,fun g=>by omega,fun g=>by omega,fun g=>by omega,fun g=>by omega⟩
theorem Tkp_33 {a:Nv} {q i:Nat} {c:Int} (hk:a.k=33):Tkp a q i c↔(14 < c):=by
 constructor
 ·intro h
  exact (h.2.2.2.2.2.2.2.2.2.2.2.2.2.2.2.2.2.2.2.2.2.2.2.2.2.2.2.1) hk
 ·intro h
  exact ⟨fun g=>by omega,fun g=>by omega,fun g=>by omega,fun g=>by omega,fun g=>by omega,fun g=>by omega,fun g=>by omega,fun g=>by omega,fun g=>by omega,fun g=>by omega,fun g=>by omega,fun g=>by omega,fun g=>by omega,fun g=>by omega,fun g=>by omega,fun g=>by omega,fun g=>by omega,fun g=>by omega,fun g=>by omega,fun g=>by omega,fun g=>by omega,fun g=>by omega,fun g=>by omega,fun g=>by omega,fun g=>by omega,fun g=>by omega,fun g=>by omega,fun _=>h,fun g=>by omega,fun g=>by omega,fun g=>by omega,fun g=>by omega,fun g=>by omega⟩
theorem Tkp_34 {a:Nv} {q i:Nat} {c:Int} (hk:a.k=34):Tkp a q i c↔(14 < c):=by
 constructor
 ·intro h
  exact (h.2.2.2.2.2.2.2.2.2.2.2.2.2.2.2.2.2.2.2.2.2.2.2.2.2.2.2.2.1) hk
 ·intro h
  exact ⟨fun g=>by omega,fun g=>by omega,fun g=>by omega,fun g=>by omega,fun g=>by omega,fun g=>by omega,fun g=>by omega,fun g=>by omega,fun g=>by omega,fun g=>by omega,fun g=>by omega,fun g=>by omega,fun g=>by omega,fun g=>by omega,fun g=>by omega,fun g=>by omega,fun g=>by omega,fun g=>by omega,fun g=>by omega,fun g=>by omega,fun g=>by omega,fun g=>by omega,fun g=>by omega,fun g=>by omega,fun g=>by omega,fun g=>by omega,fun g=>by omega,fun g=>by omega,fun _=>h,fun g=>by omega,fun g=>by omega,fun g=>by omega,fun g=>by omega⟩
theorem Tkp_35 {a:Nv} {q i:Nat} {c:Int} (hk:a.k=35):Tkp a q i c↔(14 < c):=by
 constructor
 ·intro h
  exact (h.2.2.2.2.2.2.2.2.2.2.2.2.2.2.2.2.2.2.2.2.2.2.2.2.2.2.2.2.2.1) hk
 ·intro h
  exact ⟨fun g=>by omega,fun g=>by omega,fun g=>by omega,fun g=>by omega,fun g=>by omega,fun g=>by omega,fun g=>by omega,fun g=>by omega,fun g=>by omega,fun g=>by omega,fun g=>by omega,fun g=>by omega,fun g=>by omega,fun g=>by omega,fun g=>by omega,fun g=>by omega,fun g=>by omega,fun g=>by omega,fun g=>by omega,fun g=>by omega,fun g=>by omega,fun g=>by omega,fun g=>by omega,fun g=>by omega,fun g=>by omega,fun g=>by omega,fun g=>by omega,fun g=>by omega,fun g=>by omega,fun _=>h,fun g=>by omega,fun g=>by omega,fun g=>by omega⟩
theorem Tkp_36 {a:Nv} {q i:Nat} {c:Int} (hk:a.k=36):Tkp a q i c↔(14 < c):=by
 constructor
 ·intro h
  exact (h.2.2.2.2.2.2.2.2.2.2.2.2.2.2.2.2.2.2.2.2.2.2.2.2.2.2.2.2.2.2.1) hk
 ·intro h
  exact ⟨fun g=>by omega,fun g=>by omega,fun g=>by omega,fun g=>by omega,fun g=>by omega,fun g=>by omega,fun g=>by omega,fun g=>by omega,fun g=>by omega,fun g=>by omega,fun g=>by omega,fun g=>by omega,fun g=>by omega,fun g=>by omega,fun g=>by omega,fun g=>by omega,fun g=>by omega,fun g=>by omega,fun g=>by omega,fun g=>by omega,fun g=>by omega,fun g=>by omega,fun g=>by omega,fun g=>by omega,fun g=>by omega,fun g=>by omega,fun g=>by omega,fun g=>by omega,fun g=>by omega,fun g=>by omega,fun _=>h,fun g=>by omega,fun g=>by omega⟩
theorem Tkp_37 {a:Nv} {q i:Nat} {c:Int} (hk:a.k=37):Tkp a q i c↔(14 < c):=by
 constructor
 ·intro h
  exact (h.2.2.2.2.2.2.2.2.2.2.2.2.2.2.2.2.2.2.2.2.2.2.2.2.2.2.2.2.2.2.2.1) hk
 ·intro h
  exact ⟨fun g=>by omega,fun g=>by omega,fun g=>by omega,fun g=>by omega,fun g=>by omega,fun g=>by omega,fun g=>by omega,fun g=>by omega,fun g=>by omega,fun g=>by omega,fun g=>by omega,fun g=>by omega,fun g=>by omega,fun g=>by omega,fun g=>by omega,fun g=>by omega,fun g=>by omega,fun g=>by omega,fun g=>by omega,fun g=>by omega,fun g=>by omega,fun g=>by omega,fun g=>by omega,fun g=>by omega,fun g=>by omega,fun g=>by omega,fun g=>by omega,fun g=>by omega,fun g=>by omega,fun g=>by omega,fun g=>by omega,fun _=>h,fun g=>by omega⟩
theorem Tkp_38 {a:Nv} {q i:Nat} {c:Int} (hk:a.k=38):Tkp a q i c↔(c=34∨c=37):=by
 constructor
 ·intro h
  exact (h.2.2.2.2.2.2.2.2.2.2.2.2.2.2.2.2.2.2.2.2.2.2.2.2.2.2.2.2.2.2.2.2) hk
 ·intro h
  exact ⟨fun g=>by omega,fun g=>by omega,fun g=>by omega,fun g=>by omega,fun g=>by omega,fun g=>by omega,fun g=>by omega,fun g=>by omega,fun g=>by omega,fun g=>by omega,fun g=>by omega,fun g=>by omega,fun g=>by omega,fun g=>by omega,fun g=>by omega,fun g=>by omega,fun g=>by omega,fun g=>by omega,fun g=>by omega,fun g=>by omega,fun g=>by omega,fun g=>by omega,fun g=>by omega,fun g=>by omega,fun g=>by omega,fun g=>by omega,fun g=>by omega,fun g=>by omega,fun g=>by omega,fun g=>by omega,fun g=>by omega,fun g=>by omega,fun _=>h⟩
theorem im_rows (a : Nv) (vr : Value) (hv : ∃ pr p cr, vr = .slice pr p cr) (pk : Option Addr) (q ck : Nat)  (hq : (q : Int) ≤ 1048576) (w : World) (hk : St a.k) :
  Calls Tryz.prog 127 #[ndv a vr (.slice pk q ck)] w fun e w'=>e = .returned (rwv (rwk a.k q))∧Kb 0 w w':=by
 obtain ⟨h1,h2⟩:=hk
 have hc:a.k=1∨a.k=2∨a.k=3∨a.k=4∨a.k=5∨a.k=6∨a.k=7∨a.k=8∨a.k=9∨a.k=10∨a.k=11∨a.k=12∨a.k=13∨a.k=14:=by omega
 unfold ndv
 rcases hc with h | h | h | h | h | h | h | h | h | h | h | h | h | h
 ·rw [h];exact own_1 a vr hv pk q ck hq w
 ·rw [h];exact own_2 a vr hv pk q ck hq w
 ·rw [h];exact own_3 a vr hv pk q ck hq w
 ·rw [h];exact own_4 a vr hv pk q ck hq w
 ·rw [h];exact own_5 a vr hv pk q ck hq w
 ·rw [h];exact own_6 a vr hv pk q ck hq w
 ·rw [h];exact own_7 a vr hv pk q ck hq w
 ·rw [h];exact own_8 a vr hv pk q ck hq w
 ·rw [h];exact own_9 a vr hv pk q ck hq w
 ·rw [h];exact own_10 a vr hv pk q ck hq w
 ·rw [h];exact own_11 a vr hv pk q ck hq w
 ·rw [h];exact own_12 a vr hv pk q ck hq w
 ·rw [h];exact own_13 a vr hv pk q ck hq w
 ·rw [h];exact own_14 a vr hv pk q ck hq w
theorem im_rowx (a : Nv) (vr : Value) (hv : ∃ pr p cr, vr = .slice pr p cr) (pk : Option Addr) (q ck : Nat)  (hq : (q : Int) ≤ 1048576) (w : World) (hk : Ex a.k) :
  Calls Tryz.prog 132 #[ndv a vr (.slice pk q ck)] w fun e w'=>e = .returned (rwv (rwk a.k q))∧Kb 0 w w':=by
 obtain ⟨h1,h2⟩:=hk
 have hc:a.k=20∨a.k=21∨a.k=22∨a.k=23∨a.k=24∨a.k=25∨a.k=26∨a.k=27∨a.k=28∨a.k=29∨a.k=30∨a.k=31∨a.k=32∨a.k=33∨a.k=34∨a.k=35∨a.k=36∨a.k=37∨a.k=38:=by omega
 unfold ndv
 rcases hc with h | h | h | h | h | h | h | h | h | h | h | h | h | h | h | h | h | h | h
 ·rw [h];exact xow_20 a vr hv pk q ck hq w
 ·rw [h];exact xow_21 a vr hv pk q ck hq w
 ·rw [h];exact xow_22 a vr hv pk q ck hq w
 ·rw [h];exact xow_23 a vr hv pk q ck hq w
 ·rw [h];exact xow_24 a vr hv pk q ck hq w
 ·rw [h];exact xow_25 a vr hv pk q ck hq w
 ·rw [h];exact xow_26 a vr hv pk q ck hq w
 ·rw [h];exact xow_27 a vr hv pk q ck hq w
 ·rw [h];exact xow_28 a vr hv pk q ck hq w
 ·rw [h];exact xow_29 a vr hv pk q ck hq w
 ·rw [h];exact xow_30 a vr hv pk q ck hq w
 ·rw [h];exact xow_31 a vr hv pk q ck hq w
 ·rw [h];exact xow_32 a vr hv pk q ck hq w
 ·rw [h];exact xow_33 a vr hv pk q ck hq w
 ·rw [h];exact xow_34 a vr hv pk q ck hq w
 ·rw [h];exact xow_35 a vr hv pk q ck hq w
 ·rw [h];exact xow_36 a vr hv pk q ck hq w
 ·rw [h];exact xow_37 a vr hv pk q ck hq w
 ·rw [h];exact xow_38 a vr hv pk q ck hq w
theorem im_tks (a : Nv) (vr : Value) (hv : ∃ pr p cr, vr = .slice pr p cr) (pk : Option Addr) (q ck : Nat) (i : Nat) (c : Int) (hi : (i : Int) ≤ 1048576) (hq : (q : Int) ≤ 1048576) (w : World) (hk : St a.k) :
  Calls Tryz.prog 128 #[ndv a vr (.slice pk q ck),.int .i64 (i:Int),.int .i64 c] w fun e w'=>e = .returned (.bool (dc (Tkp a q i c)))∧Kb 0 w w':=by
 obtain ⟨h1,h2⟩:=hk
 have hc:a.k=1∨a.k=2∨a.k=3∨a.k=4∨a.k=5∨a.k=6∨a.k=7∨a.k=8∨a.k=9∨a.k=10∨a.k=11∨a.k=12∨a.k=13∨a.k=14:=by omega
 unfold ndv
 rcases hc with h | h | h | h | h | h | h | h | h | h | h | h | h | h
 ·rw [dc_iff (Tkp_1 h),h];exact tks_1 a vr hv pk q ck i c hq hi w
 ·rw [dc_iff (Tkp_2 h),h];exact tks_2 a vr hv pk q ck i c hq hi w
 ·rw [dc_iff (Tkp_3 h),h];exact tks_3 a vr hv pk q ck i c hq hi w
 ·rw [dc_iff (Tkp_4 h),h];exact tks_4 a vr hv pk q ck i c hq hi w
 ·rw [dc_iff (Tkp_5 h),h];exact tks_5 a vr hv pk q ck i c hq hi w
 ·rw [dc_iff (Tkp_6 h),h];exact tks_6 a vr hv pk q ck i c hq hi w
 ·rw [dc_iff (Tkp_7 h),h];exact tks_7 a vr hv pk q ck i c hq hi w
 ·rw [dc_iff (Tkp_8 h),h];exact tks_8 a vr hv pk q ck i c hq hi w
 ·rw [dc_iff (Tkp_9 h),h];exact tks_9 a vr hv pk q ck i c hq hi w
 ·rw [dc_iff (Tkp_10 h),h];exact tks_10 a vr hv pk q ck i c hq hi w
 ·rw [dc_iff (Tkp_11 h),h];exact tks_11 a vr hv pk q ck i c hq hi w
 ·rw [dc_iff (Tkp_12 h),h];exact tks_12 a vr hv pk q ck i c hq hi w
 ·rw [dc_iff (Tkp_13 h),h];exact tks_13 a vr hv pk q ck i c hq hi w
 ·rw [dc_iff (Tkp_14 h),h];exact tks_14 a vr hv pk q ck i c hq hi w
theorem im_tkx (a : Nv) (vr : Value) (hv : ∃ pr p cr, vr = .slice pr p cr) (pk : Option Addr) (q ck : Nat) (i : Nat) (c : Int) (hi : (i : Int) ≤ 1048576) (hq : (q : Int) ≤ 1048576) (w : World) (hk : Ex a.k) :
  Calls Tryz.prog 133 #[ndv a vr (.slice pk q ck),.int .i64 (i:Int),.int .i64 c] w fun e w'=>e = .returned (.bool (dc (Tkp a q i c)))∧Kb 0 w w':=by
 obtain ⟨h1,h2⟩:=hk
 have hc:a.k=20∨a.k=21∨a.k=22∨a.k=23∨a.k=24∨a.k=25∨a.k=26∨a.k=27∨a.k=28∨a.k=29∨a.k=30∨a.k=31∨a.k=32∨a.k=33∨a.k=34∨a.k=35∨a.k=36∨a.k=37∨a.k=38:=by omega
 unfold ndv
 rcases hc with h | h | h | h | h | h | h | h | h | h | h | h | h | h | h | h | h | h | h
 ·rw [dc_iff (Tkp_20 h),h];exact tkx_20 a vr hv pk q ck i c hq hi w
 ·rw [dc_iff (Tkp_21 h),h];exact tkx_21 a vr hv pk q ck i c hq hi w
 ·rw [dc_iff (Tkp_22 h),h];exact tkx_22 a vr hv pk q ck i c hq hi w
 ·rw [dc_iff (Tkp_23 h),h];exact tkx_23 a vr hv pk q ck i c hq hi w
 ·rw [dc_iff (Tkp_24 h),h];exact tkx_24 a vr hv pk q ck i c hq hi w
 ·rw [dc_iff (Tkp_25 h),h];exact tkx_25 a vr hv pk q ck i c hq hi w
 ·rw [dc_iff (Tkp_26 h),h];exact tkx_26 a vr hv pk q ck i c hq hi w
 ·rw [dc_iff (Tkp_27 h),h];exact tkx_27 a vr hv pk q ck i c hq hi w
 ·rw [dc_iff (Tkp_28 h),h];exact tkx_28 a vr hv pk q ck i c hq hi w
 ·rw [dc_iff (Tkp_29 h),h];exact tkx_29 a vr hv pk q ck i c hq hi w
 ·rw [dc_iff (Tkp_30 h),h];exact tkx_30 a vr hv pk q ck i c hq hi w
 ·rw [dc_iff (Tkp_31 h),h];exact tkx_31 a vr hv pk q ck i c hq hi w
 ·rw [dc_iff (Tkp_32 h),h];exact tkx_32 a vr hv pk q ck i c hq hi w
 ·rw [dc_iff (Tkp_33 h),h];exact tkx_33 a vr hv pk q ck i c hq hi w
 ·rw [dc_iff (Tkp_34 h),h];exact tkx_34 a vr hv pk q ck i c hq hi w
 ·rw [dc_iff (Tkp_35 h),h];exact tkx_35 a vr hv pk q ck i c hq hi w
 ·rw [dc_iff (Tkp_36 h),h];exact tkx_36 a vr hv pk q ck i c hq hi w
 ·rw [dc_iff (Tkp_37 h),h];exact tkx_37 a vr hv pk q ck i c hq hi w
 ·rw [dc_iff (Tkp_38 h),h];exact tkx_38 a vr hv pk q ck i c hq hi w
theorem im_allows (r : Rw) (hfx : r.f = false ∨ r.x = false) (a : Nv) (hg : a.g < 18446744073709551616) (pr : Option Addr) (p cr : Nat) (pk : Option Addr) (q ck : Nat) (hp : (p : Int) ≤ 1048576) (hq : (q : Int) ≤ 1048576) (w : World) :
  Calls Tryz.prog 95 #[rwv r,ndv a (.slice pr p cr) (.slice pk q ck)] w fun e w'=>e = .returned (.bool (dc (alw r a p q)))∧Kb 0 w w':=by
 obtain ⟨l1,l2,o1,o2,m1,m2,r1,r2,k1,k2,f,x⟩:=r
 unfold rwv ndv
 dsimp only at hfx ⊢
 cases f <;> cases x
 ·exact alw_00 l1 l2 o1 o2 m1 m2 r1 r2 k1 k2 a hg pr p cr pk q ck hp hq w
 ·exact alw_01 l1 l2 o1 o2 m1 m2 r1 r2 k1 k2 a hg pr p cr pk q ck hp hq w
 ·exact alw_10 l1 l2 o1 o2 m1 m2 r1 r2 k1 k2 a hg pr p cr pk q ck hp hq w
 ·simp at hfx
theorem ite_f {p:Prop} [Decidable p] {x y:Rw} (h1:x.f=false) (h2:y.f=false):(if p then x else y).f=false:=by split <;> assumption
theorem ite_n {p:Prop} [Decidable p] {x y:Rw} (hp:¬ p) (h2:y.f=false):(if p then x else y).f=false:=by rw [if_neg hp];exact h2
theorem rwk_fx (k:Int) (q:Nat):(rwk k q).f=false∨(rwk k q).x=false:=by
 by_cases h:k=24
 ·subst h;exact Or.inr rfl
 ·left
  unfold rwk
  exact ite_f rfl (ite_f rfl (ite_f rfl (ite_f rfl (ite_f rfl (ite_f rfl (ite_f rfl (ite_f rfl (ite_f rfl (ite_f rfl (ite_f rfl (ite_f rfl (ite_f rfl (ite_f rfl (ite_f rfl (ite_f rfl (ite_f rfl (ite_f rfl (ite_n h (ite_f rfl (ite_f rfl (ite_f rfl (ite_f rfl (ite_f rfl (ite_f rfl (ite_f rfl (ite_f rfl (ite_f rfl (ite_f rfl (ite_f rfl (ite_f rfl (ite_f rfl (rfl))))))))))))))))))))))))))))))))
theorem so_s (a : Nv) (pr : Option Addr) (p cr : Nat) (pk : Option Addr) (q ck : Nat) (w : World) (hk : St a.k) :
  Calls Tryz.prog 94 #[ndv a (.slice pr p cr) (.slice pk q ck)] w fun e w'=>e = .returned (.iface 150 (ndv a (.slice pr p cr) (.slice pk q ck)))∧Kb 0 w w':=by
 unfold ndv
 obtain ⟨h1,h2⟩:=hk
 go_enter Tryz.func94,Tryz.ntmps94
 go_wp2_with fail
 go_ret
 exact ⟨rfl,kb_alloc _ _ _⟩
theorem so_x (a : Nv) (pr : Option Addr) (p cr : Nat) (pk : Option Addr) (q ck : Nat) (w : World) (hk : Ex a.k) :
  Calls Tryz.prog 94 #[ndv a (.slice pr p cr) (.slice pk q ck)] w fun e w'=>e = .returned (.iface 151 (ndv a (.slice pr p cr) (.slice pk q ck)))∧Kb 0 w w':=by
 unfold ndv
 obtain ⟨h1,h2⟩:=hk
 have h3 : 1≤a.k:=by omega
 have h4:¬ a.k≤14:=by omega
 go_enter Tryz.func94,Tryz.ntmps94
 go_wp2_with fail
 go_ret
 exact ⟨rfl,kb_alloc _ _ _⟩
theorem so_n (a : Nv) (pr : Option Addr) (p cr : Nat) (pk : Option Addr) (q ck : Nat) (w : World) (hs : ¬ St a.k) (hx : ¬ Ex a.k) :
  Calls Tryz.prog 94 #[ndv a (.slice pr p cr) (.slice pk q ck)] w fun e w'=>e = .returned (.nilIface)∧Kb 0 w w':=by
 unfold ndv
 unfold St at hs
 unfold Ex at hx
 rcases Int.lt_or_le a.k 1 with h | h
 ·have h1:¬ 1≤a.k:=by omega
  have h2:¬ 20≤a.k:=by omega
  clear hs hx
  go_enter Tryz.func94,Tryz.ntmps94
  go_wp2_with fail
  go_ret
  exact ⟨rfl,kb_alloc _ _ _⟩
 ·have h1:¬ a.k≤14:=by omega
  rcases Int.lt_or_le a.k 20 with h2 | h2
  ·have h3:¬ 20≤a.k:=by omega
   clear hs hx
   go_enter Tryz.func94,Tryz.ntmps94
   go_wp2_with fail
   go_ret
   exact ⟨rfl,kb_alloc _ _ _⟩
  ·have h3:¬ a.k≤38:=by omega
   clear hs hx
   go_enter Tryz.func94,Tryz.ntmps94
   go_wp2_with fail
   go_ret
   exact ⟨rfl,kb_alloc _ _ _⟩
def kz (N:Nat→Nd) (z:Int):Int:=(N z.toNat).a.k
def Tbl (N:Nat→Nd) (a:Nv) (q:Nat) (K:Nat→Int):Prop:=q % 2=0∧(a.o=0∨(0 < q∧kz N (K (q - 2))=23∧(kz N (K (q - 1))=34∨kz N (K (q - 1))=37)))
theorem im_table {A : Addr} {n ca t : Nat} {N : Nat → Nd} (a : Nv) (pr : Option Addr) (p cr : Nat) (pk : Option Addr) (q ck : Nat) (K : Nat → Int) (w : World) (hn : n ≤ 1048576) (hq : q ≤ 1048576) (ht : t < n)
  (hra:∀ i,i < n→NodeC 0 w (A.add (i*8)) (N i)) (hk:RowB 0 w (.slice pk q ck) q (fun i=>.int .i64 (K i))) (hK:∀ i,i < q→0≤K i∧K i < (t:Int)) :
  Calls Tryz.prog 96 #[.slice (some A) n ca,ndv a (.slice pr p cr) (.slice pk q ck)] w fun e w'=>e = .returned (.bool (dc (Tbl N a q K)))∧Kb 0 w w':=by
 unfold ndv Tbl
 have hqI:(q:Int)≤1048576:=by omega
 have hnI:(n:Int)≤1048576:=by omega
 by_cases he:q % 2=0
 ·have ge:Int.tmod (q:Int) 2=0:=by rw [show Int.tmod (q:Int) 2=((q % 2:Nat):Int) from rfl,he];rfl
  by_cases ho:a.o=0
  ·rw [dc_t ⟨he,Or.inl ho⟩]
   have go0:=beq1 ho
   clear ho hra hk hK he
   go_enter Tryz.func96,Tryz.ntmps96
   go_wp2_with go_in
   go_ret
   exact ⟨by first | rfl | (simp only [*];rfl) | simp [*],by repeat (first | exact Kb.refl _ _ | apply Kb.alloc)⟩
  ·have go0:=bne ho
   rcases Nat.eq_zero_or_pos q with h0 | h0
   ·subst h0
    rw [dc_f (fun g=>g.2.elim ho (fun z=>by have:=z.1;omega))]
    clear ho hra hk hK he
    go_enter Tryz.func96,Tryz.ntmps96
    go_wp2_with go_in
    go_ret
    exact ⟨by first | rfl | (simp only [*];rfl) | simp [*],by repeat (first | exact Kb.refl _ _ | apply Kb.alloc)⟩
   ·have hq2 : 2≤q:=by omega
    obtain ⟨pk',ck',e1,hrow⟩:=hk
    obtain ⟨rfl,-,rfl⟩:pk=pk'∧q=q∧ck=ck':=by simpa using e1
    obtain ⟨b,rfl,hcb,-,hrb⟩:=hrow h0
    have f1:w.cell? (b.add (q - 1))=some (.int .i64 (K (q - 1))):=hrb (q - 1) (by omega)
    have f2:w.cell? (b.add (q - 2))=some (.int .i64 (K (q - 2))):=hrb (q - 2) (by omega)
    obtain ⟨y1,hy1⟩:=Int.eq_ofNat_of_zero_le (hK (q - 1) (by omega)).1
    obtain ⟨y2,hy2⟩:=Int.eq_ofNat_of_zero_le (hK (q - 2) (by omega)).1
    have l1:=(hK (q - 1) (by omega)).2
    have l2:=(hK (q - 2) (by omega)).2
    rw [hy1] at f1 l1
    rw [hy2] at f2 l2
    obtain ⟨_,_,⟨c1,_,_,_,_,_,_,_⟩,-,-⟩:=hra y1 (by omega)
    obtain ⟨_,_,⟨c2,_,_,_,_,_,_,_⟩,-,-⟩:=hra y2 (by omega)
    have kz1:kz N (K (q - 1))=(N y1).a.k:=by unfold kz;rw [hy1,Int.toNat_natCast]
    have kz2:kz N (K (q - 2))=(N y2).a.k:=by unfold kz;rw [hy2,Int.toNat_natCast]
    rw [kz1,kz2]
    have i1:(y1:Int) < (n:Int):=by omega
    have i2:(y2:Int) < (n:Int):=by omega
    have gq:(0:Int) < (q:Int):=by omega
    have t1:((q:Int) - 1).toNat=q - 1:=by omega
    have t2:((q:Int) - 2).toNat=q - 2:=by omega
    have u1:(0:Int)≤(q:Int) - 1:=by omega
    have u2:(0:Int)≤(q:Int) - 2:=by omega
    replace f1:=(kb_alloc 0 w (.cells #[.int .i64 a.k,.int .i64 a.l,.int .i64 a.o,.int .i64 a.m,.float .f64 a.g,.string a.x,.slice pr p cr,.slice (some b) q ck] 59)).cell f1
    replace f2:=(kb_alloc 0 w (.cells #[.int .i64 a.k,.int .i64 a.l,.int .i64 a.o,.int .i64 a.m,.float .f64 a.g,.string a.x,.slice pr p cr,.slice (some b) q ck] 59)).cell f2
    replace c1:=(kb_alloc 0 w (.cells #[.int .i64 a.k,.int .i64 a.l,.int .i64 a.o,.int .i64 a.m,.float .f64 a.g,.string a.x,.slice pr p cr,.slice (some b) q ck] 59)).cell c1
    replace c2:=(kb_alloc 0 w (.cells #[.int .i64 a.k,.int .i64 a.l,.int .i64 a.o,.int .i64 a.m,.float .f64 a.g,.string a.x,.slice pr p cr,.slice (some b) q ck] 59)).cell c2
    clear hra hrow hrb hK hy1 hy2 l1 l2 kz1 kz2 e1 t1 t2
    generalize (N y1).a.k=z1 at *
    generalize (N y2).a.k=z2 at *
    by_cases h2:z2=23
    ·have g2:=beq1 h2
     by_cases h1:z1=34
     ·rw [dc_t ⟨he,Or.inr ⟨h0,h2,Or.inl h1⟩⟩]
      have g1:=beq1 h1
      clear h1 h2 he ho hq2 h0
      go_enter Tryz.func96,Tryz.ntmps96
      go_wp2_with go_in
      go_ret
      exact ⟨by first | rfl | (simp only [*];rfl) | simp [*],by repeat (first | exact Kb.refl _ _ | apply Kb.alloc)⟩
     ·have g1:=bne h1
      by_cases h3:z1=37
      ·rw [dc_t ⟨he,Or.inr ⟨h0,h2,Or.inr h3⟩⟩]
       have g3:=beq1 h3
       clear h1 h2 h3 he ho hq2 h0
       go_enter Tryz.func96,Tryz.ntmps96
       go_wp2_with go_in
       go_ret
       exact ⟨by first | rfl | (simp only [*];rfl) | simp [*],by repeat (first | exact Kb.refl _ _ | apply Kb.alloc)⟩
      ·have g3:=bne h3
       rw [dc_f (fun g=>g.2.elim ho (fun z=>z.2.2.elim h1 h3))]
       clear h1 h2 h3 he ho hq2 h0
       go_enter Tryz.func96,Tryz.ntmps96
       go_wp2_with go_in
       go_ret
       exact ⟨by first | rfl | (simp only [*];rfl) | simp [*],by repeat (first | exact Kb.refl _ _ | apply Kb.alloc)⟩
    ·have g2:=bne h2
     rw [dc_f (fun g=>g.2.elim ho (fun z=>h2 z.2.1))]
     clear h2 he ho hq2 h0
     go_enter Tryz.func96,Tryz.ntmps96
     go_wp2_with go_in
     go_ret
     exact ⟨by first | rfl | (simp only [*];rfl) | simp [*],by repeat (first | exact Kb.refl _ _ | apply Kb.alloc)⟩
 ·rw [dc_f (fun g=>he g.1)]
  have ge:Int.tmod (q:Int) 2=1:=by rw [show Int.tmod (q:Int) 2=((q % 2:Nat):Int) from rfl,show q % 2=1 by omega];rfl
  clear hra hk hK he
  go_enter Tryz.func96,Tryz.ntmps96
  go_wp2_with go_in
  go_ret
  exact ⟨by first | rfl | (simp only [*];rfl) | simp [*],by repeat (first | exact Kb.refl _ _ | apply Kb.alloc)⟩
end Go.Proofs.YtfpidccjcemcjaaGreat.Fo
