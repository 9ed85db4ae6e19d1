import Derived.Test.YtfpidccjcemcjaaGreatMZsq
import Derived.Test.YtfpidccjcemcjaaGreatMNdn
import Derived.Test.YtfpidccjcemcjaaGreatMNcda
import Derived.Test.YtfpidccjcemcjaaGreatMNcf
import Derived.Test.YtfpidccjcemcjaaGreatMNcg
import Derived.Test.YtfpidccjcemcjaaGreatMNch
import Derived.Test.YtfpidccjcemcjaaGreatMNcj
import Derived.Test.YtfpidccjcemcjaaGreatMNdl
set_option maxHeartbeats 8000000
namespace Go.Proofs.YtfpidccjcemcjaaGreat.Fo
open Go.ChangeShapes Go.WideShapes Go.ChangeAt Go.RowKit
set_option linter.unusedVariables false
set_option maxRecDepth 100000
def StM (a:Nv) (p q:Nat) (kdf:Nat→Int) (exf:Nat→Nat→Prop):Prop :=
 (a.k=1→(∀ i,i < q→St (kdf i))∧Br false false false false a p 0) ∧
 (a.k=2→0 < p∧Br false false false false a p (p:Int)∧exf 0 q) ∧
 (a.k=3→1≤a.m∧a.m < (q:Int)∧(∀ i:Nat,(i:Int) < a.m→kdf i=26∨kdf i=27∨kdf i=33)∧Br false true false false a p 0∧exf a.m.toNat q) ∧
 (a.k=4→q=1∧kdf 0=34∧Br false false false false a p 0) ∧
 (a.k=5→(q=2∨q=3∧(kdf 2=1∨kdf 2=5))∧exf 0 1∧kdf 1=1∧Br false false false false a p 0) ∧
 (a.k=6→q=2∧exf 0 1∧kdf 1=1∧Br false false false false a p 0) ∧
 (a.k=7→q=4∧exf 0 3∧kdf 3=1∧Br false false false false a p 1) ∧
 (a.k=8→q=2∧1≤p∧p≤4∧exf 0 1∧kdf 1=1∧Br false false false false a p (p:Int)) ∧
 (a.k=9→q=0∧Br false false false false a p 0) ∧
 (a.k=10→q=0∧Br false false false false a p 0) ∧
 (a.k=11→exf 0 q∧Br false false false false a p 0) ∧
 (a.k=12→q=2∧kdf 0=1∧kdf 1=1∧Br false false false false a p 2) ∧
 (a.k=13→q=1∧exf 0 1∧Br false false false false a p 0) ∧
 (a.k=14→q=1∧kdf 0=34∧Br false false false false a p 0)
def ExM (a:Nv) (p q:Nat) (kdf:Nat→Int) (exf:Nat→Nat→Prop):Prop :=
 Ex a.k ∧
 (a.k=20→q=0∧Br false false false false a p 0) ∧
 (a.k=21→q=0∧Br false false false false a p 0) ∧
 (a.k=22→q=0∧Br false false false false a p 0) ∧
 (a.k=23→q=0∧Br false true false false a p 0) ∧
 (a.k=24→q=0∧fn a.g∧Br false false true false a p 0) ∧
 (a.k=25→q=0∧a.x.size≤4000∧Br false false false true a p 0) ∧
 (a.k=26→q=0∧Br false false false false a p 1) ∧
 (a.k=27→q=0∧Br false false false false a p 1) ∧
 (a.k=28→q=0∧0≤a.m∧a.m < 15∧Br false true false false a p 0) ∧
 (a.k=29→q=2∧exf 0 q∧Br false false false false a p 0) ∧
 (a.k=30→q=2∧exf 0 q∧Br false false false false a p 0) ∧
 (a.k=31→q=1∧exf 0 q∧19≤a.o∧a.o≤22∧Br true false false false a p 0) ∧
 (a.k=32→q=2∧exf 0 q∧1≤a.o∧a.o≤18∧Br true false false false a p 0) ∧
 (a.k=33→q=2∧exf 0 q∧Br false false false false a p 0) ∧
 (a.k=34→1≤q∧exf 0 q∧Br false false false false a p 0) ∧
 (a.k=35→(a.o=0∨a.o=1∧2≤q∧kdf (q - 2)=23∧(kdf (q - 1)=34∨kdf (q - 1)=37))∧q % 2=0∧exf 0 q∧Br true false false false a p 0) ∧
 (a.k=36→q=0∧Br false false false false a p 1) ∧
 (a.k=37→q=0∧Br false false false false a p 0) ∧
 (a.k=38→q=1∧(kdf 0=34∨kdf 0=37)∧Br false false false false a p 0)
theorem StM_1 {a:Nv} {p q:Nat} {kdf:Nat→Int} {exf:Nat→Nat→Prop} (hk:a.k=1):StM a p q kdf exf↔((∀ i,i < q→St (kdf i))∧Br false false false false a p 0):=by
 constructor
 ·intro h
  exact (h.1) hk
 ·intro h
  exact ⟨fun _=>h,fun g=>by omega,fun g=>by omega,fun g=>by omega,fun g=>by omega,fun g=>by omega,fun g=>by omega,fun g=>by omega,fun g=>by omega,fun g=>by omega,fun g=>by omega,fun g=>by omega,fun g=>by omega,fun g=>by omega⟩
theorem StM_2 {a:Nv} {p q:Nat} {kdf:Nat→Int} {exf:Nat→Nat→Prop} (hk:a.k=2):StM a p q kdf exf↔(0 < p∧Br false false false false a p (p:Int)∧exf 0 q):=by
 constructor
 ·intro h
  exact (h.2.1) hk
 ·intro h
  exact ⟨fun g=>by omega,fun _=>h,fun g=>by omega,fun g=>by omega,fun g=>by omega,fun g=>by omega,fun g=>by omega,fun g=>by omega,fun g=>by omega,fun g=>by omega,fun g=>by omega,fun g=>by omega,fun g=>by omega,fun g=>by omega⟩
theorem StM_3 {a:Nv} {p q:Nat} {kdf:Nat→Int} {exf:Nat→Nat→Prop} (hk:a.k=3):StM a p q kdf exf↔(1≤a.m∧a.m < (q:Int)∧(∀ i:Nat,(i:Int) < a.m→kdf i=26∨kdf i=27∨kdf i=33)∧Br false true false false a p 0∧exf a.m.toNat q):=by
 constructor
 ·intro h
  exact (h.2.2.1) hk
 ·intro h
  exact ⟨fun g=>by omega,fun g=>by omega,fun _=>h,fun g=>by omega,fun g=>by omega,fun g=>by omega,fun g=>by omega,fun g=>by omega,fun g=>by omega,fun g=>by omega,fun g=>by omega,fun g=>by omega,fun g=>by omega,fun g=>by omega⟩
theorem StM_4 {a:Nv} {p q:Nat} {kdf:Nat→Int} {exf:Nat→Nat→Prop} (hk:a.k=4):StM a p q kdf exf↔(q=1∧kdf 0=34∧Br false false false false a p 0):=by
 constructor
 ·intro h
  exact (h.2.2.2.1) hk
 ·intro h
  exact ⟨fun g=>by omega,fun g=>by omega,fun g=>by omega,fun _=>h,fun g=>by omega,fun g=>by omega,fun g=>by omega,fun g=>by omega,fun g=>by omega,fun g=>by omega,fun g=>by omega,fun g=>by omega,fun g=>by omega,fun g=>by omega⟩
theorem StM_5 {a:Nv} {p q:Nat} {kdf:Nat→Int} {exf:Nat→Nat→Prop} (hk:a.k=5):StM a p q kdf exf↔((q=2∨q=3∧(kdf 2=1∨kdf 2=5))∧exf 0 1∧kdf 1=1∧Br false false false false a p 0):=by
 constructor
 ·intro h
  exact (h.2.2.2.2.1) hk
 ·intro h
  exact ⟨fun g=>by omega,fun g=>by omega,fun g=>by omega,fun g=>by omega,fun _=>h,fun g=>by omega,fun g=>by omega,fun g=>by omega,fun g=>by omega,fun g=>by omega,fun g=>by omega,fun g=>by omega,fun g=>by omega,fun g=>by omega⟩
theorem StM_6 {a:Nv} {p q:Nat} {kdf:Nat→Int} {exf:Nat→Nat→Prop} (hk:a.k=6):StM a p q kdf exf↔(q=2∧exf 0 1∧kdf 1=1∧Br false false false false a p 0):=by
 constructor
 ·intro h
  exact (h.2.2.2.2.2.1) hk
 ·intro h
  exact ⟨fun g=>by omega,fun g=>by omega,fun g=>by omega,fun g=>by omega,fun g=>by omega,fun _=>h,fun g=>by omega,fun g=>by omega,fun g=>by omega,fun g=>by omega,fun g=>by omega,fun g=>by omega,fun g=>by omega,fun g=>by omega⟩
theorem StM_7 {a:Nv} {p q:Nat} {kdf:Nat→Int} {exf:Nat→Nat→Prop} (hk:a.k=7):StM a p q kdf exf↔(q=4∧exf 0 3∧kdf 3=1∧Br false false false false a p 1):=by
 constructor
 ·intro h
  exact (h.2.2.2.2.2.2.1) hk
 ·intro h
  exact ⟨fun g=>by omega,fun g=>by omega,fun g=>by omega,fun g=>by omega,fun g=>by omega,fun g=>by omega,fun _=>h,fun g=>by omega,fun g=>by omega,fun g=>by omega,fun g=>by omega,fun g=>by omega,fun g=>by omega,fun g=>by omega⟩
theorem StM_8 {a:Nv} {p q:Nat} {kdf:Nat→Int} {exf:Nat→Nat→Prop} (hk:a.k=8):StM a p q kdf exf↔(q=2∧1≤p∧p≤4∧exf 0 1∧kdf 1=1∧Br false false false false a p (p:Int)):=by
 constructor
 ·intro h
  exact (h.2.2.2.2.2.2.2.1) hk
 ·intro h
  exact ⟨fun g=>by omega,fun g=>by omega,fun g=>by omega,fun g=>by omega,fun g=>by omega,fun g=>by omega,fun g=>by omega,fun _=>h,fun g=>by omega,fun g=>by omega,fun g=>by omega,fun g=>by omega,fun g=>by omega,fun g=>by omega⟩
theorem StM_9 {a:Nv} {p q:Nat} {kdf:Nat→Int} {exf:Nat→Nat→Prop} (hk:a.k=9):StM a p q kdf exf↔(q=0∧Br false false false false a p 0):=by
 constructor
 ·intro h
  exact (h.2.2.2.2.2.2.2.2.1) hk
 ·intro h
  exact ⟨fun g=>by omega,fun g=>by omega,fun g=>by omega,fun g=>by omega,fun g=>by omega,fun g=>by omega,fun g=>by omega,fun g=>by omega,fun _=>h,fun g=>by omega,fun g=>by omega,fun g=>by omega,fun g=>by omega,fun g=>by omega⟩
theorem StM_10 {a:Nv} {p q:Nat} {kdf:Nat→Int} {exf:Nat→Nat→Prop} (hk:a.k=10):StM a p q kdf exf↔(q=0∧Br false false false false a p 0):=by
 constructor
 ·intro h
  exact (h.2.2.2.2.2.2.2.2.2.1) hk
 ·intro h
  exact ⟨fun g=>by omega,fun g=>by omega,fun g=>by omega,fun g=>by omega,fun g=>by omega,fun g=>by omega,fun g=>by omega,fun g=>by omega,fun g=>by omega,fun _=>h,fun g=>by omega,fun g=>by omega,fun g=>by omega,fun g=>by omega⟩
theorem StM_11 {a:Nv} {p q:Nat} {kdf:Nat→Int} {exf:Nat→Nat→Prop} (hk:a.k=11):StM a p q kdf exf↔(exf 0 q∧Br false false false false a p 0):=by
 constructor
 ·intro h
  exact (h.2.2.2.2.2.2.2.2.2.2.1) hk
 ·intro h
  exact ⟨fun g=>by omega,fun g=>by omega,fun g=>by omega,fun g=>by omega,fun g=>by omega,fun g=>by omega,fun g=>by omega,fun g=>by omega,fun g=>by omega,fun g=>by omega,fun _=>h,fun g=>by omega,fun g=>by omega,fun g=>by omega⟩
theorem StM_12 {a:Nv} {p q:Nat} {kdf:Nat→Int} {exf:Nat→Nat→Prop} (hk:a.k=12):StM a p q kdf exf↔(q=2∧kdf 0=1∧kdf 1=1∧Br false false false false a p 2):=by
 constructor
 ·intro h
  exact (h.2.2.2.2.2.2.2.2.2.2.2.1) hk
 ·intro h
  exact ⟨fun g=>by omega,fun g=>by omega,fun g=>by omega,fun g=>by omega,fun g=>by omega,fun g=>by omega,fun g=>by omega,fun g=>by omega,fun g=>by omega,fun g=>by omega,fun g=>by omega,fun _=>h,fun g=>by omega,fun g=>by omega⟩
theorem StM_13 {a:Nv} {p q:Nat} {kdf:Nat→Int} {exf:Nat→Nat→Prop} (hk:a.k=13):StM a p q kdf exf↔(q=1∧exf 0 1∧Br false false false false a p 0):=by
 constructor
 ·intro h
  exact (h.2.2.2.2.2.2.2.2.2.2.2.2.1) hk
 ·intro h
  exact ⟨fun g=>by omega,fun g=>by omega,fun g=>by omega,fun g=>by omega,fun g=>by omega,fun g=>by omega,fun g=>by omega,fun g=>by omega,fun g=>by omega,fun g=>by omega,fun g=>by omega,fun g=>by omega,fun _=>h,fun g=>by omega⟩
theorem StM_14 {a:Nv} {p q:Nat} {kdf:Nat→Int} {exf:Nat→Nat→Prop} (hk:a.k=14):StM a p q kdf exf↔(q=1∧kdf 0=34∧Br false false false false a p 0):=by
 constructor
 ·intro h
  exact (h.2.2.2.2.2.2.2.2.2.2.2.2.2) hk
 ·intro h
  exact ⟨fun g=>by omega,fun g=>by omega,fun g=>by omega,fun g=>by omega,fun g=>by omega,fun g=>by omega,fun g=>by omega,fun g=>by omega,fun g=>by omega,fun g=>by omega,fun g=>by omega,fun g=>by omega,fun g=>by omega,fun _=>h⟩
theorem ExM_20 {a:Nv} {p q:Nat} {kdf:Nat→Int} {exf:Nat→Nat→Prop} (hk:a.k=20):ExM a p q kdf exf↔(q=0∧Br false false false false a p 0):=by
 constructor
 ·intro h
  exact (h.2.1) hk
 ·intro h
  exact ⟨by unfold Ex;omega,fun _=>h,fun g=>by omega,fun g=>by omega,fun g=>by omega,fun g=>by omega,fun g=>by omega,fun g=>by omega,fun g=>by omega,fun g=>by omega,fun g=>by omega,fun g=>by omega,fun g=>by omega,fun g=>by omega,fun g=>by omega,fun g=>by omega,fun g=>by omega,fun g=>by omega,fun g=>by omega,fun g=>by omega⟩
theorem ExM_21 {a:Nv} {p q:Nat} {kdf:Nat→Int} {exf:Nat→Nat→Prop} (hk:a.k=21):ExM a p q kdf exf↔(q=0∧Br false false false false a p 0):=by
 constructor
 ·intro h
  exact (h.2.2.1) hk
 ·intro h
  exact ⟨by unfold Ex;omega,fun g=>by omega,fun _=>h,fun g=>by omega,fun g=>by omega,fun g=>by omega,fun g=>by omega,fun g=>by omega,fun g=>by omega,fun g=>by omega,fun g=>by omega,fun g=>by omega,fun g=>by omega,fun g=>by omega,fun g=>by omega,fun g=>by omega,fun g=>by omega,fun g=>by omega,fun g=>by omega,fun g=>by omega⟩
theorem ExM_22 {a:Nv} {p q:Nat} {kdf:Nat→Int} {exf:Nat→Nat→Prop} (hk:a.k=22):ExM a p q kdf exf↔(q=0∧Br false false false false a p 0):=by
 constructor
 ·intro h
  exact (h.2.2.2.1) hk
 ·intro h
  exact ⟨by unfold Ex;omega,fun g=>by omega,fun g=>by omega,fun _=>h,fun g=>by omega,fun g=>by omega,fun g=>by omega,fun g=>by omega,fun g=>by omega,fun g=>by omega,fun g=>by omega,fun g=>by omega,fun g=>by omega,fun g=>by omega,fun g=>by omega,fun g=>by omega,fun g=>by omega,fun g=>by omega,fun g=>by omega,fun g=>by omega⟩
theorem ExM_23 {a:Nv} {p q:Nat} {kdf:Nat→Int} {exf:Nat→Nat→Prop} (hk:a.k=23):ExM a p q kdf exf↔(q=0∧Br false true false false a p 0):=by
 constructor
 ·intro h
  exact (h.2.2.2.2.1) hk
 ·intro h
  exact ⟨by unfold Ex;omega,fun g=>by omega,fun g=>by omega,fun g=>by omega,fun _=>h,fun g=>by omega,fun g=>by omega,fun g=>by omega,fun g=>by omega,fun g=>by omega,fun g=>by omega,fun g=>by omega,fun g=>by omega,fun g=>by omega,fun g=>by omega,fun g=>by omega,fun g=>by omega,fun g=>by omega,fun g=>by omega,fun g=>by omega⟩
theorem ExM_24 {a:Nv} {p q:Nat} {kdf:Nat→Int} {exf:Nat→Nat→Prop} (hk:a.k=24):ExM a p q kdf exf↔(q=0∧fn a.g∧Br false false true false a p 0):=by
 constructor
 ·intro h
  exact (h.2.2.2.2.2.1) hk
 ·intro h
  exact ⟨by unfold Ex;omega,fun g=>by omega,fun g=>by omega,fun g=>by omega,fun g=>by omega,fun _=>h,fun g=>by omega,fun g=>by omega,fun g=>by omega,fun g=>by omega,fun g=>by omega,fun g=>by omega,fun g=>by omega,fun g=>by omega,fun g=>by omega,fun g=>by omega,fun g=>by omega,fun g=>by omega,fun g=>by omega,fun g=>by omega⟩
theorem ExM_25 {a:Nv} {p q:Nat} {kdf:Nat→Int} {exf:Nat→Nat→Prop} (hk:a.k=25):ExM a p q kdf exf↔(q=0∧a.x.size≤4000∧Br false false false true a p 0):=by
 constructor
 ·intro h
  exact (h.2.2.2.2.2.2.1) hk
 ·intro h
  exact ⟨by unfold Ex;omega,fun g=>by omega,fun g=>by omega,fun g=>by omega,fun g=>by omega,fun g=>by omega,fun _=>h,fun g=>by omega,fun g=>by omega,fun g=>by omega,fun g=>by omega,fun g=>by omega,fun g=>by omega,fun g=>by omega,fun g=>by omega,fun g=>by omega,fun g=>by omega,fun g=>by omega,fun g=>by omega,fun g=>by omega⟩
theorem ExM_26 {a:Nv} {p q:Nat} {kdf:Nat→Int} {exf:Nat→Nat→Prop} (hk:a.k=26):ExM a p q kdf exf↔(q=0∧Br false false false false a p 1):=by
 constructor
 ·intro h
  exact (h.2.2.2.2.2.2.2.1) hk
 ·intro h
  exact ⟨by unfold Ex;omega,fun g=>by omega,fun g=>by omega,fun g=>by omega,fun g=>by omega,fun g=>by omega,fun g=>by omega,fun _=>h,fun g=>by omega,fun g=>by omega,fun g=>by omega,fun g=>by omega,fun g=>by omega,fun g=>by omega,fun g=>by omega,fun g=>by omega,fun g=>by omega,fun g=>by omega,fun g=>by omega,fun g=>by omega⟩
theorem ExM_27 {a:Nv} {p q:Nat} {kdf:Nat→Int} {exf:Nat→Nat→Prop} (hk:a.k=27):ExM a p q kdf exf↔(q=0∧Br false false false false a p 1):=by
 constructor
 ·intro h
  exact (h.2.2.2.2.2.2.2.2.1) hk
 ·intro h
  exact ⟨by unfold Ex;omega,fun g=>by omega,fun g=>by omega,fun g=>by omega,fun g=>by omega,fun g=>by omega,fun g=>by omega,fun g=>by omega,fun _=>h,fun g=>by omega,fun g=>by omega,fun g=>by omega,fun g=>by omega,fun g=>by omega,fun g=>by omega,fun g=>by omega,fun g=>by omega,fun g=>by omega,fun g=>by omega,fun g=>by omega⟩
theorem ExM_28 {a:Nv} {p q:Nat} {kdf:Nat→Int} {exf:Nat→Nat→Prop} (hk:a.k=28):ExM a p q kdf exf↔(q=0∧0≤a.m∧a.m < 15∧Br false true false false a p 0):=by
 constructor
 ·intro h
  exact (h.2.2.2.2.2.2.2.2.2.1) hk
 ·intro h
  exact ⟨by unfold Ex;omega,fun g=>by omega,fun g=>by omega,fun g=>by omega,fun g=>by omega,fun g=>by omega,fun g=>by omega,fun g=>by omega,fun g=>by omega,fun _=>h,fun g=>by omega,fun g=>by omega,fun g=>by omega,fun g=>by omega,fun g=>by omega,fun g=>by omega,fun g=>by omega,fun g=>by omega,fun g=>by omega,fun g=>by omega⟩
theorem ExM_29 {a:Nv} {p q:Nat} {kdf:Nat→Int} {exf:Nat→Nat→Prop} (hk:a.k=29):ExM a p q kdf exf↔(q=2∧exf 0 q∧Br false false false false a p 0):=by
 constructor
 ·intro h
  exact (h.2.2.2.2.2.2.2.2.2.2.1) hk
 ·intro h
  exact ⟨by unfold Ex;omega,fun g=>by omega,fun g=>by omega,fun g=>by omega,fun g=>by omega,fun g=>by omega,fun g=>by omega,fun g=>by omega,fun g=>by omega,fun g=>by omega,fun _=>h,fun g=>by omega,fun g=>by omega,fun g=>by omega,fun g=>by omega,fun g=>by omega,fun g=>by omega,fun g=>by omega,fun g=>by omega,fun g=>by omega⟩
theorem ExM_30 {a:Nv} {p q:Nat} {kdf:Nat→Int} {exf:Nat→Nat→Prop} (hk:a.k=30):ExM a p q kdf exf↔(q=2∧exf 0 q∧Br false false false false a p 0):=by
 constructor
 ·intro h
  exact (h.2.2.2.2.2.2.2.2.2.2.2.1) hk
 ·intro h
  exact ⟨by unfold Ex;omega,fun g=>by omega,fun g=>by omega,fun g=>by omega,fun g=>by omega,fun g=>by omega,fun g=>by omega,fun g=>by omega,fun g=>by omega,fun g=>by omega,fun g=>by omega,fun _=>h,fun g=>by omega,fun g=>by omega,fun g=>by omega,fun g=>by omega,fun g=>by omega,fun g=>by omega,fun g=>by omega,fun g=>by omega⟩
theorem ExM_31 {a:Nv} {p q:Nat} {kdf:Nat→Int} {exf:Nat→Nat→Prop} (hk:a.k=31):ExM a p q kdf exf↔(q=1∧exf 0 q∧19≤a.o∧a.o≤22∧Br true false false false a p 0):=by
 constructor
 ·intro h
  exact (h.2.2.2.2.2.2.2.2.2.2.2.2.1) hk
 ·intro h
  exact ⟨by unfold Ex;omega,fun g=>by omega,fun g=>by omega,fun g=>by omega,fun g=>by omega,fun g=>by omega,fun g=>by omega,fun g=>by omega,fun g=>by omega,fun g=>by omega,fun g=>by omega,fun g=>by omega,fun _=>h,fun g=>by omega,fun g=>by omega,fun g=>by omega,fun g=>by omega,fun g=>by omega,fun g=>by omega,fun g=>by omega⟩
theorem ExM_32 {a:Nv} {p q:Nat} {kdf:Nat→Int} {exf:Nat→Nat→Prop} (hk:a.k=32):ExM a p q kdf exf↔(q=2∧exf 0 q∧1≤a.o∧a.o≤18∧Br true false false false a p 0):=by
 constructor
 ·intro h
  exact (h.2.2.2.2.2.2.2.2.2.2.2.2.2.1) hk
 ·intro h
  exact ⟨by unfold Ex;omega,fun g=>by omega,fun g=>by omega,fun g=>by omega,fun g=>by omega,fun g=>by omega,fun g=>by omega,fun g=>by omega,fun g=>by omega,fun g=>by omega,fun g=>by omega,fun g=>by omega,fun g=>by omega,fun _=>h,fun g=>by omega,fun g=>by omega,fun g=>by omega,fun g=>by omega,fun g=>by omega,fun g=>by omega⟩
theorem ExM_33 {a:Nv} {p q:Nat} {kdf:Nat→Int} {exf:Nat→Nat→Prop} (hk:a.k=33):ExM a p q kdf exf↔(q=2∧exf 0 q∧Br false false false false a p 0):=by
 constructor
 ·intro h
  exact (h.2.2.2.2.2.2.2.2.2.2.2.2.2.2.1) hk
 ·intro h
  exact ⟨by unfold Ex;omega,fun g=>by omega,fun g=>by omega,fun g=>by omega,fun g=>by omega,fun g=>by omega,fun g=>by omega,fun g=>by omega,fun g=>by omega,fun g=>by omega,fun g=>by omega,fun g=>by omega,fun g=>by omega,fun g=>by omega,fun _=>h,fun g=>by omega,fun g=>by omega,fun g=>by omega,fun g=>by omega,fun g=>by omega⟩
theorem ExM_34 {a:Nv} {p q:Nat} {kdf:Nat→Int} {exf:Nat→Nat→Prop} (hk:a.k=34):ExM a p q kdf exf↔(1≤q∧exf 0 q∧Br false false false false a p 0):=by
 constructor
 ·intro h
  exact (h.2.2.2.2.2.2.2.2.2.2.2.2.2.2.2.1) hk
 ·intro h
  exact ⟨by unfold Ex;omega,fun g=>by omega,fun g=>by omega,fun g=>by omega,fun g=>by omega,fun g=>by omega,fun g=>by omega,fun g=>by omega,fun g=>by omega,fun g=>by omega,fun g=>by omega,fun g=>by omega,fun g=>by omega,fun g=>by omega,fun g=>by omega,fun _=>h,fun g=>by omega,fun g=>by omega,fun g=>by omega,fun g=>by omega⟩
theorem ExM_35 {a:Nv} {p q:Nat} {kdf:Nat→Int} {exf:Nat→Nat→Prop} (hk:a.k=35):ExM a p q kdf exf↔((a.o=0∨a.o=1∧2≤q∧kdf (q - 2)=23∧(kdf (q - 1)=34∨kdf (q - 1)=37))∧q % 2=0∧exf 0 q∧Br true false false false a p 0):=by
 constructor
 ·intro h
  exact (h.2.2.2.2.2.2.2.2.2.2.2.2.2.2.2.2.1) hk
 ·intro h
  exact ⟨by unfold Ex;omega,fun g=>by omega,fun g=>by omega,fun g=>by omega,fun g=>by omega,fun g=>by omega,fun g=>by omega,fun g=>by omega,fun g=>by omega,fun g=>by omega,fun g=>by omega,fun g=>by omega,fun g=>by omega,fun g=>by omega,fun g=>by omega,fun g=>by omega,fun _=>h,fun g=>by omega,fun g=>by omega,fun g=>by omega⟩
theorem ExM_36 {a:Nv} {p q:Nat} {kdf:Nat→Int} {exf:Nat→Nat→Prop} (hk:a.k=36):ExM a p q kdf exf↔(q=0∧Br false false false false a p 1):=by
 constructor
 ·intro h
  exact (h.2.2.2.2.2.2.2.2.2.2.2.2.2.2.2.2.2.1) hk
 ·intro h
  exact ⟨by unfold Ex;omega,fun g=>by omega,fun g=>by omega,fun g=>by omega,fun g=>by omega,fun g=>by omega,fun g=>by omega,fun g=>by omega,fun g=>by omega,fun g=>by omega,fun g=>by omega,fun g=>by omega,fun g=>by omega,fun g=>by omega,fun g=>by omega,fun g=>by omega,fun g=>by omega,fun _=>h,fun g=>by omega,fun g=>by omega⟩
theorem ExM_37 {a:Nv} {p q:Nat} {kdf:Nat→Int} {exf:Nat→Nat→Prop} (hk:a.k=37):ExM a p q kdf exf↔(q=0∧Br false false false false a p 0):=by
 constructor
 ·intro h
  exact (h.2.2.2.2.2.2.2.2.2.2.2.2.2.2.2.2.2.2.1) hk
 ·intro h
  exact ⟨by unfold Ex;omega,fun g=>by omega,fun g=>by omega,fun g=>by omega,fun g=>by omega,fun g=>by omega,fun g=>by omega,fun g=>by omega,fun g=>by omega,fun g=>by omega,fun g=>by omega,fun g=>by omega,fun g=>by omega,fun g=>by omega,fun g=>by omega,fun g=>by omega,fun g=>by omega,fun g=>by omega,fun _=>h,fun g=>by omega⟩
theorem ExM_38 {a:Nv} {p q:Nat} {kdf:Nat→Int} {exf:Nat→Nat→Prop} (hk:a.k=38):ExM a p q kdf exf↔(q=1∧(kdf 0=34∨kdf 0=37)∧Br false false false false a p 0):=by
 constructor
 ·intro h
  exact (h.2.2.2.2.2.2.2.2.2.2.2.2.2.2.2.2.2.2.2) hk
 ·intro h
  exact ⟨by unfold Ex;omega,fun g=>by omega,fun g=>by omega,fun g=>by omega,fun g=>by omega,fun g=>by omega,fun g=>by omega,fun g=>by omega,fun g=>by omega,fun g=>by omega,fun g=>by omega,fun g=>by omega,fun g=>by omega,fun g=>by omega,fun g=>by omega,fun g=>by omega,fun g=>by omega,fun g=>by omega,fun g=>by omega,fun _=>h⟩
theorem sp_statement {A:Addr} {n ca t:Nat} {a:Nv} {pr pk:Option Addr} {p cr q ck:Nat} {kdf:Nat→Int} {exf:Nat→Nat→Prop} (w:World) (hx:Nst w A n ca t a pr p cr pk q ck kdf exf) (hk:St a.k):Calls Tryz.prog 54 #[.slice (some A) n ca,.int .i64 (t:Int)] w fun e w'=>e = .returned (.bool (dc (StM a p q kdf exf)))∧Kb 0 w w':=by
 obtain ⟨h1,h2⟩:=hk
 have hc:a.k=1∨a.k=2∨a.k=3∨a.k=4∨a.k=5∨a.k=6∨a.k=7∨a.k=8∨a.k=9∨a.k=10∨a.k=11∨a.k=12∨a.k=13∨a.k=14:=by omega
 rcases hc with h | h | h | h | h | h | h | h | h | h | h | h | h | h
 ·rw [dc_iff (StM_1 h)];exact st_1 w hx h
 ·rw [dc_iff (StM_2 h)];exact st_2 w hx h
 ·rw [dc_iff (StM_3 h)];exact st_3 w hx h
 ·rw [dc_iff (StM_4 h)];exact st_4 w hx h
 ·rw [dc_iff (StM_5 h)];exact st_5 w hx h
 ·rw [dc_iff (StM_6 h)];exact st_6 w hx h
 ·rw [dc_iff (StM_7 h)];exact st_7 w hx h
 ·rw [dc_iff (StM_8 h)];exact st_8 w hx h
 ·rw [dc_iff (StM_9 h)];exact st_9 w hx h
 ·rw [dc_iff (StM_10 h)];exact st_10 w hx h
 ·rw [dc_iff (StM_11 h)];exact st_11 w hx h
 ·rw [dc_iff (StM_12 h)];exact st_12 w hx h
 ·rw [dc_iff (StM_13 h)];exact st_13 w hx h
 ·rw [dc_iff (StM_14 h)];exact st_14 w hx h
theorem ex_none {A:Addr} {n ca t:Nat} {a:Nv} {pr pk:Option Addr} {p cr q ck:Nat} {kdf:Nat→Int} {exf:Nat→Nat→Prop} (w:World) (hx:Nst w A n ca t a pr p cr pk q ck kdf exf) (hk:a.k ≠ 20∧a.k ≠ 21∧a.k ≠ 22∧a.k ≠ 23∧a.k ≠ 24∧a.k ≠ 25∧a.k ≠ 26∧a.k ≠ 27∧a.k ≠ 28∧a.k ≠ 29∧a.k ≠ 30∧a.k ≠ 31∧a.k ≠ 32∧a.k ≠ 33∧a.k ≠ 34∧a.k ≠ 35∧a.k ≠ 36∧a.k ≠ 37∧a.k ≠ 38):Calls Tryz.prog 55 #[.slice (some A) n ca,.int .i64 (t:Int)] w fun e w'=>e = .returned (.bool false)∧Kb 0 w w':=by
 obtain ⟨d0,d1,d2,d3,d4,d5,d6,d7⟩:=hx.cel
 have hnI:(n:Int)≤1048576:=by have:=hx.hn;omega
 have hpI:(p:Int)≤1048576:=by have:=hx.hp;omega
 have hqI:(q:Int)≤1048576:=by have:=hx.hq;omega
 have htI:(t:Int) < (n:Int):=by have:=hx.ht;omega
 have Qhall:Calls Tryz.prog 73 #[.slice (some A) n ca,.int .i64 (t:Int),.int .i64 0,.int .i64 (q:Int)] (w.alloc (.cells #[.int .i64 a.k,.int .i64 a.l,.int .i64 a.o,.int .i64 a.m,.float .f64 a.g,.string a.x,.slice pr p cr,.slice pk q ck] 59)) fun e w'=>e = .returned (.bool (dc (exf 0 q)))∧w'=(w.alloc (.cells #[.int .i64 a.k,.int .i64 a.l,.int .i64 a.o,.int .i64 a.m,.float .f64 a.g,.string a.x,.slice pr p cr,.slice pk q ck] 59)):=hx.exp 0 q _ (kb_alloc _ _ _) (by omega) hx.hq
 clear hx
 obtain ⟨g20,g21,g22,g23,g24,g25,g26,g27,g28,g29,g30,g31,g32,g33,g34,g35,g36,g37,g38⟩:=hk
 replace g20:=bne g20
 replace g21:=bne g21
 replace g22:=bne g22
 replace g23:=bne g23
 replace g24:=bne g24
 replace g25:=bne g25
 replace g26:=bne g26
 replace g27:=bne g27
 replace g28:=bne g28
 replace g29:=bne g29
 replace g30:=bne g30
 replace g31:=bne g31
 replace g32:=bne g32
 replace g33:=bne g33
 replace g34:=bne g34
 replace g35:=bne g35
 replace g36:=bne g36
 replace g37:=bne g37
 replace g38:=bne g38
 have hst:=hst0
 go_enter Tryz.func55,Tryz.ntmps55
 go_wp2_with (first | (go_at_call 73;refine Qhall.mono ?_;rintro e w1 ⟨rfl,rfl⟩))
 go_ret
 exact ⟨rfl,kb_alloc _ _ _⟩
theorem sp_expression {A:Addr} {n ca t:Nat} {a:Nv} {pr pk:Option Addr} {p cr q ck:Nat} {kdf:Nat→Int} {exf:Nat→Nat→Prop} (w:World) (hx:Nst w A n ca t a pr p cr pk q ck kdf exf):Calls Tryz.prog 55 #[.slice (some A) n ca,.int .i64 (t:Int)] w fun e w'=>e = .returned (.bool (dc (ExM a p q kdf exf)))∧Kb 0 w w':=by
 by_cases hk:Ex a.k
 ·obtain ⟨h1,h2⟩:=hk
  have hc:a.k=20∨a.k=21∨a.k=22∨a.k=23∨a.k=24∨a.k=25∨a.k=26∨a.k=27∨a.k=28∨a.k=29∨a.k=30∨a.k=31∨a.k=32∨a.k=33∨a.k=34∨a.k=35∨a.k=36∨a.k=37∨a.k=38:=by omega
  rcases hc with h | h | h | h | h | h | h | h | h | h | h | h | h | h | h | h | h | h | h
  ·rw [dc_iff (ExM_20 h)];exact ex_20 w hx h
  ·rw [dc_iff (ExM_21 h)];exact ex_21 w hx h
  ·rw [dc_iff (ExM_22 h)];exact ex_22 w hx h
  ·rw [dc_iff (ExM_23 h)];exact ex_23 w hx h
  ·rw [dc_iff (ExM_24 h)];exact ex_24 w hx h
  ·rw [dc_iff (ExM_25 h)];exact ex_25 w hx h
  ·rw [dc_iff (ExM_26 h)];exact ex_26 w hx h
  ·rw [dc_iff (ExM_27 h)];exact ex_27 w hx h
  ·rw [dc_iff (ExM_28 h)];exact ex_28 w hx h
  ·rw [dc_iff (ExM_29 h)];exact ex_29 w hx h
  ·rw [dc_iff (ExM_30 h)];exact ex_30 w hx h
  ·rw [dc_iff (ExM_31 h)];exact ex_31 w hx h
  ·rw [dc_iff (ExM_32 h)];exact ex_32 w hx h
  ·rw [dc_iff (ExM_33 h)];exact ex_33 w hx h
  ·rw [dc_iff (ExM_34 h)];exact ex_34 w hx h
  ·rw [dc_iff (ExM_35 h)];exact ex_35 w hx h
  ·rw [dc_iff (ExM_36 h)];exact ex_36 w hx h
  ·rw [dc_iff (ExM_37 h)];exact ex_37 w hx h
  ·rw [dc_iff (ExM_38 h)];exact ex_38 w hx h
 ·rw [dc_f (fun g=>hk g.1)]
  refine ex_none w hx ?_
  unfold Ex at hk
  omega
def ShM (t:Nat) (a:Nv) (p q:Nat) (K:Nat→Int) (kdf:Nat→Int) (exf:Nat→Nat→Prop):Prop :=
 q≤200∧(∀ i,i < q→0≤K i∧K i < (t:Int))∧((St a.k∧1≤a.l∧a.l≤100000∧StM a p q kdf exf)∨(¬ St a.k∧a.l=0∧ExM a p q kdf exf))
theorem br_z {a:Nv} {p:Nat} {r:Int}:Br false false false false a p r↔a.o=0∧a.m=0∧fz a.g∧a.x=⟨#[]⟩∧(p:Int)=r:=by
 unfold Br
 simp
theorem br_o {a:Nv} {p:Nat} {r:Int}:Br true false false false a p r↔a.m=0∧fz a.g∧a.x=⟨#[]⟩∧(p:Int)=r:=by
 unfold Br
 simp
theorem br_m {a:Nv} {p:Nat} {r:Int}:Br false true false false a p r↔a.o=0∧fz a.g∧a.x=⟨#[]⟩∧(p:Int)=r:=by
 unfold Br
 simp
theorem br_g {a:Nv} {p:Nat} {r:Int}:Br false false true false a p r↔a.o=0∧a.m=0∧a.x=⟨#[]⟩∧(p:Int)=r:=by
 unfold Br
 simp
theorem br_x {a:Nv} {p:Nat} {r:Int}:Br false false false true a p r↔a.o=0∧a.m=0∧fz a.g∧(p:Int)=r:=by
 unfold Br
 simp
theorem alw_k1 {a:Nv} {p q:Nat}:alw (rwk 1 q) a p q↔(1≤a.l∧a.l≤100000)∧(0≤a.o∧a.o≤0)∧(0≤a.m∧a.m≤0)∧(0≤(p:Int)∧(p:Int)≤0)∧(0≤(q:Int)∧(q:Int)≤200)∧fz a.g∧a.x=⟨#[]⟩:=Iff.rfl
theorem alw_k2 {a:Nv} {p q:Nat}:alw (rwk 2 q) a p q↔(1≤a.l∧a.l≤100000)∧(0≤a.o∧a.o≤0)∧(0≤a.m∧a.m≤0)∧(1≤(p:Int)∧(p:Int)≤9223372036854775807)∧(0≤(q:Int)∧(q:Int)≤200)∧fz a.g∧a.x=⟨#[]⟩:=Iff.rfl
theorem alw_k3 {a:Nv} {p q:Nat}:alw (rwk 3 q) a p q↔(1≤a.l∧a.l≤100000)∧(0≤a.o∧a.o≤0)∧(1≤a.m∧a.m≤(q:Int) - 1)∧(0≤(p:Int)∧(p:Int)≤0)∧(2≤(q:Int)∧(q:Int)≤200)∧fz a.g∧a.x=⟨#[]⟩:=Iff.rfl
theorem alw_k4 {a:Nv} {p q:Nat}:alw (rwk 4 q) a p q↔(1≤a.l∧a.l≤100000)∧(0≤a.o∧a.o≤0)∧(0≤a.m∧a.m≤0)∧(0≤(p:Int)∧(p:Int)≤0)∧(1≤(q:Int)∧(q:Int)≤1)∧fz a.g∧a.x=⟨#[]⟩:=Iff.rfl
theorem alw_k5 {a:Nv} {p q:Nat}:alw (rwk 5 q) a p q↔(1≤a.l∧a.l≤100000)∧(0≤a.o∧a.o≤0)∧(0≤a.m∧a.m≤0)∧(0≤(p:Int)∧(p:Int)≤0)∧(2≤(q:Int)∧(q:Int)≤3)∧fz a.g∧a.x=⟨#[]⟩:=Iff.rfl
theorem alw_k6 {a:Nv} {p q:Nat}:alw (rwk 6 q) a p q↔(1≤a.l∧a.l≤100000)∧(0≤a.o∧a.o≤0)∧(0≤a.m∧a.m≤0)∧(0≤(p:Int)∧(p:Int)≤0)∧(2≤(q:Int)∧(q:Int)≤2)∧fz a.g∧a.x=⟨#[]⟩:=Iff.rfl
theorem alw_k7 {a:Nv} {p q:Nat}:alw (rwk 7 q) a p q↔(1≤a.l∧a.l≤100000)∧(0≤a.o∧a.o≤0)∧(0≤a.m∧a.m≤0)∧(1≤(p:Int)∧(p:Int)≤1)∧(4≤(q:Int)∧(q:Int)≤4)∧fz a.g∧a.x=⟨#[]⟩:=Iff.rfl
theorem alw_k8 {a:Nv} {p q:Nat}:alw (rwk 8 q) a p q↔(1≤a.l∧a.l≤100000)∧(0≤a.o∧a.o≤0)∧(0≤a.m∧a.m≤0)∧(1≤(p:Int)∧(p:Int)≤4)∧(2≤(q:Int)∧(q:Int)≤2)∧fz a.g∧a.x=⟨#[]⟩:=Iff.rfl
theorem alw_k9 {a:Nv} {p q:Nat}:alw (rwk 9 q) a p q↔(1≤a.l∧a.l≤100000)∧(0≤a.o∧a.o≤0)∧(0≤a.m∧a.m≤0)∧(0≤(p:Int)∧(p:Int)≤0)∧(0≤(q:Int)∧(q:Int)≤0)∧fz a.g∧a.x=⟨#[]⟩:=Iff.rfl
theorem alw_k10 {a:Nv} {p q:Nat}:alw (rwk 10 q) a p q↔(1≤a.l∧a.l≤100000)∧(0≤a.o∧a.o≤0)∧(0≤a.m∧a.m≤0)∧(0≤(p:Int)∧(p:Int)≤0)∧(0≤(q:Int)∧(q:Int)≤0)∧fz a.g∧a.x=⟨#[]⟩:=Iff.rfl
theorem alw_k11 {a:Nv} {p q:Nat}:alw (rwk 11 q) a p q↔(1≤a.l∧a.l≤100000)∧(0≤a.o∧a.o≤0)∧(0≤a.m∧a.m≤0)∧(0≤(p:Int)∧(p:Int)≤0)∧(0≤(q:Int)∧(q:Int)≤200)∧fz a.g∧a.x=⟨#[]⟩:=Iff.rfl
theorem alw_k12 {a:Nv} {p q:Nat}:alw (rwk 12 q) a p q↔(1≤a.l∧a.l≤100000)∧(0≤a.o∧a.o≤0)∧(0≤a.m∧a.m≤0)∧(2≤(p:Int)∧(p:Int)≤2)∧(2≤(q:Int)∧(q:Int)≤2)∧fz a.g∧a.x=⟨#[]⟩:=Iff.rfl
theorem alw_k13 {a:Nv} {p q:Nat}:alw (rwk 13 q) a p q↔(1≤a.l∧a.l≤100000)∧(0≤a.o∧a.o≤0)∧(0≤a.m∧a.m≤0)∧(0≤(p:Int)∧(p:Int)≤0)∧(1≤(q:Int)∧(q:Int)≤1)∧fz a.g∧a.x=⟨#[]⟩:=Iff.rfl
theorem alw_k14 {a:Nv} {p q:Nat}:alw (rwk 14 q) a p q↔(1≤a.l∧a.l≤100000)∧(0≤a.o∧a.o≤0)∧(0≤a.m∧a.m≤0)∧(0≤(p:Int)∧(p:Int)≤0)∧(1≤(q:Int)∧(q:Int)≤1)∧fz a.g∧a.x=⟨#[]⟩:=Iff.rfl
theorem alw_k20 {a:Nv} {p q:Nat}:alw (rwk 20 q) a p q↔(0≤a.l∧a.l≤0)∧(0≤a.o∧a.o≤0)∧(0≤a.m∧a.m≤0)∧(0≤(p:Int)∧(p:Int)≤0)∧(0≤(q:Int)∧(q:Int)≤0)∧fz a.g∧a.x=⟨#[]⟩:=Iff.rfl
theorem alw_k21 {a:Nv} {p q:Nat}:alw (rwk 21 q) a p q↔(0≤a.l∧a.l≤0)∧(0≤a.o∧a.o≤0)∧(0≤a.m∧a.m≤0)∧(0≤(p:Int)∧(p:Int)≤0)∧(0≤(q:Int)∧(q:Int)≤0)∧fz a.g∧a.x=⟨#[]⟩:=Iff.rfl
theorem alw_k22 {a:Nv} {p q:Nat}:alw (rwk 22 q) a p q↔(0≤a.l∧a.l≤0)∧(0≤a.o∧a.o≤0)∧(0≤a.m∧a.m≤0)∧(0≤(p:Int)∧(p:Int)≤0)∧(0≤(q:Int)∧(q:Int)≤0)∧fz a.g∧a.x=⟨#[]⟩:=Iff.rfl
theorem alw_k23 {a:Nv} {p q:Nat}:alw (rwk 23 q) a p q↔(0≤a.l∧a.l≤0)∧(0≤a.o∧a.o≤0)∧((-9223372036854775808)≤a.m∧a.m≤9223372036854775807)∧(0≤(p:Int)∧(p:Int)≤0)∧(0≤(q:Int)∧(q:Int)≤0)∧fz a.g∧a.x=⟨#[]⟩:=Iff.rfl
theorem alw_k24 {a:Nv} {p q:Nat}:alw (rwk 24 q) a p q↔(0≤a.l∧a.l≤0)∧(0≤a.o∧a.o≤0)∧(0≤a.m∧a.m≤0)∧(0≤(p:Int)∧(p:Int)≤0)∧(0≤(q:Int)∧(q:Int)≤0)∧fn a.g∧a.x=⟨#[]⟩:=Iff.rfl
theorem alw_k25 {a:Nv} {p q:Nat}:alw (rwk 25 q) a p q↔(0≤a.l∧a.l≤0)∧(0≤a.o∧a.o≤0)∧(0≤a.m∧a.m≤0)∧(0≤(p:Int)∧(p:Int)≤0)∧(0≤(q:Int)∧(q:Int)≤0)∧fz a.g∧a.x.size≤4000:=Iff.rfl
theorem alw_k26 {a:Nv} {p q:Nat}:alw (rwk 26 q) a p q↔(0≤a.l∧a.l≤0)∧(0≤a.o∧a.o≤0)∧(0≤a.m∧a.m≤0)∧(1≤(p:Int)∧(p:Int)≤1)∧(0≤(q:Int)∧(q:Int)≤0)∧fz a.g∧a.x=⟨#[]⟩:=Iff.rfl
theorem alw_k27 {a:Nv} {p q:Nat}:alw (rwk 27 q) a p q↔(0≤a.l∧a.l≤0)∧(0≤a.o∧a.o≤0)∧(0≤a.m∧a.m≤0)∧(1≤(p:Int)∧(p:Int)≤1)∧(0≤(q:Int)∧(q:Int)≤0)∧fz a.g∧a.x=⟨#[]⟩:=Iff.rfl
theorem alw_k28 {a:Nv} {p q:Nat}:alw (rwk 28 q) a p q↔(0≤a.l∧a.l≤0)∧(0≤a.o∧a.o≤0)∧(0≤a.m∧a.m≤14)∧(0≤(p:Int)∧(p:Int)≤0)∧(0≤(q:Int)∧(q:Int)≤0)∧fz a.g∧a.x=⟨#[]⟩:=Iff.rfl
theorem alw_k29 {a:Nv} {p q:Nat}:alw (rwk 29 q) a p q↔(0≤a.l∧a.l≤0)∧(0≤a.o∧a.o≤0)∧(0≤a.m∧a.m≤0)∧(0≤(p:Int)∧(p:Int)≤0)∧(2≤(q:Int)∧(q:Int)≤2)∧fz a.g∧a.x=⟨#[]⟩:=Iff.rfl
theorem alw_k30 {a:Nv} {p q:Nat}:alw (rwk 30 q) a p q↔(0≤a.l∧a.l≤0)∧(0≤a.o∧a.o≤0)∧(0≤a.m∧a.m≤0)∧(0≤(p:Int)∧(p:Int)≤0)∧(2≤(q:Int)∧(q:Int)≤2)∧fz a.g∧a.x=⟨#[]⟩:=Iff.rfl
theorem alw_k31 {a:Nv} {p q:Nat}:alw (rwk 31 q) a p q↔(0≤a.l∧a.l≤0)∧(19≤a.o∧a.o≤22)∧(0≤a.m∧a.m≤0)∧(0≤(p:Int)∧(p:Int)≤0)∧(1≤(q:Int)∧(q:Int)≤1)∧fz a.g∧a.x=⟨#[]⟩:=Iff.rfl
theorem alw_k32 {a:Nv} {p q:Nat}:alw (rwk 32 q) a p q↔(0≤a.l∧a.l≤0)∧(1≤a.o∧a.o≤18)∧(0≤a.m∧a.m≤0)∧(0≤(p:Int)∧(p:Int)≤0)∧(2≤(q:Int)∧(q:Int)≤2)∧fz a.g∧a.x=⟨#[]⟩:=Iff.rfl
theorem alw_k33 {a:Nv} {p q:Nat}:alw (rwk 33 q) a p q↔(0≤a.l∧a.l≤0)∧(0≤a.o∧a.o≤0)∧(0≤a.m∧a.m≤0)∧(0≤(p:Int)∧(p:Int)≤0)∧(2≤(q:Int)∧(q:Int)≤2)∧fz a.g∧a.x=⟨#[]⟩:=Iff.rfl
theorem alw_k34 {a:Nv} {p q:Nat}:alw (rwk 34 q) a p q↔(0≤a.l∧a.l≤0)∧(0≤a.o∧a.o≤0)∧(0≤a.m∧a.m≤0)∧(0≤(p:Int)∧(p:Int)≤0)∧(1≤(q:Int)∧(q:Int)≤200)∧fz a.g∧a.x=⟨#[]⟩:=Iff.rfl
theorem alw_k35 {a:Nv} {p q:Nat}:alw (rwk 35 q) a p q↔(0≤a.l∧a.l≤0)∧(0≤a.o∧a.o≤1)∧(0≤a.m∧a.m≤0)∧(0≤(p:Int)∧(p:Int)≤0)∧(0≤(q:Int)∧(q:Int)≤200)∧fz a.g∧a.x=⟨#[]⟩:=Iff.rfl
theorem alw_k36 {a:Nv} {p q:Nat}:alw (rwk 36 q) a p q↔(0≤a.l∧a.l≤0)∧(0≤a.o∧a.o≤0)∧(0≤a.m∧a.m≤0)∧(1≤(p:Int)∧(p:Int)≤1)∧(0≤(q:Int)∧(q:Int)≤0)∧fz a.g∧a.x=⟨#[]⟩:=Iff.rfl
theorem alw_k37 {a:Nv} {p q:Nat}:alw (rwk 37 q) a p q↔(0≤a.l∧a.l≤0)∧(0≤a.o∧a.o≤0)∧(0≤a.m∧a.m≤0)∧(0≤(p:Int)∧(p:Int)≤0)∧(0≤(q:Int)∧(q:Int)≤0)∧fz a.g∧a.x=⟨#[]⟩:=Iff.rfl
theorem alw_k38 {a:Nv} {p q:Nat}:alw (rwk 38 q) a p q↔(0≤a.l∧a.l≤0)∧(0≤a.o∧a.o≤0)∧(0≤a.m∧a.m≤0)∧(0≤(p:Int)∧(p:Int)≤0)∧(1≤(q:Int)∧(q:Int)≤1)∧fz a.g∧a.x=⟨#[]⟩:=Iff.rfl
end Go.Proofs.YtfpidccjcemcjaaGreat.Fo
