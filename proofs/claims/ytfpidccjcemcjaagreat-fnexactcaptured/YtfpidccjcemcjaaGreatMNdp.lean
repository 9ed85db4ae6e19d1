import Derived.Test.YtfpidccjcemcjaaGreatMZsq
import Derived.Test.YtfpidccjcemcjaaGreatMNcl
set_option maxHeartbeats 8000000
namespace Go.Proofs.YtfpidccjcemcjaaGreat.Fo
open Go.ChangeShapes Go.WideShapes Go.ChangeAt Go.RowKit
set_option linter.unusedVariables false
set_option maxRecDepth 100000
theorem qs_1 {a : Nv} {p q : Nat} {kdf : Nat → Int} (hm0 : -9223372036854775808 ≤ a.m ∧ a.m ≤ 9223372036854775807) (hp0 : p ≤ 1048576) (hkd : ∀ i, i < q → St (kdf i) ∨ Ex (kdf i)) :
  (q≤200∧(1≤a.l∧a.l≤100000)∧((∀ i,i < q→St (kdf i))∧Br false false false false a p 0))↔(alw (rwk 1 q) a p q∧(∀ i,i < q→kdf i≤14)):=by
 simp only [St,Ex] at *
 rw [alw_k1]
 constructor
 ·rintro ⟨h200,⟨hl1,hl2⟩,C0,C1⟩
  obtain ⟨bo,bm,bg,bx,bp⟩:=br_z.1 C1
  refine ⟨⟨⟨by omega,by omega⟩,⟨by omega,by omega⟩,⟨by omega,by omega⟩,⟨by omega,by omega⟩,⟨by omega,by omega⟩,bg,bx⟩,fun i hi=>?_⟩
  ·have hk1:=hkd i hi
   have e1:=C0 i hi
   omega
 ·rintro ⟨⟨⟨l1,l2⟩,⟨o1,o2⟩,⟨m1,m2⟩,⟨r1,r2⟩,⟨k1,k2⟩,bg,bx⟩,T⟩
  exact ⟨by omega,⟨by omega,by omega⟩,fun i hi=>by have e1:=T i hi;have e2:=hkd i hi;omega,br_z.2 ⟨by omega,by omega,bg,bx,by omega⟩⟩
theorem qs_2 {a : Nv} {p q : Nat} {kdf : Nat → Int} (hm0 : -9223372036854775808 ≤ a.m ∧ a.m ≤ 9223372036854775807) (hp0 : p ≤ 1048576) (hkd : ∀ i, i < q → St (kdf i) ∨ Ex (kdf i)) :
  (q≤200∧(1≤a.l∧a.l≤100000)∧(0 < p∧Br false false false false a p (p:Int)∧(∀ x,0≤x→x < q→Ex (kdf x))))↔(alw (rwk 2 q) a p q∧(∀ i,i < q→14 < kdf i)):=by
 simp only [St,Ex] at *
 rw [alw_k2]
 constructor
 ·rintro ⟨h200,⟨hl1,hl2⟩,C0,C1,C2⟩
  obtain ⟨bo,bm,bg,bx,bp⟩:=br_z.1 C1
  refine ⟨⟨⟨by omega,by omega⟩,⟨by omega,by omega⟩,⟨by omega,by omega⟩,⟨by omega,by omega⟩,⟨by omega,by omega⟩,bg,bx⟩,fun i hi=>?_⟩
  ·have hk1:=hkd i hi
   have e2:=C2 i zq
   omega
 ·rintro ⟨⟨⟨l1,l2⟩,⟨o1,o2⟩,⟨m1,m2⟩,⟨r1,r2⟩,⟨k1,k2⟩,bg,bx⟩,T⟩
  exact ⟨by omega,⟨by omega,by omega⟩,by omega,br_z.2 ⟨by omega,by omega,bg,bx,by omega⟩,fun x h1 h2=>by have e1:=T x (by omega);have e2:=hkd x (by omega);omega⟩
theorem qs_3 {a : Nv} {p q : Nat} {kdf : Nat → Int} (hm0 : -9223372036854775808 ≤ a.m ∧ a.m ≤ 9223372036854775807) (hp0 : p ≤ 1048576) (hkd : ∀ i, i < q → St (kdf i) ∨ Ex (kdf i)) :
  (q≤200∧(1≤a.l∧a.l≤100000)∧(1≤a.m∧a.m < (q:Int)∧(∀ i:Nat,(i:Int) < a.m→kdf i=26∨kdf i=27∨kdf i=33)∧Br false true false false a p 0∧(∀ x,a.m.toNat≤x→x < q→Ex (kdf x))))↔(alw (rwk 3 q) a p q∧(∀ i,i < q→((i:Int) < a.m→kdf i=26∨kdf i=27∨kdf i=33)∧(¬ (i:Int) < a.m→14 < kdf i))):=by
 simp only [St,Ex] at *
 rw [alw_k3]
 constructor
 ·rintro ⟨h200,⟨hl1,hl2⟩,C0,C1,C2,C3,C4⟩
  obtain ⟨bo,bg,bx,bp⟩:=br_m.1 C3
  refine ⟨⟨⟨by omega,by omega⟩,⟨by omega,by omega⟩,⟨by omega,by omega⟩,⟨by omega,by omega⟩,⟨by omega,by omega⟩,bg,bx⟩,fun i hi=>?_⟩
  ·have hk1:=hkd i hi
   have e1:=C2 i
   have e2:=C4 i
   omega
 ·rintro ⟨⟨⟨l1,l2⟩,⟨o1,o2⟩,⟨m1,m2⟩,⟨r1,r2⟩,⟨k1,k2⟩,bg,bx⟩,T⟩
  exact ⟨by omega,⟨by omega,by omega⟩,by omega,by omega,fun i hi=>by have e1:=T i (by omega);omega,br_m.2 ⟨by omega,bg,bx,by omega⟩,fun x h1 h2=>by have e1:=T x (by omega);have e2:=hkd x (by omega);omega⟩
theorem qs_4 {a : Nv} {p q : Nat} {kdf : Nat → Int} (hm0 : -9223372036854775808 ≤ a.m ∧ a.m ≤ 9223372036854775807) (hp0 : p ≤ 1048576) (hkd : ∀ i, i < q → St (kdf i) ∨ Ex (kdf i)) :
  (q≤200∧(1≤a.l∧a.l≤100000)∧(q=1∧kdf 0=34∧Br false false false false a p 0))↔(alw (rwk 4 q) a p q∧(∀ i,i < q→kdf i=34)):=by
 simp only [St,Ex] at *
 rw [alw_k4]
 constructor
 ·rintro ⟨h200,⟨hl1,hl2⟩,C0,C1,C2⟩
  obtain ⟨bo,bm,bg,bx,bp⟩:=br_z.1 C2
  refine ⟨⟨⟨by omega,by omega⟩,⟨by omega,by omega⟩,⟨by omega,by omega⟩,⟨by omega,by omega⟩,⟨by omega,by omega⟩,bg,bx⟩,fun i hi=>?_⟩
  ·have hi2:i=0:=by omega
   subst hi2
   have hk1:=hkd 0 hi
   omega
 ·rintro ⟨⟨⟨l1,l2⟩,⟨o1,o2⟩,⟨m1,m2⟩,⟨r1,r2⟩,⟨k1,k2⟩,bg,bx⟩,T⟩
  exact ⟨by omega,⟨by omega,by omega⟩,by omega,by have u0:=T 0;omega,br_z.2 ⟨by omega,by omega,bg,bx,by omega⟩⟩
theorem qs_5 {a : Nv} {p q : Nat} {kdf : Nat → Int} (hm0 : -9223372036854775808 ≤ a.m ∧ a.m ≤ 9223372036854775807) (hp0 : p ≤ 1048576) (hkd : ∀ i, i < q → St (kdf i) ∨ Ex (kdf i)) :
  (q≤200∧(1≤a.l∧a.l≤100000)∧((q=2∨q=3∧(kdf 2=1∨kdf 2=5))∧(∀ x,0≤x→x < 1→Ex (kdf x))∧kdf 1=1∧Br false false false false a p 0))↔(alw (rwk 5 q) a p q∧(∀ i,i < q→(0 < i→kdf i=1∨(i=2∧kdf i=5))∧(¬ 0 < i→14 < kdf i))):=by
 simp only [St,Ex] at *
 rw [alw_k5]
 constructor
 ·rintro ⟨h200,⟨hl1,hl2⟩,C0,C1,C2,C3⟩
  obtain ⟨bo,bm,bg,bx,bp⟩:=br_z.1 C3
  refine ⟨⟨⟨by omega,by omega⟩,⟨by omega,by omega⟩,⟨by omega,by omega⟩,⟨by omega,by omega⟩,⟨by omega,by omega⟩,bg,bx⟩,fun i hi=>?_⟩
  ·have hi2:i=0∨i=1∨i=2:=by omega
   rcases hi2 with rfl | rfl | rfl
   ·have hk1:=hkd 0 hi
    have e1:=C1 0 zq
    omega
   ·have hk1:=hkd 1 hi
    have e1:=C1 1 zq
    omega
   ·have hk1:=hkd 2 hi
    have e1:=C1 2 zq
    omega
 ·rintro ⟨⟨⟨l1,l2⟩,⟨o1,o2⟩,⟨m1,m2⟩,⟨r1,r2⟩,⟨k1,k2⟩,bg,bx⟩,T⟩
  exact ⟨by omega,⟨by omega,by omega⟩,by have u2:=T 2;omega,fun x h1 h2=>by have e1:=T x (by omega);have e2:=hkd x (by omega);omega,by have u1:=T 1;omega,br_z.2 ⟨by omega,by omega,bg,bx,by omega⟩⟩
theorem qs_6 {a : Nv} {p q : Nat} {kdf : Nat → Int} (hm0 : -9223372036854775808 ≤ a.m ∧ a.m ≤ 9223372036854775807) (hp0 : p ≤ 1048576) (hkd : ∀ i, i < q → St (kdf i) ∨ Ex (kdf i)) :
  (q≤200∧(1≤a.l∧a.l≤100000)∧(q=2∧(∀ x,0≤x→x < 1→Ex (kdf x))∧kdf 1=1∧Br false false false false a p 0))↔(alw (rwk 6 q) a p q∧(∀ i,i < q→(i+1=q→kdf i=1)∧(¬ i+1=q→14 < kdf i))):=by
 simp only [St,Ex] at *
 rw [alw_k6]
 constructor
 ·rintro ⟨h200,⟨hl1,hl2⟩,C0,C1,C2,C3⟩
  obtain ⟨bo,bm,bg,bx,bp⟩:=br_z.1 C3
  refine ⟨⟨⟨by omega,by omega⟩,⟨by omega,by omega⟩,⟨by omega,by omega⟩,⟨by omega,by omega⟩,⟨by omega,by omega⟩,bg,bx⟩,fun i hi=>?_⟩
  ·have hi2:i=0∨i=1:=by omega
   rcases hi2 with rfl | rfl
   ·have hk1:=hkd 0 hi
    have e1:=C1 0 zq
    omega
   ·have hk1:=hkd 1 hi
    have e1:=C1 1 zq
    omega
 ·rintro ⟨⟨⟨l1,l2⟩,⟨o1,o2⟩,⟨m1,m2⟩,⟨r1,r2⟩,⟨k1,k2⟩,bg,bx⟩,T⟩
  exact ⟨by omega,⟨by omega,by omega⟩,by omega,fun x h1 h2=>by have e1:=T x (by omega);have e2:=hkd x (by omega);omega,by have u1:=T 1;omega,br_z.2 ⟨by omega,by omega,bg,bx,by omega⟩⟩
theorem qs_7 {a : Nv} {p q : Nat} {kdf : Nat → Int} (hm0 : -9223372036854775808 ≤ a.m ∧ a.m ≤ 9223372036854775807) (hp0 : p ≤ 1048576) (hkd : ∀ i, i < q → St (kdf i) ∨ Ex (kdf i)) :
  (q≤200∧(1≤a.l∧a.l≤100000)∧(q=4∧(∀ x,0≤x→x < 3→Ex (kdf x))∧kdf 3=1∧Br false false false false a p 1))↔(alw (rwk 7 q) a p q∧(∀ i,i < q→(i+1=q→kdf i=1)∧(¬ i+1=q→14 < kdf i))):=by
 simp only [St,Ex] at *
 rw [alw_k7]
 constructor
 ·rintro ⟨h200,⟨hl1,hl2⟩,C0,C1,C2,C3⟩
  obtain ⟨bo,bm,bg,bx,bp⟩:=br_z.1 C3
  refine ⟨⟨⟨by omega,by omega⟩,⟨by omega,by omega⟩,⟨by omega,by omega⟩,⟨by omega,by omega⟩,⟨by omega,by omega⟩,bg,bx⟩,fun i hi=>?_⟩
  ·have hi2:i=0∨i=1∨i=2∨i=3:=by omega
   rcases hi2 with rfl | rfl | rfl | rfl
   ·have hk1:=hkd 0 hi
    have e1:=C1 0 zq
    omega
   ·have hk1:=hkd 1 hi
    have e1:=C1 1 zq
    omega
   ·have hk1:=hkd 2 hi
    have e1:=C1 2 zq
    omega
   ·have hk1:=hkd 3 hi
    have e1:=C1 3 zq
    omega
 ·rintro ⟨⟨⟨l1,l2⟩,⟨o1,o2⟩,⟨m1,m2⟩,⟨r1,r2⟩,⟨k1,k2⟩,bg,bx⟩,T⟩
  exact ⟨by omega,⟨by omega,by omega⟩,by omega,fun x h1 h2=>by have e1:=T x (by omega);have e2:=hkd x (by omega);omega,by have u3:=T 3;omega,br_z.2 ⟨by omega,by omega,bg,bx,by omega⟩⟩
theorem qs_8 {a : Nv} {p q : Nat} {kdf : Nat → Int} (hm0 : -9223372036854775808 ≤ a.m ∧ a.m ≤ 9223372036854775807) (hp0 : p ≤ 1048576) (hkd : ∀ i, i < q → St (kdf i) ∨ Ex (kdf i)) :
  (q≤200∧(1≤a.l∧a.l≤100000)∧(q=2∧1≤p∧p≤4∧(∀ x,0≤x→x < 1→Ex (kdf x))∧kdf 1=1∧Br false false false false a p (p:Int)))↔(alw (rwk 8 q) a p q∧(∀ i,i < q→(i+1=q→kdf i=1)∧(¬ i+1=q→14 < kdf i))):=by
 simp only [St,Ex] at *
 rw [alw_k8]
 constructor
 ·rintro ⟨h200,⟨hl1,hl2⟩,C0,C1,C2,C3,C4,C5⟩
  obtain ⟨bo,bm,bg,bx,bp⟩:=br_z.1 C5
  refine ⟨⟨⟨by omega,by omega⟩,⟨by omega,by omega⟩,⟨by omega,by omega⟩,⟨by omega,by omega⟩,⟨by omega,by omega⟩,bg,bx⟩,fun i hi=>?_⟩
  ·have hi2:i=0∨i=1:=by omega
   rcases hi2 with rfl | rfl
   ·have hk1:=hkd 0 hi
    have e3:=C3 0 zq
    omega
   ·have hk1:=hkd 1 hi
    have e3:=C3 1 zq
    omega
 ·rintro ⟨⟨⟨l1,l2⟩,⟨o1,o2⟩,⟨m1,m2⟩,⟨r1,r2⟩,⟨k1,k2⟩,bg,bx⟩,T⟩
  exact ⟨by omega,⟨by omega,by omega⟩,by omega,by omega,by omega,fun x h1 h2=>by have e1:=T x (by omega);have e2:=hkd x (by omega);omega,by have u1:=T 1;omega,br_z.2 ⟨by omega,by omega,bg,bx,by omega⟩⟩
theorem qs_9 {a : Nv} {p q : Nat} {kdf : Nat → Int} (hm0 : -9223372036854775808 ≤ a.m ∧ a.m ≤ 9223372036854775807) (hp0 : p ≤ 1048576) (hkd : ∀ i, i < q → St (kdf i) ∨ Ex (kdf i)) :
  (q≤200∧(1≤a.l∧a.l≤100000)∧(q=0∧Br false false false false a p 0))↔(alw (rwk 9 q) a p q∧(∀ i,i < q→14 < kdf i)):=by
 simp only [St,Ex] at *
 rw [alw_k9]
 constructor
 ·rintro ⟨h200,⟨hl1,hl2⟩,C0,C1⟩
  obtain ⟨bo,bm,bg,bx,bp⟩:=br_z.1 C1
  refine ⟨⟨⟨by omega,by omega⟩,⟨by omega,by omega⟩,⟨by omega,by omega⟩,⟨by omega,by omega⟩,⟨by omega,by omega⟩,bg,bx⟩,fun i hi=>?_⟩
  ·omega
 ·rintro ⟨⟨⟨l1,l2⟩,⟨o1,o2⟩,⟨m1,m2⟩,⟨r1,r2⟩,⟨k1,k2⟩,bg,bx⟩,T⟩
  exact ⟨by omega,⟨by omega,by omega⟩,by omega,br_z.2 ⟨by omega,by omega,bg,bx,by omega⟩⟩
theorem qs_10 {a : Nv} {p q : Nat} {kdf : Nat → Int} (hm0 : -9223372036854775808 ≤ a.m ∧ a.m ≤ 9223372036854775807) (hp0 : p ≤ 1048576) (hkd : ∀ i, i < q → St (kdf i) ∨ Ex (kdf i)) :
  (q≤200∧(1≤a.l∧a.l≤100000)∧(q=0∧Br false false false false a p 0))↔(alw (rwk 10 q) a p q∧(∀ i,i < q→14 < kdf i)):=by
 simp only [St,Ex] at *
 rw [alw_k10]
 constructor
 ·rintro ⟨h200,⟨hl1,hl2⟩,C0,C1⟩
  obtain ⟨bo,bm,bg,bx,bp⟩:=br_z.1 C1
  refine ⟨⟨⟨by omega,by omega⟩,⟨by omega,by omega⟩,⟨by omega,by omega⟩,⟨by omega,by omega⟩,⟨by omega,by omega⟩,bg,bx⟩,fun i hi=>?_⟩
  ·omega
 ·rintro ⟨⟨⟨l1,l2⟩,⟨o1,o2⟩,⟨m1,m2⟩,⟨r1,r2⟩,⟨k1,k2⟩,bg,bx⟩,T⟩
  exact ⟨by omega,⟨by omega,by omega⟩,by omega,br_z.2 ⟨by omega,by omega,bg,bx,by omega⟩⟩
theorem qs_11 {a : Nv} {p q : Nat} {kdf : Nat → Int} (hm0 : -9223372036854775808 ≤ a.m ∧ a.m ≤ 9223372036854775807) (hp0 : p ≤ 1048576) (hkd : ∀ i, i < q → St (kdf i) ∨ Ex (kdf i)) :
  (q≤200∧(1≤a.l∧a.l≤100000)∧((∀ x,0≤x→x < q→Ex (kdf x))∧Br false false false false a p 0))↔(alw (rwk 11 q) a p q∧(∀ i,i < q→14 < kdf i)):=by
 simp only [St,Ex] at *
 rw [alw_k11]
 constructor
 ·rintro ⟨h200,⟨hl1,hl2⟩,C0,C1⟩
  obtain ⟨bo,bm,bg,bx,bp⟩:=br_z.1 C1
  refine ⟨⟨⟨by omega,by omega⟩,⟨by omega,by omega⟩,⟨by omega,by omega⟩,⟨by omega,by omega⟩,⟨by omega,by omega⟩,bg,bx⟩,fun i hi=>?_⟩
  ·have hk1:=hkd i hi
   have e0:=C0 i zq
   omega
 ·rintro ⟨⟨⟨l1,l2⟩,⟨o1,o2⟩,⟨m1,m2⟩,⟨r1,r2⟩,⟨k1,k2⟩,bg,bx⟩,T⟩
  exact ⟨by omega,⟨by omega,by omega⟩,fun x h1 h2=>by have e1:=T x (by omega);have e2:=hkd x (by omega);omega,br_z.2 ⟨by omega,by omega,bg,bx,by omega⟩⟩
theorem qs_12 {a : Nv} {p q : Nat} {kdf : Nat → Int} (hm0 : -9223372036854775808 ≤ a.m ∧ a.m ≤ 9223372036854775807) (hp0 : p ≤ 1048576) (hkd : ∀ i, i < q → St (kdf i) ∨ Ex (kdf i)) :
  (q≤200∧(1≤a.l∧a.l≤100000)∧(q=2∧kdf 0=1∧kdf 1=1∧Br false false false false a p 2))↔(alw (rwk 12 q) a p q∧(∀ i,i < q→kdf i=1)):=by
 simp only [St,Ex] at *
 rw [alw_k12]
 constructor
 ·rintro ⟨h200,⟨hl1,hl2⟩,C0,C1,C2,C3⟩
  obtain ⟨bo,bm,bg,bx,bp⟩:=br_z.1 C3
  refine ⟨⟨⟨by omega,by omega⟩,⟨by omega,by omega⟩,⟨by omega,by omega⟩,⟨by omega,by omega⟩,⟨by omega,by omega⟩,bg,bx⟩,fun i hi=>?_⟩
  ·have hi2:i=0∨i=1:=by omega
   rcases hi2 with rfl | rfl
   ·have hk1:=hkd 0 hi
    omega
   ·have hk1:=hkd 1 hi
    omega
 ·rintro ⟨⟨⟨l1,l2⟩,⟨o1,o2⟩,⟨m1,m2⟩,⟨r1,r2⟩,⟨k1,k2⟩,bg,bx⟩,T⟩
  exact ⟨by omega,⟨by omega,by omega⟩,by omega,by have u0:=T 0;omega,by have u1:=T 1;omega,br_z.2 ⟨by omega,by omega,bg,bx,by omega⟩⟩
theorem qs_13 {a : Nv} {p q : Nat} {kdf : Nat → Int} (hm0 : -9223372036854775808 ≤ a.m ∧ a.m ≤ 9223372036854775807) (hp0 : p ≤ 1048576) (hkd : ∀ i, i < q → St (kdf i) ∨ Ex (kdf i)) :
  (q≤200∧(1≤a.l∧a.l≤100000)∧(q=1∧(∀ x,0≤x→x < 1→Ex (kdf x))∧Br false false false false a p 0))↔(alw (rwk 13 q) a p q∧(∀ i,i < q→14 < kdf i)):=by
 simp only [St,Ex] at *
 rw [alw_k13]
 constructor
 ·rintro ⟨h200,⟨hl1,hl2⟩,C0,C1,C2⟩
  obtain ⟨bo,bm,bg,bx,bp⟩:=br_z.1 C2
  refine ⟨⟨⟨by omega,by omega⟩,⟨by omega,by omega⟩,⟨by omega,by omega⟩,⟨by omega,by omega⟩,⟨by omega,by omega⟩,bg,bx⟩,fun i hi=>?_⟩
  ·have hi2:i=0:=by omega
   subst hi2
   have hk1:=hkd 0 hi
   have e1:=C1 0 zq
   omega
 ·rintro ⟨⟨⟨l1,l2⟩,⟨o1,o2⟩,⟨m1,m2⟩,⟨r1,r2⟩,⟨k1,k2⟩,bg,bx⟩,T⟩
  exact ⟨by omega,⟨by omega,by omega⟩,by omega,fun x h1 h2=>by have e1:=T x (by omega);have e2:=hkd x (by omega);omega,br_z.2 ⟨by omega,by omega,bg,bx,by omega⟩⟩
theorem qs_14 {a : Nv} {p q : Nat} {kdf : Nat → Int} (hm0 : -9223372036854775808 ≤ a.m ∧ a.m ≤ 9223372036854775807) (hp0 : p ≤ 1048576) (hkd : ∀ i, i < q → St (kdf i) ∨ Ex (kdf i)) :
  (q≤200∧(1≤a.l∧a.l≤100000)∧(q=1∧kdf 0=34∧Br false false false false a p 0))↔(alw (rwk 14 q) a p q∧(∀ i,i < q→kdf i=34)):=by
 simp only [St,Ex] at *
 rw [alw_k14]
 constructor
 ·rintro ⟨h200,⟨hl1,hl2⟩,C0,C1,C2⟩
  obtain ⟨bo,bm,bg,bx,bp⟩:=br_z.1 C2
  refine ⟨⟨⟨by omega,by omega⟩,⟨by omega,by omega⟩,⟨by omega,by omega⟩,⟨by omega,by omega⟩,⟨by omega,by omega⟩,bg,bx⟩,fun i hi=>?_⟩
  ·have hi2:i=0:=by omega
   subst hi2
   have hk1:=hkd 0 hi
   omega
 ·rintro ⟨⟨⟨l1,l2⟩,⟨o1,o2⟩,⟨m1,m2⟩,⟨r1,r2⟩,⟨k1,k2⟩,bg,bx⟩,T⟩
  exact ⟨by omega,⟨by omega,by omega⟩,by omega,by have u0:=T 0;omega,br_z.2 ⟨by omega,by omega,bg,bx,by omega⟩⟩
theorem qs_20 {a : Nv} {p q : Nat} {kdf : Nat → Int} (hm0 : -9223372036854775808 ≤ a.m ∧ a.m ≤ 9223372036854775807) (hp0 : p ≤ 1048576) (hkd : ∀ i, i < q → St (kdf i) ∨ Ex (kdf i)) :
  (q≤200∧a.l=0∧(q=0∧Br false false false false a p 0))↔(alw (rwk 20 q) a p q∧(∀ i,i < q→14 < kdf i)):=by
 simp only [St,Ex] at *
 rw [alw_k20]
 constructor
 ·rintro ⟨h200,hl,C0,C1⟩
  obtain ⟨bo,bm,bg,bx,bp⟩:=br_z.1 C1
  refine ⟨⟨⟨by omega,by omega⟩,⟨by omega,by omega⟩,⟨by omega,by omega⟩,⟨by omega,by omega⟩,⟨by omega,by omega⟩,bg,bx⟩,fun i hi=>?_⟩
  ·omega
 ·rintro ⟨⟨⟨l1,l2⟩,⟨o1,o2⟩,⟨m1,m2⟩,⟨r1,r2⟩,⟨k1,k2⟩,bg,bx⟩,T⟩
  exact ⟨by omega,by omega,by omega,br_z.2 ⟨by omega,by omega,bg,bx,by omega⟩⟩
theorem qs_21 {a : Nv} {p q : Nat} {kdf : Nat → Int} (hm0 : -9223372036854775808 ≤ a.m ∧ a.m ≤ 9223372036854775807) (hp0 : p ≤ 1048576) (hkd : ∀ i, i < q → St (kdf i) ∨ Ex (kdf i)) :
  (q≤200∧a.l=0∧(q=0∧Br false false false false a p 0))↔(alw (rwk 21 q) a p q∧(∀ i,i < q→14 < kdf i)):=by
 simp only [St,Ex] at *
 rw [alw_k21]
 constructor
 ·rintro ⟨h200,hl,C0,C1⟩
  obtain ⟨bo,bm,bg,bx,bp⟩:=br_z.1 C1
  refine ⟨⟨⟨by omega,by omega⟩,⟨by omega,by omega⟩,⟨by omega,by omega⟩,⟨by omega,by omega⟩,⟨by omega,by omega⟩,bg,bx⟩,fun i hi=>?_⟩
  ·omega
 ·rintro ⟨⟨⟨l1,l2⟩,⟨o1,o2⟩,⟨m1,m2⟩,⟨r1,r2⟩,⟨k1,k2⟩,bg,bx⟩,T⟩
  exact ⟨by omega,by omega,by omega,br_z.2 ⟨by omega,by omega,bg,bx,by omega⟩⟩
theorem qs_22 {a : Nv} {p q : Nat} {kdf : Nat → Int} (hm0 : -9223372036854775808 ≤ a.m ∧ a.m ≤ 9223372036854775807) (hp0 : p ≤ 1048576) (hkd : ∀ i, i < q → St (kdf i) ∨ Ex (kdf i)) :
  (q≤200∧a.l=0∧(q=0∧Br false false false false a p 0))↔(alw (rwk 22 q) a p q∧(∀ i,i < q→14 < kdf i)):=by
 simp only [St,Ex] at *
 rw [alw_k22]
 constructor
 ·rintro ⟨h200,hl,C0,C1⟩
  obtain ⟨bo,bm,bg,bx,bp⟩:=br_z.1 C1
  refine ⟨⟨⟨by omega,by omega⟩,⟨by omega,by omega⟩,⟨by omega,by omega⟩,⟨by omega,by omega⟩,⟨by omega,by omega⟩,bg,bx⟩,fun i hi=>?_⟩
  ·omega
 ·rintro ⟨⟨⟨l1,l2⟩,⟨o1,o2⟩,⟨m1,m2⟩,⟨r1,r2⟩,⟨k1,k2⟩,bg,bx⟩,T⟩
  exact ⟨by omega,by omega,by omega,br_z.2 ⟨by omega,by omega,bg,bx,by omega⟩⟩
theorem qs_23 {a : Nv} {p q : Nat} {kdf : Nat → Int} (hm0 : -9223372036854775808 ≤ a.m ∧ a.m ≤ 9223372036854775807) (hp0 : p ≤ 1048576) (hkd : ∀ i, i < q → St (kdf i) ∨ Ex (kdf i)) :
  (q≤200∧a.l=0∧(q=0∧Br false true false false a p 0))↔(alw (rwk 23 q) a p q∧(∀ i,i < q→14 < kdf i)):=by
 simp only [St,Ex] at *
 rw [alw_k23]
 constructor
 ·rintro ⟨h200,hl,C0,C1⟩
  obtain ⟨bo,bg,bx,bp⟩:=br_m.1 C1
  refine ⟨⟨⟨by omega,by omega⟩,⟨by omega,by omega⟩,⟨by omega,by omega⟩,⟨by omega,by omega⟩,⟨by omega,by omega⟩,bg,bx⟩,fun i hi=>?_⟩
  ·omega
 ·rintro ⟨⟨⟨l1,l2⟩,⟨o1,o2⟩,⟨m1,m2⟩,⟨r1,r2⟩,⟨k1,k2⟩,bg,bx⟩,T⟩
  exact ⟨by omega,by omega,by omega,br_m.2 ⟨by omega,bg,bx,by omega⟩⟩
theorem qs_24 {a : Nv} {p q : Nat} {kdf : Nat → Int} (hm0 : -9223372036854775808 ≤ a.m ∧ a.m ≤ 9223372036854775807) (hp0 : p ≤ 1048576) (hkd : ∀ i, i < q → St (kdf i) ∨ Ex (kdf i)) :
  (q≤200∧a.l=0∧(q=0∧fn a.g∧Br false false true false a p 0))↔(alw (rwk 24 q) a p q∧(∀ i,i < q→14 < kdf i)):=by
 simp only [St,Ex] at *
 rw [alw_k24]
 constructor
 ·rintro ⟨h200,hl,C0,C1,C2⟩
  obtain ⟨bo,bm,bx,bp⟩:=br_g.1 C2
  refine ⟨⟨⟨by omega,by omega⟩,⟨by omega,by omega⟩,⟨by omega,by omega⟩,⟨by omega,by omega⟩,⟨by omega,by omega⟩,C1,bx⟩,fun i hi=>?_⟩
  ·omega
 ·rintro ⟨⟨⟨l1,l2⟩,⟨o1,o2⟩,⟨m1,m2⟩,⟨r1,r2⟩,⟨k1,k2⟩,bg,bx⟩,T⟩
  exact ⟨by omega,by omega,by omega,bg,br_g.2 ⟨by omega,by omega,bx,by omega⟩⟩
theorem qs_25 {a : Nv} {p q : Nat} {kdf : Nat → Int} (hm0 : -9223372036854775808 ≤ a.m ∧ a.m ≤ 9223372036854775807) (hp0 : p ≤ 1048576) (hkd : ∀ i, i < q → St (kdf i) ∨ Ex (kdf i)) :
  (q≤200∧a.l=0∧(q=0∧a.x.size≤4000∧Br false false false true a p 0))↔(alw (rwk 25 q) a p q∧(∀ i,i < q→14 < kdf i)):=by
 simp only [St,Ex] at *
 rw [alw_k25]
 constructor
 ·rintro ⟨h200,hl,C0,C1,C2⟩
  obtain ⟨bo,bm,bg,bp⟩:=br_x.1 C2
  refine ⟨⟨⟨by omega,by omega⟩,⟨by omega,by omega⟩,⟨by omega,by omega⟩,⟨by omega,by omega⟩,⟨by omega,by omega⟩,bg,C1⟩,fun i hi=>?_⟩
  ·omega
 ·rintro ⟨⟨⟨l1,l2⟩,⟨o1,o2⟩,⟨m1,m2⟩,⟨r1,r2⟩,⟨k1,k2⟩,bg,bx⟩,T⟩
  exact ⟨by omega,by omega,by omega,bx,br_x.2 ⟨by omega,by omega,bg,by omega⟩⟩
theorem qs_26 {a : Nv} {p q : Nat} {kdf : Nat → Int} (hm0 : -9223372036854775808 ≤ a.m ∧ a.m ≤ 9223372036854775807) (hp0 : p ≤ 1048576) (hkd : ∀ i, i < q → St (kdf i) ∨ Ex (kdf i)) :
  (q≤200∧a.l=0∧(q=0∧Br false false false false a p 1))↔(alw (rwk 26 q) a p q∧(∀ i,i < q→14 < kdf i)):=by
 simp only [St,Ex] at *
 rw [alw_k26]
 constructor
 ·rintro ⟨h200,hl,C0,C1⟩
  obtain ⟨bo,bm,bg,bx,bp⟩:=br_z.1 C1
  refine ⟨⟨⟨by omega,by omega⟩,⟨by omega,by omega⟩,⟨by omega,by omega⟩,⟨by omega,by omega⟩,⟨by omega,by omega⟩,bg,bx⟩,fun i hi=>?_⟩
  ·omega
 ·rintro ⟨⟨⟨l1,l2⟩,⟨o1,o2⟩,⟨m1,m2⟩,⟨r1,r2⟩,⟨k1,k2⟩,bg,bx⟩,T⟩
  exact ⟨by omega,by omega,by omega,br_z.2 ⟨by omega,by omega,bg,bx,by omega⟩⟩
theorem qs_27 {a : Nv} {p q : Nat} {kdf : Nat → Int} (hm0 : -9223372036854775808 ≤ a.m ∧ a.m ≤ 9223372036854775807) (hp0 : p ≤ 1048576) (hkd : ∀ i, i < q → St (kdf i) ∨ Ex (kdf i)) :
  (q≤200∧a.l=0∧(q=0∧Br false false false false a p 1))↔(alw (rwk 27 q) a p q∧(∀ i,i < q→14 < kdf i)):=by
 simp only [St,Ex] at *
 rw [alw_k27]
 constructor
 ·rintro ⟨h200,hl,C0,C1⟩
  obtain ⟨bo,bm,bg,bx,bp⟩:=br_z.1 C1
  refine ⟨⟨⟨by omega,by omega⟩,⟨by omega,by omega⟩,⟨by omega,by omega⟩,⟨by omega,by omega⟩,⟨by omega,by omega⟩,bg,bx⟩,fun i hi=>?_⟩
  ·omega
 ·rintro ⟨⟨⟨l1,l2⟩,⟨o1,o2⟩,⟨m1,m2⟩,⟨r1,r2⟩,⟨k1,k2⟩,bg,bx⟩,T⟩
  exact ⟨by omega,by omega,by omega,br_z.2 ⟨by omega,by omega,bg,bx,by omega⟩⟩
theorem qs_28 {a : Nv} {p q : Nat} {kdf : Nat → Int} (hm0 : -9223372036854775808 ≤ a.m ∧ a.m ≤ 9223372036854775807) (hp0 : p ≤ 1048576) (hkd : ∀ i, i < q → St (kdf i) ∨ Ex (kdf i)) :
  (q≤200∧a.l=0∧(q=0∧0≤a.m∧a.m < 15∧Br false true false false a p 0))↔(alw (rwk 28 q) a p q∧(∀ i,i < q→14 < kdf i)):=by
 simp only [St,Ex] at *
 rw [alw_k28]
 constructor
 ·rintro ⟨h200,hl,C0,C1,C2,C3⟩
  obtain ⟨bo,bg,bx,bp⟩:=br_m.1 C3
  refine ⟨⟨⟨by omega,by omega⟩,⟨by omega,by omega⟩,⟨by omega,by omega⟩,⟨by omega,by omega⟩,⟨by omega,by omega⟩,bg,bx⟩,fun i hi=>?_⟩
  ·omega
 ·rintro ⟨⟨⟨l1,l2⟩,⟨o1,o2⟩,⟨m1,m2⟩,⟨r1,r2⟩,⟨k1,k2⟩,bg,bx⟩,T⟩
  exact ⟨by omega,by omega,by omega,by omega,by omega,br_m.2 ⟨by omega,bg,bx,by omega⟩⟩
theorem qs_29 {a : Nv} {p q : Nat} {kdf : Nat → Int} (hm0 : -9223372036854775808 ≤ a.m ∧ a.m ≤ 9223372036854775807) (hp0 : p ≤ 1048576) (hkd : ∀ i, i < q → St (kdf i) ∨ Ex (kdf i)) :
  (q≤200∧a.l=0∧(q=2∧(∀ x,0≤x→x < q→Ex (kdf x))∧Br false false false false a p 0))↔(alw (rwk 29 q) a p q∧(∀ i,i < q→14 < kdf i)):=by
 simp only [St,Ex] at *
 rw [alw_k29]
 constructor
 ·rintro ⟨h200,hl,C0,C1,C2⟩
  obtain ⟨bo,bm,bg,bx,bp⟩:=br_z.1 C2
  refine ⟨⟨⟨by omega,by omega⟩,⟨by omega,by omega⟩,⟨by omega,by omega⟩,⟨by omega,by omega⟩,⟨by omega,by omega⟩,bg,bx⟩,fun i hi=>?_⟩
  ·have hi2:i=0∨i=1:=by omega
   rcases hi2 with rfl | rfl
   ·have hk1:=hkd 0 hi
    have e1:=C1 0 zq
    omega
   ·have hk1:=hkd 1 hi
    have e1:=C1 1 zq
    omega
 ·rintro ⟨⟨⟨l1,l2⟩,⟨o1,o2⟩,⟨m1,m2⟩,⟨r1,r2⟩,⟨k1,k2⟩,bg,bx⟩,T⟩
  exact ⟨by omega,by omega,by omega,fun x h1 h2=>by have e1:=T x (by omega);have e2:=hkd x (by omega);omega,br_z.2 ⟨by omega,by omega,bg,bx,by omega⟩⟩
theorem qs_30 {a : Nv} {p q : Nat} {kdf : Nat → Int} (hm0 : -9223372036854775808 ≤ a.m ∧ a.m ≤ 9223372036854775807) (hp0 : p ≤ 1048576) (hkd : ∀ i, i < q → St (kdf i) ∨ Ex (kdf i)) :
  (q≤200∧a.l=0∧(q=2∧(∀ x,0≤x→x < q→Ex (kdf x))∧Br false false false false a p 0))↔(alw (rwk 30 q) a p q∧(∀ i,i < q→14 < kdf i)):=by
 simp only [St,Ex] at *
 rw [alw_k30]
 constructor
 ·rintro ⟨h200,hl,C0,C1,C2⟩
  obtain ⟨bo,bm,bg,bx,bp⟩:=br_z.1 C2
  refine ⟨⟨⟨by omega,by omega⟩,⟨by omega,by omega⟩,⟨by omega,by omega⟩,⟨by omega,by omega⟩,⟨by omega,by omega⟩,bg,bx⟩,fun i hi=>?_⟩
  ·have hi2:i=0∨i=1:=by omega
   rcases hi2 with rfl | rfl
   ·have hk1:=hkd 0 hi
    have e1:=C1 0 zq
    omega
   ·have hk1:=hkd 1 hi
    have e1:=C1 1 zq
    omega
 ·rintro ⟨⟨⟨l1,l2⟩,⟨o1,o2⟩,⟨m1,m2⟩,⟨r1,r2⟩,⟨k1,k2⟩,bg,bx⟩,T⟩
  exact ⟨by omega,by omega,by omega,fun x h1 h2=>by have e1:=T x (by omega);have e2:=hkd x (by omega);omega,br_z.2 ⟨by omega,by omega,bg,bx,by omega⟩⟩
theorem qs_31 {a : Nv} {p q : Nat} {kdf : Nat → Int} (hm0 : -9223372036854775808 ≤ a.m ∧ a.m ≤ 9223372036854775807) (hp0 : p ≤ 1048576) (hkd : ∀ i, i < q → St (kdf i) ∨ Ex (kdf i)) :
  (q≤200∧a.l=0∧(q=1∧(∀ x,0≤x→x < q→Ex (kdf x))∧19≤a.o∧a.o≤22∧Br true false false false a p 0))↔(alw (rwk 31 q) a p q∧(∀ i,i < q→14 < kdf i)):=by
 simp only [St,Ex] at *
 rw [alw_k31]
 constructor
 ·rintro ⟨h200,hl,C0,C1,C2,C3,C4⟩
  obtain ⟨bm,bg,bx,bp⟩:=br_o.1 C4
  refine ⟨⟨⟨by omega,by omega⟩,⟨by omega,by omega⟩,⟨by omega,by omega⟩,⟨by omega,by omega⟩,⟨by omega,by omega⟩,bg,bx⟩,fun i hi=>?_⟩
  ·have hi2:i=0:=by omega
   subst hi2
   have hk1:=hkd 0 hi
   have e1:=C1 0 zq
   omega
 ·rintro ⟨⟨⟨l1,l2⟩,⟨o1,o2⟩,⟨m1,m2⟩,⟨r1,r2⟩,⟨k1,k2⟩,bg,bx⟩,T⟩
  exact ⟨by omega,by omega,by omega,fun x h1 h2=>by have e1:=T x (by omega);have e2:=hkd x (by omega);omega,by omega,by omega,br_o.2 ⟨by omega,bg,bx,by omega⟩⟩
theorem qs_32 {a : Nv} {p q : Nat} {kdf : Nat → Int} (hm0 : -9223372036854775808 ≤ a.m ∧ a.m ≤ 9223372036854775807) (hp0 : p ≤ 1048576) (hkd : ∀ i, i < q → St (kdf i) ∨ Ex (kdf i)) :
  (q≤200∧a.l=0∧(q=2∧(∀ x,0≤x→x < q→Ex (kdf x))∧1≤a.o∧a.o≤18∧Br true false false false a p 0))↔(alw (rwk 32 q) a p q∧(∀ i,i < q→14 < kdf i)):=by
 simp only [St,Ex] at *
 rw [alw_k32]
 constructor
 ·rintro ⟨h200,hl,C0,C1,C2,C3,C4⟩
  obtain ⟨bm,bg,bx,bp⟩:=br_o.1 C4
  refine ⟨⟨⟨by omega,by omega⟩,⟨by omega,by omega⟩,⟨by omega,by omega⟩,⟨by omega,by omega⟩,⟨by omega,by omega⟩,bg,bx⟩,fun i hi=>?_⟩
  ·have hi2:i=0∨i=1:=by omega
   rcases hi2 with rfl | rfl
   ·have hk1:=hkd 0 hi
    have e1:=C1 0 zq
    omega
   ·have hk1:=hkd 1 hi
    have e1:=C1 1 zq
    omega
 ·rintro ⟨⟨⟨l1,l2⟩,⟨o1,o2⟩,⟨m1,m2⟩,⟨r1,r2⟩,⟨k1,k2⟩,bg,bx⟩,T⟩
  exact ⟨by omega,by omega,by omega,fun x h1 h2=>by have e1:=T x (by omega);have e2:=hkd x (by omega);omega,by omega,by omega,br_o.2 ⟨by omega,bg,bx,by omega⟩⟩
theorem qs_33 {a : Nv} {p q : Nat} {kdf : Nat → Int} (hm0 : -9223372036854775808 ≤ a.m ∧ a.m ≤ 9223372036854775807) (hp0 : p ≤ 1048576) (hkd : ∀ i, i < q → St (kdf i) ∨ Ex (kdf i)) :
  (q≤200∧a.l=0∧(q=2∧(∀ x,0≤x→x < q→Ex (kdf x))∧Br false false false false a p 0))↔(alw (rwk 33 q) a p q∧(∀ i,i < q→14 < kdf i)):=by
 simp only [St,Ex] at *
 rw [alw_k33]
 constructor
 ·rintro ⟨h200,hl,C0,C1,C2⟩
  obtain ⟨bo,bm,bg,bx,bp⟩:=br_z.1 C2
  refine ⟨⟨⟨by omega,by omega⟩,⟨by omega,by omega⟩,⟨by omega,by omega⟩,⟨by omega,by omega⟩,⟨by omega,by omega⟩,bg,bx⟩,fun i hi=>?_⟩
  ·have hi2:i=0∨i=1:=by omega
   rcases hi2 with rfl | rfl
   ·have hk1:=hkd 0 hi
    have e1:=C1 0 zq
    omega
   ·have hk1:=hkd 1 hi
    have e1:=C1 1 zq
    omega
 ·rintro ⟨⟨⟨l1,l2⟩,⟨o1,o2⟩,⟨m1,m2⟩,⟨r1,r2⟩,⟨k1,k2⟩,bg,bx⟩,T⟩
  exact ⟨by omega,by omega,by omega,fun x h1 h2=>by have e1:=T x (by omega);have e2:=hkd x (by omega);omega,br_z.2 ⟨by omega,by omega,bg,bx,by omega⟩⟩
theorem qs_34 {a : Nv} {p q : Nat} {kdf : Nat → Int} (hm0 : -9223372036854775808 ≤ a.m ∧ a.m ≤ 9223372036854775807) (hp0 : p ≤ 1048576) (hkd : ∀ i, i < q → St (kdf i) ∨ Ex (kdf i)) :
  (q≤200∧a.l=0∧(1≤q∧(∀ x,0≤x→x < q→Ex (kdf x))∧Br false false false false a p 0))↔(alw (rwk 34 q) a p q∧(∀ i,i < q→14 < kdf i)):=by
 simp only [St,Ex] at *
 rw [alw_k34]
 constructor
 ·rintro ⟨h200,hl,C0,C1,C2⟩
  obtain ⟨bo,bm,bg,bx,bp⟩:=br_z.1 C2
  refine ⟨⟨⟨by omega,by omega⟩,⟨by omega,by omega⟩,⟨by omega,by omega⟩,⟨by omega,by omega⟩,⟨by omega,by omega⟩,bg,bx⟩,fun i hi=>?_⟩
  ·have hk1:=hkd i hi
   have e1:=C1 i zq
   omega
 ·rintro ⟨⟨⟨l1,l2⟩,⟨o1,o2⟩,⟨m1,m2⟩,⟨r1,r2⟩,⟨k1,k2⟩,bg,bx⟩,T⟩
  exact ⟨by omega,by omega,by omega,fun x h1 h2=>by have e1:=T x (by omega);have e2:=hkd x (by omega);omega,br_z.2 ⟨by omega,by omega,bg,bx,by omega⟩⟩
theorem qs_35 {a : Nv} {p q : Nat} {kdf : Nat → Int} (hm0 : -9223372036854775808 ≤ a.m ∧ a.m ≤ 9223372036854775807) (hp0 : p ≤ 1048576) (hkd : ∀ i, i < q → St (kdf i) ∨ Ex (kdf i)) :
  (q≤200∧a.l=0∧((a.o=0∨a.o=1∧2≤q∧kdf (q - 2)=23∧(kdf (q - 1)=34∨kdf (q - 1)=37))∧q % 2=0∧(∀ x,0≤x→x < q→Ex (kdf x))∧Br true false false false a p 0))↔(alw (rwk 35 q) a p q∧(∀ i,i < q→14 < kdf i)∧(q % 2=0∧(a.o=0∨(0 < q∧kdf (q - 2)=23∧(kdf (q - 1)=34∨kdf (q - 1)=37))))):=by
 simp only [St,Ex] at *
 rw [alw_k35]
 constructor
 ·rintro ⟨h200,hl,C0,C1,C2,C3⟩
  obtain ⟨bm,bg,bx,bp⟩:=br_o.1 C3
  refine ⟨⟨⟨by omega,by omega⟩,⟨by omega,by omega⟩,⟨by omega,by omega⟩,⟨by omega,by omega⟩,⟨by omega,by omega⟩,bg,bx⟩,fun i hi=>?_,?_⟩
  ·have hk1:=hkd i hi
   have e2:=C2 i zq
   omega
  ·omega
 ·rintro ⟨⟨⟨l1,l2⟩,⟨o1,o2⟩,⟨m1,m2⟩,⟨r1,r2⟩,⟨k1,k2⟩,bg,bx⟩,T,TB⟩
  exact ⟨by omega,by omega,by omega,by omega,fun x h1 h2=>by have e1:=T x (by omega);have e2:=hkd x (by omega);omega,br_o.2 ⟨by omega,bg,bx,by omega⟩⟩
theorem qs_36 {a : Nv} {p q : Nat} {kdf : Nat → Int} (hm0 : -9223372036854775808 ≤ a.m ∧ a.m ≤ 9223372036854775807) (hp0 : p ≤ 1048576) (hkd : ∀ i, i < q → St (kdf i) ∨ Ex (kdf i)) :
  (q≤200∧a.l=0∧(q=0∧Br false false false false a p 1))↔(alw (rwk 36 q) a p q∧(∀ i,i < q→14 < kdf i)):=by
 simp only [St,Ex] at *
 rw [alw_k36]
 constructor
 ·rintro ⟨h200,hl,C0,C1⟩
  obtain ⟨bo,bm,bg,bx,bp⟩:=br_z.1 C1
  refine ⟨⟨⟨by omega,by omega⟩,⟨by omega,by omega⟩,⟨by omega,by omega⟩,⟨by omega,by omega⟩,⟨by omega,by omega⟩,bg,bx⟩,fun i hi=>?_⟩
  ·omega
 ·rintro ⟨⟨⟨l1,l2⟩,⟨o1,o2⟩,⟨m1,m2⟩,⟨r1,r2⟩,⟨k1,k2⟩,bg,bx⟩,T⟩
  exact ⟨by omega,by omega,by omega,br_z.2 ⟨by omega,by omega,bg,bx,by omega⟩⟩
theorem qs_37 {a : Nv} {p q : Nat} {kdf : Nat → Int} (hm0 : -9223372036854775808 ≤ a.m ∧ a.m ≤ 9223372036854775807) (hp0 : p ≤ 1048576) (hkd : ∀ i, i < q → St (kdf i) ∨ Ex (kdf i)) :
  (q≤200∧a.l=0∧(q=0∧Br false false false false a p 0))↔(alw (rwk 37 q) a p q∧(∀ i,i < q→14 < kdf i)):=by
 simp only [St,Ex] at *
 rw [alw_k37]
 constructor
 ·rintro ⟨h200,hl,C0,C1⟩
  obtain ⟨bo,bm,bg,bx,bp⟩:=br_z.1 C1
  refine ⟨⟨⟨by omega,by omega⟩,⟨by omega,by omega⟩,⟨by omega,by omega⟩,⟨by omega,by omega⟩,⟨by omega,by omega⟩,bg,bx⟩,fun i hi=>?_⟩
  ·omega
 ·rintro ⟨⟨⟨l1,l2⟩,⟨o1,o2⟩,⟨m1,m2⟩,⟨r1,r2⟩,⟨k1,k2⟩,bg,bx⟩,T⟩
  exact ⟨by omega,by omega,by omega,br_z.2 ⟨by omega,by omega,bg,bx,by omega⟩⟩
theorem qs_38 {a : Nv} {p q : Nat} {kdf : Nat → Int} (hm0 : -9223372036854775808 ≤ a.m ∧ a.m ≤ 9223372036854775807) (hp0 : p ≤ 1048576) (hkd : ∀ i, i < q → St (kdf i) ∨ Ex (kdf i)) :
  (q≤200∧a.l=0∧(q=1∧(kdf 0=34∨kdf 0=37)∧Br false false false false a p 0))↔(alw (rwk 38 q) a p q∧(∀ i,i < q→kdf i=34∨kdf i=37)):=by
 simp only [St,Ex] at *
 rw [alw_k38]
 constructor
 ·rintro ⟨h200,hl,C0,C1,C2⟩
  obtain ⟨bo,bm,bg,bx,bp⟩:=br_z.1 C2
  refine ⟨⟨⟨by omega,by omega⟩,⟨by omega,by omega⟩,⟨by omega,by omega⟩,⟨by omega,by omega⟩,⟨by omega,by omega⟩,bg,bx⟩,fun i hi=>?_⟩
  ·have hi2:i=0:=by omega
   subst hi2
   have hk1:=hkd 0 hi
   omega
 ·rintro ⟨⟨⟨l1,l2⟩,⟨o1,o2⟩,⟨m1,m2⟩,⟨r1,r2⟩,⟨k1,k2⟩,bg,bx⟩,T⟩
  exact ⟨by omega,by omega,by omega,by have u0:=T 0;omega,br_z.2 ⟨by omega,by omega,bg,bx,by omega⟩⟩
theorem sp_shape0 {K : Nat → Int} {A : Addr} {n ca t : Nat} {a : Nv} {pr pk : Option Addr} {p cr q ck : Nat} {kdf : Nat → Int} {exf : Nat → Nat → Prop} (w : World) (hx : Nst w A n ca t a pr p cr pk q ck kdf exf) (hkid : RowB 0 w (.slice pk q ck) q (fun i => .int .i64 (K i))) :
    Calls Tryz.prog 38 #[.slice (some A) n ca,.int .i64 (t:Int)] w fun e w'=>e = .returned (.bool (dc (ShM t a p q K kdf exf)))∧Kb 0 w w':=by
  obtain ⟨R,hR⟩:∃ R,R=dc (ShM t a p q K kdf exf):=⟨_,rfl⟩
  rw [← hR]
  have HR:Hid (R=dc (ShM t a p q K kdf exf)):=hR
  clear hR
  obtain ⟨d0,d1,d2,d3,d4,d5,d6,d7⟩:=hx.cel
  have hnI:(n:Int)≤1048576:=by have:=hx.hn;omega
  have hpI:(p:Int)≤1048576:=by have:=hx.hp;omega
  have hqI:(q:Int)≤1048576:=by have:=hx.hq;omega
  have htI:(t:Int) < (n:Int):=by have:=hx.ht;omega
  have hst:=hst0
  rcases Nat.lt_or_ge 200 q with h200 | h200
  · have hF : R = false := by
      rw [show R=dc (ShM t a p q K kdf exf) from HR]
      exact dc_f (fun g=>by have:=g.1;omega)
    have hgt:(200:Int) < (q:Int):=by omega
    subst hF
    clear hx hkid HR h200
    go_enter Tryz.func38,Tryz.ntmps38
    go_wp2_with fail
    go_ret
    exact ⟨rfl,kb_alloc _ _ _⟩
  · have hgt:¬ (200:Int) < (q:Int):=by omega
    have hkid1:=hkid.keep (kb_alloc 0 w (.cells #[.int .i64 a.k,.int .i64 a.l,.int .i64 a.o,.int .i64 a.m,.float .f64 a.g,.string a.x,.slice pr p cr,.slice pk q ck] 59))
    obtain ⟨pk',ck',e1,hrow⟩:=hkid1
    obtain ⟨rfl,-,rfl⟩:pk=pk'∧q=q∧ck=ck':=by simpa using e1
    have HROW:Hid (0 < q→∃ a_1:Addr,pk=some a_1∧q≤ck∧0≤a_1.block∧∀ i,i < q→(w.alloc (.cells #[.int .i64 a.k,.int .i64 a.l,.int .i64 a.o,.int .i64 a.m,.float .f64 a.g,.string a.x,.slice pr p cr,.slice pk q ck] 59)).cell? (a_1.add i)=some (.int .i64 (K i))):=hrow
    have hx1:∀ W,Kb 0 w W→Nst W A n ca t a pr p cr pk q ck kdf exf:=fun W k=>⟨hx.cel.keep zq k,hx.hn,hx.ht,hx.hp,hx.hq,hx.hg,fun z W' k' hz=>hx.kid z W' (k.trans k') hz,fun i j W' k' hi hj=>hx.exp i j W' (k.trans k') hi hj⟩
    have HST:Hid (St a.k→Calls Tryz.prog 54 #[.slice (some A) n ca,.int .i64 (t:Int)] (w.alloc (.cells #[.int .i64 a.k,.int .i64 a.l,.int .i64 a.o,.int .i64 a.m,.float .f64 a.g,.string a.x,.slice pr p cr,.slice pk q ck] 59)) fun e w'=>e = .returned (.bool (dc (StM a p q kdf exf)))∧Kb 0 (w.alloc (.cells #[.int .i64 a.k,.int .i64 a.l,.int .i64 a.o,.int .i64 a.m,.float .f64 a.g,.string a.x,.slice pr p cr,.slice pk q ck] 59)) w'):=(fun h=>sp_statement _ (hx1 _ (kb_alloc _ _ _)) h:St a.k→_)
    have HEX:Hid (Calls Tryz.prog 55 #[.slice (some A) n ca,.int .i64 (t:Int)] (w.alloc (.cells #[.int .i64 a.k,.int .i64 a.l,.int .i64 a.o,.int .i64 a.m,.float .f64 a.g,.string a.x,.slice pr p cr,.slice pk q ck] 59)) fun e w'=>e = .returned (.bool (dc (ExM a p q kdf exf)))∧Kb 0 (w.alloc (.cells #[.int .i64 a.k,.int .i64 a.l,.int .i64 a.o,.int .i64 a.m,.float .f64 a.g,.string a.x,.slice pr p cr,.slice pk q ck] 59)) w'):=sp_expression _ (hx1 _ (kb_alloc _ _ _))
    have HQ:Hid (q≤200):=h200
    clear hx hx1 hkid hrow h200 e1
    go_enter Tryz.func38,Tryz.ntmps38
    go_wp2_with fail
    go_loopw [19] (fun s19 wr=>∃ i:Nat,s19 = .int .i64 (i:Int)∧i≤q∧wr=(w.alloc (.cells #[.int .i64 a.k,.int .i64 a.l,.int .i64 a.o,.int .i64 a.m,.float .f64 a.g,.string a.x,.slice pr p cr,.slice pk q ck] 59))∧Hid (∀ y,y < i→0≤K y∧K y < (t:Int))) (fun s19 _=>q - (intOf s19).toNat)
    case atStart=>exact ⟨0,rfl,Nat.zero_le _,rfl,(fun y h=>by omega:∀ y,_)⟩
    case round =>
      obtain ⟨i,rfl,hi,rfl,HX⟩:=hrel
      have hX:=(uh HX)
      rcases Nat.lt_or_ge i q with h | h
      · have hI:(i:Int) < (q:Int):=by omega
        obtain ⟨b,rfl,hcb,-,hrb⟩:=(uh HROW) (by omega)
        have e0:(w.alloc (.cells #[.int .i64 a.k,.int .i64 a.l,.int .i64 a.o,.int .i64 a.m,.float .f64 a.g,.string a.x,.slice pr p cr,.slice (some b) q ck] 59)).cell? (b.add i)=some (.int .i64 (K i)):=hrb i h
        clear hrb HROW
        by_cases c : 0≤K i∧K i < (t:Int)
        · have HX2 : Hid (∀ y, y < i + 1 → 0 ≤ K y ∧ K y < (t : Int)) := (fun y h2 => by
            by_cases e:y=i
            · subst e;exact c
            · exact hX y (by omega):∀ y,_)
          have c1:¬ K i < 0:=by omega
          have c2:¬ (t:Int)≤K i:=by omega
          clear HX hX HR HEX HST c
          generalize K i=z at *
          go_wp2_with fail
          go_roundw
          case rel=>exact ⟨i+1,by go_num,by omega,by trivial,HX2⟩
          case measure=>simp [intOf];omega
        · have hF : R = false := by
            rw [show R=dc (ShM t a p q K kdf exf) from HR]
            exact dc_f (fun g=>c (g.2.1 i h))
          subst hF
          clear HX hX HR HEX HST
          generalize K i=z at *
          rcases Int.lt_or_le z 0 with c1 | c1
          · clear c
            go_wp2_with fail
            go_ret
            exact ⟨rfl,kb_alloc _ _ _⟩
          · have c2:(t:Int)≤z:=by omega
            have c3:¬ z < 0:=by omega
            clear c
            go_wp2_with fail
            go_ret
            exact ⟨rfl,kb_alloc _ _ _⟩
      · obtain rfl:i=q:=by omega
        have HF:Hid (R=dc ((St a.k∧1≤a.l∧a.l≤100000∧StM a p i kdf exf)∨(¬ St a.k∧a.l=0∧ExM a p i kdf exf))):=by
          rw [show R=dc (ShM t a p i K kdf exf) from HR]
          exact dc_iff ⟨fun h=>h.2.2,fun h=>⟨HQ,hX,h⟩⟩
        clear HX hX HR HROW h
        have hI:¬ (i:Int) < (i:Int):=by omega
        go_wp2_with fail
        refine (sp_stat _ _).mono ?_
        rintro e w2 ⟨rfl,rfl⟩
        by_cases c:St a.k
        · rw [dc_t c]
          have HS:=(uh HST) c
          by_cases cl : 1≤a.l∧a.l≤100000
          · have hF : R = dc (StM a p i kdf exf) := by
              rw [show R=dc ((St a.k∧1≤a.l∧a.l≤100000∧StM a p i kdf exf)∨(¬ St a.k∧a.l=0∧ExM a p i kdf exf)) from HF]
              exact dc_iff ⟨fun h=>h.elim (fun g=>g.2.2.2) (fun g=>absurd c g.1),fun h=>.inl ⟨c,cl.1,cl.2,h⟩⟩
            obtain ⟨l1,l2⟩:=cl
            clear HST HEX HF c
            go_wp2_with fail
            refine HS.mono ?_
            rintro e w3 ⟨rfl,k3⟩
            have HK3:Hid (Kb 0 w w3):=(kb_alloc _ _ _).trans k3
            clear k3 HS
            subst hF
            go_wp2_with fail
            go_ret
            exact ⟨rfl,HK3⟩
          · have hF : R = false := by
              rw [show R=dc ((St a.k∧1≤a.l∧a.l≤100000∧StM a p i kdf exf)∨(¬ St a.k∧a.l=0∧ExM a p i kdf exf)) from HF]
              exact dc_f (fun h=>h.elim (fun g=>cl ⟨g.2.1,g.2.2.1⟩) (fun g=>g.1 c))
            subst hF
            clear HST HEX HF c HS
            rcases Int.lt_or_le a.l 1 with l1 | l1
            · have l2:¬ 1≤a.l:=by omega
              clear cl
              go_wp2_with fail
              go_ret
              exact ⟨rfl,kb_alloc _ _ _⟩
            · have l2:¬ a.l≤100000:=by omega
              clear cl
              go_wp2_with fail
              go_ret
              exact ⟨rfl,kb_alloc _ _ _⟩
        · rw [dc_f c]
          have HS:=(uh HEX)
          by_cases cl:a.l=0
          · have hF : R = dc (ExM a p i kdf exf) := by
              rw [show R=dc ((St a.k∧1≤a.l∧a.l≤100000∧StM a p i kdf exf)∨(¬ St a.k∧a.l=0∧ExM a p i kdf exf)) from HF]
              exact dc_iff ⟨fun h=>h.elim (fun g=>absurd g.1 c) (fun g=>g.2.2),fun h=>.inr ⟨c,cl,h⟩⟩
            have gl:=beq1 cl
            clear HST HEX HF c cl
            go_wp2_with fail
            refine HS.mono ?_
            rintro e w3 ⟨rfl,k3⟩
            have HK3:Hid (Kb 0 w w3):=(kb_alloc _ _ _).trans k3
            clear k3 HS
            subst hF
            go_wp2_with fail
            go_ret
            exact ⟨rfl,HK3⟩
          · have hF : R = false := by
              rw [show R=dc ((St a.k∧1≤a.l∧a.l≤100000∧StM a p i kdf exf)∨(¬ St a.k∧a.l=0∧ExM a p i kdf exf)) from HF]
              exact dc_f (fun h=>h.elim (fun g=>c g.1) (fun g=>cl g.2.1))
            subst hF
            have gl:=bne cl
            clear HST HEX HF c HS cl
            go_wp2_with fail
            go_ret
            exact ⟨rfl,kb_alloc _ _ _⟩
def shM (N:Nat→Nd) (t:Nat):Prop:=ShM t (N t).a (N t).p (N t).q (N t).K (kd N t) (exs N t)
theorem sp_shape {va : Value} {n : Nat} {N : Nat → Nd} (w : World) (ha : RowN 0 w va n N) (hn : n ≤ 1048576) (hN : ∀ i, i < n → (N i).p ≤ 1048576 ∧ (N i).q ≤ 1048576 ∧ (N i).a.g < 18446744073709551616) (t : Nat) (ht : t < n) :
  Calls Tryz.prog 38 #[va,.int .i64 (t:Int)] w fun e w'=>e = .returned (.bool (dc (shM N t)))∧Kb 0 w w':=by
 have hR:=fun W (k:Kb 0 w W)=>ha.keep k
 obtain ⟨pa,ca,rfl,ha2⟩:=ha
 obtain ⟨A,rfl,hca,-,hra⟩:=ha2 (by omega)
 obtain ⟨vr,vk,hc,hr,hk⟩:=hra t ht
 obtain ⟨y1,y2,y3⟩:=hN t ht
 have hk2:=hk
 obtain ⟨pr,cr,rfl,-⟩:=hr
 obtain ⟨pk,ck,rfl,-⟩:=hk
 exact sp_shape0 w ⟨hc,hn,ht,y1,y2,y3,fun z W k hz=>sp_kid W (hR W k) hn t z ht hz y2,fun i j W k hi hj=>sp_exprs W (hR W k) hn t i j ht hi hj y2⟩ hk2
end Go.Proofs.YtfpidccjcemcjaaGreat.Fo
