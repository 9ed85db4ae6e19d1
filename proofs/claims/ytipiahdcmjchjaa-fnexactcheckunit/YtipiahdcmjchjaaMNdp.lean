import Derived.Test.YtipiahdcmjchjaaMNcl
namespace Go.Proofs.Ytipiahdcmjchjaa.Fo
open Go.ChangeShapes Go.WideShapes Go.ChangeAt Go.RowKit
set_option linter.unusedVariables false
set_option maxRecDepth 100000
theorem qs_1 {a : Nv} {p q : Nat} {kdf : Nat → Int} (hm0 : -9223372036854775808 ≤ a.m ∧ a.m ≤ 9223372036854775807) (hp0 : p ≤ 1048576) (hkd : ∀ i, i < q → St (kdf i) ∨ Ex (kdf i)) :
    (q ≤ 200 ∧ (1 ≤ a.l ∧ a.l ≤ 100000) ∧ ((∀ i,i < q → St (kdf i)) ∧ Br false false false false a p 0)) ↔ (alw (rwk 1 q) a p q ∧ (∀ i,i < q → kdf i ≤ 14)):=by
  simp only [St,Ex] at *
  rw [alw_k1]
  constructor
  · rintro ⟨h200,⟨hl1,hl2⟩,C0,C1⟩
    obtain ⟨bo,bm,bg,bx,bp⟩:=br_z.1 C1
    refine ⟨⟨⟨by omega,by omega⟩,⟨by omega,by omega⟩,⟨by omega,by omega⟩,⟨by omega,by omega⟩,⟨by omega,by omega⟩,bg,bx⟩,fun i hi=>?_⟩
    · have hk1:=hkd i hi
      have e1:=C0 i hi
      omega
  · rintro ⟨⟨⟨l1,l2⟩,⟨o1,o2⟩,⟨m1,m2⟩,⟨r1,r2⟩,⟨k1,k2⟩,bg,bx⟩,T⟩
    exact ⟨by omega,⟨by omega,by omega⟩,fun i hi=>by have e1:=T i hi;have e2:=hkd i hi;omega,br_z.2 ⟨by omega,by omega,bg,bx,by omega⟩⟩
theorem qs_2 {a : Nv} {p q : Nat} {kdf : Nat → Int} (hm0 : -9223372036854775808 ≤ a.m ∧ a.m ≤ 9223372036854775807) (hp0 : p ≤ 1048576) (hkd : ∀ i, i < q → St (kdf i) ∨ Ex (kdf i)) :
    (q ≤ 200 ∧ (1 ≤ a.l ∧ a.l ≤ 100000) ∧ (0 < p ∧ Br false false false false a p (p : Int) ∧ (∀ x,0 ≤ x → x < q → Ex (kdf x)))) ↔ (alw (rwk 2 q) a p q ∧ (∀ i,i < q → 14 < kdf i)):=by
  simp only [St,Ex] at *
  rw [alw_k2]
  constructor
  · rintro ⟨h200,⟨hl1,hl2⟩,C0,C1,C2⟩
    obtain ⟨bo,bm,bg,bx,bp⟩:=br_z.1 C1
    refine ⟨⟨⟨by omega,by omega⟩,⟨by omega,by omega⟩,⟨by omega,by omega⟩,⟨by omega,by omega⟩,⟨by omega,by omega⟩,bg,bx⟩,fun i hi=>?_⟩
    · have hk1:=hkd i hi
      have e2:=C2 i (Nat.zero_le _)
      omega
  · rintro ⟨⟨⟨l1,l2⟩,⟨o1,o2⟩,⟨m1,m2⟩,⟨r1,r2⟩,⟨k1,k2⟩,bg,bx⟩,T⟩
    exact ⟨by omega,⟨by omega,by omega⟩,by omega,br_z.2 ⟨by omega,by omega,bg,bx,by omega⟩,fun x h1 h2=>by have e1:=T x (by omega);have e2:=hkd x (by omega);omega⟩
theorem qs_3 {a : Nv} {p q : Nat} {kdf : Nat → Int} (hm0 : -9223372036854775808 ≤ a.m ∧ a.m ≤ 9223372036854775807) (hp0 : p ≤ 1048576) (hkd : ∀ i, i < q → St (kdf i) ∨ Ex (kdf i)) :
    (q ≤ 200 ∧ (1 ≤ a.l ∧ a.l ≤ 100000) ∧ (1 ≤ a.m ∧ a.m < (q : Int) ∧ (∀ i : Nat,(i : Int) < a.m → kdf i = 26 ∨ kdf i = 27 ∨ kdf i = 33) ∧ Br false true false false a p 0 ∧ (∀ x,a.m.toNat ≤ x → x < q → Ex (kdf x)))) ↔ (alw (rwk 3 q) a p q ∧ (∀ i,i < q → ((i : Int) < a.m → kdf i = 26 ∨ kdf i = 27 ∨ kdf i = 33) ∧ (¬ (i : Int) < a.m → 14 < kdf i))):=by
  simp only [St,Ex] at *
  rw [alw_k3]
  constructor
  · rintro ⟨h200,⟨hl1,hl2⟩,C0,C1,C2,C3,C4⟩
    obtain ⟨bo,bg,bx,bp⟩:=br_m.1 C3
    refine ⟨⟨⟨by omega,by omega⟩,⟨by omega,by omega⟩,⟨by omega,by omega⟩,⟨by omega,by omega⟩,⟨by omega,by omega⟩,bg,bx⟩,fun i hi=>?_⟩
    · have hk1:=hkd i hi
      have e1:=C2 i
      have e2:=C4 i
      omega
  · rintro ⟨⟨⟨l1,l2⟩,⟨o1,o2⟩,⟨m1,m2⟩,⟨r1,r2⟩,⟨k1,k2⟩,bg,bx⟩,T⟩
    exact ⟨by omega,⟨by omega,by omega⟩,by omega,by omega,fun i hi=>by have e1:=T i (by omega);omega,br_m.2 ⟨by omega,bg,bx,by omega⟩,fun x h1 h2=>by have e1:=T x (by omega);have e2:=hkd x (by omega);omega⟩
theorem qs_4 {a : Nv} {p q : Nat} {kdf : Nat → Int} (hm0 : -9223372036854775808 ≤ a.m ∧ a.m ≤ 9223372036854775807) (hp0 : p ≤ 1048576) (hkd : ∀ i, i < q → St (kdf i) ∨ Ex (kdf i)) :
    (q ≤ 200 ∧ (1 ≤ a.l ∧ a.l ≤ 100000) ∧ (q = 1 ∧ kdf 0 = 34 ∧ Br false false false false a p 0)) ↔ (alw (rwk 4 q) a p q ∧ (∀ i,i < q → kdf i = 34)):=by
  simp only [St,Ex] at *
  rw [alw_k4]
  constructor
  · rintro ⟨h200,⟨hl1,hl2⟩,C0,C1,C2⟩
    obtain ⟨bo,bm,bg,bx,bp⟩:=br_z.1 C2
    refine ⟨⟨⟨by omega,by omega⟩,⟨by omega,by omega⟩,⟨by omega,by omega⟩,⟨by omega,by omega⟩,⟨by omega,by omega⟩,bg,bx⟩,fun i hi=>?_⟩
    · have hi2 : i = 0:=by omega
      subst hi2
      have hk1:=hkd 0 hi
      omega
  · rintro ⟨⟨⟨l1,l2⟩,⟨o1,o2⟩,⟨m1,m2⟩,⟨r1,r2⟩,⟨k1,k2⟩,bg,bx⟩,T⟩
    exact ⟨by omega,⟨by omega,by omega⟩,by omega,by have u0:=T 0;omega,br_z.2 ⟨by omega,by omega,bg,bx,by omega⟩⟩
theorem qs_5 {a : Nv} {p q : Nat} {kdf : Nat → Int} (hm0 : -9223372036854775808 ≤ a.m ∧ a.m ≤ 9223372036854775807) (hp0 : p ≤ 1048576) (hkd : ∀ i, i < q → St (kdf i) ∨ Ex (kdf i)) :
    (q ≤ 200 ∧ (1 ≤ a.l ∧ a.l ≤ 100000) ∧ ((q = 2 ∨ q = 3 ∧ (kdf 2 = 1 ∨ kdf 2 = 5)) ∧ (∀ x,0 ≤ x → x < 1 → Ex (kdf x)) ∧ kdf 1 = 1 ∧ Br false false false false a p 0)) ↔ (alw (rwk 5 q) a p q ∧ (∀ i,i < q → (0 < i → kdf i = 1 ∨ (i = 2 ∧ kdf i = 5)) ∧ (¬ 0 < i → 14 < kdf i))):=by
  simp only [St,Ex] at *
  rw [alw_k5]
  constructor
  · rintro ⟨h200,⟨hl1,hl2⟩,C0,C1,C2,C3⟩
    obtain ⟨bo,bm,bg,bx,bp⟩:=br_z.1 C3
    refine ⟨⟨⟨by omega,by omega⟩,⟨by omega,by omega⟩,⟨by omega,by omega⟩,⟨by omega,by omega⟩,⟨by omega,by omega⟩,bg,bx⟩,fun i hi=>?_⟩
    · have hi2 : i = 0 ∨ i = 1 ∨ i = 2:=by omega
      rcases hi2 with rfl | rfl | rfl
      · have hk1:=hkd 0 hi
        have e1:=C1 0 (Nat.zero_le _)
        omega
      · have hk1:=hkd 1 hi
        have e1:=C1 1 (Nat.zero_le _)
        omega
      · have hk1:=hkd 2 hi
        have e1:=C1 2 (Nat.zero_le _)
        omega
  · rintro ⟨⟨⟨l1,l2⟩,⟨o1,o2⟩,⟨m1,m2⟩,⟨r1,r2⟩,⟨k1,k2⟩,bg,bx⟩,T⟩
    exact ⟨by omega,⟨by omega,by omega⟩,by have u2:=T 2;omega,fun x h1 h2=>by have e1:=T x (by omega);have e2:=hkd x (by omega);omega,by have u1:=T 1;omega,br_z.2 ⟨by omega,by omega,bg,bx,by omega⟩⟩
theorem qs_6 {a : Nv} {p q : Nat} {kdf : Nat → Int} (hm0 : -9223372036854775808 ≤ a.m ∧ a.m ≤ 9223372036854775807) (hp0 : p ≤ 1048576) (hkd : ∀ i, i < q → St (kdf i) ∨ Ex (kdf i)) :
    (q ≤ 200 ∧ (1 ≤ a.l ∧ a.l ≤ 100000) ∧ (q = 2 ∧ (∀ x,0 ≤ x → x < 1 → Ex (kdf x)) ∧ kdf 1 = 1 ∧ Br false false false false a p 0)) ↔ (alw (rwk 6 q) a p q ∧ (∀ i,i < q → (i + 1 = q → kdf i = 1) ∧ (¬ i + 1 = q → 14 < kdf i))):=by
  simp only [St,Ex] at *
  rw [alw_k6]
  constructor
  · rintro ⟨h200,⟨hl1,hl2⟩,C0,C1,C2,C3⟩
    obtain ⟨bo,bm,bg,bx,bp⟩:=br_z.1 C3
    refine ⟨⟨⟨by omega,by omega⟩,⟨by omega,by omega⟩,⟨by omega,by omega⟩,⟨by omega,by omega⟩,⟨by omega,by omega⟩,bg,bx⟩,fun i hi=>?_⟩
    · have hi2 : i = 0 ∨ i = 1:=by omega
      rcases hi2 with rfl | rfl
      · have hk1:=hkd 0 hi
        have e1:=C1 0 (Nat.zero_le _)
        omega
      · have hk1:=hkd 1 hi
        have e1:=C1 1 (Nat.zero_le _)
        omega
  · rintro ⟨⟨⟨l1,l2⟩,⟨o1,o2⟩,⟨m1,m2⟩,⟨r1,r2⟩,⟨k1,k2⟩,bg,bx⟩,T⟩
    exact ⟨by omega,⟨by omega,by omega⟩,by omega,fun x h1 h2=>by have e1:=T x (by omega);have e2:=hkd x (by omega);omega,by have u1:=T 1;omega,br_z.2 ⟨by omega,by omega,bg,bx,by omega⟩⟩
theorem qs_7 {a : Nv} {p q : Nat} {kdf : Nat → Int} (hm0 : -9223372036854775808 ≤ a.m ∧ a.m ≤ 9223372036854775807) (hp0 : p ≤ 1048576) (hkd : ∀ i, i < q → St (kdf i) ∨ Ex (kdf i)) :
    (q ≤ 200 ∧ (1 ≤ a.l ∧ a.l ≤ 100000) ∧ (q = 4 ∧ (∀ x,0 ≤ x → x < 3 → Ex (kdf x)) ∧ kdf 3 = 1 ∧ Br false false false false a p 1)) ↔ (alw (rwk 7 q) a p q ∧ (∀ i,i < q → (i + 1 = q → kdf i = 1) ∧ (¬ i + 1 = q → 14 < kdf i))):=by
  simp only [St,Ex] at *
  rw [alw_k7]
  constructor
  · rintro ⟨h200,⟨hl1,hl2⟩,C0,C1,C2,C3⟩
    obtain ⟨bo,bm,bg,bx,bp⟩:=br_z.1 C3
    refine ⟨⟨⟨by omega,by omega⟩,⟨by omega,by omega⟩,⟨by omega,by omega⟩,⟨by omega,by omega⟩,⟨by omega,by omega⟩,bg,bx⟩,fun i hi=>?_⟩
    · have hi2 : i = 0 ∨ i = 1 ∨ i = 2 ∨ i = 3:=by omega
      rcases hi2 with rfl | rfl | rfl | rfl
      · have hk1:=hkd 0 hi
        have e1:=C1 0 (Nat.zero_le _)
        omega
      · have hk1:=hkd 1 hi
        have e1:=C1 1 (Nat.zero_le _)
        omega
      · have hk1:=hkd 2 hi
        have e1:=C1 2 (Nat.zero_le _)
        omega
      · have hk1:=hkd 3 hi
        have e1:=C1 3 (Nat.zero_le _)
        omega
  · rintro ⟨⟨⟨l1,l2⟩,⟨o1,o2⟩,⟨m1,m2⟩,⟨r1,r2⟩,⟨k1,k2⟩,bg,bx⟩,T⟩
    exact ⟨by omega,⟨by omega,by omega⟩,by omega,fun x h1 h2=>by have e1:=T x (by omega);have e2:=hkd x (by omega);omega,by have u3:=T 3;omega,br_z.2 ⟨by omega,by omega,bg,bx,by omega⟩⟩
theorem qs_8 {a : Nv} {p q : Nat} {kdf : Nat → Int} (hm0 : -9223372036854775808 ≤ a.m ∧ a.m ≤ 9223372036854775807) (hp0 : p ≤ 1048576) (hkd : ∀ i, i < q → St (kdf i) ∨ Ex (kdf i)) :
    (q ≤ 200 ∧ (1 ≤ a.l ∧ a.l ≤ 100000) ∧ (q = 2 ∧ 1 ≤ p ∧ p ≤ 4 ∧ (∀ x,0 ≤ x → x < 1 → Ex (kdf x)) ∧ kdf 1 = 1 ∧ Br false false false false a p (p : Int))) ↔ (alw (rwk 8 q) a p q ∧ (∀ i,i < q → (i + 1 = q → kdf i = 1) ∧ (¬ i + 1 = q → 14 < kdf i))):=by
  simp only [St,Ex] at *
  rw [alw_k8]
  constructor
  · rintro ⟨h200,⟨hl1,hl2⟩,C0,C1,C2,C3,C4,C5⟩
    obtain ⟨bo,bm,bg,bx,bp⟩:=br_z.1 C5
    refine ⟨⟨⟨by omega,by omega⟩,⟨by omega,by omega⟩,⟨by omega,by omega⟩,⟨by omega,by omega⟩,⟨by omega,by omega⟩,bg,bx⟩,fun i hi=>?_⟩
    · have hi2 : i = 0 ∨ i = 1:=by omega
      rcases hi2 with rfl | rfl
      · have hk1:=hkd 0 hi
        have e3:=C3 0 (Nat.zero_le _)
        omega
      · have hk1:=hkd 1 hi
        have e3:=C3 1 (Nat.zero_le _)
        omega
  · rintro ⟨⟨⟨l1,l2⟩,⟨o1,o2⟩,⟨m1,m2⟩,⟨r1,r2⟩,⟨k1,k2⟩,bg,bx⟩,T⟩
    exact ⟨by omega,⟨by omega,by omega⟩,by omega,by omega,by omega,fun x h1 h2=>by have e1:=T x (by omega);have e2:=hkd x (by omega);omega,by have u1:=T 1;omega,br_z.2 ⟨by omega,by omega,bg,bx,by omega⟩⟩
theorem qs_9 {a : Nv} {p q : Nat} {kdf : Nat → Int} (hm0 : -9223372036854775808 ≤ a.m ∧ a.m ≤ 9223372036854775807) (hp0 : p ≤ 1048576) (hkd : ∀ i, i < q → St (kdf i) ∨ Ex (kdf i)) :
    (q ≤ 200 ∧ (1 ≤ a.l ∧ a.l ≤ 100000) ∧ (q = 0 ∧ Br false false false false a p 0)) ↔ (alw (rwk 9 q) a p q ∧ (∀ i,i < q → 14 < kdf i)):=by
  simp only [St,Ex] at *
  rw [alw_k9]
  constructor
  · rintro ⟨h200,⟨hl1,hl2⟩,C0,C1⟩
    obtain ⟨bo,bm,bg,bx,bp⟩:=br_z.1 C1
    refine ⟨⟨⟨by omega,by omega⟩,⟨by omega,by omega⟩,⟨by omega,by omega⟩,⟨by omega,by omega⟩,⟨by omega,by omega⟩,bg,bx⟩,fun i hi=>?_⟩
    · omega
  · rintro ⟨⟨⟨l1,l2⟩,⟨o1,o2⟩,⟨m1,m2⟩,⟨r1,r2⟩,⟨k1,k2⟩,bg,bx⟩,T⟩
    exact ⟨by omega,⟨by omega,by omega⟩,by omega,br_z.2 ⟨by omega,by omega,bg,bx,by omega⟩⟩
theorem qs_10 {a : Nv} {p q : Nat} {kdf : Nat → Int} (hm0 : -9223372036854775808 ≤ a.m ∧ a.m ≤ 9223372036854775807) (hp0 : p ≤ 1048576) (hkd : ∀ i, i < q → St (kdf i) ∨ Ex (kdf i)) :
    (q ≤ 200 ∧ (1 ≤ a.l ∧ a.l ≤ 100000) ∧ (q = 0 ∧ Br false false false false a p 0)) ↔ (alw (rwk 10 q) a p q ∧ (∀ i,i < q → 14 < kdf i)):=by
  simp only [St,Ex] at *
  rw [alw_k10]
  constructor
  · rintro ⟨h200,⟨hl1,hl2⟩,C0,C1⟩
    obtain ⟨bo,bm,bg,bx,bp⟩:=br_z.1 C1
    refine ⟨⟨⟨by omega,by omega⟩,⟨by omega,by omega⟩,⟨by omega,by omega⟩,⟨by omega,by omega⟩,⟨by omega,by omega⟩,bg,bx⟩,fun i hi=>?_⟩
    · omega
  · rintro ⟨⟨⟨l1,l2⟩,⟨o1,o2⟩,⟨m1,m2⟩,⟨r1,r2⟩,⟨k1,k2⟩,bg,bx⟩,T⟩
    exact ⟨by omega,⟨by omega,by omega⟩,by omega,br_z.2 ⟨by omega,by omega,bg,bx,by omega⟩⟩
theorem qs_11 {a : Nv} {p q : Nat} {kdf : Nat → Int} (hm0 : -9223372036854775808 ≤ a.m ∧ a.m ≤ 9223372036854775807) (hp0 : p ≤ 1048576) (hkd : ∀ i, i < q → St (kdf i) ∨ Ex (kdf i)) :
    (q ≤ 200 ∧ (1 ≤ a.l ∧ a.l ≤ 100000) ∧ ((∀ x,0 ≤ x → x < q → Ex (kdf x)) ∧ Br false false false false a p 0)) ↔ (alw (rwk 11 q) a p q ∧ (∀ i,i < q → 14 < kdf i)):=by
  simp only [St,Ex] at *
  rw [alw_k11]
  constructor
  · rintro ⟨h200,⟨hl1,hl2⟩,C0,C1⟩
    obtain ⟨bo,bm,bg,bx,bp⟩:=br_z.1 C1
    refine ⟨⟨⟨by omega,by omega⟩,⟨by omega,by omega⟩,⟨by omega,by omega⟩,⟨by omega,by omega⟩,⟨by omega,by omega⟩,bg,bx⟩,fun i hi=>?_⟩
    · have hk1:=hkd i hi
      have e0:=C0 i (Nat.zero_le _)
      omega
  · rintro ⟨⟨⟨l1,l2⟩,⟨o1,o2⟩,⟨m1,m2⟩,⟨r1,r2⟩,⟨k1,k2⟩,bg,bx⟩,T⟩
    exact ⟨by omega,⟨by omega,by omega⟩,fun x h1 h2=>by have e1:=T x (by omega);have e2:=hkd x (by omega);omega,br_z.2 ⟨by omega,by omega,bg,bx,by omega⟩⟩
theorem qs_12 {a : Nv} {p q : Nat} {kdf : Nat → Int} (hm0 : -9223372036854775808 ≤ a.m ∧ a.m ≤ 9223372036854775807) (hp0 : p ≤ 1048576) (hkd : ∀ i, i < q → St (kdf i) ∨ Ex (kdf i)) :
    (q ≤ 200 ∧ (1 ≤ a.l ∧ a.l ≤ 100000) ∧ (q = 2 ∧ kdf 0 = 1 ∧ kdf 1 = 1 ∧ Br false false false false a p 2)) ↔ (alw (rwk 12 q) a p q ∧ (∀ i,i < q → kdf i = 1)):=by
  simp only [St,Ex] at *
  rw [alw_k12]
  constructor
  · rintro ⟨h200,⟨hl1,hl2⟩,C0,C1,C2,C3⟩
    obtain ⟨bo,bm,bg,bx,bp⟩:=br_z.1 C3
    refine ⟨⟨⟨by omega,by omega⟩,⟨by omega,by omega⟩,⟨by omega,by omega⟩,⟨by omega,by omega⟩,⟨by omega,by omega⟩,bg,bx⟩,fun i hi=>?_⟩
    · have hi2 : i = 0 ∨ i = 1:=by omega
      rcases hi2 with rfl | rfl
      · have hk1:=hkd 0 hi
        omega
      · have hk1:=hkd 1 hi
        omega
  · rintro ⟨⟨⟨l1,l2⟩,⟨o1,o2⟩,⟨m1,m2⟩,⟨r1,r2⟩,⟨k1,k2⟩,bg,bx⟩,T⟩
    exact ⟨by omega,⟨by omega,by omega⟩,by omega,by have u0:=T 0;omega,by have u1:=T 1;omega,br_z.2 ⟨by omega,by omega,bg,bx,by omega⟩⟩
theorem qs_13 {a : Nv} {p q : Nat} {kdf : Nat → Int} (hm0 : -9223372036854775808 ≤ a.m ∧ a.m ≤ 9223372036854775807) (hp0 : p ≤ 1048576) (hkd : ∀ i, i < q → St (kdf i) ∨ Ex (kdf i)) :
    (q ≤ 200 ∧ (1 ≤ a.l ∧ a.l ≤ 100000) ∧ (q = 1 ∧ (∀ x,0 ≤ x → x < 1 → Ex (kdf x)) ∧ Br false false false false a p 0)) ↔ (alw (rwk 13 q) a p q ∧ (∀ i,i < q → 14 < kdf i)):=by
  simp only [St,Ex] at *
  rw [alw_k13]
  constructor
  · rintro ⟨h200,⟨hl1,hl2⟩,C0,C1,C2⟩
    obtain ⟨bo,bm,bg,bx,bp⟩:=br_z.1 C2
    refine ⟨⟨⟨by omega,by omega⟩,⟨by omega,by omega⟩,⟨by omega,by omega⟩,⟨by omega,by omega⟩,⟨by omega,by omega⟩,bg,bx⟩,fun i hi=>?_⟩
    · have hi2 : i = 0:=by omega
      subst hi2
      have hk1:=hkd 0 hi
      have e1:=C1 0 (Nat.zero_le _)
      omega
  · rintro ⟨⟨⟨l1,l2⟩,⟨o1,o2⟩,⟨m1,m2⟩,⟨r1,r2⟩,⟨k1,k2⟩,bg,bx⟩,T⟩
    exact ⟨by omega,⟨by omega,by omega⟩,by omega,fun x h1 h2=>by have e1:=T x (by omega);have e2:=hkd x (by omega);omega,br_z.2 ⟨by omega,by omega,bg,bx,by omega⟩⟩
theorem qs_14 {a : Nv} {p q : Nat} {kdf : Nat → Int} (hm0 : -9223372036854775808 ≤ a.m ∧ a.m ≤ 9223372036854775807) (hp0 : p ≤ 1048576) (hkd : ∀ i, i < q → St (kdf i) ∨ Ex (kdf i)) :
    (q ≤ 200 ∧ (1 ≤ a.l ∧ a.l ≤ 100000) ∧ (q = 1 ∧ kdf 0 = 34 ∧ Br false false false false a p 0)) ↔ (alw (rwk 14 q) a p q ∧ (∀ i,i < q → kdf i = 34)):=by
  simp only [St,Ex] at *
  rw [alw_k14]
  constructor
  · rintro ⟨h200,⟨hl1,hl2⟩,C0,C1,C2⟩
    obtain ⟨bo,bm,bg,bx,bp⟩:=br_z.1 C2
    refine ⟨⟨⟨by omega,by omega⟩,⟨by omega,by omega⟩,⟨by omega,by omega⟩,⟨by omega,by omega⟩,⟨by omega,by omega⟩,bg,bx⟩,fun i hi=>?_⟩
    · have hi2 : i = 0:=by omega
      subst hi2
      have hk1:=hkd 0 hi
      omega
  · rintro ⟨⟨⟨l1,l2⟩,⟨o1,o2⟩,⟨m1,m2⟩,⟨r1,r2⟩,⟨k1,k2⟩,bg,bx⟩,T⟩
    exact ⟨by omega,⟨by omega,by omega⟩,by omega,by have u0:=T 0;omega,br_z.2 ⟨by omega,by omega,bg,bx,by omega⟩⟩
theorem qs_20 {a : Nv} {p q : Nat} {kdf : Nat → Int} (hm0 : -9223372036854775808 ≤ a.m ∧ a.m ≤ 9223372036854775807) (hp0 : p ≤ 1048576) (hkd : ∀ i, i < q → St (kdf i) ∨ Ex (kdf i)) :
    (q ≤ 200 ∧ a.l = 0 ∧ (q = 0 ∧ Br false false false false a p 0)) ↔ (alw (rwk 20 q) a p q ∧ (∀ i,i < q → 14 < kdf i)):=by
  simp only [St,Ex] at *
  rw [alw_k20]
  constructor
  · rintro ⟨h200,hl,C0,C1⟩
    obtain ⟨bo,bm,bg,bx,bp⟩:=br_z.1 C1
    refine ⟨⟨⟨by omega,by omega⟩,⟨by omega,by omega⟩,⟨by omega,by omega⟩,⟨by omega,by omega⟩,⟨by omega,by omega⟩,bg,bx⟩,fun i hi=>?_⟩
    · omega
  · rintro ⟨⟨⟨l1,l2⟩,⟨o1,o2⟩,⟨m1,m2⟩,⟨r1,r2⟩,⟨k1,k2⟩,bg,bx⟩,T⟩
    exact ⟨by omega,by omega,by omega,br_z.2 ⟨by omega,by omega,bg,bx,by omega⟩⟩
theorem qs_21 {a : Nv} {p q : Nat} {kdf : Nat → Int} (hm0 : -9223372036854775808 ≤ a.m ∧ a.m ≤ 9223372036854775807) (hp0 : p ≤ 1048576) (hkd : ∀ i, i < q → St (kdf i) ∨ Ex (kdf i)) :
    (q ≤ 200 ∧ a.l = 0 ∧ (q = 0 ∧ Br false false false false a p 0)) ↔ (alw (rwk 21 q) a p q ∧ (∀ i,i < q → 14 < kdf i)):=by
  simp only [St,Ex] at *
  rw [alw_k21]
  constructor
  · rintro ⟨h200,hl,C0,C1⟩
    obtain ⟨bo,bm,bg,bx,bp⟩:=br_z.1 C1
    refine ⟨⟨⟨by omega,by omega⟩,⟨by omega,by omega⟩,⟨by omega,by omega⟩,⟨by omega,by omega⟩,⟨by omega,by omega⟩,bg,bx⟩,fun i hi=>?_⟩
    · omega
  · rintro ⟨⟨⟨l1,l2⟩,⟨o1,o2⟩,⟨m1,m2⟩,⟨r1,r2⟩,⟨k1,k2⟩,bg,bx⟩,T⟩
    exact ⟨by omega,by omega,by omega,br_z.2 ⟨by omega,by omega,bg,bx,by omega⟩⟩
theorem qs_22 {a : Nv} {p q : Nat} {kdf : Nat → Int} (hm0 : -9223372036854775808 ≤ a.m ∧ a.m ≤ 9223372036854775807) (hp0 : p ≤ 1048576) (hkd : ∀ i, i < q → St (kdf i) ∨ Ex (kdf i)) :
    (q ≤ 200 ∧ a.l = 0 ∧ (q = 0 ∧ Br false false false false a p 0)) ↔ (alw (rwk 22 q) a p q ∧ (∀ i,i < q → 14 < kdf i)):=by
  simp only [St,Ex] at *
  rw [alw_k22]
  constructor
  · rintro ⟨h200,hl,C0,C1⟩
    obtain ⟨bo,bm,bg,bx,bp⟩:=br_z.1 C1
    refine ⟨⟨⟨by omega,by omega⟩,⟨by omega,by omega⟩,⟨by omega,by omega⟩,⟨by omega,by omega⟩,⟨by omega,by omega⟩,bg,bx⟩,fun i hi=>?_⟩
    · omega
  · rintro ⟨⟨⟨l1,l2⟩,⟨o1,o2⟩,⟨m1,m2⟩,⟨r1,r2⟩,⟨k1,k2⟩,bg,bx⟩,T⟩
    exact ⟨by omega,by omega,by omega,br_z.2 ⟨by omega,by omega,bg,bx,by omega⟩⟩
theorem qs_23 {a : Nv} {p q : Nat} {kdf : Nat → Int} (hm0 : -9223372036854775808 ≤ a.m ∧ a.m ≤ 9223372036854775807) (hp0 : p ≤ 1048576) (hkd : ∀ i, i < q → St (kdf i) ∨ Ex (kdf i)) :
    (q ≤ 200 ∧ a.l = 0 ∧ (q = 0 ∧ Br false true false false a p 0)) ↔ (alw (rwk 23 q) a p q ∧ (∀ i,i < q → 14 < kdf i)):=by
  simp only [St,Ex] at *
  rw [alw_k23]
  constructor
  · rintro ⟨h200,hl,C0,C1⟩
    obtain ⟨bo,bg,bx,bp⟩:=br_m.1 C1
    refine ⟨⟨⟨by omega,by omega⟩,⟨by omega,by omega⟩,⟨by omega,by omega⟩,⟨by omega,by omega⟩,⟨by omega,by omega⟩,bg,bx⟩,fun i hi=>?_⟩
    · omega
  · rintro ⟨⟨⟨l1,l2⟩,⟨o1,o2⟩,⟨m1,m2⟩,⟨r1,r2⟩,⟨k1,k2⟩,bg,bx⟩,T⟩
    exact ⟨by omega,by omega,by omega,br_m.2 ⟨by omega,bg,bx,by omega⟩⟩
theorem qs_24 {a : Nv} {p q : Nat} {kdf : Nat → Int} (hm0 : -9223372036854775808 ≤ a.m ∧ a.m ≤ 9223372036854775807) (hp0 : p ≤ 1048576) (hkd : ∀ i, i < q → St (kdf i) ∨ Ex (kdf i)) :
    (q ≤ 200 ∧ a.l = 0 ∧ (q = 0 ∧ fn a.g ∧ Br false false true false a p 0)) ↔ (alw (rwk 24 q) a p q ∧ (∀ i,i < q → 14 < kdf i)):=by
  simp only [St,Ex] at *
  rw [alw_k24]
  constructor
  · rintro ⟨h200,hl,C0,C1,C2⟩
    obtain ⟨bo,bm,bx,bp⟩:=br_g.1 C2
    refine ⟨⟨⟨by omega,by omega⟩,⟨by omega,by omega⟩,⟨by omega,by omega⟩,⟨by omega,by omega⟩,⟨by omega,by omega⟩,C1,bx⟩,fun i hi=>?_⟩
    · omega
  · rintro ⟨⟨⟨l1,l2⟩,⟨o1,o2⟩,⟨m1,m2⟩,⟨r1,r2⟩,⟨k1,k2⟩,bg,bx⟩,T⟩
    exact ⟨by omega,by omega,by omega,bg,br_g.2 ⟨by omega,by omega,bx,by omega⟩⟩
theorem qs_25 {a : Nv} {p q : Nat} {kdf : Nat → Int} (hm0 : -9223372036854775808 ≤ a.m ∧ a.m ≤ 9223372036854775807) (hp0 : p ≤ 1048576) (hkd : ∀ i, i < q → St (kdf i) ∨ Ex (kdf i)) :
    (q ≤ 200 ∧ a.l = 0 ∧ (q = 0 ∧ a.x.size ≤ 4000 ∧ Br false false false true a p 0)) ↔ (alw (rwk 25 q) a p q ∧ (∀ i,i < q → 14 < kdf i)):=by
  simp only [St,Ex] at *
  rw [alw_k25]
  constructor
  · rintro ⟨h200,hl,C0,C1,C2⟩
    obtain ⟨bo,bm,bg,bp⟩:=br_x.1 C2
    refine ⟨⟨⟨by omega,by omega⟩,⟨by omega,by omega⟩,⟨by omega,by omega⟩,⟨by omega,by omega⟩,⟨by omega,by omega⟩,bg,C1⟩,fun i hi=>?_⟩
    · omega
  · rintro ⟨⟨⟨l1,l2⟩,⟨o1,o2⟩,⟨m1,m2⟩,⟨r1,r2⟩,⟨k1,k2⟩,bg,bx⟩,T⟩
    exact ⟨by omega,by omega,by omega,bx,br_x.2 ⟨by omega,by omega,bg,by omega⟩⟩
theorem qs_26 {a : Nv} {p q : Nat} {kdf : Nat → Int} (hm0 : -9223372036854775808 ≤ a.m ∧ a.m ≤ 9223372036854775807) (hp0 : p ≤ 1048576) (hkd : ∀ i, i < q → St (kdf i) ∨ Ex (kdf i)) :
    (q ≤ 200 ∧ a.l = 0 ∧ (q = 0 ∧ Br false false false false a p 1)) ↔ (alw (rwk 26 q) a p q ∧ (∀ i,i < q → 14 < kdf i)):=by
  simp only [St,Ex] at *
  rw [alw_k26]
  constructor
  · rintro ⟨h200,hl,C0,C1⟩
    obtain ⟨bo,bm,bg,bx,bp⟩:=br_z.1 C1
    refine ⟨⟨⟨by omega,by omega⟩,⟨by omega,by omega⟩,⟨by omega,by omega⟩,⟨by omega,by omega⟩,⟨by omega,by omega⟩,bg,bx⟩,fun i hi=>?_⟩
    · omega
  · rintro ⟨⟨⟨l1,l2⟩,⟨o1,o2⟩,⟨m1,m2⟩,⟨r1,r2⟩,⟨k1,k2⟩,bg,bx⟩,T⟩
    exact ⟨by omega,by omega,by omega,br_z.2 ⟨by omega,by omega,bg,bx,by omega⟩⟩
theorem qs_27 {a : Nv} {p q : Nat} {kdf : Nat → Int} (hm0 : -9223372036854775808 ≤ a.m ∧ a.m ≤ 9223372036854775807) (hp0 : p ≤ 1048576) (hkd : ∀ i, i < q → St (kdf i) ∨ Ex (kdf i)) :
    (q ≤ 200 ∧ a.l = 0 ∧ (q = 0 ∧ Br false false false false a p 1)) ↔ (alw (rwk 27 q) a p q ∧ (∀ i,i < q → 14 < kdf i)):=by
  simp only [St,Ex] at *
  rw [alw_k27]
  constructor
  · rintro ⟨h200,hl,C0,C1⟩
    obtain ⟨bo,bm,bg,bx,bp⟩:=br_z.1 C1
    refine ⟨⟨⟨by omega,by omega⟩,⟨by omega,by omega⟩,⟨by omega,by omega⟩,⟨by omega,by omega⟩,⟨by omega,by omega⟩,bg,bx⟩,fun i hi=>?_⟩
    · omega
  · rintro ⟨⟨⟨l1,l2⟩,⟨o1,o2⟩,⟨m1,m2⟩,⟨r1,r2⟩,⟨k1,k2⟩,bg,bx⟩,T⟩
    exact ⟨by omega,by omega,by omega,br_z.2 ⟨by omega,by omega,bg,bx,by omega⟩⟩
theorem qs_28 {a : Nv} {p q : Nat} {kdf : Nat → Int} (hm0 : -9223372036854775808 ≤ a.m ∧ a.m ≤ 9223372036854775807) (hp0 : p ≤ 1048576) (hkd : ∀ i, i < q → St (kdf i) ∨ Ex (kdf i)) :
    (q ≤ 200 ∧ a.l = 0 ∧ (q = 0 ∧ 0 ≤ a.m ∧ a.m < 15 ∧ Br false true false false a p 0)) ↔ (alw (rwk 28 q) a p q ∧ (∀ i,i < q → 14 < kdf i)):=by
  simp only [St,Ex] at *
  rw [alw_k28]
  constructor
  · rintro ⟨h200,hl,C0,C1,C2,C3⟩
    obtain ⟨bo,bg,bx,bp⟩:=br_m.1 C3
    refine ⟨⟨⟨by omega,by omega⟩,⟨by omega,by omega⟩,⟨by omega,by omega⟩,⟨by omega,by omega⟩,⟨by omega,by omega⟩,bg,bx⟩,fun i hi=>?_⟩
    · omega
  · rintro ⟨⟨⟨l1,l2⟩,⟨o1,o2⟩,⟨m1,m2⟩,⟨r1,r2⟩,⟨k1,k2⟩,bg,bx⟩,T⟩
    exact ⟨by omega,by omega,by omega,by omega,by omega,br_m.2 ⟨by omega,bg,bx,by omega⟩⟩
theorem qs_29 {a : Nv} {p q : Nat} {kdf : Nat → Int} (hm0 : -9223372036854775808 ≤ a.m ∧ a.m ≤ 9223372036854775807) (hp0 : p ≤ 1048576) (hkd : ∀ i, i < q → St (kdf i) ∨ Ex (kdf i)) :
    (q ≤ 200 ∧ a.l = 0 ∧ (q = 2 ∧ (∀ x,0 ≤ x → x < q → Ex (kdf x)) ∧ Br false false false false a p 0)) ↔ (alw (rwk 29 q) a p q ∧ (∀ i,i < q → 14 < kdf i)):=by
  simp only [St,Ex] at *
  rw [alw_k29]
  constructor
  · rintro ⟨h200,hl,C0,C1,C2⟩
    obtain ⟨bo,bm,bg,bx,bp⟩:=br_z.1 C2
    refine ⟨⟨⟨by omega,by omega⟩,⟨by omega,by omega⟩,⟨by omega,by omega⟩,⟨by omega,by omega⟩,⟨by omega,by omega⟩,bg,bx⟩,fun i hi=>?_⟩
    · have hi2 : i = 0 ∨ i = 1:=by omega
      rcases hi2 with rfl | rfl
      · have hk1:=hkd 0 hi
        have e1:=C1 0 (Nat.zero_le _)
        omega
      · have hk1:=hkd 1 hi
        have e1:=C1 1 (Nat.zero_le _)
        omega
  · rintro ⟨⟨⟨l1,l2⟩,⟨o1,o2⟩,⟨m1,m2⟩,⟨r1,r2⟩,⟨k1,k2⟩,bg,bx⟩,T⟩
    exact ⟨by omega,by omega,by omega,fun x h1 h2=>by have e1:=T x (by omega);have e2:=hkd x (by omega);omega,br_z.2 ⟨by omega,by omega,bg,bx,by omega⟩⟩
theorem qs_30 {a : Nv} {p q : Nat} {kdf : Nat → Int} (hm0 : -9223372036854775808 ≤ a.m ∧ a.m ≤ 9223372036854775807) (hp0 : p ≤ 1048576) (hkd : ∀ i, i < q → St (kdf i) ∨ Ex (kdf i)) :
    (q ≤ 200 ∧ a.l = 0 ∧ (q = 2 ∧ (∀ x,0 ≤ x → x < q → Ex (kdf x)) ∧ Br false false false false a p 0)) ↔ (alw (rwk 30 q) a p q ∧ (∀ i,i < q → 14 < kdf i)):=by
  simp only [St,Ex] at *
  rw [alw_k30]
  constructor
  · rintro ⟨h200,hl,C0,C1,C2⟩
    obtain ⟨bo,bm,bg,bx,bp⟩:=br_z.1 C2
    refine ⟨⟨⟨by omega,by omega⟩,⟨by omega,by omega⟩,⟨by omega,by omega⟩,⟨by omega,by omega⟩,⟨by omega,by omega⟩,bg,bx⟩,fun i hi=>?_⟩
    · have hi2 : i = 0 ∨ i = 1:=by omega
      rcases hi2 with rfl | rfl
      · have hk1:=hkd 0 hi
        have e1:=C1 0 (Nat.zero_le _)
        omega
      · have hk1:=hkd 1 hi
        have e1:=C1 1 (Nat.zero_le _)
        omega
  · rintro ⟨⟨⟨l1,l2⟩,⟨o1,o2⟩,⟨m1,m2⟩,⟨r1,r2⟩,⟨k1,k2⟩,bg,bx⟩,T⟩
    exact ⟨by omega,by omega,by omega,fun x h1 h2=>by have e1:=T x (by omega);have e2:=hkd x (by omega);omega,br_z.2 ⟨by omega,by omega,bg,bx,by omega⟩⟩
theorem qs_31 {a : Nv} {p q : Nat} {kdf : Nat → Int} (hm0 : -9223372036854775808 ≤ a.m ∧ a.m ≤ 9223372036854775807) (hp0 : p ≤ 1048576) (hkd : ∀ i, i < q → St (kdf i) ∨ Ex (kdf i)) :
    (q ≤ 200 ∧ a.l = 0 ∧ (q = 1 ∧ (∀ x,0 ≤ x → x < q → Ex (kdf x)) ∧ 19 ≤ a.o ∧ a.o ≤ 22 ∧ Br true false false false a p 0)) ↔ (alw (rwk 31 q) a p q ∧ (∀ i,i < q → 14 < kdf i)):=by
  simp only [St,Ex] at *
  rw [alw_k31]
  constructor
  · rintro ⟨h200,hl,C0,C1,C2,C3,C4⟩
    obtain ⟨bm,bg,bx,bp⟩:=br_o.1 C4
    refine ⟨⟨⟨by omega,by omega⟩,⟨by omega,by omega⟩,⟨by omega,by omega⟩,⟨by omega,by omega⟩,⟨by omega,by omega⟩,bg,bx⟩,fun i hi=>?_⟩
    · have hi2 : i = 0:=by omega
      subst hi2
      have hk1:=hkd 0 hi
      have e1:=C1 0 (Nat.zero_le _)
      omega
  · rintro ⟨⟨⟨l1,l2⟩,⟨o1,o2⟩,⟨m1,m2⟩,⟨r1,r2⟩,⟨k1,k2⟩,bg,bx⟩,T⟩
    exact ⟨by omega,by omega,by omega,fun x h1 h2=>by have e1:=T x (by omega);have e2:=hkd x (by omega);omega,by omega,by omega,br_o.2 ⟨by omega,bg,bx,by omega⟩⟩
theorem qs_32 {a : Nv} {p q : Nat} {kdf : Nat → Int} (hm0 : -9223372036854775808 ≤ a.m ∧ a.m ≤ 9223372036854775807) (hp0 : p ≤ 1048576) (hkd : ∀ i, i < q → St (kdf i) ∨ Ex (kdf i)) :
    (q ≤ 200 ∧ a.l = 0 ∧ (q = 2 ∧ (∀ x,0 ≤ x → x < q → Ex (kdf x)) ∧ 1 ≤ a.o ∧ a.o ≤ 18 ∧ Br true false false false a p 0)) ↔ (alw (rwk 32 q) a p q ∧ (∀ i,i < q → 14 < kdf i)):=by
  simp only [St,Ex] at *
  rw [alw_k32]
  constructor
  · rintro ⟨h200,hl,C0,C1,C2,C3,C4⟩
    obtain ⟨bm,bg,bx,bp⟩:=br_o.1 C4
    refine ⟨⟨⟨by omega,by omega⟩,⟨by omega,by omega⟩,⟨by omega,by omega⟩,⟨by omega,by omega⟩,⟨by omega,by omega⟩,bg,bx⟩,fun i hi=>?_⟩
    · have hi2 : i = 0 ∨ i = 1:=by omega
      rcases hi2 with rfl | rfl
      · have hk1:=hkd 0 hi
        have e1:=C1 0 (Nat.zero_le _)
        omega
      · have hk1:=hkd 1 hi
        have e1:=C1 1 (Nat.zero_le _)
        omega
  · rintro ⟨⟨⟨l1,l2⟩,⟨o1,o2⟩,⟨m1,m2⟩,⟨r1,r2⟩,⟨k1,k2⟩,bg,bx⟩,T⟩
    exact ⟨by omega,by omega,by omega,fun x h1 h2=>by have e1:=T x (by omega);have e2:=hkd x (by omega);omega,by omega,by omega,br_o.2 ⟨by omega,bg,bx,by omega⟩⟩
theorem qs_33 {a : Nv} {p q : Nat} {kdf : Nat → Int} (hm0 : -9223372036854775808 ≤ a.m ∧ a.m ≤ 9223372036854775807) (hp0 : p ≤ 1048576) (hkd : ∀ i, i < q → St (kdf i) ∨ Ex (kdf i)) :
    (q ≤ 200 ∧ a.l = 0 ∧ (q = 2 ∧ (∀ x,0 ≤ x → x < q → Ex (kdf x)) ∧ Br false false false false a p 0)) ↔ (alw (rwk 33 q) a p q ∧ (∀ i,i < q → 14 < kdf i)):=by
  simp only [St,Ex] at *
  rw [alw_k33]
  constructor
  · rintro ⟨h200,hl,C0,C1,C2⟩
    obtain ⟨bo,bm,bg,bx,bp⟩:=br_z.1 C2
    refine ⟨⟨⟨by omega,by omega⟩,⟨by omega,by omega⟩,⟨by omega,by omega⟩,⟨by omega,by omega⟩,⟨by omega,by omega⟩,bg,bx⟩,fun i hi=>?_⟩
    · have hi2 : i = 0 ∨ i = 1:=by omega
      rcases hi2 with rfl | rfl
      · have hk1:=hkd 0 hi
        have e1:=C1 0 (Nat.zero_le _)
        omega
      · have hk1:=hkd 1 hi
        have e1:=C1 1 (Nat.zero_le _)
        omega
  · rintro ⟨⟨⟨l1,l2⟩,⟨o1,o2⟩,⟨m1,m2⟩,⟨r1,r2⟩,⟨k1,k2⟩,bg,bx⟩,T⟩
    exact ⟨by omega,by omega,by omega,fun x h1 h2=>by have e1:=T x (by omega);have e2:=hkd x (by omega);omega,br_z.2 ⟨by omega,by omega,bg,bx,by omega⟩⟩
theorem qs_34 {a : Nv} {p q : Nat} {kdf : Nat → Int} (hm0 : -9223372036854775808 ≤ a.m ∧ a.m ≤ 9223372036854775807) (hp0 : p ≤ 1048576) (hkd : ∀ i, i < q → St (kdf i) ∨ Ex (kdf i)) :
    (q ≤ 200 ∧ a.l = 0 ∧ (1 ≤ q ∧ (∀ x,0 ≤ x → x < q → Ex (kdf x)) ∧ Br false false false false a p 0)) ↔ (alw (rwk 34 q) a p q ∧ (∀ i,i < q → 14 < kdf i)):=by
  simp only [St,Ex] at *
  rw [alw_k34]
  constructor
  · rintro ⟨h200,hl,C0,C1,C2⟩
    obtain ⟨bo,bm,bg,bx,bp⟩:=br_z.1 C2
    refine ⟨⟨⟨by omega,by omega⟩,⟨by omega,by omega⟩,⟨by omega,by omega⟩,⟨by omega,by omega⟩,⟨by omega,by omega⟩,bg,bx⟩,fun i hi=>?_⟩
    · have hk1:=hkd i hi
      have e1:=C1 i (Nat.zero_le _)
      omega
  · rintro ⟨⟨⟨l1,l2⟩,⟨o1,o2⟩,⟨m1,m2⟩,⟨r1,r2⟩,⟨k1,k2⟩,bg,bx⟩,T⟩
    exact ⟨by omega,by omega,by omega,fun x h1 h2=>by have e1:=T x (by omega);have e2:=hkd x (by omega);omega,br_z.2 ⟨by omega,by omega,bg,bx,by omega⟩⟩
theorem qs_35 {a : Nv} {p q : Nat} {kdf : Nat → Int} (hm0 : -9223372036854775808 ≤ a.m ∧ a.m ≤ 9223372036854775807) (hp0 : p ≤ 1048576) (hkd : ∀ i, i < q → St (kdf i) ∨ Ex (kdf i)) :
    (q ≤ 200 ∧ a.l = 0 ∧ ((a.o = 0 ∨ a.o = 1 ∧ 2 ≤ q ∧ kdf (q - 2) = 23 ∧ (kdf (q - 1) = 34 ∨ kdf (q - 1) = 37)) ∧ q % 2 = 0 ∧ (∀ x,0 ≤ x → x < q → Ex (kdf x)) ∧ Br true false false false a p 0)) ↔ (alw (rwk 35 q) a p q ∧ (∀ i,i < q → 14 < kdf i) ∧ (q % 2 = 0 ∧ (a.o = 0 ∨ (0 < q ∧ kdf (q - 2) = 23 ∧ (kdf (q - 1) = 34 ∨ kdf (q - 1) = 37))))):=by
  simp only [St,Ex] at *
  rw [alw_k35]
  constructor
  · rintro ⟨h200,hl,C0,C1,C2,C3⟩
    obtain ⟨bm,bg,bx,bp⟩:=br_o.1 C3
    refine ⟨⟨⟨by omega,by omega⟩,⟨by omega,by omega⟩,⟨by omega,by omega⟩,⟨by omega,by omega⟩,⟨by omega,by omega⟩,bg,bx⟩,fun i hi=>?_,?_⟩
    · have hk1:=hkd i hi
      have e2:=C2 i (Nat.zero_le _)
      omega
    · omega
  · rintro ⟨⟨⟨l1,l2⟩,⟨o1,o2⟩,⟨m1,m2⟩,⟨r1,r2⟩,⟨k1,k2⟩,bg,bx⟩,T,TB⟩
    exact ⟨by omega,by omega,by omega,by omega,fun x h1 h2=>by have e1:=T x (by omega);have e2:=hkd x (by omega);omega,br_o.2 ⟨by omega,bg,bx,by omega⟩⟩
theorem qs_36 {a : Nv} {p q : Nat} {kdf : Nat → Int} (hm0 : -9223372036854775808 ≤ a.m ∧ a.m ≤ 9223372036854775807) (hp0 : p ≤ 1048576) (hkd : ∀ i, i < q → St (kdf i) ∨ Ex (kdf i)) :
    (q ≤ 200 ∧ a.l = 0 ∧ (q = 0 ∧ Br false false false false a p 1)) ↔ (alw (rwk 36 q) a p q ∧ (∀ i,i < q → 14 < kdf i)):=by
  simp only [St,Ex] at *
  rw [alw_k36]
  constructor
  · rintro ⟨h200,hl,C0,C1⟩
    obtain ⟨bo,bm,bg,bx,bp⟩:=br_z.1 C1
    refine ⟨⟨⟨by omega,by omega⟩,⟨by omega,by omega⟩,⟨by omega,by omega⟩,⟨by omega,by omega⟩,⟨by omega,by omega⟩,bg,bx⟩,fun i hi=>?_⟩
    · omega
  · rintro ⟨⟨⟨l1,l2⟩,⟨o1,o2⟩,⟨m1,m2⟩,⟨r1,r2⟩,⟨k1,k2⟩,bg,bx⟩,T⟩
    exact ⟨by omega,by omega,by omega,br_z.2 ⟨by omega,by omega,bg,bx,by omega⟩⟩
theorem qs_37 {a : Nv} {p q : Nat} {kdf : Nat → Int} (hm0 : -9223372036854775808 ≤ a.m ∧ a.m ≤ 9223372036854775807) (hp0 : p ≤ 1048576) (hkd : ∀ i, i < q → St (kdf i) ∨ Ex (kdf i)) :
    (q ≤ 200 ∧ a.l = 0 ∧ (q = 0 ∧ Br false false false false a p 0)) ↔ (alw (rwk 37 q) a p q ∧ (∀ i,i < q → 14 < kdf i)):=by
  simp only [St,Ex] at *
  rw [alw_k37]
  constructor
  · rintro ⟨h200,hl,C0,C1⟩
    obtain ⟨bo,bm,bg,bx,bp⟩:=br_z.1 C1
    refine ⟨⟨⟨by omega,by omega⟩,⟨by omega,by omega⟩,⟨by omega,by omega⟩,⟨by omega,by omega⟩,⟨by omega,by omega⟩,bg,bx⟩,fun i hi=>?_⟩
    · omega
  · rintro ⟨⟨⟨l1,l2⟩,⟨o1,o2⟩,⟨m1,m2⟩,⟨r1,r2⟩,⟨k1,k2⟩,bg,bx⟩,T⟩
    exact ⟨by omega,by omega,by omega,br_z.2 ⟨by omega,by omega,bg,bx,by omega⟩⟩
theorem qs_38 {a : Nv} {p q : Nat} {kdf : Nat → Int} (hm0 : -9223372036854775808 ≤ a.m ∧ a.m ≤ 9223372036854775807) (hp0 : p ≤ 1048576) (hkd : ∀ i, i < q → St (kdf i) ∨ Ex (kdf i)) :
    (q ≤ 200 ∧ a.l = 0 ∧ (q = 1 ∧ (kdf 0 = 34 ∨ kdf 0 = 37) ∧ Br false false false false a p 0)) ↔ (alw (rwk 38 q) a p q ∧ (∀ i,i < q → kdf i = 34 ∨ kdf i = 37)):=by
  simp only [St,Ex] at *
  rw [alw_k38]
  constructor
  · rintro ⟨h200,hl,C0,C1,C2⟩
    obtain ⟨bo,bm,bg,bx,bp⟩:=br_z.1 C2
    refine ⟨⟨⟨by omega,by omega⟩,⟨by omega,by omega⟩,⟨by omega,by omega⟩,⟨by omega,by omega⟩,⟨by omega,by omega⟩,bg,bx⟩,fun i hi=>?_⟩
    · have hi2 : i = 0:=by omega
      subst hi2
      have hk1:=hkd 0 hi
      omega
  · rintro ⟨⟨⟨l1,l2⟩,⟨o1,o2⟩,⟨m1,m2⟩,⟨r1,r2⟩,⟨k1,k2⟩,bg,bx⟩,T⟩
    exact ⟨by omega,by omega,by omega,by have u0:=T 0;omega,br_z.2 ⟨by omega,by omega,bg,bx,by omega⟩⟩
end Go.Proofs.Ytipiahdcmjchjaa.Fo
