import Derived.Test.YtfpidccjcemcjaaGreatMZsq
import Derived.Test.YtfpidccjcemcjaaGreatMNdn
import Derived.Test.YtfpidccjcemcjaaGreatMNdp
set_option maxHeartbeats 16000000
namespace Go.Proofs.YtfpidccjcemcjaaGreat.Fo
open Go.ChangeShapes Go.WideShapes Go.ChangeAt Go.RowKit
set_option linter.unusedVariables false
set_option maxRecDepth 100000
theorem sh_st {a : Nv} {p q : Nat} {kdf : Nat → Int} (hm0 : -9223372036854775808 ≤ a.m ∧ a.m ≤ 9223372036854775807) (hp0 : p ≤ 1048576) (hkd : ∀ i, i < q → St (kdf i) ∨ Ex (kdf i)) (hk : St a.k) :
  (q≤200∧(1≤a.l∧a.l≤100000)∧StM a p q kdf (fun i j=>∀ x,i≤x→x < j→Ex (kdf x)))↔(alw (rwk a.k q) a p q∧(∀ i,i < q→Tkp a q i (kdf i))):=by
 obtain ⟨h1,h2⟩:=hk
 have hc:a.k=1∨a.k=2∨a.k=3∨a.k=4∨a.k=5∨a.k=6∨a.k=7∨a.k=8∨a.k=9∨a.k=10∨a.k=11∨a.k=12∨a.k=13∨a.k=14:=by omega
 rcases hc with h | h | h | h | h | h | h | h | h | h | h | h | h | h
 ·rw [StM_1 h,h,qs_1 hm0 hp0 hkd];exact and_congr Iff.rfl (forall_congr' fun i=>imp_congr Iff.rfl (Tkp_1 h).symm)
 ·rw [StM_2 h,h,qs_2 hm0 hp0 hkd];exact and_congr Iff.rfl (forall_congr' fun i=>imp_congr Iff.rfl (Tkp_2 h).symm)
 ·rw [StM_3 h,h,qs_3 hm0 hp0 hkd];exact and_congr Iff.rfl (forall_congr' fun i=>imp_congr Iff.rfl (Tkp_3 h).symm)
 ·rw [StM_4 h,h,qs_4 hm0 hp0 hkd];exact and_congr Iff.rfl (forall_congr' fun i=>imp_congr Iff.rfl (Tkp_4 h).symm)
 ·rw [StM_5 h,h,qs_5 hm0 hp0 hkd];exact and_congr Iff.rfl (forall_congr' fun i=>imp_congr Iff.rfl (Tkp_5 h).symm)
 ·rw [StM_6 h,h,qs_6 hm0 hp0 hkd];exact and_congr Iff.rfl (forall_congr' fun i=>imp_congr Iff.rfl (Tkp_6 h).symm)
 ·rw [StM_7 h,h,qs_7 hm0 hp0 hkd];exact and_congr Iff.rfl (forall_congr' fun i=>imp_congr Iff.rfl (Tkp_7 h).symm)
 ·rw [StM_8 h,h,qs_8 hm0 hp0 hkd];exact and_congr Iff.rfl (forall_congr' fun i=>imp_congr Iff.rfl (Tkp_8 h).symm)
 ·rw [StM_9 h,h,qs_9 hm0 hp0 hkd];exact and_congr Iff.rfl (forall_congr' fun i=>imp_congr Iff.rfl (Tkp_9 h).symm)
 ·rw [StM_10 h,h,qs_10 hm0 hp0 hkd];exact and_congr Iff.rfl (forall_congr' fun i=>imp_congr Iff.rfl (Tkp_10 h).symm)
 ·rw [StM_11 h,h,qs_11 hm0 hp0 hkd];exact and_congr Iff.rfl (forall_congr' fun i=>imp_congr Iff.rfl (Tkp_11 h).symm)
 ·rw [StM_12 h,h,qs_12 hm0 hp0 hkd];exact and_congr Iff.rfl (forall_congr' fun i=>imp_congr Iff.rfl (Tkp_12 h).symm)
 ·rw [StM_13 h,h,qs_13 hm0 hp0 hkd];exact and_congr Iff.rfl (forall_congr' fun i=>imp_congr Iff.rfl (Tkp_13 h).symm)
 ·rw [StM_14 h,h,qs_14 hm0 hp0 hkd];exact and_congr Iff.rfl (forall_congr' fun i=>imp_congr Iff.rfl (Tkp_14 h).symm)
theorem sh_ex {a : Nv} {p q : Nat} {kdf : Nat → Int} (hm0 : -9223372036854775808 ≤ a.m ∧ a.m ≤ 9223372036854775807) (hp0 : p ≤ 1048576) (hkd : ∀ i, i < q → St (kdf i) ∨ Ex (kdf i)) (hk : Ex a.k) :
  (q≤200∧a.l=0∧ExM a p q kdf (fun i j=>∀ x,i≤x→x < j→Ex (kdf x)))↔(alw (rwk a.k q) a p q∧(∀ i,i < q→Tkp a q i (kdf i))∧(a.k=35→(q % 2=0∧(a.o=0∨(0 < q∧kdf (q - 2)=23∧(kdf (q - 1)=34∨kdf (q - 1)=37)))))):=by
 obtain ⟨h1,h2⟩:=hk
 have hc:a.k=20∨a.k=21∨a.k=22∨a.k=23∨a.k=24∨a.k=25∨a.k=26∨a.k=27∨a.k=28∨a.k=29∨a.k=30∨a.k=31∨a.k=32∨a.k=33∨a.k=34∨a.k=35∨a.k=36∨a.k=37∨a.k=38:=by omega
 rcases hc with h | h | h | h | h | h | h | h | h | h | h | h | h | h | h | h | h | h | h
 ·rw [ExM_20 h,h,qs_20 hm0 hp0 hkd];exact and_congr Iff.rfl ⟨fun z=>⟨fun i hi=>(Tkp_20 h).2 (z i hi),fun e=>by omega⟩,fun z i hi=>(Tkp_20 h).1 (z.1 i hi)⟩
 ·rw [ExM_21 h,h,qs_21 hm0 hp0 hkd];exact and_congr Iff.rfl ⟨fun z=>⟨fun i hi=>(Tkp_21 h).2 (z i hi),fun e=>by omega⟩,fun z i hi=>(Tkp_21 h).1 (z.1 i hi)⟩
 ·rw [ExM_22 h,h,qs_22 hm0 hp0 hkd];exact and_congr Iff.rfl ⟨fun z=>⟨fun i hi=>(Tkp_22 h).2 (z i hi),fun e=>by omega⟩,fun z i hi=>(Tkp_22 h).1 (z.1 i hi)⟩
 ·rw [ExM_23 h,h,qs_23 hm0 hp0 hkd];exact and_congr Iff.rfl ⟨fun z=>⟨fun i hi=>(Tkp_23 h).2 (z i hi),fun e=>by omega⟩,fun z i hi=>(Tkp_23 h).1 (z.1 i hi)⟩
 ·rw [ExM_24 h,h,qs_24 hm0 hp0 hkd];exact and_congr Iff.rfl ⟨fun z=>⟨fun i hi=>(Tkp_24 h).2 (z i hi),fun e=>by omega⟩,fun z i hi=>(Tkp_24 h).1 (z.1 i hi)⟩
 ·rw [ExM_25 h,h,qs_25 hm0 hp0 hkd];exact and_congr Iff.rfl ⟨fun z=>⟨fun i hi=>(Tkp_25 h).2 (z i hi),fun e=>by omega⟩,fun z i hi=>(Tkp_25 h).1 (z.1 i hi)⟩
 ·rw [ExM_26 h,h,qs_26 hm0 hp0 hkd];exact and_congr Iff.rfl ⟨fun z=>⟨fun i hi=>(Tkp_26 h).2 (z i hi),fun e=>by omega⟩,fun z i hi=>(Tkp_26 h).1 (z.1 i hi)⟩
 ·rw [ExM_27 h,h,qs_27 hm0 hp0 hkd];exact and_congr Iff.rfl ⟨fun z=>⟨fun i hi=>(Tkp_27 h).2 (z i hi),fun e=>by omega⟩,fun z i hi=>(Tkp_27 h).1 (z.1 i hi)⟩
 ·rw [ExM_28 h,h,qs_28 hm0 hp0 hkd];exact and_congr Iff.rfl ⟨fun z=>⟨fun i hi=>(Tkp_28 h).2 (z i hi),fun e=>by omega⟩,fun z i hi=>(Tkp_28 h).1 (z.1 i hi)⟩
 ·rw [ExM_29 h,h,qs_29 hm0 hp0 hkd];exact and_congr Iff.rfl ⟨fun z=>⟨fun i hi=>(Tkp_29 h).2 (z i hi),fun e=>by omega⟩,fun z i hi=>(Tkp_29 h).1 (z.1 i hi)⟩
 ·rw [ExM_30 h,h,qs_30 hm0 hp0 hkd];exact and_congr Iff.rfl ⟨fun z=>⟨fun i hi=>(Tkp_30 h).2 (z i hi),fun e=>by omega⟩,fun z i hi=>(Tkp_30 h).1 (z.1 i hi)⟩
 ·rw [ExM_31 h,h,qs_31 hm0 hp0 hkd];exact and_congr Iff.rfl ⟨fun z=>⟨fun i hi=>(Tkp_31 h).2 (z i hi),fun e=>by omega⟩,fun z i hi=>(Tkp_31 h).1 (z.1 i hi)⟩
 ·rw [ExM_32 h,h,qs_32 hm0 hp0 hkd];exact and_congr Iff.rfl ⟨fun z=>⟨fun i hi=>(Tkp_32 h).2 (z i hi),fun e=>by omega⟩,fun z i hi=>(Tkp_32 h).1 (z.1 i hi)⟩
 ·rw [ExM_33 h,h,qs_33 hm0 hp0 hkd];exact and_congr Iff.rfl ⟨fun z=>⟨fun i hi=>(Tkp_33 h).2 (z i hi),fun e=>by omega⟩,fun z i hi=>(Tkp_33 h).1 (z.1 i hi)⟩
 ·rw [ExM_34 h,h,qs_34 hm0 hp0 hkd];exact and_congr Iff.rfl ⟨fun z=>⟨fun i hi=>(Tkp_34 h).2 (z i hi),fun e=>by omega⟩,fun z i hi=>(Tkp_34 h).1 (z.1 i hi)⟩
 ·rw [ExM_35 h,h,qs_35 hm0 hp0 hkd];exact and_congr Iff.rfl (and_congr (forall_congr' fun i=>imp_congr Iff.rfl (Tkp_35 h).symm) ⟨fun z _=>z,fun z=>z rfl⟩)
 ·rw [ExM_36 h,h,qs_36 hm0 hp0 hkd];exact and_congr Iff.rfl ⟨fun z=>⟨fun i hi=>(Tkp_36 h).2 (z i hi),fun e=>by omega⟩,fun z i hi=>(Tkp_36 h).1 (z.1 i hi)⟩
 ·rw [ExM_37 h,h,qs_37 hm0 hp0 hkd];exact and_congr Iff.rfl ⟨fun z=>⟨fun i hi=>(Tkp_37 h).2 (z i hi),fun e=>by omega⟩,fun z i hi=>(Tkp_37 h).1 (z.1 i hi)⟩
 ·rw [ExM_38 h,h,qs_38 hm0 hp0 hkd];exact and_congr Iff.rfl ⟨fun z=>⟨fun i hi=>(Tkp_38 h).2 (z i hi),fun e=>by omega⟩,fun z i hi=>(Tkp_38 h).1 (z.1 i hi)⟩
def shP (N:Nat→Nd) (t:Nat):Prop:=(St (N t).a.k∨Ex (N t).a.k)∧alw (rwk (N t).a.k (N t).q) (N t).a (N t).p (N t).q∧(∀ i,i < (N t).q→0≤(N t).K i∧(N t).K i < (t:Int)∧Tkp (N t).a (N t).q i (kz N ((N t).K i)))∧((N t).a.k=35→Tbl N (N t).a (N t).q (N t).K)
theorem kd_kz {N:Nat→Nd} {t i:Nat} (hi:i < (N t).q) (h : 0≤(N t).K i∧(N t).K i < (t:Int)):kd N t i=kz N ((N t).K i):=by
 unfold kd kz
 rw [if_pos hi,if_pos h]
theorem sh_eq {N:Nat→Nd} {t:Nat} (hm0 : -9223372036854775808≤(N t).a.m∧(N t).a.m≤9223372036854775807) (hp0:(N t).p≤1048576) (hk:∀ j,j < t→St (N j).a.k∨Ex (N j).a.k):shM N t↔shP N t:=by
 have key:(∀ i,i < (N t).q→0≤(N t).K i∧(N t).K i < (t:Int))→∀ i,i < (N t).q→St (kd N t i)∨Ex (kd N t i):=by
  intro hr i hi
  rw [kd_kz hi (hr i hi)]
  exact hk _ (by have:=hr i hi;omega)
 have tb:(∀ i,i < (N t).q→0≤(N t).K i∧(N t).K i < (t:Int))→(((N t).q % 2=0∧((N t).a.o=0∨(0 < (N t).q∧kd N t ((N t).q - 2)=23∧(kd N t ((N t).q - 1)=34∨kd N t ((N t).q - 1)=37))))↔Tbl N (N t).a (N t).q (N t).K):=by
  intro hr
  unfold Tbl
  refine and_congr Iff.rfl (or_congr Iff.rfl (and_congr_right fun h0=>?_))
  rw [kd_kz (by omega) (hr ((N t).q - 2) (by omega)),kd_kz (by omega) (hr ((N t).q - 1) (by omega))]
 unfold shM ShM shP
 constructor
 ·rintro ⟨h200,hr,⟨hs,l1,l2,hM⟩ | ⟨hs,hl,hM⟩⟩
  ·obtain ⟨q1,q2⟩:=(sh_st hm0 hp0 (key hr) hs).1 ⟨h200,⟨l1,l2⟩,hM⟩
   exact ⟨Or.inl hs,q1,fun i hi=>⟨(hr i hi).1,(hr i hi).2,by rw [← kd_kz hi (hr i hi)];exact q2 i hi⟩,fun e=>by unfold St at hs;omega⟩
  ·obtain ⟨q1,q2,q3⟩:=(sh_ex hm0 hp0 (key hr) hM.1).1 ⟨h200,hl,hM⟩
   exact ⟨Or.inr hM.1,q1,fun i hi=>⟨(hr i hi).1,(hr i hi).2,by rw [← kd_kz hi (hr i hi)];exact q2 i hi⟩,fun e=>(tb hr).1 (q3 e)⟩
 ·rintro ⟨hs | hx,q1,q2,q3⟩
  ·have hr:∀ i,i < (N t).q→0≤(N t).K i∧(N t).K i < (t:Int):=fun i hi=>⟨(q2 i hi).1,(q2 i hi).2.1⟩
   obtain ⟨c1,c2,c3⟩:=(sh_st hm0 hp0 (key hr) hs).2 ⟨q1,fun i hi=>by rw [kd_kz hi (hr i hi)];exact (q2 i hi).2.2⟩
   exact ⟨c1,hr,Or.inl ⟨hs,c2.1,c2.2,c3⟩⟩
  ·have hr:∀ i,i < (N t).q→0≤(N t).K i∧(N t).K i < (t:Int):=fun i hi=>⟨(q2 i hi).1,(q2 i hi).2.1⟩
   obtain ⟨c1,c2,c3⟩:=(sh_ex hm0 hp0 (key hr) hx).2 ⟨q1,fun i hi=>by rw [kd_kz hi (hr i hi)];exact (q2 i hi).2.2,fun e=>(tb hr).2 (q3 e)⟩
   exact ⟨c1,hr,Or.inr ⟨fun f=>by unfold St at f;unfold Ex at hx;omega,c2,c3⟩⟩
theorem im_shape_n {A : Addr} {n ca t : Nat} {a : Nv} {pr pk : Option Addr} {p cr q ck : Nat} (w : World)
  (hn:n≤1048576) (ht:t < n) (hcel:CelN w (A.add (t*8)) a (.slice pr p cr) (.slice pk q ck)) (hs:¬ St a.k) (hx:¬ Ex a.k) :
  Calls Tryz.prog 81 #[.slice (some A) n ca,.int .i64 (t:Int)] w fun e w'=>e = .returned (.bool false)∧Kb 0 w w':=by
 obtain ⟨d0,d1,d2,d3,d4,d5,d6,d7⟩:=hcel
 have hnI:(n:Int)≤1048576:=by omega
 have htI:(t:Int) < (n:Int):=by omega
 have hst:=hst0
 have hso:=fun W=>so_n a pr p cr pk q ck W hs hx
 unfold ndv at hso
 clear hs hx hn ht
 go_enter Tryz.func81,Tryz.ntmps81
 go_wp2_with fail
 refine (hso _).mono ?_
 rintro e w2 ⟨rfl,kk2⟩
 have HK:Hid (Kb 0 w w2):=(kb_alloc _ _ _).trans kk2
 clear kk2 hso d0 d1 d2 d3 d4 d5 d6 d7
 go_wp2_with fail
 go_quiet (skip)
 go_wp2_with fail
 go_ret
 exact ⟨rfl,by first | exact HK | exact Kb.drewN HK _⟩
theorem im_shape {va : Value} {n : Nat} {N : Nat → Nd} (w : World) (ha : RowN 0 w va n N) (hn : n ≤ 1048576) (hN : ∀ i, i < n → (N i).p ≤ 1048576 ∧ (N i).q ≤ 1048576 ∧ (N i).a.g < 18446744073709551616) (t : Nat) (ht : t < n) :
  Calls Tryz.prog 81 #[va,.int .i64 (t:Int)] w fun e w'=>e = .returned (.bool (dc (shP N t)))∧Kb 0 w w':=by
 obtain ⟨pa,ca,rfl,ha2⟩:=ha
 obtain ⟨A,rfl,hca,-,hra⟩:=ha2 (by omega)
 obtain ⟨vr,vk,hc,hr,hk⟩:=hra t ht
 obtain ⟨y1,y2,y3⟩:=hN t ht
 have hk2:=hk
 obtain ⟨pr,cr,rfl,-⟩:=hr
 obtain ⟨pk,ck,rfl,-⟩:=hk
 have hqI:((N t).q:Int)≤1048576:=by omega
 have hpI:((N t).p:Int)≤1048576:=by omega
 by_cases hs:St (N t).a.k
 ·rw [show dc (shP N t)=dc (alw (rwk (N t).a.k (N t).q) (N t).a (N t).p (N t).q∧(∀ i,i < (N t).q→0≤(N t).K i∧(N t).K i < (t:Int)∧Tkp (N t).a (N t).q i (kz N ((N t).K i)))∧((N t).a.k=35→Tbl N (N t).a (N t).q (N t).K)) from dc_iff ⟨fun h=>h.2,fun h=>⟨Or.inl hs,h⟩⟩]
  exact im_shape_g mth_s (fun _ _=>by kernel_rfl) (fun _ _=>by kernel_rfl) w hn ht y1 y2 y3 hc hra (fun _ _=>Nat.zero_le _) hk2 (fun W=>so_s _ pr _ cr pk _ ck W hs) (fun W=>im_rows _ _ ⟨pr,_,cr,rfl⟩ pk _ ck hqI W hs) (fun W=>im_allows _ (rwk_fx _ _) _ y3 pr _ cr pk _ ck hpI hqI W) (fun W i c hi=>im_tks _ _ ⟨pr,_,cr,rfl⟩ pk _ ck i c (by omega) hqI W hs)
 ·by_cases hx:Ex (N t).a.k
  ·rw [show dc (shP N t)=dc (alw (rwk (N t).a.k (N t).q) (N t).a (N t).p (N t).q∧(∀ i,i < (N t).q→0≤(N t).K i∧(N t).K i < (t:Int)∧Tkp (N t).a (N t).q i (kz N ((N t).K i)))∧((N t).a.k=35→Tbl N (N t).a (N t).q (N t).K)) from dc_iff ⟨fun h=>h.2,fun h=>⟨Or.inr hx,h⟩⟩]
   exact im_shape_g mth_x (fun _ _=>by kernel_rfl) (fun _ _=>by kernel_rfl) w hn ht y1 y2 y3 hc hra (fun _ _=>Nat.zero_le _) hk2 (fun W=>so_x _ pr _ cr pk _ ck W hx) (fun W=>im_rowx _ _ ⟨pr,_,cr,rfl⟩ pk _ ck hqI W hx) (fun W=>im_allows _ (rwk_fx _ _) _ y3 pr _ cr pk _ ck hpI hqI W) (fun W i c hi=>im_tkx _ _ ⟨pr,_,cr,rfl⟩ pk _ ck i c (by omega) hqI W hx)
  ·rw [dc_f (fun h=>h.1.elim hs hx)]
   exact im_shape_n w hn ht hc hs hx
def Fb (P:Nat→Prop) (n:Nat) (r:Int):Prop:=(r = -1∧∀ j,j < n→P j)∨∃ j:Nat,r=(j:Int)∧j < n∧¬ P j∧∀ i,i < j→P i
theorem Fb.uniq {P:Nat→Prop} {n:Nat} {r s:Int} (h:Fb P n r) (k:Fb P n s):r=s:=by
  rcases h with ⟨rfl,h⟩ | ⟨j,rfl,h1,h2,h3⟩ <;> rcases k with ⟨rfl,k⟩ | ⟨i,rfl,k1,k2,k3⟩
  · rfl
  · exact absurd (h i k1) k2
  · exact absurd (k j h1) h2
  · have : i = j := by
      rcases Nat.lt_trichotomy i j with q | q | q
      · exact absurd (h3 i q) k2
      · exact q
      · exact absurd (k3 j q) h2
    omega
def vnm (x:ByteArray):Prop:=1≤x.size∧x.size≤40
theorem sz_emp {x:ByteArray}:x=⟨#[]⟩↔x.size=0:=by
 constructor
 ·rintro rfl;rfl
 ·intro h
  apply ByteArray.ext
  exact Array.eq_empty_of_size_eq_zero h
theorem im_noname (x:ByteArray) (w:World):Calls Tryz.prog 80 #[.string x] w fun e w'=>e = .returned (.bool (dc (¬ vnm x)))∧w'=w:=by
 unfold vnm
 by_cases h:x=⟨#[]⟩
 ·rw [dc_t (by have:=sz_emp.1 h;omega)]
  have g:=str0 h
  clear h
  go_enter Tryz.func80,Tryz.ntmps80
  go_wp2_with fail
  go_ret
  exact ⟨by first | rfl | simp [g],rfl⟩
 ·have g:=str1 h
  have h0:x.size ≠ 0:=fun e=>h (sz_emp.2 e)
  by_cases h4:x.size≤40
  ·rw [dc_f (by omega)]
   have g4:¬ (40:Int) < (x.size:Int):=by omega
   clear h h0 h4
   go_enter Tryz.func80,Tryz.ntmps80
   go_wp2_with fail
   go_ret
   exact ⟨by first | rfl | simp [g],rfl⟩
  ·rw [dc_t (by omega)]
   have g4:(40:Int) < (x.size:Int):=by omega
   clear h h0 h4
   go_enter Tryz.func80,Tryz.ntmps80
   go_wp2_with fail
   go_ret
   exact ⟨by first | rfl | simp [g],rfl⟩
theorem im_index {v : Value} {p : Nat} {A : Nat → ByteArray} (w : World) (hr : RowV w v p (fun i => .string (A i))) (hp : p ≤ 1048576) :
  Calls Tryz.prog 93 #[v,.func (.func 80) #[] #[]] w fun e w'=>∃ r:Int,e = .returned (.int .i64 r)∧((0≤r∧¬ ∀ j,j < p→vnm (A j))∨(r = -1∧∀ j,j < p→vnm (A j)))∧w'=w:=by
 obtain ⟨pa,ca,rfl,hr2⟩:=hr
 have hpI:(p:Int)≤1048576:=by omega
 have HR:Hid (0 < p→∃ a:Addr,pa=some a∧p≤ca∧∀ i,i < p→w.cell? (a.add i)=some (.string (A i))):=hr2
 clear hr2 hp
 go_enter Tryz.func93,Tryz.ntmps93
 go_wp2_with fail
 go_loopw [8] (fun s8 wr=>∃ i:Nat,s8 = .int .i64 (i:Int)∧i≤p∧wr=w∧Hid (∀ j,j < i→vnm (A j))) (fun s8 _=>p - (intOf s8).toNat)
 case atStart=>exact ⟨0,rfl,Nat.zero_le _,rfl,(fun j hj=>by omega:∀ j,_)⟩
 case round =>
  obtain ⟨i,rfl,hin,rfl,HI⟩:=hrel
  have ha:=(uh HI)
  rcases Nat.lt_or_ge i p with hi | hi
  ·have hiI:(i:Int) < (p:Int):=by omega
   obtain ⟨a,rfl,hca,hra⟩:=(uh HR) (by omega)
   have qa:wr.cell? (a.add i)=some (.string (A i)):=hra i hi
   have hcall:=im_noname (A i) wr
   by_cases hn:vnm (A i)
   ·rw [dc_f (not_not_intro hn)] at hcall
    have HX:Hid (∀ j,j < i+1→vnm (A j)):=(fun j hj=>by
     by_cases e:j=i
     ·rw [e];exact hn
     ·exact ha j (by omega):∀ j,_)
    clear HI ha hra hn
    generalize A i=x at *
    go_wp2_with fail
    refine hcall.mono ?_
    rintro e w' ⟨rfl,rfl⟩
    go_wp2_with fail
    go_roundw
    case rel=>exact ⟨i+1,by go_num,by omega,by trivial,HX⟩
    case measure=>simp [intOf];omega
   ·rw [dc_t hn] at hcall
    have HX:Hid (¬ ∀ j,j < p→vnm (A j)):=(fun h=>hn (h i hi):¬ _)
    clear HI ha hra hn
    generalize A i=x at *
    go_wp2_with fail
    refine hcall.mono ?_
    rintro e w' ⟨rfl,rfl⟩
    go_wp2_with fail
    go_ret
    exact ⟨(i:Int),rfl,.inl ⟨by omega,HX⟩,rfl⟩
  ·obtain rfl:i=p:=by omega
   clear HR ha
   go_wp2_with fail
   go_ret
   exact ⟨-1,rfl,.inr ⟨rfl,HI⟩,rfl⟩
theorem im_contains {v : Value} {p : Nat} {A : Nat → ByteArray} (w : World) (hr : RowV w v p (fun i => .string (A i))) (hp : p ≤ 1048576) :
  Calls Tryz.prog 79 #[v,.func (.func 80) #[] #[]] w fun e w'=>e = .returned (.bool (dc (¬ ∀ j,j < p→vnm (A j))))∧w'=w:=by
 have h1:=im_index w hr hp
 obtain ⟨pa,ca,rfl,hr2⟩:=hr
 clear hr2 hp
 obtain ⟨z,hz⟩:∃ z,z=dc (¬ ∀ j,j < p→vnm (A j)):=⟨_,rfl⟩
 have HZ:Hid (z=dc (¬ ∀ j,j < p→vnm (A j))):=hz
 rw [← hz]
 clear hz
 go_enter Tryz.func79,Tryz.ntmps79
 go_wp2_with fail
 refine h1.mono ?_
 rintro e w1 ⟨r,rfl,hR,rfl⟩
 clear h1
 rcases hR with ⟨h0,hn⟩ | ⟨rfl,hn⟩
 ·have hX:z=true:=(uh HZ).trans (dc_t hn)
  subst hX
  clear hn HZ
  go_wp2_with fail
  go_ret
  exact ⟨rfl,rfl⟩
 ·have hX:z=false:=(uh HZ).trans (dc_f (not_not_intro hn))
  subst hX
  clear hn HZ
  go_wp2_with fail
  go_ret
  exact ⟨rfl,rfl⟩
def Hd (f:Nat) (d:Fd):Prop:=0 < d.n∧d.p≤200∧d.u≤200∧0≤d.m∧d.m≤(d.p:Int)∧0≤d.l∧d.l≤100000∧d.x.size≤40∧(∀ j,j < d.p→vnm (d.V j))∧(f=0→d.m=0∧d.u=0)
def ck (K:Nat→Int) (k:Int):Nat→Nat
 | 0=>0
 | i+1=>ck K k i+(if K i=k then 1 else 0)
def cn (N:Nat→Nd) (k:Int):Nat→Nat
 | 0=>0
 | t+1=>cn N k t+ck (N t).K k (N t).q
theorem ck_le (K:Nat→Int) (k:Int) (i:Nat):ck K k i≤i:=by
 induction i with
 | zero=>exact Nat.le_refl _
 | succ i ih=>unfold ck;split <;> omega
theorem cn_le {N:Nat→Nd} {n:Nat} (hq:∀ t,t < n→(N t).q≤200) (k:Int):∀ t,t≤n→cn N k t≤t*200
 | 0,_=>Nat.zero_le _
 | t+1,h=>by
  have h1:=cn_le hq k t (by omega)
  have h2:=ck_le (N t).K k (N t).q
  have h3:=hq t (by omega)
  unfold cn
  omega
structure Ar (w1:World) (G n:Nat) (A:Nat→Int) (W:World):Prop where
 os:W.os=w1.os
 output:W.output=w1.output
 size:w1.heap.size≤W.heap.size
 block:∀ b,b < w1.heap.size→b ≠ G→W.heap[b]? = w1.heap[b]?
 ce:∀ k,k < n→W.cell? ⟨G,k,none⟩=some (.int .i64 (A k))
 fz:∀ j,W.frozen? ⟨G,j,none⟩=false
 gl:G < w1.heap.size
theorem Ar.kb {w1 W W':World} {G n:Nat} {A:Nat→Int} (h:Ar w1 G n A W) (k:Kb 0 W W'):Ar w1 G n A W':=by
 have hg:=Nat.lt_of_lt_of_le h.gl h.size
 exact ⟨k.os.trans h.os,k.output.trans h.output,Nat.le_trans h.size k.size,fun b hb hn=>(k.block b zq (Nat.lt_of_lt_of_le hb h.size)).trans (h.block b hb hn),fun j hj=>k.cell (h.ce j hj),fun j=>(k.frozen zq hg).trans (h.fz j),h.gl⟩
theorem Ar.set {w1 W:World} {G n:Nat} {A B:Nat→Int} (h:Ar w1 G n A W) {k:Nat} {v:Int} (hk:k < n) (hB:∀ j,j < n→B j=if j=k then v else A j):Ar w1 G n B (W.setCell ⟨G,k,none⟩ (.int .i64 v)):=by
 refine ⟨h.os,h.output,by simpa using h.size,fun b hb hn=>(Below.heap_setCell _ _ _ _ hn).trans (h.block b hb hn),fun j hj=>?_,fun j=>(set_fz _ _ _ _ _).trans (h.fz j),h.gl⟩
 rw [hB j hj]
 by_cases e:j=k
 ·subst e;rw [if_pos rfl];exact set_eq _ _ _ _ _ (h.ce j hj)
 ·rw [if_neg e,set_ne _ _ _ _ _ e];exact h.ce j hj
theorem Ar.eqv {w1 W:World} {G n:Nat} {A B:Nat→Int} (h:Ar w1 G n A W) (hB:∀ j,j < n→B j=A j):Ar w1 G n B W :=
 ⟨h.os,h.output,h.size,h.block,fun j hj=>by rw [hB j hj];exact h.ce j hj,h.fz,h.gl⟩
theorem Ar.old {w w1 W:World} {G n:Nat} {A:Nat→Int} (h:Ar w1 G n A W) (k:Kb 0 w w1) (hG:w.heap.size≤G):Kb 0 w W :=
 ⟨h.os.trans k.os,h.output.trans k.output,Nat.le_trans k.size h.size,fun b _ hb=>(h.block b (Nat.lt_of_lt_of_le hb k.size) (by omega)).trans (k.block b zq hb)⟩
theorem ar_zero (w:World) (n:Nat) (t:TypeId):Ar (w.alloc (.cells (madeCells (.int .i64 0:Value).cells (n*1)) t)) w.heap.size n (fun _=>0) (w.alloc (.cells (madeCells (.int .i64 0:Value).cells (n*1)) t)) :=
 ⟨rfl,rfl,Nat.le_refl _,fun _ _ _=>rfl,fun k hk=>made_cell w _ t n rfl k hk,fun j=>made_fz _ _ _ _,by simp⟩
theorem im_stray1 (c:Int) (w:World):Calls Tryz.prog 83 #[.int .i64 c] w fun e w'=>e = .returned (.bool (dc (¬ c=1)))∧w'=w:=by
 by_cases h:c=1
 ·rw [dc_f (not_not_intro h)]
  subst h
  go_enter Tryz.func83,Tryz.ntmps83
  go_wp2_with fail
  go_ret
  exact ⟨rfl,rfl⟩
 ·rw [dc_t h]
  have g:(c != 1)=true:=by simp [h]
  have g2:=bne h
  go_enter Tryz.func83,Tryz.ntmps83
  go_wp2_with fail
  go_ret
  exact ⟨by first | rfl | simp [*],rfl⟩
theorem im_ixint {ff : Nat} {Q : Int → Prop} (hff : ∀ c w, Calls Tryz.prog ff #[.int .i64 c] w fun e w' => e = .returned (.bool (dc (¬ Q c))) ∧ w' = w) (en : ∀ args w, (callFunc ff args).run Tryz.prog w = .ok (.enter ff args) w) {v : Value} {p : Nat} {A : Nat → Int} (w : World) (hr : RowV w v p (fun i => .int .i64 (A i))) (hp : p ≤ 1048576) :
  Calls Tryz.prog 82 #[v,.func (.func ff) #[] #[]] w fun e w'=>∃ r:Int,e = .returned (.int .i64 r)∧Fb (fun j=>Q (A j)) p r∧w'=w:=by
 obtain ⟨pa,ca,rfl,hr2⟩:=hr
 have hpI:(p:Int)≤1048576:=by omega
 have HR:Hid (0 < p→∃ a:Addr,pa=some a∧p≤ca∧∀ i,i < p→w.cell? (a.add i)=some (.int .i64 (A i))):=hr2
 have HFF:Hid (∀ c w,Calls Tryz.prog ff #[.int .i64 c] w fun e w'=>e = .returned (.bool (dc (¬ Q c)))∧w'=w):=hff
 clear hr2 hp hff
 go_enter Tryz.func82,Tryz.ntmps82
 go_wp2_with fail
 go_loopw [8] (fun s8 wr=>∃ i:Nat,s8 = .int .i64 (i:Int)∧i≤p∧wr=w∧Hid (∀ j,j < i→Q (A j))) (fun s8 _=>p - (intOf s8).toNat)
 case atStart=>exact ⟨0,rfl,Nat.zero_le _,rfl,(fun j hj=>by omega:∀ j,_)⟩
 case round =>
  obtain ⟨i,rfl,hin,rfl,HI⟩:=hrel
  have ha:=(uh HI)
  rcases Nat.lt_or_ge i p with hi | hi
  ·have hiI:(i:Int) < (p:Int):=by omega
   obtain ⟨a,rfl,hca,hra⟩:=(uh HR) (by omega)
   have qa:wr.cell? (a.add i)=some (.int .i64 (A i)):=hra i hi
   have hcall:=(uh HFF) (A i) wr
   by_cases hn:Q (A i)
   ·rw [dc_f (not_not_intro hn)] at hcall
    have HX:Hid (∀ j,j < i+1→Q (A j)):=(fun j hj=>by
     by_cases e:j=i
     ·rw [e];exact hn
     ·exact ha j (by omega):∀ j,_)
    clear HI ha hra hn
    generalize A i=x at *
    go_wp2_with fail
    refine hcall.mono ?_
    rintro e w' ⟨rfl,rfl⟩
    go_wp2_with fail
    go_roundw
    case rel=>exact ⟨i+1,by go_num,by omega,by trivial,HX⟩
    case measure=>simp [intOf];omega
   ·rw [dc_t hn] at hcall
    have HX:Hid (Fb (fun j=>Q (A j)) p (i:Int)):=Or.inr ⟨i,rfl,hi,hn,ha⟩
    clear HI ha hra hn
    generalize A i=x at *
    go_wp2_with fail
    refine hcall.mono ?_
    rintro e w' ⟨rfl,rfl⟩
    go_wp2_with fail
    go_ret
    exact ⟨(i:Int),rfl,HX,rfl⟩
  ·obtain rfl:i=p:=by omega
   have HX:Hid (Fb (fun j=>Q (A j)) i (-1)):=Or.inl ⟨rfl,ha⟩
   clear HR ha HFF HI
   go_wp2_with fail
   go_ret
   exact ⟨-1,rfl,HX,rfl⟩
def P4 (N:Nat→Nd) (n j:Nat):Prop:=(j+1 < n→cn N (j:Int) n=1)∧(j+1=n→(N j).a.k=1)
theorem im_stray {A : Addr} {nf ca f B : Nat} {d : Fd} {vv vu vn : Value} (w : World) (hf : f < nf) (hnf : nf ≤ 1048576) (hb : w.cell? ⟨B, 0, none⟩ = some (.slice (some A) nf ca)) (hcel : CelF w (A.add (f * 7)) d vv vu vn)
  (hrow:RowN 0 w vn d.n d.N) (hn:d.n≤1048576) (hn0 : 0 < d.n) (hq:∀ t,t < d.n→(d.N t).q≤200) (hK:∀ t,t < d.n→∀ i,i < (d.N t).q→0≤(d.N t).K i∧(d.N t).K i < (t:Int)) :
  Calls Tryz.prog 62 #[.pointer (some ⟨B,0,none⟩),.int .i64 (f:Int)] w fun e w'=>∃ r:Int,e = .returned (.int .i64 r)∧Fb (P4 d.N d.n) d.n r∧Kb 0 w w':=by
 generalize d.n=n at *
 generalize d.N=N at *
 obtain ⟨pn,cnn,rfl,hrow2⟩:=hrow
 obtain ⟨AN,rfl,hcn,-,hra⟩:=hrow2 hn0
 obtain ⟨d0,d1,d2,d3,d4,d5,d6⟩:=hcel
 have hfI:(f:Int) < (nf:Int):=by omega
 have hnfI:(nf:Int)≤1048576:=by omega
 have hnI:(n:Int)≤1048576:=by omega
 have hmk:=run_make (P:=Tryz.prog) w 57 3 Tryz.t3 (.int .i64 0) Tryz.underlying57 (by kernel_rfl) (by kernel_rfl) .i64 .i64 (n:Int) (n:Int) (by omega) (Int.le_refl _) (by show (8:Int)*(n:Int)≤_;omega) (by omega)
 rw [Int.toNat_natCast] at hmk
 obtain ⟨w1,hw1⟩:∃ w1,w1=w.alloc (.cells (madeCells (.int .i64 0:Value).cells (n*1)) 3):=⟨_,rfl⟩
 have hmk2:=hmk
 rw [show n*Tryz.t3.size=n*1 from rfl,← hw1] at hmk2
 clear hmk
 have hk1:Kb 0 w w1:=by rw [hw1];exact kb_alloc _ _ _
 obtain ⟨G,hG⟩:∃ G,G=w.heap.size:=⟨_,rfl⟩
 have HA0:Hid (Ar w1 G n (fun k=>(cn N (k:Int) 0:Int)) w1):=by
  rw [hG,hw1]
  exact (ar_zero w n 3).eqv (fun j hj=>rfl)
 have HB:Hid ((∀ i,i < n→NodeC 0 w (AN.add (i*8)) (N i))∧Kb 0 w w1∧G=w.heap.size∧(∀ t,t < n→(N t).q≤200)∧(∀ t,t < n→∀ i,i < (N t).q→0≤(N t).K i∧(N t).K i < (t:Int))∧n≤1048576∧0 < n):=(⟨hra,hk1,hG,hq,hK,hn,hn0⟩:_∧_)
 rw [← hG] at hmk2
 have hn0I:(0:Int) < (n:Int):=by omega
 clear hra hrow2 hk1 hw1 hG hq hK hf hnf d0 d1 d2 d3 d4 d5 hn hn0
 go_enter Tryz.func62,Tryz.ntmps62
 go_wp2_with fail
 clear d6 hb hmk2
 go_loopw [26] (fun s26 wr=>∃ t:Nat,s26 = .int .i64 (t:Int)∧t≤n∧Hid (Ar w1 G n (fun k=>(cn N (k:Int) t:Int)) wr)) (fun s26 _=>n - (intOf s26).toNat)
 case atStart=>exact ⟨0,rfl,Nat.zero_le _,HA0⟩
 case round =>
  clear HA0
  obtain ⟨t,rfl,ht,HX⟩:=hrel
  have hX:=(uh HX)
  obtain ⟨hra,hk1,hG,hq,hK,hn,hn0⟩:=(uh HB)
  rcases Nat.lt_or_ge t n with h | h
  ·have hI:(t:Int) < (n:Int):=by omega
   have kw:Kb 0 w wr:=hX.old hk1 (by omega)
   obtain ⟨vr,vk,⟨c0,c1,c2,c3,c4,c5,c6,c7⟩,hvr,hvk⟩:=(hra t h).keep zq kw
   obtain ⟨pr,cr,rfl,-⟩:=hvr
   obtain ⟨pk,ck',rfl,-⟩:=id hvk
   have hq1:=hq t h
   have hqI:((N t).q:Int)≤200:=by omega
   have hst:=hst0
   obtain ⟨W0,hW0⟩:∃ W0,W0=wr.alloc (.cells #[.int .i64 (N t).a.k,.int .i64 (N t).a.l,.int .i64 (N t).a.o,.int .i64 (N t).a.m,.float .f64 (N t).a.g,.string (N t).a.x,.slice pr (N t).p cr,.slice pk (N t).q ck'] 59):=⟨_,rfl⟩
   have ar0:Ar w1 G n (fun k=>((cn N (k:Int) t+ck (N t).K (k:Int) 0:Nat):Int)) W0:=by
    rw [hW0]
    exact (hX.kb (kb_alloc _ _ _)).eqv (fun j hj=>rfl)
   have HAR0:Hid (Ar w1 G n (fun k=>((cn N (k:Int) t+ck (N t).K (k:Int) 0:Nat):Int)) W0):=ar0
   have HROW:Hid (RowB 0 w (.slice pk (N t).q ck') (N t).q (fun i=>.int .i64 ((N t).K i))):=by
    obtain ⟨vr2,vk2,cc,hvr2,hvk2⟩:=hra t h
    have e:=(kw.cell cc.c7).symm.trans c7
    have e2:vk2 = .slice pk (N t).q ck':=by simpa using e
    rw [← e2];exact hvk2
   clear HX hX ar0 kw hvk hra hk1 hG hq hK hn hn0 hq1
   go_wp2_with fail
   rw [← hW0]
   clear hW0 c0 c1 c2 c3 c4 c5 c6 c7
   go_loopw [33] (fun s33 wr=>∃ i:Nat,s33 = .int .i64 (i:Int)∧i≤(N t).q∧Hid (Ar w1 G n (fun k=>((cn N (k:Int) t+ck (N t).K (k:Int) i:Nat):Int)) wr)) (fun s33 _=>(N t).q - (intOf s33).toNat)
   case atStart=>exact ⟨0,rfl,Nat.zero_le _,HAR0⟩
   case round =>
    clear HAR0
    obtain ⟨i,rfl,hi,HX⟩:=hrel
    have hX:=(uh HX)
    obtain ⟨hra,hk1,hG,hq,hK,hn,hn0⟩:=(uh HB)
    rcases Nat.lt_or_ge i (N t).q with h2 | h2
    ·have hI2:(i:Int) < ((N t).q:Int):=by omega
     have kw:Kb 0 w wr:=hX.old hk1 (by omega)
     obtain ⟨pk',ck2,e1,hrow2⟩:=(uh HROW).keep kw
     obtain ⟨rfl,-,rfl⟩:pk=pk'∧(N t).q=(N t).q∧ck'=ck2:=by simpa using e1
     obtain ⟨b,rfl,hcb,-,hrb⟩:=hrow2 (by omega)
     have qa:wr.cell? (b.add i)=some (.int .i64 ((N t).K i)):=hrb i h2
     obtain ⟨kn,hkn⟩:=Int.eq_ofNat_of_zero_le (hK t h i h2).1
     have hknt:kn < n:=by have:=(hK t h i h2).2;omega
     have hknI:(kn:Int) < (n:Int):=by omega
     rw [hkn] at qa
     obtain ⟨x,hx⟩:∃ x:Int,x=((cn N (kn:Int) t+ck (N t).K (kn:Int) i:Nat):Int):=⟨_,rfl⟩
     have cg:wr.cell? ⟨G,kn,none⟩=some (.int .i64 x):=by rw [hx];exact hX.ce kn hknt
     have fg:wr.frozen? ⟨G,kn,none⟩=false:=hX.fz kn
     have hx0 : 0≤x:=by omega
     have hx1:x≤1000000000:=by
      have a1:=cn_le hq (kn:Int) t (by omega)
      have a2:=ck_le (N t).K (kn:Int) i
      have a3:=hq t h
      omega
     have HN:Hid (Ar w1 G n (fun k=>((cn N (k:Int) t+ck (N t).K (k:Int) (i+1):Nat):Int)) (wr.setCell ⟨G,kn,none⟩ (.int .i64 (x+1)))):=hX.set hknt (fun j hj=>by
      show ((cn N (j:Int) t+(ck (N t).K (j:Int) i+(if (N t).K i=(j:Int) then 1 else 0)):Nat):Int) = _
      rw [hkn]
      by_cases e:j=kn
      ·subst e;rw [if_pos rfl,if_pos rfl,hx];omega
      ·rw [if_neg (by omega),if_neg e];omega)
     clear HX hX hra hk1 hG hq hK hn hn0 hrow2 hrb e1 kw hkn hx HROW h hknt
     go_wp2_with fail
     go_roundw
     case rel=>exact ⟨i+1,by go_num,by omega,HN⟩
     case measure=>simp [intOf];omega
    ·obtain rfl:i=(N t).q:=by omega
     have HN:Hid (Ar w1 G n (fun k=>(cn N (k:Int) (t+1):Int)) wr):=hX.eqv (fun j hj=>rfl)
     have hI2:¬ ((N t).q:Int) < ((N t).q:Int):=by omega
     clear HX hX hra hk1 hG hq hK hn hn0 HROW
     go_wp2_with fail
     go_roundw
     case rel=>exact ⟨t+1,by go_num,by omega,HN⟩
     case measure=>simp [intOf];omega
  ·obtain rfl:t=n:=by omega
   have hI:¬ (t:Int) < (t:Int):=by omega
   have kw:Kb 0 w wr:=hX.old hk1 (by omega)
   have hR:RowV wr (.slice (some ⟨G,0,none⟩) (t - 1) t) (t - 1) (fun k=>.int .i64 (cn N (k:Int) t:Int)):=⟨_,_,rfl,fun _=>⟨⟨G,0,none⟩,rfl,by omega,fun k hk=>by rw [addr0];exact hX.ce k (by omega)⟩⟩
   have QI:=im_ixint (Q:=fun c=>c=1) im_stray1 (fun _ _=>by kernel_rfl) wr hR (by omega)
   obtain ⟨vr,vk,⟨c0,-,-,-,-,-,-,-⟩,-,-⟩:=(hra (t - 1) (by omega)).keep zq kw
   have HQI:Hid (Calls Tryz.prog 82 #[.slice (some ⟨G,0,none⟩) (t - 1) t,.func (.func 83) #[] #[]] wr fun e w'=>∃ r:Int,e = .returned (.int .i64 r)∧Fb (fun j=>(cn N (j:Int) t:Int)=1) (t - 1) r∧w'=wr):=QI
   have HKW:Hid (Kb 0 w wr):=kw
   have hl0:(0:Int)≤(t:Int) - 1:=by omega
   clear HX hX hra hk1 hG hq hK hR QI kw HB
   go_wp2_with fail
   refine (uh HQI).mono ?_
   rintro e w2 ⟨r,rfl,hFb,rfl⟩
   rcases hFb with ⟨rfl,hall⟩ | ⟨j,rfl,j1,j2,j3⟩
   ·by_cases hk:(N (t - 1)).a.k=1
    ·have HF:Hid (Fb (P4 N t) t (-1)):=Or.inl ⟨rfl,fun j hj=>⟨fun hj2=>by have:=hall j (by omega);omega,fun e=>by rw [show j=t - 1 by omega];exact hk⟩⟩
     have gk:((N (t - 1)).a.k != 1)=false:=by simp [hk]
     have gk2:=beq1 hk
     clear hall HQI hk
     go_wp2_with fail
     go_ret
     exact ⟨_,rfl,HF,HKW⟩
    ·have HF:Hid (Fb (P4 N t) t ((t - 1:Nat):Int)):=Or.inr ⟨t - 1,rfl,by omega,fun g=>hk (g.2 (by omega)),fun j hj=>⟨fun hj2=>by have:=hall j (by omega);omega,fun e=>by omega⟩⟩
     have gk:((N (t - 1)).a.k != 1)=true:=by simp [hk]
     have gk2:=bne hk
     have ht1:((t - 1:Nat):Int)=(t:Int) - 1:=by omega
     rw [ht1] at HF
     clear hall HQI hk ht1
     go_wp2_with fail
     go_ret
     exact ⟨_,rfl,HF,HKW⟩
   ·have HF:Hid (Fb (P4 N t) t (j:Int)):=Or.inr ⟨j,rfl,by omega,fun g=>j2 (by have:=g.1 (by omega);show (cn N (j:Int) t:Int)=1;omega),fun i hi=>⟨fun _=>by have:=j3 i hi;have:(cn N (i:Int) t:Int)=1:=this;omega,fun e=>by omega⟩⟩
    have gj:(0:Int)≤(j:Int):=by omega
    clear HQI j1 j2 j3
    go_wp2_with fail
    go_ret
    exact ⟨_,rfl,HF,HKW⟩
end Go.Proofs.YtfpidccjcemcjaaGreat.Fo
