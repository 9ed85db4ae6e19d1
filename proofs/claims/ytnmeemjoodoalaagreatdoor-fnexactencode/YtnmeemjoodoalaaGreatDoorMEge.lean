import Derived.Test.YtnmeemjoodoalaaGreatDoorMEgc
import Derived.Test.YtnmeemjoodoalaaGreatDoorMZaa
import Derived.Laws.IdiomStrings
import Derived.Laws.OwnMore
import Derived.Lib.UnsafeStr
import Derived.Lib.AppendStr
import Derived.Deep.AppendLies
import Derived.OwnWalk
import Derived.Handy
import Derived.Test.YtnmeemjoodoalaaGreatDoorMCdd
import Derived.Lib.OthersKept
import Derived.Laws.Bits64
import Derived.Laws.BitsAllLaws
set_option maxHeartbeats 8000000
namespace Go.Proofs.YtnmeemjoodoalaaGreatDoor.Fo
open Go.ChangeShapes Go.WideShapes Go.ChangeAt Go.RowKit
set_option linter.unusedVariables false
set_option maxRecDepth 100000
theorem mark_pros {W : World} {B g E n : Nat} {F : Nat → Pd} (k : Int) (h1 : 1 ≤ k) (h2 : k ≤ 1000) (hn : n ≤ 1048576) (hF : ∀ i, i < n → (F i).u ≤ 1048576 ∧ (F i).c ≤ 1048576 ∧ (F i).n ≤ 1048576 ∧ (F i).d ≤ 1048576) (hsm : sm (fun i => 5 + 2 * (F i).u + 5 * (F i).c + 5 * (F i).n + 4 * (F i).d) n ≤ 100000000) (hB : B ≤ g) (hm : Mst g E n F W) :
    Calls Tryz.prog 28 #[.slice (some ⟨g,0,none⟩) n n,.int .i64 k] W fun e w'=>e = .returned (.int .i64 (k + (sm (fun i=>5 + 2 * (F i).u + 5 * (F i).c + 5 * (F i).n + 4 * (F i).d) n : Int))) ∧ KE B E W w':=by
  have HH : Hid ((∀ i,i < n → (F i).u ≤ 1048576 ∧ (F i).c ≤ 1048576 ∧ (F i).n ≤ 1048576 ∧ (F i).d ≤ 1048576) ∧ sm (fun i=>5 + 2 * (F i).u + 5 * (F i).c + 5 * (F i).n + 4 * (F i).d) n ≤ 100000000 ∧ B ≤ g):=(⟨hF,hsm,hB⟩ : _ ∧ _)
  have HM : Hid (Mst g E n F W):=hm
  have hnI : (n : Int) ≤ 1048576:=by omega
  clear hF hsm hB hm hn
  go_enter Tryz.func28,Tryz.ntmps28
  go_wp2_with fail
  go_loopw [1,5] (fun s1 s5 wr=>∃ i : Nat,i ≤ n ∧ s5 = .int .i64 (i : Int) ∧ s1 = .int .i64 (k + (sm (fun i=>5 + 2 * (F i).u + 5 * (F i).c + 5 * (F i).n + 4 * (F i).d) i : Int)) ∧ Hid (Mst g E n F wr ∧ KE B E W wr)) (fun _ s5 _=>n - (intOf s5).toNat)
  case atStart=>exact ⟨0,by omega,rfl,by simp [sm],(⟨HM,KE.refl _ _ _⟩ : _ ∧ _)⟩
  case round =>
    obtain ⟨i,hi,rfl,rfl,HK⟩:=hrel
    obtain ⟨hF,hsm,hB⟩:=(show _ ∧ _ ∧ _ from HH)
    by_cases hin : i < n
    · have hI : (i : Int) < (n : Int):=by omega
      have hmo:=sm_mono (fun i=>5 + 2 * (F i).u + 5 * (F i).c + 5 * (F i).n + 4 * (F i).d) (show i + 1 ≤ n from hin)
      have hsu : sm (fun i=>5 + 2 * (F i).u + 5 * (F i).c + 5 * (F i).n + 4 * (F i).d) (i + 1) = sm (fun i=>5 + 2 * (F i).u + 5 * (F i).c + 5 * (F i).n + 4 * (F i).d) i + (5 + 2 * (F i).u + 5 * (F i).c + 5 * (F i).n + 4 * (F i).d):=rfl
      obtain ⟨yu,yc,yn,yd⟩:=hF i hin
      obtain ⟨K,hK⟩ : ∃ K : Int,K = k + (sm (fun i=>5 + 2 * (F i).u + 5 * (F i).c + 5 * (F i).n + 4 * (F i).d) i : Int):=⟨_,rfl⟩
      have hK1 : 1 ≤ K:=by omega
      have hK2 : K + 5 + 2 * ((F i).u : Int) + 5 * ((F i).c : Int) + 5 * ((F i).n : Int) + 4 * ((F i).d : Int) ≤ 200000000:=by omega
      have hKb : K ≤ 200000000:=by omega
      have HKK : Hid (k + (sm (fun i=>5 + 2 * (F i).u + 5 * (F i).c + 5 * (F i).n + 4 * (F i).d) (i + 1) : Int) = K + 5 + 2 * ((F i).u : Int) + 5 * ((F i).c : Int) + 5 * ((F i).n : Int) + 4 * ((F i).d : Int) ∧ (F i).u ≤ 1048576 ∧ (F i).c ≤ 1048576 ∧ (F i).n ≤ 1048576 ∧ (F i).d ≤ 1048576 ∧ K + 5 + 2 * ((F i).u : Int) + 5 * ((F i).c : Int) + 5 * ((F i).n : Int) + 4 * ((F i).d : Int) ≤ 200000000 ∧ B ≤ g):=(⟨by rw [hsu,hK];omega,yu,yc,yn,yd,hK2,hB⟩ : _ ∧ _)
      rw [← hK]
      clear hF hsm hB hK hmo hsu yu yc yn yd hK2
      obtain ⟨u0,cu0⟩:=(show Mst g E n F wr ∧ _ from HK).1.hd i hin 0 (by omega)
      have cf0 : wr.frozen? ⟨g,i * 9 + 0,none⟩ = false:=(show Mst g E n F wr ∧ _ from HK).1.fz _
      rw [Nat.add_zero] at cu0 cf0
      have HT:=mark_text (K).toNat (by omega) (by omega) wr
      rw [Int.toNat_of_nonneg (by omega)] at HT
      generalize (⟨#[109]⟩ ++ mtl (K).toNat ⟨#[]⟩ : ByteArray) = tx0 at HT
      have HCU : Hid (∀ W',Below wr.heap.size wr W' → W'.cell? ⟨g,i * 9,none⟩ = some u0 ∧ W'.frozen? ⟨g,i * 9,none⟩ = false ∧ Mst g E n F W' ∧ KE B E W W'):=(fun W' b=>⟨(Kb.of_below b 0).cell cu0,((Kb.of_below b 0).frozen (Nat.zero_le _) (World.block_lt_of_cell? _ _ cu0)).trans cf0,(show Mst g E n F wr ∧ _ from HK).1.kb (Kb.of_below b 0),(show _ ∧ KE B E W wr from HK).2.k1 (g:=g) ⟨(show _ ∧ _ ∧ _ ∧ _ ∧ _ ∧ _ ∧ _ from HKK).2.2.2.2.2.2,(show Mst g E n F wr ∧ _ from HK).1.gE⟩ (K1.of_kb (Kb.of_below b 0))⟩ : ∀ W',_)
      clear cu0 cf0
      go_upto_region 5 with (go_at_call 66;refine HT.mono ?_;rintro e z0 ⟨rfl,bz⟩;obtain ⟨cu0,cf0,mz,kz⟩:=(show ∀ W',Below wr.heap.size wr W' → _ from HCU) z0 bz)
      have HKZ : Hid (Mst g E n F z0 ∧ KE B E W z0):=(⟨mz,kz⟩ : _ ∧ _)
      clear HT bz HCU mz kz HK
      generalize hy : World.setCell z0 _ _ = y0
      have HK0 : Hid (Mst g E n F y0 ∧ KE B E W y0):=by
        rw [← hy]
        exact (⟨(show Mst g E n F z0 ∧ _ from HKZ).1.set i 0 (by omega) _,(show _ ∧ KE B E W z0 from HKZ).2.k1 (g:=g) ⟨(show _ ∧ _ ∧ _ ∧ _ ∧ _ ∧ _ ∧ _ from HKK).2.2.2.2.2.2,(show Mst g E n F z0 ∧ _ from HKZ).1.gE⟩ (K1.set1 _ _ _ _)⟩ : _ ∧ _)
      clear hy cu0 cf0 u0 HKZ
      obtain ⟨u1,cu1⟩:=(show Mst g E n F y0 ∧ _ from HK0).1.hd i hin 1 (by omega)
      have cf1 : y0.frozen? ⟨g,i * 9 + 1,none⟩ = false:=(show Mst g E n F y0 ∧ _ from HK0).1.fz _
      go_upto_region 7 with fail
      generalize hy : World.setCell y0 _ _ = y1
      have HK1 : Hid (Mst g E n F y1 ∧ KE B E W y1):=by
        rw [← hy]
        exact (⟨(show Mst g E n F y0 ∧ _ from HK0).1.set i 1 (by omega) _,(show _ ∧ KE B E W y0 from HK0).2.k1 (g:=g) ⟨(show _ ∧ _ ∧ _ ∧ _ ∧ _ ∧ _ ∧ _ from HKK).2.2.2.2.2.2,(show Mst g E n F y0 ∧ _ from HK0).1.gE⟩ (K1.set1 _ _ _ _)⟩ : _ ∧ _)
      clear hy cu1 cf1 u1 HK0
      obtain ⟨u2,cu2⟩:=(show Mst g E n F y1 ∧ _ from HK1).1.hd i hin 2 (by omega)
      have cf2 : y1.frozen? ⟨g,i * 9 + 2,none⟩ = false:=(show Mst g E n F y1 ∧ _ from HK1).1.fz _
      go_upto_region 9 with fail
      generalize hy : World.setCell y1 _ _ = y2
      have HK2 : Hid (Mst g E n F y2 ∧ KE B E W y2):=by
        rw [← hy]
        exact (⟨(show Mst g E n F y1 ∧ _ from HK1).1.set i 2 (by omega) _,(show _ ∧ KE B E W y1 from HK1).2.k1 (g:=g) ⟨(show _ ∧ _ ∧ _ ∧ _ ∧ _ ∧ _ ∧ _ from HKK).2.2.2.2.2.2,(show Mst g E n F y1 ∧ _ from HK1).1.gE⟩ (K1.set1 _ _ _ _)⟩ : _ ∧ _)
      clear hy cu2 cf2 u2 HK1
      obtain ⟨u3,cu3⟩:=(show Mst g E n F y2 ∧ _ from HK2).1.hd i hin 3 (by omega)
      have cf3 : y2.frozen? ⟨g,i * 9 + 3,none⟩ = false:=(show Mst g E n F y2 ∧ _ from HK2).1.fz _
      go_upto_region 11 with fail
      generalize hy : World.setCell y2 _ _ = y3
      have HK3 : Hid (Mst g E n F y3 ∧ KE B E W y3):=by
        rw [← hy]
        exact (⟨(show Mst g E n F y2 ∧ _ from HK2).1.set i 3 (by omega) _,(show _ ∧ KE B E W y2 from HK2).2.k1 (g:=g) ⟨(show _ ∧ _ ∧ _ ∧ _ ∧ _ ∧ _ ∧ _ from HKK).2.2.2.2.2.2,(show Mst g E n F y2 ∧ _ from HK2).1.gE⟩ (K1.set1 _ _ _ _)⟩ : _ ∧ _)
      clear hy cu3 cf3 u3 HK2
      obtain ⟨u4,cu4⟩:=(show Mst g E n F y3 ∧ _ from HK3).1.hd i hin 4 (by omega)
      have cf4 : y3.frozen? ⟨g,i * 9 + 4,none⟩ = false:=(show Mst g E n F y3 ∧ _ from HK3).1.fz _
      go_upto_region 13 with fail
      generalize hy : World.setCell y3 _ _ = y4
      have HK4 : Hid (Mst g E n F y4 ∧ KE B E W y4):=by
        rw [← hy]
        exact (⟨(show Mst g E n F y3 ∧ _ from HK3).1.set i 4 (by omega) _,(show _ ∧ KE B E W y3 from HK3).2.k1 (g:=g) ⟨(show _ ∧ _ ∧ _ ∧ _ ∧ _ ∧ _ ∧ _ from HKK).2.2.2.2.2.2,(show Mst g E n F y3 ∧ _ from HK3).1.gE⟩ (K1.set1 _ _ _ _)⟩ : _ ∧ _)
      clear hy cu4 cf4 u4 HK3
      obtain ⟨gu,gc,gn,gm,⟨c1,c2,c3,c4⟩,r1,r2,r3,r4⟩:=(show Mst g E n F y4 ∧ _ from HK4).1.rw i hin
      obtain ⟨hKe,bu,bc,bn,bd,hKt,hBg⟩:=(show _ ∧ _ ∧ _ ∧ _ ∧ _ ∧ _ ∧ _ from HKK)
      have HC:=mark_ups (K + 1 + 1 + 1 + 1 + 1) (by omega) (by omega) bu r1.2.2.1 r1.2.2.2 (Nat.lt_of_lt_of_le r1.2.1 (show Mst g E n F y4 ∧ _ from HK4).1.Es)
      have HZ : Hid (∀ W',K1 gu y4 W' → Mst g E n F W' ∧ KE B E W W'):=(fun W' k1=>⟨(show Mst g E n F y4 ∧ _ from HK4).1.k1 (by have:=r1.1;omega) k1,(show _ ∧ KE B E W y4 from HK4).2.k1 ⟨by have:=r1.1;omega,r1.2.1⟩ k1⟩ : ∀ W',_)
      have ca : y4.cell? ⟨g,i * 9 + 5,none⟩ = some (.slice (some ⟨gu,0,none⟩) (F i).u (F i).u):=c1
      clear c1 c2 c3 c4 r1 r2 r3 r4 hKe bu bc bn bd hKt hBg HK4
      go_upto_region 15 with (go_at_call 67;refine HC.mono ?_;rintro e m0 ⟨rfl,kq⟩)
      have HM0 : Hid (Mst g E n F m0 ∧ KE B E W m0):=(show ∀ W',K1 gu y4 W' → _ from HZ) m0 kq
      clear HC HZ kq ca
      obtain ⟨gu,gc,gn,gm,⟨c1,c2,c3,c4⟩,r1,r2,r3,r4⟩:=(show Mst g E n F m0 ∧ _ from HM0).1.rw i hin
      obtain ⟨hKe,bu,bc,bn,bd,hKt,hBg⟩:=(show _ ∧ _ ∧ _ ∧ _ ∧ _ ∧ _ ∧ _ from HKK)
      have HC:=mark_vals (K + 1 + 1 + 1 + 1 + 1 + 2 * ((F i).u : Int)) (by omega) (by omega) bc r2.2.2.1 r2.2.2.2 (Nat.lt_of_lt_of_le r2.2.1 (show Mst g E n F m0 ∧ _ from HM0).1.Es)
      have HZ : Hid (∀ W',K1 gc m0 W' → Mst g E n F W' ∧ KE B E W W'):=(fun W' k1=>⟨(show Mst g E n F m0 ∧ _ from HM0).1.k1 (by have:=r2.1;omega) k1,(show _ ∧ KE B E W m0 from HM0).2.k1 ⟨by have:=r2.1;omega,r2.2.1⟩ k1⟩ : ∀ W',_)
      have ca : m0.cell? ⟨g,i * 9 + 6,none⟩ = some (.slice (some ⟨gc,0,none⟩) (F i).c (F i).c):=c2
      clear c1 c2 c3 c4 r1 r2 r3 r4 hKe bu bc bn bd hKt hBg HM0
      go_upto_region 16 with (go_at_call 68;refine HC.mono ?_;rintro e m1 ⟨rfl,kq⟩)
      have HM1 : Hid (Mst g E n F m1 ∧ KE B E W m1):=(show ∀ W',K1 gc m0 W' → _ from HZ) m1 kq
      clear HC HZ kq ca
      obtain ⟨gu,gc,gn,gm,⟨c1,c2,c3,c4⟩,r1,r2,r3,r4⟩:=(show Mst g E n F m1 ∧ _ from HM1).1.rw i hin
      obtain ⟨hKe,bu,bc,bn,bd,hKt,hBg⟩:=(show _ ∧ _ ∧ _ ∧ _ ∧ _ ∧ _ ∧ _ from HKK)
      have HC:=mark_inss (K + 1 + 1 + 1 + 1 + 1 + 2 * ((F i).u : Int) + 5 * ((F i).c : Int)) (by omega) (by omega) bn r3.2.2.1 r3.2.2.2 (Nat.lt_of_lt_of_le r3.2.1 (show Mst g E n F m1 ∧ _ from HM1).1.Es)
      have HZ : Hid (∀ W',K1 gn m1 W' → Mst g E n F W' ∧ KE B E W W'):=(fun W' k1=>⟨(show Mst g E n F m1 ∧ _ from HM1).1.k1 (by have:=r3.1;omega) k1,(show _ ∧ KE B E W m1 from HM1).2.k1 ⟨by have:=r3.1;omega,r3.2.1⟩ k1⟩ : ∀ W',_)
      have ca : m1.cell? ⟨g,i * 9 + 7,none⟩ = some (.slice (some ⟨gn,0,none⟩) (F i).n (F i).n):=c3
      clear c1 c2 c3 c4 r1 r2 r3 r4 hKe bu bc bn bd hKt hBg HM1
      go_upto_region 17 with (go_at_call 69;refine HC.mono ?_;rintro e m2 ⟨rfl,kq⟩)
      have HM2 : Hid (Mst g E n F m2 ∧ KE B E W m2):=(show ∀ W',K1 gn m1 W' → _ from HZ) m2 kq
      clear HC HZ kq ca
      obtain ⟨gu,gc,gn,gm,⟨c1,c2,c3,c4⟩,r1,r2,r3,r4⟩:=(show Mst g E n F m2 ∧ _ from HM2).1.rw i hin
      obtain ⟨hKe,bu,bc,bn,bd,hKt,hBg⟩:=(show _ ∧ _ ∧ _ ∧ _ ∧ _ ∧ _ ∧ _ from HKK)
      have HC:=mark_nams (K + 1 + 1 + 1 + 1 + 1 + 2 * ((F i).u : Int) + 5 * ((F i).c : Int) + 5 * ((F i).n : Int)) (by omega) (by omega) bd r4.2.2.1 r4.2.2.2 (Nat.lt_of_lt_of_le r4.2.1 (show Mst g E n F m2 ∧ _ from HM2).1.Es)
      have HZ : Hid (∀ W',K1 gm m2 W' → Mst g E n F W' ∧ KE B E W W'):=(fun W' k1=>⟨(show Mst g E n F m2 ∧ _ from HM2).1.k1 (by have:=r4.1;omega) k1,(show _ ∧ KE B E W m2 from HM2).2.k1 ⟨by have:=r4.1;omega,r4.2.1⟩ k1⟩ : ∀ W',_)
      have ca : m2.cell? ⟨g,i * 9 + 8,none⟩ = some (.slice (some ⟨gm,0,none⟩) (F i).d (F i).d):=c4
      clear c1 c2 c3 c4 r1 r2 r3 r4 hKe bu bc bn bd hKt hBg HM2
      go_wp2_with (go_at_call 70;refine HC.mono ?_;rintro e m3 ⟨rfl,kq⟩)
      have HM3 : Hid (Mst g E n F m3 ∧ KE B E W m3):=(show ∀ W',K1 gm m2 W' → _ from HZ) m3 kq
      clear HC HZ kq ca
      go_wp2_with fail
      go_roundw
      case rel=>exact ⟨i + 1,by omega,by go_num,by rw [(show _ ∧ _ from HKK).1];congr 1;omega,HM3⟩
      case measure=>simp [intOf];omega
    · obtain rfl : i = n:=by omega
      have hI : ¬ (i : Int) < (i : Int):=by omega
      clear hF hsm hB HH HM
      go_wp2_with fail
      go_ret
      exact ⟨rfl,(show _ ∧ _ from HK).2⟩
theorem mark_code {W : World} {B g E n : Nat} {F : Nat → Pd} (hn : n ≤ 1048576) (hF : ∀ i, i < n → (F i).u ≤ 1048576 ∧ (F i).c ≤ 1048576 ∧ (F i).n ≤ 1048576 ∧ (F i).d ≤ 1048576) (hsm : sm (fun i => 5 + 2 * (F i).u + 5 * (F i).c + 5 * (F i).n + 4 * (F i).d) n ≤ 100000000) (hB : B ≤ g) (hm : Mst g E n F W) :
    Calls Tryz.prog 11 #[.agg #[.slice (some ⟨g,0,none⟩) n n],.int .i64 1] W fun e w'=>∃ k : Nat,e = .returned (.int .i64 (k : Int)) ∧ KE B E W w':=by
  obtain ⟨w1,hw1⟩ : ∃ w1,w1 = W.alloc (.cells #[.slice (some ⟨g,0,none⟩) n n] 30):=⟨_,rfl⟩
  have k1 : Kb 0 W w1:=by rw [hw1];exact kb_alloc _ _ _
  have HC:=mark_pros 1 (by omega) (by omega) hn hF hsm hB (hm.kb k1)
  have HK : Hid (∀ W',KE B E w1 W' → KE B E W W'):=(fun W' k=>⟨k.os.trans k1.os,k.output.trans k1.output,Nat.le_trans k1.size k.size,fun b hb h=>(k.block b (Nat.lt_of_lt_of_le hb k1.size) h).trans (k1.block b (Nat.zero_le _) hb)⟩ : ∀ W',_)
  have HW : Hid (w1 = W.alloc (.cells #[.slice (some ⟨g,0,none⟩) n n] 30)):=hw1
  generalize sm (fun i=>5 + 2 * (F i).u + 5 * (F i).c + 5 * (F i).n + 4 * (F i).d) n = SS at *
  clear hw1 k1 hm hB hsm hF hn
  go_enter Tryz.func11,Tryz.ntmps11
  go_wp2_with fail
  rw [← (show w1 = _ from HW)]
  refine HC.mono ?_
  rintro e w2 ⟨rfl,k2⟩
  have HN : Hid (KE B E W w2):=(show ∀ W',KE B E w1 W' → _ from HK) w2 k2
  clear HC HK k2 HW
  go_wp2_with fail
  go_ret
  refine ⟨1 + SS,?_,HN⟩
  first | rfl | (congr 2;omega) | simp
theorem info5 : (Tryz.prog.info? 5).map (fun i=>(i.zero,i.size,i.bytes)) = some (some (.int .u8 0),1,1):=by kernel_rfl
theorem bc_append (a b : List UInt8) : Lib.byteCells (a ++ b) = Lib.byteCells a ++ Lib.byteCells b:=by simp [Lib.byteCells]
theorem bc_one (l : List UInt8) : ∀ u ∈ Lib.byteCells l,u.oneCell' = true:=by
  intro u hu
  simp only [Lib.byteCells,List.mem_map] at hu
  obtain ⟨a,_,rfl⟩:=hu
  rfl
theorem qr_cells (w : World) (c : Array Value) (t : TypeId) (l : List Value) (hl : c.toList = l) : ∀ j u,l[j]? = some u → (w.alloc (.cells c t)).cell? ((⟨w.heap.size,0,none⟩ : Addr).add j) = some u:=by
  intro j u hu
  exact World.news_of_block (alloc_new w c t) j u (by rw [hl];exact hu)
def QK (w0 : World) (l : List UInt8) (v : Value) (W : World) : Prop:=W.ownsRow w0.heap.size 5 1 v l.length (Lib.byteCells l) ∧ Kb 0 w0 W
theorem QK.call {w W W' : World} {l : List UInt8} {v : Value} (h : QK w l v W) (hb : Kb 0 W W') : QK w l v W':=by
  refine ⟨⟨h.1.1,?_⟩,h.2.trans hb⟩
  rcases h.1.2 with h1 | ⟨g,cap,cur,h1,h2,h3,h4⟩
  · exact .inl h1
  · refine .inr ⟨g,cap,cur,h1,h2,?_,h4⟩
    rw [hb.block g (Nat.zero_le _) (h.1.lt g (by rw [h1];rfl)).2]
    exact h3
theorem QK.add {w W w1 : World} {l m : List UInt8} {v v' : Value} {k : Nat} (h : QK w l v W) (hk : k = m.length) (ho : w1.ownsRow w.heap.size 5 1 v' (l.length + k) (Lib.byteCells l ++ Lib.byteCells m)) (hg : W.grownBy w1 v.ownBlock) : QK w (l ++ m) v' w1:=by
  subst hk
  refine ⟨by rw [List.length_append,bc_append];exact ho,⟨hg.os.trans h.2.os,hg.output.trans h.2.output,Nat.le_trans h.2.size hg.size,fun i _ hi=>?_⟩⟩
  rw [hg.block i (Nat.lt_of_lt_of_le hi h.2.size) (fun e2=>by have:=(h.1.lt i e2.symm).1;omega)]
  exact h.2.block i (Nat.zero_le _) hi
theorem qk_nil (w : World) : QK w [] (.slice none 0 0) w:=⟨World.ownsRow_nil _ _ _ _,Kb.refl _ _⟩
theorem QK.slice {w W : World} {l : List UInt8} {v : Value} (h : QK w l v W) : ∃ p c,v = .slice p l.length c:=by
  rcases h.1.2 with ⟨h1,h2⟩ | ⟨g,cap,cur,h1,_⟩
  · exact ⟨none,0,by rw [h2];exact h1⟩
  · exact ⟨_,cap,h1⟩
theorem sz_len (x : ByteArray) : x.data.toList.length = x.size:=by
  show x.data.toList.length = x.data.size
  simp
def zz (n : Int) : Nat:=if 0 ≤ n then (2 * n).toNat else (-2 * n - 1).toNat
def vb (u : Nat) : List UInt8:=if h : u < 128 then [UInt8.ofNat u] else UInt8.ofNat (128 + u % 128) :: vb (u / 128)
termination_by u
decreasing_by omega
def nb (n : Int) : List UInt8:=vb (zz n)
def tb (x : ByteArray) : List UInt8:=nb (x.size : Int) ++ x.data.toList
def fb (b : Bool) : List UInt8:=[if b then 1 else 0]
def db (g : Nat) : Nat → List UInt8
  | 0=>[]
  | i + 1=>db g i ++ [UInt8.ofNat (g / 2 ^ (56 - 8 * i))]
def cb (v : Vv) : List UInt8:=UInt8.ofNat v.k.toNat :: (if v.k = 1 ∨ v.k = 2 ∨ v.k = 8 then nb v.m else if v.k = 4 then tb v.x else if v.k = 3 then db v.g 8 else [])
def ub (u : Bool × Int) : List UInt8:=fb u.1 ++ nb u.2
def ib (a : Iv) : List UInt8:=nb a.o ++ nb a.a ++ nb a.b ++ nb a.c ++ nb a.d
def mb (a : Mv) : List UInt8:=tb a.x ++ nb a.g ++ nb a.f ++ nb a.t
def ct (f : Nat → List UInt8) : Nat → List UInt8
  | 0=>[]
  | n + 1=>ct f n ++ f n
def lb (f : Nat → List UInt8) (n : Nat) : List UInt8:=nb (n : Int) ++ ct f n
def pb (d : Pd) : List UInt8:=tb d.x ++ nb d.l ++ nb d.m ++ fb d.r ++ nb d.g ++ lb (fun i=>ub (d.U i)) d.u ++ lb (fun i=>cb (d.C i)) d.c ++ lb (fun i=>ib (d.N i)) d.n ++ lb (fun i=>mb (d.D i)) d.d
def eb (F : Nat → Pd) (np : Nat) : List UInt8:=[72,67,1] ++ lb (fun i=>pb (F i)) np
theorem vb_lt {u : Nat} (h : u < 128) : vb u = [UInt8.ofNat u]:=by rw [vb,dif_pos h]
theorem vb_ge {u : Nat} (h : ¬ u < 128) : vb u = UInt8.ofNat (128 + u % 128) :: vb (u / 128):=by rw [vb,dif_neg h]
theorem vb_len : ∀ (k u : Nat),u < 128 ^ (k + 1) → (vb u).length ≤ k + 1:=by
  intro k
  induction k with
  | zero=>intro u h;rw [vb_lt (by simpa using h)];simp
  | succ k ih =>
    intro u h
    by_cases c : u < 128
    · rw [vb_lt c];simp
    · rw [vb_ge c,List.length_cons]
      have:=ih (u / 128) (by rw [Nat.pow_succ] at h;exact Nat.div_lt_of_lt_mul (by rw [Nat.mul_comm];exact h))
      omega
theorem zz_lt {n : Int} (h0 : -9223372036854775808 ≤ n) (h1 : n ≤ 9223372036854775807) : zz n < 18446744073709551616:=by
  unfold zz
  split <;> omega
theorem nb_len {n : Int} (h0 : -9223372036854775808 ≤ n) (h1 : n ≤ 9223372036854775807) : (nb n).length ≤ 10:=by
  have:=zz_lt h0 h1
  refine vb_len 9 _ ?_
  have e : 18446744073709551616 ≤ 128 ^ (9 + 1):=by decide
  omega
theorem tb_len {x : ByteArray} (h : x.size ≤ 9223372036854775807) : (tb x).length ≤ 10 + x.size:=by
  have:=nb_len (n:=(x.size : Int)) (by omega) (by omega)
  unfold tb
  rw [List.length_append,sz_len]
  omega
theorem db_len (g : Nat) : ∀ i,(db g i).length = i:=by
  intro i
  induction i with
  | zero=>rfl
  | succ i ih=>show (db g i ++ _).length = _;rw [List.length_append,ih];rfl
theorem ct_len {f : Nat → List UInt8} {B : Nat} : ∀ n,(∀ i,i < n → (f i).length ≤ B) → (ct f n).length ≤ n * B:=by
  intro n
  induction n with
  | zero=>intro _;exact Nat.zero_le _
  | succ n ih =>
    intro h
    have h1:=ih (fun i hi=>h i (by omega))
    have h2:=h n (by omega)
    show (ct f n ++ f n).length ≤ _
    rw [List.length_append,Nat.succ_mul]
    omega
def AP (w0 W : World) (l : List UInt8) (e : Ending) (w' : World) : Prop:=∃ v',e = .returned v' ∧ QK w0 l v' w' ∧ Lib.OthersKept 5 none W w'
theorem ok_grown {w0 W w1 : World} {l : List UInt8} {v : Value} (h : QK w0 l v W) (hg : W.grownBy w1 v.ownBlock) : Lib.OthersKept 5 none W w1 :=
  (Lib.OthersKept.refl _ _ W).grown hg (fun g e=>by
    rcases h.1.2 with ⟨h1,_⟩ | ⟨g',cap,cur,h1,_,h3,_⟩
    · rw [h1] at e;simp [Value.ownBlock] at e
    · rw [h1] at e
      have : g' = g:=by simpa [Value.ownBlock] using e
      subst this
      exact ⟨_,_,h3⟩)
theorem ok_kb {W W' : World} (k : Kb 0 W W') (b : Option Nat) : Lib.OthersKept 5 b W W':=fun i o hi _ _=>(k.block i (Nat.zero_le _) (Array.getElem?_eq_some_iff.1 hi).1).trans hi
theorem ok_cells {b : Option Nat} {W W' : World} (k : Lib.OthersKept 5 b W W') {g : Nat} {c : Array Value} {t : TypeId} {fz : Nat × Nat} (h : W.heap[g]? = some (.cells c t fz)) (hb : some g ≠ b) (ht : t ≠ 5) : W'.heap[g]? = some (.cells c t fz) :=
  k g _ h hb (fun c' fz' e=>ht (by injection e))
theorem wrap_u64 (x : Int) : IntKind.u64.wrap x = x % 18446744073709551616:=by simp [IntKind.wrap,IntKind.signed,IntKind.bits]
theorem wrap_u8 (x : Int) : IntKind.u8.wrap x = x % 256:=by simp [IntKind.wrap,IntKind.signed,IntKind.bits]
theorem xor_ones (b : Nat) (h : b < 18446744073709551616) : 18446744073709551615 ^^^ b = 18446744073709551615 - b:=by
  have:=congrArg BitVec.toNat (BitVec.allOnes_xor (x:=BitVec.ofNat 64 b))
  rw [BitVec.toNat_not,BitVec.toNat_xor,BitVec.toNat_allOnes,BitVec.toNat_ofNat,Nat.mod_eq_of_lt h] at this
  exact this
theorem max_u64 : IntKind.u64.max = 18446744073709551615:=rfl
theorem and127 (u : Nat) (h : u < 18446744073709551616) : bits .and .u64 (u : Int) 127 = ((u % 128 : Nat) : Int):=by
  have e2 : (127 : Int) = ((127 : Nat) : Int):=rfl
  rw [e2,Go.u64_and_nat _ _ h (by omega)]
  have:=Nat.and_two_pow_sub_one_eq_mod u 7
  rw [show (2 ^ 7 - 1 : Nat) = 127 from rfl] at this
  rw [this]
theorem or128 (r : Nat) (h : r < 128) : bits .or .u64 (r : Int) 128 = ((128 + r : Nat) : Int):=by
  have e:=Go.u64_or_nat r 128 (by omega) (by omega)
  have e2 : ((128 : Nat) : Int) = 128:=rfl
  rw [e2] at e
  have h2:=Nat.two_pow_add_eq_or_of_lt (i:=7) (b:=r) (by omega) 1
  have e3 : (2 ^ 7 * 1 : Nat) = 128:=by decide
  rw [e3] at h2
  rw [e,Nat.or_comm,← h2]
theorem zz_neg {n : Int} (h0 : -9223372036854775808 ≤ n) (hn : n < 0) : bits BinOp.xor IntKind.u64 IntKind.u64.max (18446744073709551616 + 2 * n) = (zz n : Int):=by
  obtain ⟨b,hb⟩ : ∃ b : Nat,18446744073709551616 + 2 * n = (b : Int):=⟨(18446744073709551616 + 2 * n).toNat,by omega⟩
  rw [hb,max_u64,show (18446744073709551615 : Int) = ((18446744073709551615 : Nat) : Int) from rfl,Go.u64_xor_nat _ _ (by omega) (by omega),xor_ones b (by omega)]
  unfold zz
  rw [if_neg (by omega)]
  omega
end Go.Proofs.YtnmeemjoodoalaaGreatDoor.Fo
