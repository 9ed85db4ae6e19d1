import Derived.Test.YtfpidccjcemcjaaGreatMZsq
import Derived.Test.YtfpidccjcemcjaaGreatMOad
import Derived.Test.YtfpidccjcemcjaaGreatMBaa
import Derived.Test.YtfpidccjcemcjaaGreatMBab
set_option maxRecDepth 100000
set_option maxHeartbeats 16000000
namespace Go.Proofs.YtfpidccjcemcjaaGreat.Fo
open Go.ChangeShapes Go.WideShapes Go.ChangeAt Go.RowKit
set_option linter.unusedVariables false
set_option maxRecDepth 100000
theorem mark_nodes {W : World} {S : Nat → Prop} {g B E G n : Nat} {N : Nat → Nd} (k : Int) (h1 : 1 ≤ k) (hn : n ≤ 1048576) (hm : Nds S g B E W G n N) (hE : E ≤ W.heap.size) (hN : ∀ j, j < n → (N j).p ≤ 1048576 ∧ (N j).q ≤ 1048576) (hsm : k + (sm (fun j => 6 + (N j).p + (N j).q) n : Int) ≤ 200000000) :
  Calls Tryz.prog 32 #[.slice (some ⟨G,0,none⟩) n n,.int .i64 k] W fun e w'=>e = .returned (.int .i64 (k+(sm (fun j=>6+(N j).p+(N j).q) n:Int)))∧Km S g B E W w':=by
 have hst:=hst0
 have HH:Hid (Nds S g B E W G n N∧E≤W.heap.size∧∀ j,j < n→(N j).p≤1048576∧(N j).q≤1048576):=(⟨hm,hE,hN⟩:_∧_)
 have HSM:Hid (k+(sm (fun j=>6+(N j).p+(N j).q) n:Int)≤200000000):=hsm
 have hnI:(n:Int)≤1048576:=by omega
 clear hm hE hN hn hsm
 go_enter Tryz.func32,Tryz.ntmps32
 go_wp2_with fail
 go_loopw [1,5] (fun s1 s5 wr=>∃ i:Nat,i≤n∧s5 = .int .i64 (i:Int)∧s1 = .int .i64 (k+(sm (fun j=>6+(N j).p+(N j).q) i:Int))∧Hid (Km S g B E W wr)) (fun _ s5 _=>n - (intOf s5).toNat)
 case atStart=>exact ⟨0,by omega,rfl,by simp [sm],Km.refl _ _ _ _ _⟩
 case round =>
  obtain ⟨i,hi,rfl,rfl,HKwr⟩:=hrel
  by_cases hin:i < n
  ·have hI:(i:Int) < (n:Int):=by omega
   have hsm:=(uh HSM)
   have hmo:=sm_mono (fun j=>6+(N j).p+(N j).q) (show i+1≤n from hin)
   have hsu:sm (fun j=>6+(N j).p+(N j).q) (i+1)=sm (fun j=>6+(N j).p+(N j).q) i+(6+(N i).p+(N i).q):=rfl
   obtain ⟨K,hK⟩:∃ K:Int,K=k+(sm (fun j=>6+(N j).p+(N j).q) i:Int):=⟨_,rfl⟩
   have hK1 : 1≤K:=by omega
   have hK2:K+6+((N i).p:Int)+((N i).q:Int)≤200000000:=by omega
   have hKb:K≤200000000:=by omega
   have HKK:Hid (k+(sm (fun j=>6+(N j).p+(N j).q) (i+1):Int)=K+6+((N i).p:Int)+((N i).q:Int)∧K+6+((N i).p:Int)+((N i).q:Int)≤200000000∧i*8+8≤n*8):=(⟨by rw [hsu,hK];omega,hK2,by omega⟩:_∧_)
   rw [← hK]
   clear hsm hmo hsu hK hK2
   obtain ⟨u0,cu0⟩:=(show Nds S g B E wr G n N from (uh HH).1.km (uh HH).2.1 (uh HKwr)).ce (i*8+0) (by have:=(uh HKK).2.2;omega)
   have cf0:wr.frozen? ⟨G,i*8+0,none⟩=false:=(show Nds S g B E wr G n N from (uh HH).1.km (uh HH).2.1 (uh HKwr)).fz _
   have HST:Hid (∀ (W':World) (v:Value),Kb 0 wr W'→Km S g B E W (W'.setCell ⟨G,i*8,none⟩ v)):=(fun W' v k'=>(Km.trans (uh HKwr) (Km.of_kb k')).trans (Km.of_set ⟨(show Nds S g B E wr G n N from (uh HH).1.km (uh HH).2.1 (uh HKwr)).lo,(show Nds S g B E wr G n N from (uh HH).1.km (uh HH).2.1 (uh HKwr)).hi⟩ (fun e=>absurd e (show Nds S g B E wr G n N from (uh HH).1.km (uh HH).2.1 (uh HKwr)).ng) (fun _=>by omega)):∀ (W':World) (v:Value),_)
   rw [Nat.add_zero] at cu0 cf0
   go_upto_region 5 with fail
   generalize hy:World.setCell wr _ _=y0
   have HKy0:Hid (Km S g B E W y0):=by rw [← hy];exact (uh HST) wr _ (Kb.refl _ _)
   clear hy cu0 cf0 u0 HKwr HST
   obtain ⟨u1,cu1⟩:=(show Nds S g B E y0 G n N from (uh HH).1.km (uh HH).2.1 (uh HKy0)).ce (i*8+1) (by have:=(uh HKK).2.2;omega)
   have cf1:y0.frozen? ⟨G,i*8+1,none⟩=false:=(show Nds S g B E y0 G n N from (uh HH).1.km (uh HH).2.1 (uh HKy0)).fz _
   have HST:Hid (∀ (W':World) (v:Value),Kb 0 y0 W'→Km S g B E W (W'.setCell ⟨G,i*8+1,none⟩ v)):=(fun W' v k'=>(Km.trans (uh HKy0) (Km.of_kb k')).trans (Km.of_set ⟨(show Nds S g B E y0 G n N from (uh HH).1.km (uh HH).2.1 (uh HKy0)).lo,(show Nds S g B E y0 G n N from (uh HH).1.km (uh HH).2.1 (uh HKy0)).hi⟩ (fun e=>absurd e (show Nds S g B E y0 G n N from (uh HH).1.km (uh HH).2.1 (uh HKy0)).ng) (fun _=>by omega)):∀ (W':World) (v:Value),_)
   go_upto_region 7 with fail
   generalize hy:World.setCell y0 _ _=y1
   have HKy1:Hid (Km S g B E W y1):=by rw [← hy];exact (uh HST) y0 _ (Kb.refl _ _)
   clear hy cu1 cf1 u1 HKy0 HST
   obtain ⟨u2,cu2⟩:=(show Nds S g B E y1 G n N from (uh HH).1.km (uh HH).2.1 (uh HKy1)).ce (i*8+2) (by have:=(uh HKK).2.2;omega)
   have cf2:y1.frozen? ⟨G,i*8+2,none⟩=false:=(show Nds S g B E y1 G n N from (uh HH).1.km (uh HH).2.1 (uh HKy1)).fz _
   have HST:Hid (∀ (W':World) (v:Value),Kb 0 y1 W'→Km S g B E W (W'.setCell ⟨G,i*8+2,none⟩ v)):=(fun W' v k'=>(Km.trans (uh HKy1) (Km.of_kb k')).trans (Km.of_set ⟨(show Nds S g B E y1 G n N from (uh HH).1.km (uh HH).2.1 (uh HKy1)).lo,(show Nds S g B E y1 G n N from (uh HH).1.km (uh HH).2.1 (uh HKy1)).hi⟩ (fun e=>absurd e (show Nds S g B E y1 G n N from (uh HH).1.km (uh HH).2.1 (uh HKy1)).ng) (fun _=>by omega)):∀ (W':World) (v:Value),_)
   go_upto_region 9 with fail
   generalize hy:World.setCell y1 _ _=y2
   have HKy2:Hid (Km S g B E W y2):=by rw [← hy];exact (uh HST) y1 _ (Kb.refl _ _)
   clear hy cu2 cf2 u2 HKy1 HST
   obtain ⟨u3,cu3⟩:=(show Nds S g B E y2 G n N from (uh HH).1.km (uh HH).2.1 (uh HKy2)).ce (i*8+3) (by have:=(uh HKK).2.2;omega)
   have cf3:y2.frozen? ⟨G,i*8+3,none⟩=false:=(show Nds S g B E y2 G n N from (uh HH).1.km (uh HH).2.1 (uh HKy2)).fz _
   have HST:Hid (∀ (W':World) (v:Value),Kb 0 y2 W'→Km S g B E W (W'.setCell ⟨G,i*8+3,none⟩ v)):=(fun W' v k'=>(Km.trans (uh HKy2) (Km.of_kb k')).trans (Km.of_set ⟨(show Nds S g B E y2 G n N from (uh HH).1.km (uh HH).2.1 (uh HKy2)).lo,(show Nds S g B E y2 G n N from (uh HH).1.km (uh HH).2.1 (uh HKy2)).hi⟩ (fun e=>absurd e (show Nds S g B E y2 G n N from (uh HH).1.km (uh HH).2.1 (uh HKy2)).ng) (fun _=>by omega)):∀ (W':World) (v:Value),_)
   go_upto_region 11 with fail
   generalize hy:World.setCell y2 _ _=y3
   have HKy3:Hid (Km S g B E W y3):=by rw [← hy];exact (uh HST) y2 _ (Kb.refl _ _)
   clear hy cu3 cf3 u3 HKy2 HST
   obtain ⟨u4,cu4⟩:=(show Nds S g B E y3 G n N from (uh HH).1.km (uh HH).2.1 (uh HKy3)).ce (i*8+4) (by have:=(uh HKK).2.2;omega)
   have cf4:y3.frozen? ⟨G,i*8+4,none⟩=false:=(show Nds S g B E y3 G n N from (uh HH).1.km (uh HH).2.1 (uh HKy3)).fz _
   have HST:Hid (∀ (W':World) (v:Value),Kb 0 y3 W'→Km S g B E W (W'.setCell ⟨G,i*8+4,none⟩ v)):=(fun W' v k'=>(Km.trans (uh HKy3) (Km.of_kb k')).trans (Km.of_set ⟨(show Nds S g B E y3 G n N from (uh HH).1.km (uh HH).2.1 (uh HKy3)).lo,(show Nds S g B E y3 G n N from (uh HH).1.km (uh HH).2.1 (uh HKy3)).hi⟩ (fun e=>absurd e (show Nds S g B E y3 G n N from (uh HH).1.km (uh HH).2.1 (uh HKy3)).ng) (fun _=>by omega)):∀ (W':World) (v:Value),_)
   go_upto_region 13 with fail
   generalize hy:World.setCell y3 _ _=y4
   have HKy4:Hid (Km S g B E W y4):=by rw [← hy];exact (uh HST) y3 _ (Kb.refl _ _)
   clear hy cu4 cf4 u4 HKy3 HST
   obtain ⟨u5,cu5⟩:=(show Nds S g B E y4 G n N from (uh HH).1.km (uh HH).2.1 (uh HKy4)).ce (i*8+5) (by have:=(uh HKK).2.2;omega)
   have cf5:y4.frozen? ⟨G,i*8+5,none⟩=false:=(show Nds S g B E y4 G n N from (uh HH).1.km (uh HH).2.1 (uh HKy4)).fz _
   have HST:Hid (∀ (W':World) (v:Value),Kb 0 y4 W'→Km S g B E W (W'.setCell ⟨G,i*8+5,none⟩ v)):=(fun W' v k'=>(Km.trans (uh HKy4) (Km.of_kb k')).trans (Km.of_set ⟨(show Nds S g B E y4 G n N from (uh HH).1.km (uh HH).2.1 (uh HKy4)).lo,(show Nds S g B E y4 G n N from (uh HH).1.km (uh HH).2.1 (uh HKy4)).hi⟩ (fun e=>absurd e (show Nds S g B E y4 G n N from (uh HH).1.km (uh HH).2.1 (uh HKy4)).ng) (fun _=>by omega)):∀ (W':World) (v:Value),_)
   have HT:=mark_text (K+1+1+1+1+1).toNat (by omega) (by omega) y4
   rw [Int.toNat_of_nonneg (by omega)] at HT
   generalize (⟨#[109]⟩ ++ mtl (K+1+1+1+1+1).toNat ⟨#[]⟩:ByteArray)=tx5 at HT
   have HCU:Hid (∀ W',Below y4.heap.size y4 W'→W'.cell? ⟨G,i*8+5,none⟩=some u5∧W'.frozen? ⟨G,i*8+5,none⟩=false∧Kb 0 y4 W'):=(fun W' b=>⟨(Kb.of_below b 0).cell cu5,((Kb.of_below b 0).frozen zq (World.block_lt_of_cell? _ _ cu5)).trans cf5,Kb.of_below b 0⟩:∀ W',_)
   clear cu5 cf5
   go_upto_region 15 with (go_at_call 29;refine HT.mono ?_;rintro e z5 ⟨rfl,bz⟩;obtain ⟨cu5,cf5,kz⟩:=(uh HCU) z5 bz)
   generalize hy:World.setCell z5 _ _=y5
   have HKy5:Hid (Km S g B E W y5):=by rw [← hy];exact (uh HST) z5 _ kz
   clear hy cu5 cf5 u5 HKy4 HST HT bz HCU kz
   obtain ⟨vr,vk,c1,c2,r1,r2⟩:=(show Nds S g B E y5 G n N from (uh HH).1.km (uh HH).2.1 (uh HKy5)).rw i hin
   have hes:E≤y5.heap.size:=Nat.le_trans (uh HH).2.1 (uh HKy5).size
   obtain ⟨bb,rfl,l1,l2,l3,l4,l5,l6⟩:=r1
   have HC:=mark_ints1 (K+1+1+1+1+1+1) (by omega) (by have:=(uh HKK).2.1;omega) ((uh HH).2.2 i hin).1 l5 l6 (Nat.lt_of_lt_of_le l2 hes)
   have HZ:Hid (∀ W',K1 bb y5 W'→Km S g B E W W'):=(fun W' k1=>(uh HKy5).trans (Km.of_k1 ⟨l1,l2⟩ l3 l4 k1):∀ W',_)
   have ca:=c1
   clear c1 c2 r2 hes l1 l2 l3 l4 l5 l6 HKy5
   go_upto_region 17 with (go_at_call 50;refine HC.mono ?_;rintro e m0 ⟨rfl,kq⟩)
   have HKm0:Hid (Km S g B E W m0):=(uh HZ) m0 kq
   clear HC HZ kq ca
   obtain ⟨vr,vk,c1,c2,r1,r2⟩:=(show Nds S g B E m0 G n N from (uh HH).1.km (uh HH).2.1 (uh HKm0)).rw i hin
   have hes:E≤m0.heap.size:=Nat.le_trans (uh HH).2.1 (uh HKm0).size
   obtain ⟨bb,rfl,l1,l2,l3,l4,l5,l6⟩:=r2
   have HC:=mark_ints1 (K+1+1+1+1+1+1+((N i).p:Int)) (by omega) (by have:=(uh HKK).2.1;omega) ((uh HH).2.2 i hin).2 l5 l6 (Nat.lt_of_lt_of_le l2 hes)
   have HZ:Hid (∀ W',K1 bb m0 W'→Km S g B E W W'):=(fun W' k1=>(uh HKm0).trans (Km.of_k1 ⟨l1,l2⟩ l3 l4 k1):∀ W',_)
   have ca:=c2
   clear c1 c2 r1 hes l1 l2 l3 l4 l5 l6 HKm0
   go_wp2_with (go_at_call 50;refine HC.mono ?_;rintro e m1 ⟨rfl,kq⟩)
   have HKm1:Hid (Km S g B E W m1):=(uh HZ) m1 kq
   clear HC HZ kq ca
   go_wp2_with fail
   go_roundw
   case rel=>exact ⟨i+1,by omega,by go_num,by rw [(uh HKK).1];congr 1;omega,HKm1⟩
   case measure=>simp [intOf];omega
  ·obtain rfl:i=n:=by omega
   have hI:¬ (i:Int) < (i:Int):=by omega
   clear HH HSM
   go_wp2_with fail
   go_ret
   exact ⟨rfl,HKwr⟩
theorem mark_fns {W : World} {S : Nat → Prop} {g B E nf : Nat} {F : Nat → Fd} (k : Int) (h1 : 1 ≤ k) (hn : nf ≤ 1048576) (hm : Ust S g B E nf F W) (hN : ∀ i, i < nf → (F i).p ≤ 1048576 ∧ (F i).u ≤ 1048576 ∧ (F i).n ≤ 1048576 ∧ ∀ j, j < (F i).n → ((F i).N j).p ≤ 1048576 ∧ ((F i).N j).q ≤ 1048576) (hsm : k + (sm (fun i => 4 + (F i).p + 2 * (F i).u + sm (fun j => 6 + ((F i).N j).p + ((F i).N j).q) (F i).n) nf : Int) ≤ 200000000) :
  Calls Tryz.prog 20 #[.slice (some ⟨g,0,none⟩) nf nf,.int .i64 k] W fun e w'=>e = .returned (.int .i64 (k+(sm (fun i=>4+(F i).p+2*(F i).u+sm (fun j=>6+((F i).N j).p+((F i).N j).q) (F i).n) nf:Int)))∧Km S g B E W w':=by
 have HH:Hid (Ust S g B E nf F W∧∀ i,i < nf→(F i).p≤1048576∧(F i).u≤1048576∧(F i).n≤1048576∧∀ j,j < (F i).n→((F i).N j).p≤1048576∧((F i).N j).q≤1048576):=(⟨hm,hN⟩:_∧_)
 have HSM:Hid (k+(sm (fun i=>4+(F i).p+2*(F i).u+sm (fun j=>6+((F i).N j).p+((F i).N j).q) (F i).n) nf:Int)≤200000000):=hsm
 have hnI:(nf:Int)≤1048576:=by omega
 clear hm hN hn hsm
 go_enter Tryz.func20,Tryz.ntmps20
 go_wp2_with fail
 go_loopw [1,5] (fun s1 s5 wr=>∃ i:Nat,i≤nf∧s5 = .int .i64 (i:Int)∧s1 = .int .i64 (k+(sm (fun i=>4+(F i).p+2*(F i).u+sm (fun j=>6+((F i).N j).p+((F i).N j).q) (F i).n) i:Int))∧Hid (Km S g B E W wr)) (fun _ s5 _=>nf - (intOf s5).toNat)
 case atStart=>exact ⟨0,by omega,rfl,by simp [sm],Km.refl _ _ _ _ _⟩
 case round =>
  obtain ⟨i,hi,rfl,rfl,HKwr⟩:=hrel
  by_cases hin:i < nf
  ·have hI:(i:Int) < (nf:Int):=by omega
   have hsm:=(uh HSM)
   have hmo:=sm_mono (fun i=>4+(F i).p+2*(F i).u+sm (fun j=>6+((F i).N j).p+((F i).N j).q) (F i).n) (show i+1≤nf from hin)
   have hsu:sm (fun i=>4+(F i).p+2*(F i).u+sm (fun j=>6+((F i).N j).p+((F i).N j).q) (F i).n) (i+1)=sm (fun i=>4+(F i).p+2*(F i).u+sm (fun j=>6+((F i).N j).p+((F i).N j).q) (F i).n) i+(4+(F i).p+2*(F i).u+sm (fun j=>6+((F i).N j).p+((F i).N j).q) (F i).n):=rfl
   obtain ⟨K,hK⟩:∃ K:Int,K=k+(sm (fun i=>4+(F i).p+2*(F i).u+sm (fun j=>6+((F i).N j).p+((F i).N j).q) (F i).n) i:Int):=⟨_,rfl⟩
   have hK1 : 1≤K:=by omega
   have hK2:K+4+((F i).p:Int)+2*((F i).u:Int)+(sm (fun j=>6+((F i).N j).p+((F i).N j).q) (F i).n:Int)≤200000000:=by omega
   have hKb:K≤200000000:=by omega
   have HKK:Hid (k+(sm (fun i=>4+(F i).p+2*(F i).u+sm (fun j=>6+((F i).N j).p+((F i).N j).q) (F i).n) (i+1):Int)=K+4+((F i).p:Int)+2*((F i).u:Int)+(sm (fun j=>6+((F i).N j).p+((F i).N j).q) (F i).n:Int)∧K+4+((F i).p:Int)+2*((F i).u:Int)+(sm (fun j=>6+((F i).N j).p+((F i).N j).q) (F i).n:Int)≤200000000∧i*7+7≤nf*7):=(⟨by rw [hsu,hK];omega,hK2,by omega⟩:_∧_)
   rw [← hK]
   clear hsm hmo hsu hK hK2
   obtain ⟨u0,cu0⟩:=(show Ust S g B E nf F wr from (uh HH).1.km (uh HKwr)).ce (i*7+0) (by have:=(uh HKK).2.2;omega)
   have cf0:wr.frozen? ⟨g,i*7+0,none⟩=false:=(show Ust S g B E nf F wr from (uh HH).1.km (uh HKwr)).fz _
   have HST:Hid (∀ (W':World) (v:Value),Kb 0 wr W'→Km S g B E W (W'.setCell ⟨g,i*7,none⟩ v)):=(fun W' v k'=>(Km.trans (uh HKwr) (Km.of_kb k')).trans (Km.of_set ⟨(show Ust S g B E nf F wr from (uh HH).1.km (uh HKwr)).gB,(show Ust S g B E nf F wr from (uh HH).1.km (uh HKwr)).gE⟩ (fun _=>by omega) (fun q=>absurd q (show Ust S g B E nf F wr from (uh HH).1.km (uh HKwr)).ns)):∀ (W':World) (v:Value),_)
   rw [Nat.add_zero] at cu0 cf0
   have HT:=mark_text (K).toNat (by omega) (by omega) wr
   rw [Int.toNat_of_nonneg (by omega)] at HT
   generalize (⟨#[109]⟩ ++ mtl (K).toNat ⟨#[]⟩:ByteArray)=tx0 at HT
   have HCU:Hid (∀ W',Below wr.heap.size wr W'→W'.cell? ⟨g,i*7,none⟩=some u0∧W'.frozen? ⟨g,i*7,none⟩=false∧Kb 0 wr W'):=(fun W' b=>⟨(Kb.of_below b 0).cell cu0,((Kb.of_below b 0).frozen zq (World.block_lt_of_cell? _ _ cu0)).trans cf0,Kb.of_below b 0⟩:∀ W',_)
   clear cu0 cf0
   go_upto_region 5 with (go_at_call 29;refine HT.mono ?_;rintro e z0 ⟨rfl,bz⟩;obtain ⟨cu0,cf0,kz⟩:=(uh HCU) z0 bz)
   generalize hy:World.setCell z0 _ _=y0
   have HKy0:Hid (Km S g B E W y0):=by rw [← hy];exact (uh HST) z0 _ kz
   clear hy cu0 cf0 u0 HKwr HST HT bz HCU kz
   obtain ⟨u1,cu1⟩:=(show Ust S g B E nf F y0 from (uh HH).1.km (uh HKy0)).ce (i*7+1) (by have:=(uh HKK).2.2;omega)
   have cf1:y0.frozen? ⟨g,i*7+1,none⟩=false:=(show Ust S g B E nf F y0 from (uh HH).1.km (uh HKy0)).fz _
   have HST:Hid (∀ (W':World) (v:Value),Kb 0 y0 W'→Km S g B E W (W'.setCell ⟨g,i*7+1,none⟩ v)):=(fun W' v k'=>(Km.trans (uh HKy0) (Km.of_kb k')).trans (Km.of_set ⟨(show Ust S g B E nf F y0 from (uh HH).1.km (uh HKy0)).gB,(show Ust S g B E nf F y0 from (uh HH).1.km (uh HKy0)).gE⟩ (fun _=>by omega) (fun q=>absurd q (show Ust S g B E nf F y0 from (uh HH).1.km (uh HKy0)).ns)):∀ (W':World) (v:Value),_)
   go_upto_region 7 with fail
   generalize hy:World.setCell y0 _ _=y1
   have HKy1:Hid (Km S g B E W y1):=by rw [← hy];exact (uh HST) y0 _ (Kb.refl _ _)
   clear hy cu1 cf1 u1 HKy0 HST
   obtain ⟨u2,cu2⟩:=(show Ust S g B E nf F y1 from (uh HH).1.km (uh HKy1)).ce (i*7+2) (by have:=(uh HKK).2.2;omega)
   have cf2:y1.frozen? ⟨g,i*7+2,none⟩=false:=(show Ust S g B E nf F y1 from (uh HH).1.km (uh HKy1)).fz _
   have HST:Hid (∀ (W':World) (v:Value),Kb 0 y1 W'→Km S g B E W (W'.setCell ⟨g,i*7+2,none⟩ v)):=(fun W' v k'=>(Km.trans (uh HKy1) (Km.of_kb k')).trans (Km.of_set ⟨(show Ust S g B E nf F y1 from (uh HH).1.km (uh HKy1)).gB,(show Ust S g B E nf F y1 from (uh HH).1.km (uh HKy1)).gE⟩ (fun _=>by omega) (fun q=>absurd q (show Ust S g B E nf F y1 from (uh HH).1.km (uh HKy1)).ns)):∀ (W':World) (v:Value),_)
   go_upto_region 9 with fail
   generalize hy:World.setCell y1 _ _=y2
   have HKy2:Hid (Km S g B E W y2):=by rw [← hy];exact (uh HST) y1 _ (Kb.refl _ _)
   clear hy cu2 cf2 u2 HKy1 HST
   obtain ⟨u3,cu3⟩:=(show Ust S g B E nf F y2 from (uh HH).1.km (uh HKy2)).ce (i*7+3) (by have:=(uh HKK).2.2;omega)
   have cf3:y2.frozen? ⟨g,i*7+3,none⟩=false:=(show Ust S g B E nf F y2 from (uh HH).1.km (uh HKy2)).fz _
   have HST:Hid (∀ (W':World) (v:Value),Kb 0 y2 W'→Km S g B E W (W'.setCell ⟨g,i*7+3,none⟩ v)):=(fun W' v k'=>(Km.trans (uh HKy2) (Km.of_kb k')).trans (Km.of_set ⟨(show Ust S g B E nf F y2 from (uh HH).1.km (uh HKy2)).gB,(show Ust S g B E nf F y2 from (uh HH).1.km (uh HKy2)).gE⟩ (fun _=>by omega) (fun q=>absurd q (show Ust S g B E nf F y2 from (uh HH).1.km (uh HKy2)).ns)):∀ (W':World) (v:Value),_)
   go_upto_region 11 with fail
   generalize hy:World.setCell y2 _ _=y3
   have HKy3:Hid (Km S g B E W y3):=by rw [← hy];exact (uh HST) y2 _ (Kb.refl _ _)
   clear hy cu3 cf3 u3 HKy2 HST
   obtain ⟨vv,vu,G,⟨c1,c2,c3⟩,r1,r2,r3⟩:=(show Ust S g B E nf F y3 from (uh HH).1.km (uh HKy3)).rw i hin
   have hes:E≤y3.heap.size:=(show Ust S g B E nf F y3 from (uh HH).1.km (uh HKy3)).Es
   obtain ⟨bb,rfl,l1,l2,l3,l4,l5,l6⟩:=r1
   have HC:=mark_strs1 (K+1+1+1+1) (by omega) (by have:=(uh HKK).2.1;omega) ((uh HH).2 i hin).1 l5 l6 (Nat.lt_of_lt_of_le l2 hes)
   have HZ:Hid (∀ W',K1 bb y3 W'→Km S g B E W W'):=(fun W' k1=>(uh HKy3).trans (Km.of_k1 ⟨l1,l2⟩ l3 l4 k1):∀ W',_)
   have ca:=c1
   clear c1 c2 c3 r2 r3 hes l1 l2 l3 l4 l5 l6 HKy3
   go_upto_region 13 with (go_at_call 30;refine HC.mono ?_;rintro e m0 ⟨rfl,kq⟩)
   have HKm0:Hid (Km S g B E W m0):=(uh HZ) m0 kq
   clear HC HZ kq ca
   obtain ⟨vv,vu,G,⟨c1,c2,c3⟩,r1,r2,r3⟩:=(show Ust S g B E nf F m0 from (uh HH).1.km (uh HKm0)).rw i hin
   have hes:E≤m0.heap.size:=(show Ust S g B E nf F m0 from (uh HH).1.km (uh HKm0)).Es
   obtain ⟨bb,rfl,l1,l2,l3,l4,l5,l6⟩:=r2
   have HC:=mark_ups (K+1+1+1+1+((F i).p:Int)) (by omega) (by have:=(uh HKK).2.1;omega) ((uh HH).2 i hin).2.1 l5 l6 (Nat.lt_of_lt_of_le l2 hes)
   have HZ:Hid (∀ W',K1 bb m0 W'→Km S g B E W W'):=(fun W' k1=>(uh HKm0).trans (Km.of_k1 ⟨l1,l2⟩ l3 l4 k1):∀ W',_)
   have ca:=c2
   clear c1 c2 c3 r1 r3 hes l1 l2 l3 l4 l5 l6 HKm0
   go_upto_region 14 with (go_at_call 31;refine HC.mono ?_;rintro e m1 ⟨rfl,kq⟩)
   have HKm1:Hid (Km S g B E W m1):=(uh HZ) m1 kq
   clear HC HZ kq ca
   obtain ⟨vv,vu,G,⟨c1,c2,c3⟩,r1,r2,r3⟩:=(show Ust S g B E nf F m1 from (uh HH).1.km (uh HKm1)).rw i hin
   have HC:=mark_nodes (K+1+1+1+1+((F i).p:Int)+2*((F i).u:Int)) (by omega) ((uh HH).2 i hin).2.2.1 r3 (show Ust S g B E nf F m1 from (uh HH).1.km (uh HKm1)).Es ((uh HH).2 i hin).2.2.2 (by have:=(uh HKK).2.1;omega)
   have HZ:Hid (∀ W',Km S g B E m1 W'→Km S g B E W W'):=(fun W' k1=>(uh HKm1).trans k1:∀ W',_)
   have ca:=c3
   clear c1 c2 c3 r1 r2 r3 HKm1
   obtain ⟨sn,hsn⟩:∃ sn:Int,sn=(sm (fun j=>6+((F i).N j).p+((F i).N j).q) (F i).n:Int):=⟨_,rfl⟩
   rw [← hsn] at HC HKK
   clear hsn
   go_wp2_with (go_at_call 32;refine HC.mono ?_;rintro e m2 ⟨rfl,kq⟩)
   have HKm2:Hid (Km S g B E W m2):=(uh HZ) m2 kq
   clear HC HZ kq ca
   go_wp2_with fail
   go_roundw
   case rel=>exact ⟨i+1,by omega,by go_num,by rw [(uh HKK).1];congr 1;omega,HKm2⟩
   case measure=>simp [intOf];omega
  ·obtain rfl:i=nf:=by omega
   have hI:¬ (i:Int) < (i:Int):=by omega
   clear HH HSM
   go_wp2_with fail
   go_ret
   exact ⟨rfl,HKwr⟩
theorem mark_unit {W : World} {S : Nat → Prop} {g B E nf : Nat} {F : Nat → Fd} (hn : nf ≤ 1048576) (hm : Ust S g B E nf F W) (hN : ∀ i, i < nf → (F i).p ≤ 1048576 ∧ (F i).u ≤ 1048576 ∧ (F i).n ≤ 1048576 ∧ ∀ j, j < (F i).n → ((F i).N j).p ≤ 1048576 ∧ ((F i).N j).q ≤ 1048576) (hsm : sm (fun i => 4 + (F i).p + 2 * (F i).u + sm (fun j => 6 + ((F i).N j).p + ((F i).N j).q) (F i).n) nf ≤ 100000000) :
  Calls Tryz.prog 10 #[.agg #[.slice (some ⟨g,0,none⟩) nf nf],.int .i64 1] W fun e w'=>∃ k:Nat,e = .returned (.int .i64 (k:Int))∧Km S g B E W w':=by
 obtain ⟨w1,hw1⟩:∃ w1,w1=W.alloc (.cells #[.slice (some ⟨g,0,none⟩) nf nf] 30):=⟨_,rfl⟩
 have k1:Kb 0 W w1:=by rw [hw1];exact kb_alloc _ _ _
 have HC:=mark_fns 1 (by omega) hn (hm.km (Km.of_kb k1)) hN (by omega)
 have HK:Hid (∀ W',Km S g B E w1 W'→Km S g B E W W'):=(fun W' k=>(Km.of_kb k1).trans k:∀ W',_)
 have HW:Hid (w1=W.alloc (.cells #[.slice (some ⟨g,0,none⟩) nf nf] 30)):=hw1
 generalize sm (fun i=>4+(F i).p+2*(F i).u+sm (fun j=>6+((F i).N j).p+((F i).N j).q) (F i).n) nf=SS at *
 clear hw1 k1 hm hsm hN hn
 go_enter Tryz.func10,Tryz.ntmps10
 go_wp2_with fail
 rw [← (uh HW)]
 refine HC.mono ?_
 rintro e w2 ⟨rfl,k2⟩
 have HN:Hid (Km S g B E W w2):=(uh HK) w2 k2
 clear HC HK k2 HW
 go_wp2_with fail
 go_ret
 refine ⟨1+SS,?_,HN⟩
 first | rfl | (congr 2;omega) | simp
theorem eq_bools {va vb : Value} {n : Nat} {A : Nat → Bool} (w : World) (ha : RowV w va n (fun i => .bool (A i))) (hb : RowV w vb n (fun i => .bool (A i))) (hn : n ≤ 1048576) :
  Calls Tryz.prog 8 #[va,vb] w fun e w'=>e = .returned (.bool true)∧∃ d,w'=w.drewN d:=by
 obtain ⟨pa,ca,rfl,ha2⟩:=ha
 obtain ⟨pb,cb,rfl,hb2⟩:=hb
 have HA:Hid ((0 < n→∃ a:Addr,pa=some a∧n≤ca∧∀ i,i < n→w.cell? (a.add i)=some (.bool (A i)))∧(0 < n→∃ a:Addr,pb=some a∧n≤cb∧∀ i,i < n→w.cell? (a.add i)=some (.bool (A i)))):=(⟨ha2,hb2⟩:_∧_)
 have hnI:(n:Int)≤1048576:=by omega
 clear ha2 hb2 hn
 go_enter Tryz.func8,Tryz.ntmps8
 go_wp2_with fail
 go_loopw [5] (fun s5 wr=>∃ i d:Nat,s5 = .int .i64 (i:Int)∧i≤n∧wr=w.drewN d) (fun s5 _=>n - (intOf s5).toNat)
 case atStart=>exact ⟨0,0,rfl,Nat.zero_le _,rfl⟩
 case round =>
  obtain ⟨i,d,rfl,hin,rfl⟩:=hrel
  rcases Nat.lt_or_ge i n with hi | hi
  ·obtain ⟨a,rfl,hca,hra⟩:=HA.1 (by omega)
   obtain ⟨b,rfl,hcb,hrb⟩:=HA.2 (by omega)
   have hiI:(i:Int) < (n:Int):=by omega
   have qa:=hra i hi
   have qb:=hrb i hi
   clear hra hrb HA hin
   generalize A i=x at *
   go_wp2_with fail
   go_quiet (skip)
   go_wp2_with fail
   go_roundw
   case rel=>exact ⟨i+1,_,by go_num,by omega,rfl⟩
   case measure=>simp [intOf];omega
  ·obtain rfl:i=n:=by omega
   clear HA
   go_wp2_with fail
   go_ret
   exact ⟨rfl,_,rfl⟩
theorem mark_bools {v : Value} {g n : Nat} {A : Nat → Bool} (w : World) (k : Int) (ha : OwnR w v g n (fun i => .bool (A i))) (hn : n ≤ 1048576) (hk0 : 0 ≤ k) (hk : k ≤ 100000000) :
  Calls Tryz.prog 11 #[v,.int .i64 k] w fun e w'=>e = .returned (.int .i64 (k+(n:Int)))∧Kq (fun j=>0 < n∧j=g) w w'∧OwnR w' v g n (fun i=>.bool ((k+(i:Int)) % 3 == 0)):=by
 obtain ⟨pa,ca,rfl,ha2⟩:=ha.sl
 by_cases h0:n=0
 ·subst h0
  go_enter Tryz.func11,Tryz.ntmps11
  go_wp2_with fail
  refine wp_loop_rounds 1 ?_
  rw [rounds_succ]
  go_wp2_with fail
  go_ret
  exact ⟨by simp,Kq.refl _ _,⟨⟨pa,ca,rfl,ha2⟩,fun i hi=>by omega,fun f=>by omega⟩⟩
 ·obtain ⟨rfl,hca⟩:=ha2 (by omega)
  have HI0:Hid (MkR w g n (fun i=>.bool (A i)) (fun i=>.bool ((k+(i:Int)) % 3 == 0)) 0 w):=(⟨Kq.refl _ _,fun i hi=>by omega,fun i _ hi=>ha.cell i hi,ha.fz (by omega)⟩:MkR w g n _ _ 0 w)
  have hnI:(n:Int)≤1048576:=by omega
  have HN0:Hid (0 < n):=(by omega : 0 < n)
  clear ha2 ha h0
  go_enter Tryz.func11,Tryz.ntmps11
  go_wp2_with fail
  go_loopw [1,5] (fun s1 s5 wr=>∃ i:Nat,s5 = .int .i64 (i:Int)∧s1 = .int .i64 (k+(i:Int))∧i≤n∧Hid (MkR w g n (fun i=>.bool (A i)) (fun i=>.bool ((k+(i:Int)) % 3 == 0)) i wr)) (fun _ s5 _=>n - (intOf s5).toNat)
  case atStart=>exact ⟨0,rfl,by simp,Nat.zero_le _,HI0⟩
  case round =>
   clear HI0
   obtain ⟨i,rfl,rfl,hin,HI⟩:=hrel
   have hI:=(uh HI)
   rcases Nat.lt_or_ge i n with hi | hi
   ·have hiI:(i:Int) < (n:Int):=by omega
    obtain ⟨c,f,hM⟩:=hI.step hi (Below.refl _ _)
    have hx:k+(i:Int)≤101048576:=by omega
    have hx0 : 0≤k+(i:Int):=by omega
    have HM:Hid (MkR w g n (fun i=>.bool (A i)) (fun i=>.bool ((k+(i:Int)) % 3 == 0)) (i+1) (wr.setCell ⟨g,i,none⟩ (.bool ((k+(i:Int)) % 3 == 0)))):=hM
    clear hM hI HI hin
    generalize A i=y at c
    have hxk:∃ x:Int,x=k+(i:Int):=⟨_,rfl⟩
    obtain ⟨x,hxk⟩:=hxk
    have HX:Hid (x=k+(i:Int)):=hxk
    rw [← hxk] at hx hx0 HM ⊢
    clear hxk
    go_upto_region 5 with fail
    generalize hy:World.setCell wr _ _=y0
    have HM0:Hid (MkR w g n (fun i=>.bool (A i)) (fun i=>.bool ((k+(i:Int)) % 3 == 0)) (i+1) y0):=by rw [← hy];exact HM
    clear hy HM c f
    go_wp2_with fail
    go_roundw
    case rel=>exact ⟨i+1,by go_num,by rw [show x=k+(i:Int) from HX];exact congrArg (Value.int .i64) (by omega),by omega,HM0⟩
    case measure=>simp [intOf];omega
   ·obtain rfl:i=n:=by omega
    have HE:Hid (MkR w g i (fun i=>.bool (A i)) (fun i=>.bool ((k+(i:Int)) % 3 == 0)) i wr):=hI
    clear HI hI
    go_wp2_with fail
    go_ret
    exact ⟨rfl,HE.kq.mono (fun j e=>⟨HN0,e⟩),⟨⟨_,ca,rfl,fun _=>⟨rfl,hca⟩⟩,fun j hj=>HE.don j hj,fun _ j=>HE.fz j⟩⟩
theorem held_bools {va : Value} {n : Nat} (w : World) (k : Int) (ha : RowV w va n (fun i => .bool ((k + (i : Int)) % 3 == 0))) (hn : n ≤ 1048576) (hk0 : 0 ≤ k) (hk : k ≤ 100000000) :
  Calls Tryz.prog 12 #[va,.int .i64 k] w fun e w'=>e = .returned (.int .i64 (k+(n:Int)))∧∃ d,w'=w.drewN d:=by
 obtain ⟨pa,ca,rfl,ha2⟩:=ha
 have HA:Hid (0 < n→∃ a:Addr,pa=some a∧n≤ca∧∀ i,i < n→w.cell? (a.add i)=some (.bool ((k+(i:Int)) % 3 == 0))):=ha2
 have hnI:(n:Int)≤1048576:=by omega
 clear ha2 hn
 go_enter Tryz.func12,Tryz.ntmps12
 go_wp2_with fail
 go_loopw [1,5] (fun s1 s5 wr=>∃ i d:Nat,s1 = .int .i64 (k+(i:Int))∧s5 = .int .i64 (i:Int)∧i≤n∧wr=w.drewN d) (fun _ s5 _=>n - (intOf s5).toNat)
 case atStart=>exact ⟨0,0,by simp,rfl,Nat.zero_le _,rfl⟩
 case round =>
  obtain ⟨i,d,rfl,rfl,hin,rfl⟩:=hrel
  rcases Nat.lt_or_ge i n with hi | hi
  ·obtain ⟨a,rfl,hca,hra⟩:=(uh HA) (by omega)
   have hiI:(i:Int) < (n:Int):=by omega
   have qa:=hra i hi
   clear hra HA hin
   have hx:k+(i:Int)≤101048576:=by omega
   have hx0 : 0≤k+(i:Int):=by omega
   generalize hxk:k+(i:Int)=x at *
   go_wp2_with fail
   go_roundw
   case rel=>exact ⟨i+1,_,by subst hxk;go_num,by go_num,by omega,rfl⟩
   case measure=>simp [intOf];omega
  ·obtain rfl:i=n:=by omega
   clear HA
   go_wp2_with fail
   go_ret
   exact ⟨rfl,_,rfl⟩
theorem OwnR.kb {W W':World} {v:Value} {g n:Nat} {A:Nat→Value} (h:OwnR W v g n A) (k:n ≠ 0→W'.heap[g]? = W.heap[g]?):OwnR W' v g n A:=by
 refine ⟨h.sl,fun i hi=>?_,fun q j=>?_⟩
 ·rw [World.cell?_of_block (w:=W) (k (by omega))];exact h.cell i hi
 ·rw [World.frozen?_of_block (w:=W) (k (by omega))];exact h.fz q j
end Go.Proofs.YtfpidccjcemcjaaGreat.Fo
