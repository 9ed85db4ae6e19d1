import Derived.Test.YtnmeemjoodoalaaGreatDoorNZaa
import Derived.Laws.IdiomStrings
import Derived.Laws.OwnMore
import Derived.Lib.UnsafeStr
import Derived.Lib.AppendStr
import Derived.Deep.AppendLies
import Derived.OwnWalk
import Derived.Handy
import Derived.Test.YtnmeemjoodoalaaGreatDoorNCdb
import Derived.Lib.OthersKept
import Derived.Test.YtnmeemjoodoalaaGreatDoorNEfa
import Derived.Deep.RegionHeldLaw
import Derived.Laws.Bits64
import Derived.Laws.BitsAllLaws
set_option maxHeartbeats 8000000
namespace Go.Proofs.YtnmeemjoodoalaaGreatDoor.Fo
open Go.ChangeShapes Go.WideShapes Go.ChangeAt Go.RowKit
set_option linter.unusedVariables false
set_option maxRecDepth 100000
theorem info5 : (Tryz.prog.info? 5).map (fun i=>(i.zero,i.size,i.bytes)) = some (some (.int .u8 0),1,1):=by kernel_rfl
theorem bc_append (a b : List UInt8) : Lib.byteCells (a ++ b) = Lib.byteCells a ++ Lib.byteCells b:=by simp [Lib.byteCells]
theorem bc_one (l : List UInt8) : ∀ u ∈ Lib.byteCells l,u.oneCell' = true:=by
  intro u hu
  simp only [Lib.byteCells,List.mem_map] at hu
  obtain ⟨a,_,rfl⟩:=hu
  rfl
theorem qr_cells (w : World) (c : Array Value) (t : TypeId) (l : List Value) (hl : c.toList = l) : ∀ j u,l[j]? = some u → (w.alloc (.cells c t)).cell? ((⟨w.heap.size,0,none⟩ : Addr).add j) = some u:=by
  intro j u hu
  exact World.news_of_block (alloc_new w c t) j u (by rw [hl];exact hu)
def QK (w0 : World) (l : List UInt8) (v : Value) (W : World) : Prop:=W.ownsRow w0.heap.size 5 1 v l.length (Lib.byteCells l) ∧ Kb 0 w0 W
theorem QK.call {w W W' : World} {l : List UInt8} {v : Value} (h : QK w l v W) (hb : Kb 0 W W') : QK w l v W':=by
  refine ⟨⟨h.1.1,?_⟩,h.2.trans hb⟩
  rcases h.1.2 with h1 | ⟨g,cap,cur,h1,h2,h3,h4⟩
  · exact .inl h1
  · refine .inr ⟨g,cap,cur,h1,h2,?_,h4⟩
    rw [hb.block g (Nat.zero_le _) (h.1.lt g (by rw [h1];rfl)).2]
    exact h3
theorem QK.add {w W w1 : World} {l m : List UInt8} {v v' : Value} {k : Nat} (h : QK w l v W) (hk : k = m.length) (ho : w1.ownsRow w.heap.size 5 1 v' (l.length + k) (Lib.byteCells l ++ Lib.byteCells m)) (hg : W.grownBy w1 v.ownBlock) : QK w (l ++ m) v' w1:=by
  subst hk
  refine ⟨by rw [List.length_append,bc_append];exact ho,⟨hg.os.trans h.2.os,hg.output.trans h.2.output,Nat.le_trans h.2.size hg.size,fun i _ hi=>?_⟩⟩
  rw [hg.block i (Nat.lt_of_lt_of_le hi h.2.size) (fun e2=>by have:=(h.1.lt i e2.symm).1;omega)]
  exact h.2.block i (Nat.zero_le _) hi
theorem qk_nil (w : World) : QK w [] (.slice none 0 0) w:=⟨World.ownsRow_nil _ _ _ _,Kb.refl _ _⟩
theorem QK.slice {w W : World} {l : List UInt8} {v : Value} (h : QK w l v W) : ∃ p c,v = .slice p l.length c:=by
  rcases h.1.2 with ⟨h1,h2⟩ | ⟨g,cap,cur,h1,_⟩
  · exact ⟨none,0,by rw [h2];exact h1⟩
  · exact ⟨_,cap,h1⟩
theorem ba_size (l : List UInt8) : (⟨l.toArray⟩ : ByteArray).size = l.length:=by
  show l.toArray.size = _
  simp
theorem sz_len (x : ByteArray) : x.data.toList.length = x.size:=by
  show x.data.toList.length = x.data.size
  simp
def zz (n : Int) : Nat:=if 0 ≤ n then (2 * n).toNat else (-2 * n - 1).toNat
def vb (u : Nat) : List UInt8:=if h : u < 128 then [UInt8.ofNat u] else UInt8.ofNat (128 + u % 128) :: vb (u / 128)
termination_by u
decreasing_by omega
def nb (n : Int) : List UInt8:=vb (zz n)
def tb (x : ByteArray) : List UInt8:=nb (x.size : Int) ++ x.data.toList
def fb (b : Bool) : List UInt8:=[if b then 1 else 0]
def db (g : Nat) : Nat → List UInt8
  | 0=>[]
  | i + 1=>db g i ++ [UInt8.ofNat (g / 2 ^ (56 - 8 * i))]
def cb (v : Vv) : List UInt8:=UInt8.ofNat v.k.toNat :: (if v.k = 1 ∨ v.k = 2 ∨ v.k = 8 then nb v.m else if v.k = 4 then tb v.x else if v.k = 3 then db v.g 8 else [])
def ub (u : Bool × Int) : List UInt8:=fb u.1 ++ nb u.2
def ib (a : Iv) : List UInt8:=nb a.o ++ nb a.a ++ nb a.b ++ nb a.c ++ nb a.d
def mb (a : Mv) : List UInt8:=tb a.x ++ nb a.g ++ nb a.f ++ nb a.t
def ct (f : Nat → List UInt8) : Nat → List UInt8
  | 0=>[]
  | n + 1=>ct f n ++ f n
def lb (f : Nat → List UInt8) (n : Nat) : List UInt8:=nb (n : Int) ++ ct f n
def pb (d : Pd) : List UInt8:=tb d.x ++ nb d.l ++ nb d.m ++ fb d.r ++ nb d.g ++ lb (fun i=>ub (d.U i)) d.u ++ lb (fun i=>cb (d.C i)) d.c ++ lb (fun i=>ib (d.N i)) d.n ++ lb (fun i=>mb (d.D i)) d.d
def eb (F : Nat → Pd) (np : Nat) : List UInt8:=[72,67,1] ++ lb (fun i=>pb (F i)) np
theorem vb_lt {u : Nat} (h : u < 128) : vb u = [UInt8.ofNat u]:=by rw [vb,dif_pos h]
theorem vb_ge {u : Nat} (h : ¬ u < 128) : vb u = UInt8.ofNat (128 + u % 128) :: vb (u / 128):=by rw [vb,dif_neg h]
theorem vb_len : ∀ (k u : Nat),u < 128 ^ (k + 1) → (vb u).length ≤ k + 1:=by
  intro k
  induction k with
  | zero=>intro u h;rw [vb_lt (by simpa using h)];simp
  | succ k ih =>
    intro u h
    by_cases c : u < 128
    · rw [vb_lt c];simp
    · rw [vb_ge c,List.length_cons]
      have:=ih (u / 128) (by rw [Nat.pow_succ] at h;exact Nat.div_lt_of_lt_mul (by rw [Nat.mul_comm];exact h))
      omega
theorem zz_lt {n : Int} (h0 : -9223372036854775808 ≤ n) (h1 : n ≤ 9223372036854775807) : zz n < 18446744073709551616:=by
  unfold zz
  split <;> omega
theorem nb_len {n : Int} (h0 : -9223372036854775808 ≤ n) (h1 : n ≤ 9223372036854775807) : (nb n).length ≤ 10:=by
  have:=zz_lt h0 h1
  refine vb_len 9 _ ?_
  have e : 18446744073709551616 ≤ 128 ^ (9 + 1):=by decide
  omega
theorem tb_len {x : ByteArray} (h : x.size ≤ 9223372036854775807) : (tb x).length ≤ 10 + x.size:=by
  have:=nb_len (n:=(x.size : Int)) (by omega) (by omega)
  unfold tb
  rw [List.length_append,sz_len]
  omega
theorem db_len (g : Nat) : ∀ i,(db g i).length = i:=by
  intro i
  induction i with
  | zero=>rfl
  | succ i ih=>show (db g i ++ _).length = _;rw [List.length_append,ih];rfl
theorem ct_len {f : Nat → List UInt8} {B : Nat} : ∀ n,(∀ i,i < n → (f i).length ≤ B) → (ct f n).length ≤ n * B:=by
  intro n
  induction n with
  | zero=>intro _;exact Nat.zero_le _
  | succ n ih =>
    intro h
    have h1:=ih (fun i hi=>h i (by omega))
    have h2:=h n (by omega)
    show (ct f n ++ f n).length ≤ _
    rw [List.length_append,Nat.succ_mul]
    omega
def AP (w0 W : World) (l : List UInt8) (e : Ending) (w' : World) : Prop:=∃ v',e = .returned v' ∧ QK w0 l v' w' ∧ Lib.OthersKept 5 none W w'
theorem ok_grown {w0 W w1 : World} {l : List UInt8} {v : Value} (h : QK w0 l v W) (hg : W.grownBy w1 v.ownBlock) : Lib.OthersKept 5 none W w1 :=
  (Lib.OthersKept.refl _ _ W).grown hg (fun g e=>by
    rcases h.1.2 with ⟨h1,_⟩ | ⟨g',cap,cur,h1,_,h3,_⟩
    · rw [h1] at e;simp [Value.ownBlock] at e
    · rw [h1] at e
      have : g' = g:=by simpa [Value.ownBlock] using e
      subst this
      exact ⟨_,_,h3⟩)
theorem ok_kb {W W' : World} (k : Kb 0 W W') (b : Option Nat) : Lib.OthersKept 5 b W W':=fun i o hi _ _=>(k.block i (Nat.zero_le _) (Array.getElem?_eq_some_iff.1 hi).1).trans hi
theorem ok_cells {b : Option Nat} {W W' : World} (k : Lib.OthersKept 5 b W W') {g : Nat} {c : Array Value} {t : TypeId} {fz : Nat × Nat} (h : W.heap[g]? = some (.cells c t fz)) (hb : some g ≠ b) (ht : t ≠ 5) : W'.heap[g]? = some (.cells c t fz) :=
  k g _ h hb (fun c' fz' e=>ht (by injection e))
theorem hld_ups {W : World} {pa : Option Addr} {g n cp : Nat} (k : Int) (h1 : 1 ≤ k) (h2 : k ≤ 500000000) (hn : n ≤ 1048576) (hr : 0 < n → pa = some ⟨g, 0, none⟩ ∧ CJ vU 2 g k (n * 2) W) :
    Calls Tryz.prog 87 #[.slice pa n cp,.int .i64 k] W fun e w'=>e = .returned (.int .i64 (k + 2 * (n : Int))) ∧ Kb 0 W w':=by
  have HH : Hid (0 < n → pa = some ⟨g,0,none⟩ ∧ CJ vU 2 g k (n * 2) W):=hr
  have hnI : (n : Int) ≤ 1048576:=by omega
  clear hr hn
  go_enter Tryz.func87,Tryz.ntmps87
  go_wp2_with fail
  go_loopw [1,5] (fun s1 s5 wr=>∃ i : Nat,i ≤ n ∧ s5 = .int .i64 (i : Int) ∧ s1 = .int .i64 (k + 2 * (i : Int)) ∧ Hid (Kb 0 W wr)) (fun _ s5 _=>n - (intOf s5).toNat)
  case atStart=>exact ⟨0,by omega,rfl,by simp,Kb.refl _ _⟩
  case round =>
    obtain ⟨i,hi,rfl,rfl,HK⟩:=hrel
    by_cases hin : i < n
    · obtain ⟨rfl,hcj⟩:=(show 0 < n → _ from HH) (by omega)
      have hI : (i : Int) < (n : Int):=by omega
      have hb : i * 2 + 2 ≤ n * 2:=by have:=Nat.mul_le_mul_right 2 (show i + 1 ≤ n from hin);rw [Nat.succ_mul] at this;exact this
      obtain ⟨K,hK⟩ : ∃ K : Int,K = k + 2 * (i : Int):=⟨_,rfl⟩
      have hK1 : 1 ≤ K:=by omega
      have hK2 : K ≤ 600000000:=by omega
      have q0 : wr.cell? ⟨g,i * 2,none⟩ = some (mkB K):=by
        rw [(show Kb 0 W wr from HK).cell (hcj (i * 2) (by omega)),show (i * 2) % 2 = 0 by omega,show k + ((i * 2 : Nat) : Int) = K by omega]
        rfl
      have q1 : wr.cell? ⟨g,i * 2 + 1,none⟩ = some (mkI (K + 1)):=by
        rw [(show Kb 0 W wr from HK).cell (hcj (i * 2 + 1) (by omega)),show (i * 2 + 1) % 2 = 1 by omega,show k + ((i * 2 + 1 : Nat) : Int) = (K + 1) by omega]
        rfl
      have HKK : Hid (K = k + 2 * (i : Int)):=hK
      rw [← hK]
      clear hcj hb hK
      unfold mkB at q0
      unfold mkI at q1
      go_wp2_with fail
      go_roundw
      case rel=>exact ⟨i + 1,by omega,by go_num,by rw [(show K = _ from HKK)];congr 1;omega,HK⟩
      case measure=>simp [intOf];omega
    · obtain rfl : i = n:=by omega
      have hI : ¬ (i : Int) < (i : Int):=by omega
      clear HH
      go_wp2_with fail
      go_ret
      exact ⟨rfl,HK⟩
theorem hld_inss {W : World} {pa : Option Addr} {g n cp : Nat} (k : Int) (h1 : 1 ≤ k) (h2 : k ≤ 500000000) (hn : n ≤ 1048576) (hr : 0 < n → pa = some ⟨g, 0, none⟩ ∧ CJ vI 5 g k (n * 5) W) :
    Calls Tryz.prog 89 #[.slice pa n cp,.int .i64 k] W fun e w'=>e = .returned (.int .i64 (k + 5 * (n : Int))) ∧ Kb 0 W w':=by
  have HH : Hid (0 < n → pa = some ⟨g,0,none⟩ ∧ CJ vI 5 g k (n * 5) W):=hr
  have hnI : (n : Int) ≤ 1048576:=by omega
  clear hr hn
  go_enter Tryz.func89,Tryz.ntmps89
  go_wp2_with fail
  go_loopw [1,5] (fun s1 s5 wr=>∃ i : Nat,i ≤ n ∧ s5 = .int .i64 (i : Int) ∧ s1 = .int .i64 (k + 5 * (i : Int)) ∧ Hid (Kb 0 W wr)) (fun _ s5 _=>n - (intOf s5).toNat)
  case atStart=>exact ⟨0,by omega,rfl,by simp,Kb.refl _ _⟩
  case round =>
    obtain ⟨i,hi,rfl,rfl,HK⟩:=hrel
    by_cases hin : i < n
    · obtain ⟨rfl,hcj⟩:=(show 0 < n → _ from HH) (by omega)
      have hI : (i : Int) < (n : Int):=by omega
      have hb : i * 5 + 5 ≤ n * 5:=by have:=Nat.mul_le_mul_right 5 (show i + 1 ≤ n from hin);rw [Nat.succ_mul] at this;exact this
      obtain ⟨K,hK⟩ : ∃ K : Int,K = k + 5 * (i : Int):=⟨_,rfl⟩
      have hK1 : 1 ≤ K:=by omega
      have hK2 : K ≤ 600000000:=by omega
      have q0 : wr.cell? ⟨g,i * 5,none⟩ = some (mkI K):=by
        rw [(show Kb 0 W wr from HK).cell (hcj (i * 5) (by omega)),show (i * 5) % 5 = 0 by omega,show k + ((i * 5 : Nat) : Int) = K by omega]
        rfl
      have q1 : wr.cell? ⟨g,i * 5 + 1,none⟩ = some (mkI (K + 1)):=by
        rw [(show Kb 0 W wr from HK).cell (hcj (i * 5 + 1) (by omega)),show (i * 5 + 1) % 5 = 1 by omega,show k + ((i * 5 + 1 : Nat) : Int) = (K + 1) by omega]
        rfl
      have q2 : wr.cell? ⟨g,i * 5 + 2,none⟩ = some (mkI (K + 1 + 1)):=by
        rw [(show Kb 0 W wr from HK).cell (hcj (i * 5 + 2) (by omega)),show (i * 5 + 2) % 5 = 2 by omega,show k + ((i * 5 + 2 : Nat) : Int) = (K + 1 + 1) by omega]
        rfl
      have q3 : wr.cell? ⟨g,i * 5 + 3,none⟩ = some (mkI (K + 1 + 1 + 1)):=by
        rw [(show Kb 0 W wr from HK).cell (hcj (i * 5 + 3) (by omega)),show (i * 5 + 3) % 5 = 3 by omega,show k + ((i * 5 + 3 : Nat) : Int) = (K + 1 + 1 + 1) by omega]
        rfl
      have q4 : wr.cell? ⟨g,i * 5 + 4,none⟩ = some (mkI (K + 1 + 1 + 1 + 1)):=by
        rw [(show Kb 0 W wr from HK).cell (hcj (i * 5 + 4) (by omega)),show (i * 5 + 4) % 5 = 4 by omega,show k + ((i * 5 + 4 : Nat) : Int) = (K + 1 + 1 + 1 + 1) by omega]
        rfl
      have HKK : Hid (K = k + 5 * (i : Int)):=hK
      rw [← hK]
      clear hcj hb hK
      unfold mkI at q0
      unfold mkI at q1
      unfold mkI at q2
      unfold mkI at q3
      unfold mkI at q4
      go_wp2_with fail
      go_roundw
      case rel=>exact ⟨i + 1,by omega,by go_num,by rw [(show K = _ from HKK)];congr 1;omega,HK⟩
      case measure=>simp [intOf];omega
    · obtain rfl : i = n:=by omega
      have hI : ¬ (i : Int) < (i : Int):=by omega
      clear HH
      go_wp2_with fail
      go_ret
      exact ⟨rfl,HK⟩
theorem hld_nams {W : World} {pa : Option Addr} {g n cp : Nat} (k : Int) (h1 : 1 ≤ k) (h2 : k ≤ 500000000) (hn : n ≤ 1048576) (hr : 0 < n → pa = some ⟨g, 0, none⟩ ∧ CJ vM 4 g k (n * 4) W) :
    Calls Tryz.prog 90 #[.slice pa n cp,.int .i64 k] W fun e w'=>e = .returned (.int .i64 (k + 4 * (n : Int))) ∧ Kb 0 W w':=by
  have HH : Hid (0 < n → pa = some ⟨g,0,none⟩ ∧ CJ vM 4 g k (n * 4) W):=hr
  have hnI : (n : Int) ≤ 1048576:=by omega
  clear hr hn
  go_enter Tryz.func90,Tryz.ntmps90
  go_wp2_with fail
  go_loopw [1,5] (fun s1 s5 wr=>∃ i : Nat,i ≤ n ∧ s5 = .int .i64 (i : Int) ∧ s1 = .int .i64 (k + 4 * (i : Int)) ∧ Hid (Kb 0 W wr)) (fun _ s5 _=>n - (intOf s5).toNat)
  case atStart=>exact ⟨0,by omega,rfl,by simp,Kb.refl _ _⟩
  case round =>
    obtain ⟨i,hi,rfl,rfl,HK⟩:=hrel
    by_cases hin : i < n
    · obtain ⟨rfl,hcj⟩:=(show 0 < n → _ from HH) (by omega)
      have hI : (i : Int) < (n : Int):=by omega
      have hb : i * 4 + 4 ≤ n * 4:=by have:=Nat.mul_le_mul_right 4 (show i + 1 ≤ n from hin);rw [Nat.succ_mul] at this;exact this
      obtain ⟨K,hK⟩ : ∃ K : Int,K = k + 4 * (i : Int):=⟨_,rfl⟩
      have hK1 : 1 ≤ K:=by omega
      have hK2 : K ≤ 600000000:=by omega
      have q0 : wr.cell? ⟨g,i * 4,none⟩ = some (mkS K):=by
        rw [(show Kb 0 W wr from HK).cell (hcj (i * 4) (by omega)),show (i * 4) % 4 = 0 by omega,show k + ((i * 4 : Nat) : Int) = K by omega]
        rfl
      have q1 : wr.cell? ⟨g,i * 4 + 1,none⟩ = some (mkI (K + 1)):=by
        rw [(show Kb 0 W wr from HK).cell (hcj (i * 4 + 1) (by omega)),show (i * 4 + 1) % 4 = 1 by omega,show k + ((i * 4 + 1 : Nat) : Int) = (K + 1) by omega]
        rfl
      have q2 : wr.cell? ⟨g,i * 4 + 2,none⟩ = some (mkI (K + 1 + 1)):=by
        rw [(show Kb 0 W wr from HK).cell (hcj (i * 4 + 2) (by omega)),show (i * 4 + 2) % 4 = 2 by omega,show k + ((i * 4 + 2 : Nat) : Int) = (K + 1 + 1) by omega]
        rfl
      have q3 : wr.cell? ⟨g,i * 4 + 3,none⟩ = some (mkI (K + 1 + 1 + 1)):=by
        rw [(show Kb 0 W wr from HK).cell (hcj (i * 4 + 3) (by omega)),show (i * 4 + 3) % 4 = 3 by omega,show k + ((i * 4 + 3 : Nat) : Int) = (K + 1 + 1 + 1) by omega]
        rfl
      have HKK : Hid (K = k + 4 * (i : Int)):=hK
      rw [← hK]
      clear hcj hb hK
      have hmt : ∀ W',Calls Tryz.prog 66 #[.int .i64 K] W' fun e w'=>e = .returned (.string (⟨#[109]⟩ ++ mtl K.toNat ⟨#[]⟩)) ∧ Below W'.heap.size W' w':=fun W'=>by
        have HT:=mark_text K.toNat (by omega) (by omega) W'
        rw [Int.toNat_of_nonneg (by omega)] at HT
        exact HT
      unfold mkS at q0
      generalize (⟨#[109]⟩ ++ mtl K.toNat ⟨#[]⟩ : ByteArray) = X at hmt q0
      unfold mkI at q1
      unfold mkI at q2
      unfold mkI at q3
      have HKP : Hid (∀ (W0 W' : World),Below W0.heap.size W0 W' → W0.heap = wr.heap → W0.os = wr.os → W0.output = wr.output → Kb 0 wr W'):=(fun W0 W' hb e1 e2 e3=>⟨hb.os.trans e2,hb.output.trans e3,by rw [← e1];exact hb.size,fun i _ hi=>by rw [hb.block i (by rw [e1];exact hi),e1]⟩ : ∀ (W0 W' : World),_)
      go_upto_region 4 with fail
      go_region_held_law (fun W'=>W'.cell? ⟨g,i * 4,none⟩ = some (.string X)) (first | exact q0 | exact ((show ∀ (W0 W' : World),Below W0.heap.size W0 W' → W0.heap = wr.heap → W0.os = wr.os → W0.output = wr.output → Kb 0 wr W' from HKP) _ _ bz rfl rfl rfl).cell q0) ((go_at_call 66;refine (hmt _).mono ?_;rintro e z ⟨rfl,bz⟩))
      all_goals
        have kz : Kb 0 wr z:=(show ∀ (W0 W' : World),Below W0.heap.size W0 W' → W0.heap = wr.heap → W0.os = wr.os → W0.output = wr.output → Kb 0 wr W' from HKP) _ _ bz rfl rfl rfl
        have HK2 : Hid (Kb 0 W z):=(show Kb 0 W wr from HK).trans kz
        have r1 : z.cell? ⟨g,i * 4 + 1,none⟩ = some (.int .i64 (K + 1)):=kz.cell q1
        have r2 : z.cell? ⟨g,i * 4 + 2,none⟩ = some (.int .i64 (K + 1 + 1)):=kz.cell q2
        have r3 : z.cell? ⟨g,i * 4 + 3,none⟩ = some (.int .i64 (K + 1 + 1 + 1)):=kz.cell q3
        clear HK kz bz HKP hmt q0 q1 q2 q3
        go_wp2_with fail
        go_roundw
        case rel=>exact ⟨i + 1,by omega,by go_num,by rw [(show K = _ from HKK)];congr 1;omega,HK2⟩
        case measure=>simp [intOf];omega
    · obtain rfl : i = n:=by omega
      have hI : ¬ (i : Int) < (i : Int):=by omega
      clear HH
      go_wp2_with fail
      go_ret
      exact ⟨rfl,HK⟩
theorem wrap_u64 (x : Int) : IntKind.u64.wrap x = x % 18446744073709551616:=by simp [IntKind.wrap,IntKind.signed,IntKind.bits]
theorem wrap_u8 (x : Int) : IntKind.u8.wrap x = x % 256:=by simp [IntKind.wrap,IntKind.signed,IntKind.bits]
theorem xor_ones (b : Nat) (h : b < 18446744073709551616) : 18446744073709551615 ^^^ b = 18446744073709551615 - b:=by
  have:=congrArg BitVec.toNat (BitVec.allOnes_xor (x:=BitVec.ofNat 64 b))
  rw [BitVec.toNat_not,BitVec.toNat_xor,BitVec.toNat_allOnes,BitVec.toNat_ofNat,Nat.mod_eq_of_lt h] at this
  exact this
theorem max_u64 : IntKind.u64.max = 18446744073709551615:=rfl
theorem and127 (u : Nat) (h : u < 18446744073709551616) : bits .and .u64 (u : Int) 127 = ((u % 128 : Nat) : Int):=by
  have e2 : (127 : Int) = ((127 : Nat) : Int):=rfl
  rw [e2,Go.u64_and_nat _ _ h (by omega)]
  have:=Nat.and_two_pow_sub_one_eq_mod u 7
  rw [show (2 ^ 7 - 1 : Nat) = 127 from rfl] at this
  rw [this]
theorem or128 (r : Nat) (h : r < 128) : bits .or .u64 (r : Int) 128 = ((128 + r : Nat) : Int):=by
  have e:=Go.u64_or_nat r 128 (by omega) (by omega)
  have e2 : ((128 : Nat) : Int) = 128:=rfl
  rw [e2] at e
  have h2:=Nat.two_pow_add_eq_or_of_lt (i:=7) (b:=r) (by omega) 1
  have e3 : (2 ^ 7 * 1 : Nat) = 128:=by decide
  rw [e3] at h2
  rw [e,Nat.or_comm,← h2]
theorem zz_neg {n : Int} (h0 : -9223372036854775808 ≤ n) (hn : n < 0) : bits BinOp.xor IntKind.u64 IntKind.u64.max (18446744073709551616 + 2 * n) = (zz n : Int):=by
  obtain ⟨b,hb⟩ : ∃ b : Nat,18446744073709551616 + 2 * n = (b : Int):=⟨(18446744073709551616 + 2 * n).toNat,by omega⟩
  rw [hb,max_u64,show (18446744073709551615 : Int) = ((18446744073709551615 : Nat) : Int) from rfl,Go.u64_xor_nat _ _ (by omega) (by omega),xor_ones b (by omega)]
  unfold zz
  rw [if_neg (by omega)]
  omega
theorem sp_num {w0 W : World} {l : List UInt8} {v : Value} (n : Int) (h0 : -9223372036854775808 ≤ n) (h1 : n ≤ 9223372036854775807) (hq : QK w0 l v W) (hl : l.length ≤ 100000000000000) :
    Calls Tryz.prog 20 #[v,.int .i64 n] W (AP w0 W (l ++ nb n)):=by
  obtain ⟨i0,hi0,hz0,hz1,hz2⟩:=info_parts info5
  have HI0 : Hid (Tryz.prog.info? 5 = some i0):=hi0
  have HQ : Hid (QK w0 l v W ∧ l.length ≤ 100000000000000):=(⟨hq,hl⟩ : _ ∧ _)
  clear hi0 hq hl
  by_cases hn : n < 0
  · have e1 : IntKind.u64.wrap (IntKind.u64.wrap n * 2) = 18446744073709551616 + 2 * n:=by rw [wrap_u64,wrap_u64];omega
    have e2 : bits BinOp.xor IntKind.u64 IntKind.u64.max (18446744073709551616 + 2 * n) = (zz n : Int):=zz_neg h0 hn
    go_enter Tryz.func20,Tryz.ntmps20
    go_wp2_with fail
    clear e1 e2 hn
    go_loopw [0,5] (fun s0 s5 wr=>∃ (u : Nat) (acc : List UInt8) (v' : Value),v' = s0 ∧ s5 = .int .u64 (u : Int) ∧ (u : Int) < 18446744073709551616 ∧ Hid (QK w0 (l ++ acc) v' wr ∧ Lib.OthersKept 5 none W wr ∧ nb n = acc ++ vb u ∧ acc.length ≤ 10)) (fun _ s5 _=>(intOf s5).toNat)
    case atStart=>exact ⟨zz n,[],v,rfl,rfl,by have:=zz_lt h0 h1;omega,(⟨by rw [List.append_nil];exact HQ.1,Lib.OthersKept.refl _ _ _,rfl,by simp⟩ : _ ∧ _)⟩
    case round =>
      obtain ⟨u,acc,v',hv,rfl,hu,HX⟩:=hrel
      subst hv
      obtain ⟨hq,hok,hnb,hac⟩:=(show _ ∧ _ ∧ _ ∧ _ from HX)
      have hl:=HQ.2
      have hsz:=hq.2.size
      have hlen : (l ++ acc).length ≤ 100000000000010:=by rw [List.length_append];omega
      have howna : ∀ o : Obj,(wr.alloc o).ownsRow w0.heap.size 5 1 v' (l ++ acc).length (Lib.byteCells (l ++ acc)):=fun o=>hq.1.alloc o
      by_cases hc : u < 128
      · rw [vb_lt hc] at hnb
        have hg : ¬ (127 : Int) < (u : Int):=by omega
        have hcv : IntKind.u8.wrap (u : Int) = (u : Int):=by rw [wrap_u8];omega
        have hbc : Lib.byteCells [UInt8.ofNat u] = [.int .u8 (u : Int)]:=by
          simp only [Lib.byteCells,List.map_cons,List.map_nil]
          rw [UInt8.toNat_ofNat',Nat.mod_eq_of_lt (by omega)]
        have HADD : Hid (∀ (o : Obj) (v2 : Value) (w5 : World),w5.ownsRow w0.heap.size 5 1 v2 ((l ++ acc).length + 1) (Lib.byteCells (l ++ acc) ++ [.int .u8 (u : Int)]) → (wr.alloc o).grownBy w5 v'.ownBlock → QK w0 (l ++ nb n) v2 w5 ∧ Lib.OthersKept 5 none W w5):=(fun o v2 w5 ho hg=>by
          rw [← hbc] at ho
          have h2:=hq.call (kb_alloc 0 wr o)
          refine ⟨?_,(hok.trans (ok_kb (kb_alloc 0 wr o) none)).trans (ok_grown h2 hg)⟩
          rw [hnb,← List.append_assoc]
          exact h2.add (m:=[UInt8.ofNat u]) rfl ho hg : ∀ (o : Obj),_)
        have h1c:=bc_one [UInt8.ofNat u]
        rw [hbc] at h1c
        clear hq hok hnb hac hl HX HQ hbc
        go_wp2_with (at_builtin;refine wpList_append_own _ rfl (.tmp 24) (.tmp 27) 26 rfl w0.heap.size 5 i0 (.int .u8 0) 1 1 Tryz.underlying26 HI0 hz0 hz1 hz2 rfl (by decide) _ _ _ rfl (howna _) ⟨wr.heap.size,0,none⟩ 1 1 [.int .u8 (u : Int)] rfl rfl (qr_cells wr #[.int .u8 (u : Int)] 5 _ rfl) h1c (by unfold maxLen;omega) (by omega) (by simp;omega) ?_;intro v2 w5 hown1 hgrow1 _)
        obtain ⟨y1,y2⟩:=(show ∀ (o : Obj) (v2 : Value) (w5 : World),_ → _ → _ from HADD) _ _ _ hown1 hgrow1
        clear HADD hown1 hgrow1 howna
        go_wp2_with fail
        go_ret
        exact ⟨v2,rfl,y1,y2⟩
      · rw [vb_ge hc] at hnb
        have hg : (127 : Int) < (u : Int):=by omega
        have hand : bits .and .u64 (u : Int) 127 = ((u % 128 : Nat) : Int):=and127 u (by omega)
        have hor : bits .or .u64 ((u % 128 : Nat) : Int) 128 = ((128 + u % 128 : Nat) : Int):=or128 _ (by omega)
        have hbc : Lib.byteCells [UInt8.ofNat (128 + u % 128)] = [.int .u8 ((128 + u % 128 : Nat) : Int)]:=by
          simp only [Lib.byteCells,List.map_cons,List.map_nil]
          rw [UInt8.toNat_ofNat',Nat.mod_eq_of_lt (by omega)]
        have HADD : Hid (∀ (o : Obj) (v2 : Value) (w5 : World),w5.ownsRow w0.heap.size 5 1 v2 ((l ++ acc).length + 1) (Lib.byteCells (l ++ acc) ++ [.int .u8 ((128 + u % 128 : Nat) : Int)]) → (wr.alloc o).grownBy w5 v'.ownBlock → QK w0 (l ++ (acc ++ [UInt8.ofNat (128 + u % 128)])) v2 w5 ∧ Lib.OthersKept 5 none W w5 ∧ nb n = (acc ++ [UInt8.ofNat (128 + u % 128)]) ++ vb (u / 128) ∧ (acc ++ [UInt8.ofNat (128 + u % 128)]).length ≤ 10):=(fun o v2 w5 ho hg=>by
          rw [← hbc] at ho
          have h2:=hq.call (kb_alloc 0 wr o)
          have hnn:=nb_len h0 h1
          refine ⟨?_,(hok.trans (ok_kb (kb_alloc 0 wr o) none)).trans (ok_grown h2 hg),by rw [hnb,List.append_assoc];rfl,by rw [hnb] at hnn;simp at hnn ⊢;omega⟩
          rw [← List.append_assoc]
          exact h2.add (m:=[UInt8.ofNat (128 + u % 128)]) rfl ho hg : ∀ (o : Obj),_)
        have h1c:=bc_one [UInt8.ofNat (128 + u % 128)]
        rw [hbc] at h1c
        obtain ⟨B,hB⟩ : ∃ B : Int,B = ((128 + u % 128 : Nat) : Int):=⟨_,rfl⟩
        have hB1 : (128 : Int) ≤ B:=by omega
        have hB2 : B < 256:=by omega
        have hcv : IntKind.u8.wrap B = B:=by rw [wrap_u8];omega
        rw [← hB] at hor HADD h1c
        obtain ⟨u2,hu2⟩ : ∃ u2,u2 = u / 128:=⟨_,rfl⟩
        rw [← hu2] at HADD
        have hdv : (u : Int) / 128 = (u2 : Int):=by omega
        have HUL : Hid (u2 < u ∧ (u2 : Int) < 18446744073709551616):=(⟨by omega,by omega⟩ : _ ∧ _)
        clear hq hok hnb hac hl HX hbc hB hu2
        generalize ((u % 128 : Nat) : Int) = r7 at *
        go_wp2_with (at_builtin;refine wpList_append_own _ rfl (.tmp 15) (.tmp 20) 26 rfl w0.heap.size 5 i0 (.int .u8 0) 1 1 Tryz.underlying26 HI0 hz0 hz1 hz2 rfl (by decide) _ _ _ rfl (howna _) ⟨wr.heap.size,0,none⟩ 1 1 [.int .u8 B] rfl rfl (qr_cells wr #[.int .u8 B] 5 _ rfl) h1c (by unfold maxLen;omega) (by omega) (by simp;omega) ?_;intro v2 w5 hown1 hgrow1 _)
        have HN : Hid _:=(show ∀ (o : Obj) (v2 : Value) (w5 : World),_ → _ → _ from HADD) _ _ _ hown1 hgrow1
        clear HADD hown1 hgrow1 howna
        go_wp2_with fail
        go_roundw
        case rel=>exact ⟨u2,_,v2,rfl,rfl,HUL.2,HN⟩
        case measure=>exact (show u2 < u ∧ _ from HUL).1
  · have e1 : n * 2 = (zz n : Int):=by unfold zz;rw [if_pos (by omega)];omega
    go_enter Tryz.func20,Tryz.ntmps20
    go_wp2_with fail
    clear e1 hn
    go_loopw [0,5] (fun s0 s5 wr=>∃ (u : Nat) (acc : List UInt8) (v' : Value),v' = s0 ∧ s5 = .int .u64 (u : Int) ∧ (u : Int) < 18446744073709551616 ∧ Hid (QK w0 (l ++ acc) v' wr ∧ Lib.OthersKept 5 none W wr ∧ nb n = acc ++ vb u ∧ acc.length ≤ 10)) (fun _ s5 _=>(intOf s5).toNat)
    case atStart=>exact ⟨zz n,[],v,rfl,rfl,by have:=zz_lt h0 h1;omega,(⟨by rw [List.append_nil];exact HQ.1,Lib.OthersKept.refl _ _ _,rfl,by simp⟩ : _ ∧ _)⟩
    case round =>
      obtain ⟨u,acc,v',hv,rfl,hu,HX⟩:=hrel
      subst hv
      obtain ⟨hq,hok,hnb,hac⟩:=(show _ ∧ _ ∧ _ ∧ _ from HX)
      have hl:=HQ.2
      have hsz:=hq.2.size
      have hlen : (l ++ acc).length ≤ 100000000000010:=by rw [List.length_append];omega
      have howna : ∀ o : Obj,(wr.alloc o).ownsRow w0.heap.size 5 1 v' (l ++ acc).length (Lib.byteCells (l ++ acc)):=fun o=>hq.1.alloc o
      by_cases hc : u < 128
      · rw [vb_lt hc] at hnb
        have hg : ¬ (127 : Int) < (u : Int):=by omega
        have hcv : IntKind.u8.wrap (u : Int) = (u : Int):=by rw [wrap_u8];omega
        have hbc : Lib.byteCells [UInt8.ofNat u] = [.int .u8 (u : Int)]:=by
          simp only [Lib.byteCells,List.map_cons,List.map_nil]
          rw [UInt8.toNat_ofNat',Nat.mod_eq_of_lt (by omega)]
        have HADD : Hid (∀ (o : Obj) (v2 : Value) (w5 : World),w5.ownsRow w0.heap.size 5 1 v2 ((l ++ acc).length + 1) (Lib.byteCells (l ++ acc) ++ [.int .u8 (u : Int)]) → (wr.alloc o).grownBy w5 v'.ownBlock → QK w0 (l ++ nb n) v2 w5 ∧ Lib.OthersKept 5 none W w5):=(fun o v2 w5 ho hg=>by
          rw [← hbc] at ho
          have h2:=hq.call (kb_alloc 0 wr o)
          refine ⟨?_,(hok.trans (ok_kb (kb_alloc 0 wr o) none)).trans (ok_grown h2 hg)⟩
          rw [hnb,← List.append_assoc]
          exact h2.add (m:=[UInt8.ofNat u]) rfl ho hg : ∀ (o : Obj),_)
        have h1c:=bc_one [UInt8.ofNat u]
        rw [hbc] at h1c
        clear hq hok hnb hac hl HX HQ hbc
        go_wp2_with (at_builtin;refine wpList_append_own _ rfl (.tmp 24) (.tmp 27) 26 rfl w0.heap.size 5 i0 (.int .u8 0) 1 1 Tryz.underlying26 HI0 hz0 hz1 hz2 rfl (by decide) _ _ _ rfl (howna _) ⟨wr.heap.size,0,none⟩ 1 1 [.int .u8 (u : Int)] rfl rfl (qr_cells wr #[.int .u8 (u : Int)] 5 _ rfl) h1c (by unfold maxLen;omega) (by omega) (by simp;omega) ?_;intro v2 w5 hown1 hgrow1 _)
        obtain ⟨y1,y2⟩:=(show ∀ (o : Obj) (v2 : Value) (w5 : World),_ → _ → _ from HADD) _ _ _ hown1 hgrow1
        clear HADD hown1 hgrow1 howna
        go_wp2_with fail
        go_ret
        exact ⟨v2,rfl,y1,y2⟩
      · rw [vb_ge hc] at hnb
        have hg : (127 : Int) < (u : Int):=by omega
        have hand : bits .and .u64 (u : Int) 127 = ((u % 128 : Nat) : Int):=and127 u (by omega)
        have hor : bits .or .u64 ((u % 128 : Nat) : Int) 128 = ((128 + u % 128 : Nat) : Int):=or128 _ (by omega)
        have hbc : Lib.byteCells [UInt8.ofNat (128 + u % 128)] = [.int .u8 ((128 + u % 128 : Nat) : Int)]:=by
          simp only [Lib.byteCells,List.map_cons,List.map_nil]
          rw [UInt8.toNat_ofNat',Nat.mod_eq_of_lt (by omega)]
        have HADD : Hid (∀ (o : Obj) (v2 : Value) (w5 : World),w5.ownsRow w0.heap.size 5 1 v2 ((l ++ acc).length + 1) (Lib.byteCells (l ++ acc) ++ [.int .u8 ((128 + u % 128 : Nat) : Int)]) → (wr.alloc o).grownBy w5 v'.ownBlock → QK w0 (l ++ (acc ++ [UInt8.ofNat (128 + u % 128)])) v2 w5 ∧ Lib.OthersKept 5 none W w5 ∧ nb n = (acc ++ [UInt8.ofNat (128 + u % 128)]) ++ vb (u / 128) ∧ (acc ++ [UInt8.ofNat (128 + u % 128)]).length ≤ 10):=(fun o v2 w5 ho hg=>by
          rw [← hbc] at ho
          have h2:=hq.call (kb_alloc 0 wr o)
          have hnn:=nb_len h0 h1
          refine ⟨?_,(hok.trans (ok_kb (kb_alloc 0 wr o) none)).trans (ok_grown h2 hg),by rw [hnb,List.append_assoc];rfl,by rw [hnb] at hnn;simp at hnn ⊢;omega⟩
          rw [← List.append_assoc]
          exact h2.add (m:=[UInt8.ofNat (128 + u % 128)]) rfl ho hg : ∀ (o : Obj),_)
        have h1c:=bc_one [UInt8.ofNat (128 + u % 128)]
        rw [hbc] at h1c
        obtain ⟨B,hB⟩ : ∃ B : Int,B = ((128 + u % 128 : Nat) : Int):=⟨_,rfl⟩
        have hB1 : (128 : Int) ≤ B:=by omega
        have hB2 : B < 256:=by omega
        have hcv : IntKind.u8.wrap B = B:=by rw [wrap_u8];omega
        rw [← hB] at hor HADD h1c
        obtain ⟨u2,hu2⟩ : ∃ u2,u2 = u / 128:=⟨_,rfl⟩
        rw [← hu2] at HADD
        have hdv : (u : Int) / 128 = (u2 : Int):=by omega
        have HUL : Hid (u2 < u ∧ (u2 : Int) < 18446744073709551616):=(⟨by omega,by omega⟩ : _ ∧ _)
        clear hq hok hnb hac hl HX hbc hB hu2
        generalize ((u % 128 : Nat) : Int) = r7 at *
        go_wp2_with (at_builtin;refine wpList_append_own _ rfl (.tmp 15) (.tmp 20) 26 rfl w0.heap.size 5 i0 (.int .u8 0) 1 1 Tryz.underlying26 HI0 hz0 hz1 hz2 rfl (by decide) _ _ _ rfl (howna _) ⟨wr.heap.size,0,none⟩ 1 1 [.int .u8 B] rfl rfl (qr_cells wr #[.int .u8 B] 5 _ rfl) h1c (by unfold maxLen;omega) (by omega) (by simp;omega) ?_;intro v2 w5 hown1 hgrow1 _)
        have HN : Hid _:=(show ∀ (o : Obj) (v2 : Value) (w5 : World),_ → _ → _ from HADD) _ _ _ hown1 hgrow1
        clear HADD hown1 hgrow1 howna
        go_wp2_with fail
        go_roundw
        case rel=>exact ⟨u2,_,v2,rfl,rfl,HUL.2,HN⟩
        case measure=>exact (show u2 < u ∧ _ from HUL).1
theorem qk_push {w0 W wr : World} {L : List UInt8} {v : Value} (hq : QK w0 L v wr) (hok : Lib.OthersKept 5 none W wr) (c : UInt8) (b : Int) (hb : (c.toNat : Int) = b) (o : Obj) (v2 : Value) (w5 : World) (ho : w5.ownsRow w0.heap.size 5 1 v2 (L.length + 1) (Lib.byteCells L ++ [.int .u8 b])) (hg : (wr.alloc o).grownBy w5 v.ownBlock) : QK w0 (L ++ [c]) v2 w5 ∧ Lib.OthersKept 5 none W w5:=by
  have hbc : Lib.byteCells [c] = [.int .u8 b]:=by simp [Lib.byteCells,hb]
  rw [← hbc] at ho
  have h2:=hq.call (kb_alloc 0 wr o)
  exact ⟨h2.add (m:=[c]) rfl ho hg,(hok.trans (ok_kb (kb_alloc 0 wr o) none)).trans (ok_grown h2 hg)⟩
theorem bc_lit (b : Int) : ∀ u ∈ [Value.int .u8 b],u.oneCell' = true:=by
  intro u hu
  rw [List.mem_singleton] at hu
  subst hu
  rfl
theorem byte_ix (T : ByteArray) (k : Nat) (c : UInt8) (h : T.data.toList[k]? = some c) (w : World) : (Instr.index 9 (.string T) (.int .i64 (k : Int))).run Tryz.prog w = .ok (.int .u8 (c.toNat : Int)) w:=by
  have hk : k < T.size:=by
    have:=(List.getElem?_eq_some_iff.1 h).1
    rw [sz_len] at this
    exact this
  rw [run_index_string w 9 T .i64 _ Tryz.underlying9,dif_pos ⟨by omega,by omega⟩]
  have e : T[k] = c:=by
    have h2:=(List.getElem?_eq_some_iff.1 h).2
    rw [← h2]
    rfl
  simp [e]
theorem sp_flag {w0 W : World} {l : List UInt8} {v : Value} (b : Bool) (hq : QK w0 l v W) (hl : l.length ≤ 100000000000000) :
    Calls Tryz.prog 41 #[v,.bool b] W (AP w0 W (l ++ fb b)):=by
  obtain ⟨i0,hi0,hz0,hz1,hz2⟩:=info_parts info5
  have HI0 : Hid (Tryz.prog.info? 5 = some i0):=hi0
  have howna : ∀ o : Obj,(W.alloc o).ownsRow w0.heap.size 5 1 v l.length (Lib.byteCells l):=fun o=>hq.1.alloc o
  have hsz:=hq.2.size
  cases b
  · have HADD : Hid (∀ o v2 w5,_ → _ → _):=qk_push hq (Lib.OthersKept.refl _ _ W) 0 0 rfl
    clear hi0 hq
    go_enter Tryz.func41,Tryz.ntmps41
    go_wp2_with (at_builtin;refine wpList_append_own _ rfl (.tmp 9) (.tmp 10) 26 rfl w0.heap.size 5 i0 (.int .u8 0) 1 1 Tryz.underlying26 HI0 hz0 hz1 hz2 rfl (by decide) _ _ _ rfl (howna _) ⟨W.heap.size,0,none⟩ 1 1 [.int .u8 0] rfl rfl (qr_cells W #[.int .u8 0] 5 _ rfl) (bc_lit 0) (by unfold maxLen;omega) (by omega) (by simp;omega) ?_;intro v2 w5 hown1 hgrow1 _)
    obtain ⟨y1,y2⟩:=(show ∀ o v2 w5,_ → _ → _ from HADD) _ _ _ hown1 hgrow1
    clear HADD hown1 hgrow1 howna
    go_wp2_with fail
    go_ret
    exact ⟨v2,rfl,y1,y2⟩
  · have HADD : Hid (∀ o v2 w5,_ → _ → _):=qk_push hq (Lib.OthersKept.refl _ _ W) 1 1 rfl
    clear hi0 hq
    go_enter Tryz.func41,Tryz.ntmps41
    go_wp2_with (at_builtin;refine wpList_append_own _ rfl (.tmp 6) (.tmp 7) 26 rfl w0.heap.size 5 i0 (.int .u8 0) 1 1 Tryz.underlying26 HI0 hz0 hz1 hz2 rfl (by decide) _ _ _ rfl (howna _) ⟨W.heap.size,0,none⟩ 1 1 [.int .u8 1] rfl rfl (qr_cells W #[.int .u8 1] 5 _ rfl) (bc_lit 1) (by unfold maxLen;omega) (by omega) (by simp;omega) ?_;intro v2 w5 hown1 hgrow1 _)
    obtain ⟨y1,y2⟩:=(show ∀ o v2 w5,_ → _ → _ from HADD) _ _ _ hown1 hgrow1
    clear HADD hown1 hgrow1 howna
    go_wp2_with fail
    go_ret
    exact ⟨v2,rfl,y1,y2⟩
theorem sp_text {w0 W : World} {l : List UInt8} {v : Value} (x : ByteArray) (hx : (x.size : Int) ≤ 1048576) (hq : QK w0 l v W) (hl : l.length ≤ 90000000000000) :
    Calls Tryz.prog 40 #[v,.string x] W (AP w0 W (l ++ tb x)):=by
  obtain ⟨i0,hi0,hz0,hz1,hz2⟩:=info_parts info5
  have HI0 : Hid (Tryz.prog.info? 5 = some i0):=hi0
  have HC:=sp_num (x.size : Int) (by omega) (by omega) hq (by omega)
  have hnl:=nb_len (n:=(x.size : Int)) (by omega) (by omega)
  have HT : Hid (tb x = nb (x.size : Int) ++ x.data.toList ∧ (nb (x.size : Int)).length ≤ 10 ∧ l.length ≤ 90000000000000):=(⟨rfl,hnl,hl⟩ : _ ∧ _)
  clear hi0 hq hl hnl
  go_enter Tryz.func40,Tryz.ntmps40
  go_wp2_with fail
  refine HC.mono ?_
  rintro e w1 ⟨v1,rfl,hq1,ho1⟩
  have HS : Hid (QK w0 ((l ++ nb (x.size : Int)) ++ x.data.toList.take 0) v1 w1 ∧ Lib.OthersKept 5 none W w1):=(⟨by rw [List.take_zero,List.append_nil];exact hq1,ho1⟩ : _ ∧ _)
  clear HC hq1 ho1
  go_wp2_with fail
  go_loopw [0,5] (fun s0 s5 wr=>∃ (k : Nat) (v : Value),k ≤ x.size ∧ s5 = .int .i64 (k : Int) ∧ v = s0 ∧ Hid (QK w0 ((l ++ nb (x.size : Int)) ++ x.data.toList.take k) v wr ∧ Lib.OthersKept 5 none W wr)) (fun _ s5 _=>x.size - (intOf s5).toNat)
  case atStart=>exact ⟨0,_,by omega,rfl,rfl,HS⟩
  case round =>
    clear HS
    obtain ⟨k,v,hk,rfl,hv,HB⟩:=hrel
    subst hv
    obtain ⟨hq,hok⟩:=(show _ ∧ _ from HB)
    obtain ⟨ht,hnl,hl⟩:=(show _ ∧ _ ∧ _ from HT)
    by_cases hkl : k < x.size
    · have hkI : (k : Int) < (x.size : Int):=by omega
      have hkc : x.data.toList[k]? = some (x.data.toList[k]'(by rw [sz_len];exact hkl)):=List.getElem?_eq_getElem _
      obtain ⟨c,hcc⟩ : ∃ c,c = x.data.toList[k]'(by rw [sz_len];exact hkl):=⟨_,rfl⟩
      rw [← hcc] at hkc
      have hix:=byte_ix x k c hkc
      have htk : x.data.toList.take (k + 1) = x.data.toList.take k ++ [c]:=by
        rw [List.take_add_one,hkc]
        rfl
      have hlen : ((l ++ nb (x.size : Int)) ++ x.data.toList.take k).length ≤ 90000002000000:=by
        rw [List.length_append,List.length_append,List.length_take]
        omega
      obtain ⟨pre,hpre⟩ : ∃ pre,pre = (l ++ nb (x.size : Int)) ++ x.data.toList.take k:=⟨_,rfl⟩
      rw [← hpre] at hq hlen
      have HADD : Hid (∀ (o : Obj) (v2 : Value) (w5 : World),w5.ownsRow w0.heap.size 5 1 v2 (pre.length + 1) (Lib.byteCells pre ++ [.int .u8 (c.toNat : Int)]) → (wr.alloc o).grownBy w5 v.ownBlock → QK w0 ((l ++ nb (x.size : Int)) ++ x.data.toList.take (k + 1)) v2 w5 ∧ Lib.OthersKept 5 none W w5):=(fun o v2 w5 ho hg=>by
        rw [htk,← List.append_assoc,← hpre]
        exact qk_push hq hok c _ rfl o v2 w5 ho hg : ∀ (o : Obj),_)
      have howna : ∀ o : Obj,(wr.alloc o).ownsRow w0.heap.size 5 1 v pre.length (Lib.byteCells pre):=fun o=>hq.1.alloc o
      have hsz:=hq.2.size
      clear hq hok HB hkc hcc htk hpre ht hnl hl HT
      generalize (c.toNat : Int) = ci at *
      go_wp2_with (at_builtin;refine wpList_append_own _ rfl (.tmp 16) (.tmp 20) 26 rfl w0.heap.size 5 i0 (.int .u8 0) 1 1 Tryz.underlying26 HI0 hz0 hz1 hz2 rfl (by decide) _ _ _ rfl (howna _) ⟨wr.heap.size,0,none⟩ 1 1 [.int .u8 ci] rfl rfl (qr_cells wr #[.int .u8 ci] 5 _ rfl) (bc_lit _) (by unfold maxLen;omega) (by omega) (by simp;omega) ?_;intro v2 w5 hown1 hgrow1 _)
      have HN : Hid _:=(show ∀ (o : Obj) (v2 : Value) (w5 : World),_ → _ → _ from HADD) _ _ _ hown1 hgrow1
      clear HADD hown1 hgrow1 howna hix
      go_wp2_with fail
      go_roundw
      case rel=>exact ⟨k + 1,v2,by omega,by go_num,rfl,HN⟩
      case measure=>simp [intOf];omega
    · obtain rfl : k = x.size:=by omega
      have hkI : ¬ (x.size : Int) < (x.size : Int):=by omega
      have HN : Hid (QK w0 (l ++ tb x) v wr ∧ Lib.OthersKept 5 none W wr):=by
        rw [← sz_len,List.take_length,List.append_assoc,sz_len,← ht] at hq
        exact (⟨hq,hok⟩ : _ ∧ _)
      clear hq hok HB ht hnl hl HT
      go_wp2_with fail
      go_ret
      exact ⟨v,rfl,HN.1,HN.2⟩
end Go.Proofs.YtnmeemjoodoalaaGreatDoor.Fo
