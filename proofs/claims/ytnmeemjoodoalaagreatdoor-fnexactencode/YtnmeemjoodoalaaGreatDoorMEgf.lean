import Derived.Test.YtnmeemjoodoalaaGreatDoorMEge
import Derived.Test.YtnmeemjoodoalaaGreatDoorMBab
set_option maxRecDepth 100000
set_option maxHeartbeats 4000000
namespace Go.Proofs.YtnmeemjoodoalaaGreatDoor.Fo
open Go.ChangeShapes Go.WideShapes Go.ChangeAt Go.RowKit
set_option linter.unusedVariables false
set_option maxRecDepth 100000
theorem eq_byts {va vb : Value} {n : Nat} {A : Nat → Int} (w : World) (ha : RowV w va n (fun i => .int .u8 (A i))) (hb : RowV w vb n (fun i => .int .u8 (A i))) (hn : n ≤ 1048576) :
    Calls Tryz.prog 9 #[va,vb] w fun e w'=>e = .returned (.bool true) ∧ ∃ d,w' = w.drewN d:=by
  obtain ⟨pa,ca,rfl,ha2⟩:=ha
  obtain ⟨pb,cb,rfl,hb2⟩:=hb
  have HA : Hid ((0 < n → ∃ a : Addr,pa = some a ∧ n ≤ ca ∧ ∀ i,i < n → w.cell? (a.add i) = some (.int .u8 (A i))) ∧ (0 < n → ∃ a : Addr,pb = some a ∧ n ≤ cb ∧ ∀ i,i < n → w.cell? (a.add i) = some (.int .u8 (A i)))):=(⟨ha2,hb2⟩ : _ ∧ _)
  have hnI : (n : Int) ≤ 1048576:=by omega
  clear ha2 hb2 hn
  go_enter Tryz.func9,Tryz.ntmps9
  go_wp2_with fail
  go_loopw [5] (fun s5 wr=>∃ i d : Nat,s5 = .int .i64 (i : Int) ∧ i ≤ n ∧ wr = w.drewN d) (fun s5 _=>n - (intOf s5).toNat)
  case atStart=>exact ⟨0,0,rfl,Nat.zero_le _,rfl⟩
  case round =>
    obtain ⟨i,d,rfl,hin,rfl⟩:=hrel
    rcases Nat.lt_or_ge i n with hi | hi
    · obtain ⟨a,rfl,hca,hra⟩:=HA.1 (by omega)
      obtain ⟨b,rfl,hcb,hrb⟩:=HA.2 (by omega)
      have hiI : (i : Int) < (n : Int):=by omega
      have qa:=hra i hi
      have qb:=hrb i hi
      clear hra hrb HA hin
      generalize A i = x at *
      go_wp2_with fail
      go_quiet (skip)
      go_wp2_with fail
      go_roundw
      case rel=>exact ⟨i + 1,_,by go_num,by omega,rfl⟩
      case measure=>simp [intOf];omega
    · obtain rfl : i = n:=by omega
      clear HA
      go_wp2_with fail
      go_ret
      exact ⟨rfl,_,rfl⟩
theorem mark_byts {v : Value} {g n : Nat} {A : Nat → Int} (w : World) (k : Int) (ha : OwnR w v g n (fun i => .int .u8 (A i))) (hn : n ≤ 1048576) (hk0 : 0 ≤ k) (hk : k ≤ 100000000) :
    Calls Tryz.prog 12 #[v,.int .i64 k] w fun e w'=>e = .returned (.int .i64 (k + (n : Int))) ∧ Kq (fun j=>0 < n ∧ j = g) w w' ∧ OwnR w' v g n (fun i=>.int .u8 ((k + (i : Int)) % 256)):=by
  obtain ⟨pa,ca,rfl,ha2⟩:=ha.sl
  by_cases h0 : n = 0
  · subst h0
    go_enter Tryz.func12,Tryz.ntmps12
    go_wp2_with fail
    refine wp_loop_rounds 1 ?_
    rw [rounds_succ]
    go_wp2_with fail
    go_ret
    exact ⟨by simp,Kq.refl _ _,⟨⟨pa,ca,rfl,ha2⟩,fun i hi=>by omega,fun f=>by omega⟩⟩
  · obtain ⟨rfl,hca⟩:=ha2 (by omega)
    have HI0 : Hid (MkR w g n (fun i=>.int .u8 (A i)) (fun i=>.int .u8 ((k + (i : Int)) % 256)) 0 w):=(⟨Kq.refl _ _,fun i hi=>by omega,fun i _ hi=>ha.cell i hi,ha.fz (by omega)⟩ : MkR w g n _ _ 0 w)
    have hnI : (n : Int) ≤ 1048576:=by omega
    have HN0 : Hid (0 < n):=(by omega : 0 < n)
    clear ha2 ha h0
    go_enter Tryz.func12,Tryz.ntmps12
    go_wp2_with fail
    go_loopw [1,5] (fun s1 s5 wr=>∃ i : Nat,s5 = .int .i64 (i : Int) ∧ s1 = .int .i64 (k + (i : Int)) ∧ i ≤ n ∧ Hid (MkR w g n (fun i=>.int .u8 (A i)) (fun i=>.int .u8 ((k + (i : Int)) % 256)) i wr)) (fun _ s5 _=>n - (intOf s5).toNat)
    case atStart=>exact ⟨0,rfl,by simp,Nat.zero_le _,HI0⟩
    case round =>
      clear HI0
      obtain ⟨i,rfl,rfl,hin,HI⟩:=hrel
      have hI:=(show MkR w g n (fun i=>.int .u8 (A i)) (fun i=>.int .u8 ((k + (i : Int)) % 256)) i wr from HI)
      rcases Nat.lt_or_ge i n with hi | hi
      · have hiI : (i : Int) < (n : Int):=by omega
        obtain ⟨c,f,hM⟩:=hI.step hi (Below.refl _ _)
        have hx : k + (i : Int) ≤ 101048576:=by omega
        have hx0 : 0 ≤ k + (i : Int):=by omega
        have HM : Hid (MkR w g n (fun i=>.int .u8 (A i)) (fun i=>.int .u8 ((k + (i : Int)) % 256)) (i + 1) (wr.setCell ⟨g,i,none⟩ (.int .u8 ((k + (i : Int)) % 256)))):=hM
        clear hM hI HI hin
        generalize A i = y at c
        have hxk : ∃ x : Int,x = k + (i : Int):=⟨_,rfl⟩
        obtain ⟨x,hxk⟩:=hxk
        have HX : Hid (x = k + (i : Int)):=hxk
        rw [← hxk] at hx hx0 HM ⊢
        clear hxk
        have hwr : IntKind.u8.wrap x = x % 256:=wrap_u8 x
        obtain ⟨xb,hxb⟩ : ∃ xb,xb = x % 256:=⟨_,rfl⟩
        rw [← hxb] at hwr HM
        clear hxb
        go_wp2_with fail
        go_roundw
        case rel=>exact ⟨i + 1,by go_num,by rw [show x = k + (i : Int) from HX];exact congrArg (Value.int .i64) (by omega),by omega,HM⟩
        case measure=>simp [intOf];omega
      · obtain rfl : i = n:=by omega
        have HE : Hid (MkR w g i (fun i=>.int .u8 (A i)) (fun i=>.int .u8 ((k + (i : Int)) % 256)) i wr):=hI
        clear HI hI
        go_wp2_with fail
        go_ret
        exact ⟨rfl,HE.kq.mono (fun j e=>⟨HN0,e⟩),⟨⟨_,ca,rfl,fun _=>⟨rfl,hca⟩⟩,fun j hj=>HE.don j hj,fun _ j=>HE.fz j⟩⟩
theorem held_byts {va : Value} {n : Nat} (w : World) (k : Int) (ha : RowV w va n (fun i => .int .u8 ((k + (i : Int)) % 256))) (hn : n ≤ 1048576) (hk0 : 0 ≤ k) (hk : k ≤ 100000000) :
    Calls Tryz.prog 13 #[va,.int .i64 k] w fun e w'=>e = .returned (.int .i64 (k + (n : Int))) ∧ ∃ d,w' = w.drewN d:=by
  obtain ⟨pa,ca,rfl,ha2⟩:=ha
  have HA : Hid (0 < n → ∃ a : Addr,pa = some a ∧ n ≤ ca ∧ ∀ i,i < n → w.cell? (a.add i) = some (.int .u8 ((k + (i : Int)) % 256))):=ha2
  have hnI : (n : Int) ≤ 1048576:=by omega
  clear ha2 hn
  go_enter Tryz.func13,Tryz.ntmps13
  go_wp2_with fail
  go_loopw [1,5] (fun s1 s5 wr=>∃ i d : Nat,s1 = .int .i64 (k + (i : Int)) ∧ s5 = .int .i64 (i : Int) ∧ i ≤ n ∧ wr = w.drewN d) (fun _ s5 _=>n - (intOf s5).toNat)
  case atStart=>exact ⟨0,0,by simp,rfl,Nat.zero_le _,rfl⟩
  case round =>
    obtain ⟨i,d,rfl,rfl,hin,rfl⟩:=hrel
    rcases Nat.lt_or_ge i n with hi | hi
    · obtain ⟨a,rfl,hca,hra⟩:=(show (0 < n → ∃ a : Addr,pa = some a ∧ n ≤ ca ∧ ∀ i,i < n → w.cell? (a.add i) = some (.int .u8 ((k + (i : Int)) % 256))) from HA) (by omega)
      have hiI : (i : Int) < (n : Int):=by omega
      have qa:=hra i hi
      clear hra HA hin
      have hx : k + (i : Int) ≤ 101048576:=by omega
      have hx0 : 0 ≤ k + (i : Int):=by omega
      generalize hxk : k + (i : Int) = x at *
      have hwr : IntKind.u8.wrap x = x % 256:=wrap_u8 x
      go_wp2_with fail
      go_roundw
      case rel=>exact ⟨i + 1,_,by subst hxk;go_num,by go_num,by omega,rfl⟩
      case measure=>simp [intOf];omega
    · obtain rfl : i = n:=by omega
      clear HA
      go_wp2_with fail
      go_ret
      exact ⟨rfl,_,rfl⟩
theorem own_of {W : World} {B : Nat} {v : Value} {l : List UInt8} (h : W.ownsRow B 5 1 v l.length (Lib.byteCells l)) : ∃ g,(0 < l.length → B ≤ g ∧ g < W.heap.size) ∧ OwnR W v g l.length (fun i=>.int .u8 ((l.getD i 0).toNat : Int)):=by
  rcases h.2 with ⟨h1,h2⟩ | ⟨g,cap,cur,h1,h2,h3,h4,h5,h6,h7⟩
  · refine ⟨0,fun q=>by omega,⟨⟨none,0,by rw [h2];exact h1,fun q=>by omega⟩,fun i hi=>by omega,fun q=>by omega⟩⟩
  · refine ⟨g,fun _=>⟨h2,(Array.getElem?_eq_some_iff.1 h3).1⟩,⟨⟨_,cap,h1,fun _=>⟨rfl,h4⟩⟩,fun i hi=>?_,fun _ j=>frozen_of h3⟩⟩
    have:=h.cells (g:=g) (by rw [h1];rfl) i (.int .u8 ((l.getD i 0).toNat : Int)) (by simp [Lib.byteCells,List.getD,hi])
    rw [addr0] at this
    exact this
theorem OwnR.kb {W W' : World} {v : Value} {g n : Nat} {A : Nat → Value} (h : OwnR W v g n A) (k : n ≠ 0 → W'.heap[g]? = W.heap[g]?) : OwnR W' v g n A:=by
  refine ⟨h.sl,fun i hi=>?_,fun q j=>?_⟩
  · rw [World.cell?_of_block (w:=W) (k (by omega))];exact h.cell i hi
  · rw [World.frozen?_of_block (w:=W) (k (by omega))];exact h.fz q j
theorem sp_num {w0 W : World} {l : List UInt8} {v : Value} (n : Int) (h0 : -9223372036854775808 ≤ n) (h1 : n ≤ 9223372036854775807) (hq : QK w0 l v W) (hl : l.length ≤ 100000000000000) :
    Calls Tryz.prog 20 #[v,.int .i64 n] W (AP w0 W (l ++ nb n)):=by
  obtain ⟨i0,hi0,hz0,hz1,hz2⟩:=info_parts info5
  have HI0 : Hid (Tryz.prog.info? 5 = some i0):=hi0
  have HQ : Hid (QK w0 l v W ∧ l.length ≤ 100000000000000):=(⟨hq,hl⟩ : _ ∧ _)
  clear hi0 hq hl
  by_cases hn : n < 0
  · have e1 : IntKind.u64.wrap (IntKind.u64.wrap n * 2) = 18446744073709551616 + 2 * n:=by rw [wrap_u64,wrap_u64];omega
    have e2 : bits BinOp.xor IntKind.u64 IntKind.u64.max (18446744073709551616 + 2 * n) = (zz n : Int):=zz_neg h0 hn
    go_enter Tryz.func20,Tryz.ntmps20
    go_wp2_with fail
    clear e1 e2 hn
    go_loopw [0,5] (fun s0 s5 wr=>∃ (u : Nat) (acc : List UInt8) (v' : Value),v' = s0 ∧ s5 = .int .u64 (u : Int) ∧ (u : Int) < 18446744073709551616 ∧ Hid (QK w0 (l ++ acc) v' wr ∧ Lib.OthersKept 5 none W wr ∧ nb n = acc ++ vb u ∧ acc.length ≤ 10)) (fun _ s5 _=>(intOf s5).toNat)
    case atStart=>exact ⟨zz n,[],v,rfl,rfl,by have:=zz_lt h0 h1;omega,(⟨by rw [List.append_nil];exact HQ.1,Lib.OthersKept.refl _ _ _,rfl,by simp⟩ : _ ∧ _)⟩
    case round =>
      obtain ⟨u,acc,v',hv,rfl,hu,HX⟩:=hrel
      subst hv
      obtain ⟨hq,hok,hnb,hac⟩:=(show _ ∧ _ ∧ _ ∧ _ from HX)
      have hl:=HQ.2
      have hsz:=hq.2.size
      have hlen : (l ++ acc).length ≤ 100000000000010:=by rw [List.length_append];omega
      have howna : ∀ o : Obj,(wr.alloc o).ownsRow w0.heap.size 5 1 v' (l ++ acc).length (Lib.byteCells (l ++ acc)):=fun o=>hq.1.alloc o
      by_cases hc : u < 128
      · rw [vb_lt hc] at hnb
        have hg : ¬ (127 : Int) < (u : Int):=by omega
        have hcv : IntKind.u8.wrap (u : Int) = (u : Int):=by rw [wrap_u8];omega
        have hbc : Lib.byteCells [UInt8.ofNat u] = [.int .u8 (u : Int)]:=by
          simp only [Lib.byteCells,List.map_cons,List.map_nil]
          rw [UInt8.toNat_ofNat',Nat.mod_eq_of_lt (by omega)]
        have HADD : Hid (∀ (o : Obj) (v2 : Value) (w5 : World),w5.ownsRow w0.heap.size 5 1 v2 ((l ++ acc).length + 1) (Lib.byteCells (l ++ acc) ++ [.int .u8 (u : Int)]) → (wr.alloc o).grownBy w5 v'.ownBlock → QK w0 (l ++ nb n) v2 w5 ∧ Lib.OthersKept 5 none W w5):=(fun o v2 w5 ho hg=>by
          rw [← hbc] at ho
          have h2:=hq.call (kb_alloc 0 wr o)
          refine ⟨?_,(hok.trans (ok_kb (kb_alloc 0 wr o) none)).trans (ok_grown h2 hg)⟩
          rw [hnb,← List.append_assoc]
          exact h2.add (m:=[UInt8.ofNat u]) rfl ho hg : ∀ (o : Obj),_)
        have h1c:=bc_one [UInt8.ofNat u]
        rw [hbc] at h1c
        clear hq hok hnb hac hl HX HQ hbc
        go_wp2_with (at_builtin;refine wpList_append_own _ rfl (.tmp 24) (.tmp 27) 26 rfl w0.heap.size 5 i0 (.int .u8 0) 1 1 Tryz.underlying26 HI0 hz0 hz1 hz2 rfl (by decide) _ _ _ rfl (howna _) ⟨wr.heap.size,0,none⟩ 1 1 [.int .u8 (u : Int)] rfl rfl (qr_cells wr #[.int .u8 (u : Int)] 5 _ rfl) h1c (by unfold maxLen;omega) (by omega) (by simp;omega) ?_;intro v2 w5 hown1 hgrow1 _)
        obtain ⟨y1,y2⟩:=(show ∀ (o : Obj) (v2 : Value) (w5 : World),_ → _ → _ from HADD) _ _ _ hown1 hgrow1
        clear HADD hown1 hgrow1 howna
        go_wp2_with fail
        go_ret
        exact ⟨v2,rfl,y1,y2⟩
      · rw [vb_ge hc] at hnb
        have hg : (127 : Int) < (u : Int):=by omega
        have hand : bits .and .u64 (u : Int) 127 = ((u % 128 : Nat) : Int):=and127 u (by omega)
        have hor : bits .or .u64 ((u % 128 : Nat) : Int) 128 = ((128 + u % 128 : Nat) : Int):=or128 _ (by omega)
        have hbc : Lib.byteCells [UInt8.ofNat (128 + u % 128)] = [.int .u8 ((128 + u % 128 : Nat) : Int)]:=by
          simp only [Lib.byteCells,List.map_cons,List.map_nil]
          rw [UInt8.toNat_ofNat',Nat.mod_eq_of_lt (by omega)]
        have HADD : Hid (∀ (o : Obj) (v2 : Value) (w5 : World),w5.ownsRow w0.heap.size 5 1 v2 ((l ++ acc).length + 1) (Lib.byteCells (l ++ acc) ++ [.int .u8 ((128 + u % 128 : Nat) : Int)]) → (wr.alloc o).grownBy w5 v'.ownBlock → QK w0 (l ++ (acc ++ [UInt8.ofNat (128 + u % 128)])) v2 w5 ∧ Lib.OthersKept 5 none W w5 ∧ nb n = (acc ++ [UInt8.ofNat (128 + u % 128)]) ++ vb (u / 128) ∧ (acc ++ [UInt8.ofNat (128 + u % 128)]).length ≤ 10):=(fun o v2 w5 ho hg=>by
          rw [← hbc] at ho
          have h2:=hq.call (kb_alloc 0 wr o)
          have hnn:=nb_len h0 h1
          refine ⟨?_,(hok.trans (ok_kb (kb_alloc 0 wr o) none)).trans (ok_grown h2 hg),by rw [hnb,List.append_assoc];rfl,by rw [hnb] at hnn;simp at hnn ⊢;omega⟩
          rw [← List.append_assoc]
          exact h2.add (m:=[UInt8.ofNat (128 + u % 128)]) rfl ho hg : ∀ (o : Obj),_)
        have h1c:=bc_one [UInt8.ofNat (128 + u % 128)]
        rw [hbc] at h1c
        obtain ⟨B,hB⟩ : ∃ B : Int,B = ((128 + u % 128 : Nat) : Int):=⟨_,rfl⟩
        have hB1 : (128 : Int) ≤ B:=by omega
        have hB2 : B < 256:=by omega
        have hcv : IntKind.u8.wrap B = B:=by rw [wrap_u8];omega
        rw [← hB] at hor HADD h1c
        obtain ⟨u2,hu2⟩ : ∃ u2,u2 = u / 128:=⟨_,rfl⟩
        rw [← hu2] at HADD
        have hdv : (u : Int) / 128 = (u2 : Int):=by omega
        have HUL : Hid (u2 < u ∧ (u2 : Int) < 18446744073709551616):=(⟨by omega,by omega⟩ : _ ∧ _)
        clear hq hok hnb hac hl HX hbc hB hu2
        generalize ((u % 128 : Nat) : Int) = r7 at *
        go_wp2_with (at_builtin;refine wpList_append_own _ rfl (.tmp 15) (.tmp 20) 26 rfl w0.heap.size 5 i0 (.int .u8 0) 1 1 Tryz.underlying26 HI0 hz0 hz1 hz2 rfl (by decide) _ _ _ rfl (howna _) ⟨wr.heap.size,0,none⟩ 1 1 [.int .u8 B] rfl rfl (qr_cells wr #[.int .u8 B] 5 _ rfl) h1c (by unfold maxLen;omega) (by omega) (by simp;omega) ?_;intro v2 w5 hown1 hgrow1 _)
        have HN : Hid _:=(show ∀ (o : Obj) (v2 : Value) (w5 : World),_ → _ → _ from HADD) _ _ _ hown1 hgrow1
        clear HADD hown1 hgrow1 howna
        go_wp2_with fail
        go_roundw
        case rel=>exact ⟨u2,_,v2,rfl,rfl,HUL.2,HN⟩
        case measure=>exact (show u2 < u ∧ _ from HUL).1
  · have e1 : n * 2 = (zz n : Int):=by unfold zz;rw [if_pos (by omega)];omega
    go_enter Tryz.func20,Tryz.ntmps20
    go_wp2_with fail
    clear e1 hn
    go_loopw [0,5] (fun s0 s5 wr=>∃ (u : Nat) (acc : List UInt8) (v' : Value),v' = s0 ∧ s5 = .int .u64 (u : Int) ∧ (u : Int) < 18446744073709551616 ∧ Hid (QK w0 (l ++ acc) v' wr ∧ Lib.OthersKept 5 none W wr ∧ nb n = acc ++ vb u ∧ acc.length ≤ 10)) (fun _ s5 _=>(intOf s5).toNat)
    case atStart=>exact ⟨zz n,[],v,rfl,rfl,by have:=zz_lt h0 h1;omega,(⟨by rw [List.append_nil];exact HQ.1,Lib.OthersKept.refl _ _ _,rfl,by simp⟩ : _ ∧ _)⟩
    case round =>
      obtain ⟨u,acc,v',hv,rfl,hu,HX⟩:=hrel
      subst hv
      obtain ⟨hq,hok,hnb,hac⟩:=(show _ ∧ _ ∧ _ ∧ _ from HX)
      have hl:=HQ.2
      have hsz:=hq.2.size
      have hlen : (l ++ acc).length ≤ 100000000000010:=by rw [List.length_append];omega
      have howna : ∀ o : Obj,(wr.alloc o).ownsRow w0.heap.size 5 1 v' (l ++ acc).length (Lib.byteCells (l ++ acc)):=fun o=>hq.1.alloc o
      by_cases hc : u < 128
      · rw [vb_lt hc] at hnb
        have hg : ¬ (127 : Int) < (u : Int):=by omega
        have hcv : IntKind.u8.wrap (u : Int) = (u : Int):=by rw [wrap_u8];omega
        have hbc : Lib.byteCells [UInt8.ofNat u] = [.int .u8 (u : Int)]:=by
          simp only [Lib.byteCells,List.map_cons,List.map_nil]
          rw [UInt8.toNat_ofNat',Nat.mod_eq_of_lt (by omega)]
        have HADD : Hid (∀ (o : Obj) (v2 : Value) (w5 : World),w5.ownsRow w0.heap.size 5 1 v2 ((l ++ acc).length + 1) (Lib.byteCells (l ++ acc) ++ [.int .u8 (u : Int)]) → (wr.alloc o).grownBy w5 v'.ownBlock → QK w0 (l ++ nb n) v2 w5 ∧ Lib.OthersKept 5 none W w5):=(fun o v2 w5 ho hg=>by
          rw [← hbc] at ho
          have h2:=hq.call (kb_alloc 0 wr o)
          refine ⟨?_,(hok.trans (ok_kb (kb_alloc 0 wr o) none)).trans (ok_grown h2 hg)⟩
          rw [hnb,← List.append_assoc]
          exact h2.add (m:=[UInt8.ofNat u]) rfl ho hg : ∀ (o : Obj),_)
        have h1c:=bc_one [UInt8.ofNat u]
        rw [hbc] at h1c
        clear hq hok hnb hac hl HX HQ hbc
        go_wp2_with (at_builtin;refine wpList_append_own _ rfl (.tmp 24) (.tmp 27) 26 rfl w0.heap.size 5 i0 (.int .u8 0) 1 1 Tryz.underlying26 HI0 hz0 hz1 hz2 rfl (by decide) _ _ _ rfl (howna _) ⟨wr.heap.size,0,none⟩ 1 1 [.int .u8 (u : Int)] rfl rfl (qr_cells wr #[.int .u8 (u : Int)] 5 _ rfl) h1c (by unfold maxLen;omega) (by omega) (by simp;omega) ?_;intro v2 w5 hown1 hgrow1 _)
        obtain ⟨y1,y2⟩:=(show ∀ (o : Obj) (v2 : Value) (w5 : World),_ → _ → _ from HADD) _ _ _ hown1 hgrow1
        clear HADD hown1 hgrow1 howna
        go_wp2_with fail
        go_ret
        exact ⟨v2,rfl,y1,y2⟩
      · rw [vb_ge hc] at hnb
        have hg : (127 : Int) < (u : Int):=by omega
        have hand : bits .and .u64 (u : Int) 127 = ((u % 128 : Nat) : Int):=and127 u (by omega)
        have hor : bits .or .u64 ((u % 128 : Nat) : Int) 128 = ((128 + u % 128 : Nat) : Int):=or128 _ (by omega)
        have hbc : Lib.byteCells [UInt8.ofNat (128 + u % 128)] = [.int .u8 ((128 + u % 128 : Nat) : Int)]:=by
          simp only [Lib.byteCells,List.map_cons,List.map_nil]
          rw [UInt8.toNat_ofNat',Nat.mod_eq_of_lt (by omega)]
        have HADD : Hid (∀ (o : Obj) (v2 : Value) (w5 : World),w5.ownsRow w0.heap.size 5 1 v2 ((l ++ acc).length + 1) (Lib.byteCells (l ++ acc) ++ [.int .u8 ((128 + u % 128 : Nat) : Int)]) → (wr.alloc o).grownBy w5 v'.ownBlock → QK w0 (l ++ (acc ++ [UInt8.ofNat (128 + u % 128)])) v2 w5 ∧ Lib.OthersKept 5 none W w5 ∧ nb n = (acc ++ [UInt8.ofNat (128 + u % 128)]) ++ vb (u / 128) ∧ (acc ++ [UInt8.ofNat (128 + u % 128)]).length ≤ 10):=(fun o v2 w5 ho hg=>by
          rw [← hbc] at ho
          have h2:=hq.call (kb_alloc 0 wr o)
          have hnn:=nb_len h0 h1
          refine ⟨?_,(hok.trans (ok_kb (kb_alloc 0 wr o) none)).trans (ok_grown h2 hg),by rw [hnb,List.append_assoc];rfl,by rw [hnb] at hnn;simp at hnn ⊢;omega⟩
          rw [← List.append_assoc]
          exact h2.add (m:=[UInt8.ofNat (128 + u % 128)]) rfl ho hg : ∀ (o : Obj),_)
        have h1c:=bc_one [UInt8.ofNat (128 + u % 128)]
        rw [hbc] at h1c
        obtain ⟨B,hB⟩ : ∃ B : Int,B = ((128 + u % 128 : Nat) : Int):=⟨_,rfl⟩
        have hB1 : (128 : Int) ≤ B:=by omega
        have hB2 : B < 256:=by omega
        have hcv : IntKind.u8.wrap B = B:=by rw [wrap_u8];omega
        rw [← hB] at hor HADD h1c
        obtain ⟨u2,hu2⟩ : ∃ u2,u2 = u / 128:=⟨_,rfl⟩
        rw [← hu2] at HADD
        have hdv : (u : Int) / 128 = (u2 : Int):=by omega
        have HUL : Hid (u2 < u ∧ (u2 : Int) < 18446744073709551616):=(⟨by omega,by omega⟩ : _ ∧ _)
        clear hq hok hnb hac hl HX hbc hB hu2
        generalize ((u % 128 : Nat) : Int) = r7 at *
        go_wp2_with (at_builtin;refine wpList_append_own _ rfl (.tmp 15) (.tmp 20) 26 rfl w0.heap.size 5 i0 (.int .u8 0) 1 1 Tryz.underlying26 HI0 hz0 hz1 hz2 rfl (by decide) _ _ _ rfl (howna _) ⟨wr.heap.size,0,none⟩ 1 1 [.int .u8 B] rfl rfl (qr_cells wr #[.int .u8 B] 5 _ rfl) h1c (by unfold maxLen;omega) (by omega) (by simp;omega) ?_;intro v2 w5 hown1 hgrow1 _)
        have HN : Hid _:=(show ∀ (o : Obj) (v2 : Value) (w5 : World),_ → _ → _ from HADD) _ _ _ hown1 hgrow1
        clear HADD hown1 hgrow1 howna
        go_wp2_with fail
        go_roundw
        case rel=>exact ⟨u2,_,v2,rfl,rfl,HUL.2,HN⟩
        case measure=>exact (show u2 < u ∧ _ from HUL).1
theorem qk_push {w0 W wr : World} {L : List UInt8} {v : Value} (hq : QK w0 L v wr) (hok : Lib.OthersKept 5 none W wr) (c : UInt8) (b : Int) (hb : (c.toNat : Int) = b) (o : Obj) (v2 : Value) (w5 : World) (ho : w5.ownsRow w0.heap.size 5 1 v2 (L.length + 1) (Lib.byteCells L ++ [.int .u8 b])) (hg : (wr.alloc o).grownBy w5 v.ownBlock) : QK w0 (L ++ [c]) v2 w5 ∧ Lib.OthersKept 5 none W w5:=by
  have hbc : Lib.byteCells [c] = [.int .u8 b]:=by simp [Lib.byteCells,hb]
  rw [← hbc] at ho
  have h2:=hq.call (kb_alloc 0 wr o)
  exact ⟨h2.add (m:=[c]) rfl ho hg,(hok.trans (ok_kb (kb_alloc 0 wr o) none)).trans (ok_grown h2 hg)⟩
theorem bc_lit (b : Int) : ∀ u ∈ [Value.int .u8 b],u.oneCell' = true:=by
  intro u hu
  rw [List.mem_singleton] at hu
  subst hu
  rfl
theorem byte_ix (T : ByteArray) (k : Nat) (c : UInt8) (h : T.data.toList[k]? = some c) (w : World) : (Instr.index 9 (.string T) (.int .i64 (k : Int))).run Tryz.prog w = .ok (.int .u8 (c.toNat : Int)) w:=by
  have hk : k < T.size:=by
    have:=(List.getElem?_eq_some_iff.1 h).1
    rw [sz_len] at this
    exact this
  rw [run_index_string w 9 T .i64 _ Tryz.underlying9,dif_pos ⟨by omega,by omega⟩]
  have e : T[k] = c:=by
    have h2:=(List.getElem?_eq_some_iff.1 h).2
    rw [← h2]
    rfl
  simp [e]
theorem sp_flag {w0 W : World} {l : List UInt8} {v : Value} (b : Bool) (hq : QK w0 l v W) (hl : l.length ≤ 100000000000000) :
    Calls Tryz.prog 41 #[v,.bool b] W (AP w0 W (l ++ fb b)):=by
  obtain ⟨i0,hi0,hz0,hz1,hz2⟩:=info_parts info5
  have HI0 : Hid (Tryz.prog.info? 5 = some i0):=hi0
  have howna : ∀ o : Obj,(W.alloc o).ownsRow w0.heap.size 5 1 v l.length (Lib.byteCells l):=fun o=>hq.1.alloc o
  have hsz:=hq.2.size
  cases b
  · have HADD : Hid (∀ o v2 w5,_ → _ → _):=qk_push hq (Lib.OthersKept.refl _ _ W) 0 0 rfl
    clear hi0 hq
    go_enter Tryz.func41,Tryz.ntmps41
    go_wp2_with (at_builtin;refine wpList_append_own _ rfl (.tmp 9) (.tmp 10) 26 rfl w0.heap.size 5 i0 (.int .u8 0) 1 1 Tryz.underlying26 HI0 hz0 hz1 hz2 rfl (by decide) _ _ _ rfl (howna _) ⟨W.heap.size,0,none⟩ 1 1 [.int .u8 0] rfl rfl (qr_cells W #[.int .u8 0] 5 _ rfl) (bc_lit 0) (by unfold maxLen;omega) (by omega) (by simp;omega) ?_;intro v2 w5 hown1 hgrow1 _)
    obtain ⟨y1,y2⟩:=(show ∀ o v2 w5,_ → _ → _ from HADD) _ _ _ hown1 hgrow1
    clear HADD hown1 hgrow1 howna
    go_wp2_with fail
    go_ret
    exact ⟨v2,rfl,y1,y2⟩
  · have HADD : Hid (∀ o v2 w5,_ → _ → _):=qk_push hq (Lib.OthersKept.refl _ _ W) 1 1 rfl
    clear hi0 hq
    go_enter Tryz.func41,Tryz.ntmps41
    go_wp2_with (at_builtin;refine wpList_append_own _ rfl (.tmp 6) (.tmp 7) 26 rfl w0.heap.size 5 i0 (.int .u8 0) 1 1 Tryz.underlying26 HI0 hz0 hz1 hz2 rfl (by decide) _ _ _ rfl (howna _) ⟨W.heap.size,0,none⟩ 1 1 [.int .u8 1] rfl rfl (qr_cells W #[.int .u8 1] 5 _ rfl) (bc_lit 1) (by unfold maxLen;omega) (by omega) (by simp;omega) ?_;intro v2 w5 hown1 hgrow1 _)
    obtain ⟨y1,y2⟩:=(show ∀ o v2 w5,_ → _ → _ from HADD) _ _ _ hown1 hgrow1
    clear HADD hown1 hgrow1 howna
    go_wp2_with fail
    go_ret
    exact ⟨v2,rfl,y1,y2⟩
theorem sp_text {w0 W : World} {l : List UInt8} {v : Value} (x : ByteArray) (hx : (x.size : Int) ≤ 1048576) (hq : QK w0 l v W) (hl : l.length ≤ 90000000000000) :
    Calls Tryz.prog 40 #[v,.string x] W (AP w0 W (l ++ tb x)):=by
  obtain ⟨i0,hi0,hz0,hz1,hz2⟩:=info_parts info5
  have HI0 : Hid (Tryz.prog.info? 5 = some i0):=hi0
  have HC:=sp_num (x.size : Int) (by omega) (by omega) hq (by omega)
  have hnl:=nb_len (n:=(x.size : Int)) (by omega) (by omega)
  have HT : Hid (tb x = nb (x.size : Int) ++ x.data.toList ∧ (nb (x.size : Int)).length ≤ 10 ∧ l.length ≤ 90000000000000):=(⟨rfl,hnl,hl⟩ : _ ∧ _)
  clear hi0 hq hl hnl
  go_enter Tryz.func40,Tryz.ntmps40
  go_wp2_with fail
  refine HC.mono ?_
  rintro e w1 ⟨v1,rfl,hq1,ho1⟩
  have HS : Hid (QK w0 ((l ++ nb (x.size : Int)) ++ x.data.toList.take 0) v1 w1 ∧ Lib.OthersKept 5 none W w1):=(⟨by rw [List.take_zero,List.append_nil];exact hq1,ho1⟩ : _ ∧ _)
  clear HC hq1 ho1
  go_wp2_with fail
  go_loopw [0,5] (fun s0 s5 wr=>∃ (k : Nat) (v : Value),k ≤ x.size ∧ s5 = .int .i64 (k : Int) ∧ v = s0 ∧ Hid (QK w0 ((l ++ nb (x.size : Int)) ++ x.data.toList.take k) v wr ∧ Lib.OthersKept 5 none W wr)) (fun _ s5 _=>x.size - (intOf s5).toNat)
  case atStart=>exact ⟨0,_,by omega,rfl,rfl,HS⟩
  case round =>
    clear HS
    obtain ⟨k,v,hk,rfl,hv,HB⟩:=hrel
    subst hv
    obtain ⟨hq,hok⟩:=(show _ ∧ _ from HB)
    obtain ⟨ht,hnl,hl⟩:=(show _ ∧ _ ∧ _ from HT)
    by_cases hkl : k < x.size
    · have hkI : (k : Int) < (x.size : Int):=by omega
      have hkc : x.data.toList[k]? = some (x.data.toList[k]'(by rw [sz_len];exact hkl)):=List.getElem?_eq_getElem _
      obtain ⟨c,hcc⟩ : ∃ c,c = x.data.toList[k]'(by rw [sz_len];exact hkl):=⟨_,rfl⟩
      rw [← hcc] at hkc
      have hix:=byte_ix x k c hkc
      have htk : x.data.toList.take (k + 1) = x.data.toList.take k ++ [c]:=by
        rw [List.take_add_one,hkc]
        rfl
      have hlen : ((l ++ nb (x.size : Int)) ++ x.data.toList.take k).length ≤ 90000002000000:=by
        rw [List.length_append,List.length_append,List.length_take]
        omega
      obtain ⟨pre,hpre⟩ : ∃ pre,pre = (l ++ nb (x.size : Int)) ++ x.data.toList.take k:=⟨_,rfl⟩
      rw [← hpre] at hq hlen
      have HADD : Hid (∀ (o : Obj) (v2 : Value) (w5 : World),w5.ownsRow w0.heap.size 5 1 v2 (pre.length + 1) (Lib.byteCells pre ++ [.int .u8 (c.toNat : Int)]) → (wr.alloc o).grownBy w5 v.ownBlock → QK w0 ((l ++ nb (x.size : Int)) ++ x.data.toList.take (k + 1)) v2 w5 ∧ Lib.OthersKept 5 none W w5):=(fun o v2 w5 ho hg=>by
        rw [htk,← List.append_assoc,← hpre]
        exact qk_push hq hok c _ rfl o v2 w5 ho hg : ∀ (o : Obj),_)
      have howna : ∀ o : Obj,(wr.alloc o).ownsRow w0.heap.size 5 1 v pre.length (Lib.byteCells pre):=fun o=>hq.1.alloc o
      have hsz:=hq.2.size
      clear hq hok HB hkc hcc htk hpre ht hnl hl HT
      generalize (c.toNat : Int) = ci at *
      go_wp2_with (at_builtin;refine wpList_append_own _ rfl (.tmp 16) (.tmp 20) 26 rfl w0.heap.size 5 i0 (.int .u8 0) 1 1 Tryz.underlying26 HI0 hz0 hz1 hz2 rfl (by decide) _ _ _ rfl (howna _) ⟨wr.heap.size,0,none⟩ 1 1 [.int .u8 ci] rfl rfl (qr_cells wr #[.int .u8 ci] 5 _ rfl) (bc_lit _) (by unfold maxLen;omega) (by omega) (by simp;omega) ?_;intro v2 w5 hown1 hgrow1 _)
      have HN : Hid _:=(show ∀ (o : Obj) (v2 : Value) (w5 : World),_ → _ → _ from HADD) _ _ _ hown1 hgrow1
      clear HADD hown1 hgrow1 howna hix
      go_wp2_with fail
      go_roundw
      case rel=>exact ⟨k + 1,v2,by omega,by go_num,rfl,HN⟩
      case measure=>simp [intOf];omega
    · obtain rfl : k = x.size:=by omega
      have hkI : ¬ (x.size : Int) < (x.size : Int):=by omega
      have HN : Hid (QK w0 (l ++ tb x) v wr ∧ Lib.OthersKept 5 none W wr):=by
        rw [← sz_len,List.take_length,List.append_assoc,sz_len,← ht] at hq
        exact (⟨hq,hok⟩ : _ ∧ _)
      clear hq hok HB ht hnl hl HT
      go_wp2_with fail
      go_ret
      exact ⟨v,rfl,HN.1,HN.2⟩
end Go.Proofs.YtnmeemjoodoalaaGreatDoor.Fo
