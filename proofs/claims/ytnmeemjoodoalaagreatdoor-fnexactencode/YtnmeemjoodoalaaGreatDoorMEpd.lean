import Derived.Test.YtnmeemjoodoalaaGreatDoorMEai
import Derived.Lib.ConvBytes
import Derived.Test.YtnmeemjoodoalaaGreatDoorMCdb
set_option maxHeartbeats 8000000
namespace Go.Proofs.YtnmeemjoodoalaaGreatDoor.Fo
open Go.ChangeShapes Go.WideShapes Go.ChangeAt Go.RowKit
set_option linter.unusedVariables false
set_option maxRecDepth 100000
def nbs : List Int → List UInt8
  | []=>[]
  | n :: r=>nb n ++ nbs r
theorem nbs_app (a b : List Int) : nbs (a ++ b) = nbs a ++ nbs b:=by
  induction a with
  | nil=>rfl
  | cons x a ih=>show nb x ++ nbs (a ++ b) = (nb x ++ nbs a) ++ nbs b;rw [ih,List.append_assoc]
theorem im_numbers {w0 W : World} {l : List UInt8} {g : Nat} {cs : Array Value} (xs : List Int) (hr : ∀ x ∈ xs, Rn x) (hw : WS w0 l W) (hg : W.heap[g]? = some (.cells cs 3 (0, 0))) (hcs : cs.toList = xs.map fun x => Value.int .i64 x) (hgb : g ≠ w0.heap.size) (hl : xs.length ≤ 100) :
    Calls Tryz.prog 53 #[.pointer (some ⟨w0.heap.size,0,none⟩),.slice (some ⟨g,0,none⟩) xs.length xs.length] W (WP w0 W (l ++ nbs xs)):=by
  have HW : Hid (WS w0 l W ∧ (∀ x ∈ xs,Rn x)):=(⟨hw,hr⟩ : _ ∧ _)
  have HG : Hid (∀ W',Lib.OthersKept 5 (some w0.heap.size) W W' → ∀ (i : Nat) (x : Int),xs[i]? = some x → W'.cell? ⟨g,i,none⟩ = some (.int .i64 x)):=(fun W' k i x hx=>by
    have:=ok_cells k hg (by simpa using hgb) (by decide)
    refine cell_of this ?_
    have e : cs[i]? = cs.toList[i]?:=by simp
    rw [e,hcs,List.getElem?_map,hx]
    rfl : ∀ W',_)
  obtain ⟨n,hn⟩ : ∃ n,n = xs.length:=⟨_,rfl⟩
  rw [← hn]
  have HNN : Hid (n = xs.length):=hn
  have hnI : (n : Int) ≤ 100:=by omega
  clear hw hg hcs hgb hl hr hn
  go_enter Tryz.func53,Tryz.ntmps53
  go_wp2_with fail
  go_loopw [9] (fun s9 wr=>∃ (i : Nat),i ≤ n ∧ s9 = .int .i64 (i : Int) ∧ Hid (WS w0 (l ++ nbs (xs.take i)) wr ∧ Lib.OthersKept 5 (some w0.heap.size) W wr)) (fun s9 _=>n - (intOf s9).toNat)
  case atStart=>exact ⟨0,by omega,rfl,(⟨by rw [List.take_zero,show nbs [] = [] from rfl,List.append_nil];exact (show _ ∧ _ from HW).1,Lib.OthersKept.refl _ _ _⟩ : _ ∧ _)⟩
  case round =>
    obtain ⟨i,hi,rfl,HX⟩:=hrel
    obtain ⟨hw,hok⟩:=(show _ ∧ _ from HX)
    have hnn:=(show n = xs.length from HNN)
    by_cases hin : i < n
    · have hI : (i : Int) < (n : Int):=by omega
      obtain ⟨x,hx⟩ : ∃ x,xs[i]? = some x:=⟨_,List.getElem?_eq_getElem (by omega)⟩
      have hc:=(show ∀ W',Lib.OthersKept 5 (some w0.heap.size) W W' → _ from HG) wr hok i x hx
      have hrx:=(show _ ∧ _ from HW).2 x (List.mem_of_getElem? hx)
      have htk : nbs (xs.take (i + 1)) = nbs (xs.take i) ++ nb x:=by
        rw [List.take_add_one,hx,nbs_app]
        show _ ++ (nb x ++ []) = _
        rw [List.append_nil]
      have HC:=im_groups (zz x) (zz_lt hrx.1 hrx.2) hw
      have HO : Hid (Lib.OthersKept 5 (some w0.heap.size) W wr ∧ nbs (xs.take (i + 1)) = nbs (xs.take i) ++ nb x):=(⟨hok,htk⟩ : _ ∧ _)
      by_cases hneg : x < 0
      · have e1 : IntKind.u64.wrap (2 * IntKind.u64.wrap x) = 18446744073709551616 + 2 * x:=by rw [wrap_u64,wrap_u64];have:=hrx.1;omega
        have e2 : IntKind.u64.wrap (-(18446744073709551616 + 2 * x)) = (-2 * x) % 18446744073709551616:=by rw [wrap_u64];have:=hrx.1;omega
        have e3 : IntKind.u64.wrap ((-2 * x) % 18446744073709551616 - 1) = (zz x : Int):=by
          rw [wrap_u64]
          unfold zz
          rw [if_neg (by omega)]
          have:=hrx.1
          omega
        obtain ⟨Z,hZ⟩ : ∃ Z,Z = (zz x : Int):=⟨_,rfl⟩
        rw [← hZ] at HC e3
        clear hw hok hrx htk HX hnn hx hZ
        obtain ⟨A1,hA1⟩ : ∃ A1 : Int,A1 = 18446744073709551616 + 2 * x:=⟨_,rfl⟩
        rw [← hA1] at e1 e2
        obtain ⟨A2,hA2⟩ : ∃ A2 : Int,A2 = (-2 * x) % 18446744073709551616:=⟨_,rfl⟩
        rw [← hA2] at e2 e3
        clear hA1 hA2
        go_wp2_with fail
        refine HC.mono ?_
        rintro e w2 ⟨rfl,y1,y2⟩
        obtain ⟨o1,o2⟩:=(show _ ∧ _ from HO)
        have HN : Hid (WS w0 (l ++ nbs (xs.take (i + 1))) w2 ∧ Lib.OthersKept 5 (some w0.heap.size) W w2):=(⟨by rw [o2,← List.append_assoc];exact y1,o1.trans y2⟩ : _ ∧ _)
        clear HC y1 y2 HO o1 o2 e1 e2 e3
        go_wp2_with fail
        go_roundw
        case rel=>exact ⟨i + 1,by omega,by go_num,HN⟩
        case measure=>simp [intOf];omega
      · have e4 : 2 * x = (zz x : Int):=by unfold zz;rw [if_pos (by omega)];omega
        obtain ⟨Z,hZ⟩ : ∃ Z,Z = (zz x : Int):=⟨_,rfl⟩
        rw [← hZ] at HC e4
        obtain ⟨r1,r2⟩:=hrx
        clear hw hok htk HX hnn hx hZ
        go_wp2_with fail
        refine HC.mono ?_
        rintro e w2 ⟨rfl,y1,y2⟩
        obtain ⟨o1,o2⟩:=(show _ ∧ _ from HO)
        have HN : Hid (WS w0 (l ++ nbs (xs.take (i + 1))) w2 ∧ Lib.OthersKept 5 (some w0.heap.size) W w2):=(⟨by rw [o2,← List.append_assoc];exact y1,o1.trans y2⟩ : _ ∧ _)
        clear HC y1 y2 HO o1 o2 e4
        go_wp2_with fail
        go_roundw
        case rel=>exact ⟨i + 1,by omega,by go_num,HN⟩
        case measure=>simp [intOf];omega
    · obtain rfl : i = n:=by omega
      have hI : ¬ (i : Int) < (i : Int):=by omega
      have HN : Hid (WS w0 (l ++ nbs xs) wr ∧ Lib.OthersKept 5 (some w0.heap.size) W wr):=by
        rw [hnn,List.take_length] at hw
        exact (⟨hw,hok⟩ : _ ∧ _)
      clear hw hok HX hnn HW HG
      go_wp2_with fail
      exact ⟨rfl,.tuple #[],by simp [results,Tryz.results53],rfl,(show _ ∧ _ from HN).1,(show _ ∧ _ from HN).2⟩
theorem im_num1 {w0 W : World} {l : List UInt8} (hw : WS w0 l W) (xs : List Int) (cs : Array Value) (n : Nat) (hn : n = xs.length) (hcs : cs.toList = xs.map fun x => Value.int .i64 x) (hr : ∀ x ∈ xs, Rn x) (hl : xs.length ≤ 100) :
    Calls Tryz.prog 53 #[.pointer (some ⟨w0.heap.size,0,none⟩),.slice (some ⟨W.heap.size,0,none⟩) n n] (W.alloc (.cells cs 3)) (WP w0 W (l ++ nbs xs)):=by
  subst hn
  have hlt:=hw.lt
  refine (im_numbers xs hr (hw.call (kb_alloc 0 W (.cells cs 3))) (alloc_new _ _ _) hcs (by omega) hl).mono ?_
  rintro e w' ⟨h1,h2,h3⟩
  exact ⟨h1,h2,(ok_kb (kb_alloc 0 W _) _).trans h3⟩
theorem kb_bytes (w : World) (s : ByteArray) : Kb 0 w (Lib.bytesWorld w 5 s) :=
  ⟨rfl,rfl,by rw [Lib.bytesWorld_size];omega,fun k _ hk=>Lib.bytesWorld_at_old w _ s k hk⟩
theorem im_text {w0 W : World} {l : List UInt8} (x : ByteArray) (hx : (x.size : Int) ≤ 1048576) (hw : WS w0 l W) :
    Calls Tryz.prog 55 #[.pointer (some ⟨w0.heap.size,0,none⟩),.string x] W (WP w0 W (l ++ tb x)):=by
  have HC:=im_num1 hw [(x.size : Int)] #[.int .i64 (x.size : Int)] 1 rfl rfl (fun y hy=>by rw [List.mem_singleton] at hy;subst hy;exact ⟨by omega,by omega⟩) (by simp)
  clear hw
  go_enter Tryz.func55,Tryz.ntmps55
  go_wp2_with fail
  refine HC.mono ?_
  rintro e w1 ⟨rfl,y1,y2⟩
  have hcv:=Lib.run_convert_string_bytes (P:=Tryz.prog) w1 9 26 5 x Tryz.underlying9 Tryz.underlying26 Tryz.underlying5
  have hk:=kb_bytes w1 x
  have hcl : ∀ j u,(Lib.byteCells x.data.toList)[j]? = some u → (Lib.bytesWorld w1 5 x).cell? ((⟨w1.heap.size,0,none⟩ : Addr).add j) = some u:=by
    intro j u hu
    simp only [Lib.byteCells,List.getElem?_map,Option.map_eq_some_iff] at hu
    obtain ⟨b,hb,rfl⟩:=hu
    have hj : j < x.size:=by
      have:=(List.getElem?_eq_some_iff.1 hb).1
      rw [sz_len] at this
      exact this
    rw [addr0,Lib.bytesWorld_cell w1 _ x j hj]
    simp [List.getD,hb]
  have HP:=fun c=>im_put (c:=c) x.data.toList (y1.call hk) (by have:=y1.lt;show w1.heap.size ≠ _;omega) hcl (by rw [sz_len];omega)
  rw [sz_len] at HP
  have HO : Hid (Lib.OthersKept 5 (some w0.heap.size) W w1 ∧ Kb 0 w1 (Lib.bytesWorld w1 5 x) ∧ (l ++ nbs [(x.size : Int)]) ++ x.data.toList = l ++ tb x):=(⟨y2,hk,by
    show (l ++ (nb (x.size : Int) ++ [])) ++ _ = l ++ (nb (x.size : Int) ++ _)
    rw [List.append_nil,List.append_assoc]⟩ : _ ∧ _)
  generalize Lib.bytesWorld w1 5 x = w2 at *
  generalize grownCap w1 x.size 0 5 = cp at *
  clear HC y1 y2 hk hcl
  go_wp2_with fail
  refine (HP _).mono ?_
  rintro e w3 ⟨rfl,z1,z2⟩
  obtain ⟨o1,o2,o3⟩:=(show _ ∧ _ ∧ _ from HO)
  have HN : Hid (WS w0 (l ++ tb x) w3 ∧ Lib.OthersKept 5 (some w0.heap.size) W w3):=(⟨by rw [← o3];exact z1,(o1.trans (ok_kb o2 _)).trans z2⟩ : _ ∧ _)
  clear HP z1 z2 o1 o2 o3 HO hcv
  go_wp2_with fail
  exact ⟨rfl,.tuple #[],by simp [results,Tryz.results55],rfl,(show _ ∧ _ from HN).1,(show _ ∧ _ from HN).2⟩
theorem im_flag {w0 W : World} {l : List UInt8} (b : Bool) (hw : WS w0 l W) :
    Calls Tryz.prog 56 #[.pointer (some ⟨w0.heap.size,0,none⟩),.bool b] W (WP w0 W (l ++ fb b)):=by
  cases b
  · have HC:=im_put1 hw 0 0 rfl
    clear hw
    go_enter Tryz.func56,Tryz.ntmps56
    go_wp2_with fail
    refine HC.mono ?_
    rintro e w1 ⟨rfl,y1,y2⟩
    have HN : Hid (WS w0 (l ++ fb false) w1 ∧ Lib.OthersKept 5 (some w0.heap.size) W w1):=(⟨y1,y2⟩ : _ ∧ _)
    clear HC y1 y2
    go_wp2_with fail
    exact ⟨rfl,.tuple #[],by simp [results,Tryz.results56],rfl,(show _ ∧ _ from HN).1,(show _ ∧ _ from HN).2⟩
  · have HC:=im_put1 hw 1 1 rfl
    clear hw
    go_enter Tryz.func56,Tryz.ntmps56
    go_wp2_with fail
    refine HC.mono ?_
    rintro e w1 ⟨rfl,y1,y2⟩
    have HN : Hid (WS w0 (l ++ fb true) w1 ∧ Lib.OthersKept 5 (some w0.heap.size) W w1):=(⟨y1,y2⟩ : _ ∧ _)
    clear HC y1 y2
    go_wp2_with fail
    exact ⟨rfl,.tuple #[],by simp [results,Tryz.results56],rfl,(show _ ∧ _ from HN).1,(show _ ∧ _ from HN).2⟩
theorem im_bits (g : Nat) (hg : FloatKind.f64.format.order g g = some .eq) (w : World) : Calls Tryz.prog 146 #[.float .f64 g] w fun e w'=>e = .returned (.int .i64 (wrap64 (g : Int))) ∧ w' = w:=by
  have HN:=nan_f hg w
  have hx:=bits_ext g
  clear hg
  go_enter Tryz.func146,Tryz.ntmps146
  go_wp2_with fail
  refine HN.mono ?_
  rintro e w1 ⟨rfl,rfl⟩
  clear HN
  go_wp2_with fail
  go_ret
  exact ⟨rfl,rfl⟩
theorem im_float {w0 W : World} {l : List UInt8} (g : Nat) (hg : FloatKind.f64.format.order g g = some .eq) (hgl : g < 18446744073709551616) (hw : WS w0 l W) :
    Calls Tryz.prog 115 #[.pointer (some ⟨w0.heap.size,0,none⟩),.float .f64 g] W (WP w0 W (l ++ db g 8)):=by
  have HC:=im_bits g hg W
  obtain ⟨B,hB⟩ : ∃ B,B = wrap64 (g : Int):=⟨_,rfl⟩
  rw [← hB] at HC
  have HB : Hid (B = wrap64 (g : Int) ∧ g < 18446744073709551616):=(⟨hB,hgl⟩ : _ ∧ _)
  have HS : Hid (WS w0 (l ++ db g 0) W ∧ Lib.OthersKept 5 (some w0.heap.size) W W):=(⟨by rw [show db g 0 = [] from rfl,List.append_nil];exact hw,Lib.OthersKept.refl _ _ _⟩ : _ ∧ _)
  clear hg hgl hw hB
  go_enter Tryz.func115,Tryz.ntmps115
  go_wp2_with fail
  refine HC.mono ?_
  rintro e w1 ⟨rfl,hw1⟩
  rw [hw1]
  clear HC hw1 w1
  go_wp2_with fail
  go_loopw [5] (fun s5 wr=>∃ (i : Nat),i ≤ 8 ∧ s5 = .int .i64 (56 - 8 * (i : Int)) ∧ Hid (WS w0 (l ++ db g i) wr ∧ Lib.OthersKept 5 (some w0.heap.size) W wr)) (fun s5 _=>((intOf s5 + 8) / 8).toNat)
  case atStart=>exact ⟨0,by omega,rfl,HS⟩
  case round =>
    clear HS
    obtain ⟨i,hi,rfl,HX⟩:=hrel
    obtain ⟨hw,hok⟩:=(show _ ∧ _ from HX)
    obtain ⟨hB,hgl⟩:=(show _ ∧ _ from HB)
    unfold wrap64 at hB
    rcases (by omega : i = 0 ∨ i = 1 ∨ i = 2 ∨ i = 3 ∨ i = 4 ∨ i = 5 ∨ i = 6 ∨ i = 7 ∨ i = 8) with rfl | rfl | rfl | rfl | rfl | rfl | rfl | rfl | rfl
    · have hbv : ((UInt8.ofNat (g / 2 ^ (56 - 8 * 0))).toNat : Int) = (B / 72057594037927936) % 256 := by
        rw [UInt8.toNat_ofNat',show (2 ^ (56 - 8 * 0) : Nat) = 72057594037927936 from rfl]
        omega
      have HC:=im_put1 hw _ _ hbv
      obtain ⟨bi,hbi⟩ : ∃ bi,bi = (B / 72057594037927936) % 256:=⟨_,rfl⟩
      rw [← hbi] at HC
      have hwv : IntKind.u8.wrap (B / 72057594037927936) = bi:=by rw [wrap_u8,hbi]
      skip
      have HO : Hid (Lib.OthersKept 5 (some w0.heap.size) W wr ∧ db g (0 + 1) = db g 0 ++ [UInt8.ofNat (g / 2 ^ (56 - 8 * 0))]):=(⟨hok,rfl⟩ : _ ∧ _)
      clear hw hok hB hgl hbv HX hbi hi
      go_wp2_with fail
      refine HC.mono ?_
      rintro e w2 ⟨rfl,y1,y2⟩
      obtain ⟨o1,o2⟩:=(show _ ∧ _ from HO)
      have HN : Hid (WS w0 (l ++ db g (0 + 1)) w2 ∧ Lib.OthersKept 5 (some w0.heap.size) W w2):=(⟨by rw [o2,← List.append_assoc];exact y1,o1.trans y2⟩ : _ ∧ _)
      clear HC y1 y2 HO o1 o2 hwv
      go_wp2_with fail
      go_roundw
      case rel=>exact ⟨0 + 1,by omega,by go_num,HN⟩
      case measure=>simp [intOf]
    · have hbv : ((UInt8.ofNat (g / 2 ^ (56 - 8 * 1))).toNat : Int) = (B / 281474976710656) % 256 := by
        rw [UInt8.toNat_ofNat',show (2 ^ (56 - 8 * 1) : Nat) = 281474976710656 from rfl]
        omega
      have HC:=im_put1 hw _ _ hbv
      obtain ⟨bi,hbi⟩ : ∃ bi,bi = (B / 281474976710656) % 256:=⟨_,rfl⟩
      rw [← hbi] at HC
      have hwv : IntKind.u8.wrap (B / 281474976710656) = bi:=by rw [wrap_u8,hbi]
      skip
      have HO : Hid (Lib.OthersKept 5 (some w0.heap.size) W wr ∧ db g (1 + 1) = db g 1 ++ [UInt8.ofNat (g / 2 ^ (56 - 8 * 1))]):=(⟨hok,rfl⟩ : _ ∧ _)
      clear hw hok hB hgl hbv HX hbi hi
      go_wp2_with fail
      refine HC.mono ?_
      rintro e w2 ⟨rfl,y1,y2⟩
      obtain ⟨o1,o2⟩:=(show _ ∧ _ from HO)
      have HN : Hid (WS w0 (l ++ db g (1 + 1)) w2 ∧ Lib.OthersKept 5 (some w0.heap.size) W w2):=(⟨by rw [o2,← List.append_assoc];exact y1,o1.trans y2⟩ : _ ∧ _)
      clear HC y1 y2 HO o1 o2 hwv
      go_wp2_with fail
      go_roundw
      case rel=>exact ⟨1 + 1,by omega,by go_num,HN⟩
      case measure=>simp [intOf]
    · have hbv : ((UInt8.ofNat (g / 2 ^ (56 - 8 * 2))).toNat : Int) = (B / 1099511627776) % 256 := by
        rw [UInt8.toNat_ofNat',show (2 ^ (56 - 8 * 2) : Nat) = 1099511627776 from rfl]
        omega
      have HC:=im_put1 hw _ _ hbv
      obtain ⟨bi,hbi⟩ : ∃ bi,bi = (B / 1099511627776) % 256:=⟨_,rfl⟩
      rw [← hbi] at HC
      have hwv : IntKind.u8.wrap (B / 1099511627776) = bi:=by rw [wrap_u8,hbi]
      skip
      have HO : Hid (Lib.OthersKept 5 (some w0.heap.size) W wr ∧ db g (2 + 1) = db g 2 ++ [UInt8.ofNat (g / 2 ^ (56 - 8 * 2))]):=(⟨hok,rfl⟩ : _ ∧ _)
      clear hw hok hB hgl hbv HX hbi hi
      go_wp2_with fail
      refine HC.mono ?_
      rintro e w2 ⟨rfl,y1,y2⟩
      obtain ⟨o1,o2⟩:=(show _ ∧ _ from HO)
      have HN : Hid (WS w0 (l ++ db g (2 + 1)) w2 ∧ Lib.OthersKept 5 (some w0.heap.size) W w2):=(⟨by rw [o2,← List.append_assoc];exact y1,o1.trans y2⟩ : _ ∧ _)
      clear HC y1 y2 HO o1 o2 hwv
      go_wp2_with fail
      go_roundw
      case rel=>exact ⟨2 + 1,by omega,by go_num,HN⟩
      case measure=>simp [intOf]
    · have hbv : ((UInt8.ofNat (g / 2 ^ (56 - 8 * 3))).toNat : Int) = (B / 4294967296) % 256 := by
        rw [UInt8.toNat_ofNat',show (2 ^ (56 - 8 * 3) : Nat) = 4294967296 from rfl]
        omega
      have HC:=im_put1 hw _ _ hbv
      obtain ⟨bi,hbi⟩ : ∃ bi,bi = (B / 4294967296) % 256:=⟨_,rfl⟩
      rw [← hbi] at HC
      have hwv : IntKind.u8.wrap (B / 4294967296) = bi:=by rw [wrap_u8,hbi]
      skip
      have HO : Hid (Lib.OthersKept 5 (some w0.heap.size) W wr ∧ db g (3 + 1) = db g 3 ++ [UInt8.ofNat (g / 2 ^ (56 - 8 * 3))]):=(⟨hok,rfl⟩ : _ ∧ _)
      clear hw hok hB hgl hbv HX hbi hi
      go_wp2_with fail
      refine HC.mono ?_
      rintro e w2 ⟨rfl,y1,y2⟩
      obtain ⟨o1,o2⟩:=(show _ ∧ _ from HO)
      have HN : Hid (WS w0 (l ++ db g (3 + 1)) w2 ∧ Lib.OthersKept 5 (some w0.heap.size) W w2):=(⟨by rw [o2,← List.append_assoc];exact y1,o1.trans y2⟩ : _ ∧ _)
      clear HC y1 y2 HO o1 o2 hwv
      go_wp2_with fail
      go_roundw
      case rel=>exact ⟨3 + 1,by omega,by go_num,HN⟩
      case measure=>simp [intOf]
    · have hbv : ((UInt8.ofNat (g / 2 ^ (56 - 8 * 4))).toNat : Int) = (B / 16777216) % 256 := by
        rw [UInt8.toNat_ofNat',show (2 ^ (56 - 8 * 4) : Nat) = 16777216 from rfl]
        omega
      have HC:=im_put1 hw _ _ hbv
      obtain ⟨bi,hbi⟩ : ∃ bi,bi = (B / 16777216) % 256:=⟨_,rfl⟩
      rw [← hbi] at HC
      have hwv : IntKind.u8.wrap (B / 16777216) = bi:=by rw [wrap_u8,hbi]
      skip
      have HO : Hid (Lib.OthersKept 5 (some w0.heap.size) W wr ∧ db g (4 + 1) = db g 4 ++ [UInt8.ofNat (g / 2 ^ (56 - 8 * 4))]):=(⟨hok,rfl⟩ : _ ∧ _)
      clear hw hok hB hgl hbv HX hbi hi
      go_wp2_with fail
      refine HC.mono ?_
      rintro e w2 ⟨rfl,y1,y2⟩
      obtain ⟨o1,o2⟩:=(show _ ∧ _ from HO)
      have HN : Hid (WS w0 (l ++ db g (4 + 1)) w2 ∧ Lib.OthersKept 5 (some w0.heap.size) W w2):=(⟨by rw [o2,← List.append_assoc];exact y1,o1.trans y2⟩ : _ ∧ _)
      clear HC y1 y2 HO o1 o2 hwv
      go_wp2_with fail
      go_roundw
      case rel=>exact ⟨4 + 1,by omega,by go_num,HN⟩
      case measure=>simp [intOf]
    · have hbv : ((UInt8.ofNat (g / 2 ^ (56 - 8 * 5))).toNat : Int) = (B / 65536) % 256 := by
        rw [UInt8.toNat_ofNat',show (2 ^ (56 - 8 * 5) : Nat) = 65536 from rfl]
        omega
      have HC:=im_put1 hw _ _ hbv
      obtain ⟨bi,hbi⟩ : ∃ bi,bi = (B / 65536) % 256:=⟨_,rfl⟩
      rw [← hbi] at HC
      have hwv : IntKind.u8.wrap (B / 65536) = bi:=by rw [wrap_u8,hbi]
      skip
      have HO : Hid (Lib.OthersKept 5 (some w0.heap.size) W wr ∧ db g (5 + 1) = db g 5 ++ [UInt8.ofNat (g / 2 ^ (56 - 8 * 5))]):=(⟨hok,rfl⟩ : _ ∧ _)
      clear hw hok hB hgl hbv HX hbi hi
      go_wp2_with fail
      refine HC.mono ?_
      rintro e w2 ⟨rfl,y1,y2⟩
      obtain ⟨o1,o2⟩:=(show _ ∧ _ from HO)
      have HN : Hid (WS w0 (l ++ db g (5 + 1)) w2 ∧ Lib.OthersKept 5 (some w0.heap.size) W w2):=(⟨by rw [o2,← List.append_assoc];exact y1,o1.trans y2⟩ : _ ∧ _)
      clear HC y1 y2 HO o1 o2 hwv
      go_wp2_with fail
      go_roundw
      case rel=>exact ⟨5 + 1,by omega,by go_num,HN⟩
      case measure=>simp [intOf]
    · have hbv : ((UInt8.ofNat (g / 2 ^ (56 - 8 * 6))).toNat : Int) = (B / 256) % 256 := by
        rw [UInt8.toNat_ofNat',show (2 ^ (56 - 8 * 6) : Nat) = 256 from rfl]
        omega
      have HC:=im_put1 hw _ _ hbv
      obtain ⟨bi,hbi⟩ : ∃ bi,bi = (B / 256) % 256:=⟨_,rfl⟩
      rw [← hbi] at HC
      have hwv : IntKind.u8.wrap (B / 256) = bi:=by rw [wrap_u8,hbi]
      skip
      have HO : Hid (Lib.OthersKept 5 (some w0.heap.size) W wr ∧ db g (6 + 1) = db g 6 ++ [UInt8.ofNat (g / 2 ^ (56 - 8 * 6))]):=(⟨hok,rfl⟩ : _ ∧ _)
      clear hw hok hB hgl hbv HX hbi hi
      go_wp2_with fail
      refine HC.mono ?_
      rintro e w2 ⟨rfl,y1,y2⟩
      obtain ⟨o1,o2⟩:=(show _ ∧ _ from HO)
      have HN : Hid (WS w0 (l ++ db g (6 + 1)) w2 ∧ Lib.OthersKept 5 (some w0.heap.size) W w2):=(⟨by rw [o2,← List.append_assoc];exact y1,o1.trans y2⟩ : _ ∧ _)
      clear HC y1 y2 HO o1 o2 hwv
      go_wp2_with fail
      go_roundw
      case rel=>exact ⟨6 + 1,by omega,by go_num,HN⟩
      case measure=>simp [intOf]
    · have hbv : ((UInt8.ofNat (g / 2 ^ (56 - 8 * 7))).toNat : Int) = (B / 1) % 256 := by
        rw [UInt8.toNat_ofNat',show (2 ^ (56 - 8 * 7) : Nat) = 1 from rfl]
        omega
      have HC:=im_put1 hw _ _ hbv
      obtain ⟨bi,hbi⟩ : ∃ bi,bi = (B / 1) % 256:=⟨_,rfl⟩
      rw [← hbi] at HC
      have hwv : IntKind.u8.wrap (B / 1) = bi:=by rw [wrap_u8,hbi]
      have hwv2 : IntKind.u8.wrap B = bi:=by rw [wrap_u8,hbi];simp
      have HO : Hid (Lib.OthersKept 5 (some w0.heap.size) W wr ∧ db g (7 + 1) = db g 7 ++ [UInt8.ofNat (g / 2 ^ (56 - 8 * 7))]):=(⟨hok,rfl⟩ : _ ∧ _)
      clear hw hok hB hgl hbv HX hbi hi
      go_wp2_with fail
      refine HC.mono ?_
      rintro e w2 ⟨rfl,y1,y2⟩
      obtain ⟨o1,o2⟩:=(show _ ∧ _ from HO)
      have HN : Hid (WS w0 (l ++ db g (7 + 1)) w2 ∧ Lib.OthersKept 5 (some w0.heap.size) W w2):=(⟨by rw [o2,← List.append_assoc];exact y1,o1.trans y2⟩ : _ ∧ _)
      clear HC y1 y2 HO o1 o2 hwv
      go_wp2_with fail
      go_roundw
      case rel=>exact ⟨7 + 1,by omega,by go_num,HN⟩
      case measure=>simp [intOf]
    · have HN : Hid (WS w0 (l ++ db g 8) wr ∧ Lib.OthersKept 5 (some w0.heap.size) W wr):=(⟨hw,hok⟩ : _ ∧ _)
      clear hw hok hB hgl HX hi
      go_wp2_with fail
      exact ⟨rfl,.tuple #[],by simp [results,Tryz.results115],rfl,(show _ ∧ _ from HN).1,(show _ ∧ _ from HN).2⟩
end Go.Proofs.YtnmeemjoodoalaaGreatDoor.Fo
