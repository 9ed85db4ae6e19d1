import Derived.Test.YtamcnmnaadpfoaaFGpe
import Derived.Lib.ConvBytes
set_option maxHeartbeats 8000000
namespace Go.Proofs.Ytamcnmnaadpfoaa.Fo
open Go.ChangeShapes Go.WideShapes Go.ChangeAt Go.RowKit
set_option linter.unusedVariables false
set_option maxRecDepth 100000
theorem wrap_u64 (n:Int):IntKind.u64.wrap n=n % 18446744073709551616:=by simp [IntKind.wrap,IntKind.signed,IntKind.bits]
theorem im_put1 {B wb : Nat} {W : World} {l : List Int} (hw : WS B wb l W) (b : Int) (h0 : 0 ≤ b) (h1 : b ≤ 255) :
  Calls Try.prog 60 #[.pointer (some ⟨wb,0,none⟩),.slice (some ⟨W.heap.size,0,none⟩) 1 1] (W.alloc (.cells #[.int .u8 b] 5)) (WP B wb W (l ++ [b])):=by
 have hlt:wb < W.heap.size:=Nat.lt_of_lt_of_le hw.1 hw.2.1
 refine (im_put (c:=1) (ad:=⟨W.heap.size,0,none⟩) [b] (hw.call (kb_alloc 0 W (.cells #[.int .u8 b] 5))) (by show W.heap.size ≠ _;omega) (fun j u hu=>?_) (by simp) (fun x hx=>by rw [List.mem_singleton] at hx;subst hx;exact ⟨h0,h1⟩)).mono ?_
 ·exact qr_cells W #[.int .u8 b] 5 _ rfl j u hu
 ·rintro e w' ⟨h1,h2,h3⟩
  exact ⟨h1,h2,(Kw.of_kb (kb_alloc 0 W _)).trans h3⟩
theorem im_groups {B wb : Nat} {W : World} {l : List Int} (U : Nat) (hU : U < 18446744073709551616) (hw : WS B wb l W) :
  Calls Try.prog 92 #[.pointer (some ⟨wb,0,none⟩),.int .u64 (U:Int)] W (WP B wb W (l ++ numb U)):=by
 have HW:Hid (WS B wb l W):=hw
 clear hw
 go_enter Try.func92,Try.ntmps92
 go_wp2_with fail
 go_loopw [1] (fun s1 wr=>∃ (u:Nat) (acc:List Int),s1 = .int .u64 (u:Int)∧(u:Int) < 18446744073709551616∧Hid (WS B wb (l ++ acc) wr∧Kw B wb W wr∧numb U=acc ++ numb u)) (fun s1 _=>(intOf s1).toNat)
 case atStart=>exact ⟨U,[],rfl,by omega,(⟨by rw [List.append_nil];exact HW,Kw.refl _ _ _,rfl⟩:_∧_)⟩
 case round =>
  clear HW
  obtain ⟨u,acc,rfl,hu,HX⟩:=hrel
  obtain ⟨hw,hok,hvb⟩:=(show _∧_∧_ from HX)
  by_cases hc:u < 128
  ·have hg:¬ (128:Int)≤(u:Int):=by omega
   have hcv:IntKind.u8.wrap (u:Int)=(u:Int):=by rw [wrap_u8];omega
   have HC:=im_put1 hw (u:Int) (by omega) (by omega)
   have HO:Hid (Kw B wb W wr∧l ++ numb U=(l ++ acc) ++ [(u:Int)]):=(⟨hok,by rw [hvb,numb_lt (by omega),List.append_assoc]⟩:_∧_)
   clear hw hok hvb HX hU hc
   go_wp2_with fail
   refine HC.mono ?_
   rintro e w2 ⟨rfl,y1,y2⟩
   obtain ⟨o1,o2⟩:=(show _∧_ from HO)
   have HN:Hid (WS B wb (l ++ numb U) w2∧Kw B wb W w2):=(⟨by rw [o2];exact y1,o1.trans y2⟩:_∧_)
   clear HC y1 y2 HO o1 o2
   go_wp2_with fail
   exact ⟨rfl,.tuple #[],by simp [results,Try.results92],rfl,(show _∧_ from HN).1,(show _∧_ from HN).2⟩
  ·have hg:(128:Int)≤(u:Int):=by omega
   obtain ⟨r7,hr7⟩:∃ r7:Int,r7=(u:Int) % 128:=⟨_,rfl⟩
   have hmod:Int.tmod (u:Int) 128=r7:=by rw [hr7];exact Int.tmod_eq_emod_of_nonneg (by omega)
   have hwr:IntKind.u64.wrap (128+r7)=128+r7:=by rw [wrap_u64];omega
   have hcv:IntKind.u8.wrap (128+r7)=128+r7:=by rw [wrap_u8];omega
   obtain ⟨u2,hu2⟩:∃ u2,u2=u / 128:=⟨_,rfl⟩
   have hdv:Int.tdiv (u:Int) 128=(u2:Int):=by rw [Int.tdiv_eq_ediv_of_nonneg (by omega)];omega
   have hdv2:(u:Int) / 128=(u2:Int):=by omega
   have hmod2:(u:Int) % 128=r7:=hr7.symm
   have HC:=im_put1 hw (128+r7) (by omega) (by omega)
   have HO:Hid (Kw B wb W wr∧numb U=(acc ++ [128+r7]) ++ numb u2∧u2 < u∧(u2:Int) < 18446744073709551616):=(⟨hok,by rw [hvb,numb_ge (by omega),List.append_assoc,hu2,hr7];congr 2;omega,by omega,by omega⟩:_∧_)
   clear hw hok hvb HX hU hc hu2 hr7
   go_wp2_with fail
   refine HC.mono ?_
   rintro e w2 ⟨rfl,y1,y2⟩
   obtain ⟨o1,o2,o3,o4⟩:=(show _∧_∧_∧_ from HO)
   have HN:Hid (WS B wb (l ++ (acc ++ [128+r7])) w2∧Kw B wb W w2∧numb U=(acc ++ [128+r7]) ++ numb u2):=(⟨by rw [← List.append_assoc];exact y1,o1.trans y2,o2⟩:_∧_)
   have HL:Hid (u2 < u∧(u2:Int) < 18446744073709551616):=(⟨o3,o4⟩:_∧_)
   clear HC y1 y2 HO o1 o2 o3 o4
   go_wp2_with fail
   go_roundw
   case rel=>exact ⟨u2,_,rfl,HL.2,HN⟩
   case measure=>exact (show u2 < u∧_ from HL).1
def Rn (n:Int):Prop:=-9223372036854775808≤n∧n≤9223372036854775807
def nb (n:Int):List Int:=numb (sgn n)
def nbs:List Int→List Int
 | []=>[]
 | n :: r=>nb n ++ nbs r
theorem nbs_app (a b:List Int):nbs (a ++ b)=nbs a ++ nbs b:=by
 induction a with
 | nil=>rfl
 | cons x a ih=>show nb x ++ nbs (a ++ b)=(nb x ++ nbs a) ++ nbs b;rw [ih,List.append_assoc]
theorem im_numbers {B wb : Nat} {W : World} {l : List Int} {g : Nat} {cs : Array Value} (xs : List Int) (hr : ∀ x ∈ xs, Rn x) (hw : WS B wb l W) (hg : W.heap[g]? = some (.cells cs 3 (0, 0))) (hcs : cs.toList = xs.map fun x => Value.int .i64 x) (hgb : g ≠ wb) (hl : xs.length ≤ 100) :
  Calls Try.prog 109 #[.pointer (some ⟨wb,0,none⟩),.slice (some ⟨g,0,none⟩) xs.length xs.length] W (WP B wb W (l ++ nbs xs)):=by
 have HW:Hid (WS B wb l W∧(∀ x ∈ xs,Rn x)):=(⟨hw,hr⟩:_∧_)
 have HG:Hid (∀ W',Kw B wb W W'→∀ (i:Nat) (x:Int),xs[i]? = some x→W'.cell? ⟨g,i,none⟩=some (.int .i64 x)):=(fun W' k i x hx=>by
  have:=k.cells hg (by decide) hgb
  refine cell_of this ?_
  have e:cs[i]? = cs.toList[i]?:=by simp
  rw [e,hcs,List.getElem?_map,hx]
  rfl:∀ W',_)
 obtain ⟨n,hn⟩:∃ n,n=xs.length:=⟨_,rfl⟩
 rw [← hn]
 have HNN:Hid (n=xs.length):=hn
 have hnI:(n:Int)≤100:=by omega
 clear hw hg hcs hgb hl hr hn
 go_enter Try.func109,Try.ntmps109
 go_wp2_with fail
 go_loopw [9] (fun s9 wr=>∃ (i:Nat),i≤n∧s9 = .int .i64 (i:Int)∧Hid (WS B wb (l ++ nbs (xs.take i)) wr∧Kw B wb W wr)) (fun s9 _=>n - (intOf s9).toNat)
 case atStart=>exact ⟨0,by omega,rfl,(⟨by rw [List.take_zero,show nbs [] = [] from rfl,List.append_nil];exact (show _∧_ from HW).1,Kw.refl _ _ _⟩:_∧_)⟩
 case round =>
  obtain ⟨i,hi,rfl,HX⟩:=hrel
  obtain ⟨hw,hok⟩:=(show _∧_ from HX)
  have hnn:=(show n=xs.length from HNN)
  by_cases hin:i < n
  ·have hI:(i:Int) < (n:Int):=by omega
   obtain ⟨x,hx⟩:∃ x,xs[i]? = some x:=⟨_,List.getElem?_eq_getElem (by omega)⟩
   have hc:=(show ∀ W',Kw B wb W W'→_ from HG) wr hok i x hx
   have hrx:=(show _∧_ from HW).2 x (List.mem_of_getElem? hx)
   have htk:nbs (xs.take (i+1))=nbs (xs.take i) ++ nb x:=by
    rw [List.take_add_one,hx,nbs_app]
    show _ ++ (nb x ++ []) = _
    rw [List.append_nil]
   have HC:=im_groups (sgn x) (sgn_lt hrx.1 hrx.2) hw
   have HO:Hid (Kw B wb W wr∧nbs (xs.take (i+1))=nbs (xs.take i) ++ nb x):=(⟨hok,htk⟩:_∧_)
   by_cases hneg:x < 0
   ·have e1:IntKind.u64.wrap (2*IntKind.u64.wrap x)=18446744073709551616+2*x:=by rw [wrap_u64,wrap_u64];have:=hrx.1;omega
    have e2:IntKind.u64.wrap (-(18446744073709551616+2*x))=(-2*x) % 18446744073709551616:=by rw [wrap_u64];have:=hrx.1;omega
    have e3:IntKind.u64.wrap ((-2*x) % 18446744073709551616 - 1)=(sgn x:Int):=by
     rw [wrap_u64]
     unfold sgn
     rw [if_pos hneg]
     have:=hrx.1
     omega
    obtain ⟨Z,hZ⟩:∃ Z,Z=(sgn x:Int):=⟨_,rfl⟩
    rw [← hZ] at HC e3
    clear hw hok hrx htk HX hnn hx hZ
    obtain ⟨A1,hA1⟩:∃ A1:Int,A1=18446744073709551616+2*x:=⟨_,rfl⟩
    rw [← hA1] at e1 e2
    obtain ⟨A2,hA2⟩:∃ A2:Int,A2=(-2*x) % 18446744073709551616:=⟨_,rfl⟩
    rw [← hA2] at e2 e3
    clear hA1 hA2
    go_wp2_with fail
    refine HC.mono ?_
    rintro e w2 ⟨rfl,y1,y2⟩
    obtain ⟨o1,o2⟩:=(show _∧_ from HO)
    have HN:Hid (WS B wb (l ++ nbs (xs.take (i+1))) w2∧Kw B wb W w2):=(⟨by rw [o2,← List.append_assoc];exact y1,o1.trans y2⟩:_∧_)
    clear HC y1 y2 HO o1 o2 e1 e2 e3
    go_wp2_with fail
    go_roundw
    case rel=>exact ⟨i+1,by omega,by go_num,HN⟩
    case measure=>simp [intOf];omega
   ·have e4 : 2*x=(sgn x:Int):=by unfold sgn;rw [if_neg (by omega)];omega
    obtain ⟨Z,hZ⟩:∃ Z,Z=(sgn x:Int):=⟨_,rfl⟩
    rw [← hZ] at HC e4
    obtain ⟨r1,r2⟩:=hrx
    clear hw hok htk HX hnn hx hZ
    go_wp2_with fail
    refine HC.mono ?_
    rintro e w2 ⟨rfl,y1,y2⟩
    obtain ⟨o1,o2⟩:=(show _∧_ from HO)
    have HN:Hid (WS B wb (l ++ nbs (xs.take (i+1))) w2∧Kw B wb W w2):=(⟨by rw [o2,← List.append_assoc];exact y1,o1.trans y2⟩:_∧_)
    clear HC y1 y2 HO o1 o2 e4
    go_wp2_with fail
    go_roundw
    case rel=>exact ⟨i+1,by omega,by go_num,HN⟩
    case measure=>simp [intOf];omega
  ·obtain rfl:i=n:=by omega
   have hI:¬ (i:Int) < (i:Int):=by omega
   have HN:Hid (WS B wb (l ++ nbs xs) wr∧Kw B wb W wr):=by
    rw [hnn,List.take_length] at hw
    exact (⟨hw,hok⟩:_∧_)
   clear hw hok HX hnn HW HG
   go_wp2_with fail
   exact ⟨rfl,.tuple #[],by simp [results,Try.results109],rfl,(show _∧_ from HN).1,(show _∧_ from HN).2⟩
theorem im_num1 {B wb : Nat} {W : World} {l : List Int} (hw : WS B wb l W) (x : Int) (hr : Rn x) :
  Calls Try.prog 109 #[.pointer (some ⟨wb,0,none⟩),.slice (some ⟨W.heap.size,0,none⟩) 1 1] (W.alloc (.cells #[.int .i64 x] 3)) (WP B wb W (l ++ numb (sgn x))):=by
 have hlt:wb < W.heap.size:=Nat.lt_of_lt_of_le hw.1 hw.2.1
 refine (im_numbers [x] (fun y hy=>by rw [List.mem_singleton] at hy;subst hy;exact hr) (hw.call (kb_alloc 0 W (.cells #[.int .i64 x] 3))) (alloc_new _ _ _) rfl (by omega) (by simp)).mono ?_
 rintro e w' ⟨h1,h2,h3⟩
 have e1:l ++ nbs [x]=l ++ numb (sgn x):=by
  show l ++ (nb x ++ []) = _
  rw [List.append_nil]
  rfl
 rw [e1] at h2
 exact ⟨h1,h2,(Kw.of_kb (kb_alloc 0 W _)).trans h3⟩
theorem eig_bok (n:Nat):∀ k,Bok (eig n k)
 | 0=>fun x hx=>by cases hx
 | k+1=>(eig_bok n k).app (fun x hx=>by rw [List.mem_singleton] at hx;subst hx;omega)
theorem numb_bok:∀ (n:Nat),Bok (numb n):=by
 intro n
 induction n using Nat.strongRecOn with
 | ind n ih =>
  by_cases h:n≤127
  ·rw [numb_lt h];intro x hx;rw [List.mem_singleton] at hx;subst hx;omega
  ·rw [numb_ge h]
   intro x hx
   rcases List.mem_cons.1 hx with rfl | q
   ·omega
   ·exact ih (n / 128) (by omega) x q
theorem shr_step (n:Int) (k:Nat):(n / 256 ^ k) / 256=n / 256 ^ (k+1):=by
 rw [Int.pow_succ,Int.ediv_ediv_of_nonneg (by have:(0:Int) < 256 ^ k:=Int.pow_pos (by decide);omega)]
theorem eig_byte (n:Int) (k:Nat) (hk:k < 8):(n / 256 ^ k) % 256=(((n % 18446744073709551616).toNat / 256 ^ k % 256:Nat):Int):=by
 have e0:(0:Int)≤n % 18446744073709551616:=by omega
 rw [Int.natCast_emod,Int.natCast_ediv,Int.toNat_of_nonneg e0]
 have hd:n=18446744073709551616*(n / 18446744073709551616)+n % 18446744073709551616:=(Int.mul_ediv_add_emod _ _).symm
 generalize n / 18446744073709551616=q at hd
 generalize n % 18446744073709551616=r at hd
 subst hd
 rcases (by omega:k=0∨k=1∨k=2∨k=3∨k=4∨k=5∨k=6∨k=7) with rfl | rfl | rfl | rfl | rfl | rfl | rfl | rfl <;> simp <;> omega
theorem im_eight {B wb : Nat} {W : World} {l : List Int} (n : Int) (h0 : -9223372036854775808 ≤ n) (h1 : n ≤ 9223372036854775807) (hw : WS B wb l W) :
  Calls Try.prog 63 #[.pointer (some ⟨wb,0,none⟩),.int .i64 n] W (WP B wb W (l ++ eig (n % 18446744073709551616).toNat 8)):=by
 obtain ⟨N,hN⟩:∃ N,N=(n % 18446744073709551616).toNat:=⟨_,rfl⟩
 have HB:Hid (∀ k,k < 8→(n / 256 ^ k) % 256=((N / 256 ^ k % 256:Nat):Int)):=(by rw [hN];exact fun k hk=>eig_byte n k hk:∀ k,_)
 rw [← hN]
 have HW:Hid (WS B wb l W):=hw
 clear hw hN h0 h1
 go_enter Try.func63,Try.ntmps63
 go_wp2_with fail
 go_loopw [1,4] (fun s1 s4 wr=>∃ k:Nat,s4 = .int .i64 (k:Int)∧k≤8∧s1 = .int .i64 (n / 256 ^ k)∧Hid (WS B wb (l ++ eig N k) wr∧Kw B wb W wr)) (fun _ s4 _=>8 - (intOf s4).toNat)
 case atStart=>exact ⟨0,rfl,by omega,by simp,(⟨by rw [show eig N 0 = [] from rfl,List.append_nil];exact HW,Kw.refl _ _ _⟩:_∧_)⟩
 case round =>
  clear HW
  obtain ⟨k,rfl,hk,rfl,HX⟩:=hrel
  obtain ⟨hw,hok⟩:=(show WS B wb (l ++ eig N k) wr∧Kw B wb W wr from HX)
  rcases Nat.lt_or_ge k 8 with hk8 | hk8
  case inr =>
   obtain rfl:k=8:=by omega
   clear hw hok HB
   go_wp2_with fail
   exact ⟨rfl,.tuple #[],by simp [results,Try.results63],rfl,(show _∧_ from HX).1,(show _∧_ from HX).2⟩
  have hkI:(k:Int) < 8:=by omega
  obtain ⟨X,hX⟩:∃ X,X=n / 256 ^ k:=⟨_,rfl⟩
  have hbt:=(show ∀ k,k < 8→_ from HB) k hk8
  rw [← hX] at hbt
  rw [← hX]
  obtain ⟨b,hb⟩:∃ b:Int,b=((N / 256 ^ k % 256:Nat):Int):=⟨_,rfl⟩
  have hcv:IntKind.u8.wrap X=b:=by rw [wrap_u8,hbt,hb]
  have HC:=im_put1 hw b (by omega) (by omega)
  have HO:Hid (Kw B wb W wr∧l ++ eig N (k+1)=(l ++ eig N k) ++ [b]∧X / 256=n / 256 ^ (k+1)):=(⟨hok,by rw [hb];show l ++ (eig N k ++ [_]) = _;rw [List.append_assoc],by rw [hX];exact shr_step n k⟩:_∧_)
  have hsh:X >>> (8:Nat)=X / 256:=by rw [Int.shiftRight_eq_div_pow];rfl
  clear hw hok HX hbt hb HB hX
  go_wp2_with fail
  refine HC.mono ?_
  rintro e w2 ⟨rfl,y1,y2⟩
  obtain ⟨o1,o2,o3⟩:=(show _∧_∧_ from HO)
  have HN:Hid (WS B wb (l ++ eig N (k+1)) w2∧Kw B wb W w2):=(⟨by rw [o2];exact y1,o1.trans y2⟩:_∧_)
  have HN3:Hid (X / 256=n / 256 ^ (k+1)):=o3
  clear HC y1 y2 o1 o2 o3 HO
  go_wp2_with fail
  go_roundw
  case rel=>exact ⟨k+1,by go_num,by omega,by rw [show X / 256 = _ from HN3],HN⟩
  case measure=>simp [intOf];omega
theorem kb_bytes (w:World) (s:ByteArray):Kb 0 w (Lib.bytesWorld w 5 s) :=
 ⟨rfl,rfl,by rw [Lib.bytesWorld_size];omega,fun k _ hk=>Lib.bytesWorld_at_old w _ s k hk⟩
theorem bts_bok (x:ByteArray):Bok (bts x):=by
 intro y hy
 obtain ⟨b,_,rfl⟩:=List.mem_map.1 hy
 have:=b.toNat_lt
 omega
theorem bts_cells2 (w1:World) (x:ByteArray):∀ j u,(bvs (bts x))[j]? = some u→(Lib.bytesWorld w1 5 x).cell? ((⟨w1.heap.size,0,none⟩:Addr).add j)=some u:=by
 intro j u hu
 unfold bvs bts at hu
 simp only [List.getElem?_map,Option.map_eq_some_iff] at hu
 obtain ⟨y,⟨b,hb,rfl⟩,rfl⟩:=hu
 have hj:j < x.size:=by
  have:=(List.getElem?_eq_some_iff.1 hb).1
  simpa using this
 rw [addr0,Lib.bytesWorld_cell w1 _ x j hj]
 simp [List.getD,hb]
theorem im_pval_0 {B wb : Nat} {W : World} {l : List Int} (m : Int) (x : ByteArray) (r : Int) (hw : WS B wb l W) (hp : Pok ⟨0, m, x, r⟩) (hxs : x.size ≤ 1000000) :
  Calls Try.prog 93 #[.pointer (some ⟨wb,0,none⟩),.agg #[.int .i64 0,.int .i64 m,.string x,.int .i64 r]] W (WP B wb W (l ++ pvl ⟨0,m,x,r⟩)):=by
 have hlt:wb < W.heap.size:=Nat.lt_of_lt_of_le hw.1 hw.2.1
 obtain ⟨hk,m0,m1,hx,hr⟩:=hp
 dsimp only at hk m0 m1 hx hr
 obtain ⟨W1,hW1⟩:∃ W1,W1=W.alloc (.cells #[.int .i64 0,.int .i64 m,.string x,.int .i64 r] 41):=⟨_,rfl⟩
 have k1:Kb 0 W W1:=by rw [hW1];exact kb_alloc _ _ _
 have b1:W1.heap[W.heap.size]? = some (.cells #[.int .i64 0,.int .i64 m,.string x,.int .i64 r] 41 (0,0)):=by rw [hW1];exact alloc_new _ _ _
 have HC:=im_put1 (hw.call k1) 0 (by decide) (by decide)
 have c0:W1.cell? ⟨W.heap.size,0,none⟩=some (.int .i64 0):=cell_of b1 rfl
 have HB1:Hid (W1.heap[W.heap.size]? = some (.cells #[.int .i64 0,.int .i64 m,.string x,.int .i64 r] 41 (0,0))∧Kb 0 W W1∧W.heap.size ≠ wb):=(⟨b1,k1,by omega⟩:_∧_)
 have HW1:Hid (W1=W.alloc (.cells #[.int .i64 0,.int .i64 m,.string x,.int .i64 r] 41)):=hW1
 have HXB:Hid (x.size≤1000000):=hxs
 clear hw hW1 k1 b1 hlt hk hxs hx
 go_enter Try.func93,Try.ntmps93
 go_upto_region 1 with fail
 rw [← (show W1 = _ from HW1)]
 clear HW1
 go_wp2_with fail
 refine HC.mono ?_
 rintro e w2 ⟨rfl,y1,y2⟩
 clear HC c0
 obtain ⟨b1,k1,hne⟩:=(show W1.heap[W.heap.size]? = some (.cells #[.int .i64 0,.int .i64 m,.string x,.int .i64 r] 41 (0,0))∧Kb 0 W W1∧W.heap.size ≠ wb from HB1)
 have b2:=y2.cells b1 (by decide) hne
 have y3:Kw B wb W w2:=(Kw.of_kb k1).trans y2
 have d0:w2.cell? ⟨W.heap.size,0,none⟩=some (.int .i64 0):=cell_of b2 rfl
 have d1:w2.cell? ⟨W.heap.size,1,none⟩=some (.int .i64 m):=cell_of b2 rfl
 have d2:w2.cell? ⟨W.heap.size,2,none⟩=some (.string x):=cell_of b2 rfl
 have d3:w2.cell? ⟨W.heap.size,3,none⟩=some (.int .i64 r):=cell_of b2 rfl
 have HN:Hid (WS B wb (l ++ pvl ⟨0,m,x,r⟩) w2∧Kw B wb W w2):=(⟨y1,y3⟩:_∧_)
 clear y1 y2 y3 HB1 b1 b2 k1 hne
 go_wp2_with fail
 exact ⟨rfl,.tuple #[],by simp [results,Try.results93],rfl,(show _∧_ from HN).1,(show _∧_ from HN).2⟩
theorem im_pval_1 {B wb : Nat} {W : World} {l : List Int} (m : Int) (x : ByteArray) (r : Int) (hw : WS B wb l W) (hp : Pok ⟨1, m, x, r⟩) (hxs : x.size ≤ 1000000) :
  Calls Try.prog 93 #[.pointer (some ⟨wb,0,none⟩),.agg #[.int .i64 1,.int .i64 m,.string x,.int .i64 r]] W (WP B wb W (l ++ pvl ⟨1,m,x,r⟩)):=by
 have hlt:wb < W.heap.size:=Nat.lt_of_lt_of_le hw.1 hw.2.1
 obtain ⟨hk,m0,m1,hx,hr⟩:=hp
 dsimp only at hk m0 m1 hx hr
 obtain ⟨W1,hW1⟩:∃ W1,W1=W.alloc (.cells #[.int .i64 1,.int .i64 m,.string x,.int .i64 r] 41):=⟨_,rfl⟩
 have k1:Kb 0 W W1:=by rw [hW1];exact kb_alloc _ _ _
 have b1:W1.heap[W.heap.size]? = some (.cells #[.int .i64 1,.int .i64 m,.string x,.int .i64 r] 41 (0,0)):=by rw [hW1];exact alloc_new _ _ _
 have HC:=im_put1 (hw.call k1) 1 (by decide) (by decide)
 have c0:W1.cell? ⟨W.heap.size,0,none⟩=some (.int .i64 1):=cell_of b1 rfl
 have HB1:Hid (W1.heap[W.heap.size]? = some (.cells #[.int .i64 1,.int .i64 m,.string x,.int .i64 r] 41 (0,0))∧Kb 0 W W1∧W.heap.size ≠ wb):=(⟨b1,k1,by omega⟩:_∧_)
 have HW1:Hid (W1=W.alloc (.cells #[.int .i64 1,.int .i64 m,.string x,.int .i64 r] 41)):=hW1
 have HXB:Hid (x.size≤1000000):=hxs
 clear hw hW1 k1 b1 hlt hk hxs hx
 go_enter Try.func93,Try.ntmps93
 go_upto_region 1 with fail
 rw [← (show W1 = _ from HW1)]
 clear HW1
 go_wp2_with fail
 refine HC.mono ?_
 rintro e w2 ⟨rfl,y1,y2⟩
 clear HC c0
 obtain ⟨b1,k1,hne⟩:=(show W1.heap[W.heap.size]? = some (.cells #[.int .i64 1,.int .i64 m,.string x,.int .i64 r] 41 (0,0))∧Kb 0 W W1∧W.heap.size ≠ wb from HB1)
 have b2:=y2.cells b1 (by decide) hne
 have y3:Kw B wb W w2:=(Kw.of_kb k1).trans y2
 have d0:w2.cell? ⟨W.heap.size,0,none⟩=some (.int .i64 1):=cell_of b2 rfl
 have d1:w2.cell? ⟨W.heap.size,1,none⟩=some (.int .i64 m):=cell_of b2 rfl
 have d2:w2.cell? ⟨W.heap.size,2,none⟩=some (.string x):=cell_of b2 rfl
 have d3:w2.cell? ⟨W.heap.size,3,none⟩=some (.int .i64 r):=cell_of b2 rfl
 have HC2:=im_num1 y1 m ⟨m0,m1⟩
 have HE:Hid (l ++ pvl ⟨1,m,x,r⟩=(l ++ [1]) ++ numb (sgn m)):=(by show l ++ ([1] ++ numb (sgn m)) = _;rw [List.append_assoc]:l ++ pvl ⟨1,m,x,r⟩ = _)
 have HY3:Hid (Kw B wb W w2):=y3
 clear y1 y2 y3 HB1 b1 b2 k1 hne
 go_wp2_with fail
 refine HC2.mono ?_
 rintro e w3 ⟨rfl,z1,z2⟩
 have HN:Hid (WS B wb (l ++ pvl ⟨1,m,x,r⟩) w3∧Kw B wb W w3):=(⟨by rw [show l ++ pvl ⟨1,m,x,r⟩ = _ from HE];exact z1,(show Kw B wb W w2 from HY3).trans z2⟩:_∧_)
 clear HC2 z1 z2 HE HY3 d0 d1 d2 d3
 go_wp2_with fail
 exact ⟨rfl,.tuple #[],by simp [results,Try.results93],rfl,(show _∧_ from HN).1,(show _∧_ from HN).2⟩
theorem im_pval_2 {B wb : Nat} {W : World} {l : List Int} (m : Int) (x : ByteArray) (r : Int) (hw : WS B wb l W) (hp : Pok ⟨2, m, x, r⟩) (hxs : x.size ≤ 1000000) :
  Calls Try.prog 93 #[.pointer (some ⟨wb,0,none⟩),.agg #[.int .i64 2,.int .i64 m,.string x,.int .i64 r]] W (WP B wb W (l ++ pvl ⟨2,m,x,r⟩)):=by
 have hlt:wb < W.heap.size:=Nat.lt_of_lt_of_le hw.1 hw.2.1
 obtain ⟨hk,m0,m1,hx,hr⟩:=hp
 dsimp only at hk m0 m1 hx hr
 obtain ⟨W1,hW1⟩:∃ W1,W1=W.alloc (.cells #[.int .i64 2,.int .i64 m,.string x,.int .i64 r] 41):=⟨_,rfl⟩
 have k1:Kb 0 W W1:=by rw [hW1];exact kb_alloc _ _ _
 have b1:W1.heap[W.heap.size]? = some (.cells #[.int .i64 2,.int .i64 m,.string x,.int .i64 r] 41 (0,0)):=by rw [hW1];exact alloc_new _ _ _
 have HC:=im_put1 (hw.call k1) 2 (by decide) (by decide)
 have c0:W1.cell? ⟨W.heap.size,0,none⟩=some (.int .i64 2):=cell_of b1 rfl
 have HB1:Hid (W1.heap[W.heap.size]? = some (.cells #[.int .i64 2,.int .i64 m,.string x,.int .i64 r] 41 (0,0))∧Kb 0 W W1∧W.heap.size ≠ wb):=(⟨b1,k1,by omega⟩:_∧_)
 have HW1:Hid (W1=W.alloc (.cells #[.int .i64 2,.int .i64 m,.string x,.int .i64 r] 41)):=hW1
 have HXB:Hid (x.size≤1000000):=hxs
 clear hw hW1 k1 b1 hlt hk hxs hx
 go_enter Try.func93,Try.ntmps93
 go_upto_region 1 with fail
 rw [← (show W1 = _ from HW1)]
 clear HW1
 go_wp2_with fail
 refine HC.mono ?_
 rintro e w2 ⟨rfl,y1,y2⟩
 clear HC c0
 obtain ⟨b1,k1,hne⟩:=(show W1.heap[W.heap.size]? = some (.cells #[.int .i64 2,.int .i64 m,.string x,.int .i64 r] 41 (0,0))∧Kb 0 W W1∧W.heap.size ≠ wb from HB1)
 have b2:=y2.cells b1 (by decide) hne
 have y3:Kw B wb W w2:=(Kw.of_kb k1).trans y2
 have d0:w2.cell? ⟨W.heap.size,0,none⟩=some (.int .i64 2):=cell_of b2 rfl
 have d1:w2.cell? ⟨W.heap.size,1,none⟩=some (.int .i64 m):=cell_of b2 rfl
 have d2:w2.cell? ⟨W.heap.size,2,none⟩=some (.string x):=cell_of b2 rfl
 have d3:w2.cell? ⟨W.heap.size,3,none⟩=some (.int .i64 r):=cell_of b2 rfl
 have HC2:=im_eight m m0 m1 y1
 have HE:Hid (l ++ pvl ⟨2,m,x,r⟩=(l ++ [2]) ++ eig (m % 18446744073709551616).toNat 8):=(by show l ++ ([2] ++ eig (m % 18446744073709551616).toNat 8) = _;rw [List.append_assoc]:l ++ pvl ⟨2,m,x,r⟩ = _)
 have HY3:Hid (Kw B wb W w2):=y3
 clear y1 y2 y3 HB1 b1 b2 k1 hne
 go_wp2_with fail
 refine HC2.mono ?_
 rintro e w3 ⟨rfl,z1,z2⟩
 have HN:Hid (WS B wb (l ++ pvl ⟨2,m,x,r⟩) w3∧Kw B wb W w3):=(⟨by rw [show l ++ pvl ⟨2,m,x,r⟩ = _ from HE];exact z1,(show Kw B wb W w2 from HY3).trans z2⟩:_∧_)
 clear HC2 z1 z2 HE HY3 d0 d1 d2 d3
 go_wp2_with fail
 exact ⟨rfl,.tuple #[],by simp [results,Try.results93],rfl,(show _∧_ from HN).1,(show _∧_ from HN).2⟩
theorem im_pval_4 {B wb : Nat} {W : World} {l : List Int} (m : Int) (x : ByteArray) (r : Int) (hw : WS B wb l W) (hp : Pok ⟨4, m, x, r⟩) (hxs : x.size ≤ 1000000) :
  Calls Try.prog 93 #[.pointer (some ⟨wb,0,none⟩),.agg #[.int .i64 4,.int .i64 m,.string x,.int .i64 r]] W (WP B wb W (l ++ pvl ⟨4,m,x,r⟩)):=by
 have hlt:wb < W.heap.size:=Nat.lt_of_lt_of_le hw.1 hw.2.1
 obtain ⟨hk,m0,m1,hx,hr⟩:=hp
 dsimp only at hk m0 m1 hx hr
 obtain ⟨W1,hW1⟩:∃ W1,W1=W.alloc (.cells #[.int .i64 4,.int .i64 m,.string x,.int .i64 r] 41):=⟨_,rfl⟩
 have k1:Kb 0 W W1:=by rw [hW1];exact kb_alloc _ _ _
 have b1:W1.heap[W.heap.size]? = some (.cells #[.int .i64 4,.int .i64 m,.string x,.int .i64 r] 41 (0,0)):=by rw [hW1];exact alloc_new _ _ _
 have HC:=im_put1 (hw.call k1) 4 (by decide) (by decide)
 have c0:W1.cell? ⟨W.heap.size,0,none⟩=some (.int .i64 4):=cell_of b1 rfl
 have HB1:Hid (W1.heap[W.heap.size]? = some (.cells #[.int .i64 4,.int .i64 m,.string x,.int .i64 r] 41 (0,0))∧Kb 0 W W1∧W.heap.size ≠ wb):=(⟨b1,k1,by omega⟩:_∧_)
 have HW1:Hid (W1=W.alloc (.cells #[.int .i64 4,.int .i64 m,.string x,.int .i64 r] 41)):=hW1
 have HXB:Hid (x.size≤1000000):=hxs
 clear hw hW1 k1 b1 hlt hk hxs hx
 go_enter Try.func93,Try.ntmps93
 go_upto_region 1 with fail
 rw [← (show W1 = _ from HW1)]
 clear HW1
 go_wp2_with fail
 refine HC.mono ?_
 rintro e w2 ⟨rfl,y1,y2⟩
 clear HC c0
 obtain ⟨b1,k1,hne⟩:=(show W1.heap[W.heap.size]? = some (.cells #[.int .i64 4,.int .i64 m,.string x,.int .i64 r] 41 (0,0))∧Kb 0 W W1∧W.heap.size ≠ wb from HB1)
 have b2:=y2.cells b1 (by decide) hne
 have y3:Kw B wb W w2:=(Kw.of_kb k1).trans y2
 have d0:w2.cell? ⟨W.heap.size,0,none⟩=some (.int .i64 4):=cell_of b2 rfl
 have d1:w2.cell? ⟨W.heap.size,1,none⟩=some (.int .i64 m):=cell_of b2 rfl
 have d2:w2.cell? ⟨W.heap.size,2,none⟩=some (.string x):=cell_of b2 rfl
 have d3:w2.cell? ⟨W.heap.size,3,none⟩=some (.int .i64 r):=cell_of b2 rfl
 have hr:=hr trivial
 have HC2:=im_groups r.toNat (by omega) y1
 have HE:Hid (l ++ pvl ⟨4,m,x,r⟩=(l ++ [4]) ++ numb r.toNat):=(by show l ++ ([4] ++ numb r.toNat) = _;rw [List.append_assoc]:l ++ pvl ⟨4,m,x,r⟩ = _)
 have HY3:Hid (Kw B wb W w2):=y3
 have hrr:IntKind.u64.wrap r=((r.toNat:Nat):Int):=by rw [wrap_u64];omega
 obtain ⟨RR,hRR⟩:∃ RR:Int,RR=((r.toNat:Nat):Int):=⟨_,rfl⟩
 rw [← hRR] at HC2 hrr
 clear hRR hr
 clear y1 y2 y3 HB1 b1 b2 k1 hne
 go_wp2_with fail
 refine HC2.mono ?_
 rintro e w3 ⟨rfl,z1,z2⟩
 have HN:Hid (WS B wb (l ++ pvl ⟨4,m,x,r⟩) w3∧Kw B wb W w3):=(⟨by rw [show l ++ pvl ⟨4,m,x,r⟩ = _ from HE];exact z1,(show Kw B wb W w2 from HY3).trans z2⟩:_∧_)
 clear HC2 z1 z2 HE HY3 d0 d1 d2 d3
 go_wp2_with fail
 exact ⟨rfl,.tuple #[],by simp [results,Try.results93],rfl,(show _∧_ from HN).1,(show _∧_ from HN).2⟩
theorem im_pval_3 {B wb : Nat} {W : World} {l : List Int} (m : Int) (x : ByteArray) (r : Int) (hw : WS B wb l W) (hp : Pok ⟨3, m, x, r⟩) (hxs : x.size ≤ 1000000) :
  Calls Try.prog 93 #[.pointer (some ⟨wb,0,none⟩),.agg #[.int .i64 3,.int .i64 m,.string x,.int .i64 r]] W (WP B wb W (l ++ pvl ⟨3,m,x,r⟩)):=by
 have hlt:wb < W.heap.size:=Nat.lt_of_lt_of_le hw.1 hw.2.1
 obtain ⟨hk,m0,m1,hx,hr⟩:=hp
 dsimp only at hk m0 m1 hx hr
 obtain ⟨W1,hW1⟩:∃ W1,W1=W.alloc (.cells #[.int .i64 3,.int .i64 m,.string x,.int .i64 r] 41):=⟨_,rfl⟩
 have k1:Kb 0 W W1:=by rw [hW1];exact kb_alloc _ _ _
 have b1:W1.heap[W.heap.size]? = some (.cells #[.int .i64 3,.int .i64 m,.string x,.int .i64 r] 41 (0,0)):=by rw [hW1];exact alloc_new _ _ _
 have HC:=im_put1 (hw.call k1) 3 (by decide) (by decide)
 have c0:W1.cell? ⟨W.heap.size,0,none⟩=some (.int .i64 3):=cell_of b1 rfl
 have HB1:Hid (W1.heap[W.heap.size]? = some (.cells #[.int .i64 3,.int .i64 m,.string x,.int .i64 r] 41 (0,0))∧Kb 0 W W1∧W.heap.size ≠ wb):=(⟨b1,k1,by omega⟩:_∧_)
 have HW1:Hid (W1=W.alloc (.cells #[.int .i64 3,.int .i64 m,.string x,.int .i64 r] 41)):=hW1
 have HXB:Hid (x.size≤1000000):=hxs
 clear hw hW1 k1 b1 hlt hk hxs hx
 go_enter Try.func93,Try.ntmps93
 go_upto_region 1 with fail
 rw [← (show W1 = _ from HW1)]
 clear HW1
 go_wp2_with fail
 refine HC.mono ?_
 rintro e w2 ⟨rfl,y1,y2⟩
 clear HC c0
 obtain ⟨b1,k1,hne⟩:=(show W1.heap[W.heap.size]? = some (.cells #[.int .i64 3,.int .i64 m,.string x,.int .i64 r] 41 (0,0))∧Kb 0 W W1∧W.heap.size ≠ wb from HB1)
 have b2:=y2.cells b1 (by decide) hne
 have y3:Kw B wb W w2:=(Kw.of_kb k1).trans y2
 have d0:w2.cell? ⟨W.heap.size,0,none⟩=some (.int .i64 3):=cell_of b2 rfl
 have d1:w2.cell? ⟨W.heap.size,1,none⟩=some (.int .i64 m):=cell_of b2 rfl
 have d2:w2.cell? ⟨W.heap.size,2,none⟩=some (.string x):=cell_of b2 rfl
 have d3:w2.cell? ⟨W.heap.size,3,none⟩=some (.int .i64 r):=cell_of b2 rfl
 have hxz:=(show x.size≤1000000 from HXB)
 have HC2:=im_groups x.size (by omega) y1
 have HE:Hid (l ++ pvl ⟨3,m,x,r⟩=((l ++ [3]) ++ numb x.size) ++ bts x):=(by show l ++ ([3] ++ numb x.size ++ bts x) = _;simp only [List.append_assoc]:l ++ pvl ⟨3,m,x,r⟩ = _)
 have HY3:Hid (Kw B wb W w2):=y3
 have hxx:IntKind.u64.wrap (x.size:Int)=(x.size:Int):=by rw [wrap_u64];omega
 have HB2:Hid (w2.heap[W.heap.size]? = some (.cells #[.int .i64 3,.int .i64 m,.string x,.int .i64 r] 41 (0,0))∧W.heap.size ≠ wb):=(⟨b2,hne⟩:_∧_)
 clear y1 y2 y3 HB1 b1 b2 k1 hne hxz
 go_wp2_with fail
 refine HC2.mono ?_
 rintro e w3 ⟨rfl,z1,z2⟩
 clear HC2 d0 d1 d2 d3
 obtain ⟨b2,hne⟩:=(show w2.heap[W.heap.size]? = some (.cells #[.int .i64 3,.int .i64 m,.string x,.int .i64 r] 41 (0,0))∧W.heap.size ≠ wb from HB2)
 have b3:=z2.cells b2 (by decide) hne
 have d2:w3.cell? ⟨W.heap.size,2,none⟩=some (.string x):=cell_of b3 rfl
 have hcv:=Lib.run_convert_string_bytes (P:=Try.prog) w3 9 22 5 x Try.underlying9 Try.underlying22 Try.underlying5
 have hk:=kb_bytes w3 x
 have hxz:=(show x.size≤1000000 from HXB)
 have hlt:wb < w3.heap.size:=Nat.lt_of_lt_of_le z1.1 z1.2.1
 have HP:=fun c=>im_put (c:=c) (ad:=⟨w3.heap.size,0,none⟩) (bts x) (z1.call hk) (by show w3.heap.size ≠ _;omega) (bts_cells2 w3 x) (by rw [bts_len];omega) (bts_bok x)
 rw [bts_len] at HP
 have HO:Hid (Kw B wb W w3∧Kb 0 w3 (Lib.bytesWorld w3 5 x)):=(⟨(show Kw B wb W w2 from HY3).trans z2,hk⟩:_∧_)
 generalize Lib.bytesWorld w3 5 x=w4 at *
 generalize grownCap w3 x.size 0 5=cp at *
 clear z1 z2 hk b2 b3 hne HB2 HY3 hxz HXB hxx hlt
 go_wp2_with fail
 refine (HP _).mono ?_
 rintro e w5 ⟨rfl,q1,q2⟩
 obtain ⟨o1,o2⟩:=(show _∧_ from HO)
 have HN:Hid (WS B wb (l ++ pvl ⟨3,m,x,r⟩) w5∧Kw B wb W w5):=(⟨by rw [show l ++ pvl ⟨3,m,x,r⟩ = _ from HE];exact q1,(o1.trans (Kw.of_kb o2)).trans q2⟩:_∧_)
 clear HP q1 q2 o1 o2 HO hcv d2 HE
 go_wp2_with fail
 exact ⟨rfl,.tuple #[],by simp [results,Try.results93],rfl,(show _∧_ from HN).1,(show _∧_ from HN).2⟩
theorem im_pval {B wb : Nat} {W : World} {l : List Int} {v : Gv} (hw : WS B wb l W) (hp : Pok v) (hx : v.x.size ≤ 1000000) :
  Calls Try.prog 93 #[.pointer (some ⟨wb,0,none⟩),.agg #[.int .i64 v.k,.int .i64 v.m,.string v.x,.int .i64 v.r]] W (WP B wb W (l ++ pvl v)):=by
 obtain ⟨k,m,x,r⟩:=v
 have hk:=hp.k
 dsimp only at hk
 rcases hk with rfl | rfl | rfl | rfl | rfl
 ·exact im_pval_0 m x r hw hp hx
 ·exact im_pval_1 m x r hw hp hx
 ·exact im_pval_2 m x r hw hp hx
 ·exact im_pval_3 m x r hw hp hx
 ·exact im_pval_4 m x r hw hp hx
def cat (f:Nat→List Int):Nat→List Int
 | 0=>[]
 | n+1=>cat f n ++ f n
theorem cat_pre (f:Nat→List Int) (i:Nat):∀ d,∃ t,cat f (i+d)=cat f i ++ t
 | 0=>⟨[],(List.append_nil _).symm⟩
 | d+1=>by
  obtain ⟨t,e⟩:=cat_pre f i d
  exact ⟨t ++ f (i+d),by show cat f (i+d) ++ f (i+d) = _;rw [e,List.append_assoc]⟩
theorem cat_bok (f:Nat→List Int):∀ n,(∀ i,i < n→Bok (f i))→Bok (cat f n)
 | 0,_=>fun x hx=>by cases hx
 | n+1,h=>(cat_bok f n (fun i hi=>h i (by omega))).app (h n (by omega))
def ndl (f:Td):List Int:=(numb f.t.toNat ++ numb f.c) ++ cat (fun j=>pvl (f.C j)) f.c
def gbl (A:Gv) (m:Nat) (F:Nat→Td):List Int:=(numb m ++ pvl A) ++ cat (fun k=>ndl (F k)) m
theorem pvl_bok {v:Gv} (hp:Pok v):Bok (pvl v):=by
 have one:∀ c:Int,0≤c→c≤255→Bok [c]:=fun c h0 h1 x hx=>by rw [List.mem_singleton] at hx;subst hx;exact ⟨h0,h1⟩
 unfold pvl
 split
 ·exact (one 1 (by decide) (by decide)).app (numb_bok _)
 ·split
  ·exact (one 2 (by decide) (by decide)).app (eig_bok _ _)
  ·split
   ·exact ((one 3 (by decide) (by decide)).app (numb_bok _)).app (bts_bok _)
   ·split
    ·exact (one 4 (by decide) (by decide)).app (numb_bok _)
    ·exact one 0 (by decide) (by decide)
theorem WS.more {B wb:Nat} {W:World} {l t:List Int} {im:Value} {lf:Int} (h:WS B wb l W) (hb:W.heap[wb]? = some (.cells #[im,.int .i64 lf,.bool true] 99 (0,0))) (ht:Bok t):WS B wb (l ++ t) W:=by
 obtain ⟨h0,hB,hl,im',lf',lo,l1,h2,h3,h4,h5,h6⟩:=h
 refine ⟨h0,hB,hl.app ht,im',lf',lo,l1,h2,h3,h4,h5,.inr ?_⟩
 rcases h6 with ⟨rfl,_,_⟩ | ⟨e,q⟩
 ·rw [h2] at hb
  injection hb with hb
  injection hb with hb
  have:=congrArg (fun a=>a[2]?) hb
  simp at this
 ·exact ⟨e,by rw [List.length_append];omega⟩
def OV (wb:Nat) (W:World) (v:Value) (c:Nat) (D:Nat→Gv):Prop:=∃ p cap,v = .slice p c cap∧(0 < c→∃ g cur,p=some ⟨g,0,none⟩∧c≤cap∧g ≠ wb∧W.heap[g]? = some (.cells cur 41 (0,0))∧∀ j,j < c→∀ t,t < 4→W.cell? ⟨g,j*4+t,none⟩=(gcl (D j))[t]?)
theorem OV.keep {B wb:Nat} {W W':World} {v:Value} {c:Nat} {D:Nat→Gv} (h:OV wb W v c D) (k:Kw B wb W W'):OV wb W' v c D:=by
 obtain ⟨p,cap,h1,h2⟩:=h
 refine ⟨p,cap,h1,fun hc=>?_⟩
 obtain ⟨g,cur,e1,e2,e3,e4,e5⟩:=h2 hc
 have e6:=k.nt g cur _ e4 (by decide) e3
 exact ⟨g,cur,e1,e2,e3,e6.trans e4,fun j hj t ht=>(World.cell?_of_block e6).trans (e5 j hj t ht)⟩
def OT (wb:Nat) (W:World) (v:Value) (m:Nat) (F:Nat→Td):Prop:=∃ p cap,v = .slice p m cap∧(0 < m→∃ g cur,p=some ⟨g,0,none⟩∧m≤cap∧g ≠ wb∧W.heap[g]? = some (.cells cur 50 (0,0))∧∀ k,k < m→∃ vk,W.cell? ⟨g,k*2,none⟩=some (.int .i64 (F k).t)∧W.cell? ⟨g,k*2+1,none⟩=some vk∧OV wb W vk (F k).c (F k).C)
theorem OT.keep {B wb:Nat} {W W':World} {v:Value} {c:Nat} {D:Nat→Td} (h:OT wb W v c D) (k:Kw B wb W W'):OT wb W' v c D:=by
 obtain ⟨p,cap,h1,h2⟩:=h
 refine ⟨p,cap,h1,fun hc=>?_⟩
 obtain ⟨g,cur,e1,e2,e3,e4,e5⟩:=h2 hc
 have e6:=k.nt g cur _ e4 (by decide) e3
 refine ⟨g,cur,e1,e2,e3,e6.trans e4,fun j hj=>?_⟩
 obtain ⟨vk,q1,q2,q3⟩:=e5 j hj
 exact ⟨vk,(World.cell?_of_block e6).trans q1,(World.cell?_of_block e6).trans q2,q3.keep k⟩
theorem WS.flag {B wb:Nat} {W:World} {l:List Int} (h:WS B wb l W):∃ im lf lo,W.heap[wb]? = some (.cells #[im,.int .i64 lf,.bool lo] 99 (0,0)):=by
 obtain ⟨_,_,_,im,lf,lo,_,h2,_⟩:=h
 exact ⟨im,lf,lo,h2⟩
theorem im_wval {B wb : Nat} {W : World} {l : List Int} {v : Value} {c : Nat} {D : Nat → Gv} (hw : WS B wb l W) (hr : OV wb W v c D) (hp : ∀ j, j < c → Pok (D j) ∧ (D j).x.size ≤ 1000000) (hc : c ≤ 1048576) :
  Calls Try.prog 110 #[.pointer (some ⟨wb,0,none⟩),v,.func (.func 93) #[.pointer (some ⟨wb,0,none⟩)] #[]] W (WP B wb W (l ++ cat (fun j=>pvl (D j)) c)):=by
 obtain ⟨f,hf⟩:∃ f,f=fun j=>pvl (D j):=⟨_,rfl⟩
 rw [← hf]
 have HBK:Hid (∀ i,i < c→Bok (f i)):=(by rw [hf];exact fun i hi=>pvl_bok (hp i hi).1:∀ i,_)
 have HR:Hid (∀ wr,Kw B wb W wr→OV wb wr v c D):=(fun wr k=>hr.keep k:∀ wr,_)
 have HP:Hid ((∀ j,j < c→Pok (D j)∧(D j).x.size≤1000000)∧f=fun j=>pvl (D j)):=(⟨hp,hf⟩:_∧_)
 have HW:Hid (WS B wb l W):=hw
 have hlt:wb < W.heap.size:=Nat.lt_of_lt_of_le hw.1 hw.2.1
 have HLT:Hid (wb < W.heap.size):=hlt
 have hcI:(c:Int)≤1048576:=by omega
 obtain ⟨p,cap,rfl,-⟩:=id hr
 clear hw hr hp hf hlt hc
 go_enter Try.func110,Try.ntmps110
 go_wp2_with fail
 go_loopw [10] (fun s10 wr=>∃ i:Nat,s10 = .int .i64 (i:Int)∧i≤c∧Hid (WS B wb (l ++ cat f i) wr∧Kw B wb W wr)) (fun s10 _=>c - (intOf s10).toNat)
 case atStart=>exact ⟨0,rfl,Nat.zero_le _,(⟨by rw [show cat f 0 = [] from rfl,List.append_nil];exact HW,Kw.refl _ _ _⟩:_∧_)⟩
 case round =>
  clear HW
  obtain ⟨i,rfl,hi0,HX⟩:=hrel
  obtain ⟨hw,hk⟩:=(show WS B wb (l ++ cat f i) wr∧Kw B wb W wr from HX)
  rcases Nat.lt_or_ge i c with hi | hi
  case inr =>
   obtain rfl:i=c:=by omega
   have hI:¬ (i:Int) < (i:Int):=by omega
   clear hw hk HBK HR HP HLT hi
   go_wp2_with fail
   exact ⟨rfl,.tuple #[],by simp [results,Try.results110],rfl,(show _∧_ from HX).1,(show _∧_ from HX).2⟩
  have hI:(i:Int) < (c:Int):=by omega
  obtain ⟨p',cap',e0,hcl⟩:=(show ∀ wr,Kw B wb W wr→_ from HR) wr hk
  injection e0 with e0 _ e1
  subst e0
  subst e1
  obtain ⟨g,cur,rfl,hcap,hgw,hgb,hce⟩:=hcl (by omega)
  obtain ⟨hpp,hff⟩:=(show (∀ j,j < c→Pok (D j)∧(D j).x.size≤1000000)∧f=fun j=>pvl (D j) from HP)
  obtain ⟨x,hxd⟩:∃ x,x=D i:=⟨_,rfl⟩
  have z0:wr.cell? ⟨g,i*4,none⟩=some (.int .i64 x.k):=by rw [hxd];exact hce i hi 0 (by omega)
  have z1:wr.cell? ⟨g,i*4+1,none⟩=some (.int .i64 x.m):=by rw [hxd];exact hce i hi 1 (by omega)
  have z2:wr.cell? ⟨g,i*4+2,none⟩=some (.string x.x):=by rw [hxd];exact hce i hi 2 (by omega)
  have z3:wr.cell? ⟨g,i*4+3,none⟩=some (.int .i64 x.r):=by rw [hxd];exact hce i hi 3 (by omega)
  obtain ⟨W1,hW1⟩:∃ W1,W1=wr.alloc (.cells #[.int .i64 x.k,.int .i64 x.m,.string x.x,.int .i64 x.r] 41):=⟨_,rfl⟩
  have k1:Kb 0 wr W1:=by rw [hW1];exact kb_alloc _ _ _
  have b1:W1.heap[wr.heap.size]? = some (.cells #[.int .i64 x.k,.int .i64 x.m,.string x.x,.int .i64 x.r] 41 (0,0)):=by rw [hW1];exact alloc_new _ _ _
  have hw1:=hw.call k1
  obtain ⟨im,lf,lo,hfl⟩:=hw1.flag
  have lc:W1.cell? ⟨wb,2,none⟩=some (.bool lo):=cell_of hfl rfl
  have HW1:Hid (W1=wr.alloc (.cells #[.int .i64 x.k,.int .i64 x.m,.string x.x,.int .i64 x.r] 41)):=hW1
  have hk1:Kw B wb W W1:=hk.trans (Kw.of_kb k1)
  cases lo
  case true =>
   have HN:Hid (WS B wb (l ++ cat f c) W1∧Kw B wb W W1):=(by
    obtain ⟨t,et⟩:=cat_pre f i (c - i)
    rw [show i+(c - i)=c by omega] at et
    have hb:Bok t:=by
     have h1:=cat_bok f c (show ∀ i,i < c→Bok (f i) from HBK)
     rw [et] at h1
     exact fun x hx=>h1 x (List.mem_append.2 (.inr hx))
    rw [et,← List.append_assoc]
    exact ⟨hw1.more hfl hb,hk1⟩:_∧_)
   clear HX hw hk HBK HR HP HLT hcl hce hgb hpp hff hW1 k1 b1 hw1 hfl hk1 hxd
   go_upto_region 3 with fail
   rw [← (show W1 = _ from HW1)]
   clear HW1
   go_wp2_with fail
   exact bodyPost_ret (by simp [results,Try.results110]) rfl ⟨rfl,(show _∧_ from HN).1,(show _∧_ from HN).2⟩
  case false =>
   have a0:W1.cell? ⟨wr.heap.size,0,none⟩=some (.int .i64 x.k):=cell_of b1 rfl
   have a1:W1.cell? ⟨wr.heap.size,1,none⟩=some (.int .i64 x.m):=cell_of b1 rfl
   have a2:W1.cell? ⟨wr.heap.size,2,none⟩=some (.string x.x):=cell_of b1 rfl
   have a3:W1.cell? ⟨wr.heap.size,3,none⟩=some (.int .i64 x.r):=cell_of b1 rfl
   have HC:=im_pval hw1 (v:=x) (by rw [hxd];exact (hpp i hi).1) (by rw [hxd];exact (hpp i hi).2)
   have HE:Hid (l ++ cat f (i+1)=(l ++ cat f i) ++ pvl x):=(by show l ++ (cat f i ++ f i) = _;rw [show f i=pvl x by rw [hff,hxd],List.append_assoc]:l ++ cat f (i+1) = _)
   have HK1:Hid (Kw B wb W W1):=hk1
   clear hxd
   clear HX hw hk HBK HR HP HLT hcl hce hgb hpp hff hW1 k1 b1 hw1 hfl hk1
   go_upto_region 3 with fail
   rw [← (show W1 = _ from HW1)]
   clear HW1 z0 z1 z2 z3
   go_wp2_with fail
   refine HC.mono ?_
   rintro e w3 ⟨rfl,y1,y2⟩
   have HN:Hid (WS B wb (l ++ cat f (i+1)) w3∧Kw B wb W w3):=(⟨by rw [show l ++ cat f (i+1) = _ from HE];exact y1,(show Kw B wb W W1 from HK1).trans y2⟩:_∧_)
   clear HC y1 y2 HE HK1
   go_wp2_with fail
   go_roundw
   case rel=>exact ⟨i+1,by go_num,by omega,HN⟩
   case measure=>simp [intOf];omega
end Go.Proofs.Ytamcnmnaadpfoaa.Fo
