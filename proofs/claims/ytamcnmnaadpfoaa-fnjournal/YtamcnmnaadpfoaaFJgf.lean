import Derived.Test.YtamcnmnaadpfoaaFJga
set_option maxHeartbeats 16000000
namespace Go.Proofs.Ytamcnmnaadpfoaa.Fo
open Go.ChangeShapes Go.WideShapes Go.ChangeAt Go.RowKit
set_option linter.unusedVariables false
set_option maxRecDepth 100000
def Lns (p:Nat) (A:Nat→ByteArray):Prop:=p≤200∧∀ i,i < p→(A i).size≤4000
theorem im_long (x:ByteArray) (w:World):Calls Try.prog 89 #[.string x] w fun e w'=>e = .returned (.bool (dc (¬ x.size≤4000)))∧w'=w:=by
 by_cases h4:x.size≤4000
 ·rw [dc_f (by omega)]
  have g4:¬ (4000:Int) < (x.size:Int):=by omega
  clear h4
  go_enter Try.func89,Try.ntmps89
  go_wp2_with fail
  go_ret
  exact ⟨rfl,rfl⟩
 ·rw [dc_t (by omega)]
  have g4:(4000:Int) < (x.size:Int):=by omega
  clear h4
  go_enter Try.func89,Try.ntmps89
  go_wp2_with fail
  go_ret
  exact ⟨rfl,rfl⟩
theorem im_lindex {v : Value} {p : Nat} {A : Nat → ByteArray} (w : World) (hr : RowV w v p (fun i => .string (A i))) (hp : p ≤ 1048576) :
  Calls Try.prog 108 #[v,.func (.func 89) #[] #[]] w fun e w'=>∃ r:Int,e = .returned (.int .i64 r)∧((0≤r∧¬ ∀ j,j < p→(A j).size≤4000)∨(r = -1∧∀ j,j < p→(A j).size≤4000))∧w'=w:=by
 obtain ⟨pa,ca,rfl,hr2⟩:=hr
 have hpI:(p:Int)≤1048576:=by omega
 have HR:Hid (0 < p→∃ a:Addr,pa=some a∧p≤ca∧∀ i,i < p→w.cell? (a.add i)=some (.string (A i))):=hr2
 clear hr2 hp
 go_enter Try.func108,Try.ntmps108
 go_wp2_with fail
 go_loopw [8] (fun s8 wr=>∃ i:Nat,s8 = .int .i64 (i:Int)∧i≤p∧wr=w∧Hid (∀ j,j < i→(A j).size≤4000)) (fun s8 _=>p - (intOf s8).toNat)
 case atStart=>exact ⟨0,rfl,Nat.zero_le _,rfl,(fun j hj=>by omega:∀ j,_)⟩
 case round =>
  obtain ⟨i,rfl,hin,rfl,HI⟩:=hrel
  have ha:=(show ∀ j,j < i→(A j).size≤4000 from HI)
  rcases Nat.lt_or_ge i p with hi | hi
  ·have hiI:(i:Int) < (p:Int):=by omega
   obtain ⟨a,rfl,hca,hra⟩:=(show 0 < p→_ from HR) (by omega)
   have qa:wr.cell? (a.add i)=some (.string (A i)):=hra i hi
   have hcall:=im_long (A i) wr
   by_cases hn:(A i).size≤4000
   ·rw [dc_f (not_not_intro hn)] at hcall
    have HX:Hid (∀ j,j < i+1→(A j).size≤4000):=(fun j hj=>by
     by_cases e:j=i
     ·rw [e];exact hn
     ·exact ha j (by omega):∀ j,_)
    clear HI ha hra hn
    generalize A i=x at *
    go_wp2_with fail
    refine hcall.mono ?_
    rintro e w' ⟨rfl,rfl⟩
    go_wp2_with fail
    go_roundw
    case rel=>exact ⟨i+1,by go_num,by omega,by trivial,HX⟩
    case measure=>simp [intOf];omega
   ·rw [dc_t hn] at hcall
    have HX:Hid (¬ ∀ j,j < p→(A j).size≤4000):=(fun h=>hn (h i hi):¬ _)
    clear HI ha hra hn
    generalize A i=x at *
    go_wp2_with fail
    refine hcall.mono ?_
    rintro e w' ⟨rfl,rfl⟩
    go_wp2_with fail
    go_ret
    exact ⟨(i:Int),rfl,.inl ⟨by omega,HX⟩,rfl⟩
  ·obtain rfl:i=p:=by omega
   clear HR ha
   go_wp2_with fail
   go_ret
   exact ⟨-1,rfl,.inr ⟨rfl,HI⟩,rfl⟩
theorem im_lcontains {v : Value} {p : Nat} {A : Nat → ByteArray} (w : World) (hr : RowV w v p (fun i => .string (A i))) (hp : p ≤ 1048576) :
  Calls Try.prog 88 #[v,.func (.func 89) #[] #[]] w fun e w'=>e = .returned (.bool (dc (¬ ∀ j,j < p→(A j).size≤4000)))∧w'=w:=by
 have h1:=im_lindex w hr hp
 obtain ⟨pa,ca,rfl,hr2⟩:=hr
 clear hr2 hp
 obtain ⟨z,hz⟩:∃ z,z=dc (¬ ∀ j,j < p→(A j).size≤4000):=⟨_,rfl⟩
 have HZ:Hid (z=dc (¬ ∀ j,j < p→(A j).size≤4000)):=hz
 rw [← hz]
 clear hz
 go_enter Try.func88,Try.ntmps88
 go_wp2_with fail
 refine h1.mono ?_
 rintro e w1 ⟨r,rfl,hR,rfl⟩
 clear h1
 rcases hR with ⟨h0,hn⟩ | ⟨rfl,hn⟩
 ·have hX:z=true:=(show z = _ from HZ).trans (dc_t hn)
  subst hX
  clear hn HZ
  go_wp2_with fail
  go_ret
  exact ⟨rfl,rfl⟩
 ·have hX:z=false:=(show z = _ from HZ).trans (dc_f (not_not_intro hn))
  subst hX
  clear hn HZ
  go_wp2_with fail
  go_ret
  exact ⟨rfl,rfl⟩
theorem im_lines {v : Value} {p : Nat} {A : Nat → ByteArray} (w : World) (hr : RowV w v p (fun i => .string (A i))) (hp : p ≤ 1048576) :
  Calls Try.prog 54 #[v] w fun e w'=>e = .returned (.bool (dc (Lns p A)))∧w'=w:=by
 have h1:=im_lcontains w hr hp
 obtain ⟨pa,ca,rfl,hr2⟩:=hr
 have hpI:(p:Int)≤1048576:=by omega
 clear hr2 hp
 by_cases c:p≤200
 ·have g:(p:Int)≤200:=by omega
  by_cases d:∀ j,j < p→(A j).size≤4000
  ·rw [dc_t (p:=Lns p A) ⟨c,d⟩]
   rw [dc_f (not_not_intro d)] at h1
   clear c d
   go_enter Try.func54,Try.ntmps54
   go_wp2_with fail
   refine h1.mono ?_
   rintro e w1 ⟨rfl,rfl⟩
   go_wp2_with fail
   go_ret
   exact ⟨rfl,rfl⟩
  ·rw [dc_f (p:=Lns p A) (fun h=>d h.2)]
   rw [dc_t d] at h1
   clear c d
   go_enter Try.func54,Try.ntmps54
   go_wp2_with fail
   refine h1.mono ?_
   rintro e w1 ⟨rfl,rfl⟩
   go_wp2_with fail
   go_ret
   exact ⟨rfl,rfl⟩
 ·rw [dc_f (p:=Lns p A) (fun h=>c h.1)]
  have g:¬ (p:Int)≤200:=by omega
  clear c h1
  go_enter Try.func54,Try.ntmps54
  go_wp2_with fail
  all_goals (go_ret;exact ⟨rfl,rfl⟩)
theorem im_sbad (s:Gv) (hs:(s.x.size:Int)≤9223372036854775807) (w:World):Calls Try.prog 57 #[.agg #[.int .i64 s.k,.int .i64 s.m,.int .i64 s.r,.string s.x]] w fun e w'=>e = .returned (.bool (!(dc (StP s.k s.m s.r s.x.size))))∧Kb 0 w w':=by
 obtain ⟨w1,hw1⟩:∃ w1,w1=w.alloc (.cells #[.int .i64 s.k,.int .i64 s.m,.int .i64 s.r,.string s.x] 38):=⟨_,rfl⟩
 have k1:Kb 0 w w1:=by rw [hw1];exact kb_alloc _ _ _
 have b1:w1.heap[w.heap.size]? = some (.cells #[.int .i64 s.k,.int .i64 s.m,.int .i64 s.r,.string s.x] 38 (0,0)):=by rw [hw1];exact alloc_new _ _ _
 have c0:w1.cell? ⟨w.heap.size,0,none⟩=some (.int .i64 s.k):=cell_of b1 rfl
 have c1:w1.cell? ⟨w.heap.size,1,none⟩=some (.int .i64 s.m):=cell_of b1 rfl
 have c2:w1.cell? ⟨w.heap.size,2,none⟩=some (.int .i64 s.r):=cell_of b1 rfl
 have c3:w1.cell? ⟨w.heap.size,3,none⟩=some (.string s.x):=cell_of b1 rfl
 have HC:=im_stop (k:=s.k) (f:=s.m) (l:=s.r) (s:=s.x) w1 hs
 have HW:Hid (w1 = _):=hw1
 have HK:Hid (Kb 0 w w1):=k1
 generalize dc (StP s.k s.m s.r s.x.size)=z at HC ⊢
 clear hw1 k1 b1
 go_enter Try.func57,Try.ntmps57
 go_upto_region 1 with fail
 rw [← (show w1 = _ from HW)]
 clear HW
 go_wp2_with fail
 refine HC.mono ?_
 rintro e w2 ⟨rfl,k2⟩
 have HF:Hid (Kb 0 w w2):=(show Kb 0 w w1 from HK).trans k2
 clear HC k2 HK c0 c1 c2 c3
 cases z
 ·go_wp2_with fail
  go_ret
  exact ⟨rfl,HF⟩
 ·go_wp2_with fail
  go_ret
  exact ⟨rfl,HF⟩
theorem im_sindex {v : Value} {m : Nat} {T : Nat → Gv} (w : World) (hr : Js.RowW 0 w v m T) (hm : m ≤ 1048576) (hs : ∀ i, i < m → ((T i).x.size : Int) ≤ 9223372036854775807) :
  Calls Try.prog 90 #[v,.func (.func 57) #[] #[]] w fun e w'=>∃ r:Int,e = .returned (.int .i64 r)∧((0≤r∧¬ ∀ j,j < m→StP (T j).k (T j).m (T j).r (T j).x.size)∨(r = -1∧∀ j,j < m→StP (T j).k (T j).m (T j).r (T j).x.size))∧Kb 0 w w':=by
 obtain ⟨pa,ca,rfl,hr2⟩:=hr
 have hpI:(m:Int)≤1048576:=by omega
 have HR:Hid ((0 < m→∃ a:Addr,pa=some a∧m≤ca∧0≤a.block∧∀ i,i < m→Js.ValC 0 w (a.add (i*4)) (T i))∧∀ i,i < m→((T i).x.size:Int)≤9223372036854775807):=(⟨hr2,hs⟩:_∧_)
 clear hr2 hm hs
 go_enter Try.func90,Try.ntmps90
 go_wp2_with fail
 go_loopw [8] (fun s8 wr=>∃ i:Nat,s8 = .int .i64 (i:Int)∧i≤m∧Hid (Kb 0 w wr∧∀ j,j < i→StP (T j).k (T j).m (T j).r (T j).x.size)) (fun s8 _=>m - (intOf s8).toNat)
 case atStart=>exact ⟨0,rfl,Nat.zero_le _,(⟨Kb.refl _ _,fun j hj=>by omega⟩:_∧_)⟩
 case round =>
  obtain ⟨i,rfl,hin,HI⟩:=hrel
  obtain ⟨kw,ha⟩:=(show Kb 0 w wr∧∀ j,j < i→StP (T j).k (T j).m (T j).r (T j).x.size from HI)
  rcases Nat.lt_or_ge i m with hi | hi
  ·have hiI:(i:Int) < (m:Int):=by omega
   obtain ⟨hr2,hs⟩:=(show (0 < m→∃ a:Addr,pa=some a∧m≤ca∧0≤a.block∧∀ i,i < m→Js.ValC 0 w (a.add (i*4)) (T i))∧∀ i,i < m→((T i).x.size:Int)≤9223372036854775807 from HR)
   obtain ⟨a,rfl,hca,-,hra⟩:=hr2 (by omega)
   obtain ⟨d0,d1,d2,d3⟩:=hra i hi
   replace d0:=kw.cell d0
   replace d1:=kw.cell d1
   replace d2:=kw.cell d2
   replace d3:=kw.cell d3
   have hcall:=im_sbad (T i) (hs i hi) wr
   by_cases hn:StP (T i).k (T i).m (T i).r (T i).x.size
   ·rw [dc_t hn] at hcall
    have HX:Hid (∀ w',Kb 0 wr w'→Kb 0 w w'∧∀ j,j < i+1→StP (T j).k (T j).m (T j).r (T j).x.size):=(fun w' k=>⟨kw.trans k,fun j hj=>by
     by_cases e:j=i
     ·rw [e];exact hn
     ·exact ha j (by omega)⟩:∀ w',_)
    clear HI ha hra hn hr2 hs kw
    generalize T i=x at *
    go_wp2_with fail
    refine hcall.mono ?_
    rintro e w' ⟨rfl,k'⟩
    have HY:Hid (Kb 0 w w'∧∀ j,j < i+1→StP (T j).k (T j).m (T j).r (T j).x.size):=(show ∀ w',_ from HX) w' k'
    clear HX k' hcall d0 d1 d2 d3
    go_wp2_with fail
    go_roundw
    case rel=>exact ⟨i+1,by go_num,by omega,HY⟩
    case measure=>simp [intOf];omega
   ·rw [dc_f hn] at hcall
    have HX:Hid (¬ ∀ j,j < m→StP (T j).k (T j).m (T j).r (T j).x.size):=(fun h=>hn (h i hi):¬ _)
    have HKW:Hid (Kb 0 w wr):=kw
    clear HI ha hra hn hr2 hs kw
    generalize T i=x at *
    go_wp2_with fail
    refine hcall.mono ?_
    rintro e w' ⟨rfl,k'⟩
    have HF:Hid (Kb 0 w w'):=(show Kb 0 w wr from HKW).trans k'
    clear hcall d0 d1 d2 d3 k'
    go_wp2_with fail
    go_ret
    exact ⟨(i:Int),rfl,.inl ⟨by omega,HX⟩,HF⟩
  ·obtain rfl:i=m:=by omega
   clear HR ha kw
   go_wp2_with fail
   go_ret
   exact ⟨-1,rfl,.inr ⟨rfl,(show _∧_ from HI).2⟩,(show _∧_ from HI).1⟩
theorem im_scontains {v : Value} {m : Nat} {T : Nat → Gv} (w : World) (hr : Js.RowW 0 w v m T) (hm : m ≤ 1048576) (hs : ∀ i, i < m → ((T i).x.size : Int) ≤ 9223372036854775807) :
  Calls Try.prog 56 #[v,.func (.func 57) #[] #[]] w fun e w'=>e = .returned (.bool (!(dc (∀ j,j < m→StP (T j).k (T j).m (T j).r (T j).x.size))))∧Kb 0 w w':=by
 have h1:=im_sindex w hr hm hs
 obtain ⟨pa,ca,rfl,hr2⟩:=hr
 clear hr2 hm hs
 obtain ⟨z,hz⟩:∃ z,z=dc (∀ j,j < m→StP (T j).k (T j).m (T j).r (T j).x.size):=⟨_,rfl⟩
 have HZ:Hid (z=dc (∀ j,j < m→StP (T j).k (T j).m (T j).r (T j).x.size)):=hz
 rw [← hz]
 clear hz
 go_enter Try.func56,Try.ntmps56
 go_wp2_with fail
 refine h1.mono ?_
 rintro e w1 ⟨r,rfl,hR,k1⟩
 have HK:Hid (Kb 0 w w1):=k1
 clear h1 k1
 rcases hR with ⟨h0,hn⟩ | ⟨rfl,hn⟩
 ·have hX:z=false:=(show z = _ from HZ).trans (dc_f hn)
  subst hX
  clear hn HZ
  go_wp2_with fail
  go_ret
  exact ⟨rfl,HK⟩
 ·have hX:z=true:=(show z = _ from HZ).trans (dc_t hn)
  subst hX
  clear hn HZ
  go_wp2_with fail
  go_ret
  exact ⟨rfl,HK⟩
theorem im_isj {J : Jd} {p1 p2 : Option Addr} {c1 c2 : Nat} (w : World) (hl : RowV w (.slice p1 J.n c1) J.n (fun i => .string (J.S i))) (hs : Js.RowW 0 w (.slice p2 J.m c2) J.m J.T) (hn : J.n ≤ 1048576) (hm : J.m ≤ 1048576) (hx : ∀ i, i < J.m → ((J.T i).x.size : Int) ≤ 9223372036854775807) :
  Calls Try.prog 33 #[.agg #[.slice p1 J.n c1,.int .i64 J.p,.int .i64 J.q,.slice p2 J.m c2]] w fun e w'=>e = .returned (.bool (dc (Jok J)))∧Kb 0 w w':=by
 obtain ⟨n,S,p,q,m,T⟩:=J
 dsimp only at hl hs hn hm hx ⊢
 obtain ⟨w4,hw4⟩:∃ w4,w4=((w.alloc (.cells #[.slice p1 n c1,.int .i64 p,.int .i64 q,.slice p2 m c2] 26)).alloc (.cells #[.int .i64 (-1),.int .i64 100000] 93)).alloc (.cells #[.int .i64 0,.int .i64 1000] 93):=⟨_,rfl⟩
 obtain ⟨b0,b1,b2,z4,k4⟩:=three_new w _ _ _ _ _ _ w4 hw4
 obtain ⟨z,hz⟩:∃ z,z=dc (Jok ⟨n,S,p,q,m,T⟩):=⟨_,rfl⟩
 rw [← hz]
 have HZ:Hid (z=dc (Jok ⟨n,S,p,q,m,T⟩)):=hz
 have j0:w4.cell? ⟨w.heap.size,0,none⟩=some (.slice p1 n c1):=cell_of b0 rfl
 have HB:Hid (∀ W,Kb 0 w4 W→(W.cell? ⟨w.heap.size,1,none⟩=some (.int .i64 p)∧W.cell? ⟨w.heap.size,2,none⟩=some (.int .i64 q)∧W.cell? ⟨w.heap.size,3,none⟩=some (.slice p2 m c2))∧(W.cell? ⟨w.heap.size+1,0,none⟩=some (.int .i64 (-1))∧W.cell? ⟨w.heap.size+1,1,none⟩=some (.int .i64 100000))∧W.cell? ⟨w.heap.size+1+1,0,none⟩=some (.int .i64 0)∧W.cell? ⟨w.heap.size+1+1,1,none⟩=some (.int .i64 1000)):=(fun W k=>⟨⟨k.cell (cell_of b0 rfl),k.cell (cell_of b0 rfl),k.cell (cell_of b0 rfl)⟩,⟨k.cell (cell_of b1 rfl),k.cell (cell_of b1 rfl)⟩,k.cell (cell_of b2 rfl),k.cell (cell_of b2 rfl)⟩:∀ W,_)
 have HL:=im_lines w4 ((RowV.rowB hl).keep k4).row hn
 have HC:Hid (∀ W,Kb 0 w4 W→Calls Try.prog 56 #[.slice p2 m c2,.func (.func 57) #[] #[]] W fun e w'=>e = .returned (.bool (!(dc (∀ j,j < m→StP (T j).k (T j).m (T j).r (T j).x.size))))∧Kb 0 W w'):=(fun W k=>im_scontains W ((hs.keep k4).keep k) hm hx:∀ W,_)
 have HW:Hid (w4=((w.alloc (.cells #[.slice p1 n c1,.int .i64 p,.int .i64 q,.slice p2 m c2] 26)).alloc (.cells #[.int .i64 (-1),.int .i64 100000] 93)).alloc (.cells #[.int .i64 0,.int .i64 1000] 93)):=hw4
 have HK:Hid (Kb 0 w w4):=k4
 have hmI:(m:Int)≤1048576:=by omega
 have H1:Hid (∀ W,Calls Try.prog 55 #[.agg #[.int .i64 (-1),.int .i64 100000],.int .i64 p] W fun e w'=>e = .returned (.bool (dc (-1≤p∧p≤100000)))∧Kb 0 W w'):=(fun W=>im_holds W:∀ W,_)
 have H2:Hid (∀ W,Calls Try.prog 55 #[.agg #[.int .i64 0,.int .i64 1000],.int .i64 q] W fun e w'=>e = .returned (.bool (dc (0≤q∧q≤1000)))∧Kb 0 W w'):=(fun W=>im_holds W:∀ W,_)
 clear hl hs hn hm hx hw4 b0 b1 b2 z4 k4 hz
 by_cases a1:Lns n S
 case neg =>
  obtain rfl:z=false:=(show z = _ from HZ).trans (dc_f (fun h=>a1 ⟨h.1,h.2.2.2.2.1⟩))
  rw [dc_f a1] at HL
  clear a1 HZ HB HC H1 H2
  go_enter Try.func33,Try.ntmps33
  go_upto_region 2 with fail
  rw [← (show w4 = _ from HW)]
  clear HW
  go_wp2_with fail
  refine HL.mono ?_
  rintro e w5 ⟨rfl,rfl⟩
  clear HL j0
  go_wp2_with fail
  go_ret
  exact ⟨rfl,HK⟩
 rw [dc_t a1] at HL
 by_cases a2 : -1≤p∧p≤100000
 case neg =>
  obtain rfl:z=false:=(show z = _ from HZ).trans (dc_f (fun h=>a2 h.2.2.1))
  rw [dc_f a2] at H1
  clear a1 a2 HZ HC H2
  go_enter Try.func33,Try.ntmps33
  go_upto_region 2 with fail
  rw [← (show w4 = _ from HW)]
  clear HW
  go_wp2_with fail
  refine HL.mono ?_
  rintro e w5 ⟨rfl,rfl⟩
  clear HL j0
  obtain ⟨⟨x1,x2,x3⟩,⟨x4,x5⟩,x6,x7⟩:=(show ∀ W,Kb 0 w5 W→_ from HB) w5 (Kb.refl _ _)
  go_wp2_with fail
  refine ((show ∀ W,Calls Try.prog _ _ W _ from H1) w5).mono ?_
  rintro e w6 ⟨rfl,k6⟩
  have HF:Hid (Kb 0 w w6):=(show Kb 0 w w5 from HK).trans k6
  clear H1 HB x1 x2 x3 x4 x5 x6 x7 k6
  go_wp2_with fail
  go_ret
  exact ⟨rfl,HF⟩
 rw [dc_t a2] at H1
 by_cases a3 : 0≤q∧q≤1000
 case neg =>
  obtain rfl:z=false:=(show z = _ from HZ).trans (dc_f (fun h=>a3 h.2.2.2.1))
  rw [dc_f a3] at H2
  clear a1 a2 a3 HZ HC
  go_enter Try.func33,Try.ntmps33
  go_upto_region 2 with fail
  rw [← (show w4 = _ from HW)]
  clear HW
  go_wp2_with fail
  refine HL.mono ?_
  rintro e w5 ⟨rfl,rfl⟩
  clear HL j0
  obtain ⟨⟨x1,x2,x3⟩,⟨x4,x5⟩,x6,x7⟩:=(show ∀ W,Kb 0 w5 W→_ from HB) w5 (Kb.refl _ _)
  go_wp2_with fail
  refine ((show ∀ W,Calls Try.prog _ _ W _ from H1) w5).mono ?_
  rintro e w6 ⟨rfl,k6⟩
  have HF:Hid (Kb 0 w w6):=(show Kb 0 w w5 from HK).trans k6
  obtain ⟨⟨y1,y2,y3⟩,⟨y4,y5⟩,y6,y7⟩:=(show ∀ W,Kb 0 w5 W→_ from HB) w6 k6
  clear H1 HB x1 x2 x3 x4 x5 x6 x7 k6
  go_wp2_with fail
  refine ((show ∀ W,Calls Try.prog _ _ W _ from H2) w6).mono ?_
  rintro e w7 ⟨rfl,k7⟩
  have HF7:Hid (Kb 0 w w7):=(show Kb 0 w w6 from HF).trans k7
  clear H2 y1 y2 y3 y4 y5 y6 y7 k7
  go_wp2_with fail
  go_ret
  exact ⟨rfl,HF7⟩
 rw [dc_t a3] at H2
 by_cases a4:m≤20
 case neg =>
  obtain rfl:z=false:=(show z = _ from HZ).trans (dc_f (fun h=>a4 h.2.1))
  have g4:¬ (m:Int)≤20:=by omega
  clear a1 a2 a3 a4 HZ HC
  go_enter Try.func33,Try.ntmps33
  go_upto_region 2 with fail
  rw [← (show w4 = _ from HW)]
  clear HW
  go_wp2_with fail
  refine HL.mono ?_
  rintro e w5 ⟨rfl,rfl⟩
  clear HL j0
  obtain ⟨⟨x1,x2,x3⟩,⟨x4,x5⟩,x6,x7⟩:=(show ∀ W,Kb 0 w5 W→_ from HB) w5 (Kb.refl _ _)
  go_wp2_with fail
  refine ((show ∀ W,Calls Try.prog _ _ W _ from H1) w5).mono ?_
  rintro e w6 ⟨rfl,k6⟩
  obtain ⟨⟨y1,y2,y3⟩,⟨y4,y5⟩,y6,y7⟩:=(show ∀ W,Kb 0 w5 W→_ from HB) w6 k6
  have K6:Hid (Kb 0 w5 w6):=k6
  clear H1 x1 x2 x3 x4 x5 x6 x7 k6
  go_wp2_with fail
  refine ((show ∀ W,Calls Try.prog _ _ W _ from H2) w6).mono ?_
  rintro e w7 ⟨rfl,k7⟩
  obtain ⟨⟨x1,x2,x3⟩,⟨x4,x5⟩,x6,x7⟩:=(show ∀ W,Kb 0 w5 W→_ from HB) w7 ((show Kb 0 w5 w6 from K6).trans k7)
  have HF7:Hid (Kb 0 w w7):=(show Kb 0 w w5 from HK).trans ((show Kb 0 w5 w6 from K6).trans k7)
  clear H2 y1 y2 y3 y4 y5 y6 y7 k7 HB x1 x2 x4 x5 x6 x7
  go_wp2_with fail
  go_ret
  exact ⟨rfl,HF7⟩
 have g4:(m:Int)≤20:=by omega
 have HZ2:Hid (z=dc (∀ j,j < m→StP (T j).k (T j).m (T j).r (T j).x.size)):=(by
  rw [show z = _ from HZ]
  by_cases a5:∀ j,j < m→StP (T j).k (T j).m (T j).r (T j).x.size
  ·rw [dc_t a5,dc_t (p:=Jok ⟨n,S,p,q,m,T⟩) ⟨a1.1,a4,a2,a3,a1.2,a5⟩]
  ·rw [dc_f a5,dc_f (p:=Jok ⟨n,S,p,q,m,T⟩) (fun h=>a5 h.2.2.2.2.2)]:z = _)
 rw [← (show z = _ from HZ2)] at HC
 clear a1 a2 a3 a4 HZ HZ2
 go_enter Try.func33,Try.ntmps33
 go_upto_region 2 with fail
 rw [← (show w4 = _ from HW)]
 clear HW
 go_wp2_with fail
 refine HL.mono ?_
 rintro e w5 ⟨rfl,rfl⟩
 clear HL j0
 obtain ⟨⟨x1,x2,x3⟩,⟨x4,x5⟩,x6,x7⟩:=(show ∀ W,Kb 0 w5 W→_ from HB) w5 (Kb.refl _ _)
 go_wp2_with fail
 refine ((show ∀ W,Calls Try.prog _ _ W _ from H1) w5).mono ?_
 rintro e w6 ⟨rfl,k6⟩
 obtain ⟨⟨y1,y2,y3⟩,⟨y4,y5⟩,y6,y7⟩:=(show ∀ W,Kb 0 w5 W→_ from HB) w6 k6
 have K6:Hid (Kb 0 w5 w6):=k6
 clear H1 x1 x2 x3 x4 x5 x6 x7 k6
 go_wp2_with fail
 refine ((show ∀ W,Calls Try.prog _ _ W _ from H2) w6).mono ?_
 rintro e w7 ⟨rfl,k7⟩
 have K7:Hid (Kb 0 w5 w7):=(show Kb 0 w5 w6 from K6).trans k7
 obtain ⟨⟨x1,x2,x3⟩,⟨x4,x5⟩,x6,x7⟩:=(show ∀ W,Kb 0 w5 W→_ from HB) w7 K7
 have HC7:=(show ∀ W,Kb 0 w5 W→_ from HC) w7 K7
 clear H2 y1 y2 y3 y4 y5 y6 y7 k7 HB x1 x2 x4 x5 x6 x7 HC
 go_wp2_with fail
 refine HC7.mono ?_
 rintro e w8 ⟨rfl,k8⟩
 have HF8:Hid (Kb 0 w w8):=(show Kb 0 w w5 from HK).trans ((show Kb 0 w5 w7 from K7).trans k8)
 clear HC7 k8 x3
 cases z
 ·go_wp2_with fail
  go_ret
  exact ⟨rfl,HF8⟩
 ·go_wp2_with fail
  go_ret
  exact ⟨rfl,HF8⟩
theorem sp_isj {J : Jd} {p1 p2 : Option Addr} {c1 c2 : Nat} (w : World) (hl : RowV w (.slice p1 J.n c1) J.n (fun i => .string (J.S i))) (hs : Js.RowW 0 w (.slice p2 J.m c2) J.m J.T) (hn : J.n ≤ 1048576) (hm : J.m ≤ 1048576) (hx : ∀ i, i < J.m → ((J.T i).x.size : Int) ≤ 9223372036854775807) :
  Calls Try.prog 40 #[.agg #[.slice p1 J.n c1,.int .i64 J.p,.int .i64 J.q,.slice p2 J.m c2]] w fun e w'=>e = .returned (.bool (dc (Jok J)))∧Kb 0 w w':=by
 obtain ⟨n,S,p,q,m,T⟩:=J
 dsimp only at hl hs hn hm hx ⊢
 obtain ⟨_,_,e0,hl2⟩:=hl
 injection e0 with e1 e2 e3
 subst e1 e3
 obtain ⟨_,_,e0,hs2⟩:=hs
 injection e0 with e1 e2 e3
 subst e1 e3
 obtain ⟨w0,hw0⟩:∃ w0,w0=w.alloc (.cells #[.slice p1 n c1,.int .i64 p,.int .i64 q,.slice p2 m c2] 26):=⟨_,rfl⟩
 have k0:Kb 0 w w0:=by rw [hw0];exact kb_alloc _ _ _
 have b0:w0.heap[w.heap.size]? = some (.cells #[.slice p1 n c1,.int .i64 p,.int .i64 q,.slice p2 m c2] 26 (0,0)):=by rw [hw0];exact alloc_new _ _ _
 obtain ⟨z,hz⟩:∃ z,z=dc (Jok ⟨n,S,p,q,m,T⟩):=⟨_,rfl⟩
 rw [← hz]
 have HZ:Hid (z=dc (Jok ⟨n,S,p,q,m,T⟩)):=hz
 have c0:w0.cell? ⟨w.heap.size,0,none⟩=some (.slice p1 n c1):=cell_of b0 rfl
 have c1':w0.cell? ⟨w.heap.size,1,none⟩=some (.int .i64 p):=cell_of b0 rfl
 have c2':w0.cell? ⟨w.heap.size,2,none⟩=some (.int .i64 q):=cell_of b0 rfl
 have c3:w0.cell? ⟨w.heap.size,3,none⟩=some (.slice p2 m c2):=cell_of b0 rfl
 have hnI:(n:Int)≤1048576:=by omega
 have hmI:(m:Int)≤1048576:=by omega
 have HW0:Hid (w0=w.alloc (.cells #[.slice p1 n c1,.int .i64 p,.int .i64 q,.slice p2 m c2] 26)):=hw0
 have HK:Hid (Kb 0 w w0):=k0
 have HA:Hid (0 < n→∃ a:Addr,p1=some a∧n≤c1∧∀ i,i < n→w0.cell? (a.add i)=some (.string (S i))):=(fun h=>by obtain ⟨a,x1,x2,x3⟩:=hl2 h;exact ⟨a,x1,x2,fun i hi=>k0.cell (x3 i hi)⟩ : 0 < n→_)
 have HS:Hid ((0 < m→∃ a:Addr,p2=some a∧m≤c2∧0≤a.block∧∀ i,i < m→Js.ValC 0 w0 (a.add (i*4)) (T i))∧∀ i,i < m→((T i).x.size:Int)≤9223372036854775807):=(⟨fun h=>by obtain ⟨a,x1,x2,x4,x3⟩:=hs2 h;exact ⟨a,x1,x2,x4,fun i hi=>(x3 i hi).keep (Nat.zero_le _) k0⟩,hx⟩:_∧_)
 clear hl2 hs2 hn hm hx hw0 k0 b0 hz
 by_cases h0:n≤200
 case neg =>
  obtain rfl:z=false:=(show z = _ from HZ).trans (dc_f (fun h=>h0 h.1))
  have g0:(200:Int) < (n:Int):=by omega
  clear HZ HA HS h0
  go_enter Try.func40,Try.ntmps40
  go_upto_region 1 with fail
  rw [← (show w0 = _ from HW0)]
  clear HW0
  go_wp2_with fail
  all_goals (go_ret;exact ⟨rfl,HK⟩)
 have g0:¬ ((200:Int) < (n:Int)):=by omega
 by_cases h1:m≤20
 case neg =>
  obtain rfl:z=false:=(show z = _ from HZ).trans (dc_f (fun h=>h1 h.2.1))
  have g1:(20:Int) < (m:Int):=by omega
  clear HZ HA HS h0 h1
  go_enter Try.func40,Try.ntmps40
  go_upto_region 1 with fail
  rw [← (show w0 = _ from HW0)]
  clear HW0
  go_wp2_with fail
  all_goals (go_ret;exact ⟨rfl,HK⟩)
 have g1:¬ ((20:Int) < (m:Int)):=by omega
 by_cases h2 : -1≤p
 case neg =>
  obtain rfl:z=false:=(show z = _ from HZ).trans (dc_f (fun h=>h2 h.2.2.1.1))
  have g2:p < -1:=by omega
  clear HZ HA HS h0 h1 h2
  go_enter Try.func40,Try.ntmps40
  go_upto_region 1 with fail
  rw [← (show w0 = _ from HW0)]
  clear HW0
  go_wp2_with fail
  all_goals (go_ret;exact ⟨rfl,HK⟩)
 have g2:¬ (p < -1):=by omega
 by_cases h3:p≤100000
 case neg =>
  obtain rfl:z=false:=(show z = _ from HZ).trans (dc_f (fun h=>h3 h.2.2.1.2))
  have g3:(100000:Int) < p:=by omega
  clear HZ HA HS h0 h1 h2 h3
  go_enter Try.func40,Try.ntmps40
  go_upto_region 1 with fail
  rw [← (show w0 = _ from HW0)]
  clear HW0
  go_wp2_with fail
  all_goals (go_ret;exact ⟨rfl,HK⟩)
 have g3:¬ ((100000:Int) < p):=by omega
 by_cases h4 : 0≤q
 case neg =>
  obtain rfl:z=false:=(show z = _ from HZ).trans (dc_f (fun h=>h4 h.2.2.2.1.1))
  have g4:q < 0:=by omega
  clear HZ HA HS h0 h1 h2 h3 h4
  go_enter Try.func40,Try.ntmps40
  go_upto_region 1 with fail
  rw [← (show w0 = _ from HW0)]
  clear HW0
  go_wp2_with fail
  all_goals (go_ret;exact ⟨rfl,HK⟩)
 have g4:¬ (q < 0):=by omega
 by_cases h5:q≤1000
 case neg =>
  obtain rfl:z=false:=(show z = _ from HZ).trans (dc_f (fun h=>h5 h.2.2.2.1.2))
  have g5:(1000:Int) < q:=by omega
  clear HZ HA HS h0 h1 h2 h3 h4 h5
  go_enter Try.func40,Try.ntmps40
  go_upto_region 1 with fail
  rw [← (show w0 = _ from HW0)]
  clear HW0
  go_wp2_with fail
  all_goals (go_ret;exact ⟨rfl,HK⟩)
 have g5:¬ ((1000:Int) < q):=by omega
 have HQ:Hid (n≤200∧m≤20∧(-1≤p∧p≤100000)∧(0≤q∧q≤1000)):=(⟨h0,h1,⟨h2,h3⟩,⟨h4,h5⟩⟩:_∧_)
 clear h0 h1 h2 h3 h4 h5
 go_enter Try.func40,Try.ntmps40
 go_upto_region 1 with fail
 rw [← (show w0 = _ from HW0)]
 clear HW0
 go_wp2_with fail
 clear g0 g1 g2 g3 g4 g5
 go_loopw [40] (fun s wr=>∃ i:Nat,s = .int .i64 (i:Int)∧i≤n∧w0=wr∧Hid (∀ j,j < i→(S j).size≤4000)) (fun s _=>n - (intOf s).toNat)
 case atStart=>exact ⟨0,rfl,Nat.zero_le _,rfl,(fun j hj=>by omega:∀ j,_)⟩
 case round =>
  obtain ⟨i,rfl,hin,rfl,HI⟩:=hrel
  have ha:=(show ∀ j,j < i→(S j).size≤4000 from HI)
  rcases Nat.lt_or_ge i n with hi | hi
  case inl =>
   have hiI:(i:Int) < (n:Int):=by omega
   obtain ⟨a,rfl,hca,hra⟩:=(show 0 < n→_ from HA) (by omega)
   have qa:w0.cell? (a.add i)=some (.string (S i)):=hra i hi
   by_cases hx:(S i).size≤4000
   ·have gx:¬ (4000:Int) < ((S i).size:Int):=by omega
    have HX:Hid (∀ j,j < i+1→(S j).size≤4000):=(fun j hj=>by
     by_cases e:j=i
     ·rw [e];exact hx
     ·exact ha j (by omega):∀ j,_)
    clear HI ha hra hx HS HQ HZ HA c1' c2' c3
    generalize S i=x at *
    go_wp2_with fail
    go_roundw
    case rel=>exact ⟨i+1,by go_num,by omega,by trivial,HX⟩
    case measure=>simp [intOf];omega
   ·obtain rfl:z=false:=(show z = _ from HZ).trans (dc_f (fun h=>hx (h.2.2.2.2.1 i hi)))
    have gx:(4000:Int) < ((S i).size:Int):=by omega
    clear HI ha hra hx HS HQ HZ HA c1' c2' c3
    generalize S i=x at *
    go_wp2_with fail
    go_ret
    exact ⟨rfl,HK⟩
  obtain rfl:i=n:=by omega
  have hI1:¬ (i:Int) < (i:Int):=by omega
  have HLN:Hid (∀ j,j < i→(S j).size≤4000):=ha
  clear HI ha HA c1' c2'
  go_wp2_with fail
  clear c3
  obtain ⟨n,rfl⟩:∃ n,n=i:=⟨_,rfl⟩
  go_loopw [51] (fun s wr=>∃ i:Nat,s = .int .i64 (i:Int)∧i≤m∧Hid (Kb 0 w0 wr∧∀ j,j < i→StP (T j).k (T j).m (T j).r (T j).x.size)) (fun s _=>m - (intOf s).toNat)
  case atStart=>exact ⟨0,rfl,Nat.zero_le _,(⟨Kb.refl _ _,fun j hj=>by omega⟩:_∧_)⟩
  case round =>
   obtain ⟨i,rfl,hin,HI⟩:=hrel
   obtain ⟨kw,ha⟩:=(show Kb 0 w0 wr∧∀ j,j < i→StP (T j).k (T j).m (T j).r (T j).x.size from HI)
   rcases Nat.lt_or_ge i m with hi | hi
   case inl =>
    have hiI:(i:Int) < (m:Int):=by omega
    obtain ⟨hs2,hxs⟩:=(show (0 < m→∃ a:Addr,p2=some a∧m≤c2∧0≤a.block∧∀ i,i < m→Js.ValC 0 w0 (a.add (i*4)) (T i))∧∀ i,i < m→((T i).x.size:Int)≤9223372036854775807 from HS)
    obtain ⟨a,rfl,hca,-,hra⟩:=hs2 (by omega)
    obtain ⟨d0,d1,d2,d3⟩:=hra i hi
    replace d0:=kw.cell d0
    replace d1:=kw.cell d1
    replace d2:=kw.cell d2
    replace d3:=kw.cell d3
    obtain ⟨s,hs⟩:∃ s,s=T i:=⟨_,rfl⟩
    rw [← hs] at d0 d1 d2 d3
    obtain ⟨wX,hwX⟩:∃ wX,wX=wr.alloc (.cells #[.int .i64 s.k,.int .i64 s.m,.int .i64 s.r,.string s.x] 38):=⟨_,rfl⟩
    have kX:Kb 0 wr wX:=by rw [hwX];exact kb_alloc _ _ _
    have bX:wX.heap[wr.heap.size]? = some (.cells #[.int .i64 s.k,.int .i64 s.m,.int .i64 s.r,.string s.x] 38 (0,0)):=by rw [hwX];exact alloc_new _ _ _
    have y0:wX.cell? ⟨wr.heap.size,0,none⟩=some (.int .i64 s.k):=cell_of bX rfl
    have y1:wX.cell? ⟨wr.heap.size,1,none⟩=some (.int .i64 s.m):=cell_of bX rfl
    have y2:wX.cell? ⟨wr.heap.size,2,none⟩=some (.int .i64 s.r):=cell_of bX rfl
    have y3:wX.cell? ⟨wr.heap.size,3,none⟩=some (.string s.x):=cell_of bX rfl
    have hcall:=sp_stop (k:=s.k) (f:=s.m) (l:=s.r) (s:=s.x) wX (by rw [hs];exact hxs i hi)
    have HWX:Hid (wX=wr.alloc (.cells #[.int .i64 s.k,.int .i64 s.m,.int .i64 s.r,.string s.x] 38)):=hwX
    by_cases hn:StP s.k s.m s.r s.x.size
    ·rw [dc_t hn] at hcall
     have HX:Hid (∀ w',Kb 0 wX w'→Kb 0 w0 w'∧∀ j,j < i+1→StP (T j).k (T j).m (T j).r (T j).x.size):=(fun w' k=>⟨(kw.trans kX).trans k,fun j hj=>by
      by_cases e:j=i
      ·rw [e,← hs];exact hn
      ·exact ha j (by omega)⟩:∀ w',_)
     clear HI ha hra hn hs2 hxs kw hs hwX kX bX HQ HZ HS HLN
     go_upto_region 12 with fail
     rw [← (show wX = _ from HWX)]
     clear HWX d0 d1 d2 d3
     go_wp2_with fail
     refine hcall.mono ?_
     rintro e w' ⟨rfl,k'⟩
     have HY:Hid (Kb 0 w0 w'∧∀ j,j < i+1→StP (T j).k (T j).m (T j).r (T j).x.size):=(show ∀ w',_ from HX) w' k'
     clear HX k' hcall y0 y1 y2 y3
     go_wp2_with fail
     go_roundw
     case rel=>exact ⟨i+1,by go_num,by omega,HY⟩
     case measure=>simp [intOf];omega
    ·rw [dc_f hn] at hcall
     obtain rfl:z=false:=(show z = _ from HZ).trans (dc_f (fun h=>hn (by rw [hs];exact h.2.2.2.2.2 i hi)))
     have HKW:Hid (Kb 0 w0 wX):=kw.trans kX
     clear HI ha hra hn hs2 hxs kw hs hwX kX bX HQ HZ HS HLN
     go_upto_region 12 with fail
     rw [← (show wX = _ from HWX)]
     clear HWX d0 d1 d2 d3
     go_wp2_with fail
     refine hcall.mono ?_
     rintro e w' ⟨rfl,k'⟩
     have HF:Hid (Kb 0 w w'):=(show Kb 0 w w0 from HK).trans ((show Kb 0 w0 wX from HKW).trans k')
     clear hcall y0 y1 y2 y3 k'
     go_wp2_with fail
     go_ret
     exact ⟨rfl,HF⟩
   obtain rfl:i=m:=by omega
   have hI2:¬ (i:Int) < (i:Int):=by omega
   obtain rfl:z=true:=(show z = _ from HZ).trans (dc_t (by
    obtain ⟨q1,q2,q3,q4⟩:=(show _∧_∧_∧_ from HQ)
    exact ⟨q1,q2,q3,q4,(show ∀ j,_ from HLN),ha⟩))
   have HF:Hid (Kb 0 w wr):=(show Kb 0 w w0 from HK).trans kw
   clear HS ha kw HI HZ HQ HLN
   go_wp2_with fail
   go_ret
   exact ⟨rfl,HF⟩
end Go.Proofs.Ytamcnmnaadpfoaa.Fo
