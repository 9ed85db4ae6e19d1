import Derived.Test.YtamcnmnaadpfoaaFPab
import Derived.Test.YtamcnmnaadpfoaaFGcc
import Derived.Laws.StructEq
set_option maxHeartbeats 16000000
namespace Go.Proofs.Ytamcnmnaadpfoaa.Fo
open Go.ChangeShapes Go.WideShapes Go.ChangeAt Go.RowKit
set_option linter.unusedVariables false
set_option maxRecDepth 100000
structure Nop (f:Td):Prop where
 t0 : 0≤f.t
 t1:f.t≤1000
 c:f.c≤300
 v:∀ j,j < f.c→Pok (f.C j)∧(f.C j).x.size≤1000000
theorem ndl_bok {f:Td} (h:Nop f):Bok (ndl f):=((numb_bok _).app (numb_bok _)).app (cat_bok _ _ (fun i hi=>pvl_bok (h.v i hi).1))
theorem im_wthing {B wb : Nat} {W : World} {l : List Int} {v : Value} {f : Td} (hw : WS B wb l W) (hr : OV wb W v f.c f.C) (hp : Nop f) :
  Calls Try.prog 95 #[.pointer (some ⟨wb,0,none⟩),.agg #[.int .i64 f.t,v]] W (WP B wb W (l ++ ndl f)):=by
 have hlt:wb < W.heap.size:=Nat.lt_of_lt_of_le hw.1 hw.2.1
 obtain ⟨W1,hW1⟩:∃ W1,W1=W.alloc (.cells #[.int .i64 f.t,v] 50):=⟨_,rfl⟩
 have k1:Kb 0 W W1:=by rw [hW1];exact kb_alloc _ _ _
 have b1:W1.heap[W.heap.size]? = some (.cells #[.int .i64 f.t,v] 50 (0,0)):=by rw [hW1];exact alloc_new _ _ _
 have HC:=im_groups f.t.toNat (by have:=hp.t1;omega) (hw.call k1)
 have htt:IntKind.u64.wrap f.t=((f.t.toNat:Nat):Int):=by rw [wrap_u64];have:=hp.t0;have:=hp.t1;omega
 have hcc:IntKind.u64.wrap (f.c:Int)=(f.c:Int):=by rw [wrap_u64];have:=hp.c;omega
 obtain ⟨TT,hTT⟩:∃ TT:Int,TT=((f.t.toNat:Nat):Int):=⟨_,rfl⟩
 rw [← hTT] at HC htt
 have c0:W1.cell? ⟨W.heap.size,0,none⟩=some (.int .i64 f.t):=cell_of b1 rfl
 have HB1:Hid (W1.heap[W.heap.size]? = some (.cells #[.int .i64 f.t,v] 50 (0,0))∧Kb 0 W W1∧W.heap.size ≠ wb∧OV wb W v f.c f.C∧Nop f):=(⟨b1,k1,by omega,hr,hp⟩:_∧_)
 have HW1:Hid (W1=W.alloc (.cells #[.int .i64 f.t,v] 50)):=hW1
 have HL:Hid (l ++ ndl f=((l ++ numb f.t.toNat) ++ numb f.c) ++ cat (fun j=>pvl (f.C j)) f.c):=(by unfold ndl;simp only [List.append_assoc]:l ++ ndl f = _)
 obtain ⟨p,cap,rfl,-⟩:=id hr
 clear hw hr hp hW1 k1 b1 hlt hTT
 go_enter Try.func95,Try.ntmps95
 go_upto_region 1 with fail
 rw [← (show W1 = _ from HW1)]
 clear HW1
 go_wp2_with fail
 refine HC.mono ?_
 rintro e w2 ⟨rfl,y1,y2⟩
 clear HC c0 htt
 obtain ⟨b1,k1,hne,hr,hp⟩:=(show W1.heap[W.heap.size]? = some (.cells #[.int .i64 f.t,.slice p f.c cap] 50 (0,0))∧Kb 0 W W1∧W.heap.size ≠ wb∧OV wb W (.slice p f.c cap) f.c f.C∧Nop f from HB1)
 have b2:=y2.cells b1 (by decide) hne
 have kw2:Kw B wb W w2:=(Kw.of_kb k1).trans y2
 have d1:w2.cell? ⟨W.heap.size,1,none⟩=some (.slice p f.c cap):=cell_of b2 rfl
 have HC2:=im_groups f.c (by have:=hp.c;omega) y1
 have HB2:Hid (w2.heap[W.heap.size]? = some (.cells #[.int .i64 f.t,.slice p f.c cap] 50 (0,0))∧Kw B wb W w2):=(⟨b2,kw2⟩:_∧_)
 clear y1 y2 b1 b2 k1 hne hr hp kw2
 go_wp2_with fail
 refine HC2.mono ?_
 rintro e w3 ⟨rfl,y1,y2⟩
 clear HC2 d1
 obtain ⟨b1,k1,hne,hr,hp⟩:=(show W1.heap[W.heap.size]? = some (.cells #[.int .i64 f.t,.slice p f.c cap] 50 (0,0))∧Kb 0 W W1∧W.heap.size ≠ wb∧OV wb W (.slice p f.c cap) f.c f.C∧Nop f from HB1)
 obtain ⟨b2,kw2⟩:=(show w2.heap[W.heap.size]? = some (.cells #[.int .i64 f.t,.slice p f.c cap] 50 (0,0))∧Kw B wb W w2 from HB2)
 have b3:=y2.cells b2 (by decide) hne
 have kw3:=kw2.trans y2
 have d1:w3.cell? ⟨W.heap.size,1,none⟩=some (.slice p f.c cap):=cell_of b3 rfl
 have HC3:=im_wval y1 (hr.keep kw3) hp.v (by have:=hp.c;omega)
 have HK3:Hid (Kw B wb W w3):=kw3
 clear y1 y2 b1 b2 b3 k1 hne hr hp kw2 kw3 HB1 HB2
 go_wp2_with fail
 refine HC3.mono ?_
 rintro e w4 ⟨rfl,y1,y2⟩
 have HN:Hid (WS B wb (l ++ ndl f) w4∧Kw B wb W w4):=(⟨by rw [show l ++ ndl f = _ from HL];exact y1,(show Kw B wb W w3 from HK3).trans y2⟩:_∧_)
 clear HC3 y1 y2 HL HK3 d1
 go_wp2_with fail
 exact ⟨rfl,.tuple #[],by simp [results,Try.results95],rfl,(show _∧_ from HN).1,(show _∧_ from HN).2⟩
theorem im_wthings {B wb : Nat} {W : World} {l : List Int} {v : Value} {c : Nat} {D : Nat → Td} (hw : WS B wb l W) (hr : OT wb W v c D) (hp : ∀ j, j < c → Nop (D j)) (hc : c ≤ 1048576) :
  Calls Try.prog 94 #[.pointer (some ⟨wb,0,none⟩),v,.func (.func 95) #[.pointer (some ⟨wb,0,none⟩)] #[]] W (WP B wb W (l ++ cat (fun j=>ndl (D j)) c)):=by
 obtain ⟨f,hf⟩:∃ f,f=fun j=>ndl (D j):=⟨_,rfl⟩
 rw [← hf]
 have HBK:Hid (∀ i,i < c→Bok (f i)):=(by rw [hf];exact fun i hi=>ndl_bok (hp i hi):∀ i,_)
 have HR:Hid (∀ wr,Kw B wb W wr→OT wb wr v c D):=(fun wr k=>hr.keep k:∀ wr,_)
 have HP:Hid ((∀ j,j < c→Nop (D j))∧f=fun j=>ndl (D j)):=(⟨hp,hf⟩:_∧_)
 have HW:Hid (WS B wb l W):=hw
 have hlt:wb < W.heap.size:=Nat.lt_of_lt_of_le hw.1 hw.2.1
 have HLT:Hid (wb < W.heap.size):=hlt
 have hcI:(c:Int)≤1048576:=by omega
 obtain ⟨p,cap,rfl,-⟩:=id hr
 clear hw hr hp hf hlt hc
 go_enter Try.func94,Try.ntmps94
 go_wp2_with fail
 go_loopw [10] (fun s10 wr=>∃ i:Nat,s10 = .int .i64 (i:Int)∧i≤c∧Hid (WS B wb (l ++ cat f i) wr∧Kw B wb W wr)) (fun s10 _=>c - (intOf s10).toNat)
 case atStart=>exact ⟨0,rfl,Nat.zero_le _,(⟨by rw [show cat f 0 = [] from rfl,List.append_nil];exact HW,Kw.refl _ _ _⟩:_∧_)⟩
 case round =>
  clear HW
  obtain ⟨i,rfl,hi0,HX⟩:=hrel
  obtain ⟨hw,hk⟩:=(show WS B wb (l ++ cat f i) wr∧Kw B wb W wr from HX)
  rcases Nat.lt_or_ge i c with hi | hi
  case inr =>
   obtain rfl:i=c:=by omega
   have hI:¬ (i:Int) < (i:Int):=by omega
   clear hw hk HBK HR HP HLT hi
   go_wp2_with fail
   exact ⟨rfl,.tuple #[],by simp [results,Try.results94],rfl,(show _∧_ from HX).1,(show _∧_ from HX).2⟩
  have hI:(i:Int) < (c:Int):=by omega
  obtain ⟨p',cap',e0,hcl⟩:=(show ∀ wr,Kw B wb W wr→_ from HR) wr hk
  injection e0 with e0 _ e1
  subst e0
  subst e1
  obtain ⟨g,cur,rfl,hcap,hgw,hgb,hce⟩:=hcl (by omega)
  obtain ⟨hpp,hff⟩:=(show (∀ j,j < c→Nop (D j))∧f=fun j=>ndl (D j) from HP)
  obtain ⟨vk,z0,z1,hov⟩:=hce i hi
  obtain ⟨x,hxd⟩:∃ x,x=D i:=⟨_,rfl⟩
  rw [← hxd] at z0 hov
  obtain ⟨pk',ck',rfl,-⟩:=id hov
  obtain ⟨W1,hW1⟩:∃ W1,W1=wr.alloc (.cells #[.int .i64 x.t,.slice pk' x.c ck'] 50):=⟨_,rfl⟩
  have k1:Kb 0 wr W1:=by rw [hW1];exact kb_alloc _ _ _
  have b1:W1.heap[wr.heap.size]? = some (.cells #[.int .i64 x.t,.slice pk' x.c ck'] 50 (0,0)):=by rw [hW1];exact alloc_new _ _ _
  have hw1:=hw.call k1
  obtain ⟨im,lf,lo,hfl⟩:=hw1.flag
  have lc:W1.cell? ⟨wb,2,none⟩=some (.bool lo):=cell_of hfl rfl
  have HW1:Hid (W1=wr.alloc (.cells #[.int .i64 x.t,.slice pk' x.c ck'] 50)):=hW1
  have hk1:Kw B wb W W1:=hk.trans (Kw.of_kb k1)
  cases lo
  case true =>
   have HN:Hid (WS B wb (l ++ cat f c) W1∧Kw B wb W W1):=(by
    obtain ⟨t,et⟩:=cat_pre f i (c - i)
    rw [show i+(c - i)=c by omega] at et
    have hb:Bok t:=by
     have h1:=cat_bok f c (show ∀ i,i < c→Bok (f i) from HBK)
     rw [et] at h1
     exact fun x hx=>h1 x (List.mem_append.2 (.inr hx))
    rw [et,← List.append_assoc]
    exact ⟨hw1.more hfl hb,hk1⟩:_∧_)
   clear HX hw hk HBK HR HP HLT hcl hce hgb hpp hff hW1 k1 b1 hw1 hfl hk1 hxd hov
   go_upto_region 3 with fail
   rw [← (show W1 = _ from HW1)]
   clear HW1
   go_wp2_with fail
   exact bodyPost_ret (by simp [results,Try.results94]) rfl ⟨rfl,(show _∧_ from HN).1,(show _∧_ from HN).2⟩
  case false =>
   have a0:W1.cell? ⟨wr.heap.size,0,none⟩=some (.int .i64 x.t):=cell_of b1 rfl
   have a1:W1.cell? ⟨wr.heap.size,1,none⟩=some (.slice pk' x.c ck'):=cell_of b1 rfl
   have HC:=im_wthing (f:=x) hw1 (hov.keep (Kw.of_kb (B:=B) k1)) (by rw [hxd];exact hpp i hi)
   have HE:Hid (l ++ cat f (i+1)=(l ++ cat f i) ++ ndl x):=(by show l ++ (cat f i ++ f i) = _;rw [show f i=ndl x by rw [hff,hxd],List.append_assoc]:l ++ cat f (i+1) = _)
   have HK1:Hid (Kw B wb W W1):=hk1
   clear hxd hov
   clear HX hw hk HBK HR HP HLT hcl hce hgb hpp hff hW1 k1 b1 hw1 hfl hk1
   go_upto_region 3 with fail
   rw [← (show W1 = _ from HW1)]
   clear HW1 z0 z1
   go_wp2_with fail
   refine HC.mono ?_
   rintro e w3 ⟨rfl,y1,y2⟩
   have HN:Hid (WS B wb (l ++ cat f (i+1)) w3∧Kw B wb W w3):=(⟨by rw [show l ++ cat f (i+1) = _ from HE];exact y1,(show Kw B wb W W1 from HK1).trans y2⟩:_∧_)
   clear HC y1 y2 HE HK1
   go_wp2_with fail
   go_roundw
   case rel=>exact ⟨i+1,by go_num,by omega,HN⟩
   case measure=>simp [intOf];omega
theorem im_wgraph {B wb : Nat} {W : World} {l : List Int} {v : Value} {A : Gv} {m : Nat} {D : Nat → Td} (hw : WS B wb l W) (hr : OT wb W v m D) (hA : Pok A ∧ A.x.size ≤ 1000000) (hp : ∀ j, j < m → Nop (D j)) (hm : m ≤ 600) :
  Calls Try.prog 61 #[.pointer (some ⟨wb,0,none⟩),.agg #[.int .i64 A.k,.int .i64 A.m,.string A.x,.int .i64 A.r,v]] W (WP B wb W (l ++ gbl A m D)):=by
 have hlt:wb < W.heap.size:=Nat.lt_of_lt_of_le hw.1 hw.2.1
 obtain ⟨p,cap,rfl,-⟩:=id hr
 obtain ⟨W1,hW1⟩:∃ W1,W1=W.alloc (.cells #[.int .i64 A.k,.int .i64 A.m,.string A.x,.int .i64 A.r,.slice p m cap] 44):=⟨_,rfl⟩
 have k1:Kb 0 W W1:=by rw [hW1];exact kb_alloc _ _ _
 have b1:W1.heap[W.heap.size]? = some (.cells #[.int .i64 A.k,.int .i64 A.m,.string A.x,.int .i64 A.r,.slice p m cap] 44 (0,0)):=by rw [hW1];exact alloc_new _ _ _
 have HC:=im_groups m (by omega) (hw.call k1)
 have hcc:IntKind.u64.wrap (m:Int)=(m:Int):=by rw [wrap_u64];omega
 have c4:W1.cell? ⟨W.heap.size,4,none⟩=some (.slice p m cap):=cell_of b1 rfl
 have HB1:Hid (W1.heap[W.heap.size]? = some (.cells #[.int .i64 A.k,.int .i64 A.m,.string A.x,.int .i64 A.r,.slice p m cap] 44 (0,0))∧Kb 0 W W1∧W.heap.size ≠ wb∧OT wb W (.slice p m cap) m D∧(Pok A∧A.x.size≤1000000)∧(∀ j,j < m→Nop (D j))∧m≤600):=(⟨b1,k1,by omega,hr,hA,hp,hm⟩:_∧_)
 have HW1:Hid (W1=W.alloc (.cells #[.int .i64 A.k,.int .i64 A.m,.string A.x,.int .i64 A.r,.slice p m cap] 44)):=hW1
 have HL:Hid (l ++ gbl A m D=((l ++ numb m) ++ pvl A) ++ cat (fun k=>ndl (D k)) m):=(by unfold gbl;simp only [List.append_assoc]:l ++ gbl A m D = _)
 clear hw hr hp hW1 k1 b1 hlt hA hm
 go_enter Try.func61,Try.ntmps61
 go_upto_region 1 with fail
 rw [← (show W1 = _ from HW1)]
 clear HW1
 go_wp2_with fail
 refine HC.mono ?_
 rintro e w2 ⟨rfl,y1,y2⟩
 clear HC c4
 obtain ⟨b1,k1,hne,hr,hA,hp,hm⟩:=(show W1.heap[W.heap.size]? = some (.cells #[.int .i64 A.k,.int .i64 A.m,.string A.x,.int .i64 A.r,.slice p m cap] 44 (0,0))∧Kb 0 W W1∧W.heap.size ≠ wb∧OT wb W (.slice p m cap) m D∧(Pok A∧A.x.size≤1000000)∧(∀ j,j < m→Nop (D j))∧m≤600 from HB1)
 have b2:=y2.cells b1 (by decide) hne
 have kw2:Kw B wb W w2:=(Kw.of_kb k1).trans y2
 have d0:w2.cell? ⟨W.heap.size,0,none⟩=some (.int .i64 A.k):=cell_of b2 rfl
 have d1:w2.cell? ⟨W.heap.size,1,none⟩=some (.int .i64 A.m):=cell_of b2 rfl
 have d2:w2.cell? ⟨W.heap.size,2,none⟩=some (.string A.x):=cell_of b2 rfl
 have d3:w2.cell? ⟨W.heap.size,3,none⟩=some (.int .i64 A.r):=cell_of b2 rfl
 have HC2:=im_pval y1 hA.1 hA.2
 have HB2:Hid (w2.heap[W.heap.size]? = some (.cells #[.int .i64 A.k,.int .i64 A.m,.string A.x,.int .i64 A.r,.slice p m cap] 44 (0,0))∧Kw B wb W w2):=(⟨b2,kw2⟩:_∧_)
 clear y1 y2 b1 b2 k1 hne hr hp hA hm kw2 hcc
 go_wp2_with fail
 refine HC2.mono ?_
 rintro e w3 ⟨rfl,y1,y2⟩
 clear HC2 d0 d1 d2 d3
 obtain ⟨b1,k1,hne,hr,hA,hp,hm⟩:=(show W1.heap[W.heap.size]? = some (.cells #[.int .i64 A.k,.int .i64 A.m,.string A.x,.int .i64 A.r,.slice p m cap] 44 (0,0))∧Kb 0 W W1∧W.heap.size ≠ wb∧OT wb W (.slice p m cap) m D∧(Pok A∧A.x.size≤1000000)∧(∀ j,j < m→Nop (D j))∧m≤600 from HB1)
 obtain ⟨b2,kw2⟩:=(show w2.heap[W.heap.size]? = some (.cells #[.int .i64 A.k,.int .i64 A.m,.string A.x,.int .i64 A.r,.slice p m cap] 44 (0,0))∧Kw B wb W w2 from HB2)
 have b3:=y2.cells b2 (by decide) hne
 have kw3:=kw2.trans y2
 have d4:w3.cell? ⟨W.heap.size,4,none⟩=some (.slice p m cap):=cell_of b3 rfl
 have HC3:=im_wthings y1 (hr.keep kw3) hp (by omega)
 have HK3:Hid (Kw B wb W w3):=kw3
 clear y1 y2 b1 b2 b3 k1 hne hr hp hA hm kw2 kw3 HB1 HB2
 go_wp2_with fail
 refine HC3.mono ?_
 rintro e w4 ⟨rfl,y1,y2⟩
 have HN:Hid (WS B wb (l ++ gbl A m D) w4∧Kw B wb W w4):=(⟨by rw [show l ++ gbl A m D = _ from HL];exact y1,(show Kw B wb W w3 from HK3).trans y2⟩:_∧_)
 clear HC3 y1 y2 HL HK3 d4
 go_wp2_with fail
 exact ⟨rfl,.tuple #[],by simp [results,Try.results61],rfl,(show _∧_ from HN).1,(show _∧_ from HN).2⟩
theorem em0 {x:ByteArray} (h:x=⟨#[]⟩):x.size=0:=by rw [h];rfl
theorem im_val_0 {n:Nat} (v:Gv) (hxs:(v.x.size:Int) < 140737488355328) (hn:(n:Int) < 140737488355328) (hk:v.k=0) (w:World):Calls Try.prog 91 #[gvv v,.int .i64 (n:Int)] w fun e w'=>e = .returned (.bool (dc (Vok n v)))∧Kb 0 w w':=by
 unfold gvv
 by_cases hm:v.m=0
 rotate_left
 ·rw [dc_f (by rintro (⟨q,q1,q2,q3⟩ | ⟨q,q1,q2⟩ | ⟨q,q1,q2,q3⟩ | ⟨q,q1,q2,q3,q4⟩) <;> first | omega | exact hm (by assumption))]
  have k0:((0:Int) == 0)=true:=rfl
  have cm:(v.m == 0)=false:=bne hm
  rw [hk]
  clear hk
  go_enter Try.func91,Try.ntmps91
  go_wp2_with fail
  all_goals (go_ret;exact ⟨by first | rfl | simp [*],kb_alloc2 _ _ _ _⟩)
 have cm:(v.m == 0)=true:=by simpa using hm
 by_cases hx:v.x=⟨#[]⟩
 rotate_left
 ·rw [dc_f (by rintro (⟨q,q1,q2,q3⟩ | ⟨q,q1,q2⟩ | ⟨q,q1,q2,q3⟩ | ⟨q,q1,q2,q3,q4⟩) <;> first | omega | exact hx (by assumption))]
  have k0:((0:Int) == 0)=true:=rfl
  have cx:=str1 hx
  rw [hk]
  clear hk
  go_enter Try.func91,Try.ntmps91
  go_wp2_with fail
  all_goals (go_ret;exact ⟨by first | rfl | simp [*],kb_alloc2 _ _ _ _⟩)
 have cx:=str0 hx
 have cz:(v.x.size:Int)≤4000:=by rw [em0 hx];omega
 by_cases hr:v.r=0
 rotate_left
 ·rw [dc_f (by rintro (⟨q,q1,q2,q3⟩ | ⟨q,q1,q2⟩ | ⟨q,q1,q2,q3⟩ | ⟨q,q1,q2,q3,q4⟩) <;> first | omega | exact hr (by assumption))]
  have k0:((0:Int) == 0)=true:=rfl
  have cr:(v.r == 0)=false:=bne hr
  rw [hk]
  clear hk
  go_enter Try.func91,Try.ntmps91
  go_wp2_with fail
  all_goals (go_ret;exact ⟨by first | rfl | simp [*],kb_alloc2 _ _ _ _⟩)
 have cr:(v.r == 0)=true:=by simpa using hr
 ·rw [dc_t (.inl ⟨hk,hm,hx,hr⟩)]
  have k0:((0:Int) == 0)=true:=rfl
  rw [hk]
  clear hk
  go_enter Try.func91,Try.ntmps91
  go_wp2_with fail
  all_goals (go_ret;exact ⟨by first | rfl | simp [*],kb_alloc2 _ _ _ _⟩)
theorem im_val_1 {n:Nat} (v:Gv) (hxs:(v.x.size:Int) < 140737488355328) (hn:(n:Int) < 140737488355328) (hk:v.k=1) (w:World):Calls Try.prog 91 #[gvv v,.int .i64 (n:Int)] w fun e w'=>e = .returned (.bool (dc (Vok n v)))∧Kb 0 w w':=by
 unfold gvv
 by_cases hx:v.x=⟨#[]⟩
 rotate_left
 ·rw [dc_f (by rintro (⟨q,q1,q2,q3⟩ | ⟨q,q1,q2⟩ | ⟨q,q1,q2,q3⟩ | ⟨q,q1,q2,q3,q4⟩) <;> first | omega | exact hx (by assumption))]
  have k0:((1:Int) == 0)=false:=rfl
  have k1:((1:Int) == 1)=true:=rfl
  have cx:=str1 hx
  rw [hk]
  clear hk
  go_enter Try.func91,Try.ntmps91
  go_wp2_with fail
  all_goals (go_ret;exact ⟨by first | rfl | simp [*],kb_alloc2 _ _ _ _⟩)
 have cx:=str0 hx
 have cz:(v.x.size:Int)≤4000:=by rw [em0 hx];omega
 by_cases hr:v.r=0
 rotate_left
 ·rw [dc_f (by rintro (⟨q,q1,q2,q3⟩ | ⟨q,q1,q2⟩ | ⟨q,q1,q2,q3⟩ | ⟨q,q1,q2,q3,q4⟩) <;> first | omega | exact hr (by assumption))]
  have k0:((1:Int) == 0)=false:=rfl
  have k1:((1:Int) == 1)=true:=rfl
  have cr:(v.r == 0)=false:=bne hr
  rw [hk]
  clear hk
  go_enter Try.func91,Try.ntmps91
  go_wp2_with fail
  all_goals (go_ret;exact ⟨by first | rfl | simp [*],kb_alloc2 _ _ _ _⟩)
 have cr:(v.r == 0)=true:=by simpa using hr
 ·rw [dc_t (.inr (.inl ⟨.inl hk,hx,hr⟩))]
  have k0:((1:Int) == 0)=false:=rfl
  have k1:((1:Int) == 1)=true:=rfl
  rw [hk]
  clear hk
  go_enter Try.func91,Try.ntmps91
  go_wp2_with fail
  all_goals (go_ret;exact ⟨by first | rfl | simp [*],kb_alloc2 _ _ _ _⟩)
theorem im_val_2 {n:Nat} (v:Gv) (hxs:(v.x.size:Int) < 140737488355328) (hn:(n:Int) < 140737488355328) (hk:v.k=2) (w:World):Calls Try.prog 91 #[gvv v,.int .i64 (n:Int)] w fun e w'=>e = .returned (.bool (dc (Vok n v)))∧Kb 0 w w':=by
 unfold gvv
 by_cases hx:v.x=⟨#[]⟩
 rotate_left
 ·rw [dc_f (by rintro (⟨q,q1,q2,q3⟩ | ⟨q,q1,q2⟩ | ⟨q,q1,q2,q3⟩ | ⟨q,q1,q2,q3,q4⟩) <;> first | omega | exact hx (by assumption))]
  have k0:((2:Int) == 0)=false:=rfl
  have k1:((2:Int) == 1)=false:=rfl
  have k2:((2:Int) == 2)=true:=rfl
  have cx:=str1 hx
  rw [hk]
  clear hk
  go_enter Try.func91,Try.ntmps91
  go_wp2_with fail
  all_goals (go_ret;exact ⟨by first | rfl | simp [*],kb_alloc2 _ _ _ _⟩)
 have cx:=str0 hx
 have cz:(v.x.size:Int)≤4000:=by rw [em0 hx];omega
 by_cases hr:v.r=0
 rotate_left
 ·rw [dc_f (by rintro (⟨q,q1,q2,q3⟩ | ⟨q,q1,q2⟩ | ⟨q,q1,q2,q3⟩ | ⟨q,q1,q2,q3,q4⟩) <;> first | omega | exact hr (by assumption))]
  have k0:((2:Int) == 0)=false:=rfl
  have k1:((2:Int) == 1)=false:=rfl
  have k2:((2:Int) == 2)=true:=rfl
  have cr:(v.r == 0)=false:=bne hr
  rw [hk]
  clear hk
  go_enter Try.func91,Try.ntmps91
  go_wp2_with fail
  all_goals (go_ret;exact ⟨by first | rfl | simp [*],kb_alloc2 _ _ _ _⟩)
 have cr:(v.r == 0)=true:=by simpa using hr
 ·rw [dc_t (.inr (.inl ⟨.inr hk,hx,hr⟩))]
  have k0:((2:Int) == 0)=false:=rfl
  have k1:((2:Int) == 1)=false:=rfl
  have k2:((2:Int) == 2)=true:=rfl
  rw [hk]
  clear hk
  go_enter Try.func91,Try.ntmps91
  go_wp2_with fail
  all_goals (go_ret;exact ⟨by first | rfl | simp [*],kb_alloc2 _ _ _ _⟩)
theorem im_val_3 {n:Nat} (v:Gv) (hxs:(v.x.size:Int) < 140737488355328) (hn:(n:Int) < 140737488355328) (hk:v.k=3) (w:World):Calls Try.prog 91 #[gvv v,.int .i64 (n:Int)] w fun e w'=>e = .returned (.bool (dc (Vok n v)))∧Kb 0 w w':=by
 unfold gvv
 by_cases hm:v.m=0
 rotate_left
 ·rw [dc_f (by rintro (⟨q,q1,q2,q3⟩ | ⟨q,q1,q2⟩ | ⟨q,q1,q2,q3⟩ | ⟨q,q1,q2,q3,q4⟩) <;> first | omega | exact hm (by assumption))]
  have k0:((3:Int) == 0)=false:=rfl
  have k1:((3:Int) == 1)=false:=rfl
  have k2:((3:Int) == 2)=false:=rfl
  have k3:((3:Int) == 3)=true:=rfl
  have cm:(v.m == 0)=false:=bne hm
  rw [hk]
  clear hk
  go_enter Try.func91,Try.ntmps91
  go_wp2_with fail
  all_goals (go_ret;exact ⟨by first | rfl | simp [*],kb_alloc2 _ _ _ _⟩)
 have cm:(v.m == 0)=true:=by simpa using hm
 by_cases hr:v.r=0
 rotate_left
 ·rw [dc_f (by rintro (⟨q,q1,q2,q3⟩ | ⟨q,q1,q2⟩ | ⟨q,q1,q2,q3⟩ | ⟨q,q1,q2,q3,q4⟩) <;> first | omega | exact hr (by assumption))]
  have k0:((3:Int) == 0)=false:=rfl
  have k1:((3:Int) == 1)=false:=rfl
  have k2:((3:Int) == 2)=false:=rfl
  have k3:((3:Int) == 3)=true:=rfl
  have cr:(v.r == 0)=false:=bne hr
  rw [hk]
  clear hk
  go_enter Try.func91,Try.ntmps91
  go_wp2_with fail
  all_goals (go_ret;exact ⟨by first | rfl | simp [*],kb_alloc2 _ _ _ _⟩)
 have cr:(v.r == 0)=true:=by simpa using hr
 by_cases hs:v.x.size≤4000
 rotate_left
 ·rw [dc_f (by rintro (⟨q,q1,q2,q3⟩ | ⟨q,q1,q2⟩ | ⟨q,q1,q2,q3⟩ | ⟨q,q1,q2,q3,q4⟩) <;> first | omega | exact hs (by assumption))]
  have k0:((3:Int) == 0)=false:=rfl
  have k1:((3:Int) == 1)=false:=rfl
  have k2:((3:Int) == 2)=false:=rfl
  have k3:((3:Int) == 3)=true:=rfl
  have cs:¬ (v.x.size:Int)≤4000:=by omega
  rw [hk]
  clear hk
  go_enter Try.func91,Try.ntmps91
  go_wp2_with fail
  all_goals (go_ret;exact ⟨by first | rfl | simp [*],kb_alloc2 _ _ _ _⟩)
 have cs:(v.x.size:Int)≤4000:=by omega
 ·rw [dc_t (.inr (.inr (.inl ⟨hk,hm,hr,hs⟩)))]
  have k0:((3:Int) == 0)=false:=rfl
  have k1:((3:Int) == 1)=false:=rfl
  have k2:((3:Int) == 2)=false:=rfl
  have k3:((3:Int) == 3)=true:=rfl
  rw [hk]
  clear hk
  go_enter Try.func91,Try.ntmps91
  go_wp2_with fail
  all_goals (go_ret;exact ⟨by first | rfl | simp [*],kb_alloc2 _ _ _ _⟩)
theorem im_val_4 {n:Nat} (v:Gv) (hxs:(v.x.size:Int) < 140737488355328) (hn:(n:Int) < 140737488355328) (hk:v.k=4) (w:World):Calls Try.prog 91 #[gvv v,.int .i64 (n:Int)] w fun e w'=>e = .returned (.bool (dc (Vok n v)))∧Kb 0 w w':=by
 unfold gvv
 by_cases hp : 0≤v.r
 rotate_left
 ·rw [dc_f (by rintro (⟨q,q1,q2,q3⟩ | ⟨q,q1,q2⟩ | ⟨q,q1,q2,q3⟩ | ⟨q,q1,q2,q3,q4⟩) <;> first | omega | exact hp (by assumption))]
  have k0:((4:Int) == 0)=false:=rfl
  have k1:((4:Int) == 1)=false:=rfl
  have k2:((4:Int) == 2)=false:=rfl
  have k3:((4:Int) == 3)=false:=rfl
  have k4:((4:Int) == 4)=true:=rfl
  have hp2:v.r < 0:=by omega
  clear hp
  rw [hk]
  clear hk
  go_enter Try.func91,Try.ntmps91
  go_wp2_with fail
  all_goals (go_ret;exact ⟨by first | rfl | simp [*],kb_alloc2 _ _ _ _⟩)
 by_cases hq:v.r < (n:Int)
 rotate_left
 ·rw [dc_f (by rintro (⟨q,q1,q2,q3⟩ | ⟨q,q1,q2⟩ | ⟨q,q1,q2,q3⟩ | ⟨q,q1,q2,q3,q4⟩) <;> first | omega | exact hq (by assumption))]
  have k0:((4:Int) == 0)=false:=rfl
  have k1:((4:Int) == 1)=false:=rfl
  have k2:((4:Int) == 2)=false:=rfl
  have k3:((4:Int) == 3)=false:=rfl
  have k4:((4:Int) == 4)=true:=rfl
  have hq2:(n:Int)≤v.r:=by omega
  clear hq
  rw [hk]
  clear hk
  go_enter Try.func91,Try.ntmps91
  go_wp2_with fail
  all_goals (go_ret;exact ⟨by first | rfl | simp [*],kb_alloc2 _ _ _ _⟩)
 clear hn hxs
 obtain ⟨N,hN⟩:∃ N:Int,N=(n:Int):=⟨_,rfl⟩
 rw [← hN] at hq ⊢
 by_cases hm:v.m=0
 rotate_left
 ·rw [dc_f (by rintro (⟨q,q1,q2,q3⟩ | ⟨q,q1,q2⟩ | ⟨q,q1,q2,q3⟩ | ⟨q,q1,q2,q3,q4⟩) <;> first | omega | exact hm (by assumption))]
  have k0:((4:Int) == 0)=false:=rfl
  have k1:((4:Int) == 1)=false:=rfl
  have k2:((4:Int) == 2)=false:=rfl
  have k3:((4:Int) == 3)=false:=rfl
  have k4:((4:Int) == 4)=true:=rfl
  have cm:(v.m == 0)=false:=bne hm
  clear hN
  rw [hk]
  clear hk
  go_enter Try.func91,Try.ntmps91
  go_wp2_with fail
  all_goals (go_ret;exact ⟨by first | rfl | simp [*],kb_alloc2 _ _ _ _⟩)
 have cm:(v.m == 0)=true:=by simpa using hm
 by_cases hx:v.x=⟨#[]⟩
 rotate_left
 ·rw [dc_f (by rintro (⟨q,q1,q2,q3⟩ | ⟨q,q1,q2⟩ | ⟨q,q1,q2,q3⟩ | ⟨q,q1,q2,q3,q4⟩) <;> first | omega | exact hx (by assumption))]
  have k0:((4:Int) == 0)=false:=rfl
  have k1:((4:Int) == 1)=false:=rfl
  have k2:((4:Int) == 2)=false:=rfl
  have k3:((4:Int) == 3)=false:=rfl
  have k4:((4:Int) == 4)=true:=rfl
  have cx:=str1 hx
  clear hN
  rw [hk]
  clear hk
  go_enter Try.func91,Try.ntmps91
  go_wp2_with fail
  all_goals (go_ret;exact ⟨by first | rfl | simp [*],kb_alloc2 _ _ _ _⟩)
 have cx:=str0 hx
 have cz:(v.x.size:Int)≤4000:=by rw [em0 hx];omega
 ·rw [dc_t (.inr (.inr (.inr ⟨hk,hm,hx,hp,hN ▸ hq⟩)))]
  have k0:((4:Int) == 0)=false:=rfl
  have k1:((4:Int) == 1)=false:=rfl
  have k2:((4:Int) == 2)=false:=rfl
  have k3:((4:Int) == 3)=false:=rfl
  have k4:((4:Int) == 4)=true:=rfl
  clear hN
  rw [hk]
  clear hk
  go_enter Try.func91,Try.ntmps91
  go_wp2_with fail
  all_goals (go_ret;exact ⟨by first | rfl | simp [*],kb_alloc2 _ _ _ _⟩)
theorem im_val_x {n:Nat} (v:Gv) (h0:v.k ≠ 0) (h1:v.k ≠ 1) (h2:v.k ≠ 2) (h3:v.k ≠ 3) (h4:v.k ≠ 4) (w:World):Calls Try.prog 91 #[gvv v,.int .i64 (n:Int)] w fun e w'=>e = .returned (.bool (dc (Vok n v)))∧Kb 0 w w':=by
 unfold gvv
 rw [dc_f (by rintro (⟨q,_⟩ | ⟨q,_⟩ | ⟨q,_⟩ | ⟨q,_⟩) <;> omega)]
 have k0:=bne h0
 have k1:=bne h1
 have k2:=bne h2
 have k3:=bne h3
 have k4:=bne h4
 go_enter Try.func91,Try.ntmps91
 go_wp2_with fail
 go_ret
 exact ⟨rfl,kb_alloc2 _ _ _ _⟩
theorem im_val {n:Nat} (v:Gv) (hxs:(v.x.size:Int) < 140737488355328) (hn:(n:Int) < 140737488355328) (w:World):Calls Try.prog 91 #[gvv v,.int .i64 (n:Int)] w fun e w'=>e = .returned (.bool (dc (Vok n v)))∧Kb 0 w w':=by
 by_cases h0:v.k=0
 ·exact im_val_0 v hxs hn h0 w
 by_cases h1:v.k=1
 ·exact im_val_1 v hxs hn h1 w
 by_cases h2:v.k=2
 ·exact im_val_2 v hxs hn h2 w
 by_cases h3:v.k=3
 ·exact im_val_3 v hxs hn h3 w
 by_cases h4:v.k=4
 ·exact im_val_4 v hxs hn h4 w
 exact im_val_x v h0 h1 h2 h3 h4 w
theorem im_gok {a : Gv} {vn : Value} {n : Nat} {F : Nat → Td} (w : World) (ha : RowT 0 w vn n F) (hb : Bg n F a) :
  Calls Try.prog 59 #[grv a vn] w fun e w'=>e = .returned (.bool (dc (Gok n F a)))∧Kb 0 w w':=by
 obtain ⟨pn,cn,rfl,ha2⟩:=ha
 have hnI:(n:Int)≤1048576:=by have:=hb.hn;omega
 obtain ⟨w2,hw2⟩:∃ w2,w2=w.alloc (.cells #[.int .i64 a.k,.int .i64 a.m,.string a.x,.int .i64 a.r,.slice pn n cn] 44):=⟨_,rfl⟩
 have k2:Kb 0 w w2:=by rw [hw2];exact kb_alloc _ _ _
 have b0:w2.heap[w.heap.size]? = some (.cells #[.int .i64 a.k,.int .i64 a.m,.string a.x,.int .i64 a.r,.slice pn n cn] 44 (0,0)):=by rw [hw2];exact alloc_new _ _ _
 have HV:Hid (∀ W (v:Gv),v.x.size≤1048576→Calls Try.prog 91 #[.agg #[.int .i64 v.k,.int .i64 v.m,.string v.x,.int .i64 v.r],.int .i64 (n:Int)] W fun e w'=>e = .returned (.bool (dc (Vok n v)))∧Kb 0 W w'):=(fun W v hv=>im_val v (by omega) (by omega) W:∀ W (v:Gv),_)
 have HW2:Hid (w2=w.alloc (.cells #[.int .i64 a.k,.int .i64 a.m,.string a.x,.int .i64 a.r,.slice pn n cn] 44)):=hw2
 have HB:Hid (Kb 0 w w2∧w2.heap[w.heap.size]? = some (.cells #[.int .i64 a.k,.int .i64 a.m,.string a.x,.int .i64 a.r,.slice pn n cn] 44 (0,0))∧(0 < n→∃ a:Addr,pn=some a∧n≤cn∧0≤a.block∧∀ i,i < n→ThC 0 w (a.add (i*2)) (F i))∧Bg n F a):=(⟨k2,b0,ha2,hb⟩:_∧_)
 obtain ⟨R,hR⟩:∃ R,R=dc (Gok n F a):=⟨_,rfl⟩
 have HR:Hid (R=dc (Gok n F a)):=hR
 rw [← hR]
 clear hw2 k2 b0 ha2 hb hR
 unfold grv
 go_enter Try.func59,Try.ntmps59
 by_cases h6:n≤600
 case neg =>
  obtain rfl:R=false:=(show R = _ from HR).trans (dc_f (fun q=>h6 q.1))
  have h6I:(600:Int) < (n:Int):=by omega
  have HK:Hid (Kb 0 w w2):=(show Kb 0 w w2∧_ from HB).1
  clear HV HB HR
  go_wp2_with fail
  rw [← (show w2 = _ from HW2)]
  all_goals (go_ret;exact ⟨rfl,HK⟩)
 have h6I:¬ (600:Int) < (n:Int):=by omega
 have HV0:Hid (Calls Try.prog 91 #[.agg #[.int .i64 a.k,.int .i64 a.m,.string a.x,.int .i64 a.r],.int .i64 (n:Int)] w2 fun e w'=>e = .returned (.bool (dc (Vok n a)))∧Kb 0 w2 w'):=(show ∀ W (v:Gv),v.x.size≤1048576→_ from HV) w2 a (show Kb 0 w w2∧_∧_∧Bg n F a from HB).2.2.2.hx
 go_wp2_with fail
 rw [← (show w2 = _ from HW2)]
 clear HW2
 refine (show Calls Try.prog 91 _ w2 _ from HV0).mono ?_
 rintro e w3 ⟨rfl,k3⟩
 clear HV0
 by_cases hV:Vok n a
 case neg =>
  obtain rfl:R=false:=(show R = _ from HR).trans (dc_f (fun q=>hV q.2.1))
  rw [dc_f hV]
  have HK:Hid (Kb 0 w w3):=(show Kb 0 w w2∧_ from HB).1.trans k3
  clear HV HB HR k3
  go_wp2_with fail
  all_goals (go_ret;exact ⟨rfl,HK⟩)
 rw [dc_t hV]
 obtain ⟨k2,b0,ha2,hb⟩:=(show Kb 0 w w2∧w2.heap[w.heap.size]? = some (.cells #[.int .i64 a.k,.int .i64 a.m,.string a.x,.int .i64 a.r,.slice pn n cn] 44 (0,0))∧(0 < n→∃ a:Addr,pn=some a∧n≤cn∧0≤a.block∧∀ i,i < n→ThC 0 w (a.add (i*2)) (F i))∧Bg n F a from HB)
 have u4:w3.cell? ⟨w.heap.size,4,none⟩=some (.slice pn n cn):=k3.cell (cell_of b0 rfl)
 have H0:Hid (Kb 0 w2 w3∧∀ i,i < 0→Nok n F i):=(⟨k3,fun i hi=>by omega⟩:_∧_)
 have HVA:Hid (n≤600∧Vok n a):=(⟨h6,hV⟩:_∧_)
 clear k2 b0 ha2 hb k3
 go_wp2_with fail
 clear u4 hV h6 h6I
 go_loopw [23] (fun s23 wr=>∃ i:Nat,s23 = .int .i64 (i:Int)∧i≤n∧Hid (Kb 0 w2 wr∧∀ k,k < i→Nok n F k)) (fun s23 _=>n - (intOf s23).toNat)
 case atStart=>exact ⟨0,rfl,Nat.zero_le _,H0⟩
 case round =>
  clear H0
  obtain ⟨i,rfl,hi0,HX⟩:=hrel
  obtain ⟨kw,hX⟩:=(show Kb 0 w2 wr∧∀ k,k < i→Nok n F k from HX)
  obtain ⟨k2,b0,ha2,hb⟩:=(show Kb 0 w w2∧w2.heap[w.heap.size]? = some (.cells #[.int .i64 a.k,.int .i64 a.m,.string a.x,.int .i64 a.r,.slice pn n cn] 44 (0,0))∧(0 < n→∃ a:Addr,pn=some a∧n≤cn∧0≤a.block∧∀ i,i < n→ThC 0 w (a.add (i*2)) (F i))∧Bg n F a from HB)
  rcases Nat.lt_or_ge i n with hi | hi
  case inr =>
   obtain rfl:i=n:=by omega
   have hI:¬ (i:Int) < (i:Int):=by omega
   obtain rfl:R=true:=(show R = _ from HR).trans (dc_t ⟨(show _∧_ from HVA).1,(show _∧_ from HVA).2,fun k hk=>hX k hk⟩)
   have HK:Hid (Kb 0 w wr):=k2.trans kw
   clear HX kw hX k2 b0 ha2 hb HB HR HV HVA hi
   go_wp2_with fail
   all_goals (go_ret;exact ⟨rfl,HK⟩)
  have hI:(i:Int) < (n:Int):=by omega
  obtain ⟨AN,rfl,hcn,-,hra⟩:=ha2 (by omega)
  obtain ⟨vc,⟨y0,y1⟩,⟨pc,cc,rfl,hvc⟩⟩:=hra i hi
  have kq:=k2.trans kw
  replace y0:=kq.cell y0
  replace y1:=kq.cell y1
  have hcI:((F i).c:Int)≤1048576:=by have:=hb.hc i hi;omega
  have HBAD:Hid (¬ Nok n F i→R=false):=(fun q=>(show R = _ from HR).trans (dc_f (fun g=>q (g.2.2 i hi))):_→_)
  obtain ⟨W4,hW4⟩:∃ W4,W4=wr.alloc (.cells #[.int .i64 (F i).t,.slice pc (F i).c cc] 50):=⟨_,rfl⟩
  have k4:Kb 0 wr W4:=by rw [hW4];exact kb_alloc _ _ _
  have q4:W4.heap[wr.heap.size]? = some (.cells #[.int .i64 (F i).t,.slice pc (F i).c cc] 50 (0,0)):=by rw [hW4];exact alloc_new _ _ _
  have HW4:Hid (W4=wr.alloc (.cells #[.int .i64 (F i).t,.slice pc (F i).c cc] 50)):=hW4
  have HK4:Hid (Kb 0 w W4):=kq.trans k4
  by_cases t0:(F i).t < 0
  ·obtain rfl:R=false:=(show _→_ from HBAD) (fun q=>by have:=q.1.1;omega)
   clear HX kw hX k2 b0 ha2 hb HB HR HV HVA hra hvc kq HBAD hW4 k4 q4 hcn
   go_wp2_with fail
   rw [← (show W4 = _ from HW4)]
   all_goals (go_ret;exact ⟨rfl,HK4⟩)
  by_cases t1:(1000:Int) < (F i).t
  ·obtain rfl:R=false:=(show _→_ from HBAD) (fun q=>by have:=q.1.2.1;omega)
   clear HX kw hX k2 b0 ha2 hb HB HR HV HVA hra hvc kq HBAD hW4 k4 q4 hcn
   go_wp2_with fail
   rw [← (show W4 = _ from HW4)]
   all_goals (go_ret;exact ⟨rfl,HK4⟩)
  by_cases t2:(300:Int) < ((F i).c:Int)
  ·obtain rfl:R=false:=(show _→_ from HBAD) (fun q=>by have:=q.1.2.2;omega)
   clear HX kw hX k2 b0 ha2 hb HB HR HV HVA hra hvc kq HBAD hW4 k4 q4 hcn
   go_wp2_with fail
   rw [← (show W4 = _ from HW4)]
   all_goals (go_ret;exact ⟨rfl,HK4⟩)
  have HJ:Hid (Kb 0 w2 W4∧∀ j,j < 0→Vok n ((F i).C j)):=(⟨kw.trans k4,fun j hj=>by omega⟩:_∧_)
  have HU:Hid ((0≤(F i).t∧(F i).t≤1000∧(F i).c≤300)∧(∀ k,k < i→Nok n F k)∧(0 < (F i).c→∃ a:Addr,pc=some a∧(F i).c≤cc∧0≤a.block∧∀ j,j < (F i).c→ValC 0 w (a.add (j*4)) ((F i).C j))∧i < n):=(⟨⟨by omega,by omega,by omega⟩,hX,hvc,hi⟩:_∧_)
  clear HX kw hX k2 b0 ha2 hb hra hvc kq hW4 k4 q4 hcn hi
  go_wp2_with fail
  rw [← (show W4 = _ from HW4)]
  clear HW4 y0 y1 t0 t1 t2
  obtain ⟨wo,rfl⟩:∃ wo,wo=wr:=⟨_,rfl⟩
  go_loopw [44] (fun s44 wr=>∃ j:Nat,s44 = .int .i64 (j:Int)∧j≤(F i).c∧Hid (Kb 0 w2 wr∧∀ k,k < j→Vok n ((F i).C k))) (fun s44 _=>(F i).c - (intOf s44).toNat)
  case atStart=>exact ⟨0,rfl,Nat.zero_le _,HJ⟩
  case round =>
   clear HJ HK4
   obtain ⟨j,rfl,hj0,HX⟩:=hrel
   obtain ⟨kw,hY⟩:=(show Kb 0 w2 wr∧∀ k,k < j→Vok n ((F i).C k) from HX)
   obtain ⟨k2,b0,-,hb⟩:=(show Kb 0 w w2∧w2.heap[w.heap.size]? = some (.cells #[.int .i64 a.k,.int .i64 a.m,.string a.x,.int .i64 a.r,.slice (some AN) n cn] 44 (0,0))∧_∧Bg n F a from HB)
   obtain ⟨ht,hX,hvc,hi⟩:=(show _∧(∀ k,k < i→Nok n F k)∧(0 < (F i).c→∃ a:Addr,pc=some a∧(F i).c≤cc∧0≤a.block∧∀ j,j < (F i).c→ValC 0 w (a.add (j*4)) ((F i).C j))∧i < n from HU)
   rcases Nat.lt_or_ge j (F i).c with hj | hj
   case inr =>
    obtain rfl:j=(F i).c:=by omega
    have hI':¬ ((F i).c:Int) < ((F i).c:Int):=by omega
    have HN:Hid (Kb 0 w2 wr∧∀ k,k < i+1→Nok n F k):=(⟨kw,fun k hk=>by
     by_cases e:k=i
     ·subst e;exact ⟨ht,hY⟩
     ·exact hX k (by omega)⟩:_∧_)
    clear HX kw hY k2 b0 hb ht hX hvc HB HR HV HVA HBAD HU hj
    go_wp2_with fail
    go_roundw
    case rel=>exact ⟨i+1,by go_num,by omega,HN⟩
    case measure=>simp [intOf];omega
   have hI':(j:Int) < ((F i).c:Int):=by omega
   obtain ⟨AC,rfl,hcc,-,hrc⟩:=hvc (by omega)
   obtain ⟨z0,z1,z2,z3⟩:=hrc j hj
   have kq:=k2.trans kw
   replace z0:=kq.cell z0
   replace z1:=kq.cell z1
   replace z2:=kq.cell z2
   replace z3:=kq.cell z3
   obtain ⟨W5,hW5⟩:∃ W5,W5=wr.alloc (.cells #[.int .i64 ((F i).C j).k,.int .i64 ((F i).C j).m,.string ((F i).C j).x,.int .i64 ((F i).C j).r] 41):=⟨_,rfl⟩
   have k5:Kb 0 wr W5:=by rw [hW5];exact kb_alloc _ _ _
   have e0:∀ o,(wr.alloc o).cell? ⟨w.heap.size,0,none⟩=some (.int .i64 a.k):=fun o=>(kw.trans (kb_alloc 0 wr o)).cell (cell_of b0 rfl)
   have e1:∀ o,(wr.alloc o).cell? ⟨w.heap.size,1,none⟩=some (.int .i64 a.m):=fun o=>(kw.trans (kb_alloc 0 wr o)).cell (cell_of b0 rfl)
   have e2:∀ o,(wr.alloc o).cell? ⟨w.heap.size,2,none⟩=some (.string a.x):=fun o=>(kw.trans (kb_alloc 0 wr o)).cell (cell_of b0 rfl)
   have e3:∀ o,(wr.alloc o).cell? ⟨w.heap.size,3,none⟩=some (.int .i64 a.r):=fun o=>(kw.trans (kb_alloc 0 wr o)).cell (cell_of b0 rfl)
   have e4:∀ o,(wr.alloc o).cell? ⟨w.heap.size,4,none⟩=some (.slice (some AN) n cn):=fun o=>(kw.trans (kb_alloc 0 wr o)).cell (cell_of b0 rfl)
   have HV5:Hid (Calls Try.prog 91 #[.agg #[.int .i64 ((F i).C j).k,.int .i64 ((F i).C j).m,.string ((F i).C j).x,.int .i64 ((F i).C j).r],.int .i64 (n:Int)] W5 fun e w'=>e = .returned (.bool (dc (Vok n ((F i).C j))))∧Kb 0 W5 w'):=(show ∀ W (v:Gv),v.x.size≤1048576→_ from HV) W5 ((F i).C j) (hb.hC i hi j hj)
   have HW5:Hid (W5=wr.alloc (.cells #[.int .i64 ((F i).C j).k,.int .i64 ((F i).C j).m,.string ((F i).C j).x,.int .i64 ((F i).C j).r] 41)):=hW5
   have HKY:Hid (Kb 0 w2 W5∧(∀ k,k < j→Vok n ((F i).C k))∧Kb 0 w w2∧j < (F i).c):=(⟨kw.trans k5,hY,k2,hj⟩:_∧_)
   clear HX kw hY k2 b0 hb ht hX hvc hcc hrc kq hW5 k5 hj
   go_wp2_with fail
   rw [← (show W5 = _ from HW5)]
   clear HW5 e0 e1 e2 e3 e4 z0 z1 z2 z3
   refine (show Calls Try.prog 91 _ W5 _ from HV5).mono ?_
   rintro e w6 ⟨rfl,k6⟩
   clear HV5
   obtain ⟨k25,hY,k2,hj⟩:=(show Kb 0 w2 W5∧(∀ k,k < j→Vok n ((F i).C k))∧Kb 0 w w2∧j < (F i).c from HKY)
   by_cases hv:Vok n ((F i).C j)
   ·rw [dc_t hv]
    have HN:Hid (Kb 0 w2 w6∧∀ k,k < j+1→Vok n ((F i).C k)):=(⟨k25.trans k6,fun k hk=>by
     by_cases e:k=j
     ·subst e;exact hv
     ·exact hY k (by omega)⟩:_∧_)
    clear k25 hY k2 k6 hv HKY HB HR HV HVA HBAD HU
    go_wp2_with fail
    go_roundw
    case rel=>exact ⟨j+1,by go_num,by omega,HN⟩
    case measure=>simp [intOf];omega
   ·rw [dc_f hv]
    obtain rfl:R=false:=(show _→_ from HBAD) (fun q=>hv (q.2 j hj))
    have HK:Hid (Kb 0 w w6):=(k2.trans k25).trans k6
    clear k25 hY k2 k6 hv HKY HB HR HV HVA HBAD HU
    go_wp2_with fail
    all_goals (go_ret;exact ⟨rfl,HK⟩)
end Go.Proofs.Ytamcnmnaadpfoaa.Fo
