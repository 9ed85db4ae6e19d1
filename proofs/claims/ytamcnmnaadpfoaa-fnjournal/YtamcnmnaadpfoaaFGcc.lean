import Derived.Test.YtamcnmnaadpfoaaFZaa
import Derived.Deep.AppendLies
set_option maxHeartbeats 16000000
namespace Go.Proofs.Ytamcnmnaadpfoaa.Fo
open Go.ChangeShapes Go.WideShapes Go.ChangeAt Go.RowKit
set_option linter.unusedVariables false
set_option maxRecDepth 100000
structure Bg (n:Nat) (F:Nat→Td) (a:Gv):Prop where
 hn:n≤1048576
 hx:a.x.size≤1048576
 hc:∀ i,i < n→(F i).c≤1048576
 hC:∀ i,i < n→∀ j,j < (F i).c→((F i).C j).x.size≤1048576
def Nok (n:Nat) (F:Nat→Td) (i:Nat):Prop:=(0≤(F i).t∧(F i).t≤1000∧(F i).c≤300)∧∀ j,j < (F i).c→Vok n ((F i).C j)
theorem sp_gok {a : Gv} {vn : Value} {n : Nat} {F : Nat → Td} (w : World) (ha : RowT 0 w vn n F) (hb : Bg n F a) :
  Calls Try.prog 38 #[grv a vn] w fun e w'=>e = .returned (.bool (dc (Gok n F a)))∧Kb 0 w w':=by
 obtain ⟨pn,cn,rfl,ha2⟩:=ha
 have hnI:(n:Int)≤1048576:=by have:=hb.hn;omega
 obtain ⟨w2,hw2⟩:∃ w2,w2=w.alloc (.cells #[.int .i64 a.k,.int .i64 a.m,.string a.x,.int .i64 a.r,.slice pn n cn] 44):=⟨_,rfl⟩
 have k2:Kb 0 w w2:=by rw [hw2];exact kb_alloc _ _ _
 have b0:w2.heap[w.heap.size]? = some (.cells #[.int .i64 a.k,.int .i64 a.m,.string a.x,.int .i64 a.r,.slice pn n cn] 44 (0,0)):=by rw [hw2];exact alloc_new _ _ _
 have HV:Hid (∀ W (v:Gv),v.x.size≤1048576→Calls Try.prog 71 #[.agg #[.int .i64 a.k,.int .i64 a.m,.string a.x,.int .i64 a.r,.slice pn n cn],.agg #[.int .i64 v.k,.int .i64 v.m,.string v.x,.int .i64 v.r]] W fun e w'=>e = .returned (.bool (dc (Vok n v)))∧Kb 0 W w'):=(fun W v hv=>sp_val v (by omega) (by omega) W:∀ W (v:Gv),_)
 have HW2:Hid (w2=w.alloc (.cells #[.int .i64 a.k,.int .i64 a.m,.string a.x,.int .i64 a.r,.slice pn n cn] 44)):=hw2
 have HB:Hid (Kb 0 w w2∧w2.heap[w.heap.size]? = some (.cells #[.int .i64 a.k,.int .i64 a.m,.string a.x,.int .i64 a.r,.slice pn n cn] 44 (0,0))∧(0 < n→∃ a:Addr,pn=some a∧n≤cn∧0≤a.block∧∀ i,i < n→ThC 0 w (a.add (i*2)) (F i))∧Bg n F a):=(⟨k2,b0,ha2,hb⟩:_∧_)
 obtain ⟨R,hR⟩:∃ R,R=dc (Gok n F a):=⟨_,rfl⟩
 have HR:Hid (R=dc (Gok n F a)):=hR
 rw [← hR]
 clear hw2 k2 b0 ha2 hb hR
 unfold grv
 go_enter Try.func38,Try.ntmps38
 by_cases h6:n≤600
 case neg =>
  obtain rfl:R=false:=(show R = _ from HR).trans (dc_f (fun q=>h6 q.1))
  have h6I:(600:Int) < (n:Int):=by omega
  have HK:Hid (Kb 0 w w2):=(show Kb 0 w w2∧_ from HB).1
  clear HV HB HR
  go_wp2_with fail
  rw [← (show w2 = _ from HW2)]
  all_goals (go_ret;exact ⟨rfl,HK⟩)
 have h6I:¬ (600:Int) < (n:Int):=by omega
 have HV0:Hid (Calls Try.prog 71 #[.agg #[.int .i64 a.k,.int .i64 a.m,.string a.x,.int .i64 a.r,.slice pn n cn],.agg #[.int .i64 a.k,.int .i64 a.m,.string a.x,.int .i64 a.r]] w2 fun e w'=>e = .returned (.bool (dc (Vok n a)))∧Kb 0 w2 w'):=(show ∀ W (v:Gv),v.x.size≤1048576→_ from HV) w2 a (show Kb 0 w w2∧_∧_∧Bg n F a from HB).2.2.2.hx
 go_wp2_with fail
 rw [← (show w2 = _ from HW2)]
 clear HW2
 refine (show Calls Try.prog 71 _ w2 _ from HV0).mono ?_
 rintro e w3 ⟨rfl,k3⟩
 clear HV0
 by_cases hV:Vok n a
 case neg =>
  obtain rfl:R=false:=(show R = _ from HR).trans (dc_f (fun q=>hV q.2.1))
  rw [dc_f hV]
  have HK:Hid (Kb 0 w w3):=(show Kb 0 w w2∧_ from HB).1.trans k3
  clear HV HB HR k3
  go_wp2_with fail
  all_goals (go_ret;exact ⟨rfl,HK⟩)
 rw [dc_t hV]
 obtain ⟨k2,b0,ha2,hb⟩:=(show Kb 0 w w2∧w2.heap[w.heap.size]? = some (.cells #[.int .i64 a.k,.int .i64 a.m,.string a.x,.int .i64 a.r,.slice pn n cn] 44 (0,0))∧(0 < n→∃ a:Addr,pn=some a∧n≤cn∧0≤a.block∧∀ i,i < n→ThC 0 w (a.add (i*2)) (F i))∧Bg n F a from HB)
 have u4:w3.cell? ⟨w.heap.size,4,none⟩=some (.slice pn n cn):=k3.cell (cell_of b0 rfl)
 have H0:Hid (Kb 0 w2 w3∧∀ i,i < 0→Nok n F i):=(⟨k3,fun i hi=>by omega⟩:_∧_)
 have HVA:Hid (n≤600∧Vok n a):=(⟨h6,hV⟩:_∧_)
 clear k2 b0 ha2 hb k3
 go_wp2_with fail
 clear u4 hV h6 h6I
 go_loopw [21] (fun s21 wr=>∃ i:Nat,s21 = .int .i64 (i:Int)∧i≤n∧Hid (Kb 0 w2 wr∧∀ k,k < i→Nok n F k)) (fun s21 _=>n - (intOf s21).toNat)
 case atStart=>exact ⟨0,rfl,Nat.zero_le _,H0⟩
 case round =>
  clear H0
  obtain ⟨i,rfl,hi0,HX⟩:=hrel
  obtain ⟨kw,hX⟩:=(show Kb 0 w2 wr∧∀ k,k < i→Nok n F k from HX)
  obtain ⟨k2,b0,ha2,hb⟩:=(show Kb 0 w w2∧w2.heap[w.heap.size]? = some (.cells #[.int .i64 a.k,.int .i64 a.m,.string a.x,.int .i64 a.r,.slice pn n cn] 44 (0,0))∧(0 < n→∃ a:Addr,pn=some a∧n≤cn∧0≤a.block∧∀ i,i < n→ThC 0 w (a.add (i*2)) (F i))∧Bg n F a from HB)
  rcases Nat.lt_or_ge i n with hi | hi
  case inr =>
   obtain rfl:i=n:=by omega
   have hI:¬ (i:Int) < (i:Int):=by omega
   obtain rfl:R=true:=(show R = _ from HR).trans (dc_t ⟨(show _∧_ from HVA).1,(show _∧_ from HVA).2,fun k hk=>hX k hk⟩)
   have HK:Hid (Kb 0 w wr):=k2.trans kw
   clear HX kw hX k2 b0 ha2 hb HB HR HV HVA hi
   go_wp2_with fail
   all_goals (go_ret;exact ⟨rfl,HK⟩)
  have hI:(i:Int) < (n:Int):=by omega
  obtain ⟨AN,rfl,hcn,-,hra⟩:=ha2 (by omega)
  obtain ⟨vc,⟨y0,y1⟩,⟨pc,cc,rfl,hvc⟩⟩:=hra i hi
  have kq:=k2.trans kw
  replace y0:=kq.cell y0
  replace y1:=kq.cell y1
  have hcI:((F i).c:Int)≤1048576:=by have:=hb.hc i hi;omega
  have HBAD:Hid (¬ Nok n F i→R=false):=(fun q=>(show R = _ from HR).trans (dc_f (fun g=>q (g.2.2 i hi))):_→_)
  obtain ⟨W4,hW4⟩:∃ W4,W4=wr.alloc (.cells #[.int .i64 (F i).t,.slice pc (F i).c cc] 50):=⟨_,rfl⟩
  have k4:Kb 0 wr W4:=by rw [hW4];exact kb_alloc _ _ _
  have q4:W4.heap[wr.heap.size]? = some (.cells #[.int .i64 (F i).t,.slice pc (F i).c cc] 50 (0,0)):=by rw [hW4];exact alloc_new _ _ _
  have HW4:Hid (W4=wr.alloc (.cells #[.int .i64 (F i).t,.slice pc (F i).c cc] 50)):=hW4
  have HK4:Hid (Kb 0 w W4):=kq.trans k4
  by_cases t0:(F i).t < 0
  ·obtain rfl:R=false:=(show _→_ from HBAD) (fun q=>by have:=q.1.1;omega)
   clear HX kw hX k2 b0 ha2 hb HB HR HV HVA hra hvc kq HBAD hW4 k4 q4 hcn
   go_wp2_with fail
   rw [← (show W4 = _ from HW4)]
   all_goals (go_ret;exact ⟨rfl,HK4⟩)
  by_cases t1:(1000:Int) < (F i).t
  ·obtain rfl:R=false:=(show _→_ from HBAD) (fun q=>by have:=q.1.2.1;omega)
   clear HX kw hX k2 b0 ha2 hb HB HR HV HVA hra hvc kq HBAD hW4 k4 q4 hcn
   go_wp2_with fail
   rw [← (show W4 = _ from HW4)]
   all_goals (go_ret;exact ⟨rfl,HK4⟩)
  by_cases t2:(300:Int) < ((F i).c:Int)
  ·obtain rfl:R=false:=(show _→_ from HBAD) (fun q=>by have:=q.1.2.2;omega)
   clear HX kw hX k2 b0 ha2 hb HB HR HV HVA hra hvc kq HBAD hW4 k4 q4 hcn
   go_wp2_with fail
   rw [← (show W4 = _ from HW4)]
   all_goals (go_ret;exact ⟨rfl,HK4⟩)
  have HJ:Hid (Kb 0 w2 W4∧∀ j,j < 0→Vok n ((F i).C j)):=(⟨kw.trans k4,fun j hj=>by omega⟩:_∧_)
  have HU:Hid ((0≤(F i).t∧(F i).t≤1000∧(F i).c≤300)∧(∀ k,k < i→Nok n F k)∧(0 < (F i).c→∃ a:Addr,pc=some a∧(F i).c≤cc∧0≤a.block∧∀ j,j < (F i).c→ValC 0 w (a.add (j*4)) ((F i).C j))∧i < n):=(⟨⟨by omega,by omega,by omega⟩,hX,hvc,hi⟩:_∧_)
  clear HX kw hX k2 b0 ha2 hb hra hvc kq hW4 k4 q4 hcn hi
  go_wp2_with fail
  rw [← (show W4 = _ from HW4)]
  clear HW4 y0 y1 t0 t1 t2
  obtain ⟨wo,rfl⟩:∃ wo,wo=wr:=⟨_,rfl⟩
  go_loopw [42] (fun s42 wr=>∃ j:Nat,s42 = .int .i64 (j:Int)∧j≤(F i).c∧Hid (Kb 0 w2 wr∧∀ k,k < j→Vok n ((F i).C k))) (fun s42 _=>(F i).c - (intOf s42).toNat)
  case atStart=>exact ⟨0,rfl,Nat.zero_le _,HJ⟩
  case round =>
   clear HJ HK4
   obtain ⟨j,rfl,hj0,HX⟩:=hrel
   obtain ⟨kw,hY⟩:=(show Kb 0 w2 wr∧∀ k,k < j→Vok n ((F i).C k) from HX)
   obtain ⟨k2,b0,-,hb⟩:=(show Kb 0 w w2∧w2.heap[w.heap.size]? = some (.cells #[.int .i64 a.k,.int .i64 a.m,.string a.x,.int .i64 a.r,.slice (some AN) n cn] 44 (0,0))∧_∧Bg n F a from HB)
   obtain ⟨ht,hX,hvc,hi⟩:=(show _∧(∀ k,k < i→Nok n F k)∧(0 < (F i).c→∃ a:Addr,pc=some a∧(F i).c≤cc∧0≤a.block∧∀ j,j < (F i).c→ValC 0 w (a.add (j*4)) ((F i).C j))∧i < n from HU)
   rcases Nat.lt_or_ge j (F i).c with hj | hj
   case inr =>
    obtain rfl:j=(F i).c:=by omega
    have hI':¬ ((F i).c:Int) < ((F i).c:Int):=by omega
    have HN:Hid (Kb 0 w2 wr∧∀ k,k < i+1→Nok n F k):=(⟨kw,fun k hk=>by
     by_cases e:k=i
     ·subst e;exact ⟨ht,hY⟩
     ·exact hX k (by omega)⟩:_∧_)
    clear HX kw hY k2 b0 hb ht hX hvc HB HR HV HVA HBAD HU hj
    go_wp2_with fail
    go_roundw
    case rel=>exact ⟨i+1,by go_num,by omega,HN⟩
    case measure=>simp [intOf];omega
   have hI':(j:Int) < ((F i).c:Int):=by omega
   obtain ⟨AC,rfl,hcc,-,hrc⟩:=hvc (by omega)
   obtain ⟨z0,z1,z2,z3⟩:=hrc j hj
   have kq:=k2.trans kw
   replace z0:=kq.cell z0
   replace z1:=kq.cell z1
   replace z2:=kq.cell z2
   replace z3:=kq.cell z3
   obtain ⟨W5,hW5⟩:∃ W5,W5=wr.alloc (.cells #[.int .i64 ((F i).C j).k,.int .i64 ((F i).C j).m,.string ((F i).C j).x,.int .i64 ((F i).C j).r] 41):=⟨_,rfl⟩
   have k5:Kb 0 wr W5:=by rw [hW5];exact kb_alloc _ _ _
   have e0:∀ o,(wr.alloc o).cell? ⟨w.heap.size,0,none⟩=some (.int .i64 a.k):=fun o=>(kw.trans (kb_alloc 0 wr o)).cell (cell_of b0 rfl)
   have e1:∀ o,(wr.alloc o).cell? ⟨w.heap.size,1,none⟩=some (.int .i64 a.m):=fun o=>(kw.trans (kb_alloc 0 wr o)).cell (cell_of b0 rfl)
   have e2:∀ o,(wr.alloc o).cell? ⟨w.heap.size,2,none⟩=some (.string a.x):=fun o=>(kw.trans (kb_alloc 0 wr o)).cell (cell_of b0 rfl)
   have e3:∀ o,(wr.alloc o).cell? ⟨w.heap.size,3,none⟩=some (.int .i64 a.r):=fun o=>(kw.trans (kb_alloc 0 wr o)).cell (cell_of b0 rfl)
   have e4:∀ o,(wr.alloc o).cell? ⟨w.heap.size,4,none⟩=some (.slice (some AN) n cn):=fun o=>(kw.trans (kb_alloc 0 wr o)).cell (cell_of b0 rfl)
   have HV5:Hid (Calls Try.prog 71 #[.agg #[.int .i64 a.k,.int .i64 a.m,.string a.x,.int .i64 a.r,.slice (some AN) n cn],.agg #[.int .i64 ((F i).C j).k,.int .i64 ((F i).C j).m,.string ((F i).C j).x,.int .i64 ((F i).C j).r]] W5 fun e w'=>e = .returned (.bool (dc (Vok n ((F i).C j))))∧Kb 0 W5 w'):=(show ∀ W (v:Gv),v.x.size≤1048576→_ from HV) W5 ((F i).C j) (hb.hC i hi j hj)
   have HW5:Hid (W5=wr.alloc (.cells #[.int .i64 ((F i).C j).k,.int .i64 ((F i).C j).m,.string ((F i).C j).x,.int .i64 ((F i).C j).r] 41)):=hW5
   have HKY:Hid (Kb 0 w2 W5∧(∀ k,k < j→Vok n ((F i).C k))∧Kb 0 w w2∧j < (F i).c):=(⟨kw.trans k5,hY,k2,hj⟩:_∧_)
   clear HX kw hY k2 b0 hb ht hX hvc hcc hrc kq hW5 k5 hj
   go_wp2_with fail
   rw [← (show W5 = _ from HW5)]
   clear HW5 e0 e1 e2 e3 e4 z0 z1 z2 z3
   refine (show Calls Try.prog 71 _ W5 _ from HV5).mono ?_
   rintro e w6 ⟨rfl,k6⟩
   clear HV5
   obtain ⟨k25,hY,k2,hj⟩:=(show Kb 0 w2 W5∧(∀ k,k < j→Vok n ((F i).C k))∧Kb 0 w w2∧j < (F i).c from HKY)
   by_cases hv:Vok n ((F i).C j)
   ·rw [dc_t hv]
    have HN:Hid (Kb 0 w2 w6∧∀ k,k < j+1→Vok n ((F i).C k)):=(⟨k25.trans k6,fun k hk=>by
     by_cases e:k=j
     ·subst e;exact hv
     ·exact hY k (by omega)⟩:_∧_)
    clear k25 hY k2 k6 hv HKY HB HR HV HVA HBAD HU
    go_wp2_with fail
    go_roundw
    case rel=>exact ⟨j+1,by go_num,by omega,HN⟩
    case measure=>simp [intOf];omega
   ·rw [dc_f hv]
    obtain rfl:R=false:=(show _→_ from HBAD) (fun q=>hv (q.2 j hj))
    have HK:Hid (Kb 0 w w6):=(k2.trans k25).trans k6
    clear k25 hY k2 k6 hv HKY HB HR HV HVA HBAD HU
    go_wp2_with fail
    all_goals (go_ret;exact ⟨rfl,HK⟩)
def ext (o:List Int) (v:Gv):List Int:=if v.k=4 then (if v.r ∈ o then o else o ++ [v.r]) else o
def rnm (o:List Int) (v:Gv):Gv:=if v.k=4 then ⟨v.k,v.m,v.x,(o.idxOf v.r:Int)⟩ else v
theorem ext_pre (o:List Int) (v:Gv):∃ t,ext o v=o ++ t:=by
 unfold ext
 split
 ·split
  ·exact ⟨[],(List.append_nil _).symm⟩
  ·exact ⟨_,rfl⟩
 ·exact ⟨[],(List.append_nil _).symm⟩
theorem ext_mem {o:List Int} {v:Gv} (h:v.k=4):v.r ∈ ext o v:=by
 unfold ext
 rw [if_pos h]
 split
 ·assumption
 ·exact List.mem_append.2 (.inr (List.mem_singleton.2 rfl))
theorem rnm_pre {o t:List Int} {v:Gv} (h:v.k=4→v.r ∈ o):rnm (o ++ t) v=rnm o v:=by
 unfold rnm
 split
 ·rename_i hk
  rw [List.idxOf_append,if_pos (h hk)]
 ·rfl
def exts (o:List Int) (C:Nat→Gv):Nat→List Int
 | 0=>o
 | j+1=>ext (exts o C j) (C j)
theorem exts_pre (o:List Int) (C:Nat→Gv):∀ j,∃ t,exts o C j=o ++ t
 | 0=>⟨[],(List.append_nil _).symm⟩
 | j+1=>by
  obtain ⟨t,e⟩:=exts_pre o C j
  obtain ⟨t',e'⟩:=ext_pre (exts o C j) (C j)
  exact ⟨t ++ t',by show ext (exts o C j) (C j) = _;rw [e',e,List.append_assoc]⟩
theorem exts_mem {o:List Int} {C:Nat→Gv}:∀ {j k:Nat},k < j→(C k).k=4→(C k).r ∈ exts o C j
 | 0,_,h,_=>by omega
 | j+1,k,h,hk=>by
  obtain ⟨t,e⟩:=ext_pre (exts o C j) (C j)
  by_cases q:k=j
  ·subst q;exact ext_mem hk
  ·show _ ∈ ext (exts o C j) (C j)
   rw [e]
   exact List.mem_append.2 (.inl (exts_mem (by omega) hk))
def nth (o:List Int) (i:Nat):Nat:=(o.getD i 0).toNat
def ords (F:Nat→Td) (o:List Int):Nat→List Int
 | 0=>o
 | i+1=>if i < (ords F o i).length then exts (ords F o i) (F (nth (ords F o i) i)).C (F (nth (ords F o i) i)).c else ords F o i
theorem ords_succ (F:Nat→Td) (o:List Int) (i:Nat):ords F o (i+1)=if i < (ords F o i).length then exts (ords F o i) (F (nth (ords F o i) i)).C (F (nth (ords F o i) i)).c else ords F o i:=rfl
structure Nl (n:Nat) (o:List Int):Prop where
 nd:o.Nodup
 rg:∀ x,x ∈ o→0≤x∧x < (n:Int)
theorem nl_len:∀ (n:Nat) (o:List Int),Nl n o→o.length≤n
  | 0,o,h=>by
    cases o with
    | nil=>exact Nat.le_refl _
    | cons x r=>have:=h.rg x (List.mem_cons_self);omega
  | n+1,o,h=>by
    by_cases q:(n:Int) ∈ o
    · have e:=List.length_erase_of_mem q
      have hp : 0 < o.length:=List.length_pos_of_mem q
      have:=nl_len n (o.erase (n:Int)) ⟨h.nd.erase _,fun x hx=>by
        obtain ⟨h1,h2⟩:=(h.nd.mem_erase_iff).1 hx
        have:=h.rg x h2
        omega⟩
      omega
    · have := nl_len n o ⟨h.nd, fun x hx => by
        have:=h.rg x hx
        have:x ≠ (n:Int):=fun e=>q (e ▸ hx)
        omega⟩
      omega
theorem nl_ext {n:Nat} {o:List Int} {v:Gv} (h:Nl n o) (hv:v.k=4→0≤v.r∧v.r < (n:Int)):Nl n (ext o v):=by
 unfold ext
 split
 ·rename_i hk
  split
  ·exact h
  ·rename_i hm
   refine ⟨?_,fun x hx=>?_⟩
   ·rw [List.nodup_append]
    refine ⟨h.nd,List.nodup_cons.2 ⟨by simp,List.nodup_nil⟩,?_⟩
    intro a ha b hb e
    rw [List.mem_singleton] at hb
    subst hb
    exact hm (e ▸ ha)
   ·rcases List.mem_append.1 hx with q | q
    ·exact h.rg x q
    ·rw [List.mem_singleton] at q
     subst q
     exact hv hk
 ·exact h
theorem nl_exts {n:Nat} {o:List Int} {C:Nat→Gv} (h:Nl n o):∀ j,(∀ k,k < j→(C k).k=4→0≤(C k).r∧(C k).r < (n:Int))→Nl n (exts o C j)
 | 0,_=>h
 | j+1,hv=>nl_ext (nl_exts h j (fun k hk=>hv k (by omega))) (hv j (by omega))
def wh (o:List Int) (j:Nat):Int:=if (j:Int) ∈ o then (o.idxOf (j:Int):Int) else -1
def Wh (G n:Nat) (o:List Int) (W:World):Prop:=(∀ j,j < n→W.cell? ⟨G,j,none⟩=some (.int .i64 (wh o j)))∧∀ j,W.frozen? ⟨G,j,none⟩=false
theorem wh_app {o:List Int} {r j:Nat} (h:¬ (r:Int) ∈ o):wh (o ++ [(r:Int)]) j=if j=r then (o.length:Int) else wh o j:=by
 unfold wh
 by_cases e:j=r
 ·subst e
  rw [if_pos rfl,if_pos (List.mem_append.2 (.inr (List.mem_singleton.2 rfl))),List.idxOf_append,if_neg h]
  simp
 ·rw [if_neg e]
  by_cases q:(j:Int) ∈ o
  ·rw [if_pos (List.mem_append.2 (.inl q)),if_pos q,List.idxOf_append,if_pos q]
  ·rw [if_neg,if_neg q]
   intro z
   rcases List.mem_append.1 z with z | z
   ·exact q z
   ·rw [List.mem_singleton] at z
    omega
theorem Wh.app {G n r:Nat} {o:List Int} {W:World} (h:Wh G n o W) (hr:r < n) (hm:¬ (r:Int) ∈ o):Wh G n (o ++ [(r:Int)]) (W.setCell ⟨G,r,none⟩ (.int .i64 (o.length:Int))):=by
 refine ⟨fun j hj=>?_,fun j=>(set_fz _ _ _ _ _).trans (h.2 j)⟩
 rw [wh_app hm]
 by_cases e:j=r
 ·subst e
  rw [if_pos rfl]
  exact set_eq _ _ _ _ _ (h.1 j hj)
 ·rw [if_neg e,set_ne _ _ _ _ _ e]
  exact h.1 j hj
theorem Wh.keep {G n:Nat} {o:List Int} {W W':World} (h:Wh G n o W) (hb:W'.heap[G]? = W.heap[G]?):Wh G n o W' :=
 ⟨fun j hj=>(World.cell?_of_block hb).trans (h.1 j hj),fun j=>(World.frozen?_of_block hb).trans (h.2 j)⟩
structure Fo2 (G:Nat) (r:Option Nat) (W w':World):Prop where
 os:w'.os=W.os
 output:w'.output=W.output
 size:W.heap.size≤w'.heap.size
 block:∀ k,k < W.heap.size→k ≠ G→some k ≠ r→w'.heap[k]? = W.heap[k]?
theorem Fo2.of_kb {G:Nat} {r:Option Nat} {W w':World} (k:Kb 0 W w'):Fo2 G r W w':=⟨k.os,k.output,k.size,fun i hi _ _=>k.block i (Nat.zero_le _) hi⟩
theorem infoI:(Try.prog.info? 3).map (fun i=>(i.zero,i.size,i.bytes))=some (some (.int .i64 0),1,8):=by kernel_rfl
theorem info_parts {t:TypeId} {z:Value} {s b:Nat} (h:(Try.prog.info? t).map (fun i=>(i.zero,i.size,i.bytes))=some (some z,s,b)):∃ i,Try.prog.info? t=some i∧i.zero=some z∧i.size=s∧i.bytes=b:=by
 obtain ⟨i,h1,h2⟩:=Option.map_eq_some_iff.1 h
 simp only [Prod.mk.injEq] at h2
 exact ⟨i,h1,h2.1,h2.2.1,h2.2.2⟩
theorem qr_cells (w:World) (c:Array Value) (t:TypeId) (l:List Value) (hl:c.toList=l):∀ j u,l[j]? = some u→(w.alloc (.cells c t)).cell? ((⟨w.heap.size,0,none⟩:Addr).add j)=some u:=by
 intro j u hj
 subst hl
 rw [addr0,World.cell?_alloc_mark]
 simpa using hj
abbrev ivs (o:List Int):List Value:=o.map (fun x=>Value.int .i64 x)
theorem own_shape {W:World} {B t s n:Nat} {v:Value} {l:List Value} (h:W.ownsRow B t s v n l):∃ (ad:Option Addr) (cap:Nat),v = .slice ad n cap:=by
 rcases h.2 with ⟨h1,e⟩ | ⟨g,cap,cur,rfl,_⟩
 ·exact ⟨none,0,by rw [e];exact h1⟩
 ·exact ⟨_,cap,rfl⟩
theorem own_keep {W W':World} {B t s n:Nat} {v:Value} {l:List Value} (h:W.ownsRow B t s v n l) (hb:∀ g,v.ownBlock=some g→W'.heap[g]? = W.heap[g]?):W'.ownsRow B t s v n l:=by
 refine ⟨h.1,?_⟩
 rcases h.2 with h1 | ⟨g,cap,cur,h1,h2,h3,h4⟩
 ·exact .inl h1
 ·exact .inr ⟨g,cap,cur,h1,h2,(hb g (by rw [h1];rfl)).trans h3,h4⟩
def s4 (W:World) (B:Nat) (k m:Int) (x:ByteArray) (r:Int):World:=(((W.setCell ⟨B,0,none⟩ (.int .i64 k)).setCell ⟨B,1,none⟩ (.int .i64 m)).setCell ⟨B,2,none⟩ (.string x)).setCell ⟨B,3,none⟩ (.int .i64 r)
theorem s4_far {k:Nat} (W:World) (B:Nat) (a m:Int) (x:ByteArray) {r:Int} (h:k ≠ B):(s4 W B a m x r).heap[k]? = W.heap[k]?:=by
 unfold s4
 rw [Below.heap_setCell _ _ _ _ h,Below.heap_setCell _ _ _ _ h,Below.heap_setCell _ _ _ _ h,Below.heap_setCell _ _ _ _ h]
theorem s4_size (W:World) (B:Nat) (a m:Int) (x:ByteArray) (r:Int):(s4 W B a m x r).heap.size=W.heap.size:=by
 unfold s4
 simp
theorem s4_cells {W:World} {B:Nat} {u0 u1 u2 u3:Value} (h0:W.cell? ⟨B,0,none⟩=some u0) (h1:W.cell? ⟨B,1,none⟩=some u1) (h2:W.cell? ⟨B,2,none⟩=some u2) (h3:W.cell? ⟨B,3,none⟩=some u3) (k m:Int) (x:ByteArray) (r:Int):(s4 W B k m x r).cell? ⟨B,0,none⟩=some (.int .i64 k)∧(s4 W B k m x r).cell? ⟨B,1,none⟩=some (.int .i64 m)∧(s4 W B k m x r).cell? ⟨B,2,none⟩=some (.string x)∧(s4 W B k m x r).cell? ⟨B,3,none⟩=some (.int .i64 r):=by
 unfold s4
 refine ⟨?_,?_,?_,?_⟩
 ·rw [set_ne _ _ _ _ _ (by decide),set_ne _ _ _ _ _ (by decide),set_ne _ _ _ _ _ (by decide)];exact set_eq _ _ _ _ _ h0
 ·rw [set_ne _ _ _ _ _ (by decide),set_ne _ _ _ _ _ (by decide)];exact set_eq _ _ _ _ _ ((set_ne _ _ _ _ _ (by decide)).trans h1)
 ·rw [set_ne _ _ _ _ _ (by decide)];exact set_eq _ _ _ _ _ ((set_ne _ _ _ _ _ (by decide)).trans ((set_ne _ _ _ _ _ (by decide)).trans h2))
 ·exact set_eq _ _ _ _ _ ((set_ne _ _ _ _ _ (by decide)).trans ((set_ne _ _ _ _ _ (by decide)).trans ((set_ne _ _ _ _ _ (by decide)).trans h3)))
theorem sp_ren {v : Gv} {G n B : Nat} {o : List Int} {vo : Value} (w : World) (hw : Wh G n o w) (hG : G < B) (hB : B ≤ w.heap.size) (ho : w.ownsRow B 3 1 vo o.length (ivs o)) (hv : v.k = 4 → 0 ≤ v.r ∧ v.r < (n : Int)) (hn : n ≤ 1048576) (hl : o.length ≤ 1048576) :
  Calls Try.prog 98 #[gvv v,.slice (some ⟨G,0,none⟩) n n,vo] w fun e w'=>∃ vo',e = .returned (.tuple #[gvv (rnm (ext o v) v),vo'])∧Wh G n (ext o v) w'∧w'.ownsRow B 3 1 vo' (ext o v).length (ivs (ext o v))∧Fo2 G vo.ownBlock w w':=by
 obtain ⟨ad,cap,rfl⟩:=own_shape ho
 have hnI:(n:Int)≤1048576:=by omega
 obtain ⟨w2,hw2⟩:∃ w2,w2=(w.alloc (.cells #[.int .i64 v.k,.int .i64 v.m,.string v.x,.int .i64 v.r] 41)).alloc (.cells #[.int .i64 0,.int .i64 0,.string ⟨#[]⟩,.int .i64 0] 41):=⟨_,rfl⟩
 have k2:Kb 0 w w2:=by rw [hw2];exact kb_alloc2 _ _ _ _
 have z2:w2.heap.size=w.heap.size+2:=by rw [hw2];simp
 have b0:w2.heap[w.heap.size]? = some (.cells #[.int .i64 v.k,.int .i64 v.m,.string v.x,.int .i64 v.r] 41 (0,0)):=by
  rw [hw2,(kb_alloc 0 _ _).block _ (Nat.zero_le _) (by rw [World.size_alloc];omega)]
  exact alloc_new _ _ _
 have b1:w2.heap[w.heap.size+1]? = some (.cells #[.int .i64 0,.int .i64 0,.string ⟨#[]⟩,.int .i64 0] 41 (0,0)):=by
  have e:(w.alloc (.cells #[.int .i64 v.k,.int .i64 v.m,.string v.x,.int .i64 v.r] 41)).heap.size=w.heap.size+1:=World.size_alloc _ _
  rw [hw2,← e]
  exact alloc_new _ _ _
 have HW2:Hid (w2=(w.alloc (.cells #[.int .i64 v.k,.int .i64 v.m,.string v.x,.int .i64 v.r] 41)).alloc (.cells #[.int .i64 0,.int .i64 0,.string ⟨#[]⟩,.int .i64 0] 41)):=hw2
 unfold gvv
 by_cases h4:v.k=4
 case neg =>
  have e1:ext o v=o:=by unfold ext;rw [if_neg h4]
  have e2:rnm o v=v:=by unfold rnm;rw [if_neg h4]
  rw [e1,e2]
  have g4:(v.k != 4)=true:=by simp [h4]
  have g4b:(v.k == 4)=false:=bne h4
  have hgl:G < w.heap.size:=by omega
  have HP:Hid (∀ W,(∀ k,k < w.heap.size→W.heap[k]? = w.heap[k]?)→W.os=w.os→W.output=w.output→w.heap.size≤W.heap.size→Wh G n o W∧W.ownsRow B 3 1 (.slice ad o.length cap) o.length (ivs o)∧Fo2 G (Value.slice ad o.length cap).ownBlock w W):=(fun W h1 h2 h3 h5=>⟨hw.keep (h1 G hgl),own_keep ho (fun g e=>h1 g (ho.lt g e).2),⟨h2,h3,h5,fun k hk _ _=>h1 k hk⟩⟩:∀ W,_)
  have a0:w2.cell? ⟨w.heap.size+1,0,none⟩=some (.int .i64 0):=cell_of b1 rfl
  clear hw ho hv hl hgl k2 z2 b0 b1 hw2 e1 e2 h4 a0
  go_enter Try.func98,Try.ntmps98
  go_wp2_with fail
  refine bodyPost_ret (by simp [results,Try.results98,go_sem];rfl) rfl ?_
  have kk:=fun a b=>kb_alloc2 0 w a b
  exact ⟨_,rfl,(show ∀ W,_ from HP) _ (fun k hk=>(kk _ _).block k (Nat.zero_le _) hk) (kk _ _).os (kk _ _).output (kk _ _).size⟩
 obtain ⟨hr0,hr1⟩:=hv h4
 obtain ⟨r,hr⟩:∃ r:Nat,v.r=(r:Int):=⟨v.r.toNat,by omega⟩
 have hrn:r < n:=by omega
 have hrI:(r:Int) < (n:Int):=by omega
 have hgl:G < w.heap.size:=by omega
 have cw:w2.cell? ⟨G,r,none⟩=some (.int .i64 (wh o r)):=k2.cell (hw.1 r hrn)
 have y0:w2.cell? ⟨w.heap.size,0,none⟩=some (.int .i64 4):=by rw [← h4];exact cell_of b0 rfl
 have y1:w2.cell? ⟨w.heap.size,1,none⟩=some (.int .i64 v.m):=cell_of b0 rfl
 have y2:w2.cell? ⟨w.heap.size,2,none⟩=some (.string v.x):=cell_of b0 rfl
 have y3:w2.cell? ⟨w.heap.size,3,none⟩=some (.int .i64 (r:Int)):=by rw [← hr];exact cell_of b0 rfl
 have yz:∀ j,w2.frozen? ⟨w.heap.size,j,none⟩=false:=fun j=>frozen_of b0
 rw [h4,hr] at HW2
 have erm:∀ o',rnm o' v=⟨4,v.m,v.x,(o'.idxOf (r:Int):Int)⟩:=fun o'=>by unfold rnm;rw [if_pos h4,h4,hr]
 rw [erm]
 by_cases hm:(r:Int) ∈ o
 ·have e1:ext o v=o:=by unfold ext;rw [if_pos h4,hr,if_pos hm]
  rw [e1,h4,hr]
  have ewh:wh o r=(o.idxOf (r:Int):Int):=by unfold wh;rw [if_pos hm]
  rw [ewh] at cw
  have yw:w2.cell? ⟨G,r,none⟩=some (.int .i64 (o.idxOf (r:Int):Int)):=cw
  obtain ⟨ix,hix⟩:∃ ix,ix=o.idxOf (r:Int):=⟨_,rfl⟩
  rw [← hix] at yw
  rw [← hix]
  have hix0:¬ (ix:Int) < 0:=by omega
  have HP:Hid (∀ W,(∀ k,k < w.heap.size→W.heap[k]? = w2.heap[k]?)∧W.os=w2.os∧W.output=w2.output∧W.heap.size=w2.heap.size→Wh G n o W∧W.ownsRow B 3 1 (.slice ad o.length cap) o.length (ivs o)∧Fo2 G (Value.slice ad o.length cap).ownBlock w W):=(fun W ⟨h1,h2,h3,h5⟩=>by
   have e:∀ k,k < w.heap.size→W.heap[k]? = w.heap[k]?:=fun k hk=>(h1 k hk).trans (k2.block k (Nat.zero_le _) hk)
   exact ⟨hw.keep (e G hgl),own_keep ho (fun g e'=>e g (ho.lt g e').2),⟨h2.trans k2.os,h3.trans k2.output,by omega,fun k hk _ _=>e k hk⟩⟩:∀ W,_)
  have HB1:Hid (w2.heap[w.heap.size+1]? = some (.cells #[.int .i64 0,.int .i64 0,.string ⟨#[]⟩,.int .i64 0] 41 (0,0))):=b1
  clear hw ho hv hl hgl k2 z2 b0 b1 hw2 e1 h4 cw ewh hix hm hr0 hr1 hr erm hrn
  go_enter Try.func98,Try.ntmps98
  go_upto_region 3 with fail
  rw [← (show w2 = _ from HW2)]
  clear HW2
  go_upto_region 6 with fail
  have b1:=(show w2.heap[w.heap.size+1]? = _ from HB1)
  obtain ⟨Y2,hY2⟩:∃ Y2,Y2=w2.setCell ⟨w.heap.size,3,none⟩ (.int .i64 (ix:Int)):=⟨_,rfl⟩
  have f0:Y2.cell? ⟨w.heap.size,0,none⟩=some (.int .i64 4):=by rw [hY2,set_ne _ _ _ _ _ (by decide)];exact y0
  have f1:Y2.cell? ⟨w.heap.size,1,none⟩=some (.int .i64 v.m):=by rw [hY2,set_ne _ _ _ _ _ (by decide)];exact y1
  have f2:Y2.cell? ⟨w.heap.size,2,none⟩=some (.string v.x):=by rw [hY2,set_ne _ _ _ _ _ (by decide)];exact y2
  have f3:Y2.cell? ⟨w.heap.size,3,none⟩=some (.int .i64 (ix:Int)):=by rw [hY2];exact set_eq _ _ _ _ _ y3
  have hbl:Y2.heap[w.heap.size+1]? = w2.heap[w.heap.size+1]?:=by rw [hY2];exact Below.heap_setCell _ _ _ _ (show w.heap.size+1 ≠ w.heap.size by omega)
  have HKY:Hid (∀ k,k ≠ w.heap.size→Y2.heap[k]? = w2.heap[k]?):=(fun k hk=>by rw [hY2];exact Below.heap_setCell _ _ _ _ hk:∀ k,_)
  have HSY:Hid (Y2.os=w2.os∧Y2.output=w2.output∧Y2.heap.size=w2.heap.size):=(⟨by rw [hY2];rfl,by rw [hY2];rfl,by rw [hY2];simp⟩:_∧_)
  have q0:Y2.cell? ⟨w.heap.size+1,0,none⟩=some (.int .i64 0):=(World.cell?_of_block hbl).trans (cell_of b1 rfl)
  have q1:Y2.cell? ⟨w.heap.size+1,1,none⟩=some (.int .i64 0):=(World.cell?_of_block hbl).trans (cell_of b1 rfl)
  have q2:Y2.cell? ⟨w.heap.size+1,2,none⟩=some (.string ⟨#[]⟩):=(World.cell?_of_block hbl).trans (cell_of b1 rfl)
  have q3:Y2.cell? ⟨w.heap.size+1,3,none⟩=some (.int .i64 0):=(World.cell?_of_block hbl).trans (cell_of b1 rfl)
  have qz:∀ j,Y2.frozen? ⟨w.heap.size+1,j,none⟩=false:=fun j=>(World.frozen?_of_block hbl).trans (frozen_of b1)
  have HY2:Hid (Y2=w2.setCell ⟨w.heap.size,3,none⟩ (.int .i64 (ix:Int))):=hY2
  clear hY2 hbl
  go_upto_region 7 with fail
  rw [← (show Y2 = _ from HY2)]
  clear HY2 y0 y1 y2 y3 yz yw
  go_wp2_with fail
  obtain ⟨e0,e1,e2,e3⟩:=s4_cells (B:=w.heap.size+1) q0 q1 q2 q3 (4:Int) v.m v.x (ix:Int)
  have HF:Hid ((∀ k,k ≠ w.heap.size→k ≠ w.heap.size+1→(s4 Y2 (w.heap.size+1) 4 v.m v.x (ix:Int)).heap[k]? = w2.heap[k]?)∧(s4 Y2 (w.heap.size+1) 4 v.m v.x (ix:Int)).os=w2.os∧(s4 Y2 (w.heap.size+1) 4 v.m v.x (ix:Int)).output=w2.output∧(s4 Y2 (w.heap.size+1) 4 v.m v.x (ix:Int)).heap.size=w2.heap.size):=(⟨fun k hk hk2=>(s4_far _ _ _ _ _ hk2).trans ((show ∀ k,k ≠ w.heap.size→_ from HKY) k hk),(show _∧_∧_ from HSY).1,(show _∧_∧_ from HSY).2.1,(s4_size _ _ _ _ _ _).trans (show _∧_∧_ from HSY).2.2⟩:_∧_)
  obtain ⟨WF,hWF⟩:∃ WF,WF=s4 Y2 (w.heap.size+1) 4 v.m v.x (ix:Int):=⟨_,rfl⟩
  rw [← hWF] at e0 e1 e2 e3 HF
  have hWF':=hWF
  unfold s4 at hWF'
  rw [← hWF']
  clear hWF hWF'
  refine bodyPost_ret (by simp [results,Try.results98,go_sem,e0,e1,e2,e3];rfl) rfl ?_
  obtain ⟨z1,z2,z3,z4⟩:=(show (∀ k,k ≠ w.heap.size→k ≠ w.heap.size+1→WF.heap[k]? = _)∧_∧_∧_ from HF)
  exact ⟨_,rfl,(show ∀ W,_ from HP) WF ⟨fun k hk=>z1 k (by omega) (by omega),z2,z3,z4⟩⟩
 have e1:ext o v=o ++ [(r:Int)]:=by unfold ext;rw [if_pos h4,hr,if_neg hm]
 rw [e1,h4,hr]
 have eix:(o ++ [(r:Int)]).idxOf (r:Int)=o.length:=by rw [List.idxOf_append,if_neg hm];simp
 rw [eix]
 have ewh:wh o r = -1:=by unfold wh;rw [if_neg hm]
 rw [ewh] at cw
 obtain ⟨i0,hi0,hz0,hz1,hz2⟩:=info_parts infoI
 have HI0:Hid (Try.prog.info? 3=some i0):=hi0
 obtain ⟨W3,hW3⟩:∃ W3,W3=w2.setCell ⟨G,r,none⟩ (.int .i64 (o.length:Int)):=⟨_,rfl⟩
 have hfw:w2.frozen? ⟨G,r,none⟩=false:=(k2.frozen (Nat.zero_le _) hgl).trans (hw.2 r)
 have hbk:∀ k,k ≠ G→W3.heap[k]? = w2.heap[k]?:=fun k hk=>by rw [hW3];exact Below.heap_setCell _ _ _ _ hk
 have hgs:∀ g,(Value.slice ad o.length cap).ownBlock=some g→B≤g∧g < w.heap.size:=fun g e=>ho.lt g e
 have ho3:W3.ownsRow B 3 1 (.slice ad o.length cap) o.length (ivs o):=own_keep ho (fun g e=>(hbk g (by have:=(hgs g e).1;omega)).trans (k2.block g (Nat.zero_le _) (hgs g e).2))
 have hwh3:Wh G n (o ++ [(r:Int)]) W3:=by
  rw [hW3]
  exact (hw.keep (k2.block G (Nat.zero_le _) hgl)).app hrn hm
 have z3:W3.heap.size=w2.heap.size:=by rw [hW3];simp
 have c0:W3.heap[w.heap.size]? = w2.heap[w.heap.size]?:=hbk _ (by omega)
 have c1':W3.heap[w.heap.size+1]? = w2.heap[w.heap.size+1]?:=hbk _ (by omega)
 have HW3:Hid (W3=w2.setCell ⟨G,r,none⟩ (.int .i64 (o.length:Int))):=hW3
 have HO3:Hid (W3.os=w.os∧W3.output=w.output):=(⟨by rw [hW3];exact k2.os,by rw [hW3];exact k2.output⟩:_∧_)
 have x0:W3.cell? ⟨w.heap.size,0,none⟩=some (.int .i64 4):=(World.cell?_of_block c0).trans y0
 have x3:W3.cell? ⟨w.heap.size,3,none⟩=some (.int .i64 (r:Int)):=(World.cell?_of_block c0).trans y3
 have howna:∀ a:Obj,(W3.alloc a).ownsRow B 3 1 (.slice ad o.length cap) o.length (ivs o):=fun a=>ho3.alloc a
 have hqc:∀ (j:Nat) (u:Value),([.int .i64 (r:Int)]:List Value)[j]? = some u→(W3.alloc (.cells #[.int .i64 (r:Int)] 3)).cell? ((⟨W3.heap.size,0,none⟩:Addr).add j)=some u:=qr_cells W3 #[.int .i64 (r:Int)] 3 [.int .i64 (r:Int)] rfl
 have h1c:∀ u ∈ ([.int .i64 (r:Int)]:List Value),u.oneCell'=true:=by intro u hu;simp at hu;subst hu;rfl
 have hbs:B≤W3.heap.size:=by omega
 have HSTP:Hid (∀ (ob:Obj) (v':Value) (w5:World),w5.ownsRow B 3 1 v' (o.length+1) (ivs o ++ [.int .i64 (r:Int)])→(W3.alloc ob).grownBy w5 (Value.slice ad o.length cap).ownBlock→(w5.ownsRow B 3 1 v' (o ++ [(r:Int)]).length (ivs (o ++ [(r:Int)]))∧Wh G n (o ++ [(r:Int)]) w5∧w5.heap[w.heap.size]? = some (.cells #[.int .i64 4,.int .i64 v.m,.string v.x,.int .i64 (r:Int)] 41 (0,0))∧w5.heap[w.heap.size+1]? = some (.cells #[.int .i64 0,.int .i64 0,.string ⟨#[]⟩,.int .i64 0] 41 (0,0))∧w5.cell? ⟨G,r,none⟩=some (.int .i64 (o.length:Int)))∧Fo2 G (Value.slice ad o.length cap).ownBlock w w5∧w.heap.size+2≤w5.heap.size):=(fun ob v' w5 hown hgr=>by
  have hs:=hgr.size
  rw [World.size_alloc] at hs
  have kk:∀ k,k < W3.heap.size→some k ≠ (Value.slice ad o.length cap).ownBlock→w5.heap[k]? = W3.heap[k]?:=fun k hk hne=>(hgr.block k (by rw [World.size_alloc];omega) hne).trans ((kb_alloc 0 W3 ob).block k (Nat.zero_le _) hk)
  have hneG:some G ≠ (Value.slice ad o.length cap).ownBlock:=fun e=>by have:=(hgs G e.symm).1;omega
  have hneX:∀ k,w.heap.size≤k→some k ≠ (Value.slice ad o.length cap).ownBlock:=fun k hk e=>by have:=(hgs k e.symm).2;omega
  have hw5:Wh G n (o ++ [(r:Int)]) w5:=hwh3.keep (kk G (by omega) hneG)
  refine ⟨⟨?_,hw5,?_,?_,?_⟩,⟨?_,?_,by omega,fun k hk h1 h2=>?_⟩,by omega⟩
  ·rw [List.length_append]
   unfold ivs
   rw [List.map_append]
   exact hown
  ·rw [kk _ (by omega) (hneX _ (Nat.le_refl _)),c0,b0,h4,hr]
  ·rw [kk _ (by omega) (hneX _ (by omega)),c1']
   exact b1
  ·have:=hw5.1 r hrn
   rw [wh_app hm,if_pos rfl] at this
   exact this
  ·exact (hgr.os.trans (kb_alloc 0 W3 ob).os).trans (show _∧_ from HO3).1
  ·exact (hgr.output.trans (kb_alloc 0 W3 ob).output).trans (show _∧_ from HO3).2
  ·exact ((kk k (by omega) h2).trans (hbk k h1)).trans (k2.block k (Nat.zero_le _) hk):∀ (ob:Obj) (v':Value) (w5:World),_)
 obtain ⟨L,hL⟩:∃ L,L=o.length:=⟨_,rfl⟩
 obtain ⟨LV,hLV⟩:∃ LV,LV=ivs o:=⟨_,rfl⟩
 rw [← hL] at hl
 rw [← hL,← hLV] at howna
 rw [← hL] at HW3
 rw [← hL]
 have HSTQ:Hid (∀ (ob:Obj) (v':Value) (w5:World),w5.ownsRow B 3 1 v' (L+1) (LV ++ [.int .i64 (r:Int)])→(W3.alloc ob).grownBy w5 (Value.slice ad L cap).ownBlock→(w5.ownsRow B 3 1 v' (o ++ [(r:Int)]).length (ivs (o ++ [(r:Int)]))∧Wh G n (o ++ [(r:Int)]) w5∧w5.heap[w.heap.size]? = some (.cells #[.int .i64 4,.int .i64 v.m,.string v.x,.int .i64 (r:Int)] 41 (0,0))∧w5.heap[w.heap.size+1]? = some (.cells #[.int .i64 0,.int .i64 0,.string ⟨#[]⟩,.int .i64 0] 41 (0,0))∧w5.cell? ⟨G,r,none⟩=some (.int .i64 (L:Int)))∧Fo2 G (Value.slice ad L cap).ownBlock w w5∧w.heap.size+2≤w5.heap.size):=by
  rw [hL,hLV];exact HSTP
 have hLI:(L:Int)≤1048576:=by omega
 clear hw ho hv hgl k2 z2 b0 b1 hw2 e1 h4 ewh eix hm hr0 hr1 hr erm hrn hW3 hbk hgs ho3 hwh3 z3 c0 c1' HO3 HSTP hL hLV hi0
 go_enter Try.func98,Try.ntmps98
 go_upto_region 3 with fail
 rw [← (show w2 = _ from HW2)]
 clear HW2
 go_upto_region 5 with fail
 rw [← (show W3 = _ from HW3)]
 clear HW3 cw hfw y0 y1 y2 y3 yz
 go_upto_region 6 with (at_builtin;refine wpList_append_own _ rfl (.tmp 25) (.tmp 28) 141 rfl B 3 i0 (.int .i64 0) 1 8 Try.underlying141 HI0 hz0 hz1 hz2 rfl (by decide) _ _ _ rfl (howna _) ⟨W3.heap.size,0,none⟩ 1 1 [.int .i64 (r:Int)] rfl rfl hqc h1c (by unfold maxLen;omega) (by omega) (by simp;omega) ?_;intro v' w5 hown1 hgrow1 _;obtain ⟨⟨p1,p2,c0,c1,yw⟩,p3,p4⟩:=(show ∀ (ob:Obj) (v':Value) (w5:World),_ from HSTQ) _ _ _ hown1 hgrow1;clear HSTQ hown1 hgrow1 howna hqc h1c x0 x3)
 have HEND:Hid (w5.ownsRow B 3 1 v' (o ++ [(r:Int)]).length (ivs (o ++ [(r:Int)]))∧Wh G n (o ++ [(r:Int)]) w5∧Fo2 G (Value.slice ad L cap).ownBlock w w5∧w.heap.size+2≤w5.heap.size∧w5.heap[w.heap.size]? = some (.cells #[.int .i64 4,.int .i64 v.m,.string v.x,.int .i64 (r:Int)] 41 (0,0))∧w5.heap[w.heap.size+1]? = some (.cells #[.int .i64 0,.int .i64 0,.string ⟨#[]⟩,.int .i64 0] 41 (0,0))∧G < w.heap.size):=(⟨p1,p2,p3,p4,c0,c1,by omega⟩:_∧_)
 have y0:w5.cell? ⟨w.heap.size,0,none⟩=some (.int .i64 4):=cell_of c0 rfl
 have y1:w5.cell? ⟨w.heap.size,1,none⟩=some (.int .i64 v.m):=cell_of c0 rfl
 have y2:w5.cell? ⟨w.heap.size,2,none⟩=some (.string v.x):=cell_of c0 rfl
 have y3:w5.cell? ⟨w.heap.size,3,none⟩=some (.int .i64 (r:Int)):=cell_of c0 rfl
 have yz:∀ j,w5.frozen? ⟨w.heap.size,j,none⟩=false:=fun j=>frozen_of c0
 clear p1 p2 p3 p4
 obtain ⟨Y2,hY2⟩:∃ Y2,Y2=w5.setCell ⟨w.heap.size,3,none⟩ (.int .i64 (L:Int)):=⟨_,rfl⟩
 have f0:Y2.cell? ⟨w.heap.size,0,none⟩=some (.int .i64 4):=by rw [hY2,set_ne _ _ _ _ _ (by decide)];exact y0
 have f1:Y2.cell? ⟨w.heap.size,1,none⟩=some (.int .i64 v.m):=by rw [hY2,set_ne _ _ _ _ _ (by decide)];exact y1
 have f2:Y2.cell? ⟨w.heap.size,2,none⟩=some (.string v.x):=by rw [hY2,set_ne _ _ _ _ _ (by decide)];exact y2
 have f3:Y2.cell? ⟨w.heap.size,3,none⟩=some (.int .i64 (L:Int)):=by rw [hY2];exact set_eq _ _ _ _ _ y3
 have hbl:Y2.heap[w.heap.size+1]? = w5.heap[w.heap.size+1]?:=by rw [hY2];exact Below.heap_setCell _ _ _ _ (show w.heap.size+1 ≠ w.heap.size by omega)
 have HKY:Hid (∀ k,k ≠ w.heap.size→Y2.heap[k]? = w5.heap[k]?):=(fun k hk=>by rw [hY2];exact Below.heap_setCell _ _ _ _ hk:∀ k,_)
 have HSY:Hid (Y2.os=w5.os∧Y2.output=w5.output∧Y2.heap.size=w5.heap.size):=(⟨by rw [hY2];rfl,by rw [hY2];rfl,by rw [hY2];simp⟩:_∧_)
 have q0:Y2.cell? ⟨w.heap.size+1,0,none⟩=some (.int .i64 0):=(World.cell?_of_block hbl).trans (cell_of c1 rfl)
 have q1:Y2.cell? ⟨w.heap.size+1,1,none⟩=some (.int .i64 0):=(World.cell?_of_block hbl).trans (cell_of c1 rfl)
 have q2:Y2.cell? ⟨w.heap.size+1,2,none⟩=some (.string ⟨#[]⟩):=(World.cell?_of_block hbl).trans (cell_of c1 rfl)
 have q3:Y2.cell? ⟨w.heap.size+1,3,none⟩=some (.int .i64 0):=(World.cell?_of_block hbl).trans (cell_of c1 rfl)
 have qz:∀ j,Y2.frozen? ⟨w.heap.size+1,j,none⟩=false:=fun j=>(World.frozen?_of_block hbl).trans (frozen_of c1)
 have HY2:Hid (Y2=w5.setCell ⟨w.heap.size,3,none⟩ (.int .i64 (L:Int))):=hY2
 clear hY2 hbl
 go_upto_region 7 with fail
 rw [← (show Y2 = _ from HY2)]
 clear HY2 y0 y1 y2 y3 yz yw
 go_wp2_with fail
 obtain ⟨e0,e1,e2,e3⟩:=s4_cells (B:=w.heap.size+1) q0 q1 q2 q3 (4:Int) v.m v.x (L:Int)
 have HF:Hid ((∀ k,k ≠ w.heap.size→k ≠ w.heap.size+1→(s4 Y2 (w.heap.size+1) 4 v.m v.x (L:Int)).heap[k]? = w5.heap[k]?)∧(s4 Y2 (w.heap.size+1) 4 v.m v.x (L:Int)).os=w5.os∧(s4 Y2 (w.heap.size+1) 4 v.m v.x (L:Int)).output=w5.output∧(s4 Y2 (w.heap.size+1) 4 v.m v.x (L:Int)).heap.size=w5.heap.size):=(⟨fun k hk hk2=>(s4_far _ _ _ _ _ hk2).trans ((show ∀ k,k ≠ w.heap.size→_ from HKY) k hk),(show _∧_∧_ from HSY).1,(show _∧_∧_ from HSY).2.1,(s4_size _ _ _ _ _ _).trans (show _∧_∧_ from HSY).2.2⟩:_∧_)
 obtain ⟨WF,hWF⟩:∃ WF,WF=s4 Y2 (w.heap.size+1) 4 v.m v.x (L:Int):=⟨_,rfl⟩
 rw [← hWF] at e0 e1 e2 e3 HF
 have hWF':=hWF
 unfold s4 at hWF'
 rw [← hWF']
 clear hWF hWF'
 refine bodyPost_ret (by simp [results,Try.results98,go_sem,e0,e1,e2,e3];rfl) rfl ?_
 obtain ⟨z1,z2,z3,z4⟩:=(show (∀ k,k ≠ w.heap.size→k ≠ w.heap.size+1→WF.heap[k]? = _)∧_∧_∧_ from HF)
 obtain ⟨p1,p2,p3,p4,d0,d1,hG2⟩:=(show w5.ownsRow B 3 1 v' (o ++ [(r:Int)]).length (ivs (o ++ [(r:Int)]))∧Wh G n (o ++ [(r:Int)]) w5∧Fo2 G (Value.slice ad L cap).ownBlock w w5∧w.heap.size+2≤w5.heap.size∧_∧_∧G < w.heap.size from HEND)
 have hty:∀ g,v'.ownBlock=some g→g ≠ w.heap.size∧g ≠ w.heap.size+1:=fun g e=>by
  rcases p1.2 with ⟨q,_⟩ | ⟨g',cp,cur,q1,q2,q3,q4⟩
  ·rw [q] at e;cases e
  ·rw [q1] at e
   have e':g'=g:=Option.some.inj e
   subst e'
   refine ⟨fun (h:g' = _)=>?_,fun (h:g' = _)=>?_⟩ <;> (rw [h] at q3;first | (rw [d0] at q3;injection q3 with q3;injection q3 with _ q3;exact absurd q3 (by decide)) | (rw [d1] at q3;injection q3 with q3;injection q3 with _ q3;exact absurd q3 (by decide)))
 exact ⟨_,rfl,p2.keep (z1 G (by omega) (by omega)),own_keep p1 (fun g e=>z1 g (hty g e).1 (hty g e).2),⟨z2.trans p3.os,z3.trans p3.output,by have:=p3.size;omega,fun k hk h1 h2=>(z1 k (by omega) (by omega)).trans (p3.block k hk h1 h2)⟩⟩
end Go.Proofs.Ytamcnmnaadpfoaa.Fo
