import Derived.Test.YtamcnmnaadpfoaaFSup
import Derived.Test.YtamcnmnaadpfoaaFZaa
set_option maxHeartbeats 16000000
namespace Go.Proofs.Ytamcnmnaadpfoaa.Fo
open Go.ChangeShapes Go.WideShapes Go.ChangeAt Go.RowKit
set_option linter.unusedVariables false
set_option maxRecDepth 100000
theorem sp_sumL {va : Value} {n : Nat} {A : Nat → Int} (w : World) (ha : RowV w va n (fun i => .int .u8 (A i))) (hn : n ≤ 1000000000) (hA : ∀ i, i < n → 0 ≤ A i ∧ A i ≤ 255) :
  Calls Try.prog 76 #[va] w fun e w'=>e = .returned (.int .u64 (smz A n))∧w'=w:=by
 obtain ⟨pa,ca,rfl,ha2⟩:=ha
 have HA:Hid ((0 < n→∃ a:Addr,pa=some a∧n≤ca∧∀ i,i < n→w.cell? (a.add i)=some (.int .u8 (A i)))∧∀ i,i < n→0≤A i∧A i≤255):=(⟨ha2,hA⟩:_∧_)
 have hnI:(n:Int)≤1000000000:=by omega
 clear ha2 hn hA
 go_enter Try.func76,Try.ntmps76
 go_wp2_with fail
 go_loopw [3,8] (fun s3 s8 wr=>∃ i:Nat,s3 = .int .u64 (smz A i)∧s8 = .int .i64 (i:Int)∧i≤n∧wr=w) (fun _ s8 _=>n - (intOf s8).toNat)
 case atStart=>exact ⟨0,rfl,rfl,Nat.zero_le _,rfl⟩
 case round =>
  obtain ⟨i,rfl,rfl,hin,rfl⟩:=hrel
  rcases Nat.lt_or_ge i n with hi | hi
  ·obtain ⟨hA1,hA2⟩:=(show (0 < n→_)∧∀ i,i < n→0≤A i∧A i≤255 from HA)
   obtain ⟨a,rfl,hca,hra⟩:=hA1 (by omega)
   have hiI:(i:Int) < (n:Int):=by omega
   have qa:=hra i hi
   obtain ⟨x0,x1⟩:=hA2 i hi
   clear hra HA hin hA1 hA2
   have hss:smz A (i+1)=sst (smz A i) (A i):=rfl
   obtain ⟨y,hy⟩:∃ y,y=A i:=⟨_,rfl⟩
   obtain ⟨h,hh⟩:∃ h,h=smz A i:=⟨_,rfl⟩
   rw [← hy] at qa x0 x1 hss
   rw [← hh] at hss
   rw [← hh]
   have HSS:Hid (smz A (i+1)=sst h y):=hss
   clear hy hh hss
   go_wp2_with fail
   go_roundw
   case rel=>exact ⟨i+1,by rw [show smz A (i+1)=sst h y from HSS];rfl,by go_num,by omega,trivial⟩
   case measure=>simp [intOf];omega
  ·obtain rfl:i=n:=by omega
   have hI:¬ (i:Int) < (i:Int):=by omega
   clear HA
   go_wp2_with fail
   go_ret
   first | exact rfl | exact ⟨rfl,rfl⟩ | trivial
theorem cat_len (f:Nat→List Int) (K:Nat):∀ n,(∀ i,i < n→(f i).length≤K)→(cat f n).length≤n*K
 | 0,_=>by simp [cat]
 | n+1,h=>by
  have h1:=cat_len f K n (fun i hi=>h i (by omega))
  have h2:=h n (by omega)
  show (cat f n ++ f n).length≤_
  rw [List.length_append,Nat.add_mul]
  omega
theorem Kx.kb {w0 w w':World} (k:Kx w0.heap.size w w') (h:Kb 0 w0 w):Kb 0 w0 w' :=
 ⟨k.os.trans h.os,k.output.trans h.output,Nat.le_trans h.size k.size,fun g _ hg=>(k.lo g hg (Nat.lt_of_lt_of_le hg h.size)).trans (h.block g (Nat.zero_le _) hg)⟩
def MO (W0:World) (v:Value) (l:List Int) (wr:World):Prop:=wr.ownsRow W0.heap.size 5 1 v l.length (bvs l)∧Kb 0 W0 wr
theorem MO.kb {W0:World} {v:Value} {l:List Int} {w w':World} (h:MO W0 v l w) (k:Kb 0 w w'):MO W0 v l w':=⟨own_keep h.1 (fun g e=>k.block g (Nat.zero_le _) (h.1.lt g e).2),h.2.trans k⟩
theorem mo_num {W0 : World} {v : Value} {l : List Int} (n : Nat) (w : World) (h : MO W0 v l w) (hl : l.length ≤ 900000000) (hn : n < 18446744073709551616) :
  Calls Try.prog 73 #[v,.int .u64 (n:Int)] w fun e w'=>∃ v',e = .returned v'∧MO W0 v' (l ++ numb n) w'∧Kx W0.heap.size w w' :=
 (sp_num n w h.1 h.2.size (by omega) hn).mono (fun e w' ⟨v',he,h1,h2⟩=>⟨v',he,⟨h1,h2.kb h.2⟩,h2⟩)
theorem mo_val {W0 : World} {v : Value} {l : List Int} {x : Gv} (w : World) (h : MO W0 v l w) (hl : l.length ≤ 900000000) (hx : Pok x) :
  Calls Try.prog 74 #[v,.agg #[.int .i64 x.k,.int .i64 x.m,.string x.x,.int .i64 x.r]] w fun e w'=>∃ v',e = .returned v'∧MO W0 v' (l ++ pvl x) w'∧Kx W0.heap.size w w' :=
 (sp_pval w h.1 h.2.size hl hx).mono (fun e w' ⟨v',he,h1,h2⟩=>⟨v',he,⟨h1,h2.kb h.2⟩,h2⟩)
theorem MO.shape {W0:World} {v:Value} {l:List Int} {wr:World} (h:MO W0 v l wr):∃ p c,v = .slice p l.length c:=own_shape h.1
structure Gb (A:Gv) (m:Nat) (D:Nat→Td):Prop where
 hA:Pok A∧A.x.size≤4000
 hm:m≤600
 hD:∀ k,k < m→Nop (D k)
 hx:∀ k,k < m→∀ j,j < (D k).c→((D k).C j).x.size≤4000
theorem gb_node {A:Gv} {m:Nat} {D:Nat→Td} (h:Gb A m D) {k:Nat} (hk:k < m):∀ j,j≤(D k).c→(cat (fun q=>pvl ((D k).C q)) j).length≤300*4011:=fun j hj=>by
 have h1:=cat_len (fun q=>pvl ((D k).C q)) 4011 j (fun i hi=>by
  have:=pvl_len ((h.hD k hk).v i (by omega)).1
  have:=h.hx k hk i (by omega)
  show (pvl ((D k).C i)).length≤_
  omega)
 have:=(h.hD k hk).c
 have h2:j*4011≤300*4011:=Nat.mul_le_mul_right _ (by omega)
 omega
theorem gb_ndl {A:Gv} {m:Nat} {D:Nat→Td} (h:Gb A m D) {k:Nat} (hk:k < m):(ndl (D k)).length≤1203320:=by
 have h1:=gb_node h hk (D k).c (Nat.le_refl _)
 have h2:=numb_ten (n:=(D k).t.toNat) (by have:=(h.hD k hk).t1;omega)
 have h3:=numb_ten (n:=(D k).c) (by have:=(h.hD k hk).c;omega)
 unfold ndl
 rw [List.length_append,List.length_append]
 omega
theorem gb_nodes {A:Gv} {m:Nat} {D:Nat→Td} (h:Gb A m D) (i:Nat) (hi:i≤m):(cat (fun k=>ndl (D k)) i).length≤721992000:=by
 have h1:=cat_len (fun k=>ndl (D k)) 1203320 i (fun k hk=>gb_ndl h (by omega))
 have:=h.hm
 have h2:i*1203320≤600*1203320:=Nat.mul_le_mul_right _ (by omega)
 omega
theorem gb_head {A:Gv} {m:Nat} {D:Nat→Td} (h:Gb A m D):([72,49] ++ (numb m ++ pvl A):List Int).length≤5000:=by
 have h1:=numb_ten (n:=m) (by have:=h.hm;omega)
 have h2:=pvl_len h.hA.1
 have:=h.hA.2
 rw [List.length_append,List.length_append]
 simp only [List.length_cons,List.length_nil]
 omega
theorem gb_of {n:Nat} {F:Nat→Td} {a:Gv} (h:Gok n F a) (hr:Rg n F a):Gb (rnm (cO n F a) a) (cO n F a).length (cF n F a):=by
 obtain ⟨c1,c2,c3⟩:=can_ok h hr
 have hvx:∀ {v:Gv},Vok n v→v.x.size≤4000:=fun {v} h=>by
  rcases h with h | h | h | h
  ·rw [em0 h.2.2.1];omega
  ·rw [em0 h.2.1];omega
  ·exact h.2.2.2
  ·rw [em0 h.2.2.1];omega
 refine ⟨⟨c1.1,by rw [rnm_x];exact hvx h.2.1⟩,c2,c3,fun k hk j hj=>?_⟩
 have hx:=(nth_lt (nl_cO (gok_lk h)) hk).1
 show (rnm (cO n F a) ((F (nth (cO n F a) k)).C j)).x.size≤_
 rw [rnm_x]
 exact hvx ((h.2.2 _ hx).2 j hj)
theorem sp_pack0 {a : Gv} {vn : Value} {n : Nat} {F : Nat → Td} (w : World) (ha : RowT 0 w vn n F) (hb : Bg n F a) (hG : Gok n F a) (hrg : Rg n F a) :
  Calls Try.prog 39 #[grv a vn] w fun e w'=>∃ v,e = .returned v∧w'.ownsRow w.heap.size 5 1 v (pfl n F a).length (bvs (pfl n F a))∧Kb 0 w w':=by
 obtain ⟨pn,cn,rfl,ha2⟩:=id ha
 clear ha2
 obtain ⟨w2,hw2⟩:∃ w2,w2=w.alloc (.cells #[.int .i64 a.k,.int .i64 a.m,.string a.x,.int .i64 a.r,.slice pn n cn] 44):=⟨_,rfl⟩
 have k2:Kb 0 w w2:=by rw [hw2];exact kb_alloc _ _ _
 have b0:w2.heap[w.heap.size]? = some (.cells #[.int .i64 a.k,.int .i64 a.m,.string a.x,.int .i64 a.r,.slice pn n cn] 44 (0,0)):=by rw [hw2];exact alloc_new _ _ _
 have HW2:Hid (w2=w.alloc (.cells #[.int .i64 a.k,.int .i64 a.m,.string a.x,.int .i64 a.r,.slice pn n cn] 44)):=hw2
 have v0:w2.cell? ⟨w.heap.size,0,none⟩=some (.int .i64 a.k):=cell_of b0 rfl
 have v1:w2.cell? ⟨w.heap.size,1,none⟩=some (.int .i64 a.m):=cell_of b0 rfl
 have v2:w2.cell? ⟨w.heap.size,2,none⟩=some (.string a.x):=cell_of b0 rfl
 have v3:w2.cell? ⟨w.heap.size,3,none⟩=some (.int .i64 a.r):=cell_of b0 rfl
 have v4:w2.cell? ⟨w.heap.size,4,none⟩=some (.slice pn n cn):=cell_of b0 rfl
 obtain ⟨P,hP⟩:∃ P,P=pfl n F a:=⟨_,rfl⟩
 rw [← hP]
 obtain ⟨m,hm⟩:∃ m,m=(cO n F a).length:=⟨_,rfl⟩
 obtain ⟨A,hA⟩:∃ A,A=rnm (cO n F a) a:=⟨_,rfl⟩
 obtain ⟨D,hD⟩:∃ D,D=cF n F a:=⟨_,rfl⟩
 obtain ⟨hd,hhd⟩:∃ hd:List Int,hd = [72,49] ++ (numb m ++ pvl A):=⟨_,rfl⟩
 have hgb:=gb_of hG hrg
 rw [← hm,← hA,← hD] at hgb
 have hPP:P=(hd ++ cat (fun k=>ndl (D k)) m) ++ eig (sm64 (hd ++ cat (fun k=>ndl (D k)) m)) 8:=by
  have e:pbd n F a=hd ++ cat (fun k=>ndl (D k)) m:=by
   unfold pbd gbl
   rw [hhd,hm,hA,hD,List.append_assoc [72,49]]
  rw [hP]
  unfold pfl
  rw [e]
 have HCN:Hid (Calls Try.prog 72 #[.agg #[.int .i64 a.k,.int .i64 a.m,.string a.x,.int .i64 a.r,.slice pn n cn]] w2 fun e w'=>∃ v,e = .returned (.agg #[.int .i64 A.k,.int .i64 A.m,.string A.x,.int .i64 A.r,v])∧RowT 0 w' v m D∧Kb 0 w2 w'):=((sp_canon w2 (ha.keep k2) hb (gok_lk hG)).mono (fun e w' ⟨v,he,h1,h2⟩=>⟨v,by rw [he,hA];rfl,by rw [hm,hD];exact h1.mono (Nat.zero_le _),h2⟩):Calls Try.prog 72 _ w2 _)
 have HALL:Hid (Kb 0 w w2∧Gb A m D∧hd = [72,49] ++ (numb m ++ pvl A)∧P=(hd ++ cat (fun k=>ndl (D k)) m) ++ eig (sm64 (hd ++ cat (fun k=>ndl (D k)) m)) 8):=(⟨k2,hgb,hhd,hPP⟩:_∧_)
 clear k2 b0 hw2 ha hb hG hrg hP hm hA hD hhd hgb hPP
 unfold grv
 go_enter Try.func39,Try.ntmps39
 go_upto_region 1 with fail
 rw [← (show w2 = _ from HW2)]
 clear HW2
 go_wp2_with fail
 refine (show Calls Try.prog 72 _ w2 _ from HCN).mono ?_
 rintro e w3 ⟨v,rfl,hrow,k3⟩
 clear HCN v0 v1 v2 v3 v4
 obtain ⟨k2,hgb,hhd,hPP⟩:=(show Kb 0 w w2∧Gb A m D∧hd = [72,49] ++ (numb m ++ pvl A)∧P=(hd ++ cat (fun k=>ndl (D k)) m) ++ eig (sm64 (hd ++ cat (fun k=>ndl (D k)) m)) 8 from HALL)
 obtain ⟨pv,cv,rfl,hrow2⟩:=id hrow
 obtain ⟨W0,hW0⟩:∃ W0,W0=w3.alloc (.cells #[.int .i64 A.k,.int .i64 A.m,.string A.x,.int .i64 A.r,.slice pv m cv] 44):=⟨_,rfl⟩
 have k4:Kb 0 w3 W0:=by rw [hW0];exact kb_alloc _ _ _
 have b4:W0.heap[w3.heap.size]? = some (.cells #[.int .i64 A.k,.int .i64 A.m,.string A.x,.int .i64 A.r,.slice pv m cv] 44 (0,0)):=by rw [hW0];exact alloc_new _ _ _
 obtain ⟨fb,hfb⟩:∃ fb,fb=w3.heap.size:=⟨_,rfl⟩
 rw [← hfb] at b4
 obtain ⟨w5,hw5⟩:∃ w5,w5=W0.alloc (.cells #[.int .u8 72,.int .u8 49] 5):=⟨_,rfl⟩
 have k5:Kb 0 W0 w5:=by rw [hw5];exact kb_alloc _ _ _
 have hmo:MO W0 (.slice (some ⟨W0.heap.size,0,none⟩) 2 2) [72,49] w5:=by
  refine ⟨⟨rfl,.inr ⟨W0.heap.size,2,#[.int .u8 72,.int .u8 49],rfl,Nat.le_refl _,by rw [hw5];exact alloc_new _ _ _,Nat.le_refl _,?_⟩⟩,k5⟩
  exact ⟨by unfold maxLen;omega,rfl,rfl⟩
 have HALL2:Hid (Kb 0 w W0∧Gb A m D∧hd = [72,49] ++ (numb m ++ pvl A)∧P=(hd ++ cat (fun k=>ndl (D k)) m) ++ eig (sm64 (hd ++ cat (fun k=>ndl (D k)) m)) 8∧(0 < m→∃ a:Addr,pv=some a∧m≤cv∧0≤a.block∧∀ i,i < m→ThC 0 W0 (a.add (i*2)) (D i))∧W0.heap[fb]? = some (.cells #[.int .i64 A.k,.int .i64 A.m,.string A.x,.int .i64 A.r,.slice pv m cv] 44 (0,0))):=(⟨(k2.trans k3).trans k4,hgb,hhd,hPP,fun h=>by
  obtain ⟨a,e1,e2,e3,e4⟩:=hrow2 h
  exact ⟨a,e1,e2,e3,fun i hi=>(e4 i hi).keep (Nat.zero_le _) k4⟩,b4⟩:_∧_)
 have HM1:=mo_num m w5 hmo (by simp) (by have:=hgb.hm;omega)
 have hcc:IntKind.u64.wrap (m:Int)=(m:Int):=by rw [wrap_u64];have:=hgb.hm;omega
 have f4:w5.cell? ⟨fb,4,none⟩=some (.slice pv m cv):=k5.cell (cell_of b4 rfl)
 have HW0:Hid (W0=w3.alloc (.cells #[.int .i64 A.k,.int .i64 A.m,.string A.x,.int .i64 A.r,.slice pv m cv] 44)):=hW0
 have HW5:Hid (w5=W0.alloc (.cells #[.int .u8 72,.int .u8 49] 5)):=hw5
 have hmI:(m:Int)≤600:=by have:=hgb.hm;omega
 clear HALL k2 hgb hhd hPP hrow hrow2 k3 hW0 k4 b4 hw5 k5 hmo
 go_upto_region 2 with fail
 rw [← (show W0 = _ from HW0),← hfb]
 clear HW0 hfb
 go_upto_region 3 with fail
 rw [← (show w5 = _ from HW5)]
 clear HW5
 go_wp2_with fail
 refine HM1.mono ?_
 rintro e w6 ⟨u1,rfl,hmo,-⟩
 clear HM1 f4
 obtain ⟨kw0,hgb,hhd,hPP,hrow,b4⟩:=(show Kb 0 w W0∧Gb A m D∧hd = [72,49] ++ (numb m ++ pvl A)∧P=(hd ++ cat (fun k=>ndl (D k)) m) ++ eig (sm64 (hd ++ cat (fun k=>ndl (D k)) m)) 8∧(0 < m→∃ a:Addr,pv=some a∧m≤cv∧0≤a.block∧∀ i,i < m→ThC 0 W0 (a.add (i*2)) (D i))∧W0.heap[fb]? = some (.cells #[.int .i64 A.k,.int .i64 A.m,.string A.x,.int .i64 A.r,.slice pv m cv] 44 (0,0)) from HALL2)
 have g6:=(hmo.2.block fb (Nat.zero_le _) (Array.getElem?_eq_some_iff.1 b4).1).trans b4
 have f0:w6.cell? ⟨fb,0,none⟩=some (.int .i64 A.k):=cell_of g6 rfl
 have f1:w6.cell? ⟨fb,1,none⟩=some (.int .i64 A.m):=cell_of g6 rfl
 have f2:w6.cell? ⟨fb,2,none⟩=some (.string A.x):=cell_of g6 rfl
 have f3:w6.cell? ⟨fb,3,none⟩=some (.int .i64 A.r):=cell_of g6 rfl
 have HM2:=mo_val w6 hmo (by rw [List.length_append];have:=numb_ten (n:=m) (by omega);simp;omega) hgb.hA.1
 have e12:([72,49] ++ numb m) ++ pvl A=hd:=by rw [hhd,List.append_assoc]
 rw [e12] at HM2
 obtain ⟨pu,cu,rfl⟩:=hmo.shape
 clear kw0 hgb hhd hPP hrow b4 g6 hmo e12
 go_wp2_with fail
 refine HM2.mono ?_
 rintro e w7 ⟨u2,rfl,hmo,-⟩
 clear HM2 f0 f1 f2 f3
 obtain ⟨kw0,hgb,hhd,hPP,hrow,b4⟩:=(show Kb 0 w W0∧Gb A m D∧hd = [72,49] ++ (numb m ++ pvl A)∧P=(hd ++ cat (fun k=>ndl (D k)) m) ++ eig (sm64 (hd ++ cat (fun k=>ndl (D k)) m)) 8∧(0 < m→∃ a:Addr,pv=some a∧m≤cv∧0≤a.block∧∀ i,i < m→ThC 0 W0 (a.add (i*2)) (D i))∧W0.heap[fb]? = some (.cells #[.int .i64 A.k,.int .i64 A.m,.string A.x,.int .i64 A.r,.slice pv m cv] 44 (0,0)) from HALL2)
 have g7:=(hmo.2.block fb (Nat.zero_le _) (Array.getElem?_eq_some_iff.1 b4).1).trans b4
 have f4:w7.cell? ⟨fb,4,none⟩=some (.slice pv m cv):=cell_of g7 rfl
 have HMO:Hid (MO W0 u2 hd w7):=hmo
 obtain ⟨pu2,cu2,rfl⟩:=hmo.shape
 clear kw0 hgb hhd hPP hrow b4 g7 hmo
 go_wp2_with fail
 clear f4
 go_loopw [4,25] (fun s4 s25 wr=>∃ i:Nat,s25 = .int .i64 (i:Int)∧i≤m∧Hid (MO W0 s4 (hd ++ cat (fun k=>ndl (D k)) i) wr)) (fun _ s25 _=>m - (intOf s25).toNat)
 case atStart=>exact ⟨0,rfl,Nat.zero_le _,(by rw [show cat (fun k=>ndl (D k)) 0 = [] from rfl,List.append_nil];exact HMO:MO W0 _ _ w7)⟩
 case round =>
  clear HMO
  obtain ⟨i,rfl,hi0,HX⟩:=hrel
  have hmo:=(show MO W0 _ (hd ++ cat (fun k=>ndl (D k)) i) wr from HX)
  obtain ⟨kw0,hgb,hhd,hPP,hrow,b4⟩:=(show Kb 0 w W0∧Gb A m D∧hd = [72,49] ++ (numb m ++ pvl A)∧P=(hd ++ cat (fun k=>ndl (D k)) m) ++ eig (sm64 (hd ++ cat (fun k=>ndl (D k)) m)) 8∧(0 < m→∃ a:Addr,pv=some a∧m≤cv∧0≤a.block∧∀ i,i < m→ThC 0 W0 (a.add (i*2)) (D i))∧W0.heap[fb]? = some (.cells #[.int .i64 A.k,.int .i64 A.m,.string A.x,.int .i64 A.r,.slice pv m cv] 44 (0,0)) from HALL2)
  have hln:(hd ++ cat (fun k=>ndl (D k)) i).length≤721997000:=by
   rw [List.length_append]
   have h1:=gb_head hgb
   rw [← hhd] at h1
   have h2:=gb_nodes hgb i hi0
   omega
  obtain ⟨pu3,cu3,rfl⟩:=hmo.shape
  rcases Nat.lt_or_ge i m with hi | hi
  case inr =>
   obtain rfl:i=m:=by omega
   have hI:¬ (i:Int) < (i:Int):=by omega
   obtain ⟨LL,hLL⟩:∃ LL,LL=hd ++ cat (fun k=>ndl (D k)) i:=⟨_,rfl⟩
   have hbk:Bok LL:=by
    rw [hLL,hhd]
    refine (Bok.app (fun x hx=>by simp at hx;omega) ((numb_bok _).app (pvl_bok hgb.hA.1))).app (cat_bok _ _ (fun k hk=>ndl_bok (hgb.hD k hk)))
   rw [← hLL] at hmo hln hPP
   have HS:=sp_sumL wr (own_rowv hmo.1) (by omega) (bok_getD hbk)
   rw [← sm64_int] at HS
   have HE:=sp_eight (sm64 LL) wr hmo.1 hmo.2.size (by omega) (sm64_lt LL)
   rw [← hPP] at HE
   have HF:Hid (Kb 0 w W0∧Kb 0 W0 wr):=(⟨kw0,hmo.2⟩:_∧_)
   obtain ⟨Z,hZ⟩:∃ Z:Int,Z=(sm64 LL:Int):=⟨_,rfl⟩
   rw [← hZ] at HS HE
   rw [← hLL] at HX ⊢
   obtain ⟨LN,hLN⟩:∃ LN,LN=LL.length:=⟨_,rfl⟩
   rw [← hLN] at HS HE ⊢
   clear HX HALL2 kw0 hgb hhd hPP hrow b4 hmo hln hbk hLL hi hZ hLN
   go_wp2_with fail
   refine HS.mono ?_
   rintro e w8 ⟨rfl,rfl⟩
   clear HS
   go_wp2_with fail
   refine HE.mono ?_
   rintro e w9 ⟨v',rfl,h1,h2⟩
   clear HE
   obtain ⟨kw0,kwr⟩:=(show Kb 0 w W0∧Kb 0 W0 w8 from HF)
   have HN:Hid (w9.ownsRow w.heap.size 5 1 v' P.length (bvs P)∧Kb 0 w w9):=(⟨own_base h1 kw0.size,kw0.trans (h2.kb kwr)⟩:_∧_)
   clear h1 h2 kw0 kwr HF
   go_wp2_with fail
   go_ret
   exact ⟨_,rfl,HN⟩
  have hI:(i:Int) < (m:Int):=by omega
  obtain ⟨AN,rfl,hcn,-,hra⟩:=hrow (by omega)
  obtain ⟨vc,⟨y0,y1⟩,⟨pc,cc,rfl,hvc⟩⟩:=hra i hi
  replace y0:=hmo.2.cell y0
  replace y1:=hmo.2.cell y1
  obtain ⟨f,hf⟩:∃ f,f=D i:=⟨_,rfl⟩
  have hnop:=hgb.hD i hi
  rw [← hf] at y0 y1 hvc hnop
  obtain ⟨W8,hW8⟩:∃ W8,W8=wr.alloc (.cells #[.int .i64 f.t,.slice pc f.c cc] 50):=⟨_,rfl⟩
  have k8:Kb 0 wr W8:=by rw [hW8];exact kb_alloc _ _ _
  have b8:W8.heap[wr.heap.size]? = some (.cells #[.int .i64 f.t,.slice pc f.c cc] 50 (0,0)):=by rw [hW8];exact alloc_new _ _ _
  have HM3:=mo_num f.t.toNat W8 (hmo.kb k8) (by omega) (by have:=hnop.t1;omega)
  have htt:IntKind.u64.wrap f.t=((f.t.toNat:Nat):Int):=by rw [wrap_u64];have:=hnop.t0;have:=hnop.t1;omega
  have hfc:IntKind.u64.wrap (f.c:Int)=(f.c:Int):=by rw [wrap_u64];have:=hnop.c;omega
  have hfcI:(f.c:Int)≤300:=by have:=hnop.c;omega
  obtain ⟨TT,hTT⟩:∃ TT:Int,TT=((f.t.toNat:Nat):Int):=⟨_,rfl⟩
  rw [← hTT] at HM3 htt
  obtain ⟨L0,hL0⟩:∃ L0,L0=hd ++ cat (fun k=>ndl (D k)) i:=⟨_,rfl⟩
  rw [← hL0] at HM3 hln
  have c0:W8.cell? ⟨wr.heap.size,0,none⟩=some (.int .i64 f.t):=cell_of b8 rfl
  have HW8:Hid (W8=wr.alloc (.cells #[.int .i64 f.t,.slice pc f.c cc] 50)):=hW8
  have hlo:wr.heap.size < W8.heap.size:=by rw [hW8,World.size_alloc];omega
  have HB8:Hid (W8.heap[wr.heap.size]? = some (.cells #[.int .i64 f.t,.slice pc f.c cc] 50 (0,0))∧wr.heap.size < W8.heap.size∧Nop f∧L0.length≤721997000∧(0 < f.c→∃ a:Addr,pc=some a∧f.c≤cc∧0≤a.block∧∀ j,j < f.c→ValC 0 W0 (a.add (j*4)) (f.C j))∧f=D i∧L0=hd ++ cat (fun k=>ndl (D k)) i∧i < m∧Gb A m D):=(⟨b8,hlo,hnop,hln,hvc,hf,hL0,hi,hgb⟩:_∧_)
  rw [← hL0] at HX ⊢
  clear HX kw0 hgb hhd hPP hrow b4 hmo hln hcn hra hvc hnop hW8 k8 b8 hlo hTT hf hL0
  go_upto_region 8 with fail
  rw [← (show W8 = _ from HW8)]
  clear HW8 y0 y1
  go_wp2_with fail
  refine HM3.mono ?_
  rintro e w9 ⟨u3,rfl,hmo,kx9⟩
  clear HM3 c0 htt
  obtain ⟨b8,hlo,hnop,hln,hvc,hf,hL0,hi',hgb⟩:=(show W8.heap[wr.heap.size]? = some (.cells #[.int .i64 f.t,.slice pc f.c cc] 50 (0,0))∧wr.heap.size < W8.heap.size∧Nop f∧L0.length≤721997000∧(0 < f.c→∃ a:Addr,pc=some a∧f.c≤cc∧0≤a.block∧∀ j,j < f.c→ValC 0 W0 (a.add (j*4)) (f.C j))∧f=D i∧L0=hd ++ cat (fun k=>ndl (D k)) i∧i < m∧Gb A m D from HB8)
  have b9:w9.heap[wr.heap.size]? = some (.cells #[.int .i64 f.t,.slice pc f.c cc] 50 (0,0)):=(kx9.nt _ _ _ b8 (by decide)).trans b8
  have c1:w9.cell? ⟨wr.heap.size,1,none⟩=some (.slice pc f.c cc):=cell_of b9 rfl
  have hn10:=numb_ten (n:=f.t.toNat) (by have:=hnop.t1;omega)
  obtain ⟨La,hLa⟩:∃ La,La=L0 ++ numb f.t.toNat:=⟨_,rfl⟩
  have hlna:La.length≤721997010:=by rw [hLa,List.length_append];omega
  rw [← hLa] at hmo
  have HLA:Hid (La=L0 ++ numb f.t.toNat∧La.length≤721997010):=(⟨hLa,hlna⟩:_∧_)
  have HM4:=mo_num f.c w9 hmo (by omega) (by have:=hnop.c;omega)
  have HB9:Hid (w9.heap[wr.heap.size]? = some (.cells #[.int .i64 f.t,.slice pc f.c cc] 50 (0,0))):=b9
  obtain ⟨pu4,cu4,rfl⟩:=hmo.shape
  clear b8 hlo hnop hln hvc hf hL0 hi' hgb b9 hmo kx9 hn10 hLa hlna
  go_wp2_with fail
  refine HM4.mono ?_
  rintro e wx ⟨u5,rfl,hmo,kx10⟩
  clear HM4 c1 hfc
  obtain ⟨b8,hlo,hnop,hln,hvc,hf,hL0,hi',hgb⟩:=(show W8.heap[wr.heap.size]? = some (.cells #[.int .i64 f.t,.slice pc f.c cc] 50 (0,0))∧wr.heap.size < W8.heap.size∧Nop f∧L0.length≤721997000∧(0 < f.c→∃ a:Addr,pc=some a∧f.c≤cc∧0≤a.block∧∀ j,j < f.c→ValC 0 W0 (a.add (j*4)) (f.C j))∧f=D i∧L0=hd ++ cat (fun k=>ndl (D k)) i∧i < m∧Gb A m D from HB8)
  have b9:=(show w9.heap[wr.heap.size]? = _ from HB9)
  have bx:wx.heap[wr.heap.size]? = some (.cells #[.int .i64 f.t,.slice pc f.c cc] 50 (0,0)):=(kx10.nt _ _ _ b9 (by decide)).trans b9
  have c1:wx.cell? ⟨wr.heap.size,1,none⟩=some (.slice pc f.c cc):=cell_of bx rfl
  obtain ⟨L1,hL1⟩:∃ L1,L1=La ++ numb f.c:=⟨_,rfl⟩
  rw [← hL1] at hmo
  obtain ⟨hLa,hlna⟩:=(show La=L0 ++ numb f.t.toNat∧La.length≤721997010 from HLA)
  have hln1:L1.length≤721998000:=by
   have:=numb_ten (n:=f.c) (by have:=hnop.c;omega)
   rw [hL1,List.length_append]
   omega
  have HMX:Hid (MO W0 u5 L1 wx):=hmo
  have HB10:Hid (L1.length≤721998000∧L1=(L0 ++ numb f.t.toNat) ++ numb f.c):=(⟨hln1,by rw [hL1,hLa]⟩:_∧_)
  obtain ⟨pu5,cu5,hu5⟩:=hmo.shape
  subst hu5
  try rw [← hL1]
  clear b8 hlo hnop hln hvc hf hL0 hi' hgb b9 bx hmo kx10 HB9 hln1 hL1 hLa hlna HLA
  go_wp2_with fail
  clear c1
  obtain ⟨wo,rfl⟩:∃ wo,wo=wr:=⟨_,rfl⟩
  go_loopw [4,43] (fun s4 s43 wr=>∃ j:Nat,s43 = .int .i64 (j:Int)∧j≤f.c∧Hid (MO W0 s4 (L1 ++ cat (fun q=>pvl (f.C q)) j) wr)) (fun _ s43 _=>f.c - (intOf s43).toNat)
  case atStart=>exact ⟨0,rfl,Nat.zero_le _,(by rw [show cat (fun q=>pvl (f.C q)) 0 = [] from rfl,List.append_nil];exact HMX:MO W0 _ _ wx)⟩
  case round =>
   clear HMX
   obtain ⟨j,rfl,hj0,HX2⟩:=hrel
   have hmo:=(show MO W0 _ (L1 ++ cat (fun q=>pvl (f.C q)) j) wr from HX2)
   obtain ⟨b8,hlo,hnop,hln,hvc,hf,hL0,hi',hgb⟩:=(show W8.heap[wo.heap.size]? = some (.cells #[.int .i64 f.t,.slice pc f.c cc] 50 (0,0))∧wo.heap.size < W8.heap.size∧Nop f∧L0.length≤721997000∧(0 < f.c→∃ a:Addr,pc=some a∧f.c≤cc∧0≤a.block∧∀ j,j < f.c→ValC 0 W0 (a.add (j*4)) (f.C j))∧f=D i∧L0=hd ++ cat (fun k=>ndl (D k)) i∧i < m∧Gb A m D from HB8)
   obtain ⟨hln1,hL1⟩:=(show L1.length≤721998000∧L1=(L0 ++ numb f.t.toNat) ++ numb f.c from HB10)
   obtain ⟨pu6,cu6,hu6⟩:=hmo.shape
   subst hu6
   rcases Nat.lt_or_ge j f.c with hj | hj
   case inr =>
    obtain rfl:j=f.c:=by omega
    have hI':¬ (f.c:Int) < (f.c:Int):=by omega
    have e:L1 ++ cat (fun q=>pvl (f.C q)) f.c=hd ++ cat (fun k=>ndl (D k)) (i+1):=by
     show _=hd ++ (cat (fun k=>ndl (D k)) i ++ ndl (D i))
     rw [hL1,hL0,← hf]
     unfold ndl
     simp only [List.append_assoc]
    rw [e] at hmo ⊢
    have HN:Hid (MO W0 (.slice pu6 (hd ++ cat (fun k=>ndl (D k)) (i+1)).length cu6) (hd ++ cat (fun k=>ndl (D k)) (i+1)) wr):=hmo
    clear HX2 b8 hlo hnop hln hvc hf hL0 hi' hgb hln1 hL1 HB8 HB10 hj hmo e
    go_wp2_with fail
    go_roundw
    case rel=>exact ⟨i+1,by go_num,by omega,by first | exact HN | (rw [← List.length_append];exact HN)⟩
    case measure=>simp [intOf];omega
   have hI':(j:Int) < (f.c:Int):=by omega
   obtain ⟨AC,rfl,hcc',-,hrc⟩:=hvc (by omega)
   obtain ⟨z0,z1,z2,z3⟩:=hrc j hj
   obtain ⟨x,hx⟩:∃ x,x=f.C j:=⟨_,rfl⟩
   replace z0:=hmo.2.cell z0
   replace z1:=hmo.2.cell z1
   replace z2:=hmo.2.cell z2
   replace z3:=hmo.2.cell z3
   rw [← hx] at z0 z1 z2 z3
   obtain ⟨Wy,hWy⟩:∃ Wy,Wy=wr.alloc (.cells #[.int .i64 x.k,.int .i64 x.m,.string x.x,.int .i64 x.r] 41):=⟨_,rfl⟩
   have ky:Kb 0 wr Wy:=by rw [hWy];exact kb_alloc _ _ _
   have by':Wy.heap[wr.heap.size]? = some (.cells #[.int .i64 x.k,.int .i64 x.m,.string x.x,.int .i64 x.r] 41 (0,0)):=by rw [hWy];exact alloc_new _ _ _
   have a0:Wy.cell? ⟨wr.heap.size,0,none⟩=some (.int .i64 x.k):=cell_of by' rfl
   have a1:Wy.cell? ⟨wr.heap.size,1,none⟩=some (.int .i64 x.m):=cell_of by' rfl
   have a2:Wy.cell? ⟨wr.heap.size,2,none⟩=some (.string x.x):=cell_of by' rfl
   have a3:Wy.cell? ⟨wr.heap.size,3,none⟩=some (.int .i64 x.r):=cell_of by' rfl
   obtain ⟨L2,hL2⟩:∃ L2,L2=L1 ++ cat (fun q=>pvl (f.C q)) j:=⟨_,rfl⟩
   have hln2:L2.length≤800000000:=by
    have:=gb_node hgb hi' j (by rw [← hf];omega)
    rw [← hf] at this
    rw [hL2,List.length_append]
    omega
   rw [← hL2] at hmo HX2 ⊢
   have HM6:=mo_val (x:=x) Wy (hmo.kb ky) (by omega) (by rw [hx];exact (hnop.v j hj).1)
   have HE2:Hid (L2 ++ pvl x=L1 ++ cat (fun q=>pvl (f.C q)) (j+1)):=(by
    show _=L1 ++ (cat (fun q=>pvl (f.C q)) j ++ pvl (f.C j))
    rw [hL2,hx,List.append_assoc]:L2 ++ pvl x = _)
   have HWy:Hid (Wy=wr.alloc (.cells #[.int .i64 x.k,.int .i64 x.m,.string x.x,.int .i64 x.r] 41)):=hWy
   clear HX2 b8 hlo hnop hln hvc hf hL0 hi' hgb hln1 hL1 hmo hcc' hrc hx hWy ky by' hL2 hln2
   go_upto_region 13 with fail
   rw [← (show Wy = _ from HWy)]
   clear HWy z0 z1 z2 z3
   go_wp2_with fail
   refine HM6.mono ?_
   rintro e wz ⟨u7,rfl,hmo,-⟩
   rw [show L2 ++ pvl x = _ from HE2] at hmo
   have HN:Hid (MO W0 u7 (L1 ++ cat (fun q=>pvl (f.C q)) (j+1)) wz):=hmo
   obtain ⟨pu7,cu7,hu7⟩:=hmo.shape
   subst hu7
   clear HM6 HE2 hmo a0 a1 a2 a3
   go_wp2_with fail
   go_roundw
   case rel=>exact ⟨j+1,by go_num,by omega,by first | exact HN | (rw [← List.length_append];exact HN)⟩
   case measure=>simp [intOf];omega
theorem pfl_len {n:Nat} {F:Nat→Td} {a:Gv} (hG:Gok n F a) (hr:Rg n F a):(pfl n F a).length≤800000000:=by
 have hgb:=gb_of hG hr
 have h1:=gb_head hgb
 have h2:=gb_nodes hgb _ (Nat.le_refl _)
 unfold pfl pbd gbl
 rw [List.length_append,eig_len,← List.append_assoc,List.length_append]
 omega
theorem sp_pack {a : Gv} {vn : Value} {n : Nat} {F : Nat → Td} (w : World) (ha : RowT 0 w vn n F) (hb : Bg n F a) (hrg : Rg n F a) :
  Calls Try.prog 31 #[grv a vn] w fun e w'=>∃ v,e = .returned v∧w'.ownsRow w.heap.size 5 1 v (pck n F a).length (bvs (pck n F a))∧Kb 0 w w':=by
 obtain ⟨pn,cn,rfl,ha2⟩:=id ha
 clear ha2
 obtain ⟨w2,hw2⟩:∃ w2,w2=w.alloc (.cells #[.int .i64 a.k,.int .i64 a.m,.string a.x,.int .i64 a.r,.slice pn n cn] 44):=⟨_,rfl⟩
 have k2:Kb 0 w w2:=by rw [hw2];exact kb_alloc _ _ _
 have z2:w2.heap.size=w.heap.size+1:=by rw [hw2];simp
 have b0:w2.heap[w.heap.size]? = some (.cells #[.int .i64 a.k,.int .i64 a.m,.string a.x,.int .i64 a.r,.slice pn n cn] 44 (0,0)):=by rw [hw2];exact alloc_new _ _ _
 have HW2:Hid (w2=w.alloc (.cells #[.int .i64 a.k,.int .i64 a.m,.string a.x,.int .i64 a.r,.slice pn n cn] 44)):=hw2
 have v0:w2.cell? ⟨w.heap.size,0,none⟩=some (.int .i64 a.k):=cell_of b0 rfl
 have v1:w2.cell? ⟨w.heap.size,1,none⟩=some (.int .i64 a.m):=cell_of b0 rfl
 have v2:w2.cell? ⟨w.heap.size,2,none⟩=some (.string a.x):=cell_of b0 rfl
 have v3:w2.cell? ⟨w.heap.size,3,none⟩=some (.int .i64 a.r):=cell_of b0 rfl
 have v4:w2.cell? ⟨w.heap.size,4,none⟩=some (.slice pn n cn):=cell_of b0 rfl
 have hg2:=sp_gok w2 (ha.keep k2) hb
 have HGK:Hid (Calls Try.prog 38 #[.agg #[.int .i64 a.k,.int .i64 a.m,.string a.x,.int .i64 a.r,.slice pn n cn]] w2 fun e w'=>e = .returned (.bool (dc (Gok n F a)))∧Kb 0 w2 w'):=hg2
 have HB:Hid (Kb 0 w w2∧w2.heap.size=w.heap.size+1∧w2.heap[w.heap.size]? = some (.cells #[.int .i64 a.k,.int .i64 a.m,.string a.x,.int .i64 a.r,.slice pn n cn] 44 (0,0))∧RowT 0 w (.slice pn n cn) n F∧Bg n F a∧Rg n F a):=(⟨k2,z2,b0,ha,hb,hrg⟩:_∧_)
 obtain ⟨P,hP⟩:∃ P,P=pck n F a:=⟨_,rfl⟩
 rw [← hP]
 have HPP:Hid (P=pck n F a):=hP
 clear k2 z2 b0 hw2 ha hb hg2 hrg hP
 unfold grv
 go_enter Try.func31,Try.ntmps31
 go_upto_region 1 with fail
 rw [← (show w2 = _ from HW2)]
 clear HW2
 go_wp2_with fail
 refine (show Calls Try.prog 38 _ w2 _ from HGK).mono ?_
 rintro e w3 ⟨rfl,k3⟩
 clear HGK v0 v1 v2 v3 v4
 obtain ⟨k2,z2,b0,ha,hb,hrg⟩:=(show Kb 0 w w2∧w2.heap.size=w.heap.size+1∧w2.heap[w.heap.size]? = some (.cells #[.int .i64 a.k,.int .i64 a.m,.string a.x,.int .i64 a.r,.slice pn n cn] 44 (0,0))∧RowT 0 w (.slice pn n cn) n F∧Bg n F a∧Rg n F a from HB)
 have kw3:=k2.trans k3
 by_cases hG:Gok n F a
 case neg =>
  rw [dc_f hG]
  obtain rfl:P = []:=(show P = _ from HPP).trans (by unfold pck;rw [dc_f (fun q=>hG q.1)];rfl)
  have HK:Hid (Kb 0 w w3):=kw3
  clear HB HPP hG k2 z2 b0 ha hb hrg k3 kw3
  go_wp2_with fail
  go_ret
  exact ⟨_,rfl,World.ownsRow_nil _ _ _ _,HK⟩
 rw [dc_t hG]
 have g3:=(k3.block w.heap.size (Nat.zero_le _) (by omega)).trans b0
 have v0:w3.cell? ⟨w.heap.size,0,none⟩=some (.int .i64 a.k):=cell_of g3 rfl
 have v1:w3.cell? ⟨w.heap.size,1,none⟩=some (.int .i64 a.m):=cell_of g3 rfl
 have v2:w3.cell? ⟨w.heap.size,2,none⟩=some (.string a.x):=cell_of g3 rfl
 have v3:w3.cell? ⟨w.heap.size,3,none⟩=some (.int .i64 a.r):=cell_of g3 rfl
 have v4:w3.cell? ⟨w.heap.size,4,none⟩=some (.slice pn n cn):=cell_of g3 rfl
 have hlen:=pfl_len hG hrg
 have hpk:=sp_pack0 w3 (ha.keep kw3) hb hG hrg
 obtain ⟨Q,hQ⟩:∃ Q,Q=pfl n F a:=⟨_,rfl⟩
 rw [← hQ] at hpk hlen
 have hPQ:P=if Q.length≤8192 then Q else []:=by
  rw [show P = _ from HPP]
  unfold pck
  rw [← hQ]
  by_cases q:Q.length≤8192
  ·rw [dc_t ⟨hG,q⟩,if_pos rfl,if_pos q]
  ·rw [dc_f (fun z=>q z.2),if_neg q];rfl
 have HC:Hid (Calls Try.prog 39 #[.agg #[.int .i64 a.k,.int .i64 a.m,.string a.x,.int .i64 a.r,.slice pn n cn]] w3 fun e w'=>∃ v,e = .returned v∧w'.ownsRow w3.heap.size 5 1 v Q.length (bvs Q)∧Kb 0 w3 w'):=hpk
 have HK3:Hid (Kb 0 w w3∧P=if Q.length≤8192 then Q else []):=(⟨kw3,hPQ⟩:_∧_)
 have hQI:(Q.length:Int)≤800000000:=by omega
 clear HB HPP hG k2 z2 b0 ha hb hrg k3 kw3 g3 hlen hpk hQ hPQ
 go_wp2_with fail
 refine (show Calls Try.prog 39 _ w3 _ from HC).mono ?_
 rintro e w4 ⟨v,rfl,h1,k4⟩
 clear HC v0 v1 v2 v3 v4
 obtain ⟨kw3,hPQ⟩:=(show Kb 0 w w3∧P=if Q.length≤8192 then Q else [] from HK3)
 obtain ⟨p,c,rfl⟩:=own_shape h1
 obtain ⟨N,hN⟩:∃ N,N=Q.length:=⟨_,rfl⟩
 rw [← hN] at hQI
 by_cases q:Q.length≤8192
 ·rw [if_pos q] at hPQ
  have HN:Hid (w4.ownsRow w.heap.size 5 1 (.slice p Q.length c) P.length (bvs P)∧Kb 0 w w4):=(⟨by rw [hPQ];exact own_base h1 kw3.size,kw3.trans k4⟩:_∧_)
  rw [← hN] at HN q ⊢
  have hqI:¬ (8192:Int) < (N:Int):=by omega
  clear h1 k4 kw3 hPQ HK3 hN q
  go_wp2_with fail
  go_ret
  exact ⟨_,rfl,HN⟩
 ·rw [if_neg q] at hPQ
  obtain rfl:=hPQ
  have HN:Hid (Kb 0 w w4):=kw3.trans k4
  rw [← hN] at q ⊢
  have hqI:(8192:Int) < (N:Int):=by omega
  clear h1 k4 kw3 HK3 hN q
  go_wp2_with fail
  go_ret
  exact ⟨_,rfl,World.ownsRow_nil _ _ _ _,HN⟩
def StP (k f l:Int) (n:Nat):Prop:=0≤f∧f < 300∧((k=1∧1≤l∧l≤100000∧n=0)∨(k=2∧l=0∧n=0)∨(k=3∧l=0∧0 < n∧n≤40)∨(k=4∧f=0∧l=0∧n=0))
theorem se_t {s:ByteArray} (h:s.size=0):s = { data:=#[] }:=by
 obtain ⟨⟨d⟩⟩:=s
 cases d with
 | nil=>rfl
 | cons a l=>simp [ByteArray.size] at h
theorem se_f {s:ByteArray} (h:¬ s.size=0):¬ s.toList = []:=by
 rw [Lib.toList_data]
 intro e
 apply h
 show s.data.size=0
 rw [← Array.length_toList,e]
 rfl
theorem se_e {s:ByteArray} (h:¬ s.size=0):s.toList.isEmpty=false:=by
 cases e:s.toList with
 | nil=>exact absurd e (se_f h)
 | cons a l=>rfl
theorem sp_stop {k f l : Int} {s : ByteArray} (w : World) (hs' : (s.size : Int) ≤ 9223372036854775807) :
  Calls Try.prog 77 #[.agg #[.int .i64 k,.int .i64 f,.int .i64 l,.string s]] w fun e w'=>e = .returned (.bool (dc (StP k f l s.size)))∧Kb 0 w w':=by
 by_cases h1:f < 0
 ·rw [dc_f (fun q=>by have:=q.1;omega)]
  go_enter Try.func77,Try.ntmps77
  go_wp2_with fail
  go_ret
  exact ⟨rfl,kb_alloc _ _ _⟩
 by_cases h2 : 300≤f
 ·rw [dc_f (fun q=>by have:=q.2.1;omega)]
  go_enter Try.func77,Try.ntmps77
  go_wp2_with fail
  go_ret
  exact ⟨rfl,kb_alloc _ _ _⟩
 obtain ⟨n,hn⟩:∃ n,n=s.size:=⟨_,rfl⟩
 rw [← hn]
 by_cases k1:k=1
 ·subst k1
  by_cases l1 : 1≤l
  rotate_left
  ·rw [dc_f (fun q=>by have:=q.2.2;omega)]
   go_enter Try.func77,Try.ntmps77
   go_wp2_with fail
   go_ret
   exact ⟨rfl,kb_alloc _ _ _⟩
  by_cases l2:l≤100000
  rotate_left
  ·rw [dc_f (fun q=>by have:=q.2.2;omega)]
   go_enter Try.func77,Try.ntmps77
   go_wp2_with fail
   go_ret
   exact ⟨rfl,kb_alloc _ _ _⟩
  by_cases n1:n=0
  rotate_left
  ·rw [dc_f (fun q=>by have:=q.2.2;omega)]
   have es:=se_e (s:=s) (by omega)
   clear hn n1
   go_enter Try.func77,Try.ntmps77
   go_wp2_with fail
   go_ret
   exact ⟨rfl,kb_alloc _ _ _⟩
  ·rw [dc_t ⟨by omega,by omega,.inl ⟨rfl,l1,l2,n1⟩⟩]
   have es:=se_t (s:=s) (by omega)
   subst es
   clear hn n1
   go_enter Try.func77,Try.ntmps77
   go_wp2_with fail
   go_ret
   exact ⟨rfl,kb_alloc _ _ _⟩
 by_cases k2:k=2
 ·subst k2
  by_cases l1:l=0
  rotate_left
  ·rw [dc_f (fun q=>by have:=q.2.2;omega)]
   have el:(l == 0)=false:=by simp;omega
   go_enter Try.func77,Try.ntmps77
   go_wp2_with fail
   go_ret
   exact ⟨rfl,kb_alloc _ _ _⟩
  subst l1
  by_cases n1:n=0
  rotate_left
  ·rw [dc_f (fun q=>by have:=q.2.2;omega)]
   have es:=se_e (s:=s) (by omega)
   clear hn n1
   go_enter Try.func77,Try.ntmps77
   go_wp2_with fail
   go_ret
   exact ⟨rfl,kb_alloc _ _ _⟩
  ·rw [dc_t ⟨by omega,by omega,.inr (.inl ⟨rfl,rfl,n1⟩)⟩]
   have es:=se_t (s:=s) (by omega)
   subst es
   clear hn n1
   go_enter Try.func77,Try.ntmps77
   go_wp2_with fail
   go_ret
   exact ⟨rfl,kb_alloc _ _ _⟩
 by_cases k3:k=3
 ·subst k3
  by_cases l1:l=0
  rotate_left
  ·rw [dc_f (fun q=>by have:=q.2.2;omega)]
   have el:(l == 0)=false:=by simp;omega
   go_enter Try.func77,Try.ntmps77
   go_wp2_with fail
   go_ret
   exact ⟨rfl,kb_alloc _ _ _⟩
  subst l1
  by_cases n1:n=0
  ·rw [dc_f (fun q=>by have:=q.2.2;omega)]
   have es:¬ (0:Int) < (s.size:Int):=by omega
   have es2:s.size=0:=by omega
   clear hn n1
   go_enter Try.func77,Try.ntmps77
   go_wp2_with fail
   go_ret
   exact ⟨rfl,kb_alloc _ _ _⟩
  have es:(0:Int) < (s.size:Int):=by omega
  have es3 : 0 < s.size:=by omega
  by_cases n2:n≤40
  rotate_left
  ·rw [dc_f (fun q=>by have:=q.2.2;omega)]
   have es2:¬ (s.size:Int)≤40:=by omega
   clear hn n1 n2
   go_enter Try.func77,Try.ntmps77
   go_wp2_with fail
   go_ret
   exact ⟨rfl,kb_alloc _ _ _⟩
  ·rw [dc_t ⟨by omega,by omega,.inr (.inr (.inl ⟨rfl,rfl,by omega,n2⟩))⟩]
   have es2:(s.size:Int)≤40:=by omega
   clear hn n1 n2
   go_enter Try.func77,Try.ntmps77
   go_wp2_with fail
   go_ret
   exact ⟨rfl,kb_alloc _ _ _⟩
 by_cases k4:k=4
 ·subst k4
  by_cases f1:f=0
  rotate_left
  ·rw [dc_f (fun q=>by have:=q.2.2;omega)]
   have el:(f == 0)=false:=by simp;omega
   go_enter Try.func77,Try.ntmps77
   go_wp2_with fail
   go_ret
   exact ⟨rfl,kb_alloc _ _ _⟩
  subst f1
  by_cases l1:l=0
  rotate_left
  ·rw [dc_f (fun q=>by have:=q.2.2;omega)]
   have el:(l == 0)=false:=by simp;omega
   go_enter Try.func77,Try.ntmps77
   go_wp2_with fail
   go_ret
   exact ⟨rfl,kb_alloc _ _ _⟩
  subst l1
  by_cases n1:n=0
  rotate_left
  ·rw [dc_f (fun q=>by have:=q.2.2;omega)]
   have es:=se_e (s:=s) (by omega)
   clear hn n1
   go_enter Try.func77,Try.ntmps77
   go_wp2_with fail
   go_ret
   exact ⟨rfl,kb_alloc _ _ _⟩
  ·rw [dc_t ⟨by omega,by omega,.inr (.inr (.inr ⟨rfl,rfl,rfl,n1⟩))⟩]
   have es:=se_t (s:=s) (by omega)
   subst es
   clear hn n1
   go_enter Try.func77,Try.ntmps77
   go_wp2_with fail
   go_ret
   exact ⟨rfl,kb_alloc _ _ _⟩
 rw [dc_f (fun q=>by have:=q.2.2;omega)]
 have e1:(k == 1)=false:=by simp;omega
 have e2:(k == 2)=false:=by simp;omega
 have e3:(k == 3)=false:=by simp;omega
 have e4:(k == 4)=false:=by simp;omega
 clear hn
 go_enter Try.func77,Try.ntmps77
 go_wp2_with fail
 go_ret
 exact ⟨rfl,kb_alloc _ _ _⟩
end Go.Proofs.Ytamcnmnaadpfoaa.Fo
