import Derived.Test.YtamcnmnaadpfoaaFJra
set_option maxHeartbeats 32000000
namespace Go.Proofs.Ytamcnmnaadpfoaa.Fo
open Go.ChangeShapes Go.WideShapes Go.ChangeAt Go.RowKit
set_option linter.unusedVariables false
set_option maxRecDepth 100000
def zat (F:Nat→Td) (k j:Nat):Gv:=if j < (F k).c then (F k).C j else z0v
def stF (F:Nat→Td) (k:Nat):Gv:=⟨(zat F k 0).m,(zat F k 1).m,(zat F k 3).x,(zat F k 2).m⟩
def jpF (F:Nat→Td):Jd:=⟨(F 1).c,fun i=>(zat F 1 i).x,(zat F 0 0).m,(zat F 0 1).m,(F 2).c,fun i=>stF F (zat F 2 i).r.toNat⟩
theorem stG_F (a:Gv) (ys:List (Int × List Gv)) (k:Nat):stG (vsG (a,ys) k)=stF (TF ys) k:=by
 unfold stG stF zat
 rw [atv,atv,atv,atv]
theorem jp_F (a:Gv) (ys:List (Int × List Gv)):jp (a,ys)=jpF (TF ys):=by
 unfold jp jpF
 have h1:(vsG (a,ys) 1).length=(TF ys 1).c:=rfl
 have h2:(vsG (a,ys) 2).length=(TF ys 2).c:=rfl
 rw [h1,h2,atv,atv]
 have h3:(fun i=>((vsG (a,ys) 1).getD i z0v).x)=fun i=>(zat (TF ys) 1 i).x:=funext (fun i=>by rw [atv];rfl)
 have h4:(fun i=>stG (vsG (a,ys) ((vsG (a,ys) 2).getD i z0v).r.toNat))=fun i=>stF (TF ys) (zat (TF ys) 2 i).r.toNat:=funext (fun i=>by rw [stG_F,atv];rfl)
 rw [h3,h4]
 rfl
theorem im_jin {a : Gv} {pn : Option Addr} {cn N : Nat} {ys : List (Int × List Gv)} (w : World) (eN : ys.length = N) (hr : RowT 0 w (.slice pn N cn) ys.length (TF ys)) (hg : Gok ys.length (TF ys) a) :
    Calls Try.prog 21 #[grv a (.slice pn N cn)] w fun e w'=>∃ v u,e = .returned (.agg #[v,.int .i64 (jpF (TF ys)).p,.int .i64 (jpF (TF ys)).q,u])∧Jx (jpF (TF ys)) w.heap.size w' v u∧Kb 0 w w':=by
  obtain ⟨w2,hw2⟩:∃ w2,w2=(w.alloc (.cells #[.int .i64 a.k,.int .i64 a.m,.string a.x,.int .i64 a.r,.slice pn N cn] 44)).alloc (.cells #[.slice none 0 0,.int .i64 0,.int .i64 0,.slice none 0 0] 26):=⟨_,rfl⟩
  have k2:Kb 0 w w2:=by rw [hw2];exact kb_alloc2 _ _ _ _
  have z2:w2.heap.size=w.heap.size+2:=by rw [hw2];simp
  have b0:w2.heap[w.heap.size]? = some (.cells #[.int .i64 a.k,.int .i64 a.m,.string a.x,.int .i64 a.r,.slice pn N cn] 44 (0,0)):=by
    rw [hw2,(kb_alloc 0 _ _).block _ (Nat.zero_le _) (by rw [World.size_alloc];omega)]
    exact alloc_new _ _ _
  have b1:w2.heap[w.heap.size+1]? = some (.cells #[.slice none 0 0,.int .i64 0,.int .i64 0,.slice none 0 0] 26 (0,0)):=by
    have e:(w.alloc (.cells #[.int .i64 a.k,.int .i64 a.m,.string a.x,.int .i64 a.r,.slice pn N cn] 44)).heap.size=w.heap.size+1:=World.size_alloc _ _
    rw [hw2,← e]
    exact alloc_new _ _ _
  have g4:w2.cell? ⟨w.heap.size,4,none⟩=some (.slice pn N cn):=cell_of b0 rfl
  obtain ⟨X,hXe⟩:∃ X,X=w2.heap.size:=⟨_,rfl⟩
  obtain ⟨w3,hw3⟩:∃ w3,w3=w2.alloc (.cells #[.slice pn N cn] 81):=⟨_,rfl⟩
  have k3:Kb 0 w2 w3:=by rw [hw3];exact kb_alloc _ _ _
  have b3:w3.heap[X]? = some (.cells #[.slice pn N cn] 81 (0,0)):=by rw [hw3,hXe];exact alloc_new _ _ _
  have hN6:=hg.1
  have HV:Hid (∀ W (k:Nat) (x:Int),Kb 0 w3 W→x=(k:Int)→(k:Int)≤1048576→Calls Try.prog 43 #[.int .i64 x,.pointer (some ⟨X,0,none⟩)] W fun e w'=>∃ pc cc,e = .returned (.agg #[.slice pc (TF ys k).c cc])∧RowW 0 w (.slice pc (TF ys k).c cc) (TF ys k).c (TF ys k).C∧Kb 0 W w'):=(fun W k x kw hx hk=>by
    rw [hx]
    exact im_vals W ((k2.trans k3).trans kw) (cell_of (blk_kb b3 kw) rfl) hr (by omega) hk:∀ W (k:Nat) (x:Int),_)
  have HC:Hid (∀ k,(TF ys k).c≤300∧∀ j,j < (TF ys k).c→0≤((TF ys k).C j).r∧((TF ys k).C j).r≤600):=(fun k=>by
    rcases Nat.lt_or_ge k ys.length with h | h
    · obtain ⟨⟨_,_,hc⟩,hv⟩:=hg.2.2 k h
      refine ⟨hc,fun j hj=>?_⟩
      rcases hv j hj with q | q | q | q
      · rw [q.2.2.2];omega
      · rw [q.2.2];omega
      · rw [q.2.2.1];omega
      · have:=q.2.2.2;omega
    · have hz : TF ys k = ⟨0, 0, fun i => ([] : List Gv).getD i default⟩ := by
        unfold TF
        rw [List.getD_eq_getElem?_getD,List.getElem?_eq_none h]
        rfl
      rw [hz]
      exact ⟨Nat.zero_le _,fun j hj=>absurd hj (Nat.not_lt_zero _)⟩:∀ k,_)
  have H3:Hid (Kb 0 w w3∧w3.heap[w.heap.size+1]? = some (.cells #[.slice none 0 0,.int .i64 0,.int .i64 0,.slice none 0 0] 26 (0,0))∧w3.heap.size=w.heap.size+3):=(⟨k2.trans k3,blk_kb b1 k3,by rw [hw3];simp;omega⟩:_∧_)
  have HW2:Hid (w2=(w.alloc (.cells #[.int .i64 a.k,.int .i64 a.m,.string a.x,.int .i64 a.r,.slice pn N cn] 44)).alloc (.cells #[.slice none 0 0,.int .i64 0,.int .i64 0,.slice none 0 0] 26)):=hw2
  have HW3:Hid (w3=w2.alloc (.cells #[.slice pn N cn] 81)∧X=w2.heap.size):=(⟨hw3,hXe⟩:_∧_)
  clear hr hw2 k2 z2 b0 b1 hw3 k3 b3 hXe hN6 eN hg
  generalize TF ys=F at *
  unfold grv
  go_enter Try.func21,Try.ntmps21
  go_upto_region 1 with fail
  rw [← (show w2 = _ from HW2)]
  clear HW2
  go_upto_region 2 with fail
  rw [← (show _∧_ from HW3).1,← (show _∧_ from HW3).2]
  clear HW3 g4
  have HV0:=(show ∀ W (k:Nat) (x:Int),_ from HV) w3 0 0 (Kb.refl _ _) rfl (by omega)
  go_wp2_with fail
  refine HV0.mono ?_
  rintro e w4 ⟨q0,d0,rfl,r0,k4⟩
  clear HV0
  have HV1:=(show ∀ W (k:Nat) (x:Int),_ from HV) w4 1 1 k4 rfl (by omega)
  have K4:Hid (Kb 0 w3 w4):=k4
  clear k4
  go_wp2_with fail
  refine HV1.mono ?_
  rintro e w5 ⟨q1,d1,rfl,r1,k5⟩
  clear HV1
  have K5:Hid (Kb 0 w3 w5):=(show Kb 0 w3 w4 from K4).trans k5
  have HV2:=(show ∀ W (k:Nat) (x:Int),_ from HV) w5 2 2 K5 rfl (by omega)
  clear k5 K4
  go_wp2_with fail
  refine HV2.mono ?_
  rintro e w6 ⟨q2,d2,rfl,r2,k6⟩
  clear HV2
  have K6:Kb 0 w3 w6:=(show Kb 0 w3 w5 from K5).trans k6
  obtain ⟨A,hA⟩:∃ A,A=w6.heap.size:=⟨_,rfl⟩
  obtain ⟨w7,hw7⟩:∃ w7,w7=((w6.alloc (.cells #[.slice q0 (F 0).c d0] 83)).alloc (.cells #[.slice q1 (F 1).c d1] 83)).alloc (.cells #[.slice q2 (F 2).c d2] 83):=⟨_,rfl⟩
  obtain ⟨a0,a1,a2,z7,k7⟩:=three_new w6 _ _ _ _ _ _ w7 hw7
  rw [← hA] at a0 a1 a2
  have K7:Kb 0 w3 w7:=K6.trans k7
  have z6:=K6.size
  have HW7:Hid (w7=((w6.alloc (.cells #[.slice q0 (F 0).c d0] 83)).alloc (.cells #[.slice q1 (F 1).c d1] 83)).alloc (.cells #[.slice q2 (F 2).c d2] 83)∧A=w6.heap.size):=(⟨hw7,hA⟩:_∧_)
  have H7:Hid (w7.heap[A]? = some (.cells #[.slice q0 (F 0).c d0] 83 (0,0))∧w7.heap[A+1]? = some (.cells #[.slice q1 (F 1).c d1] 83 (0,0))∧w7.heap[A+1+1]? = some (.cells #[.slice q2 (F 2).c d2] 83 (0,0))∧Kb 0 w3 w7∧w3.heap.size≤A∧w7.heap.size=A+3):=(⟨a0,a1,a2,K7,by omega,by omega⟩:_∧_)
  have HR:Hid (RowW 0 w (.slice q0 (F 0).c d0) (F 0).c (F 0).C∧RowW 0 w (.slice q1 (F 1).c d1) (F 1).c (F 1).C∧RowW 0 w (.slice q2 (F 2).c d2) (F 2).c (F 2).C):=(⟨r0,r1,r2⟩:_∧_)
  have HAT:Hid (∀ W (j:Nat) (x:Int),Kb 0 w7 W→x=(j:Int)→(j:Int)≤1048576→Calls Try.prog 45 #[.pointer (some ⟨A,0,none⟩),.int .i64 x] W fun e w'=>e = .returned (.agg #[.int .i64 (zat F 0 j).k,.int .i64 (zat F 0 j).m,.string (zat F 0 j).x,.int .i64 (zat F 0 j).r])∧Kb 0 W w'):=(fun W j x k hx hj=>by
    rw [hx]
    exact at_val W (cell_of (blk_kb a0 k) rfl) (r0.keep (((show Kb 0 w w3∧_ from H3).1.trans K7).trans k)) (by have:=((show ∀ k,_ from HC) 0).1;omega) hj _ rfl:∀ W (j:Nat) (x:Int),_)
  clear r0 r1 r2 k6 K5 K6 hA hw7 a0 a1 a2 z7 k7 K7 z6
  go_upto_region 4 with fail
  rw [← (show _∧_ from HW7).1,← (show _∧_ from HW7).2]
  clear HW7
  have HA0:=(show ∀ W (j:Nat) (x:Int),_ from HAT) w7 0 0 (Kb.refl _ _) rfl (by omega)
  go_wp2_with fail
  refine HA0.mono ?_
  rintro e w8 ⟨rfl,k8⟩
  have HA1:=(show ∀ W (j:Nat) (x:Int),_ from HAT) w8 1 1 k8 rfl (by omega)
  have K8:Hid (Kb 0 w7 w8):=k8
  have f0:=fun W=>fld_val1 (zat F 0 0).k (zat F 0 0).m (zat F 0 0).x (zat F 0 0).r W
  clear HA0 k8 HAT
  go_wp2_with fail
  refine HA1.mono ?_
  rintro e w9 ⟨rfl,k9⟩
  have f1:=fun W=>fld_val1 (zat F 0 1).k (zat F 0 1).m (zat F 0 1).x (zat F 0 1).r W
  obtain ⟨p,hp⟩:∃ p,p=(zat F 0 0).m:=⟨_,rfl⟩
  obtain ⟨q,hq⟩:∃ q,q=(zat F 0 1).m:=⟨_,rfl⟩
  rw [← hp] at f0
  rw [← hq] at f1
  rw [← hp,← hq]
  have K9:Kb 0 w7 w9:=(show Kb 0 w7 w8 from K8).trans k9
  obtain ⟨B,hB⟩:∃ B,B=w9.heap.size:=⟨_,rfl⟩
  obtain ⟨w10,hw10⟩:∃ w10,w10=w9.alloc (.cells #[.slice none 0 0,.int .i64 p,.int .i64 q,.slice none 0 0] 26):=⟨_,rfl⟩
  have k10:Kb 0 w9 w10:=by rw [hw10];exact kb_alloc _ _ _
  have b10:w10.heap[B]? = some (.cells #[.slice none 0 0,.int .i64 p,.int .i64 q,.slice none 0 0] 26 (0,0)):=by rw [hw10,hB];exact alloc_new _ _ _
  obtain ⟨a0,a1,a2,k37,zA,z7⟩:=(show w7.heap[A]? = some (.cells #[.slice q0 (F 0).c d0] 83 (0,0))∧w7.heap[A+1]? = some (.cells #[.slice q1 (F 1).c d1] 83 (0,0))∧w7.heap[A+1+1]? = some (.cells #[.slice q2 (F 2).c d2] 83 (0,0))∧Kb 0 w3 w7∧w3.heap.size≤A∧w7.heap.size=A+3 from H7)
  have k710:=K9.trans k10
  have z9:=K9.size
  have l1:w10.cell? ⟨A+1,0,none⟩=some (.slice q1 (F 1).c d1):=cell_of (blk_kb a1 k710) rfl
  have HLJ:Hid (LJn w10 B p q (jpF F).S 0 (.slice none 0 0) w10):=(⟨⟨rfl,rfl,Nat.le_refl _,fun _ _ _=>rfl⟩,b10,World.ownsRow_nil _ _ _ _,blk_lt b10⟩:LJn _ _ _ _ _ _ _ _)
  have H10:Hid (Kb 0 w3 w10∧w10.heap[A+1+1]? = some (.cells #[.slice q2 (F 2).c d2] 83 (0,0))∧A+3≤B∧w3.heap.size≤A∧B < w10.heap.size):=(⟨k37.trans k710,blk_kb a2 k710,by omega,zA,blk_lt b10⟩:_∧_)
  have HW10:Hid (w10=w9.alloc (.cells #[.slice none 0 0,.int .i64 p,.int .i64 q,.slice none 0 0] 26)∧B=w9.heap.size):=(⟨hw10,hB⟩:_∧_)
  have HPQ:Hid (p=(jpF F).p∧q=(jpF F).q):=(⟨hp,hq⟩:_∧_)
  have hc1:((F 1).c:Int)≤300:=by have:=((show ∀ k,_ from HC) 1).1;omega
  have hc2:((F 2).c:Int)≤300:=by have:=((show ∀ k,_ from HC) 2).1;omega
  clear HA1 k9 K8 K9 hB hw10 k10 b10 a0 a1 a2 k37 zA z7 k710 z9 H7 hp hq
  go_upto_region 5 with fail
  rw [← (show _∧_ from HW10).1,← (show _∧_ from HW10).2]
  clear HW10 f0 f1
  go_wp2_with fail
  clear l1
  obtain ⟨n1,hn1⟩:∃ n1,n1=(F 1).c:=⟨_,rfl⟩
  have HN1:Hid (n1=(F 1).c):=hn1
  rw [← hn1] at hc1 HR ⊢
  clear hn1
  go_loopw [32] (fun s32 wr=>∃ (i:Nat) (v:Value),s32 = .int .i64 (i:Int)∧i≤n1∧Hid (LJn w10 B p q (jpF F).S i v wr)) (fun s32 _=>n1 - (intOf s32).toNat)
  case atStart=>exact ⟨0,_,rfl,Nat.zero_le _,HLJ⟩
  case round =>
    clear HLJ
    obtain ⟨i,v,rfl,hin,HX⟩:=hrel
    have hX:=(show LJn w10 B p q (jpF F).S i v wr from HX)
    obtain ⟨px,cx,rfl⟩:=own_shape hX.ow
    rcases Nat.lt_or_ge i n1 with hi | hi
    case inl =>
      have hiI:(i:Int) < (n1:Int):=by omega
      obtain ⟨-,hr1,-⟩:=(show RowW 0 w (.slice q0 (F 0).c d0) (F 0).c (F 0).C∧RowW 0 w (.slice q1 n1 d1) n1 (F 1).C∧_ from HR)
      obtain ⟨_,_,e0,hl⟩:=hr1
      injection e0 with e1 e2 e3
      subst e1 e3
      obtain ⟨ad,rfl,hca,-,hra⟩:=hl (by omega)
      obtain ⟨k03,-,-⟩:=(show Kb 0 w w3∧_ from H3)
      obtain ⟨k310,-,hB3,hA3,hBl⟩:=(show Kb 0 w3 w10∧_∧A+3≤B∧w3.heap.size≤A∧B < w10.heap.size from H10)
      have kwr:Kb 0 w wr:=kg_kbo hX.kg (k03.trans k310) (by have:=k03.size;omega)
      obtain ⟨z,hz⟩:∃ z,z=(F 1).C i:=⟨_,rfl⟩
      have hzS:(jpF F).S i=z.x:=by
        show (zat F 1 i).x = _
        unfold zat
        rw [if_pos (by rw [← (show n1 = _ from HN1)];exact hi),hz]
      obtain ⟨y0,y1,y2,y3⟩:=hra i hi
      rw [← hz] at y0 y1 y2 y3
      replace y0:=kwr.cell y0
      replace y1:=kwr.cell y1
      replace y2:=kwr.cell y2
      replace y3:=kwr.cell y3
      obtain ⟨wX,hwX⟩:∃ wX,wX=wr.alloc (.cells #[.int .i64 z.k,.int .i64 z.m,.string z.x,.int .i64 z.r] 41):=⟨_,rfl⟩
      have kX:Kb 0 wr wX:=by rw [hwX];exact kb_alloc _ _ _
      have bX:wX.heap[wr.heap.size]? = some (.cells #[.int .i64 z.k,.int .i64 z.m,.string z.x,.int .i64 z.r] 41 (0,0)):=by rw [hwX];exact alloc_new _ _ _
      have hY:=hX.kb kX
      have c0:wX.cell? ⟨B,0,none⟩=some (.slice px i cx):=cell_of hY.lb rfl
      have c2:wX.cell? ⟨wr.heap.size,2,none⟩=some (.string z.x):=cell_of bX rfl
      have HPU:Hid (∀ W w8 v',Kb 0 wX W→w8.ownsRow w10.heap.size 9 1 v' (i+1) (stl (jpF F).S i ++ [.string z.x])→W.grownBy w8 (Value.slice px i cx).ownBlock→w8.cell? ⟨B,0,none⟩=some (.slice px i cx)∧(∀ j,w8.frozen? ⟨B,j,none⟩=false)∧LJn w10 B p q (jpF F).S (i+1) v' (w8.setCell ⟨B,0,none⟩ v')):=(fun W w8 v' k ho hg=>⟨cell_of ((hY.kb k).grown hg).2 rfl,fun j=>frozen_of ((hY.kb k).grown hg).2,(hY.kb k).push (by rw [hzS];exact ho) hg⟩:∀ W w8 v',_)
      have HOW:Hid (wX.ownsRow w10.heap.size 9 1 (.slice px i cx) i (stl (jpF F).S i)∧w10.heap.size≤wX.heap.size):=(⟨hY.ow,hY.kg.size⟩:_∧_)
      obtain ⟨i0,hi0,hz0,hz1,hz2⟩:=info_parts infoSr
      have HI0:Hid (Try.prog.info? 9=some i0):=hi0
      have h1c:Hid (∀ y ∈ ([.string z.x]:List Value),y.oneCell'=true):=(by
        intro y hy
        simp only [List.mem_cons,List.not_mem_nil,or_false] at hy
        rw [hy]
        rfl:∀ y ∈ ([.string z.x]:List Value),y.oneCell'=true)
      have HQC:Hid (∀ (k:Nat) (y:Value),([.string z.x]:List Value)[k]? = some y→(wX.alloc (.cells #[.string z.x] 9)).cell? ((⟨wX.heap.size,0,none⟩:Addr).add k)=some y):=(qr_cells wX #[.string z.x] 9 [.string z.x] rfl:∀ (k:Nat) (y:Value),_)
      have HKA:Hid (∀ ob,Kb 0 wX (wX.alloc ob)):=(fun ob=>kb_alloc _ _ _:∀ ob,_)
      have HWX:Hid (wX=wr.alloc (.cells #[.int .i64 z.k,.int .i64 z.m,.string z.x,.int .i64 z.r] 41)):=hwX
      obtain ⟨LS0,hLS0⟩:∃ LS0,LS0=stl (jpF F).S i:=⟨_,rfl⟩
      rw [← hLS0] at HOW HPU
      have hic:i < 300:=by omega
      clear hX HX hi0 hi hl k03 k310 hB3 hA3 hBl kwr hz hra hwX kX bX hY hLS0 HV HC H3 H10 HPQ HN1 HR hzS hc2
      go_upto_region 8 with fail
      rw [← (show wX = _ from HWX)]
      clear HWX y0 y1 y2 y3
      go_wp2_with (refine wpList_append_own _ (by rfl) (.tmp 37) (.tmp 40) 23 (by rfl) w10.heap.size 9 i0 (.string ⟨#[]⟩) 1 16 Try.underlying23 HI0 hz0 hz1 hz2 rfl (by decide) (.slice px i cx) i LS0 (by rfl) ((show _∧_ from HOW).1.alloc _) ⟨wX.heap.size,0,none⟩ 1 1 [.string z.x] (by rfl) rfl (show ∀ (k:Nat) (y:Value),_ from HQC) (show ∀ y ∈ _,_ from h1c) (by unfold maxLen;omega) (by omega) (by have:=(show _∧_ from HOW).2;simp;omega) ?_;intro v' w8 hown1 hgrow1 _;obtain ⟨px',cx',rfl⟩:=own_shape hown1;obtain ⟨hS8,hf8,hLS8⟩:=(show ∀ W w8 v',Kb 0 wX W→_ from HPU) _ _ _ ((show ∀ ob,_ from HKA) _) hown1 hgrow1;replace hLS8:Hid (LJn w10 B p q (jpF F).S (i+1) (.slice px' (i+1) cx') (w8.setCell ⟨B,0,none⟩ (.slice px' (i+1) cx'))):=hLS8;clear HPU hown1 hgrow1 HOW HQC HKA c0)
      go_roundw
      case rel=>exact ⟨i+1,_,by go_num,by omega,hLS8⟩
      case measure=>simp [intOf];omega
    obtain rfl:i=n1:=by omega
    have hI1:¬ (i:Int) < (i:Int):=by omega
    obtain ⟨k03,hres,z03⟩:=(show Kb 0 w w3∧w3.heap[w.heap.size+1]? = some (.cells #[.slice none 0 0,.int .i64 0,.int .i64 0,.slice none 0 0] 26 (0,0))∧w3.heap.size=w.heap.size+3 from H3)
    obtain ⟨k310,bA2,hB3,hA3,hBl⟩:=(show Kb 0 w3 w10∧w10.heap[A+1+1]? = some (.cells #[.slice q2 (F 2).c d2] 83 (0,0))∧A+3≤B∧w3.heap.size≤A∧B < w10.heap.size from H10)
    have kg:=hX.kg
    have zk:=kg.size
    have kw11:Kb 0 w3 wr:=kg_kbo kg k310 (by omega)
    have l2:wr.cell? ⟨A+1+1,0,none⟩=some (.slice q2 (F 2).c d2):=cell_of ((kg.block _ (blk_lt bA2) (by omega)).trans bA2) rfl
    have HSJ:Hid (SJn wr B p q (.slice px i cx) (jpF F).T 0 (.slice none 0 0) wr):=(⟨⟨rfl,rfl,Nat.le_refl _,fun _ _ _=>rfl⟩,hX.lb,World.ownsRow_nil _ _ _ _,by omega⟩:SJn _ _ _ _ _ _ _ _ _)
    have H11:Hid (Kb 0 w3 wr∧w3.heap.size≤B∧B < wr.heap.size∧wr.ownsRow (B+1) 9 1 (.slice px i cx) i (stl (jpF F).S i)∧Kb 0 w w3∧w3.heap.size=w.heap.size+3∧wr.heap[w.heap.size+1]? = some (.cells #[.slice none 0 0,.int .i64 0,.int .i64 0,.slice none 0 0] 26 (0,0))∧i=(F 1).c):=(⟨kw11,by omega,by omega,own_base hX.ow (by omega),k03,z03,blk_kb hres kw11,HN1⟩:_∧_)
    obtain ⟨w11,rfl⟩:∃ w11,w11=wr:=⟨_,rfl⟩
    obtain ⟨n1,rfl⟩:∃ n1,n1=i:=⟨_,rfl⟩
    obtain ⟨pl,rfl⟩:∃ pl,pl=px:=⟨_,rfl⟩
    obtain ⟨cl,rfl⟩:∃ cl,cl=cx:=⟨_,rfl⟩
    clear hX HX k03 hres z03 k310 bA2 hB3 hA3 hBl kg zk kw11 hi hin H3 H10 HN1
    go_wp2_with fail
    clear l2
    obtain ⟨n2,hn2⟩:∃ n2,n2=(F 2).c:=⟨_,rfl⟩
    have HN2:Hid (n2=(F 2).c):=hn2
    rw [← hn2] at hc2 HR ⊢
    clear hn2
    go_loopw [47] (fun s47 wr=>∃ (i:Nat) (u:Value),s47 = .int .i64 (i:Int)∧i≤n2∧Hid (SJn w11 B p q (.slice pl n1 cl) (jpF F).T i u wr)) (fun s47 _=>n2 - (intOf s47).toNat)
    case atStart=>exact ⟨0,_,rfl,Nat.zero_le _,HSJ⟩
    case round =>
      clear HSJ
      obtain ⟨i,u,rfl,hin,HX⟩:=hrel
      have hX:=(show SJn w11 B p q (.slice pl n1 cl) (jpF F).T i u wr from HX)
      obtain ⟨px,cx,rfl⟩:=own_shape hX.ow
      rcases Nat.lt_or_ge i n2 with hi | hi
      case inl =>
        have hiI:(i:Int) < (n2:Int):=by omega
        obtain ⟨-,-,hr1⟩:=(show RowW 0 w (.slice q0 (F 0).c d0) (F 0).c (F 0).C∧RowW 0 w (.slice q1 n1 d1) n1 (F 1).C∧RowW 0 w (.slice q2 n2 d2) n2 (F 2).C from HR)
        obtain ⟨_,_,e0,hl⟩:=hr1
        injection e0 with e1 e2 e3
        subst e1 e3
        obtain ⟨ad,rfl,hca,-,hra⟩:=hl (by omega)
        obtain ⟨k311,hB3,hBl,-,k03,-,-⟩:=(show Kb 0 w3 w11∧w3.heap.size≤B∧B < w11.heap.size∧_∧Kb 0 w w3∧_∧_ from H11)
        have k3r:Kb 0 w3 wr:=kg_kbo hX.kg k311 hB3
        have kwr:Kb 0 w wr:=k03.trans k3r
        obtain ⟨z,hz⟩:∃ z,z=(F 2).C i:=⟨_,rfl⟩
        have hz2i:zat F 2 i=z:=by
          unfold zat
          rw [if_pos (by rw [← (show n2 = _ from HN2)];exact hi),hz]
        have hzr : 0≤z.r∧z.r≤600:=by
          have:=((show ∀ k,_ from HC) 2).2 i (by rw [← (show n2 = _ from HN2)];exact hi)
          rw [hz];exact this
        obtain ⟨k,hk⟩:∃ k,k=z.r.toNat:=⟨_,rfl⟩
        have hTi:(jpF F).T i=stF F k:=by
          show stF F (zat F 2 i).r.toNat = _
          rw [hz2i,hk]
        obtain ⟨t0,t1,t2,t3⟩:=hra i hi
        rw [← hz] at t0 t1 t2 t3
        replace t0:=kwr.cell t0
        replace t1:=kwr.cell t1
        replace t2:=kwr.cell t2
        replace t3:=kwr.cell t3
        obtain ⟨Y,hYe⟩:∃ Y,Y=wr.heap.size:=⟨_,rfl⟩
        obtain ⟨wX,hwX⟩:∃ wX,wX=wr.alloc (.cells #[.int .i64 z.k,.int .i64 z.m,.string z.x,.int .i64 z.r] 41):=⟨_,rfl⟩
        have kX:Kb 0 wr wX:=by rw [hwX];exact kb_alloc _ _ _
        have bX:wX.heap[Y]? = some (.cells #[.int .i64 z.k,.int .i64 z.m,.string z.x,.int .i64 z.r] 41 (0,0)):=by rw [hwX,hYe];exact alloc_new _ _ _
        have x3:wX.cell? ⟨Y,3,none⟩=some (.int .i64 z.r):=cell_of bX rfl
        have HVk:=(show ∀ W (k:Nat) (x:Int),_ from HV) wX k z.r (k3r.trans kX) (by omega) (by omega)
        have HY:Hid (SJn w11 B p q (.slice pl n1 cl) (jpF F).T i (.slice px i cx) wX∧Kb 0 w wX∧(F k).c≤300):=(⟨hX.kb kX,kwr.trans kX,((show ∀ k,_ from HC) k).1⟩:_∧_)
        have HWX:Hid (wX=wr.alloc (.cells #[.int .i64 z.k,.int .i64 z.m,.string z.x,.int .i64 z.r] 41)∧Y=wr.heap.size):=(⟨hwX,hYe⟩:_∧_)
        have HTI:Hid ((jpF F).T i=stF F k):=hTi
        have hic:i < 300:=by omega
        clear hX HX hl hra k311 hB3 hBl k03 k3r kwr hz hz2i hzr hk hTi hYe hwX kX bX HV HC HR H11 HPQ HN2 hi
        go_upto_region 13 with fail
        rw [← (show _∧_ from HWX).1,← (show _∧_ from HWX).2]
        clear HWX t0 t1 t2 t3
        go_wp2_with fail
        refine HVk.mono ?_
        rintro e w12 ⟨pc,cc,rfl,hrow,k12⟩
        clear HVk x3
        obtain ⟨hY,kwX,hck⟩:=(show SJn w11 B p q (.slice pl n1 cl) (jpF F).T i (.slice px i cx) wX∧Kb 0 w wX∧(F k).c≤300 from HY)
        obtain ⟨D,hD⟩:∃ D,D=w12.heap.size:=⟨_,rfl⟩
        obtain ⟨wS,hwS⟩:∃ wS,wS=w12.alloc (.cells #[.slice pc (F k).c cc] 83):=⟨_,rfl⟩
        have kS:Kb 0 w12 wS:=by rw [hwS];exact kb_alloc _ _ _
        have bS:wS.heap[D]? = some (.cells #[.slice pc (F k).c cc] 83 (0,0)):=by rw [hwS,hD];exact alloc_new _ _ _
        have hZ:=(hY.kb k12).kb kS
        have HAT:Hid (∀ W (j:Nat) (x:Int),Kb 0 wS W→x=(j:Int)→(j:Int)≤1048576→Calls Try.prog 45 #[.pointer (some ⟨D,0,none⟩),.int .i64 x] W fun e w'=>e = .returned (.agg #[.int .i64 (zat F k j).k,.int .i64 (zat F k j).m,.string (zat F k j).x,.int .i64 (zat F k j).r])∧Kb 0 W w'):=(fun W j x kk hx hj=>by
          rw [hx]
          exact at_val W (cell_of (blk_kb bS kk) rfl) (hrow.keep (((kwX.trans k12).trans kS).trans kk)) (by omega) hj _ rfl:∀ W (j:Nat) (x:Int),_)
        have HAT0:=fun W h=>(show ∀ W (j:Nat) (x:Int),_ from HAT) W 0 0 h rfl (by omega)
        have HAT1:=fun W h=>(show ∀ W (j:Nat) (x:Int),_ from HAT) W 1 1 h rfl (by omega)
        have HAT2:=fun W h=>(show ∀ W (j:Nat) (x:Int),_ from HAT) W 2 2 h rfl (by omega)
        have HAT3:=fun W h=>(show ∀ W (j:Nat) (x:Int),_ from HAT) W 3 3 h rfl (by omega)
        obtain ⟨y0,hy0⟩:∃ y,y=zat F k 0:=⟨_,rfl⟩
        obtain ⟨y1,hy1⟩:∃ y,y=zat F k 1:=⟨_,rfl⟩
        obtain ⟨y2,hy2⟩:∃ y,y=zat F k 2:=⟨_,rfl⟩
        obtain ⟨y3,hy3⟩:∃ y,y=zat F k 3:=⟨_,rfl⟩
        rw [← hy0] at HAT0
        rw [← hy1] at HAT1
        rw [← hy2] at HAT2
        rw [← hy3] at HAT3
        have hT4:([.int .i64 ((jpF F).T i).k,.int .i64 ((jpF F).T i).m,.int .i64 ((jpF F).T i).r,.string ((jpF F).T i).x]:List Value) = [.int .i64 y0.m,.int .i64 y1.m,.int .i64 y2.m,.string y3.x]:=by
          rw [show (jpF F).T i = _ from HTI]
          unfold stF
          rw [hy0,hy1,hy2,hy3]
        have HST:Hid (∀ W,Kb 0 wS W→W.cell? ⟨B,3,none⟩=some (.slice px i cx)∧W.ownsRow w11.heap.size 38 4 (.slice px i cx) i (sls (jpF F).T i)∧w11.heap.size≤W.heap.size):=(fun W kk=>⟨cell_of (hZ.kb kk).lb rfl,(hZ.kb kk).ow,(hZ.kb kk).kg.size⟩:∀ W,_)
        have HPU:Hid (∀ W w8 v',Kb 0 wS W→w8.ownsRow w11.heap.size 38 4 v' (i+1) (sls (jpF F).T i ++ [.int .i64 y0.m,.int .i64 y1.m,.int .i64 y2.m,.string y3.x])→W.grownBy w8 (Value.slice px i cx).ownBlock→w8.cell? ⟨B,3,none⟩=some (.slice px i cx)∧(∀ j,w8.frozen? ⟨B,j,none⟩=false)∧SJn w11 B p q (.slice pl n1 cl) (jpF F).T (i+1) v' (w8.setCell ⟨B,3,none⟩ v')):=(fun W w8 v' kk ho hg=>⟨cell_of ((hZ.kb kk).grown hg).2 rfl,fun j=>frozen_of ((hZ.kb kk).grown hg).2,(hZ.kb kk).push (by rw [hT4];exact ho) hg⟩:∀ W w8 v',_)
        obtain ⟨i0,hi0,hz0,hz1,hz2⟩:=info_parts infoSt
        have HI0:Hid (Try.prog.info? 38=some i0):=hi0
        have h1c:∀ y ∈ ([.int .i64 y0.m,.int .i64 y1.m,.int .i64 y2.m,.string y3.x]:List Value),y.oneCell'=true:=by
          intro y hy
          simp only [List.mem_cons,List.not_mem_nil,or_false] at hy
          rcases hy with rfl | rfl | rfl | rfl <;> rfl
        have HQC:Hid (∀ w6:World,∀ (k:Nat) (y:Value),([.int .i64 y0.m,.int .i64 y1.m,.int .i64 y2.m,.string y3.x]:List Value)[k]? = some y→(w6.alloc (.cells #[.int .i64 y0.m,.int .i64 y1.m,.int .i64 y2.m,.string y3.x] 38)).cell? ((⟨w6.heap.size,0,none⟩:Addr).add k)=some y):=(fun w6=>qr_cells w6 #[.int .i64 y0.m,.int .i64 y1.m,.int .i64 y2.m,.string y3.x] 38 [.int .i64 y0.m,.int .i64 y1.m,.int .i64 y2.m,.string y3.x] rfl:∀ w6:World,_)
        have HWS:Hid (wS=w12.alloc (.cells #[.slice pc (F k).c cc] 83)∧D=w12.heap.size):=(⟨hwS,hD⟩:_∧_)
        have f0:=fun W=>fld_val1 y0.k y0.m y0.x y0.r W
        have f1:=fun W=>fld_val1 y1.k y1.m y1.x y1.r W
        have f2:=fun W=>fld_val1 y2.k y2.m y2.x y2.r W
        have f3:=fun W=>fld_val2 y3.k y3.m y3.x y3.r W
        obtain ⟨LS0,hLS0⟩:∃ LS0,LS0=sls (jpF F).T i:=⟨_,rfl⟩
        rw [← hLS0] at HST HPU
        clear hY kwX hck hrow k12 hD hwS kS bS hZ HAT hy0 hy1 hy2 hy3 hT4 hi0 HTI HY hLS0
        go_upto_region 14 with fail
        rw [← (show _∧_ from HWS).1,← (show _∧_ from HWS).2]
        clear HWS
        refine AnyL.region (S:=fun W'=>W'.cell? ⟨B,3,none⟩=some (.slice px i cx)) (z:=14) (by kernel_rfl) ?_
        obtain ⟨VD,hVD⟩:∃ VD,VD=wS.drew:=⟨_,rfl⟩
        rw [← hVD]
        have KD:Hid (Kb 0 wS VD):=by rw [hVD];exact Kb.drew (Kb.refl _ _)
        have hS0:(fun W':World=>W'.cell? ⟨B,3,none⟩=some (.slice px i cx)) VD:=((show ∀ W,Kb 0 wS W→_ from HST) VD KD).1
        clear hVD
        refine AnyL.takeAt 0 (.pointer (some ⟨B,3,none⟩)) rfl (by kernel_rfl) (by kernel_rfl) (by kernel_rfl) (by kernel_rfl) (fun _ _ _ h=>h) rfl hS0 (by intro W hW;go_simp) ?_
        try simp only [Act.put,List.setIfInBounds_toArray,List.set_cons_zero,List.set_cons_succ]
        refine AnyL.takeAt 1 (.slice px i cx) rfl (by kernel_rfl) (by kernel_rfl) (by kernel_rfl) (by kernel_rfl) (fun _ _ _ h=>h) rfl hS0 (by intro W hW;go_simp) ?_
        try simp only [Act.put,List.setIfInBounds_toArray,List.set_cons_zero,List.set_cons_succ]
        refine AnyL.oneAt 2 rfl (by kernel_rfl) rfl ?_
        intro K hK
        go_simp
        refine (HAT0 VD KD).mono ?_
        rintro e x2 ⟨rfl,gk⟩
        have KX2:Hid (Kb 0 wS x2):=Kb.trans KD gk
        have hS2:=((show ∀ W,Kb 0 wS W→_ from HST) x2 KX2).1
        clear gk
        refine hK.out _ _ (fun _=>hS2) ?_
        clear hK K
        try simp only [Act.put,List.setIfInBounds_toArray,List.set_cons_zero,List.set_cons_succ]
        refine AnyL.takeAt 3 (.int .i64 y0.m) rfl (by kernel_rfl) (by kernel_rfl) (by kernel_rfl) (by kernel_rfl) (fun _ _ _ h=>h) rfl hS2 (by intro W hW;go_simp) ?_
        try simp only [Act.put,List.setIfInBounds_toArray,List.set_cons_zero,List.set_cons_succ]
        refine AnyL.oneAt 4 rfl (by kernel_rfl) rfl ?_
        intro K hK
        go_simp
        refine (HAT1 x2 KX2).mono ?_
        rintro e x4 ⟨rfl,gk⟩
        have KX4:Hid (Kb 0 wS x4):=Kb.trans KX2 gk
        have hS4:=((show ∀ W,Kb 0 wS W→_ from HST) x4 KX4).1
        clear gk
        refine hK.out _ _ (fun _=>hS4) ?_
        clear hK K
        try simp only [Act.put,List.setIfInBounds_toArray,List.set_cons_zero,List.set_cons_succ]
        refine AnyL.takeAt 5 (.int .i64 y1.m) rfl (by kernel_rfl) (by kernel_rfl) (by kernel_rfl) (by kernel_rfl) (fun _ _ _ h=>h) rfl hS4 (by intro W hW;go_simp) ?_
        try simp only [Act.put,List.setIfInBounds_toArray,List.set_cons_zero,List.set_cons_succ]
        refine AnyL.oneAt 6 rfl (by kernel_rfl) rfl ?_
        intro K hK
        go_simp
        refine (HAT2 x4 KX4).mono ?_
        rintro e x6 ⟨rfl,gk⟩
        have KX6:Hid (Kb 0 wS x6):=Kb.trans KX4 gk
        have hS6:=((show ∀ W,Kb 0 wS W→_ from HST) x6 KX6).1
        clear gk
        refine hK.out _ _ (fun _=>hS6) ?_
        clear hK K
        try simp only [Act.put,List.setIfInBounds_toArray,List.set_cons_zero,List.set_cons_succ]
        refine AnyL.takeAt 7 (.int .i64 y2.m) rfl (by kernel_rfl) (by kernel_rfl) (by kernel_rfl) (by kernel_rfl) (fun _ _ _ h=>h) rfl hS6 (by intro W hW;go_simp) ?_
        try simp only [Act.put,List.setIfInBounds_toArray,List.set_cons_zero,List.set_cons_succ]
        refine AnyL.oneAt 8 rfl (by kernel_rfl) rfl ?_
        intro K hK
        go_simp
        refine (HAT3 x6 KX6).mono ?_
        rintro e x8 ⟨rfl,gk⟩
        have KX8:Hid (Kb 0 wS x8):=Kb.trans KX6 gk
        have hS8:=((show ∀ W,Kb 0 wS W→_ from HST) x8 KX8).1
        clear gk
        refine hK.out _ _ (fun _=>hS8) ?_
        clear hK K
        try simp only [Act.put,List.setIfInBounds_toArray,List.set_cons_zero,List.set_cons_succ]
        refine AnyL.takeAt 9 (.string y3.x) rfl (by kernel_rfl) (by kernel_rfl) (by kernel_rfl) (by kernel_rfl) (fun _ _ _ h=>h) rfl hS8 (by intro W hW;go_simp) ?_
        try simp only [Act.put,List.setIfInBounds_toArray,List.set_cons_zero,List.set_cons_succ]
        refine AnyL.takeAt 10 (.agg #[.int .i64 y0.m,.int .i64 y1.m,.int .i64 y2.m,.string y3.x]) rfl (by kernel_rfl) (by kernel_rfl) (by kernel_rfl) (by kernel_rfl) (fun _ _ _ h=>h) rfl hS8 (by intro W hW;go_simp) ?_
        try simp only [Act.put,List.setIfInBounds_toArray,List.set_cons_zero,List.set_cons_succ]
        refine AnyL.oneAt 11 rfl (by kernel_rfl) rfl ?_
        intro K hK
        go_simp
        obtain ⟨-,hown8,h8z⟩:=(show ∀ W,Kb 0 wS W→_ from HST) x8 KX8
        have K7:∀ ob,Hid (Kb 0 wS (x8.alloc ob)):=fun ob=>Kb.alloc KX8 ob
        refine hK.out _ _ (fun _=>((show ∀ W,Kb 0 wS W→_ from HST) _ (K7 _)).1) ?_
        clear hK K
        try simp only [Act.put,List.setIfInBounds_toArray,List.set_cons_zero,List.set_cons_succ]
        refine AnyL.oneAt 12 rfl (by kernel_rfl) rfl ?_
        intro K hK
        refine wp_append_own _ (.tmp 56) (.tmp 66) 24 rfl w11.heap.size 38 i0 (.agg #[.int .i64 0,.int .i64 0,.int .i64 0,.string ⟨#[]⟩]) 4 40 Try.underlying24 HI0 hz0 hz1 hz2 rfl (by decide) (.slice px i cx) i LS0 rfl (hown8.alloc _) ⟨x8.heap.size,0,none⟩ 1 1 [.int .i64 y0.m,.int .i64 y1.m,.int .i64 y2.m,.string y3.x] rfl rfl ((show ∀ w6:World,_ from HQC) x8) h1c (by unfold maxLen;omega) (by omega) (by simp;omega) ?_
        intro v' w8 hown1 hgrow1 _
        obtain ⟨px',cx',rfl⟩:=own_shape hown1
        obtain ⟨hS9,hf9,hSJ⟩:=(show ∀ W w8 v',Kb 0 wS W→_ from HPU) _ _ _ (K7 _) hown1 hgrow1
        have HSJ:Hid (SJn w11 B p q (.slice pl n1 cl) (jpF F).T (i+1) (.slice px' (i+1) cx') (w8.setCell ⟨B,3,none⟩ (.slice px' (i+1) cx'))):=hSJ
        clear HPU hown1 hgrow1 hSJ hown8 K7 HST HQC
        refine hK.out _ _ (fun _=>hS9) ?_
        clear hK K
        try simp only [Act.put,List.setIfInBounds_toArray,List.set_cons_zero,List.set_cons_succ]
        first
        | (refine AnyL.takeAt 13 (.pointer (some ⟨B,3,none⟩)) rfl (by kernel_rfl) (by kernel_rfl) (by kernel_rfl) (by kernel_rfl) (fun _ _ _ h=>h) rfl hS9 (by intro W hW;go_simp) ?_)
        | skip
        try simp only [Act.put,List.setIfInBounds_toArray,List.set_cons_zero,List.set_cons_succ]
        refine AnyL.oneAt 14 rfl (by kernel_rfl) rfl ?_
        intro K hK
        go_simp
        refine hK.out _ _ (fun h=>absurd rfl h) ?_
        clear hK K hS9 hf9
        try simp only [Act.put,List.setIfInBounds_toArray,List.set_cons_zero,List.set_cons_succ]
        refine AnyL.done (by kernel_rfl) ?_
        go_wp2_with fail
        go_roundw
        case rel=>exact ⟨i+1,_,by go_num,by omega,HSJ⟩
        case measure=>simp [intOf];omega
      obtain rfl:i=n2:=by omega
      have hI2:¬ (i:Int) < (i:Int):=by omega
      obtain ⟨k311,hB3,hBl,ow1,k03,z03,hres,en1⟩:=(show Kb 0 w3 w11∧w3.heap.size≤B∧B < w11.heap.size∧w11.ownsRow (B+1) 9 1 (.slice pl n1 cl) n1 (stl (jpF F).S n1)∧Kb 0 w w3∧w3.heap.size=w.heap.size+3∧w11.heap[w.heap.size+1]? = some (.cells #[.slice none 0 0,.int .i64 0,.int .i64 0,.slice none 0 0] 26 (0,0))∧n1=(F 1).c from H11)
      have kg:=hX.kg
      have zk:=kg.size
      have G9:wr.heap[w.heap.size+1]? = some (.cells #[.slice none 0 0,.int .i64 0,.int .i64 0,.slice none 0 0] 26 (0,0)):=(kg.block _ (blk_lt hres) (by omega)).trans hres
      have ow1r:wr.ownsRow (B+1) 9 1 (.slice pl n1 cl) n1 (stl (jpF F).S n1):=own_keep ow1 (fun g e=>kg.block g (ow1.lt g e).2 (by have:=(ow1.lt g e).1;omega))
      have c0:wr.cell? ⟨B,0,none⟩=some (.slice pl n1 cl):=cell_of hX.lb rfl
      have c1:wr.cell? ⟨B,1,none⟩=some (.int .i64 p):=cell_of hX.lb rfl
      have c2:wr.cell? ⟨B,2,none⟩=some (.int .i64 q):=cell_of hX.lb rfl
      have c3:wr.cell? ⟨B,3,none⟩=some (.slice px i cx):=cell_of hX.lb rfl
      have g0:wr.cell? ⟨w.heap.size+1,0,none⟩=some (.slice none 0 0):=cell_of G9 rfl
      have g1:wr.cell? ⟨w.heap.size+1,1,none⟩=some (.int .i64 0):=cell_of G9 rfl
      have g2:wr.cell? ⟨w.heap.size+1,2,none⟩=some (.int .i64 0):=cell_of G9 rfl
      have g3:wr.cell? ⟨w.heap.size+1,3,none⟩=some (.slice none 0 0):=cell_of G9 rfl
      have gz:∀ j,wr.frozen? ⟨w.heap.size+1,j,none⟩=false:=fun j=>frozen_of G9
      obtain ⟨WF,hWF⟩:∃ WF,WF=(((wr.setCell ⟨w.heap.size+1,0,none⟩ (.slice pl n1 cl)).setCell ⟨w.heap.size+1,1,none⟩ (.int .i64 p)).setCell ⟨w.heap.size+1,2,none⟩ (.int .i64 q)).setCell ⟨w.heap.size+1,3,none⟩ (.slice px i cx):=⟨_,rfl⟩
      have t1:(wr.setCell ⟨w.heap.size+1,0,none⟩ (.slice pl n1 cl)).heap[w.heap.size+1]? = some (.cells #[.slice pl n1 cl,.int .i64 0,.int .i64 0,.slice none 0 0] 26 (0,0)):=set_known _ G9
      have t2:((wr.setCell ⟨w.heap.size+1,0,none⟩ (.slice pl n1 cl)).setCell ⟨w.heap.size+1,1,none⟩ (.int .i64 p)).heap[w.heap.size+1]? = some (.cells #[.slice pl n1 cl,.int .i64 p,.int .i64 0,.slice none 0 0] 26 (0,0)):=set_known _ t1
      have t3:(((wr.setCell ⟨w.heap.size+1,0,none⟩ (.slice pl n1 cl)).setCell ⟨w.heap.size+1,1,none⟩ (.int .i64 p)).setCell ⟨w.heap.size+1,2,none⟩ (.int .i64 q)).heap[w.heap.size+1]? = some (.cells #[.slice pl n1 cl,.int .i64 p,.int .i64 q,.slice none 0 0] 26 (0,0)):=set_known _ t2
      have bF:WF.heap[w.heap.size+1]? = some (.cells #[.slice pl n1 cl,.int .i64 p,.int .i64 q,.slice px i cx] 26 (0,0)):=by rw [hWF];exact set_known _ t3
      have e0:WF.cell? ⟨w.heap.size+1,0,none⟩=some (.slice pl n1 cl):=cell_of bF rfl
      have e1:WF.cell? ⟨w.heap.size+1,1,none⟩=some (.int .i64 p):=cell_of bF rfl
      have e2:WF.cell? ⟨w.heap.size+1,2,none⟩=some (.int .i64 q):=cell_of bF rfl
      have e3:WF.cell? ⟨w.heap.size+1,3,none⟩=some (.slice px i cx):=cell_of bF rfl
      have HFF:Hid (p=(jpF F).p∧q=(jpF F).q∧Jx (jpF F) w.heap.size WF (.slice pl n1 cl) (.slice px i cx)∧Kb 0 w WF):=(by
        have fr:∀ g,g ≠ w.heap.size+1→WF.heap[g]? = wr.heap[g]?:=fun g h1=>by
          rw [hWF,Below.heap_setCell _ _ _ _ h1,Below.heap_setCell _ _ _ _ h1,Below.heap_setCell _ _ _ _ h1,Below.heap_setCell _ _ _ _ h1]
        have zF:WF.heap.size=wr.heap.size:=by rw [hWF];simp
        have kwr:Kb 0 w wr:=k03.trans (kg_kbo kg k311 hB3)
        have en2:=(show i = _ from HN2)
        have o1:WF.ownsRow (w.heap.size+2) 9 1 (.slice pl n1 cl) (jpF F).n (stl (jpF F).S (jpF F).n):=by
          show WF.ownsRow (w.heap.size+2) 9 1 (.slice pl n1 cl) (F 1).c (stl (jpF F).S (F 1).c)
          rw [← en1]
          exact own_keep (own_base ow1r (by omega)) (fun g e=>fr g (by have:=(ow1r.lt g e).1;omega))
        have o2:WF.ownsRow (w.heap.size+2) 38 4 (.slice px i cx) (jpF F).m (sls (jpF F).T (jpF F).m):=by
          show WF.ownsRow (w.heap.size+2) 38 4 (.slice px i cx) (F 2).c (sls (jpF F).T (F 2).c)
          rw [← en2]
          exact own_keep (own_base hX.ow (by omega)) (fun g e=>fr g (by have:=(hX.ow.lt g e).1;omega))
        refine ⟨(show _∧_ from HPQ).1,(show _∧_ from HPQ).2,jx_of o1 o2 (by omega),⟨by rw [hWF];exact kwr.os,by rw [hWF];exact kwr.output,by rw [zF];exact kwr.size,fun g _ hg=>(fr g (by omega)).trans (kwr.block g (Nat.zero_le _) hg)⟩⟩:_∧_∧_∧_)
      have HWF:Hid (WF = _):=hWF
      clear hX HX k311 hB3 hBl ow1 k03 z03 hres en1 kg zk G9 ow1r hWF t1 t2 t3 bF H11 HN2 HPQ HV HC HR hi hin
      obtain ⟨h1,h2,h3,h4⟩:=(show p=(jpF F).p∧q=(jpF F).q∧Jx (jpF F) w.heap.size WF (.slice pl n1 cl) (.slice px i cx)∧Kb 0 w WF from HFF)
      have HF2:Hid (∃ v u,(Value.agg #[.slice pl n1 cl,.int .i64 p,.int .i64 q,.slice px i cx]) = .agg #[v,.int .i64 (jpF F).p,.int .i64 (jpF F).q,u]∧Jx (jpF F) w.heap.size WF v u∧Kb 0 w WF):=(⟨_,_,by rw [h1,h2],h3,h4⟩:∃ v u,_)
      clear h1 h2 h3 h4 HFF
      go_wp2_with fail
      rw [← (show WF = _ from HWF)]
      clear HWF
      refine bodyPost_ret (by simp [results,Try.results21,go_sem,e0,e1,e2,e3];rfl) rfl ?_
      obtain ⟨v,u,h1,h2,h3⟩:=(show ∃ v u,_ from HF2)
      exact ⟨v,u,by rw [← h1],h2,h3⟩
end Go.Proofs.Ytamcnmnaadpfoaa.Fo
